/-
  Processors (spec, chapter 4): is a processor right?
-/
import Derived.Test.YtflekodaiejflaaGreatDoorL00
import Derived.Laws.MakeOwn
import Derived.Maps.AppendAt
import Derived.Laws.AppendOwn
namespace Go.Proofs.YtflekodaiejflaaGreatDoor
open Go.RowKit Go.Joins
set_option linter.unusedVariables false
set_option linter.unusedSimpArgs false

/-- what the long test says, and the world behind it -/
def HeadB (x : Bool) (N : Nat) (W : World) (w' : World) : Prop := Below N W w'

set_option maxRecDepth 100000 in
set_option maxHeartbeats 8000000 in
theorem spProcOk_any (a b c : Int) {v : Value} {n : Nat} {f : Slots} (l e d : Int) {w : World} (hn : n ≤ 1048576) (h : RowAt w v n f) :
    Calls Tryz.prog 125 #[.agg #[.int .i64 a, .int .i64 b, .int .i64 c], prV v l e d] w fun x w' => x = .returned (.bool (procOkB a b c f n l e d)) ∧ Below w.heap.size w w' := by
  have k0 := ((Below.refl w.heap.size w).alloc (Nat.le_refl _) (.cells #[.int .i64 a, .int .i64 b, .int .i64 c] 46)).alloc (by simp) (.cells #[v, .int .i64 l, .int .i64 e, .int .i64 d] 83)
  have HR := Lib.hid (h.below k0)
  have HX := Lib.hid (show ((w.alloc (.cells #[.int .i64 a, .int .i64 b, .int .i64 c] 46)).alloc (.cells #[v, .int .i64 l, .int .i64 e, .int .i64 d] 83)).heap[w.heap.size + 1]? = some (.cells #[v, .int .i64 l, .int .i64 e, .int .i64 d] 83 (0, 0)) by
    have := heap_alloc_new (w.alloc (.cells #[.int .i64 a, .int .i64 b, .int .i64 c] 46)) (.cells #[v, .int .i64 l, .int .i64 e, .int .i64 d] 83)
    simpa using this)
  obtain ⟨va, vc, hv⟩ := h.form
  clear h
  subst hv
  cases h1 : planB a b c
  · rw [show procOkB a b c f n l e d = false by simp [procOkB, h1]]
    go_enter Tryz.func125, Tryz.ntmps125
    go_wp2_with (first
        | (go_at_call 90; refine (spPlanOk_any _ _ _ _).mono ?_; rintro x w1 ⟨rfl, hb⟩; have hr1 := HR.out.below hb; obtain ⟨hc, hf⟩ := bcell hb)
        | (go_at_call 141; refine (spHeapOk_any f hn hr1).mono ?_; rintro x w2 ⟨m1, rfl, rfl⟩)
        | (go_at_call 65; refine (l1Worker_any _ _ _ _ _).mono ?_; rintro x w3 ⟨rfl, hb3⟩; have hb4 := (b_drewN hb m1).trans (hb3.mono (b_drewN hb m1).size); obtain ⟨hc3, hf3⟩ := bcell hb4)
        | (go_at_call 97; refine (l1Time_any _ _).mono ?_; rintro x w' ⟨rfl, rfl⟩)
        | (go_at_call 91; refine (l1In_any _ _ _ _).mono ?_; rintro x w' ⟨rfl, rfl⟩))
    go_ret
    exact ⟨by simp, k0.trans ((hb).mono k0.size)⟩
  cases h2 : heapB f n
  · rw [show procOkB a b c f n l e d = false by simp [procOkB, h1, h2]]
    go_enter Tryz.func125, Tryz.ntmps125
    go_wp2_with (first
        | (go_at_call 90; refine (spPlanOk_any _ _ _ _).mono ?_; rintro x w1 ⟨rfl, hb⟩; have hr1 := HR.out.below hb; obtain ⟨hc, hf⟩ := bcell hb)
        | (go_at_call 141; refine (spHeapOk_any f hn hr1).mono ?_; rintro x w2 ⟨m1, rfl, rfl⟩)
        | (go_at_call 65; refine (l1Worker_any _ _ _ _ _).mono ?_; rintro x w3 ⟨rfl, hb3⟩; have hb4 := (b_drewN hb m1).trans (hb3.mono (b_drewN hb m1).size); obtain ⟨hc3, hf3⟩ := bcell hb4)
        | (go_at_call 97; refine (l1Time_any _ _).mono ?_; rintro x w' ⟨rfl, rfl⟩)
        | (go_at_call 91; refine (l1In_any _ _ _ _).mono ?_; rintro x w' ⟨rfl, rfl⟩))
    go_ret
    exact ⟨by simp, k0.trans ((b_drewN hb _).mono k0.size)⟩
  by_cases hl : l = -1
  · subst hl
    by_cases he1 : e = -1
    · subst he1
      cases h5 : inB d 0 n
      · rw [show procOkB a b c f n (-1) (-1) d = false by simp [procOkB, h1, h2, h5]]
        skip
        go_enter Tryz.func125, Tryz.ntmps125
        go_wp2_with (first
            | (go_at_call 90; refine (spPlanOk_any _ _ _ _).mono ?_; rintro x w1 ⟨rfl, hb⟩; have hr1 := HR.out.below hb; obtain ⟨hc, hf⟩ := bcell hb)
            | (go_at_call 141; refine (spHeapOk_any f hn hr1).mono ?_; rintro x w2 ⟨m1, rfl, rfl⟩)
            | (go_at_call 65; refine (l1Worker_any _ _ _ _ _).mono ?_; rintro x w3 ⟨rfl, hb3⟩; have hb4 := (b_drewN hb m1).trans (hb3.mono (b_drewN hb m1).size); obtain ⟨hc3, hf3⟩ := bcell hb4)
            | (go_at_call 97; refine (l1Time_any _ _).mono ?_; rintro x w' ⟨rfl, rfl⟩)
            | (go_at_call 91; refine (l1In_any _ _ _ _).mono ?_; rintro x w' ⟨rfl, rfl⟩))
        go_ret
        exact ⟨by simp, k0.trans ((b_drewN hb m1).mono k0.size)⟩
      · have hall := Lib.hid (show procOkB a b c f n (-1) (-1) d = diffAll f n by simp [procOkB, h1, h2, h5])
        skip
        go_enter Tryz.func125, Tryz.ntmps125
        go_wp2_with (first
            | (go_at_call 90; refine (spPlanOk_any _ _ _ _).mono ?_; rintro x w1 ⟨rfl, hb⟩; have hr1 := HR.out.below hb; obtain ⟨hc, hf⟩ := bcell hb)
            | (go_at_call 141; refine (spHeapOk_any f hn hr1).mono ?_; rintro x w2 ⟨m1, rfl, rfl⟩)
            | (go_at_call 65; refine (l1Worker_any _ _ _ _ _).mono ?_; rintro x w3 ⟨rfl, hb3⟩; have hb4 := (b_drewN hb m1).trans (hb3.mono (b_drewN hb m1).size); obtain ⟨hc3, hf3⟩ := bcell hb4)
            | (go_at_call 97; refine (l1Time_any _ _).mono ?_; rintro x w' ⟨rfl, rfl⟩)
            | (go_at_call 91; refine (l1In_any _ _ _ _).mono ?_; rintro x w' ⟨rfl, rfl⟩))
        have hH := b_drewN hb m1
        have hXH := b_block hH HX.out (by simp)
        have hRH := HR.out.below hH
        have x0 := cell_of_block hXH 0
        clear hXH HR HX hb hr1 hc hf
        generalize hwq : w1.drewN m1 = wq at *
        clear hwq
        have kq := k0.trans (hH.mono k0.size)
        clear hH k0
        rcases hRH with ⟨h0, a5, cap5, hv5⟩ | ⟨b5, off5, cap5, hv5, hl5, hc5⟩
        · subst h0
          refine wp_loop_rounds 1 ?_
          rw [rounds_succ]
          go_wp2
          go_ret
          exact ⟨ret_bool hall.out.symm, kq⟩
        · injection hv5 with e1 e2 e3
          subst e1 e3
          have H5 := Lib.hid hc5
          clear hc5 e2
          go_loopw [5] (fun i wr => ∃ (k m : Nat), k ≤ n ∧ i = .int .i64 k ∧ wr = wq.drewN m ∧ Hid (diffAll f k = true)) (fun i _ => n - (intOf i).toNat)
          case atStart => exact ⟨0, 0, Nat.zero_le _, rfl, rfl, Lib.hid rfl⟩
          case round =>
            obtain ⟨k, m, hk, rfl, rfl, hdk⟩ := hrel
            by_cases hkn : k < n
            · have hkn' : (k : Int) < (n : Int) := by omega
              have ck := (H5.out k hkn).1
              go_wp2_with fail
              go_loopw [6] (fun j wi => ∃ (q m' : Nat), q ≤ k ∧ j = .int .i64 q ∧ wi = wq.drewN m' ∧ Hid (diffTo f k q = true)) (fun j _ => k - (intOf j).toNat)
              case atStart => exact ⟨0, m, Nat.zero_le _, rfl, rfl, Lib.hid rfl⟩
              case round =>
                obtain ⟨q, m', hq, rfl, rfl, hdq⟩ := hrel
                by_cases hqk : q < k
                · have hqk' : (q : Int) < (k : Int) := by omega
                  have hqn' : (q : Int) < (n : Int) := by omega
                  have cq := (H5.out q (by omega)).1
                  by_cases he : (f k).1 = (f q).1
                  · have hd : ((f k).1 == (f q).1) = true := by simpa using he
                    have hbad := Lib.hid (hall.out.trans (diff_found hkn hqk he))
                    clear he
                    go_wp2_with fail
                    go_quiet (fail)
                    go_wp2
                    simp only [World.drewN_drewN]
                    go_ret
                    exact ⟨ret_bool hbad.out.symm, b_drewN kq _⟩
                  · have hd : ((f k).1 == (f q).1) = false := by simpa using he
                    have hnext := Lib.hid (show diffTo f k (q + 1) = true by rw [diffTo, hdq.out, hd]; rfl)
                    clear he
                    go_wp2_with fail
                    go_quiet (fail)
                    go_wp2
                    try simp only [World.drewN_drewN]
                    exact ⟨⟨q + 1, _, by omega, by go_num, rfl, hnext⟩, by simp [intOf]; omega⟩
                · have hqe : q = k := by omega
                  have hnext := Lib.hid (show diffAll f (k + 1) = true by rw [diffAll, hdk.out]; rw [hqe] at hdq; exact hdq.out)
                  have hqk' : ¬ (q : Int) < (k : Int) := by omega
                  have hdd : decide (q < k) = false := by simp; omega
                  clear hqe
                  go_wp2
                  exact ⟨⟨k + 1, _, by omega, by go_num, rfl, hnext⟩, by simp [intOf]; omega⟩
            · have hkn' : ¬ (k : Int) < (n : Int) := by omega
              have hdd : decide (k < n) = false := by simp; omega
              have hgood := Lib.hid (hall.out.trans (show diffAll f n = true by rw [show n = k by omega]; exact hdk.out))
              go_wp2
              go_ret
              exact ⟨ret_bool hgood.out.symm, b_drewN kq _⟩
    · have me : (e != -1) = true := by simpa using he1
      cases h4 : inB e 0 1000000000
      · rw [show procOkB a b c f n  (-1) e d = false by simp [procOkB, h1, h2, h4, he1]]
        clear he1
        go_enter Tryz.func125, Tryz.ntmps125
        go_wp2_with (first
            | (go_at_call 90; refine (spPlanOk_any _ _ _ _).mono ?_; rintro x w1 ⟨rfl, hb⟩; have hr1 := HR.out.below hb; obtain ⟨hc, hf⟩ := bcell hb)
            | (go_at_call 141; refine (spHeapOk_any f hn hr1).mono ?_; rintro x w2 ⟨m1, rfl, rfl⟩)
            | (go_at_call 65; refine (l1Worker_any _ _ _ _ _).mono ?_; rintro x w3 ⟨rfl, hb3⟩; have hb4 := (b_drewN hb m1).trans (hb3.mono (b_drewN hb m1).size); obtain ⟨hc3, hf3⟩ := bcell hb4)
            | (go_at_call 97; refine (l1Time_any _ _).mono ?_; rintro x w' ⟨rfl, rfl⟩)
            | (go_at_call 91; refine (l1In_any _ _ _ _).mono ?_; rintro x w' ⟨rfl, rfl⟩))
        go_ret
        exact ⟨by simp, k0.trans ((b_drewN hb m1).mono k0.size)⟩
      · cases h5 : inB d 0 n
        · rw [show procOkB a b c f n  (-1) e d = false by simp [procOkB, h1, h2, h4, h5]]
          clear he1
          go_enter Tryz.func125, Tryz.ntmps125
          go_wp2_with (first
              | (go_at_call 90; refine (spPlanOk_any _ _ _ _).mono ?_; rintro x w1 ⟨rfl, hb⟩; have hr1 := HR.out.below hb; obtain ⟨hc, hf⟩ := bcell hb)
              | (go_at_call 141; refine (spHeapOk_any f hn hr1).mono ?_; rintro x w2 ⟨m1, rfl, rfl⟩)
              | (go_at_call 65; refine (l1Worker_any _ _ _ _ _).mono ?_; rintro x w3 ⟨rfl, hb3⟩; have hb4 := (b_drewN hb m1).trans (hb3.mono (b_drewN hb m1).size); obtain ⟨hc3, hf3⟩ := bcell hb4)
              | (go_at_call 97; refine (l1Time_any _ _).mono ?_; rintro x w' ⟨rfl, rfl⟩)
              | (go_at_call 91; refine (l1In_any _ _ _ _).mono ?_; rintro x w' ⟨rfl, rfl⟩))
          go_ret
          exact ⟨by simp, k0.trans ((b_drewN hb m1).mono k0.size)⟩
        · have hall := Lib.hid (show procOkB a b c f n  (-1) e d = diffAll f n by simp [procOkB, h1, h2, h4, h5])
          clear he1
          go_enter Tryz.func125, Tryz.ntmps125
          go_wp2_with (first
              | (go_at_call 90; refine (spPlanOk_any _ _ _ _).mono ?_; rintro x w1 ⟨rfl, hb⟩; have hr1 := HR.out.below hb; obtain ⟨hc, hf⟩ := bcell hb)
              | (go_at_call 141; refine (spHeapOk_any f hn hr1).mono ?_; rintro x w2 ⟨m1, rfl, rfl⟩)
              | (go_at_call 65; refine (l1Worker_any _ _ _ _ _).mono ?_; rintro x w3 ⟨rfl, hb3⟩; have hb4 := (b_drewN hb m1).trans (hb3.mono (b_drewN hb m1).size); obtain ⟨hc3, hf3⟩ := bcell hb4)
              | (go_at_call 97; refine (l1Time_any _ _).mono ?_; rintro x w' ⟨rfl, rfl⟩)
              | (go_at_call 91; refine (l1In_any _ _ _ _).mono ?_; rintro x w' ⟨rfl, rfl⟩))
          have hH := b_drewN hb m1
          have hXH := b_block hH HX.out (by simp)
          have hRH := HR.out.below hH
          have x0 := cell_of_block hXH 0
          clear hXH HR HX hb hr1 hc hf
          generalize hwq : w1.drewN m1 = wq at *
          clear hwq
          have kq := k0.trans (hH.mono k0.size)
          clear hH k0
          rcases hRH with ⟨h0, a5, cap5, hv5⟩ | ⟨b5, off5, cap5, hv5, hl5, hc5⟩
          · subst h0
            refine wp_loop_rounds 1 ?_
            rw [rounds_succ]
            go_wp2
            go_ret
            exact ⟨ret_bool hall.out.symm, kq⟩
          · injection hv5 with e1 e2 e3
            subst e1 e3
            have H5 := Lib.hid hc5
            clear hc5 e2
            go_loopw [5] (fun i wr => ∃ (k m : Nat), k ≤ n ∧ i = .int .i64 k ∧ wr = wq.drewN m ∧ Hid (diffAll f k = true)) (fun i _ => n - (intOf i).toNat)
            case atStart => exact ⟨0, 0, Nat.zero_le _, rfl, rfl, Lib.hid rfl⟩
            case round =>
              obtain ⟨k, m, hk, rfl, rfl, hdk⟩ := hrel
              by_cases hkn : k < n
              · have hkn' : (k : Int) < (n : Int) := by omega
                have ck := (H5.out k hkn).1
                go_wp2_with fail
                go_loopw [6] (fun j wi => ∃ (q m' : Nat), q ≤ k ∧ j = .int .i64 q ∧ wi = wq.drewN m' ∧ Hid (diffTo f k q = true)) (fun j _ => k - (intOf j).toNat)
                case atStart => exact ⟨0, m, Nat.zero_le _, rfl, rfl, Lib.hid rfl⟩
                case round =>
                  obtain ⟨q, m', hq, rfl, rfl, hdq⟩ := hrel
                  by_cases hqk : q < k
                  · have hqk' : (q : Int) < (k : Int) := by omega
                    have hqn' : (q : Int) < (n : Int) := by omega
                    have cq := (H5.out q (by omega)).1
                    by_cases he : (f k).1 = (f q).1
                    · have hd : ((f k).1 == (f q).1) = true := by simpa using he
                      have hbad := Lib.hid (hall.out.trans (diff_found hkn hqk he))
                      clear he
                      go_wp2_with fail
                      go_quiet (fail)
                      go_wp2
                      simp only [World.drewN_drewN]
                      go_ret
                      exact ⟨ret_bool hbad.out.symm, b_drewN kq _⟩
                    · have hd : ((f k).1 == (f q).1) = false := by simpa using he
                      have hnext := Lib.hid (show diffTo f k (q + 1) = true by rw [diffTo, hdq.out, hd]; rfl)
                      clear he
                      go_wp2_with fail
                      go_quiet (fail)
                      go_wp2
                      try simp only [World.drewN_drewN]
                      exact ⟨⟨q + 1, _, by omega, by go_num, rfl, hnext⟩, by simp [intOf]; omega⟩
                  · have hqe : q = k := by omega
                    have hnext := Lib.hid (show diffAll f (k + 1) = true by rw [diffAll, hdk.out]; rw [hqe] at hdq; exact hdq.out)
                    have hqk' : ¬ (q : Int) < (k : Int) := by omega
                    have hdd : decide (q < k) = false := by simp; omega
                    clear hqe
                    go_wp2
                    exact ⟨⟨k + 1, _, by omega, by go_num, rfl, hnext⟩, by simp [intOf]; omega⟩
              · have hkn' : ¬ (k : Int) < (n : Int) := by omega
                have hdd : decide (k < n) = false := by simp; omega
                have hgood := Lib.hid (hall.out.trans (show diffAll f n = true by rw [show n = k by omega]; exact hdk.out))
                go_wp2
                go_ret
                exact ⟨ret_bool hgood.out.symm, b_drewN kq _⟩
  · have ml : (l != -1) = true := by simpa using hl
    cases h3 : workB a b c l
    · rw [show procOkB a b c f n l e d = false by simp [procOkB, h1, h2, h3, hl]]
      clear hl
      go_enter Tryz.func125, Tryz.ntmps125
      go_wp2_with (first
          | (go_at_call 90; refine (spPlanOk_any _ _ _ _).mono ?_; rintro x w1 ⟨rfl, hb⟩; have hr1 := HR.out.below hb; obtain ⟨hc, hf⟩ := bcell hb)
          | (go_at_call 141; refine (spHeapOk_any f hn hr1).mono ?_; rintro x w2 ⟨m1, rfl, rfl⟩)
          | (go_at_call 65; refine (l1Worker_any _ _ _ _ _).mono ?_; rintro x w3 ⟨rfl, hb3⟩; have hb4 := (b_drewN hb m1).trans (hb3.mono (b_drewN hb m1).size); obtain ⟨hc3, hf3⟩ := bcell hb4)
          | (go_at_call 97; refine (l1Time_any _ _).mono ?_; rintro x w' ⟨rfl, rfl⟩)
          | (go_at_call 91; refine (l1In_any _ _ _ _).mono ?_; rintro x w' ⟨rfl, rfl⟩))
      go_ret
      exact ⟨by simp, k0.trans ((hb4).mono k0.size)⟩
    · by_cases he1 : e = -1
      · subst he1
        cases h5 : inB d 0 n
        · rw [show procOkB a b c f n l (-1) d = false by simp [procOkB, h1, h2, h3, h5]]
          clear hl
          go_enter Tryz.func125, Tryz.ntmps125
          go_wp2_with (first
              | (go_at_call 90; refine (spPlanOk_any _ _ _ _).mono ?_; rintro x w1 ⟨rfl, hb⟩; have hr1 := HR.out.below hb; obtain ⟨hc, hf⟩ := bcell hb)
              | (go_at_call 141; refine (spHeapOk_any f hn hr1).mono ?_; rintro x w2 ⟨m1, rfl, rfl⟩)
              | (go_at_call 65; refine (l1Worker_any _ _ _ _ _).mono ?_; rintro x w3 ⟨rfl, hb3⟩; have hb4 := (b_drewN hb m1).trans (hb3.mono (b_drewN hb m1).size); obtain ⟨hc3, hf3⟩ := bcell hb4)
              | (go_at_call 97; refine (l1Time_any _ _).mono ?_; rintro x w' ⟨rfl, rfl⟩)
              | (go_at_call 91; refine (l1In_any _ _ _ _).mono ?_; rintro x w' ⟨rfl, rfl⟩))
          go_ret
          exact ⟨by simp, k0.trans ((hb4).mono k0.size)⟩
        · have hall := Lib.hid (show procOkB a b c f n l (-1) d = diffAll f n by simp [procOkB, h1, h2, h3, h5])
          clear hl
          go_enter Tryz.func125, Tryz.ntmps125
          go_wp2_with (first
              | (go_at_call 90; refine (spPlanOk_any _ _ _ _).mono ?_; rintro x w1 ⟨rfl, hb⟩; have hr1 := HR.out.below hb; obtain ⟨hc, hf⟩ := bcell hb)
              | (go_at_call 141; refine (spHeapOk_any f hn hr1).mono ?_; rintro x w2 ⟨m1, rfl, rfl⟩)
              | (go_at_call 65; refine (l1Worker_any _ _ _ _ _).mono ?_; rintro x w3 ⟨rfl, hb3⟩; have hb4 := (b_drewN hb m1).trans (hb3.mono (b_drewN hb m1).size); obtain ⟨hc3, hf3⟩ := bcell hb4)
              | (go_at_call 97; refine (l1Time_any _ _).mono ?_; rintro x w' ⟨rfl, rfl⟩)
              | (go_at_call 91; refine (l1In_any _ _ _ _).mono ?_; rintro x w' ⟨rfl, rfl⟩))
          have hH := hb4
          have hXH := b_block hH HX.out (by simp)
          have hRH := HR.out.below hH
          have x0 := cell_of_block hXH 0
          clear hXH HR HX hb hr1 hc hf hb3 hb4 hc3 hf3
          generalize hwq : w3 = wq at *
          clear hwq
          have kq := k0.trans (hH.mono k0.size)
          clear hH k0
          rcases hRH with ⟨h0, a5, cap5, hv5⟩ | ⟨b5, off5, cap5, hv5, hl5, hc5⟩
          · subst h0
            refine wp_loop_rounds 1 ?_
            rw [rounds_succ]
            go_wp2
            go_ret
            exact ⟨ret_bool hall.out.symm, kq⟩
          · injection hv5 with e1 e2 e3
            subst e1 e3
            have H5 := Lib.hid hc5
            clear hc5 e2
            go_loopw [5] (fun i wr => ∃ (k m : Nat), k ≤ n ∧ i = .int .i64 k ∧ wr = wq.drewN m ∧ Hid (diffAll f k = true)) (fun i _ => n - (intOf i).toNat)
            case atStart => exact ⟨0, 0, Nat.zero_le _, rfl, rfl, Lib.hid rfl⟩
            case round =>
              obtain ⟨k, m, hk, rfl, rfl, hdk⟩ := hrel
              by_cases hkn : k < n
              · have hkn' : (k : Int) < (n : Int) := by omega
                have ck := (H5.out k hkn).1
                go_wp2_with fail
                go_loopw [6] (fun j wi => ∃ (q m' : Nat), q ≤ k ∧ j = .int .i64 q ∧ wi = wq.drewN m' ∧ Hid (diffTo f k q = true)) (fun j _ => k - (intOf j).toNat)
                case atStart => exact ⟨0, m, Nat.zero_le _, rfl, rfl, Lib.hid rfl⟩
                case round =>
                  obtain ⟨q, m', hq, rfl, rfl, hdq⟩ := hrel
                  by_cases hqk : q < k
                  · have hqk' : (q : Int) < (k : Int) := by omega
                    have hqn' : (q : Int) < (n : Int) := by omega
                    have cq := (H5.out q (by omega)).1
                    by_cases he : (f k).1 = (f q).1
                    · have hd : ((f k).1 == (f q).1) = true := by simpa using he
                      have hbad := Lib.hid (hall.out.trans (diff_found hkn hqk he))
                      clear he
                      go_wp2_with fail
                      go_quiet (fail)
                      go_wp2
                      simp only [World.drewN_drewN]
                      go_ret
                      exact ⟨ret_bool hbad.out.symm, b_drewN kq _⟩
                    · have hd : ((f k).1 == (f q).1) = false := by simpa using he
                      have hnext := Lib.hid (show diffTo f k (q + 1) = true by rw [diffTo, hdq.out, hd]; rfl)
                      clear he
                      go_wp2_with fail
                      go_quiet (fail)
                      go_wp2
                      try simp only [World.drewN_drewN]
                      exact ⟨⟨q + 1, _, by omega, by go_num, rfl, hnext⟩, by simp [intOf]; omega⟩
                  · have hqe : q = k := by omega
                    have hnext := Lib.hid (show diffAll f (k + 1) = true by rw [diffAll, hdk.out]; rw [hqe] at hdq; exact hdq.out)
                    have hqk' : ¬ (q : Int) < (k : Int) := by omega
                    have hdd : decide (q < k) = false := by simp; omega
                    clear hqe
                    go_wp2
                    exact ⟨⟨k + 1, _, by omega, by go_num, rfl, hnext⟩, by simp [intOf]; omega⟩
              · have hkn' : ¬ (k : Int) < (n : Int) := by omega
                have hdd : decide (k < n) = false := by simp; omega
                have hgood := Lib.hid (hall.out.trans (show diffAll f n = true by rw [show n = k by omega]; exact hdk.out))
                go_wp2
                go_ret
                exact ⟨ret_bool hgood.out.symm, b_drewN kq _⟩
      · have me : (e != -1) = true := by simpa using he1
        cases h4 : inB e 0 1000000000
        · rw [show procOkB a b c f n l e d = false by simp [procOkB, h1, h2, h3, h4, he1]]
          clear he1 hl
          go_enter Tryz.func125, Tryz.ntmps125
          go_wp2_with (first
              | (go_at_call 90; refine (spPlanOk_any _ _ _ _).mono ?_; rintro x w1 ⟨rfl, hb⟩; have hr1 := HR.out.below hb; obtain ⟨hc, hf⟩ := bcell hb)
              | (go_at_call 141; refine (spHeapOk_any f hn hr1).mono ?_; rintro x w2 ⟨m1, rfl, rfl⟩)
              | (go_at_call 65; refine (l1Worker_any _ _ _ _ _).mono ?_; rintro x w3 ⟨rfl, hb3⟩; have hb4 := (b_drewN hb m1).trans (hb3.mono (b_drewN hb m1).size); obtain ⟨hc3, hf3⟩ := bcell hb4)
              | (go_at_call 97; refine (l1Time_any _ _).mono ?_; rintro x w' ⟨rfl, rfl⟩)
              | (go_at_call 91; refine (l1In_any _ _ _ _).mono ?_; rintro x w' ⟨rfl, rfl⟩))
          go_ret
          exact ⟨by simp, k0.trans ((hb4).mono k0.size)⟩
        · cases h5 : inB d 0 n
          · rw [show procOkB a b c f n l e d = false by simp [procOkB, h1, h2, h3, h4, h5]]
            clear he1 hl
            go_enter Tryz.func125, Tryz.ntmps125
            go_wp2_with (first
                | (go_at_call 90; refine (spPlanOk_any _ _ _ _).mono ?_; rintro x w1 ⟨rfl, hb⟩; have hr1 := HR.out.below hb; obtain ⟨hc, hf⟩ := bcell hb)
                | (go_at_call 141; refine (spHeapOk_any f hn hr1).mono ?_; rintro x w2 ⟨m1, rfl, rfl⟩)
                | (go_at_call 65; refine (l1Worker_any _ _ _ _ _).mono ?_; rintro x w3 ⟨rfl, hb3⟩; have hb4 := (b_drewN hb m1).trans (hb3.mono (b_drewN hb m1).size); obtain ⟨hc3, hf3⟩ := bcell hb4)
                | (go_at_call 97; refine (l1Time_any _ _).mono ?_; rintro x w' ⟨rfl, rfl⟩)
                | (go_at_call 91; refine (l1In_any _ _ _ _).mono ?_; rintro x w' ⟨rfl, rfl⟩))
            go_ret
            exact ⟨by simp, k0.trans ((hb4).mono k0.size)⟩
          · have hall := Lib.hid (show procOkB a b c f n l e d = diffAll f n by simp [procOkB, h1, h2, h3, h4, h5])
            clear he1 hl
            go_enter Tryz.func125, Tryz.ntmps125
            go_wp2_with (first
                | (go_at_call 90; refine (spPlanOk_any _ _ _ _).mono ?_; rintro x w1 ⟨rfl, hb⟩; have hr1 := HR.out.below hb; obtain ⟨hc, hf⟩ := bcell hb)
                | (go_at_call 141; refine (spHeapOk_any f hn hr1).mono ?_; rintro x w2 ⟨m1, rfl, rfl⟩)
                | (go_at_call 65; refine (l1Worker_any _ _ _ _ _).mono ?_; rintro x w3 ⟨rfl, hb3⟩; have hb4 := (b_drewN hb m1).trans (hb3.mono (b_drewN hb m1).size); obtain ⟨hc3, hf3⟩ := bcell hb4)
                | (go_at_call 97; refine (l1Time_any _ _).mono ?_; rintro x w' ⟨rfl, rfl⟩)
                | (go_at_call 91; refine (l1In_any _ _ _ _).mono ?_; rintro x w' ⟨rfl, rfl⟩))
            have hH := hb4
            have hXH := b_block hH HX.out (by simp)
            have hRH := HR.out.below hH
            have x0 := cell_of_block hXH 0
            clear hXH HR HX hb hr1 hc hf hb3 hb4 hc3 hf3
            generalize hwq : w3 = wq at *
            clear hwq
            have kq := k0.trans (hH.mono k0.size)
            clear hH k0
            rcases hRH with ⟨h0, a5, cap5, hv5⟩ | ⟨b5, off5, cap5, hv5, hl5, hc5⟩
            · subst h0
              refine wp_loop_rounds 1 ?_
              rw [rounds_succ]
              go_wp2
              go_ret
              exact ⟨ret_bool hall.out.symm, kq⟩
            · injection hv5 with e1 e2 e3
              subst e1 e3
              have H5 := Lib.hid hc5
              clear hc5 e2
              go_loopw [5] (fun i wr => ∃ (k m : Nat), k ≤ n ∧ i = .int .i64 k ∧ wr = wq.drewN m ∧ Hid (diffAll f k = true)) (fun i _ => n - (intOf i).toNat)
              case atStart => exact ⟨0, 0, Nat.zero_le _, rfl, rfl, Lib.hid rfl⟩
              case round =>
                obtain ⟨k, m, hk, rfl, rfl, hdk⟩ := hrel
                by_cases hkn : k < n
                · have hkn' : (k : Int) < (n : Int) := by omega
                  have ck := (H5.out k hkn).1
                  go_wp2_with fail
                  go_loopw [6] (fun j wi => ∃ (q m' : Nat), q ≤ k ∧ j = .int .i64 q ∧ wi = wq.drewN m' ∧ Hid (diffTo f k q = true)) (fun j _ => k - (intOf j).toNat)
                  case atStart => exact ⟨0, m, Nat.zero_le _, rfl, rfl, Lib.hid rfl⟩
                  case round =>
                    obtain ⟨q, m', hq, rfl, rfl, hdq⟩ := hrel
                    by_cases hqk : q < k
                    · have hqk' : (q : Int) < (k : Int) := by omega
                      have hqn' : (q : Int) < (n : Int) := by omega
                      have cq := (H5.out q (by omega)).1
                      by_cases he : (f k).1 = (f q).1
                      · have hd : ((f k).1 == (f q).1) = true := by simpa using he
                        have hbad := Lib.hid (hall.out.trans (diff_found hkn hqk he))
                        clear he
                        go_wp2_with fail
                        go_quiet (fail)
                        go_wp2
                        simp only [World.drewN_drewN]
                        go_ret
                        exact ⟨ret_bool hbad.out.symm, b_drewN kq _⟩
                      · have hd : ((f k).1 == (f q).1) = false := by simpa using he
                        have hnext := Lib.hid (show diffTo f k (q + 1) = true by rw [diffTo, hdq.out, hd]; rfl)
                        clear he
                        go_wp2_with fail
                        go_quiet (fail)
                        go_wp2
                        try simp only [World.drewN_drewN]
                        exact ⟨⟨q + 1, _, by omega, by go_num, rfl, hnext⟩, by simp [intOf]; omega⟩
                    · have hqe : q = k := by omega
                      have hnext := Lib.hid (show diffAll f (k + 1) = true by rw [diffAll, hdk.out]; rw [hqe] at hdq; exact hdq.out)
                      have hqk' : ¬ (q : Int) < (k : Int) := by omega
                      have hdd : decide (q < k) = false := by simp; omega
                      clear hqe
                      go_wp2
                      exact ⟨⟨k + 1, _, by omega, by go_num, rfl, hnext⟩, by simp [intOf]; omega⟩
                · have hkn' : ¬ (k : Int) < (n : Int) := by omega
                  have hdd : decide (k < n) = false := by simp; omega
                  have hgood := Lib.hid (hall.out.trans (show diffAll f n = true by rw [show n = k by omega]; exact hdk.out))
                  go_wp2
                  go_ret
                  exact ⟨ret_bool hgood.out.symm, b_drewN kq _⟩

end Go.Proofs.YtflekodaiejflaaGreatDoor

/-
  The laws' own helpers on lists of slots: copied out of the law's argument, compared, marked, looked at again.
-/
namespace Go.Proofs.YtflekodaiejflaaGreatDoor
open Go.RowKit Go.Joins
set_option linter.unusedVariables false
set_option linter.unusedSimpArgs false

set_option maxHeartbeats 400000 in
theorem toSlot_any (a b : Int) (w : World) :
    Calls Tryz.prog 100 #[.agg #[.int .i64 a, .int .i64 b]] w fun e w' => e = .returned (.agg #[.int .i64 a, .int .i64 b]) ∧ Below w.heap.size w w' := by
  go_enter Tryz.func100, Tryz.ntmps100
  go_wp2
  exact bodyPost_ret (v := .agg #[.int .i64 a, .int .i64 b]) (by simp [results, Tryz.results100, go_sem]) rfl ⟨rfl, (((Below.refl _ _).alloc (Nat.le_refl _) _).alloc (by simp) _).alloc (by simp; omega) _⟩

set_option maxHeartbeats 400000 in
theorem eqSlot_same (a b : Int) (w : World) :
    Calls Tryz.prog 120 #[.agg #[.int .i64 a, .int .i64 b], .agg #[.int .i64 a, .int .i64 b]] w fun e w' => e = .returned (.bool true) ∧ Below w.heap.size w w' := by
  go_enter Tryz.func120, Tryz.ntmps120
  go_wp2
  go_ret
  exact ⟨rfl, ((Below.refl _ _).alloc (Nat.le_refl _) _).alloc (by simp) _⟩

set_option maxHeartbeats 400000 in
theorem szSlotS_any {v : Value} {n : Nat} (hv : ∃ a cap, v = .slice a n cap) (left : Int) (w : World) (h0 : 0 ≤ left) (h1 : left ≤ 1048576) (hm : n ≤ maxLen) :
    Calls Tryz.prog 62 #[v, .int .i64 left] w fun e w' => e = .returned (.int .i64 (if left < (n : Int) then -1 else left - n)) ∧ w = w' := by
  obtain ⟨a, cap, rfl⟩ := hv
  unfold maxLen at hm
  by_cases h : left < (n : Int)
  · rw [if_pos h]
    go_enter Tryz.func62, Tryz.ntmps62
    go_wp2
    go_ret
    exact ⟨rfl, rfl⟩
  · rw [if_neg h]
    go_enter Tryz.func62, Tryz.ntmps62
    go_wp2
    go_ret
    exact ⟨rfl, rfl⟩

/-! ### copied out of the law's argument -/
theorem made_zero (n i : Nat) (hi : i < n) : (madeCells #[.int .i64 0, .int .i64 0] (n * 2))[i * 2]? = some (.int .i64 0) ∧ (madeCells #[.int .i64 0, .int .i64 0] (n * 2))[i * 2 + 1]? = some (.int .i64 0) := by
  constructor
  · rw [Array.getElem?_eq_getElem (by rw [size_madeCells]; omega)]
    simp [madeCells]
  · rw [Array.getElem?_eq_getElem (by rw [size_madeCells]; omega)]
    simp [madeCells]
theorem own_made (w : World) (n : Nat) (hn : n ≤ maxLen) : OwnAt (w.alloc (.cells (madeCells #[.int .i64 0, .int .i64 0] (n * 2)) 133)) w.heap.size w.heap.size n n (fun _ => (0, 0)) :=
  ⟨Nat.le_refl _, Nat.le_refl _, hn, _, heap_alloc_new w _, size_madeCells _ _, fun i hi => made_zero n i hi⟩

theorem run_make_slots (n : Nat) (hn : n ≤ 1048576) : ∀ w : World, (Instr.makeSlice 81 (.int .i64 (n : Int)) (.int .i64 (n : Int))).run Tryz.prog w = .ok (.slice (some ⟨w.heap.size, 0, none⟩) n n) (w.alloc (.cells (madeCells #[.int .i64 0, .int .i64 0] (n * 2)) 133)) := by
  intro w
  obtain ⟨i0, hi, hz, hs, hby⟩ := info_parts slot_info
  have hr := run_make (P := Tryz.prog) w 81 133 i0 _ Tryz.underlying81 hi hz .i64 .i64 (n : Int) (n : Int) (by omega) (by omega) (by rw [hby]; omega) (by omega)
  rw [hs] at hr
  simp only [Int.toNat_natCast] at hr
  exact hr

def upTo (f : Slots) (k : Nat) : Slots := fun i => if i < k then f i else (0, 0)
theorem upTo_put {f : Slots} {k n : Nat} : ∀ i, i < n → putF (upTo f k) k (f k) i = upTo f (k + 1) i := by
  intro i _
  unfold putF upTo
  by_cases e : i = k
  · subst e; simp
  · rw [if_neg e]
    by_cases h : i < k
    · rw [if_pos h, if_pos (by omega)]
    · rw [if_neg h, if_neg (by omega)]

set_option maxHeartbeats 400000 in
theorem toSlotS_any {v : Value} {n : Nat} {f : Slots} {w : World} (hn : n ≤ 1048576) (h : RowAt w v n f) :
    Calls Tryz.prog 70 #[v] w (NewRow n f w) := by
  have hmk := run_make_slots n hn
  have hO := own_made w n (by unfold maxLen; omega)
  have hb0 := (Below.refl w.heap.size w).alloc (Nat.le_refl _) (.cells (madeCells #[.int .i64 0, .int .i64 0] (n * 2)) 133)
  rcases h with ⟨h0, a, cap, hv⟩ | ⟨b, off, cap, rfl, hl, hc⟩
  · obtain rfl : v = .slice a n cap := by rw [hv, h0]
    have HO := Lib.hid (hO.congr (f' := f) (fun i hi => by omega))
    have HB := Lib.hid hb0
    have H0 := Lib.hid h0
    clear hO hb0 hv h0
    go_enter Tryz.func70, Tryz.ntmps70
    go_wp2
    go_loopw [4] (fun i wr => i = .int .i64 0 ∧ OwnAt wr w.heap.size w.heap.size n n f ∧ Below w.heap.size w wr) (fun _ _ => 0)
    case atStart => exact ⟨rfl, HO.out, HB.out⟩
    case round =>
      obtain ⟨rfl, hOk, hbk⟩ := hrel
      have h1 : ¬ (0 : Int) < (n : Int) := by have := H0.out; omega
      have h2 : ¬ 0 < n := by have := H0.out; omega
      go_wp2
      go_ret
      exact ⟨_, rfl, hOk.own, hbk⟩
  · have H := Lib.hid hc
    have HO := Lib.hid (hO.congr (f' := upTo f 0) (fun i hi => by simp [upTo]))
    have HB := Lib.hid hb0
    clear hc hO hb0
    go_enter Tryz.func70, Tryz.ntmps70
    go_wp2
    go_loopw [4] (fun i wr => ∃ k : Nat, k ≤ n ∧ i = .int .i64 k ∧ OwnAt wr w.heap.size w.heap.size n n (upTo f k) ∧ Below w.heap.size w wr) (fun i _ => n - (intOf i).toNat)
    case atStart => exact ⟨0, Nat.zero_le _, rfl, HO.out, HB.out⟩
    case round =>
      obtain ⟨k, hk, rfl, hOk, hbk⟩ := hrel
      by_cases hlt : k < n
      · have c0 := (hbk.cell (p := ⟨b, off + k * 2, none⟩) hl).trans (H.out k hlt).1
        have c1 := (hbk.cell (p := ⟨b, off + k * 2 + 1, none⟩) hl).trans (H.out k hlt).2
        have h1 : (k : Int) < (n : Int) := by omega
        go_wp2_with fail
        go_at_call 100; refine (toSlot_any _ _ _).mono ?_; rintro e w1 ⟨rfl, hb1⟩
        have hO1 := hOk.below hb1
        have hbk1 := btrans hbk hb1
        have fr := hO1.free
        have f0 := fr (k * 2)
        have f1 := fr (k * 2 + 1)
        obtain ⟨d0, d1⟩ := hO1.cells hlt
        clear hb1 fr c0 c1 hOk hbk
        go_wp2
        exact ⟨⟨k + 1, by omega, by go_num, (hO1.put hlt _ _).congr upTo_put, (hbk1.setCell (p := ⟨w.heap.size, k * 2, none⟩) (Nat.le_refl _) _).setCell (p := ⟨w.heap.size, k * 2 + 1, none⟩) (Nat.le_refl _) _⟩, by simp only [intOf]; omega⟩
      · have hkn : k = n := by omega
        subst hkn
        go_wp2
        go_ret
        exact ⟨_, rfl, (hOk.congr (fun i hi => by simp [upTo, hi])).own, hbk⟩

/-! ### compared -/
set_option maxHeartbeats 400000 in
theorem eqSlotS_same {v1 v2 : Value} {n : Nat} {f : Slots} {w : World} (hn : n ≤ 1048576) (h1 : RowAt w v1 n f) (h2 : RowAt w v2 n f) :
    Calls Tryz.prog 80 #[v1, v2] w fun e w' => e = .returned (.bool true) ∧ Below w.heap.size w w' := by
  by_cases h0 : n = 0
  · obtain ⟨a1, k1, rfl⟩ := h1.form
    obtain ⟨a2, k2, rfl⟩ := h2.form
    have H0 := Lib.hid h0
    clear h0 h1 h2
    go_enter Tryz.func80, Tryz.ntmps80
    go_wp2
    go_loop [5] (fun i => i = .int .i64 0) (fun _ => 0)
    case atStart => rfl
    case round =>
      subst hrel
      have h1 : ¬ (0 : Int) < (n : Int) := by have := H0.out; omega
      have h2 : ¬ 0 < n := by have := H0.out; omega
      go_wp2
      go_ret
      exact ⟨rfl, Below.refl _ _⟩
  · rcases h1 with ⟨h1, _⟩ | ⟨b1, o1, c1, rfl, hl1, hc1⟩
    · exact absurd h1 h0
    rcases h2 with ⟨h2, _⟩ | ⟨b2, o2, c2, rfl, hl2, hc2⟩
    · exact absurd h2 h0
    have H1 := Lib.hid hc1
    have H2 := Lib.hid hc2
    clear hc1 hc2 h0
    go_enter Tryz.func80, Tryz.ntmps80
    go_wp2
    go_loopw [5] (fun i wr => ∃ k : Nat, k ≤ n ∧ i = .int .i64 k ∧ Below w.heap.size w wr) (fun i _ => n - (intOf i).toNat)
    case atStart => exact ⟨0, Nat.zero_le _, rfl, Below.refl _ _⟩
    case round =>
      obtain ⟨k, hk, rfl, hbk⟩ := hrel
      by_cases hlt : k < n
      · have x0 : wr.drew.cell? ⟨b1, o1 + k * 2, none⟩ = some (.int .i64 (f k).1) := (hbk.cell (p := ⟨b1, o1 + k * 2, none⟩) hl1).trans (H1.out k hlt).1
        have x1 : wr.drew.cell? ⟨b1, o1 + k * 2 + 1, none⟩ = some (.int .i64 (f k).2) := (hbk.cell (p := ⟨b1, o1 + k * 2 + 1, none⟩) hl1).trans (H1.out k hlt).2
        have y0 : wr.drew.cell? ⟨b2, o2 + k * 2, none⟩ = some (.int .i64 (f k).1) := (hbk.cell (p := ⟨b2, o2 + k * 2, none⟩) hl2).trans (H2.out k hlt).1
        have y1 : wr.drew.cell? ⟨b2, o2 + k * 2 + 1, none⟩ = some (.int .i64 (f k).2) := (hbk.cell (p := ⟨b2, o2 + k * 2 + 1, none⟩) hl2).trans (H2.out k hlt).2
        have i1 : (k : Int) < (n : Int) := by omega
        have i0 : (0 : Int) ≤ (k : Int) := by omega
        have kd := hbk.drew
        go_wp2
        go_region_held3 (fun w' => w'.cell? ⟨b1, o1 + k * 2, none⟩ = some (.int .i64 (f k).1) ∧ w'.cell? ⟨b1, o1 + k * 2 + 1, none⟩ = some (.int .i64 (f k).2) ∧ w'.cell? ⟨b2, o2 + k * 2, none⟩ = some (.int .i64 (f k).1) ∧ w'.cell? ⟨b2, o2 + k * 2 + 1, none⟩ = some (.int .i64 (f k).2))
          (first | exact ⟨x0, x1, y0, y1⟩ | go_keep)
          (first
            | (go_at_call 120; refine (eqSlot_same _ _ _).mono ?_; rintro e w1 ⟨rfl, hb1⟩
               replace kd := btrans kd hb1
               replace x0 := (kd.cell (p := ⟨b1, o1 + k * 2, none⟩) hl1).trans (H1.out k hlt).1; replace x1 := (kd.cell (p := ⟨b1, o1 + k * 2 + 1, none⟩) hl1).trans (H1.out k hlt).2
               replace y0 := (kd.cell (p := ⟨b2, o2 + k * 2, none⟩) hl2).trans (H2.out k hlt).1; replace y1 := (kd.cell (p := ⟨b2, o2 + k * 2 + 1, none⟩) hl2).trans (H2.out k hlt).2))
        clear x0 x1 y0 y1
        go_wp2
        exact ⟨⟨k + 1, by omega, by go_num, kd⟩, by simp only [intOf]; omega⟩
      · go_wp2
        go_ret
        exact ⟨rfl, hbk⟩

/-! ### marked, and looked at again -/
def markF (f : Slots) (m : Int) (k : Nat) : Slots := fun i => if i < k then (m + 2 * i, m + 2 * i + 1) else f i
theorem markF_zero (f : Slots) (m : Int) : markF f m 0 = f := by funext i; simp [markF]
theorem markF_put {f : Slots} {m : Int} {k : Nat} (n : Nat) : ∀ i, i < n → putF (markF f m k) k (m + 2 * k, m + 2 * k + 1) i = markF f m (k + 1) i := by
  intro i _
  unfold putF markF
  by_cases e : i = k
  · subst e; simp
  · rw [if_neg e]
    by_cases h : i < k
    · rw [if_pos h, if_pos (by omega)]
    · rw [if_neg h, if_neg (by omega)]

/-- a call that marks a list of the law's own -/
def Marked (B g n cap : Nat) (f : Slots) (m : Int) (w : World) (e : Ending) (w' : World) : Prop :=
  e = .returned (.int .i64 (m + 2 * n)) ∧ OwnAt w' B g n cap (markF f m n) ∧ w.grownBy w' (some g)

set_option maxHeartbeats 400000 in
theorem markSlotS_any {B g n cap : Nat} {f : Slots} {w : World} (m : Int) (hm0 : 0 ≤ m) (hm1 : m ≤ 16777216) (hn : n ≤ 1048576) (h : OwnAt w B g n cap f) :
    Calls Tryz.prog 54 #[.slice (some ⟨g, 0, none⟩) n cap, .int .i64 m] w (Marked B g n cap f m w) := by
  have H := Lib.hid h
  clear h
  go_enter Tryz.func54, Tryz.ntmps54
  go_wp2
  go_loopw [1, 5] (fun q i wr => ∃ k : Nat, k ≤ n ∧ i = .int .i64 k ∧ q = .int .i64 (m + 2 * k) ∧ OwnAt wr B g n cap (markF f m k) ∧ w.grownBy wr (some g)) (fun _ i _ => n - (intOf i).toNat)
  case atStart => exact ⟨0, Nat.zero_le _, rfl, congrArg (Value.int .i64) (by omega), by rw [markF_zero]; exact H.out, g_refl _ _⟩
  case round =>
    obtain ⟨k, hk, rfl, rfl, hOk, hgk⟩ := hrel
    by_cases hlt : k < n
    · have fr := hOk.free
      have f0 := fr (k * 2)
      have f1 := fr (k * 2 + 1)
      obtain ⟨d0, d1⟩ := hOk.cells hlt
      have i1 : (k : Int) < (n : Int) := by omega
      have i2 : (k : Int) ≤ 1048576 := by omega
      clear fr
      go_wp2
      exact ⟨⟨k + 1, by omega, by go_num, congrArg (Value.int .i64) (by omega), (hOk.put hlt _ _).congr (markF_put n), g_own (g_own hgk _ _) _ _⟩, by simp only [intOf]; omega⟩
    · have hkn : k = n := by omega
      subst hkn
      go_wp2
      go_ret
      exact ⟨rfl, hOk, hgk⟩

theorem markF_at (f : Slots) (m : Int) {n k : Nat} (h : k < n) : markF f m n k = (m + 2 * k, m + 2 * k + 1) := by simp [markF, h]

set_option maxHeartbeats 400000 in
theorem heldSlotS_any {v : Value} {n : Nat} {f : Slots} {w : World} (m : Int) (hm0 : 0 ≤ m) (hm1 : m ≤ 16777216) (hn : n ≤ 1048576) (h : RowAt w v n (markF f m n)) :
    Calls Tryz.prog 81 #[v, .int .i64 m] w fun e w' => e = .returned (.int .i64 (m + 2 * n)) ∧ w = w' := by
  rcases h with ⟨h0, a, cap, hv⟩ | ⟨b, off, cap, rfl, hl, hc⟩
  · obtain rfl : v = .slice a n cap := by rw [hv, h0]
    have H0 := Lib.hid h0
    clear hv h0
    go_enter Tryz.func81, Tryz.ntmps81
    go_wp2
    go_loop [1, 5] (fun q i => i = .int .i64 0 ∧ q = .int .i64 m) (fun _ _ => 0)
    case atStart => exact ⟨rfl, rfl⟩
    case round =>
      obtain ⟨rfl, rfl⟩ := hrel
      have h1 : ¬ (0 : Int) < (n : Int) := by have := H0.out; omega
      have h2 : ¬ 0 < n := by have := H0.out; omega
      have h3 : m = m + 2 * (n : Int) := by have := H0.out; omega
      have H3 := Lib.hid h3
      clear h3
      go_wp2
      go_ret
      exact ⟨ret_i64 H3.out, rfl⟩
  · have H := Lib.hid hc
    clear hc
    go_enter Tryz.func81, Tryz.ntmps81
    go_wp2
    go_loop [1, 5] (fun q i => ∃ k : Nat, k ≤ n ∧ i = .int .i64 k ∧ q = .int .i64 (m + 2 * k)) (fun _ i => n - (intOf i).toNat)
    case atStart => exact ⟨0, Nat.zero_le _, rfl, congrArg (Value.int .i64) (by omega)⟩
    case round =>
      obtain ⟨k, hk, rfl, rfl⟩ := hrel
      by_cases hlt : k < n
      · obtain ⟨d0, d1⟩ := H.out k hlt
        rw [markF_at f m hlt] at d0 d1
        have i1 : (k : Int) < (n : Int) := by omega
        have i2 : (k : Int) ≤ 1048576 := by omega
        go_wp2
        exact ⟨⟨k + 1, by omega, by go_num, congrArg (Value.int .i64) (by omega)⟩, by simp only [intOf]; omega⟩
      · have hkn : k = n := by omega
        subst hkn
        go_wp2
        go_ret
        exact ⟨rfl, rfl⟩

set_option maxHeartbeats 400000 in
theorem markSlotS_nil (m : Int) (w : World) :
    Calls Tryz.prog 54 #[.slice none 0 0, .int .i64 m] w fun e w' => e = .returned (.int .i64 m) ∧ w = w' := by
  go_enter Tryz.func54, Tryz.ntmps54
  go_wp2
  go_loop [1, 5] (fun q i => i = .int .i64 0 ∧ q = .int .i64 m) (fun _ _ => 0)
  case atStart => exact ⟨rfl, rfl⟩
  case round =>
    obtain ⟨rfl, rfl⟩ := hrel
    go_wp2
    go_ret
    exact ⟨rfl, rfl⟩

/-- any list of the law's own, marked -/
theorem markRow_any {B n : Nat} {v : Value} {f : Slots} {w : World} (m : Int) (hm0 : 0 ≤ m) (hm1 : m ≤ 16777216) (hn : n ≤ 1048576) (h : OwnRow w B v n f) :
    Calls Tryz.prog 54 #[v, .int .i64 m] w fun e w' => e = .returned (.int .i64 (m + 2 * n)) ∧ OwnRow w' B v n (markF f m n) ∧ w.grownBy w' v.ownBlock := by
  rcases h with ⟨rfl, rfl⟩ | ⟨g, cap, rfl, h⟩
  · refine (markSlotS_nil m w).mono fun e w' ⟨he, hw⟩ => ?_
    subst he; subst hw
    exact ⟨by simp, .inl ⟨rfl, rfl⟩, g_refl _ _⟩
  · refine (markSlotS_any m hm0 hm1 hn h).mono fun e w' ⟨he, ho, hg⟩ => ?_
    exact ⟨he, ho.own, hg⟩

/-! ### rows that lie below a bound, kept from call to call -/
def RowLt (w : World) (C : Nat) (v : Value) (n : Nat) (f : Slots) : Prop :=
  (n = 0 ∧ ∃ a cap, v = .slice a 0 cap) ∨ ∃ b off cap, v = .slice (some ⟨b, off, none⟩) n cap ∧ b < C ∧ 0 < n ∧
    ∀ i, i < n → w.cell? ⟨b, off + i * 2, none⟩ = some (.int .i64 (f i).1) ∧ w.cell? ⟨b, off + i * 2 + 1, none⟩ = some (.int .i64 (f i).2)
theorem RowAt.lt {w : World} {v : Value} {n : Nat} {f : Slots} (h : RowAt w v n f) : RowLt w w.heap.size v n f := by
  rcases Nat.eq_zero_or_pos n with h0 | hp
  · obtain ⟨a, cap, rfl⟩ := h.form
    subst h0
    exact .inl ⟨rfl, a, cap, rfl⟩
  · rcases h with ⟨h0, _⟩ | ⟨b, off, cap, rfl, hl, hc⟩
    · omega
    · exact .inr ⟨b, off, cap, rfl, hl, hp, hc⟩
theorem RowLt.row {w : World} {C n : Nat} {v : Value} {f : Slots} (h : RowLt w C v n f) : RowAt w v n f := by
  rcases h with h | ⟨b, off, cap, rfl, _, hp, hc⟩
  · exact .inl h
  · exact .inr ⟨b, off, cap, rfl, World.block_lt_of_cell? w _ (hc 0 hp).1, hc⟩
theorem RowLt.step {w w' : World} {C n : Nat} {v : Value} {f : Slots} (h : RowLt w C v n f) (hb : Below w.heap.size w w') : RowLt w' C v n f := by
  rcases h with h | ⟨b, off, cap, rfl, hC, hp, hc⟩
  · exact .inl h
  · have hl := World.block_lt_of_cell? w _ (hc 0 hp).1
    exact .inr ⟨b, off, cap, rfl, hC, hp, fun i hi => ⟨(hb.cell (p := ⟨b, off + i * 2, none⟩) hl).trans (hc i hi).1, (hb.cell (p := ⟨b, off + i * 2 + 1, none⟩) hl).trans (hc i hi).2⟩⟩
theorem RowLt.mark {w w' : World} {C C' n : Nat} {v : Value} {f : Slots} (h : RowLt w C v n f) (hb : Below C' w w') (hC' : C ≤ C') : RowLt w' C v n f := by
  rcases h with h | ⟨b, off, cap, rfl, hC, hp, hc⟩
  · exact .inl h
  · have hl := Nat.lt_of_lt_of_le hC hC'
    exact .inr ⟨b, off, cap, rfl, hC, hp, fun i hi => ⟨(hb.cell (p := ⟨b, off + i * 2, none⟩) hl).trans (hc i hi).1, (hb.cell (p := ⟨b, off + i * 2 + 1, none⟩) hl).trans (hc i hi).2⟩⟩
theorem OwnRow.kept {w w' : World} {B n : Nat} {v : Value} {f : Slots} {ob : Option Nat} (h : OwnRow w B v n f) (hg : w.grownBy w' ob) (hne : ∀ g, ob = some g → g < B) : OwnRow w' B v n f := by
  rcases h with h | ⟨g, cap, rfl, h⟩
  · exact .inl h
  · exact .inr ⟨g, cap, rfl, h.block (hg.block g h.lt (by intro e; have := hne g e.symm; have := h.1; omega))⟩
theorem OwnRow.lt_size {w : World} {B n : Nat} {v : Value} {f : Slots} (h : OwnRow w B v n f) : ∀ g, v.ownBlock = some g → g < w.heap.size := by
  intro g e
  rcases h with ⟨_, rfl⟩ | ⟨g', cap, rfl, h⟩
  · simp [Value.ownBlock] at e
  · simp [Value.ownBlock] at e
    subst e
    exact h.lt

end Go.Proofs.YtflekodaiejflaaGreatDoor

/-
  Processors of the laws (laws): measured, copied, compared.
-/
namespace Go.Proofs.YtflekodaiejflaaGreatDoor
open Go.RowKit Go.Joins
set_option linter.unusedVariables false
set_option linter.unusedSimpArgs false

set_option maxHeartbeats 400000 in
theorem szProc_any {v : Value} {n : Nat} (l e d : Int) (hv : ∃ a cap, v = .slice a n cap) (left : Int) (w : World) (h0 : 0 ≤ left) (h1 : left ≤ 1048576) (hm : n ≤ maxLen) :
    Calls Tryz.prog 37 #[prV v l e d, .int .i64 left] w fun x w' => x = .returned (.int .i64 (if left < (n : Int) then -1 else left - n)) ∧ Below w.heap.size w w' := by
  have hv2 := hv
  have k0 := (Below.refl w.heap.size w).alloc (Nat.le_refl _) (.cells #[v, .int .i64 l, .int .i64 e, .int .i64 d] 75)
  obtain ⟨a, cap, rfl⟩ := hv
  by_cases h : left < (n : Int)
  · have hsz : ∀ W : World, Calls Tryz.prog 62 #[.slice a n cap, .int .i64 left] W fun x w' => x = .returned (.int .i64 (-1)) ∧ W = w' := fun W => by
      have := szSlotS_any hv2 left W h0 h1 hm
      rwa [if_pos h] at this
    rw [if_pos h]
    clear h h0 h1
    go_enter Tryz.func37, Tryz.ntmps37
    go_wp2_with fail
    go_at_call 62; refine (hsz _).mono ?_; rintro x w' ⟨rfl, rfl⟩
    go_wp2
    go_ret
    exact ⟨rfl, k0⟩
  · obtain ⟨z, hz⟩ : ∃ z : Int, z = left - (n : Int) := ⟨_, rfl⟩
    have hsz : ∀ W : World, Calls Tryz.prog 62 #[.slice a n cap, .int .i64 left] W fun x w' => x = .returned (.int .i64 z) ∧ W = w' := fun W => by
      have := szSlotS_any hv2 left W h0 h1 hm
      rw [if_neg h, ← hz] at this
      exact this
    have hd : decide (z < 0) = false := by simp; omega
    have hle : (0 : Int) ≤ z := by omega
    rw [if_neg h, ← hz]
    clear h h0 h1 hz
    go_enter Tryz.func37, Tryz.ntmps37
    go_wp2_with fail
    go_at_call 62; refine (hsz _).mono ?_; rintro x w' ⟨rfl, rfl⟩
    go_wp2
    go_ret
    exact ⟨rfl, k0⟩

/-- a call that copies a processor -/
def NewProc (n : Nat) (f : Slots) (l e d : Int) (w : World) (x : Ending) (w' : World) : Prop := ∃ u, x = .returned (prV u l e d) ∧ OwnRow w' w.heap.size u n f ∧ Below w.heap.size w w'
theorem four {w : World} {b : Nat} {x y z u : Value} {t : TypeId} (h : w.heap[b]? = some (.cells #[x, y, z, u] t (0, 0))) :
    w.cell? ⟨b, 0, none⟩ = some x ∧ w.cell? ⟨b, 1, none⟩ = some y ∧ w.cell? ⟨b, 2, none⟩ = some z ∧ w.cell? ⟨b, 3, none⟩ = some u ∧ w.frozen? ⟨b, 0, none⟩ = false ∧ w.frozen? ⟨b, 1, none⟩ = false ∧ w.frozen? ⟨b, 2, none⟩ = false ∧ w.frozen? ⟨b, 3, none⟩ = false :=
  ⟨cell_of_block h 0, cell_of_block h 1, cell_of_block h 2, cell_of_block h 3, unfrozen_of_block h 0, unfrozen_of_block h 1, unfrozen_of_block h 2, unfrozen_of_block h 3⟩

set_option maxRecDepth 100000 in
set_option maxHeartbeats 1000000 in
theorem toProc_any {v : Value} {n : Nat} {f : Slots} (l e d : Int) {w : World} (hn : n ≤ 1048576) (h : RowAt w v n f) :
    Calls Tryz.prog 44 #[prV v l e d] w (NewProc n f l e d w) := by
  have k0 := (Below.refl w.heap.size w).alloc (Nat.le_refl _) (.cells #[v, .int .i64 l, .int .i64 e, .int .i64 d] 75)
  have e1 : (w.alloc (.cells #[v, .int .i64 l, .int .i64 e, .int .i64 d] 75)).heap.size = w.heap.size + 1 := by simp
  have e2 : ((w.alloc (.cells #[v, .int .i64 l, .int .i64 e, .int .i64 d] 75)).alloc (.cells #[.slice none 0 0, .int .i64 0, .int .i64 0, .int .i64 0] 83)).heap.size = w.heap.size + 2 := by simp
  have e3 : (((w.alloc (.cells #[v, .int .i64 l, .int .i64 e, .int .i64 d] 75)).alloc (.cells #[.slice none 0 0, .int .i64 0, .int .i64 0, .int .i64 0] 83)).alloc (.cells #[.slice none 0 0, .int .i64 0, .int .i64 0, .int .i64 0] 83)).heap.size = w.heap.size + 3 := by simp
  have k3 := (k0.alloc (by omega) (.cells #[.slice none 0 0, .int .i64 0, .int .i64 0, .int .i64 0] 83)).alloc (by omega) (.cells #[.slice none 0 0, .int .i64 0, .int .i64 0, .int .i64 0] 83)
  have hr := h.below k3
  have hX := alloc_block (.cells #[.slice none 0 0, .int .i64 0, .int .i64 0, .int .i64 0] 83) (alloc_block (.cells #[.slice none 0 0, .int .i64 0, .int .i64 0, .int .i64 0] 83) (heap_alloc_new w (.cells #[v, .int .i64 l, .int .i64 e, .int .i64 d] 75)))
  have hR := alloc_block (.cells #[.slice none 0 0, .int .i64 0, .int .i64 0, .int .i64 0] 83) (heap_alloc_new (w.alloc (.cells #[v, .int .i64 l, .int .i64 e, .int .i64 d] 75)) (.cells #[.slice none 0 0, .int .i64 0, .int .i64 0, .int .i64 0] 83))
  rw [e1] at hR
  have hO := heap_alloc_new ((w.alloc (.cells #[v, .int .i64 l, .int .i64 e, .int .i64 d] 75)).alloc (.cells #[.slice none 0 0, .int .i64 0, .int .i64 0, .int .i64 0] 83)) (.cells #[.slice none 0 0, .int .i64 0, .int .i64 0, .int .i64 0] 83)
  rw [e2] at hO
  have HX := Lib.hid hX
  have HR := Lib.hid hR
  have HO := Lib.hid hO
  clear hX hR hO e1 e2 k0 h
  go_enter Tryz.func44, Tryz.ntmps44
  go_wp2_with fail
  go_at_call 70; refine (toSlotS_any hn hr).mono ?_; rintro x w1 ⟨u, rfl, hOu, hb⟩
  rw [e3] at hOu
  have hX1 := b_block hb HX.out (by omega)
  have hR1 := b_block hb HR.out (by omega)
  have hO1 := b_block hb HO.out (by omega)
  have k4 := k3.trans (hb.mono (by omega))
  obtain ⟨ua, uc, hu⟩ := hOu.row.form
  obtain ⟨x0, x1, x2, x3, _, _, _, _⟩ := four hX1
  obtain ⟨r0, r1, r2, r3, rf0, rf1, rf2, rf3⟩ := four hR1
  obtain ⟨o0, o1, o2, o3, of0, of1, of2, of3⟩ := four hO1
  have hF : OwnRow ((((((((w1.setCell ⟨w.heap.size + 2, 0, none⟩ u).setCell ⟨w.heap.size + 2, 1, none⟩ (.int .i64 l)).setCell ⟨w.heap.size + 2, 2, none⟩ (.int .i64 e)).setCell ⟨w.heap.size + 2, 3, none⟩ (.int .i64 d)).setCell ⟨w.heap.size + 1, 0, none⟩ u).setCell ⟨w.heap.size + 1, 1, none⟩ (.int .i64 l)).setCell ⟨w.heap.size + 1, 2, none⟩ (.int .i64 e)).setCell ⟨w.heap.size + 1, 3, none⟩ (.int .i64 d)) w.heap.size u n f :=
    ((((((((hOu.set (by omega) _ _).set (by omega) _ _).set (by omega) _ _).set (by omega) _ _).set (by omega) _ _).set (by omega) _ _).set (by omega) _ _).set (by omega) _ _).mono (by omega)
  have kF : Below w.heap.size w ((((((((w1.setCell ⟨w.heap.size + 2, 0, none⟩ u).setCell ⟨w.heap.size + 2, 1, none⟩ (.int .i64 l)).setCell ⟨w.heap.size + 2, 2, none⟩ (.int .i64 e)).setCell ⟨w.heap.size + 2, 3, none⟩ (.int .i64 d)).setCell ⟨w.heap.size + 1, 0, none⟩ u).setCell ⟨w.heap.size + 1, 1, none⟩ (.int .i64 l)).setCell ⟨w.heap.size + 1, 2, none⟩ (.int .i64 e)).setCell ⟨w.heap.size + 1, 3, none⟩ (.int .i64 d)) :=
    (((((((k4.setCell (p := ⟨w.heap.size + 2, 0, none⟩) (Nat.le_add_right _ 2) _).setCell (p := ⟨w.heap.size + 2, 1, none⟩) (Nat.le_add_right _ 2) _).setCell (p := ⟨w.heap.size + 2, 2, none⟩) (Nat.le_add_right _ 2) _).setCell (p := ⟨w.heap.size + 2, 3, none⟩) (Nat.le_add_right _ 2) _).setCell (p := ⟨w.heap.size + 1, 0, none⟩) (Nat.le_add_right _ 1) _).setCell (p := ⟨w.heap.size + 1, 1, none⟩) (Nat.le_add_right _ 1) _).setCell (p := ⟨w.heap.size + 1, 2, none⟩) (Nat.le_add_right _ 1) _).setCell (p := ⟨w.heap.size + 1, 3, none⟩) (Nat.le_add_right _ 1) _
  clear hX1 hR1 hO1 HX HR HO hb k3 k4 hOu e3 hr
  subst hu
  go_wp2
  exact bodyPost_ret (v := prV (.slice ua n uc) l e d) (by simp [results, Tryz.results44, go_sem, r0, r1, r2, r3]) rfl ⟨_, rfl, hF, kF⟩

set_option maxRecDepth 100000 in
set_option maxHeartbeats 1000000 in
theorem eqProc_same {v1 v2 : Value} {n : Nat} {f : Slots} (l e d : Int) {w : World} (hn : n ≤ 1048576) (h1 : RowAt w v1 n f) (h2 : RowAt w v2 n f) :
    Calls Tryz.prog 53 #[prV v1 l e d, prV v2 l e d] w fun x w' => x = .returned (.bool true) ∧ Below w.heap.size w w' := by
  have k0 := ((Below.refl w.heap.size w).alloc (Nat.le_refl _) (.cells #[v1, .int .i64 l, .int .i64 e, .int .i64 d] 83)).alloc (by simp) (.cells #[v2, .int .i64 l, .int .i64 e, .int .i64 d] 83)
  have r1 := h1.below k0
  have r2 := h2.below k0
  clear h1 h2
  obtain ⟨a1, c1, hv1⟩ := r1.form
  obtain ⟨a2, c2, hv2⟩ := r2.form
  have R1 := Lib.hid r1
  have R2 := Lib.hid r2
  clear r1 r2
  subst hv1 hv2
  go_enter Tryz.func53, Tryz.ntmps53
  go_wp2_with fail
  go_at_call 80; refine (eqSlotS_same hn R1.out R2.out).mono ?_; rintro x w1 ⟨rfl, hb⟩
  obtain ⟨hc, hf⟩ := bcell hb
  go_wp2
  go_ret
  exact ⟨rfl, k0.trans (hb.mono k0.size)⟩

end Go.Proofs.YtflekodaiejflaaGreatDoor

/-
  Lists of processors in memory, each with a list of slots: one that is read, and one that the call itself made.
-/
namespace Go.Proofs.YtflekodaiejflaaGreatDoor
open Go.RowKit Go.Joins
set_option linter.unusedVariables false
set_option linter.unusedSimpArgs false

/-- a processor, plain -/
structure Pc where
  n : Nat
  f : Slots
  l : Int
  e : Int
  d : Int
abbrev Pcs := Nat → Pc
def putP (P : Pcs) (i : Nat) (p : Pc) : Pcs := fun k => if k = i then p else P k
theorem putP_same (P : Pcs) (i : Nat) (p : Pc) : putP P i p i = p := by simp [putP]
theorem putP_other (P : Pcs) {i k : Nat} (p : Pc) (h : k ≠ i) : putP P i p k = P k := by simp [putP, h]
abbrev pc0 : Pc := ⟨0, fun _ => (0, 0), 0, 0, 0⟩
/-- how many slots stand in the first k -/
def slotsP (P : Pcs) : Nat → Nat
  | 0 => 0
  | k + 1 => slotsP P k + (P k).n
theorem slotsP_le (P : Pcs) {i : Nat} : ∀ {k : Nat}, i < k → slotsP P i + (P i).n ≤ slotsP P k
  | 0, h => absurd h (Nat.not_lt_zero _)
  | k + 1, h => by
    rw [slotsP]
    by_cases e : i = k
    · subst e; exact Nat.le_refl _
    · exact Nat.le_trans (slotsP_le P (show i < k by omega)) (Nat.le_add_right _ _)
theorem slotsP_mono (P : Pcs) {i : Nat} : ∀ {k : Nat}, i ≤ k → slotsP P i ≤ slotsP P k
  | 0, h => by rw [show i = 0 by omega]; exact Nat.le_refl _
  | k + 1, h => by
    by_cases e : i = k + 1
    · subst e; exact Nat.le_refl _
    · exact Nat.le_trans (slotsP_mono P (show i ≤ k by omega)) (by rw [slotsP]; exact Nat.le_add_right _ _)

/-! ### a list that is read -/
/-- a processor's four cells, and its slots -/
def PcAt (w : World) (b o : Nat) (p : Pc) : Prop :=
  ∃ a cap, w.cell? ⟨b, o, none⟩ = some (.slice a p.n cap) ∧ w.cell? ⟨b, o + 1, none⟩ = some (.int .i64 p.l) ∧ w.cell? ⟨b, o + 2, none⟩ = some (.int .i64 p.e) ∧ w.cell? ⟨b, o + 3, none⟩ = some (.int .i64 p.d) ∧ RowAt w (.slice a p.n cap) p.n p.f
theorem PcAt.below {w w' : World} {b o : Nat} {p : Pc} (h : PcAt w b o p) (hl : b < w.heap.size) (hb : Below w.heap.size w w') : PcAt w' b o p := by
  obtain ⟨a, cap, h0, h1, h2, h3, hr⟩ := h
  exact ⟨a, cap, (hb.cell (p := ⟨b, o, none⟩) hl).trans h0, (hb.cell (p := ⟨b, o + 1, none⟩) hl).trans h1, (hb.cell (p := ⟨b, o + 2, none⟩) hl).trans h2, (hb.cell (p := ⟨b, o + 3, none⟩) hl).trans h3, hr.below hb⟩
def RowPAt (w : World) (v : Value) (m : Nat) (P : Pcs) : Prop :=
  (m = 0 ∧ ∃ a cap, v = .slice a 0 cap) ∨ ∃ b off cap, v = .slice (some ⟨b, off, none⟩) m cap ∧ b < w.heap.size ∧ ∀ i, i < m → PcAt w b (off + i * 4) (P i)
theorem RowPAt.form {w : World} {v : Value} {m : Nat} {P : Pcs} (h : RowPAt w v m P) : ∃ a cap, v = .slice a m cap := by
  rcases h with ⟨rfl, a, cap, rfl⟩ | ⟨b, off, cap, rfl, _⟩
  · exact ⟨_, _, rfl⟩
  · exact ⟨_, _, rfl⟩
theorem RowPAt.below {w w' : World} {v : Value} {m : Nat} {P : Pcs} (h : RowPAt w v m P) (hb : Below w.heap.size w w') : RowPAt w' v m P := by
  rcases h with h | ⟨b, off, cap, rfl, hl, hc⟩
  · exact .inl h
  · exact .inr ⟨b, off, cap, rfl, Nat.lt_of_lt_of_le hl hb.size, fun i hi => (hc i hi).below hl hb⟩
theorem RowPAt.congr {w : World} {v : Value} {m : Nat} {P Q : Pcs} (h : RowPAt w v m P) (e : ∀ i, i < m → P i = Q i) : RowPAt w v m Q := by
  rcases h with h | ⟨b, off, cap, rfl, hl, hc⟩
  · exact .inl h
  · exact .inr ⟨b, off, cap, rfl, hl, fun i hi => by rw [← e i hi]; exact hc i hi⟩

/-! ### a list that the call made: its own block, and own blocks for the slots, all apart -/
def PcIn (cur : Array Value) (m : Nat) (P : Pcs) (V : Nat → Value) : Prop :=
  ∀ i, i < m → cur[i * 4]? = some (V i) ∧ cur[i * 4 + 1]? = some (.int .i64 (P i).l) ∧ cur[i * 4 + 2]? = some (.int .i64 (P i).e) ∧ cur[i * 4 + 3]? = some (.int .i64 (P i).d)
def ListAt (w : World) (B g m cap : Nat) (P : Pcs) (V : Nat → Value) : Prop :=
  B ≤ g ∧ m ≤ cap ∧ cap ≤ maxLen ∧ ∃ cur, w.heap[g]? = some (.cells cur 83 (0, 0)) ∧ cur.size = cap * 4 ∧ PcIn cur m P V
theorem ListAt.lt {w : World} {B g m cap : Nat} {P : Pcs} {V : Nat → Value} (h : ListAt w B g m cap P V) : g < w.heap.size := by
  obtain ⟨_, _, _, cur, hh, _⟩ := h
  exact lt_of_block hh
theorem ListAt.cells {w : World} {B g m cap : Nat} {P : Pcs} {V : Nat → Value} (h : ListAt w B g m cap P V) {i : Nat} (hi : i < m) :
    w.cell? ⟨g, i * 4, none⟩ = some (V i) ∧ w.cell? ⟨g, i * 4 + 1, none⟩ = some (.int .i64 (P i).l) ∧ w.cell? ⟨g, i * 4 + 2, none⟩ = some (.int .i64 (P i).e) ∧ w.cell? ⟨g, i * 4 + 3, none⟩ = some (.int .i64 (P i).d) := by
  obtain ⟨_, _, _, cur, hh, _, hr⟩ := h
  obtain ⟨h0, h1, h2, h3⟩ := hr i hi
  exact ⟨(cell_of_block hh _).trans h0, (cell_of_block hh _).trans h1, (cell_of_block hh _).trans h2, (cell_of_block hh _).trans h3⟩
theorem ListAt.free {w : World} {B g m cap : Nat} {P : Pcs} {V : Nat → Value} (h : ListAt w B g m cap P V) (o : Nat) : w.frozen? ⟨g, o, none⟩ = false := by
  obtain ⟨_, _, _, cur, hh, _⟩ := h
  exact unfrozen_of_block hh o
theorem ListAt.block {w w' : World} {B g m cap : Nat} {P : Pcs} {V : Nat → Value} (h : ListAt w B g m cap P V) (e : w'.heap[g]? = w.heap[g]?) : ListAt w' B g m cap P V := by
  obtain ⟨h1, h2, h3, cur, hh, r⟩ := h
  exact ⟨h1, h2, h3, cur, e.trans hh, r⟩
theorem ListAt.below {w w' : World} {B g m cap : Nat} {P : Pcs} {V : Nat → Value} (h : ListAt w B g m cap P V) (hb : Below w.heap.size w w') : ListAt w' B g m cap P V := h.block (hb.block g h.lt)
theorem ListAt.congr {w : World} {B g m cap : Nat} {P Q : Pcs} {V U : Nat → Value} (h : ListAt w B g m cap P V) (e : ∀ i, i < m → P i = Q i) (ev : ∀ i, i < m → V i = U i) : ListAt w B g m cap Q U := by
  obtain ⟨h1, h2, h3, cur, hh, hs, hr⟩ := h
  exact ⟨h1, h2, h3, cur, hh, hs, fun i hi => by rw [← e i hi, ← ev i hi]; exact hr i hi⟩
theorem ListAt.mono {w : World} {B B' g m cap : Nat} {P : Pcs} {V : Nat → Value} (h : ListAt w B g m cap P V) (hB : B' ≤ B) : ListAt w B' g m cap P V := by
  obtain ⟨h1, r⟩ := h
  exact ⟨Nat.le_trans hB h1, r⟩
/-- the slots of the first m, each in a block of its own from B on, all apart -/
def HeapsAt (w : World) (B m : Nat) (P : Pcs) (V : Nat → Value) : Prop :=
  (∀ i, i < m → OwnRow w B (V i) (P i).n (P i).f) ∧ ∀ i j, i < m → j < m → i ≠ j → ∀ x, (V i).ownBlock = some x → (V j).ownBlock ≠ some x
theorem HeapsAt.below {w w' : World} {B m : Nat} {P : Pcs} {V : Nat → Value} (h : HeapsAt w B m P V) (hb : Below w.heap.size w w') : HeapsAt w' B m P V :=
  ⟨fun i hi => (h.1 i hi).below hb, h.2⟩
theorem HeapsAt.congr {w : World} {B m : Nat} {P Q : Pcs} {V U : Nat → Value} (h : HeapsAt w B m P V) (e : ∀ i, i < m → P i = Q i) (ev : ∀ i, i < m → V i = U i) : HeapsAt w B m Q U :=
  ⟨fun i hi => by rw [← e i hi, ← ev i hi]; exact h.1 i hi, fun i j hi hj hij x hx => by rw [← ev j hj]; rw [← ev i hi] at hx; exact h.2 i j hi hj hij x hx⟩
theorem HeapsAt.mono {w : World} {B B' m : Nat} {P : Pcs} {V : Nat → Value} (h : HeapsAt w B m P V) (hB : B' ≤ B) : HeapsAt w B' m P V := ⟨fun i hi => (h.1 i hi).mono hB, h.2⟩
theorem HeapsAt.cut {w : World} {B m k : Nat} {P : Pcs} {V : Nat → Value} (h : HeapsAt w B m P V) (hk : k ≤ m) : HeapsAt w B k P V :=
  ⟨fun i hi => h.1 i (Nat.lt_of_lt_of_le hi hk), fun i j hi hj => h.2 i j (Nat.lt_of_lt_of_le hi hk) (Nat.lt_of_lt_of_le hj hk)⟩
def putV (V : Nat → Value) (k : Nat) (u : Value) : Nat → Value := fun i => if i = k then u else V i
theorem putV_same (V : Nat → Value) (k : Nat) (u : Value) : putV V k u k = u := by simp [putV]
theorem putV_other (V : Nat → Value) {i k : Nat} (u : Value) (h : i ≠ k) : putV V k u i = V i := by simp [putV, h]
/-- one more, in a new block -/
theorem HeapsAt.push {w w' : World} {B k : Nat} {P : Pcs} {V : Nat → Value} {u : Value} {p : Pc} (h : HeapsAt w B k P V) (hb : Below w.heap.size w w') (hB : B ≤ w.heap.size) (ho : OwnRow w' w.heap.size u p.n p.f) :
    HeapsAt w' B (k + 1) (putP P k p) (putV V k u) := by
  have new : ∀ x, u.ownBlock = some x → w.heap.size ≤ x := fun x hx => by
    rcases ho with ⟨_, rfl⟩ | ⟨g, cap, rfl, hg⟩
    · simp [Value.ownBlock] at hx
    · simp [Value.ownBlock] at hx; subst hx; exact hg.1
  have old : ∀ i, i < k → ∀ x, (V i).ownBlock = some x → x < w.heap.size := fun i hi => (h.1 i hi).lt_size
  refine ⟨fun i hi => ?_, fun i j hi hj hij x hx => ?_⟩
  · by_cases e : i = k
    · subst e; rw [putP_same, putV_same]; exact ho.mono hB
    · rw [putP_other P p e, putV_other V u e]; exact (h.1 i (by omega)).below hb
  · by_cases e : i = k
    · subst e
      rw [putV_same] at hx
      rw [putV_other V u (Ne.symm hij)]
      intro h2
      have := new x hx; have := old j (by omega) x h2; omega
    · rw [putV_other V u e] at hx
      by_cases e2 : j = k
      · subst e2
        rw [putV_same]
        intro h2
        have := new x h2; have := old i (by omega) x hx; omega
      · rw [putV_other V u e2]
        exact h.2 i j (by omega) (by omega) hij x hx
theorem HeapsAt.zero (w : World) (B : Nat) (P : Pcs) (V : Nat → Value) : HeapsAt w B 0 P V := ⟨fun i hi => by omega, fun i j hi => by omega⟩
theorem OwnRow.value {w : World} {B n : Nat} {v : Value} {f : Slots} (h : OwnRow w B v n f) : ∃ a cap, v = .slice a n cap := h.row.form

/-- a list of processors of the call's own -/
def OwnPAt (w : World) (B g m cap : Nat) (P : Pcs) (V : Nat → Value) : Prop := ListAt w B g m cap P V ∧ HeapsAt w B m P V
def OwnPRow (w : World) (B : Nat) (v : Value) (m : Nat) (P : Pcs) : Prop :=
  (m = 0 ∧ v = .slice none 0 0) ∨ ∃ g cap V, v = .slice (some ⟨g, 0, none⟩) m cap ∧ OwnPAt w B g m cap P V
theorem OwnPAt.pc {w : World} {B g m cap : Nat} {P : Pcs} {V : Nat → Value} (h : OwnPAt w B g m cap P V) {i : Nat} (hi : i < m) : PcAt w g (i * 4) (P i) := by
  obtain ⟨h0, h1, h2, h3⟩ := h.1.cells hi
  have ho := h.2.1 i hi
  obtain ⟨a, c, e⟩ := ho.value
  rw [e] at h0 ho
  exact ⟨a, c, h0, h1, h2, h3, ho.row⟩
theorem OwnPAt.row {w : World} {B g m cap : Nat} {P : Pcs} {V : Nat → Value} (h : OwnPAt w B g m cap P V) : RowPAt w (.slice (some ⟨g, 0, none⟩) m cap) m P :=
  .inr ⟨g, 0, cap, rfl, h.1.lt, fun i hi => by simpa using h.pc hi⟩
theorem OwnPRow.row {w : World} {B m : Nat} {v : Value} {P : Pcs} (h : OwnPRow w B v m P) : RowPAt w v m P := by
  rcases h with ⟨rfl, rfl⟩ | ⟨g, cap, V, rfl, h⟩
  · exact .inl ⟨rfl, _, _, rfl⟩
  · exact h.row
theorem OwnPAt.below {w w' : World} {B g m cap : Nat} {P : Pcs} {V : Nat → Value} (h : OwnPAt w B g m cap P V) (hb : Below w.heap.size w w') : OwnPAt w' B g m cap P V := ⟨h.1.below hb, h.2.below hb⟩
theorem OwnPRow.below {w w' : World} {B m : Nat} {v : Value} {P : Pcs} (h : OwnPRow w B v m P) (hb : Below w.heap.size w w') : OwnPRow w' B v m P := by
  rcases h with h | ⟨g, cap, V, e, h⟩
  · exact .inl h
  · exact .inr ⟨g, cap, V, e, h.below hb⟩
theorem OwnPRow.mono {w : World} {B B' m : Nat} {v : Value} {P : Pcs} (h : OwnPRow w B v m P) (hB : B' ≤ B) : OwnPRow w B' v m P := by
  rcases h with h | ⟨g, cap, V, e, h⟩
  · exact .inl h
  · exact .inr ⟨g, cap, V, e, h.1.mono hB, h.2.mono hB⟩
theorem OwnPRow.congr {w : World} {B m : Nat} {v : Value} {P Q : Pcs} (h : OwnPRow w B v m P) (e : ∀ i, i < m → P i = Q i) : OwnPRow w B v m Q := by
  rcases h with h | ⟨g, cap, V, e1, h⟩
  · exact .inl h
  · exact .inr ⟨g, cap, V, e1, h.1.congr e (fun _ _ => rfl), h.2.congr e (fun _ _ => rfl)⟩

/-- a processor is stored -/
abbrev setP (w : World) (g k : Nat) (u : Value) (l e d : Int) : World := (((w.setCell ⟨g, k * 4, none⟩ u).setCell ⟨g, k * 4 + 1, none⟩ (.int .i64 l)).setCell ⟨g, k * 4 + 2, none⟩ (.int .i64 e)).setCell ⟨g, k * 4 + 3, none⟩ (.int .i64 d)
theorem put4 {cur : Array Value} {m cap k : Nat} {P : Pcs} {V : Nat → Value} (hs : cur.size = cap * 4) (hk : k < cap) (hr : PcIn cur m P V) (u : Value) (p : Pc) :
    PcIn ((((cur.setIfInBounds (k * 4) u).setIfInBounds (k * 4 + 1) (.int .i64 p.l)).setIfInBounds (k * 4 + 2) (.int .i64 p.e)).setIfInBounds (k * 4 + 3) (.int .i64 p.d)) m (putP P k p) (putV V k u) := by
  intro i hi
  by_cases e : i = k
  · subst e
    rw [putP_same, putV_same]
    refine ⟨?_, ?_, ?_, ?_⟩ <;> (simp only [Array.getElem?_setIfInBounds, Array.size_setIfInBounds]; simp; try omega)
  · rw [putP_other P p e, putV_other V u e]
    obtain ⟨h0, h1, h2, h3⟩ := hr i hi
    refine ⟨?_, ?_, ?_, ?_⟩
    · rw [Array.getElem?_setIfInBounds_ne (by omega), Array.getElem?_setIfInBounds_ne (by omega), Array.getElem?_setIfInBounds_ne (by omega), Array.getElem?_setIfInBounds_ne (by omega)]; exact h0
    · rw [Array.getElem?_setIfInBounds_ne (by omega), Array.getElem?_setIfInBounds_ne (by omega), Array.getElem?_setIfInBounds_ne (by omega), Array.getElem?_setIfInBounds_ne (by omega)]; exact h1
    · rw [Array.getElem?_setIfInBounds_ne (by omega), Array.getElem?_setIfInBounds_ne (by omega), Array.getElem?_setIfInBounds_ne (by omega), Array.getElem?_setIfInBounds_ne (by omega)]; exact h2
    · rw [Array.getElem?_setIfInBounds_ne (by omega), Array.getElem?_setIfInBounds_ne (by omega), Array.getElem?_setIfInBounds_ne (by omega), Array.getElem?_setIfInBounds_ne (by omega)]; exact h3
theorem ListAt.put {w : World} {B g m cap : Nat} {P : Pcs} {V : Nat → Value} (h : ListAt w B g m cap P V) {k : Nat} (hk : k < m) (u : Value) (p : Pc) : ListAt (setP w g k u p.l p.e p.d) B g m cap (putP P k p) (putV V k u) := by
  obtain ⟨h1, h2, h3, cur, hh, hs, hr⟩ := h
  refine ⟨h1, h2, h3, _, block_setCell (block_setCell (block_setCell (block_setCell hh (i := k * 4) _) (i := k * 4 + 1) _) (i := k * 4 + 2) _) (i := k * 4 + 3) _, by simp [hs], put4 hs (by omega) hr u p⟩
/-- what is written into another block leaves the slots -/
theorem HeapsAt.other {w w' : World} {B m : Nat} {P : Pcs} {V : Nat → Value} (h : HeapsAt w B m P V) (e : ∀ i, i < m → ∀ x, (V i).ownBlock = some x → w'.heap[x]? = w.heap[x]?) : HeapsAt w' B m P V := by
  refine ⟨fun i hi => ?_, h.2⟩
  have h1 := h.1 i hi
  have e1 := e i hi
  rcases h1 with h1 | ⟨g, cap, ev, h1⟩
  · exact .inl h1
  · exact .inr ⟨g, cap, ev, h1.block (e1 g (by rw [ev]; rfl))⟩
/-- the list's block is none of the slots' -/
theorem ListAt.ne_heap {w : World} {B g m cap B' n : Nat} {P : Pcs} {V : Nat → Value} {v : Value} {f : Slots} (h : ListAt w B g m cap P V) (ho : OwnRow w B' v n f) : ∀ x, v.ownBlock = some x → x ≠ g := by
  intro x hx
  rcases ho with ⟨_, rfl⟩ | ⟨g', cap', rfl, ho⟩
  · simp [Value.ownBlock] at hx
  · simp [Value.ownBlock] at hx
    subst hx
    rintro rfl
    obtain ⟨_, _, _, cur, hh, _⟩ := h
    obtain ⟨_, _, _, cur', hh', _⟩ := ho
    rw [hh] at hh'
    injection hh' with hh'
    injection hh' with _ h2 _
    exact absurd h2 (by decide)
theorem heap_setP (w : World) (g k : Nat) (u : Value) (l e d : Int) {x : Nat} (hx : x ≠ g) : (setP w g k u l e d).heap[x]? = w.heap[x]? :=
  (Below.heap_setCell _ ⟨g, k * 4 + 3, none⟩ _ x hx).trans ((Below.heap_setCell _ ⟨g, k * 4 + 2, none⟩ _ x hx).trans ((Below.heap_setCell _ ⟨g, k * 4 + 1, none⟩ _ x hx).trans (Below.heap_setCell _ ⟨g, k * 4, none⟩ _ x hx)))
theorem b_setP {W w : World} {n g : Nat} (h : Below n W w) (hg : n ≤ g) (k : Nat) (u : Value) (l e d : Int) : Below n W (setP w g k u l e d) :=
  (((h.setCell (p := ⟨g, k * 4, none⟩) hg u).setCell (p := ⟨g, k * 4 + 1, none⟩) hg _).setCell (p := ⟨g, k * 4 + 2, none⟩) hg _).setCell (p := ⟨g, k * 4 + 3, none⟩) hg _

end Go.Proofs.YtflekodaiejflaaGreatDoor

/-
  Append onto a list of processors of the call's own.
-/
namespace Go.Proofs.YtflekodaiejflaaGreatDoor
open Go.RowKit Go.Joins
set_option linter.unusedVariables false
set_option linter.unusedSimpArgs false

/-- a processor's four cells -/
def pcAt (P : Pcs) (V : Nat → Value) (i : Nat) : Nat → Value
  | 0 => V i
  | 1 => .int .i64 (P i).l
  | 2 => .int .i64 (P i).e
  | _ => .int .i64 (P i).d
theorem below4 {P : Nat → Prop} (h0 : P 0) (h1 : P 1) (h2 : P 2) (h3 : P 3) : ∀ j, j < 4 → P j
  | 0, _ => h0
  | 1, _ => h1
  | 2, _ => h2
  | 3, _ => h3
  | _ + 4, h => by omega
def cellsP (P : Pcs) (V : Nat → Value) : Nat → List Value
  | 0 => []
  | n + 1 => cellsP P V n ++ [V n, .int .i64 (P n).l, .int .i64 (P n).e, .int .i64 (P n).d]
theorem cellsP_length (P : Pcs) (V : Nat → Value) : ∀ n, (cellsP P V n).length = n * 4
  | 0 => rfl
  | n + 1 => by rw [cellsP, List.length_append, cellsP_length P V n]; simp; omega
theorem cellsP_get (P : Pcs) (V : Nat → Value) : ∀ n i, i < n → ∀ j, j < 4 → (cellsP P V n)[i * 4 + j]? = some (pcAt P V i j)
  | 0, i, h => absurd h (Nat.not_lt_zero _)
  | n + 1, i, h => by
    intro j hj
    rw [cellsP]
    by_cases e : i = n
    · subst e
      rw [List.getElem?_append_right (by rw [cellsP_length]; omega), cellsP_length, Nat.add_sub_cancel_left]
      revert j
      apply below4 <;> rfl
    · rw [List.getElem?_append_left (by rw [cellsP_length]; omega)]
      exact cellsP_get P V n i (by omega) j hj
theorem cellsP_congr {P Q : Pcs} {V U : Nat → Value} : ∀ n, (∀ i, i < n → P i = Q i) → (∀ i, i < n → V i = U i) → cellsP P V n = cellsP Q U n
  | 0, _, _ => rfl
  | n + 1, h, hv => by rw [cellsP, cellsP, cellsP_congr n (fun i hi => h i (by omega)) (fun i hi => hv i (by omega)), h n (by omega), hv n (by omega)]
theorem cellsP_push (P : Pcs) (V : Nat → Value) (n : Nat) (p : Pc) (u : Value) : cellsP P V n ++ [u, .int .i64 p.l, .int .i64 p.e, .int .i64 p.d] = cellsP (putP P n p) (putV V n u) (n + 1) := by
  rw [cellsP, putP_same, putV_same, cellsP_congr (P := P) (Q := putP P n p) (V := V) (U := putV V n u) n (fun i hi => (putP_other P (i := n) (k := i) p (by omega)).symm) (fun i hi => (putV_other V (i := i) (k := n) u (by omega)).symm)]
theorem proc_info2 : (Tryz.prog.info? 83).map (fun i => (i.zero, i.size, i.bytes)) = some (some (.agg #[.slice none 0 0, .int .i64 0, .int .i64 0, .int .i64 0]), 4, 48) := by kernel_rfl

/-- the list itself, no word of the slots -/
def ListRow (w : World) (B : Nat) (v : Value) (m : Nat) (P : Pcs) (V : Nat → Value) : Prop :=
  (m = 0 ∧ v = .slice none 0 0) ∨ ∃ g cap, v = .slice (some ⟨g, 0, none⟩) m cap ∧ ListAt w B g m cap P V
theorem listP_of_row {w : World} {B n : Nat} {v : Value} {P : Pcs} {V : Nat → Value} (h : w.ownsRow B 83 4 v n (cellsP P V n)) : ListRow w B v n P V := by
  rcases h.2 with ⟨rfl, rfl⟩ | ⟨g, cap, cur, rfl, hB, hg, hn, hcm, hs, ht⟩
  · exact .inl ⟨rfl, rfl⟩
  · refine .inr ⟨g, cap, rfl, hB, hn, hcm, cur, hg, hs, fun i hi => ?_⟩
    have key : ∀ j, j < 4 → cur[i * 4 + j]? = some (pcAt P V i j) := by
      intro j hj
      have h1 := cellsP_get P V n i hi j hj
      rw [← ht, List.getElem?_take_of_lt (by omega)] at h1
      simpa using h1
    exact ⟨key 0 (by omega), key 1 (by omega), key 2 (by omega), key 3 (by omega)⟩
theorem rowP_of_list {w : World} {B n : Nat} {v : Value} {P : Pcs} {V : Nat → Value} (h : ListRow w B v n P V) : w.ownsRow B 83 4 v n (cellsP P V n) := by
  rcases h with ⟨rfl, rfl⟩ | ⟨g, cap, rfl, h1, h2, h3, cur, hh, hs, hr⟩
  · exact World.ownsRow_nil w B _ _
  refine ⟨cellsP_length P V n, .inr ⟨g, cap, cur, rfl, h1, hh, h2, h3, hs, ?_⟩⟩
  apply List.ext_getElem?
  intro k
  by_cases hk : k < n * 4
  · rw [List.getElem?_take_of_lt hk]
    have a := cellsP_get P V n (k / 4) (by omega) (k % 4) (by omega)
    have b : cur[k / 4 * 4 + k % 4]? = some (pcAt P V (k / 4) (k % 4)) := by
      obtain ⟨b0, b1, b2, b3⟩ := hr (k / 4) (by omega)
      exact below4 (P := fun j => cur[k / 4 * 4 + j]? = some (pcAt P V (k / 4) j)) b0 b1 b2 b3 (k % 4) (by omega)
    rw [show k / 4 * 4 + k % 4 = k by omega] at a b
    rw [a]; simpa using b
  · rw [List.getElem?_eq_none (by rw [List.length_take]; omega), List.getElem?_eq_none (by rw [cellsP_length]; omega)]
theorem ListRow.below {w w' : World} {B m : Nat} {v : Value} {P : Pcs} {V : Nat → Value} (h : ListRow w B v m P V) (hb : Below w.heap.size w w') : ListRow w' B v m P V := by
  rcases h with h | ⟨g, cap, e, h⟩
  · exact .inl h
  · exact .inr ⟨g, cap, e, h.below hb⟩
theorem ListRow.form {w : World} {B m : Nat} {v : Value} {P : Pcs} {V : Nat → Value} (h : ListRow w B v m P V) : ∃ a cap, v = .slice a m cap := by
  rcases h with ⟨rfl, rfl⟩ | ⟨g, cap, rfl, _⟩
  · exact ⟨_, _, rfl⟩
  · exact ⟨_, _, rfl⟩
theorem ListRow.own {w : World} {B m : Nat} {v : Value} {P : Pcs} {V : Nat → Value} (h : ListRow w B v m P V) (hh : HeapsAt w B m P V) : OwnPRow w B v m P := by
  rcases h with h | ⟨g, cap, e, h⟩
  · exact .inl h
  · exact .inr ⟨g, cap, V, e, h, hh⟩

theorem ListRow.block_ge {w : World} {B m : Nat} {v : Value} {P : Pcs} {V : Nat → Value} (h : ListRow w B v m P V) : ∀ x, v.ownBlock = some x → B ≤ x := by
  intro x hx
  rcases h with ⟨_, rfl⟩ | ⟨g, cap, rfl, h⟩
  · simp [Value.ownBlock] at hx
  · simp [Value.ownBlock] at hx
    subst hx
    exact h.1
theorem ListRow.block_lt {w : World} {B m : Nat} {v : Value} {P : Pcs} {V : Nat → Value} (h : ListRow w B v m P V) : ∀ x, v.ownBlock = some x → x < w.heap.size := by
  intro x hx
  rcases h with ⟨_, rfl⟩ | ⟨g, cap, rfl, h⟩
  · simp [Value.ownBlock] at hx
  · simp [Value.ownBlock] at hx
    subst hx
    exact h.lt
/-- the slots' blocks are none of the list's: they stay when the list grows -/
theorem HeapsAt.grown {w w' : World} {B B' m n : Nat} {v : Value} {P Q : Pcs} {V U : Nat → Value} (h : HeapsAt w B m P V) (hl : ListRow w B' v n Q U) (hg : w.grownBy w' v.ownBlock) : HeapsAt w' B m P V := by
  refine h.other fun i hi x hx => hg.block x ((h.1 i hi).lt_size x hx) ?_
  intro e
  rcases hl with ⟨_, rfl⟩ | ⟨g, cap, rfl, hl⟩
  · simp [Value.ownBlock] at e
  · simp [Value.ownBlock] at e
    exact hl.ne_heap (h.1 i hi) x hx e
theorem OwnRow.keptO {w w' : World} {B B' m n : Nat} {v u : Value} {f : Slots} {Q : Pcs} {U : Nat → Value} (h : OwnRow w B u n f) (hg : w.grownBy w' v.ownBlock) (hl : ListRow w B' v m Q U) : OwnRow w' B u n f := by
  rcases h with h | ⟨g, cap, rfl, h⟩
  · exact .inl h
  · refine .inr ⟨g, cap, rfl, h.block (hg.block g h.lt ?_)⟩
    intro e
    rcases hl with ⟨_, rfl⟩ | ⟨g', cap', rfl, hl⟩
    · simp [Value.ownBlock] at e
    · simp [Value.ownBlock] at e
      exact hl.ne_heap (OwnAt.own h) g rfl e
/-- one more, whose slots' list is its own -/
theorem HeapsAt.add {w : World} {B k : Nat} {P : Pcs} {V : Nat → Value} {u : Value} {p : Pc} (h : HeapsAt w B k P V) (ho : OwnRow w B u p.n p.f) (hd : ∀ i, i < k → ∀ x, (V i).ownBlock = some x → u.ownBlock ≠ some x) :
    HeapsAt w B (k + 1) (putP P k p) (putV V k u) := by
  refine ⟨fun i hi => ?_, fun i j hi hj hij x hx => ?_⟩
  · by_cases e : i = k
    · subst e; rw [putP_same, putV_same]; exact ho
    · rw [putP_other P p e, putV_other V u e]; exact h.1 i (by omega)
  · by_cases e : i = k
    · subst e
      rw [putV_same] at hx
      rw [putV_other V u (Ne.symm hij)]
      intro h2
      exact hd j (by omega) x h2 hx
    · rw [putV_other V u e] at hx
      by_cases e2 : j = k
      · subst e2
        rw [putV_same]
        exact hd i (by omega) x hx
      · rw [putV_other V u e2]
        exact h.2 i j (by omega) (by omega) hij x hx

theorem ListRow.set {w : World} {B m b : Nat} {v : Value} {P : Pcs} {V : Nat → Value} (h : ListRow w B v m P V) (hb : b < B) (o : Nat) (u : Value) : ListRow (w.setCell ⟨b, o, none⟩ u) B v m P V := by
  rcases h with h | ⟨g, cap, e, h⟩
  · exact .inl h
  · exact .inr ⟨g, cap, e, h.block (Below.heap_setCell w ⟨b, o, none⟩ u g (show g ≠ b by have := h.1; omega))⟩
theorem HeapsAt.block_ge {w : World} {B m : Nat} {P : Pcs} {V : Nat → Value} (h : HeapsAt w B m P V) {i : Nat} (hi : i < m) : ∀ x, (V i).ownBlock = some x → B ≤ x := by
  intro x hx
  rcases h.1 i hi with ⟨_, ev⟩ | ⟨g, c, ev, ho⟩
  · rw [ev] at hx; simp [Value.ownBlock] at hx
  · rw [ev] at hx; simp [Value.ownBlock] at hx; subst hx; exact ho.1
theorem HeapsAt.set {w : World} {B m b : Nat} {P : Pcs} {V : Nat → Value} (h : HeapsAt w B m P V) (hb : b < B) (o : Nat) (u : Value) : HeapsAt (w.setCell ⟨b, o, none⟩ u) B m P V :=
  h.other fun i hi x hx => Below.heap_setCell w ⟨b, o, none⟩ u x (show x ≠ b by have := h.block_ge hi x hx; omega)
theorem ListRow.congr {w : World} {B m : Nat} {v : Value} {P Q : Pcs} {V U : Nat → Value} (h : ListRow w B v m P V) (e : ∀ i, i < m → P i = Q i) (ev : ∀ i, i < m → V i = U i) : ListRow w B v m Q U := by
  rcases h with h | ⟨g, cap, e1, h⟩
  · exact .inl h
  · exact .inr ⟨g, cap, e1, h.congr e ev⟩
theorem b_grownO {a w : World} {B : Nat} {ob : Option Nat} (h : a.grownBy w ob) (hx : ∀ x, ob = some x → B ≤ x) (hs : B ≤ a.heap.size) : Below B a w :=
  ⟨h.os, h.tape, h.output, h.size, fun i hi => h.block i (by omega) (fun e => by have := hx i e.symm; omega)⟩

theorem run_append_proc (w : World) (B : Nat) (ty : TypeId) (v : Value) (n : Nat) (P : Pcs) (V : Nat → Value) (hown : w.ownsRow B 83 4 v n (cellsP P V n)) (b : Nat) (p : Pc) (u : Value) (hu : u.oneCell' = true)
    (hc : w.heap[b]? = some (.cells #[u, .int .i64 p.l, .int .i64 p.e, .int .i64 p.d] 83 (0, 0))) (hn : n + 1 ≤ 2097152) (hB : B ≤ w.heap.size) :
    ∃ v' w', (Builtin.append_ #[34, 34] ty #[v, .slice (some ⟨b, 0, none⟩) 1 1]).run Tryz.prog w = .ok v' w' ∧ w'.ownsRow B 83 4 v' (n + 1) (cellsP (putP P n p) (putV V n u) (n + 1)) ∧ w.grownBy w' v.ownBlock ∧ (v'.ownBlock = v.ownBlock ∨ v'.ownBlock = some w.heap.size) := by
  obtain ⟨i0, hi, hz, hs, hby⟩ := info_parts proc_info2
  have hbytes : (n + 1) * 48 ≤ 140737488355328 := by omega
  have h63 : n + 1 ≤ maxLen := by unfold maxLen; omega
  obtain ⟨v', w', hrun, h2, h3, _, h5⟩ := run_append_own_at (P := Tryz.prog) w B 34 ty 83 i0 _ 4 48 Tryz.underlying34 hi hz hs hby rfl (by decide) v n _ hown ⟨b, 0, none⟩ 1 1 [u, .int .i64 p.l, .int .i64 p.e, .int .i64 p.d] rfl
    (fun j x hx => by
      rw [Go.WideShapes.add_plain, Nat.zero_add]
      rw [cell_of_block hc j]
      simpa using hx) (by
      intro x hx
      simp only [List.mem_cons, List.mem_nil_iff, or_false] at hx
      rcases hx with rfl | rfl | rfl | rfl
      · exact hu
      all_goals rfl) h63 hbytes hB
  exact ⟨v', w', hrun, by rw [← cellsP_push]; exact h2, h3, h5⟩

theorem wp_append_proc {o : Oper} {a : Act} {K : Act → World → Prop} {Q : Exit → Act → World → Prop} {w : World} (s x : Operand)
    (ho : o.op = .call { callee := .builtin .append, args := #[s, x], argTypes := #[34, 34] })
    (B : Nat) (v : Value) (n : Nat) (P : Pcs) (V : Nat → Value) (hs : a.eval s = v) (hown : w.ownsRow B 83 4 v n (cellsP P V n)) (b : Nat) (p : Pc) (u : Value) (hu : u.oneCell' = true) (hx : a.eval x = .slice (some ⟨b, 0, none⟩) 1 1)
    (hc : w.heap[b]? = some (.cells #[u, .int .i64 p.l, .int .i64 p.e, .int .i64 p.d] 83 (0, 0))) (hn : n + 1 ≤ 2097152) (hB : B ≤ w.heap.size)
    (hK : ∀ v' w', w'.ownsRow B 83 4 v' (n + 1) (cellsP (putP P n p) (putV V n u) (n + 1)) → w.grownBy w' v.ownBlock → (v'.ownBlock = v.ownBlock ∨ v'.ownBlock = some w.heap.size) → K (a.put o.dst v') w') : o.wp Tryz.prog a w K Q := by
  obtain ⟨v', w', hr, h2, h3, h4⟩ := run_append_proc w B o.type v n P V hown b p u hu hc hn hB
  unfold Oper.wp execOp
  simp only [ho, resolve, invoke, builtin, Sem.run_bind, Sem.run_pure, Result.andThen_ok, List.map_toArray, List.map_cons, List.map_nil, hs, hx, hr]
  exact hK v' w' h2 h3 h4
theorem wpList_append_proc {ops : Array Oper} {rest : List Oper} {o : Oper} {a : Act} {Q : Exit → Act → World → Prop} {w : World} (hgd : o.guard = none) (s x : Operand)
    (ho : o.op = .call { callee := .builtin .append, args := #[s, x], argTypes := #[34, 34] })
    (B : Nat) (v : Value) (n : Nat) (P : Pcs) (V : Nat → Value) (hs : a.eval s = v) (hown : w.ownsRow B 83 4 v n (cellsP P V n)) (b : Nat) (p : Pc) (u : Value) (hu : u.oneCell' = true) (hx : a.eval x = .slice (some ⟨b, 0, none⟩) 1 1)
    (hc : w.heap[b]? = some (.cells #[u, .int .i64 p.l, .int .i64 p.e, .int .i64 p.d] 83 (0, 0))) (hn : n + 1 ≤ 2097152) (hB : B ≤ w.heap.size)
    (hK : ∀ v' w', w'.ownsRow B 83 4 v' (n + 1) (cellsP (putP P n p) (putV V n u) (n + 1)) → w.grownBy w' v.ownBlock → (v'.ownBlock = v.ownBlock ∨ v'.ownBlock = some w.heap.size) → wpList Tryz.prog ops Q rest (a.put o.dst v') w') : wpList Tryz.prog ops Q (o :: rest) a w :=
  wpList_plain hgd fun _ hK' => wp_append_proc s x ho B v n P V hs hown b p u hu hx hc hn hB fun v' w' h2 h3 h4 => hK' _ _ (hK v' w' h2 h3 h4)
theorem step_append_proc {ops : Array Oper} {o : Oper} {a : Act} {K : Act → World → Prop} {Q : Exit → Act → World → Prop} {E : Prop} {w : World} (hgd : o.guard = none) (s x : Operand)
    (ho : o.op = .call { callee := .builtin .append, args := #[s, x], argTypes := #[34, 34] })
    (B : Nat) (v : Value) (n : Nat) (P : Pcs) (V : Nat → Value) (hs : a.eval s = v) (hown : w.ownsRow B 83 4 v n (cellsP P V n)) (b : Nat) (p : Pc) (u : Value) (hu : u.oneCell' = true) (hx : a.eval x = .slice (some ⟨b, 0, none⟩) 1 1)
    (hc : w.heap[b]? = some (.cells #[u, .int .i64 p.l, .int .i64 p.e, .int .i64 p.d] 83 (0, 0))) (hn : n + 1 ≤ 2097152) (hB : B ≤ w.heap.size)
    (hK : ∀ v' w', w'.ownsRow B 83 4 v' (n + 1) (cellsP (putP P n p) (putV V n u) (n + 1)) → w.grownBy w' v.ownBlock → (v'.ownBlock = v.ownBlock ∨ v'.ownBlock = some w.heap.size) → K (a.put o.dst v') w') :
    if Region.wanted o (yielded ops a.tmps) = true then Oper.wp Tryz.prog o a w K Q else E := by
  have hw : Region.wanted o (yielded ops a.tmps) = true := by simp [Region.wanted, hgd]
  rw [if_pos hw]
  exact wp_append_proc s x ho B v n P V hs hown b p u hu hx hc hn hB hK

end Go.Proofs.YtflekodaiejflaaGreatDoor

/-
  The laws' own helpers on lists of processors: measured, copied out of the law's argument, compared.
-/
namespace Go.Proofs.YtflekodaiejflaaGreatDoor
open Go.RowKit Go.Joins
set_option linter.unusedVariables false
set_option linter.unusedSimpArgs false

set_option maxRecDepth 100000 in
set_option maxHeartbeats 1000000 in
theorem szProcS_ok {v : Value} {m : Nat} {P : Pcs} {w : World} (h : RowPAt w v m P) (left : Int) (h1 : left ≤ 1048576) (hle : (m : Int) + (slotsP P m : Nat) ≤ left) :
    Calls Tryz.prog 19 #[v, .int .i64 left] w fun e w' => e = .returned (.int .i64 (left - m - (slotsP P m : Nat))) ∧ Below w.heap.size w w' := by
  obtain ⟨a, cap, rfl⟩ := h.form
  have H := Lib.hid h
  clear h
  have d0 : decide (left - (m : Int) < 0) = false := by simp; omega
  go_enter Tryz.func19, Tryz.ntmps19
  go_wp2
  go_loopw [1, 5] (fun q i wr => ∃ (k : Nat) (z : Int), k ≤ m ∧ i = .int .i64 k ∧ q = .int .i64 z ∧ z = left - m - (slotsP P k : Nat) ∧ Below w.heap.size w wr) (fun _ i _ => m - (intOf i).toNat)
  case atStart => exact ⟨0, left - m, Nat.zero_le _, rfl, rfl, by simp [slotsP], Below.refl _ _⟩
  case round =>
    obtain ⟨k, z, hk, rfl, rfl, hz, hbk⟩ := hrel
    by_cases hlt : k < m
    · rcases H.out with ⟨h0, _⟩ | ⟨b, off, cap', ev, hl, hc⟩
      · omega
      injection ev with ev1 ev2 ev3
      subst ev1 ev3
      have hs := slotsP_le P hlt
      have hs2 : slotsP P (k + 1) = slotsP P k + (P k).n := rfl
      obtain ⟨pa, pc, c0, c1, c2, c3, _⟩ := (hc k hlt).below hl hbk
      have i1 : (k : Int) < (m : Int) := by omega
      have i0 : (0 : Int) ≤ (k : Int) := by omega
      have hz0 : 0 ≤ z := by omega
      have hz1 : z ≤ 1048576 := by omega
      have hno : ¬ z < ((P k).n : Int) := by omega
      have hnm : (P k).n ≤ maxLen := by unfold maxLen; omega
      have SZ : ∀ W : World, Calls Tryz.prog 37 #[prV (.slice pa (P k).n pc) (P k).l (P k).e (P k).d, .int .i64 z] W fun x w' => x = .returned (.int .i64 (z - ((P k).n : Int))) ∧ Below W.heap.size W w' := fun W => by
        have := szProc_any (P k).l (P k).e (P k).d (v := .slice pa (P k).n pc) ⟨_, _, rfl⟩ z W hz0 hz1 hnm
        rwa [if_neg hno] at this
      have hk1 : z - ((P k).n : Int) = left - m - (slotsP P (k + 1) : Nat) := by omega
      obtain ⟨y, hy⟩ : ∃ y : Int, y = z - ((P k).n : Int) := ⟨_, rfl⟩
      rw [← hy] at hk1
      have hd : decide (y < 0) = false := by simp; omega
      have HS2 : ∀ W : World, Calls Tryz.prog 37 #[prV (.slice pa (P k).n pc) (P k).l (P k).e (P k).d, .int .i64 z] W fun x w' => x = .returned (.int .i64 y) ∧ Below W.heap.size W w' := fun W => by rw [hy]; exact SZ W
      have HS := Lib.hid HS2
      have HK := Lib.hid hk1
      clear SZ HS2 hy hno hnm hk1 hz
      go_wp2_with fail
      go_at_call 37; refine (HS.out _).mono ?_; rintro x w1 ⟨rfl, hb1⟩
      have hbn := btrans hbk hb1
      clear c0 c1 c2 c3 hb1 hs hs2 hc
      go_wp2
      exact ⟨⟨k + 1, y, by omega, by go_num, rfl, HK.out, hbn⟩, by simp only [intOf]; omega⟩
    · have hkm : k = m := by omega
      subst hkm
      have HZ := Lib.hid hz
      clear hz
      go_wp2
      go_ret
      exact ⟨ret_i64 HZ.out, hbk⟩

set_option maxRecDepth 100000 in
set_option maxHeartbeats 1000000 in
theorem szProcS_big {v : Value} {m : Nat} {P : Pcs} {w : World} (h : RowPAt w v m P) (hm : m ≤ maxLen) (hn : ∀ i, i < m → (P i).n ≤ maxLen) (left : Int) (h0 : 0 ≤ left) (h1 : left ≤ 1048576) (hle : left < (m : Int) + (slotsP P m : Nat)) :
    Calls Tryz.prog 19 #[v, .int .i64 left] w fun e w' => e = .returned (.int .i64 (-1)) ∧ Below w.heap.size w w' := by
  obtain ⟨a, cap, rfl⟩ := h.form
  have H := Lib.hid h
  clear h
  unfold maxLen at hm
  by_cases hb : left < (m : Int)
  · have d0 : decide (left - (m : Int) < 0) = true := by simp; omega
    go_enter Tryz.func19, Tryz.ntmps19
    go_wp2
    go_ret
    exact ⟨rfl, Below.refl _ _⟩
  have d0 : decide (left - (m : Int) < 0) = false := by simp; omega
  have HN := Lib.hid hn
  clear hn
  go_enter Tryz.func19, Tryz.ntmps19
  go_wp2
  go_loopw [1, 5] (fun q i wr => ∃ (k : Nat) (z : Int), k ≤ m ∧ i = .int .i64 k ∧ q = .int .i64 z ∧ z = left - m - (slotsP P k : Nat) ∧ 0 ≤ z ∧ Below w.heap.size w wr) (fun _ i _ => m - (intOf i).toNat)
  case atStart => exact ⟨0, left - m, Nat.zero_le _, rfl, rfl, by simp [slotsP], by omega, Below.refl _ _⟩
  case round =>
    obtain ⟨k, z, hk, rfl, rfl, hz, hz0, hbk⟩ := hrel
    by_cases hlt : k < m
    · rcases H.out with ⟨h0, _⟩ | ⟨b, off, cap', ev, hl, hc⟩
      · omega
      injection ev with ev1 ev2 ev3
      subst ev1 ev3
      have hs2 : slotsP P (k + 1) = slotsP P k + (P k).n := rfl
      obtain ⟨pa, pc, c0, c1, c2, c3, _⟩ := (hc k hlt).below hl hbk
      have i1 : (k : Int) < (m : Int) := by omega
      have i0 : (0 : Int) ≤ (k : Int) := by omega
      have hz1 : z ≤ 1048576 := by omega
      have hnm : (P k).n ≤ maxLen := HN.out k hlt
      by_cases hno : z < ((P k).n : Int)
      · have SZ : ∀ W : World, Calls Tryz.prog 37 #[prV (.slice pa (P k).n pc) (P k).l (P k).e (P k).d, .int .i64 z] W fun x w' => x = .returned (.int .i64 (-1)) ∧ Below W.heap.size W w' := fun W => by
          have := szProc_any (P k).l (P k).e (P k).d (v := .slice pa (P k).n pc) ⟨_, _, rfl⟩ z W hz0 hz1 hnm
          rwa [if_pos hno] at this
        have HS := Lib.hid SZ
        clear SZ hno hnm hz
        go_wp2_with fail
        go_at_call 37; refine (HS.out _).mono ?_; rintro x w1 ⟨rfl, hb1⟩
        have hbn := btrans hbk hb1
        clear c0 c1 c2 c3 hb1 hs2 hc
        go_wp2
        go_ret
        exact ⟨rfl, hbn⟩
      · have SZ : ∀ W : World, Calls Tryz.prog 37 #[prV (.slice pa (P k).n pc) (P k).l (P k).e (P k).d, .int .i64 z] W fun x w' => x = .returned (.int .i64 (z - ((P k).n : Int))) ∧ Below W.heap.size W w' := fun W => by
          have := szProc_any (P k).l (P k).e (P k).d (v := .slice pa (P k).n pc) ⟨_, _, rfl⟩ z W hz0 hz1 hnm
          rwa [if_neg hno] at this
        have HS := Lib.hid SZ
        have hk1 : z - ((P k).n : Int) = left - m - (slotsP P (k + 1) : Nat) := by omega
        have hk0 : 0 ≤ z - ((P k).n : Int) := by omega
        obtain ⟨y, hy⟩ : ∃ y : Int, y = z - ((P k).n : Int) := ⟨_, rfl⟩
        rw [← hy] at hk1 hk0
        have hd : decide (y < 0) = false := by simp; omega
        have HS2 : ∀ W : World, Calls Tryz.prog 37 #[prV (.slice pa (P k).n pc) (P k).l (P k).e (P k).d, .int .i64 z] W fun x w' => x = .returned (.int .i64 y) ∧ Below W.heap.size W w' := fun W => by rw [hy]; exact HS.out W
        have HS := Lib.hid HS2
        have HK := Lib.hid hk1
        clear SZ hno hnm HS2 hy hk1 hz
        go_wp2_with fail
        go_at_call 37; refine (HS.out _).mono ?_; rintro x w1 ⟨rfl, hb1⟩
        have hbn := btrans hbk hb1
        clear c0 c1 c2 c3 hb1 hs2 hc
        go_wp2
        exact ⟨⟨k + 1, y, by omega, by go_num, rfl, HK.out, hk0, hbn⟩, by simp only [intOf]; omega⟩
    · exfalso
      have hkm : k = m := by omega
      subst hkm
      omega

/-! ### copied -/
theorem proc_info : (Tryz.prog.info? 83).map (fun i => (i.zero, i.size, i.bytes)) = some (some (.agg #[.slice none 0 0, .int .i64 0, .int .i64 0, .int .i64 0]), 4, 48) := by kernel_rfl
theorem madeP_zero (n i : Nat) (hi : i < n) : (madeCells #[.slice none 0 0, .int .i64 0, .int .i64 0, .int .i64 0] (n * 4))[i * 4]? = some (.slice none 0 0) ∧ (madeCells #[.slice none 0 0, .int .i64 0, .int .i64 0, .int .i64 0] (n * 4))[i * 4 + 1]? = some (.int .i64 0) ∧ (madeCells #[.slice none 0 0, .int .i64 0, .int .i64 0, .int .i64 0] (n * 4))[i * 4 + 2]? = some (.int .i64 0) ∧ (madeCells #[.slice none 0 0, .int .i64 0, .int .i64 0, .int .i64 0] (n * 4))[i * 4 + 3]? = some (.int .i64 0) := by
  have m1 : (i * 4 + 1) % 4 = 1 := by omega
  have m2 : (i * 4 + 2) % 4 = 2 := by omega
  have m3 : (i * 4 + 3) % 4 = 3 := by omega
  refine ⟨?_, ?_, ?_, ?_⟩ <;> (rw [Array.getElem?_eq_getElem (by rw [size_madeCells]; omega)]; simp [madeCells, m1, m2, m3])
theorem list_made (w : World) (n : Nat) (hn : n ≤ maxLen) : ListAt (w.alloc (.cells (madeCells #[.slice none 0 0, .int .i64 0, .int .i64 0, .int .i64 0] (n * 4)) 83)) w.heap.size w.heap.size n n (fun _ => pc0) (fun _ => .slice none 0 0) :=
  ⟨Nat.le_refl _, Nat.le_refl _, hn, _, heap_alloc_new w _, size_madeCells _ _, fun i hi => madeP_zero n i hi⟩
theorem run_make_procs (n : Nat) (hn : n ≤ 1048576) : ∀ w : World, (Instr.makeSlice 34 (.int .i64 (n : Int)) (.int .i64 (n : Int))).run Tryz.prog w = .ok (.slice (some ⟨w.heap.size, 0, none⟩) n n) (w.alloc (.cells (madeCells #[.slice none 0 0, .int .i64 0, .int .i64 0, .int .i64 0] (n * 4)) 83)) := by
  intro w
  obtain ⟨i0, hi, hz, hs, hby⟩ := info_parts proc_info
  have hr := run_make (P := Tryz.prog) w 34 83 i0 _ Tryz.underlying34 hi hz .i64 .i64 (n : Int) (n : Int) (by omega) (by omega) (by rw [hby]; omega) (by omega)
  rw [hs] at hr
  simp only [Int.toNat_natCast] at hr
  exact hr
def upToP (P : Pcs) (k : Nat) : Pcs := fun i => if i < k then P i else pc0
theorem upToP_put {P : Pcs} {k n : Nat} : ∀ i, i < n → putP (upToP P k) k (P k) i = upToP P (k + 1) i := by
  intro i _
  unfold putP upToP
  by_cases e : i = k
  · subst e; simp
  · rw [if_neg e]
    by_cases h : i < k
    · rw [if_pos h, if_pos (by omega)]
    · rw [if_neg h, if_neg (by omega)]
/-- a call that makes a new list of processors -/
def NewPRow (m : Nat) (P : Pcs) (w : World) (e : Ending) (w' : World) : Prop := ∃ v, e = .returned v ∧ OwnPRow w' w.heap.size v m P ∧ Below w.heap.size w w'

set_option maxRecDepth 100000 in
set_option maxHeartbeats 2000000 in
theorem toProcS_any {v : Value} {m : Nat} {P : Pcs} {w : World} (hm : m ≤ 1048576) (hn : ∀ i, i < m → (P i).n ≤ 1048576) (h : RowPAt w v m P) :
    Calls Tryz.prog 24 #[v] w (NewPRow m P w) := by
  have hmk := run_make_procs m hm
  obtain ⟨a, cap, rfl⟩ := h.form
  have HO := Lib.hid ((list_made w m (by unfold maxLen; omega)).congr (Q := upToP P 0) (U := fun _ => .slice none 0 0) (fun i hi => by simp [upToP]) (fun _ _ => rfl))
  have HB := Lib.hid ((Below.refl w.heap.size w).alloc (Nat.le_refl _) (.cells (madeCells #[.slice none 0 0, .int .i64 0, .int .i64 0, .int .i64 0] (m * 4)) 83))
  have H := Lib.hid h
  have HN := Lib.hid hn
  clear h hn
  go_enter Tryz.func24, Tryz.ntmps24
  go_wp2
  go_loopw [4] (fun i wr => ∃ (k : Nat) (V : Nat → Value), k ≤ m ∧ i = .int .i64 k ∧ ListAt wr w.heap.size w.heap.size m m (upToP P k) V ∧ HeapsAt wr w.heap.size k P V ∧ Below w.heap.size w wr) (fun i _ => m - (intOf i).toNat)
  case atStart => exact ⟨0, _, Nat.zero_le _, rfl, HO.out, HeapsAt.zero _ _ _ _, HB.out⟩
  case round =>
    obtain ⟨k, V, hk, rfl, hLk, hHk, hbk⟩ := hrel
    by_cases hlt : k < m
    · rcases H.out with ⟨h0, _⟩ | ⟨b, off, cap', ev, hl, hc⟩
      · omega
      injection ev with ev1 ev2 ev3
      subst ev1 ev3
      have hpc := (hc k hlt).below hl hbk
      have hnk := HN.out k hlt
      obtain ⟨pa, pc, c0, c1, c2, c3, hrow⟩ := hpc
      have i1 : (k : Int) < (m : Int) := by omega
      have i0 : (0 : Int) ≤ (k : Int) := by omega
      go_wp2_with fail
      go_at_call 44; refine (toProc_any (P k).l (P k).e (P k).d hnk hrow).mono ?_; rintro x w1 ⟨u, rfl, hOu, hb1⟩
      have hL1 := hLk.below hb1
      have hH1 := hHk.push hb1 hbk.size (p := P k) hOu
      have hbk1 := btrans hbk hb1
      have fr := hL1.free
      have f0 := fr (k * 4); have f1 := fr (k * 4 + 1); have f2 := fr (k * 4 + 2); have f3 := fr (k * 4 + 3)
      obtain ⟨d0, d1, d2, d3⟩ := hL1.cells hlt
      obtain ⟨ua, uc, hu⟩ := hOu.value
      have hLn := (hL1.put hlt u (P k)).congr (upToP_put (P := P)) (fun _ _ => rfl)
      have hHn : HeapsAt (setP w1 w.heap.size k u (P k).l (P k).e (P k).d) w.heap.size (k + 1) P (putV V k u) :=
        (hH1.other (fun i hi x hx => heap_setP w1 w.heap.size k u _ _ _ (hL1.ne_heap (hH1.1 i hi) x hx))).congr (fun i hi => by unfold putP; split <;> simp_all) (fun _ _ => rfl)
      have kn := b_setP hbk1 (Nat.le_refl _) k u (P k).l (P k).e (P k).d
      subst hu
      clear hb1 fr c0 c1 c2 c3 hLk hHk hbk hL1 hH1 hbk1 hOu hrow hc
      go_wp2
      exact ⟨⟨k + 1, _, by omega, by go_num, hLn, hHn, kn⟩, by simp only [intOf]; omega⟩
    · have hkm : k = m := by omega
      subst hkm
      go_wp2
      go_ret
      exact ⟨_, rfl, .inr ⟨_, _, V, rfl, hLk.congr (fun i hi => by simp [upToP, hi]) (fun _ _ => rfl), hHk⟩, hbk⟩

/-! ### compared -/
set_option maxRecDepth 100000 in
set_option maxHeartbeats 2000000 in
theorem eqProcS_same {v1 v2 : Value} {m : Nat} {P : Pcs} {w : World} (hm : m ≤ 1048576) (hn : ∀ i, i < m → (P i).n ≤ 1048576) (h1 : RowPAt w v1 m P) (h2 : RowPAt w v2 m P) :
    Calls Tryz.prog 31 #[v1, v2] w fun e w' => e = .returned (.bool true) ∧ Below w.heap.size w w' := by
  obtain ⟨a1, k1, rfl⟩ := h1.form
  obtain ⟨a2, k2, rfl⟩ := h2.form
  have H1 := Lib.hid h1
  have H2 := Lib.hid h2
  have HN := Lib.hid hn
  clear h1 h2 hn
  go_enter Tryz.func31, Tryz.ntmps31
  go_wp2
  go_loopw [5] (fun i wr => ∃ k : Nat, k ≤ m ∧ i = .int .i64 k ∧ Below w.heap.size w wr) (fun i _ => m - (intOf i).toNat)
  case atStart => exact ⟨0, Nat.zero_le _, rfl, Below.refl _ _⟩
  case round =>
    obtain ⟨k, hk, rfl, hbk⟩ := hrel
    by_cases hlt : k < m
    · rcases H1.out with ⟨h0, _⟩ | ⟨b1, o1, cap1, ev, hl1, hc1⟩
      · omega
      injection ev with ev1 ev2 ev3
      subst ev1 ev3
      rcases H2.out with ⟨h0, _⟩ | ⟨b2, o2, cap2, ev, hl2, hc2⟩
      · omega
      injection ev with ev1 ev2 ev3
      subst ev1 ev3
      obtain ⟨pa, pc, c0, c1, c2, c3, r1⟩ := hc1 k hlt
      obtain ⟨qa, qc, e0, e1, e2, e3, r2⟩ := hc2 k hlt
      have far : ∀ wz : World, Below w.heap.size w wz → wz.cell? ⟨b1, o1 + k * 4, none⟩ = some (.slice pa (P k).n pc) ∧ wz.cell? ⟨b1, o1 + k * 4 + 1, none⟩ = some (.int .i64 (P k).l) ∧ wz.cell? ⟨b1, o1 + k * 4 + 2, none⟩ = some (.int .i64 (P k).e) ∧ wz.cell? ⟨b1, o1 + k * 4 + 3, none⟩ = some (.int .i64 (P k).d) ∧ wz.cell? ⟨b2, o2 + k * 4, none⟩ = some (.slice qa (P k).n qc) ∧ wz.cell? ⟨b2, o2 + k * 4 + 1, none⟩ = some (.int .i64 (P k).l) ∧ wz.cell? ⟨b2, o2 + k * 4 + 2, none⟩ = some (.int .i64 (P k).e) ∧ wz.cell? ⟨b2, o2 + k * 4 + 3, none⟩ = some (.int .i64 (P k).d) := fun wz hz =>
        ⟨(hz.cell (p := ⟨b1, o1 + k * 4, none⟩) hl1).trans c0, (hz.cell (p := ⟨b1, o1 + k * 4 + 1, none⟩) hl1).trans c1, (hz.cell (p := ⟨b1, o1 + k * 4 + 2, none⟩) hl1).trans c2, (hz.cell (p := ⟨b1, o1 + k * 4 + 3, none⟩) hl1).trans c3,
          (hz.cell (p := ⟨b2, o2 + k * 4, none⟩) hl2).trans e0, (hz.cell (p := ⟨b2, o2 + k * 4 + 1, none⟩) hl2).trans e1, (hz.cell (p := ⟨b2, o2 + k * 4 + 2, none⟩) hl2).trans e2, (hz.cell (p := ⟨b2, o2 + k * 4 + 3, none⟩) hl2).trans e3⟩
      have FAR := Lib.hid far
      have R1 := Lib.hid r1
      have R2 := Lib.hid r2
      have hnk := HN.out k hlt
      clear far c0 c1 c2 c3 e0 e1 e2 e3 r1 r2 hc1 hc2
      have i1 : (k : Int) < (m : Int) := by omega
      have i0 : (0 : Int) ≤ (k : Int) := by omega
      have kd := hbk.drew
      go_wp2
      go_region_held3 (fun w' => w'.cell? ⟨b1, o1 + k * 4, none⟩ = some (.slice pa (P k).n pc) ∧ w'.cell? ⟨b1, o1 + k * 4 + 1, none⟩ = some (.int .i64 (P k).l) ∧ w'.cell? ⟨b1, o1 + k * 4 + 2, none⟩ = some (.int .i64 (P k).e) ∧ w'.cell? ⟨b1, o1 + k * 4 + 3, none⟩ = some (.int .i64 (P k).d) ∧ w'.cell? ⟨b2, o2 + k * 4, none⟩ = some (.slice qa (P k).n qc) ∧ w'.cell? ⟨b2, o2 + k * 4 + 1, none⟩ = some (.int .i64 (P k).l) ∧ w'.cell? ⟨b2, o2 + k * 4 + 2, none⟩ = some (.int .i64 (P k).e) ∧ w'.cell? ⟨b2, o2 + k * 4 + 3, none⟩ = some (.int .i64 (P k).d))
        (first | exact FAR.out _ kd | go_keep)
        (first
          | (go_at_call 53; refine (eqProc_same (P k).l (P k).e (P k).d hnk (R1.out.below kd) (R2.out.below kd)).mono ?_; rintro e w1 ⟨rfl, hb1⟩
             replace kd := btrans kd hb1))
      go_wp2
      exact ⟨⟨k + 1, by omega, by go_num, kd⟩, by simp only [intOf]; omega⟩
    · go_wp2
      go_ret
      exact ⟨rfl, hbk⟩

end Go.Proofs.YtflekodaiejflaaGreatDoor

/-
  The laws' own helpers on lists of processors, second part: marked, looked at again; what writes only between two bounds.
-/
namespace Go.Proofs.YtflekodaiejflaaGreatDoor
open Go.RowKit Go.Joins
set_option linter.unusedVariables false
set_option linter.unusedSimpArgs false

/-! ### a call that writes only into the blocks from B on and before C, and into new ones -/
structure Mid (B C : Nat) (w w' : World) : Prop where
  os : w'.os = w.os
  tape : w'.tape = w.tape
  output : w'.output = w.output
  size : w.heap.size ≤ w'.heap.size
  block : ∀ k, k < w.heap.size → (k < B ∨ C ≤ k) → w'.heap[k]? = w.heap[k]?
theorem Mid.refl (B C : Nat) (w : World) : Mid B C w w := ⟨rfl, rfl, rfl, Nat.le_refl _, fun _ _ _ => rfl⟩
theorem Mid.trans {B C : Nat} {a b c : World} (h : Mid B C a b) (k : Mid B C b c) : Mid B C a c :=
  ⟨k.os.trans h.os, k.tape.trans h.tape, k.output.trans h.output, Nat.le_trans h.size k.size, fun i hi hx => (k.block i (Nat.lt_of_lt_of_le hi h.size) hx).trans (h.block i hi hx)⟩
theorem Mid.of_grown {B C : Nat} {w w' : World} {ob : Option Nat} (h : w.grownBy w' ob) (hx : ∀ x, ob = some x → B ≤ x ∧ x < C) : Mid B C w w' :=
  ⟨h.os, h.tape, h.output, h.size, fun k hk hn => h.block k hk (by intro e; have := hx k e.symm; omega)⟩
theorem Mid.of_below {B C : Nat} {w w' : World} (h : Below w.heap.size w w') : Mid B C w w' := ⟨h.os, h.tape, h.output, h.size, fun k hk _ => h.block k hk⟩
theorem Mid.set {B C : Nat} {a w : World} (h : Mid B C a w) {g : Nat} (h1 : B ≤ g) (h2 : g < C) (o : Nat) (u : Value) : Mid B C a (w.setCell ⟨g, o, none⟩ u) := by
  refine ⟨h.os, h.tape, h.output, ?_, fun k hk hx => (Below.heap_setCell w ⟨g, o, none⟩ u k (show k ≠ g by omega)).trans (h.block k hk hx)⟩
  have : (w.setCell ⟨g, o, none⟩ u).heap.size = w.heap.size := by simp
  rw [this]; exact h.size
theorem Mid.below {B C : Nat} {w w' : World} (h : Mid B C w w') (hB : B ≤ w.heap.size) : Below B w w' := ⟨h.os, h.tape, h.output, h.size, fun k hk => h.block k (by omega) (.inl hk)⟩
theorem Mid.wide {B C B' C' : Nat} {w w' : World} (h : Mid B C w w') (hB : B' ≤ B) (hC : C ≤ C') : Mid B' C' w w' := ⟨h.os, h.tape, h.output, h.size, fun k hk hx => h.block k hk (by omega)⟩

/-- a call that leaves the blocks of all types but these -/
def KeepsBut (T : List TypeId) (w w' : World) : Prop := ∀ (x : Nat) (cs : Array Value) (t : TypeId), w.heap[x]? = some (.cells cs t (0, 0)) → t ∉ T → w'.heap[x]? = w.heap[x]?
theorem KeepsBut.refl (T : List TypeId) (w : World) : KeepsBut T w w := fun _ _ _ _ _ => rfl
theorem KeepsBut.trans {T : List TypeId} {a b c : World} (h : KeepsBut T a b) (k : KeepsBut T b c) : KeepsBut T a c := fun x cs t hx ht => by
  have h1 := h x cs t hx ht
  exact (k x cs t (h1.trans hx) ht).trans h1
theorem KeepsBut.of_grown {T : List TypeId} {w w' : World} {ob : Option Nat} (h : w.grownBy w' ob) (hx : ∀ x, ob = some x → ∃ (cs : Array Value) (t : TypeId), w.heap[x]? = some (.cells cs t (0, 0)) ∧ t ∈ T) : KeepsBut T w w' := fun x cs t hc ht =>
  h.block x (lt_of_block hc) (fun e => by
    obtain ⟨cs', t', hc', ht'⟩ := hx x e.symm
    rw [hc] at hc'
    injection hc' with hc'
    injection hc' with _ h2 _
    exact ht (h2 ▸ ht'))
theorem KeepsBut.set {T : List TypeId} {a w : World} (h : KeepsBut T a w) {g : Nat} {cs : Array Value} {t : TypeId} (hg : w.heap[g]? = some (.cells cs t (0, 0))) (ht : t ∈ T) (o : Nat) (u : Value) : KeepsBut T a (w.setCell ⟨g, o, none⟩ u) := fun x cs' t' hc hn =>
  (Below.heap_setCell w ⟨g, o, none⟩ u x (show x ≠ g from fun e => by
    subst e
    have h1 := (h x cs' t' hc hn).trans hc
    rw [hg] at h1
    injection h1 with h1
    injection h1 with _ h2 _
    exact hn (h2 ▸ ht))).trans (h x cs' t' hc hn)
theorem KeepsBut.of_below {T : List TypeId} {w w' : World} (h : Below w.heap.size w w') : KeepsBut T w w' := fun x _ _ hc _ => h.block x (lt_of_block hc)
theorem OwnRow.typed {w : World} {B n : Nat} {v : Value} {f : Slots} (h : OwnRow w B v n f) : ∀ x, v.ownBlock = some x → ∃ (cs : Array Value) (t : TypeId), w.heap[x]? = some (.cells cs t (0, 0)) ∧ t ∈ [83, 133] := by
  intro x hx
  rcases h with ⟨_, rfl⟩ | ⟨g, cap, rfl, h⟩
  · simp [Value.ownBlock] at hx
  · simp [Value.ownBlock] at hx; subst hx
    obtain ⟨_, _, _, cur, hh, _⟩ := h
    exact ⟨cur, _, hh, by decide⟩
theorem ListAt.typed {w : World} {B g m cap : Nat} {P : Pcs} {V : Nat → Value} (h : ListAt w B g m cap P V) : ∃ cs : Array Value, w.heap[g]? = some (.cells cs 83 (0, 0)) := by
  obtain ⟨_, _, _, cur, hh, _⟩ := h
  exact ⟨cur, hh⟩

/-! ### marked -/
def markPc (p : Pc) (q : Int) : Pc := ⟨p.n, markF p.f q p.n, q + 2 * (p.n : Int), q + 2 * (p.n : Int) + 1, q + 2 * (p.n : Int) + 1 + 1⟩
def markAt (P : Pcs) (q : Int) (i : Nat) : Int := q + 2 * (slotsP P i : Nat) + 3 * (i : Int)
def markP (P : Pcs) (q : Int) (k : Nat) : Pcs := fun i => if i < k then markPc (P i) (markAt P q i) else P i
theorem markP_zero (P : Pcs) (q : Int) : markP P q 0 = P := by funext i; simp [markP]
theorem markP_at (P : Pcs) (q : Int) {m k : Nat} (h : k < m) : markP P q m k = markPc (P k) (markAt P q k) := by simp [markP, h]
theorem markP_put {P : Pcs} {q : Int} {k : Nat} (n : Nat) : ∀ i, i < n → putP (markP P q k) k (markPc (P k) (markAt P q k)) i = markP P q (k + 1) i := by
  intro i _
  unfold putP markP
  by_cases e : i = k
  · subst e; simp
  · rw [if_neg e]
    by_cases h : i < k
    · rw [if_pos h, if_pos (by omega)]
    · rw [if_neg h, if_neg (by omega)]
theorem markP_next (P : Pcs) (q : Int) (k : Nat) : markAt P q (k + 1) = markAt P q k + 2 * ((P k).n : Int) + 1 + 1 + 1 := by
  unfold markAt; rw [slotsP]; omega

abbrev setLed (w : World) (g k : Nat) (l e d : Int) : World := ((w.setCell ⟨g, k * 4 + 1, none⟩ (.int .i64 l)).setCell ⟨g, k * 4 + 2, none⟩ (.int .i64 e)).setCell ⟨g, k * 4 + 3, none⟩ (.int .i64 d)
theorem put3 {cur : Array Value} {m cap k : Nat} {P : Pcs} {V : Nat → Value} (hs : cur.size = cap * 4) (hk : k < cap) (hr : PcIn cur m P V) (p : Pc) :
    PcIn (((cur.setIfInBounds (k * 4 + 1) (.int .i64 p.l)).setIfInBounds (k * 4 + 2) (.int .i64 p.e)).setIfInBounds (k * 4 + 3) (.int .i64 p.d)) m (putP P k p) V := by
  intro i hi
  obtain ⟨h0, h1, h2, h3⟩ := hr i hi
  by_cases e : i = k
  · subst e
    rw [putP_same]
    refine ⟨?_, ?_, ?_, ?_⟩
    · rw [Array.getElem?_setIfInBounds_ne (by omega), Array.getElem?_setIfInBounds_ne (by omega), Array.getElem?_setIfInBounds_ne (by omega)]; exact h0
    · simp only [Array.getElem?_setIfInBounds, Array.size_setIfInBounds]; simp; try omega
    · simp only [Array.getElem?_setIfInBounds, Array.size_setIfInBounds]; simp; try omega
    · simp only [Array.getElem?_setIfInBounds, Array.size_setIfInBounds]; simp; try omega
  · rw [putP_other P p e]
    refine ⟨?_, ?_, ?_, ?_⟩
    · rw [Array.getElem?_setIfInBounds_ne (by omega), Array.getElem?_setIfInBounds_ne (by omega), Array.getElem?_setIfInBounds_ne (by omega)]; exact h0
    · rw [Array.getElem?_setIfInBounds_ne (by omega), Array.getElem?_setIfInBounds_ne (by omega), Array.getElem?_setIfInBounds_ne (by omega)]; exact h1
    · rw [Array.getElem?_setIfInBounds_ne (by omega), Array.getElem?_setIfInBounds_ne (by omega), Array.getElem?_setIfInBounds_ne (by omega)]; exact h2
    · rw [Array.getElem?_setIfInBounds_ne (by omega), Array.getElem?_setIfInBounds_ne (by omega), Array.getElem?_setIfInBounds_ne (by omega)]; exact h3
theorem ListAt.putLed {w : World} {B g m cap : Nat} {P : Pcs} {V : Nat → Value} (h : ListAt w B g m cap P V) {k : Nat} (hk : k < m) (p : Pc) : ListAt (setLed w g k p.l p.e p.d) B g m cap (putP P k p) V := by
  obtain ⟨h1, h2, h3, cur, hh, hs, hr⟩ := h
  refine ⟨h1, h2, h3, _, block_setCell (block_setCell (block_setCell hh (i := k * 4 + 1) _) (i := k * 4 + 2) _) (i := k * 4 + 3) _, by simp [hs], put3 hs (by omega) hr p⟩
theorem heap_setLed (w : World) (g k : Nat) (l e d : Int) {x : Nat} (hx : x ≠ g) : (setLed w g k l e d).heap[x]? = w.heap[x]? :=
  (Below.heap_setCell _ ⟨g, k * 4 + 3, none⟩ _ x hx).trans ((Below.heap_setCell _ ⟨g, k * 4 + 2, none⟩ _ x hx).trans (Below.heap_setCell _ ⟨g, k * 4 + 1, none⟩ _ x hx))
/-- the k-th one's slots are written -/
theorem HeapsAt.mark {w w' : World} {B m k : Nat} {P : Pcs} {V : Nat → Value} {p : Pc} (h : HeapsAt w B m P V) (hk : k < m) (ho : OwnRow w' B (V k) p.n p.f) (hg : w.grownBy w' (V k).ownBlock) : HeapsAt w' B m (putP P k p) V := by
  refine ⟨fun i hi => ?_, h.2⟩
  by_cases e : i = k
  · subst e; rw [putP_same]; exact ho
  · rw [putP_other P p e]
    have h1 := h.1 i hi
    have ap := h.2 i k hi hk e
    have lt := h1.lt_size
    rcases h1 with h1 | ⟨x, cap, ev, h1⟩
    · exact .inl h1
    · have eo : (V i).ownBlock = some x := by rw [ev]; rfl
      exact .inr ⟨x, cap, ev, h1.block (hg.block x (lt x eo) (fun e2 => ap x eo e2.symm))⟩
theorem ListAt.grown {w w' : World} {B g m cap : Nat} {P : Pcs} {V : Nat → Value} {ob : Option Nat} (h : ListAt w B g m cap P V) (hg : w.grownBy w' ob) (hn : ∀ x, ob = some x → x ≠ g) : ListAt w' B g m cap P V :=
  h.block (hg.block g h.lt (fun e => hn g e.symm rfl))

set_option maxRecDepth 100000 in
set_option maxHeartbeats 2000000 in
/-- a list of processors of the law's own, marked -/
theorem markProcS_any {B C g m cap : Nat} {P : Pcs} {V : Nat → Value} {w : World} (q : Int) (hq0 : 0 ≤ q) (hq1 : q + 2 * (slotsP P m : Nat) + 3 * (m : Int) ≤ 16777216) (hn : ∀ i, i < m → (P i).n ≤ 1048576) (hm : m ≤ 1048576)
    (hL : ListAt w B g m cap P V) (hH : HeapsAt w B m P V) (hgC : g < C) (hVC : ∀ i, i < m → ∀ x, (V i).ownBlock = some x → x < C) :
    Calls Tryz.prog 33 #[.slice (some ⟨g, 0, none⟩) m cap, .int .i64 q] w fun x w' => x = .returned (.int .i64 (markAt P q m)) ∧ ListAt w' B g m cap (markP P q m) V ∧ HeapsAt w' B m (markP P q m) V ∧ Mid B C w w' ∧ KeepsBut [83, 133] w w' := by
  have hBg := hL.1
  have HL := Lib.hid hL
  have HH := Lib.hid hH
  have HN := Lib.hid hn
  have HC := Lib.hid hVC
  clear hL hH hn hVC
  go_enter Tryz.func33, Tryz.ntmps33
  go_wp2
  go_loopw [1, 5] (fun y i wr => ∃ k : Nat, k ≤ m ∧ i = .int .i64 k ∧ y = .int .i64 (markAt P q k) ∧ ListAt wr B g m cap (markP P q k) V ∧ HeapsAt wr B m (markP P q k) V ∧ Mid B C w wr ∧ KeepsBut [83, 133] w wr) (fun _ i _ => m - (intOf i).toNat)
  case atStart => exact ⟨0, Nat.zero_le _, rfl, congrArg (Value.int .i64) (by simp [markAt, slotsP]), by rw [markP_zero]; exact HL.out, by rw [markP_zero]; exact HH.out, Mid.refl _ _ _, KeepsBut.refl _ _⟩
  case round =>
    obtain ⟨k, hk, rfl, rfl, hLk, hHk, hMk, hKk⟩ := hrel
    by_cases hlt : k < m
    · have hnk := HN.out k hlt
      have hsl := slotsP_le P hlt
      have ha0 : 0 ≤ markAt P q k := by unfold markAt; omega
      have ha1 : markAt P q k + 2 * ((P k).n : Int) ≤ 16777216 := by unfold markAt; omega
      have hne := markP_next P q k
      have hOk := hHk.1 k hlt
      have hPk : markP P q k k = P k := by simp [markP]
      rw [hPk] at hOk
      obtain ⟨va, vc, hv⟩ := hOk.value
      have hCk := HC.out k hlt
      have hneH := hLk.ne_heap hOk
      obtain ⟨c0, _, _, _⟩ := hLk.cells hlt
      have hBO : ∀ x, (V k).ownBlock = some x → B ≤ x ∧ x < C := fun x hx => ⟨by
        rcases hOk with ⟨_, e⟩ | ⟨x', cap', e, ho⟩
        · rw [e] at hx; simp [Value.ownBlock] at hx
        · rw [e] at hx; simp [Value.ownBlock] at hx; subst hx; exact ho.1, hCk x hx⟩
      have MK := fun W : World => markRow_any (w := W) (v := V k) (n := (P k).n) (f := (P k).f) (B := B) (markAt P q k) ha0 (by omega) hnk
      have HMK := Lib.hid MK
      have HNE := Lib.hid hne
      have i1 : (k : Int) < (m : Int) := by omega
      have i0 : (0 : Int) ≤ (k : Int) := by omega
      obtain ⟨y, hy⟩ : ∃ y : Int, y = markAt P q k := ⟨_, rfl⟩
      have HPk := Lib.hid hPk
      rw [hv] at c0
      rw [← hy] at ha0 ha1 ⊢
      have HY := Lib.hid hy
      have HV := Lib.hid hv
      clear hsl hne MK hy hPk hv
      go_wp2_with fail
      go_at_call 54; refine ((show Calls Tryz.prog 54 #[.slice va (P k).n vc, .int .i64 y] wr _ by rw [← HV.out, HY.out]; exact HMK.out wr hOk)).mono ?_; rintro x w1 ⟨rfl, hO1, hg1⟩
      rw [← HY.out]
      have hL1 := hLk.grown hg1 hneH
      have hH1 := hHk.mark (p := markPc (P k) (markAt P q k)) hlt hO1 hg1
      have hM1 := hMk.trans (Mid.of_grown hg1 hBO)
      have hK1 := hKk.trans (KeepsBut.of_grown hg1 hOk.typed)
      have fr := hL1.free
      have f1 := fr (k * 4 + 1); have f2 := fr (k * 4 + 2); have f3 := fr (k * 4 + 3)
      obtain ⟨_, d1, d2, d3⟩ := hL1.cells hlt
      have hLn := (hL1.putLed hlt (markPc (P k) (markAt P q k))).congr (markP_put (P := P) (q := q) m) (fun _ _ => rfl)
      have hHn : HeapsAt (setLed w1 g k (markPc (P k) (markAt P q k)).l (markPc (P k) (markAt P q k)).e (markPc (P k) (markAt P q k)).d) B m (markP P q (k + 1)) V :=
        (hH1.other (fun i hi x hx => heap_setLed w1 g k _ _ _ (hL1.ne_heap (hH1.1 i hi) x hx))).congr (markP_put (P := P) (q := q) m) (fun _ _ => rfl)
      have hMn : Mid B C w (setLed w1 g k (markPc (P k) (markAt P q k)).l (markPc (P k) (markAt P q k)).e (markPc (P k) (markAt P q k)).d) := ((hM1.set hBg hgC _ _).set hBg hgC _ _).set hBg hgC _ _
      have hKn : KeepsBut [83, 133] w (setLed w1 g k (markPc (P k) (markAt P q k)).l (markPc (P k) (markAt P q k)).e (markPc (P k) (markAt P q k)).d) := by
        obtain ⟨cs, hcs⟩ := hL1.typed
        have s1 := hK1.set hcs (by decide) (k * 4 + 1) (.int .i64 (markPc (P k) (markAt P q k)).l)
        have s2 := s1.set (block_setCell (i := k * 4 + 1) hcs (.int .i64 (markPc (P k) (markAt P q k)).l)) (by decide) (k * 4 + 2) (.int .i64 (markPc (P k) (markAt P q k)).e)
        exact s2.set (block_setCell (i := k * 4 + 2) (block_setCell (i := k * 4 + 1) hcs (.int .i64 (markPc (P k) (markAt P q k)).l)) (.int .i64 (markPc (P k) (markAt P q k)).e)) (by decide) (k * 4 + 3) _
      unfold markPc at hLn hHn hMn hKn
      rw [← HY.out] at hLn hHn hMn hKn
      clear fr c0 hLk hHk hMk hL1 hH1 hM1 hO1 hg1 hOk hneH hBO hK1 hKk
      go_wp2
      exact ⟨⟨k + 1, by omega, by go_num, congrArg (Value.int .i64) (by rw [HNE.out, ← HY.out]), hLn, hHn, hMn, hKn⟩, by simp only [intOf]; omega⟩
    · have hkm : k = m := by omega
      subst hkm
      go_wp2
      go_ret
      exact ⟨rfl, hLk, hHk, hMk, hKk⟩

set_option maxHeartbeats 400000 in
theorem markProcS_nil (q : Int) (w : World) :
    Calls Tryz.prog 33 #[.slice none 0 0, .int .i64 q] w fun e w' => e = .returned (.int .i64 q) ∧ w = w' := by
  go_enter Tryz.func33, Tryz.ntmps33
  go_wp2
  go_loop [1, 5] (fun y i => i = .int .i64 0 ∧ y = .int .i64 q) (fun _ _ => 0)
  case atStart => exact ⟨rfl, rfl⟩
  case round =>
    obtain ⟨rfl, rfl⟩ := hrel
    go_wp2
    go_ret
    exact ⟨rfl, rfl⟩

set_option maxRecDepth 100000 in
set_option maxHeartbeats 2000000 in
/-- looked at again -/
theorem heldProcS_any {v : Value} {m : Nat} {P : Pcs} {w : World} (q : Int) (hq0 : 0 ≤ q) (hq1 : q + 2 * (slotsP P m : Nat) + 3 * (m : Int) ≤ 16777216) (hn : ∀ i, i < m → (P i).n ≤ 1048576) (hm : m ≤ 1048576) (h : RowPAt w v m (markP P q m)) :
    Calls Tryz.prog 56 #[v, .int .i64 q] w fun e w' => e = .returned (.int .i64 (markAt P q m)) ∧ w = w' := by
  obtain ⟨a, cap, rfl⟩ := h.form
  have H := Lib.hid h
  have HN := Lib.hid hn
  clear h hn
  go_enter Tryz.func56, Tryz.ntmps56
  go_wp2
  go_loop [1, 5] (fun y i => ∃ k : Nat, k ≤ m ∧ i = .int .i64 k ∧ y = .int .i64 (markAt P q k)) (fun _ i => m - (intOf i).toNat)
  case atStart => exact ⟨0, Nat.zero_le _, rfl, congrArg (Value.int .i64) (by simp [markAt, slotsP])⟩
  case round =>
    obtain ⟨k, hk, rfl, rfl⟩ := hrel
    by_cases hlt : k < m
    · rcases H.out with ⟨h0, _⟩ | ⟨b, off, cap', ev, hl, hc⟩
      · omega
      injection ev with ev1 ev2 ev3
      subst ev1 ev3
      have hnk := HN.out k hlt
      have hsl := slotsP_le P hlt
      have ha0 : 0 ≤ markAt P q k := by unfold markAt; omega
      have ha1 : markAt P q k + 2 * ((P k).n : Int) + 3 ≤ 16777216 := by unfold markAt; omega
      have hne := markP_next P q k
      obtain ⟨pa, pc, c0, c1, c2, c3, hr⟩ := hc k hlt
      rw [markP_at P q hlt] at c0 c1 c2 c3 hr
      unfold markPc at c0 c1 c2 c3 hr
      have i1 : (k : Int) < (m : Int) := by omega
      have i0 : (0 : Int) ≤ (k : Int) := by omega
      have HLD := Lib.hid (heldSlotS_any (markAt P q k) ha0 (by omega) hnk hr)
      have HNE := Lib.hid hne
      clear hr hne hsl hc
      generalize markAt P q k = y at *
      generalize (P k).n = nk at *
      generalize (P k).f = fk at *
      go_wp2_with fail
      go_at_call 81; refine HLD.out.mono ?_; rintro x w1 ⟨rfl, rfl⟩
      go_wp2
      exact ⟨⟨k + 1, by omega, by go_num, congrArg (Value.int .i64) HNE.out.symm⟩, by simp only [intOf]; omega⟩
    · have hkm : k = m := by omega
      subst hkm
      go_wp2
      go_ret
      exact ⟨rfl, rfl⟩

end Go.Proofs.YtflekodaiejflaaGreatDoor

/-
  Is there such a processor (spec, chapter 1)?
-/
namespace Go.Proofs.YtflekodaiejflaaGreatDoor
open Go.RowKit
set_option linter.unusedVariables false
set_option linter.unusedSimpArgs false

def procB (a b c w : Int) : Bool := planB a b c && inB w 0 (a - 1)

theorem procB_no {a b c w : Int} (h : planB a b c = false) : procB a b c w = false := by simp [procB, h]

theorem procB_out {a b c w : Int} (h : inB w 0 (a - 1) = false) : procB a b c w = false := by simp [procB, h]

theorem procB_yes {a b c w : Int} (h : planB a b c = true) (h1 : inB w 0 (a - 1) = true) : procB a b c w = true := by simp [procB, h, h1]

theorem procB_iff {a b c w : Int} : procB a b c w = true ↔ planB a b c = true ∧ 0 ≤ w ∧ w ≤ a - 1 := by simp [procB, inB_iff]

set_option maxHeartbeats 400000 in
theorem l1Proc_any (a b c n : Int) (w : World) :
    Calls Tryz.prog 127 #[.agg #[.int .i64 a, .int .i64 b, .int .i64 c], .int .i64 n] w fun e w' => e = .returned (.bool (procB a b c n)) ∧ Below w.heap.size w w' := by
  cases h1 : planB a b c
  · rw [procB_no h1]
    go_enter Tryz.func127, Tryz.ntmps127
    go_wp2_with (go_at_call 90; refine (spPlanOk_any _ _ _ _).mono ?_; rintro e w1 ⟨rfl, hb⟩)
    go_ret
    exact ⟨rfl, ((Below.refl _ _).alloc (Nat.le_refl _) _).trans (hb.mono (by simp))⟩
  · obtain ⟨⟨b2, b3⟩, b1, b4⟩ := planB_iff.1 h1
    cases h2 : inB n 0 (a - 1)
    · rw [procB_out h2]
      go_enter Tryz.func127, Tryz.ntmps127
      go_wp2_with (first
        | (go_at_call 90; refine (spPlanOk_any _ _ _ _).mono ?_; rintro e w1 ⟨rfl, hb⟩; obtain ⟨hc, hf⟩ := bcell hb)
        | (go_at_call 91; refine (l1In_any _ _ _ _).mono ?_; rintro e w' ⟨rfl, rfl⟩))
      go_ret
      exact ⟨rfl, ((Below.refl _ _).alloc (Nat.le_refl _) _).trans (hb.mono (by simp))⟩
    · rw [procB_yes h1 h2]
      go_enter Tryz.func127, Tryz.ntmps127
      go_wp2_with (first
        | (go_at_call 90; refine (spPlanOk_any _ _ _ _).mono ?_; rintro e w1 ⟨rfl, hb⟩; obtain ⟨hc, hf⟩ := bcell hb)
        | (go_at_call 91; refine (l1In_any _ _ _ _).mono ?_; rintro e w' ⟨rfl, rfl⟩))
      go_ret
      exact ⟨rfl, ((Below.refl _ _).alloc (Nat.le_refl _) _).trans (hb.mono (by simp))⟩

end Go.Proofs.YtflekodaiejflaaGreatDoor

/-
  A flag that is answered is the one told.
-/
namespace Go.Proofs.YtflekodaiejflaaGreatDoor
open Go.RowKit Go.Joins
set_option linter.unusedVariables false
set_option linter.unusedSimpArgs false

theorem ret_bool' {a b : Bool} (h : a = b) : Ending.returned (.bool a) = .returned (.bool b) := by rw [h]

end Go.Proofs.YtflekodaiejflaaGreatDoor

/-
  Timers (spec, chapter 3): what the model answers.
-/
namespace Go.Proofs.YtflekodaiejflaaGreatDoor
open Go.RowKit
set_option linter.unusedVariables false
set_option linter.unusedSimpArgs false

/-- a timer's eight numbers -/
structure Tm where
  st : Int
  wh : Int
  nx : Int
  pe : Int
  pl : Int
  ge : Int
  ki : Int
  ma : Int
abbrev tmCells (t : Tm) : Array Value := #[.int .i64 t.st, .int .i64 t.wh, .int .i64 t.nx, .int .i64 t.pe, .int .i64 t.pl, .int .i64 t.ge, .int .i64 t.ki, .int .i64 t.ma]
abbrev tmV (t : Tm) : Value := .agg #[.int .i64 t.st, .int .i64 t.wh, .int .i64 t.nx, .int .i64 t.pe, .int .i64 t.pl, .int .i64 t.ge, .int .i64 t.ki, .int .i64 t.ma]

/-- does it stand in a heap? -/
def inHeapB (s : Int) : Bool := s == 1 || (s == 3 || (s == 4 || (s == 5 || s == 6)))

set_option maxHeartbeats 400000 in
theorem spInHeap_any (s : Int) (w : World) :
    Calls Tryz.prog 126 #[.int .i64 s] w fun e w' => e = .returned (.bool (inHeapB s)) ∧ w = w' := by
  by_cases h1 : s = 1
  · subst h1
    go_enter Tryz.func126, Tryz.ntmps126
    go_wp2
    go_ret
    exact ⟨rfl, rfl⟩
  by_cases h3 : s = 3
  · subst h3
    go_enter Tryz.func126, Tryz.ntmps126
    go_wp2
    go_ret
    exact ⟨rfl, rfl⟩
  by_cases h4 : s = 4
  · subst h4
    go_enter Tryz.func126, Tryz.ntmps126
    go_wp2
    go_ret
    exact ⟨rfl, rfl⟩
  by_cases h5 : s = 5
  · subst h5
    go_enter Tryz.func126, Tryz.ntmps126
    go_wp2
    go_ret
    exact ⟨rfl, rfl⟩
  by_cases h6 : s = 6
  · subst h6
    go_enter Tryz.func126, Tryz.ntmps126
    go_wp2
    go_ret
    exact ⟨rfl, rfl⟩
  have e : inHeapB s = false := by simp [inHeapB, h1, h3, h4, h5, h6]
  rw [e]
  have b1 : (s == 1) = false := by simpa using h1
  have b3 : (s == 3) = false := by simpa using h3
  have b4 : (s == 4) = false := by simpa using h4
  have b5 : (s == 5) = false := by simpa using h5
  have b6 : (s == 6) = false := by simpa using h6
  go_enter Tryz.func126, Tryz.ntmps126
  go_wp2
  go_ret
  exact ⟨rfl, rfl⟩

/-- may a become b? -/
def passB (a b : Int) : Bool :=
  if a = 0 then b == 2 else if a = 7 then b == 2 else if a = 1 then b == 2 || b == 6 else
  if a = 2 then b == 1 || (b == 3 || (b == 4 || b == 5)) else if a = 3 then b == 2 || b == 1 else if a = 4 then b == 2 || b == 1 else
  if a = 5 then b == 2 || b == 7 else if a = 6 then b == 1 || b == 0 else false

end Go.Proofs.YtflekodaiejflaaGreatDoor

/-
  Lists of timers in memory: one that is read, and one that the call itself made.
-/
namespace Go.Proofs.YtflekodaiejflaaGreatDoor
open Go.RowKit Go.Joins
set_option linter.unusedVariables false
set_option linter.unusedSimpArgs false

abbrev Tms := Nat → Tm
/-- a timer's numbers, by their places -/
def tmAt (t : Tm) : Nat → Int
  | 0 => t.st
  | 1 => t.wh
  | 2 => t.nx
  | 3 => t.pe
  | 4 => t.pl
  | 5 => t.ge
  | 6 => t.ki
  | 7 => t.ma
  | _ => 0
def putT (f : Tms) (i : Nat) (t : Tm) : Tms := fun k => if k = i then t else f k
theorem putT_same (f : Tms) (i : Nat) (t : Tm) : putT f i t i = t := by simp [putT]
theorem putT_other (f : Tms) {i k : Nat} (t : Tm) (h : k ≠ i) : putT f i t k = f k := by simp [putT, h]
theorem below8 {P : Nat → Prop} (h0 : P 0) (h1 : P 1) (h2 : P 2) (h3 : P 3) (h4 : P 4) (h5 : P 5) (h6 : P 6) (h7 : P 7) : ∀ j, j < 8 → P j
  | 0, _ => h0
  | 1, _ => h1
  | 2, _ => h2
  | 3, _ => h3
  | 4, _ => h4
  | 5, _ => h5
  | 6, _ => h6
  | 7, _ => h7
  | _ + 8, h => by omega

/-! ### a list that is read -/
def RowTAt (w : World) (v : Value) (n : Nat) (f : Tms) : Prop :=
  (n = 0 ∧ ∃ a cap, v = .slice a 0 cap) ∨ ∃ b off cap, v = .slice (some ⟨b, off, none⟩) n cap ∧ b < w.heap.size ∧
    ∀ i, i < n → ∀ j, j < 8 → w.cell? ⟨b, off + i * 8 + j, none⟩ = some (.int .i64 (tmAt (f i) j))
theorem RowTAt.form {w : World} {v : Value} {n : Nat} {f : Tms} (h : RowTAt w v n f) : ∃ a cap, v = .slice a n cap := by
  rcases h with ⟨rfl, a, cap, rfl⟩ | ⟨b, off, cap, rfl, _⟩
  · exact ⟨_, _, rfl⟩
  · exact ⟨_, _, rfl⟩
theorem RowTAt.below {w w' : World} {v : Value} {n : Nat} {f : Tms} (h : RowTAt w v n f) (hb : Below w.heap.size w w') : RowTAt w' v n f := by
  rcases h with h | ⟨b, off, cap, rfl, hl, hc⟩
  · exact .inl h
  · exact .inr ⟨b, off, cap, rfl, Nat.lt_of_lt_of_le hl hb.size, fun i hi j hj => (hb.cell (p := ⟨b, off + i * 8 + j, none⟩) hl).trans (hc i hi j hj)⟩
theorem RowTAt.congr {w : World} {v : Value} {n : Nat} {f g : Tms} (h : RowTAt w v n f) (e : ∀ i, i < n → f i = g i) : RowTAt w v n g := by
  rcases h with h | ⟨b, off, cap, rfl, hl, hc⟩
  · exact .inl h
  · exact .inr ⟨b, off, cap, rfl, hl, fun i hi => by rw [← e i hi]; exact hc i hi⟩
theorem RowTAt.drew {w : World} {v : Value} {n : Nat} {f : Tms} (h : RowTAt w v n f) : RowTAt w.drew v n f := h
theorem RowTAt.drewN {w : World} {v : Value} {n : Nat} {f : Tms} (h : RowTAt w v n f) (k : Nat) : RowTAt (w.drewN k) v n f := h

/-! ### a list that the call made -/
def RowTIn (cur : Array Value) (n : Nat) (f : Tms) : Prop := ∀ i, i < n → ∀ j, j < 8 → cur[i * 8 + j]? = some (.int .i64 (tmAt (f i) j))
def OwnTAt (w : World) (B g n cap : Nat) (f : Tms) : Prop :=
  B ≤ g ∧ n ≤ cap ∧ cap ≤ maxLen ∧ ∃ cur, w.heap[g]? = some (.cells cur 80 (0, 0)) ∧ cur.size = cap * 8 ∧ RowTIn cur n f
def OwnTRow (w : World) (B : Nat) (v : Value) (n : Nat) (f : Tms) : Prop :=
  (n = 0 ∧ v = .slice none 0 0) ∨ ∃ g cap, v = .slice (some ⟨g, 0, none⟩) n cap ∧ OwnTAt w B g n cap f
theorem OwnTAt.lt {w : World} {B g n cap : Nat} {f : Tms} (h : OwnTAt w B g n cap f) : g < w.heap.size := by
  obtain ⟨_, _, _, cur, hh, _⟩ := h
  exact lt_of_block hh
theorem OwnTAt.cells {w : World} {B g n cap : Nat} {f : Tms} (h : OwnTAt w B g n cap f) {i : Nat} (hi : i < n) :
    ∀ j, j < 8 → w.cell? ⟨g, i * 8 + j, none⟩ = some (.int .i64 (tmAt (f i) j)) := by
  obtain ⟨_, _, _, cur, hh, _, hr⟩ := h
  exact fun j hj => (cell_of_block hh _).trans (hr i hi j hj)
theorem OwnTAt.free {w : World} {B g n cap : Nat} {f : Tms} (h : OwnTAt w B g n cap f) (o : Nat) : w.frozen? ⟨g, o, none⟩ = false := by
  obtain ⟨_, _, _, cur, hh, _⟩ := h
  exact unfrozen_of_block hh o
theorem OwnTAt.row {w : World} {B g n cap : Nat} {f : Tms} (h : OwnTAt w B g n cap f) : RowTAt w (.slice (some ⟨g, 0, none⟩) n cap) n f :=
  .inr ⟨g, 0, cap, rfl, h.lt, fun i hi j hj => by simpa using h.cells hi j hj⟩
theorem OwnTRow.row {w : World} {B n : Nat} {v : Value} {f : Tms} (h : OwnTRow w B v n f) : RowTAt w v n f := by
  rcases h with ⟨rfl, rfl⟩ | ⟨g, cap, rfl, h⟩
  · exact .inl ⟨rfl, _, _, rfl⟩
  · exact h.row
theorem OwnTAt.own {w : World} {B g n cap : Nat} {f : Tms} (h : OwnTAt w B g n cap f) : OwnTRow w B (.slice (some ⟨g, 0, none⟩) n cap) n f := .inr ⟨g, cap, rfl, h⟩
theorem OwnTAt.block {w w' : World} {B g n cap : Nat} {f : Tms} (h : OwnTAt w B g n cap f) (e : w'.heap[g]? = w.heap[g]?) : OwnTAt w' B g n cap f := by
  obtain ⟨h1, h2, h3, cur, hh, r⟩ := h
  exact ⟨h1, h2, h3, cur, e.trans hh, r⟩
theorem OwnTAt.below {w w' : World} {B g n cap : Nat} {f : Tms} (h : OwnTAt w B g n cap f) (hb : Below w.heap.size w w') : OwnTAt w' B g n cap f := h.block (hb.block g h.lt)
theorem OwnTAt.alloc {w : World} {B g n cap : Nat} {f : Tms} (h : OwnTAt w B g n cap f) (o : Obj) : OwnTAt (w.alloc o) B g n cap f := h.block (Below.heap_alloc w o g h.lt)
theorem OwnTAt.drewN {w : World} {B g n cap : Nat} {f : Tms} (h : OwnTAt w B g n cap f) (k : Nat) : OwnTAt (w.drewN k) B g n cap f := h
theorem OwnTAt.drew {w : World} {B g n cap : Nat} {f : Tms} (h : OwnTAt w B g n cap f) : OwnTAt w.drew B g n cap f := h
theorem OwnTAt.mono {w : World} {B B' g n cap : Nat} {f : Tms} (h : OwnTAt w B g n cap f) (hB : B' ≤ B) : OwnTAt w B' g n cap f := by
  obtain ⟨h1, r⟩ := h
  exact ⟨Nat.le_trans hB h1, r⟩
theorem OwnTAt.congr {w : World} {B g n cap : Nat} {f f' : Tms} (h : OwnTAt w B g n cap f) (e : ∀ i, i < n → f i = f' i) : OwnTAt w B g n cap f' := by
  obtain ⟨h1, h2, h3, cur, hh, hs, hr⟩ := h
  exact ⟨h1, h2, h3, cur, hh, hs, fun i hi => by rw [← e i hi]; exact hr i hi⟩
theorem OwnTAt.cut {w : World} {B g n m cap : Nat} {f : Tms} (h : OwnTAt w B g n cap f) (hm : m ≤ n) : OwnTAt w B g m cap f := by
  obtain ⟨h1, h2, h3, cur, hh, hs, hr⟩ := h
  exact ⟨h1, Nat.le_trans hm h2, h3, cur, hh, hs, fun i hi => hr i (Nat.lt_of_lt_of_le hi hm)⟩
theorem OwnTRow.below {w w' : World} {B n : Nat} {v : Value} {f : Tms} (h : OwnTRow w B v n f) (hb : Below w.heap.size w w') : OwnTRow w' B v n f := by
  rcases h with h | ⟨g, cap, e, h⟩
  · exact .inl h
  · exact .inr ⟨g, cap, e, h.below hb⟩
theorem OwnTRow.mono {w : World} {B B' n : Nat} {v : Value} {f : Tms} (h : OwnTRow w B v n f) (hB : B' ≤ B) : OwnTRow w B' v n f := by
  rcases h with h | ⟨g, cap, e, h⟩
  · exact .inl h
  · exact .inr ⟨g, cap, e, h.mono hB⟩
theorem OwnTRow.congr {w : World} {B n : Nat} {v : Value} {f f' : Tms} (h : OwnTRow w B v n f) (e : ∀ i, i < n → f i = f' i) : OwnTRow w B v n f' := by
  rcases h with h | ⟨g, cap, e1, h⟩
  · exact .inl h
  · exact .inr ⟨g, cap, e1, h.congr e⟩
theorem OwnTRow.set {w : World} {B n : Nat} {v : Value} {f : Tms} (h : OwnTRow w B v n f) {b : Nat} (hb : b < B) (o : Nat) (u : Value) : OwnTRow (w.setCell ⟨b, o, none⟩ u) B v n f := by
  rcases h with h | ⟨g, cap, e, h⟩
  · exact .inl h
  · exact .inr ⟨g, cap, e, h.block (Below.heap_setCell w ⟨b, o, none⟩ u g (by have := h.1; intro e; subst e; exact absurd hb (by simpa using this)))⟩

/-- a timer is stored -/
abbrev setT (w : World) (g k : Nat) (t : Tm) : World := ((((((((w.setCell ⟨g, k * 8, none⟩ (.int .i64 t.st)).setCell ⟨g, k * 8 + 1, none⟩ (.int .i64 t.wh)).setCell ⟨g, k * 8 + 2, none⟩ (.int .i64 t.nx)).setCell ⟨g, k * 8 + 3, none⟩ (.int .i64 t.pe)).setCell ⟨g, k * 8 + 4, none⟩ (.int .i64 t.pl)).setCell ⟨g, k * 8 + 5, none⟩ (.int .i64 t.ge)).setCell ⟨g, k * 8 + 6, none⟩ (.int .i64 t.ki)).setCell ⟨g, k * 8 + 7, none⟩ (.int .i64 t.ma))
theorem put8 {cur : Array Value} {n cap k : Nat} {f : Tms} (hs : cur.size = cap * 8) (hk : k < cap) (hr : RowTIn cur n f) (t : Tm) :
    RowTIn ((((((((cur.setIfInBounds (k * 8) (.int .i64 t.st)).setIfInBounds (k * 8 + 1) (.int .i64 t.wh)).setIfInBounds (k * 8 + 2) (.int .i64 t.nx)).setIfInBounds (k * 8 + 3) (.int .i64 t.pe)).setIfInBounds (k * 8 + 4) (.int .i64 t.pl)).setIfInBounds (k * 8 + 5) (.int .i64 t.ge)).setIfInBounds (k * 8 + 6) (.int .i64 t.ki)).setIfInBounds (k * 8 + 7) (.int .i64 t.ma)) n (putT f k t) := by
  intro i hi j hj
  by_cases e : i = k
  · subst e
    rw [putT_same]
    revert j
    apply below8 <;> (simp only [Array.getElem?_setIfInBounds, Array.size_setIfInBounds, tmAt]; simp; try omega)
  · rw [putT_other f t e]
    have hx : ∀ c, c < 8 → ¬ k * 8 + c = i * 8 + j := fun c hc => by omega
    rw [Array.getElem?_setIfInBounds_ne (by omega), Array.getElem?_setIfInBounds_ne (by omega), Array.getElem?_setIfInBounds_ne (by omega), Array.getElem?_setIfInBounds_ne (by omega), Array.getElem?_setIfInBounds_ne (by omega), Array.getElem?_setIfInBounds_ne (by omega), Array.getElem?_setIfInBounds_ne (by omega), Array.getElem?_setIfInBounds_ne (by omega)]
    exact hr i hi j hj
theorem OwnTAt.put {w : World} {B g n cap : Nat} {f : Tms} (h : OwnTAt w B g n cap f) {k : Nat} (hk : k < n) (t : Tm) : OwnTAt (setT w g k t) B g n cap (putT f k t) := by
  obtain ⟨h1, h2, h3, cur, hh, hs, hr⟩ := h
  refine ⟨h1, h2, h3, _, block_setCell (block_setCell (block_setCell (block_setCell (block_setCell (block_setCell (block_setCell (block_setCell hh (i := k * 8) _) (i := k * 8 + 1) _) (i := k * 8 + 2) _) (i := k * 8 + 3) _) (i := k * 8 + 4) _) (i := k * 8 + 5) _) (i := k * 8 + 6) _) (i := k * 8 + 7) _, by simp [hs], put8 hs (by omega) hr t⟩

/-! ### append -/
def cellsT (f : Tms) : Nat → List Value
  | 0 => []
  | n + 1 => cellsT f n ++ [.int .i64 (f n).st, .int .i64 (f n).wh, .int .i64 (f n).nx, .int .i64 (f n).pe, .int .i64 (f n).pl, .int .i64 (f n).ge, .int .i64 (f n).ki, .int .i64 (f n).ma]
theorem cellsT_length (f : Tms) : ∀ n, (cellsT f n).length = n * 8
  | 0 => rfl
  | n + 1 => by rw [cellsT, List.length_append, cellsT_length f n]; simp; omega
theorem cellsT_get (f : Tms) : ∀ n i, i < n → ∀ j, j < 8 → (cellsT f n)[i * 8 + j]? = some (.int .i64 (tmAt (f i) j))
  | 0, i, h => absurd h (Nat.not_lt_zero _)
  | n + 1, i, h => by
    intro j hj
    rw [cellsT]
    by_cases e : i = n
    · subst e
      rw [List.getElem?_append_right (by rw [cellsT_length]; omega), cellsT_length, Nat.add_sub_cancel_left]
      revert j
      apply below8 <;> rfl
    · rw [List.getElem?_append_left (by rw [cellsT_length]; omega)]
      exact cellsT_get f n i (by omega) j hj
theorem cellsT_at (f : Tms) (n k : Nat) (u : Value) (h : (cellsT f n)[k]? = some u) : ∃ i j, i < n ∧ j < 8 ∧ k = i * 8 + j ∧ u = .int .i64 (tmAt (f i) j) := by
  have hk : k < n * 8 := by
    have := (List.getElem?_eq_some_iff.1 h).1
    rwa [cellsT_length] at this
  refine ⟨k / 8, k % 8, by omega, by omega, by omega, ?_⟩
  have := cellsT_get f n (k / 8) (by omega) (k % 8) (by omega)
  rw [show k / 8 * 8 + k % 8 = k by omega, h] at this
  injection this
theorem cellsT_one (f : Tms) (n : Nat) : ∀ u ∈ cellsT f n, u.oneCell' = true := by
  intro u hu
  obtain ⟨k, hk, e⟩ := List.getElem_of_mem hu
  obtain ⟨i, j, _, _, _, rfl⟩ := cellsT_at f n k u (by rw [List.getElem?_eq_getElem hk, e])
  rfl
theorem ownT_of_row {w : World} {B n : Nat} {v : Value} {f : Tms} (h : w.ownsRow B 80 8 v n (cellsT f n)) : OwnTRow w B v n f := by
  rcases h.2 with ⟨rfl, rfl⟩ | ⟨g, cap, cur, rfl, hB, hg, hn, hcm, hs, ht⟩
  · exact .inl ⟨rfl, rfl⟩
  · refine .inr ⟨g, cap, rfl, hB, hn, hcm, cur, hg, hs, fun i hi j hj => ?_⟩
    have h1 := cellsT_get f n i hi j hj
    rw [← ht] at h1
    rw [List.getElem?_take_of_lt (by omega)] at h1
    simpa using h1
theorem rowT_of_own {w : World} {B g n cap : Nat} {f : Tms} (h : OwnTAt w B g n cap f) : w.ownsRow B 80 8 (.slice (some ⟨g, 0, none⟩) n cap) n (cellsT f n) := by
  obtain ⟨h1, h2, h3, cur, hh, hs, hr⟩ := h
  refine ⟨cellsT_length f n, .inr ⟨g, cap, cur, rfl, h1, hh, h2, h3, hs, ?_⟩⟩
  apply List.ext_getElem?
  intro k
  by_cases hk : k < n * 8
  · rw [List.getElem?_take_of_lt hk]
    have a := cellsT_get f n (k / 8) (by omega) (k % 8) (by omega)
    have b := hr (k / 8) (by omega) (k % 8) (by omega)
    rw [show k / 8 * 8 + k % 8 = k by omega] at a b
    rw [a]; simpa using b
  · rw [List.getElem?_eq_none (by rw [List.length_take]; omega), List.getElem?_eq_none (by rw [cellsT_length]; omega)]
theorem rowT_of_ownrow {w : World} {B n : Nat} {v : Value} {f : Tms} (h : OwnTRow w B v n f) : w.ownsRow B 80 8 v n (cellsT f n) := by
  rcases h with ⟨rfl, rfl⟩ | ⟨g, cap, rfl, h⟩
  · exact World.ownsRow_nil w B _ _
  · exact rowT_of_own h

end Go.Proofs.YtflekodaiejflaaGreatDoor
