/-
  Processors (spec, chapter 4): is a processor right?
-/
import Derived.Test.YtcfkginbkammoaaL00
namespace Go.Proofs.Ytcfkginbkammoaa
open Go.RowKit Go.Joins
set_option linter.unusedVariables false

/-- what the long test says, and the world behind it -/
def HeadB (x : Bool) (N : Nat) (W : World) (w' : World) : Prop := Below N W w'

set_option maxRecDepth 100000 in
set_option maxHeartbeats 8000000 in
theorem spProcOk_any (a b c : Int) {v : Value} {n : Nat} {f : Slots} (l e d : Int) {w : World} (hn : n ≤ 1048576) (h : RowAt w v n f) :
    Calls Try.prog 51 #[.agg #[.int .i64 a, .int .i64 b, .int .i64 c], prV v l e d] w fun x w' => x = .returned (.bool (procOkB a b c f n l e d)) ∧ Below w.heap.size w w' := by
  have k0 := ((Below.refl w.heap.size w).alloc (Nat.le_refl _) (.cells #[.int .i64 a, .int .i64 b, .int .i64 c] 34)).alloc (by simp) (.cells #[v, .int .i64 l, .int .i64 e, .int .i64 d] 75)
  have HR := Lib.hid (h.below k0)
  have HX := Lib.hid (show ((w.alloc (.cells #[.int .i64 a, .int .i64 b, .int .i64 c] 34)).alloc (.cells #[v, .int .i64 l, .int .i64 e, .int .i64 d] 75)).heap[w.heap.size + 1]? = some (.cells #[v, .int .i64 l, .int .i64 e, .int .i64 d] 75 (0, 0)) by
    have := heap_alloc_new (w.alloc (.cells #[.int .i64 a, .int .i64 b, .int .i64 c] 34)) (.cells #[v, .int .i64 l, .int .i64 e, .int .i64 d] 75)
    simpa using this)
  obtain ⟨va, vc, hv⟩ := h.form
  clear h
  subst hv
  cases h1 : planB a b c
  · rw [show procOkB a b c f n l e d = false by simp [procOkB, h1]]
    go_enter Try.func51, Try.ntmps51
    go_wp2_with (first
        | (go_at_call 28; refine (spPlanOk_any _ _ _ _).mono ?_; rintro x w1 ⟨rfl, hb⟩; have hr1 := HR.out.below hb; obtain ⟨hc, hf⟩ := bcell hb)
        | (go_at_call 66; refine (spHeapOk_any f hn hr1).mono ?_; rintro x w2 ⟨m1, rfl, rfl⟩)
        | (go_at_call 15; refine (l1Worker_any _ _ _ _ _).mono ?_; rintro x w3 ⟨rfl, hb3⟩; have hb4 := (b_drewN hb m1).trans (hb3.mono (b_drewN hb m1).size); obtain ⟨hc3, hf3⟩ := bcell hb4)
        | (go_at_call 35; refine (l1Time_any _ _).mono ?_; rintro x w' ⟨rfl, rfl⟩)
        | (go_at_call 29; refine (l1In_any _ _ _ _).mono ?_; rintro x w' ⟨rfl, rfl⟩))
    go_ret
    exact ⟨by simp, k0.trans ((hb).mono k0.size)⟩
  cases h2 : heapB f n
  · rw [show procOkB a b c f n l e d = false by simp [procOkB, h1, h2]]
    go_enter Try.func51, Try.ntmps51
    go_wp2_with (first
        | (go_at_call 28; refine (spPlanOk_any _ _ _ _).mono ?_; rintro x w1 ⟨rfl, hb⟩; have hr1 := HR.out.below hb; obtain ⟨hc, hf⟩ := bcell hb)
        | (go_at_call 66; refine (spHeapOk_any f hn hr1).mono ?_; rintro x w2 ⟨m1, rfl, rfl⟩)
        | (go_at_call 15; refine (l1Worker_any _ _ _ _ _).mono ?_; rintro x w3 ⟨rfl, hb3⟩; have hb4 := (b_drewN hb m1).trans (hb3.mono (b_drewN hb m1).size); obtain ⟨hc3, hf3⟩ := bcell hb4)
        | (go_at_call 35; refine (l1Time_any _ _).mono ?_; rintro x w' ⟨rfl, rfl⟩)
        | (go_at_call 29; refine (l1In_any _ _ _ _).mono ?_; rintro x w' ⟨rfl, rfl⟩))
    go_ret
    exact ⟨by simp, k0.trans ((b_drewN hb _).mono k0.size)⟩
  by_cases hl : l = -1
  · subst hl
    by_cases he1 : e = -1
    · subst he1
      cases h5 : inB d 0 n
      · rw [show procOkB a b c f n (-1) (-1) d = false by simp [procOkB, h1, h2, h5]]
        skip
        go_enter Try.func51, Try.ntmps51
        go_wp2_with (first
            | (go_at_call 28; refine (spPlanOk_any _ _ _ _).mono ?_; rintro x w1 ⟨rfl, hb⟩; have hr1 := HR.out.below hb; obtain ⟨hc, hf⟩ := bcell hb)
            | (go_at_call 66; refine (spHeapOk_any f hn hr1).mono ?_; rintro x w2 ⟨m1, rfl, rfl⟩)
            | (go_at_call 15; refine (l1Worker_any _ _ _ _ _).mono ?_; rintro x w3 ⟨rfl, hb3⟩; have hb4 := (b_drewN hb m1).trans (hb3.mono (b_drewN hb m1).size); obtain ⟨hc3, hf3⟩ := bcell hb4)
            | (go_at_call 35; refine (l1Time_any _ _).mono ?_; rintro x w' ⟨rfl, rfl⟩)
            | (go_at_call 29; refine (l1In_any _ _ _ _).mono ?_; rintro x w' ⟨rfl, rfl⟩))
        go_ret
        exact ⟨by simp, k0.trans ((b_drewN hb m1).mono k0.size)⟩
      · have hall := Lib.hid (show procOkB a b c f n (-1) (-1) d = diffAll f n by simp [procOkB, h1, h2, h5])
        skip
        go_enter Try.func51, Try.ntmps51
        go_wp2_with (first
            | (go_at_call 28; refine (spPlanOk_any _ _ _ _).mono ?_; rintro x w1 ⟨rfl, hb⟩; have hr1 := HR.out.below hb; obtain ⟨hc, hf⟩ := bcell hb)
            | (go_at_call 66; refine (spHeapOk_any f hn hr1).mono ?_; rintro x w2 ⟨m1, rfl, rfl⟩)
            | (go_at_call 15; refine (l1Worker_any _ _ _ _ _).mono ?_; rintro x w3 ⟨rfl, hb3⟩; have hb4 := (b_drewN hb m1).trans (hb3.mono (b_drewN hb m1).size); obtain ⟨hc3, hf3⟩ := bcell hb4)
            | (go_at_call 35; refine (l1Time_any _ _).mono ?_; rintro x w' ⟨rfl, rfl⟩)
            | (go_at_call 29; refine (l1In_any _ _ _ _).mono ?_; rintro x w' ⟨rfl, rfl⟩))
        have hH := b_drewN hb m1
        have hXH := b_block hH HX.out (by simp)
        have hRH := HR.out.below hH
        have x0 := cell_of_block hXH 0
        clear hXH HR HX hb hr1 hc hf
        generalize hwq : w1.drewN m1 = wq at *
        clear hwq
        have kq := k0.trans (hH.mono k0.size)
        clear hH k0
        rcases hRH with ⟨h0, a5, cap5, hv5⟩ | ⟨b5, off5, cap5, hv5, hl5, hc5⟩
        · subst h0
          refine wp_loop_rounds 1 ?_
          rw [rounds_succ]
          go_wp2
          go_ret
          exact ⟨ret_bool hall.out.symm, kq⟩
        · injection hv5 with e1 e2 e3
          subst e1 e3
          have H5 := Lib.hid hc5
          clear hc5 e2
          go_loopw [5] (fun i wr => ∃ (k m : Nat), k ≤ n ∧ i = .int .i64 k ∧ wr = wq.drewN m ∧ Hid (diffAll f k = true)) (fun i _ => n - (intOf i).toNat)
          case atStart => exact ⟨0, 0, Nat.zero_le _, rfl, rfl, Lib.hid rfl⟩
          case round =>
            obtain ⟨k, m, hk, rfl, rfl, hdk⟩ := hrel
            by_cases hkn : k < n
            · have hkn' : (k : Int) < (n : Int) := by omega
              have ck := (H5.out k hkn).1
              go_wp2_with fail
              go_loopw [6] (fun j wi => ∃ (q m' : Nat), q ≤ k ∧ j = .int .i64 q ∧ wi = wq.drewN m' ∧ Hid (diffTo f k q = true)) (fun j _ => k - (intOf j).toNat)
              case atStart => exact ⟨0, m, Nat.zero_le _, rfl, rfl, Lib.hid rfl⟩
              case round =>
                obtain ⟨q, m', hq, rfl, rfl, hdq⟩ := hrel
                by_cases hqk : q < k
                · have hqk' : (q : Int) < (k : Int) := by omega
                  have hqn' : (q : Int) < (n : Int) := by omega
                  have cq := (H5.out q (by omega)).1
                  by_cases he : (f k).1 = (f q).1
                  · have hd : ((f k).1 == (f q).1) = true := by simpa using he
                    have hbad := Lib.hid (hall.out.trans (diff_found hkn hqk he))
                    clear he
                    go_wp2_with fail
                    go_quiet (fail)
                    go_wp2
                    simp only [World.drewN_drewN]
                    go_ret
                    exact ⟨ret_bool hbad.out.symm, b_drewN kq _⟩
                  · have hd : ((f k).1 == (f q).1) = false := by simpa using he
                    have hnext := Lib.hid (show diffTo f k (q + 1) = true by rw [diffTo, hdq.out, hd]; rfl)
                    clear he
                    go_wp2_with fail
                    go_quiet (fail)
                    go_wp2
                    try simp only [World.drewN_drewN]
                    exact ⟨⟨q + 1, _, by omega, by go_num, rfl, hnext⟩, by simp [intOf]; omega⟩
                · have hqe : q = k := by omega
                  have hnext := Lib.hid (show diffAll f (k + 1) = true by rw [diffAll, hdk.out]; rw [hqe] at hdq; exact hdq.out)
                  have hqk' : ¬ (q : Int) < (k : Int) := by omega
                  have hdd : decide (q < k) = false := by simp; omega
                  clear hqe
                  go_wp2
                  exact ⟨⟨k + 1, _, by omega, by go_num, rfl, hnext⟩, by simp [intOf]; omega⟩
            · have hkn' : ¬ (k : Int) < (n : Int) := by omega
              have hdd : decide (k < n) = false := by simp; omega
              have hgood := Lib.hid (hall.out.trans (show diffAll f n = true by rw [show n = k by omega]; exact hdk.out))
              go_wp2
              go_ret
              exact ⟨ret_bool hgood.out.symm, b_drewN kq _⟩
    · have me : (e != -1) = true := by simpa using he1
      cases h4 : inB e 0 1000000000
      · rw [show procOkB a b c f n  (-1) e d = false by simp [procOkB, h1, h2, h4, he1]]
        clear he1
        go_enter Try.func51, Try.ntmps51
        go_wp2_with (first
            | (go_at_call 28; refine (spPlanOk_any _ _ _ _).mono ?_; rintro x w1 ⟨rfl, hb⟩; have hr1 := HR.out.below hb; obtain ⟨hc, hf⟩ := bcell hb)
            | (go_at_call 66; refine (spHeapOk_any f hn hr1).mono ?_; rintro x w2 ⟨m1, rfl, rfl⟩)
            | (go_at_call 15; refine (l1Worker_any _ _ _ _ _).mono ?_; rintro x w3 ⟨rfl, hb3⟩; have hb4 := (b_drewN hb m1).trans (hb3.mono (b_drewN hb m1).size); obtain ⟨hc3, hf3⟩ := bcell hb4)
            | (go_at_call 35; refine (l1Time_any _ _).mono ?_; rintro x w' ⟨rfl, rfl⟩)
            | (go_at_call 29; refine (l1In_any _ _ _ _).mono ?_; rintro x w' ⟨rfl, rfl⟩))
        go_ret
        exact ⟨by simp, k0.trans ((b_drewN hb m1).mono k0.size)⟩
      · cases h5 : inB d 0 n
        · rw [show procOkB a b c f n  (-1) e d = false by simp [procOkB, h1, h2, h4, h5]]
          clear he1
          go_enter Try.func51, Try.ntmps51
          go_wp2_with (first
              | (go_at_call 28; refine (spPlanOk_any _ _ _ _).mono ?_; rintro x w1 ⟨rfl, hb⟩; have hr1 := HR.out.below hb; obtain ⟨hc, hf⟩ := bcell hb)
              | (go_at_call 66; refine (spHeapOk_any f hn hr1).mono ?_; rintro x w2 ⟨m1, rfl, rfl⟩)
              | (go_at_call 15; refine (l1Worker_any _ _ _ _ _).mono ?_; rintro x w3 ⟨rfl, hb3⟩; have hb4 := (b_drewN hb m1).trans (hb3.mono (b_drewN hb m1).size); obtain ⟨hc3, hf3⟩ := bcell hb4)
              | (go_at_call 35; refine (l1Time_any _ _).mono ?_; rintro x w' ⟨rfl, rfl⟩)
              | (go_at_call 29; refine (l1In_any _ _ _ _).mono ?_; rintro x w' ⟨rfl, rfl⟩))
          go_ret
          exact ⟨by simp, k0.trans ((b_drewN hb m1).mono k0.size)⟩
        · have hall := Lib.hid (show procOkB a b c f n  (-1) e d = diffAll f n by simp [procOkB, h1, h2, h4, h5])
          clear he1
          go_enter Try.func51, Try.ntmps51
          go_wp2_with (first
              | (go_at_call 28; refine (spPlanOk_any _ _ _ _).mono ?_; rintro x w1 ⟨rfl, hb⟩; have hr1 := HR.out.below hb; obtain ⟨hc, hf⟩ := bcell hb)
              | (go_at_call 66; refine (spHeapOk_any f hn hr1).mono ?_; rintro x w2 ⟨m1, rfl, rfl⟩)
              | (go_at_call 15; refine (l1Worker_any _ _ _ _ _).mono ?_; rintro x w3 ⟨rfl, hb3⟩; have hb4 := (b_drewN hb m1).trans (hb3.mono (b_drewN hb m1).size); obtain ⟨hc3, hf3⟩ := bcell hb4)
              | (go_at_call 35; refine (l1Time_any _ _).mono ?_; rintro x w' ⟨rfl, rfl⟩)
              | (go_at_call 29; refine (l1In_any _ _ _ _).mono ?_; rintro x w' ⟨rfl, rfl⟩))
          have hH := b_drewN hb m1
          have hXH := b_block hH HX.out (by simp)
          have hRH := HR.out.below hH
          have x0 := cell_of_block hXH 0
          clear hXH HR HX hb hr1 hc hf
          generalize hwq : w1.drewN m1 = wq at *
          clear hwq
          have kq := k0.trans (hH.mono k0.size)
          clear hH k0
          rcases hRH with ⟨h0, a5, cap5, hv5⟩ | ⟨b5, off5, cap5, hv5, hl5, hc5⟩
          · subst h0
            refine wp_loop_rounds 1 ?_
            rw [rounds_succ]
            go_wp2
            go_ret
            exact ⟨ret_bool hall.out.symm, kq⟩
          · injection hv5 with e1 e2 e3
            subst e1 e3
            have H5 := Lib.hid hc5
            clear hc5 e2
            go_loopw [5] (fun i wr => ∃ (k m : Nat), k ≤ n ∧ i = .int .i64 k ∧ wr = wq.drewN m ∧ Hid (diffAll f k = true)) (fun i _ => n - (intOf i).toNat)
            case atStart => exact ⟨0, 0, Nat.zero_le _, rfl, rfl, Lib.hid rfl⟩
            case round =>
              obtain ⟨k, m, hk, rfl, rfl, hdk⟩ := hrel
              by_cases hkn : k < n
              · have hkn' : (k : Int) < (n : Int) := by omega
                have ck := (H5.out k hkn).1
                go_wp2_with fail
                go_loopw [6] (fun j wi => ∃ (q m' : Nat), q ≤ k ∧ j = .int .i64 q ∧ wi = wq.drewN m' ∧ Hid (diffTo f k q = true)) (fun j _ => k - (intOf j).toNat)
                case atStart => exact ⟨0, m, Nat.zero_le _, rfl, rfl, Lib.hid rfl⟩
                case round =>
                  obtain ⟨q, m', hq, rfl, rfl, hdq⟩ := hrel
                  by_cases hqk : q < k
                  · have hqk' : (q : Int) < (k : Int) := by omega
                    have hqn' : (q : Int) < (n : Int) := by omega
                    have cq := (H5.out q (by omega)).1
                    by_cases he : (f k).1 = (f q).1
                    · have hd : ((f k).1 == (f q).1) = true := by simpa using he
                      have hbad := Lib.hid (hall.out.trans (diff_found hkn hqk he))
                      clear he
                      go_wp2_with fail
                      go_quiet (fail)
                      go_wp2
                      simp only [World.drewN_drewN]
                      go_ret
                      exact ⟨ret_bool hbad.out.symm, b_drewN kq _⟩
                    · have hd : ((f k).1 == (f q).1) = false := by simpa using he
                      have hnext := Lib.hid (show diffTo f k (q + 1) = true by rw [diffTo, hdq.out, hd]; rfl)
                      clear he
                      go_wp2_with fail
                      go_quiet (fail)
                      go_wp2
                      try simp only [World.drewN_drewN]
                      exact ⟨⟨q + 1, _, by omega, by go_num, rfl, hnext⟩, by simp [intOf]; omega⟩
                  · have hqe : q = k := by omega
                    have hnext := Lib.hid (show diffAll f (k + 1) = true by rw [diffAll, hdk.out]; rw [hqe] at hdq; exact hdq.out)
                    have hqk' : ¬ (q : Int) < (k : Int) := by omega
                    have hdd : decide (q < k) = false := by simp; omega
                    clear hqe
                    go_wp2
                    exact ⟨⟨k + 1, _, by omega, by go_num, rfl, hnext⟩, by simp [intOf]; omega⟩
              · have hkn' : ¬ (k : Int) < (n : Int) := by omega
                have hdd : decide (k < n) = false := by simp; omega
                have hgood := Lib.hid (hall.out.trans (show diffAll f n = true by rw [show n = k by omega]; exact hdk.out))
                go_wp2
                go_ret
                exact ⟨ret_bool hgood.out.symm, b_drewN kq _⟩
  · have ml : (l != -1) = true := by simpa using hl
    cases h3 : workB a b c l
    · rw [show procOkB a b c f n l e d = false by simp [procOkB, h1, h2, h3, hl]]
      clear hl
      go_enter Try.func51, Try.ntmps51
      go_wp2_with (first
          | (go_at_call 28; refine (spPlanOk_any _ _ _ _).mono ?_; rintro x w1 ⟨rfl, hb⟩; have hr1 := HR.out.below hb; obtain ⟨hc, hf⟩ := bcell hb)
          | (go_at_call 66; refine (spHeapOk_any f hn hr1).mono ?_; rintro x w2 ⟨m1, rfl, rfl⟩)
          | (go_at_call 15; refine (l1Worker_any _ _ _ _ _).mono ?_; rintro x w3 ⟨rfl, hb3⟩; have hb4 := (b_drewN hb m1).trans (hb3.mono (b_drewN hb m1).size); obtain ⟨hc3, hf3⟩ := bcell hb4)
          | (go_at_call 35; refine (l1Time_any _ _).mono ?_; rintro x w' ⟨rfl, rfl⟩)
          | (go_at_call 29; refine (l1In_any _ _ _ _).mono ?_; rintro x w' ⟨rfl, rfl⟩))
      go_ret
      exact ⟨by simp, k0.trans ((hb4).mono k0.size)⟩
    · by_cases he1 : e = -1
      · subst he1
        cases h5 : inB d 0 n
        · rw [show procOkB a b c f n l (-1) d = false by simp [procOkB, h1, h2, h3, h5]]
          clear hl
          go_enter Try.func51, Try.ntmps51
          go_wp2_with (first
              | (go_at_call 28; refine (spPlanOk_any _ _ _ _).mono ?_; rintro x w1 ⟨rfl, hb⟩; have hr1 := HR.out.below hb; obtain ⟨hc, hf⟩ := bcell hb)
              | (go_at_call 66; refine (spHeapOk_any f hn hr1).mono ?_; rintro x w2 ⟨m1, rfl, rfl⟩)
              | (go_at_call 15; refine (l1Worker_any _ _ _ _ _).mono ?_; rintro x w3 ⟨rfl, hb3⟩; have hb4 := (b_drewN hb m1).trans (hb3.mono (b_drewN hb m1).size); obtain ⟨hc3, hf3⟩ := bcell hb4)
              | (go_at_call 35; refine (l1Time_any _ _).mono ?_; rintro x w' ⟨rfl, rfl⟩)
              | (go_at_call 29; refine (l1In_any _ _ _ _).mono ?_; rintro x w' ⟨rfl, rfl⟩))
          go_ret
          exact ⟨by simp, k0.trans ((hb4).mono k0.size)⟩
        · have hall := Lib.hid (show procOkB a b c f n l (-1) d = diffAll f n by simp [procOkB, h1, h2, h3, h5])
          clear hl
          go_enter Try.func51, Try.ntmps51
          go_wp2_with (first
              | (go_at_call 28; refine (spPlanOk_any _ _ _ _).mono ?_; rintro x w1 ⟨rfl, hb⟩; have hr1 := HR.out.below hb; obtain ⟨hc, hf⟩ := bcell hb)
              | (go_at_call 66; refine (spHeapOk_any f hn hr1).mono ?_; rintro x w2 ⟨m1, rfl, rfl⟩)
              | (go_at_call 15; refine (l1Worker_any _ _ _ _ _).mono ?_; rintro x w3 ⟨rfl, hb3⟩; have hb4 := (b_drewN hb m1).trans (hb3.mono (b_drewN hb m1).size); obtain ⟨hc3, hf3⟩ := bcell hb4)
              | (go_at_call 35; refine (l1Time_any _ _).mono ?_; rintro x w' ⟨rfl, rfl⟩)
              | (go_at_call 29; refine (l1In_any _ _ _ _).mono ?_; rintro x w' ⟨rfl, rfl⟩))
          have hH := hb4
          have hXH := b_block hH HX.out (by simp)
          have hRH := HR.out.below hH
          have x0 := cell_of_block hXH 0
          clear hXH HR HX hb hr1 hc hf hb3 hb4 hc3 hf3
          generalize hwq : w3 = wq at *
          clear hwq
          have kq := k0.trans (hH.mono k0.size)
          clear hH k0
          rcases hRH with ⟨h0, a5, cap5, hv5⟩ | ⟨b5, off5, cap5, hv5, hl5, hc5⟩
          · subst h0
            refine wp_loop_rounds 1 ?_
            rw [rounds_succ]
            go_wp2
            go_ret
            exact ⟨ret_bool hall.out.symm, kq⟩
          · injection hv5 with e1 e2 e3
            subst e1 e3
            have H5 := Lib.hid hc5
            clear hc5 e2
            go_loopw [5] (fun i wr => ∃ (k m : Nat), k ≤ n ∧ i = .int .i64 k ∧ wr = wq.drewN m ∧ Hid (diffAll f k = true)) (fun i _ => n - (intOf i).toNat)
            case atStart => exact ⟨0, 0, Nat.zero_le _, rfl, rfl, Lib.hid rfl⟩
            case round =>
              obtain ⟨k, m, hk, rfl, rfl, hdk⟩ := hrel
              by_cases hkn : k < n
              · have hkn' : (k : Int) < (n : Int) := by omega
                have ck := (H5.out k hkn).1
                go_wp2_with fail
                go_loopw [6] (fun j wi => ∃ (q m' : Nat), q ≤ k ∧ j = .int .i64 q ∧ wi = wq.drewN m' ∧ Hid (diffTo f k q = true)) (fun j _ => k - (intOf j).toNat)
                case atStart => exact ⟨0, m, Nat.zero_le _, rfl, rfl, Lib.hid rfl⟩
                case round =>
                  obtain ⟨q, m', hq, rfl, rfl, hdq⟩ := hrel
                  by_cases hqk : q < k
                  · have hqk' : (q : Int) < (k : Int) := by omega
                    have hqn' : (q : Int) < (n : Int) := by omega
                    have cq := (H5.out q (by omega)).1
                    by_cases he : (f k).1 = (f q).1
                    · have hd : ((f k).1 == (f q).1) = true := by simpa using he
                      have hbad := Lib.hid (hall.out.trans (diff_found hkn hqk he))
                      clear he
                      go_wp2_with fail
                      go_quiet (fail)
                      go_wp2
                      simp only [World.drewN_drewN]
                      go_ret
                      exact ⟨ret_bool hbad.out.symm, b_drewN kq _⟩
                    · have hd : ((f k).1 == (f q).1) = false := by simpa using he
                      have hnext := Lib.hid (show diffTo f k (q + 1) = true by rw [diffTo, hdq.out, hd]; rfl)
                      clear he
                      go_wp2_with fail
                      go_quiet (fail)
                      go_wp2
                      try simp only [World.drewN_drewN]
                      exact ⟨⟨q + 1, _, by omega, by go_num, rfl, hnext⟩, by simp [intOf]; omega⟩
                  · have hqe : q = k := by omega
                    have hnext := Lib.hid (show diffAll f (k + 1) = true by rw [diffAll, hdk.out]; rw [hqe] at hdq; exact hdq.out)
                    have hqk' : ¬ (q : Int) < (k : Int) := by omega
                    have hdd : decide (q < k) = false := by simp; omega
                    clear hqe
                    go_wp2
                    exact ⟨⟨k + 1, _, by omega, by go_num, rfl, hnext⟩, by simp [intOf]; omega⟩
              · have hkn' : ¬ (k : Int) < (n : Int) := by omega
                have hdd : decide (k < n) = false := by simp; omega
                have hgood := Lib.hid (hall.out.trans (show diffAll f n = true by rw [show n = k by omega]; exact hdk.out))
                go_wp2
                go_ret
                exact ⟨ret_bool hgood.out.symm, b_drewN kq _⟩
      · have me : (e != -1) = true := by simpa using he1
        cases h4 : inB e 0 1000000000
        · rw [show procOkB a b c f n l e d = false by simp [procOkB, h1, h2, h3, h4, he1]]
          clear he1 hl
          go_enter Try.func51, Try.ntmps51
          go_wp2_with (first
              | (go_at_call 28; refine (spPlanOk_any _ _ _ _).mono ?_; rintro x w1 ⟨rfl, hb⟩; have hr1 := HR.out.below hb; obtain ⟨hc, hf⟩ := bcell hb)
              | (go_at_call 66; refine (spHeapOk_any f hn hr1).mono ?_; rintro x w2 ⟨m1, rfl, rfl⟩)
              | (go_at_call 15; refine (l1Worker_any _ _ _ _ _).mono ?_; rintro x w3 ⟨rfl, hb3⟩; have hb4 := (b_drewN hb m1).trans (hb3.mono (b_drewN hb m1).size); obtain ⟨hc3, hf3⟩ := bcell hb4)
              | (go_at_call 35; refine (l1Time_any _ _).mono ?_; rintro x w' ⟨rfl, rfl⟩)
              | (go_at_call 29; refine (l1In_any _ _ _ _).mono ?_; rintro x w' ⟨rfl, rfl⟩))
          go_ret
          exact ⟨by simp, k0.trans ((hb4).mono k0.size)⟩
        · cases h5 : inB d 0 n
          · rw [show procOkB a b c f n l e d = false by simp [procOkB, h1, h2, h3, h4, h5]]
            clear he1 hl
            go_enter Try.func51, Try.ntmps51
            go_wp2_with (first
                | (go_at_call 28; refine (spPlanOk_any _ _ _ _).mono ?_; rintro x w1 ⟨rfl, hb⟩; have hr1 := HR.out.below hb; obtain ⟨hc, hf⟩ := bcell hb)
                | (go_at_call 66; refine (spHeapOk_any f hn hr1).mono ?_; rintro x w2 ⟨m1, rfl, rfl⟩)
                | (go_at_call 15; refine (l1Worker_any _ _ _ _ _).mono ?_; rintro x w3 ⟨rfl, hb3⟩; have hb4 := (b_drewN hb m1).trans (hb3.mono (b_drewN hb m1).size); obtain ⟨hc3, hf3⟩ := bcell hb4)
                | (go_at_call 35; refine (l1Time_any _ _).mono ?_; rintro x w' ⟨rfl, rfl⟩)
                | (go_at_call 29; refine (l1In_any _ _ _ _).mono ?_; rintro x w' ⟨rfl, rfl⟩))
            go_ret
            exact ⟨by simp, k0.trans ((hb4).mono k0.size)⟩
          · have hall := Lib.hid (show procOkB a b c f n l e d = diffAll f n by simp [procOkB, h1, h2, h3, h4, h5])
            clear he1 hl
            go_enter Try.func51, Try.ntmps51
            go_wp2_with (first
                | (go_at_call 28; refine (spPlanOk_any _ _ _ _).mono ?_; rintro x w1 ⟨rfl, hb⟩; have hr1 := HR.out.below hb; obtain ⟨hc, hf⟩ := bcell hb)
                | (go_at_call 66; refine (spHeapOk_any f hn hr1).mono ?_; rintro x w2 ⟨m1, rfl, rfl⟩)
                | (go_at_call 15; refine (l1Worker_any _ _ _ _ _).mono ?_; rintro x w3 ⟨rfl, hb3⟩; have hb4 := (b_drewN hb m1).trans (hb3.mono (b_drewN hb m1).size); obtain ⟨hc3, hf3⟩ := bcell hb4)
                | (go_at_call 35; refine (l1Time_any _ _).mono ?_; rintro x w' ⟨rfl, rfl⟩)
                | (go_at_call 29; refine (l1In_any _ _ _ _).mono ?_; rintro x w' ⟨rfl, rfl⟩))
            have hH := hb4
            have hXH := b_block hH HX.out (by simp)
            have hRH := HR.out.below hH
            have x0 := cell_of_block hXH 0
            clear hXH HR HX hb hr1 hc hf hb3 hb4 hc3 hf3
            generalize hwq : w3 = wq at *
            clear hwq
            have kq := k0.trans (hH.mono k0.size)
            clear hH k0
            rcases hRH with ⟨h0, a5, cap5, hv5⟩ | ⟨b5, off5, cap5, hv5, hl5, hc5⟩
            · subst h0
              refine wp_loop_rounds 1 ?_
              rw [rounds_succ]
              go_wp2
              go_ret
              exact ⟨ret_bool hall.out.symm, kq⟩
            · injection hv5 with e1 e2 e3
              subst e1 e3
              have H5 := Lib.hid hc5
              clear hc5 e2
              go_loopw [5] (fun i wr => ∃ (k m : Nat), k ≤ n ∧ i = .int .i64 k ∧ wr = wq.drewN m ∧ Hid (diffAll f k = true)) (fun i _ => n - (intOf i).toNat)
              case atStart => exact ⟨0, 0, Nat.zero_le _, rfl, rfl, Lib.hid rfl⟩
              case round =>
                obtain ⟨k, m, hk, rfl, rfl, hdk⟩ := hrel
                by_cases hkn : k < n
                · have hkn' : (k : Int) < (n : Int) := by omega
                  have ck := (H5.out k hkn).1
                  go_wp2_with fail
                  go_loopw [6] (fun j wi => ∃ (q m' : Nat), q ≤ k ∧ j = .int .i64 q ∧ wi = wq.drewN m' ∧ Hid (diffTo f k q = true)) (fun j _ => k - (intOf j).toNat)
                  case atStart => exact ⟨0, m, Nat.zero_le _, rfl, rfl, Lib.hid rfl⟩
                  case round =>
                    obtain ⟨q, m', hq, rfl, rfl, hdq⟩ := hrel
                    by_cases hqk : q < k
                    · have hqk' : (q : Int) < (k : Int) := by omega
                      have hqn' : (q : Int) < (n : Int) := by omega
                      have cq := (H5.out q (by omega)).1
                      by_cases he : (f k).1 = (f q).1
                      · have hd : ((f k).1 == (f q).1) = true := by simpa using he
                        have hbad := Lib.hid (hall.out.trans (diff_found hkn hqk he))
                        clear he
                        go_wp2_with fail
                        go_quiet (fail)
                        go_wp2
                        simp only [World.drewN_drewN]
                        go_ret
                        exact ⟨ret_bool hbad.out.symm, b_drewN kq _⟩
                      · have hd : ((f k).1 == (f q).1) = false := by simpa using he
                        have hnext := Lib.hid (show diffTo f k (q + 1) = true by rw [diffTo, hdq.out, hd]; rfl)
                        clear he
                        go_wp2_with fail
                        go_quiet (fail)
                        go_wp2
                        try simp only [World.drewN_drewN]
                        exact ⟨⟨q + 1, _, by omega, by go_num, rfl, hnext⟩, by simp [intOf]; omega⟩
                    · have hqe : q = k := by omega
                      have hnext := Lib.hid (show diffAll f (k + 1) = true by rw [diffAll, hdk.out]; rw [hqe] at hdq; exact hdq.out)
                      have hqk' : ¬ (q : Int) < (k : Int) := by omega
                      have hdd : decide (q < k) = false := by simp; omega
                      clear hqe
                      go_wp2
                      exact ⟨⟨k + 1, _, by omega, by go_num, rfl, hnext⟩, by simp [intOf]; omega⟩
                · have hkn' : ¬ (k : Int) < (n : Int) := by omega
                  have hdd : decide (k < n) = false := by simp; omega
                  have hgood := Lib.hid (hall.out.trans (show diffAll f n = true by rw [show n = k by omega]; exact hdk.out))
                  go_wp2
                  go_ret
                  exact ⟨ret_bool hgood.out.symm, b_drewN kq _⟩

end Go.Proofs.Ytcfkginbkammoaa
