/-
  The model's two sifts (spec, chapter 2): what each makes of a list.
-/
import Derived.Test.YtnmaljieaflnmaaHeapSpec
namespace Go.Proofs.Ytnmaljieaflnmaa
open Go.RowKit Go.Joins
set_option linter.unusedVariables false

theorem raisedF_has {f : Slots} {n : Nat} {i : Int} (h : hasB n i = true) : raisedF f n i = raiseF f i.toNat := by simp [raisedF, h]
theorem raisedF_no {f : Slots} {n : Nat} {i : Int} (h : hasB n i = false) : raisedF f n i = f := by simp [raisedF, h]
theorem sunkF_has {f : Slots} {n : Nat} {i : Int} (h : hasB n i = true) : sunkF f n i = sinkF f n i.toNat := by simp [sunkF, h]
theorem sunkF_no {f : Slots} {n : Nat} {i : Int} (h : hasB n i = false) : sunkF f n i = f := by simp [sunkF, h]

set_option maxHeartbeats 1000000 in
theorem spRaised_any {v : Value} {n : Nat} {f : Slots} (i : Int) {w : World} (hn : n ≤ 1048576) (h : RowAt w v n f) :
    Calls Try.prog 129 #[v, .int .i64 i] w (NewRow n (raisedF f n i) w) := by
  have HR := Lib.hid h
  clear h
  cases hi : hasB n i
  · rw [raisedF_no hi]
    go_enter Try.func129, Try.ntmps129
    go_wp2_with fail
    go_at_call 128; refine (l2Copy_any hn HR.out).mono ?_; rintro e w1 ⟨v1, rfl, hO, hb⟩
    go_wp2_with fail
    go_at_call 140; refine (l2Has_any f i hn (HR.out.below hb)).mono ?_; rintro e w' ⟨rfl, rfl⟩
    go_wp2
    go_ret
    exact ⟨v1, rfl, hO, hb⟩
  · obtain ⟨i0, i1⟩ := hasB_iff.1 hi
    rw [raisedF_has hi]
    obtain ⟨k0, rfl⟩ : ∃ k0 : Nat, i = k0 := ⟨i.toNat, by omega⟩
    rw [Int.toNat_natCast]
    go_enter Try.func129, Try.ntmps129
    go_wp2_with fail
    go_at_call 128; refine (l2Copy_any hn HR.out).mono ?_; rintro e w1 ⟨v1, rfl, hO, hb⟩
    go_wp2_with fail
    go_at_call 140; refine (l2Has_any f _ hn (HR.out.below hb)).mono ?_; rintro e w' ⟨rfl, rfl⟩
    rcases hO with ⟨rfl, _⟩ | ⟨g, cap, rfl, hO⟩
    · omega
    go_wp2
    go_loopw [1] (fun i wr => ∃ (k : Nat) (f' : Slots), k < n ∧ i = .int .i64 k ∧ OwnAt wr w.heap.size g n cap f' ∧ Below w.heap.size w wr ∧ Hid (raiseF f k0 = raiseF f' k)) (fun i _ => (intOf i).toNat)
    case atStart => exact ⟨k0, f, by omega, rfl, hO, hb, Lib.hid rfl⟩
    case round =>
      obtain ⟨k, f', hk, rfl, hOk, hbk, hf⟩ := hrel
      obtain ⟨c0, c1⟩ := hOk.cells hk
      obtain ⟨p0, p1⟩ := hOk.cells (show (k - 1) / 4 < n by omega)
      have hlt := hOk.lt
      have b2 : (k : Int) < (n : Int) := by omega
      cases hup : upB f' k
      · have hfk := Lib.hid (hf.out.trans (raiseF_stop hup))
        clear hf
        by_cases hz : k = 0
        · subst hz
          clear hup
          go_wp2
          go_quiet (fail)
          go_wp2
          go_ret
          exact ⟨_, rfl, by rw [hfk.out]; exact hOk.own, b_drewN hbk _⟩
        · have hk0 : (0 : Int) < (k : Int) := by omega
          have hd0 : decide (0 < k) = true := by simp; omega
          have e1 : IntKind.i64.wrap ((k : Int) - 1) = ((k - 1 : Nat) : Int) := by rw [IntKind.wrap_i64]; omega
          have e2 : ((k - 1 : Nat) : Int).tdiv 4 = ((k - 1) / 4 : Nat) := by rw [Int.tdiv_eq_ediv_of_nonneg (by omega)]; omega
          have b1 : (((k - 1) / 4 : Nat) : Int) < (n : Int) := by omega
          have hd : decide ((f' k).2 < (f' ((k - 1) / 4)).2) = false := by
            simp only [upB, Bool.and_eq_false_iff, decide_eq_false_iff_not] at hup
            simp only [decide_eq_false_iff_not]
            omega
          clear hup hz
          go_wp2
          go_quiet (fail)
          clear e1 e2
          go_wp2
          go_ret
          exact ⟨_, rfl, by rw [hfk.out]; exact hOk.own, b_drewN hbk _⟩
      · have hfk := Lib.hid (hf.out.trans (raiseF_up hup))
        clear hf
        have hk0 : (0 : Int) < (k : Int) := by simp [upB] at hup; omega
        have hd0 : decide (0 < k) = true := by simp; omega
        have hd : decide ((f' k).2 < (f' ((k - 1) / 4)).2) = true := by simp only [upB, Bool.and_eq_true] at hup; exact hup.2
        have e1 : IntKind.i64.wrap ((k : Int) - 1) = ((k - 1 : Nat) : Int) := by rw [IntKind.wrap_i64]; omega
        have e2 : ((k - 1 : Nat) : Int).tdiv 4 = ((k - 1) / 4 : Nat) := by rw [Int.tdiv_eq_ediv_of_nonneg (by omega)]; omega
        have b1 : (((k - 1) / 4 : Nat) : Int) < (n : Int) := by omega
        clear hup
        go_wp2
        go_quiet (fail)
        generalize hq : World.drewN wr _ = wq
        have hOq : OwnAt wq w.heap.size g n cap f' := hq ▸ hOk.drewN _
        have hbq : Below w.heap.size w wq := hq ▸ b_drewN hbk _
        clear hq c0 c1 p0 p1 hlt hOk hbk
        obtain ⟨c0, c1⟩ := hOq.cells hk
        obtain ⟨p0, p1⟩ := hOq.cells (show (k - 1) / 4 < n by omega)
        have hlt := hOq.lt
        have fr := hOq.free
        have f0 := fr (k * 2)
        have f1 := fr (k * 2 + 1)
        have f2 := fr ((k - 1) / 4 * 2)
        have f3 := fr ((k - 1) / 4 * 2 + 1)
        clear fr
        clear e1 e2
        have hg := hOq.1
        have hqn : (k - 1) / 4 < n := by omega
        go_wp2
        exact ⟨⟨(k - 1) / 4, swapF f' k ((k - 1) / 4), hqn, congrArg (Value.int .i64) (by omega), ((hOq.put hk _ _).put hqn _ _).alloc _,
          ((((hbq.setCell (p := ⟨g, k * 2, none⟩) hg _).setCell (p := ⟨g, k * 2 + 1, none⟩) hg _).setCell (p := ⟨g, (k - 1) / 4 * 2, none⟩) hg _).setCell (p := ⟨g, (k - 1) / 4 * 2 + 1, none⟩) hg _).alloc (by simpa using hbq.size) _, hfk⟩,
          by simp only [intOf]; omega⟩

end Go.Proofs.Ytnmaljieaflnmaa
