/-
  The program's generic list that is told what is less (chapter 2), at slots: made from a list; is it in order?
-/
import Derived.Test.YtegmlabiodikpaaHeapOf
import Derived.Test.YtegmlabiodikpaaHeapSift
namespace Go.Proofs.Ytegmlabiodikpaa
open Go.RowKit Go.Joins
set_option linter.unusedVariables false

/-- a heap made from a list -/
def NewHeap (n : Nat) (f : Slots) (w : World) (e : Ending) (w' : World) : Prop := ∃ v, e = .returned (heapV v) ∧ OwnRow w' w.heap.size v n f ∧ Below w.heap.size w w'

set_option maxRecDepth 100000 in
set_option maxHeartbeats 1000000 in
theorem heapFrom_any {v : Value} {n : Nat} {f : Slots} {w : World} (hn : n ≤ 1048576) (h : RowAt w v n f) :
    Calls Try.prog 39 #[v, dueV] w (NewHeap n f w) := by
  have k0 := (Below.refl w.heap.size w).alloc (Nat.le_refl _) (.cells #[.slice none 0 0, .nilFunc] 57)
  have hsz : (w.alloc (.cells #[.slice none 0 0, .nilFunc] 57)).heap.size = w.heap.size + 1 := by simp
  have HB := Lib.hid (heap_alloc_new w (.cells #[.slice none 0 0, .nilFunc] 57))
  have h0 := h.below k0
  have H := Lib.hid (h0.below ((Below.refl _ _).alloc (Nat.le_refl _) (.cells #[] 30)))
  have ho := Lib.hid (World.ownsRow_made (w.alloc (.cells #[.slice none 0 0, .nilFunc] 57)) (base := (w.alloc (.cells #[.slice none 0 0, .nilFunc] 57)).heap.size) (e := 30) (size := 2) #[] 0 (Nat.le_refl _) (Nat.zero_le _) rfl)
  have k1 := k0.alloc (Nat.le_of_lt (show w.heap.size < (w.alloc (.cells #[.slice none 0 0, .nilFunc] 57)).heap.size by simp)) (.cells #[] 30)
  have hB1 : w.heap.size + 1 ≤ ((w.alloc (.cells #[.slice none 0 0, .nilFunc] 57)).alloc (.cells #[] 30)).heap.size := by simp
  rw [hsz] at ho
  clear h h0
  go_enter Try.func39, Try.ntmps39
  go_wp2_with (first | (at_builtin; refine wpList_append_slots rfl (.tmp 5) (.tmp 6) rfl (w.heap.size + 1) (.slice (some ⟨w.heap.size + 1, 0, none⟩) 0 0) 0 f rfl ho.out v n f rfl H.out (by omega) hB1 ?_; intro v' w' hown hg _; rw [append_zero, Nat.zero_add] at hown; have hO := own_of_row hown; clear hown; obtain ⟨a', cap', hvv⟩ := hO.row.form; subst hvv; have hkk := b_grown hg (Nat.le_refl _) hB1; have hbl := (hkk.block _ (Nat.lt_succ_self _)).trans ((Below.heap_alloc _ (.cells #[] 30) w.heap.size (by omega)).trans HB.out); have c0 := cell_of_block hbl 0; have c1 := cell_of_block hbl 1; have g0 := unfrozen_of_block hbl 0; have g1 := unfrozen_of_block hbl 1))
  have hO2 := ((hO.set (Nat.lt_succ_self _) 0 (.slice a' n cap')).set (Nat.lt_succ_self _) 1 dueV).mono (Nat.le_succ _)
  exact bodyPost_ret (v := heapV (.slice a' n cap')) (by simp [results, Try.results39, go_sem, c0, c1]) rfl
    ⟨.slice a' n cap', rfl, hO2, ((k1.trans (hkk.mono (Nat.le_succ _))).setCell (p := ⟨w.heap.size, 0, none⟩) (Nat.le_refl _) _).setCell (p := ⟨w.heap.size, 1, none⟩) (Nat.le_refl _) _⟩

set_option maxRecDepth 100000 in
set_option maxHeartbeats 1000000 in
theorem hLeast_any {v : Value} {n k : Nat} {f : Slots} {w : World} (hn : n ≤ 1048577) (hk : k < n) (h : RowAt w v n f) :
    Calls Try.prog 62 #[heapV v, .int .i64 k] w fun e w' => e = .returned (.int .i64 (bestF f n k)) ∧ Below w.heap.size w w' := by
  obtain ⟨a, cap, hv⟩ := h.form
  have hv2 : ∃ a cap, v = .slice a n cap := ⟨a, cap, hv⟩
  have k0 := (Below.refl w.heap.size w).alloc (Nat.le_refl _) (.cells #[v, dueV] 57)
  have H := Lib.hid (h.below k0)
  have HB := Lib.hid (heap_alloc_new w (.cells #[v, dueV] 57))
  have hs0 : w.heap.size < (w.alloc (.cells #[v, dueV] 57)).heap.size := by simp
  clear h
  subst hv
  have hkm : (k : Int) < 1048577 := by omega
  have hnm : (n : Int) ≤ 1048577 := by omega
  go_enter Try.func62, Try.ntmps62
  go_wp2_with fail
  go_loopw [5, 7] (fun b kk wi => ∃ (bb j : Nat), b = .int .i64 bb ∧ kk = .int .i64 j ∧ bb < n ∧ 4 * k + 1 ≤ j ∧ j ≤ 4 * k + 5 ∧ Below (w.alloc (.cells #[.slice a n cap, dueV] 57)).heap.size (w.alloc (.cells #[.slice a n cap, dueV] 57)) wi ∧ Hid (bestF f n k = bestG f n (4 * k + 5 - j) j bb)) (fun _ kk _ => 4 * k + 5 - (intOf kk).toNat)
  case atStart => exact ⟨k, 4 * k + 1, rfl, congrArg (Value.int .i64) (by omega), hk, Nat.le_refl _, by omega, Below.refl _ _, Lib.hid (by rw [show 4 * k + 5 - (4 * k + 1) = 4 by omega]; rfl)⟩
  case round =>
    obtain ⟨bb, j, rfl, rfl, hbb, hj1, hj2, hbi, hbest⟩ := hrel
    have hBi := b_block hbi HB.out hs0
    have c0 := cell_of_block hBi 0
    have c1 := cell_of_block hBi 1
    have hri := H.out.below hbi
    go_wp2_with fail
    go_at_call 56; refine (hSize_any hn hv2).mono ?_; rintro e w1 ⟨rfl, hb⟩
    have hB1 := b_block hb hBi (Nat.lt_of_lt_of_le hs0 hbi.size)
    have d0 := cell_of_block hB1 0
    have d1 := cell_of_block hB1 1
    have hr1 := hri.below hb
    have hb1 := hbi.trans (hb.mono hbi.size)
    clear hri hB1 hbi c0 c1 hb hBi
    by_cases hc : j < 4 * k + 5 ∧ j < n
    · obtain ⟨hc1, hc2⟩ := hc
      have h1 : (j : Int) < 4 * (k : Int) + 1 + 4 := by omega
      have h2 : (j : Int) < (n : Int) := by omega
      have hstep := hbest.out.trans ((congrArg (fun c => bestG f n c j bb) (show 4 * k + 5 - j = (4 * k + 5 - (j + 1)) + 1 by omega)).trans (bestG_step hc2 _ _))
      clear hbest
      by_cases hm : (n : Int) < 4 * (k : Int) + 1 + 4
      · by_cases hlo : (f j).2 < (f bb).2
        · rw [if_pos hlo] at hstep
          have hS := Lib.hid hstep
          have hd : decide ((f j).2 < (f bb).2) = true := by simpa using hlo
          clear hstep hlo
          go_wp2_with fail
          go_at_call 57; refine (hLess_is true hd hn hc2 hbb hr1).mono ?_; rintro e w2 ⟨rfl, hb⟩
          have hb2 := hb1.trans (hb.mono hb1.size)
          clear hb d0 d1 hr1 hb1
          go_wp2
          exact ⟨⟨j, j + 1, rfl, by go_num, hc2, by omega, by omega, hb2, hS⟩, by simp only [intOf]; omega⟩
        · rw [if_neg hlo] at hstep
          have hS := Lib.hid hstep
          have hd : decide ((f j).2 < (f bb).2) = false := by simpa using hlo
          clear hstep hlo
          go_wp2_with fail
          go_at_call 57; refine (hLess_is false hd hn hc2 hbb hr1).mono ?_; rintro e w2 ⟨rfl, hb⟩
          have hb2 := hb1.trans (hb.mono hb1.size)
          clear hb d0 d1 hr1 hb1
          go_wp2
          exact ⟨⟨bb, j + 1, rfl, by go_num, hbb, by omega, by omega, hb2, hS⟩, by simp only [intOf]; omega⟩
      · by_cases hlo : (f j).2 < (f bb).2
        · rw [if_pos hlo] at hstep
          have hS := Lib.hid hstep
          have hd : decide ((f j).2 < (f bb).2) = true := by simpa using hlo
          clear hstep hlo
          go_wp2_with fail
          go_at_call 57; refine (hLess_is true hd hn hc2 hbb hr1).mono ?_; rintro e w2 ⟨rfl, hb⟩
          have hb2 := hb1.trans (hb.mono hb1.size)
          clear hb d0 d1 hr1 hb1
          go_wp2
          exact ⟨⟨j, j + 1, rfl, by go_num, hc2, by omega, by omega, hb2, hS⟩, by simp only [intOf]; omega⟩
        · rw [if_neg hlo] at hstep
          have hS := Lib.hid hstep
          have hd : decide ((f j).2 < (f bb).2) = false := by simpa using hlo
          clear hstep hlo
          go_wp2_with fail
          go_at_call 57; refine (hLess_is false hd hn hc2 hbb hr1).mono ?_; rintro e w2 ⟨rfl, hb⟩
          have hb2 := hb1.trans (hb.mono hb1.size)
          clear hb d0 d1 hr1 hb1
          go_wp2
          exact ⟨⟨bb, j + 1, rfl, by go_num, hbb, by omega, by omega, hb2, hS⟩, by simp only [intOf]; omega⟩
    · have hB := Lib.hid (show bestF f n k = bb by
        rw [hbest.out]
        by_cases hj : j < n
        · have : 4 * k + 5 - j = 0 := by omega
          rw [this]; rfl
        · exact bestG_out hj _ _)
      have hend := k0.trans (hb1.mono k0.size)
      clear hbest
      by_cases hm : (n : Int) < 4 * (k : Int) + 1 + 4
      · have h1 : ¬ (j : Int) < (n : Int) := by omega
        have h2 : decide (j < n) = false := by simp; omega
        go_wp2
        go_ret
        exact ⟨ret_i64 (congrArg Int.ofNat hB.out.symm), hend⟩
      · have h1 : ¬ (j : Int) < 4 * (k : Int) + 1 + 4 := by omega
        have h2 : decide ((j : Int) < 4 * (k : Int) + 1 + 4) = false := by simpa using h1
        go_wp2
        go_ret
        exact ⟨ret_i64 (congrArg Int.ofNat hB.out.symm), hend⟩

end Go.Proofs.Ytegmlabiodikpaa
