/-
  The program's generic list that is told what is less (chapter 2), at slots: in order, raised, sunk.
-/
import Derived.Test.YtcfkginbkammoaaGreatL05
namespace Go.Proofs.YtcfkginbkammoaaGreat
open Go.RowKit Go.Joins
set_option linter.unusedVariables false

set_option maxRecDepth 100000 in
set_option maxHeartbeats 1000000 in
theorem hInOrder_any {v : Value} {n : Nat} {f : Slots} {w : World} (hn : n ≤ 1048576) (h : RowAt w v n f) :
    Calls Tryz.prog 155 #[heapV v] w fun e w' => e = .returned (.bool (heapFrom f n 1)) ∧ Below w.heap.size w w' := by
  obtain ⟨a, cap, hv⟩ := h.form
  have hv2 : ∃ a cap, v = .slice a n cap := ⟨a, cap, hv⟩
  have k0 := (Below.refl w.heap.size w).alloc (Nat.le_refl _) (.cells #[v, dueV] 158)
  have H := Lib.hid (h.below k0)
  have HB := Lib.hid (heap_alloc_new w (.cells #[v, dueV] 158))
  have hs0 : w.heap.size < (w.alloc (.cells #[v, dueV] 158)).heap.size := by simp
  clear h
  subst hv
  go_enter Tryz.func155, Tryz.ntmps155
  go_wp2_with fail
  go_loopw [3] (fun i wi => ∃ k : Nat, 1 ≤ k ∧ i = .int .i64 k ∧ k ≤ n + 1 ∧ Below (w.alloc (.cells #[.slice a n cap, dueV] 158)).heap.size (w.alloc (.cells #[.slice a n cap, dueV] 158)) wi ∧ Hid (heapFrom f n 1 = heapFrom f n k)) (fun i _ => n + 1 - (intOf i).toNat)
  case atStart => exact ⟨1, Nat.le_refl _, rfl, by omega, Below.refl _ _, Lib.hid rfl⟩
  case round =>
    obtain ⟨k, hk1, rfl, hkn, hbi, hf⟩ := hrel
    have hBi := b_block hbi HB.out hs0
    have c0 := cell_of_block hBi 0
    have c1 := cell_of_block hBi 1
    have hri := H.out.below hbi
    go_wp2_with fail
    go_at_call 151; refine (hSize_any (Nat.le_succ_of_le hn) hv2).mono ?_; rintro e w1 ⟨rfl, hb⟩
    have hB1 := b_block hb hBi (Nat.lt_of_lt_of_le hs0 hbi.size)
    have d0 : w1.cell? ⟨w.heap.size, 0, none⟩ = some (.slice a n cap) := cell_of_block hB1 0
    have d1 : w1.cell? ⟨w.heap.size, 1, none⟩ = some dueV := cell_of_block hB1 1
    have hl1 := lt_of_block hB1
    have hr1 := hri.below hb
    have hb1 := hbi.trans (hb.mono hbi.size)
    clear hri hB1 hbi c0 c1 hb hBi
    by_cases hlt : k < n
    · obtain ⟨p, hp⟩ : ∃ p : Nat, p = (k - 1) / 4 := ⟨_, rfl⟩
      have e2 : ((k : Int) - 1).tdiv 4 = (p : Int) := by
        rw [hp, show ((k : Int) - 1) = ((k - 1 : Nat) : Int) by omega, Int.tdiv_eq_ediv_of_nonneg (by omega)]; omega
      have b1 : p < n := by omega
      have b2 : (k : Int) < (n : Int) := by omega
      have p1 : -9223372036854775808 < (k : Int) := by omega
      have p2 : (k : Int) < 9223372036854775808 := by omega
      by_cases hlo : (f k).2 < (f p).2
      · have hd : decide ((f k).2 < (f p).2) = true := by simpa using hlo
        have HF := Lib.hid (show heapFrom f n 1 = false by rw [hf.out, heapFrom_bad hlt (hp ▸ hlo)])
        clear hlo hf hp
        go_wp2_with fail
        go_region_held3 (fun w' => w'.cell? ⟨w.heap.size, 0, none⟩ = some (.slice a n cap) ∧ w'.cell? ⟨w.heap.size, 1, none⟩ = some dueV)
          (first | exact ⟨d0, d1⟩ | exact ⟨y0, y1⟩ | go_keep)
          (first
            | (go_at_call 160; refine (parentOf_any _ _ p1 p2).mono ?_; rw [e2]; rintro e w' ⟨rfl, rfl⟩)
            | (go_at_call 159; refine (hLess_is true hd (Nat.le_succ_of_le hn) hlt b1 hr1.drew).mono ?_; rintro e w2 ⟨rfl, hb⟩
               have y0 := (hb.cell (p := ⟨w.heap.size, 0, none⟩) hl1).trans d0; have y1 := (hb.cell (p := ⟨w.heap.size, 1, none⟩) hl1).trans d1
               have hb2 := hb1.drew.trans (hb.mono hb1.drew.size)))
        all_goals
          clear d0 d1 y0 y1 hr1 hb1 hb
          go_wp2
          go_ret
          exact ⟨ret_bool HF.out.symm, k0.trans (hb2.mono k0.size)⟩
      · have hd : decide ((f k).2 < (f p).2) = false := by simpa using hlo
        have HF := Lib.hid (hf.out.trans (heapFrom_good hlt (hp ▸ hlo)))
        clear hlo hf hp
        go_wp2_with fail
        go_region_held3 (fun w' => w'.cell? ⟨w.heap.size, 0, none⟩ = some (.slice a n cap) ∧ w'.cell? ⟨w.heap.size, 1, none⟩ = some dueV)
          (first | exact ⟨d0, d1⟩ | exact ⟨y0, y1⟩ | go_keep)
          (first
            | (go_at_call 160; refine (parentOf_any _ _ p1 p2).mono ?_; rw [e2]; rintro e w' ⟨rfl, rfl⟩)
            | (go_at_call 159; refine (hLess_is false hd (Nat.le_succ_of_le hn) hlt b1 hr1.drew).mono ?_; rintro e w2 ⟨rfl, hb⟩
               have y0 := (hb.cell (p := ⟨w.heap.size, 0, none⟩) hl1).trans d0; have y1 := (hb.cell (p := ⟨w.heap.size, 1, none⟩) hl1).trans d1
               have hb2 := hb1.drew.trans (hb.mono hb1.drew.size)))
        all_goals
          clear d0 d1 y0 y1 hr1 hb1 hb
          go_wp2
          exact ⟨⟨k + 1, by omega, by go_num, by omega, hb2, HF⟩, by simp [intOf]; omega⟩
    · have HF := Lib.hid (hf.out.trans (heapFrom_out hlt))
      clear hf
      go_wp2
      go_ret
      exact ⟨ret_bool HF.out.symm, k0.trans (hb1.mono k0.size)⟩

end Go.Proofs.YtcfkginbkammoaaGreat
