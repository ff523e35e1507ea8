/-
  FnExactPushedOn, told what the program's own function answers.
-/
import Derived.Test.YtegmlabiodikpaaHeapExact
namespace Go.Proofs.Ytegmlabiodikpaa
open Go.RowKit Go.Joins
set_option linter.unusedVariables false

/-! ### exPushed: a list and a word, asked of one list and one slot -/
set_option maxRecDepth 100000 in
set_option maxHeartbeats 1000000 in
theorem exPushed_big {v : Value} {n : Nat} {f : Slots} (a b : Int) {w : World} (hm : n ≤ maxLen) (hn : ¬ n ≤ 1048576) (h : RowAt w v n f) :
    Calls Try.prog 8 #[v, .agg #[.int .i64 a, .int .i64 b]] w fun e w' => e = .returned (.bool true) ∧ Below w.heap.size w w' := by
  have hv := h.form
  clear h
  go_enter Try.func8, Try.ntmps8
  go_wp2_with fail
  go_at_call 32; refine (szSlotS_any hv 1048576 _ (by decide) (by decide) hm).mono ?_; rintro e w' ⟨rfl, rfl⟩
  rw [big_n hn]
  go_wp2
  go_ret
  exact ⟨rfl, (Below.refl _ _).alloc (Nat.le_refl _) _⟩

set_option maxRecDepth 100000 in
set_option maxHeartbeats 2000000 in
theorem exPushed_small {v : Value} {n : Nat} {f : Slots} (a b : Int) {w : World} (N : Nat) (F : Slots) (bb : Bool) (hN : N ≤ 1048576)
    (hS : ∀ (v : Value) (w : World), RowAt w v n f → Calls Try.prog 23 #[v, .agg #[.int .i64 a, .int .i64 b]] w (NewRowB N F bb w))
    (hI : ∀ (v : Value) (w : World), RowAt w v n f → Calls Try.prog 14 #[v, .agg #[.int .i64 a, .int .i64 b]] w (NewRowB N F bb w))
    (hn : n ≤ 1048576) (h : RowAt w v n f) :
    Calls Try.prog 8 #[v, .agg #[.int .i64 a, .int .i64 b]] w fun e w' => e = .returned (.bool true) ∧ Below w.heap.size w w' := by
  have hv := h.form
  have ha := (Below.refl w.heap.size w).alloc (Nat.le_refl _) (.cells #[.int .i64 a, .int .i64 b] 49)
  have RV := h.lt.step ha
  have K := ha
  have A := Lib.hid (heap_alloc_new w (.cells #[.int .i64 a, .int .i64 b] 49))
  clear h ha
  have hm : n ≤ maxLen := by unfold maxLen; omega
  have HS := Lib.hid hS
  have HI := Lib.hid hI
  clear hS hI
  go_enter Try.func8, Try.ntmps8
  go_wp2_with fail
  go_at_call 32; refine (szSlotS_any hv 1048576 _ (by decide) (by decide) hm).mono ?_; rintro e w' ⟨rfl, rfl⟩
  rw [small_n hn]
  clear hv hm
  have hle : (0 : Int) ≤ 1048576 - (n : Int) := by omega
  go_wp2_with fail
  replace RV : RowLt (w.alloc (.cells #[.int .i64 a, .int .i64 b] 49)).drew w.heap.size v n f := RV
  replace K : Below w.heap.size w (w.alloc (.cells #[.int .i64 a, .int .i64 b] 49)).drew := K.drew
  replace A : Hid ((w.alloc (.cells #[.int .i64 a, .int .i64 b] 49)).drew.heap[w.heap.size]? = some (.cells #[.int .i64 a, .int .i64 b] 49)) := A
  have c0 : (w.alloc (.cells #[.int .i64 a, .int .i64 b] 49)).drew.cell? ⟨w.heap.size, 0, none⟩ = some (.int .i64 a) := cell_of_block A.out 0
  have c1 : (w.alloc (.cells #[.int .i64 a, .int .i64 b] 49)).drew.cell? ⟨w.heap.size, 1, none⟩ = some (.int .i64 b) := cell_of_block A.out 1
  go_region_held3 (fun w' => w'.cell? ⟨w.heap.size, 0, none⟩ = some (.int .i64 a) ∧ w'.cell? ⟨w.heap.size, 1, none⟩ = some (.int .i64 b))
    (first | exact ⟨c0, c1⟩ | go_keep)
    (first
      | (go_at_call 33; refine (toSlotS_any hn RV.row).mono ?_; rintro e w1 ⟨u1, rfl, hU, hb⟩
         replace RV := RV.step hb; replace K := K.trans (hb.mono K.size); replace A := Lib.hid (blk_step A.out hb); replace c0 := cell_of_block A.out 0; replace c1 := cell_of_block A.out 1; clear hb)
      | (go_at_call 37; refine (toSlot_any _ _ _).mono ?_; rintro e w1' ⟨rfl, hb⟩
         replace hU := hU.below hb; replace RV := RV.step hb; replace K := K.trans (hb.mono K.size); replace A := Lib.hid (blk_step A.out hb); replace c0 := cell_of_block A.out 0; replace c1 := cell_of_block A.out 1; clear hb)
      | (go_at_call 23; refine (HS.out _ _ hU.row).mono ?_; rintro e w2 ⟨r0, rfl, hR, hb⟩
         replace RV := RV.step hb; replace K := K.trans (hb.mono K.size); replace A := Lib.hid (blk_step A.out hb); replace c0 := cell_of_block A.out 0; replace c1 := cell_of_block A.out 1; have RR := hR.row.lt; clear hb hU hR))
  clear HS c0 c1
  have K2 := K.size
  have L2 := lt_of_block A.out
  go_wp2_with fail
  go_at_call 33; refine (toSlotS_any hn RV.row).mono ?_; rintro e w3 ⟨x0, rfl, hX, hb⟩
  replace RV := RV.step hb; replace RR := RR.step hb; replace A := Lib.hid (blk_step A.out hb); replace K := K.trans (hb.mono K.size); have K3 := K.size; have S3 := hb.size; have X3 := hX.lt_size; clear hb
  have c0 : w3.cell? ⟨w.heap.size, 0, none⟩ = some (.int .i64 a) := cell_of_block A.out 0
  have c1 : w3.cell? ⟨w.heap.size, 1, none⟩ = some (.int .i64 b) := cell_of_block A.out 1
  go_wp2_with fail
  go_at_call 37; refine (toSlot_any _ _ _).mono ?_; rintro e w3' ⟨rfl, hb⟩
  replace RV := RV.step hb; replace RR := RR.step hb; replace hX := hX.below hb; replace A := Lib.hid (blk_step A.out hb); replace K := K.trans (hb.mono K.size); have S3' := Nat.le_trans S3 hb.size; replace X3 := fun g e => Nat.lt_of_lt_of_le (X3 g e) hb.size; have L3 := lt_of_block A.out; have K3' := K.size; have S2' := Nat.le_trans S3 hb.size; clear hb c0 c1
  go_wp2_with fail
  go_at_call 14; refine (HI.out _ _ hX.row).mono ?_; rintro e w4 ⟨g0, rfl, hG, hb⟩
  replace RV := RV.step hb; replace RR := RR.step hb; replace hX := hX.below hb; replace A := Lib.hid (blk_step A.out hb); replace K := K.trans (hb.mono K.size); have S4 := Nat.le_trans S3' hb.size; have S4' := hb.size; clear hb
  go_wp2_with fail
  go_at_call 34; refine (eqSlotS_same hN hG.row RR.row).mono ?_; rintro e w5 ⟨rfl, hb⟩
  replace RV := RV.step hb; replace RR := RR.step hb; replace hX := hX.below hb; replace hG := hG.below hb; replace A := Lib.hid (blk_step A.out hb); replace K := K.trans (hb.mono K.size); have S5 := Nat.le_trans S4 hb.size; have S5' := Nat.le_trans S4' hb.size; clear hb
  go_wp2_with fail
  go_at_call 33; refine (toSlotS_any hn RV.row).mono ?_; rintro e w7 ⟨u6, rfl, hU, hb⟩
  replace RV := RV.step hb; replace RR := RR.step hb; replace hX := hX.below hb; replace hG := hG.below hb; replace A := Lib.hid (blk_step A.out hb); replace K := K.trans (hb.mono K.size); have S7 := Nat.le_trans S5 hb.size; have S7' := Nat.le_trans S5' hb.size; clear hb
  go_wp2_with fail
  go_at_call 34; refine (eqSlotS_same hn hX.row hU.row).mono ?_; rintro e w8 ⟨rfl, hb⟩
  replace RV := RV.step hb; replace RR := RR.step hb; replace hX := hX.below hb; replace hG := hG.below hb; replace A := Lib.hid (blk_step A.out hb); replace K := K.trans (hb.mono K.size); have S8 := Nat.le_trans S7 hb.size; have S8' := Nat.le_trans S7' hb.size; clear hb hU
  go_wp2_with fail
  go_at_call 35; refine (markRow_any 1 (by decide) (by decide) hn hX).mono ?_; rintro e w9 ⟨rfl, hX9, hgx⟩
  have hb := hX.below_own hgx S8
  replace RV := RV.mark hb K2; replace RR := RR.mark hb (Nat.le_refl _); replace hG := hG.kept hgx X3; replace K := K.trans (hb.mono K2)
  replace A := Lib.hid (b_block hb A.out L2); have S9' := Nat.le_trans S8' hgx.size
  clear hb hX hX9 hgx X3
  have hm1 : ¬ (1 + 2 * (n : Int)) < 0 := by omega
  go_wp2_with fail
  go_at_call 34; refine (eqSlotS_same hN hG.row RR.row).mono ?_; rintro e w10 ⟨rfl, hb⟩
  replace RV := RV.step hb; replace RR := RR.step hb; replace hG := hG.below hb; replace A := Lib.hid (blk_step A.out hb); replace K := K.trans (hb.mono K.size); have S10' := Nat.le_trans S9' hb.size; clear hb
  have hmN : ¬ (1 + 2 * (N : Int)) < 0 := by omega
  go_wp2_with fail
  go_at_call 35; refine (markRow_any 1 (by decide) (by decide) hN hG).mono ?_; rintro e w12 ⟨rfl, hG12, hgg⟩
  have hb := hG.below_own hgg S10'
  replace RV := RV.mark hb K3'; replace RR := RR.mark hb S2'; replace A := Lib.hid (b_block hb A.out L3); replace K := K.trans (hb.mono K3'); clear hb hG hgg
  go_wp2_with fail
  go_at_call 36; refine (heldSlotS_any 1 (by decide) (by decide) hN hG12.row).mono ?_; rintro e w' ⟨rfl, rfl⟩
  go_wp2_with fail
  replace RV : RowLt w12.drew w.heap.size v n f := RV
  replace RR : RowLt w12.drew w2.heap.size r0 N F := RR
  replace K : Below w.heap.size w w12.drew := K.drew
  replace A : Hid (w12.drew.heap[w.heap.size]? = some (.cells #[.int .i64 a, .int .i64 b] 49)) := A
  replace hG12 := hG12.drew
  have c0 : w12.drew.cell? ⟨w.heap.size, 0, none⟩ = some (.int .i64 a) := cell_of_block A.out 0
  have c1 : w12.drew.cell? ⟨w.heap.size, 1, none⟩ = some (.int .i64 b) := cell_of_block A.out 1
  go_region_held3 (fun w' => w'.cell? ⟨w.heap.size, 0, none⟩ = some (.int .i64 a) ∧ w'.cell? ⟨w.heap.size, 1, none⟩ = some (.int .i64 b))
    (first | exact ⟨c0, c1⟩ | go_keep)
    (first
      | (go_at_call 33; refine (toSlotS_any hn RV.row).mono ?_; rintro e w13 ⟨u11, rfl, hU, hb⟩
         replace RR := RR.step hb; replace hG12 := hG12.below hb; replace K := K.trans (hb.mono K.size); replace A := Lib.hid (blk_step A.out hb); replace c0 := cell_of_block A.out 0; replace c1 := cell_of_block A.out 1; clear hb)
      | (go_at_call 37; refine (toSlot_any _ _ _).mono ?_; rintro e w13' ⟨rfl, hb⟩
         replace hU := hU.below hb; replace RR := RR.step hb; replace hG12 := hG12.below hb; replace K := K.trans (hb.mono K.size); replace A := Lib.hid (blk_step A.out hb); replace c0 := cell_of_block A.out 0; replace c1 := cell_of_block A.out 1; clear hb)
      | (go_at_call 14; refine (HI.out _ _ hU.row).mono ?_; rintro e w14 ⟨h0, rfl, hH, hb⟩
         replace RR := RR.step hb; replace hG12 := hG12.below hb; replace K := K.trans (hb.mono K.size); replace A := Lib.hid (blk_step A.out hb); replace c0 := cell_of_block A.out 0; replace c1 := cell_of_block A.out 1; clear hb hU))
  clear HI c0 c1 A RV
  go_wp2_with fail
  go_at_call 34; refine (eqSlotS_same hN hH.row RR.row).mono ?_; rintro e w15 ⟨rfl, hb⟩
  replace hG12 := hG12.below hb; replace K := K.trans (hb.mono K.size); clear hb RR hH
  go_wp2_with fail
  go_at_call 36; refine (heldSlotS_any 1 (by decide) (by decide) hN hG12.row).mono ?_; rintro e w' ⟨rfl, rfl⟩
  go_wp2
  go_ret
  exact ⟨rfl, K⟩

theorem pushedN_le {n : Nat} (hn : n ≤ 1048576) : pushedN n ≤ 1048576 := by unfold pushedN; split <;> omega
/-- what the program's PushedOn is to answer -/
def Pushes (fn : FuncId) : Prop := ∀ (v : Value) (n : Nat) (f : Slots) (a b : Int) (w : World), n ≤ 1048576 → RowAt w v n f → Calls Try.prog fn #[v, .agg #[.int .i64 a, .int .i64 b]] w (NewRowB (pushedN n) (pushedF f n (a, b)) (decide (n < 30)) w)

end Go.Proofs.Ytegmlabiodikpaa
