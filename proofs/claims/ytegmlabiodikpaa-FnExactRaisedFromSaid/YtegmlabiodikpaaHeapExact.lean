/-
  The exact laws on heaps, told what the program's own functions answer.
-/
import Derived.Test.YtegmlabiodikpaaSlotLaws
import Derived.Test.YtegmlabiodikpaaHeapPush
namespace Go.Proofs.Ytegmlabiodikpaa
open Go.RowKit Go.Joins
set_option linter.unusedVariables false

/-- what a sift of the program's is to answer -/
def Sifts (fn : FuncId) (M : Slots → Nat → Int → Slots) : Prop := ∀ (v : Value) (n : Nat) (f : Slots) (i : Int) (w : World), n ≤ 1048576 → RowAt w v n f → Calls Try.prog fn #[v, .int .i64 i] w (NewRow n (M f n i) w)
/-- the law's size test: too long -/
theorem big_n {n : Nat} (h : ¬ n ≤ 1048576) : (if (1048576 : Int) < (n : Int) then (-1 : Int) else 1048576 - (n : Int)) = -1 := if_pos (by omega)
theorem small_n {n : Nat} (h : n ≤ 1048576) : (if (1048576 : Int) < (n : Int) then (-1 : Int) else 1048576 - (n : Int)) = 1048576 - (n : Int) := if_neg (by omega)

/-! ### exRaised -/
set_option maxRecDepth 100000 in
set_option maxHeartbeats 1000000 in
theorem exRaised_big {v : Value} {n : Nat} {f : Slots} (i : Int) {w : World} (hm : n ≤ maxLen) (hn : ¬ n ≤ 1048576) (h : RowAt w v n f) :
    Calls Try.prog 6 #[v, .int .i64 i] w fun e w' => e = .returned (.bool true) ∧ Below w.heap.size w w' := by
  have hv := h.form
  clear h
  go_enter Try.func6, Try.ntmps6
  go_wp2_with fail
  go_at_call 32; refine (szSlotS_any hv 1048576 _ (by decide) (by decide) hm).mono ?_; rintro e w' ⟨rfl, rfl⟩
  rw [big_n hn]
  go_wp2
  go_ret
  exact ⟨rfl, Below.refl _ _⟩

set_option maxRecDepth 100000 in
set_option maxHeartbeats 1000000 in
theorem exRaised_small (hI : Sifts 19 raisedF)
    {v : Value} {n : Nat} {f : Slots} (i : Int) {w : World} (hn : n ≤ 1048576) (h : RowAt w v n f) :
    Calls Try.prog 6 #[v, .int .i64 i] w fun e w' => e = .returned (.bool true) ∧ Below w.heap.size w w' := by
  have hv := h.form
  have RV := h.lt
  clear h
  have K := Below.refl w.heap.size w
  have hm : n ≤ maxLen := by unfold maxLen; omega
  go_enter Try.func6, Try.ntmps6
  go_wp2_with fail
  go_at_call 32; refine (szSlotS_any hv 1048576 _ (by decide) (by decide) hm).mono ?_; rintro e w' ⟨rfl, rfl⟩
  rw [small_n hn]
  clear hv hm
  have hle : (0 : Int) ≤ 1048576 - (n : Int) := by omega
  go_wp2_with fail
  go_at_call 33; refine (toSlotS_any hn RV.row).mono ?_; rintro e w1 ⟨u1, rfl, hU, hb⟩
  replace RV := RV.step hb; replace K := K.trans (hb.mono K.size); clear hb
  go_wp2_with fail
  go_at_call 28; refine (spRaised_any i hn hU.row).mono ?_; rintro e w2 ⟨r0, rfl, hR, hb⟩
  replace RV := RV.step hb; replace K := K.trans (hb.mono K.size); have RR := hR.row.lt; clear hb hU hR
  have K2 := K.size
  go_wp2_with fail
  go_at_call 33; refine (toSlotS_any hn RV.row).mono ?_; rintro e w3 ⟨x0, rfl, hX, hb⟩
  replace RV := RV.step hb; replace RR := RR.step hb; replace K := K.trans (hb.mono K.size); have K3 := K.size; have S3 := hb.size; have S3' := hb.size; have X3 := hX.lt_size; clear hb
  go_wp2_with fail
  go_at_call 19; refine (hI _ _ _ i _ hn hX.row).mono ?_; rintro e w4 ⟨g0, rfl, hG, hb⟩
  replace RV := RV.step hb; replace RR := RR.step hb; replace hX := hX.below hb; replace K := K.trans (hb.mono K.size); have S4 := Nat.le_trans S3 hb.size; have S4' := hb.size; clear hb
  go_wp2_with fail
  go_at_call 34; refine (eqSlotS_same hn hG.row RR.row).mono ?_; rintro e w5 ⟨rfl, hb⟩
  replace RV := RV.step hb; replace RR := RR.step hb; replace hX := hX.below hb; replace hG := hG.below hb; replace K := K.trans (hb.mono K.size); have S5 := Nat.le_trans S4 hb.size; have S5' := Nat.le_trans S4' hb.size; clear hb
  go_wp2_with fail
  go_at_call 33; refine (toSlotS_any hn RV.row).mono ?_; rintro e w6 ⟨u6, rfl, hU, hb⟩
  replace RV := RV.step hb; replace RR := RR.step hb; replace hX := hX.below hb; replace hG := hG.below hb; replace K := K.trans (hb.mono K.size); have S6 := Nat.le_trans S5 hb.size; have S6' := Nat.le_trans S5' hb.size; clear hb
  go_wp2_with fail
  go_at_call 34; refine (eqSlotS_same hn hX.row hU.row).mono ?_; rintro e w7 ⟨rfl, hb⟩
  replace RV := RV.step hb; replace RR := RR.step hb; replace hX := hX.below hb; replace hG := hG.below hb; replace K := K.trans (hb.mono K.size); have S7 := Nat.le_trans S6 hb.size; have S7' := Nat.le_trans S6' hb.size; clear hb hU
  go_wp2_with fail
  go_at_call 35; refine (markRow_any 1 (by decide) (by decide) hn hX).mono ?_; rintro e w8 ⟨rfl, hX8, hgx⟩
  have hb := hX.below_own hgx S7
  replace RV := RV.mark hb K2; replace RR := RR.mark hb (Nat.le_refl _); replace hG := hG.kept hgx X3; replace K := K.trans (hb.mono K2); have S8' := Nat.le_trans S7' hgx.size; clear hb hX hX8 hgx X3 S3 S4 S5 S6 S7
  have hm1 : ¬ (1 + 2 * (n : Int)) < 0 := by omega
  go_wp2_with fail
  go_at_call 34; refine (eqSlotS_same hn hG.row RR.row).mono ?_; rintro e w9 ⟨rfl, hb⟩
  replace RV := RV.step hb; replace RR := RR.step hb; replace hG := hG.below hb; replace K := K.trans (hb.mono K.size); have S9' := Nat.le_trans S8' hb.size; clear hb
  go_wp2_with fail
  go_at_call 35; refine (markRow_any 1 (by decide) (by decide) hn hG).mono ?_; rintro e w10 ⟨rfl, hG10, hgg⟩
  have hb := hG.below_own hgg S9'
  replace RV := RV.mark hb K3; replace RR := RR.mark hb (Nat.le_trans (Nat.le_refl _) S3'); replace K := K.trans (hb.mono K3); clear hb hG hgg
  go_wp2_with fail
  go_at_call 36; refine (heldSlotS_any 1 (by decide) (by decide) hn hG10.row).mono ?_; rintro e w' ⟨rfl, rfl⟩
  go_wp2_with fail
  go_at_call 33; refine (toSlotS_any hn RV.row).mono ?_; rintro e w11 ⟨u11, rfl, hU, hb⟩
  replace RR := RR.step hb; replace hG10 := hG10.below hb; replace K := K.trans (hb.mono K.size); clear hb RV
  go_wp2_with fail
  go_at_call 19; refine (hI _ _ _ i _ hn hU.row).mono ?_; rintro e w12 ⟨h0, rfl, hH, hb⟩
  replace RR := RR.step hb; replace hG10 := hG10.below hb; replace K := K.trans (hb.mono K.size); clear hb hU
  go_wp2_with fail
  go_at_call 34; refine (eqSlotS_same hn hH.row RR.row).mono ?_; rintro e w13 ⟨rfl, hb⟩
  replace hG10 := hG10.below hb; replace K := K.trans (hb.mono K.size); clear hb RR hH
  go_wp2_with fail
  go_at_call 36; refine (heldSlotS_any 1 (by decide) (by decide) hn hG10.row).mono ?_; rintro e w' ⟨rfl, rfl⟩
  go_wp2
  go_ret
  exact ⟨rfl, K⟩

/-! ### exSunk -/
set_option maxRecDepth 100000 in
set_option maxHeartbeats 1000000 in
theorem exSunk_big {v : Value} {n : Nat} {f : Slots} (i : Int) {w : World} (hm : n ≤ maxLen) (hn : ¬ n ≤ 1048576) (h : RowAt w v n f) :
    Calls Try.prog 7 #[v, .int .i64 i] w fun e w' => e = .returned (.bool true) ∧ Below w.heap.size w w' := by
  have hv := h.form
  clear h
  go_enter Try.func7, Try.ntmps7
  go_wp2_with fail
  go_at_call 32; refine (szSlotS_any hv 1048576 _ (by decide) (by decide) hm).mono ?_; rintro e w' ⟨rfl, rfl⟩
  rw [big_n hn]
  go_wp2
  go_ret
  exact ⟨rfl, Below.refl _ _⟩

set_option maxRecDepth 100000 in
set_option maxHeartbeats 1000000 in
theorem exSunk_small (hI : Sifts 20 sunkF)
    {v : Value} {n : Nat} {f : Slots} (i : Int) {w : World} (hn : n ≤ 1048576) (h : RowAt w v n f) :
    Calls Try.prog 7 #[v, .int .i64 i] w fun e w' => e = .returned (.bool true) ∧ Below w.heap.size w w' := by
  have hv := h.form
  have RV := h.lt
  clear h
  have K := Below.refl w.heap.size w
  have hm : n ≤ maxLen := by unfold maxLen; omega
  go_enter Try.func7, Try.ntmps7
  go_wp2_with fail
  go_at_call 32; refine (szSlotS_any hv 1048576 _ (by decide) (by decide) hm).mono ?_; rintro e w' ⟨rfl, rfl⟩
  rw [small_n hn]
  clear hv hm
  have hle : (0 : Int) ≤ 1048576 - (n : Int) := by omega
  go_wp2_with fail
  go_at_call 33; refine (toSlotS_any hn RV.row).mono ?_; rintro e w1 ⟨u1, rfl, hU, hb⟩
  replace RV := RV.step hb; replace K := K.trans (hb.mono K.size); clear hb
  go_wp2_with fail
  go_at_call 29; refine (spSunk_any i hn hU.row).mono ?_; rintro e w2 ⟨r0, rfl, hR, hb⟩
  replace RV := RV.step hb; replace K := K.trans (hb.mono K.size); have RR := hR.row.lt; clear hb hU hR
  have K2 := K.size
  go_wp2_with fail
  go_at_call 33; refine (toSlotS_any hn RV.row).mono ?_; rintro e w3 ⟨x0, rfl, hX, hb⟩
  replace RV := RV.step hb; replace RR := RR.step hb; replace K := K.trans (hb.mono K.size); have K3 := K.size; have S3 := hb.size; have S3' := hb.size; have X3 := hX.lt_size; clear hb
  go_wp2_with fail
  go_at_call 20; refine (hI _ _ _ i _ hn hX.row).mono ?_; rintro e w4 ⟨g0, rfl, hG, hb⟩
  replace RV := RV.step hb; replace RR := RR.step hb; replace hX := hX.below hb; replace K := K.trans (hb.mono K.size); have S4 := Nat.le_trans S3 hb.size; have S4' := hb.size; clear hb
  go_wp2_with fail
  go_at_call 34; refine (eqSlotS_same hn hG.row RR.row).mono ?_; rintro e w5 ⟨rfl, hb⟩
  replace RV := RV.step hb; replace RR := RR.step hb; replace hX := hX.below hb; replace hG := hG.below hb; replace K := K.trans (hb.mono K.size); have S5 := Nat.le_trans S4 hb.size; have S5' := Nat.le_trans S4' hb.size; clear hb
  go_wp2_with fail
  go_at_call 33; refine (toSlotS_any hn RV.row).mono ?_; rintro e w6 ⟨u6, rfl, hU, hb⟩
  replace RV := RV.step hb; replace RR := RR.step hb; replace hX := hX.below hb; replace hG := hG.below hb; replace K := K.trans (hb.mono K.size); have S6 := Nat.le_trans S5 hb.size; have S6' := Nat.le_trans S5' hb.size; clear hb
  go_wp2_with fail
  go_at_call 34; refine (eqSlotS_same hn hX.row hU.row).mono ?_; rintro e w7 ⟨rfl, hb⟩
  replace RV := RV.step hb; replace RR := RR.step hb; replace hX := hX.below hb; replace hG := hG.below hb; replace K := K.trans (hb.mono K.size); have S7 := Nat.le_trans S6 hb.size; have S7' := Nat.le_trans S6' hb.size; clear hb hU
  go_wp2_with fail
  go_at_call 35; refine (markRow_any 1 (by decide) (by decide) hn hX).mono ?_; rintro e w8 ⟨rfl, hX8, hgx⟩
  have hb := hX.below_own hgx S7
  replace RV := RV.mark hb K2; replace RR := RR.mark hb (Nat.le_refl _); replace hG := hG.kept hgx X3; replace K := K.trans (hb.mono K2); have S8' := Nat.le_trans S7' hgx.size; clear hb hX hX8 hgx X3 S3 S4 S5 S6 S7
  have hm1 : ¬ (1 + 2 * (n : Int)) < 0 := by omega
  go_wp2_with fail
  go_at_call 34; refine (eqSlotS_same hn hG.row RR.row).mono ?_; rintro e w9 ⟨rfl, hb⟩
  replace RV := RV.step hb; replace RR := RR.step hb; replace hG := hG.below hb; replace K := K.trans (hb.mono K.size); have S9' := Nat.le_trans S8' hb.size; clear hb
  go_wp2_with fail
  go_at_call 35; refine (markRow_any 1 (by decide) (by decide) hn hG).mono ?_; rintro e w10 ⟨rfl, hG10, hgg⟩
  have hb := hG.below_own hgg S9'
  replace RV := RV.mark hb K3; replace RR := RR.mark hb (Nat.le_trans (Nat.le_refl _) S3'); replace K := K.trans (hb.mono K3); clear hb hG hgg
  go_wp2_with fail
  go_at_call 36; refine (heldSlotS_any 1 (by decide) (by decide) hn hG10.row).mono ?_; rintro e w' ⟨rfl, rfl⟩
  go_wp2_with fail
  go_at_call 33; refine (toSlotS_any hn RV.row).mono ?_; rintro e w11 ⟨u11, rfl, hU, hb⟩
  replace RR := RR.step hb; replace hG10 := hG10.below hb; replace K := K.trans (hb.mono K.size); clear hb RV
  go_wp2_with fail
  go_at_call 20; refine (hI _ _ _ i _ hn hU.row).mono ?_; rintro e w12 ⟨h0, rfl, hH, hb⟩
  replace RR := RR.step hb; replace hG10 := hG10.below hb; replace K := K.trans (hb.mono K.size); clear hb hU
  go_wp2_with fail
  go_at_call 34; refine (eqSlotS_same hn hH.row RR.row).mono ?_; rintro e w13 ⟨rfl, hb⟩
  replace hG10 := hG10.below hb; replace K := K.trans (hb.mono K.size); clear hb RR hH
  go_wp2_with fail
  go_at_call 36; refine (heldSlotS_any 1 (by decide) (by decide) hn hG10.row).mono ?_; rintro e w' ⟨rfl, rfl⟩
  go_wp2
  go_ret
  exact ⟨rfl, K⟩

/-- what a question of the program's is to answer -/
def AsksB (fn : FuncId) (M : Slots → Nat → Bool) : Prop := ∀ (v : Value) (n : Nat) (f : Slots) (w : World), n ≤ 1048576 → RowAt w v n f → Calls Try.prog fn #[v] w fun e w' => e = .returned (.bool (M f n)) ∧ Below w.heap.size w w'
def AsksI (fn : FuncId) (M : Slots → Nat → Int → Int) : Prop := ∀ (v : Value) (n : Nat) (f : Slots) (i : Int) (w : World), n ≤ 1048576 → RowAt w v n f → Calls Try.prog fn #[v, .int .i64 i] w fun e w' => e = .returned (.int .i64 (M f n i)) ∧ Below w.heap.size w w'
theorem spHeapOk_low {v : Value} {n : Nat} (f : Slots) {w : World} (hn : n ≤ 1048576) (h : RowAt w v n f) :
    Calls Try.prog 31 #[v] w fun e w' => e = .returned (.bool (heapB f n)) ∧ Below w.heap.size w w' :=
  (spHeapOk_any f hn h).mono fun e w' ⟨m, he, hw⟩ => ⟨he, by rw [hw]; exact b_drewN (Below.refl _ _) m⟩
def findM (f : Slots) (n : Nat) (i : Int) : Int := findFrom f n i 0
theorem spFindSlot_low {v : Value} {n : Nat} (f : Slots) (i : Int) {w : World} (hn : n ≤ 1048576) (h : RowAt w v n f) :
    Calls Try.prog 30 #[v, .int .i64 i] w fun e w' => e = .returned (.int .i64 (findM f n i)) ∧ Below w.heap.size w w' :=
  (spFindSlot_any f i hn h).mono fun e w' ⟨he, hw⟩ => ⟨he, by rw [← hw]; exact Below.refl _ _⟩

/-! ### exHeapOk -/
set_option maxRecDepth 100000 in
set_option maxHeartbeats 1000000 in
theorem exHeapOk_big {v : Value} {n : Nat} {f : Slots} {w : World} (hm : n ≤ maxLen) (hn : ¬ n ≤ 1048576) (h : RowAt w v n f) :
    Calls Try.prog 5 #[v] w fun e w' => e = .returned (.bool true) ∧ Below w.heap.size w w' := by
  have hv := h.form
  clear h
  go_enter Try.func5, Try.ntmps5
  go_wp2_with fail
  go_at_call 32; refine (szSlotS_any hv 1048576 _ (by decide) (by decide) hm).mono ?_; rintro e w' ⟨rfl, rfl⟩
  rw [big_n hn]
  go_wp2
  go_ret
  exact ⟨rfl, Below.refl _ _⟩

set_option maxRecDepth 100000 in
set_option maxHeartbeats 1000000 in
theorem exHeapOk_small (hI : AsksB 15 heapB) {v : Value} {n : Nat} {f : Slots} {w : World} (hn : n ≤ 1048576) (h : RowAt w v n f) :
    Calls Try.prog 5 #[v] w fun e w' => e = .returned (.bool true) ∧ Below w.heap.size w w' := by
  have hv := h.form
  have RV := h.lt
  clear h
  have K := Below.refl w.heap.size w
  have hm : n ≤ maxLen := by unfold maxLen; omega
  go_enter Try.func5, Try.ntmps5
  go_wp2_with fail
  go_at_call 32; refine (szSlotS_any hv 1048576 _ (by decide) (by decide) hm).mono ?_; rintro e w' ⟨rfl, rfl⟩
  rw [small_n hn]
  clear hv hm
  have hle : (0 : Int) ≤ 1048576 - (n : Int) := by omega
  go_wp2_with fail
  go_at_call 33; refine (toSlotS_any hn RV.row).mono ?_; rintro e w1 ⟨u1, rfl, hU, hb⟩
  replace RV := RV.step hb; replace K := K.trans (hb.mono K.size); clear hb
  go_wp2_with fail
  go_at_call 31; refine (spHeapOk_low f hn hU.row).mono ?_; rintro e w2 ⟨rfl, hb⟩
  replace RV := RV.step hb; replace K := K.trans (hb.mono K.size); clear hb hU
  go_wp2_with fail
  go_at_call 33; refine (toSlotS_any hn RV.row).mono ?_; rintro e w3 ⟨x0, rfl, hX, hb⟩
  replace RV := RV.step hb; replace K := K.trans (hb.mono K.size); clear hb
  go_wp2_with fail
  go_at_call 15; refine (hI _ _ _ _ hn hX.row).mono ?_; rintro e w4 ⟨rfl, hb⟩
  replace RV := RV.step hb; replace hX := hX.below hb; replace K := K.trans (hb.mono K.size); clear hb
  go_wp2_with fail
  go_at_call 33; refine (toSlotS_any hn RV.row).mono ?_; rintro e w6 ⟨u6, rfl, hU, hb⟩
  replace hX := hX.below hb; replace K := K.trans (hb.mono K.size); clear hb RV
  go_wp2_with fail
  go_at_call 34; refine (eqSlotS_same hn hX.row hU.row).mono ?_; rintro e w7 ⟨rfl, hb⟩
  replace K := K.trans (hb.mono K.size); clear hb hU hX
  go_wp2
  go_ret
  exact ⟨rfl, K⟩

/-! ### exFindSlot -/
set_option maxRecDepth 100000 in
set_option maxHeartbeats 1000000 in
theorem exFindSlot_big {v : Value} {n : Nat} {f : Slots} (i : Int) {w : World} (hm : n ≤ maxLen) (hn : ¬ n ≤ 1048576) (h : RowAt w v n f) :
    Calls Try.prog 10 #[v, .int .i64 i] w fun e w' => e = .returned (.bool true) ∧ Below w.heap.size w w' := by
  have hv := h.form
  clear h
  go_enter Try.func10, Try.ntmps10
  go_wp2_with fail
  go_at_call 32; refine (szSlotS_any hv 1048576 _ (by decide) (by decide) hm).mono ?_; rintro e w' ⟨rfl, rfl⟩
  rw [big_n hn]
  go_wp2
  go_ret
  exact ⟨rfl, Below.refl _ _⟩

set_option maxRecDepth 100000 in
set_option maxHeartbeats 1000000 in
theorem exFindSlot_small (hI : AsksI 16 findM) {v : Value} {n : Nat} {f : Slots} (i : Int) {w : World} (hn : n ≤ 1048576) (h : RowAt w v n f) :
    Calls Try.prog 10 #[v, .int .i64 i] w fun e w' => e = .returned (.bool true) ∧ Below w.heap.size w w' := by
  have hv := h.form
  have RV := h.lt
  clear h
  have K := Below.refl w.heap.size w
  have hm : n ≤ maxLen := by unfold maxLen; omega
  go_enter Try.func10, Try.ntmps10
  go_wp2_with fail
  go_at_call 32; refine (szSlotS_any hv 1048576 _ (by decide) (by decide) hm).mono ?_; rintro e w' ⟨rfl, rfl⟩
  rw [small_n hn]
  clear hv hm
  have hle : (0 : Int) ≤ 1048576 - (n : Int) := by omega
  go_wp2_with fail
  go_at_call 33; refine (toSlotS_any hn RV.row).mono ?_; rintro e w1 ⟨u1, rfl, hU, hb⟩
  replace RV := RV.step hb; replace K := K.trans (hb.mono K.size); clear hb
  go_wp2_with fail
  go_at_call 30; refine (spFindSlot_low f i hn hU.row).mono ?_; rintro e w2 ⟨rfl, hb⟩
  replace RV := RV.step hb; replace K := K.trans (hb.mono K.size); clear hb hU
  go_wp2_with fail
  go_at_call 33; refine (toSlotS_any hn RV.row).mono ?_; rintro e w3 ⟨x0, rfl, hX, hb⟩
  replace RV := RV.step hb; replace K := K.trans (hb.mono K.size); clear hb
  go_wp2_with fail
  go_at_call 16; refine (hI _ _ _ i _ hn hX.row).mono ?_; rintro e w4 ⟨rfl, hb⟩
  replace RV := RV.step hb; replace hX := hX.below hb; replace K := K.trans (hb.mono K.size); clear hb
  go_wp2_with fail
  go_at_call 33; refine (toSlotS_any hn RV.row).mono ?_; rintro e w6 ⟨u6, rfl, hU, hb⟩
  replace hX := hX.below hb; replace K := K.trans (hb.mono K.size); clear hb RV
  go_wp2_with fail
  go_at_call 34; refine (eqSlotS_same hn hX.row hU.row).mono ?_; rintro e w7 ⟨rfl, hb⟩
  replace K := K.trans (hb.mono K.size); clear hb hU hX
  go_wp2
  go_ret
  exact ⟨rfl, K⟩

/-! ### exPulled: a list and a slot and a word, asked of one list and one number -/
theorem blk_step {w w' : World} {b : Nat} {o : Obj} (h : w.heap[b]? = some o) (hb : Below w.heap.size w w') : w'.heap[b]? = some o := b_block hb h (lt_of_block h)
theorem blk_kept {w w' : World} {b : Nat} {o : Obj} {ob : Option Nat} (h : w.heap[b]? = some o) (hg : w.grownBy w' ob) (hne : ∀ g, ob = some g → g ≠ b) : w'.heap[b]? = some o :=
  (hg.block b (lt_of_block h) (by intro e; exact hne b e.symm rfl)).trans h

set_option maxRecDepth 100000 in
set_option maxHeartbeats 1000000 in
theorem exPulled_big {v : Value} {n : Nat} {f : Slots} (i : Int) {w : World} (hm : n ≤ maxLen) (hn : ¬ n ≤ 1048576) (h : RowAt w v n f) :
    Calls Try.prog 9 #[v, .int .i64 i] w fun e w' => e = .returned (.bool true) ∧ Below w.heap.size w w' := by
  have hv := h.form
  clear h
  go_enter Try.func9, Try.ntmps9
  go_wp2_with fail
  go_at_call 32; refine (szSlotS_any hv 1048576 _ (by decide) (by decide) hm).mono ?_; rintro e w' ⟨rfl, rfl⟩
  rw [big_n hn]
  go_wp2
  go_ret
  exact ⟨rfl, Below.refl _ _⟩

set_option maxRecDepth 100000 in
set_option maxHeartbeats 2000000 in
theorem exPulled_small {v : Value} {n : Nat} {f : Slots} (i : Int) {w : World} (N : Nat) (F : Slots) (s : Int × Int) (bb : Bool) (hN : N ≤ 1048576)
    (hS : ∀ (v : Value) (w : World), RowAt w v n f → Calls Try.prog 25 #[v, .int .i64 i] w (NewRowS N F s bb w))
    (hI : ∀ (v : Value) (w : World), RowAt w v n f → Calls Try.prog 17 #[v, .int .i64 i] w (NewRowS N F s bb w))
    (hn : n ≤ 1048576) (h : RowAt w v n f) :
    Calls Try.prog 9 #[v, .int .i64 i] w fun e w' => e = .returned (.bool true) ∧ Below w.heap.size w w' := by
  have hv := h.form
  have RV := h.lt
  clear h
  have K := Below.refl w.heap.size w
  have hm : n ≤ maxLen := by unfold maxLen; omega
  have HS := Lib.hid hS
  have HI := Lib.hid hI
  clear hS hI
  go_enter Try.func9, Try.ntmps9
  go_wp2_with fail
  go_at_call 32; refine (szSlotS_any hv 1048576 _ (by decide) (by decide) hm).mono ?_; rintro e w' ⟨rfl, rfl⟩
  rw [small_n hn]
  clear hv hm
  have hle : (0 : Int) ≤ 1048576 - (n : Int) := by omega
  go_wp2_with fail
  go_at_call 33; refine (toSlotS_any hn RV.row).mono ?_; rintro e w1 ⟨u1, rfl, hU, hb⟩
  replace RV := RV.step hb; replace K := K.trans (hb.mono K.size); clear hb
  go_wp2_with fail
  go_at_call 25; refine (HS.out _ _ hU.row).mono ?_; rintro e w2 ⟨r0, rfl, hR, hb⟩
  replace RV := RV.step hb; replace K := K.trans (hb.mono K.size); have RR := hR.row.lt; clear hb hU hR HS
  have K2 := K.size
  have ha := (Below.refl w2.heap.size w2).alloc (Nat.le_refl _) (.cells #[.int .i64 s.1, .int .i64 s.2] 30)
  have A1 := Lib.hid (heap_alloc_new w2 (.cells #[.int .i64 s.1, .int .i64 s.2] 30))
  replace RV := RV.step ha; replace RR := RR.step ha; replace K := K.trans (ha.mono K.size); have K2a := K.size; have L2 : w2.heap.size < (w2.alloc (.cells #[.int .i64 s.1, .int .i64 s.2] 30)).heap.size := by simp
  clear ha
  go_wp2_with fail
  go_at_call 33; refine (toSlotS_any hn RV.row).mono ?_; rintro e w3 ⟨x0, rfl, hX, hb⟩
  replace RV := RV.step hb; replace RR := RR.step hb; replace A1 := Lib.hid (blk_step A1.out hb); replace K := K.trans (hb.mono K.size); have K3 := K.size; have S3 := hb.size; have X3 := hX.lt_size; have L3 := Nat.lt_of_lt_of_le L2 hb.size; clear hb
  go_wp2_with fail
  go_at_call 17; refine (HI.out _ _ hX.row).mono ?_; rintro e w4 ⟨g0, rfl, hG, hb⟩
  replace RV := RV.step hb; replace RR := RR.step hb; replace hX := hX.below hb; replace A1 := Lib.hid (blk_step A1.out hb); replace K := K.trans (hb.mono K.size); have S4 := Nat.le_trans S3 hb.size; have S4' := hb.size; have G4 := hG.lt_size; clear hb
  have ha := (Below.refl w4.heap.size w4).alloc (Nat.le_refl _) (.cells #[.int .i64 s.1, .int .i64 s.2] 30)
  have A2 := Lib.hid (heap_alloc_new w4 (.cells #[.int .i64 s.1, .int .i64 s.2] 30))
  replace RV := RV.step ha; replace RR := RR.step ha; replace hX := hX.below ha; replace hG := hG.below ha; replace A1 := Lib.hid (blk_step A1.out ha); replace K := K.trans (ha.mono K.size)
  have S4a := Nat.le_trans S4 ha.size; have S4a' := Nat.le_trans S4' ha.size; clear ha
  go_wp2_with fail
  go_at_call 34; refine (eqSlotS_same hN hG.row RR.row).mono ?_; rintro e w5 ⟨rfl, hb⟩
  replace RV := RV.step hb; replace RR := RR.step hb; replace hX := hX.below hb; replace hG := hG.below hb; replace A1 := Lib.hid (blk_step A1.out hb); replace A2 := Lib.hid (blk_step A2.out hb); replace K := K.trans (hb.mono K.size); have S5 := Nat.le_trans S4a hb.size; have S5' := Nat.le_trans S4a' hb.size; clear hb
  have a0 : w5.cell? ⟨w2.heap.size, 0, none⟩ = some (.int .i64 s.1) := cell_of_block A1.out 0
  have a1 : w5.cell? ⟨w2.heap.size, 1, none⟩ = some (.int .i64 s.2) := cell_of_block A1.out 1
  have b0 : w5.cell? ⟨w4.heap.size, 0, none⟩ = some (.int .i64 s.1) := cell_of_block A2.out 0
  have b1 : w5.cell? ⟨w4.heap.size, 1, none⟩ = some (.int .i64 s.2) := cell_of_block A2.out 1
  go_wp2_with fail
  go_at_call 38; refine (eqSlot_same _ _ _).mono ?_; rintro e w6 ⟨rfl, hb⟩
  replace RV := RV.step hb; replace RR := RR.step hb; replace hX := hX.below hb; replace hG := hG.below hb; replace A1 := Lib.hid (blk_step A1.out hb); replace A2 := Lib.hid (blk_step A2.out hb); replace K := K.trans (hb.mono K.size); have S6 := Nat.le_trans S5 hb.size; have S6' := Nat.le_trans S5' hb.size; clear hb a0 a1 b0 b1
  go_wp2_with fail
  go_at_call 33; refine (toSlotS_any hn RV.row).mono ?_; rintro e w7 ⟨u6, rfl, hU, hb⟩
  replace RV := RV.step hb; replace RR := RR.step hb; replace hX := hX.below hb; replace hG := hG.below hb; replace A1 := Lib.hid (blk_step A1.out hb); replace A2 := Lib.hid (blk_step A2.out hb); replace K := K.trans (hb.mono K.size); have S7 := Nat.le_trans S6 hb.size; have S7' := Nat.le_trans S6' hb.size; clear hb
  go_wp2_with fail
  go_at_call 34; refine (eqSlotS_same hn hX.row hU.row).mono ?_; rintro e w8 ⟨rfl, hb⟩
  replace RV := RV.step hb; replace RR := RR.step hb; replace hX := hX.below hb; replace hG := hG.below hb; replace A1 := Lib.hid (blk_step A1.out hb); replace A2 := Lib.hid (blk_step A2.out hb); replace K := K.trans (hb.mono K.size); have S8 := Nat.le_trans S7 hb.size; have S8' := Nat.le_trans S7' hb.size; clear hb hU
  go_wp2_with fail
  go_at_call 35; refine (markRow_any 1 (by decide) (by decide) hn hX).mono ?_; rintro e w9 ⟨rfl, hX9, hgx⟩
  have hb := hX.below_own hgx S8
  replace RV := RV.mark hb K2a; replace RR := RR.mark hb (Nat.le_of_lt L2); replace hG := hG.kept hgx X3; replace K := K.trans (hb.mono K2a)
  replace A1 := Lib.hid (b_block hb A1.out L2); replace A2 := Lib.hid (blk_kept A2.out hgx (fun g e => Nat.ne_of_lt (Nat.lt_of_lt_of_le (X3 g e) S4'))); have S9' := Nat.le_trans S8' hgx.size
  clear hb hX hX9 hgx X3
  have hm1 : ¬ (1 + 2 * (n : Int)) < 0 := by omega
  go_wp2_with fail
  go_at_call 34; refine (eqSlotS_same hN hG.row RR.row).mono ?_; rintro e w10 ⟨rfl, hb⟩
  replace RV := RV.step hb; replace RR := RR.step hb; replace hG := hG.below hb; replace A1 := Lib.hid (blk_step A1.out hb); replace A2 := Lib.hid (blk_step A2.out hb); replace K := K.trans (hb.mono K.size); have S10' := Nat.le_trans S9' hb.size; clear hb
  have a0 : w10.cell? ⟨w2.heap.size, 0, none⟩ = some (.int .i64 s.1) := cell_of_block A1.out 0
  have a1 : w10.cell? ⟨w2.heap.size, 1, none⟩ = some (.int .i64 s.2) := cell_of_block A1.out 1
  have b0 : w10.cell? ⟨w4.heap.size, 0, none⟩ = some (.int .i64 s.1) := cell_of_block A2.out 0
  have b1 : w10.cell? ⟨w4.heap.size, 1, none⟩ = some (.int .i64 s.2) := cell_of_block A2.out 1
  go_wp2_with fail
  go_at_call 38; refine (eqSlot_same _ _ _).mono ?_; rintro e w11 ⟨rfl, hb⟩
  replace RV := RV.step hb; replace RR := RR.step hb; replace hG := hG.below hb; replace A1 := Lib.hid (blk_step A1.out hb); replace K := K.trans (hb.mono K.size); have S11' := Nat.le_trans S10' hb.size; clear hb a0 a1 b0 b1 A2
  have hmN : ¬ (1 + 2 * (N : Int)) < 0 := by omega
  go_wp2_with fail
  go_at_call 35; refine (markRow_any 1 (by decide) (by decide) hN hG).mono ?_; rintro e w12 ⟨rfl, hG12, hgg⟩
  have hb := hG.below_own hgg S11'
  replace RV := RV.mark hb K3; replace RR := RR.mark hb (Nat.le_of_lt L3); replace A1 := Lib.hid (b_block hb A1.out L3); replace K := K.trans (hb.mono K3); clear hb hG hgg G4
  go_wp2_with fail
  go_at_call 36; refine (heldSlotS_any 1 (by decide) (by decide) hN hG12.row).mono ?_; rintro e w' ⟨rfl, rfl⟩
  go_wp2_with fail
  go_at_call 33; refine (toSlotS_any hn RV.row).mono ?_; rintro e w13 ⟨u11, rfl, hU, hb⟩
  replace RR := RR.step hb; replace hG12 := hG12.below hb; replace A1 := Lib.hid (blk_step A1.out hb); replace K := K.trans (hb.mono K.size); clear hb RV
  go_wp2_with fail
  go_at_call 17; refine (HI.out _ _ hU.row).mono ?_; rintro e w14 ⟨h0, rfl, hH, hb⟩
  replace RR := RR.step hb; replace hG12 := hG12.below hb; replace A1 := Lib.hid (blk_step A1.out hb); replace K := K.trans (hb.mono K.size); clear hb hU HI
  have ha := (Below.refl w14.heap.size w14).alloc (Nat.le_refl _) (.cells #[.int .i64 s.1, .int .i64 s.2] 30)
  have A2 := Lib.hid (heap_alloc_new w14 (.cells #[.int .i64 s.1, .int .i64 s.2] 30))
  replace RR := RR.step ha; replace hG12 := hG12.below ha; replace hH := hH.below ha; replace A1 := Lib.hid (blk_step A1.out ha); replace K := K.trans (ha.mono K.size); clear ha
  go_wp2_with fail
  go_at_call 34; refine (eqSlotS_same hN hH.row RR.row).mono ?_; rintro e w15 ⟨rfl, hb⟩
  replace hG12 := hG12.below hb; replace A1 := Lib.hid (blk_step A1.out hb); replace A2 := Lib.hid (blk_step A2.out hb); replace K := K.trans (hb.mono K.size); clear hb RR hH
  have a0 : w15.cell? ⟨w2.heap.size, 0, none⟩ = some (.int .i64 s.1) := cell_of_block A1.out 0
  have a1 : w15.cell? ⟨w2.heap.size, 1, none⟩ = some (.int .i64 s.2) := cell_of_block A1.out 1
  have b0 : w15.cell? ⟨w14.heap.size, 0, none⟩ = some (.int .i64 s.1) := cell_of_block A2.out 0
  have b1 : w15.cell? ⟨w14.heap.size, 1, none⟩ = some (.int .i64 s.2) := cell_of_block A2.out 1
  go_wp2_with fail
  go_at_call 38; refine (eqSlot_same _ _ _).mono ?_; rintro e w16 ⟨rfl, hb⟩
  replace hG12 := hG12.below hb; replace K := K.trans (hb.mono K.size); clear hb a0 a1 b0 b1 A1 A2
  go_wp2_with fail
  go_at_call 36; refine (heldSlotS_any 1 (by decide) (by decide) hN hG12.row).mono ?_; rintro e w' ⟨rfl, rfl⟩
  go_wp2
  go_ret
  exact ⟨rfl, K⟩

theorem pulledN_le {n : Nat} (i : Int) (hn : n ≤ 1048576) : pulledN n i ≤ 1048576 := by unfold pulledN; split <;> omega
/-- what the program's PulledOff is to answer -/
def Pulls (fn : FuncId) : Prop := ∀ (v : Value) (n : Nat) (f : Slots) (i : Int) (w : World), n ≤ 1048576 → RowAt w v n f → Calls Try.prog fn #[v, .int .i64 i] w (NewRowS (pulledN n i) (pulledF f n i) (pulledS f n i) (hasB n i) w)

end Go.Proofs.Ytegmlabiodikpaa
