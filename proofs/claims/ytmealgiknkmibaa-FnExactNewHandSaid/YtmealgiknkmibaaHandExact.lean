/-
  The exact laws of hands, told what the program answers.
-/
import Derived.Test.YtmealgiknkmibaaHandLaws
import Derived.OpenVars
namespace Go.Proofs.Ytmealgiknkmibaa
open Go.ChangeShapes Go.WideShapes Go.ChangeAt Go.RowKit Go.Joins
set_option linter.unusedVariables false

def AsksH (fn : FuncId) : Prop := ∀ (a b c : Int) (h : Hd) (w : World), Calls Try.prog fn #[.agg #[.int .i64 a, .int .i64 b, .int .i64 c], hdV h] w fun e w' => e = .returned (.bool (handB a b c h)) ∧ Below w.heap.size w w'

set_option maxRecDepth 100000 in
set_option maxHeartbeats 2000000 in
theorem exHandOk_walk (hI : AsksH 9) (a b c : Int) (h : Hd) (w : World) :
    Calls Try.prog 3 #[.agg #[.int .i64 a, .int .i64 b, .int .i64 c], hdV h] w fun e w' => e = .returned (.bool true) ∧ Below w.heap.size w w' := by
  have K := (((Below.refl w.heap.size w).alloc (Nat.le_refl _) (.cells #[.int .i64 a, .int .i64 b, .int .i64 c] 23)).alloc (by simp) (.cells (hdCells h) 27))
  have p0 := alloc_block (.cells (hdCells h) 27) (heap_alloc_new w (.cells #[.int .i64 a, .int .i64 b, .int .i64 c] 23))
  have p1 := heap_alloc_new (w.alloc (.cells #[.int .i64 a, .int .i64 b, .int .i64 c] 23)) (.cells (hdCells h) 27)
  rw [show (w.alloc (.cells #[.int .i64 a, .int .i64 b, .int .i64 c] 23)).heap.size = w.heap.size + 1 by simp] at p1
  have l0 := lt_of_block p0
  have l1 := lt_of_block p1
  have kk := (Below.refl ((w.alloc (.cells #[.int .i64 a, .int .i64 b, .int .i64 c] 23)).alloc (.cells (hdCells h) 27)).heap.size ((w.alloc (.cells #[.int .i64 a, .int .i64 b, .int .i64 c] 23)).alloc (.cells (hdCells h) 27))).drew
  go_enter Try.func3, Try.ntmps3
  go_wp2_with fail
  go_region_held3 (fun w' => w'.cell? ⟨w.heap.size, 0, none⟩ = some (.int .i64 a) ∧ w'.cell? ⟨w.heap.size, 1, none⟩ = some (.int .i64 b) ∧ w'.cell? ⟨w.heap.size, 2, none⟩ = some (.int .i64 c) ∧ w'.cell? ⟨w.heap.size + 1, 0, none⟩ = some (.int .i64 h.pos) ∧ w'.cell? ⟨w.heap.size + 1, 1, none⟩ = some (.int .i64 h.call.code) ∧ w'.cell? ⟨w.heap.size + 1, 2, none⟩ = some (.int .i64 h.call.a) ∧ w'.cell? ⟨w.heap.size + 1, 3, none⟩ = some (.int .i64 h.call.b) ∧ w'.cell? ⟨w.heap.size + 1, 4, none⟩ = some (.int .i64 h.call.c) ∧ w'.cell? ⟨w.heap.size + 1, 5, none⟩ = some (.int .i64 h.tim) ∧ w'.cell? ⟨w.heap.size + 1, 6, none⟩ = some (.int .i64 h.whe) ∧ w'.cell? ⟨w.heap.size + 1, 7, none⟩ = some (.bool h.had) ∧ w'.cell? ⟨w.heap.size + 1, 8, none⟩ = some (.int .i64 h.cnt) ∧ w'.cell? ⟨w.heap.size + 1, 9, none⟩ = some (.int .i64 h.beg) ∧ w'.cell? ⟨w.heap.size + 1, 10, none⟩ = some (.int .i64 h.rep) ∧ w'.cell? ⟨w.heap.size + 1, 11, none⟩ = some (.int .i64 h.out))
    (exact ⟨(kk.cell (p := ⟨w.heap.size, 0, none⟩) l0).trans (cell_of_block p0 0), (kk.cell (p := ⟨w.heap.size, 1, none⟩) l0).trans (cell_of_block p0 1), (kk.cell (p := ⟨w.heap.size, 2, none⟩) l0).trans (cell_of_block p0 2), (kk.cell (p := ⟨w.heap.size + 1, 0, none⟩) l1).trans (cell_of_block p1 0), (kk.cell (p := ⟨w.heap.size + 1, 1, none⟩) l1).trans (cell_of_block p1 1), (kk.cell (p := ⟨w.heap.size + 1, 2, none⟩) l1).trans (cell_of_block p1 2), (kk.cell (p := ⟨w.heap.size + 1, 3, none⟩) l1).trans (cell_of_block p1 3), (kk.cell (p := ⟨w.heap.size + 1, 4, none⟩) l1).trans (cell_of_block p1 4), (kk.cell (p := ⟨w.heap.size + 1, 5, none⟩) l1).trans (cell_of_block p1 5), (kk.cell (p := ⟨w.heap.size + 1, 6, none⟩) l1).trans (cell_of_block p1 6), (kk.cell (p := ⟨w.heap.size + 1, 7, none⟩) l1).trans (cell_of_block p1 7), (kk.cell (p := ⟨w.heap.size + 1, 8, none⟩) l1).trans (cell_of_block p1 8), (kk.cell (p := ⟨w.heap.size + 1, 9, none⟩) l1).trans (cell_of_block p1 9), (kk.cell (p := ⟨w.heap.size + 1, 10, none⟩) l1).trans (cell_of_block p1 10), (kk.cell (p := ⟨w.heap.size + 1, 11, none⟩) l1).trans (cell_of_block p1 11)⟩)
    (first
      | (go_at_call 7; refine (toPlan_any _ _ _ _).mono ?_; rintro e w1 ⟨rfl, hb⟩; replace kk := kk.trans (hb.mono kk.size); clear hb)
      | (go_at_call 8; refine (toHand_any _ _).mono ?_; rintro e w1 ⟨rfl, hb⟩; replace kk := kk.trans (hb.mono kk.size); clear hb)
      | (go_at_call 6; refine (spHandOk_any _ _ _ _ _).mono ?_; rintro e w1 ⟨rfl, hb⟩; replace kk := kk.trans (hb.mono kk.size); clear hb))
  all_goals
    replace kk := kk.drew
    go_wp2_with fail
    go_region_held3 (fun w' => w'.cell? ⟨w.heap.size, 0, none⟩ = some (.int .i64 a) ∧ w'.cell? ⟨w.heap.size, 1, none⟩ = some (.int .i64 b) ∧ w'.cell? ⟨w.heap.size, 2, none⟩ = some (.int .i64 c) ∧ w'.cell? ⟨w.heap.size + 1, 0, none⟩ = some (.int .i64 h.pos) ∧ w'.cell? ⟨w.heap.size + 1, 1, none⟩ = some (.int .i64 h.call.code) ∧ w'.cell? ⟨w.heap.size + 1, 2, none⟩ = some (.int .i64 h.call.a) ∧ w'.cell? ⟨w.heap.size + 1, 3, none⟩ = some (.int .i64 h.call.b) ∧ w'.cell? ⟨w.heap.size + 1, 4, none⟩ = some (.int .i64 h.call.c) ∧ w'.cell? ⟨w.heap.size + 1, 5, none⟩ = some (.int .i64 h.tim) ∧ w'.cell? ⟨w.heap.size + 1, 6, none⟩ = some (.int .i64 h.whe) ∧ w'.cell? ⟨w.heap.size + 1, 7, none⟩ = some (.bool h.had) ∧ w'.cell? ⟨w.heap.size + 1, 8, none⟩ = some (.int .i64 h.cnt) ∧ w'.cell? ⟨w.heap.size + 1, 9, none⟩ = some (.int .i64 h.beg) ∧ w'.cell? ⟨w.heap.size + 1, 10, none⟩ = some (.int .i64 h.rep) ∧ w'.cell? ⟨w.heap.size + 1, 11, none⟩ = some (.int .i64 h.out))
      (exact ⟨(kk.cell (p := ⟨w.heap.size, 0, none⟩) l0).trans (cell_of_block p0 0), (kk.cell (p := ⟨w.heap.size, 1, none⟩) l0).trans (cell_of_block p0 1), (kk.cell (p := ⟨w.heap.size, 2, none⟩) l0).trans (cell_of_block p0 2), (kk.cell (p := ⟨w.heap.size + 1, 0, none⟩) l1).trans (cell_of_block p1 0), (kk.cell (p := ⟨w.heap.size + 1, 1, none⟩) l1).trans (cell_of_block p1 1), (kk.cell (p := ⟨w.heap.size + 1, 2, none⟩) l1).trans (cell_of_block p1 2), (kk.cell (p := ⟨w.heap.size + 1, 3, none⟩) l1).trans (cell_of_block p1 3), (kk.cell (p := ⟨w.heap.size + 1, 4, none⟩) l1).trans (cell_of_block p1 4), (kk.cell (p := ⟨w.heap.size + 1, 5, none⟩) l1).trans (cell_of_block p1 5), (kk.cell (p := ⟨w.heap.size + 1, 6, none⟩) l1).trans (cell_of_block p1 6), (kk.cell (p := ⟨w.heap.size + 1, 7, none⟩) l1).trans (cell_of_block p1 7), (kk.cell (p := ⟨w.heap.size + 1, 8, none⟩) l1).trans (cell_of_block p1 8), (kk.cell (p := ⟨w.heap.size + 1, 9, none⟩) l1).trans (cell_of_block p1 9), (kk.cell (p := ⟨w.heap.size + 1, 10, none⟩) l1).trans (cell_of_block p1 10), (kk.cell (p := ⟨w.heap.size + 1, 11, none⟩) l1).trans (cell_of_block p1 11)⟩)
      (first
        | (go_at_call 7; refine (toPlan_any _ _ _ _).mono ?_; rintro e w1 ⟨rfl, hb⟩; replace kk := kk.trans (hb.mono kk.size); clear hb)
        | (go_at_call 8; refine (toHand_any _ _).mono ?_; rintro e w1 ⟨rfl, hb⟩; replace kk := kk.trans (hb.mono kk.size); clear hb)
        | (go_at_call 9; refine (hI _ _ _ _ _).mono ?_; rintro e w1 ⟨rfl, hb⟩; replace kk := kk.trans (hb.mono kk.size); clear hb))
    all_goals
      go_wp2
      go_ret
      exact ⟨rfl, K.trans (kk.mono K.size)⟩

set_option maxRecDepth 100000 in
theorem exHandOk_lifted (hI : AsksH 9) (os : Os) (started : os.Started) (H : Type) (enc : TypeId × Value → H) :
    ReturnsInHanded {} Try.checked os 3 .any (Rows.fnExactHandOkSpec.pre6 enc Try.prog Try.f3 Rows.fnExactHandOkRow.domain false) (Rows.fnExactHandOkSpec.post enc Try.prog Try.f3 false true false false) := by
  refine returnsInHanded_of_change (C := Try.checked) own started (by kernel_rfl) Try.func3
    (ChangeSpec.witness6 (enc := enc) (C := Try.checked) false ⟨#[], #[.agg #[.int .i64 0, .int .i64 0, .int .i64 0], .agg #[.int .i64 0, .int .i64 0, .int .i64 0, .int .i64 0, .int .i64 0, .int .i64 0, .int .i64 0, .bool false, .int .i64 0, .int .i64 0, .int .i64 0, .int .i64 0]], []⟩ 8 (by kernel_rfl) (by kernel_rfl) (by kernel_rfl) (by kernel_rfl)) ?_
  intro W base args ds gs before hval0 hW _ _
  have hval : ∀ (j : Nat) t v, Try.f3.params[j]? = some t → args[j]? = some v → Value.okWide Try.prog W .any base t v := hval0
  have hW' := hW
  obtain ⟨p, q, hA0, hV, rfl, _, _⟩ := hW
  have hA : DataW.TrodAll enc Try.prog W 0 (fun _ => true) true Try.f3.params.toList args.toList ds p := hA0
  rw [Try.params3] at hA hval
  obtain ⟨v0, v1, d0, d1, p0, p1, rfl, rfl, rfl, h0, h1⟩ := trodAll_two hA
  obtain ⟨rfl, rfl⟩ := trodVars_none hV
  obtain ⟨a, b, c, rfl, rfl, rfl, wp⟩ := open_plan (hval 0 23 v0 rfl rfl) h0
  obtain ⟨h, rfl, rfl, rfl, wt⟩ := open_hand (hval 1 27 v1 rfl rfl) h1
  clear hA0 hval0
  simp only [List.append_nil] at hW'
  refine (exHandOk_walk hI a b c h W).mono fun e W' ⟨he, hb⟩ => ?_
  subst he
  exact ⟨_, rfl, post_low (pa := []) (pv := []) hW' (fun _ _ _ => trodAll_mk1 (shut_bool Try.underlying4 _)) (fun sp _ => trodAll_mk2 (shut_plan wp W' 0 sp true) (shut_hand wt W' 0 sp true)) (fun _ _ => rfl) rfl hb⟩

theorem exHandOk_holds (hI : AsksH 9) : Rows.FnExactHandOkSaid :=
  OpenClaim.holds_of_wide 3 Try.f3 rfl rfl rfl rfl rfl rfl rfl ⟨rfl, rfl, rfl, rfl, rfl⟩ rfl rfl rfl rfl rfl (by kernel_rfl) Try.func3 (by kernel_rfl)
    (of_decide_eq_true (by kernel_rfl)) (by unfold Func.isWrapper; rw [if_neg (of_decide_eq_false (by kernel_rfl))]; exact ⟨rfl, rfl⟩)
    (fun os started H enc _ => exHandOk_lifted hI os started H enc)

def AsksN (fn : FuncId) : Prop := ∀ (w : World), Calls Try.prog fn #[] w fun e w' => e = .returned (hdV newHd) ∧ Below w.heap.size w w'
def AsksR (fn : FuncId) : Prop := ∀ (r o : Int) (w : World), Calls Try.prog fn #[.int .i64 r, .int .i64 o] w fun e w' => e = .returned (hdV (restHd r o)) ∧ Below w.heap.size w w'


set_option maxRecDepth 100000 in
set_option maxHeartbeats 2000000 in
theorem exNewHand_walk (hI : AsksN 11) (w : World) :
    Calls Try.prog 4 #[] w fun e w' => e = .returned (.bool true) ∧ Below w.heap.size w w' := by
  go_enter Try.func4, Try.ntmps4
  go_wp2_with fail
  go_at_call 10; refine (spNewHand_any _).mono ?_; rintro e w1 ⟨rfl, kk⟩
  go_wp2_with fail
  go_at_call 11; refine (hI _).mono ?_; rintro e w2 ⟨rfl, hb⟩
  have q1 := b_block hb (heap_alloc_new w1 (.cells (hdCells newHd) 33)) (by simp)
  replace kk := (kk.alloc kk.size (.cells (hdCells newHd) 33)).trans (hb.mono (by simp; exact Nat.le_succ_of_le kk.size))
  clear hb
  have c0 : ∀ X : Obj, (w2.alloc X).cell? ⟨w1.heap.size, 0, none⟩ = some (.int .i64 newHd.pos) := fun X => cell_of_block (alloc_block X q1) 0
  have c1 : ∀ X : Obj, (w2.alloc X).cell? ⟨w1.heap.size, 1, none⟩ = some (.int .i64 newHd.call.code) := fun X => cell_of_block (alloc_block X q1) 1
  have c2 : ∀ X : Obj, (w2.alloc X).cell? ⟨w1.heap.size, 2, none⟩ = some (.int .i64 newHd.call.a) := fun X => cell_of_block (alloc_block X q1) 2
  have c3 : ∀ X : Obj, (w2.alloc X).cell? ⟨w1.heap.size, 3, none⟩ = some (.int .i64 newHd.call.b) := fun X => cell_of_block (alloc_block X q1) 3
  have c4 : ∀ X : Obj, (w2.alloc X).cell? ⟨w1.heap.size, 4, none⟩ = some (.int .i64 newHd.call.c) := fun X => cell_of_block (alloc_block X q1) 4
  have c5 : ∀ X : Obj, (w2.alloc X).cell? ⟨w1.heap.size, 5, none⟩ = some (.int .i64 newHd.tim) := fun X => cell_of_block (alloc_block X q1) 5
  have c6 : ∀ X : Obj, (w2.alloc X).cell? ⟨w1.heap.size, 6, none⟩ = some (.int .i64 newHd.whe) := fun X => cell_of_block (alloc_block X q1) 6
  have c7 : ∀ X : Obj, (w2.alloc X).cell? ⟨w1.heap.size, 7, none⟩ = some (.bool newHd.had) := fun X => cell_of_block (alloc_block X q1) 7
  have c8 : ∀ X : Obj, (w2.alloc X).cell? ⟨w1.heap.size, 8, none⟩ = some (.int .i64 newHd.cnt) := fun X => cell_of_block (alloc_block X q1) 8
  have c9 : ∀ X : Obj, (w2.alloc X).cell? ⟨w1.heap.size, 9, none⟩ = some (.int .i64 newHd.beg) := fun X => cell_of_block (alloc_block X q1) 9
  have c10 : ∀ X : Obj, (w2.alloc X).cell? ⟨w1.heap.size, 10, none⟩ = some (.int .i64 newHd.rep) := fun X => cell_of_block (alloc_block X q1) 10
  have c11 : ∀ X : Obj, (w2.alloc X).cell? ⟨w1.heap.size, 11, none⟩ = some (.int .i64 newHd.out) := fun X => cell_of_block (alloc_block X q1) 11

  replace kk := kk.alloc kk.size (.cells (hdCells newHd) 33)
  go_wp2_with (go_at_call 12; refine (eqHand_same _ _).mono ?_; rintro e w3 ⟨rfl, hb⟩; replace kk := kk.trans (hb.mono kk.size); clear hb)
  go_ret
  exact ⟨rfl, kk⟩


set_option maxRecDepth 100000 in
theorem exNewHand_lifted (hI : AsksN 11) (os : Os) (started : os.Started) (H : Type) (enc : TypeId × Value → H) :
    ReturnsInHanded {} Try.checked os 4 .any (Rows.fnExactNewHandSpec.pre6 enc Try.prog Try.f4 Rows.fnExactNewHandRow.domain false) (Rows.fnExactNewHandSpec.post enc Try.prog Try.f4 false true false false) := by
  refine returnsInHanded_of_change (C := Try.checked) own started (by kernel_rfl) Try.func4
    (ChangeSpec.witness6 (enc := enc) (C := Try.checked) false ⟨#[], #[], []⟩ 8 (by kernel_rfl) (by kernel_rfl) (by kernel_rfl) (by kernel_rfl)) ?_
  intro W base args ds gs before hval0 hW _ _
  have hval : ∀ (j : Nat) t v, Try.f4.params[j]? = some t → args[j]? = some v → Value.okWide Try.prog W .any base t v := hval0
  have hW' := hW
  obtain ⟨p, q, hA0, hV, rfl, _, _⟩ := hW
  have hA : DataW.TrodAll enc Try.prog W 0 (fun _ => true) true Try.f4.params.toList args.toList ds p := hA0
  rw [Try.params4] at hA hval
  obtain ⟨rfl, rfl, rfl⟩ := trodAll_none hA
  obtain ⟨rfl, rfl⟩ := trodVars_none hV
  clear hA0 hval0
  simp only [List.append_nil] at hW'
  refine (exNewHand_walk hI  W).mono fun e W' ⟨he, hb⟩ => ?_
  subst he
  exact ⟨_, rfl, post_low (pa := []) (pv := []) hW' (fun _ _ _ => trodAll_mk1 (shut_bool Try.underlying4 _)) (fun sp _ => trodAll_mk0 ) (fun _ _ => rfl) rfl hb⟩

theorem exNewHand_holds (hI : AsksN 11) : Rows.FnExactNewHandSaid :=
  OpenClaim.holds_of_wide 4 Try.f4 rfl rfl rfl rfl rfl rfl rfl ⟨rfl, rfl, rfl, rfl, rfl⟩ rfl rfl rfl rfl rfl (by kernel_rfl) Try.func4 (by kernel_rfl)
    (of_decide_eq_true (by kernel_rfl)) (by unfold Func.isWrapper; rw [if_neg (of_decide_eq_false (by kernel_rfl))]; exact ⟨rfl, rfl⟩)
    (fun os started H enc _ => exNewHand_lifted hI os started H enc)

set_option maxRecDepth 100000 in
set_option maxHeartbeats 2000000 in
theorem exResting_walk (hI : AsksR 14) (r o : Int) (w : World) :
    Calls Try.prog 5 #[.int .i64 r, .int .i64 o] w fun e w' => e = .returned (.bool true) ∧ Below w.heap.size w w' := by
  go_enter Try.func5, Try.ntmps5
  go_wp2_with fail
  go_at_call 13; refine (spResting_any _ _ _).mono ?_; rintro e w1 ⟨rfl, kk⟩
  go_wp2_with fail
  go_at_call 14; refine (hI _ _ _).mono ?_; rintro e w2 ⟨rfl, hb⟩
  have q1 := b_block hb (heap_alloc_new w1 (.cells (hdCells (restHd r o)) 33)) (by simp)
  replace kk := (kk.alloc kk.size (.cells (hdCells (restHd r o)) 33)).trans (hb.mono (by simp; exact Nat.le_succ_of_le kk.size))
  clear hb
  have c0 : ∀ X : Obj, (w2.alloc X).cell? ⟨w1.heap.size, 0, none⟩ = some (.int .i64 (restHd r o).pos) := fun X => cell_of_block (alloc_block X q1) 0
  have c1 : ∀ X : Obj, (w2.alloc X).cell? ⟨w1.heap.size, 1, none⟩ = some (.int .i64 (restHd r o).call.code) := fun X => cell_of_block (alloc_block X q1) 1
  have c2 : ∀ X : Obj, (w2.alloc X).cell? ⟨w1.heap.size, 2, none⟩ = some (.int .i64 (restHd r o).call.a) := fun X => cell_of_block (alloc_block X q1) 2
  have c3 : ∀ X : Obj, (w2.alloc X).cell? ⟨w1.heap.size, 3, none⟩ = some (.int .i64 (restHd r o).call.b) := fun X => cell_of_block (alloc_block X q1) 3
  have c4 : ∀ X : Obj, (w2.alloc X).cell? ⟨w1.heap.size, 4, none⟩ = some (.int .i64 (restHd r o).call.c) := fun X => cell_of_block (alloc_block X q1) 4
  have c5 : ∀ X : Obj, (w2.alloc X).cell? ⟨w1.heap.size, 5, none⟩ = some (.int .i64 (restHd r o).tim) := fun X => cell_of_block (alloc_block X q1) 5
  have c6 : ∀ X : Obj, (w2.alloc X).cell? ⟨w1.heap.size, 6, none⟩ = some (.int .i64 (restHd r o).whe) := fun X => cell_of_block (alloc_block X q1) 6
  have c7 : ∀ X : Obj, (w2.alloc X).cell? ⟨w1.heap.size, 7, none⟩ = some (.bool (restHd r o).had) := fun X => cell_of_block (alloc_block X q1) 7
  have c8 : ∀ X : Obj, (w2.alloc X).cell? ⟨w1.heap.size, 8, none⟩ = some (.int .i64 (restHd r o).cnt) := fun X => cell_of_block (alloc_block X q1) 8
  have c9 : ∀ X : Obj, (w2.alloc X).cell? ⟨w1.heap.size, 9, none⟩ = some (.int .i64 (restHd r o).beg) := fun X => cell_of_block (alloc_block X q1) 9
  have c10 : ∀ X : Obj, (w2.alloc X).cell? ⟨w1.heap.size, 10, none⟩ = some (.int .i64 (restHd r o).rep) := fun X => cell_of_block (alloc_block X q1) 10
  have c11 : ∀ X : Obj, (w2.alloc X).cell? ⟨w1.heap.size, 11, none⟩ = some (.int .i64 (restHd r o).out) := fun X => cell_of_block (alloc_block X q1) 11

  replace kk := kk.alloc kk.size (.cells (hdCells (restHd r o)) 33)
  go_wp2_with (go_at_call 12; refine (eqHand_same _ _).mono ?_; rintro e w3 ⟨rfl, hb⟩; replace kk := kk.trans (hb.mono kk.size); clear hb)
  go_ret
  exact ⟨rfl, kk⟩

set_option maxRecDepth 100000 in
theorem exResting_lifted (hI : AsksR 14) (os : Os) (started : os.Started) (H : Type) (enc : TypeId × Value → H) :
    ReturnsInHanded {} Try.checked os 5 .any (Rows.fnExactRestingSpec.pre6 enc Try.prog Try.f5 Rows.fnExactRestingRow.domain false) (Rows.fnExactRestingSpec.post enc Try.prog Try.f5 false true false false) := by
  refine returnsInHanded_of_change (C := Try.checked) own started (by kernel_rfl) Try.func5
    (ChangeSpec.witness6 (enc := enc) (C := Try.checked) false ⟨#[], #[.int .i64 0, .int .i64 0], []⟩ 8 (by kernel_rfl) (by kernel_rfl) (by kernel_rfl) (by kernel_rfl)) ?_
  intro W base args ds gs before hval0 hW _ _
  have hval : ∀ (j : Nat) t v, Try.f5.params[j]? = some t → args[j]? = some v → Value.okWide Try.prog W .any base t v := hval0
  have hW' := hW
  obtain ⟨p, q, hA0, hV, rfl, _, _⟩ := hW
  have hA : DataW.TrodAll enc Try.prog W 0 (fun _ => true) true Try.f5.params.toList args.toList ds p := hA0
  rw [Try.params5] at hA hval
  obtain ⟨v0, v1, d0, d1, p0, p1, rfl, rfl, rfl, h0, h1⟩ := trodAll_two hA
  obtain ⟨rfl, rfl⟩ := trodVars_none hV
  obtain ⟨r, rfl, rfl, rfl, wr⟩ := open_int Try.underlying2 (hval 0 2 v0 rfl rfl) h0
  obtain ⟨o, rfl, rfl, rfl, wo⟩ := open_int Try.underlying2 (hval 1 2 v1 rfl rfl) h1
  clear hA0 hval0
  simp only [List.append_nil] at hW'
  refine (exResting_walk hI r o W).mono fun e W' ⟨he, hb⟩ => ?_
  subst he
  exact ⟨_, rfl, post_low (pa := []) (pv := []) hW' (fun _ _ _ => trodAll_mk1 (shut_bool Try.underlying4 _)) (fun sp _ => trodAll_mk2 (shut_int Try.underlying2 wr) (shut_int Try.underlying2 wo)) (fun _ _ => rfl) rfl hb⟩

theorem exResting_holds (hI : AsksR 14) : Rows.FnExactRestingSaid :=
  OpenClaim.holds_of_wide 5 Try.f5 rfl rfl rfl rfl rfl rfl rfl ⟨rfl, rfl, rfl, rfl, rfl⟩ rfl rfl rfl rfl rfl (by kernel_rfl) Try.func5 (by kernel_rfl)
    (of_decide_eq_true (by kernel_rfl)) (by unfold Func.isWrapper; rw [if_neg (of_decide_eq_false (by kernel_rfl))]; exact ⟨rfl, rfl⟩)
    (fun os started H enc _ => exResting_lifted hI os started H enc)

end Go.Proofs.Ytmealgiknkmibaa
