/-
  Calls and hands of a law: made, compared, opened and shut.
-/
import Derived.Test.YtcapaphndemaiaaRest
import Derived.Test.YtcapaphndemaiaaToPlan
import Derived.Test.YtcapaphndemaiaaTree
import Derived.Test.YtcapaphndemaiaaOpens
namespace Go.Proofs.Ytcapaphndemaiaa
open Go.ChangeShapes Go.WideShapes Go.ChangeAt Go.RowKit Go.Joins
set_option linter.unusedVariables false

set_option maxRecDepth 100000 in
set_option maxHeartbeats 400000 in
theorem toCall_any (q : Ca) (w : World) :
    Calls Try.prog 7 #[caV q] w fun e w' => e = .returned (caV q) ∧ Below w.heap.size w w' := by
  go_enter Try.func7, Try.ntmps7
  go_wp2
  exact bodyPost_ret (v := caV q) (by simp [results, Try.results7, go_sem]) rfl ⟨rfl, (((Below.refl _ _).alloc (Nat.le_refl _) _).alloc (by simp) _).alloc (by simp; omega) _⟩
set_option maxRecDepth 100000 in
set_option maxHeartbeats 4000000 in
theorem toHand_any (h : Hd) (w : World) :
    Calls Try.prog 10 #[hdV h] w fun e w' => e = .returned (hdV h) ∧ Below w.heap.size w w' := by
  have k0 := (((Below.refl w.heap.size w).alloc (Nat.le_refl _) (.cells (hdCells h) 33)).alloc (by simp) (.cells #[.int .i64 0, .int .i64 0, .int .i64 0, .int .i64 0, .int .i64 0, .int .i64 0, .int .i64 0, .bool false, .int .i64 0, .int .i64 0, .int .i64 0, .int .i64 0] 35)).alloc (by simp; omega) (.cells #[.int .i64 h.pos, .int .i64 0, .int .i64 0, .int .i64 0, .int .i64 0, .int .i64 0, .int .i64 0, .bool false, .int .i64 0, .int .i64 0, .int .i64 0, .int .i64 0] 35)
  have kk := Below.refl (((w.alloc (.cells (hdCells h) 33)).alloc (.cells #[.int .i64 0, .int .i64 0, .int .i64 0, .int .i64 0, .int .i64 0, .int .i64 0, .int .i64 0, .bool false, .int .i64 0, .int .i64 0, .int .i64 0, .int .i64 0] 35)).alloc (.cells #[.int .i64 h.pos, .int .i64 0, .int .i64 0, .int .i64 0, .int .i64 0, .int .i64 0, .int .i64 0, .bool false, .int .i64 0, .int .i64 0, .int .i64 0, .int .i64 0] 35)).heap.size (((w.alloc (.cells (hdCells h) 33)).alloc (.cells #[.int .i64 0, .int .i64 0, .int .i64 0, .int .i64 0, .int .i64 0, .int .i64 0, .int .i64 0, .bool false, .int .i64 0, .int .i64 0, .int .i64 0, .int .i64 0] 35)).alloc (.cells #[.int .i64 h.pos, .int .i64 0, .int .i64 0, .int .i64 0, .int .i64 0, .int .i64 0, .int .i64 0, .bool false, .int .i64 0, .int .i64 0, .int .i64 0, .int .i64 0] 35))
  have p0 := alloc_block (.cells #[.int .i64 h.pos, .int .i64 0, .int .i64 0, .int .i64 0, .int .i64 0, .int .i64 0, .int .i64 0, .bool false, .int .i64 0, .int .i64 0, .int .i64 0, .int .i64 0] 35) (alloc_block (.cells #[.int .i64 0, .int .i64 0, .int .i64 0, .int .i64 0, .int .i64 0, .int .i64 0, .int .i64 0, .bool false, .int .i64 0, .int .i64 0, .int .i64 0, .int .i64 0] 35) (heap_alloc_new w (.cells (hdCells h) 33)))
  have p1 := alloc_block (.cells #[.int .i64 h.pos, .int .i64 0, .int .i64 0, .int .i64 0, .int .i64 0, .int .i64 0, .int .i64 0, .bool false, .int .i64 0, .int .i64 0, .int .i64 0, .int .i64 0] 35) (heap_alloc_new (w.alloc (.cells (hdCells h) 33)) (.cells #[.int .i64 0, .int .i64 0, .int .i64 0, .int .i64 0, .int .i64 0, .int .i64 0, .int .i64 0, .bool false, .int .i64 0, .int .i64 0, .int .i64 0, .int .i64 0] 35))
  have p2 := heap_alloc_new ((w.alloc (.cells (hdCells h) 33)).alloc (.cells #[.int .i64 0, .int .i64 0, .int .i64 0, .int .i64 0, .int .i64 0, .int .i64 0, .int .i64 0, .bool false, .int .i64 0, .int .i64 0, .int .i64 0, .int .i64 0] 35)) (.cells #[.int .i64 h.pos, .int .i64 0, .int .i64 0, .int .i64 0, .int .i64 0, .int .i64 0, .int .i64 0, .bool false, .int .i64 0, .int .i64 0, .int .i64 0, .int .i64 0] 35)
  rw [show (w.alloc (.cells (hdCells h) 33)).heap.size = w.heap.size + 1 by simp] at p1
  rw [show ((w.alloc (.cells (hdCells h) 33)).alloc (.cells #[.int .i64 0, .int .i64 0, .int .i64 0, .int .i64 0, .int .i64 0, .int .i64 0, .int .i64 0, .bool false, .int .i64 0, .int .i64 0, .int .i64 0, .int .i64 0] 35)).heap.size = w.heap.size + 1 + 1 by simp] at p2
  go_enter Try.func10, Try.ntmps10
  go_wp2_with fail
  go_at_call 7; refine (toCall_any _ _).mono ?_; rintro e w1 ⟨rfl, hb⟩; replace kk := kk.trans (hb.mono kk.size); clear hb
  replace p0 := b_block kk p0 (by simp <;> omega)
  replace p1 := b_block kk p1 (by simp <;> omega)
  replace p2 := b_block kk p2 (by simp <;> omega)
  have kw := k0.trans (kk.mono k0.size)
  clear kk k0
  have c0_0 : w1.cell? ⟨w.heap.size, 0, none⟩ = some (.int .i64 h.pos) := cell_of_block p0 0
  have c1_0 : w1.cell? ⟨w.heap.size + 1, 0, none⟩ = some (.int .i64 0) := cell_of_block p1 0
  have f1_0 : w1.frozen? ⟨w.heap.size + 1, 0, none⟩ = false := unfrozen_of_block p1 0
  have c2_0 : w1.cell? ⟨w.heap.size + 1 + 1, 0, none⟩ = some (.int .i64 h.pos) := cell_of_block p2 0
  have f2_0 : w1.frozen? ⟨w.heap.size + 1 + 1, 0, none⟩ = false := unfrozen_of_block p2 0
  have c0_1 : w1.cell? ⟨w.heap.size, 1, none⟩ = some (.int .i64 h.call.code) := cell_of_block p0 1
  have c1_1 : w1.cell? ⟨w.heap.size + 1, 1, none⟩ = some (.int .i64 0) := cell_of_block p1 1
  have f1_1 : w1.frozen? ⟨w.heap.size + 1, 1, none⟩ = false := unfrozen_of_block p1 1
  have c2_1 : w1.cell? ⟨w.heap.size + 1 + 1, 1, none⟩ = some (.int .i64 0) := cell_of_block p2 1
  have f2_1 : w1.frozen? ⟨w.heap.size + 1 + 1, 1, none⟩ = false := unfrozen_of_block p2 1
  have c0_2 : w1.cell? ⟨w.heap.size, 2, none⟩ = some (.int .i64 h.call.a) := cell_of_block p0 2
  have c1_2 : w1.cell? ⟨w.heap.size + 1, 2, none⟩ = some (.int .i64 0) := cell_of_block p1 2
  have f1_2 : w1.frozen? ⟨w.heap.size + 1, 2, none⟩ = false := unfrozen_of_block p1 2
  have c2_2 : w1.cell? ⟨w.heap.size + 1 + 1, 2, none⟩ = some (.int .i64 0) := cell_of_block p2 2
  have f2_2 : w1.frozen? ⟨w.heap.size + 1 + 1, 2, none⟩ = false := unfrozen_of_block p2 2
  have c0_3 : w1.cell? ⟨w.heap.size, 3, none⟩ = some (.int .i64 h.call.b) := cell_of_block p0 3
  have c1_3 : w1.cell? ⟨w.heap.size + 1, 3, none⟩ = some (.int .i64 0) := cell_of_block p1 3
  have f1_3 : w1.frozen? ⟨w.heap.size + 1, 3, none⟩ = false := unfrozen_of_block p1 3
  have c2_3 : w1.cell? ⟨w.heap.size + 1 + 1, 3, none⟩ = some (.int .i64 0) := cell_of_block p2 3
  have f2_3 : w1.frozen? ⟨w.heap.size + 1 + 1, 3, none⟩ = false := unfrozen_of_block p2 3
  have c0_4 : w1.cell? ⟨w.heap.size, 4, none⟩ = some (.int .i64 h.call.c) := cell_of_block p0 4
  have c1_4 : w1.cell? ⟨w.heap.size + 1, 4, none⟩ = some (.int .i64 0) := cell_of_block p1 4
  have f1_4 : w1.frozen? ⟨w.heap.size + 1, 4, none⟩ = false := unfrozen_of_block p1 4
  have c2_4 : w1.cell? ⟨w.heap.size + 1 + 1, 4, none⟩ = some (.int .i64 0) := cell_of_block p2 4
  have f2_4 : w1.frozen? ⟨w.heap.size + 1 + 1, 4, none⟩ = false := unfrozen_of_block p2 4
  have c0_5 : w1.cell? ⟨w.heap.size, 5, none⟩ = some (.int .i64 h.tim) := cell_of_block p0 5
  have c1_5 : w1.cell? ⟨w.heap.size + 1, 5, none⟩ = some (.int .i64 0) := cell_of_block p1 5
  have f1_5 : w1.frozen? ⟨w.heap.size + 1, 5, none⟩ = false := unfrozen_of_block p1 5
  have c2_5 : w1.cell? ⟨w.heap.size + 1 + 1, 5, none⟩ = some (.int .i64 0) := cell_of_block p2 5
  have f2_5 : w1.frozen? ⟨w.heap.size + 1 + 1, 5, none⟩ = false := unfrozen_of_block p2 5
  have c0_6 : w1.cell? ⟨w.heap.size, 6, none⟩ = some (.int .i64 h.whe) := cell_of_block p0 6
  have c1_6 : w1.cell? ⟨w.heap.size + 1, 6, none⟩ = some (.int .i64 0) := cell_of_block p1 6
  have f1_6 : w1.frozen? ⟨w.heap.size + 1, 6, none⟩ = false := unfrozen_of_block p1 6
  have c2_6 : w1.cell? ⟨w.heap.size + 1 + 1, 6, none⟩ = some (.int .i64 0) := cell_of_block p2 6
  have f2_6 : w1.frozen? ⟨w.heap.size + 1 + 1, 6, none⟩ = false := unfrozen_of_block p2 6
  have c0_7 : w1.cell? ⟨w.heap.size, 7, none⟩ = some (.bool h.had) := cell_of_block p0 7
  have c1_7 : w1.cell? ⟨w.heap.size + 1, 7, none⟩ = some (.bool false) := cell_of_block p1 7
  have f1_7 : w1.frozen? ⟨w.heap.size + 1, 7, none⟩ = false := unfrozen_of_block p1 7
  have c2_7 : w1.cell? ⟨w.heap.size + 1 + 1, 7, none⟩ = some (.bool false) := cell_of_block p2 7
  have f2_7 : w1.frozen? ⟨w.heap.size + 1 + 1, 7, none⟩ = false := unfrozen_of_block p2 7
  have c0_8 : w1.cell? ⟨w.heap.size, 8, none⟩ = some (.int .i64 h.cnt) := cell_of_block p0 8
  have c1_8 : w1.cell? ⟨w.heap.size + 1, 8, none⟩ = some (.int .i64 0) := cell_of_block p1 8
  have f1_8 : w1.frozen? ⟨w.heap.size + 1, 8, none⟩ = false := unfrozen_of_block p1 8
  have c2_8 : w1.cell? ⟨w.heap.size + 1 + 1, 8, none⟩ = some (.int .i64 0) := cell_of_block p2 8
  have f2_8 : w1.frozen? ⟨w.heap.size + 1 + 1, 8, none⟩ = false := unfrozen_of_block p2 8
  have c0_9 : w1.cell? ⟨w.heap.size, 9, none⟩ = some (.int .i64 h.beg) := cell_of_block p0 9
  have c1_9 : w1.cell? ⟨w.heap.size + 1, 9, none⟩ = some (.int .i64 0) := cell_of_block p1 9
  have f1_9 : w1.frozen? ⟨w.heap.size + 1, 9, none⟩ = false := unfrozen_of_block p1 9
  have c2_9 : w1.cell? ⟨w.heap.size + 1 + 1, 9, none⟩ = some (.int .i64 0) := cell_of_block p2 9
  have f2_9 : w1.frozen? ⟨w.heap.size + 1 + 1, 9, none⟩ = false := unfrozen_of_block p2 9
  have c0_10 : w1.cell? ⟨w.heap.size, 10, none⟩ = some (.int .i64 h.rep) := cell_of_block p0 10
  have c1_10 : w1.cell? ⟨w.heap.size + 1, 10, none⟩ = some (.int .i64 0) := cell_of_block p1 10
  have f1_10 : w1.frozen? ⟨w.heap.size + 1, 10, none⟩ = false := unfrozen_of_block p1 10
  have c2_10 : w1.cell? ⟨w.heap.size + 1 + 1, 10, none⟩ = some (.int .i64 0) := cell_of_block p2 10
  have f2_10 : w1.frozen? ⟨w.heap.size + 1 + 1, 10, none⟩ = false := unfrozen_of_block p2 10
  have c0_11 : w1.cell? ⟨w.heap.size, 11, none⟩ = some (.int .i64 h.out) := cell_of_block p0 11
  have c1_11 : w1.cell? ⟨w.heap.size + 1, 11, none⟩ = some (.int .i64 0) := cell_of_block p1 11
  have f1_11 : w1.frozen? ⟨w.heap.size + 1, 11, none⟩ = false := unfrozen_of_block p1 11
  have c2_11 : w1.cell? ⟨w.heap.size + 1 + 1, 11, none⟩ = some (.int .i64 0) := cell_of_block p2 11
  have f2_11 : w1.frozen? ⟨w.heap.size + 1 + 1, 11, none⟩ = false := unfrozen_of_block p2 11

  go_wp2
  have kq : Below (w.heap.size + 1 + 1) w1 (((((((((((w1.setCell ⟨w.heap.size + 1 + 1, 1, none⟩ (.int .i64 h.call.code)).setCell ⟨w.heap.size + 1 + 1, 2, none⟩ (.int .i64 h.call.a)).setCell ⟨w.heap.size + 1 + 1, 3, none⟩ (.int .i64 h.call.b)).setCell ⟨w.heap.size + 1 + 1, 4, none⟩ (.int .i64 h.call.c)).setCell ⟨w.heap.size + 1 + 1, 5, none⟩ (.int .i64 h.tim)).setCell ⟨w.heap.size + 1 + 1, 6, none⟩ (.int .i64 h.whe)).setCell ⟨w.heap.size + 1 + 1, 7, none⟩ (.bool h.had)).setCell ⟨w.heap.size + 1 + 1, 8, none⟩ (.int .i64 h.cnt)).setCell ⟨w.heap.size + 1 + 1, 9, none⟩ (.int .i64 h.beg)).setCell ⟨w.heap.size + 1 + 1, 10, none⟩ (.int .i64 h.rep)).setCell ⟨w.heap.size + 1 + 1, 11, none⟩ (.int .i64 h.out)) :=
    ((((((((((((Below.refl _ w1).setCell (p := ⟨w.heap.size + 1 + 1, 1, none⟩) (Nat.le_refl _) (.int .i64 h.call.code)).setCell (p := ⟨w.heap.size + 1 + 1, 2, none⟩) (Nat.le_refl _) (.int .i64 h.call.a)).setCell (p := ⟨w.heap.size + 1 + 1, 3, none⟩) (Nat.le_refl _) (.int .i64 h.call.b)).setCell (p := ⟨w.heap.size + 1 + 1, 4, none⟩) (Nat.le_refl _) (.int .i64 h.call.c)).setCell (p := ⟨w.heap.size + 1 + 1, 5, none⟩) (Nat.le_refl _) (.int .i64 h.tim)).setCell (p := ⟨w.heap.size + 1 + 1, 6, none⟩) (Nat.le_refl _) (.int .i64 h.whe)).setCell (p := ⟨w.heap.size + 1 + 1, 7, none⟩) (Nat.le_refl _) (.bool h.had)).setCell (p := ⟨w.heap.size + 1 + 1, 8, none⟩) (Nat.le_refl _) (.int .i64 h.cnt)).setCell (p := ⟨w.heap.size + 1 + 1, 9, none⟩) (Nat.le_refl _) (.int .i64 h.beg)).setCell (p := ⟨w.heap.size + 1 + 1, 10, none⟩) (Nat.le_refl _) (.int .i64 h.rep)).setCell (p := ⟨w.heap.size + 1 + 1, 11, none⟩) (Nat.le_refl _) (.int .i64 h.out))
  have r0 := set_hand (h := h) (b_block kq p1 (Nat.lt_succ_self _))
  have hb := b_set_hand (n := w.heap.size) (B := w.heap.size + 1) (h := h) (kw.trans (kq.mono (by omega))) (by omega)
  have hq := r0
  clear r0
  have r0 := cell_of_block hq 0
  have r1 := cell_of_block hq 1
  have r2 := cell_of_block hq 2
  have r3 := cell_of_block hq 3
  have r4 := cell_of_block hq 4
  have r5 := cell_of_block hq 5
  have r6 := cell_of_block hq 6
  have r7 := cell_of_block hq 7
  have r8 := cell_of_block hq 8
  have r9 := cell_of_block hq 9
  have r10 := cell_of_block hq 10
  have r11 := cell_of_block hq 11
  exact bodyPost_ret (v := hdV h) (by simp [results, Try.results10, go_sem, r0, r1, r2, r3, r4, r5, r6, r7, r8, r9, r10, r11]) rfl ⟨rfl, hb⟩

set_option maxRecDepth 100000 in
set_option maxHeartbeats 1000000 in
theorem eqCall_same (q : Ca) (w : World) :
    Calls Try.prog 23 #[caV q, caV q] w fun e w' => e = .returned (.bool true) ∧ Below w.heap.size w w' := by
  go_enter Try.func23, Try.ntmps23
  go_wp2
  go_ret
  exact ⟨rfl, ((Below.refl _ _).alloc (Nat.le_refl _) _).alloc (by simp) _⟩
theorem eqCall_four (k x y z : Int) (w : World) :
    Calls Try.prog 23 #[.agg #[.int .i64 k, .int .i64 x, .int .i64 y, .int .i64 z], .agg #[.int .i64 k, .int .i64 x, .int .i64 y, .int .i64 z]] w fun e w' => e = .returned (.bool true) ∧ Below w.heap.size w w' := eqCall_same ⟨k, x, y, z⟩ w
set_option maxRecDepth 100000 in
set_option maxHeartbeats 2000000 in
theorem eqHand_same (h : Hd) (w : World) :
    Calls Try.prog 12 #[hdV h, hdV h] w fun e w' => e = .returned (.bool true) ∧ Below w.heap.size w w' := by
  have k0 := ((Below.refl w.heap.size w).alloc (Nat.le_refl _) (.cells (hdCells h) 35)).alloc (by simp) (.cells (hdCells h) 35)
  have kk := Below.refl ((w.alloc (.cells (hdCells h) 35)).alloc (.cells (hdCells h) 35)).heap.size ((w.alloc (.cells (hdCells h) 35)).alloc (.cells (hdCells h) 35))
  go_enter Try.func12, Try.ntmps12
  go_wp2_with (go_at_call 23; refine (eqCall_four _ _ _ _ _).mono ?_; rintro e w1 ⟨rfl, hb⟩; replace kk := kk.trans (hb.mono kk.size); clear hb; obtain ⟨hc, hf⟩ := bcell kk)
  go_ret
  exact ⟨rfl, k0.trans (kk.mono k0.size)⟩

theorem cellsCallLaw : Try.prog.cellsOf 25 = 4 := by kernel_rfl
set_option maxRecDepth 100000 in
theorem open_call {H : Type} {enc : TypeId × Value → H} {W : World} {base : Nat} {sp : Nat → Bool} {hd : Bool} {v : Value} {d : DataW H} {p : List MemPlace}
    (hv : Value.okWide Try.prog W .any base 25 v) (h : DataW.Trod enc Try.prog W 0 sp hd 25 v d p) :
    ∃ q : Ca, v = caV q ∧ d = .agg (numsD (caL q)) ∧ p = [] ∧ ∀ z ∈ caL q, (Lit.int .i64 z).wf = true := by
  obtain ⟨zs, hl, rfl, rfl, rfl, hw⟩ := open_flat Try.underlying25 (I := 2) (by kernel_rfl) Try.underlying2 (by kernel_rfl) (by kernel_rfl) hv h
  match zs, hl with
  | [a, b, c, d], _ => exact ⟨⟨a, b, c, d⟩, rfl, rfl, rfl, hw⟩
set_option maxRecDepth 100000 in
theorem shut_call {H : Type} {enc : TypeId × Value → H} {q : Ca} (hw : ∀ z ∈ caL q, (Lit.int .i64 z).wf = true) (W' : World) (n : Nat) (sp : Nat → Bool) (hd : Bool) :
    DataW.Trod enc Try.prog W' n sp hd 25 (caV q) (.agg (numsD (caL q))) [] :=
  shut_flat (zs := caL q) Try.underlying25 (I := 2) (by kernel_rfl) Try.underlying2 (by kernel_rfl) (by kernel_rfl) rfl hw
abbrev hdK : List Kd := [.num, .sub 25 4, .num, .num, .flag, .num, .num, .num, .num]
abbrev hdF (h : Hd) : List Fd := [.num h.pos, .sub (caL h.call), .num h.tim, .num h.whe, .flag h.had, .num h.cnt, .num h.beg, .num h.rep, .num h.out]
theorem hdK_subs : ∀ k ∈ hdK, subsOk Try.prog 2 k := by
  intro k hk
  simp only [hdK, List.mem_cons, List.not_mem_nil, or_false] at hk
  rcases hk with rfl | rfl | rfl | rfl | rfl | rfl | rfl | rfl | rfl <;> first | trivial | exact ⟨_, Try.underlying25, by kernel_rfl, by kernel_rfl⟩
theorem hd_opens : ∀ {ds : List Fd}, Fd.oks hdK ds → ∃ h : Hd, ds = hdF h ∧ Fd.oks hdK (hdF h)
  | [.num a, .sub [k, x, y, z], .num b, .num c, .flag d, .num e, .num f, .num g, .num i], ho => ⟨⟨a, ⟨k, x, y, z⟩, b, c, d, e, f, g, i⟩, rfl, ho⟩
set_option maxRecDepth 100000 in
theorem open_hand {H : Type} {enc : TypeId × Value → H} {W : World} {base : Nat} {sp : Nat → Bool} {hd : Bool} {v : Value} {d : DataW H} {p : List MemPlace}
    (hv : Value.okWide Try.prog W .any base 33 v) (h : DataW.Trod enc Try.prog W 0 sp hd 33 v d p) :
    ∃ x : Hd, v = hdV x ∧ d = .agg ((hdF x).map Fd.dat) ∧ p = [] ∧ Fd.oks hdK (hdF x) := by
  obtain ⟨ds, ho, rfl, rfl, rfl⟩ := open_tree (ks := hdK) Try.underlying33 Try.underlying2 Try.underlying4 (by kernel_rfl) hdK_subs (by kernel_rfl) (by kernel_rfl) hv h
  obtain ⟨x, rfl, ho⟩ := hd_opens ho
  exact ⟨x, rfl, rfl, rfl, ho⟩
set_option maxRecDepth 100000 in
theorem shut_hand {H : Type} {enc : TypeId × Value → H} {x : Hd} (ho : Fd.oks hdK (hdF x)) (W' : World) (n : Nat) (sp : Nat → Bool) (hd : Bool) :
    DataW.Trod enc Try.prog W' n sp hd 33 (hdV x) (.agg ((hdF x).map Fd.dat)) [] :=
  shut_tree (ks := hdK) (ds := hdF x) Try.underlying33 Try.underlying2 Try.underlying4 (by kernel_rfl) hdK_subs (by kernel_rfl) (by kernel_rfl) ho

end Go.Proofs.Ytcapaphndemaiaa
