/-
  The draws of the chapter on timers.
-/
import Derived.Test.YthhpnepcfpapcaaDoorNum
import Derived.Test.YthhpnepcfpapcaaDoorTimerSpec
namespace Go.Proofs.YthhpnepcfpapcaaDoor
open Go.RowKit Go.Joins
set_option linter.unusedVariables false

abbrev tmO (t : Tm) (ty : TypeId) : Obj := .cells #[.int .i64 t.st, .int .i64 t.wh, .int .i64 t.nx, .int .i64 t.pe, .int .i64 t.pl, .int .i64 t.ge, .int .i64 t.ki, .int .i64 t.ma] ty
/-- a timer's eight cells -/
theorem eight_cells {w : World} {b : Nat} {t : Tm} {ty : TypeId} (h : w.heap[b]? = some (.cells #[.int .i64 t.st, .int .i64 t.wh, .int .i64 t.nx, .int .i64 t.pe, .int .i64 t.pl, .int .i64 t.ge, .int .i64 t.ki, .int .i64 t.ma] ty (0, 0))) :
    w.cell? ⟨b, 0, none⟩ = some (.int .i64 t.st) ∧ w.cell? ⟨b, 1, none⟩ = some (.int .i64 t.wh) ∧ w.cell? ⟨b, 2, none⟩ = some (.int .i64 t.nx) ∧ w.cell? ⟨b, 3, none⟩ = some (.int .i64 t.pe) ∧ w.cell? ⟨b, 4, none⟩ = some (.int .i64 t.pl) ∧ w.cell? ⟨b, 5, none⟩ = some (.int .i64 t.ge) ∧ w.cell? ⟨b, 6, none⟩ = some (.int .i64 t.ki) ∧ w.cell? ⟨b, 7, none⟩ = some (.int .i64 t.ma) :=
  ⟨cell_of_block h 0, cell_of_block h 1, cell_of_block h 2, cell_of_block h 3, cell_of_block h 4, cell_of_block h 5, cell_of_block h 6, cell_of_block h 7⟩
theorem eight_free {w : World} {b : Nat} {cs : Array Value} {ty : TypeId} (h : w.heap[b]? = some (.cells cs ty (0, 0))) :
    w.frozen? ⟨b, 0, none⟩ = false ∧ w.frozen? ⟨b, 1, none⟩ = false ∧ w.frozen? ⟨b, 2, none⟩ = false ∧ w.frozen? ⟨b, 3, none⟩ = false ∧ w.frozen? ⟨b, 4, none⟩ = false ∧ w.frozen? ⟨b, 5, none⟩ = false ∧ w.frozen? ⟨b, 6, none⟩ = false ∧ w.frozen? ⟨b, 7, none⟩ = false :=
  ⟨unfrozen_of_block h 0, unfrozen_of_block h 1, unfrozen_of_block h 2, unfrozen_of_block h 3, unfrozen_of_block h 4, unfrozen_of_block h 5, unfrozen_of_block h 6, unfrozen_of_block h 7⟩
abbrev set8 (w : World) (b : Nat) (t : Tm) : World := ((((((((w.setCell ⟨b, 0, none⟩ (.int .i64 t.st)).setCell ⟨b, 1, none⟩ (.int .i64 t.wh)).setCell ⟨b, 2, none⟩ (.int .i64 t.nx)).setCell ⟨b, 3, none⟩ (.int .i64 t.pe)).setCell ⟨b, 4, none⟩ (.int .i64 t.pl)).setCell ⟨b, 5, none⟩ (.int .i64 t.ge)).setCell ⟨b, 6, none⟩ (.int .i64 t.ki)).setCell ⟨b, 7, none⟩ (.int .i64 t.ma))
theorem CurAt.set8 {w : World} {B g len b : Nat} {sl : Value} (h : CurAt w B g sl len) (hb : B ≤ b) (hn : b ≠ g) (t : Tm) : CurAt (set8 w b t) B g sl len :=
  ((((((((h.set hb hn _ _).set hb hn _ _).set hb hn _ _).set hb hn _ _).set hb hn _ _).set hb hn _ _).set hb hn _ _).set hb hn _ _)
theorem g_new8 {a w : World} {g b : Nat} (h : a.grownBy w (some g)) (hb : a.heap.size ≤ b) (t : Tm) : a.grownBy (set8 w b t) (some g) :=
  g_new (g_new (g_new (g_new (g_new (g_new (g_new (g_new h hb _ _) hb _ _) hb _ _) hb _ _) hb _ _) hb _ _) hb _ _) hb _ _

/-- a call that draws a timer -/
def DrawnT (B g : Nat) (sl : Value) (len : Nat) (w : World) (e : Ending) (w' : World) : Prop :=
  ∃ t : Tm, e = .returned (tmV t) ∧ CurAt w' B g sl len ∧ w.grownBy w' (some g)

set_option maxRecDepth 100000 in
set_option maxHeartbeats 4000000 in
theorem l3Draw_any {B g len : Nat} {sl : Value} {w : World} (a b c : Int) (ha : 1 ≤ a) (ha2 : a ≤ 1000000) (hC : CurAt w B g sl len) :
    Calls Tryd.prog 17 #[.pointer (some ⟨g, 0, none⟩), .agg #[.int .i64 a, .int .i64 b, .int .i64 c]] w (DrawnT B g sl len w) := by
  have hlt := hC.lt
  have hP := alloc_block (tmO ⟨0, 0, 0, 0, 0, 0, 0, 0⟩ 27) (heap_alloc_new w (.cells #[.int .i64 a, .int .i64 b, .int .i64 c] 25))
  have hR := heap_alloc_new (w.alloc (.cells #[.int .i64 a, .int .i64 b, .int .i64 c] 25)) (tmO ⟨0, 0, 0, 0, 0, 0, 0, 0⟩ 27)
  rw [show (w.alloc (.cells #[.int .i64 a, .int .i64 b, .int .i64 c] 25)).heap.size = w.heap.size + 1 by simp] at hR
  have hgg := g_alloc (g_alloc (g_refl w (some g)) (.cells #[.int .i64 a, .int .i64 b, .int .i64 c] 25)) (tmO ⟨0, 0, 0, 0, 0, 0, 0, 0⟩ 27)
  have hC0 := (hC.alloc (.cells #[.int .i64 a, .int .i64 b, .int .i64 c] 25)).alloc (tmO ⟨0, 0, 0, 0, 0, 0, 0, 0⟩ 27)
  go_enter Tryd.func17, Tryd.ntmps17
  go_wp2_with fail
  go_at_call 21; refine (l1From_any 0 7 (by omega) (by omega) (by omega) hC0).mono ?_; rintro e w1 ⟨st, st0, st1, rfl, hC1, hg⟩
  replace hP := g_block hg hP (by omega)
  replace hR := g_block hg hR (by omega)
  replace hgg := g_trans hgg hg
  clear hg hC0
  go_wp2_with fail
  go_at_call 20; refine (l1Below_any 30 (by omega) (by omega) hC1).mono ?_; rintro e w2 ⟨wh, wh0, wh1, rfl, hC2, hg⟩
  replace hP := g_block hg hP (by omega)
  replace hR := g_block hg hR (by omega)
  replace hgg := g_trans hgg hg
  clear hg hC1
  go_wp2_with fail
  go_at_call 20; refine (l1Below_any 30 (by omega) (by omega) hC2).mono ?_; rintro e w3 ⟨nx, nx0, nx1, rfl, hC3, hg⟩
  replace hP := g_block hg hP (by omega)
  replace hR := g_block hg hR (by omega)
  replace hgg := g_trans hgg hg
  clear hg hC2
  go_wp2_with fail
  go_at_call 20; refine (l1Below_any 2 (by omega) (by omega) hC3).mono ?_; rintro e w4 ⟨pe, pe0, pe1, rfl, hC4, hg⟩
  replace hP := g_block hg hP (by omega)
  replace hR := g_block hg hR (by omega)
  replace hgg := g_trans hgg hg
  clear hg hC3
  go_wp2_with fail
  go_at_call 20; refine (l1Below_any 4 (by omega) (by omega) hC4).mono ?_; rintro e w5 ⟨ge, ge0, ge1, rfl, hC5, hg⟩
  replace hP := g_block hg hP (by omega)
  replace hR := g_block hg hR (by omega)
  replace hgg := g_trans hgg hg
  clear hg hC4
  go_wp2_with fail
  go_at_call 20; refine (l1Below_any 2 (by omega) (by omega) hC5).mono ?_; rintro e w6 ⟨ki, ki0, ki1, rfl, hC6, hg⟩
  replace hP := g_block hg hP (by omega)
  replace hR := g_block hg hR (by omega)
  replace hgg := g_trans hgg hg
  clear hg hC5
  go_wp2_with fail
  go_at_call 20; refine (l1Below_any 3 (by omega) (by omega) hC6).mono ?_; rintro e w7 ⟨ma, ma0, ma1, rfl, hC7, hg⟩
  replace hP := g_block hg hP (by omega)
  replace hR := g_block hg hR (by omega)
  replace hgg := g_trans hgg hg
  clear hg hC6
  have hpe : pe * 5 ≤ 10 := by omega
  have hrs : w.heap.size + 1 < w7.heap.size := lt_of_block hR
  have hT := heap_alloc_new w7 (tmO ⟨st, wh, nx, pe * 5, -1, ge, ki, ma⟩ 27)
  replace hP := alloc_block (tmO ⟨st, wh, nx, pe * 5, -1, ge, ki, ma⟩ 27) hP
  replace hR := alloc_block (tmO ⟨st, wh, nx, pe * 5, -1, ge, ki, ma⟩ 27) hR
  replace hgg := g_alloc hgg (tmO ⟨st, wh, nx, pe * 5, -1, ge, ki, ma⟩ 27)
  have hC8 := hC7.alloc (tmO ⟨st, wh, nx, pe * 5, -1, ge, ki, ma⟩ 27)
  clear hC7
  have hst : st = 0 ∨ st = 1 ∨ st = 2 ∨ st = 3 ∨ st = 4 ∨ st = 5 ∨ st = 6 ∨ st = 7 := by omega
  clear st0 st1
  rcases hst with rfl | rfl | rfl | rfl | rfl | rfl | rfl | rfl
  · go_wp2_with fail
    go_at_call 14; refine (spInHeap_any _ _).mono ?_; rw [show inHeapB 0 = false from rfl]; rintro e w' ⟨rfl, rfl⟩
    have hts : w7.heap.size < (w7.alloc (tmO ⟨0, wh, nx, pe * 5, -1, ge, ki, ma⟩ 27)).heap.size := by simp
    generalize w7.alloc (tmO ⟨0, wh, nx, pe * 5, -1, ge, ki, ma⟩ 27) = w8 at *
    obtain ⟨r0, r1, r2, r3, r4, r5, r6, r7⟩ := eight_cells (t := ⟨0, 0, 0, 0, 0, 0, 0, 0⟩) hR
    obtain ⟨p0, p1, p2, p3, p4, p5, p6, p7⟩ := eight_free hR
    obtain ⟨t0, t1, t2, t3, t4, t5, t6, t7⟩ := eight_cells (t := ⟨0, wh, nx, pe * 5, -1, ge, ki, ma⟩) hT
    have hC9 := hC8.set8 (b := w.heap.size + 1) (by have := hC.base; omega) (by omega) ⟨0, wh, nx, pe * 5, -1, ge, ki, ma⟩
    have hg9 := g_new8 hgg (b := w.heap.size + 1) (by omega) ⟨0, wh, nx, pe * 5, -1, ge, ki, ma⟩
    clear hR hT hP
    go_wp2
    exact bodyPost_ret (v := tmV ⟨0, wh, nx, pe * 5, -1, ge, ki, ma⟩) (by simp [results, Tryd.results17, go_sem, r0, r1, r2, r3, r4, r5, r6, r7]) rfl ⟨_, rfl, hC9, hg9⟩
  · go_wp2_with fail
    go_at_call 14; refine (spInHeap_any _ _).mono ?_; rw [show inHeapB 1 = true from rfl]; rintro e w' ⟨rfl, rfl⟩
    have hts : w7.heap.size < (w7.alloc (tmO ⟨1, wh, nx, pe * 5, -1, ge, ki, ma⟩ 27)).heap.size := by simp
    generalize w7.alloc (tmO ⟨1, wh, nx, pe * 5, -1, ge, ki, ma⟩ 27) = w8 at *
    have pa : w8.cell? ⟨w.heap.size, 0, none⟩ = some (.int .i64 a) := cell_of_block hP 0
    go_wp2_with fail
    go_at_call 20; refine (l1Below_any a (by omega) (by omega) hC8).mono ?_; rintro e w10 ⟨y, y0, y1, rfl, hC10, hg⟩
    replace hP := g_block hg hP (by omega)
    replace hR := g_block hg hR (by omega)
    replace hT := g_block hg hT (by omega)
    replace hgg := g_trans hgg hg
    clear hg
    have hT2 : (w10.setCell ⟨w7.heap.size, 4, none⟩ (.int .i64 y)).heap[w7.heap.size]? = some (tmO ⟨1, wh, nx, pe * 5, y, ge, ki, ma⟩ 27) := block_setCell hT _
    have hR2 := (Below.heap_setCell w10 ⟨w7.heap.size, 4, none⟩ (.int .i64 y) (w.heap.size + 1) (Nat.ne_of_lt hrs)).trans hR
    have hC11 := hC10.set (b := w7.heap.size) (by have := hC.base; omega) (by omega) 4 (.int .i64 y)
    have hg11 := g_new hgg (b := w7.heap.size) (by omega) 4 (.int .i64 y)
    have q4 : w10.cell? ⟨w7.heap.size, 4, none⟩ = some (.int .i64 (-1)) := cell_of_block hT 4
    have q0 : w10.cell? ⟨w7.heap.size, 0, none⟩ = some (.int .i64 1) := cell_of_block hT 0
    have u4 := unfrozen_of_block hT 4
    have hC9 := hC11.set8 (b := w.heap.size + 1) (by have := hC.base; omega) (by omega) ⟨1, wh, nx, pe * 5, y, ge, ki, ma⟩
    have hg9 := g_new8 hg11 (b := w.heap.size + 1) (by omega) ⟨1, wh, nx, pe * 5, y, ge, ki, ma⟩
    obtain ⟨r0, r1, r2, r3, r4, r5, r6, r7⟩ := eight_cells (t := ⟨0, 0, 0, 0, 0, 0, 0, 0⟩) hR
    obtain ⟨p0, p1, p2, p3, p4, p5, p6, p7⟩ := eight_free hR
    obtain ⟨t0, t1, t2, t3, t4, t5, t6, t7⟩ := eight_cells (t := ⟨1, wh, nx, pe * 5, -1, ge, ki, ma⟩) hT
    clear hR2 hT2 hR hT hP q4 q0
    go_wp2
    exact bodyPost_ret (v := tmV ⟨1, wh, nx, pe * 5, y, ge, ki, ma⟩) (by simp [results, Tryd.results17, go_sem, r0, r1, r2, r3, r4, r5, r6, r7]) rfl ⟨_, rfl, hC9, hg9⟩
  · go_wp2_with fail
    go_at_call 14; refine (spInHeap_any _ _).mono ?_; rw [show inHeapB 2 = false from rfl]; rintro e w' ⟨rfl, rfl⟩
    have hts : w7.heap.size < (w7.alloc (tmO ⟨2, wh, nx, pe * 5, -1, ge, ki, ma⟩ 27)).heap.size := by simp
    generalize w7.alloc (tmO ⟨2, wh, nx, pe * 5, -1, ge, ki, ma⟩ 27) = w8 at *
    have ts : w8.cell? ⟨w7.heap.size, 0, none⟩ = some (.int .i64 2) := cell_of_block hT 0
    go_wp2_with fail
    go_at_call 18; refine (l1Once_any _ (by omega) (by omega) hC8).mono ?_; rintro e w9 ⟨q, rfl, hC9', hg⟩
    replace hP := g_block hg hP (by omega)
    replace hR := g_block hg hR (by omega)
    replace hT := g_block hg hT (by omega)
    replace hgg := g_trans hgg hg
    clear hg
    clear ts
    cases q
    · obtain ⟨r0, r1, r2, r3, r4, r5, r6, r7⟩ := eight_cells (t := ⟨0, 0, 0, 0, 0, 0, 0, 0⟩) hR
      obtain ⟨p0, p1, p2, p3, p4, p5, p6, p7⟩ := eight_free hR
      obtain ⟨t0, t1, t2, t3, t4, t5, t6, t7⟩ := eight_cells (t := ⟨2, wh, nx, pe * 5, -1, ge, ki, ma⟩) hT
      have hC9 := hC9'.set8 (b := w.heap.size + 1) (by have := hC.base; omega) (by omega) ⟨2, wh, nx, pe * 5, -1, ge, ki, ma⟩
      have hg9 := g_new8 hgg (b := w.heap.size + 1) (by omega) ⟨2, wh, nx, pe * 5, -1, ge, ki, ma⟩
      clear hR hT hP
      go_wp2
      exact bodyPost_ret (v := tmV ⟨2, wh, nx, pe * 5, -1, ge, ki, ma⟩) (by simp [results, Tryd.results17, go_sem, r0, r1, r2, r3, r4, r5, r6, r7]) rfl ⟨_, rfl, hC9, hg9⟩
    · have pa : w9.cell? ⟨w.heap.size, 0, none⟩ = some (.int .i64 a) := cell_of_block hP 0
      go_wp2_with fail
      go_at_call 20; refine (l1Below_any a (by omega) (by omega) hC9').mono ?_; rintro e w10 ⟨y, y0, y1, rfl, hC10, hg⟩
      replace hP := g_block hg hP (by omega)
      replace hR := g_block hg hR (by omega)
      replace hT := g_block hg hT (by omega)
      replace hgg := g_trans hgg hg
      clear hg
      have hT2 : (w10.setCell ⟨w7.heap.size, 4, none⟩ (.int .i64 y)).heap[w7.heap.size]? = some (tmO ⟨2, wh, nx, pe * 5, y, ge, ki, ma⟩ 27) := block_setCell hT _
      have hR2 := (Below.heap_setCell w10 ⟨w7.heap.size, 4, none⟩ (.int .i64 y) (w.heap.size + 1) (Nat.ne_of_lt hrs)).trans hR
      have hC11 := hC10.set (b := w7.heap.size) (by have := hC.base; omega) (by omega) 4 (.int .i64 y)
      have hg11 := g_new hgg (b := w7.heap.size) (by omega) 4 (.int .i64 y)
      have q4 : w10.cell? ⟨w7.heap.size, 4, none⟩ = some (.int .i64 (-1)) := cell_of_block hT 4
      have q0 : w10.cell? ⟨w7.heap.size, 0, none⟩ = some (.int .i64 2) := cell_of_block hT 0
      have u4 := unfrozen_of_block hT 4
      have hC9 := hC11.set8 (b := w.heap.size + 1) (by have := hC.base; omega) (by omega) ⟨2, wh, nx, pe * 5, y, ge, ki, ma⟩
      have hg9 := g_new8 hg11 (b := w.heap.size + 1) (by omega) ⟨2, wh, nx, pe * 5, y, ge, ki, ma⟩
      obtain ⟨r0, r1, r2, r3, r4, r5, r6, r7⟩ := eight_cells (t := ⟨0, 0, 0, 0, 0, 0, 0, 0⟩) hR
      obtain ⟨p0, p1, p2, p3, p4, p5, p6, p7⟩ := eight_free hR
      obtain ⟨t0, t1, t2, t3, t4, t5, t6, t7⟩ := eight_cells (t := ⟨2, wh, nx, pe * 5, -1, ge, ki, ma⟩) hT
      clear hR2 hT2 hR hT hP q4 q0
      go_wp2
      exact bodyPost_ret (v := tmV ⟨2, wh, nx, pe * 5, y, ge, ki, ma⟩) (by simp [results, Tryd.results17, go_sem, r0, r1, r2, r3, r4, r5, r6, r7]) rfl ⟨_, rfl, hC9, hg9⟩
  · go_wp2_with fail
    go_at_call 14; refine (spInHeap_any _ _).mono ?_; rw [show inHeapB 3 = true from rfl]; rintro e w' ⟨rfl, rfl⟩
    have hts : w7.heap.size < (w7.alloc (tmO ⟨3, wh, nx, pe * 5, -1, ge, ki, ma⟩ 27)).heap.size := by simp
    generalize w7.alloc (tmO ⟨3, wh, nx, pe * 5, -1, ge, ki, ma⟩ 27) = w8 at *
    have pa : w8.cell? ⟨w.heap.size, 0, none⟩ = some (.int .i64 a) := cell_of_block hP 0
    go_wp2_with fail
    go_at_call 20; refine (l1Below_any a (by omega) (by omega) hC8).mono ?_; rintro e w10 ⟨y, y0, y1, rfl, hC10, hg⟩
    replace hP := g_block hg hP (by omega)
    replace hR := g_block hg hR (by omega)
    replace hT := g_block hg hT (by omega)
    replace hgg := g_trans hgg hg
    clear hg
    have hT2 : (w10.setCell ⟨w7.heap.size, 4, none⟩ (.int .i64 y)).heap[w7.heap.size]? = some (tmO ⟨3, wh, nx, pe * 5, y, ge, ki, ma⟩ 27) := block_setCell hT _
    have hR2 := (Below.heap_setCell w10 ⟨w7.heap.size, 4, none⟩ (.int .i64 y) (w.heap.size + 1) (Nat.ne_of_lt hrs)).trans hR
    have hC11 := hC10.set (b := w7.heap.size) (by have := hC.base; omega) (by omega) 4 (.int .i64 y)
    have hg11 := g_new hgg (b := w7.heap.size) (by omega) 4 (.int .i64 y)
    have q4 : w10.cell? ⟨w7.heap.size, 4, none⟩ = some (.int .i64 (-1)) := cell_of_block hT 4
    have q0 : w10.cell? ⟨w7.heap.size, 0, none⟩ = some (.int .i64 3) := cell_of_block hT 0
    have u4 := unfrozen_of_block hT 4
    go_wp2_with fail
    clear q4 q0 u4 hT hR hgg hP
    generalize w10.setCell ⟨w7.heap.size, 4, none⟩ (.int .i64 y) = w11 at *
    have s0 : w11.cell? ⟨w7.heap.size, 2, none⟩ = some (.int .i64 nx) := cell_of_block hT2 2
    have e1 : IntKind.i64.wrap (nx + 1) = nx + 1 := by rw [IntKind.wrap_i64]; omega
    have hC11d : CurAt w11.drew B g sl len := hC11
    go_region_held3 (fun w' => w'.cell? ⟨w7.heap.size, 2, none⟩ = some (.int .i64 nx))
      (first | exact s0 | exact s1 | exact s2 _ | go_keep)
      (first
        | (go_at_call 20; refine (l1Below_any 5 (by omega) (by omega) hC11d).mono ?_; rintro e w12 ⟨z, z0, z1, rfl, hC12, hg⟩
           have hT := g_block (g_trans (g_drew (g_refl w11 (some g))) hg) hT2 (by omega); have hR := g_block (g_trans (g_drew (g_refl w11 (some g))) hg) hR2 (by omega); have hgg := g_trans (g_drew hg11) hg
           have s1 : w12.cell? ⟨w7.heap.size, 2, none⟩ = some (.int .i64 nx) := cell_of_block hT 2
           have s2 : ∀ v : Value, (w12.setCell ⟨w7.heap.size, 1, none⟩ v).cell? ⟨w7.heap.size, 2, none⟩ = some (.int .i64 nx) := fun v => (World.cell?_setCell_other w12 ⟨w7.heap.size, 1, none⟩ ⟨w7.heap.size, 2, none⟩ v (by simp)).trans s1
           have f1 := unfrozen_of_block hT 1; have c1 := cell_of_block hT 1; have e2 : IntKind.i64.wrap (nx + 1 + z) = nx + 1 + z := by rw [IntKind.wrap_i64]; omega))
    all_goals
      have hC13 := hC12.set (b := w7.heap.size) (by have := hC.base; omega) (by omega) 1 (.int .i64 (nx + 1 + z))
      have hg13 := g_new hgg (b := w7.heap.size) (by omega) 1 (.int .i64 (nx + 1 + z))
      have hC9 := hC13.set8 (b := w.heap.size + 1) (by have := hC.base; omega) (by omega) ⟨3, nx + 1 + z, nx, pe * 5, y, ge, ki, ma⟩
      have hg9 := g_new8 hg13 (b := w.heap.size + 1) (by omega) ⟨3, nx + 1 + z, nx, pe * 5, y, ge, ki, ma⟩
      obtain ⟨r0, r1, r2, r3, r4, r5, r6, r7⟩ := eight_cells (t := ⟨0, 0, 0, 0, 0, 0, 0, 0⟩) hR
      obtain ⟨p0, p1, p2, p3, p4, p5, p6, p7⟩ := eight_free hR
      obtain ⟨t0, t1, t2, t3, t4, t5, t6, t7⟩ := eight_cells (t := ⟨3, wh, nx, pe * 5, y, ge, ki, ma⟩) hT
      clear hR2 hT2 hR hT s0 s1 s2 f1 c1 e1 e2
      go_wp2
      exact bodyPost_ret (v := tmV ⟨3, nx + 1 + z, nx, pe * 5, y, ge, ki, ma⟩) (by simp [results, Tryd.results17, go_sem, r0, r1, r2, r3, r4, r5, r6, r7]) rfl ⟨_, rfl, hC9, hg9⟩
  · go_wp2_with fail
    go_at_call 14; refine (spInHeap_any _ _).mono ?_; rw [show inHeapB 4 = true from rfl]; rintro e w' ⟨rfl, rfl⟩
    have hts : w7.heap.size < (w7.alloc (tmO ⟨4, wh, nx, pe * 5, -1, ge, ki, ma⟩ 27)).heap.size := by simp
    generalize w7.alloc (tmO ⟨4, wh, nx, pe * 5, -1, ge, ki, ma⟩ 27) = w8 at *
    have pa : w8.cell? ⟨w.heap.size, 0, none⟩ = some (.int .i64 a) := cell_of_block hP 0
    go_wp2_with fail
    go_at_call 20; refine (l1Below_any a (by omega) (by omega) hC8).mono ?_; rintro e w10 ⟨y, y0, y1, rfl, hC10, hg⟩
    replace hP := g_block hg hP (by omega)
    replace hR := g_block hg hR (by omega)
    replace hT := g_block hg hT (by omega)
    replace hgg := g_trans hgg hg
    clear hg
    have hT2 : (w10.setCell ⟨w7.heap.size, 4, none⟩ (.int .i64 y)).heap[w7.heap.size]? = some (tmO ⟨4, wh, nx, pe * 5, y, ge, ki, ma⟩ 27) := block_setCell hT _
    have hR2 := (Below.heap_setCell w10 ⟨w7.heap.size, 4, none⟩ (.int .i64 y) (w.heap.size + 1) (Nat.ne_of_lt hrs)).trans hR
    have hC11 := hC10.set (b := w7.heap.size) (by have := hC.base; omega) (by omega) 4 (.int .i64 y)
    have hg11 := g_new hgg (b := w7.heap.size) (by omega) 4 (.int .i64 y)
    have q4 : w10.cell? ⟨w7.heap.size, 4, none⟩ = some (.int .i64 (-1)) := cell_of_block hT 4
    have q0 : w10.cell? ⟨w7.heap.size, 0, none⟩ = some (.int .i64 4) := cell_of_block hT 0
    have u4 := unfrozen_of_block hT 4
    go_wp2_with fail
    clear q4 q0 u4 hT hR hgg hP
    generalize w10.setCell ⟨w7.heap.size, 4, none⟩ (.int .i64 y) = w11 at *
    have s0 : w11.cell? ⟨w7.heap.size, 1, none⟩ = some (.int .i64 wh) := cell_of_block hT2 1
    have e1 : IntKind.i64.wrap (wh + 1) = wh + 1 := by rw [IntKind.wrap_i64]; omega
    have hC11d : CurAt w11.drew B g sl len := hC11
    go_region_held3 (fun w' => w'.cell? ⟨w7.heap.size, 1, none⟩ = some (.int .i64 wh))
      (first | exact s0 | exact s1 | exact s2 _ | go_keep)
      (first
        | (go_at_call 20; refine (l1Below_any 5 (by omega) (by omega) hC11d).mono ?_; rintro e w12 ⟨z, z0, z1, rfl, hC12, hg⟩
           have hT := g_block (g_trans (g_drew (g_refl w11 (some g))) hg) hT2 (by omega); have hR := g_block (g_trans (g_drew (g_refl w11 (some g))) hg) hR2 (by omega); have hgg := g_trans (g_drew hg11) hg
           have s1 : w12.cell? ⟨w7.heap.size, 1, none⟩ = some (.int .i64 wh) := cell_of_block hT 1
           have s2 : ∀ v : Value, (w12.setCell ⟨w7.heap.size, 2, none⟩ v).cell? ⟨w7.heap.size, 1, none⟩ = some (.int .i64 wh) := fun v => (World.cell?_setCell_other w12 ⟨w7.heap.size, 2, none⟩ ⟨w7.heap.size, 1, none⟩ v (by simp)).trans s1
           have f1 := unfrozen_of_block hT 2; have c1 := cell_of_block hT 2; have e2 : IntKind.i64.wrap (wh + z) = wh + z := by rw [IntKind.wrap_i64]; omega))
    all_goals
      have hC13 := hC12.set (b := w7.heap.size) (by have := hC.base; omega) (by omega) 2 (.int .i64 (wh + z))
      have hg13 := g_new hgg (b := w7.heap.size) (by omega) 2 (.int .i64 (wh + z))
      have hC9 := hC13.set8 (b := w.heap.size + 1) (by have := hC.base; omega) (by omega) ⟨4, wh, wh + z, pe * 5, y, ge, ki, ma⟩
      have hg9 := g_new8 hg13 (b := w.heap.size + 1) (by omega) ⟨4, wh, wh + z, pe * 5, y, ge, ki, ma⟩
      obtain ⟨r0, r1, r2, r3, r4, r5, r6, r7⟩ := eight_cells (t := ⟨0, 0, 0, 0, 0, 0, 0, 0⟩) hR
      obtain ⟨p0, p1, p2, p3, p4, p5, p6, p7⟩ := eight_free hR
      obtain ⟨t0, t1, t2, t3, t4, t5, t6, t7⟩ := eight_cells (t := ⟨4, wh, nx, pe * 5, y, ge, ki, ma⟩) hT
      clear hR2 hT2 hR hT s0 s1 s2 f1 c1 e1 e2
      go_wp2
      exact bodyPost_ret (v := tmV ⟨4, wh, wh + z, pe * 5, y, ge, ki, ma⟩) (by simp [results, Tryd.results17, go_sem, r0, r1, r2, r3, r4, r5, r6, r7]) rfl ⟨_, rfl, hC9, hg9⟩
  · go_wp2_with fail
    go_at_call 14; refine (spInHeap_any _ _).mono ?_; rw [show inHeapB 5 = true from rfl]; rintro e w' ⟨rfl, rfl⟩
    have hts : w7.heap.size < (w7.alloc (tmO ⟨5, wh, nx, pe * 5, -1, ge, ki, ma⟩ 27)).heap.size := by simp
    generalize w7.alloc (tmO ⟨5, wh, nx, pe * 5, -1, ge, ki, ma⟩ 27) = w8 at *
    have pa : w8.cell? ⟨w.heap.size, 0, none⟩ = some (.int .i64 a) := cell_of_block hP 0
    go_wp2_with fail
    go_at_call 20; refine (l1Below_any a (by omega) (by omega) hC8).mono ?_; rintro e w10 ⟨y, y0, y1, rfl, hC10, hg⟩
    replace hP := g_block hg hP (by omega)
    replace hR := g_block hg hR (by omega)
    replace hT := g_block hg hT (by omega)
    replace hgg := g_trans hgg hg
    clear hg
    have hT2 : (w10.setCell ⟨w7.heap.size, 4, none⟩ (.int .i64 y)).heap[w7.heap.size]? = some (tmO ⟨5, wh, nx, pe * 5, y, ge, ki, ma⟩ 27) := block_setCell hT _
    have hR2 := (Below.heap_setCell w10 ⟨w7.heap.size, 4, none⟩ (.int .i64 y) (w.heap.size + 1) (Nat.ne_of_lt hrs)).trans hR
    have hC11 := hC10.set (b := w7.heap.size) (by have := hC.base; omega) (by omega) 4 (.int .i64 y)
    have hg11 := g_new hgg (b := w7.heap.size) (by omega) 4 (.int .i64 y)
    have q4 : w10.cell? ⟨w7.heap.size, 4, none⟩ = some (.int .i64 (-1)) := cell_of_block hT 4
    have q0 : w10.cell? ⟨w7.heap.size, 0, none⟩ = some (.int .i64 5) := cell_of_block hT 0
    have u4 := unfrozen_of_block hT 4
    have hC9 := hC11.set8 (b := w.heap.size + 1) (by have := hC.base; omega) (by omega) ⟨5, wh, nx, pe * 5, y, ge, ki, ma⟩
    have hg9 := g_new8 hg11 (b := w.heap.size + 1) (by omega) ⟨5, wh, nx, pe * 5, y, ge, ki, ma⟩
    obtain ⟨r0, r1, r2, r3, r4, r5, r6, r7⟩ := eight_cells (t := ⟨0, 0, 0, 0, 0, 0, 0, 0⟩) hR
    obtain ⟨p0, p1, p2, p3, p4, p5, p6, p7⟩ := eight_free hR
    obtain ⟨t0, t1, t2, t3, t4, t5, t6, t7⟩ := eight_cells (t := ⟨5, wh, nx, pe * 5, -1, ge, ki, ma⟩) hT
    clear hR2 hT2 hR hT hP q4 q0
    go_wp2
    exact bodyPost_ret (v := tmV ⟨5, wh, nx, pe * 5, y, ge, ki, ma⟩) (by simp [results, Tryd.results17, go_sem, r0, r1, r2, r3, r4, r5, r6, r7]) rfl ⟨_, rfl, hC9, hg9⟩
  · go_wp2_with fail
    go_at_call 14; refine (spInHeap_any _ _).mono ?_; rw [show inHeapB 6 = true from rfl]; rintro e w' ⟨rfl, rfl⟩
    have hts : w7.heap.size < (w7.alloc (tmO ⟨6, wh, nx, pe * 5, -1, ge, ki, ma⟩ 27)).heap.size := by simp
    generalize w7.alloc (tmO ⟨6, wh, nx, pe * 5, -1, ge, ki, ma⟩ 27) = w8 at *
    have pa : w8.cell? ⟨w.heap.size, 0, none⟩ = some (.int .i64 a) := cell_of_block hP 0
    go_wp2_with fail
    go_at_call 20; refine (l1Below_any a (by omega) (by omega) hC8).mono ?_; rintro e w10 ⟨y, y0, y1, rfl, hC10, hg⟩
    replace hP := g_block hg hP (by omega)
    replace hR := g_block hg hR (by omega)
    replace hT := g_block hg hT (by omega)
    replace hgg := g_trans hgg hg
    clear hg
    have hT2 : (w10.setCell ⟨w7.heap.size, 4, none⟩ (.int .i64 y)).heap[w7.heap.size]? = some (tmO ⟨6, wh, nx, pe * 5, y, ge, ki, ma⟩ 27) := block_setCell hT _
    have hR2 := (Below.heap_setCell w10 ⟨w7.heap.size, 4, none⟩ (.int .i64 y) (w.heap.size + 1) (Nat.ne_of_lt hrs)).trans hR
    have hC11 := hC10.set (b := w7.heap.size) (by have := hC.base; omega) (by omega) 4 (.int .i64 y)
    have hg11 := g_new hgg (b := w7.heap.size) (by omega) 4 (.int .i64 y)
    have q4 : w10.cell? ⟨w7.heap.size, 4, none⟩ = some (.int .i64 (-1)) := cell_of_block hT 4
    have q0 : w10.cell? ⟨w7.heap.size, 0, none⟩ = some (.int .i64 6) := cell_of_block hT 0
    have u4 := unfrozen_of_block hT 4
    have hC9 := hC11.set8 (b := w.heap.size + 1) (by have := hC.base; omega) (by omega) ⟨6, wh, nx, pe * 5, y, ge, ki, ma⟩
    have hg9 := g_new8 hg11 (b := w.heap.size + 1) (by omega) ⟨6, wh, nx, pe * 5, y, ge, ki, ma⟩
    obtain ⟨r0, r1, r2, r3, r4, r5, r6, r7⟩ := eight_cells (t := ⟨0, 0, 0, 0, 0, 0, 0, 0⟩) hR
    obtain ⟨p0, p1, p2, p3, p4, p5, p6, p7⟩ := eight_free hR
    obtain ⟨t0, t1, t2, t3, t4, t5, t6, t7⟩ := eight_cells (t := ⟨6, wh, nx, pe * 5, -1, ge, ki, ma⟩) hT
    clear hR2 hT2 hR hT hP q4 q0
    go_wp2
    exact bodyPost_ret (v := tmV ⟨6, wh, nx, pe * 5, y, ge, ki, ma⟩) (by simp [results, Tryd.results17, go_sem, r0, r1, r2, r3, r4, r5, r6, r7]) rfl ⟨_, rfl, hC9, hg9⟩
  · go_wp2_with fail
    go_at_call 14; refine (spInHeap_any _ _).mono ?_; rw [show inHeapB 7 = false from rfl]; rintro e w' ⟨rfl, rfl⟩
    have hts : w7.heap.size < (w7.alloc (tmO ⟨7, wh, nx, pe * 5, -1, ge, ki, ma⟩ 27)).heap.size := by simp
    generalize w7.alloc (tmO ⟨7, wh, nx, pe * 5, -1, ge, ki, ma⟩ 27) = w8 at *
    obtain ⟨r0, r1, r2, r3, r4, r5, r6, r7⟩ := eight_cells (t := ⟨0, 0, 0, 0, 0, 0, 0, 0⟩) hR
    obtain ⟨p0, p1, p2, p3, p4, p5, p6, p7⟩ := eight_free hR
    obtain ⟨t0, t1, t2, t3, t4, t5, t6, t7⟩ := eight_cells (t := ⟨7, wh, nx, pe * 5, -1, ge, ki, ma⟩) hT
    have hC9 := hC8.set8 (b := w.heap.size + 1) (by have := hC.base; omega) (by omega) ⟨7, wh, nx, pe * 5, -1, ge, ki, ma⟩
    have hg9 := g_new8 hgg (b := w.heap.size + 1) (by omega) ⟨7, wh, nx, pe * 5, -1, ge, ki, ma⟩
    clear hR hT hP
    go_wp2
    exact bodyPost_ret (v := tmV ⟨7, wh, nx, pe * 5, -1, ge, ki, ma⟩) (by simp [results, Tryd.results17, go_sem, r0, r1, r2, r3, r4, r5, r6, r7]) rfl ⟨_, rfl, hC9, hg9⟩

end Go.Proofs.YthhpnepcfpapcaaDoor
