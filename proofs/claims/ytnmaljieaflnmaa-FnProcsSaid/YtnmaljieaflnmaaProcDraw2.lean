/-
  The draws of the chapter on processors, second part.
-/
import Derived.Test.YtnmaljieaflnmaaProcDraw
namespace Go.Proofs.Ytnmaljieaflnmaa
open Go.RowKit Go.Joins
set_option linter.unusedVariables false

theorem OwnRow.notLow {w : World} {B n b : Nat} {f : Slots} {v : Value} (h : OwnRow w B v n f) (hb : b < B) : some b ≠ v.ownBlock := by
  rcases h with ⟨_, rfl⟩ | ⟨g, cap, rfl, h⟩
  · simp [Value.ownBlock]
  · intro e
    have := h.1
    simp [Value.ownBlock] at e
    omega

theorem far4 {w : World} {E p : Nat} {o : Obj} {u : Value} (hX : w.heap[E]? = some o) (hs : w.cell? ⟨p, 1, none⟩ = some u) (hn : E ≠ p) (x y z q : Value) :
    ((((w.setCell ⟨E, 0, none⟩ x).setCell ⟨E, 1, none⟩ y).setCell ⟨E, 2, none⟩ z).setCell ⟨E, 3, none⟩ q).cell? ⟨p, 1, none⟩ = some u :=
  (World.cell?_setCell_far _ ⟨E, 3, none⟩ ⟨p, 1, none⟩ q hn).trans ((World.cell?_setCell_far _ ⟨E, 2, none⟩ ⟨p, 1, none⟩ z hn).trans ((World.cell?_setCell_far _ ⟨E, 1, none⟩ ⟨p, 1, none⟩ y hn).trans ((World.cell?_setCell_far _ ⟨E, 0, none⟩ ⟨p, 1, none⟩ x hn).trans hs)))
abbrev set4 (w : World) (E : Nat) (x y z q : Value) : World := (((w.setCell ⟨E, 0, none⟩ x).setCell ⟨E, 1, none⟩ y).setCell ⟨E, 2, none⟩ z).setCell ⟨E, 3, none⟩ q
theorem pack4 {w : World} {E : Nat} {x0 x1 x2 x3 : Value} {t : TypeId} (hX : w.heap[E]? = some (.cells #[x0, x1, x2, x3] t (0, 0))) (x y z q : Value) :
    (set4 w E x y z q).heap[E]? = some (.cells #[x, y, z, q] t (0, 0)) :=
  block_setCell (i := 3) (block_setCell (i := 2) (block_setCell (i := 1) (block_setCell (i := 0) hX x) y) z) q
theorem far4b {w : World} {E p : Nat} {o : Obj} (hX : w.heap[E]? = some o) (x y z q : Value) (hn : p ≠ E) : (set4 w E x y z q).heap[p]? = w.heap[p]? :=
  (Below.heap_setCell _ ⟨E, 3, none⟩ _ p hn).trans ((Below.heap_setCell _ ⟨E, 2, none⟩ _ p hn).trans ((Below.heap_setCell _ ⟨E, 1, none⟩ _ p hn).trans (Below.heap_setCell _ ⟨E, 0, none⟩ _ p hn)))
theorem g_set4 {a w : World} {g E : Nat} (h : a.grownBy w (some g)) (hE : a.heap.size ≤ E) (x y z q : Value) : a.grownBy (set4 w E x y z q) (some g) :=
  g_new (g_new (g_new (g_new h hE 0 x) hE 1 y) hE 2 z) hE 3 q
theorem cur_set4 {w : World} {B g len E : Nat} {sl : Value} (h : CurAt w B g sl len) (hb : B ≤ E) (hn : E ≠ g) (x y z q : Value) : CurAt (set4 w E x y z q) B g sl len :=
  (((h.set hb hn 0 x).set hb hn 1 y).set hb hn 2 z).set hb hn 3 q
/-- a call that draws a processor -/
def DrawnPr (B g : Nat) (sl : Value) (len : Nat) (w : World) (x : Ending) (w' : World) : Prop :=
  ∃ (v : Value) (n : Nat) (f : Slots) (l e d : Int), x = .returned (prV v l e d) ∧ OwnRow w' w.heap.size v n f ∧ lowHeap f n ∧ CurAt w' B g sl len ∧ w.grownBy w' (some g)

set_option maxRecDepth 100000 in
set_option maxHeartbeats 4000000 in
theorem l4Draw_any {B g len : Nat} {sl : Value} {w : World} (a b c : Int) (h1 : 1 ≤ b) (h2 : b ≤ 1000000) (hC : CurAt w B g sl len) :
    Calls Try.prog 41 #[.pointer (some ⟨g, 0, none⟩), .agg #[.int .i64 a, .int .i64 b, .int .i64 c]] w (DrawnPr B g sl len w) := by
  have hlt := hC.lt
  have hBb := hC.base
  have e1 : (w.alloc (.cells #[.int .i64 a, .int .i64 b, .int .i64 c] 25)).heap.size = w.heap.size + 1 := by simp
  have e2 : ((w.alloc (.cells #[.int .i64 a, .int .i64 b, .int .i64 c] 25)).alloc (.cells #[.slice none 0 0, .int .i64 0, .int .i64 0, .int .i64 0] 28)).heap.size = w.heap.size + 2 := by simp
  have e3 : (((w.alloc (.cells #[.int .i64 a, .int .i64 b, .int .i64 c] 25)).alloc (.cells #[.slice none 0 0, .int .i64 0, .int .i64 0, .int .i64 0] 28)).alloc (.cells #[.slice none 0 0, .int .i64 0, .int .i64 0, .int .i64 0] 28)).heap.size = w.heap.size + 3 := by simp
  have hP0 := alloc_block (.cells #[.slice none 0 0, .int .i64 0, .int .i64 0, .int .i64 0] 28) (heap_alloc_new w (.cells #[.int .i64 a, .int .i64 b, .int .i64 c] 25))
  have hR0 := heap_alloc_new (w.alloc (.cells #[.int .i64 a, .int .i64 b, .int .i64 c] 25)) (.cells #[.slice none 0 0, .int .i64 0, .int .i64 0, .int .i64 0] 28)
  rw [e1] at hR0
  have hg0 := g_alloc (g_alloc (g_refl w (some g)) (.cells #[.int .i64 a, .int .i64 b, .int .i64 c] 25)) (.cells #[.slice none 0 0, .int .i64 0, .int .i64 0, .int .i64 0] 28)
  have hC0 : CurAt ((w.alloc (.cells #[.int .i64 a, .int .i64 b, .int .i64 c] 25)).alloc (.cells #[.slice none 0 0, .int .i64 0, .int .i64 0, .int .i64 0] 28)).drew B g sl len := (hC.alloc (.cells #[.int .i64 a, .int .i64 b, .int .i64 c] 25)).alloc (.cells #[.slice none 0 0, .int .i64 0, .int .i64 0, .int .i64 0] 28)
  have hC0' : CurAt (((w.alloc (.cells #[.int .i64 a, .int .i64 b, .int .i64 c] 25)).alloc (.cells #[.slice none 0 0, .int .i64 0, .int .i64 0, .int .i64 0] 28)).alloc (.cells #[.slice none 0 0, .int .i64 0, .int .i64 0, .int .i64 0] 28)).drew B g sl len := ((hC.alloc (.cells #[.int .i64 a, .int .i64 b, .int .i64 c] 25)).alloc (.cells #[.slice none 0 0, .int .i64 0, .int .i64 0, .int .i64 0] 28)).alloc (.cells #[.slice none 0 0, .int .i64 0, .int .i64 0, .int .i64 0] 28)
  have hX0 := heap_alloc_new ((w.alloc (.cells #[.int .i64 a, .int .i64 b, .int .i64 c] 25)).alloc (.cells #[.slice none 0 0, .int .i64 0, .int .i64 0, .int .i64 0] 28)) (.cells #[.slice none 0 0, .int .i64 0, .int .i64 0, .int .i64 0] 28)
  rw [e2] at hX0
  have s0 : ((w.alloc (.cells #[.int .i64 a, .int .i64 b, .int .i64 c] 25)).alloc (.cells #[.slice none 0 0, .int .i64 0, .int .i64 0, .int .i64 0] 28)).cell? ⟨w.heap.size, 1, none⟩ = some (.int .i64 b) := cell_of_block hP0 1
  have s0' : (((w.alloc (.cells #[.int .i64 a, .int .i64 b, .int .i64 c] 25)).alloc (.cells #[.slice none 0 0, .int .i64 0, .int .i64 0, .int .i64 0] 28)).alloc (.cells #[.slice none 0 0, .int .i64 0, .int .i64 0, .int .i64 0] 28)).cell? ⟨w.heap.size, 1, none⟩ = some (.int .i64 b) := cell_of_block (alloc_block (.cells #[.slice none 0 0, .int .i64 0, .int .i64 0, .int .i64 0] 28) hP0) 1
  have ew : IntKind.i64.wrap (b - 1) = b - 1 := by rw [IntKind.wrap_i64]; omega
  go_enter Try.func41, Try.ntmps41
  go_wp2_with fail
  go_region_held3 (fun w' => w'.cell? ⟨w.heap.size, 1, none⟩ = some (.int .i64 b))
    (first | with_reducible exact sS | with_reducible exact aS | with_reducible exact a1 | with_reducible exact a2 | with_reducible exact a3 | with_reducible exact s1 | with_reducible exact s2 | with_reducible exact s3 | exact s0 | exact s0' | go_keep)
    (first
      | (go_at_call 86; refine (l2Draw_keys hC0).mono ?_; rintro x w2 ⟨v, n, f, rfl, hO, hL, hC2, hg⟩; obtain ⟨va, vc, hv⟩ := hO.row.form; subst hv
         have hO1 := hO.mono (B' := w.heap.size + 2) (Nat.le_of_eq e2.symm)
         have hP1 := g_block (g_trans (g_drew (g_refl ((w.alloc (.cells #[.int .i64 a, .int .i64 b, .int .i64 c] 25)).alloc (.cells #[.slice none 0 0, .int .i64 0, .int .i64 0, .int .i64 0] 28)) (some g))) hg) hP0 (by omega); have hR1 := g_block (g_trans (g_drew (g_refl ((w.alloc (.cells #[.int .i64 a, .int .i64 b, .int .i64 c] 25)).alloc (.cells #[.slice none 0 0, .int .i64 0, .int .i64 0, .int .i64 0] 28)) (some g))) hg) hR0 (by omega); have hg1 := g_trans (g_drew hg0) hg
         have s1 : w2.cell? ⟨w.heap.size, 1, none⟩ = some (.int .i64 b) := cell_of_block hP1 1; have a1 := (World.cell?_alloc_lt w2 (.cells #[.slice none 0 0, .int .i64 0, .int .i64 0, .int .i64 0] 28) ⟨w.heap.size, 1, none⟩ (lt_of_block hP1)).trans s1; have hsz1 : w.heap.size + 2 ≤ w2.heap.size := Nat.le_trans (Nat.le_of_eq e2.symm) hg.size; clear hO hg)
      | (go_at_call 86; refine (l2Draw_keys hC0').mono ?_; rintro x w2 ⟨v, n, f, rfl, hO, hL, hC2, hg⟩; obtain ⟨va, vc, hv⟩ := hO.row.form; subst hv
         have hO1 := hO.mono (B' := w.heap.size + 2) (Nat.le_trans (Nat.le_succ _) (Nat.le_of_eq e3.symm))
         have hXn := hO.notLow (b := w.heap.size + 2) (show w.heap.size + 2 < (((w.alloc (.cells #[.int .i64 a, .int .i64 b, .int .i64 c] 25)).alloc (.cells #[.slice none 0 0, .int .i64 0, .int .i64 0, .int .i64 0] 28)).alloc (.cells #[.slice none 0 0, .int .i64 0, .int .i64 0, .int .i64 0] 28)).heap.size by omega); have hXl : w.heap.size + 2 ≤ w.heap.size + 2 := Nat.le_refl _
         have hP1 := g_block (g_trans (g_drew (g_refl (((w.alloc (.cells #[.int .i64 a, .int .i64 b, .int .i64 c] 25)).alloc (.cells #[.slice none 0 0, .int .i64 0, .int .i64 0, .int .i64 0] 28)).alloc (.cells #[.slice none 0 0, .int .i64 0, .int .i64 0, .int .i64 0] 28)) (some g))) hg) (alloc_block (.cells #[.slice none 0 0, .int .i64 0, .int .i64 0, .int .i64 0] 28) hP0) (by omega); have hR1 := g_block (g_trans (g_drew (g_refl (((w.alloc (.cells #[.int .i64 a, .int .i64 b, .int .i64 c] 25)).alloc (.cells #[.slice none 0 0, .int .i64 0, .int .i64 0, .int .i64 0] 28)).alloc (.cells #[.slice none 0 0, .int .i64 0, .int .i64 0, .int .i64 0] 28)) (some g))) hg) (alloc_block (.cells #[.slice none 0 0, .int .i64 0, .int .i64 0, .int .i64 0] 28) hR0) (by omega); have hg1 := g_trans (g_drew (g_alloc hg0 (.cells #[.slice none 0 0, .int .i64 0, .int .i64 0, .int .i64 0] 28))) hg
         have hX := g_block (g_trans (g_drew (g_refl (((w.alloc (.cells #[.int .i64 a, .int .i64 b, .int .i64 c] 25)).alloc (.cells #[.slice none 0 0, .int .i64 0, .int .i64 0, .int .i64 0] 28)).alloc (.cells #[.slice none 0 0, .int .i64 0, .int .i64 0, .int .i64 0] 28)) (some g))) hg) hX0 (by omega)
         have s1 : w2.cell? ⟨w.heap.size, 1, none⟩ = some (.int .i64 b) := cell_of_block hP1 1; have a1 := (World.cell?_alloc_lt w2 (.cells #[.slice none 0 0, .int .i64 0, .int .i64 0, .int .i64 0] 28) ⟨w.heap.size, 1, none⟩ (lt_of_block hP1)).trans s1; have hsz1 : w.heap.size + 2 ≤ w2.heap.size := Nat.le_trans (Nat.le_trans (Nat.le_succ _) (Nat.le_of_eq e3.symm)) hg.size; clear hO hg)
      | (go_at_call 45; first | (refine (l1From_any (-1) (b - 1) (by omega) (by omega) (by omega) hC2).mono ?_) | (refine (l1From_any (-1) (b - 1) (by omega) (by omega) (by omega) (hC2.alloc (.cells #[.slice none 0 0, .int .i64 0, .int .i64 0, .int .i64 0] 28))).mono ?_)
         rintro x w3 ⟨y, y0, y1, rfl, hC3, hg⟩
         have hP2 : w3.heap[w.heap.size]? = some (.cells #[.int .i64 a, .int .i64 b, .int .i64 c] 25) := by first | exact g_block hg hP1 (by omega) | exact g_block hg (alloc_block (.cells #[.slice none 0 0, .int .i64 0, .int .i64 0, .int .i64 0] 28) hP1) (by omega)
         have hR2 : w3.heap[w.heap.size + 1]? = some (.cells #[.slice none 0 0, .int .i64 0, .int .i64 0, .int .i64 0] 28) := by first | exact g_block hg hR1 (by omega) | exact g_block hg (alloc_block (.cells #[.slice none 0 0, .int .i64 0, .int .i64 0, .int .i64 0] 28) hR1) (by omega)
         have hg2 : w.grownBy w3 (some g) := by first | exact g_trans hg1 hg | exact g_trans (g_alloc hg1 (.cells #[.slice none 0 0, .int .i64 0, .int .i64 0, .int .i64 0] 28)) hg
         have hO2 : OwnRow w3 (w.heap.size + 2) (.slice va n vc) n f := by first | exact hO1.kept hg (fun g' e => by injection e; omega) | exact (hO1.alloc (.cells #[.slice none 0 0, .int .i64 0, .int .i64 0, .int .i64 0] 28)).kept hg (fun g' e => by injection e; omega)
         (first | (have hX := g_block hg hX (by omega)) | skip)
         (first | (have hXn := hO1.notNew (Nat.le_refl w2.heap.size); have hXl : w.heap.size + 2 ≤ w2.heap.size := hsz1; have hX := g_block hg (heap_alloc_new w2 (.cells #[.slice none 0 0, .int .i64 0, .int .i64 0, .int .i64 0] 28)) (by omega)) | skip)
         have s2 : w3.cell? ⟨w.heap.size, 1, none⟩ = some (.int .i64 b) := cell_of_block hP2 1
         have a2 := (World.cell?_alloc_lt w3 (.cells #[.slice none 0 0, .int .i64 0, .int .i64 0, .int .i64 0] 28) ⟨w.heap.size, 1, none⟩ (lt_of_block hP2)).trans s2
         have hsz2 : w.heap.size + 2 ≤ w3.heap.size := by first | exact Nat.le_trans hsz1 hg.size | exact Nat.le_trans (Nat.le_trans hsz1 (by simp)) hg.size
         clear hg hC2)
      | (go_at_call 45; first | (refine (l1From_any (-1) 20 (by omega) (by omega) (by omega) hC3).mono ?_) | (refine (l1From_any (-1) 20 (by omega) (by omega) (by omega) (hC3.alloc (.cells #[.slice none 0 0, .int .i64 0, .int .i64 0, .int .i64 0] 28))).mono ?_)
         rintro x w4 ⟨z, z0, z1, rfl, hC4, hg⟩
         have hP3 : w4.heap[w.heap.size]? = some (.cells #[.int .i64 a, .int .i64 b, .int .i64 c] 25) := by first | exact g_block hg hP2 (by omega) | exact g_block hg (alloc_block (.cells #[.slice none 0 0, .int .i64 0, .int .i64 0, .int .i64 0] 28) hP2) (by omega)
         have hR3 : w4.heap[w.heap.size + 1]? = some (.cells #[.slice none 0 0, .int .i64 0, .int .i64 0, .int .i64 0] 28) := by first | exact g_block hg hR2 (by omega) | exact g_block hg (alloc_block (.cells #[.slice none 0 0, .int .i64 0, .int .i64 0, .int .i64 0] 28) hR2) (by omega)
         have hg3 : w.grownBy w4 (some g) := by first | exact g_trans hg2 hg | exact g_trans (g_alloc hg2 (.cells #[.slice none 0 0, .int .i64 0, .int .i64 0, .int .i64 0] 28)) hg
         have hO3 : OwnRow w4 (w.heap.size + 2) (.slice va n vc) n f := by first | exact hO2.kept hg (fun g' e => by injection e; omega) | exact (hO2.alloc (.cells #[.slice none 0 0, .int .i64 0, .int .i64 0, .int .i64 0] 28)).kept hg (fun g' e => by injection e; omega)
         (first | (have hX := g_block hg hX (by omega)) | skip)
         (first | (have hXn := hO2.notNew (Nat.le_refl w3.heap.size); have hXl : w.heap.size + 2 ≤ w3.heap.size := hsz2; have hX := g_block hg (heap_alloc_new w3 (.cells #[.slice none 0 0, .int .i64 0, .int .i64 0, .int .i64 0] 28)) (by omega)) | skip)
         have s3 : w4.cell? ⟨w.heap.size, 1, none⟩ = some (.int .i64 b) := cell_of_block hP3 1
         have a3 := (World.cell?_alloc_lt w4 (.cells #[.slice none 0 0, .int .i64 0, .int .i64 0, .int .i64 0] 28) ⟨w.heap.size, 1, none⟩ (lt_of_block hP3)).trans s3
         have hsz3 : w.heap.size + 2 ≤ w4.heap.size := by first | exact Nat.le_trans hsz2 hg.size | exact Nat.le_trans (Nat.le_trans hsz2 (by simp)) hg.size
         have aS := (World.cell?_alloc_lt w4 (.cells #[.slice va n vc, .int .i64 y, .int .i64 z, .int .i64 0] 28) ⟨w.heap.size, 1, none⟩ (lt_of_block hP3)).trans s3
         (first | (have hXz := hX; have sS := far4 hXz s3 (by omega) (.slice va n vc) (.int .i64 y) (.int .i64 z) (.int .i64 0)) | skip)
         (first | (have hXf := four hX; obtain ⟨xx0, xx1, xx2, xx3, xf0, xf1, xf2, xf3⟩ := hXf) | skip)
         clear hg hC3))
  all_goals
    clear s0 s0' s1 s2 a1 a2 hX0 hC0 hC0' hP0 hR0 hP1 hR1 hP2 hR2
    first
      | (have hX6 := pack4 hX (.slice va n vc) (.int .i64 y) (.int .i64 z) (.int .i64 0)
         have hR6 := (far4b hX (.slice va n vc) (.int .i64 y) (.int .i64 z) (.int .i64 0) (p := w.heap.size + 1) (by omega)).trans hR3
         have hO6 := (((hO3.setNe hXn 0 (.slice va n vc)).setNe hXn 1 (.int .i64 y)).setNe hXn 2 (.int .i64 z)).setNe hXn 3 (.int .i64 0)
         have hg6 := g_set4 hg3 (Nat.le_trans (Nat.le_add_right _ 2) hXl) (.slice va n vc) (.int .i64 y) (.int .i64 z) (.int .i64 0)
         have hC6 := cur_set4 hC4 (Nat.le_trans hBb (Nat.le_trans (Nat.le_of_lt hlt) (Nat.le_trans (Nat.le_add_right _ 2) hXl))) (Nat.ne_of_gt (Nat.lt_of_lt_of_le hlt (Nat.le_trans (Nat.le_add_right _ 2) hXl))) (.slice va n vc) (.int .i64 y) (.int .i64 z) (.int .i64 0)
         have hXg := Nat.lt_of_lt_of_le hlt (Nat.le_trans (Nat.le_add_right _ 2) hXl)
         have hXr := hXl
         have hXN := hXn)
      | (have hX6 := heap_alloc_new w4 (.cells #[.slice va n vc, .int .i64 y, .int .i64 z, .int .i64 0] 28)
         have hR6 := alloc_block (.cells #[.slice va n vc, .int .i64 y, .int .i64 z, .int .i64 0] 28) hR3
         have hO6 := hO3.alloc (.cells #[.slice va n vc, .int .i64 y, .int .i64 z, .int .i64 0] 28)
         have hg6 := g_alloc hg3 (.cells #[.slice va n vc, .int .i64 y, .int .i64 z, .int .i64 0] 28)
         have hC6 := hC4.alloc (.cells #[.slice va n vc, .int .i64 y, .int .i64 z, .int .i64 0] 28)
         have hXg : g < w4.heap.size := by omega
         have hXr := hsz3
         have hXN := hO3.notNew (Nat.le_refl w4.heap.size))
    clear s3 a3 aS hP3 hR3 hO3 hg3 hC4
    obtain ⟨q0, q1, q2, q3, qf0, qf1, qf2, qf3⟩ := four hX6
    have hn30 := hL.1.2
    have hnw : IntKind.i64.wrap ((n : Int) + 1) = (n : Int) + 1 := by rw [IntKind.wrap_i64]; omega
    go_wp2_with fail
    go_at_call 43; refine (l1Below_any ((n : Int) + 1) (by omega) (by omega) hC6).mono ?_; rintro x w7 ⟨dd, d0, d1, rfl, hC7, hg⟩
    clear q0 q1 q2 q3 qf0 qf1 qf2 qf3
    have hX7 := g_block hg hX6 (Nat.ne_of_gt hXg)
    have hR7 := g_block hg hR6 (by omega)
    have hO7 := hO6.kept hg (fun g' e => by injection e; omega)
    have hg7 := g_trans hg6 hg
    clear hX6 hR6 hO6 hg6 hC6 hg
    obtain ⟨t0, t1, t2, t3, tf0, tf1, tf2, tf3⟩ := four hX7
    obtain ⟨r0, r1, r2, r3, rf0, rf1, rf2, rf3⟩ := four hR7
    have hXB := Nat.le_trans (Nat.le_add_right w.heap.size 2) hXr
    have hO8 := ((((((hO7.setNe hXN 3 (.int .i64 dd)).set (b := w.heap.size + 1) (by omega) 0 (.slice va n vc)).set (b := w.heap.size + 1) (by omega) 1 (.int .i64 y)).set (b := w.heap.size + 1) (by omega) 2 (.int .i64 z)).set (b := w.heap.size + 1) (by omega) 3 (.int .i64 dd))).mono (show w.heap.size ≤ w.heap.size + 2 by omega)
    have hg8 := g_new (g_new (g_new (g_new (g_new hg7 hXB 3 (.int .i64 dd)) (b := w.heap.size + 1) (by omega) 0 (.slice va n vc)) (b := w.heap.size + 1) (by omega) 1 (.int .i64 y)) (b := w.heap.size + 1) (by omega) 2 (.int .i64 z)) (b := w.heap.size + 1) (by omega) 3 (.int .i64 dd)
    have hC8 := ((((hC7.set (Nat.le_trans hBb (Nat.le_of_lt hXg)) (Nat.ne_of_gt hXg) 3 (.int .i64 dd)).set (b := w.heap.size + 1) (by omega) (by omega) 0 (.slice va n vc)).set (b := w.heap.size + 1) (by omega) (by omega) 1 (.int .i64 y)).set (b := w.heap.size + 1) (by omega) (by omega) 2 (.int .i64 z)).set (b := w.heap.size + 1) (by omega) (by omega) 3 (.int .i64 dd)
    clear hX7 hR7 hO7 hg7 hC7
    go_wp2
    exact bodyPost_ret (v := prV (.slice va n vc) y z dd) (by simp [results, Try.results41, go_sem, r0, r1, r2, r3]) rfl ⟨_, n, f, y, z, dd, rfl, hO8, hL, hC8, hg8⟩

end Go.Proofs.Ytnmaljieaflnmaa
