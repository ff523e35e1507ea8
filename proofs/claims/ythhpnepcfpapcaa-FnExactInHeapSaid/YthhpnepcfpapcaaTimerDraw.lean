/-
  The draws of the chapter on timers.
-/
import Derived.Test.YthhpnepcfpapcaaNum
import Derived.Test.YthhpnepcfpapcaaTimerSpec
namespace Go.Proofs.Ythhpnepcfpapcaa
open Go.RowKit Go.Joins
set_option linter.unusedVariables false

abbrev tmO (t : Tm) (ty : TypeId) : Obj := .cells #[.int .i64 t.st, .int .i64 t.wh, .int .i64 t.nx, .int .i64 t.pe, .int .i64 t.pl, .int .i64 t.ge, .int .i64 t.ki, .int .i64 t.ma] ty
/-- a timer's eight cells -/
theorem eight_cells {w : World} {b : Nat} {t : Tm} {ty : TypeId} (h : w.heap[b]? = some (.cells #[.int .i64 t.st, .int .i64 t.wh, .int .i64 t.nx, .int .i64 t.pe, .int .i64 t.pl, .int .i64 t.ge, .int .i64 t.ki, .int .i64 t.ma] ty (0, 0))) :
    w.cell? ⟨b, 0, none⟩ = some (.int .i64 t.st) ∧ w.cell? ⟨b, 1, none⟩ = some (.int .i64 t.wh) ∧ w.cell? ⟨b, 2, none⟩ = some (.int .i64 t.nx) ∧ w.cell? ⟨b, 3, none⟩ = some (.int .i64 t.pe) ∧ w.cell? ⟨b, 4, none⟩ = some (.int .i64 t.pl) ∧ w.cell? ⟨b, 5, none⟩ = some (.int .i64 t.ge) ∧ w.cell? ⟨b, 6, none⟩ = some (.int .i64 t.ki) ∧ w.cell? ⟨b, 7, none⟩ = some (.int .i64 t.ma) :=
  ⟨cell_of_block h 0, cell_of_block h 1, cell_of_block h 2, cell_of_block h 3, cell_of_block h 4, cell_of_block h 5, cell_of_block h 6, cell_of_block h 7⟩
theorem eight_free {w : World} {b : Nat} {cs : Array Value} {ty : TypeId} (h : w.heap[b]? = some (.cells cs ty (0, 0))) :
    w.frozen? ⟨b, 0, none⟩ = false ∧ w.frozen? ⟨b, 1, none⟩ = false ∧ w.frozen? ⟨b, 2, none⟩ = false ∧ w.frozen? ⟨b, 3, none⟩ = false ∧ w.frozen? ⟨b, 4, none⟩ = false ∧ w.frozen? ⟨b, 5, none⟩ = false ∧ w.frozen? ⟨b, 6, none⟩ = false ∧ w.frozen? ⟨b, 7, none⟩ = false :=
  ⟨unfrozen_of_block h 0, unfrozen_of_block h 1, unfrozen_of_block h 2, unfrozen_of_block h 3, unfrozen_of_block h 4, unfrozen_of_block h 5, unfrozen_of_block h 6, unfrozen_of_block h 7⟩
abbrev set8 (w : World) (b : Nat) (t : Tm) : World := ((((((((w.setCell ⟨b, 0, none⟩ (.int .i64 t.st)).setCell ⟨b, 1, none⟩ (.int .i64 t.wh)).setCell ⟨b, 2, none⟩ (.int .i64 t.nx)).setCell ⟨b, 3, none⟩ (.int .i64 t.pe)).setCell ⟨b, 4, none⟩ (.int .i64 t.pl)).setCell ⟨b, 5, none⟩ (.int .i64 t.ge)).setCell ⟨b, 6, none⟩ (.int .i64 t.ki)).setCell ⟨b, 7, none⟩ (.int .i64 t.ma))
theorem g_new8 {a w : World} {g b : Nat} (h : a.grownBy w (some g)) (hb : a.heap.size ≤ b) (t : Tm) : a.grownBy (set8 w b t) (some g) :=
  g_new (g_new (g_new (g_new (g_new (g_new (g_new (g_new h hb _ _) hb _ _) hb _ _) hb _ _) hb _ _) hb _ _) hb _ _) hb _ _

end Go.Proofs.Ythhpnepcfpapcaa
