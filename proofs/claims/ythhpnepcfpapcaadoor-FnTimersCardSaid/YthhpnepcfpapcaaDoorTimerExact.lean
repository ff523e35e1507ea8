/-
  The exact laws on timers, told what the program's own functions answer.
-/
import Derived.Test.YthhpnepcfpapcaaDoorTimerOk
import Derived.Test.YthhpnepcfpapcaaDoorToPlan
import Derived.Test.YthhpnepcfpapcaaDoorFlat
import Derived.Test.YthhpnepcfpapcaaDoorFrame
namespace Go.Proofs.YthhpnepcfpapcaaDoor
open Go.ChangeShapes Go.WideShapes Go.ChangeAt Go.RowKit Go.Joins
set_option linter.unusedVariables false

/-- what the program's TimerOk, InHeap are to answer -/
def AsksT (fn : FuncId) : Prop := ∀ (a b c : Int) (t : Tm) (w : World), Calls Tryd.prog fn #[.agg #[.int .i64 a, .int .i64 b, .int .i64 c], tmV t] w fun e w' => e = .returned (.bool (timerB a b c t)) ∧ Below w.heap.size w w'
def AsksS (fn : FuncId) : Prop := ∀ (s : Int) (w : World), Calls Tryd.prog fn #[.int .i64 s] w fun e w' => e = .returned (.bool (inHeapB s)) ∧ Below w.heap.size w w'

theorem spTimerOk_any (a b c : Int) (t : Tm) (w : World) :
    Calls Tryd.prog 10 #[.agg #[.int .i64 a, .int .i64 b, .int .i64 c], tmV t] w fun e w' => e = .returned (.bool (timerB a b c t)) ∧ Below w.heap.size w w' :=
  spTimerOk_eight a b c t.st t.wh t.nx t.pe t.pl t.ge t.ki t.ma w

abbrev tmL (t : Tm) : List Int := [t.st, t.wh, t.nx, t.pe, t.pl, t.ge, t.ki, t.ma]
/-! ### FnExactTimerOk -/
/-! ### FnExactInHeap -/
end Go.Proofs.YthhpnepcfpapcaaDoor
