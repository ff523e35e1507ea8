/-
  The tied card of 'laws.FnTimers': at every drawing script the law returns true: what the program says of timers, places and passages is what the model says, and sixteen passages in all. No condition; what the program's table holds is tied to its text.
-/
import Derived.Test.YthhpnepcfpapcaaDoorTimerFnRow
import Derived.Test.YthhpnepcfpapcaaDoorTimerImpl2
namespace Go.Proofs.YthhpnepcfpapcaaDoor

theorem fnTimers_stands : Rows.FnTimersCardSaid := timers_card imTimerOk_any imInHeap_any imPasses_any
end Go.Proofs.YthhpnepcfpapcaaDoor
