/-
  The tied card of 'laws.FnExactPasses': for every pair of numbers the law returns true; what the program's table holds is tied to its text.
-/
import Derived.Test.YthhpnepcfpapcaaDoorPassExact
namespace Go.Proofs.YthhpnepcfpapcaaDoor

theorem exPasses_stands : Rows.FnExactPassesCardSaid := exPasses_card imPasses_any
end Go.Proofs.YthhpnepcfpapcaaDoor
