/-
  A plan of a law's own (laws).
-/
import Derived.Test.YthhpnepcfpapcaaDoorIn
namespace Go.Proofs.YthhpnepcfpapcaaDoor
open Go.RowKit
set_option linter.unusedVariables false

end Go.Proofs.YthhpnepcfpapcaaDoor
