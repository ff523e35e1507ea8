/-
  The draws: odd numbers, and plans.
-/
import Derived.Test.YthhpnepcfpapcaaCur
import Derived.Test.YthhpnepcfpapcaaMin
namespace Go.Proofs.Ythhpnepcfpapcaa
open Go.RowKit Go.Joins
set_option linter.unusedVariables false

end Go.Proofs.Ythhpnepcfpapcaa
