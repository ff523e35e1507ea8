/-
  The least and the greatest of two.
-/
import Derived.Test.YthhpnepcfpapcaaFrame
namespace Go.Proofs.Ythhpnepcfpapcaa
open Go.RowKit
set_option linter.unusedVariables false

def minI (a b : Int) : Int := if a < b then a else b
def maxI (a b : Int) : Int := if b < a then a else b
end Go.Proofs.Ythhpnepcfpapcaa
