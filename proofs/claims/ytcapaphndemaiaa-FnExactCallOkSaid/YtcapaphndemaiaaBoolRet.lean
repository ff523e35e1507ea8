/-
  A flag that is answered is the one told.
-/
import Derived.Test.YtcapaphndemaiaaIn
namespace Go.Proofs.Ytcapaphndemaiaa
open Go.RowKit Go.Joins
set_option linter.unusedVariables false

theorem ret_bool' {a b : Bool} (h : a = b) : Ending.returned (.bool a) = .returned (.bool b) := by rw [h]

end Go.Proofs.Ytcapaphndemaiaa
