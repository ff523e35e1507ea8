/-
  A flag that is answered is the one told.
-/
import Derived.Test.YtmealgiknkmibaaIn
namespace Go.Proofs.Ytmealgiknkmibaa
open Go.RowKit
set_option linter.unusedVariables false

theorem ret_bool' {a b : Bool} (h : a = b) : Ending.returned (.bool a) = .returned (.bool b) := by rw [h]

end Go.Proofs.Ytmealgiknkmibaa
