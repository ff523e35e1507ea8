/-
  errors.As at what the program hands it (chapter 10).
-/
import Derived.Test.YtflekodaiejflaaGreatDoorR12
import Derived.Test.YtflekodaiejflaaGreatDoorR09
namespace Go.Proofs.YtflekodaiejflaaGreatDoor
open Go.RowKit Go.Joins Go.Extern.Stop Go.Stop Go.Extern
set_option linter.unusedVariables false
set_option linter.unusedSimpArgs false

/-! ### errors.As: the model's entries, at this program's types -/
end Go.Proofs.YtflekodaiejflaaGreatDoor
