/-
  'laws.FnExactStopStep': for all arguments the law returns true, the arguments read as before and the program's three errors too. No condition but that the three errors and errors.errorType lie as the program's text lays them (the card ties that).
-/
import Derived.Test.YtflekodaiejflaaGreatDoorL17
import Derived.Test.YtflekodaiejflaaGreatDoorL19
import Derived.Test.YtflekodaiejflaaGreatDoorL16
namespace Go.Proofs.YtflekodaiejflaaGreatDoor
theorem fnExactStopStep_proved : Rows.FnExactStopStepCardSaid :=
  exactStopStep_card (g := stopG) (gq := stopQ) (fun a b c d M h _ => stopG_size a b c d M h) (fun a b c d h tv pv M w hs hm => spStopStep_any a b c d h tv pv M w hs hm) imStopStep_any

end Go.Proofs.YtflekodaiejflaaGreatDoor
