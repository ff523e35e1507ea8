/-
  'laws.FnExactStopStep': for all arguments the law returns true, the arguments read as before and the program's three errors too. No condition but that the three errors and errors.errorType lie as the program's text lays them (the card ties that).
-/
import Derived.Test.YtngbcpmhejeheaaGreatDoorL14
import Derived.Test.YtngbcpmhejeheaaGreatDoorL16
import Derived.Test.YtngbcpmhejeheaaGreatDoorL13
namespace Go.Proofs.YtngbcpmhejeheaaGreatDoor
theorem fnExactStopStep_proved : Rows.FnExactStopStepCardSaid :=
  exactStopStep_card (g := stopG) (gq := stopQ) (fun a b c d M h _ => stopG_size a b c d M h) (fun a b c d h tv pv M w hs hm => spStopStep_any a b c d h tv pv M w hs hm) imStopStep_any

end Go.Proofs.YtngbcpmhejeheaaGreatDoor
