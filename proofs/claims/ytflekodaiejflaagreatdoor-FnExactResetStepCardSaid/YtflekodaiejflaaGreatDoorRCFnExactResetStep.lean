/-
  'laws.FnExactResetStep': for all arguments the law returns true, the arguments read as before and the program's three errors too. No condition but that the three errors lie as the program's text lays them (the card ties that).
-/
import Derived.Test.YtflekodaiejflaaGreatDoorR19
import Derived.Test.YtflekodaiejflaaGreatDoorR22
namespace Go.Proofs.YtflekodaiejflaaGreatDoor
theorem fnExactResetStep_proved : Rows.FnExactResetStepCardSaid :=
  exactResetStep_card (g := resetG) (gq := resetQ) (fun a b c d M h _ => resetG_size a b c d M h) (fun a b c d h tv pv M w hs hm => spResetStep_any a b c d h tv pv M w hs hm) imResetStep_any

end Go.Proofs.YtflekodaiejflaaGreatDoor
