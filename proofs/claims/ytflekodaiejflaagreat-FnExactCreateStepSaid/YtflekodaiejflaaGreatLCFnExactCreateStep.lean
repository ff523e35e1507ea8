/-
  'laws.FnExactCreateStep': for all arguments the law returns true and the arguments read as before. No condition.
-/
import Derived.Test.YtflekodaiejflaaGreatL20
import Derived.Test.YtflekodaiejflaaGreatL19
import Derived.Test.YtflekodaiejflaaGreatL18
namespace Go.Proofs.YtflekodaiejflaaGreat
theorem fnExactCreateStep_proved : Rows.FnExactCreateStepSaid :=
  exactCreateStep_holds (g := createG) (gq := createQ) (fun a b c d M h _ => createG_size a b c d M h) (fun a b c d h tv pv M w hs hm => spCreateStep_any a b c d h tv pv M w hs hm) imCreateStep_any

end Go.Proofs.YtflekodaiejflaaGreat
