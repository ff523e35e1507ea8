/-
  'laws.FnExactArmed': for every plan, memory, timer and processor the law returns true and the arguments read as before. No condition.
-/
import Derived.Test.YtonpbmeekgdilaaGreatL16
import Derived.Test.YtonpbmeekgdilaaGreatL18
namespace Go.Proofs.YtonpbmeekgdilaaGreat
theorem fnExactArmed_holds : Rows.FnExactArmedSaid := exactArmed_holds spArmed_any imArmed_any
end Go.Proofs.YtonpbmeekgdilaaGreat
