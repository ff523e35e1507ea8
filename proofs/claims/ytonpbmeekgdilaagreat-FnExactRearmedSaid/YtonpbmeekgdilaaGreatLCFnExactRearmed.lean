/-
  'laws.FnExactRearmed': for every plan, memory and timer the law returns true and the arguments read as before. No condition.
-/
import Derived.Test.YtonpbmeekgdilaaGreatL20
import Derived.Test.YtonpbmeekgdilaaGreatL22
namespace Go.Proofs.YtonpbmeekgdilaaGreat
theorem fnExactRearmed_holds : Rows.FnExactRearmedSaid := exactRearmed_holds spRearmed_any imRearmed_any
end Go.Proofs.YtonpbmeekgdilaaGreat
