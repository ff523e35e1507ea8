/-
  'laws.FnExactRearmed': for every plan, memory and timer the law returns true and the arguments read as before. No condition.
-/
import Derived.Test.YtpgfffmojcaocaaGreatL12
import Derived.Test.YtpgfffmojcaocaaGreatL14
namespace Go.Proofs.YtpgfffmojcaocaaGreat
theorem fnExactRearmed_holds : Rows.FnExactRearmedSaid := exactRearmed_holds spRearmed_any imRearmed_any
end Go.Proofs.YtpgfffmojcaocaaGreat
