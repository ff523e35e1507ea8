/-
  'laws.FnExactArmed': for every plan, memory, timer and processor the law returns true and the arguments read as before. No condition.
-/
import Derived.Test.YtpgfffmojcaocaaGreatL08
import Derived.Test.YtpgfffmojcaocaaGreatL10
namespace Go.Proofs.YtpgfffmojcaocaaGreat
theorem fnExactArmed_holds : Rows.FnExactArmedSaid := exactArmed_holds spArmed_any imArmed_any
end Go.Proofs.YtpgfffmojcaocaaGreat
