/-
  'laws.FnExactRungAt': for every plan, memory and processor the law returns true and the arguments read as before. No condition.
-/
import Derived.Test.YtpgfffmojcaocaaL05
namespace Go.Proofs.Ytpgfffmojcaocaa
theorem fnExactRungAt_holds : Rows.FnExactRungAtSaid := exactRungAt_holds spRungAt_any imRungAt_any
end Go.Proofs.Ytpgfffmojcaocaa
