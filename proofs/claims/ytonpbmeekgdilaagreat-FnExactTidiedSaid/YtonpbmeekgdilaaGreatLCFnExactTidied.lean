/-
  'laws.FnExactTidied': for every plan, memory and processor the law returns true and the arguments read as before. No condition.
-/
import Derived.Test.YtonpbmeekgdilaaGreatL24
namespace Go.Proofs.YtonpbmeekgdilaaGreat
theorem fnExactTidied_holds : Rows.FnExactTidiedSaid := exactTidied_holds spTidied_any imTidied_any
end Go.Proofs.YtonpbmeekgdilaaGreat
