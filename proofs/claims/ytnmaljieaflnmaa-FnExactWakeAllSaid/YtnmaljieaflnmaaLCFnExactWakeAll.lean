/-
  'laws.FnExactWakeAll': for every plan and every memory the law returns true and the arguments read as before. No condition.
-/
import Derived.Test.YtnmaljieaflnmaaL06
import Derived.Test.YtnmaljieaflnmaaL16
namespace Go.Proofs.Ytnmaljieaflnmaa

theorem exWakeAll_stands : Rows.FnExactWakeAllSaid := exactWakeAll_holds imWakeAll_any
end Go.Proofs.Ytnmaljieaflnmaa
