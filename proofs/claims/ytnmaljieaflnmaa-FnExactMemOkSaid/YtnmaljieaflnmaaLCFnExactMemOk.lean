/-
  'laws.FnExactMemOk': for every plan and every memory the law returns true and the arguments read as before. No condition.
-/
import Derived.Test.YtnmaljieaflnmaaL06
import Derived.Test.YtnmaljieaflnmaaL11
namespace Go.Proofs.Ytnmaljieaflnmaa

theorem exMemOk_stands : Rows.FnExactMemOkSaid := exactMemOk_holds imMemOk_any
end Go.Proofs.Ytnmaljieaflnmaa
