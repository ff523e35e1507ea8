/-
  'laws.FnExactDueIn': for every plan and every memory the law returns true and the arguments read as before. No condition.
-/
import Derived.Test.YtnmaljieaflnmaaL16
namespace Go.Proofs.Ytnmaljieaflnmaa

theorem exDueIn_stands : Rows.FnExactDueInSaid := exactDueIn_holds imDueIn_any
end Go.Proofs.Ytnmaljieaflnmaa
