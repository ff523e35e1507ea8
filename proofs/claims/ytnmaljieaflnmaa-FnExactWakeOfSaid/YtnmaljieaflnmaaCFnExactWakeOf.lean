/-
  'laws.FnExactWakeOf': for every processor the law returns true and the argument reads as before. No condition.
-/
import Derived.Test.YtnmaljieaflnmaaProcRow
import Derived.Test.YtnmaljieaflnmaaProcImpl3
namespace Go.Proofs.Ytnmaljieaflnmaa

theorem exWakeOf_stands : Rows.FnExactWakeOfSaid := exWakeOf_holds imWakeOf_any
end Go.Proofs.Ytnmaljieaflnmaa
