/-
  'laws.FnExactWakeOf': for every processor the law returns true and the argument reads as before. No condition.
-/
import Derived.Test.YtjbodmgnecagmaaProcRow
import Derived.Test.YtjbodmgnecagmaaProcImpl3
namespace Go.Proofs.Ytjbodmgnecagmaa

theorem exWakeOf_stands : Rows.FnExactWakeOfSaid := exWakeOf_holds imWakeOf_any
end Go.Proofs.Ytjbodmgnecagmaa
