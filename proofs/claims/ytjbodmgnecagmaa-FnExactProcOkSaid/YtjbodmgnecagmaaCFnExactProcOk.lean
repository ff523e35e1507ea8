/-
  'laws.FnExactProcOk': for every plan and every processor the law returns true and the arguments read as before. No condition.
-/
import Derived.Test.YtjbodmgnecagmaaProcRow
import Derived.Test.YtjbodmgnecagmaaProcImpl2
namespace Go.Proofs.Ytjbodmgnecagmaa

theorem exProcOk_stands : Rows.FnExactProcOkSaid := exProcOk_holds imProcOk_any
end Go.Proofs.Ytjbodmgnecagmaa
