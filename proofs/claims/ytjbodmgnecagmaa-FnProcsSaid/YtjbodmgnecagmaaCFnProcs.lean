/-
  At every drawing script the law FnProcs answers true: a processor is to wake by its first slot and by what is earlier. No condition.
-/
import Derived.Test.YtjbodmgnecagmaaProcFnRow
import Derived.Test.YtjbodmgnecagmaaProcImpl2
import Derived.Test.YtjbodmgnecagmaaProcImpl3
namespace Go.Proofs.Ytjbodmgnecagmaa

theorem fnProcs_stands : Rows.FnProcsSaid := procs_holds imProcOk_any imWakeOf_any
end Go.Proofs.Ytjbodmgnecagmaa
