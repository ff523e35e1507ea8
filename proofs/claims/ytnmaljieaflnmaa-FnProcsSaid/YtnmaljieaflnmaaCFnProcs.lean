/-
  At every drawing script the law FnProcs answers true: a processor is to wake by its first slot and by what is earlier. No condition.
-/
import Derived.Test.YtnmaljieaflnmaaProcFnRow
import Derived.Test.YtnmaljieaflnmaaProcImpl2
import Derived.Test.YtnmaljieaflnmaaProcImpl3
namespace Go.Proofs.Ytnmaljieaflnmaa

theorem fnProcs_stands : Rows.FnProcsSaid := procs_holds imProcOk_any imWakeOf_any
end Go.Proofs.Ytnmaljieaflnmaa
