/-
  At every drawing script the law FnHeap answers true: what is pushed on a heap, and taken off its top again and again, comes in order, each once. No condition.
-/
import Derived.Test.YtegmlabiodikpaaHeapFnRow
import Derived.Test.YtegmlabiodikpaaHeapImpl
import Derived.Test.YtegmlabiodikpaaHeapImpl2
import Derived.Test.YtegmlabiodikpaaHeapImpl5
namespace Go.Proofs.Ytegmlabiodikpaa
open Go.RowKit

theorem fnHeap_stands : Rows.FnHeapSaid := heap_holds iPushed_holds iPulled_holds iHeapOk_holds iFindSlot_holds

end Go.Proofs.Ytegmlabiodikpaa
