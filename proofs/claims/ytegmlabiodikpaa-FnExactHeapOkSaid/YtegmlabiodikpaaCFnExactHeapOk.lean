/-
  At every list of slots (longer than 1048576, or of any kind that Go can hold) the law FnExactHeapOk answers true: HeapOk answers as its model, and writes into no argument. No condition.
-/
import Derived.Test.YtegmlabiodikpaaHeapHolds
import Derived.Test.YtegmlabiodikpaaHeapImpl
namespace Go.Proofs.Ytegmlabiodikpaa
open Go.RowKit

theorem fnExactHeapOk_stands : Rows.FnExactHeapOkSaid := exHeapOk_holds iHeapOk_holds

end Go.Proofs.Ytegmlabiodikpaa
