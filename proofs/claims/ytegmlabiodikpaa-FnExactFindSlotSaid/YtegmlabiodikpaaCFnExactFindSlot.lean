/-
  At every list of slots and every Id the law FnExactFindSlot answers true: FindSlot answers as its model, and writes into no argument. No condition.
-/
import Derived.Test.YtegmlabiodikpaaHeapHolds
import Derived.Test.YtegmlabiodikpaaHeapImpl2
namespace Go.Proofs.Ytegmlabiodikpaa
open Go.RowKit

theorem fnExactFindSlot_stands : Rows.FnExactFindSlotSaid := exFindSlot_holds iFindSlot_holds

end Go.Proofs.Ytegmlabiodikpaa
