/-
  At every list of slots and every slot the law FnExactPushedOn answers true: PushedOn answers as its model, its answer owns its memory, and it writes into no argument. No condition.
-/
import Derived.Test.YtegmlabiodikpaaHeapHolds2
import Derived.Test.YtegmlabiodikpaaHeapImpl3
namespace Go.Proofs.Ytegmlabiodikpaa
open Go.RowKit

theorem fnExactPushedOn_stands : Rows.FnExactPushedOnSaid := exPushed_holds iPushed_holds

end Go.Proofs.Ytegmlabiodikpaa
