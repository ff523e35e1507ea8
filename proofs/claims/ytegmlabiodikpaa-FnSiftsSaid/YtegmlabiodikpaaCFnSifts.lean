/-
  At every drawing script the law FnSifts answers true: of a heap one of whose slots is lighter or heavier, one way or the other makes a heap again, and what is there stays there. No condition.
-/
import Derived.Test.YtegmlabiodikpaaHeapSiftsRow
import Derived.Test.YtegmlabiodikpaaHeapImpl
import Derived.Test.YtegmlabiodikpaaHeapImpl2
import Derived.Test.YtegmlabiodikpaaHeapImpl5
namespace Go.Proofs.Ytegmlabiodikpaa
open Go.RowKit

theorem fnSifts_stands : Rows.FnSiftsSaid := sifts_holds iRaised_holds iSunk_holds iPushed_holds iPulled_holds iHeapOk_holds iFindSlot_holds

end Go.Proofs.Ytegmlabiodikpaa
