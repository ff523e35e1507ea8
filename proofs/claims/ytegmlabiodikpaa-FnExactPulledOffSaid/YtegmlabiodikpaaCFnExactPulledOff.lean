/-
  At every list of slots and every index the law FnExactPulledOff answers true: PulledOff answers as its model, its answer owns its memory, and it writes into no argument. No condition.
-/
import Derived.Test.YtegmlabiodikpaaHeapHolds
import Derived.Test.YtegmlabiodikpaaHeapImpl5
namespace Go.Proofs.Ytegmlabiodikpaa
open Go.RowKit

theorem fnExactPulledOff_stands : Rows.FnExactPulledOffSaid := exPulled_holds iPulled_holds

end Go.Proofs.Ytegmlabiodikpaa
