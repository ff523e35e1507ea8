/-
  At every list of slots and every index the law FnExactRaisedFrom answers true: RaisedFrom answers as its model, its answer owns its memory, and it writes into no argument. No condition.
-/
import Derived.Test.YtegmlabiodikpaaHeapHolds
import Derived.Test.YtegmlabiodikpaaHeapImpl
namespace Go.Proofs.Ytegmlabiodikpaa
open Go.RowKit

theorem fnExactRaisedFrom_stands : Rows.FnExactRaisedFromSaid := exRaised_holds iRaised_holds

end Go.Proofs.Ytegmlabiodikpaa
