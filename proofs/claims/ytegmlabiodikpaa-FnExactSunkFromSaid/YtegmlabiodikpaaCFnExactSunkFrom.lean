/-
  At every list of slots and every index the law FnExactSunkFrom answers true: SunkFrom answers as its model, its answer owns its memory, and it writes into no argument. No condition.
-/
import Derived.Test.YtegmlabiodikpaaHeapHolds
import Derived.Test.YtegmlabiodikpaaHeapImpl
namespace Go.Proofs.Ytegmlabiodikpaa
open Go.RowKit

theorem fnExactSunkFrom_stands : Rows.FnExactSunkFromSaid := exSunk_holds iSunk_holds

end Go.Proofs.Ytegmlabiodikpaa
