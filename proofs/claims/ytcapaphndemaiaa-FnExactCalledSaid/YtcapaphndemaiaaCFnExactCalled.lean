/-
  'laws.FnExactCalled': for all arguments the law returns true and the arguments read as before. No condition.
-/
import Derived.Test.YtcapaphndemaiaaCallDone
import Derived.Test.YtcapaphndemaiaaCallLaw
namespace Go.Proofs.Ytcapaphndemaiaa
theorem fnExactCalled_proved : Rows.FnExactCalledSaid := exCalled_holds imCalled_any
end Go.Proofs.Ytcapaphndemaiaa
