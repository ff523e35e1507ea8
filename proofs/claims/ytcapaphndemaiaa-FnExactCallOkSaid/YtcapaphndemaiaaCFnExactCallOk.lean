/-
  'laws.FnExactCallOk': for all arguments the law returns true and the arguments read as before. No condition.
-/
import Derived.Test.YtcapaphndemaiaaCallDone
import Derived.Test.YtcapaphndemaiaaCallLaw
namespace Go.Proofs.Ytcapaphndemaiaa
theorem fnExactCallOk_proved : Rows.FnExactCallOkSaid := exCallOk_holds imCallOk_any
end Go.Proofs.Ytcapaphndemaiaa
