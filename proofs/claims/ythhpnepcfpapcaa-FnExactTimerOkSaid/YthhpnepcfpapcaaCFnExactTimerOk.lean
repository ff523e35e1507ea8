/-
  'laws.FnExactTimerOk': for every plan and every timer the law returns true and the arguments read as before. No condition.
-/
import Derived.Test.YthhpnepcfpapcaaTimerImpl2
namespace Go.Proofs.Ythhpnepcfpapcaa

theorem exTimerOk_stands : Rows.FnExactTimerOkSaid := exTimerOk_holds imTimerOk_any
end Go.Proofs.Ythhpnepcfpapcaa
