/-
  'laws.FnExactHandOk': for all arguments the law returns true and the arguments read as before. No condition.
-/
import Derived.Test.YtmealgiknkmibaaHandExact
import Derived.Test.YtmealgiknkmibaaHandImpl
namespace Go.Proofs.Ytmealgiknkmibaa

theorem exHandOk_stands : Rows.FnExactHandOkSaid := exHandOk_holds imHandOk_any
end Go.Proofs.Ytmealgiknkmibaa
