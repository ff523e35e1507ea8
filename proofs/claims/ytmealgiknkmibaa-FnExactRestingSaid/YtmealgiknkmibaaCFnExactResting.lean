/-
  'laws.FnExactResting': for all arguments the law returns true and the arguments read as before. No condition.
-/
import Derived.Test.YtmealgiknkmibaaHandExact
import Derived.Test.YtmealgiknkmibaaHandImpl
namespace Go.Proofs.Ytmealgiknkmibaa

theorem exResting_stands : Rows.FnExactRestingSaid := exResting_holds imResting_any
end Go.Proofs.Ytmealgiknkmibaa
