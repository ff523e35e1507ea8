/-
  'laws.FnExactNewHand': for all arguments the law returns true and the arguments read as before. No condition.
-/
import Derived.Test.YtmealgiknkmibaaHandExact
import Derived.Test.YtmealgiknkmibaaHandImpl
namespace Go.Proofs.Ytmealgiknkmibaa

theorem exNewHand_stands : Rows.FnExactNewHandSaid := exNewHand_holds imNewHand_any
end Go.Proofs.Ytmealgiknkmibaa
