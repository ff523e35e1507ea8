/-
  'laws.FnExactElapsed': for every plan, memory and delay the law returns true and the arguments read as before. No condition.
-/
import Derived.Test.YtnmaljieaflnmaaL15
namespace Go.Proofs.Ytnmaljieaflnmaa

theorem exElapsed_stands : Rows.FnExactElapsedSaid := exactElapsed_holds imElapsed_any
end Go.Proofs.Ytnmaljieaflnmaa
