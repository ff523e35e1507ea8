/-
  'laws.FnExactNewMem': for every plan the law returns true and the argument reads as before. No condition.
-/
import Derived.Test.YtnmaljieaflnmaaL13
import Derived.Test.YtnmaljieaflnmaaL15
namespace Go.Proofs.Ytnmaljieaflnmaa

theorem exNewMem_stands : Rows.FnExactNewMemSaid := exactNewMem_holds imNewMem_any
end Go.Proofs.Ytnmaljieaflnmaa
