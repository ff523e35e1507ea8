/-
  The program's generic list that is told what is less (chapter 2), at slots: sunk.
-/
import Derived.Test.YtnmaljieaflnmaaHeapOf2
namespace Go.Proofs.Ytnmaljieaflnmaa
open Go.RowKit Go.Joins
set_option linter.unusedVariables false

end Go.Proofs.Ytnmaljieaflnmaa
