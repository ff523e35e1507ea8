/-
  The program's generic list that is told what is less (chapter 2), at slots: raised.
-/
import Derived.Test.YtnmaljieaflnmaaHeapOf3
namespace Go.Proofs.Ytnmaljieaflnmaa
open Go.RowKit Go.Joins
set_option linter.unusedVariables false

/-- p is k's parent -/
def Par (k p : Nat) : Prop := 0 < k ∧ k ≤ 1048576 ∧ p = (k - 1) / 4
theorem parentOf_par {k p : Nat} (h : Par k p) (w : World) : Calls Try.prog 132 #[.int .i64 k] w fun e w' => e = .returned (.int .i64 p) ∧ w = w' := by
  obtain ⟨h0, h1, h2⟩ := h
  have e : ((k : Int) - 1).tdiv 4 = (p : Int) := by
    rw [h2, show ((k : Int) - 1) = ((k - 1 : Nat) : Int) by omega, Int.tdiv_eq_ediv_of_nonneg (by omega)]; omega
  have := parentOf_any (k : Int) w (by omega) (by omega)
  rwa [e] at this

end Go.Proofs.Ytnmaljieaflnmaa
