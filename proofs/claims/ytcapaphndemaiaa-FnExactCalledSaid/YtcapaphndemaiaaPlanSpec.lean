/-
  Plans (spec, chapter 1): is a plan right?
-/
import Derived.Test.YtcapaphndemaiaaIn
namespace Go.Proofs.Ytcapaphndemaiaa
open Go.RowKit
set_option linter.unusedVariables false

/-- is the plan right? -/
def planB (a b c : Int) : Bool := inB a 1 6 && (inB b 1 8 && inB c 1 30)

theorem planB_iff {a b c : Int} : planB a b c = true ↔ (1 ≤ a ∧ a ≤ 6) ∧ (1 ≤ b ∧ b ≤ 8) ∧ (1 ≤ c ∧ c ≤ 30) := by simp [planB, inB_iff]

set_option maxHeartbeats 400000 in
theorem spPlanOk_any (a b c : Int) (w : World) :
    Calls Try.prog 13 #[.agg #[.int .i64 a, .int .i64 b, .int .i64 c]] w fun e w' => e = .returned (.bool (planB a b c)) ∧ Below w.heap.size w w' := by
  cases h1 : inB a 1 6
  · have hp : planB a b c = false := by simp [planB, h1]
    rw [hp]
    go_enter Try.func13, Try.ntmps13
    go_wp2_with (go_at_call 14; refine (l1In_any _ _ _ _).mono ?_; rintro e w' ⟨rfl, rfl⟩)
    go_ret
    exact ⟨rfl, (Below.refl _ _).alloc (Nat.le_refl _) _⟩
  · cases h2 : inB b 1 8
    · have hp : planB a b c = false := by simp [planB, h1, h2]
      rw [hp]
      go_enter Try.func13, Try.ntmps13
      go_wp2_with (go_at_call 14; refine (l1In_any _ _ _ _).mono ?_; rintro e w' ⟨rfl, rfl⟩)
      go_ret
      exact ⟨rfl, (Below.refl _ _).alloc (Nat.le_refl _) _⟩
    · cases h3 : inB c 1 30
      · have hp : planB a b c = false := by simp [planB, h1, h2, h3]
        rw [hp]
        go_enter Try.func13, Try.ntmps13
        go_wp2_with (go_at_call 14; refine (l1In_any _ _ _ _).mono ?_; rintro e w' ⟨rfl, rfl⟩)
        go_ret
        exact ⟨rfl, (Below.refl _ _).alloc (Nat.le_refl _) _⟩
      · have hp : planB a b c = true := by simp [planB, h1, h2, h3]
        rw [hp]
        go_enter Try.func13, Try.ntmps13
        go_wp2_with (go_at_call 14; refine (l1In_any _ _ _ _).mono ?_; rintro e w' ⟨rfl, rfl⟩)
        go_ret
        exact ⟨rfl, (Below.refl _ _).alloc (Nat.le_refl _) _⟩

end Go.Proofs.Ytcapaphndemaiaa
