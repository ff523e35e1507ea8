/-
  Is there such a worker (spec, chapter 1)?
-/
import Derived.Test.YtnmaljieaflnmaaPlanSpec
namespace Go.Proofs.Ytnmaljieaflnmaa
open Go.RowKit
set_option linter.unusedVariables false

def workB (a b c w : Int) : Bool := planB a b c && inB w 0 (b - 1)

theorem workB_no {a b c w : Int} (h : planB a b c = false) : workB a b c w = false := by simp [workB, h]

theorem workB_out {a b c w : Int} (h : inB w 0 (b - 1) = false) : workB a b c w = false := by simp [workB, h]

theorem workB_yes {a b c w : Int} (h : planB a b c = true) (h1 : inB w 0 (b - 1) = true) : workB a b c w = true := by simp [workB, h, h1]

theorem workB_iff {a b c w : Int} : workB a b c w = true ↔ planB a b c = true ∧ 0 ≤ w ∧ w ≤ b - 1 := by simp [workB, inB_iff]

set_option maxHeartbeats 400000 in
theorem l1Worker_any (a b c n : Int) (w : World) :
    Calls Try.prog 54 #[.agg #[.int .i64 a, .int .i64 b, .int .i64 c], .int .i64 n] w fun e w' => e = .returned (.bool (workB a b c n)) ∧ Below w.heap.size w w' := by
  cases h1 : planB a b c
  · rw [workB_no h1]
    go_enter Try.func54, Try.ntmps54
    go_wp2_with (go_at_call 52; refine (spPlanOk_any _ _ _ _).mono ?_; rintro e w1 ⟨rfl, hb⟩)
    go_ret
    exact ⟨rfl, ((Below.refl _ _).alloc (Nat.le_refl _) _).trans (hb.mono (by simp))⟩
  · obtain ⟨b1, ⟨b2, b3⟩, b4⟩ := planB_iff.1 h1
    cases h2 : inB n 0 (b - 1)
    · rw [workB_out h2]
      go_enter Try.func54, Try.ntmps54
      go_wp2_with (first
        | (go_at_call 52; refine (spPlanOk_any _ _ _ _).mono ?_; rintro e w1 ⟨rfl, hb⟩; obtain ⟨hc, hf⟩ := bcell hb)
        | (go_at_call 56; refine (l1In_any _ _ _ _).mono ?_; rintro e w' ⟨rfl, rfl⟩))
      go_ret
      exact ⟨rfl, ((Below.refl _ _).alloc (Nat.le_refl _) _).trans (hb.mono (by simp))⟩
    · rw [workB_yes h1 h2]
      go_enter Try.func54, Try.ntmps54
      go_wp2_with (first
        | (go_at_call 52; refine (spPlanOk_any _ _ _ _).mono ?_; rintro e w1 ⟨rfl, hb⟩; obtain ⟨hc, hf⟩ := bcell hb)
        | (go_at_call 56; refine (l1In_any _ _ _ _).mono ?_; rintro e w' ⟨rfl, rfl⟩))
      go_ret
      exact ⟨rfl, ((Below.refl _ _).alloc (Nat.le_refl _) _).trans (hb.mono (by simp))⟩

end Go.Proofs.Ytnmaljieaflnmaa
