/-
  Is there such a worker, in the program?
-/
import Derived.Test.YtnmaljieaflnmaaPlanImpl
import Derived.Test.YtnmaljieaflnmaaWorkIn
namespace Go.Proofs.Ytnmaljieaflnmaa
open Go.RowKit
set_option linter.unusedVariables false

set_option maxHeartbeats 400000 in
theorem hasWorker_any (a b c n : Int) (w : World) :
    Calls Try.prog 121 #[.agg #[.int .i64 a, .int .i64 b, .int .i64 c], .int .i64 n] w fun e w' => e = .returned (.bool (workB a b c n)) ∧ Below w.heap.size w w' := by
  cases h1 : planB a b c
  · rw [workB_no h1]
    go_enter Try.func121, Try.ntmps121
    go_wp2_with (go_at_call 50; refine (right_any _ _ _ _).mono ?_; rintro e w1 ⟨rfl, hb⟩)
    go_ret
    exact ⟨rfl, ((Below.refl _ _).alloc (Nat.le_refl _) _).trans (hb.mono (by simp))⟩
  · obtain ⟨b1, ⟨b2, b3⟩, b4⟩ := planB_iff.1 h1
    cases h2 : inB n 0 (b - 1)
    · rw [workB_out h2]
      go_enter Try.func121, Try.ntmps121
      go_wp2_with (first
        | (go_at_call 50; refine (right_any _ _ _ _).mono ?_; rintro e w1 ⟨rfl, hb⟩; obtain ⟨hc, hf⟩ := bcell hb)
        | (go_at_call 90; refine (within_any _ _ _ _).mono ?_; rintro e w' ⟨rfl, rfl⟩))
      go_ret
      exact ⟨rfl, ((Below.refl _ _).alloc (Nat.le_refl _) _).trans (hb.mono (by simp))⟩
    · rw [workB_yes h1 h2]
      go_enter Try.func121, Try.ntmps121
      go_wp2_with (first
        | (go_at_call 50; refine (right_any _ _ _ _).mono ?_; rintro e w1 ⟨rfl, hb⟩; obtain ⟨hc, hf⟩ := bcell hb)
        | (go_at_call 90; refine (within_any _ _ _ _).mono ?_; rintro e w' ⟨rfl, rfl⟩))
      go_ret
      exact ⟨rfl, ((Below.refl _ _).alloc (Nat.le_refl _) _).trans (hb.mono (by simp))⟩

end Go.Proofs.Ytnmaljieaflnmaa
