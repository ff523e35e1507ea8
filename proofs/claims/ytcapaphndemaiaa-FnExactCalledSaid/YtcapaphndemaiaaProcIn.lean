/-
  Is there such a processor (spec, chapter 1)?
-/
import Derived.Test.YtcapaphndemaiaaPlanSpec
namespace Go.Proofs.Ytcapaphndemaiaa
open Go.RowKit
set_option linter.unusedVariables false

def procB (a b c w : Int) : Bool := planB a b c && inB w 0 (a - 1)

theorem procB_no {a b c w : Int} (h : planB a b c = false) : procB a b c w = false := by simp [procB, h]

theorem procB_out {a b c w : Int} (h : inB w 0 (a - 1) = false) : procB a b c w = false := by simp [procB, h]

theorem procB_yes {a b c w : Int} (h : planB a b c = true) (h1 : inB w 0 (a - 1) = true) : procB a b c w = true := by simp [procB, h, h1]

theorem procB_iff {a b c w : Int} : procB a b c w = true ↔ planB a b c = true ∧ 0 ≤ w ∧ w ≤ a - 1 := by simp [procB, inB_iff]

set_option maxHeartbeats 400000 in
theorem l1Proc_any (a b c n : Int) (w : World) :
    Calls Try.prog 16 #[.agg #[.int .i64 a, .int .i64 b, .int .i64 c], .int .i64 n] w fun e w' => e = .returned (.bool (procB a b c n)) ∧ Below w.heap.size w w' := by
  cases h1 : planB a b c
  · rw [procB_no h1]
    go_enter Try.func16, Try.ntmps16
    go_wp2_with (go_at_call 13; refine (spPlanOk_any _ _ _ _).mono ?_; rintro e w1 ⟨rfl, hb⟩)
    go_ret
    exact ⟨rfl, ((Below.refl _ _).alloc (Nat.le_refl _) _).trans (hb.mono (by simp))⟩
  · obtain ⟨⟨b2, b3⟩, b1, b4⟩ := planB_iff.1 h1
    cases h2 : inB n 0 (a - 1)
    · rw [procB_out h2]
      go_enter Try.func16, Try.ntmps16
      go_wp2_with (first
        | (go_at_call 13; refine (spPlanOk_any _ _ _ _).mono ?_; rintro e w1 ⟨rfl, hb⟩; obtain ⟨hc, hf⟩ := bcell hb)
        | (go_at_call 14; refine (l1In_any _ _ _ _).mono ?_; rintro e w' ⟨rfl, rfl⟩))
      go_ret
      exact ⟨rfl, ((Below.refl _ _).alloc (Nat.le_refl _) _).trans (hb.mono (by simp))⟩
    · rw [procB_yes h1 h2]
      go_enter Try.func16, Try.ntmps16
      go_wp2_with (first
        | (go_at_call 13; refine (spPlanOk_any _ _ _ _).mono ?_; rintro e w1 ⟨rfl, hb⟩; obtain ⟨hc, hf⟩ := bcell hb)
        | (go_at_call 14; refine (l1In_any _ _ _ _).mono ?_; rintro e w' ⟨rfl, rfl⟩))
      go_ret
      exact ⟨rfl, ((Below.refl _ _).alloc (Nat.le_refl _) _).trans (hb.mono (by simp))⟩

end Go.Proofs.Ytcapaphndemaiaa
