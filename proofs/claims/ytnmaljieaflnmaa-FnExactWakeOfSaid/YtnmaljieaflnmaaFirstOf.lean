/-
  The first of some times, or never (chapter 4).
-/
import Derived.Test.YtnmaljieaflnmaaMinOf
namespace Go.Proofs.Ytnmaljieaflnmaa
open Go.RowKit Go.Joins
set_option linter.unusedVariables false

set_option maxHeartbeats 400000 in
theorem firstOf_none {v : Value} {w : World} (hv : ∃ a cap, v = .slice a 0 cap) :
    Calls Try.prog 89 #[v] w fun e w' => e = .returned (.int .i64 (-1)) ∧ Below w.heap.size w w' := by
  obtain ⟨a, cap, rfl⟩ := hv
  go_enter Try.func89, Try.ntmps89
  go_wp2
  go_ret
  exact ⟨rfl, Below.refl _ _⟩
set_option maxHeartbeats 400000 in
theorem firstOf_some {v : Value} {n : Nat} {f : Ints} {w : World} (hn : n ≤ 1048576) (h0 : 0 < n) (h : RowIAt w v n f) :
    Calls Try.prog 89 #[v] w fun e w' => e = .returned (.int .i64 (leastI f (n - 1))) ∧ Below w.heap.size w w' := by
  obtain ⟨a, cap, rfl⟩ := h.form
  have H := Lib.hid h
  have hz : ((n : Int) == 0) = false := by simp; omega
  clear h
  go_enter Try.func89, Try.ntmps89
  go_wp2_with fail
  go_at_call 115; refine (minOf_any hn h0 H.out).mono ?_; rintro x w1 ⟨rfl, hb⟩
  go_wp2
  go_ret
  exact ⟨rfl, hb⟩
theorem firstOf_any {v : Value} {n : Nat} {f : Ints} {w : World} (hn : n ≤ 1048576) (h : RowIAt w v n f) :
    Calls Try.prog 89 #[v] w fun e w' => e = .returned (.int .i64 (if n = 0 then -1 else leastI f (n - 1))) ∧ Below w.heap.size w w' := by
  by_cases h0 : n = 0
  · subst h0
    rw [if_pos rfl]
    exact firstOf_none h.form
  · rw [if_neg h0]
    exact firstOf_some hn (by omega) h

end Go.Proofs.Ytnmaljieaflnmaa
