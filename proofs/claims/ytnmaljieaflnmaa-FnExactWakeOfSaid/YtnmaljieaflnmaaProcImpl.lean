/-
  Processors, in the program (chapter 4): its own form of one, and its small methods.
-/
import Derived.Test.YtnmaljieaflnmaaWorkImpl
import Derived.Test.YtnmaljieaflnmaaProcSpec
import Derived.Test.YtnmaljieaflnmaaMinOf
import Derived.Test.YtnmaljieaflnmaaProcLaws
namespace Go.Proofs.Ytnmaljieaflnmaa
open Go.RowKit Go.Joins
set_option linter.unusedVariables false

/-- a processor as the program works with it -/
abbrev pxV (v : Value) (l e d : Int) : Value := .agg #[.int .i64 l, v, .int .i64 e, .int .i64 d]

set_option maxRecDepth 100000 in
set_option maxHeartbeats 400000 in
theorem processorOf_any {v : Value} {n : Nat} (l e d : Int) {w : World} (hv : ∃ a cap, v = .slice a n cap) :
    Calls Try.prog 48 #[prV v l e d] w fun x w' => x = .returned (pxV v l e d) ∧ Below w.heap.size w w' := by
  obtain ⟨a, cap, rfl⟩ := hv
  have k0 := (Below.refl w.heap.size w).alloc (Nat.le_refl _) (.cells #[.slice a n cap, .int .i64 l, .int .i64 e, .int .i64 d] 28)
  go_enter Try.func48, Try.ntmps48
  go_wp2
  exact bodyPost_ret (v := pxV (.slice a n cap) l e d) (by simp [results, Try.results48, go_sem]) rfl ⟨rfl, k0.alloc k0.size _⟩

set_option maxHeartbeats 400000 in
theorem free_any (l : Int) (w : World) :
    Calls Try.prog 120 #[.agg #[.int .i64 l]] w fun x w' => x = .returned (.bool (l == -1)) ∧ Below w.heap.size w w' := by
  go_enter Try.func120, Try.ntmps120
  go_wp2
  go_ret
  exact ⟨rfl, (Below.refl _ _).alloc (Nat.le_refl _) _⟩

/-- the block of a processor that came in -/
abbrev pxB (v : Value) (l e d : Int) : Obj := .cells #[.int .i64 l, v, .int .i64 e, .int .i64 d] 79

set_option maxRecDepth 100000 in
set_option maxHeartbeats 400000 in
theorem lockRight_any (a b c : Int) {v : Value} {n : Nat} (l e d : Int) {w : World} (hv : ∃ a cap, v = .slice a n cap) :
    Calls Try.prog 93 #[pxV v l e d, .agg #[.int .i64 a, .int .i64 b, .int .i64 c]] w fun x w' => x = .returned (.bool (l == -1 || workB a b c l)) ∧ Below w.heap.size w w' := by
  obtain ⟨sa, cap, rfl⟩ := hv
  have k0 := (Below.refl w.heap.size w).alloc (Nat.le_refl _) (pxB (.slice sa n cap) l e d)
  have k1 := k0.alloc k0.size (.cells #[.int .i64 a, .int .i64 b, .int .i64 c] 25)
  cases hl : l == -1
  · rw [Bool.false_or]
    go_enter Try.func93, Try.ntmps93
    go_wp2_with (first
      | (go_at_call 120; refine (free_any _ _).mono ?_; rintro x w1 ⟨rfl, hb⟩; rw [hl]; obtain ⟨hc, hf⟩ := bcell hb)
      | (go_at_call 121; refine (hasWorker_any _ _ _ _ _).mono ?_; rintro x w2 ⟨rfl, hb2⟩))
    go_ret
    exact ⟨rfl, k1.trans ((hb.trans (hb2.mono hb.size)).mono k1.size)⟩
  · rw [Bool.true_or]
    go_enter Try.func93, Try.ntmps93
    go_wp2_with (first
      | (go_at_call 120; refine (free_any _ _).mono ?_; rintro x w1 ⟨rfl, hb⟩; rw [hl]; obtain ⟨hc, hf⟩ := bcell hb)
      | (go_at_call 121; refine (hasWorker_any _ _ _ _ _).mono ?_; rintro x w2 ⟨rfl, hb2⟩))
    go_ret
    exact ⟨rfl, k1.trans (hb.mono k1.size)⟩

set_option maxRecDepth 100000 in
set_option maxHeartbeats 400000 in
theorem earliestRight_any {v : Value} {n : Nat} (l e d : Int) {w : World} (hv : ∃ a cap, v = .slice a n cap) :
    Calls Try.prog 94 #[pxV v l e d] w fun x w' => x = .returned (.bool (e == -1 || inB e 0 1000000000)) ∧ Below w.heap.size w w' := by
  obtain ⟨sa, cap, rfl⟩ := hv
  have k0 := (Below.refl w.heap.size w).alloc (Nat.le_refl _) (pxB (.slice sa n cap) l e d)
  cases hl : e == -1
  · rw [Bool.false_or]
    go_enter Try.func94, Try.ntmps94
    go_wp2_with (go_at_call 122; refine (isTime_any _ _).mono ?_; rintro x w1 ⟨rfl, rfl⟩)
    go_ret
    exact ⟨rfl, k0⟩
  · rw [Bool.true_or]
    go_enter Try.func94, Try.ntmps94
    go_wp2_with (go_at_call 122; refine (isTime_any _ _).mono ?_; rintro x w1 ⟨rfl, rfl⟩)
    go_ret
    exact ⟨rfl, k0⟩

set_option maxRecDepth 100000 in
set_option maxHeartbeats 400000 in
theorem deletedRight_any {v : Value} {n : Nat} (l e d : Int) {w : World} (hn : n ≤ 1048576) (hv : ∃ a cap, v = .slice a n cap) :
    Calls Try.prog 95 #[pxV v l e d] w fun x w' => x = .returned (.bool (inB d 0 n)) ∧ Below w.heap.size w w' := by
  obtain ⟨sa, cap, rfl⟩ := hv
  have k0 := (Below.refl w.heap.size w).alloc (Nat.le_refl _) (pxB (.slice sa n cap) l e d)
  go_enter Try.func95, Try.ntmps95
  go_wp2_with (go_at_call 90; refine (within_any _ _ _ _).mono ?_; rintro x w1 ⟨rfl, rfl⟩)
  go_ret
  exact ⟨rfl, k0⟩

end Go.Proofs.Ytnmaljieaflnmaa
