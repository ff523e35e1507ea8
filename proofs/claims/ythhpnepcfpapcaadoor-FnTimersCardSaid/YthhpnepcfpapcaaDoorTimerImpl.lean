/-
  Timers, in the program: statuses, numbers, place, next.
-/
import Derived.Test.YthhpnepcfpapcaaDoorPlanImpl
import Derived.Test.YthhpnepcfpapcaaDoorTimerOk
namespace Go.Proofs.YthhpnepcfpapcaaDoor
open Go.RowKit
set_option linter.unusedVariables false

set_option maxHeartbeats 1000000 in
/-- is there such a status? -/
theorem known_any (s : Int) (w : World) :
    Calls Tryd.prog 39 #[.int .i64 s] w fun e w' => e = .returned (.bool (inB s 0 7)) ∧ w = w' := by
  by_cases h0 : s = 0
  · subst h0
    go_enter Tryd.func39, Tryd.ntmps39
    go_wp2_with (go_at_call 40; go_in)
    go_ret
    exact ⟨rfl, rfl⟩
  by_cases h1 : s = 1
  · subst h1
    go_enter Tryd.func39, Tryd.ntmps39
    go_wp2_with (go_at_call 40; go_in)
    go_ret
    exact ⟨rfl, rfl⟩
  by_cases h2 : s = 2
  · subst h2
    go_enter Tryd.func39, Tryd.ntmps39
    go_wp2_with (go_at_call 40; go_in)
    go_ret
    exact ⟨rfl, rfl⟩
  by_cases h3 : s = 3
  · subst h3
    go_enter Tryd.func39, Tryd.ntmps39
    go_wp2_with (go_at_call 40; go_in)
    go_ret
    exact ⟨rfl, rfl⟩
  by_cases h4 : s = 4
  · subst h4
    go_enter Tryd.func39, Tryd.ntmps39
    go_wp2_with (go_at_call 40; go_in)
    go_ret
    exact ⟨rfl, rfl⟩
  by_cases h5 : s = 5
  · subst h5
    go_enter Tryd.func39, Tryd.ntmps39
    go_wp2_with (go_at_call 40; go_in)
    go_ret
    exact ⟨rfl, rfl⟩
  by_cases h6 : s = 6
  · subst h6
    go_enter Tryd.func39, Tryd.ntmps39
    go_wp2_with (go_at_call 40; go_in)
    go_ret
    exact ⟨rfl, rfl⟩
  by_cases h7 : s = 7
  · subst h7
    go_enter Tryd.func39, Tryd.ntmps39
    go_wp2_with (go_at_call 40; go_in)
    go_ret
    exact ⟨rfl, rfl⟩
  have e : inB s 0 7 = false := by
    cases hx : inB s 0 7
    · rfl
    · have := inB_iff.1 hx; omega
  rw [e]
  have b0 : (s == 0) = false := by simpa using h0
  have b1 : (s == 1) = false := by simpa using h1
  have b2 : (s == 2) = false := by simpa using h2
  have b3 : (s == 3) = false := by simpa using h3
  have b4 : (s == 4) = false := by simpa using h4
  have b5 : (s == 5) = false := by simpa using h5
  have b6 : (s == 6) = false := by simpa using h6
  have b7 : (s == 7) = false := by simpa using h7
  go_enter Tryd.func39, Tryd.ntmps39
  go_wp2_with (go_at_call 40; go_in)
  go_ret
  exact ⟨rfl, rfl⟩

set_option maxHeartbeats 1000000 in
theorem stInHeap_any (s : Int) (w : World) :
    Calls Tryd.prog 32 #[.int .i64 s] w fun e w' => e = .returned (.bool (inHeapB s)) ∧ w = w' := by
  by_cases h1 : s = 1
  · subst h1
    go_enter Tryd.func32, Tryd.ntmps32
    go_wp2
    go_ret
    exact ⟨rfl, rfl⟩
  by_cases h3 : s = 3
  · subst h3
    go_enter Tryd.func32, Tryd.ntmps32
    go_wp2
    go_ret
    exact ⟨rfl, rfl⟩
  by_cases h4 : s = 4
  · subst h4
    go_enter Tryd.func32, Tryd.ntmps32
    go_wp2
    go_ret
    exact ⟨rfl, rfl⟩
  by_cases h5 : s = 5
  · subst h5
    go_enter Tryd.func32, Tryd.ntmps32
    go_wp2
    go_ret
    exact ⟨rfl, rfl⟩
  by_cases h6 : s = 6
  · subst h6
    go_enter Tryd.func32, Tryd.ntmps32
    go_wp2
    go_ret
    exact ⟨rfl, rfl⟩
  have e : inHeapB s = false := by simp [inHeapB, h1, h3, h4, h5, h6]
  rw [e]
  have b1 : (s == 1) = false := by simpa using h1
  have b3 : (s == 3) = false := by simpa using h3
  have b4 : (s == 4) = false := by simpa using h4
  have b5 : (s == 5) = false := by simpa using h5
  have b6 : (s == 6) = false := by simpa using h6
  go_enter Tryd.func32, Tryd.ntmps32
  go_wp2
  go_ret
  exact ⟨rfl, rfl⟩

/-- a timer's numbers -/
def numB (t : Tm) : Bool := inB t.wh 0 1000000000 && (inB t.nx 0 1000000000 && (inB t.pe 0 1000000000 && (inB t.ge 0 100000 && (inB t.ki 0 1 && inB t.ma 0 1000000001))))
/-- the place, as the program tells it -/
def putB (a b c : Int) (t : Tm) : Bool := if t.st = 2 then procB a b c t.pl || t.pl == -1 else if inHeapB t.st then procB a b c t.pl else inB t.st 0 7 && t.pl == -1

set_option maxRecDepth 100000 in
set_option maxHeartbeats 2000000 in
theorem numbers_any (t : Tm) (w : World) :
    Calls Tryd.prog 24 #[tmV t] w fun e w' => e = .returned (.bool (numB t)) ∧ Below w.heap.size w w' := by
  have k0 := (Below.refl w.heap.size w).alloc (Nat.le_refl _) (.cells #[.int .i64 t.st, .int .i64 t.wh, .int .i64 t.nx, .int .i64 t.pe, .int .i64 t.pl, .int .i64 t.ge, .int .i64 t.ki, .int .i64 t.ma] 27)
  cases h0 : inB t.wh 0 1000000000
  · rw [show numB t = false by simp [numB, h0]]
    go_enter Tryd.func24, Tryd.ntmps24
    go_wp2_with (first
        | (go_at_call 37; refine (isTime_any _ _).mono ?_; rintro e w' ⟨rfl, rfl⟩)
        | (go_at_call 36; refine (within_any _ _ _ _).mono ?_; rintro e w' ⟨rfl, rfl⟩))
    go_ret
    exact ⟨rfl, k0⟩
  cases h1 : inB t.nx 0 1000000000
  · rw [show numB t = false by simp [numB, h0, h1]]
    go_enter Tryd.func24, Tryd.ntmps24
    go_wp2_with (first
        | (go_at_call 37; refine (isTime_any _ _).mono ?_; rintro e w' ⟨rfl, rfl⟩)
        | (go_at_call 36; refine (within_any _ _ _ _).mono ?_; rintro e w' ⟨rfl, rfl⟩))
    go_ret
    exact ⟨rfl, k0⟩
  cases h2 : inB t.pe 0 1000000000
  · rw [show numB t = false by simp [numB, h0, h1, h2]]
    go_enter Tryd.func24, Tryd.ntmps24
    go_wp2_with (first
        | (go_at_call 37; refine (isTime_any _ _).mono ?_; rintro e w' ⟨rfl, rfl⟩)
        | (go_at_call 36; refine (within_any _ _ _ _).mono ?_; rintro e w' ⟨rfl, rfl⟩))
    go_ret
    exact ⟨rfl, k0⟩
  cases h3 : inB t.ge 0 100000
  · rw [show numB t = false by simp [numB, h0, h1, h2, h3]]
    go_enter Tryd.func24, Tryd.ntmps24
    go_wp2_with (first
        | (go_at_call 37; refine (isTime_any _ _).mono ?_; rintro e w' ⟨rfl, rfl⟩)
        | (go_at_call 36; refine (within_any _ _ _ _).mono ?_; rintro e w' ⟨rfl, rfl⟩))
    go_ret
    exact ⟨rfl, k0⟩
  cases h4 : inB t.ki 0 1
  · rw [show numB t = false by simp [numB, h0, h1, h2, h3, h4]]
    go_enter Tryd.func24, Tryd.ntmps24
    go_wp2_with (first
        | (go_at_call 37; refine (isTime_any _ _).mono ?_; rintro e w' ⟨rfl, rfl⟩)
        | (go_at_call 36; refine (within_any _ _ _ _).mono ?_; rintro e w' ⟨rfl, rfl⟩))
    go_ret
    exact ⟨rfl, k0⟩
  cases h5 : inB t.ma 0 1000000001
  · rw [show numB t = false by simp [numB, h0, h1, h2, h3, h4, h5]]
    go_enter Tryd.func24, Tryd.ntmps24
    go_wp2_with (first
        | (go_at_call 37; refine (isTime_any _ _).mono ?_; rintro e w' ⟨rfl, rfl⟩)
        | (go_at_call 36; refine (within_any _ _ _ _).mono ?_; rintro e w' ⟨rfl, rfl⟩))
    go_ret
    exact ⟨rfl, k0⟩
  rw [show numB t = true by simp [numB, h0, h1, h2, h3, h4, h5]]
  go_enter Tryd.func24, Tryd.ntmps24
  go_wp2_with (first
      | (go_at_call 37; refine (isTime_any _ _).mono ?_; rintro e w' ⟨rfl, rfl⟩)
      | (go_at_call 36; refine (within_any _ _ _ _).mono ?_; rintro e w' ⟨rfl, rfl⟩))
  go_ret
  exact ⟨rfl, k0⟩

set_option maxRecDepth 100000 in
set_option maxHeartbeats 2000000 in
theorem next_any (t : Tm) (w : World) :
    Calls Tryd.prog 26 #[tmV t] w fun e w' => e = .returned (.bool (nextB t)) ∧ Below w.heap.size w w' := by
  have k0 := (Below.refl w.heap.size w).alloc (Nat.le_refl _) (.cells #[.int .i64 t.st, .int .i64 t.wh, .int .i64 t.nx, .int .i64 t.pe, .int .i64 t.pl, .int .i64 t.ge, .int .i64 t.ki, .int .i64 t.ma] 27)
  obtain ⟨st, wh, nx, pe, pl, ge, ki, ma⟩ := t
  by_cases h3 : st = 3
  · subst h3
    rw [show nextB ⟨3, wh, nx, pe, pl, ge, ki, ma⟩ = decide (nx < wh) by simp [nextB]]
    go_enter Tryd.func26, Tryd.ntmps26
    go_wp2
    go_ret
    exact ⟨rfl, k0⟩
  by_cases h4 : st = 4
  · subst h4
    rw [show nextB ⟨4, wh, nx, pe, pl, ge, ki, ma⟩ = decide (wh ≤ nx) by simp [nextB]]
    go_enter Tryd.func26, Tryd.ntmps26
    go_wp2
    go_ret
    exact ⟨rfl, k0⟩
  rw [show nextB ⟨st, wh, nx, pe, pl, ge, ki, ma⟩ = true by simp [nextB, h3, h4]]
  have b3 : (st == 3) = false := by simpa using h3
  have b4 : (st == 4) = false := by simpa using h4
  go_enter Tryd.func26, Tryd.ntmps26
  go_wp2
  go_ret
  exact ⟨rfl, k0⟩

end Go.Proofs.YthhpnepcfpapcaaDoor
