/-
  Timers (spec, chapter 3): what the model answers.
-/
import Derived.Test.YthhpnepcfpapcaaDoorProcIn
import Derived.Test.YthhpnepcfpapcaaDoorTime
namespace Go.Proofs.YthhpnepcfpapcaaDoor
open Go.RowKit
set_option linter.unusedVariables false

/-- a timer's eight numbers -/
structure Tm where
  st : Int
  wh : Int
  nx : Int
  pe : Int
  pl : Int
  ge : Int
  ki : Int
  ma : Int
abbrev tmCells (t : Tm) : Array Value := #[.int .i64 t.st, .int .i64 t.wh, .int .i64 t.nx, .int .i64 t.pe, .int .i64 t.pl, .int .i64 t.ge, .int .i64 t.ki, .int .i64 t.ma]
abbrev tmV (t : Tm) : Value := .agg #[.int .i64 t.st, .int .i64 t.wh, .int .i64 t.nx, .int .i64 t.pe, .int .i64 t.pl, .int .i64 t.ge, .int .i64 t.ki, .int .i64 t.ma]

/-- does it stand in a heap? -/
def inHeapB (s : Int) : Bool := s == 1 || (s == 3 || (s == 4 || (s == 5 || s == 6)))

set_option maxHeartbeats 400000 in
theorem spInHeap_any (s : Int) (w : World) :
    Calls Tryd.prog 14 #[.int .i64 s] w fun e w' => e = .returned (.bool (inHeapB s)) ∧ w = w' := by
  by_cases h1 : s = 1
  · subst h1
    go_enter Tryd.func14, Tryd.ntmps14
    go_wp2
    go_ret
    exact ⟨rfl, rfl⟩
  by_cases h3 : s = 3
  · subst h3
    go_enter Tryd.func14, Tryd.ntmps14
    go_wp2
    go_ret
    exact ⟨rfl, rfl⟩
  by_cases h4 : s = 4
  · subst h4
    go_enter Tryd.func14, Tryd.ntmps14
    go_wp2
    go_ret
    exact ⟨rfl, rfl⟩
  by_cases h5 : s = 5
  · subst h5
    go_enter Tryd.func14, Tryd.ntmps14
    go_wp2
    go_ret
    exact ⟨rfl, rfl⟩
  by_cases h6 : s = 6
  · subst h6
    go_enter Tryd.func14, Tryd.ntmps14
    go_wp2
    go_ret
    exact ⟨rfl, rfl⟩
  have e : inHeapB s = false := by simp [inHeapB, h1, h3, h4, h5, h6]
  rw [e]
  have b1 : (s == 1) = false := by simpa using h1
  have b3 : (s == 3) = false := by simpa using h3
  have b4 : (s == 4) = false := by simpa using h4
  have b5 : (s == 5) = false := by simpa using h5
  have b6 : (s == 6) = false := by simpa using h6
  go_enter Tryd.func14, Tryd.ntmps14
  go_wp2
  go_ret
  exact ⟨rfl, rfl⟩

/-- may a become b? -/
def passB (a b : Int) : Bool :=
  if a = 0 then b == 2 else if a = 7 then b == 2 else if a = 1 then b == 2 || b == 6 else
  if a = 2 then b == 1 || (b == 3 || (b == 4 || b == 5)) else if a = 3 then b == 2 || b == 1 else if a = 4 then b == 2 || b == 1 else
  if a = 5 then b == 2 || b == 7 else if a = 6 then b == 1 || b == 0 else false

theorem ret_bool' {a b : Bool} (h : a = b) : Ending.returned (.bool a) = .returned (.bool b) := by rw [h]

set_option maxHeartbeats 1000000 in
theorem spPasses_any (a b : Int) (w : World) :
    Calls Tryd.prog 12 #[.int .i64 a, .int .i64 b] w fun e w' => e = .returned (.bool (passB a b)) ∧ w = w' := by
  by_cases h0 : a = 0
  · subst h0
    by_cases k2 : b = 2
    · subst k2
      go_enter Tryd.func12, Tryd.ntmps12
      go_wp2
      go_ret
      exact ⟨ret_bool' (by simp [passB]), rfl⟩
    have j2 : (b == 2) = false := by simpa using k2
    go_enter Tryd.func12, Tryd.ntmps12
    go_wp2
    go_ret
    exact ⟨ret_bool' (by simp [passB, k2]), rfl⟩
  by_cases h7 : a = 7
  · subst h7
    by_cases k2 : b = 2
    · subst k2
      go_enter Tryd.func12, Tryd.ntmps12
      go_wp2
      go_ret
      exact ⟨ret_bool' (by simp [passB]), rfl⟩
    have j2 : (b == 2) = false := by simpa using k2
    go_enter Tryd.func12, Tryd.ntmps12
    go_wp2
    go_ret
    exact ⟨ret_bool' (by simp [passB, k2]), rfl⟩
  by_cases h1 : a = 1
  · subst h1
    by_cases k2 : b = 2
    · subst k2
      go_enter Tryd.func12, Tryd.ntmps12
      go_wp2
      go_ret
      exact ⟨ret_bool' (by simp [passB]), rfl⟩
    by_cases k6 : b = 6
    · subst k6
      go_enter Tryd.func12, Tryd.ntmps12
      go_wp2
      go_ret
      exact ⟨ret_bool' (by simp [passB]), rfl⟩
    have j2 : (b == 2) = false := by simpa using k2
    have j6 : (b == 6) = false := by simpa using k6
    go_enter Tryd.func12, Tryd.ntmps12
    go_wp2
    go_ret
    exact ⟨ret_bool' (by simp [passB, k2, k6]), rfl⟩
  by_cases h2 : a = 2
  · subst h2
    by_cases k1 : b = 1
    · subst k1
      go_enter Tryd.func12, Tryd.ntmps12
      go_wp2
      go_ret
      exact ⟨ret_bool' (by simp [passB]), rfl⟩
    by_cases k3 : b = 3
    · subst k3
      go_enter Tryd.func12, Tryd.ntmps12
      go_wp2
      go_ret
      exact ⟨ret_bool' (by simp [passB]), rfl⟩
    by_cases k4 : b = 4
    · subst k4
      go_enter Tryd.func12, Tryd.ntmps12
      go_wp2
      go_ret
      exact ⟨ret_bool' (by simp [passB]), rfl⟩
    by_cases k5 : b = 5
    · subst k5
      go_enter Tryd.func12, Tryd.ntmps12
      go_wp2
      go_ret
      exact ⟨ret_bool' (by simp [passB]), rfl⟩
    have j1 : (b == 1) = false := by simpa using k1
    have j3 : (b == 3) = false := by simpa using k3
    have j4 : (b == 4) = false := by simpa using k4
    have j5 : (b == 5) = false := by simpa using k5
    go_enter Tryd.func12, Tryd.ntmps12
    go_wp2
    go_ret
    exact ⟨ret_bool' (by simp [passB, k1, k3, k4, k5]), rfl⟩
  by_cases h3 : a = 3
  · subst h3
    by_cases k2 : b = 2
    · subst k2
      go_enter Tryd.func12, Tryd.ntmps12
      go_wp2
      go_ret
      exact ⟨ret_bool' (by simp [passB]), rfl⟩
    by_cases k1 : b = 1
    · subst k1
      go_enter Tryd.func12, Tryd.ntmps12
      go_wp2
      go_ret
      exact ⟨ret_bool' (by simp [passB]), rfl⟩
    have j2 : (b == 2) = false := by simpa using k2
    have j1 : (b == 1) = false := by simpa using k1
    go_enter Tryd.func12, Tryd.ntmps12
    go_wp2
    go_ret
    exact ⟨ret_bool' (by simp [passB, k2, k1]), rfl⟩
  by_cases h4 : a = 4
  · subst h4
    by_cases k2 : b = 2
    · subst k2
      go_enter Tryd.func12, Tryd.ntmps12
      go_wp2
      go_ret
      exact ⟨ret_bool' (by simp [passB]), rfl⟩
    by_cases k1 : b = 1
    · subst k1
      go_enter Tryd.func12, Tryd.ntmps12
      go_wp2
      go_ret
      exact ⟨ret_bool' (by simp [passB]), rfl⟩
    have j2 : (b == 2) = false := by simpa using k2
    have j1 : (b == 1) = false := by simpa using k1
    go_enter Tryd.func12, Tryd.ntmps12
    go_wp2
    go_ret
    exact ⟨ret_bool' (by simp [passB, k2, k1]), rfl⟩
  by_cases h5 : a = 5
  · subst h5
    by_cases k2 : b = 2
    · subst k2
      go_enter Tryd.func12, Tryd.ntmps12
      go_wp2
      go_ret
      exact ⟨ret_bool' (by simp [passB]), rfl⟩
    by_cases k7 : b = 7
    · subst k7
      go_enter Tryd.func12, Tryd.ntmps12
      go_wp2
      go_ret
      exact ⟨ret_bool' (by simp [passB]), rfl⟩
    have j2 : (b == 2) = false := by simpa using k2
    have j7 : (b == 7) = false := by simpa using k7
    go_enter Tryd.func12, Tryd.ntmps12
    go_wp2
    go_ret
    exact ⟨ret_bool' (by simp [passB, k2, k7]), rfl⟩
  by_cases h6 : a = 6
  · subst h6
    by_cases k1 : b = 1
    · subst k1
      go_enter Tryd.func12, Tryd.ntmps12
      go_wp2
      go_ret
      exact ⟨ret_bool' (by simp [passB]), rfl⟩
    by_cases k0 : b = 0
    · subst k0
      go_enter Tryd.func12, Tryd.ntmps12
      go_wp2
      go_ret
      exact ⟨ret_bool' (by simp [passB]), rfl⟩
    have j1 : (b == 1) = false := by simpa using k1
    have j0 : (b == 0) = false := by simpa using k0
    go_enter Tryd.func12, Tryd.ntmps12
    go_wp2
    go_ret
    exact ⟨ret_bool' (by simp [passB, k1, k0]), rfl⟩
  have b0 : (a == 0) = false := by simpa using h0
  have b7 : (a == 7) = false := by simpa using h7
  have b1 : (a == 1) = false := by simpa using h1
  have b2 : (a == 2) = false := by simpa using h2
  have b3 : (a == 3) = false := by simpa using h3
  have b4 : (a == 4) = false := by simpa using h4
  have b5 : (a == 5) = false := by simpa using h5
  have b6 : (a == 6) = false := by simpa using h6
  go_enter Tryd.func12, Tryd.ntmps12
  go_wp2
  go_ret
  exact ⟨ret_bool' (by simp [passB, h0, h7, h1, h2, h3, h4, h5, h6]), rfl⟩

end Go.Proofs.YthhpnepcfpapcaaDoor
