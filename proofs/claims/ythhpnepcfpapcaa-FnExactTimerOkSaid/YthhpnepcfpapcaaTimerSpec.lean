/-
  Timers (spec, chapter 3): what the model answers.
-/
import Derived.Test.YthhpnepcfpapcaaProcIn
import Derived.Test.YthhpnepcfpapcaaTime
namespace Go.Proofs.Ythhpnepcfpapcaa
open Go.RowKit
set_option linter.unusedVariables false

/-- a timer's eight numbers -/
structure Tm where
  st : Int
  wh : Int
  nx : Int
  pe : Int
  pl : Int
  ge : Int
  ki : Int
  ma : Int
abbrev tmCells (t : Tm) : Array Value := #[.int .i64 t.st, .int .i64 t.wh, .int .i64 t.nx, .int .i64 t.pe, .int .i64 t.pl, .int .i64 t.ge, .int .i64 t.ki, .int .i64 t.ma]
abbrev tmV (t : Tm) : Value := .agg #[.int .i64 t.st, .int .i64 t.wh, .int .i64 t.nx, .int .i64 t.pe, .int .i64 t.pl, .int .i64 t.ge, .int .i64 t.ki, .int .i64 t.ma]

/-- does it stand in a heap? -/
def inHeapB (s : Int) : Bool := s == 1 || (s == 3 || (s == 4 || (s == 5 || s == 6)))

set_option maxHeartbeats 400000 in
theorem spInHeap_any (s : Int) (w : World) :
    Calls Try.prog 9 #[.int .i64 s] w fun e w' => e = .returned (.bool (inHeapB s)) ∧ w = w' := by
  by_cases h1 : s = 1
  · subst h1
    go_enter Try.func9, Try.ntmps9
    go_wp2
    go_ret
    exact ⟨rfl, rfl⟩
  by_cases h3 : s = 3
  · subst h3
    go_enter Try.func9, Try.ntmps9
    go_wp2
    go_ret
    exact ⟨rfl, rfl⟩
  by_cases h4 : s = 4
  · subst h4
    go_enter Try.func9, Try.ntmps9
    go_wp2
    go_ret
    exact ⟨rfl, rfl⟩
  by_cases h5 : s = 5
  · subst h5
    go_enter Try.func9, Try.ntmps9
    go_wp2
    go_ret
    exact ⟨rfl, rfl⟩
  by_cases h6 : s = 6
  · subst h6
    go_enter Try.func9, Try.ntmps9
    go_wp2
    go_ret
    exact ⟨rfl, rfl⟩
  have e : inHeapB s = false := by simp [inHeapB, h1, h3, h4, h5, h6]
  rw [e]
  have b1 : (s == 1) = false := by simpa using h1
  have b3 : (s == 3) = false := by simpa using h3
  have b4 : (s == 4) = false := by simpa using h4
  have b5 : (s == 5) = false := by simpa using h5
  have b6 : (s == 6) = false := by simpa using h6
  go_enter Try.func9, Try.ntmps9
  go_wp2
  go_ret
  exact ⟨rfl, rfl⟩

/-- may a become b? -/
def passB (a b : Int) : Bool :=
  if a = 0 then b == 2 else if a = 7 then b == 2 else if a = 1 then b == 2 || b == 6 else
  if a = 2 then b == 1 || (b == 3 || (b == 4 || b == 5)) else if a = 3 then b == 2 || b == 1 else if a = 4 then b == 2 || b == 1 else
  if a = 5 then b == 2 || b == 7 else if a = 6 then b == 1 || b == 0 else false

theorem ret_bool' {a b : Bool} (h : a = b) : Ending.returned (.bool a) = .returned (.bool b) := by rw [h]

end Go.Proofs.Ythhpnepcfpapcaa
