/-
  The program's generic list that is told what is less (chapter 2), at slots: its small methods.
-/
import Derived.Test.YtnmaljieaflnmaaWithin
import Derived.Test.YtnmaljieaflnmaaHeapSpec
import Derived.Laws.EntriesVeiled
namespace Go.Proofs.Ytnmaljieaflnmaa
open Go.RowKit Go.Joins
set_option linter.unusedVariables false

/-- what is less, as a value -/
abbrev dueV : Value := .func (.func 117) #[] #[]
/-- a heap of the program's, as a value -/
abbrev heapV (v : Value) : Value := .agg #[v, dueV]

set_option maxHeartbeats 400000 in
theorem hSize_any {v : Value} {n : Nat} {w : World} (hn : n ≤ 1048577) (hv : ∃ a cap, v = .slice a n cap) :
    Calls Try.prog 130 #[heapV v] w fun e w' => e = .returned (.int .i64 n) ∧ Below w.heap.size w w' := by
  obtain ⟨a, cap, rfl⟩ := hv
  go_enter Try.func130, Try.ntmps130
  go_wp2
  go_ret
  exact ⟨rfl, (Below.refl _ _).alloc (Nat.le_refl _) _⟩

set_option maxHeartbeats 400000 in
theorem dueBefore_any (a b c d : Int) (w : World) :
    Calls Try.prog 117 #[.agg #[.int .i64 a, .int .i64 b], .agg #[.int .i64 c, .int .i64 d]] w fun e w' => e = .returned (.bool (decide (b < d))) ∧ Below w.heap.size w w' := by
  go_enter Try.func117, Try.ntmps117
  go_wp2
  go_ret
  exact ⟨rfl, ((Below.refl _ _).alloc (Nat.le_refl _) _).alloc (by simp) _⟩

set_option maxHeartbeats 400000 in
theorem parentOf_any (i : Int) (w : World) (h0 : -9223372036854775808 < i) (h1 : i < 9223372036854775808) :
    Calls Try.prog 132 #[.int .i64 i] w fun e w' => e = .returned (.int .i64 ((i - 1).tdiv 4)) ∧ w = w' := by
  go_enter Try.func132, Try.ntmps132
  go_wp2
  go_ret
  exact ⟨rfl, rfl⟩

set_option maxRecDepth 100000 in
set_option maxHeartbeats 1000000 in
theorem hLess_is {v : Value} {n : Nat} {f : Slots} {i j : Nat} (x : Bool) (hx : decide ((f i).2 < (f j).2) = x) {w : World} (hn : n ≤ 1048577) (hi : i < n) (hj : j < n) (h : RowAt w v n f) :
    Calls Try.prog 131 #[heapV v, .int .i64 i, .int .i64 j] w fun e w' => e = .returned (.bool x) ∧ Below w.heap.size w w' := by
  rcases h with ⟨rfl, _⟩ | ⟨b, off, cap, rfl, hl, hc⟩
  · omega
  have hb0 := (Below.refl w.heap.size w).alloc (Nat.le_refl _) (.cells #[.slice (some ⟨b, off, none⟩) n cap, dueV] 136)
  have HB := heap_alloc_new w (.cells #[.slice (some ⟨b, off, none⟩) n cap, dueV] 136)
  have x0 := cell_of_block HB 0
  have x1 := cell_of_block HB 1
  have i0 := (hb0.cell (p := ⟨b, off + i * 2, none⟩) hl).trans (hc i hi).1
  have i1 := (hb0.cell (p := ⟨b, off + i * 2 + 1, none⟩) hl).trans (hc i hi).2
  have j0 := (hb0.cell (p := ⟨b, off + j * 2, none⟩) hl).trans (hc j hj).1
  have j1 := (hb0.cell (p := ⟨b, off + j * 2 + 1, none⟩) hl).trans (hc j hj).2
  have hs0 : w.heap.size < (w.alloc (.cells #[.slice (some ⟨b, off, none⟩) n cap, dueV] 136)).heap.size := by simp
  have hs1 : b < (w.alloc (.cells #[.slice (some ⟨b, off, none⟩) n cap, dueV] 136)).heap.size := Nat.lt_trans hl hs0
  have hii : (i : Int) < (n : Int) := by omega
  have hjj : (j : Int) < (n : Int) := by omega
  clear HB hc
  go_enter Try.func131, Try.ntmps131
  go_wp2_with fail
  go_region_held3 (fun w' => w'.cell? ⟨w.heap.size, 0, none⟩ = some (.slice (some ⟨b, off, none⟩) n cap) ∧ w'.cell? ⟨w.heap.size, 1, none⟩ = some dueV
      ∧ w'.cell? ⟨b, off + i * 2, none⟩ = some (.int .i64 (f i).1) ∧ w'.cell? ⟨b, off + i * 2 + 1, none⟩ = some (.int .i64 (f i).2)
      ∧ w'.cell? ⟨b, off + j * 2, none⟩ = some (.int .i64 (f j).1) ∧ w'.cell? ⟨b, off + j * 2 + 1, none⟩ = some (.int .i64 (f j).2))
    (first | exact ⟨x0, x1, i0, i1, j0, j1⟩ | exact ⟨y0, y1, y2, y3, y4, y5⟩ | go_keep)
    (first
      | (go_at_call 117; refine (dueBefore_any _ _ _ _ _).mono ?_; rintro e w1 ⟨rfl, hb⟩
         have y0 := (hb.cell (p := ⟨w.heap.size, 0, none⟩) hs0).trans x0; have y1 := (hb.cell (p := ⟨w.heap.size, 1, none⟩) hs0).trans x1
         have y2 := (hb.cell (p := ⟨b, off + i * 2, none⟩) hs1).trans i0; have y3 := (hb.cell (p := ⟨b, off + i * 2 + 1, none⟩) hs1).trans i1
         have y4 := (hb.cell (p := ⟨b, off + j * 2, none⟩) hs1).trans j0; have y5 := (hb.cell (p := ⟨b, off + j * 2 + 1, none⟩) hs1).trans j1))
  all_goals
    go_wp2
    go_ret
    exact ⟨rfl, hb0.drew.trans (hb.mono hb0.drew.size)⟩

end Go.Proofs.Ytnmaljieaflnmaa
