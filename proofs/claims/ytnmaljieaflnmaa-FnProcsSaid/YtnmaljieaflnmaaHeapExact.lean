/-
  The exact laws on heaps, told what the program's own functions answer.
-/
import Derived.Test.YtnmaljieaflnmaaSlotLaws
import Derived.Test.YtnmaljieaflnmaaHeapPush
namespace Go.Proofs.Ytnmaljieaflnmaa
open Go.RowKit Go.Joins
set_option linter.unusedVariables false

/-- what a sift of the program's is to answer -/
def Sifts (fn : FuncId) (M : Slots → Nat → Int → Slots) : Prop := ∀ (v : Value) (n : Nat) (f : Slots) (i : Int) (w : World), n ≤ 1048576 → RowAt w v n f → Calls Try.prog fn #[v, .int .i64 i] w (NewRow n (M f n i) w)
/-- the law's size test: too long -/
theorem big_n {n : Nat} (h : ¬ n ≤ 1048576) : (if (1048576 : Int) < (n : Int) then (-1 : Int) else 1048576 - (n : Int)) = -1 := if_pos (by omega)
theorem small_n {n : Nat} (h : n ≤ 1048576) : (if (1048576 : Int) < (n : Int) then (-1 : Int) else 1048576 - (n : Int)) = 1048576 - (n : Int) := if_neg (by omega)

/-! ### exRaised -/
/-! ### exSunk -/
/-- what a question of the program's is to answer -/
def AsksB (fn : FuncId) (M : Slots → Nat → Bool) : Prop := ∀ (v : Value) (n : Nat) (f : Slots) (w : World), n ≤ 1048576 → RowAt w v n f → Calls Try.prog fn #[v] w fun e w' => e = .returned (.bool (M f n)) ∧ Below w.heap.size w w'
def AsksI (fn : FuncId) (M : Slots → Nat → Int → Int) : Prop := ∀ (v : Value) (n : Nat) (f : Slots) (i : Int) (w : World), n ≤ 1048576 → RowAt w v n f → Calls Try.prog fn #[v, .int .i64 i] w fun e w' => e = .returned (.int .i64 (M f n i)) ∧ Below w.heap.size w w'
theorem spHeapOk_low {v : Value} {n : Nat} (f : Slots) {w : World} (hn : n ≤ 1048576) (h : RowAt w v n f) :
    Calls Try.prog 53 #[v] w fun e w' => e = .returned (.bool (heapB f n)) ∧ Below w.heap.size w w' :=
  (spHeapOk_any f hn h).mono fun e w' ⟨m, he, hw⟩ => ⟨he, by rw [hw]; exact b_drewN (Below.refl _ _) m⟩
def findM (f : Slots) (n : Nat) (i : Int) : Int := findFrom f n i 0
theorem spFindSlot_low {v : Value} {n : Nat} (f : Slots) (i : Int) {w : World} (hn : n ≤ 1048576) (h : RowAt w v n f) :
    Calls Try.prog 66 #[v, .int .i64 i] w fun e w' => e = .returned (.int .i64 (findM f n i)) ∧ Below w.heap.size w w' :=
  (spFindSlot_any f i hn h).mono fun e w' ⟨he, hw⟩ => ⟨he, by rw [← hw]; exact Below.refl _ _⟩

/-! ### exHeapOk -/
/-! ### exFindSlot -/
/-! ### exPulled: a list and a slot and a word, asked of one list and one number -/
theorem blk_step {w w' : World} {b : Nat} {o : Obj} (h : w.heap[b]? = some o) (hb : Below w.heap.size w w') : w'.heap[b]? = some o := b_block hb h (lt_of_block h)
theorem blk_kept {w w' : World} {b : Nat} {o : Obj} {ob : Option Nat} (h : w.heap[b]? = some o) (hg : w.grownBy w' ob) (hne : ∀ g, ob = some g → g ≠ b) : w'.heap[b]? = some o :=
  (hg.block b (lt_of_block h) (by intro e; exact hne b e.symm rfl)).trans h

theorem pulledN_le {n : Nat} (i : Int) (hn : n ≤ 1048576) : pulledN n i ≤ 1048576 := by unfold pulledN; split <;> omega
/-- what the program's PulledOff is to answer -/
def Pulls (fn : FuncId) : Prop := ∀ (v : Value) (n : Nat) (f : Slots) (i : Int) (w : World), n ≤ 1048576 → RowAt w v n f → Calls Try.prog fn #[v, .int .i64 i] w (NewRowS (pulledN n i) (pulledF f n i) (pulledS f n i) (hasB n i) w)

end Go.Proofs.Ytnmaljieaflnmaa
