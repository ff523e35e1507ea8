/-
  Small lemmas that every law of this seat uses: what lies below a call's first new block, and the last step of a row whose call leaves all that was there as it was.
-/
import Derived.Test.YtflekodaiejflaaGreatDoorRows
import Derived.WalkKit
import Derived.ProofKit
import Derived.Below
import Derived.WalkSpells
import Derived.WalkLawsBesides
import Derived.Lib.Hide
import Derived.LoopTactic
import Derived.Deep.QuietTactic
import Derived.BigQuiet
import Derived.OneCell
import Derived.Deep.RegionWith
import Derived.Deep.RegionHeld3
import Derived.Lib.SmallJoins
import Derived.Laws.BitsAllLaws
import Derived.Maps.AppendAt
import Derived.Laws.AppendOwn
import Derived.OwnWalk
import Derived.Laws.MakeOwn
namespace Go.Proofs.YtflekodaiejflaaGreatDoor
open Go.RowKit Go.WideShapes Go.ChangeShapes

theorem own : ownKnob Tryz.prog.godebug = none := by kernel_rfl

theorem bcell {W w1 : World} (hb : Below W.heap.size W w1) : (∀ b o, b < W.heap.size → w1.cell? ⟨b, o, none⟩ = W.cell? ⟨b, o, none⟩) ∧ (∀ b o, b < W.heap.size → w1.frozen? ⟨b, o, none⟩ = W.frozen? ⟨b, o, none⟩) :=
  ⟨fun b o h => hb.cell (p := ⟨b, o, none⟩) h, fun b o h => hb.frozen (p := ⟨b, o, none⟩) h⟩


theorem btrans {W a b : World} (h1 : Below W.heap.size W a) (h2 : Below a.heap.size a b) : Below W.heap.size W b := h1.trans (h2.mono h1.size)

end Go.Proofs.YtflekodaiejflaaGreatDoor

/-
  What a call leaves as it was: small lemmas on worlds, blocks and masks.
-/
namespace Go.Proofs.YtflekodaiejflaaGreatDoor
open Go.RowKit Go.Joins
set_option linter.unusedVariables false
set_option linter.unusedSimpArgs false

theorem g_refl (w : World) (r : Option Nat) : w.grownBy w r := ⟨rfl, rfl, rfl, Nat.le_refl _, fun _ _ _ => rfl⟩
theorem g_set {a w : World} {g : Nat} (h : a.grownBy w (some g)) {p : Addr} (hp : p.block = g ∨ a.heap.size ≤ p.block) (u : Value) : a.grownBy (w.setCell p u) (some g) :=
  ⟨h.os, h.tape, h.output, by simpa [World.setCell] using h.size, fun i hi hn => (Below.heap_setCell w p u i (by
    rintro rfl
    rcases hp with hp | hp
    · exact hn (by rw [hp])
    · omega)).trans (h.block i hi hn)⟩
theorem g_own {a w : World} {g : Nat} (h : a.grownBy w (some g)) (o : Nat) (u : Value) : a.grownBy (w.setCell ⟨g, o, none⟩ u) (some g) := g_set h (p := ⟨g, o, none⟩) (Or.inl rfl) u
theorem b_grown {a w : World} {B g : Nat} (h : a.grownBy w (some g)) (hB : B ≤ g) (hs : B ≤ a.heap.size) : Below B a w :=
  ⟨h.os, h.tape, h.output, h.size, fun i hi => h.block i (by omega) (by intro e; injection e; omega)⟩
theorem b_drewN {B : Nat} {a w : World} (h : Below B a w) (n : Nat) : Below B a (w.drewN n) := ⟨h.os, h.tape, h.output, h.size, h.block⟩
/-- cells and marks of all blocks but one -/
theorem g_cell {a w : World} {g : Nat} (h : a.grownBy w (some g)) {b : Nat} (hb : b < a.heap.size) (hn : b ≠ g) (o : Nat) : w.cell? ⟨b, o, none⟩ = a.cell? ⟨b, o, none⟩ :=
  World.cell?_of_block (h.block b hb (by intro e; injection e; contradiction))
theorem g_block {a w : World} {g : Nat} (h : a.grownBy w (some g)) {b : Nat} {o : Obj} (hb : a.heap[b]? = some o) (hn : b ≠ g) : w.heap[b]? = some o :=
  (h.block b (lt_of_block hb) (by intro e; injection e; contradiction)).trans hb
/-- a block of three cells: what they hold, that they may be written -/
theorem three {w : World} {b : Nat} {x y z : Value} {t : TypeId} (h : w.heap[b]? = some (.cells #[x, y, z] t (0, 0))) :
    w.cell? ⟨b, 0, none⟩ = some x ∧ w.cell? ⟨b, 1, none⟩ = some y ∧ w.cell? ⟨b, 2, none⟩ = some z ∧ w.frozen? ⟨b, 0, none⟩ = false ∧ w.frozen? ⟨b, 1, none⟩ = false ∧ w.frozen? ⟨b, 2, none⟩ = false :=
  ⟨cell_of_block h 0, cell_of_block h 1, cell_of_block h 2, unfrozen_of_block h 0, unfrozen_of_block h 1, unfrozen_of_block h 2⟩
theorem alloc_block {w : World} {b : Nat} {o : Obj} (o' : Obj) (h : w.heap[b]? = some o) : (w.alloc o').heap[b]? = some o := (Below.heap_alloc w o' b (lt_of_block h)).trans h

theorem b_block {W w : World} {B b : Nat} {o : Obj} (h : Below B W w) (hb : W.heap[b]? = some o) (hl : b < B) : w.heap[b]? = some o := (h.block b hl).trans hb

theorem laidOut : laidOutB Tryz.prog = true := by kernel_rfl
theorem b_block_lt {w w' : World} {b : Nat} {o : Obj} (h : Below w.heap.size w w') (hb : w.heap[b]? = some o) : w'.heap[b]? = some o ∧ b < w.heap.size := ⟨b_block h hb (lt_of_block hb), lt_of_block hb⟩

end Go.Proofs.YtflekodaiejflaaGreatDoor

/-
  Is a number within two others?
-/
namespace Go.Proofs.YtflekodaiejflaaGreatDoor
open Go.RowKit
set_option linter.unusedVariables false
set_option linter.unusedSimpArgs false

def inB (n lo hi : Int) : Bool := decide (lo ≤ n) && decide (n ≤ hi)
theorem inB_t {n lo hi : Int} (h1 : lo ≤ n) (h2 : n ≤ hi) : inB n lo hi = true := by simp [inB, h1, h2]
theorem inB_lo {n lo hi : Int} (h1 : ¬ lo ≤ n) : inB n lo hi = false := by simp only [inB, Bool.and_eq_false_iff, decide_eq_false_iff_not]; exact .inl h1
theorem inB_hi {n lo hi : Int} (h1 : ¬ n ≤ hi) : inB n lo hi = false := by simp only [inB, Bool.and_eq_false_iff, decide_eq_false_iff_not]; exact .inr h1
theorem inB_iff {n lo hi : Int} : inB n lo hi = true ↔ lo ≤ n ∧ n ≤ hi := by simp [inB]

set_option maxHeartbeats 400000 in
theorem l1In_any (n lo hi : Int) (w : World) :
    Calls Tryz.prog 91 #[.int .i64 n, .int .i64 lo, .int .i64 hi] w fun e w' => e = .returned (.bool (inB n lo hi)) ∧ w = w' := by
  by_cases h1 : lo ≤ n
  · by_cases h2 : n ≤ hi
    · rw [inB_t h1 h2]
      go_enter Tryz.func91, Tryz.ntmps91
      go_wp2
      go_ret
      exact ⟨rfl, rfl⟩
    · rw [inB_hi h2]
      go_enter Tryz.func91, Tryz.ntmps91
      go_wp2
      go_ret
      exact ⟨rfl, rfl⟩
  · rw [inB_lo h1]
    go_enter Tryz.func91, Tryz.ntmps91
    go_wp2
    go_ret
    exact ⟨rfl, rfl⟩

end Go.Proofs.YtflekodaiejflaaGreatDoor

/-
  Plans (spec, chapter 1): is a plan right?
-/
namespace Go.Proofs.YtflekodaiejflaaGreatDoor
open Go.RowKit
set_option linter.unusedVariables false
set_option linter.unusedSimpArgs false

/-- is the plan right? -/
def planB (a b c : Int) : Bool := inB a 1 6 && (inB b 1 8 && inB c 1 30)

theorem planB_iff {a b c : Int} : planB a b c = true ↔ (1 ≤ a ∧ a ≤ 6) ∧ (1 ≤ b ∧ b ≤ 8) ∧ (1 ≤ c ∧ c ≤ 30) := by simp [planB, inB_iff]

set_option maxHeartbeats 400000 in
theorem spPlanOk_any (a b c : Int) (w : World) :
    Calls Tryz.prog 90 #[.agg #[.int .i64 a, .int .i64 b, .int .i64 c]] w fun e w' => e = .returned (.bool (planB a b c)) ∧ Below w.heap.size w w' := by
  cases h1 : inB a 1 6
  · have hp : planB a b c = false := by simp [planB, h1]
    rw [hp]
    go_enter Tryz.func90, Tryz.ntmps90
    go_wp2_with (go_at_call 91; refine (l1In_any _ _ _ _).mono ?_; rintro e w' ⟨rfl, rfl⟩)
    go_ret
    exact ⟨rfl, (Below.refl _ _).alloc (Nat.le_refl _) _⟩
  · cases h2 : inB b 1 8
    · have hp : planB a b c = false := by simp [planB, h1, h2]
      rw [hp]
      go_enter Tryz.func90, Tryz.ntmps90
      go_wp2_with (go_at_call 91; refine (l1In_any _ _ _ _).mono ?_; rintro e w' ⟨rfl, rfl⟩)
      go_ret
      exact ⟨rfl, (Below.refl _ _).alloc (Nat.le_refl _) _⟩
    · cases h3 : inB c 1 30
      · have hp : planB a b c = false := by simp [planB, h1, h2, h3]
        rw [hp]
        go_enter Tryz.func90, Tryz.ntmps90
        go_wp2_with (go_at_call 91; refine (l1In_any _ _ _ _).mono ?_; rintro e w' ⟨rfl, rfl⟩)
        go_ret
        exact ⟨rfl, (Below.refl _ _).alloc (Nat.le_refl _) _⟩
      · have hp : planB a b c = true := by simp [planB, h1, h2, h3]
        rw [hp]
        go_enter Tryz.func90, Tryz.ntmps90
        go_wp2_with (go_at_call 91; refine (l1In_any _ _ _ _).mono ?_; rintro e w' ⟨rfl, rfl⟩)
        go_ret
        exact ⟨rfl, (Below.refl _ _).alloc (Nat.le_refl _) _⟩

end Go.Proofs.YtflekodaiejflaaGreatDoor

/-
  Is there such a worker (spec, chapter 1)?
-/
namespace Go.Proofs.YtflekodaiejflaaGreatDoor
open Go.RowKit
set_option linter.unusedVariables false
set_option linter.unusedSimpArgs false

def workB (a b c w : Int) : Bool := planB a b c && inB w 0 (b - 1)

theorem workB_no {a b c w : Int} (h : planB a b c = false) : workB a b c w = false := by simp [workB, h]

theorem workB_out {a b c w : Int} (h : inB w 0 (b - 1) = false) : workB a b c w = false := by simp [workB, h]

theorem workB_yes {a b c w : Int} (h : planB a b c = true) (h1 : inB w 0 (b - 1) = true) : workB a b c w = true := by simp [workB, h, h1]

theorem workB_iff {a b c w : Int} : workB a b c w = true ↔ planB a b c = true ∧ 0 ≤ w ∧ w ≤ b - 1 := by simp [workB, inB_iff]

set_option maxHeartbeats 400000 in
theorem l1Worker_any (a b c n : Int) (w : World) :
    Calls Tryz.prog 65 #[.agg #[.int .i64 a, .int .i64 b, .int .i64 c], .int .i64 n] w fun e w' => e = .returned (.bool (workB a b c n)) ∧ Below w.heap.size w w' := by
  cases h1 : planB a b c
  · rw [workB_no h1]
    go_enter Tryz.func65, Tryz.ntmps65
    go_wp2_with (go_at_call 90; refine (spPlanOk_any _ _ _ _).mono ?_; rintro e w1 ⟨rfl, hb⟩)
    go_ret
    exact ⟨rfl, ((Below.refl _ _).alloc (Nat.le_refl _) _).trans (hb.mono (by simp))⟩
  · obtain ⟨b1, ⟨b2, b3⟩, b4⟩ := planB_iff.1 h1
    cases h2 : inB n 0 (b - 1)
    · rw [workB_out h2]
      go_enter Tryz.func65, Tryz.ntmps65
      go_wp2_with (first
        | (go_at_call 90; refine (spPlanOk_any _ _ _ _).mono ?_; rintro e w1 ⟨rfl, hb⟩; obtain ⟨hc, hf⟩ := bcell hb)
        | (go_at_call 91; refine (l1In_any _ _ _ _).mono ?_; rintro e w' ⟨rfl, rfl⟩))
      go_ret
      exact ⟨rfl, ((Below.refl _ _).alloc (Nat.le_refl _) _).trans (hb.mono (by simp))⟩
    · rw [workB_yes h1 h2]
      go_enter Tryz.func65, Tryz.ntmps65
      go_wp2_with (first
        | (go_at_call 90; refine (spPlanOk_any _ _ _ _).mono ?_; rintro e w1 ⟨rfl, hb⟩; obtain ⟨hc, hf⟩ := bcell hb)
        | (go_at_call 91; refine (l1In_any _ _ _ _).mono ?_; rintro e w' ⟨rfl, rfl⟩))
      go_ret
      exact ⟨rfl, ((Below.refl _ _).alloc (Nat.le_refl _) _).trans (hb.mono (by simp))⟩

end Go.Proofs.YtflekodaiejflaaGreatDoor

/-
  Is it a time (spec, chapter 1)?
-/
namespace Go.Proofs.YtflekodaiejflaaGreatDoor
open Go.RowKit
set_option linter.unusedVariables false
set_option linter.unusedSimpArgs false

set_option maxHeartbeats 400000 in
theorem l1Time_any (t : Int) (w : World) :
    Calls Tryz.prog 97 #[.int .i64 t] w fun e w' => e = .returned (.bool (inB t 0 1000000000)) ∧ w = w' := by
  go_enter Tryz.func97, Tryz.ntmps97
  go_wp2_with (go_at_call 91; refine (l1In_any _ _ _ _).mono ?_; rintro e w1 ⟨rfl, rfl⟩)
  go_ret
  exact ⟨rfl, rfl⟩

end Go.Proofs.YtflekodaiejflaaGreatDoor

/-
  The least and the greatest of two.
-/
namespace Go.Proofs.YtflekodaiejflaaGreatDoor
open Go.RowKit
set_option linter.unusedVariables false
set_option linter.unusedSimpArgs false

def minI (a b : Int) : Int := if a < b then a else b
def maxI (a b : Int) : Int := if b < a then a else b
set_option maxHeartbeats 400000 in
theorem l1Min_any (a b : Int) (w : World) : Calls Tryz.prog 58 #[.int .i64 a, .int .i64 b] w fun e w' => e = .returned (.int .i64 (minI a b)) ∧ w = w' := by
  by_cases h : a < b
  · rw [show minI a b = a from if_pos h]
    go_enter Tryz.func58, Tryz.ntmps58
    go_wp2
    go_ret
    exact ⟨rfl, rfl⟩
  · rw [show minI a b = b from if_neg h]
    go_enter Tryz.func58, Tryz.ntmps58
    go_wp2
    go_ret
    exact ⟨rfl, rfl⟩
set_option maxHeartbeats 400000 in
theorem l1Max_any (a b : Int) (w : World) : Calls Tryz.prog 121 #[.int .i64 a, .int .i64 b] w fun e w' => e = .returned (.int .i64 (maxI a b)) ∧ w = w' := by
  by_cases h : b < a
  · rw [show maxI a b = a from if_pos h]
    go_enter Tryz.func121, Tryz.ntmps121
    go_wp2
    go_ret
    exact ⟨rfl, rfl⟩
  · rw [show maxI a b = b from if_neg h]
    go_enter Tryz.func121, Tryz.ntmps121
    go_wp2
    go_ret
    exact ⟨rfl, rfl⟩

end Go.Proofs.YtflekodaiejflaaGreatDoor

/-
  Heaps, plainly: what the two sifts make of a list of slots (a function from places to slots, and a length). No Go in sight.
-/
namespace Go.Proofs.YtflekodaiejflaaGreatDoor
set_option linter.unusedVariables false
set_option linter.unusedSimpArgs false

abbrev Slots := Nat → Int × Int
def putF (f : Slots) (i : Nat) (s : Int × Int) : Slots := fun k => if k = i then s else f k
def swapF (f : Slots) (i j : Nat) : Slots := putF (putF f i (f j)) j (f i)
theorem putF_same (f : Slots) (i : Nat) (s : Int × Int) : putF f i s i = s := by simp [putF]
theorem putF_other (f : Slots) {i k : Nat} (s : Int × Int) (h : k ≠ i) : putF f i s k = f k := by simp [putF, h]

/-- as long as it has a parent with a greater key -/
def upB (f : Slots) (i : Nat) : Bool := decide (0 < i) && decide ((f i).2 < (f ((i - 1) / 4)).2)
def raiseF (f : Slots) (i : Nat) : Slots := if h : upB f i = true then raiseF (swapF f i ((i - 1) / 4)) ((i - 1) / 4) else f
termination_by i
decreasing_by simp [upB] at h; omega
/-- of c children from k on, the first of the least key, if that is less than b's -/
def bestG (f : Slots) (n : Nat) : Nat → Nat → Nat → Nat
  | 0, _, b => b
  | c + 1, k, b => if k < n then bestG f n c (k + 1) (if (f k).2 < (f b).2 then k else b) else b
def bestF (f : Slots) (n i : Nat) : Nat := bestG f n 4 (4 * i + 1) i
/-- as long as it has a child with a lesser key, with the first one of the least -/
def sinkF (f : Slots) (n i : Nat) : Slots := if h : i < bestF f n i ∧ bestF f n i < n then sinkF (swapF f i (bestF f n i)) n (bestF f n i) else f
termination_by n - i
/-- is there such a slot? -/
def hasB (n : Nat) (i : Int) : Bool := decide (0 ≤ i) && decide (i ≤ (n : Int) - 1)
def raisedF (f : Slots) (n : Nat) (i : Int) : Slots := if hasB n i then raiseF f i.toNat else f
def sunkF (f : Slots) (n : Nat) (i : Int) : Slots := if hasB n i then sinkF f n i.toNat else f

/-- is it a heap from place k on? -/
def heapFrom (f : Slots) (n : Nat) (k : Nat) : Bool := if h : k < n then !(decide ((f k).2 < (f ((k - 1) / 4)).2)) && heapFrom f n (k + 1) else true
termination_by n - k
theorem heapFrom_out {f : Slots} {n k : Nat} (h : ¬ k < n) : heapFrom f n k = true := by rw [heapFrom, dif_neg h]
theorem heapFrom_bad {f : Slots} {n k : Nat} (h : k < n) (hb : (f k).2 < (f ((k - 1) / 4)).2) : heapFrom f n k = false := by rw [heapFrom, dif_pos h]; simp [hb]
theorem heapFrom_good {f : Slots} {n k : Nat} (h : k < n) (hb : ¬ (f k).2 < (f ((k - 1) / 4)).2) : heapFrom f n k = heapFrom f n (k + 1) := by
  rw [heapFrom, dif_pos h]; simp [Int.not_lt.1 hb]
def heapB (f : Slots) (n : Nat) : Bool := heapFrom f n 1 && decide (n ≤ 30)

/-- the place of the first one of that name, from k on; -1 -/
def findFrom (f : Slots) (n : Nat) (id : Int) (k : Nat) : Int := if h : k < n then (if (f k).1 = id then (k : Int) else findFrom f n id (k + 1)) else -1
termination_by n - k
theorem findFrom_out {f : Slots} {n k : Nat} {id : Int} (h : ¬ k < n) : findFrom f n id k = -1 := by rw [findFrom, dif_neg h]
theorem findFrom_here {f : Slots} {n k : Nat} {id : Int} (h : k < n) (he : (f k).1 = id) : findFrom f n id k = k := by rw [findFrom, dif_pos h, if_pos he]
theorem findFrom_next {f : Slots} {n k : Nat} {id : Int} (h : k < n) (he : ¬ (f k).1 = id) : findFrom f n id k = findFrom f n id (k + 1) := by rw [findFrom, dif_pos h, if_neg he]

/-- the slot k taken out, k being one of them -/
def pulledFk (f : Slots) (n k : Nat) : Slots := if k < n - 1 then sinkF (raiseF (putF f k (f (n - 1))) k) (n - 1) k else f

end Go.Proofs.YtflekodaiejflaaGreatDoor

/-
  Lists of slots in memory: one that is read, and one that the call itself made.
-/
namespace Go.Proofs.YtflekodaiejflaaGreatDoor
open Go.RowKit Go.Joins
set_option linter.unusedVariables false
set_option linter.unusedSimpArgs false

/-! ### a list that is read: no slots, or slots whose cells can be read -/
def RowAt (w : World) (v : Value) (n : Nat) (f : Slots) : Prop :=
  (n = 0 ∧ ∃ a cap, v = .slice a 0 cap) ∨ ∃ b off cap, v = .slice (some ⟨b, off, none⟩) n cap ∧ b < w.heap.size ∧
    ∀ i, i < n → w.cell? ⟨b, off + i * 2, none⟩ = some (.int .i64 (f i).1) ∧ w.cell? ⟨b, off + i * 2 + 1, none⟩ = some (.int .i64 (f i).2)
theorem RowAt.form {w : World} {v : Value} {n : Nat} {f : Slots} (h : RowAt w v n f) : ∃ a cap, v = .slice a n cap := by
  rcases h with ⟨rfl, a, cap, rfl⟩ | ⟨b, off, cap, rfl, _⟩
  · exact ⟨_, _, rfl⟩
  · exact ⟨_, _, rfl⟩
theorem RowAt.below {w w' : World} {v : Value} {n : Nat} {f : Slots} (h : RowAt w v n f) (hb : Below w.heap.size w w') : RowAt w' v n f := by
  rcases h with h | ⟨b, off, cap, rfl, hl, hc⟩
  · exact .inl h
  · exact .inr ⟨b, off, cap, rfl, Nat.lt_of_lt_of_le hl hb.size, fun i hi => ⟨(hb.cell (p := ⟨b, off + i * 2, none⟩) hl).trans (hc i hi).1, (hb.cell (p := ⟨b, off + i * 2 + 1, none⟩) hl).trans (hc i hi).2⟩⟩
theorem RowAt.congr {w : World} {v : Value} {n : Nat} {f g : Slots} (h : RowAt w v n f) (e : ∀ i, i < n → f i = g i) : RowAt w v n g := by
  rcases h with h | ⟨b, off, cap, rfl, hl, hc⟩
  · exact .inl h
  · exact .inr ⟨b, off, cap, rfl, hl, fun i hi => by rw [← e i hi]; exact hc i hi⟩
theorem RowAt.drew {w : World} {v : Value} {n : Nat} {f : Slots} (h : RowAt w v n f) : RowAt w.drew v n f := h
theorem RowAt.drewN {w : World} {v : Value} {n : Nat} {f : Slots} (h : RowAt w v n f) (k : Nat) : RowAt (w.drewN k) v n f := h

/-! ### a list that the call made, in a block of its own from B on -/
def RowIn (cur : Array Value) (n : Nat) (f : Slots) : Prop := ∀ i, i < n → cur[i * 2]? = some (.int .i64 (f i).1) ∧ cur[i * 2 + 1]? = some (.int .i64 (f i).2)
def OwnAt (w : World) (B g n cap : Nat) (f : Slots) : Prop :=
  B ≤ g ∧ n ≤ cap ∧ cap ≤ maxLen ∧ ∃ cur, w.heap[g]? = some (.cells cur 133 (0, 0)) ∧ cur.size = cap * 2 ∧ RowIn cur n f
def OwnRow (w : World) (B : Nat) (v : Value) (n : Nat) (f : Slots) : Prop :=
  (n = 0 ∧ v = .slice none 0 0) ∨ ∃ g cap, v = .slice (some ⟨g, 0, none⟩) n cap ∧ OwnAt w B g n cap f
theorem OwnAt.lt {w : World} {B g n cap : Nat} {f : Slots} (h : OwnAt w B g n cap f) : g < w.heap.size := by
  obtain ⟨_, _, _, cur, hh, _⟩ := h
  exact lt_of_block hh
theorem OwnAt.cells {w : World} {B g n cap : Nat} {f : Slots} (h : OwnAt w B g n cap f) {i : Nat} (hi : i < n) :
    w.cell? ⟨g, i * 2, none⟩ = some (.int .i64 (f i).1) ∧ w.cell? ⟨g, i * 2 + 1, none⟩ = some (.int .i64 (f i).2) := by
  obtain ⟨_, _, _, cur, hh, _, hr⟩ := h
  exact ⟨(cell_of_block hh _).trans (hr i hi).1, (cell_of_block hh _).trans (hr i hi).2⟩
theorem OwnAt.free {w : World} {B g n cap : Nat} {f : Slots} (h : OwnAt w B g n cap f) (o : Nat) : w.frozen? ⟨g, o, none⟩ = false := by
  obtain ⟨_, _, _, cur, hh, _⟩ := h
  exact unfrozen_of_block hh o
theorem OwnAt.row {w : World} {B g n cap : Nat} {f : Slots} (h : OwnAt w B g n cap f) : RowAt w (.slice (some ⟨g, 0, none⟩) n cap) n f :=
  .inr ⟨g, 0, cap, rfl, h.lt, fun i hi => by simpa using h.cells hi⟩
theorem OwnRow.row {w : World} {B n : Nat} {v : Value} {f : Slots} (h : OwnRow w B v n f) : RowAt w v n f := by
  rcases h with ⟨rfl, rfl⟩ | ⟨g, cap, rfl, h⟩
  · exact .inl ⟨rfl, _, _, rfl⟩
  · exact h.row
theorem OwnAt.own {w : World} {B g n cap : Nat} {f : Slots} (h : OwnAt w B g n cap f) : OwnRow w B (.slice (some ⟨g, 0, none⟩) n cap) n f := .inr ⟨g, cap, rfl, h⟩
theorem OwnAt.block {w w' : World} {B g n cap : Nat} {f : Slots} (h : OwnAt w B g n cap f) (e : w'.heap[g]? = w.heap[g]?) : OwnAt w' B g n cap f := by
  obtain ⟨h1, h2, h3, cur, hh, r⟩ := h
  exact ⟨h1, h2, h3, cur, e.trans hh, r⟩
theorem OwnAt.below {w w' : World} {B g n cap : Nat} {f : Slots} (h : OwnAt w B g n cap f) (hb : Below w.heap.size w w') : OwnAt w' B g n cap f := h.block (hb.block g h.lt)
theorem OwnAt.kept {w w' : World} {B g g' n cap : Nat} {f : Slots} (h : OwnAt w B g n cap f) (hk : w.grownBy w' (some g')) (hn : g ≠ g') : OwnAt w' B g n cap f :=
  h.block (hk.block g h.lt (by intro e; injection e; contradiction))
theorem OwnAt.alloc {w : World} {B g n cap : Nat} {f : Slots} (h : OwnAt w B g n cap f) (o : Obj) : OwnAt (w.alloc o) B g n cap f := h.block (Below.heap_alloc w o g h.lt)
theorem OwnAt.drewN {w : World} {B g n cap : Nat} {f : Slots} (h : OwnAt w B g n cap f) (k : Nat) : OwnAt (w.drewN k) B g n cap f := h
theorem OwnAt.drew {w : World} {B g n cap : Nat} {f : Slots} (h : OwnAt w B g n cap f) : OwnAt w.drew B g n cap f := h
theorem OwnAt.mono {w : World} {B B' g n cap : Nat} {f : Slots} (h : OwnAt w B g n cap f) (hB : B' ≤ B) : OwnAt w B' g n cap f := by
  obtain ⟨h1, r⟩ := h
  exact ⟨Nat.le_trans hB h1, r⟩
theorem OwnAt.congr {w : World} {B g n cap : Nat} {f f' : Slots} (h : OwnAt w B g n cap f) (e : ∀ i, i < n → f i = f' i) : OwnAt w B g n cap f' := by
  obtain ⟨h1, h2, h3, cur, hh, hs, hr⟩ := h
  exact ⟨h1, h2, h3, cur, hh, hs, fun i hi => by rw [← e i hi]; exact hr i hi⟩
/-- one slot less: the slice cut short -/
theorem OwnAt.cut {w : World} {B g n m cap : Nat} {f : Slots} (h : OwnAt w B g n cap f) (hm : m ≤ n) : OwnAt w B g m cap f := by
  obtain ⟨h1, h2, h3, cur, hh, hs, hr⟩ := h
  exact ⟨h1, Nat.le_trans hm h2, h3, cur, hh, hs, fun i hi => hr i (Nat.lt_of_lt_of_le hi hm)⟩
/-- a slot is stored -/
theorem OwnAt.put {w : World} {B g n cap : Nat} {f : Slots} (h : OwnAt w B g n cap f) {k : Nat} (hk : k < n) (x y : Int) :
    OwnAt ((w.setCell ⟨g, k * 2, none⟩ (.int .i64 x)).setCell ⟨g, k * 2 + 1, none⟩ (.int .i64 y)) B g n cap (putF f k (x, y)) := by
  obtain ⟨h1, h2, h3, cur, hh, hs, hr⟩ := h
  refine ⟨h1, h2, h3, _, block_setCell (block_setCell hh (i := k * 2) (.int .i64 x)) (i := k * 2 + 1) (.int .i64 y), by simp [hs], fun i hi => ?_⟩
  have hk2 : k * 2 + 1 < cur.size := by omega
  by_cases e : i = k
  · subst e
    rw [putF_same]
    constructor
    · rw [Array.getElem?_setIfInBounds_ne (by omega), Array.getElem?_setIfInBounds_self_of_lt (by omega)]
    · rw [Array.getElem?_setIfInBounds_self_of_lt (by simpa using hk2)]
  · rw [putF_other f _ e]
    constructor
    · rw [Array.getElem?_setIfInBounds_ne (by omega), Array.getElem?_setIfInBounds_ne (by omega)]; exact (hr i hi).1
    · rw [Array.getElem?_setIfInBounds_ne (by omega), Array.getElem?_setIfInBounds_ne (by omega)]; exact (hr i hi).2

/-! ### append -/
def cellsF (f : Slots) : Nat → List Value
  | 0 => []
  | n + 1 => cellsF f n ++ [.int .i64 (f n).1, .int .i64 (f n).2]
theorem cellsF_length (f : Slots) : ∀ n, (cellsF f n).length = n * 2
  | 0 => rfl
  | n + 1 => by rw [cellsF, List.length_append, cellsF_length f n]; simp; omega
theorem cellsF_get (f : Slots) : ∀ n i, i < n → (cellsF f n)[i * 2]? = some (.int .i64 (f i).1) ∧ (cellsF f n)[i * 2 + 1]? = some (.int .i64 (f i).2)
  | 0, i, h => absurd h (Nat.not_lt_zero _)
  | n + 1, i, h => by
    rw [cellsF]
    by_cases e : i = n
    · subst e
      constructor
      · rw [List.getElem?_append_right (by rw [cellsF_length]; omega), cellsF_length]; simp
      · rw [List.getElem?_append_right (by rw [cellsF_length]; omega), cellsF_length]; simp [Nat.add_sub_cancel_left]
    · obtain ⟨h1, h2⟩ := cellsF_get f n i (by omega)
      exact ⟨by rw [List.getElem?_append_left (by rw [cellsF_length]; omega)]; exact h1, by rw [List.getElem?_append_left (by rw [cellsF_length]; omega)]; exact h2⟩
theorem cellsF_at (f : Slots) (n j : Nat) (u : Value) (h : (cellsF f n)[j]? = some u) : ∃ i, i < n ∧ ((j = i * 2 ∧ u = .int .i64 (f i).1) ∨ (j = i * 2 + 1 ∧ u = .int .i64 (f i).2)) := by
  have hj : j < n * 2 := by
    have := (List.getElem?_eq_some_iff.1 h).1
    rwa [cellsF_length] at this
  have hi : j / 2 < n := by omega
  obtain ⟨h1, h2⟩ := cellsF_get f n (j / 2) hi
  rcases Nat.mod_two_eq_zero_or_one j with e | e
  · have ej : j / 2 * 2 = j := by omega
    rw [ej, h] at h1
    injection h1 with h1
    exact ⟨j / 2, hi, .inl ⟨by omega, h1⟩⟩
  · have ej : j / 2 * 2 + 1 = j := by omega
    rw [ej, h] at h2
    injection h2 with h2
    exact ⟨j / 2, hi, .inr ⟨by omega, h2⟩⟩
theorem cellsF_one (f : Slots) (n : Nat) : ∀ u ∈ cellsF f n, u.oneCell' = true := by
  intro u hu
  obtain ⟨j, hj, e⟩ := List.getElem_of_mem hu
  obtain ⟨i, _, ⟨_, rfl⟩ | ⟨_, rfl⟩⟩ := cellsF_at f n j u (by rw [List.getElem?_eq_getElem hj, e])
  · rfl
  · rfl
/-- what a row of the library's says of such a list -/
theorem own_of_row {w : World} {B n : Nat} {v : Value} {f : Slots} (h : w.ownsRow B 133 2 v n (cellsF f n)) : OwnRow w B v n f := by
  rcases h.2 with ⟨rfl, rfl⟩ | ⟨g, cap, cur, rfl, hB, hg, hn, hcm, hs, ht⟩
  · exact .inl ⟨rfl, rfl⟩
  · refine .inr ⟨g, cap, rfl, hB, hn, hcm, cur, hg, hs, fun i hi => ?_⟩
    obtain ⟨h1, h2⟩ := cellsF_get f n i hi
    rw [← ht] at h1 h2
    rw [List.getElem?_take_of_lt (by omega)] at h1 h2
    exact ⟨by simpa using h1, by simpa using h2⟩
theorem OwnRow.below {w w' : World} {B n : Nat} {v : Value} {f : Slots} (h : OwnRow w B v n f) (hb : Below w.heap.size w w') : OwnRow w' B v n f := by
  rcases h with h | ⟨g, cap, e, h⟩
  · exact .inl h
  · exact .inr ⟨g, cap, e, h.below hb⟩
theorem OwnRow.alloc {w : World} {B n : Nat} {v : Value} {f : Slots} (h : OwnRow w B v n f) (o : Obj) : OwnRow (w.alloc o) B v n f := h.below ((Below.refl _ _).alloc (Nat.le_refl _) _)
theorem OwnRow.mono {w : World} {B B' n : Nat} {v : Value} {f : Slots} (h : OwnRow w B v n f) (hB : B' ≤ B) : OwnRow w B' v n f := by
  rcases h with h | ⟨g, cap, e, h⟩
  · exact .inl h
  · exact .inr ⟨g, cap, e, h.mono hB⟩
theorem OwnRow.congr {w : World} {B n : Nat} {v : Value} {f f' : Slots} (h : OwnRow w B v n f) (e : ∀ i, i < n → f i = f' i) : OwnRow w B v n f' := by
  rcases h with h | ⟨g, cap, e1, h⟩
  · exact .inl h
  · exact .inr ⟨g, cap, e1, h.congr e⟩
theorem OwnRow.set {w : World} {B n : Nat} {v : Value} {f : Slots} (h : OwnRow w B v n f) {b : Nat} (hb : b < B) (o : Nat) (u : Value) : OwnRow (w.setCell ⟨b, o, none⟩ u) B v n f := by
  rcases h with h | ⟨g, cap, e, h⟩
  · exact .inl h
  · exact .inr ⟨g, cap, e, h.block (Below.heap_setCell w ⟨b, o, none⟩ u g (by have := h.1; intro e; subst e; exact absurd hb (by simpa using this)))⟩
theorem OwnRow.drewN {w : World} {B n : Nat} {v : Value} {f : Slots} (h : OwnRow w B v n f) (k : Nat) : OwnRow (w.drewN k) B v n f := h
theorem OwnRow.drew {w : World} {B n : Nat} {v : Value} {f : Slots} (h : OwnRow w B v n f) : OwnRow w.drew B v n f := h
end Go.Proofs.YtflekodaiejflaaGreatDoor

/-
  The model's own functions on heaps (spec, chapter 2): what each answers.
-/
namespace Go.Proofs.YtflekodaiejflaaGreatDoor
open Go.RowKit Go.Joins
set_option linter.unusedVariables false
set_option linter.unusedSimpArgs false

/-! ### append onto a list of the call's own, from a list that is read -/
theorem slot_info : (Tryz.prog.info? 133).map (fun i => (i.zero, i.size, i.bytes)) = some (some (.agg #[.int .i64 0, .int .i64 0]), 2, 16) := by kernel_rfl

theorem run_append_slots (w : World) (B : Nat) (ty : TypeId) (v : Value) (n : Nat) (f : Slots) (hown : w.ownsRow B 133 2 v n (cellsF f n)) (x : Value) (m : Nat) (h : Slots) (hx : RowAt w x m h) (hn : n + m ≤ 4194304) (hB : B ≤ w.heap.size) :
    ∃ v' w', (Builtin.append_ #[81, 81] ty #[v, x]).run Tryz.prog w = .ok v' w' ∧ w'.ownsRow B 133 2 v' (n + m) (cellsF f n ++ cellsF h m) ∧ w.grownBy w' v.ownBlock ∧ (v'.ownBlock = v.ownBlock ∨ v'.ownBlock = some w.heap.size) := by
  obtain ⟨i0, hi, hz, hs, hby⟩ := info_parts slot_info
  have hbytes : (n + m) * 16 ≤ 140737488355328 := by omega
  have h63 : n + m ≤ maxLen := by unfold maxLen; omega
  rcases hx with ⟨rfl, a, cap, rfl⟩ | ⟨b, off, cap, rfl, hl, hc⟩
  · rcases a with _ | ad
    · refine ⟨v, w, ?_, by simpa [cellsF] using hown, g_refl w _, .inl rfl⟩
      rcases hown.2 with ⟨rfl, rfl⟩ | ⟨g, cap', cur, rfl, _, _, hnc, _⟩
      · simp [Builtin.append_, run_underlying Tryz.underlying81, sizeOf, typeInfo, hi, Builtin.lenOf, Builtin.firstCells]
      · simp [Builtin.append_, run_underlying Tryz.underlying81, sizeOf, typeInfo, hi, Builtin.lenOf, Builtin.firstCells, hnc, storeCells]
    · obtain ⟨v', w', hrun, h2, h3, _, h5⟩ := run_append_own_at (P := Tryz.prog) w B 81 ty 133 i0 _ 2 16 Tryz.underlying81 hi hz hs hby rfl (by decide) v n _ hown ad 0 cap [] rfl (by simp) (by simp) h63 hbytes hB
      exact ⟨v', w', hrun, by simpa [cellsF] using h2, h3, h5⟩
  · obtain ⟨v', w', hrun, h2, h3, _, h5⟩ := run_append_own_at (P := Tryz.prog) w B 81 ty 133 i0 _ 2 16 Tryz.underlying81 hi hz hs hby rfl (by decide) v n _ hown ⟨b, off, none⟩ m cap (cellsF h m) (cellsF_length h m)
      (fun j u hu => by
        obtain ⟨i, hi, ⟨rfl, rfl⟩ | ⟨rfl, rfl⟩⟩ := cellsF_at h m j u hu
        · rw [Go.WideShapes.add_plain]; exact (hc i hi).1
        · rw [Go.WideShapes.add_plain, ← Nat.add_assoc]; exact (hc i hi).2) (cellsF_one h m) h63 hbytes hB
    exact ⟨v', w', hrun, h2, h3, h5⟩

theorem wp_append_slots {o : Oper} {a : Act} {K : Act → World → Prop} {Q : Exit → Act → World → Prop} {w : World} (s x : Operand)
    (ho : o.op = .call { callee := .builtin .append, args := #[s, x], argTypes := #[81, 81] })
    (B : Nat) (v : Value) (n : Nat) (f : Slots) (hs : a.eval s = v) (hown : w.ownsRow B 133 2 v n (cellsF f n)) (y : Value) (m : Nat) (h : Slots) (hx : a.eval x = y) (hrow : RowAt w y m h) (hn : n + m ≤ 4194304) (hB : B ≤ w.heap.size)
    (hK : ∀ v' w', w'.ownsRow B 133 2 v' (n + m) (cellsF f n ++ cellsF h m) → w.grownBy w' v.ownBlock → (v'.ownBlock = v.ownBlock ∨ v'.ownBlock = some w.heap.size) → K (a.put o.dst v') w') : o.wp Tryz.prog a w K Q := by
  obtain ⟨v', w', hr, h2, h3, h4⟩ := run_append_slots w B o.type v n f hown y m h hrow hn hB
  unfold Oper.wp execOp
  simp only [ho, resolve, invoke, builtin, Sem.run_bind, Sem.run_pure, Result.andThen_ok, List.map_toArray, List.map_cons, List.map_nil, hs, hx, hr]
  exact hK v' w' h2 h3 h4
theorem wpList_append_slots {ops : Array Oper} {rest : List Oper} {o : Oper} {a : Act} {Q : Exit → Act → World → Prop} {w : World} (hgd : o.guard = none) (s x : Operand)
    (ho : o.op = .call { callee := .builtin .append, args := #[s, x], argTypes := #[81, 81] })
    (B : Nat) (v : Value) (n : Nat) (f : Slots) (hs : a.eval s = v) (hown : w.ownsRow B 133 2 v n (cellsF f n)) (y : Value) (m : Nat) (h : Slots) (hx : a.eval x = y) (hrow : RowAt w y m h) (hn : n + m ≤ 4194304) (hB : B ≤ w.heap.size)
    (hK : ∀ v' w', w'.ownsRow B 133 2 v' (n + m) (cellsF f n ++ cellsF h m) → w.grownBy w' v.ownBlock → (v'.ownBlock = v.ownBlock ∨ v'.ownBlock = some w.heap.size) → wpList Tryz.prog ops Q rest (a.put o.dst v') w') : wpList Tryz.prog ops Q (o :: rest) a w :=
  wpList_plain hgd fun _ hK' => wp_append_slots s x ho B v n f hs hown y m h hx hrow hn hB fun v' w' h2 h3 h4 => hK' _ _ (hK v' w' h2 h3 h4)
theorem append_zero {f h : Slots} {n : Nat} : cellsF f 0 ++ cellsF h n = cellsF h n := rfl

theorem ret_i64 {a b : Int} (h : a = b) : Ending.returned (.int .i64 a) = .returned (.int .i64 b) := by rw [h]
theorem ret_bool {a b : Bool} (h : a = b) : Ending.returned (.bool a) = .returned (.bool b) := by rw [h]
/-- a call that makes a new list -/
def NewRow (n : Nat) (f : Slots) (w : World) (e : Ending) (w' : World) : Prop := ∃ v, e = .returned v ∧ OwnRow w' w.heap.size v n f ∧ Below w.heap.size w w'

set_option maxHeartbeats 400000 in
theorem l2Copy_any {v : Value} {n : Nat} {f : Slots} {w : World} (hn : n ≤ 1048576) (h : RowAt w v n f) :
    Calls Tryz.prog 69 #[v] w (NewRow n f w) := by
  have H := Lib.hid (h.below ((Below.refl _ _).alloc (Nat.le_refl _) (.cells #[] 133)))
  have ho := Lib.hid (World.ownsRow_made w (base := w.heap.size) (e := 133) (size := 2) #[] 0 (Nat.le_refl _) (Nat.zero_le _) rfl)
  clear h
  go_enter Tryz.func69, Tryz.ntmps69
  go_wp2_with (first | (at_builtin; refine wpList_append_slots rfl (.tmp 3) (.tmp 4) rfl w.heap.size (.slice (some ⟨w.heap.size, 0, none⟩) 0 0) 0 f rfl ho.out v n f rfl H.out (by omega) (by simp) ?_; intro v' w' hown hg hat))
  go_ret
  rw [append_zero, Nat.zero_add] at hown
  exact ⟨_, rfl, own_of_row hown, ((Below.refl _ _).alloc (Nat.le_refl _) _).trans (b_grown hg (Nat.le_refl _) (by simp))⟩

set_option maxHeartbeats 400000 in
theorem spFindSlot_any {v : Value} {n : Nat} (f : Slots) (id : Int) {w : World} (hn : n ≤ 1048576) (h : RowAt w v n f) :
    Calls Tryz.prog 94 #[v, .int .i64 id] w fun e w' => e = .returned (.int .i64 (findFrom f n id 0)) ∧ w = w' := by
  rcases h with ⟨rfl, a, cap, rfl⟩ | ⟨b, off, cap, rfl, hl, hc⟩
  · rw [findFrom_out (Nat.lt_irrefl 0)]
    go_enter Tryz.func94, Tryz.ntmps94
    go_wp2
    go_loop [5] (fun i => i = .int .i64 0) (fun _ => 0)
    case atStart => rfl
    case round =>
      subst hrel
      go_wp2
      go_ret
      exact ⟨rfl, rfl⟩
  · have H := Lib.hid hc
    clear hc
    go_enter Tryz.func94, Tryz.ntmps94
    go_wp2
    go_loop [5] (fun i => ∃ k : Nat, k ≤ n ∧ i = .int .i64 k ∧ Hid (findFrom f n id 0 = findFrom f n id k)) (fun i => n - (intOf i).toNat)
    case atStart => exact ⟨0, Nat.zero_le _, rfl, Lib.hid rfl⟩
    case round =>
      obtain ⟨k, hk, rfl, hf⟩ := hrel
      by_cases hlt : k < n
      · have hck := (H.out k hlt).1
        by_cases he : (f k).1 = id
        · have hb : ((f k).1 == id) = true := by simpa using he
          have hfk := Lib.hid (hf.out.trans (findFrom_here hlt he))
          clear he hf
          go_wp2
          go_ret
          exact ⟨ret_i64 hfk.out.symm, rfl⟩
        · have hb : ((f k).1 == id) = false := by simpa using he
          have hfk := Lib.hid (hf.out.trans (findFrom_next hlt he))
          clear he hf
          go_wp2
          exact ⟨⟨k + 1, by omega, by go_num, hfk⟩, by simp [intOf]; omega⟩
      · have hfk := Lib.hid (hf.out.trans (findFrom_out hlt))
        clear hf
        go_wp2
        go_ret
        exact ⟨ret_i64 hfk.out.symm, rfl⟩

/-- a call that only reads -/
def ReadsB (x : Bool) (w : World) (e : Ending) (w' : World) : Prop := ∃ m, e = .returned (.bool x) ∧ w' = w.drewN m

set_option maxHeartbeats 400000 in
theorem spHeapOk_any {v : Value} {n : Nat} (f : Slots) {w : World} (hn : n ≤ 1048576) (h : RowAt w v n f) :
    Calls Tryz.prog 141 #[v] w (ReadsB (heapB f n) w) := by
  rcases h with ⟨rfl, a, cap, rfl⟩ | ⟨b, off, cap, rfl, hl, hc⟩
  · rw [show heapB f 0 = true by rw [heapB, heapFrom_out (by omega)]; rfl]
    go_enter Tryz.func141, Tryz.ntmps141
    go_wp2
    go_loop [3] (fun i => i = .int .i64 1) (fun _ => 0)
    case atStart => rfl
    case round =>
      subst hrel
      go_wp2
      go_ret
      exact ⟨0, rfl, rfl⟩
  · have H := Lib.hid hc
    clear hc
    go_enter Tryz.func141, Tryz.ntmps141
    go_wp2
    go_loopw [3] (fun i wr => ∃ k m : Nat, 1 ≤ k ∧ i = .int .i64 k ∧ wr = w.drewN m ∧ k ≤ n + 1 ∧ Hid (heapFrom f n 1 = heapFrom f n k)) (fun i _ => n + 1 - (intOf i).toNat)
    case atStart => exact ⟨1, 0, Nat.le_refl _, rfl, rfl, by omega, Lib.hid rfl⟩
    case round =>
      obtain ⟨k, m, hk1, rfl, rfl, hkn, hf⟩ := hrel
      by_cases hlt : k < n
      · have hck := (H.out k hlt).2
        have hcp := (H.out ((k - 1) / 4) (by omega)).2
        have e1 : IntKind.i64.wrap ((k : Int) - 1) = ((k - 1 : Nat) : Int) := by rw [IntKind.wrap_i64]; omega
        have e2 : ((k - 1 : Nat) : Int).tdiv 4 = ((k - 1) / 4 : Nat) := by rw [Int.tdiv_eq_ediv_of_nonneg (by omega)]; omega
        have b1 : (((k - 1) / 4 : Nat) : Int) < (n : Int) := by omega
        have b2 : (k : Int) < (n : Int) := by omega
        by_cases hlo : (f k).2 < (f ((k - 1) / 4)).2
        · have hd : decide ((f k).2 < (f ((k - 1) / 4)).2) = true := by simpa using hlo
          have hb : heapB f n = false := by rw [heapB, hf.out, heapFrom_bad hlt hlo]; rfl
          have HB := Lib.hid hb
          clear hb hlo hf
          go_wp2
          go_quiet (fail)
          clear e1 e2
          go_wp2
          simp only [World.drewN_drewN]
          go_ret
          exact ⟨_, ret_bool HB.out.symm, rfl⟩
        · have hd : decide ((f k).2 < (f ((k - 1) / 4)).2) = false := by simpa using hlo
          have hfk := Lib.hid (hf.out.trans (heapFrom_good hlt hlo))
          clear hlo hf
          go_wp2
          go_quiet (fail)
          clear e1 e2
          go_wp2
          try simp only [World.drewN_drewN]
          exact ⟨⟨k + 1, _, by omega, by go_num, rfl, by omega, hfk⟩, by simp [intOf]; omega⟩
      · have HB := Lib.hid (show heapB f n = decide ((n : Int) ≤ 30) by rw [heapB, hf.out, heapFrom_out hlt, Bool.true_and, decide_eq_decide]; omega)
        clear hf
        go_wp2
        go_ret
        exact ⟨_, ret_bool HB.out.symm, rfl⟩

end Go.Proofs.YtflekodaiejflaaGreatDoor

/-
  Processors (spec, chapter 4): what the model answers.
-/
namespace Go.Proofs.YtflekodaiejflaaGreatDoor
open Go.RowKit Go.Joins
set_option linter.unusedVariables false
set_option linter.unusedSimpArgs false

abbrev prV (v : Value) (l e d : Int) : Value := .agg #[v, .int .i64 l, .int .i64 e, .int .i64 d]
/-- no Id twice: the slot i's is none of the first k ones' -/
def diffTo (f : Slots) (i : Nat) : Nat → Bool
  | 0 => true
  | k + 1 => diffTo f i k && !((f i).1 == (f k).1)
def diffAll (f : Slots) : Nat → Bool
  | 0 => true
  | i + 1 => diffAll f i && diffTo f i i
theorem diffTo_bad {f : Slots} {i k : Nat} (h : diffTo f i k = false) : ∀ m, k ≤ m → diffTo f i m = false
  | 0, hm => by rw [Nat.le_zero.1 hm] at h; exact h
  | m + 1, hm => by
    by_cases e : k = m + 1
    · rw [← e]; exact h
    · rw [diffTo, diffTo_bad h m (by omega), Bool.false_and]
theorem diffAll_bad {f : Slots} {i : Nat} (h : diffAll f i = false) : ∀ m, i ≤ m → diffAll f m = false
  | 0, hm => by rw [Nat.le_zero.1 hm] at h; exact h
  | m + 1, hm => by
    by_cases e : i = m + 1
    · rw [← e]; exact h
    · rw [diffAll, diffAll_bad h m (by omega), Bool.false_and]
theorem diff_found {f : Slots} {n i k : Nat} (hi : i < n) (hk : k < i) (h : (f i).1 = (f k).1) : diffAll f n = false := by
  have h1 : diffTo f i (k + 1) = false := by rw [diffTo, h]; simp
  exact diffAll_bad (show diffAll f (i + 1) = false by rw [diffAll, diffTo_bad h1 i (by omega), Bool.and_false]) n (by omega)
/-- is a processor right? -/
def procOkB (a b c : Int) (f : Slots) (n : Nat) (l e d : Int) : Bool :=
  planB a b c && (heapB f n && ((l == -1 || workB a b c l) && ((e == -1 || inB e 0 1000000000) && (inB d 0 n && diffAll f n))))
/-- when is it to wake? -/
def wakeI (f : Slots) (n : Nat) (e : Int) : Int := if n = 0 then maxI e (-1) else if e < 0 then (f 0).2 else minI (f 0).2 e

end Go.Proofs.YtflekodaiejflaaGreatDoor

/-
  Processors (spec, chapter 4): is a processor right?
-/
namespace Go.Proofs.YtflekodaiejflaaGreatDoor
open Go.RowKit Go.Joins
set_option linter.unusedVariables false
set_option linter.unusedSimpArgs false

/-- what the long test says, and the world behind it -/
def HeadB (x : Bool) (N : Nat) (W : World) (w' : World) : Prop := Below N W w'

set_option maxRecDepth 100000 in
set_option maxHeartbeats 8000000 in
theorem spProcOk_any (a b c : Int) {v : Value} {n : Nat} {f : Slots} (l e d : Int) {w : World} (hn : n ≤ 1048576) (h : RowAt w v n f) :
    Calls Tryz.prog 125 #[.agg #[.int .i64 a, .int .i64 b, .int .i64 c], prV v l e d] w fun x w' => x = .returned (.bool (procOkB a b c f n l e d)) ∧ Below w.heap.size w w' := by
  have k0 := ((Below.refl w.heap.size w).alloc (Nat.le_refl _) (.cells #[.int .i64 a, .int .i64 b, .int .i64 c] 46)).alloc (by simp) (.cells #[v, .int .i64 l, .int .i64 e, .int .i64 d] 83)
  have HR := Lib.hid (h.below k0)
  have HX := Lib.hid (show ((w.alloc (.cells #[.int .i64 a, .int .i64 b, .int .i64 c] 46)).alloc (.cells #[v, .int .i64 l, .int .i64 e, .int .i64 d] 83)).heap[w.heap.size + 1]? = some (.cells #[v, .int .i64 l, .int .i64 e, .int .i64 d] 83 (0, 0)) by
    have := heap_alloc_new (w.alloc (.cells #[.int .i64 a, .int .i64 b, .int .i64 c] 46)) (.cells #[v, .int .i64 l, .int .i64 e, .int .i64 d] 83)
    simpa using this)
  obtain ⟨va, vc, hv⟩ := h.form
  clear h
  subst hv
  cases h1 : planB a b c
  · rw [show procOkB a b c f n l e d = false by simp [procOkB, h1]]
    go_enter Tryz.func125, Tryz.ntmps125
    go_wp2_with (first
        | (go_at_call 90; refine (spPlanOk_any _ _ _ _).mono ?_; rintro x w1 ⟨rfl, hb⟩; have hr1 := HR.out.below hb; obtain ⟨hc, hf⟩ := bcell hb)
        | (go_at_call 141; refine (spHeapOk_any f hn hr1).mono ?_; rintro x w2 ⟨m1, rfl, rfl⟩)
        | (go_at_call 65; refine (l1Worker_any _ _ _ _ _).mono ?_; rintro x w3 ⟨rfl, hb3⟩; have hb4 := (b_drewN hb m1).trans (hb3.mono (b_drewN hb m1).size); obtain ⟨hc3, hf3⟩ := bcell hb4)
        | (go_at_call 97; refine (l1Time_any _ _).mono ?_; rintro x w' ⟨rfl, rfl⟩)
        | (go_at_call 91; refine (l1In_any _ _ _ _).mono ?_; rintro x w' ⟨rfl, rfl⟩))
    go_ret
    exact ⟨by simp, k0.trans ((hb).mono k0.size)⟩
  cases h2 : heapB f n
  · rw [show procOkB a b c f n l e d = false by simp [procOkB, h1, h2]]
    go_enter Tryz.func125, Tryz.ntmps125
    go_wp2_with (first
        | (go_at_call 90; refine (spPlanOk_any _ _ _ _).mono ?_; rintro x w1 ⟨rfl, hb⟩; have hr1 := HR.out.below hb; obtain ⟨hc, hf⟩ := bcell hb)
        | (go_at_call 141; refine (spHeapOk_any f hn hr1).mono ?_; rintro x w2 ⟨m1, rfl, rfl⟩)
        | (go_at_call 65; refine (l1Worker_any _ _ _ _ _).mono ?_; rintro x w3 ⟨rfl, hb3⟩; have hb4 := (b_drewN hb m1).trans (hb3.mono (b_drewN hb m1).size); obtain ⟨hc3, hf3⟩ := bcell hb4)
        | (go_at_call 97; refine (l1Time_any _ _).mono ?_; rintro x w' ⟨rfl, rfl⟩)
        | (go_at_call 91; refine (l1In_any _ _ _ _).mono ?_; rintro x w' ⟨rfl, rfl⟩))
    go_ret
    exact ⟨by simp, k0.trans ((b_drewN hb _).mono k0.size)⟩
  by_cases hl : l = -1
  · subst hl
    by_cases he1 : e = -1
    · subst he1
      cases h5 : inB d 0 n
      · rw [show procOkB a b c f n (-1) (-1) d = false by simp [procOkB, h1, h2, h5]]
        skip
        go_enter Tryz.func125, Tryz.ntmps125
        go_wp2_with (first
            | (go_at_call 90; refine (spPlanOk_any _ _ _ _).mono ?_; rintro x w1 ⟨rfl, hb⟩; have hr1 := HR.out.below hb; obtain ⟨hc, hf⟩ := bcell hb)
            | (go_at_call 141; refine (spHeapOk_any f hn hr1).mono ?_; rintro x w2 ⟨m1, rfl, rfl⟩)
            | (go_at_call 65; refine (l1Worker_any _ _ _ _ _).mono ?_; rintro x w3 ⟨rfl, hb3⟩; have hb4 := (b_drewN hb m1).trans (hb3.mono (b_drewN hb m1).size); obtain ⟨hc3, hf3⟩ := bcell hb4)
            | (go_at_call 97; refine (l1Time_any _ _).mono ?_; rintro x w' ⟨rfl, rfl⟩)
            | (go_at_call 91; refine (l1In_any _ _ _ _).mono ?_; rintro x w' ⟨rfl, rfl⟩))
        go_ret
        exact ⟨by simp, k0.trans ((b_drewN hb m1).mono k0.size)⟩
      · have hall := Lib.hid (show procOkB a b c f n (-1) (-1) d = diffAll f n by simp [procOkB, h1, h2, h5])
        skip
        go_enter Tryz.func125, Tryz.ntmps125
        go_wp2_with (first
            | (go_at_call 90; refine (spPlanOk_any _ _ _ _).mono ?_; rintro x w1 ⟨rfl, hb⟩; have hr1 := HR.out.below hb; obtain ⟨hc, hf⟩ := bcell hb)
            | (go_at_call 141; refine (spHeapOk_any f hn hr1).mono ?_; rintro x w2 ⟨m1, rfl, rfl⟩)
            | (go_at_call 65; refine (l1Worker_any _ _ _ _ _).mono ?_; rintro x w3 ⟨rfl, hb3⟩; have hb4 := (b_drewN hb m1).trans (hb3.mono (b_drewN hb m1).size); obtain ⟨hc3, hf3⟩ := bcell hb4)
            | (go_at_call 97; refine (l1Time_any _ _).mono ?_; rintro x w' ⟨rfl, rfl⟩)
            | (go_at_call 91; refine (l1In_any _ _ _ _).mono ?_; rintro x w' ⟨rfl, rfl⟩))
        have hH := b_drewN hb m1
        have hXH := b_block hH HX.out (by simp)
        have hRH := HR.out.below hH
        have x0 := cell_of_block hXH 0
        clear hXH HR HX hb hr1 hc hf
        generalize hwq : w1.drewN m1 = wq at *
        clear hwq
        have kq := k0.trans (hH.mono k0.size)
        clear hH k0
        rcases hRH with ⟨h0, a5, cap5, hv5⟩ | ⟨b5, off5, cap5, hv5, hl5, hc5⟩
        · subst h0
          refine wp_loop_rounds 1 ?_
          rw [rounds_succ]
          go_wp2
          go_ret
          exact ⟨ret_bool hall.out.symm, kq⟩
        · injection hv5 with e1 e2 e3
          subst e1 e3
          have H5 := Lib.hid hc5
          clear hc5 e2
          go_loopw [5] (fun i wr => ∃ (k m : Nat), k ≤ n ∧ i = .int .i64 k ∧ wr = wq.drewN m ∧ Hid (diffAll f k = true)) (fun i _ => n - (intOf i).toNat)
          case atStart => exact ⟨0, 0, Nat.zero_le _, rfl, rfl, Lib.hid rfl⟩
          case round =>
            obtain ⟨k, m, hk, rfl, rfl, hdk⟩ := hrel
            by_cases hkn : k < n
            · have hkn' : (k : Int) < (n : Int) := by omega
              have ck := (H5.out k hkn).1
              go_wp2_with fail
              go_loopw [6] (fun j wi => ∃ (q m' : Nat), q ≤ k ∧ j = .int .i64 q ∧ wi = wq.drewN m' ∧ Hid (diffTo f k q = true)) (fun j _ => k - (intOf j).toNat)
              case atStart => exact ⟨0, m, Nat.zero_le _, rfl, rfl, Lib.hid rfl⟩
              case round =>
                obtain ⟨q, m', hq, rfl, rfl, hdq⟩ := hrel
                by_cases hqk : q < k
                · have hqk' : (q : Int) < (k : Int) := by omega
                  have hqn' : (q : Int) < (n : Int) := by omega
                  have cq := (H5.out q (by omega)).1
                  by_cases he : (f k).1 = (f q).1
                  · have hd : ((f k).1 == (f q).1) = true := by simpa using he
                    have hbad := Lib.hid (hall.out.trans (diff_found hkn hqk he))
                    clear he
                    go_wp2_with fail
                    go_quiet (fail)
                    go_wp2
                    simp only [World.drewN_drewN]
                    go_ret
                    exact ⟨ret_bool hbad.out.symm, b_drewN kq _⟩
                  · have hd : ((f k).1 == (f q).1) = false := by simpa using he
                    have hnext := Lib.hid (show diffTo f k (q + 1) = true by rw [diffTo, hdq.out, hd]; rfl)
                    clear he
                    go_wp2_with fail
                    go_quiet (fail)
                    go_wp2
                    try simp only [World.drewN_drewN]
                    exact ⟨⟨q + 1, _, by omega, by go_num, rfl, hnext⟩, by simp [intOf]; omega⟩
                · have hqe : q = k := by omega
                  have hnext := Lib.hid (show diffAll f (k + 1) = true by rw [diffAll, hdk.out]; rw [hqe] at hdq; exact hdq.out)
                  have hqk' : ¬ (q : Int) < (k : Int) := by omega
                  have hdd : decide (q < k) = false := by simp; omega
                  clear hqe
                  go_wp2
                  exact ⟨⟨k + 1, _, by omega, by go_num, rfl, hnext⟩, by simp [intOf]; omega⟩
            · have hkn' : ¬ (k : Int) < (n : Int) := by omega
              have hdd : decide (k < n) = false := by simp; omega
              have hgood := Lib.hid (hall.out.trans (show diffAll f n = true by rw [show n = k by omega]; exact hdk.out))
              go_wp2
              go_ret
              exact ⟨ret_bool hgood.out.symm, b_drewN kq _⟩
    · have me : (e != -1) = true := by simpa using he1
      cases h4 : inB e 0 1000000000
      · rw [show procOkB a b c f n  (-1) e d = false by simp [procOkB, h1, h2, h4, he1]]
        clear he1
        go_enter Tryz.func125, Tryz.ntmps125
        go_wp2_with (first
            | (go_at_call 90; refine (spPlanOk_any _ _ _ _).mono ?_; rintro x w1 ⟨rfl, hb⟩; have hr1 := HR.out.below hb; obtain ⟨hc, hf⟩ := bcell hb)
            | (go_at_call 141; refine (spHeapOk_any f hn hr1).mono ?_; rintro x w2 ⟨m1, rfl, rfl⟩)
            | (go_at_call 65; refine (l1Worker_any _ _ _ _ _).mono ?_; rintro x w3 ⟨rfl, hb3⟩; have hb4 := (b_drewN hb m1).trans (hb3.mono (b_drewN hb m1).size); obtain ⟨hc3, hf3⟩ := bcell hb4)
            | (go_at_call 97; refine (l1Time_any _ _).mono ?_; rintro x w' ⟨rfl, rfl⟩)
            | (go_at_call 91; refine (l1In_any _ _ _ _).mono ?_; rintro x w' ⟨rfl, rfl⟩))
        go_ret
        exact ⟨by simp, k0.trans ((b_drewN hb m1).mono k0.size)⟩
      · cases h5 : inB d 0 n
        · rw [show procOkB a b c f n  (-1) e d = false by simp [procOkB, h1, h2, h4, h5]]
          clear he1
          go_enter Tryz.func125, Tryz.ntmps125
          go_wp2_with (first
              | (go_at_call 90; refine (spPlanOk_any _ _ _ _).mono ?_; rintro x w1 ⟨rfl, hb⟩; have hr1 := HR.out.below hb; obtain ⟨hc, hf⟩ := bcell hb)
              | (go_at_call 141; refine (spHeapOk_any f hn hr1).mono ?_; rintro x w2 ⟨m1, rfl, rfl⟩)
              | (go_at_call 65; refine (l1Worker_any _ _ _ _ _).mono ?_; rintro x w3 ⟨rfl, hb3⟩; have hb4 := (b_drewN hb m1).trans (hb3.mono (b_drewN hb m1).size); obtain ⟨hc3, hf3⟩ := bcell hb4)
              | (go_at_call 97; refine (l1Time_any _ _).mono ?_; rintro x w' ⟨rfl, rfl⟩)
              | (go_at_call 91; refine (l1In_any _ _ _ _).mono ?_; rintro x w' ⟨rfl, rfl⟩))
          go_ret
          exact ⟨by simp, k0.trans ((b_drewN hb m1).mono k0.size)⟩
        · have hall := Lib.hid (show procOkB a b c f n  (-1) e d = diffAll f n by simp [procOkB, h1, h2, h4, h5])
          clear he1
          go_enter Tryz.func125, Tryz.ntmps125
          go_wp2_with (first
              | (go_at_call 90; refine (spPlanOk_any _ _ _ _).mono ?_; rintro x w1 ⟨rfl, hb⟩; have hr1 := HR.out.below hb; obtain ⟨hc, hf⟩ := bcell hb)
              | (go_at_call 141; refine (spHeapOk_any f hn hr1).mono ?_; rintro x w2 ⟨m1, rfl, rfl⟩)
              | (go_at_call 65; refine (l1Worker_any _ _ _ _ _).mono ?_; rintro x w3 ⟨rfl, hb3⟩; have hb4 := (b_drewN hb m1).trans (hb3.mono (b_drewN hb m1).size); obtain ⟨hc3, hf3⟩ := bcell hb4)
              | (go_at_call 97; refine (l1Time_any _ _).mono ?_; rintro x w' ⟨rfl, rfl⟩)
              | (go_at_call 91; refine (l1In_any _ _ _ _).mono ?_; rintro x w' ⟨rfl, rfl⟩))
          have hH := b_drewN hb m1
          have hXH := b_block hH HX.out (by simp)
          have hRH := HR.out.below hH
          have x0 := cell_of_block hXH 0
          clear hXH HR HX hb hr1 hc hf
          generalize hwq : w1.drewN m1 = wq at *
          clear hwq
          have kq := k0.trans (hH.mono k0.size)
          clear hH k0
          rcases hRH with ⟨h0, a5, cap5, hv5⟩ | ⟨b5, off5, cap5, hv5, hl5, hc5⟩
          · subst h0
            refine wp_loop_rounds 1 ?_
            rw [rounds_succ]
            go_wp2
            go_ret
            exact ⟨ret_bool hall.out.symm, kq⟩
          · injection hv5 with e1 e2 e3
            subst e1 e3
            have H5 := Lib.hid hc5
            clear hc5 e2
            go_loopw [5] (fun i wr => ∃ (k m : Nat), k ≤ n ∧ i = .int .i64 k ∧ wr = wq.drewN m ∧ Hid (diffAll f k = true)) (fun i _ => n - (intOf i).toNat)
            case atStart => exact ⟨0, 0, Nat.zero_le _, rfl, rfl, Lib.hid rfl⟩
            case round =>
              obtain ⟨k, m, hk, rfl, rfl, hdk⟩ := hrel
              by_cases hkn : k < n
              · have hkn' : (k : Int) < (n : Int) := by omega
                have ck := (H5.out k hkn).1
                go_wp2_with fail
                go_loopw [6] (fun j wi => ∃ (q m' : Nat), q ≤ k ∧ j = .int .i64 q ∧ wi = wq.drewN m' ∧ Hid (diffTo f k q = true)) (fun j _ => k - (intOf j).toNat)
                case atStart => exact ⟨0, m, Nat.zero_le _, rfl, rfl, Lib.hid rfl⟩
                case round =>
                  obtain ⟨q, m', hq, rfl, rfl, hdq⟩ := hrel
                  by_cases hqk : q < k
                  · have hqk' : (q : Int) < (k : Int) := by omega
                    have hqn' : (q : Int) < (n : Int) := by omega
                    have cq := (H5.out q (by omega)).1
                    by_cases he : (f k).1 = (f q).1
                    · have hd : ((f k).1 == (f q).1) = true := by simpa using he
                      have hbad := Lib.hid (hall.out.trans (diff_found hkn hqk he))
                      clear he
                      go_wp2_with fail
                      go_quiet (fail)
                      go_wp2
                      simp only [World.drewN_drewN]
                      go_ret
                      exact ⟨ret_bool hbad.out.symm, b_drewN kq _⟩
                    · have hd : ((f k).1 == (f q).1) = false := by simpa using he
                      have hnext := Lib.hid (show diffTo f k (q + 1) = true by rw [diffTo, hdq.out, hd]; rfl)
                      clear he
                      go_wp2_with fail
                      go_quiet (fail)
                      go_wp2
                      try simp only [World.drewN_drewN]
                      exact ⟨⟨q + 1, _, by omega, by go_num, rfl, hnext⟩, by simp [intOf]; omega⟩
                  · have hqe : q = k := by omega
                    have hnext := Lib.hid (show diffAll f (k + 1) = true by rw [diffAll, hdk.out]; rw [hqe] at hdq; exact hdq.out)
                    have hqk' : ¬ (q : Int) < (k : Int) := by omega
                    have hdd : decide (q < k) = false := by simp; omega
                    clear hqe
                    go_wp2
                    exact ⟨⟨k + 1, _, by omega, by go_num, rfl, hnext⟩, by simp [intOf]; omega⟩
              · have hkn' : ¬ (k : Int) < (n : Int) := by omega
                have hdd : decide (k < n) = false := by simp; omega
                have hgood := Lib.hid (hall.out.trans (show diffAll f n = true by rw [show n = k by omega]; exact hdk.out))
                go_wp2
                go_ret
                exact ⟨ret_bool hgood.out.symm, b_drewN kq _⟩
  · have ml : (l != -1) = true := by simpa using hl
    cases h3 : workB a b c l
    · rw [show procOkB a b c f n l e d = false by simp [procOkB, h1, h2, h3, hl]]
      clear hl
      go_enter Tryz.func125, Tryz.ntmps125
      go_wp2_with (first
          | (go_at_call 90; refine (spPlanOk_any _ _ _ _).mono ?_; rintro x w1 ⟨rfl, hb⟩; have hr1 := HR.out.below hb; obtain ⟨hc, hf⟩ := bcell hb)
          | (go_at_call 141; refine (spHeapOk_any f hn hr1).mono ?_; rintro x w2 ⟨m1, rfl, rfl⟩)
          | (go_at_call 65; refine (l1Worker_any _ _ _ _ _).mono ?_; rintro x w3 ⟨rfl, hb3⟩; have hb4 := (b_drewN hb m1).trans (hb3.mono (b_drewN hb m1).size); obtain ⟨hc3, hf3⟩ := bcell hb4)
          | (go_at_call 97; refine (l1Time_any _ _).mono ?_; rintro x w' ⟨rfl, rfl⟩)
          | (go_at_call 91; refine (l1In_any _ _ _ _).mono ?_; rintro x w' ⟨rfl, rfl⟩))
      go_ret
      exact ⟨by simp, k0.trans ((hb4).mono k0.size)⟩
    · by_cases he1 : e = -1
      · subst he1
        cases h5 : inB d 0 n
        · rw [show procOkB a b c f n l (-1) d = false by simp [procOkB, h1, h2, h3, h5]]
          clear hl
          go_enter Tryz.func125, Tryz.ntmps125
          go_wp2_with (first
              | (go_at_call 90; refine (spPlanOk_any _ _ _ _).mono ?_; rintro x w1 ⟨rfl, hb⟩; have hr1 := HR.out.below hb; obtain ⟨hc, hf⟩ := bcell hb)
              | (go_at_call 141; refine (spHeapOk_any f hn hr1).mono ?_; rintro x w2 ⟨m1, rfl, rfl⟩)
              | (go_at_call 65; refine (l1Worker_any _ _ _ _ _).mono ?_; rintro x w3 ⟨rfl, hb3⟩; have hb4 := (b_drewN hb m1).trans (hb3.mono (b_drewN hb m1).size); obtain ⟨hc3, hf3⟩ := bcell hb4)
              | (go_at_call 97; refine (l1Time_any _ _).mono ?_; rintro x w' ⟨rfl, rfl⟩)
              | (go_at_call 91; refine (l1In_any _ _ _ _).mono ?_; rintro x w' ⟨rfl, rfl⟩))
          go_ret
          exact ⟨by simp, k0.trans ((hb4).mono k0.size)⟩
        · have hall := Lib.hid (show procOkB a b c f n l (-1) d = diffAll f n by simp [procOkB, h1, h2, h3, h5])
          clear hl
          go_enter Tryz.func125, Tryz.ntmps125
          go_wp2_with (first
              | (go_at_call 90; refine (spPlanOk_any _ _ _ _).mono ?_; rintro x w1 ⟨rfl, hb⟩; have hr1 := HR.out.below hb; obtain ⟨hc, hf⟩ := bcell hb)
              | (go_at_call 141; refine (spHeapOk_any f hn hr1).mono ?_; rintro x w2 ⟨m1, rfl, rfl⟩)
              | (go_at_call 65; refine (l1Worker_any _ _ _ _ _).mono ?_; rintro x w3 ⟨rfl, hb3⟩; have hb4 := (b_drewN hb m1).trans (hb3.mono (b_drewN hb m1).size); obtain ⟨hc3, hf3⟩ := bcell hb4)
              | (go_at_call 97; refine (l1Time_any _ _).mono ?_; rintro x w' ⟨rfl, rfl⟩)
              | (go_at_call 91; refine (l1In_any _ _ _ _).mono ?_; rintro x w' ⟨rfl, rfl⟩))
          have hH := hb4
          have hXH := b_block hH HX.out (by simp)
          have hRH := HR.out.below hH
          have x0 := cell_of_block hXH 0
          clear hXH HR HX hb hr1 hc hf hb3 hb4 hc3 hf3
          generalize hwq : w3 = wq at *
          clear hwq
          have kq := k0.trans (hH.mono k0.size)
          clear hH k0
          rcases hRH with ⟨h0, a5, cap5, hv5⟩ | ⟨b5, off5, cap5, hv5, hl5, hc5⟩
          · subst h0
            refine wp_loop_rounds 1 ?_
            rw [rounds_succ]
            go_wp2
            go_ret
            exact ⟨ret_bool hall.out.symm, kq⟩
          · injection hv5 with e1 e2 e3
            subst e1 e3
            have H5 := Lib.hid hc5
            clear hc5 e2
            go_loopw [5] (fun i wr => ∃ (k m : Nat), k ≤ n ∧ i = .int .i64 k ∧ wr = wq.drewN m ∧ Hid (diffAll f k = true)) (fun i _ => n - (intOf i).toNat)
            case atStart => exact ⟨0, 0, Nat.zero_le _, rfl, rfl, Lib.hid rfl⟩
            case round =>
              obtain ⟨k, m, hk, rfl, rfl, hdk⟩ := hrel
              by_cases hkn : k < n
              · have hkn' : (k : Int) < (n : Int) := by omega
                have ck := (H5.out k hkn).1
                go_wp2_with fail
                go_loopw [6] (fun j wi => ∃ (q m' : Nat), q ≤ k ∧ j = .int .i64 q ∧ wi = wq.drewN m' ∧ Hid (diffTo f k q = true)) (fun j _ => k - (intOf j).toNat)
                case atStart => exact ⟨0, m, Nat.zero_le _, rfl, rfl, Lib.hid rfl⟩
                case round =>
                  obtain ⟨q, m', hq, rfl, rfl, hdq⟩ := hrel
                  by_cases hqk : q < k
                  · have hqk' : (q : Int) < (k : Int) := by omega
                    have hqn' : (q : Int) < (n : Int) := by omega
                    have cq := (H5.out q (by omega)).1
                    by_cases he : (f k).1 = (f q).1
                    · have hd : ((f k).1 == (f q).1) = true := by simpa using he
                      have hbad := Lib.hid (hall.out.trans (diff_found hkn hqk he))
                      clear he
                      go_wp2_with fail
                      go_quiet (fail)
                      go_wp2
                      simp only [World.drewN_drewN]
                      go_ret
                      exact ⟨ret_bool hbad.out.symm, b_drewN kq _⟩
                    · have hd : ((f k).1 == (f q).1) = false := by simpa using he
                      have hnext := Lib.hid (show diffTo f k (q + 1) = true by rw [diffTo, hdq.out, hd]; rfl)
                      clear he
                      go_wp2_with fail
                      go_quiet (fail)
                      go_wp2
                      try simp only [World.drewN_drewN]
                      exact ⟨⟨q + 1, _, by omega, by go_num, rfl, hnext⟩, by simp [intOf]; omega⟩
                  · have hqe : q = k := by omega
                    have hnext := Lib.hid (show diffAll f (k + 1) = true by rw [diffAll, hdk.out]; rw [hqe] at hdq; exact hdq.out)
                    have hqk' : ¬ (q : Int) < (k : Int) := by omega
                    have hdd : decide (q < k) = false := by simp; omega
                    clear hqe
                    go_wp2
                    exact ⟨⟨k + 1, _, by omega, by go_num, rfl, hnext⟩, by simp [intOf]; omega⟩
              · have hkn' : ¬ (k : Int) < (n : Int) := by omega
                have hdd : decide (k < n) = false := by simp; omega
                have hgood := Lib.hid (hall.out.trans (show diffAll f n = true by rw [show n = k by omega]; exact hdk.out))
                go_wp2
                go_ret
                exact ⟨ret_bool hgood.out.symm, b_drewN kq _⟩
      · have me : (e != -1) = true := by simpa using he1
        cases h4 : inB e 0 1000000000
        · rw [show procOkB a b c f n l e d = false by simp [procOkB, h1, h2, h3, h4, he1]]
          clear he1 hl
          go_enter Tryz.func125, Tryz.ntmps125
          go_wp2_with (first
              | (go_at_call 90; refine (spPlanOk_any _ _ _ _).mono ?_; rintro x w1 ⟨rfl, hb⟩; have hr1 := HR.out.below hb; obtain ⟨hc, hf⟩ := bcell hb)
              | (go_at_call 141; refine (spHeapOk_any f hn hr1).mono ?_; rintro x w2 ⟨m1, rfl, rfl⟩)
              | (go_at_call 65; refine (l1Worker_any _ _ _ _ _).mono ?_; rintro x w3 ⟨rfl, hb3⟩; have hb4 := (b_drewN hb m1).trans (hb3.mono (b_drewN hb m1).size); obtain ⟨hc3, hf3⟩ := bcell hb4)
              | (go_at_call 97; refine (l1Time_any _ _).mono ?_; rintro x w' ⟨rfl, rfl⟩)
              | (go_at_call 91; refine (l1In_any _ _ _ _).mono ?_; rintro x w' ⟨rfl, rfl⟩))
          go_ret
          exact ⟨by simp, k0.trans ((hb4).mono k0.size)⟩
        · cases h5 : inB d 0 n
          · rw [show procOkB a b c f n l e d = false by simp [procOkB, h1, h2, h3, h4, h5]]
            clear he1 hl
            go_enter Tryz.func125, Tryz.ntmps125
            go_wp2_with (first
                | (go_at_call 90; refine (spPlanOk_any _ _ _ _).mono ?_; rintro x w1 ⟨rfl, hb⟩; have hr1 := HR.out.below hb; obtain ⟨hc, hf⟩ := bcell hb)
                | (go_at_call 141; refine (spHeapOk_any f hn hr1).mono ?_; rintro x w2 ⟨m1, rfl, rfl⟩)
                | (go_at_call 65; refine (l1Worker_any _ _ _ _ _).mono ?_; rintro x w3 ⟨rfl, hb3⟩; have hb4 := (b_drewN hb m1).trans (hb3.mono (b_drewN hb m1).size); obtain ⟨hc3, hf3⟩ := bcell hb4)
                | (go_at_call 97; refine (l1Time_any _ _).mono ?_; rintro x w' ⟨rfl, rfl⟩)
                | (go_at_call 91; refine (l1In_any _ _ _ _).mono ?_; rintro x w' ⟨rfl, rfl⟩))
            go_ret
            exact ⟨by simp, k0.trans ((hb4).mono k0.size)⟩
          · have hall := Lib.hid (show procOkB a b c f n l e d = diffAll f n by simp [procOkB, h1, h2, h3, h4, h5])
            clear he1 hl
            go_enter Tryz.func125, Tryz.ntmps125
            go_wp2_with (first
                | (go_at_call 90; refine (spPlanOk_any _ _ _ _).mono ?_; rintro x w1 ⟨rfl, hb⟩; have hr1 := HR.out.below hb; obtain ⟨hc, hf⟩ := bcell hb)
                | (go_at_call 141; refine (spHeapOk_any f hn hr1).mono ?_; rintro x w2 ⟨m1, rfl, rfl⟩)
                | (go_at_call 65; refine (l1Worker_any _ _ _ _ _).mono ?_; rintro x w3 ⟨rfl, hb3⟩; have hb4 := (b_drewN hb m1).trans (hb3.mono (b_drewN hb m1).size); obtain ⟨hc3, hf3⟩ := bcell hb4)
                | (go_at_call 97; refine (l1Time_any _ _).mono ?_; rintro x w' ⟨rfl, rfl⟩)
                | (go_at_call 91; refine (l1In_any _ _ _ _).mono ?_; rintro x w' ⟨rfl, rfl⟩))
            have hH := hb4
            have hXH := b_block hH HX.out (by simp)
            have hRH := HR.out.below hH
            have x0 := cell_of_block hXH 0
            clear hXH HR HX hb hr1 hc hf hb3 hb4 hc3 hf3
            generalize hwq : w3 = wq at *
            clear hwq
            have kq := k0.trans (hH.mono k0.size)
            clear hH k0
            rcases hRH with ⟨h0, a5, cap5, hv5⟩ | ⟨b5, off5, cap5, hv5, hl5, hc5⟩
            · subst h0
              refine wp_loop_rounds 1 ?_
              rw [rounds_succ]
              go_wp2
              go_ret
              exact ⟨ret_bool hall.out.symm, kq⟩
            · injection hv5 with e1 e2 e3
              subst e1 e3
              have H5 := Lib.hid hc5
              clear hc5 e2
              go_loopw [5] (fun i wr => ∃ (k m : Nat), k ≤ n ∧ i = .int .i64 k ∧ wr = wq.drewN m ∧ Hid (diffAll f k = true)) (fun i _ => n - (intOf i).toNat)
              case atStart => exact ⟨0, 0, Nat.zero_le _, rfl, rfl, Lib.hid rfl⟩
              case round =>
                obtain ⟨k, m, hk, rfl, rfl, hdk⟩ := hrel
                by_cases hkn : k < n
                · have hkn' : (k : Int) < (n : Int) := by omega
                  have ck := (H5.out k hkn).1
                  go_wp2_with fail
                  go_loopw [6] (fun j wi => ∃ (q m' : Nat), q ≤ k ∧ j = .int .i64 q ∧ wi = wq.drewN m' ∧ Hid (diffTo f k q = true)) (fun j _ => k - (intOf j).toNat)
                  case atStart => exact ⟨0, m, Nat.zero_le _, rfl, rfl, Lib.hid rfl⟩
                  case round =>
                    obtain ⟨q, m', hq, rfl, rfl, hdq⟩ := hrel
                    by_cases hqk : q < k
                    · have hqk' : (q : Int) < (k : Int) := by omega
                      have hqn' : (q : Int) < (n : Int) := by omega
                      have cq := (H5.out q (by omega)).1
                      by_cases he : (f k).1 = (f q).1
                      · have hd : ((f k).1 == (f q).1) = true := by simpa using he
                        have hbad := Lib.hid (hall.out.trans (diff_found hkn hqk he))
                        clear he
                        go_wp2_with fail
                        go_quiet (fail)
                        go_wp2
                        simp only [World.drewN_drewN]
                        go_ret
                        exact ⟨ret_bool hbad.out.symm, b_drewN kq _⟩
                      · have hd : ((f k).1 == (f q).1) = false := by simpa using he
                        have hnext := Lib.hid (show diffTo f k (q + 1) = true by rw [diffTo, hdq.out, hd]; rfl)
                        clear he
                        go_wp2_with fail
                        go_quiet (fail)
                        go_wp2
                        try simp only [World.drewN_drewN]
                        exact ⟨⟨q + 1, _, by omega, by go_num, rfl, hnext⟩, by simp [intOf]; omega⟩
                    · have hqe : q = k := by omega
                      have hnext := Lib.hid (show diffAll f (k + 1) = true by rw [diffAll, hdk.out]; rw [hqe] at hdq; exact hdq.out)
                      have hqk' : ¬ (q : Int) < (k : Int) := by omega
                      have hdd : decide (q < k) = false := by simp; omega
                      clear hqe
                      go_wp2
                      exact ⟨⟨k + 1, _, by omega, by go_num, rfl, hnext⟩, by simp [intOf]; omega⟩
                · have hkn' : ¬ (k : Int) < (n : Int) := by omega
                  have hdd : decide (k < n) = false := by simp; omega
                  have hgood := Lib.hid (hall.out.trans (show diffAll f n = true by rw [show n = k by omega]; exact hdk.out))
                  go_wp2
                  go_ret
                  exact ⟨ret_bool hgood.out.symm, b_drewN kq _⟩

end Go.Proofs.YtflekodaiejflaaGreatDoor

/-
  The laws' own helpers on lists of slots: copied out of the law's argument, compared, marked, looked at again.
-/
namespace Go.Proofs.YtflekodaiejflaaGreatDoor
open Go.RowKit Go.Joins
set_option linter.unusedVariables false
set_option linter.unusedSimpArgs false

set_option maxHeartbeats 400000 in
theorem toSlot_any (a b : Int) (w : World) :
    Calls Tryz.prog 100 #[.agg #[.int .i64 a, .int .i64 b]] w fun e w' => e = .returned (.agg #[.int .i64 a, .int .i64 b]) ∧ Below w.heap.size w w' := by
  go_enter Tryz.func100, Tryz.ntmps100
  go_wp2
  exact bodyPost_ret (v := .agg #[.int .i64 a, .int .i64 b]) (by simp [results, Tryz.results100, go_sem]) rfl ⟨rfl, (((Below.refl _ _).alloc (Nat.le_refl _) _).alloc (by simp) _).alloc (by simp; omega) _⟩

set_option maxHeartbeats 400000 in
theorem eqSlot_same (a b : Int) (w : World) :
    Calls Tryz.prog 120 #[.agg #[.int .i64 a, .int .i64 b], .agg #[.int .i64 a, .int .i64 b]] w fun e w' => e = .returned (.bool true) ∧ Below w.heap.size w w' := by
  go_enter Tryz.func120, Tryz.ntmps120
  go_wp2
  go_ret
  exact ⟨rfl, ((Below.refl _ _).alloc (Nat.le_refl _) _).alloc (by simp) _⟩

set_option maxHeartbeats 400000 in
theorem szSlotS_any {v : Value} {n : Nat} (hv : ∃ a cap, v = .slice a n cap) (left : Int) (w : World) (h0 : 0 ≤ left) (h1 : left ≤ 1048576) (hm : n ≤ maxLen) :
    Calls Tryz.prog 62 #[v, .int .i64 left] w fun e w' => e = .returned (.int .i64 (if left < (n : Int) then -1 else left - n)) ∧ w = w' := by
  obtain ⟨a, cap, rfl⟩ := hv
  unfold maxLen at hm
  by_cases h : left < (n : Int)
  · rw [if_pos h]
    go_enter Tryz.func62, Tryz.ntmps62
    go_wp2
    go_ret
    exact ⟨rfl, rfl⟩
  · rw [if_neg h]
    go_enter Tryz.func62, Tryz.ntmps62
    go_wp2
    go_ret
    exact ⟨rfl, rfl⟩

/-! ### copied out of the law's argument -/
theorem made_zero (n i : Nat) (hi : i < n) : (madeCells #[.int .i64 0, .int .i64 0] (n * 2))[i * 2]? = some (.int .i64 0) ∧ (madeCells #[.int .i64 0, .int .i64 0] (n * 2))[i * 2 + 1]? = some (.int .i64 0) := by
  constructor
  · rw [Array.getElem?_eq_getElem (by rw [size_madeCells]; omega)]
    simp [madeCells]
  · rw [Array.getElem?_eq_getElem (by rw [size_madeCells]; omega)]
    simp [madeCells]
theorem own_made (w : World) (n : Nat) (hn : n ≤ maxLen) : OwnAt (w.alloc (.cells (madeCells #[.int .i64 0, .int .i64 0] (n * 2)) 133)) w.heap.size w.heap.size n n (fun _ => (0, 0)) :=
  ⟨Nat.le_refl _, Nat.le_refl _, hn, _, heap_alloc_new w _, size_madeCells _ _, fun i hi => made_zero n i hi⟩

theorem run_make_slots (n : Nat) (hn : n ≤ 1048576) : ∀ w : World, (Instr.makeSlice 81 (.int .i64 (n : Int)) (.int .i64 (n : Int))).run Tryz.prog w = .ok (.slice (some ⟨w.heap.size, 0, none⟩) n n) (w.alloc (.cells (madeCells #[.int .i64 0, .int .i64 0] (n * 2)) 133)) := by
  intro w
  obtain ⟨i0, hi, hz, hs, hby⟩ := info_parts slot_info
  have hr := run_make (P := Tryz.prog) w 81 133 i0 _ Tryz.underlying81 hi hz .i64 .i64 (n : Int) (n : Int) (by omega) (by omega) (by rw [hby]; omega) (by omega)
  rw [hs] at hr
  simp only [Int.toNat_natCast] at hr
  exact hr

def upTo (f : Slots) (k : Nat) : Slots := fun i => if i < k then f i else (0, 0)
theorem upTo_put {f : Slots} {k n : Nat} : ∀ i, i < n → putF (upTo f k) k (f k) i = upTo f (k + 1) i := by
  intro i _
  unfold putF upTo
  by_cases e : i = k
  · subst e; simp
  · rw [if_neg e]
    by_cases h : i < k
    · rw [if_pos h, if_pos (by omega)]
    · rw [if_neg h, if_neg (by omega)]

set_option maxHeartbeats 400000 in
theorem toSlotS_any {v : Value} {n : Nat} {f : Slots} {w : World} (hn : n ≤ 1048576) (h : RowAt w v n f) :
    Calls Tryz.prog 70 #[v] w (NewRow n f w) := by
  have hmk := run_make_slots n hn
  have hO := own_made w n (by unfold maxLen; omega)
  have hb0 := (Below.refl w.heap.size w).alloc (Nat.le_refl _) (.cells (madeCells #[.int .i64 0, .int .i64 0] (n * 2)) 133)
  rcases h with ⟨h0, a, cap, hv⟩ | ⟨b, off, cap, rfl, hl, hc⟩
  · obtain rfl : v = .slice a n cap := by rw [hv, h0]
    have HO := Lib.hid (hO.congr (f' := f) (fun i hi => by omega))
    have HB := Lib.hid hb0
    have H0 := Lib.hid h0
    clear hO hb0 hv h0
    go_enter Tryz.func70, Tryz.ntmps70
    go_wp2
    go_loopw [4] (fun i wr => i = .int .i64 0 ∧ OwnAt wr w.heap.size w.heap.size n n f ∧ Below w.heap.size w wr) (fun _ _ => 0)
    case atStart => exact ⟨rfl, HO.out, HB.out⟩
    case round =>
      obtain ⟨rfl, hOk, hbk⟩ := hrel
      have h1 : ¬ (0 : Int) < (n : Int) := by have := H0.out; omega
      have h2 : ¬ 0 < n := by have := H0.out; omega
      go_wp2
      go_ret
      exact ⟨_, rfl, hOk.own, hbk⟩
  · have H := Lib.hid hc
    have HO := Lib.hid (hO.congr (f' := upTo f 0) (fun i hi => by simp [upTo]))
    have HB := Lib.hid hb0
    clear hc hO hb0
    go_enter Tryz.func70, Tryz.ntmps70
    go_wp2
    go_loopw [4] (fun i wr => ∃ k : Nat, k ≤ n ∧ i = .int .i64 k ∧ OwnAt wr w.heap.size w.heap.size n n (upTo f k) ∧ Below w.heap.size w wr) (fun i _ => n - (intOf i).toNat)
    case atStart => exact ⟨0, Nat.zero_le _, rfl, HO.out, HB.out⟩
    case round =>
      obtain ⟨k, hk, rfl, hOk, hbk⟩ := hrel
      by_cases hlt : k < n
      · have c0 := (hbk.cell (p := ⟨b, off + k * 2, none⟩) hl).trans (H.out k hlt).1
        have c1 := (hbk.cell (p := ⟨b, off + k * 2 + 1, none⟩) hl).trans (H.out k hlt).2
        have h1 : (k : Int) < (n : Int) := by omega
        go_wp2_with fail
        go_at_call 100; refine (toSlot_any _ _ _).mono ?_; rintro e w1 ⟨rfl, hb1⟩
        have hO1 := hOk.below hb1
        have hbk1 := btrans hbk hb1
        have fr := hO1.free
        have f0 := fr (k * 2)
        have f1 := fr (k * 2 + 1)
        obtain ⟨d0, d1⟩ := hO1.cells hlt
        clear hb1 fr c0 c1 hOk hbk
        go_wp2
        exact ⟨⟨k + 1, by omega, by go_num, (hO1.put hlt _ _).congr upTo_put, (hbk1.setCell (p := ⟨w.heap.size, k * 2, none⟩) (Nat.le_refl _) _).setCell (p := ⟨w.heap.size, k * 2 + 1, none⟩) (Nat.le_refl _) _⟩, by simp only [intOf]; omega⟩
      · have hkn : k = n := by omega
        subst hkn
        go_wp2
        go_ret
        exact ⟨_, rfl, (hOk.congr (fun i hi => by simp [upTo, hi])).own, hbk⟩

/-! ### compared -/
set_option maxHeartbeats 400000 in
theorem eqSlotS_same {v1 v2 : Value} {n : Nat} {f : Slots} {w : World} (hn : n ≤ 1048576) (h1 : RowAt w v1 n f) (h2 : RowAt w v2 n f) :
    Calls Tryz.prog 80 #[v1, v2] w fun e w' => e = .returned (.bool true) ∧ Below w.heap.size w w' := by
  by_cases h0 : n = 0
  · obtain ⟨a1, k1, rfl⟩ := h1.form
    obtain ⟨a2, k2, rfl⟩ := h2.form
    have H0 := Lib.hid h0
    clear h0 h1 h2
    go_enter Tryz.func80, Tryz.ntmps80
    go_wp2
    go_loop [5] (fun i => i = .int .i64 0) (fun _ => 0)
    case atStart => rfl
    case round =>
      subst hrel
      have h1 : ¬ (0 : Int) < (n : Int) := by have := H0.out; omega
      have h2 : ¬ 0 < n := by have := H0.out; omega
      go_wp2
      go_ret
      exact ⟨rfl, Below.refl _ _⟩
  · rcases h1 with ⟨h1, _⟩ | ⟨b1, o1, c1, rfl, hl1, hc1⟩
    · exact absurd h1 h0
    rcases h2 with ⟨h2, _⟩ | ⟨b2, o2, c2, rfl, hl2, hc2⟩
    · exact absurd h2 h0
    have H1 := Lib.hid hc1
    have H2 := Lib.hid hc2
    clear hc1 hc2 h0
    go_enter Tryz.func80, Tryz.ntmps80
    go_wp2
    go_loopw [5] (fun i wr => ∃ k : Nat, k ≤ n ∧ i = .int .i64 k ∧ Below w.heap.size w wr) (fun i _ => n - (intOf i).toNat)
    case atStart => exact ⟨0, Nat.zero_le _, rfl, Below.refl _ _⟩
    case round =>
      obtain ⟨k, hk, rfl, hbk⟩ := hrel
      by_cases hlt : k < n
      · have x0 : wr.drew.cell? ⟨b1, o1 + k * 2, none⟩ = some (.int .i64 (f k).1) := (hbk.cell (p := ⟨b1, o1 + k * 2, none⟩) hl1).trans (H1.out k hlt).1
        have x1 : wr.drew.cell? ⟨b1, o1 + k * 2 + 1, none⟩ = some (.int .i64 (f k).2) := (hbk.cell (p := ⟨b1, o1 + k * 2 + 1, none⟩) hl1).trans (H1.out k hlt).2
        have y0 : wr.drew.cell? ⟨b2, o2 + k * 2, none⟩ = some (.int .i64 (f k).1) := (hbk.cell (p := ⟨b2, o2 + k * 2, none⟩) hl2).trans (H2.out k hlt).1
        have y1 : wr.drew.cell? ⟨b2, o2 + k * 2 + 1, none⟩ = some (.int .i64 (f k).2) := (hbk.cell (p := ⟨b2, o2 + k * 2 + 1, none⟩) hl2).trans (H2.out k hlt).2
        have i1 : (k : Int) < (n : Int) := by omega
        have i0 : (0 : Int) ≤ (k : Int) := by omega
        have kd := hbk.drew
        go_wp2
        go_region_held3 (fun w' => w'.cell? ⟨b1, o1 + k * 2, none⟩ = some (.int .i64 (f k).1) ∧ w'.cell? ⟨b1, o1 + k * 2 + 1, none⟩ = some (.int .i64 (f k).2) ∧ w'.cell? ⟨b2, o2 + k * 2, none⟩ = some (.int .i64 (f k).1) ∧ w'.cell? ⟨b2, o2 + k * 2 + 1, none⟩ = some (.int .i64 (f k).2))
          (first | exact ⟨x0, x1, y0, y1⟩ | go_keep)
          (first
            | (go_at_call 120; refine (eqSlot_same _ _ _).mono ?_; rintro e w1 ⟨rfl, hb1⟩
               replace kd := btrans kd hb1
               replace x0 := (kd.cell (p := ⟨b1, o1 + k * 2, none⟩) hl1).trans (H1.out k hlt).1; replace x1 := (kd.cell (p := ⟨b1, o1 + k * 2 + 1, none⟩) hl1).trans (H1.out k hlt).2
               replace y0 := (kd.cell (p := ⟨b2, o2 + k * 2, none⟩) hl2).trans (H2.out k hlt).1; replace y1 := (kd.cell (p := ⟨b2, o2 + k * 2 + 1, none⟩) hl2).trans (H2.out k hlt).2))
        clear x0 x1 y0 y1
        go_wp2
        exact ⟨⟨k + 1, by omega, by go_num, kd⟩, by simp only [intOf]; omega⟩
      · go_wp2
        go_ret
        exact ⟨rfl, hbk⟩

/-! ### marked, and looked at again -/
def markF (f : Slots) (m : Int) (k : Nat) : Slots := fun i => if i < k then (m + 2 * i, m + 2 * i + 1) else f i
theorem markF_zero (f : Slots) (m : Int) : markF f m 0 = f := by funext i; simp [markF]
theorem markF_put {f : Slots} {m : Int} {k : Nat} (n : Nat) : ∀ i, i < n → putF (markF f m k) k (m + 2 * k, m + 2 * k + 1) i = markF f m (k + 1) i := by
  intro i _
  unfold putF markF
  by_cases e : i = k
  · subst e; simp
  · rw [if_neg e]
    by_cases h : i < k
    · rw [if_pos h, if_pos (by omega)]
    · rw [if_neg h, if_neg (by omega)]

/-- a call that marks a list of the law's own -/
def Marked (B g n cap : Nat) (f : Slots) (m : Int) (w : World) (e : Ending) (w' : World) : Prop :=
  e = .returned (.int .i64 (m + 2 * n)) ∧ OwnAt w' B g n cap (markF f m n) ∧ w.grownBy w' (some g)

set_option maxHeartbeats 400000 in
theorem markSlotS_any {B g n cap : Nat} {f : Slots} {w : World} (m : Int) (hm0 : 0 ≤ m) (hm1 : m ≤ 16777216) (hn : n ≤ 1048576) (h : OwnAt w B g n cap f) :
    Calls Tryz.prog 54 #[.slice (some ⟨g, 0, none⟩) n cap, .int .i64 m] w (Marked B g n cap f m w) := by
  have H := Lib.hid h
  clear h
  go_enter Tryz.func54, Tryz.ntmps54
  go_wp2
  go_loopw [1, 5] (fun q i wr => ∃ k : Nat, k ≤ n ∧ i = .int .i64 k ∧ q = .int .i64 (m + 2 * k) ∧ OwnAt wr B g n cap (markF f m k) ∧ w.grownBy wr (some g)) (fun _ i _ => n - (intOf i).toNat)
  case atStart => exact ⟨0, Nat.zero_le _, rfl, congrArg (Value.int .i64) (by omega), by rw [markF_zero]; exact H.out, g_refl _ _⟩
  case round =>
    obtain ⟨k, hk, rfl, rfl, hOk, hgk⟩ := hrel
    by_cases hlt : k < n
    · have fr := hOk.free
      have f0 := fr (k * 2)
      have f1 := fr (k * 2 + 1)
      obtain ⟨d0, d1⟩ := hOk.cells hlt
      have i1 : (k : Int) < (n : Int) := by omega
      have i2 : (k : Int) ≤ 1048576 := by omega
      clear fr
      go_wp2
      exact ⟨⟨k + 1, by omega, by go_num, congrArg (Value.int .i64) (by omega), (hOk.put hlt _ _).congr (markF_put n), g_own (g_own hgk _ _) _ _⟩, by simp only [intOf]; omega⟩
    · have hkn : k = n := by omega
      subst hkn
      go_wp2
      go_ret
      exact ⟨rfl, hOk, hgk⟩

theorem markF_at (f : Slots) (m : Int) {n k : Nat} (h : k < n) : markF f m n k = (m + 2 * k, m + 2 * k + 1) := by simp [markF, h]

set_option maxHeartbeats 400000 in
theorem heldSlotS_any {v : Value} {n : Nat} {f : Slots} {w : World} (m : Int) (hm0 : 0 ≤ m) (hm1 : m ≤ 16777216) (hn : n ≤ 1048576) (h : RowAt w v n (markF f m n)) :
    Calls Tryz.prog 81 #[v, .int .i64 m] w fun e w' => e = .returned (.int .i64 (m + 2 * n)) ∧ w = w' := by
  rcases h with ⟨h0, a, cap, hv⟩ | ⟨b, off, cap, rfl, hl, hc⟩
  · obtain rfl : v = .slice a n cap := by rw [hv, h0]
    have H0 := Lib.hid h0
    clear hv h0
    go_enter Tryz.func81, Tryz.ntmps81
    go_wp2
    go_loop [1, 5] (fun q i => i = .int .i64 0 ∧ q = .int .i64 m) (fun _ _ => 0)
    case atStart => exact ⟨rfl, rfl⟩
    case round =>
      obtain ⟨rfl, rfl⟩ := hrel
      have h1 : ¬ (0 : Int) < (n : Int) := by have := H0.out; omega
      have h2 : ¬ 0 < n := by have := H0.out; omega
      have h3 : m = m + 2 * (n : Int) := by have := H0.out; omega
      have H3 := Lib.hid h3
      clear h3
      go_wp2
      go_ret
      exact ⟨ret_i64 H3.out, rfl⟩
  · have H := Lib.hid hc
    clear hc
    go_enter Tryz.func81, Tryz.ntmps81
    go_wp2
    go_loop [1, 5] (fun q i => ∃ k : Nat, k ≤ n ∧ i = .int .i64 k ∧ q = .int .i64 (m + 2 * k)) (fun _ i => n - (intOf i).toNat)
    case atStart => exact ⟨0, Nat.zero_le _, rfl, congrArg (Value.int .i64) (by omega)⟩
    case round =>
      obtain ⟨k, hk, rfl, rfl⟩ := hrel
      by_cases hlt : k < n
      · obtain ⟨d0, d1⟩ := H.out k hlt
        rw [markF_at f m hlt] at d0 d1
        have i1 : (k : Int) < (n : Int) := by omega
        have i2 : (k : Int) ≤ 1048576 := by omega
        go_wp2
        exact ⟨⟨k + 1, by omega, by go_num, congrArg (Value.int .i64) (by omega)⟩, by simp only [intOf]; omega⟩
      · have hkn : k = n := by omega
        subst hkn
        go_wp2
        go_ret
        exact ⟨rfl, rfl⟩

set_option maxHeartbeats 400000 in
theorem markSlotS_nil (m : Int) (w : World) :
    Calls Tryz.prog 54 #[.slice none 0 0, .int .i64 m] w fun e w' => e = .returned (.int .i64 m) ∧ w = w' := by
  go_enter Tryz.func54, Tryz.ntmps54
  go_wp2
  go_loop [1, 5] (fun q i => i = .int .i64 0 ∧ q = .int .i64 m) (fun _ _ => 0)
  case atStart => exact ⟨rfl, rfl⟩
  case round =>
    obtain ⟨rfl, rfl⟩ := hrel
    go_wp2
    go_ret
    exact ⟨rfl, rfl⟩

/-- any list of the law's own, marked -/
theorem markRow_any {B n : Nat} {v : Value} {f : Slots} {w : World} (m : Int) (hm0 : 0 ≤ m) (hm1 : m ≤ 16777216) (hn : n ≤ 1048576) (h : OwnRow w B v n f) :
    Calls Tryz.prog 54 #[v, .int .i64 m] w fun e w' => e = .returned (.int .i64 (m + 2 * n)) ∧ OwnRow w' B v n (markF f m n) ∧ w.grownBy w' v.ownBlock := by
  rcases h with ⟨rfl, rfl⟩ | ⟨g, cap, rfl, h⟩
  · refine (markSlotS_nil m w).mono fun e w' ⟨he, hw⟩ => ?_
    subst he; subst hw
    exact ⟨by simp, .inl ⟨rfl, rfl⟩, g_refl _ _⟩
  · refine (markSlotS_any m hm0 hm1 hn h).mono fun e w' ⟨he, ho, hg⟩ => ?_
    exact ⟨he, ho.own, hg⟩

/-! ### rows that lie below a bound, kept from call to call -/
def RowLt (w : World) (C : Nat) (v : Value) (n : Nat) (f : Slots) : Prop :=
  (n = 0 ∧ ∃ a cap, v = .slice a 0 cap) ∨ ∃ b off cap, v = .slice (some ⟨b, off, none⟩) n cap ∧ b < C ∧ 0 < n ∧
    ∀ i, i < n → w.cell? ⟨b, off + i * 2, none⟩ = some (.int .i64 (f i).1) ∧ w.cell? ⟨b, off + i * 2 + 1, none⟩ = some (.int .i64 (f i).2)
theorem RowAt.lt {w : World} {v : Value} {n : Nat} {f : Slots} (h : RowAt w v n f) : RowLt w w.heap.size v n f := by
  rcases Nat.eq_zero_or_pos n with h0 | hp
  · obtain ⟨a, cap, rfl⟩ := h.form
    subst h0
    exact .inl ⟨rfl, a, cap, rfl⟩
  · rcases h with ⟨h0, _⟩ | ⟨b, off, cap, rfl, hl, hc⟩
    · omega
    · exact .inr ⟨b, off, cap, rfl, hl, hp, hc⟩
theorem RowLt.row {w : World} {C n : Nat} {v : Value} {f : Slots} (h : RowLt w C v n f) : RowAt w v n f := by
  rcases h with h | ⟨b, off, cap, rfl, _, hp, hc⟩
  · exact .inl h
  · exact .inr ⟨b, off, cap, rfl, World.block_lt_of_cell? w _ (hc 0 hp).1, hc⟩
theorem RowLt.step {w w' : World} {C n : Nat} {v : Value} {f : Slots} (h : RowLt w C v n f) (hb : Below w.heap.size w w') : RowLt w' C v n f := by
  rcases h with h | ⟨b, off, cap, rfl, hC, hp, hc⟩
  · exact .inl h
  · have hl := World.block_lt_of_cell? w _ (hc 0 hp).1
    exact .inr ⟨b, off, cap, rfl, hC, hp, fun i hi => ⟨(hb.cell (p := ⟨b, off + i * 2, none⟩) hl).trans (hc i hi).1, (hb.cell (p := ⟨b, off + i * 2 + 1, none⟩) hl).trans (hc i hi).2⟩⟩
theorem RowLt.mark {w w' : World} {C C' n : Nat} {v : Value} {f : Slots} (h : RowLt w C v n f) (hb : Below C' w w') (hC' : C ≤ C') : RowLt w' C v n f := by
  rcases h with h | ⟨b, off, cap, rfl, hC, hp, hc⟩
  · exact .inl h
  · have hl := Nat.lt_of_lt_of_le hC hC'
    exact .inr ⟨b, off, cap, rfl, hC, hp, fun i hi => ⟨(hb.cell (p := ⟨b, off + i * 2, none⟩) hl).trans (hc i hi).1, (hb.cell (p := ⟨b, off + i * 2 + 1, none⟩) hl).trans (hc i hi).2⟩⟩
theorem OwnRow.kept {w w' : World} {B n : Nat} {v : Value} {f : Slots} {ob : Option Nat} (h : OwnRow w B v n f) (hg : w.grownBy w' ob) (hne : ∀ g, ob = some g → g < B) : OwnRow w' B v n f := by
  rcases h with h | ⟨g, cap, rfl, h⟩
  · exact .inl h
  · exact .inr ⟨g, cap, rfl, h.block (hg.block g h.lt (by intro e; have := hne g e.symm; have := h.1; omega))⟩
theorem OwnRow.lt_size {w : World} {B n : Nat} {v : Value} {f : Slots} (h : OwnRow w B v n f) : ∀ g, v.ownBlock = some g → g < w.heap.size := by
  intro g e
  rcases h with ⟨_, rfl⟩ | ⟨g', cap, rfl, h⟩
  · simp [Value.ownBlock] at e
  · simp [Value.ownBlock] at e
    subst e
    exact h.lt

end Go.Proofs.YtflekodaiejflaaGreatDoor
