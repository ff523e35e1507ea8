/-
  Small lemmas that every law of this seat uses: what lies below a call's first new block, and the last step of a row whose call leaves all that was there as it was.
-/
import Derived.Test.YtflekodaiejflaaGreatRows
import Derived.WalkKit
import Derived.ProofKit
import Derived.Below
import Derived.WalkSpells
import Derived.WalkLawsBesides
import Derived.Lib.Hide
import Derived.LoopTactic
import Derived.Deep.QuietTactic
import Derived.BigQuiet
import Derived.OneCell
import Derived.Deep.RegionWith
import Derived.Deep.RegionHeld3
import Derived.Lib.SmallJoins
import Derived.Laws.BitsAllLaws
import Derived.Maps.AppendAt
import Derived.Laws.AppendOwn
import Derived.OwnWalk
import Derived.Laws.MakeOwn
namespace Go.Proofs.YtflekodaiejflaaGreat
open Go.RowKit Go.WideShapes Go.ChangeShapes

theorem own : ownKnob Tryz.prog.godebug = none := by kernel_rfl

theorem bcell {W w1 : World} (hb : Below W.heap.size W w1) : (∀ b o, b < W.heap.size → w1.cell? ⟨b, o, none⟩ = W.cell? ⟨b, o, none⟩) ∧ (∀ b o, b < W.heap.size → w1.frozen? ⟨b, o, none⟩ = W.frozen? ⟨b, o, none⟩) :=
  ⟨fun b o h => hb.cell (p := ⟨b, o, none⟩) h, fun b o h => hb.frozen (p := ⟨b, o, none⟩) h⟩


theorem btrans {W a b : World} (h1 : Below W.heap.size W a) (h2 : Below a.heap.size a b) : Below W.heap.size W b := h1.trans (h2.mono h1.size)

/-- the row's last step for a call that made new memory and left all that was there: the arguments held nothing in memory or are read again as they were -/
theorem post_low {H : Type} {enc : TypeId × Value → H} {P : Program} {f : Func} {s : ChangeSpec} {apart fresh handsOn : Bool} {W W' : World} {args : Array Value} {v : Value} {ds gs : List (DataW H)} {before pa pv : List MemPlace}
    (hW : DataW.Whole enc P f.params.toList s.vars apart W args.toList ds gs before)
    (hres : ∀ (b : Nat) (sp : Nat → Bool) (hd : Bool), DataW.TrodAll enc P W' b sp hd f.resultTypes.toList (v.resultList f.resultTypes.size) (s.fn H (ds ++ gs)).results [])
    (hargs : ∀ sp : Nat → Bool, (∀ p ∈ before, sp p.block = true) → DataW.TrodAll enc P W' 0 sp true f.params.toList args.toList (s.fn H (ds ++ gs)).args pa)
    (hvars : ∀ sp : Nat → Bool, (∀ p ∈ before, sp p.block = true) → DataW.TrodVars enc P W' sp s.vars (s.fn H (ds ++ gs)).vars pv)
    (hps : before = pa ++ pv) (hb : Below W.heap.size W W') :
    s.post enc P f apart fresh handsOn false W args v W' := by
  have old : ∀ p ∈ before, (fun b => decide (b < W.heap.size)) p.block = true := fun p hp => by simpa using hW.lt p hp
  refine ⟨ds, gs, before, [], pa, pv, hW, hres _ _ _, hargs _ old, hvars _ old, World.keptBut_mono (fun p hp => ⟨hp, ?_⟩) (hb.frame (· ∈ before)), fun h => by cases h⟩
  rw [hps, List.mem_append] at hp
  exact Or.inr hp

end Go.Proofs.YtflekodaiejflaaGreat

/-
  What a call leaves as it was: small lemmas on worlds, blocks and masks.
-/
namespace Go.Proofs.YtflekodaiejflaaGreat
open Go.RowKit Go.Joins
set_option linter.unusedVariables false
set_option linter.unusedSimpArgs false

theorem and_i64 (x m : Int) (h0 : 0 ≤ m) (h1 : m < 9223372036854775808) : 0 ≤ bits .and .i64 x m ∧ bits .and .i64 x m ≤ m := by
  have e : bits .and .i64 x m = IntKind.i64.wrap ((BitVec.ofInt 64 x &&& BitVec.ofInt 64 m).toNat : Int) := rfl
  have hm : (BitVec.ofInt 64 m).toNat = m.toNat := by
    rw [BitVec.toNat_ofInt]; omega
  have hle : (BitVec.ofInt 64 x &&& BitVec.ofInt 64 m).toNat ≤ m.toNat := by
    rw [BitVec.toNat_and, hm]; exact Nat.and_le_right
  rw [e, IntKind.wrap_i64]
  generalize (BitVec.ofInt 64 x &&& BitVec.ofInt 64 m).toNat = y at hle
  omega
theorem and_u64 (x m : Int) (h0 : 0 ≤ m) (h1 : m < 9223372036854775808) : 0 ≤ bits .and .u64 x m ∧ bits .and .u64 x m ≤ m := by
  have e : bits .and .u64 x m = IntKind.u64.wrap ((BitVec.ofInt 64 x &&& BitVec.ofInt 64 m).toNat : Int) := rfl
  have hm : (BitVec.ofInt 64 m).toNat = m.toNat := by
    rw [BitVec.toNat_ofInt]; omega
  have hle : (BitVec.ofInt 64 x &&& BitVec.ofInt 64 m).toNat ≤ m.toNat := by
    rw [BitVec.toNat_and, hm]; exact Nat.and_le_right
  have w64 : ∀ n : Int, IntKind.u64.wrap n = n % 18446744073709551616 := fun n => by simp [IntKind.wrap, IntKind.bits, IntKind.signed]
  rw [e, w64]
  generalize (BitVec.ofInt 64 x &&& BitVec.ofInt 64 m).toNat = y at hle
  omega

theorem g_refl (w : World) (r : Option Nat) : w.grownBy w r := ⟨rfl, rfl, rfl, Nat.le_refl _, fun _ _ _ => rfl⟩
theorem g_trans {a b c : World} {r : Option Nat} (h : a.grownBy b r) (k : b.grownBy c r) : a.grownBy c r :=
  ⟨k.os.trans h.os, k.tape.trans h.tape, k.output.trans h.output, Nat.le_trans h.size k.size, fun i hi hn => (k.block i (Nat.lt_of_lt_of_le hi h.size) hn).trans (h.block i hi hn)⟩
theorem g_drewN {a w : World} {r : Option Nat} (h : a.grownBy w r) (n : Nat) : a.grownBy (w.drewN n) r := ⟨h.os, h.tape, h.output, h.size, h.block⟩
theorem g_drew {a w : World} {r : Option Nat} (h : a.grownBy w r) : a.grownBy w.drew r := ⟨h.os, h.tape, h.output, h.size, h.block⟩
theorem g_alloc {a w : World} {r : Option Nat} (h : a.grownBy w r) (o : Obj) : a.grownBy (w.alloc o) r := g_trans h (World.grownBy_alloc w o r)
theorem g_set {a w : World} {g : Nat} (h : a.grownBy w (some g)) {p : Addr} (hp : p.block = g ∨ a.heap.size ≤ p.block) (u : Value) : a.grownBy (w.setCell p u) (some g) :=
  ⟨h.os, h.tape, h.output, by simpa [World.setCell] using h.size, fun i hi hn => (Below.heap_setCell w p u i (by
    rintro rfl
    rcases hp with hp | hp
    · exact hn (by rw [hp])
    · omega)).trans (h.block i hi hn)⟩
theorem g_own {a w : World} {g : Nat} (h : a.grownBy w (some g)) (o : Nat) (u : Value) : a.grownBy (w.setCell ⟨g, o, none⟩ u) (some g) := g_set h (p := ⟨g, o, none⟩) (Or.inl rfl) u
theorem g_new {a w : World} {g : Nat} (h : a.grownBy w (some g)) {b : Nat} (hb : a.heap.size ≤ b) (o : Nat) (u : Value) : a.grownBy (w.setCell ⟨b, o, none⟩ u) (some g) := g_set h (p := ⟨b, o, none⟩) (Or.inr hb) u
theorem g_below {a w : World} (h : Below a.heap.size a w) (r : Option Nat) : a.grownBy w r := ⟨h.os, h.tape, h.output, h.size, fun i hi _ => h.block i hi⟩
theorem b_grown {a w : World} {B g : Nat} (h : a.grownBy w (some g)) (hB : B ≤ g) (hs : B ≤ a.heap.size) : Below B a w :=
  ⟨h.os, h.tape, h.output, h.size, fun i hi => h.block i (by omega) (by intro e; injection e; omega)⟩
theorem b_drewN {B : Nat} {a w : World} (h : Below B a w) (n : Nat) : Below B a (w.drewN n) := ⟨h.os, h.tape, h.output, h.size, h.block⟩
/-- cells and marks of all blocks but one -/
theorem g_cell {a w : World} {g : Nat} (h : a.grownBy w (some g)) {b : Nat} (hb : b < a.heap.size) (hn : b ≠ g) (o : Nat) : w.cell? ⟨b, o, none⟩ = a.cell? ⟨b, o, none⟩ :=
  World.cell?_of_block (h.block b hb (by intro e; injection e; contradiction))
theorem g_frozen {a w : World} {g : Nat} (h : a.grownBy w (some g)) {b : Nat} (hb : b < a.heap.size) (hn : b ≠ g) (o : Nat) : w.frozen? ⟨b, o, none⟩ = a.frozen? ⟨b, o, none⟩ :=
  World.frozen?_of_block (h.block b hb (by intro e; injection e; contradiction))

theorem g_block {a w : World} {g : Nat} (h : a.grownBy w (some g)) {b : Nat} {o : Obj} (hb : a.heap[b]? = some o) (hn : b ≠ g) : w.heap[b]? = some o :=
  (h.block b (lt_of_block hb) (by intro e; injection e; contradiction)).trans hb
/-- a block of three cells: what they hold, that they may be written -/
theorem three {w : World} {b : Nat} {x y z : Value} {t : TypeId} (h : w.heap[b]? = some (.cells #[x, y, z] t (0, 0))) :
    w.cell? ⟨b, 0, none⟩ = some x ∧ w.cell? ⟨b, 1, none⟩ = some y ∧ w.cell? ⟨b, 2, none⟩ = some z ∧ w.frozen? ⟨b, 0, none⟩ = false ∧ w.frozen? ⟨b, 1, none⟩ = false ∧ w.frozen? ⟨b, 2, none⟩ = false :=
  ⟨cell_of_block h 0, cell_of_block h 1, cell_of_block h 2, unfrozen_of_block h 0, unfrozen_of_block h 1, unfrozen_of_block h 2⟩
theorem alloc_block {w : World} {b : Nat} {o : Obj} (o' : Obj) (h : w.heap[b]? = some o) : (w.alloc o').heap[b]? = some o := (Below.heap_alloc w o' b (lt_of_block h)).trans h

theorem btrans' {W a b : World} (h1 : Below W.heap.size W a) (h2 : Below a.heap.size a b) (_ : W.heap.size ≤ a.heap.size) : Below W.heap.size W b := btrans h1 h2
theorem step_kb {W w wa : World} {b : Nat} (kb : Below (b + 1) W w) (ha : Below w.heap.size w wa) (hs : b < W.heap.size) : Below (b + 1) W wa := kb.trans (ha.mono (Nat.lt_of_lt_of_le hs kb.size))
theorem step_cell {W w wa : World} {b : Nat} (ha : Below w.heap.size w wa) (kb : Below (b + 1) W w) (hs : b < W.heap.size) (o : Nat) : wa.cell? ⟨b, o, none⟩ = w.cell? ⟨b, o, none⟩ :=
  ha.cell (p := ⟨b, o, none⟩) (Nat.lt_of_lt_of_le hs kb.size)
theorem b_block {W w : World} {B b : Nat} {o : Obj} (h : Below B W w) (hb : W.heap[b]? = some o) (hl : b < B) : w.heap[b]? = some o := (h.block b hl).trans hb

theorem laidOut : laidOutB Tryz.prog = true := by kernel_rfl
theorem b_block_lt {w w' : World} {b : Nat} {o : Obj} (h : Below w.heap.size w w') (hb : w.heap[b]? = some o) : w'.heap[b]? = some o ∧ b < w.heap.size := ⟨b_block h hb (lt_of_block hb), lt_of_block hb⟩

end Go.Proofs.YtflekodaiejflaaGreat

/-
  Is a number within two others?
-/
namespace Go.Proofs.YtflekodaiejflaaGreat
open Go.RowKit
set_option linter.unusedVariables false
set_option linter.unusedSimpArgs false

def inB (n lo hi : Int) : Bool := decide (lo ≤ n) && decide (n ≤ hi)
theorem inB_t {n lo hi : Int} (h1 : lo ≤ n) (h2 : n ≤ hi) : inB n lo hi = true := by simp [inB, h1, h2]
theorem inB_lo {n lo hi : Int} (h1 : ¬ lo ≤ n) : inB n lo hi = false := by simp only [inB, Bool.and_eq_false_iff, decide_eq_false_iff_not]; exact .inl h1
theorem inB_hi {n lo hi : Int} (h1 : ¬ n ≤ hi) : inB n lo hi = false := by simp only [inB, Bool.and_eq_false_iff, decide_eq_false_iff_not]; exact .inr h1
theorem inB_iff {n lo hi : Int} : inB n lo hi = true ↔ lo ≤ n ∧ n ≤ hi := by simp [inB]

set_option maxHeartbeats 400000 in
theorem l1In_any (n lo hi : Int) (w : World) :
    Calls Tryz.prog 34 #[.int .i64 n, .int .i64 lo, .int .i64 hi] w fun e w' => e = .returned (.bool (inB n lo hi)) ∧ w = w' := by
  by_cases h1 : lo ≤ n
  · by_cases h2 : n ≤ hi
    · rw [inB_t h1 h2]
      go_enter Tryz.func34, Tryz.ntmps34
      go_wp2
      go_ret
      exact ⟨rfl, rfl⟩
    · rw [inB_hi h2]
      go_enter Tryz.func34, Tryz.ntmps34
      go_wp2
      go_ret
      exact ⟨rfl, rfl⟩
  · rw [inB_lo h1]
    go_enter Tryz.func34, Tryz.ntmps34
    go_wp2
    go_ret
    exact ⟨rfl, rfl⟩

end Go.Proofs.YtflekodaiejflaaGreat

/-
  Plans (spec, chapter 1): is a plan right?
-/
namespace Go.Proofs.YtflekodaiejflaaGreat
open Go.RowKit
set_option linter.unusedVariables false
set_option linter.unusedSimpArgs false

/-- is the plan right? -/
def planB (a b c : Int) : Bool := inB a 1 6 && (inB b 1 8 && inB c 1 30)

theorem planB_iff {a b c : Int} : planB a b c = true ↔ (1 ≤ a ∧ a ≤ 6) ∧ (1 ≤ b ∧ b ≤ 8) ∧ (1 ≤ c ∧ c ≤ 30) := by simp [planB, inB_iff]

set_option maxHeartbeats 400000 in
theorem spPlanOk_any (a b c : Int) (w : World) :
    Calls Tryz.prog 86 #[.agg #[.int .i64 a, .int .i64 b, .int .i64 c]] w fun e w' => e = .returned (.bool (planB a b c)) ∧ Below w.heap.size w w' := by
  cases h1 : inB a 1 6
  · have hp : planB a b c = false := by simp [planB, h1]
    rw [hp]
    go_enter Tryz.func86, Tryz.ntmps86
    go_wp2_with (go_at_call 34; refine (l1In_any _ _ _ _).mono ?_; rintro e w' ⟨rfl, rfl⟩)
    go_ret
    exact ⟨rfl, (Below.refl _ _).alloc (Nat.le_refl _) _⟩
  · cases h2 : inB b 1 8
    · have hp : planB a b c = false := by simp [planB, h1, h2]
      rw [hp]
      go_enter Tryz.func86, Tryz.ntmps86
      go_wp2_with (go_at_call 34; refine (l1In_any _ _ _ _).mono ?_; rintro e w' ⟨rfl, rfl⟩)
      go_ret
      exact ⟨rfl, (Below.refl _ _).alloc (Nat.le_refl _) _⟩
    · cases h3 : inB c 1 30
      · have hp : planB a b c = false := by simp [planB, h1, h2, h3]
        rw [hp]
        go_enter Tryz.func86, Tryz.ntmps86
        go_wp2_with (go_at_call 34; refine (l1In_any _ _ _ _).mono ?_; rintro e w' ⟨rfl, rfl⟩)
        go_ret
        exact ⟨rfl, (Below.refl _ _).alloc (Nat.le_refl _) _⟩
      · have hp : planB a b c = true := by simp [planB, h1, h2, h3]
        rw [hp]
        go_enter Tryz.func86, Tryz.ntmps86
        go_wp2_with (go_at_call 34; refine (l1In_any _ _ _ _).mono ?_; rintro e w' ⟨rfl, rfl⟩)
        go_ret
        exact ⟨rfl, (Below.refl _ _).alloc (Nat.le_refl _) _⟩

end Go.Proofs.YtflekodaiejflaaGreat

/-
  Is there such a worker (spec, chapter 1)?
-/
namespace Go.Proofs.YtflekodaiejflaaGreat
open Go.RowKit
set_option linter.unusedVariables false
set_option linter.unusedSimpArgs false

def workB (a b c w : Int) : Bool := planB a b c && inB w 0 (b - 1)

theorem workB_no {a b c w : Int} (h : planB a b c = false) : workB a b c w = false := by simp [workB, h]

theorem workB_out {a b c w : Int} (h : inB w 0 (b - 1) = false) : workB a b c w = false := by simp [workB, h]

theorem workB_yes {a b c w : Int} (h : planB a b c = true) (h1 : inB w 0 (b - 1) = true) : workB a b c w = true := by simp [workB, h, h1]

theorem workB_iff {a b c w : Int} : workB a b c w = true ↔ planB a b c = true ∧ 0 ≤ w ∧ w ≤ b - 1 := by simp [workB, inB_iff]

set_option maxHeartbeats 400000 in
theorem l1Worker_any (a b c n : Int) (w : World) :
    Calls Tryz.prog 64 #[.agg #[.int .i64 a, .int .i64 b, .int .i64 c], .int .i64 n] w fun e w' => e = .returned (.bool (workB a b c n)) ∧ Below w.heap.size w w' := by
  cases h1 : planB a b c
  · rw [workB_no h1]
    go_enter Tryz.func64, Tryz.ntmps64
    go_wp2_with (go_at_call 86; refine (spPlanOk_any _ _ _ _).mono ?_; rintro e w1 ⟨rfl, hb⟩)
    go_ret
    exact ⟨rfl, ((Below.refl _ _).alloc (Nat.le_refl _) _).trans (hb.mono (by simp))⟩
  · obtain ⟨b1, ⟨b2, b3⟩, b4⟩ := planB_iff.1 h1
    cases h2 : inB n 0 (b - 1)
    · rw [workB_out h2]
      go_enter Tryz.func64, Tryz.ntmps64
      go_wp2_with (first
        | (go_at_call 86; refine (spPlanOk_any _ _ _ _).mono ?_; rintro e w1 ⟨rfl, hb⟩; obtain ⟨hc, hf⟩ := bcell hb)
        | (go_at_call 34; refine (l1In_any _ _ _ _).mono ?_; rintro e w' ⟨rfl, rfl⟩))
      go_ret
      exact ⟨rfl, ((Below.refl _ _).alloc (Nat.le_refl _) _).trans (hb.mono (by simp))⟩
    · rw [workB_yes h1 h2]
      go_enter Tryz.func64, Tryz.ntmps64
      go_wp2_with (first
        | (go_at_call 86; refine (spPlanOk_any _ _ _ _).mono ?_; rintro e w1 ⟨rfl, hb⟩; obtain ⟨hc, hf⟩ := bcell hb)
        | (go_at_call 34; refine (l1In_any _ _ _ _).mono ?_; rintro e w' ⟨rfl, rfl⟩))
      go_ret
      exact ⟨rfl, ((Below.refl _ _).alloc (Nat.le_refl _) _).trans (hb.mono (by simp))⟩

end Go.Proofs.YtflekodaiejflaaGreat

/-
  Is it a time (spec, chapter 1)?
-/
namespace Go.Proofs.YtflekodaiejflaaGreat
open Go.RowKit
set_option linter.unusedVariables false
set_option linter.unusedSimpArgs false

set_option maxHeartbeats 400000 in
theorem l1Time_any (t : Int) (w : World) :
    Calls Tryz.prog 92 #[.int .i64 t] w fun e w' => e = .returned (.bool (inB t 0 1000000000)) ∧ w = w' := by
  go_enter Tryz.func92, Tryz.ntmps92
  go_wp2_with (go_at_call 34; refine (l1In_any _ _ _ _).mono ?_; rintro e w1 ⟨rfl, rfl⟩)
  go_ret
  exact ⟨rfl, rfl⟩

end Go.Proofs.YtflekodaiejflaaGreat

/-
  The least and the greatest of two.
-/
namespace Go.Proofs.YtflekodaiejflaaGreat
open Go.RowKit
set_option linter.unusedVariables false
set_option linter.unusedSimpArgs false

def minI (a b : Int) : Int := if a < b then a else b
def maxI (a b : Int) : Int := if b < a then a else b
set_option maxHeartbeats 400000 in
theorem l1Min_any (a b : Int) (w : World) : Calls Tryz.prog 67 #[.int .i64 a, .int .i64 b] w fun e w' => e = .returned (.int .i64 (minI a b)) ∧ w = w' := by
  by_cases h : a < b
  · rw [show minI a b = a from if_pos h]
    go_enter Tryz.func67, Tryz.ntmps67
    go_wp2
    go_ret
    exact ⟨rfl, rfl⟩
  · rw [show minI a b = b from if_neg h]
    go_enter Tryz.func67, Tryz.ntmps67
    go_wp2
    go_ret
    exact ⟨rfl, rfl⟩
set_option maxHeartbeats 400000 in
theorem l1Max_any (a b : Int) (w : World) : Calls Tryz.prog 41 #[.int .i64 a, .int .i64 b] w fun e w' => e = .returned (.int .i64 (maxI a b)) ∧ w = w' := by
  by_cases h : b < a
  · rw [show maxI a b = a from if_pos h]
    go_enter Tryz.func41, Tryz.ntmps41
    go_wp2
    go_ret
    exact ⟨rfl, rfl⟩
  · rw [show maxI a b = b from if_neg h]
    go_enter Tryz.func41, Tryz.ntmps41
    go_wp2
    go_ret
    exact ⟨rfl, rfl⟩

end Go.Proofs.YtflekodaiejflaaGreat

/-
  Heaps, plainly: what the two sifts make of a list of slots (a function from places to slots, and a length). No Go in sight.
-/
namespace Go.Proofs.YtflekodaiejflaaGreat
set_option linter.unusedVariables false
set_option linter.unusedSimpArgs false

abbrev Slots := Nat → Int × Int
def putF (f : Slots) (i : Nat) (s : Int × Int) : Slots := fun k => if k = i then s else f k
def swapF (f : Slots) (i j : Nat) : Slots := putF (putF f i (f j)) j (f i)
theorem putF_same (f : Slots) (i : Nat) (s : Int × Int) : putF f i s i = s := by simp [putF]
theorem putF_other (f : Slots) {i k : Nat} (s : Int × Int) (h : k ≠ i) : putF f i s k = f k := by simp [putF, h]

/-- as long as it has a parent with a greater key -/
def upB (f : Slots) (i : Nat) : Bool := decide (0 < i) && decide ((f i).2 < (f ((i - 1) / 4)).2)
def raiseF (f : Slots) (i : Nat) : Slots := if h : upB f i = true then raiseF (swapF f i ((i - 1) / 4)) ((i - 1) / 4) else f
termination_by i
decreasing_by simp [upB] at h; omega
theorem raiseF_up {f : Slots} {i : Nat} (h : upB f i = true) : raiseF f i = raiseF (swapF f i ((i - 1) / 4)) ((i - 1) / 4) := by rw [raiseF, dif_pos h]
theorem raiseF_stop {f : Slots} {i : Nat} (h : upB f i = false) : raiseF f i = f := by rw [raiseF, dif_neg (by simp [h])]

/-- of c children from k on, the first of the least key, if that is less than b's -/
def bestG (f : Slots) (n : Nat) : Nat → Nat → Nat → Nat
  | 0, _, b => b
  | c + 1, k, b => if k < n then bestG f n c (k + 1) (if (f k).2 < (f b).2 then k else b) else b
def bestF (f : Slots) (n i : Nat) : Nat := bestG f n 4 (4 * i + 1) i
theorem bestG_lt (f : Slots) (n : Nat) : ∀ (c k b : Nat), b < n → bestG f n c k b < n
  | 0, _, b, h => h
  | c + 1, k, b, h => by
    rw [bestG]
    split
    · exact bestG_lt f n c (k + 1) _ (by split <;> assumption)
    · exact h
theorem bestG_ge (f : Slots) (n i : Nat) : ∀ (c k b : Nat), i < k → (b = i ∨ i < b) → (bestG f n c k b = i ∨ i < bestG f n c k b)
  | 0, _, b, _, h => h
  | c + 1, k, b, hk, h => by
    rw [bestG]
    split
    · exact bestG_ge f n i c (k + 1) _ (by omega) (by split <;> omega)
    · exact h
theorem bestF_lt {f : Slots} {n i : Nat} (h : i < n) : bestF f n i < n := bestG_lt f n 4 _ _ h
theorem bestF_ge (f : Slots) (n i : Nat) : bestF f n i = i ∨ i < bestF f n i := bestG_ge f n i 4 _ _ (by omega) (.inl rfl)
theorem bestG_out {f : Slots} {n k : Nat} (h : ¬ k < n) (c b : Nat) : bestG f n c k b = b := by
  cases c
  · rfl
  · rw [bestG, if_neg h]
theorem bestG_step {f : Slots} {n k : Nat} (h : k < n) (c b : Nat) : bestG f n (c + 1) k b = bestG f n c (k + 1) (if (f k).2 < (f b).2 then k else b) := by
  rw [bestG, if_pos h]

/-- as long as it has a child with a lesser key, with the first one of the least -/
def sinkF (f : Slots) (n i : Nat) : Slots := if h : i < bestF f n i ∧ bestF f n i < n then sinkF (swapF f i (bestF f n i)) n (bestF f n i) else f
termination_by n - i
theorem sinkF_down {f : Slots} {n i : Nat} (h : i < n) (hb : bestF f n i ≠ i) : sinkF f n i = sinkF (swapF f i (bestF f n i)) n (bestF f n i) := by
  rw [sinkF, dif_pos ⟨by rcases bestF_ge f n i with h1 | h1 <;> omega, bestF_lt h⟩]
theorem sinkF_stop {f : Slots} {n i : Nat} (hb : bestF f n i = i) : sinkF f n i = f := by
  rw [sinkF, dif_neg (by omega)]

/-- is there such a slot? -/
def hasB (n : Nat) (i : Int) : Bool := decide (0 ≤ i) && decide (i ≤ (n : Int) - 1)
theorem hasB_iff {n : Nat} {i : Int} : hasB n i = true ↔ 0 ≤ i ∧ i < n := by simp [hasB]; omega
def raisedF (f : Slots) (n : Nat) (i : Int) : Slots := if hasB n i then raiseF f i.toNat else f
def sunkF (f : Slots) (n : Nat) (i : Int) : Slots := if hasB n i then sinkF f n i.toNat else f

/-- is it a heap from place k on? -/
def heapFrom (f : Slots) (n : Nat) (k : Nat) : Bool := if h : k < n then !(decide ((f k).2 < (f ((k - 1) / 4)).2)) && heapFrom f n (k + 1) else true
termination_by n - k
theorem heapFrom_out {f : Slots} {n k : Nat} (h : ¬ k < n) : heapFrom f n k = true := by rw [heapFrom, dif_neg h]
theorem heapFrom_bad {f : Slots} {n k : Nat} (h : k < n) (hb : (f k).2 < (f ((k - 1) / 4)).2) : heapFrom f n k = false := by rw [heapFrom, dif_pos h]; simp [hb]
theorem heapFrom_good {f : Slots} {n k : Nat} (h : k < n) (hb : ¬ (f k).2 < (f ((k - 1) / 4)).2) : heapFrom f n k = heapFrom f n (k + 1) := by
  rw [heapFrom, dif_pos h]; simp [Int.not_lt.1 hb]
def heapB (f : Slots) (n : Nat) : Bool := heapFrom f n 1 && decide (n ≤ 30)

/-- the place of the first one of that name, from k on; -1 -/
def findFrom (f : Slots) (n : Nat) (id : Int) (k : Nat) : Int := if h : k < n then (if (f k).1 = id then (k : Int) else findFrom f n id (k + 1)) else -1
termination_by n - k
theorem findFrom_out {f : Slots} {n k : Nat} {id : Int} (h : ¬ k < n) : findFrom f n id k = -1 := by rw [findFrom, dif_neg h]
theorem findFrom_here {f : Slots} {n k : Nat} {id : Int} (h : k < n) (he : (f k).1 = id) : findFrom f n id k = k := by rw [findFrom, dif_pos h, if_pos he]
theorem findFrom_next {f : Slots} {n k : Nat} {id : Int} (h : k < n) (he : ¬ (f k).1 = id) : findFrom f n id k = findFrom f n id (k + 1) := by rw [findFrom, dif_pos h, if_neg he]

/-- the slot k taken out, k being one of them -/
def pulledFk (f : Slots) (n k : Nat) : Slots := if k < n - 1 then sinkF (raiseF (putF f k (f (n - 1))) k) (n - 1) k else f

end Go.Proofs.YtflekodaiejflaaGreat

/-
  Lists of slots in memory: one that is read, and one that the call itself made.
-/
namespace Go.Proofs.YtflekodaiejflaaGreat
open Go.RowKit Go.Joins
set_option linter.unusedVariables false
set_option linter.unusedSimpArgs false

/-! ### a list that is read: no slots, or slots whose cells can be read -/
def RowAt (w : World) (v : Value) (n : Nat) (f : Slots) : Prop :=
  (n = 0 ∧ ∃ a cap, v = .slice a 0 cap) ∨ ∃ b off cap, v = .slice (some ⟨b, off, none⟩) n cap ∧ b < w.heap.size ∧
    ∀ i, i < n → w.cell? ⟨b, off + i * 2, none⟩ = some (.int .i64 (f i).1) ∧ w.cell? ⟨b, off + i * 2 + 1, none⟩ = some (.int .i64 (f i).2)
theorem RowAt.form {w : World} {v : Value} {n : Nat} {f : Slots} (h : RowAt w v n f) : ∃ a cap, v = .slice a n cap := by
  rcases h with ⟨rfl, a, cap, rfl⟩ | ⟨b, off, cap, rfl, _⟩
  · exact ⟨_, _, rfl⟩
  · exact ⟨_, _, rfl⟩
theorem RowAt.below {w w' : World} {v : Value} {n : Nat} {f : Slots} (h : RowAt w v n f) (hb : Below w.heap.size w w') : RowAt w' v n f := by
  rcases h with h | ⟨b, off, cap, rfl, hl, hc⟩
  · exact .inl h
  · exact .inr ⟨b, off, cap, rfl, Nat.lt_of_lt_of_le hl hb.size, fun i hi => ⟨(hb.cell (p := ⟨b, off + i * 2, none⟩) hl).trans (hc i hi).1, (hb.cell (p := ⟨b, off + i * 2 + 1, none⟩) hl).trans (hc i hi).2⟩⟩
theorem RowAt.congr {w : World} {v : Value} {n : Nat} {f g : Slots} (h : RowAt w v n f) (e : ∀ i, i < n → f i = g i) : RowAt w v n g := by
  rcases h with h | ⟨b, off, cap, rfl, hl, hc⟩
  · exact .inl h
  · exact .inr ⟨b, off, cap, rfl, hl, fun i hi => by rw [← e i hi]; exact hc i hi⟩
theorem RowAt.drew {w : World} {v : Value} {n : Nat} {f : Slots} (h : RowAt w v n f) : RowAt w.drew v n f := h
theorem RowAt.drewN {w : World} {v : Value} {n : Nat} {f : Slots} (h : RowAt w v n f) (k : Nat) : RowAt (w.drewN k) v n f := h

/-! ### a list that the call made, in a block of its own from B on -/
def RowIn (cur : Array Value) (n : Nat) (f : Slots) : Prop := ∀ i, i < n → cur[i * 2]? = some (.int .i64 (f i).1) ∧ cur[i * 2 + 1]? = some (.int .i64 (f i).2)
def OwnAt (w : World) (B g n cap : Nat) (f : Slots) : Prop :=
  B ≤ g ∧ n ≤ cap ∧ cap ≤ maxLen ∧ ∃ cur, w.heap[g]? = some (.cells cur 133 (0, 0)) ∧ cur.size = cap * 2 ∧ RowIn cur n f
def OwnRow (w : World) (B : Nat) (v : Value) (n : Nat) (f : Slots) : Prop :=
  (n = 0 ∧ v = .slice none 0 0) ∨ ∃ g cap, v = .slice (some ⟨g, 0, none⟩) n cap ∧ OwnAt w B g n cap f
theorem OwnAt.lt {w : World} {B g n cap : Nat} {f : Slots} (h : OwnAt w B g n cap f) : g < w.heap.size := by
  obtain ⟨_, _, _, cur, hh, _⟩ := h
  exact lt_of_block hh
theorem OwnAt.cells {w : World} {B g n cap : Nat} {f : Slots} (h : OwnAt w B g n cap f) {i : Nat} (hi : i < n) :
    w.cell? ⟨g, i * 2, none⟩ = some (.int .i64 (f i).1) ∧ w.cell? ⟨g, i * 2 + 1, none⟩ = some (.int .i64 (f i).2) := by
  obtain ⟨_, _, _, cur, hh, _, hr⟩ := h
  exact ⟨(cell_of_block hh _).trans (hr i hi).1, (cell_of_block hh _).trans (hr i hi).2⟩
theorem OwnAt.free {w : World} {B g n cap : Nat} {f : Slots} (h : OwnAt w B g n cap f) (o : Nat) : w.frozen? ⟨g, o, none⟩ = false := by
  obtain ⟨_, _, _, cur, hh, _⟩ := h
  exact unfrozen_of_block hh o
theorem OwnAt.row {w : World} {B g n cap : Nat} {f : Slots} (h : OwnAt w B g n cap f) : RowAt w (.slice (some ⟨g, 0, none⟩) n cap) n f :=
  .inr ⟨g, 0, cap, rfl, h.lt, fun i hi => by simpa using h.cells hi⟩
theorem OwnRow.row {w : World} {B n : Nat} {v : Value} {f : Slots} (h : OwnRow w B v n f) : RowAt w v n f := by
  rcases h with ⟨rfl, rfl⟩ | ⟨g, cap, rfl, h⟩
  · exact .inl ⟨rfl, _, _, rfl⟩
  · exact h.row
theorem OwnAt.own {w : World} {B g n cap : Nat} {f : Slots} (h : OwnAt w B g n cap f) : OwnRow w B (.slice (some ⟨g, 0, none⟩) n cap) n f := .inr ⟨g, cap, rfl, h⟩
theorem OwnAt.block {w w' : World} {B g n cap : Nat} {f : Slots} (h : OwnAt w B g n cap f) (e : w'.heap[g]? = w.heap[g]?) : OwnAt w' B g n cap f := by
  obtain ⟨h1, h2, h3, cur, hh, r⟩ := h
  exact ⟨h1, h2, h3, cur, e.trans hh, r⟩
theorem OwnAt.below {w w' : World} {B g n cap : Nat} {f : Slots} (h : OwnAt w B g n cap f) (hb : Below w.heap.size w w') : OwnAt w' B g n cap f := h.block (hb.block g h.lt)
theorem OwnAt.kept {w w' : World} {B g g' n cap : Nat} {f : Slots} (h : OwnAt w B g n cap f) (hk : w.grownBy w' (some g')) (hn : g ≠ g') : OwnAt w' B g n cap f :=
  h.block (hk.block g h.lt (by intro e; injection e; contradiction))
theorem OwnAt.alloc {w : World} {B g n cap : Nat} {f : Slots} (h : OwnAt w B g n cap f) (o : Obj) : OwnAt (w.alloc o) B g n cap f := h.block (Below.heap_alloc w o g h.lt)
theorem OwnAt.drewN {w : World} {B g n cap : Nat} {f : Slots} (h : OwnAt w B g n cap f) (k : Nat) : OwnAt (w.drewN k) B g n cap f := h
theorem OwnAt.drew {w : World} {B g n cap : Nat} {f : Slots} (h : OwnAt w B g n cap f) : OwnAt w.drew B g n cap f := h
theorem OwnAt.mono {w : World} {B B' g n cap : Nat} {f : Slots} (h : OwnAt w B g n cap f) (hB : B' ≤ B) : OwnAt w B' g n cap f := by
  obtain ⟨h1, r⟩ := h
  exact ⟨Nat.le_trans hB h1, r⟩
theorem OwnAt.congr {w : World} {B g n cap : Nat} {f f' : Slots} (h : OwnAt w B g n cap f) (e : ∀ i, i < n → f i = f' i) : OwnAt w B g n cap f' := by
  obtain ⟨h1, h2, h3, cur, hh, hs, hr⟩ := h
  exact ⟨h1, h2, h3, cur, hh, hs, fun i hi => by rw [← e i hi]; exact hr i hi⟩
/-- one slot less: the slice cut short -/
theorem OwnAt.cut {w : World} {B g n m cap : Nat} {f : Slots} (h : OwnAt w B g n cap f) (hm : m ≤ n) : OwnAt w B g m cap f := by
  obtain ⟨h1, h2, h3, cur, hh, hs, hr⟩ := h
  exact ⟨h1, Nat.le_trans hm h2, h3, cur, hh, hs, fun i hi => hr i (Nat.lt_of_lt_of_le hi hm)⟩
/-- a slot is stored -/
theorem OwnAt.put {w : World} {B g n cap : Nat} {f : Slots} (h : OwnAt w B g n cap f) {k : Nat} (hk : k < n) (x y : Int) :
    OwnAt ((w.setCell ⟨g, k * 2, none⟩ (.int .i64 x)).setCell ⟨g, k * 2 + 1, none⟩ (.int .i64 y)) B g n cap (putF f k (x, y)) := by
  obtain ⟨h1, h2, h3, cur, hh, hs, hr⟩ := h
  refine ⟨h1, h2, h3, _, block_setCell (block_setCell hh (i := k * 2) (.int .i64 x)) (i := k * 2 + 1) (.int .i64 y), by simp [hs], fun i hi => ?_⟩
  have hk2 : k * 2 + 1 < cur.size := by omega
  by_cases e : i = k
  · subst e
    rw [putF_same]
    constructor
    · rw [Array.getElem?_setIfInBounds_ne (by omega), Array.getElem?_setIfInBounds_self_of_lt (by omega)]
    · rw [Array.getElem?_setIfInBounds_self_of_lt (by simpa using hk2)]
  · rw [putF_other f _ e]
    constructor
    · rw [Array.getElem?_setIfInBounds_ne (by omega), Array.getElem?_setIfInBounds_ne (by omega)]; exact (hr i hi).1
    · rw [Array.getElem?_setIfInBounds_ne (by omega), Array.getElem?_setIfInBounds_ne (by omega)]; exact (hr i hi).2

/-! ### append -/
def cellsF (f : Slots) : Nat → List Value
  | 0 => []
  | n + 1 => cellsF f n ++ [.int .i64 (f n).1, .int .i64 (f n).2]
theorem cellsF_length (f : Slots) : ∀ n, (cellsF f n).length = n * 2
  | 0 => rfl
  | n + 1 => by rw [cellsF, List.length_append, cellsF_length f n]; simp; omega
theorem cellsF_get (f : Slots) : ∀ n i, i < n → (cellsF f n)[i * 2]? = some (.int .i64 (f i).1) ∧ (cellsF f n)[i * 2 + 1]? = some (.int .i64 (f i).2)
  | 0, i, h => absurd h (Nat.not_lt_zero _)
  | n + 1, i, h => by
    rw [cellsF]
    by_cases e : i = n
    · subst e
      constructor
      · rw [List.getElem?_append_right (by rw [cellsF_length]; omega), cellsF_length]; simp
      · rw [List.getElem?_append_right (by rw [cellsF_length]; omega), cellsF_length]; simp [Nat.add_sub_cancel_left]
    · obtain ⟨h1, h2⟩ := cellsF_get f n i (by omega)
      exact ⟨by rw [List.getElem?_append_left (by rw [cellsF_length]; omega)]; exact h1, by rw [List.getElem?_append_left (by rw [cellsF_length]; omega)]; exact h2⟩
theorem cellsF_at (f : Slots) (n j : Nat) (u : Value) (h : (cellsF f n)[j]? = some u) : ∃ i, i < n ∧ ((j = i * 2 ∧ u = .int .i64 (f i).1) ∨ (j = i * 2 + 1 ∧ u = .int .i64 (f i).2)) := by
  have hj : j < n * 2 := by
    have := (List.getElem?_eq_some_iff.1 h).1
    rwa [cellsF_length] at this
  have hi : j / 2 < n := by omega
  obtain ⟨h1, h2⟩ := cellsF_get f n (j / 2) hi
  rcases Nat.mod_two_eq_zero_or_one j with e | e
  · have ej : j / 2 * 2 = j := by omega
    rw [ej, h] at h1
    injection h1 with h1
    exact ⟨j / 2, hi, .inl ⟨by omega, h1⟩⟩
  · have ej : j / 2 * 2 + 1 = j := by omega
    rw [ej, h] at h2
    injection h2 with h2
    exact ⟨j / 2, hi, .inr ⟨by omega, h2⟩⟩
theorem cellsF_one (f : Slots) (n : Nat) : ∀ u ∈ cellsF f n, u.oneCell' = true := by
  intro u hu
  obtain ⟨j, hj, e⟩ := List.getElem_of_mem hu
  obtain ⟨i, _, ⟨_, rfl⟩ | ⟨_, rfl⟩⟩ := cellsF_at f n j u (by rw [List.getElem?_eq_getElem hj, e])
  · rfl
  · rfl
/-- what a row of the library's says of such a list -/
theorem own_of_row {w : World} {B n : Nat} {v : Value} {f : Slots} (h : w.ownsRow B 133 2 v n (cellsF f n)) : OwnRow w B v n f := by
  rcases h.2 with ⟨rfl, rfl⟩ | ⟨g, cap, cur, rfl, hB, hg, hn, hcm, hs, ht⟩
  · exact .inl ⟨rfl, rfl⟩
  · refine .inr ⟨g, cap, rfl, hB, hn, hcm, cur, hg, hs, fun i hi => ?_⟩
    obtain ⟨h1, h2⟩ := cellsF_get f n i hi
    rw [← ht] at h1 h2
    rw [List.getElem?_take_of_lt (by omega)] at h1 h2
    exact ⟨by simpa using h1, by simpa using h2⟩
theorem row_of_own {w : World} {B g n cap : Nat} {f : Slots} (h : OwnAt w B g n cap f) : w.ownsRow B 133 2 (.slice (some ⟨g, 0, none⟩) n cap) n (cellsF f n) := by
  obtain ⟨h1, h2, h3, cur, hh, hs, hr⟩ := h
  refine ⟨cellsF_length f n, .inr ⟨g, cap, cur, rfl, h1, hh, h2, h3, hs, ?_⟩⟩
  apply List.ext_getElem?
  intro j
  by_cases hj : j < n * 2
  · rw [List.getElem?_take_of_lt hj]
    have hi : j / 2 < n := by omega
    obtain ⟨a1, a2⟩ := cellsF_get f n (j / 2) hi
    obtain ⟨b1, b2⟩ := hr (j / 2) hi
    rcases Nat.mod_two_eq_zero_or_one j with e | e
    · have ej : j / 2 * 2 = j := by omega
      rw [ej] at a1 b1
      rw [a1]; simpa using b1
    · have ej : j / 2 * 2 + 1 = j := by omega
      rw [ej] at a2 b2
      rw [a2]; simpa using b2
  · rw [List.getElem?_eq_none (by rw [List.length_take]; omega), List.getElem?_eq_none (by rw [cellsF_length]; omega)]

theorem row_of_ownrow {w : World} {B n : Nat} {v : Value} {f : Slots} (h : OwnRow w B v n f) : w.ownsRow B 133 2 v n (cellsF f n) := by
  rcases h with ⟨rfl, rfl⟩ | ⟨g, cap, rfl, h⟩
  · exact World.ownsRow_nil w B _ _
  · exact row_of_own h
theorem OwnRow.below {w w' : World} {B n : Nat} {v : Value} {f : Slots} (h : OwnRow w B v n f) (hb : Below w.heap.size w w') : OwnRow w' B v n f := by
  rcases h with h | ⟨g, cap, e, h⟩
  · exact .inl h
  · exact .inr ⟨g, cap, e, h.below hb⟩
theorem OwnRow.alloc {w : World} {B n : Nat} {v : Value} {f : Slots} (h : OwnRow w B v n f) (o : Obj) : OwnRow (w.alloc o) B v n f := h.below ((Below.refl _ _).alloc (Nat.le_refl _) _)
theorem OwnRow.mono {w : World} {B B' n : Nat} {v : Value} {f : Slots} (h : OwnRow w B v n f) (hB : B' ≤ B) : OwnRow w B' v n f := by
  rcases h with h | ⟨g, cap, e, h⟩
  · exact .inl h
  · exact .inr ⟨g, cap, e, h.mono hB⟩
theorem OwnRow.congr {w : World} {B n : Nat} {v : Value} {f f' : Slots} (h : OwnRow w B v n f) (e : ∀ i, i < n → f i = f' i) : OwnRow w B v n f' := by
  rcases h with h | ⟨g, cap, e1, h⟩
  · exact .inl h
  · exact .inr ⟨g, cap, e1, h.congr e⟩
theorem cellsF_congr {f f' : Slots} : ∀ n, (∀ i, i < n → f i = f' i) → cellsF f n = cellsF f' n
  | 0, _ => rfl
  | n + 1, h => by rw [cellsF, cellsF, cellsF_congr n (fun i hi => h i (by omega)), h n (by omega)]
theorem cellsF_push (f : Slots) (n : Nat) (s : Int × Int) : cellsF f n ++ cellsF (fun _ => s) 1 = cellsF (putF f n s) (n + 1) := by
  have e : cellsF (putF f n s) n = cellsF f n := cellsF_congr n (fun i hi => putF_other f s (by omega))
  show cellsF f n ++ ([] ++ [.int .i64 s.1, .int .i64 s.2]) = cellsF (putF f n s) n ++ [.int .i64 (putF f n s n).1, .int .i64 (putF f n s n).2]
  rw [e, putF_same]; rfl
/-- a list of one slot, just made -/
theorem one_row (w : World) (a b : Int) : RowAt (w.alloc (.cells #[.int .i64 a, .int .i64 b] 133)) (.slice (some ⟨w.heap.size, 0, none⟩) 1 1) 1 (fun _ => (a, b)) :=
  .inr ⟨w.heap.size, 0, 1, rfl, by simp, fun i hi => by
    have e : i = 0 := by omega
    subst e
    exact ⟨cell_of_block (heap_alloc_new w _) 0, cell_of_block (heap_alloc_new w _) 1⟩⟩
/-- a row's own block does not lie below its base -/
theorem OwnRow.below_own {w w' : World} {B n : Nat} {v : Value} {f : Slots} (h : OwnRow w B v n f) (hg : w.grownBy w' v.ownBlock) (hB : B ≤ w.heap.size) : Below B w w' := by
  refine ⟨hg.os, hg.tape, hg.output, hg.size, fun k hk => hg.block k (by omega) ?_⟩
  rcases h with ⟨_, rfl⟩ | ⟨g, cap, rfl, h⟩
  · simp [Value.ownBlock]
  · intro e
    have := h.1
    simp [Value.ownBlock] at e
    omega

theorem OwnRow.set {w : World} {B n : Nat} {v : Value} {f : Slots} (h : OwnRow w B v n f) {b : Nat} (hb : b < B) (o : Nat) (u : Value) : OwnRow (w.setCell ⟨b, o, none⟩ u) B v n f := by
  rcases h with h | ⟨g, cap, e, h⟩
  · exact .inl h
  · exact .inr ⟨g, cap, e, h.block (Below.heap_setCell w ⟨b, o, none⟩ u g (by have := h.1; intro e; subst e; exact absurd hb (by simpa using this)))⟩
theorem OwnRow.drewN {w : World} {B n : Nat} {v : Value} {f : Slots} (h : OwnRow w B v n f) (k : Nat) : OwnRow (w.drewN k) B v n f := h
theorem OwnRow.drew {w : World} {B n : Nat} {v : Value} {f : Slots} (h : OwnRow w B v n f) : OwnRow w.drew B v n f := h
theorem hasB_pos {n : Nat} {i : Int} (h : hasB n i = true) : 0 < n := by have := hasB_iff.1 h; omega

end Go.Proofs.YtflekodaiejflaaGreat

/-
  The model's own functions on heaps (spec, chapter 2): what each answers.
-/
namespace Go.Proofs.YtflekodaiejflaaGreat
open Go.RowKit Go.Joins
set_option linter.unusedVariables false
set_option linter.unusedSimpArgs false

/-! ### append onto a list of the call's own, from a list that is read -/
theorem slot_info : (Tryz.prog.info? 133).map (fun i => (i.zero, i.size, i.bytes)) = some (some (.agg #[.int .i64 0, .int .i64 0]), 2, 16) := by kernel_rfl

theorem run_append_slots (w : World) (B : Nat) (ty : TypeId) (v : Value) (n : Nat) (f : Slots) (hown : w.ownsRow B 133 2 v n (cellsF f n)) (x : Value) (m : Nat) (h : Slots) (hx : RowAt w x m h) (hn : n + m ≤ 4194304) (hB : B ≤ w.heap.size) :
    ∃ v' w', (Builtin.append_ #[85, 85] ty #[v, x]).run Tryz.prog w = .ok v' w' ∧ w'.ownsRow B 133 2 v' (n + m) (cellsF f n ++ cellsF h m) ∧ w.grownBy w' v.ownBlock ∧ (v'.ownBlock = v.ownBlock ∨ v'.ownBlock = some w.heap.size) := by
  obtain ⟨i0, hi, hz, hs, hby⟩ := info_parts slot_info
  have hbytes : (n + m) * 16 ≤ 140737488355328 := by omega
  have h63 : n + m ≤ maxLen := by unfold maxLen; omega
  rcases hx with ⟨rfl, a, cap, rfl⟩ | ⟨b, off, cap, rfl, hl, hc⟩
  · rcases a with _ | ad
    · refine ⟨v, w, ?_, by simpa [cellsF] using hown, g_refl w _, .inl rfl⟩
      rcases hown.2 with ⟨rfl, rfl⟩ | ⟨g, cap', cur, rfl, _, _, hnc, _⟩
      · simp [Builtin.append_, run_underlying Tryz.underlying85, sizeOf, typeInfo, hi, Builtin.lenOf, Builtin.firstCells]
      · simp [Builtin.append_, run_underlying Tryz.underlying85, sizeOf, typeInfo, hi, Builtin.lenOf, Builtin.firstCells, hnc, storeCells]
    · obtain ⟨v', w', hrun, h2, h3, _, h5⟩ := run_append_own_at (P := Tryz.prog) w B 85 ty 133 i0 _ 2 16 Tryz.underlying85 hi hz hs hby rfl (by decide) v n _ hown ad 0 cap [] rfl (by simp) (by simp) h63 hbytes hB
      exact ⟨v', w', hrun, by simpa [cellsF] using h2, h3, h5⟩
  · obtain ⟨v', w', hrun, h2, h3, _, h5⟩ := run_append_own_at (P := Tryz.prog) w B 85 ty 133 i0 _ 2 16 Tryz.underlying85 hi hz hs hby rfl (by decide) v n _ hown ⟨b, off, none⟩ m cap (cellsF h m) (cellsF_length h m)
      (fun j u hu => by
        obtain ⟨i, hi, ⟨rfl, rfl⟩ | ⟨rfl, rfl⟩⟩ := cellsF_at h m j u hu
        · rw [Go.WideShapes.add_plain]; exact (hc i hi).1
        · rw [Go.WideShapes.add_plain, ← Nat.add_assoc]; exact (hc i hi).2) (cellsF_one h m) h63 hbytes hB
    exact ⟨v', w', hrun, h2, h3, h5⟩

theorem wp_append_slots {o : Oper} {a : Act} {K : Act → World → Prop} {Q : Exit → Act → World → Prop} {w : World} (s x : Operand)
    (ho : o.op = .call { callee := .builtin .append, args := #[s, x], argTypes := #[85, 85] })
    (B : Nat) (v : Value) (n : Nat) (f : Slots) (hs : a.eval s = v) (hown : w.ownsRow B 133 2 v n (cellsF f n)) (y : Value) (m : Nat) (h : Slots) (hx : a.eval x = y) (hrow : RowAt w y m h) (hn : n + m ≤ 4194304) (hB : B ≤ w.heap.size)
    (hK : ∀ v' w', w'.ownsRow B 133 2 v' (n + m) (cellsF f n ++ cellsF h m) → w.grownBy w' v.ownBlock → (v'.ownBlock = v.ownBlock ∨ v'.ownBlock = some w.heap.size) → K (a.put o.dst v') w') : o.wp Tryz.prog a w K Q := by
  obtain ⟨v', w', hr, h2, h3, h4⟩ := run_append_slots w B o.type v n f hown y m h hrow hn hB
  unfold Oper.wp execOp
  simp only [ho, resolve, invoke, builtin, Sem.run_bind, Sem.run_pure, Result.andThen_ok, List.map_toArray, List.map_cons, List.map_nil, hs, hx, hr]
  exact hK v' w' h2 h3 h4
theorem wpList_append_slots {ops : Array Oper} {rest : List Oper} {o : Oper} {a : Act} {Q : Exit → Act → World → Prop} {w : World} (hgd : o.guard = none) (s x : Operand)
    (ho : o.op = .call { callee := .builtin .append, args := #[s, x], argTypes := #[85, 85] })
    (B : Nat) (v : Value) (n : Nat) (f : Slots) (hs : a.eval s = v) (hown : w.ownsRow B 133 2 v n (cellsF f n)) (y : Value) (m : Nat) (h : Slots) (hx : a.eval x = y) (hrow : RowAt w y m h) (hn : n + m ≤ 4194304) (hB : B ≤ w.heap.size)
    (hK : ∀ v' w', w'.ownsRow B 133 2 v' (n + m) (cellsF f n ++ cellsF h m) → w.grownBy w' v.ownBlock → (v'.ownBlock = v.ownBlock ∨ v'.ownBlock = some w.heap.size) → wpList Tryz.prog ops Q rest (a.put o.dst v') w') : wpList Tryz.prog ops Q (o :: rest) a w :=
  wpList_plain hgd fun _ hK' => wp_append_slots s x ho B v n f hs hown y m h hx hrow hn hB fun v' w' h2 h3 h4 => hK' _ _ (hK v' w' h2 h3 h4)
theorem step_append_slots {ops : Array Oper} {o : Oper} {a : Act} {K : Act → World → Prop} {Q : Exit → Act → World → Prop} {E : Prop} {w : World} (hgd : o.guard = none) (s x : Operand)
    (ho : o.op = .call { callee := .builtin .append, args := #[s, x], argTypes := #[85, 85] })
    (B : Nat) (v : Value) (n : Nat) (f : Slots) (hs : a.eval s = v) (hown : w.ownsRow B 133 2 v n (cellsF f n)) (y : Value) (m : Nat) (h : Slots) (hx : a.eval x = y) (hrow : RowAt w y m h) (hn : n + m ≤ 4194304) (hB : B ≤ w.heap.size)
    (hK : ∀ v' w', w'.ownsRow B 133 2 v' (n + m) (cellsF f n ++ cellsF h m) → w.grownBy w' v.ownBlock → (v'.ownBlock = v.ownBlock ∨ v'.ownBlock = some w.heap.size) → K (a.put o.dst v') w') :
    if Region.wanted o (yielded ops a.tmps) = true then Oper.wp Tryz.prog o a w K Q else E := by
  have hw : Region.wanted o (yielded ops a.tmps) = true := by simp [Region.wanted, hgd]
  rw [if_pos hw]
  exact wp_append_slots s x ho B v n f hs hown y m h hx hrow hn hB hK
theorem append_zero {f h : Slots} {n : Nat} : cellsF f 0 ++ cellsF h n = cellsF h n := rfl

theorem ret_i64 {a b : Int} (h : a = b) : Ending.returned (.int .i64 a) = .returned (.int .i64 b) := by rw [h]
theorem ret_bool {a b : Bool} (h : a = b) : Ending.returned (.bool a) = .returned (.bool b) := by rw [h]
/-- a call that makes a new list -/
def NewRow (n : Nat) (f : Slots) (w : World) (e : Ending) (w' : World) : Prop := ∃ v, e = .returned v ∧ OwnRow w' w.heap.size v n f ∧ Below w.heap.size w w'

set_option maxHeartbeats 400000 in
theorem l2Copy_any {v : Value} {n : Nat} {f : Slots} {w : World} (hn : n ≤ 1048576) (h : RowAt w v n f) :
    Calls Tryz.prog 71 #[v] w (NewRow n f w) := by
  have H := Lib.hid (h.below ((Below.refl _ _).alloc (Nat.le_refl _) (.cells #[] 133)))
  have ho := Lib.hid (World.ownsRow_made w (base := w.heap.size) (e := 133) (size := 2) #[] 0 (Nat.le_refl _) (Nat.zero_le _) rfl)
  clear h
  go_enter Tryz.func71, Tryz.ntmps71
  go_wp2_with (first | (at_builtin; refine wpList_append_slots rfl (.tmp 3) (.tmp 4) rfl w.heap.size (.slice (some ⟨w.heap.size, 0, none⟩) 0 0) 0 f rfl ho.out v n f rfl H.out (by omega) (by simp) ?_; intro v' w' hown hg hat))
  go_ret
  rw [append_zero, Nat.zero_add] at hown
  exact ⟨_, rfl, own_of_row hown, ((Below.refl _ _).alloc (Nat.le_refl _) _).trans (b_grown hg (Nat.le_refl _) (by simp))⟩

set_option maxHeartbeats 400000 in
theorem l2Has_any {v : Value} {n : Nat} (f : Slots) (i : Int) {w : World} (hn : n ≤ 1048576) (h : RowAt w v n f) :
    Calls Tryz.prog 138 #[v, .int .i64 i] w fun e w' => e = .returned (.bool (hasB n i)) ∧ w = w' := by
  obtain ⟨a, cap, rfl⟩ := h.form
  clear h
  go_enter Tryz.func138, Tryz.ntmps138
  go_wp2_with (go_at_call 34; refine (l1In_any _ _ _ _).mono ?_; rintro e w' ⟨rfl, rfl⟩)
  go_ret
  exact ⟨rfl, rfl⟩

set_option maxHeartbeats 400000 in
theorem spFindSlot_any {v : Value} {n : Nat} (f : Slots) (id : Int) {w : World} (hn : n ≤ 1048576) (h : RowAt w v n f) :
    Calls Tryz.prog 89 #[v, .int .i64 id] w fun e w' => e = .returned (.int .i64 (findFrom f n id 0)) ∧ w = w' := by
  rcases h with ⟨rfl, a, cap, rfl⟩ | ⟨b, off, cap, rfl, hl, hc⟩
  · rw [findFrom_out (Nat.lt_irrefl 0)]
    go_enter Tryz.func89, Tryz.ntmps89
    go_wp2
    go_loop [5] (fun i => i = .int .i64 0) (fun _ => 0)
    case atStart => rfl
    case round =>
      subst hrel
      go_wp2
      go_ret
      exact ⟨rfl, rfl⟩
  · have H := Lib.hid hc
    clear hc
    go_enter Tryz.func89, Tryz.ntmps89
    go_wp2
    go_loop [5] (fun i => ∃ k : Nat, k ≤ n ∧ i = .int .i64 k ∧ Hid (findFrom f n id 0 = findFrom f n id k)) (fun i => n - (intOf i).toNat)
    case atStart => exact ⟨0, Nat.zero_le _, rfl, Lib.hid rfl⟩
    case round =>
      obtain ⟨k, hk, rfl, hf⟩ := hrel
      by_cases hlt : k < n
      · have hck := (H.out k hlt).1
        by_cases he : (f k).1 = id
        · have hb : ((f k).1 == id) = true := by simpa using he
          have hfk := Lib.hid (hf.out.trans (findFrom_here hlt he))
          clear he hf
          go_wp2
          go_ret
          exact ⟨ret_i64 hfk.out.symm, rfl⟩
        · have hb : ((f k).1 == id) = false := by simpa using he
          have hfk := Lib.hid (hf.out.trans (findFrom_next hlt he))
          clear he hf
          go_wp2
          exact ⟨⟨k + 1, by omega, by go_num, hfk⟩, by simp [intOf]; omega⟩
      · have hfk := Lib.hid (hf.out.trans (findFrom_out hlt))
        clear hf
        go_wp2
        go_ret
        exact ⟨ret_i64 hfk.out.symm, rfl⟩

/-- a call that only reads -/
def ReadsB (x : Bool) (w : World) (e : Ending) (w' : World) : Prop := ∃ m, e = .returned (.bool x) ∧ w' = w.drewN m

set_option maxHeartbeats 400000 in
theorem spHeapOk_any {v : Value} {n : Nat} (f : Slots) {w : World} (hn : n ≤ 1048576) (h : RowAt w v n f) :
    Calls Tryz.prog 124 #[v] w (ReadsB (heapB f n) w) := by
  rcases h with ⟨rfl, a, cap, rfl⟩ | ⟨b, off, cap, rfl, hl, hc⟩
  · rw [show heapB f 0 = true by rw [heapB, heapFrom_out (by omega)]; rfl]
    go_enter Tryz.func124, Tryz.ntmps124
    go_wp2
    go_loop [3] (fun i => i = .int .i64 1) (fun _ => 0)
    case atStart => rfl
    case round =>
      subst hrel
      go_wp2
      go_ret
      exact ⟨0, rfl, rfl⟩
  · have H := Lib.hid hc
    clear hc
    go_enter Tryz.func124, Tryz.ntmps124
    go_wp2
    go_loopw [3] (fun i wr => ∃ k m : Nat, 1 ≤ k ∧ i = .int .i64 k ∧ wr = w.drewN m ∧ k ≤ n + 1 ∧ Hid (heapFrom f n 1 = heapFrom f n k)) (fun i _ => n + 1 - (intOf i).toNat)
    case atStart => exact ⟨1, 0, Nat.le_refl _, rfl, rfl, by omega, Lib.hid rfl⟩
    case round =>
      obtain ⟨k, m, hk1, rfl, rfl, hkn, hf⟩ := hrel
      by_cases hlt : k < n
      · have hck := (H.out k hlt).2
        have hcp := (H.out ((k - 1) / 4) (by omega)).2
        have e1 : IntKind.i64.wrap ((k : Int) - 1) = ((k - 1 : Nat) : Int) := by rw [IntKind.wrap_i64]; omega
        have e2 : ((k - 1 : Nat) : Int).tdiv 4 = ((k - 1) / 4 : Nat) := by rw [Int.tdiv_eq_ediv_of_nonneg (by omega)]; omega
        have b1 : (((k - 1) / 4 : Nat) : Int) < (n : Int) := by omega
        have b2 : (k : Int) < (n : Int) := by omega
        by_cases hlo : (f k).2 < (f ((k - 1) / 4)).2
        · have hd : decide ((f k).2 < (f ((k - 1) / 4)).2) = true := by simpa using hlo
          have hb : heapB f n = false := by rw [heapB, hf.out, heapFrom_bad hlt hlo]; rfl
          have HB := Lib.hid hb
          clear hb hlo hf
          go_wp2
          go_quiet (fail)
          clear e1 e2
          go_wp2
          simp only [World.drewN_drewN]
          go_ret
          exact ⟨_, ret_bool HB.out.symm, rfl⟩
        · have hd : decide ((f k).2 < (f ((k - 1) / 4)).2) = false := by simpa using hlo
          have hfk := Lib.hid (hf.out.trans (heapFrom_good hlt hlo))
          clear hlo hf
          go_wp2
          go_quiet (fail)
          clear e1 e2
          go_wp2
          try simp only [World.drewN_drewN]
          exact ⟨⟨k + 1, _, by omega, by go_num, rfl, by omega, hfk⟩, by simp [intOf]; omega⟩
      · have HB := Lib.hid (show heapB f n = decide ((n : Int) ≤ 30) by rw [heapB, hf.out, heapFrom_out hlt, Bool.true_and, decide_eq_decide]; omega)
        clear hf
        go_wp2
        go_ret
        exact ⟨_, ret_bool HB.out.symm, rfl⟩

end Go.Proofs.YtflekodaiejflaaGreat

/-
  Processors (spec, chapter 4): what the model answers.
-/
namespace Go.Proofs.YtflekodaiejflaaGreat
open Go.RowKit Go.Joins
set_option linter.unusedVariables false
set_option linter.unusedSimpArgs false

abbrev prV (v : Value) (l e d : Int) : Value := .agg #[v, .int .i64 l, .int .i64 e, .int .i64 d]
/-- no Id twice: the slot i's is none of the first k ones' -/
def diffTo (f : Slots) (i : Nat) : Nat → Bool
  | 0 => true
  | k + 1 => diffTo f i k && !((f i).1 == (f k).1)
def diffAll (f : Slots) : Nat → Bool
  | 0 => true
  | i + 1 => diffAll f i && diffTo f i i
theorem diffTo_bad {f : Slots} {i k : Nat} (h : diffTo f i k = false) : ∀ m, k ≤ m → diffTo f i m = false
  | 0, hm => by rw [Nat.le_zero.1 hm] at h; exact h
  | m + 1, hm => by
    by_cases e : k = m + 1
    · rw [← e]; exact h
    · rw [diffTo, diffTo_bad h m (by omega), Bool.false_and]
theorem diffAll_bad {f : Slots} {i : Nat} (h : diffAll f i = false) : ∀ m, i ≤ m → diffAll f m = false
  | 0, hm => by rw [Nat.le_zero.1 hm] at h; exact h
  | m + 1, hm => by
    by_cases e : i = m + 1
    · rw [← e]; exact h
    · rw [diffAll, diffAll_bad h m (by omega), Bool.false_and]
theorem diff_found {f : Slots} {n i k : Nat} (hi : i < n) (hk : k < i) (h : (f i).1 = (f k).1) : diffAll f n = false := by
  have h1 : diffTo f i (k + 1) = false := by rw [diffTo, h]; simp
  exact diffAll_bad (show diffAll f (i + 1) = false by rw [diffAll, diffTo_bad h1 i (by omega), Bool.and_false]) n (by omega)
/-- is a processor right? -/
def procOkB (a b c : Int) (f : Slots) (n : Nat) (l e d : Int) : Bool :=
  planB a b c && (heapB f n && ((l == -1 || workB a b c l) && ((e == -1 || inB e 0 1000000000) && (inB d 0 n && diffAll f n))))
/-- when is it to wake? -/
def wakeI (f : Slots) (n : Nat) (e : Int) : Int := if n = 0 then maxI e (-1) else if e < 0 then (f 0).2 else minI (f 0).2 e

end Go.Proofs.YtflekodaiejflaaGreat

/-
  Processors (spec, chapter 4): is a processor right?
-/
namespace Go.Proofs.YtflekodaiejflaaGreat
open Go.RowKit Go.Joins
set_option linter.unusedVariables false
set_option linter.unusedSimpArgs false

/-- what the long test says, and the world behind it -/
def HeadB (x : Bool) (N : Nat) (W : World) (w' : World) : Prop := Below N W w'

set_option maxRecDepth 100000 in
set_option maxHeartbeats 8000000 in
theorem spProcOk_any (a b c : Int) {v : Value} {n : Nat} {f : Slots} (l e d : Int) {w : World} (hn : n ≤ 1048576) (h : RowAt w v n f) :
    Calls Tryz.prog 109 #[.agg #[.int .i64 a, .int .i64 b, .int .i64 c], prV v l e d] w fun x w' => x = .returned (.bool (procOkB a b c f n l e d)) ∧ Below w.heap.size w w' := by
  have k0 := ((Below.refl w.heap.size w).alloc (Nat.le_refl _) (.cells #[.int .i64 a, .int .i64 b, .int .i64 c] 46)).alloc (by simp) (.cells #[v, .int .i64 l, .int .i64 e, .int .i64 d] 87)
  have HR := Lib.hid (h.below k0)
  have HX := Lib.hid (show ((w.alloc (.cells #[.int .i64 a, .int .i64 b, .int .i64 c] 46)).alloc (.cells #[v, .int .i64 l, .int .i64 e, .int .i64 d] 87)).heap[w.heap.size + 1]? = some (.cells #[v, .int .i64 l, .int .i64 e, .int .i64 d] 87 (0, 0)) by
    have := heap_alloc_new (w.alloc (.cells #[.int .i64 a, .int .i64 b, .int .i64 c] 46)) (.cells #[v, .int .i64 l, .int .i64 e, .int .i64 d] 87)
    simpa using this)
  obtain ⟨va, vc, hv⟩ := h.form
  clear h
  subst hv
  cases h1 : planB a b c
  · rw [show procOkB a b c f n l e d = false by simp [procOkB, h1]]
    go_enter Tryz.func109, Tryz.ntmps109
    go_wp2_with (first
        | (go_at_call 86; refine (spPlanOk_any _ _ _ _).mono ?_; rintro x w1 ⟨rfl, hb⟩; have hr1 := HR.out.below hb; obtain ⟨hc, hf⟩ := bcell hb)
        | (go_at_call 124; refine (spHeapOk_any f hn hr1).mono ?_; rintro x w2 ⟨m1, rfl, rfl⟩)
        | (go_at_call 64; refine (l1Worker_any _ _ _ _ _).mono ?_; rintro x w3 ⟨rfl, hb3⟩; have hb4 := (b_drewN hb m1).trans (hb3.mono (b_drewN hb m1).size); obtain ⟨hc3, hf3⟩ := bcell hb4)
        | (go_at_call 92; refine (l1Time_any _ _).mono ?_; rintro x w' ⟨rfl, rfl⟩)
        | (go_at_call 34; refine (l1In_any _ _ _ _).mono ?_; rintro x w' ⟨rfl, rfl⟩))
    go_ret
    exact ⟨by simp, k0.trans ((hb).mono k0.size)⟩
  cases h2 : heapB f n
  · rw [show procOkB a b c f n l e d = false by simp [procOkB, h1, h2]]
    go_enter Tryz.func109, Tryz.ntmps109
    go_wp2_with (first
        | (go_at_call 86; refine (spPlanOk_any _ _ _ _).mono ?_; rintro x w1 ⟨rfl, hb⟩; have hr1 := HR.out.below hb; obtain ⟨hc, hf⟩ := bcell hb)
        | (go_at_call 124; refine (spHeapOk_any f hn hr1).mono ?_; rintro x w2 ⟨m1, rfl, rfl⟩)
        | (go_at_call 64; refine (l1Worker_any _ _ _ _ _).mono ?_; rintro x w3 ⟨rfl, hb3⟩; have hb4 := (b_drewN hb m1).trans (hb3.mono (b_drewN hb m1).size); obtain ⟨hc3, hf3⟩ := bcell hb4)
        | (go_at_call 92; refine (l1Time_any _ _).mono ?_; rintro x w' ⟨rfl, rfl⟩)
        | (go_at_call 34; refine (l1In_any _ _ _ _).mono ?_; rintro x w' ⟨rfl, rfl⟩))
    go_ret
    exact ⟨by simp, k0.trans ((b_drewN hb _).mono k0.size)⟩
  by_cases hl : l = -1
  · subst hl
    by_cases he1 : e = -1
    · subst he1
      cases h5 : inB d 0 n
      · rw [show procOkB a b c f n (-1) (-1) d = false by simp [procOkB, h1, h2, h5]]
        skip
        go_enter Tryz.func109, Tryz.ntmps109
        go_wp2_with (first
            | (go_at_call 86; refine (spPlanOk_any _ _ _ _).mono ?_; rintro x w1 ⟨rfl, hb⟩; have hr1 := HR.out.below hb; obtain ⟨hc, hf⟩ := bcell hb)
            | (go_at_call 124; refine (spHeapOk_any f hn hr1).mono ?_; rintro x w2 ⟨m1, rfl, rfl⟩)
            | (go_at_call 64; refine (l1Worker_any _ _ _ _ _).mono ?_; rintro x w3 ⟨rfl, hb3⟩; have hb4 := (b_drewN hb m1).trans (hb3.mono (b_drewN hb m1).size); obtain ⟨hc3, hf3⟩ := bcell hb4)
            | (go_at_call 92; refine (l1Time_any _ _).mono ?_; rintro x w' ⟨rfl, rfl⟩)
            | (go_at_call 34; refine (l1In_any _ _ _ _).mono ?_; rintro x w' ⟨rfl, rfl⟩))
        go_ret
        exact ⟨by simp, k0.trans ((b_drewN hb m1).mono k0.size)⟩
      · have hall := Lib.hid (show procOkB a b c f n (-1) (-1) d = diffAll f n by simp [procOkB, h1, h2, h5])
        skip
        go_enter Tryz.func109, Tryz.ntmps109
        go_wp2_with (first
            | (go_at_call 86; refine (spPlanOk_any _ _ _ _).mono ?_; rintro x w1 ⟨rfl, hb⟩; have hr1 := HR.out.below hb; obtain ⟨hc, hf⟩ := bcell hb)
            | (go_at_call 124; refine (spHeapOk_any f hn hr1).mono ?_; rintro x w2 ⟨m1, rfl, rfl⟩)
            | (go_at_call 64; refine (l1Worker_any _ _ _ _ _).mono ?_; rintro x w3 ⟨rfl, hb3⟩; have hb4 := (b_drewN hb m1).trans (hb3.mono (b_drewN hb m1).size); obtain ⟨hc3, hf3⟩ := bcell hb4)
            | (go_at_call 92; refine (l1Time_any _ _).mono ?_; rintro x w' ⟨rfl, rfl⟩)
            | (go_at_call 34; refine (l1In_any _ _ _ _).mono ?_; rintro x w' ⟨rfl, rfl⟩))
        have hH := b_drewN hb m1
        have hXH := b_block hH HX.out (by simp)
        have hRH := HR.out.below hH
        have x0 := cell_of_block hXH 0
        clear hXH HR HX hb hr1 hc hf
        generalize hwq : w1.drewN m1 = wq at *
        clear hwq
        have kq := k0.trans (hH.mono k0.size)
        clear hH k0
        rcases hRH with ⟨h0, a5, cap5, hv5⟩ | ⟨b5, off5, cap5, hv5, hl5, hc5⟩
        · subst h0
          refine wp_loop_rounds 1 ?_
          rw [rounds_succ]
          go_wp2
          go_ret
          exact ⟨ret_bool hall.out.symm, kq⟩
        · injection hv5 with e1 e2 e3
          subst e1 e3
          have H5 := Lib.hid hc5
          clear hc5 e2
          go_loopw [5] (fun i wr => ∃ (k m : Nat), k ≤ n ∧ i = .int .i64 k ∧ wr = wq.drewN m ∧ Hid (diffAll f k = true)) (fun i _ => n - (intOf i).toNat)
          case atStart => exact ⟨0, 0, Nat.zero_le _, rfl, rfl, Lib.hid rfl⟩
          case round =>
            obtain ⟨k, m, hk, rfl, rfl, hdk⟩ := hrel
            by_cases hkn : k < n
            · have hkn' : (k : Int) < (n : Int) := by omega
              have ck := (H5.out k hkn).1
              go_wp2_with fail
              go_loopw [6] (fun j wi => ∃ (q m' : Nat), q ≤ k ∧ j = .int .i64 q ∧ wi = wq.drewN m' ∧ Hid (diffTo f k q = true)) (fun j _ => k - (intOf j).toNat)
              case atStart => exact ⟨0, m, Nat.zero_le _, rfl, rfl, Lib.hid rfl⟩
              case round =>
                obtain ⟨q, m', hq, rfl, rfl, hdq⟩ := hrel
                by_cases hqk : q < k
                · have hqk' : (q : Int) < (k : Int) := by omega
                  have hqn' : (q : Int) < (n : Int) := by omega
                  have cq := (H5.out q (by omega)).1
                  by_cases he : (f k).1 = (f q).1
                  · have hd : ((f k).1 == (f q).1) = true := by simpa using he
                    have hbad := Lib.hid (hall.out.trans (diff_found hkn hqk he))
                    clear he
                    go_wp2_with fail
                    go_quiet (fail)
                    go_wp2
                    simp only [World.drewN_drewN]
                    go_ret
                    exact ⟨ret_bool hbad.out.symm, b_drewN kq _⟩
                  · have hd : ((f k).1 == (f q).1) = false := by simpa using he
                    have hnext := Lib.hid (show diffTo f k (q + 1) = true by rw [diffTo, hdq.out, hd]; rfl)
                    clear he
                    go_wp2_with fail
                    go_quiet (fail)
                    go_wp2
                    try simp only [World.drewN_drewN]
                    exact ⟨⟨q + 1, _, by omega, by go_num, rfl, hnext⟩, by simp [intOf]; omega⟩
                · have hqe : q = k := by omega
                  have hnext := Lib.hid (show diffAll f (k + 1) = true by rw [diffAll, hdk.out]; rw [hqe] at hdq; exact hdq.out)
                  have hqk' : ¬ (q : Int) < (k : Int) := by omega
                  have hdd : decide (q < k) = false := by simp; omega
                  clear hqe
                  go_wp2
                  exact ⟨⟨k + 1, _, by omega, by go_num, rfl, hnext⟩, by simp [intOf]; omega⟩
            · have hkn' : ¬ (k : Int) < (n : Int) := by omega
              have hdd : decide (k < n) = false := by simp; omega
              have hgood := Lib.hid (hall.out.trans (show diffAll f n = true by rw [show n = k by omega]; exact hdk.out))
              go_wp2
              go_ret
              exact ⟨ret_bool hgood.out.symm, b_drewN kq _⟩
    · have me : (e != -1) = true := by simpa using he1
      cases h4 : inB e 0 1000000000
      · rw [show procOkB a b c f n  (-1) e d = false by simp [procOkB, h1, h2, h4, he1]]
        clear he1
        go_enter Tryz.func109, Tryz.ntmps109
        go_wp2_with (first
            | (go_at_call 86; refine (spPlanOk_any _ _ _ _).mono ?_; rintro x w1 ⟨rfl, hb⟩; have hr1 := HR.out.below hb; obtain ⟨hc, hf⟩ := bcell hb)
            | (go_at_call 124; refine (spHeapOk_any f hn hr1).mono ?_; rintro x w2 ⟨m1, rfl, rfl⟩)
            | (go_at_call 64; refine (l1Worker_any _ _ _ _ _).mono ?_; rintro x w3 ⟨rfl, hb3⟩; have hb4 := (b_drewN hb m1).trans (hb3.mono (b_drewN hb m1).size); obtain ⟨hc3, hf3⟩ := bcell hb4)
            | (go_at_call 92; refine (l1Time_any _ _).mono ?_; rintro x w' ⟨rfl, rfl⟩)
            | (go_at_call 34; refine (l1In_any _ _ _ _).mono ?_; rintro x w' ⟨rfl, rfl⟩))
        go_ret
        exact ⟨by simp, k0.trans ((b_drewN hb m1).mono k0.size)⟩
      · cases h5 : inB d 0 n
        · rw [show procOkB a b c f n  (-1) e d = false by simp [procOkB, h1, h2, h4, h5]]
          clear he1
          go_enter Tryz.func109, Tryz.ntmps109
          go_wp2_with (first
              | (go_at_call 86; refine (spPlanOk_any _ _ _ _).mono ?_; rintro x w1 ⟨rfl, hb⟩; have hr1 := HR.out.below hb; obtain ⟨hc, hf⟩ := bcell hb)
              | (go_at_call 124; refine (spHeapOk_any f hn hr1).mono ?_; rintro x w2 ⟨m1, rfl, rfl⟩)
              | (go_at_call 64; refine (l1Worker_any _ _ _ _ _).mono ?_; rintro x w3 ⟨rfl, hb3⟩; have hb4 := (b_drewN hb m1).trans (hb3.mono (b_drewN hb m1).size); obtain ⟨hc3, hf3⟩ := bcell hb4)
              | (go_at_call 92; refine (l1Time_any _ _).mono ?_; rintro x w' ⟨rfl, rfl⟩)
              | (go_at_call 34; refine (l1In_any _ _ _ _).mono ?_; rintro x w' ⟨rfl, rfl⟩))
          go_ret
          exact ⟨by simp, k0.trans ((b_drewN hb m1).mono k0.size)⟩
        · have hall := Lib.hid (show procOkB a b c f n  (-1) e d = diffAll f n by simp [procOkB, h1, h2, h4, h5])
          clear he1
          go_enter Tryz.func109, Tryz.ntmps109
          go_wp2_with (first
              | (go_at_call 86; refine (spPlanOk_any _ _ _ _).mono ?_; rintro x w1 ⟨rfl, hb⟩; have hr1 := HR.out.below hb; obtain ⟨hc, hf⟩ := bcell hb)
              | (go_at_call 124; refine (spHeapOk_any f hn hr1).mono ?_; rintro x w2 ⟨m1, rfl, rfl⟩)
              | (go_at_call 64; refine (l1Worker_any _ _ _ _ _).mono ?_; rintro x w3 ⟨rfl, hb3⟩; have hb4 := (b_drewN hb m1).trans (hb3.mono (b_drewN hb m1).size); obtain ⟨hc3, hf3⟩ := bcell hb4)
              | (go_at_call 92; refine (l1Time_any _ _).mono ?_; rintro x w' ⟨rfl, rfl⟩)
              | (go_at_call 34; refine (l1In_any _ _ _ _).mono ?_; rintro x w' ⟨rfl, rfl⟩))
          have hH := b_drewN hb m1
          have hXH := b_block hH HX.out (by simp)
          have hRH := HR.out.below hH
          have x0 := cell_of_block hXH 0
          clear hXH HR HX hb hr1 hc hf
          generalize hwq : w1.drewN m1 = wq at *
          clear hwq
          have kq := k0.trans (hH.mono k0.size)
          clear hH k0
          rcases hRH with ⟨h0, a5, cap5, hv5⟩ | ⟨b5, off5, cap5, hv5, hl5, hc5⟩
          · subst h0
            refine wp_loop_rounds 1 ?_
            rw [rounds_succ]
            go_wp2
            go_ret
            exact ⟨ret_bool hall.out.symm, kq⟩
          · injection hv5 with e1 e2 e3
            subst e1 e3
            have H5 := Lib.hid hc5
            clear hc5 e2
            go_loopw [5] (fun i wr => ∃ (k m : Nat), k ≤ n ∧ i = .int .i64 k ∧ wr = wq.drewN m ∧ Hid (diffAll f k = true)) (fun i _ => n - (intOf i).toNat)
            case atStart => exact ⟨0, 0, Nat.zero_le _, rfl, rfl, Lib.hid rfl⟩
            case round =>
              obtain ⟨k, m, hk, rfl, rfl, hdk⟩ := hrel
              by_cases hkn : k < n
              · have hkn' : (k : Int) < (n : Int) := by omega
                have ck := (H5.out k hkn).1
                go_wp2_with fail
                go_loopw [6] (fun j wi => ∃ (q m' : Nat), q ≤ k ∧ j = .int .i64 q ∧ wi = wq.drewN m' ∧ Hid (diffTo f k q = true)) (fun j _ => k - (intOf j).toNat)
                case atStart => exact ⟨0, m, Nat.zero_le _, rfl, rfl, Lib.hid rfl⟩
                case round =>
                  obtain ⟨q, m', hq, rfl, rfl, hdq⟩ := hrel
                  by_cases hqk : q < k
                  · have hqk' : (q : Int) < (k : Int) := by omega
                    have hqn' : (q : Int) < (n : Int) := by omega
                    have cq := (H5.out q (by omega)).1
                    by_cases he : (f k).1 = (f q).1
                    · have hd : ((f k).1 == (f q).1) = true := by simpa using he
                      have hbad := Lib.hid (hall.out.trans (diff_found hkn hqk he))
                      clear he
                      go_wp2_with fail
                      go_quiet (fail)
                      go_wp2
                      simp only [World.drewN_drewN]
                      go_ret
                      exact ⟨ret_bool hbad.out.symm, b_drewN kq _⟩
                    · have hd : ((f k).1 == (f q).1) = false := by simpa using he
                      have hnext := Lib.hid (show diffTo f k (q + 1) = true by rw [diffTo, hdq.out, hd]; rfl)
                      clear he
                      go_wp2_with fail
                      go_quiet (fail)
                      go_wp2
                      try simp only [World.drewN_drewN]
                      exact ⟨⟨q + 1, _, by omega, by go_num, rfl, hnext⟩, by simp [intOf]; omega⟩
                  · have hqe : q = k := by omega
                    have hnext := Lib.hid (show diffAll f (k + 1) = true by rw [diffAll, hdk.out]; rw [hqe] at hdq; exact hdq.out)
                    have hqk' : ¬ (q : Int) < (k : Int) := by omega
                    have hdd : decide (q < k) = false := by simp; omega
                    clear hqe
                    go_wp2
                    exact ⟨⟨k + 1, _, by omega, by go_num, rfl, hnext⟩, by simp [intOf]; omega⟩
              · have hkn' : ¬ (k : Int) < (n : Int) := by omega
                have hdd : decide (k < n) = false := by simp; omega
                have hgood := Lib.hid (hall.out.trans (show diffAll f n = true by rw [show n = k by omega]; exact hdk.out))
                go_wp2
                go_ret
                exact ⟨ret_bool hgood.out.symm, b_drewN kq _⟩
  · have ml : (l != -1) = true := by simpa using hl
    cases h3 : workB a b c l
    · rw [show procOkB a b c f n l e d = false by simp [procOkB, h1, h2, h3, hl]]
      clear hl
      go_enter Tryz.func109, Tryz.ntmps109
      go_wp2_with (first
          | (go_at_call 86; refine (spPlanOk_any _ _ _ _).mono ?_; rintro x w1 ⟨rfl, hb⟩; have hr1 := HR.out.below hb; obtain ⟨hc, hf⟩ := bcell hb)
          | (go_at_call 124; refine (spHeapOk_any f hn hr1).mono ?_; rintro x w2 ⟨m1, rfl, rfl⟩)
          | (go_at_call 64; refine (l1Worker_any _ _ _ _ _).mono ?_; rintro x w3 ⟨rfl, hb3⟩; have hb4 := (b_drewN hb m1).trans (hb3.mono (b_drewN hb m1).size); obtain ⟨hc3, hf3⟩ := bcell hb4)
          | (go_at_call 92; refine (l1Time_any _ _).mono ?_; rintro x w' ⟨rfl, rfl⟩)
          | (go_at_call 34; refine (l1In_any _ _ _ _).mono ?_; rintro x w' ⟨rfl, rfl⟩))
      go_ret
      exact ⟨by simp, k0.trans ((hb4).mono k0.size)⟩
    · by_cases he1 : e = -1
      · subst he1
        cases h5 : inB d 0 n
        · rw [show procOkB a b c f n l (-1) d = false by simp [procOkB, h1, h2, h3, h5]]
          clear hl
          go_enter Tryz.func109, Tryz.ntmps109
          go_wp2_with (first
              | (go_at_call 86; refine (spPlanOk_any _ _ _ _).mono ?_; rintro x w1 ⟨rfl, hb⟩; have hr1 := HR.out.below hb; obtain ⟨hc, hf⟩ := bcell hb)
              | (go_at_call 124; refine (spHeapOk_any f hn hr1).mono ?_; rintro x w2 ⟨m1, rfl, rfl⟩)
              | (go_at_call 64; refine (l1Worker_any _ _ _ _ _).mono ?_; rintro x w3 ⟨rfl, hb3⟩; have hb4 := (b_drewN hb m1).trans (hb3.mono (b_drewN hb m1).size); obtain ⟨hc3, hf3⟩ := bcell hb4)
              | (go_at_call 92; refine (l1Time_any _ _).mono ?_; rintro x w' ⟨rfl, rfl⟩)
              | (go_at_call 34; refine (l1In_any _ _ _ _).mono ?_; rintro x w' ⟨rfl, rfl⟩))
          go_ret
          exact ⟨by simp, k0.trans ((hb4).mono k0.size)⟩
        · have hall := Lib.hid (show procOkB a b c f n l (-1) d = diffAll f n by simp [procOkB, h1, h2, h3, h5])
          clear hl
          go_enter Tryz.func109, Tryz.ntmps109
          go_wp2_with (first
              | (go_at_call 86; refine (spPlanOk_any _ _ _ _).mono ?_; rintro x w1 ⟨rfl, hb⟩; have hr1 := HR.out.below hb; obtain ⟨hc, hf⟩ := bcell hb)
              | (go_at_call 124; refine (spHeapOk_any f hn hr1).mono ?_; rintro x w2 ⟨m1, rfl, rfl⟩)
              | (go_at_call 64; refine (l1Worker_any _ _ _ _ _).mono ?_; rintro x w3 ⟨rfl, hb3⟩; have hb4 := (b_drewN hb m1).trans (hb3.mono (b_drewN hb m1).size); obtain ⟨hc3, hf3⟩ := bcell hb4)
              | (go_at_call 92; refine (l1Time_any _ _).mono ?_; rintro x w' ⟨rfl, rfl⟩)
              | (go_at_call 34; refine (l1In_any _ _ _ _).mono ?_; rintro x w' ⟨rfl, rfl⟩))
          have hH := hb4
          have hXH := b_block hH HX.out (by simp)
          have hRH := HR.out.below hH
          have x0 := cell_of_block hXH 0
          clear hXH HR HX hb hr1 hc hf hb3 hb4 hc3 hf3
          generalize hwq : w3 = wq at *
          clear hwq
          have kq := k0.trans (hH.mono k0.size)
          clear hH k0
          rcases hRH with ⟨h0, a5, cap5, hv5⟩ | ⟨b5, off5, cap5, hv5, hl5, hc5⟩
          · subst h0
            refine wp_loop_rounds 1 ?_
            rw [rounds_succ]
            go_wp2
            go_ret
            exact ⟨ret_bool hall.out.symm, kq⟩
          · injection hv5 with e1 e2 e3
            subst e1 e3
            have H5 := Lib.hid hc5
            clear hc5 e2
            go_loopw [5] (fun i wr => ∃ (k m : Nat), k ≤ n ∧ i = .int .i64 k ∧ wr = wq.drewN m ∧ Hid (diffAll f k = true)) (fun i _ => n - (intOf i).toNat)
            case atStart => exact ⟨0, 0, Nat.zero_le _, rfl, rfl, Lib.hid rfl⟩
            case round =>
              obtain ⟨k, m, hk, rfl, rfl, hdk⟩ := hrel
              by_cases hkn : k < n
              · have hkn' : (k : Int) < (n : Int) := by omega
                have ck := (H5.out k hkn).1
                go_wp2_with fail
                go_loopw [6] (fun j wi => ∃ (q m' : Nat), q ≤ k ∧ j = .int .i64 q ∧ wi = wq.drewN m' ∧ Hid (diffTo f k q = true)) (fun j _ => k - (intOf j).toNat)
                case atStart => exact ⟨0, m, Nat.zero_le _, rfl, rfl, Lib.hid rfl⟩
                case round =>
                  obtain ⟨q, m', hq, rfl, rfl, hdq⟩ := hrel
                  by_cases hqk : q < k
                  · have hqk' : (q : Int) < (k : Int) := by omega
                    have hqn' : (q : Int) < (n : Int) := by omega
                    have cq := (H5.out q (by omega)).1
                    by_cases he : (f k).1 = (f q).1
                    · have hd : ((f k).1 == (f q).1) = true := by simpa using he
                      have hbad := Lib.hid (hall.out.trans (diff_found hkn hqk he))
                      clear he
                      go_wp2_with fail
                      go_quiet (fail)
                      go_wp2
                      simp only [World.drewN_drewN]
                      go_ret
                      exact ⟨ret_bool hbad.out.symm, b_drewN kq _⟩
                    · have hd : ((f k).1 == (f q).1) = false := by simpa using he
                      have hnext := Lib.hid (show diffTo f k (q + 1) = true by rw [diffTo, hdq.out, hd]; rfl)
                      clear he
                      go_wp2_with fail
                      go_quiet (fail)
                      go_wp2
                      try simp only [World.drewN_drewN]
                      exact ⟨⟨q + 1, _, by omega, by go_num, rfl, hnext⟩, by simp [intOf]; omega⟩
                  · have hqe : q = k := by omega
                    have hnext := Lib.hid (show diffAll f (k + 1) = true by rw [diffAll, hdk.out]; rw [hqe] at hdq; exact hdq.out)
                    have hqk' : ¬ (q : Int) < (k : Int) := by omega
                    have hdd : decide (q < k) = false := by simp; omega
                    clear hqe
                    go_wp2
                    exact ⟨⟨k + 1, _, by omega, by go_num, rfl, hnext⟩, by simp [intOf]; omega⟩
              · have hkn' : ¬ (k : Int) < (n : Int) := by omega
                have hdd : decide (k < n) = false := by simp; omega
                have hgood := Lib.hid (hall.out.trans (show diffAll f n = true by rw [show n = k by omega]; exact hdk.out))
                go_wp2
                go_ret
                exact ⟨ret_bool hgood.out.symm, b_drewN kq _⟩
      · have me : (e != -1) = true := by simpa using he1
        cases h4 : inB e 0 1000000000
        · rw [show procOkB a b c f n l e d = false by simp [procOkB, h1, h2, h3, h4, he1]]
          clear he1 hl
          go_enter Tryz.func109, Tryz.ntmps109
          go_wp2_with (first
              | (go_at_call 86; refine (spPlanOk_any _ _ _ _).mono ?_; rintro x w1 ⟨rfl, hb⟩; have hr1 := HR.out.below hb; obtain ⟨hc, hf⟩ := bcell hb)
              | (go_at_call 124; refine (spHeapOk_any f hn hr1).mono ?_; rintro x w2 ⟨m1, rfl, rfl⟩)
              | (go_at_call 64; refine (l1Worker_any _ _ _ _ _).mono ?_; rintro x w3 ⟨rfl, hb3⟩; have hb4 := (b_drewN hb m1).trans (hb3.mono (b_drewN hb m1).size); obtain ⟨hc3, hf3⟩ := bcell hb4)
              | (go_at_call 92; refine (l1Time_any _ _).mono ?_; rintro x w' ⟨rfl, rfl⟩)
              | (go_at_call 34; refine (l1In_any _ _ _ _).mono ?_; rintro x w' ⟨rfl, rfl⟩))
          go_ret
          exact ⟨by simp, k0.trans ((hb4).mono k0.size)⟩
        · cases h5 : inB d 0 n
          · rw [show procOkB a b c f n l e d = false by simp [procOkB, h1, h2, h3, h4, h5]]
            clear he1 hl
            go_enter Tryz.func109, Tryz.ntmps109
            go_wp2_with (first
                | (go_at_call 86; refine (spPlanOk_any _ _ _ _).mono ?_; rintro x w1 ⟨rfl, hb⟩; have hr1 := HR.out.below hb; obtain ⟨hc, hf⟩ := bcell hb)
                | (go_at_call 124; refine (spHeapOk_any f hn hr1).mono ?_; rintro x w2 ⟨m1, rfl, rfl⟩)
                | (go_at_call 64; refine (l1Worker_any _ _ _ _ _).mono ?_; rintro x w3 ⟨rfl, hb3⟩; have hb4 := (b_drewN hb m1).trans (hb3.mono (b_drewN hb m1).size); obtain ⟨hc3, hf3⟩ := bcell hb4)
                | (go_at_call 92; refine (l1Time_any _ _).mono ?_; rintro x w' ⟨rfl, rfl⟩)
                | (go_at_call 34; refine (l1In_any _ _ _ _).mono ?_; rintro x w' ⟨rfl, rfl⟩))
            go_ret
            exact ⟨by simp, k0.trans ((hb4).mono k0.size)⟩
          · have hall := Lib.hid (show procOkB a b c f n l e d = diffAll f n by simp [procOkB, h1, h2, h3, h4, h5])
            clear he1 hl
            go_enter Tryz.func109, Tryz.ntmps109
            go_wp2_with (first
                | (go_at_call 86; refine (spPlanOk_any _ _ _ _).mono ?_; rintro x w1 ⟨rfl, hb⟩; have hr1 := HR.out.below hb; obtain ⟨hc, hf⟩ := bcell hb)
                | (go_at_call 124; refine (spHeapOk_any f hn hr1).mono ?_; rintro x w2 ⟨m1, rfl, rfl⟩)
                | (go_at_call 64; refine (l1Worker_any _ _ _ _ _).mono ?_; rintro x w3 ⟨rfl, hb3⟩; have hb4 := (b_drewN hb m1).trans (hb3.mono (b_drewN hb m1).size); obtain ⟨hc3, hf3⟩ := bcell hb4)
                | (go_at_call 92; refine (l1Time_any _ _).mono ?_; rintro x w' ⟨rfl, rfl⟩)
                | (go_at_call 34; refine (l1In_any _ _ _ _).mono ?_; rintro x w' ⟨rfl, rfl⟩))
            have hH := hb4
            have hXH := b_block hH HX.out (by simp)
            have hRH := HR.out.below hH
            have x0 := cell_of_block hXH 0
            clear hXH HR HX hb hr1 hc hf hb3 hb4 hc3 hf3
            generalize hwq : w3 = wq at *
            clear hwq
            have kq := k0.trans (hH.mono k0.size)
            clear hH k0
            rcases hRH with ⟨h0, a5, cap5, hv5⟩ | ⟨b5, off5, cap5, hv5, hl5, hc5⟩
            · subst h0
              refine wp_loop_rounds 1 ?_
              rw [rounds_succ]
              go_wp2
              go_ret
              exact ⟨ret_bool hall.out.symm, kq⟩
            · injection hv5 with e1 e2 e3
              subst e1 e3
              have H5 := Lib.hid hc5
              clear hc5 e2
              go_loopw [5] (fun i wr => ∃ (k m : Nat), k ≤ n ∧ i = .int .i64 k ∧ wr = wq.drewN m ∧ Hid (diffAll f k = true)) (fun i _ => n - (intOf i).toNat)
              case atStart => exact ⟨0, 0, Nat.zero_le _, rfl, rfl, Lib.hid rfl⟩
              case round =>
                obtain ⟨k, m, hk, rfl, rfl, hdk⟩ := hrel
                by_cases hkn : k < n
                · have hkn' : (k : Int) < (n : Int) := by omega
                  have ck := (H5.out k hkn).1
                  go_wp2_with fail
                  go_loopw [6] (fun j wi => ∃ (q m' : Nat), q ≤ k ∧ j = .int .i64 q ∧ wi = wq.drewN m' ∧ Hid (diffTo f k q = true)) (fun j _ => k - (intOf j).toNat)
                  case atStart => exact ⟨0, m, Nat.zero_le _, rfl, rfl, Lib.hid rfl⟩
                  case round =>
                    obtain ⟨q, m', hq, rfl, rfl, hdq⟩ := hrel
                    by_cases hqk : q < k
                    · have hqk' : (q : Int) < (k : Int) := by omega
                      have hqn' : (q : Int) < (n : Int) := by omega
                      have cq := (H5.out q (by omega)).1
                      by_cases he : (f k).1 = (f q).1
                      · have hd : ((f k).1 == (f q).1) = true := by simpa using he
                        have hbad := Lib.hid (hall.out.trans (diff_found hkn hqk he))
                        clear he
                        go_wp2_with fail
                        go_quiet (fail)
                        go_wp2
                        simp only [World.drewN_drewN]
                        go_ret
                        exact ⟨ret_bool hbad.out.symm, b_drewN kq _⟩
                      · have hd : ((f k).1 == (f q).1) = false := by simpa using he
                        have hnext := Lib.hid (show diffTo f k (q + 1) = true by rw [diffTo, hdq.out, hd]; rfl)
                        clear he
                        go_wp2_with fail
                        go_quiet (fail)
                        go_wp2
                        try simp only [World.drewN_drewN]
                        exact ⟨⟨q + 1, _, by omega, by go_num, rfl, hnext⟩, by simp [intOf]; omega⟩
                    · have hqe : q = k := by omega
                      have hnext := Lib.hid (show diffAll f (k + 1) = true by rw [diffAll, hdk.out]; rw [hqe] at hdq; exact hdq.out)
                      have hqk' : ¬ (q : Int) < (k : Int) := by omega
                      have hdd : decide (q < k) = false := by simp; omega
                      clear hqe
                      go_wp2
                      exact ⟨⟨k + 1, _, by omega, by go_num, rfl, hnext⟩, by simp [intOf]; omega⟩
                · have hkn' : ¬ (k : Int) < (n : Int) := by omega
                  have hdd : decide (k < n) = false := by simp; omega
                  have hgood := Lib.hid (hall.out.trans (show diffAll f n = true by rw [show n = k by omega]; exact hdk.out))
                  go_wp2
                  go_ret
                  exact ⟨ret_bool hgood.out.symm, b_drewN kq _⟩

end Go.Proofs.YtflekodaiejflaaGreat

/-
  The laws' own helpers on lists of slots: copied out of the law's argument, compared, marked, looked at again.
-/
namespace Go.Proofs.YtflekodaiejflaaGreat
open Go.RowKit Go.Joins
set_option linter.unusedVariables false
set_option linter.unusedSimpArgs false

set_option maxHeartbeats 400000 in
theorem toSlot_any (a b : Int) (w : World) :
    Calls Tryz.prog 95 #[.agg #[.int .i64 a, .int .i64 b]] w fun e w' => e = .returned (.agg #[.int .i64 a, .int .i64 b]) ∧ Below w.heap.size w w' := by
  go_enter Tryz.func95, Tryz.ntmps95
  go_wp2
  exact bodyPost_ret (v := .agg #[.int .i64 a, .int .i64 b]) (by simp [results, Tryz.results95, go_sem]) rfl ⟨rfl, (((Below.refl _ _).alloc (Nat.le_refl _) _).alloc (by simp) _).alloc (by simp; omega) _⟩

set_option maxHeartbeats 400000 in
theorem eqSlot_same (a b : Int) (w : World) :
    Calls Tryz.prog 108 #[.agg #[.int .i64 a, .int .i64 b], .agg #[.int .i64 a, .int .i64 b]] w fun e w' => e = .returned (.bool true) ∧ Below w.heap.size w w' := by
  go_enter Tryz.func108, Tryz.ntmps108
  go_wp2
  go_ret
  exact ⟨rfl, ((Below.refl _ _).alloc (Nat.le_refl _) _).alloc (by simp) _⟩

set_option maxHeartbeats 400000 in
theorem szSlotS_any {v : Value} {n : Nat} (hv : ∃ a cap, v = .slice a n cap) (left : Int) (w : World) (h0 : 0 ≤ left) (h1 : left ≤ 1048576) (hm : n ≤ maxLen) :
    Calls Tryz.prog 61 #[v, .int .i64 left] w fun e w' => e = .returned (.int .i64 (if left < (n : Int) then -1 else left - n)) ∧ w = w' := by
  obtain ⟨a, cap, rfl⟩ := hv
  unfold maxLen at hm
  by_cases h : left < (n : Int)
  · rw [if_pos h]
    go_enter Tryz.func61, Tryz.ntmps61
    go_wp2
    go_ret
    exact ⟨rfl, rfl⟩
  · rw [if_neg h]
    go_enter Tryz.func61, Tryz.ntmps61
    go_wp2
    go_ret
    exact ⟨rfl, rfl⟩

/-! ### copied out of the law's argument -/
theorem made_zero (n i : Nat) (hi : i < n) : (madeCells #[.int .i64 0, .int .i64 0] (n * 2))[i * 2]? = some (.int .i64 0) ∧ (madeCells #[.int .i64 0, .int .i64 0] (n * 2))[i * 2 + 1]? = some (.int .i64 0) := by
  constructor
  · rw [Array.getElem?_eq_getElem (by rw [size_madeCells]; omega)]
    simp [madeCells]
  · rw [Array.getElem?_eq_getElem (by rw [size_madeCells]; omega)]
    simp [madeCells]
theorem own_made (w : World) (n : Nat) (hn : n ≤ maxLen) : OwnAt (w.alloc (.cells (madeCells #[.int .i64 0, .int .i64 0] (n * 2)) 133)) w.heap.size w.heap.size n n (fun _ => (0, 0)) :=
  ⟨Nat.le_refl _, Nat.le_refl _, hn, _, heap_alloc_new w _, size_madeCells _ _, fun i hi => made_zero n i hi⟩

theorem run_make_slots (n : Nat) (hn : n ≤ 1048576) : ∀ w : World, (Instr.makeSlice 85 (.int .i64 (n : Int)) (.int .i64 (n : Int))).run Tryz.prog w = .ok (.slice (some ⟨w.heap.size, 0, none⟩) n n) (w.alloc (.cells (madeCells #[.int .i64 0, .int .i64 0] (n * 2)) 133)) := by
  intro w
  obtain ⟨i0, hi, hz, hs, hby⟩ := info_parts slot_info
  have hr := run_make (P := Tryz.prog) w 85 133 i0 _ Tryz.underlying85 hi hz .i64 .i64 (n : Int) (n : Int) (by omega) (by omega) (by rw [hby]; omega) (by omega)
  rw [hs] at hr
  simp only [Int.toNat_natCast] at hr
  exact hr

def upTo (f : Slots) (k : Nat) : Slots := fun i => if i < k then f i else (0, 0)
theorem upTo_put {f : Slots} {k n : Nat} : ∀ i, i < n → putF (upTo f k) k (f k) i = upTo f (k + 1) i := by
  intro i _
  unfold putF upTo
  by_cases e : i = k
  · subst e; simp
  · rw [if_neg e]
    by_cases h : i < k
    · rw [if_pos h, if_pos (by omega)]
    · rw [if_neg h, if_neg (by omega)]

set_option maxHeartbeats 400000 in
theorem toSlotS_any {v : Value} {n : Nat} {f : Slots} {w : World} (hn : n ≤ 1048576) (h : RowAt w v n f) :
    Calls Tryz.prog 72 #[v] w (NewRow n f w) := by
  have hmk := run_make_slots n hn
  have hO := own_made w n (by unfold maxLen; omega)
  have hb0 := (Below.refl w.heap.size w).alloc (Nat.le_refl _) (.cells (madeCells #[.int .i64 0, .int .i64 0] (n * 2)) 133)
  rcases h with ⟨h0, a, cap, hv⟩ | ⟨b, off, cap, rfl, hl, hc⟩
  · obtain rfl : v = .slice a n cap := by rw [hv, h0]
    have HO := Lib.hid (hO.congr (f' := f) (fun i hi => by omega))
    have HB := Lib.hid hb0
    have H0 := Lib.hid h0
    clear hO hb0 hv h0
    go_enter Tryz.func72, Tryz.ntmps72
    go_wp2
    go_loopw [4] (fun i wr => i = .int .i64 0 ∧ OwnAt wr w.heap.size w.heap.size n n f ∧ Below w.heap.size w wr) (fun _ _ => 0)
    case atStart => exact ⟨rfl, HO.out, HB.out⟩
    case round =>
      obtain ⟨rfl, hOk, hbk⟩ := hrel
      have h1 : ¬ (0 : Int) < (n : Int) := by have := H0.out; omega
      have h2 : ¬ 0 < n := by have := H0.out; omega
      go_wp2
      go_ret
      exact ⟨_, rfl, hOk.own, hbk⟩
  · have H := Lib.hid hc
    have HO := Lib.hid (hO.congr (f' := upTo f 0) (fun i hi => by simp [upTo]))
    have HB := Lib.hid hb0
    clear hc hO hb0
    go_enter Tryz.func72, Tryz.ntmps72
    go_wp2
    go_loopw [4] (fun i wr => ∃ k : Nat, k ≤ n ∧ i = .int .i64 k ∧ OwnAt wr w.heap.size w.heap.size n n (upTo f k) ∧ Below w.heap.size w wr) (fun i _ => n - (intOf i).toNat)
    case atStart => exact ⟨0, Nat.zero_le _, rfl, HO.out, HB.out⟩
    case round =>
      obtain ⟨k, hk, rfl, hOk, hbk⟩ := hrel
      by_cases hlt : k < n
      · have c0 := (hbk.cell (p := ⟨b, off + k * 2, none⟩) hl).trans (H.out k hlt).1
        have c1 := (hbk.cell (p := ⟨b, off + k * 2 + 1, none⟩) hl).trans (H.out k hlt).2
        have h1 : (k : Int) < (n : Int) := by omega
        go_wp2_with fail
        go_at_call 95; refine (toSlot_any _ _ _).mono ?_; rintro e w1 ⟨rfl, hb1⟩
        have hO1 := hOk.below hb1
        have hbk1 := btrans hbk hb1
        have fr := hO1.free
        have f0 := fr (k * 2)
        have f1 := fr (k * 2 + 1)
        obtain ⟨d0, d1⟩ := hO1.cells hlt
        clear hb1 fr c0 c1 hOk hbk
        go_wp2
        exact ⟨⟨k + 1, by omega, by go_num, (hO1.put hlt _ _).congr upTo_put, (hbk1.setCell (p := ⟨w.heap.size, k * 2, none⟩) (Nat.le_refl _) _).setCell (p := ⟨w.heap.size, k * 2 + 1, none⟩) (Nat.le_refl _) _⟩, by simp only [intOf]; omega⟩
      · have hkn : k = n := by omega
        subst hkn
        go_wp2
        go_ret
        exact ⟨_, rfl, (hOk.congr (fun i hi => by simp [upTo, hi])).own, hbk⟩

/-! ### compared -/
set_option maxHeartbeats 400000 in
theorem eqSlotS_same {v1 v2 : Value} {n : Nat} {f : Slots} {w : World} (hn : n ≤ 1048576) (h1 : RowAt w v1 n f) (h2 : RowAt w v2 n f) :
    Calls Tryz.prog 84 #[v1, v2] w fun e w' => e = .returned (.bool true) ∧ Below w.heap.size w w' := by
  by_cases h0 : n = 0
  · obtain ⟨a1, k1, rfl⟩ := h1.form
    obtain ⟨a2, k2, rfl⟩ := h2.form
    have H0 := Lib.hid h0
    clear h0 h1 h2
    go_enter Tryz.func84, Tryz.ntmps84
    go_wp2
    go_loop [5] (fun i => i = .int .i64 0) (fun _ => 0)
    case atStart => rfl
    case round =>
      subst hrel
      have h1 : ¬ (0 : Int) < (n : Int) := by have := H0.out; omega
      have h2 : ¬ 0 < n := by have := H0.out; omega
      go_wp2
      go_ret
      exact ⟨rfl, Below.refl _ _⟩
  · rcases h1 with ⟨h1, _⟩ | ⟨b1, o1, c1, rfl, hl1, hc1⟩
    · exact absurd h1 h0
    rcases h2 with ⟨h2, _⟩ | ⟨b2, o2, c2, rfl, hl2, hc2⟩
    · exact absurd h2 h0
    have H1 := Lib.hid hc1
    have H2 := Lib.hid hc2
    clear hc1 hc2 h0
    go_enter Tryz.func84, Tryz.ntmps84
    go_wp2
    go_loopw [5] (fun i wr => ∃ k : Nat, k ≤ n ∧ i = .int .i64 k ∧ Below w.heap.size w wr) (fun i _ => n - (intOf i).toNat)
    case atStart => exact ⟨0, Nat.zero_le _, rfl, Below.refl _ _⟩
    case round =>
      obtain ⟨k, hk, rfl, hbk⟩ := hrel
      by_cases hlt : k < n
      · have x0 : wr.drew.cell? ⟨b1, o1 + k * 2, none⟩ = some (.int .i64 (f k).1) := (hbk.cell (p := ⟨b1, o1 + k * 2, none⟩) hl1).trans (H1.out k hlt).1
        have x1 : wr.drew.cell? ⟨b1, o1 + k * 2 + 1, none⟩ = some (.int .i64 (f k).2) := (hbk.cell (p := ⟨b1, o1 + k * 2 + 1, none⟩) hl1).trans (H1.out k hlt).2
        have y0 : wr.drew.cell? ⟨b2, o2 + k * 2, none⟩ = some (.int .i64 (f k).1) := (hbk.cell (p := ⟨b2, o2 + k * 2, none⟩) hl2).trans (H2.out k hlt).1
        have y1 : wr.drew.cell? ⟨b2, o2 + k * 2 + 1, none⟩ = some (.int .i64 (f k).2) := (hbk.cell (p := ⟨b2, o2 + k * 2 + 1, none⟩) hl2).trans (H2.out k hlt).2
        have i1 : (k : Int) < (n : Int) := by omega
        have i0 : (0 : Int) ≤ (k : Int) := by omega
        have kd := hbk.drew
        go_wp2
        go_region_held3 (fun w' => w'.cell? ⟨b1, o1 + k * 2, none⟩ = some (.int .i64 (f k).1) ∧ w'.cell? ⟨b1, o1 + k * 2 + 1, none⟩ = some (.int .i64 (f k).2) ∧ w'.cell? ⟨b2, o2 + k * 2, none⟩ = some (.int .i64 (f k).1) ∧ w'.cell? ⟨b2, o2 + k * 2 + 1, none⟩ = some (.int .i64 (f k).2))
          (first | exact ⟨x0, x1, y0, y1⟩ | go_keep)
          (first
            | (go_at_call 108; refine (eqSlot_same _ _ _).mono ?_; rintro e w1 ⟨rfl, hb1⟩
               replace kd := btrans kd hb1
               replace x0 := (kd.cell (p := ⟨b1, o1 + k * 2, none⟩) hl1).trans (H1.out k hlt).1; replace x1 := (kd.cell (p := ⟨b1, o1 + k * 2 + 1, none⟩) hl1).trans (H1.out k hlt).2
               replace y0 := (kd.cell (p := ⟨b2, o2 + k * 2, none⟩) hl2).trans (H2.out k hlt).1; replace y1 := (kd.cell (p := ⟨b2, o2 + k * 2 + 1, none⟩) hl2).trans (H2.out k hlt).2))
        clear x0 x1 y0 y1
        go_wp2
        exact ⟨⟨k + 1, by omega, by go_num, kd⟩, by simp only [intOf]; omega⟩
      · go_wp2
        go_ret
        exact ⟨rfl, hbk⟩

/-! ### marked, and looked at again -/
def markF (f : Slots) (m : Int) (k : Nat) : Slots := fun i => if i < k then (m + 2 * i, m + 2 * i + 1) else f i
theorem markF_zero (f : Slots) (m : Int) : markF f m 0 = f := by funext i; simp [markF]
theorem markF_put {f : Slots} {m : Int} {k : Nat} (n : Nat) : ∀ i, i < n → putF (markF f m k) k (m + 2 * k, m + 2 * k + 1) i = markF f m (k + 1) i := by
  intro i _
  unfold putF markF
  by_cases e : i = k
  · subst e; simp
  · rw [if_neg e]
    by_cases h : i < k
    · rw [if_pos h, if_pos (by omega)]
    · rw [if_neg h, if_neg (by omega)]

/-- a call that marks a list of the law's own -/
def Marked (B g n cap : Nat) (f : Slots) (m : Int) (w : World) (e : Ending) (w' : World) : Prop :=
  e = .returned (.int .i64 (m + 2 * n)) ∧ OwnAt w' B g n cap (markF f m n) ∧ w.grownBy w' (some g)

set_option maxHeartbeats 400000 in
theorem markSlotS_any {B g n cap : Nat} {f : Slots} {w : World} (m : Int) (hm0 : 0 ≤ m) (hm1 : m ≤ 16777216) (hn : n ≤ 1048576) (h : OwnAt w B g n cap f) :
    Calls Tryz.prog 58 #[.slice (some ⟨g, 0, none⟩) n cap, .int .i64 m] w (Marked B g n cap f m w) := by
  have H := Lib.hid h
  clear h
  go_enter Tryz.func58, Tryz.ntmps58
  go_wp2
  go_loopw [1, 5] (fun q i wr => ∃ k : Nat, k ≤ n ∧ i = .int .i64 k ∧ q = .int .i64 (m + 2 * k) ∧ OwnAt wr B g n cap (markF f m k) ∧ w.grownBy wr (some g)) (fun _ i _ => n - (intOf i).toNat)
  case atStart => exact ⟨0, Nat.zero_le _, rfl, congrArg (Value.int .i64) (by omega), by rw [markF_zero]; exact H.out, g_refl _ _⟩
  case round =>
    obtain ⟨k, hk, rfl, rfl, hOk, hgk⟩ := hrel
    by_cases hlt : k < n
    · have fr := hOk.free
      have f0 := fr (k * 2)
      have f1 := fr (k * 2 + 1)
      obtain ⟨d0, d1⟩ := hOk.cells hlt
      have i1 : (k : Int) < (n : Int) := by omega
      have i2 : (k : Int) ≤ 1048576 := by omega
      clear fr
      go_wp2
      exact ⟨⟨k + 1, by omega, by go_num, congrArg (Value.int .i64) (by omega), (hOk.put hlt _ _).congr (markF_put n), g_own (g_own hgk _ _) _ _⟩, by simp only [intOf]; omega⟩
    · have hkn : k = n := by omega
      subst hkn
      go_wp2
      go_ret
      exact ⟨rfl, hOk, hgk⟩

theorem markF_at (f : Slots) (m : Int) {n k : Nat} (h : k < n) : markF f m n k = (m + 2 * k, m + 2 * k + 1) := by simp [markF, h]

set_option maxHeartbeats 400000 in
theorem heldSlotS_any {v : Value} {n : Nat} {f : Slots} {w : World} (m : Int) (hm0 : 0 ≤ m) (hm1 : m ≤ 16777216) (hn : n ≤ 1048576) (h : RowAt w v n (markF f m n)) :
    Calls Tryz.prog 85 #[v, .int .i64 m] w fun e w' => e = .returned (.int .i64 (m + 2 * n)) ∧ w = w' := by
  rcases h with ⟨h0, a, cap, hv⟩ | ⟨b, off, cap, rfl, hl, hc⟩
  · obtain rfl : v = .slice a n cap := by rw [hv, h0]
    have H0 := Lib.hid h0
    clear hv h0
    go_enter Tryz.func85, Tryz.ntmps85
    go_wp2
    go_loop [1, 5] (fun q i => i = .int .i64 0 ∧ q = .int .i64 m) (fun _ _ => 0)
    case atStart => exact ⟨rfl, rfl⟩
    case round =>
      obtain ⟨rfl, rfl⟩ := hrel
      have h1 : ¬ (0 : Int) < (n : Int) := by have := H0.out; omega
      have h2 : ¬ 0 < n := by have := H0.out; omega
      have h3 : m = m + 2 * (n : Int) := by have := H0.out; omega
      have H3 := Lib.hid h3
      clear h3
      go_wp2
      go_ret
      exact ⟨ret_i64 H3.out, rfl⟩
  · have H := Lib.hid hc
    clear hc
    go_enter Tryz.func85, Tryz.ntmps85
    go_wp2
    go_loop [1, 5] (fun q i => ∃ k : Nat, k ≤ n ∧ i = .int .i64 k ∧ q = .int .i64 (m + 2 * k)) (fun _ i => n - (intOf i).toNat)
    case atStart => exact ⟨0, Nat.zero_le _, rfl, congrArg (Value.int .i64) (by omega)⟩
    case round =>
      obtain ⟨k, hk, rfl, rfl⟩ := hrel
      by_cases hlt : k < n
      · obtain ⟨d0, d1⟩ := H.out k hlt
        rw [markF_at f m hlt] at d0 d1
        have i1 : (k : Int) < (n : Int) := by omega
        have i2 : (k : Int) ≤ 1048576 := by omega
        go_wp2
        exact ⟨⟨k + 1, by omega, by go_num, congrArg (Value.int .i64) (by omega)⟩, by simp only [intOf]; omega⟩
      · have hkn : k = n := by omega
        subst hkn
        go_wp2
        go_ret
        exact ⟨rfl, rfl⟩

set_option maxHeartbeats 400000 in
theorem markSlotS_nil (m : Int) (w : World) :
    Calls Tryz.prog 58 #[.slice none 0 0, .int .i64 m] w fun e w' => e = .returned (.int .i64 m) ∧ w = w' := by
  go_enter Tryz.func58, Tryz.ntmps58
  go_wp2
  go_loop [1, 5] (fun q i => i = .int .i64 0 ∧ q = .int .i64 m) (fun _ _ => 0)
  case atStart => exact ⟨rfl, rfl⟩
  case round =>
    obtain ⟨rfl, rfl⟩ := hrel
    go_wp2
    go_ret
    exact ⟨rfl, rfl⟩

/-- any list of the law's own, marked -/
theorem markRow_any {B n : Nat} {v : Value} {f : Slots} {w : World} (m : Int) (hm0 : 0 ≤ m) (hm1 : m ≤ 16777216) (hn : n ≤ 1048576) (h : OwnRow w B v n f) :
    Calls Tryz.prog 58 #[v, .int .i64 m] w fun e w' => e = .returned (.int .i64 (m + 2 * n)) ∧ OwnRow w' B v n (markF f m n) ∧ w.grownBy w' v.ownBlock := by
  rcases h with ⟨rfl, rfl⟩ | ⟨g, cap, rfl, h⟩
  · refine (markSlotS_nil m w).mono fun e w' ⟨he, hw⟩ => ?_
    subst he; subst hw
    exact ⟨by simp, .inl ⟨rfl, rfl⟩, g_refl _ _⟩
  · refine (markSlotS_any m hm0 hm1 hn h).mono fun e w' ⟨he, ho, hg⟩ => ?_
    exact ⟨he, ho.own, hg⟩

/-! ### rows that lie below a bound, kept from call to call -/
def RowLt (w : World) (C : Nat) (v : Value) (n : Nat) (f : Slots) : Prop :=
  (n = 0 ∧ ∃ a cap, v = .slice a 0 cap) ∨ ∃ b off cap, v = .slice (some ⟨b, off, none⟩) n cap ∧ b < C ∧ 0 < n ∧
    ∀ i, i < n → w.cell? ⟨b, off + i * 2, none⟩ = some (.int .i64 (f i).1) ∧ w.cell? ⟨b, off + i * 2 + 1, none⟩ = some (.int .i64 (f i).2)
theorem RowAt.lt {w : World} {v : Value} {n : Nat} {f : Slots} (h : RowAt w v n f) : RowLt w w.heap.size v n f := by
  rcases Nat.eq_zero_or_pos n with h0 | hp
  · obtain ⟨a, cap, rfl⟩ := h.form
    subst h0
    exact .inl ⟨rfl, a, cap, rfl⟩
  · rcases h with ⟨h0, _⟩ | ⟨b, off, cap, rfl, hl, hc⟩
    · omega
    · exact .inr ⟨b, off, cap, rfl, hl, hp, hc⟩
theorem RowLt.row {w : World} {C n : Nat} {v : Value} {f : Slots} (h : RowLt w C v n f) : RowAt w v n f := by
  rcases h with h | ⟨b, off, cap, rfl, _, hp, hc⟩
  · exact .inl h
  · exact .inr ⟨b, off, cap, rfl, World.block_lt_of_cell? w _ (hc 0 hp).1, hc⟩
theorem RowLt.step {w w' : World} {C n : Nat} {v : Value} {f : Slots} (h : RowLt w C v n f) (hb : Below w.heap.size w w') : RowLt w' C v n f := by
  rcases h with h | ⟨b, off, cap, rfl, hC, hp, hc⟩
  · exact .inl h
  · have hl := World.block_lt_of_cell? w _ (hc 0 hp).1
    exact .inr ⟨b, off, cap, rfl, hC, hp, fun i hi => ⟨(hb.cell (p := ⟨b, off + i * 2, none⟩) hl).trans (hc i hi).1, (hb.cell (p := ⟨b, off + i * 2 + 1, none⟩) hl).trans (hc i hi).2⟩⟩
theorem RowLt.mark {w w' : World} {C C' n : Nat} {v : Value} {f : Slots} (h : RowLt w C v n f) (hb : Below C' w w') (hC' : C ≤ C') : RowLt w' C v n f := by
  rcases h with h | ⟨b, off, cap, rfl, hC, hp, hc⟩
  · exact .inl h
  · have hl := Nat.lt_of_lt_of_le hC hC'
    exact .inr ⟨b, off, cap, rfl, hC, hp, fun i hi => ⟨(hb.cell (p := ⟨b, off + i * 2, none⟩) hl).trans (hc i hi).1, (hb.cell (p := ⟨b, off + i * 2 + 1, none⟩) hl).trans (hc i hi).2⟩⟩
theorem OwnRow.kept {w w' : World} {B n : Nat} {v : Value} {f : Slots} {ob : Option Nat} (h : OwnRow w B v n f) (hg : w.grownBy w' ob) (hne : ∀ g, ob = some g → g < B) : OwnRow w' B v n f := by
  rcases h with h | ⟨g, cap, rfl, h⟩
  · exact .inl h
  · exact .inr ⟨g, cap, rfl, h.block (hg.block g h.lt (by intro e; have := hne g e.symm; have := h.1; omega))⟩
theorem OwnRow.lt_size {w : World} {B n : Nat} {v : Value} {f : Slots} (h : OwnRow w B v n f) : ∀ g, v.ownBlock = some g → g < w.heap.size := by
  intro g e
  rcases h with ⟨_, rfl⟩ | ⟨g', cap, rfl, h⟩
  · simp [Value.ownBlock] at e
  · simp [Value.ownBlock] at e
    subst e
    exact h.lt

end Go.Proofs.YtflekodaiejflaaGreat

/-
  Processors of the laws (laws): measured, copied, compared.
-/
namespace Go.Proofs.YtflekodaiejflaaGreat
open Go.RowKit Go.Joins
set_option linter.unusedVariables false
set_option linter.unusedSimpArgs false

set_option maxHeartbeats 400000 in
theorem szProc_any {v : Value} {n : Nat} (l e d : Int) (hv : ∃ a cap, v = .slice a n cap) (left : Int) (w : World) (h0 : 0 ≤ left) (h1 : left ≤ 1048576) (hm : n ≤ maxLen) :
    Calls Tryz.prog 32 #[prV v l e d, .int .i64 left] w fun x w' => x = .returned (.int .i64 (if left < (n : Int) then -1 else left - n)) ∧ Below w.heap.size w w' := by
  have hv2 := hv
  have k0 := (Below.refl w.heap.size w).alloc (Nat.le_refl _) (.cells #[v, .int .i64 l, .int .i64 e, .int .i64 d] 75)
  obtain ⟨a, cap, rfl⟩ := hv
  by_cases h : left < (n : Int)
  · have hsz : ∀ W : World, Calls Tryz.prog 61 #[.slice a n cap, .int .i64 left] W fun x w' => x = .returned (.int .i64 (-1)) ∧ W = w' := fun W => by
      have := szSlotS_any hv2 left W h0 h1 hm
      rwa [if_pos h] at this
    rw [if_pos h]
    clear h h0 h1
    go_enter Tryz.func32, Tryz.ntmps32
    go_wp2_with fail
    go_at_call 61; refine (hsz _).mono ?_; rintro x w' ⟨rfl, rfl⟩
    go_wp2
    go_ret
    exact ⟨rfl, k0⟩
  · obtain ⟨z, hz⟩ : ∃ z : Int, z = left - (n : Int) := ⟨_, rfl⟩
    have hsz : ∀ W : World, Calls Tryz.prog 61 #[.slice a n cap, .int .i64 left] W fun x w' => x = .returned (.int .i64 z) ∧ W = w' := fun W => by
      have := szSlotS_any hv2 left W h0 h1 hm
      rw [if_neg h, ← hz] at this
      exact this
    have hd : decide (z < 0) = false := by simp; omega
    have hle : (0 : Int) ≤ z := by omega
    rw [if_neg h, ← hz]
    clear h h0 h1 hz
    go_enter Tryz.func32, Tryz.ntmps32
    go_wp2_with fail
    go_at_call 61; refine (hsz _).mono ?_; rintro x w' ⟨rfl, rfl⟩
    go_wp2
    go_ret
    exact ⟨rfl, k0⟩

/-- a call that copies a processor -/
def NewProc (n : Nat) (f : Slots) (l e d : Int) (w : World) (x : Ending) (w' : World) : Prop := ∃ u, x = .returned (prV u l e d) ∧ OwnRow w' w.heap.size u n f ∧ Below w.heap.size w w'
theorem four {w : World} {b : Nat} {x y z u : Value} {t : TypeId} (h : w.heap[b]? = some (.cells #[x, y, z, u] t (0, 0))) :
    w.cell? ⟨b, 0, none⟩ = some x ∧ w.cell? ⟨b, 1, none⟩ = some y ∧ w.cell? ⟨b, 2, none⟩ = some z ∧ w.cell? ⟨b, 3, none⟩ = some u ∧ w.frozen? ⟨b, 0, none⟩ = false ∧ w.frozen? ⟨b, 1, none⟩ = false ∧ w.frozen? ⟨b, 2, none⟩ = false ∧ w.frozen? ⟨b, 3, none⟩ = false :=
  ⟨cell_of_block h 0, cell_of_block h 1, cell_of_block h 2, cell_of_block h 3, unfrozen_of_block h 0, unfrozen_of_block h 1, unfrozen_of_block h 2, unfrozen_of_block h 3⟩

set_option maxRecDepth 100000 in
set_option maxHeartbeats 1000000 in
theorem toProc_any {v : Value} {n : Nat} {f : Slots} (l e d : Int) {w : World} (hn : n ≤ 1048576) (h : RowAt w v n f) :
    Calls Tryz.prog 44 #[prV v l e d] w (NewProc n f l e d w) := by
  have k0 := (Below.refl w.heap.size w).alloc (Nat.le_refl _) (.cells #[v, .int .i64 l, .int .i64 e, .int .i64 d] 75)
  have e1 : (w.alloc (.cells #[v, .int .i64 l, .int .i64 e, .int .i64 d] 75)).heap.size = w.heap.size + 1 := by simp
  have e2 : ((w.alloc (.cells #[v, .int .i64 l, .int .i64 e, .int .i64 d] 75)).alloc (.cells #[.slice none 0 0, .int .i64 0, .int .i64 0, .int .i64 0] 87)).heap.size = w.heap.size + 2 := by simp
  have e3 : (((w.alloc (.cells #[v, .int .i64 l, .int .i64 e, .int .i64 d] 75)).alloc (.cells #[.slice none 0 0, .int .i64 0, .int .i64 0, .int .i64 0] 87)).alloc (.cells #[.slice none 0 0, .int .i64 0, .int .i64 0, .int .i64 0] 87)).heap.size = w.heap.size + 3 := by simp
  have k3 := (k0.alloc (by omega) (.cells #[.slice none 0 0, .int .i64 0, .int .i64 0, .int .i64 0] 87)).alloc (by omega) (.cells #[.slice none 0 0, .int .i64 0, .int .i64 0, .int .i64 0] 87)
  have hr := h.below k3
  have hX := alloc_block (.cells #[.slice none 0 0, .int .i64 0, .int .i64 0, .int .i64 0] 87) (alloc_block (.cells #[.slice none 0 0, .int .i64 0, .int .i64 0, .int .i64 0] 87) (heap_alloc_new w (.cells #[v, .int .i64 l, .int .i64 e, .int .i64 d] 75)))
  have hR := alloc_block (.cells #[.slice none 0 0, .int .i64 0, .int .i64 0, .int .i64 0] 87) (heap_alloc_new (w.alloc (.cells #[v, .int .i64 l, .int .i64 e, .int .i64 d] 75)) (.cells #[.slice none 0 0, .int .i64 0, .int .i64 0, .int .i64 0] 87))
  rw [e1] at hR
  have hO := heap_alloc_new ((w.alloc (.cells #[v, .int .i64 l, .int .i64 e, .int .i64 d] 75)).alloc (.cells #[.slice none 0 0, .int .i64 0, .int .i64 0, .int .i64 0] 87)) (.cells #[.slice none 0 0, .int .i64 0, .int .i64 0, .int .i64 0] 87)
  rw [e2] at hO
  have HX := Lib.hid hX
  have HR := Lib.hid hR
  have HO := Lib.hid hO
  clear hX hR hO e1 e2 k0 h
  go_enter Tryz.func44, Tryz.ntmps44
  go_wp2_with fail
  go_at_call 72; refine (toSlotS_any hn hr).mono ?_; rintro x w1 ⟨u, rfl, hOu, hb⟩
  rw [e3] at hOu
  have hX1 := b_block hb HX.out (by omega)
  have hR1 := b_block hb HR.out (by omega)
  have hO1 := b_block hb HO.out (by omega)
  have k4 := k3.trans (hb.mono (by omega))
  obtain ⟨ua, uc, hu⟩ := hOu.row.form
  obtain ⟨x0, x1, x2, x3, _, _, _, _⟩ := four hX1
  obtain ⟨r0, r1, r2, r3, rf0, rf1, rf2, rf3⟩ := four hR1
  obtain ⟨o0, o1, o2, o3, of0, of1, of2, of3⟩ := four hO1
  have hF : OwnRow ((((((((w1.setCell ⟨w.heap.size + 2, 0, none⟩ u).setCell ⟨w.heap.size + 2, 1, none⟩ (.int .i64 l)).setCell ⟨w.heap.size + 2, 2, none⟩ (.int .i64 e)).setCell ⟨w.heap.size + 2, 3, none⟩ (.int .i64 d)).setCell ⟨w.heap.size + 1, 0, none⟩ u).setCell ⟨w.heap.size + 1, 1, none⟩ (.int .i64 l)).setCell ⟨w.heap.size + 1, 2, none⟩ (.int .i64 e)).setCell ⟨w.heap.size + 1, 3, none⟩ (.int .i64 d)) w.heap.size u n f :=
    ((((((((hOu.set (by omega) _ _).set (by omega) _ _).set (by omega) _ _).set (by omega) _ _).set (by omega) _ _).set (by omega) _ _).set (by omega) _ _).set (by omega) _ _).mono (by omega)
  have kF : Below w.heap.size w ((((((((w1.setCell ⟨w.heap.size + 2, 0, none⟩ u).setCell ⟨w.heap.size + 2, 1, none⟩ (.int .i64 l)).setCell ⟨w.heap.size + 2, 2, none⟩ (.int .i64 e)).setCell ⟨w.heap.size + 2, 3, none⟩ (.int .i64 d)).setCell ⟨w.heap.size + 1, 0, none⟩ u).setCell ⟨w.heap.size + 1, 1, none⟩ (.int .i64 l)).setCell ⟨w.heap.size + 1, 2, none⟩ (.int .i64 e)).setCell ⟨w.heap.size + 1, 3, none⟩ (.int .i64 d)) :=
    (((((((k4.setCell (p := ⟨w.heap.size + 2, 0, none⟩) (Nat.le_add_right _ 2) _).setCell (p := ⟨w.heap.size + 2, 1, none⟩) (Nat.le_add_right _ 2) _).setCell (p := ⟨w.heap.size + 2, 2, none⟩) (Nat.le_add_right _ 2) _).setCell (p := ⟨w.heap.size + 2, 3, none⟩) (Nat.le_add_right _ 2) _).setCell (p := ⟨w.heap.size + 1, 0, none⟩) (Nat.le_add_right _ 1) _).setCell (p := ⟨w.heap.size + 1, 1, none⟩) (Nat.le_add_right _ 1) _).setCell (p := ⟨w.heap.size + 1, 2, none⟩) (Nat.le_add_right _ 1) _).setCell (p := ⟨w.heap.size + 1, 3, none⟩) (Nat.le_add_right _ 1) _
  clear hX1 hR1 hO1 HX HR HO hb k3 k4 hOu e3 hr
  subst hu
  go_wp2
  exact bodyPost_ret (v := prV (.slice ua n uc) l e d) (by simp [results, Tryz.results44, go_sem, r0, r1, r2, r3]) rfl ⟨_, rfl, hF, kF⟩

set_option maxRecDepth 100000 in
set_option maxHeartbeats 1000000 in
theorem eqProc_same {v1 v2 : Value} {n : Nat} {f : Slots} (l e d : Int) {w : World} (hn : n ≤ 1048576) (h1 : RowAt w v1 n f) (h2 : RowAt w v2 n f) :
    Calls Tryz.prog 57 #[prV v1 l e d, prV v2 l e d] w fun x w' => x = .returned (.bool true) ∧ Below w.heap.size w w' := by
  have k0 := ((Below.refl w.heap.size w).alloc (Nat.le_refl _) (.cells #[v1, .int .i64 l, .int .i64 e, .int .i64 d] 87)).alloc (by simp) (.cells #[v2, .int .i64 l, .int .i64 e, .int .i64 d] 87)
  have r1 := h1.below k0
  have r2 := h2.below k0
  clear h1 h2
  obtain ⟨a1, c1, hv1⟩ := r1.form
  obtain ⟨a2, c2, hv2⟩ := r2.form
  have R1 := Lib.hid r1
  have R2 := Lib.hid r2
  clear r1 r2
  subst hv1 hv2
  go_enter Tryz.func57, Tryz.ntmps57
  go_wp2_with fail
  go_at_call 84; refine (eqSlotS_same hn R1.out R2.out).mono ?_; rintro x w1 ⟨rfl, hb⟩
  obtain ⟨hc, hf⟩ := bcell hb
  go_wp2
  go_ret
  exact ⟨rfl, k0.trans (hb.mono k0.size)⟩

end Go.Proofs.YtflekodaiejflaaGreat

/-
  Lists of processors in memory, each with a list of slots: one that is read, and one that the call itself made.
-/
namespace Go.Proofs.YtflekodaiejflaaGreat
open Go.RowKit Go.Joins
set_option linter.unusedVariables false
set_option linter.unusedSimpArgs false

/-- a processor, plain -/
structure Pc where
  n : Nat
  f : Slots
  l : Int
  e : Int
  d : Int
abbrev Pcs := Nat → Pc
def putP (P : Pcs) (i : Nat) (p : Pc) : Pcs := fun k => if k = i then p else P k
theorem putP_same (P : Pcs) (i : Nat) (p : Pc) : putP P i p i = p := by simp [putP]
theorem putP_other (P : Pcs) {i k : Nat} (p : Pc) (h : k ≠ i) : putP P i p k = P k := by simp [putP, h]
abbrev pc0 : Pc := ⟨0, fun _ => (0, 0), 0, 0, 0⟩
/-- how many slots stand in the first k -/
def slotsP (P : Pcs) : Nat → Nat
  | 0 => 0
  | k + 1 => slotsP P k + (P k).n
theorem slotsP_le (P : Pcs) {i : Nat} : ∀ {k : Nat}, i < k → slotsP P i + (P i).n ≤ slotsP P k
  | 0, h => absurd h (Nat.not_lt_zero _)
  | k + 1, h => by
    rw [slotsP]
    by_cases e : i = k
    · subst e; exact Nat.le_refl _
    · exact Nat.le_trans (slotsP_le P (show i < k by omega)) (Nat.le_add_right _ _)
theorem slotsP_mono (P : Pcs) {i : Nat} : ∀ {k : Nat}, i ≤ k → slotsP P i ≤ slotsP P k
  | 0, h => by rw [show i = 0 by omega]; exact Nat.le_refl _
  | k + 1, h => by
    by_cases e : i = k + 1
    · subst e; exact Nat.le_refl _
    · exact Nat.le_trans (slotsP_mono P (show i ≤ k by omega)) (by rw [slotsP]; exact Nat.le_add_right _ _)

/-! ### a list that is read -/
/-- a processor's four cells, and its slots -/
def PcAt (w : World) (b o : Nat) (p : Pc) : Prop :=
  ∃ a cap, w.cell? ⟨b, o, none⟩ = some (.slice a p.n cap) ∧ w.cell? ⟨b, o + 1, none⟩ = some (.int .i64 p.l) ∧ w.cell? ⟨b, o + 2, none⟩ = some (.int .i64 p.e) ∧ w.cell? ⟨b, o + 3, none⟩ = some (.int .i64 p.d) ∧ RowAt w (.slice a p.n cap) p.n p.f
theorem PcAt.below {w w' : World} {b o : Nat} {p : Pc} (h : PcAt w b o p) (hl : b < w.heap.size) (hb : Below w.heap.size w w') : PcAt w' b o p := by
  obtain ⟨a, cap, h0, h1, h2, h3, hr⟩ := h
  exact ⟨a, cap, (hb.cell (p := ⟨b, o, none⟩) hl).trans h0, (hb.cell (p := ⟨b, o + 1, none⟩) hl).trans h1, (hb.cell (p := ⟨b, o + 2, none⟩) hl).trans h2, (hb.cell (p := ⟨b, o + 3, none⟩) hl).trans h3, hr.below hb⟩
def RowPAt (w : World) (v : Value) (m : Nat) (P : Pcs) : Prop :=
  (m = 0 ∧ ∃ a cap, v = .slice a 0 cap) ∨ ∃ b off cap, v = .slice (some ⟨b, off, none⟩) m cap ∧ b < w.heap.size ∧ ∀ i, i < m → PcAt w b (off + i * 4) (P i)
theorem RowPAt.form {w : World} {v : Value} {m : Nat} {P : Pcs} (h : RowPAt w v m P) : ∃ a cap, v = .slice a m cap := by
  rcases h with ⟨rfl, a, cap, rfl⟩ | ⟨b, off, cap, rfl, _⟩
  · exact ⟨_, _, rfl⟩
  · exact ⟨_, _, rfl⟩
theorem RowPAt.below {w w' : World} {v : Value} {m : Nat} {P : Pcs} (h : RowPAt w v m P) (hb : Below w.heap.size w w') : RowPAt w' v m P := by
  rcases h with h | ⟨b, off, cap, rfl, hl, hc⟩
  · exact .inl h
  · exact .inr ⟨b, off, cap, rfl, Nat.lt_of_lt_of_le hl hb.size, fun i hi => (hc i hi).below hl hb⟩
theorem RowPAt.congr {w : World} {v : Value} {m : Nat} {P Q : Pcs} (h : RowPAt w v m P) (e : ∀ i, i < m → P i = Q i) : RowPAt w v m Q := by
  rcases h with h | ⟨b, off, cap, rfl, hl, hc⟩
  · exact .inl h
  · exact .inr ⟨b, off, cap, rfl, hl, fun i hi => by rw [← e i hi]; exact hc i hi⟩

/-! ### a list that the call made: its own block, and own blocks for the slots, all apart -/
def PcIn (cur : Array Value) (m : Nat) (P : Pcs) (V : Nat → Value) : Prop :=
  ∀ i, i < m → cur[i * 4]? = some (V i) ∧ cur[i * 4 + 1]? = some (.int .i64 (P i).l) ∧ cur[i * 4 + 2]? = some (.int .i64 (P i).e) ∧ cur[i * 4 + 3]? = some (.int .i64 (P i).d)
def ListAt (w : World) (B g m cap : Nat) (P : Pcs) (V : Nat → Value) : Prop :=
  B ≤ g ∧ m ≤ cap ∧ cap ≤ maxLen ∧ ∃ cur, w.heap[g]? = some (.cells cur 87 (0, 0)) ∧ cur.size = cap * 4 ∧ PcIn cur m P V
theorem ListAt.lt {w : World} {B g m cap : Nat} {P : Pcs} {V : Nat → Value} (h : ListAt w B g m cap P V) : g < w.heap.size := by
  obtain ⟨_, _, _, cur, hh, _⟩ := h
  exact lt_of_block hh
theorem ListAt.cells {w : World} {B g m cap : Nat} {P : Pcs} {V : Nat → Value} (h : ListAt w B g m cap P V) {i : Nat} (hi : i < m) :
    w.cell? ⟨g, i * 4, none⟩ = some (V i) ∧ w.cell? ⟨g, i * 4 + 1, none⟩ = some (.int .i64 (P i).l) ∧ w.cell? ⟨g, i * 4 + 2, none⟩ = some (.int .i64 (P i).e) ∧ w.cell? ⟨g, i * 4 + 3, none⟩ = some (.int .i64 (P i).d) := by
  obtain ⟨_, _, _, cur, hh, _, hr⟩ := h
  obtain ⟨h0, h1, h2, h3⟩ := hr i hi
  exact ⟨(cell_of_block hh _).trans h0, (cell_of_block hh _).trans h1, (cell_of_block hh _).trans h2, (cell_of_block hh _).trans h3⟩
theorem ListAt.free {w : World} {B g m cap : Nat} {P : Pcs} {V : Nat → Value} (h : ListAt w B g m cap P V) (o : Nat) : w.frozen? ⟨g, o, none⟩ = false := by
  obtain ⟨_, _, _, cur, hh, _⟩ := h
  exact unfrozen_of_block hh o
theorem ListAt.block {w w' : World} {B g m cap : Nat} {P : Pcs} {V : Nat → Value} (h : ListAt w B g m cap P V) (e : w'.heap[g]? = w.heap[g]?) : ListAt w' B g m cap P V := by
  obtain ⟨h1, h2, h3, cur, hh, r⟩ := h
  exact ⟨h1, h2, h3, cur, e.trans hh, r⟩
theorem ListAt.below {w w' : World} {B g m cap : Nat} {P : Pcs} {V : Nat → Value} (h : ListAt w B g m cap P V) (hb : Below w.heap.size w w') : ListAt w' B g m cap P V := h.block (hb.block g h.lt)
theorem ListAt.congr {w : World} {B g m cap : Nat} {P Q : Pcs} {V U : Nat → Value} (h : ListAt w B g m cap P V) (e : ∀ i, i < m → P i = Q i) (ev : ∀ i, i < m → V i = U i) : ListAt w B g m cap Q U := by
  obtain ⟨h1, h2, h3, cur, hh, hs, hr⟩ := h
  exact ⟨h1, h2, h3, cur, hh, hs, fun i hi => by rw [← e i hi, ← ev i hi]; exact hr i hi⟩
theorem ListAt.mono {w : World} {B B' g m cap : Nat} {P : Pcs} {V : Nat → Value} (h : ListAt w B g m cap P V) (hB : B' ≤ B) : ListAt w B' g m cap P V := by
  obtain ⟨h1, r⟩ := h
  exact ⟨Nat.le_trans hB h1, r⟩
/-- the slots of the first m, each in a block of its own from B on, all apart -/
def HeapsAt (w : World) (B m : Nat) (P : Pcs) (V : Nat → Value) : Prop :=
  (∀ i, i < m → OwnRow w B (V i) (P i).n (P i).f) ∧ ∀ i j, i < m → j < m → i ≠ j → ∀ x, (V i).ownBlock = some x → (V j).ownBlock ≠ some x
theorem HeapsAt.below {w w' : World} {B m : Nat} {P : Pcs} {V : Nat → Value} (h : HeapsAt w B m P V) (hb : Below w.heap.size w w') : HeapsAt w' B m P V :=
  ⟨fun i hi => (h.1 i hi).below hb, h.2⟩
theorem HeapsAt.congr {w : World} {B m : Nat} {P Q : Pcs} {V U : Nat → Value} (h : HeapsAt w B m P V) (e : ∀ i, i < m → P i = Q i) (ev : ∀ i, i < m → V i = U i) : HeapsAt w B m Q U :=
  ⟨fun i hi => by rw [← e i hi, ← ev i hi]; exact h.1 i hi, fun i j hi hj hij x hx => by rw [← ev j hj]; rw [← ev i hi] at hx; exact h.2 i j hi hj hij x hx⟩
theorem HeapsAt.mono {w : World} {B B' m : Nat} {P : Pcs} {V : Nat → Value} (h : HeapsAt w B m P V) (hB : B' ≤ B) : HeapsAt w B' m P V := ⟨fun i hi => (h.1 i hi).mono hB, h.2⟩
theorem HeapsAt.cut {w : World} {B m k : Nat} {P : Pcs} {V : Nat → Value} (h : HeapsAt w B m P V) (hk : k ≤ m) : HeapsAt w B k P V :=
  ⟨fun i hi => h.1 i (Nat.lt_of_lt_of_le hi hk), fun i j hi hj => h.2 i j (Nat.lt_of_lt_of_le hi hk) (Nat.lt_of_lt_of_le hj hk)⟩
def putV (V : Nat → Value) (k : Nat) (u : Value) : Nat → Value := fun i => if i = k then u else V i
theorem putV_same (V : Nat → Value) (k : Nat) (u : Value) : putV V k u k = u := by simp [putV]
theorem putV_other (V : Nat → Value) {i k : Nat} (u : Value) (h : i ≠ k) : putV V k u i = V i := by simp [putV, h]
/-- one more, in a new block -/
theorem HeapsAt.push {w w' : World} {B k : Nat} {P : Pcs} {V : Nat → Value} {u : Value} {p : Pc} (h : HeapsAt w B k P V) (hb : Below w.heap.size w w') (hB : B ≤ w.heap.size) (ho : OwnRow w' w.heap.size u p.n p.f) :
    HeapsAt w' B (k + 1) (putP P k p) (putV V k u) := by
  have new : ∀ x, u.ownBlock = some x → w.heap.size ≤ x := fun x hx => by
    rcases ho with ⟨_, rfl⟩ | ⟨g, cap, rfl, hg⟩
    · simp [Value.ownBlock] at hx
    · simp [Value.ownBlock] at hx; subst hx; exact hg.1
  have old : ∀ i, i < k → ∀ x, (V i).ownBlock = some x → x < w.heap.size := fun i hi => (h.1 i hi).lt_size
  refine ⟨fun i hi => ?_, fun i j hi hj hij x hx => ?_⟩
  · by_cases e : i = k
    · subst e; rw [putP_same, putV_same]; exact ho.mono hB
    · rw [putP_other P p e, putV_other V u e]; exact (h.1 i (by omega)).below hb
  · by_cases e : i = k
    · subst e
      rw [putV_same] at hx
      rw [putV_other V u (Ne.symm hij)]
      intro h2
      have := new x hx; have := old j (by omega) x h2; omega
    · rw [putV_other V u e] at hx
      by_cases e2 : j = k
      · subst e2
        rw [putV_same]
        intro h2
        have := new x h2; have := old i (by omega) x hx; omega
      · rw [putV_other V u e2]
        exact h.2 i j (by omega) (by omega) hij x hx
theorem HeapsAt.zero (w : World) (B : Nat) (P : Pcs) (V : Nat → Value) : HeapsAt w B 0 P V := ⟨fun i hi => by omega, fun i j hi => by omega⟩
theorem OwnRow.value {w : World} {B n : Nat} {v : Value} {f : Slots} (h : OwnRow w B v n f) : ∃ a cap, v = .slice a n cap := h.row.form

/-- a list of processors of the call's own -/
def OwnPAt (w : World) (B g m cap : Nat) (P : Pcs) (V : Nat → Value) : Prop := ListAt w B g m cap P V ∧ HeapsAt w B m P V
def OwnPRow (w : World) (B : Nat) (v : Value) (m : Nat) (P : Pcs) : Prop :=
  (m = 0 ∧ v = .slice none 0 0) ∨ ∃ g cap V, v = .slice (some ⟨g, 0, none⟩) m cap ∧ OwnPAt w B g m cap P V
theorem OwnPAt.pc {w : World} {B g m cap : Nat} {P : Pcs} {V : Nat → Value} (h : OwnPAt w B g m cap P V) {i : Nat} (hi : i < m) : PcAt w g (i * 4) (P i) := by
  obtain ⟨h0, h1, h2, h3⟩ := h.1.cells hi
  have ho := h.2.1 i hi
  obtain ⟨a, c, e⟩ := ho.value
  rw [e] at h0 ho
  exact ⟨a, c, h0, h1, h2, h3, ho.row⟩
theorem OwnPAt.row {w : World} {B g m cap : Nat} {P : Pcs} {V : Nat → Value} (h : OwnPAt w B g m cap P V) : RowPAt w (.slice (some ⟨g, 0, none⟩) m cap) m P :=
  .inr ⟨g, 0, cap, rfl, h.1.lt, fun i hi => by simpa using h.pc hi⟩
theorem OwnPRow.row {w : World} {B m : Nat} {v : Value} {P : Pcs} (h : OwnPRow w B v m P) : RowPAt w v m P := by
  rcases h with ⟨rfl, rfl⟩ | ⟨g, cap, V, rfl, h⟩
  · exact .inl ⟨rfl, _, _, rfl⟩
  · exact h.row
theorem OwnPAt.below {w w' : World} {B g m cap : Nat} {P : Pcs} {V : Nat → Value} (h : OwnPAt w B g m cap P V) (hb : Below w.heap.size w w') : OwnPAt w' B g m cap P V := ⟨h.1.below hb, h.2.below hb⟩
theorem OwnPRow.below {w w' : World} {B m : Nat} {v : Value} {P : Pcs} (h : OwnPRow w B v m P) (hb : Below w.heap.size w w') : OwnPRow w' B v m P := by
  rcases h with h | ⟨g, cap, V, e, h⟩
  · exact .inl h
  · exact .inr ⟨g, cap, V, e, h.below hb⟩
theorem OwnPRow.mono {w : World} {B B' m : Nat} {v : Value} {P : Pcs} (h : OwnPRow w B v m P) (hB : B' ≤ B) : OwnPRow w B' v m P := by
  rcases h with h | ⟨g, cap, V, e, h⟩
  · exact .inl h
  · exact .inr ⟨g, cap, V, e, h.1.mono hB, h.2.mono hB⟩
theorem OwnPRow.congr {w : World} {B m : Nat} {v : Value} {P Q : Pcs} (h : OwnPRow w B v m P) (e : ∀ i, i < m → P i = Q i) : OwnPRow w B v m Q := by
  rcases h with h | ⟨g, cap, V, e1, h⟩
  · exact .inl h
  · exact .inr ⟨g, cap, V, e1, h.1.congr e (fun _ _ => rfl), h.2.congr e (fun _ _ => rfl)⟩

/-- a processor is stored -/
abbrev setP (w : World) (g k : Nat) (u : Value) (l e d : Int) : World := (((w.setCell ⟨g, k * 4, none⟩ u).setCell ⟨g, k * 4 + 1, none⟩ (.int .i64 l)).setCell ⟨g, k * 4 + 2, none⟩ (.int .i64 e)).setCell ⟨g, k * 4 + 3, none⟩ (.int .i64 d)
theorem put4 {cur : Array Value} {m cap k : Nat} {P : Pcs} {V : Nat → Value} (hs : cur.size = cap * 4) (hk : k < cap) (hr : PcIn cur m P V) (u : Value) (p : Pc) :
    PcIn ((((cur.setIfInBounds (k * 4) u).setIfInBounds (k * 4 + 1) (.int .i64 p.l)).setIfInBounds (k * 4 + 2) (.int .i64 p.e)).setIfInBounds (k * 4 + 3) (.int .i64 p.d)) m (putP P k p) (putV V k u) := by
  intro i hi
  by_cases e : i = k
  · subst e
    rw [putP_same, putV_same]
    refine ⟨?_, ?_, ?_, ?_⟩ <;> (simp only [Array.getElem?_setIfInBounds, Array.size_setIfInBounds]; simp; try omega)
  · rw [putP_other P p e, putV_other V u e]
    obtain ⟨h0, h1, h2, h3⟩ := hr i hi
    refine ⟨?_, ?_, ?_, ?_⟩
    · rw [Array.getElem?_setIfInBounds_ne (by omega), Array.getElem?_setIfInBounds_ne (by omega), Array.getElem?_setIfInBounds_ne (by omega), Array.getElem?_setIfInBounds_ne (by omega)]; exact h0
    · rw [Array.getElem?_setIfInBounds_ne (by omega), Array.getElem?_setIfInBounds_ne (by omega), Array.getElem?_setIfInBounds_ne (by omega), Array.getElem?_setIfInBounds_ne (by omega)]; exact h1
    · rw [Array.getElem?_setIfInBounds_ne (by omega), Array.getElem?_setIfInBounds_ne (by omega), Array.getElem?_setIfInBounds_ne (by omega), Array.getElem?_setIfInBounds_ne (by omega)]; exact h2
    · rw [Array.getElem?_setIfInBounds_ne (by omega), Array.getElem?_setIfInBounds_ne (by omega), Array.getElem?_setIfInBounds_ne (by omega), Array.getElem?_setIfInBounds_ne (by omega)]; exact h3
theorem ListAt.put {w : World} {B g m cap : Nat} {P : Pcs} {V : Nat → Value} (h : ListAt w B g m cap P V) {k : Nat} (hk : k < m) (u : Value) (p : Pc) : ListAt (setP w g k u p.l p.e p.d) B g m cap (putP P k p) (putV V k u) := by
  obtain ⟨h1, h2, h3, cur, hh, hs, hr⟩ := h
  refine ⟨h1, h2, h3, _, block_setCell (block_setCell (block_setCell (block_setCell hh (i := k * 4) _) (i := k * 4 + 1) _) (i := k * 4 + 2) _) (i := k * 4 + 3) _, by simp [hs], put4 hs (by omega) hr u p⟩
/-- what is written into another block leaves the slots -/
theorem HeapsAt.other {w w' : World} {B m : Nat} {P : Pcs} {V : Nat → Value} (h : HeapsAt w B m P V) (e : ∀ i, i < m → ∀ x, (V i).ownBlock = some x → w'.heap[x]? = w.heap[x]?) : HeapsAt w' B m P V := by
  refine ⟨fun i hi => ?_, h.2⟩
  have h1 := h.1 i hi
  have e1 := e i hi
  rcases h1 with h1 | ⟨g, cap, ev, h1⟩
  · exact .inl h1
  · exact .inr ⟨g, cap, ev, h1.block (e1 g (by rw [ev]; rfl))⟩
/-- the list's block is none of the slots' -/
theorem ListAt.ne_heap {w : World} {B g m cap B' n : Nat} {P : Pcs} {V : Nat → Value} {v : Value} {f : Slots} (h : ListAt w B g m cap P V) (ho : OwnRow w B' v n f) : ∀ x, v.ownBlock = some x → x ≠ g := by
  intro x hx
  rcases ho with ⟨_, rfl⟩ | ⟨g', cap', rfl, ho⟩
  · simp [Value.ownBlock] at hx
  · simp [Value.ownBlock] at hx
    subst hx
    rintro rfl
    obtain ⟨_, _, _, cur, hh, _⟩ := h
    obtain ⟨_, _, _, cur', hh', _⟩ := ho
    rw [hh] at hh'
    injection hh' with hh'
    injection hh' with _ h2 _
    exact absurd h2 (by decide)
theorem heap_setP (w : World) (g k : Nat) (u : Value) (l e d : Int) {x : Nat} (hx : x ≠ g) : (setP w g k u l e d).heap[x]? = w.heap[x]? :=
  (Below.heap_setCell _ ⟨g, k * 4 + 3, none⟩ _ x hx).trans ((Below.heap_setCell _ ⟨g, k * 4 + 2, none⟩ _ x hx).trans ((Below.heap_setCell _ ⟨g, k * 4 + 1, none⟩ _ x hx).trans (Below.heap_setCell _ ⟨g, k * 4, none⟩ _ x hx)))
theorem b_setP {W w : World} {n g : Nat} (h : Below n W w) (hg : n ≤ g) (k : Nat) (u : Value) (l e d : Int) : Below n W (setP w g k u l e d) :=
  (((h.setCell (p := ⟨g, k * 4, none⟩) hg u).setCell (p := ⟨g, k * 4 + 1, none⟩) hg _).setCell (p := ⟨g, k * 4 + 2, none⟩) hg _).setCell (p := ⟨g, k * 4 + 3, none⟩) hg _

end Go.Proofs.YtflekodaiejflaaGreat
