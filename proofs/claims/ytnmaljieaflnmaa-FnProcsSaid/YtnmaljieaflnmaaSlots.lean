/-
  Lists of slots in memory: one that is read, and one that the call itself made.
-/
import Derived.Test.YtnmaljieaflnmaaIn
import Derived.Test.YtnmaljieaflnmaaHeapPlain
import Derived.Maps.AppendAt
import Derived.Laws.AppendOwn
namespace Go.Proofs.Ytnmaljieaflnmaa
open Go.RowKit Go.Joins
set_option linter.unusedVariables false

/-! ### a list that is read: no slots, or slots whose cells can be read -/
def RowAt (w : World) (v : Value) (n : Nat) (f : Slots) : Prop :=
  (n = 0 ∧ ∃ a cap, v = .slice a 0 cap) ∨ ∃ b off cap, v = .slice (some ⟨b, off, none⟩) n cap ∧ b < w.heap.size ∧
    ∀ i, i < n → w.cell? ⟨b, off + i * 2, none⟩ = some (.int .i64 (f i).1) ∧ w.cell? ⟨b, off + i * 2 + 1, none⟩ = some (.int .i64 (f i).2)
theorem RowAt.form {w : World} {v : Value} {n : Nat} {f : Slots} (h : RowAt w v n f) : ∃ a cap, v = .slice a n cap := by
  rcases h with ⟨rfl, a, cap, rfl⟩ | ⟨b, off, cap, rfl, _⟩
  · exact ⟨_, _, rfl⟩
  · exact ⟨_, _, rfl⟩
theorem RowAt.below {w w' : World} {v : Value} {n : Nat} {f : Slots} (h : RowAt w v n f) (hb : Below w.heap.size w w') : RowAt w' v n f := by
  rcases h with h | ⟨b, off, cap, rfl, hl, hc⟩
  · exact .inl h
  · exact .inr ⟨b, off, cap, rfl, Nat.lt_of_lt_of_le hl hb.size, fun i hi => ⟨(hb.cell (p := ⟨b, off + i * 2, none⟩) hl).trans (hc i hi).1, (hb.cell (p := ⟨b, off + i * 2 + 1, none⟩) hl).trans (hc i hi).2⟩⟩
theorem RowAt.congr {w : World} {v : Value} {n : Nat} {f g : Slots} (h : RowAt w v n f) (e : ∀ i, i < n → f i = g i) : RowAt w v n g := by
  rcases h with h | ⟨b, off, cap, rfl, hl, hc⟩
  · exact .inl h
  · exact .inr ⟨b, off, cap, rfl, hl, fun i hi => by rw [← e i hi]; exact hc i hi⟩
theorem RowAt.drew {w : World} {v : Value} {n : Nat} {f : Slots} (h : RowAt w v n f) : RowAt w.drew v n f := h
theorem RowAt.drewN {w : World} {v : Value} {n : Nat} {f : Slots} (h : RowAt w v n f) (k : Nat) : RowAt (w.drewN k) v n f := h

/-! ### a list that the call made, in a block of its own from B on -/
def RowIn (cur : Array Value) (n : Nat) (f : Slots) : Prop := ∀ i, i < n → cur[i * 2]? = some (.int .i64 (f i).1) ∧ cur[i * 2 + 1]? = some (.int .i64 (f i).2)
def OwnAt (w : World) (B g n cap : Nat) (f : Slots) : Prop :=
  B ≤ g ∧ n ≤ cap ∧ cap ≤ maxLen ∧ ∃ cur, w.heap[g]? = some (.cells cur 35 (0, 0)) ∧ cur.size = cap * 2 ∧ RowIn cur n f
def OwnRow (w : World) (B : Nat) (v : Value) (n : Nat) (f : Slots) : Prop :=
  (n = 0 ∧ v = .slice none 0 0) ∨ ∃ g cap, v = .slice (some ⟨g, 0, none⟩) n cap ∧ OwnAt w B g n cap f
theorem OwnAt.lt {w : World} {B g n cap : Nat} {f : Slots} (h : OwnAt w B g n cap f) : g < w.heap.size := by
  obtain ⟨_, _, _, cur, hh, _⟩ := h
  exact lt_of_block hh
theorem OwnAt.cells {w : World} {B g n cap : Nat} {f : Slots} (h : OwnAt w B g n cap f) {i : Nat} (hi : i < n) :
    w.cell? ⟨g, i * 2, none⟩ = some (.int .i64 (f i).1) ∧ w.cell? ⟨g, i * 2 + 1, none⟩ = some (.int .i64 (f i).2) := by
  obtain ⟨_, _, _, cur, hh, _, hr⟩ := h
  exact ⟨(cell_of_block hh _).trans (hr i hi).1, (cell_of_block hh _).trans (hr i hi).2⟩
theorem OwnAt.free {w : World} {B g n cap : Nat} {f : Slots} (h : OwnAt w B g n cap f) (o : Nat) : w.frozen? ⟨g, o, none⟩ = false := by
  obtain ⟨_, _, _, cur, hh, _⟩ := h
  exact unfrozen_of_block hh o
theorem OwnAt.row {w : World} {B g n cap : Nat} {f : Slots} (h : OwnAt w B g n cap f) : RowAt w (.slice (some ⟨g, 0, none⟩) n cap) n f :=
  .inr ⟨g, 0, cap, rfl, h.lt, fun i hi => by simpa using h.cells hi⟩
theorem OwnRow.row {w : World} {B n : Nat} {v : Value} {f : Slots} (h : OwnRow w B v n f) : RowAt w v n f := by
  rcases h with ⟨rfl, rfl⟩ | ⟨g, cap, rfl, h⟩
  · exact .inl ⟨rfl, _, _, rfl⟩
  · exact h.row
theorem OwnAt.own {w : World} {B g n cap : Nat} {f : Slots} (h : OwnAt w B g n cap f) : OwnRow w B (.slice (some ⟨g, 0, none⟩) n cap) n f := .inr ⟨g, cap, rfl, h⟩
theorem OwnAt.block {w w' : World} {B g n cap : Nat} {f : Slots} (h : OwnAt w B g n cap f) (e : w'.heap[g]? = w.heap[g]?) : OwnAt w' B g n cap f := by
  obtain ⟨h1, h2, h3, cur, hh, r⟩ := h
  exact ⟨h1, h2, h3, cur, e.trans hh, r⟩
theorem OwnAt.below {w w' : World} {B g n cap : Nat} {f : Slots} (h : OwnAt w B g n cap f) (hb : Below w.heap.size w w') : OwnAt w' B g n cap f := h.block (hb.block g h.lt)
theorem OwnAt.kept {w w' : World} {B g g' n cap : Nat} {f : Slots} (h : OwnAt w B g n cap f) (hk : w.grownBy w' (some g')) (hn : g ≠ g') : OwnAt w' B g n cap f :=
  h.block (hk.block g h.lt (by intro e; injection e; contradiction))
theorem OwnAt.alloc {w : World} {B g n cap : Nat} {f : Slots} (h : OwnAt w B g n cap f) (o : Obj) : OwnAt (w.alloc o) B g n cap f := h.block (Below.heap_alloc w o g h.lt)
theorem OwnAt.drewN {w : World} {B g n cap : Nat} {f : Slots} (h : OwnAt w B g n cap f) (k : Nat) : OwnAt (w.drewN k) B g n cap f := h
theorem OwnAt.drew {w : World} {B g n cap : Nat} {f : Slots} (h : OwnAt w B g n cap f) : OwnAt w.drew B g n cap f := h
theorem OwnAt.mono {w : World} {B B' g n cap : Nat} {f : Slots} (h : OwnAt w B g n cap f) (hB : B' ≤ B) : OwnAt w B' g n cap f := by
  obtain ⟨h1, r⟩ := h
  exact ⟨Nat.le_trans hB h1, r⟩
theorem OwnAt.congr {w : World} {B g n cap : Nat} {f f' : Slots} (h : OwnAt w B g n cap f) (e : ∀ i, i < n → f i = f' i) : OwnAt w B g n cap f' := by
  obtain ⟨h1, h2, h3, cur, hh, hs, hr⟩ := h
  exact ⟨h1, h2, h3, cur, hh, hs, fun i hi => by rw [← e i hi]; exact hr i hi⟩
/-- one slot less: the slice cut short -/
theorem OwnAt.cut {w : World} {B g n m cap : Nat} {f : Slots} (h : OwnAt w B g n cap f) (hm : m ≤ n) : OwnAt w B g m cap f := by
  obtain ⟨h1, h2, h3, cur, hh, hs, hr⟩ := h
  exact ⟨h1, Nat.le_trans hm h2, h3, cur, hh, hs, fun i hi => hr i (Nat.lt_of_lt_of_le hi hm)⟩
/-- a slot is stored -/
theorem OwnAt.put {w : World} {B g n cap : Nat} {f : Slots} (h : OwnAt w B g n cap f) {k : Nat} (hk : k < n) (x y : Int) :
    OwnAt ((w.setCell ⟨g, k * 2, none⟩ (.int .i64 x)).setCell ⟨g, k * 2 + 1, none⟩ (.int .i64 y)) B g n cap (putF f k (x, y)) := by
  obtain ⟨h1, h2, h3, cur, hh, hs, hr⟩ := h
  refine ⟨h1, h2, h3, _, block_setCell (block_setCell hh (i := k * 2) (.int .i64 x)) (i := k * 2 + 1) (.int .i64 y), by simp [hs], fun i hi => ?_⟩
  have hk2 : k * 2 + 1 < cur.size := by omega
  by_cases e : i = k
  · subst e
    rw [putF_same]
    constructor
    · rw [Array.getElem?_setIfInBounds_ne (by omega), Array.getElem?_setIfInBounds_self_of_lt (by omega)]
    · rw [Array.getElem?_setIfInBounds_self_of_lt (by simpa using hk2)]
  · rw [putF_other f _ e]
    constructor
    · rw [Array.getElem?_setIfInBounds_ne (by omega), Array.getElem?_setIfInBounds_ne (by omega)]; exact (hr i hi).1
    · rw [Array.getElem?_setIfInBounds_ne (by omega), Array.getElem?_setIfInBounds_ne (by omega)]; exact (hr i hi).2

/-! ### append -/
def cellsF (f : Slots) : Nat → List Value
  | 0 => []
  | n + 1 => cellsF f n ++ [.int .i64 (f n).1, .int .i64 (f n).2]
theorem cellsF_length (f : Slots) : ∀ n, (cellsF f n).length = n * 2
  | 0 => rfl
  | n + 1 => by rw [cellsF, List.length_append, cellsF_length f n]; simp; omega
theorem cellsF_get (f : Slots) : ∀ n i, i < n → (cellsF f n)[i * 2]? = some (.int .i64 (f i).1) ∧ (cellsF f n)[i * 2 + 1]? = some (.int .i64 (f i).2)
  | 0, i, h => absurd h (Nat.not_lt_zero _)
  | n + 1, i, h => by
    rw [cellsF]
    by_cases e : i = n
    · subst e
      constructor
      · rw [List.getElem?_append_right (by rw [cellsF_length]; omega), cellsF_length]; simp
      · rw [List.getElem?_append_right (by rw [cellsF_length]; omega), cellsF_length]; simp [Nat.add_sub_cancel_left]
    · obtain ⟨h1, h2⟩ := cellsF_get f n i (by omega)
      exact ⟨by rw [List.getElem?_append_left (by rw [cellsF_length]; omega)]; exact h1, by rw [List.getElem?_append_left (by rw [cellsF_length]; omega)]; exact h2⟩
theorem cellsF_at (f : Slots) (n j : Nat) (u : Value) (h : (cellsF f n)[j]? = some u) : ∃ i, i < n ∧ ((j = i * 2 ∧ u = .int .i64 (f i).1) ∨ (j = i * 2 + 1 ∧ u = .int .i64 (f i).2)) := by
  have hj : j < n * 2 := by
    have := (List.getElem?_eq_some_iff.1 h).1
    rwa [cellsF_length] at this
  have hi : j / 2 < n := by omega
  obtain ⟨h1, h2⟩ := cellsF_get f n (j / 2) hi
  rcases Nat.mod_two_eq_zero_or_one j with e | e
  · have ej : j / 2 * 2 = j := by omega
    rw [ej, h] at h1
    injection h1 with h1
    exact ⟨j / 2, hi, .inl ⟨by omega, h1⟩⟩
  · have ej : j / 2 * 2 + 1 = j := by omega
    rw [ej, h] at h2
    injection h2 with h2
    exact ⟨j / 2, hi, .inr ⟨by omega, h2⟩⟩
theorem cellsF_one (f : Slots) (n : Nat) : ∀ u ∈ cellsF f n, u.oneCell' = true := by
  intro u hu
  obtain ⟨j, hj, e⟩ := List.getElem_of_mem hu
  obtain ⟨i, _, ⟨_, rfl⟩ | ⟨_, rfl⟩⟩ := cellsF_at f n j u (by rw [List.getElem?_eq_getElem hj, e])
  · rfl
  · rfl
/-- what a row of the library's says of such a list -/
theorem own_of_row {w : World} {B n : Nat} {v : Value} {f : Slots} (h : w.ownsRow B 35 2 v n (cellsF f n)) : OwnRow w B v n f := by
  rcases h.2 with ⟨rfl, rfl⟩ | ⟨g, cap, cur, rfl, hB, hg, hn, hcm, hs, ht⟩
  · exact .inl ⟨rfl, rfl⟩
  · refine .inr ⟨g, cap, rfl, hB, hn, hcm, cur, hg, hs, fun i hi => ?_⟩
    obtain ⟨h1, h2⟩ := cellsF_get f n i hi
    rw [← ht] at h1 h2
    rw [List.getElem?_take_of_lt (by omega)] at h1 h2
    exact ⟨by simpa using h1, by simpa using h2⟩
theorem row_of_own {w : World} {B g n cap : Nat} {f : Slots} (h : OwnAt w B g n cap f) : w.ownsRow B 35 2 (.slice (some ⟨g, 0, none⟩) n cap) n (cellsF f n) := by
  obtain ⟨h1, h2, h3, cur, hh, hs, hr⟩ := h
  refine ⟨cellsF_length f n, .inr ⟨g, cap, cur, rfl, h1, hh, h2, h3, hs, ?_⟩⟩
  apply List.ext_getElem?
  intro j
  by_cases hj : j < n * 2
  · rw [List.getElem?_take_of_lt hj]
    have hi : j / 2 < n := by omega
    obtain ⟨a1, a2⟩ := cellsF_get f n (j / 2) hi
    obtain ⟨b1, b2⟩ := hr (j / 2) hi
    rcases Nat.mod_two_eq_zero_or_one j with e | e
    · have ej : j / 2 * 2 = j := by omega
      rw [ej] at a1 b1
      rw [a1]; simpa using b1
    · have ej : j / 2 * 2 + 1 = j := by omega
      rw [ej] at a2 b2
      rw [a2]; simpa using b2
  · rw [List.getElem?_eq_none (by rw [List.length_take]; omega), List.getElem?_eq_none (by rw [cellsF_length]; omega)]

theorem row_of_ownrow {w : World} {B n : Nat} {v : Value} {f : Slots} (h : OwnRow w B v n f) : w.ownsRow B 35 2 v n (cellsF f n) := by
  rcases h with ⟨rfl, rfl⟩ | ⟨g, cap, rfl, h⟩
  · exact World.ownsRow_nil w B _ _
  · exact row_of_own h
theorem OwnRow.below {w w' : World} {B n : Nat} {v : Value} {f : Slots} (h : OwnRow w B v n f) (hb : Below w.heap.size w w') : OwnRow w' B v n f := by
  rcases h with h | ⟨g, cap, e, h⟩
  · exact .inl h
  · exact .inr ⟨g, cap, e, h.below hb⟩
theorem OwnRow.alloc {w : World} {B n : Nat} {v : Value} {f : Slots} (h : OwnRow w B v n f) (o : Obj) : OwnRow (w.alloc o) B v n f := h.below ((Below.refl _ _).alloc (Nat.le_refl _) _)
theorem OwnRow.mono {w : World} {B B' n : Nat} {v : Value} {f : Slots} (h : OwnRow w B v n f) (hB : B' ≤ B) : OwnRow w B' v n f := by
  rcases h with h | ⟨g, cap, e, h⟩
  · exact .inl h
  · exact .inr ⟨g, cap, e, h.mono hB⟩
theorem OwnRow.congr {w : World} {B n : Nat} {v : Value} {f f' : Slots} (h : OwnRow w B v n f) (e : ∀ i, i < n → f i = f' i) : OwnRow w B v n f' := by
  rcases h with h | ⟨g, cap, e1, h⟩
  · exact .inl h
  · exact .inr ⟨g, cap, e1, h.congr e⟩
theorem cellsF_congr {f f' : Slots} : ∀ n, (∀ i, i < n → f i = f' i) → cellsF f n = cellsF f' n
  | 0, _ => rfl
  | n + 1, h => by rw [cellsF, cellsF, cellsF_congr n (fun i hi => h i (by omega)), h n (by omega)]
theorem cellsF_push (f : Slots) (n : Nat) (s : Int × Int) : cellsF f n ++ cellsF (fun _ => s) 1 = cellsF (putF f n s) (n + 1) := by
  have e : cellsF (putF f n s) n = cellsF f n := cellsF_congr n (fun i hi => putF_other f s (by omega))
  show cellsF f n ++ ([] ++ [.int .i64 s.1, .int .i64 s.2]) = cellsF (putF f n s) n ++ [.int .i64 (putF f n s n).1, .int .i64 (putF f n s n).2]
  rw [e, putF_same]; rfl
/-- a list of one slot, just made -/
theorem one_row (w : World) (a b : Int) : RowAt (w.alloc (.cells #[.int .i64 a, .int .i64 b] 35)) (.slice (some ⟨w.heap.size, 0, none⟩) 1 1) 1 (fun _ => (a, b)) :=
  .inr ⟨w.heap.size, 0, 1, rfl, by simp, fun i hi => by
    have e : i = 0 := by omega
    subst e
    exact ⟨cell_of_block (heap_alloc_new w _) 0, cell_of_block (heap_alloc_new w _) 1⟩⟩
/-- a row's own block does not lie below its base -/
theorem OwnRow.below_own {w w' : World} {B n : Nat} {v : Value} {f : Slots} (h : OwnRow w B v n f) (hg : w.grownBy w' v.ownBlock) (hB : B ≤ w.heap.size) : Below B w w' := by
  refine ⟨hg.os, hg.tape, hg.output, hg.size, fun k hk => hg.block k (by omega) ?_⟩
  rcases h with ⟨_, rfl⟩ | ⟨g, cap, rfl, h⟩
  · simp [Value.ownBlock]
  · intro e
    have := h.1
    simp [Value.ownBlock] at e
    omega

theorem OwnRow.set {w : World} {B n : Nat} {v : Value} {f : Slots} (h : OwnRow w B v n f) {b : Nat} (hb : b < B) (o : Nat) (u : Value) : OwnRow (w.setCell ⟨b, o, none⟩ u) B v n f := by
  rcases h with h | ⟨g, cap, e, h⟩
  · exact .inl h
  · exact .inr ⟨g, cap, e, h.block (Below.heap_setCell w ⟨b, o, none⟩ u g (by have := h.1; intro e; subst e; exact absurd hb (by simpa using this)))⟩
theorem OwnRow.drewN {w : World} {B n : Nat} {v : Value} {f : Slots} (h : OwnRow w B v n f) (k : Nat) : OwnRow (w.drewN k) B v n f := h
theorem OwnRow.drew {w : World} {B n : Nat} {v : Value} {f : Slots} (h : OwnRow w B v n f) : OwnRow w.drew B v n f := h
theorem hasB_pos {n : Nat} {i : Int} (h : hasB n i = true) : 0 < n := by have := hasB_iff.1 h; omega

end Go.Proofs.Ytnmaljieaflnmaa
