/-
  Heaps, plainly: what the two sifts make of a list of slots (a function from places to slots, and a length). No Go in sight.
-/
namespace Go.Proofs.Ytnmaljieaflnmaa
set_option linter.unusedVariables false

abbrev Slots := Nat → Int × Int
def putF (f : Slots) (i : Nat) (s : Int × Int) : Slots := fun k => if k = i then s else f k
def swapF (f : Slots) (i j : Nat) : Slots := putF (putF f i (f j)) j (f i)
theorem putF_same (f : Slots) (i : Nat) (s : Int × Int) : putF f i s i = s := by simp [putF]
theorem putF_other (f : Slots) {i k : Nat} (s : Int × Int) (h : k ≠ i) : putF f i s k = f k := by simp [putF, h]

/-- as long as it has a parent with a greater key -/
def upB (f : Slots) (i : Nat) : Bool := decide (0 < i) && decide ((f i).2 < (f ((i - 1) / 4)).2)
def raiseF (f : Slots) (i : Nat) : Slots := if h : upB f i = true then raiseF (swapF f i ((i - 1) / 4)) ((i - 1) / 4) else f
termination_by i
decreasing_by simp [upB] at h; omega
theorem raiseF_up {f : Slots} {i : Nat} (h : upB f i = true) : raiseF f i = raiseF (swapF f i ((i - 1) / 4)) ((i - 1) / 4) := by rw [raiseF, dif_pos h]
theorem raiseF_stop {f : Slots} {i : Nat} (h : upB f i = false) : raiseF f i = f := by rw [raiseF, dif_neg (by simp [h])]

/-- of c children from k on, the first of the least key, if that is less than b's -/
def bestG (f : Slots) (n : Nat) : Nat → Nat → Nat → Nat
  | 0, _, b => b
  | c + 1, k, b => if k < n then bestG f n c (k + 1) (if (f k).2 < (f b).2 then k else b) else b
def bestF (f : Slots) (n i : Nat) : Nat := bestG f n 4 (4 * i + 1) i
theorem bestG_lt (f : Slots) (n : Nat) : ∀ (c k b : Nat), b < n → bestG f n c k b < n
  | 0, _, b, h => h
  | c + 1, k, b, h => by
    rw [bestG]
    split
    · exact bestG_lt f n c (k + 1) _ (by split <;> assumption)
    · exact h
theorem bestG_ge (f : Slots) (n i : Nat) : ∀ (c k b : Nat), i < k → (b = i ∨ i < b) → (bestG f n c k b = i ∨ i < bestG f n c k b)
  | 0, _, b, _, h => h
  | c + 1, k, b, hk, h => by
    rw [bestG]
    split
    · exact bestG_ge f n i c (k + 1) _ (by omega) (by split <;> omega)
    · exact h
theorem bestF_lt {f : Slots} {n i : Nat} (h : i < n) : bestF f n i < n := bestG_lt f n 4 _ _ h
theorem bestF_ge (f : Slots) (n i : Nat) : bestF f n i = i ∨ i < bestF f n i := bestG_ge f n i 4 _ _ (by omega) (.inl rfl)
theorem bestG_out {f : Slots} {n k : Nat} (h : ¬ k < n) (c b : Nat) : bestG f n c k b = b := by
  cases c
  · rfl
  · rw [bestG, if_neg h]
theorem bestG_step {f : Slots} {n k : Nat} (h : k < n) (c b : Nat) : bestG f n (c + 1) k b = bestG f n c (k + 1) (if (f k).2 < (f b).2 then k else b) := by
  rw [bestG, if_pos h]

/-- as long as it has a child with a lesser key, with the first one of the least -/
def sinkF (f : Slots) (n i : Nat) : Slots := if h : i < bestF f n i ∧ bestF f n i < n then sinkF (swapF f i (bestF f n i)) n (bestF f n i) else f
termination_by n - i
theorem sinkF_down {f : Slots} {n i : Nat} (h : i < n) (hb : bestF f n i ≠ i) : sinkF f n i = sinkF (swapF f i (bestF f n i)) n (bestF f n i) := by
  rw [sinkF, dif_pos ⟨by rcases bestF_ge f n i with h1 | h1 <;> omega, bestF_lt h⟩]
theorem sinkF_stop {f : Slots} {n i : Nat} (hb : bestF f n i = i) : sinkF f n i = f := by
  rw [sinkF, dif_neg (by omega)]

/-- is there such a slot? -/
def hasB (n : Nat) (i : Int) : Bool := decide (0 ≤ i) && decide (i ≤ (n : Int) - 1)
theorem hasB_iff {n : Nat} {i : Int} : hasB n i = true ↔ 0 ≤ i ∧ i < n := by simp [hasB]; omega
def raisedF (f : Slots) (n : Nat) (i : Int) : Slots := if hasB n i then raiseF f i.toNat else f
def sunkF (f : Slots) (n : Nat) (i : Int) : Slots := if hasB n i then sinkF f n i.toNat else f

/-- is it a heap from place k on? -/
def heapFrom (f : Slots) (n : Nat) (k : Nat) : Bool := if h : k < n then !(decide ((f k).2 < (f ((k - 1) / 4)).2)) && heapFrom f n (k + 1) else true
termination_by n - k
theorem heapFrom_out {f : Slots} {n k : Nat} (h : ¬ k < n) : heapFrom f n k = true := by rw [heapFrom, dif_neg h]
theorem heapFrom_bad {f : Slots} {n k : Nat} (h : k < n) (hb : (f k).2 < (f ((k - 1) / 4)).2) : heapFrom f n k = false := by rw [heapFrom, dif_pos h]; simp [hb]
theorem heapFrom_good {f : Slots} {n k : Nat} (h : k < n) (hb : ¬ (f k).2 < (f ((k - 1) / 4)).2) : heapFrom f n k = heapFrom f n (k + 1) := by
  rw [heapFrom, dif_pos h]; simp [Int.not_lt.1 hb]
def heapB (f : Slots) (n : Nat) : Bool := heapFrom f n 1 && decide (n ≤ 30)

/-- the place of the first one of that name, from k on; -1 -/
def findFrom (f : Slots) (n : Nat) (id : Int) (k : Nat) : Int := if h : k < n then (if (f k).1 = id then (k : Int) else findFrom f n id (k + 1)) else -1
termination_by n - k
theorem findFrom_out {f : Slots} {n k : Nat} {id : Int} (h : ¬ k < n) : findFrom f n id k = -1 := by rw [findFrom, dif_neg h]
theorem findFrom_here {f : Slots} {n k : Nat} {id : Int} (h : k < n) (he : (f k).1 = id) : findFrom f n id k = k := by rw [findFrom, dif_pos h, if_pos he]
theorem findFrom_next {f : Slots} {n k : Nat} {id : Int} (h : k < n) (he : ¬ (f k).1 = id) : findFrom f n id k = findFrom f n id (k + 1) := by rw [findFrom, dif_pos h, if_neg he]

/-- the slot k taken out, k being one of them -/
def pulledFk (f : Slots) (n k : Nat) : Slots := if k < n - 1 then sinkF (raiseF (putF f k (f (n - 1))) k) (n - 1) k else f

end Go.Proofs.Ytnmaljieaflnmaa
