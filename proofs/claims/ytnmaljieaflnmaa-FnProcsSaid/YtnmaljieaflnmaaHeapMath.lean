/-
  Heaps, plainly, second part: what the sifts make is a heap again, and holds what was there.
-/
import Derived.Test.YtnmaljieaflnmaaHeapPlain
namespace Go.Proofs.Ytnmaljieaflnmaa
set_option linter.unusedVariables false

/-! ### sums over a list's slots: what is there -/
def sumF (φ : Int × Int → Int) (f : Slots) : Nat → Int
  | 0 => 0
  | n + 1 => sumF φ f n + φ (f n)
theorem sumF_congr {φ : Int × Int → Int} {f g : Slots} : ∀ n, (∀ i, i < n → f i = g i) → sumF φ f n = sumF φ g n
  | 0, _ => rfl
  | n + 1, h => by rw [sumF, sumF, sumF_congr n (fun i hi => h i (by omega)), h n (by omega)]
theorem sumF_put (φ : Int × Int → Int) (f : Slots) (s : Int × Int) : ∀ (n i : Nat), i < n → sumF φ (putF f i s) n = sumF φ f n - φ (f i) + φ s
  | 0, i, h => absurd h (Nat.not_lt_zero _)
  | n + 1, i, h => by
    rw [sumF, sumF]
    by_cases e : i = n
    · subst e
      rw [sumF_congr i (f := putF f i s) (g := f) (fun k hk => putF_other f s (by omega)), putF_same]
      omega
    · rw [sumF_put φ f s n i (by omega), putF_other f s (show n ≠ i by omega)]
      omega
theorem sumF_swap (φ : Int × Int → Int) (f : Slots) {n i j : Nat} (hi : i < n) (hj : j < n) : sumF φ (swapF f i j) n = sumF φ f n := by
  unfold swapF
  rw [sumF_put φ _ _ n j hj, sumF_put φ f _ n i hi]
  by_cases e : j = i
  · subst e; rw [putF_same]; omega
  · rw [putF_other f _ e]; omega
theorem sumF_raise (φ : Int × Int → Int) (n : Nat) : ∀ (i : Nat) (f : Slots), i < n → sumF φ (raiseF f i) n = sumF φ f n := by
  intro i
  induction i using Nat.strongRecOn with
  | ind i ih =>
    intro f hi
    cases h : upB f i
    · rw [raiseF_stop h]
    · rw [raiseF_up h]
      have h0 : 0 < i := by simp [upB] at h; exact h.1
      rw [ih ((i - 1) / 4) (by omega) _ (by omega), sumF_swap φ f hi (by omega)]
theorem sumF_sink (φ : Int × Int → Int) (n : Nat) : ∀ (c i : Nat) (f : Slots), n - i ≤ c → i < n → sumF φ (sinkF f n i) n = sumF φ f n := by
  intro c
  induction c with
  | zero => intro i f hc hi; omega
  | succ c ih =>
    intro i f hc hi
    by_cases h : bestF f n i = i
    · rw [sinkF_stop h]
    · rw [sinkF_down hi h]
      have hb := bestF_lt (f := f) hi
      have hg := bestF_ge f n i
      rw [ih _ _ (by omega) hb, sumF_swap φ f hi hb]

/-! ### heaps -/
def okAt (f : Slots) (k : Nat) : Prop := (f ((k - 1) / 4)).2 ≤ (f k).2
def isHeap (f : Slots) (n : Nat) : Prop := ∀ k, 1 ≤ k → k < n → okAt f k
theorem heapFrom_iff (f : Slots) (n : Nat) : ∀ (c k : Nat), n - k ≤ c → (heapFrom f n k = true ↔ ∀ j, k ≤ j → j < n → okAt f j) := by
  intro c
  induction c with
  | zero =>
    intro k hc
    rw [heapFrom_out (by omega)]
    exact ⟨fun _ j h1 h2 => by omega, fun _ => rfl⟩
  | succ c ih =>
    intro k hc
    by_cases hk : k < n
    · by_cases hb : (f k).2 < (f ((k - 1) / 4)).2
      · rw [heapFrom_bad hk hb]
        exact ⟨fun h => by simp at h, fun h => by have := h k (Nat.le_refl _) hk; unfold okAt at this; omega⟩
      · rw [heapFrom_good hk hb, ih (k + 1) (by omega)]
        constructor
        · intro h j h1 h2
          by_cases e : j = k
          · subst e; unfold okAt; omega
          · exact h j (by omega) h2
        · intro h j h1 h2
          exact h j (by omega) h2
    · rw [heapFrom_out hk]
      exact ⟨fun _ j h1 h2 => by omega, fun _ => rfl⟩
theorem heapB_iff {f : Slots} {n : Nat} : heapB f n = true ↔ isHeap f n ∧ n ≤ 30 := by
  rw [heapB, Bool.and_eq_true, heapFrom_iff f n (n - 1) 1 (Nat.le_refl _), decide_eq_true_iff]
  exact Iff.rfl
theorem heap_top {f : Slots} {n : Nat} (h : isHeap f n) : ∀ k, k < n → (f 0).2 ≤ (f k).2 := by
  intro k
  induction k using Nat.strongRecOn with
  | ind k ih =>
    intro hk
    by_cases h0 : k = 0
    · subst h0; exact Int.le_refl _
    · have := h k (by omega) hk
      unfold okAt at this
      exact Int.le_trans (ih ((k - 1) / 4) (by omega) (by omega)) this
theorem heap_congr {f g : Slots} {n : Nat} (h : isHeap f n) (e : ∀ i, i < n → f i = g i) : isHeap g n := by
  intro k h1 h2
  have := h k h1 h2
  unfold okAt at *
  rw [← e k h2, ← e _ (by omega)]
  exact this

/-! ### raising -/
/-- all is well but at i, and what stands under i may stand under i's parent -/
def upInv (f : Slots) (n i : Nat) : Prop := (∀ k, 1 ≤ k → k < n → k ≠ i → okAt f k) ∧ ∀ k, 1 ≤ k → k < n → 1 ≤ i → (k - 1) / 4 = i → (f ((i - 1) / 4)).2 ≤ (f k).2
theorem swap_i (f : Slots) (i j : Nat) (h : i ≠ j) : swapF f i j i = f j := by
  unfold swapF; rw [putF_other _ _ h, putF_same]
theorem swap_j (f : Slots) (i j : Nat) : swapF f i j j = f i := by unfold swapF; rw [putF_same]
theorem swap_k (f : Slots) {i j k : Nat} (h1 : k ≠ i) (h2 : k ≠ j) : swapF f i j k = f k := by
  unfold swapF; rw [putF_other _ _ h2, putF_other _ _ h1]
theorem raise_heap (n : Nat) : ∀ (i : Nat) (f : Slots), i < n → upInv f n i → isHeap (raiseF f i) n := by
  intro i
  induction i using Nat.strongRecOn with
  | ind i ih =>
    intro f hi hu
    cases h : upB f i
    · rw [raiseF_stop h]
      intro k h1 h2
      by_cases e : k = i
      · subst e
        simp [upB] at h
        unfold okAt
        exact h (by omega)
      · exact hu.1 k h1 h2 e
    · rw [raiseF_up h]
      simp only [upB, Bool.and_eq_true, decide_eq_true_iff] at h
      obtain ⟨h0, hlt⟩ := h
      have hp : (i - 1) / 4 < i := by omega
      refine ih ((i - 1) / 4) hp _ (by omega) ⟨?_, ?_⟩
      · intro k h1 h2 hne
        unfold okAt
        by_cases e : k = i
        · subst e
          rw [swap_i f k _ (by omega), swap_j]
          omega
        · rw [swap_k f e hne]
          by_cases e2 : (k - 1) / 4 = i
          · rw [e2, swap_i f i _ (by omega)]
            exact hu.2 k h1 h2 (by omega) e2
          · by_cases e3 : (k - 1) / 4 = (i - 1) / 4
            · rw [e3, swap_j]
              have := hu.1 k h1 h2 e
              unfold okAt at this
              rw [e3] at this
              omega
            · rw [swap_k f e2 e3]
              exact hu.1 k h1 h2 e
      · intro k h1 h2 hq hpar
        have hpp : okAt f ((i - 1) / 4) := hu.1 _ hq (by omega) (by omega)
        unfold okAt at hpp
        have hqq : ((i - 1) / 4 - 1) / 4 ≠ i := by omega
        have hqp : ((i - 1) / 4 - 1) / 4 ≠ (i - 1) / 4 := by omega
        rw [swap_k f hqq hqp]
        by_cases e : k = i
        · subst e
          rw [swap_i f k _ (by omega)]
          exact hpp
        · rw [swap_k f e (by omega)]
          have := hu.1 k h1 h2 e
          unfold okAt at this
          rw [hpar] at this
          omega

/-! ### sinking -/
/-- all is well but under i, and what stands under i may stand under i's parent -/
def downInv (f : Slots) (n i : Nat) : Prop := (∀ k, 1 ≤ k → k < n → (k - 1) / 4 ≠ i → okAt f k) ∧ ∀ k, 1 ≤ k → k < n → 1 ≤ i → (k - 1) / 4 = i → (f ((i - 1) / 4)).2 ≤ (f k).2
theorem bestG_least (f : Slots) (n : Nat) : ∀ (c k b : Nat), (f (bestG f n c k b)).2 ≤ (f b).2 ∧ ∀ j, k ≤ j → j < k + c → j < n → (f (bestG f n c k b)).2 ≤ (f j).2 := by
  intro c
  induction c with
  | zero => intro k b; exact ⟨Int.le_refl _, fun j h1 h2 _ => by omega⟩
  | succ c ih =>
    intro k b
    by_cases hk : k < n
    · rw [bestG_step hk]
      by_cases hlo : (f k).2 < (f b).2
      · rw [if_pos hlo]
        obtain ⟨h1, h2⟩ := ih (k + 1) k
        refine ⟨by omega, fun j a1 a2 a3 => ?_⟩
        by_cases e : j = k
        · subst e; exact h1
        · exact h2 j (by omega) (by omega) a3
      · rw [if_neg hlo]
        obtain ⟨h1, h2⟩ := ih (k + 1) b
        refine ⟨h1, fun j a1 a2 a3 => ?_⟩
        by_cases e : j = k
        · subst e; omega
        · exact h2 j (by omega) (by omega) a3
    · rw [bestG_out hk]
      exact ⟨Int.le_refl _, fun j a1 a2 a3 => by omega⟩
theorem bestG_from (f : Slots) (n b0 : Nat) : ∀ (c k b : Nat), (b = b0 ∨ (4 * b0 + 1 ≤ b ∧ b ≤ 4 * b0 + 4)) → 4 * b0 + 1 ≤ k → k + c ≤ 4 * b0 + 5 → (bestG f n c k b = b0 ∨ (4 * b0 + 1 ≤ bestG f n c k b ∧ bestG f n c k b ≤ 4 * b0 + 4)) := by
  intro c
  induction c with
  | zero => intro k b hb _ _; exact hb
  | succ c ih =>
    intro k b hb h1 h2
    by_cases hk : k < n
    · rw [bestG_step hk]
      exact ih (k + 1) _ (by split <;> omega) (by omega) (by omega)
    · rw [bestG_out hk]; exact hb
theorem bestF_least (f : Slots) (n i : Nat) : (f (bestF f n i)).2 ≤ (f i).2 ∧ ∀ k, 1 ≤ k → k < n → (k - 1) / 4 = i → (f (bestF f n i)).2 ≤ (f k).2 := by
  obtain ⟨h1, h2⟩ := bestG_least f n 4 (4 * i + 1) i
  exact ⟨h1, fun k a1 a2 a3 => h2 k (by omega) (by omega) a2⟩
theorem bestF_child (f : Slots) (n i : Nat) (h : bestF f n i ≠ i) : (bestF f n i - 1) / 4 = i ∧ 1 ≤ bestF f n i := by
  rcases bestG_from f n i 4 (4 * i + 1) i (.inl rfl) (Nat.le_refl _) (by omega) with h1 | h1
  · exact absurd h1 h
  · unfold bestF; omega
theorem sink_heap (n : Nat) : ∀ (c i : Nat) (f : Slots), n - i ≤ c → i < n → downInv f n i → isHeap (sinkF f n i) n := by
  intro c
  induction c with
  | zero => intro i f hc hi; omega
  | succ c ih =>
    intro i f hc hi hd
    obtain ⟨hb1, hb2⟩ := bestF_least f n i
    by_cases h : bestF f n i = i
    · rw [sinkF_stop h]
      rw [h] at hb2
      intro k h1 h2
      by_cases e : (k - 1) / 4 = i
      · unfold okAt; rw [e]; exact hb2 k h1 h2 e
      · exact hd.1 k h1 h2 e
    · rw [sinkF_down hi h]
      have hbn := bestF_lt (f := f) hi
      obtain ⟨hbi, hbp⟩ := bestF_child f n i h
      generalize bestF f n i = b at *
      refine ih b _ (by omega) hbn ⟨?_, ?_⟩
      · intro k h1 h2 hne
        unfold okAt
        by_cases e : k = b
        · subst e
          rw [hbi, swap_i f i k (by omega), swap_j]
          exact hb1
        · by_cases e1 : k = i
          · subst e1
            rw [swap_i f k b (by omega), swap_k f (show (k - 1) / 4 ≠ k by omega) (by omega)]
            exact hd.2 b hbp hbn (by omega) hbi
          · rw [swap_k f e1 e]
            by_cases e2 : (k - 1) / 4 = i
            · rw [e2, swap_i f i b (by omega)]
              exact hb2 k h1 h2 e2
            · rw [swap_k f e2 hne]
              exact hd.1 k h1 h2 e2
      · intro k h1 h2 hq hpar
        rw [hbi, swap_i f i b (by omega), swap_k f (show k ≠ i by omega) (show k ≠ b by omega)]
        have := hd.1 k h1 h2 (by omega)
        unfold okAt at this
        rw [hpar] at this
        exact this

/-! ### both: one slot that is lighter or heavier -/
/-- all is well but at i and under i -/
def near (f : Slots) (n i : Nat) : Prop := (∀ k, 1 ≤ k → k < n → k ≠ i → (k - 1) / 4 ≠ i → okAt f k) ∧ ∀ k, 1 ≤ k → k < n → 1 ≤ i → (k - 1) / 4 = i → (f ((i - 1) / 4)).2 ≤ (f k).2
theorem sink_same {f : Slots} {n i : Nat} (h : isHeap f n) (hi : i < n) : sinkF f n i = f := by
  apply sinkF_stop
  by_cases hb : bestF f n i = i
  · exact hb
  · exfalso
    obtain ⟨h1, h2⟩ := bestF_child f n i hb
    have hlt : ∀ (c k b : Nat), (∀ j, k ≤ j → j < k + c → j < n → (f i).2 ≤ (f j).2) → b = i → bestG f n c k b = i := by
      intro c
      induction c with
      | zero => intro k b _ e; exact e
      | succ c ih =>
        intro k b hh e
        by_cases hk : k < n
        · rw [bestG_step hk, if_neg (by have := hh k (Nat.le_refl _) (by omega) hk; rw [e]; omega)]
          exact ih (k + 1) b (fun j a1 a2 a3 => hh j (by omega) (by omega) a3) e
        · rw [bestG_out hk]; exact e
    apply hb
    refine hlt 4 (4 * i + 1) i (fun j a1 a2 a3 => ?_) rfl
    have := h j (by omega) a3
    unfold okAt at this
    rw [show (j - 1) / 4 = i by omega] at this
    exact this
theorem near_heap {f : Slots} {n i : Nat} (hi : i < n) (h : near f n i) : isHeap (sinkF (raiseF f i) n i) n := by
  cases hu : upB f i
  · rw [raiseF_stop hu]
    refine sink_heap n (n - i) i f (Nat.le_refl _) hi ⟨?_, h.2⟩
    intro k h1 h2 hne
    by_cases e : k = i
    · subst e
      simp [upB] at hu
      unfold okAt
      exact hu (by omega)
    · exact h.1 k h1 h2 e hne
  · have hh : isHeap (raiseF f i) n := by
      refine raise_heap n i f hi ⟨?_, h.2⟩
      simp only [upB, Bool.and_eq_true, decide_eq_true_iff] at hu
      intro k h1 h2 hne
      by_cases e : (k - 1) / 4 = i
      · have := h.2 k h1 h2 (by omega) e
        unfold okAt
        rw [e]
        omega
      · exact h.1 k h1 h2 hne e
    rw [sink_same hh hi]
    exact hh
theorem near_of_heap {f : Slots} {n i : Nat} (h : isHeap f n) (s : Int × Int) (hi : i < n) : near (putF f i s) n i := by
  refine ⟨fun k h1 h2 hne hp => ?_, fun k h1 h2 h0 hp => ?_⟩
  · unfold okAt
    rw [putF_other f s hne, putF_other f s hp]
    exact h k h1 h2
  · rw [putF_other f s (show (i - 1) / 4 ≠ i by omega), putF_other f s (show k ≠ i by omega)]
    have a := h k h1 h2
    have b := h i h0 hi
    unfold okAt at a b
    rw [hp] at a
    omega

/-! ### pushing and pulling -/
theorem push_heap {f : Slots} {n : Nat} (h : isHeap f n) (s : Int × Int) : isHeap (raiseF (putF f n s) n) (n + 1) := by
  refine raise_heap (n + 1) n _ (Nat.lt_succ_self _) ⟨fun k h1 h2 hne => ?_, fun k h1 h2 h0 hp => by omega⟩
  unfold okAt
  rw [putF_other f s hne, putF_other f s (show (k - 1) / 4 ≠ n by omega)]
  exact h k h1 (by omega)
theorem push_sum (φ : Int × Int → Int) (f : Slots) (n : Nat) (s : Int × Int) : sumF φ (raiseF (putF f n s) n) (n + 1) = sumF φ f n + φ s := by
  rw [sumF_raise φ (n + 1) n _ (Nat.lt_succ_self _), sumF, putF_same, sumF_congr n (fun i hi => putF_other f s (by omega))]
theorem pull_heap {f : Slots} {n k : Nat} (h : isHeap f n) (hk : k < n) : isHeap (pulledFk f n k) (n - 1) := by
  unfold pulledFk
  by_cases hl : k < n - 1
  · rw [if_pos hl]
    exact near_heap hl (near_of_heap (fun j h1 h2 => h j h1 (by omega)) _ hl)
  · rw [if_neg hl]
    exact fun j h1 h2 => h j h1 (by omega)
theorem pull_sum (φ : Int × Int → Int) {f : Slots} {n k : Nat} (hk : k < n) : sumF φ (pulledFk f n k) (n - 1) = sumF φ f n - φ (f k) := by
  have hn : sumF φ f n = sumF φ f (n - 1) + φ (f (n - 1)) := by
    obtain ⟨m, rfl⟩ : ∃ m, n = m + 1 := ⟨n - 1, by omega⟩
    rw [sumF]; rfl
  unfold pulledFk
  by_cases hl : k < n - 1
  · rw [if_pos hl, sumF_sink φ (n - 1) (n - 1 - k) k _ (Nat.le_refl _) hl, sumF_raise φ (n - 1) k _ hl, sumF_put φ f _ (n - 1) k hl, hn]
    omega
  · rw [if_neg hl]
    have e : k = n - 1 := by omega
    rw [hn, e]
    omega

/-! ### who is there -/
def isId (x : Int) : Int × Int → Int := fun s => if s.1 = x then 1 else 0
def isLow (y : Int) : Int × Int → Int := fun s => if s.2 < y then 1 else 0
theorem sum_nonneg {φ : Int × Int → Int} (hφ : ∀ s, 0 ≤ φ s) (f : Slots) : ∀ n, 0 ≤ sumF φ f n
  | 0 => Int.le_refl _
  | n + 1 => by have := sum_nonneg hφ f n; have := hφ (f n); rw [sumF]; omega
theorem isId_nonneg (x : Int) (s : Int × Int) : 0 ≤ isId x s := by unfold isId; split <;> omega
theorem isLow_nonneg (x : Int) (s : Int × Int) : 0 ≤ isLow x s := by unfold isLow; split <;> omega
theorem sum_at {φ : Int × Int → Int} (hφ : ∀ s, 0 ≤ φ s) (f : Slots) : ∀ (n k : Nat), k < n → φ (f k) ≤ sumF φ f n
  | 0, k, h => absurd h (Nat.not_lt_zero _)
  | n + 1, k, h => by
    rw [sumF]
    by_cases e : k = n
    · subst e; have := sum_nonneg hφ f k; omega
    · have := sum_at hφ f n k (by omega); have := hφ (f n); omega
theorem sum_zero {φ : Int × Int → Int} (f : Slots) : ∀ n, (∀ k, k < n → φ (f k) = 0) → sumF φ f n = 0
  | 0, _ => rfl
  | n + 1, h => by rw [sumF, sum_zero f n (fun k hk => h k (by omega)), h n (by omega)]; rfl
theorem find_some (f : Slots) (n : Nat) (x : Int) : ∀ (c k : Nat), n - k ≤ c → (∃ j, k ≤ j ∧ j < n ∧ (f j).1 = x) → 0 ≤ findFrom f n x k := by
  intro c
  induction c with
  | zero => intro k hc ⟨j, h1, h2, _⟩; omega
  | succ c ih =>
    intro k hc ⟨j, h1, h2, h3⟩
    have hk : k < n := by omega
    by_cases he : (f k).1 = x
    · rw [findFrom_here hk he]; omega
    · rw [findFrom_next hk he]
      have hjk : j ≠ k := by
        intro e
        rw [e] at h3
        exact he h3
      exact ih (k + 1) (by omega) ⟨j, by omega, h2, h3⟩
theorem find_none (f : Slots) (n : Nat) (x : Int) : ∀ (c k : Nat), n - k ≤ c → (∀ j, k ≤ j → j < n → (f j).1 ≠ x) → findFrom f n x k = -1 := by
  intro c
  induction c with
  | zero => intro k hc _; exact findFrom_out (by omega)
  | succ c ih =>
    intro k hc h
    by_cases hk : k < n
    · rw [findFrom_next hk (h k (Nat.le_refl _) hk)]
      exact ih (k + 1) (by omega) (fun j a1 a2 => h j (by omega) a2)
    · exact findFrom_out hk
theorem there_of_sum (f : Slots) (x : Int) : ∀ n, 1 ≤ sumF (isId x) f n → ∃ j, j < n ∧ (f j).1 = x
  | 0, h => by simp [sumF] at h
  | n + 1, h => by
    by_cases e : (f n).1 = x
    · exact ⟨n, Nat.lt_succ_self _, e⟩
    · rw [sumF, isId, if_neg e] at h
      obtain ⟨j, h1, h2⟩ := there_of_sum f x n (by omega)
      exact ⟨j, by omega, h2⟩
theorem none_of_sum {f : Slots} {x : Int} {n : Nat} (h : sumF (isId x) f n = 0) : ∀ j, j < n → (f j).1 ≠ x := by
  intro j hj e
  have := sum_at (isId_nonneg x) f n j hj
  rw [isId, if_pos e, h] at this
  omega

end Go.Proofs.Ytnmaljieaflnmaa
