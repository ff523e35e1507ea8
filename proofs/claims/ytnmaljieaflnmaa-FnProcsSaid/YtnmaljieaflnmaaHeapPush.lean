/-
  The model's PushedOn and PulledOff (spec, chapter 2).
-/
import Derived.Test.YtnmaljieaflnmaaHeapSift
namespace Go.Proofs.Ytnmaljieaflnmaa
open Go.RowKit Go.Joins
set_option linter.unusedVariables false

def pushedF (f : Slots) (n : Nat) (s : Int × Int) : Slots := if n < 30 then raiseF (putF f n s) n else f
def pushedN (n : Nat) : Nat := if n < 30 then n + 1 else n

/-- a call that makes a new list and says yes or no -/
def NewRowB (n : Nat) (f : Slots) (b : Bool) (w : World) (e : Ending) (w' : World) : Prop := ∃ v, e = .returned (.tuple #[v, .bool b]) ∧ OwnRow w' w.heap.size v n f ∧ Below w.heap.size w w'

set_option maxRecDepth 100000 in
set_option maxHeartbeats 1000000 in
theorem spPushed_in {v : Value} {n : Nat} {f : Slots} (a b : Int) {w : World} (hn : n < 30) (h : RowAt w v n f) :
    Calls Try.prog 114 #[v, .agg #[.int .i64 a, .int .i64 b]] w (NewRowB (n + 1) (raiseF (putF f n (a, b)) n) true w) := by
  have HR := Lib.hid h
  obtain ⟨va, vc, hv⟩ := h.form
  clear h
  have hn2 : (n : Int) < 30 := by omega
  subst hv
  go_enter Try.func114, Try.ntmps114
  go_wp2_with fail
  have c0 : (w.alloc (.cells #[.int .i64 a, .int .i64 b] 35)).drew.cell? ⟨w.heap.size, 0, none⟩ = some (.int .i64 a) := cell_of_block (heap_alloc_new w _) 0
  have c1 : (w.alloc (.cells #[.int .i64 a, .int .i64 b] 35)).drew.cell? ⟨w.heap.size, 1, none⟩ = some (.int .i64 b) := cell_of_block (heap_alloc_new w _) 1
  have kb := ((Below.refl w.heap.size w).alloc (Nat.le_refl _) (.cells #[.int .i64 a, .int .i64 b] 35)).drew
  have hs0 : w.heap.size < (w.alloc (.cells #[.int .i64 a, .int .i64 b] 35)).drew.heap.size := by simp
  have d0 : ((w.alloc (.cells #[.int .i64 a, .int .i64 b] 35)).alloc (.cells #[.int .i64 a, .int .i64 b] 35)).drew.cell? ⟨w.heap.size, 0, none⟩ = some (.int .i64 a) := (World.cell?_alloc_lt (w.alloc (.cells #[.int .i64 a, .int .i64 b] 35)) (.cells #[.int .i64 a, .int .i64 b] 35) ⟨w.heap.size, 0, none⟩ hs0).trans c0
  have d1 : ((w.alloc (.cells #[.int .i64 a, .int .i64 b] 35)).alloc (.cells #[.int .i64 a, .int .i64 b] 35)).drew.cell? ⟨w.heap.size, 1, none⟩ = some (.int .i64 b) := (World.cell?_alloc_lt (w.alloc (.cells #[.int .i64 a, .int .i64 b] 35)) (.cells #[.int .i64 a, .int .i64 b] 35) ⟨w.heap.size, 1, none⟩ hs0).trans c1
  have ds : w.heap.size < ((w.alloc (.cells #[.int .i64 a, .int .i64 b] 35)).alloc (.cells #[.int .i64 a, .int .i64 b] 35)).drew.heap.size := by simp; omega
  have kd := (((Below.refl w.heap.size w).alloc (Nat.le_refl _) (.cells #[.int .i64 a, .int .i64 b] 35)).alloc (by simp) (.cells #[.int .i64 a, .int .i64 b] 35)).drew
  have dr : RowAt ((w.alloc (.cells #[.int .i64 a, .int .i64 b] 35)).alloc (.cells #[.int .i64 a, .int .i64 b] 35)).drew (.slice (some ⟨w.heap.size + 1, 0, none⟩) 1 1) 1 (fun _ => (a, b)) := by
    have := one_row (w.alloc (.cells #[.int .i64 a, .int .i64 b] 35)) a b
    rw [show (w.alloc (.cells #[.int .i64 a, .int .i64 b] 35)).heap.size = w.heap.size + 1 by simp] at this
    exact this
  go_region_held3 (fun w' => w'.cell? ⟨w.heap.size, 0, none⟩ = some (.int .i64 a) ∧ w'.cell? ⟨w.heap.size, 1, none⟩ = some (.int .i64 b))
    (first | exact ⟨c0, c1⟩ | exact ⟨d0, d1⟩ | exact ⟨cA0, cA1⟩ | go_keep)
    (first
      | (go_at_call 128; refine (l2Copy_any (by omega) (HR.out.below kb)).mono ?_; rintro e w1 ⟨v1, rfl, hO, hb1⟩
         replace c0 := (hb1.cell (p := ⟨w.heap.size, 0, none⟩) hs0).trans c0; replace c1 := (hb1.cell (p := ⟨w.heap.size, 1, none⟩) hs0).trans c1
         replace kb := kb.trans (hb1.mono (Nat.le_of_lt hs0)); have hsA := Nat.lt_of_lt_of_le hs0 hb1.size; have hBA := Nat.le_trans hb1.size (show w1.heap.size ≤ (w1.alloc (.cells #[.int .i64 a, .int .i64 b] 35)).heap.size by simp)
         have cA0 := (World.cell?_alloc_lt w1 (.cells #[.int .i64 a, .int .i64 b] 35) ⟨w.heap.size, 0, none⟩ hsA).trans c0; have cA1 := (World.cell?_alloc_lt w1 (.cells #[.int .i64 a, .int .i64 b] 35) ⟨w.heap.size, 1, none⟩ hsA).trans c1
         have kA := kb.alloc (Nat.le_of_lt hsA) (.cells #[.int .i64 a, .int .i64 b] 35); have hOA := hO.alloc (.cells #[.int .i64 a, .int .i64 b] 35); have hsrcA := one_row w1 a b; clear d0 d1 ds kd dr)
      | (go_at_call 128; refine (l2Copy_any (by omega) (HR.out.below kd)).mono ?_; rintro e w1 ⟨v1, rfl, hO, hb1⟩
         replace d0 := (hb1.cell (p := ⟨w.heap.size, 0, none⟩) ds).trans d0; replace d1 := (hb1.cell (p := ⟨w.heap.size, 1, none⟩) ds).trans d1
         replace kd := kd.trans (hb1.mono (Nat.le_of_lt ds)); have hsrcD := dr.below hb1; have hBD := hb1.size)
      | (refine step_append_slots rfl (.tmp 12) (.tmp 14) rfl _ v1 n f rfl (row_of_ownrow hOA) _ 1 (fun _ => (a, b)) rfl hsrcA (by omega) hBA ?_; intro v2 w2 hown2 hg2 hat2
         have hb2 := hOA.below_own hg2 hBA; have c0' := (hb2.cell (p := ⟨w.heap.size, 0, none⟩) hs0).trans cA0; have c1' := (hb2.cell (p := ⟨w.heap.size, 1, none⟩) hs0).trans cA1; clear c0 c1
         rw [cellsF_push] at hown2; have hO2 := own_of_row hown2; have k2 := kA.trans (hb2.mono (Nat.le_of_lt hs0)); have c0 := c0'; have c1 := c1'; clear hOA hsrcA kA kb cA0 cA1)
      | (refine step_append_slots rfl (.tmp 12) (.tmp 14) rfl _ v1 n f rfl (row_of_ownrow hO) _ 1 (fun _ => (a, b)) rfl hsrcD (by omega) hBD ?_; intro v2 w2 hown2 hg2 hat2
         have hb2 := hO.below_own hg2 hBD; have c0' := (hb2.cell (p := ⟨w.heap.size, 0, none⟩) ds).trans d0; have c1' := (hb2.cell (p := ⟨w.heap.size, 1, none⟩) ds).trans d1; clear c0 c1
         rw [cellsF_push] at hown2; have hO2 := own_of_row hown2; have k2 := kd.trans (hb2.mono (Nat.le_of_lt ds)); have c0 := c0'; have c1 := c1'; clear hO hsrcD kd kb d0 d1)
      | (go_at_call 129; refine (spRaised_any _ (by omega) hO2.row).mono ?_; rintro e w3 ⟨v3, rfl, hO3, hb3⟩; have hl2 := World.block_lt_of_cell? w2 _ c0; replace c0 := (hb3.cell (p := ⟨w.heap.size, 0, none⟩) hl2).trans c0; replace c1 := (hb3.cell (p := ⟨w.heap.size, 1, none⟩) hl2).trans c1; have k3 := k2.trans (hb3.mono k2.size); have hO4 := hO3.mono k2.size))
  all_goals
    clear HR
    go_wp2
    go_ret2
    exact ⟨v3, rfl, by rw [raisedF_has (hasB_iff.2 ⟨by omega, by omega⟩), Int.toNat_natCast] at hO4; exact hO4, k3⟩

set_option maxHeartbeats 400000 in
theorem spPushed_out {v : Value} {n : Nat} {f : Slots} (a b : Int) {w : World} (hn : 30 ≤ n) (hn1 : n ≤ 1048576) (h : RowAt w v n f) :
    Calls Try.prog 114 #[v, .agg #[.int .i64 a, .int .i64 b]] w (NewRowB n f false w) := by
  have HR := Lib.hid h
  obtain ⟨va, vc, hv⟩ := h.form
  clear h
  have hn2 : (30 : Int) ≤ (n : Int) := by omega
  subst hv
  have kb := (Below.refl w.heap.size w).alloc (Nat.le_refl _) (.cells #[.int .i64 a, .int .i64 b] 35)
  go_enter Try.func114, Try.ntmps114
  go_wp2_with fail
  go_at_call 128; refine (l2Copy_any hn1 (HR.out.below kb)).mono ?_; rintro e w1 ⟨v1, rfl, hO, hb1⟩
  have k1 := kb.trans (hb1.mono kb.size)
  have hO1 := hO.mono kb.size
  clear HR hO hb1 kb
  go_wp2
  go_ret2
  exact ⟨v1, rfl, hO1, k1⟩

theorem spPushed_any {v : Value} {n : Nat} {f : Slots} (a b : Int) {w : World} (hn : n ≤ 1048576) (h : RowAt w v n f) :
    Calls Try.prog 114 #[v, .agg #[.int .i64 a, .int .i64 b]] w (NewRowB (pushedN n) (pushedF f n (a, b)) (decide (n < 30)) w) := by
  by_cases h30 : n < 30
  · rw [pushedN, if_pos h30, pushedF, if_pos h30, decide_eq_true h30]
    exact spPushed_in a b h30 h
  · rw [pushedN, if_neg h30, pushedF, if_neg h30, decide_eq_false h30]
    exact spPushed_out a b (by omega) hn h

/-! ### PulledOff -/
def pulledF (f : Slots) (n : Nat) (i : Int) : Slots :=
  if hasB n i then (if i < (n : Int) - 1 then sunkF (raisedF (putF f i.toNat (f (n - 1))) (n - 1) i) (n - 1) i else f) else f
def pulledN (n : Nat) (i : Int) : Nat := if hasB n i then n - 1 else n
def pulledS (f : Slots) (n : Nat) (i : Int) : Int × Int := if hasB n i then f i.toNat else (0, 0)

theorem pulledF_mid {f : Slots} {n k : Nat} (h : k < n - 1) : pulledF f n (k : Int) = sunkF (raisedF (putF f k (f (n - 1))) (n - 1) k) (n - 1) k := by
  rw [pulledF, if_pos (hasB_iff.2 ⟨by omega, by omega⟩), if_pos (by omega), Int.toNat_natCast]
theorem pulledF_last {f : Slots} {n k : Nat} (hk : k < n) (h : ¬ k < n - 1) : pulledF f n (k : Int) = f := by
  rw [pulledF, if_pos (hasB_iff.2 ⟨by omega, by omega⟩), if_neg (by omega)]
/-- a call that makes a new list, hands a slot back and says yes or no -/
def NewRowS (n : Nat) (f : Slots) (s : Int × Int) (b : Bool) (w : World) (e : Ending) (w' : World) : Prop := ∃ v, e = .returned (.tuple #[v, .agg #[.int .i64 s.1, .int .i64 s.2], .bool b]) ∧ OwnRow w' w.heap.size v n f ∧ Below w.heap.size w w'

end Go.Proofs.Ytnmaljieaflnmaa
