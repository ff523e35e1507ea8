/-
  The model's PushedOn and PulledOff (spec, chapter 2).
-/
import Derived.Test.YtegmlabiodikpaaHeapSift
namespace Go.Proofs.Ytegmlabiodikpaa
open Go.RowKit Go.Joins
set_option linter.unusedVariables false

def pushedF (f : Slots) (n : Nat) (s : Int × Int) : Slots := if n < 30 then raiseF (putF f n s) n else f
def pushedN (n : Nat) : Nat := if n < 30 then n + 1 else n

/-- a call that makes a new list and says yes or no -/
def NewRowB (n : Nat) (f : Slots) (b : Bool) (w : World) (e : Ending) (w' : World) : Prop := ∃ v, e = .returned (.tuple #[v, .bool b]) ∧ OwnRow w' w.heap.size v n f ∧ Below w.heap.size w w'

set_option maxHeartbeats 1000000 in
theorem spPushed_in {v : Value} {n : Nat} {f : Slots} (a b : Int) {w : World} (hn : n < 30) (h : RowAt w v n f) :
    Calls Try.prog 23 #[v, .agg #[.int .i64 a, .int .i64 b]] w (NewRowB (n + 1) (raiseF (putF f n (a, b)) n) true w) := by
  have HR := Lib.hid h
  obtain ⟨va, vc, hv⟩ := h.form
  clear h
  have hn2 : (n : Int) < 30 := by omega
  subst hv
  go_enter Try.func23, Try.ntmps23
  go_wp2_with fail
  have c0 : (w.alloc (.cells #[.int .i64 a, .int .i64 b] 30)).drew.cell? ⟨w.heap.size, 0, none⟩ = some (.int .i64 a) := cell_of_block (heap_alloc_new w _) 0
  have c1 : (w.alloc (.cells #[.int .i64 a, .int .i64 b] 30)).drew.cell? ⟨w.heap.size, 1, none⟩ = some (.int .i64 b) := cell_of_block (heap_alloc_new w _) 1
  have kb := ((Below.refl w.heap.size w).alloc (Nat.le_refl _) (.cells #[.int .i64 a, .int .i64 b] 30)).drew
  have hs0 : w.heap.size < (w.alloc (.cells #[.int .i64 a, .int .i64 b] 30)).drew.heap.size := by simp
  have d0 : ((w.alloc (.cells #[.int .i64 a, .int .i64 b] 30)).alloc (.cells #[.int .i64 a, .int .i64 b] 30)).drew.cell? ⟨w.heap.size, 0, none⟩ = some (.int .i64 a) := (World.cell?_alloc_lt (w.alloc (.cells #[.int .i64 a, .int .i64 b] 30)) (.cells #[.int .i64 a, .int .i64 b] 30) ⟨w.heap.size, 0, none⟩ hs0).trans c0
  have d1 : ((w.alloc (.cells #[.int .i64 a, .int .i64 b] 30)).alloc (.cells #[.int .i64 a, .int .i64 b] 30)).drew.cell? ⟨w.heap.size, 1, none⟩ = some (.int .i64 b) := (World.cell?_alloc_lt (w.alloc (.cells #[.int .i64 a, .int .i64 b] 30)) (.cells #[.int .i64 a, .int .i64 b] 30) ⟨w.heap.size, 1, none⟩ hs0).trans c1
  have ds : w.heap.size < ((w.alloc (.cells #[.int .i64 a, .int .i64 b] 30)).alloc (.cells #[.int .i64 a, .int .i64 b] 30)).drew.heap.size := by simp; omega
  have kd := (((Below.refl w.heap.size w).alloc (Nat.le_refl _) (.cells #[.int .i64 a, .int .i64 b] 30)).alloc (by simp) (.cells #[.int .i64 a, .int .i64 b] 30)).drew
  have dr : RowAt ((w.alloc (.cells #[.int .i64 a, .int .i64 b] 30)).alloc (.cells #[.int .i64 a, .int .i64 b] 30)).drew (.slice (some ⟨w.heap.size + 1, 0, none⟩) 1 1) 1 (fun _ => (a, b)) := by
    have := one_row (w.alloc (.cells #[.int .i64 a, .int .i64 b] 30)) a b
    rw [show (w.alloc (.cells #[.int .i64 a, .int .i64 b] 30)).heap.size = w.heap.size + 1 by simp] at this
    exact this
  go_region_held3 (fun w' => w'.cell? ⟨w.heap.size, 0, none⟩ = some (.int .i64 a) ∧ w'.cell? ⟨w.heap.size, 1, none⟩ = some (.int .i64 b))
    (first | exact ⟨c0, c1⟩ | exact ⟨d0, d1⟩ | exact ⟨cA0, cA1⟩ | go_keep)
    (first
      | (go_at_call 53; refine (l2Copy_any (by omega) (HR.out.below kb)).mono ?_; rintro e w1 ⟨v1, rfl, hO, hb1⟩
         replace c0 := (hb1.cell (p := ⟨w.heap.size, 0, none⟩) hs0).trans c0; replace c1 := (hb1.cell (p := ⟨w.heap.size, 1, none⟩) hs0).trans c1
         replace kb := kb.trans (hb1.mono (Nat.le_of_lt hs0)); have hsA := Nat.lt_of_lt_of_le hs0 hb1.size; have hBA := Nat.le_trans hb1.size (show w1.heap.size ≤ (w1.alloc (.cells #[.int .i64 a, .int .i64 b] 30)).heap.size by simp)
         have cA0 := (World.cell?_alloc_lt w1 (.cells #[.int .i64 a, .int .i64 b] 30) ⟨w.heap.size, 0, none⟩ hsA).trans c0; have cA1 := (World.cell?_alloc_lt w1 (.cells #[.int .i64 a, .int .i64 b] 30) ⟨w.heap.size, 1, none⟩ hsA).trans c1
         have kA := kb.alloc (Nat.le_of_lt hsA) (.cells #[.int .i64 a, .int .i64 b] 30); have hOA := hO.alloc (.cells #[.int .i64 a, .int .i64 b] 30); have hsrcA := one_row w1 a b; clear d0 d1 ds kd dr)
      | (go_at_call 53; refine (l2Copy_any (by omega) (HR.out.below kd)).mono ?_; rintro e w1 ⟨v1, rfl, hO, hb1⟩
         replace d0 := (hb1.cell (p := ⟨w.heap.size, 0, none⟩) ds).trans d0; replace d1 := (hb1.cell (p := ⟨w.heap.size, 1, none⟩) ds).trans d1
         replace kd := kd.trans (hb1.mono (Nat.le_of_lt ds)); have hsrcD := dr.below hb1; have hBD := hb1.size)
      | (refine step_append_slots rfl (.tmp 12) (.tmp 14) rfl _ v1 n f rfl (row_of_ownrow hOA) _ 1 (fun _ => (a, b)) rfl hsrcA (by omega) hBA ?_; intro v2 w2 hown2 hg2 hat2
         have hb2 := hOA.below_own hg2 hBA; have c0' := (hb2.cell (p := ⟨w.heap.size, 0, none⟩) hs0).trans cA0; have c1' := (hb2.cell (p := ⟨w.heap.size, 1, none⟩) hs0).trans cA1; clear c0 c1
         rw [cellsF_push] at hown2; have hO2 := own_of_row hown2; have k2 := kA.trans (hb2.mono (Nat.le_of_lt hs0)); have c0 := c0'; have c1 := c1'; clear hOA hsrcA kA kb cA0 cA1)
      | (refine step_append_slots rfl (.tmp 12) (.tmp 14) rfl _ v1 n f rfl (row_of_ownrow hO) _ 1 (fun _ => (a, b)) rfl hsrcD (by omega) hBD ?_; intro v2 w2 hown2 hg2 hat2
         have hb2 := hO.below_own hg2 hBD; have c0' := (hb2.cell (p := ⟨w.heap.size, 0, none⟩) ds).trans d0; have c1' := (hb2.cell (p := ⟨w.heap.size, 1, none⟩) ds).trans d1; clear c0 c1
         rw [cellsF_push] at hown2; have hO2 := own_of_row hown2; have k2 := kd.trans (hb2.mono (Nat.le_of_lt ds)); have c0 := c0'; have c1 := c1'; clear hO hsrcD kd kb d0 d1)
      | (go_at_call 28; refine (spRaised_any _ (by omega) hO2.row).mono ?_; rintro e w3 ⟨v3, rfl, hO3, hb3⟩; have hl2 := World.block_lt_of_cell? w2 _ c0; replace c0 := (hb3.cell (p := ⟨w.heap.size, 0, none⟩) hl2).trans c0; replace c1 := (hb3.cell (p := ⟨w.heap.size, 1, none⟩) hl2).trans c1; have k3 := k2.trans (hb3.mono k2.size); have hO4 := hO3.mono k2.size))
  all_goals
    clear HR
    go_wp2
    go_ret2
    exact ⟨v3, rfl, by rw [raisedF_has (hasB_iff.2 ⟨by omega, by omega⟩), Int.toNat_natCast] at hO4; exact hO4, k3⟩

set_option maxHeartbeats 400000 in
theorem spPushed_out {v : Value} {n : Nat} {f : Slots} (a b : Int) {w : World} (hn : 30 ≤ n) (hn1 : n ≤ 1048576) (h : RowAt w v n f) :
    Calls Try.prog 23 #[v, .agg #[.int .i64 a, .int .i64 b]] w (NewRowB n f false w) := by
  have HR := Lib.hid h
  obtain ⟨va, vc, hv⟩ := h.form
  clear h
  have hn2 : (30 : Int) ≤ (n : Int) := by omega
  subst hv
  have kb := (Below.refl w.heap.size w).alloc (Nat.le_refl _) (.cells #[.int .i64 a, .int .i64 b] 30)
  go_enter Try.func23, Try.ntmps23
  go_wp2_with fail
  go_at_call 53; refine (l2Copy_any hn1 (HR.out.below kb)).mono ?_; rintro e w1 ⟨v1, rfl, hO, hb1⟩
  have k1 := kb.trans (hb1.mono kb.size)
  have hO1 := hO.mono kb.size
  clear HR hO hb1 kb
  go_wp2
  go_ret2
  exact ⟨v1, rfl, hO1, k1⟩

theorem spPushed_any {v : Value} {n : Nat} {f : Slots} (a b : Int) {w : World} (hn : n ≤ 1048576) (h : RowAt w v n f) :
    Calls Try.prog 23 #[v, .agg #[.int .i64 a, .int .i64 b]] w (NewRowB (pushedN n) (pushedF f n (a, b)) (decide (n < 30)) w) := by
  by_cases h30 : n < 30
  · rw [pushedN, if_pos h30, pushedF, if_pos h30, decide_eq_true h30]
    exact spPushed_in a b h30 h
  · rw [pushedN, if_neg h30, pushedF, if_neg h30, decide_eq_false h30]
    exact spPushed_out a b (by omega) hn h

/-! ### PulledOff -/
def pulledF (f : Slots) (n : Nat) (i : Int) : Slots :=
  if hasB n i then (if i < (n : Int) - 1 then sunkF (raisedF (putF f i.toNat (f (n - 1))) (n - 1) i) (n - 1) i else f) else f
def pulledN (n : Nat) (i : Int) : Nat := if hasB n i then n - 1 else n
def pulledS (f : Slots) (n : Nat) (i : Int) : Int × Int := if hasB n i then f i.toNat else (0, 0)

theorem pulledF_mid {f : Slots} {n k : Nat} (h : k < n - 1) : pulledF f n (k : Int) = sunkF (raisedF (putF f k (f (n - 1))) (n - 1) k) (n - 1) k := by
  rw [pulledF, if_pos (hasB_iff.2 ⟨by omega, by omega⟩), if_pos (by omega), Int.toNat_natCast]
theorem pulledF_last {f : Slots} {n k : Nat} (hk : k < n) (h : ¬ k < n - 1) : pulledF f n (k : Int) = f := by
  rw [pulledF, if_pos (hasB_iff.2 ⟨by omega, by omega⟩), if_neg (by omega)]
/-- a call that makes a new list, hands a slot back and says yes or no -/
def NewRowS (n : Nat) (f : Slots) (s : Int × Int) (b : Bool) (w : World) (e : Ending) (w' : World) : Prop := ∃ v, e = .returned (.tuple #[v, .agg #[.int .i64 s.1, .int .i64 s.2], .bool b]) ∧ OwnRow w' w.heap.size v n f ∧ Below w.heap.size w w'

set_option maxHeartbeats 400000 in
theorem spPulled_out {v : Value} {n : Nat} {f : Slots} (i : Int) {w : World} (hn : n ≤ 1048576) (hi : hasB n i = false) (h : RowAt w v n f) :
    Calls Try.prog 25 #[v, .int .i64 i] w (NewRowS n f (0, 0) false w) := by
  have HR := Lib.hid h
  clear h
  have kb := (Below.refl w.heap.size w).alloc (Nat.le_refl _) (.cells #[.int .i64 0, .int .i64 0] 30)
  have hs0 : w.heap.size < (w.alloc (.cells #[.int .i64 0, .int .i64 0] 30)).heap.size := by simp
  have hB := heap_alloc_new w (.cells #[.int .i64 0, .int .i64 0] 30)
  have HB := Lib.hid hB
  clear hB
  go_enter Try.func25, Try.ntmps25
  go_wp2_with fail
  go_at_call 53; refine (l2Copy_any hn (HR.out.below kb)).mono ?_; rintro e w1 ⟨v1, rfl, hO, hb1⟩
  have k1 := kb.trans (hb1.mono kb.size)
  go_wp2_with fail
  go_at_call 55; refine (l2Has_any f i hn (HR.out.below k1)).mono ?_; rintro e w' ⟨rfl, rfl⟩
  have hB1 := (hb1.block w.heap.size hs0).trans HB.out
  have c0 : w1.cell? ⟨w.heap.size, 0, none⟩ = some (.int .i64 0) := cell_of_block hB1 0
  have c1 : w1.cell? ⟨w.heap.size, 1, none⟩ = some (.int .i64 0) := cell_of_block hB1 1
  have f0 := unfrozen_of_block hB1 0
  have f1 := unfrozen_of_block hB1 1
  have hO1 := ((hO.set hs0 0 (.int .i64 0)).set hs0 1 (.int .i64 0)).mono kb.size
  clear hB1 HR hO hb1 kb
  go_wp2
  exact bodyPost_ret (v := .tuple #[v1, .agg #[.int .i64 0, .int .i64 0], .bool false]) (by simp [results, Try.results25, go_sem, c0, c1]) rfl
    ⟨v1, rfl, hO1, (k1.setCell (p := ⟨w.heap.size, 0, none⟩) (Nat.le_refl _) _).setCell (p := ⟨w.heap.size, 1, none⟩) (Nat.le_refl _) _⟩

set_option maxHeartbeats 1000000 in
theorem spPulled_in {v : Value} {n : Nat} {f : Slots} (k : Nat) {w : World} (hn : n ≤ 1048576) (hk : k < n) (h : RowAt w v n f) :
    Calls Try.prog 25 #[v, .int .i64 (k : Int)] w (NewRowS (n - 1) (pulledF f n k) (f k) true w) := by
  have HR := Lib.hid h
  clear h
  have hi : hasB n (k : Int) = true := hasB_iff.2 ⟨by omega, by omega⟩
  have kb := (Below.refl w.heap.size w).alloc (Nat.le_refl _) (.cells #[.int .i64 0, .int .i64 0] 30)
  have hs0 : w.heap.size < (w.alloc (.cells #[.int .i64 0, .int .i64 0] 30)).heap.size := by simp
  have HB := Lib.hid (heap_alloc_new w (.cells #[.int .i64 0, .int .i64 0] 30))
  go_enter Try.func25, Try.ntmps25
  go_wp2_with fail
  go_at_call 53; refine (l2Copy_any hn (HR.out.below kb)).mono ?_; rintro e w1 ⟨v1, rfl, hO, hb1⟩
  have k1 := kb.trans (hb1.mono kb.size)
  go_wp2_with fail
  go_at_call 55; refine (l2Has_any f _ hn (HR.out.below k1)).mono ?_; rintro e w' ⟨rfl, rfl⟩
  rcases hO with ⟨rfl, _⟩ | ⟨g, cap, rfl, hO⟩
  · omega
  have HB1 := Lib.hid ((hb1.block w.heap.size hs0).trans HB.out)
  have hs1 := Nat.lt_of_lt_of_le hs0 hb1.size
  have hg0 : w.heap.size < g := Nat.lt_of_lt_of_le hs0 hO.1
  clear HR HB hb1 kb hs0
  have hcap := hO.2.1
  have hcap1 : n ≤ cap + 1 := by omega
  obtain ⟨c0, c1⟩ := hO.cells hk
  obtain ⟨p0, p1⟩ := hO.cells (show n - 1 < n by omega)
  have hlt := hO.lt
  have fr := hO.free
  have f0 := fr (k * 2)
  have f1 := fr (k * 2 + 1)
  have e1 : IntKind.i64.wrap ((n : Int) - 1) = ((n - 1 : Nat) : Int) := by rw [IntKind.wrap_i64]; omega
  have b0 : (k : Int) < (n : Int) := by omega
  have b1 : ((n : Int) - 1) < (n : Int) := by omega
  have b2 : (0 : Int) ≤ (n : Int) - 1 := by omega
  clear fr
  have hOW := (hO.put hk (f (n - 1)).1 (f (n - 1)).2).alloc (.cells #[.int .i64 (f k).1, .int .i64 (f k).2] 30)
  have hOc := hOW.cut (show n - 1 ≤ n by omega)
  have kW : Below w.heap.size w (((w1.setCell ⟨g, k * 2, none⟩ (.int .i64 (f (n - 1)).1)).setCell ⟨g, k * 2 + 1, none⟩ (.int .i64 (f (n - 1)).2)).alloc (.cells #[.int .i64 (f k).1, .int .i64 (f k).2] 30)) := ((k1.setCell (p := ⟨g, k * 2, none⟩) (Nat.le_of_lt hg0) _).setCell (p := ⟨g, k * 2 + 1, none⟩) (Nat.le_of_lt hg0) _).alloc (by simpa using k1.size) _
  have hRW := Lib.hid (alloc_block (.cells #[.int .i64 (f k).1, .int .i64 (f k).2] 30) (((Below.heap_setCell _ ⟨g, k * 2 + 1, none⟩ (.int .i64 (f (n - 1)).2) w.heap.size (Nat.ne_of_lt hg0)).trans ((Below.heap_setCell w1 ⟨g, k * 2, none⟩ (.int .i64 (f (n - 1)).1) w.heap.size (Nat.ne_of_lt hg0)).trans HB1.out))))
  have hXW : (((w1.setCell ⟨g, k * 2, none⟩ (.int .i64 (f (n - 1)).1)).setCell ⟨g, k * 2 + 1, none⟩ (.int .i64 (f (n - 1)).2)).alloc (.cells #[.int .i64 (f k).1, .int .i64 (f k).2] 30)).heap[w1.heap.size]? = some (.cells #[.int .i64 (f k).1, .int .i64 (f k).2] 30 (0, 0)) := by
    have := heap_alloc_new ((w1.setCell ⟨g, k * 2, none⟩ (.int .i64 (f (n - 1)).1)).setCell ⟨g, k * 2 + 1, none⟩ (.int .i64 (f (n - 1)).2)) (.cells #[.int .i64 (f k).1, .int .i64 (f k).2] 30)
    simpa using this
  have HXW := Lib.hid hXW
  have hsX : w1.heap.size < (((w1.setCell ⟨g, k * 2, none⟩ (.int .i64 (f (n - 1)).1)).setCell ⟨g, k * 2 + 1, none⟩ (.int .i64 (f (n - 1)).2)).alloc (.cells #[.int .i64 (f k).1, .int .i64 (f k).2] 30)).heap.size := by simp
  clear hOW hXW HB1
  by_cases hlast : k < n - 1
  · have hq : (k : Int) < ((n - 1 : Nat) : Int) := by omega
    go_wp2_with fail
    go_at_call 28; refine (spRaised_any (k : Int) (show n - 1 ≤ 1048576 by omega) hOc.row).mono ?_; rintro e w3 ⟨v3, rfl, hO3, hb3⟩
    have HR3 := Lib.hid (b_block hb3 hRW.out (Nat.lt_trans hs1 hsX))
    have HX3 := Lib.hid (b_block hb3 HXW.out hsX)
    have k3 := kW.trans (hb3.mono kW.size)
    have hs3 := Nat.lt_of_lt_of_le hsX hb3.size
    clear hOc kW hRW HXW hsX hb3 c0 c1 p0 p1 f0 f1 hlt hO k1
    go_wp2_with fail
    go_at_call 29; refine (spSunk_any (k : Int) (show n - 1 ≤ 1048576 by omega) hO3.row).mono ?_; rintro e w4 ⟨v4, rfl, hO4, hb4⟩
    have hR4 := b_block hb4 HR3.out (Nat.lt_trans hs1 hs3)
    have hX4 := b_block hb4 HX3.out hs3
    have k4 := k3.trans (hb4.mono k3.size)
    obtain ⟨r0, r1⟩ : w4.cell? ⟨w.heap.size, 0, none⟩ = some (.int .i64 0) ∧ w4.cell? ⟨w.heap.size, 1, none⟩ = some (.int .i64 0) := ⟨cell_of_block hR4 0, cell_of_block hR4 1⟩
    have g0 := unfrozen_of_block hR4 0
    have g1 := unfrozen_of_block hR4 1
    obtain ⟨x0, x1⟩ : w4.cell? ⟨w1.heap.size, 0, none⟩ = some (.int .i64 (f k).1) ∧ w4.cell? ⟨w1.heap.size, 1, none⟩ = some (.int .i64 (f k).2) := ⟨cell_of_block hX4 0, cell_of_block hX4 1⟩
    have hO5 := ((hO4.set (Nat.lt_trans hs1 hs3) 0 (.int .i64 (f k).1)).set (Nat.lt_trans hs1 hs3) 1 (.int .i64 (f k).2)).mono k3.size
    clear HR3 HX3 hb4 hO3 hO4 k3 hR4 hX4
    go_wp2
    go_region
    go_wp2
    exact bodyPost_ret (v := .tuple #[v4, .agg #[.int .i64 (f k).1, .int .i64 (f k).2], .bool true]) (by simp [results, Try.results25, go_sem, r0, r1]) rfl
      ⟨v4, rfl, by rw [pulledF_mid hlast]; exact hO5, ((k4.setCell (p := ⟨w.heap.size, 0, none⟩) (Nat.le_refl _) _).setCell (p := ⟨w.heap.size, 1, none⟩) (Nat.le_refl _) _).drew⟩
  · have hq : ¬ (k : Int) < ((n - 1 : Nat) : Int) := by omega
    obtain ⟨r0, r1⟩ : (((w1.setCell ⟨g, k * 2, none⟩ (.int .i64 (f (n - 1)).1)).setCell ⟨g, k * 2 + 1, none⟩ (.int .i64 (f (n - 1)).2)).alloc (.cells #[.int .i64 (f k).1, .int .i64 (f k).2] 30)).cell? ⟨w.heap.size, 0, none⟩ = some (.int .i64 0) ∧ (((w1.setCell ⟨g, k * 2, none⟩ (.int .i64 (f (n - 1)).1)).setCell ⟨g, k * 2 + 1, none⟩ (.int .i64 (f (n - 1)).2)).alloc (.cells #[.int .i64 (f k).1, .int .i64 (f k).2] 30)).cell? ⟨w.heap.size, 1, none⟩ = some (.int .i64 0) := ⟨cell_of_block hRW.out 0, cell_of_block hRW.out 1⟩
    have g0 := unfrozen_of_block hRW.out 0
    have g1 := unfrozen_of_block hRW.out 1
    obtain ⟨x0, x1⟩ : (((w1.setCell ⟨g, k * 2, none⟩ (.int .i64 (f (n - 1)).1)).setCell ⟨g, k * 2 + 1, none⟩ (.int .i64 (f (n - 1)).2)).alloc (.cells #[.int .i64 (f k).1, .int .i64 (f k).2] 30)).cell? ⟨w1.heap.size, 0, none⟩ = some (.int .i64 (f k).1) ∧ (((w1.setCell ⟨g, k * 2, none⟩ (.int .i64 (f (n - 1)).1)).setCell ⟨g, k * 2 + 1, none⟩ (.int .i64 (f (n - 1)).2)).alloc (.cells #[.int .i64 (f k).1, .int .i64 (f k).2] 30)).cell? ⟨w1.heap.size, 1, none⟩ = some (.int .i64 (f k).2) := ⟨cell_of_block HXW.out 0, cell_of_block HXW.out 1⟩
    have hO5 : OwnRow (((((w1.setCell ⟨g, k * 2, none⟩ (.int .i64 (f (n - 1)).1)).setCell ⟨g, k * 2 + 1, none⟩ (.int .i64 (f (n - 1)).2)).alloc (.cells #[.int .i64 (f k).1, .int .i64 (f k).2] 30)).setCell ⟨w.heap.size, 0, none⟩ (.int .i64 (f k).1)).setCell ⟨w.heap.size, 1, none⟩ (.int .i64 (f k).2)) w.heap.size (.slice (some ⟨g, 0, none⟩) (n - 1) cap) (n - 1) f := by
      have h1 : OwnRow (((w1.setCell ⟨g, k * 2, none⟩ (.int .i64 (f (n - 1)).1)).setCell ⟨g, k * 2 + 1, none⟩ (.int .i64 (f (n - 1)).2)).alloc (.cells #[.int .i64 (f k).1, .int .i64 (f k).2] 30)) (w.heap.size + 1) (.slice (some ⟨g, 0, none⟩) (n - 1) cap) (n - 1) f := ((hOc.mono (by simp)).congr (fun i hi => putF_other f _ (by omega))).own
      exact ((h1.set (Nat.lt_succ_self _) 0 _).set (Nat.lt_succ_self _) 1 _).mono (Nat.le_succ _)
    go_wp2
    clear hOc hRW HXW hsX c0 c1 p0 p1 f0 f1 hlt hO k1
    generalize (((w1.setCell ⟨g, k * 2, none⟩ (.int .i64 (f (n - 1)).1)).setCell ⟨g, k * 2 + 1, none⟩ (.int .i64 (f (n - 1)).2)).alloc (.cells #[.int .i64 (f k).1, .int .i64 (f k).2] 30)) = wq at r0 r1 g0 g1 x0 x1 hO5 kW ⊢
    go_region
    go_wp2
    exact bodyPost_ret (v := .tuple #[.slice (some ⟨g, 0, none⟩) (n - 1) cap, .agg #[.int .i64 (f k).1, .int .i64 (f k).2], .bool true]) (by simp [results, Try.results25, go_sem, r0, r1]) rfl
      ⟨.slice (some ⟨g, 0, none⟩) (n - 1) cap, rfl, by rw [pulledF_last hk hlast]; exact hO5, ((kW.setCell (p := ⟨w.heap.size, 0, none⟩) (Nat.le_refl _) _).setCell (p := ⟨w.heap.size, 1, none⟩) (Nat.le_refl _) _).drew⟩

theorem spPulled_any {v : Value} {n : Nat} {f : Slots} (i : Int) {w : World} (hn : n ≤ 1048576) (h : RowAt w v n f) :
    Calls Try.prog 25 #[v, .int .i64 i] w (NewRowS (pulledN n i) (pulledF f n i) (pulledS f n i) (hasB n i) w) := by
  cases hi : hasB n i
  · rw [pulledN, pulledF, pulledS, hi]
    exact spPulled_out i hn hi h
  · obtain ⟨i0, i1⟩ := hasB_iff.1 hi
    obtain ⟨k, rfl⟩ : ∃ k : Nat, i = k := ⟨i.toNat, by omega⟩
    rw [pulledN, pulledS, hi, if_pos rfl, if_pos rfl, Int.toNat_natCast]
    exact spPulled_in k hn (by omega) h

end Go.Proofs.Ytegmlabiodikpaa
