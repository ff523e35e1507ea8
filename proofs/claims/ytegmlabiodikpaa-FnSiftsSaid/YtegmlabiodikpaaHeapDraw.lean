/-
  The draws of the chapter on heaps.
-/
import Derived.Test.YtegmlabiodikpaaHeapPush
import Derived.Test.YtegmlabiodikpaaHeapMath
import Derived.Test.YtegmlabiodikpaaSlotLaws
import Derived.Test.YtegmlabiodikpaaCur
namespace Go.Proofs.Ytegmlabiodikpaa
open Go.RowKit Go.Joins
set_option linter.unusedVariables false

theorem CurAt.low {w w' : World} {B g len : Nat} {sl : Value} (h : CurAt w B g sl len) (hb : Below w.heap.size w w') : CurAt w' B g sl len := by
  have hl := h.lt
  obtain ⟨h1, h2, h3, k, x, hk, hh⟩ := h
  exact ⟨h1, h2, h3.below (hb.mono (by omega)), k, x, hk, (hb.block g hl).trans hh⟩

/-- a call that draws a list -/
def DrawnH (R : Slots → Nat → Prop) (B g : Nat) (sl : Value) (len : Nat) (w : World) (e : Ending) (w' : World) : Prop :=
  ∃ (v : Value) (n : Nat) (f : Slots), e = .returned v ∧ OwnRow w' w.heap.size v n f ∧ R f n ∧ CurAt w' B g sl len ∧ w.grownBy w' (some g)
def smallHeap (f : Slots) (n : Nat) : Prop := isHeap f n ∧ n ≤ 30

set_option maxHeartbeats 1000000 in
theorem l2Draw_any {B g len : Nat} {sl : Value} {w : World} (hC : CurAt w B g sl len) :
    Calls Try.prog 60 #[.pointer (some ⟨g, 0, none⟩)] w (DrawnH smallHeap B g sl len w) := by
  have hlt := hC.lt
  have hO := own_of_row (f := fun _ => (0, 0)) (World.ownsRow_made w (base := w.heap.size) (e := 30) (size := 2) #[] 0 (Nat.le_refl _) (Nat.zero_le _) rfl)
  have hC0 := hC.alloc (.cells #[] 30)
  have hg0 := World.grownBy_alloc w (.cells #[] 30) (some g)
  clear hC
  go_enter Try.func60, Try.ntmps60
  go_wp2_with fail
  go_at_call 52; refine (l1Below_any 12 (by omega) (by omega) hC0).mono ?_; rintro e w1 ⟨x, x0, x1, rfl, hC1, hg1⟩
  replace hO := hO.kept hg1 (fun g' e => by injection e; omega)
  replace hg1 := g_trans hg0 hg1
  clear hC0 hg0
  go_wp2_with fail
  go_at_call 63; refine (l1Once_any 12 (by omega) (by omega) hC1).mono ?_; rintro e w2 ⟨q, rfl, hC2, hg2⟩
  replace hO := hO.kept hg2 (fun g' e => by injection e; omega)
  replace hg2 := g_trans hg1 hg2
  clear hC1 hg1
  cases q
  · have hx : x ≤ 30 := by omega
    have HO := Lib.hid hO
    clear hO x1
    go_wp2
    go_loopw [3, 5] (fun hv i wr => ∃ (k : Nat) (f : Slots), i = .int .i64 k ∧ (k : Int) ≤ x ∧ OwnRow wr w.heap.size hv k f ∧ isHeap f k ∧ CurAt wr B g sl len ∧ w.grownBy wr (some g)) (fun _ i _ => 30 - (intOf i).toNat)
    case atStart => exact ⟨0, _, rfl, by omega, HO.out, fun k h1 h2 => by omega, hC2, hg2⟩
    case round =>
      clear HO hC2 hg2
      obtain ⟨k, f, rfl, hk, hO, hH, hC, hg⟩ := hrel
      by_cases hlt2 : (k : Int) < x
      · go_wp2_with fail
        go_at_call 52; refine (l1Below_any 20 (by omega) (by omega) hC).mono ?_; rintro e w4 ⟨z, z0, z1, rfl, hC4, hg4⟩
        have hO4 := hO.kept hg4 (fun g' e => by injection e; omega)
        have hg5 := g_trans hg hg4
        clear hO hC hg hg4
        go_wp2_with fail
        go_at_call 23; refine (spPushed_in (k : Int) z (show k < 30 by omega) hO4.row).mono ?_; rintro e w5 ⟨v5, rfl, hO5, hb⟩
        have hg6 := g_trans hg5 (g_below hb (some g))
        have hO6 := hO5.mono (B' := w.heap.size) hg5.size
        have hC6 := hC4.low hb
        have hH6 := push_heap hH ((k : Int), z)
        clear hO4 hg5 hb hO5 hC4 hH
        go_wp2
        exact ⟨⟨k + 1, _, congrArg (Value.int .i64) (by omega), by omega, hO6, hH6, hC6, hg6⟩, by simp only [intOf]; omega⟩
      · go_wp2
        go_ret
        exact ⟨_, k, f, rfl, hO, ⟨hH, by omega⟩, hC, hg⟩
  · go_wp2_with fail
    go_at_call 52; refine (l1Below_any 2 (by omega) (by omega) hC2).mono ?_; rintro e w3 ⟨y, y0, y1, rfl, hC3, hg3⟩
    have HO := Lib.hid (hO.kept hg3 (fun g' e => by injection e; omega))
    replace hg2 := g_trans hg2 hg3
    clear hC2 hg3 hO x0 x1
    have hC2 := hC3
    clear hC3
    go_wp2
    go_loopw [3, 5] (fun hv i wr => ∃ (k : Nat) (f : Slots), i = .int .i64 k ∧ (k : Int) ≤ (30 - y) ∧ OwnRow wr w.heap.size hv k f ∧ isHeap f k ∧ CurAt wr B g sl len ∧ w.grownBy wr (some g)) (fun _ i _ => 30 - (intOf i).toNat)
    case atStart => exact ⟨0, _, rfl, by omega, HO.out, fun k h1 h2 => by omega, hC2, hg2⟩
    case round =>
      clear HO hC2 hg2
      obtain ⟨k, f, rfl, hk, hO, hH, hC, hg⟩ := hrel
      by_cases hlt2 : (k : Int) < (30 - y)
      · go_wp2_with fail
        go_at_call 52; refine (l1Below_any 20 (by omega) (by omega) hC).mono ?_; rintro e w4 ⟨z, z0, z1, rfl, hC4, hg4⟩
        have hO4 := hO.kept hg4 (fun g' e => by injection e; omega)
        have hg5 := g_trans hg hg4
        clear hO hC hg hg4
        go_wp2_with fail
        go_at_call 23; refine (spPushed_in (k : Int) z (show k < 30 by omega) hO4.row).mono ?_; rintro e w5 ⟨v5, rfl, hO5, hb⟩
        have hg6 := g_trans hg5 (g_below hb (some g))
        have hO6 := hO5.mono (B' := w.heap.size) hg5.size
        have hC6 := hC4.low hb
        have hH6 := push_heap hH ((k : Int), z)
        clear hO4 hg5 hb hO5 hC4 hH
        go_wp2
        exact ⟨⟨k + 1, _, congrArg (Value.int .i64) (by omega), by omega, hO6, hH6, hC6, hg6⟩, by simp only [intOf]; omega⟩
      · go_wp2
        go_ret
        exact ⟨_, k, f, rfl, hO, ⟨hH, by omega⟩, hC, hg⟩

/-- a key is stored -/
theorem OwnAt.putKey {w : World} {B g n cap : Nat} {f : Slots} (h : OwnAt w B g n cap f) {k : Nat} (hk : k < n) (y : Int) :
    OwnAt (w.setCell ⟨g, k * 2 + 1, none⟩ (.int .i64 y)) B g n cap (putF f k ((f k).1, y)) := by
  obtain ⟨h1, h2, h3, cur, hh, hs, hr⟩ := h
  refine ⟨h1, h2, h3, _, block_setCell hh (i := k * 2 + 1) (.int .i64 y), by simp [hs], fun i hi => ?_⟩
  have hk2 : k * 2 + 1 < cur.size := by omega
  by_cases e : i = k
  · subst e
    rw [putF_same]
    constructor
    · rw [Array.getElem?_setIfInBounds_ne (by omega)]; exact (hr i hi).1
    · rw [Array.getElem?_setIfInBounds_self_of_lt (by omega)]
  · rw [putF_other f _ e]
    constructor
    · rw [Array.getElem?_setIfInBounds_ne (by omega)]; exact (hr i hi).1
    · rw [Array.getElem?_setIfInBounds_ne (by omega)]; exact (hr i hi).2

/-- a heap of which one slot was made lighter or heavier -/
def nearAt (f : Slots) (n : Nat) (i : Int) : Prop := n ≤ 30 ∧ (hasB n i = true → near f n i.toNat) ∧ (hasB n i = false → isHeap f n)
/-- a call that draws a list and a place -/
def DrawnHI (R : Slots → Nat → Int → Prop) (B g : Nat) (sl : Value) (len : Nat) (w : World) (e : Ending) (w' : World) : Prop :=
  ∃ (v : Value) (n : Nat) (f : Slots) (i : Int), e = .returned (.tuple #[v, .int .i64 i]) ∧ OwnRow w' w.heap.size v n f ∧ R f n i ∧ CurAt w' B g sl len ∧ w.grownBy w' (some g)

set_option maxHeartbeats 1000000 in
theorem l2DrawAt_any {B g len : Nat} {sl : Value} {w : World} (hC : CurAt w B g sl len) :
    Calls Try.prog 48 #[.pointer (some ⟨g, 0, none⟩)] w (DrawnHI nearAt B g sl len w) := by
  have hlt := hC.lt
  go_enter Try.func48, Try.ntmps48
  go_wp2_with fail
  go_at_call 60; refine (l2Draw_any hC).mono ?_; rintro e w1 ⟨v, n, f, rfl, hO, ⟨hH, hn⟩, hC1, hg1⟩
  obtain ⟨va, vc, hv⟩ := hO.row.form
  subst hv
  have hn' : (n : Int) ≤ 30 := by omega
  go_wp2_with fail
  go_at_call 54; refine (l1From_any (-1) (n : Int) (by omega) (by omega) (by omega) hC1).mono ?_; rintro e w2 ⟨i, i0, i1, rfl, hC2, hg2⟩
  have hO2 := hO.kept hg2 (fun g' e => by injection e; omega)
  have hg3 := g_trans hg1 hg2
  clear hO hg1 hg2 hC1 hC
  go_wp2_with fail
  go_at_call 55; refine (l2Has_any f i (by omega) hO2.row).mono ?_; rintro e w' ⟨rfl, rfl⟩
  cases hi : hasB n i
  · go_wp2
    go_ret2
    exact ⟨_, n, f, i, rfl, hO2, ⟨hn, fun h => absurd (hi.symm.trans h) (by decide), fun _ => hH⟩, hC2, hg3⟩
  · obtain ⟨j0, j1⟩ := hasB_iff.1 hi
    obtain ⟨k, rfl⟩ : ∃ k : Nat, i = k := ⟨i.toNat, by omega⟩
    have hk : k < n := by omega
    rcases hO2 with ⟨h0, _⟩ | ⟨g', cap, hv, hO2⟩
    · omega
    injection hv with hv1 hv2 hv3
    subst hv1
    subst hv3
    go_wp2_with fail
    go_at_call 52; refine (l1Below_any 20 (by omega) (by omega) hC2).mono ?_; rintro e w3 ⟨y, y0, y1, rfl, hC3, hg4⟩
    have hg' := hO2.1
    have hne : g' ≠ g := by omega
    have hO3 := hO2.kept hg4 hne
    have hg5 := g_trans hg3 hg4
    obtain ⟨c0, c1⟩ := hO3.cells hk
    have f1 := hO3.free (k * 2 + 1)
    have b0 : (k : Int) < (n : Int) := by omega
    have hO4 := hO3.putKey hk y
    have hC4 := hC3.set (b := g') (by have := hC3.base; omega) hne (k * 2 + 1) (.int .i64 y)
    have hg6 := g_new hg5 hg' (k * 2 + 1) (.int .i64 y)
    clear hO2 hg4 hg3 hC2 hO3 hg5 hC3
    go_wp2
    go_ret2
    exact ⟨_, n, _, (k : Int), rfl, hO4.own, ⟨hn, fun _ => by rw [Int.toNat_natCast]; exact near_of_heap hH _ hk, fun h => absurd (hi.symm.trans h) (by decide)⟩, hC4, hg6⟩

set_option maxHeartbeats 1000000 in
theorem drawRaised_any {B len : Nat} {sl : Value} {w : World} (hlen : len ≤ 4096) (hcode : CodeAt w B sl len) (hB : B ≤ w.heap.size) :
    Calls Try.prog 18 #[sl] w fun e w' => ∃ (v : Value) (n : Nat) (f : Slots) (i : Int), e = .returned (.tuple #[v, .int .i64 i]) ∧ OwnRow w' w.heap.size v n f ∧ nearAt f n i ∧ Below w.heap.size w w' := by
  go_enter Try.func18, Try.ntmps18
  go_wp2_with fail
  go_at_call 47; refine (l1New_any _ rfl hlen hcode hB).mono ?_; rintro e w1 ⟨rfl, hC, hb⟩
  go_wp2_with fail
  go_at_call 48; refine (l2DrawAt_any hC).mono ?_; rintro e w2 ⟨v, n, f, i, rfl, hO, hR, hC2, hg⟩
  have hb2 := hb.trans (b_grown hg (Nat.le_refl _) hb.size)
  have hO2 := hO.mono hb.size
  clear hO hg hb hC hC2
  go_wp2
  go_ret2
  exact ⟨v, n, f, i, rfl, hO2, hR, hb2⟩

set_option maxHeartbeats 1000000 in
theorem drawSunk_any {B len : Nat} {sl : Value} {w : World} (hlen : len ≤ 4096) (hcode : CodeAt w B sl len) (hB : B ≤ w.heap.size) :
    Calls Try.prog 21 #[sl] w fun e w' => ∃ (v : Value) (n : Nat) (f : Slots) (i : Int), e = .returned (.tuple #[v, .int .i64 i]) ∧ OwnRow w' w.heap.size v n f ∧ nearAt f n i ∧ Below w.heap.size w w' := by
  go_enter Try.func21, Try.ntmps21
  go_wp2_with fail
  go_at_call 47; refine (l1New_any _ rfl hlen hcode hB).mono ?_; rintro e w1 ⟨rfl, hC, hb⟩
  go_wp2_with fail
  go_at_call 48; refine (l2DrawAt_any hC).mono ?_; rintro e w2 ⟨v, n, f, i, rfl, hO, hR, hC2, hg⟩
  have hb2 := hb.trans (b_grown hg (Nat.le_refl _) hb.size)
  have hO2 := hO.mono hb.size
  clear hO hg hb hC hC2
  go_wp2
  go_ret2
  exact ⟨v, n, f, i, rfl, hO2, hR, hb2⟩

end Go.Proofs.Ytegmlabiodikpaa
