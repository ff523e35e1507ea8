/-
  The draws of the chapter on heaps.
-/
import Derived.Test.YtnmaljieaflnmaaHeapPush
import Derived.Test.YtnmaljieaflnmaaHeapMath
import Derived.Test.YtnmaljieaflnmaaSlotLaws
import Derived.Test.YtnmaljieaflnmaaCur
namespace Go.Proofs.Ytnmaljieaflnmaa
open Go.RowKit Go.Joins
set_option linter.unusedVariables false

theorem CurAt.low {w w' : World} {B g len : Nat} {sl : Value} (h : CurAt w B g sl len) (hb : Below w.heap.size w w') : CurAt w' B g sl len := by
  have hl := h.lt
  obtain ⟨h1, h2, h3, k, x, hk, hh⟩ := h
  exact ⟨h1, h2, h3.below (hb.mono (by omega)), k, x, hk, (hb.block g hl).trans hh⟩

/-- a call that draws a list -/
def DrawnH (R : Slots → Nat → Prop) (B g : Nat) (sl : Value) (len : Nat) (w : World) (e : Ending) (w' : World) : Prop :=
  ∃ (v : Value) (n : Nat) (f : Slots), e = .returned v ∧ OwnRow w' w.heap.size v n f ∧ R f n ∧ CurAt w' B g sl len ∧ w.grownBy w' (some g)
def smallHeap (f : Slots) (n : Nat) : Prop := isHeap f n ∧ n ≤ 30

set_option maxHeartbeats 1000000 in
theorem l2Draw_any {B g len : Nat} {sl : Value} {w : World} (hC : CurAt w B g sl len) :
    Calls Try.prog 86 #[.pointer (some ⟨g, 0, none⟩)] w (DrawnH smallHeap B g sl len w) := by
  have hlt := hC.lt
  have hO := own_of_row (f := fun _ => (0, 0)) (World.ownsRow_made w (base := w.heap.size) (e := 35) (size := 2) #[] 0 (Nat.le_refl _) (Nat.zero_le _) rfl)
  have hC0 := hC.alloc (.cells #[] 35)
  have hg0 := World.grownBy_alloc w (.cells #[] 35) (some g)
  clear hC
  go_enter Try.func86, Try.ntmps86
  go_wp2_with fail
  go_at_call 43; refine (l1Below_any 12 (by omega) (by omega) hC0).mono ?_; rintro e w1 ⟨x, x0, x1, rfl, hC1, hg1⟩
  replace hO := hO.kept hg1 (fun g' e => by injection e; omega)
  replace hg1 := g_trans hg0 hg1
  clear hC0 hg0
  go_wp2_with fail
  go_at_call 42; refine (l1Once_any 12 (by omega) (by omega) hC1).mono ?_; rintro e w2 ⟨q, rfl, hC2, hg2⟩
  replace hO := hO.kept hg2 (fun g' e => by injection e; omega)
  replace hg2 := g_trans hg1 hg2
  clear hC1 hg1
  cases q
  · have hx : x ≤ 30 := by omega
    have HO := Lib.hid hO
    clear hO x1
    go_wp2
    go_loopw [3, 5] (fun hv i wr => ∃ (k : Nat) (f : Slots), i = .int .i64 k ∧ (k : Int) ≤ x ∧ OwnRow wr w.heap.size hv k f ∧ isHeap f k ∧ CurAt wr B g sl len ∧ w.grownBy wr (some g)) (fun _ i _ => 30 - (intOf i).toNat)
    case atStart => exact ⟨0, _, rfl, by omega, HO.out, fun k h1 h2 => by omega, hC2, hg2⟩
    case round =>
      clear HO hC2 hg2
      obtain ⟨k, f, rfl, hk, hO, hH, hC, hg⟩ := hrel
      by_cases hlt2 : (k : Int) < x
      · go_wp2_with fail
        go_at_call 43; refine (l1Below_any 20 (by omega) (by omega) hC).mono ?_; rintro e w4 ⟨z, z0, z1, rfl, hC4, hg4⟩
        have hO4 := hO.kept hg4 (fun g' e => by injection e; omega)
        have hg5 := g_trans hg hg4
        clear hO hC hg hg4
        go_wp2_with fail
        go_at_call 114; refine (spPushed_in (k : Int) z (show k < 30 by omega) hO4.row).mono ?_; rintro e w5 ⟨v5, rfl, hO5, hb⟩
        have hg6 := g_trans hg5 (g_below hb (some g))
        have hO6 := hO5.mono (B' := w.heap.size) hg5.size
        have hC6 := hC4.low hb
        have hH6 := push_heap hH ((k : Int), z)
        clear hO4 hg5 hb hO5 hC4 hH
        go_wp2
        exact ⟨⟨k + 1, _, congrArg (Value.int .i64) (by omega), by omega, hO6, hH6, hC6, hg6⟩, by simp only [intOf]; omega⟩
      · go_wp2
        go_ret
        exact ⟨_, k, f, rfl, hO, ⟨hH, by omega⟩, hC, hg⟩
  · go_wp2_with fail
    go_at_call 43; refine (l1Below_any 2 (by omega) (by omega) hC2).mono ?_; rintro e w3 ⟨y, y0, y1, rfl, hC3, hg3⟩
    have HO := Lib.hid (hO.kept hg3 (fun g' e => by injection e; omega))
    replace hg2 := g_trans hg2 hg3
    clear hC2 hg3 hO x0 x1
    have hC2 := hC3
    clear hC3
    go_wp2
    go_loopw [3, 5] (fun hv i wr => ∃ (k : Nat) (f : Slots), i = .int .i64 k ∧ (k : Int) ≤ (30 - y) ∧ OwnRow wr w.heap.size hv k f ∧ isHeap f k ∧ CurAt wr B g sl len ∧ w.grownBy wr (some g)) (fun _ i _ => 30 - (intOf i).toNat)
    case atStart => exact ⟨0, _, rfl, by omega, HO.out, fun k h1 h2 => by omega, hC2, hg2⟩
    case round =>
      clear HO hC2 hg2
      obtain ⟨k, f, rfl, hk, hO, hH, hC, hg⟩ := hrel
      by_cases hlt2 : (k : Int) < (30 - y)
      · go_wp2_with fail
        go_at_call 43; refine (l1Below_any 20 (by omega) (by omega) hC).mono ?_; rintro e w4 ⟨z, z0, z1, rfl, hC4, hg4⟩
        have hO4 := hO.kept hg4 (fun g' e => by injection e; omega)
        have hg5 := g_trans hg hg4
        clear hO hC hg hg4
        go_wp2_with fail
        go_at_call 114; refine (spPushed_in (k : Int) z (show k < 30 by omega) hO4.row).mono ?_; rintro e w5 ⟨v5, rfl, hO5, hb⟩
        have hg6 := g_trans hg5 (g_below hb (some g))
        have hO6 := hO5.mono (B' := w.heap.size) hg5.size
        have hC6 := hC4.low hb
        have hH6 := push_heap hH ((k : Int), z)
        clear hO4 hg5 hb hO5 hC4 hH
        go_wp2
        exact ⟨⟨k + 1, _, congrArg (Value.int .i64) (by omega), by omega, hO6, hH6, hC6, hg6⟩, by simp only [intOf]; omega⟩
      · go_wp2
        go_ret
        exact ⟨_, k, f, rfl, hO, ⟨hH, by omega⟩, hC, hg⟩

/-- a key is stored -/
theorem OwnAt.putKey {w : World} {B g n cap : Nat} {f : Slots} (h : OwnAt w B g n cap f) {k : Nat} (hk : k < n) (y : Int) :
    OwnAt (w.setCell ⟨g, k * 2 + 1, none⟩ (.int .i64 y)) B g n cap (putF f k ((f k).1, y)) := by
  obtain ⟨h1, h2, h3, cur, hh, hs, hr⟩ := h
  refine ⟨h1, h2, h3, _, block_setCell hh (i := k * 2 + 1) (.int .i64 y), by simp [hs], fun i hi => ?_⟩
  have hk2 : k * 2 + 1 < cur.size := by omega
  by_cases e : i = k
  · subst e
    rw [putF_same]
    constructor
    · rw [Array.getElem?_setIfInBounds_ne (by omega)]; exact (hr i hi).1
    · rw [Array.getElem?_setIfInBounds_self_of_lt (by omega)]
  · rw [putF_other f _ e]
    constructor
    · rw [Array.getElem?_setIfInBounds_ne (by omega)]; exact (hr i hi).1
    · rw [Array.getElem?_setIfInBounds_ne (by omega)]; exact (hr i hi).2

/-- a heap of which one slot was made lighter or heavier -/
def nearAt (f : Slots) (n : Nat) (i : Int) : Prop := n ≤ 30 ∧ (hasB n i = true → near f n i.toNat) ∧ (hasB n i = false → isHeap f n)
/-- a call that draws a list and a place -/
def DrawnHI (R : Slots → Nat → Int → Prop) (B g : Nat) (sl : Value) (len : Nat) (w : World) (e : Ending) (w' : World) : Prop :=
  ∃ (v : Value) (n : Nat) (f : Slots) (i : Int), e = .returned (.tuple #[v, .int .i64 i]) ∧ OwnRow w' w.heap.size v n f ∧ R f n i ∧ CurAt w' B g sl len ∧ w.grownBy w' (some g)

end Go.Proofs.Ytnmaljieaflnmaa
