/-
  The draws of the chapter on processors.
-/
import Derived.Test.YtnmaljieaflnmaaHeapDraw2
import Derived.Test.YtnmaljieaflnmaaProcLaws
import Derived.Test.YtnmaljieaflnmaaNum
namespace Go.Proofs.Ytnmaljieaflnmaa
open Go.RowKit Go.Joins
set_option linter.unusedVariables false

/-- a small heap, no key below 0 -/
def lowHeap (f : Slots) (n : Nat) : Prop := smallHeap f n ∧ sumF (isLow 0) f n = 0
theorem push_low {f : Slots} {k : Nat} {z : Int} (h : sumF (isLow 0) f k = 0) (x : Int) (hz : 0 ≤ z) : sumF (isLow 0) (raiseF (putF f k (x, z)) k) (k + 1) = 0 := by
  rw [sumF_raise (isLow 0) (k + 1) k _ (Nat.lt_succ_self k)]
  show sumF (isLow 0) (putF f k (x, z)) k + isLow 0 (putF f k (x, z) k) = 0
  rw [sumF_congr k (fun i hi => putF_other f (x, z) (show i ≠ k by omega)), h, putF_same]
  simp [isLow]; omega
theorem low_key {f : Slots} {n k : Nat} (h : sumF (isLow 0) f n = 0) (hk : k < n) : 0 ≤ (f k).2 := by
  have := sum_at (isLow_nonneg 0) f n k hk
  rw [h] at this
  unfold isLow at this
  split at this <;> omega

set_option maxHeartbeats 1000000 in
theorem l2Draw_keys {B g len : Nat} {sl : Value} {w : World} (hC : CurAt w B g sl len) :
    Calls Try.prog 86 #[.pointer (some ⟨g, 0, none⟩)] w (DrawnH lowHeap B g sl len w) := by
  have hlt := hC.lt
  have hO := own_of_row (f := fun _ => (0, 0)) (World.ownsRow_made w (base := w.heap.size) (e := 35) (size := 2) #[] 0 (Nat.le_refl _) (Nat.zero_le _) rfl)
  have hC0 := hC.alloc (.cells #[] 35)
  have hg0 := World.grownBy_alloc w (.cells #[] 35) (some g)
  clear hC
  go_enter Try.func86, Try.ntmps86
  go_wp2_with fail
  go_at_call 43; refine (l1Below_any 12 (by omega) (by omega) hC0).mono ?_; rintro e w1 ⟨x, x0, x1, rfl, hC1, hg1⟩
  replace hO := hO.kept hg1 (fun g' e => by injection e; omega)
  replace hg1 := g_trans hg0 hg1
  clear hC0 hg0
  go_wp2_with fail
  go_at_call 42; refine (l1Once_any 12 (by omega) (by omega) hC1).mono ?_; rintro e w2 ⟨q, rfl, hC2, hg2⟩
  replace hO := hO.kept hg2 (fun g' e => by injection e; omega)
  replace hg2 := g_trans hg1 hg2
  clear hC1 hg1
  cases q
  · have hx : x ≤ 30 := by omega
    have HO := Lib.hid hO
    clear hO x1
    go_wp2
    go_loopw [3, 5] (fun hv i wr => ∃ (k : Nat) (f : Slots), i = .int .i64 k ∧ (k : Int) ≤ x ∧ OwnRow wr w.heap.size hv k f ∧ isHeap f k ∧ sumF (isLow 0) f k = 0 ∧ CurAt wr B g sl len ∧ w.grownBy wr (some g)) (fun _ i _ => 30 - (intOf i).toNat)
    case atStart => exact ⟨0, _, rfl, by omega, HO.out, fun k h1 h2 => by omega, rfl, hC2, hg2⟩
    case round =>
      clear HO hC2 hg2
      obtain ⟨k, f, rfl, hk, hO, hH, hL, hC, hg⟩ := hrel
      by_cases hlt2 : (k : Int) < x
      · go_wp2_with fail
        go_at_call 43; refine (l1Below_any 20 (by omega) (by omega) hC).mono ?_; rintro e w4 ⟨z, z0, z1, rfl, hC4, hg4⟩
        have hO4 := hO.kept hg4 (fun g' e => by injection e; omega)
        have hg5 := g_trans hg hg4
        clear hO hC hg hg4
        have HLL := Lib.hid hL
        clear hL
        go_wp2_with fail
        go_at_call 114; refine (spPushed_in (k : Int) z (show k < 30 by omega) hO4.row).mono ?_; rintro e w5 ⟨v5, rfl, hO5, hb⟩
        have hg6 := g_trans hg5 (g_below hb (some g))
        have hO6 := hO5.mono (B' := w.heap.size) hg5.size
        have hC6 := hC4.low hb
        have hH6 := push_heap hH ((k : Int), z)
        have hL6 := push_low HLL.out (k : Int) z0
        clear hO4 hg5 hb hO5 hC4 hH HLL
        go_wp2
        exact ⟨⟨k + 1, _, congrArg (Value.int .i64) (by omega), by omega, hO6, hH6, hL6, hC6, hg6⟩, by simp only [intOf]; omega⟩
      · go_wp2
        go_ret
        exact ⟨_, k, f, rfl, hO, ⟨⟨hH, by omega⟩, hL⟩, hC, hg⟩
  · go_wp2_with fail
    go_at_call 43; refine (l1Below_any 2 (by omega) (by omega) hC2).mono ?_; rintro e w3 ⟨y, y0, y1, rfl, hC3, hg3⟩
    have HO := Lib.hid (hO.kept hg3 (fun g' e => by injection e; omega))
    replace hg2 := g_trans hg2 hg3
    clear hC2 hg3 hO x0 x1
    have hC2 := hC3
    clear hC3
    go_wp2
    go_loopw [3, 5] (fun hv i wr => ∃ (k : Nat) (f : Slots), i = .int .i64 k ∧ (k : Int) ≤ (30 - y) ∧ OwnRow wr w.heap.size hv k f ∧ isHeap f k ∧ sumF (isLow 0) f k = 0 ∧ CurAt wr B g sl len ∧ w.grownBy wr (some g)) (fun _ i _ => 30 - (intOf i).toNat)
    case atStart => exact ⟨0, _, rfl, by omega, HO.out, fun k h1 h2 => by omega, rfl, hC2, hg2⟩
    case round =>
      clear HO hC2 hg2
      obtain ⟨k, f, rfl, hk, hO, hH, hL, hC, hg⟩ := hrel
      by_cases hlt2 : (k : Int) < (30 - y)
      · go_wp2_with fail
        go_at_call 43; refine (l1Below_any 20 (by omega) (by omega) hC).mono ?_; rintro e w4 ⟨z, z0, z1, rfl, hC4, hg4⟩
        have hO4 := hO.kept hg4 (fun g' e => by injection e; omega)
        have hg5 := g_trans hg hg4
        clear hO hC hg hg4
        have HLL := Lib.hid hL
        clear hL
        go_wp2_with fail
        go_at_call 114; refine (spPushed_in (k : Int) z (show k < 30 by omega) hO4.row).mono ?_; rintro e w5 ⟨v5, rfl, hO5, hb⟩
        have hg6 := g_trans hg5 (g_below hb (some g))
        have hO6 := hO5.mono (B' := w.heap.size) hg5.size
        have hC6 := hC4.low hb
        have hH6 := push_heap hH ((k : Int), z)
        have hL6 := push_low HLL.out (k : Int) z0
        clear hO4 hg5 hb hO5 hC4 hH HLL
        go_wp2
        exact ⟨⟨k + 1, _, congrArg (Value.int .i64) (by omega), by omega, hO6, hH6, hL6, hC6, hg6⟩, by simp only [intOf]; omega⟩
      · go_wp2
        go_ret
        exact ⟨_, k, f, rfl, hO, ⟨⟨hH, by omega⟩, hL⟩, hC, hg⟩


theorem OwnRow.setNe {w : World} {B n b : Nat} {v : Value} {f : Slots} (h : OwnRow w B v n f) (hb : some b ≠ v.ownBlock) (o : Nat) (u : Value) : OwnRow (w.setCell ⟨b, o, none⟩ u) B v n f := by
  rcases h with h | ⟨g, cap, e, h⟩
  · exact .inl h
  · exact .inr ⟨g, cap, e, h.block (Below.heap_setCell w ⟨b, o, none⟩ u g (by rintro rfl; exact hb (by rw [e]; rfl)))⟩
theorem OwnRow.notNew {w : World} {B n b : Nat} {f : Slots} {v : Value} (h : OwnRow w B v n f) (hb : w.heap.size ≤ b) : some b ≠ v.ownBlock := by
  rcases h with ⟨_, rfl⟩ | ⟨g, cap, rfl, h⟩
  · simp [Value.ownBlock]
  · intro e
    have := h.lt
    simp [Value.ownBlock] at e
    omega

end Go.Proofs.Ytnmaljieaflnmaa
