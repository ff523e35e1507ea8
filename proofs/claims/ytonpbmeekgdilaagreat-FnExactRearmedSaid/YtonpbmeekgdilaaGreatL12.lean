/-
  The program's heap (chapter 2): one slot more, at the end, and raised there.
-/
import Derived.Test.YtonpbmeekgdilaaGreatL08
import Derived.Test.YtonpbmeekgdilaaGreatL11
import Derived.Deep.RegionLaw
import Derived.Test.YtonpbmeekgdilaaGreatL09
import Derived.Test.YtonpbmeekgdilaaGreatL05
import Derived.Test.YtonpbmeekgdilaaGreatL06
import Derived.Deep.DeepCutAuto
import Derived.Deep.QuietTactic
import Derived.BigQuiet
import Derived.IntWalk
import Derived.Deep.RegionHeld3
import Derived.Test.YtonpbmeekgdilaaGreatL01
import Derived.Maps.AppendAt
import Derived.Laws.AppendOwn
import Derived.Test.YtonpbmeekgdilaaGreatL03
import Derived.Test.YtonpbmeekgdilaaGreatL00
namespace Go.Proofs.YtonpbmeekgdilaaGreat
open Go.RowKit Go.Joins
set_option linter.unusedVariables false

/-- a heap in a variable of its own, in the block b -/
def HeapIn (w : World) (b : Nat) (v : Value) : Prop := w.heap[b]? = some (.cells #[v, dueV] 125 (0, 0))

/-- its list's block is no variable of a heap -/
theorem OwnAt.ne_heap {w : World} {B g n cap b : Nat} {f : Slots} {v : Value} (h : OwnAt w B g n cap f) (hb : HeapIn w b v) : b ≠ g := by
  rintro rfl
  obtain ⟨_, _, _, cur, hh, _⟩ := h
  rw [HeapIn, hh] at hb
  simp at hb

theorem OwnRow.ne_heap {w : World} {B n b : Nat} {f : Slots} {v u : Value} (h : OwnRow w B v n f) (hb : HeapIn w b u) : some b ≠ v.ownBlock := by
  rcases h with ⟨_, rfl⟩ | ⟨g, cap, rfl, h⟩
  · simp [Value.ownBlock]
  · intro e
    exact h.ne_heap hb (by simpa [Value.ownBlock] using e)
theorem OwnRow.ne_new {w : World} {B n b : Nat} {f : Slots} {v : Value} (h : OwnRow w B v n f) (hb : w.heap.size ≤ b) : some b ≠ v.ownBlock := by
  rcases h with ⟨_, rfl⟩ | ⟨g, cap, rfl, h⟩
  · simp [Value.ownBlock]
  · intro e
    have := h.lt
    simp [Value.ownBlock] at e
    omega

set_option maxRecDepth 100000 in
set_option maxHeartbeats 2000000 in
theorem hPush_any {B b n : Nat} {x y : Int} {v : Value} {f : Slots} {w : World} (hn : n < 1048576) (hB : B ≤ b) (hin : HeapIn w b v) (h : OwnRow w B v n f) :
    Calls Tryz.prog 102 #[.pointer (some ⟨b, 0, none⟩), .agg #[.int .i64 x, .int .i64 y]] w fun e w' => e = .returned (.tuple #[]) ∧
      ∃ v', HeapIn w' b v' ∧ OwnRow w' B v' (n + 1) (raiseF (putF f n (x, y)) n) ∧ Below B w w' := by
  have hbl := lt_of_block hin
  have k0 := (Below.refl w.heap.size w).alloc (Nat.le_refl _) (.cells #[.int .i64 x, .int .i64 y] 88)
  have kB := k0.mono (Nat.le_trans hB (Nat.le_of_lt hbl))
  have hO0 := h.below k0
  have hin0 : HeapIn (w.alloc (.cells #[.int .i64 x, .int .i64 y] 88)) b v := b_block k0 hin hbl
  have a0 := cell_of_block hin0 0
  have a1 := cell_of_block hin0 1
  have hS := heap_alloc_new w (.cells #[.int .i64 x, .int .i64 y] 88)
  have s0 := cell_of_block hS 0
  have s1 := cell_of_block hS 1
  clear hS
  have hOA : OwnRow ((w.alloc (.cells #[.int .i64 x, .int .i64 y] 88)).alloc (.cells #[.int .i64 x, .int .i64 y] 88)).drew B v n f := ((h.alloc (.cells #[.int .i64 x, .int .i64 y] 88)).alloc (.cells #[.int .i64 x, .int .i64 y] 88)).drew
  have hinA : HeapIn ((w.alloc (.cells #[.int .i64 x, .int .i64 y] 88)).alloc (.cells #[.int .i64 x, .int .i64 y] 88)).drew b v := alloc_block _ hin0
  have hbA := lt_of_block hinA
  have hBA : B ≤ ((w.alloc (.cells #[.int .i64 x, .int .i64 y] 88)).alloc (.cells #[.int .i64 x, .int .i64 y] 88)).drew.heap.size := Nat.le_trans hB (Nat.le_of_lt hbA)
  have hsrc : RowAt ((w.alloc (.cells #[.int .i64 x, .int .i64 y] 88)).alloc (.cells #[.int .i64 x, .int .i64 y] 88)).drew (.slice (some ⟨w.heap.size + 1, 0, none⟩) 1 1) 1 (fun _ => (x, y)) := by
    have := one_row (w.alloc (.cells #[.int .i64 x, .int .i64 y] 88)) x y
    rw [show (w.alloc (.cells #[.int .i64 x, .int .i64 y] 88)).heap.size = w.heap.size + 1 by simp] at this
    exact this
  obtain ⟨av, cv, hv⟩ := h.row.form
  subst hv
  go_enter Tryz.func102, Tryz.ntmps102
  go_wp2_with fail
  go_region_law (first
    | (refine step_append_slots rfl (.tmp 8) (.tmp 10) rfl B (.slice av n cv) n f rfl (row_of_ownrow hOA) _ 1 (fun _ => (x, y)) rfl hsrc (by omega) hBA ?_; intro v2 w2 hown2 hg2 hat2
       rw [cellsF_push] at hown2; have hO2 := own_of_row hown2; obtain ⟨a2, c2, hv2⟩ := hO2.row.form; subst hv2
       have hin2 : HeapIn w2 b (.slice av n cv) := (hg2.block b hbA (hOA.ne_heap hinA)).trans hinA
       have d0 := cell_of_block hin2 0; have d1 := unfrozen_of_block hin2 0
       have hb2 := hOA.below_own hg2 hBA; clear hown2 hg2 hat2))
  all_goals
    have hl2 := lt_of_block hin2
    have hin3 : HeapIn (w2.setCell ⟨b, 0, none⟩ (.slice a2 (n + 1) c2)) b (.slice a2 (n + 1) c2) := block_setCell hin2 _
    have hO3 : OwnRow (w2.setCell ⟨b, 0, none⟩ (.slice a2 (n + 1) c2)) B (.slice a2 (n + 1) c2) (n + 1) (putF f n (x, y)) := by
      rcases hO2 with ⟨h0, _⟩ | ⟨g, cap, e, hO2⟩
      · omega
      · refine .inr ⟨g, cap, e, hO2.block ?_⟩
        exact Below.heap_setCell w2 ⟨b, 0, none⟩ _ g (fun e => hO2.ne_heap hin2 e.symm)
    have hb3 := hb2.setCell (p := ⟨b, 0, none⟩) hB (.slice a2 (n + 1) c2)
    clear a0 a1 s0 s1 hsrc hOA hinA hO0 hin0 hO2 hin2 d0 d1 hb2
    generalize w2.setCell ⟨b, 0, none⟩ (.slice a2 (n + 1) c2) = w3 at *
    obtain ⟨N, hN⟩ : ∃ N : Nat, N = n + 1 := ⟨_, rfl⟩
    rw [← hN] at hin3 hO3 ⊢
    rcases hO3 with ⟨h0, _⟩ | ⟨g, cap, e, hO3⟩
    · omega
    injection e with e1 e2 e3
    subst e1 e3
    have hne := hO3.ne_heap hin3
    have b0 : w3.cell? ⟨b, 0, none⟩ = some (.slice (some ⟨g, 0, none⟩) N c2) := cell_of_block hin3 0
    have b1 : w3.cell? ⟨b, 1, none⟩ = some dueV := cell_of_block hin3 1
    have hl3 := lt_of_block hin3
    have hN1 : N ≤ 1048576 := by omega
    have hN2 : n < N := by omega
    have e1 : IntKind.i64.wrap ((N : Int) - 1) = (n : Int) := by rw [IntKind.wrap_i64]; omega
    have hgB := hO3.1
    have HN := Lib.hid hN
    have hWA : Below B w ((w.alloc (.cells #[.int .i64 x, .int .i64 y] 88)).alloc (.cells #[.int .i64 x, .int .i64 y] 88)).drew := (kB.alloc (Nat.le_trans hB (Nat.le_of_lt (Nat.lt_of_lt_of_le hbl k0.size))) _).drew
    clear hl2 hbA hBA hN h hin k0
    go_wp2_with fail
    go_region_held3 (fun w' => w'.cell? ⟨b, 0, none⟩ = some (.slice (some ⟨g, 0, none⟩) N c2) ∧ w'.cell? ⟨b, 1, none⟩ = some dueV)
      (first | exact ⟨b0, b1⟩ | exact ⟨x0, x1⟩ | exact ⟨z0, z1⟩ | go_keep)
      (first
        | (go_at_call 121; refine (hSize_any (Nat.le_succ_of_le hN1) ⟨_, _, rfl⟩).mono ?_; rintro e w4 ⟨rfl, hb4⟩
           have hin4 := b_block hb4 hin3 hl3; have hO4 := hO3.drew.below hb4; have hb4' := hb3.drew.trans (hb4.mono (Nat.le_trans hB (Nat.le_of_lt hl3)))
           have x0 := cell_of_block hin4 0; have x1 := cell_of_block hin4 1; clear hin3 hO3 hb3 b0 b1 hb4)
        | (go_at_call 120; refine (hRaise_in hN1 hN2 hO4).mono ?_; rintro e w5 ⟨rfl, hO5, hg5⟩
           have hin5 := g_block hg5 hin4 hne; have hb5 := hb4'.trans (b_grown hg5 hgB (Nat.le_trans hB (Nat.le_of_lt (lt_of_block hin4))))
           have z0 := cell_of_block hin5 0; have z1 := cell_of_block hin5 1; clear hin4 hO4 hg5 x0 x1 hb4'))
    all_goals
      clear z0 z1 e1
      go_wp2
      go_end0
      exact ⟨rfl, _, hin5, HN.out ▸ hO5.own, hWA.trans hb5⟩

set_option maxRecDepth 100000 in
set_option maxHeartbeats 2000000 in
theorem iPushed_in {v : Value} {n : Nat} {f : Slots} (a b : Int) {w : World} (hn : n < 30) (h : RowAt w v n f) :
    Calls Tryz.prog 83 #[v, .agg #[.int .i64 a, .int .i64 b]] w (NewRowB (n + 1) (raiseF (putF f n (a, b)) n) true w) := by
  have k0 := (Below.refl w.heap.size w).alloc (Nat.le_refl _) (.cells #[.int .i64 a, .int .i64 b] 88)
  have HR := Lib.hid (h.below k0)
  have hS := heap_alloc_new w (.cells #[.int .i64 a, .int .i64 b] 88)
  have hs0 : w.heap.size < (w.alloc (.cells #[.int .i64 a, .int .i64 b] 88)).heap.size := by simp
  have HS := Lib.hid hS
  obtain ⟨va, vc, hv⟩ := h.form
  clear h hS
  have hn2 : (n : Int) < 30 := by omega
  have hd : decide ((30 : Int) ≤ (n : Int)) = false := by simp; omega
  subst hv
  go_enter Tryz.func83, Tryz.ntmps83
  go_wp2_with fail
  go_at_call 100; refine (heapFrom_any (by omega) HR.out).mono ?_; rintro e w1 ⟨v1, rfl, hO, hb⟩
  have hS1 := b_block hb HS.out hs0
  have hs1 := Nat.lt_of_lt_of_le hs0 hb.size
  have k1 := k0.trans (hb.mono k0.size)
  obtain ⟨a1, c1, hv1⟩ := hO.row.form
  have hin : HeapIn (w1.alloc (.cells #[v1, dueV] 125)) w1.heap.size v1 := heap_alloc_new w1 (.cells #[v1, dueV] 125)
  have hO1 := (hO.alloc (.cells #[v1, dueV] 125)).mono k0.size
  have k2 := k1.alloc k1.size (.cells #[v1, dueV] 125)
  have hS2 := alloc_block (.cells #[v1, dueV] 125) hS1
  have s0 := cell_of_block hS2 0
  have s1 := cell_of_block hS2 1
  have hBb : w.heap.size ≤ w1.heap.size := k1.size
  clear HS HR hO hb hS1 hS2 k1
  subst hv1
  go_wp2_with fail
  go_at_call 102; refine (hPush_any (by omega) hBb hin hO1).mono ?_; rintro e w2 ⟨rfl, v2, hin2, hO2, hb2⟩
  obtain ⟨a2, c2, hv2⟩ := hO2.row.form
  subst hv2
  have b0 := cell_of_block hin2 0
  have b1 := cell_of_block hin2 1
  have k3 := k2.trans hb2
  clear s0 s1 hin hO1 k2 hin2 hb2
  go_wp2
  go_ret2
  exact ⟨_, rfl, hO2, k3⟩

set_option maxRecDepth 100000 in
set_option maxHeartbeats 2000000 in
theorem iPushed_out {v : Value} {n : Nat} {f : Slots} (a b : Int) {w : World} (hn : ¬ n < 30) (hn1 : n ≤ 1048576) (h : RowAt w v n f) :
    Calls Tryz.prog 83 #[v, .agg #[.int .i64 a, .int .i64 b]] w (NewRowB n f false w) := by
  have k0 := (Below.refl w.heap.size w).alloc (Nat.le_refl _) (.cells #[.int .i64 a, .int .i64 b] 88)
  have HR := Lib.hid (h.below k0)
  obtain ⟨va, vc, hv⟩ := h.form
  clear h
  have hn2 : (30 : Int) ≤ (n : Int) := by omega
  have hd : decide ((30 : Int) ≤ (n : Int)) = true := by simp; omega
  subst hv
  go_enter Tryz.func83, Tryz.ntmps83
  go_wp2_with fail
  go_at_call 100; refine (heapFrom_any hn1 HR.out).mono ?_; rintro e w1 ⟨v1, rfl, hO, hb⟩
  have k1 := k0.trans (hb.mono k0.size)
  obtain ⟨a1, c1, hv1⟩ := hO.row.form
  have hin := heap_alloc_new w1 (.cells #[v1, dueV] 125)
  have hO1 := (hO.alloc (.cells #[v1, dueV] 125)).mono k0.size
  have k2 := k1.alloc k1.size (.cells #[v1, dueV] 125)
  have s0 := cell_of_block hin 0
  have s1 := cell_of_block hin 1
  clear HR hO hb k1 hin
  subst hv1
  go_wp2
  go_ret2
  exact ⟨_, rfl, hO1, k2⟩

theorem iPushed_holds : Pushes 83 := by
  intro v n f a b w hn h
  by_cases h30 : n < 30
  · rw [pushedN, if_pos h30, pushedF, if_pos h30, decide_eq_true h30]
    exact iPushed_in a b h30 h
  · rw [pushedN, if_neg h30, pushedF, if_neg h30, decide_eq_false h30]
    exact iPushed_out a b h30 hn h

end Go.Proofs.YtonpbmeekgdilaaGreat

/-
  The program's heap (chapter 2): one slot taken out.
-/
namespace Go.Proofs.YtonpbmeekgdilaaGreat
open Go.RowKit Go.Joins
set_option linter.unusedVariables false

/-- raised, whether there is such a slot or not -/
theorem hRaise_own {B g n cap : Nat} {f : Slots} {w : World} (i : Int) (hn : n ≤ 1048576) (h : OwnAt w B g n cap f) :
    Calls Tryz.prog 120 #[heapV (.slice (some ⟨g, 0, none⟩) n cap), .int .i64 i] w fun e w' => e = .returned (.tuple #[]) ∧ OwnAt w' B g n cap (raisedF f n i) ∧ w.grownBy w' (some g) := by
  cases hi : hasB n i
  · rw [raisedF_no hi]
    exact (hRaise_out hn hi ⟨_, _, rfl⟩).mono fun e w' ⟨he, hb⟩ => ⟨he, h.below hb, g_below hb _⟩
  · obtain ⟨i0, i1⟩ := hasB_iff.1 hi
    obtain ⟨k, rfl⟩ : ∃ k : Nat, i = k := ⟨i.toNat, by omega⟩
    rw [raisedF_has hi, Int.toNat_natCast]
    exact hRaise_in hn (by omega) h
/-- sunk, whether there is such a slot or not -/
theorem hSink_own {B g n cap : Nat} {f : Slots} {w : World} (i : Int) (hn : n ≤ 1048576) (h : OwnAt w B g n cap f) :
    Calls Tryz.prog 122 #[heapV (.slice (some ⟨g, 0, none⟩) n cap), .int .i64 i] w fun e w' => e = .returned (.tuple #[]) ∧ OwnAt w' B g n cap (sunkF f n i) ∧ w.grownBy w' (some g) := by
  cases hi : hasB n i
  · rw [sunkF_no hi]
    exact (hSink_out hn hi ⟨_, _, rfl⟩).mono fun e w' ⟨he, hb⟩ => ⟨he, h.below hb, g_below hb _⟩
  · obtain ⟨i0, i1⟩ := hasB_iff.1 hi
    obtain ⟨k, rfl⟩ : ∃ k : Nat, i = k := ⟨i.toNat, by omega⟩
    rw [sunkF_has hi, Int.toNat_natCast]
    exact hSink_in hn (by omega) h
/-- the last one in the place of the slot k, raised and sunk there: also where it was itself the last one -/
theorem pulled_same {f : Slots} {n k m : Nat} (hm : m = n - 1) (hk : k < m ∨ k = m) : sunkF (raisedF (putF f k (f m)) m k) m k = pulledF f n k := by
  subst hm
  rcases hk with hk | rfl
  · rw [pulledF_mid hk]
  · have hno : hasB (n - 1) ((n - 1 : Nat) : Int) = false := by
      cases h : hasB (n - 1) ((n - 1 : Nat) : Int)
      · rfl
      · have := hasB_iff.1 h; omega
    have hp : putF f (n - 1) (f (n - 1)) = f := by
      funext j
      by_cases e : j = n - 1
      · rw [e, putF_same]
      · exact putF_other f _ e
    rw [raisedF_no hno, sunkF_no hno, hp]
    by_cases hn : 0 < n
    · rw [pulledF_last (by omega) (by omega)]
    · have : n = 0 := by omega
      subst this
      rfl

set_option maxRecDepth 100000 in
set_option maxHeartbeats 2000000 in
theorem hPull_any {B b g n cap k : Nat} {f : Slots} {w : World} (hn : n ≤ 1048576) (hk : k < n) (hB : B ≤ b) (hin : HeapIn w b (.slice (some ⟨g, 0, none⟩) n cap)) (h : OwnAt w B g n cap f) :
    Calls Tryz.prog 107 #[.pointer (some ⟨b, 0, none⟩), .int .i64 k] w fun e w' => e = .returned (.agg #[.int .i64 (f k).1, .int .i64 (f k).2]) ∧
      ∃ v', HeapIn w' b v' ∧ OwnRow w' B v' (n - 1) (pulledF f n k) ∧ Below B w w' := by
  have hbl := lt_of_block hin
  have hgl := h.lt
  have hne := h.ne_heap hin
  have hgB := h.1
  have hcap := h.2.1
  have hBs : B ≤ w.heap.size := Nat.le_trans hB (Nat.le_of_lt hbl)
  have hz : w.heap.size < (w.alloc (.cells #[.int .i64 0, .int .i64 0] 88)).heap.size := by simp
  have hsz : (w.alloc (.cells #[.int .i64 0, .int .i64 0] 88)).heap.size = w.heap.size + 1 := by simp
  have kA := ((Below.refl B w).alloc hBs (.cells #[.int .i64 0, .int .i64 0] 88)).alloc (Nat.le_trans hBs (Nat.le_of_lt hz)) (.cells #[.int .i64 (f k).1, .int .i64 (f k).2] 88)
  have hinA : HeapIn ((w.alloc (.cells #[.int .i64 0, .int .i64 0] 88)).alloc (.cells #[.int .i64 (f k).1, .int .i64 (f k).2] 88)) b (.slice (some ⟨g, 0, none⟩) n cap) := alloc_block _ (alloc_block _ hin)
  have hOA := (h.alloc (.cells #[.int .i64 0, .int .i64 0] 88)).alloc (.cells #[.int .i64 (f k).1, .int .i64 (f k).2] 88)
  have HR0 := Lib.hid (alloc_block (.cells #[.int .i64 (f k).1, .int .i64 (f k).2] 88) (heap_alloc_new w (.cells #[.int .i64 0, .int .i64 0] 88)))
  have HR1 := heap_alloc_new (w.alloc (.cells #[.int .i64 0, .int .i64 0] 88)) (.cells #[.int .i64 (f k).1, .int .i64 (f k).2] 88)
  rw [hsz] at HR1
  have HR1 := Lib.hid HR1
  have hlA : w.heap.size + 1 < ((w.alloc (.cells #[.int .i64 0, .int .i64 0] 88)).alloc (.cells #[.int .i64 (f k).1, .int .i64 (f k).2] 88)).heap.size := by simp
  -- what is read ahead
  have hinZ : HeapIn (w.alloc (.cells #[.int .i64 0, .int .i64 0] 88)) b (.slice (some ⟨g, 0, none⟩) n cap) := alloc_block _ hin
  have a0 := cell_of_block hinZ 0
  obtain ⟨i0, i1⟩ := (h.alloc (.cells #[.int .i64 0, .int .i64 0] 88)).cells hk
  have b0 := cell_of_block hinA 0
  have b1 := cell_of_block hinA 1
  have hki : (k : Int) < (n : Int) := by omega
  clear hinZ hz
  go_enter Tryz.func107, Tryz.ntmps107
  go_wp2_with fail
  go_at_call 121; refine (hSize_any (Nat.le_succ_of_le hn) ⟨_, _, rfl⟩).mono ?_; rintro e w1 ⟨rfl, hb1⟩
  have hin1 := b_block hb1 hinA (Nat.lt_trans hbl (Nat.lt_trans (Nat.lt_succ_self _) hlA))
  have HR01 := Lib.hid (b_block hb1 HR0.out (Nat.lt_trans (Nat.lt_succ_self _) hlA))
  have HR11 := Lib.hid (b_block hb1 HR1.out hlA)
  have hO1 := hOA.below hb1
  have k1 := kA.trans (hb1.mono (Nat.le_trans hBs kA.size))
  have hm : ((n : Int) - 1) = ((n - 1 : Nat) : Int) := by omega
  obtain ⟨m, hmn⟩ : ∃ m : Nat, m = n - 1 := ⟨_, rfl⟩
  have e1 : IntKind.i64.wrap ((n : Int) - 1) = (m : Int) := by rw [IntKind.wrap_i64]; omega
  have HM := Lib.hid hmn
  have hmlt : m < n := by omega
  have hkm : k < m ∨ k = m := by omega
  have HKM := Lib.hid hkm
  have hm1048 : m ≤ 1048576 := by omega
  clear hm hmn hkm HR0 HR1 hlA hb1 hOA hinA kA a0 i0 i1 b0 b1 h hin
  have b0 : w1.cell? ⟨b, 0, none⟩ = some (.slice (some ⟨g, 0, none⟩) n cap) := cell_of_block hin1 0
  obtain ⟨p0, p1⟩ := hO1.cells hmlt
  obtain ⟨q0, q1⟩ := hO1.cells hk
  have f0 := hO1.free (k * 2)
  have f1 := hO1.free (k * 2 + 1)
  have hmi : (m : Int) < (n : Int) := by omega
  have hlt1 := hO1.lt
  have hO2 := (hO1.put hk (f m).1 (f m).2).drew
  have hg2 := g_drew (g_own (g_own (g_refl w1 (some g)) (k * 2) (.int .i64 (f m).1)) (k * 2 + 1) (.int .i64 (f m).2))
  go_wp2_with fail
  go_region
  all_goals
    clear b0 p0 p1 q0 q1 f0 f1 e1
    generalize World.drew _ = w2 at *
    have hin2 : HeapIn w2 b (.slice (some ⟨g, 0, none⟩) n cap) := g_block hg2 hin1 hne
    have HR02 := Lib.hid (g_block hg2 HR01.out (Nat.ne_of_gt hgl))
    have HR12 := Lib.hid (g_block hg2 HR11.out (Nat.ne_of_gt (Nat.lt_succ_of_lt hgl)))
    have k2 := k1.trans (b_grown hg2 hgB (Nat.le_trans hBs k1.size))
    have hbs2 : w.heap.size + 1 < w2.heap.size := lt_of_block HR12.out
    clear hin1 HR01 HR11 hO1 k1 hg2 hlt1
    have b0 : w2.cell? ⟨b, 0, none⟩ = some (.slice (some ⟨g, 0, none⟩) n cap) := cell_of_block hin2 0
    have b1 := unfrozen_of_block hin2 0
    have hcap2 : m ≤ cap := by omega
    have hO3 := (hO2.cut (Nat.le_of_lt hmlt)).block (Below.heap_setCell w2 ⟨b, 0, none⟩ (.slice (some ⟨g, 0, none⟩) m cap) g (fun e => hne e.symm))
    have hin3 : HeapIn (w2.setCell ⟨b, 0, none⟩ (.slice (some ⟨g, 0, none⟩) m cap)) b (.slice (some ⟨g, 0, none⟩) m cap) := block_setCell hin2 _
    have k3 := k2.setCell (p := ⟨b, 0, none⟩) hB (.slice (some ⟨g, 0, none⟩) m cap)
    have HR03 := Lib.hid ((Below.heap_setCell w2 ⟨b, 0, none⟩ (.slice (some ⟨g, 0, none⟩) m cap) w.heap.size (Nat.ne_of_gt hbl)).trans HR02.out)
    have HR13 := Lib.hid ((Below.heap_setCell w2 ⟨b, 0, none⟩ (.slice (some ⟨g, 0, none⟩) m cap) (w.heap.size + 1) (Nat.ne_of_gt (Nat.lt_succ_of_lt hbl))).trans HR12.out)
    have x0 := cell_of_block hin3 0
    have x1 := cell_of_block hin3 1
    clear hin2 HR02 HR12 k2 hO2
    go_wp2_with fail
    generalize w2.setCell ⟨b, 0, none⟩ (.slice (some ⟨g, 0, none⟩) m cap) = w3 at *
    clear hcap2 hbs2 b0 b1
    go_at_call 120; refine (hRaise_own (k : Int) hm1048 hO3).mono ?_; rintro e w4 ⟨rfl, hO4, hg4⟩
    have hin4 := g_block hg4 hin3 hne
    have HR04 := Lib.hid (g_block hg4 HR03.out (Nat.ne_of_gt hgl))
    have HR14 := Lib.hid (g_block hg4 HR13.out (Nat.ne_of_gt (Nat.lt_succ_of_lt hgl)))
    have k4 := k3.trans (b_grown hg4 hgB (Nat.le_trans hBs k3.size))
    have y0 := cell_of_block hin4 0
    have y1 := cell_of_block hin4 1
    clear x0 x1 hin3 HR03 HR13 k3 hg4 hO3
    go_wp2_with fail
    go_at_call 122; refine (hSink_own (k : Int) hm1048 hO4).mono ?_; rintro e w5 ⟨rfl, hO5, hg5⟩
    have hin5 := g_block hg5 hin4 hne
    have hR05 := g_block hg5 HR04.out (Nat.ne_of_gt hgl)
    have hR15 := g_block hg5 HR14.out (Nat.ne_of_gt (Nat.lt_succ_of_lt hgl))
    have k5 := k4.trans (b_grown hg5 hgB (Nat.le_trans hBs k4.size))
    have r0 := cell_of_block hR05 0
    have r1 := cell_of_block hR05 1
    have z0 := unfrozen_of_block hR05 0
    have z1 := unfrozen_of_block hR05 1
    have t0 := cell_of_block hR15 0
    have t1 := cell_of_block hR15 1
    have hin6 : HeapIn ((w5.setCell ⟨w.heap.size, 0, none⟩ (.int .i64 (f k).1)).setCell ⟨w.heap.size, 1, none⟩ (.int .i64 (f k).2)) b (.slice (some ⟨g, 0, none⟩) m cap) :=
      (Below.heap_setCell _ ⟨w.heap.size, 1, none⟩ _ b (Nat.ne_of_lt hbl)).trans ((Below.heap_setCell _ ⟨w.heap.size, 0, none⟩ _ b (Nat.ne_of_lt hbl)).trans hin5)
    have hO6 := (hO5.block (Below.heap_setCell w5 ⟨w.heap.size, 0, none⟩ (.int .i64 (f k).1) g (Nat.ne_of_lt hgl))).block (Below.heap_setCell (w5.setCell ⟨w.heap.size, 0, none⟩ (.int .i64 (f k).1)) ⟨w.heap.size, 1, none⟩ (.int .i64 (f k).2) g (Nat.ne_of_lt hgl))
    have k6 := (k5.setCell (p := ⟨w.heap.size, 0, none⟩) hBs (.int .i64 (f k).1)).setCell (p := ⟨w.heap.size, 1, none⟩) hBs (.int .i64 (f k).2)
    rw [pulled_same HM.out HKM.out] at hO6
    clear y0 y1 hin4 HR04 HR14 k4 hg5 hO4 hO5 hin5 k5 hR05 hR15
    go_wp2
    exact bodyPost_ret (v := .agg #[.int .i64 (f k).1, .int .i64 (f k).2]) (by simp [results, Tryz.results107, go_sem, r0, r1]) rfl
      ⟨rfl, _, hin6, HM.out ▸ hO6.own, k6⟩

end Go.Proofs.YtonpbmeekgdilaaGreat

/-
  The program's PulledOff (chapter 2).
-/
namespace Go.Proofs.YtonpbmeekgdilaaGreat
open Go.RowKit Go.Joins
set_option linter.unusedVariables false

set_option maxRecDepth 100000 in
set_option maxHeartbeats 2000000 in
theorem iPulled_out {v : Value} {n : Nat} {f : Slots} (i : Int) {w : World} (hn : n ≤ 1048576) (hi : hasB n i = false) (h : RowAt w v n f) :
    Calls Tryz.prog 87 #[v, .int .i64 i] w (NewRowS n f (0, 0) false w) := by
  have kb := (Below.refl w.heap.size w).alloc (Nat.le_refl _) (.cells #[.int .i64 0, .int .i64 0] 88)
  have hs0 : w.heap.size < (w.alloc (.cells #[.int .i64 0, .int .i64 0] 88)).heap.size := by simp
  have HR := Lib.hid (h.below kb)
  have HB := Lib.hid (heap_alloc_new w (.cells #[.int .i64 0, .int .i64 0] 88))
  clear h
  go_enter Tryz.func87, Tryz.ntmps87
  go_wp2_with fail
  go_at_call 100; refine (heapFrom_any hn HR.out).mono ?_; rintro e w1 ⟨v1, rfl, hO, hb1⟩
  have hform := hO.row.form
  obtain ⟨a1, c1, hv1⟩ := hO.row.form
  have k1 := kb.trans (hb1.mono kb.size)
  have hR1 := b_block hb1 HB.out hs0
  have hO1 := hO.alloc (.cells #[v1, dueV] 125)
  have k2 := k1.alloc k1.size (.cells #[v1, dueV] 125)
  have hl2 : w1.heap.size < (w1.alloc (.cells #[v1, dueV] 125)).heap.size := by simp
  have HH := Lib.hid (heap_alloc_new w1 (.cells #[v1, dueV] 125))
  have HR2 := Lib.hid (alloc_block (.cells #[v1, dueV] 125) hR1)
  have hr2 : w.heap.size < (w1.alloc (.cells #[v1, dueV] 125)).heap.size := Nat.lt_of_le_of_lt k1.size hl2
  clear HR HB hO hb1 k1 hR1 kb
  subst hv1
  go_wp2_with fail
  go_at_call 106; refine (hHas_is false hi (Nat.le_succ_of_le hn) hform).mono ?_; rintro e w3 ⟨rfl, hb3⟩
  have hH3 := b_block hb3 HH.out hl2
  have hR3 := b_block hb3 HR2.out hr2
  have a0 := cell_of_block hH3 0
  have a1 := cell_of_block hH3 1
  have r0 := cell_of_block hR3 0
  have r1 := cell_of_block hR3 1
  have f0 := unfrozen_of_block hR3 0
  have f1 := unfrozen_of_block hR3 1
  have hO3 := (((hO1.below hb3).set hs0 0 (.int .i64 0)).set hs0 1 (.int .i64 0)).mono (Nat.le_of_lt hs0)
  have k3 := ((k2.trans (hb3.mono k2.size)).setCell (p := ⟨w.heap.size, 0, none⟩) (Nat.le_refl _) (.int .i64 0)).setCell (p := ⟨w.heap.size, 1, none⟩) (Nat.le_refl _) (.int .i64 0)
  clear HH HR2 hO1 k2 hb3 hH3 hR3
  go_wp2
  exact bodyPost_ret (v := .tuple #[.slice _ n _, .agg #[.int .i64 0, .int .i64 0], .bool false]) (by simp [results, Tryz.results87, go_sem, r0, r1]) rfl
    ⟨_, rfl, hO3, k3⟩

set_option maxRecDepth 100000 in
set_option maxHeartbeats 2000000 in
theorem iPulled_in {v : Value} {n k : Nat} {f : Slots} {w : World} (hn : n ≤ 1048576) (hk : k < n) (h : RowAt w v n f) :
    Calls Tryz.prog 87 #[v, .int .i64 k] w (NewRowS (n - 1) (pulledF f n k) (f k) true w) := by
  have hi : hasB n (k : Int) = true := hasB_iff.2 ⟨by omega, by omega⟩
  have kb := (Below.refl w.heap.size w).alloc (Nat.le_refl _) (.cells #[.int .i64 0, .int .i64 0] 88)
  have hs0 : w.heap.size < (w.alloc (.cells #[.int .i64 0, .int .i64 0] 88)).heap.size := by simp
  have HR := Lib.hid (h.below kb)
  have HB := Lib.hid (heap_alloc_new w (.cells #[.int .i64 0, .int .i64 0] 88))
  clear h
  go_enter Tryz.func87, Tryz.ntmps87
  go_wp2_with fail
  go_at_call 100; refine (heapFrom_any hn HR.out).mono ?_; rintro e w1 ⟨v1, rfl, hO, hb1⟩
  rcases hO with ⟨rfl, _⟩ | ⟨g, cap, rfl, hO⟩
  · omega
  have hform : ∃ a c, Value.slice (some ⟨g, 0, none⟩) n cap = .slice a n c := ⟨_, _, rfl⟩
  have k1 := kb.trans (hb1.mono kb.size)
  have hR1 := b_block hb1 HB.out hs0
  have hO1 := hO.alloc (.cells #[(.slice (some ⟨g, 0, none⟩) n cap), dueV] 125)
  have k2 := k1.alloc k1.size (.cells #[(.slice (some ⟨g, 0, none⟩) n cap), dueV] 125)
  have hl2 : w1.heap.size < (w1.alloc (.cells #[(.slice (some ⟨g, 0, none⟩) n cap), dueV] 125)).heap.size := by simp
  have HH := Lib.hid (heap_alloc_new w1 (.cells #[(.slice (some ⟨g, 0, none⟩) n cap), dueV] 125))
  have HR2 := Lib.hid (alloc_block (.cells #[(.slice (some ⟨g, 0, none⟩) n cap), dueV] 125) hR1)
  have hr2 : w.heap.size < (w1.alloc (.cells #[(.slice (some ⟨g, 0, none⟩) n cap), dueV] 125)).heap.size := Nat.lt_of_le_of_lt k1.size hl2
  have hBw := hb1.size
  clear HR HB hO hb1 k1 hR1 kb
  go_wp2_with fail
  go_at_call 106; refine (hHas_is true hi (Nat.le_succ_of_le hn) hform).mono ?_; rintro e w3 ⟨rfl, hb3⟩
  have hin3 : HeapIn w3 w1.heap.size (.slice (some ⟨g, 0, none⟩) n cap) := b_block hb3 HH.out hl2
  have HR3 := Lib.hid (b_block hb3 HR2.out hr2)
  have hO3 := hO1.below hb3
  have k3 := k2.trans (hb3.mono k2.size)
  clear HH HR2 hO1 k2 hb3
  go_wp2_with fail
  go_at_call 107; refine (hPull_any hn hk hBw hin3 hO3).mono ?_; rintro e w4 ⟨rfl, v4, hin4, hO4, hb4⟩
  obtain ⟨a4, c4, hv4⟩ := hO4.row.form
  have HR4 := b_block hb4 HR3.out hs0
  have k4 := k3.trans (hb4.mono (Nat.le_of_lt hs0))
  have hP := heap_alloc_new w4 (.cells #[.int .i64 (f k).1, .int .i64 (f k).2] 88)
  have hin5 := alloc_block (.cells #[.int .i64 (f k).1, .int .i64 (f k).2] 88) hin4
  have HR5 := alloc_block (.cells #[.int .i64 (f k).1, .int .i64 (f k).2] 88) HR4
  have a0 := cell_of_block hin5 0
  have a1 := cell_of_block hin5 1
  have p0 := cell_of_block hP 0
  have p1 := cell_of_block hP 1
  have r0 := cell_of_block HR5 0
  have r1 := cell_of_block HR5 1
  have f0 := unfrozen_of_block HR5 0
  have f1 := unfrozen_of_block HR5 1
  have hO5 := (((hO4.alloc (.cells #[.int .i64 (f k).1, .int .i64 (f k).2] 88)).set hs0 0 (.int .i64 (f k).1)).set hs0 1 (.int .i64 (f k).2)).mono (Nat.le_of_lt hs0)
  have k5 := ((k4.alloc k4.size (.cells #[.int .i64 (f k).1, .int .i64 (f k).2] 88)).setCell (p := ⟨w.heap.size, 0, none⟩) (Nat.le_refl _) (.int .i64 (f k).1)).setCell (p := ⟨w.heap.size, 1, none⟩) (Nat.le_refl _) (.int .i64 (f k).2)
  clear hin3 HR3 hO3 k3 hin4 hO4 hb4 HR4 k4 hP hin5 HR5
  subst hv4
  go_wp2_with fail
  go_region
  all_goals
    go_wp2
    exact bodyPost_ret (v := .tuple #[.slice a4 (n - 1) c4, .agg #[.int .i64 (f k).1, .int .i64 (f k).2], .bool true]) (by simp [results, Tryz.results87, go_sem, r0, r1]) rfl
      ⟨_, rfl, hO5.drew, k5.drew⟩

theorem iPulled_holds : Pulls 87 := by
  intro v n f i w hn h
  cases hi : hasB n i
  · rw [pulledN, pulledF, pulledS, hi]
    exact iPulled_out i hn hi h
  · obtain ⟨i0, i1⟩ := hasB_iff.1 hi
    obtain ⟨k, rfl⟩ : ∃ k : Nat, i = k := ⟨i.toNat, by omega⟩
    rw [pulledN, pulledS, hi, if_pos rfl, if_pos rfl, Int.toNat_natCast]
    exact iPulled_in hn (by omega) h

end Go.Proofs.YtonpbmeekgdilaaGreat

/-
  A time, and that much later (chapter 1), in the program.
-/
namespace Go.Proofs.YtonpbmeekgdilaaGreat
open Go.RowKit
set_option linter.unusedVariables false

set_option maxHeartbeats 400000 in
theorem after_any (t d : Int) (w : World) :
    Calls Tryz.prog 89 #[.int .i64 t, .int .i64 d] w fun e w' => e = .returned (.int .i64 (afterI t d)) ∧ w = w' := by
  cases h1 : inB t 0 1000000000
  · rw [afterI_no h1]
    go_enter Tryz.func89, Tryz.ntmps89
    go_wp2_with (go_at_call 110; refine (isTime_any _ _).mono ?_; rintro e w' ⟨rfl, rfl⟩)
    go_ret
    exact ⟨rfl, rfl⟩
  · obtain ⟨b1, b2⟩ := inB_iff.1 h1
    by_cases h2 : d < 0
    · rw [afterI_neg h1 h2]
      go_enter Tryz.func89, Tryz.ntmps89
      go_wp2_with (go_at_call 110; refine (isTime_any _ _).mono ?_; rintro e w' ⟨rfl, rfl⟩)
      go_ret
      exact ⟨rfl, rfl⟩
    · by_cases h3 : d ≤ 1000000000
      · by_cases h4 : t + d ≤ 1000000000
        · rw [afterI_in h1 h4 (by omega)]
          go_enter Tryz.func89, Tryz.ntmps89
          go_wp2_with (go_at_call 110; refine (isTime_any _ _).mono ?_; rintro e w' ⟨rfl, rfl⟩)
          go_ret
          exact ⟨rfl, rfl⟩
        · rw [afterI_far h1 (by omega) (by omega)]
          go_enter Tryz.func89, Tryz.ntmps89
          go_wp2_with (go_at_call 110; refine (isTime_any _ _).mono ?_; rintro e w' ⟨rfl, rfl⟩)
          go_ret
          exact ⟨rfl, rfl⟩
      · rw [afterI_far h1 (by omega) (by omega)]
        by_cases h4 : t + 1000000000 ≤ 1000000000
        · have h5 : t = 0 := by omega
          subst h5
          go_enter Tryz.func89, Tryz.ntmps89
          go_wp2_with (go_at_call 110; refine (isTime_any _ _).mono ?_; rintro e w' ⟨rfl, rfl⟩)
          go_ret
          exact ⟨rfl, rfl⟩
        · go_enter Tryz.func89, Tryz.ntmps89
          go_wp2_with (go_at_call 110; refine (isTime_any _ _).mono ?_; rintro e w' ⟨rfl, rfl⟩)
          go_ret
          exact ⟨rfl, rfl⟩

end Go.Proofs.YtonpbmeekgdilaaGreat

/-
  Tidying up, in the program (chapter 6): into a heap, out of it; the top.
-/
namespace Go.Proofs.YtonpbmeekgdilaaGreat
open Go.RowKit Go.Joins
set_option linter.unusedVariables false

theorem OpenX.setT0 {w : World} {B mb tg n tc g : Nat} {a b c : Int} {V : Nat → Value} {M : Me} (h : OpenX w B mb a b c (.slice (some ⟨tg, 0, none⟩) n tc) g V M) {k : Nat} (hk : k < M.tn) (x : Int) :
    OpenX (w.setCell ⟨tg, k * 8, none⟩ (.int .i64 x)) B mb a b c (.slice (some ⟨tg, 0, none⟩) n tc) g V (setTm M k 0 x) := h.setT (j := 0) hk (by decide) x

set_option maxRecDepth 100000 in
set_option maxHeartbeats 8000000 in
theorem putIn_any {B mb g t k : Nat} {a b c : Int} {tv : Value} {V : Nat → Value} {M : Me} {w : World} (hB : B ≤ w.heap.size) (ht : t < M.tn) (hk : k < M.pn) (hn : (M.p k).n ≤ 1048576) (wh : Int) (h : OpenX w B mb a b c tv g V M) :
    Calls Tryz.prog 58 #[ptrV mb, .int .i64 (t : Int), .int .i64 (k : Int), .int .i64 wh] w fun x w' => x = .returned (.tuple #[]) ∧ InX B mb a b c tv g (putM M t k wh) w w' := by
  obtain ⟨tg, tc, rfl⟩ := h.tms ht
  have i0 : (0 : Int) ≤ (k : Int) := by omega
  have i1 : (k : Int) < (M.pn : Int) := by omega
  have i2 : (0 : Int) ≤ (t : Int) := by omega
  have i3 : (t : Int) < (M.tn : Int) := by omega
  obtain ⟨m0, m1, m2, m3, m4, m5⟩ := six h.m
  go_enter Tryz.func58, Tryz.ntmps58
  go_wp2_with fail
  go_region
  have h0 : OpenX w.drew B mb a b c (.slice (some ⟨tg, 0, none⟩) M.tn tc) g V M := h.below (Below.refl _ w).drew
  have k0 : Wx B w w.drew := .of_new (Below.refl _ w).drew hB
  clear m0 m1 m2 m3 m4 m5 h
  generalize w.drew = w1 at h0 k0 ⊢
  obtain ⟨⟨t0, t1, _, _, t4, _⟩, tf⟩ := h0.tcells ht
  have f0 := tf (t * 8)
  have f1 := tf (t * 8 + 1)
  have f4 := tf (t * 8 + 4)
  have h1 := ((h0.setT0 ht 1).setT (k := t) (j := 1) ht (by decide) wh).setT (k := t) (j := 4) ht (by decide) (k : Int)
  have k1 := ((k0.setT h0 (t * 8) (.int .i64 1)).setT (h0.setT0 ht 1) (t * 8 + 1) (.int .i64 wh)).setT ((h0.setT0 ht 1).setT (k := t) (j := 1) ht (by decide) wh) (t * 8 + 4) (.int .i64 (k : Int))
  clear tf h0 k0
  go_upto_region 2 with fail
  generalize ((w1.setCell ⟨tg, t * 8, none⟩ (.int .i64 1)).setCell ⟨tg, t * 8 + 1, none⟩ (.int .i64 wh)).setCell ⟨tg, t * 8 + 4, none⟩ (.int .i64 (k : Int)) = w2 at h1 k1 ⊢
  clear t0 t1 t4 f0 f1 f4
  have hB2 : B ≤ w2.heap.size := Nat.le_trans hB k1.below.size
  obtain ⟨N, hN⟩ : ∃ N : Me, N = setTm (setTm (setTm M t 0 1) t 1 wh) t 4 (k : Int) := ⟨_, rfl⟩
  have eN1 : N.p k = M.p k := by rw [hN]; rfl
  have eN2 : putM M t k wh = setHp N k (pushedN (N.p k).n) (pushedF (N.p k).f (N.p k).n ((t : Int), wh)) := by rw [eN1, hN]; rfl
  have eN3 : N.pn = M.pn := by rw [hN]; rfl
  have E2 := Lib.hid eN2
  rw [← hN] at h1
  have hk2 : k < N.pn := by omega
  rw [← eN1] at hn
  clear eN1 eN2 eN3 hN
  obtain ⟨⟨ra, rc, hrow, p1⟩, p2, p3, pf⟩ := h1.pcells hk2
  clear p2 p3 pf
  go_wp2_with fail
  go_at_call 83; refine (iPushed_holds _ _ _ _ _ _ hn hrow).mono ?_; rintro x w5 ⟨v, rfl, hO, hb⟩
  have h5 := h1.below hb
  obtain ⟨⟨ra5, rc5, _, q1⟩, _, _, pf⟩ := h5.pcells hk2
  have pf1 := pf (k * 4 + 1)
  have h6 := h1.setNew hB2 hb hk2 hO
  have k6 := (k1.new hb hB).setP h5 (k * 4 + 1) v
  obtain ⟨oa, oc, ho⟩ := hO.value
  subst ho
  clear p1 pf h5 h1 hrow hO hb k1
  go_wp2
  go_end0
  exact ⟨rfl, by rw [E2.out]; exact ⟨_, h6, k6⟩⟩

set_option maxRecDepth 100000 in
set_option maxHeartbeats 8000000 in
theorem takeOut_any {B mb g t k : Nat} {a b c : Int} {tv : Value} {V : Nat → Value} {M : Me} {w : World} (hB : B ≤ w.heap.size) (ht : t < M.tn) (hk : k < M.pn) (hn : (M.p k).n ≤ 1048576) (hpl : (M.t t).pl = (k : Int)) (h : OpenX w B mb a b c tv g V M) :
    Calls Tryz.prog 70 #[ptrV mb, .int .i64 (t : Int)] w fun x w' => x = .returned (.tuple #[]) ∧ InX B mb a b c tv g (takeM M t k) w w' := by
  obtain ⟨tg, tc, rfl⟩ := h.tms ht
  have i0 : (0 : Int) ≤ (k : Int) := by omega
  have i1 : (k : Int) < (M.pn : Int) := by omega
  have i2 : (0 : Int) ≤ (t : Int) := by omega
  have i3 : (t : Int) < (M.tn : Int) := by omega
  obtain ⟨m0, m1, m2, m3, m4, m5⟩ := six h.m
  obtain ⟨⟨_, _, _, _, t4, _⟩, _⟩ := h.tcells ht
  rw [hpl] at t4
  clear hpl
  go_enter Tryz.func70, Tryz.ntmps70
  go_wp2_with fail
  go_region
  have h0 : OpenX w.drew B mb a b c (.slice (some ⟨tg, 0, none⟩) M.tn tc) g V M := h.below (Below.refl _ w).drew
  have k0 : Wx B w w.drew := .of_new (Below.refl _ w).drew hB
  clear m0 m1 m2 m3 m4 m5 h t4
  generalize w.drew = w1 at h0 k0 ⊢
  have hB1 : B ≤ w1.heap.size := Nat.le_trans hB k0.below.size
  obtain ⟨⟨ra, rc, hrow, p1⟩, _, _, _⟩ := h0.pcells hk
  go_wp2_with fail
  go_region_law (first
    | (go_simp; go_at_call 88; refine (iFindSlot_holds _ _ _ _ _ hn hrow.drew).mono ?_; rintro x w4 ⟨rfl, hb4⟩
       replace hb4 := (Below.refl _ w1).drew.trans (hb4.mono (Nat.le_refl _))
       have hrow4 := hrow.below hb4
       have h4 := h0.below hb4
       obtain ⟨⟨ra4, rc4, _, r1⟩, _, _, _⟩ := h4.pcells hk
       have r1' := (hb4.cell (p := ⟨g, k * 4 + 1, none⟩) h0.l.lt).trans p1
       clear r1)
    | (go_simp; go_at_call 87; refine (iPulled_holds _ _ _ _ _ hn hrow4).mono ?_; rintro x w5 ⟨v, rfl, hO, hb5⟩
       have h5 := h4.below hb5
       obtain ⟨⟨ra5, rc5, _, q1⟩, _, _, pf⟩ := h5.pcells hk
       have pf1 := pf (k * 4 + 1)
       have hO5 := hO.mono hb4.size
       have hb05 := hb4.trans (hb5.mono hb4.size)
       have hv := hO.value
       obtain ⟨oa, oc, ho⟩ := hv
       subst ho
       clear hO pf))
  all_goals
    have h6 := h0.setNew hB1 hb05 hk hO5
    have k6 := (k0.new hb05 hB).setP h5 (k * 4 + 1) (.slice oa (pulledN (M.p k).n (findM (M.p k).f (M.p k).n (t : Int))) oc)
    clear h0 k0 hrow p1 hrow4 h4 r1' h5 q1 pf1 hO5 hb4 hb5 hb05
    generalize w5.setCell ⟨g, k * 4 + 1, none⟩ (.slice oa (pulledN (M.p k).n (findM (M.p k).f (M.p k).n (t : Int))) oc) = w6 at h6 k6 ⊢
    obtain ⟨⟨_, _, _, _, t4, _⟩, tf⟩ := h6.tcells ht
    have f4 := tf (t * 8 + 4)
    have h7 := h6.setT (k := t) (j := 4) ht (by decide) (-1)
    have k7 := k6.setT h6 (t * 8 + 4) (.int .i64 (-1))
    clear tf h6 k6
    go_wp2
    go_end0
    exact ⟨rfl, _, h7, k7⟩

end Go.Proofs.YtonpbmeekgdilaaGreat

/-
  Tidying up, in the program (chapter 6): armed, rung, set to its next time; out of a heap for good, elsewhere in it.
-/
namespace Go.Proofs.YtonpbmeekgdilaaGreat
open Go.RowKit Go.Joins
set_option linter.unusedVariables false

theorem ret_i {a b : Int} (h : a = b) : Ending.returned (.int .i64 a) = .returned (.int .i64 b) := by rw [h]
theorem tm_eight {w : World} {b : Nat} {t : Tm} {ty : TypeId} (h : w.heap[b]? = some (.cells (tmCells t) ty (0, 0))) :
    w.cell? ⟨b, 0, none⟩ = some (.int .i64 t.st) ∧ w.cell? ⟨b, 1, none⟩ = some (.int .i64 t.wh) ∧ w.cell? ⟨b, 3, none⟩ = some (.int .i64 t.pe) ∧ w.cell? ⟨b, 4, none⟩ = some (.int .i64 t.pl) :=
  ⟨cell_of_block h 0, cell_of_block h 1, cell_of_block h 3, cell_of_block h 4⟩

set_option maxRecDepth 100000 in
set_option maxHeartbeats 4000000 in
theorem nextRing_any {c : Int} {T : Tm} {w : World} (hc : 0 ≤ c ∧ c ≤ 999999999) (hw : 0 ≤ T.wh ∧ T.wh ≤ 1000000000) (hp : 0 < T.pe ∧ T.pe ≤ 1000000000) :
    Calls Tryz.prog 71 #[tmV T, .int .i64 c] w fun x w' => x = .returned (.int .i64 (nextI c T)) ∧ Below w.heap.size w w' := by
  have hb := times_bound (c := c) (t := T) (by omega) hw hp
  obtain ⟨L, hL⟩ : ∃ L : Int, L = if T.wh < c then c - T.wh else 0 := ⟨_, rfl⟩
  have hL0 : 0 ≤ L ∧ L ≤ 999999999 := by subst hL; split <;> omega
  obtain ⟨q, hq⟩ : ∃ q : Int, q = L / T.pe := ⟨_, rfl⟩
  have hq1 : timesI c T = q + 1 := by
    unfold timesI
    subst hq hL
    split
    · omega
    · simp
  have hq0 : 0 ≤ q := by rw [hq]; exact Int.ediv_nonneg hL0.1 (by omega)
  have HN := Lib.hid (next_after (c := c) (t := T) hw hp.1 hq1 hq0)
  rw [hq1] at hb
  have w1 : IntKind.i64.wrap (q + 1) = q + 1 := IntWalk.i64_in _ (by omega)
  have w2 : IntKind.i64.wrap ((q + 1) * T.pe) = (q + 1) * T.pe := IntWalk.i64_in _ (by rw [Int.mul_comm]; omega)
  have td : L.tdiv T.pe = q := by rw [hq]; exact Int.tdiv_eq_ediv_of_nonneg hL0.1
  have p0 : (T.pe == 0) = false := by simp; omega
  have p1 : ¬ T.pe = 0 := by omega
  have FN := Lib.hid (fun (z : Int) (hz : IntKind.i64.wrap z = q) => (show afterI T.wh (IntKind.i64.wrap (IntKind.i64.wrap (IntKind.i64.wrap z + 1) * T.pe)) = nextI c T by rw [hz, w1, w2, HN.out]))
  have Z1 := Lib.hid (fun (z : Int) (hz : z = L) => (show IntKind.i64.wrap (z.tdiv T.pe) = q by rw [hz, td]; exact IntWalk.i64_in _ (by omega)))
  have Z0 := Lib.hid (fun (hz : L = 0) => (show IntKind.i64.wrap 0 = q by rw [hq, hz, Int.zero_ediv]; exact IntWalk.i64_in _ (by omega)))
  have k0 := (Below.refl w.heap.size w).alloc (Nat.le_refl _) (.cells (tmCells T) 70)
  have hT := heap_alloc_new w (.cells (tmCells T) 70)
  obtain ⟨c0, c1, c3, c4⟩ := tm_eight hT
  have hl := lt_of_block hT
  clear w1 w2 td hq hq1 hb HN
  by_cases hlt : T.wh < c
  · rw [if_pos hlt] at hL
    have l1 : 0 < c - T.wh := by omega
    go_enter Tryz.func71, Tryz.ntmps71
    go_wp2_with fail
    go_region_held3 (fun w' => w'.cell? ⟨w.heap.size, 1, none⟩ = some (.int .i64 T.wh) ∧ w'.cell? ⟨w.heap.size, 3, none⟩ = some (.int .i64 T.pe))
      (first | exact ⟨c1, c3⟩ | go_keep)
      ((go_at_call 89; refine (after_any _ _ _).mono ?_; rintro x w5 ⟨rfl, rfl⟩))
    go_wp2
    go_ret
    exact ⟨ret_i (FN.out _ (Z1.out _ hL.symm)), k0.drew⟩
  · rw [if_neg hlt] at hL
    have l1 : ¬ 0 < c - T.wh := by omega
    go_enter Tryz.func71, Tryz.ntmps71
    go_wp2_with fail
    all_goals
      go_region_held3 (fun w' => w'.cell? ⟨w.heap.size, 1, none⟩ = some (.int .i64 T.wh) ∧ w'.cell? ⟨w.heap.size, 3, none⟩ = some (.int .i64 T.pe))
        (first | exact ⟨c1, c3⟩ | go_keep)
        ((go_at_call 89; refine (after_any _ _ _).mono ?_; rintro x w5 ⟨rfl, rfl⟩))
      go_wp2
      go_ret
      first
        | exact ⟨ret_i (FN.out _ (Z0.out hL)), k0.drew⟩
        | exact ⟨ret_i (FN.out _ (Z1.out _ (by omega))), k0.drew⟩

set_option maxRecDepth 100000 in
set_option maxHeartbeats 4000000 in
theorem moveTo_any {B mb g t k : Nat} {a b c : Int} {tv : Value} {V : Nat → Value} {M : Me} {w : World} (hB : B ≤ w.heap.size) (ht : t < M.tn) (hk : k < M.pn) (hn : (M.p k).n ≤ 1048576) (hpl : (M.t t).pl = (k : Int)) (wh : Int) (h : OpenX w B mb a b c tv g V M) :
    Calls Tryz.prog 68 #[ptrV mb, .int .i64 (t : Int), .int .i64 wh] w fun x w' => x = .returned (.tuple #[]) ∧ InX B mb a b c tv g (putM (takeM M t k) t k wh) w w' := by
  obtain ⟨tg, tc, rfl⟩ := h.tms ht
  have i2 : (0 : Int) ≤ (t : Int) := by omega
  have i3 : (t : Int) < (M.tn : Int) := by omega
  obtain ⟨m0, m1, m2, m3, m4, m5⟩ := six h.m
  obtain ⟨⟨_, _, _, _, t4, _⟩, _⟩ := h.tcells ht
  rw [hpl] at t4
  have HT := Lib.hid (takeOut_any hB ht hk hn hpl h)
  have hn2 : ((takeM M t k).p k).n ≤ 1048576 := Nat.le_trans (pullM_n _ _ _ _) hn
  clear hpl h
  go_enter Tryz.func68, Tryz.ntmps68
  go_wp2_with fail
  go_at_call 70; refine HT.out.mono ?_; rintro x w1 ⟨rfl, V1, h1, k1⟩
  clear m0 m1 m2 m3 m4 m5 t4 HT
  go_wp2_with fail
  go_at_call 58; refine (putIn_any (M := takeM M t k) (Nat.le_trans hB k1.below.size) ht hk hn2 wh h1).mono ?_; rintro x w2 ⟨rfl, V2, h2, k2⟩
  clear h1
  go_wp2
  go_end0
  exact ⟨rfl, _, h2, k1.trans k2⟩

set_option maxRecDepth 100000 in
set_option maxHeartbeats 8000000 in
theorem remove_any {B mb g t k : Nat} {a b c : Int} {tv : Value} {V : Nat → Value} {M : Me} {w : World} (hB : B ≤ w.heap.size) (ht : t < M.tn) (hk : k < M.pn) (hn : (M.p k).n ≤ 1048576) (hpl : (M.t t).pl = (k : Int)) (hd : 0 ≤ (M.p k).d) (hd2 : (M.p k).d ≤ 1048576) (h : OpenX w B mb a b c tv g V M) :
    Calls Tryz.prog 67 #[ptrV mb, .int .i64 (t : Int)] w fun x w' => x = .returned (.tuple #[]) ∧ InX B mb a b c tv g (setTm (takeM (setPc M k 3 ((M.p k).d - 1)) t k) t 0 7) w w' := by
  obtain ⟨tg, tc, rfl⟩ := h.tms ht
  have i0 : (0 : Int) ≤ (k : Int) := by omega
  have i1 : (k : Int) < (M.pn : Int) := by omega
  have i2 : (0 : Int) ≤ (t : Int) := by omega
  have i3 : (t : Int) < (M.tn : Int) := by omega
  obtain ⟨m0, m1, m2, m3, m4, m5⟩ := six h.m
  obtain ⟨⟨_, _, _, _, t4, _⟩, _⟩ := h.tcells ht
  obtain ⟨_, _, p3, pf⟩ := h.pcells hk
  have pf3 := pf (k * 4 + 3)
  rw [hpl] at t4
  have hpl2 : ((setPc M k 3 ((M.p k).d - 1)).t t).pl = (k : Int) := hpl
  have hn2 : ((setPc M k 3 ((M.p k).d - 1)).p k).n ≤ 1048576 := by rw [setPc_n]; exact hn
  have h1 : OpenX ((w.setCell ⟨g, k * 4 + 3, none⟩ (.int .i64 ((M.p k).d - 1))).drew) B mb a b c (.slice (some ⟨tg, 0, none⟩) M.tn tc) g V (setPc M k 3 ((M.p k).d - 1)) := (h.setP (j := 3) hk (.inr rfl) ((M.p k).d - 1)).below (Below.refl _ _).drew
  have k1 : Wx B w ((w.setCell ⟨g, k * 4 + 3, none⟩ (.int .i64 ((M.p k).d - 1))).drew) := ((Wx.refl B w).setP h (k * 4 + 3) _).new (Below.refl _ _).drew hB
  obtain ⟨N, hN⟩ : ∃ N : Me, N = setPc M k 3 ((M.p k).d - 1) := ⟨_, rfl⟩
  have hN1 : N.tn = M.tn := by rw [hN]; rfl
  have hN2 : N.pn = M.pn := by rw [hN]; rfl
  rw [← hN] at h1 hpl2 hn2 ⊢
  have ht2 : t < N.tn := by omega
  have hk2 : k < N.pn := by omega
  clear hpl pf h hN hN1 hN2
  go_enter Tryz.func67, Tryz.ntmps67
  go_wp2_with fail
  go_region
  generalize (w.setCell ⟨g, k * 4 + 3, none⟩ (.int .i64 ((M.p k).d - 1))).drew = w1 at h1 k1 ⊢
  clear m0 m1 m2 m3 m4 m5 t4 p3 pf3
  go_wp2_with fail
  go_at_call 70; refine (takeOut_any (M := N) (Nat.le_trans hB k1.below.size) ht2 hk2 hn2 hpl2 h1).mono ?_; rintro x w2 ⟨rfl, V2, h2, k2⟩
  have ht3 : t < (takeM N t k).tn := ht2
  obtain ⟨⟨t0, _, _, _, _, _⟩, tf⟩ := h2.tcells ht3
  have f0 := tf (t * 8)
  have h3 := h2.setT0 ht3 7
  have k3 := (k1.trans k2).setT h2 (t * 8) (.int .i64 7)
  clear tf h1 h2 k1 k2
  go_wp2
  go_end0
  exact ⟨rfl, _, h3, k3⟩

set_option maxRecDepth 100000 in
set_option maxHeartbeats 8000000 in
theorem arm_any {B mb g t k : Nat} {a b c : Int} {tv : Value} {V : Nat → Value} {M : Me} {w : World} (hB : B ≤ w.heap.size) (ht : t < M.tn) (hk : k < M.pn) (hn : (M.p k).n ≤ 1048576) (h : OpenX w B mb a b c tv g V M) :
    Calls Tryz.prog 30 #[ptrV mb, .int .i64 (t : Int), .int .i64 (k : Int)] w fun x w' => x = .returned (.bool (armedB M t)) ∧ InX B mb a b c tv g (armedM M t k) w w' := by
  obtain ⟨tg, tc, rfl⟩ := h.tms ht
  have i2 : (0 : Int) ≤ (t : Int) := by omega
  have i3 : (t : Int) < (M.tn : Int) := by omega
  obtain ⟨m0, m1, m2, m3, m4, m5⟩ := six h.m
  obtain ⟨⟨t0, t1, t2, t3, t4, t5, t6, t7⟩, _⟩ := h.tcells ht
  have hW := Lib.hid (putIn_any (t := t) (k := k) (B := B) (mb := mb) (g := g) (a := a) (b := b) (c := c) (tv := .slice (some ⟨tg, 0, none⟩) M.tn tc) (V := V) (M := M) (w := w.alloc (.cells (tmCells (M.t t)) 70)) (by simp; omega) ht hk hn (M.t t).wh (h.below ((Below.refl _ w).alloc (Nat.le_refl _) _)))
  rw [put_push] at hW
  obtain ⟨T, hT⟩ : ∃ T, T = M.t t := ⟨_, rfl⟩
  have hq : armedB M t = (T.st == 2 && T.pl == -1) := by rw [hT]; rfl
  have e1 : armedB M t = true → armedM M t k = pushM M t k := fun e => by rw [armedM, if_pos e]
  have e2 : armedB M t = false → armedM M t k = M := fun e => by rw [armedM, e]; rfl
  rw [← hT] at t0 t1 t2 t3 t4 t5 t6 t7 hW
  have h1 : OpenX (w.alloc (.cells (tmCells T) 70)) B mb a b c (.slice (some ⟨tg, 0, none⟩) M.tn tc) g V M := h.below ((Below.refl _ w).alloc (Nat.le_refl _) _)
  have k1 : Wx B w (w.alloc (.cells (tmCells T) 70)) := .of_new ((Below.refl _ w).alloc (Nat.le_refl _) _) hB
  have hx := heap_alloc_new w (.cells (tmCells T) 70)
  have HQ := Lib.hid hq
  have E1 := Lib.hid e1
  have E2 := Lib.hid e2
  clear hT h e1 e2 hq
  by_cases c1 : T.st = 2
  · have c1a : (T.st == 2) = true := by rw [c1]; rfl
    have c1b : (T.st != 2) = false := by rw [c1]; rfl
    by_cases c2 : T.pl = -1
    · have c2b : (T.pl != -1) = false := by rw [c2]; rfl
      have q : armedB M t = true := by rw [HQ.out, c1a, c2]; rfl
      rw [E1.out q, q]
      clear c1 c2 c1a HQ E1 E2 q
      go_enter Tryz.func30, Tryz.ntmps30
      go_upto_region 2 with fail
      generalize w.alloc (.cells (tmCells T) 70) = w1 at h1 k1 hx hW ⊢
      clear m0 m1 m2 m3 m4 m5 t0 t1 t2 t3 t4 t5 t6 t7
      obtain ⟨x0, x1, x3, x4⟩ := tm_eight hx
      go_wp2_with fail
      go_at_call 58; refine hW.out.mono ?_; rintro x w2 ⟨rfl, V2, h2, k2⟩
      go_wp2
      go_ret
      exact ⟨rfl, _, h2, k1.trans k2⟩
    · have c2b : (T.pl != -1) = true := by simpa using c2
      have q : armedB M t = false := by rw [HQ.out, c1a]; simpa using c2
      rw [E2.out q, q]
      clear c1 c2 c1a HQ E1 E2 q hW
      go_enter Tryz.func30, Tryz.ntmps30
      go_upto_region 2 with fail
      generalize w.alloc (.cells (tmCells T) 70) = w1 at h1 k1 hx ⊢
      clear m0 m1 m2 m3 m4 m5 t0 t1 t2 t3 t4 t5 t6 t7
      obtain ⟨x0, x1, x3, x4⟩ := tm_eight hx
      go_wp2
      go_ret
      exact ⟨rfl, _, h1, k1⟩
  · have c1b : (T.st != 2) = true := by simpa using c1
    have q : armedB M t = false := by rw [HQ.out]; simp [c1]
    rw [E2.out q, q]
    clear c1 HQ E1 E2 q hW
    go_enter Tryz.func30, Tryz.ntmps30
    go_upto_region 2 with fail
    generalize w.alloc (.cells (tmCells T) 70) = w1 at h1 k1 hx ⊢
    clear m0 m1 m2 m3 m4 m5 t0 t1 t2 t3 t4 t5 t6 t7
    obtain ⟨x0, x1, x3, x4⟩ := tm_eight hx
    go_wp2
    go_ret
    exact ⟨rfl, _, h1, k1⟩

set_option maxRecDepth 100000 in
set_option maxHeartbeats 8000000 in
theorem rearm_no {B mb g t : Nat} {a b c : Int} {tv : Value} {V : Nat → Value} {M : Me} {w : World} (hB : B ≤ w.heap.size) (ht : t < M.tn) (hq : ¬ (M.t t).st = 6) (h : OpenX w B mb a b c tv g V M) :
    Calls Tryz.prog 41 #[ptrV mb, .int .i64 (t : Int)] w fun x w' => x = .returned (.bool (rearmedB M t)) ∧ InX B mb a b c tv g (rearmedM M t) w w' := by
  have q : rearmedB M t = false := by unfold rearmedB; simpa using hq
  rw [show rearmedM M t = M by rw [rearmedM, q]; rfl, q]
  obtain ⟨tg, tc, rfl⟩ := h.tms ht
  have i2 : (0 : Int) ≤ (t : Int) := by omega
  have i3 : (t : Int) < (M.tn : Int) := by omega
  obtain ⟨m0, m1, m2, m3, m4, m5⟩ := six h.m
  obtain ⟨⟨t0, t1, t2, t3, t4, t5, t6, t7⟩, _⟩ := h.tcells ht
  have c1b : ((M.t t).st != 6) = true := by simpa using hq
  obtain ⟨T, hT⟩ : ∃ T, T = M.t t := ⟨_, rfl⟩
  rw [← hT] at t0 t1 t2 t3 t4 t5 t6 t7 c1b
  have h1 : OpenX (w.alloc (.cells (tmCells T) 70)) B mb a b c (.slice (some ⟨tg, 0, none⟩) M.tn tc) g V M := h.below ((Below.refl _ w).alloc (Nat.le_refl _) _)
  have k1 : Wx B w (w.alloc (.cells (tmCells T) 70)) := .of_new ((Below.refl _ w).alloc (Nat.le_refl _) _) hB
  have hx := heap_alloc_new w (.cells (tmCells T) 70)
  clear hT h hq q
  go_enter Tryz.func41, Tryz.ntmps41
  go_upto_region 2 with fail
  generalize w.alloc (.cells (tmCells T) 70) = w1 at h1 k1 hx ⊢
  clear m0 m1 m2 m3 m4 m5 t0 t1 t2 t3 t4 t5 t6 t7
  obtain ⟨x0, x1, x3, x4⟩ := tm_eight hx
  go_wp2
  go_ret
  exact ⟨rfl, _, h1, k1⟩

set_option maxRecDepth 100000 in
set_option maxHeartbeats 8000000 in
theorem rearm_none {B mb g t k : Nat} {a b c : Int} {tv : Value} {V : Nat → Value} {M : Me} {w : World} (hB : B ≤ w.heap.size) (ht : t < M.tn) (hk : k < M.pn) (hn : (M.p k).n ≤ 1048576) (hpl : (M.t t).pl = (k : Int)) (hq : (M.t t).st = 6) (hp : (M.t t).pe = 0) (h : OpenX w B mb a b c tv g V M) :
    Calls Tryz.prog 41 #[ptrV mb, .int .i64 (t : Int)] w fun x w' => x = .returned (.bool (rearmedB M t)) ∧ InX B mb a b c tv g (rearmedM M t) w w' := by
  have q : rearmedB M t = true := by unfold rearmedB; rw [hq]; rfl
  rw [show rearmedM M t = rearmM M t by rw [rearmedM, if_pos q], q, ← take_none hpl hp]
  obtain ⟨tg, tc, rfl⟩ := h.tms ht
  have i2 : (0 : Int) ≤ (t : Int) := by omega
  have i3 : (t : Int) < (M.tn : Int) := by omega
  obtain ⟨m0, m1, m2, m3, m4, m5⟩ := six h.m
  obtain ⟨⟨t0, t1, t2, t3, t4, t5, t6, t7⟩, _⟩ := h.tcells ht
  have c1b : ((M.t t).st != 6) = false := by rw [hq]; rfl
  have c2b : ((M.t t).pe == 0) = true := by rw [hp]; rfl
  have h1 : OpenX (w.alloc (.cells (tmCells (M.t t)) 70)) B mb a b c (.slice (some ⟨tg, 0, none⟩) M.tn tc) g V M := h.below ((Below.refl _ w).alloc (Nat.le_refl _) _)
  have k1 : Wx B w (w.alloc (.cells (tmCells (M.t t)) 70)) := .of_new ((Below.refl _ w).alloc (Nat.le_refl _) _) hB
  have hx := heap_alloc_new w (.cells (tmCells (M.t t)) 70)
  have HT := Lib.hid (takeOut_any (Nat.le_trans hB k1.below.size) ht hk hn hpl h1)
  obtain ⟨T, hT⟩ : ∃ T, T = M.t t := ⟨_, rfl⟩
  rw [← hT] at t0 t1 t2 t3 t4 t5 t6 t7 c1b c2b k1 hx HT
  clear hT h hq q hp hpl h1
  go_enter Tryz.func41, Tryz.ntmps41
  go_upto_region 2 with fail
  generalize w.alloc (.cells (tmCells T) 70) = w1 at k1 hx HT ⊢
  clear m0 m1 m2 m3 m4 m5 t0 t1 t2 t3 t4 t5 t6 t7
  obtain ⟨x0, x1, x3, x4⟩ := tm_eight hx
  go_wp2_with fail
  go_at_call 70; refine HT.out.mono ?_; rintro x w2 ⟨rfl, V2, h2, k2⟩
  clear HT x0 x1 x3 x4
  obtain ⟨m0, m1, m2, m3, m4, m5⟩ := six h2.m
  have ht3 : t < (takeM M t k).tn := ht
  obtain ⟨⟨t0, _, _, _, _, _⟩, tf⟩ := h2.tcells ht3
  have f0 := tf (t * 8)
  have h3 := h2.setT0 ht3 0
  have k3 := (k1.trans k2).setT h2 (t * 8) (.int .i64 0)
  have i4 : (t : Int) < ((takeM M t k).tn : Int) := i3
  clear tf h2 k1 k2
  go_wp2
  go_ret
  exact ⟨rfl, _, h3, k3⟩

end Go.Proofs.YtonpbmeekgdilaaGreat

/-
  Append onto a list of processors of the call's own.
-/
namespace Go.Proofs.YtonpbmeekgdilaaGreat
open Go.RowKit Go.Joins
set_option linter.unusedVariables false

/-- a processor's four cells -/
def pcAt (P : Pcs) (V : Nat → Value) (i : Nat) : Nat → Value
  | 0 => V i
  | 1 => .int .i64 (P i).l
  | 2 => .int .i64 (P i).e
  | _ => .int .i64 (P i).d
theorem below4 {P : Nat → Prop} (h0 : P 0) (h1 : P 1) (h2 : P 2) (h3 : P 3) : ∀ j, j < 4 → P j
  | 0, _ => h0
  | 1, _ => h1
  | 2, _ => h2
  | 3, _ => h3
  | _ + 4, h => by omega
def cellsP (P : Pcs) (V : Nat → Value) : Nat → List Value
  | 0 => []
  | n + 1 => cellsP P V n ++ [V n, .int .i64 (P n).l, .int .i64 (P n).e, .int .i64 (P n).d]
theorem cellsP_length (P : Pcs) (V : Nat → Value) : ∀ n, (cellsP P V n).length = n * 4
  | 0 => rfl
  | n + 1 => by rw [cellsP, List.length_append, cellsP_length P V n]; simp; omega
theorem cellsP_get (P : Pcs) (V : Nat → Value) : ∀ n i, i < n → ∀ j, j < 4 → (cellsP P V n)[i * 4 + j]? = some (pcAt P V i j)
  | 0, i, h => absurd h (Nat.not_lt_zero _)
  | n + 1, i, h => by
    intro j hj
    rw [cellsP]
    by_cases e : i = n
    · subst e
      rw [List.getElem?_append_right (by rw [cellsP_length]; omega), cellsP_length, Nat.add_sub_cancel_left]
      revert j
      apply below4 <;> rfl
    · rw [List.getElem?_append_left (by rw [cellsP_length]; omega)]
      exact cellsP_get P V n i (by omega) j hj
theorem cellsP_congr {P Q : Pcs} {V U : Nat → Value} : ∀ n, (∀ i, i < n → P i = Q i) → (∀ i, i < n → V i = U i) → cellsP P V n = cellsP Q U n
  | 0, _, _ => rfl
  | n + 1, h, hv => by rw [cellsP, cellsP, cellsP_congr n (fun i hi => h i (by omega)) (fun i hi => hv i (by omega)), h n (by omega), hv n (by omega)]
theorem cellsP_push (P : Pcs) (V : Nat → Value) (n : Nat) (p : Pc) (u : Value) : cellsP P V n ++ [u, .int .i64 p.l, .int .i64 p.e, .int .i64 p.d] = cellsP (putP P n p) (putV V n u) (n + 1) := by
  rw [cellsP, putP_same, putV_same, cellsP_congr (P := P) (Q := putP P n p) (V := V) (U := putV V n u) n (fun i hi => (putP_other P (i := n) (k := i) p (by omega)).symm) (fun i hi => (putV_other V (i := i) (k := n) u (by omega)).symm)]
theorem proc_info2 : (Tryz.prog.info? 75).map (fun i => (i.zero, i.size, i.bytes)) = some (some (.agg #[.slice none 0 0, .int .i64 0, .int .i64 0, .int .i64 0]), 4, 48) := by kernel_rfl

/-- the list itself, no word of the slots -/
def ListRow (w : World) (B : Nat) (v : Value) (m : Nat) (P : Pcs) (V : Nat → Value) : Prop :=
  (m = 0 ∧ v = .slice none 0 0) ∨ ∃ g cap, v = .slice (some ⟨g, 0, none⟩) m cap ∧ ListAt w B g m cap P V
theorem listP_of_row {w : World} {B n : Nat} {v : Value} {P : Pcs} {V : Nat → Value} (h : w.ownsRow B 75 4 v n (cellsP P V n)) : ListRow w B v n P V := by
  rcases h.2 with ⟨rfl, rfl⟩ | ⟨g, cap, cur, rfl, hB, hg, hn, hcm, hs, ht⟩
  · exact .inl ⟨rfl, rfl⟩
  · refine .inr ⟨g, cap, rfl, hB, hn, hcm, cur, hg, hs, fun i hi => ?_⟩
    have key : ∀ j, j < 4 → cur[i * 4 + j]? = some (pcAt P V i j) := by
      intro j hj
      have h1 := cellsP_get P V n i hi j hj
      rw [← ht, List.getElem?_take_of_lt (by omega)] at h1
      simpa using h1
    exact ⟨key 0 (by omega), key 1 (by omega), key 2 (by omega), key 3 (by omega)⟩
theorem rowP_of_list {w : World} {B n : Nat} {v : Value} {P : Pcs} {V : Nat → Value} (h : ListRow w B v n P V) : w.ownsRow B 75 4 v n (cellsP P V n) := by
  rcases h with ⟨rfl, rfl⟩ | ⟨g, cap, rfl, h1, h2, h3, cur, hh, hs, hr⟩
  · exact World.ownsRow_nil w B _ _
  refine ⟨cellsP_length P V n, .inr ⟨g, cap, cur, rfl, h1, hh, h2, h3, hs, ?_⟩⟩
  apply List.ext_getElem?
  intro k
  by_cases hk : k < n * 4
  · rw [List.getElem?_take_of_lt hk]
    have a := cellsP_get P V n (k / 4) (by omega) (k % 4) (by omega)
    have b : cur[k / 4 * 4 + k % 4]? = some (pcAt P V (k / 4) (k % 4)) := by
      obtain ⟨b0, b1, b2, b3⟩ := hr (k / 4) (by omega)
      exact below4 (P := fun j => cur[k / 4 * 4 + j]? = some (pcAt P V (k / 4) j)) b0 b1 b2 b3 (k % 4) (by omega)
    rw [show k / 4 * 4 + k % 4 = k by omega] at a b
    rw [a]; simpa using b
  · rw [List.getElem?_eq_none (by rw [List.length_take]; omega), List.getElem?_eq_none (by rw [cellsP_length]; omega)]
theorem ListRow.below {w w' : World} {B m : Nat} {v : Value} {P : Pcs} {V : Nat → Value} (h : ListRow w B v m P V) (hb : Below w.heap.size w w') : ListRow w' B v m P V := by
  rcases h with h | ⟨g, cap, e, h⟩
  · exact .inl h
  · exact .inr ⟨g, cap, e, h.below hb⟩
theorem ListRow.form {w : World} {B m : Nat} {v : Value} {P : Pcs} {V : Nat → Value} (h : ListRow w B v m P V) : ∃ a cap, v = .slice a m cap := by
  rcases h with ⟨rfl, rfl⟩ | ⟨g, cap, rfl, _⟩
  · exact ⟨_, _, rfl⟩
  · exact ⟨_, _, rfl⟩
theorem ListRow.own {w : World} {B m : Nat} {v : Value} {P : Pcs} {V : Nat → Value} (h : ListRow w B v m P V) (hh : HeapsAt w B m P V) : OwnPRow w B v m P := by
  rcases h with h | ⟨g, cap, e, h⟩
  · exact .inl h
  · exact .inr ⟨g, cap, V, e, h, hh⟩

theorem ListRow.block_ge {w : World} {B m : Nat} {v : Value} {P : Pcs} {V : Nat → Value} (h : ListRow w B v m P V) : ∀ x, v.ownBlock = some x → B ≤ x := by
  intro x hx
  rcases h with ⟨_, rfl⟩ | ⟨g, cap, rfl, h⟩
  · simp [Value.ownBlock] at hx
  · simp [Value.ownBlock] at hx
    subst hx
    exact h.1
theorem ListRow.block_lt {w : World} {B m : Nat} {v : Value} {P : Pcs} {V : Nat → Value} (h : ListRow w B v m P V) : ∀ x, v.ownBlock = some x → x < w.heap.size := by
  intro x hx
  rcases h with ⟨_, rfl⟩ | ⟨g, cap, rfl, h⟩
  · simp [Value.ownBlock] at hx
  · simp [Value.ownBlock] at hx
    subst hx
    exact h.lt
/-- the slots' blocks are none of the list's: they stay when the list grows -/
theorem HeapsAt.grown {w w' : World} {B B' m n : Nat} {v : Value} {P Q : Pcs} {V U : Nat → Value} (h : HeapsAt w B m P V) (hl : ListRow w B' v n Q U) (hg : w.grownBy w' v.ownBlock) : HeapsAt w' B m P V := by
  refine h.other fun i hi x hx => hg.block x ((h.1 i hi).lt_size x hx) ?_
  intro e
  rcases hl with ⟨_, rfl⟩ | ⟨g, cap, rfl, hl⟩
  · simp [Value.ownBlock] at e
  · simp [Value.ownBlock] at e
    exact hl.ne_heap (h.1 i hi) x hx e
theorem OwnRow.keptO {w w' : World} {B B' m n : Nat} {v u : Value} {f : Slots} {Q : Pcs} {U : Nat → Value} (h : OwnRow w B u n f) (hg : w.grownBy w' v.ownBlock) (hl : ListRow w B' v m Q U) : OwnRow w' B u n f := by
  rcases h with h | ⟨g, cap, rfl, h⟩
  · exact .inl h
  · refine .inr ⟨g, cap, rfl, h.block (hg.block g h.lt ?_)⟩
    intro e
    rcases hl with ⟨_, rfl⟩ | ⟨g', cap', rfl, hl⟩
    · simp [Value.ownBlock] at e
    · simp [Value.ownBlock] at e
      exact hl.ne_heap (OwnAt.own h) g rfl e
/-- one more, whose slots' list is its own -/
theorem HeapsAt.add {w : World} {B k : Nat} {P : Pcs} {V : Nat → Value} {u : Value} {p : Pc} (h : HeapsAt w B k P V) (ho : OwnRow w B u p.n p.f) (hd : ∀ i, i < k → ∀ x, (V i).ownBlock = some x → u.ownBlock ≠ some x) :
    HeapsAt w B (k + 1) (putP P k p) (putV V k u) := by
  refine ⟨fun i hi => ?_, fun i j hi hj hij x hx => ?_⟩
  · by_cases e : i = k
    · subst e; rw [putP_same, putV_same]; exact ho
    · rw [putP_other P p e, putV_other V u e]; exact h.1 i (by omega)
  · by_cases e : i = k
    · subst e
      rw [putV_same] at hx
      rw [putV_other V u (Ne.symm hij)]
      intro h2
      exact hd j (by omega) x h2 hx
    · rw [putV_other V u e] at hx
      by_cases e2 : j = k
      · subst e2
        rw [putV_same]
        exact hd i (by omega) x hx
      · rw [putV_other V u e2]
        exact h.2 i j (by omega) (by omega) hij x hx

theorem ListRow.set {w : World} {B m b : Nat} {v : Value} {P : Pcs} {V : Nat → Value} (h : ListRow w B v m P V) (hb : b < B) (o : Nat) (u : Value) : ListRow (w.setCell ⟨b, o, none⟩ u) B v m P V := by
  rcases h with h | ⟨g, cap, e, h⟩
  · exact .inl h
  · exact .inr ⟨g, cap, e, h.block (Below.heap_setCell w ⟨b, o, none⟩ u g (show g ≠ b by have := h.1; omega))⟩
theorem HeapsAt.block_ge {w : World} {B m : Nat} {P : Pcs} {V : Nat → Value} (h : HeapsAt w B m P V) {i : Nat} (hi : i < m) : ∀ x, (V i).ownBlock = some x → B ≤ x := by
  intro x hx
  rcases h.1 i hi with ⟨_, ev⟩ | ⟨g, c, ev, ho⟩
  · rw [ev] at hx; simp [Value.ownBlock] at hx
  · rw [ev] at hx; simp [Value.ownBlock] at hx; subst hx; exact ho.1
theorem HeapsAt.set {w : World} {B m b : Nat} {P : Pcs} {V : Nat → Value} (h : HeapsAt w B m P V) (hb : b < B) (o : Nat) (u : Value) : HeapsAt (w.setCell ⟨b, o, none⟩ u) B m P V :=
  h.other fun i hi x hx => Below.heap_setCell w ⟨b, o, none⟩ u x (show x ≠ b by have := h.block_ge hi x hx; omega)
theorem ListRow.congr {w : World} {B m : Nat} {v : Value} {P Q : Pcs} {V U : Nat → Value} (h : ListRow w B v m P V) (e : ∀ i, i < m → P i = Q i) (ev : ∀ i, i < m → V i = U i) : ListRow w B v m Q U := by
  rcases h with h | ⟨g, cap, e1, h⟩
  · exact .inl h
  · exact .inr ⟨g, cap, e1, h.congr e ev⟩
theorem b_grownO {a w : World} {B : Nat} {ob : Option Nat} (h : a.grownBy w ob) (hx : ∀ x, ob = some x → B ≤ x) (hs : B ≤ a.heap.size) : Below B a w :=
  ⟨h.os, h.tape, h.output, h.size, fun i hi => h.block i (by omega) (fun e => by have := hx i e.symm; omega)⟩

theorem run_append_proc (w : World) (B : Nat) (ty : TypeId) (v : Value) (n : Nat) (P : Pcs) (V : Nat → Value) (hown : w.ownsRow B 75 4 v n (cellsP P V n)) (b : Nat) (p : Pc) (u : Value) (hu : u.oneCell' = true)
    (hc : w.heap[b]? = some (.cells #[u, .int .i64 p.l, .int .i64 p.e, .int .i64 p.d] 75 (0, 0))) (hn : n + 1 ≤ 2097152) (hB : B ≤ w.heap.size) :
    ∃ v' w', (Builtin.append_ #[30, 30] ty #[v, .slice (some ⟨b, 0, none⟩) 1 1]).run Tryz.prog w = .ok v' w' ∧ w'.ownsRow B 75 4 v' (n + 1) (cellsP (putP P n p) (putV V n u) (n + 1)) ∧ w.grownBy w' v.ownBlock ∧ (v'.ownBlock = v.ownBlock ∨ v'.ownBlock = some w.heap.size) := by
  obtain ⟨i0, hi, hz, hs, hby⟩ := info_parts proc_info2
  have hbytes : (n + 1) * 48 ≤ 140737488355328 := by omega
  have h63 : n + 1 ≤ maxLen := by unfold maxLen; omega
  obtain ⟨v', w', hrun, h2, h3, _, h5⟩ := run_append_own_at (P := Tryz.prog) w B 30 ty 75 i0 _ 4 48 Tryz.underlying30 hi hz hs hby rfl (by decide) v n _ hown ⟨b, 0, none⟩ 1 1 [u, .int .i64 p.l, .int .i64 p.e, .int .i64 p.d] rfl
    (fun j x hx => by
      rw [Go.WideShapes.add_plain, Nat.zero_add]
      rw [cell_of_block hc j]
      simpa using hx) (by
      intro x hx
      simp only [List.mem_cons, List.mem_nil_iff, or_false] at hx
      rcases hx with rfl | rfl | rfl | rfl
      · exact hu
      all_goals rfl) h63 hbytes hB
  exact ⟨v', w', hrun, by rw [← cellsP_push]; exact h2, h3, h5⟩

theorem wp_append_proc {o : Oper} {a : Act} {K : Act → World → Prop} {Q : Exit → Act → World → Prop} {w : World} (s x : Operand)
    (ho : o.op = .call { callee := .builtin .append, args := #[s, x], argTypes := #[30, 30] })
    (B : Nat) (v : Value) (n : Nat) (P : Pcs) (V : Nat → Value) (hs : a.eval s = v) (hown : w.ownsRow B 75 4 v n (cellsP P V n)) (b : Nat) (p : Pc) (u : Value) (hu : u.oneCell' = true) (hx : a.eval x = .slice (some ⟨b, 0, none⟩) 1 1)
    (hc : w.heap[b]? = some (.cells #[u, .int .i64 p.l, .int .i64 p.e, .int .i64 p.d] 75 (0, 0))) (hn : n + 1 ≤ 2097152) (hB : B ≤ w.heap.size)
    (hK : ∀ v' w', w'.ownsRow B 75 4 v' (n + 1) (cellsP (putP P n p) (putV V n u) (n + 1)) → w.grownBy w' v.ownBlock → (v'.ownBlock = v.ownBlock ∨ v'.ownBlock = some w.heap.size) → K (a.put o.dst v') w') : o.wp Tryz.prog a w K Q := by
  obtain ⟨v', w', hr, h2, h3, h4⟩ := run_append_proc w B o.type v n P V hown b p u hu hc hn hB
  unfold Oper.wp execOp
  simp only [ho, resolve, invoke, builtin, Sem.run_bind, Sem.run_pure, Result.andThen_ok, List.map_toArray, List.map_cons, List.map_nil, hs, hx, hr]
  exact hK v' w' h2 h3 h4
theorem wpList_append_proc {ops : Array Oper} {rest : List Oper} {o : Oper} {a : Act} {Q : Exit → Act → World → Prop} {w : World} (hgd : o.guard = none) (s x : Operand)
    (ho : o.op = .call { callee := .builtin .append, args := #[s, x], argTypes := #[30, 30] })
    (B : Nat) (v : Value) (n : Nat) (P : Pcs) (V : Nat → Value) (hs : a.eval s = v) (hown : w.ownsRow B 75 4 v n (cellsP P V n)) (b : Nat) (p : Pc) (u : Value) (hu : u.oneCell' = true) (hx : a.eval x = .slice (some ⟨b, 0, none⟩) 1 1)
    (hc : w.heap[b]? = some (.cells #[u, .int .i64 p.l, .int .i64 p.e, .int .i64 p.d] 75 (0, 0))) (hn : n + 1 ≤ 2097152) (hB : B ≤ w.heap.size)
    (hK : ∀ v' w', w'.ownsRow B 75 4 v' (n + 1) (cellsP (putP P n p) (putV V n u) (n + 1)) → w.grownBy w' v.ownBlock → (v'.ownBlock = v.ownBlock ∨ v'.ownBlock = some w.heap.size) → wpList Tryz.prog ops Q rest (a.put o.dst v') w') : wpList Tryz.prog ops Q (o :: rest) a w :=
  wpList_plain hgd fun _ hK' => wp_append_proc s x ho B v n P V hs hown b p u hu hx hc hn hB fun v' w' h2 h3 h4 => hK' _ _ (hK v' w' h2 h3 h4)
theorem step_append_proc {ops : Array Oper} {o : Oper} {a : Act} {K : Act → World → Prop} {Q : Exit → Act → World → Prop} {E : Prop} {w : World} (hgd : o.guard = none) (s x : Operand)
    (ho : o.op = .call { callee := .builtin .append, args := #[s, x], argTypes := #[30, 30] })
    (B : Nat) (v : Value) (n : Nat) (P : Pcs) (V : Nat → Value) (hs : a.eval s = v) (hown : w.ownsRow B 75 4 v n (cellsP P V n)) (b : Nat) (p : Pc) (u : Value) (hu : u.oneCell' = true) (hx : a.eval x = .slice (some ⟨b, 0, none⟩) 1 1)
    (hc : w.heap[b]? = some (.cells #[u, .int .i64 p.l, .int .i64 p.e, .int .i64 p.d] 75 (0, 0))) (hn : n + 1 ≤ 2097152) (hB : B ≤ w.heap.size)
    (hK : ∀ v' w', w'.ownsRow B 75 4 v' (n + 1) (cellsP (putP P n p) (putV V n u) (n + 1)) → w.grownBy w' v.ownBlock → (v'.ownBlock = v.ownBlock ∨ v'.ownBlock = some w.heap.size) → K (a.put o.dst v') w') :
    if Region.wanted o (yielded ops a.tmps) = true then Oper.wp Tryz.prog o a w K Q else E := by
  have hw : Region.wanted o (yielded ops a.tmps) = true := by simp [Region.wanted, hgd]
  rw [if_pos hw]
  exact wp_append_proc s x ho B v n P V hs hown b p u hu hx hc hn hB hK

end Go.Proofs.YtonpbmeekgdilaaGreat

/-
  A new memory (spec, chapter 5).
-/
namespace Go.Proofs.YtonpbmeekgdilaaGreat
open Go.RowKit Go.Joins
set_option linter.unusedVariables false

/-- the zero memory -/
def me0 : Me := ⟨0, 0, fun _ => tm0, 0, fun _ => pc0⟩
/-- a new one -/
def newM (a b c : Int) : Me := if planB a b c then ⟨0, 0, fun _ => tm0, a.toNat, fun _ => ⟨0, fun _ => (0, 0), -1, -1, 0⟩⟩ else me0
theorem own_me0 (w : World) (B : Nat) : OwnMem w B (.slice none 0 0) (.slice none 0 0) me0 := ⟨.inl ⟨rfl, rfl⟩, .inl ⟨rfl, rfl⟩⟩

/-- a value that a variable of the call's own holds, and which is answered through the block of the answer -/
theorem OwnTRow.set3 {w : World} {B n b : Nat} {v : Value} {f : Tms} (h : OwnTRow w B v n f) (hb : b < B) (x y z : Value) :
    OwnTRow (((w.setCell ⟨b, 0, none⟩ x).setCell ⟨b, 1, none⟩ y).setCell ⟨b, 2, none⟩ z) B v n f := ((h.set hb 0 x).set hb 1 y).set hb 2 z
theorem set_same {w : World} {B b : Nat} (hb : b < B) (o : Nat) (x : Value) : ∀ g, B ≤ g → (w.setCell ⟨b, o, none⟩ x).heap[g]? = w.heap[g]? :=
  fun g hg => Below.heap_setCell w ⟨b, o, none⟩ x g (show g ≠ b by omega)
theorem OwnPRow.set3 {w : World} {B m b : Nat} {v : Value} {P : Pcs} (h : OwnPRow w B v m P) (hb : b < B) (x y z : Value) :
    OwnPRow (((w.setCell ⟨b, 0, none⟩ x).setCell ⟨b, 1, none⟩ y).setCell ⟨b, 2, none⟩ z) B v m P :=
  h.kept1 fun g hg _ => (set_same hb 2 z g hg).trans ((set_same hb 1 y g hg).trans (set_same hb 0 x g hg))
theorem OwnMem.set3 {w : World} {B b : Nat} {tv pv : Value} {M : Me} (h : OwnMem w B tv pv M) (hb : b < B) (x y z : Value) :
    OwnMem (((w.setCell ⟨b, 0, none⟩ x).setCell ⟨b, 1, none⟩ y).setCell ⟨b, 2, none⟩ z) B tv pv M := ⟨h.1.set3 hb x y z, h.2.set3 hb x y z⟩
theorem b_set3 {W w : World} {n g : Nat} (h : Below n W w) (hg : n ≤ g) (x y z : Value) : Below n W (((w.setCell ⟨g, 0, none⟩ x).setCell ⟨g, 1, none⟩ y).setCell ⟨g, 2, none⟩ z) :=
  ((h.setCell (p := ⟨g, 0, none⟩) hg x).setCell (p := ⟨g, 1, none⟩) hg y).setCell (p := ⟨g, 2, none⟩) hg z
/-- the new processors, as many as there are yet -/
def newP : Pcs := fun _ => ⟨0, fun _ => (0, 0), -1, -1, 0⟩

end Go.Proofs.YtonpbmeekgdilaaGreat

/-
  Tidying up (chapter 6): what the four functions answer, plainly.
-/
namespace Go.Proofs.YtonpbmeekgdilaaGreat
open Go.RowKit Go.Joins
set_option linter.unusedVariables false

def NewMeB (M : Me) (q : Bool) (w : World) (e : Ending) (w' : World) : Prop := ∃ tv pv, e = .returned (.tuple #[meV M.c tv pv, .bool q]) ∧ OwnMem w' w.heap.size tv pv M ∧ Below w.heap.size w w'
def NewMeI (M : Me) (q : Int) (w : World) (e : Ending) (w' : World) : Prop := ∃ tv pv, e = .returned (.tuple #[meV M.c tv pv, .int .i64 q]) ∧ OwnMem w' w.heap.size tv pv M ∧ Below w.heap.size w w'
def timerOkM (a b c d : Int) (M : Me) : Bool := memOkB a b c M && hasT M d
def placeOkM (a b c d : Int) (M : Me) : Bool := memOkB a b c M && procB a b c d
def bothOkM (a b c d e : Int) (M : Me) : Bool := memOkB a b c M && (hasT M d && procB a b c e)
def armedG (a b c d e : Int) (M : Me) : Me := if bothOkM a b c d e M then armedM M d.toNat e.toNat else me0
def armedQ (a b c d e : Int) (M : Me) : Bool := bothOkM a b c d e M && armedB M d.toNat
def tidiedG (a b c d : Int) (M : Me) : Me := if placeOkM a b c d M then tidiedM M d.toNat else me0
def tidiedQ (a b c d : Int) (M : Me) : Bool := placeOkM a b c d M && tidiedB M d.toNat
def rungG (a b c d : Int) (M : Me) : Me := if placeOkM a b c d M then rungM M d.toNat else me0
def rungQ (a b c d : Int) (M : Me) : Int := if placeOkM a b c d M then rungI M d.toNat else -1
def rearmedG (a b c d : Int) (M : Me) : Me := if timerOkM a b c d M then rearmedM M d.toNat else me0
def rearmedQ (a b c d : Int) (M : Me) : Bool := timerOkM a b c d M && rearmedB M d.toNat
theorem timerOk_of {a b c d : Int} {M : Me} (h : timerOkM a b c d M = true) : MemFacts a b c M ∧ ∃ t : Nat, d = (t : Int) ∧ d.toNat = t ∧ t < M.tn := by
  rw [timerOkM, Bool.and_eq_true] at h
  have h2 := hasT_iff.1 h.2
  exact ⟨memFacts h.1, d.toNat, by omega, rfl, by omega⟩
theorem placeOk_of {a b c d : Int} {M : Me} (h : placeOkM a b c d M = true) : MemFacts a b c M ∧ ∃ k : Nat, d = (k : Int) ∧ d.toNat = k ∧ k < M.pn := by
  rw [placeOkM, Bool.and_eq_true] at h
  have h1 := memFacts h.1
  have h2 := (procB_iff.1 h.2).2
  have h3 := h1.pn.1
  exact ⟨h1, d.toNat, by omega, rfl, by omega⟩
theorem bothOk_of {a b c d e : Int} {M : Me} (h : bothOkM a b c d e M = true) : MemFacts a b c M ∧ (∃ t : Nat, d = (t : Int) ∧ d.toNat = t ∧ t < M.tn) ∧ ∃ k : Nat, e = (k : Int) ∧ e.toNat = k ∧ k < M.pn := by
  rw [bothOkM, Bool.and_eq_true, Bool.and_eq_true] at h
  exact ⟨memFacts h.1, (timerOk_of (b := b) (by rw [timerOkM, h.1, h.2.1]; rfl)).2, (placeOk_of (by rw [placeOkM, h.1, h.2.2]; rfl)).2⟩
theorem sizeM_zero : sizeM me0 ≤ 1048576 := by decide
theorem armedG_size (a b c d e : Int) {M : Me} (h : sizeM M ≤ 1048576) : sizeM (armedG a b c d e M) ≤ 1048576 := by
  unfold armedG
  split
  · rename_i h; exact (near_armed M _ _).size (bothOk_of h).1
  · exact sizeM_zero
theorem tidiedG_size (a b c d : Int) {M : Me} (h : sizeM M ≤ 1048576) : sizeM (tidiedG a b c d M) ≤ 1048576 := by
  unfold tidiedG
  split
  · rename_i h; exact (near_tidied M _).size (placeOk_of h).1
  · exact sizeM_zero
theorem rungG_size (a b c d : Int) {M : Me} (h : sizeM M ≤ 1048576) : sizeM (rungG a b c d M) ≤ 1048576 := by
  unfold rungG
  split
  · rename_i h; exact (near_rung M _).size (placeOk_of h).1
  · exact sizeM_zero
theorem rearmedG_size (a b c d : Int) {M : Me} (h : sizeM M ≤ 1048576) : sizeM (rearmedG a b c d M) ≤ 1048576 := by
  unfold rearmedG
  split
  · rename_i h; exact (near_rearmed M _).size (timerOk_of h).1
  · exact sizeM_zero

end Go.Proofs.YtonpbmeekgdilaaGreat

/-
  The exact laws on a memory whose answer is a memory, told what the program answers: Elapsed.
-/
namespace Go.Proofs.YtonpbmeekgdilaaGreat
open Go.RowKit Go.Joins
set_option linter.unusedVariables false

/-- what the program's function of a plan, a memory and a number is to answer: a new memory -/
def AsksMM (fn : FuncId) (g : Int → Int → Int → Int → Me → Me) : Prop := ∀ (a b c d : Int) (tv pv : Value) (M : Me) (w : World), sizeM M ≤ 1048576 → MemAt w tv pv M → Calls Tryz.prog fn #[.agg #[.int .i64 a, .int .i64 b, .int .i64 c], meV M.c tv pv, .int .i64 d] w (NewMe (g a b c d M) w)
/-- a variable of the law's own that holds a memory -/
def VarAt (w : World) (b : Nat) (N : Me) (tv pv : Value) : Prop := w.heap[b]? = some (memO N.c tv pv 32) ∧ MemAt w tv pv N
theorem Mid.belowN {B C n : Nat} {w w' : World} (h : Mid B C w w') (hn : n ≤ B) (hw : n ≤ w.heap.size) : Below n w w' := ⟨h.os, h.tape, h.output, h.size, fun k hk => h.block k (by omega) (.inl (by omega))⟩
theorem b_block_lt {w w' : World} {b : Nat} {o : Obj} (h : Below w.heap.size w w') (hb : w.heap[b]? = some o) : w'.heap[b]? = some o ∧ b < w.heap.size := ⟨b_block h hb (lt_of_block hb), lt_of_block hb⟩
theorem OwnMem.setVar {w : World} {B b : Nat} {tv pv : Value} {N : Me} {cs : Array Value} (h : OwnMem w B tv pv N) (hz : w.heap[b]? = some (.cells cs 32 (0, 0))) (x y z : Value) :
    OwnMemIn (((w.setCell ⟨b, 0, none⟩ x).setCell ⟨b, 1, none⟩ y).setCell ⟨b, 2, none⟩ z) B w.heap.size tv pv N := by
  have s1 := (KeepsBut.refl [32] w).set hz (by decide) 0 x
  have s2 := s1.set (block_setCell (i := 0) hz x) (by decide) 1 y
  have s3 := s2.set (block_setCell (i := 1) (block_setCell (i := 0) hz x) y) (by decide) 2 z
  exact ⟨h.inn.1.keeps s3 (by decide), h.inn.2.keeps s3 (by decide) (by decide)⟩

end Go.Proofs.YtonpbmeekgdilaaGreat
