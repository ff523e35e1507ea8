/-
  The program's heap (chapter 2): one slot more, at the end, and raised there.
-/
import Derived.Test.YtegmlabiodikpaaHeapOf4
import Derived.Test.YtegmlabiodikpaaHeapExact2
import Derived.Deep.RegionLaw
namespace Go.Proofs.Ytegmlabiodikpaa
open Go.RowKit Go.Joins
set_option linter.unusedVariables false

/-- a heap in a variable of its own, in the block b -/
def HeapIn (w : World) (b : Nat) (v : Value) : Prop := w.heap[b]? = some (.cells #[v, dueV] 57 (0, 0))

/-- its list's block is no variable of a heap -/
theorem OwnAt.ne_heap {w : World} {B g n cap b : Nat} {f : Slots} {v : Value} (h : OwnAt w B g n cap f) (hb : HeapIn w b v) : b ≠ g := by
  rintro rfl
  obtain ⟨_, _, _, cur, hh, _⟩ := h
  rw [HeapIn, hh] at hb
  simp at hb

theorem OwnRow.ne_heap {w : World} {B n b : Nat} {f : Slots} {v u : Value} (h : OwnRow w B v n f) (hb : HeapIn w b u) : some b ≠ v.ownBlock := by
  rcases h with ⟨_, rfl⟩ | ⟨g, cap, rfl, h⟩
  · simp [Value.ownBlock]
  · intro e
    exact h.ne_heap hb (by simpa [Value.ownBlock] using e)
theorem OwnRow.ne_new {w : World} {B n b : Nat} {f : Slots} {v : Value} (h : OwnRow w B v n f) (hb : w.heap.size ≤ b) : some b ≠ v.ownBlock := by
  rcases h with ⟨_, rfl⟩ | ⟨g, cap, rfl, h⟩
  · simp [Value.ownBlock]
  · intro e
    have := h.lt
    simp [Value.ownBlock] at e
    omega

set_option maxRecDepth 100000 in
set_option maxHeartbeats 2000000 in
theorem hPush_any {B b n : Nat} {x y : Int} {v : Value} {f : Slots} {w : World} (hn : n < 1048576) (hB : B ≤ b) (hin : HeapIn w b v) (h : OwnRow w B v n f) :
    Calls Try.prog 41 #[.pointer (some ⟨b, 0, none⟩), .agg #[.int .i64 x, .int .i64 y]] w fun e w' => e = .returned (.tuple #[]) ∧
      ∃ v', HeapIn w' b v' ∧ OwnRow w' B v' (n + 1) (raiseF (putF f n (x, y)) n) ∧ Below B w w' := by
  have hbl := lt_of_block hin
  have k0 := (Below.refl w.heap.size w).alloc (Nat.le_refl _) (.cells #[.int .i64 x, .int .i64 y] 30)
  have kB := k0.mono (Nat.le_trans hB (Nat.le_of_lt hbl))
  have hO0 := h.below k0
  have hin0 : HeapIn (w.alloc (.cells #[.int .i64 x, .int .i64 y] 30)) b v := b_block k0 hin hbl
  have a0 := cell_of_block hin0 0
  have a1 := cell_of_block hin0 1
  have hS := heap_alloc_new w (.cells #[.int .i64 x, .int .i64 y] 30)
  have s0 := cell_of_block hS 0
  have s1 := cell_of_block hS 1
  clear hS
  have hOA : OwnRow ((w.alloc (.cells #[.int .i64 x, .int .i64 y] 30)).alloc (.cells #[.int .i64 x, .int .i64 y] 30)).drew B v n f := ((h.alloc (.cells #[.int .i64 x, .int .i64 y] 30)).alloc (.cells #[.int .i64 x, .int .i64 y] 30)).drew
  have hinA : HeapIn ((w.alloc (.cells #[.int .i64 x, .int .i64 y] 30)).alloc (.cells #[.int .i64 x, .int .i64 y] 30)).drew b v := alloc_block _ hin0
  have hbA := lt_of_block hinA
  have hBA : B ≤ ((w.alloc (.cells #[.int .i64 x, .int .i64 y] 30)).alloc (.cells #[.int .i64 x, .int .i64 y] 30)).drew.heap.size := Nat.le_trans hB (Nat.le_of_lt hbA)
  have hsrc : RowAt ((w.alloc (.cells #[.int .i64 x, .int .i64 y] 30)).alloc (.cells #[.int .i64 x, .int .i64 y] 30)).drew (.slice (some ⟨w.heap.size + 1, 0, none⟩) 1 1) 1 (fun _ => (x, y)) := by
    have := one_row (w.alloc (.cells #[.int .i64 x, .int .i64 y] 30)) x y
    rw [show (w.alloc (.cells #[.int .i64 x, .int .i64 y] 30)).heap.size = w.heap.size + 1 by simp] at this
    exact this
  obtain ⟨av, cv, hv⟩ := h.row.form
  subst hv
  go_enter Try.func41, Try.ntmps41
  go_wp2_with fail
  go_region_law (first
    | (refine step_append_slots rfl (.tmp 8) (.tmp 10) rfl B (.slice av n cv) n f rfl (row_of_ownrow hOA) _ 1 (fun _ => (x, y)) rfl hsrc (by omega) hBA ?_; intro v2 w2 hown2 hg2 hat2
       rw [cellsF_push] at hown2; have hO2 := own_of_row hown2; obtain ⟨a2, c2, hv2⟩ := hO2.row.form; subst hv2
       have hin2 : HeapIn w2 b (.slice av n cv) := (hg2.block b hbA (hOA.ne_heap hinA)).trans hinA
       have d0 := cell_of_block hin2 0; have d1 := unfrozen_of_block hin2 0
       have hb2 := hOA.below_own hg2 hBA; clear hown2 hg2 hat2))
  all_goals
    have hl2 := lt_of_block hin2
    have hin3 : HeapIn (w2.setCell ⟨b, 0, none⟩ (.slice a2 (n + 1) c2)) b (.slice a2 (n + 1) c2) := block_setCell hin2 _
    have hO3 : OwnRow (w2.setCell ⟨b, 0, none⟩ (.slice a2 (n + 1) c2)) B (.slice a2 (n + 1) c2) (n + 1) (putF f n (x, y)) := by
      rcases hO2 with ⟨h0, _⟩ | ⟨g, cap, e, hO2⟩
      · omega
      · refine .inr ⟨g, cap, e, hO2.block ?_⟩
        exact Below.heap_setCell w2 ⟨b, 0, none⟩ _ g (fun e => hO2.ne_heap hin2 e.symm)
    have hb3 := hb2.setCell (p := ⟨b, 0, none⟩) hB (.slice a2 (n + 1) c2)
    clear a0 a1 s0 s1 hsrc hOA hinA hO0 hin0 hO2 hin2 d0 d1 hb2
    generalize w2.setCell ⟨b, 0, none⟩ (.slice a2 (n + 1) c2) = w3 at *
    obtain ⟨N, hN⟩ : ∃ N : Nat, N = n + 1 := ⟨_, rfl⟩
    rw [← hN] at hin3 hO3 ⊢
    rcases hO3 with ⟨h0, _⟩ | ⟨g, cap, e, hO3⟩
    · omega
    injection e with e1 e2 e3
    subst e1 e3
    have hne := hO3.ne_heap hin3
    have b0 : w3.cell? ⟨b, 0, none⟩ = some (.slice (some ⟨g, 0, none⟩) N c2) := cell_of_block hin3 0
    have b1 : w3.cell? ⟨b, 1, none⟩ = some dueV := cell_of_block hin3 1
    have hl3 := lt_of_block hin3
    have hN1 : N ≤ 1048576 := by omega
    have hN2 : n < N := by omega
    have e1 : IntKind.i64.wrap ((N : Int) - 1) = (n : Int) := by rw [IntKind.wrap_i64]; omega
    have hgB := hO3.1
    have HN := Lib.hid hN
    have hWA : Below B w ((w.alloc (.cells #[.int .i64 x, .int .i64 y] 30)).alloc (.cells #[.int .i64 x, .int .i64 y] 30)).drew := (kB.alloc (Nat.le_trans hB (Nat.le_of_lt (Nat.lt_of_lt_of_le hbl k0.size))) _).drew
    clear hl2 hbA hBA hN h hin k0
    go_wp2_with fail
    go_region_held3 (fun w' => w'.cell? ⟨b, 0, none⟩ = some (.slice (some ⟨g, 0, none⟩) N c2) ∧ w'.cell? ⟨b, 1, none⟩ = some dueV)
      (first | exact ⟨b0, b1⟩ | exact ⟨x0, x1⟩ | exact ⟨z0, z1⟩ | go_keep)
      (first
        | (go_at_call 56; refine (hSize_any (Nat.le_succ_of_le hN1) ⟨_, _, rfl⟩).mono ?_; rintro e w4 ⟨rfl, hb4⟩
           have hin4 := b_block hb4 hin3 hl3; have hO4 := hO3.drew.below hb4; have hb4' := hb3.drew.trans (hb4.mono (Nat.le_trans hB (Nat.le_of_lt hl3)))
           have x0 := cell_of_block hin4 0; have x1 := cell_of_block hin4 1; clear hin3 hO3 hb3 b0 b1 hb4)
        | (go_at_call 49; refine (hRaise_in hN1 hN2 hO4).mono ?_; rintro e w5 ⟨rfl, hO5, hg5⟩
           have hin5 := g_block hg5 hin4 hne; have hb5 := hb4'.trans (b_grown hg5 hgB (Nat.le_trans hB (Nat.le_of_lt (lt_of_block hin4))))
           have z0 := cell_of_block hin5 0; have z1 := cell_of_block hin5 1; clear hin4 hO4 hg5 x0 x1 hb4'))
    all_goals
      clear z0 z1 e1
      go_wp2
      go_end0
      exact ⟨rfl, _, hin5, HN.out ▸ hO5.own, hWA.trans hb5⟩

set_option maxRecDepth 100000 in
set_option maxHeartbeats 2000000 in
theorem iPushed_in {v : Value} {n : Nat} {f : Slots} (a b : Int) {w : World} (hn : n < 30) (h : RowAt w v n f) :
    Calls Try.prog 14 #[v, .agg #[.int .i64 a, .int .i64 b]] w (NewRowB (n + 1) (raiseF (putF f n (a, b)) n) true w) := by
  have k0 := (Below.refl w.heap.size w).alloc (Nat.le_refl _) (.cells #[.int .i64 a, .int .i64 b] 30)
  have HR := Lib.hid (h.below k0)
  have hS := heap_alloc_new w (.cells #[.int .i64 a, .int .i64 b] 30)
  have hs0 : w.heap.size < (w.alloc (.cells #[.int .i64 a, .int .i64 b] 30)).heap.size := by simp
  have HS := Lib.hid hS
  obtain ⟨va, vc, hv⟩ := h.form
  clear h hS
  have hn2 : (n : Int) < 30 := by omega
  have hd : decide ((30 : Int) ≤ (n : Int)) = false := by simp; omega
  subst hv
  go_enter Try.func14, Try.ntmps14
  go_wp2_with fail
  go_at_call 39; refine (heapFrom_any (by omega) HR.out).mono ?_; rintro e w1 ⟨v1, rfl, hO, hb⟩
  have hS1 := b_block hb HS.out hs0
  have hs1 := Nat.lt_of_lt_of_le hs0 hb.size
  have k1 := k0.trans (hb.mono k0.size)
  obtain ⟨a1, c1, hv1⟩ := hO.row.form
  have hin : HeapIn (w1.alloc (.cells #[v1, dueV] 57)) w1.heap.size v1 := heap_alloc_new w1 (.cells #[v1, dueV] 57)
  have hO1 := (hO.alloc (.cells #[v1, dueV] 57)).mono k0.size
  have k2 := k1.alloc k1.size (.cells #[v1, dueV] 57)
  have hS2 := alloc_block (.cells #[v1, dueV] 57) hS1
  have s0 := cell_of_block hS2 0
  have s1 := cell_of_block hS2 1
  have hBb : w.heap.size ≤ w1.heap.size := k1.size
  clear HS HR hO hb hS1 hS2 k1
  subst hv1
  go_wp2_with fail
  go_at_call 41; refine (hPush_any (by omega) hBb hin hO1).mono ?_; rintro e w2 ⟨rfl, v2, hin2, hO2, hb2⟩
  obtain ⟨a2, c2, hv2⟩ := hO2.row.form
  subst hv2
  have b0 := cell_of_block hin2 0
  have b1 := cell_of_block hin2 1
  have k3 := k2.trans hb2
  clear s0 s1 hin hO1 k2 hin2 hb2
  go_wp2
  go_ret2
  exact ⟨_, rfl, hO2, k3⟩

set_option maxRecDepth 100000 in
set_option maxHeartbeats 2000000 in
theorem iPushed_out {v : Value} {n : Nat} {f : Slots} (a b : Int) {w : World} (hn : ¬ n < 30) (hn1 : n ≤ 1048576) (h : RowAt w v n f) :
    Calls Try.prog 14 #[v, .agg #[.int .i64 a, .int .i64 b]] w (NewRowB n f false w) := by
  have k0 := (Below.refl w.heap.size w).alloc (Nat.le_refl _) (.cells #[.int .i64 a, .int .i64 b] 30)
  have HR := Lib.hid (h.below k0)
  obtain ⟨va, vc, hv⟩ := h.form
  clear h
  have hn2 : (30 : Int) ≤ (n : Int) := by omega
  have hd : decide ((30 : Int) ≤ (n : Int)) = true := by simp; omega
  subst hv
  go_enter Try.func14, Try.ntmps14
  go_wp2_with fail
  go_at_call 39; refine (heapFrom_any hn1 HR.out).mono ?_; rintro e w1 ⟨v1, rfl, hO, hb⟩
  have k1 := k0.trans (hb.mono k0.size)
  obtain ⟨a1, c1, hv1⟩ := hO.row.form
  have hin := heap_alloc_new w1 (.cells #[v1, dueV] 57)
  have hO1 := (hO.alloc (.cells #[v1, dueV] 57)).mono k0.size
  have k2 := k1.alloc k1.size (.cells #[v1, dueV] 57)
  have s0 := cell_of_block hin 0
  have s1 := cell_of_block hin 1
  clear HR hO hb k1 hin
  subst hv1
  go_wp2
  go_ret2
  exact ⟨_, rfl, hO1, k2⟩

theorem iPushed_holds : Pushes 14 := by
  intro v n f a b w hn h
  by_cases h30 : n < 30
  · rw [pushedN, if_pos h30, pushedF, if_pos h30, decide_eq_true h30]
    exact iPushed_in a b h30 h
  · rw [pushedN, if_neg h30, pushedF, if_neg h30, decide_eq_false h30]
    exact iPushed_out a b h30 hn h

end Go.Proofs.Ytegmlabiodikpaa
