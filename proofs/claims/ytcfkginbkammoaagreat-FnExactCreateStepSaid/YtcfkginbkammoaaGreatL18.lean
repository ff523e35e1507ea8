/-
  Tidying up, plainly (chapter 6): the program's ways and the model's come to the same memory. No Go in sight.
-/
import Derived.Test.YtcfkginbkammoaaGreatL10
import Derived.Test.YtcfkginbkammoaaGreatL13
import Derived.Test.YtcfkginbkammoaaGreatL05
import Derived.Test.YtcfkginbkammoaaGreatL07
import Derived.Deep.RegionLaw
import Derived.Test.YtcfkginbkammoaaGreatL08
import Derived.Test.YtcfkginbkammoaaGreatL16
import Derived.Deep.DeepCutAuto
import Derived.Deep.QuietTactic
import Derived.BigQuiet
import Derived.IntWalk
import Derived.Deep.RegionHeld3
import Derived.Test.YtcfkginbkammoaaGreatL17
import Derived.Deep.RegionHeld
import Derived.Test.YtcfkginbkammoaaGreatL04
import Derived.Test.YtcfkginbkammoaaGreatL15
import Derived.Test.YtcfkginbkammoaaGreatL01
import Derived.OpenShut
import Derived.ChangeOld
import Derived.Deep.SlicePairs
import Derived.Test.YtcfkginbkammoaaGreatL12
namespace Go.Proofs.YtcfkginbkammoaaGreat
open Go.RowKit Go.Joins
set_option linter.unusedVariables false

/-- a timer comes into a heap -/
def putM (M : Me) (t k : Nat) (wh : Int) : Me := setHp (setTm (setTm (setTm M t 0 1) t 1 wh) t 4 (k : Int)) k (pushedN (M.p k).n) (pushedF (M.p k).f (M.p k).n ((t : Int), wh))
/-- a timer is taken out of a heap -/
def takeM (M : Me) (t k : Nat) : Me := setTm (pullM M k (findFrom (M.p k).f (M.p k).n (t : Int) 0)) t 4 (-1)
theorem me_ext {M N : Me} (hc : M.c = N.c) (h1 : M.tn = N.tn) (h2 : M.pn = N.pn) (ht : ∀ i, M.t i = N.t i) (hp : ∀ i, M.p i = N.p i) : M = N := by
  cases M; cases N
  simp only [Me.mk.injEq]
  exact ⟨hc, h1, funext ht, h2, funext hp⟩
theorem put_push (M : Me) (t k : Nat) : putM M t k (M.t t).wh = pushM M t k :=
  me_ext rfl rfl rfl (fun i => by by_cases e : i = t <;> simp [putM, pushM, setHp, setTm, putT, e, tmSet]) (fun i => rfl)
theorem take_drop {M : Me} {t k i : Nat} (hf : findFrom (M.p k).f (M.p k).n (t : Int) 0 = (i : Int)) : setTm (takeM (setPc M k 3 ((M.p k).d - 1)) t k) t 0 7 = dropM M k i t := by
  have e1 : ((setPc M k 3 ((M.p k).d - 1)).p k).f = (M.p k).f := by rw [setPc_at]; rfl
  have e2 : ((setPc M k 3 ((M.p k).d - 1)).p k).n = (M.p k).n := by rw [setPc_at]; rfl
  unfold takeM
  rw [e1, e2, hf]
  refine me_ext rfl rfl rfl (fun x => ?_) (fun x => ?_)
  · by_cases e : x = t <;> simp [dropM, pullM, setPc, setHp, setTm, putT, e, tmSet]
  · by_cases e : x = k <;> simp [dropM, pullM, setPc, setHp, setTm, putP, e, pcSet]
theorem take_move {M : Me} {t k i : Nat} (hf : findFrom (M.p k).f (M.p k).n (t : Int) 0 = (i : Int)) : putM (takeM M t k) t k (M.t t).nx = moveM M k i t := by
  unfold takeM
  rw [hf]
  refine me_ext rfl rfl rfl (fun x => ?_) (fun x => ?_)
  · by_cases e : x = t <;> simp [moveM, putM, pushM, pullM, setHp, setTm, putT, e, tmSet]
  · by_cases e : x = k <;> simp [moveM, putM, pushM, pullM, setHp, setTm, putP, putT, e, tmSet]
theorem take_none {M : Me} {t k : Nat} (hpl : (M.t t).pl = (k : Int)) (hp : (M.t t).pe = 0) : setTm (takeM M t k) t 0 0 = rearmM M t := by
  have ek : (M.t t).pl.toNat = k := by rw [hpl]; rfl
  rw [rearmM, if_pos hp]
  unfold takeM outM
  rw [ek]
  refine me_ext rfl rfl rfl (fun x => ?_) (fun x => ?_)
  · by_cases e : x = t <;> simp [pullM, setHp, setTm, putT, e, tmSet]
  · rfl
theorem take_again {M : Me} {t k : Nat} (hpl : (M.t t).pl = (k : Int)) (hp : ¬ (M.t t).pe = 0) : putM (takeM M t k) t k (nextI M.c (M.t t)) = rearmM M t := by
  have ek : (M.t t).pl.toNat = k := by rw [hpl]; rfl
  rw [rearmM, if_neg hp]
  unfold takeM outM
  rw [ek]
  generalize nextI M.c (M.t t) = y
  refine me_ext rfl rfl rfl (fun x => ?_) (fun x => ?_)
  · by_cases e : x = t <;> simp [putM, pushM, pullM, setHp, setTm, putT, e, tmSet]
  · by_cases e : x = k <;> simp [putM, pushM, pullM, setHp, setTm, putP, putT, e, tmSet]
/-- the program's way to the next time -/
theorem next_after {c : Int} {t : Tm} {q : Int} (hw : 0 ≤ t.wh ∧ t.wh ≤ 1000000000) (hp : 0 < t.pe) (hq : timesI c t = q + 1) (hq0 : 0 ≤ q) : afterI t.wh ((q + 1) * t.pe) = nextI c t := by
  have h1 : t.pe * 1 ≤ t.pe * (q + 1) := Int.mul_le_mul_of_nonneg_left (by omega) (by omega)
  unfold nextI
  rw [hq, Int.mul_comm (q + 1) t.pe]
  generalize t.pe * (q + 1) = y at h1
  unfold afterI
  rw [if_pos (inB_t hw.1 hw.2)]
  unfold dl minI
  split <;> split <;> (try split) <;> (try split) <;> omega

end Go.Proofs.YtcfkginbkammoaaGreat

/-
  FnExactPushedOn, told what the program's own function answers.
-/
namespace Go.Proofs.YtcfkginbkammoaaGreat
open Go.RowKit Go.Joins
set_option linter.unusedVariables false

/-! ### exPushed: a list and a word, asked of one list and one slot -/
theorem pushedN_le {n : Nat} (hn : n ≤ 1048576) : pushedN n ≤ 1048576 := by unfold pushedN; split <;> omega
/-- what the program's PushedOn is to answer -/
def Pushes (fn : FuncId) : Prop := ∀ (v : Value) (n : Nat) (f : Slots) (a b : Int) (w : World), n ≤ 1048576 → RowAt w v n f → Calls Tryz.prog fn #[v, .agg #[.int .i64 a, .int .i64 b]] w (NewRowB (pushedN n) (pushedF f n (a, b)) (decide (n < 30)) w)

end Go.Proofs.YtcfkginbkammoaaGreat

/-
  The program's heap (chapter 2): one slot more, at the end, and raised there.
-/
namespace Go.Proofs.YtcfkginbkammoaaGreat
open Go.RowKit Go.Joins
set_option linter.unusedVariables false

/-- a heap in a variable of its own, in the block b -/
def HeapIn (w : World) (b : Nat) (v : Value) : Prop := w.heap[b]? = some (.cells #[v, dueV] 158 (0, 0))

/-- its list's block is no variable of a heap -/
theorem OwnAt.ne_heap {w : World} {B g n cap b : Nat} {f : Slots} {v : Value} (h : OwnAt w B g n cap f) (hb : HeapIn w b v) : b ≠ g := by
  rintro rfl
  obtain ⟨_, _, _, cur, hh, _⟩ := h
  rw [HeapIn, hh] at hb
  simp at hb

theorem OwnRow.ne_heap {w : World} {B n b : Nat} {f : Slots} {v u : Value} (h : OwnRow w B v n f) (hb : HeapIn w b u) : some b ≠ v.ownBlock := by
  rcases h with ⟨_, rfl⟩ | ⟨g, cap, rfl, h⟩
  · simp [Value.ownBlock]
  · intro e
    exact h.ne_heap hb (by simpa [Value.ownBlock] using e)
theorem OwnRow.ne_new {w : World} {B n b : Nat} {f : Slots} {v : Value} (h : OwnRow w B v n f) (hb : w.heap.size ≤ b) : some b ≠ v.ownBlock := by
  rcases h with ⟨_, rfl⟩ | ⟨g, cap, rfl, h⟩
  · simp [Value.ownBlock]
  · intro e
    have := h.lt
    simp [Value.ownBlock] at e
    omega

set_option maxRecDepth 100000 in
set_option maxHeartbeats 2000000 in
theorem hPush_any {B b n : Nat} {x y : Int} {v : Value} {f : Slots} {w : World} (hn : n < 1048576) (hB : B ≤ b) (hin : HeapIn w b v) (h : OwnRow w B v n f) :
    Calls Tryz.prog 136 #[.pointer (some ⟨b, 0, none⟩), .agg #[.int .i64 x, .int .i64 y]] w fun e w' => e = .returned (.tuple #[]) ∧
      ∃ v', HeapIn w' b v' ∧ OwnRow w' B v' (n + 1) (raiseF (putF f n (x, y)) n) ∧ Below B w w' := by
  have hbl := lt_of_block hin
  have k0 := (Below.refl w.heap.size w).alloc (Nat.le_refl _) (.cells #[.int .i64 x, .int .i64 y] 133)
  have kB := k0.mono (Nat.le_trans hB (Nat.le_of_lt hbl))
  have hO0 := h.below k0
  have hin0 : HeapIn (w.alloc (.cells #[.int .i64 x, .int .i64 y] 133)) b v := b_block k0 hin hbl
  have a0 := cell_of_block hin0 0
  have a1 := cell_of_block hin0 1
  have hS := heap_alloc_new w (.cells #[.int .i64 x, .int .i64 y] 133)
  have s0 := cell_of_block hS 0
  have s1 := cell_of_block hS 1
  clear hS
  have hOA : OwnRow ((w.alloc (.cells #[.int .i64 x, .int .i64 y] 133)).alloc (.cells #[.int .i64 x, .int .i64 y] 133)).drew B v n f := ((h.alloc (.cells #[.int .i64 x, .int .i64 y] 133)).alloc (.cells #[.int .i64 x, .int .i64 y] 133)).drew
  have hinA : HeapIn ((w.alloc (.cells #[.int .i64 x, .int .i64 y] 133)).alloc (.cells #[.int .i64 x, .int .i64 y] 133)).drew b v := alloc_block _ hin0
  have hbA := lt_of_block hinA
  have hBA : B ≤ ((w.alloc (.cells #[.int .i64 x, .int .i64 y] 133)).alloc (.cells #[.int .i64 x, .int .i64 y] 133)).drew.heap.size := Nat.le_trans hB (Nat.le_of_lt hbA)
  have hsrc : RowAt ((w.alloc (.cells #[.int .i64 x, .int .i64 y] 133)).alloc (.cells #[.int .i64 x, .int .i64 y] 133)).drew (.slice (some ⟨w.heap.size + 1, 0, none⟩) 1 1) 1 (fun _ => (x, y)) := by
    have := one_row (w.alloc (.cells #[.int .i64 x, .int .i64 y] 133)) x y
    rw [show (w.alloc (.cells #[.int .i64 x, .int .i64 y] 133)).heap.size = w.heap.size + 1 by simp] at this
    exact this
  obtain ⟨av, cv, hv⟩ := h.row.form
  subst hv
  go_enter Tryz.func136, Tryz.ntmps136
  go_wp2_with fail
  go_region_law (first
    | (refine step_append_slots rfl (.tmp 8) (.tmp 10) rfl B (.slice av n cv) n f rfl (row_of_ownrow hOA) _ 1 (fun _ => (x, y)) rfl hsrc (by omega) hBA ?_; intro v2 w2 hown2 hg2 hat2
       rw [cellsF_push] at hown2; have hO2 := own_of_row hown2; obtain ⟨a2, c2, hv2⟩ := hO2.row.form; subst hv2
       have hin2 : HeapIn w2 b (.slice av n cv) := (hg2.block b hbA (hOA.ne_heap hinA)).trans hinA
       have d0 := cell_of_block hin2 0; have d1 := unfrozen_of_block hin2 0
       have hb2 := hOA.below_own hg2 hBA; clear hown2 hg2 hat2))
  all_goals
    have hl2 := lt_of_block hin2
    have hin3 : HeapIn (w2.setCell ⟨b, 0, none⟩ (.slice a2 (n + 1) c2)) b (.slice a2 (n + 1) c2) := block_setCell hin2 _
    have hO3 : OwnRow (w2.setCell ⟨b, 0, none⟩ (.slice a2 (n + 1) c2)) B (.slice a2 (n + 1) c2) (n + 1) (putF f n (x, y)) := by
      rcases hO2 with ⟨h0, _⟩ | ⟨g, cap, e, hO2⟩
      · omega
      · refine .inr ⟨g, cap, e, hO2.block ?_⟩
        exact Below.heap_setCell w2 ⟨b, 0, none⟩ _ g (fun e => hO2.ne_heap hin2 e.symm)
    have hb3 := hb2.setCell (p := ⟨b, 0, none⟩) hB (.slice a2 (n + 1) c2)
    clear a0 a1 s0 s1 hsrc hOA hinA hO0 hin0 hO2 hin2 d0 d1 hb2
    generalize w2.setCell ⟨b, 0, none⟩ (.slice a2 (n + 1) c2) = w3 at *
    obtain ⟨N, hN⟩ : ∃ N : Nat, N = n + 1 := ⟨_, rfl⟩
    rw [← hN] at hin3 hO3 ⊢
    rcases hO3 with ⟨h0, _⟩ | ⟨g, cap, e, hO3⟩
    · omega
    injection e with e1 e2 e3
    subst e1 e3
    have hne := hO3.ne_heap hin3
    have b0 : w3.cell? ⟨b, 0, none⟩ = some (.slice (some ⟨g, 0, none⟩) N c2) := cell_of_block hin3 0
    have b1 : w3.cell? ⟨b, 1, none⟩ = some dueV := cell_of_block hin3 1
    have hl3 := lt_of_block hin3
    have hN1 : N ≤ 1048576 := by omega
    have hN2 : n < N := by omega
    have e1 : IntKind.i64.wrap ((N : Int) - 1) = (n : Int) := by rw [IntKind.wrap_i64]; omega
    have hgB := hO3.1
    have HN := Lib.hid hN
    have hWA : Below B w ((w.alloc (.cells #[.int .i64 x, .int .i64 y] 133)).alloc (.cells #[.int .i64 x, .int .i64 y] 133)).drew := (kB.alloc (Nat.le_trans hB (Nat.le_of_lt (Nat.lt_of_lt_of_le hbl k0.size))) _).drew
    clear hl2 hbA hBA hN h hin k0
    go_wp2_with fail
    go_region_held3 (fun w' => w'.cell? ⟨b, 0, none⟩ = some (.slice (some ⟨g, 0, none⟩) N c2) ∧ w'.cell? ⟨b, 1, none⟩ = some dueV)
      (first | exact ⟨b0, b1⟩ | exact ⟨x0, x1⟩ | exact ⟨z0, z1⟩ | go_keep)
      (first
        | (go_at_call 151; refine (hSize_any (Nat.le_succ_of_le hN1) ⟨_, _, rfl⟩).mono ?_; rintro e w4 ⟨rfl, hb4⟩
           have hin4 := b_block hb4 hin3 hl3; have hO4 := hO3.drew.below hb4; have hb4' := hb3.drew.trans (hb4.mono (Nat.le_trans hB (Nat.le_of_lt hl3)))
           have x0 := cell_of_block hin4 0; have x1 := cell_of_block hin4 1; clear hin3 hO3 hb3 b0 b1 hb4)
        | (go_at_call 150; refine (hRaise_in hN1 hN2 hO4).mono ?_; rintro e w5 ⟨rfl, hO5, hg5⟩
           have hin5 := g_block hg5 hin4 hne; have hb5 := hb4'.trans (b_grown hg5 hgB (Nat.le_trans hB (Nat.le_of_lt (lt_of_block hin4))))
           have z0 := cell_of_block hin5 0; have z1 := cell_of_block hin5 1; clear hin4 hO4 hg5 x0 x1 hb4'))
    all_goals
      clear z0 z1 e1
      go_wp2
      go_end0
      exact ⟨rfl, _, hin5, HN.out ▸ hO5.own, hWA.trans hb5⟩

set_option maxRecDepth 100000 in
set_option maxHeartbeats 2000000 in
theorem iPushed_in {v : Value} {n : Nat} {f : Slots} (a b : Int) {w : World} (hn : n < 30) (h : RowAt w v n f) :
    Calls Tryz.prog 122 #[v, .agg #[.int .i64 a, .int .i64 b]] w (NewRowB (n + 1) (raiseF (putF f n (a, b)) n) true w) := by
  have k0 := (Below.refl w.heap.size w).alloc (Nat.le_refl _) (.cells #[.int .i64 a, .int .i64 b] 133)
  have HR := Lib.hid (h.below k0)
  have hS := heap_alloc_new w (.cells #[.int .i64 a, .int .i64 b] 133)
  have hs0 : w.heap.size < (w.alloc (.cells #[.int .i64 a, .int .i64 b] 133)).heap.size := by simp
  have HS := Lib.hid hS
  obtain ⟨va, vc, hv⟩ := h.form
  clear h hS
  have hn2 : (n : Int) < 30 := by omega
  have hd : decide ((30 : Int) ≤ (n : Int)) = false := by simp; omega
  subst hv
  go_enter Tryz.func122, Tryz.ntmps122
  go_wp2_with fail
  go_at_call 134; refine (heapFrom_any (by omega) HR.out).mono ?_; rintro e w1 ⟨v1, rfl, hO, hb⟩
  have hS1 := b_block hb HS.out hs0
  have hs1 := Nat.lt_of_lt_of_le hs0 hb.size
  have k1 := k0.trans (hb.mono k0.size)
  obtain ⟨a1, c1, hv1⟩ := hO.row.form
  have hin : HeapIn (w1.alloc (.cells #[v1, dueV] 158)) w1.heap.size v1 := heap_alloc_new w1 (.cells #[v1, dueV] 158)
  have hO1 := (hO.alloc (.cells #[v1, dueV] 158)).mono k0.size
  have k2 := k1.alloc k1.size (.cells #[v1, dueV] 158)
  have hS2 := alloc_block (.cells #[v1, dueV] 158) hS1
  have s0 := cell_of_block hS2 0
  have s1 := cell_of_block hS2 1
  have hBb : w.heap.size ≤ w1.heap.size := k1.size
  clear HS HR hO hb hS1 hS2 k1
  subst hv1
  go_wp2_with fail
  go_at_call 136; refine (hPush_any (by omega) hBb hin hO1).mono ?_; rintro e w2 ⟨rfl, v2, hin2, hO2, hb2⟩
  obtain ⟨a2, c2, hv2⟩ := hO2.row.form
  subst hv2
  have b0 := cell_of_block hin2 0
  have b1 := cell_of_block hin2 1
  have k3 := k2.trans hb2
  clear s0 s1 hin hO1 k2 hin2 hb2
  go_wp2
  go_ret2
  exact ⟨_, rfl, hO2, k3⟩

set_option maxRecDepth 100000 in
set_option maxHeartbeats 2000000 in
theorem iPushed_out {v : Value} {n : Nat} {f : Slots} (a b : Int) {w : World} (hn : ¬ n < 30) (hn1 : n ≤ 1048576) (h : RowAt w v n f) :
    Calls Tryz.prog 122 #[v, .agg #[.int .i64 a, .int .i64 b]] w (NewRowB n f false w) := by
  have k0 := (Below.refl w.heap.size w).alloc (Nat.le_refl _) (.cells #[.int .i64 a, .int .i64 b] 133)
  have HR := Lib.hid (h.below k0)
  obtain ⟨va, vc, hv⟩ := h.form
  clear h
  have hn2 : (30 : Int) ≤ (n : Int) := by omega
  have hd : decide ((30 : Int) ≤ (n : Int)) = true := by simp; omega
  subst hv
  go_enter Tryz.func122, Tryz.ntmps122
  go_wp2_with fail
  go_at_call 134; refine (heapFrom_any hn1 HR.out).mono ?_; rintro e w1 ⟨v1, rfl, hO, hb⟩
  have k1 := k0.trans (hb.mono k0.size)
  obtain ⟨a1, c1, hv1⟩ := hO.row.form
  have hin := heap_alloc_new w1 (.cells #[v1, dueV] 158)
  have hO1 := (hO.alloc (.cells #[v1, dueV] 158)).mono k0.size
  have k2 := k1.alloc k1.size (.cells #[v1, dueV] 158)
  have s0 := cell_of_block hin 0
  have s1 := cell_of_block hin 1
  clear HR hO hb k1 hin
  subst hv1
  go_wp2
  go_ret2
  exact ⟨_, rfl, hO1, k2⟩

theorem iPushed_holds : Pushes 122 := by
  intro v n f a b w hn h
  by_cases h30 : n < 30
  · rw [pushedN, if_pos h30, pushedF, if_pos h30, decide_eq_true h30]
    exact iPushed_in a b h30 h
  · rw [pushedN, if_neg h30, pushedF, if_neg h30, decide_eq_false h30]
    exact iPushed_out a b h30 hn h

end Go.Proofs.YtcfkginbkammoaaGreat

/-
  The program's heap (chapter 2): one slot taken out.
-/
namespace Go.Proofs.YtcfkginbkammoaaGreat
open Go.RowKit Go.Joins
set_option linter.unusedVariables false

/-- raised, whether there is such a slot or not -/
theorem hRaise_own {B g n cap : Nat} {f : Slots} {w : World} (i : Int) (hn : n ≤ 1048576) (h : OwnAt w B g n cap f) :
    Calls Tryz.prog 150 #[heapV (.slice (some ⟨g, 0, none⟩) n cap), .int .i64 i] w fun e w' => e = .returned (.tuple #[]) ∧ OwnAt w' B g n cap (raisedF f n i) ∧ w.grownBy w' (some g) := by
  cases hi : hasB n i
  · rw [raisedF_no hi]
    exact (hRaise_out hn hi ⟨_, _, rfl⟩).mono fun e w' ⟨he, hb⟩ => ⟨he, h.below hb, g_below hb _⟩
  · obtain ⟨i0, i1⟩ := hasB_iff.1 hi
    obtain ⟨k, rfl⟩ : ∃ k : Nat, i = k := ⟨i.toNat, by omega⟩
    rw [raisedF_has hi, Int.toNat_natCast]
    exact hRaise_in hn (by omega) h
/-- the last one in the place of the slot k, raised and sunk there: also where it was itself the last one -/
theorem pulled_same {f : Slots} {n k m : Nat} (hm : m = n - 1) (hk : k < m ∨ k = m) : sunkF (raisedF (putF f k (f m)) m k) m k = pulledF f n k := by
  subst hm
  rcases hk with hk | rfl
  · rw [pulledF_mid hk]
  · have hno : hasB (n - 1) ((n - 1 : Nat) : Int) = false := by
      cases h : hasB (n - 1) ((n - 1 : Nat) : Int)
      · rfl
      · have := hasB_iff.1 h; omega
    have hp : putF f (n - 1) (f (n - 1)) = f := by
      funext j
      by_cases e : j = n - 1
      · rw [e, putF_same]
      · exact putF_other f _ e
    rw [raisedF_no hno, sunkF_no hno, hp]
    by_cases hn : 0 < n
    · rw [pulledF_last (by omega) (by omega)]
    · have : n = 0 := by omega
      subst this
      rfl

end Go.Proofs.YtcfkginbkammoaaGreat

/-
  The program's PulledOff (chapter 2).
-/
namespace Go.Proofs.YtcfkginbkammoaaGreat
open Go.RowKit Go.Joins
set_option linter.unusedVariables false

end Go.Proofs.YtcfkginbkammoaaGreat

/-
  Tidying up, in the program (chapter 6): into a heap, out of it; the top.
-/
namespace Go.Proofs.YtcfkginbkammoaaGreat
open Go.RowKit Go.Joins
set_option linter.unusedVariables false

theorem OpenX.setT0 {w : World} {B mb tg n tc g : Nat} {a b c : Int} {V : Nat → Value} {M : Me} (h : OpenX w B mb a b c (.slice (some ⟨tg, 0, none⟩) n tc) g V M) {k : Nat} (hk : k < M.tn) (x : Int) :
    OpenX (w.setCell ⟨tg, k * 8, none⟩ (.int .i64 x)) B mb a b c (.slice (some ⟨tg, 0, none⟩) n tc) g V (setTm M k 0 x) := h.setT (j := 0) hk (by decide) x

set_option maxRecDepth 100000 in
set_option maxHeartbeats 8000000 in
theorem putIn_any {B mb g t k : Nat} {a b c : Int} {tv : Value} {V : Nat → Value} {M : Me} {w : World} (hB : B ≤ w.heap.size) (ht : t < M.tn) (hk : k < M.pn) (hn : (M.p k).n ≤ 1048576) (wh : Int) (h : OpenX w B mb a b c tv g V M) :
    Calls Tryz.prog 106 #[ptrV mb, .int .i64 (t : Int), .int .i64 (k : Int), .int .i64 wh] w fun x w' => x = .returned (.tuple #[]) ∧ InX B mb a b c tv g (putM M t k wh) w w' := by
  obtain ⟨tg, tc, rfl⟩ := h.tms ht
  have i0 : (0 : Int) ≤ (k : Int) := by omega
  have i1 : (k : Int) < (M.pn : Int) := by omega
  have i2 : (0 : Int) ≤ (t : Int) := by omega
  have i3 : (t : Int) < (M.tn : Int) := by omega
  obtain ⟨m0, m1, m2, m3, m4, m5⟩ := six h.m
  go_enter Tryz.func106, Tryz.ntmps106
  go_wp2_with fail
  go_region
  have h0 : OpenX w.drew B mb a b c (.slice (some ⟨tg, 0, none⟩) M.tn tc) g V M := h.below (Below.refl _ w).drew
  have k0 : Wx B w w.drew := .of_new (Below.refl _ w).drew hB
  clear m0 m1 m2 m3 m4 m5 h
  generalize w.drew = w1 at h0 k0 ⊢
  obtain ⟨⟨t0, t1, _, _, t4, _⟩, tf⟩ := h0.tcells ht
  have f0 := tf (t * 8)
  have f1 := tf (t * 8 + 1)
  have f4 := tf (t * 8 + 4)
  have h1 := ((h0.setT0 ht 1).setT (k := t) (j := 1) ht (by decide) wh).setT (k := t) (j := 4) ht (by decide) (k : Int)
  have k1 := ((k0.setT h0 (t * 8) (.int .i64 1)).setT (h0.setT0 ht 1) (t * 8 + 1) (.int .i64 wh)).setT ((h0.setT0 ht 1).setT (k := t) (j := 1) ht (by decide) wh) (t * 8 + 4) (.int .i64 (k : Int))
  clear tf h0 k0
  go_upto_region 2 with fail
  generalize ((w1.setCell ⟨tg, t * 8, none⟩ (.int .i64 1)).setCell ⟨tg, t * 8 + 1, none⟩ (.int .i64 wh)).setCell ⟨tg, t * 8 + 4, none⟩ (.int .i64 (k : Int)) = w2 at h1 k1 ⊢
  clear t0 t1 t4 f0 f1 f4
  have hB2 : B ≤ w2.heap.size := Nat.le_trans hB k1.below.size
  obtain ⟨N, hN⟩ : ∃ N : Me, N = setTm (setTm (setTm M t 0 1) t 1 wh) t 4 (k : Int) := ⟨_, rfl⟩
  have eN1 : N.p k = M.p k := by rw [hN]; rfl
  have eN2 : putM M t k wh = setHp N k (pushedN (N.p k).n) (pushedF (N.p k).f (N.p k).n ((t : Int), wh)) := by rw [eN1, hN]; rfl
  have eN3 : N.pn = M.pn := by rw [hN]; rfl
  have E2 := Lib.hid eN2
  rw [← hN] at h1
  have hk2 : k < N.pn := by omega
  rw [← eN1] at hn
  clear eN1 eN2 eN3 hN
  obtain ⟨⟨ra, rc, hrow, p1⟩, p2, p3, pf⟩ := h1.pcells hk2
  clear p2 p3 pf
  go_wp2_with fail
  go_at_call 122; refine (iPushed_holds _ _ _ _ _ _ hn hrow).mono ?_; rintro x w5 ⟨v, rfl, hO, hb⟩
  have h5 := h1.below hb
  obtain ⟨⟨ra5, rc5, _, q1⟩, _, _, pf⟩ := h5.pcells hk2
  have pf1 := pf (k * 4 + 1)
  have h6 := h1.setNew hB2 hb hk2 hO
  have k6 := (k1.new hb hB).setP h5 (k * 4 + 1) v
  obtain ⟨oa, oc, ho⟩ := hO.value
  subst ho
  clear p1 pf h5 h1 hrow hO hb k1
  go_wp2
  go_end0
  exact ⟨rfl, by rw [E2.out]; exact ⟨_, h6, k6⟩⟩

end Go.Proofs.YtcfkginbkammoaaGreat

/-
  Tidying up, in the program (chapter 6): armed, rung, set to its next time; out of a heap for good, elsewhere in it.
-/
namespace Go.Proofs.YtcfkginbkammoaaGreat
open Go.RowKit Go.Joins
set_option linter.unusedVariables false

theorem ret_i {a b : Int} (h : a = b) : Ending.returned (.int .i64 a) = .returned (.int .i64 b) := by rw [h]
theorem tm_eight {w : World} {b : Nat} {t : Tm} {ty : TypeId} (h : w.heap[b]? = some (.cells (tmCells t) ty (0, 0))) :
    w.cell? ⟨b, 0, none⟩ = some (.int .i64 t.st) ∧ w.cell? ⟨b, 1, none⟩ = some (.int .i64 t.wh) ∧ w.cell? ⟨b, 3, none⟩ = some (.int .i64 t.pe) ∧ w.cell? ⟨b, 4, none⟩ = some (.int .i64 t.pl) :=
  ⟨cell_of_block h 0, cell_of_block h 1, cell_of_block h 3, cell_of_block h 4⟩

set_option maxRecDepth 100000 in
set_option maxHeartbeats 8000000 in
theorem arm_any {B mb g t k : Nat} {a b c : Int} {tv : Value} {V : Nat → Value} {M : Me} {w : World} (hB : B ≤ w.heap.size) (ht : t < M.tn) (hk : k < M.pn) (hn : (M.p k).n ≤ 1048576) (h : OpenX w B mb a b c tv g V M) :
    Calls Tryz.prog 80 #[ptrV mb, .int .i64 (t : Int), .int .i64 (k : Int)] w fun x w' => x = .returned (.bool (armedB M t)) ∧ InX B mb a b c tv g (armedM M t k) w w' := by
  obtain ⟨tg, tc, rfl⟩ := h.tms ht
  have i2 : (0 : Int) ≤ (t : Int) := by omega
  have i3 : (t : Int) < (M.tn : Int) := by omega
  obtain ⟨m0, m1, m2, m3, m4, m5⟩ := six h.m
  obtain ⟨⟨t0, t1, t2, t3, t4, t5, t6, t7⟩, _⟩ := h.tcells ht
  have hW := Lib.hid (putIn_any (t := t) (k := k) (B := B) (mb := mb) (g := g) (a := a) (b := b) (c := c) (tv := .slice (some ⟨tg, 0, none⟩) M.tn tc) (V := V) (M := M) (w := w.alloc (.cells (tmCells (M.t t)) 90)) (by simp; omega) ht hk hn (M.t t).wh (h.below ((Below.refl _ w).alloc (Nat.le_refl _) _)))
  rw [put_push] at hW
  obtain ⟨T, hT⟩ : ∃ T, T = M.t t := ⟨_, rfl⟩
  have hq : armedB M t = (T.st == 2 && T.pl == -1) := by rw [hT]; rfl
  have e1 : armedB M t = true → armedM M t k = pushM M t k := fun e => by rw [armedM, if_pos e]
  have e2 : armedB M t = false → armedM M t k = M := fun e => by rw [armedM, e]; rfl
  rw [← hT] at t0 t1 t2 t3 t4 t5 t6 t7 hW
  have h1 : OpenX (w.alloc (.cells (tmCells T) 90)) B mb a b c (.slice (some ⟨tg, 0, none⟩) M.tn tc) g V M := h.below ((Below.refl _ w).alloc (Nat.le_refl _) _)
  have k1 : Wx B w (w.alloc (.cells (tmCells T) 90)) := .of_new ((Below.refl _ w).alloc (Nat.le_refl _) _) hB
  have hx := heap_alloc_new w (.cells (tmCells T) 90)
  have HQ := Lib.hid hq
  have E1 := Lib.hid e1
  have E2 := Lib.hid e2
  clear hT h e1 e2 hq
  by_cases c1 : T.st = 2
  · have c1a : (T.st == 2) = true := by rw [c1]; rfl
    have c1b : (T.st != 2) = false := by rw [c1]; rfl
    by_cases c2 : T.pl = -1
    · have c2b : (T.pl != -1) = false := by rw [c2]; rfl
      have q : armedB M t = true := by rw [HQ.out, c1a, c2]; rfl
      rw [E1.out q, q]
      clear c1 c2 c1a HQ E1 E2 q
      go_enter Tryz.func80, Tryz.ntmps80
      go_upto_region 2 with fail
      generalize w.alloc (.cells (tmCells T) 90) = w1 at h1 k1 hx hW ⊢
      clear m0 m1 m2 m3 m4 m5 t0 t1 t2 t3 t4 t5 t6 t7
      obtain ⟨x0, x1, x3, x4⟩ := tm_eight hx
      go_wp2_with fail
      go_at_call 106; refine hW.out.mono ?_; rintro x w2 ⟨rfl, V2, h2, k2⟩
      go_wp2
      go_ret
      exact ⟨rfl, _, h2, k1.trans k2⟩
    · have c2b : (T.pl != -1) = true := by simpa using c2
      have q : armedB M t = false := by rw [HQ.out, c1a]; simpa using c2
      rw [E2.out q, q]
      clear c1 c2 c1a HQ E1 E2 q hW
      go_enter Tryz.func80, Tryz.ntmps80
      go_upto_region 2 with fail
      generalize w.alloc (.cells (tmCells T) 90) = w1 at h1 k1 hx ⊢
      clear m0 m1 m2 m3 m4 m5 t0 t1 t2 t3 t4 t5 t6 t7
      obtain ⟨x0, x1, x3, x4⟩ := tm_eight hx
      go_wp2
      go_ret
      exact ⟨rfl, _, h1, k1⟩
  · have c1b : (T.st != 2) = true := by simpa using c1
    have q : armedB M t = false := by rw [HQ.out]; simp [c1]
    rw [E2.out q, q]
    clear c1 HQ E1 E2 q hW
    go_enter Tryz.func80, Tryz.ntmps80
    go_upto_region 2 with fail
    generalize w.alloc (.cells (tmCells T) 90) = w1 at h1 k1 hx ⊢
    clear m0 m1 m2 m3 m4 m5 t0 t1 t2 t3 t4 t5 t6 t7
    obtain ⟨x0, x1, x3, x4⟩ := tm_eight hx
    go_wp2
    go_ret
    exact ⟨rfl, _, h1, k1⟩

end Go.Proofs.YtcfkginbkammoaaGreat

/-
  Who is new comes into its heap, in the program (chapter 9).
-/
namespace Go.Proofs.YtcfkginbkammoaaGreat
open Go.RowKit Go.Joins
set_option linter.unusedVariables false

theorem DeedX.setT {w : World} {B mb db tg n tc g t j : Nat} {a b c d : Int} {V : Nat → Value} {D : Dn} (h : DeedX w B mb db a b c d D) (ho : OpenX w B mb a b c (.slice (some ⟨tg, 0, none⟩) n tc) g V D.m) (ht : t < D.m.tn) (hj : j < 8) (x : Int) :
    DeedX (w.setCell ⟨tg, t * 8 + j, none⟩ (.int .i64 x)) B mb db a b c d ⟨setTm D.m t j x, D.h, D.v⟩ := by
  have hn := ho.t.len
  subst hn
  obtain ⟨cs, hcs⟩ := ho.t.at.hh
  exact h.mem (heap_set1 w tg _ _ db (ne_ty h.e hcs (by decide))) (ho.setT ht hj x).own
theorem Wd.setT {B tg n tc mb g : Nat} {x y z : Int} {V : Nat → Value} {M : Me} {a w : World} (h : Wd B a w) (ho : OpenX w B mb x y z (.slice (some ⟨tg, 0, none⟩) n tc) g V M) (o : Nat) (u : Value) : Wd B a (w.setCell ⟨tg, o, none⟩ u) := by
  have hn := ho.t.len
  subst hn
  obtain ⟨cs, hcs⟩ := ho.t.at.hh
  exact h.set hcs ho.t.at.1 (by decide) o u
theorem setTm_swap (M : Me) (t : Nat) (x y : Int) : setTm (setTm M t 5 x) t 1 y = setTm (setTm M t 1 y) t 5 x := by
  unfold setTm
  congr 1
  funext i
  by_cases e : i = t
  · subst e; simp [putT, tmSet]
  · simp [putT, e]
theorem armedB_set {M : Me} {t j : Nat} (x : Int) (hj : j = 1 ∨ j = 5) : armedB (setTm M t j x) t = armedB M t := by
  unfold armedB
  rw [setTm_at]
  rcases hj with rfl | rfl <;> rfl
/-- the memory that is armed -/
def readyM (D : Dn) (t : Nat) : Me := if D.h.call.code = 3 then setTm (genM D.m t) t 1 D.h.whe else genM D.m t
theorem readyM_push (D : Dn) (t : Nat) (k : Nat) (e : D.h.tim = (t : Int)) : pushM (readyM D t) t k = pushedM D k := by
  unfold pushedM readyM keyedM
  have et : D.h.tim.toNat = t := by omega
  rw [et]
  by_cases hc : D.h.call.code = 3
  · rw [if_pos hc, if_pos hc]
    unfold genM
    rw [setTm_swap]
    have : ((setTm D.m t 1 D.h.whe).t t).ge = (D.m.t t).ge := by rw [setTm_at]; rfl
    rw [this]
  · rw [if_neg hc, if_neg hc]
theorem readyM_armed (D : Dn) (t : Nat) : armedB (readyM D t) t = armedB D.m t := by
  unfold readyM genM
  by_cases hc : D.h.call.code = 3
  · rw [if_pos hc, armedB_set _ (.inl rfl), armedB_set _ (.inr rfl)]
  · rw [if_neg hc, armedB_set _ (.inr rfl)]

set_option maxRecDepth 100000 in
set_option maxHeartbeats 4000000 in
theorem pushD_neg {w : World} {B mb db : Nat} {a b c d : Int} {D : Dn} (hB : B ≤ w.heap.size) (ht : D.h.tim = -1) (h : DeedX w B mb db a b c d D) :
    Calls Tryz.prog 51 #[ptrV db] w (GaveUp B w) := by
  obtain ⟨d0, d1, d2, d3, d4, d5, d6, d7, _, hf⟩ := h.cells
  rw [ht] at d7
  clear h ht
  go_enter Tryz.func51, Tryz.ntmps51
  go_wp2_with (go_at_call 54; refine (giveUp_any _).mono ?_; rintro e w1 ⟨⟨u, pv, rfl⟩, rfl⟩)
  exact ⟨rfl, ⟨_, _, rfl⟩, Below.refl _ _⟩

set_option maxRecDepth 100000 in
set_option maxHeartbeats 8000000 in
theorem pushD_yes {w : World} {B mb db t : Nat} {a b c d : Int} {D : Dn} (hB : B ≤ w.heap.size) (hw : workB a b c d = true) (hk : homeN a d < D.m.pn) (hn : (D.m.p (homeN a d)).n ≤ 1048576) (ht : t < D.m.tn) (het : D.h.tim = (t : Int)) (hq : armedB D.m t = true) (hg0 : 0 ≤ (D.m.t t).ge) (hg1 : (D.m.t t).ge ≤ 100000) (h : DeedX w B mb db a b c d D) :
    Calls Tryz.prog 51 #[ptrV db] w fun e w' => e = .returned (.tuple #[]) ∧ InD B mb db a b c d (pushD D (homeN a d)) w w' := by
  obtain ⟨d0, d1, d2, d3, d4, d5, d6, d7, d8, hf⟩ := h.cells
  rw [het] at d7
  obtain ⟨tv, g, V, ho⟩ := h.o.opened
  obtain ⟨tg, tc, rfl⟩ := ho.tms ht
  obtain ⟨m0, m1, m2, m3, m4, m5⟩ := six ho.m
  obtain ⟨⟨_, _, _, _, _, t5, _, _⟩, tf⟩ := ho.tcells ht
  have f5 := tf (t * 8 + 5)
  have i2 : (0 : Int) ≤ (t : Int) := by omega
  have i3 : (t : Int) < (D.m.tn : Int) := by omega
  have ine : ¬ (t : Int) = -1 := by omega
  have ine2 : ((t : Int) == -1) = false := by simp
  have HET := Lib.hid het
  have HQ := Lib.hid (readyM_armed D t |>.trans hq)
  have ER := Lib.hid (readyM_push D t (homeN a d) het)
  have HW := Lib.hid hw
  obtain ⟨G, hG⟩ : ∃ G : Int, G = (D.m.t t).ge := ⟨_, rfl⟩
  rw [← hG] at t5 hg0 hg1
  have HG := Lib.hid hG
  clear het hq hw hG m0 m1 m2 m3 m5 tf
  go_enter Tryz.func51, Tryz.ntmps51
  go_upto_region 4 with fail
  go_cut [] (fun wx => wx = w.setCell ⟨tg, t * 8 + 5, none⟩ (.int .i64 (minI (G + 1) 100000)))
  case first =>
    by_cases hl : 100000 < G + 1
    · have e : minI (G + 1) 100000 = 100000 := by unfold minI; rw [if_neg (by omega)]
      go_wp2
      go_meet
      rw [e]
    · have e : minI (G + 1) 100000 = G + 1 := by unfold minI; split <;> omega
      go_wp2
      go_meet
      rw [e]
  case rest =>
    subst hcut
    have h1 := h.setT ho ht (j := 5) (by decide) (minI (G + 1) 100000)
    have o1 := ho.setT ht (j := 5) (by decide) (minI (G + 1) 100000)
    have k1 := (Wd.refl B w).setT ho (t * 8 + 5) (.int .i64 (minI (G + 1) 100000))
    have eM : setTm D.m t 5 (minI (G + 1) 100000) = genM D.m t := by rw [HG.out]; rfl
    rw [eM] at h1 o1
    clear h ho d0 d1 d2 d3 d4 d5 d6 d7 d8 m4 t5 f5 hf eM
    generalize w.setCell ⟨tg, t * 8 + 5, none⟩ (.int .i64 (minI (G + 1) 100000)) = w1 at h1 o1 k1 ⊢
    obtain ⟨d0, d1, d2, d3, d4, d5, d6, d7, d8, hf⟩ := h1.cells
    obtain ⟨⟨_, t1, _, _, _, _, _, _⟩, tf⟩ := o1.tcells ht
    have f1 := tf (t * 8 + 1)
    clear tf d1 d2 d4 d5 d6 d7
    have hB1 : B ≤ w1.heap.size := Nat.le_trans hB k1.below.size
    by_cases hc : D.h.call.code = 3
    case pos =>
      have hc1 : (D.h.call.code == 3) = true := by simpa using hc
      have ER2 : readyM D t = setTm (genM D.m t) t 1 D.h.whe := if_pos hc
      clear hc
      go_upto_region 7 with fail
      have h2 := h1.setT o1 ht (j := 1) (by decide) D.h.whe
      have o2 := o1.setT (k := t) ht (j := 1) (by decide) D.h.whe
      have k2 := k1.setT o1 (t * 8 + 1) (.int .i64 D.h.whe)
      replace h2 : DeedX _ B mb db a b c d ⟨readyM D t, D.h, D.v⟩ := ER2 ▸ h2
      replace o2 : OpenX _ B mb a b c _ g V (readyM D t) := ER2 ▸ o2
      clear d0 d3 d8 t1 f1 hf h1 o1 k1 ER2
      generalize w1.setCell ⟨tg, t * 8 + 1, none⟩ (.int .i64 D.h.whe) = w2 at h2 o2 k2 ⊢
      have hB2 : B ≤ w2.heap.size := Nat.le_trans hB k2.below.size
      have htn : (readyM D t).tn = D.m.tn := by unfold readyM genM; split <;> rfl
      have hpk : (readyM D t).p = D.m.p := by unfold readyM genM; split <;> rfl
      have hpn : (readyM D t).pn = D.m.pn := by unfold readyM genM; split <;> rfl
      obtain ⟨R, hR⟩ : ∃ R : Me, R = readyM D t := ⟨_, rfl⟩
      rw [← hR] at h2 o2 htn hpk hpn HQ ER
      clear hR
      have ht2 : t < R.tn := by omega
      have hk2 : homeN a d < R.pn := by omega
      have hn2 : (R.p (homeN a d)).n ≤ 1048576 := by rw [hpk]; exact hn
      clear htn hpk hpn
      have ld := h2.lt
      have y0 := Lib.hid h2.cells.1
      have kk := (Below.refl w2.heap.size w2).drew
      clear hc1
      go_region_held3 (fun w' => w'.cell? ⟨db, 0, none⟩ = some (ptrV mb))
        (first | with_reducible exact (kk.cell (p := ⟨db, 0, none⟩) ld).trans y0.out | with_reducible exact dz.out)
        (first
          | (go_at_call 50; refine (homeD_any HW.out (h2.below kk)).mono ?_; rintro e w3 ⟨rfl, hb⟩; replace kk := kk.trans (hb.mono kk.size); clear hb)
          | (go_at_call 80; refine (arm_any (Nat.le_trans hB2 kk.size) ht2 hk2 hn2 (o2.below kk)).mono ?_; rintro e w4 ⟨rfl, hx⟩; rw [HQ.out]; have h4 := (h2.below kk).inX hx; have dz := Lib.hid h4.cells.1))
      all_goals
        rw [show armedM R t (homeN a d) = pushM R t (homeN a d) from if_pos HQ.out] at hx h4
        rw [ER.out] at hx h4
        obtain ⟨V4, o4, k4⟩ := hx
        have k5 := (k2.new kk hB).trans k4.deed
        have hB4 : B ≤ w4.heap.size := Nat.le_trans hB k5.below.size
        have htn4 : (pushedM D (homeN a d)).tn = D.m.tn := by unfold pushedM genM keyedM; split <;> rfl
        clear h2 o2 kk k2 k4 y0 dz hB2 ER HQ
        obtain ⟨N, hN⟩ : ∃ N : Me, N = pushedM D (homeN a d) := ⟨_, rfl⟩
        rw [← hN] at h4 o4 htn4
        have HN := Lib.hid hN
        have ht4 : t < N.tn := by omega
        clear hN htn4
        obtain ⟨d0, _, d2, _, _, _, _, _, _, hf⟩ := h4.cells
        have h5 := h4.setPos 4
        have o5 := o4.other h4.e (w' := w4.setCell ⟨db, 2, none⟩ (.int .i64 4)) (by decide) (by decide) (by decide) (by decide) (heap_set1 w4 db _ _)
        have k6 := k5.setD h4 2 (.int .i64 4)
        clear h4 o4 k5
        go_upto_region 10 with fail
        generalize w4.setCell ⟨db, 2, none⟩ (.int .i64 4) = w5 at h5 o5 k6 ⊢
        clear d0 d2 hf
        obtain ⟨⟨_, t1, _, _, _, _, _, _⟩, _⟩ := o5.tcells ht4
        have hB5 : B ≤ w5.heap.size := Nat.le_trans hB k6.below.size
        have HT := Lib.hid (tell_any 1 (N.t t).wh hB5 ht4 h5)
        clear h5 o5
        go_wp2_with fail
        go_at_call 81; refine HT.out.mono ?_; rintro e w6 ⟨rfl, hi, ki⟩
        go_wp2
        first | go_end0 | refine bodyPost_ret (results_none rfl _ _ _) rfl ?_
        refine ⟨rfl, ?_, k6.trans ki⟩
        have et : D.h.tim.toNat = t := by have := HET.out; omega
        unfold pushD
        rw [et, ← HN.out]
        exact hi
    case neg =>
      have hc1 : (D.h.call.code == 3) = false := by simpa using hc
      have ER2 : readyM D t = genM D.m t := if_neg hc
      clear hc
      go_upto_region 7 with fail
      replace h1 : DeedX _ B mb db a b c d ⟨readyM D t, D.h, D.v⟩ := ER2 ▸ h1
      replace o1 : OpenX _ B mb a b c _ g V (readyM D t) := ER2 ▸ o1
      clear d0 d3 d8 t1 f1 hf ER2 hB1
      obtain ⟨w2, hw2⟩ : ∃ w2, w2 = w1 := ⟨_, rfl⟩
      rw [← hw2] at h1 o1 k1 ⊢
      have h2 := h1; have o2 := o1; have k2 := k1
      clear h1 o1 k1 hw2
      have hB2 : B ≤ w2.heap.size := Nat.le_trans hB k2.below.size
      have htn : (readyM D t).tn = D.m.tn := by unfold readyM genM; split <;> rfl
      have hpk : (readyM D t).p = D.m.p := by unfold readyM genM; split <;> rfl
      have hpn : (readyM D t).pn = D.m.pn := by unfold readyM genM; split <;> rfl
      obtain ⟨R, hR⟩ : ∃ R : Me, R = readyM D t := ⟨_, rfl⟩
      rw [← hR] at h2 o2 htn hpk hpn HQ ER
      clear hR
      have ht2 : t < R.tn := by omega
      have hk2 : homeN a d < R.pn := by omega
      have hn2 : (R.p (homeN a d)).n ≤ 1048576 := by rw [hpk]; exact hn
      clear htn hpk hpn
      have ld := h2.lt
      have y0 := Lib.hid h2.cells.1
      have kk := (Below.refl w2.heap.size w2).drew
      clear hc1
      go_region_held3 (fun w' => w'.cell? ⟨db, 0, none⟩ = some (ptrV mb))
        (first | with_reducible exact (kk.cell (p := ⟨db, 0, none⟩) ld).trans y0.out | with_reducible exact dz.out)
        (first
          | (go_at_call 50; refine (homeD_any HW.out (h2.below kk)).mono ?_; rintro e w3 ⟨rfl, hb⟩; replace kk := kk.trans (hb.mono kk.size); clear hb)
          | (go_at_call 80; refine (arm_any (Nat.le_trans hB2 kk.size) ht2 hk2 hn2 (o2.below kk)).mono ?_; rintro e w4 ⟨rfl, hx⟩; rw [HQ.out]; have h4 := (h2.below kk).inX hx; have dz := Lib.hid h4.cells.1))
      all_goals
        rw [show armedM R t (homeN a d) = pushM R t (homeN a d) from if_pos HQ.out] at hx h4
        rw [ER.out] at hx h4
        obtain ⟨V4, o4, k4⟩ := hx
        have k5 := (k2.new kk hB).trans k4.deed
        have hB4 : B ≤ w4.heap.size := Nat.le_trans hB k5.below.size
        have htn4 : (pushedM D (homeN a d)).tn = D.m.tn := by unfold pushedM genM keyedM; split <;> rfl
        clear h2 o2 kk k2 k4 y0 dz hB2 ER HQ
        obtain ⟨N, hN⟩ : ∃ N : Me, N = pushedM D (homeN a d) := ⟨_, rfl⟩
        rw [← hN] at h4 o4 htn4
        have HN := Lib.hid hN
        have ht4 : t < N.tn := by omega
        clear hN htn4
        obtain ⟨d0, _, d2, _, _, _, _, _, _, hf⟩ := h4.cells
        have h5 := h4.setPos 4
        have o5 := o4.other h4.e (w' := w4.setCell ⟨db, 2, none⟩ (.int .i64 4)) (by decide) (by decide) (by decide) (by decide) (heap_set1 w4 db _ _)
        have k6 := k5.setD h4 2 (.int .i64 4)
        clear h4 o4 k5
        go_upto_region 10 with fail
        generalize w4.setCell ⟨db, 2, none⟩ (.int .i64 4) = w5 at h5 o5 k6 ⊢
        clear d0 d2 hf
        obtain ⟨⟨_, t1, _, _, _, _, _, _⟩, _⟩ := o5.tcells ht4
        have hB5 : B ≤ w5.heap.size := Nat.le_trans hB k6.below.size
        have HT := Lib.hid (tell_any 1 (N.t t).wh hB5 ht4 h5)
        clear h5 o5
        go_wp2_with fail
        go_at_call 81; refine HT.out.mono ?_; rintro e w6 ⟨rfl, hi, ki⟩
        go_wp2
        first | go_end0 | refine bodyPost_ret (results_none rfl _ _ _) rfl ?_
        refine ⟨rfl, ?_, k6.trans ki⟩
        have et : D.h.tim.toNat = t := by have := HET.out; omega
        unfold pushD
        rw [et, ← HN.out]
        exact hi

set_option maxRecDepth 100000 in
set_option maxHeartbeats 8000000 in
theorem pushD_no {w : World} {B mb db t : Nat} {a b c d : Int} {D : Dn} (hB : B ≤ w.heap.size) (hw : workB a b c d = true) (hk : homeN a d < D.m.pn) (hn : (D.m.p (homeN a d)).n ≤ 1048576) (ht : t < D.m.tn) (het : D.h.tim = (t : Int)) (hq : armedB D.m t = false) (hg0 : 0 ≤ (D.m.t t).ge) (hg1 : (D.m.t t).ge ≤ 100000) (h : DeedX w B mb db a b c d D) :
    Calls Tryz.prog 51 #[ptrV db] w (GaveUp B w) := by
  obtain ⟨d0, d1, d2, d3, d4, d5, d6, d7, d8, hf⟩ := h.cells
  rw [het] at d7
  obtain ⟨tv, g, V, ho⟩ := h.o.opened
  obtain ⟨tg, tc, rfl⟩ := ho.tms ht
  obtain ⟨m0, m1, m2, m3, m4, m5⟩ := six ho.m
  obtain ⟨⟨_, _, _, _, _, t5, _, _⟩, tf⟩ := ho.tcells ht
  have f5 := tf (t * 8 + 5)
  have i2 : (0 : Int) ≤ (t : Int) := by omega
  have i3 : (t : Int) < (D.m.tn : Int) := by omega
  have ine : ¬ (t : Int) = -1 := by omega
  have ine2 : ((t : Int) == -1) = false := by simp
  have HET := Lib.hid het
  have HQ := Lib.hid (readyM_armed D t |>.trans hq)
  have ER := Lib.hid (readyM_push D t (homeN a d) het)
  have HW := Lib.hid hw
  obtain ⟨G, hG⟩ : ∃ G : Int, G = (D.m.t t).ge := ⟨_, rfl⟩
  rw [← hG] at t5 hg0 hg1
  have HG := Lib.hid hG
  clear het hq hw hG m0 m1 m2 m3 m5 tf
  go_enter Tryz.func51, Tryz.ntmps51
  go_upto_region 4 with fail
  go_cut [] (fun wx => wx = w.setCell ⟨tg, t * 8 + 5, none⟩ (.int .i64 (minI (G + 1) 100000)))
  case first =>
    by_cases hl : 100000 < G + 1
    · have e : minI (G + 1) 100000 = 100000 := by unfold minI; rw [if_neg (by omega)]
      go_wp2
      go_meet
      rw [e]
    · have e : minI (G + 1) 100000 = G + 1 := by unfold minI; split <;> omega
      go_wp2
      go_meet
      rw [e]
  case rest =>
    subst hcut
    have h1 := h.setT ho ht (j := 5) (by decide) (minI (G + 1) 100000)
    have o1 := ho.setT ht (j := 5) (by decide) (minI (G + 1) 100000)
    have k1 := (Wd.refl B w).setT ho (t * 8 + 5) (.int .i64 (minI (G + 1) 100000))
    have eM : setTm D.m t 5 (minI (G + 1) 100000) = genM D.m t := by rw [HG.out]; rfl
    rw [eM] at h1 o1
    clear h ho d0 d1 d2 d3 d4 d5 d6 d7 d8 m4 t5 f5 hf eM
    generalize w.setCell ⟨tg, t * 8 + 5, none⟩ (.int .i64 (minI (G + 1) 100000)) = w1 at h1 o1 k1 ⊢
    obtain ⟨d0, d1, d2, d3, d4, d5, d6, d7, d8, hf⟩ := h1.cells
    obtain ⟨⟨_, t1, _, _, _, _, _, _⟩, tf⟩ := o1.tcells ht
    have f1 := tf (t * 8 + 1)
    clear tf d1 d2 d4 d5 d6 d7
    have hB1 : B ≤ w1.heap.size := Nat.le_trans hB k1.below.size
    by_cases hc : D.h.call.code = 3
    case pos =>
      have hc1 : (D.h.call.code == 3) = true := by simpa using hc
      have ER2 : readyM D t = setTm (genM D.m t) t 1 D.h.whe := if_pos hc
      clear hc
      go_upto_region 7 with fail
      have h2 := h1.setT o1 ht (j := 1) (by decide) D.h.whe
      have o2 := o1.setT (k := t) ht (j := 1) (by decide) D.h.whe
      have k2 := k1.setT o1 (t * 8 + 1) (.int .i64 D.h.whe)
      replace h2 : DeedX _ B mb db a b c d ⟨readyM D t, D.h, D.v⟩ := ER2 ▸ h2
      replace o2 : OpenX _ B mb a b c _ g V (readyM D t) := ER2 ▸ o2
      clear d0 d3 d8 t1 f1 hf h1 o1 k1 ER2
      generalize w1.setCell ⟨tg, t * 8 + 1, none⟩ (.int .i64 D.h.whe) = w2 at h2 o2 k2 ⊢
      have hB2 : B ≤ w2.heap.size := Nat.le_trans hB k2.below.size
      have htn : (readyM D t).tn = D.m.tn := by unfold readyM genM; split <;> rfl
      have hpk : (readyM D t).p = D.m.p := by unfold readyM genM; split <;> rfl
      have hpn : (readyM D t).pn = D.m.pn := by unfold readyM genM; split <;> rfl
      obtain ⟨R, hR⟩ : ∃ R : Me, R = readyM D t := ⟨_, rfl⟩
      rw [← hR] at h2 o2 htn hpk hpn HQ ER
      clear hR
      have ht2 : t < R.tn := by omega
      have hk2 : homeN a d < R.pn := by omega
      have hn2 : (R.p (homeN a d)).n ≤ 1048576 := by rw [hpk]; exact hn
      clear htn hpk hpn
      have ld := h2.lt
      have y0 := Lib.hid h2.cells.1
      have kk := (Below.refl w2.heap.size w2).drew
      clear hc1
      go_region_held3 (fun w' => w'.cell? ⟨db, 0, none⟩ = some (ptrV mb))
        (first | with_reducible exact (kk.cell (p := ⟨db, 0, none⟩) ld).trans y0.out | with_reducible exact dz.out)
        (first
          | (go_at_call 50; refine (homeD_any HW.out (h2.below kk)).mono ?_; rintro e w3 ⟨rfl, hb⟩; replace kk := kk.trans (hb.mono kk.size); clear hb)
          | (go_at_call 80; refine (arm_any (Nat.le_trans hB2 kk.size) ht2 hk2 hn2 (o2.below kk)).mono ?_; rintro e w4 ⟨rfl, hx⟩; rw [HQ.out]; have h4 := (h2.below kk).inX hx; have dz := Lib.hid h4.cells.1))
      all_goals
        have k5 := (k2.new kk hB).below
        obtain ⟨V4, o4, k4⟩ := hx
        have k6 := k5.trans k4.below
        clear h2 o2 kk k2 k4 y0 dz hB2 ER HQ h4 o4
        go_wp2_with (go_at_call 54; refine (giveUp_any _).mono ?_; rintro e w1 ⟨⟨u, pv, rfl⟩, rfl⟩)
        exact ⟨rfl, ⟨_, _, rfl⟩, k6⟩
    case neg =>
      have hc1 : (D.h.call.code == 3) = false := by simpa using hc
      have ER2 : readyM D t = genM D.m t := if_neg hc
      clear hc
      go_upto_region 7 with fail
      replace h1 : DeedX _ B mb db a b c d ⟨readyM D t, D.h, D.v⟩ := ER2 ▸ h1
      replace o1 : OpenX _ B mb a b c _ g V (readyM D t) := ER2 ▸ o1
      clear d0 d3 d8 t1 f1 hf ER2 hB1
      obtain ⟨w2, hw2⟩ : ∃ w2, w2 = w1 := ⟨_, rfl⟩
      rw [← hw2] at h1 o1 k1 ⊢
      have h2 := h1; have o2 := o1; have k2 := k1
      clear h1 o1 k1 hw2
      have hB2 : B ≤ w2.heap.size := Nat.le_trans hB k2.below.size
      have htn : (readyM D t).tn = D.m.tn := by unfold readyM genM; split <;> rfl
      have hpk : (readyM D t).p = D.m.p := by unfold readyM genM; split <;> rfl
      have hpn : (readyM D t).pn = D.m.pn := by unfold readyM genM; split <;> rfl
      obtain ⟨R, hR⟩ : ∃ R : Me, R = readyM D t := ⟨_, rfl⟩
      rw [← hR] at h2 o2 htn hpk hpn HQ ER
      clear hR
      have ht2 : t < R.tn := by omega
      have hk2 : homeN a d < R.pn := by omega
      have hn2 : (R.p (homeN a d)).n ≤ 1048576 := by rw [hpk]; exact hn
      clear htn hpk hpn
      have ld := h2.lt
      have y0 := Lib.hid h2.cells.1
      have kk := (Below.refl w2.heap.size w2).drew
      clear hc1
      go_region_held3 (fun w' => w'.cell? ⟨db, 0, none⟩ = some (ptrV mb))
        (first | with_reducible exact (kk.cell (p := ⟨db, 0, none⟩) ld).trans y0.out | with_reducible exact dz.out)
        (first
          | (go_at_call 50; refine (homeD_any HW.out (h2.below kk)).mono ?_; rintro e w3 ⟨rfl, hb⟩; replace kk := kk.trans (hb.mono kk.size); clear hb)
          | (go_at_call 80; refine (arm_any (Nat.le_trans hB2 kk.size) ht2 hk2 hn2 (o2.below kk)).mono ?_; rintro e w4 ⟨rfl, hx⟩; rw [HQ.out]; have h4 := (h2.below kk).inX hx; have dz := Lib.hid h4.cells.1))
      all_goals
        have k5 := (k2.new kk hB).below
        obtain ⟨V4, o4, k4⟩ := hx
        have k6 := k5.trans k4.below
        clear h2 o2 kk k2 k4 y0 dz hB2 ER HQ h4 o4
        go_wp2_with (go_at_call 54; refine (giveUp_any _).mono ?_; rintro e w1 ⟨⟨u, pv, rfl⟩, rfl⟩)
        exact ⟨rfl, ⟨_, _, rfl⟩, k6⟩

end Go.Proofs.YtcfkginbkammoaaGreat

/-
  Is a step fit, in the program (chapter 9).
-/
namespace Go.Proofs.YtcfkginbkammoaaGreat
open Go.Deep Go.ChangeShapes Go.WideShapes Go.ChangeAt Go.RowKit Go.Joins
set_option linter.unusedVariables false

set_option maxRecDepth 100000 in
set_option maxHeartbeats 8000000 in
theorem imFit_any (a b c d : Int) (h : Hd) {tv pv : Value} {M : Me} {w : World} (hs : sizeM M ≤ 1048576) (hm : MemAt w tv pv M) :
    Calls Tryz.prog 73 #[.agg #[.int .i64 a, .int .i64 b, .int .i64 c], meV M.c tv pv, .int .i64 d, hdV h] w fun e w' => e = .returned (.bool (stepFit a b c d M h)) ∧ Below w.heap.size w w' := by
  obtain ⟨va, vc, qa, qc, rfl, rfl⟩ := hm.form
  have hn := (sizeM_le hs).1
  have k0 := ((((Below.refl w.heap.size w).alloc (Nat.le_refl _) (.cells #[.int .i64 a, .int .i64 b, .int .i64 c] 46)).alloc (by simp) (.cells #[.int .i64 M.c, .slice va M.tn vc, .slice qa M.pn qc] 36)).alloc (by simp; omega) (.cells #[.int .i64 h.pos, .int .i64 h.call.code, .int .i64 h.call.a, .int .i64 h.call.b, .int .i64 h.call.c, .int .i64 h.tim, .int .i64 h.whe, .bool h.had, .int .i64 h.cnt, .int .i64 h.beg, .int .i64 h.rep, .int .i64 h.out] 39))
  have HM := Lib.hid (hm.below k0)
  clear hm
  cases h1 : memOkB a b c M
  · skip
    go_enter Tryz.func73, Tryz.ntmps73
    go_wp2_with fail
    go_at_call 95; refine (seen_any a b c hs HM.out).mono ?_; rintro x w1 ⟨mb, rfl, hS, hb⟩
    have HS := Lib.hid hS
    have HK := Lib.hid (k0.trans (hb.mono k0.size))
    have kk := Below.refl w1.heap.size w1
    obtain ⟨hc, hf⟩ := bcell hb
    have hz := hb.size
    simp at hz
    have lz0 : w.heap.size < w1.heap.size := by omega
    have lz1 : w.heap.size + 1 < w1.heap.size := by omega
    have lz2 : w.heap.size + 1 + 1 < w1.heap.size := by omega
    clear hS hb k0 hz
    go_wp2_with (first
      | (go_at_call 96; refine (memRight_any hs (HS.out.below kk)).mono ?_; rintro e w2 ⟨rfl, hb⟩; replace kk := kk.trans (hb.mono kk.size); clear hb; obtain ⟨hc2, hf2⟩ := bcell kk)
      | (go_at_call 97; refine (imHandOk_any _ _ _ _ _).mono ?_; rintro e w2 ⟨rfl, hb⟩; replace kk := kk.trans (hb.mono kk.size); clear hb; (try clear hc2 hf2); obtain ⟨hc2, hf2⟩ := bcell kk)
      | (go_at_call 98; refine (hasWorker_any _ _ _ _ _).mono ?_; rintro e w2 ⟨rfl, hb⟩; replace kk := kk.trans (hb.mono kk.size); clear hb; (try clear hc2 hf2); obtain ⟨hc2, hf2⟩ := bcell kk)
      | (go_at_call 99; refine (hasTimer_any hn (HS.out.below kk) _).mono ?_; rintro e w2 ⟨rfl, hb⟩; replace kk := kk.trans (hb.mono kk.size); clear hb; (try clear hc2 hf2); obtain ⟨hc2, hf2⟩ := bcell kk))
    go_ret
    exact ⟨ret_bool' (by simp [stepFit, h1]), HK.out.trans (kk.mono HK.out.size)⟩
  cases h2 : handB a b c h
  · skip
    go_enter Tryz.func73, Tryz.ntmps73
    go_wp2_with fail
    go_at_call 95; refine (seen_any a b c hs HM.out).mono ?_; rintro x w1 ⟨mb, rfl, hS, hb⟩
    have HS := Lib.hid hS
    have HK := Lib.hid (k0.trans (hb.mono k0.size))
    have kk := Below.refl w1.heap.size w1
    obtain ⟨hc, hf⟩ := bcell hb
    have hz := hb.size
    simp at hz
    have lz0 : w.heap.size < w1.heap.size := by omega
    have lz1 : w.heap.size + 1 < w1.heap.size := by omega
    have lz2 : w.heap.size + 1 + 1 < w1.heap.size := by omega
    clear hS hb k0 hz
    go_wp2_with (first
      | (go_at_call 96; refine (memRight_any hs (HS.out.below kk)).mono ?_; rintro e w2 ⟨rfl, hb⟩; replace kk := kk.trans (hb.mono kk.size); clear hb; obtain ⟨hc2, hf2⟩ := bcell kk)
      | (go_at_call 97; refine (imHandOk_any _ _ _ _ _).mono ?_; rintro e w2 ⟨rfl, hb⟩; replace kk := kk.trans (hb.mono kk.size); clear hb; (try clear hc2 hf2); obtain ⟨hc2, hf2⟩ := bcell kk)
      | (go_at_call 98; refine (hasWorker_any _ _ _ _ _).mono ?_; rintro e w2 ⟨rfl, hb⟩; replace kk := kk.trans (hb.mono kk.size); clear hb; (try clear hc2 hf2); obtain ⟨hc2, hf2⟩ := bcell kk)
      | (go_at_call 99; refine (hasTimer_any hn (HS.out.below kk) _).mono ?_; rintro e w2 ⟨rfl, hb⟩; replace kk := kk.trans (hb.mono kk.size); clear hb; (try clear hc2 hf2); obtain ⟨hc2, hf2⟩ := bcell kk))
    go_ret
    exact ⟨ret_bool' (by simp [stepFit, h1, h2]), HK.out.trans (kk.mono HK.out.size)⟩
  cases h3 : workB a b c d
  · skip
    go_enter Tryz.func73, Tryz.ntmps73
    go_wp2_with fail
    go_at_call 95; refine (seen_any a b c hs HM.out).mono ?_; rintro x w1 ⟨mb, rfl, hS, hb⟩
    have HS := Lib.hid hS
    have HK := Lib.hid (k0.trans (hb.mono k0.size))
    have kk := Below.refl w1.heap.size w1
    obtain ⟨hc, hf⟩ := bcell hb
    have hz := hb.size
    simp at hz
    have lz0 : w.heap.size < w1.heap.size := by omega
    have lz1 : w.heap.size + 1 < w1.heap.size := by omega
    have lz2 : w.heap.size + 1 + 1 < w1.heap.size := by omega
    clear hS hb k0 hz
    go_wp2_with (first
      | (go_at_call 96; refine (memRight_any hs (HS.out.below kk)).mono ?_; rintro e w2 ⟨rfl, hb⟩; replace kk := kk.trans (hb.mono kk.size); clear hb; obtain ⟨hc2, hf2⟩ := bcell kk)
      | (go_at_call 97; refine (imHandOk_any _ _ _ _ _).mono ?_; rintro e w2 ⟨rfl, hb⟩; replace kk := kk.trans (hb.mono kk.size); clear hb; (try clear hc2 hf2); obtain ⟨hc2, hf2⟩ := bcell kk)
      | (go_at_call 98; refine (hasWorker_any _ _ _ _ _).mono ?_; rintro e w2 ⟨rfl, hb⟩; replace kk := kk.trans (hb.mono kk.size); clear hb; (try clear hc2 hf2); obtain ⟨hc2, hf2⟩ := bcell kk)
      | (go_at_call 99; refine (hasTimer_any hn (HS.out.below kk) _).mono ?_; rintro e w2 ⟨rfl, hb⟩; replace kk := kk.trans (hb.mono kk.size); clear hb; (try clear hc2 hf2); obtain ⟨hc2, hf2⟩ := bcell kk))
    go_ret
    exact ⟨ret_bool' (by simp [stepFit, h1, h2, h3]), HK.out.trans (kk.mono HK.out.size)⟩
  by_cases h4 : h.tim = -1
  case pos =>
    have h4b : (h.tim == -1) = true := by simpa using h4
    have H4 := Lib.hid h4
    clear h4
    go_enter Tryz.func73, Tryz.ntmps73
    go_wp2_with fail
    go_at_call 95; refine (seen_any a b c hs HM.out).mono ?_; rintro x w1 ⟨mb, rfl, hS, hb⟩
    have HS := Lib.hid hS
    have HK := Lib.hid (k0.trans (hb.mono k0.size))
    have kk := Below.refl w1.heap.size w1
    obtain ⟨hc, hf⟩ := bcell hb
    have hz := hb.size
    simp at hz
    have lz0 : w.heap.size < w1.heap.size := by omega
    have lz1 : w.heap.size + 1 < w1.heap.size := by omega
    have lz2 : w.heap.size + 1 + 1 < w1.heap.size := by omega
    clear hS hb k0 hz
    go_wp2_with (first
      | (go_at_call 96; refine (memRight_any hs (HS.out.below kk)).mono ?_; rintro e w2 ⟨rfl, hb⟩; replace kk := kk.trans (hb.mono kk.size); clear hb; obtain ⟨hc2, hf2⟩ := bcell kk)
      | (go_at_call 97; refine (imHandOk_any _ _ _ _ _).mono ?_; rintro e w2 ⟨rfl, hb⟩; replace kk := kk.trans (hb.mono kk.size); clear hb; (try clear hc2 hf2); obtain ⟨hc2, hf2⟩ := bcell kk)
      | (go_at_call 98; refine (hasWorker_any _ _ _ _ _).mono ?_; rintro e w2 ⟨rfl, hb⟩; replace kk := kk.trans (hb.mono kk.size); clear hb; (try clear hc2 hf2); obtain ⟨hc2, hf2⟩ := bcell kk)
      | (go_at_call 99; refine (hasTimer_any hn (HS.out.below kk) _).mono ?_; rintro e w2 ⟨rfl, hb⟩; replace kk := kk.trans (hb.mono kk.size); clear hb; (try clear hc2 hf2); obtain ⟨hc2, hf2⟩ := bcell kk))
    go_ret
    exact ⟨ret_bool' (by simp [stepFit, h1, h2, h3, H4.out]), HK.out.trans (kk.mono HK.out.size)⟩
  have h4b : (h.tim == -1) = false := by simpa using h4
  go_enter Tryz.func73, Tryz.ntmps73
  go_wp2_with fail
  go_at_call 95; refine (seen_any a b c hs HM.out).mono ?_; rintro x w1 ⟨mb, rfl, hS, hb⟩
  have HS := Lib.hid hS
  have HK := Lib.hid (k0.trans (hb.mono k0.size))
  have kk := Below.refl w1.heap.size w1
  obtain ⟨hc, hf⟩ := bcell hb
  have hz := hb.size
  simp at hz
  have lz0 : w.heap.size < w1.heap.size := by omega
  have lz1 : w.heap.size + 1 < w1.heap.size := by omega
  have lz2 : w.heap.size + 1 + 1 < w1.heap.size := by omega
  clear hS hb k0 hz
  go_wp2_with (first
    | (go_at_call 96; refine (memRight_any hs (HS.out.below kk)).mono ?_; rintro e w2 ⟨rfl, hb⟩; replace kk := kk.trans (hb.mono kk.size); clear hb; obtain ⟨hc2, hf2⟩ := bcell kk)
    | (go_at_call 97; refine (imHandOk_any _ _ _ _ _).mono ?_; rintro e w2 ⟨rfl, hb⟩; replace kk := kk.trans (hb.mono kk.size); clear hb; (try clear hc2 hf2); obtain ⟨hc2, hf2⟩ := bcell kk)
    | (go_at_call 98; refine (hasWorker_any _ _ _ _ _).mono ?_; rintro e w2 ⟨rfl, hb⟩; replace kk := kk.trans (hb.mono kk.size); clear hb; (try clear hc2 hf2); obtain ⟨hc2, hf2⟩ := bcell kk)
    | (go_at_call 99; refine (hasTimer_any hn (HS.out.below kk) _).mono ?_; rintro e w2 ⟨rfl, hb⟩; replace kk := kk.trans (hb.mono kk.size); clear hb; (try clear hc2 hf2); obtain ⟨hc2, hf2⟩ := bcell kk))
  go_ret
  exact ⟨ret_bool' (by simp [stepFit, h1, h2, h3, h4]), HK.out.trans (kk.mono HK.out.size)⟩

end Go.Proofs.YtcfkginbkammoaaGreat

/-
  A memory, later (spec, chapter 5).
-/
namespace Go.Proofs.YtcfkginbkammoaaGreat
open Go.RowKit Go.Joins
set_option linter.unusedVariables false

def elapsedM (a b c d : Int) (M : Me) : Me := if memOkB a b c M then ⟨minI (afterI M.c d) 999999999, M.tn, M.t, M.pn, M.p⟩ else me0

end Go.Proofs.YtcfkginbkammoaaGreat

/-
  A law's memory that came in, opened; the rows of the exact laws on memories.
-/
namespace Go.Proofs.YtcfkginbkammoaaGreat
open Go.RowKit Go.Joins Go.ChangeShapes Go.WideShapes Go.ChangeAt Go.Deep
set_option linter.unusedVariables false

set_option maxRecDepth 100000 in
/-- a law's list of slots, read as a field -/
theorem slots_fieldM {H : Type} {enc : TypeId × Value → H} {W : World} {fuel : Nat} {v : Value} {y : DataW H × List MemPlace}
    (hf : DataW.trod enc Tryz.prog W 0 (fun _ => true) true fuel 73 [v] = some y) :
    ∃ (n : Nat) (f : Slots) (a : Option Addr) (cap : Nat), n ≤ maxLen ∧ v = .slice a n cap ∧ RowAt W v n f := by
  obtain ⟨a, len, cap, hv⟩ := slice_form Tryz.underlying73 hf
  simp at hv
  subst hv
  obtain ⟨y1, y2⟩ := y
  rcases Go.Deep.open_slice_pairs Tryz.underlying73 Tryz.underlying141 (by kernel_rfl) rfl rfl (by kernel_rfl) (by kernel_rfl) hf with ⟨hcs, _⟩ | ⟨x, l, c, m, k, V0, V1, D0, D1, P0, P1, hcs, _, hl, hm, hmm, _, hc⟩
  · simp at hcs
    obtain ⟨rfl, rfl, rfl⟩ := hcs
    exact ⟨0, fun _ => (0, 0), _, _, Nat.zero_le _, rfl, .inl ⟨rfl, _, _, rfl⟩⟩
  · simp at hcs
    obtain ⟨rfl, rfl, rfl⟩ := hcs
    simp at hmm
    subst hmm
    refine ⟨len, fun i => (intOf (V0 i), intOf (V1 i)), _, _, Nat.le_trans hl hm, rfl, ?_⟩
    rcases Nat.eq_zero_or_pos len with rfl | hp
    · exact .inl ⟨rfl, _, _, rfl⟩
    · obtain ⟨b, off, spot⟩ := x
      have hspot : spot = none := by
        have := (hc 0 (by omega)).1
        simpa [Addr.add] using World.cell?_spot this
      subst hspot
      refine .inr ⟨b, off, _, rfl, ?_, fun i hi => ?_⟩
      · have := (hc 0 (by omega)).1
        rw [Go.WideShapes.add_plain] at this
        exact World.block_lt_of_cell? W _ this
      · obtain ⟨h0, h1, t0, t1⟩ := hc i (by omega)
        rw [Go.WideShapes.add_plain] at h0 h1
        obtain ⟨x0, e0, _, _⟩ := DataW.trod_int Tryz.underlying2 t0
        obtain ⟨x1, e1, _, _⟩ := DataW.trod_int Tryz.underlying2 t1
        simp at e0 e1
        rw [e0] at h0
        rw [e1] at h1
        simp only [e0, e1]
        exact ⟨h0, by rw [Nat.add_assoc]; exact h1⟩

theorem eight_at {zs : List Int} (h : zs.length = 8) : ∃ t : Tm, ∀ j, j < 8 → (numsV zs)[j]? = some (.int .i64 (tmAt t j)) := by
  match zs, h with
  | [a, b, c, d, e, f, g, k], _ => exact ⟨⟨a, b, c, d, e, f, g, k⟩, below8 rfl rfl rfl rfl rfl rfl rfl rfl⟩

set_option maxRecDepth 100000 in
/-- a law's list of timers, read as a field -/
theorem timers_field {H : Type} {enc : TypeId × Value → H} {W : World} {fuel : Nat} {v : Value} {y : DataW H × List MemPlace}
    (hf : DataW.trod enc Tryz.prog W 0 (fun _ => true) true fuel 24 [v] = some y) :
    ∃ (n : Nat) (f : Tms), n ≤ maxLen ∧ RowTAt W v n f := by
  have c8 : Tryz.prog.cellsOf 92 = 8 := by kernel_rfl
  obtain ⟨y1, y2⟩ := y
  rcases Go.Deep.open_slice Tryz.underlying24 hf with ⟨hcs, _⟩ | ⟨x, len, cap, m, k, D, Pl, hcs, _, hl, hm, hmm, _, hc⟩
  · simp at hcs
    subst hcs
    exact ⟨0, fun _ => tm0, Nat.zero_le _, .inl ⟨rfl, _, _, rfl⟩⟩
  · simp at hcs hmm
    subst hcs hmm
    have each : ∀ i, i < m → ∃ t : Tm, ∀ j, j < 8 → W.cell? ((x.add (i * 8)).add j) = some (.int .i64 (tmAt t j)) := by
      intro i hi
      obtain ⟨cs', h1, h2⟩ := hc i hi
      rw [c8] at h1
      obtain ⟨_, hlen, hcell⟩ := World.cells?_some h1
      obtain ⟨zs, hz, rfl, _, _⟩ := trod_flat Tryz.underlying92 (I := 2) (by kernel_rfl) Tryz.underlying2 (by kernel_rfl) (by kernel_rfl) h2
      obtain ⟨t, ht⟩ := eight_at hz
      exact ⟨t, fun j hj => (hcell j (by omega)).trans (ht j hj)⟩
    haveI : Inhabited Tm := ⟨tm0⟩
    obtain ⟨f, hfx⟩ := choose_lt each
    refine ⟨len, f, Nat.le_trans hl hm, ?_⟩
    rcases Nat.eq_zero_or_pos len with rfl | hp
    · exact .inl ⟨rfl, _, _, rfl⟩
    · obtain ⟨b, off, spot⟩ := x
      have h00 := hfx 0 (by omega) 0 (by decide)
      have hspot : spot = none := by simpa [Addr.add] using World.cell?_spot h00
      subst hspot
      have h0 := h00
      rw [Go.WideShapes.add_plain, Go.WideShapes.add_plain] at h0
      refine .inr ⟨b, off, _, rfl, World.block_lt_of_cell? W _ h0, fun i hi j hj => ?_⟩
      have := hfx i (by omega) j hj
      rw [Go.WideShapes.add_plain, Go.WideShapes.add_plain] at this
      exact this

set_option maxRecDepth 100000 in
/-- a law's list of processors, read as a field -/
theorem procs_field {H : Type} {enc : TypeId × Value → H} {W : World} {fuel : Nat} {v : Value} {y : DataW H × List MemPlace}
    (hf : DataW.trod enc Tryz.prog W 0 (fun _ => true) true fuel 25 [v] = some y) :
    ∃ (m : Nat) (P : Pcs), m ≤ maxLen ∧ (∀ i, i < m → (P i).n ≤ maxLen) ∧ RowPAt W v m P := by
  have c4 : Tryz.prog.cellsOf 75 = 4 := by kernel_rfl
  obtain ⟨y1, y2⟩ := y
  rcases Go.Deep.open_slice Tryz.underlying25 hf with ⟨hcs, _⟩ | ⟨x, len, cap, m, k, D, Pl, hcs, _, hl, hm, hmm, _, hc⟩
  · simp at hcs
    subst hcs
    exact ⟨0, fun _ => pc0, Nat.zero_le _, fun i hi => by omega, .inl ⟨rfl, _, _, rfl⟩⟩
  · simp at hcs hmm
    subst hcs hmm
    have each : ∀ i, i < m → ∃ p : Pc, p.n ≤ maxLen ∧ ∃ a c, W.cell? ((x.add (i * 4)).add 0) = some (.slice a p.n c) ∧ W.cell? ((x.add (i * 4)).add 1) = some (.int .i64 p.l) ∧ W.cell? ((x.add (i * 4)).add 2) = some (.int .i64 p.e) ∧ W.cell? ((x.add (i * 4)).add 3) = some (.int .i64 p.d) ∧ RowAt W (.slice a p.n c) p.n p.f := by
      intro i hi
      obtain ⟨cs', h1, h2⟩ := hc i hi
      rw [c4] at h1
      obtain ⟨_, hlen, hcell⟩ := World.cells?_some h1
      obtain ⟨xs, n1, _, _, _, hxl, hfx⟩ := DataW.trod_struct Tryz.underlying75 h2
      match cs', hlen with
      | [u0, u1, u2, u3], _ =>
        have g0 := hfx 0 _ rfl
        have g1 := hfx 1 _ rfl
        have g2 := hfx 2 _ rfl
        have g3 := hfx 3 _ rfl
        match xs, hxl with
        | [z0, z1, z2, z3], _ =>
          have k0 : Tryz.prog.cellsOf 73 = 1 := by kernel_rfl
          have k1 : Tryz.prog.cellsOf 2 = 1 := by kernel_rfl
          simp [k0, k1] at g0 g1 g2 g3
          obtain ⟨n, f, a, c, hn, rfl, hr⟩ := slots_fieldM g0
          obtain ⟨x1, e1, _, _⟩ := DataW.trod_int Tryz.underlying2 g1
          obtain ⟨x2, e2, _, _⟩ := DataW.trod_int Tryz.underlying2 g2
          obtain ⟨x3, e3, _, _⟩ := DataW.trod_int Tryz.underlying2 g3
          simp at e1 e2 e3
          subst e1 e2 e3
          exact ⟨⟨n, f, x1, x2, x3⟩, hn, a, c, hcell 0 (by omega), hcell 1 (by omega), hcell 2 (by omega), hcell 3 (by omega), hr⟩
    haveI : Inhabited Pc := ⟨pc0⟩
    obtain ⟨P, hP⟩ := choose_lt each
    refine ⟨len, P, Nat.le_trans hl hm, fun i hi => (hP i (by omega)).1, ?_⟩
    rcases Nat.eq_zero_or_pos len with rfl | hp
    · exact .inl ⟨rfl, _, _, rfl⟩
    · obtain ⟨b, off, spot⟩ := x
      obtain ⟨_, a0, c0, h00, _⟩ := hP 0 (by omega)
      have hspot : spot = none := by simpa [Addr.add] using World.cell?_spot h00
      subst hspot
      have h0 := h00
      rw [Go.WideShapes.add_plain, Go.WideShapes.add_plain] at h0
      refine .inr ⟨b, off, _, rfl, World.block_lt_of_cell? W _ h0, fun i hi => ?_⟩
      obtain ⟨_, a, c, g0, g1, g2, g3, hr⟩ := hP i (by omega)
      rw [Go.WideShapes.add_plain, Go.WideShapes.add_plain] at g0 g1 g2 g3
      exact ⟨a, c, g0, g1, g2, g3, hr⟩

set_option maxRecDepth 100000 in
/-- a law's memory that came in -/
theorem mem_in {H : Type} {enc : TypeId × Value → H} {W : World} {base : Nat} {v : Value} {d : DataW H} {p : List MemPlace}
    (hv : Value.okWide Tryz.prog W .any base 27 v) (h : DataW.Trod enc Tryz.prog W 0 (fun _ => true) true 27 v d p) :
    ∃ (tv pv : Value) (M : Me), v = meV M.c tv pv ∧ M.tn ≤ maxLen ∧ M.pn ≤ maxLen ∧ (∀ i, i < M.pn → (M.p i).n ≤ maxLen) ∧ MemAt W tv pv M := by
  obtain ⟨c0, tv, pv, y0, y1, y2, m, rfl, _, _, h0, h1, h2⟩ := open_agg3 Tryz.underlying27 (by kernel_rfl) (by kernel_rfl) hv h
  obtain ⟨x, e0, _, _⟩ := DataW.trod_int Tryz.underlying2 h0
  simp at e0
  subst e0
  obtain ⟨tn, t, htn, hT⟩ := timers_field h1
  obtain ⟨pn, P, hpn, hn, hP⟩ := procs_field h2
  exact ⟨tv, pv, ⟨x, tn, t, pn, P⟩, rfl, htn, hpn, hn, hT, hP⟩

set_option maxRecDepth 100000 in
/-- a law's plan that came in -/
theorem plan_inM {H : Type} {enc : TypeId × Value → H} {W : World} {base : Nat} {v : Value} {d : DataW H} {p : List MemPlace}
    (hv : Value.okWide Tryz.prog W .any base 23 v) (h : DataW.Trod enc Tryz.prog W 0 (fun _ => true) true 23 v d p) :
    ∃ a b c : Int, v = .agg #[.int .i64 a, .int .i64 b, .int .i64 c] := by
  obtain ⟨c0, c1, c2, y0, y1, y2, m, rfl, _, _, h0, h1, h2⟩ := open_agg3 Tryz.underlying23 (by kernel_rfl) (by kernel_rfl) hv h
  obtain ⟨x, e1, _, _⟩ := DataW.trod_int Tryz.underlying2 h0
  obtain ⟨y, e2, _, _⟩ := DataW.trod_int Tryz.underlying2 h1
  obtain ⟨z, e3, _, _⟩ := DataW.trod_int Tryz.underlying2 h2
  simp at e1 e2 e3
  subst e1 e2 e3
  exact ⟨x, y, z, rfl⟩

end Go.Proofs.YtcfkginbkammoaaGreat

/-
  FnExactNewMem, told what the program answers.
-/
namespace Go.Proofs.YtcfkginbkammoaaGreat
open Go.RowKit Go.Joins Go.ChangeShapes Go.WideShapes Go.ChangeAt Go.Deep
set_option linter.unusedVariables false

/-- what the program's NewMem is to answer -/
def AsksNM (fn : FuncId) : Prop := ∀ (a b c : Int) (w : World), Calls Tryz.prog fn #[.agg #[.int .i64 a, .int .i64 b, .int .i64 c]] w (NewMe (newM a b c) w)
theorem sizeM_new (a b c : Int) : sizeM (newM a b c) ≤ 1048576 := by
  unfold newM
  split
  · rename_i h
    have := planB_iff.1 h
    have key : ∀ k, slotsP (fun _ => (⟨0, fun _ => (0, 0), -1, -1, 0⟩ : Pc)) k = 0 := by
      intro k
      induction k with
      | zero => rfl
      | succ k ih => rw [slotsP, ih]; rfl
    unfold sizeM
    simp only [key]
    omega
  · decide

end Go.Proofs.YtcfkginbkammoaaGreat

/-
  A memory as the program works with it (chapter 5): shown, later, new: Elapsed and NewMem.
-/
namespace Go.Proofs.YtcfkginbkammoaaGreat
open Go.RowKit Go.Joins
set_option linter.unusedVariables false

set_option maxRecDepth 100000 in
set_option maxHeartbeats 1000000 in
theorem pxShown_any {v : Value} {n : Nat} (l e d : Int) {w : World} (hv : ∃ a cap, v = .slice a n cap) :
    Calls Tryz.prog 102 #[pxV v l e d] w fun x w' => x = .returned (prV v l e d) ∧ Below w.heap.size w w' := by
  obtain ⟨a, cap, rfl⟩ := hv
  have k0 := (Below.refl w.heap.size w).alloc (Nat.le_refl _) (pxB (.slice a n cap) l e d)
  have hR := heap_alloc_new (w.alloc (pxB (.slice a n cap) l e d)) (.cells #[.slice a n cap, .int .i64 l, .int .i64 e, .int .i64 d] 87)
  rw [show (w.alloc (pxB (.slice a n cap) l e d)).heap.size = w.heap.size + 1 by simp] at hR
  obtain ⟨r0, r1, r2, r3, _, _, _, _⟩ := four hR
  go_enter Tryz.func102, Tryz.ntmps102
  go_wp2
  exact bodyPost_ret (v := prV (.slice a n cap) l e d) (by simp [results, Tryz.results102, go_sem, r0, r1, r2, r3]) rfl ⟨rfl, k0.alloc k0.size _⟩

abbrev madeP (n : Nat) : Obj := .cells (madeCells #[.slice none 0 0, .int .i64 0, .int .i64 0, .int .i64 0] (n * 4)) 87

set_option maxRecDepth 100000 in
set_option maxHeartbeats 8000000 in
theorem memShown_any {B mb : Nat} {a b c : Int} {M : Me} {w : World} (hs : sizeM M ≤ 1048576) (hB : B ≤ w.heap.size) (h : OwnedAt w B mb a b c M) :
    Calls Tryz.prog 75 #[ptrV mb] w fun x w' => ∃ tv pv, x = .returned (meV M.c tv pv) ∧ OwnMem w' B tv pv M ∧ Below w.heap.size w w' := by
  obtain ⟨htn, hpn, hsl, hns⟩ := sizeM_le hs
  obtain ⟨tv, g, V, hmB, hM, hT, hL, hH⟩ := h
  obtain ⟨ta, tc, htv⟩ := hT.row.form
  subst htv
  have hmk := run_make_procs M.pn hpn
  have lM := lt_of_block hM
  have e0 : (w.alloc (memO 0 (.slice none 0 0) (.slice none 0 0) 36)).heap.size = w.heap.size + 1 := by simp
  have k0 := (Below.refl w.heap.size w).alloc (Nat.le_refl _) (memO 0 (.slice none 0 0) (.slice none 0 0) 36)
  have hR := alloc_block (madeP M.pn) (heap_alloc_new w (memO 0 (.slice none 0 0) (.slice none 0 0) 36))
  have k1 := k0.alloc k0.size (madeP M.pn)
  have hN := (list_made (w.alloc (memO 0 (.slice none 0 0) (.slice none 0 0) 36)) M.pn (by unfold maxLen; omega)).congr (Q := upToP M.p 0) (U := fun _ => .slice none 0 0) (fun i hi => by simp [upToP]) (fun _ _ => rfl)
  rw [e0] at hN
  have HM := Lib.hid hM
  have HL := Lib.hid hL
  have HH := Lib.hid hH
  have HT := Lib.hid hT
  obtain ⟨m0, m1, m2, m3, m4, m5⟩ := six (b_block k0 hM lM)
  obtain ⟨n0, n1, n2, n3, n4, n5⟩ := six (b_block k1 hM lM)
  clear hM hL hH hT hns hsl
  go_enter Tryz.func75, Tryz.ntmps75
  go_wp2_with fail
  generalize (w.alloc (memO 0 (.slice none 0 0) (.slice none 0 0) 36)).alloc (madeP M.pn) = w2 at k1 hR hN n0 n1 n2 n3 n4 n5 ⊢
  clear m0 m1 m2 m3 m4 m5 k0 hmk e0
  go_wp2_with fail
  clear n0 n1 n2 n3 n4 n5
  go_loopw [17] (fun i wr => ∃ (k : Nat) (U : Nat → Value), k ≤ M.pn ∧ i = .int .i64 k ∧ wr.heap[w.heap.size]? = some (memO 0 (.slice none 0 0) (.slice none 0 0) 36) ∧ ListAt wr (w.heap.size + 1) (w.heap.size + 1) M.pn M.pn (upToP M.p k) U ∧ (∀ i, i < k → U i = V i) ∧ Below w.heap.size w wr) (fun i _ => M.pn - (intOf i).toNat)
  case atStart => exact ⟨0, _, Nat.zero_le _, rfl, hR, hN, fun i hi => absurd hi (Nat.not_lt_zero _), k1⟩
  case round =>
    clear hR hN k1
    obtain ⟨k, U, hk, rfl, hR, hN, hU, kw⟩ := hrel
    obtain ⟨n0, n1, n2, n3, n4, n5⟩ := six (b_block kw HM.out lM)
    by_cases hlt : k < M.pn
    · have i1 : (k : Int) < (M.pn : Int) := by omega
      have i0 : (0 : Int) ≤ (k : Int) := by omega
      have hO := HH.out.1 k hlt
      obtain ⟨oa, oc, ho⟩ := hO.value
      have hLr := HL.out.below kw
      obtain ⟨d0, d1, d2, d3⟩ := hLr.cells hlt
      rw [ho] at d1
      have hNa := hN.below ((Below.refl wr.heap.size wr).alloc (Nat.le_refl _) (pxB (.slice oa (M.p k).n oc) (M.p k).l (M.p k).e (M.p k).d))
      have hRa := alloc_block (pxB (.slice oa (M.p k).n oc) (M.p k).l (M.p k).e (M.p k).d) hR
      have ka := kw.alloc kw.size (pxB (.slice oa (M.p k).n oc) (M.p k).l (M.p k).e (M.p k).d)
      have hX := heap_alloc_new wr (pxB (.slice oa (M.p k).n oc) (M.p k).l (M.p k).e (M.p k).d)
      obtain ⟨x0, x1, x2, x3, _, _, _, _⟩ := four hX
      go_wp2_with fail
      go_at_call 102; refine (pxShown_any _ _ _ ⟨_, _, rfl⟩).mono ?_; rintro x w5 ⟨rfl, hb⟩
      have hN5 := hNa.below hb
      have hR5 := b_block hb hRa (lt_of_block hRa)
      have k5 := ka.trans (hb.mono ka.size)
      have fr := hN5.free
      have f0 := fr (k * 4); have f1 := fr (k * 4 + 1); have f2 := fr (k * 4 + 2); have f3 := fr (k * 4 + 3)
      obtain ⟨c0, c1, c2, c3⟩ := hN5.cells hlt
      have hNn := (hN5.put hlt (.slice oa (M.p k).n oc) (M.p k)).congr (upToP_put (P := M.p)) (fun _ _ => rfl)
      have hRn := (heap_setP w5 (w.heap.size + 1) k (.slice oa (M.p k).n oc) (M.p k).l (M.p k).e (M.p k).d (x := w.heap.size) (by omega)).trans hR5
      have kn := b_setP k5 (g := w.heap.size + 1) (by omega) k (.slice oa (M.p k).n oc) (M.p k).l (M.p k).e (M.p k).d
      have hUn : ∀ i, i < k + 1 → putV U k (.slice oa (M.p k).n oc) i = V i := fun i hi => by
        by_cases e : i = k
        · subst e; rw [putV_same, ho]
        · rw [putV_other U _ e]; exact hU i (by omega)
      clear hb fr d0 d1 d2 d3 x0 x1 x2 x3 n0 n1 n2 n3 n4 n5 hN5 hR5 hNa hRa ka k5 hX
      go_wp2
      exact ⟨⟨k + 1, _, by omega, by go_num, hRn, hNn, hUn, kn⟩, by simp only [intOf]; omega⟩
    · have hkn : k = M.pn := by omega
      subst hkn
      have i1 : ¬ (M.pn : Int) < (M.pn : Int) := by omega
      have hNf := hN.congr (Q := M.p) (U := V) (fun i hi => by simp [upToP, hi]) (fun i hi => hU i hi)
      have lR := lt_of_block hR
      have ks := b_set3 kw (Nat.le_refl _) (.int .i64 M.c) (.slice ta M.tn tc) (.slice (some ⟨w.heap.size + 1, 0, none⟩) M.pn M.pn)
      have hTf := HT.out.below kw
      have hHf := HH.out.below kw
      obtain ⟨r0, r1, r2, rf0, rf1, rf2⟩ := three hR
      go_wp2_with fail
      go_region
      have hTn := hTf.other (w' := (((wr.setCell ⟨w.heap.size, 0, none⟩ (.int .i64 M.c)).setCell ⟨w.heap.size, 1, none⟩ (.slice ta M.tn tc)).setCell ⟨w.heap.size, 2, none⟩ (.slice (some ⟨w.heap.size + 1, 0, none⟩) M.pn M.pn)).drew) hR (by decide) (fun y hy => heap_set3 wr _ _ _ _ hy)
      have hHn : HeapsAt (((wr.setCell ⟨w.heap.size, 0, none⟩ (.int .i64 M.c)).setCell ⟨w.heap.size, 1, none⟩ (.slice ta M.tn tc)).setCell ⟨w.heap.size, 2, none⟩ (.slice (some ⟨w.heap.size + 1, 0, none⟩) M.pn M.pn)).drew B M.pn M.p V :=
        hHf.other (fun i hi x hx => heap_set3 wr _ _ _ _ (own_ne (hHf.1 i hi) hR (by decide) x hx))
      have hLn : ListAt (((wr.setCell ⟨w.heap.size, 0, none⟩ (.int .i64 M.c)).setCell ⟨w.heap.size, 1, none⟩ (.slice ta M.tn tc)).setCell ⟨w.heap.size, 2, none⟩ (.slice (some ⟨w.heap.size + 1, 0, none⟩) M.pn M.pn)).drew B (w.heap.size + 1) M.pn M.pn M.p V :=
        (hNf.mono (by omega)).block (heap_set3 wr w.heap.size _ _ _ (by omega))
      have hRn : (((wr.setCell ⟨w.heap.size, 0, none⟩ (.int .i64 M.c)).setCell ⟨w.heap.size, 1, none⟩ (.slice ta M.tn tc)).setCell ⟨w.heap.size, 2, none⟩ (.slice (some ⟨w.heap.size + 1, 0, none⟩) M.pn M.pn)).drew.heap[w.heap.size]? = some (memO M.c (.slice ta M.tn tc) (.slice (some ⟨w.heap.size + 1, 0, none⟩) M.pn M.pn) 36) := block_set3 hR
      have kn := ks.drew
      clear r0 r1 r2 rf0 rf1 rf2
      obtain ⟨r0, r1, r2, _, _, _⟩ := three hRn
      generalize (((wr.setCell ⟨w.heap.size, 0, none⟩ (.int .i64 M.c)).setCell ⟨w.heap.size, 1, none⟩ (.slice ta M.tn tc)).setCell ⟨w.heap.size, 2, none⟩ (.slice (some ⟨w.heap.size + 1, 0, none⟩) M.pn M.pn)).drew = wz at hTn hHn hLn r0 r1 r2 kn ⊢
      go_wp2
      exact bodyPost_ret (v := meV M.c (.slice ta M.tn tc) (.slice (some ⟨w.heap.size + 1, 0, none⟩) M.pn M.pn)) (by simp [results, Tryz.results75, go_sem, r0, r1, r2]) rfl ⟨_, _, rfl, ⟨hTn, .inr ⟨_, _, V, rfl, hLn, hHn⟩⟩, kn⟩

end Go.Proofs.YtcfkginbkammoaaGreat
