/-
  A setting is counted, in the program.
-/
import Derived.Test.YtflekodaiejflaaGreatL13
import Derived.Test.YtflekodaiejflaaGreatL10
import Derived.Deep.RegionHeld
import Derived.Deep.DeepCutAuto
import Derived.Test.YtflekodaiejflaaGreatL09
import Derived.Test.YtflekodaiejflaaGreatL05
import Derived.Test.YtflekodaiejflaaGreatL06
import Derived.Deep.RegionLaw
import Derived.Test.YtflekodaiejflaaGreatL07
import Derived.Deep.QuietTactic
import Derived.BigQuiet
import Derived.IntWalk
import Derived.Deep.RegionHeld3
import Derived.Test.YtflekodaiejflaaGreatL15
import Derived.Test.YtflekodaiejflaaGreatL12
import Derived.Test.YtflekodaiejflaaGreatL17
import Derived.Test.YtflekodaiejflaaGreatL16
namespace Go.Proofs.YtflekodaiejflaaGreat
open Go.RowKit Go.Joins
set_option linter.unusedVariables false
set_option linter.unusedSimpArgs false

set_option maxRecDepth 100000 in
set_option maxHeartbeats 2000000 in
theorem count_any {w : World} {b o : Nat} {G : Int} (h0 : 0 ≤ G) (h1 : G ≤ 100000) (hc : w.cell? ⟨b, o + 5, none⟩ = some (.int .i64 G)) (hf : w.frozen? ⟨b, o + 5, none⟩ = false) :
    Calls Tryz.prog 80 #[.pointer (some ⟨b, o, none⟩)] w fun e w' => e = .returned (.tuple #[]) ∧ w' = w.setCell ⟨b, o + 5, none⟩ (.int .i64 (minI (G + 1) 100000)) := by
  have hwr : IntKind.i64.wrap (G + 1) = G + 1 := by rw [IntKind.wrap_i64]; omega
  by_cases hl : 100000 < G + 1
  · have e : minI (G + 1) 100000 = 100000 := by unfold minI; rw [if_neg (by omega)]
    rw [e]
    go_enter Tryz.func80, Tryz.ntmps80
    go_wp2
    go_end0
    exact ⟨rfl, rfl⟩
  · have e : minI (G + 1) 100000 = G + 1 := by unfold minI; split <;> omega
    rw [e]
    go_enter Tryz.func80, Tryz.ntmps80
    go_wp2
    go_end0
    exact ⟨rfl, rfl⟩

end Go.Proofs.YtflekodaiejflaaGreat

/-
  Tidying up, plainly (chapter 6): the program's ways and the model's come to the same memory. No Go in sight.
-/
namespace Go.Proofs.YtflekodaiejflaaGreat
open Go.RowKit Go.Joins
set_option linter.unusedVariables false
set_option linter.unusedSimpArgs false

/-- a timer comes into a heap -/
def putM (M : Me) (t k : Nat) (wh : Int) : Me := setHp (setTm (setTm (setTm M t 0 1) t 1 wh) t 4 (k : Int)) k (pushedN (M.p k).n) (pushedF (M.p k).f (M.p k).n ((t : Int), wh))
/-- a timer is taken out of a heap -/
def takeM (M : Me) (t k : Nat) : Me := setTm (pullM M k (findFrom (M.p k).f (M.p k).n (t : Int) 0)) t 4 (-1)
theorem me_ext {M N : Me} (hc : M.c = N.c) (h1 : M.tn = N.tn) (h2 : M.pn = N.pn) (ht : ∀ i, M.t i = N.t i) (hp : ∀ i, M.p i = N.p i) : M = N := by
  cases M; cases N
  simp only [Me.mk.injEq]
  exact ⟨hc, h1, funext ht, h2, funext hp⟩
theorem put_push (M : Me) (t k : Nat) : putM M t k (M.t t).wh = pushM M t k :=
  me_ext rfl rfl rfl (fun i => by by_cases e : i = t <;> simp [putM, pushM, setHp, setTm, putT, e, tmSet]) (fun i => rfl)
theorem take_drop {M : Me} {t k i : Nat} (hf : findFrom (M.p k).f (M.p k).n (t : Int) 0 = (i : Int)) : setTm (takeM (setPc M k 3 ((M.p k).d - 1)) t k) t 0 7 = dropM M k i t := by
  have e1 : ((setPc M k 3 ((M.p k).d - 1)).p k).f = (M.p k).f := by rw [setPc_at]; rfl
  have e2 : ((setPc M k 3 ((M.p k).d - 1)).p k).n = (M.p k).n := by rw [setPc_at]; rfl
  unfold takeM
  rw [e1, e2, hf]
  refine me_ext rfl rfl rfl (fun x => ?_) (fun x => ?_)
  · by_cases e : x = t <;> simp [dropM, pullM, setPc, setHp, setTm, putT, e, tmSet]
  · by_cases e : x = k <;> simp [dropM, pullM, setPc, setHp, setTm, putP, e, pcSet]
theorem take_move {M : Me} {t k i : Nat} (hf : findFrom (M.p k).f (M.p k).n (t : Int) 0 = (i : Int)) : putM (takeM M t k) t k (M.t t).nx = moveM M k i t := by
  unfold takeM
  rw [hf]
  refine me_ext rfl rfl rfl (fun x => ?_) (fun x => ?_)
  · by_cases e : x = t <;> simp [moveM, putM, pushM, pullM, setHp, setTm, putT, e, tmSet]
  · by_cases e : x = k <;> simp [moveM, putM, pushM, pullM, setHp, setTm, putP, putT, e, tmSet]
theorem take_none {M : Me} {t k : Nat} (hpl : (M.t t).pl = (k : Int)) (hp : (M.t t).pe = 0) : setTm (takeM M t k) t 0 0 = rearmM M t := by
  have ek : (M.t t).pl.toNat = k := by rw [hpl]; rfl
  rw [rearmM, if_pos hp]
  unfold takeM outM
  rw [ek]
  refine me_ext rfl rfl rfl (fun x => ?_) (fun x => ?_)
  · by_cases e : x = t <;> simp [pullM, setHp, setTm, putT, e, tmSet]
  · rfl
theorem take_again {M : Me} {t k : Nat} (hpl : (M.t t).pl = (k : Int)) (hp : ¬ (M.t t).pe = 0) : putM (takeM M t k) t k (nextI M.c (M.t t)) = rearmM M t := by
  have ek : (M.t t).pl.toNat = k := by rw [hpl]; rfl
  rw [rearmM, if_neg hp]
  unfold takeM outM
  rw [ek]
  generalize nextI M.c (M.t t) = y
  refine me_ext rfl rfl rfl (fun x => ?_) (fun x => ?_)
  · by_cases e : x = t <;> simp [putM, pushM, pullM, setHp, setTm, putT, e, tmSet]
  · by_cases e : x = k <;> simp [putM, pushM, pullM, setHp, setTm, putP, putT, e, tmSet]
/-- the program's way to the next time -/
theorem next_after {c : Int} {t : Tm} {q : Int} (hw : 0 ≤ t.wh ∧ t.wh ≤ 1000000000) (hp : 0 < t.pe) (hq : timesI c t = q + 1) (hq0 : 0 ≤ q) : afterI t.wh ((q + 1) * t.pe) = nextI c t := by
  have h1 : t.pe * 1 ≤ t.pe * (q + 1) := Int.mul_le_mul_of_nonneg_left (by omega) (by omega)
  unfold nextI
  rw [hq, Int.mul_comm (q + 1) t.pe]
  generalize t.pe * (q + 1) = y at h1
  unfold afterI
  rw [if_pos (inB_t hw.1 hw.2)]
  unfold dl minI
  split <;> split <;> (try split) <;> (try split) <;> omega

end Go.Proofs.YtflekodaiejflaaGreat

/-
  FnExactPushedOn, told what the program's own function answers.
-/
namespace Go.Proofs.YtflekodaiejflaaGreat
open Go.RowKit Go.Joins
set_option linter.unusedVariables false
set_option linter.unusedSimpArgs false

/-! ### exPushed: a list and a word, asked of one list and one slot -/
theorem pushedN_le {n : Nat} (hn : n ≤ 1048576) : pushedN n ≤ 1048576 := by unfold pushedN; split <;> omega
/-- what the program's PushedOn is to answer -/
def Pushes (fn : FuncId) : Prop := ∀ (v : Value) (n : Nat) (f : Slots) (a b : Int) (w : World), n ≤ 1048576 → RowAt w v n f → Calls Tryz.prog fn #[v, .agg #[.int .i64 a, .int .i64 b]] w (NewRowB (pushedN n) (pushedF f n (a, b)) (decide (n < 30)) w)

end Go.Proofs.YtflekodaiejflaaGreat

/-
  The program's heap (chapter 2): one slot more, at the end, and raised there.
-/
namespace Go.Proofs.YtflekodaiejflaaGreat
open Go.RowKit Go.Joins
set_option linter.unusedVariables false
set_option linter.unusedSimpArgs false

/-- a heap in a variable of its own, in the block b -/
def HeapIn (w : World) (b : Nat) (v : Value) : Prop := w.heap[b]? = some (.cells #[v, dueV] 158 (0, 0))

/-- its list's block is no variable of a heap -/
theorem OwnAt.ne_heap {w : World} {B g n cap b : Nat} {f : Slots} {v : Value} (h : OwnAt w B g n cap f) (hb : HeapIn w b v) : b ≠ g := by
  rintro rfl
  obtain ⟨_, _, _, cur, hh, _⟩ := h
  rw [HeapIn, hh] at hb
  simp at hb

theorem OwnRow.ne_heap {w : World} {B n b : Nat} {f : Slots} {v u : Value} (h : OwnRow w B v n f) (hb : HeapIn w b u) : some b ≠ v.ownBlock := by
  rcases h with ⟨_, rfl⟩ | ⟨g, cap, rfl, h⟩
  · simp [Value.ownBlock]
  · intro e
    exact h.ne_heap hb (by simpa [Value.ownBlock] using e)
theorem OwnRow.ne_new {w : World} {B n b : Nat} {f : Slots} {v : Value} (h : OwnRow w B v n f) (hb : w.heap.size ≤ b) : some b ≠ v.ownBlock := by
  rcases h with ⟨_, rfl⟩ | ⟨g, cap, rfl, h⟩
  · simp [Value.ownBlock]
  · intro e
    have := h.lt
    simp [Value.ownBlock] at e
    omega

set_option maxRecDepth 100000 in
set_option maxHeartbeats 2000000 in
theorem hPush_any {B b n : Nat} {x y : Int} {v : Value} {f : Slots} {w : World} (hn : n < 1048576) (hB : B ≤ b) (hin : HeapIn w b v) (h : OwnRow w B v n f) :
    Calls Tryz.prog 137 #[.pointer (some ⟨b, 0, none⟩), .agg #[.int .i64 x, .int .i64 y]] w fun e w' => e = .returned (.tuple #[]) ∧
      ∃ v', HeapIn w' b v' ∧ OwnRow w' B v' (n + 1) (raiseF (putF f n (x, y)) n) ∧ Below B w w' := by
  have hbl := lt_of_block hin
  have k0 := (Below.refl w.heap.size w).alloc (Nat.le_refl _) (.cells #[.int .i64 x, .int .i64 y] 133)
  have kB := k0.mono (Nat.le_trans hB (Nat.le_of_lt hbl))
  have hO0 := h.below k0
  have hin0 : HeapIn (w.alloc (.cells #[.int .i64 x, .int .i64 y] 133)) b v := b_block k0 hin hbl
  have a0 := cell_of_block hin0 0
  have a1 := cell_of_block hin0 1
  have hS := heap_alloc_new w (.cells #[.int .i64 x, .int .i64 y] 133)
  have s0 := cell_of_block hS 0
  have s1 := cell_of_block hS 1
  clear hS
  have hOA : OwnRow ((w.alloc (.cells #[.int .i64 x, .int .i64 y] 133)).alloc (.cells #[.int .i64 x, .int .i64 y] 133)).drew B v n f := ((h.alloc (.cells #[.int .i64 x, .int .i64 y] 133)).alloc (.cells #[.int .i64 x, .int .i64 y] 133)).drew
  have hinA : HeapIn ((w.alloc (.cells #[.int .i64 x, .int .i64 y] 133)).alloc (.cells #[.int .i64 x, .int .i64 y] 133)).drew b v := alloc_block _ hin0
  have hbA := lt_of_block hinA
  have hBA : B ≤ ((w.alloc (.cells #[.int .i64 x, .int .i64 y] 133)).alloc (.cells #[.int .i64 x, .int .i64 y] 133)).drew.heap.size := Nat.le_trans hB (Nat.le_of_lt hbA)
  have hsrc : RowAt ((w.alloc (.cells #[.int .i64 x, .int .i64 y] 133)).alloc (.cells #[.int .i64 x, .int .i64 y] 133)).drew (.slice (some ⟨w.heap.size + 1, 0, none⟩) 1 1) 1 (fun _ => (x, y)) := by
    have := one_row (w.alloc (.cells #[.int .i64 x, .int .i64 y] 133)) x y
    rw [show (w.alloc (.cells #[.int .i64 x, .int .i64 y] 133)).heap.size = w.heap.size + 1 by simp] at this
    exact this
  obtain ⟨av, cv, hv⟩ := h.row.form
  subst hv
  go_enter Tryz.func137, Tryz.ntmps137
  go_wp2_with fail
  go_region_law (first
    | (refine step_append_slots rfl (.tmp 8) (.tmp 10) rfl B (.slice av n cv) n f rfl (row_of_ownrow hOA) _ 1 (fun _ => (x, y)) rfl hsrc (by omega) hBA ?_; intro v2 w2 hown2 hg2 hat2
       rw [cellsF_push] at hown2; have hO2 := own_of_row hown2; obtain ⟨a2, c2, hv2⟩ := hO2.row.form; subst hv2
       have hin2 : HeapIn w2 b (.slice av n cv) := (hg2.block b hbA (hOA.ne_heap hinA)).trans hinA
       have d0 := cell_of_block hin2 0; have d1 := unfrozen_of_block hin2 0
       have hb2 := hOA.below_own hg2 hBA; clear hown2 hg2 hat2))
  all_goals
    have hl2 := lt_of_block hin2
    have hin3 : HeapIn (w2.setCell ⟨b, 0, none⟩ (.slice a2 (n + 1) c2)) b (.slice a2 (n + 1) c2) := block_setCell hin2 _
    have hO3 : OwnRow (w2.setCell ⟨b, 0, none⟩ (.slice a2 (n + 1) c2)) B (.slice a2 (n + 1) c2) (n + 1) (putF f n (x, y)) := by
      rcases hO2 with ⟨h0, _⟩ | ⟨g, cap, e, hO2⟩
      · omega
      · refine .inr ⟨g, cap, e, hO2.block ?_⟩
        exact Below.heap_setCell w2 ⟨b, 0, none⟩ _ g (fun e => hO2.ne_heap hin2 e.symm)
    have hb3 := hb2.setCell (p := ⟨b, 0, none⟩) hB (.slice a2 (n + 1) c2)
    clear a0 a1 s0 s1 hsrc hOA hinA hO0 hin0 hO2 hin2 d0 d1 hb2
    generalize w2.setCell ⟨b, 0, none⟩ (.slice a2 (n + 1) c2) = w3 at *
    obtain ⟨N, hN⟩ : ∃ N : Nat, N = n + 1 := ⟨_, rfl⟩
    rw [← hN] at hin3 hO3 ⊢
    rcases hO3 with ⟨h0, _⟩ | ⟨g, cap, e, hO3⟩
    · omega
    injection e with e1 e2 e3
    subst e1 e3
    have hne := hO3.ne_heap hin3
    have b0 : w3.cell? ⟨b, 0, none⟩ = some (.slice (some ⟨g, 0, none⟩) N c2) := cell_of_block hin3 0
    have b1 : w3.cell? ⟨b, 1, none⟩ = some dueV := cell_of_block hin3 1
    have hl3 := lt_of_block hin3
    have hN1 : N ≤ 1048576 := by omega
    have hN2 : n < N := by omega
    have e1 : IntKind.i64.wrap ((N : Int) - 1) = (n : Int) := by rw [IntKind.wrap_i64]; omega
    have hgB := hO3.1
    have HN := Lib.hid hN
    have hWA : Below B w ((w.alloc (.cells #[.int .i64 x, .int .i64 y] 133)).alloc (.cells #[.int .i64 x, .int .i64 y] 133)).drew := (kB.alloc (Nat.le_trans hB (Nat.le_of_lt (Nat.lt_of_lt_of_le hbl k0.size))) _).drew
    clear hl2 hbA hBA hN h hin k0
    go_wp2_with fail
    go_region_held3 (fun w' => w'.cell? ⟨b, 0, none⟩ = some (.slice (some ⟨g, 0, none⟩) N c2) ∧ w'.cell? ⟨b, 1, none⟩ = some dueV)
      (first | exact ⟨b0, b1⟩ | exact ⟨x0, x1⟩ | exact ⟨z0, z1⟩ | go_keep)
      (first
        | (go_at_call 152; refine (hSize_any (Nat.le_succ_of_le hN1) ⟨_, _, rfl⟩).mono ?_; rintro e w4 ⟨rfl, hb4⟩
           have hin4 := b_block hb4 hin3 hl3; have hO4 := hO3.drew.below hb4; have hb4' := hb3.drew.trans (hb4.mono (Nat.le_trans hB (Nat.le_of_lt hl3)))
           have x0 := cell_of_block hin4 0; have x1 := cell_of_block hin4 1; clear hin3 hO3 hb3 b0 b1 hb4)
        | (go_at_call 151; refine (hRaise_in hN1 hN2 hO4).mono ?_; rintro e w5 ⟨rfl, hO5, hg5⟩
           have hin5 := g_block hg5 hin4 hne; have hb5 := hb4'.trans (b_grown hg5 hgB (Nat.le_trans hB (Nat.le_of_lt (lt_of_block hin4))))
           have z0 := cell_of_block hin5 0; have z1 := cell_of_block hin5 1; clear hin4 hO4 hg5 x0 x1 hb4'))
    all_goals
      clear z0 z1 e1
      go_wp2
      go_end0
      exact ⟨rfl, _, hin5, HN.out ▸ hO5.own, hWA.trans hb5⟩

set_option maxRecDepth 100000 in
set_option maxHeartbeats 2000000 in
theorem iPushed_in {v : Value} {n : Nat} {f : Slots} (a b : Int) {w : World} (hn : n < 30) (h : RowAt w v n f) :
    Calls Tryz.prog 123 #[v, .agg #[.int .i64 a, .int .i64 b]] w (NewRowB (n + 1) (raiseF (putF f n (a, b)) n) true w) := by
  have k0 := (Below.refl w.heap.size w).alloc (Nat.le_refl _) (.cells #[.int .i64 a, .int .i64 b] 133)
  have HR := Lib.hid (h.below k0)
  have hS := heap_alloc_new w (.cells #[.int .i64 a, .int .i64 b] 133)
  have hs0 : w.heap.size < (w.alloc (.cells #[.int .i64 a, .int .i64 b] 133)).heap.size := by simp
  have HS := Lib.hid hS
  obtain ⟨va, vc, hv⟩ := h.form
  clear h hS
  have hn2 : (n : Int) < 30 := by omega
  have hd : decide ((30 : Int) ≤ (n : Int)) = false := by simp; omega
  subst hv
  go_enter Tryz.func123, Tryz.ntmps123
  go_wp2_with fail
  go_at_call 135; refine (heapFrom_any (by omega) HR.out).mono ?_; rintro e w1 ⟨v1, rfl, hO, hb⟩
  have hS1 := b_block hb HS.out hs0
  have hs1 := Nat.lt_of_lt_of_le hs0 hb.size
  have k1 := k0.trans (hb.mono k0.size)
  obtain ⟨a1, c1, hv1⟩ := hO.row.form
  have hin : HeapIn (w1.alloc (.cells #[v1, dueV] 158)) w1.heap.size v1 := heap_alloc_new w1 (.cells #[v1, dueV] 158)
  have hO1 := (hO.alloc (.cells #[v1, dueV] 158)).mono k0.size
  have k2 := k1.alloc k1.size (.cells #[v1, dueV] 158)
  have hS2 := alloc_block (.cells #[v1, dueV] 158) hS1
  have s0 := cell_of_block hS2 0
  have s1 := cell_of_block hS2 1
  have hBb : w.heap.size ≤ w1.heap.size := k1.size
  clear HS HR hO hb hS1 hS2 k1
  subst hv1
  go_wp2_with fail
  go_at_call 137; refine (hPush_any (by omega) hBb hin hO1).mono ?_; rintro e w2 ⟨rfl, v2, hin2, hO2, hb2⟩
  obtain ⟨a2, c2, hv2⟩ := hO2.row.form
  subst hv2
  have b0 := cell_of_block hin2 0
  have b1 := cell_of_block hin2 1
  have k3 := k2.trans hb2
  clear s0 s1 hin hO1 k2 hin2 hb2
  go_wp2
  go_ret2
  exact ⟨_, rfl, hO2, k3⟩

set_option maxRecDepth 100000 in
set_option maxHeartbeats 2000000 in
theorem iPushed_out {v : Value} {n : Nat} {f : Slots} (a b : Int) {w : World} (hn : ¬ n < 30) (hn1 : n ≤ 1048576) (h : RowAt w v n f) :
    Calls Tryz.prog 123 #[v, .agg #[.int .i64 a, .int .i64 b]] w (NewRowB n f false w) := by
  have k0 := (Below.refl w.heap.size w).alloc (Nat.le_refl _) (.cells #[.int .i64 a, .int .i64 b] 133)
  have HR := Lib.hid (h.below k0)
  obtain ⟨va, vc, hv⟩ := h.form
  clear h
  have hn2 : (30 : Int) ≤ (n : Int) := by omega
  have hd : decide ((30 : Int) ≤ (n : Int)) = true := by simp; omega
  subst hv
  go_enter Tryz.func123, Tryz.ntmps123
  go_wp2_with fail
  go_at_call 135; refine (heapFrom_any hn1 HR.out).mono ?_; rintro e w1 ⟨v1, rfl, hO, hb⟩
  have k1 := k0.trans (hb.mono k0.size)
  obtain ⟨a1, c1, hv1⟩ := hO.row.form
  have hin := heap_alloc_new w1 (.cells #[v1, dueV] 158)
  have hO1 := (hO.alloc (.cells #[v1, dueV] 158)).mono k0.size
  have k2 := k1.alloc k1.size (.cells #[v1, dueV] 158)
  have s0 := cell_of_block hin 0
  have s1 := cell_of_block hin 1
  clear HR hO hb k1 hin
  subst hv1
  go_wp2
  go_ret2
  exact ⟨_, rfl, hO1, k2⟩

theorem iPushed_holds : Pushes 123 := by
  intro v n f a b w hn h
  by_cases h30 : n < 30
  · rw [pushedN, if_pos h30, pushedF, if_pos h30, decide_eq_true h30]
    exact iPushed_in a b h30 h
  · rw [pushedN, if_neg h30, pushedF, if_neg h30, decide_eq_false h30]
    exact iPushed_out a b h30 hn h

end Go.Proofs.YtflekodaiejflaaGreat

/-
  The program's heap (chapter 2): one slot taken out.
-/
namespace Go.Proofs.YtflekodaiejflaaGreat
open Go.RowKit Go.Joins
set_option linter.unusedVariables false
set_option linter.unusedSimpArgs false

/-- raised, whether there is such a slot or not -/
theorem hRaise_own {B g n cap : Nat} {f : Slots} {w : World} (i : Int) (hn : n ≤ 1048576) (h : OwnAt w B g n cap f) :
    Calls Tryz.prog 151 #[heapV (.slice (some ⟨g, 0, none⟩) n cap), .int .i64 i] w fun e w' => e = .returned (.tuple #[]) ∧ OwnAt w' B g n cap (raisedF f n i) ∧ w.grownBy w' (some g) := by
  cases hi : hasB n i
  · rw [raisedF_no hi]
    exact (hRaise_out hn hi ⟨_, _, rfl⟩).mono fun e w' ⟨he, hb⟩ => ⟨he, h.below hb, g_below hb _⟩
  · obtain ⟨i0, i1⟩ := hasB_iff.1 hi
    obtain ⟨k, rfl⟩ : ∃ k : Nat, i = k := ⟨i.toNat, by omega⟩
    rw [raisedF_has hi, Int.toNat_natCast]
    exact hRaise_in hn (by omega) h
/-- the last one in the place of the slot k, raised and sunk there: also where it was itself the last one -/
theorem pulled_same {f : Slots} {n k m : Nat} (hm : m = n - 1) (hk : k < m ∨ k = m) : sunkF (raisedF (putF f k (f m)) m k) m k = pulledF f n k := by
  subst hm
  rcases hk with hk | rfl
  · rw [pulledF_mid hk]
  · have hno : hasB (n - 1) ((n - 1 : Nat) : Int) = false := by
      cases h : hasB (n - 1) ((n - 1 : Nat) : Int)
      · rfl
      · have := hasB_iff.1 h; omega
    have hp : putF f (n - 1) (f (n - 1)) = f := by
      funext j
      by_cases e : j = n - 1
      · rw [e, putF_same]
      · exact putF_other f _ e
    rw [raisedF_no hno, sunkF_no hno, hp]
    by_cases hn : 0 < n
    · rw [pulledF_last (by omega) (by omega)]
    · have : n = 0 := by omega
      subst this
      rfl

end Go.Proofs.YtflekodaiejflaaGreat

/-
  The program's PulledOff (chapter 2).
-/
namespace Go.Proofs.YtflekodaiejflaaGreat
open Go.RowKit Go.Joins
set_option linter.unusedVariables false
set_option linter.unusedSimpArgs false

end Go.Proofs.YtflekodaiejflaaGreat

/-
  Tidying up, in the program (chapter 6): into a heap, out of it; the top.
-/
namespace Go.Proofs.YtflekodaiejflaaGreat
open Go.RowKit Go.Joins
set_option linter.unusedVariables false
set_option linter.unusedSimpArgs false

theorem OpenX.setT0 {w : World} {B mb tg n tc g : Nat} {a b c : Int} {V : Nat → Value} {M : Me} (h : OpenX w B mb a b c (.slice (some ⟨tg, 0, none⟩) n tc) g V M) {k : Nat} (hk : k < M.tn) (x : Int) :
    OpenX (w.setCell ⟨tg, k * 8, none⟩ (.int .i64 x)) B mb a b c (.slice (some ⟨tg, 0, none⟩) n tc) g V (setTm M k 0 x) := h.setT (j := 0) hk (by decide) x

set_option maxRecDepth 100000 in
set_option maxHeartbeats 8000000 in
theorem putIn_any {B mb g t k : Nat} {a b c : Int} {tv : Value} {V : Nat → Value} {M : Me} {w : World} (hB : B ≤ w.heap.size) (ht : t < M.tn) (hk : k < M.pn) (hn : (M.p k).n ≤ 1048576) (wh : Int) (h : OpenX w B mb a b c tv g V M) :
    Calls Tryz.prog 107 #[ptrV mb, .int .i64 (t : Int), .int .i64 (k : Int), .int .i64 wh] w fun x w' => x = .returned (.tuple #[]) ∧ InX B mb a b c tv g (putM M t k wh) w w' := by
  obtain ⟨tg, tc, rfl⟩ := h.tms ht
  have i0 : (0 : Int) ≤ (k : Int) := by omega
  have i1 : (k : Int) < (M.pn : Int) := by omega
  have i2 : (0 : Int) ≤ (t : Int) := by omega
  have i3 : (t : Int) < (M.tn : Int) := by omega
  obtain ⟨m0, m1, m2, m3, m4, m5⟩ := six h.m
  go_enter Tryz.func107, Tryz.ntmps107
  go_wp2_with fail
  go_region
  have h0 : OpenX w.drew B mb a b c (.slice (some ⟨tg, 0, none⟩) M.tn tc) g V M := h.below (Below.refl _ w).drew
  have k0 : Wx B w w.drew := .of_new (Below.refl _ w).drew hB
  clear m0 m1 m2 m3 m4 m5 h
  generalize w.drew = w1 at h0 k0 ⊢
  obtain ⟨⟨t0, t1, _, _, t4, _⟩, tf⟩ := h0.tcells ht
  have f0 := tf (t * 8)
  have f1 := tf (t * 8 + 1)
  have f4 := tf (t * 8 + 4)
  have h1 := ((h0.setT0 ht 1).setT (k := t) (j := 1) ht (by decide) wh).setT (k := t) (j := 4) ht (by decide) (k : Int)
  have k1 := ((k0.setT h0 (t * 8) (.int .i64 1)).setT (h0.setT0 ht 1) (t * 8 + 1) (.int .i64 wh)).setT ((h0.setT0 ht 1).setT (k := t) (j := 1) ht (by decide) wh) (t * 8 + 4) (.int .i64 (k : Int))
  clear tf h0 k0
  go_upto_region 2 with fail
  generalize ((w1.setCell ⟨tg, t * 8, none⟩ (.int .i64 1)).setCell ⟨tg, t * 8 + 1, none⟩ (.int .i64 wh)).setCell ⟨tg, t * 8 + 4, none⟩ (.int .i64 (k : Int)) = w2 at h1 k1 ⊢
  clear t0 t1 t4 f0 f1 f4
  have hB2 : B ≤ w2.heap.size := Nat.le_trans hB k1.below.size
  obtain ⟨N, hN⟩ : ∃ N : Me, N = setTm (setTm (setTm M t 0 1) t 1 wh) t 4 (k : Int) := ⟨_, rfl⟩
  have eN1 : N.p k = M.p k := by rw [hN]; rfl
  have eN2 : putM M t k wh = setHp N k (pushedN (N.p k).n) (pushedF (N.p k).f (N.p k).n ((t : Int), wh)) := by rw [eN1, hN]; rfl
  have eN3 : N.pn = M.pn := by rw [hN]; rfl
  have E2 := Lib.hid eN2
  rw [← hN] at h1
  have hk2 : k < N.pn := by omega
  rw [← eN1] at hn
  clear eN1 eN2 eN3 hN
  obtain ⟨⟨ra, rc, hrow, p1⟩, p2, p3, pf⟩ := h1.pcells hk2
  clear p2 p3 pf
  go_wp2_with fail
  go_at_call 123; refine (iPushed_holds _ _ _ _ _ _ hn hrow).mono ?_; rintro x w5 ⟨v, rfl, hO, hb⟩
  have h5 := h1.below hb
  obtain ⟨⟨ra5, rc5, _, q1⟩, _, _, pf⟩ := h5.pcells hk2
  have pf1 := pf (k * 4 + 1)
  have h6 := h1.setNew hB2 hb hk2 hO
  have k6 := (k1.new hb hB).setP h5 (k * 4 + 1) v
  obtain ⟨oa, oc, ho⟩ := hO.value
  subst ho
  clear p1 pf h5 h1 hrow hO hb k1
  go_wp2
  go_end0
  exact ⟨rfl, by rw [E2.out]; exact ⟨_, h6, k6⟩⟩

end Go.Proofs.YtflekodaiejflaaGreat

/-
  Tidying up, in the program (chapter 6): armed, rung, set to its next time; out of a heap for good, elsewhere in it.
-/
namespace Go.Proofs.YtflekodaiejflaaGreat
open Go.RowKit Go.Joins
set_option linter.unusedVariables false
set_option linter.unusedSimpArgs false

theorem ret_i {a b : Int} (h : a = b) : Ending.returned (.int .i64 a) = .returned (.int .i64 b) := by rw [h]
theorem tm_eight {w : World} {b : Nat} {t : Tm} {ty : TypeId} (h : w.heap[b]? = some (.cells (tmCells t) ty (0, 0))) :
    w.cell? ⟨b, 0, none⟩ = some (.int .i64 t.st) ∧ w.cell? ⟨b, 1, none⟩ = some (.int .i64 t.wh) ∧ w.cell? ⟨b, 3, none⟩ = some (.int .i64 t.pe) ∧ w.cell? ⟨b, 4, none⟩ = some (.int .i64 t.pl) :=
  ⟨cell_of_block h 0, cell_of_block h 1, cell_of_block h 3, cell_of_block h 4⟩

set_option maxRecDepth 100000 in
set_option maxHeartbeats 8000000 in
theorem arm_any {B mb g t k : Nat} {a b c : Int} {tv : Value} {V : Nat → Value} {M : Me} {w : World} (hB : B ≤ w.heap.size) (ht : t < M.tn) (hk : k < M.pn) (hn : (M.p k).n ≤ 1048576) (h : OpenX w B mb a b c tv g V M) :
    Calls Tryz.prog 81 #[ptrV mb, .int .i64 (t : Int), .int .i64 (k : Int)] w fun x w' => x = .returned (.bool (armedB M t)) ∧ InX B mb a b c tv g (armedM M t k) w w' := by
  obtain ⟨tg, tc, rfl⟩ := h.tms ht
  have i2 : (0 : Int) ≤ (t : Int) := by omega
  have i3 : (t : Int) < (M.tn : Int) := by omega
  obtain ⟨m0, m1, m2, m3, m4, m5⟩ := six h.m
  obtain ⟨⟨t0, t1, t2, t3, t4, t5, t6, t7⟩, _⟩ := h.tcells ht
  have hW := Lib.hid (putIn_any (t := t) (k := k) (B := B) (mb := mb) (g := g) (a := a) (b := b) (c := c) (tv := .slice (some ⟨tg, 0, none⟩) M.tn tc) (V := V) (M := M) (w := w.alloc (.cells (tmCells (M.t t)) 90)) (by simp; omega) ht hk hn (M.t t).wh (h.below ((Below.refl _ w).alloc (Nat.le_refl _) _)))
  rw [put_push] at hW
  obtain ⟨T, hT⟩ : ∃ T, T = M.t t := ⟨_, rfl⟩
  have hq : armedB M t = (T.st == 2 && T.pl == -1) := by rw [hT]; rfl
  have e1 : armedB M t = true → armedM M t k = pushM M t k := fun e => by rw [armedM, if_pos e]
  have e2 : armedB M t = false → armedM M t k = M := fun e => by rw [armedM, e]; rfl
  rw [← hT] at t0 t1 t2 t3 t4 t5 t6 t7 hW
  have h1 : OpenX (w.alloc (.cells (tmCells T) 90)) B mb a b c (.slice (some ⟨tg, 0, none⟩) M.tn tc) g V M := h.below ((Below.refl _ w).alloc (Nat.le_refl _) _)
  have k1 : Wx B w (w.alloc (.cells (tmCells T) 90)) := .of_new ((Below.refl _ w).alloc (Nat.le_refl _) _) hB
  have hx := heap_alloc_new w (.cells (tmCells T) 90)
  have HQ := Lib.hid hq
  have E1 := Lib.hid e1
  have E2 := Lib.hid e2
  clear hT h e1 e2 hq
  by_cases c1 : T.st = 2
  · have c1a : (T.st == 2) = true := by rw [c1]; rfl
    have c1b : (T.st != 2) = false := by rw [c1]; rfl
    by_cases c2 : T.pl = -1
    · have c2b : (T.pl != -1) = false := by rw [c2]; rfl
      have q : armedB M t = true := by rw [HQ.out, c1a, c2]; rfl
      rw [E1.out q, q]
      clear c1 c2 c1a HQ E1 E2 q
      go_enter Tryz.func81, Tryz.ntmps81
      go_upto_region 2 with fail
      generalize w.alloc (.cells (tmCells T) 90) = w1 at h1 k1 hx hW ⊢
      clear m0 m1 m2 m3 m4 m5 t0 t1 t2 t3 t4 t5 t6 t7
      obtain ⟨x0, x1, x3, x4⟩ := tm_eight hx
      go_wp2_with fail
      go_at_call 107; refine hW.out.mono ?_; rintro x w2 ⟨rfl, V2, h2, k2⟩
      go_wp2
      go_ret
      exact ⟨rfl, _, h2, k1.trans k2⟩
    · have c2b : (T.pl != -1) = true := by simpa using c2
      have q : armedB M t = false := by rw [HQ.out, c1a]; simpa using c2
      rw [E2.out q, q]
      clear c1 c2 c1a HQ E1 E2 q hW
      go_enter Tryz.func81, Tryz.ntmps81
      go_upto_region 2 with fail
      generalize w.alloc (.cells (tmCells T) 90) = w1 at h1 k1 hx ⊢
      clear m0 m1 m2 m3 m4 m5 t0 t1 t2 t3 t4 t5 t6 t7
      obtain ⟨x0, x1, x3, x4⟩ := tm_eight hx
      go_wp2
      go_ret
      exact ⟨rfl, _, h1, k1⟩
  · have c1b : (T.st != 2) = true := by simpa using c1
    have q : armedB M t = false := by rw [HQ.out]; simp [c1]
    rw [E2.out q, q]
    clear c1 HQ E1 E2 q hW
    go_enter Tryz.func81, Tryz.ntmps81
    go_upto_region 2 with fail
    generalize w.alloc (.cells (tmCells T) 90) = w1 at h1 k1 hx ⊢
    clear m0 m1 m2 m3 m4 m5 t0 t1 t2 t3 t4 t5 t6 t7
    obtain ⟨x0, x1, x3, x4⟩ := tm_eight hx
    go_wp2
    go_ret
    exact ⟨rfl, _, h1, k1⟩

end Go.Proofs.YtflekodaiejflaaGreat

/-
  Who is new comes into its heap, in the program (chapter 9).
-/
namespace Go.Proofs.YtflekodaiejflaaGreat
open Go.RowKit Go.Joins
set_option linter.unusedVariables false
set_option linter.unusedSimpArgs false

theorem DeedX.setT {w : World} {B mb db tg n tc g t j : Nat} {a b c d : Int} {V : Nat → Value} {D : Dn} (h : DeedX w B mb db a b c d D) (ho : OpenX w B mb a b c (.slice (some ⟨tg, 0, none⟩) n tc) g V D.m) (ht : t < D.m.tn) (hj : j < 8) (x : Int) :
    DeedX (w.setCell ⟨tg, t * 8 + j, none⟩ (.int .i64 x)) B mb db a b c d ⟨setTm D.m t j x, D.h, D.v⟩ := by
  have hn := ho.t.len
  subst hn
  obtain ⟨cs, hcs⟩ := ho.t.at.hh
  exact h.mem (heap_set1 w tg _ _ db (ne_ty h.e hcs (by decide))) (ho.setT ht hj x).own
theorem Wd.setT {B tg n tc mb g : Nat} {x y z : Int} {V : Nat → Value} {M : Me} {a w : World} (h : Wd B a w) (ho : OpenX w B mb x y z (.slice (some ⟨tg, 0, none⟩) n tc) g V M) (o : Nat) (u : Value) : Wd B a (w.setCell ⟨tg, o, none⟩ u) := by
  have hn := ho.t.len
  subst hn
  obtain ⟨cs, hcs⟩ := ho.t.at.hh
  exact h.set hcs ho.t.at.1 (by decide) o u
theorem setTm_swap (M : Me) (t : Nat) (x y : Int) : setTm (setTm M t 5 x) t 1 y = setTm (setTm M t 1 y) t 5 x := by
  unfold setTm
  congr 1
  funext i
  by_cases e : i = t
  · subst e; simp [putT, tmSet]
  · simp [putT, e]
theorem armedB_set {M : Me} {t j : Nat} (x : Int) (hj : j = 1 ∨ j = 5) : armedB (setTm M t j x) t = armedB M t := by
  unfold armedB
  rw [setTm_at]
  rcases hj with rfl | rfl <;> rfl
/-- the memory that is armed -/
def readyM (D : Dn) (t : Nat) : Me := if D.h.call.code = 3 then setTm (genM D.m t) t 1 D.h.whe else genM D.m t
theorem readyM_push (D : Dn) (t : Nat) (k : Nat) (e : D.h.tim = (t : Int)) : pushM (readyM D t) t k = pushedM D k := by
  unfold pushedM readyM keyedM
  have et : D.h.tim.toNat = t := by omega
  rw [et]
  by_cases hc : D.h.call.code = 3
  · rw [if_pos hc, if_pos hc]
    unfold genM
    rw [setTm_swap]
    have : ((setTm D.m t 1 D.h.whe).t t).ge = (D.m.t t).ge := by rw [setTm_at]; rfl
    rw [this]
  · rw [if_neg hc, if_neg hc]
theorem readyM_armed (D : Dn) (t : Nat) : armedB (readyM D t) t = armedB D.m t := by
  unfold readyM genM
  by_cases hc : D.h.call.code = 3
  · rw [if_pos hc, armedB_set _ (.inl rfl), armedB_set _ (.inr rfl)]
  · rw [if_neg hc, armedB_set _ (.inr rfl)]

set_option maxRecDepth 100000 in
set_option maxHeartbeats 4000000 in
theorem pushD_neg {w : World} {B mb db : Nat} {a b c d : Int} {D : Dn} (hB : B ≤ w.heap.size) (ht : D.h.tim = -1) (h : DeedX w B mb db a b c d D) :
    Calls Tryz.prog 51 #[ptrV db] w (GaveUp B w) := by
  obtain ⟨d0, d1, d2, d3, d4, d5, d6, d7, _, hf⟩ := h.cells
  rw [ht] at d7
  clear h ht
  go_enter Tryz.func51, Tryz.ntmps51
  go_wp2_with (go_at_call 54; refine (giveUp_any _).mono ?_; rintro e w1 ⟨⟨u, pv, rfl⟩, rfl⟩)
  exact ⟨rfl, ⟨_, _, rfl⟩, Below.refl _ _⟩

set_option maxRecDepth 100000 in
set_option maxHeartbeats 8000000 in
theorem pushD_yes {w : World} {B mb db t : Nat} {a b c d : Int} {D : Dn} (hB : B ≤ w.heap.size) (hw : workB a b c d = true) (hk : homeN a d < D.m.pn) (hn : (D.m.p (homeN a d)).n ≤ 1048576) (ht : t < D.m.tn) (het : D.h.tim = (t : Int)) (hq : armedB D.m t = true) (hg0 : 0 ≤ (D.m.t t).ge) (hg1 : (D.m.t t).ge ≤ 100000) (h : DeedX w B mb db a b c d D) :
    Calls Tryz.prog 51 #[ptrV db] w fun e w' => e = .returned (.tuple #[]) ∧ InD B mb db a b c d (pushD D (homeN a d)) w w' := by
  obtain ⟨d0, d1, d2, d3, d4, d5, d6, d7, d8, hf⟩ := h.cells
  rw [het] at d7
  obtain ⟨tv, g, V, ho⟩ := h.o.opened
  obtain ⟨tg, tc, rfl⟩ := ho.tms ht
  obtain ⟨m0, m1, m2, m3, m4, m5⟩ := six ho.m
  obtain ⟨⟨_, _, _, _, _, t5, _, _⟩, tf⟩ := ho.tcells ht
  have f5 := tf (t * 8 + 5)
  have i2 : (0 : Int) ≤ (t : Int) := by omega
  have i3 : (t : Int) < (D.m.tn : Int) := by omega
  have ine : ¬ (t : Int) = -1 := by omega
  have ine2 : ((t : Int) == -1) = false := by simp
  have HET := Lib.hid het
  have HQ := Lib.hid (readyM_armed D t |>.trans hq)
  have ER := Lib.hid (readyM_push D t (homeN a d) het)
  have HW := Lib.hid hw
  obtain ⟨G, hG⟩ : ∃ G : Int, G = (D.m.t t).ge := ⟨_, rfl⟩
  rw [← hG] at t5 hg0 hg1
  have HG := Lib.hid hG
  clear het hq hw hG m0 m1 m2 m3 m5 tf
  go_enter Tryz.func51, Tryz.ntmps51
  have HC := Lib.hid (count_any (w := w) (b := tg) (o := t * 8) hg0 hg1 t5 f5)
  go_wp2_with fail
  go_at_call 80; refine HC.out.mono ?_; rintro e wx ⟨rfl, rfl⟩
  · clear HC
    have h1 := h.setT ho ht (j := 5) (by decide) (minI (G + 1) 100000)
    have o1 := ho.setT ht (j := 5) (by decide) (minI (G + 1) 100000)
    have k1 := (Wd.refl B w).setT ho (t * 8 + 5) (.int .i64 (minI (G + 1) 100000))
    have eM : setTm D.m t 5 (minI (G + 1) 100000) = genM D.m t := by rw [HG.out]; rfl
    rw [eM] at h1 o1
    clear h ho d0 d1 d2 d3 d4 d5 d6 d7 d8 m4 t5 f5 hf eM
    generalize w.setCell ⟨tg, t * 8 + 5, none⟩ (.int .i64 (minI (G + 1) 100000)) = w1 at h1 o1 k1 ⊢
    obtain ⟨d0, d1, d2, d3, d4, d5, d6, d7, d8, hf⟩ := h1.cells
    obtain ⟨⟨_, t1, _, _, _, _, _, _⟩, tf⟩ := o1.tcells ht
    have f1 := tf (t * 8 + 1)
    clear tf d1 d2 d4 d5 d6 d7
    have hB1 : B ≤ w1.heap.size := Nat.le_trans hB k1.below.size
    by_cases hc : D.h.call.code = 3
    case pos =>
      have hc1 : (D.h.call.code == 3) = true := by simpa using hc
      have ER2 : readyM D t = setTm (genM D.m t) t 1 D.h.whe := if_pos hc
      clear hc
      go_upto_region 7 with fail
      have h2 := h1.setT o1 ht (j := 1) (by decide) D.h.whe
      have o2 := o1.setT (k := t) ht (j := 1) (by decide) D.h.whe
      have k2 := k1.setT o1 (t * 8 + 1) (.int .i64 D.h.whe)
      replace h2 : DeedX _ B mb db a b c d ⟨readyM D t, D.h, D.v⟩ := ER2 ▸ h2
      replace o2 : OpenX _ B mb a b c _ g V (readyM D t) := ER2 ▸ o2
      clear d0 d3 d8 t1 f1 hf h1 o1 k1 ER2
      generalize w1.setCell ⟨tg, t * 8 + 1, none⟩ (.int .i64 D.h.whe) = w2 at h2 o2 k2 ⊢
      have hB2 : B ≤ w2.heap.size := Nat.le_trans hB k2.below.size
      have htn : (readyM D t).tn = D.m.tn := by unfold readyM genM; split <;> rfl
      have hpk : (readyM D t).p = D.m.p := by unfold readyM genM; split <;> rfl
      have hpn : (readyM D t).pn = D.m.pn := by unfold readyM genM; split <;> rfl
      obtain ⟨R, hR⟩ : ∃ R : Me, R = readyM D t := ⟨_, rfl⟩
      rw [← hR] at h2 o2 htn hpk hpn HQ ER
      clear hR
      have ht2 : t < R.tn := by omega
      have hk2 : homeN a d < R.pn := by omega
      have hn2 : (R.p (homeN a d)).n ≤ 1048576 := by rw [hpk]; exact hn
      clear htn hpk hpn
      have ld := h2.lt
      have y0 := Lib.hid h2.cells.1
      have kk := (Below.refl w2.heap.size w2).drew
      clear hc1
      go_region_held3 (fun w' => w'.cell? ⟨db, 0, none⟩ = some (ptrV mb))
        (first | with_reducible exact (kk.cell (p := ⟨db, 0, none⟩) ld).trans y0.out | with_reducible exact dz.out)
        (first
          | (go_at_call 50; refine (homeD_any HW.out (h2.below kk)).mono ?_; rintro e w3 ⟨rfl, hb⟩; replace kk := kk.trans (hb.mono kk.size); clear hb)
          | (go_at_call 81; refine (arm_any (Nat.le_trans hB2 kk.size) ht2 hk2 hn2 (o2.below kk)).mono ?_; rintro e w4 ⟨rfl, hx⟩; rw [HQ.out]; have h4 := (h2.below kk).inX hx; have dz := Lib.hid h4.cells.1))
      all_goals
        rw [show armedM R t (homeN a d) = pushM R t (homeN a d) from if_pos HQ.out] at hx h4
        rw [ER.out] at hx h4
        obtain ⟨V4, o4, k4⟩ := hx
        have k5 := (k2.new kk hB).trans k4.deed
        have hB4 : B ≤ w4.heap.size := Nat.le_trans hB k5.below.size
        have htn4 : (pushedM D (homeN a d)).tn = D.m.tn := by unfold pushedM genM keyedM; split <;> rfl
        clear h2 o2 kk k2 k4 y0 dz hB2 ER HQ
        obtain ⟨N, hN⟩ : ∃ N : Me, N = pushedM D (homeN a d) := ⟨_, rfl⟩
        rw [← hN] at h4 o4 htn4
        have HN := Lib.hid hN
        have ht4 : t < N.tn := by omega
        clear hN htn4
        obtain ⟨d0, _, d2, _, _, _, _, _, _, hf⟩ := h4.cells
        have h5 := h4.setPos 4
        have o5 := o4.other h4.e (w' := w4.setCell ⟨db, 2, none⟩ (.int .i64 4)) (by decide) (by decide) (by decide) (by decide) (heap_set1 w4 db _ _)
        have k6 := k5.setD h4 2 (.int .i64 4)
        clear h4 o4 k5
        go_upto_region 10 with fail
        generalize w4.setCell ⟨db, 2, none⟩ (.int .i64 4) = w5 at h5 o5 k6 ⊢
        clear d0 d2 hf
        obtain ⟨⟨_, t1, _, _, _, _, _, _⟩, _⟩ := o5.tcells ht4
        have hB5 : B ≤ w5.heap.size := Nat.le_trans hB k6.below.size
        have HT := Lib.hid (tell_any 1 (N.t t).wh hB5 ht4 h5)
        clear h5 o5
        go_wp2_with fail
        go_at_call 82; refine HT.out.mono ?_; rintro e w6 ⟨rfl, hi, ki⟩
        go_wp2
        first | go_end0 | refine bodyPost_ret (results_none rfl _ _ _) rfl ?_
        refine ⟨rfl, ?_, k6.trans ki⟩
        have et : D.h.tim.toNat = t := by have := HET.out; omega
        unfold pushD
        rw [et, ← HN.out]
        exact hi
    case neg =>
      have hc1 : (D.h.call.code == 3) = false := by simpa using hc
      have ER2 : readyM D t = genM D.m t := if_neg hc
      clear hc
      go_upto_region 7 with fail
      replace h1 : DeedX _ B mb db a b c d ⟨readyM D t, D.h, D.v⟩ := ER2 ▸ h1
      replace o1 : OpenX _ B mb a b c _ g V (readyM D t) := ER2 ▸ o1
      clear d0 d3 d8 t1 f1 hf ER2 hB1
      obtain ⟨w2, hw2⟩ : ∃ w2, w2 = w1 := ⟨_, rfl⟩
      rw [← hw2] at h1 o1 k1 ⊢
      have h2 := h1; have o2 := o1; have k2 := k1
      clear h1 o1 k1 hw2
      have hB2 : B ≤ w2.heap.size := Nat.le_trans hB k2.below.size
      have htn : (readyM D t).tn = D.m.tn := by unfold readyM genM; split <;> rfl
      have hpk : (readyM D t).p = D.m.p := by unfold readyM genM; split <;> rfl
      have hpn : (readyM D t).pn = D.m.pn := by unfold readyM genM; split <;> rfl
      obtain ⟨R, hR⟩ : ∃ R : Me, R = readyM D t := ⟨_, rfl⟩
      rw [← hR] at h2 o2 htn hpk hpn HQ ER
      clear hR
      have ht2 : t < R.tn := by omega
      have hk2 : homeN a d < R.pn := by omega
      have hn2 : (R.p (homeN a d)).n ≤ 1048576 := by rw [hpk]; exact hn
      clear htn hpk hpn
      have ld := h2.lt
      have y0 := Lib.hid h2.cells.1
      have kk := (Below.refl w2.heap.size w2).drew
      clear hc1
      go_region_held3 (fun w' => w'.cell? ⟨db, 0, none⟩ = some (ptrV mb))
        (first | with_reducible exact (kk.cell (p := ⟨db, 0, none⟩) ld).trans y0.out | with_reducible exact dz.out)
        (first
          | (go_at_call 50; refine (homeD_any HW.out (h2.below kk)).mono ?_; rintro e w3 ⟨rfl, hb⟩; replace kk := kk.trans (hb.mono kk.size); clear hb)
          | (go_at_call 81; refine (arm_any (Nat.le_trans hB2 kk.size) ht2 hk2 hn2 (o2.below kk)).mono ?_; rintro e w4 ⟨rfl, hx⟩; rw [HQ.out]; have h4 := (h2.below kk).inX hx; have dz := Lib.hid h4.cells.1))
      all_goals
        rw [show armedM R t (homeN a d) = pushM R t (homeN a d) from if_pos HQ.out] at hx h4
        rw [ER.out] at hx h4
        obtain ⟨V4, o4, k4⟩ := hx
        have k5 := (k2.new kk hB).trans k4.deed
        have hB4 : B ≤ w4.heap.size := Nat.le_trans hB k5.below.size
        have htn4 : (pushedM D (homeN a d)).tn = D.m.tn := by unfold pushedM genM keyedM; split <;> rfl
        clear h2 o2 kk k2 k4 y0 dz hB2 ER HQ
        obtain ⟨N, hN⟩ : ∃ N : Me, N = pushedM D (homeN a d) := ⟨_, rfl⟩
        rw [← hN] at h4 o4 htn4
        have HN := Lib.hid hN
        have ht4 : t < N.tn := by omega
        clear hN htn4
        obtain ⟨d0, _, d2, _, _, _, _, _, _, hf⟩ := h4.cells
        have h5 := h4.setPos 4
        have o5 := o4.other h4.e (w' := w4.setCell ⟨db, 2, none⟩ (.int .i64 4)) (by decide) (by decide) (by decide) (by decide) (heap_set1 w4 db _ _)
        have k6 := k5.setD h4 2 (.int .i64 4)
        clear h4 o4 k5
        go_upto_region 10 with fail
        generalize w4.setCell ⟨db, 2, none⟩ (.int .i64 4) = w5 at h5 o5 k6 ⊢
        clear d0 d2 hf
        obtain ⟨⟨_, t1, _, _, _, _, _, _⟩, _⟩ := o5.tcells ht4
        have hB5 : B ≤ w5.heap.size := Nat.le_trans hB k6.below.size
        have HT := Lib.hid (tell_any 1 (N.t t).wh hB5 ht4 h5)
        clear h5 o5
        go_wp2_with fail
        go_at_call 82; refine HT.out.mono ?_; rintro e w6 ⟨rfl, hi, ki⟩
        go_wp2
        first | go_end0 | refine bodyPost_ret (results_none rfl _ _ _) rfl ?_
        refine ⟨rfl, ?_, k6.trans ki⟩
        have et : D.h.tim.toNat = t := by have := HET.out; omega
        unfold pushD
        rw [et, ← HN.out]
        exact hi

set_option maxRecDepth 100000 in
set_option maxHeartbeats 8000000 in
theorem pushD_no {w : World} {B mb db t : Nat} {a b c d : Int} {D : Dn} (hB : B ≤ w.heap.size) (hw : workB a b c d = true) (hk : homeN a d < D.m.pn) (hn : (D.m.p (homeN a d)).n ≤ 1048576) (ht : t < D.m.tn) (het : D.h.tim = (t : Int)) (hq : armedB D.m t = false) (hg0 : 0 ≤ (D.m.t t).ge) (hg1 : (D.m.t t).ge ≤ 100000) (h : DeedX w B mb db a b c d D) :
    Calls Tryz.prog 51 #[ptrV db] w (GaveUp B w) := by
  obtain ⟨d0, d1, d2, d3, d4, d5, d6, d7, d8, hf⟩ := h.cells
  rw [het] at d7
  obtain ⟨tv, g, V, ho⟩ := h.o.opened
  obtain ⟨tg, tc, rfl⟩ := ho.tms ht
  obtain ⟨m0, m1, m2, m3, m4, m5⟩ := six ho.m
  obtain ⟨⟨_, _, _, _, _, t5, _, _⟩, tf⟩ := ho.tcells ht
  have f5 := tf (t * 8 + 5)
  have i2 : (0 : Int) ≤ (t : Int) := by omega
  have i3 : (t : Int) < (D.m.tn : Int) := by omega
  have ine : ¬ (t : Int) = -1 := by omega
  have ine2 : ((t : Int) == -1) = false := by simp
  have HET := Lib.hid het
  have HQ := Lib.hid (readyM_armed D t |>.trans hq)
  have ER := Lib.hid (readyM_push D t (homeN a d) het)
  have HW := Lib.hid hw
  obtain ⟨G, hG⟩ : ∃ G : Int, G = (D.m.t t).ge := ⟨_, rfl⟩
  rw [← hG] at t5 hg0 hg1
  have HG := Lib.hid hG
  clear het hq hw hG m0 m1 m2 m3 m5 tf
  go_enter Tryz.func51, Tryz.ntmps51
  have HC := Lib.hid (count_any (w := w) (b := tg) (o := t * 8) hg0 hg1 t5 f5)
  go_wp2_with fail
  go_at_call 80; refine HC.out.mono ?_; rintro e wx ⟨rfl, rfl⟩
  · clear HC
    have h1 := h.setT ho ht (j := 5) (by decide) (minI (G + 1) 100000)
    have o1 := ho.setT ht (j := 5) (by decide) (minI (G + 1) 100000)
    have k1 := (Wd.refl B w).setT ho (t * 8 + 5) (.int .i64 (minI (G + 1) 100000))
    have eM : setTm D.m t 5 (minI (G + 1) 100000) = genM D.m t := by rw [HG.out]; rfl
    rw [eM] at h1 o1
    clear h ho d0 d1 d2 d3 d4 d5 d6 d7 d8 m4 t5 f5 hf eM
    generalize w.setCell ⟨tg, t * 8 + 5, none⟩ (.int .i64 (minI (G + 1) 100000)) = w1 at h1 o1 k1 ⊢
    obtain ⟨d0, d1, d2, d3, d4, d5, d6, d7, d8, hf⟩ := h1.cells
    obtain ⟨⟨_, t1, _, _, _, _, _, _⟩, tf⟩ := o1.tcells ht
    have f1 := tf (t * 8 + 1)
    clear tf d1 d2 d4 d5 d6 d7
    have hB1 : B ≤ w1.heap.size := Nat.le_trans hB k1.below.size
    by_cases hc : D.h.call.code = 3
    case pos =>
      have hc1 : (D.h.call.code == 3) = true := by simpa using hc
      have ER2 : readyM D t = setTm (genM D.m t) t 1 D.h.whe := if_pos hc
      clear hc
      go_upto_region 7 with fail
      have h2 := h1.setT o1 ht (j := 1) (by decide) D.h.whe
      have o2 := o1.setT (k := t) ht (j := 1) (by decide) D.h.whe
      have k2 := k1.setT o1 (t * 8 + 1) (.int .i64 D.h.whe)
      replace h2 : DeedX _ B mb db a b c d ⟨readyM D t, D.h, D.v⟩ := ER2 ▸ h2
      replace o2 : OpenX _ B mb a b c _ g V (readyM D t) := ER2 ▸ o2
      clear d0 d3 d8 t1 f1 hf h1 o1 k1 ER2
      generalize w1.setCell ⟨tg, t * 8 + 1, none⟩ (.int .i64 D.h.whe) = w2 at h2 o2 k2 ⊢
      have hB2 : B ≤ w2.heap.size := Nat.le_trans hB k2.below.size
      have htn : (readyM D t).tn = D.m.tn := by unfold readyM genM; split <;> rfl
      have hpk : (readyM D t).p = D.m.p := by unfold readyM genM; split <;> rfl
      have hpn : (readyM D t).pn = D.m.pn := by unfold readyM genM; split <;> rfl
      obtain ⟨R, hR⟩ : ∃ R : Me, R = readyM D t := ⟨_, rfl⟩
      rw [← hR] at h2 o2 htn hpk hpn HQ ER
      clear hR
      have ht2 : t < R.tn := by omega
      have hk2 : homeN a d < R.pn := by omega
      have hn2 : (R.p (homeN a d)).n ≤ 1048576 := by rw [hpk]; exact hn
      clear htn hpk hpn
      have ld := h2.lt
      have y0 := Lib.hid h2.cells.1
      have kk := (Below.refl w2.heap.size w2).drew
      clear hc1
      go_region_held3 (fun w' => w'.cell? ⟨db, 0, none⟩ = some (ptrV mb))
        (first | with_reducible exact (kk.cell (p := ⟨db, 0, none⟩) ld).trans y0.out | with_reducible exact dz.out)
        (first
          | (go_at_call 50; refine (homeD_any HW.out (h2.below kk)).mono ?_; rintro e w3 ⟨rfl, hb⟩; replace kk := kk.trans (hb.mono kk.size); clear hb)
          | (go_at_call 81; refine (arm_any (Nat.le_trans hB2 kk.size) ht2 hk2 hn2 (o2.below kk)).mono ?_; rintro e w4 ⟨rfl, hx⟩; rw [HQ.out]; have h4 := (h2.below kk).inX hx; have dz := Lib.hid h4.cells.1))
      all_goals
        have k5 := (k2.new kk hB).below
        obtain ⟨V4, o4, k4⟩ := hx
        have k6 := k5.trans k4.below
        clear h2 o2 kk k2 k4 y0 dz hB2 ER HQ h4 o4
        go_wp2_with (go_at_call 54; refine (giveUp_any _).mono ?_; rintro e w1 ⟨⟨u, pv, rfl⟩, rfl⟩)
        exact ⟨rfl, ⟨_, _, rfl⟩, k6⟩
    case neg =>
      have hc1 : (D.h.call.code == 3) = false := by simpa using hc
      have ER2 : readyM D t = genM D.m t := if_neg hc
      clear hc
      go_upto_region 7 with fail
      replace h1 : DeedX _ B mb db a b c d ⟨readyM D t, D.h, D.v⟩ := ER2 ▸ h1
      replace o1 : OpenX _ B mb a b c _ g V (readyM D t) := ER2 ▸ o1
      clear d0 d3 d8 t1 f1 hf ER2 hB1
      obtain ⟨w2, hw2⟩ : ∃ w2, w2 = w1 := ⟨_, rfl⟩
      rw [← hw2] at h1 o1 k1 ⊢
      have h2 := h1; have o2 := o1; have k2 := k1
      clear h1 o1 k1 hw2
      have hB2 : B ≤ w2.heap.size := Nat.le_trans hB k2.below.size
      have htn : (readyM D t).tn = D.m.tn := by unfold readyM genM; split <;> rfl
      have hpk : (readyM D t).p = D.m.p := by unfold readyM genM; split <;> rfl
      have hpn : (readyM D t).pn = D.m.pn := by unfold readyM genM; split <;> rfl
      obtain ⟨R, hR⟩ : ∃ R : Me, R = readyM D t := ⟨_, rfl⟩
      rw [← hR] at h2 o2 htn hpk hpn HQ ER
      clear hR
      have ht2 : t < R.tn := by omega
      have hk2 : homeN a d < R.pn := by omega
      have hn2 : (R.p (homeN a d)).n ≤ 1048576 := by rw [hpk]; exact hn
      clear htn hpk hpn
      have ld := h2.lt
      have y0 := Lib.hid h2.cells.1
      have kk := (Below.refl w2.heap.size w2).drew
      clear hc1
      go_region_held3 (fun w' => w'.cell? ⟨db, 0, none⟩ = some (ptrV mb))
        (first | with_reducible exact (kk.cell (p := ⟨db, 0, none⟩) ld).trans y0.out | with_reducible exact dz.out)
        (first
          | (go_at_call 50; refine (homeD_any HW.out (h2.below kk)).mono ?_; rintro e w3 ⟨rfl, hb⟩; replace kk := kk.trans (hb.mono kk.size); clear hb)
          | (go_at_call 81; refine (arm_any (Nat.le_trans hB2 kk.size) ht2 hk2 hn2 (o2.below kk)).mono ?_; rintro e w4 ⟨rfl, hx⟩; rw [HQ.out]; have h4 := (h2.below kk).inX hx; have dz := Lib.hid h4.cells.1))
      all_goals
        have k5 := (k2.new kk hB).below
        obtain ⟨V4, o4, k4⟩ := hx
        have k6 := k5.trans k4.below
        clear h2 o2 kk k2 k4 y0 dz hB2 ER HQ h4 o4
        go_wp2_with (go_at_call 54; refine (giveUp_any _).mono ?_; rintro e w1 ⟨⟨u, pv, rfl⟩, rfl⟩)
        exact ⟨rfl, ⟨_, _, rfl⟩, k6⟩

end Go.Proofs.YtflekodaiejflaaGreat

/-
  The step of creating, at its face (spec, chapter 9).
-/
namespace Go.Proofs.YtflekodaiejflaaGreat
open Go.Deep Go.ChangeShapes Go.WideShapes Go.ChangeAt Go.RowKit Go.Joins
set_option linter.unusedVariables false
set_option linter.unusedSimpArgs false

set_option maxRecDepth 100000 in
set_option maxHeartbeats 8000000 in
theorem l9Of_any (a b c d x y : Int) (h : Hd) {tv pv : Value} {M : Me} {w : World} (hs : sizeM M ≤ 1048576) (hm : MemAt w tv pv M) :
    Calls Tryz.prog 17 #[.agg #[.int .i64 a, .int .i64 b, .int .i64 c], meV M.c tv pv, .int .i64 d, hdV h, .int .i64 x, .int .i64 y] w fun e w' => e = .returned (.bool (stepFit a b c d M h && inB h.pos x y)) ∧ Below w.heap.size w w' := by
  obtain ⟨va, vc, qa, qc, rfl, rfl⟩ := hm.form
  have hn := (sizeM_le hs).1
  have k0 := ((((Below.refl w.heap.size w).alloc (Nat.le_refl _) (.cells #[.int .i64 a, .int .i64 b, .int .i64 c] 46)).alloc (by simp) (.cells #[.int .i64 M.c, .slice va M.tn vc, .slice qa M.pn qc] 36)).alloc (by simp; omega) (.cells #[.int .i64 h.pos, .int .i64 h.call.code, .int .i64 h.call.a, .int .i64 h.call.b, .int .i64 h.call.c, .int .i64 h.tim, .int .i64 h.whe, .bool h.had, .int .i64 h.cnt, .int .i64 h.beg, .int .i64 h.rep, .int .i64 h.out] 39))
  have kk := Below.refl (((w.alloc (.cells #[.int .i64 a, .int .i64 b, .int .i64 c] 46)).alloc (.cells #[.int .i64 M.c, .slice va M.tn vc, .slice qa M.pn qc] 36)).alloc (.cells #[.int .i64 h.pos, .int .i64 h.call.code, .int .i64 h.call.a, .int .i64 h.call.b, .int .i64 h.call.c, .int .i64 h.tim, .int .i64 h.whe, .bool h.had, .int .i64 h.cnt, .int .i64 h.beg, .int .i64 h.rep, .int .i64 h.out] 39)).heap.size (((w.alloc (.cells #[.int .i64 a, .int .i64 b, .int .i64 c] 46)).alloc (.cells #[.int .i64 M.c, .slice va M.tn vc, .slice qa M.pn qc] 36)).alloc (.cells #[.int .i64 h.pos, .int .i64 h.call.code, .int .i64 h.call.a, .int .i64 h.call.b, .int .i64 h.call.c, .int .i64 h.tim, .int .i64 h.whe, .bool h.had, .int .i64 h.cnt, .int .i64 h.beg, .int .i64 h.rep, .int .i64 h.out] 39))
  have HM := Lib.hid (fun (w' : World) (hb : Below w.heap.size w w') => hm.below hb)
  clear hm
  cases h1 : stepFit a b c d M h
  · skip
    go_enter Tryz.func17, Tryz.ntmps17
    go_wp2_with (first
      | (go_at_call 33; refine (spFit_any _ _ _ _ _ hs (HM.out _ (k0.trans (kk.mono k0.size)))).mono ?_; rintro e w1 ⟨rfl, hb⟩; replace kk := kk.trans (hb.mono kk.size); clear hb; (try clear hc hf); obtain ⟨hc, hf⟩ := bcell kk)
      | (go_at_call 34; refine (l1In_any _ _ _ _).mono ?_; rintro e w' ⟨rfl, rfl⟩))
    go_ret
    exact ⟨ret_bool' (by simp []), k0.trans (kk.mono k0.size)⟩
  go_enter Tryz.func17, Tryz.ntmps17
  go_wp2_with (first
      | (go_at_call 33; refine (spFit_any _ _ _ _ _ hs (HM.out _ (k0.trans (kk.mono k0.size)))).mono ?_; rintro e w1 ⟨rfl, hb⟩; replace kk := kk.trans (hb.mono kk.size); clear hb; (try clear hc hf); obtain ⟨hc, hf⟩ := bcell kk)
      | (go_at_call 34; refine (l1In_any _ _ _ _).mono ?_; rintro e w' ⟨rfl, rfl⟩))
  go_ret
  exact ⟨ret_bool' (by simp []), k0.trans (kk.mono k0.size)⟩

/-- what a call answered comes into the answer's block, told of what is new -/
theorem InDnB.new {B R : Nat} {D : Dn} {q : Bool} {w0 w1 w' : World} {e : Ending} {Z : Array Value} (hI : InDnB B D q w1 e w') (k : Below w0.heap.size w0 w1) (hB : w0.heap.size ≤ B) (lr : w0.heap.size ≤ R) (hR : w1.heap[R]? = some (.cells Z 43 (0, 0))) (hz : Z.size = 20) :
    ∃ ta tn tc pa pn pc, e = .returned (.tuple #[dnV D (.slice ta tn tc) (.slice pa pn pc), .bool q]) ∧ w'.there R 0 20 ∧ (w'.setCells R 0 (dnCells D (.slice ta tn tc) (.slice pa pn pc)).toList).rangeAt R 0 (dnCells D (.slice ta tn tc) (.slice pa pn pc)).toList ∧
      NewDn D q w0 (.returned (.tuple #[dnV D (.slice ta tn tc) (.slice pa pn pc), .bool q])) (w'.setCells R 0 (dnCells D (.slice ta tn tc) (.slice pa pn pc)).toList) ∧ Below B w1 w' := by
  obtain ⟨tv, pv, rfl, ho, hk⟩ := hI
  obtain ⟨ta, tc, pa, pc, rfl, rfl⟩ := ho.at.form
  have hR' := hk.kept hR (by decide)
  have ht : w'.there R 0 20 := by rw [← hz]; exact there_of_block hR'
  exact ⟨ta, _, tc, pa, _, pc, rfl, ht, World.rangeAt_setCells_same _ _ _ _ ht, ⟨_, _, rfl, ((ho.setCells _ hR').own).mono hB, b_setCells lr _ 0 (k.trans (hk.below.mono hB))⟩, hk.below⟩
theorem stepFit_more {a b c d : Int} {M : Me} {h : Hd} (hq : stepFit a b c d M h = true) : workB a b c d = true ∧ (0 ≤ h.tim → h.tim.toNat < M.tn) ∧ (∀ i, i < M.tn → 0 ≤ (M.t i).ge ∧ (M.t i).ge ≤ 100000) ∧ homeN a d < M.pn ∧ handB a b c h = true := by
  have F := stepFit_facts hq
  simp only [stepFit, Bool.and_eq_true, Bool.or_eq_true, beq_iff_eq] at hq
  obtain ⟨_, hh, hw, ht⟩ := hq
  refine ⟨hw, fun h0 => ?_, fun i hi => ?_, ?_, hh⟩
  · rcases ht with e | e
    · omega
    · have := inB_iff.1 e
      omega
  · have := F.tm i hi
    simp only [timerB, Bool.and_eq_true] at this
    obtain ⟨_, _, _, _, _, hg, _⟩ := this
    exact inB_iff.1 hg
  · obtain ⟨e1, e2, e3⟩ := F.pn
    obtain ⟨_, n1, n2⟩ := workB_iff.1 hw
    have h1 := Int.emod_lt_of_pos d (show (0 : Int) < a by omega)
    have h2 := Int.emod_nonneg d (show a ≠ 0 by omega)
    unfold homeN
    omega

set_option maxRecDepth 100000 in
set_option maxHeartbeats 1200000 in
theorem spCreateStep_any (a b c d : Int) (h : Hd) (tv pv : Value) (M : Me) (w : World) (hs : sizeM M ≤ 1048576) (hm : MemAt w tv pv M) :
    Calls Tryz.prog 5 #[.agg #[.int .i64 a, .int .i64 b, .int .i64 c], meV M.c tv pv, .int .i64 d, hdV h] w (NewDn (createG a b c d M h) (createQ a b c d M h) w) := by
  obtain ⟨va, vc, qa, qc, rfl, rfl⟩ := hm.form
  have hn := sizeM_le hs
  have k0 := (((((Below.refl w.heap.size w).alloc (Nat.le_refl _) (.cells #[.int .i64 a, .int .i64 b, .int .i64 c] 46)).alloc (by simp) (.cells #[.int .i64 M.c, .slice va M.tn vc, .slice qa M.pn qc] 36)).alloc (by simp; omega) (.cells #[.int .i64 h.pos, .int .i64 h.call.code, .int .i64 h.call.a, .int .i64 h.call.b, .int .i64 h.call.c, .int .i64 h.tim, .int .i64 h.whe, .bool h.had, .int .i64 h.cnt, .int .i64 h.beg, .int .i64 h.rep, .int .i64 h.out] 39)).alloc (by simp; omega) (.cells #[.int .i64 0, .slice none 0 0, .slice none 0 0, .int .i64 0, .int .i64 0, .int .i64 0, .int .i64 0, .int .i64 0, .int .i64 0, .int .i64 0, .bool false, .int .i64 0, .int .i64 0, .int .i64 0, .int .i64 0, .int .i64 0, .int .i64 0, .int .i64 0, .int .i64 0, .int .i64 0] 43))
  have hP := alloc_block (.cells #[.int .i64 0, .slice none 0 0, .slice none 0 0, .int .i64 0, .int .i64 0, .int .i64 0, .int .i64 0, .int .i64 0, .int .i64 0, .int .i64 0, .bool false, .int .i64 0, .int .i64 0, .int .i64 0, .int .i64 0, .int .i64 0, .int .i64 0, .int .i64 0, .int .i64 0, .int .i64 0] 43) (alloc_block (.cells #[.int .i64 h.pos, .int .i64 h.call.code, .int .i64 h.call.a, .int .i64 h.call.b, .int .i64 h.call.c, .int .i64 h.tim, .int .i64 h.whe, .bool h.had, .int .i64 h.cnt, .int .i64 h.beg, .int .i64 h.rep, .int .i64 h.out] 39) (alloc_block (.cells #[.int .i64 M.c, .slice va M.tn vc, .slice qa M.pn qc] 36) (heap_alloc_new w (.cells #[.int .i64 a, .int .i64 b, .int .i64 c] 46))))
  have hX := heap_alloc_new (w.alloc (.cells #[.int .i64 a, .int .i64 b, .int .i64 c] 46)) (.cells #[.int .i64 M.c, .slice va M.tn vc, .slice qa M.pn qc] 36)
  rw [show (w.alloc (.cells #[.int .i64 a, .int .i64 b, .int .i64 c] 46)).heap.size = w.heap.size + 1 by simp] at hX
  replace hX := alloc_block (.cells #[.int .i64 0, .slice none 0 0, .slice none 0 0, .int .i64 0, .int .i64 0, .int .i64 0, .int .i64 0, .int .i64 0, .int .i64 0, .int .i64 0, .bool false, .int .i64 0, .int .i64 0, .int .i64 0, .int .i64 0, .int .i64 0, .int .i64 0, .int .i64 0, .int .i64 0, .int .i64 0] 43) (alloc_block (.cells #[.int .i64 h.pos, .int .i64 h.call.code, .int .i64 h.call.a, .int .i64 h.call.b, .int .i64 h.call.c, .int .i64 h.tim, .int .i64 h.whe, .bool h.had, .int .i64 h.cnt, .int .i64 h.beg, .int .i64 h.rep, .int .i64 h.out] 39) hX)
  have hH := heap_alloc_new ((w.alloc (.cells #[.int .i64 a, .int .i64 b, .int .i64 c] 46)).alloc (.cells #[.int .i64 M.c, .slice va M.tn vc, .slice qa M.pn qc] 36)) (.cells #[.int .i64 h.pos, .int .i64 h.call.code, .int .i64 h.call.a, .int .i64 h.call.b, .int .i64 h.call.c, .int .i64 h.tim, .int .i64 h.whe, .bool h.had, .int .i64 h.cnt, .int .i64 h.beg, .int .i64 h.rep, .int .i64 h.out] 39)
  rw [show ((w.alloc (.cells #[.int .i64 a, .int .i64 b, .int .i64 c] 46)).alloc (.cells #[.int .i64 M.c, .slice va M.tn vc, .slice qa M.pn qc] 36)).heap.size = w.heap.size + 1 + 1 by simp] at hH
  replace hH := alloc_block (.cells #[.int .i64 0, .slice none 0 0, .slice none 0 0, .int .i64 0, .int .i64 0, .int .i64 0, .int .i64 0, .int .i64 0, .int .i64 0, .int .i64 0, .bool false, .int .i64 0, .int .i64 0, .int .i64 0, .int .i64 0, .int .i64 0, .int .i64 0, .int .i64 0, .int .i64 0, .int .i64 0] 43) hH
  have hR := heap_alloc_new (((w.alloc (.cells #[.int .i64 a, .int .i64 b, .int .i64 c] 46)).alloc (.cells #[.int .i64 M.c, .slice va M.tn vc, .slice qa M.pn qc] 36)).alloc (.cells #[.int .i64 h.pos, .int .i64 h.call.code, .int .i64 h.call.a, .int .i64 h.call.b, .int .i64 h.call.c, .int .i64 h.tim, .int .i64 h.whe, .bool h.had, .int .i64 h.cnt, .int .i64 h.beg, .int .i64 h.rep, .int .i64 h.out] 39)) (.cells #[.int .i64 0, .slice none 0 0, .slice none 0 0, .int .i64 0, .int .i64 0, .int .i64 0, .int .i64 0, .int .i64 0, .int .i64 0, .int .i64 0, .bool false, .int .i64 0, .int .i64 0, .int .i64 0, .int .i64 0, .int .i64 0, .int .i64 0, .int .i64 0, .int .i64 0, .int .i64 0] 43)
  rw [show (((w.alloc (.cells #[.int .i64 a, .int .i64 b, .int .i64 c] 46)).alloc (.cells #[.int .i64 M.c, .slice va M.tn vc, .slice qa M.pn qc] 36)).alloc (.cells #[.int .i64 h.pos, .int .i64 h.call.code, .int .i64 h.call.a, .int .i64 h.call.b, .int .i64 h.call.c, .int .i64 h.tim, .int .i64 h.whe, .bool h.had, .int .i64 h.cnt, .int .i64 h.beg, .int .i64 h.rep, .int .i64 h.out] 39)).heap.size = w.heap.size + 1 + 1 + 1 by simp] at hR
  have HM := Lib.hid (hm.below k0)
  clear hm
  cases hq : stepFit a b c d M h && inB h.pos 1 4
  · have eq : (createQ a b c d M h) = false := by rw [createQ, ← Bool.and_assoc, hq, Bool.false_and]
    rw [show NewDn (createG a b c d M h) (createQ a b c d M h) w = NewDn dn0 false w by rw [createG, eq]; rfl]
    clear eq
    have hqb := hq
    clear hq
    go_enter Tryz.func5, Tryz.ntmps5
    go_upto_region 1 with fail
    generalize hw1 : ((((w.alloc (.cells #[.int .i64 a, .int .i64 b, .int .i64 c] 46)).alloc (.cells #[.int .i64 M.c, .slice va M.tn vc, .slice qa M.pn qc] 36)).alloc (.cells #[.int .i64 h.pos, .int .i64 h.call.code, .int .i64 h.call.a, .int .i64 h.call.b, .int .i64 h.call.c, .int .i64 h.tim, .int .i64 h.whe, .bool h.had, .int .i64 h.cnt, .int .i64 h.beg, .int .i64 h.rep, .int .i64 h.out] 39)).alloc (.cells #[.int .i64 0, .slice none 0 0, .slice none 0 0, .int .i64 0, .int .i64 0, .int .i64 0, .int .i64 0, .int .i64 0, .int .i64 0, .int .i64 0, .bool false, .int .i64 0, .int .i64 0, .int .i64 0, .int .i64 0, .int .i64 0, .int .i64 0, .int .i64 0, .int .i64 0, .int .i64 0] 43)) = w1 at k0 hP hX hH hR HM ⊢
    clear hw1
    obtain ⟨p0, p1, p2, _, _, _⟩ := three hP
    obtain ⟨x0, x1, x2, _, _, _⟩ := three hX
    obtain ⟨h0, h1, h2, h3, h4, h5, h6, h7, h8, h9, h10, h11, _⟩ := twelve hH
    go_wp2_with fail
    go_at_call 17; refine (l9Of_any a b c d 1 4 h hs HM.out).mono ?_; rw [hqb]; rintro e w2 ⟨rfl, hb⟩
    have k2 := k0.trans (hb.mono k0.size)
    have hR2 := b_block hb hR (lt_of_block hR)
    clear p0 p1 p2 x0 x1 x2 h0 h1 h2 h3 h4 h5 h6 h7 h8 h9 h10 h11
    go_upto_region 2 with fail
    refine wp_region_lit ?_
    refine wpList_plain rfl fun K0 hK0 => ?_
    go_simp
    refine hK0 _ _ ?_
    clear hK0 K0
    refine wpList_store_mid (by rfl) 43 _ _ (by rfl) _ 0 #[.int .i64 0, .slice none 0 0, .slice none 0 0, .int .i64 0, .int .i64 0, .int .i64 0, .int .i64 0, .int .i64 0, .int .i64 0, .int .i64 0, .bool false, .int .i64 0, .int .i64 0, .int .i64 0, .int .i64 0, .int .i64 0, .int .i64 0, .int .i64 0, .int .i64 0, .int .i64 0] (by rfl) (by rfl) (there_of_block hR2) done_info (by simp [Value.oneCell']) ?_
    go_wp2
    exact bodyPost_ret (v := .tuple #[.agg #[.int .i64 0, .slice none 0 0, .slice none 0 0, .int .i64 0, .int .i64 0, .int .i64 0, .int .i64 0, .int .i64 0, .int .i64 0, .int .i64 0, .bool false, .int .i64 0, .int .i64 0, .int .i64 0, .int .i64 0, .int .i64 0, .int .i64 0, .int .i64 0, .int .i64 0, .int .i64 0], .bool false]) (results_pair (cs := [.int .i64 0, .slice none 0 0, .slice none 0 0, .int .i64 0, .int .i64 0, .int .i64 0, .int .i64 0, .int .i64 0, .int .i64 0, .int .i64 0, .bool false, .int .i64 0, .int .i64 0, .int .i64 0, .int .i64 0, .int .i64 0, .int .i64 0, .int .i64 0, .int .i64 0, .int .i64 0]) rfl rfl rfl (World.rangeAt_setCells_same _ _ _ _ (there_of_block hR2)) Tryz.underlying43 rfl done_info) rfl ⟨_, _, rfl, own_zero _ _, b_setCells (show w.heap.size ≤ w.heap.size + 1 + 1 + 1 by omega) _ 0 k2⟩
  obtain ⟨F1, F2, F3, F4, _⟩ := stepFit_more (Bool.and_eq_true .. ▸ hq).1
  obtain ⟨qq, hqq⟩ : ∃ qq, createB ⟨M, h, et0⟩ = qq := ⟨_, rfl⟩
  obtain ⟨DD, hDD⟩ : ∃ DD, (if createB ⟨M, h, et0⟩ then createD c d (homeN a d) ⟨M, h, et0⟩ else dn0) = DD := ⟨_, rfl⟩
  rw [show NewDn (createG a b c d M h) (createQ a b c d M h) w = NewDn DD qq w by
    have e : createQ a b c d M h = createB ⟨M, h, et0⟩ := by rw [createQ, ← Bool.and_assoc, hq, Bool.true_and]
    rw [createG, e, hDD, hqq]]
  have HD := Lib.hid hDD
  have HQ := Lib.hid hqq
  clear hDD hqq
  have hqb := hq
  clear hq
  go_enter Tryz.func5, Tryz.ntmps5
  go_upto_region 1 with fail
  generalize hw1 : ((((w.alloc (.cells #[.int .i64 a, .int .i64 b, .int .i64 c] 46)).alloc (.cells #[.int .i64 M.c, .slice va M.tn vc, .slice qa M.pn qc] 36)).alloc (.cells #[.int .i64 h.pos, .int .i64 h.call.code, .int .i64 h.call.a, .int .i64 h.call.b, .int .i64 h.call.c, .int .i64 h.tim, .int .i64 h.whe, .bool h.had, .int .i64 h.cnt, .int .i64 h.beg, .int .i64 h.rep, .int .i64 h.out] 39)).alloc (.cells #[.int .i64 0, .slice none 0 0, .slice none 0 0, .int .i64 0, .int .i64 0, .int .i64 0, .int .i64 0, .int .i64 0, .int .i64 0, .int .i64 0, .bool false, .int .i64 0, .int .i64 0, .int .i64 0, .int .i64 0, .int .i64 0, .int .i64 0, .int .i64 0, .int .i64 0, .int .i64 0] 43)) = w1 at k0 hP hX hH hR HM ⊢
  clear hw1
  obtain ⟨p0, p1, p2, _, _, _⟩ := three hP
  obtain ⟨x0, x1, x2, _, _, _⟩ := three hX
  obtain ⟨h0, h1, h2, h3, h4, h5, h6, h7, h8, h9, h10, h11, _⟩ := twelve hH
  go_wp2_with fail
  go_at_call 17; refine (l9Of_any a b c d 1 4 h hs HM.out).mono ?_; rw [hqb]; rintro e w2 ⟨rfl, hb⟩
  have k2 := k0.trans (hb.mono k0.size)
  have hP2 := b_block hb hP (lt_of_block hP)
  have hX2 := b_block hb hX (lt_of_block hX)
  have hH2 := b_block hb hH (lt_of_block hH)
  have hR2 := b_block hb hR (lt_of_block hR)
  have HM2 := Lib.hid (HM.out.below hb)
  clear p0 p1 p2 x0 x1 x2 h0 h1 h2 h3 h4 h5 h6 h7 h8 h9 h10 h11 hb hP hX hH hR HM k0
  go_upto_region 3 with fail
  have lR2 := lt_of_block hR2
  have d0 : w2.drew.heap.size = w2.heap.size := rfl
  refine wp_region_T (fun w' => w'.cell? ⟨w.heap.size, 0, none⟩ = some (.int .i64 a) ∧ w'.cell? ⟨w.heap.size, 1, none⟩ = some (.int .i64 b) ∧ w'.cell? ⟨w.heap.size, 2, none⟩ = some (.int .i64 c) ∧ w'.cell? ⟨w.heap.size + 1, 0, none⟩ = some (.int .i64 M.c) ∧ w'.cell? ⟨w.heap.size + 1, 1, none⟩ = some (.slice va M.tn vc) ∧ w'.cell? ⟨w.heap.size + 1, 2, none⟩ = some (.slice qa M.pn qc) ∧ w'.cell? ⟨w.heap.size + 1 + 1, 0, none⟩ = some (.int .i64 h.pos) ∧ w'.cell? ⟨w.heap.size + 1 + 1, 1, none⟩ = some (.int .i64 h.call.code) ∧ w'.cell? ⟨w.heap.size + 1 + 1, 2, none⟩ = some (.int .i64 h.call.a) ∧ w'.cell? ⟨w.heap.size + 1 + 1, 3, none⟩ = some (.int .i64 h.call.b) ∧ w'.cell? ⟨w.heap.size + 1 + 1, 4, none⟩ = some (.int .i64 h.call.c) ∧ w'.cell? ⟨w.heap.size + 1 + 1, 5, none⟩ = some (.int .i64 h.tim) ∧ w'.cell? ⟨w.heap.size + 1 + 1, 6, none⟩ = some (.int .i64 h.whe) ∧ w'.cell? ⟨w.heap.size + 1 + 1, 7, none⟩ = some (.bool h.had) ∧ w'.cell? ⟨w.heap.size + 1 + 1, 8, none⟩ = some (.int .i64 h.cnt) ∧ w'.cell? ⟨w.heap.size + 1 + 1, 9, none⟩ = some (.int .i64 h.beg) ∧ w'.cell? ⟨w.heap.size + 1 + 1, 10, none⟩ = some (.int .i64 h.rep) ∧ w'.cell? ⟨w.heap.size + 1 + 1, 11, none⟩ = some (.int .i64 h.out)) 10 (by kernel_rfl) ?_
  have hS : w2.drew.cell? ⟨w.heap.size, 0, none⟩ = some (.int .i64 a) ∧ w2.drew.cell? ⟨w.heap.size, 1, none⟩ = some (.int .i64 b) ∧ w2.drew.cell? ⟨w.heap.size, 2, none⟩ = some (.int .i64 c) ∧ w2.drew.cell? ⟨w.heap.size + 1, 0, none⟩ = some (.int .i64 M.c) ∧ w2.drew.cell? ⟨w.heap.size + 1, 1, none⟩ = some (.slice va M.tn vc) ∧ w2.drew.cell? ⟨w.heap.size + 1, 2, none⟩ = some (.slice qa M.pn qc) ∧ w2.drew.cell? ⟨w.heap.size + 1 + 1, 0, none⟩ = some (.int .i64 h.pos) ∧ w2.drew.cell? ⟨w.heap.size + 1 + 1, 1, none⟩ = some (.int .i64 h.call.code) ∧ w2.drew.cell? ⟨w.heap.size + 1 + 1, 2, none⟩ = some (.int .i64 h.call.a) ∧ w2.drew.cell? ⟨w.heap.size + 1 + 1, 3, none⟩ = some (.int .i64 h.call.b) ∧ w2.drew.cell? ⟨w.heap.size + 1 + 1, 4, none⟩ = some (.int .i64 h.call.c) ∧ w2.drew.cell? ⟨w.heap.size + 1 + 1, 5, none⟩ = some (.int .i64 h.tim) ∧ w2.drew.cell? ⟨w.heap.size + 1 + 1, 6, none⟩ = some (.int .i64 h.whe) ∧ w2.drew.cell? ⟨w.heap.size + 1 + 1, 7, none⟩ = some (.bool h.had) ∧ w2.drew.cell? ⟨w.heap.size + 1 + 1, 8, none⟩ = some (.int .i64 h.cnt) ∧ w2.drew.cell? ⟨w.heap.size + 1 + 1, 9, none⟩ = some (.int .i64 h.beg) ∧ w2.drew.cell? ⟨w.heap.size + 1 + 1, 10, none⟩ = some (.int .i64 h.rep) ∧ w2.drew.cell? ⟨w.heap.size + 1 + 1, 11, none⟩ = some (.int .i64 h.out) := ⟨cell_of_block hP2 0, cell_of_block hP2 1, cell_of_block hP2 2, cell_of_block hX2 0, cell_of_block hX2 1, cell_of_block hX2 2, cell_of_block hH2 0, cell_of_block hH2 1, cell_of_block hH2 2, cell_of_block hH2 3, cell_of_block hH2 4, cell_of_block hH2 5, cell_of_block hH2 6, cell_of_block hH2 7, cell_of_block hH2 8, cell_of_block hH2 9, cell_of_block hH2 10, cell_of_block hH2 11⟩
  refine wpAnyT_take (i := 0) (v := ?v0_1) rfl (by kernel_rfl) (by kernel_rfl) (by kernel_rfl) (by kernel_rfl) (fun _ _ _ h => h) (Or.inl ⟨by rfl, ?hy0_1⟩) hS ?rest0_1
  case hy0_1 => intro w' hSw; obtain ⟨s0, s1, s2, s3, s4, s5, s6, s7, s8, s9, s10, s11, s12, s13, s14, s15, s16, s17⟩ := hSw; go_simp; try with_reducible rfl
  simp only [Act.put, List.setIfInBounds_toArray, List.set_cons_zero, List.set_cons_succ]
  refine wpAnyT_take (i := 1) (v := ?v1_2) rfl (by kernel_rfl) (by kernel_rfl) (by kernel_rfl) (by kernel_rfl) (fun _ _ _ h => h) (Or.inl ⟨by rfl, ?hy1_2⟩) hS ?rest1_2
  case hy1_2 => intro w' hSw; obtain ⟨s0, s1, s2, s3, s4, s5, s6, s7, s8, s9, s10, s11, s12, s13, s14, s15, s16, s17⟩ := hSw; go_simp; try with_reducible rfl
  simp only [Act.put, List.setIfInBounds_toArray, List.set_cons_zero, List.set_cons_succ]
  refine wpAnyT_take (i := 3) (v := ?v3_3) rfl (by kernel_rfl) (by kernel_rfl) (by kernel_rfl) (by kernel_rfl) (fun _ _ _ h => h) (Or.inl ⟨by rfl, ?hy3_3⟩) hS ?rest3_3
  case hy3_3 => intro w' hSw; obtain ⟨s0, s1, s2, s3, s4, s5, s6, s7, s8, s9, s10, s11, s12, s13, s14, s15, s16, s17⟩ := hSw; go_simp; try with_reducible rfl
  simp only [Act.put, List.setIfInBounds_toArray, List.set_cons_zero, List.set_cons_succ]
  refine wpAnyT_take (i := 5) (v := ?v5_4) rfl (by kernel_rfl) (by kernel_rfl) (by kernel_rfl) (by kernel_rfl) (fun _ _ _ h => h) (Or.inl ⟨by rfl, ?hy5_4⟩) hS ?rest5_4
  case hy5_4 => intro w' hSw; obtain ⟨s0, s1, s2, s3, s4, s5, s6, s7, s8, s9, s10, s11, s12, s13, s14, s15, s16, s17⟩ := hSw; go_simp; try with_reducible rfl
  simp only [Act.put, List.setIfInBounds_toArray, List.set_cons_zero, List.set_cons_succ]
  refine wpAnyT_one (i := 2) (by kernel_rfl) rfl (by rfl) fun K hK => ?_
  go_simp
  go_at_call 19; refine (l5Copy_any hs (HM2.out.below (Below.refl w2.heap.size w2).drew)).mono ?_
  rintro e w3 ⟨tn, pn, rfl, hO, hb⟩
  have kd := (Below.refl w2.heap.size w2).drew.trans hb
  have hP3 := b_block kd hP2 (lt_of_block hP2)
  have hX3 := b_block kd hX2 (lt_of_block hX2)
  have hH3 := b_block kd hH2 (lt_of_block hH2)
  have hR3 := b_block kd hR2 (lt_of_block hR2)
  have k3 := k2.trans (kd.mono k2.size)
  have hS3 : w3.cell? ⟨w.heap.size, 0, none⟩ = some (.int .i64 a) ∧ w3.cell? ⟨w.heap.size, 1, none⟩ = some (.int .i64 b) ∧ w3.cell? ⟨w.heap.size, 2, none⟩ = some (.int .i64 c) ∧ w3.cell? ⟨w.heap.size + 1, 0, none⟩ = some (.int .i64 M.c) ∧ w3.cell? ⟨w.heap.size + 1, 1, none⟩ = some (.slice va M.tn vc) ∧ w3.cell? ⟨w.heap.size + 1, 2, none⟩ = some (.slice qa M.pn qc) ∧ w3.cell? ⟨w.heap.size + 1 + 1, 0, none⟩ = some (.int .i64 h.pos) ∧ w3.cell? ⟨w.heap.size + 1 + 1, 1, none⟩ = some (.int .i64 h.call.code) ∧ w3.cell? ⟨w.heap.size + 1 + 1, 2, none⟩ = some (.int .i64 h.call.a) ∧ w3.cell? ⟨w.heap.size + 1 + 1, 3, none⟩ = some (.int .i64 h.call.b) ∧ w3.cell? ⟨w.heap.size + 1 + 1, 4, none⟩ = some (.int .i64 h.call.c) ∧ w3.cell? ⟨w.heap.size + 1 + 1, 5, none⟩ = some (.int .i64 h.tim) ∧ w3.cell? ⟨w.heap.size + 1 + 1, 6, none⟩ = some (.int .i64 h.whe) ∧ w3.cell? ⟨w.heap.size + 1 + 1, 7, none⟩ = some (.bool h.had) ∧ w3.cell? ⟨w.heap.size + 1 + 1, 8, none⟩ = some (.int .i64 h.cnt) ∧ w3.cell? ⟨w.heap.size + 1 + 1, 9, none⟩ = some (.int .i64 h.beg) ∧ w3.cell? ⟨w.heap.size + 1 + 1, 10, none⟩ = some (.int .i64 h.rep) ∧ w3.cell? ⟨w.heap.size + 1 + 1, 11, none⟩ = some (.int .i64 h.out) := ⟨cell_of_block hP3 0, cell_of_block hP3 1, cell_of_block hP3 2, cell_of_block hX3 0, cell_of_block hX3 1, cell_of_block hX3 2, cell_of_block hH3 0, cell_of_block hH3 1, cell_of_block hH3 2, cell_of_block hH3 3, cell_of_block hH3 4, cell_of_block hH3 5, cell_of_block hH3 6, cell_of_block hH3 7, cell_of_block hH3 8, cell_of_block hH3 9, cell_of_block hH3 10, cell_of_block hH3 11⟩
  refine hK _ _ (.inr hS3) ?_
  clear hK K
  (try simp only [Act.put, List.setIfInBounds_toArray, List.set_cons_zero, List.set_cons_succ])
  refine wpAnyT_take (i := 4) (v := ?v4_5) rfl (by kernel_rfl) (by kernel_rfl) (by kernel_rfl) (by kernel_rfl) (fun _ _ _ h => h) (Or.inl ⟨by rfl, ?hy4_5⟩) hS3 ?rest4_5
  case hy4_5 => intro w' hSw; obtain ⟨s0, s1, s2, s3, s4, s5, s6, s7, s8, s9, s10, s11, s12, s13, s14, s15, s16, s17⟩ := hSw; go_simp; try with_reducible rfl
  simp only [Act.put, List.setIfInBounds_toArray, List.set_cons_zero, List.set_cons_succ]
  refine wpAnyT_one (i := 6) (by kernel_rfl) rfl (by rfl) fun K hK => ?_
  go_simp
  go_at_call 18; refine ((show Calls _ _ _ _ (InDnB w2.drew.heap.size DD qq w3) by rw [← HD.out, ← HQ.out]; exact l9Create_any (B := w2.drew.heap.size) (v := et0) a b c d F1 kd.size F4 (hn.2.2.2 _ F4) hn.1 F2 F3 hO)).mono ?_
  rintro e w4 hI
  obtain ⟨ta3, tn3, tc3, pa3, pn3, pc3, rfl, th3, ra3, hA, hk4⟩ := hI.new k3 k2.size (show w.heap.size ≤ w.heap.size + 1 + 1 + 1 by omega) hR3 rfl
  have hP4 := b_block hk4 hP3 (by rw [d0]; omega)
  have hX4 := b_block hk4 hX3 (by rw [d0]; omega)
  have hH4 := b_block hk4 hH3 (by rw [d0]; omega)
  have hS4 : w4.cell? ⟨w.heap.size, 0, none⟩ = some (.int .i64 a) ∧ w4.cell? ⟨w.heap.size, 1, none⟩ = some (.int .i64 b) ∧ w4.cell? ⟨w.heap.size, 2, none⟩ = some (.int .i64 c) ∧ w4.cell? ⟨w.heap.size + 1, 0, none⟩ = some (.int .i64 M.c) ∧ w4.cell? ⟨w.heap.size + 1, 1, none⟩ = some (.slice va M.tn vc) ∧ w4.cell? ⟨w.heap.size + 1, 2, none⟩ = some (.slice qa M.pn qc) ∧ w4.cell? ⟨w.heap.size + 1 + 1, 0, none⟩ = some (.int .i64 h.pos) ∧ w4.cell? ⟨w.heap.size + 1 + 1, 1, none⟩ = some (.int .i64 h.call.code) ∧ w4.cell? ⟨w.heap.size + 1 + 1, 2, none⟩ = some (.int .i64 h.call.a) ∧ w4.cell? ⟨w.heap.size + 1 + 1, 3, none⟩ = some (.int .i64 h.call.b) ∧ w4.cell? ⟨w.heap.size + 1 + 1, 4, none⟩ = some (.int .i64 h.call.c) ∧ w4.cell? ⟨w.heap.size + 1 + 1, 5, none⟩ = some (.int .i64 h.tim) ∧ w4.cell? ⟨w.heap.size + 1 + 1, 6, none⟩ = some (.int .i64 h.whe) ∧ w4.cell? ⟨w.heap.size + 1 + 1, 7, none⟩ = some (.bool h.had) ∧ w4.cell? ⟨w.heap.size + 1 + 1, 8, none⟩ = some (.int .i64 h.cnt) ∧ w4.cell? ⟨w.heap.size + 1 + 1, 9, none⟩ = some (.int .i64 h.beg) ∧ w4.cell? ⟨w.heap.size + 1 + 1, 10, none⟩ = some (.int .i64 h.rep) ∧ w4.cell? ⟨w.heap.size + 1 + 1, 11, none⟩ = some (.int .i64 h.out) := ⟨cell_of_block hP4 0, cell_of_block hP4 1, cell_of_block hP4 2, cell_of_block hX4 0, cell_of_block hX4 1, cell_of_block hX4 2, cell_of_block hH4 0, cell_of_block hH4 1, cell_of_block hH4 2, cell_of_block hH4 3, cell_of_block hH4 4, cell_of_block hH4 5, cell_of_block hH4 6, cell_of_block hH4 7, cell_of_block hH4 8, cell_of_block hH4 9, cell_of_block hH4 10, cell_of_block hH4 11⟩
  refine hK _ _ (.inr hS4) ?_
  clear hK K
  (try simp only [Act.put, List.setIfInBounds_toArray, List.set_cons_zero, List.set_cons_succ])
  refine wpAnyT_take (i := 7) (v := ?v7_6) rfl (by kernel_rfl) (by kernel_rfl) (by kernel_rfl) (by kernel_rfl) (fun _ _ _ h => h) (Or.inl ⟨by rfl, ?hy7_6⟩) hS4 ?rest7_6
  case hy7_6 => intro w' hSw; obtain ⟨s0, s1, s2, s3, s4, s5, s6, s7, s8, s9, s10, s11, s12, s13, s14, s15, s16, s17⟩ := hSw; go_simp; try with_reducible rfl
  simp only [Act.put, List.setIfInBounds_toArray, List.set_cons_zero, List.set_cons_succ]
  refine wpAnyT_take (i := 8) (v := ?v8_7) rfl (by kernel_rfl) (by kernel_rfl) (by kernel_rfl) (by kernel_rfl) (fun _ _ _ h => h) (Or.inl ⟨by rfl, ?hy8_7⟩) hS4 ?rest8_7
  case hy8_7 => intro w' hSw; obtain ⟨s0, s1, s2, s3, s4, s5, s6, s7, s8, s9, s10, s11, s12, s13, s14, s15, s16, s17⟩ := hSw; go_simp; try with_reducible rfl
  simp only [Act.put, List.setIfInBounds_toArray, List.set_cons_zero, List.set_cons_succ]
  refine wpAnyT_one (i := 9) (by kernel_rfl) rfl (by rfl) fun K hK => ?_
  refine wp_store_mid 43 _ _ (by rfl) _ 0 (dnCells DD (.slice ta3 tn3 tc3) (.slice pa3 pn3 pc3)) (by rfl) (by rfl) th3 done_info (by simp [Value.oneCell']) ?_
  have hP5 := (heap_setCells_ne (b := w.heap.size + 1 + 1 + 1) (g := w.heap.size) (by omega) (dnCells DD (.slice ta3 tn3 tc3) (.slice pa3 pn3 pc3)).toList 0 w4).trans hP4
  have hX5 := (heap_setCells_ne (b := w.heap.size + 1 + 1 + 1) (g := w.heap.size + 1) (by omega) (dnCells DD (.slice ta3 tn3 tc3) (.slice pa3 pn3 pc3)).toList 0 w4).trans hX4
  have hH5 := (heap_setCells_ne (b := w.heap.size + 1 + 1 + 1) (g := w.heap.size + 1 + 1) (by omega) (dnCells DD (.slice ta3 tn3 tc3) (.slice pa3 pn3 pc3)).toList 0 w4).trans hH4
  generalize hw5 : w4.setCells (w.heap.size + 1 + 1 + 1) 0 (dnCells DD (.slice ta3 tn3 tc3) (.slice pa3 pn3 pc3)).toList = w5 at ra3 hA hP5 hX5 hH5 ⊢
  clear hw5
  have hS5 : w5.cell? ⟨w.heap.size, 0, none⟩ = some (.int .i64 a) ∧ w5.cell? ⟨w.heap.size, 1, none⟩ = some (.int .i64 b) ∧ w5.cell? ⟨w.heap.size, 2, none⟩ = some (.int .i64 c) ∧ w5.cell? ⟨w.heap.size + 1, 0, none⟩ = some (.int .i64 M.c) ∧ w5.cell? ⟨w.heap.size + 1, 1, none⟩ = some (.slice va M.tn vc) ∧ w5.cell? ⟨w.heap.size + 1, 2, none⟩ = some (.slice qa M.pn qc) ∧ w5.cell? ⟨w.heap.size + 1 + 1, 0, none⟩ = some (.int .i64 h.pos) ∧ w5.cell? ⟨w.heap.size + 1 + 1, 1, none⟩ = some (.int .i64 h.call.code) ∧ w5.cell? ⟨w.heap.size + 1 + 1, 2, none⟩ = some (.int .i64 h.call.a) ∧ w5.cell? ⟨w.heap.size + 1 + 1, 3, none⟩ = some (.int .i64 h.call.b) ∧ w5.cell? ⟨w.heap.size + 1 + 1, 4, none⟩ = some (.int .i64 h.call.c) ∧ w5.cell? ⟨w.heap.size + 1 + 1, 5, none⟩ = some (.int .i64 h.tim) ∧ w5.cell? ⟨w.heap.size + 1 + 1, 6, none⟩ = some (.int .i64 h.whe) ∧ w5.cell? ⟨w.heap.size + 1 + 1, 7, none⟩ = some (.bool h.had) ∧ w5.cell? ⟨w.heap.size + 1 + 1, 8, none⟩ = some (.int .i64 h.cnt) ∧ w5.cell? ⟨w.heap.size + 1 + 1, 9, none⟩ = some (.int .i64 h.beg) ∧ w5.cell? ⟨w.heap.size + 1 + 1, 10, none⟩ = some (.int .i64 h.rep) ∧ w5.cell? ⟨w.heap.size + 1 + 1, 11, none⟩ = some (.int .i64 h.out) := ⟨cell_of_block hP5 0, cell_of_block hP5 1, cell_of_block hP5 2, cell_of_block hX5 0, cell_of_block hX5 1, cell_of_block hX5 2, cell_of_block hH5 0, cell_of_block hH5 1, cell_of_block hH5 2, cell_of_block hH5 3, cell_of_block hH5 4, cell_of_block hH5 5, cell_of_block hH5 6, cell_of_block hH5 7, cell_of_block hH5 8, cell_of_block hH5 9, cell_of_block hH5 10, cell_of_block hH5 11⟩
  refine hK _ _ (.inr hS5) ?_
  clear hK K
  (try simp only [Act.put, List.setIfInBounds_toArray, List.set_cons_zero, List.set_cons_succ])
  refine wpAnyT_one (i := 10) (by kernel_rfl) rfl (by rfl) fun K hK => ?_
  go_simp
  refine hK _ _ (.inl rfl) ?_
  clear hK K hS hS3 hS4 hS5
  refine wpAnyT_done (by kernel_rfl) ?_ _
  go_wp2
  exact bodyPost_ret (v := .tuple #[dnV DD (.slice ta3 tn3 tc3) (.slice pa3 pn3 pc3), .bool qq]) (results_pair (cs := (dnCells DD (.slice ta3 tn3 tc3) (.slice pa3 pn3 pc3)).toList) rfl rfl rfl ra3 Tryz.underlying43 rfl done_info) rfl hA

end Go.Proofs.YtflekodaiejflaaGreat

/-
  The step of one that is new, in the program, and its face (chapter 9): CreateStep.
-/
namespace Go.Proofs.YtflekodaiejflaaGreat
open Go.Deep Go.RowKit Go.Joins
set_option linter.unusedVariables false
set_option linter.unusedSimpArgs false

set_option maxRecDepth 100000 in
set_option maxHeartbeats 4000000 in
theorem create_1 {w : World} {B mb db : Nat} {a b c d : Int} {M : Me} {h : Hd} (hf : stepFit a b c d M h = true) (hB : B ≤ w.heap.size) (hp : h.pos = 1) (hc : h.call.code = 1) (hd : DeedX w B mb db a b c d ⟨M, h, et0⟩) :
    Calls Tryz.prog 24 #[ptrV db] w fun e w' => e = .returned (.tuple #[]) ∧ InD B mb db a b c d (allocD c ⟨M, h, et0⟩) w w' := by
  have F := stepFit_facts hf
  obtain ⟨hw, hti, hge, hk, _⟩ := stepFit_more hf
  have hn := F.n (homeN a d) hk
  have htn := F.tn
  obtain ⟨_, _, d2, _, _, _, _, _, _, _⟩ := hd.cells
  replace d2 : w.cell? ⟨db, 2, none⟩ = some (.int .i64 1) := hp ▸ d2
  clear hp
  have H := Lib.hid (allocD_any (D := ⟨M, h, et0⟩) hB (show M.tn < 1048576 by omega) hc hd)
  clear hd F hge hti hc
  go_enter Tryz.func24, Tryz.ntmps24
  go_wp2_with (go_at_call 48; refine H.out.mono ?_; rintro e w2 ⟨rfl, hi⟩)
  first | go_end0 | refine bodyPost_ret (results_none rfl _ _ _) rfl ?_
  exact ⟨rfl, hi⟩

set_option maxRecDepth 100000 in
set_option maxHeartbeats 4000000 in
theorem create_1n {w : World} {B mb db : Nat} {a b c d : Int} {M : Me} {h : Hd} (hf : stepFit a b c d M h = true) (hB : B ≤ w.heap.size) (hp : h.pos = 1) (hc : ¬ h.call.code = 1) (hd : DeedX w B mb db a b c d ⟨M, h, et0⟩) :
    Calls Tryz.prog 24 #[ptrV db] w (GaveUp B w) := by
  have F := stepFit_facts hf
  obtain ⟨hw, hti, hge, hk, _⟩ := stepFit_more hf
  have hn := F.n (homeN a d) hk
  have htn := F.tn
  obtain ⟨_, _, d2, _, _, _, _, _, _, _⟩ := hd.cells
  replace d2 : w.cell? ⟨db, 2, none⟩ = some (.int .i64 1) := hp ▸ d2
  clear hp
  have H := Lib.hid (allocD_no (D := ⟨M, h, et0⟩) hB hc hd)
  clear hd F hge hti hc
  go_enter Tryz.func24, Tryz.ntmps24
  go_wp2_with (go_at_call 48; refine H.out.mono ?_; rintro e w2 ⟨⟨u, pv, rfl⟩, hi⟩)
  exact ⟨rfl, ⟨_, _, rfl⟩, hi⟩

set_option maxRecDepth 100000 in
set_option maxHeartbeats 4000000 in
theorem create_2 {w : World} {B mb db : Nat} {a b c d : Int} {M : Me} {h : Hd} (hf : stepFit a b c d M h = true) (hB : B ≤ w.heap.size) (hp : h.pos = 2) (hd : DeedX w B mb db a b c d ⟨M, h, et0⟩) :
    Calls Tryz.prog 24 #[ptrV db] w fun e w' => e = .returned (.tuple #[]) ∧ InD B mb db a b c d (lockD ⟨M, h, et0⟩ d (homeN a d) 3) w w' := by
  have F := stepFit_facts hf
  obtain ⟨hw, hti, hge, hk, _⟩ := stepFit_more hf
  have hn := F.n (homeN a d) hk
  have htn := F.tn
  obtain ⟨_, _, d2, _, _, _, _, _, _, _⟩ := hd.cells
  replace d2 : w.cell? ⟨db, 2, none⟩ = some (.int .i64 2) := hp ▸ d2
  clear hp
  clear F hge hti
  go_enter Tryz.func24, Tryz.ntmps24
  go_wp2_with (first
    | (go_at_call 50; refine (homeD_any hw hd).mono ?_; rintro e w1 ⟨rfl, hb⟩; have h1 := hd.below hb; have k1 : Wd B w w1 := .of_new hb hB)
    | (go_at_call 49; refine (lockD_any 3 (Nat.le_trans hB k1.below.size) hk h1).mono ?_; rintro e w2 ⟨rfl, hi, ki⟩))
  first | go_end0 | refine bodyPost_ret (results_none rfl _ _ _) rfl ?_
  exact ⟨rfl, hi, k1.trans ki⟩

set_option maxRecDepth 100000 in
set_option maxHeartbeats 4000000 in
theorem create_3 {w : World} {B mb db : Nat} {a b c d : Int} {M : Me} {h : Hd} (hf : stepFit a b c d M h = true) (hB : B ≤ w.heap.size) (hp : h.pos = 3) (het : h.tim.toNat < M.tn) (h0 : 0 ≤ h.tim) (hq : armedB M h.tim.toNat = true) (hd : DeedX w B mb db a b c d ⟨M, h, et0⟩) :
    Calls Tryz.prog 24 #[ptrV db] w fun e w' => e = .returned (.tuple #[]) ∧ InD B mb db a b c d (pushD ⟨M, h, et0⟩ (homeN a d)) w w' := by
  have F := stepFit_facts hf
  obtain ⟨hw, hti, hge, hk, _⟩ := stepFit_more hf
  have hn := F.n (homeN a d) hk
  have htn := F.tn
  obtain ⟨_, _, d2, _, _, _, _, _, _, _⟩ := hd.cells
  replace d2 : w.cell? ⟨db, 2, none⟩ = some (.int .i64 3) := hp ▸ d2
  clear hp
  have H := Lib.hid (pushD_yes (D := ⟨M, h, et0⟩) (t := h.tim.toNat) hB hw hk (show (M.p (homeN a d)).n ≤ 1048576 by omega) het (show h.tim = (h.tim.toNat : Int) by omega) hq (hge _ het).1 (hge _ het).2 hd)
  clear hd F hge hti hq het h0
  go_enter Tryz.func24, Tryz.ntmps24
  go_wp2_with (go_at_call 51; refine H.out.mono ?_; rintro e w2 ⟨rfl, hi⟩)
  first | go_end0 | refine bodyPost_ret (results_none rfl _ _ _) rfl ?_
  exact ⟨rfl, hi⟩

set_option maxRecDepth 100000 in
set_option maxHeartbeats 4000000 in
theorem create_3n {w : World} {B mb db : Nat} {a b c d : Int} {M : Me} {h : Hd} (hf : stepFit a b c d M h = true) (hB : B ≤ w.heap.size) (hp : h.pos = 3) (het : h.tim.toNat < M.tn) (h0 : 0 ≤ h.tim) (hq : armedB M h.tim.toNat = false) (hd : DeedX w B mb db a b c d ⟨M, h, et0⟩) :
    Calls Tryz.prog 24 #[ptrV db] w (GaveUp B w) := by
  have F := stepFit_facts hf
  obtain ⟨hw, hti, hge, hk, _⟩ := stepFit_more hf
  have hn := F.n (homeN a d) hk
  have htn := F.tn
  obtain ⟨_, _, d2, _, _, _, _, _, _, _⟩ := hd.cells
  replace d2 : w.cell? ⟨db, 2, none⟩ = some (.int .i64 3) := hp ▸ d2
  clear hp
  have H := Lib.hid (pushD_no (D := ⟨M, h, et0⟩) (t := h.tim.toNat) hB hw hk (show (M.p (homeN a d)).n ≤ 1048576 by omega) het (show h.tim = (h.tim.toNat : Int) by omega) hq (hge _ het).1 (hge _ het).2 hd)
  clear hd F hge hti hq het h0
  go_enter Tryz.func24, Tryz.ntmps24
  go_wp2_with (go_at_call 51; refine H.out.mono ?_; rintro e w2 ⟨⟨u, pv, rfl⟩, hi⟩)
  exact ⟨rfl, ⟨_, _, rfl⟩, hi⟩

set_option maxRecDepth 100000 in
set_option maxHeartbeats 4000000 in
theorem create_3m {w : World} {B mb db : Nat} {a b c d : Int} {M : Me} {h : Hd} (hf : stepFit a b c d M h = true) (hB : B ≤ w.heap.size) (hp : h.pos = 3) (ht : h.tim = -1) (hd : DeedX w B mb db a b c d ⟨M, h, et0⟩) :
    Calls Tryz.prog 24 #[ptrV db] w (GaveUp B w) := by
  have F := stepFit_facts hf
  obtain ⟨hw, hti, hge, hk, _⟩ := stepFit_more hf
  have hn := F.n (homeN a d) hk
  have htn := F.tn
  obtain ⟨_, _, d2, _, _, _, _, _, _, _⟩ := hd.cells
  replace d2 : w.cell? ⟨db, 2, none⟩ = some (.int .i64 3) := hp ▸ d2
  clear hp
  have H := Lib.hid (pushD_neg (D := ⟨M, h, et0⟩) hB ht hd)
  clear hd F hge hti ht
  go_enter Tryz.func24, Tryz.ntmps24
  go_wp2_with (go_at_call 51; refine H.out.mono ?_; rintro e w2 ⟨⟨u, pv, rfl⟩, hi⟩)
  exact ⟨rfl, ⟨_, _, rfl⟩, hi⟩

set_option maxRecDepth 100000 in
set_option maxHeartbeats 4000000 in
theorem create_4 {w : World} {B mb db : Nat} {a b c d : Int} {M : Me} {h : Hd} (hf : stepFit a b c d M h = true) (hB : B ≤ w.heap.size) (hp : h.pos = 4) (hd : DeedX w B mb db a b c d ⟨M, h, et0⟩) :
    Calls Tryz.prog 24 #[ptrV db] w fun e w' => e = .returned (.tuple #[]) ∧ InD B mb db a b c d (freeD ⟨M, h, et0⟩ d (homeN a d)) w w' := by
  have F := stepFit_facts hf
  obtain ⟨hw, hti, hge, hk, _⟩ := stepFit_more hf
  have hn := F.n (homeN a d) hk
  have htn := F.tn
  obtain ⟨_, _, d2, _, _, _, _, _, _, _⟩ := hd.cells
  replace d2 : w.cell? ⟨db, 2, none⟩ = some (.int .i64 4) := hp ▸ d2
  clear hp
  clear F hge hti
  go_enter Tryz.func24, Tryz.ntmps24
  go_wp2_with (first
    | (go_at_call 50; refine (homeD_any hw hd).mono ?_; rintro e w1 ⟨rfl, hb⟩; have h1 := hd.below hb; have k1 : Wd B w w1 := .of_new hb hB)
    | (go_at_call 52; refine (unlockD_any (Nat.le_trans hB k1.below.size) hk h1).mono ?_; rintro e w2 ⟨rfl, h2, ki⟩; have k2 := k1.trans ki)
    | (go_at_call 53; refine (replyArmed_any (Nat.le_trans hB k2.below.size) h2).mono ?_; rintro e w3 ⟨rfl, hi, kj⟩))
  first | go_end0 | refine bodyPost_ret (results_none rfl _ _ _) rfl ?_
  exact ⟨rfl, hi, k2.trans kj⟩

set_option maxRecDepth 100000 in
set_option maxHeartbeats 4000000 in
theorem create_x {w : World} {B mb db : Nat} {a b c d : Int} {M : Me} {h : Hd} (hf : stepFit a b c d M h = true) (hB : B ≤ w.heap.size) (hp : inB h.pos 1 4 = false) (hd : DeedX w B mb db a b c d ⟨M, h, et0⟩) :
    Calls Tryz.prog 24 #[ptrV db] w (GaveUp B w) := by
  have F := stepFit_facts hf
  obtain ⟨hw, hti, hge, hk, _⟩ := stepFit_more hf
  have hn := F.n (homeN a d) hk
  have htn := F.tn
  obtain ⟨_, _, d2, _, _, _, _, _, _, _⟩ := hd.cells
  have n1 : ¬ h.pos = 1 := by intro e; rw [e] at hp; revert hp; decide
  have n2 : ¬ h.pos = 2 := by intro e; rw [e] at hp; revert hp; decide
  have n3 : ¬ h.pos = 3 := by intro e; rw [e] at hp; revert hp; decide
  have n4 : ¬ h.pos = 4 := by intro e; rw [e] at hp; revert hp; decide
  clear F hge hti hp
  go_enter Tryz.func24, Tryz.ntmps24
  go_wp2_with (go_at_call 54; refine (giveUp_any _).mono ?_; rintro e w1 ⟨⟨u, pv, rfl⟩, rfl⟩)
  exact ⟨rfl, ⟨_, _, rfl⟩, Below.refl _ _⟩

theorem create_does {w : World} {B mb db : Nat} {a b c d : Int} {M : Me} {h : Hd} (hf : stepFit a b c d M h = true) (hB : B ≤ w.heap.size) (hd : DeedX w B mb db a b c d ⟨M, h, et0⟩) :
    Calls Tryz.prog 24 #[ptrV db] w (Does (inB h.pos 1 4 && createB ⟨M, h, et0⟩) (createD c d (homeN a d) ⟨M, h, et0⟩) B mb db a b c d w) := by
  obtain ⟨_, hti, _, _, _⟩ := stepFit_more hf
  cases hi : inB h.pos 1 4
  · rw [Bool.false_and]
    exact create_x hf hB hi hd
  rw [Bool.true_and]
  have hi2 := inB_iff.1 hi
  by_cases p1 : h.pos = 1
  · have E : createB ⟨M, h, et0⟩ = (h.call.code == 1) := if_pos p1
    have E2 : createD c d (homeN a d) ⟨M, h, et0⟩ = allocD c ⟨M, h, et0⟩ := if_pos p1
    rw [E, E2]
    by_cases hc : h.call.code = 1
    · rw [show (h.call.code == 1) = true by simpa using hc]
      exact create_1 hf hB p1 hc hd
    · rw [show (h.call.code == 1) = false by simpa using hc]
      exact create_1n hf hB p1 hc hd
  by_cases p2 : h.pos = 2
  · have E : createB ⟨M, h, et0⟩ = true := (if_neg p1).trans (if_pos p2)
    have E2 : createD c d (homeN a d) ⟨M, h, et0⟩ = lockD ⟨M, h, et0⟩ d (homeN a d) 3 := (if_neg p1).trans (if_pos p2)
    rw [E, E2]
    exact create_2 hf hB p2 hd
  by_cases p3 : h.pos = 3
  · have E : createB ⟨M, h, et0⟩ = pushOk ⟨M, h, et0⟩ := (if_neg p1).trans ((if_neg p2).trans (if_pos p3))
    have E2 : createD c d (homeN a d) ⟨M, h, et0⟩ = pushD ⟨M, h, et0⟩ (homeN a d) := (if_neg p1).trans ((if_neg p2).trans (if_pos p3))
    rw [E, E2]
    by_cases h0 : 0 ≤ h.tim
    · rw [show pushOk ⟨M, h, et0⟩ = armedB M h.tim.toNat by simp [pushOk, h0]]
      cases hq : armedB M h.tim.toNat
      · exact create_3n hf hB p3 (hti h0) h0 hq hd
      · exact create_3 hf hB p3 (hti h0) h0 hq hd
    · rw [show pushOk ⟨M, h, et0⟩ = false by simp [pushOk, h0]]
      have : h.tim = -1 := by
        simp only [stepFit, Bool.and_eq_true, Bool.or_eq_true, beq_iff_eq] at hf
        rcases hf.2.2.2 with e | e
        · exact e
        · have := inB_iff.1 e; omega
      exact create_3m hf hB p3 this hd
  · have p4 : h.pos = 4 := by omega
    have E : createB ⟨M, h, et0⟩ = true := (if_neg p1).trans ((if_neg p2).trans (if_neg p3))
    have E2 : createD c d (homeN a d) ⟨M, h, et0⟩ = freeD ⟨M, h, et0⟩ d (homeN a d) := (if_neg p1).trans ((if_neg p2).trans (if_neg p3))
    rw [E, E2]
    exact create_4 hf hB p4 hd

end Go.Proofs.YtflekodaiejflaaGreat
