/-
  A memory, later (spec, chapter 5).
-/
import Derived.Test.YtonpbmeekgdilaaGreatL15
import Derived.Test.YtonpbmeekgdilaaGreatL12
import Derived.Test.YtonpbmeekgdilaaGreatL13
import Derived.Test.YtonpbmeekgdilaaGreatL11
import Derived.Test.YtonpbmeekgdilaaGreatL14
import Derived.Test.YtonpbmeekgdilaaGreatL06
import Derived.Deep.DeepCutAuto
import Derived.Deep.RegionLaw
import Derived.Lib.Hide
namespace Go.Proofs.YtonpbmeekgdilaaGreat
open Go.RowKit Go.Joins
set_option linter.unusedVariables false

def elapsedM (a b c d : Int) (M : Me) : Me := if memOkB a b c M then ⟨minI (afterI M.c d) 999999999, M.tn, M.t, M.pn, M.p⟩ else me0

end Go.Proofs.YtonpbmeekgdilaaGreat

/-
  FnExactNewMem, told what the program answers.
-/
namespace Go.Proofs.YtonpbmeekgdilaaGreat
open Go.RowKit Go.Joins Go.ChangeShapes Go.WideShapes Go.ChangeAt Go.Deep
set_option linter.unusedVariables false

/-- what the program's NewMem is to answer -/
def AsksNM (fn : FuncId) : Prop := ∀ (a b c : Int) (w : World), Calls Tryz.prog fn #[.agg #[.int .i64 a, .int .i64 b, .int .i64 c]] w (NewMe (newM a b c) w)
theorem sizeM_new (a b c : Int) : sizeM (newM a b c) ≤ 1048576 := by
  unfold newM
  split
  · rename_i h
    have := planB_iff.1 h
    have key : ∀ k, slotsP (fun _ => (⟨0, fun _ => (0, 0), -1, -1, 0⟩ : Pc)) k = 0 := by
      intro k
      induction k with
      | zero => rfl
      | succ k ih => rw [slotsP, ih]; rfl
    unfold sizeM
    simp only [key]
    omega
  · decide

end Go.Proofs.YtonpbmeekgdilaaGreat

/-
  A memory as the program works with it (chapter 5): shown, later, new: Elapsed and NewMem.
-/
namespace Go.Proofs.YtonpbmeekgdilaaGreat
open Go.RowKit Go.Joins
set_option linter.unusedVariables false

set_option maxRecDepth 100000 in
set_option maxHeartbeats 1000000 in
theorem pxShown_any {v : Value} {n : Nat} (l e d : Int) {w : World} (hv : ∃ a cap, v = .slice a n cap) :
    Calls Tryz.prog 59 #[pxV v l e d] w fun x w' => x = .returned (prV v l e d) ∧ Below w.heap.size w w' := by
  obtain ⟨a, cap, rfl⟩ := hv
  have k0 := (Below.refl w.heap.size w).alloc (Nat.le_refl _) (pxB (.slice a n cap) l e d)
  have hR := heap_alloc_new (w.alloc (pxB (.slice a n cap) l e d)) (.cells #[.slice a n cap, .int .i64 l, .int .i64 e, .int .i64 d] 75)
  rw [show (w.alloc (pxB (.slice a n cap) l e d)).heap.size = w.heap.size + 1 by simp] at hR
  obtain ⟨r0, r1, r2, r3, _, _, _, _⟩ := four hR
  go_enter Tryz.func59, Tryz.ntmps59
  go_wp2
  exact bodyPost_ret (v := prV (.slice a n cap) l e d) (by simp [results, Tryz.results59, go_sem, r0, r1, r2, r3]) rfl ⟨rfl, k0.alloc k0.size _⟩

abbrev madeP (n : Nat) : Obj := .cells (madeCells #[.slice none 0 0, .int .i64 0, .int .i64 0, .int .i64 0] (n * 4)) 75

set_option maxRecDepth 100000 in
set_option maxHeartbeats 8000000 in
theorem memShown_any {B mb : Nat} {a b c : Int} {M : Me} {w : World} (hs : sizeM M ≤ 1048576) (hB : B ≤ w.heap.size) (h : OwnedAt w B mb a b c M) :
    Calls Tryz.prog 31 #[ptrV mb] w fun x w' => ∃ tv pv, x = .returned (meV M.c tv pv) ∧ OwnMem w' B tv pv M ∧ Below w.heap.size w w' := by
  obtain ⟨htn, hpn, hsl, hns⟩ := sizeM_le hs
  obtain ⟨tv, g, V, hmB, hM, hT, hL, hH⟩ := h
  obtain ⟨ta, tc, htv⟩ := hT.row.form
  subst htv
  have hmk := run_make_procs M.pn hpn
  have lM := lt_of_block hM
  have e0 : (w.alloc (memO 0 (.slice none 0 0) (.slice none 0 0) 32)).heap.size = w.heap.size + 1 := by simp
  have k0 := (Below.refl w.heap.size w).alloc (Nat.le_refl _) (memO 0 (.slice none 0 0) (.slice none 0 0) 32)
  have hR := alloc_block (madeP M.pn) (heap_alloc_new w (memO 0 (.slice none 0 0) (.slice none 0 0) 32))
  have k1 := k0.alloc k0.size (madeP M.pn)
  have hN := (list_made (w.alloc (memO 0 (.slice none 0 0) (.slice none 0 0) 32)) M.pn (by unfold maxLen; omega)).congr (Q := upToP M.p 0) (U := fun _ => .slice none 0 0) (fun i hi => by simp [upToP]) (fun _ _ => rfl)
  rw [e0] at hN
  have HM := Lib.hid hM
  have HL := Lib.hid hL
  have HH := Lib.hid hH
  have HT := Lib.hid hT
  obtain ⟨m0, m1, m2, m3, m4, m5⟩ := six (b_block k0 hM lM)
  obtain ⟨n0, n1, n2, n3, n4, n5⟩ := six (b_block k1 hM lM)
  clear hM hL hH hT hns hsl
  go_enter Tryz.func31, Tryz.ntmps31
  go_wp2_with fail
  generalize (w.alloc (memO 0 (.slice none 0 0) (.slice none 0 0) 32)).alloc (madeP M.pn) = w2 at k1 hR hN n0 n1 n2 n3 n4 n5 ⊢
  clear m0 m1 m2 m3 m4 m5 k0 hmk e0
  go_wp2_with fail
  clear n0 n1 n2 n3 n4 n5
  go_loopw [17] (fun i wr => ∃ (k : Nat) (U : Nat → Value), k ≤ M.pn ∧ i = .int .i64 k ∧ wr.heap[w.heap.size]? = some (memO 0 (.slice none 0 0) (.slice none 0 0) 32) ∧ ListAt wr (w.heap.size + 1) (w.heap.size + 1) M.pn M.pn (upToP M.p k) U ∧ (∀ i, i < k → U i = V i) ∧ Below w.heap.size w wr) (fun i _ => M.pn - (intOf i).toNat)
  case atStart => exact ⟨0, _, Nat.zero_le _, rfl, hR, hN, fun i hi => absurd hi (Nat.not_lt_zero _), k1⟩
  case round =>
    clear hR hN k1
    obtain ⟨k, U, hk, rfl, hR, hN, hU, kw⟩ := hrel
    obtain ⟨n0, n1, n2, n3, n4, n5⟩ := six (b_block kw HM.out lM)
    by_cases hlt : k < M.pn
    · have i1 : (k : Int) < (M.pn : Int) := by omega
      have i0 : (0 : Int) ≤ (k : Int) := by omega
      have hO := HH.out.1 k hlt
      obtain ⟨oa, oc, ho⟩ := hO.value
      have hLr := HL.out.below kw
      obtain ⟨d0, d1, d2, d3⟩ := hLr.cells hlt
      rw [ho] at d1
      have hNa := hN.below ((Below.refl wr.heap.size wr).alloc (Nat.le_refl _) (pxB (.slice oa (M.p k).n oc) (M.p k).l (M.p k).e (M.p k).d))
      have hRa := alloc_block (pxB (.slice oa (M.p k).n oc) (M.p k).l (M.p k).e (M.p k).d) hR
      have ka := kw.alloc kw.size (pxB (.slice oa (M.p k).n oc) (M.p k).l (M.p k).e (M.p k).d)
      have hX := heap_alloc_new wr (pxB (.slice oa (M.p k).n oc) (M.p k).l (M.p k).e (M.p k).d)
      obtain ⟨x0, x1, x2, x3, _, _, _, _⟩ := four hX
      go_wp2_with fail
      go_at_call 59; refine (pxShown_any _ _ _ ⟨_, _, rfl⟩).mono ?_; rintro x w5 ⟨rfl, hb⟩
      have hN5 := hNa.below hb
      have hR5 := b_block hb hRa (lt_of_block hRa)
      have k5 := ka.trans (hb.mono ka.size)
      have fr := hN5.free
      have f0 := fr (k * 4); have f1 := fr (k * 4 + 1); have f2 := fr (k * 4 + 2); have f3 := fr (k * 4 + 3)
      obtain ⟨c0, c1, c2, c3⟩ := hN5.cells hlt
      have hNn := (hN5.put hlt (.slice oa (M.p k).n oc) (M.p k)).congr (upToP_put (P := M.p)) (fun _ _ => rfl)
      have hRn := (heap_setP w5 (w.heap.size + 1) k (.slice oa (M.p k).n oc) (M.p k).l (M.p k).e (M.p k).d (x := w.heap.size) (by omega)).trans hR5
      have kn := b_setP k5 (g := w.heap.size + 1) (by omega) k (.slice oa (M.p k).n oc) (M.p k).l (M.p k).e (M.p k).d
      have hUn : ∀ i, i < k + 1 → putV U k (.slice oa (M.p k).n oc) i = V i := fun i hi => by
        by_cases e : i = k
        · subst e; rw [putV_same, ho]
        · rw [putV_other U _ e]; exact hU i (by omega)
      clear hb fr d0 d1 d2 d3 x0 x1 x2 x3 n0 n1 n2 n3 n4 n5 hN5 hR5 hNa hRa ka k5 hX
      go_wp2
      exact ⟨⟨k + 1, _, by omega, by go_num, hRn, hNn, hUn, kn⟩, by simp only [intOf]; omega⟩
    · have hkn : k = M.pn := by omega
      subst hkn
      have i1 : ¬ (M.pn : Int) < (M.pn : Int) := by omega
      have hNf := hN.congr (Q := M.p) (U := V) (fun i hi => by simp [upToP, hi]) (fun i hi => hU i hi)
      have lR := lt_of_block hR
      have ks := b_set3 kw (Nat.le_refl _) (.int .i64 M.c) (.slice ta M.tn tc) (.slice (some ⟨w.heap.size + 1, 0, none⟩) M.pn M.pn)
      have hTf := HT.out.below kw
      have hHf := HH.out.below kw
      obtain ⟨r0, r1, r2, rf0, rf1, rf2⟩ := three hR
      go_wp2_with fail
      go_region
      have hTn := hTf.other (w' := (((wr.setCell ⟨w.heap.size, 0, none⟩ (.int .i64 M.c)).setCell ⟨w.heap.size, 1, none⟩ (.slice ta M.tn tc)).setCell ⟨w.heap.size, 2, none⟩ (.slice (some ⟨w.heap.size + 1, 0, none⟩) M.pn M.pn)).drew) hR (by decide) (fun y hy => heap_set3 wr _ _ _ _ hy)
      have hHn : HeapsAt (((wr.setCell ⟨w.heap.size, 0, none⟩ (.int .i64 M.c)).setCell ⟨w.heap.size, 1, none⟩ (.slice ta M.tn tc)).setCell ⟨w.heap.size, 2, none⟩ (.slice (some ⟨w.heap.size + 1, 0, none⟩) M.pn M.pn)).drew B M.pn M.p V :=
        hHf.other (fun i hi x hx => heap_set3 wr _ _ _ _ (own_ne (hHf.1 i hi) hR (by decide) x hx))
      have hLn : ListAt (((wr.setCell ⟨w.heap.size, 0, none⟩ (.int .i64 M.c)).setCell ⟨w.heap.size, 1, none⟩ (.slice ta M.tn tc)).setCell ⟨w.heap.size, 2, none⟩ (.slice (some ⟨w.heap.size + 1, 0, none⟩) M.pn M.pn)).drew B (w.heap.size + 1) M.pn M.pn M.p V :=
        (hNf.mono (by omega)).block (heap_set3 wr w.heap.size _ _ _ (by omega))
      have hRn : (((wr.setCell ⟨w.heap.size, 0, none⟩ (.int .i64 M.c)).setCell ⟨w.heap.size, 1, none⟩ (.slice ta M.tn tc)).setCell ⟨w.heap.size, 2, none⟩ (.slice (some ⟨w.heap.size + 1, 0, none⟩) M.pn M.pn)).drew.heap[w.heap.size]? = some (memO M.c (.slice ta M.tn tc) (.slice (some ⟨w.heap.size + 1, 0, none⟩) M.pn M.pn) 32) := block_set3 hR
      have kn := ks.drew
      clear r0 r1 r2 rf0 rf1 rf2
      obtain ⟨r0, r1, r2, _, _, _⟩ := three hRn
      generalize (((wr.setCell ⟨w.heap.size, 0, none⟩ (.int .i64 M.c)).setCell ⟨w.heap.size, 1, none⟩ (.slice ta M.tn tc)).setCell ⟨w.heap.size, 2, none⟩ (.slice (some ⟨w.heap.size + 1, 0, none⟩) M.pn M.pn)).drew = wz at hTn hHn hLn r0 r1 r2 kn ⊢
      go_wp2
      exact bodyPost_ret (v := meV M.c (.slice ta M.tn tc) (.slice (some ⟨w.heap.size + 1, 0, none⟩) M.pn M.pn)) (by simp [results, Tryz.results31, go_sem, r0, r1, r2]) rfl ⟨_, _, rfl, ⟨hTn, .inr ⟨_, _, V, rfl, hLn, hHn⟩⟩, kn⟩

end Go.Proofs.YtonpbmeekgdilaaGreat

/-
  A memory as the program works with it (chapter 5): later, and new: Elapsed and NewMem.
-/
namespace Go.Proofs.YtonpbmeekgdilaaGreat
open Go.RowKit Go.Joins
set_option linter.unusedVariables false

/-- the clock is stored -/
theorem OwnedAt.clock {w : World} {B mb : Nat} {a b c : Int} {M : Me} (h : OwnedAt w B mb a b c M) (x : Int) : OwnedAt (w.setCell ⟨mb, 3, none⟩ (.int .i64 x)) B mb a b c ⟨x, M.tn, M.t, M.pn, M.p⟩ := by
  obtain ⟨tv, g, V, h0, h1, h2, h3, h4⟩ := h
  exact ⟨tv, g, V, h0, block_setCell h1 (i := 3) _, h2.other h1 (by decide) (fun y hy => Below.heap_setCell w ⟨mb, 3, none⟩ _ y hy), h3.block (Below.heap_setCell w ⟨mb, 3, none⟩ _ g (h3.ne_mem h1)),
    h4.other (fun i hi y hy => Below.heap_setCell w ⟨mb, 3, none⟩ _ y (own_ne (h4.1 i hi) h1 (by decide) y hy))⟩

end Go.Proofs.YtonpbmeekgdilaaGreat

/-
  Tidying up, in the program (chapter 6), at the face: Armed.
-/
namespace Go.Proofs.YtonpbmeekgdilaaGreat
open Go.RowKit Go.Joins
set_option linter.unusedVariables false

set_option maxRecDepth 100000 in
set_option maxHeartbeats 4000000 in
theorem armed_zero1 (a b c d e : Int) {tv pv : Value} {M : Me} {w : World} (hs : sizeM M ≤ 1048576) (h : MemAt w tv pv M) (hok : memOkB a b c M = false) :
    Calls Tryz.prog 10 #[.agg #[.int .i64 a, .int .i64 b, .int .i64 c], meV M.c tv pv, .int .i64 d, .int .i64 e] w (NewMeB me0 (false) w) := by
  obtain ⟨va, vc, qa, qc, rfl, rfl⟩ := h.form
  have k0 := (Below.refl w.heap.size w).alloc (Nat.le_refl _) (.cells #[.int .i64 a, .int .i64 b, .int .i64 c] 35)
  have k1 := k0.alloc k0.size (memO M.c (.slice va M.tn vc) (.slice qa M.pn qc) 32)
  have e1 : ((w.alloc (.cells #[.int .i64 a, .int .i64 b, .int .i64 c] 35)).alloc (memO M.c (.slice va M.tn vc) (.slice qa M.pn qc) 32)).heap.size = w.heap.size + 1 + 1 := by simp
  have k2 := k1.alloc k1.size (memO 0 (.slice none 0 0) (.slice none 0 0) 32)
  have hR := heap_alloc_new ((w.alloc (.cells #[.int .i64 a, .int .i64 b, .int .i64 c] 35)).alloc (memO M.c (.slice va M.tn vc) (.slice qa M.pn qc) 32)) (memO 0 (.slice none 0 0) (.slice none 0 0) 32)
  rw [e1] at hR
  have hP := alloc_block (memO 0 (.slice none 0 0) (.slice none 0 0) 32) (alloc_block (memO M.c (.slice va M.tn vc) (.slice qa M.pn qc) 32) (heap_alloc_new w (.cells #[.int .i64 a, .int .i64 b, .int .i64 c] 35)))
  have HM := Lib.hid (h.below k2)
  have e2 : (((w.alloc (.cells #[.int .i64 a, .int .i64 b, .int .i64 c] 35)).alloc (memO M.c (.slice va M.tn vc) (.slice qa M.pn qc) 32)).alloc (memO 0 (.slice none 0 0) (.slice none 0 0) 32)).heap.size = w.heap.size + 1 + 1 + 1 := by simp
  clear h
  have HOK := Lib.hid hok
  clear hok
  go_enter Tryz.func10, Tryz.ntmps10
  go_wp2_with fail
  go_at_call 27; refine (ownMemory_no a b c hs HM.out HOK.out).mono ?_; rintro x w1 ⟨rfl, hb⟩
  have hR1 := b_block hb hR (lt_of_block hR)
  have k3 := k2.trans (hb.mono k2.size)
  obtain ⟨r0, r1, r2, rf0, rf1, rf2⟩ := three hR1
  go_wp2
  exact bodyPost_ret (v := .tuple #[meV 0 (.slice none 0 0) (.slice none 0 0), .bool false]) (by simp [results, Tryz.results10, go_sem, r0, r1, r2]) rfl ⟨_, _, rfl, own_me0 _ _, b_set3 k3 (by omega) _ _ _⟩

set_option maxRecDepth 100000 in
set_option maxHeartbeats 4000000 in
theorem armed_zero2 (a b c d e : Int) {tv pv : Value} {M : Me} {w : World} (hs : sizeM M ≤ 1048576) (h : MemAt w tv pv M) (hok : memOkB a b c M = true) (h0 : hasT M d = false) :
    Calls Tryz.prog 10 #[.agg #[.int .i64 a, .int .i64 b, .int .i64 c], meV M.c tv pv, .int .i64 d, .int .i64 e] w (NewMeB me0 (false) w) := by
  have htn := (sizeM_le hs).1
  obtain ⟨va, vc, qa, qc, rfl, rfl⟩ := h.form
  have k0 := (Below.refl w.heap.size w).alloc (Nat.le_refl _) (.cells #[.int .i64 a, .int .i64 b, .int .i64 c] 35)
  have k1 := k0.alloc k0.size (memO M.c (.slice va M.tn vc) (.slice qa M.pn qc) 32)
  have e1 : ((w.alloc (.cells #[.int .i64 a, .int .i64 b, .int .i64 c] 35)).alloc (memO M.c (.slice va M.tn vc) (.slice qa M.pn qc) 32)).heap.size = w.heap.size + 1 + 1 := by simp
  have k2 := k1.alloc k1.size (memO 0 (.slice none 0 0) (.slice none 0 0) 32)
  have hR := heap_alloc_new ((w.alloc (.cells #[.int .i64 a, .int .i64 b, .int .i64 c] 35)).alloc (memO M.c (.slice va M.tn vc) (.slice qa M.pn qc) 32)) (memO 0 (.slice none 0 0) (.slice none 0 0) 32)
  rw [e1] at hR
  have hP := alloc_block (memO 0 (.slice none 0 0) (.slice none 0 0) 32) (alloc_block (memO M.c (.slice va M.tn vc) (.slice qa M.pn qc) 32) (heap_alloc_new w (.cells #[.int .i64 a, .int .i64 b, .int .i64 c] 35)))
  have HM := Lib.hid (h.below k2)
  have e2 : (((w.alloc (.cells #[.int .i64 a, .int .i64 b, .int .i64 c] 35)).alloc (memO M.c (.slice va M.tn vc) (.slice qa M.pn qc) 32)).alloc (memO 0 (.slice none 0 0) (.slice none 0 0) 32)).heap.size = w.heap.size + 1 + 1 + 1 := by simp
  clear h
  have HOK := Lib.hid hok
  have H0 := Lib.hid h0
  clear hok h0
  go_enter Tryz.func10, Tryz.ntmps10
  go_wp2_with fail
  go_at_call 27; refine (ownMemory_yes a b c hs HM.out HOK.out).mono ?_; rintro x w1 ⟨mb, rfl, hO, hb⟩
  rw [e2] at hO
  replace hR := b_block hb hR (lt_of_block hR)
  replace hP := b_block hb hP (lt_of_block hP)
  have k3 := k2.trans (hb.mono k2.size)
  have s3 := hb.size
  rw [e2] at s3
  clear HM hb
  go_wp2_with fail
  go_at_call 28; refine (hasTimer_any htn hO.seen _).mono ?_; rintro x w2 ⟨rfl, hb⟩; rw [H0.out]
  replace hR := b_block hb hR (lt_of_block hR)
  replace hP := b_block hb hP (lt_of_block hP)
  replace hO := hO.below hb
  have k4 := k3.trans (hb.mono k3.size)
  have s4 := hb.size
  clear hb
  obtain ⟨r0, r1, r2, rf0, rf1, rf2⟩ := three hR
  go_wp2
  exact bodyPost_ret (v := .tuple #[meV 0 (.slice none 0 0) (.slice none 0 0), .bool false]) (by simp [results, Tryz.results10, go_sem, r0, r1, r2]) rfl ⟨_, _, rfl, own_me0 _ _, b_set3 k4 (by omega) _ _ _⟩

set_option maxRecDepth 100000 in
set_option maxHeartbeats 4000000 in
theorem armed_zero3 (a b c d e : Int) {tv pv : Value} {M : Me} {w : World} (hs : sizeM M ≤ 1048576) (h : MemAt w tv pv M) (hok : memOkB a b c M = true) (h0 : hasT M d = true) (h1 : procB a b c e = false) :
    Calls Tryz.prog 10 #[.agg #[.int .i64 a, .int .i64 b, .int .i64 c], meV M.c tv pv, .int .i64 d, .int .i64 e] w (NewMeB me0 (false) w) := by
  have htn := (sizeM_le hs).1
  obtain ⟨va, vc, qa, qc, rfl, rfl⟩ := h.form
  have k0 := (Below.refl w.heap.size w).alloc (Nat.le_refl _) (.cells #[.int .i64 a, .int .i64 b, .int .i64 c] 35)
  have k1 := k0.alloc k0.size (memO M.c (.slice va M.tn vc) (.slice qa M.pn qc) 32)
  have e1 : ((w.alloc (.cells #[.int .i64 a, .int .i64 b, .int .i64 c] 35)).alloc (memO M.c (.slice va M.tn vc) (.slice qa M.pn qc) 32)).heap.size = w.heap.size + 1 + 1 := by simp
  have k2 := k1.alloc k1.size (memO 0 (.slice none 0 0) (.slice none 0 0) 32)
  have hR := heap_alloc_new ((w.alloc (.cells #[.int .i64 a, .int .i64 b, .int .i64 c] 35)).alloc (memO M.c (.slice va M.tn vc) (.slice qa M.pn qc) 32)) (memO 0 (.slice none 0 0) (.slice none 0 0) 32)
  rw [e1] at hR
  have hP := alloc_block (memO 0 (.slice none 0 0) (.slice none 0 0) 32) (alloc_block (memO M.c (.slice va M.tn vc) (.slice qa M.pn qc) 32) (heap_alloc_new w (.cells #[.int .i64 a, .int .i64 b, .int .i64 c] 35)))
  have HM := Lib.hid (h.below k2)
  have e2 : (((w.alloc (.cells #[.int .i64 a, .int .i64 b, .int .i64 c] 35)).alloc (memO M.c (.slice va M.tn vc) (.slice qa M.pn qc) 32)).alloc (memO 0 (.slice none 0 0) (.slice none 0 0) 32)).heap.size = w.heap.size + 1 + 1 + 1 := by simp
  clear h
  have HOK := Lib.hid hok
  have H0 := Lib.hid h0
  have H1 := Lib.hid h1
  clear hok h0 h1
  go_enter Tryz.func10, Tryz.ntmps10
  go_wp2_with fail
  go_at_call 27; refine (ownMemory_yes a b c hs HM.out HOK.out).mono ?_; rintro x w1 ⟨mb, rfl, hO, hb⟩
  rw [e2] at hO
  replace hR := b_block hb hR (lt_of_block hR)
  replace hP := b_block hb hP (lt_of_block hP)
  have k3 := k2.trans (hb.mono k2.size)
  have s3 := hb.size
  rw [e2] at s3
  clear HM hb
  go_wp2_with fail
  go_at_call 28; refine (hasTimer_any htn hO.seen _).mono ?_; rintro x w2 ⟨rfl, hb⟩; rw [H0.out]
  replace hR := b_block hb hR (lt_of_block hR)
  replace hP := b_block hb hP (lt_of_block hP)
  replace hO := hO.below hb
  have k4 := k3.trans (hb.mono k3.size)
  have s4 := hb.size
  clear hb
  obtain ⟨p0, p1, p2, _, _, _⟩ := three hP
  go_wp2_with fail
  go_at_call 29; refine (hasProc_any a b c _ _).mono ?_; rintro x w3 ⟨rfl, hb⟩; rw [H1.out]
  replace hR := b_block hb hR (lt_of_block hR)
  replace hP := b_block hb hP (lt_of_block hP)
  replace hO := hO.below hb
  have k5 := k4.trans (hb.mono k4.size)
  have s5 := hb.size
  clear hb p0 p1 p2
  obtain ⟨r0, r1, r2, rf0, rf1, rf2⟩ := three hR
  go_wp2
  exact bodyPost_ret (v := .tuple #[meV 0 (.slice none 0 0) (.slice none 0 0), .bool false]) (by simp [results, Tryz.results10, go_sem, r0, r1, r2]) rfl ⟨_, _, rfl, own_me0 _ _, b_set3 k5 (by omega) _ _ _⟩

set_option maxRecDepth 100000 in
set_option maxHeartbeats 8000000 in
theorem armed_yes (a b c d e : Int) {tv pv : Value} {M N : Me} {q : Bool} {w : World} (hs : sizeM M ≤ 1048576) (hN : sizeM N ≤ 1048576) (h : MemAt w tv pv M) (hok : memOkB a b c M = true) (h0 : hasT M d = true) (h1 : procB a b c e = true)
    (HW : RowKit.Hid (∀ (W : World) (B mb g : Nat) (tv : Value) (V : Nat → Value), B ≤ W.heap.size → OpenX W B mb a b c tv g V M → Calls Tryz.prog 30 #[ptrV mb, .int .i64 d, .int .i64 e] W fun x w' => x = .returned (.bool q) ∧ InX B mb a b c tv g N W w')) :
    Calls Tryz.prog 10 #[.agg #[.int .i64 a, .int .i64 b, .int .i64 c], meV M.c tv pv, .int .i64 d, .int .i64 e] w (NewMeB N q w) := by
  have htn := (sizeM_le hs).1
  obtain ⟨va, vc, qa, qc, rfl, rfl⟩ := h.form
  have k0 := (Below.refl w.heap.size w).alloc (Nat.le_refl _) (.cells #[.int .i64 a, .int .i64 b, .int .i64 c] 35)
  have k1 := k0.alloc k0.size (memO M.c (.slice va M.tn vc) (.slice qa M.pn qc) 32)
  have e1 : ((w.alloc (.cells #[.int .i64 a, .int .i64 b, .int .i64 c] 35)).alloc (memO M.c (.slice va M.tn vc) (.slice qa M.pn qc) 32)).heap.size = w.heap.size + 1 + 1 := by simp
  have k2 := k1.alloc k1.size (memO 0 (.slice none 0 0) (.slice none 0 0) 32)
  have hR := heap_alloc_new ((w.alloc (.cells #[.int .i64 a, .int .i64 b, .int .i64 c] 35)).alloc (memO M.c (.slice va M.tn vc) (.slice qa M.pn qc) 32)) (memO 0 (.slice none 0 0) (.slice none 0 0) 32)
  rw [e1] at hR
  have hP := alloc_block (memO 0 (.slice none 0 0) (.slice none 0 0) 32) (alloc_block (memO M.c (.slice va M.tn vc) (.slice qa M.pn qc) 32) (heap_alloc_new w (.cells #[.int .i64 a, .int .i64 b, .int .i64 c] 35)))
  have HM := Lib.hid (h.below k2)
  have e2 : (((w.alloc (.cells #[.int .i64 a, .int .i64 b, .int .i64 c] 35)).alloc (memO M.c (.slice va M.tn vc) (.slice qa M.pn qc) 32)).alloc (memO 0 (.slice none 0 0) (.slice none 0 0) 32)).heap.size = w.heap.size + 1 + 1 + 1 := by simp
  clear h
  have HOK := Lib.hid hok
  have H0 := Lib.hid h0
  have H1 := Lib.hid h1
  clear hok h0 h1
  go_enter Tryz.func10, Tryz.ntmps10
  go_wp2_with fail
  go_at_call 27; refine (ownMemory_yes a b c hs HM.out HOK.out).mono ?_; rintro x w1 ⟨mb, rfl, hO, hb⟩
  rw [e2] at hO
  replace hR := b_block hb hR (lt_of_block hR)
  replace hP := b_block hb hP (lt_of_block hP)
  have k3 := k2.trans (hb.mono k2.size)
  have s3 := hb.size
  rw [e2] at s3
  clear HM hb
  go_wp2_with fail
  go_at_call 28; refine (hasTimer_any htn hO.seen _).mono ?_; rintro x w2 ⟨rfl, hb⟩; rw [H0.out]
  replace hR := b_block hb hR (lt_of_block hR)
  replace hP := b_block hb hP (lt_of_block hP)
  replace hO := hO.below hb
  have k4 := k3.trans (hb.mono k3.size)
  have s4 := hb.size
  clear hb
  obtain ⟨p0, p1, p2, _, _, _⟩ := three hP
  go_wp2_with fail
  go_at_call 29; refine (hasProc_any a b c _ _).mono ?_; rintro x w3 ⟨rfl, hb⟩; rw [H1.out]
  replace hR := b_block hb hR (lt_of_block hR)
  replace hP := b_block hb hP (lt_of_block hP)
  replace hO := hO.below hb
  have k5 := k4.trans (hb.mono k4.size)
  have s5 := hb.size
  clear hb p0 p1 p2
  obtain ⟨tv2, g2, V2, hX⟩ := hO.opened
  go_wp2_with fail
  go_at_call 30; refine (HW.out _ _ _ _ _ _ (by omega) hX).mono ?_; rintro x w4 ⟨rfl, V3, hX3, kx⟩
  replace hR := (kx.below.block (w.heap.size + 1 + 1) (by omega)).trans hR
  have k6 := k5.trans (kx.below.mono (by omega))
  have s6 := kx.below.size
  clear hX hO hP kx
  have hO := hX3.own
  clear hX3
  go_wp2_with fail
  go_at_call 31; refine (memShown_any hN (by omega) hO).mono ?_; rintro x w5 ⟨t3, p3, rfl, hO3, hb3⟩
  have hR3 := b_block hb3 hR (lt_of_block hR)
  have k7 := k6.trans (hb3.mono (by omega))
  obtain ⟨ta, tc, pa, pc, ht, hp⟩ := hO3.at.form
  subst ht hp
  clear hR hO
  obtain ⟨r0, r1, r2, rf0, rf1, rf2⟩ := three hR3
  go_wp2
  exact bodyPost_ret (v := .tuple #[meV N.c (.slice ta N.tn tc) (.slice pa N.pn pc), .bool q]) (by simp [results, Tryz.results10, go_sem, r0, r1, r2]) rfl ⟨_, _, rfl, (hO3.set3 (by omega) _ _ _).mono (by omega), b_set3 k7 (by omega) _ _ _⟩

theorem imArmed_any : AsksArmed 10 := by
  intro a b c d e tv pv M w hs h
  cases hall : bothOkM a b c d e M
  · have e0 : armedG a b c d e M = me0 := by rw [armedG, hall]; rfl
    have e1 : armedQ a b c d e M = false := by rw [armedQ, hall]; rfl
    rw [e0, e1]
    cases hok : memOkB a b c M
    · exact armed_zero1 a b c d e hs h hok
    · cases h0 : hasT M d
      · exact armed_zero2 a b c d e hs h hok h0
      · cases h1 : procB a b c e
        · exact armed_zero3 a b c d e hs h hok h0 h1
        · exfalso; rw [bothOkM, hok, h0, h1] at hall; simp at hall
  · have e0 : armedG a b c d e M = armedM M d.toNat e.toNat := by rw [armedG, if_pos hall]
    have e1 : armedQ a b c d e M = armedB M d.toNat := by rw [armedQ, hall]; rfl
    rw [e0, e1]
    obtain ⟨hf, ⟨t, ed, et, ht⟩, k, ee, ek, hk⟩ := bothOk_of hall
    subst ed ee
    have hall2 := hall
    simp only [bothOkM, Bool.and_eq_true] at hall2
    obtain ⟨hok, h0, h1⟩ := hall2
    exact armed_yes a b c (t : Int) (k : Int) hs ((near_armed M t k).size hf) h hok h0 h1 (Lib.hid (fun W B mb g tv V hB hX => arm_any hB ht hk (by have := hf.n k hk; omega) hX))

end Go.Proofs.YtonpbmeekgdilaaGreat

/-
  Two blocks of a function that works in a memory of its own: its parameter's, its answer's (spec, chapter 6).
-/
namespace Go.Proofs.YtonpbmeekgdilaaGreat
open Go.RowKit Go.Joins
set_option linter.unusedVariables false

/-- two blocks of a memory: the parameter, and what is answered -/
abbrev twoM (w : World) (c : Int) (tv pv : Value) : World := (w.alloc (memO c tv pv 32)).alloc (memO 0 (.slice none 0 0) (.slice none 0 0) 32)
theorem OwnMem.answer {w : World} {B R : Nat} {tv pv : Value} {M : Me} {cR : Array Value} (h : OwnMem w B tv pv M) (hR : w.heap[R]? = some (.cells cR 32 (0, 0))) (x y z : Value) :
    OwnMem (((w.setCell ⟨R, 0, none⟩ x).setCell ⟨R, 1, none⟩ y).setCell ⟨R, 2, none⟩ z) B tv pv M := h.other hR (by decide) (by decide) (by decide) (fun _ hy => heap_set3 w R x y z hy)
theorem twoM_is {B : Nat} {w : World} (hB : B ≤ w.heap.size) (c : Int) (tv pv : Value) :
    Below w.heap.size w (twoM w c tv pv) ∧ (twoM w c tv pv).heap.size = w.heap.size + 1 + 1 ∧ (twoM w c tv pv).heap[w.heap.size]? = some (memO c tv pv 32) ∧ (twoM w c tv pv).heap[w.heap.size + 1]? = some (memO 0 (.slice none 0 0) (.slice none 0 0) 32) := by
  have k0 := (Below.refl w.heap.size w).alloc (Nat.le_refl _) (memO c tv pv 32)
  have e0 : (w.alloc (memO c tv pv 32)).heap.size = w.heap.size + 1 := by simp
  have hR := heap_alloc_new (w.alloc (memO c tv pv 32)) (memO 0 (.slice none 0 0) (.slice none 0 0) 32)
  rw [e0] at hR
  exact ⟨k0.alloc k0.size _, by simp, alloc_block _ (heap_alloc_new w _), hR⟩

end Go.Proofs.YtonpbmeekgdilaaGreat

/-
  The state of a function that works in a memory of its own: its parameter's block, its answer's, and the memory (spec, chapter 6).
-/
namespace Go.Proofs.YtonpbmeekgdilaaGreat
open Go.RowKit Go.Joins
set_option linter.unusedVariables false

theorem OpenMem.answer {w : World} {B R pg pc : Nat} {tv : Value} {V : Nat → Value} {M : Me} {cR : Array Value} (h : OpenMem w B tv pg pc V M) (hR : w.heap[R]? = some (.cells cR 32 (0, 0))) (x y z : Value) :
    OpenMem (((w.setCell ⟨R, 0, none⟩ x).setCell ⟨R, 1, none⟩ y).setCell ⟨R, 2, none⟩ z) B tv pg pc V M := h.other hR (by decide) (by decide) (by decide) (fun _ hy => heap_set3 w R x y z hy)

/-- what a call answered, its lists' lengths and its clock as they are told elsewhere -/
theorem InMe.form {B k : Nat} {c : Int} {pn : Nat} {M : Me} {w w' : World} {e : Ending} (h : InMe B M w e w') (hc : M.c = c) (hp : M.pn = pn) (hk : k < pn) :
    ∃ tv pg pc V, e = .returned (meV c tv (.slice (some ⟨pg, 0, none⟩) pn pc)) ∧ OpenMem w' B tv pg pc V M ∧ Wk B w w' := by
  subst hc hp
  obtain ⟨tv, pv, e1, ho, hw⟩ := h
  obtain ⟨pg, pc, V, rfl, hp2⟩ := ho.openP hk
  exact ⟨tv, pg, pc, V, e1, hp2, hw⟩
theorem InMe.formT {B k t : Nat} {c : Int} {pn tn : Nat} {M : Me} {w w' : World} {e : Ending} (h : InMe B M w e w') (hc : M.c = c) (hp : M.pn = pn) (hn : M.tn = tn) (hk : k < pn) (ht : t < tn) :
    ∃ tg tc pg pc V, e = .returned (meV c (.slice (some ⟨tg, 0, none⟩) tn tc) (.slice (some ⟨pg, 0, none⟩) pn pc)) ∧ OpenMem w' B (.slice (some ⟨tg, 0, none⟩) tn tc) pg pc V M ∧ Wk B w w' := by
  subst hc hp hn
  obtain ⟨tv, pv, e1, ho, hw⟩ := h
  obtain ⟨pg, pc, V, rfl, hp2⟩ := ho.openP hk
  obtain ⟨tg, tc, rfl, _⟩ := hp2.tms ht
  exact ⟨tg, tc, pg, pc, V, e1, hp2, hw⟩

structure MSt (w0 w : World) (B : Nat) (c : Int) (tv : Value) (pg pn pc : Nat) (V : Nat → Value) (M : Me) : Prop where
  o : OpenMem w B tv pg pc V M
  k : Wk B w0 w
  a : w.heap[w0.heap.size]? = some (memO c tv (.slice (some ⟨pg, 0, none⟩) pn pc) 32)
  r : w.heap[w0.heap.size + 1]? = some (memO 0 (.slice none 0 0) (.slice none 0 0) 32)
  b : B ≤ w0.heap.size
  ec : M.c = c
  ep : M.pn = pn
theorem MSt.start {B pg pc : Nat} {tv : Value} {V : Nat → Value} {M : Me} {w : World} (hB : B ≤ w.heap.size) (h : OpenMem w B tv pg pc V M) :
    ∃ wq, RowKit.Hid (wq = (w.alloc (memO M.c tv (.slice (some ⟨pg, 0, none⟩) M.pn pc) 32)).alloc (memO 0 (.slice none 0 0) (.slice none 0 0) 32)) ∧ MSt w wq B M.c tv pg M.pn pc V M := by
  obtain ⟨k1, e1, hA, hR⟩ := twoM_is hB M.c tv (.slice (some ⟨pg, 0, none⟩) M.pn pc)
  exact ⟨_, Lib.hid rfl, h.below k1, Wk.of_new k1 hB, hA, hR, hB, rfl, rfl⟩
section
variable {w0 w w' : World} {B pg pn pc : Nat} {c : Int} {tv : Value} {V : Nat → Value} {M : Me}
theorem MSt.size (h : MSt w0 w B c tv pg pn pc V M) : w0.heap.size + 1 < w.heap.size ∧ B ≤ w.heap.size := by
  have := lt_of_block h.r
  have := h.b
  exact ⟨by omega, by omega⟩
theorem MSt.own (h : MSt w0 w B c tv pg pn pc V M) : OwnMem w B tv (.slice (some ⟨pg, 0, none⟩) pn pc) M := by
  have e := h.ep
  subst e
  exact h.o.own
/-- what is read and written of the two blocks -/
theorem MSt.cells (h : MSt w0 w B c tv pg pn pc V M) :
    (w.cell? ⟨w0.heap.size, 0, none⟩ = some (.int .i64 c) ∧ w.cell? ⟨w0.heap.size, 1, none⟩ = some tv ∧ w.cell? ⟨w0.heap.size, 2, none⟩ = some (.slice (some ⟨pg, 0, none⟩) pn pc) ∧ w.frozen? ⟨w0.heap.size, 0, none⟩ = false ∧ w.frozen? ⟨w0.heap.size, 1, none⟩ = false ∧ w.frozen? ⟨w0.heap.size, 2, none⟩ = false) ∧
    (w.cell? ⟨w0.heap.size + 1, 0, none⟩ = some (.int .i64 0) ∧ w.cell? ⟨w0.heap.size + 1, 1, none⟩ = some (.slice none 0 0) ∧ w.cell? ⟨w0.heap.size + 1, 2, none⟩ = some (.slice none 0 0) ∧ w.frozen? ⟨w0.heap.size + 1, 0, none⟩ = false ∧ w.frozen? ⟨w0.heap.size + 1, 1, none⟩ = false ∧ w.frozen? ⟨w0.heap.size + 1, 2, none⟩ = false) :=
  ⟨three h.a, three h.r⟩
theorem MSt.setT {tg n tc : Nat} (h : MSt w0 w B c (.slice (some ⟨tg, 0, none⟩) n tc) pg pn pc V M) {t : Nat} (j : Nat) (ht : t < M.tn) (hj : j < 8) (x : Int) :
    ∃ wq, RowKit.Hid (wq = w.setCell ⟨tg, t * 8 + j, none⟩ (.int .i64 x)) ∧ MSt w0 wq B c (.slice (some ⟨tg, 0, none⟩) n tc) pg pn pc V (setTm M t j x) := by
  have hn := h.o.t.len
  subst hn
  obtain ⟨cs, hcs⟩ := h.o.t.at.hh
  exact ⟨_, Lib.hid rfl, h.o.setT ht hj x, h.k.set hcs h.o.t.at.1 (by decide) _ _, (heap_set1 w tg _ _ _ (ne_ty h.a hcs (by decide))).trans h.a, (heap_set1 w tg _ _ _ (ne_ty h.r hcs (by decide))).trans h.r, h.b, h.ec, h.ep⟩
theorem MSt.setT0 {tg n tc : Nat} (h : MSt w0 w B c (.slice (some ⟨tg, 0, none⟩) n tc) pg pn pc V M) {t : Nat} (ht : t < M.tn) (x : Int) :
    ∃ wq, RowKit.Hid (wq = w.setCell ⟨tg, t * 8, none⟩ (.int .i64 x)) ∧ MSt w0 wq B c (.slice (some ⟨tg, 0, none⟩) n tc) pg pn pc V (setTm M t 0 x) := h.setT 0 ht (by decide) x
theorem MSt.setP (h : MSt w0 w B c tv pg pn pc V M) {k : Nat} (j : Nat) (hk : k < M.pn) (hj : j = 1 ∨ j = 2 ∨ j = 3) (x : Int) :
    ∃ wq, RowKit.Hid (wq = w.setCell ⟨pg, k * 4 + j, none⟩ (.int .i64 x)) ∧ MSt w0 wq B c tv pg pn pc V (setPc M k j x) := by
  obtain ⟨cs, hcs⟩ := h.o.l.hh
  exact ⟨_, Lib.hid rfl, h.o.setP hk hj x, h.k.set hcs h.o.l.1 (by decide) _ _, (heap_set1 w pg _ _ _ (ne_ty h.a hcs (by decide))).trans h.a, (heap_set1 w pg _ _ _ (ne_ty h.r hcs (by decide))).trans h.r, h.b, h.ec, h.ep⟩
/-- what a call answered comes into the parameter's block -/
theorem MSt.call {pg' pc' : Nat} {tv' : Value} {V' : Nat → Value} {M' : Me} (h : MSt w0 w B c tv pg pn pc V M) (ho : OpenMem w' B tv' pg' pc' V' M') (hk : Wk B w w') (hc : M'.c = c) (hp : M'.pn = pn) :
    ∃ wq, RowKit.Hid (wq = ((w'.setCell ⟨w0.heap.size, 0, none⟩ (.int .i64 c)).setCell ⟨w0.heap.size, 1, none⟩ tv').setCell ⟨w0.heap.size, 2, none⟩ (.slice (some ⟨pg', 0, none⟩) pn pc')) ∧ MSt w0 wq B c tv' pg' pn pc' V' M' := by
  have hA := hk.kept h.a (by decide)
  exact ⟨_, Lib.hid rfl, ho.answer hA _ _ _, (h.k.trans hk).setNew3 h.b (Nat.le_refl _) _ _ _, block_set3 hA, (heap_set3 w' w0.heap.size _ _ _ (by omega)).trans (hk.kept h.r (by decide)), h.b, hc, hp⟩
theorem MSt.below (h : MSt w0 w B c tv pg pn pc V M) (hb : Below w.heap.size w w') : MSt w0 w' B c tv pg pn pc V M :=
  ⟨h.o.below hb, h.k.new hb h.b, b_block hb h.a (lt_of_block h.a), b_block hb h.r (lt_of_block h.r), h.b, h.ec, h.ep⟩
theorem MSt.drew (h : MSt w0 w B c tv pg pn pc V M) : MSt w0 w.drew B c tv pg pn pc V M := h.below (Below.refl _ w).drew
/-- the memory of a processor's cells in the blocks after a call -/
theorem MSt.blockA (h : MSt w0 w B c tv pg pn pc V M) (hk : Wk B w w') : (w'.cell? ⟨w0.heap.size, 0, none⟩ = some (.int .i64 c) ∧ w'.cell? ⟨w0.heap.size, 1, none⟩ = some tv ∧ w'.cell? ⟨w0.heap.size, 2, none⟩ = some (.slice (some ⟨pg, 0, none⟩) pn pc) ∧ w'.frozen? ⟨w0.heap.size, 0, none⟩ = false ∧ w'.frozen? ⟨w0.heap.size, 1, none⟩ = false ∧ w'.frozen? ⟨w0.heap.size, 2, none⟩ = false) ∧ (w'.cell? ⟨w0.heap.size + 1, 0, none⟩ = some (.int .i64 0) ∧ w'.cell? ⟨w0.heap.size + 1, 1, none⟩ = some (.slice none 0 0) ∧ w'.cell? ⟨w0.heap.size + 1, 2, none⟩ = some (.slice none 0 0) ∧ w'.frozen? ⟨w0.heap.size + 1, 0, none⟩ = false ∧ w'.frozen? ⟨w0.heap.size + 1, 1, none⟩ = false ∧ w'.frozen? ⟨w0.heap.size + 1, 2, none⟩ = false) :=
  ⟨three (hk.kept h.a (by decide)), three (hk.kept h.r (by decide))⟩
/-- a timer's numbers -/
theorem MSt.tcells {tg n tc : Nat} (h : MSt w0 w B c (.slice (some ⟨tg, 0, none⟩) n tc) pg pn pc V M) {t : Nat} (ht : t < M.tn) {T : Tm} (hT : M.t t = T) :
    (w.cell? ⟨tg, t * 8, none⟩ = some (.int .i64 T.st) ∧ w.cell? ⟨tg, t * 8 + 1, none⟩ = some (.int .i64 T.wh) ∧ w.cell? ⟨tg, t * 8 + 2, none⟩ = some (.int .i64 T.nx) ∧ w.cell? ⟨tg, t * 8 + 3, none⟩ = some (.int .i64 T.pe) ∧ w.cell? ⟨tg, t * 8 + 4, none⟩ = some (.int .i64 T.pl) ∧ w.cell? ⟨tg, t * 8 + 5, none⟩ = some (.int .i64 T.ge) ∧ w.cell? ⟨tg, t * 8 + 6, none⟩ = some (.int .i64 T.ki) ∧ w.cell? ⟨tg, t * 8 + 7, none⟩ = some (.int .i64 T.ma)) ∧
    ∀ o, w.frozen? ⟨tg, o, none⟩ = false := by
  have hn := h.o.t.len
  subst hn hT
  have hc := h.o.t.at.cells ht
  exact ⟨⟨hc 0 (by decide), hc 1 (by decide), hc 2 (by decide), hc 3 (by decide), hc 4 (by decide), hc 5 (by decide), hc 6 (by decide), hc 7 (by decide)⟩, h.o.t.at.free⟩
/-- a processor's cells -/
theorem MSt.pcells (h : MSt w0 w B c tv pg pn pc V M) {k : Nat} (hk : k < M.pn) {p : Pc} (hp : M.p k = p) :
    (∃ a c', V k = .slice a p.n c' ∧ w.cell? ⟨pg, k * 4, none⟩ = some (.slice a p.n c')) ∧ (w.cell? ⟨pg, k * 4 + 1, none⟩ = some (.int .i64 p.l) ∧ w.cell? ⟨pg, k * 4 + 2, none⟩ = some (.int .i64 p.e) ∧ w.cell? ⟨pg, k * 4 + 3, none⟩ = some (.int .i64 p.d)) ∧ ∀ o, w.frozen? ⟨pg, o, none⟩ = false := by
  subst hp
  obtain ⟨p0, p1, p2, p3⟩ := h.o.l.cells hk
  obtain ⟨a, c', e⟩ := (h.o.h.1 k hk).value
  exact ⟨⟨a, c', e, by rw [← e]; exact p0⟩, ⟨p1, p2, p3⟩, h.o.l.free⟩
/-- a slot's cells: of the processor k the slot i -/
theorem MSt.slot (h : MSt w0 w B c tv pg pn pc V M) {k i : Nat} (hk : k < M.pn) (hi : i < (M.p k).n) :
    ∃ g c', w.cell? ⟨pg, k * 4, none⟩ = some (.slice (some ⟨g, 0, none⟩) (M.p k).n c') ∧ w.cell? ⟨g, i * 2, none⟩ = some (.int .i64 ((M.p k).f i).1) ∧ w.cell? ⟨g, i * 2 + 1, none⟩ = some (.int .i64 ((M.p k).f i).2) := by
  rcases h.o.h.1 k hk with ⟨h0, _⟩ | ⟨g, c', e, hO⟩
  · omega
  · exact ⟨g, c', by rw [← e]; exact (h.o.l.cells hk).1, (hO.cells hi).1, (hO.cells hi).2⟩
/-- the answer, out of its block -/
theorem MSt.ret (h : MSt w0 w B c tv pg pn pc V M) (x y z : Value) :
    InMe B M w0 (.returned (meV c tv (.slice (some ⟨pg, 0, none⟩) pn pc))) (((w.setCell ⟨w0.heap.size + 1, 0, none⟩ x).setCell ⟨w0.heap.size + 1, 1, none⟩ y).setCell ⟨w0.heap.size + 1, 2, none⟩ z) := by
  have e1 := h.ec
  have e2 := h.ep
  subst e1 e2
  exact ⟨_, _, rfl, (h.o.answer h.r x y z).own, h.k.setNew3 h.b (Nat.le_succ _) x y z⟩
theorem MSt.retB (h : MSt w0 w B c tv pg pn pc V M) (b : Bool) (x y z : Value) :
    InMeB B M b w0 (.returned (.tuple #[meV c tv (.slice (some ⟨pg, 0, none⟩) pn pc), .bool b])) (((w.setCell ⟨w0.heap.size + 1, 0, none⟩ x).setCell ⟨w0.heap.size + 1, 1, none⟩ y).setCell ⟨w0.heap.size + 1, 2, none⟩ z) := by
  obtain ⟨tv', pv', e, ho, hk⟩ := h.ret x y z
  injection e with e
  injection e with e
  have e1 := congrArg (fun a : Array Value => a[1]?) e
  have e2 := congrArg (fun a : Array Value => a[2]?) e
  simp at e1 e2
  subst e1 e2
  have e1 := h.ec
  subst e1
  exact ⟨_, _, rfl, ho, hk⟩
theorem MSt.retI (h : MSt w0 w B c tv pg pn pc V M) (i : Int) (x y z : Value) :
    InMeI B M i w0 (.returned (.tuple #[meV c tv (.slice (some ⟨pg, 0, none⟩) pn pc), .int .i64 i])) (((w.setCell ⟨w0.heap.size + 1, 0, none⟩ x).setCell ⟨w0.heap.size + 1, 1, none⟩ y).setCell ⟨w0.heap.size + 1, 2, none⟩ z) := by
  obtain ⟨tv', pv', e, ho, hk⟩ := h.ret x y z
  injection e with e
  injection e with e
  have e1 := congrArg (fun a : Array Value => a[1]?) e
  have e2 := congrArg (fun a : Array Value => a[2]?) e
  simp at e1 e2
  subst e1 e2
  have e1 := h.ec
  subst e1
  exact ⟨_, _, rfl, ho, hk⟩
/-- the same, where the answer is what a call answered -/
theorem MSt.retCallB {tv' pv' : Value} {M' : Me} (h : MSt w0 w B c tv pg pn pc V M) (ho : OwnMem w' B tv' pv' M') (hk : Wk B w w') (b : Bool) (x y z : Value) :
    InMeB B M' b w0 (.returned (.tuple #[meV M'.c tv' pv', .bool b])) (((w'.setCell ⟨w0.heap.size + 1, 0, none⟩ x).setCell ⟨w0.heap.size + 1, 1, none⟩ y).setCell ⟨w0.heap.size + 1, 2, none⟩ z) :=
  ⟨_, _, rfl, ho.answer (hk.kept h.r (by decide)) x y z, (h.k.trans hk).setNew3 h.b (Nat.le_succ _) x y z⟩
end

end Go.Proofs.YtonpbmeekgdilaaGreat
