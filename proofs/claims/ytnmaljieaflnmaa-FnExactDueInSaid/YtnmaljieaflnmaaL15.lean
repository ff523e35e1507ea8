/-
  A memory as the program works with it (chapter 5): shown, later, new: Elapsed and NewMem.
-/
import Derived.Test.YtnmaljieaflnmaaL13
import Derived.Test.YtnmaljieaflnmaaL14
import Derived.Test.YtnmaljieaflnmaaL06
import Derived.Test.YtnmaljieaflnmaaL05
import Derived.Test.YtnmaljieaflnmaaL11
import Derived.Test.YtnmaljieaflnmaaL03
namespace Go.Proofs.Ytnmaljieaflnmaa
open Go.RowKit Go.Joins
set_option linter.unusedVariables false

set_option maxRecDepth 100000 in
set_option maxHeartbeats 1000000 in
theorem pxShown_any {v : Value} {n : Nat} (l e d : Int) {w : World} (hv : ∃ a cap, v = .slice a n cap) :
    Calls Try.prog 106 #[pxV v l e d] w fun x w' => x = .returned (prV v l e d) ∧ Below w.heap.size w w' := by
  obtain ⟨a, cap, rfl⟩ := hv
  have k0 := (Below.refl w.heap.size w).alloc (Nat.le_refl _) (pxB (.slice a n cap) l e d)
  have hR := heap_alloc_new (w.alloc (pxB (.slice a n cap) l e d)) (.cells #[.slice a n cap, .int .i64 l, .int .i64 e, .int .i64 d] 28)
  rw [show (w.alloc (pxB (.slice a n cap) l e d)).heap.size = w.heap.size + 1 by simp] at hR
  obtain ⟨r0, r1, r2, r3, _, _, _, _⟩ := four hR
  go_enter Try.func106, Try.ntmps106
  go_wp2
  exact bodyPost_ret (v := prV (.slice a n cap) l e d) (by simp [results, Try.results106, go_sem, r0, r1, r2, r3]) rfl ⟨rfl, k0.alloc k0.size _⟩

abbrev madeP (n : Nat) : Obj := .cells (madeCells #[.slice none 0 0, .int .i64 0, .int .i64 0, .int .i64 0] (n * 4)) 28

set_option maxRecDepth 100000 in
set_option maxHeartbeats 8000000 in
theorem memShown_any {B mb : Nat} {a b c : Int} {M : Me} {w : World} (hs : sizeM M ≤ 1048576) (hB : B ≤ w.heap.size) (h : OwnedAt w B mb a b c M) :
    Calls Try.prog 74 #[ptrV mb] w fun x w' => ∃ tv pv, x = .returned (meV M.c tv pv) ∧ OwnMem w' B tv pv M ∧ Below w.heap.size w w' := by
  obtain ⟨htn, hpn, hsl, hns⟩ := sizeM_le hs
  obtain ⟨tv, g, V, hmB, hM, hT, hL, hH⟩ := h
  obtain ⟨ta, tc, htv⟩ := hT.row.form
  subst htv
  have hmk := run_make_procs M.pn hpn
  have lM := lt_of_block hM
  have e0 : (w.alloc (memO 0 (.slice none 0 0) (.slice none 0 0) 54)).heap.size = w.heap.size + 1 := by simp
  have k0 := (Below.refl w.heap.size w).alloc (Nat.le_refl _) (memO 0 (.slice none 0 0) (.slice none 0 0) 54)
  have hR := alloc_block (madeP M.pn) (heap_alloc_new w (memO 0 (.slice none 0 0) (.slice none 0 0) 54))
  have k1 := k0.alloc k0.size (madeP M.pn)
  have hN := (list_made (w.alloc (memO 0 (.slice none 0 0) (.slice none 0 0) 54)) M.pn (by unfold maxLen; omega)).congr (Q := upToP M.p 0) (U := fun _ => .slice none 0 0) (fun i hi => by simp [upToP]) (fun _ _ => rfl)
  rw [e0] at hN
  have HM := Lib.hid hM
  have HL := Lib.hid hL
  have HH := Lib.hid hH
  have HT := Lib.hid hT
  obtain ⟨m0, m1, m2, m3, m4, m5⟩ := six (b_block k0 hM lM)
  obtain ⟨n0, n1, n2, n3, n4, n5⟩ := six (b_block k1 hM lM)
  clear hM hL hH hT hns hsl
  go_enter Try.func74, Try.ntmps74
  go_wp2_with fail
  generalize (w.alloc (memO 0 (.slice none 0 0) (.slice none 0 0) 54)).alloc (madeP M.pn) = w2 at k1 hR hN n0 n1 n2 n3 n4 n5 ⊢
  clear m0 m1 m2 m3 m4 m5 k0 hmk e0
  go_wp2_with fail
  clear n0 n1 n2 n3 n4 n5
  go_loopw [17] (fun i wr => ∃ (k : Nat) (U : Nat → Value), k ≤ M.pn ∧ i = .int .i64 k ∧ wr.heap[w.heap.size]? = some (memO 0 (.slice none 0 0) (.slice none 0 0) 54) ∧ ListAt wr (w.heap.size + 1) (w.heap.size + 1) M.pn M.pn (upToP M.p k) U ∧ (∀ i, i < k → U i = V i) ∧ Below w.heap.size w wr) (fun i _ => M.pn - (intOf i).toNat)
  case atStart => exact ⟨0, _, Nat.zero_le _, rfl, hR, hN, fun i hi => absurd hi (Nat.not_lt_zero _), k1⟩
  case round =>
    clear hR hN k1
    obtain ⟨k, U, hk, rfl, hR, hN, hU, kw⟩ := hrel
    obtain ⟨n0, n1, n2, n3, n4, n5⟩ := six (b_block kw HM.out lM)
    by_cases hlt : k < M.pn
    · have i1 : (k : Int) < (M.pn : Int) := by omega
      have i0 : (0 : Int) ≤ (k : Int) := by omega
      have hO := HH.out.1 k hlt
      obtain ⟨oa, oc, ho⟩ := hO.value
      have hLr := HL.out.below kw
      obtain ⟨d0, d1, d2, d3⟩ := hLr.cells hlt
      rw [ho] at d1
      have hNa := hN.below ((Below.refl wr.heap.size wr).alloc (Nat.le_refl _) (pxB (.slice oa (M.p k).n oc) (M.p k).l (M.p k).e (M.p k).d))
      have hRa := alloc_block (pxB (.slice oa (M.p k).n oc) (M.p k).l (M.p k).e (M.p k).d) hR
      have ka := kw.alloc kw.size (pxB (.slice oa (M.p k).n oc) (M.p k).l (M.p k).e (M.p k).d)
      have hX := heap_alloc_new wr (pxB (.slice oa (M.p k).n oc) (M.p k).l (M.p k).e (M.p k).d)
      obtain ⟨x0, x1, x2, x3, _, _, _, _⟩ := four hX
      go_wp2_with fail
      go_at_call 106; refine (pxShown_any _ _ _ ⟨_, _, rfl⟩).mono ?_; rintro x w5 ⟨rfl, hb⟩
      have hN5 := hNa.below hb
      have hR5 := b_block hb hRa (lt_of_block hRa)
      have k5 := ka.trans (hb.mono ka.size)
      have fr := hN5.free
      have f0 := fr (k * 4); have f1 := fr (k * 4 + 1); have f2 := fr (k * 4 + 2); have f3 := fr (k * 4 + 3)
      obtain ⟨c0, c1, c2, c3⟩ := hN5.cells hlt
      have hNn := (hN5.put hlt (.slice oa (M.p k).n oc) (M.p k)).congr (upToP_put (P := M.p)) (fun _ _ => rfl)
      have hRn := (heap_setP w5 (w.heap.size + 1) k (.slice oa (M.p k).n oc) (M.p k).l (M.p k).e (M.p k).d (x := w.heap.size) (by omega)).trans hR5
      have kn := b_setP k5 (g := w.heap.size + 1) (by omega) k (.slice oa (M.p k).n oc) (M.p k).l (M.p k).e (M.p k).d
      have hUn : ∀ i, i < k + 1 → putV U k (.slice oa (M.p k).n oc) i = V i := fun i hi => by
        by_cases e : i = k
        · subst e; rw [putV_same, ho]
        · rw [putV_other U _ e]; exact hU i (by omega)
      clear hb fr d0 d1 d2 d3 x0 x1 x2 x3 n0 n1 n2 n3 n4 n5 hN5 hR5 hNa hRa ka k5 hX
      go_wp2
      exact ⟨⟨k + 1, _, by omega, by go_num, hRn, hNn, hUn, kn⟩, by simp only [intOf]; omega⟩
    · have hkn : k = M.pn := by omega
      subst hkn
      have i1 : ¬ (M.pn : Int) < (M.pn : Int) := by omega
      have hNf := hN.congr (Q := M.p) (U := V) (fun i hi => by simp [upToP, hi]) (fun i hi => hU i hi)
      have lR := lt_of_block hR
      have ks := b_set3 kw (Nat.le_refl _) (.int .i64 M.c) (.slice ta M.tn tc) (.slice (some ⟨w.heap.size + 1, 0, none⟩) M.pn M.pn)
      have hTf := HT.out.below kw
      have hHf := HH.out.below kw
      obtain ⟨r0, r1, r2, rf0, rf1, rf2⟩ := three hR
      go_wp2_with fail
      go_region
      have hTn := hTf.other (w' := (((wr.setCell ⟨w.heap.size, 0, none⟩ (.int .i64 M.c)).setCell ⟨w.heap.size, 1, none⟩ (.slice ta M.tn tc)).setCell ⟨w.heap.size, 2, none⟩ (.slice (some ⟨w.heap.size + 1, 0, none⟩) M.pn M.pn)).drew) hR (by decide) (fun y hy => heap_set3 wr _ _ _ _ hy)
      have hHn : HeapsAt (((wr.setCell ⟨w.heap.size, 0, none⟩ (.int .i64 M.c)).setCell ⟨w.heap.size, 1, none⟩ (.slice ta M.tn tc)).setCell ⟨w.heap.size, 2, none⟩ (.slice (some ⟨w.heap.size + 1, 0, none⟩) M.pn M.pn)).drew B M.pn M.p V :=
        hHf.other (fun i hi x hx => heap_set3 wr _ _ _ _ (own_ne (hHf.1 i hi) hR (by decide) x hx))
      have hLn : ListAt (((wr.setCell ⟨w.heap.size, 0, none⟩ (.int .i64 M.c)).setCell ⟨w.heap.size, 1, none⟩ (.slice ta M.tn tc)).setCell ⟨w.heap.size, 2, none⟩ (.slice (some ⟨w.heap.size + 1, 0, none⟩) M.pn M.pn)).drew B (w.heap.size + 1) M.pn M.pn M.p V :=
        (hNf.mono (by omega)).block (heap_set3 wr w.heap.size _ _ _ (by omega))
      have hRn : (((wr.setCell ⟨w.heap.size, 0, none⟩ (.int .i64 M.c)).setCell ⟨w.heap.size, 1, none⟩ (.slice ta M.tn tc)).setCell ⟨w.heap.size, 2, none⟩ (.slice (some ⟨w.heap.size + 1, 0, none⟩) M.pn M.pn)).drew.heap[w.heap.size]? = some (memO M.c (.slice ta M.tn tc) (.slice (some ⟨w.heap.size + 1, 0, none⟩) M.pn M.pn) 54) := block_set3 hR
      have kn := ks.drew
      clear r0 r1 r2 rf0 rf1 rf2
      obtain ⟨r0, r1, r2, _, _, _⟩ := three hRn
      generalize (((wr.setCell ⟨w.heap.size, 0, none⟩ (.int .i64 M.c)).setCell ⟨w.heap.size, 1, none⟩ (.slice ta M.tn tc)).setCell ⟨w.heap.size, 2, none⟩ (.slice (some ⟨w.heap.size + 1, 0, none⟩) M.pn M.pn)).drew = wz at hTn hHn hLn r0 r1 r2 kn ⊢
      go_wp2
      exact bodyPost_ret (v := meV M.c (.slice ta M.tn tc) (.slice (some ⟨w.heap.size + 1, 0, none⟩) M.pn M.pn)) (by simp [results, Try.results74, go_sem, r0, r1, r2]) rfl ⟨_, _, rfl, ⟨hTn, .inr ⟨_, _, V, rfl, hLn, hHn⟩⟩, kn⟩

end Go.Proofs.Ytnmaljieaflnmaa

/-
  A memory as the program works with it (chapter 5): a new one: NewMem.
-/
namespace Go.Proofs.Ytnmaljieaflnmaa
open Go.RowKit Go.Joins
set_option linter.unusedVariables false

def upToN (k : Nat) : Pcs := fun i => if i < k then newP i else pc0
theorem upToN_put {k : Nat} : ∀ i, putP (upToN k) k ⟨0, fun _ => (0, 0), -1, -1, 0⟩ i = upToN (k + 1) i := by
  intro i
  unfold putP upToN
  by_cases e : i = k
  · subst e; rw [if_pos rfl, if_pos (by omega)]; rfl
  · rw [if_neg e]
    by_cases h : i < k
    · rw [if_pos h, if_pos (by omega)]
    · rw [if_neg h, if_neg (by omega)]

set_option maxRecDepth 100000 in
set_option maxHeartbeats 4000000 in
theorem newMemory_any (n : Nat) (b c : Int) (hp : planB n b c = true) (w : World) :
    Calls Try.prog 73 #[.agg #[.int .i64 n, .int .i64 b, .int .i64 c]] w fun x w' => ∃ mb, x = .returned (ptrV mb) ∧ OwnedAt w' w.heap.size mb n b c ⟨0, 0, fun _ => tm0, n, newP⟩ ∧ Below w.heap.size w w' := by
  have hbd := planB_iff.1 hp
  have hn : n ≤ 1048576 := by omega
  have hmk := run_make_px n hn
  have k0 := (Below.refl w.heap.size w).alloc (Nat.le_refl _) (.cells #[.int .i64 n, .int .i64 b, .int .i64 c] 25)
  have e0 : (w.alloc (.cells #[.int .i64 n, .int .i64 b, .int .i64 c] 25)).heap.size = w.heap.size + 1 := by simp
  have hP := heap_alloc_new w (.cells #[.int .i64 n, .int .i64 b, .int .i64 c] 25)
  have k1 := k0.alloc k0.size (madeX n)
  have hL := (listx_made (w.alloc (.cells #[.int .i64 n, .int .i64 b, .int .i64 c] 25)) n (by unfold maxLen; omega)).congr (Q := upToN 0) (U := fun _ => .slice none 0 0) (fun i hi => by simp [upToN]) (fun _ _ => rfl)
  rw [e0] at hL
  have e1 : ((w.alloc (.cells #[.int .i64 n, .int .i64 b, .int .i64 c] 25)).alloc (madeX n)).heap.size = w.heap.size + 1 + 1 := by simp
  have k2 := k1.alloc k1.size (memB n b c 0 (.slice none 0 0) (.slice (some ⟨w.heap.size + 1, 0, none⟩) n n))
  have hL2 := hL.below ((Below.refl _ _).alloc (Nat.le_refl _) (memB n b c 0 (.slice none 0 0) (.slice (some ⟨w.heap.size + 1, 0, none⟩) n n)))
  have hM := heap_alloc_new ((w.alloc (.cells #[.int .i64 n, .int .i64 b, .int .i64 c] 25)).alloc (madeX n)) (memB n b c 0 (.slice none 0 0) (.slice (some ⟨w.heap.size + 1, 0, none⟩) n n))
  rw [e1] at hM
  obtain ⟨p0, p1, p2, _, _, _⟩ := three hP
  go_enter Try.func73, Try.ntmps73
  go_wp2_with fail
  go_region
  have hM4 : (((w.alloc (.cells #[.int .i64 n, .int .i64 b, .int .i64 c] 25)).alloc (madeX n)).alloc (memB n b c 0 (.slice none 0 0) (.slice (some ⟨w.heap.size + 1, 0, none⟩) n n))).drew.heap[w.heap.size + 1 + 1]? = some (memB n b c 0 (.slice none 0 0) (.slice (some ⟨w.heap.size + 1, 0, none⟩) n n)) := hM
  have hL4 : ListXAt (((w.alloc (.cells #[.int .i64 n, .int .i64 b, .int .i64 c] 25)).alloc (madeX n)).alloc (memB n b c 0 (.slice none 0 0) (.slice (some ⟨w.heap.size + 1, 0, none⟩) n n))).drew (w.heap.size + 1) (w.heap.size + 1) n n (upToN 0) (fun _ => .slice none 0 0) := hL2
  have k4 := k2.drew
  clear hM hL2 k2 hL k1 k0 e0 e1 hP p0 p1 p2 hmk
  generalize (((w.alloc (.cells #[.int .i64 n, .int .i64 b, .int .i64 c] 25)).alloc (madeX n)).alloc (memB n b c 0 (.slice none 0 0) (.slice (some ⟨w.heap.size + 1, 0, none⟩) n n))).drew = wz at hM4 hL4 k4 ⊢
  obtain ⟨m0, m1, m2, m3, m4, m5⟩ := six hM4
  go_wp2_with fail
  clear m0 m1 m2 m3 m4 m5
  go_loopw [16] (fun i wr => ∃ (k : Nat) (V : Nat → Value), k ≤ n ∧ i = .int .i64 k ∧ wr.heap[w.heap.size + 1 + 1]? = some (memB n b c 0 (.slice none 0 0) (.slice (some ⟨w.heap.size + 1, 0, none⟩) n n)) ∧ ListXAt wr (w.heap.size + 1) (w.heap.size + 1) n n (upToN k) V ∧ (∀ i, i < k → V i = .slice none 0 0) ∧ Below w.heap.size w wr) (fun i _ => n - (intOf i).toNat)
  case atStart => exact ⟨0, _, Nat.zero_le _, rfl, hM4, hL4, fun i hi => absurd hi (Nat.not_lt_zero _), k4⟩
  case round =>
    clear hM4 hL4 k4
    obtain ⟨k, V, hk, rfl, hM, hL, hV, kw⟩ := hrel
    obtain ⟨m0, m1, m2, m3, m4, m5⟩ := six hM
    by_cases hlt : k < n
    · have i1 : (k : Int) < (n : Int) := by omega
      have i0 : (0 : Int) ≤ (k : Int) := by omega
      have fr := hL.free
      have f0 := fr (k * 4); have f1 := fr (k * 4 + 1); have f2 := fr (k * 4 + 2); have f3 := fr (k * 4 + 3)
      obtain ⟨d0, d1, d2, d3⟩ := hL.cells hlt
      have hLn := (hL.put hlt (.slice none 0 0) ⟨0, fun _ => (0, 0), -1, -1, 0⟩).congr (fun i _ => upToN_put (k := k) i) (fun _ _ => rfl)
      have hMn := (heap_setX wr (w.heap.size + 1) k (.slice none 0 0) (-1) (-1) 0 (x := w.heap.size + 1 + 1) (by omega)).trans hM
      have kn := b_setX kw (g := w.heap.size + 1) (by omega) k (.slice none 0 0) (-1) (-1) 0
      have hVn : ∀ i, i < k + 1 → putV V k (.slice none 0 0) i = .slice none 0 0 := fun i hi => by
        by_cases e : i = k
        · subst e; rw [putV_same]
        · rw [putV_other V _ e]; exact hV i (by omega)
      clear fr hM hL
      go_wp2
      exact ⟨⟨k + 1, _, by omega, by go_num, hMn, hLn, hVn, kn⟩, by simp only [intOf]; omega⟩
    · have hkn : k = n := by omega
      subst hkn
      have i1 : ¬ (k : Int) < (k : Int) := by omega
      have hLf := (hL.mono (B' := w.heap.size) (by omega)).congr (Q := newP) (U := fun _ => .slice none 0 0) (fun i hi => by simp [upToN, hi]) (fun i hi => hV i hi)
      go_wp2
      go_ret
      exact ⟨_, rfl, ⟨_, _, _, by omega, hM, .inl ⟨rfl, rfl⟩, hLf, fun i hi => .inl ⟨rfl, rfl⟩, fun i j hi hj hij x hx => by simp [Value.ownBlock] at hx⟩, kw⟩

set_option maxRecDepth 100000 in
set_option maxHeartbeats 4000000 in
theorem imNewMem_any : AsksNM 27 := by
  intro a b c w
  have k1 := (Below.refl w.heap.size w).alloc (Nat.le_refl _) (.cells #[.int .i64 a, .int .i64 b, .int .i64 c] 25)
  have e1 : (w.alloc (.cells #[.int .i64 a, .int .i64 b, .int .i64 c] 25)).heap.size = w.heap.size + 1 := by simp
  have k2 := k1.alloc k1.size (memO 0 (.slice none 0 0) (.slice none 0 0) 54)
  have hR := heap_alloc_new (w.alloc (.cells #[.int .i64 a, .int .i64 b, .int .i64 c] 25)) (memO 0 (.slice none 0 0) (.slice none 0 0) 54)
  have hP := alloc_block (memO 0 (.slice none 0 0) (.slice none 0 0) 54) (heap_alloc_new w (.cells #[.int .i64 a, .int .i64 b, .int .i64 c] 25))
  rw [e1] at hR
  cases h1 : planB a b c
  · rw [show newM a b c = me0 by rw [newM, h1]; rfl]
    go_enter Try.func27, Try.ntmps27
    go_wp2_with fail
    go_at_call 50; refine (right_any _ _ _ _).mono ?_; rintro x w1 ⟨rfl, hb⟩; rw [h1]
    have hR1 := b_block hb hR (lt_of_block hR)
    have k3 := k2.trans (hb.mono k2.size)
    obtain ⟨r0, r1, r2, rf0, rf1, rf2⟩ := three hR1
    clear hb hP hR
    go_wp2
    exact bodyPost_ret (v := meV 0 (.slice none 0 0) (.slice none 0 0)) (by simp [results, Try.results27, go_sem, r0, r1, r2]) rfl ⟨_, _, rfl, own_me0 _ _, b_set3 k3 (by omega) _ _ _⟩
  · obtain ⟨n, hn⟩ : ∃ n : Nat, a = n := ⟨a.toNat, by have := planB_iff.1 h1; omega⟩
    subst hn
    have hg := sizeM_new n b c
    rw [show newM n b c = ⟨0, 0, fun _ => tm0, n, newP⟩ by rw [newM, h1]; rfl] at hg ⊢
    obtain ⟨N, hN⟩ : ∃ N : Me, N = ⟨0, 0, fun _ => tm0, n, newP⟩ := ⟨_, rfl⟩
    rw [← hN] at hg ⊢
    have HP := Lib.hid h1
    have HNM := Lib.hid (fun (W : World) => by have := newMemory_any n b c h1 W; rw [← hN] at this; exact this)
    have e2 : ((w.alloc (.cells #[.int .i64 (n : Int), .int .i64 b, .int .i64 c] 25)).alloc (memO 0 (.slice none 0 0) (.slice none 0 0) 54)).heap.size = w.heap.size + 1 + 1 := by simp
    clear h1 hN
    go_enter Try.func27, Try.ntmps27
    go_wp2_with fail
    go_at_call 50; refine (right_any _ _ _ _).mono ?_; rintro x w1 ⟨rfl, hb⟩; rw [HP.out]
    have hR1 := b_block hb hR (lt_of_block hR)
    have hP1 := b_block hb hP (lt_of_block hP)
    have k3 := k2.trans (hb.mono k2.size)
    have s1 := hb.size
    rw [e2] at s1
    obtain ⟨p0, p1, p2, _, _, _⟩ := three hP1
    clear hb hP hR
    go_wp2_with fail
    go_at_call 73; refine (HNM.out _).mono ?_; rintro x w2 ⟨mb, rfl, hO, hb⟩
    have hR2 := b_block hb hR1 (lt_of_block hR1)
    have k4 := k3.trans (hb.mono k3.size)
    replace hO := hO.mono (B' := w.heap.size + 1 + 1) s1
    have s2 := hb.size
    clear hb hR1 hP1 p0 p1 p2
    go_wp2_with fail
    go_at_call 74; refine (memShown_any hg (by omega) hO).mono ?_; rintro x w3 ⟨t3, p3, rfl, hO3, hb3⟩
    have hR3 := b_block hb3 hR2 (lt_of_block hR2)
    have k5 := k4.trans (hb3.mono (by omega))
    obtain ⟨ta, tc, pa, pc, ht, hp⟩ := hO3.at.form
    subst ht hp
    clear hR2 hO
    obtain ⟨r0, r1, r2, rf0, rf1, rf2⟩ := three hR3
    go_wp2
    exact bodyPost_ret (v := meV N.c (.slice ta N.tn tc) (.slice pa N.pn pc)) (by simp [results, Try.results27, go_sem, r0, r1, r2]) rfl ⟨_, _, rfl, (hO3.set3 (by omega) _ _ _).mono (by omega), b_set3 k5 (by omega) _ _ _⟩

end Go.Proofs.Ytnmaljieaflnmaa

/-
  The row of FnExactElapsed.
-/
namespace Go.Proofs.Ytnmaljieaflnmaa
open Go.RowKit Go.Joins Go.ChangeShapes Go.WideShapes Go.ChangeAt Go.Deep
set_option linter.unusedVariables false

theorem sizeM_me0 : sizeM me0 ≤ 1048576 := by decide
theorem sizeM_elapsed (a b c d : Int) {M : Me} (h : sizeM M ≤ 1048576) : sizeM (elapsedM a b c d M) ≤ 1048576 := by
  unfold elapsedM
  split
  · exact h
  · exact sizeM_me0

set_option maxRecDepth 100000 in
set_option maxHeartbeats 1000000 in
theorem elapsed_big (a b c d : Int) {tv pv : Value} {M : Me} {w : World} (htn : M.tn ≤ maxLen) (hpn : M.pn ≤ maxLen) (hns : ∀ i, i < M.pn → (M.p i).n ≤ maxLen) (hs : ¬ sizeM M ≤ 1048576) (h : MemAt w tv pv M) :
    Calls Try.prog 7 #[.agg #[.int .i64 a, .int .i64 b, .int .i64 c], meV M.c tv pv, .int .i64 d] w fun x w' => x = .returned (.bool true) ∧ Below w.heap.size w w' := by
  obtain ⟨va, vc, qa, qc, rfl, rfl⟩ := h.form
  have k0 := ((Below.refl w.heap.size w).alloc (Nat.le_refl _) (.cells #[.int .i64 a, .int .i64 b, .int .i64 c] 43)).alloc (by simp) (memO M.c (.slice va M.tn vc) (.slice qa M.pn qc) 47)
  have HSZ := Lib.hid (szMem_big (h.below k0) htn hpn hns 1048576 (by decide) (by decide) (by omega))
  clear h htn hpn hns
  go_enter Try.func7, Try.ntmps7
  go_wp2_with fail
  go_at_call 20; refine HSZ.out.mono ?_; rintro x w1 ⟨rfl, hb⟩
  go_wp2
  go_ret
  exact ⟨rfl, k0.trans (hb.mono k0.size)⟩

set_option maxRecDepth 100000 in
theorem exactElapsed_lifted (hI : AsksMM 31 elapsedM) (os : Os) (started : os.Started) (H : Type) (enc : TypeId × Value → H) :
    ReturnsInHanded {} Try.checked os 7 .any (Rows.fnExactElapsedSpec.pre6 enc Try.prog Try.f7 Rows.fnExactElapsedRow.domain false) (Rows.fnExactElapsedSpec.post enc Try.prog Try.f7 false true false false) := by
  refine returnsInHanded_of_change (C := Try.checked) own started (by kernel_rfl) Try.func7
    (ChangeSpec.witness6 (enc := enc) (C := Try.checked) false ⟨#[], #[.agg #[.int .i64 0, .int .i64 0, .int .i64 0], .agg #[.int .i64 0, .slice none 0 0, .slice none 0 0], .int .i64 0], []⟩ 8 (by kernel_rfl) (by kernel_rfl) (by kernel_rfl) (by kernel_rfl)) ?_
  intro W base args ds gs before hval0 hW _ _
  have hval : ∀ (j : Nat) t v, Try.f7.params[j]? = some t → args[j]? = some v → Value.okWide Try.prog W .any base t v := hval0
  have hW' := hW
  obtain ⟨p, q, hA0, hV, rfl, _, _⟩ := hW
  have hA : DataW.TrodAll enc Try.prog W 0 (fun _ => true) true Try.f7.params.toList args.toList ds p := hA0
  rw [Try.params7] at hA hval
  obtain ⟨v0, v1, v2, d0, d1, d2, p0, p1, p2, rfl, rfl, rfl, h0, h1, h2⟩ := trodAll_three hA
  obtain ⟨rfl, rfl⟩ := trodVars_none hV
  have lt0 : ∀ x ∈ p0, x.block < W.heap.size := by obtain ⟨m, hm⟩ := h0; exact DataW.trod_lt m _ _ _ hm
  have lt1 : ∀ x ∈ p1, x.block < W.heap.size := by obtain ⟨m, hm⟩ := h1; exact DataW.trod_lt m _ _ _ hm
  have lt2 : ∀ x ∈ p2, x.block < W.heap.size := by obtain ⟨m, hm⟩ := h2; exact DataW.trod_lt m _ _ _ hm
  obtain ⟨a, b, c, rfl⟩ := plan_inM (hval 0 43 v0 rfl rfl) h0
  obtain ⟨tv, pv, M, rfl, htn, hpn, hns, hM⟩ := mem_in (hval 1 47 v1 rfl rfl) h1
  obtain ⟨d, rfl, _, _⟩ := open_int Try.underlying2 (hval 2 2 v2 rfl rfl) h2
  clear hA0 hval0
  have key : Calls Try.prog 7 #[.agg #[.int .i64 a, .int .i64 b, .int .i64 c], meV M.c tv pv, .int .i64 d] W fun x w' => x = .returned (.bool true) ∧ Below W.heap.size W w' := by
    by_cases hs : sizeM M ≤ 1048576
    · exact elapsed_small spElapsed_any hI a b c d hs (sizeM_elapsed a b c d hs) hM
    · exact elapsed_big a b c d htn hpn hns hs hM
  refine key.mono fun x W' ⟨he, hb⟩ => ?_
  subst he
  exact ⟨_, rfl, _, _, _, [], _, [], hW', trodAll_mk1 (shut_bool Try.underlying4 _), trodAll_mk3 (Below.trod laidOut (by kernel_rfl) (of_decide_eq_true (by kernel_rfl)) h0 hb lt0) (Below.trod laidOut (by kernel_rfl) (of_decide_eq_true (by kernel_rfl)) h1 hb lt1) (Below.trod laidOut (by kernel_rfl) (of_decide_eq_true (by kernel_rfl)) h2 hb lt2), rfl, hb.frame _, fun h => by cases h⟩

theorem exactElapsed_holds (hI : AsksMM 31 elapsedM) : Rows.FnExactElapsedSaid :=
  OpenClaim.holds_of_wide 7 Try.f7 rfl rfl rfl rfl rfl rfl rfl ⟨rfl, rfl, rfl, rfl, rfl⟩ rfl rfl rfl rfl rfl (by kernel_rfl) Try.func7 (by kernel_rfl)
    (of_decide_eq_true (by kernel_rfl)) (by unfold Func.isWrapper; rw [if_neg (of_decide_eq_false (by kernel_rfl))]; exact ⟨rfl, rfl⟩)
    (fun os started H enc _ => exactElapsed_lifted hI os started H enc)

end Go.Proofs.Ytnmaljieaflnmaa

/-
  A memory as the program works with it (chapter 5): later, and new: Elapsed and NewMem.
-/
namespace Go.Proofs.Ytnmaljieaflnmaa
open Go.RowKit Go.Joins
set_option linter.unusedVariables false

/-- the clock is stored -/
theorem OwnedAt.clock {w : World} {B mb : Nat} {a b c : Int} {M : Me} (h : OwnedAt w B mb a b c M) (x : Int) : OwnedAt (w.setCell ⟨mb, 3, none⟩ (.int .i64 x)) B mb a b c ⟨x, M.tn, M.t, M.pn, M.p⟩ := by
  obtain ⟨tv, g, V, h0, h1, h2, h3, h4⟩ := h
  exact ⟨tv, g, V, h0, block_setCell h1 (i := 3) _, h2.other h1 (by decide) (fun y hy => Below.heap_setCell w ⟨mb, 3, none⟩ _ y hy), h3.block (Below.heap_setCell w ⟨mb, 3, none⟩ _ g (h3.ne_mem h1)),
    h4.other (fun i hi y hy => Below.heap_setCell w ⟨mb, 3, none⟩ _ y (own_ne (h4.1 i hi) h1 (by decide) y hy))⟩

set_option maxRecDepth 100000 in
set_option maxHeartbeats 2000000 in
theorem elapse_any {B mb : Nat} {a b c : Int} {M : Me} {w : World} (h : OwnedAt w B mb a b c M) (d : Int) :
    Calls Try.prog 82 #[ptrV mb, .int .i64 d] w fun x w' => x = .returned (.tuple #[]) ∧ OwnedAt w' B mb a b c ⟨minI (afterI M.c d) 999999999, M.tn, M.t, M.pn, M.p⟩ ∧ Below B w w' := by
  have hn := h.clock (minI (afterI M.c d) 999999999)
  have hB : Below B w (w.setCell ⟨mb, 3, none⟩ (.int .i64 (minI (afterI M.c d) 999999999))) := by
    obtain ⟨tv, g, V, h0, h1, h2, h3, h4⟩ := h
    exact (Below.refl B w).setCell (p := ⟨mb, 3, none⟩) h0 _
  obtain ⟨tv, g, V, h0, h1, h2, h3, h4⟩ := h
  obtain ⟨ta, tc, htv⟩ := h2.row.form
  subst htv
  obtain ⟨m0, m1, m2, m3, m4, m5⟩ := six h1
  have mf := unfrozen_of_block h1 3
  obtain ⟨y, hy⟩ : ∃ y : Int, y = afterI M.c d := ⟨_, rfl⟩
  have HY := Lib.hid hy
  rw [← hy] at hn hB
  clear h1 h2 h3 h4 hy
  by_cases ht : 999999999 < y
  · have e : minI y 999999999 = 999999999 := by unfold minI; rw [if_neg (by omega)]
    rw [← HY.out, e]
    rw [e] at hn hB
    go_enter Try.func82, Try.ntmps82
    go_wp2_with (go_at_call 112; refine (after_any _ _ _).mono ?_; rintro x w1 ⟨rfl, rfl⟩; rw [← HY.out])
    go_end0
    exact ⟨rfl, hn, hB⟩
  · have e : minI y 999999999 = y := by unfold minI; split <;> omega
    rw [← HY.out, e]
    rw [e] at hn hB
    go_enter Try.func82, Try.ntmps82
    go_wp2_with (go_at_call 112; refine (after_any _ _ _).mono ?_; rintro x w1 ⟨rfl, rfl⟩; rw [← HY.out])
    go_end0
    exact ⟨rfl, hn, hB⟩

set_option maxRecDepth 100000 in
set_option maxHeartbeats 4000000 in
theorem imElapsed_any : AsksMM 31 elapsedM := by
  intro a b c d tv pv M w hs h
  obtain ⟨va, vc, qa, qc, rfl, rfl⟩ := h.form
  have k1 := ((Below.refl w.heap.size w).alloc (Nat.le_refl _) (.cells #[.int .i64 a, .int .i64 b, .int .i64 c] 25)).alloc (by simp) (memO M.c (.slice va M.tn vc) (.slice qa M.pn qc) 54)
  have e1 : ((w.alloc (.cells #[.int .i64 a, .int .i64 b, .int .i64 c] 25)).alloc (memO M.c (.slice va M.tn vc) (.slice qa M.pn qc) 54)).heap.size = w.heap.size + 1 + 1 := by simp
  have k2 := k1.alloc k1.size (memO 0 (.slice none 0 0) (.slice none 0 0) 54)
  have hR := heap_alloc_new ((w.alloc (.cells #[.int .i64 a, .int .i64 b, .int .i64 c] 25)).alloc (memO M.c (.slice va M.tn vc) (.slice qa M.pn qc) 54)) (memO 0 (.slice none 0 0) (.slice none 0 0) 54)
  rw [e1] at hR
  have HM := Lib.hid (h.below k2)
  clear h
  cases hok : memOkB a b c M
  · rw [show elapsedM a b c d M = me0 by rw [elapsedM, hok]; rfl]
    have HOK := Lib.hid hok
    clear hok
    go_enter Try.func31, Try.ntmps31
    go_wp2_with fail
    go_at_call 81; refine (ownMemory_no a b c hs HM.out HOK.out).mono ?_; rintro x w1 ⟨rfl, hb⟩
    have hR1 := b_block hb hR (lt_of_block hR)
    have k3 := k2.trans (hb.mono k2.size)
    obtain ⟨r0, r1, r2, rf0, rf1, rf2⟩ := three hR1
    go_wp2
    exact bodyPost_ret (v := meV 0 (.slice none 0 0) (.slice none 0 0)) (by simp [results, Try.results31, go_sem, r0, r1, r2]) rfl ⟨_, _, rfl, own_me0 _ _, b_set3 k3 (by omega) _ _ _⟩
  · rw [show elapsedM a b c d M = ⟨minI (afterI M.c d) 999999999, M.tn, M.t, M.pn, M.p⟩ by rw [elapsedM, hok]; rfl]
    have HOK := Lib.hid hok
    have hs2 : sizeM ⟨minI (afterI M.c d) 999999999, M.tn, M.t, M.pn, M.p⟩ ≤ 1048576 := hs
    obtain ⟨N, hN⟩ : ∃ N : Me, N = ⟨minI (afterI M.c d) 999999999, M.tn, M.t, M.pn, M.p⟩ := ⟨_, rfl⟩
    rw [← hN] at hs2 ⊢
    have HE := Lib.hid (fun (W : World) (mb : Nat) (hO : OwnedAt W (w.heap.size + 1 + 1 + 1) mb a b c M) => by have := elapse_any hO d; rw [← hN] at this; exact this)
    have e2 : (((w.alloc (.cells #[.int .i64 a, .int .i64 b, .int .i64 c] 25)).alloc (memO M.c (.slice va M.tn vc) (.slice qa M.pn qc) 54)).alloc (memO 0 (.slice none 0 0) (.slice none 0 0) 54)).heap.size = w.heap.size + 1 + 1 + 1 := by simp
    clear hok hN
    go_enter Try.func31, Try.ntmps31
    go_wp2_with fail
    go_at_call 81; refine (ownMemory_yes a b c hs HM.out HOK.out).mono ?_; rintro x w1 ⟨mb, rfl, hO, hb⟩
    rw [e2] at hO
    have hR1 := b_block hb hR (lt_of_block hR)
    have k3 := k2.trans (hb.mono k2.size)
    have s3 := hb.size
    rw [e2] at s3
    clear HM hb hR
    go_wp2_with fail
    go_at_call 82; refine (HE.out _ _ hO).mono ?_; rintro x w2 ⟨rfl, hO2, hb2⟩
    have hR2 := b_block hb2 hR1 (by omega)
    have k4 := k3.trans (hb2.mono (by omega))
    have s4 := hb2.size
    clear hO hR1
    go_wp2_with fail
    go_at_call 74; refine (memShown_any hs2 (by omega) hO2).mono ?_; rintro x w3 ⟨t3, p3, rfl, hO3, hb3⟩
    have hR3 := b_block hb3 hR2 (lt_of_block hR2)
    have k5 := k4.trans (hb3.mono (by omega))
    obtain ⟨ta, tc, pa, pc, ht, hp⟩ := hO3.at.form
    subst ht hp
    clear hR2 hO2
    obtain ⟨r0, r1, r2, rf0, rf1, rf2⟩ := three hR3
    go_wp2
    exact bodyPost_ret (v := meV N.c (.slice ta N.tn tc) (.slice pa N.pn pc)) (by simp [results, Try.results31, go_sem, r0, r1, r2]) rfl ⟨_, _, rfl, (hO3.set3 (by omega) _ _ _).mono (by omega), b_set3 k5 (by omega) _ _ _⟩

end Go.Proofs.Ytnmaljieaflnmaa

/-
  When a timer will ring; which are due (spec, chapter 5).
-/
namespace Go.Proofs.Ytnmaljieaflnmaa
open Go.RowKit Go.Joins
set_option linter.unusedVariables false

/-! ### lists of numbers, told by lists -/
def ofL (l : List Int) : Ints := fun i => l.getD i 0
theorem cellsI_congr {f g : Ints} : ∀ n, (∀ i, i < n → f i = g i) → cellsI f n = cellsI g n
  | 0, _ => rfl
  | n + 1, h => by rw [cellsI, cellsI, cellsI_congr n (fun i hi => h i (by omega)), h n (by omega)]
theorem cellsI_add (l : List Int) (x : Int) : cellsI (putI (ofL l) l.length x) (l.length + 1) = cellsI (ofL (l ++ [x])) (l ++ [x]).length := by
  rw [List.length_append]
  refine cellsI_congr _ fun i hi => ?_
  simp only [putI, ofL]
  split
  · rename_i e
    subst e
    simp
  · rename_i e
    simp only [List.getD_eq_getElem?_getD]
    rw [List.getElem?_append_left (by omega)]
theorem OwnIRow.congr0 {w : World} {B : Nat} {v : Value} {f : Ints} (h : OwnIRow w B v 0 f) : OwnIRow w B v ([] : List Int).length (ofL []) := by
  rcases h with h | ⟨g, cap, e, h⟩
  · exact .inl h
  · exact .inr ⟨g, cap, e, h.congr fun i hi => absurd hi (Nat.not_lt_zero _)⟩
/-- a call that makes a new list of numbers -/
def NewInts (l : List Int) (w : World) (e : Ending) (w' : World) : Prop := ∃ v, e = .returned v ∧ OwnIRow w' w.heap.size v l.length (ofL l) ∧ Below w.heap.size w w'

/-- when it will ring, as it stands -/
def effI (t : Tm) : Int := if t.st = 1 ∨ t.st = 6 then t.wh else if t.st = 3 ∨ t.st = 4 then t.nx else -1

set_option maxRecDepth 100000 in
set_option maxHeartbeats 1000000 in
theorem l5Effect_any (t : Tm) (w : World) :
    Calls Try.prog 83 #[tmV t] w fun e w' => e = .returned (.int .i64 (effI t)) ∧ Below w.heap.size w w' := by
  obtain ⟨st, wh, nx, pe, pl, ge, ki, ma⟩ := t
  have k0 := (Below.refl w.heap.size w).alloc (Nat.le_refl _) (.cells #[.int .i64 st, .int .i64 wh, .int .i64 nx, .int .i64 pe, .int .i64 pl, .int .i64 ge, .int .i64 ki, .int .i64 ma] 96)
  by_cases h1 : st = 1
  · subst h1
    rw [show effI ⟨1, wh, nx, pe, pl, ge, ki, ma⟩ = wh from rfl]
    go_enter Try.func83, Try.ntmps83
    go_wp2
    go_ret
    exact ⟨rfl, k0⟩
  by_cases h6 : st = 6
  · subst h6
    rw [show effI ⟨6, wh, nx, pe, pl, ge, ki, ma⟩ = wh from rfl]
    go_enter Try.func83, Try.ntmps83
    go_wp2
    go_ret
    exact ⟨rfl, k0⟩
  by_cases h3 : st = 3
  · subst h3
    rw [show effI ⟨3, wh, nx, pe, pl, ge, ki, ma⟩ = nx from rfl]
    go_enter Try.func83, Try.ntmps83
    go_wp2
    go_ret
    exact ⟨rfl, k0⟩
  by_cases h4 : st = 4
  · subst h4
    rw [show effI ⟨4, wh, nx, pe, pl, ge, ki, ma⟩ = nx from rfl]
    go_enter Try.func83, Try.ntmps83
    go_wp2
    go_ret
    exact ⟨rfl, k0⟩
  rw [show effI ⟨st, wh, nx, pe, pl, ge, ki, ma⟩ = -1 by simp [effI, h1, h6, h3, h4]]
  have b1 : (st == 1) = false := by simpa using h1
  have b3 : (st == 3) = false := by simpa using h3
  have b4 : (st == 4) = false := by simpa using h4
  have b6 : (st == 6) = false := by simpa using h6
  go_enter Try.func83, Try.ntmps83
  go_wp2
  go_ret
  exact ⟨rfl, k0⟩

/-- is the timer i due? -/
def dueB (M : Me) (i : Nat) : Bool := decide (0 ≤ effI (M.t i)) && (decide (effI (M.t i) ≤ M.c) && !((M.t i).st == 6))
def dueL (M : Me) : Nat → List Int
  | 0 => []
  | k + 1 => if dueB M k then dueL M k ++ [(k : Int)] else dueL M k
theorem dueL_length (M : Me) : ∀ k, (dueL M k).length ≤ k
  | 0 => Nat.le_refl _
  | k + 1 => by
    have := dueL_length M k
    rw [dueL]
    split
    · rw [List.length_append]; simp; omega
    · omega
/-- which are due, of a plan and a memory -/
def dueInL (a b c : Int) (M : Me) : List Int := if memOkB a b c M then dueL M M.tn else []
theorem dueInL_le (a b c : Int) {M : Me} (h : sizeM M ≤ 1048576) : (dueInL a b c M).length ≤ 1048576 := by
  unfold dueInL
  split
  · have := dueL_length M M.tn; have := (sizeM_le h).1; omega
  · simp
/-- what the program's function of a plan and a memory is to answer: a new list of numbers -/
def AsksML (fn : FuncId) (g : Int → Int → Int → Me → List Int) : Prop := ∀ (a b c : Int) (tv pv : Value) (M : Me) (w : World), sizeM M ≤ 1048576 → MemAt w tv pv M → Calls Try.prog fn #[.agg #[.int .i64 a, .int .i64 b, .int .i64 c], meV M.c tv pv] w (NewInts (g a b c M) w)

set_option maxRecDepth 100000 in
set_option maxHeartbeats 4000000 in
theorem spDueIn_any : AsksML 32 dueInL := by
  intro a b c tv pv M w hs h
  obtain ⟨htn, hpn, hsl, hn⟩ := sizeM_le hs
  obtain ⟨va, vc, qa, qc, rfl, rfl⟩ := h.form
  have k0 := (Below.refl w.heap.size w).alloc (Nat.le_refl _) (.cells #[.int .i64 a, .int .i64 b, .int .i64 c] 25)
  have e0 : (w.alloc (.cells #[.int .i64 a, .int .i64 b, .int .i64 c] 25)).heap.size = w.heap.size + 1 := by simp
  have k1 := k0.alloc k0.size (memO M.c (.slice va M.tn vc) (.slice qa M.pn qc) 54)
  have hA := heap_alloc_new (w.alloc (.cells #[.int .i64 a, .int .i64 b, .int .i64 c] 25)) (memO M.c (.slice va M.tn vc) (.slice qa M.pn qc) 54)
  rw [e0] at hA
  have lA := lt_of_block hA
  have HM := Lib.hid (h.below k1)
  have h0 := h
  clear h
  have e1 : ((w.alloc (.cells #[.int .i64 a, .int .i64 b, .int .i64 c] 25)).alloc (memO M.c (.slice va M.tn vc) (.slice qa M.pn qc) 54)).heap.size = w.heap.size + 1 + 1 := by simp
  have ho := rowi_new (B := w.heap.size + 1 + 1) e1.symm (Nat.le_of_eq e1.symm)
  have k2 := k1.alloc k1.size (.cells #[] 2)
  have hA2 := alloc_block (.cells #[] 2) hA
  have HM2 := Lib.hid (HM.out.below ((Below.refl _ _).alloc (Nat.le_refl _) (.cells #[] 2)))
  have l2 : w.heap.size + 1 + 1 ≤ (((w.alloc (.cells #[.int .i64 a, .int .i64 b, .int .i64 c] 25)).alloc (memO M.c (.slice va M.tn vc) (.slice qa M.pn qc) 54)).alloc (.cells #[] 2)).heap.size := by simp
  have x3 : w.heap.size + 1 + 1 < (((w.alloc (.cells #[.int .i64 a, .int .i64 b, .int .i64 c] 25)).alloc (memO M.c (.slice va M.tn vc) (.slice qa M.pn qc) 54)).alloc (.cells #[] 2)).heap.size := by simp
  cases hok : memOkB a b c M
  · rw [show dueInL a b c M = [] by rw [dueInL, hok]; rfl]
    have hO := owni_of_row ho
    go_enter Try.func32, Try.ntmps32
    go_wp2_with fail
    go_at_call 21; refine (spMemOk_any _ _ _ hs HM2.out).mono ?_; rintro x w1 ⟨rfl, hb⟩; rw [hok]
    have k3 := k2.trans (hb.mono k2.size)
    have hO1 := (hO.below hb).mono (B' := w.heap.size) (by omega)
    clear hb ho hO
    go_wp2
    go_ret
    exact ⟨_, rfl, hO1.congr0, k3⟩
  · have hd := Lib.hid (show dueInL a b c M = dueL M M.tn by rw [dueInL, hok]; rfl)
    go_enter Try.func32, Try.ntmps32
    go_wp2_with fail
    generalize (((w.alloc (.cells #[.int .i64 a, .int .i64 b, .int .i64 c] 25)).alloc (memO M.c (.slice va M.tn vc) (.slice qa M.pn qc) 54)).alloc (.cells #[] 2)) = W at k2 hA2 HM2 ho l2 x3 ⊢
    clear HM hA k1 k0 lA e0 e1
    go_at_call 21; refine (spMemOk_any _ _ _ hs HM2.out).mono ?_; rintro x w1 ⟨rfl, hb⟩; rw [hok]
    obtain ⟨B, hB⟩ : ∃ B, B = w.heap.size + 1 + 1 := ⟨_, rfl⟩
    have ho3 := owns_below (B := w.heap.size + 1 + 1) ho hb
    have l3 : B ≤ w1.heap.size := by have := hb.size; omega
    have kW : Below B W w1 := hb.mono (by omega)
    have HA := Lib.hid hA2
    have HT := Lib.hid h0.1
    clear hb ho hA2 HM2
    go_wp2_with fail
    go_loopw [5, 6] (fun o i wr => ∃ (k : Nat), k ≤ M.tn ∧ i = .int .i64 k ∧ wr.ownsRow B 2 1 o (dueL M k).length (cellsI (ofL (dueL M k)) (dueL M k).length) ∧ B ≤ wr.heap.size ∧ Below B W wr) (fun _ i _ => M.tn - (intOf i).toNat)
    case atStart => exact ⟨0, Nat.zero_le _, rfl, by rw [hB]; exact ho3, l3, kW⟩
    case round =>
      obtain ⟨k, hk, rfl, hown, lw, kw⟩ := hrel
      have kw0 := k2.trans (kw.mono (by omega))
      have hA := (kw.block (w.heap.size + 1) (by omega)).trans HA.out
      obtain ⟨a0, a1, a2, _, _, _⟩ := three hA
      obtain ⟨oa, oc, hov⟩ := owns_form hown
      subst hov
      by_cases hlt : k < M.tn
      · rcases HT.out.below kw0 with ⟨h0, _⟩ | ⟨tb, toff, tcap, et, tl, tcs⟩
        · omega
        injection et with et1 et2 et3
        subst et1 et3
        have c0 : wr.cell? ⟨tb, toff + k * 8, none⟩ = some (.int .i64 (M.t k).st) := tcs k hlt 0 (by decide)
        have c1 : wr.cell? ⟨tb, toff + k * 8 + 1, none⟩ = some (.int .i64 (M.t k).wh) := tcs k hlt 1 (by decide)
        have c2 : wr.cell? ⟨tb, toff + k * 8 + 2, none⟩ = some (.int .i64 (M.t k).nx) := tcs k hlt 2 (by decide)
        have c3 : wr.cell? ⟨tb, toff + k * 8 + 3, none⟩ = some (.int .i64 (M.t k).pe) := tcs k hlt 3 (by decide)
        have c4 : wr.cell? ⟨tb, toff + k * 8 + 4, none⟩ = some (.int .i64 (M.t k).pl) := tcs k hlt 4 (by decide)
        have c5 : wr.cell? ⟨tb, toff + k * 8 + 5, none⟩ = some (.int .i64 (M.t k).ge) := tcs k hlt 5 (by decide)
        have c6 : wr.cell? ⟨tb, toff + k * 8 + 6, none⟩ = some (.int .i64 (M.t k).ki) := tcs k hlt 6 (by decide)
        have c7 : wr.cell? ⟨tb, toff + k * 8 + 7, none⟩ = some (.int .i64 (M.t k).ma) := tcs k hlt 7 (by decide)
        have i1 : (k : Int) < (M.tn : Int) := by omega
        clear tcs
        have hlen := dueL_length M k
        obtain ⟨n, hn0⟩ : ∃ n, effI (M.t k) = n := ⟨_, rfl⟩
        have HN := Lib.hid hn0
        clear hn0
        by_cases b1 : 0 ≤ n
        · by_cases b2 : n ≤ M.c
          · by_cases b3 : (M.t k).st = 6
            · have hnext := Lib.hid (show dueL M (k + 1) = dueL M k by rw [dueL, dueB, HN.out, b3]; simp)
              have t1 : decide (0 ≤ n) = true := by simpa using b1
              have t2 : decide (n ≤ M.c) = true := by simpa using b2
              have t3 : ((M.t k).st != 6) = false := by simpa using b3
              clear b3
              go_wp2_with fail
              go_at_call 83; refine (l5Effect_any (M.t k) _).mono ?_; rintro x w2 ⟨rfl, hb⟩; rw [HN.out]
              replace hA := b_block hb hA (lt_of_block hA)
              replace hown := owns_below hown hb
              have lw2 := Nat.le_trans lw hb.size
              have kw2 := kw.trans (hb.mono lw)
              have d0 := (hb.cell (p := ⟨tb, toff + k * 8, none⟩) tl).trans c0
              obtain ⟨z0, z1, z2, _, _, _⟩ := three hA
              clear c0 c1 c2 c3 c4 c5 c6 c7 a0 a1 a2 hb hA
              go_wp2
              exact ⟨⟨k + 1, by omega, by go_num, by rw [hnext.out]; exact hown, lw2, kw2⟩, by simp only [intOf]; omega⟩
            · have hnext := Lib.hid (show dueL M (k + 1) = dueL M k ++ [(k : Int)] by rw [dueL, dueB, HN.out]; simp [b1, b2, b3])
              have t1 : decide (0 ≤ n) = true := by simpa using b1
              have t2 : decide (n ≤ M.c) = true := by simpa using b2
              have t3 : ((M.t k).st != 6) = true := by simpa using b3
              clear b3
              go_wp2_with fail
              go_at_call 83; refine (l5Effect_any (M.t k) _).mono ?_; rintro x w2 ⟨rfl, hb⟩; rw [HN.out]
              replace hA := b_block hb hA (lt_of_block hA)
              replace hown := owns_below hown hb
              have lw2 := Nat.le_trans lw hb.size
              have kw2 := kw.trans (hb.mono lw)
              have d0 := (hb.cell (p := ⟨tb, toff + k * 8, none⟩) tl).trans c0
              obtain ⟨z0, z1, z2, _, _, _⟩ := three hA
              clear c0 c1 c2 c3 c4 c5 c6 c7 a0 a1 a2 hb hA
              have ho2 := Lib.hid (hown.alloc (.cells #[.int .i64 (k : Int)] 2))
              have hS := Lib.hid (int_new (w := w2) (k : Int) rfl)
              have hB2 : B ≤ (w2.alloc (.cells #[.int .i64 (k : Int)] 2)).heap.size := by simp; omega
              have ka := kw2.alloc lw2 (.cells #[.int .i64 (k : Int)] 2)
              have hge := owns_ge hown
              go_wp2_with (first
                | (at_builtin
                   refine wpList_append_int rfl (.tmp 44) (.tmp 46) rfl B _ (dueL M k).length (ofL (dueL M k)) rfl ho2.out _ (k : Int) rfl hS.out (by omega) hB2 ?_
                   intro v' w' hown' hg' hat'
                   have hbw := b_grownV hg' hge hB2
                   have kf := ka.trans hbw
                   have lf := Nat.le_trans hB2 hbw.size
                   rw [cellsI_add] at hown'))
              exact ⟨⟨k + 1, by omega, by go_num, by rw [hnext.out]; simpa using hown', lf, kf⟩, by simp only [intOf]; omega⟩
          · have hnext := Lib.hid (show dueL M (k + 1) = dueL M k by rw [dueL, dueB, HN.out]; simp [b2])
            have t1 : decide (0 ≤ n) = true := by simpa using b1
            have t2 : decide (n ≤ M.c) = false := by simpa using b2
            go_wp2_with fail
            go_at_call 83; refine (l5Effect_any (M.t k) _).mono ?_; rintro x w2 ⟨rfl, hb⟩; rw [HN.out]
            replace hA := b_block hb hA (lt_of_block hA)
            replace hown := owns_below hown hb
            have lw2 := Nat.le_trans lw hb.size
            have kw2 := kw.trans (hb.mono lw)
            have d0 := (hb.cell (p := ⟨tb, toff + k * 8, none⟩) tl).trans c0
            obtain ⟨z0, z1, z2, _, _, _⟩ := three hA
            clear c0 c1 c2 c3 c4 c5 c6 c7 a0 a1 a2 hb hA
            go_wp2
            exact ⟨⟨k + 1, by omega, by go_num, by rw [hnext.out]; exact hown, lw2, kw2⟩, by simp only [intOf]; omega⟩
        · have hnext := Lib.hid (show dueL M (k + 1) = dueL M k by rw [dueL, dueB, HN.out]; simp [b1])
          have t1 : decide (0 ≤ n) = false := by simpa using b1
          go_wp2_with fail
          go_at_call 83; refine (l5Effect_any (M.t k) _).mono ?_; rintro x w2 ⟨rfl, hb⟩; rw [HN.out]
          replace hA := b_block hb hA (lt_of_block hA)
          replace hown := owns_below hown hb
          have lw2 := Nat.le_trans lw hb.size
          have kw2 := kw.trans (hb.mono lw)
          have d0 := (hb.cell (p := ⟨tb, toff + k * 8, none⟩) tl).trans c0
          obtain ⟨z0, z1, z2, _, _, _⟩ := three hA
          clear c0 c1 c2 c3 c4 c5 c6 c7 a0 a1 a2 hb hA
          go_wp2
          exact ⟨⟨k + 1, by omega, by go_num, by rw [hnext.out]; exact hown, lw2, kw2⟩, by simp only [intOf]; omega⟩
      · have hkn : k = M.tn := by omega
        subst hkn
        have i1 : ¬ (M.tn : Int) < (M.tn : Int) := by omega
        have hO := (owni_of_row hown).mono (B' := w.heap.size) (by omega)
        go_wp2
        go_ret
        exact ⟨_, rfl, by rw [hd.out]; exact hO, kw0⟩

end Go.Proofs.Ytnmaljieaflnmaa

/-
  Lists of numbers in memory: the laws' own helpers on them.
-/
namespace Go.Proofs.Ytnmaljieaflnmaa
open Go.RowKit Go.Joins
set_option linter.unusedVariables false

set_option maxRecDepth 100000 in
set_option maxHeartbeats 1000000 in
theorem eqInt64S_same {v1 v2 : Value} {n : Nat} {f : Ints} {w : World} (hn : n ≤ 1048576) (h1 : RowIAt w v1 n f) (h2 : RowIAt w v2 n f) :
    Calls Try.prog 34 #[v1, v2] w fun e w' => e = .returned (.bool true) ∧ Below w.heap.size w w' := by
  obtain ⟨a1, k1, rfl⟩ := h1.form
  obtain ⟨a2, k2, rfl⟩ := h2.form
  have H1 := Lib.hid h1
  have H2 := Lib.hid h2
  clear h1 h2
  go_enter Try.func34, Try.ntmps34
  go_wp2
  go_loopw [5] (fun i wr => ∃ k : Nat, k ≤ n ∧ i = .int .i64 k ∧ Below w.heap.size w wr) (fun i _ => n - (intOf i).toNat)
  case atStart => exact ⟨0, Nat.zero_le _, rfl, Below.refl _ _⟩
  case round =>
    obtain ⟨k, hk, rfl, hbk⟩ := hrel
    by_cases hlt : k < n
    · rcases H1.out with ⟨h0, _⟩ | ⟨b1, o1, cap1, ev, hl1, hc1⟩
      · omega
      injection ev with ev1 ev2 ev3
      subst ev1 ev3
      rcases H2.out with ⟨h0, _⟩ | ⟨b2, o2, cap2, ev, hl2, hc2⟩
      · omega
      injection ev with ev1 ev2 ev3
      subst ev1 ev3
      have c0 := (hbk.cell (p := ⟨b1, o1 + k, none⟩) hl1).trans (hc1 k hlt)
      have e0 := (hbk.cell (p := ⟨b2, o2 + k, none⟩) hl2).trans (hc2 k hlt)
      have i1 : (k : Int) < (n : Int) := by omega
      have i0 : (0 : Int) ≤ (k : Int) := by omega
      have hself : (f k == f k) = true := beq_self_eq_true _
      clear hc1 hc2
      go_wp2_with fail
      first
        | (go_quiet (fail)
           have kd := b_drewN hbk nq
           go_wp2
           exact ⟨⟨k + 1, by omega, by go_num, kd⟩, by simp only [intOf]; omega⟩)
        | (go_wp2
           exact ⟨⟨k + 1, by omega, by go_num, hbk⟩, by simp only [intOf]; omega⟩)
        | exact ⟨⟨k + 1, by omega, by go_num, hbk⟩, by simp only [intOf]; omega⟩
    · have hkn : k = n := by omega
      subst hkn
      go_wp2
      go_ret
      exact ⟨rfl, hbk⟩

/-! ### marked, and looked at again -/
def markI (f : Ints) (m : Int) (k : Nat) : Ints := fun i => if i < k then m + i else f i
theorem markI_put {f : Ints} {m : Int} {k : Nat} (n : Nat) : ∀ i, i < n → putI (markI f m k) k (m + k) i = markI f m (k + 1) i := by
  intro i _
  unfold putI markI
  by_cases e : i = k
  · subst e; simp
  · rw [if_neg e]
    by_cases h : i < k
    · rw [if_pos h, if_pos (by omega)]
    · rw [if_neg h, if_neg (by omega)]
theorem markI_at (f : Ints) (m : Int) {n k : Nat} (h : k < n) : markI f m n k = m + k := by simp [markI, h]

set_option maxRecDepth 100000 in
set_option maxHeartbeats 1000000 in
theorem markInt64S_any {B C g n cap : Nat} {f : Ints} {w : World} (m : Int) (hm0 : 0 ≤ m) (hm1 : m ≤ 16777216) (hn : n ≤ 1048576) (h : OwnIAt w B g n cap f) (hgC : g < C) :
    Calls Try.prog 35 #[.slice (some ⟨g, 0, none⟩) n cap, .int .i64 m] w fun x w' => x = .returned (.int .i64 (m + n)) ∧ OwnIAt w' B g n cap (markI f m n) ∧ Mid B C w w' := by
  have hBg := h.1
  have H := Lib.hid h
  clear h
  go_enter Try.func35, Try.ntmps35
  go_wp2
  go_loopw [1, 5] (fun q i wr => ∃ k : Nat, k ≤ n ∧ i = .int .i64 k ∧ q = .int .i64 (m + k) ∧ OwnIAt wr B g n cap (markI f m k) ∧ Mid B C w wr) (fun _ i _ => n - (intOf i).toNat)
  case atStart => exact ⟨0, Nat.zero_le _, rfl, congrArg (Value.int .i64) (by omega), H.out.congr (fun i _ => by simp [markI]), Mid.refl _ _ _⟩
  case round =>
    obtain ⟨k, hk, rfl, rfl, hOk, hMk⟩ := hrel
    by_cases hlt : k < n
    · have f0 := hOk.free k
      have d0 := hOk.cells hlt
      have i1 : (k : Int) < (n : Int) := by omega
      have i0 : (0 : Int) ≤ (k : Int) := by omega
      have hOn := (hOk.put hlt (m + k)).congr (markI_put (f := f) (m := m) n)
      have hMn := hMk.set hBg hgC k (.int .i64 (m + k))
      clear hOk hMk
      go_wp2
      exact ⟨⟨k + 1, by omega, by go_num, congrArg (Value.int .i64) (by omega), hOn, hMn⟩, by simp only [intOf]; omega⟩
    · have hkn : k = n := by omega
      subst hkn
      go_wp2
      go_ret
      exact ⟨rfl, hOk, hMk⟩

set_option maxRecDepth 100000 in
set_option maxHeartbeats 1000000 in
theorem markInt64S_none {a : Option Addr} {cap : Nat} (m : Int) (w : World) :
    Calls Try.prog 35 #[.slice a 0 cap, .int .i64 m] w fun x w' => x = .returned (.int .i64 m) ∧ w = w' := by
  go_enter Try.func35, Try.ntmps35
  go_wp2
  go_loop [1, 5] (fun q i => i = .int .i64 0 ∧ q = .int .i64 m) (fun _ _ => 0)
  case atStart => exact ⟨rfl, rfl⟩
  case round =>
    obtain ⟨rfl, rfl⟩ := hrel
    go_wp2
    go_ret
    exact ⟨rfl, rfl⟩

set_option maxRecDepth 100000 in
set_option maxHeartbeats 1000000 in
theorem heldInt64S_any {v : Value} {n : Nat} {f : Ints} {w : World} (m : Int) (hm0 : 0 ≤ m) (hm1 : m ≤ 16777216) (hn : n ≤ 1048576) (h : RowIAt w v n (markI f m n)) :
    Calls Try.prog 36 #[v, .int .i64 m] w fun x w' => x = .returned (.int .i64 (m + n)) ∧ w = w' := by
  obtain ⟨a, cap, rfl⟩ := h.form
  have H := Lib.hid h
  clear h
  go_enter Try.func36, Try.ntmps36
  go_wp2
  go_loop [1, 5] (fun q i => ∃ k : Nat, k ≤ n ∧ i = .int .i64 k ∧ q = .int .i64 (m + k)) (fun _ i => n - (intOf i).toNat)
  case atStart => exact ⟨0, Nat.zero_le _, rfl, congrArg (Value.int .i64) (by omega)⟩
  case round =>
    obtain ⟨k, hk, rfl, rfl⟩ := hrel
    by_cases hlt : k < n
    · rcases H.out with ⟨h0, _⟩ | ⟨b, off, cap', ev, hl, hc⟩
      · omega
      injection ev with ev1 ev2 ev3
      subst ev1 ev3
      have c0 := hc k hlt
      rw [markI_at f m hlt] at c0
      have i1 : (k : Int) < (n : Int) := by omega
      have i0 : (0 : Int) ≤ (k : Int) := by omega
      clear hc
      go_wp2
      exact ⟨⟨k + 1, by omega, by go_num, congrArg (Value.int .i64) (by omega)⟩, by simp only [intOf]; omega⟩
    · have hkn : k = n := by omega
      subst hkn
      go_wp2
      go_ret
      exact ⟨rfl, rfl⟩

/-! ### in a range; its own, before a bound -/
def RowIR (w : World) (B C : Nat) (v : Value) (n : Nat) (f : Ints) : Prop :=
  (n = 0 ∧ ∃ a cap, v = .slice a 0 cap) ∨ ∃ b off cap, v = .slice (some ⟨b, off, none⟩) n cap ∧ B ≤ b ∧ b < C ∧ ∀ i, i < n → w.cell? ⟨b, off + i, none⟩ = some (.int .i64 (f i))
theorem RowIAt.range {w : World} {v : Value} {n : Nat} {f : Ints} (h : RowIAt w v n f) : RowIR w 0 w.heap.size v n f := by
  rcases h with h | ⟨b, off, cap, e, hl, hc⟩
  · exact .inl h
  · exact .inr ⟨b, off, cap, e, Nat.zero_le _, hl, hc⟩
theorem RowIR.row {w : World} {B C n : Nat} {v : Value} {f : Ints} (h : RowIR w B C v n f) (hC : C ≤ w.heap.size) : RowIAt w v n f := by
  rcases h with h | ⟨b, off, cap, e, _, hl, hc⟩
  · exact .inl h
  · exact .inr ⟨b, off, cap, e, by omega, hc⟩
theorem RowIR.keep {w w' : World} {B C n : Nat} {v : Value} {f : Ints} (h : RowIR w B C v n f) (hs : Same B C w w') : RowIR w' B C v n f := by
  rcases h with h | ⟨b, off, cap, e, h1, h2, hc⟩
  · exact .inl h
  · exact .inr ⟨b, off, cap, e, h1, h2, fun i hi => (hs.cell h1 h2 _).trans (hc i hi)⟩
def OwnIIn (w : World) (B C : Nat) (v : Value) (n : Nat) (f : Ints) : Prop := (n = 0 ∧ ∃ a cap, v = .slice a 0 cap) ∨ ∃ g cap, v = .slice (some ⟨g, 0, none⟩) n cap ∧ OwnIAt w B g n cap f ∧ g < C
theorem OwnIRow.inn {w : World} {B n : Nat} {v : Value} {f : Ints} (h : OwnIRow w B v n f) : OwnIIn w B w.heap.size v n f := by
  rcases h with h | ⟨g, cap, e, h⟩
  · exact .inl h
  · exact .inr ⟨g, cap, e, h, h.lt⟩
theorem OwnIIn.keep {w w' : World} {B C n : Nat} {v : Value} {f : Ints} (h : OwnIIn w B C v n f) (hs : Same B C w w') : OwnIIn w' B C v n f := by
  rcases h with h | ⟨g, cap, e, h, hg⟩
  · exact .inl h
  · exact .inr ⟨g, cap, e, h.block (hs g h.1 hg), hg⟩
theorem OwnIIn.range {w : World} {B C n : Nat} {v : Value} {f : Ints} (h : OwnIIn w B C v n f) : RowIR w B C v n f := by
  rcases h with h | ⟨g, cap, e, h, hg⟩
  · exact .inl h
  · exact .inr ⟨g, 0, cap, e, h.1, hg, fun i hi => by simpa using h.cells hi⟩
theorem OwnIIn.form {w : World} {B C n : Nat} {v : Value} {f : Ints} (h : OwnIIn w B C v n f) : ∃ a cap, v = .slice a n cap := by
  rcases h with ⟨rfl, a, cap, rfl⟩ | ⟨g, cap, rfl, _⟩
  · exact ⟨_, _, rfl⟩
  · exact ⟨_, _, rfl⟩
theorem markIRow_any {B C n : Nat} {v : Value} {f : Ints} {w : World} (m : Int) (hm0 : 0 ≤ m) (hm1 : m ≤ 16777216) (hn : n ≤ 1048576) (h : OwnIIn w B C v n f) :
    Calls Try.prog 35 #[v, .int .i64 m] w fun x w' => x = .returned (.int .i64 (m + n)) ∧ OwnIIn w' B C v n (markI f m n) ∧ Mid B C w w' := by
  rcases h with ⟨rfl, a, cap, rfl⟩ | ⟨g, cap, rfl, h, hg⟩
  · refine (markInt64S_none m w).mono ?_
    rintro x w' ⟨rfl, rfl⟩
    exact ⟨by simp, .inl ⟨rfl, _, _, rfl⟩, Mid.refl _ _ _⟩
  · refine (markInt64S_any m hm0 hm1 hn h hg).mono ?_
    rintro x w' ⟨rfl, h1, h2⟩
    exact ⟨rfl, .inr ⟨g, cap, rfl, h1, hg⟩, h2⟩

end Go.Proofs.Ytnmaljieaflnmaa
