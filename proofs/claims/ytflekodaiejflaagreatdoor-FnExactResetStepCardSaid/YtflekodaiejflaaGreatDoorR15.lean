/-
  A memory as the program works with it (chapter 5): shown, later, new: Elapsed and NewMem.
-/
import Derived.Test.YtflekodaiejflaaGreatDoorR07
import Derived.Test.YtflekodaiejflaaGreatDoorR14
import Derived.Test.YtflekodaiejflaaGreatDoorR12
import Derived.Test.YtflekodaiejflaaGreatDoorR11
import Derived.Deep.DeepCutAuto
import Derived.Deep.RegionLaw
import Derived.Test.YtflekodaiejflaaGreatDoorR09
import Derived.Deep.QuietTactic
import Derived.BigQuiet
import Derived.Test.YtflekodaiejflaaGreatDoorR00
import Derived.Test.YtflekodaiejflaaGreatDoorR04
namespace Go.Proofs.YtflekodaiejflaaGreatDoor
open Go.RowKit Go.Joins
set_option linter.unusedVariables false
set_option linter.unusedSimpArgs false

set_option maxRecDepth 100000 in
set_option maxHeartbeats 1000000 in
theorem pxShown_any {v : Value} {n : Nat} (l e d : Int) {w : World} (hv : ∃ a cap, v = .slice a n cap) :
    Calls Tryz.prog 108 #[pxV v l e d] w fun x w' => x = .returned (prV v l e d) ∧ Below w.heap.size w w' := by
  obtain ⟨a, cap, rfl⟩ := hv
  have k0 := (Below.refl w.heap.size w).alloc (Nat.le_refl _) (pxB (.slice a n cap) l e d)
  have hR := heap_alloc_new (w.alloc (pxB (.slice a n cap) l e d)) (.cells #[.slice a n cap, .int .i64 l, .int .i64 e, .int .i64 d] 83)
  rw [show (w.alloc (pxB (.slice a n cap) l e d)).heap.size = w.heap.size + 1 by simp] at hR
  obtain ⟨r0, r1, r2, r3, _, _, _, _⟩ := four hR
  go_enter Tryz.func108, Tryz.ntmps108
  go_wp2
  exact bodyPost_ret (v := prV (.slice a n cap) l e d) (by simp [results, Tryz.results108, go_sem, r0, r1, r2, r3]) rfl ⟨rfl, k0.alloc k0.size _⟩

abbrev madeP (n : Nat) : Obj := .cells (madeCells #[.slice none 0 0, .int .i64 0, .int .i64 0, .int .i64 0] (n * 4)) 83

set_option maxRecDepth 100000 in
set_option maxHeartbeats 8000000 in
theorem memShown_any {B mb : Nat} {a b c : Int} {M : Me} {w : World} (hs : sizeM M ≤ 1048576) (hB : B ≤ w.heap.size) (h : OwnedAt w B mb a b c M) :
    Calls Tryz.prog 73 #[ptrV mb] w fun x w' => ∃ tv pv, x = .returned (meV M.c tv pv) ∧ OwnMem w' B tv pv M ∧ Below w.heap.size w w' := by
  obtain ⟨htn, hpn, hsl, hns⟩ := sizeM_le hs
  obtain ⟨tv, g, V, hmB, hM, hT, hL, hH⟩ := h
  obtain ⟨ta, tc, htv⟩ := hT.row.form
  subst htv
  have hmk := run_make_procs M.pn hpn
  have lM := lt_of_block hM
  have e0 : (w.alloc (memO 0 (.slice none 0 0) (.slice none 0 0) 36)).heap.size = w.heap.size + 1 := by simp
  have k0 := (Below.refl w.heap.size w).alloc (Nat.le_refl _) (memO 0 (.slice none 0 0) (.slice none 0 0) 36)
  have hR := alloc_block (madeP M.pn) (heap_alloc_new w (memO 0 (.slice none 0 0) (.slice none 0 0) 36))
  have k1 := k0.alloc k0.size (madeP M.pn)
  have hN := (list_made (w.alloc (memO 0 (.slice none 0 0) (.slice none 0 0) 36)) M.pn (by unfold maxLen; omega)).congr (Q := upToP M.p 0) (U := fun _ => .slice none 0 0) (fun i hi => by simp [upToP]) (fun _ _ => rfl)
  rw [e0] at hN
  have HM := Lib.hid hM
  have HL := Lib.hid hL
  have HH := Lib.hid hH
  have HT := Lib.hid hT
  obtain ⟨m0, m1, m2, m3, m4, m5⟩ := six (b_block k0 hM lM)
  obtain ⟨n0, n1, n2, n3, n4, n5⟩ := six (b_block k1 hM lM)
  clear hM hL hH hT hns hsl
  go_enter Tryz.func73, Tryz.ntmps73
  go_wp2_with fail
  generalize (w.alloc (memO 0 (.slice none 0 0) (.slice none 0 0) 36)).alloc (madeP M.pn) = w2 at k1 hR hN n0 n1 n2 n3 n4 n5 ⊢
  clear m0 m1 m2 m3 m4 m5 k0 hmk e0
  go_wp2_with fail
  clear n0 n1 n2 n3 n4 n5
  go_loopw [17] (fun i wr => ∃ (k : Nat) (U : Nat → Value), k ≤ M.pn ∧ i = .int .i64 k ∧ wr.heap[w.heap.size]? = some (memO 0 (.slice none 0 0) (.slice none 0 0) 36) ∧ ListAt wr (w.heap.size + 1) (w.heap.size + 1) M.pn M.pn (upToP M.p k) U ∧ (∀ i, i < k → U i = V i) ∧ Below w.heap.size w wr) (fun i _ => M.pn - (intOf i).toNat)
  case atStart => exact ⟨0, _, Nat.zero_le _, rfl, hR, hN, fun i hi => absurd hi (Nat.not_lt_zero _), k1⟩
  case round =>
    clear hR hN k1
    obtain ⟨k, U, hk, rfl, hR, hN, hU, kw⟩ := hrel
    obtain ⟨n0, n1, n2, n3, n4, n5⟩ := six (b_block kw HM.out lM)
    by_cases hlt : k < M.pn
    · have i1 : (k : Int) < (M.pn : Int) := by omega
      have i0 : (0 : Int) ≤ (k : Int) := by omega
      have hO := HH.out.1 k hlt
      obtain ⟨oa, oc, ho⟩ := hO.value
      have hLr := HL.out.below kw
      obtain ⟨d0, d1, d2, d3⟩ := hLr.cells hlt
      rw [ho] at d1
      have hNa := hN.below ((Below.refl wr.heap.size wr).alloc (Nat.le_refl _) (pxB (.slice oa (M.p k).n oc) (M.p k).l (M.p k).e (M.p k).d))
      have hRa := alloc_block (pxB (.slice oa (M.p k).n oc) (M.p k).l (M.p k).e (M.p k).d) hR
      have ka := kw.alloc kw.size (pxB (.slice oa (M.p k).n oc) (M.p k).l (M.p k).e (M.p k).d)
      have hX := heap_alloc_new wr (pxB (.slice oa (M.p k).n oc) (M.p k).l (M.p k).e (M.p k).d)
      obtain ⟨x0, x1, x2, x3, _, _, _, _⟩ := four hX
      go_wp2_with fail
      go_at_call 108; refine (pxShown_any _ _ _ ⟨_, _, rfl⟩).mono ?_; rintro x w5 ⟨rfl, hb⟩
      have hN5 := hNa.below hb
      have hR5 := b_block hb hRa (lt_of_block hRa)
      have k5 := ka.trans (hb.mono ka.size)
      have fr := hN5.free
      have f0 := fr (k * 4); have f1 := fr (k * 4 + 1); have f2 := fr (k * 4 + 2); have f3 := fr (k * 4 + 3)
      obtain ⟨c0, c1, c2, c3⟩ := hN5.cells hlt
      have hNn := (hN5.put hlt (.slice oa (M.p k).n oc) (M.p k)).congr (upToP_put (P := M.p)) (fun _ _ => rfl)
      have hRn := (heap_setP w5 (w.heap.size + 1) k (.slice oa (M.p k).n oc) (M.p k).l (M.p k).e (M.p k).d (x := w.heap.size) (by omega)).trans hR5
      have kn := b_setP k5 (g := w.heap.size + 1) (by omega) k (.slice oa (M.p k).n oc) (M.p k).l (M.p k).e (M.p k).d
      have hUn : ∀ i, i < k + 1 → putV U k (.slice oa (M.p k).n oc) i = V i := fun i hi => by
        by_cases e : i = k
        · subst e; rw [putV_same, ho]
        · rw [putV_other U _ e]; exact hU i (by omega)
      clear hb fr d0 d1 d2 d3 x0 x1 x2 x3 n0 n1 n2 n3 n4 n5 hN5 hR5 hNa hRa ka k5 hX
      go_wp2
      exact ⟨⟨k + 1, _, by omega, by go_num, hRn, hNn, hUn, kn⟩, by simp only [intOf]; omega⟩
    · have hkn : k = M.pn := by omega
      subst hkn
      have i1 : ¬ (M.pn : Int) < (M.pn : Int) := by omega
      have hNf := hN.congr (Q := M.p) (U := V) (fun i hi => by simp [upToP, hi]) (fun i hi => hU i hi)
      have lR := lt_of_block hR
      have ks := b_set3 kw (Nat.le_refl _) (.int .i64 M.c) (.slice ta M.tn tc) (.slice (some ⟨w.heap.size + 1, 0, none⟩) M.pn M.pn)
      have hTf := HT.out.below kw
      have hHf := HH.out.below kw
      obtain ⟨r0, r1, r2, rf0, rf1, rf2⟩ := three hR
      go_wp2_with fail
      go_region
      have hTn := hTf.other (w' := (((wr.setCell ⟨w.heap.size, 0, none⟩ (.int .i64 M.c)).setCell ⟨w.heap.size, 1, none⟩ (.slice ta M.tn tc)).setCell ⟨w.heap.size, 2, none⟩ (.slice (some ⟨w.heap.size + 1, 0, none⟩) M.pn M.pn)).drew) hR (by decide) (fun y hy => heap_set3 wr _ _ _ _ hy)
      have hHn : HeapsAt (((wr.setCell ⟨w.heap.size, 0, none⟩ (.int .i64 M.c)).setCell ⟨w.heap.size, 1, none⟩ (.slice ta M.tn tc)).setCell ⟨w.heap.size, 2, none⟩ (.slice (some ⟨w.heap.size + 1, 0, none⟩) M.pn M.pn)).drew B M.pn M.p V :=
        hHf.other (fun i hi x hx => heap_set3 wr _ _ _ _ (own_ne (hHf.1 i hi) hR (by decide) x hx))
      have hLn : ListAt (((wr.setCell ⟨w.heap.size, 0, none⟩ (.int .i64 M.c)).setCell ⟨w.heap.size, 1, none⟩ (.slice ta M.tn tc)).setCell ⟨w.heap.size, 2, none⟩ (.slice (some ⟨w.heap.size + 1, 0, none⟩) M.pn M.pn)).drew B (w.heap.size + 1) M.pn M.pn M.p V :=
        (hNf.mono (by omega)).block (heap_set3 wr w.heap.size _ _ _ (by omega))
      have hRn : (((wr.setCell ⟨w.heap.size, 0, none⟩ (.int .i64 M.c)).setCell ⟨w.heap.size, 1, none⟩ (.slice ta M.tn tc)).setCell ⟨w.heap.size, 2, none⟩ (.slice (some ⟨w.heap.size + 1, 0, none⟩) M.pn M.pn)).drew.heap[w.heap.size]? = some (memO M.c (.slice ta M.tn tc) (.slice (some ⟨w.heap.size + 1, 0, none⟩) M.pn M.pn) 36) := block_set3 hR
      have kn := ks.drew
      clear r0 r1 r2 rf0 rf1 rf2
      obtain ⟨r0, r1, r2, _, _, _⟩ := three hRn
      generalize (((wr.setCell ⟨w.heap.size, 0, none⟩ (.int .i64 M.c)).setCell ⟨w.heap.size, 1, none⟩ (.slice ta M.tn tc)).setCell ⟨w.heap.size, 2, none⟩ (.slice (some ⟨w.heap.size + 1, 0, none⟩) M.pn M.pn)).drew = wz at hTn hHn hLn r0 r1 r2 kn ⊢
      go_wp2
      exact bodyPost_ret (v := meV M.c (.slice ta M.tn tc) (.slice (some ⟨w.heap.size + 1, 0, none⟩) M.pn M.pn)) (by simp [results, Tryz.results73, go_sem, r0, r1, r2]) rfl ⟨_, _, rfl, ⟨hTn, .inr ⟨_, _, V, rfl, hLn, hHn⟩⟩, kn⟩

end Go.Proofs.YtflekodaiejflaaGreatDoor

/-
  A step while it is made, in the program (chapter 9): begun, and shown.
-/
namespace Go.Proofs.YtflekodaiejflaaGreatDoor
open Go.Deep Go.RowKit Go.Joins
set_option linter.unusedVariables false
set_option linter.unusedSimpArgs false

set_option maxRecDepth 100000 in
set_option maxHeartbeats 8000000 in
theorem newDeed_no (a b c d : Int) (h : Hd) {tv pv : Value} {M : Me} {w : World} (hs : sizeM M ≤ 1048576) (hm : MemAt w tv pv M) (hf : stepFit a b c d M h = false) :
    Calls Tryz.prog 46 #[.agg #[.int .i64 a, .int .i64 b, .int .i64 c], meV M.c tv pv, .int .i64 d, hdV h] w (GaveUp w.heap.size w) := by
  obtain ⟨va, vc, qa, qc, rfl, rfl⟩ := hm.form
  have k0 := (((Below.refl w.heap.size w).alloc (Nat.le_refl _) (.cells #[.int .i64 a, .int .i64 b, .int .i64 c] 46)).alloc (by simp) (memO M.c (.slice va M.tn vc) (.slice qa M.pn qc) 36)).alloc (by simp; omega) (.cells (hdCells h) 39)
  have hP := alloc_block (.cells (hdCells h) 39) (alloc_block (memO M.c (.slice va M.tn vc) (.slice qa M.pn qc) 36) (heap_alloc_new w (.cells #[.int .i64 a, .int .i64 b, .int .i64 c] 46)))
  have hX := heap_alloc_new (w.alloc (.cells #[.int .i64 a, .int .i64 b, .int .i64 c] 46)) (memO M.c (.slice va M.tn vc) (.slice qa M.pn qc) 36)
  rw [show (w.alloc (.cells #[.int .i64 a, .int .i64 b, .int .i64 c] 46)).heap.size = w.heap.size + 1 by simp] at hX
  replace hX := alloc_block (.cells (hdCells h) 39) hX
  have hH := heap_alloc_new ((w.alloc (.cells #[.int .i64 a, .int .i64 b, .int .i64 c] 46)).alloc (memO M.c (.slice va M.tn vc) (.slice qa M.pn qc) 36)) (.cells (hdCells h) 39)
  rw [show ((w.alloc (.cells #[.int .i64 a, .int .i64 b, .int .i64 c] 46)).alloc (memO M.c (.slice va M.tn vc) (.slice qa M.pn qc) 36)).heap.size = w.heap.size + 1 + 1 by simp] at hH
  have HM := Lib.hid (hm.below k0)
  have HF := Lib.hid hf
  clear hm hf
  go_enter Tryz.func46, Tryz.ntmps46
  go_upto_region 1 with fail
  generalize ((w.alloc (.cells #[.int .i64 a, .int .i64 b, .int .i64 c] 46)).alloc (memO M.c (.slice va M.tn vc) (.slice qa M.pn qc) 36)).alloc (.cells (hdCells h) 39) = w1 at k0 hP hX hH HM ⊢
  obtain ⟨p0, p1, p2, _, _, _⟩ := three hP
  obtain ⟨x0, x1, x2, _, _, _⟩ := three hX
  obtain ⟨h0, h1, h2, h3, h4, h5, h6, h7, h8, h9, h10, h11, _⟩ := twelve hH
  go_wp2_with fail
  go_at_call 71; refine (imFit_any a b c d h hs HM.out).mono ?_; rw [HF.out]; rintro e w2 ⟨rfl, hb⟩
  clear p0 p1 p2 x0 x1 x2 h0 h1 h2 h3 h4 h5 h6 h7 h8 h9 h10 h11 hP hX hH
  go_wp2_with (go_at_call 50; refine (giveUp_any _).mono ?_; rintro e w1 ⟨⟨u, pv, rfl⟩, rfl⟩)
  exact ⟨rfl, ⟨_, _, rfl⟩, k0.trans (hb.mono k0.size)⟩

set_option maxRecDepth 100000 in
set_option maxHeartbeats 8000000 in
theorem newDeed_yes (a b c d : Int) (h : Hd) {tv pv : Value} {M : Me} {w : World} (hs : sizeM M ≤ 1048576) (hm : MemAt w tv pv M) (hf : stepFit a b c d M h = true) :
    Calls Tryz.prog 46 #[.agg #[.int .i64 a, .int .i64 b, .int .i64 c], meV M.c tv pv, .int .i64 d, hdV h] w fun e w' => ∃ mb db, e = .returned (ptrV db) ∧ DeedX w' w.heap.size mb db a b c d ⟨M, h, et0⟩ ∧ Below w.heap.size w w' := by
  have hok : memOkB a b c M = true := by rw [stepFit, Bool.and_eq_true] at hf; exact hf.1
  obtain ⟨va, vc, qa, qc, rfl, rfl⟩ := hm.form
  have k0 := (((Below.refl w.heap.size w).alloc (Nat.le_refl _) (.cells #[.int .i64 a, .int .i64 b, .int .i64 c] 46)).alloc (by simp) (memO M.c (.slice va M.tn vc) (.slice qa M.pn qc) 36)).alloc (by simp; omega) (.cells (hdCells h) 39)
  have hP := alloc_block (.cells (hdCells h) 39) (alloc_block (memO M.c (.slice va M.tn vc) (.slice qa M.pn qc) 36) (heap_alloc_new w (.cells #[.int .i64 a, .int .i64 b, .int .i64 c] 46)))
  have hX := heap_alloc_new (w.alloc (.cells #[.int .i64 a, .int .i64 b, .int .i64 c] 46)) (memO M.c (.slice va M.tn vc) (.slice qa M.pn qc) 36)
  rw [show (w.alloc (.cells #[.int .i64 a, .int .i64 b, .int .i64 c] 46)).heap.size = w.heap.size + 1 by simp] at hX
  replace hX := alloc_block (.cells (hdCells h) 39) hX
  have hH := heap_alloc_new ((w.alloc (.cells #[.int .i64 a, .int .i64 b, .int .i64 c] 46)).alloc (memO M.c (.slice va M.tn vc) (.slice qa M.pn qc) 36)) (.cells (hdCells h) 39)
  rw [show ((w.alloc (.cells #[.int .i64 a, .int .i64 b, .int .i64 c] 46)).alloc (memO M.c (.slice va M.tn vc) (.slice qa M.pn qc) 36)).heap.size = w.heap.size + 1 + 1 by simp] at hH
  have HM := Lib.hid (hm.below k0)
  have HF := Lib.hid hf
  clear hm hf
  go_enter Tryz.func46, Tryz.ntmps46
  go_upto_region 1 with fail
  generalize ((w.alloc (.cells #[.int .i64 a, .int .i64 b, .int .i64 c] 46)).alloc (memO M.c (.slice va M.tn vc) (.slice qa M.pn qc) 36)).alloc (.cells (hdCells h) 39) = w1 at k0 hP hX hH HM ⊢
  obtain ⟨p0, p1, p2, _, _, _⟩ := three hP
  obtain ⟨x0, x1, x2, _, _, _⟩ := three hX
  obtain ⟨h0, h1, h2, h3, h4, h5, h6, h7, h8, h9, h10, h11, _⟩ := twelve hH
  go_wp2_with fail
  go_at_call 71; refine (imFit_any a b c d h hs HM.out).mono ?_; rw [HF.out]; rintro e w2 ⟨rfl, hb⟩
  have k2 := k0.trans (hb.mono k0.size)
  replace hP := b_block hb hP (lt_of_block hP)
  replace hX := b_block hb hX (lt_of_block hX)
  replace hH := b_block hb hH (lt_of_block hH)
  have HM2 := Lib.hid (HM.out.below hb)
  clear p0 p1 p2 x0 x1 x2 h0 h1 h2 h3 h4 h5 h6 h7 h8 h9 h10 h11 hb k0 HM
  have lP := lt_of_block hP
  have lX := lt_of_block hX
  have lH := lt_of_block hH
  obtain ⟨p0, p1, p2, _, _, _⟩ := three hP
  obtain ⟨x0, x1, x2, _, _, _⟩ := three hX
  obtain ⟨h0, h1, h2, h3, h4, h5, h6, h7, h8, h9, h10, h11, _⟩ := twelve hH
  go_upto_region 3 with fail
  refine wp_region_T (fun w' => w'.cell? ⟨w.heap.size, 0, none⟩ = some (.int .i64 a) ∧ w'.cell? ⟨w.heap.size, 1, none⟩ = some (.int .i64 b) ∧ w'.cell? ⟨w.heap.size, 2, none⟩ = some (.int .i64 c) ∧ w'.cell? ⟨w.heap.size + 1, 0, none⟩ = some (.int .i64 M.c) ∧ w'.cell? ⟨w.heap.size + 1, 1, none⟩ = some (.slice va M.tn vc) ∧ w'.cell? ⟨w.heap.size + 1, 2, none⟩ = some (.slice qa M.pn qc) ∧ w'.cell? ⟨w.heap.size + 1 + 1, 0, none⟩ = some (.int .i64 h.pos) ∧ w'.cell? ⟨w.heap.size + 1 + 1, 1, none⟩ = some (.int .i64 h.call.code) ∧ w'.cell? ⟨w.heap.size + 1 + 1, 2, none⟩ = some (.int .i64 h.call.a) ∧ w'.cell? ⟨w.heap.size + 1 + 1, 3, none⟩ = some (.int .i64 h.call.b) ∧ w'.cell? ⟨w.heap.size + 1 + 1, 4, none⟩ = some (.int .i64 h.call.c) ∧ w'.cell? ⟨w.heap.size + 1 + 1, 5, none⟩ = some (.int .i64 h.tim) ∧ w'.cell? ⟨w.heap.size + 1 + 1, 6, none⟩ = some (.int .i64 h.whe) ∧ w'.cell? ⟨w.heap.size + 1 + 1, 7, none⟩ = some (.bool h.had) ∧ w'.cell? ⟨w.heap.size + 1 + 1, 8, none⟩ = some (.int .i64 h.cnt) ∧ w'.cell? ⟨w.heap.size + 1 + 1, 9, none⟩ = some (.int .i64 h.beg) ∧ w'.cell? ⟨w.heap.size + 1 + 1, 10, none⟩ = some (.int .i64 h.rep) ∧ w'.cell? ⟨w.heap.size + 1 + 1, 11, none⟩ = some (.int .i64 h.out)) 7 (by kernel_rfl) ?_
  have hS : w2.drew.cell? ⟨w.heap.size, 0, none⟩ = some (.int .i64 a) ∧ w2.drew.cell? ⟨w.heap.size, 1, none⟩ = some (.int .i64 b) ∧ w2.drew.cell? ⟨w.heap.size, 2, none⟩ = some (.int .i64 c) ∧ w2.drew.cell? ⟨w.heap.size + 1, 0, none⟩ = some (.int .i64 M.c) ∧ w2.drew.cell? ⟨w.heap.size + 1, 1, none⟩ = some (.slice va M.tn vc) ∧ w2.drew.cell? ⟨w.heap.size + 1, 2, none⟩ = some (.slice qa M.pn qc) ∧ w2.drew.cell? ⟨w.heap.size + 1 + 1, 0, none⟩ = some (.int .i64 h.pos) ∧ w2.drew.cell? ⟨w.heap.size + 1 + 1, 1, none⟩ = some (.int .i64 h.call.code) ∧ w2.drew.cell? ⟨w.heap.size + 1 + 1, 2, none⟩ = some (.int .i64 h.call.a) ∧ w2.drew.cell? ⟨w.heap.size + 1 + 1, 3, none⟩ = some (.int .i64 h.call.b) ∧ w2.drew.cell? ⟨w.heap.size + 1 + 1, 4, none⟩ = some (.int .i64 h.call.c) ∧ w2.drew.cell? ⟨w.heap.size + 1 + 1, 5, none⟩ = some (.int .i64 h.tim) ∧ w2.drew.cell? ⟨w.heap.size + 1 + 1, 6, none⟩ = some (.int .i64 h.whe) ∧ w2.drew.cell? ⟨w.heap.size + 1 + 1, 7, none⟩ = some (.bool h.had) ∧ w2.drew.cell? ⟨w.heap.size + 1 + 1, 8, none⟩ = some (.int .i64 h.cnt) ∧ w2.drew.cell? ⟨w.heap.size + 1 + 1, 9, none⟩ = some (.int .i64 h.beg) ∧ w2.drew.cell? ⟨w.heap.size + 1 + 1, 10, none⟩ = some (.int .i64 h.rep) ∧ w2.drew.cell? ⟨w.heap.size + 1 + 1, 11, none⟩ = some (.int .i64 h.out) := ⟨p0, p1, p2, x0, x1, x2, h0, h1, h2, h3, h4, h5, h6, h7, h8, h9, h10, h11⟩
  refine wpAnyT_take (i := 0) (v := ?v0_1) rfl (by kernel_rfl) (by kernel_rfl) (by kernel_rfl) (by kernel_rfl) (fun _ _ _ h => h) (Or.inl ⟨by rfl, ?hy0_1⟩) hS ?rest0_1
  case hy0_1 => intro w' hSw; obtain ⟨s0, s1, s2, s3, s4, s5, s6, s7, s8, s9, s10, s11, s12, s13, s14, s15, s16, s17⟩ := hSw; go_simp; try with_reducible rfl
  simp only [Act.put, List.setIfInBounds_toArray, List.set_cons_zero, List.set_cons_succ]
  refine wpAnyT_take (i := 1) (v := ?v1_2) rfl (by kernel_rfl) (by kernel_rfl) (by kernel_rfl) (by kernel_rfl) (fun _ _ _ h => h) (Or.inl ⟨by rfl, ?hy1_2⟩) hS ?rest1_2
  case hy1_2 => intro w' hSw; obtain ⟨s0, s1, s2, s3, s4, s5, s6, s7, s8, s9, s10, s11, s12, s13, s14, s15, s16, s17⟩ := hSw; go_simp; try with_reducible rfl
  simp only [Act.put, List.setIfInBounds_toArray, List.set_cons_zero, List.set_cons_succ]
  refine wpAnyT_take (i := 3) (v := ?v3_3) rfl (by kernel_rfl) (by kernel_rfl) (by kernel_rfl) (by kernel_rfl) (fun _ _ _ h => h) (Or.inl ⟨by rfl, ?hy3_3⟩) hS ?rest3_3
  case hy3_3 => intro w' hSw; obtain ⟨s0, s1, s2, s3, s4, s5, s6, s7, s8, s9, s10, s11, s12, s13, s14, s15, s16, s17⟩ := hSw; go_simp; try with_reducible rfl
  simp only [Act.put, List.setIfInBounds_toArray, List.set_cons_zero, List.set_cons_succ]
  refine wpAnyT_take (i := 4) (v := ?v4_4) rfl (by kernel_rfl) (by kernel_rfl) (by kernel_rfl) (by kernel_rfl) (fun _ _ _ h => h) (Or.inl ⟨by rfl, ?hy4_4⟩) hS ?rest4_4
  case hy4_4 => intro w' hSw; obtain ⟨s0, s1, s2, s3, s4, s5, s6, s7, s8, s9, s10, s11, s12, s13, s14, s15, s16, s17⟩ := hSw; go_simp; try with_reducible rfl
  simp only [Act.put, List.setIfInBounds_toArray, List.set_cons_zero, List.set_cons_succ]
  refine wpAnyT_one (i := 2) (by kernel_rfl) rfl (by rfl) fun K hK => ?_
  go_simp
  have kd := (Below.refl w2.heap.size w2).drew
  go_at_call 72; refine (ownMemory_yes a b c hs (HM2.out.below kd) hok).mono ?_; rintro e w3 ⟨mb, rfl, hO, hb⟩
  have k3 := k2.trans ((kd.trans hb).mono k2.size)
  have hb3 : Below w2.heap.size w2 w3 := kd.trans hb
  replace hP := b_block hb3 hP lP
  replace hX := b_block hb3 hX lX
  replace hH := b_block hb3 hH lH
  replace hO := hO.mono (B' := w.heap.size) k2.size
  have q0 := three hP
  have q1 := three hX
  have q2 := twelve hH
  have hS3 : w3.cell? ⟨w.heap.size, 0, none⟩ = some (.int .i64 a) ∧ w3.cell? ⟨w.heap.size, 1, none⟩ = some (.int .i64 b) ∧ w3.cell? ⟨w.heap.size, 2, none⟩ = some (.int .i64 c) ∧ w3.cell? ⟨w.heap.size + 1, 0, none⟩ = some (.int .i64 M.c) ∧ w3.cell? ⟨w.heap.size + 1, 1, none⟩ = some (.slice va M.tn vc) ∧ w3.cell? ⟨w.heap.size + 1, 2, none⟩ = some (.slice qa M.pn qc) ∧ w3.cell? ⟨w.heap.size + 1 + 1, 0, none⟩ = some (.int .i64 h.pos) ∧ w3.cell? ⟨w.heap.size + 1 + 1, 1, none⟩ = some (.int .i64 h.call.code) ∧ w3.cell? ⟨w.heap.size + 1 + 1, 2, none⟩ = some (.int .i64 h.call.a) ∧ w3.cell? ⟨w.heap.size + 1 + 1, 3, none⟩ = some (.int .i64 h.call.b) ∧ w3.cell? ⟨w.heap.size + 1 + 1, 4, none⟩ = some (.int .i64 h.call.c) ∧ w3.cell? ⟨w.heap.size + 1 + 1, 5, none⟩ = some (.int .i64 h.tim) ∧ w3.cell? ⟨w.heap.size + 1 + 1, 6, none⟩ = some (.int .i64 h.whe) ∧ w3.cell? ⟨w.heap.size + 1 + 1, 7, none⟩ = some (.bool h.had) ∧ w3.cell? ⟨w.heap.size + 1 + 1, 8, none⟩ = some (.int .i64 h.cnt) ∧ w3.cell? ⟨w.heap.size + 1 + 1, 9, none⟩ = some (.int .i64 h.beg) ∧ w3.cell? ⟨w.heap.size + 1 + 1, 10, none⟩ = some (.int .i64 h.rep) ∧ w3.cell? ⟨w.heap.size + 1 + 1, 11, none⟩ = some (.int .i64 h.out) := ⟨q0.1, q0.2.1, q0.2.2.1, q1.1, q1.2.1, q1.2.2.1, q2.1, q2.2.1, q2.2.2.1, q2.2.2.2.1, q2.2.2.2.2.1, q2.2.2.2.2.2.1, q2.2.2.2.2.2.2.1, q2.2.2.2.2.2.2.2.1, q2.2.2.2.2.2.2.2.2.1, q2.2.2.2.2.2.2.2.2.2.1, q2.2.2.2.2.2.2.2.2.2.2.1, q2.2.2.2.2.2.2.2.2.2.2.2.1⟩
  refine hK _ _ (.inr hS3) ?_
  clear hK K
  (try simp only [Act.put, List.setIfInBounds_toArray, List.set_cons_zero, List.set_cons_succ])
  refine wpAnyT_take (i := 5) (v := ?v5_5) rfl (by kernel_rfl) (by kernel_rfl) (by kernel_rfl) (by kernel_rfl) (fun _ _ _ h => h) (Or.inl ⟨by rfl, ?hy5_5⟩) hS3 ?rest5_5
  case hy5_5 => intro w' hSw; obtain ⟨s0, s1, s2, s3, s4, s5, s6, s7, s8, s9, s10, s11, s12, s13, s14, s15, s16, s17⟩ := hSw; go_simp; try with_reducible rfl
  simp only [Act.put, List.setIfInBounds_toArray, List.set_cons_zero, List.set_cons_succ]
  refine wpAnyT_one (i := 6) (by kernel_rfl) rfl (by rfl) fun K hK => ?_
  go_simp
  have kN := (Below.refl w3.heap.size w3).alloc (Nat.le_refl _) (ddO mb d h et0)
  have hS4 : (w3.alloc (ddO mb d h et0)).cell? ⟨w.heap.size, 0, none⟩ = some (.int .i64 a) ∧ (w3.alloc (ddO mb d h et0)).cell? ⟨w.heap.size, 1, none⟩ = some (.int .i64 b) ∧ (w3.alloc (ddO mb d h et0)).cell? ⟨w.heap.size, 2, none⟩ = some (.int .i64 c) ∧ (w3.alloc (ddO mb d h et0)).cell? ⟨w.heap.size + 1, 0, none⟩ = some (.int .i64 M.c) ∧ (w3.alloc (ddO mb d h et0)).cell? ⟨w.heap.size + 1, 1, none⟩ = some (.slice va M.tn vc) ∧ (w3.alloc (ddO mb d h et0)).cell? ⟨w.heap.size + 1, 2, none⟩ = some (.slice qa M.pn qc) ∧ (w3.alloc (ddO mb d h et0)).cell? ⟨w.heap.size + 1 + 1, 0, none⟩ = some (.int .i64 h.pos) ∧ (w3.alloc (ddO mb d h et0)).cell? ⟨w.heap.size + 1 + 1, 1, none⟩ = some (.int .i64 h.call.code) ∧ (w3.alloc (ddO mb d h et0)).cell? ⟨w.heap.size + 1 + 1, 2, none⟩ = some (.int .i64 h.call.a) ∧ (w3.alloc (ddO mb d h et0)).cell? ⟨w.heap.size + 1 + 1, 3, none⟩ = some (.int .i64 h.call.b) ∧ (w3.alloc (ddO mb d h et0)).cell? ⟨w.heap.size + 1 + 1, 4, none⟩ = some (.int .i64 h.call.c) ∧ (w3.alloc (ddO mb d h et0)).cell? ⟨w.heap.size + 1 + 1, 5, none⟩ = some (.int .i64 h.tim) ∧ (w3.alloc (ddO mb d h et0)).cell? ⟨w.heap.size + 1 + 1, 6, none⟩ = some (.int .i64 h.whe) ∧ (w3.alloc (ddO mb d h et0)).cell? ⟨w.heap.size + 1 + 1, 7, none⟩ = some (.bool h.had) ∧ (w3.alloc (ddO mb d h et0)).cell? ⟨w.heap.size + 1 + 1, 8, none⟩ = some (.int .i64 h.cnt) ∧ (w3.alloc (ddO mb d h et0)).cell? ⟨w.heap.size + 1 + 1, 9, none⟩ = some (.int .i64 h.beg) ∧ (w3.alloc (ddO mb d h et0)).cell? ⟨w.heap.size + 1 + 1, 10, none⟩ = some (.int .i64 h.rep) ∧ (w3.alloc (ddO mb d h et0)).cell? ⟨w.heap.size + 1 + 1, 11, none⟩ = some (.int .i64 h.out) := by
    obtain ⟨c0, c1, c2, c3, c4, c5, c6, c7, c8, c9, c10, c11, c12, c13, c14, c15, c16, c17⟩ := hS3
    have l1 := lt_of_block hP
    have l2 := lt_of_block hX
    have l3 := lt_of_block hH
    exact ⟨(kN.cell (p := ⟨w.heap.size, 0, none⟩) l1).trans c0, (kN.cell (p := ⟨w.heap.size, 1, none⟩) l1).trans c1, (kN.cell (p := ⟨w.heap.size, 2, none⟩) l1).trans c2, (kN.cell (p := ⟨w.heap.size + 1, 0, none⟩) l2).trans c3, (kN.cell (p := ⟨w.heap.size + 1, 1, none⟩) l2).trans c4, (kN.cell (p := ⟨w.heap.size + 1, 2, none⟩) l2).trans c5, (kN.cell (p := ⟨w.heap.size + 1 + 1, 0, none⟩) l3).trans c6, (kN.cell (p := ⟨w.heap.size + 1 + 1, 1, none⟩) l3).trans c7, (kN.cell (p := ⟨w.heap.size + 1 + 1, 2, none⟩) l3).trans c8, (kN.cell (p := ⟨w.heap.size + 1 + 1, 3, none⟩) l3).trans c9, (kN.cell (p := ⟨w.heap.size + 1 + 1, 4, none⟩) l3).trans c10, (kN.cell (p := ⟨w.heap.size + 1 + 1, 5, none⟩) l3).trans c11, (kN.cell (p := ⟨w.heap.size + 1 + 1, 6, none⟩) l3).trans c12, (kN.cell (p := ⟨w.heap.size + 1 + 1, 7, none⟩) l3).trans c13, (kN.cell (p := ⟨w.heap.size + 1 + 1, 8, none⟩) l3).trans c14, (kN.cell (p := ⟨w.heap.size + 1 + 1, 9, none⟩) l3).trans c15, (kN.cell (p := ⟨w.heap.size + 1 + 1, 10, none⟩) l3).trans c16, (kN.cell (p := ⟨w.heap.size + 1 + 1, 11, none⟩) l3).trans c17⟩
  refine hK _ _ (.inr hS4) ?_
  clear hK K
  (try simp only [Act.put, List.setIfInBounds_toArray, List.set_cons_zero, List.set_cons_succ])
  refine wpAnyT_one (i := 7) (by kernel_rfl) rfl (by rfl) fun K hK => ?_
  go_simp
  refine hK _ _ (.inr hS4) ?_
  clear hK K
  (try simp only [Act.put, List.setIfInBounds_toArray, List.set_cons_zero, List.set_cons_succ])
  refine wpAnyT_done (by kernel_rfl) ?_ _
  have hN := heap_alloc_new w3 (ddO mb d h et0)
  have s3 := k3.size
  have hD : DeedX (w3.alloc (ddO mb d h et0)) w.heap.size mb w3.heap.size a b c d ⟨M, h, et0⟩ := ⟨s3, hN, hO.below kN⟩
  have k4 := k3.trans (kN.mono s3)
  clear hS hS3 hS4 hP hX hH p0 p1 p2 x0 x1 x2 h0 h1 h2 h3 h4 h5 h6 h7 h8 h9 h10 h11 q0 q1 q2 hb hb3 kd
  go_wp2
  go_ret
  exact ⟨_, _, rfl, hD, k4⟩

end Go.Proofs.YtflekodaiejflaaGreatDoor

/-
  What is done to a slot and to a timer in a memory of one's own (spec, chapter 6): put on one.
-/
namespace Go.Proofs.YtflekodaiejflaaGreatDoor
open Go.RowKit Go.Joins
set_option linter.unusedVariables false
set_option linter.unusedSimpArgs false

end Go.Proofs.YtflekodaiejflaaGreatDoor

/-
  Tidying up, in a memory of one's own (spec, chapter 6): armed.
-/
namespace Go.Proofs.YtflekodaiejflaaGreatDoor
open Go.RowKit Go.Joins
set_option linter.unusedVariables false
set_option linter.unusedSimpArgs false

end Go.Proofs.YtflekodaiejflaaGreatDoor

/-
  A timer comes into its heap (spec, chapter 9).
-/
namespace Go.Proofs.YtflekodaiejflaaGreatDoor
open Go.Deep Go.ChangeShapes Go.WideShapes Go.ChangeAt Go.RowKit Go.Joins
set_option linter.unusedVariables false
set_option linter.unusedSimpArgs false

theorem own_zero (w : World) (B : Nat) : OwnMem w B (.slice none 0 0) (.slice none 0 0) me0 := ⟨.inl ⟨rfl, rfl⟩, .inl ⟨rfl, rfl⟩⟩
section
variable {w0 w w' : World} {B A R pg pn pc : Nat} {c : Int} {tv : Value} {V : Nat → Value} {M : Me} {h : Hd} {v : Et}
theorem DSt.zeroC (s : DSt w0 w B A R c tv pg pn pc V M h v) : InDnB B dn0 false w0 (.returned (.tuple #[.agg #[.int .i64 0, .slice none 0 0, .slice none 0 0, .int .i64 0, .int .i64 0, .int .i64 0, .int .i64 0, .int .i64 0, .int .i64 0, .int .i64 0, .bool false, .int .i64 0, .int .i64 0, .int .i64 0, .int .i64 0, .int .i64 0, .int .i64 0, .int .i64 0, .int .i64 0, .int .i64 0], .bool false])) (w.setCells R 0 [.int .i64 0, .slice none 0 0, .slice none 0 0, .int .i64 0, .int .i64 0, .int .i64 0, .int .i64 0, .int .i64 0, .int .i64 0, .int .i64 0, .bool false, .int .i64 0, .int .i64 0, .int .i64 0, .int .i64 0, .int .i64 0, .int .i64 0, .int .i64 0, .int .i64 0, .int .i64 0]) :=
  ⟨_, _, rfl, own_zero _ _, wk_setCells s.b s.lr _ 0 s.k⟩
theorem DSt.zlies (s : DSt w0 w B A R c tv pg pn pc V M h v) : (w.setCells R 0 [.int .i64 0, .slice none 0 0, .slice none 0 0, .int .i64 0, .int .i64 0, .int .i64 0, .int .i64 0, .int .i64 0, .int .i64 0, .int .i64 0, .bool false, .int .i64 0, .int .i64 0, .int .i64 0, .int .i64 0, .int .i64 0, .int .i64 0, .int .i64 0, .int .i64 0, .int .i64 0]).rangeAt R 0 [.int .i64 0, .slice none 0 0, .slice none 0 0, .int .i64 0, .int .i64 0, .int .i64 0, .int .i64 0, .int .i64 0, .int .i64 0, .int .i64 0, .bool false, .int .i64 0, .int .i64 0, .int .i64 0, .int .i64 0, .int .i64 0, .int .i64 0, .int .i64 0, .int .i64 0, .int .i64 0] := by
  have ht : w.there R 0 20 := there_of_block s.r
  exact World.rangeAt_setCells_same _ _ _ _ ht
/-- what a call answered comes into the parameter's block -/
theorem DSt.call {pg' pc' : Nat} {tv' : Value} {V' : Nat → Value} {M' : Me} (s : DSt w0 w B A R c tv pg pn pc V M h v) (ho : OpenMem w' B tv' pg' pc' V' M') (hk : Wk B w w') (hc : M'.c = c) (hp : M'.pn = pn) :
    ∃ wq, RowKit.Hid (wq = ((w'.setCell ⟨A, 0, none⟩ (.int .i64 c)).setCell ⟨A, 1, none⟩ tv').setCell ⟨A, 2, none⟩ (.slice (some ⟨pg', 0, none⟩) pn pc')) ∧ DSt w0 wq B A R c tv' pg' pn pc' V' M' h v := by
  have hA := hk.kept s.a (by decide)
  have ha := block_setCell (i := 2) (block_setCell (i := 1) (block_setCell (i := 0) hA (.int .i64 c)) tv') (.slice (some ⟨pg', 0, none⟩) pn pc')
  simp only [List.setIfInBounds_toArray, List.set_cons_zero, List.set_cons_succ] at ha
  exact ⟨_, Lib.hid rfl, ho.other hA (by decide) (by decide) (by decide) (fun y hy => heap_set3 w' A _ _ _ hy), (s.k.trans hk).setNew3 s.b s.la _ _ _, ha, (heap_set3 w' A _ _ _ (Ne.symm s.ne)).trans (hk.kept s.r (by decide)), s.b, s.la, s.lr, s.ne, hc, hp⟩
end
theorem results_pair {P : Program} {fn : Func} {sl sb : Tmp} {T : TypeId} {tmps : Array Value} {w : World} {b : Nat} {cs : List Value} {d : TypeDesc} {x : Value} (hr : fn.results = #[.cell sl T, .tmp sb]) (ht : tmps.getD sl undef = .pointer (some ⟨b, 0, none⟩)) (hb : tmps.getD sb undef = x) (hc : w.rangeAt b 0 cs)
    (hu : P.underlying T = some d) (hd : d.isRow = true) (hi : (P.info? T).map (·.size) = some cs.length) : (results fn tmps).run P w = .ok (.tuple #[.agg cs.toArray, x]) w := by
  have hl := run_loadVar_mid w b 0 T cs d hc hu hd hi
  have ht2 : tmps[sl]?.getD undef = .pointer (some ⟨b, 0, none⟩) := by simpa using ht
  have hb2 : tmps[sb]?.getD undef = x := by simpa using hb
  simp [results, hr, ht2, hb2, asAddr, hl]

theorem DSt.tlt {w0 w : World} {B A R pg pn pc tg n tc t : Nat} {c : Int} {V : Nat → Value} {M : Me} {h : Hd} {v : Et} (s : DSt w0 w B A R c (.slice (some ⟨tg, 0, none⟩) n tc) pg pn pc V M h v) (ht : t < M.tn) : tg < w.heap.size := by
  have hn := s.o.t.len
  subst hn
  exact s.o.t.at.lt
end Go.Proofs.YtflekodaiejflaaGreatDoor

/-
  A worker's processor (spec, chapter 1).
-/
namespace Go.Proofs.YtflekodaiejflaaGreatDoor
open Go.RowKit Go.Joins
set_option linter.unusedVariables false
set_option linter.unusedSimpArgs false

def homeI (a b c w : Int) : Int := if workB a b c w then w % a else -1

end Go.Proofs.YtflekodaiejflaaGreatDoor

/-
  The step of creating (spec, chapter 9).
-/
namespace Go.Proofs.YtflekodaiejflaaGreatDoor
open Go.Deep Go.ChangeShapes Go.WideShapes Go.ChangeAt Go.RowKit Go.Joins
set_option linter.unusedVariables false
set_option linter.unusedSimpArgs false

theorem OwnMemIn.own {w : World} {B C : Nat} {tv pv : Value} {M : Me} (h : OwnMemIn w B C tv pv M) : OwnMem w B tv pv M := by
  refine ⟨?_, ?_⟩
  · rcases h.1 with h | ⟨g, cap, e, h, _⟩
    · exact .inl h
    · exact .inr ⟨g, cap, e, h⟩
  · rcases h.2 with h | ⟨g, cap, V, e, h, _⟩
    · exact .inl h
    · exact .inr ⟨g, cap, V, e, h⟩
/-- what a call answered comes into the answer's block -/
theorem InDnB.put {B R : Nat} {D : Dn} {q : Bool} {w0 w1 w' : World} {e : Ending} {Z : Array Value} (hI : InDnB B D q w1 e w') (k : Wk B w0 w1) (hB : B ≤ w0.heap.size) (lr : w0.heap.size ≤ R) (hR : w1.heap[R]? = some (.cells Z 43 (0, 0))) (hz : Z.size = 20) :
    ∃ ta tn tc pa pn pc, e = .returned (.tuple #[dnV D (.slice ta tn tc) (.slice pa pn pc), .bool q]) ∧ w'.there R 0 20 ∧ (w'.setCells R 0 (dnCells D (.slice ta tn tc) (.slice pa pn pc)).toList).rangeAt R 0 (dnCells D (.slice ta tn tc) (.slice pa pn pc)).toList ∧
      InDnB B D q w0 (.returned (.tuple #[dnV D (.slice ta tn tc) (.slice pa pn pc), .bool q])) (w'.setCells R 0 (dnCells D (.slice ta tn tc) (.slice pa pn pc)).toList) := by
  obtain ⟨tv, pv, rfl, ho, hk⟩ := hI
  obtain ⟨ta, tc, pa, pc, rfl, rfl⟩ := ho.at.form
  have hR' := hk.kept hR (by decide)
  have ht : w'.there R 0 20 := by rw [← hz]; exact there_of_block hR'
  exact ⟨ta, _, tc, pa, _, pc, rfl, ht, World.rangeAt_setCells_same _ _ _ _ ht, _, _, rfl, (ho.setCells _ hR').own, wk_setCells hB lr _ 0 (k.trans hk)⟩
theorem InDn.put {B R : Nat} {D : Dn} {w0 w1 w' : World} {e : Ending} {Z : Array Value} (q : Bool) (hI : InDn B D w1 e w') (k : Wk B w0 w1) (hB : B ≤ w0.heap.size) (lr : w0.heap.size ≤ R) (hR : w1.heap[R]? = some (.cells Z 43 (0, 0))) (hz : Z.size = 20) :
    ∃ ta tn tc pa pn pc, e = .returned (dnV D (.slice ta tn tc) (.slice pa pn pc)) ∧ w'.there R 0 20 ∧ (w'.setCells R 0 (dnCells D (.slice ta tn tc) (.slice pa pn pc)).toList).rangeAt R 0 (dnCells D (.slice ta tn tc) (.slice pa pn pc)).toList ∧
      InDnB B D q w0 (.returned (.tuple #[dnV D (.slice ta tn tc) (.slice pa pn pc), .bool q])) (w'.setCells R 0 (dnCells D (.slice ta tn tc) (.slice pa pn pc)).toList) := by
  obtain ⟨tv, pv, rfl, ho, hk⟩ := hI
  obtain ⟨ta, tc, pa, pc, rfl, rfl⟩ := ho.at.form
  have hR' := hk.kept hR (by decide)
  have ht : w'.there R 0 20 := by rw [← hz]; exact there_of_block hR'
  exact ⟨ta, _, tc, pa, _, pc, rfl, ht, World.rangeAt_setCells_same _ _ _ _ ht, _, _, rfl, (ho.setCells _ hR').own, wk_setCells hB lr _ 0 (k.trans hk)⟩

end Go.Proofs.YtflekodaiejflaaGreatDoor

/-
  A step while it is made, in the program (chapter 9): shown.
-/
namespace Go.Proofs.YtflekodaiejflaaGreatDoor
open Go.Deep Go.RowKit Go.Joins
set_option linter.unusedVariables false
set_option linter.unusedSimpArgs false

set_option maxRecDepth 100000 in
set_option maxHeartbeats 16000000 in
theorem done_any {w : World} {B mb db : Nat} {a b c d : Int} {D : Dn} (hs : sizeM D.m ≤ 1048576) (hB : B ≤ w.heap.size) (h : DeedX w B mb db a b c d D) :
    Calls Tryz.prog 47 #[ptrV db] w fun e w' => ∃ tv pv, e = .returned (dnV D tv pv) ∧ OwnMem w' B tv pv D.m ∧ Below w.heap.size w w' := by
  have k0 := (Below.refl w.heap.size w).alloc (Nat.le_refl _) (.cells #[.int .i64 0, .slice none 0 0, .slice none 0 0, .int .i64 0, .int .i64 0, .int .i64 0, .int .i64 0, .int .i64 0, .int .i64 0, .int .i64 0, .bool false, .int .i64 0, .int .i64 0, .int .i64 0, .int .i64 0, .int .i64 0, .int .i64 0, .int .i64 0, .int .i64 0, .int .i64 0] 43)
  have hR := heap_alloc_new w (.cells #[.int .i64 0, .slice none 0 0, .slice none 0 0, .int .i64 0, .int .i64 0, .int .i64 0, .int .i64 0, .int .i64 0, .int .i64 0, .int .i64 0, .bool false, .int .i64 0, .int .i64 0, .int .i64 0, .int .i64 0, .int .i64 0, .int .i64 0, .int .i64 0, .int .i64 0, .int .i64 0] 43)
  go_enter Tryz.func47, Tryz.ntmps47
  go_upto_region 1 with fail
  replace h := h.below k0
  have e0 : (w.alloc (.cells #[.int .i64 0, .slice none 0 0, .slice none 0 0, .int .i64 0, .int .i64 0, .int .i64 0, .int .i64 0, .int .i64 0, .int .i64 0, .int .i64 0, .bool false, .int .i64 0, .int .i64 0, .int .i64 0, .int .i64 0, .int .i64 0, .int .i64 0, .int .i64 0, .int .i64 0, .int .i64 0] 43)).heap.size = w.heap.size + 1 := by simp
  generalize w.alloc (.cells #[.int .i64 0, .slice none 0 0, .slice none 0 0, .int .i64 0, .int .i64 0, .int .i64 0, .int .i64 0, .int .i64 0, .int .i64 0, .int .i64 0, .bool false, .int .i64 0, .int .i64 0, .int .i64 0, .int .i64 0, .int .i64 0, .int .i64 0, .int .i64 0, .int .i64 0, .int .i64 0] 43) = w1 at h k0 hR e0 ⊢
  generalize hRb : w.heap.size = R at hR k0 e0 hB ⊢
  have kd := (Below.refl w1.heap.size w1).drew
  refine wp_region_T (fun w' => w'.cell? ⟨db, 0, none⟩ = some (ptrV mb) ∧ w'.cell? ⟨db, 2, none⟩ = some (.int .i64 D.h.pos) ∧ w'.cell? ⟨db, 3, none⟩ = some (.int .i64 D.h.call.code) ∧ w'.cell? ⟨db, 4, none⟩ = some (.int .i64 D.h.call.a) ∧ w'.cell? ⟨db, 5, none⟩ = some (.int .i64 D.h.call.b) ∧ w'.cell? ⟨db, 6, none⟩ = some (.int .i64 D.h.call.c) ∧ w'.cell? ⟨db, 7, none⟩ = some (.int .i64 D.h.tim) ∧ w'.cell? ⟨db, 8, none⟩ = some (.int .i64 D.h.whe) ∧ w'.cell? ⟨db, 9, none⟩ = some (.bool D.h.had) ∧ w'.cell? ⟨db, 10, none⟩ = some (.int .i64 D.h.cnt) ∧ w'.cell? ⟨db, 11, none⟩ = some (.int .i64 D.h.beg) ∧ w'.cell? ⟨db, 12, none⟩ = some (.int .i64 D.h.rep) ∧ w'.cell? ⟨db, 13, none⟩ = some (.int .i64 D.h.out) ∧ w'.cell? ⟨db, 14, none⟩ = some (.int .i64 D.v.kin) ∧ w'.cell? ⟨db, 15, none⟩ = some (.int .i64 D.v.tim) ∧ w'.cell? ⟨db, 16, none⟩ = some (.int .i64 D.v.gen) ∧ w'.cell? ⟨db, 17, none⟩ = some (.int .i64 D.v.whe) ∧ w'.cell? ⟨db, 18, none⟩ = some (.int .i64 D.v.clk)) 14 (by kernel_rfl) ?_
  have hS : w1.drew.cell? ⟨db, 0, none⟩ = some (ptrV mb) ∧ w1.drew.cell? ⟨db, 2, none⟩ = some (.int .i64 D.h.pos) ∧ w1.drew.cell? ⟨db, 3, none⟩ = some (.int .i64 D.h.call.code) ∧ w1.drew.cell? ⟨db, 4, none⟩ = some (.int .i64 D.h.call.a) ∧ w1.drew.cell? ⟨db, 5, none⟩ = some (.int .i64 D.h.call.b) ∧ w1.drew.cell? ⟨db, 6, none⟩ = some (.int .i64 D.h.call.c) ∧ w1.drew.cell? ⟨db, 7, none⟩ = some (.int .i64 D.h.tim) ∧ w1.drew.cell? ⟨db, 8, none⟩ = some (.int .i64 D.h.whe) ∧ w1.drew.cell? ⟨db, 9, none⟩ = some (.bool D.h.had) ∧ w1.drew.cell? ⟨db, 10, none⟩ = some (.int .i64 D.h.cnt) ∧ w1.drew.cell? ⟨db, 11, none⟩ = some (.int .i64 D.h.beg) ∧ w1.drew.cell? ⟨db, 12, none⟩ = some (.int .i64 D.h.rep) ∧ w1.drew.cell? ⟨db, 13, none⟩ = some (.int .i64 D.h.out) ∧ w1.drew.cell? ⟨db, 14, none⟩ = some (.int .i64 D.v.kin) ∧ w1.drew.cell? ⟨db, 15, none⟩ = some (.int .i64 D.v.tim) ∧ w1.drew.cell? ⟨db, 16, none⟩ = some (.int .i64 D.v.gen) ∧ w1.drew.cell? ⟨db, 17, none⟩ = some (.int .i64 D.v.whe) ∧ w1.drew.cell? ⟨db, 18, none⟩ = some (.int .i64 D.v.clk) := ⟨cell_of_block h.e 0, cell_of_block h.e 2, cell_of_block h.e 3, cell_of_block h.e 4, cell_of_block h.e 5, cell_of_block h.e 6, cell_of_block h.e 7, cell_of_block h.e 8, cell_of_block h.e 9, cell_of_block h.e 10, cell_of_block h.e 11, cell_of_block h.e 12, cell_of_block h.e 13, cell_of_block h.e 14, cell_of_block h.e 15, cell_of_block h.e 16, cell_of_block h.e 17, cell_of_block h.e 18⟩
  refine wpAnyT_take (i := 0) (v := ?v0_1) rfl (by kernel_rfl) (by kernel_rfl) (by kernel_rfl) (by kernel_rfl) (fun _ _ _ h => h) (Or.inl ⟨by rfl, ?hy0_1⟩) hS ?rest0_1
  case hy0_1 => intro w' hSw; obtain ⟨s0, s1, s2, s3, s4, s5, s6, s7, s8, s9, s10, s11, s12, s13, s14, s15, s16, s17⟩ := hSw; go_simp; try with_reducible rfl
  simp only [Act.put, List.setIfInBounds_toArray, List.set_cons_zero, List.set_cons_succ]
  refine wpAnyT_take (i := 1) (v := ?v1_2) rfl (by kernel_rfl) (by kernel_rfl) (by kernel_rfl) (by kernel_rfl) (fun _ _ _ h => h) (Or.inl ⟨by rfl, ?hy1_2⟩) hS ?rest1_2
  case hy1_2 => intro w' hSw; obtain ⟨s0, s1, s2, s3, s4, s5, s6, s7, s8, s9, s10, s11, s12, s13, s14, s15, s16, s17⟩ := hSw; go_simp; try with_reducible rfl
  simp only [Act.put, List.setIfInBounds_toArray, List.set_cons_zero, List.set_cons_succ]
  refine wpAnyT_take (i := 2) (v := ?v2_3) rfl (by kernel_rfl) (by kernel_rfl) (by kernel_rfl) (by kernel_rfl) (fun _ _ _ h => h) (Or.inl ⟨by rfl, ?hy2_3⟩) hS ?rest2_3
  case hy2_3 => intro w' hSw; obtain ⟨s0, s1, s2, s3, s4, s5, s6, s7, s8, s9, s10, s11, s12, s13, s14, s15, s16, s17⟩ := hSw; go_simp; try with_reducible rfl
  simp only [Act.put, List.setIfInBounds_toArray, List.set_cons_zero, List.set_cons_succ]
  refine wpAnyT_take (i := 3) (v := ?v3_4) rfl (by kernel_rfl) (by kernel_rfl) (by kernel_rfl) (by kernel_rfl) (fun _ _ _ h => h) (Or.inl ⟨by rfl, ?hy3_4⟩) hS ?rest3_4
  case hy3_4 => intro w' hSw; obtain ⟨s0, s1, s2, s3, s4, s5, s6, s7, s8, s9, s10, s11, s12, s13, s14, s15, s16, s17⟩ := hSw; go_simp; try with_reducible rfl
  simp only [Act.put, List.setIfInBounds_toArray, List.set_cons_zero, List.set_cons_succ]
  refine wpAnyT_take (i := 5) (v := ?v5_5) rfl (by kernel_rfl) (by kernel_rfl) (by kernel_rfl) (by kernel_rfl) (fun _ _ _ h => h) (Or.inl ⟨by rfl, ?hy5_5⟩) hS ?rest5_5
  case hy5_5 => intro w' hSw; obtain ⟨s0, s1, s2, s3, s4, s5, s6, s7, s8, s9, s10, s11, s12, s13, s14, s15, s16, s17⟩ := hSw; go_simp; try with_reducible rfl
  simp only [Act.put, List.setIfInBounds_toArray, List.set_cons_zero, List.set_cons_succ]
  refine wpAnyT_take (i := 6) (v := ?v6_6) rfl (by kernel_rfl) (by kernel_rfl) (by kernel_rfl) (by kernel_rfl) (fun _ _ _ h => h) (Or.inl ⟨by rfl, ?hy6_6⟩) hS ?rest6_6
  case hy6_6 => intro w' hSw; obtain ⟨s0, s1, s2, s3, s4, s5, s6, s7, s8, s9, s10, s11, s12, s13, s14, s15, s16, s17⟩ := hSw; go_simp; try with_reducible rfl
  simp only [Act.put, List.setIfInBounds_toArray, List.set_cons_zero, List.set_cons_succ]
  refine wpAnyT_take (i := 7) (v := ?v7_7) rfl (by kernel_rfl) (by kernel_rfl) (by kernel_rfl) (by kernel_rfl) (fun _ _ _ h => h) (Or.inl ⟨by rfl, ?hy7_7⟩) hS ?rest7_7
  case hy7_7 => intro w' hSw; obtain ⟨s0, s1, s2, s3, s4, s5, s6, s7, s8, s9, s10, s11, s12, s13, s14, s15, s16, s17⟩ := hSw; go_simp; try with_reducible rfl
  simp only [Act.put, List.setIfInBounds_toArray, List.set_cons_zero, List.set_cons_succ]
  refine wpAnyT_take (i := 8) (v := ?v8_8) rfl (by kernel_rfl) (by kernel_rfl) (by kernel_rfl) (by kernel_rfl) (fun _ _ _ h => h) (Or.inl ⟨by rfl, ?hy8_8⟩) hS ?rest8_8
  case hy8_8 => intro w' hSw; obtain ⟨s0, s1, s2, s3, s4, s5, s6, s7, s8, s9, s10, s11, s12, s13, s14, s15, s16, s17⟩ := hSw; go_simp; try with_reducible rfl
  simp only [Act.put, List.setIfInBounds_toArray, List.set_cons_zero, List.set_cons_succ]
  refine wpAnyT_take (i := 9) (v := ?v9_9) rfl (by kernel_rfl) (by kernel_rfl) (by kernel_rfl) (by kernel_rfl) (fun _ _ _ h => h) (Or.inl ⟨by rfl, ?hy9_9⟩) hS ?rest9_9
  case hy9_9 => intro w' hSw; obtain ⟨s0, s1, s2, s3, s4, s5, s6, s7, s8, s9, s10, s11, s12, s13, s14, s15, s16, s17⟩ := hSw; go_simp; try with_reducible rfl
  simp only [Act.put, List.setIfInBounds_toArray, List.set_cons_zero, List.set_cons_succ]
  refine wpAnyT_take (i := 10) (v := ?v10_10) rfl (by kernel_rfl) (by kernel_rfl) (by kernel_rfl) (by kernel_rfl) (fun _ _ _ h => h) (Or.inl ⟨by rfl, ?hy10_10⟩) hS ?rest10_10
  case hy10_10 => intro w' hSw; obtain ⟨s0, s1, s2, s3, s4, s5, s6, s7, s8, s9, s10, s11, s12, s13, s14, s15, s16, s17⟩ := hSw; go_simp; try with_reducible rfl
  simp only [Act.put, List.setIfInBounds_toArray, List.set_cons_zero, List.set_cons_succ]
  refine wpAnyT_take (i := 11) (v := ?v11_11) rfl (by kernel_rfl) (by kernel_rfl) (by kernel_rfl) (by kernel_rfl) (fun _ _ _ h => h) (Or.inl ⟨by rfl, ?hy11_11⟩) hS ?rest11_11
  case hy11_11 => intro w' hSw; obtain ⟨s0, s1, s2, s3, s4, s5, s6, s7, s8, s9, s10, s11, s12, s13, s14, s15, s16, s17⟩ := hSw; go_simp; try with_reducible rfl
  simp only [Act.put, List.setIfInBounds_toArray, List.set_cons_zero, List.set_cons_succ]
  refine wpAnyT_take (i := 12) (v := ?v12_12) rfl (by kernel_rfl) (by kernel_rfl) (by kernel_rfl) (by kernel_rfl) (fun _ _ _ h => h) (Or.inl ⟨by rfl, ?hy12_12⟩) hS ?rest12_12
  case hy12_12 => intro w' hSw; obtain ⟨s0, s1, s2, s3, s4, s5, s6, s7, s8, s9, s10, s11, s12, s13, s14, s15, s16, s17⟩ := hSw; go_simp; try with_reducible rfl
  simp only [Act.put, List.setIfInBounds_toArray, List.set_cons_zero, List.set_cons_succ]
  refine wpAnyT_one (i := 4) (by kernel_rfl) rfl (by rfl) fun K hK => ?_
  go_simp
  go_at_call 73; refine (memShown_any hs (show B ≤ w1.drew.heap.size from by show B ≤ w1.heap.size; omega) (h.below kd).o).mono ?_; rintro e w2 ⟨tv, pv, rfl, hO, hb⟩
  replace hb := kd.trans (hb.mono kd.size)
  have h2 := h.below hb
  replace hR := b_block hb hR (lt_of_block hR)
  have k2 := k0.trans (hb.mono (by omega))
  obtain ⟨ta, tc, pa, pc, ht, hp⟩ := hO.at.form
  subst ht hp
  have hS2 : w2.cell? ⟨db, 0, none⟩ = some (ptrV mb) ∧ w2.cell? ⟨db, 2, none⟩ = some (.int .i64 D.h.pos) ∧ w2.cell? ⟨db, 3, none⟩ = some (.int .i64 D.h.call.code) ∧ w2.cell? ⟨db, 4, none⟩ = some (.int .i64 D.h.call.a) ∧ w2.cell? ⟨db, 5, none⟩ = some (.int .i64 D.h.call.b) ∧ w2.cell? ⟨db, 6, none⟩ = some (.int .i64 D.h.call.c) ∧ w2.cell? ⟨db, 7, none⟩ = some (.int .i64 D.h.tim) ∧ w2.cell? ⟨db, 8, none⟩ = some (.int .i64 D.h.whe) ∧ w2.cell? ⟨db, 9, none⟩ = some (.bool D.h.had) ∧ w2.cell? ⟨db, 10, none⟩ = some (.int .i64 D.h.cnt) ∧ w2.cell? ⟨db, 11, none⟩ = some (.int .i64 D.h.beg) ∧ w2.cell? ⟨db, 12, none⟩ = some (.int .i64 D.h.rep) ∧ w2.cell? ⟨db, 13, none⟩ = some (.int .i64 D.h.out) ∧ w2.cell? ⟨db, 14, none⟩ = some (.int .i64 D.v.kin) ∧ w2.cell? ⟨db, 15, none⟩ = some (.int .i64 D.v.tim) ∧ w2.cell? ⟨db, 16, none⟩ = some (.int .i64 D.v.gen) ∧ w2.cell? ⟨db, 17, none⟩ = some (.int .i64 D.v.whe) ∧ w2.cell? ⟨db, 18, none⟩ = some (.int .i64 D.v.clk) := ⟨cell_of_block h2.e 0, cell_of_block h2.e 2, cell_of_block h2.e 3, cell_of_block h2.e 4, cell_of_block h2.e 5, cell_of_block h2.e 6, cell_of_block h2.e 7, cell_of_block h2.e 8, cell_of_block h2.e 9, cell_of_block h2.e 10, cell_of_block h2.e 11, cell_of_block h2.e 12, cell_of_block h2.e 13, cell_of_block h2.e 14, cell_of_block h2.e 15, cell_of_block h2.e 16, cell_of_block h2.e 17, cell_of_block h2.e 18⟩
  refine hK _ _ (.inr hS2) ?_
  clear hK K
  (try simp only [Act.put, List.setIfInBounds_toArray, List.set_cons_zero, List.set_cons_succ])
  refine wpAnyT_take (i := 13) (v := ?v13_13) rfl (by kernel_rfl) (by kernel_rfl) (by kernel_rfl) (by kernel_rfl) (fun _ _ _ h => h) (Or.inl ⟨by rfl, ?hy13_13⟩) hS2 ?rest13_13
  case hy13_13 => intro w' hSw; obtain ⟨s0, s1, s2, s3, s4, s5, s6, s7, s8, s9, s10, s11, s12, s13, s14, s15, s16, s17⟩ := hSw; go_simp; try with_reducible rfl
  simp only [Act.put, List.setIfInBounds_toArray, List.set_cons_zero, List.set_cons_succ]
  obtain ⟨cs, hcs⟩ : ∃ cs : Array Value, dnCells D (.slice ta D.m.tn tc) (.slice pa D.m.pn pc) = cs := ⟨_, rfl⟩
  rw [show Value.agg (dnCells D (.slice ta D.m.tn tc) (.slice pa D.m.pn pc)) = Value.agg cs from congrArg Value.agg hcs]
  have hsz : cs.size = 20 := by { rw [← hcs]; rfl }
  have hone : cs.all (·.oneCell') = true := by { rw [← hcs]; simp [Value.oneCell'] }
  have hst := run_store_letter (P := Tryz.prog) hsz hone w2 R (there_of_cells hR)
  refine wpAnyT_one (i := 14) (by kernel_rfl) rfl (by rfl) fun K hK => ?_
  go_simp
  refine hK _ _ (.inl rfl) ?_
  clear hK K
  (try simp only [Act.put, List.setIfInBounds_toArray, List.set_cons_zero, List.set_cons_succ])
  refine wpAnyT_done (by kernel_rfl) ?_ _
  have hR3 := heap_setCells (cs := cs) hR hsz
  have hO3 := OwnMemIn.own (hO.setCells cs.toList hR)
  have k3 := b_setCells (b := R) (Nat.le_refl _) cs.toList 0 k2
  clear hS hS2 hst k2 hR h h2 hO
  go_wp2
  subst hRb
  exact bodyPost_ret (v := .agg cs) (results_cell (cs := cs.toList) rfl rfl (range_of_block hR3) Tryz.underlying43 rfl (by rw [done_info]; simp [hsz])) rfl ⟨_, _, by rw [← hcs], hO3, k3⟩

end Go.Proofs.YtflekodaiejflaaGreatDoor

/-
  The program's stopping: a timer claimed, the one in the hand, turned (chapter 10).
-/
namespace Go.Proofs.YtflekodaiejflaaGreatDoor
open Go.RowKit Go.Joins
set_option linter.unusedVariables false
set_option linter.unusedSimpArgs false

set_option maxRecDepth 100000 in
set_option maxHeartbeats 4000000 in
theorem tell_at {w : World} {B mb db t : Nat} {a b c d : Int} {D : Dn} (kind when : Int) (ht : t < D.m.tn) (h : DeedX w B mb db a b c d D) :
    Calls Tryz.prog 110 #[ptrV db, .int .i64 kind, .int .i64 (t : Int), .int .i64 when] w fun e w' => e = .returned (.tuple #[]) ∧ ∃ w0, Below w.heap.size w w0 ∧ w' = w0.setCells db 14 [.int .i64 kind, .int .i64 (t : Int), .int .i64 (D.m.t t).ge, .int .i64 when, .int .i64 D.m.c] := by
  obtain ⟨d0, _, _, _, _, _, _, _, _, hf⟩ := h.cells
  obtain ⟨tv, g, V, ho⟩ := h.o.opened
  obtain ⟨tg, tc, rfl⟩ := ho.tms ht
  obtain ⟨m0, m1, m2, m3, m4, m5⟩ := six ho.m
  obtain ⟨⟨_, _, _, _, _, t5, _, _⟩, _⟩ := ho.tcells ht
  have i2 : (0 : Int) ≤ (t : Int) := by omega
  have i3 : (t : Int) < (D.m.tn : Int) := by omega
  have k0 := (Below.refl w.heap.size w).drew
  clear ho hf
  go_enter Tryz.func110, Tryz.ntmps110
  go_still_tail 23, (by kernel_rfl)
  change wpList _ _ _ _ _ w.drew
  replace h := h.below k0
  clear d0 m0 m1 m2 m3 m4 m5 t5
  generalize w.drew = w0 at h k0 ⊢
  have hf := fun o => unfrozen_of_block h.e o
  have c14 : w0.cell? ⟨db, 14, none⟩ = some _ := cell_of_block h.e 14
  have c15 : w0.cell? ⟨db, 15, none⟩ = some _ := cell_of_block h.e 15
  have c16 : w0.cell? ⟨db, 16, none⟩ = some _ := cell_of_block h.e 16
  have c17 : w0.cell? ⟨db, 17, none⟩ = some _ := cell_of_block h.e 17
  have c18 : w0.cell? ⟨db, 18, none⟩ = some _ := cell_of_block h.e 18
  clear h
  go_wp2
  go_end0
  exact ⟨rfl, w0, k0, rfl⟩

/-- a timer is claimed: told, changing, in the hand -/
abbrev takenD (D : Dn) (t : Nat) : Dn := ⟨setTm D.m t 0 2, { D.h with tim := (t : Int) }, evI D.m 2 t (setToT (D.m.t t))⟩
set_option maxRecDepth 100000 in
set_option maxHeartbeats 4000000 in
theorem cancelD_any {w : World} {B mb db t : Nat} {a b c d : Int} {D : Dn} (hB : B ≤ w.heap.size) (ht : t < D.m.tn) (h : DeedX w B mb db a b c d D) :
    Calls Tryz.prog 75 #[ptrV db, .int .i64 (t : Int)] w fun e w' => e = .returned (.tuple #[]) ∧ InD B mb db a b c d (takenD D t) w w' := by
  obtain ⟨d0, _, _, _, _, _, _, _, _, _⟩ := h.cells
  obtain ⟨tv, g, V, ho⟩ := h.o.opened
  obtain ⟨tg, tc, rfl⟩ := ho.tms ht
  obtain ⟨m0, m1, m2, m3, m4, m5⟩ := six ho.m
  obtain ⟨⟨t0, t1, t2, t3, t4, t5, t6, t7⟩, _⟩ := ho.tcells ht
  have i2 : (0 : Int) ≤ (t : Int) := by omega
  have i3 : (t : Int) < (D.m.tn : Int) := by omega
  have HS := Lib.hid (setTo_any (D.m.t t) w)
  go_enter Tryz.func75, Tryz.ntmps75
  go_wp2_with fail
  go_at_call 111; refine HS.out.mono ?_; rintro e w1 ⟨rfl, hb⟩
  have h1 := h.below hb
  have o1 := ho.below hb
  have k1 : Wd B w w1 := .of_new hb hB
  clear h ho hb d0 m0 m1 m2 m3 m4 m5 t0 t1 t2 t3 t4 t5 t6 t7 HS
  have HT := Lib.hid (tell_at 2 (setToT (D.m.t t)) ht h1)
  go_wp2_with fail
  go_at_call 110; refine HT.out.mono ?_; rintro e w2 ⟨rfl, w0, hb, hw⟩
  have hB1 : B ≤ w1.heap.size := Nat.le_trans hB k1.below.size
  have h2 := (h1.below hb).setEv (evI D.m 2 t (setToT (D.m.t t)))
  have k2 := (k1.trans (.of_new hb hB1)).setDs (h1.below hb) 14 [.int .i64 2, .int .i64 (t : Int), .int .i64 (D.m.t t).ge, .int .i64 (setToT (D.m.t t)), .int .i64 D.m.c]
  have o2 := (o1.below hb).other (h1.below hb).e (w' := w0.setCells db 14 [.int .i64 2, .int .i64 (t : Int), .int .i64 (D.m.t t).ge, .int .i64 (setToT (D.m.t t)), .int .i64 D.m.c]) (by decide) (by decide) (by decide) (by decide) (fun y hy => heap_setCells_nd hy _ _ _)
  replace h2 : DeedX w2 B mb db a b c d ⟨D.m, D.h, evI D.m 2 t (setToT (D.m.t t))⟩ := by rw [hw]; exact h2
  rw [← hw] at k2 o2
  clear h1 o1 k1 hb hw HT hB1
  have hB2 : B ≤ w2.heap.size := Nat.le_trans hB k2.below.size
  have HZ := Lib.hid (seizeD_any (D := ⟨D.m, D.h, evI D.m 2 t (setToT (D.m.t t))⟩) hB2 ht h2)
  clear h2 o2
  go_wp2_with (go_at_call 112; refine HZ.out.mono ?_; rintro e w3 ⟨rfl, h3, k3⟩)
  go_end0
  exact ⟨rfl, h3, k2.trans k3⟩

set_option maxRecDepth 100000 in
set_option maxHeartbeats 4000000 in
theorem inHand_none {w : World} {B mb db : Nat} {a b c d : Int} {D : Dn} (hB : B ≤ w.heap.size) (ht : D.h.tim = -1) (h : DeedX w B mb db a b c d D) :
    Calls Tryz.prog 79 #[ptrV db] w (GaveUp B w) := by
  obtain ⟨_, _, _, _, _, _, _, d7, _, _⟩ := h.cells
  rw [ht] at d7
  clear h ht
  go_enter Tryz.func79, Tryz.ntmps79
  go_wp2_with (go_at_call 50; refine (giveUp_any _).mono ?_; rintro e w1 ⟨⟨u, pv, rfl⟩, rfl⟩)
  exact ⟨rfl, ⟨_, _, rfl⟩, Below.refl _ _⟩

set_option maxRecDepth 100000 in
set_option maxHeartbeats 4000000 in
theorem inHand_no {w : World} {B mb db t : Nat} {a b c d : Int} {D : Dn} (hB : B ≤ w.heap.size) (ht : t < D.m.tn) (het : D.h.tim = (t : Int)) (hq : ¬ ((D.m.t t).st = 2 ∧ (D.m.t t).pl ≠ -1)) (h : DeedX w B mb db a b c d D) :
    Calls Tryz.prog 79 #[ptrV db] w (GaveUp B w) := by
  obtain ⟨d0, _, _, _, _, _, _, d7, _, _⟩ := h.cells
  rw [het] at d7
  obtain ⟨tv, g, V, ho⟩ := h.o.opened
  obtain ⟨tg, tc, rfl⟩ := ho.tms ht
  obtain ⟨m0, m1, m2, m3, m4, m5⟩ := six ho.m
  obtain ⟨⟨t0, _, _, _, t4, _, _, _⟩, _⟩ := ho.tcells ht
  have i2 : (0 : Int) ≤ (t : Int) := by omega
  have i3 : (t : Int) < (D.m.tn : Int) := by omega
  have ine : ((t : Int) == -1) = false := by simp
  have k0 := (Below.refl w.heap.size w).drew
  clear h ho het
  by_cases hs : (D.m.t t).st = 2
  · have hp : (D.m.t t).pl = -1 := by
      by_cases e : (D.m.t t).pl = -1
      · exact e
      · exact absurd ⟨hs, e⟩ hq
    rw [hs] at t0
    rw [hp] at t4
    clear hs hp hq
    go_enter Tryz.func79, Tryz.ntmps79
    go_upto_region 3 with fail
    go_still_tail 13, (by kernel_rfl)
    change wpList _ _ _ _ _ w.drew
    replace t0 := (k0.cell (p := ⟨tg, t * 8, none⟩) (World.block_lt_of_cell? w _ t0)).trans t0
    replace t4 := (k0.cell (p := ⟨tg, t * 8 + 4, none⟩) (World.block_lt_of_cell? w _ t4)).trans t4
    clear d0 d7 m0 m1 m2 m3 m4 m5
    generalize w.drew = w1 at k0 t0 t4 ⊢
    go_wp2_with (go_at_call 50; refine (giveUp_any _).mono ?_; rintro e w2 ⟨⟨u, pv, rfl⟩, rfl⟩)
    exact ⟨rfl, ⟨_, _, rfl⟩, k0.mono hB⟩
  · have hs1 : ((D.m.t t).st != 2) = true := by simpa using hs
    clear hq hs
    go_enter Tryz.func79, Tryz.ntmps79
    go_upto_region 3 with fail
    go_still_tail 13, (by kernel_rfl)
    change wpList _ _ _ _ _ w.drew
    replace t0 := (k0.cell (p := ⟨tg, t * 8, none⟩) (World.block_lt_of_cell? w _ t0)).trans t0
    clear d0 d7 m0 m1 m2 m3 m4 m5 t4
    generalize w.drew = w1 at k0 t0 ⊢
    go_wp2_with (go_at_call 50; refine (giveUp_any _).mono ?_; rintro e w2 ⟨⟨u, pv, rfl⟩, rfl⟩)
    exact ⟨rfl, ⟨_, _, rfl⟩, k0.mono hB⟩

set_option maxRecDepth 100000 in
set_option maxHeartbeats 4000000 in
theorem inHand_yes {w : World} {B mb db t tg n tc g : Nat} {V : Nat → Value} {a b c d : Int} {D : Dn} (ht : t < D.m.tn) (het : D.h.tim = (t : Int)) (hs : (D.m.t t).st = 2) (hp : (D.m.t t).pl ≠ -1) (h : DeedX w B mb db a b c d D) (ho : OpenX w B mb a b c (.slice (some ⟨tg, 0, none⟩) n tc) g V D.m) :
    Calls Tryz.prog 79 #[ptrV db] w fun e w' => e = .returned (.pointer (some ⟨tg, t * 8, none⟩)) ∧ Below w.heap.size w w' := by
  have hn := ho.t.len
  subst hn
  obtain ⟨d0, _, _, _, _, _, _, d7, _, _⟩ := h.cells
  rw [het] at d7
  obtain ⟨m0, m1, m2, m3, m4, m5⟩ := six ho.m
  obtain ⟨⟨t0, _, _, _, t4, _, _, _⟩, _⟩ := ho.tcells ht
  rw [hs] at t0
  have i2 : (0 : Int) ≤ (t : Int) := by omega
  have i3 : (t : Int) < (D.m.tn : Int) := by omega
  have ine : ((t : Int) == -1) = false := by simp
  have hp1 : ((D.m.t t).pl == -1) = false := by simpa using hp
  have k0 := (Below.refl w.heap.size w).drew
  clear h ho het hs hp
  go_enter Tryz.func79, Tryz.ntmps79
  go_upto_region 3 with fail
  go_still_tail 13, (by kernel_rfl)
  change wpList _ _ _ _ _ w.drew
  replace t0 := (k0.cell (p := ⟨tg, t * 8, none⟩) (World.block_lt_of_cell? w _ t0)).trans t0
  replace t4 := (k0.cell (p := ⟨tg, t * 8 + 4, none⟩) (World.block_lt_of_cell? w _ t4)).trans t4
  clear d0 d7 m0 m1 m2 m3 m4 m5
  generalize w.drew = w1 at k0 t0 t4 ⊢
  go_wp2
  go_ret
  exact ⟨rfl, k0⟩

end Go.Proofs.YtflekodaiejflaaGreatDoor

/-
  The program's setting anew: what is stored into a timer and into a processor; where the worker goes on (chapter 11).
-/
namespace Go.Proofs.YtflekodaiejflaaGreatDoor
open Go.RowKit Go.Joins
set_option linter.unusedVariables false
set_option linter.unusedSimpArgs false

theorem setTm_twice (M : Me) (t : Nat) (x y : Int) : setTm (setTm M t 0 x) t 0 y = setTm M t 0 y := by
  simp only [setTm]
  congr 1
  funext i
  by_cases e : i = t
  · subst e
    simp only [putT_same]
    rfl
  · simp only [putT_other _ _ e]

/-- what lies open of a deed: the deed, its memory, what it leaves as it was -/
structure Open3 (w0 : World) (B mb db tg tc g : Nat) (V : Nat → Value) (a b c d : Int) (D : Dn) (w : World) : Prop where
  h : DeedX w B mb db a b c d D
  o : OpenX w B mb a b c (.slice (some ⟨tg, 0, none⟩) D.m.tn tc) g V D.m
  k : Wd B w0 w
theorem Open3.setT {w0 w : World} {B mb db tg tc g t j : Nat} {V : Nat → Value} {a b c d : Int} {D : Dn} (H : Open3 w0 B mb db tg tc g V a b c d D w) (ht : t < D.m.tn) (hj : j < 8) (x : Int) :
    Open3 w0 B mb db tg tc g V a b c d ⟨setTm D.m t j x, D.h, D.v⟩ (w.setCell ⟨tg, t * 8 + j, none⟩ (.int .i64 x)) :=
  ⟨H.h.setT H.o ht hj x, H.o.setT ht hj x, H.k.setT H.o (t * 8 + j) (.int .i64 x)⟩
theorem Open3.below {w0 w w' : World} {B mb db tg tc g : Nat} {V : Nat → Value} {a b c d : Int} {D : Dn} (H : Open3 w0 B mb db tg tc g V a b c d D w) (hB : B ≤ w0.heap.size) (hb : Below w.heap.size w w') : Open3 w0 B mb db tg tc g V a b c d D w' :=
  ⟨H.h.below hb, H.o.below hb, H.k.new hb hB⟩
theorem Open3.setP {w0 w : World} {B mb db tg tc g k j : Nat} {V : Nat → Value} {a b c d : Int} {D : Dn} (H : Open3 w0 B mb db tg tc g V a b c d D w) (hk : k < D.m.pn) (hj : j = 2 ∨ j = 3) (x : Int) :
    Open3 w0 B mb db tg tc g V a b c d ⟨setPc D.m k j x, D.h, D.v⟩ (w.setCell ⟨g, k * 4 + j, none⟩ (.int .i64 x)) := by
  obtain ⟨cs, hcs⟩ := H.o.l.hh
  have o4 := H.o.setP (k := k) hk hj x
  exact ⟨H.h.mem (heap_set1 w g (k * 4 + j) (.int .i64 x) db (ne_ty H.h.e hcs (by decide))) o4.own, o4, H.k.set hcs H.o.l.1 (by decide) (k * 4 + j) (.int .i64 x)⟩
theorem DeedX.open3 {w : World} {B mb db t : Nat} {a b c d : Int} {D : Dn} (h : DeedX w B mb db a b c d D) (ht : t < D.m.tn) : ∃ tg tc g V, Open3 w B mb db tg tc g V a b c d D w := by
  obtain ⟨tv, g, V, ho⟩ := h.o.opened
  obtain ⟨tg, tc, rfl⟩ := ho.tms ht
  exact ⟨tg, tc, g, V, h, ho, Wd.refl B w⟩

/-- set anew -/
def anewM (M : Me) (t : Nat) (x : Int) : Me := setTm (setTm M t 2 x) t 0 (if x < (M.t t).wh then 3 else 4)
set_option maxRecDepth 100000 in
set_option maxHeartbeats 2000000 in
theorem setAnew_any {w0 w : World} {B mb db tg tc g t : Nat} {V : Nat → Value} {a b c d : Int} {D : Dn} (ht : t < D.m.tn) (x : Int) (H : Open3 w0 B mb db tg tc g V a b c d D w) :
    Calls Tryz.prog 87 #[.pointer (some ⟨tg, t * 8, none⟩), .int .i64 x] w fun e w' => e = .returned (.tuple #[]) ∧ Open3 w0 B mb db tg tc g V a b c d ⟨anewM D.m t x, D.h, D.v⟩ w' := by
  obtain ⟨⟨_, _, t2, _⟩, tf⟩ := H.o.tcells ht
  have f2 := tf (t * 8 + 2)
  clear tf
  go_enter Tryz.func87, Tryz.ntmps87
  go_upto_region 1 with fail
  have H1 := H.setT ht (j := 2) (by decide) x
  have e1 : ((setTm D.m t 2 x).t t).wh = (D.m.t t).wh := by rw [setTm_at]; rfl
  have ht1 : t < (setTm D.m t 2 x).tn := ht
  clear H t2 f2
  generalize w.setCell ⟨tg, t * 8 + 2, none⟩ (.int .i64 x) = w1 at H1 ⊢
  obtain ⟨⟨t0, _⟩, tf⟩ := H1.o.tcells ht1
  have f0 := tf (t * 8)
  clear tf
  go_upto_region 2 with fail
  have H2 : Open3 w0 B mb db tg tc g V a b c d ⟨setTm (setTm D.m t 2 x) t 0 4, D.h, D.v⟩ (w1.setCell ⟨tg, t * 8, none⟩ (.int .i64 4)) := H1.setT ht1 (j := 0) (by decide) 4
  have e2 : ((setTm (setTm D.m t 2 x) t 0 4).t t).wh = (D.m.t t).wh := by rw [setTm_at]; exact e1
  clear H1 t0 f0 e1
  generalize w1.setCell ⟨tg, t * 8, none⟩ (.int .i64 4) = w2 at H2 ⊢
  obtain ⟨⟨t0, t1, _⟩, tf⟩ := H2.o.tcells (t := t) ht
  have f0 := tf (t * 8)
  rw [e2] at t1
  clear tf e2
  by_cases hx : x < (D.m.t t).wh
  · have HP := Lib.hid (show anewM D.m t x = setTm (setTm D.m t 2 x) t 0 3 from by unfold anewM; rw [if_pos hx])
    have H3 := H2.setT (t := t) ht (j := 0) (by decide) 3
    rw [setTm_twice] at H3
    clear H2
    go_wp2
    go_end0
    exact ⟨rfl, by rw [HP.out]; exact H3⟩
  · have HP := Lib.hid (show anewM D.m t x = setTm (setTm D.m t 2 x) t 0 4 from by unfold anewM; rw [if_neg hx])
    go_wp2
    go_end0
    exact ⟨rfl, by rw [HP.out]; exact H2⟩

/-- a processor is told of who is earlier -/
def heedM (M : Me) (k : Nat) (T : Tm) : Me := if ovB (M.p k).e T = true then setPc M k 2 T.nx else M
set_option maxRecDepth 100000 in
set_option maxHeartbeats 2000000 in
theorem heed_any {w0 w : World} {B mb db tg tc g k : Nat} {V : Nat → Value} {a b c d : Int} {D : Dn} (hB : B ≤ w0.heap.size) (hk : k < D.m.pn) (T : Tm) (H : Open3 w0 B mb db tg tc g V a b c d D w) :
    Calls Tryz.prog 88 #[.pointer (some ⟨g, k * 4, none⟩), tmV T] w fun e w' => e = .returned (.tuple #[]) ∧ Open3 w0 B mb db tg tc g V a b c d ⟨heedM D.m k T, D.h, D.v⟩ w' := by
  obtain ⟨st, wh, nx, pe, pl, ge, ki, ma⟩ := T
  have kA := (Below.refl w.heap.size w).alloc (Nat.le_refl _) (.cells #[.int .i64 st, .int .i64 wh, .int .i64 nx, .int .i64 pe, .int .i64 pl, .int .i64 ge, .int .i64 ki, .int .i64 ma] 80)
  have hT := heap_alloc_new w (.cells #[.int .i64 st, .int .i64 wh, .int .i64 nx, .int .i64 pe, .int .i64 pl, .int .i64 ge, .int .i64 ki, .int .i64 ma] 80)
  have HA := H.below hB kA
  go_enter Tryz.func88, Tryz.ntmps88
  go_upto_region 1 with fail
  clear H kA
  generalize w.alloc (.cells #[.int .i64 st, .int .i64 wh, .int .i64 nx, .int .i64 pe, .int .i64 pl, .int .i64 ge, .int .i64 ki, .int .i64 ma] 80) = w1 at HA hT ⊢
  obtain ⟨⟨ra, rc, hrow, p1⟩, p2, p3, pf⟩ := HA.o.pcells hk
  obtain ⟨p0, _, _, _⟩ := HA.o.l.cells hk
  have c0 : w1.cell? ⟨w.heap.size, 0, none⟩ = some (.int .i64 st) := cell_of_block hT 0
  have c1 : w1.cell? ⟨w.heap.size, 1, none⟩ = some (.int .i64 wh) := cell_of_block hT 1
  have c2 : w1.cell? ⟨w.heap.size, 2, none⟩ = some (.int .i64 nx) := cell_of_block hT 2
  have c3 : w1.cell? ⟨w.heap.size, 3, none⟩ = some (.int .i64 pe) := cell_of_block hT 3
  have c4 : w1.cell? ⟨w.heap.size, 4, none⟩ = some (.int .i64 pl) := cell_of_block hT 4
  have c5 : w1.cell? ⟨w.heap.size, 5, none⟩ = some (.int .i64 ge) := cell_of_block hT 5
  have c6 : w1.cell? ⟨w.heap.size, 6, none⟩ = some (.int .i64 ki) := cell_of_block hT 6
  have c7 : w1.cell? ⟨w.heap.size, 7, none⟩ = some (.int .i64 ma) := cell_of_block hT 7
  have kd := (Below.refl w1.heap.size w1).drew
  go_still_tail 4, (by kernel_rfl)
  change wpList _ _ _ _ _ w1.drew
  have H1 := HA.below hB kd
  have hT1 := b_block kd hT (lt_of_block hT)
  clear c0 c1 c2 c3 c4 c5 c6 c7 p0 p1 p2 p3 pf hrow HA hT kd
  generalize w1.drew = w2 at H1 hT1 ⊢
  have HO := Lib.hid (overlooks_any (v := .slice ra (D.m.p k).n rc) (D.m.p k).l (D.m.p k).e (D.m.p k).d ⟨st, wh, nx, pe, pl, ge, ki, ma⟩ (w := w2) ⟨_, _, rfl⟩)
  go_wp2_with fail
  go_at_call 124; refine HO.out.mono ?_; rintro e w3 ⟨rfl, hb⟩
  have H2 := H1.below hB hb
  have hT2 := b_block hb hT1 (lt_of_block hT1)
  clear HO H1 hT1 hb
  cases hov : ovB (D.m.p k).e ⟨st, wh, nx, pe, pl, ge, ki, ma⟩
  · have HP := Lib.hid (show heedM D.m k ⟨st, wh, nx, pe, pl, ge, ki, ma⟩ = D.m from by unfold heedM; rw [hov]; rfl)
    clear hov
    go_wp2
    go_end0
    exact ⟨rfl, by rw [HP.out]; exact H2⟩
  · have HP := Lib.hid (show heedM D.m k ⟨st, wh, nx, pe, pl, ge, ki, ma⟩ = setPc D.m k 2 nx from by unfold heedM; rw [hov]; rfl)
    clear hov
    have c2 : w3.cell? ⟨w.heap.size, 2, none⟩ = some (.int .i64 nx) := cell_of_block hT2 2
    obtain ⟨_, p2, _, pf⟩ := H2.o.pcells hk
    have f2 := pf (k * 4 + 2)
    clear pf
    have H3 := H2.setP hk (j := 2) (.inl rfl) nx
    clear H2
    go_wp2
    go_end0
    exact ⟨rfl, by rw [HP.out]; exact H3⟩

theorem DeedX.setWhe {w : World} {B mb db : Nat} {a b c d : Int} {D : Dn} (h : DeedX w B mb db a b c d D) (x : Int) : DeedX (w.setCell ⟨db, 8, none⟩ (.int .i64 x)) B mb db a b c d ⟨D.m, { D.h with whe := x }, D.v⟩ :=
  h.put (heap_set1 w db _ _) (block_setCell h.e (i := 8) _)
theorem DeedX.setHad {w : World} {B mb db : Nat} {a b c d : Int} {D : Dn} (h : DeedX w B mb db a b c d D) (x : Bool) : DeedX (w.setCell ⟨db, 9, none⟩ (.bool x)) B mb db a b c d ⟨D.m, { D.h with had := x }, D.v⟩ :=
  h.put (heap_set1 w db _ _) (block_setCell h.e (i := 9) _)

/-- where the worker goes on, and when it will be -/
abbrev aimedH (D : Dn) (t : Nat) (x : Int) : Hd := { D.h with whe := afterI D.m.c x, pos := if (D.m.t t).pl = -1 then 2 else 7 }
set_option maxRecDepth 100000 in
set_option maxHeartbeats 4000000 in
theorem aimD_any {w : World} {B mb db t : Nat} {a b c d : Int} {D : Dn} (hB : B ≤ w.heap.size) (ht : t < D.m.tn) (het : D.h.tim = (t : Int)) (x : Int) (h : DeedX w B mb db a b c d D) :
    Calls Tryz.prog 83 #[ptrV db, .int .i64 x] w fun e w' => e = .returned (.tuple #[]) ∧ InD B mb db a b c d ⟨D.m, aimedH D t x, D.v⟩ w w' := by
  obtain ⟨d0, _, _, _, _, _, _, _, d8, hf⟩ := h.cells
  have f8 := hf 8
  clear hf
  obtain ⟨tv, g, V, ho⟩ := h.o.opened
  obtain ⟨m0, m1, m2, m3, m4, m5⟩ := six ho.m
  have HET := Lib.hid het
  clear ho het
  go_enter Tryz.func83, Tryz.ntmps83
  go_wp2_with fail
  go_at_call 122; refine (after_any _ _ _).mono ?_; rintro e w1 ⟨rfl, rfl⟩
  go_upto_region 1 with fail
  have h1 := h.setWhe (afterI D.m.c x)
  have k1 := (Wd.refl B w).setD h 8 (.int .i64 (afterI D.m.c x))
  clear h d0 d8 f8 m0 m1 m2 m3 m4 m5
  generalize w.setCell ⟨db, 8, none⟩ (.int .i64 (afterI D.m.c x)) = w1 at h1 k1 ⊢
  obtain ⟨_, _, d2, _, _, _, _, _, _, hf⟩ := h1.cells
  have f2 := hf 2
  clear hf
  go_upto_region 2 with fail
  have h2 := h1.setPos 7
  have k2 := k1.setD h1 2 (.int .i64 7)
  clear h1 k1 d2 f2
  generalize w1.setCell ⟨db, 2, none⟩ (.int .i64 7) = w2 at h2 k2 ⊢
  obtain ⟨d0, _, _, _, _, _, _, d7, _, _⟩ := h2.cells
  replace d7 : w2.cell? ⟨db, 7, none⟩ = some (.int .i64 (t : Int)) := HET.out ▸ d7
  obtain ⟨tv, g, V, ho⟩ := h2.o.opened
  obtain ⟨tg, tc, rfl⟩ := ho.tms ht
  obtain ⟨m0, m1, m2, m3, m4, m5⟩ := six ho.m
  obtain ⟨⟨_, _, _, _, t4, _⟩, _⟩ := ho.tcells (t := t) ht
  have i2 : (0 : Int) ≤ (t : Int) := by omega
  have i3 : (t : Int) < (D.m.tn : Int) := by omega
  clear ho
  have kd := (Below.refl w2.heap.size w2).drew
  go_still_tail 15, (by kernel_rfl)
  change wpList _ _ _ _ _ w2.drew
  have h3 := h2.below kd
  have k3 := k2.new kd hB
  clear h2 k2 d0 d7 m0 m1 m2 m3 m4 m5 t4 kd
  generalize w2.drew = w3 at h3 k3 ⊢
  obtain ⟨_, _, d2, _, _, _, _, _, _, hf⟩ := h3.cells
  have f2 := hf 2
  clear hf
  by_cases hp : (D.m.t t).pl = -1
  · have h4 := h3.setPos 2
    have k4 := k3.setD h3 2 (.int .i64 2)
    clear h3 k3
    have HP := Lib.hid (show aimedH D t x = { D.h with whe := afterI D.m.c x, pos := 2 } from by unfold aimedH; rw [if_pos hp])
    have hp1 : ((D.m.t t).pl == -1) = true := by simpa using hp
    clear hp
    go_wp2
    go_end0
    exact ⟨rfl, by rw [HP.out]; exact h4, k4⟩
  · have HP := Lib.hid (show aimedH D t x = { D.h with whe := afterI D.m.c x, pos := 7 } from by unfold aimedH; rw [if_neg hp])
    have hp1 : ((D.m.t t).pl == -1) = false := by simpa using hp
    clear hp
    go_wp2
    go_end0
    exact ⟨rfl, by rw [HP.out]; exact h3, k3⟩

set_option maxRecDepth 100000 in
set_option maxHeartbeats 4000000 in
theorem rouseD_no {w : World} {B mb db t : Nat} {a b c d : Int} {D : Dn} (hB : B ≤ w.heap.size) (ht : t < D.m.tn) (hs : ¬ (D.m.t t).st = 5) (h : DeedX w B mb db a b c d D) :
    Calls Tryz.prog 84 #[ptrV db, .int .i64 (t : Int)] w fun e w' => e = .returned (.tuple #[]) ∧ InD B mb db a b c d ⟨setTm D.m t 0 2, { D.h with tim := (t : Int) }, D.v⟩ w w' := by
  obtain ⟨d0, _, _, _, _, _, _, _, _, _⟩ := h.cells
  obtain ⟨tv, g, V, ho⟩ := h.o.opened
  obtain ⟨tg, tc, rfl⟩ := ho.tms ht
  obtain ⟨m0, m1, m2, m3, m4, m5⟩ := six ho.m
  obtain ⟨⟨t0, t1, t2, t3, t4, t5, t6, t7⟩, _⟩ := ho.tcells ht
  have i2 : (0 : Int) ≤ (t : Int) := by omega
  have i3 : (t : Int) < (D.m.tn : Int) := by omega
  have hs1 : ((D.m.t t).st == 5) = false := by simpa using hs
  have kA := (Below.refl w.heap.size w).alloc (Nat.le_refl _) (.cells #[.int .i64 (D.m.t t).st, .int .i64 (D.m.t t).wh, .int .i64 (D.m.t t).nx, .int .i64 (D.m.t t).pe, .int .i64 (D.m.t t).pl, .int .i64 (D.m.t t).ge, .int .i64 (D.m.t t).ki, .int .i64 (D.m.t t).ma] 80)
  have HZ := Lib.hid (seizeD_any (Nat.le_trans hB kA.size) ht (h.below kA))
  have kw := Lib.hid (Wd.of_new kA hB)
  clear h ho hs kA
  go_enter Tryz.func84, Tryz.ntmps84
  go_wp2_with (go_at_call 112; refine HZ.out.mono ?_; rintro e w3 ⟨rfl, h3, k3⟩)
  go_end0
  exact ⟨rfl, h3, kw.out.trans k3⟩

set_option maxRecDepth 100000 in
set_option maxHeartbeats 4000000 in
theorem rouseD_yes {w : World} {B mb db t k : Nat} {a b c d : Int} {D : Dn} (hB : B ≤ w.heap.size) (ht : t < D.m.tn) (hs : (D.m.t t).st = 5) (hpk : (D.m.t t).pl = (k : Int)) (hk : k < D.m.pn) (hd0 : 0 ≤ (D.m.p k).d) (hd1 : (D.m.p k).d ≤ 1000) (h : DeedX w B mb db a b c d D) :
    Calls Tryz.prog 84 #[ptrV db, .int .i64 (t : Int)] w fun e w' => e = .returned (.tuple #[]) ∧ InD B mb db a b c d ⟨setPc (setTm D.m t 0 2) k 3 ((D.m.p k).d - 1), { D.h with tim := (t : Int) }, D.v⟩ w w' := by
  obtain ⟨d0, _, _, _, _, _, _, _, _, _⟩ := h.cells
  obtain ⟨tv, g, V, ho⟩ := h.o.opened
  obtain ⟨tg, tc, rfl⟩ := ho.tms ht
  obtain ⟨m0, m1, m2, m3, m4, m5⟩ := six ho.m
  obtain ⟨⟨t0, t1, t2, t3, t4, t5, t6, t7⟩, _⟩ := ho.tcells ht
  obtain ⟨_, _, _, p3⟩ := ho.l.cells (i := k) hk
  have i2 : (0 : Int) ≤ (t : Int) := by omega
  have i3 : (t : Int) < (D.m.tn : Int) := by omega
  obtain ⟨G, hG⟩ : ∃ G, (D.m.p k).d = G := ⟨_, rfl⟩
  rw [hG] at hd0 hd1 p3 ⊢
  have hwr : IntKind.i64.wrap (G - 1) = G - 1 := by rw [IntKind.wrap_i64]; omega
  have j2 : (0 : Int) ≤ (k : Int) := by omega
  have j3 : (k : Int) < (D.m.pn : Int) := by omega
  rw [hs] at t0
  rw [hpk] at t4
  have hA := heap_alloc_new w (.cells #[.int .i64 5, .int .i64 (D.m.t t).wh, .int .i64 (D.m.t t).nx, .int .i64 (D.m.t t).pe, .int .i64 (k : Int), .int .i64 (D.m.t t).ge, .int .i64 (D.m.t t).ki, .int .i64 (D.m.t t).ma] 80)
  have kA := (Below.refl w.heap.size w).alloc (Nat.le_refl _) (.cells #[.int .i64 5, .int .i64 (D.m.t t).wh, .int .i64 (D.m.t t).nx, .int .i64 (D.m.t t).pe, .int .i64 (k : Int), .int .i64 (D.m.t t).ge, .int .i64 (D.m.t t).ki, .int .i64 (D.m.t t).ma] 80)
  have h1 := h.below kA
  have o1 := ho.below kA
  have k1 := Wd.of_new kA hB
  have HG := Lib.hid hG
  clear h ho hs hpk kA hG
  go_enter Tryz.func84, Tryz.ntmps84
  go_upto_region 2 with fail
  clear d0 m0 m1 m2 m3 m4 m5 t0 t1 t2 t3 t4 t5 t6 t7 p3
  generalize w.alloc (.cells #[.int .i64 5, .int .i64 (D.m.t t).wh, .int .i64 (D.m.t t).nx, .int .i64 (D.m.t t).pe, .int .i64 (k : Int), .int .i64 (D.m.t t).ge, .int .i64 (D.m.t t).ki, .int .i64 (D.m.t t).ma] 80) = w1 at h1 o1 k1 hA ⊢
  obtain ⟨d0, _, _, _, _, _, _, _, _, _⟩ := h1.cells
  obtain ⟨m0, m1, m2, m3, m4, m5⟩ := six o1.m
  obtain ⟨_, _, _, p3⟩ := o1.l.cells (i := k) hk
  rw [HG.out] at p3
  have c4 : w1.cell? ⟨w.heap.size, 4, none⟩ = some (.int .i64 (k : Int)) := cell_of_block hA 4
  have kd := (Below.refl w1.heap.size w1).drew
  go_still_tail 15, (by kernel_rfl)
  change wpList _ _ _ _ _ w1.drew
  have h2 := h1.below kd
  have o2 := o1.below kd
  have k2 := k1.new kd hB
  clear h1 o1 k1 hA d0 m0 m1 m2 m3 m4 m5 p3 c4 kd
  generalize w1.drew = w2 at h2 o2 k2 ⊢
  obtain ⟨_, _, _, p3⟩ := o2.l.cells (i := k) hk
  rw [HG.out] at p3
  have pf := o2.l.free (k * 4 + 3)
  go_upto_region 3 with fail
  have H := (Open3.mk h2 o2 k2).setP hk (j := 3) (.inr rfl) (G - 1)
  clear h2 o2 k2 p3 pf
  generalize w2.setCell ⟨g, k * 4 + 3, none⟩ (.int .i64 (G - 1)) = w3 at H ⊢
  have HZ := Lib.hid (seizeD_any (D := ⟨setPc D.m k 3 (G - 1), D.h, D.v⟩) (Nat.le_trans hB H.k.below.size) ht H.h)
  go_wp2_with fail
  go_at_call 112; refine HZ.out.mono ?_; rintro e w4 ⟨rfl, h4, k4⟩
  go_wp2
  go_end0
  exact ⟨rfl, h4, H.k.trans k4⟩

end Go.Proofs.YtflekodaiejflaaGreatDoor

/-
  The program's setting anew: keyed where it stands (chapter 11).
-/
namespace Go.Proofs.YtflekodaiejflaaGreatDoor
open Go.RowKit Go.Joins
set_option linter.unusedVariables false
set_option linter.unusedSimpArgs false

/-- what a closure that tells has hold of: whose it is, the kind, the timer, the time -/
structure Tells (w : World) (db b0 b1 b2 b3 : Nat) (kind tim whe : Int) : Prop where
  e0 : w.heap[b0]? = some (.cells #[ptrV db] 65 (0, 0))
  e1 : w.heap[b1]? = some (.cells #[.int .i64 kind] 2 (0, 0))
  e2 : w.heap[b2]? = some (.cells #[.int .i64 tim] 2 (0, 0))
  e3 : w.heap[b3]? = some (.cells #[.int .i64 whe] 2 (0, 0))
theorem Tells.kept {B : Nat} {w w' : World} {db b0 b1 b2 b3 : Nat} {kind tim whe : Int} (h : Tells w db b0 b1 b2 b3 kind tim whe) (k : Wd B w w') : Tells w' db b0 b1 b2 b3 kind tim whe :=
  ⟨k.kept h.e0 (by decide), k.kept h.e1 (by decide), k.kept h.e2 (by decide), k.kept h.e3 (by decide)⟩
theorem Tells.below {w w' : World} {db b0 b1 b2 b3 : Nat} {kind tim whe : Int} (h : Tells w db b0 b1 b2 b3 kind tim whe) (hb : Below w.heap.size w w') : Tells w' db b0 b1 b2 b3 kind tim whe :=
  ⟨b_block hb h.e0 (lt_of_block h.e0), b_block hb h.e1 (lt_of_block h.e1), b_block hb h.e2 (lt_of_block h.e2), b_block hb h.e3 (lt_of_block h.e3)⟩
abbrev tellsV (b0 b1 b2 b3 : Nat) : Value := .func (.func 123) #[] #[ptrV b0, ptrV b1, ptrV b2, ptrV b3]

set_option maxRecDepth 100000 in
set_option maxHeartbeats 4000000 in
theorem telling_any {w : World} {B mb db : Nat} {a b c d : Int} {D : Dn} (kind : Int) (h : DeedX w B mb db a b c d D) :
    Calls Tryz.prog 85 #[ptrV db, .int .i64 kind] w fun e w' => ∃ b0 b1 b2 b3, e = .returned (tellsV b0 b1 b2 b3) ∧ Tells w' db b0 b1 b2 b3 kind D.h.tim D.h.whe ∧ Below w.heap.size w w' := by
  go_enter Tryz.func85, Tryz.ntmps85
  go_upto_region 1 with fail
  have e0 := heap_alloc_new w (.cells #[ptrV db] 65)
  have e1 := heap_alloc_new (w.alloc (.cells #[ptrV db] 65)) (.cells #[.int .i64 kind] 2)
  rw [show (w.alloc (.cells #[ptrV db] 65)).heap.size = w.heap.size + 1 by simp] at e1
  replace e0 := alloc_block (.cells #[.int .i64 kind] 2) e0
  have k0 := ((Below.refl w.heap.size w).alloc (Nat.le_refl _) (.cells #[ptrV db] 65)).alloc (by simp) (.cells #[.int .i64 kind] 2)
  generalize (w.alloc (.cells #[ptrV db] 65)).alloc (.cells #[.int .i64 kind] 2) = w1 at e0 e1 k0 ⊢
  have h1 := h.below k0
  obtain ⟨_, _, _, _, _, _, _, d7, d8, _⟩ := h1.cells
  have c0 := cell_of_block e0 0
  have c1 := cell_of_block e1 0
  clear h
  have q1 := (Below.refl w1.heap.size w1).drew
  have q2 := q1.alloc q1.size (.cells #[.int .i64 0] 2)
  have q3 := q2.alloc q2.size (.cells #[.int .i64 0] 2)
  have l0 : w.heap.size < w1.heap.size := lt_of_block e0
  have ld : db < w1.heap.size := h1.lt
  go_region_held3 (fun w' => w'.cell? ⟨w.heap.size, 0, none⟩ = some (ptrV db) ∧ w'.cell? ⟨db, 7, none⟩ = some (.int .i64 D.h.tim) ∧ w'.cell? ⟨db, 8, none⟩ = some (.int .i64 D.h.whe))
    (first | exact ⟨c0, d7, d8⟩ | exact ⟨(q1.cell (p := ⟨w.heap.size, 0, none⟩) l0).trans c0, (q1.cell (p := ⟨db, 7, none⟩) ld).trans d7, (q1.cell (p := ⟨db, 8, none⟩) ld).trans d8⟩ | exact ⟨(q2.cell (p := ⟨w.heap.size, 0, none⟩) l0).trans c0, (q2.cell (p := ⟨db, 7, none⟩) ld).trans d7, (q2.cell (p := ⟨db, 8, none⟩) ld).trans d8⟩ | exact ⟨(q3.cell (p := ⟨w.heap.size, 0, none⟩) l0).trans c0, (q3.cell (p := ⟨db, 7, none⟩) ld).trans d7, (q3.cell (p := ⟨db, 8, none⟩) ld).trans d8⟩ | go_keep)
    (fail)
  · have f1 : (((w1.alloc (.cells #[.int .i64 D.h.tim] 2)).alloc (.cells #[.int .i64 D.h.whe] 2)).drew).heap[w1.heap.size]? = some (.cells #[.int .i64 D.h.tim] 2 (0, 0)) := alloc_block (.cells #[.int .i64 D.h.whe] 2) (heap_alloc_new w1 (.cells #[.int .i64 D.h.tim] 2))
    have f2 : (((w1.alloc (.cells #[.int .i64 D.h.tim] 2)).alloc (.cells #[.int .i64 D.h.whe] 2)).drew).heap[w1.heap.size + 1]? = some (.cells #[.int .i64 D.h.whe] 2 (0, 0)) := by have h9 := heap_alloc_new (w1.alloc (.cells #[.int .i64 D.h.tim] 2)) (.cells #[.int .i64 D.h.whe] 2); rw [show (w1.alloc (.cells #[.int .i64 D.h.tim] 2)).heap.size = w1.heap.size + 1 by simp] at h9; exact h9
    have kz : Below w1.heap.size w1 (((w1.alloc (.cells #[.int .i64 D.h.tim] 2)).alloc (.cells #[.int .i64 D.h.whe] 2)).drew) := (((Below.refl w1.heap.size w1).alloc (Nat.le_refl _) (.cells #[.int .i64 D.h.tim] 2)).alloc (by simp) (.cells #[.int .i64 D.h.whe] 2)).drew
    have g0 := b_block kz e0 l0
    have g1 := b_block kz e1 (lt_of_block e1)
    generalize ((w1.alloc (.cells #[.int .i64 D.h.tim] 2)).alloc (.cells #[.int .i64 D.h.whe] 2)).drew = w2 at f1 f2 kz g0 g1 ⊢
    clear q1 q2 q3 c0 c1 d7 d8 h1
    go_wp2
    go_ret
    exact ⟨_, _, _, _, rfl, ⟨g0, g1, f1, f2⟩, k0.trans (kz.mono k0.size)⟩
  · have f1 : (((w1.alloc (.cells #[.int .i64 D.h.whe] 2)).alloc (.cells #[.int .i64 D.h.tim] 2)).drew).heap[w1.heap.size]? = some (.cells #[.int .i64 D.h.whe] 2 (0, 0)) := alloc_block (.cells #[.int .i64 D.h.tim] 2) (heap_alloc_new w1 (.cells #[.int .i64 D.h.whe] 2))
    have f2 : (((w1.alloc (.cells #[.int .i64 D.h.whe] 2)).alloc (.cells #[.int .i64 D.h.tim] 2)).drew).heap[w1.heap.size + 1]? = some (.cells #[.int .i64 D.h.tim] 2 (0, 0)) := by have h9 := heap_alloc_new (w1.alloc (.cells #[.int .i64 D.h.whe] 2)) (.cells #[.int .i64 D.h.tim] 2); rw [show (w1.alloc (.cells #[.int .i64 D.h.whe] 2)).heap.size = w1.heap.size + 1 by simp] at h9; exact h9
    have kz : Below w1.heap.size w1 (((w1.alloc (.cells #[.int .i64 D.h.whe] 2)).alloc (.cells #[.int .i64 D.h.tim] 2)).drew) := (((Below.refl w1.heap.size w1).alloc (Nat.le_refl _) (.cells #[.int .i64 D.h.whe] 2)).alloc (by simp) (.cells #[.int .i64 D.h.tim] 2)).drew
    have g0 := b_block kz e0 l0
    have g1 := b_block kz e1 (lt_of_block e1)
    generalize ((w1.alloc (.cells #[.int .i64 D.h.whe] 2)).alloc (.cells #[.int .i64 D.h.tim] 2)).drew = w2 at f1 f2 kz g0 g1 ⊢
    clear q1 q2 q3 c0 c1 d7 d8 h1
    go_wp2
    go_ret
    exact ⟨_, _, _, _, rfl, ⟨g0, g1, f2, f1⟩, k0.trans (kz.mono k0.size)⟩

set_option maxRecDepth 100000 in
set_option maxHeartbeats 4000000 in
theorem told_any {w : World} {B mb db b0 b1 b2 b3 t : Nat} {a b c d : Int} {kind whe : Int} {D : Dn} (hB : B ≤ w.heap.size) (ht : t < D.m.tn) (H : Tells w db b0 b1 b2 b3 kind (t : Int) whe) (h : DeedX w B mb db a b c d D) :
    Calls Tryz.prog 123 #[ptrV b0, ptrV b1, ptrV b2, ptrV b3] w fun e w' => e = .returned (.tuple #[]) ∧ InD B mb db a b c d ⟨D.m, D.h, evI D.m kind t whe⟩ w w' := by
  have c0 := cell_of_block H.e0 0
  have c1 := cell_of_block H.e1 0
  have c2 := cell_of_block H.e2 0
  have c3 := cell_of_block H.e3 0
  have HT := Lib.hid (tell_any kind whe hB ht h)
  clear H h
  go_enter Tryz.func123, Tryz.ntmps123
  go_wp2_with (go_at_call 110; refine HT.out.mono ?_; rintro e w2 ⟨rfl, hi⟩)
  first | go_end0 | refine bodyPost_ret (results_none rfl _ _ _) rfl ?_
  exact ⟨rfl, hi⟩

set_option maxRecDepth 100000 in
set_option maxHeartbeats 2000000 in
theorem replyHad_any {w : World} {B mb db : Nat} {a b c d : Int} {D : Dn} (hB : B ≤ w.heap.size) (h : DeedX w B mb db a b c d D) :
    Calls Tryz.prog 89 #[ptrV db] w fun e w' => e = .returned (.tuple #[]) ∧ InD B mb db a b c d ⟨D.m, if D.h.had then restHd 2 0 else restHd 3 0, D.v⟩ w w' := by
  have d9 : w.cell? ⟨db, 9, none⟩ = some (.bool D.h.had) := cell_of_block h.e 9
  have H2 := Lib.hid (reply_any 2 0 hB h)
  have H3 := Lib.hid (reply_any 3 0 hB h)
  clear h
  cases hh : D.h.had
  · rw [hh] at d9
    go_enter Tryz.func89, Tryz.ntmps89
    go_wp2_with (go_at_call 78; refine H3.out.mono ?_; rintro e w2 ⟨rfl, hi⟩)
    first | go_end0 | refine bodyPost_ret (results_none rfl _ _ _) rfl ?_
    exact ⟨rfl, hi⟩
  · rw [hh] at d9
    go_enter Tryz.func89, Tryz.ntmps89
    go_wp2_with (go_at_call 78; refine H2.out.mono ?_; rintro e w2 ⟨rfl, hi⟩)
    first | go_end0 | refine bodyPost_ret (results_none rfl _ _ _) rfl ?_
    exact ⟨rfl, hi⟩

theorem keyM_tn (D : Dn) : (keyM D).tn = D.m.tn := by
  unfold keyM
  simp only
  split
  · split <;> rfl
  · rfl
/-- what is keyed, step by step -/
theorem keyM_eq {D : Dn} {t k : Nat} (het : D.h.tim = (t : Int)) (hpk : (D.m.t t).pl = (k : Int)) (he : -1 ≤ (D.m.p k).e) :
    heedM (anewM (genM D.m t) t D.h.whe) k ((anewM (genM D.m t) t D.h.whe).t t) = keyM D := by
  have e1 : ((genM D.m t).t t).wh = (D.m.t t).wh := by unfold genM; rw [setTm_at]; rfl
  have e2 : ((anewM (genM D.m t) t D.h.whe).p k) = D.m.p k := rfl
  have e3 : ((anewM (genM D.m t) t D.h.whe).t t).st = if D.h.whe < (D.m.t t).wh then 3 else 4 := by unfold anewM; rw [setTm_at, e1]; rfl
  have e4 : ((anewM (genM D.m t) t D.h.whe).t t).nx = D.h.whe := by
    unfold anewM; rw [setTm_at]
    show ((setTm (genM D.m t) t 2 D.h.whe).t t).nx = _
    rw [setTm_at]; rfl
  have ek : (D.m.t (D.h.tim.toNat)).pl.toNat = k := by rw [het]; simp [hpk]
  have et : D.h.tim.toNat = t := by omega
  unfold heedM keyM ovB
  rw [e2, e3, e4]
  simp only [et, ek] at ek ⊢
  rw [ek]
  by_cases hw : D.h.whe < (D.m.t t).wh
  · rw [if_pos hw, if_pos hw]
    by_cases hq : (D.m.p k).e < 0 ∨ D.h.whe < (D.m.p k).e
    · rw [if_pos hq, if_pos (by
        rcases hq with h | h
        · simp; left; omega
        · simp; right; exact h)]
      unfold anewM; rw [e1, if_pos hw]
    · rw [if_neg hq, if_neg (by
        simp only [beq_self_eq_true, Bool.true_and, Bool.or_eq_true, beq_iff_eq, decide_eq_true_eq]
        intro h
        apply hq
        rcases h with h | h
        · left; omega
        · right; exact h)]
      unfold anewM; rw [e1, if_pos hw]
  · rw [if_neg hw, if_neg hw]
    rw [if_neg (by simp)]
    unfold anewM; rw [e1, if_neg hw]

theorem Open3.here {w0 w : World} {B mb db tg tc g : Nat} {V : Nat → Value} {a b c d : Int} {D : Dn} (H : Open3 w0 B mb db tg tc g V a b c d D w) : Open3 w B mb db tg tc g V a b c d D w := ⟨H.h, H.o, Wd.refl B w⟩
set_option maxRecDepth 100000 in
set_option maxHeartbeats 8000000 in
theorem keyD_yes {w : World} {B mb db t k : Nat} {a b c d : Int} {D : Dn} (hB : B ≤ w.heap.size) (ht : t < D.m.tn) (het : D.h.tim = (t : Int)) (hs : (D.m.t t).st = 2) (hpk : (D.m.t t).pl = (k : Int)) (hk : k < D.m.pn) (he : -1 ≤ (D.m.p k).e) (hg0 : 0 ≤ (D.m.t t).ge) (hg1 : (D.m.t t).ge ≤ 100000) (h : DeedX w B mb db a b c d D) :
    Calls Tryz.prog 61 #[ptrV db] w fun e w' => e = .returned (.tuple #[]) ∧ InD B mb db a b c d (keyD D) w w' := by
  have EK := Lib.hid (keyM_eq het hpk he)
  obtain ⟨tg, tc, g, V, H0⟩ := h.open3 ht
  have HI := Lib.hid (inHand_yes ht het hs (by omega) H0.h H0.o)
  clear h
  go_enter Tryz.func61, Tryz.ntmps61
  go_wp2_with fail
  go_at_call 79; refine HI.out.mono ?_; rintro e w1 ⟨rfl, hb⟩
  have H1 := H0.below hB hb
  clear HI H0 hb
  have HT := Lib.hid (telling_any 1 H1.h)
  go_wp2_with fail
  go_at_call 85; refine HT.out.mono ?_; rintro e w2 ⟨b0, b1, b2, b3, rfl, HT2, hb⟩
  have H2 := H1.below hB hb
  replace HT2 : Tells w2 db b0 b1 b2 b3 1 (t : Int) D.h.whe := het ▸ HT2
  clear H1 hb HT
  obtain ⟨⟨_, _, _, _, _, t5, _⟩, tf⟩ := H2.o.tcells ht
  have HC := Lib.hid (count_any (w := w2) (b := tg) (o := t * 8) hg0 hg1 t5 (tf (t * 8 + 5)))
  clear t5 tf
  go_wp2_with fail
  go_at_call 86; refine HC.out.mono ?_; rintro e w3 ⟨rfl, hw3⟩
  have H3 : Open3 w B mb db tg tc g V a b c d ⟨genM D.m t, D.h, D.v⟩ w3 := by rw [hw3]; exact H2.setT ht (j := 5) (by decide) _
  have k3 : Wd B w2 w3 := by rw [hw3]; exact (Wd.refl B w2).setT H2.o (t * 8 + 5) _
  have HT3 := HT2.kept k3
  clear H2 HT2 k3 hw3 HC
  obtain ⟨AM, hAM⟩ : ∃ AM, AM = anewM (genM D.m t) t D.h.whe := ⟨_, rfl⟩
  have htA : t < AM.tn := by rw [hAM]; exact ht
  have hkA : k < AM.pn := by rw [hAM]; exact hk
  have hpA : (AM.t t).pl = (k : Int) := by
    rw [hAM]
    unfold anewM
    rw [setTm_at]
    show ((setTm (genM D.m t) t 2 D.h.whe).t t).pl = _
    rw [setTm_at]
    show ((genM D.m t).t t).pl = _
    unfold genM
    rw [setTm_at]
    exact hpk
  have HA := Lib.hid (setAnew_any (D := ⟨genM D.m t, D.h, D.v⟩) (t := t) ht D.h.whe H3.here)
  obtain ⟨_, _, _, _, _, _, _, _, d8, _⟩ := H3.h.cells
  have hB3 := Lib.hid (Nat.le_trans hB H3.k.below.size)
  have k3 := Lib.hid H3.k
  rw [← hAM] at HA EK
  clear H3 hAM
  go_wp2_with fail
  go_at_call 87; refine HA.out.mono ?_; rintro e w4 ⟨rfl, H4⟩
  clear d8 HA
  have HT4 := HT3.kept H4.k
  have k4 := Lib.hid (k3.out.trans H4.k)
  have hB4 := Lib.hid (Nat.le_trans hB k4.out.below.size)
  replace H4 := H4.here
  clear HT3 k3 hB3
  obtain ⟨⟨st, wh, nx, pe, pl, ge, ki, ma⟩, hT⟩ : ∃ T, AM.t t = T := ⟨_, rfl⟩
  rw [hT] at hpA EK
  replace hpA : pl = (k : Int) := hpA
  subst hpA
  obtain ⟨⟨t0, t1, t2, t3, t4, t5, t6, t7⟩, _⟩ := H4.o.tcells htA
  rw [hT] at t0 t1 t2 t3 t4 t5 t6 t7
  clear hT
  obtain ⟨d0, _⟩ := H4.h.cells
  obtain ⟨m0, m1, m2, m3, m4, m5⟩ := six H4.o.m
  have j2 : (0 : Int) ≤ (k : Int) := by omega
  have j3 : (k : Int) < (AM.pn : Int) := by omega
  have kd := (Below.refl w4.heap.size w4).drew
  have H5 := (H4.below hB4.out kd).here
  have HT5 := HT4.below kd
  have k5 := Lib.hid (k4.out.new kd hB)
  clear H4 HT4 k4 kd
  go_upto_region 4 with fail
  go_still_tail 15, (by kernel_rfl)
  change wpList _ _ _ _ _ w4.drew
  clear t0 t1 t2 t3 t4 t5 t6 t7 d0 m0 m1 m2 m3 m4 m5
  generalize w4.drew = w5 at H5 HT5 k5 ⊢
  have hB5 := Lib.hid (Nat.le_trans hB k5.out.below.size)
  have HH := Lib.hid (heed_any hB5.out hkA ⟨st, wh, nx, pe, (k : Int), ge, ki, ma⟩ H5)
  rw [EK.out] at HH
  clear H5 hB4
  go_wp2_with fail
  go_at_call 88; refine HH.out.mono ?_; rintro e w6 ⟨rfl, H6⟩
  have HT6 := HT5.kept H6.k
  have k6 := Lib.hid (k5.out.trans H6.k)
  have hB6 := Lib.hid (Nat.le_trans hB k6.out.below.size)
  have HR := Lib.hid (replyHad_any (D := ⟨keyM D, D.h, D.v⟩) hB6.out H6.h)
  clear H6 HH hB5 k5 HT5
  go_wp2_with fail
  go_at_call 89; refine HR.out.mono ?_; rintro e w7 ⟨rfl, h7, k7⟩
  have HT7 := HT6.kept k7
  have k8 := Lib.hid (k6.out.trans k7)
  have hB7 := Lib.hid (Nat.le_trans hB k8.out.below.size)
  have htK : t < (keyM D).tn := by
    have e : (keyM D).tn = D.m.tn := keyM_tn D
    rw [e]; exact ht
  have HL := Lib.hid (told_any (D := ⟨keyM D, if D.h.had then restHd 2 0 else restHd 3 0, D.v⟩) hB7.out htK HT7 h7)
  have EQ := Lib.hid (show keyD D = ⟨keyM D, if D.h.had then restHd 2 0 else restHd 3 0, evI (keyM D) 1 t D.h.whe⟩ by unfold keyD; rw [het]; rfl)
  clear h7 HT7 HT6 HR k7 k6 hB6
  go_wp2_with fail
  go_at_call 123; refine HL.out.mono ?_; rintro e w8 ⟨rfl, h8, k9⟩
  go_wp2
  go_end0
  exact ⟨rfl, by rw [EQ.out]; exact h8, k8.out.trans k9⟩

end Go.Proofs.YtflekodaiejflaaGreatDoor

/-
  The step of creating, at its face (spec, chapter 9).
-/
namespace Go.Proofs.YtflekodaiejflaaGreatDoor
open Go.Deep Go.ChangeShapes Go.WideShapes Go.ChangeAt Go.RowKit Go.Joins
set_option linter.unusedVariables false
set_option linter.unusedSimpArgs false

/-- what a call answered comes into the answer's block, told of what is new -/
theorem InDnB.new {B R : Nat} {D : Dn} {q : Bool} {w0 w1 w' : World} {e : Ending} {Z : Array Value} (hI : InDnB B D q w1 e w') (k : Below w0.heap.size w0 w1) (hB : w0.heap.size ≤ B) (lr : w0.heap.size ≤ R) (hR : w1.heap[R]? = some (.cells Z 43 (0, 0))) (hz : Z.size = 20) :
    ∃ ta tn tc pa pn pc, e = .returned (.tuple #[dnV D (.slice ta tn tc) (.slice pa pn pc), .bool q]) ∧ w'.there R 0 20 ∧ (w'.setCells R 0 (dnCells D (.slice ta tn tc) (.slice pa pn pc)).toList).rangeAt R 0 (dnCells D (.slice ta tn tc) (.slice pa pn pc)).toList ∧
      NewDn D q w0 (.returned (.tuple #[dnV D (.slice ta tn tc) (.slice pa pn pc), .bool q])) (w'.setCells R 0 (dnCells D (.slice ta tn tc) (.slice pa pn pc)).toList) ∧ Below B w1 w' := by
  obtain ⟨tv, pv, rfl, ho, hk⟩ := hI
  obtain ⟨ta, tc, pa, pc, rfl, rfl⟩ := ho.at.form
  have hR' := hk.kept hR (by decide)
  have ht : w'.there R 0 20 := by rw [← hz]; exact there_of_block hR'
  exact ⟨ta, _, tc, pa, _, pc, rfl, ht, World.rangeAt_setCells_same _ _ _ _ ht, ⟨_, _, rfl, ((ho.setCells _ hR').own).mono hB, b_setCells lr _ 0 (k.trans (hk.below.mono hB))⟩, hk.below⟩
theorem stepFit_more {a b c d : Int} {M : Me} {h : Hd} (hq : stepFit a b c d M h = true) : workB a b c d = true ∧ (0 ≤ h.tim → h.tim.toNat < M.tn) ∧ (∀ i, i < M.tn → 0 ≤ (M.t i).ge ∧ (M.t i).ge ≤ 100000) ∧ homeN a d < M.pn ∧ handB a b c h = true := by
  have F := stepFit_facts hq
  simp only [stepFit, Bool.and_eq_true, Bool.or_eq_true, beq_iff_eq] at hq
  obtain ⟨_, hh, hw, ht⟩ := hq
  refine ⟨hw, fun h0 => ?_, fun i hi => ?_, ?_, hh⟩
  · rcases ht with e | e
    · omega
    · have := inB_iff.1 e
      omega
  · have := F.tm i hi
    simp only [timerB, Bool.and_eq_true] at this
    obtain ⟨_, _, _, _, _, hg, _⟩ := this
    exact inB_iff.1 hg
  · obtain ⟨e1, e2, e3⟩ := F.pn
    obtain ⟨_, n1, n2⟩ := workB_iff.1 hw
    have h1 := Int.emod_lt_of_pos d (show (0 : Int) < a by omega)
    have h2 := Int.emod_nonneg d (show a ≠ 0 by omega)
    unfold homeN
    omega

end Go.Proofs.YtflekodaiejflaaGreatDoor

/-
  When a timer will ring; which are due (spec, chapter 5).
-/
namespace Go.Proofs.YtflekodaiejflaaGreatDoor
open Go.RowKit Go.Joins
set_option linter.unusedVariables false
set_option linter.unusedSimpArgs false

/-! ### lists of numbers, told by lists -/
def ofL (l : List Int) : Ints := fun i => l.getD i 0
/-- a call that makes a new list of numbers -/
def NewInts (l : List Int) (w : World) (e : Ending) (w' : World) : Prop := ∃ v, e = .returned v ∧ OwnIRow w' w.heap.size v l.length (ofL l) ∧ Below w.heap.size w w'

/-- when it will ring, as it stands -/
def effI (t : Tm) : Int := if t.st = 1 ∨ t.st = 6 then t.wh else if t.st = 3 ∨ t.st = 4 then t.nx else -1

set_option maxRecDepth 100000 in
set_option maxHeartbeats 1000000 in
theorem l5Effect_any (t : Tm) (w : World) :
    Calls Tryz.prog 99 #[tmV t] w fun e w' => e = .returned (.int .i64 (effI t)) ∧ Below w.heap.size w w' := by
  obtain ⟨st, wh, nx, pe, pl, ge, ki, ma⟩ := t
  have k0 := (Below.refl w.heap.size w).alloc (Nat.le_refl _) (.cells #[.int .i64 st, .int .i64 wh, .int .i64 nx, .int .i64 pe, .int .i64 pl, .int .i64 ge, .int .i64 ki, .int .i64 ma] 80)
  by_cases h1 : st = 1
  · subst h1
    rw [show effI ⟨1, wh, nx, pe, pl, ge, ki, ma⟩ = wh from rfl]
    go_enter Tryz.func99, Tryz.ntmps99
    go_wp2
    go_ret
    exact ⟨rfl, k0⟩
  by_cases h6 : st = 6
  · subst h6
    rw [show effI ⟨6, wh, nx, pe, pl, ge, ki, ma⟩ = wh from rfl]
    go_enter Tryz.func99, Tryz.ntmps99
    go_wp2
    go_ret
    exact ⟨rfl, k0⟩
  by_cases h3 : st = 3
  · subst h3
    rw [show effI ⟨3, wh, nx, pe, pl, ge, ki, ma⟩ = nx from rfl]
    go_enter Tryz.func99, Tryz.ntmps99
    go_wp2
    go_ret
    exact ⟨rfl, k0⟩
  by_cases h4 : st = 4
  · subst h4
    rw [show effI ⟨4, wh, nx, pe, pl, ge, ki, ma⟩ = nx from rfl]
    go_enter Tryz.func99, Tryz.ntmps99
    go_wp2
    go_ret
    exact ⟨rfl, k0⟩
  rw [show effI ⟨st, wh, nx, pe, pl, ge, ki, ma⟩ = -1 by simp [effI, h1, h6, h3, h4]]
  have b1 : (st == 1) = false := by simpa using h1
  have b3 : (st == 3) = false := by simpa using h3
  have b4 : (st == 4) = false := by simpa using h4
  have b6 : (st == 6) = false := by simpa using h6
  go_enter Tryz.func99, Tryz.ntmps99
  go_wp2
  go_ret
  exact ⟨rfl, k0⟩

/-- is the timer i due? -/
def dueB (M : Me) (i : Nat) : Bool := decide (0 ≤ effI (M.t i)) && (decide (effI (M.t i) ≤ M.c) && !((M.t i).st == 6))
def dueL (M : Me) : Nat → List Int
  | 0 => []
  | k + 1 => if dueB M k then dueL M k ++ [(k : Int)] else dueL M k
/-- which are due, of a plan and a memory -/
def dueInL (a b c : Int) (M : Me) : List Int := if memOkB a b c M then dueL M M.tn else []
/-- what the program's function of a plan and a memory is to answer: a new list of numbers -/
def AsksML (fn : FuncId) (g : Int → Int → Int → Me → List Int) : Prop := ∀ (a b c : Int) (tv pv : Value) (M : Me) (w : World), sizeM M ≤ 1048576 → MemAt w tv pv M → Calls Tryz.prog fn #[.agg #[.int .i64 a, .int .i64 b, .int .i64 c], meV M.c tv pv] w (NewInts (g a b c M) w)

end Go.Proofs.YtflekodaiejflaaGreatDoor
