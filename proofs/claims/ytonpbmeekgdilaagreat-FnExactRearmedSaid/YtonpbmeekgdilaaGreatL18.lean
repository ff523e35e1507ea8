/-
  Tidying up, in a memory of one's own (spec, chapter 6): armed.
-/
import Derived.Test.YtonpbmeekgdilaaGreatL16
import Derived.Test.YtonpbmeekgdilaaGreatL17
import Derived.Test.YtonpbmeekgdilaaGreatL12
import Derived.Deep.QuietTactic
import Derived.BigQuiet
import Derived.Deep.DeepCutAuto
import Derived.Test.YtonpbmeekgdilaaGreatL14
import Derived.Test.YtonpbmeekgdilaaGreatL15
namespace Go.Proofs.YtonpbmeekgdilaaGreat
open Go.RowKit Go.Joins
set_option linter.unusedVariables false

set_option maxRecDepth 100000 in
set_option maxHeartbeats 8000000 in
theorem l6Armed_no {B k t : Nat} {tv pv : Value} {M : Me} {w : World} (hB : B ≤ w.heap.size) (hk : k < M.pn) (ht : t < M.tn) (hq : armedB M t = false) (h : OwnMem w B tv pv M) :
    Calls Tryz.prog 23 #[meV M.c tv pv, .int .i64 (t : Int), .int .i64 (k : Int)] w (InMeB B M false w) := by
  obtain ⟨pg, pc, V, rfl, ho⟩ := h.openP hk
  clear h
  obtain ⟨tg, tc, rfl, _⟩ := ho.tms ht
  obtain ⟨w1, e1, s1⟩ := MSt.start hB ho
  clear ho
  obtain ⟨T, hT⟩ : ∃ T, T = M.t t := ⟨_, rfl⟩
  have hq2 : (T.st == 2 && T.pl == -1) = false := by rw [hT]; exact hq
  obtain ⟨⟨t0, _, _, _, t4, _⟩, tf⟩ := s1.tcells (t := t) ht hT.symm
  have i4 : (0 : Int) ≤ (t : Int) := by omega
  have i5 : (t : Int) < (M.tn : Int) := by omega
  obtain ⟨⟨x0, x1, x2, xf0, xf1, xf2⟩, y0, y1, y2, yf0, yf1, yf2⟩ := s1.cells
  clear hT hq tf
  by_cases c1 : T.st = 2
  · have c1b : (T.st != 2) = false := by rw [c1]; rfl
    have c2 : (T.pl != -1) = true := by rw [c1] at hq2; simpa using hq2
    clear c1 hq2
    go_enter Tryz.func23, Tryz.ntmps23
    go_upto_region 1 with fail
    rw [← e1.out]
    clear e1
    go_wp2
    exact bodyPost_ret (v := .tuple #[meV M.c (.slice (some ⟨tg, 0, none⟩) M.tn tc) (.slice (some ⟨pg, 0, none⟩) M.pn pc), .bool false]) (by simp [results, Tryz.results23, go_sem, y0, y1, y2]) rfl (s1.retB false _ _ _)
  · have c1b : (T.st != 2) = true := by simpa using c1
    clear c1 hq2
    go_enter Tryz.func23, Tryz.ntmps23
    go_upto_region 1 with fail
    rw [← e1.out]
    clear e1
    go_wp2
    exact bodyPost_ret (v := .tuple #[meV M.c (.slice (some ⟨tg, 0, none⟩) M.tn tc) (.slice (some ⟨pg, 0, none⟩) M.pn pc), .bool false]) (by simp [results, Tryz.results23, go_sem, y0, y1, y2]) rfl (s1.retB false _ _ _)

set_option maxRecDepth 100000 in
set_option maxHeartbeats 8000000 in
theorem l6Armed_yes {B k t : Nat} {tv pv : Value} {M : Me} {w : World} (hB : B ≤ w.heap.size) (hk : k < M.pn) (hn : (M.p k).n ≤ 1048576) (ht : t < M.tn) (hq : armedB M t = true) (h : OwnMem w B tv pv M) :
    Calls Tryz.prog 23 #[meV M.c tv pv, .int .i64 (t : Int), .int .i64 (k : Int)] w (InMeB B (pushM M t k) true w) := by
  obtain ⟨pg, pc, V, rfl, ho⟩ := h.openP hk
  clear h
  obtain ⟨tg, tc, rfl, _⟩ := ho.tms ht
  obtain ⟨w1, e1, s1⟩ := MSt.start hB ho
  clear ho
  have hc := hq
  simp only [armedB, Bool.and_eq_true, beq_iff_eq] at hc
  obtain ⟨⟨t0, _, _, _, t4, _⟩, tf⟩ := s1.tcells (t := t) ht rfl
  rw [hc.1] at t0
  rw [hc.2] at t4
  have i4 : (0 : Int) ≤ (t : Int) := by omega
  have i5 : (t : Int) < (M.tn : Int) := by omega
  obtain ⟨⟨x0, x1, x2, xf0, xf1, xf2⟩, y0, y1, y2, yf0, yf1, yf2⟩ := s1.cells
  clear hq hc tf
  go_enter Tryz.func23, Tryz.ntmps23
  go_upto_region 1 with fail
  rw [← e1.out]
  clear e1
  go_wp2_with fail
  go_at_call 48; refine (l6Push_any (B := B) s1.size.2 ht hk hn s1.own).mono ?_; intro x w5 hx
  obtain ⟨tg5, tc5, pg5, pc5, V5, rfl, ho5, hk5⟩ := hx.formT (c := M.c) (pn := M.pn) (tn := M.tn) rfl rfl rfl hk ht
  obtain ⟨_, z0, z1, z2, zf0, zf1, zf2⟩ := s1.blockA hk5
  clear hx x0 x1 x2 xf0 xf1 xf2 y0 y1 y2 yf0 yf1 yf2 t0 t4
  go_wp2
  exact bodyPost_ret (v := .tuple #[meV M.c (.slice (some ⟨tg5, 0, none⟩) M.tn tc5) (.slice (some ⟨pg5, 0, none⟩) M.pn pc5), .bool true]) (by simp [results, Tryz.results23, go_sem, z0, z1, z2]) rfl (s1.retCallB (M' := pushM M t k) ho5.own hk5 true _ _ _)

theorem l6Armed_any {B k t : Nat} {tv pv : Value} {M : Me} {w : World} (hB : B ≤ w.heap.size) (hk : k < M.pn) (hn : (M.p k).n ≤ 1048576) (ht : t < M.tn) (h : OwnMem w B tv pv M) :
    Calls Tryz.prog 23 #[meV M.c tv pv, .int .i64 (t : Int), .int .i64 (k : Int)] w (InMeB B (armedM M t k) (armedB M t) w) := by
  cases hq : armedB M t
  · rw [show armedM M t k = M by rw [armedM, hq]; rfl]
    exact l6Armed_no hB hk ht hq h
  · rw [show armedM M t k = pushM M t k by rw [armedM, if_pos hq]]
    exact l6Armed_yes hB hk hn ht hq h

end Go.Proofs.YtonpbmeekgdilaaGreat

/-
  Tidying up (spec, chapter 6), at the face: Armed.
-/
namespace Go.Proofs.YtonpbmeekgdilaaGreat
open Go.RowKit Go.Joins
set_option linter.unusedVariables false

set_option maxRecDepth 100000 in
set_option maxHeartbeats 4000000 in
theorem sp_armed_zero1 (a b c d e : Int) {tv pv : Value} {M : Me} {w : World} (hs : sizeM M ≤ 1048576) (h : MemAt w tv pv M) (ho : memOkB a b c M = false) :
    Calls Tryz.prog 7 #[.agg #[.int .i64 a, .int .i64 b, .int .i64 c], meV M.c tv pv, .int .i64 d, .int .i64 e] w (NewMeB me0 (false) w) := by
  obtain ⟨va, vc, qa, qc, rfl, rfl⟩ := h.form
  have htn := (sizeM_le hs).1
  have k0 := (Below.refl w.heap.size w).alloc (Nat.le_refl _) (.cells #[.int .i64 a, .int .i64 b, .int .i64 c] 35)
  have e0 : (w.alloc (.cells #[.int .i64 a, .int .i64 b, .int .i64 c] 35)).heap.size = w.heap.size + 1 := by simp
  have k1 := k0.alloc k0.size (memO M.c (.slice va M.tn vc) (.slice qa M.pn qc) 32)
  have e1 : ((w.alloc (.cells #[.int .i64 a, .int .i64 b, .int .i64 c] 35)).alloc (memO M.c (.slice va M.tn vc) (.slice qa M.pn qc) 32)).heap.size = w.heap.size + 1 + 1 := by simp
  have k2 := k1.alloc k1.size (memO 0 (.slice none 0 0) (.slice none 0 0) 32)
  have hA := alloc_block (memO 0 (.slice none 0 0) (.slice none 0 0) 32) (heap_alloc_new (w.alloc (.cells #[.int .i64 a, .int .i64 b, .int .i64 c] 35)) (memO M.c (.slice va M.tn vc) (.slice qa M.pn qc) 32))
  rw [e0] at hA
  have hR := heap_alloc_new ((w.alloc (.cells #[.int .i64 a, .int .i64 b, .int .i64 c] 35)).alloc (memO M.c (.slice va M.tn vc) (.slice qa M.pn qc) 32)) (memO 0 (.slice none 0 0) (.slice none 0 0) 32)
  rw [e1] at hR
  have hP := alloc_block (memO 0 (.slice none 0 0) (.slice none 0 0) 32) (alloc_block (memO M.c (.slice va M.tn vc) (.slice qa M.pn qc) 32) (heap_alloc_new w (.cells #[.int .i64 a, .int .i64 b, .int .i64 c] 35)))
  have hM := h.below k2
  clear h
  have Ho := Lib.hid ho
  clear ho
  obtain ⟨a0, a1, a2, _, _, _⟩ := three hA
  obtain ⟨p0, p1, p2, _, _, _⟩ := three hP
  go_enter Tryz.func7, Tryz.ntmps7
  go_wp2_with fail
  go_at_call 20; refine (spMemOk_any _ _ _ hs hM).mono ?_; rintro x w1 ⟨rfl, hb⟩; rw [Ho.out]
  clear a0 a1 a2 p0 p1 p2
  replace hR := b_block hb hR (lt_of_block hR)
  replace hP := b_block hb hP (lt_of_block hP)
  replace hA := b_block hb hA (lt_of_block hA)
  replace hM := hM.below hb
  have k3 := k2.trans (hb.mono k2.size)
  have s3 := hb.size
  rw [show (((w.alloc (.cells #[.int .i64 a, .int .i64 b, .int .i64 c] 35)).alloc (memO M.c (.slice va M.tn vc) (.slice qa M.pn qc) 32)).alloc (memO 0 (.slice none 0 0) (.slice none 0 0) 32)).heap.size = w.heap.size + 1 + 1 + 1 by simp] at s3
  clear hb
  obtain ⟨r0, r1, r2, rf0, rf1, rf2⟩ := three hR
  go_wp2
  exact bodyPost_ret (v := .tuple #[meV 0 (.slice none 0 0) (.slice none 0 0), .bool false]) (by simp [results, Tryz.results7, go_sem, r0, r1, r2]) rfl ⟨_, _, rfl, own_me0 _ _, b_set3 k3 (by omega) _ _ _⟩

set_option maxRecDepth 100000 in
set_option maxHeartbeats 4000000 in
theorem sp_armed_zero2 (a b c d e : Int) {tv pv : Value} {M : Me} {w : World} (hs : sizeM M ≤ 1048576) (h : MemAt w tv pv M) (ho : memOkB a b c M = true) (h0 : hasT M d = false) :
    Calls Tryz.prog 7 #[.agg #[.int .i64 a, .int .i64 b, .int .i64 c], meV M.c tv pv, .int .i64 d, .int .i64 e] w (NewMeB me0 (false) w) := by
  obtain ⟨va, vc, qa, qc, rfl, rfl⟩ := h.form
  have htn := (sizeM_le hs).1
  have k0 := (Below.refl w.heap.size w).alloc (Nat.le_refl _) (.cells #[.int .i64 a, .int .i64 b, .int .i64 c] 35)
  have e0 : (w.alloc (.cells #[.int .i64 a, .int .i64 b, .int .i64 c] 35)).heap.size = w.heap.size + 1 := by simp
  have k1 := k0.alloc k0.size (memO M.c (.slice va M.tn vc) (.slice qa M.pn qc) 32)
  have e1 : ((w.alloc (.cells #[.int .i64 a, .int .i64 b, .int .i64 c] 35)).alloc (memO M.c (.slice va M.tn vc) (.slice qa M.pn qc) 32)).heap.size = w.heap.size + 1 + 1 := by simp
  have k2 := k1.alloc k1.size (memO 0 (.slice none 0 0) (.slice none 0 0) 32)
  have hA := alloc_block (memO 0 (.slice none 0 0) (.slice none 0 0) 32) (heap_alloc_new (w.alloc (.cells #[.int .i64 a, .int .i64 b, .int .i64 c] 35)) (memO M.c (.slice va M.tn vc) (.slice qa M.pn qc) 32))
  rw [e0] at hA
  have hR := heap_alloc_new ((w.alloc (.cells #[.int .i64 a, .int .i64 b, .int .i64 c] 35)).alloc (memO M.c (.slice va M.tn vc) (.slice qa M.pn qc) 32)) (memO 0 (.slice none 0 0) (.slice none 0 0) 32)
  rw [e1] at hR
  have hP := alloc_block (memO 0 (.slice none 0 0) (.slice none 0 0) 32) (alloc_block (memO M.c (.slice va M.tn vc) (.slice qa M.pn qc) 32) (heap_alloc_new w (.cells #[.int .i64 a, .int .i64 b, .int .i64 c] 35)))
  have hM := h.below k2
  clear h
  have Ho := Lib.hid ho
  have H0 := Lib.hid h0
  clear ho h0
  obtain ⟨a0, a1, a2, _, _, _⟩ := three hA
  obtain ⟨p0, p1, p2, _, _, _⟩ := three hP
  go_enter Tryz.func7, Tryz.ntmps7
  go_wp2_with fail
  go_at_call 20; refine (spMemOk_any _ _ _ hs hM).mono ?_; rintro x w1 ⟨rfl, hb⟩; rw [Ho.out]
  clear a0 a1 a2 p0 p1 p2
  replace hR := b_block hb hR (lt_of_block hR)
  replace hP := b_block hb hP (lt_of_block hP)
  replace hA := b_block hb hA (lt_of_block hA)
  replace hM := hM.below hb
  have k3 := k2.trans (hb.mono k2.size)
  have s3 := hb.size
  rw [show (((w.alloc (.cells #[.int .i64 a, .int .i64 b, .int .i64 c] 35)).alloc (memO M.c (.slice va M.tn vc) (.slice qa M.pn qc) 32)).alloc (memO 0 (.slice none 0 0) (.slice none 0 0) 32)).heap.size = w.heap.size + 1 + 1 + 1 by simp] at s3
  clear hb
  obtain ⟨a0, a1, a2, _, _, _⟩ := three hA
  obtain ⟨p0, p1, p2, _, _, _⟩ := three hP
  go_wp2_with fail
  go_at_call 21; refine (l5Has_any ⟨_, _, rfl⟩ htn _ _).mono ?_; rintro x w2 ⟨rfl, hb⟩; rw [H0.out]
  clear a0 a1 a2 p0 p1 p2
  replace hR := b_block hb hR (lt_of_block hR)
  replace hP := b_block hb hP (lt_of_block hP)
  replace hA := b_block hb hA (lt_of_block hA)
  replace hM := hM.below hb
  have k4 := k3.trans (hb.mono k3.size)
  have s4 := hb.size
  clear hb
  obtain ⟨r0, r1, r2, rf0, rf1, rf2⟩ := three hR
  go_wp2
  exact bodyPost_ret (v := .tuple #[meV 0 (.slice none 0 0) (.slice none 0 0), .bool false]) (by simp [results, Tryz.results7, go_sem, r0, r1, r2]) rfl ⟨_, _, rfl, own_me0 _ _, b_set3 k4 (by omega) _ _ _⟩

set_option maxRecDepth 100000 in
set_option maxHeartbeats 4000000 in
theorem sp_armed_zero3 (a b c d e : Int) {tv pv : Value} {M : Me} {w : World} (hs : sizeM M ≤ 1048576) (h : MemAt w tv pv M) (ho : memOkB a b c M = true) (h0 : hasT M d = true) (h1 : procB a b c e = false) :
    Calls Tryz.prog 7 #[.agg #[.int .i64 a, .int .i64 b, .int .i64 c], meV M.c tv pv, .int .i64 d, .int .i64 e] w (NewMeB me0 (false) w) := by
  obtain ⟨va, vc, qa, qc, rfl, rfl⟩ := h.form
  have htn := (sizeM_le hs).1
  have k0 := (Below.refl w.heap.size w).alloc (Nat.le_refl _) (.cells #[.int .i64 a, .int .i64 b, .int .i64 c] 35)
  have e0 : (w.alloc (.cells #[.int .i64 a, .int .i64 b, .int .i64 c] 35)).heap.size = w.heap.size + 1 := by simp
  have k1 := k0.alloc k0.size (memO M.c (.slice va M.tn vc) (.slice qa M.pn qc) 32)
  have e1 : ((w.alloc (.cells #[.int .i64 a, .int .i64 b, .int .i64 c] 35)).alloc (memO M.c (.slice va M.tn vc) (.slice qa M.pn qc) 32)).heap.size = w.heap.size + 1 + 1 := by simp
  have k2 := k1.alloc k1.size (memO 0 (.slice none 0 0) (.slice none 0 0) 32)
  have hA := alloc_block (memO 0 (.slice none 0 0) (.slice none 0 0) 32) (heap_alloc_new (w.alloc (.cells #[.int .i64 a, .int .i64 b, .int .i64 c] 35)) (memO M.c (.slice va M.tn vc) (.slice qa M.pn qc) 32))
  rw [e0] at hA
  have hR := heap_alloc_new ((w.alloc (.cells #[.int .i64 a, .int .i64 b, .int .i64 c] 35)).alloc (memO M.c (.slice va M.tn vc) (.slice qa M.pn qc) 32)) (memO 0 (.slice none 0 0) (.slice none 0 0) 32)
  rw [e1] at hR
  have hP := alloc_block (memO 0 (.slice none 0 0) (.slice none 0 0) 32) (alloc_block (memO M.c (.slice va M.tn vc) (.slice qa M.pn qc) 32) (heap_alloc_new w (.cells #[.int .i64 a, .int .i64 b, .int .i64 c] 35)))
  have hM := h.below k2
  clear h
  have Ho := Lib.hid ho
  have H0 := Lib.hid h0
  have H1 := Lib.hid h1
  clear ho h0 h1
  obtain ⟨a0, a1, a2, _, _, _⟩ := three hA
  obtain ⟨p0, p1, p2, _, _, _⟩ := three hP
  go_enter Tryz.func7, Tryz.ntmps7
  go_wp2_with fail
  go_at_call 20; refine (spMemOk_any _ _ _ hs hM).mono ?_; rintro x w1 ⟨rfl, hb⟩; rw [Ho.out]
  clear a0 a1 a2 p0 p1 p2
  replace hR := b_block hb hR (lt_of_block hR)
  replace hP := b_block hb hP (lt_of_block hP)
  replace hA := b_block hb hA (lt_of_block hA)
  replace hM := hM.below hb
  have k3 := k2.trans (hb.mono k2.size)
  have s3 := hb.size
  rw [show (((w.alloc (.cells #[.int .i64 a, .int .i64 b, .int .i64 c] 35)).alloc (memO M.c (.slice va M.tn vc) (.slice qa M.pn qc) 32)).alloc (memO 0 (.slice none 0 0) (.slice none 0 0) 32)).heap.size = w.heap.size + 1 + 1 + 1 by simp] at s3
  clear hb
  obtain ⟨a0, a1, a2, _, _, _⟩ := three hA
  obtain ⟨p0, p1, p2, _, _, _⟩ := three hP
  go_wp2_with fail
  go_at_call 21; refine (l5Has_any ⟨_, _, rfl⟩ htn _ _).mono ?_; rintro x w2 ⟨rfl, hb⟩; rw [H0.out]
  clear a0 a1 a2 p0 p1 p2
  replace hR := b_block hb hR (lt_of_block hR)
  replace hP := b_block hb hP (lt_of_block hP)
  replace hA := b_block hb hA (lt_of_block hA)
  replace hM := hM.below hb
  have k4 := k3.trans (hb.mono k3.size)
  have s4 := hb.size
  clear hb
  obtain ⟨a0, a1, a2, _, _, _⟩ := three hA
  obtain ⟨p0, p1, p2, _, _, _⟩ := three hP
  go_wp2_with fail
  go_at_call 22; refine (l1Proc_any a b c _ _).mono ?_; rintro x w3 ⟨rfl, hb⟩; rw [H1.out]
  clear a0 a1 a2 p0 p1 p2
  replace hR := b_block hb hR (lt_of_block hR)
  replace hP := b_block hb hP (lt_of_block hP)
  replace hA := b_block hb hA (lt_of_block hA)
  replace hM := hM.below hb
  have k5 := k4.trans (hb.mono k4.size)
  have s5 := hb.size
  clear hb
  obtain ⟨r0, r1, r2, rf0, rf1, rf2⟩ := three hR
  go_wp2
  exact bodyPost_ret (v := .tuple #[meV 0 (.slice none 0 0) (.slice none 0 0), .bool false]) (by simp [results, Tryz.results7, go_sem, r0, r1, r2]) rfl ⟨_, _, rfl, own_me0 _ _, b_set3 k5 (by omega) _ _ _⟩

set_option maxRecDepth 100000 in
set_option maxHeartbeats 8000000 in
theorem sp_armed_yes (a b c d e : Int) {tv pv : Value} {M N : Me} {q : Bool} {w : World} (hs : sizeM M ≤ 1048576) (h : MemAt w tv pv M) (ho : memOkB a b c M = true) (h0 : hasT M d = true) (h1 : procB a b c e = true)
    (HW : RowKit.Hid (∀ (W : World) (B : Nat) (tv pv : Value), B ≤ W.heap.size → OwnMem W B tv pv M → Calls Tryz.prog 23 #[meV M.c tv pv, .int .i64 d, .int .i64 e] W (InMeB B N q W))) :
    Calls Tryz.prog 7 #[.agg #[.int .i64 a, .int .i64 b, .int .i64 c], meV M.c tv pv, .int .i64 d, .int .i64 e] w (NewMeB N q w) := by
  obtain ⟨va, vc, qa, qc, rfl, rfl⟩ := h.form
  have htn := (sizeM_le hs).1
  have k0 := (Below.refl w.heap.size w).alloc (Nat.le_refl _) (.cells #[.int .i64 a, .int .i64 b, .int .i64 c] 35)
  have e0 : (w.alloc (.cells #[.int .i64 a, .int .i64 b, .int .i64 c] 35)).heap.size = w.heap.size + 1 := by simp
  have k1 := k0.alloc k0.size (memO M.c (.slice va M.tn vc) (.slice qa M.pn qc) 32)
  have e1 : ((w.alloc (.cells #[.int .i64 a, .int .i64 b, .int .i64 c] 35)).alloc (memO M.c (.slice va M.tn vc) (.slice qa M.pn qc) 32)).heap.size = w.heap.size + 1 + 1 := by simp
  have k2 := k1.alloc k1.size (memO 0 (.slice none 0 0) (.slice none 0 0) 32)
  have hA := alloc_block (memO 0 (.slice none 0 0) (.slice none 0 0) 32) (heap_alloc_new (w.alloc (.cells #[.int .i64 a, .int .i64 b, .int .i64 c] 35)) (memO M.c (.slice va M.tn vc) (.slice qa M.pn qc) 32))
  rw [e0] at hA
  have hR := heap_alloc_new ((w.alloc (.cells #[.int .i64 a, .int .i64 b, .int .i64 c] 35)).alloc (memO M.c (.slice va M.tn vc) (.slice qa M.pn qc) 32)) (memO 0 (.slice none 0 0) (.slice none 0 0) 32)
  rw [e1] at hR
  have hP := alloc_block (memO 0 (.slice none 0 0) (.slice none 0 0) 32) (alloc_block (memO M.c (.slice va M.tn vc) (.slice qa M.pn qc) 32) (heap_alloc_new w (.cells #[.int .i64 a, .int .i64 b, .int .i64 c] 35)))
  have hM := h.below k2
  clear h
  have Ho := Lib.hid ho
  have H0 := Lib.hid h0
  have H1 := Lib.hid h1
  clear ho h0 h1
  obtain ⟨a0, a1, a2, _, _, _⟩ := three hA
  obtain ⟨p0, p1, p2, _, _, _⟩ := three hP
  go_enter Tryz.func7, Tryz.ntmps7
  go_wp2_with fail
  go_at_call 20; refine (spMemOk_any _ _ _ hs hM).mono ?_; rintro x w1 ⟨rfl, hb⟩; rw [Ho.out]
  clear a0 a1 a2 p0 p1 p2
  replace hR := b_block hb hR (lt_of_block hR)
  replace hP := b_block hb hP (lt_of_block hP)
  replace hA := b_block hb hA (lt_of_block hA)
  replace hM := hM.below hb
  have k3 := k2.trans (hb.mono k2.size)
  have s3 := hb.size
  rw [show (((w.alloc (.cells #[.int .i64 a, .int .i64 b, .int .i64 c] 35)).alloc (memO M.c (.slice va M.tn vc) (.slice qa M.pn qc) 32)).alloc (memO 0 (.slice none 0 0) (.slice none 0 0) 32)).heap.size = w.heap.size + 1 + 1 + 1 by simp] at s3
  clear hb
  obtain ⟨a0, a1, a2, _, _, _⟩ := three hA
  obtain ⟨p0, p1, p2, _, _, _⟩ := three hP
  go_wp2_with fail
  go_at_call 21; refine (l5Has_any ⟨_, _, rfl⟩ htn _ _).mono ?_; rintro x w2 ⟨rfl, hb⟩; rw [H0.out]
  clear a0 a1 a2 p0 p1 p2
  replace hR := b_block hb hR (lt_of_block hR)
  replace hP := b_block hb hP (lt_of_block hP)
  replace hA := b_block hb hA (lt_of_block hA)
  replace hM := hM.below hb
  have k4 := k3.trans (hb.mono k3.size)
  have s4 := hb.size
  clear hb
  obtain ⟨a0, a1, a2, _, _, _⟩ := three hA
  obtain ⟨p0, p1, p2, _, _, _⟩ := three hP
  go_wp2_with fail
  go_at_call 22; refine (l1Proc_any a b c _ _).mono ?_; rintro x w3 ⟨rfl, hb⟩; rw [H1.out]
  clear a0 a1 a2 p0 p1 p2
  replace hR := b_block hb hR (lt_of_block hR)
  replace hP := b_block hb hP (lt_of_block hP)
  replace hA := b_block hb hA (lt_of_block hA)
  replace hM := hM.below hb
  have k5 := k4.trans (hb.mono k4.size)
  have s5 := hb.size
  clear hb
  obtain ⟨a0, a1, a2, _, _, _⟩ := three hA
  go_wp2_with fail
  go_at_call 24; refine (l5Copy_any hs hM).mono ?_; rintro x w4 ⟨t2, p2, rfl, hO, hb⟩
  clear a0 a1 a2 hA hP hM
  replace hR := b_block hb hR (lt_of_block hR)
  have k6 := k5.trans (hb.mono k5.size)
  have s6 := hb.size
  go_wp2_with fail
  go_at_call 23; refine (HW.out _ _ _ _ hb.size hO).mono ?_; rintro x w5 ⟨t3, p3, rfl, hO3, kx⟩
  clear hO hb
  replace hR := (kx.below.block (w.heap.size + 1 + 1) (by omega)).trans hR
  have k7 := k6.trans (kx.below.mono (by omega))
  clear kx
  obtain ⟨ta, tc, pa, pc, ht, hp⟩ := hO3.at.form
  subst ht hp
  obtain ⟨r0, r1, r2, rf0, rf1, rf2⟩ := three hR
  go_wp2
  exact bodyPost_ret (v := .tuple #[meV N.c (.slice ta N.tn tc) (.slice pa N.pn pc), .bool q]) (by simp [results, Tryz.results7, go_sem, r0, r1, r2]) rfl ⟨_, _, rfl, (hO3.set3 (by omega) _ _ _).mono (by omega), b_set3 k7 (by omega) _ _ _⟩

theorem spArmed_any : AsksArmed 7 := by
  intro a b c d e tv pv M w hs h
  cases hall : bothOkM a b c d e M
  · have e0 : armedG a b c d e M = me0 := by rw [armedG, hall]; rfl
    have e1 : armedQ a b c d e M = false := by rw [armedQ, hall]; rfl
    rw [e0, e1]
    cases hok : memOkB a b c M
    · exact sp_armed_zero1 a b c d e hs h hok
    · cases h0 : hasT M d
      · exact sp_armed_zero2 a b c d e hs h hok h0
      · cases h1 : procB a b c e
        · exact sp_armed_zero3 a b c d e hs h hok h0 h1
        · exfalso; rw [bothOkM, hok, h0, h1] at hall; simp at hall
  · have e0 : armedG a b c d e M = armedM M d.toNat e.toNat := by rw [armedG, if_pos hall]
    have e1 : armedQ a b c d e M = armedB M d.toNat := by rw [armedQ, hall]; rfl
    rw [e0, e1]
    obtain ⟨hf, ⟨t, ed, et, ht⟩, k, ee, ek, hk⟩ := bothOk_of hall
    subst ed ee
    have hall2 := hall
    simp only [bothOkM, Bool.and_eq_true] at hall2
    obtain ⟨hok, h0, h1⟩ := hall2
    exact sp_armed_yes a b c (t : Int) (k : Int) hs h hok h0 h1 (Lib.hid (fun W B tv pv hB hO => l6Armed_any hB hk (by have := hf.n k hk; omega) ht hO))

end Go.Proofs.YtonpbmeekgdilaaGreat

/-
  Tidying up, in the program (chapter 6): who rings; set to its next time.
-/
namespace Go.Proofs.YtonpbmeekgdilaaGreat
open Go.RowKit Go.Joins
set_option linter.unusedVariables false

set_option maxRecDepth 100000 in
set_option maxHeartbeats 8000000 in
theorem rearm_again {B mb g t k : Nat} {a b c : Int} {tv : Value} {V : Nat → Value} {M : Me} {w : World} (hB : B ≤ w.heap.size) (ht : t < M.tn) (hk : k < M.pn) (hn : (M.p k).n ≤ 1048576) (hpl : (M.t t).pl = (k : Int)) (hq : (M.t t).st = 6)
    (hc : 0 ≤ M.c ∧ M.c ≤ 999999999) (hw : 0 ≤ (M.t t).wh ∧ (M.t t).wh ≤ 1000000000) (hp : 0 < (M.t t).pe ∧ (M.t t).pe ≤ 1000000000) (h : OpenX w B mb a b c tv g V M) :
    Calls Tryz.prog 41 #[ptrV mb, .int .i64 (t : Int)] w fun x w' => x = .returned (.bool (rearmedB M t)) ∧ InX B mb a b c tv g (rearmedM M t) w w' := by
  have q : rearmedB M t = true := by unfold rearmedB; rw [hq]; rfl
  rw [show rearmedM M t = rearmM M t by rw [rearmedM, if_pos q], q, ← take_again hpl (by omega)]
  obtain ⟨tg, tc, rfl⟩ := h.tms ht
  have i2 : (0 : Int) ≤ (t : Int) := by omega
  have i3 : (t : Int) < (M.tn : Int) := by omega
  obtain ⟨m0, m1, m2, m3, m4, m5⟩ := six h.m
  obtain ⟨⟨t0, t1, t2, t3, t4, t5, t6, t7⟩, _⟩ := h.tcells ht
  have c1b : ((M.t t).st != 6) = false := by rw [hq]; rfl
  have c2b : ((M.t t).pe == 0) = false := by simp; omega
  have h1 : OpenX (w.alloc (.cells (tmCells (M.t t)) 70)) B mb a b c (.slice (some ⟨tg, 0, none⟩) M.tn tc) g V M := h.below ((Below.refl _ w).alloc (Nat.le_refl _) _)
  have k1 : Wx B w (w.alloc (.cells (tmCells (M.t t)) 70)) := .of_new ((Below.refl _ w).alloc (Nat.le_refl _) _) hB
  have hx := heap_alloc_new w (.cells (tmCells (M.t t)) 70)
  have HT := Lib.hid (fun (W : World) (V : Nat → Value) (hW : B ≤ W.heap.size) (hO : OpenX W B mb a b c (.slice (some ⟨tg, 0, none⟩) M.tn tc) g V M) => moveTo_any hW ht hk hn hpl (nextI M.c (M.t t)) hO)
  have HN := Lib.hid (fun (W : World) => nextRing_any (w := W) hc hw hp)
  obtain ⟨T, hT⟩ : ∃ T, T = M.t t := ⟨_, rfl⟩
  rw [← hT] at t0 t1 t2 t3 t4 t5 t6 t7 c1b c2b k1 hx h1 HT HN ⊢
  clear hT h hq q hp hpl hw
  go_enter Tryz.func41, Tryz.ntmps41
  go_upto_region 2 with fail
  generalize w.alloc (.cells (tmCells T) 70) = w1 at k1 hx HT h1 ⊢
  clear m0 m1 m2 m3 m4 m5 t0 t1 t2 t3 t4 t5 t6 t7
  obtain ⟨x0, x1, x3, x4⟩ := tm_eight hx
  have x2 := cell_of_block hx 2
  have x5 := cell_of_block hx 5
  have x6 := cell_of_block hx 6
  have x7 := cell_of_block hx 7
  obtain ⟨m0, m1, m2, m3, m4, m5⟩ := six h1.m
  have hB1 : B ≤ w1.heap.size := Nat.le_trans hB k1.below.size
  go_wp2_with fail
  have kk := (Below.refl w1.heap.size w1).drew
  go_region_with (first
    | (go_at_call 71; refine (HN.out _).mono ?_; rintro x w4 ⟨rfl, hb⟩; replace kk := kk.trans (hb.mono kk.size); clear hb)
    | (go_at_call 68; refine (HT.out _ _ (Nat.le_trans hB1 kk.size) (h1.below kk)).mono ?_; rintro x w5 ⟨rfl, V2, h2, k2⟩))
  all_goals
    have k3 := (k1.new kk hB).trans k2
    go_wp2
    go_ret
    exact ⟨rfl, _, h2, k3⟩

theorem rearm_any {B mb g t : Nat} {a b c : Int} {tv : Value} {V : Nat → Value} {M : Me} {w : World} (hB : B ≤ w.heap.size) (hf : MemFacts a b c M) (ht : t < M.tn) (h : OpenX w B mb a b c tv g V M) :
    Calls Tryz.prog 41 #[ptrV mb, .int .i64 (t : Int)] w fun x w' => x = .returned (.bool (rearmedB M t)) ∧ InX B mb a b c tv g (rearmedM M t) w w' := by
  by_cases hq : (M.t t).st = 6
  · obtain ⟨k, hk, hpl⟩ := running_at hf ht hq
    obtain ⟨_, hw, _, hp⟩ := times_at hf ht
    have hn := hf.n k hk
    by_cases hz : (M.t t).pe = 0
    · exact rearm_none hB ht hk (by omega) hpl hq hz h
    · exact rearm_again hB ht hk (by omega) hpl hq hf.clock hw (by omega) h
  · exact rearm_no hB ht hq h

end Go.Proofs.YtonpbmeekgdilaaGreat
