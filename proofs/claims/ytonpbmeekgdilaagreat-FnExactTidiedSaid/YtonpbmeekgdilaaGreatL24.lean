/-
  Tidying up, in the program (chapter 6), at the face: Tidied.
-/
import Derived.Test.YtonpbmeekgdilaaGreatL22
import Derived.Test.YtonpbmeekgdilaaGreatL12
import Derived.Test.YtonpbmeekgdilaaGreatL23
import Derived.Test.YtonpbmeekgdilaaGreatL16
import Derived.Test.YtonpbmeekgdilaaGreatL20
import Derived.Test.YtonpbmeekgdilaaGreatL17
import Derived.Deep.DeepCutAuto
import Derived.Test.YtonpbmeekgdilaaGreatL15
namespace Go.Proofs.YtonpbmeekgdilaaGreat
open Go.RowKit Go.Joins
set_option linter.unusedVariables false

set_option maxRecDepth 100000 in
set_option maxHeartbeats 4000000 in
theorem tidied_zero1 (a b c d : Int) {tv pv : Value} {M : Me} {w : World} (hs : sizeM M ≤ 1048576) (h : MemAt w tv pv M) (hok : memOkB a b c M = false) :
    Calls Tryz.prog 15 #[.agg #[.int .i64 a, .int .i64 b, .int .i64 c], meV M.c tv pv, .int .i64 d] w (NewMeB me0 (false) w) := by
  obtain ⟨va, vc, qa, qc, rfl, rfl⟩ := h.form
  have k0 := (Below.refl w.heap.size w).alloc (Nat.le_refl _) (.cells #[.int .i64 a, .int .i64 b, .int .i64 c] 35)
  have k1 := k0.alloc k0.size (memO M.c (.slice va M.tn vc) (.slice qa M.pn qc) 32)
  have e1 : ((w.alloc (.cells #[.int .i64 a, .int .i64 b, .int .i64 c] 35)).alloc (memO M.c (.slice va M.tn vc) (.slice qa M.pn qc) 32)).heap.size = w.heap.size + 1 + 1 := by simp
  have k2 := k1.alloc k1.size (memO 0 (.slice none 0 0) (.slice none 0 0) 32)
  have hR := heap_alloc_new ((w.alloc (.cells #[.int .i64 a, .int .i64 b, .int .i64 c] 35)).alloc (memO M.c (.slice va M.tn vc) (.slice qa M.pn qc) 32)) (memO 0 (.slice none 0 0) (.slice none 0 0) 32)
  rw [e1] at hR
  have hP := alloc_block (memO 0 (.slice none 0 0) (.slice none 0 0) 32) (alloc_block (memO M.c (.slice va M.tn vc) (.slice qa M.pn qc) 32) (heap_alloc_new w (.cells #[.int .i64 a, .int .i64 b, .int .i64 c] 35)))
  have HM := Lib.hid (h.below k2)
  have e2 : (((w.alloc (.cells #[.int .i64 a, .int .i64 b, .int .i64 c] 35)).alloc (memO M.c (.slice va M.tn vc) (.slice qa M.pn qc) 32)).alloc (memO 0 (.slice none 0 0) (.slice none 0 0) 32)).heap.size = w.heap.size + 1 + 1 + 1 := by simp
  clear h
  have HOK := Lib.hid hok
  clear hok
  go_enter Tryz.func15, Tryz.ntmps15
  go_wp2_with fail
  go_at_call 27; refine (ownMemory_no a b c hs HM.out HOK.out).mono ?_; rintro x w1 ⟨rfl, hb⟩
  have hR1 := b_block hb hR (lt_of_block hR)
  have k3 := k2.trans (hb.mono k2.size)
  obtain ⟨r0, r1, r2, rf0, rf1, rf2⟩ := three hR1
  go_wp2
  exact bodyPost_ret (v := .tuple #[meV 0 (.slice none 0 0) (.slice none 0 0), .bool false]) (by simp [results, Tryz.results15, go_sem, r0, r1, r2]) rfl ⟨_, _, rfl, own_me0 _ _, b_set3 k3 (by omega) _ _ _⟩

set_option maxRecDepth 100000 in
set_option maxHeartbeats 4000000 in
theorem tidied_zero2 (a b c d : Int) {tv pv : Value} {M : Me} {w : World} (hs : sizeM M ≤ 1048576) (h : MemAt w tv pv M) (hok : memOkB a b c M = true) (h0 : procB a b c d = false) :
    Calls Tryz.prog 15 #[.agg #[.int .i64 a, .int .i64 b, .int .i64 c], meV M.c tv pv, .int .i64 d] w (NewMeB me0 (false) w) := by
  have htn := (sizeM_le hs).1
  obtain ⟨va, vc, qa, qc, rfl, rfl⟩ := h.form
  have k0 := (Below.refl w.heap.size w).alloc (Nat.le_refl _) (.cells #[.int .i64 a, .int .i64 b, .int .i64 c] 35)
  have k1 := k0.alloc k0.size (memO M.c (.slice va M.tn vc) (.slice qa M.pn qc) 32)
  have e1 : ((w.alloc (.cells #[.int .i64 a, .int .i64 b, .int .i64 c] 35)).alloc (memO M.c (.slice va M.tn vc) (.slice qa M.pn qc) 32)).heap.size = w.heap.size + 1 + 1 := by simp
  have k2 := k1.alloc k1.size (memO 0 (.slice none 0 0) (.slice none 0 0) 32)
  have hR := heap_alloc_new ((w.alloc (.cells #[.int .i64 a, .int .i64 b, .int .i64 c] 35)).alloc (memO M.c (.slice va M.tn vc) (.slice qa M.pn qc) 32)) (memO 0 (.slice none 0 0) (.slice none 0 0) 32)
  rw [e1] at hR
  have hP := alloc_block (memO 0 (.slice none 0 0) (.slice none 0 0) 32) (alloc_block (memO M.c (.slice va M.tn vc) (.slice qa M.pn qc) 32) (heap_alloc_new w (.cells #[.int .i64 a, .int .i64 b, .int .i64 c] 35)))
  have HM := Lib.hid (h.below k2)
  have e2 : (((w.alloc (.cells #[.int .i64 a, .int .i64 b, .int .i64 c] 35)).alloc (memO M.c (.slice va M.tn vc) (.slice qa M.pn qc) 32)).alloc (memO 0 (.slice none 0 0) (.slice none 0 0) 32)).heap.size = w.heap.size + 1 + 1 + 1 := by simp
  clear h
  have HOK := Lib.hid hok
  have H0 := Lib.hid h0
  clear hok h0
  go_enter Tryz.func15, Tryz.ntmps15
  go_wp2_with fail
  go_at_call 27; refine (ownMemory_yes a b c hs HM.out HOK.out).mono ?_; rintro x w1 ⟨mb, rfl, hO, hb⟩
  rw [e2] at hO
  replace hR := b_block hb hR (lt_of_block hR)
  replace hP := b_block hb hP (lt_of_block hP)
  have k3 := k2.trans (hb.mono k2.size)
  have s3 := hb.size
  rw [e2] at s3
  clear HM hb
  obtain ⟨p0, p1, p2, _, _, _⟩ := three hP
  go_wp2_with fail
  go_at_call 29; refine (hasProc_any a b c _ _).mono ?_; rintro x w2 ⟨rfl, hb⟩; rw [H0.out]
  replace hR := b_block hb hR (lt_of_block hR)
  replace hP := b_block hb hP (lt_of_block hP)
  replace hO := hO.below hb
  have k4 := k3.trans (hb.mono k3.size)
  have s4 := hb.size
  clear hb p0 p1 p2
  obtain ⟨r0, r1, r2, rf0, rf1, rf2⟩ := three hR
  go_wp2
  exact bodyPost_ret (v := .tuple #[meV 0 (.slice none 0 0) (.slice none 0 0), .bool false]) (by simp [results, Tryz.results15, go_sem, r0, r1, r2]) rfl ⟨_, _, rfl, own_me0 _ _, b_set3 k4 (by omega) _ _ _⟩

set_option maxRecDepth 100000 in
set_option maxHeartbeats 8000000 in
theorem tidied_yes (a b c d : Int) {tv pv : Value} {M N : Me} {q : Bool} {w : World} (hs : sizeM M ≤ 1048576) (hN : sizeM N ≤ 1048576) (h : MemAt w tv pv M) (hok : memOkB a b c M = true) (h0 : procB a b c d = true)
    (HW : RowKit.Hid (∀ (W : World) (B mb g : Nat) (tv : Value) (V : Nat → Value), B ≤ W.heap.size → OpenX W B mb a b c tv g V M → Calls Tryz.prog 39 #[ptrV mb, .int .i64 d] W fun x w' => x = .returned (.bool q) ∧ InX B mb a b c tv g N W w')) :
    Calls Tryz.prog 15 #[.agg #[.int .i64 a, .int .i64 b, .int .i64 c], meV M.c tv pv, .int .i64 d] w (NewMeB N q w) := by
  have htn := (sizeM_le hs).1
  obtain ⟨va, vc, qa, qc, rfl, rfl⟩ := h.form
  have k0 := (Below.refl w.heap.size w).alloc (Nat.le_refl _) (.cells #[.int .i64 a, .int .i64 b, .int .i64 c] 35)
  have k1 := k0.alloc k0.size (memO M.c (.slice va M.tn vc) (.slice qa M.pn qc) 32)
  have e1 : ((w.alloc (.cells #[.int .i64 a, .int .i64 b, .int .i64 c] 35)).alloc (memO M.c (.slice va M.tn vc) (.slice qa M.pn qc) 32)).heap.size = w.heap.size + 1 + 1 := by simp
  have k2 := k1.alloc k1.size (memO 0 (.slice none 0 0) (.slice none 0 0) 32)
  have hR := heap_alloc_new ((w.alloc (.cells #[.int .i64 a, .int .i64 b, .int .i64 c] 35)).alloc (memO M.c (.slice va M.tn vc) (.slice qa M.pn qc) 32)) (memO 0 (.slice none 0 0) (.slice none 0 0) 32)
  rw [e1] at hR
  have hP := alloc_block (memO 0 (.slice none 0 0) (.slice none 0 0) 32) (alloc_block (memO M.c (.slice va M.tn vc) (.slice qa M.pn qc) 32) (heap_alloc_new w (.cells #[.int .i64 a, .int .i64 b, .int .i64 c] 35)))
  have HM := Lib.hid (h.below k2)
  have e2 : (((w.alloc (.cells #[.int .i64 a, .int .i64 b, .int .i64 c] 35)).alloc (memO M.c (.slice va M.tn vc) (.slice qa M.pn qc) 32)).alloc (memO 0 (.slice none 0 0) (.slice none 0 0) 32)).heap.size = w.heap.size + 1 + 1 + 1 := by simp
  clear h
  have HOK := Lib.hid hok
  have H0 := Lib.hid h0
  clear hok h0
  go_enter Tryz.func15, Tryz.ntmps15
  go_wp2_with fail
  go_at_call 27; refine (ownMemory_yes a b c hs HM.out HOK.out).mono ?_; rintro x w1 ⟨mb, rfl, hO, hb⟩
  rw [e2] at hO
  replace hR := b_block hb hR (lt_of_block hR)
  replace hP := b_block hb hP (lt_of_block hP)
  have k3 := k2.trans (hb.mono k2.size)
  have s3 := hb.size
  rw [e2] at s3
  clear HM hb
  obtain ⟨p0, p1, p2, _, _, _⟩ := three hP
  go_wp2_with fail
  go_at_call 29; refine (hasProc_any a b c _ _).mono ?_; rintro x w2 ⟨rfl, hb⟩; rw [H0.out]
  replace hR := b_block hb hR (lt_of_block hR)
  replace hP := b_block hb hP (lt_of_block hP)
  replace hO := hO.below hb
  have k4 := k3.trans (hb.mono k3.size)
  have s4 := hb.size
  clear hb p0 p1 p2
  obtain ⟨tv2, g2, V2, hX⟩ := hO.opened
  go_wp2_with fail
  go_at_call 39; refine (HW.out _ _ _ _ _ _ (by omega) hX).mono ?_; rintro x w3 ⟨rfl, V3, hX3, kx⟩
  replace hR := (kx.below.block (w.heap.size + 1 + 1) (by omega)).trans hR
  have k5 := k4.trans (kx.below.mono (by omega))
  have s5 := kx.below.size
  clear hX hO hP kx
  have hO := hX3.own
  clear hX3
  go_wp2_with fail
  go_at_call 31; refine (memShown_any hN (by omega) hO).mono ?_; rintro x w4 ⟨t3, p3, rfl, hO3, hb3⟩
  have hR3 := b_block hb3 hR (lt_of_block hR)
  have k6 := k5.trans (hb3.mono (by omega))
  obtain ⟨ta, tc, pa, pc, ht, hp⟩ := hO3.at.form
  subst ht hp
  clear hR hO
  obtain ⟨r0, r1, r2, rf0, rf1, rf2⟩ := three hR3
  go_wp2
  exact bodyPost_ret (v := .tuple #[meV N.c (.slice ta N.tn tc) (.slice pa N.pn pc), .bool q]) (by simp [results, Tryz.results15, go_sem, r0, r1, r2]) rfl ⟨_, _, rfl, (hO3.set3 (by omega) _ _ _).mono (by omega), b_set3 k6 (by omega) _ _ _⟩

theorem imTidied_any : AsksTidied 15 := by
  intro a b c d tv pv M w hs h
  cases hall : placeOkM a b c d M
  · have e0 : tidiedG a b c d M = me0 := by rw [tidiedG, hall]; rfl
    have e1 : tidiedQ a b c d M = false := by rw [tidiedQ, hall]; rfl
    rw [e0, e1]
    cases hok : memOkB a b c M
    · exact tidied_zero1 a b c d hs h hok
    · cases h0 : procB a b c d
      · exact tidied_zero2 a b c d hs h hok h0
      · exfalso; rw [placeOkM, hok, h0] at hall; simp at hall
  · have e0 : tidiedG a b c d M = tidiedM M d.toNat := by rw [tidiedG, if_pos hall]
    have e1 : tidiedQ a b c d M = tidiedB M d.toNat := by rw [tidiedQ, hall]; rfl
    rw [e0, e1]
    obtain ⟨hf, k, ed, ek, hk⟩ := placeOk_of hall
    subst ed
    have hall2 := hall
    simp only [placeOkM, Bool.and_eq_true] at hall2
    obtain ⟨hok, h0⟩ := hall2
    exact tidied_yes a b c (k : Int) hs ((near_tidied M k).size hf) h hok h0 (Lib.hid (fun W B mb g tv V hB hX => tidy_any hB hf hk hX))

end Go.Proofs.YtonpbmeekgdilaaGreat

/-
  Tidying up, in a memory of one's own (spec, chapter 6): a stopped timer off the heap, a new one on it, one that rings.
-/
namespace Go.Proofs.YtonpbmeekgdilaaGreat
open Go.RowKit Go.Joins
set_option linter.unusedVariables false


set_option maxRecDepth 100000 in
set_option maxHeartbeats 8000000 in
theorem l6Drop_any {B k i t : Nat} {tv pv : Value} {M : Me} {w : World} (hB : B ≤ w.heap.size) (hk : k < M.pn) (hi : i < (M.p k).n) (hn : (M.p k).n ≤ 1048576) (ht : t < M.tn) (hit : ((M.p k).f i).1 = (t : Int))
    (hd : -9000000000000000000 ≤ (M.p k).d) (hd2 : (M.p k).d ≤ 9000000000000000000) (h : OwnMem w B tv pv M) :
    Calls Tryz.prog 64 #[meV M.c tv pv, .int .i64 (k : Int), .int .i64 (i : Int)] w (InMe B (dropM M k i t) w) := by
  obtain ⟨pg, pc, V, rfl, ho⟩ := h.openP hk
  clear h
  obtain ⟨tg, tc, rfl, _⟩ := ho.tms ht
  obtain ⟨w1, e1, s1⟩ := MSt.start hB ho
  clear ho
  go_enter Tryz.func64, Tryz.ntmps64
  go_upto_region 1 with fail
  rw [← e1.out]
  clear e1
  obtain ⟨⟨x0, x1, x2, xf0, xf1, xf2⟩, _⟩ := s1.cells
  obtain ⟨sg, sc, p0, q0, q1⟩ := s1.slot hk hi
  rw [hit] at q0
  have i0 : (0 : Int) ≤ (k : Int) := by omega
  have i1 : (k : Int) < (M.pn : Int) := by omega
  have i2 : (0 : Int) ≤ (i : Int) := by omega
  have i3 : (i : Int) < ((M.p k).n : Int) := by omega
  have i4 : (0 : Int) ≤ (t : Int) := by omega
  have i5 : (t : Int) < (M.tn : Int) := by omega
  go_wp2_with fail
  go_at_call 65; refine (l6Pull_any (B := B) s1.size.2 hk hn s1.own).mono ?_; intro x w5 hx
  obtain ⟨tg5, tc5, pg5, pc5, V5, rfl, ho5, hk5⟩ := hx.formT (c := M.c) (pn := M.pn) (tn := M.tn) rfl rfl rfl hk ht
  obtain ⟨⟨a0, a1, a2, af0, af1, af2⟩, _⟩ := s1.blockA hk5
  obtain ⟨w6, e6, s2⟩ := s1.call ho5 hk5 rfl rfl
  clear s1 x0 x1 x2 xf0 xf1 xf2 p0 q0 q1 hx ho5
  go_upto_region 3 with fail
  rw [← e6.out]
  clear e6 a0 a1 a2 af0 af1 af2 hk5
  obtain ⟨⟨x0, x1, x2, _, _, _⟩, _⟩ := s2.cells
  obtain ⟨⟨t0, _, _, _, t4, _⟩, tf⟩ := s2.tcells (t := t) ht rfl
  have tf0 := tf (t * 8)
  obtain ⟨w7, e7, s3⟩ := s2.setT0 (t := t) ht 7
  go_upto_region 4 with fail
  rw [← e7.out]
  clear e7 x0 x1 x2 t0 t4 tf tf0 s2
  obtain ⟨⟨x0, x1, x2, _, _, _⟩, _⟩ := s3.cells
  obtain ⟨⟨t0, _, _, _, t4, _⟩, tf⟩ := s3.tcells (t := t) ht rfl
  have tf4 := tf (t * 8 + 4)
  obtain ⟨w8, e8, s4⟩ := s3.setT (t := t) 4 ht (by decide) (-1)
  go_upto_region 5 with fail
  rw [← e8.out]
  clear e8 x0 x1 x2 t0 t4 tf tf4 s3
  obtain ⟨⟨x0, x1, x2, _, _, _⟩, _⟩ := s4.cells
  obtain ⟨_, ⟨_, _, p3⟩, pf⟩ := s4.pcells (k := k) hk rfl
  have p3' : w8.cell? ⟨pg5, k * 4 + 3, none⟩ = some (.int .i64 (M.p k).d) := p3.trans (by rw [← pullM_d M k i]; rfl)
  have pf3 := pf (k * 4 + 3)
  clear p3
  go_region
  obtain ⟨w9, e9, s5⟩ := s4.setP (k := k) 3 hk (.inr (.inr rfl)) ((M.p k).d - 1)
  rw [← e9.out]
  clear e9 x0 x1 x2 p3' pf pf3 s4
  replace s5 := s5.drew
  generalize w9.drew = wz at s5 ⊢
  obtain ⟨⟨x0, x1, x2, _, _, _⟩, y0, y1, y2, yf0, yf1, yf2⟩ := s5.cells
  go_wp2
  exact bodyPost_ret (v := meV M.c (.slice (some ⟨tg5, 0, none⟩) M.tn tc5) (.slice (some ⟨pg5, 0, none⟩) M.pn pc5)) (by simp [results, Tryz.results64, go_sem, y0, y1, y2]) rfl (s5.ret _ _ _)

end Go.Proofs.YtonpbmeekgdilaaGreat

/-
  Tidying up, in a memory of one's own (spec, chapter 6): the first slot that is to be tidied.
-/
namespace Go.Proofs.YtonpbmeekgdilaaGreat
open Go.RowKit Go.Joins
set_option linter.unusedVariables false

theorem todo_iff {t : Tm} : todoB t = true ↔ t.st = 5 ∨ t.st = 3 ∨ t.st = 4 := by simp [todoB]

set_option maxRecDepth 100000 in
set_option maxHeartbeats 8000000 in
theorem l6Tidied_any {a b c : Int} {B k : Nat} {tv pv : Value} {M : Me} {w : World} (hB : B ≤ w.heap.size) (hf : MemFacts a b c M) (hk : k < M.pn) (h : OwnMem w B tv pv M) :
    Calls Tryz.prog 38 #[meV M.c tv pv, .int .i64 (k : Int)] w (InMeB B (tidiedM M k) (tidiedB M k) w) := by
  obtain ⟨pg, pc, V, rfl, ho⟩ := h.openP hk
  clear h
  obtain ⟨ta, tc, hta⟩ := ho.t.row.form
  subst hta
  obtain ⟨w1, e1, s1⟩ := MSt.start hB ho
  clear ho
  have i0 : (0 : Int) ≤ (k : Int) := by omega
  have i1 : (k : Int) < (M.pn : Int) := by omega
  have HF := Lib.hid hf
  have hn : (M.p k).n ≤ 1048576 := by have := hf.n k hk; omega
  obtain ⟨⟨ra, rc, _, p0⟩, ⟨_, p2, _⟩, pf⟩ := s1.pcells hk rfl
  have pf2 := pf (k * 4 + 2)
  obtain ⟨⟨x0, x1, x2, xf0, xf1, xf2⟩, y0, y1, y2, yf0, yf1, yf2⟩ := s1.cells
  clear hf pf
  go_enter Tryz.func38, Tryz.ntmps38
  go_upto_region 1 with fail
  rw [← e1.out]
  clear e1
  go_wp2_with fail
  go_loop [6] (fun i => ∃ j : Nat, j ≤ (M.p k).n ∧ i = .int .i64 j ∧ RowKit.Hid (∀ x, x < j → todoB (M.t (slotT M k x)) = false)) (fun i => (M.p k).n - (intOf i).toNat)
  case atStart => exact ⟨0, Nat.zero_le _, rfl, Lib.hid (fun x hx => absurd hx (Nat.not_lt_zero _))⟩
  case round =>
    obtain ⟨j, hj, rfl, HP⟩ := hrel
    by_cases hlt : j < (M.p k).n
    · obtain ⟨e0, ht, epl, ewh⟩ := HF.out.slot k hk j hlt
      obtain ⟨sg, sc, p0', q0, q1⟩ := s1.slot hk hlt
      rw [e0] at q0
      have E0 := Lib.hid e0
      have hd := HF.out.d k hk
      have hd1 : -9000000000000000000 ≤ (M.p k).d := by omega
      have hd2 : (M.p k).d ≤ 9000000000000000000 := by omega
      obtain ⟨t, et⟩ : ∃ t, t = slotT M k j := ⟨_, rfl⟩
      rw [← et] at q0 ht E0
      have ET := Lib.hid et
      obtain ⟨tg, tc', hta, _⟩ := s1.o.tms ht
      injection hta with hta1 hta2 hta3
      subst hta1 hta3
      obtain ⟨⟨t0, t1, t2, _, _, _⟩, tf⟩ := s1.tcells (t := t) ht rfl
      have tf1 := tf (t * 8 + 1)
      have i2 : (j : Int) < ((M.p k).n : Int) := by omega
      have i3 : (0 : Int) ≤ (j : Int) := by omega
      have i4 : (0 : Int) ≤ (t : Int) := by omega
      have i5 : (t : Int) < (M.tn : Int) := by omega
      clear p0 e0 epl ewh hd et tf
      cases hg : todoB (M.t t)
      · have hg' : ¬ ((M.t t).st = 5 ∨ (M.t t).st = 3 ∨ (M.t t).st = 4) := fun e => by rw [todo_iff.2 e] at hg; cases hg
        have g5 : ((M.t t).st == 5) = false := by simp; omega
        have g3 : ((M.t t).st == 3) = false := by simp; omega
        have g4 : ((M.t t).st == 4) = false := by simp; omega
        have HQ : RowKit.Hid (∀ x, x < j + 1 → todoB (M.t (slotT M k x)) = false) := Lib.hid (fun x hx => by
          by_cases e : x = j
          · rw [e, ← ET.out]; exact hg
          · exact HP.out x (by omega))
        clear hg hg' HP
        go_wp2
        go_round
        case rel => exact ⟨j + 1, by omega, by go_num, HQ⟩
        case measure => simp [intOf]; omega
      · obtain ⟨r1, r2⟩ := tidied_at hlt (by rw [← ET.out]; exact hg) HP.out
        have R1 := Lib.hid r1
        have R2 := Lib.hid r2
        rcases todo_iff.1 hg with h5 | h34
        · rw [h5] at t0
          have r3 : tidiedM M k = dropM M k j t := by rw [r2, tidyAtM, ← ET.out, if_pos h5]
          have R3 := Lib.hid r3
          clear r1 r2 r3 hg h5 HP
          go_wp2_with fail
          go_at_call 64; refine (l6Drop_any (B := B) s1.size.2 hk hlt hn ht E0.out hd1 hd2 s1.own).mono ?_; intro x w5 hx
          obtain ⟨tg5, tc5, pg5, pc5, V5, rfl, ho5, hk5⟩ := hx.formT (c := M.c) (pn := M.pn) (tn := M.tn) rfl rfl rfl hk ht
          obtain ⟨_, z0, z1, z2, zf0, zf1, zf2⟩ := s1.blockA hk5
          clear hx x0 x1 x2 xf0 xf1 xf2 y0 y1 y2 yf0 yf1 yf2 t0 t1 t2
          go_wp2
          exact bodyPost_ret (v := .tuple #[meV M.c (.slice (some ⟨tg5, 0, none⟩) M.tn tc5) (.slice (some ⟨pg5, 0, none⟩) M.pn pc5), .bool true]) (by simp [results, Tryz.results38, go_sem, z0, z1, z2]) rfl (by rw [R3.out, R1.out]; exact s1.retCallB (M' := dropM M k j t) ho5.own hk5 true _ _ _)
        · have r3 : tidiedM M k = moveM M k j t := by rw [r2, tidyAtM, ← ET.out, if_neg (by omega)]
          have R3 := Lib.hid r3
          have g5 : ((M.t t).st == 5) = false := by simp; omega
          obtain ⟨N, hN⟩ : ∃ N : Me, N = setTm M t 1 (M.t t).nx := ⟨_, rfl⟩
          have hN1 : moveM M k j t = pushM (pullM N k (j : Int)) t k := by rw [hN]; rfl
          have hN2 : N.tn = M.tn := by rw [hN]; rfl
          have hN3 : N.pn = M.pn := by rw [hN]; rfl
          have hN4 : N.c = M.c := by rw [hN]; rfl
          have hN5 : (N.p k).n ≤ 1048576 := by rw [hN]; exact hn
          obtain ⟨w9, e9, s5⟩ := s1.setT (t := t) 1 ht (by decide) (M.t t).nx
          rw [← hN] at s5
          have s6 := s5.drew
          have R4 := Lib.hid (r3.trans hN1)
          have HN := Lib.hid (And.intro hN2 (And.intro hN3 hN4))
          clear r1 r2 r3 R3 R2 hg HP hN hN1 hN2 hN3 hN4 s5
          rcases h34 with h3 | h4
          all_goals
            first | rw [h3] at t0 g5 | rw [h4] at t0 g5
            first | clear h3 | clear h4
            go_upto_region 10 with fail
            go_region
            rw [← e9.out]
            clear e9 x0 x1 x2 xf0 xf1 xf2 y0 y1 y2 yf0 yf1 yf2 t0 t1 t2 tf1
            generalize w9.drew = wz at s6 ⊢
            obtain ⟨⟨x0, x1, x2, _, _, _⟩, _⟩ := s6.cells
            have hk2 : k < N.pn := by rw [HN.out.2.1]; exact hk
            have ht2 : t < N.tn := by rw [HN.out.1]; exact ht
            have key := l6Pull_any (B := B) (M := N) (k := k) (i := (j : Int)) s6.size.2 hk2 hN5 s6.own
            rw [HN.out.2.2] at key
            go_wp2_with fail
            go_at_call 65; refine key.mono ?_; intro x w5 hx
            obtain ⟨tg5, tc5, pg5, pc5, V5, rfl, ho5, hk5⟩ := hx.formT (c := M.c) (pn := M.pn) (tn := M.tn) HN.out.2.2 HN.out.2.1 HN.out.1 hk ht
            have own5 : OwnMem w5 B (.slice (some ⟨tg5, 0, none⟩) M.tn tc5) (.slice (some ⟨pg5, 0, none⟩) M.pn pc5) (pullM N k (j : Int)) := by
              have h := ho5.own
              rw [show (pullM N k (j : Int)).pn = M.pn from HN.out.2.1] at h
              exact h
            have key2 := l6Push_any (B := B) (M := pullM N k (j : Int)) (t := t) (k := k) (Nat.le_trans s6.size.2 hk5.below.size) ht2 hk2 (Nat.le_trans (pullM_n _ _ _ _) hN5) own5
            rw [show (pullM N k (j : Int)).c = M.c from HN.out.2.2] at key2
            clear hx key ho5 own5 x0 x1 x2
            go_wp2_with fail
            go_at_call 48; refine key2.mono ?_; intro x w6 hx
            obtain ⟨tg6, tc6, pg6, pc6, V6, rfl, ho6, hk6⟩ := hx.formT (c := M.c) (pn := M.pn) (tn := M.tn) HN.out.2.2 HN.out.2.1 HN.out.1 hk ht
            have own6 : OwnMem w6 B (.slice (some ⟨tg6, 0, none⟩) M.tn tc6) (.slice (some ⟨pg6, 0, none⟩) M.pn pc6) (pushM (pullM N k (j : Int)) t k) := by
              have h := ho6.own
              rw [show (pushM (pullM N k (j : Int)) t k).pn = M.pn from HN.out.2.1] at h
              exact h
            obtain ⟨_, z0, z1, z2, zf0, zf1, zf2⟩ := s6.blockA (hk5.trans hk6)
            have fin := fun (x y z : Value) => s6.retCallB (M' := pushM (pullM N k (j : Int)) t k) own6 (hk5.trans hk6) true x y z
            rw [show (pushM (pullM N k (j : Int)) t k).c = M.c from HN.out.2.2] at fin
            have FIN := Lib.hid fin
            clear fin hx key2 ho6 own6
            go_wp2
            exact bodyPost_ret (v := .tuple #[meV M.c (.slice (some ⟨tg6, 0, none⟩) M.tn tc6) (.slice (some ⟨pg6, 0, none⟩) M.pn pc6), .bool true]) (by simp [results, Tryz.results38, go_sem, z0, z1, z2]) rfl (by rw [R4.out, R1.out]; exact FIN.out _ _ _)
    · have hjn : j = (M.p k).n := by omega
      subst hjn
      obtain ⟨r1, r2⟩ := tidied_none HP.out
      have R1 := Lib.hid r1
      have R2 := Lib.hid r2
      have i2 : ¬ ((M.p k).n : Int) < ((M.p k).n : Int) := by omega
      obtain ⟨w7, e7, s2⟩ := s1.setP (k := k) 2 hk (.inr (.inl rfl)) (-1)
      clear HP r1 r2 hlt
      go_upto_region 13 with fail
      rw [← e7.out]
      clear e7 x0 x1 x2 xf0 xf1 xf2 y0 y1 y2 yf0 yf1 yf2 p0 p2 pf2 s1
      obtain ⟨⟨x0, x1, x2, _, _, _⟩, y0, y1, y2, yf0, yf1, yf2⟩ := s2.cells
      go_wp2
      exact bodyPost_ret (v := .tuple #[meV M.c (.slice ta M.tn tc) (.slice (some ⟨pg, 0, none⟩) M.pn pc), .bool false]) (by simp [results, Tryz.results38, go_sem, y0, y1, y2]) rfl (by rw [R2.out, R1.out]; exact s2.retB false _ _ _)

end Go.Proofs.YtonpbmeekgdilaaGreat

/-
  Tidying up (spec, chapter 6), at the face: Tidied.
-/
namespace Go.Proofs.YtonpbmeekgdilaaGreat
open Go.RowKit Go.Joins
set_option linter.unusedVariables false

set_option maxRecDepth 100000 in
set_option maxHeartbeats 4000000 in
theorem sp_tidied_zero1 (a b c d : Int) {tv pv : Value} {M : Me} {w : World} (hs : sizeM M ≤ 1048576) (h : MemAt w tv pv M) (ho : memOkB a b c M = false) :
    Calls Tryz.prog 14 #[.agg #[.int .i64 a, .int .i64 b, .int .i64 c], meV M.c tv pv, .int .i64 d] w (NewMeB me0 (false) w) := by
  obtain ⟨va, vc, qa, qc, rfl, rfl⟩ := h.form
  have htn := (sizeM_le hs).1
  have k0 := (Below.refl w.heap.size w).alloc (Nat.le_refl _) (.cells #[.int .i64 a, .int .i64 b, .int .i64 c] 35)
  have e0 : (w.alloc (.cells #[.int .i64 a, .int .i64 b, .int .i64 c] 35)).heap.size = w.heap.size + 1 := by simp
  have k1 := k0.alloc k0.size (memO M.c (.slice va M.tn vc) (.slice qa M.pn qc) 32)
  have e1 : ((w.alloc (.cells #[.int .i64 a, .int .i64 b, .int .i64 c] 35)).alloc (memO M.c (.slice va M.tn vc) (.slice qa M.pn qc) 32)).heap.size = w.heap.size + 1 + 1 := by simp
  have k2 := k1.alloc k1.size (memO 0 (.slice none 0 0) (.slice none 0 0) 32)
  have hA := alloc_block (memO 0 (.slice none 0 0) (.slice none 0 0) 32) (heap_alloc_new (w.alloc (.cells #[.int .i64 a, .int .i64 b, .int .i64 c] 35)) (memO M.c (.slice va M.tn vc) (.slice qa M.pn qc) 32))
  rw [e0] at hA
  have hR := heap_alloc_new ((w.alloc (.cells #[.int .i64 a, .int .i64 b, .int .i64 c] 35)).alloc (memO M.c (.slice va M.tn vc) (.slice qa M.pn qc) 32)) (memO 0 (.slice none 0 0) (.slice none 0 0) 32)
  rw [e1] at hR
  have hP := alloc_block (memO 0 (.slice none 0 0) (.slice none 0 0) 32) (alloc_block (memO M.c (.slice va M.tn vc) (.slice qa M.pn qc) 32) (heap_alloc_new w (.cells #[.int .i64 a, .int .i64 b, .int .i64 c] 35)))
  have hM := h.below k2
  clear h
  have Ho := Lib.hid ho
  clear ho
  obtain ⟨a0, a1, a2, _, _, _⟩ := three hA
  obtain ⟨p0, p1, p2, _, _, _⟩ := three hP
  go_enter Tryz.func14, Tryz.ntmps14
  go_wp2_with fail
  go_at_call 20; refine (spMemOk_any _ _ _ hs hM).mono ?_; rintro x w1 ⟨rfl, hb⟩; rw [Ho.out]
  clear a0 a1 a2 p0 p1 p2
  replace hR := b_block hb hR (lt_of_block hR)
  replace hP := b_block hb hP (lt_of_block hP)
  replace hA := b_block hb hA (lt_of_block hA)
  replace hM := hM.below hb
  have k3 := k2.trans (hb.mono k2.size)
  have s3 := hb.size
  rw [show (((w.alloc (.cells #[.int .i64 a, .int .i64 b, .int .i64 c] 35)).alloc (memO M.c (.slice va M.tn vc) (.slice qa M.pn qc) 32)).alloc (memO 0 (.slice none 0 0) (.slice none 0 0) 32)).heap.size = w.heap.size + 1 + 1 + 1 by simp] at s3
  clear hb
  obtain ⟨r0, r1, r2, rf0, rf1, rf2⟩ := three hR
  go_wp2
  exact bodyPost_ret (v := .tuple #[meV 0 (.slice none 0 0) (.slice none 0 0), .bool false]) (by simp [results, Tryz.results14, go_sem, r0, r1, r2]) rfl ⟨_, _, rfl, own_me0 _ _, b_set3 k3 (by omega) _ _ _⟩

set_option maxRecDepth 100000 in
set_option maxHeartbeats 4000000 in
theorem sp_tidied_zero2 (a b c d : Int) {tv pv : Value} {M : Me} {w : World} (hs : sizeM M ≤ 1048576) (h : MemAt w tv pv M) (ho : memOkB a b c M = true) (h0 : procB a b c d = false) :
    Calls Tryz.prog 14 #[.agg #[.int .i64 a, .int .i64 b, .int .i64 c], meV M.c tv pv, .int .i64 d] w (NewMeB me0 (false) w) := by
  obtain ⟨va, vc, qa, qc, rfl, rfl⟩ := h.form
  have htn := (sizeM_le hs).1
  have k0 := (Below.refl w.heap.size w).alloc (Nat.le_refl _) (.cells #[.int .i64 a, .int .i64 b, .int .i64 c] 35)
  have e0 : (w.alloc (.cells #[.int .i64 a, .int .i64 b, .int .i64 c] 35)).heap.size = w.heap.size + 1 := by simp
  have k1 := k0.alloc k0.size (memO M.c (.slice va M.tn vc) (.slice qa M.pn qc) 32)
  have e1 : ((w.alloc (.cells #[.int .i64 a, .int .i64 b, .int .i64 c] 35)).alloc (memO M.c (.slice va M.tn vc) (.slice qa M.pn qc) 32)).heap.size = w.heap.size + 1 + 1 := by simp
  have k2 := k1.alloc k1.size (memO 0 (.slice none 0 0) (.slice none 0 0) 32)
  have hA := alloc_block (memO 0 (.slice none 0 0) (.slice none 0 0) 32) (heap_alloc_new (w.alloc (.cells #[.int .i64 a, .int .i64 b, .int .i64 c] 35)) (memO M.c (.slice va M.tn vc) (.slice qa M.pn qc) 32))
  rw [e0] at hA
  have hR := heap_alloc_new ((w.alloc (.cells #[.int .i64 a, .int .i64 b, .int .i64 c] 35)).alloc (memO M.c (.slice va M.tn vc) (.slice qa M.pn qc) 32)) (memO 0 (.slice none 0 0) (.slice none 0 0) 32)
  rw [e1] at hR
  have hP := alloc_block (memO 0 (.slice none 0 0) (.slice none 0 0) 32) (alloc_block (memO M.c (.slice va M.tn vc) (.slice qa M.pn qc) 32) (heap_alloc_new w (.cells #[.int .i64 a, .int .i64 b, .int .i64 c] 35)))
  have hM := h.below k2
  clear h
  have Ho := Lib.hid ho
  have H0 := Lib.hid h0
  clear ho h0
  obtain ⟨a0, a1, a2, _, _, _⟩ := three hA
  obtain ⟨p0, p1, p2, _, _, _⟩ := three hP
  go_enter Tryz.func14, Tryz.ntmps14
  go_wp2_with fail
  go_at_call 20; refine (spMemOk_any _ _ _ hs hM).mono ?_; rintro x w1 ⟨rfl, hb⟩; rw [Ho.out]
  clear a0 a1 a2 p0 p1 p2
  replace hR := b_block hb hR (lt_of_block hR)
  replace hP := b_block hb hP (lt_of_block hP)
  replace hA := b_block hb hA (lt_of_block hA)
  replace hM := hM.below hb
  have k3 := k2.trans (hb.mono k2.size)
  have s3 := hb.size
  rw [show (((w.alloc (.cells #[.int .i64 a, .int .i64 b, .int .i64 c] 35)).alloc (memO M.c (.slice va M.tn vc) (.slice qa M.pn qc) 32)).alloc (memO 0 (.slice none 0 0) (.slice none 0 0) 32)).heap.size = w.heap.size + 1 + 1 + 1 by simp] at s3
  clear hb
  obtain ⟨a0, a1, a2, _, _, _⟩ := three hA
  obtain ⟨p0, p1, p2, _, _, _⟩ := three hP
  go_wp2_with fail
  go_at_call 22; refine (l1Proc_any a b c _ _).mono ?_; rintro x w2 ⟨rfl, hb⟩; rw [H0.out]
  clear a0 a1 a2 p0 p1 p2
  replace hR := b_block hb hR (lt_of_block hR)
  replace hP := b_block hb hP (lt_of_block hP)
  replace hA := b_block hb hA (lt_of_block hA)
  replace hM := hM.below hb
  have k4 := k3.trans (hb.mono k3.size)
  have s4 := hb.size
  clear hb
  obtain ⟨r0, r1, r2, rf0, rf1, rf2⟩ := three hR
  go_wp2
  exact bodyPost_ret (v := .tuple #[meV 0 (.slice none 0 0) (.slice none 0 0), .bool false]) (by simp [results, Tryz.results14, go_sem, r0, r1, r2]) rfl ⟨_, _, rfl, own_me0 _ _, b_set3 k4 (by omega) _ _ _⟩

set_option maxRecDepth 100000 in
set_option maxHeartbeats 8000000 in
theorem sp_tidied_yes (a b c d : Int) {tv pv : Value} {M N : Me} {q : Bool} {w : World} (hs : sizeM M ≤ 1048576) (h : MemAt w tv pv M) (ho : memOkB a b c M = true) (h0 : procB a b c d = true)
    (HW : RowKit.Hid (∀ (W : World) (B : Nat) (tv pv : Value), B ≤ W.heap.size → OwnMem W B tv pv M → Calls Tryz.prog 38 #[meV M.c tv pv, .int .i64 d] W (InMeB B N q W))) :
    Calls Tryz.prog 14 #[.agg #[.int .i64 a, .int .i64 b, .int .i64 c], meV M.c tv pv, .int .i64 d] w (NewMeB N q w) := by
  obtain ⟨va, vc, qa, qc, rfl, rfl⟩ := h.form
  have htn := (sizeM_le hs).1
  have k0 := (Below.refl w.heap.size w).alloc (Nat.le_refl _) (.cells #[.int .i64 a, .int .i64 b, .int .i64 c] 35)
  have e0 : (w.alloc (.cells #[.int .i64 a, .int .i64 b, .int .i64 c] 35)).heap.size = w.heap.size + 1 := by simp
  have k1 := k0.alloc k0.size (memO M.c (.slice va M.tn vc) (.slice qa M.pn qc) 32)
  have e1 : ((w.alloc (.cells #[.int .i64 a, .int .i64 b, .int .i64 c] 35)).alloc (memO M.c (.slice va M.tn vc) (.slice qa M.pn qc) 32)).heap.size = w.heap.size + 1 + 1 := by simp
  have k2 := k1.alloc k1.size (memO 0 (.slice none 0 0) (.slice none 0 0) 32)
  have hA := alloc_block (memO 0 (.slice none 0 0) (.slice none 0 0) 32) (heap_alloc_new (w.alloc (.cells #[.int .i64 a, .int .i64 b, .int .i64 c] 35)) (memO M.c (.slice va M.tn vc) (.slice qa M.pn qc) 32))
  rw [e0] at hA
  have hR := heap_alloc_new ((w.alloc (.cells #[.int .i64 a, .int .i64 b, .int .i64 c] 35)).alloc (memO M.c (.slice va M.tn vc) (.slice qa M.pn qc) 32)) (memO 0 (.slice none 0 0) (.slice none 0 0) 32)
  rw [e1] at hR
  have hP := alloc_block (memO 0 (.slice none 0 0) (.slice none 0 0) 32) (alloc_block (memO M.c (.slice va M.tn vc) (.slice qa M.pn qc) 32) (heap_alloc_new w (.cells #[.int .i64 a, .int .i64 b, .int .i64 c] 35)))
  have hM := h.below k2
  clear h
  have Ho := Lib.hid ho
  have H0 := Lib.hid h0
  clear ho h0
  obtain ⟨a0, a1, a2, _, _, _⟩ := three hA
  obtain ⟨p0, p1, p2, _, _, _⟩ := three hP
  go_enter Tryz.func14, Tryz.ntmps14
  go_wp2_with fail
  go_at_call 20; refine (spMemOk_any _ _ _ hs hM).mono ?_; rintro x w1 ⟨rfl, hb⟩; rw [Ho.out]
  clear a0 a1 a2 p0 p1 p2
  replace hR := b_block hb hR (lt_of_block hR)
  replace hP := b_block hb hP (lt_of_block hP)
  replace hA := b_block hb hA (lt_of_block hA)
  replace hM := hM.below hb
  have k3 := k2.trans (hb.mono k2.size)
  have s3 := hb.size
  rw [show (((w.alloc (.cells #[.int .i64 a, .int .i64 b, .int .i64 c] 35)).alloc (memO M.c (.slice va M.tn vc) (.slice qa M.pn qc) 32)).alloc (memO 0 (.slice none 0 0) (.slice none 0 0) 32)).heap.size = w.heap.size + 1 + 1 + 1 by simp] at s3
  clear hb
  obtain ⟨a0, a1, a2, _, _, _⟩ := three hA
  obtain ⟨p0, p1, p2, _, _, _⟩ := three hP
  go_wp2_with fail
  go_at_call 22; refine (l1Proc_any a b c _ _).mono ?_; rintro x w2 ⟨rfl, hb⟩; rw [H0.out]
  clear a0 a1 a2 p0 p1 p2
  replace hR := b_block hb hR (lt_of_block hR)
  replace hP := b_block hb hP (lt_of_block hP)
  replace hA := b_block hb hA (lt_of_block hA)
  replace hM := hM.below hb
  have k4 := k3.trans (hb.mono k3.size)
  have s4 := hb.size
  clear hb
  obtain ⟨a0, a1, a2, _, _, _⟩ := three hA
  go_wp2_with fail
  go_at_call 24; refine (l5Copy_any hs hM).mono ?_; rintro x w3 ⟨t2, p2, rfl, hO, hb⟩
  clear a0 a1 a2 hA hP hM
  replace hR := b_block hb hR (lt_of_block hR)
  have k5 := k4.trans (hb.mono k4.size)
  have s5 := hb.size
  go_wp2_with fail
  go_at_call 38; refine (HW.out _ _ _ _ hb.size hO).mono ?_; rintro x w4 ⟨t3, p3, rfl, hO3, kx⟩
  clear hO hb
  replace hR := (kx.below.block (w.heap.size + 1 + 1) (by omega)).trans hR
  have k6 := k5.trans (kx.below.mono (by omega))
  clear kx
  obtain ⟨ta, tc, pa, pc, ht, hp⟩ := hO3.at.form
  subst ht hp
  obtain ⟨r0, r1, r2, rf0, rf1, rf2⟩ := three hR
  go_wp2
  exact bodyPost_ret (v := .tuple #[meV N.c (.slice ta N.tn tc) (.slice pa N.pn pc), .bool q]) (by simp [results, Tryz.results14, go_sem, r0, r1, r2]) rfl ⟨_, _, rfl, (hO3.set3 (by omega) _ _ _).mono (by omega), b_set3 k6 (by omega) _ _ _⟩

theorem spTidied_any : AsksTidied 14 := by
  intro a b c d tv pv M w hs h
  cases hall : placeOkM a b c d M
  · have e0 : tidiedG a b c d M = me0 := by rw [tidiedG, hall]; rfl
    have e1 : tidiedQ a b c d M = false := by rw [tidiedQ, hall]; rfl
    rw [e0, e1]
    cases hok : memOkB a b c M
    · exact sp_tidied_zero1 a b c d hs h hok
    · cases h0 : procB a b c d
      · exact sp_tidied_zero2 a b c d hs h hok h0
      · exfalso; rw [placeOkM, hok, h0] at hall; simp at hall
  · have e0 : tidiedG a b c d M = tidiedM M d.toNat := by rw [tidiedG, if_pos hall]
    have e1 : tidiedQ a b c d M = tidiedB M d.toNat := by rw [tidiedQ, hall]; rfl
    rw [e0, e1]
    obtain ⟨hf, k, ed, ek, hk⟩ := placeOk_of hall
    subst ed
    have hall2 := hall
    simp only [placeOkM, Bool.and_eq_true] at hall2
    obtain ⟨hok, h0⟩ := hall2
    exact sp_tidied_yes a b c (k : Int) hs h hok h0 (Lib.hid (fun W B tv pv hB hO => l6Tidied_any hB hf hk hO))

end Go.Proofs.YtonpbmeekgdilaaGreat
