/-
  Tidying up (spec, chapter 6), at the face: Rearmed.
-/
import Derived.Test.YtpgfffmojcaocaaGreatL13
import Derived.Test.YtpgfffmojcaocaaGreatL06
import Derived.Test.YtpgfffmojcaocaaGreatL11
import Derived.Test.YtpgfffmojcaocaaGreatL08
namespace Go.Proofs.YtpgfffmojcaocaaGreat
open Go.RowKit Go.Joins
set_option linter.unusedVariables false

set_option maxRecDepth 100000 in
set_option maxHeartbeats 4000000 in
theorem sp_rearmed_zero1 (a b c d : Int) {tv pv : Value} {M : Me} {w : World} (hs : sizeM M ≤ 1048576) (h : MemAt w tv pv M) (ho : memOkB a b c M = false) :
    Calls Tryz.prog 20 #[.agg #[.int .i64 a, .int .i64 b, .int .i64 c], meV M.c tv pv, .int .i64 d] w (NewMeB me0 (false) w) := by
  obtain ⟨va, vc, qa, qc, rfl, rfl⟩ := h.form
  have htn := (sizeM_le hs).1
  have k0 := (Below.refl w.heap.size w).alloc (Nat.le_refl _) (.cells #[.int .i64 a, .int .i64 b, .int .i64 c] 25)
  have e0 : (w.alloc (.cells #[.int .i64 a, .int .i64 b, .int .i64 c] 25)).heap.size = w.heap.size + 1 := by simp
  have k1 := k0.alloc k0.size (memO M.c (.slice va M.tn vc) (.slice qa M.pn qc) 29)
  have e1 : ((w.alloc (.cells #[.int .i64 a, .int .i64 b, .int .i64 c] 25)).alloc (memO M.c (.slice va M.tn vc) (.slice qa M.pn qc) 29)).heap.size = w.heap.size + 1 + 1 := by simp
  have k2 := k1.alloc k1.size (memO 0 (.slice none 0 0) (.slice none 0 0) 29)
  have hA := alloc_block (memO 0 (.slice none 0 0) (.slice none 0 0) 29) (heap_alloc_new (w.alloc (.cells #[.int .i64 a, .int .i64 b, .int .i64 c] 25)) (memO M.c (.slice va M.tn vc) (.slice qa M.pn qc) 29))
  rw [e0] at hA
  have hR := heap_alloc_new ((w.alloc (.cells #[.int .i64 a, .int .i64 b, .int .i64 c] 25)).alloc (memO M.c (.slice va M.tn vc) (.slice qa M.pn qc) 29)) (memO 0 (.slice none 0 0) (.slice none 0 0) 29)
  rw [e1] at hR
  have hP := alloc_block (memO 0 (.slice none 0 0) (.slice none 0 0) 29) (alloc_block (memO M.c (.slice va M.tn vc) (.slice qa M.pn qc) 29) (heap_alloc_new w (.cells #[.int .i64 a, .int .i64 b, .int .i64 c] 25)))
  have hM := h.below k2
  clear h
  have Ho := Lib.hid ho
  clear ho
  obtain ⟨a0, a1, a2, _, _, _⟩ := three hA
  obtain ⟨p0, p1, p2, _, _, _⟩ := three hP
  go_enter Tryz.func20, Tryz.ntmps20
  go_wp2_with fail
  go_at_call 13; refine (spMemOk_any _ _ _ hs hM).mono ?_; rintro x w1 ⟨rfl, hb⟩; rw [Ho.out]
  clear a0 a1 a2 p0 p1 p2
  replace hR := b_block hb hR (lt_of_block hR)
  replace hP := b_block hb hP (lt_of_block hP)
  replace hA := b_block hb hA (lt_of_block hA)
  replace hM := hM.below hb
  have k3 := k2.trans (hb.mono k2.size)
  have s3 := hb.size
  rw [show (((w.alloc (.cells #[.int .i64 a, .int .i64 b, .int .i64 c] 25)).alloc (memO M.c (.slice va M.tn vc) (.slice qa M.pn qc) 29)).alloc (memO 0 (.slice none 0 0) (.slice none 0 0) 29)).heap.size = w.heap.size + 1 + 1 + 1 by simp] at s3
  clear hb
  obtain ⟨r0, r1, r2, rf0, rf1, rf2⟩ := three hR
  go_wp2
  exact bodyPost_ret (v := .tuple #[meV 0 (.slice none 0 0) (.slice none 0 0), .bool false]) (by simp [results, Tryz.results20, go_sem, r0, r1, r2]) rfl ⟨_, _, rfl, own_me0 _ _, b_set3 k3 (by omega) _ _ _⟩

set_option maxRecDepth 100000 in
set_option maxHeartbeats 4000000 in
theorem sp_rearmed_zero2 (a b c d : Int) {tv pv : Value} {M : Me} {w : World} (hs : sizeM M ≤ 1048576) (h : MemAt w tv pv M) (ho : memOkB a b c M = true) (h0 : hasT M d = false) :
    Calls Tryz.prog 20 #[.agg #[.int .i64 a, .int .i64 b, .int .i64 c], meV M.c tv pv, .int .i64 d] w (NewMeB me0 (false) w) := by
  obtain ⟨va, vc, qa, qc, rfl, rfl⟩ := h.form
  have htn := (sizeM_le hs).1
  have k0 := (Below.refl w.heap.size w).alloc (Nat.le_refl _) (.cells #[.int .i64 a, .int .i64 b, .int .i64 c] 25)
  have e0 : (w.alloc (.cells #[.int .i64 a, .int .i64 b, .int .i64 c] 25)).heap.size = w.heap.size + 1 := by simp
  have k1 := k0.alloc k0.size (memO M.c (.slice va M.tn vc) (.slice qa M.pn qc) 29)
  have e1 : ((w.alloc (.cells #[.int .i64 a, .int .i64 b, .int .i64 c] 25)).alloc (memO M.c (.slice va M.tn vc) (.slice qa M.pn qc) 29)).heap.size = w.heap.size + 1 + 1 := by simp
  have k2 := k1.alloc k1.size (memO 0 (.slice none 0 0) (.slice none 0 0) 29)
  have hA := alloc_block (memO 0 (.slice none 0 0) (.slice none 0 0) 29) (heap_alloc_new (w.alloc (.cells #[.int .i64 a, .int .i64 b, .int .i64 c] 25)) (memO M.c (.slice va M.tn vc) (.slice qa M.pn qc) 29))
  rw [e0] at hA
  have hR := heap_alloc_new ((w.alloc (.cells #[.int .i64 a, .int .i64 b, .int .i64 c] 25)).alloc (memO M.c (.slice va M.tn vc) (.slice qa M.pn qc) 29)) (memO 0 (.slice none 0 0) (.slice none 0 0) 29)
  rw [e1] at hR
  have hP := alloc_block (memO 0 (.slice none 0 0) (.slice none 0 0) 29) (alloc_block (memO M.c (.slice va M.tn vc) (.slice qa M.pn qc) 29) (heap_alloc_new w (.cells #[.int .i64 a, .int .i64 b, .int .i64 c] 25)))
  have hM := h.below k2
  clear h
  have Ho := Lib.hid ho
  have H0 := Lib.hid h0
  clear ho h0
  obtain ⟨a0, a1, a2, _, _, _⟩ := three hA
  obtain ⟨p0, p1, p2, _, _, _⟩ := three hP
  go_enter Tryz.func20, Tryz.ntmps20
  go_wp2_with fail
  go_at_call 13; refine (spMemOk_any _ _ _ hs hM).mono ?_; rintro x w1 ⟨rfl, hb⟩; rw [Ho.out]
  clear a0 a1 a2 p0 p1 p2
  replace hR := b_block hb hR (lt_of_block hR)
  replace hP := b_block hb hP (lt_of_block hP)
  replace hA := b_block hb hA (lt_of_block hA)
  replace hM := hM.below hb
  have k3 := k2.trans (hb.mono k2.size)
  have s3 := hb.size
  rw [show (((w.alloc (.cells #[.int .i64 a, .int .i64 b, .int .i64 c] 25)).alloc (memO M.c (.slice va M.tn vc) (.slice qa M.pn qc) 29)).alloc (memO 0 (.slice none 0 0) (.slice none 0 0) 29)).heap.size = w.heap.size + 1 + 1 + 1 by simp] at s3
  clear hb
  obtain ⟨a0, a1, a2, _, _, _⟩ := three hA
  obtain ⟨p0, p1, p2, _, _, _⟩ := three hP
  go_wp2_with fail
  go_at_call 55; refine (l5Has_any ⟨_, _, rfl⟩ htn _ _).mono ?_; rintro x w2 ⟨rfl, hb⟩; rw [H0.out]
  clear a0 a1 a2 p0 p1 p2
  replace hR := b_block hb hR (lt_of_block hR)
  replace hP := b_block hb hP (lt_of_block hP)
  replace hA := b_block hb hA (lt_of_block hA)
  replace hM := hM.below hb
  have k4 := k3.trans (hb.mono k3.size)
  have s4 := hb.size
  clear hb
  obtain ⟨r0, r1, r2, rf0, rf1, rf2⟩ := three hR
  go_wp2
  exact bodyPost_ret (v := .tuple #[meV 0 (.slice none 0 0) (.slice none 0 0), .bool false]) (by simp [results, Tryz.results20, go_sem, r0, r1, r2]) rfl ⟨_, _, rfl, own_me0 _ _, b_set3 k4 (by omega) _ _ _⟩

set_option maxRecDepth 100000 in
set_option maxHeartbeats 8000000 in
theorem sp_rearmed_yes (a b c d : Int) {tv pv : Value} {M N : Me} {q : Bool} {w : World} (hs : sizeM M ≤ 1048576) (h : MemAt w tv pv M) (ho : memOkB a b c M = true) (h0 : hasT M d = true)
    (HW : RowKit.Hid (∀ (W : World) (B : Nat) (tv pv : Value), B ≤ W.heap.size → OwnMem W B tv pv M → Calls Tryz.prog 56 #[meV M.c tv pv, .int .i64 d] W (InMeB B N q W))) :
    Calls Tryz.prog 20 #[.agg #[.int .i64 a, .int .i64 b, .int .i64 c], meV M.c tv pv, .int .i64 d] w (NewMeB N q w) := by
  obtain ⟨va, vc, qa, qc, rfl, rfl⟩ := h.form
  have htn := (sizeM_le hs).1
  have k0 := (Below.refl w.heap.size w).alloc (Nat.le_refl _) (.cells #[.int .i64 a, .int .i64 b, .int .i64 c] 25)
  have e0 : (w.alloc (.cells #[.int .i64 a, .int .i64 b, .int .i64 c] 25)).heap.size = w.heap.size + 1 := by simp
  have k1 := k0.alloc k0.size (memO M.c (.slice va M.tn vc) (.slice qa M.pn qc) 29)
  have e1 : ((w.alloc (.cells #[.int .i64 a, .int .i64 b, .int .i64 c] 25)).alloc (memO M.c (.slice va M.tn vc) (.slice qa M.pn qc) 29)).heap.size = w.heap.size + 1 + 1 := by simp
  have k2 := k1.alloc k1.size (memO 0 (.slice none 0 0) (.slice none 0 0) 29)
  have hA := alloc_block (memO 0 (.slice none 0 0) (.slice none 0 0) 29) (heap_alloc_new (w.alloc (.cells #[.int .i64 a, .int .i64 b, .int .i64 c] 25)) (memO M.c (.slice va M.tn vc) (.slice qa M.pn qc) 29))
  rw [e0] at hA
  have hR := heap_alloc_new ((w.alloc (.cells #[.int .i64 a, .int .i64 b, .int .i64 c] 25)).alloc (memO M.c (.slice va M.tn vc) (.slice qa M.pn qc) 29)) (memO 0 (.slice none 0 0) (.slice none 0 0) 29)
  rw [e1] at hR
  have hP := alloc_block (memO 0 (.slice none 0 0) (.slice none 0 0) 29) (alloc_block (memO M.c (.slice va M.tn vc) (.slice qa M.pn qc) 29) (heap_alloc_new w (.cells #[.int .i64 a, .int .i64 b, .int .i64 c] 25)))
  have hM := h.below k2
  clear h
  have Ho := Lib.hid ho
  have H0 := Lib.hid h0
  clear ho h0
  obtain ⟨a0, a1, a2, _, _, _⟩ := three hA
  obtain ⟨p0, p1, p2, _, _, _⟩ := three hP
  go_enter Tryz.func20, Tryz.ntmps20
  go_wp2_with fail
  go_at_call 13; refine (spMemOk_any _ _ _ hs hM).mono ?_; rintro x w1 ⟨rfl, hb⟩; rw [Ho.out]
  clear a0 a1 a2 p0 p1 p2
  replace hR := b_block hb hR (lt_of_block hR)
  replace hP := b_block hb hP (lt_of_block hP)
  replace hA := b_block hb hA (lt_of_block hA)
  replace hM := hM.below hb
  have k3 := k2.trans (hb.mono k2.size)
  have s3 := hb.size
  rw [show (((w.alloc (.cells #[.int .i64 a, .int .i64 b, .int .i64 c] 25)).alloc (memO M.c (.slice va M.tn vc) (.slice qa M.pn qc) 29)).alloc (memO 0 (.slice none 0 0) (.slice none 0 0) 29)).heap.size = w.heap.size + 1 + 1 + 1 by simp] at s3
  clear hb
  obtain ⟨a0, a1, a2, _, _, _⟩ := three hA
  obtain ⟨p0, p1, p2, _, _, _⟩ := three hP
  go_wp2_with fail
  go_at_call 55; refine (l5Has_any ⟨_, _, rfl⟩ htn _ _).mono ?_; rintro x w2 ⟨rfl, hb⟩; rw [H0.out]
  clear a0 a1 a2 p0 p1 p2
  replace hR := b_block hb hR (lt_of_block hR)
  replace hP := b_block hb hP (lt_of_block hP)
  replace hA := b_block hb hA (lt_of_block hA)
  replace hM := hM.below hb
  have k4 := k3.trans (hb.mono k3.size)
  have s4 := hb.size
  clear hb
  obtain ⟨a0, a1, a2, _, _, _⟩ := three hA
  go_wp2_with fail
  go_at_call 39; refine (l5Copy_any hs hM).mono ?_; rintro x w3 ⟨t2, p2, rfl, hO, hb⟩
  clear a0 a1 a2 hA hP hM
  replace hR := b_block hb hR (lt_of_block hR)
  have k5 := k4.trans (hb.mono k4.size)
  have s5 := hb.size
  go_wp2_with fail
  go_at_call 56; refine (HW.out _ _ _ _ hb.size hO).mono ?_; rintro x w4 ⟨t3, p3, rfl, hO3, kx⟩
  clear hO hb
  replace hR := (kx.below.block (w.heap.size + 1 + 1) (by omega)).trans hR
  have k6 := k5.trans (kx.below.mono (by omega))
  clear kx
  obtain ⟨ta, tc, pa, pc, ht, hp⟩ := hO3.at.form
  subst ht hp
  obtain ⟨r0, r1, r2, rf0, rf1, rf2⟩ := three hR
  go_wp2
  exact bodyPost_ret (v := .tuple #[meV N.c (.slice ta N.tn tc) (.slice pa N.pn pc), .bool q]) (by simp [results, Tryz.results20, go_sem, r0, r1, r2]) rfl ⟨_, _, rfl, (hO3.set3 (by omega) _ _ _).mono (by omega), b_set3 k6 (by omega) _ _ _⟩

theorem spRearmed_any : AsksRearmed 20 := by
  intro a b c d tv pv M w hs h
  cases hall : timerOkM a b c d M
  · have e0 : rearmedG a b c d M = me0 := by rw [rearmedG, hall]; rfl
    have e1 : rearmedQ a b c d M = false := by rw [rearmedQ, hall]; rfl
    rw [e0, e1]
    cases hok : memOkB a b c M
    · exact sp_rearmed_zero1 a b c d hs h hok
    · cases h0 : hasT M d
      · exact sp_rearmed_zero2 a b c d hs h hok h0
      · exfalso; rw [timerOkM, hok, h0] at hall; simp at hall
  · have e0 : rearmedG a b c d M = rearmedM M d.toNat := by rw [rearmedG, if_pos hall]
    have e1 : rearmedQ a b c d M = rearmedB M d.toNat := by rw [rearmedQ, hall]; rfl
    rw [e0, e1]
    obtain ⟨hf, t, ed, et, ht⟩ := timerOk_of hall
    subst ed
    have hall2 := hall
    simp only [timerOkM, Bool.and_eq_true] at hall2
    obtain ⟨hok, h0⟩ := hall2
    exact sp_rearmed_yes a b c (t : Int) hs h hok h0 (Lib.hid (fun W B tv pv hB hO => l6Rearmed_any hB hf ht hO))

end Go.Proofs.YtpgfffmojcaocaaGreat
