/-
  Tidying up, in the program (chapter 6), at the face: Rearmed.
-/
import Derived.Test.YtonpbmeekgdilaaGreatL18
import Derived.Test.YtonpbmeekgdilaaGreatL12
import Derived.Test.YtonpbmeekgdilaaGreatL19
import Derived.Test.YtonpbmeekgdilaaGreatL16
namespace Go.Proofs.YtonpbmeekgdilaaGreat
open Go.RowKit Go.Joins
set_option linter.unusedVariables false

set_option maxRecDepth 100000 in
set_option maxHeartbeats 4000000 in
theorem rearmed_zero1 (a b c d : Int) {tv pv : Value} {M : Me} {w : World} (hs : sizeM M ≤ 1048576) (h : MemAt w tv pv M) (hok : memOkB a b c M = false) :
    Calls Tryz.prog 17 #[.agg #[.int .i64 a, .int .i64 b, .int .i64 c], meV M.c tv pv, .int .i64 d] w (NewMeB me0 (false) w) := by
  obtain ⟨va, vc, qa, qc, rfl, rfl⟩ := h.form
  have k0 := (Below.refl w.heap.size w).alloc (Nat.le_refl _) (.cells #[.int .i64 a, .int .i64 b, .int .i64 c] 35)
  have k1 := k0.alloc k0.size (memO M.c (.slice va M.tn vc) (.slice qa M.pn qc) 32)
  have e1 : ((w.alloc (.cells #[.int .i64 a, .int .i64 b, .int .i64 c] 35)).alloc (memO M.c (.slice va M.tn vc) (.slice qa M.pn qc) 32)).heap.size = w.heap.size + 1 + 1 := by simp
  have k2 := k1.alloc k1.size (memO 0 (.slice none 0 0) (.slice none 0 0) 32)
  have hR := heap_alloc_new ((w.alloc (.cells #[.int .i64 a, .int .i64 b, .int .i64 c] 35)).alloc (memO M.c (.slice va M.tn vc) (.slice qa M.pn qc) 32)) (memO 0 (.slice none 0 0) (.slice none 0 0) 32)
  rw [e1] at hR
  have hP := alloc_block (memO 0 (.slice none 0 0) (.slice none 0 0) 32) (alloc_block (memO M.c (.slice va M.tn vc) (.slice qa M.pn qc) 32) (heap_alloc_new w (.cells #[.int .i64 a, .int .i64 b, .int .i64 c] 35)))
  have HM := Lib.hid (h.below k2)
  have e2 : (((w.alloc (.cells #[.int .i64 a, .int .i64 b, .int .i64 c] 35)).alloc (memO M.c (.slice va M.tn vc) (.slice qa M.pn qc) 32)).alloc (memO 0 (.slice none 0 0) (.slice none 0 0) 32)).heap.size = w.heap.size + 1 + 1 + 1 := by simp
  clear h
  have HOK := Lib.hid hok
  clear hok
  go_enter Tryz.func17, Tryz.ntmps17
  go_wp2_with fail
  go_at_call 27; refine (ownMemory_no a b c hs HM.out HOK.out).mono ?_; rintro x w1 ⟨rfl, hb⟩
  have hR1 := b_block hb hR (lt_of_block hR)
  have k3 := k2.trans (hb.mono k2.size)
  obtain ⟨r0, r1, r2, rf0, rf1, rf2⟩ := three hR1
  go_wp2
  exact bodyPost_ret (v := .tuple #[meV 0 (.slice none 0 0) (.slice none 0 0), .bool false]) (by simp [results, Tryz.results17, go_sem, r0, r1, r2]) rfl ⟨_, _, rfl, own_me0 _ _, b_set3 k3 (by omega) _ _ _⟩

set_option maxRecDepth 100000 in
set_option maxHeartbeats 4000000 in
theorem rearmed_zero2 (a b c d : Int) {tv pv : Value} {M : Me} {w : World} (hs : sizeM M ≤ 1048576) (h : MemAt w tv pv M) (hok : memOkB a b c M = true) (h0 : hasT M d = false) :
    Calls Tryz.prog 17 #[.agg #[.int .i64 a, .int .i64 b, .int .i64 c], meV M.c tv pv, .int .i64 d] w (NewMeB me0 (false) w) := by
  have htn := (sizeM_le hs).1
  obtain ⟨va, vc, qa, qc, rfl, rfl⟩ := h.form
  have k0 := (Below.refl w.heap.size w).alloc (Nat.le_refl _) (.cells #[.int .i64 a, .int .i64 b, .int .i64 c] 35)
  have k1 := k0.alloc k0.size (memO M.c (.slice va M.tn vc) (.slice qa M.pn qc) 32)
  have e1 : ((w.alloc (.cells #[.int .i64 a, .int .i64 b, .int .i64 c] 35)).alloc (memO M.c (.slice va M.tn vc) (.slice qa M.pn qc) 32)).heap.size = w.heap.size + 1 + 1 := by simp
  have k2 := k1.alloc k1.size (memO 0 (.slice none 0 0) (.slice none 0 0) 32)
  have hR := heap_alloc_new ((w.alloc (.cells #[.int .i64 a, .int .i64 b, .int .i64 c] 35)).alloc (memO M.c (.slice va M.tn vc) (.slice qa M.pn qc) 32)) (memO 0 (.slice none 0 0) (.slice none 0 0) 32)
  rw [e1] at hR
  have hP := alloc_block (memO 0 (.slice none 0 0) (.slice none 0 0) 32) (alloc_block (memO M.c (.slice va M.tn vc) (.slice qa M.pn qc) 32) (heap_alloc_new w (.cells #[.int .i64 a, .int .i64 b, .int .i64 c] 35)))
  have HM := Lib.hid (h.below k2)
  have e2 : (((w.alloc (.cells #[.int .i64 a, .int .i64 b, .int .i64 c] 35)).alloc (memO M.c (.slice va M.tn vc) (.slice qa M.pn qc) 32)).alloc (memO 0 (.slice none 0 0) (.slice none 0 0) 32)).heap.size = w.heap.size + 1 + 1 + 1 := by simp
  clear h
  have HOK := Lib.hid hok
  have H0 := Lib.hid h0
  clear hok h0
  go_enter Tryz.func17, Tryz.ntmps17
  go_wp2_with fail
  go_at_call 27; refine (ownMemory_yes a b c hs HM.out HOK.out).mono ?_; rintro x w1 ⟨mb, rfl, hO, hb⟩
  rw [e2] at hO
  replace hR := b_block hb hR (lt_of_block hR)
  replace hP := b_block hb hP (lt_of_block hP)
  have k3 := k2.trans (hb.mono k2.size)
  have s3 := hb.size
  rw [e2] at s3
  clear HM hb
  go_wp2_with fail
  go_at_call 28; refine (hasTimer_any htn hO.seen _).mono ?_; rintro x w2 ⟨rfl, hb⟩; rw [H0.out]
  replace hR := b_block hb hR (lt_of_block hR)
  replace hP := b_block hb hP (lt_of_block hP)
  replace hO := hO.below hb
  have k4 := k3.trans (hb.mono k3.size)
  have s4 := hb.size
  clear hb
  obtain ⟨r0, r1, r2, rf0, rf1, rf2⟩ := three hR
  go_wp2
  exact bodyPost_ret (v := .tuple #[meV 0 (.slice none 0 0) (.slice none 0 0), .bool false]) (by simp [results, Tryz.results17, go_sem, r0, r1, r2]) rfl ⟨_, _, rfl, own_me0 _ _, b_set3 k4 (by omega) _ _ _⟩

set_option maxRecDepth 100000 in
set_option maxHeartbeats 8000000 in
theorem rearmed_yes (a b c d : Int) {tv pv : Value} {M N : Me} {q : Bool} {w : World} (hs : sizeM M ≤ 1048576) (hN : sizeM N ≤ 1048576) (h : MemAt w tv pv M) (hok : memOkB a b c M = true) (h0 : hasT M d = true)
    (HW : RowKit.Hid (∀ (W : World) (B mb g : Nat) (tv : Value) (V : Nat → Value), B ≤ W.heap.size → OpenX W B mb a b c tv g V M → Calls Tryz.prog 41 #[ptrV mb, .int .i64 d] W fun x w' => x = .returned (.bool q) ∧ InX B mb a b c tv g N W w')) :
    Calls Tryz.prog 17 #[.agg #[.int .i64 a, .int .i64 b, .int .i64 c], meV M.c tv pv, .int .i64 d] w (NewMeB N q w) := by
  have htn := (sizeM_le hs).1
  obtain ⟨va, vc, qa, qc, rfl, rfl⟩ := h.form
  have k0 := (Below.refl w.heap.size w).alloc (Nat.le_refl _) (.cells #[.int .i64 a, .int .i64 b, .int .i64 c] 35)
  have k1 := k0.alloc k0.size (memO M.c (.slice va M.tn vc) (.slice qa M.pn qc) 32)
  have e1 : ((w.alloc (.cells #[.int .i64 a, .int .i64 b, .int .i64 c] 35)).alloc (memO M.c (.slice va M.tn vc) (.slice qa M.pn qc) 32)).heap.size = w.heap.size + 1 + 1 := by simp
  have k2 := k1.alloc k1.size (memO 0 (.slice none 0 0) (.slice none 0 0) 32)
  have hR := heap_alloc_new ((w.alloc (.cells #[.int .i64 a, .int .i64 b, .int .i64 c] 35)).alloc (memO M.c (.slice va M.tn vc) (.slice qa M.pn qc) 32)) (memO 0 (.slice none 0 0) (.slice none 0 0) 32)
  rw [e1] at hR
  have hP := alloc_block (memO 0 (.slice none 0 0) (.slice none 0 0) 32) (alloc_block (memO M.c (.slice va M.tn vc) (.slice qa M.pn qc) 32) (heap_alloc_new w (.cells #[.int .i64 a, .int .i64 b, .int .i64 c] 35)))
  have HM := Lib.hid (h.below k2)
  have e2 : (((w.alloc (.cells #[.int .i64 a, .int .i64 b, .int .i64 c] 35)).alloc (memO M.c (.slice va M.tn vc) (.slice qa M.pn qc) 32)).alloc (memO 0 (.slice none 0 0) (.slice none 0 0) 32)).heap.size = w.heap.size + 1 + 1 + 1 := by simp
  clear h
  have HOK := Lib.hid hok
  have H0 := Lib.hid h0
  clear hok h0
  go_enter Tryz.func17, Tryz.ntmps17
  go_wp2_with fail
  go_at_call 27; refine (ownMemory_yes a b c hs HM.out HOK.out).mono ?_; rintro x w1 ⟨mb, rfl, hO, hb⟩
  rw [e2] at hO
  replace hR := b_block hb hR (lt_of_block hR)
  replace hP := b_block hb hP (lt_of_block hP)
  have k3 := k2.trans (hb.mono k2.size)
  have s3 := hb.size
  rw [e2] at s3
  clear HM hb
  go_wp2_with fail
  go_at_call 28; refine (hasTimer_any htn hO.seen _).mono ?_; rintro x w2 ⟨rfl, hb⟩; rw [H0.out]
  replace hR := b_block hb hR (lt_of_block hR)
  replace hP := b_block hb hP (lt_of_block hP)
  replace hO := hO.below hb
  have k4 := k3.trans (hb.mono k3.size)
  have s4 := hb.size
  clear hb
  obtain ⟨tv2, g2, V2, hX⟩ := hO.opened
  go_wp2_with fail
  go_at_call 41; refine (HW.out _ _ _ _ _ _ (by omega) hX).mono ?_; rintro x w3 ⟨rfl, V3, hX3, kx⟩
  replace hR := (kx.below.block (w.heap.size + 1 + 1) (by omega)).trans hR
  have k5 := k4.trans (kx.below.mono (by omega))
  have s5 := kx.below.size
  clear hX hO hP kx
  have hO := hX3.own
  clear hX3
  go_wp2_with fail
  go_at_call 31; refine (memShown_any hN (by omega) hO).mono ?_; rintro x w4 ⟨t3, p3, rfl, hO3, hb3⟩
  have hR3 := b_block hb3 hR (lt_of_block hR)
  have k6 := k5.trans (hb3.mono (by omega))
  obtain ⟨ta, tc, pa, pc, ht, hp⟩ := hO3.at.form
  subst ht hp
  clear hR hO
  obtain ⟨r0, r1, r2, rf0, rf1, rf2⟩ := three hR3
  go_wp2
  exact bodyPost_ret (v := .tuple #[meV N.c (.slice ta N.tn tc) (.slice pa N.pn pc), .bool q]) (by simp [results, Tryz.results17, go_sem, r0, r1, r2]) rfl ⟨_, _, rfl, (hO3.set3 (by omega) _ _ _).mono (by omega), b_set3 k6 (by omega) _ _ _⟩

theorem imRearmed_any : AsksRearmed 17 := by
  intro a b c d tv pv M w hs h
  cases hall : timerOkM a b c d M
  · have e0 : rearmedG a b c d M = me0 := by rw [rearmedG, hall]; rfl
    have e1 : rearmedQ a b c d M = false := by rw [rearmedQ, hall]; rfl
    rw [e0, e1]
    cases hok : memOkB a b c M
    · exact rearmed_zero1 a b c d hs h hok
    · cases h0 : hasT M d
      · exact rearmed_zero2 a b c d hs h hok h0
      · exfalso; rw [timerOkM, hok, h0] at hall; simp at hall
  · have e0 : rearmedG a b c d M = rearmedM M d.toNat := by rw [rearmedG, if_pos hall]
    have e1 : rearmedQ a b c d M = rearmedB M d.toNat := by rw [rearmedQ, hall]; rfl
    rw [e0, e1]
    obtain ⟨hf, t, ed, et, ht⟩ := timerOk_of hall
    subst ed
    have hall2 := hall
    simp only [timerOkM, Bool.and_eq_true] at hall2
    obtain ⟨hok, h0⟩ := hall2
    exact rearmed_yes a b c (t : Int) hs ((near_rearmed M t).size hf) h hok h0 (Lib.hid (fun W B mb g tv V hB hX => rearm_any hB hf ht hX))

end Go.Proofs.YtonpbmeekgdilaaGreat

/-
  What is done to a slot in a memory of one's own (spec, chapter 6): taken off a heap.
-/
namespace Go.Proofs.YtonpbmeekgdilaaGreat
open Go.RowKit Go.Joins
set_option linter.unusedVariables false

/-- the list of timers is the same -/
def SameT (tv : Value) (x : Ending) : Prop := ∀ (c : Int) (tv' pv' : Value), x = .returned (meV c tv' pv') → tv' = tv
theorem SameT.is (c : Int) (tv pv : Value) : SameT tv (.returned (meV c tv pv)) := fun c' tv' pv' e => by
  injection e with e
  injection e with e
  have e1 := congrArg (fun a : Array Value => a[1]?) e
  simp at e1
  exact e1.symm
/-- only the list of processors is written, of what there was -/
def PullKeeps (pv : Value) (w w' : World) : Prop := ∃ pg n c, pv = .slice (some ⟨pg, 0, none⟩) n c ∧ ∀ b, b < w.heap.size → b ≠ pg → w'.heap[b]? = w.heap[b]?

set_option maxRecDepth 100000 in
set_option maxHeartbeats 8000000 in
theorem l6Pull_full {B k : Nat} {i : Int} {tv pv : Value} {M : Me} {w : World} (hB : B ≤ w.heap.size) (hk : k < M.pn) (hn : (M.p k).n ≤ 1048576) (h : OwnMem w B tv pv M) :
    Calls Tryz.prog 65 #[meV M.c tv pv, .int .i64 (k : Int), .int .i64 i] w fun x w' => InMe B (pullM M k i) w x w' ∧ PullKeeps pv w w' ∧ SameT tv x := by
  obtain ⟨pg, pc, V, rfl, ho⟩ := h.openP hk
  clear h
  obtain ⟨ta, tc, rfl⟩ := ho.t.row.form
  obtain ⟨k1, e1, hA, hR⟩ := twoM_is hB M.c (.slice ta M.tn tc) (.slice (some ⟨pg, 0, none⟩) M.pn pc)
  unfold twoM at k1 e1 hA hR
  have ho1 := ho.below k1
  clear ho
  go_enter Tryz.func65, Tryz.ntmps65
  go_upto_region 1 with fail
  generalize (w.alloc (memO M.c (.slice ta M.tn tc) (.slice (some ⟨pg, 0, none⟩) M.pn pc) 32)).alloc (memO 0 (.slice none 0 0) (.slice none 0 0) 32) = W at k1 hA hR e1 ho1 ⊢
  obtain ⟨x0, x1, x2, _, _, _⟩ := three hA
  obtain ⟨y0, y1, y2, f0, f1, f2⟩ := three hR
  have lA := lt_of_block hA
  have lR := lt_of_block hR
  obtain ⟨p0, p1, p2, p3⟩ := ho1.l.cells hk
  have hrow := (ho1.h.1 k hk).row
  obtain ⟨ra, rc, hr⟩ := hrow.form
  rw [hr] at p0 hrow
  have i0 : (0 : Int) ≤ (k : Int) := by omega
  have i1 : (k : Int) < (M.pn : Int) := by omega
  have hBW : B ≤ W.heap.size := by omega
  go_region_law (first
    | (go_simp; go_at_call 85; refine (spPulled_any i hn hrow.drew).mono ?_; rintro x w5 ⟨v, rfl, hO, hb⟩
       replace hb := (Below.refl _ W).drew.trans (hb.mono (Nat.le_refl _))
       have hA5 := b_block hb hA lA
       have ho5 := ho1.below hb
       have fr := ho5.l.free
       have q0 := fr (k * 4)
       obtain ⟨b0, b1, b2, b3⟩ := ho5.l.cells hk
       rw [hr] at b0
       obtain ⟨n0, n1, n2, _, _, _⟩ := three hA5
       obtain ⟨oa, oc, hu⟩ := hO.value
       subst hu))
  all_goals
    have ho6 := ho1.setNew hBW hb hk hO
    obtain ⟨cs, hcs⟩ := ho5.l.hh
    have k6 := ((Wk.of_new k1 hB).new hb hB).set hcs ho1.l.1 (by decide) (k * 4) (.slice oa (pulledN (M.p k).n i) oc)
    have hA6 := (heap_set1 w5 pg (k * 4) (.slice oa (pulledN (M.p k).n i) oc) w.heap.size (ne_ty hA5 hcs (by decide))).trans hA5
    have hR6 := (heap_set1 w5 pg (k * 4) (.slice oa (pulledN (M.p k).n i) oc) (w.heap.size + 1) (ne_ty (b_block hb hR lR) hcs (by decide))).trans (b_block hb hR lR)
    have hfr : ∀ b, b < w.heap.size → b ≠ pg → (w5.setCell ⟨pg, k * 4, none⟩ (.slice oa (pulledN (M.p k).n i) oc)).heap[b]? = w.heap[b]? := fun b h1 h2 => (heap_set1 w5 pg _ _ b h2).trans ((hb.block b (Nat.lt_of_lt_of_le h1 k1.size)).trans (k1.block b h1))
    clear x0 x1 x2 y0 y1 y2 f0 f1 f2 p0 p1 p2 p3 b0 b1 b2 b3 n0 n1 n2 q0 fr hA5 hA hR hcs ho1 ho5 hb hO
    generalize w5.setCell ⟨pg, k * 4, none⟩ (.slice oa (pulledN (M.p k).n i) oc) = w6 at ho6 k6 hA6 hR6 hfr ⊢
    have HFR := Lib.hid hfr
    clear hfr
    obtain ⟨x0, x1, x2, _, _, _⟩ := three hA6
    obtain ⟨y0, y1, y2, f0, f1, f2⟩ := three hR6
    go_wp2
    exact bodyPost_ret (v := meV M.c (.slice ta M.tn tc) (.slice (some ⟨pg, 0, none⟩) M.pn pc)) (by simp [results, Tryz.results65, go_sem, y0, y1, y2]) rfl ⟨⟨_, _, rfl, ho6.own.answer hR6 _ _ _, k6.setNew3 hB (Nat.le_succ _) _ _ _⟩, ⟨pg, _, _, rfl, fun b h1 h2 => (heap_set3 w6 (w.heap.size + 1) _ _ _ (Nat.ne_of_lt (Nat.lt_succ_of_lt h1))).trans (HFR.out b h1 h2)⟩, SameT.is _ _ _⟩


theorem l6Pull_any {B k : Nat} {i : Int} {tv pv : Value} {M : Me} {w : World} (hB : B ≤ w.heap.size) (hk : k < M.pn) (hn : (M.p k).n ≤ 1048576) (h : OwnMem w B tv pv M) :
    Calls Tryz.prog 65 #[meV M.c tv pv, .int .i64 (k : Int), .int .i64 i] w (InMe B (pullM M k i) w) := (l6Pull_full hB hk hn h).mono fun _ _ hx => hx.1

end Go.Proofs.YtonpbmeekgdilaaGreat
