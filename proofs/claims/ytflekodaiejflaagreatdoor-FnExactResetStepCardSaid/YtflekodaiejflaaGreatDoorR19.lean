/-
  The face of setting anew (spec, chapter 11).
-/
import Derived.Test.YtflekodaiejflaaGreatDoorR18
import Derived.Deep.QuietTactic
import Derived.BigQuiet
import Derived.Deep.DeepCutAuto
import Derived.Test.YtflekodaiejflaaGreatDoorR10
import Derived.Test.YtflekodaiejflaaGreatDoorR15
import Derived.Test.YtflekodaiejflaaGreatDoorR16
import Derived.Test.YtflekodaiejflaaGreatDoorR14
import Derived.Test.YtflekodaiejflaaGreatDoorRows
import Derived.LaidLaws
import Derived.LaidHandle
import Derived.LaidSub
import Derived.LaidMore
import Derived.MakeChecks
import Derived.FnData
import Derived.Stop.LaidTwo
import Derived.Stop.Joined
namespace Go.Proofs.YtflekodaiejflaaGreatDoor
open Go.Deep Go.ChangeShapes Go.WideShapes Go.ChangeAt Go.RowKit Go.Joins
set_option linter.unusedVariables false
set_option linter.unusedSimpArgs false

theorem stepFit_inHeap {a b c d : Int} {M : Me} {h : Hd} (hq : stepFit a b c d M h = true) : ∀ i, i < M.tn → inHeapB (M.t i).st = true → (M.t i).pl ≠ -1 := by
  have F := stepFit_facts hq
  intro i hi hin e
  have h1 := F.tm i hi
  simp only [timerB, placeB, Bool.and_eq_true] at h1
  have hp' := h1.2.2.2.2.2.2.2.2.1
  rw [hin] at hp'
  simp only [if_true] at hp'
  have h2 := (procB_iff.1 hp').2
  omega

set_option maxRecDepth 100000 in
set_option maxHeartbeats 1200000 in
theorem spResetStep_any (a b c d : Int) (h : Hd) (tv pv : Value) (M : Me) (w : World) (hs : sizeM M ≤ 1048576) (hm : MemAt w tv pv M) :
    Calls Tryz.prog 16 #[.agg #[.int .i64 a, .int .i64 b, .int .i64 c], meV M.c tv pv, .int .i64 d, hdV h] w (NewDn (resetG a b c d M h) (resetQ a b c d M h) w) := by
  obtain ⟨va, vc, qa, qc, rfl, rfl⟩ := hm.form
  have hn := sizeM_le hs
  have k0 := (((((Below.refl w.heap.size w).alloc (Nat.le_refl _) (.cells #[.int .i64 a, .int .i64 b, .int .i64 c] 46)).alloc (by simp) (.cells #[.int .i64 M.c, .slice va M.tn vc, .slice qa M.pn qc] 36)).alloc (by simp; omega) (.cells #[.int .i64 h.pos, .int .i64 h.call.code, .int .i64 h.call.a, .int .i64 h.call.b, .int .i64 h.call.c, .int .i64 h.tim, .int .i64 h.whe, .bool h.had, .int .i64 h.cnt, .int .i64 h.beg, .int .i64 h.rep, .int .i64 h.out] 39)).alloc (by simp; omega) (.cells #[.int .i64 0, .slice none 0 0, .slice none 0 0, .int .i64 0, .int .i64 0, .int .i64 0, .int .i64 0, .int .i64 0, .int .i64 0, .int .i64 0, .bool false, .int .i64 0, .int .i64 0, .int .i64 0, .int .i64 0, .int .i64 0, .int .i64 0, .int .i64 0, .int .i64 0, .int .i64 0] 43))
  have hP := alloc_block (.cells #[.int .i64 0, .slice none 0 0, .slice none 0 0, .int .i64 0, .int .i64 0, .int .i64 0, .int .i64 0, .int .i64 0, .int .i64 0, .int .i64 0, .bool false, .int .i64 0, .int .i64 0, .int .i64 0, .int .i64 0, .int .i64 0, .int .i64 0, .int .i64 0, .int .i64 0, .int .i64 0] 43) (alloc_block (.cells #[.int .i64 h.pos, .int .i64 h.call.code, .int .i64 h.call.a, .int .i64 h.call.b, .int .i64 h.call.c, .int .i64 h.tim, .int .i64 h.whe, .bool h.had, .int .i64 h.cnt, .int .i64 h.beg, .int .i64 h.rep, .int .i64 h.out] 39) (alloc_block (.cells #[.int .i64 M.c, .slice va M.tn vc, .slice qa M.pn qc] 36) (heap_alloc_new w (.cells #[.int .i64 a, .int .i64 b, .int .i64 c] 46))))
  have hX := heap_alloc_new (w.alloc (.cells #[.int .i64 a, .int .i64 b, .int .i64 c] 46)) (.cells #[.int .i64 M.c, .slice va M.tn vc, .slice qa M.pn qc] 36)
  rw [show (w.alloc (.cells #[.int .i64 a, .int .i64 b, .int .i64 c] 46)).heap.size = w.heap.size + 1 by simp] at hX
  replace hX := alloc_block (.cells #[.int .i64 0, .slice none 0 0, .slice none 0 0, .int .i64 0, .int .i64 0, .int .i64 0, .int .i64 0, .int .i64 0, .int .i64 0, .int .i64 0, .bool false, .int .i64 0, .int .i64 0, .int .i64 0, .int .i64 0, .int .i64 0, .int .i64 0, .int .i64 0, .int .i64 0, .int .i64 0] 43) (alloc_block (.cells #[.int .i64 h.pos, .int .i64 h.call.code, .int .i64 h.call.a, .int .i64 h.call.b, .int .i64 h.call.c, .int .i64 h.tim, .int .i64 h.whe, .bool h.had, .int .i64 h.cnt, .int .i64 h.beg, .int .i64 h.rep, .int .i64 h.out] 39) hX)
  have hH := heap_alloc_new ((w.alloc (.cells #[.int .i64 a, .int .i64 b, .int .i64 c] 46)).alloc (.cells #[.int .i64 M.c, .slice va M.tn vc, .slice qa M.pn qc] 36)) (.cells #[.int .i64 h.pos, .int .i64 h.call.code, .int .i64 h.call.a, .int .i64 h.call.b, .int .i64 h.call.c, .int .i64 h.tim, .int .i64 h.whe, .bool h.had, .int .i64 h.cnt, .int .i64 h.beg, .int .i64 h.rep, .int .i64 h.out] 39)
  rw [show ((w.alloc (.cells #[.int .i64 a, .int .i64 b, .int .i64 c] 46)).alloc (.cells #[.int .i64 M.c, .slice va M.tn vc, .slice qa M.pn qc] 36)).heap.size = w.heap.size + 1 + 1 by simp] at hH
  replace hH := alloc_block (.cells #[.int .i64 0, .slice none 0 0, .slice none 0 0, .int .i64 0, .int .i64 0, .int .i64 0, .int .i64 0, .int .i64 0, .int .i64 0, .int .i64 0, .bool false, .int .i64 0, .int .i64 0, .int .i64 0, .int .i64 0, .int .i64 0, .int .i64 0, .int .i64 0, .int .i64 0, .int .i64 0] 43) hH
  have hR := heap_alloc_new (((w.alloc (.cells #[.int .i64 a, .int .i64 b, .int .i64 c] 46)).alloc (.cells #[.int .i64 M.c, .slice va M.tn vc, .slice qa M.pn qc] 36)).alloc (.cells #[.int .i64 h.pos, .int .i64 h.call.code, .int .i64 h.call.a, .int .i64 h.call.b, .int .i64 h.call.c, .int .i64 h.tim, .int .i64 h.whe, .bool h.had, .int .i64 h.cnt, .int .i64 h.beg, .int .i64 h.rep, .int .i64 h.out] 39)) (.cells #[.int .i64 0, .slice none 0 0, .slice none 0 0, .int .i64 0, .int .i64 0, .int .i64 0, .int .i64 0, .int .i64 0, .int .i64 0, .int .i64 0, .bool false, .int .i64 0, .int .i64 0, .int .i64 0, .int .i64 0, .int .i64 0, .int .i64 0, .int .i64 0, .int .i64 0, .int .i64 0] 43)
  rw [show (((w.alloc (.cells #[.int .i64 a, .int .i64 b, .int .i64 c] 46)).alloc (.cells #[.int .i64 M.c, .slice va M.tn vc, .slice qa M.pn qc] 36)).alloc (.cells #[.int .i64 h.pos, .int .i64 h.call.code, .int .i64 h.call.a, .int .i64 h.call.b, .int .i64 h.call.c, .int .i64 h.tim, .int .i64 h.whe, .bool h.had, .int .i64 h.cnt, .int .i64 h.beg, .int .i64 h.rep, .int .i64 h.out] 39)).heap.size = w.heap.size + 1 + 1 + 1 by simp] at hR
  have HM := Lib.hid (hm.below k0)
  clear hm
  cases hq : stepFit a b c d M h && ((h.pos == 5 && h.call.code == 3) || h.pos == 7)
  · have eq : (resetQ a b c d M h) = false := by rw [resetQ, ← Bool.and_assoc, hq, Bool.false_and]
    rw [show NewDn (resetG a b c d M h) (resetQ a b c d M h) w = NewDn dn0 false w by rw [resetG, eq]; rfl]
    clear eq
    have hqb := hq
    clear hq
    go_enter Tryz.func16, Tryz.ntmps16
    go_upto_region 1 with fail
    generalize hw1 : ((((w.alloc (.cells #[.int .i64 a, .int .i64 b, .int .i64 c] 46)).alloc (.cells #[.int .i64 M.c, .slice va M.tn vc, .slice qa M.pn qc] 36)).alloc (.cells #[.int .i64 h.pos, .int .i64 h.call.code, .int .i64 h.call.a, .int .i64 h.call.b, .int .i64 h.call.c, .int .i64 h.tim, .int .i64 h.whe, .bool h.had, .int .i64 h.cnt, .int .i64 h.beg, .int .i64 h.rep, .int .i64 h.out] 39)).alloc (.cells #[.int .i64 0, .slice none 0 0, .slice none 0 0, .int .i64 0, .int .i64 0, .int .i64 0, .int .i64 0, .int .i64 0, .int .i64 0, .int .i64 0, .bool false, .int .i64 0, .int .i64 0, .int .i64 0, .int .i64 0, .int .i64 0, .int .i64 0, .int .i64 0, .int .i64 0, .int .i64 0] 43)) = w1 at k0 hP hX hH hR HM ⊢
    clear hw1
    obtain ⟨p0, p1, p2, _, _, _⟩ := three hP
    obtain ⟨x0, x1, x2, _, _, _⟩ := three hX
    obtain ⟨h0, h1, h2, h3, h4, h5, h6, h7, h8, h9, h10, h11, _⟩ := twelve hH
    go_wp2_with fail
    go_at_call 20; refine (l10Of_any a b c d 3 7 h hs HM.out).mono ?_; rw [hqb]; rintro e w2 ⟨rfl, hb⟩
    have k2 := k0.trans (hb.mono k0.size)
    have hR2 := b_block hb hR (lt_of_block hR)
    clear p0 p1 p2 x0 x1 x2 h0 h1 h2 h3 h4 h5 h6 h7 h8 h9 h10 h11
    go_upto_region 2 with fail
    refine wp_region_lit ?_
    refine wpList_plain rfl fun K0 hK0 => ?_
    go_simp
    refine hK0 _ _ ?_
    clear hK0 K0
    refine wpList_store_mid (by rfl) 43 _ _ (by rfl) _ 0 #[.int .i64 0, .slice none 0 0, .slice none 0 0, .int .i64 0, .int .i64 0, .int .i64 0, .int .i64 0, .int .i64 0, .int .i64 0, .int .i64 0, .bool false, .int .i64 0, .int .i64 0, .int .i64 0, .int .i64 0, .int .i64 0, .int .i64 0, .int .i64 0, .int .i64 0, .int .i64 0] (by rfl) (by rfl) (there_of_block hR2) done_info (by simp [Value.oneCell']) ?_
    go_wp2
    exact bodyPost_ret (v := .tuple #[.agg #[.int .i64 0, .slice none 0 0, .slice none 0 0, .int .i64 0, .int .i64 0, .int .i64 0, .int .i64 0, .int .i64 0, .int .i64 0, .int .i64 0, .bool false, .int .i64 0, .int .i64 0, .int .i64 0, .int .i64 0, .int .i64 0, .int .i64 0, .int .i64 0, .int .i64 0, .int .i64 0], .bool false]) (results_pair (cs := [.int .i64 0, .slice none 0 0, .slice none 0 0, .int .i64 0, .int .i64 0, .int .i64 0, .int .i64 0, .int .i64 0, .int .i64 0, .int .i64 0, .bool false, .int .i64 0, .int .i64 0, .int .i64 0, .int .i64 0, .int .i64 0, .int .i64 0, .int .i64 0, .int .i64 0, .int .i64 0]) rfl rfl rfl (World.rangeAt_setCells_same _ _ _ _ (there_of_block hR2)) Tryz.underlying43 rfl done_info) rfl ⟨_, _, rfl, own_zero _ _, b_setCells (show w.heap.size ≤ w.heap.size + 1 + 1 + 1 by omega) _ 0 k2⟩
  obtain ⟨F1, F2, F3, F4, _⟩ := stepFit_more (Bool.and_eq_true .. ▸ hq).1
  obtain ⟨G1, G2, G3, G4⟩ := stepFit_places (Bool.and_eq_true .. ▸ hq).1
  have G5 : ∀ i, i < M.tn → (M.t i).st = 5 → (M.t i).pl ≠ -1 := fun i hi e => stepFit_inHeap (Bool.and_eq_true .. ▸ hq).1 i hi (by rw [e]; rfl)
  obtain ⟨qq, hqq⟩ : ∃ qq, resetB ⟨M, h, et0⟩ = qq := ⟨_, rfl⟩
  obtain ⟨DD, hDD⟩ : ∃ DD, (if resetB ⟨M, h, et0⟩ then resetD ⟨M, h, et0⟩ else dn0) = DD := ⟨_, rfl⟩
  rw [show NewDn (resetG a b c d M h) (resetQ a b c d M h) w = NewDn DD qq w by
    have e : resetQ a b c d M h = resetB ⟨M, h, et0⟩ := by rw [resetQ, ← Bool.and_assoc, hq, Bool.true_and]
    rw [resetG, e, hDD, hqq]]
  have HD := Lib.hid hDD
  have HQ := Lib.hid hqq
  clear hDD hqq
  have hqb := hq
  clear hq
  go_enter Tryz.func16, Tryz.ntmps16
  go_upto_region 1 with fail
  generalize hw1 : ((((w.alloc (.cells #[.int .i64 a, .int .i64 b, .int .i64 c] 46)).alloc (.cells #[.int .i64 M.c, .slice va M.tn vc, .slice qa M.pn qc] 36)).alloc (.cells #[.int .i64 h.pos, .int .i64 h.call.code, .int .i64 h.call.a, .int .i64 h.call.b, .int .i64 h.call.c, .int .i64 h.tim, .int .i64 h.whe, .bool h.had, .int .i64 h.cnt, .int .i64 h.beg, .int .i64 h.rep, .int .i64 h.out] 39)).alloc (.cells #[.int .i64 0, .slice none 0 0, .slice none 0 0, .int .i64 0, .int .i64 0, .int .i64 0, .int .i64 0, .int .i64 0, .int .i64 0, .int .i64 0, .bool false, .int .i64 0, .int .i64 0, .int .i64 0, .int .i64 0, .int .i64 0, .int .i64 0, .int .i64 0, .int .i64 0, .int .i64 0] 43)) = w1 at k0 hP hX hH hR HM ⊢
  clear hw1
  obtain ⟨p0, p1, p2, _, _, _⟩ := three hP
  obtain ⟨x0, x1, x2, _, _, _⟩ := three hX
  obtain ⟨h0, h1, h2, h3, h4, h5, h6, h7, h8, h9, h10, h11, _⟩ := twelve hH
  go_wp2_with fail
  go_at_call 20; refine (l10Of_any a b c d 3 7 h hs HM.out).mono ?_; rw [hqb]; rintro e w2 ⟨rfl, hb⟩
  have k2 := k0.trans (hb.mono k0.size)
  have hP2 := b_block hb hP (lt_of_block hP)
  have hX2 := b_block hb hX (lt_of_block hX)
  have hH2 := b_block hb hH (lt_of_block hH)
  have hR2 := b_block hb hR (lt_of_block hR)
  have HM2 := Lib.hid (HM.out.below hb)
  clear p0 p1 p2 x0 x1 x2 h0 h1 h2 h3 h4 h5 h6 h7 h8 h9 h10 h11 hb hP hX hH hR HM k0
  go_upto_region 3 with fail
  have lR2 := lt_of_block hR2
  have d0 : w2.drew.heap.size = w2.heap.size := rfl
  refine wp_region_T (fun w' => w'.cell? ⟨w.heap.size, 0, none⟩ = some (.int .i64 a) ∧ w'.cell? ⟨w.heap.size, 1, none⟩ = some (.int .i64 b) ∧ w'.cell? ⟨w.heap.size, 2, none⟩ = some (.int .i64 c) ∧ w'.cell? ⟨w.heap.size + 1, 0, none⟩ = some (.int .i64 M.c) ∧ w'.cell? ⟨w.heap.size + 1, 1, none⟩ = some (.slice va M.tn vc) ∧ w'.cell? ⟨w.heap.size + 1, 2, none⟩ = some (.slice qa M.pn qc) ∧ w'.cell? ⟨w.heap.size + 1 + 1, 0, none⟩ = some (.int .i64 h.pos) ∧ w'.cell? ⟨w.heap.size + 1 + 1, 1, none⟩ = some (.int .i64 h.call.code) ∧ w'.cell? ⟨w.heap.size + 1 + 1, 2, none⟩ = some (.int .i64 h.call.a) ∧ w'.cell? ⟨w.heap.size + 1 + 1, 3, none⟩ = some (.int .i64 h.call.b) ∧ w'.cell? ⟨w.heap.size + 1 + 1, 4, none⟩ = some (.int .i64 h.call.c) ∧ w'.cell? ⟨w.heap.size + 1 + 1, 5, none⟩ = some (.int .i64 h.tim) ∧ w'.cell? ⟨w.heap.size + 1 + 1, 6, none⟩ = some (.int .i64 h.whe) ∧ w'.cell? ⟨w.heap.size + 1 + 1, 7, none⟩ = some (.bool h.had) ∧ w'.cell? ⟨w.heap.size + 1 + 1, 8, none⟩ = some (.int .i64 h.cnt) ∧ w'.cell? ⟨w.heap.size + 1 + 1, 9, none⟩ = some (.int .i64 h.beg) ∧ w'.cell? ⟨w.heap.size + 1 + 1, 10, none⟩ = some (.int .i64 h.rep) ∧ w'.cell? ⟨w.heap.size + 1 + 1, 11, none⟩ = some (.int .i64 h.out)) 8 (by kernel_rfl) ?_
  have hS : w2.drew.cell? ⟨w.heap.size, 0, none⟩ = some (.int .i64 a) ∧ w2.drew.cell? ⟨w.heap.size, 1, none⟩ = some (.int .i64 b) ∧ w2.drew.cell? ⟨w.heap.size, 2, none⟩ = some (.int .i64 c) ∧ w2.drew.cell? ⟨w.heap.size + 1, 0, none⟩ = some (.int .i64 M.c) ∧ w2.drew.cell? ⟨w.heap.size + 1, 1, none⟩ = some (.slice va M.tn vc) ∧ w2.drew.cell? ⟨w.heap.size + 1, 2, none⟩ = some (.slice qa M.pn qc) ∧ w2.drew.cell? ⟨w.heap.size + 1 + 1, 0, none⟩ = some (.int .i64 h.pos) ∧ w2.drew.cell? ⟨w.heap.size + 1 + 1, 1, none⟩ = some (.int .i64 h.call.code) ∧ w2.drew.cell? ⟨w.heap.size + 1 + 1, 2, none⟩ = some (.int .i64 h.call.a) ∧ w2.drew.cell? ⟨w.heap.size + 1 + 1, 3, none⟩ = some (.int .i64 h.call.b) ∧ w2.drew.cell? ⟨w.heap.size + 1 + 1, 4, none⟩ = some (.int .i64 h.call.c) ∧ w2.drew.cell? ⟨w.heap.size + 1 + 1, 5, none⟩ = some (.int .i64 h.tim) ∧ w2.drew.cell? ⟨w.heap.size + 1 + 1, 6, none⟩ = some (.int .i64 h.whe) ∧ w2.drew.cell? ⟨w.heap.size + 1 + 1, 7, none⟩ = some (.bool h.had) ∧ w2.drew.cell? ⟨w.heap.size + 1 + 1, 8, none⟩ = some (.int .i64 h.cnt) ∧ w2.drew.cell? ⟨w.heap.size + 1 + 1, 9, none⟩ = some (.int .i64 h.beg) ∧ w2.drew.cell? ⟨w.heap.size + 1 + 1, 10, none⟩ = some (.int .i64 h.rep) ∧ w2.drew.cell? ⟨w.heap.size + 1 + 1, 11, none⟩ = some (.int .i64 h.out) := ⟨cell_of_block hP2 0, cell_of_block hP2 1, cell_of_block hP2 2, cell_of_block hX2 0, cell_of_block hX2 1, cell_of_block hX2 2, cell_of_block hH2 0, cell_of_block hH2 1, cell_of_block hH2 2, cell_of_block hH2 3, cell_of_block hH2 4, cell_of_block hH2 5, cell_of_block hH2 6, cell_of_block hH2 7, cell_of_block hH2 8, cell_of_block hH2 9, cell_of_block hH2 10, cell_of_block hH2 11⟩
  refine wpAnyT_take (i := 0) (v := ?v0_1) rfl (by kernel_rfl) (by kernel_rfl) (by kernel_rfl) (by kernel_rfl) (fun _ _ _ h => h) (Or.inl ⟨by rfl, ?hy0_1⟩) hS ?rest0_1
  case hy0_1 => intro w' hSw; obtain ⟨s0, s1, s2, s3, s4, s5, s6, s7, s8, s9, s10, s11, s12, s13, s14, s15, s16, s17⟩ := hSw; go_simp; try with_reducible rfl
  simp only [Act.put, List.setIfInBounds_toArray, List.set_cons_zero, List.set_cons_succ]
  refine wpAnyT_take (i := 2) (v := ?v2_2) rfl (by kernel_rfl) (by kernel_rfl) (by kernel_rfl) (by kernel_rfl) (fun _ _ _ h => h) (Or.inl ⟨by rfl, ?hy2_2⟩) hS ?rest2_2
  case hy2_2 => intro w' hSw; obtain ⟨s0, s1, s2, s3, s4, s5, s6, s7, s8, s9, s10, s11, s12, s13, s14, s15, s16, s17⟩ := hSw; go_simp; try with_reducible rfl
  simp only [Act.put, List.setIfInBounds_toArray, List.set_cons_zero, List.set_cons_succ]
  refine wpAnyT_one (i := 1) (by kernel_rfl) rfl (by rfl) fun K hK => ?_
  go_simp
  go_at_call 22; refine (l5Copy_any hs (HM2.out.below (Below.refl w2.heap.size w2).drew)).mono ?_
  rintro e w3 ⟨tn, pn, rfl, hO, hb⟩
  have kd := (Below.refl w2.heap.size w2).drew.trans hb
  have hP3 := b_block kd hP2 (lt_of_block hP2)
  have hX3 := b_block kd hX2 (lt_of_block hX2)
  have hH3 := b_block kd hH2 (lt_of_block hH2)
  have hR3 := b_block kd hR2 (lt_of_block hR2)
  have k3 := k2.trans (kd.mono k2.size)
  have hS3 : w3.cell? ⟨w.heap.size, 0, none⟩ = some (.int .i64 a) ∧ w3.cell? ⟨w.heap.size, 1, none⟩ = some (.int .i64 b) ∧ w3.cell? ⟨w.heap.size, 2, none⟩ = some (.int .i64 c) ∧ w3.cell? ⟨w.heap.size + 1, 0, none⟩ = some (.int .i64 M.c) ∧ w3.cell? ⟨w.heap.size + 1, 1, none⟩ = some (.slice va M.tn vc) ∧ w3.cell? ⟨w.heap.size + 1, 2, none⟩ = some (.slice qa M.pn qc) ∧ w3.cell? ⟨w.heap.size + 1 + 1, 0, none⟩ = some (.int .i64 h.pos) ∧ w3.cell? ⟨w.heap.size + 1 + 1, 1, none⟩ = some (.int .i64 h.call.code) ∧ w3.cell? ⟨w.heap.size + 1 + 1, 2, none⟩ = some (.int .i64 h.call.a) ∧ w3.cell? ⟨w.heap.size + 1 + 1, 3, none⟩ = some (.int .i64 h.call.b) ∧ w3.cell? ⟨w.heap.size + 1 + 1, 4, none⟩ = some (.int .i64 h.call.c) ∧ w3.cell? ⟨w.heap.size + 1 + 1, 5, none⟩ = some (.int .i64 h.tim) ∧ w3.cell? ⟨w.heap.size + 1 + 1, 6, none⟩ = some (.int .i64 h.whe) ∧ w3.cell? ⟨w.heap.size + 1 + 1, 7, none⟩ = some (.bool h.had) ∧ w3.cell? ⟨w.heap.size + 1 + 1, 8, none⟩ = some (.int .i64 h.cnt) ∧ w3.cell? ⟨w.heap.size + 1 + 1, 9, none⟩ = some (.int .i64 h.beg) ∧ w3.cell? ⟨w.heap.size + 1 + 1, 10, none⟩ = some (.int .i64 h.rep) ∧ w3.cell? ⟨w.heap.size + 1 + 1, 11, none⟩ = some (.int .i64 h.out) := ⟨cell_of_block hP3 0, cell_of_block hP3 1, cell_of_block hP3 2, cell_of_block hX3 0, cell_of_block hX3 1, cell_of_block hX3 2, cell_of_block hH3 0, cell_of_block hH3 1, cell_of_block hH3 2, cell_of_block hH3 3, cell_of_block hH3 4, cell_of_block hH3 5, cell_of_block hH3 6, cell_of_block hH3 7, cell_of_block hH3 8, cell_of_block hH3 9, cell_of_block hH3 10, cell_of_block hH3 11⟩
  refine hK _ _ (.inr hS3) ?_
  clear hK K
  (try simp only [Act.put, List.setIfInBounds_toArray, List.set_cons_zero, List.set_cons_succ])
  refine wpAnyT_take (i := 3) (v := ?v3_3) rfl (by kernel_rfl) (by kernel_rfl) (by kernel_rfl) (by kernel_rfl) (fun _ _ _ h => h) (Or.inl ⟨by rfl, ?hy3_3⟩) hS3 ?rest3_3
  case hy3_3 => intro w' hSw; obtain ⟨s0, s1, s2, s3, s4, s5, s6, s7, s8, s9, s10, s11, s12, s13, s14, s15, s16, s17⟩ := hSw; go_simp; try with_reducible rfl
  simp only [Act.put, List.setIfInBounds_toArray, List.set_cons_zero, List.set_cons_succ]
  refine wpAnyT_one (i := 4) (by kernel_rfl) rfl (by rfl) fun K hK => ?_
  go_simp
  go_at_call 35; refine ((show Calls _ _ _ _ (InDnB w2.drew.heap.size DD qq w3) by rw [← HD.out, ← HQ.out]; exact l11Reset_any (B := w2.drew.heap.size) (v := et0) kd.size G2 G1 F2 G3 G4 F3 G5 hO)).mono ?_
  rintro e w4 hI
  obtain ⟨ta3, tn3, tc3, pa3, pn3, pc3, rfl, th3, ra3, hA, hk4⟩ := hI.new k3 k2.size (show w.heap.size ≤ w.heap.size + 1 + 1 + 1 by omega) hR3 rfl
  have hP4 := b_block hk4 hP3 (by rw [d0]; omega)
  have hX4 := b_block hk4 hX3 (by rw [d0]; omega)
  have hH4 := b_block hk4 hH3 (by rw [d0]; omega)
  have hS4 : w4.cell? ⟨w.heap.size, 0, none⟩ = some (.int .i64 a) ∧ w4.cell? ⟨w.heap.size, 1, none⟩ = some (.int .i64 b) ∧ w4.cell? ⟨w.heap.size, 2, none⟩ = some (.int .i64 c) ∧ w4.cell? ⟨w.heap.size + 1, 0, none⟩ = some (.int .i64 M.c) ∧ w4.cell? ⟨w.heap.size + 1, 1, none⟩ = some (.slice va M.tn vc) ∧ w4.cell? ⟨w.heap.size + 1, 2, none⟩ = some (.slice qa M.pn qc) ∧ w4.cell? ⟨w.heap.size + 1 + 1, 0, none⟩ = some (.int .i64 h.pos) ∧ w4.cell? ⟨w.heap.size + 1 + 1, 1, none⟩ = some (.int .i64 h.call.code) ∧ w4.cell? ⟨w.heap.size + 1 + 1, 2, none⟩ = some (.int .i64 h.call.a) ∧ w4.cell? ⟨w.heap.size + 1 + 1, 3, none⟩ = some (.int .i64 h.call.b) ∧ w4.cell? ⟨w.heap.size + 1 + 1, 4, none⟩ = some (.int .i64 h.call.c) ∧ w4.cell? ⟨w.heap.size + 1 + 1, 5, none⟩ = some (.int .i64 h.tim) ∧ w4.cell? ⟨w.heap.size + 1 + 1, 6, none⟩ = some (.int .i64 h.whe) ∧ w4.cell? ⟨w.heap.size + 1 + 1, 7, none⟩ = some (.bool h.had) ∧ w4.cell? ⟨w.heap.size + 1 + 1, 8, none⟩ = some (.int .i64 h.cnt) ∧ w4.cell? ⟨w.heap.size + 1 + 1, 9, none⟩ = some (.int .i64 h.beg) ∧ w4.cell? ⟨w.heap.size + 1 + 1, 10, none⟩ = some (.int .i64 h.rep) ∧ w4.cell? ⟨w.heap.size + 1 + 1, 11, none⟩ = some (.int .i64 h.out) := ⟨cell_of_block hP4 0, cell_of_block hP4 1, cell_of_block hP4 2, cell_of_block hX4 0, cell_of_block hX4 1, cell_of_block hX4 2, cell_of_block hH4 0, cell_of_block hH4 1, cell_of_block hH4 2, cell_of_block hH4 3, cell_of_block hH4 4, cell_of_block hH4 5, cell_of_block hH4 6, cell_of_block hH4 7, cell_of_block hH4 8, cell_of_block hH4 9, cell_of_block hH4 10, cell_of_block hH4 11⟩
  refine hK _ _ (.inr hS4) ?_
  clear hK K
  (try simp only [Act.put, List.setIfInBounds_toArray, List.set_cons_zero, List.set_cons_succ])
  refine wpAnyT_take (i := 5) (v := ?v5_4) rfl (by kernel_rfl) (by kernel_rfl) (by kernel_rfl) (by kernel_rfl) (fun _ _ _ h => h) (Or.inl ⟨by rfl, ?hy5_4⟩) hS4 ?rest5_4
  case hy5_4 => intro w' hSw; obtain ⟨s0, s1, s2, s3, s4, s5, s6, s7, s8, s9, s10, s11, s12, s13, s14, s15, s16, s17⟩ := hSw; go_simp; try with_reducible rfl
  simp only [Act.put, List.setIfInBounds_toArray, List.set_cons_zero, List.set_cons_succ]
  refine wpAnyT_take (i := 6) (v := ?v6_5) rfl (by kernel_rfl) (by kernel_rfl) (by kernel_rfl) (by kernel_rfl) (fun _ _ _ h => h) (Or.inl ⟨by rfl, ?hy6_5⟩) hS4 ?rest6_5
  case hy6_5 => intro w' hSw; obtain ⟨s0, s1, s2, s3, s4, s5, s6, s7, s8, s9, s10, s11, s12, s13, s14, s15, s16, s17⟩ := hSw; go_simp; try with_reducible rfl
  simp only [Act.put, List.setIfInBounds_toArray, List.set_cons_zero, List.set_cons_succ]
  refine wpAnyT_one (i := 7) (by kernel_rfl) rfl (by rfl) fun K hK => ?_
  refine wp_store_mid 43 _ _ (by rfl) _ 0 (dnCells DD (.slice ta3 tn3 tc3) (.slice pa3 pn3 pc3)) (by rfl) (by rfl) th3 done_info (by simp [Value.oneCell']) ?_
  have hP5 := (heap_setCells_ne (b := w.heap.size + 1 + 1 + 1) (g := w.heap.size) (by omega) (dnCells DD (.slice ta3 tn3 tc3) (.slice pa3 pn3 pc3)).toList 0 w4).trans hP4
  have hX5 := (heap_setCells_ne (b := w.heap.size + 1 + 1 + 1) (g := w.heap.size + 1) (by omega) (dnCells DD (.slice ta3 tn3 tc3) (.slice pa3 pn3 pc3)).toList 0 w4).trans hX4
  have hH5 := (heap_setCells_ne (b := w.heap.size + 1 + 1 + 1) (g := w.heap.size + 1 + 1) (by omega) (dnCells DD (.slice ta3 tn3 tc3) (.slice pa3 pn3 pc3)).toList 0 w4).trans hH4
  generalize hw5 : w4.setCells (w.heap.size + 1 + 1 + 1) 0 (dnCells DD (.slice ta3 tn3 tc3) (.slice pa3 pn3 pc3)).toList = w5 at ra3 hA hP5 hX5 hH5 ⊢
  clear hw5
  have hS5 : w5.cell? ⟨w.heap.size, 0, none⟩ = some (.int .i64 a) ∧ w5.cell? ⟨w.heap.size, 1, none⟩ = some (.int .i64 b) ∧ w5.cell? ⟨w.heap.size, 2, none⟩ = some (.int .i64 c) ∧ w5.cell? ⟨w.heap.size + 1, 0, none⟩ = some (.int .i64 M.c) ∧ w5.cell? ⟨w.heap.size + 1, 1, none⟩ = some (.slice va M.tn vc) ∧ w5.cell? ⟨w.heap.size + 1, 2, none⟩ = some (.slice qa M.pn qc) ∧ w5.cell? ⟨w.heap.size + 1 + 1, 0, none⟩ = some (.int .i64 h.pos) ∧ w5.cell? ⟨w.heap.size + 1 + 1, 1, none⟩ = some (.int .i64 h.call.code) ∧ w5.cell? ⟨w.heap.size + 1 + 1, 2, none⟩ = some (.int .i64 h.call.a) ∧ w5.cell? ⟨w.heap.size + 1 + 1, 3, none⟩ = some (.int .i64 h.call.b) ∧ w5.cell? ⟨w.heap.size + 1 + 1, 4, none⟩ = some (.int .i64 h.call.c) ∧ w5.cell? ⟨w.heap.size + 1 + 1, 5, none⟩ = some (.int .i64 h.tim) ∧ w5.cell? ⟨w.heap.size + 1 + 1, 6, none⟩ = some (.int .i64 h.whe) ∧ w5.cell? ⟨w.heap.size + 1 + 1, 7, none⟩ = some (.bool h.had) ∧ w5.cell? ⟨w.heap.size + 1 + 1, 8, none⟩ = some (.int .i64 h.cnt) ∧ w5.cell? ⟨w.heap.size + 1 + 1, 9, none⟩ = some (.int .i64 h.beg) ∧ w5.cell? ⟨w.heap.size + 1 + 1, 10, none⟩ = some (.int .i64 h.rep) ∧ w5.cell? ⟨w.heap.size + 1 + 1, 11, none⟩ = some (.int .i64 h.out) := ⟨cell_of_block hP5 0, cell_of_block hP5 1, cell_of_block hP5 2, cell_of_block hX5 0, cell_of_block hX5 1, cell_of_block hX5 2, cell_of_block hH5 0, cell_of_block hH5 1, cell_of_block hH5 2, cell_of_block hH5 3, cell_of_block hH5 4, cell_of_block hH5 5, cell_of_block hH5 6, cell_of_block hH5 7, cell_of_block hH5 8, cell_of_block hH5 9, cell_of_block hH5 10, cell_of_block hH5 11⟩
  refine hK _ _ (.inr hS5) ?_
  clear hK K
  (try simp only [Act.put, List.setIfInBounds_toArray, List.set_cons_zero, List.set_cons_succ])
  refine wpAnyT_one (i := 8) (by kernel_rfl) rfl (by rfl) fun K hK => ?_
  go_simp
  refine hK _ _ (.inl rfl) ?_
  clear hK K hS hS3 hS4 hS5
  refine wpAnyT_done (by kernel_rfl) ?_ _
  go_wp2
  exact bodyPost_ret (v := .tuple #[dnV DD (.slice ta3 tn3 tc3) (.slice pa3 pn3 pc3), .bool qq]) (results_pair (cs := (dnCells DD (.slice ta3 tn3 tc3) (.slice pa3 pn3 pc3)).toList) rfl rfl rfl ra3 Tryz.underlying43 rfl done_info) rfl hA

end Go.Proofs.YtflekodaiejflaaGreatDoor

/-
  A step's memory is no greater than the laws bear (chapters 9 to 14). No Go in sight.
-/
namespace Go.Proofs.YtflekodaiejflaaGreatDoor
open Go.RowKit Go.Joins
set_option linter.unusedVariables false
set_option linter.unusedSimpArgs false

theorem Near.trans0 {M N K : Me} (h : Near M N) (tn : K.tn = N.tn) (pn : K.pn = N.pn) (c : K.c = N.c) (n : ∀ k, (K.p k).n ≤ (N.p k).n) : Near M K :=
  ⟨tn.trans h.tn, pn.trans h.pn, c.trans h.c, fun k => Nat.le_trans (n k) (h.n k)⟩
theorem setPc_le (M : Me) (t j : Nat) (x : Int) (k : Nat) : ((setPc M t j x).p k).n ≤ (M.p k).n := Nat.le_of_eq (setPc_n M t j x k)
theorem size_zero : sizeM me0 ≤ 1048576 := by decide
end Go.Proofs.YtflekodaiejflaaGreatDoor

/-
  The face of a step, in the program: what gives up answers the zero Done and false (chapter 9). For whatever step.
-/
namespace Go.Proofs.YtflekodaiejflaaGreatDoor
open Go.Deep Go.RowKit Go.Joins
set_option linter.unusedVariables false
set_option linter.unusedSimpArgs false

/-- what a step does to a deed: it is another one then, or it gives up -/
def Does (q : Bool) (N : Dn) (B mb db : Nat) (a b c d : Int) (w : World) (e : Ending) (w' : World) : Prop :=
  match q with
  | true => e = .returned (.tuple #[]) ∧ InD B mb db a b c d N w w'
  | false => GaveUp B w e w'

set_option maxRecDepth 100000 in
set_option maxHeartbeats 8000000 in
theorem tryStep_unfit (F : FuncId) (hE : ∀ (args : Array Value) (w : World), (callFunc F args).run Tryz.prog w = .ok (.enter F args) w) (a b c d : Int) (h : Hd) {tv pv : Value} {M : Me} {w : World} (hs : sizeM M ≤ 1048576) (hm : MemAt w tv pv M) (hf : stepFit a b c d M h = false) :
    Calls Tryz.prog 26 #[.agg #[.int .i64 a, .int .i64 b, .int .i64 c], meV M.c tv pv, .int .i64 d, hdV h, .func (.func F) #[] #[]] w (NewDn dn0 false w) := by
  obtain ⟨va, vc, qa, qc, rfl, rfl⟩ := hm.form
  have k0 := (((((Below.refl w.heap.size w).alloc (Nat.le_refl _) (.cells #[.int .i64 a, .int .i64 b, .int .i64 c] 46)).alloc (by simp) (memO M.c (.slice va M.tn vc) (.slice qa M.pn qc) 36)).alloc (by simp; omega) (.cells (hdCells h) 39)).alloc (by simp; omega) (.cells #[.int .i64 0, .slice none 0 0, .slice none 0 0, .int .i64 0, .int .i64 0, .int .i64 0, .int .i64 0, .int .i64 0, .int .i64 0, .int .i64 0, .bool false, .int .i64 0, .int .i64 0, .int .i64 0, .int .i64 0, .int .i64 0, .int .i64 0, .int .i64 0, .int .i64 0, .int .i64 0] 43))
  have hP := alloc_block (.cells #[.int .i64 0, .slice none 0 0, .slice none 0 0, .int .i64 0, .int .i64 0, .int .i64 0, .int .i64 0, .int .i64 0, .int .i64 0, .int .i64 0, .bool false, .int .i64 0, .int .i64 0, .int .i64 0, .int .i64 0, .int .i64 0, .int .i64 0, .int .i64 0, .int .i64 0, .int .i64 0] 43) (alloc_block (.cells (hdCells h) 39) (alloc_block (memO M.c (.slice va M.tn vc) (.slice qa M.pn qc) 36) (heap_alloc_new w (.cells #[.int .i64 a, .int .i64 b, .int .i64 c] 46))))
  have hX := heap_alloc_new (w.alloc (.cells #[.int .i64 a, .int .i64 b, .int .i64 c] 46)) (memO M.c (.slice va M.tn vc) (.slice qa M.pn qc) 36)
  rw [show (w.alloc (.cells #[.int .i64 a, .int .i64 b, .int .i64 c] 46)).heap.size = w.heap.size + 1 by simp] at hX
  replace hX := alloc_block (.cells #[.int .i64 0, .slice none 0 0, .slice none 0 0, .int .i64 0, .int .i64 0, .int .i64 0, .int .i64 0, .int .i64 0, .int .i64 0, .int .i64 0, .bool false, .int .i64 0, .int .i64 0, .int .i64 0, .int .i64 0, .int .i64 0, .int .i64 0, .int .i64 0, .int .i64 0, .int .i64 0] 43) (alloc_block (.cells (hdCells h) 39) hX)
  have hH := heap_alloc_new ((w.alloc (.cells #[.int .i64 a, .int .i64 b, .int .i64 c] 46)).alloc (memO M.c (.slice va M.tn vc) (.slice qa M.pn qc) 36)) (.cells (hdCells h) 39)
  rw [show ((w.alloc (.cells #[.int .i64 a, .int .i64 b, .int .i64 c] 46)).alloc (memO M.c (.slice va M.tn vc) (.slice qa M.pn qc) 36)).heap.size = w.heap.size + 1 + 1 by simp] at hH
  replace hH := alloc_block (.cells #[.int .i64 0, .slice none 0 0, .slice none 0 0, .int .i64 0, .int .i64 0, .int .i64 0, .int .i64 0, .int .i64 0, .int .i64 0, .int .i64 0, .bool false, .int .i64 0, .int .i64 0, .int .i64 0, .int .i64 0, .int .i64 0, .int .i64 0, .int .i64 0, .int .i64 0, .int .i64 0] 43) hH
  have hR := heap_alloc_new (((w.alloc (.cells #[.int .i64 a, .int .i64 b, .int .i64 c] 46)).alloc (memO M.c (.slice va M.tn vc) (.slice qa M.pn qc) 36)).alloc (.cells (hdCells h) 39)) (.cells #[.int .i64 0, .slice none 0 0, .slice none 0 0, .int .i64 0, .int .i64 0, .int .i64 0, .int .i64 0, .int .i64 0, .int .i64 0, .int .i64 0, .bool false, .int .i64 0, .int .i64 0, .int .i64 0, .int .i64 0, .int .i64 0, .int .i64 0, .int .i64 0, .int .i64 0, .int .i64 0] 43)
  rw [show (((w.alloc (.cells #[.int .i64 a, .int .i64 b, .int .i64 c] 46)).alloc (memO M.c (.slice va M.tn vc) (.slice qa M.pn qc) 36)).alloc (.cells (hdCells h) 39)).heap.size = w.heap.size + 1 + 1 + 1 by simp] at hR
  have HM := Lib.hid (hm.below k0)
  have s0 : ((((w.alloc (.cells #[.int .i64 a, .int .i64 b, .int .i64 c] 46)).alloc (memO M.c (.slice va M.tn vc) (.slice qa M.pn qc) 36)).alloc (.cells (hdCells h) 39)).alloc (.cells #[.int .i64 0, .slice none 0 0, .slice none 0 0, .int .i64 0, .int .i64 0, .int .i64 0, .int .i64 0, .int .i64 0, .int .i64 0, .int .i64 0, .bool false, .int .i64 0, .int .i64 0, .int .i64 0, .int .i64 0, .int .i64 0, .int .i64 0, .int .i64 0, .int .i64 0, .int .i64 0] 43)).heap.size = w.heap.size + 1 + 1 + 1 + 1 := by simp
  clear hm
  go_enter_defers Tryz.func26, Tryz.ntmps26
  go_upto_region 1 with fail
  generalize (((w.alloc (.cells #[.int .i64 a, .int .i64 b, .int .i64 c] 46)).alloc (memO M.c (.slice va M.tn vc) (.slice qa M.pn qc) 36)).alloc (.cells (hdCells h) 39)).alloc (.cells #[.int .i64 0, .slice none 0 0, .slice none 0 0, .int .i64 0, .int .i64 0, .int .i64 0, .int .i64 0, .int .i64 0, .int .i64 0, .int .i64 0, .bool false, .int .i64 0, .int .i64 0, .int .i64 0, .int .i64 0, .int .i64 0, .int .i64 0, .int .i64 0, .int .i64 0, .int .i64 0] 43) = w1 at k0 hP hX hH hR HM s0 ⊢
  obtain ⟨p0, p1, p2, _, _, _⟩ := three hP
  obtain ⟨x0, x1, x2, _, _, _⟩ := three hX
  obtain ⟨h0, h1, h2, h3, h4, h5, h6, h7, h8, h9, h10, h11, _⟩ := twelve hH
  go_wp2_with (go_at_call 46; refine (newDeed_no a b c d h hs HM.out hf).mono ?_; rintro e w2 ⟨⟨u, pv, rfl⟩, hb⟩)
  replace hR := b_block hb hR (lt_of_block hR)
  have kz := k0.trans (hb.mono k0.size)
  clear p0 p1 p2 x0 x1 x2 h0 h1 h2 h3 h4 h5 h6 h7 h8 h9 h10 h11 hP hX hH
  refine leaves_cons (f := 45) (args := #[]) (by simp) (by simp [go_sem]) ?_
  refine (catch_panicking _ _ _ _).mono ?_
  rintro e u' w9 ⟨rfl, rfl, rfl⟩
  exact ⟨_, results_pair (cs := [.int .i64 0, .slice none 0 0, .slice none 0 0, .int .i64 0, .int .i64 0, .int .i64 0, .int .i64 0, .int .i64 0, .int .i64 0, .int .i64 0, .bool false, .int .i64 0, .int .i64 0, .int .i64 0, .int .i64 0, .int .i64 0, .int .i64 0, .int .i64 0, .int .i64 0, .int .i64 0]) rfl rfl rfl (range_of_block hR) Tryz.underlying43 rfl done_info, _, _, rfl, own_zero _ _, kz⟩

set_option maxRecDepth 100000 in
set_option maxHeartbeats 8000000 in
theorem tryStep_no (F : FuncId) (hE : ∀ (args : Array Value) (w : World), (callFunc F args).run Tryz.prog w = .ok (.enter F args) w) (a b c d : Int) (h : Hd) {tv pv : Value} {M : Me} {w : World} (hs : sizeM M ≤ 1048576) (hm : MemAt w tv pv M) {N : Dn} (HF : RowKit.Hid (∀ (W : World) (B mb db : Nat), Below w.heap.size w W → B ≤ W.heap.size → DeedX W B mb db a b c d ⟨M, h, et0⟩ → Calls Tryz.prog F #[ptrV db] W (Does false N B mb db a b c d W))) (hf : stepFit a b c d M h = true) :
    Calls Tryz.prog 26 #[.agg #[.int .i64 a, .int .i64 b, .int .i64 c], meV M.c tv pv, .int .i64 d, hdV h, .func (.func F) #[] #[]] w (NewDn dn0 false w) := by
  obtain ⟨va, vc, qa, qc, rfl, rfl⟩ := hm.form
  have k0 := (((((Below.refl w.heap.size w).alloc (Nat.le_refl _) (.cells #[.int .i64 a, .int .i64 b, .int .i64 c] 46)).alloc (by simp) (memO M.c (.slice va M.tn vc) (.slice qa M.pn qc) 36)).alloc (by simp; omega) (.cells (hdCells h) 39)).alloc (by simp; omega) (.cells #[.int .i64 0, .slice none 0 0, .slice none 0 0, .int .i64 0, .int .i64 0, .int .i64 0, .int .i64 0, .int .i64 0, .int .i64 0, .int .i64 0, .bool false, .int .i64 0, .int .i64 0, .int .i64 0, .int .i64 0, .int .i64 0, .int .i64 0, .int .i64 0, .int .i64 0, .int .i64 0] 43))
  have hP := alloc_block (.cells #[.int .i64 0, .slice none 0 0, .slice none 0 0, .int .i64 0, .int .i64 0, .int .i64 0, .int .i64 0, .int .i64 0, .int .i64 0, .int .i64 0, .bool false, .int .i64 0, .int .i64 0, .int .i64 0, .int .i64 0, .int .i64 0, .int .i64 0, .int .i64 0, .int .i64 0, .int .i64 0] 43) (alloc_block (.cells (hdCells h) 39) (alloc_block (memO M.c (.slice va M.tn vc) (.slice qa M.pn qc) 36) (heap_alloc_new w (.cells #[.int .i64 a, .int .i64 b, .int .i64 c] 46))))
  have hX := heap_alloc_new (w.alloc (.cells #[.int .i64 a, .int .i64 b, .int .i64 c] 46)) (memO M.c (.slice va M.tn vc) (.slice qa M.pn qc) 36)
  rw [show (w.alloc (.cells #[.int .i64 a, .int .i64 b, .int .i64 c] 46)).heap.size = w.heap.size + 1 by simp] at hX
  replace hX := alloc_block (.cells #[.int .i64 0, .slice none 0 0, .slice none 0 0, .int .i64 0, .int .i64 0, .int .i64 0, .int .i64 0, .int .i64 0, .int .i64 0, .int .i64 0, .bool false, .int .i64 0, .int .i64 0, .int .i64 0, .int .i64 0, .int .i64 0, .int .i64 0, .int .i64 0, .int .i64 0, .int .i64 0] 43) (alloc_block (.cells (hdCells h) 39) hX)
  have hH := heap_alloc_new ((w.alloc (.cells #[.int .i64 a, .int .i64 b, .int .i64 c] 46)).alloc (memO M.c (.slice va M.tn vc) (.slice qa M.pn qc) 36)) (.cells (hdCells h) 39)
  rw [show ((w.alloc (.cells #[.int .i64 a, .int .i64 b, .int .i64 c] 46)).alloc (memO M.c (.slice va M.tn vc) (.slice qa M.pn qc) 36)).heap.size = w.heap.size + 1 + 1 by simp] at hH
  replace hH := alloc_block (.cells #[.int .i64 0, .slice none 0 0, .slice none 0 0, .int .i64 0, .int .i64 0, .int .i64 0, .int .i64 0, .int .i64 0, .int .i64 0, .int .i64 0, .bool false, .int .i64 0, .int .i64 0, .int .i64 0, .int .i64 0, .int .i64 0, .int .i64 0, .int .i64 0, .int .i64 0, .int .i64 0] 43) hH
  have hR := heap_alloc_new (((w.alloc (.cells #[.int .i64 a, .int .i64 b, .int .i64 c] 46)).alloc (memO M.c (.slice va M.tn vc) (.slice qa M.pn qc) 36)).alloc (.cells (hdCells h) 39)) (.cells #[.int .i64 0, .slice none 0 0, .slice none 0 0, .int .i64 0, .int .i64 0, .int .i64 0, .int .i64 0, .int .i64 0, .int .i64 0, .int .i64 0, .bool false, .int .i64 0, .int .i64 0, .int .i64 0, .int .i64 0, .int .i64 0, .int .i64 0, .int .i64 0, .int .i64 0, .int .i64 0] 43)
  rw [show (((w.alloc (.cells #[.int .i64 a, .int .i64 b, .int .i64 c] 46)).alloc (memO M.c (.slice va M.tn vc) (.slice qa M.pn qc) 36)).alloc (.cells (hdCells h) 39)).heap.size = w.heap.size + 1 + 1 + 1 by simp] at hR
  have HM := Lib.hid (hm.below k0)
  have s0 : ((((w.alloc (.cells #[.int .i64 a, .int .i64 b, .int .i64 c] 46)).alloc (memO M.c (.slice va M.tn vc) (.slice qa M.pn qc) 36)).alloc (.cells (hdCells h) 39)).alloc (.cells #[.int .i64 0, .slice none 0 0, .slice none 0 0, .int .i64 0, .int .i64 0, .int .i64 0, .int .i64 0, .int .i64 0, .int .i64 0, .int .i64 0, .bool false, .int .i64 0, .int .i64 0, .int .i64 0, .int .i64 0, .int .i64 0, .int .i64 0, .int .i64 0, .int .i64 0, .int .i64 0] 43)).heap.size = w.heap.size + 1 + 1 + 1 + 1 := by simp
  clear hm
  go_enter_defers Tryz.func26, Tryz.ntmps26
  go_upto_region 1 with fail
  generalize (((w.alloc (.cells #[.int .i64 a, .int .i64 b, .int .i64 c] 46)).alloc (memO M.c (.slice va M.tn vc) (.slice qa M.pn qc) 36)).alloc (.cells (hdCells h) 39)).alloc (.cells #[.int .i64 0, .slice none 0 0, .slice none 0 0, .int .i64 0, .int .i64 0, .int .i64 0, .int .i64 0, .int .i64 0, .int .i64 0, .int .i64 0, .bool false, .int .i64 0, .int .i64 0, .int .i64 0, .int .i64 0, .int .i64 0, .int .i64 0, .int .i64 0, .int .i64 0, .int .i64 0] 43) = w1 at k0 hP hX hH hR HM s0 ⊢
  obtain ⟨p0, p1, p2, _, _, _⟩ := three hP
  obtain ⟨x0, x1, x2, _, _, _⟩ := three hX
  obtain ⟨h0, h1, h2, h3, h4, h5, h6, h7, h8, h9, h10, h11, _⟩ := twelve hH
  go_wp2_with fail
  go_at_call 46; refine (newDeed_yes a b c d h hs HM.out hf).mono ?_; rintro e w2 ⟨mb, db, rfl, hD, hb⟩
  have lR := lt_of_block hR
  replace hR := b_block hb hR lR
  have k2 := k0.trans (hb.mono k0.size)
  have s2 := hb.size
  clear p0 p1 p2 x0 x1 x2 h0 h1 h2 h3 h4 h5 h6 h7 h8 h9 h10 h11 hP hX hH HM k0 hb
  go_wp2_with fail
  refine (HF.out _ _ _ _ k2 s2 hD).mono ?_; rintro e w3 ⟨⟨u, pv, rfl⟩, hb⟩
  replace hR := b_block hb hR lR
  have kz := k2.trans (hb.mono (by omega))
  go_wp2
  refine leaves_cons (f := 45) (args := #[]) (by simp) (by simp [go_sem]) ?_
  refine (catch_panicking _ _ _ _).mono ?_
  rintro e u' w9 ⟨rfl, rfl, rfl⟩
  exact ⟨_, results_pair (cs := [.int .i64 0, .slice none 0 0, .slice none 0 0, .int .i64 0, .int .i64 0, .int .i64 0, .int .i64 0, .int .i64 0, .int .i64 0, .int .i64 0, .bool false, .int .i64 0, .int .i64 0, .int .i64 0, .int .i64 0, .int .i64 0, .int .i64 0, .int .i64 0, .int .i64 0, .int .i64 0]) rfl rfl rfl (range_of_block hR) Tryz.underlying43 rfl done_info, _, _, rfl, own_zero _ _, kz⟩

set_option maxRecDepth 100000 in
set_option maxHeartbeats 8000000 in
theorem tryStep_yes (F : FuncId) (hE : ∀ (args : Array Value) (w : World), (callFunc F args).run Tryz.prog w = .ok (.enter F args) w) (a b c d : Int) (h : Hd) {tv pv : Value} {M : Me} {w : World} (hs : sizeM M ≤ 1048576) (hm : MemAt w tv pv M) {N : Dn} (hN : sizeM N.m ≤ 1048576) (HF : RowKit.Hid (∀ (W : World) (B mb db : Nat), Below w.heap.size w W → B ≤ W.heap.size → DeedX W B mb db a b c d ⟨M, h, et0⟩ → Calls Tryz.prog F #[ptrV db] W (Does true N B mb db a b c d W))) (hf : stepFit a b c d M h = true) :
    Calls Tryz.prog 26 #[.agg #[.int .i64 a, .int .i64 b, .int .i64 c], meV M.c tv pv, .int .i64 d, hdV h, .func (.func F) #[] #[]] w (NewDn N true w) := by
  obtain ⟨va, vc, qa, qc, rfl, rfl⟩ := hm.form
  have k0 := (((((Below.refl w.heap.size w).alloc (Nat.le_refl _) (.cells #[.int .i64 a, .int .i64 b, .int .i64 c] 46)).alloc (by simp) (memO M.c (.slice va M.tn vc) (.slice qa M.pn qc) 36)).alloc (by simp; omega) (.cells (hdCells h) 39)).alloc (by simp; omega) (.cells #[.int .i64 0, .slice none 0 0, .slice none 0 0, .int .i64 0, .int .i64 0, .int .i64 0, .int .i64 0, .int .i64 0, .int .i64 0, .int .i64 0, .bool false, .int .i64 0, .int .i64 0, .int .i64 0, .int .i64 0, .int .i64 0, .int .i64 0, .int .i64 0, .int .i64 0, .int .i64 0] 43))
  have hP := alloc_block (.cells #[.int .i64 0, .slice none 0 0, .slice none 0 0, .int .i64 0, .int .i64 0, .int .i64 0, .int .i64 0, .int .i64 0, .int .i64 0, .int .i64 0, .bool false, .int .i64 0, .int .i64 0, .int .i64 0, .int .i64 0, .int .i64 0, .int .i64 0, .int .i64 0, .int .i64 0, .int .i64 0] 43) (alloc_block (.cells (hdCells h) 39) (alloc_block (memO M.c (.slice va M.tn vc) (.slice qa M.pn qc) 36) (heap_alloc_new w (.cells #[.int .i64 a, .int .i64 b, .int .i64 c] 46))))
  have hX := heap_alloc_new (w.alloc (.cells #[.int .i64 a, .int .i64 b, .int .i64 c] 46)) (memO M.c (.slice va M.tn vc) (.slice qa M.pn qc) 36)
  rw [show (w.alloc (.cells #[.int .i64 a, .int .i64 b, .int .i64 c] 46)).heap.size = w.heap.size + 1 by simp] at hX
  replace hX := alloc_block (.cells #[.int .i64 0, .slice none 0 0, .slice none 0 0, .int .i64 0, .int .i64 0, .int .i64 0, .int .i64 0, .int .i64 0, .int .i64 0, .int .i64 0, .bool false, .int .i64 0, .int .i64 0, .int .i64 0, .int .i64 0, .int .i64 0, .int .i64 0, .int .i64 0, .int .i64 0, .int .i64 0] 43) (alloc_block (.cells (hdCells h) 39) hX)
  have hH := heap_alloc_new ((w.alloc (.cells #[.int .i64 a, .int .i64 b, .int .i64 c] 46)).alloc (memO M.c (.slice va M.tn vc) (.slice qa M.pn qc) 36)) (.cells (hdCells h) 39)
  rw [show ((w.alloc (.cells #[.int .i64 a, .int .i64 b, .int .i64 c] 46)).alloc (memO M.c (.slice va M.tn vc) (.slice qa M.pn qc) 36)).heap.size = w.heap.size + 1 + 1 by simp] at hH
  replace hH := alloc_block (.cells #[.int .i64 0, .slice none 0 0, .slice none 0 0, .int .i64 0, .int .i64 0, .int .i64 0, .int .i64 0, .int .i64 0, .int .i64 0, .int .i64 0, .bool false, .int .i64 0, .int .i64 0, .int .i64 0, .int .i64 0, .int .i64 0, .int .i64 0, .int .i64 0, .int .i64 0, .int .i64 0] 43) hH
  have hR := heap_alloc_new (((w.alloc (.cells #[.int .i64 a, .int .i64 b, .int .i64 c] 46)).alloc (memO M.c (.slice va M.tn vc) (.slice qa M.pn qc) 36)).alloc (.cells (hdCells h) 39)) (.cells #[.int .i64 0, .slice none 0 0, .slice none 0 0, .int .i64 0, .int .i64 0, .int .i64 0, .int .i64 0, .int .i64 0, .int .i64 0, .int .i64 0, .bool false, .int .i64 0, .int .i64 0, .int .i64 0, .int .i64 0, .int .i64 0, .int .i64 0, .int .i64 0, .int .i64 0, .int .i64 0] 43)
  rw [show (((w.alloc (.cells #[.int .i64 a, .int .i64 b, .int .i64 c] 46)).alloc (memO M.c (.slice va M.tn vc) (.slice qa M.pn qc) 36)).alloc (.cells (hdCells h) 39)).heap.size = w.heap.size + 1 + 1 + 1 by simp] at hR
  have HM := Lib.hid (hm.below k0)
  have s0 : ((((w.alloc (.cells #[.int .i64 a, .int .i64 b, .int .i64 c] 46)).alloc (memO M.c (.slice va M.tn vc) (.slice qa M.pn qc) 36)).alloc (.cells (hdCells h) 39)).alloc (.cells #[.int .i64 0, .slice none 0 0, .slice none 0 0, .int .i64 0, .int .i64 0, .int .i64 0, .int .i64 0, .int .i64 0, .int .i64 0, .int .i64 0, .bool false, .int .i64 0, .int .i64 0, .int .i64 0, .int .i64 0, .int .i64 0, .int .i64 0, .int .i64 0, .int .i64 0, .int .i64 0] 43)).heap.size = w.heap.size + 1 + 1 + 1 + 1 := by simp
  clear hm
  go_enter_defers Tryz.func26, Tryz.ntmps26
  go_upto_region 1 with fail
  generalize (((w.alloc (.cells #[.int .i64 a, .int .i64 b, .int .i64 c] 46)).alloc (memO M.c (.slice va M.tn vc) (.slice qa M.pn qc) 36)).alloc (.cells (hdCells h) 39)).alloc (.cells #[.int .i64 0, .slice none 0 0, .slice none 0 0, .int .i64 0, .int .i64 0, .int .i64 0, .int .i64 0, .int .i64 0, .int .i64 0, .int .i64 0, .bool false, .int .i64 0, .int .i64 0, .int .i64 0, .int .i64 0, .int .i64 0, .int .i64 0, .int .i64 0, .int .i64 0, .int .i64 0] 43) = w1 at k0 hP hX hH hR HM s0 ⊢
  obtain ⟨p0, p1, p2, _, _, _⟩ := three hP
  obtain ⟨x0, x1, x2, _, _, _⟩ := three hX
  obtain ⟨h0, h1, h2, h3, h4, h5, h6, h7, h8, h9, h10, h11, _⟩ := twelve hH
  go_wp2_with fail
  go_at_call 46; refine (newDeed_yes a b c d h hs HM.out hf).mono ?_; rintro e w2 ⟨mb, db, rfl, hD, hb⟩
  have lR := lt_of_block hR
  replace hR := b_block hb hR lR
  have k2 := k0.trans (hb.mono k0.size)
  have s2 := hb.size
  clear p0 p1 p2 x0 x1 x2 h0 h1 h2 h3 h4 h5 h6 h7 h8 h9 h10 h11 hP hX hH HM k0 hb
  go_wp2_with fail
  refine (HF.out _ _ _ _ k2 s2 hD).mono ?_; rintro e w3 ⟨rfl, hD3, k3⟩
  have hB3 : w1.heap.size ≤ w3.heap.size := Nat.le_trans s2 k3.below.size
  replace hR := b_block k3.below hR lR
  replace k3 := k2.trans (k3.below.mono (by omega))
  clear hD k2
  go_wp2_with fail
  go_at_call 47; refine (done_any hN hB3 hD3).mono ?_; rintro e w4 ⟨t4, p4, rfl, hO, hb⟩
  replace hR := b_block hb hR (lt_of_block hR)
  have k4 := k3.trans (hb.mono (by omega))
  clear hD3 k3 hb
  obtain ⟨ta, tc, pa, pc, ht, hp⟩ := hO.at.form
  subst ht hp
  obtain ⟨cs, hcs⟩ : ∃ cs : Array Value, dnCells N (.slice ta N.m.tn tc) (.slice pa N.m.pn pc) = cs := ⟨_, rfl⟩
  rw [show dnV N (.slice ta N.m.tn tc) (.slice pa N.m.pn pc) = Value.agg cs from congrArg Value.agg hcs]
  have hsz : cs.size = 20 := by { rw [← hcs]; rfl }
  have hone : cs.all (·.oneCell') = true := by { rw [← hcs]; simp [Value.oneCell'] }
  have hst := run_store_letter (P := Tryz.prog) hsz hone w4 (w.heap.size + 1 + 1 + 1) (there_of_cells hR)
  have hR5 := heap_setCells (cs := cs) hR hsz
  have hO5 := OwnMemIn.own (hO.setCells cs.toList hR)
  have k5 := b_setCells (b := w.heap.size + 1 + 1 + 1) (n := w.heap.size) (by omega) cs.toList 0 k4
  clear hR hO k4
  go_wp2
  refine leaves_cons (f := 45) (args := #[]) (by simp) (by simp [go_sem]) ?_
  refine (catch_idle _).mono ?_
  rintro e u' w9 ⟨rfl, rfl, rfl⟩
  exact ⟨_, results_pair (cs := cs.toList) rfl rfl rfl (range_of_block hR5) Tryz.underlying43 rfl (by rw [done_info]; simp [hsz]), _, _, by rw [← hcs]; rfl, hO5.mono (by omega), k5⟩

end Go.Proofs.YtflekodaiejflaaGreatDoor

/-
  A step's memory is no greater than the laws bear (chapters 10 to 14). No Go in sight.
-/
namespace Go.Proofs.YtflekodaiejflaaGreatDoor
open Go.RowKit Go.Joins
set_option linter.unusedVariables false
set_option linter.unusedSimpArgs false

theorem Near.sub {M N K : Me} (h : Near M N) (k : Near N K) (n : ∀ k, (N.p k).n ≤ (M.p k).n) : Near M K :=
  ⟨k.tn.trans h.tn, k.pn.trans h.pn, k.c.trans h.c, fun i => Nat.le_trans (k.n i) (Nat.succ_le_succ (n i))⟩
theorem Near.tm {M N : Me} (h : Near M N) (t j : Nat) (x : Int) : Near M (setTm N t j x) := h.trans0 rfl rfl rfl (fun _ => Nat.le_refl _)
theorem Near.pc {M N : Me} (h : Near M N) (t j : Nat) (x : Int) : Near M (setPc N t j x) := h.trans0 rfl rfl rfl (setPc_le _ _ _ _)
theorem resetG_size (a b c d : Int) (M : Me) (h : Hd) : sizeM (resetG a b c d M h).m ≤ 1048576 := by
  unfold resetG
  split
  · rename_i hq
    have hf : MemFacts a b c M := by
      rw [resetQ, Bool.and_eq_true] at hq
      exact stepFit_facts hq.1
    have h0 := Near.refl M
    unfold resetD
    split
    · unfold resetLookD
      split
      · dsimp only
        split
        · exact h0.size hf
        split
        · exact (h0.tm _ _ _).size hf
        split
        · exact ((h0.tm _ _ _).pc _ _ _).size hf
        · exact (h0.tm _ _ _).size hf
      · exact h0.size hf
    · show sizeM (keyM ⟨M, h, et0⟩) ≤ 1048576
      unfold keyM
      dsimp only
      split
      · split
        · exact ((((h0.tm _ _ _).tm _ _ _).tm _ _ _).pc _ _ _).size hf
        · exact (((h0.tm _ _ _).tm _ _ _).tm _ _ _).size hf
      · exact (((h0.tm _ _ _).tm _ _ _).tm _ _ _).size hf
  · exact size_zero
end Go.Proofs.YtflekodaiejflaaGreatDoor

/-
  The program's setting anew: looked at (chapter 11).
-/
namespace Go.Proofs.YtflekodaiejflaaGreatDoor
open Go.RowKit Go.Joins
set_option linter.unusedVariables false
set_option linter.unusedSimpArgs false

/-- claimed; claimed, and no longer counted as stopped; claimed, and it was to ring -/
abbrev outD (D : Dn) (t : Nat) : Dn := ⟨setTm D.m t 0 2, { D.h with tim := (t : Int) }, D.v⟩
abbrev rousedD (D : Dn) (t k : Nat) : Dn := ⟨setPc (setTm D.m t 0 2) k 3 ((D.m.p k).d - 1), { D.h with tim := (t : Int) }, D.v⟩
abbrev hadD (D : Dn) (t : Nat) : Dn := ⟨(takenD D t).m, { (takenD D t).h with had := true }, (takenD D t).v⟩
abbrev aimedD (D : Dn) (t : Nat) (x : Int) : Dn := ⟨D.m, aimedH D t x, D.v⟩

set_option maxRecDepth 100000 in
set_option maxHeartbeats 4000000 in
theorem rlook_absent {w : World} {B mb db : Nat} {a b c d : Int} {D : Dn} {eb es en : Addr} (hE : ErrsLo w eb es en) (hB : B ≤ w.heap.size) (hn : D.m.tn ≤ 1048576) (hc : D.h.call.code = 3) (ht : hasT D.m D.h.call.a = false) (h : DeedX w B mb db a b c d D) :
    Calls Tryz.prog 60 #[ptrV db] w fun e w' => e = .returned (.tuple #[]) ∧ InD B mb db a b c d (⟨D.m, restHd 5 0, D.v⟩) w w' := by
  obtain ⟨d0, _, _, d3, d4, d5, d6, _, _, _⟩ := h.cells
  rw [hc] at d3
  have hv : canM eb es en D.m D.h.call.a = esI en := by unfold canM; rw [ht]; rfl
  have cA := heap_alloc_new w (.cells #[.int .i64 3, .int .i64 D.h.call.a, .int .i64 D.h.call.b, .int .i64 D.h.call.c] 37)
  have kA := (Below.refl w.heap.size w).alloc (Nat.le_refl _) (.cells #[.int .i64 3, .int .i64 D.h.call.a, .int .i64 D.h.call.b, .int .i64 D.h.call.c] 37)
  have h1 := h.below kA
  have E1 := hE.below kA
  go_enter Tryz.func60, Tryz.ntmps60
  go_upto_region 3 with fail
  clear d0 d3 d4 d5 d6 h hE
  generalize w.alloc (.cells #[.int .i64 3, .int .i64 D.h.call.a, .int .i64 D.h.call.b, .int .i64 D.h.call.c] 37) = wA at kA cA h1 E1 ⊢
  have k0 := (Below.refl wA.heap.size wA).drew
  have e1 : wA.cell? ⟨w.heap.size, 1, none⟩ = some (.int .i64 D.h.call.a) := cell_of_block cA 1
  obtain ⟨dA, _⟩ := h1.cells
  go_still_tail 6, (by kernel_rfl)
  change wpList _ _ _ _ _ wA.drew
  replace h1 := h1.below k0
  replace E1 := E1.below k0
  replace cA := b_block k0 cA (lt_of_block cA)
  replace kA := kA.trans (k0.mono kA.size)
  clear e1 dA k0
  generalize wA.drew = w1 at kA cA h1 E1 ⊢
  have HC := Lib.hid (canMem_lo D.h.call.a hn h1.o E1)
  rw [hv] at HC
  go_wp2_with fail
  go_at_call 74; refine HC.out.mono ?_; rintro e w2 ⟨rfl, hb⟩
  have h2 := h1.below hb
  have E2 := E1.below hb
  have c2 := b_block hb cA (lt_of_block cA)
  have k2 := kA.trans (hb.mono kA.size)
  clear HC h1 E1 hb hv cA kA
  have e1 : w2.cell? ⟨w.heap.size, 1, none⟩ = some (.int .i64 D.h.call.a) := cell_of_block c2 1
  have e2 : w2.cell? ⟨w.heap.size, 2, none⟩ = some (.int .i64 D.h.call.b) := cell_of_block c2 2
  clear e1 e2
  obtain ⟨gb, gs, gn, ⟨cb, tb, ob⟩, ⟨cs, ts, os⟩, ⟨cn, tn, on⟩, bs, bn, sn⟩ := E2
  have E2 : ErrsLo w2 eb es en := ⟨gb, gs, gn, ⟨cb, tb, ob⟩, ⟨cs, ts, os⟩, ⟨cn, tn, on⟩, bs, bn, sn⟩
  go_wp2_with fail
  go_at_call 76; refine (is_absent sn w2 on os).mono ?_; rintro e w4 ⟨rfl, hb⟩
  have h4 := h2.below hb
  have E4 := E2.below hb
  have c4 := b_block hb c2 (lt_of_block c2)
  have k4 := k2.trans (hb.mono k2.size)
  clear gb gs gn ob os on E2 h2 c2 k2 hb
  obtain ⟨gb, gs, gn, ⟨cb, tb, ob⟩, ⟨cs, ts, os⟩, ⟨cn, tn, on⟩, bs, bn, sn⟩ := E4
  have E4 : ErrsLo w4 eb es en := ⟨gb, gs, gn, ⟨cb, tb, ob⟩, ⟨cs, ts, os⟩, ⟨cn, tn, on⟩, bs, bn, sn⟩
  go_wp2_with fail
  go_at_call 76; refine (is_absent bn w4 on ob).mono ?_; rintro e w5 ⟨rfl, hb⟩
  have h5 := h4.below hb
  have E5 := E4.below hb
  have c5 := b_block hb c4 (lt_of_block c4)
  have k5 := k4.trans (hb.mono k4.size)
  clear gb gs gn ob os on E4 h4 c4 k4 hb
  have HR := Lib.hid (reply_any 5 0 (Nat.le_trans hB k5.size) h5)
  clear h5
  go_wp2_with (go_at_call 78; refine HR.out.mono ?_; rintro e w7 ⟨rfl, h7, k7⟩)
  first | go_end0 | refine bodyPost_ret (results_none rfl _ _ _) rfl ?_
  exact ⟨rfl, h7, (Wd.of_new k5 hB).trans k7⟩

set_option maxRecDepth 100000 in
set_option maxHeartbeats 4000000 in
theorem rlook_busy {w : World} {B mb db : Nat} {a b c d : Int} {D : Dn} {eb es en : Addr} (hE : ErrsLo w eb es en) (hB : B ≤ w.heap.size) (hn : D.m.tn ≤ 1048576) (hc : D.h.call.code = 3) (ht : hasT D.m D.h.call.a = true) (hst : ¬ ((D.m.t D.h.call.a.toNat).st = 1 ∨ (D.m.t D.h.call.a.toNat).st = 3 ∨ (D.m.t D.h.call.a.toNat).st = 4)) (hbu : ((D.m.t D.h.call.a.toNat).st = 2 ∨ (D.m.t D.h.call.a.toNat).st = 6)) (h : DeedX w B mb db a b c d D) :
    Calls Tryz.prog 60 #[ptrV db] w fun e w' => e = .returned (.tuple #[]) ∧ InD B mb db a b c d (D) w w' := by
  obtain ⟨d0, _, _, d3, d4, d5, d6, _, _, _⟩ := h.cells
  rw [hc] at d3
  have hv : canM eb es en D.m D.h.call.a = seI (D.m.t D.h.call.a.toNat).st eb := by unfold canM canV; rw [if_pos ht, if_neg hst, if_pos hbu]
  have cA := heap_alloc_new w (.cells #[.int .i64 3, .int .i64 D.h.call.a, .int .i64 D.h.call.b, .int .i64 D.h.call.c] 37)
  have kA := (Below.refl w.heap.size w).alloc (Nat.le_refl _) (.cells #[.int .i64 3, .int .i64 D.h.call.a, .int .i64 D.h.call.b, .int .i64 D.h.call.c] 37)
  have h1 := h.below kA
  have E1 := hE.below kA
  go_enter Tryz.func60, Tryz.ntmps60
  go_upto_region 3 with fail
  clear d0 d3 d4 d5 d6 h hE
  generalize w.alloc (.cells #[.int .i64 3, .int .i64 D.h.call.a, .int .i64 D.h.call.b, .int .i64 D.h.call.c] 37) = wA at kA cA h1 E1 ⊢
  have k0 := (Below.refl wA.heap.size wA).drew
  have e1 : wA.cell? ⟨w.heap.size, 1, none⟩ = some (.int .i64 D.h.call.a) := cell_of_block cA 1
  obtain ⟨dA, _⟩ := h1.cells
  go_still_tail 6, (by kernel_rfl)
  change wpList _ _ _ _ _ wA.drew
  replace h1 := h1.below k0
  replace E1 := E1.below k0
  replace cA := b_block k0 cA (lt_of_block cA)
  replace kA := kA.trans (k0.mono kA.size)
  clear e1 dA k0
  generalize wA.drew = w1 at kA cA h1 E1 ⊢
  have HC := Lib.hid (canMem_lo D.h.call.a hn h1.o E1)
  rw [hv] at HC
  go_wp2_with fail
  go_at_call 74; refine HC.out.mono ?_; rintro e w2 ⟨rfl, hb⟩
  have h2 := h1.below hb
  have E2 := E1.below hb
  have c2 := b_block hb cA (lt_of_block cA)
  have k2 := kA.trans (hb.mono kA.size)
  clear HC h1 E1 hb hv cA kA
  have e1 : w2.cell? ⟨w.heap.size, 1, none⟩ = some (.int .i64 D.h.call.a) := cell_of_block c2 1
  have e2 : w2.cell? ⟨w.heap.size, 2, none⟩ = some (.int .i64 D.h.call.b) := cell_of_block c2 2
  clear e1 e2
  obtain ⟨gb, gs, gn, ⟨cb, tb, ob⟩, ⟨cs, ts, os⟩, ⟨cn, tn, on⟩, bs, bn, sn⟩ := E2
  have E2 : ErrsLo w2 eb es en := ⟨gb, gs, gn, ⟨cb, tb, ob⟩, ⟨cs, ts, os⟩, ⟨cn, tn, on⟩, bs, bn, sn⟩
  go_wp2_with fail
  go_at_call 76; refine (is_other (D.m.t D.h.call.a.toNat).st (fun e => bs e.symm) w2 ob os).mono ?_; rintro e w4 ⟨rfl, hb⟩
  have h4 := h2.below hb
  have E4 := E2.below hb
  have c4 := b_block hb c2 (lt_of_block c2)
  have k4 := k2.trans (hb.mono k2.size)
  clear gb gs gn ob os on E2 h2 c2 k2 hb
  obtain ⟨gb, gs, gn, ⟨cb, tb, ob⟩, ⟨cs, ts, os⟩, ⟨cn, tn, on⟩, bs, bn, sn⟩ := E4
  have E4 : ErrsLo w4 eb es en := ⟨gb, gs, gn, ⟨cb, tb, ob⟩, ⟨cs, ts, os⟩, ⟨cn, tn, on⟩, bs, bn, sn⟩
  go_wp2_with fail
  go_at_call 76; refine (is_same (D.m.t D.h.call.a.toNat).st eb w4).mono ?_; rintro e w5 ⟨rfl, hb⟩
  have h5 := h4.below hb
  have E5 := E4.below hb
  have c5 := b_block hb c4 (lt_of_block c4)
  have k5 := k4.trans (hb.mono k4.size)
  clear gb gs gn ob os on E4 h4 c4 k4 hb
  go_wp2
  first | go_end0 | refine bodyPost_ret (results_none rfl _ _ _) rfl ?_
  exact ⟨rfl, h5, .of_new k5 hB⟩

set_option maxRecDepth 100000 in
set_option maxHeartbeats 4000000 in
theorem rlook_out {w : World} {B mb db t : Nat} {a b c d : Int} {D : Dn} {eb es en : Addr} (hE : ErrsLo w eb es en) (hB : B ≤ w.heap.size) (hn : D.m.tn ≤ 1048576) (hc : D.h.call.code = 3) (ht : t < D.m.tn) (hca : D.h.call.a = (t : Int)) (hst : ¬ ((D.m.t t).st = 1 ∨ (D.m.t t).st = 3 ∨ (D.m.t t).st = 4)) (hbu : ¬ ((D.m.t t).st = 2 ∨ (D.m.t t).st = 6)) (hs : ¬ (D.m.t t).st = 5) (h : DeedX w B mb db a b c d D) :
    Calls Tryz.prog 60 #[ptrV db] w fun e w' => e = .returned (.tuple #[]) ∧ InD B mb db a b c d (aimedD (outD D t) t D.h.call.b) w w' := by
  obtain ⟨d0, _, _, d3, d4, d5, d6, _, _, _⟩ := h.cells
  rw [hc] at d3
  have hv : canM eb es en D.m D.h.call.a = seI (D.m.t t).st es := by unfold canM canV; rw [if_pos (show hasT D.m D.h.call.a = true by rw [hca]; exact inB_iff.2 ⟨by omega, by omega⟩), show D.h.call.a.toNat = t by omega, if_neg hst, if_neg hbu]
  have HCA := Lib.hid hca
  clear hca
  have cA := heap_alloc_new w (.cells #[.int .i64 3, .int .i64 D.h.call.a, .int .i64 D.h.call.b, .int .i64 D.h.call.c] 37)
  have kA := (Below.refl w.heap.size w).alloc (Nat.le_refl _) (.cells #[.int .i64 3, .int .i64 D.h.call.a, .int .i64 D.h.call.b, .int .i64 D.h.call.c] 37)
  have h1 := h.below kA
  have E1 := hE.below kA
  go_enter Tryz.func60, Tryz.ntmps60
  go_upto_region 3 with fail
  clear d0 d3 d4 d5 d6 h hE
  generalize w.alloc (.cells #[.int .i64 3, .int .i64 D.h.call.a, .int .i64 D.h.call.b, .int .i64 D.h.call.c] 37) = wA at kA cA h1 E1 ⊢
  have k0 := (Below.refl wA.heap.size wA).drew
  have e1 : wA.cell? ⟨w.heap.size, 1, none⟩ = some (.int .i64 D.h.call.a) := cell_of_block cA 1
  obtain ⟨dA, _⟩ := h1.cells
  go_still_tail 6, (by kernel_rfl)
  change wpList _ _ _ _ _ wA.drew
  replace h1 := h1.below k0
  replace E1 := E1.below k0
  replace cA := b_block k0 cA (lt_of_block cA)
  replace kA := kA.trans (k0.mono kA.size)
  clear e1 dA k0
  generalize wA.drew = w1 at kA cA h1 E1 ⊢
  have HC := Lib.hid (canMem_lo D.h.call.a hn h1.o E1)
  rw [hv] at HC
  go_wp2_with fail
  go_at_call 74; refine HC.out.mono ?_; rintro e w2 ⟨rfl, hb⟩
  have h2 := h1.below hb
  have E2 := E1.below hb
  have c2 := b_block hb cA (lt_of_block cA)
  have k2 := kA.trans (hb.mono kA.size)
  clear HC h1 E1 hb hv cA kA
  have e1 : w2.cell? ⟨w.heap.size, 1, none⟩ = some (.int .i64 D.h.call.a) := cell_of_block c2 1
  have e2 : w2.cell? ⟨w.heap.size, 2, none⟩ = some (.int .i64 D.h.call.b) := cell_of_block c2 2
  clear e1 e2
  obtain ⟨gb, gs, gn, ⟨cb, tb, ob⟩, ⟨cs, ts, os⟩, ⟨cn, tn, on⟩, bs, bn, sn⟩ := E2
  have E2 : ErrsLo w2 eb es en := ⟨gb, gs, gn, ⟨cb, tb, ob⟩, ⟨cs, ts, os⟩, ⟨cn, tn, on⟩, bs, bn, sn⟩
  go_wp2_with fail
  go_at_call 76; refine (is_same (D.m.t t).st es w2).mono ?_; rintro e w4 ⟨rfl, hb⟩
  have h4 := h2.below hb
  have E4 := E2.below hb
  have c4 := b_block hb c2 (lt_of_block c2)
  have k4 := k2.trans (hb.mono k2.size)
  clear gb gs gn ob os on E2 h2 c2 k2 hb
  have e1 : w4.cell? ⟨w.heap.size, 1, none⟩ = some (.int .i64 D.h.call.a) := cell_of_block c4 1
  have hB4 := Nat.le_trans hB k4.size
  have HK := Lib.hid (rouseD_no hB4 ht hs h4)
  rw [← HCA.out] at HK
  clear E4 h4
  go_wp2_with fail
  go_at_call 84; refine HK.out.mono ?_; rintro e w5 ⟨rfl, h5, kd5⟩
  rw [HCA.out] at h5
  have c5 := kd5.kept c4 (by decide)
  have k5 := (Wd.of_new k4 hB).trans kd5
  have e2 : w5.cell? ⟨w.heap.size, 2, none⟩ = some (.int .i64 D.h.call.b) := cell_of_block c5 2
  have hB5 := Nat.le_trans hB4 kd5.below.size
  have HA := Lib.hid (aimD_any (D := (outD D t)) (t := t) hB5 ht rfl D.h.call.b h5)
  clear h5 c4 c5 k4 kd5 e1 HK
  go_wp2_with (go_at_call 83; refine HA.out.mono ?_; rintro e w6 ⟨rfl, h6, k6⟩)
  first | go_end0 | refine bodyPost_ret (results_none rfl _ _ _) rfl ?_
  exact ⟨rfl, h6, k5.trans k6⟩

set_option maxRecDepth 100000 in
set_option maxHeartbeats 4000000 in
theorem rlook_deleted {w : World} {B mb db t k : Nat} {a b c d : Int} {D : Dn} {eb es en : Addr} (hE : ErrsLo w eb es en) (hB : B ≤ w.heap.size) (hn : D.m.tn ≤ 1048576) (hc : D.h.call.code = 3) (ht : t < D.m.tn) (hca : D.h.call.a = (t : Int)) (hst : ¬ ((D.m.t t).st = 1 ∨ (D.m.t t).st = 3 ∨ (D.m.t t).st = 4)) (hbu : ¬ ((D.m.t t).st = 2 ∨ (D.m.t t).st = 6)) (hs : (D.m.t t).st = 5) (hpk : (D.m.t t).pl = (k : Int)) (hk : k < D.m.pn) (hd0 : 0 ≤ (D.m.p k).d) (hd1 : (D.m.p k).d ≤ 1000) (h : DeedX w B mb db a b c d D) :
    Calls Tryz.prog 60 #[ptrV db] w fun e w' => e = .returned (.tuple #[]) ∧ InD B mb db a b c d (aimedD (rousedD D t k) t D.h.call.b) w w' := by
  obtain ⟨d0, _, _, d3, d4, d5, d6, _, _, _⟩ := h.cells
  rw [hc] at d3
  have hv : canM eb es en D.m D.h.call.a = seI (D.m.t t).st es := by unfold canM canV; rw [if_pos (show hasT D.m D.h.call.a = true by rw [hca]; exact inB_iff.2 ⟨by omega, by omega⟩), show D.h.call.a.toNat = t by omega, if_neg hst, if_neg hbu]
  have HCA := Lib.hid hca
  clear hca
  have HS := Lib.hid hs
  have HPK := Lib.hid hpk
  clear hs hpk
  have cA := heap_alloc_new w (.cells #[.int .i64 3, .int .i64 D.h.call.a, .int .i64 D.h.call.b, .int .i64 D.h.call.c] 37)
  have kA := (Below.refl w.heap.size w).alloc (Nat.le_refl _) (.cells #[.int .i64 3, .int .i64 D.h.call.a, .int .i64 D.h.call.b, .int .i64 D.h.call.c] 37)
  have h1 := h.below kA
  have E1 := hE.below kA
  go_enter Tryz.func60, Tryz.ntmps60
  go_upto_region 3 with fail
  clear d0 d3 d4 d5 d6 h hE
  generalize w.alloc (.cells #[.int .i64 3, .int .i64 D.h.call.a, .int .i64 D.h.call.b, .int .i64 D.h.call.c] 37) = wA at kA cA h1 E1 ⊢
  have k0 := (Below.refl wA.heap.size wA).drew
  have e1 : wA.cell? ⟨w.heap.size, 1, none⟩ = some (.int .i64 D.h.call.a) := cell_of_block cA 1
  obtain ⟨dA, _⟩ := h1.cells
  go_still_tail 6, (by kernel_rfl)
  change wpList _ _ _ _ _ wA.drew
  replace h1 := h1.below k0
  replace E1 := E1.below k0
  replace cA := b_block k0 cA (lt_of_block cA)
  replace kA := kA.trans (k0.mono kA.size)
  clear e1 dA k0
  generalize wA.drew = w1 at kA cA h1 E1 ⊢
  have HC := Lib.hid (canMem_lo D.h.call.a hn h1.o E1)
  rw [hv] at HC
  go_wp2_with fail
  go_at_call 74; refine HC.out.mono ?_; rintro e w2 ⟨rfl, hb⟩
  have h2 := h1.below hb
  have E2 := E1.below hb
  have c2 := b_block hb cA (lt_of_block cA)
  have k2 := kA.trans (hb.mono kA.size)
  clear HC h1 E1 hb hv cA kA
  have e1 : w2.cell? ⟨w.heap.size, 1, none⟩ = some (.int .i64 D.h.call.a) := cell_of_block c2 1
  have e2 : w2.cell? ⟨w.heap.size, 2, none⟩ = some (.int .i64 D.h.call.b) := cell_of_block c2 2
  clear e1 e2
  obtain ⟨gb, gs, gn, ⟨cb, tb, ob⟩, ⟨cs, ts, os⟩, ⟨cn, tn, on⟩, bs, bn, sn⟩ := E2
  have E2 : ErrsLo w2 eb es en := ⟨gb, gs, gn, ⟨cb, tb, ob⟩, ⟨cs, ts, os⟩, ⟨cn, tn, on⟩, bs, bn, sn⟩
  go_wp2_with fail
  go_at_call 76; refine (is_same (D.m.t t).st es w2).mono ?_; rintro e w4 ⟨rfl, hb⟩
  have h4 := h2.below hb
  have E4 := E2.below hb
  have c4 := b_block hb c2 (lt_of_block c2)
  have k4 := k2.trans (hb.mono k2.size)
  clear gb gs gn ob os on E2 h2 c2 k2 hb
  have e1 : w4.cell? ⟨w.heap.size, 1, none⟩ = some (.int .i64 D.h.call.a) := cell_of_block c4 1
  have hB4 := Nat.le_trans hB k4.size
  have HK := Lib.hid (rouseD_yes hB4 ht HS.out HPK.out hk hd0 hd1 h4)
  rw [← HCA.out] at HK
  clear E4 h4
  go_wp2_with fail
  go_at_call 84; refine HK.out.mono ?_; rintro e w5 ⟨rfl, h5, kd5⟩
  rw [HCA.out] at h5
  have c5 := kd5.kept c4 (by decide)
  have k5 := (Wd.of_new k4 hB).trans kd5
  have e2 : w5.cell? ⟨w.heap.size, 2, none⟩ = some (.int .i64 D.h.call.b) := cell_of_block c5 2
  have hB5 := Nat.le_trans hB4 kd5.below.size
  have HA := Lib.hid (aimD_any (D := (rousedD D t k)) (t := t) hB5 ht rfl D.h.call.b h5)
  clear h5 c4 c5 k4 kd5 e1 HK
  go_wp2_with (go_at_call 83; refine HA.out.mono ?_; rintro e w6 ⟨rfl, h6, k6⟩)
  first | go_end0 | refine bodyPost_ret (results_none rfl _ _ _) rfl ?_
  exact ⟨rfl, h6, k5.trans k6⟩

set_option maxRecDepth 100000 in
set_option maxHeartbeats 4000000 in
theorem rlook_yes {w : World} {B mb db t : Nat} {a b c d : Int} {D : Dn} {eb es en : Addr} (hE : ErrsLo w eb es en) (hB : B ≤ w.heap.size) (hn : D.m.tn ≤ 1048576) (hc : D.h.call.code = 3) (ht : t < D.m.tn) (hca : D.h.call.a = (t : Int)) (hst : (D.m.t t).st = 1 ∨ (D.m.t t).st = 3 ∨ (D.m.t t).st = 4) (h : DeedX w B mb db a b c d D) :
    Calls Tryz.prog 60 #[ptrV db] w fun e w' => e = .returned (.tuple #[]) ∧ InD B mb db a b c d (aimedD (hadD D t) t D.h.call.b) w w' := by
  obtain ⟨d0, _, _, d3, d4, d5, d6, _, _, _⟩ := h.cells
  rw [hc] at d3
  have hv : canM eb es en D.m D.h.call.a = .nilIface := by unfold canM canV; rw [if_pos (show hasT D.m D.h.call.a = true by rw [hca]; exact inB_iff.2 ⟨by omega, by omega⟩), show D.h.call.a.toNat = t by omega, if_pos hst]
  have HCA := Lib.hid hca
  clear hca
  have cA := heap_alloc_new w (.cells #[.int .i64 3, .int .i64 D.h.call.a, .int .i64 D.h.call.b, .int .i64 D.h.call.c] 37)
  have kA := (Below.refl w.heap.size w).alloc (Nat.le_refl _) (.cells #[.int .i64 3, .int .i64 D.h.call.a, .int .i64 D.h.call.b, .int .i64 D.h.call.c] 37)
  have h1 := h.below kA
  have E1 := hE.below kA
  go_enter Tryz.func60, Tryz.ntmps60
  go_upto_region 3 with fail
  clear d0 d3 d4 d5 d6 h hE
  generalize w.alloc (.cells #[.int .i64 3, .int .i64 D.h.call.a, .int .i64 D.h.call.b, .int .i64 D.h.call.c] 37) = wA at kA cA h1 E1 ⊢
  have k0 := (Below.refl wA.heap.size wA).drew
  have e1 : wA.cell? ⟨w.heap.size, 1, none⟩ = some (.int .i64 D.h.call.a) := cell_of_block cA 1
  obtain ⟨dA, _⟩ := h1.cells
  go_still_tail 6, (by kernel_rfl)
  change wpList _ _ _ _ _ wA.drew
  replace h1 := h1.below k0
  replace E1 := E1.below k0
  replace cA := b_block k0 cA (lt_of_block cA)
  replace kA := kA.trans (k0.mono kA.size)
  clear e1 dA k0
  generalize wA.drew = w1 at kA cA h1 E1 ⊢
  have HC := Lib.hid (canMem_lo D.h.call.a hn h1.o E1)
  rw [hv] at HC
  go_wp2_with fail
  go_at_call 74; refine HC.out.mono ?_; rintro e w2 ⟨rfl, hb⟩
  have h2 := h1.below hb
  have E2 := E1.below hb
  have c2 := b_block hb cA (lt_of_block cA)
  have k2 := kA.trans (hb.mono kA.size)
  clear HC h1 E1 hb hv cA kA
  have e1 : w2.cell? ⟨w.heap.size, 1, none⟩ = some (.int .i64 D.h.call.a) := cell_of_block c2 1
  have e2 : w2.cell? ⟨w.heap.size, 2, none⟩ = some (.int .i64 D.h.call.b) := cell_of_block c2 2
  clear e2
  have hB2 := Nat.le_trans hB k2.size
  have HK := Lib.hid (cancelD_any hB2 ht h2)
  rw [← HCA.out] at HK
  clear E2 h2
  go_wp2_with fail
  go_at_call 75; refine HK.out.mono ?_; rintro e w4 ⟨rfl, h4, kd4⟩
  have c4 := kd4.kept c2 (by decide)
  have k4 := (Wd.of_new k2 hB).trans kd4
  clear c2 k2 kd4 HK e1
  have f9 : w4.cell? ⟨db, 9, none⟩ = some _ := cell_of_block h4.e 9
  have f0 := unfrozen_of_block h4.e 9
  go_upto_region 8 with fail
  have h5 := h4.setHad true
  have kd5 := (Wd.refl B w4).setD h4 9 (.bool true)
  have c5 := kd5.kept c4 (by decide)
  have k5 := k4.trans kd5
  clear h4 c4 k4 kd5 f9 f0
  generalize w4.setCell ⟨db, 9, none⟩ (.bool true) = w5 at h5 c5 k5 ⊢
  have e2 : w5.cell? ⟨w.heap.size, 2, none⟩ = some (.int .i64 D.h.call.b) := cell_of_block c5 2
  have HA := Lib.hid (aimD_any (D := (hadD D t)) (t := t) (Nat.le_trans hB k5.below.size) ht rfl D.h.call.b h5)
  clear h5 c5
  go_wp2_with (go_at_call 83; refine HA.out.mono ?_; rintro e w6 ⟨rfl, h6, k6⟩)
  first | go_end0 | refine bodyPost_ret (results_none rfl _ _ _) rfl ?_
  exact ⟨rfl, h6, k5.trans k6⟩

set_option maxRecDepth 100000 in
set_option maxHeartbeats 4000000 in
theorem rlook_code {w : World} {B mb db : Nat} {a b c d : Int} {D : Dn} (hB : B ≤ w.heap.size) (hc : ¬ D.h.call.code = 3) (h : DeedX w B mb db a b c d D) :
    Calls Tryz.prog 60 #[ptrV db] w (GaveUp B w) := by
  obtain ⟨d0, _, _, d3, d4, d5, d6, _, _, _⟩ := h.cells
  have hc1 : (D.h.call.code != 3) = true := by simpa using hc
  have kC := (Below.refl w.heap.size w).alloc (Nat.le_refl _) (.cells #[.int .i64 D.h.call.code, .int .i64 D.h.call.a, .int .i64 D.h.call.b, .int .i64 D.h.call.c] 37)
  clear h
  go_enter Tryz.func60, Tryz.ntmps60
  go_wp2_with (go_at_call 50; refine (giveUp_any _).mono ?_; rintro e w1 ⟨⟨u, pv, rfl⟩, rfl⟩)
  exact ⟨rfl, ⟨_, _, rfl⟩, kC.mono hB⟩

set_option maxRecDepth 100000 in
set_option maxHeartbeats 4000000 in
theorem keyD_none {w : World} {B mb db : Nat} {a b c d : Int} {D : Dn} (hB : B ≤ w.heap.size) (ht : D.h.tim = -1) (h : DeedX w B mb db a b c d D) :
    Calls Tryz.prog 61 #[ptrV db] w (GaveUp B w) := by
  have HI := Lib.hid (inHand_none hB ht h)
  clear h
  go_enter Tryz.func61, Tryz.ntmps61
  go_wp2_with (go_at_call 79; refine HI.out.mono ?_; rintro e w1 ⟨⟨u, pv, rfl⟩, hb⟩)
  exact ⟨rfl, ⟨_, _, rfl⟩, hb⟩

set_option maxRecDepth 100000 in
set_option maxHeartbeats 4000000 in
theorem keyD_no {w : World} {B mb db t : Nat} {a b c d : Int} {D : Dn} (hB : B ≤ w.heap.size) (ht : t < D.m.tn) (het : D.h.tim = (t : Int)) (hq : ¬ ((D.m.t t).st = 2 ∧ (D.m.t t).pl ≠ -1)) (h : DeedX w B mb db a b c d D) :
    Calls Tryz.prog 61 #[ptrV db] w (GaveUp B w) := by
  have HI := Lib.hid (inHand_no hB ht het hq h)
  clear h
  go_enter Tryz.func61, Tryz.ntmps61
  go_wp2_with (go_at_call 79; refine HI.out.mono ?_; rintro e w1 ⟨⟨u, pv, rfl⟩, hb⟩)
  exact ⟨rfl, ⟨_, _, rfl⟩, hb⟩

end Go.Proofs.YtflekodaiejflaaGreatDoor

/-
  The program's setting anew: a step (chapter 11).
-/
namespace Go.Proofs.YtflekodaiejflaaGreatDoor
open Go.RowKit Go.Joins
set_option linter.unusedVariables false
set_option linter.unusedSimpArgs false

theorem effT_set2 {t : Tm} (h : t.st = 1 ∨ t.st = 3 ∨ t.st = 4) : effT t = setToT t := by
  unfold effT setToT
  rcases h with h | h | h <;> simp [h]
theorem effT_pos2 {a b c : Int} {t : Tm} (h : timerB a b c t = true) (hst : t.st = 1 ∨ t.st = 3 ∨ t.st = 4) : 0 ≤ effT t := by
  simp only [timerB, Bool.and_eq_true] at h
  obtain ⟨_, _, hw, hn, _⟩ := h
  have h1 := (inB_iff.1 hw).1
  have h2 := (inB_iff.1 hn).1
  unfold effT
  rcases hst with h | h | h <;> simp [h] <;> assumption
/-- where a timer stands, by its word -/
theorem place_of {a b c : Int} {t : Tm} (h : timerB a b c t = true) : ((t.st = 1 ∨ t.st = 3 ∨ t.st = 4 ∨ t.st = 5) → ¬ t.pl = -1) ∧ (¬ (t.st = 1 ∨ t.st = 3 ∨ t.st = 4 ∨ t.st = 5) → ¬ (t.st = 2 ∨ t.st = 6) → t.pl = -1) := by
  simp only [timerB, placeB, Bool.and_eq_true] at h
  have hst := inB_iff.1 h.2.1
  have hp' := h.2.2.2.2.2.2.2.2.1
  refine ⟨fun hs e => ?_, fun hn h2 => ?_⟩
  · have hin : inHeapB t.st = true := by
      unfold inHeapB
      rcases hs with hs | hs | hs | hs <;> rw [hs] <;> rfl
    rw [hin] at hp'
    have hpr : procB a b c t.pl = true := by simpa using hp'
    have := (procB_iff.1 hpr).2
    omega
  · have hin : inHeapB t.st = false := by
      have : t.st = 0 ∨ t.st = 7 := by omega
      unfold inHeapB
      rcases this with e | e <;> rw [e] <;> rfl
    rw [hin] at hp'
    simp at hp'
    rcases hp' with e | e
    · exact e
    · exact absurd (.inl e.1) h2

set_option maxRecDepth 100000 in
set_option maxHeartbeats 4000000 in
theorem reset_5 {w : World} {B mb db : Nat} {a b c d : Int} {D D2 : Dn} (hp : D.h.pos = 5) (HL : RowKit.Hid (Calls Tryz.prog 60 #[ptrV db] w fun e w' => e = .returned (.tuple #[]) ∧ InD B mb db a b c d D2 w w')) (h : DeedX w B mb db a b c d D) :
    Calls Tryz.prog 36 #[ptrV db] w fun e w' => e = .returned (.tuple #[]) ∧ InD B mb db a b c d D2 w w' := by
  obtain ⟨_, _, d2, _, _, _, _, _, _, _⟩ := h.cells
  replace d2 : w.cell? ⟨db, 2, none⟩ = some (.int .i64 5) := hp ▸ d2
  clear hp h
  go_enter Tryz.func36, Tryz.ntmps36
  go_wp2_with (go_at_call 60; refine HL.out.mono ?_; rintro e w2 ⟨rfl, hi⟩)
  first | go_end0 | refine bodyPost_ret (results_none rfl _ _ _) rfl ?_
  exact ⟨rfl, hi⟩
set_option maxRecDepth 100000 in
set_option maxHeartbeats 4000000 in
theorem reset_5n {w : World} {B mb db : Nat} {a b c d : Int} {D : Dn} (hp : D.h.pos = 5) (HL : RowKit.Hid (Calls Tryz.prog 60 #[ptrV db] w (GaveUp B w))) (h : DeedX w B mb db a b c d D) :
    Calls Tryz.prog 36 #[ptrV db] w (GaveUp B w) := by
  obtain ⟨_, _, d2, _, _, _, _, _, _, _⟩ := h.cells
  replace d2 : w.cell? ⟨db, 2, none⟩ = some (.int .i64 5) := hp ▸ d2
  clear hp h
  go_enter Tryz.func36, Tryz.ntmps36
  go_wp2_with (go_at_call 60; refine HL.out.mono ?_; rintro e w2 ⟨⟨u, pv, rfl⟩, hi⟩)
  exact ⟨rfl, ⟨_, _, rfl⟩, hi⟩

set_option maxRecDepth 100000 in
set_option maxHeartbeats 4000000 in
theorem reset_7 {w : World} {B mb db : Nat} {a b c d : Int} {D D2 : Dn} (hp : D.h.pos = 7) (HL : RowKit.Hid (Calls Tryz.prog 61 #[ptrV db] w fun e w' => e = .returned (.tuple #[]) ∧ InD B mb db a b c d D2 w w')) (h : DeedX w B mb db a b c d D) :
    Calls Tryz.prog 36 #[ptrV db] w fun e w' => e = .returned (.tuple #[]) ∧ InD B mb db a b c d D2 w w' := by
  obtain ⟨_, _, d2, _, _, _, _, _, _, _⟩ := h.cells
  replace d2 : w.cell? ⟨db, 2, none⟩ = some (.int .i64 7) := hp ▸ d2
  clear hp h
  go_enter Tryz.func36, Tryz.ntmps36
  go_wp2_with (go_at_call 61; refine HL.out.mono ?_; rintro e w2 ⟨rfl, hi⟩)
  first | go_end0 | refine bodyPost_ret (results_none rfl _ _ _) rfl ?_
  exact ⟨rfl, hi⟩
set_option maxRecDepth 100000 in
set_option maxHeartbeats 4000000 in
theorem reset_7n {w : World} {B mb db : Nat} {a b c d : Int} {D : Dn} (hp : D.h.pos = 7) (HL : RowKit.Hid (Calls Tryz.prog 61 #[ptrV db] w (GaveUp B w))) (h : DeedX w B mb db a b c d D) :
    Calls Tryz.prog 36 #[ptrV db] w (GaveUp B w) := by
  obtain ⟨_, _, d2, _, _, _, _, _, _, _⟩ := h.cells
  replace d2 : w.cell? ⟨db, 2, none⟩ = some (.int .i64 7) := hp ▸ d2
  clear hp h
  go_enter Tryz.func36, Tryz.ntmps36
  go_wp2_with (go_at_call 61; refine HL.out.mono ?_; rintro e w2 ⟨⟨u, pv, rfl⟩, hi⟩)
  exact ⟨rfl, ⟨_, _, rfl⟩, hi⟩
set_option maxRecDepth 100000 in
set_option maxHeartbeats 4000000 in
theorem reset_x {w : World} {B mb db : Nat} {a b c d : Int} {D : Dn} (n1 : ¬ D.h.pos = 5) (n2 : ¬ D.h.pos = 7) (h : DeedX w B mb db a b c d D) :
    Calls Tryz.prog 36 #[ptrV db] w (GaveUp B w) := by
  obtain ⟨_, _, d2, _, _, _, _, _, _, _⟩ := h.cells
  have b1 : (D.h.pos == 5) = false := by simpa using n1
  have b2 : (D.h.pos == 7) = false := by simpa using n2
  clear h
  go_enter Tryz.func36, Tryz.ntmps36
  go_wp2_with (go_at_call 50; refine (giveUp_any _).mono ?_; rintro e w1 ⟨⟨u, pv, rfl⟩, rfl⟩)
  exact ⟨rfl, ⟨_, _, rfl⟩, Below.refl _ _⟩

theorem early_of {a b c d : Int} {M : Me} {h : Hd} (hq : stepFit a b c d M h = true) : ∀ k, k < M.pn → -1 ≤ (M.p k).e := by
  intro k hk
  rw [stepFit, Bool.and_eq_true] at hq
  have hm := hq.1
  simp only [memOkB, Bool.and_eq_true] at hm
  obtain ⟨_, _, _, _, ha, _⟩ := hm
  have h1 := allB_at ha k hk
  simp only [agreeB, procOkB, Bool.and_eq_true, Bool.or_eq_true, beq_iff_eq] at h1
  obtain ⟨⟨_, _, _, he, _⟩, _⟩ := h1
  rcases he with e | e
  · omega
  · have := inB_iff.1 e; omega
theorem aimedH_eq {D : Dn} {t : Nat} {x q : Int} (hp : (if (D.m.t t).pl = -1 then (2 : Int) else 7) = q) : aimedH D t x = { D.h with whe := afterI D.m.c x, pos := q } := by
  unfold aimedH; rw [hp]

theorem rlook_does {w : World} {B mb db : Nat} {a b c d : Int} {D : Dn} {eb es en : Addr} (hE : ErrsLo w eb es en) (hB : B ≤ w.heap.size) (hn : D.m.tn ≤ 1048576) (hc : D.h.call.code = 3) (ht : ∀ i, i < D.m.tn → timerB a b c (D.m.t i) = true) (hpl : ∀ i, i < D.m.tn → (D.m.t i).pl ≠ -1 → ∃ k : Nat, k < D.m.pn ∧ (D.m.t i).pl = (k : Int)) (hdl : ∀ k, k < D.m.pn → 0 ≤ (D.m.p k).d ∧ (D.m.p k).d ≤ 1000) (h : DeedX w B mb db a b c d D) :
    Calls Tryz.prog 60 #[ptrV db] w fun e w' => e = .returned (.tuple #[]) ∧ InD B mb db a b c d (resetLookD D) w w' := by
  cases hh : hasT D.m D.h.call.a
  · rw [show resetLookD D = ⟨D.m, restHd 5 0, D.v⟩ by unfold resetLookD; rw [hh]; rfl]
    exact rlook_absent hE hB hn hc hh h
  have h01 := inB_iff.1 (show inB D.h.call.a 0 ((D.m.tn : Int) - 1) = true from hh)
  obtain ⟨t, hca⟩ : ∃ t : Nat, D.h.call.a = (t : Int) := ⟨D.h.call.a.toNat, by omega⟩
  have et : D.h.call.a.toNat = t := by omega
  have hk : t < D.m.tn := by omega
  have hP := place_of (ht _ hk)
  by_cases h1 : (D.m.t t).st = 1 ∨ (D.m.t t).st = 3 ∨ (D.m.t t).st = 4
  · have h2 : ¬ ((D.m.t t).st = 2 ∨ (D.m.t t).st = 6) := by omega
    have hp : ¬ (D.m.t t).pl = -1 := hP.1 (by omega)
    rw [show resetLookD D = aimedD (hadD D t) t D.h.call.b by
      unfold resetLookD
      rw [if_pos hh]
      simp only [et]
      unfold aimedD
      rw [if_neg h2, if_pos h1, aimedH_eq (q := 7) (by
        show (if ((setTm D.m t 0 2).t t).pl = -1 then (2 : Int) else 7) = 7
        rw [setTm_at]; exact if_neg hp)]
      unfold claimD
      rw [if_pos (effT_pos2 (ht _ hk) h1), effT_set2 h1]
      rfl]
    exact rlook_yes hE hB hn hc hk hca h1 h
  by_cases h2 : (D.m.t t).st = 2 ∨ (D.m.t t).st = 6
  · rw [show resetLookD D = D by unfold resetLookD; rw [if_pos hh]; simp only [et]; rw [if_pos h2]]
    exact rlook_busy hE hB hn hc hh (by rw [et]; exact h1) (by rw [et]; exact h2) h
  have hef : ¬ 0 ≤ effT (D.m.t t) := by
    unfold effT
    rw [if_neg (by omega), if_neg (by omega)]
    decide
  by_cases h5 : (D.m.t t).st = 5
  · have hp : ¬ (D.m.t t).pl = -1 := hP.1 (by omega)
    obtain ⟨k, hkp, hpk⟩ := hpl t hk hp
    rw [show resetLookD D = aimedD (rousedD D t k) t D.h.call.b by
      unfold resetLookD
      rw [if_pos hh]
      simp only [et, hpk, Int.toNat_natCast]
      unfold aimedD
      rw [if_neg h2, if_neg h1, if_pos h5, aimedH_eq (q := 7) (by
        show (if ((setTm D.m t 0 2).t t).pl = -1 then (2 : Int) else 7) = 7
        rw [setTm_at]; exact if_neg hp)]
      unfold claimD
      rw [if_neg hef]
      rfl]
    exact rlook_deleted hE hB hn hc hk hca h1 h2 h5 hpk hkp (hdl k hkp).1 (hdl k hkp).2 h
  · have hp : (D.m.t t).pl = -1 := hP.2 (by omega) h2
    rw [show resetLookD D = aimedD (outD D t) t D.h.call.b by
      unfold resetLookD
      rw [if_pos hh]
      simp only [et]
      unfold aimedD
      rw [if_neg h2, if_neg h1, if_neg h5, aimedH_eq (q := 2) (by
        show (if ((setTm D.m t 0 2).t t).pl = -1 then (2 : Int) else 7) = 2
        rw [setTm_at]; exact if_pos hp)]
      unfold claimD
      rw [if_neg hef]
      rfl]
    exact rlook_out hE hB hn hc hk hca h1 h2 h5 h

theorem reset_does {w : World} {B mb db : Nat} {a b c d : Int} {M : Me} {h : Hd} {eb es en : Addr} (hE : ErrsLo w eb es en) (hf : stepFit a b c d M h = true) (hB : B ≤ w.heap.size) (hd : DeedX w B mb db a b c d ⟨M, h, et0⟩) :
    Calls Tryz.prog 36 #[ptrV db] w (Does (((h.pos == 5 && h.call.code == 3) || h.pos == 7) && resetB ⟨M, h, et0⟩) (resetD ⟨M, h, et0⟩) B mb db a b c d w) := by
  obtain ⟨_, hti, hge, _, _⟩ := stepFit_more hf
  obtain ⟨hn, _, hp, hdl⟩ := stepFit_places hf
  have F := stepFit_facts hf
  by_cases p5 : h.pos = 5
  · have E : resetB ⟨M, h, et0⟩ = true := if_pos p5
    have E2 : resetD ⟨M, h, et0⟩ = resetLookD ⟨M, h, et0⟩ := if_pos p5
    rw [E, E2]
    by_cases hc : h.call.code = 3
    · rw [show (((h.pos == 5 && h.call.code == 3) || h.pos == 7) && true) = true by simp [p5, hc]]
      exact reset_5 p5 (Lib.hid (rlook_does hE hB hn hc F.tm hp hdl hd)) hd
    · rw [show (((h.pos == 5 && h.call.code == 3) || h.pos == 7) && true) = false by simp [p5, hc]]
      exact reset_5n p5 (Lib.hid (rlook_code hB hc hd)) hd
  by_cases p7 : h.pos = 7
  · have E : resetB ⟨M, h, et0⟩ = mineB ⟨M, h, et0⟩ := if_neg p5
    have E2 : resetD ⟨M, h, et0⟩ = keyD ⟨M, h, et0⟩ := if_neg p5
    rw [E, E2, show (((h.pos == 5 && h.call.code == 3) || h.pos == 7) && mineB ⟨M, h, et0⟩) = mineB ⟨M, h, et0⟩ by simp [p7]]
    by_cases h0 : 0 ≤ h.tim
    · obtain ⟨t, het⟩ : ∃ t : Nat, h.tim = (t : Int) := ⟨h.tim.toNat, by omega⟩
      have htt : h.tim.toNat = t := by omega
      have ht2 : t < M.tn := by have := hti h0; omega
      by_cases hq : (M.t t).st = 2 ∧ (M.t t).pl ≠ -1
      · rw [show mineB ⟨M, h, et0⟩ = true by simp [mineB, h0, htt, hq]]
        obtain ⟨k, hkp, hpk⟩ := hp t ht2 hq.2
        exact reset_7 p7 (Lib.hid (keyD_yes hB ht2 het hq.1 hpk hkp (early_of hf k hkp) (hge t ht2).1 (hge t ht2).2 hd)) hd
      · rw [show mineB ⟨M, h, et0⟩ = false by
          cases hm : mineB ⟨M, h, et0⟩
          · rfl
          · exact absurd (by simpa [mineB, h0, htt] using hm) hq]
        exact reset_7n p7 (Lib.hid (keyD_no hB ht2 het hq hd)) hd
    · rw [show mineB ⟨M, h, et0⟩ = false by simp [mineB, h0]]
      have hm : h.tim = -1 := by
        simp only [stepFit, Bool.and_eq_true, Bool.or_eq_true, beq_iff_eq] at hf
        rcases hf.2.2.2 with e | e
        · exact e
        · have := inB_iff.1 e; omega
      exact reset_7n p7 (Lib.hid (keyD_none hB hm hd)) hd
  · rw [show (((h.pos == 5 && h.call.code == 3) || h.pos == 7) && resetB ⟨M, h, et0⟩) = false by simp [p5, p7]]
    exact reset_x p5 p7 hd

end Go.Proofs.YtflekodaiejflaaGreatDoor

/-
  ResetStep, in the program (chapter 11).
-/
namespace Go.Proofs.YtflekodaiejflaaGreatDoor
open Go.Deep Go.RowKit Go.Joins
set_option linter.unusedVariables false
set_option linter.unusedSimpArgs false

theorem enter_reset (args : Array Value) (w : World) : (callFunc 36 args).run Tryz.prog w = .ok (.enter 36 args) w := by
  simp [callFunc, Tryz.func36, Tryz.f36]

theorem try_reset (a b c d : Int) (h : Hd) {tv pv : Value} {M : Me} {w : World} {eb es en : Addr} (hs : sizeM M ≤ 1048576) (hE : ErrsLo w eb es en) (hm : MemAt w tv pv M) :
    Calls Tryz.prog 26 #[.agg #[.int .i64 a, .int .i64 b, .int .i64 c], meV M.c tv pv, .int .i64 d, hdV h, .func (.func 36) #[] #[]] w (NewDn (resetG a b c d M h) (resetQ a b c d M h) w) := by
  have hz := resetG_size a b c d M h
  unfold resetG resetQ at *
  cases hf : stepFit a b c d M h
  · exact tryStep_unfit _ enter_reset a b c d h hs hm hf
  · cases hq : (((h.pos == 5 && h.call.code == 3) || h.pos == 7) && resetB ⟨M, h, et0⟩)
    · exact tryStep_no _ enter_reset a b c d h hs hm (N := resetD ⟨M, h, et0⟩) (Lib.hid (fun W B mb db kW hB hD => by have := reset_does (hE.below kW) hf hB hD; rw [hq] at this; exact this)) hf
    · rw [hf, hq] at hz
      exact tryStep_yes _ enter_reset a b c d h hs hm (N := resetD ⟨M, h, et0⟩) hz (Lib.hid (fun W B mb db kW hB hD => by have := reset_does (hE.below kW) hf hB hD; rw [hq] at this; exact this)) hf

set_option maxRecDepth 100000 in
set_option maxHeartbeats 8000000 in
theorem imResetStep_any : ∀ (a b c d : Int) (h : Hd) (tv pv : Value) (M : Me) (w : World) (eb es en : Addr), sizeM M ≤ 1048576 → ErrsLo w eb es en → MemAt w tv pv M → Calls Tryz.prog 17 #[.agg #[.int .i64 a, .int .i64 b, .int .i64 c], meV M.c tv pv, .int .i64 d, hdV h] w (NewDn (resetG a b c d M h) (resetQ a b c d M h) w) := by
  intro a b c d h tv pv M w eb es en hs hE hm
  obtain ⟨N, hN⟩ : ∃ N, N = resetG a b c d M h := ⟨_, rfl⟩
  obtain ⟨q, hq⟩ : ∃ q, q = resetQ a b c d M h := ⟨_, rfl⟩
  have HT := Lib.hid (fun (tv pv : Value) (w : World) (hE : ErrsLo w eb es en) (hm : MemAt w tv pv M) => try_reset a b c d h hs hE hm)
  rw [← hN, ← hq] at HT ⊢
  clear hN hq
  obtain ⟨va, vc, qa, qc, rfl, rfl⟩ := hm.form
  have k0 := (((((Below.refl w.heap.size w).alloc (Nat.le_refl _) (.cells #[.int .i64 a, .int .i64 b, .int .i64 c] 46)).alloc (by simp) (memO M.c (.slice va M.tn vc) (.slice qa M.pn qc) 36)).alloc (by simp; omega) (.cells (hdCells h) 39)).alloc (by simp; omega) (.cells #[.int .i64 0, .slice none 0 0, .slice none 0 0, .int .i64 0, .int .i64 0, .int .i64 0, .int .i64 0, .int .i64 0, .int .i64 0, .int .i64 0, .bool false, .int .i64 0, .int .i64 0, .int .i64 0, .int .i64 0, .int .i64 0, .int .i64 0, .int .i64 0, .int .i64 0, .int .i64 0] 43))
  have hP := alloc_block (.cells #[.int .i64 0, .slice none 0 0, .slice none 0 0, .int .i64 0, .int .i64 0, .int .i64 0, .int .i64 0, .int .i64 0, .int .i64 0, .int .i64 0, .bool false, .int .i64 0, .int .i64 0, .int .i64 0, .int .i64 0, .int .i64 0, .int .i64 0, .int .i64 0, .int .i64 0, .int .i64 0] 43) (alloc_block (.cells (hdCells h) 39) (alloc_block (memO M.c (.slice va M.tn vc) (.slice qa M.pn qc) 36) (heap_alloc_new w (.cells #[.int .i64 a, .int .i64 b, .int .i64 c] 46))))
  have hX := heap_alloc_new (w.alloc (.cells #[.int .i64 a, .int .i64 b, .int .i64 c] 46)) (memO M.c (.slice va M.tn vc) (.slice qa M.pn qc) 36)
  rw [show (w.alloc (.cells #[.int .i64 a, .int .i64 b, .int .i64 c] 46)).heap.size = w.heap.size + 1 by simp] at hX
  replace hX := alloc_block (.cells #[.int .i64 0, .slice none 0 0, .slice none 0 0, .int .i64 0, .int .i64 0, .int .i64 0, .int .i64 0, .int .i64 0, .int .i64 0, .int .i64 0, .bool false, .int .i64 0, .int .i64 0, .int .i64 0, .int .i64 0, .int .i64 0, .int .i64 0, .int .i64 0, .int .i64 0, .int .i64 0] 43) (alloc_block (.cells (hdCells h) 39) hX)
  have hH := heap_alloc_new ((w.alloc (.cells #[.int .i64 a, .int .i64 b, .int .i64 c] 46)).alloc (memO M.c (.slice va M.tn vc) (.slice qa M.pn qc) 36)) (.cells (hdCells h) 39)
  rw [show ((w.alloc (.cells #[.int .i64 a, .int .i64 b, .int .i64 c] 46)).alloc (memO M.c (.slice va M.tn vc) (.slice qa M.pn qc) 36)).heap.size = w.heap.size + 1 + 1 by simp] at hH
  replace hH := alloc_block (.cells #[.int .i64 0, .slice none 0 0, .slice none 0 0, .int .i64 0, .int .i64 0, .int .i64 0, .int .i64 0, .int .i64 0, .int .i64 0, .int .i64 0, .bool false, .int .i64 0, .int .i64 0, .int .i64 0, .int .i64 0, .int .i64 0, .int .i64 0, .int .i64 0, .int .i64 0, .int .i64 0] 43) hH
  have hR := heap_alloc_new (((w.alloc (.cells #[.int .i64 a, .int .i64 b, .int .i64 c] 46)).alloc (memO M.c (.slice va M.tn vc) (.slice qa M.pn qc) 36)).alloc (.cells (hdCells h) 39)) (.cells #[.int .i64 0, .slice none 0 0, .slice none 0 0, .int .i64 0, .int .i64 0, .int .i64 0, .int .i64 0, .int .i64 0, .int .i64 0, .int .i64 0, .bool false, .int .i64 0, .int .i64 0, .int .i64 0, .int .i64 0, .int .i64 0, .int .i64 0, .int .i64 0, .int .i64 0, .int .i64 0] 43)
  rw [show (((w.alloc (.cells #[.int .i64 a, .int .i64 b, .int .i64 c] 46)).alloc (memO M.c (.slice va M.tn vc) (.slice qa M.pn qc) 36)).alloc (.cells (hdCells h) 39)).heap.size = w.heap.size + 1 + 1 + 1 by simp] at hR
  have HM := Lib.hid (hm.below k0)
  have HE := Lib.hid (hE.below k0)
  clear hE
  have s0 : ((((w.alloc (.cells #[.int .i64 a, .int .i64 b, .int .i64 c] 46)).alloc (memO M.c (.slice va M.tn vc) (.slice qa M.pn qc) 36)).alloc (.cells (hdCells h) 39)).alloc (.cells #[.int .i64 0, .slice none 0 0, .slice none 0 0, .int .i64 0, .int .i64 0, .int .i64 0, .int .i64 0, .int .i64 0, .int .i64 0, .int .i64 0, .bool false, .int .i64 0, .int .i64 0, .int .i64 0, .int .i64 0, .int .i64 0, .int .i64 0, .int .i64 0, .int .i64 0, .int .i64 0] 43)).heap.size = w.heap.size + 1 + 1 + 1 + 1 := by simp
  clear hm
  go_enter Tryz.func17, Tryz.ntmps17
  go_upto_region 1 with fail
  generalize (((w.alloc (.cells #[.int .i64 a, .int .i64 b, .int .i64 c] 46)).alloc (memO M.c (.slice va M.tn vc) (.slice qa M.pn qc) 36)).alloc (.cells (hdCells h) 39)).alloc (.cells #[.int .i64 0, .slice none 0 0, .slice none 0 0, .int .i64 0, .int .i64 0, .int .i64 0, .int .i64 0, .int .i64 0, .int .i64 0, .int .i64 0, .bool false, .int .i64 0, .int .i64 0, .int .i64 0, .int .i64 0, .int .i64 0, .int .i64 0, .int .i64 0, .int .i64 0, .int .i64 0] 43) = w1 at k0 hP hX hH hR HM HE s0 ⊢
  obtain ⟨p0, p1, p2, _, _, _⟩ := three hP
  obtain ⟨x0, x1, x2, _, _, _⟩ := three hX
  obtain ⟨h0, h1, h2, h3, h4, h5, h6, h7, h8, h9, h10, h11, _⟩ := twelve hH
  go_wp2_with fail
  go_at_call 26; refine (HT.out _ _ _ HE.out HM.out).mono ?_; rintro e w4 ⟨t4, p4, rfl, hO, hb⟩
  have lR := lt_of_block hR
  replace hR := b_block hb hR lR
  have k4 := k0.trans (hb.mono k0.size)
  clear p0 p1 p2 x0 x1 x2 h0 h1 h2 h3 h4 h5 h6 h7 h8 h9 h10 h11 hP hX hH HM k0 hb
  obtain ⟨ta, tc, pa, pc, ht, hp⟩ := hO.at.form
  subst ht hp
  obtain ⟨cs, hcs⟩ : ∃ cs : Array Value, dnCells N (.slice ta N.m.tn tc) (.slice pa N.m.pn pc) = cs := ⟨_, rfl⟩
  rw [show dnV N (.slice ta N.m.tn tc) (.slice pa N.m.pn pc) = Value.agg cs from congrArg Value.agg hcs]
  have hsz : cs.size = 20 := by { rw [← hcs]; rfl }
  have hone : cs.all (·.oneCell') = true := by { rw [← hcs]; simp [Value.oneCell'] }
  have hst := run_store_letter (P := Tryz.prog) hsz hone w4 (w.heap.size + 1 + 1 + 1) (there_of_cells hR)
  have hR5 := heap_setCells (cs := cs) hR hsz
  have hO5 := OwnMemIn.own (hO.setCells cs.toList hR)
  have k5 := b_setCells (b := w.heap.size + 1 + 1 + 1) (n := w.heap.size) (by omega) cs.toList 0 k4
  clear hR hO k4
  go_wp2
  exact bodyPost_ret (results_pair (cs := cs.toList) rfl rfl rfl (range_of_block hR5) Tryz.underlying43 rfl (by rw [done_info]; simp [hsz])) rfl ⟨_, _, by rw [← hcs]; rfl, hO5.mono (by omega), k5⟩

end Go.Proofs.YtflekodaiejflaaGreatDoor

/-
  What a row that lists the program's errors gives (chapter 10).
-/
namespace Go.Proofs.YtflekodaiejflaaGreatDoor
open Go.RowKit Go.Joins Go.ChangeShapes Go.WideShapes
set_option linter.unusedVariables false
set_option linter.unusedSimpArgs false

abbrev laidE : List (String × DataW Unit) := [("errors.errorType", Rows.laid_errors_errorType), ("loop.example/g00743/impl.errBusy", Rows.laid_loop_example_g00743_impl_errBusy), ("loop.example/g00743/impl.errSilent", Rows.laid_loop_example_g00743_impl_errSilent), ("loop.example/g00743/impl.errAbsent", Rows.laid_loop_example_g00743_impl_errAbsent)]
theorem g_errBusy : Tryz.prog.globalNamed "loop.example/g00743/impl.errBusy" = some 0 := by kernel_rfl
theorem t_errBusy : (Tryz.prog.globals[0]?).map (·.type) = some 112 := by kernel_rfl
theorem g_errSilent : Tryz.prog.globalNamed "loop.example/g00743/impl.errSilent" = some 1 := by kernel_rfl
theorem t_errSilent : (Tryz.prog.globals[1]?).map (·.type) = some 112 := by kernel_rfl
theorem g_errAbsent : Tryz.prog.globalNamed "loop.example/g00743/impl.errAbsent" = some 2 := by kernel_rfl
theorem t_errAbsent : (Tryz.prog.globals[2]?).map (·.type) = some 112 := by kernel_rfl
theorem erStar : "*" ++ "errors.errorString" = "*errors.errorString" := by decide
theorem erRow (u : TypeId) (h : Tryz.prog.typeName? 3 u = some "*errors.errorString") : u = 199 :=
  typeName_ptr_named (nm := "errors.errorString") (by rw [erStar]; kernel_rfl) (by kernel_rfl) (by decide) u (by rw [erStar]; exact h)
theorem erCells : Tryz.prog.cellsOf 220 = 1 := by kernel_rfl
theorem erCellsS : Tryz.prog.cellsOf 9 = 1 := by kernel_rfl
theorem laidOutE : laidOutB Tryz.prog = true := by kernel_rfl

end Go.Proofs.YtflekodaiejflaaGreatDoor
