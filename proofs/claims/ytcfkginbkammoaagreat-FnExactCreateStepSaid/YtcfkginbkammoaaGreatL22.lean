/-
  The step of creating, at its face (spec, chapter 9).
-/
import Derived.Test.YtcfkginbkammoaaGreatL21
import Derived.Test.YtcfkginbkammoaaGreatL15
import Derived.Deep.QuietTactic
import Derived.BigQuiet
import Derived.Deep.DeepCutAuto
import Derived.Test.YtcfkginbkammoaaGreatL18
import Derived.Test.YtcfkginbkammoaaGreatL13
namespace Go.Proofs.YtcfkginbkammoaaGreat
open Go.Deep Go.ChangeShapes Go.WideShapes Go.ChangeAt Go.RowKit Go.Joins
set_option linter.unusedVariables false
set_option linter.unusedSimpArgs false

set_option maxRecDepth 100000 in
set_option maxHeartbeats 8000000 in
theorem l9Of_any (a b c d x y : Int) (h : Hd) {tv pv : Value} {M : Me} {w : World} (hs : sizeM M ≤ 1048576) (hm : MemAt w tv pv M) :
    Calls Tryz.prog 17 #[.agg #[.int .i64 a, .int .i64 b, .int .i64 c], meV M.c tv pv, .int .i64 d, hdV h, .int .i64 x, .int .i64 y] w fun e w' => e = .returned (.bool (stepFit a b c d M h && inB h.pos x y)) ∧ Below w.heap.size w w' := by
  obtain ⟨va, vc, qa, qc, rfl, rfl⟩ := hm.form
  have hn := (sizeM_le hs).1
  have k0 := ((((Below.refl w.heap.size w).alloc (Nat.le_refl _) (.cells #[.int .i64 a, .int .i64 b, .int .i64 c] 46)).alloc (by simp) (.cells #[.int .i64 M.c, .slice va M.tn vc, .slice qa M.pn qc] 36)).alloc (by simp; omega) (.cells #[.int .i64 h.pos, .int .i64 h.call.code, .int .i64 h.call.a, .int .i64 h.call.b, .int .i64 h.call.c, .int .i64 h.tim, .int .i64 h.whe, .bool h.had, .int .i64 h.cnt, .int .i64 h.beg, .int .i64 h.rep, .int .i64 h.out] 39))
  have kk := Below.refl (((w.alloc (.cells #[.int .i64 a, .int .i64 b, .int .i64 c] 46)).alloc (.cells #[.int .i64 M.c, .slice va M.tn vc, .slice qa M.pn qc] 36)).alloc (.cells #[.int .i64 h.pos, .int .i64 h.call.code, .int .i64 h.call.a, .int .i64 h.call.b, .int .i64 h.call.c, .int .i64 h.tim, .int .i64 h.whe, .bool h.had, .int .i64 h.cnt, .int .i64 h.beg, .int .i64 h.rep, .int .i64 h.out] 39)).heap.size (((w.alloc (.cells #[.int .i64 a, .int .i64 b, .int .i64 c] 46)).alloc (.cells #[.int .i64 M.c, .slice va M.tn vc, .slice qa M.pn qc] 36)).alloc (.cells #[.int .i64 h.pos, .int .i64 h.call.code, .int .i64 h.call.a, .int .i64 h.call.b, .int .i64 h.call.c, .int .i64 h.tim, .int .i64 h.whe, .bool h.had, .int .i64 h.cnt, .int .i64 h.beg, .int .i64 h.rep, .int .i64 h.out] 39))
  have HM := Lib.hid (fun (w' : World) (hb : Below w.heap.size w w') => hm.below hb)
  clear hm
  cases h1 : stepFit a b c d M h
  · skip
    go_enter Tryz.func17, Tryz.ntmps17
    go_wp2_with (first
      | (go_at_call 33; refine (spFit_any _ _ _ _ _ hs (HM.out _ (k0.trans (kk.mono k0.size)))).mono ?_; rintro e w1 ⟨rfl, hb⟩; replace kk := kk.trans (hb.mono kk.size); clear hb; (try clear hc hf); obtain ⟨hc, hf⟩ := bcell kk)
      | (go_at_call 34; refine (l1In_any _ _ _ _).mono ?_; rintro e w' ⟨rfl, rfl⟩))
    go_ret
    exact ⟨ret_bool' (by simp []), k0.trans (kk.mono k0.size)⟩
  go_enter Tryz.func17, Tryz.ntmps17
  go_wp2_with (first
      | (go_at_call 33; refine (spFit_any _ _ _ _ _ hs (HM.out _ (k0.trans (kk.mono k0.size)))).mono ?_; rintro e w1 ⟨rfl, hb⟩; replace kk := kk.trans (hb.mono kk.size); clear hb; (try clear hc hf); obtain ⟨hc, hf⟩ := bcell kk)
      | (go_at_call 34; refine (l1In_any _ _ _ _).mono ?_; rintro e w' ⟨rfl, rfl⟩))
  go_ret
  exact ⟨ret_bool' (by simp []), k0.trans (kk.mono k0.size)⟩

/-- what a call answered comes into the answer's block, told of what is new -/
theorem InDnB.new {B R : Nat} {D : Dn} {q : Bool} {w0 w1 w' : World} {e : Ending} {Z : Array Value} (hI : InDnB B D q w1 e w') (k : Below w0.heap.size w0 w1) (hB : w0.heap.size ≤ B) (lr : w0.heap.size ≤ R) (hR : w1.heap[R]? = some (.cells Z 43 (0, 0))) (hz : Z.size = 20) :
    ∃ ta tn tc pa pn pc, e = .returned (.tuple #[dnV D (.slice ta tn tc) (.slice pa pn pc), .bool q]) ∧ w'.there R 0 20 ∧ (w'.setCells R 0 (dnCells D (.slice ta tn tc) (.slice pa pn pc)).toList).rangeAt R 0 (dnCells D (.slice ta tn tc) (.slice pa pn pc)).toList ∧
      NewDn D q w0 (.returned (.tuple #[dnV D (.slice ta tn tc) (.slice pa pn pc), .bool q])) (w'.setCells R 0 (dnCells D (.slice ta tn tc) (.slice pa pn pc)).toList) ∧ Below B w1 w' := by
  obtain ⟨tv, pv, rfl, ho, hk⟩ := hI
  obtain ⟨ta, tc, pa, pc, rfl, rfl⟩ := ho.at.form
  have hR' := hk.kept hR (by decide)
  have ht : w'.there R 0 20 := by rw [← hz]; exact there_of_block hR'
  exact ⟨ta, _, tc, pa, _, pc, rfl, ht, World.rangeAt_setCells_same _ _ _ _ ht, ⟨_, _, rfl, ((ho.setCells _ hR').own).mono hB, b_setCells lr _ 0 (k.trans (hk.below.mono hB))⟩, hk.below⟩
theorem stepFit_more {a b c d : Int} {M : Me} {h : Hd} (hq : stepFit a b c d M h = true) : workB a b c d = true ∧ (0 ≤ h.tim → h.tim.toNat < M.tn) ∧ (∀ i, i < M.tn → 0 ≤ (M.t i).ge ∧ (M.t i).ge ≤ 100000) ∧ homeN a d < M.pn ∧ handB a b c h = true := by
  have F := stepFit_facts hq
  simp only [stepFit, Bool.and_eq_true, Bool.or_eq_true, beq_iff_eq] at hq
  obtain ⟨_, hh, hw, ht⟩ := hq
  refine ⟨hw, fun h0 => ?_, fun i hi => ?_, ?_, hh⟩
  · rcases ht with e | e
    · omega
    · have := inB_iff.1 e
      omega
  · have := F.tm i hi
    simp only [timerB, Bool.and_eq_true] at this
    obtain ⟨_, _, _, _, _, hg, _⟩ := this
    exact inB_iff.1 hg
  · obtain ⟨e1, e2, e3⟩ := F.pn
    obtain ⟨_, n1, n2⟩ := workB_iff.1 hw
    have h1 := Int.emod_lt_of_pos d (show (0 : Int) < a by omega)
    have h2 := Int.emod_nonneg d (show a ≠ 0 by omega)
    unfold homeN
    omega

set_option maxRecDepth 100000 in
set_option maxHeartbeats 1200000 in
theorem spCreateStep_any (a b c d : Int) (h : Hd) (tv pv : Value) (M : Me) (w : World) (hs : sizeM M ≤ 1048576) (hm : MemAt w tv pv M) :
    Calls Tryz.prog 5 #[.agg #[.int .i64 a, .int .i64 b, .int .i64 c], meV M.c tv pv, .int .i64 d, hdV h] w (NewDn (createG a b c d M h) (createQ a b c d M h) w) := by
  obtain ⟨va, vc, qa, qc, rfl, rfl⟩ := hm.form
  have hn := sizeM_le hs
  have k0 := (((((Below.refl w.heap.size w).alloc (Nat.le_refl _) (.cells #[.int .i64 a, .int .i64 b, .int .i64 c] 46)).alloc (by simp) (.cells #[.int .i64 M.c, .slice va M.tn vc, .slice qa M.pn qc] 36)).alloc (by simp; omega) (.cells #[.int .i64 h.pos, .int .i64 h.call.code, .int .i64 h.call.a, .int .i64 h.call.b, .int .i64 h.call.c, .int .i64 h.tim, .int .i64 h.whe, .bool h.had, .int .i64 h.cnt, .int .i64 h.beg, .int .i64 h.rep, .int .i64 h.out] 39)).alloc (by simp; omega) (.cells #[.int .i64 0, .slice none 0 0, .slice none 0 0, .int .i64 0, .int .i64 0, .int .i64 0, .int .i64 0, .int .i64 0, .int .i64 0, .int .i64 0, .bool false, .int .i64 0, .int .i64 0, .int .i64 0, .int .i64 0, .int .i64 0, .int .i64 0, .int .i64 0, .int .i64 0, .int .i64 0] 43))
  have hP := alloc_block (.cells #[.int .i64 0, .slice none 0 0, .slice none 0 0, .int .i64 0, .int .i64 0, .int .i64 0, .int .i64 0, .int .i64 0, .int .i64 0, .int .i64 0, .bool false, .int .i64 0, .int .i64 0, .int .i64 0, .int .i64 0, .int .i64 0, .int .i64 0, .int .i64 0, .int .i64 0, .int .i64 0] 43) (alloc_block (.cells #[.int .i64 h.pos, .int .i64 h.call.code, .int .i64 h.call.a, .int .i64 h.call.b, .int .i64 h.call.c, .int .i64 h.tim, .int .i64 h.whe, .bool h.had, .int .i64 h.cnt, .int .i64 h.beg, .int .i64 h.rep, .int .i64 h.out] 39) (alloc_block (.cells #[.int .i64 M.c, .slice va M.tn vc, .slice qa M.pn qc] 36) (heap_alloc_new w (.cells #[.int .i64 a, .int .i64 b, .int .i64 c] 46))))
  have hX := heap_alloc_new (w.alloc (.cells #[.int .i64 a, .int .i64 b, .int .i64 c] 46)) (.cells #[.int .i64 M.c, .slice va M.tn vc, .slice qa M.pn qc] 36)
  rw [show (w.alloc (.cells #[.int .i64 a, .int .i64 b, .int .i64 c] 46)).heap.size = w.heap.size + 1 by simp] at hX
  replace hX := alloc_block (.cells #[.int .i64 0, .slice none 0 0, .slice none 0 0, .int .i64 0, .int .i64 0, .int .i64 0, .int .i64 0, .int .i64 0, .int .i64 0, .int .i64 0, .bool false, .int .i64 0, .int .i64 0, .int .i64 0, .int .i64 0, .int .i64 0, .int .i64 0, .int .i64 0, .int .i64 0, .int .i64 0] 43) (alloc_block (.cells #[.int .i64 h.pos, .int .i64 h.call.code, .int .i64 h.call.a, .int .i64 h.call.b, .int .i64 h.call.c, .int .i64 h.tim, .int .i64 h.whe, .bool h.had, .int .i64 h.cnt, .int .i64 h.beg, .int .i64 h.rep, .int .i64 h.out] 39) hX)
  have hH := heap_alloc_new ((w.alloc (.cells #[.int .i64 a, .int .i64 b, .int .i64 c] 46)).alloc (.cells #[.int .i64 M.c, .slice va M.tn vc, .slice qa M.pn qc] 36)) (.cells #[.int .i64 h.pos, .int .i64 h.call.code, .int .i64 h.call.a, .int .i64 h.call.b, .int .i64 h.call.c, .int .i64 h.tim, .int .i64 h.whe, .bool h.had, .int .i64 h.cnt, .int .i64 h.beg, .int .i64 h.rep, .int .i64 h.out] 39)
  rw [show ((w.alloc (.cells #[.int .i64 a, .int .i64 b, .int .i64 c] 46)).alloc (.cells #[.int .i64 M.c, .slice va M.tn vc, .slice qa M.pn qc] 36)).heap.size = w.heap.size + 1 + 1 by simp] at hH
  replace hH := alloc_block (.cells #[.int .i64 0, .slice none 0 0, .slice none 0 0, .int .i64 0, .int .i64 0, .int .i64 0, .int .i64 0, .int .i64 0, .int .i64 0, .int .i64 0, .bool false, .int .i64 0, .int .i64 0, .int .i64 0, .int .i64 0, .int .i64 0, .int .i64 0, .int .i64 0, .int .i64 0, .int .i64 0] 43) hH
  have hR := heap_alloc_new (((w.alloc (.cells #[.int .i64 a, .int .i64 b, .int .i64 c] 46)).alloc (.cells #[.int .i64 M.c, .slice va M.tn vc, .slice qa M.pn qc] 36)).alloc (.cells #[.int .i64 h.pos, .int .i64 h.call.code, .int .i64 h.call.a, .int .i64 h.call.b, .int .i64 h.call.c, .int .i64 h.tim, .int .i64 h.whe, .bool h.had, .int .i64 h.cnt, .int .i64 h.beg, .int .i64 h.rep, .int .i64 h.out] 39)) (.cells #[.int .i64 0, .slice none 0 0, .slice none 0 0, .int .i64 0, .int .i64 0, .int .i64 0, .int .i64 0, .int .i64 0, .int .i64 0, .int .i64 0, .bool false, .int .i64 0, .int .i64 0, .int .i64 0, .int .i64 0, .int .i64 0, .int .i64 0, .int .i64 0, .int .i64 0, .int .i64 0] 43)
  rw [show (((w.alloc (.cells #[.int .i64 a, .int .i64 b, .int .i64 c] 46)).alloc (.cells #[.int .i64 M.c, .slice va M.tn vc, .slice qa M.pn qc] 36)).alloc (.cells #[.int .i64 h.pos, .int .i64 h.call.code, .int .i64 h.call.a, .int .i64 h.call.b, .int .i64 h.call.c, .int .i64 h.tim, .int .i64 h.whe, .bool h.had, .int .i64 h.cnt, .int .i64 h.beg, .int .i64 h.rep, .int .i64 h.out] 39)).heap.size = w.heap.size + 1 + 1 + 1 by simp] at hR
  have HM := Lib.hid (hm.below k0)
  clear hm
  cases hq : stepFit a b c d M h && inB h.pos 1 4
  · have eq : (createQ a b c d M h) = false := by rw [createQ, ← Bool.and_assoc, hq, Bool.false_and]
    rw [show NewDn (createG a b c d M h) (createQ a b c d M h) w = NewDn dn0 false w by rw [createG, eq]; rfl]
    clear eq
    have hqb := hq
    clear hq
    go_enter Tryz.func5, Tryz.ntmps5
    go_upto_region 1 with fail
    generalize hw1 : ((((w.alloc (.cells #[.int .i64 a, .int .i64 b, .int .i64 c] 46)).alloc (.cells #[.int .i64 M.c, .slice va M.tn vc, .slice qa M.pn qc] 36)).alloc (.cells #[.int .i64 h.pos, .int .i64 h.call.code, .int .i64 h.call.a, .int .i64 h.call.b, .int .i64 h.call.c, .int .i64 h.tim, .int .i64 h.whe, .bool h.had, .int .i64 h.cnt, .int .i64 h.beg, .int .i64 h.rep, .int .i64 h.out] 39)).alloc (.cells #[.int .i64 0, .slice none 0 0, .slice none 0 0, .int .i64 0, .int .i64 0, .int .i64 0, .int .i64 0, .int .i64 0, .int .i64 0, .int .i64 0, .bool false, .int .i64 0, .int .i64 0, .int .i64 0, .int .i64 0, .int .i64 0, .int .i64 0, .int .i64 0, .int .i64 0, .int .i64 0] 43)) = w1 at k0 hP hX hH hR HM ⊢
    clear hw1
    obtain ⟨p0, p1, p2, _, _, _⟩ := three hP
    obtain ⟨x0, x1, x2, _, _, _⟩ := three hX
    obtain ⟨h0, h1, h2, h3, h4, h5, h6, h7, h8, h9, h10, h11, _⟩ := twelve hH
    go_wp2_with fail
    go_at_call 17; refine (l9Of_any a b c d 1 4 h hs HM.out).mono ?_; rw [hqb]; rintro e w2 ⟨rfl, hb⟩
    have k2 := k0.trans (hb.mono k0.size)
    have hR2 := b_block hb hR (lt_of_block hR)
    clear p0 p1 p2 x0 x1 x2 h0 h1 h2 h3 h4 h5 h6 h7 h8 h9 h10 h11
    go_upto_region 2 with fail
    refine wp_region_lit ?_
    refine wpList_plain rfl fun K0 hK0 => ?_
    go_simp
    refine hK0 _ _ ?_
    clear hK0 K0
    refine wpList_store_mid (by rfl) 43 _ _ (by rfl) _ 0 #[.int .i64 0, .slice none 0 0, .slice none 0 0, .int .i64 0, .int .i64 0, .int .i64 0, .int .i64 0, .int .i64 0, .int .i64 0, .int .i64 0, .bool false, .int .i64 0, .int .i64 0, .int .i64 0, .int .i64 0, .int .i64 0, .int .i64 0, .int .i64 0, .int .i64 0, .int .i64 0] (by rfl) (by rfl) (there_of_block hR2) done_info (by simp [Value.oneCell']) ?_
    go_wp2
    exact bodyPost_ret (v := .tuple #[.agg #[.int .i64 0, .slice none 0 0, .slice none 0 0, .int .i64 0, .int .i64 0, .int .i64 0, .int .i64 0, .int .i64 0, .int .i64 0, .int .i64 0, .bool false, .int .i64 0, .int .i64 0, .int .i64 0, .int .i64 0, .int .i64 0, .int .i64 0, .int .i64 0, .int .i64 0, .int .i64 0], .bool false]) (results_pair (cs := [.int .i64 0, .slice none 0 0, .slice none 0 0, .int .i64 0, .int .i64 0, .int .i64 0, .int .i64 0, .int .i64 0, .int .i64 0, .int .i64 0, .bool false, .int .i64 0, .int .i64 0, .int .i64 0, .int .i64 0, .int .i64 0, .int .i64 0, .int .i64 0, .int .i64 0, .int .i64 0]) rfl rfl rfl (World.rangeAt_setCells_same _ _ _ _ (there_of_block hR2)) Tryz.underlying43 rfl done_info) rfl ⟨_, _, rfl, own_zero _ _, b_setCells (show w.heap.size ≤ w.heap.size + 1 + 1 + 1 by omega) _ 0 k2⟩
  obtain ⟨F1, F2, F3, F4, _⟩ := stepFit_more (Bool.and_eq_true .. ▸ hq).1
  obtain ⟨qq, hqq⟩ : ∃ qq, createB ⟨M, h, et0⟩ = qq := ⟨_, rfl⟩
  obtain ⟨DD, hDD⟩ : ∃ DD, (if createB ⟨M, h, et0⟩ then createD c d (homeN a d) ⟨M, h, et0⟩ else dn0) = DD := ⟨_, rfl⟩
  rw [show NewDn (createG a b c d M h) (createQ a b c d M h) w = NewDn DD qq w by
    have e : createQ a b c d M h = createB ⟨M, h, et0⟩ := by rw [createQ, ← Bool.and_assoc, hq, Bool.true_and]
    rw [createG, e, hDD, hqq]]
  have HD := Lib.hid hDD
  have HQ := Lib.hid hqq
  clear hDD hqq
  have hqb := hq
  clear hq
  go_enter Tryz.func5, Tryz.ntmps5
  go_upto_region 1 with fail
  generalize hw1 : ((((w.alloc (.cells #[.int .i64 a, .int .i64 b, .int .i64 c] 46)).alloc (.cells #[.int .i64 M.c, .slice va M.tn vc, .slice qa M.pn qc] 36)).alloc (.cells #[.int .i64 h.pos, .int .i64 h.call.code, .int .i64 h.call.a, .int .i64 h.call.b, .int .i64 h.call.c, .int .i64 h.tim, .int .i64 h.whe, .bool h.had, .int .i64 h.cnt, .int .i64 h.beg, .int .i64 h.rep, .int .i64 h.out] 39)).alloc (.cells #[.int .i64 0, .slice none 0 0, .slice none 0 0, .int .i64 0, .int .i64 0, .int .i64 0, .int .i64 0, .int .i64 0, .int .i64 0, .int .i64 0, .bool false, .int .i64 0, .int .i64 0, .int .i64 0, .int .i64 0, .int .i64 0, .int .i64 0, .int .i64 0, .int .i64 0, .int .i64 0] 43)) = w1 at k0 hP hX hH hR HM ⊢
  clear hw1
  obtain ⟨p0, p1, p2, _, _, _⟩ := three hP
  obtain ⟨x0, x1, x2, _, _, _⟩ := three hX
  obtain ⟨h0, h1, h2, h3, h4, h5, h6, h7, h8, h9, h10, h11, _⟩ := twelve hH
  go_wp2_with fail
  go_at_call 17; refine (l9Of_any a b c d 1 4 h hs HM.out).mono ?_; rw [hqb]; rintro e w2 ⟨rfl, hb⟩
  have k2 := k0.trans (hb.mono k0.size)
  have hP2 := b_block hb hP (lt_of_block hP)
  have hX2 := b_block hb hX (lt_of_block hX)
  have hH2 := b_block hb hH (lt_of_block hH)
  have hR2 := b_block hb hR (lt_of_block hR)
  have HM2 := Lib.hid (HM.out.below hb)
  clear p0 p1 p2 x0 x1 x2 h0 h1 h2 h3 h4 h5 h6 h7 h8 h9 h10 h11 hb hP hX hH hR HM k0
  go_upto_region 3 with fail
  have lR2 := lt_of_block hR2
  have d0 : w2.drew.heap.size = w2.heap.size := rfl
  refine wp_region_T (fun w' => w'.cell? ⟨w.heap.size, 0, none⟩ = some (.int .i64 a) ∧ w'.cell? ⟨w.heap.size, 1, none⟩ = some (.int .i64 b) ∧ w'.cell? ⟨w.heap.size, 2, none⟩ = some (.int .i64 c) ∧ w'.cell? ⟨w.heap.size + 1, 0, none⟩ = some (.int .i64 M.c) ∧ w'.cell? ⟨w.heap.size + 1, 1, none⟩ = some (.slice va M.tn vc) ∧ w'.cell? ⟨w.heap.size + 1, 2, none⟩ = some (.slice qa M.pn qc) ∧ w'.cell? ⟨w.heap.size + 1 + 1, 0, none⟩ = some (.int .i64 h.pos) ∧ w'.cell? ⟨w.heap.size + 1 + 1, 1, none⟩ = some (.int .i64 h.call.code) ∧ w'.cell? ⟨w.heap.size + 1 + 1, 2, none⟩ = some (.int .i64 h.call.a) ∧ w'.cell? ⟨w.heap.size + 1 + 1, 3, none⟩ = some (.int .i64 h.call.b) ∧ w'.cell? ⟨w.heap.size + 1 + 1, 4, none⟩ = some (.int .i64 h.call.c) ∧ w'.cell? ⟨w.heap.size + 1 + 1, 5, none⟩ = some (.int .i64 h.tim) ∧ w'.cell? ⟨w.heap.size + 1 + 1, 6, none⟩ = some (.int .i64 h.whe) ∧ w'.cell? ⟨w.heap.size + 1 + 1, 7, none⟩ = some (.bool h.had) ∧ w'.cell? ⟨w.heap.size + 1 + 1, 8, none⟩ = some (.int .i64 h.cnt) ∧ w'.cell? ⟨w.heap.size + 1 + 1, 9, none⟩ = some (.int .i64 h.beg) ∧ w'.cell? ⟨w.heap.size + 1 + 1, 10, none⟩ = some (.int .i64 h.rep) ∧ w'.cell? ⟨w.heap.size + 1 + 1, 11, none⟩ = some (.int .i64 h.out)) 10 (by kernel_rfl) ?_
  have hS : w2.drew.cell? ⟨w.heap.size, 0, none⟩ = some (.int .i64 a) ∧ w2.drew.cell? ⟨w.heap.size, 1, none⟩ = some (.int .i64 b) ∧ w2.drew.cell? ⟨w.heap.size, 2, none⟩ = some (.int .i64 c) ∧ w2.drew.cell? ⟨w.heap.size + 1, 0, none⟩ = some (.int .i64 M.c) ∧ w2.drew.cell? ⟨w.heap.size + 1, 1, none⟩ = some (.slice va M.tn vc) ∧ w2.drew.cell? ⟨w.heap.size + 1, 2, none⟩ = some (.slice qa M.pn qc) ∧ w2.drew.cell? ⟨w.heap.size + 1 + 1, 0, none⟩ = some (.int .i64 h.pos) ∧ w2.drew.cell? ⟨w.heap.size + 1 + 1, 1, none⟩ = some (.int .i64 h.call.code) ∧ w2.drew.cell? ⟨w.heap.size + 1 + 1, 2, none⟩ = some (.int .i64 h.call.a) ∧ w2.drew.cell? ⟨w.heap.size + 1 + 1, 3, none⟩ = some (.int .i64 h.call.b) ∧ w2.drew.cell? ⟨w.heap.size + 1 + 1, 4, none⟩ = some (.int .i64 h.call.c) ∧ w2.drew.cell? ⟨w.heap.size + 1 + 1, 5, none⟩ = some (.int .i64 h.tim) ∧ w2.drew.cell? ⟨w.heap.size + 1 + 1, 6, none⟩ = some (.int .i64 h.whe) ∧ w2.drew.cell? ⟨w.heap.size + 1 + 1, 7, none⟩ = some (.bool h.had) ∧ w2.drew.cell? ⟨w.heap.size + 1 + 1, 8, none⟩ = some (.int .i64 h.cnt) ∧ w2.drew.cell? ⟨w.heap.size + 1 + 1, 9, none⟩ = some (.int .i64 h.beg) ∧ w2.drew.cell? ⟨w.heap.size + 1 + 1, 10, none⟩ = some (.int .i64 h.rep) ∧ w2.drew.cell? ⟨w.heap.size + 1 + 1, 11, none⟩ = some (.int .i64 h.out) := ⟨cell_of_block hP2 0, cell_of_block hP2 1, cell_of_block hP2 2, cell_of_block hX2 0, cell_of_block hX2 1, cell_of_block hX2 2, cell_of_block hH2 0, cell_of_block hH2 1, cell_of_block hH2 2, cell_of_block hH2 3, cell_of_block hH2 4, cell_of_block hH2 5, cell_of_block hH2 6, cell_of_block hH2 7, cell_of_block hH2 8, cell_of_block hH2 9, cell_of_block hH2 10, cell_of_block hH2 11⟩
  refine wpAnyT_take (i := 0) (v := ?v0_1) rfl (by kernel_rfl) (by kernel_rfl) (by kernel_rfl) (by kernel_rfl) (fun _ _ _ h => h) (Or.inl ⟨by rfl, ?hy0_1⟩) hS ?rest0_1
  case hy0_1 => intro w' hSw; obtain ⟨s0, s1, s2, s3, s4, s5, s6, s7, s8, s9, s10, s11, s12, s13, s14, s15, s16, s17⟩ := hSw; go_simp; try with_reducible rfl
  simp only [Act.put, List.setIfInBounds_toArray, List.set_cons_zero, List.set_cons_succ]
  refine wpAnyT_take (i := 1) (v := ?v1_2) rfl (by kernel_rfl) (by kernel_rfl) (by kernel_rfl) (by kernel_rfl) (fun _ _ _ h => h) (Or.inl ⟨by rfl, ?hy1_2⟩) hS ?rest1_2
  case hy1_2 => intro w' hSw; obtain ⟨s0, s1, s2, s3, s4, s5, s6, s7, s8, s9, s10, s11, s12, s13, s14, s15, s16, s17⟩ := hSw; go_simp; try with_reducible rfl
  simp only [Act.put, List.setIfInBounds_toArray, List.set_cons_zero, List.set_cons_succ]
  refine wpAnyT_take (i := 3) (v := ?v3_3) rfl (by kernel_rfl) (by kernel_rfl) (by kernel_rfl) (by kernel_rfl) (fun _ _ _ h => h) (Or.inl ⟨by rfl, ?hy3_3⟩) hS ?rest3_3
  case hy3_3 => intro w' hSw; obtain ⟨s0, s1, s2, s3, s4, s5, s6, s7, s8, s9, s10, s11, s12, s13, s14, s15, s16, s17⟩ := hSw; go_simp; try with_reducible rfl
  simp only [Act.put, List.setIfInBounds_toArray, List.set_cons_zero, List.set_cons_succ]
  refine wpAnyT_take (i := 5) (v := ?v5_4) rfl (by kernel_rfl) (by kernel_rfl) (by kernel_rfl) (by kernel_rfl) (fun _ _ _ h => h) (Or.inl ⟨by rfl, ?hy5_4⟩) hS ?rest5_4
  case hy5_4 => intro w' hSw; obtain ⟨s0, s1, s2, s3, s4, s5, s6, s7, s8, s9, s10, s11, s12, s13, s14, s15, s16, s17⟩ := hSw; go_simp; try with_reducible rfl
  simp only [Act.put, List.setIfInBounds_toArray, List.set_cons_zero, List.set_cons_succ]
  refine wpAnyT_one (i := 2) (by kernel_rfl) rfl (by rfl) fun K hK => ?_
  go_simp
  go_at_call 19; refine (l5Copy_any hs (HM2.out.below (Below.refl w2.heap.size w2).drew)).mono ?_
  rintro e w3 ⟨tn, pn, rfl, hO, hb⟩
  have kd := (Below.refl w2.heap.size w2).drew.trans hb
  have hP3 := b_block kd hP2 (lt_of_block hP2)
  have hX3 := b_block kd hX2 (lt_of_block hX2)
  have hH3 := b_block kd hH2 (lt_of_block hH2)
  have hR3 := b_block kd hR2 (lt_of_block hR2)
  have k3 := k2.trans (kd.mono k2.size)
  have hS3 : w3.cell? ⟨w.heap.size, 0, none⟩ = some (.int .i64 a) ∧ w3.cell? ⟨w.heap.size, 1, none⟩ = some (.int .i64 b) ∧ w3.cell? ⟨w.heap.size, 2, none⟩ = some (.int .i64 c) ∧ w3.cell? ⟨w.heap.size + 1, 0, none⟩ = some (.int .i64 M.c) ∧ w3.cell? ⟨w.heap.size + 1, 1, none⟩ = some (.slice va M.tn vc) ∧ w3.cell? ⟨w.heap.size + 1, 2, none⟩ = some (.slice qa M.pn qc) ∧ w3.cell? ⟨w.heap.size + 1 + 1, 0, none⟩ = some (.int .i64 h.pos) ∧ w3.cell? ⟨w.heap.size + 1 + 1, 1, none⟩ = some (.int .i64 h.call.code) ∧ w3.cell? ⟨w.heap.size + 1 + 1, 2, none⟩ = some (.int .i64 h.call.a) ∧ w3.cell? ⟨w.heap.size + 1 + 1, 3, none⟩ = some (.int .i64 h.call.b) ∧ w3.cell? ⟨w.heap.size + 1 + 1, 4, none⟩ = some (.int .i64 h.call.c) ∧ w3.cell? ⟨w.heap.size + 1 + 1, 5, none⟩ = some (.int .i64 h.tim) ∧ w3.cell? ⟨w.heap.size + 1 + 1, 6, none⟩ = some (.int .i64 h.whe) ∧ w3.cell? ⟨w.heap.size + 1 + 1, 7, none⟩ = some (.bool h.had) ∧ w3.cell? ⟨w.heap.size + 1 + 1, 8, none⟩ = some (.int .i64 h.cnt) ∧ w3.cell? ⟨w.heap.size + 1 + 1, 9, none⟩ = some (.int .i64 h.beg) ∧ w3.cell? ⟨w.heap.size + 1 + 1, 10, none⟩ = some (.int .i64 h.rep) ∧ w3.cell? ⟨w.heap.size + 1 + 1, 11, none⟩ = some (.int .i64 h.out) := ⟨cell_of_block hP3 0, cell_of_block hP3 1, cell_of_block hP3 2, cell_of_block hX3 0, cell_of_block hX3 1, cell_of_block hX3 2, cell_of_block hH3 0, cell_of_block hH3 1, cell_of_block hH3 2, cell_of_block hH3 3, cell_of_block hH3 4, cell_of_block hH3 5, cell_of_block hH3 6, cell_of_block hH3 7, cell_of_block hH3 8, cell_of_block hH3 9, cell_of_block hH3 10, cell_of_block hH3 11⟩
  refine hK _ _ (.inr hS3) ?_
  clear hK K
  (try simp only [Act.put, List.setIfInBounds_toArray, List.set_cons_zero, List.set_cons_succ])
  refine wpAnyT_take (i := 4) (v := ?v4_5) rfl (by kernel_rfl) (by kernel_rfl) (by kernel_rfl) (by kernel_rfl) (fun _ _ _ h => h) (Or.inl ⟨by rfl, ?hy4_5⟩) hS3 ?rest4_5
  case hy4_5 => intro w' hSw; obtain ⟨s0, s1, s2, s3, s4, s5, s6, s7, s8, s9, s10, s11, s12, s13, s14, s15, s16, s17⟩ := hSw; go_simp; try with_reducible rfl
  simp only [Act.put, List.setIfInBounds_toArray, List.set_cons_zero, List.set_cons_succ]
  refine wpAnyT_one (i := 6) (by kernel_rfl) rfl (by rfl) fun K hK => ?_
  go_simp
  go_at_call 18; refine ((show Calls _ _ _ _ (InDnB w2.drew.heap.size DD qq w3) by rw [← HD.out, ← HQ.out]; exact l9Create_any (B := w2.drew.heap.size) (v := et0) a b c d F1 kd.size F4 (hn.2.2.2 _ F4) hn.1 F2 F3 hO)).mono ?_
  rintro e w4 hI
  obtain ⟨ta3, tn3, tc3, pa3, pn3, pc3, rfl, th3, ra3, hA, hk4⟩ := hI.new k3 k2.size (show w.heap.size ≤ w.heap.size + 1 + 1 + 1 by omega) hR3 rfl
  have hP4 := b_block hk4 hP3 (by rw [d0]; omega)
  have hX4 := b_block hk4 hX3 (by rw [d0]; omega)
  have hH4 := b_block hk4 hH3 (by rw [d0]; omega)
  have hS4 : w4.cell? ⟨w.heap.size, 0, none⟩ = some (.int .i64 a) ∧ w4.cell? ⟨w.heap.size, 1, none⟩ = some (.int .i64 b) ∧ w4.cell? ⟨w.heap.size, 2, none⟩ = some (.int .i64 c) ∧ w4.cell? ⟨w.heap.size + 1, 0, none⟩ = some (.int .i64 M.c) ∧ w4.cell? ⟨w.heap.size + 1, 1, none⟩ = some (.slice va M.tn vc) ∧ w4.cell? ⟨w.heap.size + 1, 2, none⟩ = some (.slice qa M.pn qc) ∧ w4.cell? ⟨w.heap.size + 1 + 1, 0, none⟩ = some (.int .i64 h.pos) ∧ w4.cell? ⟨w.heap.size + 1 + 1, 1, none⟩ = some (.int .i64 h.call.code) ∧ w4.cell? ⟨w.heap.size + 1 + 1, 2, none⟩ = some (.int .i64 h.call.a) ∧ w4.cell? ⟨w.heap.size + 1 + 1, 3, none⟩ = some (.int .i64 h.call.b) ∧ w4.cell? ⟨w.heap.size + 1 + 1, 4, none⟩ = some (.int .i64 h.call.c) ∧ w4.cell? ⟨w.heap.size + 1 + 1, 5, none⟩ = some (.int .i64 h.tim) ∧ w4.cell? ⟨w.heap.size + 1 + 1, 6, none⟩ = some (.int .i64 h.whe) ∧ w4.cell? ⟨w.heap.size + 1 + 1, 7, none⟩ = some (.bool h.had) ∧ w4.cell? ⟨w.heap.size + 1 + 1, 8, none⟩ = some (.int .i64 h.cnt) ∧ w4.cell? ⟨w.heap.size + 1 + 1, 9, none⟩ = some (.int .i64 h.beg) ∧ w4.cell? ⟨w.heap.size + 1 + 1, 10, none⟩ = some (.int .i64 h.rep) ∧ w4.cell? ⟨w.heap.size + 1 + 1, 11, none⟩ = some (.int .i64 h.out) := ⟨cell_of_block hP4 0, cell_of_block hP4 1, cell_of_block hP4 2, cell_of_block hX4 0, cell_of_block hX4 1, cell_of_block hX4 2, cell_of_block hH4 0, cell_of_block hH4 1, cell_of_block hH4 2, cell_of_block hH4 3, cell_of_block hH4 4, cell_of_block hH4 5, cell_of_block hH4 6, cell_of_block hH4 7, cell_of_block hH4 8, cell_of_block hH4 9, cell_of_block hH4 10, cell_of_block hH4 11⟩
  refine hK _ _ (.inr hS4) ?_
  clear hK K
  (try simp only [Act.put, List.setIfInBounds_toArray, List.set_cons_zero, List.set_cons_succ])
  refine wpAnyT_take (i := 7) (v := ?v7_6) rfl (by kernel_rfl) (by kernel_rfl) (by kernel_rfl) (by kernel_rfl) (fun _ _ _ h => h) (Or.inl ⟨by rfl, ?hy7_6⟩) hS4 ?rest7_6
  case hy7_6 => intro w' hSw; obtain ⟨s0, s1, s2, s3, s4, s5, s6, s7, s8, s9, s10, s11, s12, s13, s14, s15, s16, s17⟩ := hSw; go_simp; try with_reducible rfl
  simp only [Act.put, List.setIfInBounds_toArray, List.set_cons_zero, List.set_cons_succ]
  refine wpAnyT_take (i := 8) (v := ?v8_7) rfl (by kernel_rfl) (by kernel_rfl) (by kernel_rfl) (by kernel_rfl) (fun _ _ _ h => h) (Or.inl ⟨by rfl, ?hy8_7⟩) hS4 ?rest8_7
  case hy8_7 => intro w' hSw; obtain ⟨s0, s1, s2, s3, s4, s5, s6, s7, s8, s9, s10, s11, s12, s13, s14, s15, s16, s17⟩ := hSw; go_simp; try with_reducible rfl
  simp only [Act.put, List.setIfInBounds_toArray, List.set_cons_zero, List.set_cons_succ]
  refine wpAnyT_one (i := 9) (by kernel_rfl) rfl (by rfl) fun K hK => ?_
  refine wp_store_mid 43 _ _ (by rfl) _ 0 (dnCells DD (.slice ta3 tn3 tc3) (.slice pa3 pn3 pc3)) (by rfl) (by rfl) th3 done_info (by simp [Value.oneCell']) ?_
  have hP5 := (heap_setCells_ne (b := w.heap.size + 1 + 1 + 1) (g := w.heap.size) (by omega) (dnCells DD (.slice ta3 tn3 tc3) (.slice pa3 pn3 pc3)).toList 0 w4).trans hP4
  have hX5 := (heap_setCells_ne (b := w.heap.size + 1 + 1 + 1) (g := w.heap.size + 1) (by omega) (dnCells DD (.slice ta3 tn3 tc3) (.slice pa3 pn3 pc3)).toList 0 w4).trans hX4
  have hH5 := (heap_setCells_ne (b := w.heap.size + 1 + 1 + 1) (g := w.heap.size + 1 + 1) (by omega) (dnCells DD (.slice ta3 tn3 tc3) (.slice pa3 pn3 pc3)).toList 0 w4).trans hH4
  generalize hw5 : w4.setCells (w.heap.size + 1 + 1 + 1) 0 (dnCells DD (.slice ta3 tn3 tc3) (.slice pa3 pn3 pc3)).toList = w5 at ra3 hA hP5 hX5 hH5 ⊢
  clear hw5
  have hS5 : w5.cell? ⟨w.heap.size, 0, none⟩ = some (.int .i64 a) ∧ w5.cell? ⟨w.heap.size, 1, none⟩ = some (.int .i64 b) ∧ w5.cell? ⟨w.heap.size, 2, none⟩ = some (.int .i64 c) ∧ w5.cell? ⟨w.heap.size + 1, 0, none⟩ = some (.int .i64 M.c) ∧ w5.cell? ⟨w.heap.size + 1, 1, none⟩ = some (.slice va M.tn vc) ∧ w5.cell? ⟨w.heap.size + 1, 2, none⟩ = some (.slice qa M.pn qc) ∧ w5.cell? ⟨w.heap.size + 1 + 1, 0, none⟩ = some (.int .i64 h.pos) ∧ w5.cell? ⟨w.heap.size + 1 + 1, 1, none⟩ = some (.int .i64 h.call.code) ∧ w5.cell? ⟨w.heap.size + 1 + 1, 2, none⟩ = some (.int .i64 h.call.a) ∧ w5.cell? ⟨w.heap.size + 1 + 1, 3, none⟩ = some (.int .i64 h.call.b) ∧ w5.cell? ⟨w.heap.size + 1 + 1, 4, none⟩ = some (.int .i64 h.call.c) ∧ w5.cell? ⟨w.heap.size + 1 + 1, 5, none⟩ = some (.int .i64 h.tim) ∧ w5.cell? ⟨w.heap.size + 1 + 1, 6, none⟩ = some (.int .i64 h.whe) ∧ w5.cell? ⟨w.heap.size + 1 + 1, 7, none⟩ = some (.bool h.had) ∧ w5.cell? ⟨w.heap.size + 1 + 1, 8, none⟩ = some (.int .i64 h.cnt) ∧ w5.cell? ⟨w.heap.size + 1 + 1, 9, none⟩ = some (.int .i64 h.beg) ∧ w5.cell? ⟨w.heap.size + 1 + 1, 10, none⟩ = some (.int .i64 h.rep) ∧ w5.cell? ⟨w.heap.size + 1 + 1, 11, none⟩ = some (.int .i64 h.out) := ⟨cell_of_block hP5 0, cell_of_block hP5 1, cell_of_block hP5 2, cell_of_block hX5 0, cell_of_block hX5 1, cell_of_block hX5 2, cell_of_block hH5 0, cell_of_block hH5 1, cell_of_block hH5 2, cell_of_block hH5 3, cell_of_block hH5 4, cell_of_block hH5 5, cell_of_block hH5 6, cell_of_block hH5 7, cell_of_block hH5 8, cell_of_block hH5 9, cell_of_block hH5 10, cell_of_block hH5 11⟩
  refine hK _ _ (.inr hS5) ?_
  clear hK K
  (try simp only [Act.put, List.setIfInBounds_toArray, List.set_cons_zero, List.set_cons_succ])
  refine wpAnyT_one (i := 10) (by kernel_rfl) rfl (by rfl) fun K hK => ?_
  go_simp
  refine hK _ _ (.inl rfl) ?_
  clear hK K hS hS3 hS4 hS5
  refine wpAnyT_done (by kernel_rfl) ?_ _
  go_wp2
  exact bodyPost_ret (v := .tuple #[dnV DD (.slice ta3 tn3 tc3) (.slice pa3 pn3 pc3), .bool qq]) (results_pair (cs := (dnCells DD (.slice ta3 tn3 tc3) (.slice pa3 pn3 pc3)).toList) rfl rfl rfl ra3 Tryz.underlying43 rfl done_info) rfl hA

end Go.Proofs.YtcfkginbkammoaaGreat

/-
  The step of one that is new, in the program, and its face (chapter 9): CreateStep.
-/
namespace Go.Proofs.YtcfkginbkammoaaGreat
open Go.Deep Go.RowKit Go.Joins
set_option linter.unusedVariables false
set_option linter.unusedSimpArgs false

/-- what a step does to a deed: it is another one then, or it gives up -/
def Does (q : Bool) (N : Dn) (B mb db : Nat) (a b c d : Int) (w : World) (e : Ending) (w' : World) : Prop :=
  match q with
  | true => e = .returned (.tuple #[]) ∧ InD B mb db a b c d N w w'
  | false => GaveUp B w e w'

set_option maxRecDepth 100000 in
set_option maxHeartbeats 4000000 in
theorem create_1 {w : World} {B mb db : Nat} {a b c d : Int} {M : Me} {h : Hd} (hf : stepFit a b c d M h = true) (hB : B ≤ w.heap.size) (hp : h.pos = 1) (hc : h.call.code = 1) (hd : DeedX w B mb db a b c d ⟨M, h, et0⟩) :
    Calls Tryz.prog 24 #[ptrV db] w fun e w' => e = .returned (.tuple #[]) ∧ InD B mb db a b c d (allocD c ⟨M, h, et0⟩) w w' := by
  have F := stepFit_facts hf
  obtain ⟨hw, hti, hge, hk, _⟩ := stepFit_more hf
  have hn := F.n (homeN a d) hk
  have htn := F.tn
  obtain ⟨_, _, d2, _, _, _, _, _, _, _⟩ := hd.cells
  replace d2 : w.cell? ⟨db, 2, none⟩ = some (.int .i64 1) := hp ▸ d2
  clear hp
  have H := Lib.hid (allocD_any (D := ⟨M, h, et0⟩) hB (show M.tn < 1048576 by omega) hc hd)
  clear hd F hge hti hc
  go_enter Tryz.func24, Tryz.ntmps24
  go_wp2_with (go_at_call 48; refine H.out.mono ?_; rintro e w2 ⟨rfl, hi⟩)
  first | go_end0 | refine bodyPost_ret (results_none rfl _ _ _) rfl ?_
  exact ⟨rfl, hi⟩

set_option maxRecDepth 100000 in
set_option maxHeartbeats 4000000 in
theorem create_1n {w : World} {B mb db : Nat} {a b c d : Int} {M : Me} {h : Hd} (hf : stepFit a b c d M h = true) (hB : B ≤ w.heap.size) (hp : h.pos = 1) (hc : ¬ h.call.code = 1) (hd : DeedX w B mb db a b c d ⟨M, h, et0⟩) :
    Calls Tryz.prog 24 #[ptrV db] w (GaveUp B w) := by
  have F := stepFit_facts hf
  obtain ⟨hw, hti, hge, hk, _⟩ := stepFit_more hf
  have hn := F.n (homeN a d) hk
  have htn := F.tn
  obtain ⟨_, _, d2, _, _, _, _, _, _, _⟩ := hd.cells
  replace d2 : w.cell? ⟨db, 2, none⟩ = some (.int .i64 1) := hp ▸ d2
  clear hp
  have H := Lib.hid (allocD_no (D := ⟨M, h, et0⟩) hB hc hd)
  clear hd F hge hti hc
  go_enter Tryz.func24, Tryz.ntmps24
  go_wp2_with (go_at_call 48; refine H.out.mono ?_; rintro e w2 ⟨⟨u, pv, rfl⟩, hi⟩)
  exact ⟨rfl, ⟨_, _, rfl⟩, hi⟩

set_option maxRecDepth 100000 in
set_option maxHeartbeats 4000000 in
theorem create_2 {w : World} {B mb db : Nat} {a b c d : Int} {M : Me} {h : Hd} (hf : stepFit a b c d M h = true) (hB : B ≤ w.heap.size) (hp : h.pos = 2) (hd : DeedX w B mb db a b c d ⟨M, h, et0⟩) :
    Calls Tryz.prog 24 #[ptrV db] w fun e w' => e = .returned (.tuple #[]) ∧ InD B mb db a b c d (lockD ⟨M, h, et0⟩ d (homeN a d) 3) w w' := by
  have F := stepFit_facts hf
  obtain ⟨hw, hti, hge, hk, _⟩ := stepFit_more hf
  have hn := F.n (homeN a d) hk
  have htn := F.tn
  obtain ⟨_, _, d2, _, _, _, _, _, _, _⟩ := hd.cells
  replace d2 : w.cell? ⟨db, 2, none⟩ = some (.int .i64 2) := hp ▸ d2
  clear hp
  clear F hge hti
  go_enter Tryz.func24, Tryz.ntmps24
  go_wp2_with (first
    | (go_at_call 50; refine (homeD_any hw hd).mono ?_; rintro e w1 ⟨rfl, hb⟩; have h1 := hd.below hb; have k1 : Wd B w w1 := .of_new hb hB)
    | (go_at_call 49; refine (lockD_any 3 (Nat.le_trans hB k1.below.size) hk h1).mono ?_; rintro e w2 ⟨rfl, hi, ki⟩))
  first | go_end0 | refine bodyPost_ret (results_none rfl _ _ _) rfl ?_
  exact ⟨rfl, hi, k1.trans ki⟩

set_option maxRecDepth 100000 in
set_option maxHeartbeats 4000000 in
theorem create_3 {w : World} {B mb db : Nat} {a b c d : Int} {M : Me} {h : Hd} (hf : stepFit a b c d M h = true) (hB : B ≤ w.heap.size) (hp : h.pos = 3) (het : h.tim.toNat < M.tn) (h0 : 0 ≤ h.tim) (hq : armedB M h.tim.toNat = true) (hd : DeedX w B mb db a b c d ⟨M, h, et0⟩) :
    Calls Tryz.prog 24 #[ptrV db] w fun e w' => e = .returned (.tuple #[]) ∧ InD B mb db a b c d (pushD ⟨M, h, et0⟩ (homeN a d)) w w' := by
  have F := stepFit_facts hf
  obtain ⟨hw, hti, hge, hk, _⟩ := stepFit_more hf
  have hn := F.n (homeN a d) hk
  have htn := F.tn
  obtain ⟨_, _, d2, _, _, _, _, _, _, _⟩ := hd.cells
  replace d2 : w.cell? ⟨db, 2, none⟩ = some (.int .i64 3) := hp ▸ d2
  clear hp
  have H := Lib.hid (pushD_yes (D := ⟨M, h, et0⟩) (t := h.tim.toNat) hB hw hk (show (M.p (homeN a d)).n ≤ 1048576 by omega) het (show h.tim = (h.tim.toNat : Int) by omega) hq (hge _ het).1 (hge _ het).2 hd)
  clear hd F hge hti hq het h0
  go_enter Tryz.func24, Tryz.ntmps24
  go_wp2_with (go_at_call 51; refine H.out.mono ?_; rintro e w2 ⟨rfl, hi⟩)
  first | go_end0 | refine bodyPost_ret (results_none rfl _ _ _) rfl ?_
  exact ⟨rfl, hi⟩

set_option maxRecDepth 100000 in
set_option maxHeartbeats 4000000 in
theorem create_3n {w : World} {B mb db : Nat} {a b c d : Int} {M : Me} {h : Hd} (hf : stepFit a b c d M h = true) (hB : B ≤ w.heap.size) (hp : h.pos = 3) (het : h.tim.toNat < M.tn) (h0 : 0 ≤ h.tim) (hq : armedB M h.tim.toNat = false) (hd : DeedX w B mb db a b c d ⟨M, h, et0⟩) :
    Calls Tryz.prog 24 #[ptrV db] w (GaveUp B w) := by
  have F := stepFit_facts hf
  obtain ⟨hw, hti, hge, hk, _⟩ := stepFit_more hf
  have hn := F.n (homeN a d) hk
  have htn := F.tn
  obtain ⟨_, _, d2, _, _, _, _, _, _, _⟩ := hd.cells
  replace d2 : w.cell? ⟨db, 2, none⟩ = some (.int .i64 3) := hp ▸ d2
  clear hp
  have H := Lib.hid (pushD_no (D := ⟨M, h, et0⟩) (t := h.tim.toNat) hB hw hk (show (M.p (homeN a d)).n ≤ 1048576 by omega) het (show h.tim = (h.tim.toNat : Int) by omega) hq (hge _ het).1 (hge _ het).2 hd)
  clear hd F hge hti hq het h0
  go_enter Tryz.func24, Tryz.ntmps24
  go_wp2_with (go_at_call 51; refine H.out.mono ?_; rintro e w2 ⟨⟨u, pv, rfl⟩, hi⟩)
  exact ⟨rfl, ⟨_, _, rfl⟩, hi⟩

set_option maxRecDepth 100000 in
set_option maxHeartbeats 4000000 in
theorem create_3m {w : World} {B mb db : Nat} {a b c d : Int} {M : Me} {h : Hd} (hf : stepFit a b c d M h = true) (hB : B ≤ w.heap.size) (hp : h.pos = 3) (ht : h.tim = -1) (hd : DeedX w B mb db a b c d ⟨M, h, et0⟩) :
    Calls Tryz.prog 24 #[ptrV db] w (GaveUp B w) := by
  have F := stepFit_facts hf
  obtain ⟨hw, hti, hge, hk, _⟩ := stepFit_more hf
  have hn := F.n (homeN a d) hk
  have htn := F.tn
  obtain ⟨_, _, d2, _, _, _, _, _, _, _⟩ := hd.cells
  replace d2 : w.cell? ⟨db, 2, none⟩ = some (.int .i64 3) := hp ▸ d2
  clear hp
  have H := Lib.hid (pushD_neg (D := ⟨M, h, et0⟩) hB ht hd)
  clear hd F hge hti ht
  go_enter Tryz.func24, Tryz.ntmps24
  go_wp2_with (go_at_call 51; refine H.out.mono ?_; rintro e w2 ⟨⟨u, pv, rfl⟩, hi⟩)
  exact ⟨rfl, ⟨_, _, rfl⟩, hi⟩

set_option maxRecDepth 100000 in
set_option maxHeartbeats 4000000 in
theorem create_4 {w : World} {B mb db : Nat} {a b c d : Int} {M : Me} {h : Hd} (hf : stepFit a b c d M h = true) (hB : B ≤ w.heap.size) (hp : h.pos = 4) (hd : DeedX w B mb db a b c d ⟨M, h, et0⟩) :
    Calls Tryz.prog 24 #[ptrV db] w fun e w' => e = .returned (.tuple #[]) ∧ InD B mb db a b c d (freeD ⟨M, h, et0⟩ d (homeN a d)) w w' := by
  have F := stepFit_facts hf
  obtain ⟨hw, hti, hge, hk, _⟩ := stepFit_more hf
  have hn := F.n (homeN a d) hk
  have htn := F.tn
  obtain ⟨_, _, d2, _, _, _, _, _, _, _⟩ := hd.cells
  replace d2 : w.cell? ⟨db, 2, none⟩ = some (.int .i64 4) := hp ▸ d2
  clear hp
  clear F hge hti
  go_enter Tryz.func24, Tryz.ntmps24
  go_wp2_with (first
    | (go_at_call 50; refine (homeD_any hw hd).mono ?_; rintro e w1 ⟨rfl, hb⟩; have h1 := hd.below hb; have k1 : Wd B w w1 := .of_new hb hB)
    | (go_at_call 52; refine (unlockD_any (Nat.le_trans hB k1.below.size) hk h1).mono ?_; rintro e w2 ⟨rfl, h2, ki⟩; have k2 := k1.trans ki)
    | (go_at_call 53; refine (replyArmed_any (Nat.le_trans hB k2.below.size) h2).mono ?_; rintro e w3 ⟨rfl, hi, kj⟩))
  first | go_end0 | refine bodyPost_ret (results_none rfl _ _ _) rfl ?_
  exact ⟨rfl, hi, k2.trans kj⟩

set_option maxRecDepth 100000 in
set_option maxHeartbeats 4000000 in
theorem create_x {w : World} {B mb db : Nat} {a b c d : Int} {M : Me} {h : Hd} (hf : stepFit a b c d M h = true) (hB : B ≤ w.heap.size) (hp : inB h.pos 1 4 = false) (hd : DeedX w B mb db a b c d ⟨M, h, et0⟩) :
    Calls Tryz.prog 24 #[ptrV db] w (GaveUp B w) := by
  have F := stepFit_facts hf
  obtain ⟨hw, hti, hge, hk, _⟩ := stepFit_more hf
  have hn := F.n (homeN a d) hk
  have htn := F.tn
  obtain ⟨_, _, d2, _, _, _, _, _, _, _⟩ := hd.cells
  have n1 : ¬ h.pos = 1 := by intro e; rw [e] at hp; revert hp; decide
  have n2 : ¬ h.pos = 2 := by intro e; rw [e] at hp; revert hp; decide
  have n3 : ¬ h.pos = 3 := by intro e; rw [e] at hp; revert hp; decide
  have n4 : ¬ h.pos = 4 := by intro e; rw [e] at hp; revert hp; decide
  clear F hge hti hp
  go_enter Tryz.func24, Tryz.ntmps24
  go_wp2_with (go_at_call 54; refine (giveUp_any _).mono ?_; rintro e w1 ⟨⟨u, pv, rfl⟩, rfl⟩)
  exact ⟨rfl, ⟨_, _, rfl⟩, Below.refl _ _⟩

theorem create_does {w : World} {B mb db : Nat} {a b c d : Int} {M : Me} {h : Hd} (hf : stepFit a b c d M h = true) (hB : B ≤ w.heap.size) (hd : DeedX w B mb db a b c d ⟨M, h, et0⟩) :
    Calls Tryz.prog 24 #[ptrV db] w (Does (inB h.pos 1 4 && createB ⟨M, h, et0⟩) (createD c d (homeN a d) ⟨M, h, et0⟩) B mb db a b c d w) := by
  obtain ⟨_, hti, _, _, _⟩ := stepFit_more hf
  cases hi : inB h.pos 1 4
  · rw [Bool.false_and]
    exact create_x hf hB hi hd
  rw [Bool.true_and]
  have hi2 := inB_iff.1 hi
  by_cases p1 : h.pos = 1
  · have E : createB ⟨M, h, et0⟩ = (h.call.code == 1) := if_pos p1
    have E2 : createD c d (homeN a d) ⟨M, h, et0⟩ = allocD c ⟨M, h, et0⟩ := if_pos p1
    rw [E, E2]
    by_cases hc : h.call.code = 1
    · rw [show (h.call.code == 1) = true by simpa using hc]
      exact create_1 hf hB p1 hc hd
    · rw [show (h.call.code == 1) = false by simpa using hc]
      exact create_1n hf hB p1 hc hd
  by_cases p2 : h.pos = 2
  · have E : createB ⟨M, h, et0⟩ = true := (if_neg p1).trans (if_pos p2)
    have E2 : createD c d (homeN a d) ⟨M, h, et0⟩ = lockD ⟨M, h, et0⟩ d (homeN a d) 3 := (if_neg p1).trans (if_pos p2)
    rw [E, E2]
    exact create_2 hf hB p2 hd
  by_cases p3 : h.pos = 3
  · have E : createB ⟨M, h, et0⟩ = pushOk ⟨M, h, et0⟩ := (if_neg p1).trans ((if_neg p2).trans (if_pos p3))
    have E2 : createD c d (homeN a d) ⟨M, h, et0⟩ = pushD ⟨M, h, et0⟩ (homeN a d) := (if_neg p1).trans ((if_neg p2).trans (if_pos p3))
    rw [E, E2]
    by_cases h0 : 0 ≤ h.tim
    · rw [show pushOk ⟨M, h, et0⟩ = armedB M h.tim.toNat by simp [pushOk, h0]]
      cases hq : armedB M h.tim.toNat
      · exact create_3n hf hB p3 (hti h0) h0 hq hd
      · exact create_3 hf hB p3 (hti h0) h0 hq hd
    · rw [show pushOk ⟨M, h, et0⟩ = false by simp [pushOk, h0]]
      have : h.tim = -1 := by
        simp only [stepFit, Bool.and_eq_true, Bool.or_eq_true, beq_iff_eq] at hf
        rcases hf.2.2.2 with e | e
        · exact e
        · have := inB_iff.1 e; omega
      exact create_3m hf hB p3 this hd
  · have p4 : h.pos = 4 := by omega
    have E : createB ⟨M, h, et0⟩ = true := (if_neg p1).trans ((if_neg p2).trans (if_neg p3))
    have E2 : createD c d (homeN a d) ⟨M, h, et0⟩ = freeD ⟨M, h, et0⟩ d (homeN a d) := (if_neg p1).trans ((if_neg p2).trans (if_neg p3))
    rw [E, E2]
    exact create_4 hf hB p4 hd

end Go.Proofs.YtcfkginbkammoaaGreat

/-
  A step's memory is no greater than the laws bear (chapters 9 to 14). No Go in sight.
-/
namespace Go.Proofs.YtcfkginbkammoaaGreat
open Go.RowKit Go.Joins
set_option linter.unusedVariables false
set_option linter.unusedSimpArgs false

theorem Near.trans0 {M N K : Me} (h : Near M N) (tn : K.tn = N.tn) (pn : K.pn = N.pn) (c : K.c = N.c) (n : ∀ k, (K.p k).n ≤ (N.p k).n) : Near M K :=
  ⟨tn.trans h.tn, pn.trans h.pn, c.trans h.c, fun k => Nat.le_trans (n k) (h.n k)⟩
theorem near_sub {M K : Me} (tn : K.tn = M.tn) (pn : K.pn = M.pn) (c : K.c = M.c) (n : ∀ k, (K.p k).n ≤ (M.p k).n) : Near M K := (Near.refl M).trans0 tn pn c n
theorem setPc_le (M : Me) (t j : Nat) (x : Int) (k : Nat) : ((setPc M t j x).p k).n ≤ (M.p k).n := Nat.le_of_eq (setPc_n M t j x k)
theorem size_zero : sizeM me0 ≤ 1048576 := by decide
theorem size_add {a b c : Int} {M : Me} (T : Tm) (hf : MemFacts a b c M) : sizeM (addTm M T) ≤ 1048576 := by
  have h1 := (Near.refl M).size hf
  have h2 : sizeM (addTm M T) = sizeM M + 1 := by
    show M.tn + 1 + (M.pn + slotsP M.p M.pn) = M.tn + (M.pn + slotsP M.p M.pn) + 1
    omega
  have h3 : sizeM M ≤ 1000 := by
    have e := hf.pn
    have ht := hf.tn
    have hs : slotsP M.p M.pn ≤ 30 * M.pn := by
      have : ∀ m, m ≤ M.pn → slotsP M.p m ≤ 30 * m := by
        intro m
        induction m with
        | zero => intro _; simp [slotsP]
        | succ m ih =>
          intro h
          have h1 := ih (by omega)
          have h2 := hf.n m (by omega)
          show slotsP M.p m + (M.p m).n ≤ 30 * (m + 1)
          omega
      exact this _ (Nat.le_refl _)
    show M.tn + (M.pn + slotsP M.p M.pn) ≤ 1000
    omega
  omega
theorem near_lock (D : Dn) (d : Int) (k : Nat) (q : Int) : Near D.m (lockD D d k q).m := by
  unfold lockD
  split
  · exact near_sub rfl rfl rfl (setPc_le _ _ _ _)
  · exact Near.refl _
theorem near_unlock (M : Me) (d : Int) (k : Nat) : Near M (unlockM M d k) := by
  unfold unlockM
  split
  · exact near_sub rfl rfl rfl (setPc_le _ _ _ _)
  · exact Near.refl _
theorem near_push (D : Dn) (k : Nat) : Near D.m (pushD D k).m := by
  show Near D.m (pushedM D k)
  unfold pushedM
  have h : Near D.m (genM (keyedM D) D.h.tim.toNat) := by
    unfold keyedM
    split
    · exact near_sub rfl rfl rfl (fun _ => Nat.le_refl _)
    · exact near_sub rfl rfl rfl (fun _ => Nat.le_refl _)
  refine ⟨h.tn, h.pn, h.c, fun x => Nat.le_trans (pushM_n _ _ _ _) (Nat.succ_le_succ ?_)⟩
  unfold keyedM
  split <;> exact Nat.le_refl _
/-- the step of creating -/
theorem createG_size (a b c d : Int) (M : Me) (h : Hd) : sizeM (createG a b c d M h).m ≤ 1048576 := by
  unfold createG
  split
  · rename_i hq
    have hf : MemFacts a b c M := by
      rw [createQ, Bool.and_eq_true] at hq
      exact stepFit_facts hq.1
    unfold createD
    split
    · unfold allocD
      split
      · exact (Near.refl M).size hf
      · exact size_add _ hf
    split
    · exact (near_lock ⟨M, h, et0⟩ d _ _).size hf
    split
    · exact (near_push ⟨M, h, et0⟩ _).size hf
    · exact (near_unlock M d _).size hf
  · exact size_zero

end Go.Proofs.YtcfkginbkammoaaGreat
