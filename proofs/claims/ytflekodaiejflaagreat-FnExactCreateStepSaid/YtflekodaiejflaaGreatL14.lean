/-
  What is done to a slot and to a timer in a memory of one's own (spec, chapter 6): put on one.
-/
import Derived.Test.YtflekodaiejflaaGreatL12
import Derived.Deep.DeepCutAuto
import Derived.Deep.RegionLaw
namespace Go.Proofs.YtflekodaiejflaaGreat
open Go.RowKit Go.Joins
set_option linter.unusedVariables false
set_option linter.unusedSimpArgs false

set_option maxRecDepth 100000 in
set_option maxHeartbeats 8000000 in
theorem l6Push_any {B t k : Nat} {tv pv : Value} {M : Me} {w : World} (hB : B ≤ w.heap.size) (ht : t < M.tn) (hk : k < M.pn) (hn : (M.p k).n ≤ 1048576) (h : OwnMem w B tv pv M) :
    Calls Tryz.prog 94 #[meV M.c tv pv, .int .i64 (t : Int), .int .i64 (k : Int)] w (InMe B (pushM M t k) w) := by
  obtain ⟨pg, pc, V, rfl, ho⟩ := h.openP hk
  clear h
  obtain ⟨tg, tc, rfl, _⟩ := ho.tms ht
  obtain ⟨k1, e1, hA, hR⟩ := twoM_is hB M.c (.slice (some ⟨tg, 0, none⟩) M.tn tc) (.slice (some ⟨pg, 0, none⟩) M.pn pc)
  unfold twoM at k1 e1 hA hR
  have ho1 := ho.below k1
  clear ho
  go_enter Tryz.func94, Tryz.ntmps94
  go_upto_region 1 with fail
  generalize (w.alloc (memO M.c (.slice (some ⟨tg, 0, none⟩) M.tn tc) (.slice (some ⟨pg, 0, none⟩) M.pn pc) 36)).alloc (memO 0 (.slice none 0 0) (.slice none 0 0) 36) = W at k1 hA hR e1 ho1 ⊢
  obtain ⟨x0, x1, x2, _, _, _⟩ := three hA
  have lA := lt_of_block hA
  have lR := lt_of_block hR
  have i0 : (0 : Int) ≤ (k : Int) := by omega
  have i1 : (k : Int) < (M.pn : Int) := by omega
  have i2 : (0 : Int) ≤ (t : Int) := by omega
  have i3 : (t : Int) < (M.tn : Int) := by omega
  have hBW : B ≤ W.heap.size := by omega
  have fT := ho1.t.at.free (t * 8 + 4)
  have fS := ho1.t.at.free (t * 8)
  have c4 : W.cell? ⟨tg, t * 8 + 4, none⟩ = some (.int .i64 (M.t t).pl) := ho1.t.at.cells ht 4 (by decide)
  have c0 : W.cell? ⟨tg, t * 8, none⟩ = some (.int .i64 (M.t t).st) := ho1.t.at.cells ht 0 (by decide)
  go_wp2_with fail
  have ho2 := (ho1.setT ht (show 4 < 8 by decide) (k : Int)).setT (k := t) (j := 0) ht (by decide) 1
  obtain ⟨cs, hcs⟩ := ho1.t.at.hh
  have k2 := (Wk.of_new k1 hB).set hcs ho1.t.at.1 (by decide) (t * 8 + 4) (.int .i64 (k : Int))
  have k3 := k2.set (block_setCell (i := t * 8 + 4) hcs (.int .i64 (k : Int))) ho1.t.at.1 (by decide) (t * 8) (.int .i64 1)
  have hA2 := ((heap_set1 _ tg (t * 8) (.int .i64 1) w.heap.size (ne_ty hA hcs (by decide))).trans (heap_set1 W tg (t * 8 + 4) (.int .i64 (k : Int)) w.heap.size (ne_ty hA hcs (by decide)))).trans hA
  have hR2 := ((heap_set1 _ tg (t * 8) (.int .i64 1) (w.heap.size + 1) (ne_ty hR hcs (by decide))).trans (heap_set1 W tg (t * 8 + 4) (.int .i64 (k : Int)) (w.heap.size + 1) (ne_ty hR hcs (by decide)))).trans hR
  have s2 : ((W.setCell ⟨tg, t * 8 + 4, none⟩ (.int .i64 (k : Int))).setCell ⟨tg, t * 8, none⟩ (.int .i64 1)).heap.size = W.heap.size := by simp
  generalize (W.setCell ⟨tg, t * 8 + 4, none⟩ (.int .i64 (k : Int))).setCell ⟨tg, t * 8, none⟩ (.int .i64 1) = w2 at ho2 k3 hA2 hR2 s2 ⊢
  clear hA hR hcs k2 ho1 x0 x1 x2 fT fS c4 c0
  obtain ⟨N, hN⟩ : ∃ N : Me, N = setTm (setTm M t 4 (k : Int)) t 0 1 := ⟨_, rfl⟩
  have eN1 : (N.t t).wh = (M.t t).wh := by rw [hN, setTm_at, setTm_at]; rfl
  have eN2 : N.p k = M.p k := by rw [hN]; rfl
  have eN3 : pushM M t k = setHp N k (pushedN (N.p k).n) (pushedF (N.p k).f (N.p k).n ((t : Int), (N.t t).wh)) := by rw [eN1, eN2, hN]; rfl
  have eN4 : N.tn = M.tn := by rw [hN]; rfl
  have eN5 : N.pn = M.pn := by rw [hN]; rfl
  have eN6 : N.c = M.c := by rw [hN]; rfl
  have E3 := Lib.hid eN3
  rw [← hN] at ho2
  rw [← eN4] at i3 hA2 ho2 ⊢
  rw [← eN5] at i1 hA2 ⊢
  rw [← eN6] at hA2
  have hk2 : k < N.pn := by omega
  have ht2 : t < N.tn := by omega
  rw [← eN2] at hn
  clear eN1 eN2 eN3 eN4 eN5 eN6 hN hk ht
  obtain ⟨x0, x1, x2, _, _, _⟩ := three hA2
  obtain ⟨y0, y1, y2, f0, f1, f2⟩ := three hR2
  have lA2 := lt_of_block hA2
  have lR2 := lt_of_block hR2
  have c1 : w2.cell? ⟨tg, t * 8 + 1, none⟩ = some (.int .i64 (N.t t).wh) := ho2.t.at.cells ht2 1 (by decide)
  obtain ⟨p0, p1, p2, p3⟩ := ho2.l.cells hk2
  have hrow := (ho2.h.1 k hk2).row
  obtain ⟨ra, rc, hr⟩ := hrow.form
  rw [hr] at p0 hrow
  have hBW2 : B ≤ w2.heap.size := by omega
  go_cut [18] (fun _ wx => ∃ (V' : Nat → Value), OpenMem wx B (.slice (some ⟨tg, 0, none⟩) N.tn tc) pg pc V' (setHp N k (pushedN (N.p k).n) (pushedF (N.p k).f (N.p k).n ((t : Int), (N.t t).wh))) ∧ Wk B w wx ∧ wx.heap[w.heap.size]? = some (memO N.c (.slice (some ⟨tg, 0, none⟩) N.tn tc) (.slice (some ⟨pg, 0, none⟩) N.pn pc) 36) ∧ wx.heap[w.heap.size + 1]? = some (memO 0 (.slice none 0 0) (.slice none 0 0) 36))
  case first =>
    go_region_law (first
      | (go_simp; go_at_call 112; refine (spPushed_any (t : Int) (N.t t).wh hn hrow.drew).mono ?_; rintro x w5 ⟨v, rfl, hO, hb⟩
         replace hb := (Below.refl _ w2).drew.trans (hb.mono (Nat.le_refl _))
         have hA5 := b_block hb hA2 lA2
         have ho5 := ho2.below hb
         have fr := ho5.l.free
         have q0 := fr (k * 4)
         obtain ⟨b0, b1, b2, b3⟩ := ho5.l.cells hk2
         rw [hr] at b0
         obtain ⟨n0, n1, n2, _, _, _⟩ := three hA5
         obtain ⟨oa, oc, hu⟩ := hO.value
         subst hu))
    all_goals
      go_wp2_with fail
      go_meet
      obtain ⟨cs, hcs⟩ := ho5.l.hh
      exact ⟨_, ho2.setNew hBW2 hb hk2 hO, (k3.new hb hB).set hcs ho2.l.1 (by decide) (k * 4) _, (heap_set1 w5 pg (k * 4) _ w.heap.size (ne_ty hA5 hcs (by decide))).trans hA5, (heap_set1 w5 pg (k * 4) _ (w.heap.size + 1) (ne_ty (b_block hb hR2 lR2) hcs (by decide))).trans (b_block hb hR2 lR2)⟩
  case rest =>
    obtain ⟨V', ho6, k6, hA6, hR6⟩ := hcut
    clear x0 x1 x2 y0 y1 y2 f0 f1 f2 p0 p1 p2 p3 hA2 hR2 ho2 c1
    obtain ⟨x0, x1, x2, _, _, _⟩ := three hA6
    obtain ⟨y0, y1, y2, f0, f1, f2⟩ := three hR6
    go_wp2
    exact bodyPost_ret (v := meV N.c (.slice (some ⟨tg, 0, none⟩) N.tn tc) (.slice (some ⟨pg, 0, none⟩) N.pn pc)) (by simp [results, Tryz.results94, go_sem, y0, y1, y2]) rfl (by rw [E3.out]; exact ⟨_, _, rfl, ho6.own.answer hR6 _ _ _, k6.setNew3 hB (Nat.le_succ _) _ _ _⟩)

end Go.Proofs.YtflekodaiejflaaGreat
