/-
  A memory, copied (spec, chapter 5).
-/
import Derived.Test.YtflekodaiejflaaGreatL11
import Derived.Deep.DeepCutAuto
import Derived.Deep.RegionLaw
import Derived.Test.YtflekodaiejflaaGreatL09
import Derived.Test.YtflekodaiejflaaGreatL05
import Derived.Lib.Hide
import Derived.Test.YtflekodaiejflaaGreatL10
import Derived.Deep.MidRow
import Derived.Deep.QuietTactic
import Derived.BigQuiet
namespace Go.Proofs.YtflekodaiejflaaGreat
open Go.RowKit Go.Joins
set_option linter.unusedVariables false
set_option linter.unusedSimpArgs false

set_option maxRecDepth 100000 in
set_option maxHeartbeats 8000000 in
theorem l5Copy_any {tv pv : Value} {M : Me} {w : World} (hs : sizeM M ≤ 1048576) (h : MemAt w tv pv M) :
    Calls Tryz.prog 19 #[meV M.c tv pv] w (NewMe M w) := by
  obtain ⟨htn, hpn, hsl, hn⟩ := sizeM_le hs
  have k0 := (Below.refl w.heap.size w).alloc (Nat.le_refl _) (memO M.c tv pv 36)
  have e0 : (w.alloc (memO M.c tv pv 36)).heap.size = w.heap.size + 1 := by simp
  have k1 := k0.alloc k0.size (memO 0 (.slice none 0 0) (.slice none 0 0) 36)
  have hA := alloc_block (memO 0 (.slice none 0 0) (.slice none 0 0) 36) (heap_alloc_new w (memO M.c tv pv 36))
  have hR := heap_alloc_new (w.alloc (memO M.c tv pv 36)) (memO 0 (.slice none 0 0) (.slice none 0 0) 36)
  rw [e0] at hR
  have HM := Lib.hid (h.below k1)
  obtain ⟨va, vc, qa, qc, rfl, rfl⟩ := h.form
  clear h
  have e1 : ((w.alloc (memO M.c (.slice va M.tn vc) (.slice qa M.pn qc) 36)).alloc (memO 0 (.slice none 0 0) (.slice none 0 0) 36)).heap.size = w.heap.size + 1 + 1 := by simp
  have lA := lt_of_block hA
  go_enter Tryz.func19, Tryz.ntmps19
  go_upto_region 1 with fail
  generalize ((w.alloc (memO M.c (.slice va M.tn vc) (.slice qa M.pn qc) 36)).alloc (memO 0 (.slice none 0 0) (.slice none 0 0) 36)) = W at k1 hA hR HM e1 lA ⊢
  clear e0 k0
  go_cut [3] (fun v3 wx => ∃ (X : Nat) (a : Option Addr) (c : Nat), v3 = .pointer (some ⟨X, 0, none⟩) ∧ W.heap.size ≤ X ∧ X < wx.heap.size ∧ wx.heap[X]? = some (memO M.c (.slice a M.tn c) (.slice none 0 0) 36) ∧ OwnTRow wx W.heap.size (.slice a M.tn c) M.tn M.t ∧ Below W.heap.size W wx)
  case first =>
    have kk := (Below.refl W.heap.size W).drew
    obtain ⟨x0, x1, x2, _, _, _⟩ := three hA
    have HA := Lib.hid hA
    have hoA := Lib.hid (ownT_new M.t (w := W.drew) (b := w.heap.size + 1 + 1) (B := W.heap.size) e1.symm (Nat.le_refl _))
    have hoB := Lib.hid ((ownT_new M.t (w := W.drew) (b := w.heap.size + 1 + 1) (B := W.heap.size) e1.symm (Nat.le_refl _)).alloc (memO 0 (.slice none 0 0) (.slice none 0 0) 36))
    have hoC := Lib.hid (ownT_new M.t (w := W.drew.alloc (memO 0 (.slice none 0 0) (.slice none 0 0) 36)) (b := w.heap.size + 1 + 1 + 1) (B := W.heap.size) (by simp [e1]) (by simp))
    have kA := kk.alloc kk.size (.cells #[] 90)
    have kB := kA.alloc kA.size (memO 0 (.slice none 0 0) (.slice none 0 0) 36)
    have kx := kk.alloc kk.size (memO 0 (.slice none 0 0) (.slice none 0 0) 36)
    have kC := kx.alloc kx.size (.cells #[] 90)
    have hXB : ((W.drew.alloc (.cells #[] 90)).alloc (memO 0 (.slice none 0 0) (.slice none 0 0) 36)).heap[w.heap.size + 1 + 1 + 1]? = some (memO 0 (.slice none 0 0) (.slice none 0 0) 36) := by
      have := heap_alloc_new (W.drew.alloc (.cells #[] 90)) (memO 0 (.slice none 0 0) (.slice none 0 0) 36)
      rwa [show (W.drew.alloc (.cells #[] 90)).heap.size = w.heap.size + 1 + 1 + 1 by simp [e1]] at this
    have hXC : ((W.drew.alloc (memO 0 (.slice none 0 0) (.slice none 0 0) 36)).alloc (.cells #[] 90)).heap[w.heap.size + 1 + 1]? = some (memO 0 (.slice none 0 0) (.slice none 0 0) 36) := by
      have := alloc_block (.cells #[] 90) (heap_alloc_new W.drew (memO 0 (.slice none 0 0) (.slice none 0 0) 36))
      rwa [show W.drew.heap.size = w.heap.size + 1 + 1 from e1] at this
    go_region_held3 (fun w' => w'.cell? ⟨w.heap.size, 0, none⟩ = some (.int .i64 M.c) ∧ w'.cell? ⟨w.heap.size, 1, none⟩ = some (.slice va M.tn vc))
      (first | exact ⟨x0, x1⟩ | exact ⟨(kA.cell (p := ⟨w.heap.size, 0, none⟩) lA).trans x0, (kA.cell (p := ⟨w.heap.size, 1, none⟩) lA).trans x1⟩ | exact ⟨(kx.cell (p := ⟨w.heap.size, 0, none⟩) lA).trans x0, (kx.cell (p := ⟨w.heap.size, 1, none⟩) lA).trans x1⟩ | exact ⟨(kB.cell (p := ⟨w.heap.size, 0, none⟩) lA).trans x0, (kB.cell (p := ⟨w.heap.size, 1, none⟩) lA).trans x1⟩ | exact ⟨(kC.cell (p := ⟨w.heap.size, 0, none⟩) lA).trans x0, (kC.cell (p := ⟨w.heap.size, 1, none⟩) lA).trans x1⟩ | exact ⟨(kT.cell (p := ⟨w.heap.size, 0, none⟩) lA).trans x0, (kT.cell (p := ⟨w.heap.size, 1, none⟩) lA).trans x1⟩ | exact ⟨(kTX.cell (p := ⟨w.heap.size, 0, none⟩) lA).trans x0, (kTX.cell (p := ⟨w.heap.size, 1, none⟩) lA).trans x1⟩ | exact ⟨(kTY.cell (p := ⟨w.heap.size, 0, none⟩) lA).trans x0, (kTY.cell (p := ⟨w.heap.size, 1, none⟩) lA).trans x1⟩ | exact ⟨(kS.cell (p := ⟨w.heap.size, 0, none⟩) lA).trans x0, (kS.cell (p := ⟨w.heap.size, 1, none⟩) lA).trans x1⟩ | go_keep)
      (first
        | (refine step_append_tms rfl (.tmp 7) (.tmp 9) rfl W.heap.size _ 0 M.t rfl hoA.out _ M.tn M.t rfl (HM.out.1.below kA) (by omega) kA.size ?_; intro v2 w2 hown2 hg2 hat2; have hT := ownT_of_row (by simpa [cellsT] using hown2); have kT := kA.trans (b_grown (g := w.heap.size + 1 + 1) hg2 (by omega) kA.size); have kTX := kT.alloc kT.size (memO 0 (.slice none 0 0) (.slice none 0 0) 36); obtain ⟨ta, tc, htv⟩ := hT.row.form; subst htv; have kTY := kT.alloc kT.size (memO M.c (.slice ta M.tn tc) (.slice none 0 0) 36); clear hown2 hg2 hat2)
        | (refine step_append_tms rfl (.tmp 7) (.tmp 9) rfl W.heap.size _ 0 M.t rfl hoB.out _ M.tn M.t rfl (HM.out.1.below kB) (by omega) kB.size ?_; intro v2 w2 hown2 hg2 hat2; have hT := ownT_of_row (by simpa [cellsT] using hown2); have kT := kB.trans (b_grown (g := w.heap.size + 1 + 1) hg2 (by omega) kB.size); have kTX := kT.alloc kT.size (memO 0 (.slice none 0 0) (.slice none 0 0) 36); have hX2 := g_block (g := w.heap.size + 1 + 1) hg2 hXB (by omega); obtain ⟨z0, z1, z2, zf0, zf1, zf2⟩ := three hX2; obtain ⟨ta, tc, htv⟩ := hT.row.form; subst htv; have kS := b_set3 (g := w.heap.size + 1 + 1 + 1) kT (by omega) (.int .i64 M.c) (.slice ta M.tn tc) (.slice none 0 0); clear hown2 hg2 hat2)
        | (refine step_append_tms rfl (.tmp 7) (.tmp 9) rfl W.heap.size _ 0 M.t rfl hoC.out _ M.tn M.t rfl (HM.out.1.below kC) (by omega) kC.size ?_; intro v2 w2 hown2 hg2 hat2; have hT := ownT_of_row (by simpa [cellsT] using hown2); have kT := kC.trans (b_grown (g := w.heap.size + 1 + 1 + 1) hg2 (by omega) kC.size); have kTX := kT.alloc kT.size (memO 0 (.slice none 0 0) (.slice none 0 0) 36); have hX2 := g_block (g := w.heap.size + 1 + 1 + 1) hg2 hXC (by omega); obtain ⟨z0, z1, z2, zf0, zf1, zf2⟩ := three hX2; obtain ⟨ta, tc, htv⟩ := hT.row.form; subst htv; have kS := b_set3 (g := w.heap.size + 1 + 1) kT (by omega) (.int .i64 M.c) (.slice ta M.tn tc) (.slice none 0 0); clear hown2 hg2 hat2))
    · go_wp2_with fail
      go_meet
      exact ⟨_, _, _, rfl, kT.size, by simp, heap_alloc_new w2 _, hT.below ((Below.refl w2.heap.size w2).alloc (Nat.le_refl _) _), kTY⟩
    · go_wp2_with fail
      go_meet
      exact ⟨_, _, _, rfl, by omega, lt_of_block (block_set3 hX2), block_set3 hX2, hT.setMem hX2 _ _ _, kS⟩
    · go_wp2_with fail
      go_meet
      exact ⟨_, _, _, rfl, by omega, lt_of_block (block_set3 hX2), block_set3 hX2, hT.setMem hX2 _ _ _, kS⟩
  case rest =>
    obtain ⟨X, ta, tc, rfl, lX0, lX, hX, hT, kW⟩ := hcut
    have lR := lt_of_block hR
    have HA0 := Lib.hid hA
    have HR0 := Lib.hid hR
    have HP0 := Lib.hid HM.out.2
    obtain ⟨B, hB⟩ : ∃ B, B = wc.heap.size := ⟨_, rfl⟩
    have hT1 := hT.innAt hB
    have hXB : X < B := by omega
    have HN := Lib.hid hn
    have lRB : w.heap.size + 1 < B := by omega
    have lBw : B ≤ wc.heap.size := by omega
    have hWX : w.heap.size + 1 + 1 ≤ X := by omega
    have hWB : W.heap.size = w.heap.size + 1 + 1 := e1
    have hWBB : W.heap.size ≤ B := by omega
    have hA1 := b_block kW hA lA
    obtain ⟨a0, a1, a2, _, _, _⟩ := three hA1
    clear hA hR HM hT hn hA1
    go_wp2_with fail
    go_loopw [4] (fun i wr => ∃ (k : Nat) (pv : Value) (V : Nat → Value), k ≤ M.pn ∧ i = .int .i64 k ∧ wr.heap[X]? = some (memO M.c (.slice ta M.tn tc) pv 36) ∧ OwnTIn wr W.heap.size B (.slice ta M.tn tc) M.tn M.t ∧ ListRow wr B pv k M.p V ∧ HeapsAt wr B k M.p V ∧ B ≤ wr.heap.size ∧ Below W.heap.size W wr) (fun i _ => M.pn - (intOf i).toNat)
    case atStart => exact ⟨0, _, _, Nat.zero_le _, rfl, hX, hT1, .inl ⟨rfl, rfl⟩, HeapsAt.zero _ _ _ (fun _ => .slice none 0 0), lBw, kW⟩
    case round =>
      clear hX hT1 kW a0 a1 a2
      obtain ⟨k, pv, V, hk, rfl, hX, hT, hL, hH, hBw, kw⟩ := hrel
      have hA := b_block kw HA0.out lA
      have hR := b_block kw HR0.out lR
      have hS := HP0.out.below kw
      obtain ⟨x0, x1, x2, xf0, xf1, xf2⟩ := three hX
      obtain ⟨a0, a1, a2, _, _, _⟩ := three hA
      obtain ⟨pa, pc, hpv⟩ := hL.form
      by_cases hlt : k < M.pn
      · have i1 : (k : Int) < (M.pn : Int) := by omega
        have lXr := lt_of_block hX
        have hnk := HN.out k hlt
        rcases hS with ⟨h0, _⟩ | ⟨sb, soff, scap, es, sl, sc⟩
        · omega
        injection es with es1 es2 es3
        obtain ⟨ha, hcap, s0, s1, s2, s3, srow⟩ := sc k hlt
        subst hpv es1 es3
        clear sc
        go_wp2_with fail
        go_region_law (first
          | (go_simp; go_at_call 42; refine (l4Copy_any (M.p k).l (M.p k).e (M.p k).d hnk srow.drew).mono ?_; rintro x w1 ⟨u, rfl, hO, hb⟩
             replace hb := (Below.refl wr.heap.size wr).drew.trans (hb.mono (Nat.le_refl _))
             obtain ⟨ua, uc, hu⟩ := hO.value
             subst hu
             have hXa := alloc_block (.cells #[.slice ua (M.p k).n uc, .int .i64 (M.p k).l, .int .i64 (M.p k).e, .int .i64 (M.p k).d] 87) (b_block hb hX lXr)
             have q2 := (hb.cell (p := ⟨X, 2, none⟩) lXr).trans x2
             have q3 := cell_of_block hXa 2
             have ho := Lib.hid ((rowP_of_list (hL.below hb)).alloc (.cells #[.slice ua (M.p k).n uc, .int .i64 (M.p k).l, .int .i64 (M.p k).e, .int .i64 (M.p k).d] 87))
             have hP := Lib.hid (heap_alloc_new w1 (.cells #[.slice ua (M.p k).n uc, .int .i64 (M.p k).l, .int .i64 (M.p k).e, .int .i64 (M.p k).d] 87))
             have hsz := hb.size
             have hBa : B ≤ (w1.alloc (.cells #[.slice ua (M.p k).n uc, .int .i64 (M.p k).l, .int .i64 (M.p k).e, .int .i64 (M.p k).d] 87)).heap.size := by simp; omega
             have hTa := (hT.keep (Same.of_below hb (Nat.le_trans hBw (Nat.le_refl _)))).keep (Same.of_below ((Below.refl w1.heap.size w1).alloc (Nat.le_refl _) (.cells #[.slice ua (M.p k).n uc, .int .i64 (M.p k).l, .int .i64 (M.p k).e, .int .i64 (M.p k).d] 87)) (Nat.le_trans hBw hsz))
             have ka := (kw.trans (hb.mono kw.size)).alloc (Nat.le_trans kw.size hsz) (.cells #[.slice ua (M.p k).n uc, .int .i64 (M.p k).l, .int .i64 (M.p k).e, .int .i64 (M.p k).d] 87)
             have hHa := (hH.below hb).below ((Below.refl w1.heap.size w1).alloc (Nat.le_refl _) (.cells #[.slice ua (M.p k).n uc, .int .i64 (M.p k).l, .int .i64 (M.p k).e, .int .i64 (M.p k).d] 87))
             have hLa := (hL.below hb).below ((Below.refl w1.heap.size w1).alloc (Nat.le_refl _) (.cells #[.slice ua (M.p k).n uc, .int .i64 (M.p k).l, .int .i64 (M.p k).e, .int .i64 (M.p k).d] 87))
             have hOa := (hO.below ((Below.refl w1.heap.size w1).alloc (Nat.le_refl _) (.cells #[.slice ua (M.p k).n uc, .int .i64 (M.p k).l, .int .i64 (M.p k).e, .int .i64 (M.p k).d] 87))).mono hBw
             have hdis : ∀ i, i < k → ∀ x, (V i).ownBlock = some x → (Value.slice ua (M.p k).n uc).ownBlock ≠ some x := fun i hi x hx e => by
               have h1 := (hH.1 i hi).lt_size x hx
               have h2 : wr.heap.size ≤ x := hO.block_ge x e
               omega
             have hlast := Nat.le_trans kw.size hsz)
          | (refine step_append_proc rfl (.tmp 20) (.tmp 27) rfl B _ k M.p V rfl ho.out _ (M.p k) (.slice ua (M.p k).n uc) rfl rfl hP.out (by omega) hBa ?_
             intro v' w' hown hg hat
             have hob := fun x hx => (hLa.block_ge (x := x) hx)
             have hX' : w'.heap[X]? = _ := (hg.block X (lt_of_block hXa) (fun e => by have := hob X e.symm; omega)).trans hXa
             have kB' := b_grownO hg hob hBa
             have hT' := hTa.keep (Same.of_below kB' (Nat.le_refl _))
             have hn' : ∀ i, i < k + 1 → putP M.p k (M.p k) i = M.p i := fun i _ => by unfold putP; split <;> simp_all
             have hH' := ((hHa.grown hLa hg).add (p := M.p k) (hOa.keptO hg hLa) hdis).congr (Q := M.p) (U := putV V k (.slice ua (M.p k).n uc)) hn' (fun _ _ => rfl)
             have hL' := (listP_of_row hown).congr (Q := M.p) hn' (fun _ _ => rfl)
             obtain ⟨qa2, qc2, hqv⟩ := hL'.form
             obtain ⟨y0, y1, y2, yf0, yf1, yf2⟩ := three hX'
             have kw' := ka.trans (b_grownO hg (fun x hx => Nat.le_trans hWBB (hob x hx)) ka.size)
             subst hqv
             have hs' := hg.size
             have hTz := OwnTIn.setM hT' hX' 2 (.slice qa2 (k + 1) qc2)
             have hBs : B ≤ (w'.setCell ⟨X, 2, none⟩ (.slice qa2 (k + 1) qc2)).heap.size := by simp; exact Nat.le_trans hBa hs'
             clear hg hown hat hXa hHa hLa hOa hdis hTa ka ho hP))
        all_goals
          clear y0 y1 y2 yf0 yf1 yf2 x0 x1 x2 xf0 xf1 xf2 a0 a1 a2 q2 q3 s0 s1 s2 s3 srow
          go_wp2
          exact ⟨⟨k + 1, _, _, by omega, by go_num, block_setCell (i := 2) hX' _, hTz, hL'.set hXB 2 _, hH'.set hXB 2 _, hBs, kw'.setCell (p := ⟨X, 2, none⟩) lX0 _⟩, by simp only [intOf]; omega⟩
      · have hkn : k = M.pn := by omega
        subst hkn
        subst hpv
        have i1 : ¬ (M.pn : Int) < (M.pn : Int) := by omega
        obtain ⟨r0, r1, r2, rf0, rf1, rf2⟩ := three hR
        have hOf : OwnPRow wr B (.slice pa M.pn pc) M.pn M.p := hL.own hH
        go_wp2
        exact bodyPost_ret (v := meV M.c (.slice ta M.tn tc) (.slice pa M.pn pc)) (by simp [results, Tryz.results19, go_sem, r0, r1, r2]) rfl ⟨_, _, rfl, ⟨(hT.own.set3 (by omega) _ _ _).mono (by omega), (hOf.set3 (by omega) _ _ _).mono (by omega)⟩, b_set3 (k1.trans (kw.mono k1.size)) (Nat.le_succ _) _ _ _⟩

end Go.Proofs.YtflekodaiejflaaGreat

/-
  Two blocks of a function that works in a memory of its own: its parameter's, its answer's (spec, chapter 6).
-/
namespace Go.Proofs.YtflekodaiejflaaGreat
open Go.RowKit Go.Joins
set_option linter.unusedVariables false
set_option linter.unusedSimpArgs false

/-- two blocks of a memory: the parameter, and what is answered -/
abbrev twoM (w : World) (c : Int) (tv pv : Value) : World := (w.alloc (memO c tv pv 36)).alloc (memO 0 (.slice none 0 0) (.slice none 0 0) 36)
theorem OwnMem.answer {w : World} {B R : Nat} {tv pv : Value} {M : Me} {cR : Array Value} (h : OwnMem w B tv pv M) (hR : w.heap[R]? = some (.cells cR 36 (0, 0))) (x y z : Value) :
    OwnMem (((w.setCell ⟨R, 0, none⟩ x).setCell ⟨R, 1, none⟩ y).setCell ⟨R, 2, none⟩ z) B tv pv M := h.other hR (by decide) (by decide) (by decide) (fun _ hy => heap_set3 w R x y z hy)
theorem twoM_is {B : Nat} {w : World} (hB : B ≤ w.heap.size) (c : Int) (tv pv : Value) :
    Below w.heap.size w (twoM w c tv pv) ∧ (twoM w c tv pv).heap.size = w.heap.size + 1 + 1 ∧ (twoM w c tv pv).heap[w.heap.size]? = some (memO c tv pv 36) ∧ (twoM w c tv pv).heap[w.heap.size + 1]? = some (memO 0 (.slice none 0 0) (.slice none 0 0) 36) := by
  have k0 := (Below.refl w.heap.size w).alloc (Nat.le_refl _) (memO c tv pv 36)
  have e0 : (w.alloc (memO c tv pv 36)).heap.size = w.heap.size + 1 := by simp
  have hR := heap_alloc_new (w.alloc (memO c tv pv 36)) (memO 0 (.slice none 0 0) (.slice none 0 0) 36)
  rw [e0] at hR
  exact ⟨k0.alloc k0.size _, by simp, alloc_block _ (heap_alloc_new w _), hR⟩

end Go.Proofs.YtflekodaiejflaaGreat

/-
  The state of a function that works in a memory of its own: its parameter's block, its answer's, and the memory (spec, chapter 6).
-/
namespace Go.Proofs.YtflekodaiejflaaGreat
open Go.RowKit Go.Joins
set_option linter.unusedVariables false
set_option linter.unusedSimpArgs false

theorem OpenMem.answer {w : World} {B R pg pc : Nat} {tv : Value} {V : Nat → Value} {M : Me} {cR : Array Value} (h : OpenMem w B tv pg pc V M) (hR : w.heap[R]? = some (.cells cR 36 (0, 0))) (x y z : Value) :
    OpenMem (((w.setCell ⟨R, 0, none⟩ x).setCell ⟨R, 1, none⟩ y).setCell ⟨R, 2, none⟩ z) B tv pg pc V M := h.other hR (by decide) (by decide) (by decide) (fun _ hy => heap_set3 w R x y z hy)

/-- what a call answered, its lists' lengths and its clock as they are told elsewhere -/
theorem InMe.form {B k : Nat} {c : Int} {pn : Nat} {M : Me} {w w' : World} {e : Ending} (h : InMe B M w e w') (hc : M.c = c) (hp : M.pn = pn) (hk : k < pn) :
    ∃ tv pg pc V, e = .returned (meV c tv (.slice (some ⟨pg, 0, none⟩) pn pc)) ∧ OpenMem w' B tv pg pc V M ∧ Wk B w w' := by
  subst hc hp
  obtain ⟨tv, pv, e1, ho, hw⟩ := h
  obtain ⟨pg, pc, V, rfl, hp2⟩ := ho.openP hk
  exact ⟨tv, pg, pc, V, e1, hp2, hw⟩
theorem InMe.formT {B k t : Nat} {c : Int} {pn tn : Nat} {M : Me} {w w' : World} {e : Ending} (h : InMe B M w e w') (hc : M.c = c) (hp : M.pn = pn) (hn : M.tn = tn) (hk : k < pn) (ht : t < tn) :
    ∃ tg tc pg pc V, e = .returned (meV c (.slice (some ⟨tg, 0, none⟩) tn tc) (.slice (some ⟨pg, 0, none⟩) pn pc)) ∧ OpenMem w' B (.slice (some ⟨tg, 0, none⟩) tn tc) pg pc V M ∧ Wk B w w' := by
  subst hc hp hn
  obtain ⟨tv, pv, e1, ho, hw⟩ := h
  obtain ⟨pg, pc, V, rfl, hp2⟩ := ho.openP hk
  obtain ⟨tg, tc, rfl, _⟩ := hp2.tms ht
  exact ⟨tg, tc, pg, pc, V, e1, hp2, hw⟩

structure MSt (w0 w : World) (B : Nat) (c : Int) (tv : Value) (pg pn pc : Nat) (V : Nat → Value) (M : Me) : Prop where
  o : OpenMem w B tv pg pc V M
  k : Wk B w0 w
  a : w.heap[w0.heap.size]? = some (memO c tv (.slice (some ⟨pg, 0, none⟩) pn pc) 36)
  r : w.heap[w0.heap.size + 1]? = some (memO 0 (.slice none 0 0) (.slice none 0 0) 36)
  b : B ≤ w0.heap.size
  ec : M.c = c
  ep : M.pn = pn
theorem MSt.start {B pg pc : Nat} {tv : Value} {V : Nat → Value} {M : Me} {w : World} (hB : B ≤ w.heap.size) (h : OpenMem w B tv pg pc V M) :
    ∃ wq, RowKit.Hid (wq = (w.alloc (memO M.c tv (.slice (some ⟨pg, 0, none⟩) M.pn pc) 36)).alloc (memO 0 (.slice none 0 0) (.slice none 0 0) 36)) ∧ MSt w wq B M.c tv pg M.pn pc V M := by
  obtain ⟨k1, e1, hA, hR⟩ := twoM_is hB M.c tv (.slice (some ⟨pg, 0, none⟩) M.pn pc)
  exact ⟨_, Lib.hid rfl, h.below k1, Wk.of_new k1 hB, hA, hR, hB, rfl, rfl⟩
section
variable {w0 w w' : World} {B pg pn pc : Nat} {c : Int} {tv : Value} {V : Nat → Value} {M : Me}
theorem MSt.size (h : MSt w0 w B c tv pg pn pc V M) : w0.heap.size + 1 < w.heap.size ∧ B ≤ w.heap.size := by
  have := lt_of_block h.r
  have := h.b
  exact ⟨by omega, by omega⟩
theorem MSt.own (h : MSt w0 w B c tv pg pn pc V M) : OwnMem w B tv (.slice (some ⟨pg, 0, none⟩) pn pc) M := by
  have e := h.ep
  subst e
  exact h.o.own
/-- what is read and written of the two blocks -/
theorem MSt.cells (h : MSt w0 w B c tv pg pn pc V M) :
    (w.cell? ⟨w0.heap.size, 0, none⟩ = some (.int .i64 c) ∧ w.cell? ⟨w0.heap.size, 1, none⟩ = some tv ∧ w.cell? ⟨w0.heap.size, 2, none⟩ = some (.slice (some ⟨pg, 0, none⟩) pn pc) ∧ w.frozen? ⟨w0.heap.size, 0, none⟩ = false ∧ w.frozen? ⟨w0.heap.size, 1, none⟩ = false ∧ w.frozen? ⟨w0.heap.size, 2, none⟩ = false) ∧
    (w.cell? ⟨w0.heap.size + 1, 0, none⟩ = some (.int .i64 0) ∧ w.cell? ⟨w0.heap.size + 1, 1, none⟩ = some (.slice none 0 0) ∧ w.cell? ⟨w0.heap.size + 1, 2, none⟩ = some (.slice none 0 0) ∧ w.frozen? ⟨w0.heap.size + 1, 0, none⟩ = false ∧ w.frozen? ⟨w0.heap.size + 1, 1, none⟩ = false ∧ w.frozen? ⟨w0.heap.size + 1, 2, none⟩ = false) :=
  ⟨three h.a, three h.r⟩
theorem MSt.setT {tg n tc : Nat} (h : MSt w0 w B c (.slice (some ⟨tg, 0, none⟩) n tc) pg pn pc V M) {t : Nat} (j : Nat) (ht : t < M.tn) (hj : j < 8) (x : Int) :
    ∃ wq, RowKit.Hid (wq = w.setCell ⟨tg, t * 8 + j, none⟩ (.int .i64 x)) ∧ MSt w0 wq B c (.slice (some ⟨tg, 0, none⟩) n tc) pg pn pc V (setTm M t j x) := by
  have hn := h.o.t.len
  subst hn
  obtain ⟨cs, hcs⟩ := h.o.t.at.hh
  exact ⟨_, Lib.hid rfl, h.o.setT ht hj x, h.k.set hcs h.o.t.at.1 (by decide) _ _, (heap_set1 w tg _ _ _ (ne_ty h.a hcs (by decide))).trans h.a, (heap_set1 w tg _ _ _ (ne_ty h.r hcs (by decide))).trans h.r, h.b, h.ec, h.ep⟩
theorem MSt.setT0 {tg n tc : Nat} (h : MSt w0 w B c (.slice (some ⟨tg, 0, none⟩) n tc) pg pn pc V M) {t : Nat} (ht : t < M.tn) (x : Int) :
    ∃ wq, RowKit.Hid (wq = w.setCell ⟨tg, t * 8, none⟩ (.int .i64 x)) ∧ MSt w0 wq B c (.slice (some ⟨tg, 0, none⟩) n tc) pg pn pc V (setTm M t 0 x) := h.setT 0 ht (by decide) x
theorem MSt.setP (h : MSt w0 w B c tv pg pn pc V M) {k : Nat} (j : Nat) (hk : k < M.pn) (hj : j = 1 ∨ j = 2 ∨ j = 3) (x : Int) :
    ∃ wq, RowKit.Hid (wq = w.setCell ⟨pg, k * 4 + j, none⟩ (.int .i64 x)) ∧ MSt w0 wq B c tv pg pn pc V (setPc M k j x) := by
  obtain ⟨cs, hcs⟩ := h.o.l.hh
  exact ⟨_, Lib.hid rfl, h.o.setP hk hj x, h.k.set hcs h.o.l.1 (by decide) _ _, (heap_set1 w pg _ _ _ (ne_ty h.a hcs (by decide))).trans h.a, (heap_set1 w pg _ _ _ (ne_ty h.r hcs (by decide))).trans h.r, h.b, h.ec, h.ep⟩
/-- what a call answered comes into the parameter's block -/
theorem MSt.call {pg' pc' : Nat} {tv' : Value} {V' : Nat → Value} {M' : Me} (h : MSt w0 w B c tv pg pn pc V M) (ho : OpenMem w' B tv' pg' pc' V' M') (hk : Wk B w w') (hc : M'.c = c) (hp : M'.pn = pn) :
    ∃ wq, RowKit.Hid (wq = ((w'.setCell ⟨w0.heap.size, 0, none⟩ (.int .i64 c)).setCell ⟨w0.heap.size, 1, none⟩ tv').setCell ⟨w0.heap.size, 2, none⟩ (.slice (some ⟨pg', 0, none⟩) pn pc')) ∧ MSt w0 wq B c tv' pg' pn pc' V' M' := by
  have hA := hk.kept h.a (by decide)
  exact ⟨_, Lib.hid rfl, ho.answer hA _ _ _, (h.k.trans hk).setNew3 h.b (Nat.le_refl _) _ _ _, block_set3 hA, (heap_set3 w' w0.heap.size _ _ _ (by omega)).trans (hk.kept h.r (by decide)), h.b, hc, hp⟩
theorem MSt.below (h : MSt w0 w B c tv pg pn pc V M) (hb : Below w.heap.size w w') : MSt w0 w' B c tv pg pn pc V M :=
  ⟨h.o.below hb, h.k.new hb h.b, b_block hb h.a (lt_of_block h.a), b_block hb h.r (lt_of_block h.r), h.b, h.ec, h.ep⟩
theorem MSt.drew (h : MSt w0 w B c tv pg pn pc V M) : MSt w0 w.drew B c tv pg pn pc V M := h.below (Below.refl _ w).drew
/-- the memory of a processor's cells in the blocks after a call -/
theorem MSt.blockA (h : MSt w0 w B c tv pg pn pc V M) (hk : Wk B w w') : (w'.cell? ⟨w0.heap.size, 0, none⟩ = some (.int .i64 c) ∧ w'.cell? ⟨w0.heap.size, 1, none⟩ = some tv ∧ w'.cell? ⟨w0.heap.size, 2, none⟩ = some (.slice (some ⟨pg, 0, none⟩) pn pc) ∧ w'.frozen? ⟨w0.heap.size, 0, none⟩ = false ∧ w'.frozen? ⟨w0.heap.size, 1, none⟩ = false ∧ w'.frozen? ⟨w0.heap.size, 2, none⟩ = false) ∧ (w'.cell? ⟨w0.heap.size + 1, 0, none⟩ = some (.int .i64 0) ∧ w'.cell? ⟨w0.heap.size + 1, 1, none⟩ = some (.slice none 0 0) ∧ w'.cell? ⟨w0.heap.size + 1, 2, none⟩ = some (.slice none 0 0) ∧ w'.frozen? ⟨w0.heap.size + 1, 0, none⟩ = false ∧ w'.frozen? ⟨w0.heap.size + 1, 1, none⟩ = false ∧ w'.frozen? ⟨w0.heap.size + 1, 2, none⟩ = false) :=
  ⟨three (hk.kept h.a (by decide)), three (hk.kept h.r (by decide))⟩
/-- a timer's numbers -/
theorem MSt.tcells {tg n tc : Nat} (h : MSt w0 w B c (.slice (some ⟨tg, 0, none⟩) n tc) pg pn pc V M) {t : Nat} (ht : t < M.tn) {T : Tm} (hT : M.t t = T) :
    (w.cell? ⟨tg, t * 8, none⟩ = some (.int .i64 T.st) ∧ w.cell? ⟨tg, t * 8 + 1, none⟩ = some (.int .i64 T.wh) ∧ w.cell? ⟨tg, t * 8 + 2, none⟩ = some (.int .i64 T.nx) ∧ w.cell? ⟨tg, t * 8 + 3, none⟩ = some (.int .i64 T.pe) ∧ w.cell? ⟨tg, t * 8 + 4, none⟩ = some (.int .i64 T.pl) ∧ w.cell? ⟨tg, t * 8 + 5, none⟩ = some (.int .i64 T.ge) ∧ w.cell? ⟨tg, t * 8 + 6, none⟩ = some (.int .i64 T.ki) ∧ w.cell? ⟨tg, t * 8 + 7, none⟩ = some (.int .i64 T.ma)) ∧
    ∀ o, w.frozen? ⟨tg, o, none⟩ = false := by
  have hn := h.o.t.len
  subst hn hT
  have hc := h.o.t.at.cells ht
  exact ⟨⟨hc 0 (by decide), hc 1 (by decide), hc 2 (by decide), hc 3 (by decide), hc 4 (by decide), hc 5 (by decide), hc 6 (by decide), hc 7 (by decide)⟩, h.o.t.at.free⟩
/-- a processor's cells -/
theorem MSt.pcells (h : MSt w0 w B c tv pg pn pc V M) {k : Nat} (hk : k < M.pn) {p : Pc} (hp : M.p k = p) :
    (∃ a c', V k = .slice a p.n c' ∧ w.cell? ⟨pg, k * 4, none⟩ = some (.slice a p.n c')) ∧ (w.cell? ⟨pg, k * 4 + 1, none⟩ = some (.int .i64 p.l) ∧ w.cell? ⟨pg, k * 4 + 2, none⟩ = some (.int .i64 p.e) ∧ w.cell? ⟨pg, k * 4 + 3, none⟩ = some (.int .i64 p.d)) ∧ ∀ o, w.frozen? ⟨pg, o, none⟩ = false := by
  subst hp
  obtain ⟨p0, p1, p2, p3⟩ := h.o.l.cells hk
  obtain ⟨a, c', e⟩ := (h.o.h.1 k hk).value
  exact ⟨⟨a, c', e, by rw [← e]; exact p0⟩, ⟨p1, p2, p3⟩, h.o.l.free⟩
/-- a slot's cells: of the processor k the slot i -/
theorem MSt.slot (h : MSt w0 w B c tv pg pn pc V M) {k i : Nat} (hk : k < M.pn) (hi : i < (M.p k).n) :
    ∃ g c', w.cell? ⟨pg, k * 4, none⟩ = some (.slice (some ⟨g, 0, none⟩) (M.p k).n c') ∧ w.cell? ⟨g, i * 2, none⟩ = some (.int .i64 ((M.p k).f i).1) ∧ w.cell? ⟨g, i * 2 + 1, none⟩ = some (.int .i64 ((M.p k).f i).2) := by
  rcases h.o.h.1 k hk with ⟨h0, _⟩ | ⟨g, c', e, hO⟩
  · omega
  · exact ⟨g, c', by rw [← e]; exact (h.o.l.cells hk).1, (hO.cells hi).1, (hO.cells hi).2⟩
/-- the answer, out of its block -/
theorem MSt.ret (h : MSt w0 w B c tv pg pn pc V M) (x y z : Value) :
    InMe B M w0 (.returned (meV c tv (.slice (some ⟨pg, 0, none⟩) pn pc))) (((w.setCell ⟨w0.heap.size + 1, 0, none⟩ x).setCell ⟨w0.heap.size + 1, 1, none⟩ y).setCell ⟨w0.heap.size + 1, 2, none⟩ z) := by
  have e1 := h.ec
  have e2 := h.ep
  subst e1 e2
  exact ⟨_, _, rfl, (h.o.answer h.r x y z).own, h.k.setNew3 h.b (Nat.le_succ _) x y z⟩
theorem MSt.retB (h : MSt w0 w B c tv pg pn pc V M) (b : Bool) (x y z : Value) :
    InMeB B M b w0 (.returned (.tuple #[meV c tv (.slice (some ⟨pg, 0, none⟩) pn pc), .bool b])) (((w.setCell ⟨w0.heap.size + 1, 0, none⟩ x).setCell ⟨w0.heap.size + 1, 1, none⟩ y).setCell ⟨w0.heap.size + 1, 2, none⟩ z) := by
  obtain ⟨tv', pv', e, ho, hk⟩ := h.ret x y z
  injection e with e
  injection e with e
  have e1 := congrArg (fun a : Array Value => a[1]?) e
  have e2 := congrArg (fun a : Array Value => a[2]?) e
  simp at e1 e2
  subst e1 e2
  have e1 := h.ec
  subst e1
  exact ⟨_, _, rfl, ho, hk⟩
theorem MSt.retI (h : MSt w0 w B c tv pg pn pc V M) (i : Int) (x y z : Value) :
    InMeI B M i w0 (.returned (.tuple #[meV c tv (.slice (some ⟨pg, 0, none⟩) pn pc), .int .i64 i])) (((w.setCell ⟨w0.heap.size + 1, 0, none⟩ x).setCell ⟨w0.heap.size + 1, 1, none⟩ y).setCell ⟨w0.heap.size + 1, 2, none⟩ z) := by
  obtain ⟨tv', pv', e, ho, hk⟩ := h.ret x y z
  injection e with e
  injection e with e
  have e1 := congrArg (fun a : Array Value => a[1]?) e
  have e2 := congrArg (fun a : Array Value => a[2]?) e
  simp at e1 e2
  subst e1 e2
  have e1 := h.ec
  subst e1
  exact ⟨_, _, rfl, ho, hk⟩
/-- the same, where the answer is what a call answered -/
theorem MSt.retCallB {tv' pv' : Value} {M' : Me} (h : MSt w0 w B c tv pg pn pc V M) (ho : OwnMem w' B tv' pv' M') (hk : Wk B w w') (b : Bool) (x y z : Value) :
    InMeB B M' b w0 (.returned (.tuple #[meV M'.c tv' pv', .bool b])) (((w'.setCell ⟨w0.heap.size + 1, 0, none⟩ x).setCell ⟨w0.heap.size + 1, 1, none⟩ y).setCell ⟨w0.heap.size + 1, 2, none⟩ z) :=
  ⟨_, _, rfl, ho.answer (hk.kept h.r (by decide)) x y z, (h.k.trans hk).setNew3 h.b (Nat.le_succ _) x y z⟩
end

end Go.Proofs.YtflekodaiejflaaGreat

/-
  The state of a function that works on what comes of a step: its parameter, its answer, the memory (chapter 9).
-/
namespace Go.Proofs.YtflekodaiejflaaGreat
open Go.ChangeShapes Go.WideShapes Go.ChangeAt Go.RowKit Go.Joins
set_option linter.unusedVariables false
set_option linter.unusedSimpArgs false

theorem heap_set_ne {w : World} {b g : Nat} (o : Nat) (x : Value) (h : g ≠ b) : (w.setCell ⟨b, o, none⟩ x).heap[g]? = w.heap[g]? := Below.heap_setCell w ⟨b, o, none⟩ x g h
/-! ### a whole struct at once -/
theorem range_of_block {w : World} {b : Nat} {C : Array Value} {t : TypeId} {fr : Nat × Nat} (h : w.heap[b]? = some (.cells C t fr)) : w.rangeAt b 0 C.toList := fun j v hv => by
  rw [Nat.zero_add, cell_of_block h j]
  simpa using hv
theorem there_of_block {w : World} {b : Nat} {C : Array Value} {t : TypeId} (h : w.heap[b]? = some (.cells C t (0, 0))) : w.there b 0 C.size := fun j hj => by
  rw [Nat.zero_add, cell_of_block h j, unfrozen_of_block h j]
  exact ⟨by simp [hj], rfl⟩
theorem heap_setCells_ne {b g : Nat} (hg : g ≠ b) : ∀ (vs : List Value) (o : Nat) (w : World), (w.setCells b o vs).heap[g]? = w.heap[g]?
  | [], _, _ => rfl
  | v :: r, o, w => by rw [World.setCells, heap_setCells_ne hg r]; exact Below.heap_setCell w ⟨b, o, none⟩ v g hg
theorem wk_setCells {B g : Nat} {a : World} (hB : B ≤ a.heap.size) (hg : a.heap.size ≤ g) : ∀ (vs : List Value) (o : Nat) {w : World}, Wk B a w → Wk B a (w.setCells g o vs)
  | [], _, _, h => h
  | v :: r, o, _, h => by rw [World.setCells]; exact wk_setCells hB hg r (o + 1) (h.setNew hB hg o v)
theorem results_cell {P : Program} {fn : Func} {sl : Tmp} {T : TypeId} {tmps : Array Value} {w : World} {b : Nat} {cs : List Value} {d : TypeDesc} (hr : fn.results = #[.cell sl T]) (ht : tmps.getD sl undef = .pointer (some ⟨b, 0, none⟩)) (hc : w.rangeAt b 0 cs)
    (hu : P.underlying T = some d) (hd : d.isRow = true) (hi : (P.info? T).map (·.size) = some cs.length) : (results fn tmps).run P w = .ok (.agg cs.toArray) w := by
  have hl := run_loadVar_mid w b 0 T cs d hc hu hd hi
  have ht2 : tmps[sl]?.getD undef = .pointer (some ⟨b, 0, none⟩) := by simpa using ht
  simp [results, hr, ht2, asAddr, hl]
theorem done_info : (Tryz.prog.info? 43).map (·.size) = some 20 := by kernel_rfl
def InDn (B : Nat) (D : Dn) (w : World) (e : Ending) (w' : World) : Prop := ∃ tv pv, e = .returned (dnV D tv pv) ∧ OwnMem w' B tv pv D.m ∧ Wk B w w'
def InDnB (B : Nat) (D : Dn) (q : Bool) (w : World) (e : Ending) (w' : World) : Prop := ∃ tv pv, e = .returned (.tuple #[dnV D tv pv, .bool q]) ∧ OwnMem w' B tv pv D.m ∧ Wk B w w'

structure DSt (w0 w : World) (B A R : Nat) (c : Int) (tv : Value) (pg pn pc : Nat) (V : Nat → Value) (M : Me) (h : Hd) (v : Et) : Prop where
  o : OpenMem w B tv pg pc V M
  k : Wk B w0 w
  a : w.heap[A]? = some (.cells #[.int .i64 c, tv, (.slice (some ⟨pg, 0, none⟩) pn pc), .int .i64 h.pos, .int .i64 h.call.code, .int .i64 h.call.a, .int .i64 h.call.b, .int .i64 h.call.c, .int .i64 h.tim, .int .i64 h.whe, .bool h.had, .int .i64 h.cnt, .int .i64 h.beg, .int .i64 h.rep, .int .i64 h.out, .int .i64 v.kin, .int .i64 v.tim, .int .i64 v.gen, .int .i64 v.whe, .int .i64 v.clk] 43)
  r : w.heap[R]? = some (.cells #[.int .i64 0, .slice none 0 0, .slice none 0 0, .int .i64 0, .int .i64 0, .int .i64 0, .int .i64 0, .int .i64 0, .int .i64 0, .int .i64 0, .bool false, .int .i64 0, .int .i64 0, .int .i64 0, .int .i64 0, .int .i64 0, .int .i64 0, .int .i64 0, .int .i64 0, .int .i64 0] 43)
  b : B ≤ w0.heap.size
  la : w0.heap.size ≤ A
  lr : w0.heap.size ≤ R
  ne : A ≠ R
  ec : M.c = c
  ep : M.pn = pn
section
variable {w0 w w' : World} {B A R pg pn pc : Nat} {c : Int} {tv : Value} {V : Nat → Value} {M : Me} {h : Hd} {v : Et}
theorem DSt.own (s : DSt w0 w B A R c tv pg pn pc V M h v) : OwnMem w B tv (.slice (some ⟨pg, 0, none⟩) pn pc) M := by
  have e := s.ep
  subst e
  exact s.o.own
theorem DSt.size (s : DSt w0 w B A R c tv pg pn pc V M h v) : B ≤ w.heap.size ∧ A < w.heap.size ∧ R < w.heap.size := by
  have h1 := lt_of_block s.r
  have h2 := lt_of_block s.a
  have := s.b
  have := s.lr
  exact ⟨by omega, h2, h1⟩
/-- what is read and written of the two blocks -/
theorem DSt.cellsA (s : DSt w0 w B A R c tv pg pn pc V M h v) : w.cell? ⟨A, 0, none⟩ = some (.int .i64 c) ∧ w.cell? ⟨A, 1, none⟩ = some (tv) ∧ w.cell? ⟨A, 2, none⟩ = some ((.slice (some ⟨pg, 0, none⟩) pn pc)) ∧ w.cell? ⟨A, 3, none⟩ = some (.int .i64 h.pos) ∧ w.cell? ⟨A, 4, none⟩ = some (.int .i64 h.call.code) ∧ w.cell? ⟨A, 5, none⟩ = some (.int .i64 h.call.a) ∧ w.cell? ⟨A, 6, none⟩ = some (.int .i64 h.call.b) ∧ w.cell? ⟨A, 7, none⟩ = some (.int .i64 h.call.c) ∧ w.cell? ⟨A, 8, none⟩ = some (.int .i64 h.tim) ∧ w.cell? ⟨A, 9, none⟩ = some (.int .i64 h.whe) ∧ w.cell? ⟨A, 10, none⟩ = some (.bool h.had) ∧ w.cell? ⟨A, 11, none⟩ = some (.int .i64 h.cnt) ∧ w.cell? ⟨A, 12, none⟩ = some (.int .i64 h.beg) ∧ w.cell? ⟨A, 13, none⟩ = some (.int .i64 h.rep) ∧ w.cell? ⟨A, 14, none⟩ = some (.int .i64 h.out) ∧ w.cell? ⟨A, 15, none⟩ = some (.int .i64 v.kin) ∧ w.cell? ⟨A, 16, none⟩ = some (.int .i64 v.tim) ∧ w.cell? ⟨A, 17, none⟩ = some (.int .i64 v.gen) ∧ w.cell? ⟨A, 18, none⟩ = some (.int .i64 v.whe) ∧ w.cell? ⟨A, 19, none⟩ = some (.int .i64 v.clk) ∧ w.frozen? ⟨A, 0, none⟩ = false ∧ w.frozen? ⟨A, 1, none⟩ = false ∧ w.frozen? ⟨A, 2, none⟩ = false ∧ w.frozen? ⟨A, 3, none⟩ = false ∧ w.frozen? ⟨A, 4, none⟩ = false ∧ w.frozen? ⟨A, 5, none⟩ = false ∧ w.frozen? ⟨A, 6, none⟩ = false ∧ w.frozen? ⟨A, 7, none⟩ = false ∧ w.frozen? ⟨A, 8, none⟩ = false ∧ w.frozen? ⟨A, 9, none⟩ = false ∧ w.frozen? ⟨A, 10, none⟩ = false ∧ w.frozen? ⟨A, 11, none⟩ = false ∧ w.frozen? ⟨A, 12, none⟩ = false ∧ w.frozen? ⟨A, 13, none⟩ = false ∧ w.frozen? ⟨A, 14, none⟩ = false ∧ w.frozen? ⟨A, 15, none⟩ = false ∧ w.frozen? ⟨A, 16, none⟩ = false ∧ w.frozen? ⟨A, 17, none⟩ = false ∧ w.frozen? ⟨A, 18, none⟩ = false ∧ w.frozen? ⟨A, 19, none⟩ = false := twenty s.a
theorem DSt.cellsR (s : DSt w0 w B A R c tv pg pn pc V M h v) : w.cell? ⟨R, 0, none⟩ = some (.int .i64 0) ∧ w.cell? ⟨R, 1, none⟩ = some (.slice none 0 0) ∧ w.cell? ⟨R, 2, none⟩ = some (.slice none 0 0) ∧ w.cell? ⟨R, 3, none⟩ = some (.int .i64 0) ∧ w.cell? ⟨R, 4, none⟩ = some (.int .i64 0) ∧ w.cell? ⟨R, 5, none⟩ = some (.int .i64 0) ∧ w.cell? ⟨R, 6, none⟩ = some (.int .i64 0) ∧ w.cell? ⟨R, 7, none⟩ = some (.int .i64 0) ∧ w.cell? ⟨R, 8, none⟩ = some (.int .i64 0) ∧ w.cell? ⟨R, 9, none⟩ = some (.int .i64 0) ∧ w.cell? ⟨R, 10, none⟩ = some (.bool false) ∧ w.cell? ⟨R, 11, none⟩ = some (.int .i64 0) ∧ w.cell? ⟨R, 12, none⟩ = some (.int .i64 0) ∧ w.cell? ⟨R, 13, none⟩ = some (.int .i64 0) ∧ w.cell? ⟨R, 14, none⟩ = some (.int .i64 0) ∧ w.cell? ⟨R, 15, none⟩ = some (.int .i64 0) ∧ w.cell? ⟨R, 16, none⟩ = some (.int .i64 0) ∧ w.cell? ⟨R, 17, none⟩ = some (.int .i64 0) ∧ w.cell? ⟨R, 18, none⟩ = some (.int .i64 0) ∧ w.cell? ⟨R, 19, none⟩ = some (.int .i64 0) ∧ w.frozen? ⟨R, 0, none⟩ = false ∧ w.frozen? ⟨R, 1, none⟩ = false ∧ w.frozen? ⟨R, 2, none⟩ = false ∧ w.frozen? ⟨R, 3, none⟩ = false ∧ w.frozen? ⟨R, 4, none⟩ = false ∧ w.frozen? ⟨R, 5, none⟩ = false ∧ w.frozen? ⟨R, 6, none⟩ = false ∧ w.frozen? ⟨R, 7, none⟩ = false ∧ w.frozen? ⟨R, 8, none⟩ = false ∧ w.frozen? ⟨R, 9, none⟩ = false ∧ w.frozen? ⟨R, 10, none⟩ = false ∧ w.frozen? ⟨R, 11, none⟩ = false ∧ w.frozen? ⟨R, 12, none⟩ = false ∧ w.frozen? ⟨R, 13, none⟩ = false ∧ w.frozen? ⟨R, 14, none⟩ = false ∧ w.frozen? ⟨R, 15, none⟩ = false ∧ w.frozen? ⟨R, 16, none⟩ = false ∧ w.frozen? ⟨R, 17, none⟩ = false ∧ w.frozen? ⟨R, 18, none⟩ = false ∧ w.frozen? ⟨R, 19, none⟩ = false := twenty s.r
theorem DSt.setT {tg n tc : Nat} (s : DSt w0 w B A R c (.slice (some ⟨tg, 0, none⟩) n tc) pg pn pc V M h v) {t : Nat} (j : Nat) (ht : t < M.tn) (hj : j < 8) (x : Int) :
    ∃ wq, RowKit.Hid (wq = w.setCell ⟨tg, t * 8 + j, none⟩ (.int .i64 x)) ∧ DSt w0 wq B A R c (.slice (some ⟨tg, 0, none⟩) n tc) pg pn pc V (setTm M t j x) h v := by
  have hn := s.o.t.len
  subst hn
  obtain ⟨cs, hcs⟩ := s.o.t.at.hh
  exact ⟨_, Lib.hid rfl, s.o.setT ht hj x, s.k.set hcs s.o.t.at.1 (by decide) _ _, (heap_set1 w tg _ _ _ (ne_ty s.a hcs (by decide))).trans s.a, (heap_set1 w tg _ _ _ (ne_ty s.r hcs (by decide))).trans s.r, s.b, s.la, s.lr, s.ne, s.ec, s.ep⟩
theorem DSt.setP (s : DSt w0 w B A R c tv pg pn pc V M h v) {k : Nat} (j : Nat) (hk : k < M.pn) (hj : j = 1 ∨ j = 2 ∨ j = 3) (x : Int) :
    ∃ wq, RowKit.Hid (wq = w.setCell ⟨pg, k * 4 + j, none⟩ (.int .i64 x)) ∧ DSt w0 wq B A R c tv pg pn pc V (setPc M k j x) h v := by
  obtain ⟨cs, hcs⟩ := s.o.l.hh
  exact ⟨_, Lib.hid rfl, s.o.setP hk hj x, s.k.set hcs s.o.l.1 (by decide) _ _, (heap_set1 w pg _ _ _ (ne_ty s.a hcs (by decide))).trans s.a, (heap_set1 w pg _ _ _ (ne_ty s.r hcs (by decide))).trans s.r, s.b, s.la, s.lr, s.ne, s.ec, s.ep⟩
theorem DSt.below (s : DSt w0 w B A R c tv pg pn pc V M h v) (hb : Below w.heap.size w w') : DSt w0 w' B A R c tv pg pn pc V M h v :=
  ⟨s.o.below hb, s.k.new hb s.b, b_block hb s.a (lt_of_block s.a), b_block hb s.r (lt_of_block s.r), s.b, s.la, s.lr, s.ne, s.ec, s.ep⟩
theorem DSt.drew (s : DSt w0 w B A R c tv pg pn pc V M h v) : DSt w0 w.drew B A R c tv pg pn pc V M h v := s.below (Below.refl _ w).drew
/-- a timer's numbers -/
theorem DSt.tcells {tg n tc : Nat} (s : DSt w0 w B A R c (.slice (some ⟨tg, 0, none⟩) n tc) pg pn pc V M h v) {t : Nat} (ht : t < M.tn) {T : Tm} (hT : M.t t = T) :
    (w.cell? ⟨tg, t * 8, none⟩ = some (.int .i64 T.st) ∧ w.cell? ⟨tg, t * 8 + 1, none⟩ = some (.int .i64 T.wh) ∧ w.cell? ⟨tg, t * 8 + 2, none⟩ = some (.int .i64 T.nx) ∧ w.cell? ⟨tg, t * 8 + 3, none⟩ = some (.int .i64 T.pe) ∧ w.cell? ⟨tg, t * 8 + 4, none⟩ = some (.int .i64 T.pl) ∧ w.cell? ⟨tg, t * 8 + 5, none⟩ = some (.int .i64 T.ge) ∧ w.cell? ⟨tg, t * 8 + 6, none⟩ = some (.int .i64 T.ki) ∧ w.cell? ⟨tg, t * 8 + 7, none⟩ = some (.int .i64 T.ma)) ∧
    ∀ o, w.frozen? ⟨tg, o, none⟩ = false := by
  have hn := s.o.t.len
  subst hn hT
  have hc := s.o.t.at.cells ht
  exact ⟨⟨hc 0 (by decide), hc 1 (by decide), hc 2 (by decide), hc 3 (by decide), hc 4 (by decide), hc 5 (by decide), hc 6 (by decide), hc 7 (by decide)⟩, s.o.t.at.free⟩
/-- a processor's cells -/
theorem DSt.pcells (s : DSt w0 w B A R c tv pg pn pc V M h v) {k : Nat} (hk : k < M.pn) {p : Pc} (hp : M.p k = p) :
    (∃ a c', V k = .slice a p.n c' ∧ w.cell? ⟨pg, k * 4, none⟩ = some (.slice a p.n c')) ∧ (w.cell? ⟨pg, k * 4 + 1, none⟩ = some (.int .i64 p.l) ∧ w.cell? ⟨pg, k * 4 + 2, none⟩ = some (.int .i64 p.e) ∧ w.cell? ⟨pg, k * 4 + 3, none⟩ = some (.int .i64 p.d)) ∧ ∀ o, w.frozen? ⟨pg, o, none⟩ = false := by
  subst hp
  obtain ⟨p0, p1, p2, p3⟩ := s.o.l.cells hk
  obtain ⟨a, c', e⟩ := (s.o.h.1 k hk).value
  exact ⟨⟨a, c', e, by rw [← e]; exact p0⟩, ⟨p1, p2, p3⟩, s.o.l.free⟩
theorem DSt.hand_pos (s : DSt w0 w B A R c tv pg pn pc V M h v) (x : Int) :
    ∃ wq, RowKit.Hid (wq = w.setCell ⟨A, 3, none⟩ (.int .i64 x)) ∧ DSt w0 wq B A R c tv pg pn pc V M { h with pos := x } v := by
  have ha := block_setCell (i := 3) s.a (.int .i64 x)
  simp only [List.setIfInBounds_toArray, List.set_cons_zero, List.set_cons_succ] at ha
  exact ⟨_, Lib.hid rfl, s.o.other s.a (by decide) (by decide) (by decide) (fun y hy => heap_set_ne _ _ hy), s.k.setNew s.b s.la _ _, ha, (heap_set_ne _ _ (Ne.symm s.ne)).trans s.r, s.b, s.la, s.lr, s.ne, s.ec, s.ep⟩
theorem DSt.hand_tim (s : DSt w0 w B A R c tv pg pn pc V M h v) (x : Int) :
    ∃ wq, RowKit.Hid (wq = w.setCell ⟨A, 8, none⟩ (.int .i64 x)) ∧ DSt w0 wq B A R c tv pg pn pc V M { h with tim := x } v := by
  have ha := block_setCell (i := 8) s.a (.int .i64 x)
  simp only [List.setIfInBounds_toArray, List.set_cons_zero, List.set_cons_succ] at ha
  exact ⟨_, Lib.hid rfl, s.o.other s.a (by decide) (by decide) (by decide) (fun y hy => heap_set_ne _ _ hy), s.k.setNew s.b s.la _ _, ha, (heap_set_ne _ _ (Ne.symm s.ne)).trans s.r, s.b, s.la, s.lr, s.ne, s.ec, s.ep⟩
theorem DSt.hand_whe (s : DSt w0 w B A R c tv pg pn pc V M h v) (x : Int) :
    ∃ wq, RowKit.Hid (wq = w.setCell ⟨A, 9, none⟩ (.int .i64 x)) ∧ DSt w0 wq B A R c tv pg pn pc V M { h with whe := x } v := by
  have ha := block_setCell (i := 9) s.a (.int .i64 x)
  simp only [List.setIfInBounds_toArray, List.set_cons_zero, List.set_cons_succ] at ha
  exact ⟨_, Lib.hid rfl, s.o.other s.a (by decide) (by decide) (by decide) (fun y hy => heap_set_ne _ _ hy), s.k.setNew s.b s.la _ _, ha, (heap_set_ne _ _ (Ne.symm s.ne)).trans s.r, s.b, s.la, s.lr, s.ne, s.ec, s.ep⟩
theorem DSt.hand_had (s : DSt w0 w B A R c tv pg pn pc V M h v) (x : Bool) :
    ∃ wq, RowKit.Hid (wq = w.setCell ⟨A, 10, none⟩ (.bool x)) ∧ DSt w0 wq B A R c tv pg pn pc V M { h with had := x } v := by
  have ha := block_setCell (i := 10) s.a (.bool x)
  simp only [List.setIfInBounds_toArray, List.set_cons_zero, List.set_cons_succ] at ha
  exact ⟨_, Lib.hid rfl, s.o.other s.a (by decide) (by decide) (by decide) (fun y hy => heap_set_ne _ _ hy), s.k.setNew s.b s.la _ _, ha, (heap_set_ne _ _ (Ne.symm s.ne)).trans s.r, s.b, s.la, s.lr, s.ne, s.ec, s.ep⟩
theorem DSt.hand_cnt (s : DSt w0 w B A R c tv pg pn pc V M h v) (x : Int) :
    ∃ wq, RowKit.Hid (wq = w.setCell ⟨A, 11, none⟩ (.int .i64 x)) ∧ DSt w0 wq B A R c tv pg pn pc V M { h with cnt := x } v := by
  have ha := block_setCell (i := 11) s.a (.int .i64 x)
  simp only [List.setIfInBounds_toArray, List.set_cons_zero, List.set_cons_succ] at ha
  exact ⟨_, Lib.hid rfl, s.o.other s.a (by decide) (by decide) (by decide) (fun y hy => heap_set_ne _ _ hy), s.k.setNew s.b s.la _ _, ha, (heap_set_ne _ _ (Ne.symm s.ne)).trans s.r, s.b, s.la, s.lr, s.ne, s.ec, s.ep⟩
theorem DSt.hand_all (s : DSt w0 w B A R c tv pg pn pc V M h v) (g : Hd) :
    ∃ wq, RowKit.Hid (wq = ((((((((((((w.setCell ⟨A, 3, none⟩ (.int .i64 g.pos)).setCell ⟨A, 4, none⟩ (.int .i64 g.call.code)).setCell ⟨A, 5, none⟩ (.int .i64 g.call.a)).setCell ⟨A, 6, none⟩ (.int .i64 g.call.b)).setCell ⟨A, 7, none⟩ (.int .i64 g.call.c)).setCell ⟨A, 8, none⟩ (.int .i64 g.tim)).setCell ⟨A, 9, none⟩ (.int .i64 g.whe)).setCell ⟨A, 10, none⟩ (.bool g.had)).setCell ⟨A, 11, none⟩ (.int .i64 g.cnt)).setCell ⟨A, 12, none⟩ (.int .i64 g.beg)).setCell ⟨A, 13, none⟩ (.int .i64 g.rep)).setCell ⟨A, 14, none⟩ (.int .i64 g.out))) ∧ DSt w0 wq B A R c tv pg pn pc V M g v := by
  have ha := (block_setCell (i := 14) (block_setCell (i := 13) (block_setCell (i := 12) (block_setCell (i := 11) (block_setCell (i := 10) (block_setCell (i := 9) (block_setCell (i := 8) (block_setCell (i := 7) (block_setCell (i := 6) (block_setCell (i := 5) (block_setCell (i := 4) (block_setCell (i := 3) s.a (.int .i64 g.pos)) (.int .i64 g.call.code)) (.int .i64 g.call.a)) (.int .i64 g.call.b)) (.int .i64 g.call.c)) (.int .i64 g.tim)) (.int .i64 g.whe)) (.bool g.had)) (.int .i64 g.cnt)) (.int .i64 g.beg)) (.int .i64 g.rep)) (.int .i64 g.out))
  simp only [List.setIfInBounds_toArray, List.set_cons_zero, List.set_cons_succ] at ha
  exact ⟨_, Lib.hid rfl, s.o.other s.a (by decide) (by decide) (by decide) (fun y hy => ((heap_set_ne 14 (.int .i64 g.out) hy).trans ((heap_set_ne 13 (.int .i64 g.rep) hy).trans ((heap_set_ne 12 (.int .i64 g.beg) hy).trans ((heap_set_ne 11 (.int .i64 g.cnt) hy).trans ((heap_set_ne 10 (.bool g.had) hy).trans ((heap_set_ne 9 (.int .i64 g.whe) hy).trans ((heap_set_ne 8 (.int .i64 g.tim) hy).trans ((heap_set_ne 7 (.int .i64 g.call.c) hy).trans ((heap_set_ne 6 (.int .i64 g.call.b) hy).trans ((heap_set_ne 5 (.int .i64 g.call.a) hy).trans ((heap_set_ne 4 (.int .i64 g.call.code) hy).trans ((heap_set_ne 3 (.int .i64 g.pos) hy).trans rfl))))))))))))), ((((((((((((s.k.setNew s.b s.la 3 (.int .i64 g.pos)).setNew s.b s.la 4 (.int .i64 g.call.code)).setNew s.b s.la 5 (.int .i64 g.call.a)).setNew s.b s.la 6 (.int .i64 g.call.b)).setNew s.b s.la 7 (.int .i64 g.call.c)).setNew s.b s.la 8 (.int .i64 g.tim)).setNew s.b s.la 9 (.int .i64 g.whe)).setNew s.b s.la 10 (.bool g.had)).setNew s.b s.la 11 (.int .i64 g.cnt)).setNew s.b s.la 12 (.int .i64 g.beg)).setNew s.b s.la 13 (.int .i64 g.rep)).setNew s.b s.la 14 (.int .i64 g.out)), ha, ((heap_set_ne 14 (.int .i64 g.out) (Ne.symm s.ne)).trans ((heap_set_ne 13 (.int .i64 g.rep) (Ne.symm s.ne)).trans ((heap_set_ne 12 (.int .i64 g.beg) (Ne.symm s.ne)).trans ((heap_set_ne 11 (.int .i64 g.cnt) (Ne.symm s.ne)).trans ((heap_set_ne 10 (.bool g.had) (Ne.symm s.ne)).trans ((heap_set_ne 9 (.int .i64 g.whe) (Ne.symm s.ne)).trans ((heap_set_ne 8 (.int .i64 g.tim) (Ne.symm s.ne)).trans ((heap_set_ne 7 (.int .i64 g.call.c) (Ne.symm s.ne)).trans ((heap_set_ne 6 (.int .i64 g.call.b) (Ne.symm s.ne)).trans ((heap_set_ne 5 (.int .i64 g.call.a) (Ne.symm s.ne)).trans ((heap_set_ne 4 (.int .i64 g.call.code) (Ne.symm s.ne)).trans ((heap_set_ne 3 (.int .i64 g.pos) (Ne.symm s.ne)).trans s.r)))))))))))), s.b, s.la, s.lr, s.ne, s.ec, s.ep⟩
theorem DSt.ev_all (s : DSt w0 w B A R c tv pg pn pc V M h v) (u : Et) :
    ∃ wq, RowKit.Hid (wq = (((((w.setCell ⟨A, 15, none⟩ (.int .i64 u.kin)).setCell ⟨A, 16, none⟩ (.int .i64 u.tim)).setCell ⟨A, 17, none⟩ (.int .i64 u.gen)).setCell ⟨A, 18, none⟩ (.int .i64 u.whe)).setCell ⟨A, 19, none⟩ (.int .i64 u.clk))) ∧ DSt w0 wq B A R c tv pg pn pc V M h u := by
  have ha := (block_setCell (i := 19) (block_setCell (i := 18) (block_setCell (i := 17) (block_setCell (i := 16) (block_setCell (i := 15) s.a (.int .i64 u.kin)) (.int .i64 u.tim)) (.int .i64 u.gen)) (.int .i64 u.whe)) (.int .i64 u.clk))
  simp only [List.setIfInBounds_toArray, List.set_cons_zero, List.set_cons_succ] at ha
  exact ⟨_, Lib.hid rfl, s.o.other s.a (by decide) (by decide) (by decide) (fun y hy => ((heap_set_ne 19 (.int .i64 u.clk) hy).trans ((heap_set_ne 18 (.int .i64 u.whe) hy).trans ((heap_set_ne 17 (.int .i64 u.gen) hy).trans ((heap_set_ne 16 (.int .i64 u.tim) hy).trans ((heap_set_ne 15 (.int .i64 u.kin) hy).trans rfl)))))), (((((s.k.setNew s.b s.la 15 (.int .i64 u.kin)).setNew s.b s.la 16 (.int .i64 u.tim)).setNew s.b s.la 17 (.int .i64 u.gen)).setNew s.b s.la 18 (.int .i64 u.whe)).setNew s.b s.la 19 (.int .i64 u.clk)), ha, ((heap_set_ne 19 (.int .i64 u.clk) (Ne.symm s.ne)).trans ((heap_set_ne 18 (.int .i64 u.whe) (Ne.symm s.ne)).trans ((heap_set_ne 17 (.int .i64 u.gen) (Ne.symm s.ne)).trans ((heap_set_ne 16 (.int .i64 u.tim) (Ne.symm s.ne)).trans ((heap_set_ne 15 (.int .i64 u.kin) (Ne.symm s.ne)).trans s.r))))), s.b, s.la, s.lr, s.ne, s.ec, s.ep⟩
/-- the answer, out of its block -/
theorem DSt.ret (s : DSt w0 w B A R c tv pg pn pc V M h v) :
    InDn B ⟨M, h, v⟩ w0 (.returned (.agg #[.int .i64 c, tv, (.slice (some ⟨pg, 0, none⟩) pn pc), .int .i64 h.pos, .int .i64 h.call.code, .int .i64 h.call.a, .int .i64 h.call.b, .int .i64 h.call.c, .int .i64 h.tim, .int .i64 h.whe, .bool h.had, .int .i64 h.cnt, .int .i64 h.beg, .int .i64 h.rep, .int .i64 h.out, .int .i64 v.kin, .int .i64 v.tim, .int .i64 v.gen, .int .i64 v.whe, .int .i64 v.clk])) ((((((((((((((((((((w.setCell ⟨R, 0, none⟩ (.int .i64 c)).setCell ⟨R, 1, none⟩ (tv)).setCell ⟨R, 2, none⟩ ((.slice (some ⟨pg, 0, none⟩) pn pc))).setCell ⟨R, 3, none⟩ (.int .i64 h.pos)).setCell ⟨R, 4, none⟩ (.int .i64 h.call.code)).setCell ⟨R, 5, none⟩ (.int .i64 h.call.a)).setCell ⟨R, 6, none⟩ (.int .i64 h.call.b)).setCell ⟨R, 7, none⟩ (.int .i64 h.call.c)).setCell ⟨R, 8, none⟩ (.int .i64 h.tim)).setCell ⟨R, 9, none⟩ (.int .i64 h.whe)).setCell ⟨R, 10, none⟩ (.bool h.had)).setCell ⟨R, 11, none⟩ (.int .i64 h.cnt)).setCell ⟨R, 12, none⟩ (.int .i64 h.beg)).setCell ⟨R, 13, none⟩ (.int .i64 h.rep)).setCell ⟨R, 14, none⟩ (.int .i64 h.out)).setCell ⟨R, 15, none⟩ (.int .i64 v.kin)).setCell ⟨R, 16, none⟩ (.int .i64 v.tim)).setCell ⟨R, 17, none⟩ (.int .i64 v.gen)).setCell ⟨R, 18, none⟩ (.int .i64 v.whe)).setCell ⟨R, 19, none⟩ (.int .i64 v.clk)) := by
  have o2 : OpenMem ((((((((((((((((((((w.setCell ⟨R, 0, none⟩ (.int .i64 c)).setCell ⟨R, 1, none⟩ (tv)).setCell ⟨R, 2, none⟩ ((.slice (some ⟨pg, 0, none⟩) pn pc))).setCell ⟨R, 3, none⟩ (.int .i64 h.pos)).setCell ⟨R, 4, none⟩ (.int .i64 h.call.code)).setCell ⟨R, 5, none⟩ (.int .i64 h.call.a)).setCell ⟨R, 6, none⟩ (.int .i64 h.call.b)).setCell ⟨R, 7, none⟩ (.int .i64 h.call.c)).setCell ⟨R, 8, none⟩ (.int .i64 h.tim)).setCell ⟨R, 9, none⟩ (.int .i64 h.whe)).setCell ⟨R, 10, none⟩ (.bool h.had)).setCell ⟨R, 11, none⟩ (.int .i64 h.cnt)).setCell ⟨R, 12, none⟩ (.int .i64 h.beg)).setCell ⟨R, 13, none⟩ (.int .i64 h.rep)).setCell ⟨R, 14, none⟩ (.int .i64 h.out)).setCell ⟨R, 15, none⟩ (.int .i64 v.kin)).setCell ⟨R, 16, none⟩ (.int .i64 v.tim)).setCell ⟨R, 17, none⟩ (.int .i64 v.gen)).setCell ⟨R, 18, none⟩ (.int .i64 v.whe)).setCell ⟨R, 19, none⟩ (.int .i64 v.clk)) B tv pg pc V M := s.o.other s.r (by decide) (by decide) (by decide) (fun y hy => ((heap_set_ne 19 (.int .i64 v.clk) hy).trans ((heap_set_ne 18 (.int .i64 v.whe) hy).trans ((heap_set_ne 17 (.int .i64 v.gen) hy).trans ((heap_set_ne 16 (.int .i64 v.tim) hy).trans ((heap_set_ne 15 (.int .i64 v.kin) hy).trans ((heap_set_ne 14 (.int .i64 h.out) hy).trans ((heap_set_ne 13 (.int .i64 h.rep) hy).trans ((heap_set_ne 12 (.int .i64 h.beg) hy).trans ((heap_set_ne 11 (.int .i64 h.cnt) hy).trans ((heap_set_ne 10 (.bool h.had) hy).trans ((heap_set_ne 9 (.int .i64 h.whe) hy).trans ((heap_set_ne 8 (.int .i64 h.tim) hy).trans ((heap_set_ne 7 (.int .i64 h.call.c) hy).trans ((heap_set_ne 6 (.int .i64 h.call.b) hy).trans ((heap_set_ne 5 (.int .i64 h.call.a) hy).trans ((heap_set_ne 4 (.int .i64 h.call.code) hy).trans ((heap_set_ne 3 (.int .i64 h.pos) hy).trans ((heap_set_ne 2 ((.slice (some ⟨pg, 0, none⟩) pn pc)) hy).trans ((heap_set_ne 1 (tv) hy).trans ((heap_set_ne 0 (.int .i64 c) hy).trans rfl)))))))))))))))))))))
  have k2 := ((((((((((((((((((((s.k.setNew s.b s.lr 0 (.int .i64 c)).setNew s.b s.lr 1 (tv)).setNew s.b s.lr 2 ((.slice (some ⟨pg, 0, none⟩) pn pc))).setNew s.b s.lr 3 (.int .i64 h.pos)).setNew s.b s.lr 4 (.int .i64 h.call.code)).setNew s.b s.lr 5 (.int .i64 h.call.a)).setNew s.b s.lr 6 (.int .i64 h.call.b)).setNew s.b s.lr 7 (.int .i64 h.call.c)).setNew s.b s.lr 8 (.int .i64 h.tim)).setNew s.b s.lr 9 (.int .i64 h.whe)).setNew s.b s.lr 10 (.bool h.had)).setNew s.b s.lr 11 (.int .i64 h.cnt)).setNew s.b s.lr 12 (.int .i64 h.beg)).setNew s.b s.lr 13 (.int .i64 h.rep)).setNew s.b s.lr 14 (.int .i64 h.out)).setNew s.b s.lr 15 (.int .i64 v.kin)).setNew s.b s.lr 16 (.int .i64 v.tim)).setNew s.b s.lr 17 (.int .i64 v.gen)).setNew s.b s.lr 18 (.int .i64 v.whe)).setNew s.b s.lr 19 (.int .i64 v.clk))
  have e1 := s.ec
  have e2 := s.ep
  subst e1 e2
  exact ⟨_, _, rfl, o2.own, k2⟩
theorem DSt.there (s : DSt w0 w B A R c tv pg pn pc V M h v) : w.there R 0 20 := there_of_block s.r
theorem DSt.retC (s : DSt w0 w B A R c tv pg pn pc V M h v) :
    InDn B ⟨M, h, v⟩ w0 (.returned (.agg #[.int .i64 c, tv, (.slice (some ⟨pg, 0, none⟩) pn pc), .int .i64 h.pos, .int .i64 h.call.code, .int .i64 h.call.a, .int .i64 h.call.b, .int .i64 h.call.c, .int .i64 h.tim, .int .i64 h.whe, .bool h.had, .int .i64 h.cnt, .int .i64 h.beg, .int .i64 h.rep, .int .i64 h.out, .int .i64 v.kin, .int .i64 v.tim, .int .i64 v.gen, .int .i64 v.whe, .int .i64 v.clk])) (w.setCells R 0 [.int .i64 c, tv, (.slice (some ⟨pg, 0, none⟩) pn pc), .int .i64 h.pos, .int .i64 h.call.code, .int .i64 h.call.a, .int .i64 h.call.b, .int .i64 h.call.c, .int .i64 h.tim, .int .i64 h.whe, .bool h.had, .int .i64 h.cnt, .int .i64 h.beg, .int .i64 h.rep, .int .i64 h.out, .int .i64 v.kin, .int .i64 v.tim, .int .i64 v.gen, .int .i64 v.whe, .int .i64 v.clk]) := by
  have o2 : OpenMem (w.setCells R 0 [.int .i64 c, tv, (.slice (some ⟨pg, 0, none⟩) pn pc), .int .i64 h.pos, .int .i64 h.call.code, .int .i64 h.call.a, .int .i64 h.call.b, .int .i64 h.call.c, .int .i64 h.tim, .int .i64 h.whe, .bool h.had, .int .i64 h.cnt, .int .i64 h.beg, .int .i64 h.rep, .int .i64 h.out, .int .i64 v.kin, .int .i64 v.tim, .int .i64 v.gen, .int .i64 v.whe, .int .i64 v.clk]) B tv pg pc V M := s.o.other s.r (by decide) (by decide) (by decide) (fun y hy => heap_setCells_ne hy _ _ _)
  have k2 := wk_setCells s.b s.lr [.int .i64 c, tv, (.slice (some ⟨pg, 0, none⟩) pn pc), .int .i64 h.pos, .int .i64 h.call.code, .int .i64 h.call.a, .int .i64 h.call.b, .int .i64 h.call.c, .int .i64 h.tim, .int .i64 h.whe, .bool h.had, .int .i64 h.cnt, .int .i64 h.beg, .int .i64 h.rep, .int .i64 h.out, .int .i64 v.kin, .int .i64 v.tim, .int .i64 v.gen, .int .i64 v.whe, .int .i64 v.clk] 0 s.k
  have e1 := s.ec
  have e2 := s.ep
  subst e1 e2
  exact ⟨_, _, rfl, o2.own, k2⟩
/-- the answer's block behind a store of the whole -/
theorem DSt.lies (s : DSt w0 w B A R c tv pg pn pc V M h v) : (w.setCells R 0 [.int .i64 c, tv, (.slice (some ⟨pg, 0, none⟩) pn pc), .int .i64 h.pos, .int .i64 h.call.code, .int .i64 h.call.a, .int .i64 h.call.b, .int .i64 h.call.c, .int .i64 h.tim, .int .i64 h.whe, .bool h.had, .int .i64 h.cnt, .int .i64 h.beg, .int .i64 h.rep, .int .i64 h.out, .int .i64 v.kin, .int .i64 v.tim, .int .i64 v.gen, .int .i64 v.whe, .int .i64 v.clk]).rangeAt R 0 [.int .i64 c, tv, (.slice (some ⟨pg, 0, none⟩) pn pc), .int .i64 h.pos, .int .i64 h.call.code, .int .i64 h.call.a, .int .i64 h.call.b, .int .i64 h.call.c, .int .i64 h.tim, .int .i64 h.whe, .bool h.had, .int .i64 h.cnt, .int .i64 h.beg, .int .i64 h.rep, .int .i64 h.out, .int .i64 v.kin, .int .i64 v.tim, .int .i64 v.gen, .int .i64 v.whe, .int .i64 v.clk] := by
  have ht : w.there R 0 20 := there_of_block s.r
  exact World.rangeAt_setCells_same _ _ _ _ ht
theorem DSt.answer (s : DSt w0 w B A R c tv pg pn pc V M h v) : ((((((((((((((((((((w.setCell ⟨R, 0, none⟩ (.int .i64 c)).setCell ⟨R, 1, none⟩ (tv)).setCell ⟨R, 2, none⟩ ((.slice (some ⟨pg, 0, none⟩) pn pc))).setCell ⟨R, 3, none⟩ (.int .i64 h.pos)).setCell ⟨R, 4, none⟩ (.int .i64 h.call.code)).setCell ⟨R, 5, none⟩ (.int .i64 h.call.a)).setCell ⟨R, 6, none⟩ (.int .i64 h.call.b)).setCell ⟨R, 7, none⟩ (.int .i64 h.call.c)).setCell ⟨R, 8, none⟩ (.int .i64 h.tim)).setCell ⟨R, 9, none⟩ (.int .i64 h.whe)).setCell ⟨R, 10, none⟩ (.bool h.had)).setCell ⟨R, 11, none⟩ (.int .i64 h.cnt)).setCell ⟨R, 12, none⟩ (.int .i64 h.beg)).setCell ⟨R, 13, none⟩ (.int .i64 h.rep)).setCell ⟨R, 14, none⟩ (.int .i64 h.out)).setCell ⟨R, 15, none⟩ (.int .i64 v.kin)).setCell ⟨R, 16, none⟩ (.int .i64 v.tim)).setCell ⟨R, 17, none⟩ (.int .i64 v.gen)).setCell ⟨R, 18, none⟩ (.int .i64 v.whe)).setCell ⟨R, 19, none⟩ (.int .i64 v.clk)).heap[R]? = some (.cells #[.int .i64 c, tv, (.slice (some ⟨pg, 0, none⟩) pn pc), .int .i64 h.pos, .int .i64 h.call.code, .int .i64 h.call.a, .int .i64 h.call.b, .int .i64 h.call.c, .int .i64 h.tim, .int .i64 h.whe, .bool h.had, .int .i64 h.cnt, .int .i64 h.beg, .int .i64 h.rep, .int .i64 h.out, .int .i64 v.kin, .int .i64 v.tim, .int .i64 v.gen, .int .i64 v.whe, .int .i64 v.clk] 43) := by
  have hx := (block_setCell (i := 19) (block_setCell (i := 18) (block_setCell (i := 17) (block_setCell (i := 16) (block_setCell (i := 15) (block_setCell (i := 14) (block_setCell (i := 13) (block_setCell (i := 12) (block_setCell (i := 11) (block_setCell (i := 10) (block_setCell (i := 9) (block_setCell (i := 8) (block_setCell (i := 7) (block_setCell (i := 6) (block_setCell (i := 5) (block_setCell (i := 4) (block_setCell (i := 3) (block_setCell (i := 2) (block_setCell (i := 1) (block_setCell (i := 0) s.r (.int .i64 c)) (tv)) ((.slice (some ⟨pg, 0, none⟩) pn pc))) (.int .i64 h.pos)) (.int .i64 h.call.code)) (.int .i64 h.call.a)) (.int .i64 h.call.b)) (.int .i64 h.call.c)) (.int .i64 h.tim)) (.int .i64 h.whe)) (.bool h.had)) (.int .i64 h.cnt)) (.int .i64 h.beg)) (.int .i64 h.rep)) (.int .i64 h.out)) (.int .i64 v.kin)) (.int .i64 v.tim)) (.int .i64 v.gen)) (.int .i64 v.whe)) (.int .i64 v.clk))
  simp only [List.setIfInBounds_toArray, List.set_cons_zero, List.set_cons_succ] at hx
  exact hx
theorem InDn.toB {D : Dn} {e : Value} (hq : InDn B D w (.returned e) w') (q : Bool) : InDnB B D q w (.returned (.tuple #[e, .bool q])) w' := by
  obtain ⟨tv, pv, e1, ho, hk⟩ := hq
  injection e1 with e1
  subst e1
  exact ⟨tv, pv, rfl, ho, hk⟩
end

end Go.Proofs.YtflekodaiejflaaGreat

/-
  A lock taken, a lock given back, what is told (spec, chapter 9).
-/
namespace Go.Proofs.YtflekodaiejflaaGreat
open Go.Deep Go.ChangeShapes Go.WideShapes Go.ChangeAt Go.RowKit Go.Joins
set_option linter.unusedVariables false
set_option linter.unusedSimpArgs false

theorem DSt.start {B pg pc : Nat} {tv : Value} {V : Nat → Value} {M : Me} {w : World} (h : Hd) (v : Et) (hB : B ≤ w.heap.size) (ho : OpenMem w B tv pg pc V M) :
    ∃ wq, RowKit.Hid (wq = ((w.alloc (.cells #[.int .i64 M.c, tv, (.slice (some ⟨pg, 0, none⟩) M.pn pc), .int .i64 h.pos, .int .i64 h.call.code, .int .i64 h.call.a, .int .i64 h.call.b, .int .i64 h.call.c, .int .i64 h.tim, .int .i64 h.whe, .bool h.had, .int .i64 h.cnt, .int .i64 h.beg, .int .i64 h.rep, .int .i64 h.out, .int .i64 v.kin, .int .i64 v.tim, .int .i64 v.gen, .int .i64 v.whe, .int .i64 v.clk] 43)).alloc (.cells #[.int .i64 0, .slice none 0 0, .slice none 0 0, .int .i64 0, .int .i64 0, .int .i64 0, .int .i64 0, .int .i64 0, .int .i64 0, .int .i64 0, .bool false, .int .i64 0, .int .i64 0, .int .i64 0, .int .i64 0, .int .i64 0, .int .i64 0, .int .i64 0, .int .i64 0, .int .i64 0] 43))) ∧ DSt w wq B w.heap.size (w.heap.size + 1) M.c tv pg M.pn pc V M h v := by
  have k0 := ((Below.refl w.heap.size w).alloc (Nat.le_refl _) (.cells #[.int .i64 M.c, tv, (.slice (some ⟨pg, 0, none⟩) M.pn pc), .int .i64 h.pos, .int .i64 h.call.code, .int .i64 h.call.a, .int .i64 h.call.b, .int .i64 h.call.c, .int .i64 h.tim, .int .i64 h.whe, .bool h.had, .int .i64 h.cnt, .int .i64 h.beg, .int .i64 h.rep, .int .i64 h.out, .int .i64 v.kin, .int .i64 v.tim, .int .i64 v.gen, .int .i64 v.whe, .int .i64 v.clk] 43)).alloc (by simp) (.cells #[.int .i64 0, .slice none 0 0, .slice none 0 0, .int .i64 0, .int .i64 0, .int .i64 0, .int .i64 0, .int .i64 0, .int .i64 0, .int .i64 0, .bool false, .int .i64 0, .int .i64 0, .int .i64 0, .int .i64 0, .int .i64 0, .int .i64 0, .int .i64 0, .int .i64 0, .int .i64 0] 43)
  have hA := alloc_block (.cells #[.int .i64 0, .slice none 0 0, .slice none 0 0, .int .i64 0, .int .i64 0, .int .i64 0, .int .i64 0, .int .i64 0, .int .i64 0, .int .i64 0, .bool false, .int .i64 0, .int .i64 0, .int .i64 0, .int .i64 0, .int .i64 0, .int .i64 0, .int .i64 0, .int .i64 0, .int .i64 0] 43) (heap_alloc_new w (.cells #[.int .i64 M.c, tv, (.slice (some ⟨pg, 0, none⟩) M.pn pc), .int .i64 h.pos, .int .i64 h.call.code, .int .i64 h.call.a, .int .i64 h.call.b, .int .i64 h.call.c, .int .i64 h.tim, .int .i64 h.whe, .bool h.had, .int .i64 h.cnt, .int .i64 h.beg, .int .i64 h.rep, .int .i64 h.out, .int .i64 v.kin, .int .i64 v.tim, .int .i64 v.gen, .int .i64 v.whe, .int .i64 v.clk] 43))
  have hR := heap_alloc_new (w.alloc (.cells #[.int .i64 M.c, tv, (.slice (some ⟨pg, 0, none⟩) M.pn pc), .int .i64 h.pos, .int .i64 h.call.code, .int .i64 h.call.a, .int .i64 h.call.b, .int .i64 h.call.c, .int .i64 h.tim, .int .i64 h.whe, .bool h.had, .int .i64 h.cnt, .int .i64 h.beg, .int .i64 h.rep, .int .i64 h.out, .int .i64 v.kin, .int .i64 v.tim, .int .i64 v.gen, .int .i64 v.whe, .int .i64 v.clk] 43)) (.cells #[.int .i64 0, .slice none 0 0, .slice none 0 0, .int .i64 0, .int .i64 0, .int .i64 0, .int .i64 0, .int .i64 0, .int .i64 0, .int .i64 0, .bool false, .int .i64 0, .int .i64 0, .int .i64 0, .int .i64 0, .int .i64 0, .int .i64 0, .int .i64 0, .int .i64 0, .int .i64 0] 43)
  rw [show (w.alloc (.cells #[.int .i64 M.c, tv, (.slice (some ⟨pg, 0, none⟩) M.pn pc), .int .i64 h.pos, .int .i64 h.call.code, .int .i64 h.call.a, .int .i64 h.call.b, .int .i64 h.call.c, .int .i64 h.tim, .int .i64 h.whe, .bool h.had, .int .i64 h.cnt, .int .i64 h.beg, .int .i64 h.rep, .int .i64 h.out, .int .i64 v.kin, .int .i64 v.tim, .int .i64 v.gen, .int .i64 v.whe, .int .i64 v.clk] 43)).heap.size = w.heap.size + 1 by simp] at hR
  exact ⟨_, Lib.hid rfl, ho.below k0, Wk.of_new k0 hB, hA, hR, hB, Nat.le_refl _, Nat.le_succ _, by omega, rfl, rfl⟩

set_option maxRecDepth 100000 in
set_option maxHeartbeats 8000000 in
theorem l9Lock_any {B k : Nat} {tv pv : Value} {M : Me} {h : Hd} {v : Et} {w : World} (d q : Int) (hB : B ≤ w.heap.size) (hk : k < M.pn) (hm : OwnMem w B tv pv M) :
    Calls Tryz.prog 37 #[dnV ⟨M, h, v⟩ tv pv, .int .i64 d, .int .i64 (k : Int), .int .i64 q] w (InDn B (lockD ⟨M, h, v⟩ d k q) w) := by
  obtain ⟨pg, pc, V, rfl, ho⟩ := hm.openP hk
  clear hm
  obtain ⟨ta, tc, hta⟩ := ho.t.row.form
  subst hta
  obtain ⟨w1, e1, s1⟩ := DSt.start h v hB ho
  clear ho
  have i0 : (0 : Int) ≤ (k : Int) := by omega
  have i1 : (k : Int) < (M.pn : Int) := by omega
  obtain ⟨⟨ra, rc, _, p0⟩, ⟨p1, p2, _⟩, pf⟩ := s1.pcells hk rfl
  have pf1 := pf (k * 4 + 1)
  obtain ⟨x0, x1, x2, x3, x4, x5, x6, x7, x8, x9, x10, x11, x12, x13, x14, x15, x16, x17, x18, x19, xf0, xf1, xf2, xf3, xf4, xf5, xf6, xf7, xf8, xf9, xf10, xf11, xf12, xf13, xf14, xf15, xf16, xf17, xf18, xf19⟩ := s1.cellsA
  obtain ⟨y0, y1, y2, y3, y4, y5, y6, y7, y8, y9, y10, y11, y12, y13, y14, y15, y16, y17, y18, y19, yf0, yf1, yf2, yf3, yf4, yf5, yf6, yf7, yf8, yf9, yf10, yf11, yf12, yf13, yf14, yf15, yf16, yf17, yf18, yf19⟩ := s1.cellsR
  clear pf
  by_cases hl : (M.p k).l = -1
  case neg =>
    have E := Lib.hid (show lockD ⟨M, h, v⟩ d k q = ⟨M, h, v⟩ from if_neg hl)
    have hlb : ((M.p k).l == -1) = false := by simpa using hl
    clear hl
    go_enter Tryz.func37, Tryz.ntmps37
    go_upto_region 1 with fail
    rw [← e1.out]
    clear e1
    go_upto_region 4 with fail
    clear x0 x1 x2 x3 x4 x5 x6 x7 x8 x9 x10 x11 x12 x13 x14 x15 x16 x17 x18 x19 xf0 xf1 xf2 xf3 xf4 xf5 xf6 xf7 xf8 xf9 xf10 xf11 xf12 xf13 xf14 xf15 xf16 xf17 xf18 xf19 y0 y1 y2 y3 y4 y5 y6 y7 y8 y9 y10 y11 y12 y13 y14 y15 y16 y17 y18 y19 yf0 yf1 yf2 yf3 yf4 yf5 yf6 yf7 yf8 yf9 yf10 yf11 yf12 yf13 yf14 yf15 yf16 yf17 yf18 yf19
    refine wp_region_lit ?_
    refine wpList_load_mid (by rfl) 43 _ (by rfl) _ 0 (by rfl) [.int .i64 M.c, (.slice ta M.tn tc), (.slice (some ⟨pg, 0, none⟩) M.pn pc), .int .i64 h.pos, .int .i64 h.call.code, .int .i64 h.call.a, .int .i64 h.call.b, .int .i64 h.call.c, .int .i64 h.tim, .int .i64 h.whe, .bool h.had, .int .i64 h.cnt, .int .i64 h.beg, .int .i64 h.rep, .int .i64 h.out, .int .i64 v.kin, .int .i64 v.tim, .int .i64 v.gen, .int .i64 v.whe, .int .i64 v.clk] _ (range_of_block s1.a) Tryz.underlying43 rfl done_info ?_
    refine wpList_store_mid (by rfl) 43 _ _ (by rfl) _ 0 #[.int .i64 M.c, (.slice ta M.tn tc), (.slice (some ⟨pg, 0, none⟩) M.pn pc), .int .i64 h.pos, .int .i64 h.call.code, .int .i64 h.call.a, .int .i64 h.call.b, .int .i64 h.call.c, .int .i64 h.tim, .int .i64 h.whe, .bool h.had, .int .i64 h.cnt, .int .i64 h.beg, .int .i64 h.rep, .int .i64 h.out, .int .i64 v.kin, .int .i64 v.tim, .int .i64 v.gen, .int .i64 v.whe, .int .i64 v.clk] (by rfl) (by rfl) s1.there done_info (by simp [Value.oneCell']) ?_
    refine wpList_nil ?_
    go_wp2
    exact bodyPost_ret (v := .agg #[.int .i64 M.c, (.slice ta M.tn tc), (.slice (some ⟨pg, 0, none⟩) M.pn pc), .int .i64 h.pos, .int .i64 h.call.code, .int .i64 h.call.a, .int .i64 h.call.b, .int .i64 h.call.c, .int .i64 h.tim, .int .i64 h.whe, .bool h.had, .int .i64 h.cnt, .int .i64 h.beg, .int .i64 h.rep, .int .i64 h.out, .int .i64 v.kin, .int .i64 v.tim, .int .i64 v.gen, .int .i64 v.whe, .int .i64 v.clk]) (results_cell (cs := [.int .i64 M.c, (.slice ta M.tn tc), (.slice (some ⟨pg, 0, none⟩) M.pn pc), .int .i64 h.pos, .int .i64 h.call.code, .int .i64 h.call.a, .int .i64 h.call.b, .int .i64 h.call.c, .int .i64 h.tim, .int .i64 h.whe, .bool h.had, .int .i64 h.cnt, .int .i64 h.beg, .int .i64 h.rep, .int .i64 h.out, .int .i64 v.kin, .int .i64 v.tim, .int .i64 v.gen, .int .i64 v.whe, .int .i64 v.clk]) rfl rfl s1.lies Tryz.underlying43 rfl done_info) rfl (by rw [E.out]; exact s1.retC)
  have E := Lib.hid (show lockD ⟨M, h, v⟩ d k q = ⟨setPc M k 1 d, { h with pos := q }, v⟩ from if_pos hl)
  rw [hl] at p1
  clear hl
  obtain ⟨w2, e2, s2⟩ := s1.setP (k := k) 1 hk (.inl rfl) d
  obtain ⟨w3, e3, s3⟩ := s2.hand_pos q
  go_enter Tryz.func37, Tryz.ntmps37
  go_upto_region 1 with fail
  rw [← e1.out]
  clear e1
  go_upto_region 3 with fail
  rw [← e2.out]
  clear e2 x0 x1 x2 x3 x4 x5 x6 x7 x8 x9 x10 x11 x12 x13 x14 x15 x16 x17 x18 x19 xf0 xf1 xf2 xf3 xf4 xf5 xf6 xf7 xf8 xf9 xf10 xf11 xf12 xf13 xf14 xf15 xf16 xf17 xf18 xf19 y0 y1 y2 y3 y4 y5 y6 y7 y8 y9 y10 y11 y12 y13 y14 y15 y16 y17 y18 y19 yf0 yf1 yf2 yf3 yf4 yf5 yf6 yf7 yf8 yf9 yf10 yf11 yf12 yf13 yf14 yf15 yf16 yf17 yf18 yf19 p0 p1 p2 pf1 s1
  obtain ⟨x0, x1, x2, x3, x4, x5, x6, x7, x8, x9, x10, x11, x12, x13, x14, x15, x16, x17, x18, x19, xf0, xf1, xf2, xf3, xf4, xf5, xf6, xf7, xf8, xf9, xf10, xf11, xf12, xf13, xf14, xf15, xf16, xf17, xf18, xf19⟩ := s2.cellsA
  go_upto_region 4 with fail
  rw [← e3.out]
  clear e3 x0 x1 x2 x3 x4 x5 x6 x7 x8 x9 x10 x11 x12 x13 x14 x15 x16 x17 x18 x19 xf0 xf1 xf2 xf3 xf4 xf5 xf6 xf7 xf8 xf9 xf10 xf11 xf12 xf13 xf14 xf15 xf16 xf17 xf18 xf19 s2
  refine wp_region_lit ?_
  refine wpList_load_mid (by rfl) 43 _ (by rfl) _ 0 (by rfl) [.int .i64 M.c, (.slice ta M.tn tc), (.slice (some ⟨pg, 0, none⟩) M.pn pc), .int .i64 (⟨q, h.call, h.tim, h.whe, h.had, h.cnt, h.beg, h.rep, h.out⟩ : Hd).pos, .int .i64 (⟨q, h.call, h.tim, h.whe, h.had, h.cnt, h.beg, h.rep, h.out⟩ : Hd).call.code, .int .i64 (⟨q, h.call, h.tim, h.whe, h.had, h.cnt, h.beg, h.rep, h.out⟩ : Hd).call.a, .int .i64 (⟨q, h.call, h.tim, h.whe, h.had, h.cnt, h.beg, h.rep, h.out⟩ : Hd).call.b, .int .i64 (⟨q, h.call, h.tim, h.whe, h.had, h.cnt, h.beg, h.rep, h.out⟩ : Hd).call.c, .int .i64 (⟨q, h.call, h.tim, h.whe, h.had, h.cnt, h.beg, h.rep, h.out⟩ : Hd).tim, .int .i64 (⟨q, h.call, h.tim, h.whe, h.had, h.cnt, h.beg, h.rep, h.out⟩ : Hd).whe, .bool (⟨q, h.call, h.tim, h.whe, h.had, h.cnt, h.beg, h.rep, h.out⟩ : Hd).had, .int .i64 (⟨q, h.call, h.tim, h.whe, h.had, h.cnt, h.beg, h.rep, h.out⟩ : Hd).cnt, .int .i64 (⟨q, h.call, h.tim, h.whe, h.had, h.cnt, h.beg, h.rep, h.out⟩ : Hd).beg, .int .i64 (⟨q, h.call, h.tim, h.whe, h.had, h.cnt, h.beg, h.rep, h.out⟩ : Hd).rep, .int .i64 (⟨q, h.call, h.tim, h.whe, h.had, h.cnt, h.beg, h.rep, h.out⟩ : Hd).out, .int .i64 v.kin, .int .i64 v.tim, .int .i64 v.gen, .int .i64 v.whe, .int .i64 v.clk] _ (range_of_block s3.a) Tryz.underlying43 rfl done_info ?_
  refine wpList_store_mid (by rfl) 43 _ _ (by rfl) _ 0 #[.int .i64 M.c, (.slice ta M.tn tc), (.slice (some ⟨pg, 0, none⟩) M.pn pc), .int .i64 (⟨q, h.call, h.tim, h.whe, h.had, h.cnt, h.beg, h.rep, h.out⟩ : Hd).pos, .int .i64 (⟨q, h.call, h.tim, h.whe, h.had, h.cnt, h.beg, h.rep, h.out⟩ : Hd).call.code, .int .i64 (⟨q, h.call, h.tim, h.whe, h.had, h.cnt, h.beg, h.rep, h.out⟩ : Hd).call.a, .int .i64 (⟨q, h.call, h.tim, h.whe, h.had, h.cnt, h.beg, h.rep, h.out⟩ : Hd).call.b, .int .i64 (⟨q, h.call, h.tim, h.whe, h.had, h.cnt, h.beg, h.rep, h.out⟩ : Hd).call.c, .int .i64 (⟨q, h.call, h.tim, h.whe, h.had, h.cnt, h.beg, h.rep, h.out⟩ : Hd).tim, .int .i64 (⟨q, h.call, h.tim, h.whe, h.had, h.cnt, h.beg, h.rep, h.out⟩ : Hd).whe, .bool (⟨q, h.call, h.tim, h.whe, h.had, h.cnt, h.beg, h.rep, h.out⟩ : Hd).had, .int .i64 (⟨q, h.call, h.tim, h.whe, h.had, h.cnt, h.beg, h.rep, h.out⟩ : Hd).cnt, .int .i64 (⟨q, h.call, h.tim, h.whe, h.had, h.cnt, h.beg, h.rep, h.out⟩ : Hd).beg, .int .i64 (⟨q, h.call, h.tim, h.whe, h.had, h.cnt, h.beg, h.rep, h.out⟩ : Hd).rep, .int .i64 (⟨q, h.call, h.tim, h.whe, h.had, h.cnt, h.beg, h.rep, h.out⟩ : Hd).out, .int .i64 v.kin, .int .i64 v.tim, .int .i64 v.gen, .int .i64 v.whe, .int .i64 v.clk] (by rfl) (by rfl) s3.there done_info (by simp [Value.oneCell']) ?_
  refine wpList_nil ?_
  go_wp2
  exact bodyPost_ret (v := .agg #[.int .i64 M.c, (.slice ta M.tn tc), (.slice (some ⟨pg, 0, none⟩) M.pn pc), .int .i64 (⟨q, h.call, h.tim, h.whe, h.had, h.cnt, h.beg, h.rep, h.out⟩ : Hd).pos, .int .i64 (⟨q, h.call, h.tim, h.whe, h.had, h.cnt, h.beg, h.rep, h.out⟩ : Hd).call.code, .int .i64 (⟨q, h.call, h.tim, h.whe, h.had, h.cnt, h.beg, h.rep, h.out⟩ : Hd).call.a, .int .i64 (⟨q, h.call, h.tim, h.whe, h.had, h.cnt, h.beg, h.rep, h.out⟩ : Hd).call.b, .int .i64 (⟨q, h.call, h.tim, h.whe, h.had, h.cnt, h.beg, h.rep, h.out⟩ : Hd).call.c, .int .i64 (⟨q, h.call, h.tim, h.whe, h.had, h.cnt, h.beg, h.rep, h.out⟩ : Hd).tim, .int .i64 (⟨q, h.call, h.tim, h.whe, h.had, h.cnt, h.beg, h.rep, h.out⟩ : Hd).whe, .bool (⟨q, h.call, h.tim, h.whe, h.had, h.cnt, h.beg, h.rep, h.out⟩ : Hd).had, .int .i64 (⟨q, h.call, h.tim, h.whe, h.had, h.cnt, h.beg, h.rep, h.out⟩ : Hd).cnt, .int .i64 (⟨q, h.call, h.tim, h.whe, h.had, h.cnt, h.beg, h.rep, h.out⟩ : Hd).beg, .int .i64 (⟨q, h.call, h.tim, h.whe, h.had, h.cnt, h.beg, h.rep, h.out⟩ : Hd).rep, .int .i64 (⟨q, h.call, h.tim, h.whe, h.had, h.cnt, h.beg, h.rep, h.out⟩ : Hd).out, .int .i64 v.kin, .int .i64 v.tim, .int .i64 v.gen, .int .i64 v.whe, .int .i64 v.clk]) (results_cell (cs := [.int .i64 M.c, (.slice ta M.tn tc), (.slice (some ⟨pg, 0, none⟩) M.pn pc), .int .i64 (⟨q, h.call, h.tim, h.whe, h.had, h.cnt, h.beg, h.rep, h.out⟩ : Hd).pos, .int .i64 (⟨q, h.call, h.tim, h.whe, h.had, h.cnt, h.beg, h.rep, h.out⟩ : Hd).call.code, .int .i64 (⟨q, h.call, h.tim, h.whe, h.had, h.cnt, h.beg, h.rep, h.out⟩ : Hd).call.a, .int .i64 (⟨q, h.call, h.tim, h.whe, h.had, h.cnt, h.beg, h.rep, h.out⟩ : Hd).call.b, .int .i64 (⟨q, h.call, h.tim, h.whe, h.had, h.cnt, h.beg, h.rep, h.out⟩ : Hd).call.c, .int .i64 (⟨q, h.call, h.tim, h.whe, h.had, h.cnt, h.beg, h.rep, h.out⟩ : Hd).tim, .int .i64 (⟨q, h.call, h.tim, h.whe, h.had, h.cnt, h.beg, h.rep, h.out⟩ : Hd).whe, .bool (⟨q, h.call, h.tim, h.whe, h.had, h.cnt, h.beg, h.rep, h.out⟩ : Hd).had, .int .i64 (⟨q, h.call, h.tim, h.whe, h.had, h.cnt, h.beg, h.rep, h.out⟩ : Hd).cnt, .int .i64 (⟨q, h.call, h.tim, h.whe, h.had, h.cnt, h.beg, h.rep, h.out⟩ : Hd).beg, .int .i64 (⟨q, h.call, h.tim, h.whe, h.had, h.cnt, h.beg, h.rep, h.out⟩ : Hd).rep, .int .i64 (⟨q, h.call, h.tim, h.whe, h.had, h.cnt, h.beg, h.rep, h.out⟩ : Hd).out, .int .i64 v.kin, .int .i64 v.tim, .int .i64 v.gen, .int .i64 v.whe, .int .i64 v.clk]) rfl rfl s3.lies Tryz.underlying43 rfl done_info) rfl (by rw [E.out]; exact s3.retC)


set_option maxRecDepth 100000 in
set_option maxHeartbeats 8000000 in
theorem l9Unlock_any {B k : Nat} {tv pv : Value} {M : Me} {w : World} (d : Int) (hB : B ≤ w.heap.size) (hk : k < M.pn) (hm : OwnMem w B tv pv M) :
    Calls Tryz.prog 39 #[meV M.c tv pv, .int .i64 d, .int .i64 (k : Int)] w (InMe B (unlockM M d k) w) := by
  obtain ⟨pg, pc, V, rfl, ho⟩ := hm.openP hk
  clear hm
  obtain ⟨ta, tc, hta⟩ := ho.t.row.form
  subst hta
  obtain ⟨w1, e1, s1⟩ := MSt.start hB ho
  clear ho
  have i0 : (0 : Int) ≤ (k : Int) := by omega
  have i1 : (k : Int) < (M.pn : Int) := by omega
  obtain ⟨⟨ra, rc, _, p0⟩, ⟨p1, p2, _⟩, pf⟩ := s1.pcells hk rfl
  have pf1 := pf (k * 4 + 1)
  obtain ⟨⟨x0, x1, x2, xf0, xf1, xf2⟩, y0, y1, y2, yf0, yf1, yf2⟩ := s1.cells
  clear pf
  by_cases hl : (M.p k).l = d
  case neg =>
    have E := Lib.hid (show unlockM M d k = M from if_neg hl)
    have hlb : ((M.p k).l == d) = false := by simpa using hl
    clear hl
    go_enter Tryz.func39, Tryz.ntmps39
    go_upto_region 1 with fail
    rw [← e1.out]
    clear e1
    go_wp2
    exact bodyPost_ret (v := meV M.c (.slice ta M.tn tc) (.slice (some ⟨pg, 0, none⟩) M.pn pc)) (by simp [results, Tryz.results39, go_sem, y0, y1, y2]) rfl (by rw [E.out]; exact s1.ret _ _ _)
  have E := Lib.hid (show unlockM M d k = setPc M k 1 (-1) from if_pos hl)
  subst hl
  have hlb : ((M.p k).l == (M.p k).l) = true := by simp
  obtain ⟨w2, e2, s2⟩ := s1.setP (k := k) 1 hk (.inl rfl) (-1)
  go_enter Tryz.func39, Tryz.ntmps39
  go_upto_region 1 with fail
  rw [← e1.out]
  clear e1
  go_upto_region 3 with fail
  rw [← e2.out]
  clear e2 x0 x1 x2 xf0 xf1 xf2 y0 y1 y2 yf0 yf1 yf2 p0 p1 p2 pf1 s1 hlb
  obtain ⟨⟨x0, x1, x2, xf0, xf1, xf2⟩, y0, y1, y2, yf0, yf1, yf2⟩ := s2.cells
  go_wp2
  exact bodyPost_ret (v := meV M.c (.slice ta M.tn tc) (.slice (some ⟨pg, 0, none⟩) M.pn pc)) (by simp [results, Tryz.results39, go_sem, y0, y1, y2]) rfl (by rw [E.out]; exact s2.ret _ _ _)

end Go.Proofs.YtflekodaiejflaaGreat
