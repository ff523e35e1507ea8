/-
  A memory, copied (spec, chapter 5).
-/
import Derived.Test.YtnmaljieaflnmaaL13
import Derived.Deep.DeepCutAuto
import Derived.Deep.RegionLaw
import Derived.Test.YtnmaljieaflnmaaL12
import Derived.Test.YtnmaljieaflnmaaL06
namespace Go.Proofs.Ytnmaljieaflnmaa
open Go.RowKit Go.Joins
set_option linter.unusedVariables false

set_option maxRecDepth 100000 in
set_option maxHeartbeats 8000000 in
theorem l5Copy_any {tv pv : Value} {M : Me} {w : World} (hs : sizeM M ≤ 1048576) (h : MemAt w tv pv M) :
    Calls Try.prog 79 #[meV M.c tv pv] w (NewMe M w) := by
  obtain ⟨htn, hpn, hsl, hn⟩ := sizeM_le hs
  have k0 := (Below.refl w.heap.size w).alloc (Nat.le_refl _) (memO M.c tv pv 54)
  have e0 : (w.alloc (memO M.c tv pv 54)).heap.size = w.heap.size + 1 := by simp
  have k1 := k0.alloc k0.size (memO 0 (.slice none 0 0) (.slice none 0 0) 54)
  have hA := alloc_block (memO 0 (.slice none 0 0) (.slice none 0 0) 54) (heap_alloc_new w (memO M.c tv pv 54))
  have hR := heap_alloc_new (w.alloc (memO M.c tv pv 54)) (memO 0 (.slice none 0 0) (.slice none 0 0) 54)
  rw [e0] at hR
  have HM := Lib.hid (h.below k1)
  obtain ⟨va, vc, qa, qc, rfl, rfl⟩ := h.form
  clear h
  have e1 : ((w.alloc (memO M.c (.slice va M.tn vc) (.slice qa M.pn qc) 54)).alloc (memO 0 (.slice none 0 0) (.slice none 0 0) 54)).heap.size = w.heap.size + 1 + 1 := by simp
  have lA := lt_of_block hA
  go_enter Try.func79, Try.ntmps79
  go_upto_region 1 with fail
  generalize ((w.alloc (memO M.c (.slice va M.tn vc) (.slice qa M.pn qc) 54)).alloc (memO 0 (.slice none 0 0) (.slice none 0 0) 54)) = W at k1 hA hR HM e1 lA ⊢
  clear e0 k0
  go_cut [3] (fun v3 wx => ∃ (X : Nat) (a : Option Addr) (c : Nat), v3 = .pointer (some ⟨X, 0, none⟩) ∧ W.heap.size ≤ X ∧ X < wx.heap.size ∧ wx.heap[X]? = some (memO M.c (.slice a M.tn c) (.slice none 0 0) 54) ∧ OwnTRow wx W.heap.size (.slice a M.tn c) M.tn M.t ∧ Below W.heap.size W wx)
  case first =>
    have kk := (Below.refl W.heap.size W).drew
    obtain ⟨x0, x1, x2, _, _, _⟩ := three hA
    have HA := Lib.hid hA
    have hoA := Lib.hid (ownT_new M.t (w := W.drew) (b := w.heap.size + 1 + 1) (B := W.heap.size) e1.symm (Nat.le_refl _))
    have hoB := Lib.hid ((ownT_new M.t (w := W.drew) (b := w.heap.size + 1 + 1) (B := W.heap.size) e1.symm (Nat.le_refl _)).alloc (memO 0 (.slice none 0 0) (.slice none 0 0) 54))
    have hoC := Lib.hid (ownT_new M.t (w := W.drew.alloc (memO 0 (.slice none 0 0) (.slice none 0 0) 54)) (b := w.heap.size + 1 + 1 + 1) (B := W.heap.size) (by simp [e1]) (by simp))
    have kA := kk.alloc kk.size (.cells #[] 96)
    have kB := kA.alloc kA.size (memO 0 (.slice none 0 0) (.slice none 0 0) 54)
    have kx := kk.alloc kk.size (memO 0 (.slice none 0 0) (.slice none 0 0) 54)
    have kC := kx.alloc kx.size (.cells #[] 96)
    have hXB : ((W.drew.alloc (.cells #[] 96)).alloc (memO 0 (.slice none 0 0) (.slice none 0 0) 54)).heap[w.heap.size + 1 + 1 + 1]? = some (memO 0 (.slice none 0 0) (.slice none 0 0) 54) := by
      have := heap_alloc_new (W.drew.alloc (.cells #[] 96)) (memO 0 (.slice none 0 0) (.slice none 0 0) 54)
      rwa [show (W.drew.alloc (.cells #[] 96)).heap.size = w.heap.size + 1 + 1 + 1 by simp [e1]] at this
    have hXC : ((W.drew.alloc (memO 0 (.slice none 0 0) (.slice none 0 0) 54)).alloc (.cells #[] 96)).heap[w.heap.size + 1 + 1]? = some (memO 0 (.slice none 0 0) (.slice none 0 0) 54) := by
      have := alloc_block (.cells #[] 96) (heap_alloc_new W.drew (memO 0 (.slice none 0 0) (.slice none 0 0) 54))
      rwa [show W.drew.heap.size = w.heap.size + 1 + 1 from e1] at this
    go_region_held3 (fun w' => w'.cell? ⟨w.heap.size, 0, none⟩ = some (.int .i64 M.c) ∧ w'.cell? ⟨w.heap.size, 1, none⟩ = some (.slice va M.tn vc))
      (first | exact ⟨x0, x1⟩ | exact ⟨(kA.cell (p := ⟨w.heap.size, 0, none⟩) lA).trans x0, (kA.cell (p := ⟨w.heap.size, 1, none⟩) lA).trans x1⟩ | exact ⟨(kx.cell (p := ⟨w.heap.size, 0, none⟩) lA).trans x0, (kx.cell (p := ⟨w.heap.size, 1, none⟩) lA).trans x1⟩ | exact ⟨(kB.cell (p := ⟨w.heap.size, 0, none⟩) lA).trans x0, (kB.cell (p := ⟨w.heap.size, 1, none⟩) lA).trans x1⟩ | exact ⟨(kC.cell (p := ⟨w.heap.size, 0, none⟩) lA).trans x0, (kC.cell (p := ⟨w.heap.size, 1, none⟩) lA).trans x1⟩ | exact ⟨(kT.cell (p := ⟨w.heap.size, 0, none⟩) lA).trans x0, (kT.cell (p := ⟨w.heap.size, 1, none⟩) lA).trans x1⟩ | exact ⟨(kTX.cell (p := ⟨w.heap.size, 0, none⟩) lA).trans x0, (kTX.cell (p := ⟨w.heap.size, 1, none⟩) lA).trans x1⟩ | exact ⟨(kTY.cell (p := ⟨w.heap.size, 0, none⟩) lA).trans x0, (kTY.cell (p := ⟨w.heap.size, 1, none⟩) lA).trans x1⟩ | exact ⟨(kS.cell (p := ⟨w.heap.size, 0, none⟩) lA).trans x0, (kS.cell (p := ⟨w.heap.size, 1, none⟩) lA).trans x1⟩ | go_keep)
      (first
        | (refine step_append_tms rfl (.tmp 7) (.tmp 9) rfl W.heap.size _ 0 M.t rfl hoA.out _ M.tn M.t rfl (HM.out.1.below kA) (by omega) kA.size ?_; intro v2 w2 hown2 hg2 hat2; have hT := ownT_of_row (by simpa [cellsT] using hown2); have kT := kA.trans (b_grown (g := w.heap.size + 1 + 1) hg2 (by omega) kA.size); have kTX := kT.alloc kT.size (memO 0 (.slice none 0 0) (.slice none 0 0) 54); obtain ⟨ta, tc, htv⟩ := hT.row.form; subst htv; have kTY := kT.alloc kT.size (memO M.c (.slice ta M.tn tc) (.slice none 0 0) 54); clear hown2 hg2 hat2)
        | (refine step_append_tms rfl (.tmp 7) (.tmp 9) rfl W.heap.size _ 0 M.t rfl hoB.out _ M.tn M.t rfl (HM.out.1.below kB) (by omega) kB.size ?_; intro v2 w2 hown2 hg2 hat2; have hT := ownT_of_row (by simpa [cellsT] using hown2); have kT := kB.trans (b_grown (g := w.heap.size + 1 + 1) hg2 (by omega) kB.size); have kTX := kT.alloc kT.size (memO 0 (.slice none 0 0) (.slice none 0 0) 54); have hX2 := g_block (g := w.heap.size + 1 + 1) hg2 hXB (by omega); obtain ⟨z0, z1, z2, zf0, zf1, zf2⟩ := three hX2; obtain ⟨ta, tc, htv⟩ := hT.row.form; subst htv; have kS := b_set3 (g := w.heap.size + 1 + 1 + 1) kT (by omega) (.int .i64 M.c) (.slice ta M.tn tc) (.slice none 0 0); clear hown2 hg2 hat2)
        | (refine step_append_tms rfl (.tmp 7) (.tmp 9) rfl W.heap.size _ 0 M.t rfl hoC.out _ M.tn M.t rfl (HM.out.1.below kC) (by omega) kC.size ?_; intro v2 w2 hown2 hg2 hat2; have hT := ownT_of_row (by simpa [cellsT] using hown2); have kT := kC.trans (b_grown (g := w.heap.size + 1 + 1 + 1) hg2 (by omega) kC.size); have kTX := kT.alloc kT.size (memO 0 (.slice none 0 0) (.slice none 0 0) 54); have hX2 := g_block (g := w.heap.size + 1 + 1 + 1) hg2 hXC (by omega); obtain ⟨z0, z1, z2, zf0, zf1, zf2⟩ := three hX2; obtain ⟨ta, tc, htv⟩ := hT.row.form; subst htv; have kS := b_set3 (g := w.heap.size + 1 + 1) kT (by omega) (.int .i64 M.c) (.slice ta M.tn tc) (.slice none 0 0); clear hown2 hg2 hat2))
    · go_wp2_with fail
      go_meet
      exact ⟨_, _, _, rfl, kT.size, by simp, heap_alloc_new w2 _, hT.below ((Below.refl w2.heap.size w2).alloc (Nat.le_refl _) _), kTY⟩
    · go_wp2_with fail
      go_meet
      exact ⟨_, _, _, rfl, by omega, lt_of_block (block_set3 hX2), block_set3 hX2, hT.setMem hX2 _ _ _, kS⟩
    · go_wp2_with fail
      go_meet
      exact ⟨_, _, _, rfl, by omega, lt_of_block (block_set3 hX2), block_set3 hX2, hT.setMem hX2 _ _ _, kS⟩
  case rest =>
    obtain ⟨X, ta, tc, rfl, lX0, lX, hX, hT, kW⟩ := hcut
    have lR := lt_of_block hR
    have HA0 := Lib.hid hA
    have HR0 := Lib.hid hR
    have HP0 := Lib.hid HM.out.2
    obtain ⟨B, hB⟩ : ∃ B, B = wc.heap.size := ⟨_, rfl⟩
    have hT1 := hT.innAt hB
    have hXB : X < B := by omega
    have HN := Lib.hid hn
    have lRB : w.heap.size + 1 < B := by omega
    have lBw : B ≤ wc.heap.size := by omega
    have hWX : w.heap.size + 1 + 1 ≤ X := by omega
    have hWB : W.heap.size = w.heap.size + 1 + 1 := e1
    have hWBB : W.heap.size ≤ B := by omega
    have hA1 := b_block kW hA lA
    obtain ⟨a0, a1, a2, _, _, _⟩ := three hA1
    clear hA hR HM hT hn hA1
    go_wp2_with fail
    go_loopw [4] (fun i wr => ∃ (k : Nat) (pv : Value) (V : Nat → Value), k ≤ M.pn ∧ i = .int .i64 k ∧ wr.heap[X]? = some (memO M.c (.slice ta M.tn tc) pv 54) ∧ OwnTIn wr W.heap.size B (.slice ta M.tn tc) M.tn M.t ∧ ListRow wr B pv k M.p V ∧ HeapsAt wr B k M.p V ∧ B ≤ wr.heap.size ∧ Below W.heap.size W wr) (fun i _ => M.pn - (intOf i).toNat)
    case atStart => exact ⟨0, _, _, Nat.zero_le _, rfl, hX, hT1, .inl ⟨rfl, rfl⟩, HeapsAt.zero _ _ _ (fun _ => .slice none 0 0), lBw, kW⟩
    case round =>
      clear hX hT1 kW a0 a1 a2
      obtain ⟨k, pv, V, hk, rfl, hX, hT, hL, hH, hBw, kw⟩ := hrel
      have hA := b_block kw HA0.out lA
      have hR := b_block kw HR0.out lR
      have hS := HP0.out.below kw
      obtain ⟨x0, x1, x2, xf0, xf1, xf2⟩ := three hX
      obtain ⟨a0, a1, a2, _, _, _⟩ := three hA
      obtain ⟨pa, pc, hpv⟩ := hL.form
      by_cases hlt : k < M.pn
      · have i1 : (k : Int) < (M.pn : Int) := by omega
        have lXr := lt_of_block hX
        have hnk := HN.out k hlt
        rcases hS with ⟨h0, _⟩ | ⟨sb, soff, scap, es, sl, sc⟩
        · omega
        injection es with es1 es2 es3
        obtain ⟨ha, hcap, s0, s1, s2, s3, srow⟩ := sc k hlt
        subst hpv es1 es3
        clear sc
        go_wp2_with fail
        go_region_law (first
          | (go_simp; go_at_call 109; refine (l4Copy_any (M.p k).l (M.p k).e (M.p k).d hnk srow.drew).mono ?_; rintro x w1 ⟨u, rfl, hO, hb⟩
             replace hb := (Below.refl wr.heap.size wr).drew.trans (hb.mono (Nat.le_refl _))
             obtain ⟨ua, uc, hu⟩ := hO.value
             subst hu
             have hXa := alloc_block (.cells #[.slice ua (M.p k).n uc, .int .i64 (M.p k).l, .int .i64 (M.p k).e, .int .i64 (M.p k).d] 28) (b_block hb hX lXr)
             have q2 := (hb.cell (p := ⟨X, 2, none⟩) lXr).trans x2
             have q3 := cell_of_block hXa 2
             have ho := Lib.hid ((rowP_of_list (hL.below hb)).alloc (.cells #[.slice ua (M.p k).n uc, .int .i64 (M.p k).l, .int .i64 (M.p k).e, .int .i64 (M.p k).d] 28))
             have hP := Lib.hid (heap_alloc_new w1 (.cells #[.slice ua (M.p k).n uc, .int .i64 (M.p k).l, .int .i64 (M.p k).e, .int .i64 (M.p k).d] 28))
             have hsz := hb.size
             have hBa : B ≤ (w1.alloc (.cells #[.slice ua (M.p k).n uc, .int .i64 (M.p k).l, .int .i64 (M.p k).e, .int .i64 (M.p k).d] 28)).heap.size := by simp; omega
             have hTa := (hT.keep (Same.of_below hb (Nat.le_trans hBw (Nat.le_refl _)))).keep (Same.of_below ((Below.refl w1.heap.size w1).alloc (Nat.le_refl _) (.cells #[.slice ua (M.p k).n uc, .int .i64 (M.p k).l, .int .i64 (M.p k).e, .int .i64 (M.p k).d] 28)) (Nat.le_trans hBw hsz))
             have ka := (kw.trans (hb.mono kw.size)).alloc (Nat.le_trans kw.size hsz) (.cells #[.slice ua (M.p k).n uc, .int .i64 (M.p k).l, .int .i64 (M.p k).e, .int .i64 (M.p k).d] 28)
             have hHa := (hH.below hb).below ((Below.refl w1.heap.size w1).alloc (Nat.le_refl _) (.cells #[.slice ua (M.p k).n uc, .int .i64 (M.p k).l, .int .i64 (M.p k).e, .int .i64 (M.p k).d] 28))
             have hLa := (hL.below hb).below ((Below.refl w1.heap.size w1).alloc (Nat.le_refl _) (.cells #[.slice ua (M.p k).n uc, .int .i64 (M.p k).l, .int .i64 (M.p k).e, .int .i64 (M.p k).d] 28))
             have hOa := (hO.below ((Below.refl w1.heap.size w1).alloc (Nat.le_refl _) (.cells #[.slice ua (M.p k).n uc, .int .i64 (M.p k).l, .int .i64 (M.p k).e, .int .i64 (M.p k).d] 28))).mono hBw
             have hdis : ∀ i, i < k → ∀ x, (V i).ownBlock = some x → (Value.slice ua (M.p k).n uc).ownBlock ≠ some x := fun i hi x hx e => by
               have h1 := (hH.1 i hi).lt_size x hx
               have h2 : wr.heap.size ≤ x := hO.block_ge x e
               omega
             have hlast := Nat.le_trans kw.size hsz)
          | (refine step_append_proc rfl (.tmp 20) (.tmp 27) rfl B _ k M.p V rfl ho.out _ (M.p k) (.slice ua (M.p k).n uc) rfl rfl hP.out (by omega) hBa ?_
             intro v' w' hown hg hat
             have hob := fun x hx => (hLa.block_ge (x := x) hx)
             have hX' : w'.heap[X]? = _ := (hg.block X (lt_of_block hXa) (fun e => by have := hob X e.symm; omega)).trans hXa
             have kB' := b_grownO hg hob hBa
             have hT' := hTa.keep (Same.of_below kB' (Nat.le_refl _))
             have hn' : ∀ i, i < k + 1 → putP M.p k (M.p k) i = M.p i := fun i _ => by unfold putP; split <;> simp_all
             have hH' := ((hHa.grown hLa hg).add (p := M.p k) (hOa.keptO hg hLa) hdis).congr (Q := M.p) (U := putV V k (.slice ua (M.p k).n uc)) hn' (fun _ _ => rfl)
             have hL' := (listP_of_row hown).congr (Q := M.p) hn' (fun _ _ => rfl)
             obtain ⟨qa2, qc2, hqv⟩ := hL'.form
             obtain ⟨y0, y1, y2, yf0, yf1, yf2⟩ := three hX'
             have kw' := ka.trans (b_grownO hg (fun x hx => Nat.le_trans hWBB (hob x hx)) ka.size)
             subst hqv
             have hs' := hg.size
             have hTz := OwnTIn.setM hT' hX' 2 (.slice qa2 (k + 1) qc2)
             have hBs : B ≤ (w'.setCell ⟨X, 2, none⟩ (.slice qa2 (k + 1) qc2)).heap.size := by simp; exact Nat.le_trans hBa hs'
             clear hg hown hat hXa hHa hLa hOa hdis hTa ka ho hP))
        all_goals
          clear y0 y1 y2 yf0 yf1 yf2 x0 x1 x2 xf0 xf1 xf2 a0 a1 a2 q2 q3 s0 s1 s2 s3 srow
          go_wp2
          exact ⟨⟨k + 1, _, _, by omega, by go_num, block_setCell (i := 2) hX' _, hTz, hL'.set hXB 2 _, hH'.set hXB 2 _, hBs, kw'.setCell (p := ⟨X, 2, none⟩) lX0 _⟩, by simp only [intOf]; omega⟩
      · have hkn : k = M.pn := by omega
        subst hkn
        subst hpv
        have i1 : ¬ (M.pn : Int) < (M.pn : Int) := by omega
        obtain ⟨r0, r1, r2, rf0, rf1, rf2⟩ := three hR
        have hOf : OwnPRow wr B (.slice pa M.pn pc) M.pn M.p := hL.own hH
        go_wp2
        exact bodyPost_ret (v := meV M.c (.slice ta M.tn tc) (.slice pa M.pn pc)) (by simp [results, Try.results79, go_sem, r0, r1, r2]) rfl ⟨_, _, rfl, ⟨(hT.own.set3 (by omega) _ _ _).mono (by omega), (hOf.set3 (by omega) _ _ _).mono (by omega)⟩, b_set3 (k1.trans (kw.mono k1.size)) (Nat.le_succ _) _ _ _⟩

end Go.Proofs.Ytnmaljieaflnmaa

/-
  A memory, later (spec, chapter 5).
-/
namespace Go.Proofs.Ytnmaljieaflnmaa
open Go.RowKit Go.Joins
set_option linter.unusedVariables false

def elapsedM (a b c d : Int) (M : Me) : Me := if memOkB a b c M then ⟨minI (afterI M.c d) 999999999, M.tn, M.t, M.pn, M.p⟩ else me0

set_option maxRecDepth 100000 in
set_option maxHeartbeats 4000000 in
theorem spElapsed_any : AsksMM 30 elapsedM := by
  intro a b c d tv pv M w hs h
  obtain ⟨va, vc, qa, qc, rfl, rfl⟩ := h.form
  have k0 := (Below.refl w.heap.size w).alloc (Nat.le_refl _) (.cells #[.int .i64 a, .int .i64 b, .int .i64 c] 25)
  have e0 : (w.alloc (.cells #[.int .i64 a, .int .i64 b, .int .i64 c] 25)).heap.size = w.heap.size + 1 := by simp
  have k1 := k0.alloc k0.size (memO M.c (.slice va M.tn vc) (.slice qa M.pn qc) 54)
  have e1 : ((w.alloc (.cells #[.int .i64 a, .int .i64 b, .int .i64 c] 25)).alloc (memO M.c (.slice va M.tn vc) (.slice qa M.pn qc) 54)).heap.size = w.heap.size + 1 + 1 := by simp
  have k2 := k1.alloc k1.size (memO 0 (.slice none 0 0) (.slice none 0 0) 54)
  have hA := alloc_block (memO 0 (.slice none 0 0) (.slice none 0 0) 54) (heap_alloc_new (w.alloc (.cells #[.int .i64 a, .int .i64 b, .int .i64 c] 25)) (memO M.c (.slice va M.tn vc) (.slice qa M.pn qc) 54))
  rw [e0] at hA
  have hR := heap_alloc_new ((w.alloc (.cells #[.int .i64 a, .int .i64 b, .int .i64 c] 25)).alloc (memO M.c (.slice va M.tn vc) (.slice qa M.pn qc) 54)) (memO 0 (.slice none 0 0) (.slice none 0 0) 54)
  rw [e1] at hR
  have lA := lt_of_block hA
  have lR := lt_of_block hR
  have HM := Lib.hid (h.below k2)
  obtain ⟨a0, a1, a2, _, _, _⟩ := three hA
  cases hok : memOkB a b c M
  · rw [show elapsedM a b c d M = me0 by rw [elapsedM, hok]; rfl]
    go_enter Try.func30, Try.ntmps30
    go_wp2_with fail
    go_at_call 21; refine (spMemOk_any _ _ _ hs HM.out).mono ?_; rintro x w1 ⟨rfl, hb⟩; rw [hok]
    have hR1 := b_block hb hR lR
    have k3 := k2.trans (hb.mono k2.size)
    obtain ⟨r0, r1, r2, rf0, rf1, rf2⟩ := three hR1
    go_wp2
    exact bodyPost_ret (v := meV 0 (.slice none 0 0) (.slice none 0 0)) (by simp [results, Try.results30, go_sem, r0, r1, r2]) rfl ⟨_, _, rfl, own_me0 _ _, b_set3 k3 (by omega) _ _ _⟩
  · rw [show elapsedM a b c d M = ⟨minI (afterI M.c d) 999999999, M.tn, M.t, M.pn, M.p⟩ by rw [elapsedM, hok]; rfl]
    go_enter Try.func30, Try.ntmps30
    go_wp2_with fail
    go_at_call 21; refine (spMemOk_any _ _ _ hs HM.out).mono ?_; rintro x w1 ⟨rfl, hb⟩; rw [hok]
    have hR1 := b_block hb hR lR
    have hA1 := b_block hb hA lA
    have HM1 := Lib.hid (HM.out.below hb)
    have k3 := k2.trans (hb.mono k2.size)
    obtain ⟨b0, b1, b2, _, _, _⟩ := three hA1
    clear hb HM hR hA a0 a1 a2
    go_wp2_with fail
    go_at_call 79; refine (l5Copy_any hs HM1.out).mono ?_; rintro x w2 ⟨t2, p2, rfl, hO, hb⟩
    obtain ⟨ta, tc, pa, pc, ht2, hp2⟩ := hO.at.form
    subst ht2 hp2
    have hX := heap_alloc_new w2 (memO M.c (.slice ta M.tn tc) (.slice pa M.pn pc) 54)
    have hA2 := alloc_block (memO M.c (.slice ta M.tn tc) (.slice pa M.pn pc) 54) (b_block hb hA1 (lt_of_block hA1))
    have hX3 := heap_alloc_new w2 (memO (minI (afterI M.c d) 999999999) (.slice ta M.tn tc) (.slice pa M.pn pc) 54)
    have hR3 := alloc_block (memO (minI (afterI M.c d) 999999999) (.slice ta M.tn tc) (.slice pa M.pn pc) 54) (b_block hb hR1 (lt_of_block hR1))
    have hO3 := hO.below ((Below.refl w2.heap.size w2).alloc (Nat.le_refl _) (memO (minI (afterI M.c d) 999999999) (.slice ta M.tn tc) (.slice pa M.pn pc) 54))
    have k5 := (k3.trans (hb.mono k3.size)).alloc (Nat.le_trans k3.size hb.size) (memO (minI (afterI M.c d) 999999999) (.slice ta M.tn tc) (.slice pa M.pn pc) 54)
    have l1 := lt_of_block hR1
    obtain ⟨c0, c1, c2, _, _, _⟩ := three hA2
    obtain ⟨x0, x1, x2, xf0, xf1, xf2⟩ := three hX
    clear hb hO b0 b1 b2 HM1 hA1 hR1 k3 hA2 hX
    obtain ⟨z0, z1, z2, zf0, zf1, zf2⟩ := three hX3
    obtain ⟨r0, r1, r2, rf0, rf1, rf2⟩ := three hR3
    go_wp2_with (first
      | (go_at_call 80; refine (spAfter_any _ _ _).mono ?_; rintro x w' ⟨rfl, rfl⟩)
      | (go_at_call 58; refine (l1Min_any _ _ _).mono ?_; rintro x w' ⟨rfl, rfl⟩))
    exact bodyPost_ret (v := meV (minI (afterI M.c d) 999999999) (.slice ta M.tn tc) (.slice pa M.pn pc)) (by simp [results, Try.results30, go_sem, r0, r1, r2]) rfl ⟨_, _, rfl, (hO3.set3 (by omega) _ _ _).mono (by omega), b_set3 k5 (by omega) _ _ _⟩

end Go.Proofs.Ytnmaljieaflnmaa

/-
  A time, and that much later (chapter 1), in the program.
-/
namespace Go.Proofs.Ytnmaljieaflnmaa
open Go.RowKit
set_option linter.unusedVariables false

set_option maxHeartbeats 400000 in
theorem after_any (t d : Int) (w : World) :
    Calls Try.prog 112 #[.int .i64 t, .int .i64 d] w fun e w' => e = .returned (.int .i64 (afterI t d)) ∧ w = w' := by
  cases h1 : inB t 0 1000000000
  · rw [afterI_no h1]
    go_enter Try.func112, Try.ntmps112
    go_wp2_with (go_at_call 122; refine (isTime_any _ _).mono ?_; rintro e w' ⟨rfl, rfl⟩)
    go_ret
    exact ⟨rfl, rfl⟩
  · obtain ⟨b1, b2⟩ := inB_iff.1 h1
    by_cases h2 : d < 0
    · rw [afterI_neg h1 h2]
      go_enter Try.func112, Try.ntmps112
      go_wp2_with (go_at_call 122; refine (isTime_any _ _).mono ?_; rintro e w' ⟨rfl, rfl⟩)
      go_ret
      exact ⟨rfl, rfl⟩
    · by_cases h3 : d ≤ 1000000000
      · by_cases h4 : t + d ≤ 1000000000
        · rw [afterI_in h1 h4 (by omega)]
          go_enter Try.func112, Try.ntmps112
          go_wp2_with (go_at_call 122; refine (isTime_any _ _).mono ?_; rintro e w' ⟨rfl, rfl⟩)
          go_ret
          exact ⟨rfl, rfl⟩
        · rw [afterI_far h1 (by omega) (by omega)]
          go_enter Try.func112, Try.ntmps112
          go_wp2_with (go_at_call 122; refine (isTime_any _ _).mono ?_; rintro e w' ⟨rfl, rfl⟩)
          go_ret
          exact ⟨rfl, rfl⟩
      · rw [afterI_far h1 (by omega) (by omega)]
        by_cases h4 : t + 1000000000 ≤ 1000000000
        · have h5 : t = 0 := by omega
          subst h5
          go_enter Try.func112, Try.ntmps112
          go_wp2_with (go_at_call 122; refine (isTime_any _ _).mono ?_; rintro e w' ⟨rfl, rfl⟩)
          go_ret
          exact ⟨rfl, rfl⟩
        · go_enter Try.func112, Try.ntmps112
          go_wp2_with (go_at_call 122; refine (isTime_any _ _).mono ?_; rintro e w' ⟨rfl, rfl⟩)
          go_ret
          exact ⟨rfl, rfl⟩

end Go.Proofs.Ytnmaljieaflnmaa
