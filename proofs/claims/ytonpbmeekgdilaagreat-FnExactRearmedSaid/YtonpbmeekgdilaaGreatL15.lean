/-
  A memory, copied; and later (spec, chapter 5).
-/
import Derived.Test.YtonpbmeekgdilaaGreatL12
import Derived.Test.YtonpbmeekgdilaaGreatL11
import Derived.Test.YtonpbmeekgdilaaGreatL05
import Derived.Deep.DeepCutAuto
import Derived.Deep.RegionLaw
namespace Go.Proofs.YtonpbmeekgdilaaGreat
open Go.RowKit Go.Joins
set_option linter.unusedVariables false

theorem OwnRow.set4 {w : World} {B n b : Nat} {v : Value} {f : Slots} (h : OwnRow w B v n f) (hb : b < B) (x y z u : Value) :
    OwnRow ((((w.setCell ⟨b, 0, none⟩ x).setCell ⟨b, 1, none⟩ y).setCell ⟨b, 2, none⟩ z).setCell ⟨b, 3, none⟩ u) B v n f := (((h.set hb 0 x).set hb 1 y).set hb 2 z).set hb 3 u
theorem b_set4 {W w : World} {n g : Nat} (h : Below n W w) (hg : n ≤ g) (x y z u : Value) : Below n W ((((w.setCell ⟨g, 0, none⟩ x).setCell ⟨g, 1, none⟩ y).setCell ⟨g, 2, none⟩ z).setCell ⟨g, 3, none⟩ u) :=
  (((h.setCell (p := ⟨g, 0, none⟩) hg x).setCell (p := ⟨g, 1, none⟩) hg y).setCell (p := ⟨g, 2, none⟩) hg z).setCell (p := ⟨g, 3, none⟩) hg u

set_option maxRecDepth 100000 in
set_option maxHeartbeats 2000000 in
theorem l4Copy_any {v : Value} {n : Nat} {f : Slots} (l e d : Int) {w : World} (hn : n ≤ 1048576) (h : RowAt w v n f) :
    Calls Tryz.prog 49 #[prV v l e d] w fun x w' => ∃ u, x = .returned (prV u l e d) ∧ OwnRow w' w.heap.size u n f ∧ Below w.heap.size w w' := by
  have k0 := (Below.refl w.heap.size w).alloc (Nat.le_refl _) (.cells #[v, .int .i64 l, .int .i64 e, .int .i64 d] 75)
  have e0 : (w.alloc (.cells #[v, .int .i64 l, .int .i64 e, .int .i64 d] 75)).heap.size = w.heap.size + 1 := by simp
  have k1 := k0.alloc k0.size (.cells #[.slice none 0 0, .int .i64 0, .int .i64 0, .int .i64 0] 75)
  have hA := alloc_block (.cells #[.slice none 0 0, .int .i64 0, .int .i64 0, .int .i64 0] 75) (heap_alloc_new w (.cells #[v, .int .i64 l, .int .i64 e, .int .i64 d] 75))
  have hR := heap_alloc_new (w.alloc (.cells #[v, .int .i64 l, .int .i64 e, .int .i64 d] 75)) (.cells #[.slice none 0 0, .int .i64 0, .int .i64 0, .int .i64 0] 75)
  rw [e0] at hR
  have lA := lt_of_block hA
  have lR := lt_of_block hR
  have HR := Lib.hid (h.below k1)
  obtain ⟨va, vc, hv⟩ := h.form
  clear h
  subst hv
  go_enter Tryz.func49, Tryz.ntmps49
  go_wp2_with fail
  go_at_call 77; refine (l2Copy_any hn HR.out).mono ?_; rintro x w1 ⟨u, rfl, hO, hb⟩
  have hA1 := b_block hb hA lA
  have hR1 := b_block hb hR lR
  have k2 := k1.trans (hb.mono k1.size)
  replace hO := hO.mono (B' := w.heap.size + 1 + 1) (by simp)
  obtain ⟨ua, uc, hu⟩ := hO.row.form
  obtain ⟨a0, a1, a2, a3, af0, af1, af2, af3⟩ := four hA1
  obtain ⟨r0, r1, r2, r3, rf0, rf1, rf2, rf3⟩ := four hR1
  have k3 := k2.setCell (p := ⟨w.heap.size, 0, none⟩) (Nat.le_refl _) u
  have hO2 := hO.set (b := w.heap.size) (by omega) 0 u
  clear hb hA hR HR k0 k1 hA1 hR1 e0 lA lR hO
  subst hu
  go_wp2
  exact bodyPost_ret (v := prV (.slice ua n uc) l e d) (by simp [results, Tryz.results49, go_sem, r0, r1, r2, r3]) rfl ⟨_, rfl, (hO2.set4 (by omega) _ _ _ _).mono (by omega), b_set4 k3 (Nat.le_succ _) _ _ _ _⟩

theorem ne_of_type {w : World} {g b : Nat} {cs cs' : Array Value} {t t' : TypeId} (h : w.heap[g]? = some (.cells cs t (0, 0))) (h' : w.heap[b]? = some (.cells cs' t' (0, 0))) (hn : t ≠ t') : g ≠ b := by
  rintro rfl
  rw [h] at h'
  injection h' with h'
  injection h' with _ h2 _
  exact hn h2
theorem OwnTRow.setMem {w : World} {B b n : Nat} {v : Value} {f : Tms} {cs : Array Value} (h : OwnTRow w B v n f) (hz : w.heap[b]? = some (.cells cs 32 (0, 0))) (x y z : Value) :
    OwnTRow (((w.setCell ⟨b, 0, none⟩ x).setCell ⟨b, 1, none⟩ y).setCell ⟨b, 2, none⟩ z) B v n f := by
  rcases h with h | ⟨g, cap, e, h⟩
  · exact .inl h
  · have hne : g ≠ b := by
      obtain ⟨_, _, _, cur, hh, _⟩ := h
      exact ne_of_type hh hz (by decide)
    exact .inr ⟨g, cap, e, h.block ((Below.heap_setCell _ ⟨b, 2, none⟩ z g hne).trans ((Below.heap_setCell _ ⟨b, 1, none⟩ y g hne).trans (Below.heap_setCell _ ⟨b, 0, none⟩ x g hne)))⟩
theorem OwnPIn.own {w : World} {B C m : Nat} {v : Value} {P : Pcs} (h : OwnPIn w B C v m P) : OwnPRow w B v m P := by
  rcases h with h | ⟨g, cap, V, e, h, _⟩
  · exact .inl h
  · exact .inr ⟨g, cap, V, e, h⟩
theorem OwnTIn.setM {w : World} {B C b n : Nat} {v : Value} {f : Tms} {cs : Array Value} (h : OwnTIn w B C v n f) (hz : w.heap[b]? = some (.cells cs 32 (0, 0))) (o : Nat) (x : Value) :
    OwnTIn (w.setCell ⟨b, o, none⟩ x) B C v n f := by
  rcases h with h | ⟨g, cap, e, h, hC⟩
  · exact .inl h
  · have hne : g ≠ b := by
      obtain ⟨_, _, _, cur, hh, _⟩ := h
      exact ne_of_type hh hz (by decide)
    exact .inr ⟨g, cap, e, h.block (Below.heap_setCell _ ⟨b, o, none⟩ x g hne), hC⟩
theorem OwnTRow.innAt {w : World} {B C n : Nat} {v : Value} {f : Tms} (h : OwnTRow w B v n f) (hC : C = w.heap.size) : OwnTIn w B C v n f := by
  subst hC
  rcases h with h | ⟨g, cap, e, h⟩
  · exact .inl h
  · exact .inr ⟨g, cap, e, h, h.lt⟩
theorem OwnTIn.own {w : World} {B C n : Nat} {v : Value} {f : Tms} (h : OwnTIn w B C v n f) : OwnTRow w B v n f := by
  rcases h with h | ⟨g, cap, e, h, _⟩
  · exact .inl h
  · exact .inr ⟨g, cap, e, h⟩
theorem OwnMem.setM {w : World} {B b : Nat} {tv pv : Value} {N : Me} {cs : Array Value} (h : OwnMem w B tv pv N) (hz : w.heap[b]? = some (.cells cs 32 (0, 0))) (o : Nat) (x : Value) : OwnMem (w.setCell ⟨b, o, none⟩ x) B tv pv N := by
  have s := (KeepsBut.refl [32] w).set hz (by decide) o x
  exact ⟨(h.inn.1.keeps s (by decide)).own, (h.inn.2.keeps s (by decide) (by decide)).own⟩
theorem OwnRow.block_ge {w : World} {B n : Nat} {v : Value} {f : Slots} (h : OwnRow w B v n f) : ∀ x, v.ownBlock = some x → B ≤ x := by
  intro x hx
  rcases h with ⟨_, rfl⟩ | ⟨g, cap, rfl, h⟩
  · simp [Value.ownBlock] at hx
  · simp [Value.ownBlock] at hx
    subst hx
    exact h.1
theorem block_set3 {w : World} {b : Nat} {x y z x' y' z' : Value} {t : TypeId} (h : w.heap[b]? = some (.cells #[x, y, z] t (0, 0))) :
    (((w.setCell ⟨b, 0, none⟩ x').setCell ⟨b, 1, none⟩ y').setCell ⟨b, 2, none⟩ z').heap[b]? = some (.cells #[x', y', z'] t (0, 0)) := block_setCell (i := 2) (block_setCell (i := 1) (block_setCell (i := 0) h x') y') z'

end Go.Proofs.YtonpbmeekgdilaaGreat

/-
  A memory, copied (spec, chapter 5).
-/
namespace Go.Proofs.YtonpbmeekgdilaaGreat
open Go.RowKit Go.Joins
set_option linter.unusedVariables false

set_option maxRecDepth 100000 in
set_option maxHeartbeats 8000000 in
theorem l5Copy_any {tv pv : Value} {M : Me} {w : World} (hs : sizeM M ≤ 1048576) (h : MemAt w tv pv M) :
    Calls Tryz.prog 24 #[meV M.c tv pv] w (NewMe M w) := by
  obtain ⟨htn, hpn, hsl, hn⟩ := sizeM_le hs
  have k0 := (Below.refl w.heap.size w).alloc (Nat.le_refl _) (memO M.c tv pv 32)
  have e0 : (w.alloc (memO M.c tv pv 32)).heap.size = w.heap.size + 1 := by simp
  have k1 := k0.alloc k0.size (memO 0 (.slice none 0 0) (.slice none 0 0) 32)
  have hA := alloc_block (memO 0 (.slice none 0 0) (.slice none 0 0) 32) (heap_alloc_new w (memO M.c tv pv 32))
  have hR := heap_alloc_new (w.alloc (memO M.c tv pv 32)) (memO 0 (.slice none 0 0) (.slice none 0 0) 32)
  rw [e0] at hR
  have HM := Lib.hid (h.below k1)
  obtain ⟨va, vc, qa, qc, rfl, rfl⟩ := h.form
  clear h
  have e1 : ((w.alloc (memO M.c (.slice va M.tn vc) (.slice qa M.pn qc) 32)).alloc (memO 0 (.slice none 0 0) (.slice none 0 0) 32)).heap.size = w.heap.size + 1 + 1 := by simp
  have lA := lt_of_block hA
  go_enter Tryz.func24, Tryz.ntmps24
  go_upto_region 1 with fail
  generalize ((w.alloc (memO M.c (.slice va M.tn vc) (.slice qa M.pn qc) 32)).alloc (memO 0 (.slice none 0 0) (.slice none 0 0) 32)) = W at k1 hA hR HM e1 lA ⊢
  clear e0 k0
  go_cut [3] (fun v3 wx => ∃ (X : Nat) (a : Option Addr) (c : Nat), v3 = .pointer (some ⟨X, 0, none⟩) ∧ W.heap.size ≤ X ∧ X < wx.heap.size ∧ wx.heap[X]? = some (memO M.c (.slice a M.tn c) (.slice none 0 0) 32) ∧ OwnTRow wx W.heap.size (.slice a M.tn c) M.tn M.t ∧ Below W.heap.size W wx)
  case first =>
    have kk := (Below.refl W.heap.size W).drew
    obtain ⟨x0, x1, x2, _, _, _⟩ := three hA
    have HA := Lib.hid hA
    have hoA := Lib.hid (ownT_new M.t (w := W.drew) (b := w.heap.size + 1 + 1) (B := W.heap.size) e1.symm (Nat.le_refl _))
    have hoB := Lib.hid ((ownT_new M.t (w := W.drew) (b := w.heap.size + 1 + 1) (B := W.heap.size) e1.symm (Nat.le_refl _)).alloc (memO 0 (.slice none 0 0) (.slice none 0 0) 32))
    have hoC := Lib.hid (ownT_new M.t (w := W.drew.alloc (memO 0 (.slice none 0 0) (.slice none 0 0) 32)) (b := w.heap.size + 1 + 1 + 1) (B := W.heap.size) (by simp [e1]) (by simp))
    have kA := kk.alloc kk.size (.cells #[] 70)
    have kB := kA.alloc kA.size (memO 0 (.slice none 0 0) (.slice none 0 0) 32)
    have kx := kk.alloc kk.size (memO 0 (.slice none 0 0) (.slice none 0 0) 32)
    have kC := kx.alloc kx.size (.cells #[] 70)
    have hXB : ((W.drew.alloc (.cells #[] 70)).alloc (memO 0 (.slice none 0 0) (.slice none 0 0) 32)).heap[w.heap.size + 1 + 1 + 1]? = some (memO 0 (.slice none 0 0) (.slice none 0 0) 32) := by
      have := heap_alloc_new (W.drew.alloc (.cells #[] 70)) (memO 0 (.slice none 0 0) (.slice none 0 0) 32)
      rwa [show (W.drew.alloc (.cells #[] 70)).heap.size = w.heap.size + 1 + 1 + 1 by simp [e1]] at this
    have hXC : ((W.drew.alloc (memO 0 (.slice none 0 0) (.slice none 0 0) 32)).alloc (.cells #[] 70)).heap[w.heap.size + 1 + 1]? = some (memO 0 (.slice none 0 0) (.slice none 0 0) 32) := by
      have := alloc_block (.cells #[] 70) (heap_alloc_new W.drew (memO 0 (.slice none 0 0) (.slice none 0 0) 32))
      rwa [show W.drew.heap.size = w.heap.size + 1 + 1 from e1] at this
    go_region_held3 (fun w' => w'.cell? ⟨w.heap.size, 0, none⟩ = some (.int .i64 M.c) ∧ w'.cell? ⟨w.heap.size, 1, none⟩ = some (.slice va M.tn vc))
      (first | exact ⟨x0, x1⟩ | exact ⟨(kA.cell (p := ⟨w.heap.size, 0, none⟩) lA).trans x0, (kA.cell (p := ⟨w.heap.size, 1, none⟩) lA).trans x1⟩ | exact ⟨(kx.cell (p := ⟨w.heap.size, 0, none⟩) lA).trans x0, (kx.cell (p := ⟨w.heap.size, 1, none⟩) lA).trans x1⟩ | exact ⟨(kB.cell (p := ⟨w.heap.size, 0, none⟩) lA).trans x0, (kB.cell (p := ⟨w.heap.size, 1, none⟩) lA).trans x1⟩ | exact ⟨(kC.cell (p := ⟨w.heap.size, 0, none⟩) lA).trans x0, (kC.cell (p := ⟨w.heap.size, 1, none⟩) lA).trans x1⟩ | exact ⟨(kT.cell (p := ⟨w.heap.size, 0, none⟩) lA).trans x0, (kT.cell (p := ⟨w.heap.size, 1, none⟩) lA).trans x1⟩ | exact ⟨(kTX.cell (p := ⟨w.heap.size, 0, none⟩) lA).trans x0, (kTX.cell (p := ⟨w.heap.size, 1, none⟩) lA).trans x1⟩ | exact ⟨(kTY.cell (p := ⟨w.heap.size, 0, none⟩) lA).trans x0, (kTY.cell (p := ⟨w.heap.size, 1, none⟩) lA).trans x1⟩ | exact ⟨(kS.cell (p := ⟨w.heap.size, 0, none⟩) lA).trans x0, (kS.cell (p := ⟨w.heap.size, 1, none⟩) lA).trans x1⟩ | go_keep)
      (first
        | (refine step_append_tms rfl (.tmp 7) (.tmp 9) rfl W.heap.size _ 0 M.t rfl hoA.out _ M.tn M.t rfl (HM.out.1.below kA) (by omega) kA.size ?_; intro v2 w2 hown2 hg2 hat2; have hT := ownT_of_row (by simpa [cellsT] using hown2); have kT := kA.trans (b_grown (g := w.heap.size + 1 + 1) hg2 (by omega) kA.size); have kTX := kT.alloc kT.size (memO 0 (.slice none 0 0) (.slice none 0 0) 32); obtain ⟨ta, tc, htv⟩ := hT.row.form; subst htv; have kTY := kT.alloc kT.size (memO M.c (.slice ta M.tn tc) (.slice none 0 0) 32); clear hown2 hg2 hat2)
        | (refine step_append_tms rfl (.tmp 7) (.tmp 9) rfl W.heap.size _ 0 M.t rfl hoB.out _ M.tn M.t rfl (HM.out.1.below kB) (by omega) kB.size ?_; intro v2 w2 hown2 hg2 hat2; have hT := ownT_of_row (by simpa [cellsT] using hown2); have kT := kB.trans (b_grown (g := w.heap.size + 1 + 1) hg2 (by omega) kB.size); have kTX := kT.alloc kT.size (memO 0 (.slice none 0 0) (.slice none 0 0) 32); have hX2 := g_block (g := w.heap.size + 1 + 1) hg2 hXB (by omega); obtain ⟨z0, z1, z2, zf0, zf1, zf2⟩ := three hX2; obtain ⟨ta, tc, htv⟩ := hT.row.form; subst htv; have kS := b_set3 (g := w.heap.size + 1 + 1 + 1) kT (by omega) (.int .i64 M.c) (.slice ta M.tn tc) (.slice none 0 0); clear hown2 hg2 hat2)
        | (refine step_append_tms rfl (.tmp 7) (.tmp 9) rfl W.heap.size _ 0 M.t rfl hoC.out _ M.tn M.t rfl (HM.out.1.below kC) (by omega) kC.size ?_; intro v2 w2 hown2 hg2 hat2; have hT := ownT_of_row (by simpa [cellsT] using hown2); have kT := kC.trans (b_grown (g := w.heap.size + 1 + 1 + 1) hg2 (by omega) kC.size); have kTX := kT.alloc kT.size (memO 0 (.slice none 0 0) (.slice none 0 0) 32); have hX2 := g_block (g := w.heap.size + 1 + 1 + 1) hg2 hXC (by omega); obtain ⟨z0, z1, z2, zf0, zf1, zf2⟩ := three hX2; obtain ⟨ta, tc, htv⟩ := hT.row.form; subst htv; have kS := b_set3 (g := w.heap.size + 1 + 1) kT (by omega) (.int .i64 M.c) (.slice ta M.tn tc) (.slice none 0 0); clear hown2 hg2 hat2))
    · go_wp2_with fail
      go_meet
      exact ⟨_, _, _, rfl, kT.size, by simp, heap_alloc_new w2 _, hT.below ((Below.refl w2.heap.size w2).alloc (Nat.le_refl _) _), kTY⟩
    · go_wp2_with fail
      go_meet
      exact ⟨_, _, _, rfl, by omega, lt_of_block (block_set3 hX2), block_set3 hX2, hT.setMem hX2 _ _ _, kS⟩
    · go_wp2_with fail
      go_meet
      exact ⟨_, _, _, rfl, by omega, lt_of_block (block_set3 hX2), block_set3 hX2, hT.setMem hX2 _ _ _, kS⟩
  case rest =>
    obtain ⟨X, ta, tc, rfl, lX0, lX, hX, hT, kW⟩ := hcut
    have lR := lt_of_block hR
    have HA0 := Lib.hid hA
    have HR0 := Lib.hid hR
    have HP0 := Lib.hid HM.out.2
    obtain ⟨B, hB⟩ : ∃ B, B = wc.heap.size := ⟨_, rfl⟩
    have hT1 := hT.innAt hB
    have hXB : X < B := by omega
    have HN := Lib.hid hn
    have lRB : w.heap.size + 1 < B := by omega
    have lBw : B ≤ wc.heap.size := by omega
    have hWX : w.heap.size + 1 + 1 ≤ X := by omega
    have hWB : W.heap.size = w.heap.size + 1 + 1 := e1
    have hWBB : W.heap.size ≤ B := by omega
    have hA1 := b_block kW hA lA
    obtain ⟨a0, a1, a2, _, _, _⟩ := three hA1
    clear hA hR HM hT hn hA1
    go_wp2_with fail
    go_loopw [4] (fun i wr => ∃ (k : Nat) (pv : Value) (V : Nat → Value), k ≤ M.pn ∧ i = .int .i64 k ∧ wr.heap[X]? = some (memO M.c (.slice ta M.tn tc) pv 32) ∧ OwnTIn wr W.heap.size B (.slice ta M.tn tc) M.tn M.t ∧ ListRow wr B pv k M.p V ∧ HeapsAt wr B k M.p V ∧ B ≤ wr.heap.size ∧ Below W.heap.size W wr) (fun i _ => M.pn - (intOf i).toNat)
    case atStart => exact ⟨0, _, _, Nat.zero_le _, rfl, hX, hT1, .inl ⟨rfl, rfl⟩, HeapsAt.zero _ _ _ (fun _ => .slice none 0 0), lBw, kW⟩
    case round =>
      clear hX hT1 kW a0 a1 a2
      obtain ⟨k, pv, V, hk, rfl, hX, hT, hL, hH, hBw, kw⟩ := hrel
      have hA := b_block kw HA0.out lA
      have hR := b_block kw HR0.out lR
      have hS := HP0.out.below kw
      obtain ⟨x0, x1, x2, xf0, xf1, xf2⟩ := three hX
      obtain ⟨a0, a1, a2, _, _, _⟩ := three hA
      obtain ⟨pa, pc, hpv⟩ := hL.form
      by_cases hlt : k < M.pn
      · have i1 : (k : Int) < (M.pn : Int) := by omega
        have lXr := lt_of_block hX
        have hnk := HN.out k hlt
        rcases hS with ⟨h0, _⟩ | ⟨sb, soff, scap, es, sl, sc⟩
        · omega
        injection es with es1 es2 es3
        obtain ⟨ha, hcap, s0, s1, s2, s3, srow⟩ := sc k hlt
        subst hpv es1 es3
        clear sc
        go_wp2_with fail
        go_region_law (first
          | (go_simp; go_at_call 49; refine (l4Copy_any (M.p k).l (M.p k).e (M.p k).d hnk srow.drew).mono ?_; rintro x w1 ⟨u, rfl, hO, hb⟩
             replace hb := (Below.refl wr.heap.size wr).drew.trans (hb.mono (Nat.le_refl _))
             obtain ⟨ua, uc, hu⟩ := hO.value
             subst hu
             have hXa := alloc_block (.cells #[.slice ua (M.p k).n uc, .int .i64 (M.p k).l, .int .i64 (M.p k).e, .int .i64 (M.p k).d] 75) (b_block hb hX lXr)
             have q2 := (hb.cell (p := ⟨X, 2, none⟩) lXr).trans x2
             have q3 := cell_of_block hXa 2
             have ho := Lib.hid ((rowP_of_list (hL.below hb)).alloc (.cells #[.slice ua (M.p k).n uc, .int .i64 (M.p k).l, .int .i64 (M.p k).e, .int .i64 (M.p k).d] 75))
             have hP := Lib.hid (heap_alloc_new w1 (.cells #[.slice ua (M.p k).n uc, .int .i64 (M.p k).l, .int .i64 (M.p k).e, .int .i64 (M.p k).d] 75))
             have hsz := hb.size
             have hBa : B ≤ (w1.alloc (.cells #[.slice ua (M.p k).n uc, .int .i64 (M.p k).l, .int .i64 (M.p k).e, .int .i64 (M.p k).d] 75)).heap.size := by simp; omega
             have hTa := (hT.keep (Same.of_below hb (Nat.le_trans hBw (Nat.le_refl _)))).keep (Same.of_below ((Below.refl w1.heap.size w1).alloc (Nat.le_refl _) (.cells #[.slice ua (M.p k).n uc, .int .i64 (M.p k).l, .int .i64 (M.p k).e, .int .i64 (M.p k).d] 75)) (Nat.le_trans hBw hsz))
             have ka := (kw.trans (hb.mono kw.size)).alloc (Nat.le_trans kw.size hsz) (.cells #[.slice ua (M.p k).n uc, .int .i64 (M.p k).l, .int .i64 (M.p k).e, .int .i64 (M.p k).d] 75)
             have hHa := (hH.below hb).below ((Below.refl w1.heap.size w1).alloc (Nat.le_refl _) (.cells #[.slice ua (M.p k).n uc, .int .i64 (M.p k).l, .int .i64 (M.p k).e, .int .i64 (M.p k).d] 75))
             have hLa := (hL.below hb).below ((Below.refl w1.heap.size w1).alloc (Nat.le_refl _) (.cells #[.slice ua (M.p k).n uc, .int .i64 (M.p k).l, .int .i64 (M.p k).e, .int .i64 (M.p k).d] 75))
             have hOa := (hO.below ((Below.refl w1.heap.size w1).alloc (Nat.le_refl _) (.cells #[.slice ua (M.p k).n uc, .int .i64 (M.p k).l, .int .i64 (M.p k).e, .int .i64 (M.p k).d] 75))).mono hBw
             have hdis : ∀ i, i < k → ∀ x, (V i).ownBlock = some x → (Value.slice ua (M.p k).n uc).ownBlock ≠ some x := fun i hi x hx e => by
               have h1 := (hH.1 i hi).lt_size x hx
               have h2 : wr.heap.size ≤ x := hO.block_ge x e
               omega
             have hlast := Nat.le_trans kw.size hsz)
          | (refine step_append_proc rfl (.tmp 20) (.tmp 27) rfl B _ k M.p V rfl ho.out _ (M.p k) (.slice ua (M.p k).n uc) rfl rfl hP.out (by omega) hBa ?_
             intro v' w' hown hg hat
             have hob := fun x hx => (hLa.block_ge (x := x) hx)
             have hX' : w'.heap[X]? = _ := (hg.block X (lt_of_block hXa) (fun e => by have := hob X e.symm; omega)).trans hXa
             have kB' := b_grownO hg hob hBa
             have hT' := hTa.keep (Same.of_below kB' (Nat.le_refl _))
             have hn' : ∀ i, i < k + 1 → putP M.p k (M.p k) i = M.p i := fun i _ => by unfold putP; split <;> simp_all
             have hH' := ((hHa.grown hLa hg).add (p := M.p k) (hOa.keptO hg hLa) hdis).congr (Q := M.p) (U := putV V k (.slice ua (M.p k).n uc)) hn' (fun _ _ => rfl)
             have hL' := (listP_of_row hown).congr (Q := M.p) hn' (fun _ _ => rfl)
             obtain ⟨qa2, qc2, hqv⟩ := hL'.form
             obtain ⟨y0, y1, y2, yf0, yf1, yf2⟩ := three hX'
             have kw' := ka.trans (b_grownO hg (fun x hx => Nat.le_trans hWBB (hob x hx)) ka.size)
             subst hqv
             have hs' := hg.size
             have hTz := OwnTIn.setM hT' hX' 2 (.slice qa2 (k + 1) qc2)
             have hBs : B ≤ (w'.setCell ⟨X, 2, none⟩ (.slice qa2 (k + 1) qc2)).heap.size := by simp; exact Nat.le_trans hBa hs'
             clear hg hown hat hXa hHa hLa hOa hdis hTa ka ho hP))
        all_goals
          clear y0 y1 y2 yf0 yf1 yf2 x0 x1 x2 xf0 xf1 xf2 a0 a1 a2 q2 q3 s0 s1 s2 s3 srow
          go_wp2
          exact ⟨⟨k + 1, _, _, by omega, by go_num, block_setCell (i := 2) hX' _, hTz, hL'.set hXB 2 _, hH'.set hXB 2 _, hBs, kw'.setCell (p := ⟨X, 2, none⟩) lX0 _⟩, by simp only [intOf]; omega⟩
      · have hkn : k = M.pn := by omega
        subst hkn
        subst hpv
        have i1 : ¬ (M.pn : Int) < (M.pn : Int) := by omega
        obtain ⟨r0, r1, r2, rf0, rf1, rf2⟩ := three hR
        have hOf : OwnPRow wr B (.slice pa M.pn pc) M.pn M.p := hL.own hH
        go_wp2
        exact bodyPost_ret (v := meV M.c (.slice ta M.tn tc) (.slice pa M.pn pc)) (by simp [results, Tryz.results24, go_sem, r0, r1, r2]) rfl ⟨_, _, rfl, ⟨(hT.own.set3 (by omega) _ _ _).mono (by omega), (hOf.set3 (by omega) _ _ _).mono (by omega)⟩, b_set3 (k1.trans (kw.mono k1.size)) (Nat.le_succ _) _ _ _⟩

end Go.Proofs.YtonpbmeekgdilaaGreat
