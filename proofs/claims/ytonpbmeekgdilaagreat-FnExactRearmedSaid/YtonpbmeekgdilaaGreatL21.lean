/-
  Tidying up, in a memory of one's own (spec, chapter 6): set to its next time.
-/
import Derived.Test.YtonpbmeekgdilaaGreatL16
import Derived.Test.YtonpbmeekgdilaaGreatL20
import Derived.Test.YtonpbmeekgdilaaGreatL06
import Derived.Test.YtonpbmeekgdilaaGreatL17
import Derived.Test.YtonpbmeekgdilaaGreatL12
import Derived.Deep.DeepCutAuto
import Derived.Deep.RegionLaw
import Derived.Deep.RegionHeld3
import Derived.IntWalk
namespace Go.Proofs.YtonpbmeekgdilaaGreat
open Go.RowKit Go.Joins
set_option linter.unusedVariables false

theorem tm_reads {w : World} {b : Nat} {t : Tm} {ty : TypeId} (h : w.heap[b]? = some (.cells (tmCells t) ty (0, 0))) :
    w.cell? ⟨b, 0, none⟩ = some (.int .i64 t.st) ∧ w.cell? ⟨b, 1, none⟩ = some (.int .i64 t.wh) ∧ w.cell? ⟨b, 3, none⟩ = some (.int .i64 t.pe) ∧ w.cell? ⟨b, 4, none⟩ = some (.int .i64 t.pl) :=
  ⟨cell_of_block h 0, cell_of_block h 1, cell_of_block h 3, cell_of_block h 4⟩

set_option maxRecDepth 100000 in
set_option maxHeartbeats 8000000 in
theorem l6Rearmed_no {B t : Nat} {tv pv : Value} {M : Me} {w : World} (hB : B ≤ w.heap.size) (hp : 0 < M.pn) (ht : t < M.tn) (hq : ¬ (M.t t).st = 6) (h : OwnMem w B tv pv M) :
    Calls Tryz.prog 40 #[meV M.c tv pv, .int .i64 (t : Int)] w (InMeB B M false w) := by
  obtain ⟨pg, pc, V, rfl, ho⟩ := h.openP hp
  clear h
  obtain ⟨tg, tc, rfl, _⟩ := ho.tms ht
  obtain ⟨w1, e1, s1⟩ := MSt.start hB ho
  clear ho
  have c1b : ((M.t t).st != 6) = true := by simpa using hq
  obtain ⟨T, hT⟩ : ∃ T, T = M.t t := ⟨_, rfl⟩
  rw [← hT] at c1b
  obtain ⟨⟨t0, t1, t2, t3, t4, t5, t6, t7⟩, _⟩ := s1.tcells (t := t) ht hT.symm
  have i4 : (0 : Int) ≤ (t : Int) := by omega
  have i5 : (t : Int) < (M.tn : Int) := by omega
  obtain ⟨⟨x0, x1, x2, xf0, xf1, xf2⟩, _⟩ := s1.cells
  have s2 := s1.below ((Below.refl _ w1).alloc (Nat.le_refl _) (.cells (tmCells T) 70))
  have hx := heap_alloc_new w1 (.cells (tmCells T) 70)
  clear hT hq s1
  go_enter Tryz.func40, Tryz.ntmps40
  go_upto_region 1 with fail
  rw [← e1.out]
  clear e1
  go_upto_region 2 with fail
  generalize w1.alloc (.cells (tmCells T) 70) = w2 at s2 hx ⊢
  clear x0 x1 x2 xf0 xf1 xf2 t0 t1 t2 t3 t4 t5 t6 t7
  obtain ⟨⟨x0, x1, x2, xf0, xf1, xf2⟩, y0, y1, y2, yf0, yf1, yf2⟩ := s2.cells
  obtain ⟨u0, u1, u3, u4⟩ := tm_reads hx
  go_wp2
  exact bodyPost_ret (v := .tuple #[meV M.c (.slice (some ⟨tg, 0, none⟩) M.tn tc) (.slice (some ⟨pg, 0, none⟩) M.pn pc), .bool false]) (by simp [results, Tryz.results40, go_sem, y0, y1, y2]) rfl (s2.retB false _ _ _)

/-- behind the slot's taking out: the copy of the timer stays -/
def PulledSt (w0 : World) (B : Nat) (T : Tm) (c : Int) (pn : Nat) (tv : Value) (N : Me) (b : Nat) (w : World) : Prop :=
  ∃ pg pc V, MSt w0 w B c tv pg pn pc V N ∧ w.heap[b]? = some (.cells (tmCells T) 70 (0, 0))

set_option maxRecDepth 100000 in
set_option maxHeartbeats 8000000 in
theorem l6Rearmed_yes {B t k : Nat} {tv pv : Value} {M : Me} {w : World} (hB : B ≤ w.heap.size) (hk : k < M.pn) (hn : (M.p k).n ≤ 1048576) (ht : t < M.tn) (hq : (M.t t).st = 6) (hpl : (M.t t).pl = (k : Int))
    (hc : 0 ≤ M.c ∧ M.c ≤ 999999999) (hw : 0 ≤ (M.t t).wh ∧ (M.t t).wh ≤ 1000000000) (hp : 0 ≤ (M.t t).pe ∧ (M.t t).pe ≤ 1000000000) (h : OwnMem w B tv pv M) :
    Calls Tryz.prog 40 #[meV M.c tv pv, .int .i64 (t : Int)] w (InMeB B (rearmM M t) true w) := by
  have ek : (M.t t).pl.toNat = k := by rw [hpl]; rfl
  obtain ⟨N, hN⟩ : ∃ N : Me, N = outM M t := ⟨_, rfl⟩
  have hN0 : N = pullM M k (findM (M.p k).f (M.p k).n (t : Int)) := by rw [hN, outM, ek]; rfl
  have hNc : N.c = M.c := by rw [hN]; rfl
  have hNt : N.tn = M.tn := by rw [hN]; rfl
  have hNp : N.pn = M.pn := by rw [hN]; rfl
  have hNn : (N.p k).n ≤ 1048576 := by rw [hN0]; exact Nat.le_trans (pullM_n _ _ _ _) hn
  have hr : rearmM M t = if (M.t t).pe = 0 then setTm (setTm N t 0 0) t 4 (-1) else pushM (setTm N t 1 (nextI M.c (M.t t))) t k := by rw [rearmM, ek, hN]
  have hb := fun (h : 0 < (M.t t).pe) => times_bound (c := M.c) (t := M.t t) (by omega) hw ⟨h, hp.2⟩
  obtain ⟨pg, pc, V, rfl, ho⟩ := h.openP hk
  clear h
  obtain ⟨tg, tc, rfl, _⟩ := ho.tms ht
  obtain ⟨w1, e1, s1⟩ := MSt.start hB ho
  clear ho
  have c1b : ((M.t t).st != 6) = false := by rw [hq]; rfl
  obtain ⟨T, hT⟩ : ∃ T, T = M.t t := ⟨_, rfl⟩
  obtain ⟨⟨t0, t1, t2, t3, t4, t5, t6, t7⟩, _⟩ := s1.tcells (t := t) ht hT.symm
  rw [← hT] at c1b hpl hw hp hr hb
  have i0 : (0 : Int) ≤ (k : Int) := by omega
  have i1 : (k : Int) < (M.pn : Int) := by omega
  have i4 : (0 : Int) ≤ (t : Int) := by omega
  have i5 : (t : Int) < (M.tn : Int) := by omega
  obtain ⟨⟨x0, x1, x2, xf0, xf1, xf2⟩, _⟩ := s1.cells
  have s2 := s1.below ((Below.refl _ w1).alloc (Nat.le_refl _) (.cells (tmCells T) 70))
  have hx := heap_alloc_new w1 (.cells (tmCells T) 70)
  have hsz : (w1.alloc (.cells (tmCells T) 70)).heap.size = w1.heap.size + 1 := by simp
  obtain ⟨xb, hxb⟩ : ∃ xb, xb = w1.heap.size := ⟨_, rfl⟩
  have HR := Lib.hid hr
  have HB := Lib.hid hb
  have HPL := Lib.hid hpl
  have HN0 := Lib.hid hN0
  have HNS := Lib.hid (And.intro hNc (And.intro hNt (And.intro hNp hNn)))
  have htgx : xb ≠ tg := by rw [hxb]; have := s1.o.t.at.lt; omega
  have hpgx : pg ≠ xb := by rw [hxb]; have := s1.o.l.lt; omega
  clear hT hq s1 hr hb hpl hN hN0 hNc hNt hNp hNn ek
  go_enter Tryz.func40, Tryz.ntmps40
  go_upto_region 1 with fail
  rw [← e1.out]
  clear e1
  go_upto_region 2 with fail
  generalize w1.alloc (.cells (tmCells T) 70) = w2 at s2 hx hsz ⊢
  rw [← hxb] at hx ⊢
  have HXB := Lib.hid hxb
  clear hxb hsz
  clear x0 x1 x2 xf0 xf1 xf2 t0 t1 t2 t3 t4 t5 t6 t7
  obtain ⟨⟨x0, x1, x2, xf0, xf1, xf2⟩, _⟩ := s2.cells
  obtain ⟨u0, u1, u3, u4⟩ := tm_reads hx
  rw [HPL.out] at u4
  obtain ⟨⟨ra, rc, hv, p0⟩, _, _⟩ := s2.pcells hk rfl
  have hrow := (s2.o.h.1 k hk).row
  rw [hv] at hrow
  clear hv
  have hB2 := s2.size.2
  go_wp2_with fail
  go_cut [6] (fun v6 wx => v6 = .pointer (some ⟨xb, 0, none⟩) ∧ PulledSt w B T M.c M.pn (.slice (some ⟨tg, 0, none⟩) M.tn tc) (pullM M k (findM (M.p k).f (M.p k).n (t : Int))) xb wx)
  case first =>
    go_region_law (first
      | (go_simp; go_at_call 47; refine (spFindSlot_low _ (t : Int) hn hrow.drew).mono ?_; rintro x w4 ⟨rfl, hb4⟩
         replace hb4 := (Below.refl _ w2).drew.trans (hb4.mono (Nat.le_refl _))
         have s4 := s2.below hb4
         have hx4 := b_block hb4 hx (lt_of_block hx)
         obtain ⟨⟨v0, v1, v2, vf0, vf1, vf2⟩, _⟩ := s4.cells
         obtain ⟨n0, n1, n3, n4⟩ := tm_reads hx4
         rw [HPL.out] at n4)
      | (go_simp; go_at_call 65; refine (l6Pull_full (B := B) (M := M) (k := k) s4.size.2 hk hn s4.own).mono ?_; rintro x w5 ⟨hx5, hkp, htv⟩
         obtain ⟨tg5, tc5, pg5, pc5, V5, rfl, ho5, hk5⟩ := hx5.formT (c := M.c) (pn := M.pn) (tn := M.tn) rfl rfl rfl hk ht
         have etv := htv _ _ _ rfl
         injection etv with q1 q2 q3
         injection q1 with q1
         injection q1 with q1
         subst q1 q3
         clear q2
         obtain ⟨⟨z0, z1, z2, zf0, zf1, zf2⟩, _⟩ := s4.blockA hk5
         clear hx5))
    all_goals
      obtain ⟨wz, ez, s6⟩ := s4.call ho5 hk5 rfl rfl
      obtain ⟨pg', n', c', ep, hkp⟩ := hkp
      injection ep with ep1 ep2 ep3
      injection ep1 with ep1
      injection ep1 with ep1
      have hx5 := (hkp xb (lt_of_block hx4) (by rw [← ep1]; exact Ne.symm hpgx)).trans hx4
      have hA5 := hk5.kept s4.a (by decide)
      have hx6 : wz.heap[xb]? = some (.cells (tmCells T) 70 (0, 0)) := by rw [ez.out]; exact (heap_set3 w5 w.heap.size _ _ _ (ne_ty hx5 hA5 (by decide))).trans hx5
      clear ep1 ep2 ep3 hkp hx5 hA5
      go_wp2_with fail
      go_meet
      rw [← ez.out]
      exact ⟨rfl, _, _, _, s6, hx6⟩
  case rest =>
    obtain ⟨rfl, pg5, pc5, V5, s6, hx6⟩ := hcut
    rw [← HN0.out] at s6
    clear x0 x1 x2 xf0 xf1 xf2 u0 u1 u3 u4 p0 hrow s2 hx
    obtain ⟨u0, u1, u3, u4⟩ := tm_reads hx6
    rw [HPL.out] at u4
    have hB6 := s6.size.2
    have hb6 := lt_of_block hx6
    obtain ⟨⟨x0, x1, x2, xf0, xf1, xf2⟩, _⟩ := s6.cells
    obtain ⟨eNc, eNt, eNp, eNn⟩ := HNS.out
    have ht6 : t < N.tn := by omega
    have hk6 : k < N.pn := by omega
    obtain ⟨⟨t0, _, _, _, t4, _⟩, tf⟩ := s6.tcells (t := t) ht6 rfl
    have tf0 := tf (t * 8)
    have tf1 := tf (t * 8 + 1)
    have tf4 := tf (t * 8 + 4)
    clear tf
    by_cases hz : T.pe = 0
    · have R0 := Lib.hid (HR.out.trans (if_pos hz))
      rw [hz] at u3
      obtain ⟨w7, e7, s7⟩ := s6.setT0 (t := t) ht6 0
      clear HR HB hz
      go_upto_region 7 with fail
      rw [← e7.out]
      clear e7 x0 x1 x2 xf0 xf1 xf2 t0 t4 tf0 tf1 tf4 s6 u0 u1 u3 u4 hx6
      obtain ⟨⟨x0, x1, x2, xf0, xf1, xf2⟩, _⟩ := s7.cells
      obtain ⟨⟨_, _, _, _, t4, _⟩, tf⟩ := s7.tcells (t := t) ht6 rfl
      have tf4 := tf (t * 8 + 4)
      obtain ⟨w8, e8, s8⟩ := s7.setT (t := t) 4 ht6 (by decide) (-1)
      clear tf
      go_upto_region 8 with fail
      rw [← e8.out]
      clear e8 x0 x1 x2 xf0 xf1 xf2 t4 tf4 s7
      obtain ⟨⟨x0, x1, x2, xf0, xf1, xf2⟩, y0, y1, y2, yf0, yf1, yf2⟩ := s8.cells
      go_wp2
      exact bodyPost_ret (v := .tuple #[meV M.c (.slice (some ⟨tg, 0, none⟩) M.tn tc) (.slice (some ⟨pg5, 0, none⟩) M.pn pc5), .bool true]) (by simp [results, Tryz.results40, go_sem, y0, y1, y2]) rfl (by rw [R0.out]; exact s8.retB true _ _ _)
    · have R0 := Lib.hid (HR.out.trans (if_neg hz))
      have hz2 : (T.pe == 0) = false := by simpa using hz
      obtain ⟨b1, b2, b3, b4⟩ := HB.out (by omega)
      obtain ⟨N2, hN2⟩ : ∃ N2 : Me, N2 = setTm N t 1 (nextI M.c T) := ⟨_, rfl⟩
      have hN2t : N2.tn = M.tn := by rw [hN2]; exact eNt
      have hN2p : N2.pn = M.pn := by rw [hN2]; exact eNp
      have hN2c : N2.c = M.c := by rw [hN2]; exact eNc
      have hN2n : (N2.p k).n ≤ 1048576 := by rw [hN2]; exact eNn
      obtain ⟨w9, e9, s9⟩ := s6.setT (t := t) 1 ht6 (by decide) (nextI M.c T)
      have hx9 : w9.heap[xb]? = some (.cells (tmCells T) 70 (0, 0)) := by
        rw [e9.out]; exact (heap_set1 wc tg _ _ xb htgx).trans hx6
      rw [← hN2] at s9 R0
      clear HR HB
      by_cases hlt : T.wh < M.c
      · have q0 : 0 ≤ (M.c - T.wh) / T.pe := Int.ediv_nonneg (by omega) (by omega)
        have q1 : (M.c - T.wh) / T.pe ≤ 1000000000 := Int.le_trans (Int.ediv_le_self _ (by omega)) (by omega)
        have et : timesI M.c T = 1 + (M.c - T.wh) / T.pe := by rw [timesI, if_pos hlt]
        rw [et] at b1 b2 b3 b4
        have w1' : IntKind.i64.wrap (T.pe * (1 + (M.c - T.wh) / T.pe)) = T.pe * (1 + (M.c - T.wh) / T.pe) := IntWalk.i64_in _ (by omega)
        have w2' : IntKind.i64.wrap (T.wh + T.pe * (1 + (M.c - T.wh) / T.pe)) = T.wh + T.pe * (1 + (M.c - T.wh) / T.pe) := IntWalk.i64_in _ (by omega)
        have EX : RowKit.Hid (minI (T.wh + T.pe * (1 + (M.c - T.wh) / T.pe)) 1000000000 = nextI M.c T) := Lib.hid (by rw [nextI, et])
        clear et
        go_wp2_with fail
        go_cut [6] (fun v6 wx => v6 = .pointer (some ⟨xb, 0, none⟩) ∧ PulledSt w B T M.c M.pn (.slice (some ⟨tg, 0, none⟩) M.tn tc) N2 xb wx)
        case first =>
          go_region_law (first
            | (go_simp; go_at_call 69; refine (l1Min_any _ _ _).mono ?_; rintro x w' ⟨rfl, rfl⟩))
          all_goals
            go_wp2_with fail
            go_meet
            rw [EX.out, ← e9.out]
            exact ⟨rfl, _, _, _, s9.drew, hx9⟩
        case rest =>
          clear x0 x1 x2 xf0 xf1 xf2 t0 t4 tf0 tf1 tf4 s6 u0 u1 u3 u4 hx6 s9 hx9 e9
          obtain ⟨rfl, pg9, pc9, V9, s10, hx10⟩ := hcut
          obtain ⟨⟨x0, x1, x2, xf0, xf1, xf2⟩, _⟩ := s10.cells
          obtain ⟨u0, u1, u3, u4⟩ := tm_reads hx10
          rw [HPL.out] at u4
          have key := l6Push_any (B := B) (M := N2) (t := t) (k := k) s10.size.2 (by omega) (by omega) hN2n s10.own
          rw [hN2c] at key
          go_wp2_with fail
          go_at_call 48; refine key.mono ?_; intro x w5 hx
          obtain ⟨tg6, tc6, pg6, pc6, V6, rfl, ho6, hk6⟩ := hx.formT (c := M.c) (pn := M.pn) (tn := M.tn) hN2c hN2p hN2t hk ht
          have own6 : OwnMem w5 B (.slice (some ⟨tg6, 0, none⟩) M.tn tc6) (.slice (some ⟨pg6, 0, none⟩) M.pn pc6) (pushM N2 t k) := by
            have h := ho6.own
            rw [show (pushM N2 t k).pn = M.pn from hN2p] at h
            exact h
          obtain ⟨_, z0, z1, z2, zf0, zf1, zf2⟩ := s10.blockA hk6
          have fin := fun (x y z : Value) => s10.retCallB (M' := pushM N2 t k) own6 hk6 true x y z
          rw [show (pushM N2 t k).c = M.c from hN2c] at fin
          have FIN := Lib.hid fin
          clear fin hx key x0 x1 x2 xf0 xf1 xf2 u0 u1 u3 u4 ho6 own6
          go_wp2
          exact bodyPost_ret (v := .tuple #[meV M.c (.slice (some ⟨tg6, 0, none⟩) M.tn tc6) (.slice (some ⟨pg6, 0, none⟩) M.pn pc6), .bool true]) (by simp [results, Tryz.results40, go_sem, z0, z1, z2]) rfl (by rw [R0.out]; exact FIN.out _ _ _)
      · have et : timesI M.c T = 1 := by rw [timesI, if_neg hlt]
        have w2' : IntKind.i64.wrap (T.wh + T.pe) = T.wh + T.pe := IntWalk.i64_in _ (by omega)
        have w1' : IntKind.i64.wrap T.pe = T.pe := IntWalk.i64_in _ (by omega)
        have EX : RowKit.Hid (minI (T.wh + T.pe) 1000000000 = nextI M.c T) := Lib.hid (by rw [nextI, et, Int.mul_one])
        clear et b1 b2 b3 b4
        go_wp2_with fail
        go_cut [6] (fun v6 wx => v6 = .pointer (some ⟨xb, 0, none⟩) ∧ PulledSt w B T M.c M.pn (.slice (some ⟨tg, 0, none⟩) M.tn tc) N2 xb wx)
        case first =>
          go_region_law (first
            | (go_simp; go_at_call 69; refine (l1Min_any _ _ _).mono ?_; rintro x w' ⟨rfl, rfl⟩))
          all_goals
            go_wp2_with fail
            go_meet
            rw [EX.out, ← e9.out]
            exact ⟨rfl, _, _, _, s9.drew, hx9⟩
        case rest =>
          clear x0 x1 x2 xf0 xf1 xf2 t0 t4 tf0 tf1 tf4 s6 u0 u1 u3 u4 hx6 s9 hx9 e9
          obtain ⟨rfl, pg9, pc9, V9, s10, hx10⟩ := hcut
          obtain ⟨⟨x0, x1, x2, xf0, xf1, xf2⟩, _⟩ := s10.cells
          obtain ⟨u0, u1, u3, u4⟩ := tm_reads hx10
          rw [HPL.out] at u4
          have key := l6Push_any (B := B) (M := N2) (t := t) (k := k) s10.size.2 (by omega) (by omega) hN2n s10.own
          rw [hN2c] at key
          go_wp2_with fail
          go_at_call 48; refine key.mono ?_; intro x w5 hx
          obtain ⟨tg6, tc6, pg6, pc6, V6, rfl, ho6, hk6⟩ := hx.formT (c := M.c) (pn := M.pn) (tn := M.tn) hN2c hN2p hN2t hk ht
          have own6 : OwnMem w5 B (.slice (some ⟨tg6, 0, none⟩) M.tn tc6) (.slice (some ⟨pg6, 0, none⟩) M.pn pc6) (pushM N2 t k) := by
            have h := ho6.own
            rw [show (pushM N2 t k).pn = M.pn from hN2p] at h
            exact h
          obtain ⟨_, z0, z1, z2, zf0, zf1, zf2⟩ := s10.blockA hk6
          have fin := fun (x y z : Value) => s10.retCallB (M' := pushM N2 t k) own6 hk6 true x y z
          rw [show (pushM N2 t k).c = M.c from hN2c] at fin
          have FIN := Lib.hid fin
          clear fin hx key x0 x1 x2 xf0 xf1 xf2 u0 u1 u3 u4 ho6 own6
          go_wp2
          exact bodyPost_ret (v := .tuple #[meV M.c (.slice (some ⟨tg6, 0, none⟩) M.tn tc6) (.slice (some ⟨pg6, 0, none⟩) M.pn pc6), .bool true]) (by simp [results, Tryz.results40, go_sem, z0, z1, z2]) rfl (by rw [R0.out]; exact FIN.out _ _ _)

theorem l6Rearmed_any {a b c : Int} {B t : Nat} {tv pv : Value} {M : Me} {w : World} (hB : B ≤ w.heap.size) (hf : MemFacts a b c M) (ht : t < M.tn) (h : OwnMem w B tv pv M) :
    Calls Tryz.prog 40 #[meV M.c tv pv, .int .i64 (t : Int)] w (InMeB B (rearmedM M t) (rearmedB M t) w) := by
  by_cases hq : (M.t t).st = 6
  · obtain ⟨k, hk, hpl⟩ := running_at hf ht hq
    obtain ⟨_, hw, _, hp⟩ := times_at hf ht
    have hn := hf.n k hk
    have q : rearmedB M t = true := by unfold rearmedB; rw [hq]; rfl
    rw [show rearmedM M t = rearmM M t by rw [rearmedM, if_pos q], q]
    exact l6Rearmed_yes hB hk (by omega) ht hq hpl hf.clock hw hp h
  · have q : rearmedB M t = false := by unfold rearmedB; simpa using hq
    rw [show rearmedM M t = M by rw [rearmedM, q]; rfl, q]
    exact l6Rearmed_no hB (by have := hf.pn; omega) ht hq h

end Go.Proofs.YtonpbmeekgdilaaGreat
