/-
  The program's stopping: turned, looked at (chapter 10).
-/
import Derived.Test.YtflekodaiejflaaGreatDoorL15
import Derived.Test.YtflekodaiejflaaGreatDoorL16
import Derived.Test.YtflekodaiejflaaGreatDoorL12
import Derived.Test.YtflekodaiejflaaGreatDoorRows
import Derived.LaidLaws
import Derived.LaidHandle
import Derived.LaidSub
import Derived.LaidMore
import Derived.MakeChecks
import Derived.FnData
import Derived.Stop.LaidTwo
import Derived.Stop.Joined
namespace Go.Proofs.YtflekodaiejflaaGreatDoor
open Go.RowKit Go.Joins
set_option linter.unusedVariables false
set_option linter.unusedSimpArgs false

set_option maxRecDepth 100000 in
set_option maxHeartbeats 4000000 in
theorem turnD_yes {w : World} {B mb db t k : Nat} {a b c d : Int} {D : Dn} (hB : B ≤ w.heap.size) (ht : t < D.m.tn) (het : D.h.tim = (t : Int)) (hs : (D.m.t t).st = 2) (hpk : (D.m.t t).pl = (k : Int)) (hk : k < D.m.pn) (hd0 : 0 ≤ (D.m.p k).d) (hd1 : (D.m.p k).d ≤ 1000) (h : DeedX w B mb db a b c d D) :
    Calls Tryz.prog 49 #[ptrV db] w fun e w' => e = .returned (.tuple #[]) ∧ InD B mb db a b c d ⟨setPc (setTm D.m t 0 5) k 3 ((D.m.p k).d + 1), restHd 2 0, D.v⟩ w w' := by
  obtain ⟨tv, g, V, ho⟩ := h.o.opened
  obtain ⟨tg, tc, rfl⟩ := ho.tms ht
  have HI := Lib.hid (inHand_yes ht het hs (by omega) h ho)
  obtain ⟨G, hG⟩ : ∃ G, (D.m.p k).d = G := ⟨_, rfl⟩
  rw [hG] at hd0 hd1 ⊢
  go_enter Tryz.func49, Tryz.ntmps49
  go_wp2_with fail
  go_at_call 79; refine HI.out.mono ?_; rintro e w1 ⟨rfl, hb⟩
  have h1 := h.below hb
  have o1 := ho.below hb
  have k1 : Wd B w w1 := .of_new hb hB
  clear h ho hb HI
  obtain ⟨⟨t0, _⟩, tf⟩ := o1.tcells ht
  have f0 := tf (t * 8)
  clear tf
  go_upto_region 2 with fail
  have h2 : DeedX (w1.setCell ⟨tg, t * 8, none⟩ (.int .i64 5)) B mb db a b c d ⟨setTm D.m t 0 5, D.h, D.v⟩ := h1.setT o1 ht (j := 0) (by decide) 5
  have o2 : OpenX (w1.setCell ⟨tg, t * 8, none⟩ (.int .i64 5)) B mb a b c (.slice (some ⟨tg, 0, none⟩) D.m.tn tc) g V (setTm D.m t 0 5) := o1.setT (k := t) ht (j := 0) (by decide) 5
  have k2 : Wd B w (w1.setCell ⟨tg, t * 8, none⟩ (.int .i64 5)) := k1.setT o1 (t * 8) (.int .i64 5)
  clear h1 o1 k1 t0 f0
  generalize w1.setCell ⟨tg, t * 8, none⟩ (.int .i64 5) = w2 at h2 o2 k2 ⊢
  obtain ⟨d0, _, _, _, _, _, _, _, _, _⟩ := h2.cells
  obtain ⟨m0, m1, m2, m3, m4, m5⟩ := six o2.m
  obtain ⟨⟨_, _, _, _, t4, _⟩, _⟩ := o2.tcells (t := t) ht
  rw [show ((setTm D.m t 0 5).t t).pl = (k : Int) from by rw [setTm_at]; exact hpk] at t4
  obtain ⟨_, _, _, p3⟩ := o2.l.cells (i := k) hk
  rw [show ((setTm D.m t 0 5).p k).d = G from hG] at p3
  have hwr : IntKind.i64.wrap (G + 1) = G + 1 := by rw [IntKind.wrap_i64]; omega
  have i2 : (0 : Int) ≤ (k : Int) := by omega
  have i3 : (k : Int) < ((setTm D.m t 0 5).pn : Int) := by show (k : Int) < (D.m.pn : Int); omega
  have kd := (Below.refl w2.heap.size w2).drew
  go_still_tail 17, (by kernel_rfl)
  change wpList _ _ _ _ _ w2.drew
  have h3 := h2.below kd
  have o3 := o2.below kd
  have k3 := k2.new kd hB
  clear h2 o2 k2 d0 m0 m1 m2 m3 m4 m5 t4 p3 kd
  generalize w2.drew = w3 at h3 o3 k3 ⊢
  obtain ⟨_, _, _, p3⟩ := o3.l.cells (i := k) hk
  have pf := o3.l.free (k * 4 + 3)
  go_upto_region 3 with fail
  have o4 := o3.setP (k := k) hk (j := 3) (.inr rfl) (G + 1)
  obtain ⟨cs, hcs⟩ := o3.l.hh
  have h4 := h3.mem (heap_set1 w3 g (k * 4 + 3) (.int .i64 (G + 1)) db (ne_ty h3.e hcs (by decide))) o4.own
  have k4 := k3.set hcs o3.l.1 (by decide) (k * 4 + 3) (.int .i64 (G + 1))
  clear h3 o3 k3 o4 p3 pf
  generalize w3.setCell ⟨g, k * 4 + 3, none⟩ (.int .i64 (G + 1)) = w4 at h4 k4 ⊢
  have HR := Lib.hid (reply_any 2 0 (Nat.le_trans hB k4.below.size) h4)
  clear h4 hcs
  go_wp2_with (go_at_call 78; refine HR.out.mono ?_; rintro e w5 ⟨rfl, h5, k5⟩)
  go_end0
  exact ⟨rfl, h5, k4.trans k5⟩

set_option maxRecDepth 100000 in
set_option maxHeartbeats 4000000 in
theorem turnD_none {w : World} {B mb db : Nat} {a b c d : Int} {D : Dn} (hB : B ≤ w.heap.size) (ht : D.h.tim = -1) (h : DeedX w B mb db a b c d D) :
    Calls Tryz.prog 49 #[ptrV db] w (GaveUp B w) := by
  have HI := Lib.hid (inHand_none hB ht h)
  clear h
  go_enter Tryz.func49, Tryz.ntmps49
  go_wp2_with (go_at_call 79; refine HI.out.mono ?_; rintro e w1 ⟨⟨u, pv, rfl⟩, hb⟩)
  exact ⟨rfl, ⟨_, _, rfl⟩, hb⟩

set_option maxRecDepth 100000 in
set_option maxHeartbeats 4000000 in
theorem turnD_no {w : World} {B mb db t : Nat} {a b c d : Int} {D : Dn} (hB : B ≤ w.heap.size) (ht : t < D.m.tn) (het : D.h.tim = (t : Int)) (hq : ¬ ((D.m.t t).st = 2 ∧ (D.m.t t).pl ≠ -1)) (h : DeedX w B mb db a b c d D) :
    Calls Tryz.prog 49 #[ptrV db] w (GaveUp B w) := by
  have HI := Lib.hid (inHand_no hB ht het hq h)
  clear h
  go_enter Tryz.func49, Tryz.ntmps49
  go_wp2_with (go_at_call 79; refine HI.out.mono ?_; rintro e w1 ⟨⟨u, pv, rfl⟩, hb⟩)
  exact ⟨rfl, ⟨_, _, rfl⟩, hb⟩

set_option maxRecDepth 100000 in
set_option maxHeartbeats 4000000 in
theorem look_silent {w : World} {B mb db : Nat} {a b c d : Int} {D : Dn} {eb es en : Addr} (hE : ErrsAt w eb es en) (hB : B ≤ w.heap.size) (hn : D.m.tn ≤ 1048576) (hc : D.h.call.code = 2) (ht : hasT D.m D.h.call.a = true) (h1 : ¬ ((D.m.t D.h.call.a.toNat).st = 1 ∨ (D.m.t D.h.call.a.toNat).st = 3 ∨ (D.m.t D.h.call.a.toNat).st = 4)) (h2 : ¬ ((D.m.t D.h.call.a.toNat).st = 2 ∨ (D.m.t D.h.call.a.toNat).st = 6)) (h : DeedX w B mb db a b c d D) :
    Calls Tryz.prog 48 #[ptrV db] w fun e w' => e = .returned (.tuple #[]) ∧ InD B mb db a b c d (⟨D.m, restHd 3 0, D.v⟩) w w' := by
  obtain ⟨d0, _, _, d3, d4, d5, d6, _, _, _⟩ := h.cells
  rw [hc] at d3
  have hv : canM eb es en D.m D.h.call.a = seI (D.m.t D.h.call.a.toNat).st es := by unfold canM canV; rw [if_pos ht, if_neg h1, if_neg h2]
  have c1 : (w.alloc (.cells #[.int .i64 2, .int .i64 D.h.call.a, .int .i64 D.h.call.b, .int .i64 D.h.call.c] 37)).cell? ⟨w.heap.size, 1, none⟩ = some (.int .i64 D.h.call.a) := cell_of_block (heap_alloc_new w (.cells #[.int .i64 2, .int .i64 D.h.call.a, .int .i64 D.h.call.b, .int .i64 D.h.call.c] 37)) 1
  go_enter Tryz.func48, Tryz.ntmps48
  go_upto_region 3 with fail
  have kA := (Below.refl w.heap.size w).alloc (Nat.le_refl _) (.cells #[.int .i64 2, .int .i64 D.h.call.a, .int .i64 D.h.call.b, .int .i64 D.h.call.c] 37)
  have dA := (kA.cell (p := ⟨db, 0, none⟩) h.lt).trans d0
  have hq : w.heap.size < (w.alloc (.cells #[.int .i64 2, .int .i64 D.h.call.a, .int .i64 D.h.call.b, .int .i64 D.h.call.c] 37)).heap.size := by simp
  clear d0 d3 d4 d5 d6
  generalize w.alloc (.cells #[.int .i64 2, .int .i64 D.h.call.a, .int .i64 D.h.call.b, .int .i64 D.h.call.c] 37) = wA at kA dA c1 hq ⊢
  have k0 := kA.drew
  have e1 : wA.drew.cell? ⟨w.heap.size, 1, none⟩ = some (.int .i64 D.h.call.a) := c1
  replace hq : w.heap.size < wA.drew.heap.size := hq
  go_still_tail 6, (by kernel_rfl)
  change wpList _ _ _ _ _ wA.drew
  have h1 := h.below k0
  have E1 := hE.below k0
  clear hE dA c1 kA
  generalize wA.drew = w1 at k0 h1 E1 e1 hq ⊢
  have HC := Lib.hid (canMem_any D.h.call.a hn h1.o E1)
  rw [hv] at HC
  go_wp2_with fail
  go_at_call 74; refine HC.out.mono ?_; rintro e w2 ⟨rfl, hb⟩
  have e2 := (hb.cell (p := ⟨w.heap.size, 1, none⟩) hq).trans e1
  have q2 := Nat.lt_of_lt_of_le hq hb.size
  have k2 := k0.trans (hb.mono k0.size)
  have s2 := k2.size
  have E2 := E1.below hb
  have B2 := heap_alloc_new w2 (.cells #[.int .i64 0, .nilIface] 116)
  have k3 := k2.alloc k2.size (.cells #[.int .i64 0, .nilIface] 116)
  have E3 := E2.below ((Below.refl w2.heap.size w2).alloc (Nat.le_refl _) (.cells #[.int .i64 0, .nilIface] 116))
  have e3 := (((Below.refl w2.heap.size w2).alloc (Nat.le_refl _) (.cells #[.int .i64 0, .nilIface] 116)).cell (p := ⟨w.heap.size, 1, none⟩) q2).trans e2
  clear HC h1 E1 k0 hb hv e1 hq E2 e2 q2 k2
  go_upto_region 6 with fail
  generalize hw3 : w2.alloc (.cells #[.int .i64 0, .nilIface] 116) = w3 at B2 k3 E3 e3 ⊢
  clear hw3
  obtain ⟨gb, gs, gn, gt, ⟨cb, tb, ob⟩, ⟨cs, ts, os⟩, ⟨cn, tn, on⟩, bs, bn⟩ := E3
  go_wp2_with fail
  go_at_call 76; refine (is_other (D.m.t D.h.call.a.toNat).st bs w3 os ob).mono ?_; rintro e w4 ⟨rfl, hb⟩
  have kz4 := k3.trans (hb.mono k3.size)
  have B4 := b_block hb B2 (lt_of_block B2)
  have g4 := (hb.cell (p := ⟨3, 0, none⟩) (World.block_lt_of_cell? w3 _ gt)).trans gt
  clear gb gs gn gt ob os on hb B2 e3 k3
  have HA := Lib.hid (as_hit (n := w.heap.size) (D.m.t D.h.call.a.toNat).st es g4 B4 s2)
  go_wp2_with fail
  go_at_call 77; refine HA.out.mono ?_; rintro e w5 ⟨rfl, hb⟩
  have kz := kz4.trans hb
  clear kz4 hb B4 g4 HA
  have HR := Lib.hid (reply_any 3 0 (Nat.le_trans hB kz.size) (h.below kz))
  clear h
  go_wp2_with (go_at_call 78; refine HR.out.mono ?_; rintro e w7 ⟨rfl, h7, k7⟩)
  first | go_end0 | refine bodyPost_ret (results_none rfl _ _ _) rfl ?_
  exact ⟨rfl, h7, (Wd.of_new kz hB).trans k7⟩

set_option maxRecDepth 100000 in
set_option maxHeartbeats 4000000 in
theorem look_absent {w : World} {B mb db : Nat} {a b c d : Int} {D : Dn} {eb es en : Addr} (hE : ErrsAt w eb es en) (hB : B ≤ w.heap.size) (hn : D.m.tn ≤ 1048576) (hc : D.h.call.code = 2) (ht : hasT D.m D.h.call.a = false) (h : DeedX w B mb db a b c d D) :
    Calls Tryz.prog 48 #[ptrV db] w fun e w' => e = .returned (.tuple #[]) ∧ InD B mb db a b c d (⟨D.m, restHd 5 0, D.v⟩) w w' := by
  obtain ⟨d0, _, _, d3, d4, d5, d6, _, _, _⟩ := h.cells
  rw [hc] at d3
  have hv : canM eb es en D.m D.h.call.a = esI en := by unfold canM; rw [ht]; rfl
  have c1 : (w.alloc (.cells #[.int .i64 2, .int .i64 D.h.call.a, .int .i64 D.h.call.b, .int .i64 D.h.call.c] 37)).cell? ⟨w.heap.size, 1, none⟩ = some (.int .i64 D.h.call.a) := cell_of_block (heap_alloc_new w (.cells #[.int .i64 2, .int .i64 D.h.call.a, .int .i64 D.h.call.b, .int .i64 D.h.call.c] 37)) 1
  go_enter Tryz.func48, Tryz.ntmps48
  go_upto_region 3 with fail
  have kA := (Below.refl w.heap.size w).alloc (Nat.le_refl _) (.cells #[.int .i64 2, .int .i64 D.h.call.a, .int .i64 D.h.call.b, .int .i64 D.h.call.c] 37)
  have dA := (kA.cell (p := ⟨db, 0, none⟩) h.lt).trans d0
  have hq : w.heap.size < (w.alloc (.cells #[.int .i64 2, .int .i64 D.h.call.a, .int .i64 D.h.call.b, .int .i64 D.h.call.c] 37)).heap.size := by simp
  clear d0 d3 d4 d5 d6
  generalize w.alloc (.cells #[.int .i64 2, .int .i64 D.h.call.a, .int .i64 D.h.call.b, .int .i64 D.h.call.c] 37) = wA at kA dA c1 hq ⊢
  have k0 := kA.drew
  have e1 : wA.drew.cell? ⟨w.heap.size, 1, none⟩ = some (.int .i64 D.h.call.a) := c1
  replace hq : w.heap.size < wA.drew.heap.size := hq
  go_still_tail 6, (by kernel_rfl)
  change wpList _ _ _ _ _ wA.drew
  have h1 := h.below k0
  have E1 := hE.below k0
  clear hE dA c1 kA
  generalize wA.drew = w1 at k0 h1 E1 e1 hq ⊢
  have HC := Lib.hid (canMem_any D.h.call.a hn h1.o E1)
  rw [hv] at HC
  go_wp2_with fail
  go_at_call 74; refine HC.out.mono ?_; rintro e w2 ⟨rfl, hb⟩
  have e2 := (hb.cell (p := ⟨w.heap.size, 1, none⟩) hq).trans e1
  have q2 := Nat.lt_of_lt_of_le hq hb.size
  have k2 := k0.trans (hb.mono k0.size)
  have s2 := k2.size
  have E2 := E1.below hb
  have B2 := heap_alloc_new w2 (.cells #[.int .i64 0, .nilIface] 116)
  have k3 := k2.alloc k2.size (.cells #[.int .i64 0, .nilIface] 116)
  have E3 := E2.below ((Below.refl w2.heap.size w2).alloc (Nat.le_refl _) (.cells #[.int .i64 0, .nilIface] 116))
  have e3 := (((Below.refl w2.heap.size w2).alloc (Nat.le_refl _) (.cells #[.int .i64 0, .nilIface] 116)).cell (p := ⟨w.heap.size, 1, none⟩) q2).trans e2
  clear HC h1 E1 k0 hb hv e1 hq E2 e2 q2 k2
  go_upto_region 6 with fail
  generalize hw3 : w2.alloc (.cells #[.int .i64 0, .nilIface] 116) = w3 at B2 k3 E3 e3 ⊢
  clear hw3
  obtain ⟨gb, gs, gn, gt, ⟨cb, tb, ob⟩, ⟨cs, ts, os⟩, ⟨cn, tn, on⟩, bs, bn⟩ := E3
  go_wp2_with fail
  go_at_call 76; refine (is_absent bn w3 on ob).mono ?_; rintro e w4 ⟨rfl, hb⟩
  have kz4 := k3.trans (hb.mono k3.size)
  have B4 := b_block hb B2 (lt_of_block B2)
  have g4 := (hb.cell (p := ⟨3, 0, none⟩) (World.block_lt_of_cell? w3 _ gt)).trans gt
  clear gb gs gn gt ob os on hb B2 e3 k3
  have HA := Lib.hid (as_miss (tb := w2.heap.size) en g4)
  go_wp2_with fail
  go_at_call 77; refine HA.out.mono ?_; rintro e w5 ⟨rfl, hb⟩
  have kz := kz4.trans (hb.mono kz4.size)
  clear kz4 hb B4 g4 HA
  have HR := Lib.hid (reply_any 5 0 (Nat.le_trans hB kz.size) (h.below kz))
  clear h
  go_wp2_with (go_at_call 78; refine HR.out.mono ?_; rintro e w7 ⟨rfl, h7, k7⟩)
  first | go_end0 | refine bodyPost_ret (results_none rfl _ _ _) rfl ?_
  exact ⟨rfl, h7, (Wd.of_new kz hB).trans k7⟩

set_option maxRecDepth 100000 in
set_option maxHeartbeats 4000000 in
theorem look_busy {w : World} {B mb db : Nat} {a b c d : Int} {D : Dn} {eb es en : Addr} (hE : ErrsAt w eb es en) (hB : B ≤ w.heap.size) (hn : D.m.tn ≤ 1048576) (hc : D.h.call.code = 2) (ht : hasT D.m D.h.call.a = true) (h1 : ¬ ((D.m.t D.h.call.a.toNat).st = 1 ∨ (D.m.t D.h.call.a.toNat).st = 3 ∨ (D.m.t D.h.call.a.toNat).st = 4)) (h2 : (D.m.t D.h.call.a.toNat).st = 2 ∨ (D.m.t D.h.call.a.toNat).st = 6) (h : DeedX w B mb db a b c d D) :
    Calls Tryz.prog 48 #[ptrV db] w fun e w' => e = .returned (.tuple #[]) ∧ InD B mb db a b c d (D) w w' := by
  obtain ⟨d0, _, _, d3, d4, d5, d6, _, _, _⟩ := h.cells
  rw [hc] at d3
  have hv : canM eb es en D.m D.h.call.a = seI (D.m.t D.h.call.a.toNat).st eb := by unfold canM canV; rw [if_pos ht, if_neg h1, if_pos h2]
  have c1 : (w.alloc (.cells #[.int .i64 2, .int .i64 D.h.call.a, .int .i64 D.h.call.b, .int .i64 D.h.call.c] 37)).cell? ⟨w.heap.size, 1, none⟩ = some (.int .i64 D.h.call.a) := cell_of_block (heap_alloc_new w (.cells #[.int .i64 2, .int .i64 D.h.call.a, .int .i64 D.h.call.b, .int .i64 D.h.call.c] 37)) 1
  go_enter Tryz.func48, Tryz.ntmps48
  go_upto_region 3 with fail
  have kA := (Below.refl w.heap.size w).alloc (Nat.le_refl _) (.cells #[.int .i64 2, .int .i64 D.h.call.a, .int .i64 D.h.call.b, .int .i64 D.h.call.c] 37)
  have dA := (kA.cell (p := ⟨db, 0, none⟩) h.lt).trans d0
  have hq : w.heap.size < (w.alloc (.cells #[.int .i64 2, .int .i64 D.h.call.a, .int .i64 D.h.call.b, .int .i64 D.h.call.c] 37)).heap.size := by simp
  clear d0 d3 d4 d5 d6
  generalize w.alloc (.cells #[.int .i64 2, .int .i64 D.h.call.a, .int .i64 D.h.call.b, .int .i64 D.h.call.c] 37) = wA at kA dA c1 hq ⊢
  have k0 := kA.drew
  have e1 : wA.drew.cell? ⟨w.heap.size, 1, none⟩ = some (.int .i64 D.h.call.a) := c1
  replace hq : w.heap.size < wA.drew.heap.size := hq
  go_still_tail 6, (by kernel_rfl)
  change wpList _ _ _ _ _ wA.drew
  have h1 := h.below k0
  have E1 := hE.below k0
  clear hE dA c1 kA
  generalize wA.drew = w1 at k0 h1 E1 e1 hq ⊢
  have HC := Lib.hid (canMem_any D.h.call.a hn h1.o E1)
  rw [hv] at HC
  go_wp2_with fail
  go_at_call 74; refine HC.out.mono ?_; rintro e w2 ⟨rfl, hb⟩
  have e2 := (hb.cell (p := ⟨w.heap.size, 1, none⟩) hq).trans e1
  have q2 := Nat.lt_of_lt_of_le hq hb.size
  have k2 := k0.trans (hb.mono k0.size)
  have s2 := k2.size
  have E2 := E1.below hb
  have B2 := heap_alloc_new w2 (.cells #[.int .i64 0, .nilIface] 116)
  have k3 := k2.alloc k2.size (.cells #[.int .i64 0, .nilIface] 116)
  have E3 := E2.below ((Below.refl w2.heap.size w2).alloc (Nat.le_refl _) (.cells #[.int .i64 0, .nilIface] 116))
  have e3 := (((Below.refl w2.heap.size w2).alloc (Nat.le_refl _) (.cells #[.int .i64 0, .nilIface] 116)).cell (p := ⟨w.heap.size, 1, none⟩) q2).trans e2
  clear HC h1 E1 k0 hb hv e1 hq E2 e2 q2 k2
  go_upto_region 6 with fail
  generalize hw3 : w2.alloc (.cells #[.int .i64 0, .nilIface] 116) = w3 at B2 k3 E3 e3 ⊢
  clear hw3
  obtain ⟨gb, gs, gn, gt, ⟨cb, tb, ob⟩, ⟨cs, ts, os⟩, ⟨cn, tn, on⟩, bs, bn⟩ := E3
  go_wp2_with fail
  go_at_call 76; refine (is_same (D.m.t D.h.call.a.toNat).st eb w3).mono ?_; rintro e w4 ⟨rfl, hb⟩
  have kz := k3.trans (hb.mono k3.size)
  go_wp2
  first | go_end0 | refine bodyPost_ret (results_none rfl _ _ _) rfl ?_
  exact ⟨rfl, h.below kz, .of_new kz hB⟩

set_option maxRecDepth 100000 in
set_option maxHeartbeats 4000000 in
theorem look_yes {w : World} {B mb db t : Nat} {a b c d : Int} {D : Dn} {eb es en : Addr} (hE : ErrsAt w eb es en) (hB : B ≤ w.heap.size) (hn : D.m.tn ≤ 1048576) (hc : D.h.call.code = 2) (ht : t < D.m.tn) (hca : D.h.call.a = (t : Int)) (h1 : (D.m.t t).st = 1 ∨ (D.m.t t).st = 3 ∨ (D.m.t t).st = 4) (h : DeedX w B mb db a b c d D) :
    Calls Tryz.prog 48 #[ptrV db] w fun e w' => e = .returned (.tuple #[]) ∧ InD B mb db a b c d (⟨(takenD D t).m, { (takenD D t).h with pos := 6 }, (takenD D t).v⟩) w w' := by
  obtain ⟨d0, _, _, d3, d4, d5, d6, _, _, _⟩ := h.cells
  rw [hc] at d3
  have hv : canM eb es en D.m D.h.call.a = .nilIface := by unfold canM canV; rw [if_pos (show hasT D.m D.h.call.a = true by rw [hca]; exact inB_iff.2 ⟨by omega, by omega⟩), show D.h.call.a.toNat = t by omega, if_pos h1]
  have HCA := Lib.hid hca
  clear hca
  have c1 : (w.alloc (.cells #[.int .i64 2, .int .i64 D.h.call.a, .int .i64 D.h.call.b, .int .i64 D.h.call.c] 37)).cell? ⟨w.heap.size, 1, none⟩ = some (.int .i64 D.h.call.a) := cell_of_block (heap_alloc_new w (.cells #[.int .i64 2, .int .i64 D.h.call.a, .int .i64 D.h.call.b, .int .i64 D.h.call.c] 37)) 1
  go_enter Tryz.func48, Tryz.ntmps48
  go_upto_region 3 with fail
  have kA := (Below.refl w.heap.size w).alloc (Nat.le_refl _) (.cells #[.int .i64 2, .int .i64 D.h.call.a, .int .i64 D.h.call.b, .int .i64 D.h.call.c] 37)
  have dA := (kA.cell (p := ⟨db, 0, none⟩) h.lt).trans d0
  have hq : w.heap.size < (w.alloc (.cells #[.int .i64 2, .int .i64 D.h.call.a, .int .i64 D.h.call.b, .int .i64 D.h.call.c] 37)).heap.size := by simp
  clear d0 d3 d4 d5 d6
  generalize w.alloc (.cells #[.int .i64 2, .int .i64 D.h.call.a, .int .i64 D.h.call.b, .int .i64 D.h.call.c] 37) = wA at kA dA c1 hq ⊢
  have k0 := kA.drew
  have e1 : wA.drew.cell? ⟨w.heap.size, 1, none⟩ = some (.int .i64 D.h.call.a) := c1
  replace hq : w.heap.size < wA.drew.heap.size := hq
  go_still_tail 6, (by kernel_rfl)
  change wpList _ _ _ _ _ wA.drew
  have h1 := h.below k0
  have E1 := hE.below k0
  clear hE dA c1 kA
  generalize wA.drew = w1 at k0 h1 E1 e1 hq ⊢
  have HC := Lib.hid (canMem_any D.h.call.a hn h1.o E1)
  rw [hv] at HC
  go_wp2_with fail
  go_at_call 74; refine HC.out.mono ?_; rintro e w2 ⟨rfl, hb⟩
  have e2 := (hb.cell (p := ⟨w.heap.size, 1, none⟩) hq).trans e1
  have q2 := Nat.lt_of_lt_of_le hq hb.size
  have k2 := k0.trans (hb.mono k0.size)
  have s2 := k2.size
  have E2 := E1.below hb
  have B2 := heap_alloc_new w2 (.cells #[.int .i64 0, .nilIface] 116)
  have k3 := k2.alloc k2.size (.cells #[.int .i64 0, .nilIface] 116)
  have E3 := E2.below ((Below.refl w2.heap.size w2).alloc (Nat.le_refl _) (.cells #[.int .i64 0, .nilIface] 116))
  have e3 := (((Below.refl w2.heap.size w2).alloc (Nat.le_refl _) (.cells #[.int .i64 0, .nilIface] 116)).cell (p := ⟨w.heap.size, 1, none⟩) q2).trans e2
  clear HC h1 E1 k0 hb hv e1 hq E2 e2 q2 k2
  go_upto_region 6 with fail
  generalize hw3 : w2.alloc (.cells #[.int .i64 0, .nilIface] 116) = w3 at B2 k3 E3 e3 ⊢
  clear hw3
  have hB3 := Nat.le_trans hB k3.size
  have HK := Lib.hid (cancelD_any hB3 ht (h.below k3))
  rw [← HCA.out] at HK
  go_wp2_with fail
  go_at_call 75; refine HK.out.mono ?_; rintro e w4 ⟨rfl, h4, k4⟩
  replace k4 := (Wd.of_new k3 hB).trans k4
  have d0 : w4.cell? ⟨db, 2, none⟩ = some _ := cell_of_block h4.e 2
  have f0 := unfrozen_of_block h4.e 2
  have h5 := h4.setPos 6
  have k5 := k4.setD h4 2 (.int .i64 6)
  clear h4 k4 HK h
  go_wp2
  first | go_end0 | refine bodyPost_ret (results_none rfl _ _ _) rfl ?_
  exact ⟨rfl, h5, k5⟩

set_option maxRecDepth 100000 in
set_option maxHeartbeats 4000000 in
theorem look_code {w : World} {B mb db : Nat} {a b c d : Int} {D : Dn} (hB : B ≤ w.heap.size) (hc : ¬ D.h.call.code = 2) (h : DeedX w B mb db a b c d D) :
    Calls Tryz.prog 48 #[ptrV db] w (GaveUp B w) := by
  obtain ⟨d0, _, _, d3, d4, d5, d6, _, _, _⟩ := h.cells
  have hc1 : (D.h.call.code != 2) = true := by simpa using hc
  have kC := (Below.refl w.heap.size w).alloc (Nat.le_refl _) (.cells #[.int .i64 D.h.call.code, .int .i64 D.h.call.a, .int .i64 D.h.call.b, .int .i64 D.h.call.c] 37)
  clear h
  go_enter Tryz.func48, Tryz.ntmps48
  go_wp2_with (go_at_call 50; refine (giveUp_any _).mono ?_; rintro e w1 ⟨⟨u, pv, rfl⟩, rfl⟩)
  exact ⟨rfl, ⟨_, _, rfl⟩, kC.mono hB⟩

end Go.Proofs.YtflekodaiejflaaGreatDoor

/-
  The program's stopping: a step (chapter 10).
-/
namespace Go.Proofs.YtflekodaiejflaaGreatDoor
open Go.RowKit Go.Joins
set_option linter.unusedVariables false
set_option linter.unusedSimpArgs false

theorem effT_set {t : Tm} (h : t.st = 1 ∨ t.st = 3 ∨ t.st = 4) : effT t = setToT t := by
  unfold effT setToT
  rcases h with h | h | h <;> simp [h]
theorem stopLook_yes {D : Dn} {t : Nat} (ht : t < D.m.tn) (hca : D.h.call.a = (t : Int)) (hst : (D.m.t t).st = 1 ∨ (D.m.t t).st = 3 ∨ (D.m.t t).st = 4) (h0 : 0 ≤ effT (D.m.t t)) :
    stopLookD D = ⟨(takenD D t).m, { (takenD D t).h with pos := 6 }, (takenD D t).v⟩ := by
  have hh : hasT D.m D.h.call.a = true := by rw [hca]; exact inB_iff.2 ⟨by omega, by omega⟩
  have et : D.h.call.a.toNat = t := by omega
  unfold stopLookD
  rw [if_pos hh]
  simp only [et]
  rw [if_pos hst]
  unfold claimD
  rw [if_pos h0, effT_set hst]
theorem effT_pos {a b c : Int} {t : Tm} (h : timerB a b c t = true) (hst : t.st = 1 ∨ t.st = 3 ∨ t.st = 4) : 0 ≤ effT t := by
  simp only [timerB, Bool.and_eq_true] at h
  obtain ⟨_, _, hw, hn, _⟩ := h
  have h1 := (inB_iff.1 hw).1
  have h2 := (inB_iff.1 hn).1
  unfold effT
  rcases hst with h | h | h <;> simp [h] <;> assumption

set_option maxRecDepth 100000 in
set_option maxHeartbeats 4000000 in
theorem stop_5 {w : World} {B mb db : Nat} {a b c d : Int} {D D2 : Dn} (hp : D.h.pos = 5) (HL : RowKit.Hid (Calls Tryz.prog 48 #[ptrV db] w fun e w' => e = .returned (.tuple #[]) ∧ InD B mb db a b c d D2 w w')) (h : DeedX w B mb db a b c d D) :
    Calls Tryz.prog 27 #[ptrV db] w fun e w' => e = .returned (.tuple #[]) ∧ InD B mb db a b c d D2 w w' := by
  obtain ⟨_, _, d2, _, _, _, _, _, _, _⟩ := h.cells
  replace d2 : w.cell? ⟨db, 2, none⟩ = some (.int .i64 5) := hp ▸ d2
  clear hp h
  go_enter Tryz.func27, Tryz.ntmps27
  go_wp2_with (go_at_call 48; refine HL.out.mono ?_; rintro e w2 ⟨rfl, hi⟩)
  first | go_end0 | refine bodyPost_ret (results_none rfl _ _ _) rfl ?_
  exact ⟨rfl, hi⟩
set_option maxRecDepth 100000 in
set_option maxHeartbeats 4000000 in
theorem stop_5n {w : World} {B mb db : Nat} {a b c d : Int} {D : Dn} (hp : D.h.pos = 5) (HL : RowKit.Hid (Calls Tryz.prog 48 #[ptrV db] w (GaveUp B w))) (h : DeedX w B mb db a b c d D) :
    Calls Tryz.prog 27 #[ptrV db] w (GaveUp B w) := by
  obtain ⟨_, _, d2, _, _, _, _, _, _, _⟩ := h.cells
  replace d2 : w.cell? ⟨db, 2, none⟩ = some (.int .i64 5) := hp ▸ d2
  clear hp h
  go_enter Tryz.func27, Tryz.ntmps27
  go_wp2_with (go_at_call 48; refine HL.out.mono ?_; rintro e w2 ⟨⟨u, pv, rfl⟩, hi⟩)
  exact ⟨rfl, ⟨_, _, rfl⟩, hi⟩
set_option maxRecDepth 100000 in
set_option maxHeartbeats 4000000 in
theorem stop_6 {w : World} {B mb db : Nat} {a b c d : Int} {D D2 : Dn} (hp : D.h.pos = 6) (HL : RowKit.Hid (Calls Tryz.prog 49 #[ptrV db] w fun e w' => e = .returned (.tuple #[]) ∧ InD B mb db a b c d D2 w w')) (h : DeedX w B mb db a b c d D) :
    Calls Tryz.prog 27 #[ptrV db] w fun e w' => e = .returned (.tuple #[]) ∧ InD B mb db a b c d D2 w w' := by
  obtain ⟨_, _, d2, _, _, _, _, _, _, _⟩ := h.cells
  replace d2 : w.cell? ⟨db, 2, none⟩ = some (.int .i64 6) := hp ▸ d2
  clear hp h
  go_enter Tryz.func27, Tryz.ntmps27
  go_wp2_with (go_at_call 49; refine HL.out.mono ?_; rintro e w2 ⟨rfl, hi⟩)
  first | go_end0 | refine bodyPost_ret (results_none rfl _ _ _) rfl ?_
  exact ⟨rfl, hi⟩
set_option maxRecDepth 100000 in
set_option maxHeartbeats 4000000 in
theorem stop_6n {w : World} {B mb db : Nat} {a b c d : Int} {D : Dn} (hp : D.h.pos = 6) (HL : RowKit.Hid (Calls Tryz.prog 49 #[ptrV db] w (GaveUp B w))) (h : DeedX w B mb db a b c d D) :
    Calls Tryz.prog 27 #[ptrV db] w (GaveUp B w) := by
  obtain ⟨_, _, d2, _, _, _, _, _, _, _⟩ := h.cells
  replace d2 : w.cell? ⟨db, 2, none⟩ = some (.int .i64 6) := hp ▸ d2
  clear hp h
  go_enter Tryz.func27, Tryz.ntmps27
  go_wp2_with (go_at_call 49; refine HL.out.mono ?_; rintro e w2 ⟨⟨u, pv, rfl⟩, hi⟩)
  exact ⟨rfl, ⟨_, _, rfl⟩, hi⟩
set_option maxRecDepth 100000 in
set_option maxHeartbeats 4000000 in
theorem stop_x {w : World} {B mb db : Nat} {a b c d : Int} {D : Dn} (n1 : ¬ D.h.pos = 5) (n2 : ¬ D.h.pos = 6) (h : DeedX w B mb db a b c d D) :
    Calls Tryz.prog 27 #[ptrV db] w (GaveUp B w) := by
  obtain ⟨_, _, d2, _, _, _, _, _, _, _⟩ := h.cells
  have b1 : (D.h.pos == 5) = false := by simpa using n1
  have b2 : (D.h.pos == 6) = false := by simpa using n2
  clear h
  go_enter Tryz.func27, Tryz.ntmps27
  go_wp2_with (go_at_call 50; refine (giveUp_any _).mono ?_; rintro e w1 ⟨⟨u, pv, rfl⟩, rfl⟩)
  exact ⟨rfl, ⟨_, _, rfl⟩, Below.refl _ _⟩

theorem look_does {w : World} {B mb db : Nat} {a b c d : Int} {D : Dn} {eb es en : Addr} (hE : ErrsAt w eb es en) (hB : B ≤ w.heap.size) (hn : D.m.tn ≤ 1048576) (hc : D.h.call.code = 2) (ht : ∀ i, i < D.m.tn → timerB a b c (D.m.t i) = true) (h : DeedX w B mb db a b c d D) :
    Calls Tryz.prog 48 #[ptrV db] w fun e w' => e = .returned (.tuple #[]) ∧ InD B mb db a b c d (stopLookD D) w w' := by
  cases hh : hasT D.m D.h.call.a
  · rw [show stopLookD D = ⟨D.m, restHd 5 0, D.v⟩ by unfold stopLookD; rw [hh]; rfl]
    exact look_absent hE hB hn hc hh h
  have h01 := inB_iff.1 (show inB D.h.call.a 0 ((D.m.tn : Int) - 1) = true from hh)
  have hk : D.h.call.a.toNat < D.m.tn := by omega
  by_cases h1 : (D.m.t D.h.call.a.toNat).st = 1 ∨ (D.m.t D.h.call.a.toNat).st = 3 ∨ (D.m.t D.h.call.a.toNat).st = 4
  · rw [stopLook_yes hk (by omega) h1 (effT_pos (ht _ hk) h1)]
    exact look_yes hE hB hn hc hk (by omega) h1 h
  by_cases h2 : (D.m.t D.h.call.a.toNat).st = 2 ∨ (D.m.t D.h.call.a.toNat).st = 6
  · rw [show stopLookD D = D by unfold stopLookD; rw [if_pos hh]; simp only; rw [if_neg h1, if_pos h2]]
    exact look_busy hE hB hn hc hh h1 h2 h
  · rw [show stopLookD D = ⟨D.m, restHd 3 0, D.v⟩ by unfold stopLookD; rw [if_pos hh]; simp only; rw [if_neg h1, if_neg h2]]
    exact look_silent hE hB hn hc hh h1 h2 h

theorem stop_does {w : World} {B mb db : Nat} {a b c d : Int} {M : Me} {h : Hd} {eb es en : Addr} (hE : ErrsAt w eb es en) (hf : stepFit a b c d M h = true) (hB : B ≤ w.heap.size) (hd : DeedX w B mb db a b c d ⟨M, h, et0⟩) :
    Calls Tryz.prog 27 #[ptrV db] w (Does (((h.pos == 5 && h.call.code == 2) || h.pos == 6) && stopB ⟨M, h, et0⟩) (stopD ⟨M, h, et0⟩) B mb db a b c d w) := by
  obtain ⟨_, hti, _, _, _⟩ := stepFit_more hf
  obtain ⟨hn, _, hp, hdl⟩ := stepFit_places hf
  have F := stepFit_facts hf
  by_cases p5 : h.pos = 5
  · have E : stopB ⟨M, h, et0⟩ = true := if_pos p5
    have E2 : stopD ⟨M, h, et0⟩ = stopLookD ⟨M, h, et0⟩ := if_pos p5
    rw [E, E2]
    by_cases hc : h.call.code = 2
    · rw [show (((h.pos == 5 && h.call.code == 2) || h.pos == 6) && true) = true by simp [p5, hc]]
      exact stop_5 p5 (Lib.hid (look_does hE hB hn hc F.tm hd)) hd
    · rw [show (((h.pos == 5 && h.call.code == 2) || h.pos == 6) && true) = false by simp [p5, hc]]
      exact stop_5n p5 (Lib.hid (look_code hB hc hd)) hd
  by_cases p6 : h.pos = 6
  · have E : stopB ⟨M, h, et0⟩ = mineB ⟨M, h, et0⟩ := if_neg p5
    have E2 : stopD ⟨M, h, et0⟩ = turnD ⟨M, h, et0⟩ := if_neg p5
    rw [E, E2, show (((h.pos == 5 && h.call.code == 2) || h.pos == 6) && mineB ⟨M, h, et0⟩) = mineB ⟨M, h, et0⟩ by simp [p6]]
    by_cases h0 : 0 ≤ h.tim
    · obtain ⟨t, het⟩ : ∃ t : Nat, h.tim = (t : Int) := ⟨h.tim.toNat, by omega⟩
      have htt : h.tim.toNat = t := by omega
      have ht2 : t < M.tn := by have := hti h0; omega
      by_cases hq : (M.t t).st = 2 ∧ (M.t t).pl ≠ -1
      · rw [show mineB ⟨M, h, et0⟩ = true by simp [mineB, h0, htt, hq]]
        obtain ⟨k, hkp, hpk⟩ := hp t ht2 hq.2
        rw [show turnD ⟨M, h, et0⟩ = ⟨setPc (setTm M t 0 5) k 3 ((M.p k).d + 1), restHd 2 0, et0⟩ by
          unfold turnD; simp only [htt, hpk, Int.toNat_natCast]]
        exact stop_6 p6 (Lib.hid (turnD_yes hB ht2 het hq.1 hpk hkp (hdl k hkp).1 (hdl k hkp).2 hd)) hd
      · rw [show mineB ⟨M, h, et0⟩ = false by
          cases hm : mineB ⟨M, h, et0⟩
          · rfl
          · exact absurd (by simpa [mineB, h0, htt] using hm) hq]
        exact stop_6n p6 (Lib.hid (turnD_no hB ht2 het hq hd)) hd
    · rw [show mineB ⟨M, h, et0⟩ = false by simp [mineB, h0]]
      have hm : h.tim = -1 := by
        simp only [stepFit, Bool.and_eq_true, Bool.or_eq_true, beq_iff_eq] at hf
        rcases hf.2.2.2 with e | e
        · exact e
        · have := inB_iff.1 e; omega
      exact stop_6n p6 (Lib.hid (turnD_none hB hm hd)) hd
  · rw [show (((h.pos == 5 && h.call.code == 2) || h.pos == 6) && stopB ⟨M, h, et0⟩) = false by simp [p5, p6]]
    exact stop_x p5 p6 hd

end Go.Proofs.YtflekodaiejflaaGreatDoor

/-
  StopStep, in the program (chapter 10).
-/
namespace Go.Proofs.YtflekodaiejflaaGreatDoor
open Go.Deep Go.RowKit Go.Joins
set_option linter.unusedVariables false
set_option linter.unusedSimpArgs false

theorem enter_stop (args : Array Value) (w : World) : (callFunc 27 args).run Tryz.prog w = .ok (.enter 27 args) w := by
  simp [callFunc, Tryz.func27, Tryz.f27]

theorem try_stop (a b c d : Int) (h : Hd) {tv pv : Value} {M : Me} {w : World} {eb es en : Addr} (hs : sizeM M ≤ 1048576) (hE : ErrsAt w eb es en) (hm : MemAt w tv pv M) :
    Calls Tryz.prog 26 #[.agg #[.int .i64 a, .int .i64 b, .int .i64 c], meV M.c tv pv, .int .i64 d, hdV h, .func (.func 27) #[] #[]] w (NewDn (stopG a b c d M h) (stopQ a b c d M h) w) := by
  have hz := stopG_size a b c d M h
  unfold stopG stopQ at *
  cases hf : stepFit a b c d M h
  · exact tryStep_unfit _ enter_stop a b c d h hs hm hf
  · cases hq : (((h.pos == 5 && h.call.code == 2) || h.pos == 6) && stopB ⟨M, h, et0⟩)
    · exact tryStep_no _ enter_stop a b c d h hs hm (N := stopD ⟨M, h, et0⟩) (Lib.hid (fun W B mb db kW hB hD => by have := stop_does (hE.below kW) hf hB hD; rw [hq] at this; exact this)) hf
    · rw [hf, hq] at hz
      exact tryStep_yes _ enter_stop a b c d h hs hm (N := stopD ⟨M, h, et0⟩) hz (Lib.hid (fun W B mb db kW hB hD => by have := stop_does (hE.below kW) hf hB hD; rw [hq] at this; exact this)) hf

set_option maxRecDepth 100000 in
set_option maxHeartbeats 8000000 in
theorem imStopStep_any : ∀ (a b c d : Int) (h : Hd) (tv pv : Value) (M : Me) (w : World) (eb es en : Addr), sizeM M ≤ 1048576 → ErrsAt w eb es en → MemAt w tv pv M → Calls Tryz.prog 10 #[.agg #[.int .i64 a, .int .i64 b, .int .i64 c], meV M.c tv pv, .int .i64 d, hdV h] w (NewDn (stopG a b c d M h) (stopQ a b c d M h) w) := by
  intro a b c d h tv pv M w eb es en hs hE hm
  obtain ⟨N, hN⟩ : ∃ N, N = stopG a b c d M h := ⟨_, rfl⟩
  obtain ⟨q, hq⟩ : ∃ q, q = stopQ a b c d M h := ⟨_, rfl⟩
  have HT := Lib.hid (fun (tv pv : Value) (w : World) (hE : ErrsAt w eb es en) (hm : MemAt w tv pv M) => try_stop a b c d h hs hE hm)
  rw [← hN, ← hq] at HT ⊢
  clear hN hq
  obtain ⟨va, vc, qa, qc, rfl, rfl⟩ := hm.form
  have k0 := (((((Below.refl w.heap.size w).alloc (Nat.le_refl _) (.cells #[.int .i64 a, .int .i64 b, .int .i64 c] 46)).alloc (by simp) (memO M.c (.slice va M.tn vc) (.slice qa M.pn qc) 36)).alloc (by simp; omega) (.cells (hdCells h) 39)).alloc (by simp; omega) (.cells #[.int .i64 0, .slice none 0 0, .slice none 0 0, .int .i64 0, .int .i64 0, .int .i64 0, .int .i64 0, .int .i64 0, .int .i64 0, .int .i64 0, .bool false, .int .i64 0, .int .i64 0, .int .i64 0, .int .i64 0, .int .i64 0, .int .i64 0, .int .i64 0, .int .i64 0, .int .i64 0] 43))
  have hP := alloc_block (.cells #[.int .i64 0, .slice none 0 0, .slice none 0 0, .int .i64 0, .int .i64 0, .int .i64 0, .int .i64 0, .int .i64 0, .int .i64 0, .int .i64 0, .bool false, .int .i64 0, .int .i64 0, .int .i64 0, .int .i64 0, .int .i64 0, .int .i64 0, .int .i64 0, .int .i64 0, .int .i64 0] 43) (alloc_block (.cells (hdCells h) 39) (alloc_block (memO M.c (.slice va M.tn vc) (.slice qa M.pn qc) 36) (heap_alloc_new w (.cells #[.int .i64 a, .int .i64 b, .int .i64 c] 46))))
  have hX := heap_alloc_new (w.alloc (.cells #[.int .i64 a, .int .i64 b, .int .i64 c] 46)) (memO M.c (.slice va M.tn vc) (.slice qa M.pn qc) 36)
  rw [show (w.alloc (.cells #[.int .i64 a, .int .i64 b, .int .i64 c] 46)).heap.size = w.heap.size + 1 by simp] at hX
  replace hX := alloc_block (.cells #[.int .i64 0, .slice none 0 0, .slice none 0 0, .int .i64 0, .int .i64 0, .int .i64 0, .int .i64 0, .int .i64 0, .int .i64 0, .int .i64 0, .bool false, .int .i64 0, .int .i64 0, .int .i64 0, .int .i64 0, .int .i64 0, .int .i64 0, .int .i64 0, .int .i64 0, .int .i64 0] 43) (alloc_block (.cells (hdCells h) 39) hX)
  have hH := heap_alloc_new ((w.alloc (.cells #[.int .i64 a, .int .i64 b, .int .i64 c] 46)).alloc (memO M.c (.slice va M.tn vc) (.slice qa M.pn qc) 36)) (.cells (hdCells h) 39)
  rw [show ((w.alloc (.cells #[.int .i64 a, .int .i64 b, .int .i64 c] 46)).alloc (memO M.c (.slice va M.tn vc) (.slice qa M.pn qc) 36)).heap.size = w.heap.size + 1 + 1 by simp] at hH
  replace hH := alloc_block (.cells #[.int .i64 0, .slice none 0 0, .slice none 0 0, .int .i64 0, .int .i64 0, .int .i64 0, .int .i64 0, .int .i64 0, .int .i64 0, .int .i64 0, .bool false, .int .i64 0, .int .i64 0, .int .i64 0, .int .i64 0, .int .i64 0, .int .i64 0, .int .i64 0, .int .i64 0, .int .i64 0] 43) hH
  have hR := heap_alloc_new (((w.alloc (.cells #[.int .i64 a, .int .i64 b, .int .i64 c] 46)).alloc (memO M.c (.slice va M.tn vc) (.slice qa M.pn qc) 36)).alloc (.cells (hdCells h) 39)) (.cells #[.int .i64 0, .slice none 0 0, .slice none 0 0, .int .i64 0, .int .i64 0, .int .i64 0, .int .i64 0, .int .i64 0, .int .i64 0, .int .i64 0, .bool false, .int .i64 0, .int .i64 0, .int .i64 0, .int .i64 0, .int .i64 0, .int .i64 0, .int .i64 0, .int .i64 0, .int .i64 0] 43)
  rw [show (((w.alloc (.cells #[.int .i64 a, .int .i64 b, .int .i64 c] 46)).alloc (memO M.c (.slice va M.tn vc) (.slice qa M.pn qc) 36)).alloc (.cells (hdCells h) 39)).heap.size = w.heap.size + 1 + 1 + 1 by simp] at hR
  have HM := Lib.hid (hm.below k0)
  have HE := Lib.hid (hE.below k0)
  clear hE
  have s0 : ((((w.alloc (.cells #[.int .i64 a, .int .i64 b, .int .i64 c] 46)).alloc (memO M.c (.slice va M.tn vc) (.slice qa M.pn qc) 36)).alloc (.cells (hdCells h) 39)).alloc (.cells #[.int .i64 0, .slice none 0 0, .slice none 0 0, .int .i64 0, .int .i64 0, .int .i64 0, .int .i64 0, .int .i64 0, .int .i64 0, .int .i64 0, .bool false, .int .i64 0, .int .i64 0, .int .i64 0, .int .i64 0, .int .i64 0, .int .i64 0, .int .i64 0, .int .i64 0, .int .i64 0] 43)).heap.size = w.heap.size + 1 + 1 + 1 + 1 := by simp
  clear hm
  go_enter Tryz.func10, Tryz.ntmps10
  go_upto_region 1 with fail
  generalize (((w.alloc (.cells #[.int .i64 a, .int .i64 b, .int .i64 c] 46)).alloc (memO M.c (.slice va M.tn vc) (.slice qa M.pn qc) 36)).alloc (.cells (hdCells h) 39)).alloc (.cells #[.int .i64 0, .slice none 0 0, .slice none 0 0, .int .i64 0, .int .i64 0, .int .i64 0, .int .i64 0, .int .i64 0, .int .i64 0, .int .i64 0, .bool false, .int .i64 0, .int .i64 0, .int .i64 0, .int .i64 0, .int .i64 0, .int .i64 0, .int .i64 0, .int .i64 0, .int .i64 0] 43) = w1 at k0 hP hX hH hR HM HE s0 ⊢
  obtain ⟨p0, p1, p2, _, _, _⟩ := three hP
  obtain ⟨x0, x1, x2, _, _, _⟩ := three hX
  obtain ⟨h0, h1, h2, h3, h4, h5, h6, h7, h8, h9, h10, h11, _⟩ := twelve hH
  go_wp2_with fail
  go_at_call 26; refine (HT.out _ _ _ HE.out HM.out).mono ?_; rintro e w4 ⟨t4, p4, rfl, hO, hb⟩
  have lR := lt_of_block hR
  replace hR := b_block hb hR lR
  have k4 := k0.trans (hb.mono k0.size)
  clear p0 p1 p2 x0 x1 x2 h0 h1 h2 h3 h4 h5 h6 h7 h8 h9 h10 h11 hP hX hH HM k0 hb
  obtain ⟨ta, tc, pa, pc, ht, hp⟩ := hO.at.form
  subst ht hp
  obtain ⟨cs, hcs⟩ : ∃ cs : Array Value, dnCells N (.slice ta N.m.tn tc) (.slice pa N.m.pn pc) = cs := ⟨_, rfl⟩
  rw [show dnV N (.slice ta N.m.tn tc) (.slice pa N.m.pn pc) = Value.agg cs from congrArg Value.agg hcs]
  have hsz : cs.size = 20 := by { rw [← hcs]; rfl }
  have hone : cs.all (·.oneCell') = true := by { rw [← hcs]; simp [Value.oneCell'] }
  have hst := run_store_letter (P := Tryz.prog) hsz hone w4 (w.heap.size + 1 + 1 + 1) (there_of_cells hR)
  have hR5 := heap_setCells (cs := cs) hR hsz
  have hO5 := OwnMemIn.own (hO.setCells cs.toList hR)
  have k5 := b_setCells (b := w.heap.size + 1 + 1 + 1) (n := w.heap.size) (by omega) cs.toList 0 k4
  clear hR hO k4
  go_wp2
  exact bodyPost_ret (results_pair (cs := cs.toList) rfl rfl rfl (range_of_block hR5) Tryz.underlying43 rfl (by rw [done_info]; simp [hsz])) rfl ⟨_, _, by rw [← hcs]; rfl, hO5.mono (by omega), k5⟩

end Go.Proofs.YtflekodaiejflaaGreatDoor

/-
  What a row that lists the program's errors gives (chapter 10).
-/
namespace Go.Proofs.YtflekodaiejflaaGreatDoor
open Go.RowKit Go.Joins Go.ChangeShapes Go.WideShapes
set_option linter.unusedVariables false
set_option linter.unusedSimpArgs false

abbrev laidE : List (String × DataW Unit) := [("errors.errorType", Rows.laid_errors_errorType), ("loop.example/g00743/impl.errBusy", Rows.laid_loop_example_g00743_impl_errBusy), ("loop.example/g00743/impl.errSilent", Rows.laid_loop_example_g00743_impl_errSilent), ("loop.example/g00743/impl.errAbsent", Rows.laid_loop_example_g00743_impl_errAbsent)]
theorem g_errBusy : Tryz.prog.globalNamed "loop.example/g00743/impl.errBusy" = some 0 := by kernel_rfl
theorem t_errBusy : (Tryz.prog.globals[0]?).map (·.type) = some 112 := by kernel_rfl
theorem g_errSilent : Tryz.prog.globalNamed "loop.example/g00743/impl.errSilent" = some 1 := by kernel_rfl
theorem t_errSilent : (Tryz.prog.globals[1]?).map (·.type) = some 112 := by kernel_rfl
theorem g_errAbsent : Tryz.prog.globalNamed "loop.example/g00743/impl.errAbsent" = some 2 := by kernel_rfl
theorem t_errAbsent : (Tryz.prog.globals[2]?).map (·.type) = some 112 := by kernel_rfl
theorem g_errType : Tryz.prog.globalNamed "errors.errorType" = some 3 := by kernel_rfl
theorem erStar : "*" ++ "errors.errorString" = "*errors.errorString" := by decide
theorem erRow (u : TypeId) (h : Tryz.prog.typeName? 3 u = some "*errors.errorString") : u = 199 :=
  typeName_ptr_named (nm := "errors.errorString") (by rw [erStar]; kernel_rfl) (by kernel_rfl) (by decide) u (by rw [erStar]; exact h)
theorem erCells : Tryz.prog.cellsOf 220 = 1 := by kernel_rfl
theorem erCellsS : Tryz.prog.cellsOf 9 = 1 := by kernel_rfl
theorem erRt : (Tryz.prog.cutTypes.find? (·.1 == "internal/reflectlite.rtype")).map (·.2) = some 173 := by kernel_rfl
theorem erOneRow : ((List.range Tryz.prog.types.size).filter fun t => Tryz.prog.rowNamed t [101, 114, 114, 111, 114]) = [112] := by kernel_rfl

theorem handle_of_laid {W : World} (h : laidMetH Tryz.prog laidE W) : W.cell? ⟨3, 0, none⟩ = some (.iface 173 (.agg #[.pointer (some ⟨4, 112, none⟩)])) := by
  have h2 := (laidMetH_iff.1 h).2
  obtain ⟨name, u, ty, e1, e2, e3, e4, e5⟩ := h2 ("errors.errorType", Rows.laid_errors_errorType) (by rw [show (laidE.filter fun x => x.2.handleName?.isSome) = [("errors.errorType", Rows.laid_errors_errorType)] by kernel_rfl]; exact List.mem_singleton.2 rfl)
  have en : name = [101, 114, 114, 111, 114] := (Option.some.inj e1).symm
  subst en
  obtain rfl := Option.some.inj (erRt.symm.trans e2)
  have hm : ty ∈ (List.range Tryz.prog.types.size).filter fun t => Tryz.prog.rowNamed t [101, 114, 114, 111, 114] := List.mem_filter.2 ⟨List.mem_range.2 e3, e4⟩
  rw [erOneRow] at hm
  obtain rfl := List.mem_singleton.1 hm
  have hh : typeHandle Tryz.prog 112 = .pointer (some ⟨4, 112, none⟩) := by kernel_rfl
  rw [hh] at e5
  simpa using World.var?_cell g_errType e5 0

theorem two_s {W : World} (h : laidMetH Tryz.prog laidE W) : laidMet Tryz.prog [("loop.example/g00743/impl.errBusy", Rows.laid_loop_example_g00743_impl_errBusy), ("loop.example/g00743/impl.errSilent", Rows.laid_loop_example_g00743_impl_errSilent)] W := by
  have h1 := h.filter (fun x => x.1 == "loop.example/g00743/impl.errBusy" || x.1 == "loop.example/g00743/impl.errSilent")
  rw [show laidE.filter (fun x => x.1 == "loop.example/g00743/impl.errBusy" || x.1 == "loop.example/g00743/impl.errSilent") = [("loop.example/g00743/impl.errBusy", Rows.laid_loop_example_g00743_impl_errBusy), ("loop.example/g00743/impl.errSilent", Rows.laid_loop_example_g00743_impl_errSilent)] by kernel_rfl] at h1
  rwa [MakeChecks.laidMetH_plain _ _ _ (by kernel_rfl)] at h1
theorem two_n {W : World} (h : laidMetH Tryz.prog laidE W) : laidMet Tryz.prog [("loop.example/g00743/impl.errBusy", Rows.laid_loop_example_g00743_impl_errBusy), ("loop.example/g00743/impl.errAbsent", Rows.laid_loop_example_g00743_impl_errAbsent)] W := by
  have h1 := h.filter (fun x => x.1 == "loop.example/g00743/impl.errBusy" || x.1 == "loop.example/g00743/impl.errAbsent")
  rw [show laidE.filter (fun x => x.1 == "loop.example/g00743/impl.errBusy" || x.1 == "loop.example/g00743/impl.errAbsent") = [("loop.example/g00743/impl.errBusy", Rows.laid_loop_example_g00743_impl_errBusy), ("loop.example/g00743/impl.errAbsent", Rows.laid_loop_example_g00743_impl_errAbsent)] by kernel_rfl] at h1
  rwa [MakeChecks.laidMetH_plain _ _ _ (by kernel_rfl)] at h1
theorem errs_of_laid {W : World} (h : laidMetH Tryz.prog laidE W) : ∃ eb es en, ErrsAt W eb es en := by
  obtain ⟨eb, es, _, _, c0, c1, t0, t1, hv0, hv1, _, _, _, _, _, _, hne, hb0, hb1⟩ := laid_sentinels2 (two_s h) g_errBusy t_errBusy g_errSilent t_errSilent Tryz.underlying112 erRow Tryz.underlying199 Tryz.underlying220 rfl rfl Tryz.underlying9 erCells erCellsS
  obtain ⟨eb', en, _, _, c2, c3, t2, t3, hv2, hv3, _, _, _, _, _, _, hne2, hb2, hb3⟩ := laid_sentinels2 (two_n h) g_errBusy t_errBusy g_errAbsent t_errAbsent Tryz.underlying112 erRow Tryz.underlying199 Tryz.underlying220 rfl rfl Tryz.underlying9 erCells erCellsS
  obtain rfl : eb = eb' := by
    have e := hv0.symm.trans hv2
    simpa using e
  exact ⟨eb, es, en, by simpa using World.var?_cell g_errBusy hv0 0, by simpa using World.var?_cell g_errSilent hv1 0, by simpa using World.var?_cell g_errAbsent hv3 0, handle_of_laid h, ⟨c0, t0, hb0⟩, ⟨c1, t1, hb1⟩, ⟨c3, t3, hb3⟩, fun e => hne e.symm, fun e => hne2 e.symm⟩

/-- the door's own heap meets the condition -/
theorem door_metE (os : Os) (args : Array Value) : laidMetH Tryz.prog laidE ((World.doorLaid Tryz.prog 73 os).forCall (fun _ _ => 0) ⟨#[], args, []⟩).memory :=
  laidMetH_of_parts3 (fuel := 8) (laidMet_of_run' 8 (by kernel_rfl) (by kernel_rfl)) (by kernel_rfl) (by kernel_rfl)
theorem laidOutE : laidOutB Tryz.prog = true := by kernel_rfl

end Go.Proofs.YtflekodaiejflaaGreatDoor
