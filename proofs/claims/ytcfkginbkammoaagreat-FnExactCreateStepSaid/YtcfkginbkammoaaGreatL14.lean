/-
  A step while it is made, in the program (chapter 9): locked, unlocked, replied, told; what gives up, and what catches that.
-/
import Derived.Test.YtcfkginbkammoaaGreatL13
import Derived.Defers
import Derived.Recover
import Derived.Test.YtcfkginbkammoaaGreatL12
import Derived.Test.YtcfkginbkammoaaGreatL10
import Derived.Test.YtcfkginbkammoaaGreatL04
namespace Go.Proofs.YtcfkginbkammoaaGreat
open Go.RowKit Go.Joins
set_option linter.unusedVariables false

theorem giveUp_any (w : World) : Calls Tryz.prog 54 #[] w fun e w' => (∃ u pv, e = .panicked [{ v := .iface u pv, recovered := false }]) ∧ w' = w := by
  go_enter Tryz.func54, Tryz.ntmps54
  go_wp2
  exact ⟨rfl, ⟨_, _, rfl⟩, rfl⟩

theorem catch_panicking (u : TypeId) (pv : Value) (older : List PanicEntry) (w : World) :
    CallsD Tryz.prog 45 #[] (.panicking ({ v := .iface u pv, recovered := false } :: older)) w fun e u' w' =>
      e = .returned (.tuple #[]) ∧ u' = .panicking ({ v := .iface u pv, recovered := true } :: older) ∧ w' = w := by
  refine callsD_of_wpS Tryz.func45 rfl fun c₀ cs hu => ?_
  apply wpS_region
  simp [wpOpsS, go_sem, recoverD, hu, Tryz.ntmps45, Exit.thenS, bodyPostS, results, Tryz.results45]

theorem catch_idle (w : World) :
    CallsD Tryz.prog 45 #[] .returning w fun e u' w' => e = .returned (.tuple #[]) ∧ u' = .returning ∧ w' = w := by
  refine callsD_of_wpS Tryz.func45 rfl fun c₀ cs hu => ?_
  apply wpS_region
  cases c₀
  simp_all [wpOpsS, go_sem, recoverD, Tryz.ntmps45, Exit.thenS, bodyPostS, results, Tryz.results45]

/-- what a call on a deed does -/
def InD (B mb db : Nat) (a b c d : Int) (D : Dn) (w w' : World) : Prop := DeedX w' B mb db a b c d D ∧ Wd B w w'

set_option maxRecDepth 100000 in
set_option maxHeartbeats 2000000 in
theorem reply_any {w : World} {B mb db : Nat} {a b c d : Int} {D : Dn} (r o : Int) (hB : B ≤ w.heap.size) (h : DeedX w B mb db a b c d D) :
    Calls Tryz.prog 76 #[ptrV db, .int .i64 r, .int .i64 o] w fun e w' => e = .returned (.tuple #[]) ∧ InD B mb db a b c d ⟨D.m, restHd r o, D.v⟩ w w' := by
  go_enter Tryz.func76, Tryz.ntmps76
  go_wp2_with fail
  go_at_call 103; refine (imResting_any r o _).mono ?_; rintro e w1 ⟨rfl, hb⟩
  have h1 := h.below hb
  have k1 : Wd B w w1 := .of_new hb hB
  have h2 := h1.setHand (restHd r o)
  have k2 := k1.setDs h1 2 (hdCells (restHd r o)).toList
  clear h hb k1
  have hf := fun o => unfrozen_of_block h1.e o
  have c2 : w1.cell? ⟨db, 2, none⟩ = some _ := cell_of_block h1.e 2
  have c3 : w1.cell? ⟨db, 3, none⟩ = some _ := cell_of_block h1.e 3
  have c4 : w1.cell? ⟨db, 4, none⟩ = some _ := cell_of_block h1.e 4
  have c5 : w1.cell? ⟨db, 5, none⟩ = some _ := cell_of_block h1.e 5
  have c6 : w1.cell? ⟨db, 6, none⟩ = some _ := cell_of_block h1.e 6
  have c7 : w1.cell? ⟨db, 7, none⟩ = some _ := cell_of_block h1.e 7
  have c8 : w1.cell? ⟨db, 8, none⟩ = some _ := cell_of_block h1.e 8
  have c9 : w1.cell? ⟨db, 9, none⟩ = some _ := cell_of_block h1.e 9
  have c10 : w1.cell? ⟨db, 10, none⟩ = some _ := cell_of_block h1.e 10
  have c11 : w1.cell? ⟨db, 11, none⟩ = some _ := cell_of_block h1.e 11
  have c12 : w1.cell? ⟨db, 12, none⟩ = some _ := cell_of_block h1.e 12
  have c13 : w1.cell? ⟨db, 13, none⟩ = some _ := cell_of_block h1.e 13
  clear h1
  go_wp2
  go_end0
  exact ⟨rfl, h2, k2⟩

set_option maxRecDepth 100000 in
set_option maxHeartbeats 2000000 in
theorem tell_any {w : World} {B mb db t : Nat} {a b c d : Int} {D : Dn} (kind when : Int) (hB : B ≤ w.heap.size) (ht : t < D.m.tn) (h : DeedX w B mb db a b c d D) :
    Calls Tryz.prog 81 #[ptrV db, .int .i64 kind, .int .i64 (t : Int), .int .i64 when] w fun e w' => e = .returned (.tuple #[]) ∧ InD B mb db a b c d ⟨D.m, D.h, evI D.m kind t when⟩ w w' := by
  obtain ⟨d0, _, _, _, _, _, _, _, _, hf⟩ := h.cells
  obtain ⟨tv, g, V, ho⟩ := h.o.opened
  obtain ⟨tg, tc, rfl⟩ := ho.tms ht
  obtain ⟨m0, m1, m2, m3, m4, m5⟩ := six ho.m
  obtain ⟨⟨_, _, _, _, _, t5, _, _⟩, _⟩ := ho.tcells ht
  have i2 : (0 : Int) ≤ (t : Int) := by omega
  have i3 : (t : Int) < (D.m.tn : Int) := by omega
  have k0 := (Below.refl w.heap.size w).drew
  clear ho hf
  go_enter Tryz.func81, Tryz.ntmps81
  go_still_tail 23, (by kernel_rfl)
  change wpList _ _ _ _ _ w.drew
  replace h := h.below k0
  have k1 : Wd B w w.drew := .of_new k0 hB
  clear d0 m0 m1 m2 m3 m4 m5 t5 k0
  generalize w.drew = w0 at h k1 ⊢
  have hf := fun o => unfrozen_of_block h.e o
  have c14 : w0.cell? ⟨db, 14, none⟩ = some _ := cell_of_block h.e 14
  have c15 : w0.cell? ⟨db, 15, none⟩ = some _ := cell_of_block h.e 15
  have c16 : w0.cell? ⟨db, 16, none⟩ = some _ := cell_of_block h.e 16
  have c17 : w0.cell? ⟨db, 17, none⟩ = some _ := cell_of_block h.e 17
  have c18 : w0.cell? ⟨db, 18, none⟩ = some _ := cell_of_block h.e 18
  have h2 := h.setEv (evI D.m kind t when)
  have k2 := k1.setDs h 14 [.int .i64 (evI D.m kind t when).kin, .int .i64 (evI D.m kind t when).tim, .int .i64 (evI D.m kind t when).gen, .int .i64 (evI D.m kind t when).whe, .int .i64 (evI D.m kind t when).clk]
  clear h k1
  go_wp2
  go_end0
  exact ⟨rfl, h2, k2⟩

set_option maxRecDepth 100000 in
set_option maxHeartbeats 2000000 in
theorem unlockD_any {w : World} {B mb db k : Nat} {a b c d : Int} {D : Dn} (hB : B ≤ w.heap.size) (hk : k < D.m.pn) (h : DeedX w B mb db a b c d D) :
    Calls Tryz.prog 52 #[ptrV db, .int .i64 (k : Int)] w fun e w' => e = .returned (.tuple #[]) ∧ InD B mb db a b c d ⟨unlockM D.m d k, D.h, D.v⟩ w w' := by
  obtain ⟨d0, d1, _, _, _, _, _, _, _, hf⟩ := h.cells
  obtain ⟨tv, g, V, ho⟩ := h.o.opened
  obtain ⟨m0, m1, m2, m3, m4, m5⟩ := six ho.m
  obtain ⟨p0, _, _, _⟩ := ho.l.cells hk
  have pf := ho.l.free
  have i2 : (0 : Int) ≤ (k : Int) := by omega
  have i3 : (k : Int) < (D.m.pn : Int) := by omega
  have k0 := (Below.refl w.heap.size w).drew
  by_cases hl : (D.m.p k).l = d
  · rw [show unlockM D.m d k = setPc D.m k 1 (-1) from if_pos hl]
    have HL := Lib.hid (leave_yes (w := w.drew) (g := g) (o := k * 4) d (hl ▸ p0) (pf (k * 4)))
    clear hl
    go_enter Tryz.func52, Tryz.ntmps52
    go_still_tail 14, (by kernel_rfl)
    change wpList _ _ _ _ _ w.drew
    replace h := h.below k0
    replace ho := ho.below k0
    clear p0 pf
    have k1 : Wd B w w.drew := .of_new k0 hB
    generalize w.drew = w0 at k0 k1 h ho HL ⊢
    go_wp2_with fail
    go_at_call 82; refine HL.out.mono ?_; rintro e w1 ⟨rfl, hw⟩
    subst hw
    go_wp2
    go_end0
    obtain ⟨cs, hcs⟩ := ho.l.hh
    exact ⟨rfl, h.mem (heap_set1 w0 g _ _ db (ne_ty h.e hcs (by decide))) (ho.setL hk (-1)).own, k1.set hcs ho.l.1 (by decide) _ _⟩
  · rw [show unlockM D.m d k = D.m from if_neg hl]
    have HL := Lib.hid (leave_no (w := w.drew) (g := g) (o := k * 4) d hl p0 (pf (k * 4)))
    clear hl
    go_enter Tryz.func52, Tryz.ntmps52
    go_still_tail 14, (by kernel_rfl)
    change wpList _ _ _ _ _ w.drew
    replace h := h.below k0
    replace ho := ho.below k0
    clear p0 pf
    have k1 : Wd B w w.drew := .of_new k0 hB
    generalize w.drew = w0 at k0 k1 h ho HL ⊢
    go_wp2_with fail
    go_at_call 82; refine HL.out.mono ?_; rintro e w1 ⟨rfl, hw⟩
    subst hw
    go_wp2
    go_end0
    exact ⟨rfl, h, k1⟩

set_option maxRecDepth 100000 in
set_option maxHeartbeats 2000000 in
theorem lockD_any {w : World} {B mb db k : Nat} {a b c d : Int} {D : Dn} (q : Int) (hB : B ≤ w.heap.size) (hk : k < D.m.pn) (h : DeedX w B mb db a b c d D) :
    Calls Tryz.prog 49 #[ptrV db, .int .i64 (k : Int), .int .i64 q] w fun e w' => e = .returned (.tuple #[]) ∧ InD B mb db a b c d (lockD D d k q) w w' := by
  obtain ⟨d0, d1, _, _, _, _, _, _, _, hf⟩ := h.cells
  obtain ⟨tv, g, V, ho⟩ := h.o.opened
  obtain ⟨m0, m1, m2, m3, m4, m5⟩ := six ho.m
  obtain ⟨p0, _, _, _⟩ := ho.l.cells hk
  have pf := ho.l.free
  have i2 : (0 : Int) ≤ (k : Int) := by omega
  have i3 : (k : Int) < (D.m.pn : Int) := by omega
  by_cases hl : (D.m.p k).l = -1
  · have E : lockD D d k q = ⟨setPc D.m k 1 d, { D.h with pos := q }, D.v⟩ := if_pos hl
    rw [E]
    have HL := Lib.hid (fun (w' : World) (hb : Below w.heap.size w w') => take_yes (w := w') (g := g) (o := k * 4) d ((hb.cell (p := ⟨g, k * 4, none⟩) ho.l.lt).trans (hl ▸ p0)) (by rw [(bcell hb).2 g (k * 4) ho.l.lt]; exact pf (k * 4)))
    clear hl E
    go_enter Tryz.func49, Tryz.ntmps49
    go_upto_region 0 with fail
    go_still_tail 14, (by kernel_rfl)
    change wpList _ _ _ _ _ w.drew
    have k0 := (Below.refl w.heap.size w).drew
    generalize w.drew = w0 at k0 ⊢
    go_wp2_with fail
    go_at_call 78; refine (HL.out _ k0).mono ?_; rintro e w2 ⟨rfl, w1, hb, hw⟩
    subst hw
    replace hb := k0.trans (hb.mono k0.size)
    have h1 := h.below hb
    have o1 := ho.below hb
    have k1 : Wd B w w1 := .of_new hb hB
    obtain ⟨cs, hcs⟩ := o1.l.hh
    have h2 := h1.mem (heap_set1 w1 g _ _ db (ne_ty h1.e hcs (by decide))) (o1.setL hk d).own
    have k2 := k1.set hcs o1.l.1 (by decide) (k * 4) (.int .i64 d)
    clear h ho h1 o1 hcs k1 hb d0 d1 m0 m1 m2 m3 m4 m5 p0 pf hf
    generalize w1.setCell ⟨g, k * 4, none⟩ (.int .i64 d) = w2 at h2 k2 ⊢
    obtain ⟨d0, d1, d2, _, _, _, _, _, _, hf⟩ := h2.cells
    have h3 := h2.setPos q
    have k3 := k2.setD h2 2 (.int .i64 q)
    clear h2 k2
    go_wp2
    go_end0
    exact ⟨rfl, h3, k3⟩
  · have E : lockD D d k q = D := if_neg hl
    rw [E]
    have HL := Lib.hid (fun (w' : World) (hb : Below w.heap.size w w') => take_no (w := w') (g := g) (o := k * 4) d hl ((hb.cell (p := ⟨g, k * 4, none⟩) ho.l.lt).trans p0) (by rw [(bcell hb).2 g (k * 4) ho.l.lt]; exact pf (k * 4)))
    clear hl E
    go_enter Tryz.func49, Tryz.ntmps49
    go_upto_region 0 with fail
    go_still_tail 14, (by kernel_rfl)
    change wpList _ _ _ _ _ w.drew
    have k0 := (Below.refl w.heap.size w).drew
    generalize w.drew = w0 at k0 ⊢
    go_wp2_with fail
    go_at_call 78; refine (HL.out _ k0).mono ?_; rintro e w1 ⟨rfl, hb⟩
    replace hb := k0.trans (hb.mono k0.size)
    have h1 := h.below hb
    have k1 : Wd B w w1 := .of_new hb hB
    go_wp2
    go_end0
    exact ⟨rfl, h1, k1⟩

set_option maxRecDepth 100000 in
set_option maxHeartbeats 2000000 in
theorem replyArmed_any {w : World} {B mb db : Nat} {a b c d : Int} {D : Dn} (hB : B ≤ w.heap.size) (h : DeedX w B mb db a b c d D) :
    Calls Tryz.prog 53 #[ptrV db] w fun e w' => e = .returned (.tuple #[]) ∧ InD B mb db a b c d ⟨D.m, if D.h.call.code = 3 then restHd 3 0 else restHd 1 (maxI D.h.tim 0), D.v⟩ w w' := by
  obtain ⟨_, _, _, d3, _, _, _, d7, _, hf⟩ := h.cells
  have H := Lib.hid (fun r o => reply_any r o hB h)
  clear h
  by_cases hc : D.h.call.code = 3
  · rw [if_pos hc]
    have hc1 : (D.h.call.code == 3) = true := by simpa using hc
    clear hc
    go_enter Tryz.func53, Tryz.ntmps53
    go_wp2_with (go_at_call 76; refine (H.out _ _).mono ?_; rintro e w1 ⟨rfl, hi⟩)
    first | go_end0 | refine bodyPost_ret (results_none rfl _ _ _) rfl ?_
    exact ⟨rfl, hi⟩
  · rw [if_neg hc]
    have hc1 : (D.h.call.code == 3) = false := by simpa using hc
    clear hc
    by_cases ht : D.h.tim < 0
    · have em : maxI D.h.tim 0 = 0 := by unfold maxI; split <;> omega
      have ht1 : decide (D.h.tim < 0) = true := by simpa using ht
      rw [em]
      go_enter Tryz.func53, Tryz.ntmps53
      go_wp2_with (go_at_call 76; refine (H.out _ _).mono ?_; rintro e w1 ⟨rfl, hi⟩)
      first | go_end0 | refine bodyPost_ret (results_none rfl _ _ _) rfl ?_
      exact ⟨rfl, hi⟩
    · have em : maxI D.h.tim 0 = D.h.tim := by unfold maxI; split <;> omega
      have ht1 : decide (D.h.tim < 0) = false := by simpa using ht
      rw [em]
      go_enter Tryz.func53, Tryz.ntmps53
      go_wp2_with (go_at_call 76; refine (H.out _ _).mono ?_; rintro e w1 ⟨rfl, hi⟩)
      first | go_end0 | refine bodyPost_ret (results_none rfl _ _ _) rfl ?_
      exact ⟨rfl, hi⟩

end Go.Proofs.YtcfkginbkammoaaGreat

/-
  A memory, copied; and later (spec, chapter 5).
-/
namespace Go.Proofs.YtcfkginbkammoaaGreat
open Go.RowKit Go.Joins
set_option linter.unusedVariables false

theorem OwnRow.set4 {w : World} {B n b : Nat} {v : Value} {f : Slots} (h : OwnRow w B v n f) (hb : b < B) (x y z u : Value) :
    OwnRow ((((w.setCell ⟨b, 0, none⟩ x).setCell ⟨b, 1, none⟩ y).setCell ⟨b, 2, none⟩ z).setCell ⟨b, 3, none⟩ u) B v n f := (((h.set hb 0 x).set hb 1 y).set hb 2 z).set hb 3 u
theorem b_set4 {W w : World} {n g : Nat} (h : Below n W w) (hg : n ≤ g) (x y z u : Value) : Below n W ((((w.setCell ⟨g, 0, none⟩ x).setCell ⟨g, 1, none⟩ y).setCell ⟨g, 2, none⟩ z).setCell ⟨g, 3, none⟩ u) :=
  (((h.setCell (p := ⟨g, 0, none⟩) hg x).setCell (p := ⟨g, 1, none⟩) hg y).setCell (p := ⟨g, 2, none⟩) hg z).setCell (p := ⟨g, 3, none⟩) hg u

set_option maxRecDepth 100000 in
set_option maxHeartbeats 2000000 in
theorem l4Copy_any {v : Value} {n : Nat} {f : Slots} (l e d : Int) {w : World} (hn : n ≤ 1048576) (h : RowAt w v n f) :
    Calls Tryz.prog 42 #[prV v l e d] w fun x w' => ∃ u, x = .returned (prV u l e d) ∧ OwnRow w' w.heap.size u n f ∧ Below w.heap.size w w' := by
  have k0 := (Below.refl w.heap.size w).alloc (Nat.le_refl _) (.cells #[v, .int .i64 l, .int .i64 e, .int .i64 d] 87)
  have e0 : (w.alloc (.cells #[v, .int .i64 l, .int .i64 e, .int .i64 d] 87)).heap.size = w.heap.size + 1 := by simp
  have k1 := k0.alloc k0.size (.cells #[.slice none 0 0, .int .i64 0, .int .i64 0, .int .i64 0] 87)
  have hA := alloc_block (.cells #[.slice none 0 0, .int .i64 0, .int .i64 0, .int .i64 0] 87) (heap_alloc_new w (.cells #[v, .int .i64 l, .int .i64 e, .int .i64 d] 87))
  have hR := heap_alloc_new (w.alloc (.cells #[v, .int .i64 l, .int .i64 e, .int .i64 d] 87)) (.cells #[.slice none 0 0, .int .i64 0, .int .i64 0, .int .i64 0] 87)
  rw [e0] at hR
  have lA := lt_of_block hA
  have lR := lt_of_block hR
  have HR := Lib.hid (h.below k1)
  obtain ⟨va, vc, hv⟩ := h.form
  clear h
  subst hv
  go_enter Tryz.func42, Tryz.ntmps42
  go_wp2_with fail
  go_at_call 71; refine (l2Copy_any hn HR.out).mono ?_; rintro x w1 ⟨u, rfl, hO, hb⟩
  have hA1 := b_block hb hA lA
  have hR1 := b_block hb hR lR
  have k2 := k1.trans (hb.mono k1.size)
  replace hO := hO.mono (B' := w.heap.size + 1 + 1) (by simp)
  obtain ⟨ua, uc, hu⟩ := hO.row.form
  obtain ⟨a0, a1, a2, a3, af0, af1, af2, af3⟩ := four hA1
  obtain ⟨r0, r1, r2, r3, rf0, rf1, rf2, rf3⟩ := four hR1
  have k3 := k2.setCell (p := ⟨w.heap.size, 0, none⟩) (Nat.le_refl _) u
  have hO2 := hO.set (b := w.heap.size) (by omega) 0 u
  clear hb hA hR HR k0 k1 hA1 hR1 e0 lA lR hO
  subst hu
  go_wp2
  exact bodyPost_ret (v := prV (.slice ua n uc) l e d) (by simp [results, Tryz.results42, go_sem, r0, r1, r2, r3]) rfl ⟨_, rfl, (hO2.set4 (by omega) _ _ _ _).mono (by omega), b_set4 k3 (Nat.le_succ _) _ _ _ _⟩

theorem ne_of_type {w : World} {g b : Nat} {cs cs' : Array Value} {t t' : TypeId} (h : w.heap[g]? = some (.cells cs t (0, 0))) (h' : w.heap[b]? = some (.cells cs' t' (0, 0))) (hn : t ≠ t') : g ≠ b := by
  rintro rfl
  rw [h] at h'
  injection h' with h'
  injection h' with _ h2 _
  exact hn h2
theorem OwnTRow.setMem {w : World} {B b n : Nat} {v : Value} {f : Tms} {cs : Array Value} (h : OwnTRow w B v n f) (hz : w.heap[b]? = some (.cells cs 36 (0, 0))) (x y z : Value) :
    OwnTRow (((w.setCell ⟨b, 0, none⟩ x).setCell ⟨b, 1, none⟩ y).setCell ⟨b, 2, none⟩ z) B v n f := by
  rcases h with h | ⟨g, cap, e, h⟩
  · exact .inl h
  · have hne : g ≠ b := by
      obtain ⟨_, _, _, cur, hh, _⟩ := h
      exact ne_of_type hh hz (by decide)
    exact .inr ⟨g, cap, e, h.block ((Below.heap_setCell _ ⟨b, 2, none⟩ z g hne).trans ((Below.heap_setCell _ ⟨b, 1, none⟩ y g hne).trans (Below.heap_setCell _ ⟨b, 0, none⟩ x g hne)))⟩
theorem OwnPIn.own {w : World} {B C m : Nat} {v : Value} {P : Pcs} (h : OwnPIn w B C v m P) : OwnPRow w B v m P := by
  rcases h with h | ⟨g, cap, V, e, h, _⟩
  · exact .inl h
  · exact .inr ⟨g, cap, V, e, h⟩
theorem OwnTIn.setM {w : World} {B C b n : Nat} {v : Value} {f : Tms} {cs : Array Value} (h : OwnTIn w B C v n f) (hz : w.heap[b]? = some (.cells cs 36 (0, 0))) (o : Nat) (x : Value) :
    OwnTIn (w.setCell ⟨b, o, none⟩ x) B C v n f := by
  rcases h with h | ⟨g, cap, e, h, hC⟩
  · exact .inl h
  · have hne : g ≠ b := by
      obtain ⟨_, _, _, cur, hh, _⟩ := h
      exact ne_of_type hh hz (by decide)
    exact .inr ⟨g, cap, e, h.block (Below.heap_setCell _ ⟨b, o, none⟩ x g hne), hC⟩
theorem OwnTRow.innAt {w : World} {B C n : Nat} {v : Value} {f : Tms} (h : OwnTRow w B v n f) (hC : C = w.heap.size) : OwnTIn w B C v n f := by
  subst hC
  rcases h with h | ⟨g, cap, e, h⟩
  · exact .inl h
  · exact .inr ⟨g, cap, e, h, h.lt⟩
theorem OwnTIn.own {w : World} {B C n : Nat} {v : Value} {f : Tms} (h : OwnTIn w B C v n f) : OwnTRow w B v n f := by
  rcases h with h | ⟨g, cap, e, h, _⟩
  · exact .inl h
  · exact .inr ⟨g, cap, e, h⟩
theorem OwnMem.setM {w : World} {B b : Nat} {tv pv : Value} {N : Me} {cs : Array Value} (h : OwnMem w B tv pv N) (hz : w.heap[b]? = some (.cells cs 36 (0, 0))) (o : Nat) (x : Value) : OwnMem (w.setCell ⟨b, o, none⟩ x) B tv pv N := by
  have s := (KeepsBut.refl [36] w).set hz (by decide) o x
  exact ⟨(h.inn.1.keeps s (by decide)).own, (h.inn.2.keeps s (by decide) (by decide)).own⟩
theorem OwnRow.block_ge {w : World} {B n : Nat} {v : Value} {f : Slots} (h : OwnRow w B v n f) : ∀ x, v.ownBlock = some x → B ≤ x := by
  intro x hx
  rcases h with ⟨_, rfl⟩ | ⟨g, cap, rfl, h⟩
  · simp [Value.ownBlock] at hx
  · simp [Value.ownBlock] at hx
    subst hx
    exact h.1
theorem block_set3 {w : World} {b : Nat} {x y z x' y' z' : Value} {t : TypeId} (h : w.heap[b]? = some (.cells #[x, y, z] t (0, 0))) :
    (((w.setCell ⟨b, 0, none⟩ x').setCell ⟨b, 1, none⟩ y').setCell ⟨b, 2, none⟩ z').heap[b]? = some (.cells #[x', y', z'] t (0, 0)) := block_setCell (i := 2) (block_setCell (i := 1) (block_setCell (i := 0) h x') y') z'

end Go.Proofs.YtcfkginbkammoaaGreat
