/-
  errors.As, walked, at what the program hands it (chapter 10).
-/
import Derived.Test.YtflekodaiejflaaGreatDoorR13
import Derived.Test.YtflekodaiejflaaGreatDoorR01
import Derived.Test.YtflekodaiejflaaGreatDoorR04
import Derived.Test.YtflekodaiejflaaGreatDoorR07
import Derived.Test.YtflekodaiejflaaGreatDoorR10
import Derived.Test.YtflekodaiejflaaGreatDoorR11
import Derived.OpenShut
import Derived.ChangeOld
import Derived.Deep.SlicePairs
import Derived.Test.YtflekodaiejflaaGreatDoorR09
namespace Go.Proofs.YtflekodaiejflaaGreatDoor
open Go.RowKit Go.Joins Go.Extern.Stop Go.Stop Go.Extern
set_option linter.unusedVariables false
set_option linter.unusedSimpArgs false

end Go.Proofs.YtflekodaiejflaaGreatDoor

/-
  The program's errors of stopping: where they lie; which a status is (chapter 10).
-/
namespace Go.Proofs.YtflekodaiejflaaGreatDoor
open Go.RowKit Go.Joins
set_option linter.unusedVariables false
set_option linter.unusedSimpArgs false

/-- the three errors lie in memory, and the type that errors.As asks for -/
structure ErrsAt (w : World) (eb es en : Addr) : Prop where
  gb : w.cell? ⟨0, 0, none⟩ = some (esI eb)
  gs : w.cell? ⟨1, 0, none⟩ = some (esI es)
  gn : w.cell? ⟨2, 0, none⟩ = some (esI en)
  gt : w.cell? ⟨3, 0, none⟩ = some (.iface 173 (.agg #[.pointer (some ⟨4, 112, none⟩)]))
  ob : ∃ c t, w.heap[eb.block]? = some (.cells c t (0, 0))
  os : ∃ c t, w.heap[es.block]? = some (.cells c t (0, 0))
  on : ∃ c t, w.heap[en.block]? = some (.cells c t (0, 0))
  bs : es ≠ eb
  bn : en ≠ eb
/-- the three errors alone -/
structure ErrsLo (w : World) (eb es en : Addr) : Prop where
  gb : w.cell? ⟨0, 0, none⟩ = some (esI eb)
  gs : w.cell? ⟨1, 0, none⟩ = some (esI es)
  gn : w.cell? ⟨2, 0, none⟩ = some (esI en)
  ob : ∃ c t, w.heap[eb.block]? = some (.cells c t (0, 0))
  os : ∃ c t, w.heap[es.block]? = some (.cells c t (0, 0))
  on : ∃ c t, w.heap[en.block]? = some (.cells c t (0, 0))
  bs : es ≠ eb
  bn : en ≠ eb
  sn : en ≠ es
theorem ErrsLo.below {w w' : World} {eb es en : Addr} (h : ErrsLo w eb es en) (hb : Below w.heap.size w w') : ErrsLo w' eb es en := by
  have key : ∀ {g : Nat} {v : Value}, w.cell? ⟨g, 0, none⟩ = some v → w'.cell? ⟨g, 0, none⟩ = some v := fun {g v} e => (hb.cell (p := ⟨g, 0, none⟩) (World.block_lt_of_cell? w ⟨g, 0, none⟩ e)).trans e
  have kob : ∀ {a : Addr}, (∃ c t, w.heap[a.block]? = some (.cells c t (0, 0))) → ∃ c t, w'.heap[a.block]? = some (.cells c t (0, 0)) := fun ⟨c, t, e⟩ => ⟨c, t, b_block hb e (lt_of_block e)⟩
  exact ⟨key h.gb, key h.gs, key h.gn, kob h.ob, kob h.os, kob h.on, h.bs, h.bn, h.sn⟩
theorem ErrsAt.below {w w' : World} {eb es en : Addr} (h : ErrsAt w eb es en) (hb : Below w.heap.size w w') : ErrsAt w' eb es en := by
  have key : ∀ {g : Nat} {v : Value}, w.cell? ⟨g, 0, none⟩ = some v → w'.cell? ⟨g, 0, none⟩ = some v := fun {g v} e => (hb.cell (p := ⟨g, 0, none⟩) (World.block_lt_of_cell? w ⟨g, 0, none⟩ e)).trans e
  have kob : ∀ {a : Addr}, (∃ c t, w.heap[a.block]? = some (.cells c t (0, 0))) → ∃ c t, w'.heap[a.block]? = some (.cells c t (0, 0)) := fun ⟨c, t, e⟩ => ⟨c, t, b_block hb e (lt_of_block e)⟩
  exact ⟨key h.gb, key h.gs, key h.gn, key h.gt, kob h.ob, kob h.os, kob h.on, h.bs, h.bn⟩

/-- which error a status is -/
def canV (eb es : Addr) (s : Int) : Value := if s = 1 ∨ s = 3 ∨ s = 4 then .nilIface else if s = 2 ∨ s = 6 then seI s eb else seI s es

set_option maxRecDepth 100000 in
set_option maxHeartbeats 4000000 in
theorem canBe_of {eb es en : Addr} (s : Int) {w : World} (hg : w.cell? ⟨0, 0, none⟩ = some (esI eb)) (hs : w.cell? ⟨1, 0, none⟩ = some (esI es)) :
    Calls Tryz.prog 109 #[.int .i64 s] w fun e w' => e = .returned (canV eb es s) ∧ Below w.heap.size w w' := by
  by_cases h1 : s = 1
  · subst h1
    rw [show canV eb es 1 = .nilIface from by simp [canV]]
    go_enter Tryz.func109, Tryz.ntmps109
    go_wp2
    go_ret
    exact ⟨rfl, by first | exact Below.refl _ _ | exact (Below.refl _ _).alloc (Nat.le_refl _) _⟩
  by_cases h3 : s = 3
  · subst h3
    rw [show canV eb es 3 = .nilIface from by simp [canV]]
    go_enter Tryz.func109, Tryz.ntmps109
    go_wp2
    go_ret
    exact ⟨rfl, by first | exact Below.refl _ _ | exact (Below.refl _ _).alloc (Nat.le_refl _) _⟩
  by_cases h4 : s = 4
  · subst h4
    rw [show canV eb es 4 = .nilIface from by simp [canV]]
    go_enter Tryz.func109, Tryz.ntmps109
    go_wp2
    go_ret
    exact ⟨rfl, by first | exact Below.refl _ _ | exact (Below.refl _ _).alloc (Nat.le_refl _) _⟩
  by_cases h2 : s = 2
  · subst h2
    rw [show canV eb es 2 = seI 2 eb from by simp [canV]]
    go_enter Tryz.func109, Tryz.ntmps109
    go_wp2
    go_ret
    exact ⟨rfl, by first | exact Below.refl _ _ | exact (Below.refl _ _).alloc (Nat.le_refl _) _⟩
  by_cases h6 : s = 6
  · subst h6
    rw [show canV eb es 6 = seI 6 eb from by simp [canV]]
    go_enter Tryz.func109, Tryz.ntmps109
    go_wp2
    go_ret
    exact ⟨rfl, by first | exact Below.refl _ _ | exact (Below.refl _ _).alloc (Nat.le_refl _) _⟩
  rw [show canV eb es s = seI s es from by simp [canV, h1, h2, h3, h4, h6]]
  have b1 : (s == 1) = false := by simpa using h1
  have b2 : (s == 2) = false := by simpa using h2
  have b3 : (s == 3) = false := by simpa using h3
  have b4 : (s == 4) = false := by simpa using h4
  have b6 : (s == 6) = false := by simpa using h6
  go_enter Tryz.func109, Tryz.ntmps109
  go_wp2
  go_ret
  exact ⟨rfl, by first | exact Below.refl _ _ | exact (Below.refl _ _).alloc (Nat.le_refl _) _⟩

/-- which error a timer is -/
def canM (eb es en : Addr) (M : Me) (t : Int) : Value := if hasT M t then canV eb es (M.t t.toNat).st else esI en

set_option maxRecDepth 100000 in
set_option maxHeartbeats 4000000 in
theorem canMem_of {B mb : Nat} {a b c : Int} {M : Me} {eb es en : Addr} (t : Int) {w : World} (hn : M.tn ≤ 1048576) (ho : OwnedAt w B mb a b c M) (hgb : w.cell? ⟨0, 0, none⟩ = some (esI eb)) (hgs : w.cell? ⟨1, 0, none⟩ = some (esI es)) (hgn : w.cell? ⟨2, 0, none⟩ = some (esI en)) :
    Calls Tryz.prog 74 #[ptrV mb, .int .i64 t] w fun e w' => e = .returned (canM eb es en M t) ∧ Below w.heap.size w w' := by
  have HA := Lib.hid (hasTimer_any hn ho.seen t)
  cases ht : hasT M t
  · rw [show canM eb es en M t = esI en by unfold canM; rw [ht]; rfl]
    rw [ht] at HA
    go_enter Tryz.func74, Tryz.ntmps74
    go_upto_region 1 with fail
    go_wp2_with fail
    go_at_call 105; refine HA.out.mono ?_; rintro e w1 ⟨rfl, hb⟩
    have gn := (hb.cell (p := ⟨2, 0, none⟩) (World.block_lt_of_cell? w ⟨_, 0, none⟩ hgn)).trans hgn
    go_wp2
    go_ret
    exact ⟨rfl, hb⟩
  · have h01 := inB_iff.1 (show inB t 0 ((M.tn : Int) - 1) = true from ht)
    obtain ⟨k, rfl⟩ : ∃ k : Nat, t = (k : Int) := ⟨t.toNat, by omega⟩
    have hk : k < M.tn := by omega
    rw [show canM eb es en M (k : Int) = canV eb es (M.t k).st by unfold canM; rw [ht]; simp]
    rw [ht] at HA
    obtain ⟨tv, g, V, hop⟩ := ho.opened
    go_enter Tryz.func74, Tryz.ntmps74
    go_upto_region 1 with fail
    go_wp2_with fail
    go_at_call 105; refine HA.out.mono ?_; rintro e w1 ⟨rfl, hb⟩
    have h1 := hop.below hb
    obtain ⟨tg, tc, rfl⟩ := h1.tms hk
    obtain ⟨m0, m1, m2, m3, m4, m5⟩ := six h1.m
    obtain ⟨⟨t0, _, _, _, _, _, _, _⟩, _⟩ := h1.tcells hk
    have i2 : (0 : Int) ≤ (k : Int) := by omega
    have i3 : (k : Int) < (M.tn : Int) := by omega
    have HC := Lib.hid (canBe_of (en := en) (M.t k).st ((hb.cell (p := ⟨0, 0, none⟩) (World.block_lt_of_cell? w ⟨_, 0, none⟩ hgb)).trans hgb) ((hb.cell (p := ⟨1, 0, none⟩) (World.block_lt_of_cell? w ⟨_, 0, none⟩ hgs)).trans hgs))
    clear h1 hop HA
    go_wp2_with (go_at_call 109; refine HC.out.mono ?_; rintro e w2 ⟨rfl, hb2⟩)
    go_ret
    exact ⟨rfl, hb.trans (hb2.mono hb.size)⟩

theorem canMem_lo {B mb : Nat} {a b c : Int} {M : Me} {eb es en : Addr} (t : Int) {w : World} (hn : M.tn ≤ 1048576) (ho : OwnedAt w B mb a b c M) (hE : ErrsLo w eb es en) :
    Calls Tryz.prog 74 #[ptrV mb, .int .i64 t] w fun e w' => e = .returned (canM eb es en M t) ∧ Below w.heap.size w w' := canMem_of t hn ho hE.gb hE.gs hE.gn

/-- what a timer is set to -/
def setToT (t : Tm) : Int := if t.st = 3 ∨ t.st = 4 then t.nx else t.wh
set_option maxRecDepth 100000 in
set_option maxHeartbeats 4000000 in
theorem setTo_any (t : Tm) (w : World) :
    Calls Tryz.prog 111 #[tmV t] w fun e w' => e = .returned (.int .i64 (setToT t)) ∧ Below w.heap.size w w' := by
  have k0 := (Below.refl w.heap.size w).alloc (Nat.le_refl _) (.cells #[.int .i64 t.st, .int .i64 t.wh, .int .i64 t.nx, .int .i64 t.pe, .int .i64 t.pl, .int .i64 t.ge, .int .i64 t.ki, .int .i64 t.ma] 80)
  obtain ⟨st, wh, nx, pe, pl, ge, ki, ma⟩ := t
  by_cases h3 : st = 3
  · subst h3
    rw [show setToT ⟨3, wh, nx, pe, pl, ge, ki, ma⟩ = nx by simp [setToT]]
    go_enter Tryz.func111, Tryz.ntmps111
    go_wp2
    go_ret
    exact ⟨rfl, k0⟩
  by_cases h4 : st = 4
  · subst h4
    rw [show setToT ⟨4, wh, nx, pe, pl, ge, ki, ma⟩ = nx by simp [setToT]]
    go_enter Tryz.func111, Tryz.ntmps111
    go_wp2
    go_ret
    exact ⟨rfl, k0⟩
  rw [show setToT ⟨st, wh, nx, pe, pl, ge, ki, ma⟩ = wh by simp [setToT, h3, h4]]
  have b3 : (st == 3) = false := by simpa using h3
  have b4 : (st == 4) = false := by simpa using h4
  go_enter Tryz.func111, Tryz.ntmps111
  go_wp2
  go_ret
  exact ⟨rfl, k0⟩

end Go.Proofs.YtflekodaiejflaaGreatDoor

/-
  Is a step fit, in the program (chapter 9).
-/
namespace Go.Proofs.YtflekodaiejflaaGreatDoor
open Go.Deep Go.ChangeShapes Go.WideShapes Go.ChangeAt Go.RowKit Go.Joins
set_option linter.unusedVariables false
set_option linter.unusedSimpArgs false

set_option maxRecDepth 100000 in
set_option maxHeartbeats 8000000 in
theorem imFit_any (a b c d : Int) (h : Hd) {tv pv : Value} {M : Me} {w : World} (hs : sizeM M ≤ 1048576) (hm : MemAt w tv pv M) :
    Calls Tryz.prog 71 #[.agg #[.int .i64 a, .int .i64 b, .int .i64 c], meV M.c tv pv, .int .i64 d, hdV h] w fun e w' => e = .returned (.bool (stepFit a b c d M h)) ∧ Below w.heap.size w w' := by
  obtain ⟨va, vc, qa, qc, rfl, rfl⟩ := hm.form
  have hn := (sizeM_le hs).1
  have k0 := ((((Below.refl w.heap.size w).alloc (Nat.le_refl _) (.cells #[.int .i64 a, .int .i64 b, .int .i64 c] 46)).alloc (by simp) (.cells #[.int .i64 M.c, .slice va M.tn vc, .slice qa M.pn qc] 36)).alloc (by simp; omega) (.cells #[.int .i64 h.pos, .int .i64 h.call.code, .int .i64 h.call.a, .int .i64 h.call.b, .int .i64 h.call.c, .int .i64 h.tim, .int .i64 h.whe, .bool h.had, .int .i64 h.cnt, .int .i64 h.beg, .int .i64 h.rep, .int .i64 h.out] 39))
  have HM := Lib.hid (hm.below k0)
  clear hm
  cases h1 : memOkB a b c M
  · skip
    go_enter Tryz.func71, Tryz.ntmps71
    go_wp2_with fail
    go_at_call 101; refine (seen_any a b c hs HM.out).mono ?_; rintro x w1 ⟨mb, rfl, hS, hb⟩
    have HS := Lib.hid hS
    have HK := Lib.hid (k0.trans (hb.mono k0.size))
    have kk := Below.refl w1.heap.size w1
    obtain ⟨hc, hf⟩ := bcell hb
    have hz := hb.size
    simp at hz
    have lz0 : w.heap.size < w1.heap.size := by omega
    have lz1 : w.heap.size + 1 < w1.heap.size := by omega
    have lz2 : w.heap.size + 1 + 1 < w1.heap.size := by omega
    clear hS hb k0 hz
    go_wp2_with (first
      | (go_at_call 102; refine (memRight_any hs (HS.out.below kk)).mono ?_; rintro e w2 ⟨rfl, hb⟩; replace kk := kk.trans (hb.mono kk.size); clear hb; obtain ⟨hc2, hf2⟩ := bcell kk)
      | (go_at_call 103; refine (imHandOk_any _ _ _ _ _).mono ?_; rintro e w2 ⟨rfl, hb⟩; replace kk := kk.trans (hb.mono kk.size); clear hb; (try clear hc2 hf2); obtain ⟨hc2, hf2⟩ := bcell kk)
      | (go_at_call 104; refine (hasWorker_any _ _ _ _ _).mono ?_; rintro e w2 ⟨rfl, hb⟩; replace kk := kk.trans (hb.mono kk.size); clear hb; (try clear hc2 hf2); obtain ⟨hc2, hf2⟩ := bcell kk)
      | (go_at_call 105; refine (hasTimer_any hn (HS.out.below kk) _).mono ?_; rintro e w2 ⟨rfl, hb⟩; replace kk := kk.trans (hb.mono kk.size); clear hb; (try clear hc2 hf2); obtain ⟨hc2, hf2⟩ := bcell kk))
    go_ret
    exact ⟨ret_bool' (by simp [stepFit, h1]), HK.out.trans (kk.mono HK.out.size)⟩
  cases h2 : handB a b c h
  · skip
    go_enter Tryz.func71, Tryz.ntmps71
    go_wp2_with fail
    go_at_call 101; refine (seen_any a b c hs HM.out).mono ?_; rintro x w1 ⟨mb, rfl, hS, hb⟩
    have HS := Lib.hid hS
    have HK := Lib.hid (k0.trans (hb.mono k0.size))
    have kk := Below.refl w1.heap.size w1
    obtain ⟨hc, hf⟩ := bcell hb
    have hz := hb.size
    simp at hz
    have lz0 : w.heap.size < w1.heap.size := by omega
    have lz1 : w.heap.size + 1 < w1.heap.size := by omega
    have lz2 : w.heap.size + 1 + 1 < w1.heap.size := by omega
    clear hS hb k0 hz
    go_wp2_with (first
      | (go_at_call 102; refine (memRight_any hs (HS.out.below kk)).mono ?_; rintro e w2 ⟨rfl, hb⟩; replace kk := kk.trans (hb.mono kk.size); clear hb; obtain ⟨hc2, hf2⟩ := bcell kk)
      | (go_at_call 103; refine (imHandOk_any _ _ _ _ _).mono ?_; rintro e w2 ⟨rfl, hb⟩; replace kk := kk.trans (hb.mono kk.size); clear hb; (try clear hc2 hf2); obtain ⟨hc2, hf2⟩ := bcell kk)
      | (go_at_call 104; refine (hasWorker_any _ _ _ _ _).mono ?_; rintro e w2 ⟨rfl, hb⟩; replace kk := kk.trans (hb.mono kk.size); clear hb; (try clear hc2 hf2); obtain ⟨hc2, hf2⟩ := bcell kk)
      | (go_at_call 105; refine (hasTimer_any hn (HS.out.below kk) _).mono ?_; rintro e w2 ⟨rfl, hb⟩; replace kk := kk.trans (hb.mono kk.size); clear hb; (try clear hc2 hf2); obtain ⟨hc2, hf2⟩ := bcell kk))
    go_ret
    exact ⟨ret_bool' (by simp [stepFit, h1, h2]), HK.out.trans (kk.mono HK.out.size)⟩
  cases h3 : workB a b c d
  · skip
    go_enter Tryz.func71, Tryz.ntmps71
    go_wp2_with fail
    go_at_call 101; refine (seen_any a b c hs HM.out).mono ?_; rintro x w1 ⟨mb, rfl, hS, hb⟩
    have HS := Lib.hid hS
    have HK := Lib.hid (k0.trans (hb.mono k0.size))
    have kk := Below.refl w1.heap.size w1
    obtain ⟨hc, hf⟩ := bcell hb
    have hz := hb.size
    simp at hz
    have lz0 : w.heap.size < w1.heap.size := by omega
    have lz1 : w.heap.size + 1 < w1.heap.size := by omega
    have lz2 : w.heap.size + 1 + 1 < w1.heap.size := by omega
    clear hS hb k0 hz
    go_wp2_with (first
      | (go_at_call 102; refine (memRight_any hs (HS.out.below kk)).mono ?_; rintro e w2 ⟨rfl, hb⟩; replace kk := kk.trans (hb.mono kk.size); clear hb; obtain ⟨hc2, hf2⟩ := bcell kk)
      | (go_at_call 103; refine (imHandOk_any _ _ _ _ _).mono ?_; rintro e w2 ⟨rfl, hb⟩; replace kk := kk.trans (hb.mono kk.size); clear hb; (try clear hc2 hf2); obtain ⟨hc2, hf2⟩ := bcell kk)
      | (go_at_call 104; refine (hasWorker_any _ _ _ _ _).mono ?_; rintro e w2 ⟨rfl, hb⟩; replace kk := kk.trans (hb.mono kk.size); clear hb; (try clear hc2 hf2); obtain ⟨hc2, hf2⟩ := bcell kk)
      | (go_at_call 105; refine (hasTimer_any hn (HS.out.below kk) _).mono ?_; rintro e w2 ⟨rfl, hb⟩; replace kk := kk.trans (hb.mono kk.size); clear hb; (try clear hc2 hf2); obtain ⟨hc2, hf2⟩ := bcell kk))
    go_ret
    exact ⟨ret_bool' (by simp [stepFit, h1, h2, h3]), HK.out.trans (kk.mono HK.out.size)⟩
  by_cases h4 : h.tim = -1
  case pos =>
    have h4b : (h.tim == -1) = true := by simpa using h4
    have H4 := Lib.hid h4
    clear h4
    go_enter Tryz.func71, Tryz.ntmps71
    go_wp2_with fail
    go_at_call 101; refine (seen_any a b c hs HM.out).mono ?_; rintro x w1 ⟨mb, rfl, hS, hb⟩
    have HS := Lib.hid hS
    have HK := Lib.hid (k0.trans (hb.mono k0.size))
    have kk := Below.refl w1.heap.size w1
    obtain ⟨hc, hf⟩ := bcell hb
    have hz := hb.size
    simp at hz
    have lz0 : w.heap.size < w1.heap.size := by omega
    have lz1 : w.heap.size + 1 < w1.heap.size := by omega
    have lz2 : w.heap.size + 1 + 1 < w1.heap.size := by omega
    clear hS hb k0 hz
    go_wp2_with (first
      | (go_at_call 102; refine (memRight_any hs (HS.out.below kk)).mono ?_; rintro e w2 ⟨rfl, hb⟩; replace kk := kk.trans (hb.mono kk.size); clear hb; obtain ⟨hc2, hf2⟩ := bcell kk)
      | (go_at_call 103; refine (imHandOk_any _ _ _ _ _).mono ?_; rintro e w2 ⟨rfl, hb⟩; replace kk := kk.trans (hb.mono kk.size); clear hb; (try clear hc2 hf2); obtain ⟨hc2, hf2⟩ := bcell kk)
      | (go_at_call 104; refine (hasWorker_any _ _ _ _ _).mono ?_; rintro e w2 ⟨rfl, hb⟩; replace kk := kk.trans (hb.mono kk.size); clear hb; (try clear hc2 hf2); obtain ⟨hc2, hf2⟩ := bcell kk)
      | (go_at_call 105; refine (hasTimer_any hn (HS.out.below kk) _).mono ?_; rintro e w2 ⟨rfl, hb⟩; replace kk := kk.trans (hb.mono kk.size); clear hb; (try clear hc2 hf2); obtain ⟨hc2, hf2⟩ := bcell kk))
    go_ret
    exact ⟨ret_bool' (by simp [stepFit, h1, h2, h3, H4.out]), HK.out.trans (kk.mono HK.out.size)⟩
  have h4b : (h.tim == -1) = false := by simpa using h4
  go_enter Tryz.func71, Tryz.ntmps71
  go_wp2_with fail
  go_at_call 101; refine (seen_any a b c hs HM.out).mono ?_; rintro x w1 ⟨mb, rfl, hS, hb⟩
  have HS := Lib.hid hS
  have HK := Lib.hid (k0.trans (hb.mono k0.size))
  have kk := Below.refl w1.heap.size w1
  obtain ⟨hc, hf⟩ := bcell hb
  have hz := hb.size
  simp at hz
  have lz0 : w.heap.size < w1.heap.size := by omega
  have lz1 : w.heap.size + 1 < w1.heap.size := by omega
  have lz2 : w.heap.size + 1 + 1 < w1.heap.size := by omega
  clear hS hb k0 hz
  go_wp2_with (first
    | (go_at_call 102; refine (memRight_any hs (HS.out.below kk)).mono ?_; rintro e w2 ⟨rfl, hb⟩; replace kk := kk.trans (hb.mono kk.size); clear hb; obtain ⟨hc2, hf2⟩ := bcell kk)
    | (go_at_call 103; refine (imHandOk_any _ _ _ _ _).mono ?_; rintro e w2 ⟨rfl, hb⟩; replace kk := kk.trans (hb.mono kk.size); clear hb; (try clear hc2 hf2); obtain ⟨hc2, hf2⟩ := bcell kk)
    | (go_at_call 104; refine (hasWorker_any _ _ _ _ _).mono ?_; rintro e w2 ⟨rfl, hb⟩; replace kk := kk.trans (hb.mono kk.size); clear hb; (try clear hc2 hf2); obtain ⟨hc2, hf2⟩ := bcell kk)
    | (go_at_call 105; refine (hasTimer_any hn (HS.out.below kk) _).mono ?_; rintro e w2 ⟨rfl, hb⟩; replace kk := kk.trans (hb.mono kk.size); clear hb; (try clear hc2 hf2); obtain ⟨hc2, hf2⟩ := bcell kk))
  go_ret
  exact ⟨ret_bool' (by simp [stepFit, h1, h2, h3, h4]), HK.out.trans (kk.mono HK.out.size)⟩

end Go.Proofs.YtflekodaiejflaaGreatDoor

/-
  A memory, later (spec, chapter 5).
-/
namespace Go.Proofs.YtflekodaiejflaaGreatDoor
open Go.RowKit Go.Joins
set_option linter.unusedVariables false
set_option linter.unusedSimpArgs false

def elapsedM (a b c d : Int) (M : Me) : Me := if memOkB a b c M then ⟨minI (afterI M.c d) 999999999, M.tn, M.t, M.pn, M.p⟩ else me0

end Go.Proofs.YtflekodaiejflaaGreatDoor

/-
  A law's memory that came in, opened; the rows of the exact laws on memories.
-/
namespace Go.Proofs.YtflekodaiejflaaGreatDoor
open Go.RowKit Go.Joins Go.ChangeShapes Go.WideShapes Go.ChangeAt Go.Deep
set_option linter.unusedVariables false
set_option linter.unusedSimpArgs false

set_option maxRecDepth 100000 in
/-- a law's list of slots, read as a field -/
theorem slots_fieldM {H : Type} {enc : TypeId × Value → H} {W : World} {fuel : Nat} {v : Value} {y : DataW H × List MemPlace}
    (hf : DataW.trod enc Tryz.prog W 0 (fun _ => true) true fuel 73 [v] = some y) :
    ∃ (n : Nat) (f : Slots) (a : Option Addr) (cap : Nat), n ≤ maxLen ∧ v = .slice a n cap ∧ RowAt W v n f := by
  obtain ⟨a, len, cap, hv⟩ := slice_form Tryz.underlying73 hf
  simp at hv
  subst hv
  obtain ⟨y1, y2⟩ := y
  rcases Go.Deep.open_slice_pairs Tryz.underlying73 Tryz.underlying146 (by kernel_rfl) rfl rfl (by kernel_rfl) (by kernel_rfl) hf with ⟨hcs, _⟩ | ⟨x, l, c, m, k, V0, V1, D0, D1, P0, P1, hcs, _, hl, hm, hmm, _, hc⟩
  · simp at hcs
    obtain ⟨rfl, rfl, rfl⟩ := hcs
    exact ⟨0, fun _ => (0, 0), _, _, Nat.zero_le _, rfl, .inl ⟨rfl, _, _, rfl⟩⟩
  · simp at hcs
    obtain ⟨rfl, rfl, rfl⟩ := hcs
    simp at hmm
    subst hmm
    refine ⟨len, fun i => (intOf (V0 i), intOf (V1 i)), _, _, Nat.le_trans hl hm, rfl, ?_⟩
    rcases Nat.eq_zero_or_pos len with rfl | hp
    · exact .inl ⟨rfl, _, _, rfl⟩
    · obtain ⟨b, off, spot⟩ := x
      have hspot : spot = none := by
        have := (hc 0 (by omega)).1
        simpa [Addr.add] using World.cell?_spot this
      subst hspot
      refine .inr ⟨b, off, _, rfl, ?_, fun i hi => ?_⟩
      · have := (hc 0 (by omega)).1
        rw [Go.WideShapes.add_plain] at this
        exact World.block_lt_of_cell? W _ this
      · obtain ⟨h0, h1, t0, t1⟩ := hc i (by omega)
        rw [Go.WideShapes.add_plain] at h0 h1
        obtain ⟨x0, e0, _, _⟩ := DataW.trod_int Tryz.underlying2 t0
        obtain ⟨x1, e1, _, _⟩ := DataW.trod_int Tryz.underlying2 t1
        simp at e0 e1
        rw [e0] at h0
        rw [e1] at h1
        simp only [e0, e1]
        exact ⟨h0, by rw [Nat.add_assoc]; exact h1⟩

theorem eight_at {zs : List Int} (h : zs.length = 8) : ∃ t : Tm, ∀ j, j < 8 → (numsV zs)[j]? = some (.int .i64 (tmAt t j)) := by
  match zs, h with
  | [a, b, c, d, e, f, g, k], _ => exact ⟨⟨a, b, c, d, e, f, g, k⟩, below8 rfl rfl rfl rfl rfl rfl rfl rfl⟩

set_option maxRecDepth 100000 in
/-- a law's list of timers, read as a field -/
theorem timers_field {H : Type} {enc : TypeId × Value → H} {W : World} {fuel : Nat} {v : Value} {y : DataW H × List MemPlace}
    (hf : DataW.trod enc Tryz.prog W 0 (fun _ => true) true fuel 24 [v] = some y) :
    ∃ (n : Nat) (f : Tms), n ≤ maxLen ∧ RowTAt W v n f := by
  have c8 : Tryz.prog.cellsOf 87 = 8 := by kernel_rfl
  obtain ⟨y1, y2⟩ := y
  rcases Go.Deep.open_slice Tryz.underlying24 hf with ⟨hcs, _⟩ | ⟨x, len, cap, m, k, D, Pl, hcs, _, hl, hm, hmm, _, hc⟩
  · simp at hcs
    subst hcs
    exact ⟨0, fun _ => tm0, Nat.zero_le _, .inl ⟨rfl, _, _, rfl⟩⟩
  · simp at hcs hmm
    subst hcs hmm
    have each : ∀ i, i < m → ∃ t : Tm, ∀ j, j < 8 → W.cell? ((x.add (i * 8)).add j) = some (.int .i64 (tmAt t j)) := by
      intro i hi
      obtain ⟨cs', h1, h2⟩ := hc i hi
      rw [c8] at h1
      obtain ⟨_, hlen, hcell⟩ := World.cells?_some h1
      obtain ⟨zs, hz, rfl, _, _⟩ := trod_flat Tryz.underlying87 (I := 2) (by kernel_rfl) Tryz.underlying2 (by kernel_rfl) (by kernel_rfl) h2
      obtain ⟨t, ht⟩ := eight_at hz
      exact ⟨t, fun j hj => (hcell j (by omega)).trans (ht j hj)⟩
    haveI : Inhabited Tm := ⟨tm0⟩
    obtain ⟨f, hfx⟩ := choose_lt each
    refine ⟨len, f, Nat.le_trans hl hm, ?_⟩
    rcases Nat.eq_zero_or_pos len with rfl | hp
    · exact .inl ⟨rfl, _, _, rfl⟩
    · obtain ⟨b, off, spot⟩ := x
      have h00 := hfx 0 (by omega) 0 (by decide)
      have hspot : spot = none := by simpa [Addr.add] using World.cell?_spot h00
      subst hspot
      have h0 := h00
      rw [Go.WideShapes.add_plain, Go.WideShapes.add_plain] at h0
      refine .inr ⟨b, off, _, rfl, World.block_lt_of_cell? W _ h0, fun i hi j hj => ?_⟩
      have := hfx i (by omega) j hj
      rw [Go.WideShapes.add_plain, Go.WideShapes.add_plain] at this
      exact this

set_option maxRecDepth 100000 in
/-- a law's list of processors, read as a field -/
theorem procs_field {H : Type} {enc : TypeId × Value → H} {W : World} {fuel : Nat} {v : Value} {y : DataW H × List MemPlace}
    (hf : DataW.trod enc Tryz.prog W 0 (fun _ => true) true fuel 25 [v] = some y) :
    ∃ (m : Nat) (P : Pcs), m ≤ maxLen ∧ (∀ i, i < m → (P i).n ≤ maxLen) ∧ RowPAt W v m P := by
  have c4 : Tryz.prog.cellsOf 75 = 4 := by kernel_rfl
  obtain ⟨y1, y2⟩ := y
  rcases Go.Deep.open_slice Tryz.underlying25 hf with ⟨hcs, _⟩ | ⟨x, len, cap, m, k, D, Pl, hcs, _, hl, hm, hmm, _, hc⟩
  · simp at hcs
    subst hcs
    exact ⟨0, fun _ => pc0, Nat.zero_le _, fun i hi => by omega, .inl ⟨rfl, _, _, rfl⟩⟩
  · simp at hcs hmm
    subst hcs hmm
    have each : ∀ i, i < m → ∃ p : Pc, p.n ≤ maxLen ∧ ∃ a c, W.cell? ((x.add (i * 4)).add 0) = some (.slice a p.n c) ∧ W.cell? ((x.add (i * 4)).add 1) = some (.int .i64 p.l) ∧ W.cell? ((x.add (i * 4)).add 2) = some (.int .i64 p.e) ∧ W.cell? ((x.add (i * 4)).add 3) = some (.int .i64 p.d) ∧ RowAt W (.slice a p.n c) p.n p.f := by
      intro i hi
      obtain ⟨cs', h1, h2⟩ := hc i hi
      rw [c4] at h1
      obtain ⟨_, hlen, hcell⟩ := World.cells?_some h1
      obtain ⟨xs, n1, _, _, _, hxl, hfx⟩ := DataW.trod_struct Tryz.underlying75 h2
      match cs', hlen with
      | [u0, u1, u2, u3], _ =>
        have g0 := hfx 0 _ rfl
        have g1 := hfx 1 _ rfl
        have g2 := hfx 2 _ rfl
        have g3 := hfx 3 _ rfl
        match xs, hxl with
        | [z0, z1, z2, z3], _ =>
          have k0 : Tryz.prog.cellsOf 73 = 1 := by kernel_rfl
          have k1 : Tryz.prog.cellsOf 2 = 1 := by kernel_rfl
          simp [k0, k1] at g0 g1 g2 g3
          obtain ⟨n, f, a, c, hn, rfl, hr⟩ := slots_fieldM g0
          obtain ⟨x1, e1, _, _⟩ := DataW.trod_int Tryz.underlying2 g1
          obtain ⟨x2, e2, _, _⟩ := DataW.trod_int Tryz.underlying2 g2
          obtain ⟨x3, e3, _, _⟩ := DataW.trod_int Tryz.underlying2 g3
          simp at e1 e2 e3
          subst e1 e2 e3
          exact ⟨⟨n, f, x1, x2, x3⟩, hn, a, c, hcell 0 (by omega), hcell 1 (by omega), hcell 2 (by omega), hcell 3 (by omega), hr⟩
    haveI : Inhabited Pc := ⟨pc0⟩
    obtain ⟨P, hP⟩ := choose_lt each
    refine ⟨len, P, Nat.le_trans hl hm, fun i hi => (hP i (by omega)).1, ?_⟩
    rcases Nat.eq_zero_or_pos len with rfl | hp
    · exact .inl ⟨rfl, _, _, rfl⟩
    · obtain ⟨b, off, spot⟩ := x
      obtain ⟨_, a0, c0, h00, _⟩ := hP 0 (by omega)
      have hspot : spot = none := by simpa [Addr.add] using World.cell?_spot h00
      subst hspot
      have h0 := h00
      rw [Go.WideShapes.add_plain, Go.WideShapes.add_plain] at h0
      refine .inr ⟨b, off, _, rfl, World.block_lt_of_cell? W _ h0, fun i hi => ?_⟩
      obtain ⟨_, a, c, g0, g1, g2, g3, hr⟩ := hP i (by omega)
      rw [Go.WideShapes.add_plain, Go.WideShapes.add_plain] at g0 g1 g2 g3
      exact ⟨a, c, g0, g1, g2, g3, hr⟩

set_option maxRecDepth 100000 in
/-- a law's memory that came in -/
theorem mem_in {H : Type} {enc : TypeId × Value → H} {W : World} {base : Nat} {v : Value} {d : DataW H} {p : List MemPlace}
    (hv : Value.okWide Tryz.prog W .any base 27 v) (h : DataW.Trod enc Tryz.prog W 0 (fun _ => true) true 27 v d p) :
    ∃ (tv pv : Value) (M : Me), v = meV M.c tv pv ∧ M.tn ≤ maxLen ∧ M.pn ≤ maxLen ∧ (∀ i, i < M.pn → (M.p i).n ≤ maxLen) ∧ MemAt W tv pv M := by
  obtain ⟨c0, tv, pv, y0, y1, y2, m, rfl, _, _, h0, h1, h2⟩ := open_agg3 Tryz.underlying27 (by kernel_rfl) (by kernel_rfl) hv h
  obtain ⟨x, e0, _, _⟩ := DataW.trod_int Tryz.underlying2 h0
  simp at e0
  subst e0
  obtain ⟨tn, t, htn, hT⟩ := timers_field h1
  obtain ⟨pn, P, hpn, hn, hP⟩ := procs_field h2
  exact ⟨tv, pv, ⟨x, tn, t, pn, P⟩, rfl, htn, hpn, hn, hT, hP⟩

set_option maxRecDepth 100000 in
/-- a law's plan that came in -/
theorem plan_inM {H : Type} {enc : TypeId × Value → H} {W : World} {base : Nat} {v : Value} {d : DataW H} {p : List MemPlace}
    (hv : Value.okWide Tryz.prog W .any base 23 v) (h : DataW.Trod enc Tryz.prog W 0 (fun _ => true) true 23 v d p) :
    ∃ a b c : Int, v = .agg #[.int .i64 a, .int .i64 b, .int .i64 c] := by
  obtain ⟨c0, c1, c2, y0, y1, y2, m, rfl, _, _, h0, h1, h2⟩ := open_agg3 Tryz.underlying23 (by kernel_rfl) (by kernel_rfl) hv h
  obtain ⟨x, e1, _, _⟩ := DataW.trod_int Tryz.underlying2 h0
  obtain ⟨y, e2, _, _⟩ := DataW.trod_int Tryz.underlying2 h1
  obtain ⟨z, e3, _, _⟩ := DataW.trod_int Tryz.underlying2 h2
  simp at e1 e2 e3
  subst e1 e2 e3
  exact ⟨x, y, z, rfl⟩

end Go.Proofs.YtflekodaiejflaaGreatDoor

/-
  FnExactNewMem, told what the program answers.
-/
namespace Go.Proofs.YtflekodaiejflaaGreatDoor
open Go.RowKit Go.Joins Go.ChangeShapes Go.WideShapes Go.ChangeAt Go.Deep
set_option linter.unusedVariables false
set_option linter.unusedSimpArgs false

/-- what the program's NewMem is to answer -/
def AsksNM (fn : FuncId) : Prop := ∀ (a b c : Int) (w : World), Calls Tryz.prog fn #[.agg #[.int .i64 a, .int .i64 b, .int .i64 c]] w (NewMe (newM a b c) w)
end Go.Proofs.YtflekodaiejflaaGreatDoor
