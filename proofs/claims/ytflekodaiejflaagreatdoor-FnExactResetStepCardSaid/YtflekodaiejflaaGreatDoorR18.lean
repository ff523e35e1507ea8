/-
  Setting anew (spec, chapter 11).
-/
import Derived.Test.YtflekodaiejflaaGreatDoorR17
import Derived.Deep.QuietTactic
import Derived.BigQuiet
import Derived.Deep.DeepCutAuto
namespace Go.Proofs.YtflekodaiejflaaGreatDoor
open Go.Deep Go.ChangeShapes Go.WideShapes Go.ChangeAt Go.RowKit Go.Joins
set_option linter.unusedVariables false
set_option linter.unusedSimpArgs false

theorem setTm_eight (M : Me) (t : Nat) (T : Tm) : setTm (setTm (setTm (setTm (setTm (setTm (setTm (setTm M t 0 T.st) t 1 T.wh) t 2 T.nx) t 3 T.pe) t 4 T.pl) t 5 T.ge) t 6 T.ki) t 7 T.ma = { M with t := putT M.t t T } := by
  simp only [setTm]
  congr 1
  funext i
  by_cases e : i = t
  · subst e; simp [putT, tmSet]
  · simp [putT, e]
section
variable {w0 w w' : World} {B A R pg pn pc : Nat} {c : Int} {tv : Value} {V : Nat → Value} {M : Me} {h : Hd} {v : Et}
/-- a whole timer is stored -/
theorem dst_putT {tg n tc : Nat} (s : DSt w0 w B A R c (.slice (some ⟨tg, 0, none⟩) n tc) pg pn pc V M h v) {t : Nat} (ht : t < M.tn) (T : Tm) :
    ∃ wq, RowKit.Hid (wq = setT w tg t T) ∧ DSt w0 wq B A R c (.slice (some ⟨tg, 0, none⟩) n tc) pg pn pc V { M with t := putT M.t t T } h v := by
  obtain ⟨a0, e0, s0⟩ := s.setT (t := t) 0 ht (by decide) T.st
  obtain ⟨a1, e1, s1⟩ := s0.setT (t := t) 1 ht (by decide) T.wh
  obtain ⟨a2, e2, s2⟩ := s1.setT (t := t) 2 ht (by decide) T.nx
  obtain ⟨a3, e3, s3⟩ := s2.setT (t := t) 3 ht (by decide) T.pe
  obtain ⟨a4, e4, s4⟩ := s3.setT (t := t) 4 ht (by decide) T.pl
  obtain ⟨a5, e5, s5⟩ := s4.setT (t := t) 5 ht (by decide) T.ge
  obtain ⟨a6, e6, s6⟩ := s5.setT (t := t) 6 ht (by decide) T.ki
  obtain ⟨a7, e7, s7⟩ := s6.setT (t := t) 7 ht (by decide) T.ma
  rw [setTm_eight] at s7
  refine ⟨a7, Lib.hid ?_, s7⟩
  rw [e7.out, e6.out, e5.out, e4.out, e3.out, e2.out, e1.out, e0.out]
  rfl
end

set_option maxRecDepth 100000 in
set_option maxHeartbeats 2000000 in
theorem l11Reset_look {B : Nat} {tv pv : Value} {M : Me} {h : Hd} {v : Et} {w : World} (hB : B ≤ w.heap.size) (hk : 0 < M.pn) (hn : M.tn ≤ 1048576) (ht : 0 ≤ h.tim → h.tim.toNat < M.tn) (hp : ∀ i, i < M.tn → (M.t i).pl ≠ -1 → ∃ k : Nat, k < M.pn ∧ (M.t i).pl = (k : Int)) (hd : ∀ k, k < M.pn → 0 ≤ (M.p k).d ∧ (M.p k).d ≤ 1000) (hg : ∀ i, i < M.tn → 0 ≤ (M.t i).ge ∧ (M.t i).ge ≤ 100000) (h5p : ∀ i, i < M.tn → (M.t i).st = 5 → (M.t i).pl ≠ -1) (hpos : h.pos = 5) (hm : OwnMem w B tv pv M) :
    Calls Tryz.prog 35 #[dnV ⟨M, h, v⟩ tv pv] w (InDnB B (if resetB ⟨M, h, v⟩ then resetD ⟨M, h, v⟩ else dn0) (resetB ⟨M, h, v⟩) w) := by
  rw [show InDnB B (if resetB ⟨M, h, v⟩ then resetD ⟨M, h, v⟩ else dn0) (resetB ⟨M, h, v⟩) w = InDnB B (resetLookD ⟨M, h, v⟩) true w by
    have e : resetB ⟨M, h, v⟩ = true := by simp [resetB, hpos]
    rw [e, if_pos rfl, resetD, if_pos hpos]]
  have q5 : (h.pos == 5) = true := by simp [hpos]
  clear hpos
  obtain ⟨pg, pc, V, rfl, ho⟩ := hm.openP hk
  clear hm
  obtain ⟨ta, tc, hta⟩ := ho.t.row.form
  subst hta
  obtain ⟨w1, e1, s1⟩ := DSt.start h v hB ho
  clear ho
  obtain ⟨x0, x1, x2, x3, _⟩ := s1.cellsA
  go_enter Tryz.func35, Tryz.ntmps35
  go_upto_region 1 with fail
  rw [← e1.out]
  clear e1
  go_upto_region 2 with fail
  refine wp_region_lit ?_
  refine wpList_load_mid (by rfl) 43 _ (by rfl) _ 0 (by rfl) [.int .i64 M.c, (.slice ta M.tn tc), (.slice (some ⟨pg, 0, none⟩) M.pn pc), .int .i64 h.pos, .int .i64 h.call.code, .int .i64 h.call.a, .int .i64 h.call.b, .int .i64 h.call.c, .int .i64 h.tim, .int .i64 h.whe, .bool h.had, .int .i64 h.cnt, .int .i64 h.beg, .int .i64 h.rep, .int .i64 h.out, .int .i64 v.kin, .int .i64 v.tim, .int .i64 v.gen, .int .i64 v.whe, .int .i64 v.clk] _ (range_of_block s1.a) Tryz.underlying43 rfl done_info ?_
  go_wp2_with fail
  go_at_call 57; refine (l11Look_any s1.size.1 hk hn hp hd h5p s1.own).mono ?_
  rintro e w3 hI
  obtain ⟨ta3, tn3, tc3, pa3, pn3, pc3, rfl, th3, ra3, hA⟩ := hI.put true s1.k hB (show w.heap.size ≤ w.heap.size + 1 by omega) s1.r rfl
  rename_i K1 hK1
  refine hK1 _ _ ?_
  clear hK1 K1
  refine wpList_store_mid (by rfl) 43 _ _ (by rfl) _ 0 (dnCells (resetLookD ⟨M, h, v⟩) (.slice ta3 tn3 tc3) (.slice pa3 pn3 pc3)) (by rfl) (by rfl) th3 done_info (by simp [Value.oneCell']) ?_
  generalize hw4 : w3.setCells (w.heap.size + 1) 0 (dnCells (resetLookD ⟨M, h, v⟩) (.slice ta3 tn3 tc3) (.slice pa3 pn3 pc3)).toList = w4 at ra3 hA ⊢
  clear hw4 th3
  go_wp2
  exact bodyPost_ret (v := .tuple #[dnV (resetLookD ⟨M, h, v⟩) (.slice ta3 tn3 tc3) (.slice pa3 pn3 pc3), .bool true]) (results_pair (cs := (dnCells (resetLookD ⟨M, h, v⟩) (.slice ta3 tn3 tc3) (.slice pa3 pn3 pc3)).toList) rfl rfl rfl ra3 Tryz.underlying43 rfl done_info) rfl hA

set_option maxRecDepth 100000 in
set_option maxHeartbeats 2000000 in
theorem l11Reset_no {B : Nat} {tv pv : Value} {M : Me} {h : Hd} {v : Et} {w : World} (hB : B ≤ w.heap.size) (hk : 0 < M.pn) (hn : M.tn ≤ 1048576) (ht : 0 ≤ h.tim → h.tim.toNat < M.tn) (hp : ∀ i, i < M.tn → (M.t i).pl ≠ -1 → ∃ k : Nat, k < M.pn ∧ (M.t i).pl = (k : Int)) (hd : ∀ k, k < M.pn → 0 ≤ (M.p k).d ∧ (M.p k).d ≤ 1000) (hg : ∀ i, i < M.tn → 0 ≤ (M.t i).ge ∧ (M.t i).ge ≤ 100000) (h5p : ∀ i, i < M.tn → (M.t i).st = 5 → (M.t i).pl ≠ -1) (hpos : ¬ h.pos = 5) (hq : mineB ⟨M, h, v⟩ = false) (hm : OwnMem w B tv pv M) :
    Calls Tryz.prog 35 #[dnV ⟨M, h, v⟩ tv pv] w (InDnB B (if resetB ⟨M, h, v⟩ then resetD ⟨M, h, v⟩ else dn0) (resetB ⟨M, h, v⟩) w) := by
  rw [show InDnB B (if resetB ⟨M, h, v⟩ then resetD ⟨M, h, v⟩ else dn0) (resetB ⟨M, h, v⟩) w = InDnB B dn0 false w by
    have e : resetB ⟨M, h, v⟩ = false := by simp [resetB, hpos, hq]
    rw [e]; rfl]
  have q5 : (h.pos == 5) = false := by simpa using hpos
  have HQ := Lib.hid hq
  clear hpos hq
  obtain ⟨pg, pc, V, rfl, ho⟩ := hm.openP hk
  clear hm
  obtain ⟨ta, tc, hta⟩ := ho.t.row.form
  subst hta
  obtain ⟨w1, e1, s1⟩ := DSt.start h v hB ho
  clear ho
  obtain ⟨x0, x1, x2, x3, _⟩ := s1.cellsA
  go_enter Tryz.func35, Tryz.ntmps35
  go_upto_region 1 with fail
  rw [← e1.out]
  clear e1
  go_upto_region 3 with fail
  refine wp_region_lit ?_
  refine wpList_load_mid (by rfl) 43 _ (by rfl) _ 0 (by rfl) [.int .i64 M.c, (.slice ta M.tn tc), (.slice (some ⟨pg, 0, none⟩) M.pn pc), .int .i64 h.pos, .int .i64 h.call.code, .int .i64 h.call.a, .int .i64 h.call.b, .int .i64 h.call.c, .int .i64 h.tim, .int .i64 h.whe, .bool h.had, .int .i64 h.cnt, .int .i64 h.beg, .int .i64 h.rep, .int .i64 h.out, .int .i64 v.kin, .int .i64 v.tim, .int .i64 v.gen, .int .i64 v.whe, .int .i64 v.clk] _ (range_of_block s1.a) Tryz.underlying43 rfl done_info ?_
  go_wp2_with fail
  go_at_call 40; refine (l10Mine_any ht s1.own).mono ?_; rw [HQ.out]; rintro e w2 ⟨rfl, hb⟩
  have s2 := s1.below hb
  go_upto_region 4 with fail
  refine wp_region_lit ?_
  refine wpList_plain rfl fun K0 hK0 => ?_
  go_simp
  refine hK0 _ _ ?_
  clear hK0 K0
  refine wpList_store_mid (by rfl) 43 _ _ (by rfl) _ 0 #[.int .i64 0, .slice none 0 0, .slice none 0 0, .int .i64 0, .int .i64 0, .int .i64 0, .int .i64 0, .int .i64 0, .int .i64 0, .int .i64 0, .bool false, .int .i64 0, .int .i64 0, .int .i64 0, .int .i64 0, .int .i64 0, .int .i64 0, .int .i64 0, .int .i64 0, .int .i64 0] (by rfl) (by rfl) s2.there done_info (by simp [Value.oneCell']) ?_
  go_wp2
  exact bodyPost_ret (v := .tuple #[.agg #[.int .i64 0, .slice none 0 0, .slice none 0 0, .int .i64 0, .int .i64 0, .int .i64 0, .int .i64 0, .int .i64 0, .int .i64 0, .int .i64 0, .bool false, .int .i64 0, .int .i64 0, .int .i64 0, .int .i64 0, .int .i64 0, .int .i64 0, .int .i64 0, .int .i64 0, .int .i64 0], .bool false]) (results_pair (cs := [.int .i64 0, .slice none 0 0, .slice none 0 0, .int .i64 0, .int .i64 0, .int .i64 0, .int .i64 0, .int .i64 0, .int .i64 0, .int .i64 0, .bool false, .int .i64 0, .int .i64 0, .int .i64 0, .int .i64 0, .int .i64 0, .int .i64 0, .int .i64 0, .int .i64 0, .int .i64 0]) rfl rfl rfl s2.zlies Tryz.underlying43 rfl done_info) rfl s2.zeroC

theorem setTm_key (M : Me) (t : Nat) (x z : Int) : setTm (setTm (genM M t) t 2 x) t 0 z = { M with t := putT M.t t ⟨z, (M.t t).wh, x, (M.t t).pe, (M.t t).pl, minI ((M.t t).ge + 1) 100000, (M.t t).ki, (M.t t).ma⟩ } := by
  simp only [setTm, genM]
  congr 1
  funext i
  by_cases e : i = t
  · subst e; simp [putT, tmSet]
  · simp [putT, e]

theorem heap_setT_ne (w : World) (b k : Nat) (T : Tm) {g : Nat} (h : g ≠ b) : (setT w b k T).heap[g]? = w.heap[g]? := by
  simp only [setT]
  exact ((((((((heap_set_ne _ _ h).trans (heap_set_ne _ _ h)).trans (heap_set_ne _ _ h)).trans (heap_set_ne _ _ h)).trans (heap_set_ne _ _ h)).trans (heap_set_ne _ _ h)).trans (heap_set_ne _ _ h)).trans (heap_set_ne _ _ h))
theorem hpgX {w0 w : World} {B A R pg pn pc X : Nat} {c : Int} {tv : Value} {V : Nat → Value} {M : Me} {h : Hd} {v : Et} (s : DSt w0 w B A R c tv pg pn pc V M h v) (hX : w.heap.size ≤ X) : X ≠ pg := by
  have := s.o.l.lt
  omega

set_option maxRecDepth 100000 in
set_option maxHeartbeats 2000000 in
theorem l11Reset_A_true {B t k : Nat} {G : Int} {tv pv : Value} {M : Me} {h : Hd} {v : Et} {w : World} (hB : B ≤ w.heap.size) (hk : 0 < M.pn) (hn : M.tn ≤ 1048576) (ht : 0 ≤ h.tim → h.tim.toNat < M.tn) (hp : ∀ i, i < M.tn → (M.t i).pl ≠ -1 → ∃ k : Nat, k < M.pn ∧ (M.t i).pl = (k : Int)) (hd : ∀ k, k < M.pn → 0 ≤ (M.p k).d ∧ (M.p k).d ≤ 1000) (hg : ∀ i, i < M.tn → 0 ≤ (M.t i).ge ∧ (M.t i).ge ≤ 100000) (h5p : ∀ i, i < M.tn → (M.t i).st = 5 → (M.t i).pl ≠ -1) (hpos : ¬ h.pos = 5) (hq : mineB ⟨M, h, v⟩ = true) (het : h.tim = (t : Int)) (ht2 : t < M.tn) (hkp : k < M.pn) (hpk : (M.t t).pl = (k : Int)) (hG : (M.t t).ge = G) (hg0 : 0 ≤ G) (hg1 : G ≤ 100000) (hh : h.had = true) (hlt : ¬ h.whe < (M.t t).wh) (hm : OwnMem w B tv pv M) :
    Calls Tryz.prog 35 #[dnV ⟨M, h, v⟩ tv pv] w (InDnB B (if resetB ⟨M, h, v⟩ then resetD ⟨M, h, v⟩ else dn0) (resetB ⟨M, h, v⟩) w) := by
  obtain ⟨KM, hKM⟩ : ∃ KM, keyM ⟨M, h, v⟩ = KM := ⟨_, rfl⟩
  have hKM2 : { M with t := putT M.t t (⟨4, (M.t t).wh, h.whe, (M.t t).pe, (k : Int), minI (G + 1) 100000, (M.t t).ki, (M.t t).ma⟩ : Tm) } = KM := by
    rw [← hKM, keyM]
    simp only [het, Int.toNat_natCast]
    rw [if_neg hlt, setTm_key, hpk, hG]
  rw [show InDnB B (if resetB ⟨M, h, v⟩ then resetD ⟨M, h, v⟩ else dn0) (resetB ⟨M, h, v⟩) w = InDnB B ⟨KM, restHd 2 0, evI KM 1 t h.whe⟩ true w by
    have e : resetB ⟨M, h, v⟩ = true := by simp [resetB, hpos, hq]
    rw [e, if_pos rfl, resetD, if_neg hpos, keyD, hKM]
    simp only [het, Int.toNat_natCast, hh, if_true, if_false, Bool.false_eq_true]]
  have ec : KM.c = M.c := by rw [← hKM2] <;> rfl
  have ep : KM.pn = M.pn := by rw [← hKM2] <;> rfl
  have et : KM.tn = M.tn := by rw [← hKM2] <;> rfl
  have q5 : (h.pos == 5) = false := by simpa using hpos
  have HQ := Lib.hid hq
  have HT := Lib.hid het
  have HK := Lib.hid hpk
  have HG := Lib.hid hG
  have HH := Lib.hid hh
  have HKM := Lib.hid hKM2
  have hltb : decide (h.whe < (M.t t).wh) = false := by simpa using hlt
  clear hpos hq hp hd hg h5p het hpk hG hh hKM hKM2 hlt
  have hwr : IntKind.i64.wrap (G + 1) = G + 1 := by rw [IntKind.wrap_i64]; omega
  obtain ⟨pg, pc, V, rfl, ho⟩ := hm.openP hk
  clear hm
  obtain ⟨tg, tc, rfl, _⟩ := ho.tms ht2
  obtain ⟨w1, e1, s1⟩ := DSt.start h v hB ho
  clear ho
  obtain ⟨x0, x1, x2, x3, _⟩ := s1.cellsA
  go_enter Tryz.func35, Tryz.ntmps35
  go_upto_region 1 with fail
  rw [← e1.out]
  clear e1
  go_upto_region 3 with fail
  refine wp_region_lit ?_
  refine wpList_load_mid (by rfl) 43 _ (by rfl) _ 0 (by rfl) [.int .i64 M.c, (.slice (some ⟨tg, 0, none⟩) M.tn tc), (.slice (some ⟨pg, 0, none⟩) M.pn pc), .int .i64 h.pos, .int .i64 h.call.code, .int .i64 h.call.a, .int .i64 h.call.b, .int .i64 h.call.c, .int .i64 h.tim, .int .i64 h.whe, .bool h.had, .int .i64 h.cnt, .int .i64 h.beg, .int .i64 h.rep, .int .i64 h.out, .int .i64 v.kin, .int .i64 v.tim, .int .i64 v.gen, .int .i64 v.whe, .int .i64 v.clk] _ (range_of_block s1.a) Tryz.underlying43 rfl done_info ?_
  go_wp2_with fail
  go_at_call 40; refine (l10Mine_any ht s1.own).mono ?_; rw [HQ.out]; rintro e w2 ⟨rfl, hb⟩
  have s2 := s1.below hb
  clear s1 hb x0 x1 x2 x3
  obtain ⟨x0, x1, x2, x3, x4, x5, x6, x7, x8, x9, x10, x11, x12, x13, x14, x15, x16, x17, x18, x19, xf0, xf1, xf2, xf3, xf4, xf5, xf6, xf7, xf8, xf9, xf10, xf11, xf12, xf13, xf14, xf15, xf16, xf17, xf18, xf19⟩ := s2.cellsA
  rw [HT.out] at x8
  obtain ⟨⟨t0, t1, t2, t3, t4, t5, t6, t7⟩, _⟩ := s2.tcells ht2 rfl
  rw [HK.out] at t4
  rw [HG.out] at t5
  have i0 : (0 : Int) ≤ (t : Int) := by omega
  have i1 : (t : Int) < (M.tn : Int) := by omega
  have j0 : (0 : Int) ≤ (k : Int) := by omega
  have j1 : (k : Int) < (M.pn : Int) := by omega
  have kX := (Below.refl w2.heap.size w2).alloc (Nat.le_refl _) (.cells #[.int .i64 (M.t t).st, .int .i64 (M.t t).wh, .int .i64 (M.t t).nx, .int .i64 (M.t t).pe, .int .i64 (k : Int), .int .i64 G, .int .i64 (M.t t).ki, .int .i64 (M.t t).ma] 80)
  have hX := heap_alloc_new w2 (.cells #[.int .i64 (M.t t).st, .int .i64 (M.t t).wh, .int .i64 (M.t t).nx, .int .i64 (M.t t).pe, .int .i64 (k : Int), .int .i64 G, .int .i64 (M.t t).ki, .int .i64 (M.t t).ma] 80)
  have lX := s2.size
  have ltg := s2.tlt ht2
  go_upto_region 7 with fail
  obtain ⟨X, hXb⟩ : ∃ X, w2.heap.size = X := ⟨_, rfl⟩
  have hXle : w2.heap.size ≤ X := Nat.le_of_eq hXb
  rw [hXb] at hX lX ltg ⊢
  generalize hw3 : w2.alloc (.cells #[.int .i64 (M.t t).st, .int .i64 (M.t t).wh, .int .i64 (M.t t).nx, .int .i64 (M.t t).pe, .int .i64 (k : Int), .int .i64 G, .int .i64 (M.t t).ki, .int .i64 (M.t t).ma] 80) = w3 at hX kX ⊢
  clear hw3 hXb t0 t1 t2 t3 t4 t5 t6 t7 x0 x1 x2 x3 x4 x5 x6 x7 x8 x9 x10 x11 x12 x13 x14 x15 x16 x17 x18 x19 xf0 xf1 xf2 xf3 xf4 xf5 xf6 xf7 xf8 xf9 xf10 xf11 xf12 xf13 xf14 xf15 xf16 xf17 xf18 xf19
  have s3 := s2.below kX
  obtain ⟨_, _, _, _, _, _, _, _, _, x9, _⟩ := s3.cellsA
  have y0 : w3.cell? ⟨X, 0, none⟩ = some (.int .i64 (M.t t).st) := cell_of_block hX 0
  have y2 : w3.cell? ⟨X, 2, none⟩ = some (.int .i64 (M.t t).nx) := cell_of_block hX 2
  have y5 : w3.cell? ⟨X, 5, none⟩ = some (.int .i64 G) := cell_of_block hX 5
  have z0 := unfrozen_of_block hX 0; have z2 := unfrozen_of_block hX 2; have z5 := unfrozen_of_block hX 5
  have hXA : ¬ X = w.heap.size := by omega
  have hAX : ¬ w.heap.size = X := by omega
  go_wp2_with fail
  (try simp only [hwr])
  go_at_call 58; refine (l1Min_any _ _ _).mono ?_; rintro x wp ⟨rfl, rfl⟩
  have hX6 := block_setCell (i := 0) (block_setCell (i := 2) (block_setCell (i := 5) hX (.int .i64 (minI (G + 1) 100000))) (.int .i64 h.whe)) (.int .i64 4)
  simp only [List.setIfInBounds_toArray, List.set_cons_zero, List.set_cons_succ] at hX6
  have kk6 := ((kX.setCell (p := ⟨X, 5, none⟩) hXle (.int .i64 (minI (G + 1) 100000))).setCell (p := ⟨X, 2, none⟩) hXle (.int .i64 h.whe)).setCell (p := ⟨X, 0, none⟩) hXle (.int .i64 4)
  go_upto_region 10 with fail
  generalize hw6 : (((w3.setCell ⟨X, 5, none⟩ (.int .i64 (minI (G + 1) 100000))).setCell ⟨X, 2, none⟩ (.int .i64 h.whe)).setCell ⟨X, 0, none⟩ (.int .i64 4)) = w6 at hX6 kk6 ⊢
  clear hw6 s3 x9 y0 y2 y5 z0 z2 z5 hX kX
  have y1 : w6.cell? ⟨X, 1, none⟩ = some (.int .i64 (M.t t).wh) := cell_of_block hX6 1
  have y2 : w6.cell? ⟨X, 2, none⟩ = some (.int .i64 h.whe) := cell_of_block hX6 2
  have s9 := s2.below kk6
  have hX9 := hX6
  obtain ⟨_, x1, _⟩ := s9.cellsA
  go_upto_region 15 with fail
  have lX9 := lt_of_block hX9
  clear s2 kk6 hX6 y1 y2 hXle
  obtain ⟨⟨t0, t1, t2, t3, t4, t5, t6, t7⟩, tf⟩ := s9.tcells (t := t) ht2 rfl
  have f0 := tf (t * 8); have f1 := tf (t * 8 + 1); have f2 := tf (t * 8 + 2); have f3 := tf (t * 8 + 3); have f4 := tf (t * 8 + 4); have f5 := tf (t * 8 + 5); have f6 := tf (t * 8 + 6); have f7 := tf (t * 8 + 7)
  obtain ⟨y0, y1, y2, y3, y4, y5, y6, y7⟩ : w6.cell? ⟨X, 0, none⟩ = some (.int .i64 4) ∧ w6.cell? ⟨X, 1, none⟩ = some (.int .i64 (M.t t).wh) ∧ w6.cell? ⟨X, 2, none⟩ = some (.int .i64 h.whe) ∧ w6.cell? ⟨X, 3, none⟩ = some (.int .i64 (M.t t).pe) ∧ w6.cell? ⟨X, 4, none⟩ = some (.int .i64 (k : Int)) ∧ w6.cell? ⟨X, 5, none⟩ = some (.int .i64 (minI (G + 1) 100000)) ∧ w6.cell? ⟨X, 6, none⟩ = some (.int .i64 (M.t t).ki) ∧ w6.cell? ⟨X, 7, none⟩ = some (.int .i64 (M.t t).ma) := ⟨cell_of_block hX9 0, cell_of_block hX9 1, cell_of_block hX9 2, cell_of_block hX9 3, cell_of_block hX9 4, cell_of_block hX9 5, cell_of_block hX9 6, cell_of_block hX9 7⟩
  obtain ⟨wa, ea, sa⟩ := dst_putT s9 (t := t) ht2 (⟨4, (M.t t).wh, h.whe, (M.t t).pe, (k : Int), minI (G + 1) 100000, (M.t t).ki, (M.t t).ma⟩ : Tm)
  have hE : ({ M with t := putT M.t t (⟨4, (M.t t).wh, h.whe, (M.t t).pe, (k : Int), minI (G + 1) 100000, (M.t t).ki, (M.t t).ma⟩ : Tm) } : Me) = KM := HKM.out
  rw [hE] at sa
  clear hE
  have hXa := (heap_setT_ne w6 tg t (⟨4, (M.t t).wh, h.whe, (M.t t).pe, (k : Int), minI (G + 1) 100000, (M.t t).ki, (M.t t).ma⟩ : Tm) (g := X) (by omega)).trans hX9
  rw [← ea.out] at hXa
  dsimp only [setT] at ea
  go_upto_region 16 with fail
  rw [← ea.out]
  clear ea s9 hX9 tf t0 t1 t2 t3 t4 t5 t6 t7 f0 f1 f2 f3 f4 f5 f6 f7 y0 y1 y2 y3 y4 y5 y6 y7 x1
  have y2 : wa.cell? ⟨X, 2, none⟩ = some (.int .i64 h.whe) := cell_of_block hXa 2
  have hEv := l9Ev_any (w := wa) 1 h.whe (show t < KM.tn by rw [et]; exact ht2) sa.own
  rw [ec] at hEv
  have HEv := Lib.hid hEv
  clear hEv
  obtain ⟨x0, x1, x2, x3, x4, x5, x6, x7, x8, x9, x10, x11, x12, x13, x14, x15, x16, x17, x18, x19, xf0, xf1, xf2, xf3, xf4, xf5, xf6, xf7, xf8, xf9, xf10, xf11, xf12, xf13, xf14, xf15, xf16, xf17, xf18, xf19⟩ := sa.cellsA
  go_wp2_with fail
  go_at_call 59; refine HEv.out.mono ?_; rintro e wb ⟨rfl, hb⟩
  have sb := sa.below hb
  clear sa HEv hb hXa y2 x0 x1 x2 x3 x4 x5 x6 x7 x8 x9 x10 x11 x12 x13 x14 x15 x16 x17 x18 x19 xf0 xf1 xf2 xf3 xf4 xf5 xf6 xf7 xf8 xf9 xf10 xf11 xf12 xf13 xf14 xf15 xf16 xf17 xf18 xf19
  obtain ⟨x0, x1, x2, x3, x4, x5, x6, x7, x8, x9, x10, x11, x12, x13, x14, x15, x16, x17, x18, x19, xf0, xf1, xf2, xf3, xf4, xf5, xf6, xf7, xf8, xf9, xf10, xf11, xf12, xf13, xf14, xf15, xf16, xf17, xf18, xf19⟩ := sb.cellsA
  obtain ⟨wc, ec', sc⟩ := sb.ev_all (evI KM 1 t h.whe)
  go_upto_region 17 with fail
  rw [← ec'.out]
  clear ec' sb x0 x1 x2 x3 x4 x5 x6 x7 x8 x9 x10 x11 x12 x13 x14 x15 x16 x17 x18 x19 xf0 xf1 xf2 xf3 xf4 xf5 xf6 xf7 xf8 xf9 xf10 xf11 xf12 xf13 xf14 xf15 xf16 xf17 xf18 xf19
  obtain ⟨x0, x1, x2, x3, x4, x5, x6, x7, x8, x9, x10, x11, x12, x13, x14, x15, x16, x17, x18, x19, xf0, xf1, xf2, xf3, xf4, xf5, xf6, xf7, xf8, xf9, xf10, xf11, xf12, xf13, xf14, xf15, xf16, xf17, xf18, xf19⟩ := sc.cellsA
  rw [HH.out] at x10
  go_upto_region 18 with fail
  go_wp2_with fail
  go_at_call 41; refine (spResting_any 2 0 _).mono ?_; rintro e wd ⟨rfl, hb⟩
  have sd := sc.below hb
  clear sc hb x0 x1 x2 x3 x4 x5 x6 x7 x8 x9 x10 x11 x12 x13 x14 x15 x16 x17 x18 x19 xf0 xf1 xf2 xf3 xf4 xf5 xf6 xf7 xf8 xf9 xf10 xf11 xf12 xf13 xf14 xf15 xf16 xf17 xf18 xf19
  obtain ⟨x0, x1, x2, x3, x4, x5, x6, x7, x8, x9, x10, x11, x12, x13, x14, x15, x16, x17, x18, x19, xf0, xf1, xf2, xf3, xf4, xf5, xf6, xf7, xf8, xf9, xf10, xf11, xf12, xf13, xf14, xf15, xf16, xf17, xf18, xf19⟩ := sd.cellsA
  obtain ⟨we, ee, se⟩ := sd.hand_all (restHd 2 0)
  go_upto_region 20 with fail
  rw [← ee.out]
  clear ee sd x0 x1 x2 x3 x4 x5 x6 x7 x8 x9 x10 x11 x12 x13 x14 x15 x16 x17 x18 x19 xf0 xf1 xf2 xf3 xf4 xf5 xf6 xf7 xf8 xf9 xf10 xf11 xf12 xf13 xf14 xf15 xf16 xf17 xf18 xf19
  refine wp_region_lit ?_
  refine wpList_load_mid (by rfl) 43 _ (by rfl) _ 0 (by rfl) [.int .i64 M.c, (.slice (some ⟨tg, 0, none⟩) M.tn tc), (.slice (some ⟨pg, 0, none⟩) M.pn pc), .int .i64 (restHd 2 0).pos, .int .i64 (restHd 2 0).call.code, .int .i64 (restHd 2 0).call.a, .int .i64 (restHd 2 0).call.b, .int .i64 (restHd 2 0).call.c, .int .i64 (restHd 2 0).tim, .int .i64 (restHd 2 0).whe, .bool (restHd 2 0).had, .int .i64 (restHd 2 0).cnt, .int .i64 (restHd 2 0).beg, .int .i64 (restHd 2 0).rep, .int .i64 (restHd 2 0).out, .int .i64 (evI KM 1 t h.whe).kin, .int .i64 (evI KM 1 t h.whe).tim, .int .i64 (evI KM 1 t h.whe).gen, .int .i64 (evI KM 1 t h.whe).whe, .int .i64 (evI KM 1 t h.whe).clk] _ (range_of_block se.a) Tryz.underlying43 rfl done_info ?_
  refine wpList_store_mid (by rfl) 43 _ _ (by rfl) _ 0 #[.int .i64 M.c, (.slice (some ⟨tg, 0, none⟩) M.tn tc), (.slice (some ⟨pg, 0, none⟩) M.pn pc), .int .i64 (restHd 2 0).pos, .int .i64 (restHd 2 0).call.code, .int .i64 (restHd 2 0).call.a, .int .i64 (restHd 2 0).call.b, .int .i64 (restHd 2 0).call.c, .int .i64 (restHd 2 0).tim, .int .i64 (restHd 2 0).whe, .bool (restHd 2 0).had, .int .i64 (restHd 2 0).cnt, .int .i64 (restHd 2 0).beg, .int .i64 (restHd 2 0).rep, .int .i64 (restHd 2 0).out, .int .i64 (evI KM 1 t h.whe).kin, .int .i64 (evI KM 1 t h.whe).tim, .int .i64 (evI KM 1 t h.whe).gen, .int .i64 (evI KM 1 t h.whe).whe, .int .i64 (evI KM 1 t h.whe).clk] (by rfl) (by rfl) se.there done_info (by simp [Value.oneCell']) ?_
  go_wp2
  exact bodyPost_ret (v := .tuple #[.agg #[.int .i64 M.c, (.slice (some ⟨tg, 0, none⟩) M.tn tc), (.slice (some ⟨pg, 0, none⟩) M.pn pc), .int .i64 (restHd 2 0).pos, .int .i64 (restHd 2 0).call.code, .int .i64 (restHd 2 0).call.a, .int .i64 (restHd 2 0).call.b, .int .i64 (restHd 2 0).call.c, .int .i64 (restHd 2 0).tim, .int .i64 (restHd 2 0).whe, .bool (restHd 2 0).had, .int .i64 (restHd 2 0).cnt, .int .i64 (restHd 2 0).beg, .int .i64 (restHd 2 0).rep, .int .i64 (restHd 2 0).out, .int .i64 (evI KM 1 t h.whe).kin, .int .i64 (evI KM 1 t h.whe).tim, .int .i64 (evI KM 1 t h.whe).gen, .int .i64 (evI KM 1 t h.whe).whe, .int .i64 (evI KM 1 t h.whe).clk], .bool true]) (results_pair (cs := [.int .i64 M.c, (.slice (some ⟨tg, 0, none⟩) M.tn tc), (.slice (some ⟨pg, 0, none⟩) M.pn pc), .int .i64 (restHd 2 0).pos, .int .i64 (restHd 2 0).call.code, .int .i64 (restHd 2 0).call.a, .int .i64 (restHd 2 0).call.b, .int .i64 (restHd 2 0).call.c, .int .i64 (restHd 2 0).tim, .int .i64 (restHd 2 0).whe, .bool (restHd 2 0).had, .int .i64 (restHd 2 0).cnt, .int .i64 (restHd 2 0).beg, .int .i64 (restHd 2 0).rep, .int .i64 (restHd 2 0).out, .int .i64 (evI KM 1 t h.whe).kin, .int .i64 (evI KM 1 t h.whe).tim, .int .i64 (evI KM 1 t h.whe).gen, .int .i64 (evI KM 1 t h.whe).whe, .int .i64 (evI KM 1 t h.whe).clk]) rfl rfl rfl se.lies Tryz.underlying43 rfl done_info) rfl (se.retC.toB true)

set_option maxRecDepth 100000 in
set_option maxHeartbeats 2000000 in
theorem l11Reset_B1_true {B t k : Nat} {G : Int} {tv pv : Value} {M : Me} {h : Hd} {v : Et} {w : World} (hB : B ≤ w.heap.size) (hk : 0 < M.pn) (hn : M.tn ≤ 1048576) (ht : 0 ≤ h.tim → h.tim.toNat < M.tn) (hp : ∀ i, i < M.tn → (M.t i).pl ≠ -1 → ∃ k : Nat, k < M.pn ∧ (M.t i).pl = (k : Int)) (hd : ∀ k, k < M.pn → 0 ≤ (M.p k).d ∧ (M.p k).d ≤ 1000) (hg : ∀ i, i < M.tn → 0 ≤ (M.t i).ge ∧ (M.t i).ge ≤ 100000) (h5p : ∀ i, i < M.tn → (M.t i).st = 5 → (M.t i).pl ≠ -1) (hpos : ¬ h.pos = 5) (hq : mineB ⟨M, h, v⟩ = true) (het : h.tim = (t : Int)) (ht2 : t < M.tn) (hkp : k < M.pn) (hpk : (M.t t).pl = (k : Int)) (hG : (M.t t).ge = G) (hg0 : 0 ≤ G) (hg1 : G ≤ 100000) (hh : h.had = true) (hlt : h.whe < (M.t t).wh) (hee : (M.p k).e < 0 ∨ h.whe < (M.p k).e) (hm : OwnMem w B tv pv M) :
    Calls Tryz.prog 35 #[dnV ⟨M, h, v⟩ tv pv] w (InDnB B (if resetB ⟨M, h, v⟩ then resetD ⟨M, h, v⟩ else dn0) (resetB ⟨M, h, v⟩) w) := by
  obtain ⟨KM, hKM⟩ : ∃ KM, keyM ⟨M, h, v⟩ = KM := ⟨_, rfl⟩
  have hKM2 : setPc { M with t := putT M.t t (⟨3, (M.t t).wh, h.whe, (M.t t).pe, (k : Int), minI (G + 1) 100000, (M.t t).ki, (M.t t).ma⟩ : Tm) } k 2 h.whe = KM := by
    rw [← hKM, keyM]
    simp only [het, Int.toNat_natCast]
    rw [if_pos hlt]; simp only [hpk, Int.toNat_natCast]; rw [if_pos hee, setTm_key, hpk, hG]
  rw [show InDnB B (if resetB ⟨M, h, v⟩ then resetD ⟨M, h, v⟩ else dn0) (resetB ⟨M, h, v⟩) w = InDnB B ⟨KM, restHd 2 0, evI KM 1 t h.whe⟩ true w by
    have e : resetB ⟨M, h, v⟩ = true := by simp [resetB, hpos, hq]
    rw [e, if_pos rfl, resetD, if_neg hpos, keyD, hKM]
    simp only [het, Int.toNat_natCast, hh, if_true, if_false, Bool.false_eq_true]]
  have ec : KM.c = M.c := by rw [← hKM2] <;> rfl
  have ep : KM.pn = M.pn := by rw [← hKM2] <;> rfl
  have et : KM.tn = M.tn := by rw [← hKM2] <;> rfl
  have q5 : (h.pos == 5) = false := by simpa using hpos
  have HQ := Lib.hid hq
  have HT := Lib.hid het
  have HK := Lib.hid hpk
  have HG := Lib.hid hG
  have HH := Lib.hid hh
  have HKM := Lib.hid hKM2
  have hltb : decide (h.whe < (M.t t).wh) = true := by simpa using hlt
  have he1 : decide ((M.p k).e < 0) = true ∨ (decide ((M.p k).e < 0) = false ∧ decide (h.whe < (M.p k).e) = true) := by
    by_cases e : (M.p k).e < 0
    · exact .inl (by simpa using e)
    · exact .inr ⟨by simpa using e, by simpa using hee.resolve_left e⟩
  clear hpos hq hp hd hg h5p het hpk hG hh hKM hKM2 hlt hee
  have hwr : IntKind.i64.wrap (G + 1) = G + 1 := by rw [IntKind.wrap_i64]; omega
  obtain ⟨pg, pc, V, rfl, ho⟩ := hm.openP hk
  clear hm
  obtain ⟨tg, tc, rfl, _⟩ := ho.tms ht2
  obtain ⟨w1, e1, s1⟩ := DSt.start h v hB ho
  clear ho
  obtain ⟨x0, x1, x2, x3, _⟩ := s1.cellsA
  go_enter Tryz.func35, Tryz.ntmps35
  go_upto_region 1 with fail
  rw [← e1.out]
  clear e1
  go_upto_region 3 with fail
  refine wp_region_lit ?_
  refine wpList_load_mid (by rfl) 43 _ (by rfl) _ 0 (by rfl) [.int .i64 M.c, (.slice (some ⟨tg, 0, none⟩) M.tn tc), (.slice (some ⟨pg, 0, none⟩) M.pn pc), .int .i64 h.pos, .int .i64 h.call.code, .int .i64 h.call.a, .int .i64 h.call.b, .int .i64 h.call.c, .int .i64 h.tim, .int .i64 h.whe, .bool h.had, .int .i64 h.cnt, .int .i64 h.beg, .int .i64 h.rep, .int .i64 h.out, .int .i64 v.kin, .int .i64 v.tim, .int .i64 v.gen, .int .i64 v.whe, .int .i64 v.clk] _ (range_of_block s1.a) Tryz.underlying43 rfl done_info ?_
  go_wp2_with fail
  go_at_call 40; refine (l10Mine_any ht s1.own).mono ?_; rw [HQ.out]; rintro e w2 ⟨rfl, hb⟩
  have s2 := s1.below hb
  clear s1 hb x0 x1 x2 x3
  obtain ⟨x0, x1, x2, x3, x4, x5, x6, x7, x8, x9, x10, x11, x12, x13, x14, x15, x16, x17, x18, x19, xf0, xf1, xf2, xf3, xf4, xf5, xf6, xf7, xf8, xf9, xf10, xf11, xf12, xf13, xf14, xf15, xf16, xf17, xf18, xf19⟩ := s2.cellsA
  rw [HT.out] at x8
  obtain ⟨⟨t0, t1, t2, t3, t4, t5, t6, t7⟩, _⟩ := s2.tcells ht2 rfl
  rw [HK.out] at t4
  rw [HG.out] at t5
  have i0 : (0 : Int) ≤ (t : Int) := by omega
  have i1 : (t : Int) < (M.tn : Int) := by omega
  have j0 : (0 : Int) ≤ (k : Int) := by omega
  have j1 : (k : Int) < (M.pn : Int) := by omega
  have kX := (Below.refl w2.heap.size w2).alloc (Nat.le_refl _) (.cells #[.int .i64 (M.t t).st, .int .i64 (M.t t).wh, .int .i64 (M.t t).nx, .int .i64 (M.t t).pe, .int .i64 (k : Int), .int .i64 G, .int .i64 (M.t t).ki, .int .i64 (M.t t).ma] 80)
  have hX := heap_alloc_new w2 (.cells #[.int .i64 (M.t t).st, .int .i64 (M.t t).wh, .int .i64 (M.t t).nx, .int .i64 (M.t t).pe, .int .i64 (k : Int), .int .i64 G, .int .i64 (M.t t).ki, .int .i64 (M.t t).ma] 80)
  have lX := s2.size
  have ltg := s2.tlt ht2
  go_upto_region 7 with fail
  obtain ⟨X, hXb⟩ : ∃ X, w2.heap.size = X := ⟨_, rfl⟩
  have hXle : w2.heap.size ≤ X := Nat.le_of_eq hXb
  rw [hXb] at hX lX ltg ⊢
  generalize hw3 : w2.alloc (.cells #[.int .i64 (M.t t).st, .int .i64 (M.t t).wh, .int .i64 (M.t t).nx, .int .i64 (M.t t).pe, .int .i64 (k : Int), .int .i64 G, .int .i64 (M.t t).ki, .int .i64 (M.t t).ma] 80) = w3 at hX kX ⊢
  clear hw3 hXb t0 t1 t2 t3 t4 t5 t6 t7 x0 x1 x2 x3 x4 x5 x6 x7 x8 x9 x10 x11 x12 x13 x14 x15 x16 x17 x18 x19 xf0 xf1 xf2 xf3 xf4 xf5 xf6 xf7 xf8 xf9 xf10 xf11 xf12 xf13 xf14 xf15 xf16 xf17 xf18 xf19
  have s3 := s2.below kX
  obtain ⟨_, _, _, _, _, _, _, _, _, x9, _⟩ := s3.cellsA
  have y0 : w3.cell? ⟨X, 0, none⟩ = some (.int .i64 (M.t t).st) := cell_of_block hX 0
  have y2 : w3.cell? ⟨X, 2, none⟩ = some (.int .i64 (M.t t).nx) := cell_of_block hX 2
  have y5 : w3.cell? ⟨X, 5, none⟩ = some (.int .i64 G) := cell_of_block hX 5
  have z0 := unfrozen_of_block hX 0; have z2 := unfrozen_of_block hX 2; have z5 := unfrozen_of_block hX 5
  have hXA : ¬ X = w.heap.size := by omega
  have hAX : ¬ w.heap.size = X := by omega
  go_wp2_with fail
  (try simp only [hwr])
  go_at_call 58; refine (l1Min_any _ _ _).mono ?_; rintro x wp ⟨rfl, rfl⟩
  have hX6 := block_setCell (i := 0) (block_setCell (i := 2) (block_setCell (i := 5) hX (.int .i64 (minI (G + 1) 100000))) (.int .i64 h.whe)) (.int .i64 4)
  simp only [List.setIfInBounds_toArray, List.set_cons_zero, List.set_cons_succ] at hX6
  have kk6 := ((kX.setCell (p := ⟨X, 5, none⟩) hXle (.int .i64 (minI (G + 1) 100000))).setCell (p := ⟨X, 2, none⟩) hXle (.int .i64 h.whe)).setCell (p := ⟨X, 0, none⟩) hXle (.int .i64 4)
  go_upto_region 10 with fail
  generalize hw6 : (((w3.setCell ⟨X, 5, none⟩ (.int .i64 (minI (G + 1) 100000))).setCell ⟨X, 2, none⟩ (.int .i64 h.whe)).setCell ⟨X, 0, none⟩ (.int .i64 4)) = w6 at hX6 kk6 ⊢
  clear hw6 s3 x9 y0 y2 y5 z0 z2 z5 hX kX
  have y1 : w6.cell? ⟨X, 1, none⟩ = some (.int .i64 (M.t t).wh) := cell_of_block hX6 1
  have y2 : w6.cell? ⟨X, 2, none⟩ = some (.int .i64 h.whe) := cell_of_block hX6 2
  have y0 : w6.cell? ⟨X, 0, none⟩ = some (.int .i64 4) := cell_of_block hX6 0
  have z0 := unfrozen_of_block hX6 0
  have hX7 := block_setCell (i := 0) hX6 (.int .i64 3)
  simp only [List.setIfInBounds_toArray, List.set_cons_zero, List.set_cons_succ] at hX7
  have kk7 := kk6.setCell (p := ⟨X, 0, none⟩) hXle (.int .i64 3)
  go_upto_region 12 with fail
  generalize hw7 : w6.setCell ⟨X, 0, none⟩ (.int .i64 3) = w7 at hX7 kk7 ⊢
  clear hw7 hX6 kk6 y0 z0 y1 y2
  have s7 := s2.below kk7
  obtain ⟨⟨ha, hc', hV, p0⟩, ⟨p1, p2, p3⟩, _⟩ := s7.pcells (k := k) hkp rfl
  obtain ⟨_, _, x2, _⟩ := s7.cellsA
  have y4 : w7.cell? ⟨X, 4, none⟩ = some (.int .i64 (k : Int)) := cell_of_block hX7 4
  have kQ := kk7.alloc kk7.size (.cells #[.slice ha (M.p k).n hc', .int .i64 (M.p k).l, .int .i64 (M.p k).e, .int .i64 (M.p k).d] 83)
  have hQ := heap_alloc_new w7 (.cells #[.slice ha (M.p k).n hc', .int .i64 (M.p k).l, .int .i64 (M.p k).e, .int .i64 (M.p k).d] 83)
  have hX8 := alloc_block (.cells #[.slice ha (M.p k).n hc', .int .i64 (M.p k).l, .int .i64 (M.p k).e, .int .i64 (M.p k).d] 83) hX7
  go_upto_region 13 with fail
  generalize hQb : w7.heap.size = Qb at hQ ⊢
  generalize hw8 : w7.alloc (.cells #[.slice ha (M.p k).n hc', .int .i64 (M.p k).l, .int .i64 (M.p k).e, .int .i64 (M.p k).d] 83) = w8 at kQ hQ hX8 ⊢
  clear hw8 hQb s7 hX7 kk7 p0 p1 p2 p3 x2 y4
  have s8 := s2.below kQ
  have u2 : w8.cell? ⟨Qb, 2, none⟩ = some (.int .i64 (M.p k).e) := cell_of_block hQ 2
  have y2 : w8.cell? ⟨X, 2, none⟩ = some (.int .i64 h.whe) := cell_of_block hX8 2
  have y4 : w8.cell? ⟨X, 4, none⟩ = some (.int .i64 (k : Int)) := cell_of_block hX8 4
  obtain ⟨_, x1, x2, _⟩ := s8.cellsA
  obtain ⟨_, ⟨_, p2, _⟩, pf⟩ := s8.pcells (k := k) hkp rfl
  have pf2 := pf (k * 4 + 2)
  clear pf
  obtain ⟨w9, e9, s9⟩ := s8.setP (k := k) 2 hkp (.inr (.inl rfl)) h.whe
  have hX9 := (heap_set_ne (w := w8) (b := pg) (g := X) (k * 4 + 2) (.int .i64 h.whe) (hpgX s2 hXle)).trans hX8
  rw [← e9.out] at hX9
  rcases he1 with he1 | ⟨he1, he2⟩
  all_goals
    go_upto_region 15 with fail
    rw [← e9.out]
    clear e9 s2 s8 kQ hX8 hQ u2 y2 y4 hXle p2 pf2 x1 x2
    obtain ⟨_, x1, _⟩ := s9.cellsA
    have lX9 := lt_of_block hX9
    obtain ⟨⟨t0, t1, t2, t3, t4, t5, t6, t7⟩, tf⟩ := s9.tcells (t := t) ht2 rfl
    have f0 := tf (t * 8); have f1 := tf (t * 8 + 1); have f2 := tf (t * 8 + 2); have f3 := tf (t * 8 + 3); have f4 := tf (t * 8 + 4); have f5 := tf (t * 8 + 5); have f6 := tf (t * 8 + 6); have f7 := tf (t * 8 + 7)
    obtain ⟨y0, y1, y2, y3, y4, y5, y6, y7⟩ : w9.cell? ⟨X, 0, none⟩ = some (.int .i64 3) ∧ w9.cell? ⟨X, 1, none⟩ = some (.int .i64 (M.t t).wh) ∧ w9.cell? ⟨X, 2, none⟩ = some (.int .i64 h.whe) ∧ w9.cell? ⟨X, 3, none⟩ = some (.int .i64 (M.t t).pe) ∧ w9.cell? ⟨X, 4, none⟩ = some (.int .i64 (k : Int)) ∧ w9.cell? ⟨X, 5, none⟩ = some (.int .i64 (minI (G + 1) 100000)) ∧ w9.cell? ⟨X, 6, none⟩ = some (.int .i64 (M.t t).ki) ∧ w9.cell? ⟨X, 7, none⟩ = some (.int .i64 (M.t t).ma) := ⟨cell_of_block hX9 0, cell_of_block hX9 1, cell_of_block hX9 2, cell_of_block hX9 3, cell_of_block hX9 4, cell_of_block hX9 5, cell_of_block hX9 6, cell_of_block hX9 7⟩
    obtain ⟨wa, ea, sa⟩ := dst_putT s9 (t := t) ht2 (⟨3, (M.t t).wh, h.whe, (M.t t).pe, (k : Int), minI (G + 1) 100000, (M.t t).ki, (M.t t).ma⟩ : Tm)
    have hE : ({ (setPc M k 2 h.whe) with t := putT (setPc M k 2 h.whe).t t (⟨3, (M.t t).wh, h.whe, (M.t t).pe, (k : Int), minI (G + 1) 100000, (M.t t).ki, (M.t t).ma⟩ : Tm) } : Me) = KM := HKM.out
    rw [hE] at sa
    clear hE
    have hXa := (heap_setT_ne w9 tg t (⟨3, (M.t t).wh, h.whe, (M.t t).pe, (k : Int), minI (G + 1) 100000, (M.t t).ki, (M.t t).ma⟩ : Tm) (g := X) (by omega)).trans hX9
    rw [← ea.out] at hXa
    dsimp only [setT] at ea
    go_upto_region 16 with fail
    rw [← ea.out]
    clear ea s9 hX9 tf t0 t1 t2 t3 t4 t5 t6 t7 f0 f1 f2 f3 f4 f5 f6 f7 y0 y1 y2 y3 y4 y5 y6 y7 x1
    have y2 : wa.cell? ⟨X, 2, none⟩ = some (.int .i64 h.whe) := cell_of_block hXa 2
    have hEv := l9Ev_any (w := wa) 1 h.whe (show t < KM.tn by rw [et]; exact ht2) sa.own
    rw [ec] at hEv
    have HEv := Lib.hid hEv
    clear hEv
    obtain ⟨x0, x1, x2, x3, x4, x5, x6, x7, x8, x9, x10, x11, x12, x13, x14, x15, x16, x17, x18, x19, xf0, xf1, xf2, xf3, xf4, xf5, xf6, xf7, xf8, xf9, xf10, xf11, xf12, xf13, xf14, xf15, xf16, xf17, xf18, xf19⟩ := sa.cellsA
    go_wp2_with fail
    go_at_call 59; refine HEv.out.mono ?_; rintro e wb ⟨rfl, hb⟩
    have sb := sa.below hb
    clear sa HEv hb hXa y2 x0 x1 x2 x3 x4 x5 x6 x7 x8 x9 x10 x11 x12 x13 x14 x15 x16 x17 x18 x19 xf0 xf1 xf2 xf3 xf4 xf5 xf6 xf7 xf8 xf9 xf10 xf11 xf12 xf13 xf14 xf15 xf16 xf17 xf18 xf19
    obtain ⟨x0, x1, x2, x3, x4, x5, x6, x7, x8, x9, x10, x11, x12, x13, x14, x15, x16, x17, x18, x19, xf0, xf1, xf2, xf3, xf4, xf5, xf6, xf7, xf8, xf9, xf10, xf11, xf12, xf13, xf14, xf15, xf16, xf17, xf18, xf19⟩ := sb.cellsA
    obtain ⟨wc, ec', sc⟩ := sb.ev_all (evI KM 1 t h.whe)
    go_upto_region 17 with fail
    rw [← ec'.out]
    clear ec' sb x0 x1 x2 x3 x4 x5 x6 x7 x8 x9 x10 x11 x12 x13 x14 x15 x16 x17 x18 x19 xf0 xf1 xf2 xf3 xf4 xf5 xf6 xf7 xf8 xf9 xf10 xf11 xf12 xf13 xf14 xf15 xf16 xf17 xf18 xf19
    obtain ⟨x0, x1, x2, x3, x4, x5, x6, x7, x8, x9, x10, x11, x12, x13, x14, x15, x16, x17, x18, x19, xf0, xf1, xf2, xf3, xf4, xf5, xf6, xf7, xf8, xf9, xf10, xf11, xf12, xf13, xf14, xf15, xf16, xf17, xf18, xf19⟩ := sc.cellsA
    rw [HH.out] at x10
    go_upto_region 18 with fail
    go_wp2_with fail
    go_at_call 41; refine (spResting_any 2 0 _).mono ?_; rintro e wd ⟨rfl, hb⟩
    have sd := sc.below hb
    clear sc hb x0 x1 x2 x3 x4 x5 x6 x7 x8 x9 x10 x11 x12 x13 x14 x15 x16 x17 x18 x19 xf0 xf1 xf2 xf3 xf4 xf5 xf6 xf7 xf8 xf9 xf10 xf11 xf12 xf13 xf14 xf15 xf16 xf17 xf18 xf19
    obtain ⟨x0, x1, x2, x3, x4, x5, x6, x7, x8, x9, x10, x11, x12, x13, x14, x15, x16, x17, x18, x19, xf0, xf1, xf2, xf3, xf4, xf5, xf6, xf7, xf8, xf9, xf10, xf11, xf12, xf13, xf14, xf15, xf16, xf17, xf18, xf19⟩ := sd.cellsA
    obtain ⟨we, ee, se⟩ := sd.hand_all (restHd 2 0)
    go_upto_region 20 with fail
    rw [← ee.out]
    clear ee sd x0 x1 x2 x3 x4 x5 x6 x7 x8 x9 x10 x11 x12 x13 x14 x15 x16 x17 x18 x19 xf0 xf1 xf2 xf3 xf4 xf5 xf6 xf7 xf8 xf9 xf10 xf11 xf12 xf13 xf14 xf15 xf16 xf17 xf18 xf19
    refine wp_region_lit ?_
    refine wpList_load_mid (by rfl) 43 _ (by rfl) _ 0 (by rfl) [.int .i64 M.c, (.slice (some ⟨tg, 0, none⟩) M.tn tc), (.slice (some ⟨pg, 0, none⟩) M.pn pc), .int .i64 (restHd 2 0).pos, .int .i64 (restHd 2 0).call.code, .int .i64 (restHd 2 0).call.a, .int .i64 (restHd 2 0).call.b, .int .i64 (restHd 2 0).call.c, .int .i64 (restHd 2 0).tim, .int .i64 (restHd 2 0).whe, .bool (restHd 2 0).had, .int .i64 (restHd 2 0).cnt, .int .i64 (restHd 2 0).beg, .int .i64 (restHd 2 0).rep, .int .i64 (restHd 2 0).out, .int .i64 (evI KM 1 t h.whe).kin, .int .i64 (evI KM 1 t h.whe).tim, .int .i64 (evI KM 1 t h.whe).gen, .int .i64 (evI KM 1 t h.whe).whe, .int .i64 (evI KM 1 t h.whe).clk] _ (range_of_block se.a) Tryz.underlying43 rfl done_info ?_
    refine wpList_store_mid (by rfl) 43 _ _ (by rfl) _ 0 #[.int .i64 M.c, (.slice (some ⟨tg, 0, none⟩) M.tn tc), (.slice (some ⟨pg, 0, none⟩) M.pn pc), .int .i64 (restHd 2 0).pos, .int .i64 (restHd 2 0).call.code, .int .i64 (restHd 2 0).call.a, .int .i64 (restHd 2 0).call.b, .int .i64 (restHd 2 0).call.c, .int .i64 (restHd 2 0).tim, .int .i64 (restHd 2 0).whe, .bool (restHd 2 0).had, .int .i64 (restHd 2 0).cnt, .int .i64 (restHd 2 0).beg, .int .i64 (restHd 2 0).rep, .int .i64 (restHd 2 0).out, .int .i64 (evI KM 1 t h.whe).kin, .int .i64 (evI KM 1 t h.whe).tim, .int .i64 (evI KM 1 t h.whe).gen, .int .i64 (evI KM 1 t h.whe).whe, .int .i64 (evI KM 1 t h.whe).clk] (by rfl) (by rfl) se.there done_info (by simp [Value.oneCell']) ?_
    go_wp2
    exact bodyPost_ret (v := .tuple #[.agg #[.int .i64 M.c, (.slice (some ⟨tg, 0, none⟩) M.tn tc), (.slice (some ⟨pg, 0, none⟩) M.pn pc), .int .i64 (restHd 2 0).pos, .int .i64 (restHd 2 0).call.code, .int .i64 (restHd 2 0).call.a, .int .i64 (restHd 2 0).call.b, .int .i64 (restHd 2 0).call.c, .int .i64 (restHd 2 0).tim, .int .i64 (restHd 2 0).whe, .bool (restHd 2 0).had, .int .i64 (restHd 2 0).cnt, .int .i64 (restHd 2 0).beg, .int .i64 (restHd 2 0).rep, .int .i64 (restHd 2 0).out, .int .i64 (evI KM 1 t h.whe).kin, .int .i64 (evI KM 1 t h.whe).tim, .int .i64 (evI KM 1 t h.whe).gen, .int .i64 (evI KM 1 t h.whe).whe, .int .i64 (evI KM 1 t h.whe).clk], .bool true]) (results_pair (cs := [.int .i64 M.c, (.slice (some ⟨tg, 0, none⟩) M.tn tc), (.slice (some ⟨pg, 0, none⟩) M.pn pc), .int .i64 (restHd 2 0).pos, .int .i64 (restHd 2 0).call.code, .int .i64 (restHd 2 0).call.a, .int .i64 (restHd 2 0).call.b, .int .i64 (restHd 2 0).call.c, .int .i64 (restHd 2 0).tim, .int .i64 (restHd 2 0).whe, .bool (restHd 2 0).had, .int .i64 (restHd 2 0).cnt, .int .i64 (restHd 2 0).beg, .int .i64 (restHd 2 0).rep, .int .i64 (restHd 2 0).out, .int .i64 (evI KM 1 t h.whe).kin, .int .i64 (evI KM 1 t h.whe).tim, .int .i64 (evI KM 1 t h.whe).gen, .int .i64 (evI KM 1 t h.whe).whe, .int .i64 (evI KM 1 t h.whe).clk]) rfl rfl rfl se.lies Tryz.underlying43 rfl done_info) rfl (se.retC.toB true)

set_option maxRecDepth 100000 in
set_option maxHeartbeats 2000000 in
theorem l11Reset_B2_true {B t k : Nat} {G : Int} {tv pv : Value} {M : Me} {h : Hd} {v : Et} {w : World} (hB : B ≤ w.heap.size) (hk : 0 < M.pn) (hn : M.tn ≤ 1048576) (ht : 0 ≤ h.tim → h.tim.toNat < M.tn) (hp : ∀ i, i < M.tn → (M.t i).pl ≠ -1 → ∃ k : Nat, k < M.pn ∧ (M.t i).pl = (k : Int)) (hd : ∀ k, k < M.pn → 0 ≤ (M.p k).d ∧ (M.p k).d ≤ 1000) (hg : ∀ i, i < M.tn → 0 ≤ (M.t i).ge ∧ (M.t i).ge ≤ 100000) (h5p : ∀ i, i < M.tn → (M.t i).st = 5 → (M.t i).pl ≠ -1) (hpos : ¬ h.pos = 5) (hq : mineB ⟨M, h, v⟩ = true) (het : h.tim = (t : Int)) (ht2 : t < M.tn) (hkp : k < M.pn) (hpk : (M.t t).pl = (k : Int)) (hG : (M.t t).ge = G) (hg0 : 0 ≤ G) (hg1 : G ≤ 100000) (hh : h.had = true) (hlt : h.whe < (M.t t).wh) (hee : ¬ ((M.p k).e < 0 ∨ h.whe < (M.p k).e)) (hm : OwnMem w B tv pv M) :
    Calls Tryz.prog 35 #[dnV ⟨M, h, v⟩ tv pv] w (InDnB B (if resetB ⟨M, h, v⟩ then resetD ⟨M, h, v⟩ else dn0) (resetB ⟨M, h, v⟩) w) := by
  obtain ⟨KM, hKM⟩ : ∃ KM, keyM ⟨M, h, v⟩ = KM := ⟨_, rfl⟩
  have hKM2 : { M with t := putT M.t t (⟨3, (M.t t).wh, h.whe, (M.t t).pe, (k : Int), minI (G + 1) 100000, (M.t t).ki, (M.t t).ma⟩ : Tm) } = KM := by
    rw [← hKM, keyM]
    simp only [het, Int.toNat_natCast]
    rw [if_pos hlt]; simp only [hpk, Int.toNat_natCast]; rw [if_neg hee, setTm_key, hpk, hG]
  rw [show InDnB B (if resetB ⟨M, h, v⟩ then resetD ⟨M, h, v⟩ else dn0) (resetB ⟨M, h, v⟩) w = InDnB B ⟨KM, restHd 2 0, evI KM 1 t h.whe⟩ true w by
    have e : resetB ⟨M, h, v⟩ = true := by simp [resetB, hpos, hq]
    rw [e, if_pos rfl, resetD, if_neg hpos, keyD, hKM]
    simp only [het, Int.toNat_natCast, hh, if_true, if_false, Bool.false_eq_true]]
  have ec : KM.c = M.c := by rw [← hKM2] <;> rfl
  have ep : KM.pn = M.pn := by rw [← hKM2] <;> rfl
  have et : KM.tn = M.tn := by rw [← hKM2] <;> rfl
  have q5 : (h.pos == 5) = false := by simpa using hpos
  have HQ := Lib.hid hq
  have HT := Lib.hid het
  have HK := Lib.hid hpk
  have HG := Lib.hid hG
  have HH := Lib.hid hh
  have HKM := Lib.hid hKM2
  have hltb : decide (h.whe < (M.t t).wh) = true := by simpa using hlt
  have he1 : decide ((M.p k).e < 0) = false := by simpa using fun e => hee (.inl e)
  have he2 : decide (h.whe < (M.p k).e) = false := by simpa using fun e => hee (.inr e)
  clear hpos hq hp hd hg h5p het hpk hG hh hKM hKM2 hlt hee
  have hwr : IntKind.i64.wrap (G + 1) = G + 1 := by rw [IntKind.wrap_i64]; omega
  obtain ⟨pg, pc, V, rfl, ho⟩ := hm.openP hk
  clear hm
  obtain ⟨tg, tc, rfl, _⟩ := ho.tms ht2
  obtain ⟨w1, e1, s1⟩ := DSt.start h v hB ho
  clear ho
  obtain ⟨x0, x1, x2, x3, _⟩ := s1.cellsA
  go_enter Tryz.func35, Tryz.ntmps35
  go_upto_region 1 with fail
  rw [← e1.out]
  clear e1
  go_upto_region 3 with fail
  refine wp_region_lit ?_
  refine wpList_load_mid (by rfl) 43 _ (by rfl) _ 0 (by rfl) [.int .i64 M.c, (.slice (some ⟨tg, 0, none⟩) M.tn tc), (.slice (some ⟨pg, 0, none⟩) M.pn pc), .int .i64 h.pos, .int .i64 h.call.code, .int .i64 h.call.a, .int .i64 h.call.b, .int .i64 h.call.c, .int .i64 h.tim, .int .i64 h.whe, .bool h.had, .int .i64 h.cnt, .int .i64 h.beg, .int .i64 h.rep, .int .i64 h.out, .int .i64 v.kin, .int .i64 v.tim, .int .i64 v.gen, .int .i64 v.whe, .int .i64 v.clk] _ (range_of_block s1.a) Tryz.underlying43 rfl done_info ?_
  go_wp2_with fail
  go_at_call 40; refine (l10Mine_any ht s1.own).mono ?_; rw [HQ.out]; rintro e w2 ⟨rfl, hb⟩
  have s2 := s1.below hb
  clear s1 hb x0 x1 x2 x3
  obtain ⟨x0, x1, x2, x3, x4, x5, x6, x7, x8, x9, x10, x11, x12, x13, x14, x15, x16, x17, x18, x19, xf0, xf1, xf2, xf3, xf4, xf5, xf6, xf7, xf8, xf9, xf10, xf11, xf12, xf13, xf14, xf15, xf16, xf17, xf18, xf19⟩ := s2.cellsA
  rw [HT.out] at x8
  obtain ⟨⟨t0, t1, t2, t3, t4, t5, t6, t7⟩, _⟩ := s2.tcells ht2 rfl
  rw [HK.out] at t4
  rw [HG.out] at t5
  have i0 : (0 : Int) ≤ (t : Int) := by omega
  have i1 : (t : Int) < (M.tn : Int) := by omega
  have j0 : (0 : Int) ≤ (k : Int) := by omega
  have j1 : (k : Int) < (M.pn : Int) := by omega
  have kX := (Below.refl w2.heap.size w2).alloc (Nat.le_refl _) (.cells #[.int .i64 (M.t t).st, .int .i64 (M.t t).wh, .int .i64 (M.t t).nx, .int .i64 (M.t t).pe, .int .i64 (k : Int), .int .i64 G, .int .i64 (M.t t).ki, .int .i64 (M.t t).ma] 80)
  have hX := heap_alloc_new w2 (.cells #[.int .i64 (M.t t).st, .int .i64 (M.t t).wh, .int .i64 (M.t t).nx, .int .i64 (M.t t).pe, .int .i64 (k : Int), .int .i64 G, .int .i64 (M.t t).ki, .int .i64 (M.t t).ma] 80)
  have lX := s2.size
  have ltg := s2.tlt ht2
  go_upto_region 7 with fail
  obtain ⟨X, hXb⟩ : ∃ X, w2.heap.size = X := ⟨_, rfl⟩
  have hXle : w2.heap.size ≤ X := Nat.le_of_eq hXb
  rw [hXb] at hX lX ltg ⊢
  generalize hw3 : w2.alloc (.cells #[.int .i64 (M.t t).st, .int .i64 (M.t t).wh, .int .i64 (M.t t).nx, .int .i64 (M.t t).pe, .int .i64 (k : Int), .int .i64 G, .int .i64 (M.t t).ki, .int .i64 (M.t t).ma] 80) = w3 at hX kX ⊢
  clear hw3 hXb t0 t1 t2 t3 t4 t5 t6 t7 x0 x1 x2 x3 x4 x5 x6 x7 x8 x9 x10 x11 x12 x13 x14 x15 x16 x17 x18 x19 xf0 xf1 xf2 xf3 xf4 xf5 xf6 xf7 xf8 xf9 xf10 xf11 xf12 xf13 xf14 xf15 xf16 xf17 xf18 xf19
  have s3 := s2.below kX
  obtain ⟨_, _, _, _, _, _, _, _, _, x9, _⟩ := s3.cellsA
  have y0 : w3.cell? ⟨X, 0, none⟩ = some (.int .i64 (M.t t).st) := cell_of_block hX 0
  have y2 : w3.cell? ⟨X, 2, none⟩ = some (.int .i64 (M.t t).nx) := cell_of_block hX 2
  have y5 : w3.cell? ⟨X, 5, none⟩ = some (.int .i64 G) := cell_of_block hX 5
  have z0 := unfrozen_of_block hX 0; have z2 := unfrozen_of_block hX 2; have z5 := unfrozen_of_block hX 5
  have hXA : ¬ X = w.heap.size := by omega
  have hAX : ¬ w.heap.size = X := by omega
  go_wp2_with fail
  (try simp only [hwr])
  go_at_call 58; refine (l1Min_any _ _ _).mono ?_; rintro x wp ⟨rfl, rfl⟩
  have hX6 := block_setCell (i := 0) (block_setCell (i := 2) (block_setCell (i := 5) hX (.int .i64 (minI (G + 1) 100000))) (.int .i64 h.whe)) (.int .i64 4)
  simp only [List.setIfInBounds_toArray, List.set_cons_zero, List.set_cons_succ] at hX6
  have kk6 := ((kX.setCell (p := ⟨X, 5, none⟩) hXle (.int .i64 (minI (G + 1) 100000))).setCell (p := ⟨X, 2, none⟩) hXle (.int .i64 h.whe)).setCell (p := ⟨X, 0, none⟩) hXle (.int .i64 4)
  go_upto_region 10 with fail
  generalize hw6 : (((w3.setCell ⟨X, 5, none⟩ (.int .i64 (minI (G + 1) 100000))).setCell ⟨X, 2, none⟩ (.int .i64 h.whe)).setCell ⟨X, 0, none⟩ (.int .i64 4)) = w6 at hX6 kk6 ⊢
  clear hw6 s3 x9 y0 y2 y5 z0 z2 z5 hX kX
  have y1 : w6.cell? ⟨X, 1, none⟩ = some (.int .i64 (M.t t).wh) := cell_of_block hX6 1
  have y2 : w6.cell? ⟨X, 2, none⟩ = some (.int .i64 h.whe) := cell_of_block hX6 2
  have y0 : w6.cell? ⟨X, 0, none⟩ = some (.int .i64 4) := cell_of_block hX6 0
  have z0 := unfrozen_of_block hX6 0
  have hX7 := block_setCell (i := 0) hX6 (.int .i64 3)
  simp only [List.setIfInBounds_toArray, List.set_cons_zero, List.set_cons_succ] at hX7
  have kk7 := kk6.setCell (p := ⟨X, 0, none⟩) hXle (.int .i64 3)
  go_upto_region 12 with fail
  generalize hw7 : w6.setCell ⟨X, 0, none⟩ (.int .i64 3) = w7 at hX7 kk7 ⊢
  clear hw7 hX6 kk6 y0 z0 y1 y2
  have s7 := s2.below kk7
  obtain ⟨⟨ha, hc', hV, p0⟩, ⟨p1, p2, p3⟩, _⟩ := s7.pcells (k := k) hkp rfl
  obtain ⟨_, _, x2, _⟩ := s7.cellsA
  have y4 : w7.cell? ⟨X, 4, none⟩ = some (.int .i64 (k : Int)) := cell_of_block hX7 4
  have kQ := kk7.alloc kk7.size (.cells #[.slice ha (M.p k).n hc', .int .i64 (M.p k).l, .int .i64 (M.p k).e, .int .i64 (M.p k).d] 83)
  have hQ := heap_alloc_new w7 (.cells #[.slice ha (M.p k).n hc', .int .i64 (M.p k).l, .int .i64 (M.p k).e, .int .i64 (M.p k).d] 83)
  have hX8 := alloc_block (.cells #[.slice ha (M.p k).n hc', .int .i64 (M.p k).l, .int .i64 (M.p k).e, .int .i64 (M.p k).d] 83) hX7
  go_upto_region 13 with fail
  generalize hQb : w7.heap.size = Qb at hQ ⊢
  generalize hw8 : w7.alloc (.cells #[.slice ha (M.p k).n hc', .int .i64 (M.p k).l, .int .i64 (M.p k).e, .int .i64 (M.p k).d] 83) = w8 at kQ hQ hX8 ⊢
  clear hw8 hQb s7 hX7 kk7 p0 p1 p2 p3 x2 y4
  have s8 := s2.below kQ
  have u2 : w8.cell? ⟨Qb, 2, none⟩ = some (.int .i64 (M.p k).e) := cell_of_block hQ 2
  have y2 : w8.cell? ⟨X, 2, none⟩ = some (.int .i64 h.whe) := cell_of_block hX8 2
  have y4 : w8.cell? ⟨X, 4, none⟩ = some (.int .i64 (k : Int)) := cell_of_block hX8 4
  obtain ⟨_, x1, x2, _⟩ := s8.cellsA
  have s9 := s8
  have hX9 := hX8
  go_upto_region 15 with fail
  have lX9 := lt_of_block hX9
  clear s2 s8 kQ hX8 hQ u2 y2 y4 hXle
  obtain ⟨⟨t0, t1, t2, t3, t4, t5, t6, t7⟩, tf⟩ := s9.tcells (t := t) ht2 rfl
  have f0 := tf (t * 8); have f1 := tf (t * 8 + 1); have f2 := tf (t * 8 + 2); have f3 := tf (t * 8 + 3); have f4 := tf (t * 8 + 4); have f5 := tf (t * 8 + 5); have f6 := tf (t * 8 + 6); have f7 := tf (t * 8 + 7)
  obtain ⟨y0, y1, y2, y3, y4, y5, y6, y7⟩ : w8.cell? ⟨X, 0, none⟩ = some (.int .i64 3) ∧ w8.cell? ⟨X, 1, none⟩ = some (.int .i64 (M.t t).wh) ∧ w8.cell? ⟨X, 2, none⟩ = some (.int .i64 h.whe) ∧ w8.cell? ⟨X, 3, none⟩ = some (.int .i64 (M.t t).pe) ∧ w8.cell? ⟨X, 4, none⟩ = some (.int .i64 (k : Int)) ∧ w8.cell? ⟨X, 5, none⟩ = some (.int .i64 (minI (G + 1) 100000)) ∧ w8.cell? ⟨X, 6, none⟩ = some (.int .i64 (M.t t).ki) ∧ w8.cell? ⟨X, 7, none⟩ = some (.int .i64 (M.t t).ma) := ⟨cell_of_block hX9 0, cell_of_block hX9 1, cell_of_block hX9 2, cell_of_block hX9 3, cell_of_block hX9 4, cell_of_block hX9 5, cell_of_block hX9 6, cell_of_block hX9 7⟩
  obtain ⟨wa, ea, sa⟩ := dst_putT s9 (t := t) ht2 (⟨3, (M.t t).wh, h.whe, (M.t t).pe, (k : Int), minI (G + 1) 100000, (M.t t).ki, (M.t t).ma⟩ : Tm)
  have hE : ({ M with t := putT M.t t (⟨3, (M.t t).wh, h.whe, (M.t t).pe, (k : Int), minI (G + 1) 100000, (M.t t).ki, (M.t t).ma⟩ : Tm) } : Me) = KM := HKM.out
  rw [hE] at sa
  clear hE
  have hXa := (heap_setT_ne w8 tg t (⟨3, (M.t t).wh, h.whe, (M.t t).pe, (k : Int), minI (G + 1) 100000, (M.t t).ki, (M.t t).ma⟩ : Tm) (g := X) (by omega)).trans hX9
  rw [← ea.out] at hXa
  dsimp only [setT] at ea
  go_upto_region 16 with fail
  rw [← ea.out]
  clear ea s9 hX9 tf t0 t1 t2 t3 t4 t5 t6 t7 f0 f1 f2 f3 f4 f5 f6 f7 y0 y1 y2 y3 y4 y5 y6 y7 x1
  have y2 : wa.cell? ⟨X, 2, none⟩ = some (.int .i64 h.whe) := cell_of_block hXa 2
  have hEv := l9Ev_any (w := wa) 1 h.whe (show t < KM.tn by rw [et]; exact ht2) sa.own
  rw [ec] at hEv
  have HEv := Lib.hid hEv
  clear hEv
  obtain ⟨x0, x1, x2, x3, x4, x5, x6, x7, x8, x9, x10, x11, x12, x13, x14, x15, x16, x17, x18, x19, xf0, xf1, xf2, xf3, xf4, xf5, xf6, xf7, xf8, xf9, xf10, xf11, xf12, xf13, xf14, xf15, xf16, xf17, xf18, xf19⟩ := sa.cellsA
  go_wp2_with fail
  go_at_call 59; refine HEv.out.mono ?_; rintro e wb ⟨rfl, hb⟩
  have sb := sa.below hb
  clear sa HEv hb hXa y2 x0 x1 x2 x3 x4 x5 x6 x7 x8 x9 x10 x11 x12 x13 x14 x15 x16 x17 x18 x19 xf0 xf1 xf2 xf3 xf4 xf5 xf6 xf7 xf8 xf9 xf10 xf11 xf12 xf13 xf14 xf15 xf16 xf17 xf18 xf19
  obtain ⟨x0, x1, x2, x3, x4, x5, x6, x7, x8, x9, x10, x11, x12, x13, x14, x15, x16, x17, x18, x19, xf0, xf1, xf2, xf3, xf4, xf5, xf6, xf7, xf8, xf9, xf10, xf11, xf12, xf13, xf14, xf15, xf16, xf17, xf18, xf19⟩ := sb.cellsA
  obtain ⟨wc, ec', sc⟩ := sb.ev_all (evI KM 1 t h.whe)
  go_upto_region 17 with fail
  rw [← ec'.out]
  clear ec' sb x0 x1 x2 x3 x4 x5 x6 x7 x8 x9 x10 x11 x12 x13 x14 x15 x16 x17 x18 x19 xf0 xf1 xf2 xf3 xf4 xf5 xf6 xf7 xf8 xf9 xf10 xf11 xf12 xf13 xf14 xf15 xf16 xf17 xf18 xf19
  obtain ⟨x0, x1, x2, x3, x4, x5, x6, x7, x8, x9, x10, x11, x12, x13, x14, x15, x16, x17, x18, x19, xf0, xf1, xf2, xf3, xf4, xf5, xf6, xf7, xf8, xf9, xf10, xf11, xf12, xf13, xf14, xf15, xf16, xf17, xf18, xf19⟩ := sc.cellsA
  rw [HH.out] at x10
  go_upto_region 18 with fail
  go_wp2_with fail
  go_at_call 41; refine (spResting_any 2 0 _).mono ?_; rintro e wd ⟨rfl, hb⟩
  have sd := sc.below hb
  clear sc hb x0 x1 x2 x3 x4 x5 x6 x7 x8 x9 x10 x11 x12 x13 x14 x15 x16 x17 x18 x19 xf0 xf1 xf2 xf3 xf4 xf5 xf6 xf7 xf8 xf9 xf10 xf11 xf12 xf13 xf14 xf15 xf16 xf17 xf18 xf19
  obtain ⟨x0, x1, x2, x3, x4, x5, x6, x7, x8, x9, x10, x11, x12, x13, x14, x15, x16, x17, x18, x19, xf0, xf1, xf2, xf3, xf4, xf5, xf6, xf7, xf8, xf9, xf10, xf11, xf12, xf13, xf14, xf15, xf16, xf17, xf18, xf19⟩ := sd.cellsA
  obtain ⟨we, ee, se⟩ := sd.hand_all (restHd 2 0)
  go_upto_region 20 with fail
  rw [← ee.out]
  clear ee sd x0 x1 x2 x3 x4 x5 x6 x7 x8 x9 x10 x11 x12 x13 x14 x15 x16 x17 x18 x19 xf0 xf1 xf2 xf3 xf4 xf5 xf6 xf7 xf8 xf9 xf10 xf11 xf12 xf13 xf14 xf15 xf16 xf17 xf18 xf19
  refine wp_region_lit ?_
  refine wpList_load_mid (by rfl) 43 _ (by rfl) _ 0 (by rfl) [.int .i64 M.c, (.slice (some ⟨tg, 0, none⟩) M.tn tc), (.slice (some ⟨pg, 0, none⟩) M.pn pc), .int .i64 (restHd 2 0).pos, .int .i64 (restHd 2 0).call.code, .int .i64 (restHd 2 0).call.a, .int .i64 (restHd 2 0).call.b, .int .i64 (restHd 2 0).call.c, .int .i64 (restHd 2 0).tim, .int .i64 (restHd 2 0).whe, .bool (restHd 2 0).had, .int .i64 (restHd 2 0).cnt, .int .i64 (restHd 2 0).beg, .int .i64 (restHd 2 0).rep, .int .i64 (restHd 2 0).out, .int .i64 (evI KM 1 t h.whe).kin, .int .i64 (evI KM 1 t h.whe).tim, .int .i64 (evI KM 1 t h.whe).gen, .int .i64 (evI KM 1 t h.whe).whe, .int .i64 (evI KM 1 t h.whe).clk] _ (range_of_block se.a) Tryz.underlying43 rfl done_info ?_
  refine wpList_store_mid (by rfl) 43 _ _ (by rfl) _ 0 #[.int .i64 M.c, (.slice (some ⟨tg, 0, none⟩) M.tn tc), (.slice (some ⟨pg, 0, none⟩) M.pn pc), .int .i64 (restHd 2 0).pos, .int .i64 (restHd 2 0).call.code, .int .i64 (restHd 2 0).call.a, .int .i64 (restHd 2 0).call.b, .int .i64 (restHd 2 0).call.c, .int .i64 (restHd 2 0).tim, .int .i64 (restHd 2 0).whe, .bool (restHd 2 0).had, .int .i64 (restHd 2 0).cnt, .int .i64 (restHd 2 0).beg, .int .i64 (restHd 2 0).rep, .int .i64 (restHd 2 0).out, .int .i64 (evI KM 1 t h.whe).kin, .int .i64 (evI KM 1 t h.whe).tim, .int .i64 (evI KM 1 t h.whe).gen, .int .i64 (evI KM 1 t h.whe).whe, .int .i64 (evI KM 1 t h.whe).clk] (by rfl) (by rfl) se.there done_info (by simp [Value.oneCell']) ?_
  go_wp2
  exact bodyPost_ret (v := .tuple #[.agg #[.int .i64 M.c, (.slice (some ⟨tg, 0, none⟩) M.tn tc), (.slice (some ⟨pg, 0, none⟩) M.pn pc), .int .i64 (restHd 2 0).pos, .int .i64 (restHd 2 0).call.code, .int .i64 (restHd 2 0).call.a, .int .i64 (restHd 2 0).call.b, .int .i64 (restHd 2 0).call.c, .int .i64 (restHd 2 0).tim, .int .i64 (restHd 2 0).whe, .bool (restHd 2 0).had, .int .i64 (restHd 2 0).cnt, .int .i64 (restHd 2 0).beg, .int .i64 (restHd 2 0).rep, .int .i64 (restHd 2 0).out, .int .i64 (evI KM 1 t h.whe).kin, .int .i64 (evI KM 1 t h.whe).tim, .int .i64 (evI KM 1 t h.whe).gen, .int .i64 (evI KM 1 t h.whe).whe, .int .i64 (evI KM 1 t h.whe).clk], .bool true]) (results_pair (cs := [.int .i64 M.c, (.slice (some ⟨tg, 0, none⟩) M.tn tc), (.slice (some ⟨pg, 0, none⟩) M.pn pc), .int .i64 (restHd 2 0).pos, .int .i64 (restHd 2 0).call.code, .int .i64 (restHd 2 0).call.a, .int .i64 (restHd 2 0).call.b, .int .i64 (restHd 2 0).call.c, .int .i64 (restHd 2 0).tim, .int .i64 (restHd 2 0).whe, .bool (restHd 2 0).had, .int .i64 (restHd 2 0).cnt, .int .i64 (restHd 2 0).beg, .int .i64 (restHd 2 0).rep, .int .i64 (restHd 2 0).out, .int .i64 (evI KM 1 t h.whe).kin, .int .i64 (evI KM 1 t h.whe).tim, .int .i64 (evI KM 1 t h.whe).gen, .int .i64 (evI KM 1 t h.whe).whe, .int .i64 (evI KM 1 t h.whe).clk]) rfl rfl rfl se.lies Tryz.underlying43 rfl done_info) rfl (se.retC.toB true)

set_option maxRecDepth 100000 in
set_option maxHeartbeats 2000000 in
theorem l11Reset_A_false {B t k : Nat} {G : Int} {tv pv : Value} {M : Me} {h : Hd} {v : Et} {w : World} (hB : B ≤ w.heap.size) (hk : 0 < M.pn) (hn : M.tn ≤ 1048576) (ht : 0 ≤ h.tim → h.tim.toNat < M.tn) (hp : ∀ i, i < M.tn → (M.t i).pl ≠ -1 → ∃ k : Nat, k < M.pn ∧ (M.t i).pl = (k : Int)) (hd : ∀ k, k < M.pn → 0 ≤ (M.p k).d ∧ (M.p k).d ≤ 1000) (hg : ∀ i, i < M.tn → 0 ≤ (M.t i).ge ∧ (M.t i).ge ≤ 100000) (h5p : ∀ i, i < M.tn → (M.t i).st = 5 → (M.t i).pl ≠ -1) (hpos : ¬ h.pos = 5) (hq : mineB ⟨M, h, v⟩ = true) (het : h.tim = (t : Int)) (ht2 : t < M.tn) (hkp : k < M.pn) (hpk : (M.t t).pl = (k : Int)) (hG : (M.t t).ge = G) (hg0 : 0 ≤ G) (hg1 : G ≤ 100000) (hh : h.had = false) (hlt : ¬ h.whe < (M.t t).wh) (hm : OwnMem w B tv pv M) :
    Calls Tryz.prog 35 #[dnV ⟨M, h, v⟩ tv pv] w (InDnB B (if resetB ⟨M, h, v⟩ then resetD ⟨M, h, v⟩ else dn0) (resetB ⟨M, h, v⟩) w) := by
  obtain ⟨KM, hKM⟩ : ∃ KM, keyM ⟨M, h, v⟩ = KM := ⟨_, rfl⟩
  have hKM2 : { M with t := putT M.t t (⟨4, (M.t t).wh, h.whe, (M.t t).pe, (k : Int), minI (G + 1) 100000, (M.t t).ki, (M.t t).ma⟩ : Tm) } = KM := by
    rw [← hKM, keyM]
    simp only [het, Int.toNat_natCast]
    rw [if_neg hlt, setTm_key, hpk, hG]
  rw [show InDnB B (if resetB ⟨M, h, v⟩ then resetD ⟨M, h, v⟩ else dn0) (resetB ⟨M, h, v⟩) w = InDnB B ⟨KM, restHd 3 0, evI KM 1 t h.whe⟩ true w by
    have e : resetB ⟨M, h, v⟩ = true := by simp [resetB, hpos, hq]
    rw [e, if_pos rfl, resetD, if_neg hpos, keyD, hKM]
    simp only [het, Int.toNat_natCast, hh, if_true, if_false, Bool.false_eq_true]]
  have ec : KM.c = M.c := by rw [← hKM2] <;> rfl
  have ep : KM.pn = M.pn := by rw [← hKM2] <;> rfl
  have et : KM.tn = M.tn := by rw [← hKM2] <;> rfl
  have q5 : (h.pos == 5) = false := by simpa using hpos
  have HQ := Lib.hid hq
  have HT := Lib.hid het
  have HK := Lib.hid hpk
  have HG := Lib.hid hG
  have HH := Lib.hid hh
  have HKM := Lib.hid hKM2
  have hltb : decide (h.whe < (M.t t).wh) = false := by simpa using hlt
  clear hpos hq hp hd hg h5p het hpk hG hh hKM hKM2 hlt
  have hwr : IntKind.i64.wrap (G + 1) = G + 1 := by rw [IntKind.wrap_i64]; omega
  obtain ⟨pg, pc, V, rfl, ho⟩ := hm.openP hk
  clear hm
  obtain ⟨tg, tc, rfl, _⟩ := ho.tms ht2
  obtain ⟨w1, e1, s1⟩ := DSt.start h v hB ho
  clear ho
  obtain ⟨x0, x1, x2, x3, _⟩ := s1.cellsA
  go_enter Tryz.func35, Tryz.ntmps35
  go_upto_region 1 with fail
  rw [← e1.out]
  clear e1
  go_upto_region 3 with fail
  refine wp_region_lit ?_
  refine wpList_load_mid (by rfl) 43 _ (by rfl) _ 0 (by rfl) [.int .i64 M.c, (.slice (some ⟨tg, 0, none⟩) M.tn tc), (.slice (some ⟨pg, 0, none⟩) M.pn pc), .int .i64 h.pos, .int .i64 h.call.code, .int .i64 h.call.a, .int .i64 h.call.b, .int .i64 h.call.c, .int .i64 h.tim, .int .i64 h.whe, .bool h.had, .int .i64 h.cnt, .int .i64 h.beg, .int .i64 h.rep, .int .i64 h.out, .int .i64 v.kin, .int .i64 v.tim, .int .i64 v.gen, .int .i64 v.whe, .int .i64 v.clk] _ (range_of_block s1.a) Tryz.underlying43 rfl done_info ?_
  go_wp2_with fail
  go_at_call 40; refine (l10Mine_any ht s1.own).mono ?_; rw [HQ.out]; rintro e w2 ⟨rfl, hb⟩
  have s2 := s1.below hb
  clear s1 hb x0 x1 x2 x3
  obtain ⟨x0, x1, x2, x3, x4, x5, x6, x7, x8, x9, x10, x11, x12, x13, x14, x15, x16, x17, x18, x19, xf0, xf1, xf2, xf3, xf4, xf5, xf6, xf7, xf8, xf9, xf10, xf11, xf12, xf13, xf14, xf15, xf16, xf17, xf18, xf19⟩ := s2.cellsA
  rw [HT.out] at x8
  obtain ⟨⟨t0, t1, t2, t3, t4, t5, t6, t7⟩, _⟩ := s2.tcells ht2 rfl
  rw [HK.out] at t4
  rw [HG.out] at t5
  have i0 : (0 : Int) ≤ (t : Int) := by omega
  have i1 : (t : Int) < (M.tn : Int) := by omega
  have j0 : (0 : Int) ≤ (k : Int) := by omega
  have j1 : (k : Int) < (M.pn : Int) := by omega
  have kX := (Below.refl w2.heap.size w2).alloc (Nat.le_refl _) (.cells #[.int .i64 (M.t t).st, .int .i64 (M.t t).wh, .int .i64 (M.t t).nx, .int .i64 (M.t t).pe, .int .i64 (k : Int), .int .i64 G, .int .i64 (M.t t).ki, .int .i64 (M.t t).ma] 80)
  have hX := heap_alloc_new w2 (.cells #[.int .i64 (M.t t).st, .int .i64 (M.t t).wh, .int .i64 (M.t t).nx, .int .i64 (M.t t).pe, .int .i64 (k : Int), .int .i64 G, .int .i64 (M.t t).ki, .int .i64 (M.t t).ma] 80)
  have lX := s2.size
  have ltg := s2.tlt ht2
  go_upto_region 7 with fail
  obtain ⟨X, hXb⟩ : ∃ X, w2.heap.size = X := ⟨_, rfl⟩
  have hXle : w2.heap.size ≤ X := Nat.le_of_eq hXb
  rw [hXb] at hX lX ltg ⊢
  generalize hw3 : w2.alloc (.cells #[.int .i64 (M.t t).st, .int .i64 (M.t t).wh, .int .i64 (M.t t).nx, .int .i64 (M.t t).pe, .int .i64 (k : Int), .int .i64 G, .int .i64 (M.t t).ki, .int .i64 (M.t t).ma] 80) = w3 at hX kX ⊢
  clear hw3 hXb t0 t1 t2 t3 t4 t5 t6 t7 x0 x1 x2 x3 x4 x5 x6 x7 x8 x9 x10 x11 x12 x13 x14 x15 x16 x17 x18 x19 xf0 xf1 xf2 xf3 xf4 xf5 xf6 xf7 xf8 xf9 xf10 xf11 xf12 xf13 xf14 xf15 xf16 xf17 xf18 xf19
  have s3 := s2.below kX
  obtain ⟨_, _, _, _, _, _, _, _, _, x9, _⟩ := s3.cellsA
  have y0 : w3.cell? ⟨X, 0, none⟩ = some (.int .i64 (M.t t).st) := cell_of_block hX 0
  have y2 : w3.cell? ⟨X, 2, none⟩ = some (.int .i64 (M.t t).nx) := cell_of_block hX 2
  have y5 : w3.cell? ⟨X, 5, none⟩ = some (.int .i64 G) := cell_of_block hX 5
  have z0 := unfrozen_of_block hX 0; have z2 := unfrozen_of_block hX 2; have z5 := unfrozen_of_block hX 5
  have hXA : ¬ X = w.heap.size := by omega
  have hAX : ¬ w.heap.size = X := by omega
  go_wp2_with fail
  (try simp only [hwr])
  go_at_call 58; refine (l1Min_any _ _ _).mono ?_; rintro x wp ⟨rfl, rfl⟩
  have hX6 := block_setCell (i := 0) (block_setCell (i := 2) (block_setCell (i := 5) hX (.int .i64 (minI (G + 1) 100000))) (.int .i64 h.whe)) (.int .i64 4)
  simp only [List.setIfInBounds_toArray, List.set_cons_zero, List.set_cons_succ] at hX6
  have kk6 := ((kX.setCell (p := ⟨X, 5, none⟩) hXle (.int .i64 (minI (G + 1) 100000))).setCell (p := ⟨X, 2, none⟩) hXle (.int .i64 h.whe)).setCell (p := ⟨X, 0, none⟩) hXle (.int .i64 4)
  go_upto_region 10 with fail
  generalize hw6 : (((w3.setCell ⟨X, 5, none⟩ (.int .i64 (minI (G + 1) 100000))).setCell ⟨X, 2, none⟩ (.int .i64 h.whe)).setCell ⟨X, 0, none⟩ (.int .i64 4)) = w6 at hX6 kk6 ⊢
  clear hw6 s3 x9 y0 y2 y5 z0 z2 z5 hX kX
  have y1 : w6.cell? ⟨X, 1, none⟩ = some (.int .i64 (M.t t).wh) := cell_of_block hX6 1
  have y2 : w6.cell? ⟨X, 2, none⟩ = some (.int .i64 h.whe) := cell_of_block hX6 2
  have s9 := s2.below kk6
  have hX9 := hX6
  obtain ⟨_, x1, _⟩ := s9.cellsA
  go_upto_region 15 with fail
  have lX9 := lt_of_block hX9
  clear s2 kk6 hX6 y1 y2 hXle
  obtain ⟨⟨t0, t1, t2, t3, t4, t5, t6, t7⟩, tf⟩ := s9.tcells (t := t) ht2 rfl
  have f0 := tf (t * 8); have f1 := tf (t * 8 + 1); have f2 := tf (t * 8 + 2); have f3 := tf (t * 8 + 3); have f4 := tf (t * 8 + 4); have f5 := tf (t * 8 + 5); have f6 := tf (t * 8 + 6); have f7 := tf (t * 8 + 7)
  obtain ⟨y0, y1, y2, y3, y4, y5, y6, y7⟩ : w6.cell? ⟨X, 0, none⟩ = some (.int .i64 4) ∧ w6.cell? ⟨X, 1, none⟩ = some (.int .i64 (M.t t).wh) ∧ w6.cell? ⟨X, 2, none⟩ = some (.int .i64 h.whe) ∧ w6.cell? ⟨X, 3, none⟩ = some (.int .i64 (M.t t).pe) ∧ w6.cell? ⟨X, 4, none⟩ = some (.int .i64 (k : Int)) ∧ w6.cell? ⟨X, 5, none⟩ = some (.int .i64 (minI (G + 1) 100000)) ∧ w6.cell? ⟨X, 6, none⟩ = some (.int .i64 (M.t t).ki) ∧ w6.cell? ⟨X, 7, none⟩ = some (.int .i64 (M.t t).ma) := ⟨cell_of_block hX9 0, cell_of_block hX9 1, cell_of_block hX9 2, cell_of_block hX9 3, cell_of_block hX9 4, cell_of_block hX9 5, cell_of_block hX9 6, cell_of_block hX9 7⟩
  obtain ⟨wa, ea, sa⟩ := dst_putT s9 (t := t) ht2 (⟨4, (M.t t).wh, h.whe, (M.t t).pe, (k : Int), minI (G + 1) 100000, (M.t t).ki, (M.t t).ma⟩ : Tm)
  have hE : ({ M with t := putT M.t t (⟨4, (M.t t).wh, h.whe, (M.t t).pe, (k : Int), minI (G + 1) 100000, (M.t t).ki, (M.t t).ma⟩ : Tm) } : Me) = KM := HKM.out
  rw [hE] at sa
  clear hE
  have hXa := (heap_setT_ne w6 tg t (⟨4, (M.t t).wh, h.whe, (M.t t).pe, (k : Int), minI (G + 1) 100000, (M.t t).ki, (M.t t).ma⟩ : Tm) (g := X) (by omega)).trans hX9
  rw [← ea.out] at hXa
  dsimp only [setT] at ea
  go_upto_region 16 with fail
  rw [← ea.out]
  clear ea s9 hX9 tf t0 t1 t2 t3 t4 t5 t6 t7 f0 f1 f2 f3 f4 f5 f6 f7 y0 y1 y2 y3 y4 y5 y6 y7 x1
  have y2 : wa.cell? ⟨X, 2, none⟩ = some (.int .i64 h.whe) := cell_of_block hXa 2
  have hEv := l9Ev_any (w := wa) 1 h.whe (show t < KM.tn by rw [et]; exact ht2) sa.own
  rw [ec] at hEv
  have HEv := Lib.hid hEv
  clear hEv
  obtain ⟨x0, x1, x2, x3, x4, x5, x6, x7, x8, x9, x10, x11, x12, x13, x14, x15, x16, x17, x18, x19, xf0, xf1, xf2, xf3, xf4, xf5, xf6, xf7, xf8, xf9, xf10, xf11, xf12, xf13, xf14, xf15, xf16, xf17, xf18, xf19⟩ := sa.cellsA
  go_wp2_with fail
  go_at_call 59; refine HEv.out.mono ?_; rintro e wb ⟨rfl, hb⟩
  have sb := sa.below hb
  clear sa HEv hb hXa y2 x0 x1 x2 x3 x4 x5 x6 x7 x8 x9 x10 x11 x12 x13 x14 x15 x16 x17 x18 x19 xf0 xf1 xf2 xf3 xf4 xf5 xf6 xf7 xf8 xf9 xf10 xf11 xf12 xf13 xf14 xf15 xf16 xf17 xf18 xf19
  obtain ⟨x0, x1, x2, x3, x4, x5, x6, x7, x8, x9, x10, x11, x12, x13, x14, x15, x16, x17, x18, x19, xf0, xf1, xf2, xf3, xf4, xf5, xf6, xf7, xf8, xf9, xf10, xf11, xf12, xf13, xf14, xf15, xf16, xf17, xf18, xf19⟩ := sb.cellsA
  obtain ⟨wc, ec', sc⟩ := sb.ev_all (evI KM 1 t h.whe)
  go_upto_region 17 with fail
  rw [← ec'.out]
  clear ec' sb x0 x1 x2 x3 x4 x5 x6 x7 x8 x9 x10 x11 x12 x13 x14 x15 x16 x17 x18 x19 xf0 xf1 xf2 xf3 xf4 xf5 xf6 xf7 xf8 xf9 xf10 xf11 xf12 xf13 xf14 xf15 xf16 xf17 xf18 xf19
  obtain ⟨x0, x1, x2, x3, x4, x5, x6, x7, x8, x9, x10, x11, x12, x13, x14, x15, x16, x17, x18, x19, xf0, xf1, xf2, xf3, xf4, xf5, xf6, xf7, xf8, xf9, xf10, xf11, xf12, xf13, xf14, xf15, xf16, xf17, xf18, xf19⟩ := sc.cellsA
  rw [HH.out] at x10
  go_upto_region 19 with fail
  go_wp2_with fail
  go_at_call 41; refine (spResting_any 3 0 _).mono ?_; rintro e wd ⟨rfl, hb⟩
  have sd := sc.below hb
  clear sc hb x0 x1 x2 x3 x4 x5 x6 x7 x8 x9 x10 x11 x12 x13 x14 x15 x16 x17 x18 x19 xf0 xf1 xf2 xf3 xf4 xf5 xf6 xf7 xf8 xf9 xf10 xf11 xf12 xf13 xf14 xf15 xf16 xf17 xf18 xf19
  obtain ⟨x0, x1, x2, x3, x4, x5, x6, x7, x8, x9, x10, x11, x12, x13, x14, x15, x16, x17, x18, x19, xf0, xf1, xf2, xf3, xf4, xf5, xf6, xf7, xf8, xf9, xf10, xf11, xf12, xf13, xf14, xf15, xf16, xf17, xf18, xf19⟩ := sd.cellsA
  obtain ⟨we, ee, se⟩ := sd.hand_all (restHd 3 0)
  go_upto_region 20 with fail
  rw [← ee.out]
  clear ee sd x0 x1 x2 x3 x4 x5 x6 x7 x8 x9 x10 x11 x12 x13 x14 x15 x16 x17 x18 x19 xf0 xf1 xf2 xf3 xf4 xf5 xf6 xf7 xf8 xf9 xf10 xf11 xf12 xf13 xf14 xf15 xf16 xf17 xf18 xf19
  refine wp_region_lit ?_
  refine wpList_load_mid (by rfl) 43 _ (by rfl) _ 0 (by rfl) [.int .i64 M.c, (.slice (some ⟨tg, 0, none⟩) M.tn tc), (.slice (some ⟨pg, 0, none⟩) M.pn pc), .int .i64 (restHd 3 0).pos, .int .i64 (restHd 3 0).call.code, .int .i64 (restHd 3 0).call.a, .int .i64 (restHd 3 0).call.b, .int .i64 (restHd 3 0).call.c, .int .i64 (restHd 3 0).tim, .int .i64 (restHd 3 0).whe, .bool (restHd 3 0).had, .int .i64 (restHd 3 0).cnt, .int .i64 (restHd 3 0).beg, .int .i64 (restHd 3 0).rep, .int .i64 (restHd 3 0).out, .int .i64 (evI KM 1 t h.whe).kin, .int .i64 (evI KM 1 t h.whe).tim, .int .i64 (evI KM 1 t h.whe).gen, .int .i64 (evI KM 1 t h.whe).whe, .int .i64 (evI KM 1 t h.whe).clk] _ (range_of_block se.a) Tryz.underlying43 rfl done_info ?_
  refine wpList_store_mid (by rfl) 43 _ _ (by rfl) _ 0 #[.int .i64 M.c, (.slice (some ⟨tg, 0, none⟩) M.tn tc), (.slice (some ⟨pg, 0, none⟩) M.pn pc), .int .i64 (restHd 3 0).pos, .int .i64 (restHd 3 0).call.code, .int .i64 (restHd 3 0).call.a, .int .i64 (restHd 3 0).call.b, .int .i64 (restHd 3 0).call.c, .int .i64 (restHd 3 0).tim, .int .i64 (restHd 3 0).whe, .bool (restHd 3 0).had, .int .i64 (restHd 3 0).cnt, .int .i64 (restHd 3 0).beg, .int .i64 (restHd 3 0).rep, .int .i64 (restHd 3 0).out, .int .i64 (evI KM 1 t h.whe).kin, .int .i64 (evI KM 1 t h.whe).tim, .int .i64 (evI KM 1 t h.whe).gen, .int .i64 (evI KM 1 t h.whe).whe, .int .i64 (evI KM 1 t h.whe).clk] (by rfl) (by rfl) se.there done_info (by simp [Value.oneCell']) ?_
  go_wp2
  exact bodyPost_ret (v := .tuple #[.agg #[.int .i64 M.c, (.slice (some ⟨tg, 0, none⟩) M.tn tc), (.slice (some ⟨pg, 0, none⟩) M.pn pc), .int .i64 (restHd 3 0).pos, .int .i64 (restHd 3 0).call.code, .int .i64 (restHd 3 0).call.a, .int .i64 (restHd 3 0).call.b, .int .i64 (restHd 3 0).call.c, .int .i64 (restHd 3 0).tim, .int .i64 (restHd 3 0).whe, .bool (restHd 3 0).had, .int .i64 (restHd 3 0).cnt, .int .i64 (restHd 3 0).beg, .int .i64 (restHd 3 0).rep, .int .i64 (restHd 3 0).out, .int .i64 (evI KM 1 t h.whe).kin, .int .i64 (evI KM 1 t h.whe).tim, .int .i64 (evI KM 1 t h.whe).gen, .int .i64 (evI KM 1 t h.whe).whe, .int .i64 (evI KM 1 t h.whe).clk], .bool true]) (results_pair (cs := [.int .i64 M.c, (.slice (some ⟨tg, 0, none⟩) M.tn tc), (.slice (some ⟨pg, 0, none⟩) M.pn pc), .int .i64 (restHd 3 0).pos, .int .i64 (restHd 3 0).call.code, .int .i64 (restHd 3 0).call.a, .int .i64 (restHd 3 0).call.b, .int .i64 (restHd 3 0).call.c, .int .i64 (restHd 3 0).tim, .int .i64 (restHd 3 0).whe, .bool (restHd 3 0).had, .int .i64 (restHd 3 0).cnt, .int .i64 (restHd 3 0).beg, .int .i64 (restHd 3 0).rep, .int .i64 (restHd 3 0).out, .int .i64 (evI KM 1 t h.whe).kin, .int .i64 (evI KM 1 t h.whe).tim, .int .i64 (evI KM 1 t h.whe).gen, .int .i64 (evI KM 1 t h.whe).whe, .int .i64 (evI KM 1 t h.whe).clk]) rfl rfl rfl se.lies Tryz.underlying43 rfl done_info) rfl (se.retC.toB true)

set_option maxRecDepth 100000 in
set_option maxHeartbeats 2000000 in
theorem l11Reset_B1_false {B t k : Nat} {G : Int} {tv pv : Value} {M : Me} {h : Hd} {v : Et} {w : World} (hB : B ≤ w.heap.size) (hk : 0 < M.pn) (hn : M.tn ≤ 1048576) (ht : 0 ≤ h.tim → h.tim.toNat < M.tn) (hp : ∀ i, i < M.tn → (M.t i).pl ≠ -1 → ∃ k : Nat, k < M.pn ∧ (M.t i).pl = (k : Int)) (hd : ∀ k, k < M.pn → 0 ≤ (M.p k).d ∧ (M.p k).d ≤ 1000) (hg : ∀ i, i < M.tn → 0 ≤ (M.t i).ge ∧ (M.t i).ge ≤ 100000) (h5p : ∀ i, i < M.tn → (M.t i).st = 5 → (M.t i).pl ≠ -1) (hpos : ¬ h.pos = 5) (hq : mineB ⟨M, h, v⟩ = true) (het : h.tim = (t : Int)) (ht2 : t < M.tn) (hkp : k < M.pn) (hpk : (M.t t).pl = (k : Int)) (hG : (M.t t).ge = G) (hg0 : 0 ≤ G) (hg1 : G ≤ 100000) (hh : h.had = false) (hlt : h.whe < (M.t t).wh) (hee : (M.p k).e < 0 ∨ h.whe < (M.p k).e) (hm : OwnMem w B tv pv M) :
    Calls Tryz.prog 35 #[dnV ⟨M, h, v⟩ tv pv] w (InDnB B (if resetB ⟨M, h, v⟩ then resetD ⟨M, h, v⟩ else dn0) (resetB ⟨M, h, v⟩) w) := by
  obtain ⟨KM, hKM⟩ : ∃ KM, keyM ⟨M, h, v⟩ = KM := ⟨_, rfl⟩
  have hKM2 : setPc { M with t := putT M.t t (⟨3, (M.t t).wh, h.whe, (M.t t).pe, (k : Int), minI (G + 1) 100000, (M.t t).ki, (M.t t).ma⟩ : Tm) } k 2 h.whe = KM := by
    rw [← hKM, keyM]
    simp only [het, Int.toNat_natCast]
    rw [if_pos hlt]; simp only [hpk, Int.toNat_natCast]; rw [if_pos hee, setTm_key, hpk, hG]
  rw [show InDnB B (if resetB ⟨M, h, v⟩ then resetD ⟨M, h, v⟩ else dn0) (resetB ⟨M, h, v⟩) w = InDnB B ⟨KM, restHd 3 0, evI KM 1 t h.whe⟩ true w by
    have e : resetB ⟨M, h, v⟩ = true := by simp [resetB, hpos, hq]
    rw [e, if_pos rfl, resetD, if_neg hpos, keyD, hKM]
    simp only [het, Int.toNat_natCast, hh, if_true, if_false, Bool.false_eq_true]]
  have ec : KM.c = M.c := by rw [← hKM2] <;> rfl
  have ep : KM.pn = M.pn := by rw [← hKM2] <;> rfl
  have et : KM.tn = M.tn := by rw [← hKM2] <;> rfl
  have q5 : (h.pos == 5) = false := by simpa using hpos
  have HQ := Lib.hid hq
  have HT := Lib.hid het
  have HK := Lib.hid hpk
  have HG := Lib.hid hG
  have HH := Lib.hid hh
  have HKM := Lib.hid hKM2
  have hltb : decide (h.whe < (M.t t).wh) = true := by simpa using hlt
  have he1 : decide ((M.p k).e < 0) = true ∨ (decide ((M.p k).e < 0) = false ∧ decide (h.whe < (M.p k).e) = true) := by
    by_cases e : (M.p k).e < 0
    · exact .inl (by simpa using e)
    · exact .inr ⟨by simpa using e, by simpa using hee.resolve_left e⟩
  clear hpos hq hp hd hg h5p het hpk hG hh hKM hKM2 hlt hee
  have hwr : IntKind.i64.wrap (G + 1) = G + 1 := by rw [IntKind.wrap_i64]; omega
  obtain ⟨pg, pc, V, rfl, ho⟩ := hm.openP hk
  clear hm
  obtain ⟨tg, tc, rfl, _⟩ := ho.tms ht2
  obtain ⟨w1, e1, s1⟩ := DSt.start h v hB ho
  clear ho
  obtain ⟨x0, x1, x2, x3, _⟩ := s1.cellsA
  go_enter Tryz.func35, Tryz.ntmps35
  go_upto_region 1 with fail
  rw [← e1.out]
  clear e1
  go_upto_region 3 with fail
  refine wp_region_lit ?_
  refine wpList_load_mid (by rfl) 43 _ (by rfl) _ 0 (by rfl) [.int .i64 M.c, (.slice (some ⟨tg, 0, none⟩) M.tn tc), (.slice (some ⟨pg, 0, none⟩) M.pn pc), .int .i64 h.pos, .int .i64 h.call.code, .int .i64 h.call.a, .int .i64 h.call.b, .int .i64 h.call.c, .int .i64 h.tim, .int .i64 h.whe, .bool h.had, .int .i64 h.cnt, .int .i64 h.beg, .int .i64 h.rep, .int .i64 h.out, .int .i64 v.kin, .int .i64 v.tim, .int .i64 v.gen, .int .i64 v.whe, .int .i64 v.clk] _ (range_of_block s1.a) Tryz.underlying43 rfl done_info ?_
  go_wp2_with fail
  go_at_call 40; refine (l10Mine_any ht s1.own).mono ?_; rw [HQ.out]; rintro e w2 ⟨rfl, hb⟩
  have s2 := s1.below hb
  clear s1 hb x0 x1 x2 x3
  obtain ⟨x0, x1, x2, x3, x4, x5, x6, x7, x8, x9, x10, x11, x12, x13, x14, x15, x16, x17, x18, x19, xf0, xf1, xf2, xf3, xf4, xf5, xf6, xf7, xf8, xf9, xf10, xf11, xf12, xf13, xf14, xf15, xf16, xf17, xf18, xf19⟩ := s2.cellsA
  rw [HT.out] at x8
  obtain ⟨⟨t0, t1, t2, t3, t4, t5, t6, t7⟩, _⟩ := s2.tcells ht2 rfl
  rw [HK.out] at t4
  rw [HG.out] at t5
  have i0 : (0 : Int) ≤ (t : Int) := by omega
  have i1 : (t : Int) < (M.tn : Int) := by omega
  have j0 : (0 : Int) ≤ (k : Int) := by omega
  have j1 : (k : Int) < (M.pn : Int) := by omega
  have kX := (Below.refl w2.heap.size w2).alloc (Nat.le_refl _) (.cells #[.int .i64 (M.t t).st, .int .i64 (M.t t).wh, .int .i64 (M.t t).nx, .int .i64 (M.t t).pe, .int .i64 (k : Int), .int .i64 G, .int .i64 (M.t t).ki, .int .i64 (M.t t).ma] 80)
  have hX := heap_alloc_new w2 (.cells #[.int .i64 (M.t t).st, .int .i64 (M.t t).wh, .int .i64 (M.t t).nx, .int .i64 (M.t t).pe, .int .i64 (k : Int), .int .i64 G, .int .i64 (M.t t).ki, .int .i64 (M.t t).ma] 80)
  have lX := s2.size
  have ltg := s2.tlt ht2
  go_upto_region 7 with fail
  obtain ⟨X, hXb⟩ : ∃ X, w2.heap.size = X := ⟨_, rfl⟩
  have hXle : w2.heap.size ≤ X := Nat.le_of_eq hXb
  rw [hXb] at hX lX ltg ⊢
  generalize hw3 : w2.alloc (.cells #[.int .i64 (M.t t).st, .int .i64 (M.t t).wh, .int .i64 (M.t t).nx, .int .i64 (M.t t).pe, .int .i64 (k : Int), .int .i64 G, .int .i64 (M.t t).ki, .int .i64 (M.t t).ma] 80) = w3 at hX kX ⊢
  clear hw3 hXb t0 t1 t2 t3 t4 t5 t6 t7 x0 x1 x2 x3 x4 x5 x6 x7 x8 x9 x10 x11 x12 x13 x14 x15 x16 x17 x18 x19 xf0 xf1 xf2 xf3 xf4 xf5 xf6 xf7 xf8 xf9 xf10 xf11 xf12 xf13 xf14 xf15 xf16 xf17 xf18 xf19
  have s3 := s2.below kX
  obtain ⟨_, _, _, _, _, _, _, _, _, x9, _⟩ := s3.cellsA
  have y0 : w3.cell? ⟨X, 0, none⟩ = some (.int .i64 (M.t t).st) := cell_of_block hX 0
  have y2 : w3.cell? ⟨X, 2, none⟩ = some (.int .i64 (M.t t).nx) := cell_of_block hX 2
  have y5 : w3.cell? ⟨X, 5, none⟩ = some (.int .i64 G) := cell_of_block hX 5
  have z0 := unfrozen_of_block hX 0; have z2 := unfrozen_of_block hX 2; have z5 := unfrozen_of_block hX 5
  have hXA : ¬ X = w.heap.size := by omega
  have hAX : ¬ w.heap.size = X := by omega
  go_wp2_with fail
  (try simp only [hwr])
  go_at_call 58; refine (l1Min_any _ _ _).mono ?_; rintro x wp ⟨rfl, rfl⟩
  have hX6 := block_setCell (i := 0) (block_setCell (i := 2) (block_setCell (i := 5) hX (.int .i64 (minI (G + 1) 100000))) (.int .i64 h.whe)) (.int .i64 4)
  simp only [List.setIfInBounds_toArray, List.set_cons_zero, List.set_cons_succ] at hX6
  have kk6 := ((kX.setCell (p := ⟨X, 5, none⟩) hXle (.int .i64 (minI (G + 1) 100000))).setCell (p := ⟨X, 2, none⟩) hXle (.int .i64 h.whe)).setCell (p := ⟨X, 0, none⟩) hXle (.int .i64 4)
  go_upto_region 10 with fail
  generalize hw6 : (((w3.setCell ⟨X, 5, none⟩ (.int .i64 (minI (G + 1) 100000))).setCell ⟨X, 2, none⟩ (.int .i64 h.whe)).setCell ⟨X, 0, none⟩ (.int .i64 4)) = w6 at hX6 kk6 ⊢
  clear hw6 s3 x9 y0 y2 y5 z0 z2 z5 hX kX
  have y1 : w6.cell? ⟨X, 1, none⟩ = some (.int .i64 (M.t t).wh) := cell_of_block hX6 1
  have y2 : w6.cell? ⟨X, 2, none⟩ = some (.int .i64 h.whe) := cell_of_block hX6 2
  have y0 : w6.cell? ⟨X, 0, none⟩ = some (.int .i64 4) := cell_of_block hX6 0
  have z0 := unfrozen_of_block hX6 0
  have hX7 := block_setCell (i := 0) hX6 (.int .i64 3)
  simp only [List.setIfInBounds_toArray, List.set_cons_zero, List.set_cons_succ] at hX7
  have kk7 := kk6.setCell (p := ⟨X, 0, none⟩) hXle (.int .i64 3)
  go_upto_region 12 with fail
  generalize hw7 : w6.setCell ⟨X, 0, none⟩ (.int .i64 3) = w7 at hX7 kk7 ⊢
  clear hw7 hX6 kk6 y0 z0 y1 y2
  have s7 := s2.below kk7
  obtain ⟨⟨ha, hc', hV, p0⟩, ⟨p1, p2, p3⟩, _⟩ := s7.pcells (k := k) hkp rfl
  obtain ⟨_, _, x2, _⟩ := s7.cellsA
  have y4 : w7.cell? ⟨X, 4, none⟩ = some (.int .i64 (k : Int)) := cell_of_block hX7 4
  have kQ := kk7.alloc kk7.size (.cells #[.slice ha (M.p k).n hc', .int .i64 (M.p k).l, .int .i64 (M.p k).e, .int .i64 (M.p k).d] 83)
  have hQ := heap_alloc_new w7 (.cells #[.slice ha (M.p k).n hc', .int .i64 (M.p k).l, .int .i64 (M.p k).e, .int .i64 (M.p k).d] 83)
  have hX8 := alloc_block (.cells #[.slice ha (M.p k).n hc', .int .i64 (M.p k).l, .int .i64 (M.p k).e, .int .i64 (M.p k).d] 83) hX7
  go_upto_region 13 with fail
  generalize hQb : w7.heap.size = Qb at hQ ⊢
  generalize hw8 : w7.alloc (.cells #[.slice ha (M.p k).n hc', .int .i64 (M.p k).l, .int .i64 (M.p k).e, .int .i64 (M.p k).d] 83) = w8 at kQ hQ hX8 ⊢
  clear hw8 hQb s7 hX7 kk7 p0 p1 p2 p3 x2 y4
  have s8 := s2.below kQ
  have u2 : w8.cell? ⟨Qb, 2, none⟩ = some (.int .i64 (M.p k).e) := cell_of_block hQ 2
  have y2 : w8.cell? ⟨X, 2, none⟩ = some (.int .i64 h.whe) := cell_of_block hX8 2
  have y4 : w8.cell? ⟨X, 4, none⟩ = some (.int .i64 (k : Int)) := cell_of_block hX8 4
  obtain ⟨_, x1, x2, _⟩ := s8.cellsA
  obtain ⟨_, ⟨_, p2, _⟩, pf⟩ := s8.pcells (k := k) hkp rfl
  have pf2 := pf (k * 4 + 2)
  clear pf
  obtain ⟨w9, e9, s9⟩ := s8.setP (k := k) 2 hkp (.inr (.inl rfl)) h.whe
  have hX9 := (heap_set_ne (w := w8) (b := pg) (g := X) (k * 4 + 2) (.int .i64 h.whe) (hpgX s2 hXle)).trans hX8
  rw [← e9.out] at hX9
  rcases he1 with he1 | ⟨he1, he2⟩
  all_goals
    go_upto_region 15 with fail
    rw [← e9.out]
    clear e9 s2 s8 kQ hX8 hQ u2 y2 y4 hXle p2 pf2 x1 x2
    obtain ⟨_, x1, _⟩ := s9.cellsA
    have lX9 := lt_of_block hX9
    obtain ⟨⟨t0, t1, t2, t3, t4, t5, t6, t7⟩, tf⟩ := s9.tcells (t := t) ht2 rfl
    have f0 := tf (t * 8); have f1 := tf (t * 8 + 1); have f2 := tf (t * 8 + 2); have f3 := tf (t * 8 + 3); have f4 := tf (t * 8 + 4); have f5 := tf (t * 8 + 5); have f6 := tf (t * 8 + 6); have f7 := tf (t * 8 + 7)
    obtain ⟨y0, y1, y2, y3, y4, y5, y6, y7⟩ : w9.cell? ⟨X, 0, none⟩ = some (.int .i64 3) ∧ w9.cell? ⟨X, 1, none⟩ = some (.int .i64 (M.t t).wh) ∧ w9.cell? ⟨X, 2, none⟩ = some (.int .i64 h.whe) ∧ w9.cell? ⟨X, 3, none⟩ = some (.int .i64 (M.t t).pe) ∧ w9.cell? ⟨X, 4, none⟩ = some (.int .i64 (k : Int)) ∧ w9.cell? ⟨X, 5, none⟩ = some (.int .i64 (minI (G + 1) 100000)) ∧ w9.cell? ⟨X, 6, none⟩ = some (.int .i64 (M.t t).ki) ∧ w9.cell? ⟨X, 7, none⟩ = some (.int .i64 (M.t t).ma) := ⟨cell_of_block hX9 0, cell_of_block hX9 1, cell_of_block hX9 2, cell_of_block hX9 3, cell_of_block hX9 4, cell_of_block hX9 5, cell_of_block hX9 6, cell_of_block hX9 7⟩
    obtain ⟨wa, ea, sa⟩ := dst_putT s9 (t := t) ht2 (⟨3, (M.t t).wh, h.whe, (M.t t).pe, (k : Int), minI (G + 1) 100000, (M.t t).ki, (M.t t).ma⟩ : Tm)
    have hE : ({ (setPc M k 2 h.whe) with t := putT (setPc M k 2 h.whe).t t (⟨3, (M.t t).wh, h.whe, (M.t t).pe, (k : Int), minI (G + 1) 100000, (M.t t).ki, (M.t t).ma⟩ : Tm) } : Me) = KM := HKM.out
    rw [hE] at sa
    clear hE
    have hXa := (heap_setT_ne w9 tg t (⟨3, (M.t t).wh, h.whe, (M.t t).pe, (k : Int), minI (G + 1) 100000, (M.t t).ki, (M.t t).ma⟩ : Tm) (g := X) (by omega)).trans hX9
    rw [← ea.out] at hXa
    dsimp only [setT] at ea
    go_upto_region 16 with fail
    rw [← ea.out]
    clear ea s9 hX9 tf t0 t1 t2 t3 t4 t5 t6 t7 f0 f1 f2 f3 f4 f5 f6 f7 y0 y1 y2 y3 y4 y5 y6 y7 x1
    have y2 : wa.cell? ⟨X, 2, none⟩ = some (.int .i64 h.whe) := cell_of_block hXa 2
    have hEv := l9Ev_any (w := wa) 1 h.whe (show t < KM.tn by rw [et]; exact ht2) sa.own
    rw [ec] at hEv
    have HEv := Lib.hid hEv
    clear hEv
    obtain ⟨x0, x1, x2, x3, x4, x5, x6, x7, x8, x9, x10, x11, x12, x13, x14, x15, x16, x17, x18, x19, xf0, xf1, xf2, xf3, xf4, xf5, xf6, xf7, xf8, xf9, xf10, xf11, xf12, xf13, xf14, xf15, xf16, xf17, xf18, xf19⟩ := sa.cellsA
    go_wp2_with fail
    go_at_call 59; refine HEv.out.mono ?_; rintro e wb ⟨rfl, hb⟩
    have sb := sa.below hb
    clear sa HEv hb hXa y2 x0 x1 x2 x3 x4 x5 x6 x7 x8 x9 x10 x11 x12 x13 x14 x15 x16 x17 x18 x19 xf0 xf1 xf2 xf3 xf4 xf5 xf6 xf7 xf8 xf9 xf10 xf11 xf12 xf13 xf14 xf15 xf16 xf17 xf18 xf19
    obtain ⟨x0, x1, x2, x3, x4, x5, x6, x7, x8, x9, x10, x11, x12, x13, x14, x15, x16, x17, x18, x19, xf0, xf1, xf2, xf3, xf4, xf5, xf6, xf7, xf8, xf9, xf10, xf11, xf12, xf13, xf14, xf15, xf16, xf17, xf18, xf19⟩ := sb.cellsA
    obtain ⟨wc, ec', sc⟩ := sb.ev_all (evI KM 1 t h.whe)
    go_upto_region 17 with fail
    rw [← ec'.out]
    clear ec' sb x0 x1 x2 x3 x4 x5 x6 x7 x8 x9 x10 x11 x12 x13 x14 x15 x16 x17 x18 x19 xf0 xf1 xf2 xf3 xf4 xf5 xf6 xf7 xf8 xf9 xf10 xf11 xf12 xf13 xf14 xf15 xf16 xf17 xf18 xf19
    obtain ⟨x0, x1, x2, x3, x4, x5, x6, x7, x8, x9, x10, x11, x12, x13, x14, x15, x16, x17, x18, x19, xf0, xf1, xf2, xf3, xf4, xf5, xf6, xf7, xf8, xf9, xf10, xf11, xf12, xf13, xf14, xf15, xf16, xf17, xf18, xf19⟩ := sc.cellsA
    rw [HH.out] at x10
    go_upto_region 19 with fail
    go_wp2_with fail
    go_at_call 41; refine (spResting_any 3 0 _).mono ?_; rintro e wd ⟨rfl, hb⟩
    have sd := sc.below hb
    clear sc hb x0 x1 x2 x3 x4 x5 x6 x7 x8 x9 x10 x11 x12 x13 x14 x15 x16 x17 x18 x19 xf0 xf1 xf2 xf3 xf4 xf5 xf6 xf7 xf8 xf9 xf10 xf11 xf12 xf13 xf14 xf15 xf16 xf17 xf18 xf19
    obtain ⟨x0, x1, x2, x3, x4, x5, x6, x7, x8, x9, x10, x11, x12, x13, x14, x15, x16, x17, x18, x19, xf0, xf1, xf2, xf3, xf4, xf5, xf6, xf7, xf8, xf9, xf10, xf11, xf12, xf13, xf14, xf15, xf16, xf17, xf18, xf19⟩ := sd.cellsA
    obtain ⟨we, ee, se⟩ := sd.hand_all (restHd 3 0)
    go_upto_region 20 with fail
    rw [← ee.out]
    clear ee sd x0 x1 x2 x3 x4 x5 x6 x7 x8 x9 x10 x11 x12 x13 x14 x15 x16 x17 x18 x19 xf0 xf1 xf2 xf3 xf4 xf5 xf6 xf7 xf8 xf9 xf10 xf11 xf12 xf13 xf14 xf15 xf16 xf17 xf18 xf19
    refine wp_region_lit ?_
    refine wpList_load_mid (by rfl) 43 _ (by rfl) _ 0 (by rfl) [.int .i64 M.c, (.slice (some ⟨tg, 0, none⟩) M.tn tc), (.slice (some ⟨pg, 0, none⟩) M.pn pc), .int .i64 (restHd 3 0).pos, .int .i64 (restHd 3 0).call.code, .int .i64 (restHd 3 0).call.a, .int .i64 (restHd 3 0).call.b, .int .i64 (restHd 3 0).call.c, .int .i64 (restHd 3 0).tim, .int .i64 (restHd 3 0).whe, .bool (restHd 3 0).had, .int .i64 (restHd 3 0).cnt, .int .i64 (restHd 3 0).beg, .int .i64 (restHd 3 0).rep, .int .i64 (restHd 3 0).out, .int .i64 (evI KM 1 t h.whe).kin, .int .i64 (evI KM 1 t h.whe).tim, .int .i64 (evI KM 1 t h.whe).gen, .int .i64 (evI KM 1 t h.whe).whe, .int .i64 (evI KM 1 t h.whe).clk] _ (range_of_block se.a) Tryz.underlying43 rfl done_info ?_
    refine wpList_store_mid (by rfl) 43 _ _ (by rfl) _ 0 #[.int .i64 M.c, (.slice (some ⟨tg, 0, none⟩) M.tn tc), (.slice (some ⟨pg, 0, none⟩) M.pn pc), .int .i64 (restHd 3 0).pos, .int .i64 (restHd 3 0).call.code, .int .i64 (restHd 3 0).call.a, .int .i64 (restHd 3 0).call.b, .int .i64 (restHd 3 0).call.c, .int .i64 (restHd 3 0).tim, .int .i64 (restHd 3 0).whe, .bool (restHd 3 0).had, .int .i64 (restHd 3 0).cnt, .int .i64 (restHd 3 0).beg, .int .i64 (restHd 3 0).rep, .int .i64 (restHd 3 0).out, .int .i64 (evI KM 1 t h.whe).kin, .int .i64 (evI KM 1 t h.whe).tim, .int .i64 (evI KM 1 t h.whe).gen, .int .i64 (evI KM 1 t h.whe).whe, .int .i64 (evI KM 1 t h.whe).clk] (by rfl) (by rfl) se.there done_info (by simp [Value.oneCell']) ?_
    go_wp2
    exact bodyPost_ret (v := .tuple #[.agg #[.int .i64 M.c, (.slice (some ⟨tg, 0, none⟩) M.tn tc), (.slice (some ⟨pg, 0, none⟩) M.pn pc), .int .i64 (restHd 3 0).pos, .int .i64 (restHd 3 0).call.code, .int .i64 (restHd 3 0).call.a, .int .i64 (restHd 3 0).call.b, .int .i64 (restHd 3 0).call.c, .int .i64 (restHd 3 0).tim, .int .i64 (restHd 3 0).whe, .bool (restHd 3 0).had, .int .i64 (restHd 3 0).cnt, .int .i64 (restHd 3 0).beg, .int .i64 (restHd 3 0).rep, .int .i64 (restHd 3 0).out, .int .i64 (evI KM 1 t h.whe).kin, .int .i64 (evI KM 1 t h.whe).tim, .int .i64 (evI KM 1 t h.whe).gen, .int .i64 (evI KM 1 t h.whe).whe, .int .i64 (evI KM 1 t h.whe).clk], .bool true]) (results_pair (cs := [.int .i64 M.c, (.slice (some ⟨tg, 0, none⟩) M.tn tc), (.slice (some ⟨pg, 0, none⟩) M.pn pc), .int .i64 (restHd 3 0).pos, .int .i64 (restHd 3 0).call.code, .int .i64 (restHd 3 0).call.a, .int .i64 (restHd 3 0).call.b, .int .i64 (restHd 3 0).call.c, .int .i64 (restHd 3 0).tim, .int .i64 (restHd 3 0).whe, .bool (restHd 3 0).had, .int .i64 (restHd 3 0).cnt, .int .i64 (restHd 3 0).beg, .int .i64 (restHd 3 0).rep, .int .i64 (restHd 3 0).out, .int .i64 (evI KM 1 t h.whe).kin, .int .i64 (evI KM 1 t h.whe).tim, .int .i64 (evI KM 1 t h.whe).gen, .int .i64 (evI KM 1 t h.whe).whe, .int .i64 (evI KM 1 t h.whe).clk]) rfl rfl rfl se.lies Tryz.underlying43 rfl done_info) rfl (se.retC.toB true)

set_option maxRecDepth 100000 in
set_option maxHeartbeats 2000000 in
theorem l11Reset_B2_false {B t k : Nat} {G : Int} {tv pv : Value} {M : Me} {h : Hd} {v : Et} {w : World} (hB : B ≤ w.heap.size) (hk : 0 < M.pn) (hn : M.tn ≤ 1048576) (ht : 0 ≤ h.tim → h.tim.toNat < M.tn) (hp : ∀ i, i < M.tn → (M.t i).pl ≠ -1 → ∃ k : Nat, k < M.pn ∧ (M.t i).pl = (k : Int)) (hd : ∀ k, k < M.pn → 0 ≤ (M.p k).d ∧ (M.p k).d ≤ 1000) (hg : ∀ i, i < M.tn → 0 ≤ (M.t i).ge ∧ (M.t i).ge ≤ 100000) (h5p : ∀ i, i < M.tn → (M.t i).st = 5 → (M.t i).pl ≠ -1) (hpos : ¬ h.pos = 5) (hq : mineB ⟨M, h, v⟩ = true) (het : h.tim = (t : Int)) (ht2 : t < M.tn) (hkp : k < M.pn) (hpk : (M.t t).pl = (k : Int)) (hG : (M.t t).ge = G) (hg0 : 0 ≤ G) (hg1 : G ≤ 100000) (hh : h.had = false) (hlt : h.whe < (M.t t).wh) (hee : ¬ ((M.p k).e < 0 ∨ h.whe < (M.p k).e)) (hm : OwnMem w B tv pv M) :
    Calls Tryz.prog 35 #[dnV ⟨M, h, v⟩ tv pv] w (InDnB B (if resetB ⟨M, h, v⟩ then resetD ⟨M, h, v⟩ else dn0) (resetB ⟨M, h, v⟩) w) := by
  obtain ⟨KM, hKM⟩ : ∃ KM, keyM ⟨M, h, v⟩ = KM := ⟨_, rfl⟩
  have hKM2 : { M with t := putT M.t t (⟨3, (M.t t).wh, h.whe, (M.t t).pe, (k : Int), minI (G + 1) 100000, (M.t t).ki, (M.t t).ma⟩ : Tm) } = KM := by
    rw [← hKM, keyM]
    simp only [het, Int.toNat_natCast]
    rw [if_pos hlt]; simp only [hpk, Int.toNat_natCast]; rw [if_neg hee, setTm_key, hpk, hG]
  rw [show InDnB B (if resetB ⟨M, h, v⟩ then resetD ⟨M, h, v⟩ else dn0) (resetB ⟨M, h, v⟩) w = InDnB B ⟨KM, restHd 3 0, evI KM 1 t h.whe⟩ true w by
    have e : resetB ⟨M, h, v⟩ = true := by simp [resetB, hpos, hq]
    rw [e, if_pos rfl, resetD, if_neg hpos, keyD, hKM]
    simp only [het, Int.toNat_natCast, hh, if_true, if_false, Bool.false_eq_true]]
  have ec : KM.c = M.c := by rw [← hKM2] <;> rfl
  have ep : KM.pn = M.pn := by rw [← hKM2] <;> rfl
  have et : KM.tn = M.tn := by rw [← hKM2] <;> rfl
  have q5 : (h.pos == 5) = false := by simpa using hpos
  have HQ := Lib.hid hq
  have HT := Lib.hid het
  have HK := Lib.hid hpk
  have HG := Lib.hid hG
  have HH := Lib.hid hh
  have HKM := Lib.hid hKM2
  have hltb : decide (h.whe < (M.t t).wh) = true := by simpa using hlt
  have he1 : decide ((M.p k).e < 0) = false := by simpa using fun e => hee (.inl e)
  have he2 : decide (h.whe < (M.p k).e) = false := by simpa using fun e => hee (.inr e)
  clear hpos hq hp hd hg h5p het hpk hG hh hKM hKM2 hlt hee
  have hwr : IntKind.i64.wrap (G + 1) = G + 1 := by rw [IntKind.wrap_i64]; omega
  obtain ⟨pg, pc, V, rfl, ho⟩ := hm.openP hk
  clear hm
  obtain ⟨tg, tc, rfl, _⟩ := ho.tms ht2
  obtain ⟨w1, e1, s1⟩ := DSt.start h v hB ho
  clear ho
  obtain ⟨x0, x1, x2, x3, _⟩ := s1.cellsA
  go_enter Tryz.func35, Tryz.ntmps35
  go_upto_region 1 with fail
  rw [← e1.out]
  clear e1
  go_upto_region 3 with fail
  refine wp_region_lit ?_
  refine wpList_load_mid (by rfl) 43 _ (by rfl) _ 0 (by rfl) [.int .i64 M.c, (.slice (some ⟨tg, 0, none⟩) M.tn tc), (.slice (some ⟨pg, 0, none⟩) M.pn pc), .int .i64 h.pos, .int .i64 h.call.code, .int .i64 h.call.a, .int .i64 h.call.b, .int .i64 h.call.c, .int .i64 h.tim, .int .i64 h.whe, .bool h.had, .int .i64 h.cnt, .int .i64 h.beg, .int .i64 h.rep, .int .i64 h.out, .int .i64 v.kin, .int .i64 v.tim, .int .i64 v.gen, .int .i64 v.whe, .int .i64 v.clk] _ (range_of_block s1.a) Tryz.underlying43 rfl done_info ?_
  go_wp2_with fail
  go_at_call 40; refine (l10Mine_any ht s1.own).mono ?_; rw [HQ.out]; rintro e w2 ⟨rfl, hb⟩
  have s2 := s1.below hb
  clear s1 hb x0 x1 x2 x3
  obtain ⟨x0, x1, x2, x3, x4, x5, x6, x7, x8, x9, x10, x11, x12, x13, x14, x15, x16, x17, x18, x19, xf0, xf1, xf2, xf3, xf4, xf5, xf6, xf7, xf8, xf9, xf10, xf11, xf12, xf13, xf14, xf15, xf16, xf17, xf18, xf19⟩ := s2.cellsA
  rw [HT.out] at x8
  obtain ⟨⟨t0, t1, t2, t3, t4, t5, t6, t7⟩, _⟩ := s2.tcells ht2 rfl
  rw [HK.out] at t4
  rw [HG.out] at t5
  have i0 : (0 : Int) ≤ (t : Int) := by omega
  have i1 : (t : Int) < (M.tn : Int) := by omega
  have j0 : (0 : Int) ≤ (k : Int) := by omega
  have j1 : (k : Int) < (M.pn : Int) := by omega
  have kX := (Below.refl w2.heap.size w2).alloc (Nat.le_refl _) (.cells #[.int .i64 (M.t t).st, .int .i64 (M.t t).wh, .int .i64 (M.t t).nx, .int .i64 (M.t t).pe, .int .i64 (k : Int), .int .i64 G, .int .i64 (M.t t).ki, .int .i64 (M.t t).ma] 80)
  have hX := heap_alloc_new w2 (.cells #[.int .i64 (M.t t).st, .int .i64 (M.t t).wh, .int .i64 (M.t t).nx, .int .i64 (M.t t).pe, .int .i64 (k : Int), .int .i64 G, .int .i64 (M.t t).ki, .int .i64 (M.t t).ma] 80)
  have lX := s2.size
  have ltg := s2.tlt ht2
  go_upto_region 7 with fail
  obtain ⟨X, hXb⟩ : ∃ X, w2.heap.size = X := ⟨_, rfl⟩
  have hXle : w2.heap.size ≤ X := Nat.le_of_eq hXb
  rw [hXb] at hX lX ltg ⊢
  generalize hw3 : w2.alloc (.cells #[.int .i64 (M.t t).st, .int .i64 (M.t t).wh, .int .i64 (M.t t).nx, .int .i64 (M.t t).pe, .int .i64 (k : Int), .int .i64 G, .int .i64 (M.t t).ki, .int .i64 (M.t t).ma] 80) = w3 at hX kX ⊢
  clear hw3 hXb t0 t1 t2 t3 t4 t5 t6 t7 x0 x1 x2 x3 x4 x5 x6 x7 x8 x9 x10 x11 x12 x13 x14 x15 x16 x17 x18 x19 xf0 xf1 xf2 xf3 xf4 xf5 xf6 xf7 xf8 xf9 xf10 xf11 xf12 xf13 xf14 xf15 xf16 xf17 xf18 xf19
  have s3 := s2.below kX
  obtain ⟨_, _, _, _, _, _, _, _, _, x9, _⟩ := s3.cellsA
  have y0 : w3.cell? ⟨X, 0, none⟩ = some (.int .i64 (M.t t).st) := cell_of_block hX 0
  have y2 : w3.cell? ⟨X, 2, none⟩ = some (.int .i64 (M.t t).nx) := cell_of_block hX 2
  have y5 : w3.cell? ⟨X, 5, none⟩ = some (.int .i64 G) := cell_of_block hX 5
  have z0 := unfrozen_of_block hX 0; have z2 := unfrozen_of_block hX 2; have z5 := unfrozen_of_block hX 5
  have hXA : ¬ X = w.heap.size := by omega
  have hAX : ¬ w.heap.size = X := by omega
  go_wp2_with fail
  (try simp only [hwr])
  go_at_call 58; refine (l1Min_any _ _ _).mono ?_; rintro x wp ⟨rfl, rfl⟩
  have hX6 := block_setCell (i := 0) (block_setCell (i := 2) (block_setCell (i := 5) hX (.int .i64 (minI (G + 1) 100000))) (.int .i64 h.whe)) (.int .i64 4)
  simp only [List.setIfInBounds_toArray, List.set_cons_zero, List.set_cons_succ] at hX6
  have kk6 := ((kX.setCell (p := ⟨X, 5, none⟩) hXle (.int .i64 (minI (G + 1) 100000))).setCell (p := ⟨X, 2, none⟩) hXle (.int .i64 h.whe)).setCell (p := ⟨X, 0, none⟩) hXle (.int .i64 4)
  go_upto_region 10 with fail
  generalize hw6 : (((w3.setCell ⟨X, 5, none⟩ (.int .i64 (minI (G + 1) 100000))).setCell ⟨X, 2, none⟩ (.int .i64 h.whe)).setCell ⟨X, 0, none⟩ (.int .i64 4)) = w6 at hX6 kk6 ⊢
  clear hw6 s3 x9 y0 y2 y5 z0 z2 z5 hX kX
  have y1 : w6.cell? ⟨X, 1, none⟩ = some (.int .i64 (M.t t).wh) := cell_of_block hX6 1
  have y2 : w6.cell? ⟨X, 2, none⟩ = some (.int .i64 h.whe) := cell_of_block hX6 2
  have y0 : w6.cell? ⟨X, 0, none⟩ = some (.int .i64 4) := cell_of_block hX6 0
  have z0 := unfrozen_of_block hX6 0
  have hX7 := block_setCell (i := 0) hX6 (.int .i64 3)
  simp only [List.setIfInBounds_toArray, List.set_cons_zero, List.set_cons_succ] at hX7
  have kk7 := kk6.setCell (p := ⟨X, 0, none⟩) hXle (.int .i64 3)
  go_upto_region 12 with fail
  generalize hw7 : w6.setCell ⟨X, 0, none⟩ (.int .i64 3) = w7 at hX7 kk7 ⊢
  clear hw7 hX6 kk6 y0 z0 y1 y2
  have s7 := s2.below kk7
  obtain ⟨⟨ha, hc', hV, p0⟩, ⟨p1, p2, p3⟩, _⟩ := s7.pcells (k := k) hkp rfl
  obtain ⟨_, _, x2, _⟩ := s7.cellsA
  have y4 : w7.cell? ⟨X, 4, none⟩ = some (.int .i64 (k : Int)) := cell_of_block hX7 4
  have kQ := kk7.alloc kk7.size (.cells #[.slice ha (M.p k).n hc', .int .i64 (M.p k).l, .int .i64 (M.p k).e, .int .i64 (M.p k).d] 83)
  have hQ := heap_alloc_new w7 (.cells #[.slice ha (M.p k).n hc', .int .i64 (M.p k).l, .int .i64 (M.p k).e, .int .i64 (M.p k).d] 83)
  have hX8 := alloc_block (.cells #[.slice ha (M.p k).n hc', .int .i64 (M.p k).l, .int .i64 (M.p k).e, .int .i64 (M.p k).d] 83) hX7
  go_upto_region 13 with fail
  generalize hQb : w7.heap.size = Qb at hQ ⊢
  generalize hw8 : w7.alloc (.cells #[.slice ha (M.p k).n hc', .int .i64 (M.p k).l, .int .i64 (M.p k).e, .int .i64 (M.p k).d] 83) = w8 at kQ hQ hX8 ⊢
  clear hw8 hQb s7 hX7 kk7 p0 p1 p2 p3 x2 y4
  have s8 := s2.below kQ
  have u2 : w8.cell? ⟨Qb, 2, none⟩ = some (.int .i64 (M.p k).e) := cell_of_block hQ 2
  have y2 : w8.cell? ⟨X, 2, none⟩ = some (.int .i64 h.whe) := cell_of_block hX8 2
  have y4 : w8.cell? ⟨X, 4, none⟩ = some (.int .i64 (k : Int)) := cell_of_block hX8 4
  obtain ⟨_, x1, x2, _⟩ := s8.cellsA
  have s9 := s8
  have hX9 := hX8
  go_upto_region 15 with fail
  have lX9 := lt_of_block hX9
  clear s2 s8 kQ hX8 hQ u2 y2 y4 hXle
  obtain ⟨⟨t0, t1, t2, t3, t4, t5, t6, t7⟩, tf⟩ := s9.tcells (t := t) ht2 rfl
  have f0 := tf (t * 8); have f1 := tf (t * 8 + 1); have f2 := tf (t * 8 + 2); have f3 := tf (t * 8 + 3); have f4 := tf (t * 8 + 4); have f5 := tf (t * 8 + 5); have f6 := tf (t * 8 + 6); have f7 := tf (t * 8 + 7)
  obtain ⟨y0, y1, y2, y3, y4, y5, y6, y7⟩ : w8.cell? ⟨X, 0, none⟩ = some (.int .i64 3) ∧ w8.cell? ⟨X, 1, none⟩ = some (.int .i64 (M.t t).wh) ∧ w8.cell? ⟨X, 2, none⟩ = some (.int .i64 h.whe) ∧ w8.cell? ⟨X, 3, none⟩ = some (.int .i64 (M.t t).pe) ∧ w8.cell? ⟨X, 4, none⟩ = some (.int .i64 (k : Int)) ∧ w8.cell? ⟨X, 5, none⟩ = some (.int .i64 (minI (G + 1) 100000)) ∧ w8.cell? ⟨X, 6, none⟩ = some (.int .i64 (M.t t).ki) ∧ w8.cell? ⟨X, 7, none⟩ = some (.int .i64 (M.t t).ma) := ⟨cell_of_block hX9 0, cell_of_block hX9 1, cell_of_block hX9 2, cell_of_block hX9 3, cell_of_block hX9 4, cell_of_block hX9 5, cell_of_block hX9 6, cell_of_block hX9 7⟩
  obtain ⟨wa, ea, sa⟩ := dst_putT s9 (t := t) ht2 (⟨3, (M.t t).wh, h.whe, (M.t t).pe, (k : Int), minI (G + 1) 100000, (M.t t).ki, (M.t t).ma⟩ : Tm)
  have hE : ({ M with t := putT M.t t (⟨3, (M.t t).wh, h.whe, (M.t t).pe, (k : Int), minI (G + 1) 100000, (M.t t).ki, (M.t t).ma⟩ : Tm) } : Me) = KM := HKM.out
  rw [hE] at sa
  clear hE
  have hXa := (heap_setT_ne w8 tg t (⟨3, (M.t t).wh, h.whe, (M.t t).pe, (k : Int), minI (G + 1) 100000, (M.t t).ki, (M.t t).ma⟩ : Tm) (g := X) (by omega)).trans hX9
  rw [← ea.out] at hXa
  dsimp only [setT] at ea
  go_upto_region 16 with fail
  rw [← ea.out]
  clear ea s9 hX9 tf t0 t1 t2 t3 t4 t5 t6 t7 f0 f1 f2 f3 f4 f5 f6 f7 y0 y1 y2 y3 y4 y5 y6 y7 x1
  have y2 : wa.cell? ⟨X, 2, none⟩ = some (.int .i64 h.whe) := cell_of_block hXa 2
  have hEv := l9Ev_any (w := wa) 1 h.whe (show t < KM.tn by rw [et]; exact ht2) sa.own
  rw [ec] at hEv
  have HEv := Lib.hid hEv
  clear hEv
  obtain ⟨x0, x1, x2, x3, x4, x5, x6, x7, x8, x9, x10, x11, x12, x13, x14, x15, x16, x17, x18, x19, xf0, xf1, xf2, xf3, xf4, xf5, xf6, xf7, xf8, xf9, xf10, xf11, xf12, xf13, xf14, xf15, xf16, xf17, xf18, xf19⟩ := sa.cellsA
  go_wp2_with fail
  go_at_call 59; refine HEv.out.mono ?_; rintro e wb ⟨rfl, hb⟩
  have sb := sa.below hb
  clear sa HEv hb hXa y2 x0 x1 x2 x3 x4 x5 x6 x7 x8 x9 x10 x11 x12 x13 x14 x15 x16 x17 x18 x19 xf0 xf1 xf2 xf3 xf4 xf5 xf6 xf7 xf8 xf9 xf10 xf11 xf12 xf13 xf14 xf15 xf16 xf17 xf18 xf19
  obtain ⟨x0, x1, x2, x3, x4, x5, x6, x7, x8, x9, x10, x11, x12, x13, x14, x15, x16, x17, x18, x19, xf0, xf1, xf2, xf3, xf4, xf5, xf6, xf7, xf8, xf9, xf10, xf11, xf12, xf13, xf14, xf15, xf16, xf17, xf18, xf19⟩ := sb.cellsA
  obtain ⟨wc, ec', sc⟩ := sb.ev_all (evI KM 1 t h.whe)
  go_upto_region 17 with fail
  rw [← ec'.out]
  clear ec' sb x0 x1 x2 x3 x4 x5 x6 x7 x8 x9 x10 x11 x12 x13 x14 x15 x16 x17 x18 x19 xf0 xf1 xf2 xf3 xf4 xf5 xf6 xf7 xf8 xf9 xf10 xf11 xf12 xf13 xf14 xf15 xf16 xf17 xf18 xf19
  obtain ⟨x0, x1, x2, x3, x4, x5, x6, x7, x8, x9, x10, x11, x12, x13, x14, x15, x16, x17, x18, x19, xf0, xf1, xf2, xf3, xf4, xf5, xf6, xf7, xf8, xf9, xf10, xf11, xf12, xf13, xf14, xf15, xf16, xf17, xf18, xf19⟩ := sc.cellsA
  rw [HH.out] at x10
  go_upto_region 19 with fail
  go_wp2_with fail
  go_at_call 41; refine (spResting_any 3 0 _).mono ?_; rintro e wd ⟨rfl, hb⟩
  have sd := sc.below hb
  clear sc hb x0 x1 x2 x3 x4 x5 x6 x7 x8 x9 x10 x11 x12 x13 x14 x15 x16 x17 x18 x19 xf0 xf1 xf2 xf3 xf4 xf5 xf6 xf7 xf8 xf9 xf10 xf11 xf12 xf13 xf14 xf15 xf16 xf17 xf18 xf19
  obtain ⟨x0, x1, x2, x3, x4, x5, x6, x7, x8, x9, x10, x11, x12, x13, x14, x15, x16, x17, x18, x19, xf0, xf1, xf2, xf3, xf4, xf5, xf6, xf7, xf8, xf9, xf10, xf11, xf12, xf13, xf14, xf15, xf16, xf17, xf18, xf19⟩ := sd.cellsA
  obtain ⟨we, ee, se⟩ := sd.hand_all (restHd 3 0)
  go_upto_region 20 with fail
  rw [← ee.out]
  clear ee sd x0 x1 x2 x3 x4 x5 x6 x7 x8 x9 x10 x11 x12 x13 x14 x15 x16 x17 x18 x19 xf0 xf1 xf2 xf3 xf4 xf5 xf6 xf7 xf8 xf9 xf10 xf11 xf12 xf13 xf14 xf15 xf16 xf17 xf18 xf19
  refine wp_region_lit ?_
  refine wpList_load_mid (by rfl) 43 _ (by rfl) _ 0 (by rfl) [.int .i64 M.c, (.slice (some ⟨tg, 0, none⟩) M.tn tc), (.slice (some ⟨pg, 0, none⟩) M.pn pc), .int .i64 (restHd 3 0).pos, .int .i64 (restHd 3 0).call.code, .int .i64 (restHd 3 0).call.a, .int .i64 (restHd 3 0).call.b, .int .i64 (restHd 3 0).call.c, .int .i64 (restHd 3 0).tim, .int .i64 (restHd 3 0).whe, .bool (restHd 3 0).had, .int .i64 (restHd 3 0).cnt, .int .i64 (restHd 3 0).beg, .int .i64 (restHd 3 0).rep, .int .i64 (restHd 3 0).out, .int .i64 (evI KM 1 t h.whe).kin, .int .i64 (evI KM 1 t h.whe).tim, .int .i64 (evI KM 1 t h.whe).gen, .int .i64 (evI KM 1 t h.whe).whe, .int .i64 (evI KM 1 t h.whe).clk] _ (range_of_block se.a) Tryz.underlying43 rfl done_info ?_
  refine wpList_store_mid (by rfl) 43 _ _ (by rfl) _ 0 #[.int .i64 M.c, (.slice (some ⟨tg, 0, none⟩) M.tn tc), (.slice (some ⟨pg, 0, none⟩) M.pn pc), .int .i64 (restHd 3 0).pos, .int .i64 (restHd 3 0).call.code, .int .i64 (restHd 3 0).call.a, .int .i64 (restHd 3 0).call.b, .int .i64 (restHd 3 0).call.c, .int .i64 (restHd 3 0).tim, .int .i64 (restHd 3 0).whe, .bool (restHd 3 0).had, .int .i64 (restHd 3 0).cnt, .int .i64 (restHd 3 0).beg, .int .i64 (restHd 3 0).rep, .int .i64 (restHd 3 0).out, .int .i64 (evI KM 1 t h.whe).kin, .int .i64 (evI KM 1 t h.whe).tim, .int .i64 (evI KM 1 t h.whe).gen, .int .i64 (evI KM 1 t h.whe).whe, .int .i64 (evI KM 1 t h.whe).clk] (by rfl) (by rfl) se.there done_info (by simp [Value.oneCell']) ?_
  go_wp2
  exact bodyPost_ret (v := .tuple #[.agg #[.int .i64 M.c, (.slice (some ⟨tg, 0, none⟩) M.tn tc), (.slice (some ⟨pg, 0, none⟩) M.pn pc), .int .i64 (restHd 3 0).pos, .int .i64 (restHd 3 0).call.code, .int .i64 (restHd 3 0).call.a, .int .i64 (restHd 3 0).call.b, .int .i64 (restHd 3 0).call.c, .int .i64 (restHd 3 0).tim, .int .i64 (restHd 3 0).whe, .bool (restHd 3 0).had, .int .i64 (restHd 3 0).cnt, .int .i64 (restHd 3 0).beg, .int .i64 (restHd 3 0).rep, .int .i64 (restHd 3 0).out, .int .i64 (evI KM 1 t h.whe).kin, .int .i64 (evI KM 1 t h.whe).tim, .int .i64 (evI KM 1 t h.whe).gen, .int .i64 (evI KM 1 t h.whe).whe, .int .i64 (evI KM 1 t h.whe).clk], .bool true]) (results_pair (cs := [.int .i64 M.c, (.slice (some ⟨tg, 0, none⟩) M.tn tc), (.slice (some ⟨pg, 0, none⟩) M.pn pc), .int .i64 (restHd 3 0).pos, .int .i64 (restHd 3 0).call.code, .int .i64 (restHd 3 0).call.a, .int .i64 (restHd 3 0).call.b, .int .i64 (restHd 3 0).call.c, .int .i64 (restHd 3 0).tim, .int .i64 (restHd 3 0).whe, .bool (restHd 3 0).had, .int .i64 (restHd 3 0).cnt, .int .i64 (restHd 3 0).beg, .int .i64 (restHd 3 0).rep, .int .i64 (restHd 3 0).out, .int .i64 (evI KM 1 t h.whe).kin, .int .i64 (evI KM 1 t h.whe).tim, .int .i64 (evI KM 1 t h.whe).gen, .int .i64 (evI KM 1 t h.whe).whe, .int .i64 (evI KM 1 t h.whe).clk]) rfl rfl rfl se.lies Tryz.underlying43 rfl done_info) rfl (se.retC.toB true)

theorem l11Reset_any {B : Nat} {tv pv : Value} {M : Me} {h : Hd} {v : Et} {w : World} (hB : B ≤ w.heap.size) (hk : 0 < M.pn) (hn : M.tn ≤ 1048576) (ht : 0 ≤ h.tim → h.tim.toNat < M.tn) (hp : ∀ i, i < M.tn → (M.t i).pl ≠ -1 → ∃ k : Nat, k < M.pn ∧ (M.t i).pl = (k : Int)) (hd : ∀ k, k < M.pn → 0 ≤ (M.p k).d ∧ (M.p k).d ≤ 1000) (hg : ∀ i, i < M.tn → 0 ≤ (M.t i).ge ∧ (M.t i).ge ≤ 100000) (h5p : ∀ i, i < M.tn → (M.t i).st = 5 → (M.t i).pl ≠ -1) (hm : OwnMem w B tv pv M) :
    Calls Tryz.prog 35 #[dnV ⟨M, h, v⟩ tv pv] w (InDnB B (if resetB ⟨M, h, v⟩ then resetD ⟨M, h, v⟩ else dn0) (resetB ⟨M, h, v⟩) w) := by
  by_cases h5 : h.pos = 5
  · exact l11Reset_look hB hk hn ht hp hd hg h5p h5 hm
  cases hq : mineB ⟨M, h, v⟩
  · exact l11Reset_no hB hk hn ht hp hd hg h5p h5 hq hm
  obtain ⟨t, het⟩ : ∃ t : Nat, h.tim = (t : Int) := ⟨h.tim.toNat, by simp only [mineB, Bool.and_eq_true, decide_eq_true_eq] at hq; omega⟩
  have ht2 : t < M.tn := by have := ht (by omega); omega
  obtain ⟨_, hpl⟩ : (M.t t).st = 2 ∧ (M.t t).pl ≠ -1 := by simpa [mineB, het] using hq
  obtain ⟨k, hkp, hpk⟩ := hp t ht2 hpl
  obtain ⟨g0, g1⟩ := hg t ht2
  by_cases hlt : h.whe < (M.t t).wh
  · by_cases hee : (M.p k).e < 0 ∨ h.whe < (M.p k).e
    · cases hh : h.had
      · exact l11Reset_B1_false hB hk hn ht hp hd hg h5p h5 hq het ht2 hkp hpk rfl g0 g1 hh hlt hee hm
      · exact l11Reset_B1_true hB hk hn ht hp hd hg h5p h5 hq het ht2 hkp hpk rfl g0 g1 hh hlt hee hm
    · cases hh : h.had
      · exact l11Reset_B2_false hB hk hn ht hp hd hg h5p h5 hq het ht2 hkp hpk rfl g0 g1 hh hlt hee hm
      · exact l11Reset_B2_true hB hk hn ht hp hd hg h5p h5 hq het ht2 hkp hpk rfl g0 g1 hh hlt hee hm
  · cases hh : h.had
    · exact l11Reset_A_false hB hk hn ht hp hd hg h5p h5 hq het ht2 hkp hpk rfl g0 g1 hh hlt hm
    · exact l11Reset_A_true hB hk hn ht hp hd hg h5p h5 hq het ht2 hkp hpk rfl g0 g1 hh hlt hm

end Go.Proofs.YtflekodaiejflaaGreatDoor
