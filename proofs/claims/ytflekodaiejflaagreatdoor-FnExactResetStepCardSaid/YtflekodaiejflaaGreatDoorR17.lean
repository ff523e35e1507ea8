/-
  Setting anew (spec, chapter 11): the look.
-/
import Derived.Test.YtflekodaiejflaaGreatDoorR16
import Derived.Deep.QuietTactic
import Derived.BigQuiet
import Derived.Deep.DeepCutAuto
namespace Go.Proofs.YtflekodaiejflaaGreatDoor
open Go.Deep Go.ChangeShapes Go.WideShapes Go.ChangeAt Go.RowKit Go.Joins
set_option linter.unusedVariables false
set_option linter.unusedSimpArgs false

set_option maxRecDepth 100000 in
set_option maxHeartbeats 2000000 in
theorem l11Look_none {B : Nat} {tv pv : Value} {M : Me} {h : Hd} {v : Et} {w : World} (hB : B ≤ w.heap.size) (hk : 0 < M.pn) (hn : M.tn ≤ 1048576) (hp : ∀ i, i < M.tn → (M.t i).pl ≠ -1 → ∃ k : Nat, k < M.pn ∧ (M.t i).pl = (k : Int)) (hd : ∀ k, k < M.pn → 0 ≤ (M.p k).d ∧ (M.p k).d ≤ 1000) (hq : hasT M h.call.a = false) (hm : OwnMem w B tv pv M) :
    Calls Tryz.prog 57 #[dnV ⟨M, h, v⟩ tv pv] w (InDn B (resetLookD ⟨M, h, v⟩) w) := by
  rw [show resetLookD ⟨M, h, v⟩ = ⟨M, restHd 5 0, v⟩ by
    rw [resetLookD, if_neg (by simp [hq])]]
  have HQ := Lib.hid hq
  clear hq
  obtain ⟨pg, pc, V, rfl, ho⟩ := hm.openP hk
  clear hm
  obtain ⟨ta, tc, hta⟩ := ho.t.row.form
  subst hta
  obtain ⟨w1, e1, s1⟩ := DSt.start h v hB ho
  clear ho
  obtain ⟨x0, x1, x2, x3, x4, x5, x6, x7, x8, x9, x10, x11, x12, x13, x14, x15, x16, x17, x18, x19, xf0, xf1, xf2, xf3, xf4, xf5, xf6, xf7, xf8, xf9, xf10, xf11, xf12, xf13, xf14, xf15, xf16, xf17, xf18, xf19⟩ := s1.cellsA
  go_enter Tryz.func57, Tryz.ntmps57
  go_upto_region 1 with fail
  rw [← e1.out]
  clear e1
  go_wp2_with fail
  go_at_call 66; refine (l5Has_any ⟨_, _, rfl⟩ hn _ _).mono ?_; rw [HQ.out]; rintro e w2 ⟨rfl, hb⟩
  have s2 := s1.below hb
  clear s1 hb x0 x1 x2 x3 x4 x5 x6 x7 x8 x9 x10 x11 x12 x13 x14 x15 x16 x17 x18 x19 xf0 xf1 xf2 xf3 xf4 xf5 xf6 xf7 xf8 xf9 xf10 xf11 xf12 xf13 xf14 xf15 xf16 xf17 xf18 xf19
  go_upto_region 3 with fail
  go_wp2_with fail
  go_at_call 41; refine (spResting_any 5 0 _).mono ?_; rintro e w3 ⟨rfl, hb⟩
  have s3 := s2.below hb
  clear s2 hb
  obtain ⟨x0, x1, x2, x3, x4, x5, x6, x7, x8, x9, x10, x11, x12, x13, x14, x15, x16, x17, x18, x19, xf0, xf1, xf2, xf3, xf4, xf5, xf6, xf7, xf8, xf9, xf10, xf11, xf12, xf13, xf14, xf15, xf16, xf17, xf18, xf19⟩ := s3.cellsA
  obtain ⟨w4, e4, s4⟩ := s3.hand_all (restHd 5 0)
  go_upto_region 4 with fail
  rw [← e4.out]
  clear e4 s3 x0 x1 x2 x3 x4 x5 x6 x7 x8 x9 x10 x11 x12 x13 x14 x15 x16 x17 x18 x19 xf0 xf1 xf2 xf3 xf4 xf5 xf6 xf7 xf8 xf9 xf10 xf11 xf12 xf13 xf14 xf15 xf16 xf17 xf18 xf19
  refine wp_region_lit ?_
  refine wpList_load_mid (by rfl) 43 _ (by rfl) _ 0 (by rfl) [.int .i64 M.c, (.slice ta M.tn tc), (.slice (some ⟨pg, 0, none⟩) M.pn pc), .int .i64 (restHd 5 0).pos, .int .i64 (restHd 5 0).call.code, .int .i64 (restHd 5 0).call.a, .int .i64 (restHd 5 0).call.b, .int .i64 (restHd 5 0).call.c, .int .i64 (restHd 5 0).tim, .int .i64 (restHd 5 0).whe, .bool (restHd 5 0).had, .int .i64 (restHd 5 0).cnt, .int .i64 (restHd 5 0).beg, .int .i64 (restHd 5 0).rep, .int .i64 (restHd 5 0).out, .int .i64 v.kin, .int .i64 v.tim, .int .i64 v.gen, .int .i64 v.whe, .int .i64 v.clk] _ (range_of_block s4.a) Tryz.underlying43 rfl done_info ?_
  refine wpList_store_mid (by rfl) 43 _ _ (by rfl) _ 0 #[.int .i64 M.c, (.slice ta M.tn tc), (.slice (some ⟨pg, 0, none⟩) M.pn pc), .int .i64 (restHd 5 0).pos, .int .i64 (restHd 5 0).call.code, .int .i64 (restHd 5 0).call.a, .int .i64 (restHd 5 0).call.b, .int .i64 (restHd 5 0).call.c, .int .i64 (restHd 5 0).tim, .int .i64 (restHd 5 0).whe, .bool (restHd 5 0).had, .int .i64 (restHd 5 0).cnt, .int .i64 (restHd 5 0).beg, .int .i64 (restHd 5 0).rep, .int .i64 (restHd 5 0).out, .int .i64 v.kin, .int .i64 v.tim, .int .i64 v.gen, .int .i64 v.whe, .int .i64 v.clk] (by rfl) (by rfl) s4.there done_info (by simp [Value.oneCell']) ?_
  refine wpList_nil ?_
  go_wp2
  exact bodyPost_ret (v := .agg #[.int .i64 M.c, (.slice ta M.tn tc), (.slice (some ⟨pg, 0, none⟩) M.pn pc), .int .i64 (restHd 5 0).pos, .int .i64 (restHd 5 0).call.code, .int .i64 (restHd 5 0).call.a, .int .i64 (restHd 5 0).call.b, .int .i64 (restHd 5 0).call.c, .int .i64 (restHd 5 0).tim, .int .i64 (restHd 5 0).whe, .bool (restHd 5 0).had, .int .i64 (restHd 5 0).cnt, .int .i64 (restHd 5 0).beg, .int .i64 (restHd 5 0).rep, .int .i64 (restHd 5 0).out, .int .i64 v.kin, .int .i64 v.tim, .int .i64 v.gen, .int .i64 v.whe, .int .i64 v.clk]) (results_cell (cs := [.int .i64 M.c, (.slice ta M.tn tc), (.slice (some ⟨pg, 0, none⟩) M.pn pc), .int .i64 (restHd 5 0).pos, .int .i64 (restHd 5 0).call.code, .int .i64 (restHd 5 0).call.a, .int .i64 (restHd 5 0).call.b, .int .i64 (restHd 5 0).call.c, .int .i64 (restHd 5 0).tim, .int .i64 (restHd 5 0).whe, .bool (restHd 5 0).had, .int .i64 (restHd 5 0).cnt, .int .i64 (restHd 5 0).beg, .int .i64 (restHd 5 0).rep, .int .i64 (restHd 5 0).out, .int .i64 v.kin, .int .i64 v.tim, .int .i64 v.gen, .int .i64 v.whe, .int .i64 v.clk]) rfl rfl s4.lies Tryz.underlying43 rfl done_info) rfl (s4.retC)

set_option maxRecDepth 100000 in
set_option maxHeartbeats 2000000 in
theorem l11Look_2 {B : Nat} {tv pv : Value} {M : Me} {h : Hd} {v : Et} {w : World} (hB : B ≤ w.heap.size) (hk : 0 < M.pn) (hn : M.tn ≤ 1048576) (hp : ∀ i, i < M.tn → (M.t i).pl ≠ -1 → ∃ k : Nat, k < M.pn ∧ (M.t i).pl = (k : Int)) (hd : ∀ k, k < M.pn → 0 ≤ (M.p k).d ∧ (M.p k).d ≤ 1000) (hq : hasT M h.call.a = true) (hst : (M.t h.call.a.toNat).st = 2) (hm : OwnMem w B tv pv M) :
    Calls Tryz.prog 57 #[dnV ⟨M, h, v⟩ tv pv] w (InDn B (resetLookD ⟨M, h, v⟩) w) := by
  obtain ⟨t, het⟩ : ∃ t : Nat, h.call.a = (t : Int) := ⟨h.call.a.toNat, by have := inB_iff.1 hq; omega⟩
  have ht : t < M.tn := by have := inB_iff.1 hq; omega
  have eT : h.call.a.toNat = t := by rw [het]; rfl
  rw [eT] at hst
  rw [show resetLookD ⟨M, h, v⟩ = ⟨M, h, v⟩ by
    rw [resetLookD, if_pos hq]
    simp only [eT]
    simp [hst]]
  have g2 : ((M.t t).st == 2) = true := by simp [hst]
  have g6 : ((M.t t).st == 6) = false := by simp [hst]
  clear hst hp hd
  have HQ := Lib.hid (show hasT M (t : Int) = true by rw [← het]; exact hq)
  have HT := Lib.hid het
  clear hq het eT
  obtain ⟨pg, pc, V, rfl, ho⟩ := hm.openP hk
  clear hm
  obtain ⟨tg, tc, rfl, _⟩ := ho.tms ht
  obtain ⟨w1, e1, s1⟩ := DSt.start h v hB ho
  clear ho
  have i0 : (0 : Int) ≤ (t : Int) := by omega
  have i1 : (t : Int) < (M.tn : Int) := by omega
  obtain ⟨x0, x1, x2, x3, x4, x5, x6, x7, x8, x9, x10, x11, x12, x13, x14, x15, x16, x17, x18, x19, xf0, xf1, xf2, xf3, xf4, xf5, xf6, xf7, xf8, xf9, xf10, xf11, xf12, xf13, xf14, xf15, xf16, xf17, xf18, xf19⟩ := s1.cellsA
  rw [HT.out] at x5
  go_enter Tryz.func57, Tryz.ntmps57
  go_upto_region 1 with fail
  rw [← e1.out]
  clear e1
  go_wp2_with fail
  go_at_call 66; refine (l5Has_any ⟨_, _, rfl⟩ hn _ _).mono ?_; rw [HQ.out]; rintro e w2 ⟨rfl, hb⟩
  have s2 := s1.below hb
  clear s1 hb x0 x1 x2 x3 x4 x5 x6 x7 x8 x9 x10 x11 x12 x13 x14 x15 x16 x17 x18 x19 xf0 xf1 xf2 xf3 xf4 xf5 xf6 xf7 xf8 xf9 xf10 xf11 xf12 xf13 xf14 xf15 xf16 xf17 xf18 xf19
  obtain ⟨x0, x1, x2, x3, x4, x5, x6, x7, x8, x9, x10, x11, x12, x13, x14, x15, x16, x17, x18, x19, xf0, xf1, xf2, xf3, xf4, xf5, xf6, xf7, xf8, xf9, xf10, xf11, xf12, xf13, xf14, xf15, xf16, xf17, xf18, xf19⟩ := s2.cellsA
  obtain ⟨⟨t0, t1, t2, t3, t4, t5, t6, t7⟩, _⟩ := s2.tcells ht rfl
  have kX := (Below.refl w2.heap.size w2).alloc (Nat.le_refl _) (.cells #[.int .i64 (M.t t).st, .int .i64 (M.t t).wh, .int .i64 (M.t t).nx, .int .i64 (M.t t).pe, .int .i64 (M.t t).pl, .int .i64 (M.t t).ge, .int .i64 (M.t t).ki, .int .i64 (M.t t).ma] 80)
  have hX := heap_alloc_new w2 (.cells #[.int .i64 (M.t t).st, .int .i64 (M.t t).wh, .int .i64 (M.t t).nx, .int .i64 (M.t t).pe, .int .i64 (M.t t).pl, .int .i64 (M.t t).ge, .int .i64 (M.t t).ki, .int .i64 (M.t t).ma] 80)
  have s3 := s2.below kX
  have lX := s2.size
  have ltg := s2.tlt ht
  go_upto_region 6 with fail
  generalize hXb : w2.heap.size = X at hX lX ltg ⊢
  generalize hw3 : w2.alloc (.cells #[.int .i64 (M.t t).st, .int .i64 (M.t t).wh, .int .i64 (M.t t).nx, .int .i64 (M.t t).pe, .int .i64 (M.t t).pl, .int .i64 (M.t t).ge, .int .i64 (M.t t).ki, .int .i64 (M.t t).ma] 80) = w3 at hX s3 ⊢
  clear hw3 kX hXb s2 t0 t1 t2 t3 t4 t5 t6 t7 x0 x1 x2 x3 x4 x5 x6 x7 x8 x9 x10 x11 x12 x13 x14 x15 x16 x17 x18 x19 xf0 xf1 xf2 xf3 xf4 xf5 xf6 xf7 xf8 xf9 xf10 xf11 xf12 xf13 xf14 xf15 xf16 xf17 xf18 xf19
  have y0 : w3.cell? ⟨X, 0, none⟩ = some (.int .i64 (M.t t).st) := cell_of_block hX 0
  have y4 : w3.cell? ⟨X, 4, none⟩ = some (.int .i64 (M.t t).pl) := cell_of_block hX 4
  go_upto_region 7 with fail
  refine wp_region_lit ?_
  refine wpList_load_mid (by rfl) 43 _ (by rfl) _ 0 (by rfl) [.int .i64 M.c, (.slice (some ⟨tg, 0, none⟩) M.tn tc), (.slice (some ⟨pg, 0, none⟩) M.pn pc), .int .i64 h.pos, .int .i64 h.call.code, .int .i64 h.call.a, .int .i64 h.call.b, .int .i64 h.call.c, .int .i64 h.tim, .int .i64 h.whe, .bool h.had, .int .i64 h.cnt, .int .i64 h.beg, .int .i64 h.rep, .int .i64 h.out, .int .i64 v.kin, .int .i64 v.tim, .int .i64 v.gen, .int .i64 v.whe, .int .i64 v.clk] _ (range_of_block s3.a) Tryz.underlying43 rfl done_info ?_
  refine wpList_store_mid (by rfl) 43 _ _ (by rfl) _ 0 #[.int .i64 M.c, (.slice (some ⟨tg, 0, none⟩) M.tn tc), (.slice (some ⟨pg, 0, none⟩) M.pn pc), .int .i64 h.pos, .int .i64 h.call.code, .int .i64 h.call.a, .int .i64 h.call.b, .int .i64 h.call.c, .int .i64 h.tim, .int .i64 h.whe, .bool h.had, .int .i64 h.cnt, .int .i64 h.beg, .int .i64 h.rep, .int .i64 h.out, .int .i64 v.kin, .int .i64 v.tim, .int .i64 v.gen, .int .i64 v.whe, .int .i64 v.clk] (by rfl) (by rfl) s3.there done_info (by simp [Value.oneCell']) ?_
  refine wpList_nil ?_
  go_wp2
  exact bodyPost_ret (v := .agg #[.int .i64 M.c, (.slice (some ⟨tg, 0, none⟩) M.tn tc), (.slice (some ⟨pg, 0, none⟩) M.pn pc), .int .i64 h.pos, .int .i64 h.call.code, .int .i64 h.call.a, .int .i64 h.call.b, .int .i64 h.call.c, .int .i64 h.tim, .int .i64 h.whe, .bool h.had, .int .i64 h.cnt, .int .i64 h.beg, .int .i64 h.rep, .int .i64 h.out, .int .i64 v.kin, .int .i64 v.tim, .int .i64 v.gen, .int .i64 v.whe, .int .i64 v.clk]) (results_cell (cs := [.int .i64 M.c, (.slice (some ⟨tg, 0, none⟩) M.tn tc), (.slice (some ⟨pg, 0, none⟩) M.pn pc), .int .i64 h.pos, .int .i64 h.call.code, .int .i64 h.call.a, .int .i64 h.call.b, .int .i64 h.call.c, .int .i64 h.tim, .int .i64 h.whe, .bool h.had, .int .i64 h.cnt, .int .i64 h.beg, .int .i64 h.rep, .int .i64 h.out, .int .i64 v.kin, .int .i64 v.tim, .int .i64 v.gen, .int .i64 v.whe, .int .i64 v.clk]) rfl rfl s3.lies Tryz.underlying43 rfl done_info) rfl (s3.retC)

set_option maxRecDepth 100000 in
set_option maxHeartbeats 2000000 in
theorem l11Look_6 {B : Nat} {tv pv : Value} {M : Me} {h : Hd} {v : Et} {w : World} (hB : B ≤ w.heap.size) (hk : 0 < M.pn) (hn : M.tn ≤ 1048576) (hp : ∀ i, i < M.tn → (M.t i).pl ≠ -1 → ∃ k : Nat, k < M.pn ∧ (M.t i).pl = (k : Int)) (hd : ∀ k, k < M.pn → 0 ≤ (M.p k).d ∧ (M.p k).d ≤ 1000) (hq : hasT M h.call.a = true) (hst : (M.t h.call.a.toNat).st = 6) (hm : OwnMem w B tv pv M) :
    Calls Tryz.prog 57 #[dnV ⟨M, h, v⟩ tv pv] w (InDn B (resetLookD ⟨M, h, v⟩) w) := by
  obtain ⟨t, het⟩ : ∃ t : Nat, h.call.a = (t : Int) := ⟨h.call.a.toNat, by have := inB_iff.1 hq; omega⟩
  have ht : t < M.tn := by have := inB_iff.1 hq; omega
  have eT : h.call.a.toNat = t := by rw [het]; rfl
  rw [eT] at hst
  rw [show resetLookD ⟨M, h, v⟩ = ⟨M, h, v⟩ by
    rw [resetLookD, if_pos hq]
    simp only [eT]
    simp [hst]]
  have g2 : ((M.t t).st == 2) = false := by simp [hst]
  have g6 : ((M.t t).st == 6) = true := by simp [hst]
  clear hst hp hd
  have HQ := Lib.hid (show hasT M (t : Int) = true by rw [← het]; exact hq)
  have HT := Lib.hid het
  clear hq het eT
  obtain ⟨pg, pc, V, rfl, ho⟩ := hm.openP hk
  clear hm
  obtain ⟨tg, tc, rfl, _⟩ := ho.tms ht
  obtain ⟨w1, e1, s1⟩ := DSt.start h v hB ho
  clear ho
  have i0 : (0 : Int) ≤ (t : Int) := by omega
  have i1 : (t : Int) < (M.tn : Int) := by omega
  obtain ⟨x0, x1, x2, x3, x4, x5, x6, x7, x8, x9, x10, x11, x12, x13, x14, x15, x16, x17, x18, x19, xf0, xf1, xf2, xf3, xf4, xf5, xf6, xf7, xf8, xf9, xf10, xf11, xf12, xf13, xf14, xf15, xf16, xf17, xf18, xf19⟩ := s1.cellsA
  rw [HT.out] at x5
  go_enter Tryz.func57, Tryz.ntmps57
  go_upto_region 1 with fail
  rw [← e1.out]
  clear e1
  go_wp2_with fail
  go_at_call 66; refine (l5Has_any ⟨_, _, rfl⟩ hn _ _).mono ?_; rw [HQ.out]; rintro e w2 ⟨rfl, hb⟩
  have s2 := s1.below hb
  clear s1 hb x0 x1 x2 x3 x4 x5 x6 x7 x8 x9 x10 x11 x12 x13 x14 x15 x16 x17 x18 x19 xf0 xf1 xf2 xf3 xf4 xf5 xf6 xf7 xf8 xf9 xf10 xf11 xf12 xf13 xf14 xf15 xf16 xf17 xf18 xf19
  obtain ⟨x0, x1, x2, x3, x4, x5, x6, x7, x8, x9, x10, x11, x12, x13, x14, x15, x16, x17, x18, x19, xf0, xf1, xf2, xf3, xf4, xf5, xf6, xf7, xf8, xf9, xf10, xf11, xf12, xf13, xf14, xf15, xf16, xf17, xf18, xf19⟩ := s2.cellsA
  obtain ⟨⟨t0, t1, t2, t3, t4, t5, t6, t7⟩, _⟩ := s2.tcells ht rfl
  have kX := (Below.refl w2.heap.size w2).alloc (Nat.le_refl _) (.cells #[.int .i64 (M.t t).st, .int .i64 (M.t t).wh, .int .i64 (M.t t).nx, .int .i64 (M.t t).pe, .int .i64 (M.t t).pl, .int .i64 (M.t t).ge, .int .i64 (M.t t).ki, .int .i64 (M.t t).ma] 80)
  have hX := heap_alloc_new w2 (.cells #[.int .i64 (M.t t).st, .int .i64 (M.t t).wh, .int .i64 (M.t t).nx, .int .i64 (M.t t).pe, .int .i64 (M.t t).pl, .int .i64 (M.t t).ge, .int .i64 (M.t t).ki, .int .i64 (M.t t).ma] 80)
  have s3 := s2.below kX
  have lX := s2.size
  have ltg := s2.tlt ht
  go_upto_region 6 with fail
  generalize hXb : w2.heap.size = X at hX lX ltg ⊢
  generalize hw3 : w2.alloc (.cells #[.int .i64 (M.t t).st, .int .i64 (M.t t).wh, .int .i64 (M.t t).nx, .int .i64 (M.t t).pe, .int .i64 (M.t t).pl, .int .i64 (M.t t).ge, .int .i64 (M.t t).ki, .int .i64 (M.t t).ma] 80) = w3 at hX s3 ⊢
  clear hw3 kX hXb s2 t0 t1 t2 t3 t4 t5 t6 t7 x0 x1 x2 x3 x4 x5 x6 x7 x8 x9 x10 x11 x12 x13 x14 x15 x16 x17 x18 x19 xf0 xf1 xf2 xf3 xf4 xf5 xf6 xf7 xf8 xf9 xf10 xf11 xf12 xf13 xf14 xf15 xf16 xf17 xf18 xf19
  have y0 : w3.cell? ⟨X, 0, none⟩ = some (.int .i64 (M.t t).st) := cell_of_block hX 0
  have y4 : w3.cell? ⟨X, 4, none⟩ = some (.int .i64 (M.t t).pl) := cell_of_block hX 4
  go_upto_region 7 with fail
  refine wp_region_lit ?_
  refine wpList_load_mid (by rfl) 43 _ (by rfl) _ 0 (by rfl) [.int .i64 M.c, (.slice (some ⟨tg, 0, none⟩) M.tn tc), (.slice (some ⟨pg, 0, none⟩) M.pn pc), .int .i64 h.pos, .int .i64 h.call.code, .int .i64 h.call.a, .int .i64 h.call.b, .int .i64 h.call.c, .int .i64 h.tim, .int .i64 h.whe, .bool h.had, .int .i64 h.cnt, .int .i64 h.beg, .int .i64 h.rep, .int .i64 h.out, .int .i64 v.kin, .int .i64 v.tim, .int .i64 v.gen, .int .i64 v.whe, .int .i64 v.clk] _ (range_of_block s3.a) Tryz.underlying43 rfl done_info ?_
  refine wpList_store_mid (by rfl) 43 _ _ (by rfl) _ 0 #[.int .i64 M.c, (.slice (some ⟨tg, 0, none⟩) M.tn tc), (.slice (some ⟨pg, 0, none⟩) M.pn pc), .int .i64 h.pos, .int .i64 h.call.code, .int .i64 h.call.a, .int .i64 h.call.b, .int .i64 h.call.c, .int .i64 h.tim, .int .i64 h.whe, .bool h.had, .int .i64 h.cnt, .int .i64 h.beg, .int .i64 h.rep, .int .i64 h.out, .int .i64 v.kin, .int .i64 v.tim, .int .i64 v.gen, .int .i64 v.whe, .int .i64 v.clk] (by rfl) (by rfl) s3.there done_info (by simp [Value.oneCell']) ?_
  refine wpList_nil ?_
  go_wp2
  exact bodyPost_ret (v := .agg #[.int .i64 M.c, (.slice (some ⟨tg, 0, none⟩) M.tn tc), (.slice (some ⟨pg, 0, none⟩) M.pn pc), .int .i64 h.pos, .int .i64 h.call.code, .int .i64 h.call.a, .int .i64 h.call.b, .int .i64 h.call.c, .int .i64 h.tim, .int .i64 h.whe, .bool h.had, .int .i64 h.cnt, .int .i64 h.beg, .int .i64 h.rep, .int .i64 h.out, .int .i64 v.kin, .int .i64 v.tim, .int .i64 v.gen, .int .i64 v.whe, .int .i64 v.clk]) (results_cell (cs := [.int .i64 M.c, (.slice (some ⟨tg, 0, none⟩) M.tn tc), (.slice (some ⟨pg, 0, none⟩) M.pn pc), .int .i64 h.pos, .int .i64 h.call.code, .int .i64 h.call.a, .int .i64 h.call.b, .int .i64 h.call.c, .int .i64 h.tim, .int .i64 h.whe, .bool h.had, .int .i64 h.cnt, .int .i64 h.beg, .int .i64 h.rep, .int .i64 h.out, .int .i64 v.kin, .int .i64 v.tim, .int .i64 v.gen, .int .i64 v.whe, .int .i64 v.clk]) rfl rfl s3.lies Tryz.underlying43 rfl done_info) rfl (s3.retC)

set_option maxRecDepth 100000 in
set_option maxHeartbeats 2000000 in
theorem l11Look_1 {B : Nat} {tv pv : Value} {M : Me} {h : Hd} {v : Et} {w : World} (hB : B ≤ w.heap.size) (hk : 0 < M.pn) (hn : M.tn ≤ 1048576) (hp : ∀ i, i < M.tn → (M.t i).pl ≠ -1 → ∃ k : Nat, k < M.pn ∧ (M.t i).pl = (k : Int)) (hd : ∀ k, k < M.pn → 0 ≤ (M.p k).d ∧ (M.p k).d ≤ 1000) (hq : hasT M h.call.a = true) (hst : (M.t h.call.a.toNat).st = 1) (hm : OwnMem w B tv pv M) :
    Calls Tryz.prog 57 #[dnV ⟨M, h, v⟩ tv pv] w (InDn B (resetLookD ⟨M, h, v⟩) w) := by
  obtain ⟨t, het⟩ : ∃ t : Nat, h.call.a = (t : Int) := ⟨h.call.a.toNat, by have := inB_iff.1 hq; omega⟩
  have ht : t < M.tn := by have := inB_iff.1 hq; omega
  have eT : h.call.a.toNat = t := by rw [het]; rfl
  rw [eT] at hst
  obtain ⟨D3m, hD3m⟩ : ∃ D3m, setTm M t 0 2 = D3m := ⟨_, rfl⟩
  obtain ⟨D3v, hD3v⟩ : ∃ D3v, (claimD ⟨M, h, v⟩ t).v = D3v := ⟨_, rfl⟩
  have hD3 : claimD ⟨M, h, v⟩ t = ⟨D3m, ⟨h.pos, h.call, (t : Int), h.whe, h.had, h.cnt, h.beg, h.rep, h.out⟩, D3v⟩ := by rw [← hD3m, ← hD3v]; rfl
  have ec : D3m.c = M.c := by rw [← hD3m]; rfl
  have ep : D3m.pn = M.pn := by rw [← hD3m]; rfl
  have ed : ∀ k, (D3m.p k) = (M.p k) := fun k => by rw [← hD3m]; rfl
  rw [show resetLookD ⟨M, h, v⟩ = ⟨D3m, (⟨7, h.call, (t : Int), afterI M.c h.call.b, true, h.cnt, h.beg, h.rep, h.out⟩ : Hd), D3v⟩ by
    rw [resetLookD, if_pos hq]
    simp only [eT]
    simp [hst, hD3]]
  have g2 : ((M.t t).st == 2) = false := by simp [hst]
  have g6 : ((M.t t).st == 6) = false := by simp [hst]
  have g1 : ((M.t t).st == 1) = true := by simp [hst]
  have g3 : ((M.t t).st == 3) = false := by simp [hst]
  have g4 : ((M.t t).st == 4) = false := by simp [hst]
  have HD3 := Lib.hid hD3
  clear hD3 hD3m hD3v hst
  clear hp hd
  have HQ := Lib.hid (show hasT M (t : Int) = true by rw [← het]; exact hq)
  have HT := Lib.hid het
  clear hq het eT
  obtain ⟨pg, pc, V, rfl, ho⟩ := hm.openP hk
  clear hm
  obtain ⟨tg, tc, rfl, _⟩ := ho.tms ht
  obtain ⟨w1, e1, s1⟩ := DSt.start h v hB ho
  clear ho
  have i0 : (0 : Int) ≤ (t : Int) := by omega
  have i1 : (t : Int) < (M.tn : Int) := by omega
  obtain ⟨x0, x1, x2, x3, x4, x5, x6, x7, x8, x9, x10, x11, x12, x13, x14, x15, x16, x17, x18, x19, xf0, xf1, xf2, xf3, xf4, xf5, xf6, xf7, xf8, xf9, xf10, xf11, xf12, xf13, xf14, xf15, xf16, xf17, xf18, xf19⟩ := s1.cellsA
  rw [HT.out] at x5
  go_enter Tryz.func57, Tryz.ntmps57
  go_upto_region 1 with fail
  rw [← e1.out]
  clear e1
  go_wp2_with fail
  go_at_call 66; refine (l5Has_any ⟨_, _, rfl⟩ hn _ _).mono ?_; rw [HQ.out]; rintro e w2 ⟨rfl, hb⟩
  have s2 := s1.below hb
  clear s1 hb x0 x1 x2 x3 x4 x5 x6 x7 x8 x9 x10 x11 x12 x13 x14 x15 x16 x17 x18 x19 xf0 xf1 xf2 xf3 xf4 xf5 xf6 xf7 xf8 xf9 xf10 xf11 xf12 xf13 xf14 xf15 xf16 xf17 xf18 xf19
  obtain ⟨x0, x1, x2, x3, x4, x5, x6, x7, x8, x9, x10, x11, x12, x13, x14, x15, x16, x17, x18, x19, xf0, xf1, xf2, xf3, xf4, xf5, xf6, xf7, xf8, xf9, xf10, xf11, xf12, xf13, xf14, xf15, xf16, xf17, xf18, xf19⟩ := s2.cellsA
  obtain ⟨⟨t0, t1, t2, t3, t4, t5, t6, t7⟩, _⟩ := s2.tcells ht rfl
  have kX := (Below.refl w2.heap.size w2).alloc (Nat.le_refl _) (.cells #[.int .i64 (M.t t).st, .int .i64 (M.t t).wh, .int .i64 (M.t t).nx, .int .i64 (M.t t).pe, .int .i64 (M.t t).pl, .int .i64 (M.t t).ge, .int .i64 (M.t t).ki, .int .i64 (M.t t).ma] 80)
  have hX := heap_alloc_new w2 (.cells #[.int .i64 (M.t t).st, .int .i64 (M.t t).wh, .int .i64 (M.t t).nx, .int .i64 (M.t t).pe, .int .i64 (M.t t).pl, .int .i64 (M.t t).ge, .int .i64 (M.t t).ki, .int .i64 (M.t t).ma] 80)
  have s3 := s2.below kX
  have lX := s2.size
  have ltg := s2.tlt ht
  go_upto_region 6 with fail
  generalize hXb : w2.heap.size = X at hX lX ltg ⊢
  generalize hw3 : w2.alloc (.cells #[.int .i64 (M.t t).st, .int .i64 (M.t t).wh, .int .i64 (M.t t).nx, .int .i64 (M.t t).pe, .int .i64 (M.t t).pl, .int .i64 (M.t t).ge, .int .i64 (M.t t).ki, .int .i64 (M.t t).ma] 80) = w3 at hX s3 ⊢
  clear hw3 kX hXb s2 t0 t1 t2 t3 t4 t5 t6 t7 x0 x1 x2 x3 x4 x5 x6 x7 x8 x9 x10 x11 x12 x13 x14 x15 x16 x17 x18 x19 xf0 xf1 xf2 xf3 xf4 xf5 xf6 xf7 xf8 xf9 xf10 xf11 xf12 xf13 xf14 xf15 xf16 xf17 xf18 xf19
  have y0 : w3.cell? ⟨X, 0, none⟩ = some (.int .i64 (M.t t).st) := cell_of_block hX 0
  have y4 : w3.cell? ⟨X, 4, none⟩ = some (.int .i64 (M.t t).pl) := cell_of_block hX 4
  go_upto_region 8 with fail
  refine wp_region_lit ?_
  refine wpList_load_mid (by rfl) 43 _ (by rfl) _ 0 (by rfl) [.int .i64 M.c, (.slice (some ⟨tg, 0, none⟩) M.tn tc), (.slice (some ⟨pg, 0, none⟩) M.pn pc), .int .i64 h.pos, .int .i64 h.call.code, .int .i64 h.call.a, .int .i64 h.call.b, .int .i64 h.call.c, .int .i64 h.tim, .int .i64 h.whe, .bool h.had, .int .i64 h.cnt, .int .i64 h.beg, .int .i64 h.rep, .int .i64 h.out, .int .i64 v.kin, .int .i64 v.tim, .int .i64 v.gen, .int .i64 v.whe, .int .i64 v.clk] _ (range_of_block s3.a) Tryz.underlying43 rfl done_info ?_
  have lX3 := lt_of_block hX
  have hCl := l10Claim_any (h := h) (v := v) s3.size.1 hk ht s3.own
  rw [HD3.out] at hCl
  go_wp2_with fail
  go_at_call 67; refine hCl.mono ?_
  rintro e w4 ⟨hI, hkp⟩
  have hX4 := (hkp X lX3 (by show ¬ (some tg : Option Nat) = some X; intro e; injection e; omega)).trans hX
  obtain ⟨ta3, tc3, pg3, pc3, V3, rfl, th3, s4⟩ := s3.callAll hI ec ep hk
  clear hCl hI hkp s3 hX y0 y4
  rename_i K1 hK1
  refine hK1 _ _ ?_
  clear hK1 K1
  refine wpList_store_mid (by rfl) 43 _ _ (by rfl) _ 0 (dnCells ⟨D3m, ⟨h.pos, h.call, (t : Int), h.whe, h.had, h.cnt, h.beg, h.rep, h.out⟩, D3v⟩ (.slice ta3 D3m.tn tc3) (.slice (some ⟨pg3, 0, none⟩) M.pn pc3)) (by rfl) (by rfl) th3 done_info (by simp [Value.oneCell']) ?_
  have hX5 := (heap_setCells_ne (b := w.heap.size) (g := X) (by omega) (dnCells ⟨D3m, ⟨h.pos, h.call, (t : Int), h.whe, h.had, h.cnt, h.beg, h.rep, h.out⟩, D3v⟩ (.slice ta3 D3m.tn tc3) (.slice (some ⟨pg3, 0, none⟩) M.pn pc3)).toList 0 w4).trans hX4
  generalize hw5 : w4.setCells w.heap.size 0 (dnCells ⟨D3m, ⟨h.pos, h.call, (t : Int), h.whe, h.had, h.cnt, h.beg, h.rep, h.out⟩, D3v⟩ (.slice ta3 D3m.tn tc3) (.slice (some ⟨pg3, 0, none⟩) M.pn pc3)).toList = w5 at s4 hX5 ⊢
  clear hw5 th3 HD3 hX4
  obtain ⟨x0, x1, x2, x3, x4, x5, x6, x7, x8, x9, x10, x11, x12, x13, x14, x15, x16, x17, x18, x19, xf0, xf1, xf2, xf3, xf4, xf5, xf6, xf7, xf8, xf9, xf10, xf11, xf12, xf13, xf14, xf15, xf16, xf17, xf18, xf19⟩ := s4.cellsA
  obtain ⟨w6, e6, s6⟩ := s4.hand_whe (afterI M.c h.call.b)
  have hX6 := (heap_set_ne (w := w5) (b := w.heap.size) (g := X) 9 (.int .i64 (afterI M.c h.call.b)) (by omega)).trans hX5
  go_wp2_with fail
  go_at_call 82; refine (spAfter_any _ _ _).mono ?_; rintro x wp ⟨rfl, rfl⟩
  go_upto_region 10 with fail
  rw [← e6.out]
  rw [← e6.out] at hX6
  clear e6 s4 hX5 x0 x1 x2 x3 x4 x5 x6 x7 x8 x9 x10 x11 x12 x13 x14 x15 x16 x17 x18 x19 xf0 xf1 xf2 xf3 xf4 xf5 xf6 xf7 xf8 xf9 xf10 xf11 xf12 xf13 xf14 xf15 xf16 xf17 xf18 xf19
  obtain ⟨x0, x1, x2, x3, x4, x5, x6, x7, x8, x9, x10, x11, x12, x13, x14, x15, x16, x17, x18, x19, xf0, xf1, xf2, xf3, xf4, xf5, xf6, xf7, xf8, xf9, xf10, xf11, xf12, xf13, xf14, xf15, xf16, xf17, xf18, xf19⟩ := s6.cellsA
  obtain ⟨w7, e7, s7⟩ := s6.hand_pos 7
  have hX7 := (heap_set_ne (w := w6) (b := w.heap.size) (g := X) 3 (.int .i64 7) (by omega)).trans hX6
  go_upto_region 11 with fail
  rw [← e7.out]
  rw [← e7.out] at hX7
  clear e7 s6 hX6 x0 x1 x2 x3 x4 x5 x6 x7 x8 x9 x10 x11 x12 x13 x14 x15 x16 x17 x18 x19 xf0 xf1 xf2 xf3 xf4 xf5 xf6 xf7 xf8 xf9 xf10 xf11 xf12 xf13 xf14 xf15 xf16 xf17 xf18 xf19
  have y0 : w7.cell? ⟨X, 0, none⟩ = some (.int .i64 (M.t t).st) := cell_of_block hX7 0
  have y4 : w7.cell? ⟨X, 4, none⟩ = some (.int .i64 (M.t t).pl) := cell_of_block hX7 4
  obtain ⟨x0, x1, x2, x3, x4, x5, x6, x7, x8, x9, x10, x11, x12, x13, x14, x15, x16, x17, x18, x19, xf0, xf1, xf2, xf3, xf4, xf5, xf6, xf7, xf8, xf9, xf10, xf11, xf12, xf13, xf14, xf15, xf16, xf17, xf18, xf19⟩ := s7.cellsA
  obtain ⟨w8, e8, s8⟩ := s7.hand_had true
  go_upto_region 19 with fail
  rw [← e8.out]
  clear e8 s7 x0 x1 x2 x3 x4 x5 x6 x7 x8 x9 x10 x11 x12 x13 x14 x15 x16 x17 x18 x19 xf0 xf1 xf2 xf3 xf4 xf5 xf6 xf7 xf8 xf9 xf10 xf11 xf12 xf13 xf14 xf15 xf16 xf17 xf18 xf19
  refine wp_region_lit ?_
  refine wpList_load_mid (by rfl) 43 _ (by rfl) _ 0 (by rfl) [.int .i64 M.c, (.slice ta3 D3m.tn tc3), (.slice (some ⟨pg3, 0, none⟩) M.pn pc3), .int .i64 (⟨7, h.call, (t : Int), afterI M.c h.call.b, true, h.cnt, h.beg, h.rep, h.out⟩ : Hd).pos, .int .i64 (⟨7, h.call, (t : Int), afterI M.c h.call.b, true, h.cnt, h.beg, h.rep, h.out⟩ : Hd).call.code, .int .i64 (⟨7, h.call, (t : Int), afterI M.c h.call.b, true, h.cnt, h.beg, h.rep, h.out⟩ : Hd).call.a, .int .i64 (⟨7, h.call, (t : Int), afterI M.c h.call.b, true, h.cnt, h.beg, h.rep, h.out⟩ : Hd).call.b, .int .i64 (⟨7, h.call, (t : Int), afterI M.c h.call.b, true, h.cnt, h.beg, h.rep, h.out⟩ : Hd).call.c, .int .i64 (⟨7, h.call, (t : Int), afterI M.c h.call.b, true, h.cnt, h.beg, h.rep, h.out⟩ : Hd).tim, .int .i64 (⟨7, h.call, (t : Int), afterI M.c h.call.b, true, h.cnt, h.beg, h.rep, h.out⟩ : Hd).whe, .bool (⟨7, h.call, (t : Int), afterI M.c h.call.b, true, h.cnt, h.beg, h.rep, h.out⟩ : Hd).had, .int .i64 (⟨7, h.call, (t : Int), afterI M.c h.call.b, true, h.cnt, h.beg, h.rep, h.out⟩ : Hd).cnt, .int .i64 (⟨7, h.call, (t : Int), afterI M.c h.call.b, true, h.cnt, h.beg, h.rep, h.out⟩ : Hd).beg, .int .i64 (⟨7, h.call, (t : Int), afterI M.c h.call.b, true, h.cnt, h.beg, h.rep, h.out⟩ : Hd).rep, .int .i64 (⟨7, h.call, (t : Int), afterI M.c h.call.b, true, h.cnt, h.beg, h.rep, h.out⟩ : Hd).out, .int .i64 D3v.kin, .int .i64 D3v.tim, .int .i64 D3v.gen, .int .i64 D3v.whe, .int .i64 D3v.clk] _ (range_of_block s8.a) Tryz.underlying43 rfl done_info ?_
  refine wpList_store_mid (by rfl) 43 _ _ (by rfl) _ 0 #[.int .i64 M.c, (.slice ta3 D3m.tn tc3), (.slice (some ⟨pg3, 0, none⟩) M.pn pc3), .int .i64 (⟨7, h.call, (t : Int), afterI M.c h.call.b, true, h.cnt, h.beg, h.rep, h.out⟩ : Hd).pos, .int .i64 (⟨7, h.call, (t : Int), afterI M.c h.call.b, true, h.cnt, h.beg, h.rep, h.out⟩ : Hd).call.code, .int .i64 (⟨7, h.call, (t : Int), afterI M.c h.call.b, true, h.cnt, h.beg, h.rep, h.out⟩ : Hd).call.a, .int .i64 (⟨7, h.call, (t : Int), afterI M.c h.call.b, true, h.cnt, h.beg, h.rep, h.out⟩ : Hd).call.b, .int .i64 (⟨7, h.call, (t : Int), afterI M.c h.call.b, true, h.cnt, h.beg, h.rep, h.out⟩ : Hd).call.c, .int .i64 (⟨7, h.call, (t : Int), afterI M.c h.call.b, true, h.cnt, h.beg, h.rep, h.out⟩ : Hd).tim, .int .i64 (⟨7, h.call, (t : Int), afterI M.c h.call.b, true, h.cnt, h.beg, h.rep, h.out⟩ : Hd).whe, .bool (⟨7, h.call, (t : Int), afterI M.c h.call.b, true, h.cnt, h.beg, h.rep, h.out⟩ : Hd).had, .int .i64 (⟨7, h.call, (t : Int), afterI M.c h.call.b, true, h.cnt, h.beg, h.rep, h.out⟩ : Hd).cnt, .int .i64 (⟨7, h.call, (t : Int), afterI M.c h.call.b, true, h.cnt, h.beg, h.rep, h.out⟩ : Hd).beg, .int .i64 (⟨7, h.call, (t : Int), afterI M.c h.call.b, true, h.cnt, h.beg, h.rep, h.out⟩ : Hd).rep, .int .i64 (⟨7, h.call, (t : Int), afterI M.c h.call.b, true, h.cnt, h.beg, h.rep, h.out⟩ : Hd).out, .int .i64 D3v.kin, .int .i64 D3v.tim, .int .i64 D3v.gen, .int .i64 D3v.whe, .int .i64 D3v.clk] (by rfl) (by rfl) s8.there done_info (by simp [Value.oneCell']) ?_
  refine wpList_nil ?_
  go_wp2
  exact bodyPost_ret (v := .agg #[.int .i64 M.c, (.slice ta3 D3m.tn tc3), (.slice (some ⟨pg3, 0, none⟩) M.pn pc3), .int .i64 (⟨7, h.call, (t : Int), afterI M.c h.call.b, true, h.cnt, h.beg, h.rep, h.out⟩ : Hd).pos, .int .i64 (⟨7, h.call, (t : Int), afterI M.c h.call.b, true, h.cnt, h.beg, h.rep, h.out⟩ : Hd).call.code, .int .i64 (⟨7, h.call, (t : Int), afterI M.c h.call.b, true, h.cnt, h.beg, h.rep, h.out⟩ : Hd).call.a, .int .i64 (⟨7, h.call, (t : Int), afterI M.c h.call.b, true, h.cnt, h.beg, h.rep, h.out⟩ : Hd).call.b, .int .i64 (⟨7, h.call, (t : Int), afterI M.c h.call.b, true, h.cnt, h.beg, h.rep, h.out⟩ : Hd).call.c, .int .i64 (⟨7, h.call, (t : Int), afterI M.c h.call.b, true, h.cnt, h.beg, h.rep, h.out⟩ : Hd).tim, .int .i64 (⟨7, h.call, (t : Int), afterI M.c h.call.b, true, h.cnt, h.beg, h.rep, h.out⟩ : Hd).whe, .bool (⟨7, h.call, (t : Int), afterI M.c h.call.b, true, h.cnt, h.beg, h.rep, h.out⟩ : Hd).had, .int .i64 (⟨7, h.call, (t : Int), afterI M.c h.call.b, true, h.cnt, h.beg, h.rep, h.out⟩ : Hd).cnt, .int .i64 (⟨7, h.call, (t : Int), afterI M.c h.call.b, true, h.cnt, h.beg, h.rep, h.out⟩ : Hd).beg, .int .i64 (⟨7, h.call, (t : Int), afterI M.c h.call.b, true, h.cnt, h.beg, h.rep, h.out⟩ : Hd).rep, .int .i64 (⟨7, h.call, (t : Int), afterI M.c h.call.b, true, h.cnt, h.beg, h.rep, h.out⟩ : Hd).out, .int .i64 D3v.kin, .int .i64 D3v.tim, .int .i64 D3v.gen, .int .i64 D3v.whe, .int .i64 D3v.clk]) (results_cell (cs := [.int .i64 M.c, (.slice ta3 D3m.tn tc3), (.slice (some ⟨pg3, 0, none⟩) M.pn pc3), .int .i64 (⟨7, h.call, (t : Int), afterI M.c h.call.b, true, h.cnt, h.beg, h.rep, h.out⟩ : Hd).pos, .int .i64 (⟨7, h.call, (t : Int), afterI M.c h.call.b, true, h.cnt, h.beg, h.rep, h.out⟩ : Hd).call.code, .int .i64 (⟨7, h.call, (t : Int), afterI M.c h.call.b, true, h.cnt, h.beg, h.rep, h.out⟩ : Hd).call.a, .int .i64 (⟨7, h.call, (t : Int), afterI M.c h.call.b, true, h.cnt, h.beg, h.rep, h.out⟩ : Hd).call.b, .int .i64 (⟨7, h.call, (t : Int), afterI M.c h.call.b, true, h.cnt, h.beg, h.rep, h.out⟩ : Hd).call.c, .int .i64 (⟨7, h.call, (t : Int), afterI M.c h.call.b, true, h.cnt, h.beg, h.rep, h.out⟩ : Hd).tim, .int .i64 (⟨7, h.call, (t : Int), afterI M.c h.call.b, true, h.cnt, h.beg, h.rep, h.out⟩ : Hd).whe, .bool (⟨7, h.call, (t : Int), afterI M.c h.call.b, true, h.cnt, h.beg, h.rep, h.out⟩ : Hd).had, .int .i64 (⟨7, h.call, (t : Int), afterI M.c h.call.b, true, h.cnt, h.beg, h.rep, h.out⟩ : Hd).cnt, .int .i64 (⟨7, h.call, (t : Int), afterI M.c h.call.b, true, h.cnt, h.beg, h.rep, h.out⟩ : Hd).beg, .int .i64 (⟨7, h.call, (t : Int), afterI M.c h.call.b, true, h.cnt, h.beg, h.rep, h.out⟩ : Hd).rep, .int .i64 (⟨7, h.call, (t : Int), afterI M.c h.call.b, true, h.cnt, h.beg, h.rep, h.out⟩ : Hd).out, .int .i64 D3v.kin, .int .i64 D3v.tim, .int .i64 D3v.gen, .int .i64 D3v.whe, .int .i64 D3v.clk]) rfl rfl s8.lies Tryz.underlying43 rfl done_info) rfl (s8.retC)

set_option maxRecDepth 100000 in
set_option maxHeartbeats 2000000 in
theorem l11Look_3 {B : Nat} {tv pv : Value} {M : Me} {h : Hd} {v : Et} {w : World} (hB : B ≤ w.heap.size) (hk : 0 < M.pn) (hn : M.tn ≤ 1048576) (hp : ∀ i, i < M.tn → (M.t i).pl ≠ -1 → ∃ k : Nat, k < M.pn ∧ (M.t i).pl = (k : Int)) (hd : ∀ k, k < M.pn → 0 ≤ (M.p k).d ∧ (M.p k).d ≤ 1000) (hq : hasT M h.call.a = true) (hst : (M.t h.call.a.toNat).st = 3) (hm : OwnMem w B tv pv M) :
    Calls Tryz.prog 57 #[dnV ⟨M, h, v⟩ tv pv] w (InDn B (resetLookD ⟨M, h, v⟩) w) := by
  obtain ⟨t, het⟩ : ∃ t : Nat, h.call.a = (t : Int) := ⟨h.call.a.toNat, by have := inB_iff.1 hq; omega⟩
  have ht : t < M.tn := by have := inB_iff.1 hq; omega
  have eT : h.call.a.toNat = t := by rw [het]; rfl
  rw [eT] at hst
  obtain ⟨D3m, hD3m⟩ : ∃ D3m, setTm M t 0 2 = D3m := ⟨_, rfl⟩
  obtain ⟨D3v, hD3v⟩ : ∃ D3v, (claimD ⟨M, h, v⟩ t).v = D3v := ⟨_, rfl⟩
  have hD3 : claimD ⟨M, h, v⟩ t = ⟨D3m, ⟨h.pos, h.call, (t : Int), h.whe, h.had, h.cnt, h.beg, h.rep, h.out⟩, D3v⟩ := by rw [← hD3m, ← hD3v]; rfl
  have ec : D3m.c = M.c := by rw [← hD3m]; rfl
  have ep : D3m.pn = M.pn := by rw [← hD3m]; rfl
  have ed : ∀ k, (D3m.p k) = (M.p k) := fun k => by rw [← hD3m]; rfl
  rw [show resetLookD ⟨M, h, v⟩ = ⟨D3m, (⟨7, h.call, (t : Int), afterI M.c h.call.b, true, h.cnt, h.beg, h.rep, h.out⟩ : Hd), D3v⟩ by
    rw [resetLookD, if_pos hq]
    simp only [eT]
    simp [hst, hD3]]
  have g2 : ((M.t t).st == 2) = false := by simp [hst]
  have g6 : ((M.t t).st == 6) = false := by simp [hst]
  have g1 : ((M.t t).st == 1) = false := by simp [hst]
  have g3 : ((M.t t).st == 3) = true := by simp [hst]
  have g4 : ((M.t t).st == 4) = false := by simp [hst]
  have HD3 := Lib.hid hD3
  clear hD3 hD3m hD3v hst
  clear hp hd
  have HQ := Lib.hid (show hasT M (t : Int) = true by rw [← het]; exact hq)
  have HT := Lib.hid het
  clear hq het eT
  obtain ⟨pg, pc, V, rfl, ho⟩ := hm.openP hk
  clear hm
  obtain ⟨tg, tc, rfl, _⟩ := ho.tms ht
  obtain ⟨w1, e1, s1⟩ := DSt.start h v hB ho
  clear ho
  have i0 : (0 : Int) ≤ (t : Int) := by omega
  have i1 : (t : Int) < (M.tn : Int) := by omega
  obtain ⟨x0, x1, x2, x3, x4, x5, x6, x7, x8, x9, x10, x11, x12, x13, x14, x15, x16, x17, x18, x19, xf0, xf1, xf2, xf3, xf4, xf5, xf6, xf7, xf8, xf9, xf10, xf11, xf12, xf13, xf14, xf15, xf16, xf17, xf18, xf19⟩ := s1.cellsA
  rw [HT.out] at x5
  go_enter Tryz.func57, Tryz.ntmps57
  go_upto_region 1 with fail
  rw [← e1.out]
  clear e1
  go_wp2_with fail
  go_at_call 66; refine (l5Has_any ⟨_, _, rfl⟩ hn _ _).mono ?_; rw [HQ.out]; rintro e w2 ⟨rfl, hb⟩
  have s2 := s1.below hb
  clear s1 hb x0 x1 x2 x3 x4 x5 x6 x7 x8 x9 x10 x11 x12 x13 x14 x15 x16 x17 x18 x19 xf0 xf1 xf2 xf3 xf4 xf5 xf6 xf7 xf8 xf9 xf10 xf11 xf12 xf13 xf14 xf15 xf16 xf17 xf18 xf19
  obtain ⟨x0, x1, x2, x3, x4, x5, x6, x7, x8, x9, x10, x11, x12, x13, x14, x15, x16, x17, x18, x19, xf0, xf1, xf2, xf3, xf4, xf5, xf6, xf7, xf8, xf9, xf10, xf11, xf12, xf13, xf14, xf15, xf16, xf17, xf18, xf19⟩ := s2.cellsA
  obtain ⟨⟨t0, t1, t2, t3, t4, t5, t6, t7⟩, _⟩ := s2.tcells ht rfl
  have kX := (Below.refl w2.heap.size w2).alloc (Nat.le_refl _) (.cells #[.int .i64 (M.t t).st, .int .i64 (M.t t).wh, .int .i64 (M.t t).nx, .int .i64 (M.t t).pe, .int .i64 (M.t t).pl, .int .i64 (M.t t).ge, .int .i64 (M.t t).ki, .int .i64 (M.t t).ma] 80)
  have hX := heap_alloc_new w2 (.cells #[.int .i64 (M.t t).st, .int .i64 (M.t t).wh, .int .i64 (M.t t).nx, .int .i64 (M.t t).pe, .int .i64 (M.t t).pl, .int .i64 (M.t t).ge, .int .i64 (M.t t).ki, .int .i64 (M.t t).ma] 80)
  have s3 := s2.below kX
  have lX := s2.size
  have ltg := s2.tlt ht
  go_upto_region 6 with fail
  generalize hXb : w2.heap.size = X at hX lX ltg ⊢
  generalize hw3 : w2.alloc (.cells #[.int .i64 (M.t t).st, .int .i64 (M.t t).wh, .int .i64 (M.t t).nx, .int .i64 (M.t t).pe, .int .i64 (M.t t).pl, .int .i64 (M.t t).ge, .int .i64 (M.t t).ki, .int .i64 (M.t t).ma] 80) = w3 at hX s3 ⊢
  clear hw3 kX hXb s2 t0 t1 t2 t3 t4 t5 t6 t7 x0 x1 x2 x3 x4 x5 x6 x7 x8 x9 x10 x11 x12 x13 x14 x15 x16 x17 x18 x19 xf0 xf1 xf2 xf3 xf4 xf5 xf6 xf7 xf8 xf9 xf10 xf11 xf12 xf13 xf14 xf15 xf16 xf17 xf18 xf19
  have y0 : w3.cell? ⟨X, 0, none⟩ = some (.int .i64 (M.t t).st) := cell_of_block hX 0
  have y4 : w3.cell? ⟨X, 4, none⟩ = some (.int .i64 (M.t t).pl) := cell_of_block hX 4
  go_upto_region 8 with fail
  refine wp_region_lit ?_
  refine wpList_load_mid (by rfl) 43 _ (by rfl) _ 0 (by rfl) [.int .i64 M.c, (.slice (some ⟨tg, 0, none⟩) M.tn tc), (.slice (some ⟨pg, 0, none⟩) M.pn pc), .int .i64 h.pos, .int .i64 h.call.code, .int .i64 h.call.a, .int .i64 h.call.b, .int .i64 h.call.c, .int .i64 h.tim, .int .i64 h.whe, .bool h.had, .int .i64 h.cnt, .int .i64 h.beg, .int .i64 h.rep, .int .i64 h.out, .int .i64 v.kin, .int .i64 v.tim, .int .i64 v.gen, .int .i64 v.whe, .int .i64 v.clk] _ (range_of_block s3.a) Tryz.underlying43 rfl done_info ?_
  have lX3 := lt_of_block hX
  have hCl := l10Claim_any (h := h) (v := v) s3.size.1 hk ht s3.own
  rw [HD3.out] at hCl
  go_wp2_with fail
  go_at_call 67; refine hCl.mono ?_
  rintro e w4 ⟨hI, hkp⟩
  have hX4 := (hkp X lX3 (by show ¬ (some tg : Option Nat) = some X; intro e; injection e; omega)).trans hX
  obtain ⟨ta3, tc3, pg3, pc3, V3, rfl, th3, s4⟩ := s3.callAll hI ec ep hk
  clear hCl hI hkp s3 hX y0 y4
  rename_i K1 hK1
  refine hK1 _ _ ?_
  clear hK1 K1
  refine wpList_store_mid (by rfl) 43 _ _ (by rfl) _ 0 (dnCells ⟨D3m, ⟨h.pos, h.call, (t : Int), h.whe, h.had, h.cnt, h.beg, h.rep, h.out⟩, D3v⟩ (.slice ta3 D3m.tn tc3) (.slice (some ⟨pg3, 0, none⟩) M.pn pc3)) (by rfl) (by rfl) th3 done_info (by simp [Value.oneCell']) ?_
  have hX5 := (heap_setCells_ne (b := w.heap.size) (g := X) (by omega) (dnCells ⟨D3m, ⟨h.pos, h.call, (t : Int), h.whe, h.had, h.cnt, h.beg, h.rep, h.out⟩, D3v⟩ (.slice ta3 D3m.tn tc3) (.slice (some ⟨pg3, 0, none⟩) M.pn pc3)).toList 0 w4).trans hX4
  generalize hw5 : w4.setCells w.heap.size 0 (dnCells ⟨D3m, ⟨h.pos, h.call, (t : Int), h.whe, h.had, h.cnt, h.beg, h.rep, h.out⟩, D3v⟩ (.slice ta3 D3m.tn tc3) (.slice (some ⟨pg3, 0, none⟩) M.pn pc3)).toList = w5 at s4 hX5 ⊢
  clear hw5 th3 HD3 hX4
  obtain ⟨x0, x1, x2, x3, x4, x5, x6, x7, x8, x9, x10, x11, x12, x13, x14, x15, x16, x17, x18, x19, xf0, xf1, xf2, xf3, xf4, xf5, xf6, xf7, xf8, xf9, xf10, xf11, xf12, xf13, xf14, xf15, xf16, xf17, xf18, xf19⟩ := s4.cellsA
  obtain ⟨w6, e6, s6⟩ := s4.hand_whe (afterI M.c h.call.b)
  have hX6 := (heap_set_ne (w := w5) (b := w.heap.size) (g := X) 9 (.int .i64 (afterI M.c h.call.b)) (by omega)).trans hX5
  go_wp2_with fail
  go_at_call 82; refine (spAfter_any _ _ _).mono ?_; rintro x wp ⟨rfl, rfl⟩
  go_upto_region 10 with fail
  rw [← e6.out]
  rw [← e6.out] at hX6
  clear e6 s4 hX5 x0 x1 x2 x3 x4 x5 x6 x7 x8 x9 x10 x11 x12 x13 x14 x15 x16 x17 x18 x19 xf0 xf1 xf2 xf3 xf4 xf5 xf6 xf7 xf8 xf9 xf10 xf11 xf12 xf13 xf14 xf15 xf16 xf17 xf18 xf19
  obtain ⟨x0, x1, x2, x3, x4, x5, x6, x7, x8, x9, x10, x11, x12, x13, x14, x15, x16, x17, x18, x19, xf0, xf1, xf2, xf3, xf4, xf5, xf6, xf7, xf8, xf9, xf10, xf11, xf12, xf13, xf14, xf15, xf16, xf17, xf18, xf19⟩ := s6.cellsA
  obtain ⟨w7, e7, s7⟩ := s6.hand_pos 7
  have hX7 := (heap_set_ne (w := w6) (b := w.heap.size) (g := X) 3 (.int .i64 7) (by omega)).trans hX6
  go_upto_region 11 with fail
  rw [← e7.out]
  rw [← e7.out] at hX7
  clear e7 s6 hX6 x0 x1 x2 x3 x4 x5 x6 x7 x8 x9 x10 x11 x12 x13 x14 x15 x16 x17 x18 x19 xf0 xf1 xf2 xf3 xf4 xf5 xf6 xf7 xf8 xf9 xf10 xf11 xf12 xf13 xf14 xf15 xf16 xf17 xf18 xf19
  have y0 : w7.cell? ⟨X, 0, none⟩ = some (.int .i64 (M.t t).st) := cell_of_block hX7 0
  have y4 : w7.cell? ⟨X, 4, none⟩ = some (.int .i64 (M.t t).pl) := cell_of_block hX7 4
  obtain ⟨x0, x1, x2, x3, x4, x5, x6, x7, x8, x9, x10, x11, x12, x13, x14, x15, x16, x17, x18, x19, xf0, xf1, xf2, xf3, xf4, xf5, xf6, xf7, xf8, xf9, xf10, xf11, xf12, xf13, xf14, xf15, xf16, xf17, xf18, xf19⟩ := s7.cellsA
  obtain ⟨w8, e8, s8⟩ := s7.hand_had true
  go_upto_region 19 with fail
  rw [← e8.out]
  clear e8 s7 x0 x1 x2 x3 x4 x5 x6 x7 x8 x9 x10 x11 x12 x13 x14 x15 x16 x17 x18 x19 xf0 xf1 xf2 xf3 xf4 xf5 xf6 xf7 xf8 xf9 xf10 xf11 xf12 xf13 xf14 xf15 xf16 xf17 xf18 xf19
  refine wp_region_lit ?_
  refine wpList_load_mid (by rfl) 43 _ (by rfl) _ 0 (by rfl) [.int .i64 M.c, (.slice ta3 D3m.tn tc3), (.slice (some ⟨pg3, 0, none⟩) M.pn pc3), .int .i64 (⟨7, h.call, (t : Int), afterI M.c h.call.b, true, h.cnt, h.beg, h.rep, h.out⟩ : Hd).pos, .int .i64 (⟨7, h.call, (t : Int), afterI M.c h.call.b, true, h.cnt, h.beg, h.rep, h.out⟩ : Hd).call.code, .int .i64 (⟨7, h.call, (t : Int), afterI M.c h.call.b, true, h.cnt, h.beg, h.rep, h.out⟩ : Hd).call.a, .int .i64 (⟨7, h.call, (t : Int), afterI M.c h.call.b, true, h.cnt, h.beg, h.rep, h.out⟩ : Hd).call.b, .int .i64 (⟨7, h.call, (t : Int), afterI M.c h.call.b, true, h.cnt, h.beg, h.rep, h.out⟩ : Hd).call.c, .int .i64 (⟨7, h.call, (t : Int), afterI M.c h.call.b, true, h.cnt, h.beg, h.rep, h.out⟩ : Hd).tim, .int .i64 (⟨7, h.call, (t : Int), afterI M.c h.call.b, true, h.cnt, h.beg, h.rep, h.out⟩ : Hd).whe, .bool (⟨7, h.call, (t : Int), afterI M.c h.call.b, true, h.cnt, h.beg, h.rep, h.out⟩ : Hd).had, .int .i64 (⟨7, h.call, (t : Int), afterI M.c h.call.b, true, h.cnt, h.beg, h.rep, h.out⟩ : Hd).cnt, .int .i64 (⟨7, h.call, (t : Int), afterI M.c h.call.b, true, h.cnt, h.beg, h.rep, h.out⟩ : Hd).beg, .int .i64 (⟨7, h.call, (t : Int), afterI M.c h.call.b, true, h.cnt, h.beg, h.rep, h.out⟩ : Hd).rep, .int .i64 (⟨7, h.call, (t : Int), afterI M.c h.call.b, true, h.cnt, h.beg, h.rep, h.out⟩ : Hd).out, .int .i64 D3v.kin, .int .i64 D3v.tim, .int .i64 D3v.gen, .int .i64 D3v.whe, .int .i64 D3v.clk] _ (range_of_block s8.a) Tryz.underlying43 rfl done_info ?_
  refine wpList_store_mid (by rfl) 43 _ _ (by rfl) _ 0 #[.int .i64 M.c, (.slice ta3 D3m.tn tc3), (.slice (some ⟨pg3, 0, none⟩) M.pn pc3), .int .i64 (⟨7, h.call, (t : Int), afterI M.c h.call.b, true, h.cnt, h.beg, h.rep, h.out⟩ : Hd).pos, .int .i64 (⟨7, h.call, (t : Int), afterI M.c h.call.b, true, h.cnt, h.beg, h.rep, h.out⟩ : Hd).call.code, .int .i64 (⟨7, h.call, (t : Int), afterI M.c h.call.b, true, h.cnt, h.beg, h.rep, h.out⟩ : Hd).call.a, .int .i64 (⟨7, h.call, (t : Int), afterI M.c h.call.b, true, h.cnt, h.beg, h.rep, h.out⟩ : Hd).call.b, .int .i64 (⟨7, h.call, (t : Int), afterI M.c h.call.b, true, h.cnt, h.beg, h.rep, h.out⟩ : Hd).call.c, .int .i64 (⟨7, h.call, (t : Int), afterI M.c h.call.b, true, h.cnt, h.beg, h.rep, h.out⟩ : Hd).tim, .int .i64 (⟨7, h.call, (t : Int), afterI M.c h.call.b, true, h.cnt, h.beg, h.rep, h.out⟩ : Hd).whe, .bool (⟨7, h.call, (t : Int), afterI M.c h.call.b, true, h.cnt, h.beg, h.rep, h.out⟩ : Hd).had, .int .i64 (⟨7, h.call, (t : Int), afterI M.c h.call.b, true, h.cnt, h.beg, h.rep, h.out⟩ : Hd).cnt, .int .i64 (⟨7, h.call, (t : Int), afterI M.c h.call.b, true, h.cnt, h.beg, h.rep, h.out⟩ : Hd).beg, .int .i64 (⟨7, h.call, (t : Int), afterI M.c h.call.b, true, h.cnt, h.beg, h.rep, h.out⟩ : Hd).rep, .int .i64 (⟨7, h.call, (t : Int), afterI M.c h.call.b, true, h.cnt, h.beg, h.rep, h.out⟩ : Hd).out, .int .i64 D3v.kin, .int .i64 D3v.tim, .int .i64 D3v.gen, .int .i64 D3v.whe, .int .i64 D3v.clk] (by rfl) (by rfl) s8.there done_info (by simp [Value.oneCell']) ?_
  refine wpList_nil ?_
  go_wp2
  exact bodyPost_ret (v := .agg #[.int .i64 M.c, (.slice ta3 D3m.tn tc3), (.slice (some ⟨pg3, 0, none⟩) M.pn pc3), .int .i64 (⟨7, h.call, (t : Int), afterI M.c h.call.b, true, h.cnt, h.beg, h.rep, h.out⟩ : Hd).pos, .int .i64 (⟨7, h.call, (t : Int), afterI M.c h.call.b, true, h.cnt, h.beg, h.rep, h.out⟩ : Hd).call.code, .int .i64 (⟨7, h.call, (t : Int), afterI M.c h.call.b, true, h.cnt, h.beg, h.rep, h.out⟩ : Hd).call.a, .int .i64 (⟨7, h.call, (t : Int), afterI M.c h.call.b, true, h.cnt, h.beg, h.rep, h.out⟩ : Hd).call.b, .int .i64 (⟨7, h.call, (t : Int), afterI M.c h.call.b, true, h.cnt, h.beg, h.rep, h.out⟩ : Hd).call.c, .int .i64 (⟨7, h.call, (t : Int), afterI M.c h.call.b, true, h.cnt, h.beg, h.rep, h.out⟩ : Hd).tim, .int .i64 (⟨7, h.call, (t : Int), afterI M.c h.call.b, true, h.cnt, h.beg, h.rep, h.out⟩ : Hd).whe, .bool (⟨7, h.call, (t : Int), afterI M.c h.call.b, true, h.cnt, h.beg, h.rep, h.out⟩ : Hd).had, .int .i64 (⟨7, h.call, (t : Int), afterI M.c h.call.b, true, h.cnt, h.beg, h.rep, h.out⟩ : Hd).cnt, .int .i64 (⟨7, h.call, (t : Int), afterI M.c h.call.b, true, h.cnt, h.beg, h.rep, h.out⟩ : Hd).beg, .int .i64 (⟨7, h.call, (t : Int), afterI M.c h.call.b, true, h.cnt, h.beg, h.rep, h.out⟩ : Hd).rep, .int .i64 (⟨7, h.call, (t : Int), afterI M.c h.call.b, true, h.cnt, h.beg, h.rep, h.out⟩ : Hd).out, .int .i64 D3v.kin, .int .i64 D3v.tim, .int .i64 D3v.gen, .int .i64 D3v.whe, .int .i64 D3v.clk]) (results_cell (cs := [.int .i64 M.c, (.slice ta3 D3m.tn tc3), (.slice (some ⟨pg3, 0, none⟩) M.pn pc3), .int .i64 (⟨7, h.call, (t : Int), afterI M.c h.call.b, true, h.cnt, h.beg, h.rep, h.out⟩ : Hd).pos, .int .i64 (⟨7, h.call, (t : Int), afterI M.c h.call.b, true, h.cnt, h.beg, h.rep, h.out⟩ : Hd).call.code, .int .i64 (⟨7, h.call, (t : Int), afterI M.c h.call.b, true, h.cnt, h.beg, h.rep, h.out⟩ : Hd).call.a, .int .i64 (⟨7, h.call, (t : Int), afterI M.c h.call.b, true, h.cnt, h.beg, h.rep, h.out⟩ : Hd).call.b, .int .i64 (⟨7, h.call, (t : Int), afterI M.c h.call.b, true, h.cnt, h.beg, h.rep, h.out⟩ : Hd).call.c, .int .i64 (⟨7, h.call, (t : Int), afterI M.c h.call.b, true, h.cnt, h.beg, h.rep, h.out⟩ : Hd).tim, .int .i64 (⟨7, h.call, (t : Int), afterI M.c h.call.b, true, h.cnt, h.beg, h.rep, h.out⟩ : Hd).whe, .bool (⟨7, h.call, (t : Int), afterI M.c h.call.b, true, h.cnt, h.beg, h.rep, h.out⟩ : Hd).had, .int .i64 (⟨7, h.call, (t : Int), afterI M.c h.call.b, true, h.cnt, h.beg, h.rep, h.out⟩ : Hd).cnt, .int .i64 (⟨7, h.call, (t : Int), afterI M.c h.call.b, true, h.cnt, h.beg, h.rep, h.out⟩ : Hd).beg, .int .i64 (⟨7, h.call, (t : Int), afterI M.c h.call.b, true, h.cnt, h.beg, h.rep, h.out⟩ : Hd).rep, .int .i64 (⟨7, h.call, (t : Int), afterI M.c h.call.b, true, h.cnt, h.beg, h.rep, h.out⟩ : Hd).out, .int .i64 D3v.kin, .int .i64 D3v.tim, .int .i64 D3v.gen, .int .i64 D3v.whe, .int .i64 D3v.clk]) rfl rfl s8.lies Tryz.underlying43 rfl done_info) rfl (s8.retC)

set_option maxRecDepth 100000 in
set_option maxHeartbeats 2000000 in
theorem l11Look_4 {B : Nat} {tv pv : Value} {M : Me} {h : Hd} {v : Et} {w : World} (hB : B ≤ w.heap.size) (hk : 0 < M.pn) (hn : M.tn ≤ 1048576) (hp : ∀ i, i < M.tn → (M.t i).pl ≠ -1 → ∃ k : Nat, k < M.pn ∧ (M.t i).pl = (k : Int)) (hd : ∀ k, k < M.pn → 0 ≤ (M.p k).d ∧ (M.p k).d ≤ 1000) (hq : hasT M h.call.a = true) (hst : (M.t h.call.a.toNat).st = 4) (hm : OwnMem w B tv pv M) :
    Calls Tryz.prog 57 #[dnV ⟨M, h, v⟩ tv pv] w (InDn B (resetLookD ⟨M, h, v⟩) w) := by
  obtain ⟨t, het⟩ : ∃ t : Nat, h.call.a = (t : Int) := ⟨h.call.a.toNat, by have := inB_iff.1 hq; omega⟩
  have ht : t < M.tn := by have := inB_iff.1 hq; omega
  have eT : h.call.a.toNat = t := by rw [het]; rfl
  rw [eT] at hst
  obtain ⟨D3m, hD3m⟩ : ∃ D3m, setTm M t 0 2 = D3m := ⟨_, rfl⟩
  obtain ⟨D3v, hD3v⟩ : ∃ D3v, (claimD ⟨M, h, v⟩ t).v = D3v := ⟨_, rfl⟩
  have hD3 : claimD ⟨M, h, v⟩ t = ⟨D3m, ⟨h.pos, h.call, (t : Int), h.whe, h.had, h.cnt, h.beg, h.rep, h.out⟩, D3v⟩ := by rw [← hD3m, ← hD3v]; rfl
  have ec : D3m.c = M.c := by rw [← hD3m]; rfl
  have ep : D3m.pn = M.pn := by rw [← hD3m]; rfl
  have ed : ∀ k, (D3m.p k) = (M.p k) := fun k => by rw [← hD3m]; rfl
  rw [show resetLookD ⟨M, h, v⟩ = ⟨D3m, (⟨7, h.call, (t : Int), afterI M.c h.call.b, true, h.cnt, h.beg, h.rep, h.out⟩ : Hd), D3v⟩ by
    rw [resetLookD, if_pos hq]
    simp only [eT]
    simp [hst, hD3]]
  have g2 : ((M.t t).st == 2) = false := by simp [hst]
  have g6 : ((M.t t).st == 6) = false := by simp [hst]
  have g1 : ((M.t t).st == 1) = false := by simp [hst]
  have g3 : ((M.t t).st == 3) = false := by simp [hst]
  have g4 : ((M.t t).st == 4) = true := by simp [hst]
  have HD3 := Lib.hid hD3
  clear hD3 hD3m hD3v hst
  clear hp hd
  have HQ := Lib.hid (show hasT M (t : Int) = true by rw [← het]; exact hq)
  have HT := Lib.hid het
  clear hq het eT
  obtain ⟨pg, pc, V, rfl, ho⟩ := hm.openP hk
  clear hm
  obtain ⟨tg, tc, rfl, _⟩ := ho.tms ht
  obtain ⟨w1, e1, s1⟩ := DSt.start h v hB ho
  clear ho
  have i0 : (0 : Int) ≤ (t : Int) := by omega
  have i1 : (t : Int) < (M.tn : Int) := by omega
  obtain ⟨x0, x1, x2, x3, x4, x5, x6, x7, x8, x9, x10, x11, x12, x13, x14, x15, x16, x17, x18, x19, xf0, xf1, xf2, xf3, xf4, xf5, xf6, xf7, xf8, xf9, xf10, xf11, xf12, xf13, xf14, xf15, xf16, xf17, xf18, xf19⟩ := s1.cellsA
  rw [HT.out] at x5
  go_enter Tryz.func57, Tryz.ntmps57
  go_upto_region 1 with fail
  rw [← e1.out]
  clear e1
  go_wp2_with fail
  go_at_call 66; refine (l5Has_any ⟨_, _, rfl⟩ hn _ _).mono ?_; rw [HQ.out]; rintro e w2 ⟨rfl, hb⟩
  have s2 := s1.below hb
  clear s1 hb x0 x1 x2 x3 x4 x5 x6 x7 x8 x9 x10 x11 x12 x13 x14 x15 x16 x17 x18 x19 xf0 xf1 xf2 xf3 xf4 xf5 xf6 xf7 xf8 xf9 xf10 xf11 xf12 xf13 xf14 xf15 xf16 xf17 xf18 xf19
  obtain ⟨x0, x1, x2, x3, x4, x5, x6, x7, x8, x9, x10, x11, x12, x13, x14, x15, x16, x17, x18, x19, xf0, xf1, xf2, xf3, xf4, xf5, xf6, xf7, xf8, xf9, xf10, xf11, xf12, xf13, xf14, xf15, xf16, xf17, xf18, xf19⟩ := s2.cellsA
  obtain ⟨⟨t0, t1, t2, t3, t4, t5, t6, t7⟩, _⟩ := s2.tcells ht rfl
  have kX := (Below.refl w2.heap.size w2).alloc (Nat.le_refl _) (.cells #[.int .i64 (M.t t).st, .int .i64 (M.t t).wh, .int .i64 (M.t t).nx, .int .i64 (M.t t).pe, .int .i64 (M.t t).pl, .int .i64 (M.t t).ge, .int .i64 (M.t t).ki, .int .i64 (M.t t).ma] 80)
  have hX := heap_alloc_new w2 (.cells #[.int .i64 (M.t t).st, .int .i64 (M.t t).wh, .int .i64 (M.t t).nx, .int .i64 (M.t t).pe, .int .i64 (M.t t).pl, .int .i64 (M.t t).ge, .int .i64 (M.t t).ki, .int .i64 (M.t t).ma] 80)
  have s3 := s2.below kX
  have lX := s2.size
  have ltg := s2.tlt ht
  go_upto_region 6 with fail
  generalize hXb : w2.heap.size = X at hX lX ltg ⊢
  generalize hw3 : w2.alloc (.cells #[.int .i64 (M.t t).st, .int .i64 (M.t t).wh, .int .i64 (M.t t).nx, .int .i64 (M.t t).pe, .int .i64 (M.t t).pl, .int .i64 (M.t t).ge, .int .i64 (M.t t).ki, .int .i64 (M.t t).ma] 80) = w3 at hX s3 ⊢
  clear hw3 kX hXb s2 t0 t1 t2 t3 t4 t5 t6 t7 x0 x1 x2 x3 x4 x5 x6 x7 x8 x9 x10 x11 x12 x13 x14 x15 x16 x17 x18 x19 xf0 xf1 xf2 xf3 xf4 xf5 xf6 xf7 xf8 xf9 xf10 xf11 xf12 xf13 xf14 xf15 xf16 xf17 xf18 xf19
  have y0 : w3.cell? ⟨X, 0, none⟩ = some (.int .i64 (M.t t).st) := cell_of_block hX 0
  have y4 : w3.cell? ⟨X, 4, none⟩ = some (.int .i64 (M.t t).pl) := cell_of_block hX 4
  go_upto_region 8 with fail
  refine wp_region_lit ?_
  refine wpList_load_mid (by rfl) 43 _ (by rfl) _ 0 (by rfl) [.int .i64 M.c, (.slice (some ⟨tg, 0, none⟩) M.tn tc), (.slice (some ⟨pg, 0, none⟩) M.pn pc), .int .i64 h.pos, .int .i64 h.call.code, .int .i64 h.call.a, .int .i64 h.call.b, .int .i64 h.call.c, .int .i64 h.tim, .int .i64 h.whe, .bool h.had, .int .i64 h.cnt, .int .i64 h.beg, .int .i64 h.rep, .int .i64 h.out, .int .i64 v.kin, .int .i64 v.tim, .int .i64 v.gen, .int .i64 v.whe, .int .i64 v.clk] _ (range_of_block s3.a) Tryz.underlying43 rfl done_info ?_
  have lX3 := lt_of_block hX
  have hCl := l10Claim_any (h := h) (v := v) s3.size.1 hk ht s3.own
  rw [HD3.out] at hCl
  go_wp2_with fail
  go_at_call 67; refine hCl.mono ?_
  rintro e w4 ⟨hI, hkp⟩
  have hX4 := (hkp X lX3 (by show ¬ (some tg : Option Nat) = some X; intro e; injection e; omega)).trans hX
  obtain ⟨ta3, tc3, pg3, pc3, V3, rfl, th3, s4⟩ := s3.callAll hI ec ep hk
  clear hCl hI hkp s3 hX y0 y4
  rename_i K1 hK1
  refine hK1 _ _ ?_
  clear hK1 K1
  refine wpList_store_mid (by rfl) 43 _ _ (by rfl) _ 0 (dnCells ⟨D3m, ⟨h.pos, h.call, (t : Int), h.whe, h.had, h.cnt, h.beg, h.rep, h.out⟩, D3v⟩ (.slice ta3 D3m.tn tc3) (.slice (some ⟨pg3, 0, none⟩) M.pn pc3)) (by rfl) (by rfl) th3 done_info (by simp [Value.oneCell']) ?_
  have hX5 := (heap_setCells_ne (b := w.heap.size) (g := X) (by omega) (dnCells ⟨D3m, ⟨h.pos, h.call, (t : Int), h.whe, h.had, h.cnt, h.beg, h.rep, h.out⟩, D3v⟩ (.slice ta3 D3m.tn tc3) (.slice (some ⟨pg3, 0, none⟩) M.pn pc3)).toList 0 w4).trans hX4
  generalize hw5 : w4.setCells w.heap.size 0 (dnCells ⟨D3m, ⟨h.pos, h.call, (t : Int), h.whe, h.had, h.cnt, h.beg, h.rep, h.out⟩, D3v⟩ (.slice ta3 D3m.tn tc3) (.slice (some ⟨pg3, 0, none⟩) M.pn pc3)).toList = w5 at s4 hX5 ⊢
  clear hw5 th3 HD3 hX4
  obtain ⟨x0, x1, x2, x3, x4, x5, x6, x7, x8, x9, x10, x11, x12, x13, x14, x15, x16, x17, x18, x19, xf0, xf1, xf2, xf3, xf4, xf5, xf6, xf7, xf8, xf9, xf10, xf11, xf12, xf13, xf14, xf15, xf16, xf17, xf18, xf19⟩ := s4.cellsA
  obtain ⟨w6, e6, s6⟩ := s4.hand_whe (afterI M.c h.call.b)
  have hX6 := (heap_set_ne (w := w5) (b := w.heap.size) (g := X) 9 (.int .i64 (afterI M.c h.call.b)) (by omega)).trans hX5
  go_wp2_with fail
  go_at_call 82; refine (spAfter_any _ _ _).mono ?_; rintro x wp ⟨rfl, rfl⟩
  go_upto_region 10 with fail
  rw [← e6.out]
  rw [← e6.out] at hX6
  clear e6 s4 hX5 x0 x1 x2 x3 x4 x5 x6 x7 x8 x9 x10 x11 x12 x13 x14 x15 x16 x17 x18 x19 xf0 xf1 xf2 xf3 xf4 xf5 xf6 xf7 xf8 xf9 xf10 xf11 xf12 xf13 xf14 xf15 xf16 xf17 xf18 xf19
  obtain ⟨x0, x1, x2, x3, x4, x5, x6, x7, x8, x9, x10, x11, x12, x13, x14, x15, x16, x17, x18, x19, xf0, xf1, xf2, xf3, xf4, xf5, xf6, xf7, xf8, xf9, xf10, xf11, xf12, xf13, xf14, xf15, xf16, xf17, xf18, xf19⟩ := s6.cellsA
  obtain ⟨w7, e7, s7⟩ := s6.hand_pos 7
  have hX7 := (heap_set_ne (w := w6) (b := w.heap.size) (g := X) 3 (.int .i64 7) (by omega)).trans hX6
  go_upto_region 11 with fail
  rw [← e7.out]
  rw [← e7.out] at hX7
  clear e7 s6 hX6 x0 x1 x2 x3 x4 x5 x6 x7 x8 x9 x10 x11 x12 x13 x14 x15 x16 x17 x18 x19 xf0 xf1 xf2 xf3 xf4 xf5 xf6 xf7 xf8 xf9 xf10 xf11 xf12 xf13 xf14 xf15 xf16 xf17 xf18 xf19
  have y0 : w7.cell? ⟨X, 0, none⟩ = some (.int .i64 (M.t t).st) := cell_of_block hX7 0
  have y4 : w7.cell? ⟨X, 4, none⟩ = some (.int .i64 (M.t t).pl) := cell_of_block hX7 4
  obtain ⟨x0, x1, x2, x3, x4, x5, x6, x7, x8, x9, x10, x11, x12, x13, x14, x15, x16, x17, x18, x19, xf0, xf1, xf2, xf3, xf4, xf5, xf6, xf7, xf8, xf9, xf10, xf11, xf12, xf13, xf14, xf15, xf16, xf17, xf18, xf19⟩ := s7.cellsA
  obtain ⟨w8, e8, s8⟩ := s7.hand_had true
  go_upto_region 19 with fail
  rw [← e8.out]
  clear e8 s7 x0 x1 x2 x3 x4 x5 x6 x7 x8 x9 x10 x11 x12 x13 x14 x15 x16 x17 x18 x19 xf0 xf1 xf2 xf3 xf4 xf5 xf6 xf7 xf8 xf9 xf10 xf11 xf12 xf13 xf14 xf15 xf16 xf17 xf18 xf19
  refine wp_region_lit ?_
  refine wpList_load_mid (by rfl) 43 _ (by rfl) _ 0 (by rfl) [.int .i64 M.c, (.slice ta3 D3m.tn tc3), (.slice (some ⟨pg3, 0, none⟩) M.pn pc3), .int .i64 (⟨7, h.call, (t : Int), afterI M.c h.call.b, true, h.cnt, h.beg, h.rep, h.out⟩ : Hd).pos, .int .i64 (⟨7, h.call, (t : Int), afterI M.c h.call.b, true, h.cnt, h.beg, h.rep, h.out⟩ : Hd).call.code, .int .i64 (⟨7, h.call, (t : Int), afterI M.c h.call.b, true, h.cnt, h.beg, h.rep, h.out⟩ : Hd).call.a, .int .i64 (⟨7, h.call, (t : Int), afterI M.c h.call.b, true, h.cnt, h.beg, h.rep, h.out⟩ : Hd).call.b, .int .i64 (⟨7, h.call, (t : Int), afterI M.c h.call.b, true, h.cnt, h.beg, h.rep, h.out⟩ : Hd).call.c, .int .i64 (⟨7, h.call, (t : Int), afterI M.c h.call.b, true, h.cnt, h.beg, h.rep, h.out⟩ : Hd).tim, .int .i64 (⟨7, h.call, (t : Int), afterI M.c h.call.b, true, h.cnt, h.beg, h.rep, h.out⟩ : Hd).whe, .bool (⟨7, h.call, (t : Int), afterI M.c h.call.b, true, h.cnt, h.beg, h.rep, h.out⟩ : Hd).had, .int .i64 (⟨7, h.call, (t : Int), afterI M.c h.call.b, true, h.cnt, h.beg, h.rep, h.out⟩ : Hd).cnt, .int .i64 (⟨7, h.call, (t : Int), afterI M.c h.call.b, true, h.cnt, h.beg, h.rep, h.out⟩ : Hd).beg, .int .i64 (⟨7, h.call, (t : Int), afterI M.c h.call.b, true, h.cnt, h.beg, h.rep, h.out⟩ : Hd).rep, .int .i64 (⟨7, h.call, (t : Int), afterI M.c h.call.b, true, h.cnt, h.beg, h.rep, h.out⟩ : Hd).out, .int .i64 D3v.kin, .int .i64 D3v.tim, .int .i64 D3v.gen, .int .i64 D3v.whe, .int .i64 D3v.clk] _ (range_of_block s8.a) Tryz.underlying43 rfl done_info ?_
  refine wpList_store_mid (by rfl) 43 _ _ (by rfl) _ 0 #[.int .i64 M.c, (.slice ta3 D3m.tn tc3), (.slice (some ⟨pg3, 0, none⟩) M.pn pc3), .int .i64 (⟨7, h.call, (t : Int), afterI M.c h.call.b, true, h.cnt, h.beg, h.rep, h.out⟩ : Hd).pos, .int .i64 (⟨7, h.call, (t : Int), afterI M.c h.call.b, true, h.cnt, h.beg, h.rep, h.out⟩ : Hd).call.code, .int .i64 (⟨7, h.call, (t : Int), afterI M.c h.call.b, true, h.cnt, h.beg, h.rep, h.out⟩ : Hd).call.a, .int .i64 (⟨7, h.call, (t : Int), afterI M.c h.call.b, true, h.cnt, h.beg, h.rep, h.out⟩ : Hd).call.b, .int .i64 (⟨7, h.call, (t : Int), afterI M.c h.call.b, true, h.cnt, h.beg, h.rep, h.out⟩ : Hd).call.c, .int .i64 (⟨7, h.call, (t : Int), afterI M.c h.call.b, true, h.cnt, h.beg, h.rep, h.out⟩ : Hd).tim, .int .i64 (⟨7, h.call, (t : Int), afterI M.c h.call.b, true, h.cnt, h.beg, h.rep, h.out⟩ : Hd).whe, .bool (⟨7, h.call, (t : Int), afterI M.c h.call.b, true, h.cnt, h.beg, h.rep, h.out⟩ : Hd).had, .int .i64 (⟨7, h.call, (t : Int), afterI M.c h.call.b, true, h.cnt, h.beg, h.rep, h.out⟩ : Hd).cnt, .int .i64 (⟨7, h.call, (t : Int), afterI M.c h.call.b, true, h.cnt, h.beg, h.rep, h.out⟩ : Hd).beg, .int .i64 (⟨7, h.call, (t : Int), afterI M.c h.call.b, true, h.cnt, h.beg, h.rep, h.out⟩ : Hd).rep, .int .i64 (⟨7, h.call, (t : Int), afterI M.c h.call.b, true, h.cnt, h.beg, h.rep, h.out⟩ : Hd).out, .int .i64 D3v.kin, .int .i64 D3v.tim, .int .i64 D3v.gen, .int .i64 D3v.whe, .int .i64 D3v.clk] (by rfl) (by rfl) s8.there done_info (by simp [Value.oneCell']) ?_
  refine wpList_nil ?_
  go_wp2
  exact bodyPost_ret (v := .agg #[.int .i64 M.c, (.slice ta3 D3m.tn tc3), (.slice (some ⟨pg3, 0, none⟩) M.pn pc3), .int .i64 (⟨7, h.call, (t : Int), afterI M.c h.call.b, true, h.cnt, h.beg, h.rep, h.out⟩ : Hd).pos, .int .i64 (⟨7, h.call, (t : Int), afterI M.c h.call.b, true, h.cnt, h.beg, h.rep, h.out⟩ : Hd).call.code, .int .i64 (⟨7, h.call, (t : Int), afterI M.c h.call.b, true, h.cnt, h.beg, h.rep, h.out⟩ : Hd).call.a, .int .i64 (⟨7, h.call, (t : Int), afterI M.c h.call.b, true, h.cnt, h.beg, h.rep, h.out⟩ : Hd).call.b, .int .i64 (⟨7, h.call, (t : Int), afterI M.c h.call.b, true, h.cnt, h.beg, h.rep, h.out⟩ : Hd).call.c, .int .i64 (⟨7, h.call, (t : Int), afterI M.c h.call.b, true, h.cnt, h.beg, h.rep, h.out⟩ : Hd).tim, .int .i64 (⟨7, h.call, (t : Int), afterI M.c h.call.b, true, h.cnt, h.beg, h.rep, h.out⟩ : Hd).whe, .bool (⟨7, h.call, (t : Int), afterI M.c h.call.b, true, h.cnt, h.beg, h.rep, h.out⟩ : Hd).had, .int .i64 (⟨7, h.call, (t : Int), afterI M.c h.call.b, true, h.cnt, h.beg, h.rep, h.out⟩ : Hd).cnt, .int .i64 (⟨7, h.call, (t : Int), afterI M.c h.call.b, true, h.cnt, h.beg, h.rep, h.out⟩ : Hd).beg, .int .i64 (⟨7, h.call, (t : Int), afterI M.c h.call.b, true, h.cnt, h.beg, h.rep, h.out⟩ : Hd).rep, .int .i64 (⟨7, h.call, (t : Int), afterI M.c h.call.b, true, h.cnt, h.beg, h.rep, h.out⟩ : Hd).out, .int .i64 D3v.kin, .int .i64 D3v.tim, .int .i64 D3v.gen, .int .i64 D3v.whe, .int .i64 D3v.clk]) (results_cell (cs := [.int .i64 M.c, (.slice ta3 D3m.tn tc3), (.slice (some ⟨pg3, 0, none⟩) M.pn pc3), .int .i64 (⟨7, h.call, (t : Int), afterI M.c h.call.b, true, h.cnt, h.beg, h.rep, h.out⟩ : Hd).pos, .int .i64 (⟨7, h.call, (t : Int), afterI M.c h.call.b, true, h.cnt, h.beg, h.rep, h.out⟩ : Hd).call.code, .int .i64 (⟨7, h.call, (t : Int), afterI M.c h.call.b, true, h.cnt, h.beg, h.rep, h.out⟩ : Hd).call.a, .int .i64 (⟨7, h.call, (t : Int), afterI M.c h.call.b, true, h.cnt, h.beg, h.rep, h.out⟩ : Hd).call.b, .int .i64 (⟨7, h.call, (t : Int), afterI M.c h.call.b, true, h.cnt, h.beg, h.rep, h.out⟩ : Hd).call.c, .int .i64 (⟨7, h.call, (t : Int), afterI M.c h.call.b, true, h.cnt, h.beg, h.rep, h.out⟩ : Hd).tim, .int .i64 (⟨7, h.call, (t : Int), afterI M.c h.call.b, true, h.cnt, h.beg, h.rep, h.out⟩ : Hd).whe, .bool (⟨7, h.call, (t : Int), afterI M.c h.call.b, true, h.cnt, h.beg, h.rep, h.out⟩ : Hd).had, .int .i64 (⟨7, h.call, (t : Int), afterI M.c h.call.b, true, h.cnt, h.beg, h.rep, h.out⟩ : Hd).cnt, .int .i64 (⟨7, h.call, (t : Int), afterI M.c h.call.b, true, h.cnt, h.beg, h.rep, h.out⟩ : Hd).beg, .int .i64 (⟨7, h.call, (t : Int), afterI M.c h.call.b, true, h.cnt, h.beg, h.rep, h.out⟩ : Hd).rep, .int .i64 (⟨7, h.call, (t : Int), afterI M.c h.call.b, true, h.cnt, h.beg, h.rep, h.out⟩ : Hd).out, .int .i64 D3v.kin, .int .i64 D3v.tim, .int .i64 D3v.gen, .int .i64 D3v.whe, .int .i64 D3v.clk]) rfl rfl s8.lies Tryz.underlying43 rfl done_info) rfl (s8.retC)

set_option maxRecDepth 100000 in
set_option maxHeartbeats 2000000 in
theorem l11Look_no {B : Nat} {tv pv : Value} {M : Me} {h : Hd} {v : Et} {w : World} (hB : B ≤ w.heap.size) (hk : 0 < M.pn) (hn : M.tn ≤ 1048576) (hp : ∀ i, i < M.tn → (M.t i).pl ≠ -1 → ∃ k : Nat, k < M.pn ∧ (M.t i).pl = (k : Int)) (hd : ∀ k, k < M.pn → 0 ≤ (M.p k).d ∧ (M.p k).d ≤ 1000) (hq : hasT M h.call.a = true) (hst : (M.t h.call.a.toNat).st ≠ 2 ∧ (M.t h.call.a.toNat).st ≠ 6 ∧ (M.t h.call.a.toNat).st ≠ 1 ∧ (M.t h.call.a.toNat).st ≠ 3 ∧ (M.t h.call.a.toNat).st ≠ 4 ∧ (M.t h.call.a.toNat).st ≠ 5) (hm : OwnMem w B tv pv M) :
    Calls Tryz.prog 57 #[dnV ⟨M, h, v⟩ tv pv] w (InDn B (resetLookD ⟨M, h, v⟩) w) := by
  obtain ⟨t, het⟩ : ∃ t : Nat, h.call.a = (t : Int) := ⟨h.call.a.toNat, by have := inB_iff.1 hq; omega⟩
  have ht : t < M.tn := by have := inB_iff.1 hq; omega
  have eT : h.call.a.toNat = t := by rw [het]; rfl
  rw [eT] at hst
  obtain ⟨D3m, hD3m⟩ : ∃ D3m, setTm M t 0 2 = D3m := ⟨_, rfl⟩
  obtain ⟨D3v, hD3v⟩ : ∃ D3v, (claimD ⟨M, h, v⟩ t).v = D3v := ⟨_, rfl⟩
  have hD3 : claimD ⟨M, h, v⟩ t = ⟨D3m, ⟨h.pos, h.call, (t : Int), h.whe, h.had, h.cnt, h.beg, h.rep, h.out⟩, D3v⟩ := by rw [← hD3m, ← hD3v]; rfl
  have ec : D3m.c = M.c := by rw [← hD3m]; rfl
  have ep : D3m.pn = M.pn := by rw [← hD3m]; rfl
  have ed : ∀ k, (D3m.p k) = (M.p k) := fun k => by rw [← hD3m]; rfl
  rw [show resetLookD ⟨M, h, v⟩ = ⟨D3m, (⟨2, h.call, (t : Int), afterI M.c h.call.b, h.had, h.cnt, h.beg, h.rep, h.out⟩ : Hd), D3v⟩ by
    rw [resetLookD, if_pos hq]
    simp only [eT]
    simp [hst, hD3]]
  have g2 : ((M.t t).st == 2) = false := by simp [hst]
  have g6 : ((M.t t).st == 6) = false := by simp [hst]
  have g1 : ((M.t t).st == 1) = false := by simp [hst]
  have g3 : ((M.t t).st == 3) = false := by simp [hst]
  have g4 : ((M.t t).st == 4) = false := by simp [hst]
  have g5 : ((M.t t).st == 5) = false := by simp [hst]
  have HD3 := Lib.hid hD3
  clear hD3 hD3m hD3v hst
  clear hp hd
  have HQ := Lib.hid (show hasT M (t : Int) = true by rw [← het]; exact hq)
  have HT := Lib.hid het
  clear hq het eT
  obtain ⟨pg, pc, V, rfl, ho⟩ := hm.openP hk
  clear hm
  obtain ⟨tg, tc, rfl, _⟩ := ho.tms ht
  obtain ⟨w1, e1, s1⟩ := DSt.start h v hB ho
  clear ho
  have i0 : (0 : Int) ≤ (t : Int) := by omega
  have i1 : (t : Int) < (M.tn : Int) := by omega
  obtain ⟨x0, x1, x2, x3, x4, x5, x6, x7, x8, x9, x10, x11, x12, x13, x14, x15, x16, x17, x18, x19, xf0, xf1, xf2, xf3, xf4, xf5, xf6, xf7, xf8, xf9, xf10, xf11, xf12, xf13, xf14, xf15, xf16, xf17, xf18, xf19⟩ := s1.cellsA
  rw [HT.out] at x5
  go_enter Tryz.func57, Tryz.ntmps57
  go_upto_region 1 with fail
  rw [← e1.out]
  clear e1
  go_wp2_with fail
  go_at_call 66; refine (l5Has_any ⟨_, _, rfl⟩ hn _ _).mono ?_; rw [HQ.out]; rintro e w2 ⟨rfl, hb⟩
  have s2 := s1.below hb
  clear s1 hb x0 x1 x2 x3 x4 x5 x6 x7 x8 x9 x10 x11 x12 x13 x14 x15 x16 x17 x18 x19 xf0 xf1 xf2 xf3 xf4 xf5 xf6 xf7 xf8 xf9 xf10 xf11 xf12 xf13 xf14 xf15 xf16 xf17 xf18 xf19
  obtain ⟨x0, x1, x2, x3, x4, x5, x6, x7, x8, x9, x10, x11, x12, x13, x14, x15, x16, x17, x18, x19, xf0, xf1, xf2, xf3, xf4, xf5, xf6, xf7, xf8, xf9, xf10, xf11, xf12, xf13, xf14, xf15, xf16, xf17, xf18, xf19⟩ := s2.cellsA
  obtain ⟨⟨t0, t1, t2, t3, t4, t5, t6, t7⟩, _⟩ := s2.tcells ht rfl
  have kX := (Below.refl w2.heap.size w2).alloc (Nat.le_refl _) (.cells #[.int .i64 (M.t t).st, .int .i64 (M.t t).wh, .int .i64 (M.t t).nx, .int .i64 (M.t t).pe, .int .i64 (M.t t).pl, .int .i64 (M.t t).ge, .int .i64 (M.t t).ki, .int .i64 (M.t t).ma] 80)
  have hX := heap_alloc_new w2 (.cells #[.int .i64 (M.t t).st, .int .i64 (M.t t).wh, .int .i64 (M.t t).nx, .int .i64 (M.t t).pe, .int .i64 (M.t t).pl, .int .i64 (M.t t).ge, .int .i64 (M.t t).ki, .int .i64 (M.t t).ma] 80)
  have s3 := s2.below kX
  have lX := s2.size
  have ltg := s2.tlt ht
  go_upto_region 6 with fail
  generalize hXb : w2.heap.size = X at hX lX ltg ⊢
  generalize hw3 : w2.alloc (.cells #[.int .i64 (M.t t).st, .int .i64 (M.t t).wh, .int .i64 (M.t t).nx, .int .i64 (M.t t).pe, .int .i64 (M.t t).pl, .int .i64 (M.t t).ge, .int .i64 (M.t t).ki, .int .i64 (M.t t).ma] 80) = w3 at hX s3 ⊢
  clear hw3 kX hXb s2 t0 t1 t2 t3 t4 t5 t6 t7 x0 x1 x2 x3 x4 x5 x6 x7 x8 x9 x10 x11 x12 x13 x14 x15 x16 x17 x18 x19 xf0 xf1 xf2 xf3 xf4 xf5 xf6 xf7 xf8 xf9 xf10 xf11 xf12 xf13 xf14 xf15 xf16 xf17 xf18 xf19
  have y0 : w3.cell? ⟨X, 0, none⟩ = some (.int .i64 (M.t t).st) := cell_of_block hX 0
  have y4 : w3.cell? ⟨X, 4, none⟩ = some (.int .i64 (M.t t).pl) := cell_of_block hX 4
  go_upto_region 8 with fail
  refine wp_region_lit ?_
  refine wpList_load_mid (by rfl) 43 _ (by rfl) _ 0 (by rfl) [.int .i64 M.c, (.slice (some ⟨tg, 0, none⟩) M.tn tc), (.slice (some ⟨pg, 0, none⟩) M.pn pc), .int .i64 h.pos, .int .i64 h.call.code, .int .i64 h.call.a, .int .i64 h.call.b, .int .i64 h.call.c, .int .i64 h.tim, .int .i64 h.whe, .bool h.had, .int .i64 h.cnt, .int .i64 h.beg, .int .i64 h.rep, .int .i64 h.out, .int .i64 v.kin, .int .i64 v.tim, .int .i64 v.gen, .int .i64 v.whe, .int .i64 v.clk] _ (range_of_block s3.a) Tryz.underlying43 rfl done_info ?_
  have lX3 := lt_of_block hX
  have hCl := l10Claim_any (h := h) (v := v) s3.size.1 hk ht s3.own
  rw [HD3.out] at hCl
  go_wp2_with fail
  go_at_call 67; refine hCl.mono ?_
  rintro e w4 ⟨hI, hkp⟩
  have hX4 := (hkp X lX3 (by show ¬ (some tg : Option Nat) = some X; intro e; injection e; omega)).trans hX
  obtain ⟨ta3, tc3, pg3, pc3, V3, rfl, th3, s4⟩ := s3.callAll hI ec ep hk
  clear hCl hI hkp s3 hX y0 y4
  rename_i K1 hK1
  refine hK1 _ _ ?_
  clear hK1 K1
  refine wpList_store_mid (by rfl) 43 _ _ (by rfl) _ 0 (dnCells ⟨D3m, ⟨h.pos, h.call, (t : Int), h.whe, h.had, h.cnt, h.beg, h.rep, h.out⟩, D3v⟩ (.slice ta3 D3m.tn tc3) (.slice (some ⟨pg3, 0, none⟩) M.pn pc3)) (by rfl) (by rfl) th3 done_info (by simp [Value.oneCell']) ?_
  have hX5 := (heap_setCells_ne (b := w.heap.size) (g := X) (by omega) (dnCells ⟨D3m, ⟨h.pos, h.call, (t : Int), h.whe, h.had, h.cnt, h.beg, h.rep, h.out⟩, D3v⟩ (.slice ta3 D3m.tn tc3) (.slice (some ⟨pg3, 0, none⟩) M.pn pc3)).toList 0 w4).trans hX4
  generalize hw5 : w4.setCells w.heap.size 0 (dnCells ⟨D3m, ⟨h.pos, h.call, (t : Int), h.whe, h.had, h.cnt, h.beg, h.rep, h.out⟩, D3v⟩ (.slice ta3 D3m.tn tc3) (.slice (some ⟨pg3, 0, none⟩) M.pn pc3)).toList = w5 at s4 hX5 ⊢
  clear hw5 th3 HD3 hX4
  obtain ⟨x0, x1, x2, x3, x4, x5, x6, x7, x8, x9, x10, x11, x12, x13, x14, x15, x16, x17, x18, x19, xf0, xf1, xf2, xf3, xf4, xf5, xf6, xf7, xf8, xf9, xf10, xf11, xf12, xf13, xf14, xf15, xf16, xf17, xf18, xf19⟩ := s4.cellsA
  obtain ⟨w6, e6, s6⟩ := s4.hand_whe (afterI M.c h.call.b)
  have hX6 := (heap_set_ne (w := w5) (b := w.heap.size) (g := X) 9 (.int .i64 (afterI M.c h.call.b)) (by omega)).trans hX5
  go_wp2_with fail
  go_at_call 82; refine (spAfter_any _ _ _).mono ?_; rintro x wp ⟨rfl, rfl⟩
  go_upto_region 10 with fail
  rw [← e6.out]
  rw [← e6.out] at hX6
  clear e6 s4 hX5 x0 x1 x2 x3 x4 x5 x6 x7 x8 x9 x10 x11 x12 x13 x14 x15 x16 x17 x18 x19 xf0 xf1 xf2 xf3 xf4 xf5 xf6 xf7 xf8 xf9 xf10 xf11 xf12 xf13 xf14 xf15 xf16 xf17 xf18 xf19
  obtain ⟨x0, x1, x2, x3, x4, x5, x6, x7, x8, x9, x10, x11, x12, x13, x14, x15, x16, x17, x18, x19, xf0, xf1, xf2, xf3, xf4, xf5, xf6, xf7, xf8, xf9, xf10, xf11, xf12, xf13, xf14, xf15, xf16, xf17, xf18, xf19⟩ := s6.cellsA
  obtain ⟨w7, e7, s7⟩ := s6.hand_pos 7
  have hX7 := (heap_set_ne (w := w6) (b := w.heap.size) (g := X) 3 (.int .i64 7) (by omega)).trans hX6
  go_upto_region 11 with fail
  rw [← e7.out]
  rw [← e7.out] at hX7
  clear e7 s6 hX6 x0 x1 x2 x3 x4 x5 x6 x7 x8 x9 x10 x11 x12 x13 x14 x15 x16 x17 x18 x19 xf0 xf1 xf2 xf3 xf4 xf5 xf6 xf7 xf8 xf9 xf10 xf11 xf12 xf13 xf14 xf15 xf16 xf17 xf18 xf19
  have y0 : w7.cell? ⟨X, 0, none⟩ = some (.int .i64 (M.t t).st) := cell_of_block hX7 0
  have y4 : w7.cell? ⟨X, 4, none⟩ = some (.int .i64 (M.t t).pl) := cell_of_block hX7 4
  obtain ⟨x0, x1, x2, x3, x4, x5, x6, x7, x8, x9, x10, x11, x12, x13, x14, x15, x16, x17, x18, x19, xf0, xf1, xf2, xf3, xf4, xf5, xf6, xf7, xf8, xf9, xf10, xf11, xf12, xf13, xf14, xf15, xf16, xf17, xf18, xf19⟩ := s7.cellsA
  obtain ⟨w8, e8, s8⟩ := s7.hand_pos 2
  go_upto_region 19 with fail
  rw [← e8.out]
  clear e8 s7 x0 x1 x2 x3 x4 x5 x6 x7 x8 x9 x10 x11 x12 x13 x14 x15 x16 x17 x18 x19 xf0 xf1 xf2 xf3 xf4 xf5 xf6 xf7 xf8 xf9 xf10 xf11 xf12 xf13 xf14 xf15 xf16 xf17 xf18 xf19
  refine wp_region_lit ?_
  refine wpList_load_mid (by rfl) 43 _ (by rfl) _ 0 (by rfl) [.int .i64 M.c, (.slice ta3 D3m.tn tc3), (.slice (some ⟨pg3, 0, none⟩) M.pn pc3), .int .i64 (⟨2, h.call, (t : Int), afterI M.c h.call.b, h.had, h.cnt, h.beg, h.rep, h.out⟩ : Hd).pos, .int .i64 (⟨2, h.call, (t : Int), afterI M.c h.call.b, h.had, h.cnt, h.beg, h.rep, h.out⟩ : Hd).call.code, .int .i64 (⟨2, h.call, (t : Int), afterI M.c h.call.b, h.had, h.cnt, h.beg, h.rep, h.out⟩ : Hd).call.a, .int .i64 (⟨2, h.call, (t : Int), afterI M.c h.call.b, h.had, h.cnt, h.beg, h.rep, h.out⟩ : Hd).call.b, .int .i64 (⟨2, h.call, (t : Int), afterI M.c h.call.b, h.had, h.cnt, h.beg, h.rep, h.out⟩ : Hd).call.c, .int .i64 (⟨2, h.call, (t : Int), afterI M.c h.call.b, h.had, h.cnt, h.beg, h.rep, h.out⟩ : Hd).tim, .int .i64 (⟨2, h.call, (t : Int), afterI M.c h.call.b, h.had, h.cnt, h.beg, h.rep, h.out⟩ : Hd).whe, .bool (⟨2, h.call, (t : Int), afterI M.c h.call.b, h.had, h.cnt, h.beg, h.rep, h.out⟩ : Hd).had, .int .i64 (⟨2, h.call, (t : Int), afterI M.c h.call.b, h.had, h.cnt, h.beg, h.rep, h.out⟩ : Hd).cnt, .int .i64 (⟨2, h.call, (t : Int), afterI M.c h.call.b, h.had, h.cnt, h.beg, h.rep, h.out⟩ : Hd).beg, .int .i64 (⟨2, h.call, (t : Int), afterI M.c h.call.b, h.had, h.cnt, h.beg, h.rep, h.out⟩ : Hd).rep, .int .i64 (⟨2, h.call, (t : Int), afterI M.c h.call.b, h.had, h.cnt, h.beg, h.rep, h.out⟩ : Hd).out, .int .i64 D3v.kin, .int .i64 D3v.tim, .int .i64 D3v.gen, .int .i64 D3v.whe, .int .i64 D3v.clk] _ (range_of_block s8.a) Tryz.underlying43 rfl done_info ?_
  refine wpList_store_mid (by rfl) 43 _ _ (by rfl) _ 0 #[.int .i64 M.c, (.slice ta3 D3m.tn tc3), (.slice (some ⟨pg3, 0, none⟩) M.pn pc3), .int .i64 (⟨2, h.call, (t : Int), afterI M.c h.call.b, h.had, h.cnt, h.beg, h.rep, h.out⟩ : Hd).pos, .int .i64 (⟨2, h.call, (t : Int), afterI M.c h.call.b, h.had, h.cnt, h.beg, h.rep, h.out⟩ : Hd).call.code, .int .i64 (⟨2, h.call, (t : Int), afterI M.c h.call.b, h.had, h.cnt, h.beg, h.rep, h.out⟩ : Hd).call.a, .int .i64 (⟨2, h.call, (t : Int), afterI M.c h.call.b, h.had, h.cnt, h.beg, h.rep, h.out⟩ : Hd).call.b, .int .i64 (⟨2, h.call, (t : Int), afterI M.c h.call.b, h.had, h.cnt, h.beg, h.rep, h.out⟩ : Hd).call.c, .int .i64 (⟨2, h.call, (t : Int), afterI M.c h.call.b, h.had, h.cnt, h.beg, h.rep, h.out⟩ : Hd).tim, .int .i64 (⟨2, h.call, (t : Int), afterI M.c h.call.b, h.had, h.cnt, h.beg, h.rep, h.out⟩ : Hd).whe, .bool (⟨2, h.call, (t : Int), afterI M.c h.call.b, h.had, h.cnt, h.beg, h.rep, h.out⟩ : Hd).had, .int .i64 (⟨2, h.call, (t : Int), afterI M.c h.call.b, h.had, h.cnt, h.beg, h.rep, h.out⟩ : Hd).cnt, .int .i64 (⟨2, h.call, (t : Int), afterI M.c h.call.b, h.had, h.cnt, h.beg, h.rep, h.out⟩ : Hd).beg, .int .i64 (⟨2, h.call, (t : Int), afterI M.c h.call.b, h.had, h.cnt, h.beg, h.rep, h.out⟩ : Hd).rep, .int .i64 (⟨2, h.call, (t : Int), afterI M.c h.call.b, h.had, h.cnt, h.beg, h.rep, h.out⟩ : Hd).out, .int .i64 D3v.kin, .int .i64 D3v.tim, .int .i64 D3v.gen, .int .i64 D3v.whe, .int .i64 D3v.clk] (by rfl) (by rfl) s8.there done_info (by simp [Value.oneCell']) ?_
  refine wpList_nil ?_
  go_wp2
  exact bodyPost_ret (v := .agg #[.int .i64 M.c, (.slice ta3 D3m.tn tc3), (.slice (some ⟨pg3, 0, none⟩) M.pn pc3), .int .i64 (⟨2, h.call, (t : Int), afterI M.c h.call.b, h.had, h.cnt, h.beg, h.rep, h.out⟩ : Hd).pos, .int .i64 (⟨2, h.call, (t : Int), afterI M.c h.call.b, h.had, h.cnt, h.beg, h.rep, h.out⟩ : Hd).call.code, .int .i64 (⟨2, h.call, (t : Int), afterI M.c h.call.b, h.had, h.cnt, h.beg, h.rep, h.out⟩ : Hd).call.a, .int .i64 (⟨2, h.call, (t : Int), afterI M.c h.call.b, h.had, h.cnt, h.beg, h.rep, h.out⟩ : Hd).call.b, .int .i64 (⟨2, h.call, (t : Int), afterI M.c h.call.b, h.had, h.cnt, h.beg, h.rep, h.out⟩ : Hd).call.c, .int .i64 (⟨2, h.call, (t : Int), afterI M.c h.call.b, h.had, h.cnt, h.beg, h.rep, h.out⟩ : Hd).tim, .int .i64 (⟨2, h.call, (t : Int), afterI M.c h.call.b, h.had, h.cnt, h.beg, h.rep, h.out⟩ : Hd).whe, .bool (⟨2, h.call, (t : Int), afterI M.c h.call.b, h.had, h.cnt, h.beg, h.rep, h.out⟩ : Hd).had, .int .i64 (⟨2, h.call, (t : Int), afterI M.c h.call.b, h.had, h.cnt, h.beg, h.rep, h.out⟩ : Hd).cnt, .int .i64 (⟨2, h.call, (t : Int), afterI M.c h.call.b, h.had, h.cnt, h.beg, h.rep, h.out⟩ : Hd).beg, .int .i64 (⟨2, h.call, (t : Int), afterI M.c h.call.b, h.had, h.cnt, h.beg, h.rep, h.out⟩ : Hd).rep, .int .i64 (⟨2, h.call, (t : Int), afterI M.c h.call.b, h.had, h.cnt, h.beg, h.rep, h.out⟩ : Hd).out, .int .i64 D3v.kin, .int .i64 D3v.tim, .int .i64 D3v.gen, .int .i64 D3v.whe, .int .i64 D3v.clk]) (results_cell (cs := [.int .i64 M.c, (.slice ta3 D3m.tn tc3), (.slice (some ⟨pg3, 0, none⟩) M.pn pc3), .int .i64 (⟨2, h.call, (t : Int), afterI M.c h.call.b, h.had, h.cnt, h.beg, h.rep, h.out⟩ : Hd).pos, .int .i64 (⟨2, h.call, (t : Int), afterI M.c h.call.b, h.had, h.cnt, h.beg, h.rep, h.out⟩ : Hd).call.code, .int .i64 (⟨2, h.call, (t : Int), afterI M.c h.call.b, h.had, h.cnt, h.beg, h.rep, h.out⟩ : Hd).call.a, .int .i64 (⟨2, h.call, (t : Int), afterI M.c h.call.b, h.had, h.cnt, h.beg, h.rep, h.out⟩ : Hd).call.b, .int .i64 (⟨2, h.call, (t : Int), afterI M.c h.call.b, h.had, h.cnt, h.beg, h.rep, h.out⟩ : Hd).call.c, .int .i64 (⟨2, h.call, (t : Int), afterI M.c h.call.b, h.had, h.cnt, h.beg, h.rep, h.out⟩ : Hd).tim, .int .i64 (⟨2, h.call, (t : Int), afterI M.c h.call.b, h.had, h.cnt, h.beg, h.rep, h.out⟩ : Hd).whe, .bool (⟨2, h.call, (t : Int), afterI M.c h.call.b, h.had, h.cnt, h.beg, h.rep, h.out⟩ : Hd).had, .int .i64 (⟨2, h.call, (t : Int), afterI M.c h.call.b, h.had, h.cnt, h.beg, h.rep, h.out⟩ : Hd).cnt, .int .i64 (⟨2, h.call, (t : Int), afterI M.c h.call.b, h.had, h.cnt, h.beg, h.rep, h.out⟩ : Hd).beg, .int .i64 (⟨2, h.call, (t : Int), afterI M.c h.call.b, h.had, h.cnt, h.beg, h.rep, h.out⟩ : Hd).rep, .int .i64 (⟨2, h.call, (t : Int), afterI M.c h.call.b, h.had, h.cnt, h.beg, h.rep, h.out⟩ : Hd).out, .int .i64 D3v.kin, .int .i64 D3v.tim, .int .i64 D3v.gen, .int .i64 D3v.whe, .int .i64 D3v.clk]) rfl rfl s8.lies Tryz.underlying43 rfl done_info) rfl (s8.retC)

set_option maxRecDepth 100000 in
set_option maxHeartbeats 2000000 in
theorem l11Look_5 {B : Nat} {tv pv : Value} {M : Me} {h : Hd} {v : Et} {w : World} (hB : B ≤ w.heap.size) (hk : 0 < M.pn) (hn : M.tn ≤ 1048576) (hp : ∀ i, i < M.tn → (M.t i).pl ≠ -1 → ∃ k : Nat, k < M.pn ∧ (M.t i).pl = (k : Int)) (hd : ∀ k, k < M.pn → 0 ≤ (M.p k).d ∧ (M.p k).d ≤ 1000) (hq : hasT M h.call.a = true) (hst : (M.t h.call.a.toNat).st = 5) (hnp : (M.t h.call.a.toNat).pl ≠ -1) (hm : OwnMem w B tv pv M) :
    Calls Tryz.prog 57 #[dnV ⟨M, h, v⟩ tv pv] w (InDn B (resetLookD ⟨M, h, v⟩) w) := by
  obtain ⟨t, het⟩ : ∃ t : Nat, h.call.a = (t : Int) := ⟨h.call.a.toNat, by have := inB_iff.1 hq; omega⟩
  have ht : t < M.tn := by have := inB_iff.1 hq; omega
  have eT : h.call.a.toNat = t := by rw [het]; rfl
  rw [eT] at hst
  obtain ⟨D3m, hD3m⟩ : ∃ D3m, setTm M t 0 2 = D3m := ⟨_, rfl⟩
  obtain ⟨D3v, hD3v⟩ : ∃ D3v, (claimD ⟨M, h, v⟩ t).v = D3v := ⟨_, rfl⟩
  have hD3 : claimD ⟨M, h, v⟩ t = ⟨D3m, ⟨h.pos, h.call, (t : Int), h.whe, h.had, h.cnt, h.beg, h.rep, h.out⟩, D3v⟩ := by rw [← hD3m, ← hD3v]; rfl
  have ec : D3m.c = M.c := by rw [← hD3m]; rfl
  have ep : D3m.pn = M.pn := by rw [← hD3m]; rfl
  have ed : ∀ k, (D3m.p k) = (M.p k) := fun k => by rw [← hD3m]; rfl
  rw [eT] at hnp
  obtain ⟨k, hkp, hpk⟩ := hp t ht hnp
  obtain ⟨D, hD⟩ : ∃ D, (M.p k).d = D := ⟨_, rfl⟩
  obtain ⟨hd0, hd1⟩ := hd k hkp
  rw [hD] at hd0 hd1
  rw [show resetLookD ⟨M, h, v⟩ = ⟨setPc D3m k 3 (D - 1), (⟨7, h.call, (t : Int), afterI M.c h.call.b, h.had, h.cnt, h.beg, h.rep, h.out⟩ : Hd), D3v⟩ by
    rw [resetLookD, if_pos hq]
    simp only [eT]
    simp [hst, hD3, hpk, hD]]
  have g2 : ((M.t t).st == 2) = false := by simp [hst]
  have g6 : ((M.t t).st == 6) = false := by simp [hst]
  have g1 : ((M.t t).st == 1) = false := by simp [hst]
  have g3 : ((M.t t).st == 3) = false := by simp [hst]
  have g4 : ((M.t t).st == 4) = false := by simp [hst]
  have g5 : ((M.t t).st == 5) = true := by simp [hst]
  have HK := Lib.hid hpk
  have HD := Lib.hid (show (D3m.p k).d = D by rw [ed]; exact hD)
  have HD3 := Lib.hid hD3
  clear hD3 hD3m hD3v hst
  clear hp hd hpk hD hnp
  have hwr : IntKind.i64.wrap (D - 1) = D - 1 := by rw [IntKind.wrap_i64]; omega
  have HQ := Lib.hid (show hasT M (t : Int) = true by rw [← het]; exact hq)
  have HT := Lib.hid het
  clear hq het eT
  obtain ⟨pg, pc, V, rfl, ho⟩ := hm.openP hk
  clear hm
  obtain ⟨tg, tc, rfl, _⟩ := ho.tms ht
  obtain ⟨w1, e1, s1⟩ := DSt.start h v hB ho
  clear ho
  have i0 : (0 : Int) ≤ (t : Int) := by omega
  have i1 : (t : Int) < (M.tn : Int) := by omega
  obtain ⟨x0, x1, x2, x3, x4, x5, x6, x7, x8, x9, x10, x11, x12, x13, x14, x15, x16, x17, x18, x19, xf0, xf1, xf2, xf3, xf4, xf5, xf6, xf7, xf8, xf9, xf10, xf11, xf12, xf13, xf14, xf15, xf16, xf17, xf18, xf19⟩ := s1.cellsA
  rw [HT.out] at x5
  go_enter Tryz.func57, Tryz.ntmps57
  go_upto_region 1 with fail
  rw [← e1.out]
  clear e1
  go_wp2_with fail
  go_at_call 66; refine (l5Has_any ⟨_, _, rfl⟩ hn _ _).mono ?_; rw [HQ.out]; rintro e w2 ⟨rfl, hb⟩
  have s2 := s1.below hb
  clear s1 hb x0 x1 x2 x3 x4 x5 x6 x7 x8 x9 x10 x11 x12 x13 x14 x15 x16 x17 x18 x19 xf0 xf1 xf2 xf3 xf4 xf5 xf6 xf7 xf8 xf9 xf10 xf11 xf12 xf13 xf14 xf15 xf16 xf17 xf18 xf19
  obtain ⟨x0, x1, x2, x3, x4, x5, x6, x7, x8, x9, x10, x11, x12, x13, x14, x15, x16, x17, x18, x19, xf0, xf1, xf2, xf3, xf4, xf5, xf6, xf7, xf8, xf9, xf10, xf11, xf12, xf13, xf14, xf15, xf16, xf17, xf18, xf19⟩ := s2.cellsA
  obtain ⟨⟨t0, t1, t2, t3, t4, t5, t6, t7⟩, _⟩ := s2.tcells ht rfl
  have kX := (Below.refl w2.heap.size w2).alloc (Nat.le_refl _) (.cells #[.int .i64 (M.t t).st, .int .i64 (M.t t).wh, .int .i64 (M.t t).nx, .int .i64 (M.t t).pe, .int .i64 (M.t t).pl, .int .i64 (M.t t).ge, .int .i64 (M.t t).ki, .int .i64 (M.t t).ma] 80)
  have hX := heap_alloc_new w2 (.cells #[.int .i64 (M.t t).st, .int .i64 (M.t t).wh, .int .i64 (M.t t).nx, .int .i64 (M.t t).pe, .int .i64 (M.t t).pl, .int .i64 (M.t t).ge, .int .i64 (M.t t).ki, .int .i64 (M.t t).ma] 80)
  have s3 := s2.below kX
  have lX := s2.size
  have ltg := s2.tlt ht
  go_upto_region 6 with fail
  generalize hXb : w2.heap.size = X at hX lX ltg ⊢
  generalize hw3 : w2.alloc (.cells #[.int .i64 (M.t t).st, .int .i64 (M.t t).wh, .int .i64 (M.t t).nx, .int .i64 (M.t t).pe, .int .i64 (M.t t).pl, .int .i64 (M.t t).ge, .int .i64 (M.t t).ki, .int .i64 (M.t t).ma] 80) = w3 at hX s3 ⊢
  clear hw3 kX hXb s2 t0 t1 t2 t3 t4 t5 t6 t7 x0 x1 x2 x3 x4 x5 x6 x7 x8 x9 x10 x11 x12 x13 x14 x15 x16 x17 x18 x19 xf0 xf1 xf2 xf3 xf4 xf5 xf6 xf7 xf8 xf9 xf10 xf11 xf12 xf13 xf14 xf15 xf16 xf17 xf18 xf19
  have y0 : w3.cell? ⟨X, 0, none⟩ = some (.int .i64 (M.t t).st) := cell_of_block hX 0
  have y4 : w3.cell? ⟨X, 4, none⟩ = some (.int .i64 (M.t t).pl) := cell_of_block hX 4
  go_upto_region 8 with fail
  refine wp_region_lit ?_
  refine wpList_load_mid (by rfl) 43 _ (by rfl) _ 0 (by rfl) [.int .i64 M.c, (.slice (some ⟨tg, 0, none⟩) M.tn tc), (.slice (some ⟨pg, 0, none⟩) M.pn pc), .int .i64 h.pos, .int .i64 h.call.code, .int .i64 h.call.a, .int .i64 h.call.b, .int .i64 h.call.c, .int .i64 h.tim, .int .i64 h.whe, .bool h.had, .int .i64 h.cnt, .int .i64 h.beg, .int .i64 h.rep, .int .i64 h.out, .int .i64 v.kin, .int .i64 v.tim, .int .i64 v.gen, .int .i64 v.whe, .int .i64 v.clk] _ (range_of_block s3.a) Tryz.underlying43 rfl done_info ?_
  have lX3 := lt_of_block hX
  have hCl := l10Claim_any (h := h) (v := v) s3.size.1 hk ht s3.own
  rw [HD3.out] at hCl
  go_wp2_with fail
  go_at_call 67; refine hCl.mono ?_
  rintro e w4 ⟨hI, hkp⟩
  have hX4 := (hkp X lX3 (by show ¬ (some tg : Option Nat) = some X; intro e; injection e; omega)).trans hX
  obtain ⟨ta3, tc3, pg3, pc3, V3, rfl, th3, s4⟩ := s3.callAll hI ec ep hk
  clear hCl hI hkp s3 hX y0 y4
  rename_i K1 hK1
  refine hK1 _ _ ?_
  clear hK1 K1
  refine wpList_store_mid (by rfl) 43 _ _ (by rfl) _ 0 (dnCells ⟨D3m, ⟨h.pos, h.call, (t : Int), h.whe, h.had, h.cnt, h.beg, h.rep, h.out⟩, D3v⟩ (.slice ta3 D3m.tn tc3) (.slice (some ⟨pg3, 0, none⟩) M.pn pc3)) (by rfl) (by rfl) th3 done_info (by simp [Value.oneCell']) ?_
  have hX5 := (heap_setCells_ne (b := w.heap.size) (g := X) (by omega) (dnCells ⟨D3m, ⟨h.pos, h.call, (t : Int), h.whe, h.had, h.cnt, h.beg, h.rep, h.out⟩, D3v⟩ (.slice ta3 D3m.tn tc3) (.slice (some ⟨pg3, 0, none⟩) M.pn pc3)).toList 0 w4).trans hX4
  generalize hw5 : w4.setCells w.heap.size 0 (dnCells ⟨D3m, ⟨h.pos, h.call, (t : Int), h.whe, h.had, h.cnt, h.beg, h.rep, h.out⟩, D3v⟩ (.slice ta3 D3m.tn tc3) (.slice (some ⟨pg3, 0, none⟩) M.pn pc3)).toList = w5 at s4 hX5 ⊢
  clear hw5 th3 HD3 hX4
  obtain ⟨x0, x1, x2, x3, x4, x5, x6, x7, x8, x9, x10, x11, x12, x13, x14, x15, x16, x17, x18, x19, xf0, xf1, xf2, xf3, xf4, xf5, xf6, xf7, xf8, xf9, xf10, xf11, xf12, xf13, xf14, xf15, xf16, xf17, xf18, xf19⟩ := s4.cellsA
  obtain ⟨w6, e6, s6⟩ := s4.hand_whe (afterI M.c h.call.b)
  have hX6 := (heap_set_ne (w := w5) (b := w.heap.size) (g := X) 9 (.int .i64 (afterI M.c h.call.b)) (by omega)).trans hX5
  go_wp2_with fail
  go_at_call 82; refine (spAfter_any _ _ _).mono ?_; rintro x wp ⟨rfl, rfl⟩
  go_upto_region 10 with fail
  rw [← e6.out]
  rw [← e6.out] at hX6
  clear e6 s4 hX5 x0 x1 x2 x3 x4 x5 x6 x7 x8 x9 x10 x11 x12 x13 x14 x15 x16 x17 x18 x19 xf0 xf1 xf2 xf3 xf4 xf5 xf6 xf7 xf8 xf9 xf10 xf11 xf12 xf13 xf14 xf15 xf16 xf17 xf18 xf19
  obtain ⟨x0, x1, x2, x3, x4, x5, x6, x7, x8, x9, x10, x11, x12, x13, x14, x15, x16, x17, x18, x19, xf0, xf1, xf2, xf3, xf4, xf5, xf6, xf7, xf8, xf9, xf10, xf11, xf12, xf13, xf14, xf15, xf16, xf17, xf18, xf19⟩ := s6.cellsA
  obtain ⟨w7, e7, s7⟩ := s6.hand_pos 7
  have hX7 := (heap_set_ne (w := w6) (b := w.heap.size) (g := X) 3 (.int .i64 7) (by omega)).trans hX6
  go_upto_region 11 with fail
  rw [← e7.out]
  rw [← e7.out] at hX7
  clear e7 s6 hX6 x0 x1 x2 x3 x4 x5 x6 x7 x8 x9 x10 x11 x12 x13 x14 x15 x16 x17 x18 x19 xf0 xf1 xf2 xf3 xf4 xf5 xf6 xf7 xf8 xf9 xf10 xf11 xf12 xf13 xf14 xf15 xf16 xf17 xf18 xf19
  have y0 : w7.cell? ⟨X, 0, none⟩ = some (.int .i64 (M.t t).st) := cell_of_block hX7 0
  have y4 : w7.cell? ⟨X, 4, none⟩ = some (.int .i64 (M.t t).pl) := cell_of_block hX7 4
  obtain ⟨x0, x1, x2, x3, x4, x5, x6, x7, x8, x9, x10, x11, x12, x13, x14, x15, x16, x17, x18, x19, xf0, xf1, xf2, xf3, xf4, xf5, xf6, xf7, xf8, xf9, xf10, xf11, xf12, xf13, xf14, xf15, xf16, xf17, xf18, xf19⟩ := s7.cellsA
  rw [HK.out] at y4
  obtain ⟨_, ⟨_, _, p3⟩, pf⟩ := s7.pcells (k := k) (by rw [ep]; exact hkp) rfl
  have p3' : w7.cell? ⟨pg3, k * 4 + 3, none⟩ = some (.int .i64 D) := by rw [p3]; show some (Value.int .i64 (D3m.p k).d) = _; rw [HD.out]
  have pf3 := pf (k * 4 + 3)
  have j0 : (0 : Int) ≤ (k : Int) := by omega
  have j1 : (k : Int) < (M.pn : Int) := by omega
  clear p3 pf
  go_upto_region 18 with fail
  refine wp_region_T (fun w' => w'.cell? ⟨w.heap.size, 2, none⟩ = some (.slice (some ⟨pg3, 0, none⟩) M.pn pc3) ∧ w'.cell? ⟨X, 4, none⟩ = some (.int .i64 (k : Int)) ∧ w'.cell? ⟨pg3, k * 4 + 3, none⟩ = some (.int .i64 D)) 16 (by kernel_rfl) ?_
  have hS : w7.drew.cell? ⟨w.heap.size, 2, none⟩ = some (.slice (some ⟨pg3, 0, none⟩) M.pn pc3) ∧ w7.drew.cell? ⟨X, 4, none⟩ = some (.int .i64 (k : Int)) ∧ w7.drew.cell? ⟨pg3, k * 4 + 3, none⟩ = some (.int .i64 D) := ⟨x2, y4, p3'⟩
  clear y0 x0 x1 x2 x3 x4 x5 x6 x7 x8 x9 x10 x11 x12 x13 x14 x15 x16 x17 x18 x19 xf0 xf1 xf2 xf3 xf4 xf5 xf6 xf7 xf8 xf9 xf10 xf11 xf12 xf13 xf14 xf15 xf16 xf17 xf18 xf19
  refine wpAnyT_take (i := 0) (v := ?v0_1) rfl (by kernel_rfl) (by kernel_rfl) (by kernel_rfl) (by kernel_rfl) (fun _ _ _ h => h) (Or.inl ⟨by rfl, ?hy0_1⟩) hS ?rest0_1
  case hy0_1 => intro w' hSw; obtain ⟨s0, s1, s2⟩ := hSw; go_simp; try with_reducible rfl
  simp only [Act.put, List.setIfInBounds_toArray, List.set_cons_zero, List.set_cons_succ]
  refine wpAnyT_take (i := 1) (v := ?v1_2) rfl (by kernel_rfl) (by kernel_rfl) (by kernel_rfl) (by kernel_rfl) (fun _ _ _ h => h) (Or.inl ⟨by rfl, ?hy1_2⟩) hS ?rest1_2
  case hy1_2 => intro w' hSw; obtain ⟨s0, s1, s2⟩ := hSw; go_simp; try with_reducible rfl
  simp only [Act.put, List.setIfInBounds_toArray, List.set_cons_zero, List.set_cons_succ]
  refine wpAnyT_take (i := 2) (v := ?v2_3) rfl (by kernel_rfl) (by kernel_rfl) (by kernel_rfl) (by kernel_rfl) (fun _ _ _ h => h) (Or.inl ⟨by rfl, ?hy2_3⟩) hS ?rest2_3
  case hy2_3 => intro w' hSw; obtain ⟨s0, s1, s2⟩ := hSw; go_simp; try with_reducible rfl
  simp only [Act.put, List.setIfInBounds_toArray, List.set_cons_zero, List.set_cons_succ]
  refine wpAnyT_take (i := 3) (v := ?v3_4) rfl (by kernel_rfl) (by kernel_rfl) (by kernel_rfl) (by kernel_rfl) (fun _ _ _ h => h) (Or.inl ⟨by rfl, ?hy3_4⟩) hS ?rest3_4
  case hy3_4 => intro w' hSw; obtain ⟨s0, s1, s2⟩ := hSw; go_simp; try with_reducible rfl
  simp only [Act.put, List.setIfInBounds_toArray, List.set_cons_zero, List.set_cons_succ]
  refine wpAnyT_take (i := 4) (v := ?v4_5) rfl (by kernel_rfl) (by kernel_rfl) (by kernel_rfl) (by kernel_rfl) (fun _ _ _ h => h) (Or.inl ⟨by rfl, ?hy4_5⟩) hS ?rest4_5
  case hy4_5 => intro w' hSw; obtain ⟨s0, s1, s2⟩ := hSw; go_simp; try with_reducible rfl
  simp only [Act.put, List.setIfInBounds_toArray, List.set_cons_zero, List.set_cons_succ]
  refine wpAnyT_take (i := 5) (v := ?v5_6) rfl (by kernel_rfl) (by kernel_rfl) (by kernel_rfl) (by kernel_rfl) (fun _ _ _ h => h) (Or.inl ⟨by rfl, ?hy5_6⟩) hS ?rest5_6
  case hy5_6 => intro w' hSw; obtain ⟨s0, s1, s2⟩ := hSw; go_simp; try with_reducible rfl
  simp only [Act.put, List.setIfInBounds_toArray, List.set_cons_zero, List.set_cons_succ]
  refine wpAnyT_take (i := 6) (v := ?v6_7) rfl (by kernel_rfl) (by kernel_rfl) (by kernel_rfl) (by kernel_rfl) (fun _ _ _ h => h) (Or.inl ⟨by rfl, ?hy6_7⟩) hS ?rest6_7
  case hy6_7 => intro w' hSw; obtain ⟨s0, s1, s2⟩ := hSw; go_simp; try with_reducible rfl
  simp only [Act.put, List.setIfInBounds_toArray, List.set_cons_zero, List.set_cons_succ]
  refine wpAnyT_take (i := 7) (v := ?v7_8) rfl (by kernel_rfl) (by kernel_rfl) (by kernel_rfl) (by kernel_rfl) (fun _ _ _ h => h) (Or.inl ⟨by rfl, ?hy7_8⟩) hS ?rest7_8
  case hy7_8 => intro w' hSw; obtain ⟨s0, s1, s2⟩ := hSw; go_simp; try with_reducible rfl
  simp only [Act.put, List.setIfInBounds_toArray, List.set_cons_zero, List.set_cons_succ]
  refine wpAnyT_take (i := 8) (v := ?v8_9) rfl (by kernel_rfl) (by kernel_rfl) (by kernel_rfl) (by kernel_rfl) (fun _ _ _ h => h) (Or.inl ⟨by rfl, ?hy8_9⟩) hS ?rest8_9
  case hy8_9 => intro w' hSw; obtain ⟨s0, s1, s2⟩ := hSw; go_simp; try with_reducible rfl
  simp only [Act.put, List.setIfInBounds_toArray, List.set_cons_zero, List.set_cons_succ]
  refine wpAnyT_take (i := 9) (v := ?v9_10) rfl (by kernel_rfl) (by kernel_rfl) (by kernel_rfl) (by kernel_rfl) (fun _ _ _ h => h) (Or.inl ⟨by rfl, ?hy9_10⟩) hS ?rest9_10
  case hy9_10 => intro w' hSw; obtain ⟨s0, s1, s2⟩ := hSw; go_simp; try with_reducible rfl
  simp only [Act.put, List.setIfInBounds_toArray, List.set_cons_zero, List.set_cons_succ]
  refine wpAnyT_take (i := 10) (v := ?v10_11) rfl (by kernel_rfl) (by kernel_rfl) (by kernel_rfl) (by kernel_rfl) (fun _ _ _ h => h) (Or.inl ⟨by rfl, ?hy10_11⟩) hS ?rest10_11
  case hy10_11 => intro w' hSw; obtain ⟨s0, s1, s2⟩ := hSw; go_simp; try with_reducible rfl
  simp only [Act.put, List.setIfInBounds_toArray, List.set_cons_zero, List.set_cons_succ]
  refine wpAnyT_take (i := 11) (v := ?v11_12) rfl (by kernel_rfl) (by kernel_rfl) (by kernel_rfl) (by kernel_rfl) (fun _ _ _ h => h) (Or.inl ⟨by rfl, ?hy11_12⟩) hS ?rest11_12
  case hy11_12 => intro w' hSw; obtain ⟨s0, s1, s2⟩ := hSw; go_simp; try with_reducible rfl
  simp only [Act.put, List.setIfInBounds_toArray, List.set_cons_zero, List.set_cons_succ]
  refine wpAnyT_take (i := 12) (v := ?v12_13) rfl (by kernel_rfl) (by kernel_rfl) (by kernel_rfl) (by kernel_rfl) (fun _ _ _ h => h) (Or.inl ⟨by rfl, ?hy12_13⟩) hS ?rest12_13
  case hy12_13 => intro w' hSw; obtain ⟨s0, s1, s2⟩ := hSw; go_simp; try with_reducible rfl
  simp only [Act.put, List.setIfInBounds_toArray, List.set_cons_zero, List.set_cons_succ]
  refine wpAnyT_take (i := 13) (v := ?v13_14) rfl (by kernel_rfl) (by kernel_rfl) (by kernel_rfl) (by kernel_rfl) (fun _ _ _ h => h) (Or.inl ⟨by rfl, ?hy13_14⟩) hS ?rest13_14
  case hy13_14 => intro w' hSw; obtain ⟨s0, s1, s2⟩ := hSw; go_simp; try with_reducible rfl
  simp only [Act.put, List.setIfInBounds_toArray, List.set_cons_zero, List.set_cons_succ]
  (try simp only [hwr])
  refine wpAnyT_one (i := 14) (by kernel_rfl) rfl (by rfl) fun K hK => ?_
  go_simp
  refine hK _ _ (.inr hS) ?_
  clear hK K
  (try simp only [Act.put, List.setIfInBounds_toArray, List.set_cons_zero, List.set_cons_succ])
  refine wpAnyT_take (i := 15) (v := ?v15_15) rfl (by kernel_rfl) (by kernel_rfl) (by kernel_rfl) (by kernel_rfl) (fun _ _ _ h => h) (Or.inl ⟨by rfl, ?hy15_15⟩) hS ?rest15_15
  case hy15_15 => intro w' hSw; obtain ⟨s0, s1, s2⟩ := hSw; go_simp; try with_reducible rfl
  simp only [Act.put, List.setIfInBounds_toArray, List.set_cons_zero, List.set_cons_succ]
  obtain ⟨w8a, e8, s8a⟩ := s7.setP (k := k) 3 (by rw [ep]; exact hkp) (.inr (.inr rfl)) (D - 1)
  have s8 := s8a.drew
  have g5d : w7.drew.cell? ⟨pg3, k * 4 + 3, none⟩ = some (.int .i64 D) := p3'
  have gf5d : w7.drew.frozen? ⟨pg3, k * 4 + 3, none⟩ = false := pf3
  refine wpAnyT_one (i := 16) (by kernel_rfl) rfl (by rfl) fun K hK => ?_
  go_simp
  refine hK _ _ (.inl rfl) ?_
  clear hK K
  refine wpAnyT_done (by kernel_rfl) ?_ _
  rw [← e8.out]
  clear s8a e8
  generalize w8a.drew = w8 at s8 ⊢
  clear w8a hS g5d gf5d p3' pf3 s7 y4
  go_upto_region 19 with fail
  refine wp_region_lit ?_
  refine wpList_load_mid (by rfl) 43 _ (by rfl) _ 0 (by rfl) [.int .i64 M.c, (.slice ta3 D3m.tn tc3), (.slice (some ⟨pg3, 0, none⟩) M.pn pc3), .int .i64 (⟨7, h.call, (t : Int), afterI M.c h.call.b, h.had, h.cnt, h.beg, h.rep, h.out⟩ : Hd).pos, .int .i64 (⟨7, h.call, (t : Int), afterI M.c h.call.b, h.had, h.cnt, h.beg, h.rep, h.out⟩ : Hd).call.code, .int .i64 (⟨7, h.call, (t : Int), afterI M.c h.call.b, h.had, h.cnt, h.beg, h.rep, h.out⟩ : Hd).call.a, .int .i64 (⟨7, h.call, (t : Int), afterI M.c h.call.b, h.had, h.cnt, h.beg, h.rep, h.out⟩ : Hd).call.b, .int .i64 (⟨7, h.call, (t : Int), afterI M.c h.call.b, h.had, h.cnt, h.beg, h.rep, h.out⟩ : Hd).call.c, .int .i64 (⟨7, h.call, (t : Int), afterI M.c h.call.b, h.had, h.cnt, h.beg, h.rep, h.out⟩ : Hd).tim, .int .i64 (⟨7, h.call, (t : Int), afterI M.c h.call.b, h.had, h.cnt, h.beg, h.rep, h.out⟩ : Hd).whe, .bool (⟨7, h.call, (t : Int), afterI M.c h.call.b, h.had, h.cnt, h.beg, h.rep, h.out⟩ : Hd).had, .int .i64 (⟨7, h.call, (t : Int), afterI M.c h.call.b, h.had, h.cnt, h.beg, h.rep, h.out⟩ : Hd).cnt, .int .i64 (⟨7, h.call, (t : Int), afterI M.c h.call.b, h.had, h.cnt, h.beg, h.rep, h.out⟩ : Hd).beg, .int .i64 (⟨7, h.call, (t : Int), afterI M.c h.call.b, h.had, h.cnt, h.beg, h.rep, h.out⟩ : Hd).rep, .int .i64 (⟨7, h.call, (t : Int), afterI M.c h.call.b, h.had, h.cnt, h.beg, h.rep, h.out⟩ : Hd).out, .int .i64 D3v.kin, .int .i64 D3v.tim, .int .i64 D3v.gen, .int .i64 D3v.whe, .int .i64 D3v.clk] _ (range_of_block s8.a) Tryz.underlying43 rfl done_info ?_
  refine wpList_store_mid (by rfl) 43 _ _ (by rfl) _ 0 #[.int .i64 M.c, (.slice ta3 D3m.tn tc3), (.slice (some ⟨pg3, 0, none⟩) M.pn pc3), .int .i64 (⟨7, h.call, (t : Int), afterI M.c h.call.b, h.had, h.cnt, h.beg, h.rep, h.out⟩ : Hd).pos, .int .i64 (⟨7, h.call, (t : Int), afterI M.c h.call.b, h.had, h.cnt, h.beg, h.rep, h.out⟩ : Hd).call.code, .int .i64 (⟨7, h.call, (t : Int), afterI M.c h.call.b, h.had, h.cnt, h.beg, h.rep, h.out⟩ : Hd).call.a, .int .i64 (⟨7, h.call, (t : Int), afterI M.c h.call.b, h.had, h.cnt, h.beg, h.rep, h.out⟩ : Hd).call.b, .int .i64 (⟨7, h.call, (t : Int), afterI M.c h.call.b, h.had, h.cnt, h.beg, h.rep, h.out⟩ : Hd).call.c, .int .i64 (⟨7, h.call, (t : Int), afterI M.c h.call.b, h.had, h.cnt, h.beg, h.rep, h.out⟩ : Hd).tim, .int .i64 (⟨7, h.call, (t : Int), afterI M.c h.call.b, h.had, h.cnt, h.beg, h.rep, h.out⟩ : Hd).whe, .bool (⟨7, h.call, (t : Int), afterI M.c h.call.b, h.had, h.cnt, h.beg, h.rep, h.out⟩ : Hd).had, .int .i64 (⟨7, h.call, (t : Int), afterI M.c h.call.b, h.had, h.cnt, h.beg, h.rep, h.out⟩ : Hd).cnt, .int .i64 (⟨7, h.call, (t : Int), afterI M.c h.call.b, h.had, h.cnt, h.beg, h.rep, h.out⟩ : Hd).beg, .int .i64 (⟨7, h.call, (t : Int), afterI M.c h.call.b, h.had, h.cnt, h.beg, h.rep, h.out⟩ : Hd).rep, .int .i64 (⟨7, h.call, (t : Int), afterI M.c h.call.b, h.had, h.cnt, h.beg, h.rep, h.out⟩ : Hd).out, .int .i64 D3v.kin, .int .i64 D3v.tim, .int .i64 D3v.gen, .int .i64 D3v.whe, .int .i64 D3v.clk] (by rfl) (by rfl) s8.there done_info (by simp [Value.oneCell']) ?_
  refine wpList_nil ?_
  go_wp2
  exact bodyPost_ret (v := .agg #[.int .i64 M.c, (.slice ta3 D3m.tn tc3), (.slice (some ⟨pg3, 0, none⟩) M.pn pc3), .int .i64 (⟨7, h.call, (t : Int), afterI M.c h.call.b, h.had, h.cnt, h.beg, h.rep, h.out⟩ : Hd).pos, .int .i64 (⟨7, h.call, (t : Int), afterI M.c h.call.b, h.had, h.cnt, h.beg, h.rep, h.out⟩ : Hd).call.code, .int .i64 (⟨7, h.call, (t : Int), afterI M.c h.call.b, h.had, h.cnt, h.beg, h.rep, h.out⟩ : Hd).call.a, .int .i64 (⟨7, h.call, (t : Int), afterI M.c h.call.b, h.had, h.cnt, h.beg, h.rep, h.out⟩ : Hd).call.b, .int .i64 (⟨7, h.call, (t : Int), afterI M.c h.call.b, h.had, h.cnt, h.beg, h.rep, h.out⟩ : Hd).call.c, .int .i64 (⟨7, h.call, (t : Int), afterI M.c h.call.b, h.had, h.cnt, h.beg, h.rep, h.out⟩ : Hd).tim, .int .i64 (⟨7, h.call, (t : Int), afterI M.c h.call.b, h.had, h.cnt, h.beg, h.rep, h.out⟩ : Hd).whe, .bool (⟨7, h.call, (t : Int), afterI M.c h.call.b, h.had, h.cnt, h.beg, h.rep, h.out⟩ : Hd).had, .int .i64 (⟨7, h.call, (t : Int), afterI M.c h.call.b, h.had, h.cnt, h.beg, h.rep, h.out⟩ : Hd).cnt, .int .i64 (⟨7, h.call, (t : Int), afterI M.c h.call.b, h.had, h.cnt, h.beg, h.rep, h.out⟩ : Hd).beg, .int .i64 (⟨7, h.call, (t : Int), afterI M.c h.call.b, h.had, h.cnt, h.beg, h.rep, h.out⟩ : Hd).rep, .int .i64 (⟨7, h.call, (t : Int), afterI M.c h.call.b, h.had, h.cnt, h.beg, h.rep, h.out⟩ : Hd).out, .int .i64 D3v.kin, .int .i64 D3v.tim, .int .i64 D3v.gen, .int .i64 D3v.whe, .int .i64 D3v.clk]) (results_cell (cs := [.int .i64 M.c, (.slice ta3 D3m.tn tc3), (.slice (some ⟨pg3, 0, none⟩) M.pn pc3), .int .i64 (⟨7, h.call, (t : Int), afterI M.c h.call.b, h.had, h.cnt, h.beg, h.rep, h.out⟩ : Hd).pos, .int .i64 (⟨7, h.call, (t : Int), afterI M.c h.call.b, h.had, h.cnt, h.beg, h.rep, h.out⟩ : Hd).call.code, .int .i64 (⟨7, h.call, (t : Int), afterI M.c h.call.b, h.had, h.cnt, h.beg, h.rep, h.out⟩ : Hd).call.a, .int .i64 (⟨7, h.call, (t : Int), afterI M.c h.call.b, h.had, h.cnt, h.beg, h.rep, h.out⟩ : Hd).call.b, .int .i64 (⟨7, h.call, (t : Int), afterI M.c h.call.b, h.had, h.cnt, h.beg, h.rep, h.out⟩ : Hd).call.c, .int .i64 (⟨7, h.call, (t : Int), afterI M.c h.call.b, h.had, h.cnt, h.beg, h.rep, h.out⟩ : Hd).tim, .int .i64 (⟨7, h.call, (t : Int), afterI M.c h.call.b, h.had, h.cnt, h.beg, h.rep, h.out⟩ : Hd).whe, .bool (⟨7, h.call, (t : Int), afterI M.c h.call.b, h.had, h.cnt, h.beg, h.rep, h.out⟩ : Hd).had, .int .i64 (⟨7, h.call, (t : Int), afterI M.c h.call.b, h.had, h.cnt, h.beg, h.rep, h.out⟩ : Hd).cnt, .int .i64 (⟨7, h.call, (t : Int), afterI M.c h.call.b, h.had, h.cnt, h.beg, h.rep, h.out⟩ : Hd).beg, .int .i64 (⟨7, h.call, (t : Int), afterI M.c h.call.b, h.had, h.cnt, h.beg, h.rep, h.out⟩ : Hd).rep, .int .i64 (⟨7, h.call, (t : Int), afterI M.c h.call.b, h.had, h.cnt, h.beg, h.rep, h.out⟩ : Hd).out, .int .i64 D3v.kin, .int .i64 D3v.tim, .int .i64 D3v.gen, .int .i64 D3v.whe, .int .i64 D3v.clk]) rfl rfl s8.lies Tryz.underlying43 rfl done_info) rfl (s8.retC)

theorem l11Look_any {B : Nat} {tv pv : Value} {M : Me} {h : Hd} {v : Et} {w : World} (hB : B ≤ w.heap.size) (hk : 0 < M.pn) (hn : M.tn ≤ 1048576) (hp : ∀ i, i < M.tn → (M.t i).pl ≠ -1 → ∃ k : Nat, k < M.pn ∧ (M.t i).pl = (k : Int)) (hd : ∀ k, k < M.pn → 0 ≤ (M.p k).d ∧ (M.p k).d ≤ 1000) (h5p : ∀ i, i < M.tn → (M.t i).st = 5 → (M.t i).pl ≠ -1) (hm : OwnMem w B tv pv M) :
    Calls Tryz.prog 57 #[dnV ⟨M, h, v⟩ tv pv] w (InDn B (resetLookD ⟨M, h, v⟩) w) := by
  cases hq : hasT M h.call.a
  · exact l11Look_none hB hk hn hp hd hq hm
  by_cases h2 : (M.t h.call.a.toNat).st = 2
  · exact l11Look_2 hB hk hn hp hd hq h2 hm
  by_cases h6 : (M.t h.call.a.toNat).st = 6
  · exact l11Look_6 hB hk hn hp hd hq h6 hm
  by_cases h1 : (M.t h.call.a.toNat).st = 1
  · exact l11Look_1 hB hk hn hp hd hq h1 hm
  by_cases h3 : (M.t h.call.a.toNat).st = 3
  · exact l11Look_3 hB hk hn hp hd hq h3 hm
  by_cases h4 : (M.t h.call.a.toNat).st = 4
  · exact l11Look_4 hB hk hn hp hd hq h4 hm
  by_cases h5 : (M.t h.call.a.toNat).st = 5
  · exact l11Look_5 hB hk hn hp hd hq h5 (h5p _ (by have := inB_iff.1 hq; omega) h5) hm
  exact l11Look_no hB hk hn hp hd hq ⟨h2, h6, h1, h3, h4, h5⟩ hm

end Go.Proofs.YtflekodaiejflaaGreatDoor
