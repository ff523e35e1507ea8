/-
  A lock taken, a lock given back, what is told (spec, chapter 9).
-/
import Derived.Test.YtcfkginbkammoaaGreatL15
import Derived.Deep.QuietTactic
import Derived.BigQuiet
import Derived.Deep.DeepCutAuto
import Derived.Test.YtcfkginbkammoaaGreatL13
import Derived.Test.YtcfkginbkammoaaGreatL12
import Derived.Test.YtcfkginbkammoaaGreatL10
import Derived.Test.YtcfkginbkammoaaGreatL00
import Derived.StillTailTactics
import Derived.OrdersHeld
import Derived.Test.YtcfkginbkammoaaGreatL04
namespace Go.Proofs.YtcfkginbkammoaaGreat
open Go.Deep Go.ChangeShapes Go.WideShapes Go.ChangeAt Go.RowKit Go.Joins
set_option linter.unusedVariables false

theorem DSt.start {B pg pc : Nat} {tv : Value} {V : Nat → Value} {M : Me} {w : World} (h : Hd) (v : Et) (hB : B ≤ w.heap.size) (ho : OpenMem w B tv pg pc V M) :
    ∃ wq, RowKit.Hid (wq = ((w.alloc (.cells #[.int .i64 M.c, tv, (.slice (some ⟨pg, 0, none⟩) M.pn pc), .int .i64 h.pos, .int .i64 h.call.code, .int .i64 h.call.a, .int .i64 h.call.b, .int .i64 h.call.c, .int .i64 h.tim, .int .i64 h.whe, .bool h.had, .int .i64 h.cnt, .int .i64 h.beg, .int .i64 h.rep, .int .i64 h.out, .int .i64 v.kin, .int .i64 v.tim, .int .i64 v.gen, .int .i64 v.whe, .int .i64 v.clk] 43)).alloc (.cells #[.int .i64 0, .slice none 0 0, .slice none 0 0, .int .i64 0, .int .i64 0, .int .i64 0, .int .i64 0, .int .i64 0, .int .i64 0, .int .i64 0, .bool false, .int .i64 0, .int .i64 0, .int .i64 0, .int .i64 0, .int .i64 0, .int .i64 0, .int .i64 0, .int .i64 0, .int .i64 0] 43))) ∧ DSt w wq B w.heap.size (w.heap.size + 1) M.c tv pg M.pn pc V M h v := by
  have k0 := ((Below.refl w.heap.size w).alloc (Nat.le_refl _) (.cells #[.int .i64 M.c, tv, (.slice (some ⟨pg, 0, none⟩) M.pn pc), .int .i64 h.pos, .int .i64 h.call.code, .int .i64 h.call.a, .int .i64 h.call.b, .int .i64 h.call.c, .int .i64 h.tim, .int .i64 h.whe, .bool h.had, .int .i64 h.cnt, .int .i64 h.beg, .int .i64 h.rep, .int .i64 h.out, .int .i64 v.kin, .int .i64 v.tim, .int .i64 v.gen, .int .i64 v.whe, .int .i64 v.clk] 43)).alloc (by simp) (.cells #[.int .i64 0, .slice none 0 0, .slice none 0 0, .int .i64 0, .int .i64 0, .int .i64 0, .int .i64 0, .int .i64 0, .int .i64 0, .int .i64 0, .bool false, .int .i64 0, .int .i64 0, .int .i64 0, .int .i64 0, .int .i64 0, .int .i64 0, .int .i64 0, .int .i64 0, .int .i64 0] 43)
  have hA := alloc_block (.cells #[.int .i64 0, .slice none 0 0, .slice none 0 0, .int .i64 0, .int .i64 0, .int .i64 0, .int .i64 0, .int .i64 0, .int .i64 0, .int .i64 0, .bool false, .int .i64 0, .int .i64 0, .int .i64 0, .int .i64 0, .int .i64 0, .int .i64 0, .int .i64 0, .int .i64 0, .int .i64 0] 43) (heap_alloc_new w (.cells #[.int .i64 M.c, tv, (.slice (some ⟨pg, 0, none⟩) M.pn pc), .int .i64 h.pos, .int .i64 h.call.code, .int .i64 h.call.a, .int .i64 h.call.b, .int .i64 h.call.c, .int .i64 h.tim, .int .i64 h.whe, .bool h.had, .int .i64 h.cnt, .int .i64 h.beg, .int .i64 h.rep, .int .i64 h.out, .int .i64 v.kin, .int .i64 v.tim, .int .i64 v.gen, .int .i64 v.whe, .int .i64 v.clk] 43))
  have hR := heap_alloc_new (w.alloc (.cells #[.int .i64 M.c, tv, (.slice (some ⟨pg, 0, none⟩) M.pn pc), .int .i64 h.pos, .int .i64 h.call.code, .int .i64 h.call.a, .int .i64 h.call.b, .int .i64 h.call.c, .int .i64 h.tim, .int .i64 h.whe, .bool h.had, .int .i64 h.cnt, .int .i64 h.beg, .int .i64 h.rep, .int .i64 h.out, .int .i64 v.kin, .int .i64 v.tim, .int .i64 v.gen, .int .i64 v.whe, .int .i64 v.clk] 43)) (.cells #[.int .i64 0, .slice none 0 0, .slice none 0 0, .int .i64 0, .int .i64 0, .int .i64 0, .int .i64 0, .int .i64 0, .int .i64 0, .int .i64 0, .bool false, .int .i64 0, .int .i64 0, .int .i64 0, .int .i64 0, .int .i64 0, .int .i64 0, .int .i64 0, .int .i64 0, .int .i64 0] 43)
  rw [show (w.alloc (.cells #[.int .i64 M.c, tv, (.slice (some ⟨pg, 0, none⟩) M.pn pc), .int .i64 h.pos, .int .i64 h.call.code, .int .i64 h.call.a, .int .i64 h.call.b, .int .i64 h.call.c, .int .i64 h.tim, .int .i64 h.whe, .bool h.had, .int .i64 h.cnt, .int .i64 h.beg, .int .i64 h.rep, .int .i64 h.out, .int .i64 v.kin, .int .i64 v.tim, .int .i64 v.gen, .int .i64 v.whe, .int .i64 v.clk] 43)).heap.size = w.heap.size + 1 by simp] at hR
  exact ⟨_, Lib.hid rfl, ho.below k0, Wk.of_new k0 hB, hA, hR, hB, Nat.le_refl _, Nat.le_succ _, by omega, rfl, rfl⟩

set_option maxRecDepth 100000 in
set_option maxHeartbeats 8000000 in
theorem l9Lock_any {B k : Nat} {tv pv : Value} {M : Me} {h : Hd} {v : Et} {w : World} (d q : Int) (hB : B ≤ w.heap.size) (hk : k < M.pn) (hm : OwnMem w B tv pv M) :
    Calls Tryz.prog 37 #[dnV ⟨M, h, v⟩ tv pv, .int .i64 d, .int .i64 (k : Int), .int .i64 q] w (InDn B (lockD ⟨M, h, v⟩ d k q) w) := by
  obtain ⟨pg, pc, V, rfl, ho⟩ := hm.openP hk
  clear hm
  obtain ⟨ta, tc, hta⟩ := ho.t.row.form
  subst hta
  obtain ⟨w1, e1, s1⟩ := DSt.start h v hB ho
  clear ho
  have i0 : (0 : Int) ≤ (k : Int) := by omega
  have i1 : (k : Int) < (M.pn : Int) := by omega
  obtain ⟨⟨ra, rc, _, p0⟩, ⟨p1, p2, _⟩, pf⟩ := s1.pcells hk rfl
  have pf1 := pf (k * 4 + 1)
  obtain ⟨x0, x1, x2, x3, x4, x5, x6, x7, x8, x9, x10, x11, x12, x13, x14, x15, x16, x17, x18, x19, xf0, xf1, xf2, xf3, xf4, xf5, xf6, xf7, xf8, xf9, xf10, xf11, xf12, xf13, xf14, xf15, xf16, xf17, xf18, xf19⟩ := s1.cellsA
  obtain ⟨y0, y1, y2, y3, y4, y5, y6, y7, y8, y9, y10, y11, y12, y13, y14, y15, y16, y17, y18, y19, yf0, yf1, yf2, yf3, yf4, yf5, yf6, yf7, yf8, yf9, yf10, yf11, yf12, yf13, yf14, yf15, yf16, yf17, yf18, yf19⟩ := s1.cellsR
  clear pf
  by_cases hl : (M.p k).l = -1
  case neg =>
    have E := Lib.hid (show lockD ⟨M, h, v⟩ d k q = ⟨M, h, v⟩ from if_neg hl)
    have hlb : ((M.p k).l == -1) = false := by simpa using hl
    clear hl
    go_enter Tryz.func37, Tryz.ntmps37
    go_upto_region 1 with fail
    rw [← e1.out]
    clear e1
    go_upto_region 4 with fail
    clear x0 x1 x2 x3 x4 x5 x6 x7 x8 x9 x10 x11 x12 x13 x14 x15 x16 x17 x18 x19 xf0 xf1 xf2 xf3 xf4 xf5 xf6 xf7 xf8 xf9 xf10 xf11 xf12 xf13 xf14 xf15 xf16 xf17 xf18 xf19 y0 y1 y2 y3 y4 y5 y6 y7 y8 y9 y10 y11 y12 y13 y14 y15 y16 y17 y18 y19 yf0 yf1 yf2 yf3 yf4 yf5 yf6 yf7 yf8 yf9 yf10 yf11 yf12 yf13 yf14 yf15 yf16 yf17 yf18 yf19
    refine wp_region_lit ?_
    refine wpList_load_mid (by rfl) 43 _ (by rfl) _ 0 (by rfl) [.int .i64 M.c, (.slice ta M.tn tc), (.slice (some ⟨pg, 0, none⟩) M.pn pc), .int .i64 h.pos, .int .i64 h.call.code, .int .i64 h.call.a, .int .i64 h.call.b, .int .i64 h.call.c, .int .i64 h.tim, .int .i64 h.whe, .bool h.had, .int .i64 h.cnt, .int .i64 h.beg, .int .i64 h.rep, .int .i64 h.out, .int .i64 v.kin, .int .i64 v.tim, .int .i64 v.gen, .int .i64 v.whe, .int .i64 v.clk] _ (range_of_block s1.a) Tryz.underlying43 rfl done_info ?_
    refine wpList_store_mid (by rfl) 43 _ _ (by rfl) _ 0 #[.int .i64 M.c, (.slice ta M.tn tc), (.slice (some ⟨pg, 0, none⟩) M.pn pc), .int .i64 h.pos, .int .i64 h.call.code, .int .i64 h.call.a, .int .i64 h.call.b, .int .i64 h.call.c, .int .i64 h.tim, .int .i64 h.whe, .bool h.had, .int .i64 h.cnt, .int .i64 h.beg, .int .i64 h.rep, .int .i64 h.out, .int .i64 v.kin, .int .i64 v.tim, .int .i64 v.gen, .int .i64 v.whe, .int .i64 v.clk] (by rfl) (by rfl) s1.there done_info (by simp [Value.oneCell']) ?_
    refine wpList_nil ?_
    go_wp2
    exact bodyPost_ret (v := .agg #[.int .i64 M.c, (.slice ta M.tn tc), (.slice (some ⟨pg, 0, none⟩) M.pn pc), .int .i64 h.pos, .int .i64 h.call.code, .int .i64 h.call.a, .int .i64 h.call.b, .int .i64 h.call.c, .int .i64 h.tim, .int .i64 h.whe, .bool h.had, .int .i64 h.cnt, .int .i64 h.beg, .int .i64 h.rep, .int .i64 h.out, .int .i64 v.kin, .int .i64 v.tim, .int .i64 v.gen, .int .i64 v.whe, .int .i64 v.clk]) (results_cell (cs := [.int .i64 M.c, (.slice ta M.tn tc), (.slice (some ⟨pg, 0, none⟩) M.pn pc), .int .i64 h.pos, .int .i64 h.call.code, .int .i64 h.call.a, .int .i64 h.call.b, .int .i64 h.call.c, .int .i64 h.tim, .int .i64 h.whe, .bool h.had, .int .i64 h.cnt, .int .i64 h.beg, .int .i64 h.rep, .int .i64 h.out, .int .i64 v.kin, .int .i64 v.tim, .int .i64 v.gen, .int .i64 v.whe, .int .i64 v.clk]) rfl rfl s1.lies Tryz.underlying43 rfl done_info) rfl (by rw [E.out]; exact s1.retC)
  have E := Lib.hid (show lockD ⟨M, h, v⟩ d k q = ⟨setPc M k 1 d, { h with pos := q }, v⟩ from if_pos hl)
  rw [hl] at p1
  clear hl
  obtain ⟨w2, e2, s2⟩ := s1.setP (k := k) 1 hk (.inl rfl) d
  obtain ⟨w3, e3, s3⟩ := s2.hand_pos q
  go_enter Tryz.func37, Tryz.ntmps37
  go_upto_region 1 with fail
  rw [← e1.out]
  clear e1
  go_upto_region 3 with fail
  rw [← e2.out]
  clear e2 x0 x1 x2 x3 x4 x5 x6 x7 x8 x9 x10 x11 x12 x13 x14 x15 x16 x17 x18 x19 xf0 xf1 xf2 xf3 xf4 xf5 xf6 xf7 xf8 xf9 xf10 xf11 xf12 xf13 xf14 xf15 xf16 xf17 xf18 xf19 y0 y1 y2 y3 y4 y5 y6 y7 y8 y9 y10 y11 y12 y13 y14 y15 y16 y17 y18 y19 yf0 yf1 yf2 yf3 yf4 yf5 yf6 yf7 yf8 yf9 yf10 yf11 yf12 yf13 yf14 yf15 yf16 yf17 yf18 yf19 p0 p1 p2 pf1 s1
  obtain ⟨x0, x1, x2, x3, x4, x5, x6, x7, x8, x9, x10, x11, x12, x13, x14, x15, x16, x17, x18, x19, xf0, xf1, xf2, xf3, xf4, xf5, xf6, xf7, xf8, xf9, xf10, xf11, xf12, xf13, xf14, xf15, xf16, xf17, xf18, xf19⟩ := s2.cellsA
  go_upto_region 4 with fail
  rw [← e3.out]
  clear e3 x0 x1 x2 x3 x4 x5 x6 x7 x8 x9 x10 x11 x12 x13 x14 x15 x16 x17 x18 x19 xf0 xf1 xf2 xf3 xf4 xf5 xf6 xf7 xf8 xf9 xf10 xf11 xf12 xf13 xf14 xf15 xf16 xf17 xf18 xf19 s2
  refine wp_region_lit ?_
  refine wpList_load_mid (by rfl) 43 _ (by rfl) _ 0 (by rfl) [.int .i64 M.c, (.slice ta M.tn tc), (.slice (some ⟨pg, 0, none⟩) M.pn pc), .int .i64 (⟨q, h.call, h.tim, h.whe, h.had, h.cnt, h.beg, h.rep, h.out⟩ : Hd).pos, .int .i64 (⟨q, h.call, h.tim, h.whe, h.had, h.cnt, h.beg, h.rep, h.out⟩ : Hd).call.code, .int .i64 (⟨q, h.call, h.tim, h.whe, h.had, h.cnt, h.beg, h.rep, h.out⟩ : Hd).call.a, .int .i64 (⟨q, h.call, h.tim, h.whe, h.had, h.cnt, h.beg, h.rep, h.out⟩ : Hd).call.b, .int .i64 (⟨q, h.call, h.tim, h.whe, h.had, h.cnt, h.beg, h.rep, h.out⟩ : Hd).call.c, .int .i64 (⟨q, h.call, h.tim, h.whe, h.had, h.cnt, h.beg, h.rep, h.out⟩ : Hd).tim, .int .i64 (⟨q, h.call, h.tim, h.whe, h.had, h.cnt, h.beg, h.rep, h.out⟩ : Hd).whe, .bool (⟨q, h.call, h.tim, h.whe, h.had, h.cnt, h.beg, h.rep, h.out⟩ : Hd).had, .int .i64 (⟨q, h.call, h.tim, h.whe, h.had, h.cnt, h.beg, h.rep, h.out⟩ : Hd).cnt, .int .i64 (⟨q, h.call, h.tim, h.whe, h.had, h.cnt, h.beg, h.rep, h.out⟩ : Hd).beg, .int .i64 (⟨q, h.call, h.tim, h.whe, h.had, h.cnt, h.beg, h.rep, h.out⟩ : Hd).rep, .int .i64 (⟨q, h.call, h.tim, h.whe, h.had, h.cnt, h.beg, h.rep, h.out⟩ : Hd).out, .int .i64 v.kin, .int .i64 v.tim, .int .i64 v.gen, .int .i64 v.whe, .int .i64 v.clk] _ (range_of_block s3.a) Tryz.underlying43 rfl done_info ?_
  refine wpList_store_mid (by rfl) 43 _ _ (by rfl) _ 0 #[.int .i64 M.c, (.slice ta M.tn tc), (.slice (some ⟨pg, 0, none⟩) M.pn pc), .int .i64 (⟨q, h.call, h.tim, h.whe, h.had, h.cnt, h.beg, h.rep, h.out⟩ : Hd).pos, .int .i64 (⟨q, h.call, h.tim, h.whe, h.had, h.cnt, h.beg, h.rep, h.out⟩ : Hd).call.code, .int .i64 (⟨q, h.call, h.tim, h.whe, h.had, h.cnt, h.beg, h.rep, h.out⟩ : Hd).call.a, .int .i64 (⟨q, h.call, h.tim, h.whe, h.had, h.cnt, h.beg, h.rep, h.out⟩ : Hd).call.b, .int .i64 (⟨q, h.call, h.tim, h.whe, h.had, h.cnt, h.beg, h.rep, h.out⟩ : Hd).call.c, .int .i64 (⟨q, h.call, h.tim, h.whe, h.had, h.cnt, h.beg, h.rep, h.out⟩ : Hd).tim, .int .i64 (⟨q, h.call, h.tim, h.whe, h.had, h.cnt, h.beg, h.rep, h.out⟩ : Hd).whe, .bool (⟨q, h.call, h.tim, h.whe, h.had, h.cnt, h.beg, h.rep, h.out⟩ : Hd).had, .int .i64 (⟨q, h.call, h.tim, h.whe, h.had, h.cnt, h.beg, h.rep, h.out⟩ : Hd).cnt, .int .i64 (⟨q, h.call, h.tim, h.whe, h.had, h.cnt, h.beg, h.rep, h.out⟩ : Hd).beg, .int .i64 (⟨q, h.call, h.tim, h.whe, h.had, h.cnt, h.beg, h.rep, h.out⟩ : Hd).rep, .int .i64 (⟨q, h.call, h.tim, h.whe, h.had, h.cnt, h.beg, h.rep, h.out⟩ : Hd).out, .int .i64 v.kin, .int .i64 v.tim, .int .i64 v.gen, .int .i64 v.whe, .int .i64 v.clk] (by rfl) (by rfl) s3.there done_info (by simp [Value.oneCell']) ?_
  refine wpList_nil ?_
  go_wp2
  exact bodyPost_ret (v := .agg #[.int .i64 M.c, (.slice ta M.tn tc), (.slice (some ⟨pg, 0, none⟩) M.pn pc), .int .i64 (⟨q, h.call, h.tim, h.whe, h.had, h.cnt, h.beg, h.rep, h.out⟩ : Hd).pos, .int .i64 (⟨q, h.call, h.tim, h.whe, h.had, h.cnt, h.beg, h.rep, h.out⟩ : Hd).call.code, .int .i64 (⟨q, h.call, h.tim, h.whe, h.had, h.cnt, h.beg, h.rep, h.out⟩ : Hd).call.a, .int .i64 (⟨q, h.call, h.tim, h.whe, h.had, h.cnt, h.beg, h.rep, h.out⟩ : Hd).call.b, .int .i64 (⟨q, h.call, h.tim, h.whe, h.had, h.cnt, h.beg, h.rep, h.out⟩ : Hd).call.c, .int .i64 (⟨q, h.call, h.tim, h.whe, h.had, h.cnt, h.beg, h.rep, h.out⟩ : Hd).tim, .int .i64 (⟨q, h.call, h.tim, h.whe, h.had, h.cnt, h.beg, h.rep, h.out⟩ : Hd).whe, .bool (⟨q, h.call, h.tim, h.whe, h.had, h.cnt, h.beg, h.rep, h.out⟩ : Hd).had, .int .i64 (⟨q, h.call, h.tim, h.whe, h.had, h.cnt, h.beg, h.rep, h.out⟩ : Hd).cnt, .int .i64 (⟨q, h.call, h.tim, h.whe, h.had, h.cnt, h.beg, h.rep, h.out⟩ : Hd).beg, .int .i64 (⟨q, h.call, h.tim, h.whe, h.had, h.cnt, h.beg, h.rep, h.out⟩ : Hd).rep, .int .i64 (⟨q, h.call, h.tim, h.whe, h.had, h.cnt, h.beg, h.rep, h.out⟩ : Hd).out, .int .i64 v.kin, .int .i64 v.tim, .int .i64 v.gen, .int .i64 v.whe, .int .i64 v.clk]) (results_cell (cs := [.int .i64 M.c, (.slice ta M.tn tc), (.slice (some ⟨pg, 0, none⟩) M.pn pc), .int .i64 (⟨q, h.call, h.tim, h.whe, h.had, h.cnt, h.beg, h.rep, h.out⟩ : Hd).pos, .int .i64 (⟨q, h.call, h.tim, h.whe, h.had, h.cnt, h.beg, h.rep, h.out⟩ : Hd).call.code, .int .i64 (⟨q, h.call, h.tim, h.whe, h.had, h.cnt, h.beg, h.rep, h.out⟩ : Hd).call.a, .int .i64 (⟨q, h.call, h.tim, h.whe, h.had, h.cnt, h.beg, h.rep, h.out⟩ : Hd).call.b, .int .i64 (⟨q, h.call, h.tim, h.whe, h.had, h.cnt, h.beg, h.rep, h.out⟩ : Hd).call.c, .int .i64 (⟨q, h.call, h.tim, h.whe, h.had, h.cnt, h.beg, h.rep, h.out⟩ : Hd).tim, .int .i64 (⟨q, h.call, h.tim, h.whe, h.had, h.cnt, h.beg, h.rep, h.out⟩ : Hd).whe, .bool (⟨q, h.call, h.tim, h.whe, h.had, h.cnt, h.beg, h.rep, h.out⟩ : Hd).had, .int .i64 (⟨q, h.call, h.tim, h.whe, h.had, h.cnt, h.beg, h.rep, h.out⟩ : Hd).cnt, .int .i64 (⟨q, h.call, h.tim, h.whe, h.had, h.cnt, h.beg, h.rep, h.out⟩ : Hd).beg, .int .i64 (⟨q, h.call, h.tim, h.whe, h.had, h.cnt, h.beg, h.rep, h.out⟩ : Hd).rep, .int .i64 (⟨q, h.call, h.tim, h.whe, h.had, h.cnt, h.beg, h.rep, h.out⟩ : Hd).out, .int .i64 v.kin, .int .i64 v.tim, .int .i64 v.gen, .int .i64 v.whe, .int .i64 v.clk]) rfl rfl s3.lies Tryz.underlying43 rfl done_info) rfl (by rw [E.out]; exact s3.retC)


set_option maxRecDepth 100000 in
set_option maxHeartbeats 8000000 in
theorem l9Unlock_any {B k : Nat} {tv pv : Value} {M : Me} {w : World} (d : Int) (hB : B ≤ w.heap.size) (hk : k < M.pn) (hm : OwnMem w B tv pv M) :
    Calls Tryz.prog 39 #[meV M.c tv pv, .int .i64 d, .int .i64 (k : Int)] w (InMe B (unlockM M d k) w) := by
  obtain ⟨pg, pc, V, rfl, ho⟩ := hm.openP hk
  clear hm
  obtain ⟨ta, tc, hta⟩ := ho.t.row.form
  subst hta
  obtain ⟨w1, e1, s1⟩ := MSt.start hB ho
  clear ho
  have i0 : (0 : Int) ≤ (k : Int) := by omega
  have i1 : (k : Int) < (M.pn : Int) := by omega
  obtain ⟨⟨ra, rc, _, p0⟩, ⟨p1, p2, _⟩, pf⟩ := s1.pcells hk rfl
  have pf1 := pf (k * 4 + 1)
  obtain ⟨⟨x0, x1, x2, xf0, xf1, xf2⟩, y0, y1, y2, yf0, yf1, yf2⟩ := s1.cells
  clear pf
  by_cases hl : (M.p k).l = d
  case neg =>
    have E := Lib.hid (show unlockM M d k = M from if_neg hl)
    have hlb : ((M.p k).l == d) = false := by simpa using hl
    clear hl
    go_enter Tryz.func39, Tryz.ntmps39
    go_upto_region 1 with fail
    rw [← e1.out]
    clear e1
    go_wp2
    exact bodyPost_ret (v := meV M.c (.slice ta M.tn tc) (.slice (some ⟨pg, 0, none⟩) M.pn pc)) (by simp [results, Tryz.results39, go_sem, y0, y1, y2]) rfl (by rw [E.out]; exact s1.ret _ _ _)
  have E := Lib.hid (show unlockM M d k = setPc M k 1 (-1) from if_pos hl)
  subst hl
  have hlb : ((M.p k).l == (M.p k).l) = true := by simp
  obtain ⟨w2, e2, s2⟩ := s1.setP (k := k) 1 hk (.inl rfl) (-1)
  go_enter Tryz.func39, Tryz.ntmps39
  go_upto_region 1 with fail
  rw [← e1.out]
  clear e1
  go_upto_region 3 with fail
  rw [← e2.out]
  clear e2 x0 x1 x2 xf0 xf1 xf2 y0 y1 y2 yf0 yf1 yf2 p0 p1 p2 pf1 s1 hlb
  obtain ⟨⟨x0, x1, x2, xf0, xf1, xf2⟩, y0, y1, y2, yf0, yf1, yf2⟩ := s2.cells
  go_wp2
  exact bodyPost_ret (v := meV M.c (.slice ta M.tn tc) (.slice (some ⟨pg, 0, none⟩) M.pn pc)) (by simp [results, Tryz.results39, go_sem, y0, y1, y2]) rfl (by rw [E.out]; exact s2.ret _ _ _)

end Go.Proofs.YtcfkginbkammoaaGreat

/-
  Is a step fit (spec, chapter 9).
-/
namespace Go.Proofs.YtcfkginbkammoaaGreat
open Go.Deep Go.ChangeShapes Go.WideShapes Go.ChangeAt Go.RowKit Go.Joins
set_option linter.unusedVariables false

set_option maxRecDepth 100000 in
set_option maxHeartbeats 8000000 in
theorem spFit_any (a b c d : Int) (h : Hd) {tv pv : Value} {M : Me} {w : World} (hs : sizeM M ≤ 1048576) (hm : MemAt w tv pv M) :
    Calls Tryz.prog 33 #[.agg #[.int .i64 a, .int .i64 b, .int .i64 c], meV M.c tv pv, .int .i64 d, hdV h] w fun e w' => e = .returned (.bool (stepFit a b c d M h)) ∧ Below w.heap.size w w' := by
  obtain ⟨va, vc, qa, qc, rfl, rfl⟩ := hm.form
  have hn := (sizeM_le hs).1
  have k0 := ((((Below.refl w.heap.size w).alloc (Nat.le_refl _) (.cells #[.int .i64 a, .int .i64 b, .int .i64 c] 46)).alloc (by simp) (.cells #[.int .i64 M.c, .slice va M.tn vc, .slice qa M.pn qc] 36)).alloc (by simp; omega) (.cells #[.int .i64 h.pos, .int .i64 h.call.code, .int .i64 h.call.a, .int .i64 h.call.b, .int .i64 h.call.c, .int .i64 h.tim, .int .i64 h.whe, .bool h.had, .int .i64 h.cnt, .int .i64 h.beg, .int .i64 h.rep, .int .i64 h.out] 39))
  have kk := Below.refl (((w.alloc (.cells #[.int .i64 a, .int .i64 b, .int .i64 c] 46)).alloc (.cells #[.int .i64 M.c, .slice va M.tn vc, .slice qa M.pn qc] 36)).alloc (.cells #[.int .i64 h.pos, .int .i64 h.call.code, .int .i64 h.call.a, .int .i64 h.call.b, .int .i64 h.call.c, .int .i64 h.tim, .int .i64 h.whe, .bool h.had, .int .i64 h.cnt, .int .i64 h.beg, .int .i64 h.rep, .int .i64 h.out] 39)).heap.size (((w.alloc (.cells #[.int .i64 a, .int .i64 b, .int .i64 c] 46)).alloc (.cells #[.int .i64 M.c, .slice va M.tn vc, .slice qa M.pn qc] 36)).alloc (.cells #[.int .i64 h.pos, .int .i64 h.call.code, .int .i64 h.call.a, .int .i64 h.call.b, .int .i64 h.call.c, .int .i64 h.tim, .int .i64 h.whe, .bool h.had, .int .i64 h.cnt, .int .i64 h.beg, .int .i64 h.rep, .int .i64 h.out] 39))
  have HM := Lib.hid (fun (w' : World) (hb : Below w.heap.size w w') => hm.below hb)
  clear hm
  cases h1 : memOkB a b c M
  · skip
    go_enter Tryz.func33, Tryz.ntmps33
    go_wp2_with (first
      | (go_at_call 62; refine (spMemOk_any _ _ _ hs (HM.out _ (k0.trans (kk.mono k0.size)))).mono ?_; rintro e w1 ⟨rfl, hb⟩; replace kk := kk.trans (hb.mono kk.size); clear hb; (try clear hc hf); obtain ⟨hc, hf⟩ := bcell kk)
      | (go_at_call 63; refine (spHandOk_any _ _ _ _ _).mono ?_; rintro e w1 ⟨rfl, hb⟩; replace kk := kk.trans (hb.mono kk.size); clear hb; (try clear hc hf); obtain ⟨hc, hf⟩ := bcell kk)
      | (go_at_call 64; refine (l1Worker_any _ _ _ _ _).mono ?_; rintro e w1 ⟨rfl, hb⟩; replace kk := kk.trans (hb.mono kk.size); clear hb; (try clear hc hf); obtain ⟨hc, hf⟩ := bcell kk)
      | (go_at_call 65; refine (l5Has_any ⟨_, _, rfl⟩ hn _ _).mono ?_; rintro e w1 ⟨rfl, hb⟩; replace kk := kk.trans (hb.mono kk.size); clear hb; (try clear hc hf); obtain ⟨hc, hf⟩ := bcell kk))
    go_ret
    exact ⟨ret_bool' (by simp [stepFit, h1]), k0.trans (kk.mono k0.size)⟩
  cases h2 : handB a b c h
  · skip
    go_enter Tryz.func33, Tryz.ntmps33
    go_wp2_with (first
      | (go_at_call 62; refine (spMemOk_any _ _ _ hs (HM.out _ (k0.trans (kk.mono k0.size)))).mono ?_; rintro e w1 ⟨rfl, hb⟩; replace kk := kk.trans (hb.mono kk.size); clear hb; (try clear hc hf); obtain ⟨hc, hf⟩ := bcell kk)
      | (go_at_call 63; refine (spHandOk_any _ _ _ _ _).mono ?_; rintro e w1 ⟨rfl, hb⟩; replace kk := kk.trans (hb.mono kk.size); clear hb; (try clear hc hf); obtain ⟨hc, hf⟩ := bcell kk)
      | (go_at_call 64; refine (l1Worker_any _ _ _ _ _).mono ?_; rintro e w1 ⟨rfl, hb⟩; replace kk := kk.trans (hb.mono kk.size); clear hb; (try clear hc hf); obtain ⟨hc, hf⟩ := bcell kk)
      | (go_at_call 65; refine (l5Has_any ⟨_, _, rfl⟩ hn _ _).mono ?_; rintro e w1 ⟨rfl, hb⟩; replace kk := kk.trans (hb.mono kk.size); clear hb; (try clear hc hf); obtain ⟨hc, hf⟩ := bcell kk))
    go_ret
    exact ⟨ret_bool' (by simp [stepFit, h1, h2]), k0.trans (kk.mono k0.size)⟩
  cases h3 : workB a b c d
  · skip
    go_enter Tryz.func33, Tryz.ntmps33
    go_wp2_with (first
      | (go_at_call 62; refine (spMemOk_any _ _ _ hs (HM.out _ (k0.trans (kk.mono k0.size)))).mono ?_; rintro e w1 ⟨rfl, hb⟩; replace kk := kk.trans (hb.mono kk.size); clear hb; (try clear hc hf); obtain ⟨hc, hf⟩ := bcell kk)
      | (go_at_call 63; refine (spHandOk_any _ _ _ _ _).mono ?_; rintro e w1 ⟨rfl, hb⟩; replace kk := kk.trans (hb.mono kk.size); clear hb; (try clear hc hf); obtain ⟨hc, hf⟩ := bcell kk)
      | (go_at_call 64; refine (l1Worker_any _ _ _ _ _).mono ?_; rintro e w1 ⟨rfl, hb⟩; replace kk := kk.trans (hb.mono kk.size); clear hb; (try clear hc hf); obtain ⟨hc, hf⟩ := bcell kk)
      | (go_at_call 65; refine (l5Has_any ⟨_, _, rfl⟩ hn _ _).mono ?_; rintro e w1 ⟨rfl, hb⟩; replace kk := kk.trans (hb.mono kk.size); clear hb; (try clear hc hf); obtain ⟨hc, hf⟩ := bcell kk))
    go_ret
    exact ⟨ret_bool' (by simp [stepFit, h1, h2, h3]), k0.trans (kk.mono k0.size)⟩
  by_cases h4 : h.tim = -1
  case pos =>
    have h4b : (h.tim == -1) = true := by simpa using h4
    have H4 := Lib.hid h4
    clear h4
    go_enter Tryz.func33, Tryz.ntmps33
    go_wp2_with (first
      | (go_at_call 62; refine (spMemOk_any _ _ _ hs (HM.out _ (k0.trans (kk.mono k0.size)))).mono ?_; rintro e w1 ⟨rfl, hb⟩; replace kk := kk.trans (hb.mono kk.size); clear hb; (try clear hc hf); obtain ⟨hc, hf⟩ := bcell kk)
      | (go_at_call 63; refine (spHandOk_any _ _ _ _ _).mono ?_; rintro e w1 ⟨rfl, hb⟩; replace kk := kk.trans (hb.mono kk.size); clear hb; (try clear hc hf); obtain ⟨hc, hf⟩ := bcell kk)
      | (go_at_call 64; refine (l1Worker_any _ _ _ _ _).mono ?_; rintro e w1 ⟨rfl, hb⟩; replace kk := kk.trans (hb.mono kk.size); clear hb; (try clear hc hf); obtain ⟨hc, hf⟩ := bcell kk)
      | (go_at_call 65; refine (l5Has_any ⟨_, _, rfl⟩ hn _ _).mono ?_; rintro e w1 ⟨rfl, hb⟩; replace kk := kk.trans (hb.mono kk.size); clear hb; (try clear hc hf); obtain ⟨hc, hf⟩ := bcell kk))
    go_ret
    exact ⟨ret_bool' (by simp [stepFit, h1, h2, h3, H4.out]), k0.trans (kk.mono k0.size)⟩
  have h4b : (h.tim == -1) = false := by simpa using h4
  go_enter Tryz.func33, Tryz.ntmps33
  go_wp2_with (first
    | (go_at_call 62; refine (spMemOk_any _ _ _ hs (HM.out _ (k0.trans (kk.mono k0.size)))).mono ?_; rintro e w1 ⟨rfl, hb⟩; replace kk := kk.trans (hb.mono kk.size); clear hb; (try clear hc hf); obtain ⟨hc, hf⟩ := bcell kk)
    | (go_at_call 63; refine (spHandOk_any _ _ _ _ _).mono ?_; rintro e w1 ⟨rfl, hb⟩; replace kk := kk.trans (hb.mono kk.size); clear hb; (try clear hc hf); obtain ⟨hc, hf⟩ := bcell kk)
    | (go_at_call 64; refine (l1Worker_any _ _ _ _ _).mono ?_; rintro e w1 ⟨rfl, hb⟩; replace kk := kk.trans (hb.mono kk.size); clear hb; (try clear hc hf); obtain ⟨hc, hf⟩ := bcell kk)
    | (go_at_call 65; refine (l5Has_any ⟨_, _, rfl⟩ hn _ _).mono ?_; rintro e w1 ⟨rfl, hb⟩; replace kk := kk.trans (hb.mono kk.size); clear hb; (try clear hc hf); obtain ⟨hc, hf⟩ := bcell kk))
  go_ret
  exact ⟨ret_bool' (by simp [stepFit, h1, h2, h3, h4]), k0.trans (kk.mono k0.size)⟩

end Go.Proofs.YtcfkginbkammoaaGreat

/-
  What is told of a timer; is a step fit (spec, chapter 9).
-/
namespace Go.Proofs.YtcfkginbkammoaaGreat
open Go.Deep Go.ChangeShapes Go.WideShapes Go.ChangeAt Go.RowKit Go.Joins
set_option linter.unusedVariables false

set_option maxRecDepth 100000 in
set_option maxHeartbeats 8000000 in
theorem l9Ev_any {B t : Nat} {tv pv : Value} {M : Me} {w : World} (kind when : Int) (ht : t < M.tn) (hm : OwnMem w B tv pv M) :
    Calls Tryz.prog 69 #[meV M.c tv pv, .int .i64 kind, .int .i64 (t : Int), .int .i64 when] w fun e w' => e = .returned (etV (evI M kind t when)) ∧ Below w.heap.size w w' := by
  obtain ⟨pa, pc, hpv⟩ := hm.2.row.form
  subst hpv
  rcases hm.1 with ⟨h0, _⟩ | ⟨tg, tc, rfl, hO⟩
  · omega
  have ge := hO.cells ht 5 (by decide)
  have lt := hO.lt
  clear hm hO
  have k0 := ((Below.refl w.heap.size w).alloc (Nat.le_refl _) (memO M.c (.slice (some ⟨tg, 0, none⟩) M.tn tc) (.slice pa M.pn pc) 36)).alloc (by simp) (.cells #[.int .i64 0, .int .i64 0, .int .i64 0, .int .i64 0, .int .i64 0] 41)
  have hA := alloc_block (.cells #[.int .i64 0, .int .i64 0, .int .i64 0, .int .i64 0, .int .i64 0] 41) (heap_alloc_new w (memO M.c (.slice (some ⟨tg, 0, none⟩) M.tn tc) (.slice pa M.pn pc) 36))
  have hR := heap_alloc_new (w.alloc (memO M.c (.slice (some ⟨tg, 0, none⟩) M.tn tc) (.slice pa M.pn pc) 36)) (.cells #[.int .i64 0, .int .i64 0, .int .i64 0, .int .i64 0, .int .i64 0] 41)
  rw [show (w.alloc (memO M.c (.slice (some ⟨tg, 0, none⟩) M.tn tc) (.slice pa M.pn pc) 36)).heap.size = w.heap.size + 1 by simp] at hR
  have gE := (k0.cell (p := ⟨tg, t * 8 + 5, none⟩) lt).trans ge
  have i4 : (0 : Int) ≤ (t : Int) := by omega
  have i5 : (t : Int) < (M.tn : Int) := by omega
  clear ge
  go_enter Tryz.func69, Tryz.ntmps69
  go_upto_region 1 with fail
  generalize ((w.alloc (memO M.c (.slice (some ⟨tg, 0, none⟩) M.tn tc) (.slice pa M.pn pc) 36)).alloc (.cells #[.int .i64 0, .int .i64 0, .int .i64 0, .int .i64 0, .int .i64 0] 41)) = W1 at k0 hA hR gE ⊢
  obtain ⟨x0, x1, x2, _, _, _⟩ := three hA
  have r0 := cell_of_block hR 0; have r1 := cell_of_block hR 1; have r2 := cell_of_block hR 2; have r3 := cell_of_block hR 3; have r4 := cell_of_block hR 4
  have f0 := unfrozen_of_block hR 0; have f1 := unfrozen_of_block hR 1; have f2 := unfrozen_of_block hR 2; have f3 := unfrozen_of_block hR 3; have f4 := unfrozen_of_block hR 4
  simp at r0 r1 r2 r3 r4
  have hne : ¬ tg = w.heap.size + 1 := by omega
  have hne2 : ¬ w.heap.size + 1 = tg := by omega
  go_region_held3 (fun w' => w'.cell? ⟨w.heap.size, 0, none⟩ = some (.int .i64 M.c) ∧ w'.cell? ⟨w.heap.size, 1, none⟩ = some (.slice (some ⟨tg, 0, none⟩) M.tn tc) ∧ w'.cell? ⟨tg, t * 8 + 5, none⟩ = some (.int .i64 (tmAt (M.t t) 5)))
    (first | with_reducible exact ⟨x0, x1, gE⟩ | (simp only [World.cell?_drew]; with_reducible exact ⟨x0, x1, gE⟩) | go_keep) (fail)
  all_goals
    have kf := (((((k0.setCell (p := ⟨w.heap.size + 1, 0, none⟩) (Nat.le_succ _) (.int .i64 kind)).setCell (p := ⟨w.heap.size + 1, 1, none⟩) (Nat.le_succ _) (.int .i64 (t : Int))).setCell (p := ⟨w.heap.size + 1, 2, none⟩) (Nat.le_succ _) (.int .i64 (tmAt (M.t t) 5))).setCell (p := ⟨w.heap.size + 1, 3, none⟩) (Nat.le_succ _) (.int .i64 when)).setCell (p := ⟨w.heap.size + 1, 4, none⟩) (Nat.le_succ _) (.int .i64 M.c)).drew
    go_wp2
    exact bodyPost_ret (v := etV (evI M kind t when)) (by simp [results, Tryz.results69, go_sem, r0, r1, r2, r3, r4, evI, tmAt]) rfl ⟨rfl, kf⟩

end Go.Proofs.YtcfkginbkammoaaGreat

/-
  A region that draws its order and whose one operation 't' waits for all that is taken first: the condition S need not hold behind 't'.
-/
namespace Go.Proofs.YtcfkginbkammoaaGreat
open Go Go.RowKit Go.Joins
set_option linter.unusedVariables false

section
variable {P : Program} {ops : Array Oper} {Q : Exit → Act → World → Prop} {md : Region.Mode} {S : World → Prop} {t : Nat}
def wpAnyT (P : Program) (md : Region.Mode) (ops : Array Oper) (Q : Exit → Act → World → Prop) (S : World → Prop) (t : Nat) : Nat → Array Bool → Act → World → Prop
  | 0, listed, a, w => Region.ready md ops listed = [] ∧ Q .normal a w
  | fuel + 1, listed, a, w =>
    (Region.ready md ops listed = [] → Q .normal a w) ∧
    ∀ i ∈ Region.ready md ops listed, wpOp P ops Q i (fun a' w' => (i = t ∨ S w') ∧ wpAnyT P md ops Q S t fuel (listed.setIfInBounds i true) a' w') a w
theorem wpAny_of_T : ∀ (fuel : Nat) (listed : Array Bool) (a : Act) (w : World), wpAnyT P md ops Q S t fuel listed a w → wpAny P md ops Q fuel listed a w
  | 0, _, _, _, h => h
  | fuel + 1, _, _, _, h => ⟨h.1, fun i hi => wpOp_mono (fun a' w' h' => wpAny_of_T fuel _ a' w' h'.2) (h.2 i hi)⟩
theorem wpAnyT_first {i : Nat} {oi : Oper} {v : Value} (hi : ops[i]? = some oi) (hsel : ∀ (j : Nat) (o : Oper) cs b, ops[j]? = some o → o.op ≠ .select cs b)
    (hQ : ∀ c a w, Q (.panic c) (a.put oi.dst v) w → Q (.panic c) a w) (hT : Region.waitsFor md ops t i = true) :
    ∀ (fuel : Nat) (listed : Array Bool) (a : Act) (w : World),
      (∀ j oj, ops[j]? = some oj → j ≠ i → listed.getD j true = false → (∀ e ∈ oj.after, Region.binds md e = true → e.on ≠ i) → oi.apart ops oj = true) →
      i ∈ Region.ready md ops listed → YieldsIf P ops S oi v a → S w →
      wpAnyT P md ops Q S t fuel (listed.setIfInBounds i true) (a.put oi.dst v) w → wpAnyT P md ops Q S t (fuel + 1) listed a w := by
  intro fuel
  induction fuel with
  | zero =>
    intro listed a w _ hr hy hS H
    refine ⟨fun h => (by rw [h] at hr; cases hr), fun j hj => ?_⟩
    by_cases hji : j = i
    · subst hji; exact hy.wpOp hi hS ⟨.inr hS, H⟩
    · have := ready_mono hj hji
      rw [H.1] at this
      cases this
  | succ fuel ih =>
    intro listed a w hfree hr hy hS H
    refine ⟨fun h => (by rw [h] at hr; cases hr), fun j hj => ?_⟩
    by_cases hji : j = i
    · subst hji; exact hy.wpOp hi hS ⟨.inr hS, H⟩
    · have h1 := H.2 j (ready_mono hj hji)
      obtain ⟨hjun, oj, hoj, hall⟩ := mem_ready.1 hj
      have hnot : ∀ e ∈ oj.after, Region.binds md e = true → e.on ≠ i := fun e he hb heq => by
        have h1 := hall e he hb
        have h0 := (mem_ready.1 hr).1
        rw [heq] at h1
        rcases Nat.lt_or_ge i listed.size with h' | h'
        · simp [h'] at h0 h1; rw [h0] at h1; cases h1
        · simp [Array.getElem?_eq_none h'] at h1
      have hjt : j ≠ t := fun e => by
        subst e
        obtain ⟨oj', hoj', e, he, hb, heq⟩ := Region.waitsFor_spec hT
        rw [hoj] at hoj'
        injection hoj' with e1
        subst e1
        exact hnot e he hb heq
      have h2 := wpOp_putIf hoj (hfree j oj hoj hji hjun hnot) (fun cs b => hsel i oi cs b hi) (fun cs b => hsel j oj cs b hoj) hQ hy h1
      have hfree' : ∀ k ok, ops[k]? = some ok → k ≠ i → (listed.setIfInBounds j true).getD k true = false →
          (∀ e ∈ ok.after, Region.binds md e = true → e.on ≠ i) → oi.apart ops ok = true := fun k ok hk hki hun hno => by
        refine hfree k ok hk hki ?_ hno
        by_cases hjk : j = k
        · subst hjk; exact hjun
        · rw [getD_set_ne true hjk] at hun; exact hun
      refine wpOp_mono (fun a' w' h3 => ⟨h3.2.1, ih (listed.setIfInBounds j true) a' w' hfree' (ready_mono hr (Ne.symm hji)) h3.1 (h3.2.1.resolve_left hjt) ?_⟩) h2
      rw [Array.setIfInBounds_comm _ _ hji]
      exact h3.2.2
/-- take number i first -/
theorem wpAnyT_take {i : Nat} {oi : Oper} {v : Value} {fuel : Nat} {listed : Array Bool} {a : Act} {w : World} (hi : ops[i]? = some oi)
    (hs : Region.noSelect ops = true) (hf : Region.free md ops listed i = true) (hr : (Region.ready md ops listed).contains i = true) (hT : Region.waitsFor md ops t i = true)
    (hQ : ∀ c a w, Q (.panic c) (a.put oi.dst v) w → Q (.panic c) a w) (hy : YieldsIf P ops S oi v a) (hS : S w)
    (h : wpAnyT P md ops Q S t fuel (listed.setIfInBounds i true) (a.put oi.dst v) w) : wpAnyT P md ops Q S t (fuel + 1) listed a w :=
  wpAnyT_first hi (Region.noSelect_spec hs) hQ hT fuel listed a w (Region.free_spec hi hf) (by simpa using hr) hy hS h
/-- only number i may come up -/
theorem wpAnyT_one {i : Nat} {o : Oper} {fuel : Nat} {listed : Array Bool} {a : Act} {w : World} (hr : Region.ready md ops listed = [i]) (hi : ops[i]? = some o) (hw : Region.wanted o (yielded ops a.tmps) = true)
    (h : ∀ K : Act → World → Prop, (∀ a' w', (i = t ∨ S w') → wpAnyT P md ops Q S t fuel (listed.setIfInBounds i true) a' w' → K a' w') → o.wp P a w K Q) : wpAnyT P md ops Q S t (fuel + 1) listed a w := by
  refine ⟨fun h0 => (by rw [hr] at h0; cases h0), fun j hj => ?_⟩
  rw [hr] at hj
  obtain rfl : j = i := by simpa using hj
  unfold wpOp
  simp only [hi, hw, if_true]
  exact .inl (h _ fun a' w' h1 h2 => ⟨h1, h2⟩)
theorem wpAnyT_done {listed : Array Bool} {a : Act} {w : World} (hr : Region.ready md ops listed = []) (h : Q .normal a w) : ∀ fuel, wpAnyT P md ops Q S t fuel listed a w
  | 0 => ⟨hr, h⟩
  | _ + 1 => ⟨fun _ => h, by rw [hr]; simp⟩
theorem wp_region_T {id : Nat} {a : Act} {w : World} (S : World → Prop) (t : Nat) (hm : P.follows .mixedOrders = true)
    (h : wpAnyT P .any ops Q S t ops.size (Array.replicate ops.size false) a w.drew) : (Code.region id ops true).wp P Q a w :=
  wp_region_any hm (wpAny_of_T _ _ _ _ h)
end

end Go.Proofs.YtcfkginbkammoaaGreat

/-
  A timer is made (spec, chapter 9).
-/
namespace Go.Proofs.YtcfkginbkammoaaGreat
open Go.Deep Go.ChangeShapes Go.WideShapes Go.ChangeAt Go.RowKit Go.Joins
set_option linter.unusedVariables false

theorem InDn.up {B : Nat} {D : Dn} {w0 w w' : World} {e : Ending} (h : InDn B D w e w') (k : Wk B w0 w) : InDn B D w0 e w' := by
  obtain ⟨tv, pv, e1, ho, hk⟩ := h
  exact ⟨tv, pv, e1, ho, k.trans hk⟩
theorem InDnB.up {B : Nat} {D : Dn} {q : Bool} {w0 w w' : World} {e : Ending} (h : InDnB B D q w e w') (k : Wk B w0 w) : InDnB B D q w0 e w' := by
  obtain ⟨tv, pv, e1, ho, hk⟩ := h
  exact ⟨tv, pv, e1, ho, k.trans hk⟩
theorem OwnTRow.blk {w : World} {B n : Nat} {v : Value} {f : Tms} (h : OwnTRow w B v n f) : ∀ x, v.ownBlock = some x → B ≤ x ∧ ∃ cs : Array Value, w.heap[x]? = some (.cells cs 90 (0, 0)) := by
  intro x hx
  rcases h with ⟨_, rfl⟩ | ⟨g, cap, rfl, h1, _, _, cur, hh, _⟩
  · cases hx
  · cases hx
    exact ⟨h1, cur, hh⟩
theorem OwnRow.blk {w : World} {B n : Nat} {v : Value} {f : Slots} (h : OwnRow w B v n f) : ∀ x, v.ownBlock = some x → x < w.heap.size ∧ ∃ cs : Array Value, w.heap[x]? = some (.cells cs 133 (0, 0)) := by
  intro x hx
  rcases h with ⟨_, rfl⟩ | ⟨g, cap, rfl, h1, _, _, cur, hh, _⟩
  · cases hx
  · cases hx
    exact ⟨lt_of_block hh, cur, hh⟩
/-- the list of timers has grown by one -/
theorem OpenMem.grownT {w w' : World} {B pg pc : Nat} {tv v' : Value} {V : Nat → Value} {M : Me} {T : Tm} (h : OpenMem w B tv pg pc V M) (hg : w.grownBy w' tv.ownBlock)
    (ho : w'.ownsRow B 90 8 v' (M.tn + 1) (cellsT M.t M.tn ++ cellsT (fun _ => T) 1)) : OpenMem w' B v' pg pc V (addTm M T) := by
  have hb := h.t.blk
  rw [cellsT_push] at ho
  refine ⟨ownT_of_row ho, ?_, ?_⟩
  · exact h.l.grown hg fun x hx e => by
      obtain ⟨_, cs, hc⟩ := hb x hx
      obtain ⟨cs', hc'⟩ := h.l.hh
      subst e
      rw [hc] at hc'
      injection hc' with e1
      injection e1 with _ e2
      exact absurd e2 (by decide)
  · refine h.h.other fun i hi x hx => hg.block x ?_ ?_
    · exact ((h.h.1 i hi).blk x hx).1
    · intro e
      obtain ⟨_, cs, hc⟩ := hb x e.symm
      obtain ⟨_, cs', hc'⟩ := (h.h.1 i hi).blk x hx
      rw [hc] at hc'
      injection hc' with e1
      injection e1 with _ e2
      exact absurd e2 (by decide)
theorem Wk.grownT {w0 w w' : World} {B n : Nat} {tv : Value} {f : Tms} (k : Wk B w0 w) (h : OwnTRow w B tv n f) (hg : w.grownBy w' tv.ownBlock) (hB : B ≤ w.heap.size) : Wk B w0 w' :=
  k.trans ⟨b_grownO hg (fun x hx => (h.blk x hx).1) hB, KeepsBut.of_grown hg fun x hx => by
    obtain ⟨_, cs, hc⟩ := h.blk x hx
    exact ⟨cs, _, hc, by decide⟩⟩

set_option maxRecDepth 100000 in
set_option maxHeartbeats 8000000 in
theorem l9Alloc_any {B : Nat} {tv pv : Value} {M : Me} {h : Hd} {v : Et} {w : World} (a b c : Int) (hB : B ≤ w.heap.size) (hk : 0 < M.pn) (hn : M.tn ≤ 1048576) (hm : OwnMem w B tv pv M) :
    Calls Tryz.prog 36 #[.agg #[.int .i64 a, .int .i64 b, .int .i64 c], dnV ⟨M, h, v⟩ tv pv] w (InDn B (allocD c ⟨M, h, v⟩) w) := by
  have kP := (Below.refl w.heap.size w).alloc (Nat.le_refl _) (.cells #[.int .i64 a, .int .i64 b, .int .i64 c] 46)
  have KP : Wk B w (w.alloc (.cells #[.int .i64 a, .int .i64 b, .int .i64 c] 46)) := Wk.of_new kP hB
  have hP := heap_alloc_new w (.cells #[.int .i64 a, .int .i64 b, .int .i64 c] 46)
  have hB1 : B ≤ (w.alloc (.cells #[.int .i64 a, .int .i64 b, .int .i64 c] 46)).heap.size := Nat.le_trans hB kP.size
  obtain ⟨pg, pc, V, rfl, ho⟩ := (hm.below kP).openP hk
  clear hm
  obtain ⟨ta, tc, hta⟩ := ho.t.row.form
  subst hta
  obtain ⟨w1, e1, s1⟩ := DSt.start h v hB1 ho
  clear ho kP
  rw [show (w.alloc (.cells #[.int .i64 a, .int .i64 b, .int .i64 c] 46)).heap.size = w.heap.size + 1 by simp] at s1
  have hP1 := s1.k.kept hP (by decide)
  have pl2 : w1.cell? ⟨w.heap.size, 2, none⟩ = some (.int .i64 c) := cell_of_block hP1 2
  obtain ⟨x0, x1, x2, x3, x4, x5, x6, x7, x8, x9, x10, x11, x12, x13, x14, x15, x16, x17, x18, x19, _⟩ := s1.cellsA
  by_cases hc : c ≤ (M.tn : Int)
  case pos =>
    have E := Lib.hid (show allocD c ⟨M, h, v⟩ = ⟨M, restHd 4 0, v⟩ from if_pos hc)
    have hcb : decide (c ≤ (M.tn : Int)) = true := by simpa using hc
    clear hc
    go_enter Tryz.func36, Tryz.ntmps36
    go_upto_region 1 with fail
    rw [← e1.out]
    clear e1
    go_upto_region 3 with fail
    go_wp2_with fail
    go_at_call 40; refine (spResting_any 4 0 _).mono ?_; rintro e w2 ⟨rfl, hb⟩
    have s2 := s1.below hb
    clear s1 hb pl2 hP1 x0 x1 x2 x3 x4 x5 x6 x7 x8 x9 x10 x11 x12 x13 x14 x15 x16 x17 x18 x19
    obtain ⟨x0, x1, x2, x3, x4, x5, x6, x7, x8, x9, x10, x11, x12, x13, x14, x15, x16, x17, x18, x19, xf0, xf1, xf2, xf3, xf4, xf5, xf6, xf7, xf8, xf9, xf10, xf11, xf12, xf13, xf14, xf15, xf16, xf17, xf18, xf19⟩ := s2.cellsA
    obtain ⟨w3, e3, s3⟩ := s2.hand_all (restHd 4 0)
    go_upto_region 4 with fail
    rw [← e3.out]
    clear e3 s2 x0 x1 x2 x3 x4 x5 x6 x7 x8 x9 x10 x11 x12 x13 x14 x15 x16 x17 x18 x19 xf0 xf1 xf2 xf3 xf4 xf5 xf6 xf7 xf8 xf9 xf10 xf11 xf12 xf13 xf14 xf15 xf16 xf17 xf18 xf19
    refine wp_region_lit ?_
    refine wpList_load_mid (by rfl) 43 _ (by rfl) _ 0 (by rfl) [.int .i64 M.c, (.slice ta M.tn tc), (.slice (some ⟨pg, 0, none⟩) M.pn pc), .int .i64 (restHd 4 0).pos, .int .i64 (restHd 4 0).call.code, .int .i64 (restHd 4 0).call.a, .int .i64 (restHd 4 0).call.b, .int .i64 (restHd 4 0).call.c, .int .i64 (restHd 4 0).tim, .int .i64 (restHd 4 0).whe, .bool (restHd 4 0).had, .int .i64 (restHd 4 0).cnt, .int .i64 (restHd 4 0).beg, .int .i64 (restHd 4 0).rep, .int .i64 (restHd 4 0).out, .int .i64 v.kin, .int .i64 v.tim, .int .i64 v.gen, .int .i64 v.whe, .int .i64 v.clk] _ (range_of_block s3.a) Tryz.underlying43 rfl done_info ?_
    refine wpList_store_mid (by rfl) 43 _ _ (by rfl) _ 0 #[.int .i64 M.c, (.slice ta M.tn tc), (.slice (some ⟨pg, 0, none⟩) M.pn pc), .int .i64 (restHd 4 0).pos, .int .i64 (restHd 4 0).call.code, .int .i64 (restHd 4 0).call.a, .int .i64 (restHd 4 0).call.b, .int .i64 (restHd 4 0).call.c, .int .i64 (restHd 4 0).tim, .int .i64 (restHd 4 0).whe, .bool (restHd 4 0).had, .int .i64 (restHd 4 0).cnt, .int .i64 (restHd 4 0).beg, .int .i64 (restHd 4 0).rep, .int .i64 (restHd 4 0).out, .int .i64 v.kin, .int .i64 v.tim, .int .i64 v.gen, .int .i64 v.whe, .int .i64 v.clk] (by rfl) (by rfl) s3.there done_info (by simp [Value.oneCell']) ?_
    refine wpList_nil ?_
    go_wp2
    exact bodyPost_ret (v := .agg #[.int .i64 M.c, (.slice ta M.tn tc), (.slice (some ⟨pg, 0, none⟩) M.pn pc), .int .i64 (restHd 4 0).pos, .int .i64 (restHd 4 0).call.code, .int .i64 (restHd 4 0).call.a, .int .i64 (restHd 4 0).call.b, .int .i64 (restHd 4 0).call.c, .int .i64 (restHd 4 0).tim, .int .i64 (restHd 4 0).whe, .bool (restHd 4 0).had, .int .i64 (restHd 4 0).cnt, .int .i64 (restHd 4 0).beg, .int .i64 (restHd 4 0).rep, .int .i64 (restHd 4 0).out, .int .i64 v.kin, .int .i64 v.tim, .int .i64 v.gen, .int .i64 v.whe, .int .i64 v.clk]) (results_cell (cs := [.int .i64 M.c, (.slice ta M.tn tc), (.slice (some ⟨pg, 0, none⟩) M.pn pc), .int .i64 (restHd 4 0).pos, .int .i64 (restHd 4 0).call.code, .int .i64 (restHd 4 0).call.a, .int .i64 (restHd 4 0).call.b, .int .i64 (restHd 4 0).call.c, .int .i64 (restHd 4 0).tim, .int .i64 (restHd 4 0).whe, .bool (restHd 4 0).had, .int .i64 (restHd 4 0).cnt, .int .i64 (restHd 4 0).beg, .int .i64 (restHd 4 0).rep, .int .i64 (restHd 4 0).out, .int .i64 v.kin, .int .i64 v.tim, .int .i64 v.gen, .int .i64 v.whe, .int .i64 v.clk]) rfl rfl s3.lies Tryz.underlying43 rfl done_info) rfl (by rw [E.out]; exact s3.retC.up KP)

  have E := Lib.hid (show allocD c ⟨M, h, v⟩ = ⟨addTm M (newTm ⟨M, h, v⟩), ⟨2, h.call, (M.tn : Int), h.whe, h.had, h.cnt, h.beg, h.rep, h.out⟩, v⟩ from if_neg hc)
  have hcb : decide (c ≤ (M.tn : Int)) = false := by simpa using hc
  clear hc
  go_enter Tryz.func36, Tryz.ntmps36
  go_upto_region 1 with fail
  rw [← e1.out]
  clear e1
  go_upto_region 6 with fail
  have hC := heap_alloc_new w1 (.cells #[.int .i64 h.call.code, .int .i64 h.call.a, .int .i64 h.call.b, .int .i64 h.call.c] 37)
  have s2 := s1.below ((Below.refl w1.heap.size w1).alloc (Nat.le_refl _) (.cells #[.int .i64 h.call.code, .int .i64 h.call.a, .int .i64 h.call.b, .int .i64 h.call.c] 37))
  obtain ⟨lB, lA, lR⟩ := s1.size
  have hCl := lt_of_block hC
  generalize hCb : w1.heap.size = Cb at hC lA lR hCl ⊢
  generalize hw2 : w1.alloc (.cells #[.int .i64 h.call.code, .int .i64 h.call.a, .int .i64 h.call.b, .int .i64 h.call.c] 37) = w2 at s2 hC hCl ⊢
  clear hw2 lB s1 hP1 pl2 x0 x1 x2 x3 x4 x5 x6 x7 x8 x9 x10 x11 x12 x13 x14 x15 x16 x17 x18 x19
  obtain ⟨lB, _, _⟩ := s2.size
  obtain ⟨x0, x1, _⟩ := s2.cellsA
  have q1 : w2.cell? ⟨Cb, 1, none⟩ = some (.int .i64 h.call.a) := cell_of_block hC 1
  have q2 : w2.cell? ⟨Cb, 2, none⟩ = some (.int .i64 h.call.b) := cell_of_block hC 2
  have q3 : w2.cell? ⟨Cb, 3, none⟩ = some (.int .i64 h.call.c) := cell_of_block hC 3
  have kk := (Below.refl w2.heap.size w2).drew
  have kN := kk.alloc kk.size (.cells #[.int .i64 2, .int .i64 (afterI M.c h.call.b), .int .i64 0, .int .i64 h.call.c, .int .i64 (-1), .int .i64 0, .int .i64 h.call.a, .int .i64 0] 90)
  have lA2 : w.heap.size + 1 < w2.heap.size := by omega
  have n0 : (w2.drew.alloc (.cells #[.int .i64 2, .int .i64 (afterI M.c h.call.b), .int .i64 0, .int .i64 h.call.c, .int .i64 (-1), .int .i64 0, .int .i64 h.call.a, .int .i64 0] 90)).cell? ⟨w.heap.size + 1, 0, none⟩ = _ := (kN.cell (p := ⟨w.heap.size + 1, 0, none⟩) lA2).trans x0
  have n1 : (w2.drew.alloc (.cells #[.int .i64 2, .int .i64 (afterI M.c h.call.b), .int .i64 0, .int .i64 h.call.c, .int .i64 (-1), .int .i64 0, .int .i64 h.call.a, .int .i64 0] 90)).cell? ⟨w.heap.size + 1, 1, none⟩ = _ := (kN.cell (p := ⟨w.heap.size + 1, 1, none⟩) lA2).trans x1
  have m1 : (w2.drew.alloc (.cells #[.int .i64 2, .int .i64 (afterI M.c h.call.b), .int .i64 0, .int .i64 h.call.c, .int .i64 (-1), .int .i64 0, .int .i64 h.call.a, .int .i64 0] 90)).cell? ⟨Cb, 1, none⟩ = _ := (kN.cell (p := ⟨Cb, 1, none⟩) hCl).trans q1
  have m2 : (w2.drew.alloc (.cells #[.int .i64 2, .int .i64 (afterI M.c h.call.b), .int .i64 0, .int .i64 h.call.c, .int .i64 (-1), .int .i64 0, .int .i64 h.call.a, .int .i64 0] 90)).cell? ⟨Cb, 2, none⟩ = _ := (kN.cell (p := ⟨Cb, 2, none⟩) hCl).trans q2
  have m3 : (w2.drew.alloc (.cells #[.int .i64 2, .int .i64 (afterI M.c h.call.b), .int .i64 0, .int .i64 h.call.c, .int .i64 (-1), .int .i64 0, .int .i64 h.call.a, .int .i64 0] 90)).cell? ⟨Cb, 3, none⟩ = _ := (kN.cell (p := ⟨Cb, 3, none⟩) hCl).trans q3
  have d1 : w2.drew.cell? ⟨w.heap.size + 1, 1, none⟩ = some (.slice ta M.tn tc) := x1
  have sN := s2.below kN
  have hOwn := Lib.hid (rowT_of_ownrow sN.o.t)
  have hNew := heap_alloc_new w2.drew (.cells #[.int .i64 2, .int .i64 (afterI M.c h.call.b), .int .i64 0, .int .i64 h.call.c, .int .i64 (-1), .int .i64 0, .int .i64 h.call.a, .int .i64 0] 90)
  have hRow := Lib.hid (show RowTAt (w2.drew.alloc (.cells #[.int .i64 2, .int .i64 (afterI M.c h.call.b), .int .i64 0, .int .i64 h.call.c, .int .i64 (-1), .int .i64 0, .int .i64 h.call.a, .int .i64 0] 90)) (.slice (some ⟨w2.heap.size, 0, none⟩) 1 1) 1 (fun _ => newTm ⟨M, h, v⟩) from .inr ⟨w2.heap.size, 0, 1, rfl, lt_of_block hNew, fun i hi j hj => by
    obtain rfl : i = 0 := by omega
    rw [show (⟨w2.heap.size, 0 + 0 * 8 + j, none⟩ : Addr) = ⟨w2.drew.heap.size, j, none⟩ by rw [show 0 + 0 * 8 + j = j by omega]; rfl, cell_of_block hNew]
    rcases j with _ | _ | _ | _ | _ | _ | _ | _ | j
    all_goals first | rfl | omega⟩)
  have lBN := sN.size.1
  refine wp_region_T (fun w' => w'.cell? ⟨w.heap.size + 1, 0, none⟩ = some (.int .i64 M.c) ∧ w'.cell? ⟨w.heap.size + 1, 1, none⟩ = some (.slice ta M.tn tc) ∧ w'.cell? ⟨Cb, 1, none⟩ = some (.int .i64 h.call.a) ∧ w'.cell? ⟨Cb, 2, none⟩ = some (.int .i64 h.call.b) ∧ w'.cell? ⟨Cb, 3, none⟩ = some (.int .i64 h.call.c)) 18 (by kernel_rfl) ?_
  have hS : w2.drew.cell? ⟨w.heap.size + 1, 0, none⟩ = some (.int .i64 M.c) ∧ w2.drew.cell? ⟨w.heap.size + 1, 1, none⟩ = some (.slice ta M.tn tc) ∧ w2.drew.cell? ⟨Cb, 1, none⟩ = some (.int .i64 h.call.a) ∧ w2.drew.cell? ⟨Cb, 2, none⟩ = some (.int .i64 h.call.b) ∧ w2.drew.cell? ⟨Cb, 3, none⟩ = some (.int .i64 h.call.c) := ⟨x0, x1, q1, q2, q3⟩
  refine wpAnyT_take (i := 0) (v := ?v0_1) rfl (by kernel_rfl) (by kernel_rfl) (by kernel_rfl) (by kernel_rfl) (fun _ _ _ h => h) (Or.inl ⟨by rfl, ?hy0_1⟩) hS ?rest0_1
  case hy0_1 => intro w' hSw; obtain ⟨s0, s1, s2, s3, s4⟩ := hSw; go_simp; try with_reducible rfl
  simp only [Act.put, List.setIfInBounds_toArray, List.set_cons_zero, List.set_cons_succ]
  refine wpAnyT_take (i := 1) (v := ?v1_2) rfl (by kernel_rfl) (by kernel_rfl) (by kernel_rfl) (by kernel_rfl) (fun _ _ _ h => h) (Or.inl ⟨by rfl, ?hy1_2⟩) hS ?rest1_2
  case hy1_2 => intro w' hSw; obtain ⟨s0, s1, s2, s3, s4⟩ := hSw; go_simp; try with_reducible rfl
  simp only [Act.put, List.setIfInBounds_toArray, List.set_cons_zero, List.set_cons_succ]
  refine wpAnyT_take (i := 2) (v := ?v2_3) rfl (by kernel_rfl) (by kernel_rfl) (by kernel_rfl) (by kernel_rfl) (fun _ _ _ h => h) (Or.inl ⟨by rfl, ?hy2_3⟩) hS ?rest2_3
  case hy2_3 => intro w' hSw; obtain ⟨s0, s1, s2, s3, s4⟩ := hSw; go_simp; try with_reducible rfl
  simp only [Act.put, List.setIfInBounds_toArray, List.set_cons_zero, List.set_cons_succ]
  refine wpAnyT_take (i := 3) (v := ?v3_4) rfl (by kernel_rfl) (by kernel_rfl) (by kernel_rfl) (by kernel_rfl) (fun _ _ _ h => h) (Or.inl ⟨by rfl, ?hy3_4⟩) hS ?rest3_4
  case hy3_4 => intro w' hSw; obtain ⟨s0, s1, s2, s3, s4⟩ := hSw; go_simp; try with_reducible rfl
  simp only [Act.put, List.setIfInBounds_toArray, List.set_cons_zero, List.set_cons_succ]
  refine wpAnyT_take (i := 4) (v := ?v4_5) rfl (by kernel_rfl) (by kernel_rfl) (by kernel_rfl) (by kernel_rfl) (fun _ _ _ h => h) (Or.inl ⟨by rfl, ?hy4_5⟩) hS ?rest4_5
  case hy4_5 => intro w' hSw; obtain ⟨s0, s1, s2, s3, s4⟩ := hSw; go_simp; try with_reducible rfl
  simp only [Act.put, List.setIfInBounds_toArray, List.set_cons_zero, List.set_cons_succ]
  refine wpAnyT_take (i := 5) (v := ?v5_6) rfl (by kernel_rfl) (by kernel_rfl) (by kernel_rfl) (by kernel_rfl) (fun _ _ _ h => h) (Or.inl ⟨by rfl, ?hy5_6⟩) hS ?rest5_6
  case hy5_6 => intro w' hSw; obtain ⟨s0, s1, s2, s3, s4⟩ := hSw; go_simp; try with_reducible rfl
  simp only [Act.put, List.setIfInBounds_toArray, List.set_cons_zero, List.set_cons_succ]
  refine wpAnyT_take (i := 6) (v := ?v6_7) rfl (by kernel_rfl) (by kernel_rfl) (by kernel_rfl) (by kernel_rfl) (fun _ _ _ h => h) (Or.inl ⟨by rfl, ?hy6_7⟩) hS ?rest6_7
  case hy6_7 => intro w' hSw; obtain ⟨s0, s1, s2, s3, s4⟩ := hSw; go_simp; try with_reducible rfl
  simp only [Act.put, List.setIfInBounds_toArray, List.set_cons_zero, List.set_cons_succ]
  refine wpAnyT_take (i := 7) (v := ?v7_8) rfl (by kernel_rfl) (by kernel_rfl) (by kernel_rfl) (by kernel_rfl) (fun _ _ _ h => h) (Or.inl ⟨by rfl, ?hy7_8⟩) hS ?rest7_8
  case hy7_8 => intro w' hSw; obtain ⟨s0, s1, s2, s3, s4⟩ := hSw; go_simp; try with_reducible rfl
  simp only [Act.put, List.setIfInBounds_toArray, List.set_cons_zero, List.set_cons_succ]
  refine wpAnyT_take (i := 9) (v := ?v9_9) rfl (by kernel_rfl) (by kernel_rfl) (by kernel_rfl) (by kernel_rfl) (fun _ _ _ h => h) (Or.inl ⟨by rfl, ?hy9_9⟩) hS ?rest9_9
  case hy9_9 => intro w' hSw; obtain ⟨s0, s1, s2, s3, s4⟩ := hSw; go_simp; try with_reducible rfl
  simp only [Act.put, List.setIfInBounds_toArray, List.set_cons_zero, List.set_cons_succ]
  refine wpAnyT_take (i := 10) (v := ?v10_10) rfl (by kernel_rfl) (by kernel_rfl) (by kernel_rfl) (by kernel_rfl) (fun _ _ _ h => h) (Or.inl ⟨by rfl, ?hy10_10⟩) hS ?rest10_10
  case hy10_10 => intro w' hSw; obtain ⟨s0, s1, s2, s3, s4⟩ := hSw; go_simp; try with_reducible rfl
  simp only [Act.put, List.setIfInBounds_toArray, List.set_cons_zero, List.set_cons_succ]
  refine wpAnyT_take (i := 11) (v := ?v11_11) rfl (by kernel_rfl) (by kernel_rfl) (by kernel_rfl) (by kernel_rfl) (fun _ _ _ h => h) (Or.inl ⟨by rfl, ?hy11_11⟩) hS ?rest11_11
  case hy11_11 => intro w' hSw; obtain ⟨s0, s1, s2, s3, s4⟩ := hSw; go_simp; try with_reducible rfl
  simp only [Act.put, List.setIfInBounds_toArray, List.set_cons_zero, List.set_cons_succ]
  refine wpAnyT_take (i := 12) (v := ?v12_12) rfl (by kernel_rfl) (by kernel_rfl) (by kernel_rfl) (by kernel_rfl) (fun _ _ _ h => h) (Or.inl ⟨by rfl, ?hy12_12⟩) hS ?rest12_12
  case hy12_12 => intro w' hSw; obtain ⟨s0, s1, s2, s3, s4⟩ := hSw; go_simp; try with_reducible rfl
  simp only [Act.put, List.setIfInBounds_toArray, List.set_cons_zero, List.set_cons_succ]
  refine wpAnyT_one (i := 8) (by kernel_rfl) rfl (by rfl) fun K hK => ?_
  go_simp
  go_at_call 66; refine (spAfter_any _ _ _).mono ?_; rintro x wp ⟨rfl, rfl⟩
  refine hK _ _ (.inr hS) ?_
  clear hK K
  (try simp only [Act.put, List.setIfInBounds_toArray, List.set_cons_zero, List.set_cons_succ])
  refine wpAnyT_take (i := 13) (v := ?v13_13) rfl (by kernel_rfl) (by kernel_rfl) (by kernel_rfl) (by kernel_rfl) (fun _ _ _ h => h) (Or.inl ⟨by rfl, ?hy13_13⟩) hS ?rest13_13
  case hy13_13 => intro w' hSw; obtain ⟨s0, s1, s2, s3, s4⟩ := hSw; go_simp; try with_reducible rfl
  simp only [Act.put, List.setIfInBounds_toArray, List.set_cons_zero, List.set_cons_succ]
  refine wpAnyT_one (i := 14) (by kernel_rfl) rfl (by rfl) fun K hK => ?_
  go_simp
  have hS2 : (w2.drew.alloc (.cells #[.int .i64 2, .int .i64 (afterI M.c h.call.b), .int .i64 0, .int .i64 h.call.c, .int .i64 (-1), .int .i64 0, .int .i64 h.call.a, .int .i64 0] 90)).cell? ⟨w.heap.size + 1, 0, none⟩ = some (.int .i64 M.c) ∧ (w2.drew.alloc (.cells #[.int .i64 2, .int .i64 (afterI M.c h.call.b), .int .i64 0, .int .i64 h.call.c, .int .i64 (-1), .int .i64 0, .int .i64 h.call.a, .int .i64 0] 90)).cell? ⟨w.heap.size + 1, 1, none⟩ = some (.slice ta M.tn tc) ∧ (w2.drew.alloc (.cells #[.int .i64 2, .int .i64 (afterI M.c h.call.b), .int .i64 0, .int .i64 h.call.c, .int .i64 (-1), .int .i64 0, .int .i64 h.call.a, .int .i64 0] 90)).cell? ⟨Cb, 1, none⟩ = some (.int .i64 h.call.a) ∧ (w2.drew.alloc (.cells #[.int .i64 2, .int .i64 (afterI M.c h.call.b), .int .i64 0, .int .i64 h.call.c, .int .i64 (-1), .int .i64 0, .int .i64 h.call.a, .int .i64 0] 90)).cell? ⟨Cb, 2, none⟩ = some (.int .i64 h.call.b) ∧ (w2.drew.alloc (.cells #[.int .i64 2, .int .i64 (afterI M.c h.call.b), .int .i64 0, .int .i64 h.call.c, .int .i64 (-1), .int .i64 0, .int .i64 h.call.a, .int .i64 0] 90)).cell? ⟨Cb, 3, none⟩ = some (.int .i64 h.call.c) := ⟨n0, n1, m1, m2, m3⟩
  refine hK _ _ (.inr hS2) ?_
  clear hK K
  (try simp only [Act.put, List.setIfInBounds_toArray, List.set_cons_zero, List.set_cons_succ])
  refine wpAnyT_one (i := 15) (by kernel_rfl) rfl (by rfl) fun K hK => ?_
  refine wp_append_tms (.tmp 23) (.tmp 35) rfl B _ M.tn M.t rfl hOwn.out _ 1 (fun _ => newTm ⟨M, h, v⟩) rfl hRow.out (by omega) lBN ?_
  intro v5 w5 hown5 hg5 hat5
  obtain ⟨t5, c5, h5⟩ := (sN.o.grownT hg5 hown5).t.row.form
  subst h5
  have kW := (Wk.of_new kN lB).grownT sN.o.t hg5 lBN
  have hA5 := kW.kept s2.a (by decide)
  have hC5 := kW.kept hC (by decide)
  have z0 : w5.cell? ⟨w.heap.size + 1, 0, none⟩ = some (.int .i64 M.c) := cell_of_block hA5 0
  have z1 : w5.cell? ⟨w.heap.size + 1, 1, none⟩ = some (.slice ta M.tn tc) := cell_of_block hA5 1
  have zf1 : w5.frozen? ⟨w.heap.size + 1, 1, none⟩ = false := unfrozen_of_block hA5 1
  have u1 : w5.cell? ⟨Cb, 1, none⟩ = some (.int .i64 h.call.a) := cell_of_block hC5 1
  have u2 : w5.cell? ⟨Cb, 2, none⟩ = some (.int .i64 h.call.b) := cell_of_block hC5 2
  have u3 : w5.cell? ⟨Cb, 3, none⟩ = some (.int .i64 h.call.c) := cell_of_block hC5 3
  have hS5 : w5.cell? ⟨w.heap.size + 1, 0, none⟩ = some (.int .i64 M.c) ∧ w5.cell? ⟨w.heap.size + 1, 1, none⟩ = some (.slice ta M.tn tc) ∧ w5.cell? ⟨Cb, 1, none⟩ = some (.int .i64 h.call.a) ∧ w5.cell? ⟨Cb, 2, none⟩ = some (.int .i64 h.call.b) ∧ w5.cell? ⟨Cb, 3, none⟩ = some (.int .i64 h.call.c) := ⟨z0, z1, u1, u2, u3⟩
  have hA6 := block_setCell (i := 1) hA5 (.slice t5 (addTm M (newTm ⟨M, h, v⟩)).tn c5)
  refine hK _ _ (.inr hS5) ?_
  clear hK K
  (try simp only [Act.put, List.setIfInBounds_toArray, List.set_cons_zero, List.set_cons_succ])
  refine wpAnyT_one (i := 16) (by kernel_rfl) rfl (by rfl) fun K hK => ?_
  go_simp
  refine hK _ _ (.inr hS5) ?_
  clear hK K
  (try simp only [Act.put, List.setIfInBounds_toArray, List.set_cons_zero, List.set_cons_succ])
  refine wpAnyT_take (i := 17) (v := ?v17_14) rfl (by kernel_rfl) (by kernel_rfl) (by kernel_rfl) (by kernel_rfl) (fun _ _ _ h => h) (Or.inl ⟨by rfl, ?hy17_14⟩) hS5 ?rest17_14
  case hy17_14 => intro w' hSw; obtain ⟨s0, s1, s2, s3, s4⟩ := hSw; go_simp; try with_reducible rfl
  simp only [Act.put, List.setIfInBounds_toArray, List.set_cons_zero, List.set_cons_succ]
  refine wpAnyT_one (i := 18) (by kernel_rfl) rfl (by rfl) fun K hK => ?_
  go_simp
  refine hK _ _ (.inl rfl) ?_
  clear hK K
  refine wpAnyT_done (by kernel_rfl) ?_ _
  all_goals
    simp only [List.setIfInBounds_toArray, List.set_cons_zero, List.set_cons_succ] at hA6
    have o6 := (sN.o.grownT hg5 hown5).other hA5 (by decide) (by decide) (by decide) (fun y hy => heap_set_ne (w := w5) 1 (.slice t5 (addTm M (newTm ⟨M, h, v⟩)).tn c5) hy)
    have s6 : DSt (w.alloc (.cells #[.int .i64 a, .int .i64 b, .int .i64 c] 46)) (w5.setCell ⟨w.heap.size + 1, 1, none⟩ (.slice t5 (addTm M (newTm ⟨M, h, v⟩)).tn c5)) B (w.heap.size + 1) (w.heap.size + 1 + 1) M.c (.slice t5 (addTm M (newTm ⟨M, h, v⟩)).tn c5) pg M.pn pc V (addTm M (newTm ⟨M, h, v⟩)) h v :=
      ⟨o6, (s2.k.trans kW).setNew s2.b s2.la 1 (.slice t5 (addTm M (newTm ⟨M, h, v⟩)).tn c5), hA6, (heap_set_ne (w := w5) 1 (.slice t5 (addTm M (newTm ⟨M, h, v⟩)).tn c5) (Ne.symm s2.ne)).trans (kW.kept s2.r (by decide)), s2.b, s2.la, s2.lr, s2.ne, rfl, rfl⟩
    generalize hw6 : w5.setCell ⟨w.heap.size + 1, 1, none⟩ (.slice t5 (addTm M (newTm ⟨M, h, v⟩)).tn c5) = w6 at s6 ⊢
    clear hw6 o6 hA6 hA5 hC5 kW hown5 hg5 hat5 hRow hOwn sN s2 kN kk hNew n0 n1 m1 m2 m3 d1 z0 z1 zf1 u1 u2 u3 q1 q2 q3 x0 x1 hC hS hS2 hS5
    obtain ⟨w7, e7, s7⟩ := s6.hand_tim (M.tn : Int)
    obtain ⟨w8, e8, s8⟩ := s7.hand_pos 2
    obtain ⟨x0, x1, x2, x3, x4, x5, x6, x7, x8, x9, x10, x11, x12, x13, x14, x15, x16, x17, x18, x19, xf0, xf1, xf2, xf3, xf4, xf5, xf6, xf7, xf8, xf9, xf10, xf11, xf12, xf13, xf14, xf15, xf16, xf17, xf18, xf19⟩ := s6.cellsA
    go_upto_region 8 with fail
    rw [← e7.out]
    clear e7 s6 x0 x1 x2 x3 x4 x5 x6 x7 x8 x9 x10 x11 x12 x13 x14 x15 x16 x17 x18 x19 xf0 xf1 xf2 xf3 xf4 xf5 xf6 xf7 xf8 xf9 xf10 xf11 xf12 xf13 xf14 xf15 xf16 xf17 xf18 xf19
    obtain ⟨x0, x1, x2, x3, x4, x5, x6, x7, x8, x9, x10, x11, x12, x13, x14, x15, x16, x17, x18, x19, xf0, xf1, xf2, xf3, xf4, xf5, xf6, xf7, xf8, xf9, xf10, xf11, xf12, xf13, xf14, xf15, xf16, xf17, xf18, xf19⟩ := s7.cellsA
    go_upto_region 9 with fail
    rw [← e8.out]
    clear e8 s7 x0 x1 x2 x3 x4 x5 x6 x7 x8 x9 x10 x11 x12 x13 x14 x15 x16 x17 x18 x19 xf0 xf1 xf2 xf3 xf4 xf5 xf6 xf7 xf8 xf9 xf10 xf11 xf12 xf13 xf14 xf15 xf16 xf17 xf18 xf19
    refine wp_region_lit ?_
    refine wpList_load_mid (by rfl) 43 _ (by rfl) _ 0 (by rfl) [.int .i64 M.c, (.slice t5 (addTm M (newTm ⟨M, h, v⟩)).tn c5), (.slice (some ⟨pg, 0, none⟩) M.pn pc), .int .i64 (⟨2, h.call, (M.tn : Int), h.whe, h.had, h.cnt, h.beg, h.rep, h.out⟩ : Hd).pos, .int .i64 (⟨2, h.call, (M.tn : Int), h.whe, h.had, h.cnt, h.beg, h.rep, h.out⟩ : Hd).call.code, .int .i64 (⟨2, h.call, (M.tn : Int), h.whe, h.had, h.cnt, h.beg, h.rep, h.out⟩ : Hd).call.a, .int .i64 (⟨2, h.call, (M.tn : Int), h.whe, h.had, h.cnt, h.beg, h.rep, h.out⟩ : Hd).call.b, .int .i64 (⟨2, h.call, (M.tn : Int), h.whe, h.had, h.cnt, h.beg, h.rep, h.out⟩ : Hd).call.c, .int .i64 (⟨2, h.call, (M.tn : Int), h.whe, h.had, h.cnt, h.beg, h.rep, h.out⟩ : Hd).tim, .int .i64 (⟨2, h.call, (M.tn : Int), h.whe, h.had, h.cnt, h.beg, h.rep, h.out⟩ : Hd).whe, .bool (⟨2, h.call, (M.tn : Int), h.whe, h.had, h.cnt, h.beg, h.rep, h.out⟩ : Hd).had, .int .i64 (⟨2, h.call, (M.tn : Int), h.whe, h.had, h.cnt, h.beg, h.rep, h.out⟩ : Hd).cnt, .int .i64 (⟨2, h.call, (M.tn : Int), h.whe, h.had, h.cnt, h.beg, h.rep, h.out⟩ : Hd).beg, .int .i64 (⟨2, h.call, (M.tn : Int), h.whe, h.had, h.cnt, h.beg, h.rep, h.out⟩ : Hd).rep, .int .i64 (⟨2, h.call, (M.tn : Int), h.whe, h.had, h.cnt, h.beg, h.rep, h.out⟩ : Hd).out, .int .i64 v.kin, .int .i64 v.tim, .int .i64 v.gen, .int .i64 v.whe, .int .i64 v.clk] _ (range_of_block s8.a) Tryz.underlying43 rfl done_info ?_
    refine wpList_store_mid (by rfl) 43 _ _ (by rfl) _ 0 #[.int .i64 M.c, (.slice t5 (addTm M (newTm ⟨M, h, v⟩)).tn c5), (.slice (some ⟨pg, 0, none⟩) M.pn pc), .int .i64 (⟨2, h.call, (M.tn : Int), h.whe, h.had, h.cnt, h.beg, h.rep, h.out⟩ : Hd).pos, .int .i64 (⟨2, h.call, (M.tn : Int), h.whe, h.had, h.cnt, h.beg, h.rep, h.out⟩ : Hd).call.code, .int .i64 (⟨2, h.call, (M.tn : Int), h.whe, h.had, h.cnt, h.beg, h.rep, h.out⟩ : Hd).call.a, .int .i64 (⟨2, h.call, (M.tn : Int), h.whe, h.had, h.cnt, h.beg, h.rep, h.out⟩ : Hd).call.b, .int .i64 (⟨2, h.call, (M.tn : Int), h.whe, h.had, h.cnt, h.beg, h.rep, h.out⟩ : Hd).call.c, .int .i64 (⟨2, h.call, (M.tn : Int), h.whe, h.had, h.cnt, h.beg, h.rep, h.out⟩ : Hd).tim, .int .i64 (⟨2, h.call, (M.tn : Int), h.whe, h.had, h.cnt, h.beg, h.rep, h.out⟩ : Hd).whe, .bool (⟨2, h.call, (M.tn : Int), h.whe, h.had, h.cnt, h.beg, h.rep, h.out⟩ : Hd).had, .int .i64 (⟨2, h.call, (M.tn : Int), h.whe, h.had, h.cnt, h.beg, h.rep, h.out⟩ : Hd).cnt, .int .i64 (⟨2, h.call, (M.tn : Int), h.whe, h.had, h.cnt, h.beg, h.rep, h.out⟩ : Hd).beg, .int .i64 (⟨2, h.call, (M.tn : Int), h.whe, h.had, h.cnt, h.beg, h.rep, h.out⟩ : Hd).rep, .int .i64 (⟨2, h.call, (M.tn : Int), h.whe, h.had, h.cnt, h.beg, h.rep, h.out⟩ : Hd).out, .int .i64 v.kin, .int .i64 v.tim, .int .i64 v.gen, .int .i64 v.whe, .int .i64 v.clk] (by rfl) (by rfl) s8.there done_info (by simp [Value.oneCell']) ?_
    refine wpList_nil ?_
    go_wp2
    exact bodyPost_ret (v := .agg #[.int .i64 M.c, (.slice t5 (addTm M (newTm ⟨M, h, v⟩)).tn c5), (.slice (some ⟨pg, 0, none⟩) M.pn pc), .int .i64 (⟨2, h.call, (M.tn : Int), h.whe, h.had, h.cnt, h.beg, h.rep, h.out⟩ : Hd).pos, .int .i64 (⟨2, h.call, (M.tn : Int), h.whe, h.had, h.cnt, h.beg, h.rep, h.out⟩ : Hd).call.code, .int .i64 (⟨2, h.call, (M.tn : Int), h.whe, h.had, h.cnt, h.beg, h.rep, h.out⟩ : Hd).call.a, .int .i64 (⟨2, h.call, (M.tn : Int), h.whe, h.had, h.cnt, h.beg, h.rep, h.out⟩ : Hd).call.b, .int .i64 (⟨2, h.call, (M.tn : Int), h.whe, h.had, h.cnt, h.beg, h.rep, h.out⟩ : Hd).call.c, .int .i64 (⟨2, h.call, (M.tn : Int), h.whe, h.had, h.cnt, h.beg, h.rep, h.out⟩ : Hd).tim, .int .i64 (⟨2, h.call, (M.tn : Int), h.whe, h.had, h.cnt, h.beg, h.rep, h.out⟩ : Hd).whe, .bool (⟨2, h.call, (M.tn : Int), h.whe, h.had, h.cnt, h.beg, h.rep, h.out⟩ : Hd).had, .int .i64 (⟨2, h.call, (M.tn : Int), h.whe, h.had, h.cnt, h.beg, h.rep, h.out⟩ : Hd).cnt, .int .i64 (⟨2, h.call, (M.tn : Int), h.whe, h.had, h.cnt, h.beg, h.rep, h.out⟩ : Hd).beg, .int .i64 (⟨2, h.call, (M.tn : Int), h.whe, h.had, h.cnt, h.beg, h.rep, h.out⟩ : Hd).rep, .int .i64 (⟨2, h.call, (M.tn : Int), h.whe, h.had, h.cnt, h.beg, h.rep, h.out⟩ : Hd).out, .int .i64 v.kin, .int .i64 v.tim, .int .i64 v.gen, .int .i64 v.whe, .int .i64 v.clk]) (results_cell (cs := [.int .i64 M.c, (.slice t5 (addTm M (newTm ⟨M, h, v⟩)).tn c5), (.slice (some ⟨pg, 0, none⟩) M.pn pc), .int .i64 (⟨2, h.call, (M.tn : Int), h.whe, h.had, h.cnt, h.beg, h.rep, h.out⟩ : Hd).pos, .int .i64 (⟨2, h.call, (M.tn : Int), h.whe, h.had, h.cnt, h.beg, h.rep, h.out⟩ : Hd).call.code, .int .i64 (⟨2, h.call, (M.tn : Int), h.whe, h.had, h.cnt, h.beg, h.rep, h.out⟩ : Hd).call.a, .int .i64 (⟨2, h.call, (M.tn : Int), h.whe, h.had, h.cnt, h.beg, h.rep, h.out⟩ : Hd).call.b, .int .i64 (⟨2, h.call, (M.tn : Int), h.whe, h.had, h.cnt, h.beg, h.rep, h.out⟩ : Hd).call.c, .int .i64 (⟨2, h.call, (M.tn : Int), h.whe, h.had, h.cnt, h.beg, h.rep, h.out⟩ : Hd).tim, .int .i64 (⟨2, h.call, (M.tn : Int), h.whe, h.had, h.cnt, h.beg, h.rep, h.out⟩ : Hd).whe, .bool (⟨2, h.call, (M.tn : Int), h.whe, h.had, h.cnt, h.beg, h.rep, h.out⟩ : Hd).had, .int .i64 (⟨2, h.call, (M.tn : Int), h.whe, h.had, h.cnt, h.beg, h.rep, h.out⟩ : Hd).cnt, .int .i64 (⟨2, h.call, (M.tn : Int), h.whe, h.had, h.cnt, h.beg, h.rep, h.out⟩ : Hd).beg, .int .i64 (⟨2, h.call, (M.tn : Int), h.whe, h.had, h.cnt, h.beg, h.rep, h.out⟩ : Hd).rep, .int .i64 (⟨2, h.call, (M.tn : Int), h.whe, h.had, h.cnt, h.beg, h.rep, h.out⟩ : Hd).out, .int .i64 v.kin, .int .i64 v.tim, .int .i64 v.gen, .int .i64 v.whe, .int .i64 v.clk]) rfl rfl s8.lies Tryz.underlying43 rfl done_info) rfl (by rw [E.out]; exact s8.retC.up KP)


end Go.Proofs.YtcfkginbkammoaaGreat

/-
  A time, and that much later (chapter 1), in the program.
-/
namespace Go.Proofs.YtcfkginbkammoaaGreat
open Go.RowKit
set_option linter.unusedVariables false

set_option maxHeartbeats 400000 in
theorem after_any (t d : Int) (w : World) :
    Calls Tryz.prog 77 #[.int .i64 t, .int .i64 d] w fun e w' => e = .returned (.int .i64 (afterI t d)) ∧ w = w' := by
  cases h1 : inB t 0 1000000000
  · rw [afterI_no h1]
    go_enter Tryz.func77, Tryz.ntmps77
    go_wp2_with (go_at_call 104; refine (isTime_any _ _).mono ?_; rintro e w' ⟨rfl, rfl⟩)
    go_ret
    exact ⟨rfl, rfl⟩
  · obtain ⟨b1, b2⟩ := inB_iff.1 h1
    by_cases h2 : d < 0
    · rw [afterI_neg h1 h2]
      go_enter Tryz.func77, Tryz.ntmps77
      go_wp2_with (go_at_call 104; refine (isTime_any _ _).mono ?_; rintro e w' ⟨rfl, rfl⟩)
      go_ret
      exact ⟨rfl, rfl⟩
    · by_cases h3 : d ≤ 1000000000
      · by_cases h4 : t + d ≤ 1000000000
        · rw [afterI_in h1 h4 (by omega)]
          go_enter Tryz.func77, Tryz.ntmps77
          go_wp2_with (go_at_call 104; refine (isTime_any _ _).mono ?_; rintro e w' ⟨rfl, rfl⟩)
          go_ret
          exact ⟨rfl, rfl⟩
        · rw [afterI_far h1 (by omega) (by omega)]
          go_enter Tryz.func77, Tryz.ntmps77
          go_wp2_with (go_at_call 104; refine (isTime_any _ _).mono ?_; rintro e w' ⟨rfl, rfl⟩)
          go_ret
          exact ⟨rfl, rfl⟩
      · rw [afterI_far h1 (by omega) (by omega)]
        by_cases h4 : t + 1000000000 ≤ 1000000000
        · have h5 : t = 0 := by omega
          subst h5
          go_enter Tryz.func77, Tryz.ntmps77
          go_wp2_with (go_at_call 104; refine (isTime_any _ _).mono ?_; rintro e w' ⟨rfl, rfl⟩)
          go_ret
          exact ⟨rfl, rfl⟩
        · go_enter Tryz.func77, Tryz.ntmps77
          go_wp2_with (go_at_call 104; refine (isTime_any _ _).mono ?_; rintro e w' ⟨rfl, rfl⟩)
          go_ret
          exact ⟨rfl, rfl⟩

end Go.Proofs.YtcfkginbkammoaaGreat
