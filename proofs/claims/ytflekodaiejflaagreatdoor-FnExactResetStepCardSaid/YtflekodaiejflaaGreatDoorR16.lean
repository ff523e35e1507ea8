/-
  Stopping (spec, chapter 10).
-/
import Derived.Test.YtflekodaiejflaaGreatDoorR15
import Derived.Deep.QuietTactic
import Derived.BigQuiet
import Derived.Deep.DeepCutAuto
namespace Go.Proofs.YtflekodaiejflaaGreatDoor
open Go.Deep Go.ChangeShapes Go.WideShapes Go.ChangeAt Go.RowKit Go.Joins
set_option linter.unusedVariables false
set_option linter.unusedSimpArgs false

section
variable {w0 w w' : World} {B A R pg pn pc : Nat} {c : Int} {tv : Value} {V : Nat → Value} {M : Me} {h : Hd} {v : Et}
/-- all that a call answered comes into the parameter's block -/
theorem DSt.callAll {D' : Dn} {e : Ending} {k : Nat} (s : DSt w0 w B A R c tv pg pn pc V M h v) (hI : InDn B D' w e w') (hc : D'.m.c = c) (hp : D'.m.pn = pn) (hk : k < pn) :
    ∃ ta tc pg' pc' V', e = .returned (dnV D' (.slice ta D'.m.tn tc) (.slice (some ⟨pg', 0, none⟩) pn pc')) ∧ w'.there A 0 20 ∧
      DSt w0 (w'.setCells A 0 (dnCells D' (.slice ta D'.m.tn tc) (.slice (some ⟨pg', 0, none⟩) pn pc')).toList) B A R c (.slice ta D'.m.tn tc) pg' pn pc' V' D'.m D'.h D'.v := by
  subst hc hp
  obtain ⟨tv', pv', rfl, ho, hk'⟩ := hI
  obtain ⟨pg', pc', V', rfl, hop⟩ := ho.openP hk
  obtain ⟨ta, tc, rfl⟩ := hop.t.row.form
  have hA := hk'.kept s.a (by decide)
  have hR := hk'.kept s.r (by decide)
  have ht : w'.there A 0 20 := there_of_block hA
  exact ⟨ta, tc, pg', pc', V', rfl, ht, hop.other hA (by decide) (by decide) (by decide) (fun y hy => heap_setCells_ne hy _ _ _), wk_setCells s.b s.la _ 0 (s.k.trans hk'), heap_setCells hA rfl, (heap_setCells_ne (Ne.symm s.ne) _ _ _).trans hR, s.b, s.la, s.lr, s.ne, rfl, rfl⟩
end

set_option maxRecDepth 100000 in
set_option maxHeartbeats 2000000 in
theorem l10Claim_yes {B t : Nat} {tv pv : Value} {M : Me} {h : Hd} {v : Et} {w : World} (hB : B ≤ w.heap.size) (hk : 0 < M.pn) (ht : t < M.tn) (he : 0 ≤ effI (M.t t)) (hm : OwnMem w B tv pv M) :
    Calls Tryz.prog 67 #[dnV ⟨M, h, v⟩ tv pv, .int .i64 (t : Int)] w (fun e w' => InDn B (claimD ⟨M, h, v⟩ t) w e w' ∧ ∀ g, g < w.heap.size → tv.ownBlock ≠ some g → w'.heap[g]? = w.heap[g]?) := by
  rw [show claimD ⟨M, h, v⟩ t = ⟨setTm M t 0 2, ⟨h.pos, h.call, (t : Int), h.whe, h.had, h.cnt, h.beg, h.rep, h.out⟩, evI M 2 t (effI (M.t t))⟩ by
    have he2 : 0 ≤ effT (M.t t) := he
    rw [claimD, if_pos he2]; rfl]
  have heb : decide ((0 : Int) ≤ effI (M.t t)) = true := by simpa using he
  clear he
  obtain ⟨pg, pc, V, rfl, ho⟩ := hm.openP hk
  clear hm
  obtain ⟨tg, tc, rfl, _⟩ := ho.tms ht
  obtain ⟨w1, e1, s1⟩ := DSt.start h v hB ho
  clear ho
  have k1 : Below w.heap.size w w1 := by rw [e1.out]; exact ((Below.refl _ _).alloc (Nat.le_refl _) _).alloc (by simp) _
  have i0 : (0 : Int) ≤ (t : Int) := by omega
  have i1 : (t : Int) < (M.tn : Int) := by omega
  obtain ⟨x0, x1, x2, x3, x4, x5, x6, x7, x8, x9, x10, x11, x12, x13, x14, x15, x16, x17, x18, x19, xf0, xf1, xf2, xf3, xf4, xf5, xf6, xf7, xf8, xf9, xf10, xf11, xf12, xf13, xf14, xf15, xf16, xf17, xf18, xf19⟩ := s1.cellsA
  obtain ⟨⟨t0, t1, t2, t3, t4, t5, t6, t7⟩, _⟩ := s1.tcells ht rfl
  go_enter Tryz.func67, Tryz.ntmps67
  go_upto_region 1 with fail
  rw [← e1.out]
  clear e1
  go_wp2_with fail
  go_at_call 99; refine (l5Effect_any (M.t t) _).mono ?_; rintro e w2 ⟨rfl, hb⟩
  have s2 := s1.below hb
  have k2 := k1.trans (hb.mono k1.size)
  clear s1 hb k1 t0 t1 t2 t3 t4 t5 t6 t7 x0 x1 x2 x3 x4 x5 x6 x7 x8 x9 x10 x11 x12 x13 x14 x15 x16 x17 x18 x19 xf0 xf1 xf2 xf3 xf4 xf5 xf6 xf7 xf8 xf9 xf10 xf11 xf12 xf13 xf14 xf15 xf16 xf17 xf18 xf19
  obtain ⟨x0, x1, x2, x3, x4, x5, x6, x7, x8, x9, x10, x11, x12, x13, x14, x15, x16, x17, x18, x19, xf0, xf1, xf2, xf3, xf4, xf5, xf6, xf7, xf8, xf9, xf10, xf11, xf12, xf13, xf14, xf15, xf16, xf17, xf18, xf19⟩ := s2.cellsA
  have hEv := l9Ev_any (w := w2) 2 (effI (M.t t)) ht s2.own
  have HEv := Lib.hid hEv
  clear hEv
  go_upto_region 3 with fail
  go_wp2_with fail
  go_at_call 59; refine HEv.out.mono ?_; rintro e w3 ⟨rfl, hb⟩
  have s3 := s2.below hb
  have k3 := k2.trans (hb.mono k2.size)
  clear s2 HEv hb k2 x0 x1 x2 x3 x4 x5 x6 x7 x8 x9 x10 x11 x12 x13 x14 x15 x16 x17 x18 x19 xf0 xf1 xf2 xf3 xf4 xf5 xf6 xf7 xf8 xf9 xf10 xf11 xf12 xf13 xf14 xf15 xf16 xf17 xf18 xf19
  obtain ⟨x0, x1, x2, x3, x4, x5, x6, x7, x8, x9, x10, x11, x12, x13, x14, x15, x16, x17, x18, x19, xf0, xf1, xf2, xf3, xf4, xf5, xf6, xf7, xf8, xf9, xf10, xf11, xf12, xf13, xf14, xf15, xf16, xf17, xf18, xf19⟩ := s3.cellsA
  obtain ⟨w4, e4, s4⟩ := s3.ev_all (evI M 2 t (effI (M.t t)))
  have k4 : Below w.heap.size w w4 := by rw [e4.out]; exact ((((k3.setCell (p := ⟨w.heap.size, 15, none⟩) (Nat.le_refl _) _).setCell (p := ⟨w.heap.size, 16, none⟩) (Nat.le_refl _) _).setCell (p := ⟨w.heap.size, 17, none⟩) (Nat.le_refl _) _).setCell (p := ⟨w.heap.size, 18, none⟩) (Nat.le_refl _) _).setCell (p := ⟨w.heap.size, 19, none⟩) (Nat.le_refl _) _
  go_upto_region 4 with fail
  rw [← e4.out]
  clear e4 s3 k3 x0 x1 x2 x3 x4 x5 x6 x7 x8 x9 x10 x11 x12 x13 x14 x15 x16 x17 x18 x19 xf0 xf1 xf2 xf3 xf4 xf5 xf6 xf7 xf8 xf9 xf10 xf11 xf12 xf13 xf14 xf15 xf16 xf17 xf18 xf19
  obtain ⟨x0, x1, x2, x3, x4, x5, x6, x7, x8, x9, x10, x11, x12, x13, x14, x15, x16, x17, x18, x19, xf0, xf1, xf2, xf3, xf4, xf5, xf6, xf7, xf8, xf9, xf10, xf11, xf12, xf13, xf14, xf15, xf16, xf17, xf18, xf19⟩ := s4.cellsA
  obtain ⟨⟨t0, _⟩, tf⟩ := s4.tcells ht rfl
  have tf0 := tf (t * 8)
  obtain ⟨w5, e5, s5⟩ := s4.setT (t := t) 0 ht (by decide) 2
  go_upto_region 5 with fail
  simp only [Nat.add_zero] at e5
  have k5 : ∀ g, g < w.heap.size → g ≠ tg → w5.heap[g]? = w.heap[g]? := fun g hg hne => by rw [e5.out]; exact (heap_set_ne _ _ hne).trans (k4.block g hg)
  rw [← e5.out]
  clear k4 e5 s4 t0 tf tf0 x0 x1 x2 x3 x4 x5 x6 x7 x8 x9 x10 x11 x12 x13 x14 x15 x16 x17 x18 x19 xf0 xf1 xf2 xf3 xf4 xf5 xf6 xf7 xf8 xf9 xf10 xf11 xf12 xf13 xf14 xf15 xf16 xf17 xf18 xf19
  obtain ⟨x0, x1, x2, x3, x4, x5, x6, x7, x8, x9, x10, x11, x12, x13, x14, x15, x16, x17, x18, x19, xf0, xf1, xf2, xf3, xf4, xf5, xf6, xf7, xf8, xf9, xf10, xf11, xf12, xf13, xf14, xf15, xf16, xf17, xf18, xf19⟩ := s5.cellsA
  obtain ⟨w6, e6, s6⟩ := s5.hand_tim (t : Int)
  have k6 : ∀ g, g < w.heap.size → g ≠ tg → w6.heap[g]? = w.heap[g]? := fun g hg hne => by rw [e6.out]; exact (heap_set_ne _ _ (by omega)).trans (k5 g hg hne)
  go_upto_region 6 with fail
  rw [← e6.out]
  clear k5 e6 s5 x0 x1 x2 x3 x4 x5 x6 x7 x8 x9 x10 x11 x12 x13 x14 x15 x16 x17 x18 x19 xf0 xf1 xf2 xf3 xf4 xf5 xf6 xf7 xf8 xf9 xf10 xf11 xf12 xf13 xf14 xf15 xf16 xf17 xf18 xf19
  refine wp_region_lit ?_
  refine wpList_load_mid (by rfl) 43 _ (by rfl) _ 0 (by rfl) [.int .i64 M.c, (.slice (some ⟨tg, 0, none⟩) M.tn tc), (.slice (some ⟨pg, 0, none⟩) M.pn pc), .int .i64 (⟨h.pos, h.call, (t : Int), h.whe, h.had, h.cnt, h.beg, h.rep, h.out⟩ : Hd).pos, .int .i64 (⟨h.pos, h.call, (t : Int), h.whe, h.had, h.cnt, h.beg, h.rep, h.out⟩ : Hd).call.code, .int .i64 (⟨h.pos, h.call, (t : Int), h.whe, h.had, h.cnt, h.beg, h.rep, h.out⟩ : Hd).call.a, .int .i64 (⟨h.pos, h.call, (t : Int), h.whe, h.had, h.cnt, h.beg, h.rep, h.out⟩ : Hd).call.b, .int .i64 (⟨h.pos, h.call, (t : Int), h.whe, h.had, h.cnt, h.beg, h.rep, h.out⟩ : Hd).call.c, .int .i64 (⟨h.pos, h.call, (t : Int), h.whe, h.had, h.cnt, h.beg, h.rep, h.out⟩ : Hd).tim, .int .i64 (⟨h.pos, h.call, (t : Int), h.whe, h.had, h.cnt, h.beg, h.rep, h.out⟩ : Hd).whe, .bool (⟨h.pos, h.call, (t : Int), h.whe, h.had, h.cnt, h.beg, h.rep, h.out⟩ : Hd).had, .int .i64 (⟨h.pos, h.call, (t : Int), h.whe, h.had, h.cnt, h.beg, h.rep, h.out⟩ : Hd).cnt, .int .i64 (⟨h.pos, h.call, (t : Int), h.whe, h.had, h.cnt, h.beg, h.rep, h.out⟩ : Hd).beg, .int .i64 (⟨h.pos, h.call, (t : Int), h.whe, h.had, h.cnt, h.beg, h.rep, h.out⟩ : Hd).rep, .int .i64 (⟨h.pos, h.call, (t : Int), h.whe, h.had, h.cnt, h.beg, h.rep, h.out⟩ : Hd).out, .int .i64 (evI M 2 t (effI (M.t t))).kin, .int .i64 (evI M 2 t (effI (M.t t))).tim, .int .i64 (evI M 2 t (effI (M.t t))).gen, .int .i64 (evI M 2 t (effI (M.t t))).whe, .int .i64 (evI M 2 t (effI (M.t t))).clk] _ (range_of_block s6.a) Tryz.underlying43 rfl done_info ?_
  refine wpList_store_mid (by rfl) 43 _ _ (by rfl) _ 0 #[.int .i64 M.c, (.slice (some ⟨tg, 0, none⟩) M.tn tc), (.slice (some ⟨pg, 0, none⟩) M.pn pc), .int .i64 (⟨h.pos, h.call, (t : Int), h.whe, h.had, h.cnt, h.beg, h.rep, h.out⟩ : Hd).pos, .int .i64 (⟨h.pos, h.call, (t : Int), h.whe, h.had, h.cnt, h.beg, h.rep, h.out⟩ : Hd).call.code, .int .i64 (⟨h.pos, h.call, (t : Int), h.whe, h.had, h.cnt, h.beg, h.rep, h.out⟩ : Hd).call.a, .int .i64 (⟨h.pos, h.call, (t : Int), h.whe, h.had, h.cnt, h.beg, h.rep, h.out⟩ : Hd).call.b, .int .i64 (⟨h.pos, h.call, (t : Int), h.whe, h.had, h.cnt, h.beg, h.rep, h.out⟩ : Hd).call.c, .int .i64 (⟨h.pos, h.call, (t : Int), h.whe, h.had, h.cnt, h.beg, h.rep, h.out⟩ : Hd).tim, .int .i64 (⟨h.pos, h.call, (t : Int), h.whe, h.had, h.cnt, h.beg, h.rep, h.out⟩ : Hd).whe, .bool (⟨h.pos, h.call, (t : Int), h.whe, h.had, h.cnt, h.beg, h.rep, h.out⟩ : Hd).had, .int .i64 (⟨h.pos, h.call, (t : Int), h.whe, h.had, h.cnt, h.beg, h.rep, h.out⟩ : Hd).cnt, .int .i64 (⟨h.pos, h.call, (t : Int), h.whe, h.had, h.cnt, h.beg, h.rep, h.out⟩ : Hd).beg, .int .i64 (⟨h.pos, h.call, (t : Int), h.whe, h.had, h.cnt, h.beg, h.rep, h.out⟩ : Hd).rep, .int .i64 (⟨h.pos, h.call, (t : Int), h.whe, h.had, h.cnt, h.beg, h.rep, h.out⟩ : Hd).out, .int .i64 (evI M 2 t (effI (M.t t))).kin, .int .i64 (evI M 2 t (effI (M.t t))).tim, .int .i64 (evI M 2 t (effI (M.t t))).gen, .int .i64 (evI M 2 t (effI (M.t t))).whe, .int .i64 (evI M 2 t (effI (M.t t))).clk] (by rfl) (by rfl) s6.there done_info (by simp [Value.oneCell']) ?_
  refine wpList_nil ?_
  go_wp2
  exact bodyPost_ret (v := .agg #[.int .i64 M.c, (.slice (some ⟨tg, 0, none⟩) M.tn tc), (.slice (some ⟨pg, 0, none⟩) M.pn pc), .int .i64 (⟨h.pos, h.call, (t : Int), h.whe, h.had, h.cnt, h.beg, h.rep, h.out⟩ : Hd).pos, .int .i64 (⟨h.pos, h.call, (t : Int), h.whe, h.had, h.cnt, h.beg, h.rep, h.out⟩ : Hd).call.code, .int .i64 (⟨h.pos, h.call, (t : Int), h.whe, h.had, h.cnt, h.beg, h.rep, h.out⟩ : Hd).call.a, .int .i64 (⟨h.pos, h.call, (t : Int), h.whe, h.had, h.cnt, h.beg, h.rep, h.out⟩ : Hd).call.b, .int .i64 (⟨h.pos, h.call, (t : Int), h.whe, h.had, h.cnt, h.beg, h.rep, h.out⟩ : Hd).call.c, .int .i64 (⟨h.pos, h.call, (t : Int), h.whe, h.had, h.cnt, h.beg, h.rep, h.out⟩ : Hd).tim, .int .i64 (⟨h.pos, h.call, (t : Int), h.whe, h.had, h.cnt, h.beg, h.rep, h.out⟩ : Hd).whe, .bool (⟨h.pos, h.call, (t : Int), h.whe, h.had, h.cnt, h.beg, h.rep, h.out⟩ : Hd).had, .int .i64 (⟨h.pos, h.call, (t : Int), h.whe, h.had, h.cnt, h.beg, h.rep, h.out⟩ : Hd).cnt, .int .i64 (⟨h.pos, h.call, (t : Int), h.whe, h.had, h.cnt, h.beg, h.rep, h.out⟩ : Hd).beg, .int .i64 (⟨h.pos, h.call, (t : Int), h.whe, h.had, h.cnt, h.beg, h.rep, h.out⟩ : Hd).rep, .int .i64 (⟨h.pos, h.call, (t : Int), h.whe, h.had, h.cnt, h.beg, h.rep, h.out⟩ : Hd).out, .int .i64 (evI M 2 t (effI (M.t t))).kin, .int .i64 (evI M 2 t (effI (M.t t))).tim, .int .i64 (evI M 2 t (effI (M.t t))).gen, .int .i64 (evI M 2 t (effI (M.t t))).whe, .int .i64 (evI M 2 t (effI (M.t t))).clk]) (results_cell (cs := [.int .i64 M.c, (.slice (some ⟨tg, 0, none⟩) M.tn tc), (.slice (some ⟨pg, 0, none⟩) M.pn pc), .int .i64 (⟨h.pos, h.call, (t : Int), h.whe, h.had, h.cnt, h.beg, h.rep, h.out⟩ : Hd).pos, .int .i64 (⟨h.pos, h.call, (t : Int), h.whe, h.had, h.cnt, h.beg, h.rep, h.out⟩ : Hd).call.code, .int .i64 (⟨h.pos, h.call, (t : Int), h.whe, h.had, h.cnt, h.beg, h.rep, h.out⟩ : Hd).call.a, .int .i64 (⟨h.pos, h.call, (t : Int), h.whe, h.had, h.cnt, h.beg, h.rep, h.out⟩ : Hd).call.b, .int .i64 (⟨h.pos, h.call, (t : Int), h.whe, h.had, h.cnt, h.beg, h.rep, h.out⟩ : Hd).call.c, .int .i64 (⟨h.pos, h.call, (t : Int), h.whe, h.had, h.cnt, h.beg, h.rep, h.out⟩ : Hd).tim, .int .i64 (⟨h.pos, h.call, (t : Int), h.whe, h.had, h.cnt, h.beg, h.rep, h.out⟩ : Hd).whe, .bool (⟨h.pos, h.call, (t : Int), h.whe, h.had, h.cnt, h.beg, h.rep, h.out⟩ : Hd).had, .int .i64 (⟨h.pos, h.call, (t : Int), h.whe, h.had, h.cnt, h.beg, h.rep, h.out⟩ : Hd).cnt, .int .i64 (⟨h.pos, h.call, (t : Int), h.whe, h.had, h.cnt, h.beg, h.rep, h.out⟩ : Hd).beg, .int .i64 (⟨h.pos, h.call, (t : Int), h.whe, h.had, h.cnt, h.beg, h.rep, h.out⟩ : Hd).rep, .int .i64 (⟨h.pos, h.call, (t : Int), h.whe, h.had, h.cnt, h.beg, h.rep, h.out⟩ : Hd).out, .int .i64 (evI M 2 t (effI (M.t t))).kin, .int .i64 (evI M 2 t (effI (M.t t))).tim, .int .i64 (evI M 2 t (effI (M.t t))).gen, .int .i64 (evI M 2 t (effI (M.t t))).whe, .int .i64 (evI M 2 t (effI (M.t t))).clk]) rfl rfl s6.lies Tryz.underlying43 rfl done_info) rfl (⟨s6.retC, fun g hg hne => (heap_setCells_ne (by omega) _ _ _).trans (k6 g hg (fun e => hne (by rw [e]; rfl)))⟩)

set_option maxRecDepth 100000 in
set_option maxHeartbeats 2000000 in
theorem l10Claim_no {B t : Nat} {tv pv : Value} {M : Me} {h : Hd} {v : Et} {w : World} (hB : B ≤ w.heap.size) (hk : 0 < M.pn) (ht : t < M.tn) (he : ¬ 0 ≤ effI (M.t t)) (hm : OwnMem w B tv pv M) :
    Calls Tryz.prog 67 #[dnV ⟨M, h, v⟩ tv pv, .int .i64 (t : Int)] w (fun e w' => InDn B (claimD ⟨M, h, v⟩ t) w e w' ∧ ∀ g, g < w.heap.size → tv.ownBlock ≠ some g → w'.heap[g]? = w.heap[g]?) := by
  rw [show claimD ⟨M, h, v⟩ t = ⟨setTm M t 0 2, ⟨h.pos, h.call, (t : Int), h.whe, h.had, h.cnt, h.beg, h.rep, h.out⟩, v⟩ by
    have he2 : ¬ 0 ≤ effT (M.t t) := he
    rw [claimD, if_neg he2]]
  have heb : decide ((0 : Int) ≤ effI (M.t t)) = false := by simpa using he
  clear he
  obtain ⟨pg, pc, V, rfl, ho⟩ := hm.openP hk
  clear hm
  obtain ⟨tg, tc, rfl, _⟩ := ho.tms ht
  obtain ⟨w1, e1, s1⟩ := DSt.start h v hB ho
  clear ho
  have k1 : Below w.heap.size w w1 := by rw [e1.out]; exact ((Below.refl _ _).alloc (Nat.le_refl _) _).alloc (by simp) _
  have i0 : (0 : Int) ≤ (t : Int) := by omega
  have i1 : (t : Int) < (M.tn : Int) := by omega
  obtain ⟨x0, x1, x2, x3, x4, x5, x6, x7, x8, x9, x10, x11, x12, x13, x14, x15, x16, x17, x18, x19, xf0, xf1, xf2, xf3, xf4, xf5, xf6, xf7, xf8, xf9, xf10, xf11, xf12, xf13, xf14, xf15, xf16, xf17, xf18, xf19⟩ := s1.cellsA
  obtain ⟨⟨t0, t1, t2, t3, t4, t5, t6, t7⟩, _⟩ := s1.tcells ht rfl
  go_enter Tryz.func67, Tryz.ntmps67
  go_upto_region 1 with fail
  rw [← e1.out]
  clear e1
  go_wp2_with fail
  go_at_call 99; refine (l5Effect_any (M.t t) _).mono ?_; rintro e w2 ⟨rfl, hb⟩
  have s2 := s1.below hb
  have k2 := k1.trans (hb.mono k1.size)
  clear s1 hb k1 t0 t1 t2 t3 t4 t5 t6 t7 x0 x1 x2 x3 x4 x5 x6 x7 x8 x9 x10 x11 x12 x13 x14 x15 x16 x17 x18 x19 xf0 xf1 xf2 xf3 xf4 xf5 xf6 xf7 xf8 xf9 xf10 xf11 xf12 xf13 xf14 xf15 xf16 xf17 xf18 xf19
  obtain ⟨x0, x1, x2, x3, x4, x5, x6, x7, x8, x9, x10, x11, x12, x13, x14, x15, x16, x17, x18, x19, xf0, xf1, xf2, xf3, xf4, xf5, xf6, xf7, xf8, xf9, xf10, xf11, xf12, xf13, xf14, xf15, xf16, xf17, xf18, xf19⟩ := s2.cellsA
  go_upto_region 4 with fail
  have s4 := s2
  have k4 := k2
  clear s2 k2
  obtain ⟨⟨t0, _⟩, tf⟩ := s4.tcells ht rfl
  have tf0 := tf (t * 8)
  obtain ⟨w5, e5, s5⟩ := s4.setT (t := t) 0 ht (by decide) 2
  go_upto_region 5 with fail
  simp only [Nat.add_zero] at e5
  have k5 : ∀ g, g < w.heap.size → g ≠ tg → w5.heap[g]? = w.heap[g]? := fun g hg hne => by rw [e5.out]; exact (heap_set_ne _ _ hne).trans (k4.block g hg)
  rw [← e5.out]
  clear k4 e5 s4 t0 tf tf0 x0 x1 x2 x3 x4 x5 x6 x7 x8 x9 x10 x11 x12 x13 x14 x15 x16 x17 x18 x19 xf0 xf1 xf2 xf3 xf4 xf5 xf6 xf7 xf8 xf9 xf10 xf11 xf12 xf13 xf14 xf15 xf16 xf17 xf18 xf19
  obtain ⟨x0, x1, x2, x3, x4, x5, x6, x7, x8, x9, x10, x11, x12, x13, x14, x15, x16, x17, x18, x19, xf0, xf1, xf2, xf3, xf4, xf5, xf6, xf7, xf8, xf9, xf10, xf11, xf12, xf13, xf14, xf15, xf16, xf17, xf18, xf19⟩ := s5.cellsA
  obtain ⟨w6, e6, s6⟩ := s5.hand_tim (t : Int)
  have k6 : ∀ g, g < w.heap.size → g ≠ tg → w6.heap[g]? = w.heap[g]? := fun g hg hne => by rw [e6.out]; exact (heap_set_ne _ _ (by omega)).trans (k5 g hg hne)
  go_upto_region 6 with fail
  rw [← e6.out]
  clear k5 e6 s5 x0 x1 x2 x3 x4 x5 x6 x7 x8 x9 x10 x11 x12 x13 x14 x15 x16 x17 x18 x19 xf0 xf1 xf2 xf3 xf4 xf5 xf6 xf7 xf8 xf9 xf10 xf11 xf12 xf13 xf14 xf15 xf16 xf17 xf18 xf19
  refine wp_region_lit ?_
  refine wpList_load_mid (by rfl) 43 _ (by rfl) _ 0 (by rfl) [.int .i64 M.c, (.slice (some ⟨tg, 0, none⟩) M.tn tc), (.slice (some ⟨pg, 0, none⟩) M.pn pc), .int .i64 (⟨h.pos, h.call, (t : Int), h.whe, h.had, h.cnt, h.beg, h.rep, h.out⟩ : Hd).pos, .int .i64 (⟨h.pos, h.call, (t : Int), h.whe, h.had, h.cnt, h.beg, h.rep, h.out⟩ : Hd).call.code, .int .i64 (⟨h.pos, h.call, (t : Int), h.whe, h.had, h.cnt, h.beg, h.rep, h.out⟩ : Hd).call.a, .int .i64 (⟨h.pos, h.call, (t : Int), h.whe, h.had, h.cnt, h.beg, h.rep, h.out⟩ : Hd).call.b, .int .i64 (⟨h.pos, h.call, (t : Int), h.whe, h.had, h.cnt, h.beg, h.rep, h.out⟩ : Hd).call.c, .int .i64 (⟨h.pos, h.call, (t : Int), h.whe, h.had, h.cnt, h.beg, h.rep, h.out⟩ : Hd).tim, .int .i64 (⟨h.pos, h.call, (t : Int), h.whe, h.had, h.cnt, h.beg, h.rep, h.out⟩ : Hd).whe, .bool (⟨h.pos, h.call, (t : Int), h.whe, h.had, h.cnt, h.beg, h.rep, h.out⟩ : Hd).had, .int .i64 (⟨h.pos, h.call, (t : Int), h.whe, h.had, h.cnt, h.beg, h.rep, h.out⟩ : Hd).cnt, .int .i64 (⟨h.pos, h.call, (t : Int), h.whe, h.had, h.cnt, h.beg, h.rep, h.out⟩ : Hd).beg, .int .i64 (⟨h.pos, h.call, (t : Int), h.whe, h.had, h.cnt, h.beg, h.rep, h.out⟩ : Hd).rep, .int .i64 (⟨h.pos, h.call, (t : Int), h.whe, h.had, h.cnt, h.beg, h.rep, h.out⟩ : Hd).out, .int .i64 v.kin, .int .i64 v.tim, .int .i64 v.gen, .int .i64 v.whe, .int .i64 v.clk] _ (range_of_block s6.a) Tryz.underlying43 rfl done_info ?_
  refine wpList_store_mid (by rfl) 43 _ _ (by rfl) _ 0 #[.int .i64 M.c, (.slice (some ⟨tg, 0, none⟩) M.tn tc), (.slice (some ⟨pg, 0, none⟩) M.pn pc), .int .i64 (⟨h.pos, h.call, (t : Int), h.whe, h.had, h.cnt, h.beg, h.rep, h.out⟩ : Hd).pos, .int .i64 (⟨h.pos, h.call, (t : Int), h.whe, h.had, h.cnt, h.beg, h.rep, h.out⟩ : Hd).call.code, .int .i64 (⟨h.pos, h.call, (t : Int), h.whe, h.had, h.cnt, h.beg, h.rep, h.out⟩ : Hd).call.a, .int .i64 (⟨h.pos, h.call, (t : Int), h.whe, h.had, h.cnt, h.beg, h.rep, h.out⟩ : Hd).call.b, .int .i64 (⟨h.pos, h.call, (t : Int), h.whe, h.had, h.cnt, h.beg, h.rep, h.out⟩ : Hd).call.c, .int .i64 (⟨h.pos, h.call, (t : Int), h.whe, h.had, h.cnt, h.beg, h.rep, h.out⟩ : Hd).tim, .int .i64 (⟨h.pos, h.call, (t : Int), h.whe, h.had, h.cnt, h.beg, h.rep, h.out⟩ : Hd).whe, .bool (⟨h.pos, h.call, (t : Int), h.whe, h.had, h.cnt, h.beg, h.rep, h.out⟩ : Hd).had, .int .i64 (⟨h.pos, h.call, (t : Int), h.whe, h.had, h.cnt, h.beg, h.rep, h.out⟩ : Hd).cnt, .int .i64 (⟨h.pos, h.call, (t : Int), h.whe, h.had, h.cnt, h.beg, h.rep, h.out⟩ : Hd).beg, .int .i64 (⟨h.pos, h.call, (t : Int), h.whe, h.had, h.cnt, h.beg, h.rep, h.out⟩ : Hd).rep, .int .i64 (⟨h.pos, h.call, (t : Int), h.whe, h.had, h.cnt, h.beg, h.rep, h.out⟩ : Hd).out, .int .i64 v.kin, .int .i64 v.tim, .int .i64 v.gen, .int .i64 v.whe, .int .i64 v.clk] (by rfl) (by rfl) s6.there done_info (by simp [Value.oneCell']) ?_
  refine wpList_nil ?_
  go_wp2
  exact bodyPost_ret (v := .agg #[.int .i64 M.c, (.slice (some ⟨tg, 0, none⟩) M.tn tc), (.slice (some ⟨pg, 0, none⟩) M.pn pc), .int .i64 (⟨h.pos, h.call, (t : Int), h.whe, h.had, h.cnt, h.beg, h.rep, h.out⟩ : Hd).pos, .int .i64 (⟨h.pos, h.call, (t : Int), h.whe, h.had, h.cnt, h.beg, h.rep, h.out⟩ : Hd).call.code, .int .i64 (⟨h.pos, h.call, (t : Int), h.whe, h.had, h.cnt, h.beg, h.rep, h.out⟩ : Hd).call.a, .int .i64 (⟨h.pos, h.call, (t : Int), h.whe, h.had, h.cnt, h.beg, h.rep, h.out⟩ : Hd).call.b, .int .i64 (⟨h.pos, h.call, (t : Int), h.whe, h.had, h.cnt, h.beg, h.rep, h.out⟩ : Hd).call.c, .int .i64 (⟨h.pos, h.call, (t : Int), h.whe, h.had, h.cnt, h.beg, h.rep, h.out⟩ : Hd).tim, .int .i64 (⟨h.pos, h.call, (t : Int), h.whe, h.had, h.cnt, h.beg, h.rep, h.out⟩ : Hd).whe, .bool (⟨h.pos, h.call, (t : Int), h.whe, h.had, h.cnt, h.beg, h.rep, h.out⟩ : Hd).had, .int .i64 (⟨h.pos, h.call, (t : Int), h.whe, h.had, h.cnt, h.beg, h.rep, h.out⟩ : Hd).cnt, .int .i64 (⟨h.pos, h.call, (t : Int), h.whe, h.had, h.cnt, h.beg, h.rep, h.out⟩ : Hd).beg, .int .i64 (⟨h.pos, h.call, (t : Int), h.whe, h.had, h.cnt, h.beg, h.rep, h.out⟩ : Hd).rep, .int .i64 (⟨h.pos, h.call, (t : Int), h.whe, h.had, h.cnt, h.beg, h.rep, h.out⟩ : Hd).out, .int .i64 v.kin, .int .i64 v.tim, .int .i64 v.gen, .int .i64 v.whe, .int .i64 v.clk]) (results_cell (cs := [.int .i64 M.c, (.slice (some ⟨tg, 0, none⟩) M.tn tc), (.slice (some ⟨pg, 0, none⟩) M.pn pc), .int .i64 (⟨h.pos, h.call, (t : Int), h.whe, h.had, h.cnt, h.beg, h.rep, h.out⟩ : Hd).pos, .int .i64 (⟨h.pos, h.call, (t : Int), h.whe, h.had, h.cnt, h.beg, h.rep, h.out⟩ : Hd).call.code, .int .i64 (⟨h.pos, h.call, (t : Int), h.whe, h.had, h.cnt, h.beg, h.rep, h.out⟩ : Hd).call.a, .int .i64 (⟨h.pos, h.call, (t : Int), h.whe, h.had, h.cnt, h.beg, h.rep, h.out⟩ : Hd).call.b, .int .i64 (⟨h.pos, h.call, (t : Int), h.whe, h.had, h.cnt, h.beg, h.rep, h.out⟩ : Hd).call.c, .int .i64 (⟨h.pos, h.call, (t : Int), h.whe, h.had, h.cnt, h.beg, h.rep, h.out⟩ : Hd).tim, .int .i64 (⟨h.pos, h.call, (t : Int), h.whe, h.had, h.cnt, h.beg, h.rep, h.out⟩ : Hd).whe, .bool (⟨h.pos, h.call, (t : Int), h.whe, h.had, h.cnt, h.beg, h.rep, h.out⟩ : Hd).had, .int .i64 (⟨h.pos, h.call, (t : Int), h.whe, h.had, h.cnt, h.beg, h.rep, h.out⟩ : Hd).cnt, .int .i64 (⟨h.pos, h.call, (t : Int), h.whe, h.had, h.cnt, h.beg, h.rep, h.out⟩ : Hd).beg, .int .i64 (⟨h.pos, h.call, (t : Int), h.whe, h.had, h.cnt, h.beg, h.rep, h.out⟩ : Hd).rep, .int .i64 (⟨h.pos, h.call, (t : Int), h.whe, h.had, h.cnt, h.beg, h.rep, h.out⟩ : Hd).out, .int .i64 v.kin, .int .i64 v.tim, .int .i64 v.gen, .int .i64 v.whe, .int .i64 v.clk]) rfl rfl s6.lies Tryz.underlying43 rfl done_info) rfl (⟨s6.retC, fun g hg hne => (heap_setCells_ne (by omega) _ _ _).trans (k6 g hg (fun e => hne (by rw [e]; rfl)))⟩)

theorem l10Claim_any {B t : Nat} {tv pv : Value} {M : Me} {h : Hd} {v : Et} {w : World} (hB : B ≤ w.heap.size) (hk : 0 < M.pn) (ht : t < M.tn) (hm : OwnMem w B tv pv M) :
    Calls Tryz.prog 67 #[dnV ⟨M, h, v⟩ tv pv, .int .i64 (t : Int)] w (fun e w' => InDn B (claimD ⟨M, h, v⟩ t) w e w' ∧ ∀ g, g < w.heap.size → tv.ownBlock ≠ some g → w'.heap[g]? = w.heap[g]?) := by
  by_cases he : 0 ≤ effI (M.t t)
  · exact l10Claim_yes hB hk ht he hm
  · exact l10Claim_no hB hk ht he hm

set_option maxRecDepth 100000 in
set_option maxHeartbeats 1000000 in
theorem l10Mine_any {B : Nat} {tv pv : Value} {M : Me} {h : Hd} {v : Et} {w : World} (ht : 0 ≤ h.tim → h.tim.toNat < M.tn) (hm : OwnMem w B tv pv M) :
    Calls Tryz.prog 40 #[dnV ⟨M, h, v⟩ tv pv] w fun e w' => e = .returned (.bool (mineB ⟨M, h, v⟩)) ∧ Below w.heap.size w w' := by
  by_cases h0 : h.tim < 0
  case pos =>
    have E : mineB ⟨M, h, v⟩ = false := by simp [mineB]; omega
    rw [E]
    have hb : decide ((0 : Int) ≤ h.tim) = false := by simp; omega
    have kA := (Below.refl w.heap.size w).alloc (Nat.le_refl _) (.cells #[.int .i64 M.c, tv, pv, .int .i64 h.pos, .int .i64 h.call.code, .int .i64 h.call.a, .int .i64 h.call.b, .int .i64 h.call.c, .int .i64 h.tim, .int .i64 h.whe, .bool h.had, .int .i64 h.cnt, .int .i64 h.beg, .int .i64 h.rep, .int .i64 h.out, .int .i64 v.kin, .int .i64 v.tim, .int .i64 v.gen, .int .i64 v.whe, .int .i64 v.clk] 43)
    have hA := heap_alloc_new w (.cells #[.int .i64 M.c, tv, pv, .int .i64 h.pos, .int .i64 h.call.code, .int .i64 h.call.a, .int .i64 h.call.b, .int .i64 h.call.c, .int .i64 h.tim, .int .i64 h.whe, .bool h.had, .int .i64 h.cnt, .int .i64 h.beg, .int .i64 h.rep, .int .i64 h.out, .int .i64 v.kin, .int .i64 v.tim, .int .i64 v.gen, .int .i64 v.whe, .int .i64 v.clk] 43)
    have x8 : (w.alloc (.cells #[.int .i64 M.c, tv, pv, .int .i64 h.pos, .int .i64 h.call.code, .int .i64 h.call.a, .int .i64 h.call.b, .int .i64 h.call.c, .int .i64 h.tim, .int .i64 h.whe, .bool h.had, .int .i64 h.cnt, .int .i64 h.beg, .int .i64 h.rep, .int .i64 h.out, .int .i64 v.kin, .int .i64 v.tim, .int .i64 v.gen, .int .i64 v.whe, .int .i64 v.clk] 43)).cell? ⟨w.heap.size, 8, none⟩ = some (.int .i64 h.tim) := cell_of_block hA 8
    clear h0 E ht hm hA
    go_enter Tryz.func40, Tryz.ntmps40
    go_wp2
    go_ret
    exact ⟨rfl, kA⟩
  obtain ⟨t, het⟩ : ∃ t : Nat, h.tim = (t : Int) := ⟨h.tim.toNat, by omega⟩
  have ht2 : t < M.tn := by have := ht (by omega); omega
  obtain ⟨tg, tc, rfl, hO⟩ : ∃ tg tc, tv = .slice (some ⟨tg, 0, none⟩) M.tn tc ∧ OwnTAt w B tg M.tn tc M.t := by
    rcases hm.1 with ⟨e, _⟩ | ⟨g, cap, e, h⟩
    · omega
    · exact ⟨g, cap, e, h⟩
  have E : mineB ⟨M, h, v⟩ = ((M.t t).st == 2 && (M.t t).pl != -1) := by simp [mineB, het]
  rw [E]
  have kA := (Below.refl w.heap.size w).alloc (Nat.le_refl _) (.cells #[.int .i64 M.c, (.slice (some ⟨tg, 0, none⟩) M.tn tc), pv, .int .i64 h.pos, .int .i64 h.call.code, .int .i64 h.call.a, .int .i64 h.call.b, .int .i64 h.call.c, .int .i64 h.tim, .int .i64 h.whe, .bool h.had, .int .i64 h.cnt, .int .i64 h.beg, .int .i64 h.rep, .int .i64 h.out, .int .i64 v.kin, .int .i64 v.tim, .int .i64 v.gen, .int .i64 v.whe, .int .i64 v.clk] 43)
  have hA := heap_alloc_new w (.cells #[.int .i64 M.c, (.slice (some ⟨tg, 0, none⟩) M.tn tc), pv, .int .i64 h.pos, .int .i64 h.call.code, .int .i64 h.call.a, .int .i64 h.call.b, .int .i64 h.call.c, .int .i64 h.tim, .int .i64 h.whe, .bool h.had, .int .i64 h.cnt, .int .i64 h.beg, .int .i64 h.rep, .int .i64 h.out, .int .i64 v.kin, .int .i64 v.tim, .int .i64 v.gen, .int .i64 v.whe, .int .i64 v.clk] 43)
  have x8 : (w.alloc (.cells #[.int .i64 M.c, (.slice (some ⟨tg, 0, none⟩) M.tn tc), pv, .int .i64 h.pos, .int .i64 h.call.code, .int .i64 h.call.a, .int .i64 h.call.b, .int .i64 h.call.c, .int .i64 h.tim, .int .i64 h.whe, .bool h.had, .int .i64 h.cnt, .int .i64 h.beg, .int .i64 h.rep, .int .i64 h.out, .int .i64 v.kin, .int .i64 v.tim, .int .i64 v.gen, .int .i64 v.whe, .int .i64 v.clk] 43)).cell? ⟨w.heap.size, 8, none⟩ = some (.int .i64 (t : Int)) := by rw [← het]; exact cell_of_block hA 8
  have x1 : (w.alloc (.cells #[.int .i64 M.c, (.slice (some ⟨tg, 0, none⟩) M.tn tc), pv, .int .i64 h.pos, .int .i64 h.call.code, .int .i64 h.call.a, .int .i64 h.call.b, .int .i64 h.call.c, .int .i64 h.tim, .int .i64 h.whe, .bool h.had, .int .i64 h.cnt, .int .i64 h.beg, .int .i64 h.rep, .int .i64 h.out, .int .i64 v.kin, .int .i64 v.tim, .int .i64 v.gen, .int .i64 v.whe, .int .i64 v.clk] 43)).cell? ⟨w.heap.size, 1, none⟩ = some (.slice (some ⟨tg, 0, none⟩) M.tn tc) := cell_of_block hA 1
  have hO2 := hO.below kA
  have t0 : (w.alloc (.cells #[.int .i64 M.c, (.slice (some ⟨tg, 0, none⟩) M.tn tc), pv, .int .i64 h.pos, .int .i64 h.call.code, .int .i64 h.call.a, .int .i64 h.call.b, .int .i64 h.call.c, .int .i64 h.tim, .int .i64 h.whe, .bool h.had, .int .i64 h.cnt, .int .i64 h.beg, .int .i64 h.rep, .int .i64 h.out, .int .i64 v.kin, .int .i64 v.tim, .int .i64 v.gen, .int .i64 v.whe, .int .i64 v.clk] 43)).cell? ⟨tg, t * 8, none⟩ = some (.int .i64 (M.t t).st) := hO2.cells ht2 0 (by decide)
  have t4 : (w.alloc (.cells #[.int .i64 M.c, (.slice (some ⟨tg, 0, none⟩) M.tn tc), pv, .int .i64 h.pos, .int .i64 h.call.code, .int .i64 h.call.a, .int .i64 h.call.b, .int .i64 h.call.c, .int .i64 h.tim, .int .i64 h.whe, .bool h.had, .int .i64 h.cnt, .int .i64 h.beg, .int .i64 h.rep, .int .i64 h.out, .int .i64 v.kin, .int .i64 v.tim, .int .i64 v.gen, .int .i64 v.whe, .int .i64 v.clk] 43)).cell? ⟨tg, t * 8 + 4, none⟩ = some (.int .i64 (M.t t).pl) := hO2.cells ht2 4 (by decide)
  have hb : decide ((0 : Int) ≤ (t : Int)) = true := by simp
  have i0 : (0 : Int) ≤ (t : Int) := by omega
  have i1 : (t : Int) < (M.tn : Int) := by omega
  clear h0 E ht hm hA hO hO2 het
  cases hs : (M.t t).st == 2
  · go_enter Tryz.func40, Tryz.ntmps40
    go_upto_region 1 with fail
    generalize w.alloc (.cells #[.int .i64 M.c, (.slice (some ⟨tg, 0, none⟩) M.tn tc), pv, .int .i64 h.pos, .int .i64 h.call.code, .int .i64 h.call.a, .int .i64 h.call.b, .int .i64 h.call.c, .int .i64 h.tim, .int .i64 h.whe, .bool h.had, .int .i64 h.cnt, .int .i64 h.beg, .int .i64 h.rep, .int .i64 h.out, .int .i64 v.kin, .int .i64 v.tim, .int .i64 v.gen, .int .i64 v.whe, .int .i64 v.clk] 43) = w1 at x8 x1 t0 t4 kA ⊢
    go_wp2
    go_ret
    exact ⟨ret_bool' (by simp), kA⟩
  · go_enter Tryz.func40, Tryz.ntmps40
    go_upto_region 1 with fail
    generalize w.alloc (.cells #[.int .i64 M.c, (.slice (some ⟨tg, 0, none⟩) M.tn tc), pv, .int .i64 h.pos, .int .i64 h.call.code, .int .i64 h.call.a, .int .i64 h.call.b, .int .i64 h.call.c, .int .i64 h.tim, .int .i64 h.whe, .bool h.had, .int .i64 h.cnt, .int .i64 h.beg, .int .i64 h.rep, .int .i64 h.out, .int .i64 v.kin, .int .i64 v.tim, .int .i64 v.gen, .int .i64 v.whe, .int .i64 v.clk] 43) = w1 at x8 x1 t0 t4 kA ⊢
    go_wp2
    go_ret
    exact ⟨ret_bool' (by simp), kA⟩

end Go.Proofs.YtflekodaiejflaaGreatDoor

/-
  The face of stopping (spec, chapter 10).
-/
namespace Go.Proofs.YtflekodaiejflaaGreatDoor
open Go.Deep Go.ChangeShapes Go.WideShapes Go.ChangeAt Go.RowKit Go.Joins
set_option linter.unusedVariables false
set_option linter.unusedSimpArgs false

set_option maxRecDepth 100000 in
set_option maxHeartbeats 8000000 in
theorem l10Of_any (a b c d x y : Int) (h : Hd) {tv pv : Value} {M : Me} {w : World} (hs : sizeM M ≤ 1048576) (hm : MemAt w tv pv M) :
    Calls Tryz.prog 20 #[.agg #[.int .i64 a, .int .i64 b, .int .i64 c], meV M.c tv pv, .int .i64 d, hdV h, .int .i64 x, .int .i64 y] w fun e w' => e = .returned (.bool (stepFit a b c d M h && ((h.pos == 5 && h.call.code == x) || h.pos == y))) ∧ Below w.heap.size w w' := by
  obtain ⟨va, vc, qa, qc, rfl, rfl⟩ := hm.form
  have hn := (sizeM_le hs).1
  have k0 := ((((Below.refl w.heap.size w).alloc (Nat.le_refl _) (.cells #[.int .i64 a, .int .i64 b, .int .i64 c] 46)).alloc (by simp) (.cells #[.int .i64 M.c, .slice va M.tn vc, .slice qa M.pn qc] 36)).alloc (by simp; omega) (.cells #[.int .i64 h.pos, .int .i64 h.call.code, .int .i64 h.call.a, .int .i64 h.call.b, .int .i64 h.call.c, .int .i64 h.tim, .int .i64 h.whe, .bool h.had, .int .i64 h.cnt, .int .i64 h.beg, .int .i64 h.rep, .int .i64 h.out] 39))
  have kk := Below.refl (((w.alloc (.cells #[.int .i64 a, .int .i64 b, .int .i64 c] 46)).alloc (.cells #[.int .i64 M.c, .slice va M.tn vc, .slice qa M.pn qc] 36)).alloc (.cells #[.int .i64 h.pos, .int .i64 h.call.code, .int .i64 h.call.a, .int .i64 h.call.b, .int .i64 h.call.c, .int .i64 h.tim, .int .i64 h.whe, .bool h.had, .int .i64 h.cnt, .int .i64 h.beg, .int .i64 h.rep, .int .i64 h.out] 39)).heap.size (((w.alloc (.cells #[.int .i64 a, .int .i64 b, .int .i64 c] 46)).alloc (.cells #[.int .i64 M.c, .slice va M.tn vc, .slice qa M.pn qc] 36)).alloc (.cells #[.int .i64 h.pos, .int .i64 h.call.code, .int .i64 h.call.a, .int .i64 h.call.b, .int .i64 h.call.c, .int .i64 h.tim, .int .i64 h.whe, .bool h.had, .int .i64 h.cnt, .int .i64 h.beg, .int .i64 h.rep, .int .i64 h.out] 39))
  have HM := Lib.hid (fun (w' : World) (hb : Below w.heap.size w w') => hm.below hb)
  clear hm
  cases g0 : stepFit a b c d M h
  · skip
    go_enter Tryz.func20, Tryz.ntmps20
    go_wp2_with (first
      | (go_at_call 38; refine (spFit_any _ _ _ _ _ hs (HM.out _ (k0.trans (kk.mono k0.size)))).mono ?_; rintro e w1 ⟨rfl, hb⟩; replace kk := kk.trans (hb.mono kk.size); clear hb; (try clear hc hf); obtain ⟨hc, hf⟩ := bcell kk))
    go_ret
    exact ⟨ret_bool' (by simp []), k0.trans (kk.mono k0.size)⟩
  cases g1 : h.pos == 5
  · skip
    go_enter Tryz.func20, Tryz.ntmps20
    go_wp2_with (first
      | (go_at_call 38; refine (spFit_any _ _ _ _ _ hs (HM.out _ (k0.trans (kk.mono k0.size)))).mono ?_; rintro e w1 ⟨rfl, hb⟩; replace kk := kk.trans (hb.mono kk.size); clear hb; (try clear hc hf); obtain ⟨hc, hf⟩ := bcell kk))
    go_ret
    exact ⟨ret_bool' (by simp []), k0.trans (kk.mono k0.size)⟩
  cases g2 : h.call.code == x
  · skip
    go_enter Tryz.func20, Tryz.ntmps20
    go_wp2_with (first
      | (go_at_call 38; refine (spFit_any _ _ _ _ _ hs (HM.out _ (k0.trans (kk.mono k0.size)))).mono ?_; rintro e w1 ⟨rfl, hb⟩; replace kk := kk.trans (hb.mono kk.size); clear hb; (try clear hc hf); obtain ⟨hc, hf⟩ := bcell kk))
    go_ret
    exact ⟨ret_bool' (by simp []), k0.trans (kk.mono k0.size)⟩
  go_enter Tryz.func20, Tryz.ntmps20
  go_wp2_with (first
    | (go_at_call 38; refine (spFit_any _ _ _ _ _ hs (HM.out _ (k0.trans (kk.mono k0.size)))).mono ?_; rintro e w1 ⟨rfl, hb⟩; replace kk := kk.trans (hb.mono kk.size); clear hb; (try clear hc hf); obtain ⟨hc, hf⟩ := bcell kk))
  go_ret
  exact ⟨ret_bool' (by simp []), k0.trans (kk.mono k0.size)⟩

theorem stepFit_places {a b c d : Int} {M : Me} {h : Hd} (hq : stepFit a b c d M h = true) : M.tn ≤ 1048576 ∧ 0 < M.pn ∧ (∀ i, i < M.tn → (M.t i).pl ≠ -1 → ∃ k : Nat, k < M.pn ∧ (M.t i).pl = (k : Int)) ∧ (∀ k, k < M.pn → 0 ≤ (M.p k).d ∧ (M.p k).d ≤ 1000) := by
  have F := stepFit_facts hq
  have e := F.pn
  refine ⟨Nat.le_trans F.tn (by decide), by omega, fun i hi hp => ?_, fun k hk => ?_⟩
  · have h1 := F.tm i hi
    simp only [timerB, placeB, Bool.and_eq_true] at h1
    have hp' := h1.2.2.2.2.2.2.2.2.1
    have hproc : procB a b c (M.t i).pl = true := by
      cases hin : inHeapB (M.t i).st
      · rw [hin] at hp'
        simp at hp'
        rcases hp' with e | e
        · exact absurd e hp
        · exact e.2
      · rw [hin] at hp'
        simpa using hp'
    have h2 := (procB_iff.1 hproc).2
    exact ⟨(M.t i).pl.toNat, by omega, by omega⟩
  · have h1 := F.d k hk
    have h2 := F.n k hk
    omega

end Go.Proofs.YtflekodaiejflaaGreatDoor
