/-
  Stopping (spec, chapter 10).
-/
import Derived.Test.YtflekodaiejflaaGreatDoorL15
import Derived.Deep.QuietTactic
import Derived.BigQuiet
import Derived.Deep.DeepCutAuto
namespace Go.Proofs.YtflekodaiejflaaGreatDoor
open Go.Deep Go.ChangeShapes Go.WideShapes Go.ChangeAt Go.RowKit Go.Joins
set_option linter.unusedVariables false
set_option linter.unusedSimpArgs false

section
variable {w0 w w' : World} {B A R pg pn pc : Nat} {c : Int} {tv : Value} {V : Nat → Value} {M : Me} {h : Hd} {v : Et}
/-- all that a call answered comes into the parameter's block -/
theorem DSt.callAll {D' : Dn} {e : Ending} {k : Nat} (s : DSt w0 w B A R c tv pg pn pc V M h v) (hI : InDn B D' w e w') (hc : D'.m.c = c) (hp : D'.m.pn = pn) (hk : k < pn) :
    ∃ ta tc pg' pc' V', e = .returned (dnV D' (.slice ta D'.m.tn tc) (.slice (some ⟨pg', 0, none⟩) pn pc')) ∧ w'.there A 0 20 ∧
      DSt w0 (w'.setCells A 0 (dnCells D' (.slice ta D'.m.tn tc) (.slice (some ⟨pg', 0, none⟩) pn pc')).toList) B A R c (.slice ta D'.m.tn tc) pg' pn pc' V' D'.m D'.h D'.v := by
  subst hc hp
  obtain ⟨tv', pv', rfl, ho, hk'⟩ := hI
  obtain ⟨pg', pc', V', rfl, hop⟩ := ho.openP hk
  obtain ⟨ta, tc, rfl⟩ := hop.t.row.form
  have hA := hk'.kept s.a (by decide)
  have hR := hk'.kept s.r (by decide)
  have ht : w'.there A 0 20 := there_of_block hA
  exact ⟨ta, tc, pg', pc', V', rfl, ht, hop.other hA (by decide) (by decide) (by decide) (fun y hy => heap_setCells_ne hy _ _ _), wk_setCells s.b s.la _ 0 (s.k.trans hk'), heap_setCells hA rfl, (heap_setCells_ne (Ne.symm s.ne) _ _ _).trans hR, s.b, s.la, s.lr, s.ne, rfl, rfl⟩
end

set_option maxRecDepth 100000 in
set_option maxHeartbeats 2000000 in
theorem l10Claim_yes {B t : Nat} {tv pv : Value} {M : Me} {h : Hd} {v : Et} {w : World} (hB : B ≤ w.heap.size) (hk : 0 < M.pn) (ht : t < M.tn) (he : 0 ≤ effI (M.t t)) (hm : OwnMem w B tv pv M) :
    Calls Tryz.prog 67 #[dnV ⟨M, h, v⟩ tv pv, .int .i64 (t : Int)] w (fun e w' => InDn B (claimD ⟨M, h, v⟩ t) w e w' ∧ ∀ g, g < w.heap.size → tv.ownBlock ≠ some g → w'.heap[g]? = w.heap[g]?) := by
  rw [show claimD ⟨M, h, v⟩ t = ⟨setTm M t 0 2, ⟨h.pos, h.call, (t : Int), h.whe, h.had, h.cnt, h.beg, h.rep, h.out⟩, evI M 2 t (effI (M.t t))⟩ by
    have he2 : 0 ≤ effT (M.t t) := he
    rw [claimD, if_pos he2]; rfl]
  have heb : decide ((0 : Int) ≤ effI (M.t t)) = true := by simpa using he
  clear he
  obtain ⟨pg, pc, V, rfl, ho⟩ := hm.openP hk
  clear hm
  obtain ⟨tg, tc, rfl, _⟩ := ho.tms ht
  obtain ⟨w1, e1, s1⟩ := DSt.start h v hB ho
  clear ho
  have k1 : Below w.heap.size w w1 := by rw [e1.out]; exact ((Below.refl _ _).alloc (Nat.le_refl _) _).alloc (by simp) _
  have i0 : (0 : Int) ≤ (t : Int) := by omega
  have i1 : (t : Int) < (M.tn : Int) := by omega
  obtain ⟨x0, x1, x2, x3, x4, x5, x6, x7, x8, x9, x10, x11, x12, x13, x14, x15, x16, x17, x18, x19, xf0, xf1, xf2, xf3, xf4, xf5, xf6, xf7, xf8, xf9, xf10, xf11, xf12, xf13, xf14, xf15, xf16, xf17, xf18, xf19⟩ := s1.cellsA
  obtain ⟨⟨t0, t1, t2, t3, t4, t5, t6, t7⟩, _⟩ := s1.tcells ht rfl
  go_enter Tryz.func67, Tryz.ntmps67
  go_upto_region 1 with fail
  rw [← e1.out]
  clear e1
  go_wp2_with fail
  go_at_call 99; refine (l5Effect_any (M.t t) _).mono ?_; rintro e w2 ⟨rfl, hb⟩
  have s2 := s1.below hb
  have k2 := k1.trans (hb.mono k1.size)
  clear s1 hb k1 t0 t1 t2 t3 t4 t5 t6 t7 x0 x1 x2 x3 x4 x5 x6 x7 x8 x9 x10 x11 x12 x13 x14 x15 x16 x17 x18 x19 xf0 xf1 xf2 xf3 xf4 xf5 xf6 xf7 xf8 xf9 xf10 xf11 xf12 xf13 xf14 xf15 xf16 xf17 xf18 xf19
  obtain ⟨x0, x1, x2, x3, x4, x5, x6, x7, x8, x9, x10, x11, x12, x13, x14, x15, x16, x17, x18, x19, xf0, xf1, xf2, xf3, xf4, xf5, xf6, xf7, xf8, xf9, xf10, xf11, xf12, xf13, xf14, xf15, xf16, xf17, xf18, xf19⟩ := s2.cellsA
  have hEv := l9Ev_any (w := w2) 2 (effI (M.t t)) ht s2.own
  have HEv := Lib.hid hEv
  clear hEv
  go_upto_region 3 with fail
  go_wp2_with fail
  go_at_call 59; refine HEv.out.mono ?_; rintro e w3 ⟨rfl, hb⟩
  have s3 := s2.below hb
  have k3 := k2.trans (hb.mono k2.size)
  clear s2 HEv hb k2 x0 x1 x2 x3 x4 x5 x6 x7 x8 x9 x10 x11 x12 x13 x14 x15 x16 x17 x18 x19 xf0 xf1 xf2 xf3 xf4 xf5 xf6 xf7 xf8 xf9 xf10 xf11 xf12 xf13 xf14 xf15 xf16 xf17 xf18 xf19
  obtain ⟨x0, x1, x2, x3, x4, x5, x6, x7, x8, x9, x10, x11, x12, x13, x14, x15, x16, x17, x18, x19, xf0, xf1, xf2, xf3, xf4, xf5, xf6, xf7, xf8, xf9, xf10, xf11, xf12, xf13, xf14, xf15, xf16, xf17, xf18, xf19⟩ := s3.cellsA
  obtain ⟨w4, e4, s4⟩ := s3.ev_all (evI M 2 t (effI (M.t t)))
  have k4 : Below w.heap.size w w4 := by rw [e4.out]; exact ((((k3.setCell (p := ⟨w.heap.size, 15, none⟩) (Nat.le_refl _) _).setCell (p := ⟨w.heap.size, 16, none⟩) (Nat.le_refl _) _).setCell (p := ⟨w.heap.size, 17, none⟩) (Nat.le_refl _) _).setCell (p := ⟨w.heap.size, 18, none⟩) (Nat.le_refl _) _).setCell (p := ⟨w.heap.size, 19, none⟩) (Nat.le_refl _) _
  go_upto_region 4 with fail
  rw [← e4.out]
  clear e4 s3 k3 x0 x1 x2 x3 x4 x5 x6 x7 x8 x9 x10 x11 x12 x13 x14 x15 x16 x17 x18 x19 xf0 xf1 xf2 xf3 xf4 xf5 xf6 xf7 xf8 xf9 xf10 xf11 xf12 xf13 xf14 xf15 xf16 xf17 xf18 xf19
  obtain ⟨x0, x1, x2, x3, x4, x5, x6, x7, x8, x9, x10, x11, x12, x13, x14, x15, x16, x17, x18, x19, xf0, xf1, xf2, xf3, xf4, xf5, xf6, xf7, xf8, xf9, xf10, xf11, xf12, xf13, xf14, xf15, xf16, xf17, xf18, xf19⟩ := s4.cellsA
  obtain ⟨⟨t0, _⟩, tf⟩ := s4.tcells ht rfl
  have tf0 := tf (t * 8)
  obtain ⟨w5, e5, s5⟩ := s4.setT (t := t) 0 ht (by decide) 2
  go_upto_region 5 with fail
  simp only [Nat.add_zero] at e5
  have k5 : ∀ g, g < w.heap.size → g ≠ tg → w5.heap[g]? = w.heap[g]? := fun g hg hne => by rw [e5.out]; exact (heap_set_ne _ _ hne).trans (k4.block g hg)
  rw [← e5.out]
  clear k4 e5 s4 t0 tf tf0 x0 x1 x2 x3 x4 x5 x6 x7 x8 x9 x10 x11 x12 x13 x14 x15 x16 x17 x18 x19 xf0 xf1 xf2 xf3 xf4 xf5 xf6 xf7 xf8 xf9 xf10 xf11 xf12 xf13 xf14 xf15 xf16 xf17 xf18 xf19
  obtain ⟨x0, x1, x2, x3, x4, x5, x6, x7, x8, x9, x10, x11, x12, x13, x14, x15, x16, x17, x18, x19, xf0, xf1, xf2, xf3, xf4, xf5, xf6, xf7, xf8, xf9, xf10, xf11, xf12, xf13, xf14, xf15, xf16, xf17, xf18, xf19⟩ := s5.cellsA
  obtain ⟨w6, e6, s6⟩ := s5.hand_tim (t : Int)
  have k6 : ∀ g, g < w.heap.size → g ≠ tg → w6.heap[g]? = w.heap[g]? := fun g hg hne => by rw [e6.out]; exact (heap_set_ne _ _ (by omega)).trans (k5 g hg hne)
  go_upto_region 6 with fail
  rw [← e6.out]
  clear k5 e6 s5 x0 x1 x2 x3 x4 x5 x6 x7 x8 x9 x10 x11 x12 x13 x14 x15 x16 x17 x18 x19 xf0 xf1 xf2 xf3 xf4 xf5 xf6 xf7 xf8 xf9 xf10 xf11 xf12 xf13 xf14 xf15 xf16 xf17 xf18 xf19
  refine wp_region_lit ?_
  refine wpList_load_mid (by rfl) 43 _ (by rfl) _ 0 (by rfl) [.int .i64 M.c, (.slice (some ⟨tg, 0, none⟩) M.tn tc), (.slice (some ⟨pg, 0, none⟩) M.pn pc), .int .i64 (⟨h.pos, h.call, (t : Int), h.whe, h.had, h.cnt, h.beg, h.rep, h.out⟩ : Hd).pos, .int .i64 (⟨h.pos, h.call, (t : Int), h.whe, h.had, h.cnt, h.beg, h.rep, h.out⟩ : Hd).call.code, .int .i64 (⟨h.pos, h.call, (t : Int), h.whe, h.had, h.cnt, h.beg, h.rep, h.out⟩ : Hd).call.a, .int .i64 (⟨h.pos, h.call, (t : Int), h.whe, h.had, h.cnt, h.beg, h.rep, h.out⟩ : Hd).call.b, .int .i64 (⟨h.pos, h.call, (t : Int), h.whe, h.had, h.cnt, h.beg, h.rep, h.out⟩ : Hd).call.c, .int .i64 (⟨h.pos, h.call, (t : Int), h.whe, h.had, h.cnt, h.beg, h.rep, h.out⟩ : Hd).tim, .int .i64 (⟨h.pos, h.call, (t : Int), h.whe, h.had, h.cnt, h.beg, h.rep, h.out⟩ : Hd).whe, .bool (⟨h.pos, h.call, (t : Int), h.whe, h.had, h.cnt, h.beg, h.rep, h.out⟩ : Hd).had, .int .i64 (⟨h.pos, h.call, (t : Int), h.whe, h.had, h.cnt, h.beg, h.rep, h.out⟩ : Hd).cnt, .int .i64 (⟨h.pos, h.call, (t : Int), h.whe, h.had, h.cnt, h.beg, h.rep, h.out⟩ : Hd).beg, .int .i64 (⟨h.pos, h.call, (t : Int), h.whe, h.had, h.cnt, h.beg, h.rep, h.out⟩ : Hd).rep, .int .i64 (⟨h.pos, h.call, (t : Int), h.whe, h.had, h.cnt, h.beg, h.rep, h.out⟩ : Hd).out, .int .i64 (evI M 2 t (effI (M.t t))).kin, .int .i64 (evI M 2 t (effI (M.t t))).tim, .int .i64 (evI M 2 t (effI (M.t t))).gen, .int .i64 (evI M 2 t (effI (M.t t))).whe, .int .i64 (evI M 2 t (effI (M.t t))).clk] _ (range_of_block s6.a) Tryz.underlying43 rfl done_info ?_
  refine wpList_store_mid (by rfl) 43 _ _ (by rfl) _ 0 #[.int .i64 M.c, (.slice (some ⟨tg, 0, none⟩) M.tn tc), (.slice (some ⟨pg, 0, none⟩) M.pn pc), .int .i64 (⟨h.pos, h.call, (t : Int), h.whe, h.had, h.cnt, h.beg, h.rep, h.out⟩ : Hd).pos, .int .i64 (⟨h.pos, h.call, (t : Int), h.whe, h.had, h.cnt, h.beg, h.rep, h.out⟩ : Hd).call.code, .int .i64 (⟨h.pos, h.call, (t : Int), h.whe, h.had, h.cnt, h.beg, h.rep, h.out⟩ : Hd).call.a, .int .i64 (⟨h.pos, h.call, (t : Int), h.whe, h.had, h.cnt, h.beg, h.rep, h.out⟩ : Hd).call.b, .int .i64 (⟨h.pos, h.call, (t : Int), h.whe, h.had, h.cnt, h.beg, h.rep, h.out⟩ : Hd).call.c, .int .i64 (⟨h.pos, h.call, (t : Int), h.whe, h.had, h.cnt, h.beg, h.rep, h.out⟩ : Hd).tim, .int .i64 (⟨h.pos, h.call, (t : Int), h.whe, h.had, h.cnt, h.beg, h.rep, h.out⟩ : Hd).whe, .bool (⟨h.pos, h.call, (t : Int), h.whe, h.had, h.cnt, h.beg, h.rep, h.out⟩ : Hd).had, .int .i64 (⟨h.pos, h.call, (t : Int), h.whe, h.had, h.cnt, h.beg, h.rep, h.out⟩ : Hd).cnt, .int .i64 (⟨h.pos, h.call, (t : Int), h.whe, h.had, h.cnt, h.beg, h.rep, h.out⟩ : Hd).beg, .int .i64 (⟨h.pos, h.call, (t : Int), h.whe, h.had, h.cnt, h.beg, h.rep, h.out⟩ : Hd).rep, .int .i64 (⟨h.pos, h.call, (t : Int), h.whe, h.had, h.cnt, h.beg, h.rep, h.out⟩ : Hd).out, .int .i64 (evI M 2 t (effI (M.t t))).kin, .int .i64 (evI M 2 t (effI (M.t t))).tim, .int .i64 (evI M 2 t (effI (M.t t))).gen, .int .i64 (evI M 2 t (effI (M.t t))).whe, .int .i64 (evI M 2 t (effI (M.t t))).clk] (by rfl) (by rfl) s6.there done_info (by simp [Value.oneCell']) ?_
  refine wpList_nil ?_
  go_wp2
  exact bodyPost_ret (v := .agg #[.int .i64 M.c, (.slice (some ⟨tg, 0, none⟩) M.tn tc), (.slice (some ⟨pg, 0, none⟩) M.pn pc), .int .i64 (⟨h.pos, h.call, (t : Int), h.whe, h.had, h.cnt, h.beg, h.rep, h.out⟩ : Hd).pos, .int .i64 (⟨h.pos, h.call, (t : Int), h.whe, h.had, h.cnt, h.beg, h.rep, h.out⟩ : Hd).call.code, .int .i64 (⟨h.pos, h.call, (t : Int), h.whe, h.had, h.cnt, h.beg, h.rep, h.out⟩ : Hd).call.a, .int .i64 (⟨h.pos, h.call, (t : Int), h.whe, h.had, h.cnt, h.beg, h.rep, h.out⟩ : Hd).call.b, .int .i64 (⟨h.pos, h.call, (t : Int), h.whe, h.had, h.cnt, h.beg, h.rep, h.out⟩ : Hd).call.c, .int .i64 (⟨h.pos, h.call, (t : Int), h.whe, h.had, h.cnt, h.beg, h.rep, h.out⟩ : Hd).tim, .int .i64 (⟨h.pos, h.call, (t : Int), h.whe, h.had, h.cnt, h.beg, h.rep, h.out⟩ : Hd).whe, .bool (⟨h.pos, h.call, (t : Int), h.whe, h.had, h.cnt, h.beg, h.rep, h.out⟩ : Hd).had, .int .i64 (⟨h.pos, h.call, (t : Int), h.whe, h.had, h.cnt, h.beg, h.rep, h.out⟩ : Hd).cnt, .int .i64 (⟨h.pos, h.call, (t : Int), h.whe, h.had, h.cnt, h.beg, h.rep, h.out⟩ : Hd).beg, .int .i64 (⟨h.pos, h.call, (t : Int), h.whe, h.had, h.cnt, h.beg, h.rep, h.out⟩ : Hd).rep, .int .i64 (⟨h.pos, h.call, (t : Int), h.whe, h.had, h.cnt, h.beg, h.rep, h.out⟩ : Hd).out, .int .i64 (evI M 2 t (effI (M.t t))).kin, .int .i64 (evI M 2 t (effI (M.t t))).tim, .int .i64 (evI M 2 t (effI (M.t t))).gen, .int .i64 (evI M 2 t (effI (M.t t))).whe, .int .i64 (evI M 2 t (effI (M.t t))).clk]) (results_cell (cs := [.int .i64 M.c, (.slice (some ⟨tg, 0, none⟩) M.tn tc), (.slice (some ⟨pg, 0, none⟩) M.pn pc), .int .i64 (⟨h.pos, h.call, (t : Int), h.whe, h.had, h.cnt, h.beg, h.rep, h.out⟩ : Hd).pos, .int .i64 (⟨h.pos, h.call, (t : Int), h.whe, h.had, h.cnt, h.beg, h.rep, h.out⟩ : Hd).call.code, .int .i64 (⟨h.pos, h.call, (t : Int), h.whe, h.had, h.cnt, h.beg, h.rep, h.out⟩ : Hd).call.a, .int .i64 (⟨h.pos, h.call, (t : Int), h.whe, h.had, h.cnt, h.beg, h.rep, h.out⟩ : Hd).call.b, .int .i64 (⟨h.pos, h.call, (t : Int), h.whe, h.had, h.cnt, h.beg, h.rep, h.out⟩ : Hd).call.c, .int .i64 (⟨h.pos, h.call, (t : Int), h.whe, h.had, h.cnt, h.beg, h.rep, h.out⟩ : Hd).tim, .int .i64 (⟨h.pos, h.call, (t : Int), h.whe, h.had, h.cnt, h.beg, h.rep, h.out⟩ : Hd).whe, .bool (⟨h.pos, h.call, (t : Int), h.whe, h.had, h.cnt, h.beg, h.rep, h.out⟩ : Hd).had, .int .i64 (⟨h.pos, h.call, (t : Int), h.whe, h.had, h.cnt, h.beg, h.rep, h.out⟩ : Hd).cnt, .int .i64 (⟨h.pos, h.call, (t : Int), h.whe, h.had, h.cnt, h.beg, h.rep, h.out⟩ : Hd).beg, .int .i64 (⟨h.pos, h.call, (t : Int), h.whe, h.had, h.cnt, h.beg, h.rep, h.out⟩ : Hd).rep, .int .i64 (⟨h.pos, h.call, (t : Int), h.whe, h.had, h.cnt, h.beg, h.rep, h.out⟩ : Hd).out, .int .i64 (evI M 2 t (effI (M.t t))).kin, .int .i64 (evI M 2 t (effI (M.t t))).tim, .int .i64 (evI M 2 t (effI (M.t t))).gen, .int .i64 (evI M 2 t (effI (M.t t))).whe, .int .i64 (evI M 2 t (effI (M.t t))).clk]) rfl rfl s6.lies Tryz.underlying43 rfl done_info) rfl (⟨s6.retC, fun g hg hne => (heap_setCells_ne (by omega) _ _ _).trans (k6 g hg (fun e => hne (by rw [e]; rfl)))⟩)

set_option maxRecDepth 100000 in
set_option maxHeartbeats 2000000 in
theorem l10Claim_no {B t : Nat} {tv pv : Value} {M : Me} {h : Hd} {v : Et} {w : World} (hB : B ≤ w.heap.size) (hk : 0 < M.pn) (ht : t < M.tn) (he : ¬ 0 ≤ effI (M.t t)) (hm : OwnMem w B tv pv M) :
    Calls Tryz.prog 67 #[dnV ⟨M, h, v⟩ tv pv, .int .i64 (t : Int)] w (fun e w' => InDn B (claimD ⟨M, h, v⟩ t) w e w' ∧ ∀ g, g < w.heap.size → tv.ownBlock ≠ some g → w'.heap[g]? = w.heap[g]?) := by
  rw [show claimD ⟨M, h, v⟩ t = ⟨setTm M t 0 2, ⟨h.pos, h.call, (t : Int), h.whe, h.had, h.cnt, h.beg, h.rep, h.out⟩, v⟩ by
    have he2 : ¬ 0 ≤ effT (M.t t) := he
    rw [claimD, if_neg he2]]
  have heb : decide ((0 : Int) ≤ effI (M.t t)) = false := by simpa using he
  clear he
  obtain ⟨pg, pc, V, rfl, ho⟩ := hm.openP hk
  clear hm
  obtain ⟨tg, tc, rfl, _⟩ := ho.tms ht
  obtain ⟨w1, e1, s1⟩ := DSt.start h v hB ho
  clear ho
  have k1 : Below w.heap.size w w1 := by rw [e1.out]; exact ((Below.refl _ _).alloc (Nat.le_refl _) _).alloc (by simp) _
  have i0 : (0 : Int) ≤ (t : Int) := by omega
  have i1 : (t : Int) < (M.tn : Int) := by omega
  obtain ⟨x0, x1, x2, x3, x4, x5, x6, x7, x8, x9, x10, x11, x12, x13, x14, x15, x16, x17, x18, x19, xf0, xf1, xf2, xf3, xf4, xf5, xf6, xf7, xf8, xf9, xf10, xf11, xf12, xf13, xf14, xf15, xf16, xf17, xf18, xf19⟩ := s1.cellsA
  obtain ⟨⟨t0, t1, t2, t3, t4, t5, t6, t7⟩, _⟩ := s1.tcells ht rfl
  go_enter Tryz.func67, Tryz.ntmps67
  go_upto_region 1 with fail
  rw [← e1.out]
  clear e1
  go_wp2_with fail
  go_at_call 99; refine (l5Effect_any (M.t t) _).mono ?_; rintro e w2 ⟨rfl, hb⟩
  have s2 := s1.below hb
  have k2 := k1.trans (hb.mono k1.size)
  clear s1 hb k1 t0 t1 t2 t3 t4 t5 t6 t7 x0 x1 x2 x3 x4 x5 x6 x7 x8 x9 x10 x11 x12 x13 x14 x15 x16 x17 x18 x19 xf0 xf1 xf2 xf3 xf4 xf5 xf6 xf7 xf8 xf9 xf10 xf11 xf12 xf13 xf14 xf15 xf16 xf17 xf18 xf19
  obtain ⟨x0, x1, x2, x3, x4, x5, x6, x7, x8, x9, x10, x11, x12, x13, x14, x15, x16, x17, x18, x19, xf0, xf1, xf2, xf3, xf4, xf5, xf6, xf7, xf8, xf9, xf10, xf11, xf12, xf13, xf14, xf15, xf16, xf17, xf18, xf19⟩ := s2.cellsA
  go_upto_region 4 with fail
  have s4 := s2
  have k4 := k2
  clear s2 k2
  obtain ⟨⟨t0, _⟩, tf⟩ := s4.tcells ht rfl
  have tf0 := tf (t * 8)
  obtain ⟨w5, e5, s5⟩ := s4.setT (t := t) 0 ht (by decide) 2
  go_upto_region 5 with fail
  simp only [Nat.add_zero] at e5
  have k5 : ∀ g, g < w.heap.size → g ≠ tg → w5.heap[g]? = w.heap[g]? := fun g hg hne => by rw [e5.out]; exact (heap_set_ne _ _ hne).trans (k4.block g hg)
  rw [← e5.out]
  clear k4 e5 s4 t0 tf tf0 x0 x1 x2 x3 x4 x5 x6 x7 x8 x9 x10 x11 x12 x13 x14 x15 x16 x17 x18 x19 xf0 xf1 xf2 xf3 xf4 xf5 xf6 xf7 xf8 xf9 xf10 xf11 xf12 xf13 xf14 xf15 xf16 xf17 xf18 xf19
  obtain ⟨x0, x1, x2, x3, x4, x5, x6, x7, x8, x9, x10, x11, x12, x13, x14, x15, x16, x17, x18, x19, xf0, xf1, xf2, xf3, xf4, xf5, xf6, xf7, xf8, xf9, xf10, xf11, xf12, xf13, xf14, xf15, xf16, xf17, xf18, xf19⟩ := s5.cellsA
  obtain ⟨w6, e6, s6⟩ := s5.hand_tim (t : Int)
  have k6 : ∀ g, g < w.heap.size → g ≠ tg → w6.heap[g]? = w.heap[g]? := fun g hg hne => by rw [e6.out]; exact (heap_set_ne _ _ (by omega)).trans (k5 g hg hne)
  go_upto_region 6 with fail
  rw [← e6.out]
  clear k5 e6 s5 x0 x1 x2 x3 x4 x5 x6 x7 x8 x9 x10 x11 x12 x13 x14 x15 x16 x17 x18 x19 xf0 xf1 xf2 xf3 xf4 xf5 xf6 xf7 xf8 xf9 xf10 xf11 xf12 xf13 xf14 xf15 xf16 xf17 xf18 xf19
  refine wp_region_lit ?_
  refine wpList_load_mid (by rfl) 43 _ (by rfl) _ 0 (by rfl) [.int .i64 M.c, (.slice (some ⟨tg, 0, none⟩) M.tn tc), (.slice (some ⟨pg, 0, none⟩) M.pn pc), .int .i64 (⟨h.pos, h.call, (t : Int), h.whe, h.had, h.cnt, h.beg, h.rep, h.out⟩ : Hd).pos, .int .i64 (⟨h.pos, h.call, (t : Int), h.whe, h.had, h.cnt, h.beg, h.rep, h.out⟩ : Hd).call.code, .int .i64 (⟨h.pos, h.call, (t : Int), h.whe, h.had, h.cnt, h.beg, h.rep, h.out⟩ : Hd).call.a, .int .i64 (⟨h.pos, h.call, (t : Int), h.whe, h.had, h.cnt, h.beg, h.rep, h.out⟩ : Hd).call.b, .int .i64 (⟨h.pos, h.call, (t : Int), h.whe, h.had, h.cnt, h.beg, h.rep, h.out⟩ : Hd).call.c, .int .i64 (⟨h.pos, h.call, (t : Int), h.whe, h.had, h.cnt, h.beg, h.rep, h.out⟩ : Hd).tim, .int .i64 (⟨h.pos, h.call, (t : Int), h.whe, h.had, h.cnt, h.beg, h.rep, h.out⟩ : Hd).whe, .bool (⟨h.pos, h.call, (t : Int), h.whe, h.had, h.cnt, h.beg, h.rep, h.out⟩ : Hd).had, .int .i64 (⟨h.pos, h.call, (t : Int), h.whe, h.had, h.cnt, h.beg, h.rep, h.out⟩ : Hd).cnt, .int .i64 (⟨h.pos, h.call, (t : Int), h.whe, h.had, h.cnt, h.beg, h.rep, h.out⟩ : Hd).beg, .int .i64 (⟨h.pos, h.call, (t : Int), h.whe, h.had, h.cnt, h.beg, h.rep, h.out⟩ : Hd).rep, .int .i64 (⟨h.pos, h.call, (t : Int), h.whe, h.had, h.cnt, h.beg, h.rep, h.out⟩ : Hd).out, .int .i64 v.kin, .int .i64 v.tim, .int .i64 v.gen, .int .i64 v.whe, .int .i64 v.clk] _ (range_of_block s6.a) Tryz.underlying43 rfl done_info ?_
  refine wpList_store_mid (by rfl) 43 _ _ (by rfl) _ 0 #[.int .i64 M.c, (.slice (some ⟨tg, 0, none⟩) M.tn tc), (.slice (some ⟨pg, 0, none⟩) M.pn pc), .int .i64 (⟨h.pos, h.call, (t : Int), h.whe, h.had, h.cnt, h.beg, h.rep, h.out⟩ : Hd).pos, .int .i64 (⟨h.pos, h.call, (t : Int), h.whe, h.had, h.cnt, h.beg, h.rep, h.out⟩ : Hd).call.code, .int .i64 (⟨h.pos, h.call, (t : Int), h.whe, h.had, h.cnt, h.beg, h.rep, h.out⟩ : Hd).call.a, .int .i64 (⟨h.pos, h.call, (t : Int), h.whe, h.had, h.cnt, h.beg, h.rep, h.out⟩ : Hd).call.b, .int .i64 (⟨h.pos, h.call, (t : Int), h.whe, h.had, h.cnt, h.beg, h.rep, h.out⟩ : Hd).call.c, .int .i64 (⟨h.pos, h.call, (t : Int), h.whe, h.had, h.cnt, h.beg, h.rep, h.out⟩ : Hd).tim, .int .i64 (⟨h.pos, h.call, (t : Int), h.whe, h.had, h.cnt, h.beg, h.rep, h.out⟩ : Hd).whe, .bool (⟨h.pos, h.call, (t : Int), h.whe, h.had, h.cnt, h.beg, h.rep, h.out⟩ : Hd).had, .int .i64 (⟨h.pos, h.call, (t : Int), h.whe, h.had, h.cnt, h.beg, h.rep, h.out⟩ : Hd).cnt, .int .i64 (⟨h.pos, h.call, (t : Int), h.whe, h.had, h.cnt, h.beg, h.rep, h.out⟩ : Hd).beg, .int .i64 (⟨h.pos, h.call, (t : Int), h.whe, h.had, h.cnt, h.beg, h.rep, h.out⟩ : Hd).rep, .int .i64 (⟨h.pos, h.call, (t : Int), h.whe, h.had, h.cnt, h.beg, h.rep, h.out⟩ : Hd).out, .int .i64 v.kin, .int .i64 v.tim, .int .i64 v.gen, .int .i64 v.whe, .int .i64 v.clk] (by rfl) (by rfl) s6.there done_info (by simp [Value.oneCell']) ?_
  refine wpList_nil ?_
  go_wp2
  exact bodyPost_ret (v := .agg #[.int .i64 M.c, (.slice (some ⟨tg, 0, none⟩) M.tn tc), (.slice (some ⟨pg, 0, none⟩) M.pn pc), .int .i64 (⟨h.pos, h.call, (t : Int), h.whe, h.had, h.cnt, h.beg, h.rep, h.out⟩ : Hd).pos, .int .i64 (⟨h.pos, h.call, (t : Int), h.whe, h.had, h.cnt, h.beg, h.rep, h.out⟩ : Hd).call.code, .int .i64 (⟨h.pos, h.call, (t : Int), h.whe, h.had, h.cnt, h.beg, h.rep, h.out⟩ : Hd).call.a, .int .i64 (⟨h.pos, h.call, (t : Int), h.whe, h.had, h.cnt, h.beg, h.rep, h.out⟩ : Hd).call.b, .int .i64 (⟨h.pos, h.call, (t : Int), h.whe, h.had, h.cnt, h.beg, h.rep, h.out⟩ : Hd).call.c, .int .i64 (⟨h.pos, h.call, (t : Int), h.whe, h.had, h.cnt, h.beg, h.rep, h.out⟩ : Hd).tim, .int .i64 (⟨h.pos, h.call, (t : Int), h.whe, h.had, h.cnt, h.beg, h.rep, h.out⟩ : Hd).whe, .bool (⟨h.pos, h.call, (t : Int), h.whe, h.had, h.cnt, h.beg, h.rep, h.out⟩ : Hd).had, .int .i64 (⟨h.pos, h.call, (t : Int), h.whe, h.had, h.cnt, h.beg, h.rep, h.out⟩ : Hd).cnt, .int .i64 (⟨h.pos, h.call, (t : Int), h.whe, h.had, h.cnt, h.beg, h.rep, h.out⟩ : Hd).beg, .int .i64 (⟨h.pos, h.call, (t : Int), h.whe, h.had, h.cnt, h.beg, h.rep, h.out⟩ : Hd).rep, .int .i64 (⟨h.pos, h.call, (t : Int), h.whe, h.had, h.cnt, h.beg, h.rep, h.out⟩ : Hd).out, .int .i64 v.kin, .int .i64 v.tim, .int .i64 v.gen, .int .i64 v.whe, .int .i64 v.clk]) (results_cell (cs := [.int .i64 M.c, (.slice (some ⟨tg, 0, none⟩) M.tn tc), (.slice (some ⟨pg, 0, none⟩) M.pn pc), .int .i64 (⟨h.pos, h.call, (t : Int), h.whe, h.had, h.cnt, h.beg, h.rep, h.out⟩ : Hd).pos, .int .i64 (⟨h.pos, h.call, (t : Int), h.whe, h.had, h.cnt, h.beg, h.rep, h.out⟩ : Hd).call.code, .int .i64 (⟨h.pos, h.call, (t : Int), h.whe, h.had, h.cnt, h.beg, h.rep, h.out⟩ : Hd).call.a, .int .i64 (⟨h.pos, h.call, (t : Int), h.whe, h.had, h.cnt, h.beg, h.rep, h.out⟩ : Hd).call.b, .int .i64 (⟨h.pos, h.call, (t : Int), h.whe, h.had, h.cnt, h.beg, h.rep, h.out⟩ : Hd).call.c, .int .i64 (⟨h.pos, h.call, (t : Int), h.whe, h.had, h.cnt, h.beg, h.rep, h.out⟩ : Hd).tim, .int .i64 (⟨h.pos, h.call, (t : Int), h.whe, h.had, h.cnt, h.beg, h.rep, h.out⟩ : Hd).whe, .bool (⟨h.pos, h.call, (t : Int), h.whe, h.had, h.cnt, h.beg, h.rep, h.out⟩ : Hd).had, .int .i64 (⟨h.pos, h.call, (t : Int), h.whe, h.had, h.cnt, h.beg, h.rep, h.out⟩ : Hd).cnt, .int .i64 (⟨h.pos, h.call, (t : Int), h.whe, h.had, h.cnt, h.beg, h.rep, h.out⟩ : Hd).beg, .int .i64 (⟨h.pos, h.call, (t : Int), h.whe, h.had, h.cnt, h.beg, h.rep, h.out⟩ : Hd).rep, .int .i64 (⟨h.pos, h.call, (t : Int), h.whe, h.had, h.cnt, h.beg, h.rep, h.out⟩ : Hd).out, .int .i64 v.kin, .int .i64 v.tim, .int .i64 v.gen, .int .i64 v.whe, .int .i64 v.clk]) rfl rfl s6.lies Tryz.underlying43 rfl done_info) rfl (⟨s6.retC, fun g hg hne => (heap_setCells_ne (by omega) _ _ _).trans (k6 g hg (fun e => hne (by rw [e]; rfl)))⟩)

theorem l10Claim_any {B t : Nat} {tv pv : Value} {M : Me} {h : Hd} {v : Et} {w : World} (hB : B ≤ w.heap.size) (hk : 0 < M.pn) (ht : t < M.tn) (hm : OwnMem w B tv pv M) :
    Calls Tryz.prog 67 #[dnV ⟨M, h, v⟩ tv pv, .int .i64 (t : Int)] w (fun e w' => InDn B (claimD ⟨M, h, v⟩ t) w e w' ∧ ∀ g, g < w.heap.size → tv.ownBlock ≠ some g → w'.heap[g]? = w.heap[g]?) := by
  by_cases he : 0 ≤ effI (M.t t)
  · exact l10Claim_yes hB hk ht he hm
  · exact l10Claim_no hB hk ht he hm

set_option maxRecDepth 100000 in
set_option maxHeartbeats 2000000 in
theorem l10Look_none {B : Nat} {tv pv : Value} {M : Me} {h : Hd} {v : Et} {w : World} (hB : B ≤ w.heap.size) (hk : 0 < M.pn) (hn : M.tn ≤ 1048576) (hq : hasT M h.call.a = false) (hm : OwnMem w B tv pv M) :
    Calls Tryz.prog 39 #[dnV ⟨M, h, v⟩ tv pv] w (InDn B (stopLookD ⟨M, h, v⟩) w) := by
  rw [show stopLookD ⟨M, h, v⟩ = ⟨M, restHd 5 0, v⟩ by
    rw [stopLookD, if_neg (by simp [hq])]]
  have HQ := Lib.hid hq
  clear hq
  obtain ⟨pg, pc, V, rfl, ho⟩ := hm.openP hk
  clear hm
  obtain ⟨ta, tc, hta⟩ := ho.t.row.form
  subst hta
  obtain ⟨w1, e1, s1⟩ := DSt.start h v hB ho
  clear ho
  obtain ⟨x0, x1, x2, x3, x4, x5, x6, x7, x8, x9, x10, x11, x12, x13, x14, x15, x16, x17, x18, x19, xf0, xf1, xf2, xf3, xf4, xf5, xf6, xf7, xf8, xf9, xf10, xf11, xf12, xf13, xf14, xf15, xf16, xf17, xf18, xf19⟩ := s1.cellsA
  go_enter Tryz.func39, Tryz.ntmps39
  go_upto_region 1 with fail
  rw [← e1.out]
  clear e1
  go_wp2_with fail
  go_at_call 66; refine (l5Has_any ⟨_, _, rfl⟩ hn _ _).mono ?_; rw [HQ.out]; rintro e w2 ⟨rfl, hb⟩
  have s2 := s1.below hb
  clear s1 hb x0 x1 x2 x3 x4 x5 x6 x7 x8 x9 x10 x11 x12 x13 x14 x15 x16 x17 x18 x19 xf0 xf1 xf2 xf3 xf4 xf5 xf6 xf7 xf8 xf9 xf10 xf11 xf12 xf13 xf14 xf15 xf16 xf17 xf18 xf19
  go_upto_region 3 with fail
  go_wp2_with fail
  go_at_call 41; refine (spResting_any 5 0 _).mono ?_; rintro e w3 ⟨rfl, hb⟩
  have s3 := s2.below hb
  clear s2 hb
  obtain ⟨x0, x1, x2, x3, x4, x5, x6, x7, x8, x9, x10, x11, x12, x13, x14, x15, x16, x17, x18, x19, xf0, xf1, xf2, xf3, xf4, xf5, xf6, xf7, xf8, xf9, xf10, xf11, xf12, xf13, xf14, xf15, xf16, xf17, xf18, xf19⟩ := s3.cellsA
  obtain ⟨w4, e4, s4⟩ := s3.hand_all (restHd 5 0)
  go_upto_region 4 with fail
  rw [← e4.out]
  clear e4 s3 x0 x1 x2 x3 x4 x5 x6 x7 x8 x9 x10 x11 x12 x13 x14 x15 x16 x17 x18 x19 xf0 xf1 xf2 xf3 xf4 xf5 xf6 xf7 xf8 xf9 xf10 xf11 xf12 xf13 xf14 xf15 xf16 xf17 xf18 xf19
  refine wp_region_lit ?_
  refine wpList_load_mid (by rfl) 43 _ (by rfl) _ 0 (by rfl) [.int .i64 M.c, (.slice ta M.tn tc), (.slice (some ⟨pg, 0, none⟩) M.pn pc), .int .i64 (restHd 5 0).pos, .int .i64 (restHd 5 0).call.code, .int .i64 (restHd 5 0).call.a, .int .i64 (restHd 5 0).call.b, .int .i64 (restHd 5 0).call.c, .int .i64 (restHd 5 0).tim, .int .i64 (restHd 5 0).whe, .bool (restHd 5 0).had, .int .i64 (restHd 5 0).cnt, .int .i64 (restHd 5 0).beg, .int .i64 (restHd 5 0).rep, .int .i64 (restHd 5 0).out, .int .i64 v.kin, .int .i64 v.tim, .int .i64 v.gen, .int .i64 v.whe, .int .i64 v.clk] _ (range_of_block s4.a) Tryz.underlying43 rfl done_info ?_
  refine wpList_store_mid (by rfl) 43 _ _ (by rfl) _ 0 #[.int .i64 M.c, (.slice ta M.tn tc), (.slice (some ⟨pg, 0, none⟩) M.pn pc), .int .i64 (restHd 5 0).pos, .int .i64 (restHd 5 0).call.code, .int .i64 (restHd 5 0).call.a, .int .i64 (restHd 5 0).call.b, .int .i64 (restHd 5 0).call.c, .int .i64 (restHd 5 0).tim, .int .i64 (restHd 5 0).whe, .bool (restHd 5 0).had, .int .i64 (restHd 5 0).cnt, .int .i64 (restHd 5 0).beg, .int .i64 (restHd 5 0).rep, .int .i64 (restHd 5 0).out, .int .i64 v.kin, .int .i64 v.tim, .int .i64 v.gen, .int .i64 v.whe, .int .i64 v.clk] (by rfl) (by rfl) s4.there done_info (by simp [Value.oneCell']) ?_
  refine wpList_nil ?_
  go_wp2
  exact bodyPost_ret (v := .agg #[.int .i64 M.c, (.slice ta M.tn tc), (.slice (some ⟨pg, 0, none⟩) M.pn pc), .int .i64 (restHd 5 0).pos, .int .i64 (restHd 5 0).call.code, .int .i64 (restHd 5 0).call.a, .int .i64 (restHd 5 0).call.b, .int .i64 (restHd 5 0).call.c, .int .i64 (restHd 5 0).tim, .int .i64 (restHd 5 0).whe, .bool (restHd 5 0).had, .int .i64 (restHd 5 0).cnt, .int .i64 (restHd 5 0).beg, .int .i64 (restHd 5 0).rep, .int .i64 (restHd 5 0).out, .int .i64 v.kin, .int .i64 v.tim, .int .i64 v.gen, .int .i64 v.whe, .int .i64 v.clk]) (results_cell (cs := [.int .i64 M.c, (.slice ta M.tn tc), (.slice (some ⟨pg, 0, none⟩) M.pn pc), .int .i64 (restHd 5 0).pos, .int .i64 (restHd 5 0).call.code, .int .i64 (restHd 5 0).call.a, .int .i64 (restHd 5 0).call.b, .int .i64 (restHd 5 0).call.c, .int .i64 (restHd 5 0).tim, .int .i64 (restHd 5 0).whe, .bool (restHd 5 0).had, .int .i64 (restHd 5 0).cnt, .int .i64 (restHd 5 0).beg, .int .i64 (restHd 5 0).rep, .int .i64 (restHd 5 0).out, .int .i64 v.kin, .int .i64 v.tim, .int .i64 v.gen, .int .i64 v.whe, .int .i64 v.clk]) rfl rfl s4.lies Tryz.underlying43 rfl done_info) rfl (s4.retC)

set_option maxRecDepth 100000 in
set_option maxHeartbeats 2000000 in
theorem l10Look_1 {B : Nat} {tv pv : Value} {M : Me} {h : Hd} {v : Et} {w : World} (hB : B ≤ w.heap.size) (hk : 0 < M.pn) (hn : M.tn ≤ 1048576) (hq : hasT M h.call.a = true) (hst : (M.t h.call.a.toNat).st = 1) (hm : OwnMem w B tv pv M) :
    Calls Tryz.prog 39 #[dnV ⟨M, h, v⟩ tv pv] w (InDn B (stopLookD ⟨M, h, v⟩) w) := by
  obtain ⟨t, het⟩ : ∃ t : Nat, h.call.a = (t : Int) := ⟨h.call.a.toNat, by have := inB_iff.1 hq; omega⟩
  have ht : t < M.tn := by have := inB_iff.1 hq; omega
  have eT : h.call.a.toNat = t := by rw [het]; rfl
  rw [eT] at hst
  obtain ⟨D3, hD3⟩ : ∃ D3, claimD ⟨M, h, v⟩ t = D3 := ⟨_, rfl⟩
  have ec : D3.m.c = M.c := by rw [← hD3]; rfl
  have ep : D3.m.pn = M.pn := by rw [← hD3]; rfl
  rw [show stopLookD ⟨M, h, v⟩ = ⟨D3.m, ⟨6, D3.h.call, D3.h.tim, D3.h.whe, D3.h.had, D3.h.cnt, D3.h.beg, D3.h.rep, D3.h.out⟩, D3.v⟩ by
    rw [stopLookD, if_pos hq]
    simp only [eT]
    simp [hst, hD3]]
  have g1 : ((M.t t).st == 1) = true := by simp [hst]
  have g3 : ((M.t t).st == 3) = false := by simp [hst]
  have g4 : ((M.t t).st == 4) = false := by simp [hst]
  have HD3 := Lib.hid hD3
  clear hD3 hst
  have HQ := Lib.hid (show hasT M (t : Int) = true by rw [← het]; exact hq)
  have HT := Lib.hid het
  clear hq het eT
  obtain ⟨pg, pc, V, rfl, ho⟩ := hm.openP hk
  clear hm
  obtain ⟨tg, tc, rfl, _⟩ := ho.tms ht
  obtain ⟨w1, e1, s1⟩ := DSt.start h v hB ho
  clear ho
  have i0 : (0 : Int) ≤ (t : Int) := by omega
  have i1 : (t : Int) < (M.tn : Int) := by omega
  obtain ⟨x0, x1, x2, x3, x4, x5, x6, x7, x8, x9, x10, x11, x12, x13, x14, x15, x16, x17, x18, x19, xf0, xf1, xf2, xf3, xf4, xf5, xf6, xf7, xf8, xf9, xf10, xf11, xf12, xf13, xf14, xf15, xf16, xf17, xf18, xf19⟩ := s1.cellsA
  rw [HT.out] at x5
  go_enter Tryz.func39, Tryz.ntmps39
  go_upto_region 1 with fail
  rw [← e1.out]
  clear e1
  go_wp2_with fail
  go_at_call 66; refine (l5Has_any ⟨_, _, rfl⟩ hn _ _).mono ?_; rw [HQ.out]; rintro e w2 ⟨rfl, hb⟩
  have s2 := s1.below hb
  clear s1 hb x0 x1 x2 x3 x4 x5 x6 x7 x8 x9 x10 x11 x12 x13 x14 x15 x16 x17 x18 x19 xf0 xf1 xf2 xf3 xf4 xf5 xf6 xf7 xf8 xf9 xf10 xf11 xf12 xf13 xf14 xf15 xf16 xf17 xf18 xf19
  obtain ⟨x0, x1, x2, x3, x4, x5, x6, x7, x8, x9, x10, x11, x12, x13, x14, x15, x16, x17, x18, x19, xf0, xf1, xf2, xf3, xf4, xf5, xf6, xf7, xf8, xf9, xf10, xf11, xf12, xf13, xf14, xf15, xf16, xf17, xf18, xf19⟩ := s2.cellsA
  obtain ⟨⟨t0, _⟩, _⟩ := s2.tcells ht rfl
  have lB2 := s2.size.1
  go_upto_region 10 with fail
  refine wp_region_lit ?_
  refine wpList_load_mid (by rfl) 43 _ (by rfl) _ 0 (by rfl) [.int .i64 M.c, (.slice (some ⟨tg, 0, none⟩) M.tn tc), (.slice (some ⟨pg, 0, none⟩) M.pn pc), .int .i64 h.pos, .int .i64 h.call.code, .int .i64 h.call.a, .int .i64 h.call.b, .int .i64 h.call.c, .int .i64 h.tim, .int .i64 h.whe, .bool h.had, .int .i64 h.cnt, .int .i64 h.beg, .int .i64 h.rep, .int .i64 h.out, .int .i64 v.kin, .int .i64 v.tim, .int .i64 v.gen, .int .i64 v.whe, .int .i64 v.clk] _ (range_of_block s2.a) Tryz.underlying43 rfl done_info ?_
  have hCl := l10Claim_any (h := h) (v := v) lB2 hk ht s2.own
  rw [HD3.out] at hCl
  go_wp2_with fail
  go_at_call 67; refine hCl.mono ?_
  rintro e w3 ⟨hI, hno⟩
  clear hno
  obtain ⟨ta3, tc3, pg3, pc3, V3, rfl, th3, s3⟩ := s2.callAll hI ec ep hk
  clear hCl hI s2 t0 x0 x1 x2 x3 x4 x5 x6 x7 x8 x9 x10 x11 x12 x13 x14 x15 x16 x17 x18 x19 xf0 xf1 xf2 xf3 xf4 xf5 xf6 xf7 xf8 xf9 xf10 xf11 xf12 xf13 xf14 xf15 xf16 xf17 xf18 xf19
  rename_i K1 hK1
  refine hK1 _ _ ?_
  clear hK1 K1
  refine wpList_store_mid (by rfl) 43 _ _ (by rfl) _ 0 (dnCells D3 (.slice ta3 D3.m.tn tc3) (.slice (some ⟨pg3, 0, none⟩) M.pn pc3)) (by rfl) (by rfl) th3 done_info (by simp [Value.oneCell']) ?_
  generalize hw4 : w3.setCells w.heap.size 0 (dnCells D3 (.slice ta3 D3.m.tn tc3) (.slice (some ⟨pg3, 0, none⟩) M.pn pc3)).toList = w4 at s3 ⊢
  clear hw4 th3 HD3
  obtain ⟨x0, x1, x2, x3, x4, x5, x6, x7, x8, x9, x10, x11, x12, x13, x14, x15, x16, x17, x18, x19, xf0, xf1, xf2, xf3, xf4, xf5, xf6, xf7, xf8, xf9, xf10, xf11, xf12, xf13, xf14, xf15, xf16, xf17, xf18, xf19⟩ := s3.cellsA
  obtain ⟨w5, e5, s5⟩ := s3.hand_pos 6
  go_upto_region 15 with fail
  rw [← e5.out]
  clear e5 s3 x0 x1 x2 x3 x4 x5 x6 x7 x8 x9 x10 x11 x12 x13 x14 x15 x16 x17 x18 x19 xf0 xf1 xf2 xf3 xf4 xf5 xf6 xf7 xf8 xf9 xf10 xf11 xf12 xf13 xf14 xf15 xf16 xf17 xf18 xf19
  refine wp_region_lit ?_
  refine wpList_load_mid (by rfl) 43 _ (by rfl) _ 0 (by rfl) [.int .i64 M.c, (.slice ta3 D3.m.tn tc3), (.slice (some ⟨pg3, 0, none⟩) M.pn pc3), .int .i64 (⟨6, D3.h.call, D3.h.tim, D3.h.whe, D3.h.had, D3.h.cnt, D3.h.beg, D3.h.rep, D3.h.out⟩ : Hd).pos, .int .i64 (⟨6, D3.h.call, D3.h.tim, D3.h.whe, D3.h.had, D3.h.cnt, D3.h.beg, D3.h.rep, D3.h.out⟩ : Hd).call.code, .int .i64 (⟨6, D3.h.call, D3.h.tim, D3.h.whe, D3.h.had, D3.h.cnt, D3.h.beg, D3.h.rep, D3.h.out⟩ : Hd).call.a, .int .i64 (⟨6, D3.h.call, D3.h.tim, D3.h.whe, D3.h.had, D3.h.cnt, D3.h.beg, D3.h.rep, D3.h.out⟩ : Hd).call.b, .int .i64 (⟨6, D3.h.call, D3.h.tim, D3.h.whe, D3.h.had, D3.h.cnt, D3.h.beg, D3.h.rep, D3.h.out⟩ : Hd).call.c, .int .i64 (⟨6, D3.h.call, D3.h.tim, D3.h.whe, D3.h.had, D3.h.cnt, D3.h.beg, D3.h.rep, D3.h.out⟩ : Hd).tim, .int .i64 (⟨6, D3.h.call, D3.h.tim, D3.h.whe, D3.h.had, D3.h.cnt, D3.h.beg, D3.h.rep, D3.h.out⟩ : Hd).whe, .bool (⟨6, D3.h.call, D3.h.tim, D3.h.whe, D3.h.had, D3.h.cnt, D3.h.beg, D3.h.rep, D3.h.out⟩ : Hd).had, .int .i64 (⟨6, D3.h.call, D3.h.tim, D3.h.whe, D3.h.had, D3.h.cnt, D3.h.beg, D3.h.rep, D3.h.out⟩ : Hd).cnt, .int .i64 (⟨6, D3.h.call, D3.h.tim, D3.h.whe, D3.h.had, D3.h.cnt, D3.h.beg, D3.h.rep, D3.h.out⟩ : Hd).beg, .int .i64 (⟨6, D3.h.call, D3.h.tim, D3.h.whe, D3.h.had, D3.h.cnt, D3.h.beg, D3.h.rep, D3.h.out⟩ : Hd).rep, .int .i64 (⟨6, D3.h.call, D3.h.tim, D3.h.whe, D3.h.had, D3.h.cnt, D3.h.beg, D3.h.rep, D3.h.out⟩ : Hd).out, .int .i64 D3.v.kin, .int .i64 D3.v.tim, .int .i64 D3.v.gen, .int .i64 D3.v.whe, .int .i64 D3.v.clk] _ (range_of_block s5.a) Tryz.underlying43 rfl done_info ?_
  refine wpList_store_mid (by rfl) 43 _ _ (by rfl) _ 0 #[.int .i64 M.c, (.slice ta3 D3.m.tn tc3), (.slice (some ⟨pg3, 0, none⟩) M.pn pc3), .int .i64 (⟨6, D3.h.call, D3.h.tim, D3.h.whe, D3.h.had, D3.h.cnt, D3.h.beg, D3.h.rep, D3.h.out⟩ : Hd).pos, .int .i64 (⟨6, D3.h.call, D3.h.tim, D3.h.whe, D3.h.had, D3.h.cnt, D3.h.beg, D3.h.rep, D3.h.out⟩ : Hd).call.code, .int .i64 (⟨6, D3.h.call, D3.h.tim, D3.h.whe, D3.h.had, D3.h.cnt, D3.h.beg, D3.h.rep, D3.h.out⟩ : Hd).call.a, .int .i64 (⟨6, D3.h.call, D3.h.tim, D3.h.whe, D3.h.had, D3.h.cnt, D3.h.beg, D3.h.rep, D3.h.out⟩ : Hd).call.b, .int .i64 (⟨6, D3.h.call, D3.h.tim, D3.h.whe, D3.h.had, D3.h.cnt, D3.h.beg, D3.h.rep, D3.h.out⟩ : Hd).call.c, .int .i64 (⟨6, D3.h.call, D3.h.tim, D3.h.whe, D3.h.had, D3.h.cnt, D3.h.beg, D3.h.rep, D3.h.out⟩ : Hd).tim, .int .i64 (⟨6, D3.h.call, D3.h.tim, D3.h.whe, D3.h.had, D3.h.cnt, D3.h.beg, D3.h.rep, D3.h.out⟩ : Hd).whe, .bool (⟨6, D3.h.call, D3.h.tim, D3.h.whe, D3.h.had, D3.h.cnt, D3.h.beg, D3.h.rep, D3.h.out⟩ : Hd).had, .int .i64 (⟨6, D3.h.call, D3.h.tim, D3.h.whe, D3.h.had, D3.h.cnt, D3.h.beg, D3.h.rep, D3.h.out⟩ : Hd).cnt, .int .i64 (⟨6, D3.h.call, D3.h.tim, D3.h.whe, D3.h.had, D3.h.cnt, D3.h.beg, D3.h.rep, D3.h.out⟩ : Hd).beg, .int .i64 (⟨6, D3.h.call, D3.h.tim, D3.h.whe, D3.h.had, D3.h.cnt, D3.h.beg, D3.h.rep, D3.h.out⟩ : Hd).rep, .int .i64 (⟨6, D3.h.call, D3.h.tim, D3.h.whe, D3.h.had, D3.h.cnt, D3.h.beg, D3.h.rep, D3.h.out⟩ : Hd).out, .int .i64 D3.v.kin, .int .i64 D3.v.tim, .int .i64 D3.v.gen, .int .i64 D3.v.whe, .int .i64 D3.v.clk] (by rfl) (by rfl) s5.there done_info (by simp [Value.oneCell']) ?_
  refine wpList_nil ?_
  go_wp2
  exact bodyPost_ret (v := .agg #[.int .i64 M.c, (.slice ta3 D3.m.tn tc3), (.slice (some ⟨pg3, 0, none⟩) M.pn pc3), .int .i64 (⟨6, D3.h.call, D3.h.tim, D3.h.whe, D3.h.had, D3.h.cnt, D3.h.beg, D3.h.rep, D3.h.out⟩ : Hd).pos, .int .i64 (⟨6, D3.h.call, D3.h.tim, D3.h.whe, D3.h.had, D3.h.cnt, D3.h.beg, D3.h.rep, D3.h.out⟩ : Hd).call.code, .int .i64 (⟨6, D3.h.call, D3.h.tim, D3.h.whe, D3.h.had, D3.h.cnt, D3.h.beg, D3.h.rep, D3.h.out⟩ : Hd).call.a, .int .i64 (⟨6, D3.h.call, D3.h.tim, D3.h.whe, D3.h.had, D3.h.cnt, D3.h.beg, D3.h.rep, D3.h.out⟩ : Hd).call.b, .int .i64 (⟨6, D3.h.call, D3.h.tim, D3.h.whe, D3.h.had, D3.h.cnt, D3.h.beg, D3.h.rep, D3.h.out⟩ : Hd).call.c, .int .i64 (⟨6, D3.h.call, D3.h.tim, D3.h.whe, D3.h.had, D3.h.cnt, D3.h.beg, D3.h.rep, D3.h.out⟩ : Hd).tim, .int .i64 (⟨6, D3.h.call, D3.h.tim, D3.h.whe, D3.h.had, D3.h.cnt, D3.h.beg, D3.h.rep, D3.h.out⟩ : Hd).whe, .bool (⟨6, D3.h.call, D3.h.tim, D3.h.whe, D3.h.had, D3.h.cnt, D3.h.beg, D3.h.rep, D3.h.out⟩ : Hd).had, .int .i64 (⟨6, D3.h.call, D3.h.tim, D3.h.whe, D3.h.had, D3.h.cnt, D3.h.beg, D3.h.rep, D3.h.out⟩ : Hd).cnt, .int .i64 (⟨6, D3.h.call, D3.h.tim, D3.h.whe, D3.h.had, D3.h.cnt, D3.h.beg, D3.h.rep, D3.h.out⟩ : Hd).beg, .int .i64 (⟨6, D3.h.call, D3.h.tim, D3.h.whe, D3.h.had, D3.h.cnt, D3.h.beg, D3.h.rep, D3.h.out⟩ : Hd).rep, .int .i64 (⟨6, D3.h.call, D3.h.tim, D3.h.whe, D3.h.had, D3.h.cnt, D3.h.beg, D3.h.rep, D3.h.out⟩ : Hd).out, .int .i64 D3.v.kin, .int .i64 D3.v.tim, .int .i64 D3.v.gen, .int .i64 D3.v.whe, .int .i64 D3.v.clk]) (results_cell (cs := [.int .i64 M.c, (.slice ta3 D3.m.tn tc3), (.slice (some ⟨pg3, 0, none⟩) M.pn pc3), .int .i64 (⟨6, D3.h.call, D3.h.tim, D3.h.whe, D3.h.had, D3.h.cnt, D3.h.beg, D3.h.rep, D3.h.out⟩ : Hd).pos, .int .i64 (⟨6, D3.h.call, D3.h.tim, D3.h.whe, D3.h.had, D3.h.cnt, D3.h.beg, D3.h.rep, D3.h.out⟩ : Hd).call.code, .int .i64 (⟨6, D3.h.call, D3.h.tim, D3.h.whe, D3.h.had, D3.h.cnt, D3.h.beg, D3.h.rep, D3.h.out⟩ : Hd).call.a, .int .i64 (⟨6, D3.h.call, D3.h.tim, D3.h.whe, D3.h.had, D3.h.cnt, D3.h.beg, D3.h.rep, D3.h.out⟩ : Hd).call.b, .int .i64 (⟨6, D3.h.call, D3.h.tim, D3.h.whe, D3.h.had, D3.h.cnt, D3.h.beg, D3.h.rep, D3.h.out⟩ : Hd).call.c, .int .i64 (⟨6, D3.h.call, D3.h.tim, D3.h.whe, D3.h.had, D3.h.cnt, D3.h.beg, D3.h.rep, D3.h.out⟩ : Hd).tim, .int .i64 (⟨6, D3.h.call, D3.h.tim, D3.h.whe, D3.h.had, D3.h.cnt, D3.h.beg, D3.h.rep, D3.h.out⟩ : Hd).whe, .bool (⟨6, D3.h.call, D3.h.tim, D3.h.whe, D3.h.had, D3.h.cnt, D3.h.beg, D3.h.rep, D3.h.out⟩ : Hd).had, .int .i64 (⟨6, D3.h.call, D3.h.tim, D3.h.whe, D3.h.had, D3.h.cnt, D3.h.beg, D3.h.rep, D3.h.out⟩ : Hd).cnt, .int .i64 (⟨6, D3.h.call, D3.h.tim, D3.h.whe, D3.h.had, D3.h.cnt, D3.h.beg, D3.h.rep, D3.h.out⟩ : Hd).beg, .int .i64 (⟨6, D3.h.call, D3.h.tim, D3.h.whe, D3.h.had, D3.h.cnt, D3.h.beg, D3.h.rep, D3.h.out⟩ : Hd).rep, .int .i64 (⟨6, D3.h.call, D3.h.tim, D3.h.whe, D3.h.had, D3.h.cnt, D3.h.beg, D3.h.rep, D3.h.out⟩ : Hd).out, .int .i64 D3.v.kin, .int .i64 D3.v.tim, .int .i64 D3.v.gen, .int .i64 D3.v.whe, .int .i64 D3.v.clk]) rfl rfl s5.lies Tryz.underlying43 rfl done_info) rfl (s5.retC)

set_option maxRecDepth 100000 in
set_option maxHeartbeats 2000000 in
theorem l10Look_3 {B : Nat} {tv pv : Value} {M : Me} {h : Hd} {v : Et} {w : World} (hB : B ≤ w.heap.size) (hk : 0 < M.pn) (hn : M.tn ≤ 1048576) (hq : hasT M h.call.a = true) (hst : (M.t h.call.a.toNat).st = 3) (hm : OwnMem w B tv pv M) :
    Calls Tryz.prog 39 #[dnV ⟨M, h, v⟩ tv pv] w (InDn B (stopLookD ⟨M, h, v⟩) w) := by
  obtain ⟨t, het⟩ : ∃ t : Nat, h.call.a = (t : Int) := ⟨h.call.a.toNat, by have := inB_iff.1 hq; omega⟩
  have ht : t < M.tn := by have := inB_iff.1 hq; omega
  have eT : h.call.a.toNat = t := by rw [het]; rfl
  rw [eT] at hst
  obtain ⟨D3, hD3⟩ : ∃ D3, claimD ⟨M, h, v⟩ t = D3 := ⟨_, rfl⟩
  have ec : D3.m.c = M.c := by rw [← hD3]; rfl
  have ep : D3.m.pn = M.pn := by rw [← hD3]; rfl
  rw [show stopLookD ⟨M, h, v⟩ = ⟨D3.m, ⟨6, D3.h.call, D3.h.tim, D3.h.whe, D3.h.had, D3.h.cnt, D3.h.beg, D3.h.rep, D3.h.out⟩, D3.v⟩ by
    rw [stopLookD, if_pos hq]
    simp only [eT]
    simp [hst, hD3]]
  have g1 : ((M.t t).st == 1) = false := by simp [hst]
  have g3 : ((M.t t).st == 3) = true := by simp [hst]
  have g4 : ((M.t t).st == 4) = false := by simp [hst]
  have HD3 := Lib.hid hD3
  clear hD3 hst
  have HQ := Lib.hid (show hasT M (t : Int) = true by rw [← het]; exact hq)
  have HT := Lib.hid het
  clear hq het eT
  obtain ⟨pg, pc, V, rfl, ho⟩ := hm.openP hk
  clear hm
  obtain ⟨tg, tc, rfl, _⟩ := ho.tms ht
  obtain ⟨w1, e1, s1⟩ := DSt.start h v hB ho
  clear ho
  have i0 : (0 : Int) ≤ (t : Int) := by omega
  have i1 : (t : Int) < (M.tn : Int) := by omega
  obtain ⟨x0, x1, x2, x3, x4, x5, x6, x7, x8, x9, x10, x11, x12, x13, x14, x15, x16, x17, x18, x19, xf0, xf1, xf2, xf3, xf4, xf5, xf6, xf7, xf8, xf9, xf10, xf11, xf12, xf13, xf14, xf15, xf16, xf17, xf18, xf19⟩ := s1.cellsA
  rw [HT.out] at x5
  go_enter Tryz.func39, Tryz.ntmps39
  go_upto_region 1 with fail
  rw [← e1.out]
  clear e1
  go_wp2_with fail
  go_at_call 66; refine (l5Has_any ⟨_, _, rfl⟩ hn _ _).mono ?_; rw [HQ.out]; rintro e w2 ⟨rfl, hb⟩
  have s2 := s1.below hb
  clear s1 hb x0 x1 x2 x3 x4 x5 x6 x7 x8 x9 x10 x11 x12 x13 x14 x15 x16 x17 x18 x19 xf0 xf1 xf2 xf3 xf4 xf5 xf6 xf7 xf8 xf9 xf10 xf11 xf12 xf13 xf14 xf15 xf16 xf17 xf18 xf19
  obtain ⟨x0, x1, x2, x3, x4, x5, x6, x7, x8, x9, x10, x11, x12, x13, x14, x15, x16, x17, x18, x19, xf0, xf1, xf2, xf3, xf4, xf5, xf6, xf7, xf8, xf9, xf10, xf11, xf12, xf13, xf14, xf15, xf16, xf17, xf18, xf19⟩ := s2.cellsA
  obtain ⟨⟨t0, _⟩, _⟩ := s2.tcells ht rfl
  have lB2 := s2.size.1
  go_upto_region 10 with fail
  refine wp_region_lit ?_
  refine wpList_load_mid (by rfl) 43 _ (by rfl) _ 0 (by rfl) [.int .i64 M.c, (.slice (some ⟨tg, 0, none⟩) M.tn tc), (.slice (some ⟨pg, 0, none⟩) M.pn pc), .int .i64 h.pos, .int .i64 h.call.code, .int .i64 h.call.a, .int .i64 h.call.b, .int .i64 h.call.c, .int .i64 h.tim, .int .i64 h.whe, .bool h.had, .int .i64 h.cnt, .int .i64 h.beg, .int .i64 h.rep, .int .i64 h.out, .int .i64 v.kin, .int .i64 v.tim, .int .i64 v.gen, .int .i64 v.whe, .int .i64 v.clk] _ (range_of_block s2.a) Tryz.underlying43 rfl done_info ?_
  have hCl := l10Claim_any (h := h) (v := v) lB2 hk ht s2.own
  rw [HD3.out] at hCl
  go_wp2_with fail
  go_at_call 67; refine hCl.mono ?_
  rintro e w3 ⟨hI, hno⟩
  clear hno
  obtain ⟨ta3, tc3, pg3, pc3, V3, rfl, th3, s3⟩ := s2.callAll hI ec ep hk
  clear hCl hI s2 t0 x0 x1 x2 x3 x4 x5 x6 x7 x8 x9 x10 x11 x12 x13 x14 x15 x16 x17 x18 x19 xf0 xf1 xf2 xf3 xf4 xf5 xf6 xf7 xf8 xf9 xf10 xf11 xf12 xf13 xf14 xf15 xf16 xf17 xf18 xf19
  rename_i K1 hK1
  refine hK1 _ _ ?_
  clear hK1 K1
  refine wpList_store_mid (by rfl) 43 _ _ (by rfl) _ 0 (dnCells D3 (.slice ta3 D3.m.tn tc3) (.slice (some ⟨pg3, 0, none⟩) M.pn pc3)) (by rfl) (by rfl) th3 done_info (by simp [Value.oneCell']) ?_
  generalize hw4 : w3.setCells w.heap.size 0 (dnCells D3 (.slice ta3 D3.m.tn tc3) (.slice (some ⟨pg3, 0, none⟩) M.pn pc3)).toList = w4 at s3 ⊢
  clear hw4 th3 HD3
  obtain ⟨x0, x1, x2, x3, x4, x5, x6, x7, x8, x9, x10, x11, x12, x13, x14, x15, x16, x17, x18, x19, xf0, xf1, xf2, xf3, xf4, xf5, xf6, xf7, xf8, xf9, xf10, xf11, xf12, xf13, xf14, xf15, xf16, xf17, xf18, xf19⟩ := s3.cellsA
  obtain ⟨w5, e5, s5⟩ := s3.hand_pos 6
  go_upto_region 15 with fail
  rw [← e5.out]
  clear e5 s3 x0 x1 x2 x3 x4 x5 x6 x7 x8 x9 x10 x11 x12 x13 x14 x15 x16 x17 x18 x19 xf0 xf1 xf2 xf3 xf4 xf5 xf6 xf7 xf8 xf9 xf10 xf11 xf12 xf13 xf14 xf15 xf16 xf17 xf18 xf19
  refine wp_region_lit ?_
  refine wpList_load_mid (by rfl) 43 _ (by rfl) _ 0 (by rfl) [.int .i64 M.c, (.slice ta3 D3.m.tn tc3), (.slice (some ⟨pg3, 0, none⟩) M.pn pc3), .int .i64 (⟨6, D3.h.call, D3.h.tim, D3.h.whe, D3.h.had, D3.h.cnt, D3.h.beg, D3.h.rep, D3.h.out⟩ : Hd).pos, .int .i64 (⟨6, D3.h.call, D3.h.tim, D3.h.whe, D3.h.had, D3.h.cnt, D3.h.beg, D3.h.rep, D3.h.out⟩ : Hd).call.code, .int .i64 (⟨6, D3.h.call, D3.h.tim, D3.h.whe, D3.h.had, D3.h.cnt, D3.h.beg, D3.h.rep, D3.h.out⟩ : Hd).call.a, .int .i64 (⟨6, D3.h.call, D3.h.tim, D3.h.whe, D3.h.had, D3.h.cnt, D3.h.beg, D3.h.rep, D3.h.out⟩ : Hd).call.b, .int .i64 (⟨6, D3.h.call, D3.h.tim, D3.h.whe, D3.h.had, D3.h.cnt, D3.h.beg, D3.h.rep, D3.h.out⟩ : Hd).call.c, .int .i64 (⟨6, D3.h.call, D3.h.tim, D3.h.whe, D3.h.had, D3.h.cnt, D3.h.beg, D3.h.rep, D3.h.out⟩ : Hd).tim, .int .i64 (⟨6, D3.h.call, D3.h.tim, D3.h.whe, D3.h.had, D3.h.cnt, D3.h.beg, D3.h.rep, D3.h.out⟩ : Hd).whe, .bool (⟨6, D3.h.call, D3.h.tim, D3.h.whe, D3.h.had, D3.h.cnt, D3.h.beg, D3.h.rep, D3.h.out⟩ : Hd).had, .int .i64 (⟨6, D3.h.call, D3.h.tim, D3.h.whe, D3.h.had, D3.h.cnt, D3.h.beg, D3.h.rep, D3.h.out⟩ : Hd).cnt, .int .i64 (⟨6, D3.h.call, D3.h.tim, D3.h.whe, D3.h.had, D3.h.cnt, D3.h.beg, D3.h.rep, D3.h.out⟩ : Hd).beg, .int .i64 (⟨6, D3.h.call, D3.h.tim, D3.h.whe, D3.h.had, D3.h.cnt, D3.h.beg, D3.h.rep, D3.h.out⟩ : Hd).rep, .int .i64 (⟨6, D3.h.call, D3.h.tim, D3.h.whe, D3.h.had, D3.h.cnt, D3.h.beg, D3.h.rep, D3.h.out⟩ : Hd).out, .int .i64 D3.v.kin, .int .i64 D3.v.tim, .int .i64 D3.v.gen, .int .i64 D3.v.whe, .int .i64 D3.v.clk] _ (range_of_block s5.a) Tryz.underlying43 rfl done_info ?_
  refine wpList_store_mid (by rfl) 43 _ _ (by rfl) _ 0 #[.int .i64 M.c, (.slice ta3 D3.m.tn tc3), (.slice (some ⟨pg3, 0, none⟩) M.pn pc3), .int .i64 (⟨6, D3.h.call, D3.h.tim, D3.h.whe, D3.h.had, D3.h.cnt, D3.h.beg, D3.h.rep, D3.h.out⟩ : Hd).pos, .int .i64 (⟨6, D3.h.call, D3.h.tim, D3.h.whe, D3.h.had, D3.h.cnt, D3.h.beg, D3.h.rep, D3.h.out⟩ : Hd).call.code, .int .i64 (⟨6, D3.h.call, D3.h.tim, D3.h.whe, D3.h.had, D3.h.cnt, D3.h.beg, D3.h.rep, D3.h.out⟩ : Hd).call.a, .int .i64 (⟨6, D3.h.call, D3.h.tim, D3.h.whe, D3.h.had, D3.h.cnt, D3.h.beg, D3.h.rep, D3.h.out⟩ : Hd).call.b, .int .i64 (⟨6, D3.h.call, D3.h.tim, D3.h.whe, D3.h.had, D3.h.cnt, D3.h.beg, D3.h.rep, D3.h.out⟩ : Hd).call.c, .int .i64 (⟨6, D3.h.call, D3.h.tim, D3.h.whe, D3.h.had, D3.h.cnt, D3.h.beg, D3.h.rep, D3.h.out⟩ : Hd).tim, .int .i64 (⟨6, D3.h.call, D3.h.tim, D3.h.whe, D3.h.had, D3.h.cnt, D3.h.beg, D3.h.rep, D3.h.out⟩ : Hd).whe, .bool (⟨6, D3.h.call, D3.h.tim, D3.h.whe, D3.h.had, D3.h.cnt, D3.h.beg, D3.h.rep, D3.h.out⟩ : Hd).had, .int .i64 (⟨6, D3.h.call, D3.h.tim, D3.h.whe, D3.h.had, D3.h.cnt, D3.h.beg, D3.h.rep, D3.h.out⟩ : Hd).cnt, .int .i64 (⟨6, D3.h.call, D3.h.tim, D3.h.whe, D3.h.had, D3.h.cnt, D3.h.beg, D3.h.rep, D3.h.out⟩ : Hd).beg, .int .i64 (⟨6, D3.h.call, D3.h.tim, D3.h.whe, D3.h.had, D3.h.cnt, D3.h.beg, D3.h.rep, D3.h.out⟩ : Hd).rep, .int .i64 (⟨6, D3.h.call, D3.h.tim, D3.h.whe, D3.h.had, D3.h.cnt, D3.h.beg, D3.h.rep, D3.h.out⟩ : Hd).out, .int .i64 D3.v.kin, .int .i64 D3.v.tim, .int .i64 D3.v.gen, .int .i64 D3.v.whe, .int .i64 D3.v.clk] (by rfl) (by rfl) s5.there done_info (by simp [Value.oneCell']) ?_
  refine wpList_nil ?_
  go_wp2
  exact bodyPost_ret (v := .agg #[.int .i64 M.c, (.slice ta3 D3.m.tn tc3), (.slice (some ⟨pg3, 0, none⟩) M.pn pc3), .int .i64 (⟨6, D3.h.call, D3.h.tim, D3.h.whe, D3.h.had, D3.h.cnt, D3.h.beg, D3.h.rep, D3.h.out⟩ : Hd).pos, .int .i64 (⟨6, D3.h.call, D3.h.tim, D3.h.whe, D3.h.had, D3.h.cnt, D3.h.beg, D3.h.rep, D3.h.out⟩ : Hd).call.code, .int .i64 (⟨6, D3.h.call, D3.h.tim, D3.h.whe, D3.h.had, D3.h.cnt, D3.h.beg, D3.h.rep, D3.h.out⟩ : Hd).call.a, .int .i64 (⟨6, D3.h.call, D3.h.tim, D3.h.whe, D3.h.had, D3.h.cnt, D3.h.beg, D3.h.rep, D3.h.out⟩ : Hd).call.b, .int .i64 (⟨6, D3.h.call, D3.h.tim, D3.h.whe, D3.h.had, D3.h.cnt, D3.h.beg, D3.h.rep, D3.h.out⟩ : Hd).call.c, .int .i64 (⟨6, D3.h.call, D3.h.tim, D3.h.whe, D3.h.had, D3.h.cnt, D3.h.beg, D3.h.rep, D3.h.out⟩ : Hd).tim, .int .i64 (⟨6, D3.h.call, D3.h.tim, D3.h.whe, D3.h.had, D3.h.cnt, D3.h.beg, D3.h.rep, D3.h.out⟩ : Hd).whe, .bool (⟨6, D3.h.call, D3.h.tim, D3.h.whe, D3.h.had, D3.h.cnt, D3.h.beg, D3.h.rep, D3.h.out⟩ : Hd).had, .int .i64 (⟨6, D3.h.call, D3.h.tim, D3.h.whe, D3.h.had, D3.h.cnt, D3.h.beg, D3.h.rep, D3.h.out⟩ : Hd).cnt, .int .i64 (⟨6, D3.h.call, D3.h.tim, D3.h.whe, D3.h.had, D3.h.cnt, D3.h.beg, D3.h.rep, D3.h.out⟩ : Hd).beg, .int .i64 (⟨6, D3.h.call, D3.h.tim, D3.h.whe, D3.h.had, D3.h.cnt, D3.h.beg, D3.h.rep, D3.h.out⟩ : Hd).rep, .int .i64 (⟨6, D3.h.call, D3.h.tim, D3.h.whe, D3.h.had, D3.h.cnt, D3.h.beg, D3.h.rep, D3.h.out⟩ : Hd).out, .int .i64 D3.v.kin, .int .i64 D3.v.tim, .int .i64 D3.v.gen, .int .i64 D3.v.whe, .int .i64 D3.v.clk]) (results_cell (cs := [.int .i64 M.c, (.slice ta3 D3.m.tn tc3), (.slice (some ⟨pg3, 0, none⟩) M.pn pc3), .int .i64 (⟨6, D3.h.call, D3.h.tim, D3.h.whe, D3.h.had, D3.h.cnt, D3.h.beg, D3.h.rep, D3.h.out⟩ : Hd).pos, .int .i64 (⟨6, D3.h.call, D3.h.tim, D3.h.whe, D3.h.had, D3.h.cnt, D3.h.beg, D3.h.rep, D3.h.out⟩ : Hd).call.code, .int .i64 (⟨6, D3.h.call, D3.h.tim, D3.h.whe, D3.h.had, D3.h.cnt, D3.h.beg, D3.h.rep, D3.h.out⟩ : Hd).call.a, .int .i64 (⟨6, D3.h.call, D3.h.tim, D3.h.whe, D3.h.had, D3.h.cnt, D3.h.beg, D3.h.rep, D3.h.out⟩ : Hd).call.b, .int .i64 (⟨6, D3.h.call, D3.h.tim, D3.h.whe, D3.h.had, D3.h.cnt, D3.h.beg, D3.h.rep, D3.h.out⟩ : Hd).call.c, .int .i64 (⟨6, D3.h.call, D3.h.tim, D3.h.whe, D3.h.had, D3.h.cnt, D3.h.beg, D3.h.rep, D3.h.out⟩ : Hd).tim, .int .i64 (⟨6, D3.h.call, D3.h.tim, D3.h.whe, D3.h.had, D3.h.cnt, D3.h.beg, D3.h.rep, D3.h.out⟩ : Hd).whe, .bool (⟨6, D3.h.call, D3.h.tim, D3.h.whe, D3.h.had, D3.h.cnt, D3.h.beg, D3.h.rep, D3.h.out⟩ : Hd).had, .int .i64 (⟨6, D3.h.call, D3.h.tim, D3.h.whe, D3.h.had, D3.h.cnt, D3.h.beg, D3.h.rep, D3.h.out⟩ : Hd).cnt, .int .i64 (⟨6, D3.h.call, D3.h.tim, D3.h.whe, D3.h.had, D3.h.cnt, D3.h.beg, D3.h.rep, D3.h.out⟩ : Hd).beg, .int .i64 (⟨6, D3.h.call, D3.h.tim, D3.h.whe, D3.h.had, D3.h.cnt, D3.h.beg, D3.h.rep, D3.h.out⟩ : Hd).rep, .int .i64 (⟨6, D3.h.call, D3.h.tim, D3.h.whe, D3.h.had, D3.h.cnt, D3.h.beg, D3.h.rep, D3.h.out⟩ : Hd).out, .int .i64 D3.v.kin, .int .i64 D3.v.tim, .int .i64 D3.v.gen, .int .i64 D3.v.whe, .int .i64 D3.v.clk]) rfl rfl s5.lies Tryz.underlying43 rfl done_info) rfl (s5.retC)

set_option maxRecDepth 100000 in
set_option maxHeartbeats 2000000 in
theorem l10Look_4 {B : Nat} {tv pv : Value} {M : Me} {h : Hd} {v : Et} {w : World} (hB : B ≤ w.heap.size) (hk : 0 < M.pn) (hn : M.tn ≤ 1048576) (hq : hasT M h.call.a = true) (hst : (M.t h.call.a.toNat).st = 4) (hm : OwnMem w B tv pv M) :
    Calls Tryz.prog 39 #[dnV ⟨M, h, v⟩ tv pv] w (InDn B (stopLookD ⟨M, h, v⟩) w) := by
  obtain ⟨t, het⟩ : ∃ t : Nat, h.call.a = (t : Int) := ⟨h.call.a.toNat, by have := inB_iff.1 hq; omega⟩
  have ht : t < M.tn := by have := inB_iff.1 hq; omega
  have eT : h.call.a.toNat = t := by rw [het]; rfl
  rw [eT] at hst
  obtain ⟨D3, hD3⟩ : ∃ D3, claimD ⟨M, h, v⟩ t = D3 := ⟨_, rfl⟩
  have ec : D3.m.c = M.c := by rw [← hD3]; rfl
  have ep : D3.m.pn = M.pn := by rw [← hD3]; rfl
  rw [show stopLookD ⟨M, h, v⟩ = ⟨D3.m, ⟨6, D3.h.call, D3.h.tim, D3.h.whe, D3.h.had, D3.h.cnt, D3.h.beg, D3.h.rep, D3.h.out⟩, D3.v⟩ by
    rw [stopLookD, if_pos hq]
    simp only [eT]
    simp [hst, hD3]]
  have g1 : ((M.t t).st == 1) = false := by simp [hst]
  have g3 : ((M.t t).st == 3) = false := by simp [hst]
  have g4 : ((M.t t).st == 4) = true := by simp [hst]
  have HD3 := Lib.hid hD3
  clear hD3 hst
  have HQ := Lib.hid (show hasT M (t : Int) = true by rw [← het]; exact hq)
  have HT := Lib.hid het
  clear hq het eT
  obtain ⟨pg, pc, V, rfl, ho⟩ := hm.openP hk
  clear hm
  obtain ⟨tg, tc, rfl, _⟩ := ho.tms ht
  obtain ⟨w1, e1, s1⟩ := DSt.start h v hB ho
  clear ho
  have i0 : (0 : Int) ≤ (t : Int) := by omega
  have i1 : (t : Int) < (M.tn : Int) := by omega
  obtain ⟨x0, x1, x2, x3, x4, x5, x6, x7, x8, x9, x10, x11, x12, x13, x14, x15, x16, x17, x18, x19, xf0, xf1, xf2, xf3, xf4, xf5, xf6, xf7, xf8, xf9, xf10, xf11, xf12, xf13, xf14, xf15, xf16, xf17, xf18, xf19⟩ := s1.cellsA
  rw [HT.out] at x5
  go_enter Tryz.func39, Tryz.ntmps39
  go_upto_region 1 with fail
  rw [← e1.out]
  clear e1
  go_wp2_with fail
  go_at_call 66; refine (l5Has_any ⟨_, _, rfl⟩ hn _ _).mono ?_; rw [HQ.out]; rintro e w2 ⟨rfl, hb⟩
  have s2 := s1.below hb
  clear s1 hb x0 x1 x2 x3 x4 x5 x6 x7 x8 x9 x10 x11 x12 x13 x14 x15 x16 x17 x18 x19 xf0 xf1 xf2 xf3 xf4 xf5 xf6 xf7 xf8 xf9 xf10 xf11 xf12 xf13 xf14 xf15 xf16 xf17 xf18 xf19
  obtain ⟨x0, x1, x2, x3, x4, x5, x6, x7, x8, x9, x10, x11, x12, x13, x14, x15, x16, x17, x18, x19, xf0, xf1, xf2, xf3, xf4, xf5, xf6, xf7, xf8, xf9, xf10, xf11, xf12, xf13, xf14, xf15, xf16, xf17, xf18, xf19⟩ := s2.cellsA
  obtain ⟨⟨t0, _⟩, _⟩ := s2.tcells ht rfl
  have lB2 := s2.size.1
  go_upto_region 10 with fail
  refine wp_region_lit ?_
  refine wpList_load_mid (by rfl) 43 _ (by rfl) _ 0 (by rfl) [.int .i64 M.c, (.slice (some ⟨tg, 0, none⟩) M.tn tc), (.slice (some ⟨pg, 0, none⟩) M.pn pc), .int .i64 h.pos, .int .i64 h.call.code, .int .i64 h.call.a, .int .i64 h.call.b, .int .i64 h.call.c, .int .i64 h.tim, .int .i64 h.whe, .bool h.had, .int .i64 h.cnt, .int .i64 h.beg, .int .i64 h.rep, .int .i64 h.out, .int .i64 v.kin, .int .i64 v.tim, .int .i64 v.gen, .int .i64 v.whe, .int .i64 v.clk] _ (range_of_block s2.a) Tryz.underlying43 rfl done_info ?_
  have hCl := l10Claim_any (h := h) (v := v) lB2 hk ht s2.own
  rw [HD3.out] at hCl
  go_wp2_with fail
  go_at_call 67; refine hCl.mono ?_
  rintro e w3 ⟨hI, hno⟩
  clear hno
  obtain ⟨ta3, tc3, pg3, pc3, V3, rfl, th3, s3⟩ := s2.callAll hI ec ep hk
  clear hCl hI s2 t0 x0 x1 x2 x3 x4 x5 x6 x7 x8 x9 x10 x11 x12 x13 x14 x15 x16 x17 x18 x19 xf0 xf1 xf2 xf3 xf4 xf5 xf6 xf7 xf8 xf9 xf10 xf11 xf12 xf13 xf14 xf15 xf16 xf17 xf18 xf19
  rename_i K1 hK1
  refine hK1 _ _ ?_
  clear hK1 K1
  refine wpList_store_mid (by rfl) 43 _ _ (by rfl) _ 0 (dnCells D3 (.slice ta3 D3.m.tn tc3) (.slice (some ⟨pg3, 0, none⟩) M.pn pc3)) (by rfl) (by rfl) th3 done_info (by simp [Value.oneCell']) ?_
  generalize hw4 : w3.setCells w.heap.size 0 (dnCells D3 (.slice ta3 D3.m.tn tc3) (.slice (some ⟨pg3, 0, none⟩) M.pn pc3)).toList = w4 at s3 ⊢
  clear hw4 th3 HD3
  obtain ⟨x0, x1, x2, x3, x4, x5, x6, x7, x8, x9, x10, x11, x12, x13, x14, x15, x16, x17, x18, x19, xf0, xf1, xf2, xf3, xf4, xf5, xf6, xf7, xf8, xf9, xf10, xf11, xf12, xf13, xf14, xf15, xf16, xf17, xf18, xf19⟩ := s3.cellsA
  obtain ⟨w5, e5, s5⟩ := s3.hand_pos 6
  go_upto_region 15 with fail
  rw [← e5.out]
  clear e5 s3 x0 x1 x2 x3 x4 x5 x6 x7 x8 x9 x10 x11 x12 x13 x14 x15 x16 x17 x18 x19 xf0 xf1 xf2 xf3 xf4 xf5 xf6 xf7 xf8 xf9 xf10 xf11 xf12 xf13 xf14 xf15 xf16 xf17 xf18 xf19
  refine wp_region_lit ?_
  refine wpList_load_mid (by rfl) 43 _ (by rfl) _ 0 (by rfl) [.int .i64 M.c, (.slice ta3 D3.m.tn tc3), (.slice (some ⟨pg3, 0, none⟩) M.pn pc3), .int .i64 (⟨6, D3.h.call, D3.h.tim, D3.h.whe, D3.h.had, D3.h.cnt, D3.h.beg, D3.h.rep, D3.h.out⟩ : Hd).pos, .int .i64 (⟨6, D3.h.call, D3.h.tim, D3.h.whe, D3.h.had, D3.h.cnt, D3.h.beg, D3.h.rep, D3.h.out⟩ : Hd).call.code, .int .i64 (⟨6, D3.h.call, D3.h.tim, D3.h.whe, D3.h.had, D3.h.cnt, D3.h.beg, D3.h.rep, D3.h.out⟩ : Hd).call.a, .int .i64 (⟨6, D3.h.call, D3.h.tim, D3.h.whe, D3.h.had, D3.h.cnt, D3.h.beg, D3.h.rep, D3.h.out⟩ : Hd).call.b, .int .i64 (⟨6, D3.h.call, D3.h.tim, D3.h.whe, D3.h.had, D3.h.cnt, D3.h.beg, D3.h.rep, D3.h.out⟩ : Hd).call.c, .int .i64 (⟨6, D3.h.call, D3.h.tim, D3.h.whe, D3.h.had, D3.h.cnt, D3.h.beg, D3.h.rep, D3.h.out⟩ : Hd).tim, .int .i64 (⟨6, D3.h.call, D3.h.tim, D3.h.whe, D3.h.had, D3.h.cnt, D3.h.beg, D3.h.rep, D3.h.out⟩ : Hd).whe, .bool (⟨6, D3.h.call, D3.h.tim, D3.h.whe, D3.h.had, D3.h.cnt, D3.h.beg, D3.h.rep, D3.h.out⟩ : Hd).had, .int .i64 (⟨6, D3.h.call, D3.h.tim, D3.h.whe, D3.h.had, D3.h.cnt, D3.h.beg, D3.h.rep, D3.h.out⟩ : Hd).cnt, .int .i64 (⟨6, D3.h.call, D3.h.tim, D3.h.whe, D3.h.had, D3.h.cnt, D3.h.beg, D3.h.rep, D3.h.out⟩ : Hd).beg, .int .i64 (⟨6, D3.h.call, D3.h.tim, D3.h.whe, D3.h.had, D3.h.cnt, D3.h.beg, D3.h.rep, D3.h.out⟩ : Hd).rep, .int .i64 (⟨6, D3.h.call, D3.h.tim, D3.h.whe, D3.h.had, D3.h.cnt, D3.h.beg, D3.h.rep, D3.h.out⟩ : Hd).out, .int .i64 D3.v.kin, .int .i64 D3.v.tim, .int .i64 D3.v.gen, .int .i64 D3.v.whe, .int .i64 D3.v.clk] _ (range_of_block s5.a) Tryz.underlying43 rfl done_info ?_
  refine wpList_store_mid (by rfl) 43 _ _ (by rfl) _ 0 #[.int .i64 M.c, (.slice ta3 D3.m.tn tc3), (.slice (some ⟨pg3, 0, none⟩) M.pn pc3), .int .i64 (⟨6, D3.h.call, D3.h.tim, D3.h.whe, D3.h.had, D3.h.cnt, D3.h.beg, D3.h.rep, D3.h.out⟩ : Hd).pos, .int .i64 (⟨6, D3.h.call, D3.h.tim, D3.h.whe, D3.h.had, D3.h.cnt, D3.h.beg, D3.h.rep, D3.h.out⟩ : Hd).call.code, .int .i64 (⟨6, D3.h.call, D3.h.tim, D3.h.whe, D3.h.had, D3.h.cnt, D3.h.beg, D3.h.rep, D3.h.out⟩ : Hd).call.a, .int .i64 (⟨6, D3.h.call, D3.h.tim, D3.h.whe, D3.h.had, D3.h.cnt, D3.h.beg, D3.h.rep, D3.h.out⟩ : Hd).call.b, .int .i64 (⟨6, D3.h.call, D3.h.tim, D3.h.whe, D3.h.had, D3.h.cnt, D3.h.beg, D3.h.rep, D3.h.out⟩ : Hd).call.c, .int .i64 (⟨6, D3.h.call, D3.h.tim, D3.h.whe, D3.h.had, D3.h.cnt, D3.h.beg, D3.h.rep, D3.h.out⟩ : Hd).tim, .int .i64 (⟨6, D3.h.call, D3.h.tim, D3.h.whe, D3.h.had, D3.h.cnt, D3.h.beg, D3.h.rep, D3.h.out⟩ : Hd).whe, .bool (⟨6, D3.h.call, D3.h.tim, D3.h.whe, D3.h.had, D3.h.cnt, D3.h.beg, D3.h.rep, D3.h.out⟩ : Hd).had, .int .i64 (⟨6, D3.h.call, D3.h.tim, D3.h.whe, D3.h.had, D3.h.cnt, D3.h.beg, D3.h.rep, D3.h.out⟩ : Hd).cnt, .int .i64 (⟨6, D3.h.call, D3.h.tim, D3.h.whe, D3.h.had, D3.h.cnt, D3.h.beg, D3.h.rep, D3.h.out⟩ : Hd).beg, .int .i64 (⟨6, D3.h.call, D3.h.tim, D3.h.whe, D3.h.had, D3.h.cnt, D3.h.beg, D3.h.rep, D3.h.out⟩ : Hd).rep, .int .i64 (⟨6, D3.h.call, D3.h.tim, D3.h.whe, D3.h.had, D3.h.cnt, D3.h.beg, D3.h.rep, D3.h.out⟩ : Hd).out, .int .i64 D3.v.kin, .int .i64 D3.v.tim, .int .i64 D3.v.gen, .int .i64 D3.v.whe, .int .i64 D3.v.clk] (by rfl) (by rfl) s5.there done_info (by simp [Value.oneCell']) ?_
  refine wpList_nil ?_
  go_wp2
  exact bodyPost_ret (v := .agg #[.int .i64 M.c, (.slice ta3 D3.m.tn tc3), (.slice (some ⟨pg3, 0, none⟩) M.pn pc3), .int .i64 (⟨6, D3.h.call, D3.h.tim, D3.h.whe, D3.h.had, D3.h.cnt, D3.h.beg, D3.h.rep, D3.h.out⟩ : Hd).pos, .int .i64 (⟨6, D3.h.call, D3.h.tim, D3.h.whe, D3.h.had, D3.h.cnt, D3.h.beg, D3.h.rep, D3.h.out⟩ : Hd).call.code, .int .i64 (⟨6, D3.h.call, D3.h.tim, D3.h.whe, D3.h.had, D3.h.cnt, D3.h.beg, D3.h.rep, D3.h.out⟩ : Hd).call.a, .int .i64 (⟨6, D3.h.call, D3.h.tim, D3.h.whe, D3.h.had, D3.h.cnt, D3.h.beg, D3.h.rep, D3.h.out⟩ : Hd).call.b, .int .i64 (⟨6, D3.h.call, D3.h.tim, D3.h.whe, D3.h.had, D3.h.cnt, D3.h.beg, D3.h.rep, D3.h.out⟩ : Hd).call.c, .int .i64 (⟨6, D3.h.call, D3.h.tim, D3.h.whe, D3.h.had, D3.h.cnt, D3.h.beg, D3.h.rep, D3.h.out⟩ : Hd).tim, .int .i64 (⟨6, D3.h.call, D3.h.tim, D3.h.whe, D3.h.had, D3.h.cnt, D3.h.beg, D3.h.rep, D3.h.out⟩ : Hd).whe, .bool (⟨6, D3.h.call, D3.h.tim, D3.h.whe, D3.h.had, D3.h.cnt, D3.h.beg, D3.h.rep, D3.h.out⟩ : Hd).had, .int .i64 (⟨6, D3.h.call, D3.h.tim, D3.h.whe, D3.h.had, D3.h.cnt, D3.h.beg, D3.h.rep, D3.h.out⟩ : Hd).cnt, .int .i64 (⟨6, D3.h.call, D3.h.tim, D3.h.whe, D3.h.had, D3.h.cnt, D3.h.beg, D3.h.rep, D3.h.out⟩ : Hd).beg, .int .i64 (⟨6, D3.h.call, D3.h.tim, D3.h.whe, D3.h.had, D3.h.cnt, D3.h.beg, D3.h.rep, D3.h.out⟩ : Hd).rep, .int .i64 (⟨6, D3.h.call, D3.h.tim, D3.h.whe, D3.h.had, D3.h.cnt, D3.h.beg, D3.h.rep, D3.h.out⟩ : Hd).out, .int .i64 D3.v.kin, .int .i64 D3.v.tim, .int .i64 D3.v.gen, .int .i64 D3.v.whe, .int .i64 D3.v.clk]) (results_cell (cs := [.int .i64 M.c, (.slice ta3 D3.m.tn tc3), (.slice (some ⟨pg3, 0, none⟩) M.pn pc3), .int .i64 (⟨6, D3.h.call, D3.h.tim, D3.h.whe, D3.h.had, D3.h.cnt, D3.h.beg, D3.h.rep, D3.h.out⟩ : Hd).pos, .int .i64 (⟨6, D3.h.call, D3.h.tim, D3.h.whe, D3.h.had, D3.h.cnt, D3.h.beg, D3.h.rep, D3.h.out⟩ : Hd).call.code, .int .i64 (⟨6, D3.h.call, D3.h.tim, D3.h.whe, D3.h.had, D3.h.cnt, D3.h.beg, D3.h.rep, D3.h.out⟩ : Hd).call.a, .int .i64 (⟨6, D3.h.call, D3.h.tim, D3.h.whe, D3.h.had, D3.h.cnt, D3.h.beg, D3.h.rep, D3.h.out⟩ : Hd).call.b, .int .i64 (⟨6, D3.h.call, D3.h.tim, D3.h.whe, D3.h.had, D3.h.cnt, D3.h.beg, D3.h.rep, D3.h.out⟩ : Hd).call.c, .int .i64 (⟨6, D3.h.call, D3.h.tim, D3.h.whe, D3.h.had, D3.h.cnt, D3.h.beg, D3.h.rep, D3.h.out⟩ : Hd).tim, .int .i64 (⟨6, D3.h.call, D3.h.tim, D3.h.whe, D3.h.had, D3.h.cnt, D3.h.beg, D3.h.rep, D3.h.out⟩ : Hd).whe, .bool (⟨6, D3.h.call, D3.h.tim, D3.h.whe, D3.h.had, D3.h.cnt, D3.h.beg, D3.h.rep, D3.h.out⟩ : Hd).had, .int .i64 (⟨6, D3.h.call, D3.h.tim, D3.h.whe, D3.h.had, D3.h.cnt, D3.h.beg, D3.h.rep, D3.h.out⟩ : Hd).cnt, .int .i64 (⟨6, D3.h.call, D3.h.tim, D3.h.whe, D3.h.had, D3.h.cnt, D3.h.beg, D3.h.rep, D3.h.out⟩ : Hd).beg, .int .i64 (⟨6, D3.h.call, D3.h.tim, D3.h.whe, D3.h.had, D3.h.cnt, D3.h.beg, D3.h.rep, D3.h.out⟩ : Hd).rep, .int .i64 (⟨6, D3.h.call, D3.h.tim, D3.h.whe, D3.h.had, D3.h.cnt, D3.h.beg, D3.h.rep, D3.h.out⟩ : Hd).out, .int .i64 D3.v.kin, .int .i64 D3.v.tim, .int .i64 D3.v.gen, .int .i64 D3.v.whe, .int .i64 D3.v.clk]) rfl rfl s5.lies Tryz.underlying43 rfl done_info) rfl (s5.retC)

set_option maxRecDepth 100000 in
set_option maxHeartbeats 2000000 in
theorem l10Look_2 {B : Nat} {tv pv : Value} {M : Me} {h : Hd} {v : Et} {w : World} (hB : B ≤ w.heap.size) (hk : 0 < M.pn) (hn : M.tn ≤ 1048576) (hq : hasT M h.call.a = true) (hst : (M.t h.call.a.toNat).st = 2) (hm : OwnMem w B tv pv M) :
    Calls Tryz.prog 39 #[dnV ⟨M, h, v⟩ tv pv] w (InDn B (stopLookD ⟨M, h, v⟩) w) := by
  obtain ⟨t, het⟩ : ∃ t : Nat, h.call.a = (t : Int) := ⟨h.call.a.toNat, by have := inB_iff.1 hq; omega⟩
  have ht : t < M.tn := by have := inB_iff.1 hq; omega
  have eT : h.call.a.toNat = t := by rw [het]; rfl
  rw [eT] at hst
  rw [show stopLookD ⟨M, h, v⟩ = ⟨M, h, v⟩ by
    rw [stopLookD, if_pos hq]
    simp only [eT]
    simp [hst]]
  have g1 : ((M.t t).st == 1) = false := by simp [hst]
  have g3 : ((M.t t).st == 3) = false := by simp [hst]
  have g4 : ((M.t t).st == 4) = false := by simp [hst]
  have g2 : ((M.t t).st == 2) = true := by simp [hst]
  have g6 : ((M.t t).st == 6) = false := by simp [hst]
  clear hst
  have HQ := Lib.hid (show hasT M (t : Int) = true by rw [← het]; exact hq)
  have HT := Lib.hid het
  clear hq het eT
  obtain ⟨pg, pc, V, rfl, ho⟩ := hm.openP hk
  clear hm
  obtain ⟨tg, tc, rfl, _⟩ := ho.tms ht
  obtain ⟨w1, e1, s1⟩ := DSt.start h v hB ho
  clear ho
  have i0 : (0 : Int) ≤ (t : Int) := by omega
  have i1 : (t : Int) < (M.tn : Int) := by omega
  obtain ⟨x0, x1, x2, x3, x4, x5, x6, x7, x8, x9, x10, x11, x12, x13, x14, x15, x16, x17, x18, x19, xf0, xf1, xf2, xf3, xf4, xf5, xf6, xf7, xf8, xf9, xf10, xf11, xf12, xf13, xf14, xf15, xf16, xf17, xf18, xf19⟩ := s1.cellsA
  rw [HT.out] at x5
  go_enter Tryz.func39, Tryz.ntmps39
  go_upto_region 1 with fail
  rw [← e1.out]
  clear e1
  go_wp2_with fail
  go_at_call 66; refine (l5Has_any ⟨_, _, rfl⟩ hn _ _).mono ?_; rw [HQ.out]; rintro e w2 ⟨rfl, hb⟩
  have s2 := s1.below hb
  clear s1 hb x0 x1 x2 x3 x4 x5 x6 x7 x8 x9 x10 x11 x12 x13 x14 x15 x16 x17 x18 x19 xf0 xf1 xf2 xf3 xf4 xf5 xf6 xf7 xf8 xf9 xf10 xf11 xf12 xf13 xf14 xf15 xf16 xf17 xf18 xf19
  obtain ⟨x0, x1, x2, x3, x4, x5, x6, x7, x8, x9, x10, x11, x12, x13, x14, x15, x16, x17, x18, x19, xf0, xf1, xf2, xf3, xf4, xf5, xf6, xf7, xf8, xf9, xf10, xf11, xf12, xf13, xf14, xf15, xf16, xf17, xf18, xf19⟩ := s2.cellsA
  obtain ⟨⟨t0, _⟩, _⟩ := s2.tcells ht rfl
  have lB2 := s2.size.1
  go_upto_region 14 with fail
  clear t0 x0 x1 x2 x3 x4 x5 x6 x7 x8 x9 x10 x11 x12 x13 x14 x15 x16 x17 x18 x19 xf0 xf1 xf2 xf3 xf4 xf5 xf6 xf7 xf8 xf9 xf10 xf11 xf12 xf13 xf14 xf15 xf16 xf17 xf18 xf19
  refine wp_region_lit ?_
  refine wpList_load_mid (by rfl) 43 _ (by rfl) _ 0 (by rfl) [.int .i64 M.c, (.slice (some ⟨tg, 0, none⟩) M.tn tc), (.slice (some ⟨pg, 0, none⟩) M.pn pc), .int .i64 h.pos, .int .i64 h.call.code, .int .i64 h.call.a, .int .i64 h.call.b, .int .i64 h.call.c, .int .i64 h.tim, .int .i64 h.whe, .bool h.had, .int .i64 h.cnt, .int .i64 h.beg, .int .i64 h.rep, .int .i64 h.out, .int .i64 v.kin, .int .i64 v.tim, .int .i64 v.gen, .int .i64 v.whe, .int .i64 v.clk] _ (range_of_block s2.a) Tryz.underlying43 rfl done_info ?_
  refine wpList_store_mid (by rfl) 43 _ _ (by rfl) _ 0 #[.int .i64 M.c, (.slice (some ⟨tg, 0, none⟩) M.tn tc), (.slice (some ⟨pg, 0, none⟩) M.pn pc), .int .i64 h.pos, .int .i64 h.call.code, .int .i64 h.call.a, .int .i64 h.call.b, .int .i64 h.call.c, .int .i64 h.tim, .int .i64 h.whe, .bool h.had, .int .i64 h.cnt, .int .i64 h.beg, .int .i64 h.rep, .int .i64 h.out, .int .i64 v.kin, .int .i64 v.tim, .int .i64 v.gen, .int .i64 v.whe, .int .i64 v.clk] (by rfl) (by rfl) s2.there done_info (by simp [Value.oneCell']) ?_
  refine wpList_nil ?_
  go_wp2
  exact bodyPost_ret (v := .agg #[.int .i64 M.c, (.slice (some ⟨tg, 0, none⟩) M.tn tc), (.slice (some ⟨pg, 0, none⟩) M.pn pc), .int .i64 h.pos, .int .i64 h.call.code, .int .i64 h.call.a, .int .i64 h.call.b, .int .i64 h.call.c, .int .i64 h.tim, .int .i64 h.whe, .bool h.had, .int .i64 h.cnt, .int .i64 h.beg, .int .i64 h.rep, .int .i64 h.out, .int .i64 v.kin, .int .i64 v.tim, .int .i64 v.gen, .int .i64 v.whe, .int .i64 v.clk]) (results_cell (cs := [.int .i64 M.c, (.slice (some ⟨tg, 0, none⟩) M.tn tc), (.slice (some ⟨pg, 0, none⟩) M.pn pc), .int .i64 h.pos, .int .i64 h.call.code, .int .i64 h.call.a, .int .i64 h.call.b, .int .i64 h.call.c, .int .i64 h.tim, .int .i64 h.whe, .bool h.had, .int .i64 h.cnt, .int .i64 h.beg, .int .i64 h.rep, .int .i64 h.out, .int .i64 v.kin, .int .i64 v.tim, .int .i64 v.gen, .int .i64 v.whe, .int .i64 v.clk]) rfl rfl s2.lies Tryz.underlying43 rfl done_info) rfl (s2.retC)

set_option maxRecDepth 100000 in
set_option maxHeartbeats 2000000 in
theorem l10Look_6 {B : Nat} {tv pv : Value} {M : Me} {h : Hd} {v : Et} {w : World} (hB : B ≤ w.heap.size) (hk : 0 < M.pn) (hn : M.tn ≤ 1048576) (hq : hasT M h.call.a = true) (hst : (M.t h.call.a.toNat).st = 6) (hm : OwnMem w B tv pv M) :
    Calls Tryz.prog 39 #[dnV ⟨M, h, v⟩ tv pv] w (InDn B (stopLookD ⟨M, h, v⟩) w) := by
  obtain ⟨t, het⟩ : ∃ t : Nat, h.call.a = (t : Int) := ⟨h.call.a.toNat, by have := inB_iff.1 hq; omega⟩
  have ht : t < M.tn := by have := inB_iff.1 hq; omega
  have eT : h.call.a.toNat = t := by rw [het]; rfl
  rw [eT] at hst
  rw [show stopLookD ⟨M, h, v⟩ = ⟨M, h, v⟩ by
    rw [stopLookD, if_pos hq]
    simp only [eT]
    simp [hst]]
  have g1 : ((M.t t).st == 1) = false := by simp [hst]
  have g3 : ((M.t t).st == 3) = false := by simp [hst]
  have g4 : ((M.t t).st == 4) = false := by simp [hst]
  have g2 : ((M.t t).st == 2) = false := by simp [hst]
  have g6 : ((M.t t).st == 6) = true := by simp [hst]
  clear hst
  have HQ := Lib.hid (show hasT M (t : Int) = true by rw [← het]; exact hq)
  have HT := Lib.hid het
  clear hq het eT
  obtain ⟨pg, pc, V, rfl, ho⟩ := hm.openP hk
  clear hm
  obtain ⟨tg, tc, rfl, _⟩ := ho.tms ht
  obtain ⟨w1, e1, s1⟩ := DSt.start h v hB ho
  clear ho
  have i0 : (0 : Int) ≤ (t : Int) := by omega
  have i1 : (t : Int) < (M.tn : Int) := by omega
  obtain ⟨x0, x1, x2, x3, x4, x5, x6, x7, x8, x9, x10, x11, x12, x13, x14, x15, x16, x17, x18, x19, xf0, xf1, xf2, xf3, xf4, xf5, xf6, xf7, xf8, xf9, xf10, xf11, xf12, xf13, xf14, xf15, xf16, xf17, xf18, xf19⟩ := s1.cellsA
  rw [HT.out] at x5
  go_enter Tryz.func39, Tryz.ntmps39
  go_upto_region 1 with fail
  rw [← e1.out]
  clear e1
  go_wp2_with fail
  go_at_call 66; refine (l5Has_any ⟨_, _, rfl⟩ hn _ _).mono ?_; rw [HQ.out]; rintro e w2 ⟨rfl, hb⟩
  have s2 := s1.below hb
  clear s1 hb x0 x1 x2 x3 x4 x5 x6 x7 x8 x9 x10 x11 x12 x13 x14 x15 x16 x17 x18 x19 xf0 xf1 xf2 xf3 xf4 xf5 xf6 xf7 xf8 xf9 xf10 xf11 xf12 xf13 xf14 xf15 xf16 xf17 xf18 xf19
  obtain ⟨x0, x1, x2, x3, x4, x5, x6, x7, x8, x9, x10, x11, x12, x13, x14, x15, x16, x17, x18, x19, xf0, xf1, xf2, xf3, xf4, xf5, xf6, xf7, xf8, xf9, xf10, xf11, xf12, xf13, xf14, xf15, xf16, xf17, xf18, xf19⟩ := s2.cellsA
  obtain ⟨⟨t0, _⟩, _⟩ := s2.tcells ht rfl
  have lB2 := s2.size.1
  go_upto_region 14 with fail
  clear t0 x0 x1 x2 x3 x4 x5 x6 x7 x8 x9 x10 x11 x12 x13 x14 x15 x16 x17 x18 x19 xf0 xf1 xf2 xf3 xf4 xf5 xf6 xf7 xf8 xf9 xf10 xf11 xf12 xf13 xf14 xf15 xf16 xf17 xf18 xf19
  refine wp_region_lit ?_
  refine wpList_load_mid (by rfl) 43 _ (by rfl) _ 0 (by rfl) [.int .i64 M.c, (.slice (some ⟨tg, 0, none⟩) M.tn tc), (.slice (some ⟨pg, 0, none⟩) M.pn pc), .int .i64 h.pos, .int .i64 h.call.code, .int .i64 h.call.a, .int .i64 h.call.b, .int .i64 h.call.c, .int .i64 h.tim, .int .i64 h.whe, .bool h.had, .int .i64 h.cnt, .int .i64 h.beg, .int .i64 h.rep, .int .i64 h.out, .int .i64 v.kin, .int .i64 v.tim, .int .i64 v.gen, .int .i64 v.whe, .int .i64 v.clk] _ (range_of_block s2.a) Tryz.underlying43 rfl done_info ?_
  refine wpList_store_mid (by rfl) 43 _ _ (by rfl) _ 0 #[.int .i64 M.c, (.slice (some ⟨tg, 0, none⟩) M.tn tc), (.slice (some ⟨pg, 0, none⟩) M.pn pc), .int .i64 h.pos, .int .i64 h.call.code, .int .i64 h.call.a, .int .i64 h.call.b, .int .i64 h.call.c, .int .i64 h.tim, .int .i64 h.whe, .bool h.had, .int .i64 h.cnt, .int .i64 h.beg, .int .i64 h.rep, .int .i64 h.out, .int .i64 v.kin, .int .i64 v.tim, .int .i64 v.gen, .int .i64 v.whe, .int .i64 v.clk] (by rfl) (by rfl) s2.there done_info (by simp [Value.oneCell']) ?_
  refine wpList_nil ?_
  go_wp2
  exact bodyPost_ret (v := .agg #[.int .i64 M.c, (.slice (some ⟨tg, 0, none⟩) M.tn tc), (.slice (some ⟨pg, 0, none⟩) M.pn pc), .int .i64 h.pos, .int .i64 h.call.code, .int .i64 h.call.a, .int .i64 h.call.b, .int .i64 h.call.c, .int .i64 h.tim, .int .i64 h.whe, .bool h.had, .int .i64 h.cnt, .int .i64 h.beg, .int .i64 h.rep, .int .i64 h.out, .int .i64 v.kin, .int .i64 v.tim, .int .i64 v.gen, .int .i64 v.whe, .int .i64 v.clk]) (results_cell (cs := [.int .i64 M.c, (.slice (some ⟨tg, 0, none⟩) M.tn tc), (.slice (some ⟨pg, 0, none⟩) M.pn pc), .int .i64 h.pos, .int .i64 h.call.code, .int .i64 h.call.a, .int .i64 h.call.b, .int .i64 h.call.c, .int .i64 h.tim, .int .i64 h.whe, .bool h.had, .int .i64 h.cnt, .int .i64 h.beg, .int .i64 h.rep, .int .i64 h.out, .int .i64 v.kin, .int .i64 v.tim, .int .i64 v.gen, .int .i64 v.whe, .int .i64 v.clk]) rfl rfl s2.lies Tryz.underlying43 rfl done_info) rfl (s2.retC)

set_option maxRecDepth 100000 in
set_option maxHeartbeats 2000000 in
theorem l10Look_no {B : Nat} {tv pv : Value} {M : Me} {h : Hd} {v : Et} {w : World} (hB : B ≤ w.heap.size) (hk : 0 < M.pn) (hn : M.tn ≤ 1048576) (hq : hasT M h.call.a = true) (hst : (M.t h.call.a.toNat).st ≠ 1 ∧ (M.t h.call.a.toNat).st ≠ 3 ∧ (M.t h.call.a.toNat).st ≠ 4 ∧ (M.t h.call.a.toNat).st ≠ 2 ∧ (M.t h.call.a.toNat).st ≠ 6) (hm : OwnMem w B tv pv M) :
    Calls Tryz.prog 39 #[dnV ⟨M, h, v⟩ tv pv] w (InDn B (stopLookD ⟨M, h, v⟩) w) := by
  obtain ⟨t, het⟩ : ∃ t : Nat, h.call.a = (t : Int) := ⟨h.call.a.toNat, by have := inB_iff.1 hq; omega⟩
  have ht : t < M.tn := by have := inB_iff.1 hq; omega
  have eT : h.call.a.toNat = t := by rw [het]; rfl
  rw [eT] at hst
  rw [show stopLookD ⟨M, h, v⟩ = ⟨M, restHd 3 0, v⟩ by
    rw [stopLookD, if_pos hq]
    simp only [eT]
    simp [hst]]
  have g1 : ((M.t t).st == 1) = false := by simp [hst]
  have g3 : ((M.t t).st == 3) = false := by simp [hst]
  have g4 : ((M.t t).st == 4) = false := by simp [hst]
  have g2 : ((M.t t).st == 2) = false := by simp [hst]
  have g6 : ((M.t t).st == 6) = false := by simp [hst]
  clear hst
  have HQ := Lib.hid (show hasT M (t : Int) = true by rw [← het]; exact hq)
  have HT := Lib.hid het
  clear hq het eT
  obtain ⟨pg, pc, V, rfl, ho⟩ := hm.openP hk
  clear hm
  obtain ⟨tg, tc, rfl, _⟩ := ho.tms ht
  obtain ⟨w1, e1, s1⟩ := DSt.start h v hB ho
  clear ho
  have i0 : (0 : Int) ≤ (t : Int) := by omega
  have i1 : (t : Int) < (M.tn : Int) := by omega
  obtain ⟨x0, x1, x2, x3, x4, x5, x6, x7, x8, x9, x10, x11, x12, x13, x14, x15, x16, x17, x18, x19, xf0, xf1, xf2, xf3, xf4, xf5, xf6, xf7, xf8, xf9, xf10, xf11, xf12, xf13, xf14, xf15, xf16, xf17, xf18, xf19⟩ := s1.cellsA
  rw [HT.out] at x5
  go_enter Tryz.func39, Tryz.ntmps39
  go_upto_region 1 with fail
  rw [← e1.out]
  clear e1
  go_wp2_with fail
  go_at_call 66; refine (l5Has_any ⟨_, _, rfl⟩ hn _ _).mono ?_; rw [HQ.out]; rintro e w2 ⟨rfl, hb⟩
  have s2 := s1.below hb
  clear s1 hb x0 x1 x2 x3 x4 x5 x6 x7 x8 x9 x10 x11 x12 x13 x14 x15 x16 x17 x18 x19 xf0 xf1 xf2 xf3 xf4 xf5 xf6 xf7 xf8 xf9 xf10 xf11 xf12 xf13 xf14 xf15 xf16 xf17 xf18 xf19
  obtain ⟨x0, x1, x2, x3, x4, x5, x6, x7, x8, x9, x10, x11, x12, x13, x14, x15, x16, x17, x18, x19, xf0, xf1, xf2, xf3, xf4, xf5, xf6, xf7, xf8, xf9, xf10, xf11, xf12, xf13, xf14, xf15, xf16, xf17, xf18, xf19⟩ := s2.cellsA
  obtain ⟨⟨t0, _⟩, _⟩ := s2.tcells ht rfl
  have lB2 := s2.size.1
  go_upto_region 6 with fail
  clear t0 x0 x1 x2 x3 x4 x5 x6 x7 x8 x9 x10 x11 x12 x13 x14 x15 x16 x17 x18 x19 xf0 xf1 xf2 xf3 xf4 xf5 xf6 xf7 xf8 xf9 xf10 xf11 xf12 xf13 xf14 xf15 xf16 xf17 xf18 xf19
  go_upto_region 6 with fail
  go_wp2_with fail
  go_at_call 41; refine (spResting_any 3 0 _).mono ?_; rintro e w3 ⟨rfl, hb⟩
  have s3 := s2.below hb
  clear s2 hb
  obtain ⟨x0, x1, x2, x3, x4, x5, x6, x7, x8, x9, x10, x11, x12, x13, x14, x15, x16, x17, x18, x19, xf0, xf1, xf2, xf3, xf4, xf5, xf6, xf7, xf8, xf9, xf10, xf11, xf12, xf13, xf14, xf15, xf16, xf17, xf18, xf19⟩ := s3.cellsA
  obtain ⟨w4, e4, s4⟩ := s3.hand_all (restHd 3 0)
  go_upto_region 15 with fail
  rw [← e4.out]
  clear e4 s3 x0 x1 x2 x3 x4 x5 x6 x7 x8 x9 x10 x11 x12 x13 x14 x15 x16 x17 x18 x19 xf0 xf1 xf2 xf3 xf4 xf5 xf6 xf7 xf8 xf9 xf10 xf11 xf12 xf13 xf14 xf15 xf16 xf17 xf18 xf19
  refine wp_region_lit ?_
  refine wpList_load_mid (by rfl) 43 _ (by rfl) _ 0 (by rfl) [.int .i64 M.c, (.slice (some ⟨tg, 0, none⟩) M.tn tc), (.slice (some ⟨pg, 0, none⟩) M.pn pc), .int .i64 (restHd 3 0).pos, .int .i64 (restHd 3 0).call.code, .int .i64 (restHd 3 0).call.a, .int .i64 (restHd 3 0).call.b, .int .i64 (restHd 3 0).call.c, .int .i64 (restHd 3 0).tim, .int .i64 (restHd 3 0).whe, .bool (restHd 3 0).had, .int .i64 (restHd 3 0).cnt, .int .i64 (restHd 3 0).beg, .int .i64 (restHd 3 0).rep, .int .i64 (restHd 3 0).out, .int .i64 v.kin, .int .i64 v.tim, .int .i64 v.gen, .int .i64 v.whe, .int .i64 v.clk] _ (range_of_block s4.a) Tryz.underlying43 rfl done_info ?_
  refine wpList_store_mid (by rfl) 43 _ _ (by rfl) _ 0 #[.int .i64 M.c, (.slice (some ⟨tg, 0, none⟩) M.tn tc), (.slice (some ⟨pg, 0, none⟩) M.pn pc), .int .i64 (restHd 3 0).pos, .int .i64 (restHd 3 0).call.code, .int .i64 (restHd 3 0).call.a, .int .i64 (restHd 3 0).call.b, .int .i64 (restHd 3 0).call.c, .int .i64 (restHd 3 0).tim, .int .i64 (restHd 3 0).whe, .bool (restHd 3 0).had, .int .i64 (restHd 3 0).cnt, .int .i64 (restHd 3 0).beg, .int .i64 (restHd 3 0).rep, .int .i64 (restHd 3 0).out, .int .i64 v.kin, .int .i64 v.tim, .int .i64 v.gen, .int .i64 v.whe, .int .i64 v.clk] (by rfl) (by rfl) s4.there done_info (by simp [Value.oneCell']) ?_
  refine wpList_nil ?_
  go_wp2
  exact bodyPost_ret (v := .agg #[.int .i64 M.c, (.slice (some ⟨tg, 0, none⟩) M.tn tc), (.slice (some ⟨pg, 0, none⟩) M.pn pc), .int .i64 (restHd 3 0).pos, .int .i64 (restHd 3 0).call.code, .int .i64 (restHd 3 0).call.a, .int .i64 (restHd 3 0).call.b, .int .i64 (restHd 3 0).call.c, .int .i64 (restHd 3 0).tim, .int .i64 (restHd 3 0).whe, .bool (restHd 3 0).had, .int .i64 (restHd 3 0).cnt, .int .i64 (restHd 3 0).beg, .int .i64 (restHd 3 0).rep, .int .i64 (restHd 3 0).out, .int .i64 v.kin, .int .i64 v.tim, .int .i64 v.gen, .int .i64 v.whe, .int .i64 v.clk]) (results_cell (cs := [.int .i64 M.c, (.slice (some ⟨tg, 0, none⟩) M.tn tc), (.slice (some ⟨pg, 0, none⟩) M.pn pc), .int .i64 (restHd 3 0).pos, .int .i64 (restHd 3 0).call.code, .int .i64 (restHd 3 0).call.a, .int .i64 (restHd 3 0).call.b, .int .i64 (restHd 3 0).call.c, .int .i64 (restHd 3 0).tim, .int .i64 (restHd 3 0).whe, .bool (restHd 3 0).had, .int .i64 (restHd 3 0).cnt, .int .i64 (restHd 3 0).beg, .int .i64 (restHd 3 0).rep, .int .i64 (restHd 3 0).out, .int .i64 v.kin, .int .i64 v.tim, .int .i64 v.gen, .int .i64 v.whe, .int .i64 v.clk]) rfl rfl s4.lies Tryz.underlying43 rfl done_info) rfl (s4.retC)

theorem l10Look_any {B : Nat} {tv pv : Value} {M : Me} {h : Hd} {v : Et} {w : World} (hB : B ≤ w.heap.size) (hk : 0 < M.pn) (hn : M.tn ≤ 1048576) (hm : OwnMem w B tv pv M) :
    Calls Tryz.prog 39 #[dnV ⟨M, h, v⟩ tv pv] w (InDn B (stopLookD ⟨M, h, v⟩) w) := by
  cases hq : hasT M h.call.a
  · exact l10Look_none hB hk hn hq hm
  by_cases h1 : (M.t h.call.a.toNat).st = 1
  · exact l10Look_1 hB hk hn hq h1 hm
  by_cases h3 : (M.t h.call.a.toNat).st = 3
  · exact l10Look_3 hB hk hn hq h3 hm
  by_cases h4 : (M.t h.call.a.toNat).st = 4
  · exact l10Look_4 hB hk hn hq h4 hm
  by_cases h2 : (M.t h.call.a.toNat).st = 2
  · exact l10Look_2 hB hk hn hq h2 hm
  by_cases h6 : (M.t h.call.a.toNat).st = 6
  · exact l10Look_6 hB hk hn hq h6 hm
  exact l10Look_no hB hk hn hq ⟨h1, h3, h4, h2, h6⟩ hm

set_option maxRecDepth 100000 in
set_option maxHeartbeats 1000000 in
theorem l10Mine_any {B : Nat} {tv pv : Value} {M : Me} {h : Hd} {v : Et} {w : World} (ht : 0 ≤ h.tim → h.tim.toNat < M.tn) (hm : OwnMem w B tv pv M) :
    Calls Tryz.prog 40 #[dnV ⟨M, h, v⟩ tv pv] w fun e w' => e = .returned (.bool (mineB ⟨M, h, v⟩)) ∧ Below w.heap.size w w' := by
  by_cases h0 : h.tim < 0
  case pos =>
    have E : mineB ⟨M, h, v⟩ = false := by simp [mineB]; omega
    rw [E]
    have hb : decide ((0 : Int) ≤ h.tim) = false := by simp; omega
    have kA := (Below.refl w.heap.size w).alloc (Nat.le_refl _) (.cells #[.int .i64 M.c, tv, pv, .int .i64 h.pos, .int .i64 h.call.code, .int .i64 h.call.a, .int .i64 h.call.b, .int .i64 h.call.c, .int .i64 h.tim, .int .i64 h.whe, .bool h.had, .int .i64 h.cnt, .int .i64 h.beg, .int .i64 h.rep, .int .i64 h.out, .int .i64 v.kin, .int .i64 v.tim, .int .i64 v.gen, .int .i64 v.whe, .int .i64 v.clk] 43)
    have hA := heap_alloc_new w (.cells #[.int .i64 M.c, tv, pv, .int .i64 h.pos, .int .i64 h.call.code, .int .i64 h.call.a, .int .i64 h.call.b, .int .i64 h.call.c, .int .i64 h.tim, .int .i64 h.whe, .bool h.had, .int .i64 h.cnt, .int .i64 h.beg, .int .i64 h.rep, .int .i64 h.out, .int .i64 v.kin, .int .i64 v.tim, .int .i64 v.gen, .int .i64 v.whe, .int .i64 v.clk] 43)
    have x8 : (w.alloc (.cells #[.int .i64 M.c, tv, pv, .int .i64 h.pos, .int .i64 h.call.code, .int .i64 h.call.a, .int .i64 h.call.b, .int .i64 h.call.c, .int .i64 h.tim, .int .i64 h.whe, .bool h.had, .int .i64 h.cnt, .int .i64 h.beg, .int .i64 h.rep, .int .i64 h.out, .int .i64 v.kin, .int .i64 v.tim, .int .i64 v.gen, .int .i64 v.whe, .int .i64 v.clk] 43)).cell? ⟨w.heap.size, 8, none⟩ = some (.int .i64 h.tim) := cell_of_block hA 8
    clear h0 E ht hm hA
    go_enter Tryz.func40, Tryz.ntmps40
    go_wp2
    go_ret
    exact ⟨rfl, kA⟩
  obtain ⟨t, het⟩ : ∃ t : Nat, h.tim = (t : Int) := ⟨h.tim.toNat, by omega⟩
  have ht2 : t < M.tn := by have := ht (by omega); omega
  obtain ⟨tg, tc, rfl, hO⟩ : ∃ tg tc, tv = .slice (some ⟨tg, 0, none⟩) M.tn tc ∧ OwnTAt w B tg M.tn tc M.t := by
    rcases hm.1 with ⟨e, _⟩ | ⟨g, cap, e, h⟩
    · omega
    · exact ⟨g, cap, e, h⟩
  have E : mineB ⟨M, h, v⟩ = ((M.t t).st == 2 && (M.t t).pl != -1) := by simp [mineB, het]
  rw [E]
  have kA := (Below.refl w.heap.size w).alloc (Nat.le_refl _) (.cells #[.int .i64 M.c, (.slice (some ⟨tg, 0, none⟩) M.tn tc), pv, .int .i64 h.pos, .int .i64 h.call.code, .int .i64 h.call.a, .int .i64 h.call.b, .int .i64 h.call.c, .int .i64 h.tim, .int .i64 h.whe, .bool h.had, .int .i64 h.cnt, .int .i64 h.beg, .int .i64 h.rep, .int .i64 h.out, .int .i64 v.kin, .int .i64 v.tim, .int .i64 v.gen, .int .i64 v.whe, .int .i64 v.clk] 43)
  have hA := heap_alloc_new w (.cells #[.int .i64 M.c, (.slice (some ⟨tg, 0, none⟩) M.tn tc), pv, .int .i64 h.pos, .int .i64 h.call.code, .int .i64 h.call.a, .int .i64 h.call.b, .int .i64 h.call.c, .int .i64 h.tim, .int .i64 h.whe, .bool h.had, .int .i64 h.cnt, .int .i64 h.beg, .int .i64 h.rep, .int .i64 h.out, .int .i64 v.kin, .int .i64 v.tim, .int .i64 v.gen, .int .i64 v.whe, .int .i64 v.clk] 43)
  have x8 : (w.alloc (.cells #[.int .i64 M.c, (.slice (some ⟨tg, 0, none⟩) M.tn tc), pv, .int .i64 h.pos, .int .i64 h.call.code, .int .i64 h.call.a, .int .i64 h.call.b, .int .i64 h.call.c, .int .i64 h.tim, .int .i64 h.whe, .bool h.had, .int .i64 h.cnt, .int .i64 h.beg, .int .i64 h.rep, .int .i64 h.out, .int .i64 v.kin, .int .i64 v.tim, .int .i64 v.gen, .int .i64 v.whe, .int .i64 v.clk] 43)).cell? ⟨w.heap.size, 8, none⟩ = some (.int .i64 (t : Int)) := by rw [← het]; exact cell_of_block hA 8
  have x1 : (w.alloc (.cells #[.int .i64 M.c, (.slice (some ⟨tg, 0, none⟩) M.tn tc), pv, .int .i64 h.pos, .int .i64 h.call.code, .int .i64 h.call.a, .int .i64 h.call.b, .int .i64 h.call.c, .int .i64 h.tim, .int .i64 h.whe, .bool h.had, .int .i64 h.cnt, .int .i64 h.beg, .int .i64 h.rep, .int .i64 h.out, .int .i64 v.kin, .int .i64 v.tim, .int .i64 v.gen, .int .i64 v.whe, .int .i64 v.clk] 43)).cell? ⟨w.heap.size, 1, none⟩ = some (.slice (some ⟨tg, 0, none⟩) M.tn tc) := cell_of_block hA 1
  have hO2 := hO.below kA
  have t0 : (w.alloc (.cells #[.int .i64 M.c, (.slice (some ⟨tg, 0, none⟩) M.tn tc), pv, .int .i64 h.pos, .int .i64 h.call.code, .int .i64 h.call.a, .int .i64 h.call.b, .int .i64 h.call.c, .int .i64 h.tim, .int .i64 h.whe, .bool h.had, .int .i64 h.cnt, .int .i64 h.beg, .int .i64 h.rep, .int .i64 h.out, .int .i64 v.kin, .int .i64 v.tim, .int .i64 v.gen, .int .i64 v.whe, .int .i64 v.clk] 43)).cell? ⟨tg, t * 8, none⟩ = some (.int .i64 (M.t t).st) := hO2.cells ht2 0 (by decide)
  have t4 : (w.alloc (.cells #[.int .i64 M.c, (.slice (some ⟨tg, 0, none⟩) M.tn tc), pv, .int .i64 h.pos, .int .i64 h.call.code, .int .i64 h.call.a, .int .i64 h.call.b, .int .i64 h.call.c, .int .i64 h.tim, .int .i64 h.whe, .bool h.had, .int .i64 h.cnt, .int .i64 h.beg, .int .i64 h.rep, .int .i64 h.out, .int .i64 v.kin, .int .i64 v.tim, .int .i64 v.gen, .int .i64 v.whe, .int .i64 v.clk] 43)).cell? ⟨tg, t * 8 + 4, none⟩ = some (.int .i64 (M.t t).pl) := hO2.cells ht2 4 (by decide)
  have hb : decide ((0 : Int) ≤ (t : Int)) = true := by simp
  have i0 : (0 : Int) ≤ (t : Int) := by omega
  have i1 : (t : Int) < (M.tn : Int) := by omega
  clear h0 E ht hm hA hO hO2 het
  cases hs : (M.t t).st == 2
  · go_enter Tryz.func40, Tryz.ntmps40
    go_upto_region 1 with fail
    generalize w.alloc (.cells #[.int .i64 M.c, (.slice (some ⟨tg, 0, none⟩) M.tn tc), pv, .int .i64 h.pos, .int .i64 h.call.code, .int .i64 h.call.a, .int .i64 h.call.b, .int .i64 h.call.c, .int .i64 h.tim, .int .i64 h.whe, .bool h.had, .int .i64 h.cnt, .int .i64 h.beg, .int .i64 h.rep, .int .i64 h.out, .int .i64 v.kin, .int .i64 v.tim, .int .i64 v.gen, .int .i64 v.whe, .int .i64 v.clk] 43) = w1 at x8 x1 t0 t4 kA ⊢
    go_wp2
    go_ret
    exact ⟨ret_bool' (by simp), kA⟩
  · go_enter Tryz.func40, Tryz.ntmps40
    go_upto_region 1 with fail
    generalize w.alloc (.cells #[.int .i64 M.c, (.slice (some ⟨tg, 0, none⟩) M.tn tc), pv, .int .i64 h.pos, .int .i64 h.call.code, .int .i64 h.call.a, .int .i64 h.call.b, .int .i64 h.call.c, .int .i64 h.tim, .int .i64 h.whe, .bool h.had, .int .i64 h.cnt, .int .i64 h.beg, .int .i64 h.rep, .int .i64 h.out, .int .i64 v.kin, .int .i64 v.tim, .int .i64 v.gen, .int .i64 v.whe, .int .i64 v.clk] 43) = w1 at x8 x1 t0 t4 kA ⊢
    go_wp2
    go_ret
    exact ⟨ret_bool' (by simp), kA⟩

set_option maxRecDepth 100000 in
set_option maxHeartbeats 2000000 in
theorem l10Stop_look {B : Nat} {tv pv : Value} {M : Me} {h : Hd} {v : Et} {w : World} (hB : B ≤ w.heap.size) (hk : 0 < M.pn) (hn : M.tn ≤ 1048576) (ht : 0 ≤ h.tim → h.tim.toNat < M.tn) (hp : ∀ i, i < M.tn → (M.t i).pl ≠ -1 → ∃ k : Nat, k < M.pn ∧ (M.t i).pl = (k : Int)) (hd : ∀ k, k < M.pn → 0 ≤ (M.p k).d ∧ (M.p k).d ≤ 1000) (hpos : h.pos = 5) (hm : OwnMem w B tv pv M) :
    Calls Tryz.prog 21 #[dnV ⟨M, h, v⟩ tv pv] w (InDnB B (if stopB ⟨M, h, v⟩ then stopD ⟨M, h, v⟩ else dn0) (stopB ⟨M, h, v⟩) w) := by
  rw [show InDnB B (if stopB ⟨M, h, v⟩ then stopD ⟨M, h, v⟩ else dn0) (stopB ⟨M, h, v⟩) w = InDnB B (stopLookD ⟨M, h, v⟩) true w by
    have e : stopB ⟨M, h, v⟩ = true := by simp [stopB, hpos]
    rw [e, if_pos rfl, stopD, if_pos hpos]]
  have q5 : (h.pos == 5) = true := by simp [hpos]
  clear hpos
  obtain ⟨pg, pc, V, rfl, ho⟩ := hm.openP hk
  clear hm
  obtain ⟨ta, tc, hta⟩ := ho.t.row.form
  subst hta
  obtain ⟨w1, e1, s1⟩ := DSt.start h v hB ho
  clear ho
  obtain ⟨x0, x1, x2, x3, _⟩ := s1.cellsA
  go_enter Tryz.func21, Tryz.ntmps21
  go_upto_region 1 with fail
  rw [← e1.out]
  clear e1
  go_upto_region 2 with fail
  refine wp_region_lit ?_
  refine wpList_load_mid (by rfl) 43 _ (by rfl) _ 0 (by rfl) [.int .i64 M.c, (.slice ta M.tn tc), (.slice (some ⟨pg, 0, none⟩) M.pn pc), .int .i64 h.pos, .int .i64 h.call.code, .int .i64 h.call.a, .int .i64 h.call.b, .int .i64 h.call.c, .int .i64 h.tim, .int .i64 h.whe, .bool h.had, .int .i64 h.cnt, .int .i64 h.beg, .int .i64 h.rep, .int .i64 h.out, .int .i64 v.kin, .int .i64 v.tim, .int .i64 v.gen, .int .i64 v.whe, .int .i64 v.clk] _ (range_of_block s1.a) Tryz.underlying43 rfl done_info ?_
  go_wp2_with fail
  go_at_call 39; refine (l10Look_any s1.size.1 hk hn s1.own).mono ?_
  rintro e w3 hI
  obtain ⟨ta3, tn3, tc3, pa3, pn3, pc3, rfl, th3, ra3, hA⟩ := hI.put true s1.k hB (show w.heap.size ≤ w.heap.size + 1 by omega) s1.r rfl
  rename_i K1 hK1
  refine hK1 _ _ ?_
  clear hK1 K1
  refine wpList_store_mid (by rfl) 43 _ _ (by rfl) _ 0 (dnCells (stopLookD ⟨M, h, v⟩) (.slice ta3 tn3 tc3) (.slice pa3 pn3 pc3)) (by rfl) (by rfl) th3 done_info (by simp [Value.oneCell']) ?_
  generalize hw4 : w3.setCells (w.heap.size + 1) 0 (dnCells (stopLookD ⟨M, h, v⟩) (.slice ta3 tn3 tc3) (.slice pa3 pn3 pc3)).toList = w4 at ra3 hA ⊢
  clear hw4 th3
  go_wp2
  exact bodyPost_ret (v := .tuple #[dnV (stopLookD ⟨M, h, v⟩) (.slice ta3 tn3 tc3) (.slice pa3 pn3 pc3), .bool true]) (results_pair (cs := (dnCells (stopLookD ⟨M, h, v⟩) (.slice ta3 tn3 tc3) (.slice pa3 pn3 pc3)).toList) rfl rfl rfl ra3 Tryz.underlying43 rfl done_info) rfl hA

set_option maxRecDepth 100000 in
set_option maxHeartbeats 2000000 in
theorem l10Stop_no {B : Nat} {tv pv : Value} {M : Me} {h : Hd} {v : Et} {w : World} (hB : B ≤ w.heap.size) (hk : 0 < M.pn) (hn : M.tn ≤ 1048576) (ht : 0 ≤ h.tim → h.tim.toNat < M.tn) (hp : ∀ i, i < M.tn → (M.t i).pl ≠ -1 → ∃ k : Nat, k < M.pn ∧ (M.t i).pl = (k : Int)) (hd : ∀ k, k < M.pn → 0 ≤ (M.p k).d ∧ (M.p k).d ≤ 1000) (hpos : ¬ h.pos = 5) (hq : mineB ⟨M, h, v⟩ = false) (hm : OwnMem w B tv pv M) :
    Calls Tryz.prog 21 #[dnV ⟨M, h, v⟩ tv pv] w (InDnB B (if stopB ⟨M, h, v⟩ then stopD ⟨M, h, v⟩ else dn0) (stopB ⟨M, h, v⟩) w) := by
  rw [show InDnB B (if stopB ⟨M, h, v⟩ then stopD ⟨M, h, v⟩ else dn0) (stopB ⟨M, h, v⟩) w = InDnB B dn0 false w by
    have e : stopB ⟨M, h, v⟩ = false := by simp [stopB, hpos, hq]
    rw [e]; rfl]
  have q5 : (h.pos == 5) = false := by simpa using hpos
  have HQ := Lib.hid hq
  clear hpos hq
  obtain ⟨pg, pc, V, rfl, ho⟩ := hm.openP hk
  clear hm
  obtain ⟨ta, tc, hta⟩ := ho.t.row.form
  subst hta
  obtain ⟨w1, e1, s1⟩ := DSt.start h v hB ho
  clear ho
  obtain ⟨x0, x1, x2, x3, _⟩ := s1.cellsA
  go_enter Tryz.func21, Tryz.ntmps21
  go_upto_region 1 with fail
  rw [← e1.out]
  clear e1
  go_upto_region 3 with fail
  refine wp_region_lit ?_
  refine wpList_load_mid (by rfl) 43 _ (by rfl) _ 0 (by rfl) [.int .i64 M.c, (.slice ta M.tn tc), (.slice (some ⟨pg, 0, none⟩) M.pn pc), .int .i64 h.pos, .int .i64 h.call.code, .int .i64 h.call.a, .int .i64 h.call.b, .int .i64 h.call.c, .int .i64 h.tim, .int .i64 h.whe, .bool h.had, .int .i64 h.cnt, .int .i64 h.beg, .int .i64 h.rep, .int .i64 h.out, .int .i64 v.kin, .int .i64 v.tim, .int .i64 v.gen, .int .i64 v.whe, .int .i64 v.clk] _ (range_of_block s1.a) Tryz.underlying43 rfl done_info ?_
  go_wp2_with fail
  go_at_call 40; refine (l10Mine_any ht s1.own).mono ?_; rw [HQ.out]; rintro e w2 ⟨rfl, hb⟩
  have s2 := s1.below hb
  go_upto_region 4 with fail
  refine wp_region_lit ?_
  refine wpList_plain rfl fun K0 hK0 => ?_
  go_simp
  refine hK0 _ _ ?_
  clear hK0 K0
  refine wpList_store_mid (by rfl) 43 _ _ (by rfl) _ 0 #[.int .i64 0, .slice none 0 0, .slice none 0 0, .int .i64 0, .int .i64 0, .int .i64 0, .int .i64 0, .int .i64 0, .int .i64 0, .int .i64 0, .bool false, .int .i64 0, .int .i64 0, .int .i64 0, .int .i64 0, .int .i64 0, .int .i64 0, .int .i64 0, .int .i64 0, .int .i64 0] (by rfl) (by rfl) s2.there done_info (by simp [Value.oneCell']) ?_
  go_wp2
  exact bodyPost_ret (v := .tuple #[.agg #[.int .i64 0, .slice none 0 0, .slice none 0 0, .int .i64 0, .int .i64 0, .int .i64 0, .int .i64 0, .int .i64 0, .int .i64 0, .int .i64 0, .bool false, .int .i64 0, .int .i64 0, .int .i64 0, .int .i64 0, .int .i64 0, .int .i64 0, .int .i64 0, .int .i64 0, .int .i64 0], .bool false]) (results_pair (cs := [.int .i64 0, .slice none 0 0, .slice none 0 0, .int .i64 0, .int .i64 0, .int .i64 0, .int .i64 0, .int .i64 0, .int .i64 0, .int .i64 0, .bool false, .int .i64 0, .int .i64 0, .int .i64 0, .int .i64 0, .int .i64 0, .int .i64 0, .int .i64 0, .int .i64 0, .int .i64 0]) rfl rfl rfl s2.zlies Tryz.underlying43 rfl done_info) rfl s2.zeroC

set_option maxRecDepth 100000 in
set_option maxHeartbeats 2000000 in
theorem l10Stop_yes {B : Nat} {tv pv : Value} {M : Me} {h : Hd} {v : Et} {w : World} (hB : B ≤ w.heap.size) (hk : 0 < M.pn) (hn : M.tn ≤ 1048576) (ht : 0 ≤ h.tim → h.tim.toNat < M.tn) (hp : ∀ i, i < M.tn → (M.t i).pl ≠ -1 → ∃ k : Nat, k < M.pn ∧ (M.t i).pl = (k : Int)) (hd : ∀ k, k < M.pn → 0 ≤ (M.p k).d ∧ (M.p k).d ≤ 1000) (hpos : ¬ h.pos = 5) (hq : mineB ⟨M, h, v⟩ = true) (hm : OwnMem w B tv pv M) :
    Calls Tryz.prog 21 #[dnV ⟨M, h, v⟩ tv pv] w (InDnB B (if stopB ⟨M, h, v⟩ then stopD ⟨M, h, v⟩ else dn0) (stopB ⟨M, h, v⟩) w) := by
  obtain ⟨t, het⟩ : ∃ t : Nat, h.tim = (t : Int) := ⟨h.tim.toNat, by simp only [mineB, Bool.and_eq_true, decide_eq_true_eq] at hq; omega⟩
  obtain ⟨hst, hpl⟩ : (M.t t).st = 2 ∧ (M.t t).pl ≠ -1 := by simpa [mineB, het] using hq
  have ht2 : t < M.tn := by have := ht (by omega); omega
  obtain ⟨k, hkp, hpk⟩ := hp t ht2 hpl
  obtain ⟨D, hD⟩ : ∃ D, (M.p k).d = D := ⟨_, rfl⟩
  obtain ⟨hd0, hd1⟩ := hd k hkp
  rw [hD] at hd0 hd1
  rw [show InDnB B (if stopB ⟨M, h, v⟩ then stopD ⟨M, h, v⟩ else dn0) (stopB ⟨M, h, v⟩) w = InDnB B ⟨setPc (setTm M t 0 5) k 3 (D + 1), restHd 2 0, v⟩ true w by
    have e : stopB ⟨M, h, v⟩ = true := by simp [stopB, hpos, hq]
    rw [e, if_pos rfl, stopD, if_neg hpos, turnD]
    simp only [het, Int.toNat_natCast, hpk, hD]]
  have q5 : (h.pos == 5) = false := by simpa using hpos
  have HQ := Lib.hid hq
  have HT := Lib.hid het
  have HK := Lib.hid hpk
  have HD := Lib.hid hD
  clear hpos hq hst hpl hp hd het hpk hD
  have hwr : IntKind.i64.wrap (D + 1) = D + 1 := by rw [IntKind.wrap_i64]; omega
  obtain ⟨pg, pc, V, rfl, ho⟩ := hm.openP hk
  clear hm
  obtain ⟨tg, tc, rfl, _⟩ := ho.tms ht2
  obtain ⟨w1, e1, s1⟩ := DSt.start h v hB ho
  clear ho
  obtain ⟨x0, x1, x2, x3, _⟩ := s1.cellsA
  go_enter Tryz.func21, Tryz.ntmps21
  go_upto_region 1 with fail
  rw [← e1.out]
  clear e1
  go_upto_region 3 with fail
  refine wp_region_lit ?_
  refine wpList_load_mid (by rfl) 43 _ (by rfl) _ 0 (by rfl) [.int .i64 M.c, (.slice (some ⟨tg, 0, none⟩) M.tn tc), (.slice (some ⟨pg, 0, none⟩) M.pn pc), .int .i64 h.pos, .int .i64 h.call.code, .int .i64 h.call.a, .int .i64 h.call.b, .int .i64 h.call.c, .int .i64 h.tim, .int .i64 h.whe, .bool h.had, .int .i64 h.cnt, .int .i64 h.beg, .int .i64 h.rep, .int .i64 h.out, .int .i64 v.kin, .int .i64 v.tim, .int .i64 v.gen, .int .i64 v.whe, .int .i64 v.clk] _ (range_of_block s1.a) Tryz.underlying43 rfl done_info ?_
  go_wp2_with fail
  go_at_call 40; refine (l10Mine_any ht s1.own).mono ?_; rw [HQ.out]; rintro e w2 ⟨rfl, hb⟩
  have s2 := s1.below hb
  clear s1 hb x0 x1 x2 x3
  obtain ⟨x0, x1, x2, x3, x4, x5, x6, x7, x8, _⟩ := s2.cellsA
  rw [HT.out] at x8
  obtain ⟨⟨t0, t1, t2, t3, t4, t5, t6, t7⟩, tf⟩ := s2.tcells ht2 rfl
  rw [HK.out] at t4
  have tf0 := tf (t * 8)
  have i0 : (0 : Int) ≤ (t : Int) := by omega
  have i1 : (t : Int) < (M.tn : Int) := by omega
  obtain ⟨w4, e4, s4⟩ := s2.setT (t := t) 0 ht2 (by decide) 5
  go_upto_region 8 with fail
  simp only [Nat.add_zero] at e4
  rw [← e4.out]
  clear e4 s2 x0 x1 x2 x3 x4 x5 x6 x7 x8 t0 t1 t2 t3 t4 t5 t6 t7 tf tf0
  obtain ⟨_, _, y2, _⟩ := s4.cellsA
  obtain ⟨_, ⟨_, _, p3⟩, pf⟩ := s4.pcells (k := k) hkp rfl
  have p3' : w4.cell? ⟨pg, k * 4 + 3, none⟩ = some (.int .i64 D) := by rw [p3]; show some (Value.int .i64 (M.p k).d) = _; rw [HD.out]
  have pf3 := pf (k * 4 + 3)
  have j0 : (0 : Int) ≤ (k : Int) := by omega
  have j1 : (k : Int) < (M.pn : Int) := by omega
  clear p3 pf
  refine wp_region_T (fun w' => w'.cell? ⟨w.heap.size, 2, none⟩ = some (.slice (some ⟨pg, 0, none⟩) M.pn pc) ∧ w'.cell? ⟨pg, k * 4 + 3, none⟩ = some (.int .i64 D)) 14 (by kernel_rfl) ?_
  have hS : w4.drew.cell? ⟨w.heap.size, 2, none⟩ = some (.slice (some ⟨pg, 0, none⟩) M.pn pc) ∧ w4.drew.cell? ⟨pg, k * 4 + 3, none⟩ = some (.int .i64 D) := ⟨y2, p3'⟩
  clear y2
  refine wpAnyT_take (i := 0) (v := ?v0_1) rfl (by kernel_rfl) (by kernel_rfl) (by kernel_rfl) (by kernel_rfl) (fun _ _ _ h => h) (Or.inl ⟨by rfl, ?hy0_1⟩) hS ?rest0_1
  case hy0_1 => intro w' hSw; obtain ⟨s0, s1⟩ := hSw; go_simp; try with_reducible rfl
  simp only [Act.put, List.setIfInBounds_toArray, List.set_cons_zero, List.set_cons_succ]
  refine wpAnyT_take (i := 1) (v := ?v1_2) rfl (by kernel_rfl) (by kernel_rfl) (by kernel_rfl) (by kernel_rfl) (fun _ _ _ h => h) (Or.inl ⟨by rfl, ?hy1_2⟩) hS ?rest1_2
  case hy1_2 => intro w' hSw; obtain ⟨s0, s1⟩ := hSw; go_simp; try with_reducible rfl
  simp only [Act.put, List.setIfInBounds_toArray, List.set_cons_zero, List.set_cons_succ]
  refine wpAnyT_take (i := 2) (v := ?v2_3) rfl (by kernel_rfl) (by kernel_rfl) (by kernel_rfl) (by kernel_rfl) (fun _ _ _ h => h) (Or.inl ⟨by rfl, ?hy2_3⟩) hS ?rest2_3
  case hy2_3 => intro w' hSw; obtain ⟨s0, s1⟩ := hSw; go_simp; try with_reducible rfl
  simp only [Act.put, List.setIfInBounds_toArray, List.set_cons_zero, List.set_cons_succ]
  refine wpAnyT_take (i := 3) (v := ?v3_4) rfl (by kernel_rfl) (by kernel_rfl) (by kernel_rfl) (by kernel_rfl) (fun _ _ _ h => h) (Or.inl ⟨by rfl, ?hy3_4⟩) hS ?rest3_4
  case hy3_4 => intro w' hSw; obtain ⟨s0, s1⟩ := hSw; go_simp; try with_reducible rfl
  simp only [Act.put, List.setIfInBounds_toArray, List.set_cons_zero, List.set_cons_succ]
  refine wpAnyT_take (i := 4) (v := ?v4_5) rfl (by kernel_rfl) (by kernel_rfl) (by kernel_rfl) (by kernel_rfl) (fun _ _ _ h => h) (Or.inl ⟨by rfl, ?hy4_5⟩) hS ?rest4_5
  case hy4_5 => intro w' hSw; obtain ⟨s0, s1⟩ := hSw; go_simp; try with_reducible rfl
  simp only [Act.put, List.setIfInBounds_toArray, List.set_cons_zero, List.set_cons_succ]
  refine wpAnyT_take (i := 5) (v := ?v5_6) rfl (by kernel_rfl) (by kernel_rfl) (by kernel_rfl) (by kernel_rfl) (fun _ _ _ h => h) (Or.inl ⟨by rfl, ?hy5_6⟩) hS ?rest5_6
  case hy5_6 => intro w' hSw; obtain ⟨s0, s1⟩ := hSw; go_simp; try with_reducible rfl
  simp only [Act.put, List.setIfInBounds_toArray, List.set_cons_zero, List.set_cons_succ]
  refine wpAnyT_take (i := 6) (v := ?v6_7) rfl (by kernel_rfl) (by kernel_rfl) (by kernel_rfl) (by kernel_rfl) (fun _ _ _ h => h) (Or.inl ⟨by rfl, ?hy6_7⟩) hS ?rest6_7
  case hy6_7 => intro w' hSw; obtain ⟨s0, s1⟩ := hSw; go_simp; try with_reducible rfl
  simp only [Act.put, List.setIfInBounds_toArray, List.set_cons_zero, List.set_cons_succ]
  refine wpAnyT_take (i := 7) (v := ?v7_8) rfl (by kernel_rfl) (by kernel_rfl) (by kernel_rfl) (by kernel_rfl) (fun _ _ _ h => h) (Or.inl ⟨by rfl, ?hy7_8⟩) hS ?rest7_8
  case hy7_8 => intro w' hSw; obtain ⟨s0, s1⟩ := hSw; go_simp; try with_reducible rfl
  simp only [Act.put, List.setIfInBounds_toArray, List.set_cons_zero, List.set_cons_succ]
  refine wpAnyT_take (i := 8) (v := ?v8_9) rfl (by kernel_rfl) (by kernel_rfl) (by kernel_rfl) (by kernel_rfl) (fun _ _ _ h => h) (Or.inl ⟨by rfl, ?hy8_9⟩) hS ?rest8_9
  case hy8_9 => intro w' hSw; obtain ⟨s0, s1⟩ := hSw; go_simp; try with_reducible rfl
  simp only [Act.put, List.setIfInBounds_toArray, List.set_cons_zero, List.set_cons_succ]
  refine wpAnyT_take (i := 9) (v := ?v9_10) rfl (by kernel_rfl) (by kernel_rfl) (by kernel_rfl) (by kernel_rfl) (fun _ _ _ h => h) (Or.inl ⟨by rfl, ?hy9_10⟩) hS ?rest9_10
  case hy9_10 => intro w' hSw; obtain ⟨s0, s1⟩ := hSw; go_simp; try with_reducible rfl
  simp only [Act.put, List.setIfInBounds_toArray, List.set_cons_zero, List.set_cons_succ]
  refine wpAnyT_take (i := 10) (v := ?v10_11) rfl (by kernel_rfl) (by kernel_rfl) (by kernel_rfl) (by kernel_rfl) (fun _ _ _ h => h) (Or.inl ⟨by rfl, ?hy10_11⟩) hS ?rest10_11
  case hy10_11 => intro w' hSw; obtain ⟨s0, s1⟩ := hSw; go_simp; try with_reducible rfl
  simp only [Act.put, List.setIfInBounds_toArray, List.set_cons_zero, List.set_cons_succ]
  refine wpAnyT_take (i := 11) (v := ?v11_12) rfl (by kernel_rfl) (by kernel_rfl) (by kernel_rfl) (by kernel_rfl) (fun _ _ _ h => h) (Or.inl ⟨by rfl, ?hy11_12⟩) hS ?rest11_12
  case hy11_12 => intro w' hSw; obtain ⟨s0, s1⟩ := hSw; go_simp; try with_reducible rfl
  simp only [Act.put, List.setIfInBounds_toArray, List.set_cons_zero, List.set_cons_succ]
  (try simp only [hwr])
  refine wpAnyT_one (i := 12) (by kernel_rfl) rfl (by rfl) fun K hK => ?_
  go_simp
  refine hK _ _ (.inr hS) ?_
  clear hK K
  (try simp only [Act.put, List.setIfInBounds_toArray, List.set_cons_zero, List.set_cons_succ])
  refine wpAnyT_take (i := 13) (v := ?v13_13) rfl (by kernel_rfl) (by kernel_rfl) (by kernel_rfl) (by kernel_rfl) (fun _ _ _ h => h) (Or.inl ⟨by rfl, ?hy13_13⟩) hS ?rest13_13
  case hy13_13 => intro w' hSw; obtain ⟨s0, s1⟩ := hSw; go_simp; try with_reducible rfl
  simp only [Act.put, List.setIfInBounds_toArray, List.set_cons_zero, List.set_cons_succ]
  obtain ⟨w5a, e5, s5a⟩ := s4.setP (k := k) 3 hkp (.inr (.inr rfl)) (D + 1)
  have s5 := s5a.drew
  have g5d : w4.drew.cell? ⟨pg, k * 4 + 3, none⟩ = some (.int .i64 D) := p3'
  have gf5d : w4.drew.frozen? ⟨pg, k * 4 + 3, none⟩ = false := pf3
  refine wpAnyT_one (i := 14) (by kernel_rfl) rfl (by rfl) fun K hK => ?_
  go_simp
  refine hK _ _ (.inl rfl) ?_
  clear hK K
  refine wpAnyT_done (by kernel_rfl) ?_ _
  rw [← e5.out]
  clear s5a e5
  generalize w5a.drew = w5 at s5 ⊢
  clear w5a hS g5d gf5d p3' pf3 s4
  obtain ⟨x0, x1, x2, x3, x4, x5, x6, x7, x8, x9, x10, x11, x12, x13, x14, x15, x16, x17, x18, x19, xf0, xf1, xf2, xf3, xf4, xf5, xf6, xf7, xf8, xf9, xf10, xf11, xf12, xf13, xf14, xf15, xf16, xf17, xf18, xf19⟩ := s5.cellsA
  go_wp2_with fail
  go_at_call 41; refine (spResting_any 2 0 _).mono ?_; rintro e w6 ⟨rfl, hb⟩
  have s6 := s5.below hb
  clear s5 hb x0 x1 x2 x3 x4 x5 x6 x7 x8 x9 x10 x11 x12 x13 x14 x15 x16 x17 x18 x19 xf0 xf1 xf2 xf3 xf4 xf5 xf6 xf7 xf8 xf9 xf10 xf11 xf12 xf13 xf14 xf15 xf16 xf17 xf18 xf19
  obtain ⟨x0, x1, x2, x3, x4, x5, x6, x7, x8, x9, x10, x11, x12, x13, x14, x15, x16, x17, x18, x19, xf0, xf1, xf2, xf3, xf4, xf5, xf6, xf7, xf8, xf9, xf10, xf11, xf12, xf13, xf14, xf15, xf16, xf17, xf18, xf19⟩ := s6.cellsA
  obtain ⟨w7, e7, s7⟩ := s6.hand_all (restHd 2 0)
  go_upto_region 10 with fail
  rw [← e7.out]
  clear e7 s6 x0 x1 x2 x3 x4 x5 x6 x7 x8 x9 x10 x11 x12 x13 x14 x15 x16 x17 x18 x19 xf0 xf1 xf2 xf3 xf4 xf5 xf6 xf7 xf8 xf9 xf10 xf11 xf12 xf13 xf14 xf15 xf16 xf17 xf18 xf19
  refine wp_region_lit ?_
  refine wpList_load_mid (by rfl) 43 _ (by rfl) _ 0 (by rfl) [.int .i64 M.c, (.slice (some ⟨tg, 0, none⟩) M.tn tc), (.slice (some ⟨pg, 0, none⟩) M.pn pc), .int .i64 (restHd 2 0).pos, .int .i64 (restHd 2 0).call.code, .int .i64 (restHd 2 0).call.a, .int .i64 (restHd 2 0).call.b, .int .i64 (restHd 2 0).call.c, .int .i64 (restHd 2 0).tim, .int .i64 (restHd 2 0).whe, .bool (restHd 2 0).had, .int .i64 (restHd 2 0).cnt, .int .i64 (restHd 2 0).beg, .int .i64 (restHd 2 0).rep, .int .i64 (restHd 2 0).out, .int .i64 v.kin, .int .i64 v.tim, .int .i64 v.gen, .int .i64 v.whe, .int .i64 v.clk] _ (range_of_block s7.a) Tryz.underlying43 rfl done_info ?_
  refine wpList_store_mid (by rfl) 43 _ _ (by rfl) _ 0 #[.int .i64 M.c, (.slice (some ⟨tg, 0, none⟩) M.tn tc), (.slice (some ⟨pg, 0, none⟩) M.pn pc), .int .i64 (restHd 2 0).pos, .int .i64 (restHd 2 0).call.code, .int .i64 (restHd 2 0).call.a, .int .i64 (restHd 2 0).call.b, .int .i64 (restHd 2 0).call.c, .int .i64 (restHd 2 0).tim, .int .i64 (restHd 2 0).whe, .bool (restHd 2 0).had, .int .i64 (restHd 2 0).cnt, .int .i64 (restHd 2 0).beg, .int .i64 (restHd 2 0).rep, .int .i64 (restHd 2 0).out, .int .i64 v.kin, .int .i64 v.tim, .int .i64 v.gen, .int .i64 v.whe, .int .i64 v.clk] (by rfl) (by rfl) s7.there done_info (by simp [Value.oneCell']) ?_
  go_wp2
  exact bodyPost_ret (v := .tuple #[.agg #[.int .i64 M.c, (.slice (some ⟨tg, 0, none⟩) M.tn tc), (.slice (some ⟨pg, 0, none⟩) M.pn pc), .int .i64 (restHd 2 0).pos, .int .i64 (restHd 2 0).call.code, .int .i64 (restHd 2 0).call.a, .int .i64 (restHd 2 0).call.b, .int .i64 (restHd 2 0).call.c, .int .i64 (restHd 2 0).tim, .int .i64 (restHd 2 0).whe, .bool (restHd 2 0).had, .int .i64 (restHd 2 0).cnt, .int .i64 (restHd 2 0).beg, .int .i64 (restHd 2 0).rep, .int .i64 (restHd 2 0).out, .int .i64 v.kin, .int .i64 v.tim, .int .i64 v.gen, .int .i64 v.whe, .int .i64 v.clk], .bool true]) (results_pair (cs := [.int .i64 M.c, (.slice (some ⟨tg, 0, none⟩) M.tn tc), (.slice (some ⟨pg, 0, none⟩) M.pn pc), .int .i64 (restHd 2 0).pos, .int .i64 (restHd 2 0).call.code, .int .i64 (restHd 2 0).call.a, .int .i64 (restHd 2 0).call.b, .int .i64 (restHd 2 0).call.c, .int .i64 (restHd 2 0).tim, .int .i64 (restHd 2 0).whe, .bool (restHd 2 0).had, .int .i64 (restHd 2 0).cnt, .int .i64 (restHd 2 0).beg, .int .i64 (restHd 2 0).rep, .int .i64 (restHd 2 0).out, .int .i64 v.kin, .int .i64 v.tim, .int .i64 v.gen, .int .i64 v.whe, .int .i64 v.clk]) rfl rfl rfl s7.lies Tryz.underlying43 rfl done_info) rfl (s7.retC.toB true)

theorem l10Stop_any {B : Nat} {tv pv : Value} {M : Me} {h : Hd} {v : Et} {w : World} (hB : B ≤ w.heap.size) (hk : 0 < M.pn) (hn : M.tn ≤ 1048576) (ht : 0 ≤ h.tim → h.tim.toNat < M.tn) (hp : ∀ i, i < M.tn → (M.t i).pl ≠ -1 → ∃ k : Nat, k < M.pn ∧ (M.t i).pl = (k : Int)) (hd : ∀ k, k < M.pn → 0 ≤ (M.p k).d ∧ (M.p k).d ≤ 1000) (hm : OwnMem w B tv pv M) :
    Calls Tryz.prog 21 #[dnV ⟨M, h, v⟩ tv pv] w (InDnB B (if stopB ⟨M, h, v⟩ then stopD ⟨M, h, v⟩ else dn0) (stopB ⟨M, h, v⟩) w) := by
  by_cases h5 : h.pos = 5
  · exact l10Stop_look hB hk hn ht hp hd h5 hm
  cases hq : mineB ⟨M, h, v⟩
  · exact l10Stop_no hB hk hn ht hp hd h5 hq hm
  · exact l10Stop_yes hB hk hn ht hp hd h5 hq hm

end Go.Proofs.YtflekodaiejflaaGreatDoor

/-
  The face of stopping (spec, chapter 10).
-/
namespace Go.Proofs.YtflekodaiejflaaGreatDoor
open Go.Deep Go.ChangeShapes Go.WideShapes Go.ChangeAt Go.RowKit Go.Joins
set_option linter.unusedVariables false
set_option linter.unusedSimpArgs false

set_option maxRecDepth 100000 in
set_option maxHeartbeats 8000000 in
theorem l10Of_any (a b c d x y : Int) (h : Hd) {tv pv : Value} {M : Me} {w : World} (hs : sizeM M ≤ 1048576) (hm : MemAt w tv pv M) :
    Calls Tryz.prog 20 #[.agg #[.int .i64 a, .int .i64 b, .int .i64 c], meV M.c tv pv, .int .i64 d, hdV h, .int .i64 x, .int .i64 y] w fun e w' => e = .returned (.bool (stepFit a b c d M h && ((h.pos == 5 && h.call.code == x) || h.pos == y))) ∧ Below w.heap.size w w' := by
  obtain ⟨va, vc, qa, qc, rfl, rfl⟩ := hm.form
  have hn := (sizeM_le hs).1
  have k0 := ((((Below.refl w.heap.size w).alloc (Nat.le_refl _) (.cells #[.int .i64 a, .int .i64 b, .int .i64 c] 46)).alloc (by simp) (.cells #[.int .i64 M.c, .slice va M.tn vc, .slice qa M.pn qc] 36)).alloc (by simp; omega) (.cells #[.int .i64 h.pos, .int .i64 h.call.code, .int .i64 h.call.a, .int .i64 h.call.b, .int .i64 h.call.c, .int .i64 h.tim, .int .i64 h.whe, .bool h.had, .int .i64 h.cnt, .int .i64 h.beg, .int .i64 h.rep, .int .i64 h.out] 39))
  have kk := Below.refl (((w.alloc (.cells #[.int .i64 a, .int .i64 b, .int .i64 c] 46)).alloc (.cells #[.int .i64 M.c, .slice va M.tn vc, .slice qa M.pn qc] 36)).alloc (.cells #[.int .i64 h.pos, .int .i64 h.call.code, .int .i64 h.call.a, .int .i64 h.call.b, .int .i64 h.call.c, .int .i64 h.tim, .int .i64 h.whe, .bool h.had, .int .i64 h.cnt, .int .i64 h.beg, .int .i64 h.rep, .int .i64 h.out] 39)).heap.size (((w.alloc (.cells #[.int .i64 a, .int .i64 b, .int .i64 c] 46)).alloc (.cells #[.int .i64 M.c, .slice va M.tn vc, .slice qa M.pn qc] 36)).alloc (.cells #[.int .i64 h.pos, .int .i64 h.call.code, .int .i64 h.call.a, .int .i64 h.call.b, .int .i64 h.call.c, .int .i64 h.tim, .int .i64 h.whe, .bool h.had, .int .i64 h.cnt, .int .i64 h.beg, .int .i64 h.rep, .int .i64 h.out] 39))
  have HM := Lib.hid (fun (w' : World) (hb : Below w.heap.size w w') => hm.below hb)
  clear hm
  cases g0 : stepFit a b c d M h
  · skip
    go_enter Tryz.func20, Tryz.ntmps20
    go_wp2_with (first
      | (go_at_call 38; refine (spFit_any _ _ _ _ _ hs (HM.out _ (k0.trans (kk.mono k0.size)))).mono ?_; rintro e w1 ⟨rfl, hb⟩; replace kk := kk.trans (hb.mono kk.size); clear hb; (try clear hc hf); obtain ⟨hc, hf⟩ := bcell kk))
    go_ret
    exact ⟨ret_bool' (by simp []), k0.trans (kk.mono k0.size)⟩
  cases g1 : h.pos == 5
  · skip
    go_enter Tryz.func20, Tryz.ntmps20
    go_wp2_with (first
      | (go_at_call 38; refine (spFit_any _ _ _ _ _ hs (HM.out _ (k0.trans (kk.mono k0.size)))).mono ?_; rintro e w1 ⟨rfl, hb⟩; replace kk := kk.trans (hb.mono kk.size); clear hb; (try clear hc hf); obtain ⟨hc, hf⟩ := bcell kk))
    go_ret
    exact ⟨ret_bool' (by simp []), k0.trans (kk.mono k0.size)⟩
  cases g2 : h.call.code == x
  · skip
    go_enter Tryz.func20, Tryz.ntmps20
    go_wp2_with (first
      | (go_at_call 38; refine (spFit_any _ _ _ _ _ hs (HM.out _ (k0.trans (kk.mono k0.size)))).mono ?_; rintro e w1 ⟨rfl, hb⟩; replace kk := kk.trans (hb.mono kk.size); clear hb; (try clear hc hf); obtain ⟨hc, hf⟩ := bcell kk))
    go_ret
    exact ⟨ret_bool' (by simp []), k0.trans (kk.mono k0.size)⟩
  go_enter Tryz.func20, Tryz.ntmps20
  go_wp2_with (first
    | (go_at_call 38; refine (spFit_any _ _ _ _ _ hs (HM.out _ (k0.trans (kk.mono k0.size)))).mono ?_; rintro e w1 ⟨rfl, hb⟩; replace kk := kk.trans (hb.mono kk.size); clear hb; (try clear hc hf); obtain ⟨hc, hf⟩ := bcell kk))
  go_ret
  exact ⟨ret_bool' (by simp []), k0.trans (kk.mono k0.size)⟩

theorem stepFit_places {a b c d : Int} {M : Me} {h : Hd} (hq : stepFit a b c d M h = true) : M.tn ≤ 1048576 ∧ 0 < M.pn ∧ (∀ i, i < M.tn → (M.t i).pl ≠ -1 → ∃ k : Nat, k < M.pn ∧ (M.t i).pl = (k : Int)) ∧ (∀ k, k < M.pn → 0 ≤ (M.p k).d ∧ (M.p k).d ≤ 1000) := by
  have F := stepFit_facts hq
  have e := F.pn
  refine ⟨Nat.le_trans F.tn (by decide), by omega, fun i hi hp => ?_, fun k hk => ?_⟩
  · have h1 := F.tm i hi
    simp only [timerB, placeB, Bool.and_eq_true] at h1
    have hp' := h1.2.2.2.2.2.2.2.2.1
    have hproc : procB a b c (M.t i).pl = true := by
      cases hin : inHeapB (M.t i).st
      · rw [hin] at hp'
        simp at hp'
        rcases hp' with e | e
        · exact absurd e hp
        · exact e.2
      · rw [hin] at hp'
        simpa using hp'
    have h2 := (procB_iff.1 hproc).2
    exact ⟨(M.t i).pl.toNat, by omega, by omega⟩
  · have h1 := F.d k hk
    have h2 := F.n k hk
    omega

set_option maxRecDepth 100000 in
set_option maxHeartbeats 1200000 in
theorem spStopStep_any (a b c d : Int) (h : Hd) (tv pv : Value) (M : Me) (w : World) (hs : sizeM M ≤ 1048576) (hm : MemAt w tv pv M) :
    Calls Tryz.prog 6 #[.agg #[.int .i64 a, .int .i64 b, .int .i64 c], meV M.c tv pv, .int .i64 d, hdV h] w (NewDn (stopG a b c d M h) (stopQ a b c d M h) w) := by
  obtain ⟨va, vc, qa, qc, rfl, rfl⟩ := hm.form
  have hn := sizeM_le hs
  have k0 := (((((Below.refl w.heap.size w).alloc (Nat.le_refl _) (.cells #[.int .i64 a, .int .i64 b, .int .i64 c] 46)).alloc (by simp) (.cells #[.int .i64 M.c, .slice va M.tn vc, .slice qa M.pn qc] 36)).alloc (by simp; omega) (.cells #[.int .i64 h.pos, .int .i64 h.call.code, .int .i64 h.call.a, .int .i64 h.call.b, .int .i64 h.call.c, .int .i64 h.tim, .int .i64 h.whe, .bool h.had, .int .i64 h.cnt, .int .i64 h.beg, .int .i64 h.rep, .int .i64 h.out] 39)).alloc (by simp; omega) (.cells #[.int .i64 0, .slice none 0 0, .slice none 0 0, .int .i64 0, .int .i64 0, .int .i64 0, .int .i64 0, .int .i64 0, .int .i64 0, .int .i64 0, .bool false, .int .i64 0, .int .i64 0, .int .i64 0, .int .i64 0, .int .i64 0, .int .i64 0, .int .i64 0, .int .i64 0, .int .i64 0] 43))
  have hP := alloc_block (.cells #[.int .i64 0, .slice none 0 0, .slice none 0 0, .int .i64 0, .int .i64 0, .int .i64 0, .int .i64 0, .int .i64 0, .int .i64 0, .int .i64 0, .bool false, .int .i64 0, .int .i64 0, .int .i64 0, .int .i64 0, .int .i64 0, .int .i64 0, .int .i64 0, .int .i64 0, .int .i64 0] 43) (alloc_block (.cells #[.int .i64 h.pos, .int .i64 h.call.code, .int .i64 h.call.a, .int .i64 h.call.b, .int .i64 h.call.c, .int .i64 h.tim, .int .i64 h.whe, .bool h.had, .int .i64 h.cnt, .int .i64 h.beg, .int .i64 h.rep, .int .i64 h.out] 39) (alloc_block (.cells #[.int .i64 M.c, .slice va M.tn vc, .slice qa M.pn qc] 36) (heap_alloc_new w (.cells #[.int .i64 a, .int .i64 b, .int .i64 c] 46))))
  have hX := heap_alloc_new (w.alloc (.cells #[.int .i64 a, .int .i64 b, .int .i64 c] 46)) (.cells #[.int .i64 M.c, .slice va M.tn vc, .slice qa M.pn qc] 36)
  rw [show (w.alloc (.cells #[.int .i64 a, .int .i64 b, .int .i64 c] 46)).heap.size = w.heap.size + 1 by simp] at hX
  replace hX := alloc_block (.cells #[.int .i64 0, .slice none 0 0, .slice none 0 0, .int .i64 0, .int .i64 0, .int .i64 0, .int .i64 0, .int .i64 0, .int .i64 0, .int .i64 0, .bool false, .int .i64 0, .int .i64 0, .int .i64 0, .int .i64 0, .int .i64 0, .int .i64 0, .int .i64 0, .int .i64 0, .int .i64 0] 43) (alloc_block (.cells #[.int .i64 h.pos, .int .i64 h.call.code, .int .i64 h.call.a, .int .i64 h.call.b, .int .i64 h.call.c, .int .i64 h.tim, .int .i64 h.whe, .bool h.had, .int .i64 h.cnt, .int .i64 h.beg, .int .i64 h.rep, .int .i64 h.out] 39) hX)
  have hH := heap_alloc_new ((w.alloc (.cells #[.int .i64 a, .int .i64 b, .int .i64 c] 46)).alloc (.cells #[.int .i64 M.c, .slice va M.tn vc, .slice qa M.pn qc] 36)) (.cells #[.int .i64 h.pos, .int .i64 h.call.code, .int .i64 h.call.a, .int .i64 h.call.b, .int .i64 h.call.c, .int .i64 h.tim, .int .i64 h.whe, .bool h.had, .int .i64 h.cnt, .int .i64 h.beg, .int .i64 h.rep, .int .i64 h.out] 39)
  rw [show ((w.alloc (.cells #[.int .i64 a, .int .i64 b, .int .i64 c] 46)).alloc (.cells #[.int .i64 M.c, .slice va M.tn vc, .slice qa M.pn qc] 36)).heap.size = w.heap.size + 1 + 1 by simp] at hH
  replace hH := alloc_block (.cells #[.int .i64 0, .slice none 0 0, .slice none 0 0, .int .i64 0, .int .i64 0, .int .i64 0, .int .i64 0, .int .i64 0, .int .i64 0, .int .i64 0, .bool false, .int .i64 0, .int .i64 0, .int .i64 0, .int .i64 0, .int .i64 0, .int .i64 0, .int .i64 0, .int .i64 0, .int .i64 0] 43) hH
  have hR := heap_alloc_new (((w.alloc (.cells #[.int .i64 a, .int .i64 b, .int .i64 c] 46)).alloc (.cells #[.int .i64 M.c, .slice va M.tn vc, .slice qa M.pn qc] 36)).alloc (.cells #[.int .i64 h.pos, .int .i64 h.call.code, .int .i64 h.call.a, .int .i64 h.call.b, .int .i64 h.call.c, .int .i64 h.tim, .int .i64 h.whe, .bool h.had, .int .i64 h.cnt, .int .i64 h.beg, .int .i64 h.rep, .int .i64 h.out] 39)) (.cells #[.int .i64 0, .slice none 0 0, .slice none 0 0, .int .i64 0, .int .i64 0, .int .i64 0, .int .i64 0, .int .i64 0, .int .i64 0, .int .i64 0, .bool false, .int .i64 0, .int .i64 0, .int .i64 0, .int .i64 0, .int .i64 0, .int .i64 0, .int .i64 0, .int .i64 0, .int .i64 0] 43)
  rw [show (((w.alloc (.cells #[.int .i64 a, .int .i64 b, .int .i64 c] 46)).alloc (.cells #[.int .i64 M.c, .slice va M.tn vc, .slice qa M.pn qc] 36)).alloc (.cells #[.int .i64 h.pos, .int .i64 h.call.code, .int .i64 h.call.a, .int .i64 h.call.b, .int .i64 h.call.c, .int .i64 h.tim, .int .i64 h.whe, .bool h.had, .int .i64 h.cnt, .int .i64 h.beg, .int .i64 h.rep, .int .i64 h.out] 39)).heap.size = w.heap.size + 1 + 1 + 1 by simp] at hR
  have HM := Lib.hid (hm.below k0)
  clear hm
  cases hq : stepFit a b c d M h && ((h.pos == 5 && h.call.code == 2) || h.pos == 6)
  · have eq : (stopQ a b c d M h) = false := by rw [stopQ, ← Bool.and_assoc, hq, Bool.false_and]
    rw [show NewDn (stopG a b c d M h) (stopQ a b c d M h) w = NewDn dn0 false w by rw [stopG, eq]; rfl]
    clear eq
    have hqb := hq
    clear hq
    go_enter Tryz.func6, Tryz.ntmps6
    go_upto_region 1 with fail
    generalize hw1 : ((((w.alloc (.cells #[.int .i64 a, .int .i64 b, .int .i64 c] 46)).alloc (.cells #[.int .i64 M.c, .slice va M.tn vc, .slice qa M.pn qc] 36)).alloc (.cells #[.int .i64 h.pos, .int .i64 h.call.code, .int .i64 h.call.a, .int .i64 h.call.b, .int .i64 h.call.c, .int .i64 h.tim, .int .i64 h.whe, .bool h.had, .int .i64 h.cnt, .int .i64 h.beg, .int .i64 h.rep, .int .i64 h.out] 39)).alloc (.cells #[.int .i64 0, .slice none 0 0, .slice none 0 0, .int .i64 0, .int .i64 0, .int .i64 0, .int .i64 0, .int .i64 0, .int .i64 0, .int .i64 0, .bool false, .int .i64 0, .int .i64 0, .int .i64 0, .int .i64 0, .int .i64 0, .int .i64 0, .int .i64 0, .int .i64 0, .int .i64 0] 43)) = w1 at k0 hP hX hH hR HM ⊢
    clear hw1
    obtain ⟨p0, p1, p2, _, _, _⟩ := three hP
    obtain ⟨x0, x1, x2, _, _, _⟩ := three hX
    obtain ⟨h0, h1, h2, h3, h4, h5, h6, h7, h8, h9, h10, h11, _⟩ := twelve hH
    go_wp2_with fail
    go_at_call 20; refine (l10Of_any a b c d 2 6 h hs HM.out).mono ?_; rw [hqb]; rintro e w2 ⟨rfl, hb⟩
    have k2 := k0.trans (hb.mono k0.size)
    have hR2 := b_block hb hR (lt_of_block hR)
    clear p0 p1 p2 x0 x1 x2 h0 h1 h2 h3 h4 h5 h6 h7 h8 h9 h10 h11
    go_upto_region 2 with fail
    refine wp_region_lit ?_
    refine wpList_plain rfl fun K0 hK0 => ?_
    go_simp
    refine hK0 _ _ ?_
    clear hK0 K0
    refine wpList_store_mid (by rfl) 43 _ _ (by rfl) _ 0 #[.int .i64 0, .slice none 0 0, .slice none 0 0, .int .i64 0, .int .i64 0, .int .i64 0, .int .i64 0, .int .i64 0, .int .i64 0, .int .i64 0, .bool false, .int .i64 0, .int .i64 0, .int .i64 0, .int .i64 0, .int .i64 0, .int .i64 0, .int .i64 0, .int .i64 0, .int .i64 0] (by rfl) (by rfl) (there_of_block hR2) done_info (by simp [Value.oneCell']) ?_
    go_wp2
    exact bodyPost_ret (v := .tuple #[.agg #[.int .i64 0, .slice none 0 0, .slice none 0 0, .int .i64 0, .int .i64 0, .int .i64 0, .int .i64 0, .int .i64 0, .int .i64 0, .int .i64 0, .bool false, .int .i64 0, .int .i64 0, .int .i64 0, .int .i64 0, .int .i64 0, .int .i64 0, .int .i64 0, .int .i64 0, .int .i64 0], .bool false]) (results_pair (cs := [.int .i64 0, .slice none 0 0, .slice none 0 0, .int .i64 0, .int .i64 0, .int .i64 0, .int .i64 0, .int .i64 0, .int .i64 0, .int .i64 0, .bool false, .int .i64 0, .int .i64 0, .int .i64 0, .int .i64 0, .int .i64 0, .int .i64 0, .int .i64 0, .int .i64 0, .int .i64 0]) rfl rfl rfl (World.rangeAt_setCells_same _ _ _ _ (there_of_block hR2)) Tryz.underlying43 rfl done_info) rfl ⟨_, _, rfl, own_zero _ _, b_setCells (show w.heap.size ≤ w.heap.size + 1 + 1 + 1 by omega) _ 0 k2⟩
  obtain ⟨F1, F2, F3, F4, _⟩ := stepFit_more (Bool.and_eq_true .. ▸ hq).1
  obtain ⟨G1, G2, G3, G4⟩ := stepFit_places (Bool.and_eq_true .. ▸ hq).1
  obtain ⟨qq, hqq⟩ : ∃ qq, stopB ⟨M, h, et0⟩ = qq := ⟨_, rfl⟩
  obtain ⟨DD, hDD⟩ : ∃ DD, (if stopB ⟨M, h, et0⟩ then stopD ⟨M, h, et0⟩ else dn0) = DD := ⟨_, rfl⟩
  rw [show NewDn (stopG a b c d M h) (stopQ a b c d M h) w = NewDn DD qq w by
    have e : stopQ a b c d M h = stopB ⟨M, h, et0⟩ := by rw [stopQ, ← Bool.and_assoc, hq, Bool.true_and]
    rw [stopG, e, hDD, hqq]]
  have HD := Lib.hid hDD
  have HQ := Lib.hid hqq
  clear hDD hqq
  have hqb := hq
  clear hq
  go_enter Tryz.func6, Tryz.ntmps6
  go_upto_region 1 with fail
  generalize hw1 : ((((w.alloc (.cells #[.int .i64 a, .int .i64 b, .int .i64 c] 46)).alloc (.cells #[.int .i64 M.c, .slice va M.tn vc, .slice qa M.pn qc] 36)).alloc (.cells #[.int .i64 h.pos, .int .i64 h.call.code, .int .i64 h.call.a, .int .i64 h.call.b, .int .i64 h.call.c, .int .i64 h.tim, .int .i64 h.whe, .bool h.had, .int .i64 h.cnt, .int .i64 h.beg, .int .i64 h.rep, .int .i64 h.out] 39)).alloc (.cells #[.int .i64 0, .slice none 0 0, .slice none 0 0, .int .i64 0, .int .i64 0, .int .i64 0, .int .i64 0, .int .i64 0, .int .i64 0, .int .i64 0, .bool false, .int .i64 0, .int .i64 0, .int .i64 0, .int .i64 0, .int .i64 0, .int .i64 0, .int .i64 0, .int .i64 0, .int .i64 0] 43)) = w1 at k0 hP hX hH hR HM ⊢
  clear hw1
  obtain ⟨p0, p1, p2, _, _, _⟩ := three hP
  obtain ⟨x0, x1, x2, _, _, _⟩ := three hX
  obtain ⟨h0, h1, h2, h3, h4, h5, h6, h7, h8, h9, h10, h11, _⟩ := twelve hH
  go_wp2_with fail
  go_at_call 20; refine (l10Of_any a b c d 2 6 h hs HM.out).mono ?_; rw [hqb]; rintro e w2 ⟨rfl, hb⟩
  have k2 := k0.trans (hb.mono k0.size)
  have hP2 := b_block hb hP (lt_of_block hP)
  have hX2 := b_block hb hX (lt_of_block hX)
  have hH2 := b_block hb hH (lt_of_block hH)
  have hR2 := b_block hb hR (lt_of_block hR)
  have HM2 := Lib.hid (HM.out.below hb)
  clear p0 p1 p2 x0 x1 x2 h0 h1 h2 h3 h4 h5 h6 h7 h8 h9 h10 h11 hb hP hX hH hR HM k0
  go_upto_region 3 with fail
  have lR2 := lt_of_block hR2
  have d0 : w2.drew.heap.size = w2.heap.size := rfl
  refine wp_region_T (fun w' => w'.cell? ⟨w.heap.size, 0, none⟩ = some (.int .i64 a) ∧ w'.cell? ⟨w.heap.size, 1, none⟩ = some (.int .i64 b) ∧ w'.cell? ⟨w.heap.size, 2, none⟩ = some (.int .i64 c) ∧ w'.cell? ⟨w.heap.size + 1, 0, none⟩ = some (.int .i64 M.c) ∧ w'.cell? ⟨w.heap.size + 1, 1, none⟩ = some (.slice va M.tn vc) ∧ w'.cell? ⟨w.heap.size + 1, 2, none⟩ = some (.slice qa M.pn qc) ∧ w'.cell? ⟨w.heap.size + 1 + 1, 0, none⟩ = some (.int .i64 h.pos) ∧ w'.cell? ⟨w.heap.size + 1 + 1, 1, none⟩ = some (.int .i64 h.call.code) ∧ w'.cell? ⟨w.heap.size + 1 + 1, 2, none⟩ = some (.int .i64 h.call.a) ∧ w'.cell? ⟨w.heap.size + 1 + 1, 3, none⟩ = some (.int .i64 h.call.b) ∧ w'.cell? ⟨w.heap.size + 1 + 1, 4, none⟩ = some (.int .i64 h.call.c) ∧ w'.cell? ⟨w.heap.size + 1 + 1, 5, none⟩ = some (.int .i64 h.tim) ∧ w'.cell? ⟨w.heap.size + 1 + 1, 6, none⟩ = some (.int .i64 h.whe) ∧ w'.cell? ⟨w.heap.size + 1 + 1, 7, none⟩ = some (.bool h.had) ∧ w'.cell? ⟨w.heap.size + 1 + 1, 8, none⟩ = some (.int .i64 h.cnt) ∧ w'.cell? ⟨w.heap.size + 1 + 1, 9, none⟩ = some (.int .i64 h.beg) ∧ w'.cell? ⟨w.heap.size + 1 + 1, 10, none⟩ = some (.int .i64 h.rep) ∧ w'.cell? ⟨w.heap.size + 1 + 1, 11, none⟩ = some (.int .i64 h.out)) 8 (by kernel_rfl) ?_
  have hS : w2.drew.cell? ⟨w.heap.size, 0, none⟩ = some (.int .i64 a) ∧ w2.drew.cell? ⟨w.heap.size, 1, none⟩ = some (.int .i64 b) ∧ w2.drew.cell? ⟨w.heap.size, 2, none⟩ = some (.int .i64 c) ∧ w2.drew.cell? ⟨w.heap.size + 1, 0, none⟩ = some (.int .i64 M.c) ∧ w2.drew.cell? ⟨w.heap.size + 1, 1, none⟩ = some (.slice va M.tn vc) ∧ w2.drew.cell? ⟨w.heap.size + 1, 2, none⟩ = some (.slice qa M.pn qc) ∧ w2.drew.cell? ⟨w.heap.size + 1 + 1, 0, none⟩ = some (.int .i64 h.pos) ∧ w2.drew.cell? ⟨w.heap.size + 1 + 1, 1, none⟩ = some (.int .i64 h.call.code) ∧ w2.drew.cell? ⟨w.heap.size + 1 + 1, 2, none⟩ = some (.int .i64 h.call.a) ∧ w2.drew.cell? ⟨w.heap.size + 1 + 1, 3, none⟩ = some (.int .i64 h.call.b) ∧ w2.drew.cell? ⟨w.heap.size + 1 + 1, 4, none⟩ = some (.int .i64 h.call.c) ∧ w2.drew.cell? ⟨w.heap.size + 1 + 1, 5, none⟩ = some (.int .i64 h.tim) ∧ w2.drew.cell? ⟨w.heap.size + 1 + 1, 6, none⟩ = some (.int .i64 h.whe) ∧ w2.drew.cell? ⟨w.heap.size + 1 + 1, 7, none⟩ = some (.bool h.had) ∧ w2.drew.cell? ⟨w.heap.size + 1 + 1, 8, none⟩ = some (.int .i64 h.cnt) ∧ w2.drew.cell? ⟨w.heap.size + 1 + 1, 9, none⟩ = some (.int .i64 h.beg) ∧ w2.drew.cell? ⟨w.heap.size + 1 + 1, 10, none⟩ = some (.int .i64 h.rep) ∧ w2.drew.cell? ⟨w.heap.size + 1 + 1, 11, none⟩ = some (.int .i64 h.out) := ⟨cell_of_block hP2 0, cell_of_block hP2 1, cell_of_block hP2 2, cell_of_block hX2 0, cell_of_block hX2 1, cell_of_block hX2 2, cell_of_block hH2 0, cell_of_block hH2 1, cell_of_block hH2 2, cell_of_block hH2 3, cell_of_block hH2 4, cell_of_block hH2 5, cell_of_block hH2 6, cell_of_block hH2 7, cell_of_block hH2 8, cell_of_block hH2 9, cell_of_block hH2 10, cell_of_block hH2 11⟩
  refine wpAnyT_take (i := 0) (v := ?v0_1) rfl (by kernel_rfl) (by kernel_rfl) (by kernel_rfl) (by kernel_rfl) (fun _ _ _ h => h) (Or.inl ⟨by rfl, ?hy0_1⟩) hS ?rest0_1
  case hy0_1 => intro w' hSw; obtain ⟨s0, s1, s2, s3, s4, s5, s6, s7, s8, s9, s10, s11, s12, s13, s14, s15, s16, s17⟩ := hSw; go_simp; try with_reducible rfl
  simp only [Act.put, List.setIfInBounds_toArray, List.set_cons_zero, List.set_cons_succ]
  refine wpAnyT_take (i := 2) (v := ?v2_2) rfl (by kernel_rfl) (by kernel_rfl) (by kernel_rfl) (by kernel_rfl) (fun _ _ _ h => h) (Or.inl ⟨by rfl, ?hy2_2⟩) hS ?rest2_2
  case hy2_2 => intro w' hSw; obtain ⟨s0, s1, s2, s3, s4, s5, s6, s7, s8, s9, s10, s11, s12, s13, s14, s15, s16, s17⟩ := hSw; go_simp; try with_reducible rfl
  simp only [Act.put, List.setIfInBounds_toArray, List.set_cons_zero, List.set_cons_succ]
  refine wpAnyT_one (i := 1) (by kernel_rfl) rfl (by rfl) fun K hK => ?_
  go_simp
  go_at_call 22; refine (l5Copy_any hs (HM2.out.below (Below.refl w2.heap.size w2).drew)).mono ?_
  rintro e w3 ⟨tn, pn, rfl, hO, hb⟩
  have kd := (Below.refl w2.heap.size w2).drew.trans hb
  have hP3 := b_block kd hP2 (lt_of_block hP2)
  have hX3 := b_block kd hX2 (lt_of_block hX2)
  have hH3 := b_block kd hH2 (lt_of_block hH2)
  have hR3 := b_block kd hR2 (lt_of_block hR2)
  have k3 := k2.trans (kd.mono k2.size)
  have hS3 : w3.cell? ⟨w.heap.size, 0, none⟩ = some (.int .i64 a) ∧ w3.cell? ⟨w.heap.size, 1, none⟩ = some (.int .i64 b) ∧ w3.cell? ⟨w.heap.size, 2, none⟩ = some (.int .i64 c) ∧ w3.cell? ⟨w.heap.size + 1, 0, none⟩ = some (.int .i64 M.c) ∧ w3.cell? ⟨w.heap.size + 1, 1, none⟩ = some (.slice va M.tn vc) ∧ w3.cell? ⟨w.heap.size + 1, 2, none⟩ = some (.slice qa M.pn qc) ∧ w3.cell? ⟨w.heap.size + 1 + 1, 0, none⟩ = some (.int .i64 h.pos) ∧ w3.cell? ⟨w.heap.size + 1 + 1, 1, none⟩ = some (.int .i64 h.call.code) ∧ w3.cell? ⟨w.heap.size + 1 + 1, 2, none⟩ = some (.int .i64 h.call.a) ∧ w3.cell? ⟨w.heap.size + 1 + 1, 3, none⟩ = some (.int .i64 h.call.b) ∧ w3.cell? ⟨w.heap.size + 1 + 1, 4, none⟩ = some (.int .i64 h.call.c) ∧ w3.cell? ⟨w.heap.size + 1 + 1, 5, none⟩ = some (.int .i64 h.tim) ∧ w3.cell? ⟨w.heap.size + 1 + 1, 6, none⟩ = some (.int .i64 h.whe) ∧ w3.cell? ⟨w.heap.size + 1 + 1, 7, none⟩ = some (.bool h.had) ∧ w3.cell? ⟨w.heap.size + 1 + 1, 8, none⟩ = some (.int .i64 h.cnt) ∧ w3.cell? ⟨w.heap.size + 1 + 1, 9, none⟩ = some (.int .i64 h.beg) ∧ w3.cell? ⟨w.heap.size + 1 + 1, 10, none⟩ = some (.int .i64 h.rep) ∧ w3.cell? ⟨w.heap.size + 1 + 1, 11, none⟩ = some (.int .i64 h.out) := ⟨cell_of_block hP3 0, cell_of_block hP3 1, cell_of_block hP3 2, cell_of_block hX3 0, cell_of_block hX3 1, cell_of_block hX3 2, cell_of_block hH3 0, cell_of_block hH3 1, cell_of_block hH3 2, cell_of_block hH3 3, cell_of_block hH3 4, cell_of_block hH3 5, cell_of_block hH3 6, cell_of_block hH3 7, cell_of_block hH3 8, cell_of_block hH3 9, cell_of_block hH3 10, cell_of_block hH3 11⟩
  refine hK _ _ (.inr hS3) ?_
  clear hK K
  (try simp only [Act.put, List.setIfInBounds_toArray, List.set_cons_zero, List.set_cons_succ])
  refine wpAnyT_take (i := 3) (v := ?v3_3) rfl (by kernel_rfl) (by kernel_rfl) (by kernel_rfl) (by kernel_rfl) (fun _ _ _ h => h) (Or.inl ⟨by rfl, ?hy3_3⟩) hS3 ?rest3_3
  case hy3_3 => intro w' hSw; obtain ⟨s0, s1, s2, s3, s4, s5, s6, s7, s8, s9, s10, s11, s12, s13, s14, s15, s16, s17⟩ := hSw; go_simp; try with_reducible rfl
  simp only [Act.put, List.setIfInBounds_toArray, List.set_cons_zero, List.set_cons_succ]
  refine wpAnyT_one (i := 4) (by kernel_rfl) rfl (by rfl) fun K hK => ?_
  go_simp
  go_at_call 21; refine ((show Calls _ _ _ _ (InDnB w2.drew.heap.size DD qq w3) by rw [← HD.out, ← HQ.out]; exact l10Stop_any (B := w2.drew.heap.size) (v := et0) kd.size G2 G1 F2 G3 G4 hO)).mono ?_
  rintro e w4 hI
  obtain ⟨ta3, tn3, tc3, pa3, pn3, pc3, rfl, th3, ra3, hA, hk4⟩ := hI.new k3 k2.size (show w.heap.size ≤ w.heap.size + 1 + 1 + 1 by omega) hR3 rfl
  have hP4 := b_block hk4 hP3 (by rw [d0]; omega)
  have hX4 := b_block hk4 hX3 (by rw [d0]; omega)
  have hH4 := b_block hk4 hH3 (by rw [d0]; omega)
  have hS4 : w4.cell? ⟨w.heap.size, 0, none⟩ = some (.int .i64 a) ∧ w4.cell? ⟨w.heap.size, 1, none⟩ = some (.int .i64 b) ∧ w4.cell? ⟨w.heap.size, 2, none⟩ = some (.int .i64 c) ∧ w4.cell? ⟨w.heap.size + 1, 0, none⟩ = some (.int .i64 M.c) ∧ w4.cell? ⟨w.heap.size + 1, 1, none⟩ = some (.slice va M.tn vc) ∧ w4.cell? ⟨w.heap.size + 1, 2, none⟩ = some (.slice qa M.pn qc) ∧ w4.cell? ⟨w.heap.size + 1 + 1, 0, none⟩ = some (.int .i64 h.pos) ∧ w4.cell? ⟨w.heap.size + 1 + 1, 1, none⟩ = some (.int .i64 h.call.code) ∧ w4.cell? ⟨w.heap.size + 1 + 1, 2, none⟩ = some (.int .i64 h.call.a) ∧ w4.cell? ⟨w.heap.size + 1 + 1, 3, none⟩ = some (.int .i64 h.call.b) ∧ w4.cell? ⟨w.heap.size + 1 + 1, 4, none⟩ = some (.int .i64 h.call.c) ∧ w4.cell? ⟨w.heap.size + 1 + 1, 5, none⟩ = some (.int .i64 h.tim) ∧ w4.cell? ⟨w.heap.size + 1 + 1, 6, none⟩ = some (.int .i64 h.whe) ∧ w4.cell? ⟨w.heap.size + 1 + 1, 7, none⟩ = some (.bool h.had) ∧ w4.cell? ⟨w.heap.size + 1 + 1, 8, none⟩ = some (.int .i64 h.cnt) ∧ w4.cell? ⟨w.heap.size + 1 + 1, 9, none⟩ = some (.int .i64 h.beg) ∧ w4.cell? ⟨w.heap.size + 1 + 1, 10, none⟩ = some (.int .i64 h.rep) ∧ w4.cell? ⟨w.heap.size + 1 + 1, 11, none⟩ = some (.int .i64 h.out) := ⟨cell_of_block hP4 0, cell_of_block hP4 1, cell_of_block hP4 2, cell_of_block hX4 0, cell_of_block hX4 1, cell_of_block hX4 2, cell_of_block hH4 0, cell_of_block hH4 1, cell_of_block hH4 2, cell_of_block hH4 3, cell_of_block hH4 4, cell_of_block hH4 5, cell_of_block hH4 6, cell_of_block hH4 7, cell_of_block hH4 8, cell_of_block hH4 9, cell_of_block hH4 10, cell_of_block hH4 11⟩
  refine hK _ _ (.inr hS4) ?_
  clear hK K
  (try simp only [Act.put, List.setIfInBounds_toArray, List.set_cons_zero, List.set_cons_succ])
  refine wpAnyT_take (i := 5) (v := ?v5_4) rfl (by kernel_rfl) (by kernel_rfl) (by kernel_rfl) (by kernel_rfl) (fun _ _ _ h => h) (Or.inl ⟨by rfl, ?hy5_4⟩) hS4 ?rest5_4
  case hy5_4 => intro w' hSw; obtain ⟨s0, s1, s2, s3, s4, s5, s6, s7, s8, s9, s10, s11, s12, s13, s14, s15, s16, s17⟩ := hSw; go_simp; try with_reducible rfl
  simp only [Act.put, List.setIfInBounds_toArray, List.set_cons_zero, List.set_cons_succ]
  refine wpAnyT_take (i := 6) (v := ?v6_5) rfl (by kernel_rfl) (by kernel_rfl) (by kernel_rfl) (by kernel_rfl) (fun _ _ _ h => h) (Or.inl ⟨by rfl, ?hy6_5⟩) hS4 ?rest6_5
  case hy6_5 => intro w' hSw; obtain ⟨s0, s1, s2, s3, s4, s5, s6, s7, s8, s9, s10, s11, s12, s13, s14, s15, s16, s17⟩ := hSw; go_simp; try with_reducible rfl
  simp only [Act.put, List.setIfInBounds_toArray, List.set_cons_zero, List.set_cons_succ]
  refine wpAnyT_one (i := 7) (by kernel_rfl) rfl (by rfl) fun K hK => ?_
  refine wp_store_mid 43 _ _ (by rfl) _ 0 (dnCells DD (.slice ta3 tn3 tc3) (.slice pa3 pn3 pc3)) (by rfl) (by rfl) th3 done_info (by simp [Value.oneCell']) ?_
  have hP5 := (heap_setCells_ne (b := w.heap.size + 1 + 1 + 1) (g := w.heap.size) (by omega) (dnCells DD (.slice ta3 tn3 tc3) (.slice pa3 pn3 pc3)).toList 0 w4).trans hP4
  have hX5 := (heap_setCells_ne (b := w.heap.size + 1 + 1 + 1) (g := w.heap.size + 1) (by omega) (dnCells DD (.slice ta3 tn3 tc3) (.slice pa3 pn3 pc3)).toList 0 w4).trans hX4
  have hH5 := (heap_setCells_ne (b := w.heap.size + 1 + 1 + 1) (g := w.heap.size + 1 + 1) (by omega) (dnCells DD (.slice ta3 tn3 tc3) (.slice pa3 pn3 pc3)).toList 0 w4).trans hH4
  generalize hw5 : w4.setCells (w.heap.size + 1 + 1 + 1) 0 (dnCells DD (.slice ta3 tn3 tc3) (.slice pa3 pn3 pc3)).toList = w5 at ra3 hA hP5 hX5 hH5 ⊢
  clear hw5
  have hS5 : w5.cell? ⟨w.heap.size, 0, none⟩ = some (.int .i64 a) ∧ w5.cell? ⟨w.heap.size, 1, none⟩ = some (.int .i64 b) ∧ w5.cell? ⟨w.heap.size, 2, none⟩ = some (.int .i64 c) ∧ w5.cell? ⟨w.heap.size + 1, 0, none⟩ = some (.int .i64 M.c) ∧ w5.cell? ⟨w.heap.size + 1, 1, none⟩ = some (.slice va M.tn vc) ∧ w5.cell? ⟨w.heap.size + 1, 2, none⟩ = some (.slice qa M.pn qc) ∧ w5.cell? ⟨w.heap.size + 1 + 1, 0, none⟩ = some (.int .i64 h.pos) ∧ w5.cell? ⟨w.heap.size + 1 + 1, 1, none⟩ = some (.int .i64 h.call.code) ∧ w5.cell? ⟨w.heap.size + 1 + 1, 2, none⟩ = some (.int .i64 h.call.a) ∧ w5.cell? ⟨w.heap.size + 1 + 1, 3, none⟩ = some (.int .i64 h.call.b) ∧ w5.cell? ⟨w.heap.size + 1 + 1, 4, none⟩ = some (.int .i64 h.call.c) ∧ w5.cell? ⟨w.heap.size + 1 + 1, 5, none⟩ = some (.int .i64 h.tim) ∧ w5.cell? ⟨w.heap.size + 1 + 1, 6, none⟩ = some (.int .i64 h.whe) ∧ w5.cell? ⟨w.heap.size + 1 + 1, 7, none⟩ = some (.bool h.had) ∧ w5.cell? ⟨w.heap.size + 1 + 1, 8, none⟩ = some (.int .i64 h.cnt) ∧ w5.cell? ⟨w.heap.size + 1 + 1, 9, none⟩ = some (.int .i64 h.beg) ∧ w5.cell? ⟨w.heap.size + 1 + 1, 10, none⟩ = some (.int .i64 h.rep) ∧ w5.cell? ⟨w.heap.size + 1 + 1, 11, none⟩ = some (.int .i64 h.out) := ⟨cell_of_block hP5 0, cell_of_block hP5 1, cell_of_block hP5 2, cell_of_block hX5 0, cell_of_block hX5 1, cell_of_block hX5 2, cell_of_block hH5 0, cell_of_block hH5 1, cell_of_block hH5 2, cell_of_block hH5 3, cell_of_block hH5 4, cell_of_block hH5 5, cell_of_block hH5 6, cell_of_block hH5 7, cell_of_block hH5 8, cell_of_block hH5 9, cell_of_block hH5 10, cell_of_block hH5 11⟩
  refine hK _ _ (.inr hS5) ?_
  clear hK K
  (try simp only [Act.put, List.setIfInBounds_toArray, List.set_cons_zero, List.set_cons_succ])
  refine wpAnyT_one (i := 8) (by kernel_rfl) rfl (by rfl) fun K hK => ?_
  go_simp
  refine hK _ _ (.inl rfl) ?_
  clear hK K hS hS3 hS4 hS5
  refine wpAnyT_done (by kernel_rfl) ?_ _
  go_wp2
  exact bodyPost_ret (v := .tuple #[dnV DD (.slice ta3 tn3 tc3) (.slice pa3 pn3 pc3), .bool qq]) (results_pair (cs := (dnCells DD (.slice ta3 tn3 tc3) (.slice pa3 pn3 pc3)).toList) rfl rfl rfl ra3 Tryz.underlying43 rfl done_info) rfl hA

end Go.Proofs.YtflekodaiejflaaGreatDoor

/-
  A step's memory is no greater than the laws bear (chapters 10 to 14). No Go in sight.
-/
namespace Go.Proofs.YtflekodaiejflaaGreatDoor
open Go.RowKit Go.Joins
set_option linter.unusedVariables false
set_option linter.unusedSimpArgs false

theorem near_tm (M : Me) (t j : Nat) (x : Int) : Near M (setTm M t j x) := near_sub rfl rfl rfl (fun _ => Nat.le_refl _)
theorem Near.sub {M N K : Me} (h : Near M N) (k : Near N K) (n : ∀ k, (N.p k).n ≤ (M.p k).n) : Near M K :=
  ⟨k.tn.trans h.tn, k.pn.trans h.pn, k.c.trans h.c, fun i => Nat.le_trans (k.n i) (Nat.succ_le_succ (n i))⟩
theorem Near.tm {M N : Me} (h : Near M N) (t j : Nat) (x : Int) : Near M (setTm N t j x) := h.trans0 rfl rfl rfl (fun _ => Nat.le_refl _)
theorem Near.pc {M N : Me} (h : Near M N) (t j : Nat) (x : Int) : Near M (setPc N t j x) := h.trans0 rfl rfl rfl (setPc_le _ _ _ _)
theorem stopG_size (a b c d : Int) (M : Me) (h : Hd) : sizeM (stopG a b c d M h).m ≤ 1048576 := by
  unfold stopG
  split
  · rename_i hq
    have hf : MemFacts a b c M := by
      rw [stopQ, Bool.and_eq_true] at hq
      exact stepFit_facts hq.1
    have h0 := Near.refl M
    unfold stopD
    split
    · unfold stopLookD
      split
      · dsimp only
        split
        · exact (h0.tm _ _ _).size hf
        split
        · exact h0.size hf
        · exact h0.size hf
      · exact h0.size hf
    · exact ((h0.tm _ _ _).pc _ _ _).size hf
  · exact size_zero
theorem resetG_size (a b c d : Int) (M : Me) (h : Hd) : sizeM (resetG a b c d M h).m ≤ 1048576 := by
  unfold resetG
  split
  · rename_i hq
    have hf : MemFacts a b c M := by
      rw [resetQ, Bool.and_eq_true] at hq
      exact stepFit_facts hq.1
    have h0 := Near.refl M
    unfold resetD
    split
    · unfold resetLookD
      split
      · dsimp only
        split
        · exact h0.size hf
        split
        · exact (h0.tm _ _ _).size hf
        split
        · exact ((h0.tm _ _ _).pc _ _ _).size hf
        · exact (h0.tm _ _ _).size hf
      · exact h0.size hf
    · show sizeM (keyM ⟨M, h, et0⟩) ≤ 1048576
      unfold keyM
      dsimp only
      split
      · split
        · exact ((((h0.tm _ _ _).tm _ _ _).tm _ _ _).pc _ _ _).size hf
        · exact (((h0.tm _ _ _).tm _ _ _).tm _ _ _).size hf
      · exact (((h0.tm _ _ _).tm _ _ _).tm _ _ _).size hf
  · exact size_zero
theorem checkG_size (a b c d : Int) (M : Me) (h : Hd) : sizeM (checkG a b c d M h).m ≤ 1048576 := by
  unfold checkG
  split
  · rename_i hq
    have hf : MemFacts a b c M := by
      rw [checkQ, Bool.and_eq_true] at hq
      exact stepFit_facts hq.1
    have h0 := Near.refl M
    unfold checkD
    split
    · exact (near_lock ⟨M, h, et0⟩ d _ _).size hf
    split
    · exact (near_tidied M _).size hf
    split
    · unfold ringD
      dsimp only
      split
      · exact (near_rung M _).size hf
      split
      · exact h0.size hf
      split
      · exact h0.size hf
      split
      · split
        · exact h0.size hf
        · exact h0.size hf
      · exact h0.size hf
    split
    · exact (near_rearmed M _).size hf
    split
    · unfold tellD
      dsimp only
      split
      · exact (h0.tm _ _ _).size hf
      · exact h0.size hf
    · exact (near_unlock M d _).size hf
  · exact size_zero
theorem takeG_size (a b c d : Int) (M : Me) (h : Hd) : sizeM (takeG a b c d M h).m ≤ 1048576 := by
  unfold takeG
  split
  · rename_i hq
    have hf : MemFacts a b c M := by
      rw [takeQ, Bool.and_eq_true] at hq
      exact stepFit_facts hq.1
    have h0 := Near.refl M
    unfold takeD
    split
    · dsimp only
      split
      · exact h0.size hf
      · exact (h0.tm _ _ _).size hf
    · exact h0.size hf
  · exact size_zero

theorem unlock_le (M : Me) (d : Int) (k x : Nat) : ((unlockM M d k).p x).n ≤ (M.p x).n := by
  unfold unlockM
  split
  · exact setPc_le _ _ _ _ _
  · exact Nat.le_refl _
theorem moveG_size (a b c d : Int) (M : Me) (h : Hd) : sizeM (moveG a b c d M h).m ≤ 1048576 := by
  unfold moveG
  split
  · rename_i hq
    have hf : MemFacts a b c M := by
      rw [moveQ, Bool.and_eq_true] at hq
      exact stepFit_facts hq.1
    have h0 := Near.refl M
    unfold moveD
    split
    · exact (near_lock ⟨M, h, et0⟩ d _ _).size hf
    split
    · exact (near_lock ⟨M, h, et0⟩ d _ _).size hf
    split
    · unfold shiftD
      dsimp only
      split
      · exact (h0.pc _ _ _).size hf
      split
      · exact h0.size hf
      split
      · refine Near.size (M := M) ⟨rfl, rfl, rfl, fun x => ?_⟩ hf
        show ((dropM M _ 0 _).p x).n ≤ _
        unfold dropM
        rw [setPc_n, setTm_p, setTm_p]
        exact Nat.le_trans (pullM_n _ _ _ _) (Nat.le_succ _)
      · split
        · exact Near.size (M := M) ⟨rfl, rfl, rfl, fun x => Nat.le_trans (pushM_n _ _ _ _) (Nat.succ_le_succ (pullM_n _ _ _ _))⟩ hf
        · exact Near.size (M := M) ⟨rfl, rfl, rfl, fun x => Nat.le_trans (pushM_n _ _ _ _) (Nat.succ_le_succ (pullM_n _ _ _ _))⟩ hf
    · exact ((near_unlock M d _).trans0 (near_unlock (unlockM M d _) d _).tn (near_unlock (unlockM M d _) d _).pn (near_unlock (unlockM M d _) d _).c (fun k => unlock_le _ _ _ _)).size hf
  · exact size_zero
theorem anyG_size (a b c d : Int) (M : Me) (h : Hd) : sizeM (anyG a b c d M h).m ≤ 1048576 := by
  unfold anyG
  split
  · exact stopG_size a b c d M h
  split
  · exact resetG_size a b c d M h
  split
  · exact createG_size a b c d M h
  split
  · exact checkG_size a b c d M h
  split
  · exact moveG_size a b c d M h
  · exact takeG_size a b c d M h
theorem stepG_size (a b c d : Int) (M : Me) (h : Hd) : sizeM (stepG a b c d M h).m ≤ 1048576 := by
  unfold stepG
  split
  · exact anyG_size a b c d M h
  · exact size_zero

end Go.Proofs.YtflekodaiejflaaGreatDoor
