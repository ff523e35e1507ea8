/-
  Tidying up, in a memory of one's own (spec, chapter 6): armed.
-/
import Derived.Test.YtflekodaiejflaaGreatL12
import Derived.Test.YtflekodaiejflaaGreatL14
import Derived.Test.YtflekodaiejflaaGreatL10
import Derived.Deep.QuietTactic
import Derived.BigQuiet
import Derived.Deep.DeepCutAuto
import Derived.Test.YtflekodaiejflaaGreatL13
import Derived.Test.YtflekodaiejflaaGreatL00
namespace Go.Proofs.YtflekodaiejflaaGreat
open Go.RowKit Go.Joins
set_option linter.unusedVariables false
set_option linter.unusedSimpArgs false

set_option maxRecDepth 100000 in
set_option maxHeartbeats 8000000 in
theorem l6Armed_no {B k t : Nat} {tv pv : Value} {M : Me} {w : World} (hB : B ≤ w.heap.size) (hk : k < M.pn) (ht : t < M.tn) (hq : armedB M t = false) (h : OwnMem w B tv pv M) :
    Calls Tryz.prog 68 #[meV M.c tv pv, .int .i64 (t : Int), .int .i64 (k : Int)] w (InMeB B M false w) := by
  obtain ⟨pg, pc, V, rfl, ho⟩ := h.openP hk
  clear h
  obtain ⟨tg, tc, rfl, _⟩ := ho.tms ht
  obtain ⟨w1, e1, s1⟩ := MSt.start hB ho
  clear ho
  obtain ⟨T, hT⟩ : ∃ T, T = M.t t := ⟨_, rfl⟩
  have hq2 : (T.st == 2 && T.pl == -1) = false := by rw [hT]; exact hq
  obtain ⟨⟨t0, _, _, _, t4, _⟩, tf⟩ := s1.tcells (t := t) ht hT.symm
  have i4 : (0 : Int) ≤ (t : Int) := by omega
  have i5 : (t : Int) < (M.tn : Int) := by omega
  obtain ⟨⟨x0, x1, x2, xf0, xf1, xf2⟩, y0, y1, y2, yf0, yf1, yf2⟩ := s1.cells
  clear hT hq tf
  by_cases c1 : T.st = 2
  · have c1b : (T.st != 2) = false := by rw [c1]; rfl
    have c2 : (T.pl != -1) = true := by rw [c1] at hq2; simpa using hq2
    clear c1 hq2
    go_enter Tryz.func68, Tryz.ntmps68
    go_upto_region 1 with fail
    rw [← e1.out]
    clear e1
    go_wp2
    exact bodyPost_ret (v := .tuple #[meV M.c (.slice (some ⟨tg, 0, none⟩) M.tn tc) (.slice (some ⟨pg, 0, none⟩) M.pn pc), .bool false]) (by simp [results, Tryz.results68, go_sem, y0, y1, y2]) rfl (s1.retB false _ _ _)
  · have c1b : (T.st != 2) = true := by simpa using c1
    clear c1 hq2
    go_enter Tryz.func68, Tryz.ntmps68
    go_upto_region 1 with fail
    rw [← e1.out]
    clear e1
    go_wp2
    exact bodyPost_ret (v := .tuple #[meV M.c (.slice (some ⟨tg, 0, none⟩) M.tn tc) (.slice (some ⟨pg, 0, none⟩) M.pn pc), .bool false]) (by simp [results, Tryz.results68, go_sem, y0, y1, y2]) rfl (s1.retB false _ _ _)

set_option maxRecDepth 100000 in
set_option maxHeartbeats 8000000 in
theorem l6Armed_yes {B k t : Nat} {tv pv : Value} {M : Me} {w : World} (hB : B ≤ w.heap.size) (hk : k < M.pn) (hn : (M.p k).n ≤ 1048576) (ht : t < M.tn) (hq : armedB M t = true) (h : OwnMem w B tv pv M) :
    Calls Tryz.prog 68 #[meV M.c tv pv, .int .i64 (t : Int), .int .i64 (k : Int)] w (InMeB B (pushM M t k) true w) := by
  obtain ⟨pg, pc, V, rfl, ho⟩ := h.openP hk
  clear h
  obtain ⟨tg, tc, rfl, _⟩ := ho.tms ht
  obtain ⟨w1, e1, s1⟩ := MSt.start hB ho
  clear ho
  have hc := hq
  simp only [armedB, Bool.and_eq_true, beq_iff_eq] at hc
  obtain ⟨⟨t0, _, _, _, t4, _⟩, tf⟩ := s1.tcells (t := t) ht rfl
  rw [hc.1] at t0
  rw [hc.2] at t4
  have i4 : (0 : Int) ≤ (t : Int) := by omega
  have i5 : (t : Int) < (M.tn : Int) := by omega
  obtain ⟨⟨x0, x1, x2, xf0, xf1, xf2⟩, y0, y1, y2, yf0, yf1, yf2⟩ := s1.cells
  clear hq hc tf
  go_enter Tryz.func68, Tryz.ntmps68
  go_upto_region 1 with fail
  rw [← e1.out]
  clear e1
  go_wp2_with fail
  go_at_call 94; refine (l6Push_any (B := B) s1.size.2 ht hk hn s1.own).mono ?_; intro x w5 hx
  obtain ⟨tg5, tc5, pg5, pc5, V5, rfl, ho5, hk5⟩ := hx.formT (c := M.c) (pn := M.pn) (tn := M.tn) rfl rfl rfl hk ht
  obtain ⟨_, z0, z1, z2, zf0, zf1, zf2⟩ := s1.blockA hk5
  clear hx x0 x1 x2 xf0 xf1 xf2 y0 y1 y2 yf0 yf1 yf2 t0 t4
  go_wp2
  exact bodyPost_ret (v := .tuple #[meV M.c (.slice (some ⟨tg5, 0, none⟩) M.tn tc5) (.slice (some ⟨pg5, 0, none⟩) M.pn pc5), .bool true]) (by simp [results, Tryz.results68, go_sem, z0, z1, z2]) rfl (s1.retCallB (M' := pushM M t k) ho5.own hk5 true _ _ _)

theorem l6Armed_any {B k t : Nat} {tv pv : Value} {M : Me} {w : World} (hB : B ≤ w.heap.size) (hk : k < M.pn) (hn : (M.p k).n ≤ 1048576) (ht : t < M.tn) (h : OwnMem w B tv pv M) :
    Calls Tryz.prog 68 #[meV M.c tv pv, .int .i64 (t : Int), .int .i64 (k : Int)] w (InMeB B (armedM M t k) (armedB M t) w) := by
  cases hq : armedB M t
  · rw [show armedM M t k = M by rw [armedM, hq]; rfl]
    exact l6Armed_no hB hk ht hq h
  · rw [show armedM M t k = pushM M t k by rw [armedM, if_pos hq]]
    exact l6Armed_yes hB hk hn ht hq h

end Go.Proofs.YtflekodaiejflaaGreat

/-
  A timer comes into its heap (spec, chapter 9).
-/
namespace Go.Proofs.YtflekodaiejflaaGreat
open Go.Deep Go.ChangeShapes Go.WideShapes Go.ChangeAt Go.RowKit Go.Joins
set_option linter.unusedVariables false
set_option linter.unusedSimpArgs false

theorem own_zero (w : World) (B : Nat) : OwnMem w B (.slice none 0 0) (.slice none 0 0) me0 := ⟨.inl ⟨rfl, rfl⟩, .inl ⟨rfl, rfl⟩⟩
section
variable {w0 w w' : World} {B A R pg pn pc : Nat} {c : Int} {tv : Value} {V : Nat → Value} {M : Me} {h : Hd} {v : Et}
theorem DSt.zeroC (s : DSt w0 w B A R c tv pg pn pc V M h v) : InDnB B dn0 false w0 (.returned (.tuple #[.agg #[.int .i64 0, .slice none 0 0, .slice none 0 0, .int .i64 0, .int .i64 0, .int .i64 0, .int .i64 0, .int .i64 0, .int .i64 0, .int .i64 0, .bool false, .int .i64 0, .int .i64 0, .int .i64 0, .int .i64 0, .int .i64 0, .int .i64 0, .int .i64 0, .int .i64 0, .int .i64 0], .bool false])) (w.setCells R 0 [.int .i64 0, .slice none 0 0, .slice none 0 0, .int .i64 0, .int .i64 0, .int .i64 0, .int .i64 0, .int .i64 0, .int .i64 0, .int .i64 0, .bool false, .int .i64 0, .int .i64 0, .int .i64 0, .int .i64 0, .int .i64 0, .int .i64 0, .int .i64 0, .int .i64 0, .int .i64 0]) :=
  ⟨_, _, rfl, own_zero _ _, wk_setCells s.b s.lr _ 0 s.k⟩
theorem DSt.zlies (s : DSt w0 w B A R c tv pg pn pc V M h v) : (w.setCells R 0 [.int .i64 0, .slice none 0 0, .slice none 0 0, .int .i64 0, .int .i64 0, .int .i64 0, .int .i64 0, .int .i64 0, .int .i64 0, .int .i64 0, .bool false, .int .i64 0, .int .i64 0, .int .i64 0, .int .i64 0, .int .i64 0, .int .i64 0, .int .i64 0, .int .i64 0, .int .i64 0]).rangeAt R 0 [.int .i64 0, .slice none 0 0, .slice none 0 0, .int .i64 0, .int .i64 0, .int .i64 0, .int .i64 0, .int .i64 0, .int .i64 0, .int .i64 0, .bool false, .int .i64 0, .int .i64 0, .int .i64 0, .int .i64 0, .int .i64 0, .int .i64 0, .int .i64 0, .int .i64 0, .int .i64 0] := by
  have ht : w.there R 0 20 := there_of_block s.r
  exact World.rangeAt_setCells_same _ _ _ _ ht
/-- what a call answered comes into the parameter's block -/
theorem DSt.call {pg' pc' : Nat} {tv' : Value} {V' : Nat → Value} {M' : Me} (s : DSt w0 w B A R c tv pg pn pc V M h v) (ho : OpenMem w' B tv' pg' pc' V' M') (hk : Wk B w w') (hc : M'.c = c) (hp : M'.pn = pn) :
    ∃ wq, RowKit.Hid (wq = ((w'.setCell ⟨A, 0, none⟩ (.int .i64 c)).setCell ⟨A, 1, none⟩ tv').setCell ⟨A, 2, none⟩ (.slice (some ⟨pg', 0, none⟩) pn pc')) ∧ DSt w0 wq B A R c tv' pg' pn pc' V' M' h v := by
  have hA := hk.kept s.a (by decide)
  have ha := block_setCell (i := 2) (block_setCell (i := 1) (block_setCell (i := 0) hA (.int .i64 c)) tv') (.slice (some ⟨pg', 0, none⟩) pn pc')
  simp only [List.setIfInBounds_toArray, List.set_cons_zero, List.set_cons_succ] at ha
  exact ⟨_, Lib.hid rfl, ho.other hA (by decide) (by decide) (by decide) (fun y hy => heap_set3 w' A _ _ _ hy), (s.k.trans hk).setNew3 s.b s.la _ _ _, ha, (heap_set3 w' A _ _ _ (Ne.symm s.ne)).trans (hk.kept s.r (by decide)), s.b, s.la, s.lr, s.ne, hc, hp⟩
end
theorem results_pair {P : Program} {fn : Func} {sl sb : Tmp} {T : TypeId} {tmps : Array Value} {w : World} {b : Nat} {cs : List Value} {d : TypeDesc} {x : Value} (hr : fn.results = #[.cell sl T, .tmp sb]) (ht : tmps.getD sl undef = .pointer (some ⟨b, 0, none⟩)) (hb : tmps.getD sb undef = x) (hc : w.rangeAt b 0 cs)
    (hu : P.underlying T = some d) (hd : d.isRow = true) (hi : (P.info? T).map (·.size) = some cs.length) : (results fn tmps).run P w = .ok (.tuple #[.agg cs.toArray, x]) w := by
  have hl := run_loadVar_mid w b 0 T cs d hc hu hd hi
  have ht2 : tmps[sl]?.getD undef = .pointer (some ⟨b, 0, none⟩) := by simpa using ht
  have hb2 : tmps[sb]?.getD undef = x := by simpa using hb
  simp [results, hr, ht2, hb2, asAddr, hl]

set_option maxRecDepth 100000 in
set_option maxHeartbeats 8000000 in
theorem l9Push_neg {B k : Nat} {tv pv : Value} {M : Me} {h : Hd} {v : Et} {w : World} (hB : B ≤ w.heap.size) (hk : k < M.pn) (hq : h.tim < 0) (hm : OwnMem w B tv pv M) :
    Calls Tryz.prog 38 #[dnV ⟨M, h, v⟩ tv pv, .int .i64 (k : Int)] w (InDnB B (if pushOk ⟨M, h, v⟩ then pushD ⟨M, h, v⟩ k else dn0) (pushOk ⟨M, h, v⟩) w) := by
  obtain ⟨pg, pc, V, rfl, ho⟩ := hm.openP hk
  clear hm
  obtain ⟨ta, tc, hta⟩ := ho.t.row.form
  subst hta
  obtain ⟨w1, e1, s1⟩ := DSt.start h v hB ho
  clear ho
  obtain ⟨x0, x1, x2, x3, x4, x5, x6, x7, x8, _⟩ := s1.cellsA
  have E2 := Lib.hid (show pushOk ⟨M, h, v⟩ = false by simp [pushOk]; omega)
  rw [show InDnB B (if pushOk ⟨M, h, v⟩ then pushD ⟨M, h, v⟩ k else dn0) (pushOk ⟨M, h, v⟩) w = InDnB B dn0 false w by rw [E2.out]; rfl]
  clear E2
  have hb : decide (h.tim < 0) = true := by simpa using hq
  clear hq
  go_enter Tryz.func38, Tryz.ntmps38
  go_upto_region 1 with fail
  rw [← e1.out]
  clear e1
  go_upto_region 3 with fail
  refine wp_region_lit ?_
  refine wpList_plain rfl fun K0 hK0 => ?_
  go_simp
  refine hK0 _ _ ?_
  clear hK0 K0
  refine wpList_store_mid (by rfl) 43 _ _ (by rfl) _ 0 #[.int .i64 0, .slice none 0 0, .slice none 0 0, .int .i64 0, .int .i64 0, .int .i64 0, .int .i64 0, .int .i64 0, .int .i64 0, .int .i64 0, .bool false, .int .i64 0, .int .i64 0, .int .i64 0, .int .i64 0, .int .i64 0, .int .i64 0, .int .i64 0, .int .i64 0, .int .i64 0] (by rfl) (by rfl) s1.there done_info (by simp [Value.oneCell']) ?_
  go_wp2
  exact bodyPost_ret (v := .tuple #[.agg #[.int .i64 0, .slice none 0 0, .slice none 0 0, .int .i64 0, .int .i64 0, .int .i64 0, .int .i64 0, .int .i64 0, .int .i64 0, .int .i64 0, .bool false, .int .i64 0, .int .i64 0, .int .i64 0, .int .i64 0, .int .i64 0, .int .i64 0, .int .i64 0, .int .i64 0, .int .i64 0], .bool false]) (results_pair (cs := [.int .i64 0, .slice none 0 0, .slice none 0 0, .int .i64 0, .int .i64 0, .int .i64 0, .int .i64 0, .int .i64 0, .int .i64 0, .int .i64 0, .bool false, .int .i64 0, .int .i64 0, .int .i64 0, .int .i64 0, .int .i64 0, .int .i64 0, .int .i64 0, .int .i64 0, .int .i64 0]) rfl rfl rfl s1.zlies Tryz.underlying43 rfl done_info) rfl s1.zeroC

set_option maxRecDepth 100000 in
set_option maxHeartbeats 8000000 in
theorem l9Push_no {B k t : Nat} {tv pv : Value} {M : Me} {h : Hd} {v : Et} {w : World} (hB : B ≤ w.heap.size) (hk : k < M.pn) (ht : t < M.tn) (het : h.tim = (t : Int)) (hq : armedB M t = false) (hm : OwnMem w B tv pv M) :
    Calls Tryz.prog 38 #[dnV ⟨M, h, v⟩ tv pv, .int .i64 (k : Int)] w (InDnB B (if pushOk ⟨M, h, v⟩ then pushD ⟨M, h, v⟩ k else dn0) (pushOk ⟨M, h, v⟩) w) := by
  obtain ⟨pg, pc, V, rfl, ho⟩ := hm.openP hk
  clear hm
  obtain ⟨tg, tc, rfl, _⟩ := ho.tms ht
  obtain ⟨w1, e1, s1⟩ := DSt.start h v hB ho
  clear ho
  obtain ⟨x0, x1, x2, x3, x4, x5, x6, x7, x8, _⟩ := s1.cellsA
  obtain ⟨⟨t0, t1, t2, t3, t4, t5, t6, t7⟩, _⟩ := s1.tcells ht rfl
  have E2 := Lib.hid (show pushOk ⟨M, h, v⟩ = false by simp only [pushOk, het, Int.toNat_natCast, hq, Bool.and_false])
  rw [show InDnB B (if pushOk ⟨M, h, v⟩ then pushD ⟨M, h, v⟩ k else dn0) (pushOk ⟨M, h, v⟩) w = InDnB B dn0 false w by rw [E2.out]; rfl]
  clear E2
  rw [het] at x8
  have hb : decide ((t : Int) < 0) = false := by simp
  have i0 : (0 : Int) ≤ (t : Int) := by omega
  have i1 : (t : Int) < (M.tn : Int) := by omega
  clear het
  by_cases hs : (M.t t).st = 2
  case neg =>
    have hs1 : ((M.t t).st == 2) = false := by simpa using hs
    have hs2 : ((M.t t).st != 2) = true := by simpa using hs
    clear hs hq
    go_enter Tryz.func38, Tryz.ntmps38
    go_upto_region 1 with fail
    rw [← e1.out]
    clear e1
    go_upto_region 3 with fail
    refine wp_region_lit ?_
    refine wpList_plain rfl fun K0 hK0 => ?_
    go_simp
    refine hK0 _ _ ?_
    clear hK0 K0
    refine wpList_store_mid (by rfl) 43 _ _ (by rfl) _ 0 #[.int .i64 0, .slice none 0 0, .slice none 0 0, .int .i64 0, .int .i64 0, .int .i64 0, .int .i64 0, .int .i64 0, .int .i64 0, .int .i64 0, .bool false, .int .i64 0, .int .i64 0, .int .i64 0, .int .i64 0, .int .i64 0, .int .i64 0, .int .i64 0, .int .i64 0, .int .i64 0] (by rfl) (by rfl) s1.there done_info (by simp [Value.oneCell']) ?_
    go_wp2
    exact bodyPost_ret (v := .tuple #[.agg #[.int .i64 0, .slice none 0 0, .slice none 0 0, .int .i64 0, .int .i64 0, .int .i64 0, .int .i64 0, .int .i64 0, .int .i64 0, .int .i64 0, .bool false, .int .i64 0, .int .i64 0, .int .i64 0, .int .i64 0, .int .i64 0, .int .i64 0, .int .i64 0, .int .i64 0, .int .i64 0], .bool false]) (results_pair (cs := [.int .i64 0, .slice none 0 0, .slice none 0 0, .int .i64 0, .int .i64 0, .int .i64 0, .int .i64 0, .int .i64 0, .int .i64 0, .int .i64 0, .bool false, .int .i64 0, .int .i64 0, .int .i64 0, .int .i64 0, .int .i64 0, .int .i64 0, .int .i64 0, .int .i64 0, .int .i64 0]) rfl rfl rfl s1.zlies Tryz.underlying43 rfl done_info) rfl s1.zeroC

  have hp : ¬ (M.t t).pl = -1 := fun e => by simp [armedB, hs, e] at hq
  have hp1 : ((M.t t).pl == -1) = false := by simpa using hp
  have hp2 : ((M.t t).pl != -1) = true := by simpa using hp
  rw [hs] at t0
  clear hs hp hq
  go_enter Tryz.func38, Tryz.ntmps38
  go_upto_region 1 with fail
  rw [← e1.out]
  clear e1
  go_upto_region 3 with fail
  refine wp_region_lit ?_
  refine wpList_plain rfl fun K0 hK0 => ?_
  go_simp
  refine hK0 _ _ ?_
  clear hK0 K0
  refine wpList_store_mid (by rfl) 43 _ _ (by rfl) _ 0 #[.int .i64 0, .slice none 0 0, .slice none 0 0, .int .i64 0, .int .i64 0, .int .i64 0, .int .i64 0, .int .i64 0, .int .i64 0, .int .i64 0, .bool false, .int .i64 0, .int .i64 0, .int .i64 0, .int .i64 0, .int .i64 0, .int .i64 0, .int .i64 0, .int .i64 0, .int .i64 0] (by rfl) (by rfl) s1.there done_info (by simp [Value.oneCell']) ?_
  go_wp2
  exact bodyPost_ret (v := .tuple #[.agg #[.int .i64 0, .slice none 0 0, .slice none 0 0, .int .i64 0, .int .i64 0, .int .i64 0, .int .i64 0, .int .i64 0, .int .i64 0, .int .i64 0, .bool false, .int .i64 0, .int .i64 0, .int .i64 0, .int .i64 0, .int .i64 0, .int .i64 0, .int .i64 0, .int .i64 0, .int .i64 0], .bool false]) (results_pair (cs := [.int .i64 0, .slice none 0 0, .slice none 0 0, .int .i64 0, .int .i64 0, .int .i64 0, .int .i64 0, .int .i64 0, .int .i64 0, .int .i64 0, .bool false, .int .i64 0, .int .i64 0, .int .i64 0, .int .i64 0, .int .i64 0, .int .i64 0, .int .i64 0, .int .i64 0, .int .i64 0]) rfl rfl rfl s1.zlies Tryz.underlying43 rfl done_info) rfl s1.zeroC


theorem DSt.tlt {w0 w : World} {B A R pg pn pc tg n tc t : Nat} {c : Int} {V : Nat → Value} {M : Me} {h : Hd} {v : Et} (s : DSt w0 w B A R c (.slice (some ⟨tg, 0, none⟩) n tc) pg pn pc V M h v) (ht : t < M.tn) : tg < w.heap.size := by
  have hn := s.o.t.len
  subst hn
  exact s.o.t.at.lt
set_option maxRecDepth 100000 in
set_option maxHeartbeats 16000000 in
theorem l9Push_yes {B k t : Nat} {tv pv : Value} {M : Me} {h : Hd} {v : Et} {w : World} (hB : B ≤ w.heap.size) (hk : k < M.pn) (hn : (M.p k).n ≤ 1048576) (ht : t < M.tn) (het : h.tim = (t : Int)) (hq : armedB M t = true) (hg0 : 0 ≤ (M.t t).ge) (hg1 : (M.t t).ge ≤ 100000) (hm : OwnMem w B tv pv M) :
    Calls Tryz.prog 38 #[dnV ⟨M, h, v⟩ tv pv, .int .i64 (k : Int)] w (InDnB B (if pushOk ⟨M, h, v⟩ then pushD ⟨M, h, v⟩ k else dn0) (pushOk ⟨M, h, v⟩) w) := by
  obtain ⟨PM, hPM⟩ : ∃ PM, pushM (genM (keyedM ⟨M, h, v⟩) t) t k = PM := ⟨_, rfl⟩
  have ec : PM.c = M.c := by rw [← hPM]; unfold keyedM; split <;> rfl
  have ep : PM.pn = M.pn := by rw [← hPM]; unfold keyedM; split <;> rfl
  have et : PM.tn = M.tn := by rw [← hPM]; unfold keyedM; split <;> rfl
  have hk5' : k < PM.pn := by rw [ep]; exact hk
  have ht5 : t < PM.tn := by rw [et]; exact ht
  have hKn : (keyedM ⟨M, h, v⟩).tn = M.tn := by unfold keyedM; split <;> rfl
  have hKg : ((keyedM ⟨M, h, v⟩).t t).ge = (M.t t).ge := by unfold keyedM; split <;> simp [het, setTm_at, tmSet]
  have hKa : armedB (keyedM ⟨M, h, v⟩) t = true := by rw [← hq]; unfold keyedM; split <;> simp [armedB, het, setTm_at, tmSet]
  have hkg : k < (genM (keyedM ⟨M, h, v⟩) t).pn := by unfold keyedM; split <;> exact hk
  have eGc : (genM (keyedM ⟨M, h, v⟩) t).c = M.c := by unfold keyedM; split <;> rfl
  have hn2 : ((genM (keyedM ⟨M, h, v⟩) t).p k).n ≤ 1048576 := by unfold keyedM; split <;> exact hn
  have htg : t < (genM (keyedM ⟨M, h, v⟩) t).tn := by unfold keyedM; split <;> exact ht
  have hq2 : armedB (genM (keyedM ⟨M, h, v⟩) t) t = true := by rw [← hKa]; simp [armedB, genM, setTm_at, tmSet]
  rw [← hKg] at hg0 hg1
  have E2 : pushOk ⟨M, h, v⟩ = true := by simp [pushOk, het, hq]
  rw [show InDnB B (if pushOk ⟨M, h, v⟩ then pushD ⟨M, h, v⟩ k else dn0) (pushOk ⟨M, h, v⟩) w = InDnB B ⟨PM, (⟨4, h.call, h.tim, h.whe, h.had, h.cnt, h.beg, h.rep, h.out⟩ : Hd), evI PM 1 t (PM.t t).wh⟩ true w by
    rw [E2, if_pos rfl, pushD, pushedM]; simp only [het, Int.toNat_natCast, hPM]]
  have HPM := Lib.hid hPM
  have HK := Lib.hid (show (h.call.code = 3 → keyedM ⟨M, h, v⟩ = setTm M t 1 h.whe) ∧ (¬ h.call.code = 3 → keyedM ⟨M, h, v⟩ = M) from ⟨fun hc => by rw [keyedM, if_pos hc, het, Int.toNat_natCast], fun hc => by rw [keyedM, if_neg hc]⟩)
  clear hPM E2 hKg hKa
  have hPM := HPM.out
  obtain ⟨hs, hp⟩ : (M.t t).st = 2 ∧ (M.t t).pl = -1 := by simpa [armedB] using hq
  clear hq
  obtain ⟨pg, pc, V, rfl, ho⟩ := hm.openP hk
  clear hm
  obtain ⟨tg, tc, rfl, _⟩ := ho.tms ht
  obtain ⟨w1, e1, s1⟩ := DSt.start h v hB ho
  clear ho
  obtain ⟨x0, x1, x2, x3, x4, x5, x6, x7, x8, x9, _⟩ := s1.cellsA
  obtain ⟨⟨t0, t1, t2, t3, t4, t5, t6, t7⟩, tf⟩ := s1.tcells ht rfl
  have tf1 := tf (t * 8 + 1)
  rw [het] at x8
  rw [hs] at t0
  rw [hp] at t4
  have hb : decide ((t : Int) < 0) = false := by simp
  have i0 : (0 : Int) ≤ (t : Int) := by omega
  have i1 : (t : Int) < (M.tn : Int) := by omega
  clear hs hp tf hPM het
  by_cases hc : h.call.code = 3
  case pos =>
    have hcb : (h.call.code == 3) = true := by simpa using hc
    have hK := (HK.out).1 hc
    obtain ⟨w2, e2, s2⟩ := s1.setT (t := t) 1 ht (by decide) h.whe
    rw [← hK] at s2
    clear hc hK
    go_enter Tryz.func38, Tryz.ntmps38
    go_upto_region 1 with fail
    rw [← e1.out]
    clear e1
    go_upto_region 6 with fail
    rw [← e2.out]
    clear e2 x0 x1 x2 x3 x4 x5 x6 x7 x8 x9 t0 t1 t2 t3 t4 t5 t6 t7 tf1 s1 hcb
    have ht2 : t < (keyedM ⟨M, h, v⟩).tn := by rw [hKn]; exact ht
    obtain ⟨⟨_, _, _, _, _, g5, _, _⟩, tf⟩ := s2.tcells ht2 rfl
    obtain ⟨G, hG⟩ : ∃ G, ((keyedM ⟨M, h, v⟩).t t).ge = G := ⟨_, rfl⟩
    rw [hG] at g5 hg0 hg1
    have hwr : IntKind.i64.wrap (G + 1) = G + 1 := by rw [IntKind.wrap_i64]; omega
    have HG := Lib.hid hG
    clear hG
    have tf5 := tf (t * 8 + 5)
    obtain ⟨_, y1, _⟩ := s2.cellsA
    have lg := s2.size
    clear tf
    refine wp_region_T (fun w' => w'.cell? ⟨w.heap.size, 1, none⟩ = some (.slice (some ⟨tg, 0, none⟩) M.tn tc) ∧ w'.cell? ⟨tg, t * 8 + 5, none⟩ = some (.int .i64 G)) 15 (by kernel_rfl) ?_
    have hS : w2.drew.cell? ⟨w.heap.size, 1, none⟩ = some (.slice (some ⟨tg, 0, none⟩) M.tn tc) ∧ w2.drew.cell? ⟨tg, t * 8 + 5, none⟩ = some (.int .i64 G) := ⟨y1, g5⟩
    clear y1
    refine wpAnyT_take (i := 0) (v := ?v0_1) rfl (by kernel_rfl) (by kernel_rfl) (by kernel_rfl) (by kernel_rfl) (fun _ _ _ h => h) (Or.inl ⟨by rfl, ?hy0_1⟩) hS ?rest0_1
    case hy0_1 => intro w' hSw; obtain ⟨s0, s1⟩ := hSw; go_simp; try with_reducible rfl
    simp only [Act.put, List.setIfInBounds_toArray, List.set_cons_zero, List.set_cons_succ]
    refine wpAnyT_take (i := 1) (v := ?v1_2) rfl (by kernel_rfl) (by kernel_rfl) (by kernel_rfl) (by kernel_rfl) (fun _ _ _ h => h) (Or.inl ⟨by rfl, ?hy1_2⟩) hS ?rest1_2
    case hy1_2 => intro w' hSw; obtain ⟨s0, s1⟩ := hSw; go_simp; try with_reducible rfl
    simp only [Act.put, List.setIfInBounds_toArray, List.set_cons_zero, List.set_cons_succ]
    refine wpAnyT_take (i := 2) (v := ?v2_3) rfl (by kernel_rfl) (by kernel_rfl) (by kernel_rfl) (by kernel_rfl) (fun _ _ _ h => h) (Or.inl ⟨by rfl, ?hy2_3⟩) hS ?rest2_3
    case hy2_3 => intro w' hSw; obtain ⟨s0, s1⟩ := hSw; go_simp; try with_reducible rfl
    simp only [Act.put, List.setIfInBounds_toArray, List.set_cons_zero, List.set_cons_succ]
    refine wpAnyT_take (i := 3) (v := ?v3_4) rfl (by kernel_rfl) (by kernel_rfl) (by kernel_rfl) (by kernel_rfl) (fun _ _ _ h => h) (Or.inl ⟨by rfl, ?hy3_4⟩) hS ?rest3_4
    case hy3_4 => intro w' hSw; obtain ⟨s0, s1⟩ := hSw; go_simp; try with_reducible rfl
    simp only [Act.put, List.setIfInBounds_toArray, List.set_cons_zero, List.set_cons_succ]
    refine wpAnyT_take (i := 4) (v := ?v4_5) rfl (by kernel_rfl) (by kernel_rfl) (by kernel_rfl) (by kernel_rfl) (fun _ _ _ h => h) (Or.inl ⟨by rfl, ?hy4_5⟩) hS ?rest4_5
    case hy4_5 => intro w' hSw; obtain ⟨s0, s1⟩ := hSw; go_simp; try with_reducible rfl
    simp only [Act.put, List.setIfInBounds_toArray, List.set_cons_zero, List.set_cons_succ]
    refine wpAnyT_take (i := 5) (v := ?v5_6) rfl (by kernel_rfl) (by kernel_rfl) (by kernel_rfl) (by kernel_rfl) (fun _ _ _ h => h) (Or.inl ⟨by rfl, ?hy5_6⟩) hS ?rest5_6
    case hy5_6 => intro w' hSw; obtain ⟨s0, s1⟩ := hSw; go_simp; try with_reducible rfl
    simp only [Act.put, List.setIfInBounds_toArray, List.set_cons_zero, List.set_cons_succ]
    refine wpAnyT_take (i := 6) (v := ?v6_7) rfl (by kernel_rfl) (by kernel_rfl) (by kernel_rfl) (by kernel_rfl) (fun _ _ _ h => h) (Or.inl ⟨by rfl, ?hy6_7⟩) hS ?rest6_7
    case hy6_7 => intro w' hSw; obtain ⟨s0, s1⟩ := hSw; go_simp; try with_reducible rfl
    simp only [Act.put, List.setIfInBounds_toArray, List.set_cons_zero, List.set_cons_succ]
    refine wpAnyT_take (i := 7) (v := ?v7_8) rfl (by kernel_rfl) (by kernel_rfl) (by kernel_rfl) (by kernel_rfl) (fun _ _ _ h => h) (Or.inl ⟨by rfl, ?hy7_8⟩) hS ?rest7_8
    case hy7_8 => intro w' hSw; obtain ⟨s0, s1⟩ := hSw; go_simp; try with_reducible rfl
    simp only [Act.put, List.setIfInBounds_toArray, List.set_cons_zero, List.set_cons_succ]
    refine wpAnyT_take (i := 8) (v := ?v8_9) rfl (by kernel_rfl) (by kernel_rfl) (by kernel_rfl) (by kernel_rfl) (fun _ _ _ h => h) (Or.inl ⟨by rfl, ?hy8_9⟩) hS ?rest8_9
    case hy8_9 => intro w' hSw; obtain ⟨s0, s1⟩ := hSw; go_simp; try with_reducible rfl
    simp only [Act.put, List.setIfInBounds_toArray, List.set_cons_zero, List.set_cons_succ]
    refine wpAnyT_take (i := 9) (v := ?v9_10) rfl (by kernel_rfl) (by kernel_rfl) (by kernel_rfl) (by kernel_rfl) (fun _ _ _ h => h) (Or.inl ⟨by rfl, ?hy9_10⟩) hS ?rest9_10
    case hy9_10 => intro w' hSw; obtain ⟨s0, s1⟩ := hSw; go_simp; try with_reducible rfl
    simp only [Act.put, List.setIfInBounds_toArray, List.set_cons_zero, List.set_cons_succ]
    refine wpAnyT_take (i := 10) (v := ?v10_11) rfl (by kernel_rfl) (by kernel_rfl) (by kernel_rfl) (by kernel_rfl) (fun _ _ _ h => h) (Or.inl ⟨by rfl, ?hy10_11⟩) hS ?rest10_11
    case hy10_11 => intro w' hSw; obtain ⟨s0, s1⟩ := hSw; go_simp; try with_reducible rfl
    simp only [Act.put, List.setIfInBounds_toArray, List.set_cons_zero, List.set_cons_succ]
    refine wpAnyT_take (i := 11) (v := ?v11_12) rfl (by kernel_rfl) (by kernel_rfl) (by kernel_rfl) (by kernel_rfl) (fun _ _ _ h => h) (Or.inl ⟨by rfl, ?hy11_12⟩) hS ?rest11_12
    case hy11_12 => intro w' hSw; obtain ⟨s0, s1⟩ := hSw; go_simp; try with_reducible rfl
    simp only [Act.put, List.setIfInBounds_toArray, List.set_cons_zero, List.set_cons_succ]
    (try simp only [hwr])
    refine wpAnyT_one (i := 12) (by kernel_rfl) rfl (by rfl) fun K hK => ?_
    go_simp
    go_at_call 67; refine (l1Min_any _ _ _).mono ?_; rintro x wp ⟨rfl, rfl⟩
    refine hK _ _ (.inr hS) ?_
    clear hK K
    (try simp only [Act.put, List.setIfInBounds_toArray, List.set_cons_zero, List.set_cons_succ])
    refine wpAnyT_one (i := 13) (by kernel_rfl) rfl (by rfl) fun K hK => ?_
    go_simp
    refine hK _ _ (.inr hS) ?_
    clear hK K
    (try simp only [Act.put, List.setIfInBounds_toArray, List.set_cons_zero, List.set_cons_succ])
    refine wpAnyT_take (i := 14) (v := ?v14_13) rfl (by kernel_rfl) (by kernel_rfl) (by kernel_rfl) (by kernel_rfl) (fun _ _ _ h => h) (Or.inl ⟨by rfl, ?hy14_13⟩) hS ?rest14_13
    case hy14_13 => intro w' hSw; obtain ⟨s0, s1⟩ := hSw; go_simp; try with_reducible rfl
    simp only [Act.put, List.setIfInBounds_toArray, List.set_cons_zero, List.set_cons_succ]
    obtain ⟨w3a, e3, s3a⟩ := s2.setT (t := t) 5 ht2 (by decide) (minI (G + 1) 100000)
    have s3 := s3a.drew
    have g5d : w2.drew.cell? ⟨tg, t * 8 + 5, none⟩ = some (.int .i64 G) := g5
    have tf5d : w2.drew.frozen? ⟨tg, t * 8 + 5, none⟩ = false := tf5
    refine wpAnyT_one (i := 15) (by kernel_rfl) rfl (by rfl) fun K hK => ?_
    go_simp
    refine hK _ _ (.inl rfl) ?_
    clear hK K
    refine wpAnyT_done (by kernel_rfl) ?_ _
    rw [← e3.out]
    clear s3a e3
    generalize w3a.drew = w3 at s3 ⊢
    clear w3a hS g5 g5d tf5 tf5d
    have hPM0 : setTm (keyedM ⟨M, h, v⟩) t 5 (minI (G + 1) 100000) = genM (keyedM ⟨M, h, v⟩) t := by rw [genM, HG.out]
    rw [hPM0] at s3
    clear hPM0 HG
    obtain ⟨x0, x1, x2, x3, x4, x5, x6, x7, x8, x9, x10, x11, x12, x13, x14, x15, x16, x17, x18, x19, xf0, xf1, xf2, xf3, xf4, xf5, xf6, xf7, xf8, xf9, xf10, xf11, xf12, xf13, xf14, xf15, xf16, xf17, xf18, xf19⟩ := s3.cellsA
    go_wp2_with fail
    have hAr := l6Armed_yes s3.size.1 hkg hn2 htg hq2 s3.own
    rw [eGc, HPM.out] at hAr
    go_at_call 68; refine hAr.mono ?_
    rintro x w4 hI
    clear hAr
    obtain ⟨tv5, pv5, hx, ho5, hk5⟩ := hI
    obtain ⟨pg5, pc5, V5, rfl, oo5⟩ := ho5.openP (k := k) hk5'
    clear ho5
    obtain ⟨tg5, tc5, rfl, _⟩ := oo5.tms (k := t) ht5
    rw [ec, ep, et] at hx
    rw [et] at oo5
    subst hx
    have kA := (Below.refl w4.heap.size w4).alloc (Nat.le_refl _) (memO M.c (.slice (some ⟨tg5, 0, none⟩) M.tn tc5) (.slice (some ⟨pg5, 0, none⟩) M.pn pc5) 36)
    have hM := heap_alloc_new w4 (memO M.c (.slice (some ⟨tg5, 0, none⟩) M.tn tc5) (.slice (some ⟨pg5, 0, none⟩) M.pn pc5) 36)
    have lMb : w.heap.size + 1 < w4.heap.size := Nat.lt_of_lt_of_le s3.size.2.2 hk5.below.size
    have hk5b := hk5.new kA s3.size.1
    have hA5 := hk5b.kept s3.a (by decide)
    obtain ⟨w6, e6, s6⟩ := s3.call (oo5.below kA) hk5b ec ep
    have hM6 := (heap_set3 (w4.alloc (memO M.c (.slice (some ⟨tg5, 0, none⟩) M.tn tc5) (.slice (some ⟨pg5, 0, none⟩) M.pn pc5) 36)) w.heap.size (.int .i64 M.c) (.slice (some ⟨tg5, 0, none⟩) M.tn tc5) (.slice (some ⟨pg5, 0, none⟩) M.pn pc5) (show w4.heap.size ≠ w.heap.size by omega)).trans hM
    clear x0 x1 x2 x3 x4 x5 x6 x7 x8 x9 x10 x11 x12 x13 x14 x15 x16 x17 x18 x19 xf0 xf1 xf2 xf3 xf4 xf5 xf6 xf7 xf8 xf9 xf10 xf11 xf12 xf13 xf14 xf15 xf16 xf17 xf18 xf19
    go_upto_region 8 with fail
    generalize hMb : w4.heap.size = Mb at hM hM6 lMb ⊢
    generalize hW5 : w4.alloc (memO M.c (.slice (some ⟨tg5, 0, none⟩) M.tn tc5) (.slice (some ⟨pg5, 0, none⟩) M.pn pc5) 36) = W5 at hM hM6 hA5 e6 ⊢
    rw [← e6.out] at hM6
    obtain ⟨z0, z1, z2, z3, z4, z5⟩ := three hM
    have f0 := unfrozen_of_block hA5 0; have f1 := unfrozen_of_block hA5 1; have f2 := unfrozen_of_block hA5 2
    have d0 : W5.cell? ⟨w.heap.size, 0, none⟩ = some (.int .i64 M.c) := cell_of_block hA5 0
    have d1 : W5.cell? ⟨w.heap.size, 1, none⟩ = some (.slice (some ⟨tg, 0, none⟩) M.tn tc) := cell_of_block hA5 1
    have d2 : W5.cell? ⟨w.heap.size, 2, none⟩ = some (.slice (some ⟨pg, 0, none⟩) M.pn pc) := cell_of_block hA5 2
    go_upto_region 9 with fail
    rw [← e6.out]
    clear e6 z0 z1 z2 z3 z4 z5 f0 f1 f2 d0 d1 d2 hA5 hM hW5 W5
    obtain ⟨x0, x1, x2, x3, x4, x5, x6, x7, x8, x9, x10, x11, x12, x13, x14, x15, x16, x17, x18, x19, xf0, xf1, xf2, xf3, xf4, xf5, xf6, xf7, xf8, xf9, xf10, xf11, xf12, xf13, xf14, xf15, xf16, xf17, xf18, xf19⟩ := s6.cellsA
    obtain ⟨w7, e7, s7⟩ := s6.hand_pos 4
    have hM7 := (heap_set_ne (w := w6) (b := w.heap.size) (g := Mb) 3 (.int .i64 4) (by omega)).trans hM6
    go_upto_region 10 with fail
    rw [← e7.out]
    rw [← e7.out] at hM7
    clear e7 s6 hM6 x0 x1 x2 x3 x4 x5 x6 x7 x8 x9 x10 x11 x12 x13 x14 x15 x16 x17 x18 x19 xf0 xf1 xf2 xf3 xf4 xf5 xf6 xf7 xf8 xf9 xf10 xf11 xf12 xf13 xf14 xf15 xf16 xf17 xf18 xf19
    obtain ⟨⟨_, h5w, _⟩, _⟩ := s7.tcells ht5 rfl
    obtain ⟨m0, m1, m2, _, _, _⟩ := three hM7
    have lM7 := lt_of_block hM7
    have sd := s7.drew
    have hEv := l9Ev_any (w := w7.drew) 1 (PM.t t).wh ht5 sd.own
    rw [ec] at hEv
    have HEv := Lib.hid hEv
    clear hEv
    have l7w := s7.tlt ht5
    refine wp_region_T (fun w' => w'.cell? ⟨Mb, 0, none⟩ = some (.int .i64 M.c) ∧ w'.cell? ⟨Mb, 1, none⟩ = some (.slice (some ⟨tg5, 0, none⟩) M.tn tc5) ∧ w'.cell? ⟨Mb, 2, none⟩ = some (.slice (some ⟨pg5, 0, none⟩) M.pn pc5) ∧ w'.cell? ⟨tg5, t * 8 + 1, none⟩ = some (.int .i64 (PM.t t).wh)) 10 (by kernel_rfl) ?_
    have hS : w7.drew.cell? ⟨Mb, 0, none⟩ = some (.int .i64 M.c) ∧ w7.drew.cell? ⟨Mb, 1, none⟩ = some (.slice (some ⟨tg5, 0, none⟩) M.tn tc5) ∧ w7.drew.cell? ⟨Mb, 2, none⟩ = some (.slice (some ⟨pg5, 0, none⟩) M.pn pc5) ∧ w7.drew.cell? ⟨tg5, t * 8 + 1, none⟩ = some (.int .i64 (PM.t t).wh) := ⟨m0, m1, m2, h5w⟩
    refine wpAnyT_take (i := 0) (v := ?v0_14) rfl (by kernel_rfl) (by kernel_rfl) (by kernel_rfl) (by kernel_rfl) (fun _ _ _ h => h) (Or.inl ⟨by rfl, ?hy0_14⟩) hS ?rest0_14
    case hy0_14 => intro w' hSw; obtain ⟨s0, s1, s2, s3⟩ := hSw; go_simp; try with_reducible rfl
    simp only [Act.put, List.setIfInBounds_toArray, List.set_cons_zero, List.set_cons_succ]
    refine wpAnyT_take (i := 1) (v := ?v1_15) rfl (by kernel_rfl) (by kernel_rfl) (by kernel_rfl) (by kernel_rfl) (fun _ _ _ h => h) (Or.inl ⟨by rfl, ?hy1_15⟩) hS ?rest1_15
    case hy1_15 => intro w' hSw; obtain ⟨s0, s1, s2, s3⟩ := hSw; go_simp; try with_reducible rfl
    simp only [Act.put, List.setIfInBounds_toArray, List.set_cons_zero, List.set_cons_succ]
    refine wpAnyT_take (i := 2) (v := ?v2_16) rfl (by kernel_rfl) (by kernel_rfl) (by kernel_rfl) (by kernel_rfl) (fun _ _ _ h => h) (Or.inl ⟨by rfl, ?hy2_16⟩) hS ?rest2_16
    case hy2_16 => intro w' hSw; obtain ⟨s0, s1, s2, s3⟩ := hSw; go_simp; try with_reducible rfl
    simp only [Act.put, List.setIfInBounds_toArray, List.set_cons_zero, List.set_cons_succ]
    refine wpAnyT_take (i := 3) (v := ?v3_17) rfl (by kernel_rfl) (by kernel_rfl) (by kernel_rfl) (by kernel_rfl) (fun _ _ _ h => h) (Or.inl ⟨by rfl, ?hy3_17⟩) hS ?rest3_17
    case hy3_17 => intro w' hSw; obtain ⟨s0, s1, s2, s3⟩ := hSw; go_simp; try with_reducible rfl
    simp only [Act.put, List.setIfInBounds_toArray, List.set_cons_zero, List.set_cons_succ]
    refine wpAnyT_take (i := 4) (v := ?v4_18) rfl (by kernel_rfl) (by kernel_rfl) (by kernel_rfl) (by kernel_rfl) (fun _ _ _ h => h) (Or.inl ⟨by rfl, ?hy4_18⟩) hS ?rest4_18
    case hy4_18 => intro w' hSw; obtain ⟨s0, s1, s2, s3⟩ := hSw; go_simp; try with_reducible rfl
    simp only [Act.put, List.setIfInBounds_toArray, List.set_cons_zero, List.set_cons_succ]
    refine wpAnyT_take (i := 5) (v := ?v5_19) rfl (by kernel_rfl) (by kernel_rfl) (by kernel_rfl) (by kernel_rfl) (fun _ _ _ h => h) (Or.inl ⟨by rfl, ?hy5_19⟩) hS ?rest5_19
    case hy5_19 => intro w' hSw; obtain ⟨s0, s1, s2, s3⟩ := hSw; go_simp; try with_reducible rfl
    simp only [Act.put, List.setIfInBounds_toArray, List.set_cons_zero, List.set_cons_succ]
    refine wpAnyT_take (i := 6) (v := ?v6_20) rfl (by kernel_rfl) (by kernel_rfl) (by kernel_rfl) (by kernel_rfl) (fun _ _ _ h => h) (Or.inl ⟨by rfl, ?hy6_20⟩) hS ?rest6_20
    case hy6_20 => intro w' hSw; obtain ⟨s0, s1, s2, s3⟩ := hSw; go_simp; try with_reducible rfl
    simp only [Act.put, List.setIfInBounds_toArray, List.set_cons_zero, List.set_cons_succ]
    refine wpAnyT_take (i := 7) (v := ?v7_21) rfl (by kernel_rfl) (by kernel_rfl) (by kernel_rfl) (by kernel_rfl) (fun _ _ _ h => h) (Or.inl ⟨by rfl, ?hy7_21⟩) hS ?rest7_21
    case hy7_21 => intro w' hSw; obtain ⟨s0, s1, s2, s3⟩ := hSw; go_simp; try with_reducible rfl
    simp only [Act.put, List.setIfInBounds_toArray, List.set_cons_zero, List.set_cons_succ]
    refine wpAnyT_one (i := 8) (by kernel_rfl) rfl (by rfl) fun K hK => ?_
    go_simp
    go_at_call 69; refine HEv.out.mono ?_; rintro x w8 ⟨rfl, hb⟩
    have s8 := sd.below hb
    have hS8 : w8.cell? ⟨Mb, 0, none⟩ = some (.int .i64 M.c) ∧ w8.cell? ⟨Mb, 1, none⟩ = some (.slice (some ⟨tg5, 0, none⟩) M.tn tc5) ∧ w8.cell? ⟨Mb, 2, none⟩ = some (.slice (some ⟨pg5, 0, none⟩) M.pn pc5) ∧ w8.cell? ⟨tg5, t * 8 + 1, none⟩ = some (.int .i64 (PM.t t).wh) := ⟨(hb.cell (p := ⟨Mb, 0, none⟩) lM7).trans m0, (hb.cell (p := ⟨Mb, 1, none⟩) lM7).trans m1, (hb.cell (p := ⟨Mb, 2, none⟩) lM7).trans m2, (hb.cell (p := ⟨tg5, t * 8 + 1, none⟩) l7w).trans h5w⟩
    refine hK _ _ (.inr hS8) ?_
    clear hK K
    (try simp only [Act.put, List.setIfInBounds_toArray, List.set_cons_zero, List.set_cons_succ])
    refine wpAnyT_take (i := 9) (v := ?v9_22) rfl (by kernel_rfl) (by kernel_rfl) (by kernel_rfl) (by kernel_rfl) (fun _ _ _ h => h) (Or.inl ⟨by rfl, ?hy9_22⟩) hS8 ?rest9_22
    case hy9_22 => intro w' hSw; obtain ⟨s0, s1, s2, s3⟩ := hSw; go_simp; try with_reducible rfl
    simp only [Act.put, List.setIfInBounds_toArray, List.set_cons_zero, List.set_cons_succ]
    obtain ⟨x0, x1, x2, x3, x4, x5, x6, x7, x8, x9, x10, x11, x12, x13, x14, x15, x16, x17, x18, x19, xf0, xf1, xf2, xf3, xf4, xf5, xf6, xf7, xf8, xf9, xf10, xf11, xf12, xf13, xf14, xf15, xf16, xf17, xf18, xf19⟩ := s8.cellsA
    obtain ⟨w9, e9, s9⟩ := s8.ev_all (evI PM 1 t (PM.t t).wh)
    refine wpAnyT_one (i := 10) (by kernel_rfl) rfl (by rfl) fun K hK => ?_
    go_simp
    refine hK _ _ (.inl rfl) ?_
    clear hK K
    refine wpAnyT_done (by kernel_rfl) ?_ _
    rw [← e9.out]
    clear e9 s8 hS hS8 s7 sd HEv hb h5w m0 m1 m2 lM7 l7w hM7 x0 x1 x2 x3 x4 x5 x6 x7 x8 x9 x10 x11 x12 x13 x14 x15 x16 x17 x18 x19 xf0 xf1 xf2 xf3 xf4 xf5 xf6 xf7 xf8 xf9 xf10 xf11 xf12 xf13 xf14 xf15 xf16 xf17 xf18 xf19
    go_upto_region 11 with fail
    refine wp_region_lit ?_
    refine wpList_load_mid (by rfl) 43 _ (by rfl) _ 0 (by rfl) [.int .i64 M.c, (.slice (some ⟨tg5, 0, none⟩) M.tn tc5), (.slice (some ⟨pg5, 0, none⟩) M.pn pc5), .int .i64 (⟨4, h.call, h.tim, h.whe, h.had, h.cnt, h.beg, h.rep, h.out⟩ : Hd).pos, .int .i64 (⟨4, h.call, h.tim, h.whe, h.had, h.cnt, h.beg, h.rep, h.out⟩ : Hd).call.code, .int .i64 (⟨4, h.call, h.tim, h.whe, h.had, h.cnt, h.beg, h.rep, h.out⟩ : Hd).call.a, .int .i64 (⟨4, h.call, h.tim, h.whe, h.had, h.cnt, h.beg, h.rep, h.out⟩ : Hd).call.b, .int .i64 (⟨4, h.call, h.tim, h.whe, h.had, h.cnt, h.beg, h.rep, h.out⟩ : Hd).call.c, .int .i64 (⟨4, h.call, h.tim, h.whe, h.had, h.cnt, h.beg, h.rep, h.out⟩ : Hd).tim, .int .i64 (⟨4, h.call, h.tim, h.whe, h.had, h.cnt, h.beg, h.rep, h.out⟩ : Hd).whe, .bool (⟨4, h.call, h.tim, h.whe, h.had, h.cnt, h.beg, h.rep, h.out⟩ : Hd).had, .int .i64 (⟨4, h.call, h.tim, h.whe, h.had, h.cnt, h.beg, h.rep, h.out⟩ : Hd).cnt, .int .i64 (⟨4, h.call, h.tim, h.whe, h.had, h.cnt, h.beg, h.rep, h.out⟩ : Hd).beg, .int .i64 (⟨4, h.call, h.tim, h.whe, h.had, h.cnt, h.beg, h.rep, h.out⟩ : Hd).rep, .int .i64 (⟨4, h.call, h.tim, h.whe, h.had, h.cnt, h.beg, h.rep, h.out⟩ : Hd).out, .int .i64 (evI PM 1 t (PM.t t).wh).kin, .int .i64 (evI PM 1 t (PM.t t).wh).tim, .int .i64 (evI PM 1 t (PM.t t).wh).gen, .int .i64 (evI PM 1 t (PM.t t).wh).whe, .int .i64 (evI PM 1 t (PM.t t).wh).clk] _ (range_of_block s9.a) Tryz.underlying43 rfl done_info ?_
    refine wpList_store_mid (by rfl) 43 _ _ (by rfl) _ 0 #[.int .i64 M.c, (.slice (some ⟨tg5, 0, none⟩) M.tn tc5), (.slice (some ⟨pg5, 0, none⟩) M.pn pc5), .int .i64 (⟨4, h.call, h.tim, h.whe, h.had, h.cnt, h.beg, h.rep, h.out⟩ : Hd).pos, .int .i64 (⟨4, h.call, h.tim, h.whe, h.had, h.cnt, h.beg, h.rep, h.out⟩ : Hd).call.code, .int .i64 (⟨4, h.call, h.tim, h.whe, h.had, h.cnt, h.beg, h.rep, h.out⟩ : Hd).call.a, .int .i64 (⟨4, h.call, h.tim, h.whe, h.had, h.cnt, h.beg, h.rep, h.out⟩ : Hd).call.b, .int .i64 (⟨4, h.call, h.tim, h.whe, h.had, h.cnt, h.beg, h.rep, h.out⟩ : Hd).call.c, .int .i64 (⟨4, h.call, h.tim, h.whe, h.had, h.cnt, h.beg, h.rep, h.out⟩ : Hd).tim, .int .i64 (⟨4, h.call, h.tim, h.whe, h.had, h.cnt, h.beg, h.rep, h.out⟩ : Hd).whe, .bool (⟨4, h.call, h.tim, h.whe, h.had, h.cnt, h.beg, h.rep, h.out⟩ : Hd).had, .int .i64 (⟨4, h.call, h.tim, h.whe, h.had, h.cnt, h.beg, h.rep, h.out⟩ : Hd).cnt, .int .i64 (⟨4, h.call, h.tim, h.whe, h.had, h.cnt, h.beg, h.rep, h.out⟩ : Hd).beg, .int .i64 (⟨4, h.call, h.tim, h.whe, h.had, h.cnt, h.beg, h.rep, h.out⟩ : Hd).rep, .int .i64 (⟨4, h.call, h.tim, h.whe, h.had, h.cnt, h.beg, h.rep, h.out⟩ : Hd).out, .int .i64 (evI PM 1 t (PM.t t).wh).kin, .int .i64 (evI PM 1 t (PM.t t).wh).tim, .int .i64 (evI PM 1 t (PM.t t).wh).gen, .int .i64 (evI PM 1 t (PM.t t).wh).whe, .int .i64 (evI PM 1 t (PM.t t).wh).clk] (by rfl) (by rfl) s9.there done_info (by simp [Value.oneCell']) ?_
    go_wp2
    exact bodyPost_ret (v := .tuple #[.agg #[.int .i64 M.c, (.slice (some ⟨tg5, 0, none⟩) M.tn tc5), (.slice (some ⟨pg5, 0, none⟩) M.pn pc5), .int .i64 (⟨4, h.call, h.tim, h.whe, h.had, h.cnt, h.beg, h.rep, h.out⟩ : Hd).pos, .int .i64 (⟨4, h.call, h.tim, h.whe, h.had, h.cnt, h.beg, h.rep, h.out⟩ : Hd).call.code, .int .i64 (⟨4, h.call, h.tim, h.whe, h.had, h.cnt, h.beg, h.rep, h.out⟩ : Hd).call.a, .int .i64 (⟨4, h.call, h.tim, h.whe, h.had, h.cnt, h.beg, h.rep, h.out⟩ : Hd).call.b, .int .i64 (⟨4, h.call, h.tim, h.whe, h.had, h.cnt, h.beg, h.rep, h.out⟩ : Hd).call.c, .int .i64 (⟨4, h.call, h.tim, h.whe, h.had, h.cnt, h.beg, h.rep, h.out⟩ : Hd).tim, .int .i64 (⟨4, h.call, h.tim, h.whe, h.had, h.cnt, h.beg, h.rep, h.out⟩ : Hd).whe, .bool (⟨4, h.call, h.tim, h.whe, h.had, h.cnt, h.beg, h.rep, h.out⟩ : Hd).had, .int .i64 (⟨4, h.call, h.tim, h.whe, h.had, h.cnt, h.beg, h.rep, h.out⟩ : Hd).cnt, .int .i64 (⟨4, h.call, h.tim, h.whe, h.had, h.cnt, h.beg, h.rep, h.out⟩ : Hd).beg, .int .i64 (⟨4, h.call, h.tim, h.whe, h.had, h.cnt, h.beg, h.rep, h.out⟩ : Hd).rep, .int .i64 (⟨4, h.call, h.tim, h.whe, h.had, h.cnt, h.beg, h.rep, h.out⟩ : Hd).out, .int .i64 (evI PM 1 t (PM.t t).wh).kin, .int .i64 (evI PM 1 t (PM.t t).wh).tim, .int .i64 (evI PM 1 t (PM.t t).wh).gen, .int .i64 (evI PM 1 t (PM.t t).wh).whe, .int .i64 (evI PM 1 t (PM.t t).wh).clk], .bool true]) (results_pair (cs := [.int .i64 M.c, (.slice (some ⟨tg5, 0, none⟩) M.tn tc5), (.slice (some ⟨pg5, 0, none⟩) M.pn pc5), .int .i64 (⟨4, h.call, h.tim, h.whe, h.had, h.cnt, h.beg, h.rep, h.out⟩ : Hd).pos, .int .i64 (⟨4, h.call, h.tim, h.whe, h.had, h.cnt, h.beg, h.rep, h.out⟩ : Hd).call.code, .int .i64 (⟨4, h.call, h.tim, h.whe, h.had, h.cnt, h.beg, h.rep, h.out⟩ : Hd).call.a, .int .i64 (⟨4, h.call, h.tim, h.whe, h.had, h.cnt, h.beg, h.rep, h.out⟩ : Hd).call.b, .int .i64 (⟨4, h.call, h.tim, h.whe, h.had, h.cnt, h.beg, h.rep, h.out⟩ : Hd).call.c, .int .i64 (⟨4, h.call, h.tim, h.whe, h.had, h.cnt, h.beg, h.rep, h.out⟩ : Hd).tim, .int .i64 (⟨4, h.call, h.tim, h.whe, h.had, h.cnt, h.beg, h.rep, h.out⟩ : Hd).whe, .bool (⟨4, h.call, h.tim, h.whe, h.had, h.cnt, h.beg, h.rep, h.out⟩ : Hd).had, .int .i64 (⟨4, h.call, h.tim, h.whe, h.had, h.cnt, h.beg, h.rep, h.out⟩ : Hd).cnt, .int .i64 (⟨4, h.call, h.tim, h.whe, h.had, h.cnt, h.beg, h.rep, h.out⟩ : Hd).beg, .int .i64 (⟨4, h.call, h.tim, h.whe, h.had, h.cnt, h.beg, h.rep, h.out⟩ : Hd).rep, .int .i64 (⟨4, h.call, h.tim, h.whe, h.had, h.cnt, h.beg, h.rep, h.out⟩ : Hd).out, .int .i64 (evI PM 1 t (PM.t t).wh).kin, .int .i64 (evI PM 1 t (PM.t t).wh).tim, .int .i64 (evI PM 1 t (PM.t t).wh).gen, .int .i64 (evI PM 1 t (PM.t t).wh).whe, .int .i64 (evI PM 1 t (PM.t t).wh).clk]) rfl rfl rfl s9.lies Tryz.underlying43 rfl done_info) rfl (s9.retC.toB true)

  have hcb : (h.call.code == 3) = false := by simpa using hc
  have hK := (HK.out).2 hc
  have s2 : DSt w w1 B w.heap.size (w.heap.size + 1) M.c (.slice (some ⟨tg, 0, none⟩) M.tn tc) pg M.pn pc V (keyedM ⟨M, h, v⟩) h v := by rw [hK]; exact s1
  clear hc hK
  go_enter Tryz.func38, Tryz.ntmps38
  go_upto_region 1 with fail
  rw [← e1.out]
  clear e1
  go_upto_region 6 with fail
  clear x0 x1 x2 x3 x4 x5 x6 x7 x8 x9 t0 t1 t2 t3 t4 t5 t6 t7 tf1 s1 hcb
  have ht2 : t < (keyedM ⟨M, h, v⟩).tn := by rw [hKn]; exact ht
  obtain ⟨⟨_, _, _, _, _, g5, _, _⟩, tf⟩ := s2.tcells ht2 rfl
  obtain ⟨G, hG⟩ : ∃ G, ((keyedM ⟨M, h, v⟩).t t).ge = G := ⟨_, rfl⟩
  rw [hG] at g5 hg0 hg1
  have hwr : IntKind.i64.wrap (G + 1) = G + 1 := by rw [IntKind.wrap_i64]; omega
  have HG := Lib.hid hG
  clear hG
  have tf5 := tf (t * 8 + 5)
  obtain ⟨_, y1, _⟩ := s2.cellsA
  have lg := s2.size
  clear tf
  refine wp_region_T (fun w' => w'.cell? ⟨w.heap.size, 1, none⟩ = some (.slice (some ⟨tg, 0, none⟩) M.tn tc) ∧ w'.cell? ⟨tg, t * 8 + 5, none⟩ = some (.int .i64 G)) 15 (by kernel_rfl) ?_
  have hS : w1.drew.cell? ⟨w.heap.size, 1, none⟩ = some (.slice (some ⟨tg, 0, none⟩) M.tn tc) ∧ w1.drew.cell? ⟨tg, t * 8 + 5, none⟩ = some (.int .i64 G) := ⟨y1, g5⟩
  clear y1
  refine wpAnyT_take (i := 0) (v := ?v0_23) rfl (by kernel_rfl) (by kernel_rfl) (by kernel_rfl) (by kernel_rfl) (fun _ _ _ h => h) (Or.inl ⟨by rfl, ?hy0_23⟩) hS ?rest0_23
  case hy0_23 => intro w' hSw; obtain ⟨s0, s1⟩ := hSw; go_simp; try with_reducible rfl
  simp only [Act.put, List.setIfInBounds_toArray, List.set_cons_zero, List.set_cons_succ]
  refine wpAnyT_take (i := 1) (v := ?v1_24) rfl (by kernel_rfl) (by kernel_rfl) (by kernel_rfl) (by kernel_rfl) (fun _ _ _ h => h) (Or.inl ⟨by rfl, ?hy1_24⟩) hS ?rest1_24
  case hy1_24 => intro w' hSw; obtain ⟨s0, s1⟩ := hSw; go_simp; try with_reducible rfl
  simp only [Act.put, List.setIfInBounds_toArray, List.set_cons_zero, List.set_cons_succ]
  refine wpAnyT_take (i := 2) (v := ?v2_25) rfl (by kernel_rfl) (by kernel_rfl) (by kernel_rfl) (by kernel_rfl) (fun _ _ _ h => h) (Or.inl ⟨by rfl, ?hy2_25⟩) hS ?rest2_25
  case hy2_25 => intro w' hSw; obtain ⟨s0, s1⟩ := hSw; go_simp; try with_reducible rfl
  simp only [Act.put, List.setIfInBounds_toArray, List.set_cons_zero, List.set_cons_succ]
  refine wpAnyT_take (i := 3) (v := ?v3_26) rfl (by kernel_rfl) (by kernel_rfl) (by kernel_rfl) (by kernel_rfl) (fun _ _ _ h => h) (Or.inl ⟨by rfl, ?hy3_26⟩) hS ?rest3_26
  case hy3_26 => intro w' hSw; obtain ⟨s0, s1⟩ := hSw; go_simp; try with_reducible rfl
  simp only [Act.put, List.setIfInBounds_toArray, List.set_cons_zero, List.set_cons_succ]
  refine wpAnyT_take (i := 4) (v := ?v4_27) rfl (by kernel_rfl) (by kernel_rfl) (by kernel_rfl) (by kernel_rfl) (fun _ _ _ h => h) (Or.inl ⟨by rfl, ?hy4_27⟩) hS ?rest4_27
  case hy4_27 => intro w' hSw; obtain ⟨s0, s1⟩ := hSw; go_simp; try with_reducible rfl
  simp only [Act.put, List.setIfInBounds_toArray, List.set_cons_zero, List.set_cons_succ]
  refine wpAnyT_take (i := 5) (v := ?v5_28) rfl (by kernel_rfl) (by kernel_rfl) (by kernel_rfl) (by kernel_rfl) (fun _ _ _ h => h) (Or.inl ⟨by rfl, ?hy5_28⟩) hS ?rest5_28
  case hy5_28 => intro w' hSw; obtain ⟨s0, s1⟩ := hSw; go_simp; try with_reducible rfl
  simp only [Act.put, List.setIfInBounds_toArray, List.set_cons_zero, List.set_cons_succ]
  refine wpAnyT_take (i := 6) (v := ?v6_29) rfl (by kernel_rfl) (by kernel_rfl) (by kernel_rfl) (by kernel_rfl) (fun _ _ _ h => h) (Or.inl ⟨by rfl, ?hy6_29⟩) hS ?rest6_29
  case hy6_29 => intro w' hSw; obtain ⟨s0, s1⟩ := hSw; go_simp; try with_reducible rfl
  simp only [Act.put, List.setIfInBounds_toArray, List.set_cons_zero, List.set_cons_succ]
  refine wpAnyT_take (i := 7) (v := ?v7_30) rfl (by kernel_rfl) (by kernel_rfl) (by kernel_rfl) (by kernel_rfl) (fun _ _ _ h => h) (Or.inl ⟨by rfl, ?hy7_30⟩) hS ?rest7_30
  case hy7_30 => intro w' hSw; obtain ⟨s0, s1⟩ := hSw; go_simp; try with_reducible rfl
  simp only [Act.put, List.setIfInBounds_toArray, List.set_cons_zero, List.set_cons_succ]
  refine wpAnyT_take (i := 8) (v := ?v8_31) rfl (by kernel_rfl) (by kernel_rfl) (by kernel_rfl) (by kernel_rfl) (fun _ _ _ h => h) (Or.inl ⟨by rfl, ?hy8_31⟩) hS ?rest8_31
  case hy8_31 => intro w' hSw; obtain ⟨s0, s1⟩ := hSw; go_simp; try with_reducible rfl
  simp only [Act.put, List.setIfInBounds_toArray, List.set_cons_zero, List.set_cons_succ]
  refine wpAnyT_take (i := 9) (v := ?v9_32) rfl (by kernel_rfl) (by kernel_rfl) (by kernel_rfl) (by kernel_rfl) (fun _ _ _ h => h) (Or.inl ⟨by rfl, ?hy9_32⟩) hS ?rest9_32
  case hy9_32 => intro w' hSw; obtain ⟨s0, s1⟩ := hSw; go_simp; try with_reducible rfl
  simp only [Act.put, List.setIfInBounds_toArray, List.set_cons_zero, List.set_cons_succ]
  refine wpAnyT_take (i := 10) (v := ?v10_33) rfl (by kernel_rfl) (by kernel_rfl) (by kernel_rfl) (by kernel_rfl) (fun _ _ _ h => h) (Or.inl ⟨by rfl, ?hy10_33⟩) hS ?rest10_33
  case hy10_33 => intro w' hSw; obtain ⟨s0, s1⟩ := hSw; go_simp; try with_reducible rfl
  simp only [Act.put, List.setIfInBounds_toArray, List.set_cons_zero, List.set_cons_succ]
  refine wpAnyT_take (i := 11) (v := ?v11_34) rfl (by kernel_rfl) (by kernel_rfl) (by kernel_rfl) (by kernel_rfl) (fun _ _ _ h => h) (Or.inl ⟨by rfl, ?hy11_34⟩) hS ?rest11_34
  case hy11_34 => intro w' hSw; obtain ⟨s0, s1⟩ := hSw; go_simp; try with_reducible rfl
  simp only [Act.put, List.setIfInBounds_toArray, List.set_cons_zero, List.set_cons_succ]
  (try simp only [hwr])
  refine wpAnyT_one (i := 12) (by kernel_rfl) rfl (by rfl) fun K hK => ?_
  go_simp
  go_at_call 67; refine (l1Min_any _ _ _).mono ?_; rintro x wp ⟨rfl, rfl⟩
  refine hK _ _ (.inr hS) ?_
  clear hK K
  (try simp only [Act.put, List.setIfInBounds_toArray, List.set_cons_zero, List.set_cons_succ])
  refine wpAnyT_one (i := 13) (by kernel_rfl) rfl (by rfl) fun K hK => ?_
  go_simp
  refine hK _ _ (.inr hS) ?_
  clear hK K
  (try simp only [Act.put, List.setIfInBounds_toArray, List.set_cons_zero, List.set_cons_succ])
  refine wpAnyT_take (i := 14) (v := ?v14_35) rfl (by kernel_rfl) (by kernel_rfl) (by kernel_rfl) (by kernel_rfl) (fun _ _ _ h => h) (Or.inl ⟨by rfl, ?hy14_35⟩) hS ?rest14_35
  case hy14_35 => intro w' hSw; obtain ⟨s0, s1⟩ := hSw; go_simp; try with_reducible rfl
  simp only [Act.put, List.setIfInBounds_toArray, List.set_cons_zero, List.set_cons_succ]
  obtain ⟨w3a, e3, s3a⟩ := s2.setT (t := t) 5 ht2 (by decide) (minI (G + 1) 100000)
  have s3 := s3a.drew
  have g5d : w1.drew.cell? ⟨tg, t * 8 + 5, none⟩ = some (.int .i64 G) := g5
  have tf5d : w1.drew.frozen? ⟨tg, t * 8 + 5, none⟩ = false := tf5
  refine wpAnyT_one (i := 15) (by kernel_rfl) rfl (by rfl) fun K hK => ?_
  go_simp
  refine hK _ _ (.inl rfl) ?_
  clear hK K
  refine wpAnyT_done (by kernel_rfl) ?_ _
  rw [← e3.out]
  clear s3a e3
  generalize w3a.drew = w3 at s3 ⊢
  clear w3a hS g5 g5d tf5 tf5d
  have hPM0 : setTm (keyedM ⟨M, h, v⟩) t 5 (minI (G + 1) 100000) = genM (keyedM ⟨M, h, v⟩) t := by rw [genM, HG.out]
  rw [hPM0] at s3
  clear hPM0 HG
  obtain ⟨x0, x1, x2, x3, x4, x5, x6, x7, x8, x9, x10, x11, x12, x13, x14, x15, x16, x17, x18, x19, xf0, xf1, xf2, xf3, xf4, xf5, xf6, xf7, xf8, xf9, xf10, xf11, xf12, xf13, xf14, xf15, xf16, xf17, xf18, xf19⟩ := s3.cellsA
  go_wp2_with fail
  have hAr := l6Armed_yes s3.size.1 hkg hn2 htg hq2 s3.own
  rw [eGc, HPM.out] at hAr
  go_at_call 68; refine hAr.mono ?_
  rintro x w4 hI
  clear hAr
  obtain ⟨tv5, pv5, hx, ho5, hk5⟩ := hI
  obtain ⟨pg5, pc5, V5, rfl, oo5⟩ := ho5.openP (k := k) hk5'
  clear ho5
  obtain ⟨tg5, tc5, rfl, _⟩ := oo5.tms (k := t) ht5
  rw [ec, ep, et] at hx
  rw [et] at oo5
  subst hx
  have kA := (Below.refl w4.heap.size w4).alloc (Nat.le_refl _) (memO M.c (.slice (some ⟨tg5, 0, none⟩) M.tn tc5) (.slice (some ⟨pg5, 0, none⟩) M.pn pc5) 36)
  have hM := heap_alloc_new w4 (memO M.c (.slice (some ⟨tg5, 0, none⟩) M.tn tc5) (.slice (some ⟨pg5, 0, none⟩) M.pn pc5) 36)
  have lMb : w.heap.size + 1 < w4.heap.size := Nat.lt_of_lt_of_le s3.size.2.2 hk5.below.size
  have hk5b := hk5.new kA s3.size.1
  have hA5 := hk5b.kept s3.a (by decide)
  obtain ⟨w6, e6, s6⟩ := s3.call (oo5.below kA) hk5b ec ep
  have hM6 := (heap_set3 (w4.alloc (memO M.c (.slice (some ⟨tg5, 0, none⟩) M.tn tc5) (.slice (some ⟨pg5, 0, none⟩) M.pn pc5) 36)) w.heap.size (.int .i64 M.c) (.slice (some ⟨tg5, 0, none⟩) M.tn tc5) (.slice (some ⟨pg5, 0, none⟩) M.pn pc5) (show w4.heap.size ≠ w.heap.size by omega)).trans hM
  clear x0 x1 x2 x3 x4 x5 x6 x7 x8 x9 x10 x11 x12 x13 x14 x15 x16 x17 x18 x19 xf0 xf1 xf2 xf3 xf4 xf5 xf6 xf7 xf8 xf9 xf10 xf11 xf12 xf13 xf14 xf15 xf16 xf17 xf18 xf19
  go_upto_region 8 with fail
  generalize hMb : w4.heap.size = Mb at hM hM6 lMb ⊢
  generalize hW5 : w4.alloc (memO M.c (.slice (some ⟨tg5, 0, none⟩) M.tn tc5) (.slice (some ⟨pg5, 0, none⟩) M.pn pc5) 36) = W5 at hM hM6 hA5 e6 ⊢
  rw [← e6.out] at hM6
  obtain ⟨z0, z1, z2, z3, z4, z5⟩ := three hM
  have f0 := unfrozen_of_block hA5 0; have f1 := unfrozen_of_block hA5 1; have f2 := unfrozen_of_block hA5 2
  have d0 : W5.cell? ⟨w.heap.size, 0, none⟩ = some (.int .i64 M.c) := cell_of_block hA5 0
  have d1 : W5.cell? ⟨w.heap.size, 1, none⟩ = some (.slice (some ⟨tg, 0, none⟩) M.tn tc) := cell_of_block hA5 1
  have d2 : W5.cell? ⟨w.heap.size, 2, none⟩ = some (.slice (some ⟨pg, 0, none⟩) M.pn pc) := cell_of_block hA5 2
  go_upto_region 9 with fail
  rw [← e6.out]
  clear e6 z0 z1 z2 z3 z4 z5 f0 f1 f2 d0 d1 d2 hA5 hM hW5 W5
  obtain ⟨x0, x1, x2, x3, x4, x5, x6, x7, x8, x9, x10, x11, x12, x13, x14, x15, x16, x17, x18, x19, xf0, xf1, xf2, xf3, xf4, xf5, xf6, xf7, xf8, xf9, xf10, xf11, xf12, xf13, xf14, xf15, xf16, xf17, xf18, xf19⟩ := s6.cellsA
  obtain ⟨w7, e7, s7⟩ := s6.hand_pos 4
  have hM7 := (heap_set_ne (w := w6) (b := w.heap.size) (g := Mb) 3 (.int .i64 4) (by omega)).trans hM6
  go_upto_region 10 with fail
  rw [← e7.out]
  rw [← e7.out] at hM7
  clear e7 s6 hM6 x0 x1 x2 x3 x4 x5 x6 x7 x8 x9 x10 x11 x12 x13 x14 x15 x16 x17 x18 x19 xf0 xf1 xf2 xf3 xf4 xf5 xf6 xf7 xf8 xf9 xf10 xf11 xf12 xf13 xf14 xf15 xf16 xf17 xf18 xf19
  obtain ⟨⟨_, h5w, _⟩, _⟩ := s7.tcells ht5 rfl
  obtain ⟨m0, m1, m2, _, _, _⟩ := three hM7
  have lM7 := lt_of_block hM7
  have sd := s7.drew
  have hEv := l9Ev_any (w := w7.drew) 1 (PM.t t).wh ht5 sd.own
  rw [ec] at hEv
  have HEv := Lib.hid hEv
  clear hEv
  have l7w := s7.tlt ht5
  refine wp_region_T (fun w' => w'.cell? ⟨Mb, 0, none⟩ = some (.int .i64 M.c) ∧ w'.cell? ⟨Mb, 1, none⟩ = some (.slice (some ⟨tg5, 0, none⟩) M.tn tc5) ∧ w'.cell? ⟨Mb, 2, none⟩ = some (.slice (some ⟨pg5, 0, none⟩) M.pn pc5) ∧ w'.cell? ⟨tg5, t * 8 + 1, none⟩ = some (.int .i64 (PM.t t).wh)) 10 (by kernel_rfl) ?_
  have hS : w7.drew.cell? ⟨Mb, 0, none⟩ = some (.int .i64 M.c) ∧ w7.drew.cell? ⟨Mb, 1, none⟩ = some (.slice (some ⟨tg5, 0, none⟩) M.tn tc5) ∧ w7.drew.cell? ⟨Mb, 2, none⟩ = some (.slice (some ⟨pg5, 0, none⟩) M.pn pc5) ∧ w7.drew.cell? ⟨tg5, t * 8 + 1, none⟩ = some (.int .i64 (PM.t t).wh) := ⟨m0, m1, m2, h5w⟩
  refine wpAnyT_take (i := 0) (v := ?v0_36) rfl (by kernel_rfl) (by kernel_rfl) (by kernel_rfl) (by kernel_rfl) (fun _ _ _ h => h) (Or.inl ⟨by rfl, ?hy0_36⟩) hS ?rest0_36
  case hy0_36 => intro w' hSw; obtain ⟨s0, s1, s2, s3⟩ := hSw; go_simp; try with_reducible rfl
  simp only [Act.put, List.setIfInBounds_toArray, List.set_cons_zero, List.set_cons_succ]
  refine wpAnyT_take (i := 1) (v := ?v1_37) rfl (by kernel_rfl) (by kernel_rfl) (by kernel_rfl) (by kernel_rfl) (fun _ _ _ h => h) (Or.inl ⟨by rfl, ?hy1_37⟩) hS ?rest1_37
  case hy1_37 => intro w' hSw; obtain ⟨s0, s1, s2, s3⟩ := hSw; go_simp; try with_reducible rfl
  simp only [Act.put, List.setIfInBounds_toArray, List.set_cons_zero, List.set_cons_succ]
  refine wpAnyT_take (i := 2) (v := ?v2_38) rfl (by kernel_rfl) (by kernel_rfl) (by kernel_rfl) (by kernel_rfl) (fun _ _ _ h => h) (Or.inl ⟨by rfl, ?hy2_38⟩) hS ?rest2_38
  case hy2_38 => intro w' hSw; obtain ⟨s0, s1, s2, s3⟩ := hSw; go_simp; try with_reducible rfl
  simp only [Act.put, List.setIfInBounds_toArray, List.set_cons_zero, List.set_cons_succ]
  refine wpAnyT_take (i := 3) (v := ?v3_39) rfl (by kernel_rfl) (by kernel_rfl) (by kernel_rfl) (by kernel_rfl) (fun _ _ _ h => h) (Or.inl ⟨by rfl, ?hy3_39⟩) hS ?rest3_39
  case hy3_39 => intro w' hSw; obtain ⟨s0, s1, s2, s3⟩ := hSw; go_simp; try with_reducible rfl
  simp only [Act.put, List.setIfInBounds_toArray, List.set_cons_zero, List.set_cons_succ]
  refine wpAnyT_take (i := 4) (v := ?v4_40) rfl (by kernel_rfl) (by kernel_rfl) (by kernel_rfl) (by kernel_rfl) (fun _ _ _ h => h) (Or.inl ⟨by rfl, ?hy4_40⟩) hS ?rest4_40
  case hy4_40 => intro w' hSw; obtain ⟨s0, s1, s2, s3⟩ := hSw; go_simp; try with_reducible rfl
  simp only [Act.put, List.setIfInBounds_toArray, List.set_cons_zero, List.set_cons_succ]
  refine wpAnyT_take (i := 5) (v := ?v5_41) rfl (by kernel_rfl) (by kernel_rfl) (by kernel_rfl) (by kernel_rfl) (fun _ _ _ h => h) (Or.inl ⟨by rfl, ?hy5_41⟩) hS ?rest5_41
  case hy5_41 => intro w' hSw; obtain ⟨s0, s1, s2, s3⟩ := hSw; go_simp; try with_reducible rfl
  simp only [Act.put, List.setIfInBounds_toArray, List.set_cons_zero, List.set_cons_succ]
  refine wpAnyT_take (i := 6) (v := ?v6_42) rfl (by kernel_rfl) (by kernel_rfl) (by kernel_rfl) (by kernel_rfl) (fun _ _ _ h => h) (Or.inl ⟨by rfl, ?hy6_42⟩) hS ?rest6_42
  case hy6_42 => intro w' hSw; obtain ⟨s0, s1, s2, s3⟩ := hSw; go_simp; try with_reducible rfl
  simp only [Act.put, List.setIfInBounds_toArray, List.set_cons_zero, List.set_cons_succ]
  refine wpAnyT_take (i := 7) (v := ?v7_43) rfl (by kernel_rfl) (by kernel_rfl) (by kernel_rfl) (by kernel_rfl) (fun _ _ _ h => h) (Or.inl ⟨by rfl, ?hy7_43⟩) hS ?rest7_43
  case hy7_43 => intro w' hSw; obtain ⟨s0, s1, s2, s3⟩ := hSw; go_simp; try with_reducible rfl
  simp only [Act.put, List.setIfInBounds_toArray, List.set_cons_zero, List.set_cons_succ]
  refine wpAnyT_one (i := 8) (by kernel_rfl) rfl (by rfl) fun K hK => ?_
  go_simp
  go_at_call 69; refine HEv.out.mono ?_; rintro x w8 ⟨rfl, hb⟩
  have s8 := sd.below hb
  have hS8 : w8.cell? ⟨Mb, 0, none⟩ = some (.int .i64 M.c) ∧ w8.cell? ⟨Mb, 1, none⟩ = some (.slice (some ⟨tg5, 0, none⟩) M.tn tc5) ∧ w8.cell? ⟨Mb, 2, none⟩ = some (.slice (some ⟨pg5, 0, none⟩) M.pn pc5) ∧ w8.cell? ⟨tg5, t * 8 + 1, none⟩ = some (.int .i64 (PM.t t).wh) := ⟨(hb.cell (p := ⟨Mb, 0, none⟩) lM7).trans m0, (hb.cell (p := ⟨Mb, 1, none⟩) lM7).trans m1, (hb.cell (p := ⟨Mb, 2, none⟩) lM7).trans m2, (hb.cell (p := ⟨tg5, t * 8 + 1, none⟩) l7w).trans h5w⟩
  refine hK _ _ (.inr hS8) ?_
  clear hK K
  (try simp only [Act.put, List.setIfInBounds_toArray, List.set_cons_zero, List.set_cons_succ])
  refine wpAnyT_take (i := 9) (v := ?v9_44) rfl (by kernel_rfl) (by kernel_rfl) (by kernel_rfl) (by kernel_rfl) (fun _ _ _ h => h) (Or.inl ⟨by rfl, ?hy9_44⟩) hS8 ?rest9_44
  case hy9_44 => intro w' hSw; obtain ⟨s0, s1, s2, s3⟩ := hSw; go_simp; try with_reducible rfl
  simp only [Act.put, List.setIfInBounds_toArray, List.set_cons_zero, List.set_cons_succ]
  obtain ⟨x0, x1, x2, x3, x4, x5, x6, x7, x8, x9, x10, x11, x12, x13, x14, x15, x16, x17, x18, x19, xf0, xf1, xf2, xf3, xf4, xf5, xf6, xf7, xf8, xf9, xf10, xf11, xf12, xf13, xf14, xf15, xf16, xf17, xf18, xf19⟩ := s8.cellsA
  obtain ⟨w9, e9, s9⟩ := s8.ev_all (evI PM 1 t (PM.t t).wh)
  refine wpAnyT_one (i := 10) (by kernel_rfl) rfl (by rfl) fun K hK => ?_
  go_simp
  refine hK _ _ (.inl rfl) ?_
  clear hK K
  refine wpAnyT_done (by kernel_rfl) ?_ _
  rw [← e9.out]
  clear e9 s8 hS hS8 s7 sd HEv hb h5w m0 m1 m2 lM7 l7w hM7 x0 x1 x2 x3 x4 x5 x6 x7 x8 x9 x10 x11 x12 x13 x14 x15 x16 x17 x18 x19 xf0 xf1 xf2 xf3 xf4 xf5 xf6 xf7 xf8 xf9 xf10 xf11 xf12 xf13 xf14 xf15 xf16 xf17 xf18 xf19
  go_upto_region 11 with fail
  refine wp_region_lit ?_
  refine wpList_load_mid (by rfl) 43 _ (by rfl) _ 0 (by rfl) [.int .i64 M.c, (.slice (some ⟨tg5, 0, none⟩) M.tn tc5), (.slice (some ⟨pg5, 0, none⟩) M.pn pc5), .int .i64 (⟨4, h.call, h.tim, h.whe, h.had, h.cnt, h.beg, h.rep, h.out⟩ : Hd).pos, .int .i64 (⟨4, h.call, h.tim, h.whe, h.had, h.cnt, h.beg, h.rep, h.out⟩ : Hd).call.code, .int .i64 (⟨4, h.call, h.tim, h.whe, h.had, h.cnt, h.beg, h.rep, h.out⟩ : Hd).call.a, .int .i64 (⟨4, h.call, h.tim, h.whe, h.had, h.cnt, h.beg, h.rep, h.out⟩ : Hd).call.b, .int .i64 (⟨4, h.call, h.tim, h.whe, h.had, h.cnt, h.beg, h.rep, h.out⟩ : Hd).call.c, .int .i64 (⟨4, h.call, h.tim, h.whe, h.had, h.cnt, h.beg, h.rep, h.out⟩ : Hd).tim, .int .i64 (⟨4, h.call, h.tim, h.whe, h.had, h.cnt, h.beg, h.rep, h.out⟩ : Hd).whe, .bool (⟨4, h.call, h.tim, h.whe, h.had, h.cnt, h.beg, h.rep, h.out⟩ : Hd).had, .int .i64 (⟨4, h.call, h.tim, h.whe, h.had, h.cnt, h.beg, h.rep, h.out⟩ : Hd).cnt, .int .i64 (⟨4, h.call, h.tim, h.whe, h.had, h.cnt, h.beg, h.rep, h.out⟩ : Hd).beg, .int .i64 (⟨4, h.call, h.tim, h.whe, h.had, h.cnt, h.beg, h.rep, h.out⟩ : Hd).rep, .int .i64 (⟨4, h.call, h.tim, h.whe, h.had, h.cnt, h.beg, h.rep, h.out⟩ : Hd).out, .int .i64 (evI PM 1 t (PM.t t).wh).kin, .int .i64 (evI PM 1 t (PM.t t).wh).tim, .int .i64 (evI PM 1 t (PM.t t).wh).gen, .int .i64 (evI PM 1 t (PM.t t).wh).whe, .int .i64 (evI PM 1 t (PM.t t).wh).clk] _ (range_of_block s9.a) Tryz.underlying43 rfl done_info ?_
  refine wpList_store_mid (by rfl) 43 _ _ (by rfl) _ 0 #[.int .i64 M.c, (.slice (some ⟨tg5, 0, none⟩) M.tn tc5), (.slice (some ⟨pg5, 0, none⟩) M.pn pc5), .int .i64 (⟨4, h.call, h.tim, h.whe, h.had, h.cnt, h.beg, h.rep, h.out⟩ : Hd).pos, .int .i64 (⟨4, h.call, h.tim, h.whe, h.had, h.cnt, h.beg, h.rep, h.out⟩ : Hd).call.code, .int .i64 (⟨4, h.call, h.tim, h.whe, h.had, h.cnt, h.beg, h.rep, h.out⟩ : Hd).call.a, .int .i64 (⟨4, h.call, h.tim, h.whe, h.had, h.cnt, h.beg, h.rep, h.out⟩ : Hd).call.b, .int .i64 (⟨4, h.call, h.tim, h.whe, h.had, h.cnt, h.beg, h.rep, h.out⟩ : Hd).call.c, .int .i64 (⟨4, h.call, h.tim, h.whe, h.had, h.cnt, h.beg, h.rep, h.out⟩ : Hd).tim, .int .i64 (⟨4, h.call, h.tim, h.whe, h.had, h.cnt, h.beg, h.rep, h.out⟩ : Hd).whe, .bool (⟨4, h.call, h.tim, h.whe, h.had, h.cnt, h.beg, h.rep, h.out⟩ : Hd).had, .int .i64 (⟨4, h.call, h.tim, h.whe, h.had, h.cnt, h.beg, h.rep, h.out⟩ : Hd).cnt, .int .i64 (⟨4, h.call, h.tim, h.whe, h.had, h.cnt, h.beg, h.rep, h.out⟩ : Hd).beg, .int .i64 (⟨4, h.call, h.tim, h.whe, h.had, h.cnt, h.beg, h.rep, h.out⟩ : Hd).rep, .int .i64 (⟨4, h.call, h.tim, h.whe, h.had, h.cnt, h.beg, h.rep, h.out⟩ : Hd).out, .int .i64 (evI PM 1 t (PM.t t).wh).kin, .int .i64 (evI PM 1 t (PM.t t).wh).tim, .int .i64 (evI PM 1 t (PM.t t).wh).gen, .int .i64 (evI PM 1 t (PM.t t).wh).whe, .int .i64 (evI PM 1 t (PM.t t).wh).clk] (by rfl) (by rfl) s9.there done_info (by simp [Value.oneCell']) ?_
  go_wp2
  exact bodyPost_ret (v := .tuple #[.agg #[.int .i64 M.c, (.slice (some ⟨tg5, 0, none⟩) M.tn tc5), (.slice (some ⟨pg5, 0, none⟩) M.pn pc5), .int .i64 (⟨4, h.call, h.tim, h.whe, h.had, h.cnt, h.beg, h.rep, h.out⟩ : Hd).pos, .int .i64 (⟨4, h.call, h.tim, h.whe, h.had, h.cnt, h.beg, h.rep, h.out⟩ : Hd).call.code, .int .i64 (⟨4, h.call, h.tim, h.whe, h.had, h.cnt, h.beg, h.rep, h.out⟩ : Hd).call.a, .int .i64 (⟨4, h.call, h.tim, h.whe, h.had, h.cnt, h.beg, h.rep, h.out⟩ : Hd).call.b, .int .i64 (⟨4, h.call, h.tim, h.whe, h.had, h.cnt, h.beg, h.rep, h.out⟩ : Hd).call.c, .int .i64 (⟨4, h.call, h.tim, h.whe, h.had, h.cnt, h.beg, h.rep, h.out⟩ : Hd).tim, .int .i64 (⟨4, h.call, h.tim, h.whe, h.had, h.cnt, h.beg, h.rep, h.out⟩ : Hd).whe, .bool (⟨4, h.call, h.tim, h.whe, h.had, h.cnt, h.beg, h.rep, h.out⟩ : Hd).had, .int .i64 (⟨4, h.call, h.tim, h.whe, h.had, h.cnt, h.beg, h.rep, h.out⟩ : Hd).cnt, .int .i64 (⟨4, h.call, h.tim, h.whe, h.had, h.cnt, h.beg, h.rep, h.out⟩ : Hd).beg, .int .i64 (⟨4, h.call, h.tim, h.whe, h.had, h.cnt, h.beg, h.rep, h.out⟩ : Hd).rep, .int .i64 (⟨4, h.call, h.tim, h.whe, h.had, h.cnt, h.beg, h.rep, h.out⟩ : Hd).out, .int .i64 (evI PM 1 t (PM.t t).wh).kin, .int .i64 (evI PM 1 t (PM.t t).wh).tim, .int .i64 (evI PM 1 t (PM.t t).wh).gen, .int .i64 (evI PM 1 t (PM.t t).wh).whe, .int .i64 (evI PM 1 t (PM.t t).wh).clk], .bool true]) (results_pair (cs := [.int .i64 M.c, (.slice (some ⟨tg5, 0, none⟩) M.tn tc5), (.slice (some ⟨pg5, 0, none⟩) M.pn pc5), .int .i64 (⟨4, h.call, h.tim, h.whe, h.had, h.cnt, h.beg, h.rep, h.out⟩ : Hd).pos, .int .i64 (⟨4, h.call, h.tim, h.whe, h.had, h.cnt, h.beg, h.rep, h.out⟩ : Hd).call.code, .int .i64 (⟨4, h.call, h.tim, h.whe, h.had, h.cnt, h.beg, h.rep, h.out⟩ : Hd).call.a, .int .i64 (⟨4, h.call, h.tim, h.whe, h.had, h.cnt, h.beg, h.rep, h.out⟩ : Hd).call.b, .int .i64 (⟨4, h.call, h.tim, h.whe, h.had, h.cnt, h.beg, h.rep, h.out⟩ : Hd).call.c, .int .i64 (⟨4, h.call, h.tim, h.whe, h.had, h.cnt, h.beg, h.rep, h.out⟩ : Hd).tim, .int .i64 (⟨4, h.call, h.tim, h.whe, h.had, h.cnt, h.beg, h.rep, h.out⟩ : Hd).whe, .bool (⟨4, h.call, h.tim, h.whe, h.had, h.cnt, h.beg, h.rep, h.out⟩ : Hd).had, .int .i64 (⟨4, h.call, h.tim, h.whe, h.had, h.cnt, h.beg, h.rep, h.out⟩ : Hd).cnt, .int .i64 (⟨4, h.call, h.tim, h.whe, h.had, h.cnt, h.beg, h.rep, h.out⟩ : Hd).beg, .int .i64 (⟨4, h.call, h.tim, h.whe, h.had, h.cnt, h.beg, h.rep, h.out⟩ : Hd).rep, .int .i64 (⟨4, h.call, h.tim, h.whe, h.had, h.cnt, h.beg, h.rep, h.out⟩ : Hd).out, .int .i64 (evI PM 1 t (PM.t t).wh).kin, .int .i64 (evI PM 1 t (PM.t t).wh).tim, .int .i64 (evI PM 1 t (PM.t t).wh).gen, .int .i64 (evI PM 1 t (PM.t t).wh).whe, .int .i64 (evI PM 1 t (PM.t t).wh).clk]) rfl rfl rfl s9.lies Tryz.underlying43 rfl done_info) rfl (s9.retC.toB true)


theorem l9Push_any {B k : Nat} {tv pv : Value} {M : Me} {h : Hd} {v : Et} {w : World} (hB : B ≤ w.heap.size) (hk : k < M.pn) (hn : (M.p k).n ≤ 1048576) (ht : 0 ≤ h.tim → h.tim.toNat < M.tn) (hg : ∀ i, i < M.tn → 0 ≤ (M.t i).ge ∧ (M.t i).ge ≤ 100000) (hm : OwnMem w B tv pv M) :
    Calls Tryz.prog 38 #[dnV ⟨M, h, v⟩ tv pv, .int .i64 (k : Int)] w (InDnB B (if pushOk ⟨M, h, v⟩ then pushD ⟨M, h, v⟩ k else dn0) (pushOk ⟨M, h, v⟩) w) := by
  by_cases h0 : h.tim < 0
  · exact l9Push_neg hB hk h0 hm
  have h1 := ht (by omega)
  have e : h.tim = (h.tim.toNat : Int) := by omega
  cases hq : armedB M h.tim.toNat
  · exact l9Push_no hB hk h1 e hq hm
  · exact l9Push_yes hB hk hn h1 e hq (hg _ h1).1 (hg _ h1).2 hm

end Go.Proofs.YtflekodaiejflaaGreat

/-
  A worker's processor (spec, chapter 1).
-/
namespace Go.Proofs.YtflekodaiejflaaGreat
open Go.RowKit Go.Joins
set_option linter.unusedVariables false
set_option linter.unusedSimpArgs false

def homeI (a b c w : Int) : Int := if workB a b c w then w % a else -1

set_option maxHeartbeats 400000 in
theorem spHomeOf_any (a b c n : Int) (w : World) :
    Calls Tryz.prog 35 #[.agg #[.int .i64 a, .int .i64 b, .int .i64 c], .int .i64 n] w fun e w' => e = .returned (.int .i64 (homeI a b c n)) ∧ Below w.heap.size w w' := by
  cases h1 : workB a b c n
  · rw [show homeI a b c n = -1 by simp [homeI, h1]]
    go_enter Tryz.func35, Tryz.ntmps35
    go_wp2_with (go_at_call 64; refine (l1Worker_any _ _ _ _ _).mono ?_; rintro e w1 ⟨rfl, hb⟩)
    go_ret
    exact ⟨rfl, ((Below.refl _ _).alloc (Nat.le_refl _) _).trans (hb.mono (by simp))⟩
  · obtain ⟨hp, n1, n2⟩ := workB_iff.1 h1
    obtain ⟨⟨a1, a2⟩, ⟨b1, b2⟩, _⟩ := planB_iff.1 hp
    rw [show homeI a b c n = n % a by simp [homeI, h1]]
    clear hp
    go_enter Tryz.func35, Tryz.ntmps35
    go_wp2_with (go_at_call 64; refine (l1Worker_any _ _ _ _ _).mono ?_; rintro e w1 ⟨rfl, hb⟩; obtain ⟨hc, hf⟩ := bcell hb)
    go_ret
    exact ⟨rfl, ((Below.refl _ _).alloc (Nat.le_refl _) _).trans (hb.mono (by simp))⟩

end Go.Proofs.YtflekodaiejflaaGreat

/-
  The step of creating (spec, chapter 9).
-/
namespace Go.Proofs.YtflekodaiejflaaGreat
open Go.Deep Go.ChangeShapes Go.WideShapes Go.ChangeAt Go.RowKit Go.Joins
set_option linter.unusedVariables false
set_option linter.unusedSimpArgs false

theorem OwnMemIn.own {w : World} {B C : Nat} {tv pv : Value} {M : Me} (h : OwnMemIn w B C tv pv M) : OwnMem w B tv pv M := by
  refine ⟨?_, ?_⟩
  · rcases h.1 with h | ⟨g, cap, e, h, _⟩
    · exact .inl h
    · exact .inr ⟨g, cap, e, h⟩
  · rcases h.2 with h | ⟨g, cap, V, e, h, _⟩
    · exact .inl h
    · exact .inr ⟨g, cap, V, e, h⟩
/-- what a call answered comes into the answer's block -/
theorem InDnB.put {B R : Nat} {D : Dn} {q : Bool} {w0 w1 w' : World} {e : Ending} {Z : Array Value} (hI : InDnB B D q w1 e w') (k : Wk B w0 w1) (hB : B ≤ w0.heap.size) (lr : w0.heap.size ≤ R) (hR : w1.heap[R]? = some (.cells Z 43 (0, 0))) (hz : Z.size = 20) :
    ∃ ta tn tc pa pn pc, e = .returned (.tuple #[dnV D (.slice ta tn tc) (.slice pa pn pc), .bool q]) ∧ w'.there R 0 20 ∧ (w'.setCells R 0 (dnCells D (.slice ta tn tc) (.slice pa pn pc)).toList).rangeAt R 0 (dnCells D (.slice ta tn tc) (.slice pa pn pc)).toList ∧
      InDnB B D q w0 (.returned (.tuple #[dnV D (.slice ta tn tc) (.slice pa pn pc), .bool q])) (w'.setCells R 0 (dnCells D (.slice ta tn tc) (.slice pa pn pc)).toList) := by
  obtain ⟨tv, pv, rfl, ho, hk⟩ := hI
  obtain ⟨ta, tc, pa, pc, rfl, rfl⟩ := ho.at.form
  have hR' := hk.kept hR (by decide)
  have ht : w'.there R 0 20 := by rw [← hz]; exact there_of_block hR'
  exact ⟨ta, _, tc, pa, _, pc, rfl, ht, World.rangeAt_setCells_same _ _ _ _ ht, _, _, rfl, (ho.setCells _ hR').own, wk_setCells hB lr _ 0 (k.trans hk)⟩
theorem InDn.put {B R : Nat} {D : Dn} {w0 w1 w' : World} {e : Ending} {Z : Array Value} (q : Bool) (hI : InDn B D w1 e w') (k : Wk B w0 w1) (hB : B ≤ w0.heap.size) (lr : w0.heap.size ≤ R) (hR : w1.heap[R]? = some (.cells Z 43 (0, 0))) (hz : Z.size = 20) :
    ∃ ta tn tc pa pn pc, e = .returned (dnV D (.slice ta tn tc) (.slice pa pn pc)) ∧ w'.there R 0 20 ∧ (w'.setCells R 0 (dnCells D (.slice ta tn tc) (.slice pa pn pc)).toList).rangeAt R 0 (dnCells D (.slice ta tn tc) (.slice pa pn pc)).toList ∧
      InDnB B D q w0 (.returned (.tuple #[dnV D (.slice ta tn tc) (.slice pa pn pc), .bool q])) (w'.setCells R 0 (dnCells D (.slice ta tn tc) (.slice pa pn pc)).toList) := by
  obtain ⟨tv, pv, rfl, ho, hk⟩ := hI
  obtain ⟨ta, tc, pa, pc, rfl, rfl⟩ := ho.at.form
  have hR' := hk.kept hR (by decide)
  have ht : w'.there R 0 20 := by rw [← hz]; exact there_of_block hR'
  exact ⟨ta, _, tc, pa, _, pc, rfl, ht, World.rangeAt_setCells_same _ _ _ _ ht, _, _, rfl, (ho.setCells _ hR').own, wk_setCells hB lr _ 0 (k.trans hk)⟩

set_option maxRecDepth 100000 in
set_option maxHeartbeats 8000000 in
theorem l9Create_1n {B : Nat} {tv pv : Value} {M : Me} {h : Hd} {v : Et} {w : World} (a b c d : Int) (hw : workB a b c d = true) (hB : B ≤ w.heap.size) (hk : homeN a d < M.pn) (hn : (M.p (homeN a d)).n ≤ 1048576) (htn : M.tn ≤ 1048576) (ht : 0 ≤ h.tim → h.tim.toNat < M.tn) (hg : ∀ i, i < M.tn → 0 ≤ (M.t i).ge ∧ (M.t i).ge ≤ 100000) (hp : h.pos = 1) (hc : ¬ h.call.code = 1) (hm : OwnMem w B tv pv M) :
    Calls Tryz.prog 18 #[.agg #[.int .i64 a, .int .i64 b, .int .i64 c], dnV ⟨M, h, v⟩ tv pv, .int .i64 d] w (InDnB B (if createB ⟨M, h, v⟩ then createD c d (homeN a d) ⟨M, h, v⟩ else dn0) (createB ⟨M, h, v⟩) w) := by
  rw [show InDnB B (if createB ⟨M, h, v⟩ then createD c d (homeN a d) ⟨M, h, v⟩ else dn0) (createB ⟨M, h, v⟩) w = InDnB B dn0 false w by
    have e : createB ⟨M, h, v⟩ = false := by simp [createB, hp, hc]
    rw [e]; rfl]
  have q1 : (h.pos == 1) = true := by simpa using hp
  have q2 : (h.call.code == 1) = false := by simpa using hc
  have q3 : (h.call.code != 1) = true := by simpa using hc
  clear hp hc
  have eh : homeI a b c d = ((homeN a d : Nat) : Int) := by
    obtain ⟨hp, n1, n2⟩ := workB_iff.1 hw
    obtain ⟨⟨a1, a2⟩, _⟩ := planB_iff.1 hp
    rw [homeI, if_pos hw, homeN, Int.toNat_of_nonneg (Int.emod_nonneg _ (by omega))]
  have kP := (Below.refl w.heap.size w).alloc (Nat.le_refl _) (.cells #[.int .i64 a, .int .i64 b, .int .i64 c] 46)
  have KP : Wk B w (w.alloc (.cells #[.int .i64 a, .int .i64 b, .int .i64 c] 46)) := Wk.of_new kP hB
  have hP := heap_alloc_new w (.cells #[.int .i64 a, .int .i64 b, .int .i64 c] 46)
  have hB1 : B ≤ (w.alloc (.cells #[.int .i64 a, .int .i64 b, .int .i64 c] 46)).heap.size := Nat.le_trans hB kP.size
  obtain ⟨pg, pc, V, rfl, ho⟩ := (hm.below kP).openP hk
  clear hm
  obtain ⟨ta, tc, hta⟩ := ho.t.row.form
  subst hta
  obtain ⟨w1, e1, s1⟩ := DSt.start h v hB1 ho
  clear ho kP
  rw [show (w.alloc (.cells #[.int .i64 a, .int .i64 b, .int .i64 c] 46)).heap.size = w.heap.size + 1 by simp] at s1
  have hP1 := s1.k.kept hP (by decide)
  obtain ⟨p0, p1, p2, _, _, _⟩ := three hP1
  go_enter Tryz.func18, Tryz.ntmps18
  go_upto_region 1 with fail
  rw [← e1.out]
  clear e1
  go_wp2_with fail
  go_at_call 35; refine (spHomeOf_any a b c d _).mono ?_; rw [eh]; rintro e w2 ⟨rfl, hb⟩
  have s2 := s1.below hb
  have hP2 := b_block hb hP1 (lt_of_block hP1)
  clear s1 hb hP1 hP p0 p1 p2 eh
  obtain ⟨p0, p1, p2, _, _, _⟩ := three hP2
  obtain ⟨x0, x1, x2, x3, x4, x5, x6, x7, x8, _⟩ := s2.cellsA
  have lB2 := s2.size.1
  go_upto_region 5 with fail
  refine wp_region_lit ?_
  refine wpList_plain rfl fun K0 hK0 => ?_
  go_simp
  refine hK0 _ _ ?_
  clear hK0 K0
  refine wpList_store_mid (by rfl) 43 _ _ (by rfl) _ 0 #[.int .i64 0, .slice none 0 0, .slice none 0 0, .int .i64 0, .int .i64 0, .int .i64 0, .int .i64 0, .int .i64 0, .int .i64 0, .int .i64 0, .bool false, .int .i64 0, .int .i64 0, .int .i64 0, .int .i64 0, .int .i64 0, .int .i64 0, .int .i64 0, .int .i64 0, .int .i64 0] (by rfl) (by rfl) s2.there done_info (by simp [Value.oneCell']) ?_
  go_wp2
  exact bodyPost_ret (v := .tuple #[.agg #[.int .i64 0, .slice none 0 0, .slice none 0 0, .int .i64 0, .int .i64 0, .int .i64 0, .int .i64 0, .int .i64 0, .int .i64 0, .int .i64 0, .bool false, .int .i64 0, .int .i64 0, .int .i64 0, .int .i64 0, .int .i64 0, .int .i64 0, .int .i64 0, .int .i64 0, .int .i64 0], .bool false]) (results_pair (cs := [.int .i64 0, .slice none 0 0, .slice none 0 0, .int .i64 0, .int .i64 0, .int .i64 0, .int .i64 0, .int .i64 0, .int .i64 0, .int .i64 0, .bool false, .int .i64 0, .int .i64 0, .int .i64 0, .int .i64 0, .int .i64 0, .int .i64 0, .int .i64 0, .int .i64 0, .int .i64 0]) rfl rfl rfl s2.zlies Tryz.underlying43 rfl done_info) rfl (s2.zeroC.up KP)

set_option maxRecDepth 100000 in
set_option maxHeartbeats 8000000 in
theorem l9Create_1y {B : Nat} {tv pv : Value} {M : Me} {h : Hd} {v : Et} {w : World} (a b c d : Int) (hw : workB a b c d = true) (hB : B ≤ w.heap.size) (hk : homeN a d < M.pn) (hn : (M.p (homeN a d)).n ≤ 1048576) (htn : M.tn ≤ 1048576) (ht : 0 ≤ h.tim → h.tim.toNat < M.tn) (hg : ∀ i, i < M.tn → 0 ≤ (M.t i).ge ∧ (M.t i).ge ≤ 100000) (hp : h.pos = 1) (hc : h.call.code = 1) (hm : OwnMem w B tv pv M) :
    Calls Tryz.prog 18 #[.agg #[.int .i64 a, .int .i64 b, .int .i64 c], dnV ⟨M, h, v⟩ tv pv, .int .i64 d] w (InDnB B (if createB ⟨M, h, v⟩ then createD c d (homeN a d) ⟨M, h, v⟩ else dn0) (createB ⟨M, h, v⟩) w) := by
  rw [show InDnB B (if createB ⟨M, h, v⟩ then createD c d (homeN a d) ⟨M, h, v⟩ else dn0) (createB ⟨M, h, v⟩) w = InDnB B (allocD c ⟨M, h, v⟩) true w by
    have e : createB ⟨M, h, v⟩ = true := by simp [createB, hp, hc]
    rw [e, if_pos rfl, createD, if_pos hp]]
  have q1 : (h.pos == 1) = true := by simpa using hp
  have q2 : (h.call.code == 1) = true := by simpa using hc
  have q3 : (h.call.code != 1) = false := by simpa using hc
  clear hp hc
  have eh : homeI a b c d = ((homeN a d : Nat) : Int) := by
    obtain ⟨hp, n1, n2⟩ := workB_iff.1 hw
    obtain ⟨⟨a1, a2⟩, _⟩ := planB_iff.1 hp
    rw [homeI, if_pos hw, homeN, Int.toNat_of_nonneg (Int.emod_nonneg _ (by omega))]
  have kP := (Below.refl w.heap.size w).alloc (Nat.le_refl _) (.cells #[.int .i64 a, .int .i64 b, .int .i64 c] 46)
  have KP : Wk B w (w.alloc (.cells #[.int .i64 a, .int .i64 b, .int .i64 c] 46)) := Wk.of_new kP hB
  have hP := heap_alloc_new w (.cells #[.int .i64 a, .int .i64 b, .int .i64 c] 46)
  have hB1 : B ≤ (w.alloc (.cells #[.int .i64 a, .int .i64 b, .int .i64 c] 46)).heap.size := Nat.le_trans hB kP.size
  obtain ⟨pg, pc, V, rfl, ho⟩ := (hm.below kP).openP hk
  clear hm
  obtain ⟨ta, tc, hta⟩ := ho.t.row.form
  subst hta
  obtain ⟨w1, e1, s1⟩ := DSt.start h v hB1 ho
  clear ho kP
  rw [show (w.alloc (.cells #[.int .i64 a, .int .i64 b, .int .i64 c] 46)).heap.size = w.heap.size + 1 by simp] at s1
  have hP1 := s1.k.kept hP (by decide)
  obtain ⟨p0, p1, p2, _, _, _⟩ := three hP1
  go_enter Tryz.func18, Tryz.ntmps18
  go_upto_region 1 with fail
  rw [← e1.out]
  clear e1
  go_wp2_with fail
  go_at_call 35; refine (spHomeOf_any a b c d _).mono ?_; rw [eh]; rintro e w2 ⟨rfl, hb⟩
  have s2 := s1.below hb
  have hP2 := b_block hb hP1 (lt_of_block hP1)
  clear s1 hb hP1 hP p0 p1 p2 eh
  obtain ⟨p0, p1, p2, _, _, _⟩ := three hP2
  obtain ⟨x0, x1, x2, x3, x4, x5, x6, x7, x8, _⟩ := s2.cellsA
  have lB2 := s2.size.1
  go_upto_region 6 with fail
  refine wp_region_lit ?_
  refine wpList_plain rfl fun K0 hK0 => ?_
  go_simp
  refine hK0 _ _ ?_
  clear hK0 K0
  refine wpList_load_mid (by rfl) 43 _ (by rfl) _ 0 (by rfl) [.int .i64 M.c, (.slice ta M.tn tc), (.slice (some ⟨pg, 0, none⟩) M.pn pc), .int .i64 h.pos, .int .i64 h.call.code, .int .i64 h.call.a, .int .i64 h.call.b, .int .i64 h.call.c, .int .i64 h.tim, .int .i64 h.whe, .bool h.had, .int .i64 h.cnt, .int .i64 h.beg, .int .i64 h.rep, .int .i64 h.out, .int .i64 v.kin, .int .i64 v.tim, .int .i64 v.gen, .int .i64 v.whe, .int .i64 v.clk] _ (range_of_block s2.a) Tryz.underlying43 rfl done_info ?_
  go_wp2_with fail
  go_at_call 36; refine (l9Alloc_any a b c lB2 (Nat.lt_of_le_of_lt (Nat.zero_le _) hk) htn s2.own).mono ?_
  rintro e w3 hI
  obtain ⟨ta3, tn3, tc3, pa3, pn3, pc3, rfl, th3, ra3, hA⟩ := hI.put true (KP.trans s2.k) hB (show w.heap.size ≤ w.heap.size + 1 + 1 by omega) s2.r rfl
  rename_i K1 hK1
  refine hK1 _ _ ?_
  clear hK1 K1
  refine wpList_store_mid (by rfl) 43 _ _ (by rfl) _ 0 (dnCells (allocD c ⟨M, h, v⟩) (.slice ta3 tn3 tc3) (.slice pa3 pn3 pc3)) (by rfl) (by rfl) th3 done_info (by simp [Value.oneCell']) ?_
  generalize hw4 : w3.setCells (w.heap.size + 1 + 1) 0 (dnCells (allocD c ⟨M, h, v⟩) (.slice ta3 tn3 tc3) (.slice pa3 pn3 pc3)).toList = w4 at ra3 hA ⊢
  clear hw4 th3
  go_wp2
  exact bodyPost_ret (v := .tuple #[dnV (allocD c ⟨M, h, v⟩) (.slice ta3 tn3 tc3) (.slice pa3 pn3 pc3), .bool true]) (results_pair (cs := (dnCells (allocD c ⟨M, h, v⟩) (.slice ta3 tn3 tc3) (.slice pa3 pn3 pc3)).toList) rfl rfl rfl ra3 Tryz.underlying43 rfl done_info) rfl hA

set_option maxRecDepth 100000 in
set_option maxHeartbeats 8000000 in
theorem l9Create_2 {B : Nat} {tv pv : Value} {M : Me} {h : Hd} {v : Et} {w : World} (a b c d : Int) (hw : workB a b c d = true) (hB : B ≤ w.heap.size) (hk : homeN a d < M.pn) (hn : (M.p (homeN a d)).n ≤ 1048576) (htn : M.tn ≤ 1048576) (ht : 0 ≤ h.tim → h.tim.toNat < M.tn) (hg : ∀ i, i < M.tn → 0 ≤ (M.t i).ge ∧ (M.t i).ge ≤ 100000) (hp : h.pos = 2) (hm : OwnMem w B tv pv M) :
    Calls Tryz.prog 18 #[.agg #[.int .i64 a, .int .i64 b, .int .i64 c], dnV ⟨M, h, v⟩ tv pv, .int .i64 d] w (InDnB B (if createB ⟨M, h, v⟩ then createD c d (homeN a d) ⟨M, h, v⟩ else dn0) (createB ⟨M, h, v⟩) w) := by
  rw [show InDnB B (if createB ⟨M, h, v⟩ then createD c d (homeN a d) ⟨M, h, v⟩ else dn0) (createB ⟨M, h, v⟩) w = InDnB B (lockD ⟨M, h, v⟩ d (homeN a d) 3) true w by
    have e : createB ⟨M, h, v⟩ = true := by simp [createB, hp]
    rw [e, if_pos rfl, createD, if_neg (by rw [hp]; decide), if_pos hp]]
  have q1 : (h.pos == 1) = false := by simp [hp]
  have q2 : (h.pos == 2) = true := by simp [hp]
  clear hp
  have eh : homeI a b c d = ((homeN a d : Nat) : Int) := by
    obtain ⟨hp, n1, n2⟩ := workB_iff.1 hw
    obtain ⟨⟨a1, a2⟩, _⟩ := planB_iff.1 hp
    rw [homeI, if_pos hw, homeN, Int.toNat_of_nonneg (Int.emod_nonneg _ (by omega))]
  have kP := (Below.refl w.heap.size w).alloc (Nat.le_refl _) (.cells #[.int .i64 a, .int .i64 b, .int .i64 c] 46)
  have KP : Wk B w (w.alloc (.cells #[.int .i64 a, .int .i64 b, .int .i64 c] 46)) := Wk.of_new kP hB
  have hP := heap_alloc_new w (.cells #[.int .i64 a, .int .i64 b, .int .i64 c] 46)
  have hB1 : B ≤ (w.alloc (.cells #[.int .i64 a, .int .i64 b, .int .i64 c] 46)).heap.size := Nat.le_trans hB kP.size
  obtain ⟨pg, pc, V, rfl, ho⟩ := (hm.below kP).openP hk
  clear hm
  obtain ⟨ta, tc, hta⟩ := ho.t.row.form
  subst hta
  obtain ⟨w1, e1, s1⟩ := DSt.start h v hB1 ho
  clear ho kP
  rw [show (w.alloc (.cells #[.int .i64 a, .int .i64 b, .int .i64 c] 46)).heap.size = w.heap.size + 1 by simp] at s1
  have hP1 := s1.k.kept hP (by decide)
  obtain ⟨p0, p1, p2, _, _, _⟩ := three hP1
  go_enter Tryz.func18, Tryz.ntmps18
  go_upto_region 1 with fail
  rw [← e1.out]
  clear e1
  go_wp2_with fail
  go_at_call 35; refine (spHomeOf_any a b c d _).mono ?_; rw [eh]; rintro e w2 ⟨rfl, hb⟩
  have s2 := s1.below hb
  have hP2 := b_block hb hP1 (lt_of_block hP1)
  clear s1 hb hP1 hP p0 p1 p2 eh
  obtain ⟨p0, p1, p2, _, _, _⟩ := three hP2
  obtain ⟨x0, x1, x2, x3, x4, x5, x6, x7, x8, _⟩ := s2.cellsA
  have lB2 := s2.size.1
  go_upto_region 8 with fail
  refine wp_region_lit ?_
  refine wpList_load_mid (by rfl) 43 _ (by rfl) _ 0 (by rfl) [.int .i64 M.c, (.slice ta M.tn tc), (.slice (some ⟨pg, 0, none⟩) M.pn pc), .int .i64 h.pos, .int .i64 h.call.code, .int .i64 h.call.a, .int .i64 h.call.b, .int .i64 h.call.c, .int .i64 h.tim, .int .i64 h.whe, .bool h.had, .int .i64 h.cnt, .int .i64 h.beg, .int .i64 h.rep, .int .i64 h.out, .int .i64 v.kin, .int .i64 v.tim, .int .i64 v.gen, .int .i64 v.whe, .int .i64 v.clk] _ (range_of_block s2.a) Tryz.underlying43 rfl done_info ?_
  go_wp2_with fail
  go_at_call 37; refine (l9Lock_any d 3 lB2 hk s2.own).mono ?_
  rintro e w3 hI
  obtain ⟨ta3, tn3, tc3, pa3, pn3, pc3, rfl, th3, ra3, hA⟩ := hI.put true (KP.trans s2.k) hB (show w.heap.size ≤ w.heap.size + 1 + 1 by omega) s2.r rfl
  rename_i K1 hK1
  refine hK1 _ _ ?_
  clear hK1 K1
  refine wpList_store_mid (by rfl) 43 _ _ (by rfl) _ 0 (dnCells (lockD ⟨M, h, v⟩ d (homeN a d) 3) (.slice ta3 tn3 tc3) (.slice pa3 pn3 pc3)) (by rfl) (by rfl) th3 done_info (by simp [Value.oneCell']) ?_
  generalize hw4 : w3.setCells (w.heap.size + 1 + 1) 0 (dnCells (lockD ⟨M, h, v⟩ d (homeN a d) 3) (.slice ta3 tn3 tc3) (.slice pa3 pn3 pc3)).toList = w4 at ra3 hA ⊢
  clear hw4 th3
  go_wp2
  exact bodyPost_ret (v := .tuple #[dnV (lockD ⟨M, h, v⟩ d (homeN a d) 3) (.slice ta3 tn3 tc3) (.slice pa3 pn3 pc3), .bool true]) (results_pair (cs := (dnCells (lockD ⟨M, h, v⟩ d (homeN a d) 3) (.slice ta3 tn3 tc3) (.slice pa3 pn3 pc3)).toList) rfl rfl rfl ra3 Tryz.underlying43 rfl done_info) rfl hA

set_option maxRecDepth 100000 in
set_option maxHeartbeats 8000000 in
theorem l9Create_3 {B : Nat} {tv pv : Value} {M : Me} {h : Hd} {v : Et} {w : World} (a b c d : Int) (hw : workB a b c d = true) (hB : B ≤ w.heap.size) (hk : homeN a d < M.pn) (hn : (M.p (homeN a d)).n ≤ 1048576) (htn : M.tn ≤ 1048576) (ht : 0 ≤ h.tim → h.tim.toNat < M.tn) (hg : ∀ i, i < M.tn → 0 ≤ (M.t i).ge ∧ (M.t i).ge ≤ 100000) (hp : h.pos = 3) (hm : OwnMem w B tv pv M) :
    Calls Tryz.prog 18 #[.agg #[.int .i64 a, .int .i64 b, .int .i64 c], dnV ⟨M, h, v⟩ tv pv, .int .i64 d] w (InDnB B (if createB ⟨M, h, v⟩ then createD c d (homeN a d) ⟨M, h, v⟩ else dn0) (createB ⟨M, h, v⟩) w) := by
  obtain ⟨qq, hqq⟩ : ∃ qq, pushOk ⟨M, h, v⟩ = qq := ⟨_, rfl⟩
  obtain ⟨DD, hDD⟩ : ∃ DD, (if pushOk ⟨M, h, v⟩ then pushD ⟨M, h, v⟩ (homeN a d) else dn0) = DD := ⟨_, rfl⟩
  rw [show InDnB B (if createB ⟨M, h, v⟩ then createD c d (homeN a d) ⟨M, h, v⟩ else dn0) (createB ⟨M, h, v⟩) w = InDnB B DD qq w by
    have e : createB ⟨M, h, v⟩ = pushOk ⟨M, h, v⟩ := by simp [createB, hp]
    have e2 : createD c d (homeN a d) ⟨M, h, v⟩ = pushD ⟨M, h, v⟩ (homeN a d) := by simp [createD, hp]
    rw [e, e2, ← hDD, ← hqq]]
  have HD := Lib.hid hDD
  have HQ := Lib.hid hqq
  clear hDD hqq
  have q1 : (h.pos == 1) = false := by simp [hp]
  have q2 : (h.pos == 2) = false := by simp [hp]
  have q3 : (h.pos == 3) = true := by simp [hp]
  clear hp
  have eh : homeI a b c d = ((homeN a d : Nat) : Int) := by
    obtain ⟨hp, n1, n2⟩ := workB_iff.1 hw
    obtain ⟨⟨a1, a2⟩, _⟩ := planB_iff.1 hp
    rw [homeI, if_pos hw, homeN, Int.toNat_of_nonneg (Int.emod_nonneg _ (by omega))]
  have kP := (Below.refl w.heap.size w).alloc (Nat.le_refl _) (.cells #[.int .i64 a, .int .i64 b, .int .i64 c] 46)
  have KP : Wk B w (w.alloc (.cells #[.int .i64 a, .int .i64 b, .int .i64 c] 46)) := Wk.of_new kP hB
  have hP := heap_alloc_new w (.cells #[.int .i64 a, .int .i64 b, .int .i64 c] 46)
  have hB1 : B ≤ (w.alloc (.cells #[.int .i64 a, .int .i64 b, .int .i64 c] 46)).heap.size := Nat.le_trans hB kP.size
  obtain ⟨pg, pc, V, rfl, ho⟩ := (hm.below kP).openP hk
  clear hm
  obtain ⟨ta, tc, hta⟩ := ho.t.row.form
  subst hta
  obtain ⟨w1, e1, s1⟩ := DSt.start h v hB1 ho
  clear ho kP
  rw [show (w.alloc (.cells #[.int .i64 a, .int .i64 b, .int .i64 c] 46)).heap.size = w.heap.size + 1 by simp] at s1
  have hP1 := s1.k.kept hP (by decide)
  obtain ⟨p0, p1, p2, _, _, _⟩ := three hP1
  go_enter Tryz.func18, Tryz.ntmps18
  go_upto_region 1 with fail
  rw [← e1.out]
  clear e1
  go_wp2_with fail
  go_at_call 35; refine (spHomeOf_any a b c d _).mono ?_; rw [eh]; rintro e w2 ⟨rfl, hb⟩
  have s2 := s1.below hb
  have hP2 := b_block hb hP1 (lt_of_block hP1)
  clear s1 hb hP1 hP p0 p1 p2 eh
  obtain ⟨p0, p1, p2, _, _, _⟩ := three hP2
  obtain ⟨x0, x1, x2, x3, x4, x5, x6, x7, x8, _⟩ := s2.cellsA
  have lB2 := s2.size.1
  go_upto_region 10 with fail
  refine wp_region_lit ?_
  refine wpList_load_mid (by rfl) 43 _ (by rfl) _ 0 (by rfl) [.int .i64 M.c, (.slice ta M.tn tc), (.slice (some ⟨pg, 0, none⟩) M.pn pc), .int .i64 h.pos, .int .i64 h.call.code, .int .i64 h.call.a, .int .i64 h.call.b, .int .i64 h.call.c, .int .i64 h.tim, .int .i64 h.whe, .bool h.had, .int .i64 h.cnt, .int .i64 h.beg, .int .i64 h.rep, .int .i64 h.out, .int .i64 v.kin, .int .i64 v.tim, .int .i64 v.gen, .int .i64 v.whe, .int .i64 v.clk] _ (range_of_block s2.a) Tryz.underlying43 rfl done_info ?_
  have hPu := l9Push_any (k := homeN a d) (v := v) lB2 hk hn ht hg s2.own
  rw [HD.out, HQ.out] at hPu
  have HPu := Lib.hid hPu
  clear hPu HD HQ
  go_wp2_with fail
  go_at_call 38; refine HPu.out.mono ?_
  rintro e w3 hI
  obtain ⟨ta3, tn3, tc3, pa3, pn3, pc3, rfl, th3, ra3, hA⟩ := hI.put (KP.trans s2.k) hB (show w.heap.size ≤ w.heap.size + 1 + 1 by omega) s2.r rfl
  rename_i K1 hK1
  refine hK1 _ _ ?_
  clear hK1 K1
  refine wpList_plain rfl fun K0 hK0 => ?_
  go_simp
  refine hK0 _ _ ?_
  clear hK0 K0
  refine wpList_plain rfl fun K0 hK0 => ?_
  go_simp
  refine hK0 _ _ ?_
  clear hK0 K0
  refine wpList_store_mid (by rfl) 43 _ _ (by rfl) _ 0 (dnCells (DD) (.slice ta3 tn3 tc3) (.slice pa3 pn3 pc3)) (by rfl) (by rfl) th3 done_info (by simp [Value.oneCell']) ?_
  generalize hw4 : w3.setCells (w.heap.size + 1 + 1) 0 (dnCells (DD) (.slice ta3 tn3 tc3) (.slice pa3 pn3 pc3)).toList = w4 at ra3 hA ⊢
  clear hw4 th3
  go_wp2
  exact bodyPost_ret (v := .tuple #[dnV (DD) (.slice ta3 tn3 tc3) (.slice pa3 pn3 pc3), .bool qq]) (results_pair (cs := (dnCells (DD) (.slice ta3 tn3 tc3) (.slice pa3 pn3 pc3)).toList) rfl rfl rfl ra3 Tryz.underlying43 rfl done_info) rfl hA

set_option maxRecDepth 100000 in
set_option maxHeartbeats 8000000 in
theorem l9Create_4r {B : Nat} {tv pv : Value} {M : Me} {h : Hd} {v : Et} {w : World} (a b c d : Int) (hw : workB a b c d = true) (hB : B ≤ w.heap.size) (hk : homeN a d < M.pn) (hn : (M.p (homeN a d)).n ≤ 1048576) (htn : M.tn ≤ 1048576) (ht : 0 ≤ h.tim → h.tim.toNat < M.tn) (hg : ∀ i, i < M.tn → 0 ≤ (M.t i).ge ∧ (M.t i).ge ≤ 100000) (hp1 : ¬ h.pos = 1) (hp2 : ¬ h.pos = 2) (hp3 : ¬ h.pos = 3) (hc : h.call.code = 3) (hm : OwnMem w B tv pv M) :
    Calls Tryz.prog 18 #[.agg #[.int .i64 a, .int .i64 b, .int .i64 c], dnV ⟨M, h, v⟩ tv pv, .int .i64 d] w (InDnB B (if createB ⟨M, h, v⟩ then createD c d (homeN a d) ⟨M, h, v⟩ else dn0) (createB ⟨M, h, v⟩) w) := by
  rw [show InDnB B (if createB ⟨M, h, v⟩ then createD c d (homeN a d) ⟨M, h, v⟩ else dn0) (createB ⟨M, h, v⟩) w = InDnB B ⟨unlockM M d (homeN a d), (restHd 3 0), v⟩ true w by
    have e : createB ⟨M, h, v⟩ = true := by simp [createB, hp1, hp2, hp3]
    have e2 : createD c d (homeN a d) ⟨M, h, v⟩ = ⟨unlockM M d (homeN a d), (restHd 3 0), v⟩ := by simp [createD, hp1, hp2, hp3, freeD, hc]
    rw [e, e2, if_pos rfl]]
  have q1 : (h.pos == 1) = false := by simpa using hp1
  have q2 : (h.pos == 2) = false := by simpa using hp2
  have q3 : (h.pos == 3) = false := by simpa using hp3
  have q4 : (h.call.code == 3) = true := by simpa using hc
  clear hp1 hp2 hp3 hc
  have eh : homeI a b c d = ((homeN a d : Nat) : Int) := by
    obtain ⟨hp, n1, n2⟩ := workB_iff.1 hw
    obtain ⟨⟨a1, a2⟩, _⟩ := planB_iff.1 hp
    rw [homeI, if_pos hw, homeN, Int.toNat_of_nonneg (Int.emod_nonneg _ (by omega))]
  have kP := (Below.refl w.heap.size w).alloc (Nat.le_refl _) (.cells #[.int .i64 a, .int .i64 b, .int .i64 c] 46)
  have KP : Wk B w (w.alloc (.cells #[.int .i64 a, .int .i64 b, .int .i64 c] 46)) := Wk.of_new kP hB
  have hP := heap_alloc_new w (.cells #[.int .i64 a, .int .i64 b, .int .i64 c] 46)
  have hB1 : B ≤ (w.alloc (.cells #[.int .i64 a, .int .i64 b, .int .i64 c] 46)).heap.size := Nat.le_trans hB kP.size
  obtain ⟨pg, pc, V, rfl, ho⟩ := (hm.below kP).openP hk
  clear hm
  obtain ⟨ta, tc, hta⟩ := ho.t.row.form
  subst hta
  obtain ⟨w1, e1, s1⟩ := DSt.start h v hB1 ho
  clear ho kP
  rw [show (w.alloc (.cells #[.int .i64 a, .int .i64 b, .int .i64 c] 46)).heap.size = w.heap.size + 1 by simp] at s1
  have hP1 := s1.k.kept hP (by decide)
  obtain ⟨p0, p1, p2, _, _, _⟩ := three hP1
  go_enter Tryz.func18, Tryz.ntmps18
  go_upto_region 1 with fail
  rw [← e1.out]
  clear e1
  go_wp2_with fail
  go_at_call 35; refine (spHomeOf_any a b c d _).mono ?_; rw [eh]; rintro e w2 ⟨rfl, hb⟩
  have s2 := s1.below hb
  have hP2 := b_block hb hP1 (lt_of_block hP1)
  clear s1 hb hP1 hP p0 p1 p2 eh
  obtain ⟨p0, p1, p2, _, _, _⟩ := three hP2
  obtain ⟨x0, x1, x2, x3, x4, x5, x6, x7, x8, _⟩ := s2.cellsA
  have lB2 := s2.size.1
  have ec : (unlockM M d (homeN a d)).c = M.c := by unfold unlockM; split <;> rfl
  have ep : (unlockM M d (homeN a d)).pn = M.pn := by unfold unlockM; split <;> rfl
  have et : (unlockM M d (homeN a d)).tn = M.tn := by unfold unlockM; split <;> rfl
  go_upto_region 11 with fail
  go_wp2_with fail
  go_at_call 39; refine (l9Unlock_any d lB2 hk s2.own).mono ?_
  rintro e w3 hI
  obtain ⟨tv3, pg3, pc3, V3, rfl, ho3, hk3⟩ := hI.form ec ep hk
  obtain ⟨ta3, tc3, hta3⟩ := ho3.t.row.form
  rw [et] at hta3
  subst hta3
  obtain ⟨w4, e4, s4⟩ := s2.call ho3 hk3 ec ep
  have hA3 := hk3.kept s2.a (by decide)
  have f0 := unfrozen_of_block hA3 0; have f1 := unfrozen_of_block hA3 1; have f2 := unfrozen_of_block hA3 2
  have d0 : w3.cell? ⟨w.heap.size + 1, 0, none⟩ = some (.int .i64 M.c) := cell_of_block hA3 0
  have d1 : w3.cell? ⟨w.heap.size + 1, 1, none⟩ = some (.slice ta M.tn tc) := cell_of_block hA3 1
  have d2 : w3.cell? ⟨w.heap.size + 1, 2, none⟩ = some (.slice (some ⟨pg, 0, none⟩) M.pn pc) := cell_of_block hA3 2
  clear x0 x1 x2 x3 x4 x5 x6 x7 x8 p0 p1 p2
  go_upto_region 12 with fail
  rw [← e4.out]
  clear e4 f0 f1 f2 d0 d1 d2 hA3 hk3 ho3 s2 hP2
  obtain ⟨x0, x1, x2, x3, x4, x5, x6, x7, x8, x9, x10, x11, x12, x13, x14, x15, x16, x17, x18, x19, xf0, xf1, xf2, xf3, xf4, xf5, xf6, xf7, xf8, xf9, xf10, xf11, xf12, xf13, xf14, xf15, xf16, xf17, xf18, xf19⟩ := s4.cellsA
  go_upto_region 13 with fail
  go_wp2_with fail
  go_at_call 40; refine (spResting_any 3 0 _).mono ?_; rintro e w5 ⟨rfl, hb⟩
  have s5 := s4.below hb
  clear s4 hb x0 x1 x2 x3 x4 x5 x6 x7 x8 x9 x10 x11 x12 x13 x14 x15 x16 x17 x18 x19 xf0 xf1 xf2 xf3 xf4 xf5 xf6 xf7 xf8 xf9 xf10 xf11 xf12 xf13 xf14 xf15 xf16 xf17 xf18 xf19
  obtain ⟨x0, x1, x2, x3, x4, x5, x6, x7, x8, x9, x10, x11, x12, x13, x14, x15, x16, x17, x18, x19, xf0, xf1, xf2, xf3, xf4, xf5, xf6, xf7, xf8, xf9, xf10, xf11, xf12, xf13, xf14, xf15, xf16, xf17, xf18, xf19⟩ := s5.cellsA
  obtain ⟨w6, e6, s6⟩ := s5.hand_all (restHd 3 0)
  go_upto_region 15 with fail
  rw [← e6.out]
  clear e6 s5 x0 x1 x2 x3 x4 x5 x6 x7 x8 x9 x10 x11 x12 x13 x14 x15 x16 x17 x18 x19 xf0 xf1 xf2 xf3 xf4 xf5 xf6 xf7 xf8 xf9 xf10 xf11 xf12 xf13 xf14 xf15 xf16 xf17 xf18 xf19
  refine wp_region_lit ?_
  refine wpList_load_mid (by rfl) 43 _ (by rfl) _ 0 (by rfl) [.int .i64 M.c, (.slice ta3 M.tn tc3), (.slice (some ⟨pg3, 0, none⟩) M.pn pc3), .int .i64 (restHd 3 0).pos, .int .i64 (restHd 3 0).call.code, .int .i64 (restHd 3 0).call.a, .int .i64 (restHd 3 0).call.b, .int .i64 (restHd 3 0).call.c, .int .i64 (restHd 3 0).tim, .int .i64 (restHd 3 0).whe, .bool (restHd 3 0).had, .int .i64 (restHd 3 0).cnt, .int .i64 (restHd 3 0).beg, .int .i64 (restHd 3 0).rep, .int .i64 (restHd 3 0).out, .int .i64 v.kin, .int .i64 v.tim, .int .i64 v.gen, .int .i64 v.whe, .int .i64 v.clk] _ (range_of_block s6.a) Tryz.underlying43 rfl done_info ?_
  refine wpList_store_mid (by rfl) 43 _ _ (by rfl) _ 0 #[.int .i64 M.c, (.slice ta3 M.tn tc3), (.slice (some ⟨pg3, 0, none⟩) M.pn pc3), .int .i64 (restHd 3 0).pos, .int .i64 (restHd 3 0).call.code, .int .i64 (restHd 3 0).call.a, .int .i64 (restHd 3 0).call.b, .int .i64 (restHd 3 0).call.c, .int .i64 (restHd 3 0).tim, .int .i64 (restHd 3 0).whe, .bool (restHd 3 0).had, .int .i64 (restHd 3 0).cnt, .int .i64 (restHd 3 0).beg, .int .i64 (restHd 3 0).rep, .int .i64 (restHd 3 0).out, .int .i64 v.kin, .int .i64 v.tim, .int .i64 v.gen, .int .i64 v.whe, .int .i64 v.clk] (by rfl) (by rfl) s6.there done_info (by simp [Value.oneCell']) ?_
  go_wp2
  exact bodyPost_ret (v := .tuple #[.agg #[.int .i64 M.c, (.slice ta3 M.tn tc3), (.slice (some ⟨pg3, 0, none⟩) M.pn pc3), .int .i64 (restHd 3 0).pos, .int .i64 (restHd 3 0).call.code, .int .i64 (restHd 3 0).call.a, .int .i64 (restHd 3 0).call.b, .int .i64 (restHd 3 0).call.c, .int .i64 (restHd 3 0).tim, .int .i64 (restHd 3 0).whe, .bool (restHd 3 0).had, .int .i64 (restHd 3 0).cnt, .int .i64 (restHd 3 0).beg, .int .i64 (restHd 3 0).rep, .int .i64 (restHd 3 0).out, .int .i64 v.kin, .int .i64 v.tim, .int .i64 v.gen, .int .i64 v.whe, .int .i64 v.clk], .bool true]) (results_pair (cs := [.int .i64 M.c, (.slice ta3 M.tn tc3), (.slice (some ⟨pg3, 0, none⟩) M.pn pc3), .int .i64 (restHd 3 0).pos, .int .i64 (restHd 3 0).call.code, .int .i64 (restHd 3 0).call.a, .int .i64 (restHd 3 0).call.b, .int .i64 (restHd 3 0).call.c, .int .i64 (restHd 3 0).tim, .int .i64 (restHd 3 0).whe, .bool (restHd 3 0).had, .int .i64 (restHd 3 0).cnt, .int .i64 (restHd 3 0).beg, .int .i64 (restHd 3 0).rep, .int .i64 (restHd 3 0).out, .int .i64 v.kin, .int .i64 v.tim, .int .i64 v.gen, .int .i64 v.whe, .int .i64 v.clk]) rfl rfl rfl s6.lies Tryz.underlying43 rfl done_info) rfl ((s6.retC.toB true).up KP)

set_option maxRecDepth 100000 in
set_option maxHeartbeats 8000000 in
theorem l9Create_4n {B : Nat} {tv pv : Value} {M : Me} {h : Hd} {v : Et} {w : World} (a b c d : Int) (hw : workB a b c d = true) (hB : B ≤ w.heap.size) (hk : homeN a d < M.pn) (hn : (M.p (homeN a d)).n ≤ 1048576) (htn : M.tn ≤ 1048576) (ht : 0 ≤ h.tim → h.tim.toNat < M.tn) (hg : ∀ i, i < M.tn → 0 ≤ (M.t i).ge ∧ (M.t i).ge ≤ 100000) (hp1 : ¬ h.pos = 1) (hp2 : ¬ h.pos = 2) (hp3 : ¬ h.pos = 3) (hc : ¬ h.call.code = 3) (hm : OwnMem w B tv pv M) :
    Calls Tryz.prog 18 #[.agg #[.int .i64 a, .int .i64 b, .int .i64 c], dnV ⟨M, h, v⟩ tv pv, .int .i64 d] w (InDnB B (if createB ⟨M, h, v⟩ then createD c d (homeN a d) ⟨M, h, v⟩ else dn0) (createB ⟨M, h, v⟩) w) := by
  rw [show InDnB B (if createB ⟨M, h, v⟩ then createD c d (homeN a d) ⟨M, h, v⟩ else dn0) (createB ⟨M, h, v⟩) w = InDnB B ⟨unlockM M d (homeN a d), (restHd 1 (maxI h.tim 0)), v⟩ true w by
    have e : createB ⟨M, h, v⟩ = true := by simp [createB, hp1, hp2, hp3]
    have e2 : createD c d (homeN a d) ⟨M, h, v⟩ = ⟨unlockM M d (homeN a d), (restHd 1 (maxI h.tim 0)), v⟩ := by simp [createD, hp1, hp2, hp3, freeD, hc]
    rw [e, e2, if_pos rfl]]
  have q1 : (h.pos == 1) = false := by simpa using hp1
  have q2 : (h.pos == 2) = false := by simpa using hp2
  have q3 : (h.pos == 3) = false := by simpa using hp3
  have q4 : (h.call.code == 3) = false := by simpa using hc
  clear hp1 hp2 hp3 hc
  have eh : homeI a b c d = ((homeN a d : Nat) : Int) := by
    obtain ⟨hp, n1, n2⟩ := workB_iff.1 hw
    obtain ⟨⟨a1, a2⟩, _⟩ := planB_iff.1 hp
    rw [homeI, if_pos hw, homeN, Int.toNat_of_nonneg (Int.emod_nonneg _ (by omega))]
  have kP := (Below.refl w.heap.size w).alloc (Nat.le_refl _) (.cells #[.int .i64 a, .int .i64 b, .int .i64 c] 46)
  have KP : Wk B w (w.alloc (.cells #[.int .i64 a, .int .i64 b, .int .i64 c] 46)) := Wk.of_new kP hB
  have hP := heap_alloc_new w (.cells #[.int .i64 a, .int .i64 b, .int .i64 c] 46)
  have hB1 : B ≤ (w.alloc (.cells #[.int .i64 a, .int .i64 b, .int .i64 c] 46)).heap.size := Nat.le_trans hB kP.size
  obtain ⟨pg, pc, V, rfl, ho⟩ := (hm.below kP).openP hk
  clear hm
  obtain ⟨ta, tc, hta⟩ := ho.t.row.form
  subst hta
  obtain ⟨w1, e1, s1⟩ := DSt.start h v hB1 ho
  clear ho kP
  rw [show (w.alloc (.cells #[.int .i64 a, .int .i64 b, .int .i64 c] 46)).heap.size = w.heap.size + 1 by simp] at s1
  have hP1 := s1.k.kept hP (by decide)
  obtain ⟨p0, p1, p2, _, _, _⟩ := three hP1
  go_enter Tryz.func18, Tryz.ntmps18
  go_upto_region 1 with fail
  rw [← e1.out]
  clear e1
  go_wp2_with fail
  go_at_call 35; refine (spHomeOf_any a b c d _).mono ?_; rw [eh]; rintro e w2 ⟨rfl, hb⟩
  have s2 := s1.below hb
  have hP2 := b_block hb hP1 (lt_of_block hP1)
  clear s1 hb hP1 hP p0 p1 p2 eh
  obtain ⟨p0, p1, p2, _, _, _⟩ := three hP2
  obtain ⟨x0, x1, x2, x3, x4, x5, x6, x7, x8, _⟩ := s2.cellsA
  have lB2 := s2.size.1
  have ec : (unlockM M d (homeN a d)).c = M.c := by unfold unlockM; split <;> rfl
  have ep : (unlockM M d (homeN a d)).pn = M.pn := by unfold unlockM; split <;> rfl
  have et : (unlockM M d (homeN a d)).tn = M.tn := by unfold unlockM; split <;> rfl
  go_upto_region 11 with fail
  go_wp2_with fail
  go_at_call 39; refine (l9Unlock_any d lB2 hk s2.own).mono ?_
  rintro e w3 hI
  obtain ⟨tv3, pg3, pc3, V3, rfl, ho3, hk3⟩ := hI.form ec ep hk
  obtain ⟨ta3, tc3, hta3⟩ := ho3.t.row.form
  rw [et] at hta3
  subst hta3
  obtain ⟨w4, e4, s4⟩ := s2.call ho3 hk3 ec ep
  have hA3 := hk3.kept s2.a (by decide)
  have f0 := unfrozen_of_block hA3 0; have f1 := unfrozen_of_block hA3 1; have f2 := unfrozen_of_block hA3 2
  have d0 : w3.cell? ⟨w.heap.size + 1, 0, none⟩ = some (.int .i64 M.c) := cell_of_block hA3 0
  have d1 : w3.cell? ⟨w.heap.size + 1, 1, none⟩ = some (.slice ta M.tn tc) := cell_of_block hA3 1
  have d2 : w3.cell? ⟨w.heap.size + 1, 2, none⟩ = some (.slice (some ⟨pg, 0, none⟩) M.pn pc) := cell_of_block hA3 2
  clear x0 x1 x2 x3 x4 x5 x6 x7 x8 p0 p1 p2
  go_upto_region 12 with fail
  rw [← e4.out]
  clear e4 f0 f1 f2 d0 d1 d2 hA3 hk3 ho3 s2 hP2
  obtain ⟨x0, x1, x2, x3, x4, x5, x6, x7, x8, x9, x10, x11, x12, x13, x14, x15, x16, x17, x18, x19, xf0, xf1, xf2, xf3, xf4, xf5, xf6, xf7, xf8, xf9, xf10, xf11, xf12, xf13, xf14, xf15, xf16, xf17, xf18, xf19⟩ := s4.cellsA
  go_upto_region 14 with fail
  go_wp2_with fail
  go_at_call 41; refine (l1Max_any _ _ _).mono ?_; rintro x wp ⟨rfl, rfl⟩
  go_wp2_with fail
  go_at_call 40; refine (spResting_any 1 (maxI h.tim 0) _).mono ?_; rintro e w5 ⟨rfl, hb⟩
  have s5 := s4.below hb
  clear s4 hb x0 x1 x2 x3 x4 x5 x6 x7 x8 x9 x10 x11 x12 x13 x14 x15 x16 x17 x18 x19 xf0 xf1 xf2 xf3 xf4 xf5 xf6 xf7 xf8 xf9 xf10 xf11 xf12 xf13 xf14 xf15 xf16 xf17 xf18 xf19
  obtain ⟨x0, x1, x2, x3, x4, x5, x6, x7, x8, x9, x10, x11, x12, x13, x14, x15, x16, x17, x18, x19, xf0, xf1, xf2, xf3, xf4, xf5, xf6, xf7, xf8, xf9, xf10, xf11, xf12, xf13, xf14, xf15, xf16, xf17, xf18, xf19⟩ := s5.cellsA
  obtain ⟨w6, e6, s6⟩ := s5.hand_all (restHd 1 (maxI h.tim 0))
  go_upto_region 15 with fail
  rw [← e6.out]
  clear e6 s5 x0 x1 x2 x3 x4 x5 x6 x7 x8 x9 x10 x11 x12 x13 x14 x15 x16 x17 x18 x19 xf0 xf1 xf2 xf3 xf4 xf5 xf6 xf7 xf8 xf9 xf10 xf11 xf12 xf13 xf14 xf15 xf16 xf17 xf18 xf19
  refine wp_region_lit ?_
  refine wpList_load_mid (by rfl) 43 _ (by rfl) _ 0 (by rfl) [.int .i64 M.c, (.slice ta3 M.tn tc3), (.slice (some ⟨pg3, 0, none⟩) M.pn pc3), .int .i64 (restHd 1 (maxI h.tim 0)).pos, .int .i64 (restHd 1 (maxI h.tim 0)).call.code, .int .i64 (restHd 1 (maxI h.tim 0)).call.a, .int .i64 (restHd 1 (maxI h.tim 0)).call.b, .int .i64 (restHd 1 (maxI h.tim 0)).call.c, .int .i64 (restHd 1 (maxI h.tim 0)).tim, .int .i64 (restHd 1 (maxI h.tim 0)).whe, .bool (restHd 1 (maxI h.tim 0)).had, .int .i64 (restHd 1 (maxI h.tim 0)).cnt, .int .i64 (restHd 1 (maxI h.tim 0)).beg, .int .i64 (restHd 1 (maxI h.tim 0)).rep, .int .i64 (restHd 1 (maxI h.tim 0)).out, .int .i64 v.kin, .int .i64 v.tim, .int .i64 v.gen, .int .i64 v.whe, .int .i64 v.clk] _ (range_of_block s6.a) Tryz.underlying43 rfl done_info ?_
  refine wpList_store_mid (by rfl) 43 _ _ (by rfl) _ 0 #[.int .i64 M.c, (.slice ta3 M.tn tc3), (.slice (some ⟨pg3, 0, none⟩) M.pn pc3), .int .i64 (restHd 1 (maxI h.tim 0)).pos, .int .i64 (restHd 1 (maxI h.tim 0)).call.code, .int .i64 (restHd 1 (maxI h.tim 0)).call.a, .int .i64 (restHd 1 (maxI h.tim 0)).call.b, .int .i64 (restHd 1 (maxI h.tim 0)).call.c, .int .i64 (restHd 1 (maxI h.tim 0)).tim, .int .i64 (restHd 1 (maxI h.tim 0)).whe, .bool (restHd 1 (maxI h.tim 0)).had, .int .i64 (restHd 1 (maxI h.tim 0)).cnt, .int .i64 (restHd 1 (maxI h.tim 0)).beg, .int .i64 (restHd 1 (maxI h.tim 0)).rep, .int .i64 (restHd 1 (maxI h.tim 0)).out, .int .i64 v.kin, .int .i64 v.tim, .int .i64 v.gen, .int .i64 v.whe, .int .i64 v.clk] (by rfl) (by rfl) s6.there done_info (by simp [Value.oneCell']) ?_
  go_wp2
  exact bodyPost_ret (v := .tuple #[.agg #[.int .i64 M.c, (.slice ta3 M.tn tc3), (.slice (some ⟨pg3, 0, none⟩) M.pn pc3), .int .i64 (restHd 1 (maxI h.tim 0)).pos, .int .i64 (restHd 1 (maxI h.tim 0)).call.code, .int .i64 (restHd 1 (maxI h.tim 0)).call.a, .int .i64 (restHd 1 (maxI h.tim 0)).call.b, .int .i64 (restHd 1 (maxI h.tim 0)).call.c, .int .i64 (restHd 1 (maxI h.tim 0)).tim, .int .i64 (restHd 1 (maxI h.tim 0)).whe, .bool (restHd 1 (maxI h.tim 0)).had, .int .i64 (restHd 1 (maxI h.tim 0)).cnt, .int .i64 (restHd 1 (maxI h.tim 0)).beg, .int .i64 (restHd 1 (maxI h.tim 0)).rep, .int .i64 (restHd 1 (maxI h.tim 0)).out, .int .i64 v.kin, .int .i64 v.tim, .int .i64 v.gen, .int .i64 v.whe, .int .i64 v.clk], .bool true]) (results_pair (cs := [.int .i64 M.c, (.slice ta3 M.tn tc3), (.slice (some ⟨pg3, 0, none⟩) M.pn pc3), .int .i64 (restHd 1 (maxI h.tim 0)).pos, .int .i64 (restHd 1 (maxI h.tim 0)).call.code, .int .i64 (restHd 1 (maxI h.tim 0)).call.a, .int .i64 (restHd 1 (maxI h.tim 0)).call.b, .int .i64 (restHd 1 (maxI h.tim 0)).call.c, .int .i64 (restHd 1 (maxI h.tim 0)).tim, .int .i64 (restHd 1 (maxI h.tim 0)).whe, .bool (restHd 1 (maxI h.tim 0)).had, .int .i64 (restHd 1 (maxI h.tim 0)).cnt, .int .i64 (restHd 1 (maxI h.tim 0)).beg, .int .i64 (restHd 1 (maxI h.tim 0)).rep, .int .i64 (restHd 1 (maxI h.tim 0)).out, .int .i64 v.kin, .int .i64 v.tim, .int .i64 v.gen, .int .i64 v.whe, .int .i64 v.clk]) rfl rfl rfl s6.lies Tryz.underlying43 rfl done_info) rfl ((s6.retC.toB true).up KP)

theorem l9Create_any {B : Nat} {tv pv : Value} {M : Me} {h : Hd} {v : Et} {w : World} (a b c d : Int) (hw : workB a b c d = true) (hB : B ≤ w.heap.size) (hk : homeN a d < M.pn) (hn : (M.p (homeN a d)).n ≤ 1048576) (htn : M.tn ≤ 1048576) (ht : 0 ≤ h.tim → h.tim.toNat < M.tn) (hg : ∀ i, i < M.tn → 0 ≤ (M.t i).ge ∧ (M.t i).ge ≤ 100000) (hm : OwnMem w B tv pv M) :
    Calls Tryz.prog 18 #[.agg #[.int .i64 a, .int .i64 b, .int .i64 c], dnV ⟨M, h, v⟩ tv pv, .int .i64 d] w (InDnB B (if createB ⟨M, h, v⟩ then createD c d (homeN a d) ⟨M, h, v⟩ else dn0) (createB ⟨M, h, v⟩) w) := by
  by_cases h1 : h.pos = 1
  · by_cases hc : h.call.code = 1
    · exact l9Create_1y a b c d hw hB hk hn htn ht hg h1 hc hm
    · exact l9Create_1n a b c d hw hB hk hn htn ht hg h1 hc hm
  by_cases h2 : h.pos = 2
  · exact l9Create_2 a b c d hw hB hk hn htn ht hg h2 hm
  by_cases h3 : h.pos = 3
  · exact l9Create_3 a b c d hw hB hk hn htn ht hg h3 hm
  by_cases hc : h.call.code = 3
  · exact l9Create_4r a b c d hw hB hk hn htn ht hg h1 h2 h3 hc hm
  · exact l9Create_4n a b c d hw hB hk hn htn ht hg h1 h2 h3 hc hm

end Go.Proofs.YtflekodaiejflaaGreat

/-
  A step while it is made, in the program (chapter 9): shown.
-/
namespace Go.Proofs.YtflekodaiejflaaGreat
open Go.Deep Go.RowKit Go.Joins
set_option linter.unusedVariables false
set_option linter.unusedSimpArgs false

set_option maxRecDepth 100000 in
set_option maxHeartbeats 16000000 in
theorem done_any {w : World} {B mb db : Nat} {a b c d : Int} {D : Dn} (hs : sizeM D.m ≤ 1048576) (hB : B ≤ w.heap.size) (h : DeedX w B mb db a b c d D) :
    Calls Tryz.prog 47 #[ptrV db] w fun e w' => ∃ tv pv, e = .returned (dnV D tv pv) ∧ OwnMem w' B tv pv D.m ∧ Below w.heap.size w w' := by
  have k0 := (Below.refl w.heap.size w).alloc (Nat.le_refl _) (.cells #[.int .i64 0, .slice none 0 0, .slice none 0 0, .int .i64 0, .int .i64 0, .int .i64 0, .int .i64 0, .int .i64 0, .int .i64 0, .int .i64 0, .bool false, .int .i64 0, .int .i64 0, .int .i64 0, .int .i64 0, .int .i64 0, .int .i64 0, .int .i64 0, .int .i64 0, .int .i64 0] 43)
  have hR := heap_alloc_new w (.cells #[.int .i64 0, .slice none 0 0, .slice none 0 0, .int .i64 0, .int .i64 0, .int .i64 0, .int .i64 0, .int .i64 0, .int .i64 0, .int .i64 0, .bool false, .int .i64 0, .int .i64 0, .int .i64 0, .int .i64 0, .int .i64 0, .int .i64 0, .int .i64 0, .int .i64 0, .int .i64 0] 43)
  go_enter Tryz.func47, Tryz.ntmps47
  go_upto_region 1 with fail
  replace h := h.below k0
  have e0 : (w.alloc (.cells #[.int .i64 0, .slice none 0 0, .slice none 0 0, .int .i64 0, .int .i64 0, .int .i64 0, .int .i64 0, .int .i64 0, .int .i64 0, .int .i64 0, .bool false, .int .i64 0, .int .i64 0, .int .i64 0, .int .i64 0, .int .i64 0, .int .i64 0, .int .i64 0, .int .i64 0, .int .i64 0] 43)).heap.size = w.heap.size + 1 := by simp
  generalize w.alloc (.cells #[.int .i64 0, .slice none 0 0, .slice none 0 0, .int .i64 0, .int .i64 0, .int .i64 0, .int .i64 0, .int .i64 0, .int .i64 0, .int .i64 0, .bool false, .int .i64 0, .int .i64 0, .int .i64 0, .int .i64 0, .int .i64 0, .int .i64 0, .int .i64 0, .int .i64 0, .int .i64 0] 43) = w1 at h k0 hR e0 ⊢
  generalize hRb : w.heap.size = R at hR k0 e0 hB ⊢
  have kd := (Below.refl w1.heap.size w1).drew
  refine wp_region_T (fun w' => w'.cell? ⟨db, 0, none⟩ = some (ptrV mb) ∧ w'.cell? ⟨db, 2, none⟩ = some (.int .i64 D.h.pos) ∧ w'.cell? ⟨db, 3, none⟩ = some (.int .i64 D.h.call.code) ∧ w'.cell? ⟨db, 4, none⟩ = some (.int .i64 D.h.call.a) ∧ w'.cell? ⟨db, 5, none⟩ = some (.int .i64 D.h.call.b) ∧ w'.cell? ⟨db, 6, none⟩ = some (.int .i64 D.h.call.c) ∧ w'.cell? ⟨db, 7, none⟩ = some (.int .i64 D.h.tim) ∧ w'.cell? ⟨db, 8, none⟩ = some (.int .i64 D.h.whe) ∧ w'.cell? ⟨db, 9, none⟩ = some (.bool D.h.had) ∧ w'.cell? ⟨db, 10, none⟩ = some (.int .i64 D.h.cnt) ∧ w'.cell? ⟨db, 11, none⟩ = some (.int .i64 D.h.beg) ∧ w'.cell? ⟨db, 12, none⟩ = some (.int .i64 D.h.rep) ∧ w'.cell? ⟨db, 13, none⟩ = some (.int .i64 D.h.out) ∧ w'.cell? ⟨db, 14, none⟩ = some (.int .i64 D.v.kin) ∧ w'.cell? ⟨db, 15, none⟩ = some (.int .i64 D.v.tim) ∧ w'.cell? ⟨db, 16, none⟩ = some (.int .i64 D.v.gen) ∧ w'.cell? ⟨db, 17, none⟩ = some (.int .i64 D.v.whe) ∧ w'.cell? ⟨db, 18, none⟩ = some (.int .i64 D.v.clk)) 14 (by kernel_rfl) ?_
  have hS : w1.drew.cell? ⟨db, 0, none⟩ = some (ptrV mb) ∧ w1.drew.cell? ⟨db, 2, none⟩ = some (.int .i64 D.h.pos) ∧ w1.drew.cell? ⟨db, 3, none⟩ = some (.int .i64 D.h.call.code) ∧ w1.drew.cell? ⟨db, 4, none⟩ = some (.int .i64 D.h.call.a) ∧ w1.drew.cell? ⟨db, 5, none⟩ = some (.int .i64 D.h.call.b) ∧ w1.drew.cell? ⟨db, 6, none⟩ = some (.int .i64 D.h.call.c) ∧ w1.drew.cell? ⟨db, 7, none⟩ = some (.int .i64 D.h.tim) ∧ w1.drew.cell? ⟨db, 8, none⟩ = some (.int .i64 D.h.whe) ∧ w1.drew.cell? ⟨db, 9, none⟩ = some (.bool D.h.had) ∧ w1.drew.cell? ⟨db, 10, none⟩ = some (.int .i64 D.h.cnt) ∧ w1.drew.cell? ⟨db, 11, none⟩ = some (.int .i64 D.h.beg) ∧ w1.drew.cell? ⟨db, 12, none⟩ = some (.int .i64 D.h.rep) ∧ w1.drew.cell? ⟨db, 13, none⟩ = some (.int .i64 D.h.out) ∧ w1.drew.cell? ⟨db, 14, none⟩ = some (.int .i64 D.v.kin) ∧ w1.drew.cell? ⟨db, 15, none⟩ = some (.int .i64 D.v.tim) ∧ w1.drew.cell? ⟨db, 16, none⟩ = some (.int .i64 D.v.gen) ∧ w1.drew.cell? ⟨db, 17, none⟩ = some (.int .i64 D.v.whe) ∧ w1.drew.cell? ⟨db, 18, none⟩ = some (.int .i64 D.v.clk) := ⟨cell_of_block h.e 0, cell_of_block h.e 2, cell_of_block h.e 3, cell_of_block h.e 4, cell_of_block h.e 5, cell_of_block h.e 6, cell_of_block h.e 7, cell_of_block h.e 8, cell_of_block h.e 9, cell_of_block h.e 10, cell_of_block h.e 11, cell_of_block h.e 12, cell_of_block h.e 13, cell_of_block h.e 14, cell_of_block h.e 15, cell_of_block h.e 16, cell_of_block h.e 17, cell_of_block h.e 18⟩
  refine wpAnyT_take (i := 0) (v := ?v0_1) rfl (by kernel_rfl) (by kernel_rfl) (by kernel_rfl) (by kernel_rfl) (fun _ _ _ h => h) (Or.inl ⟨by rfl, ?hy0_1⟩) hS ?rest0_1
  case hy0_1 => intro w' hSw; obtain ⟨s0, s1, s2, s3, s4, s5, s6, s7, s8, s9, s10, s11, s12, s13, s14, s15, s16, s17⟩ := hSw; go_simp; try with_reducible rfl
  simp only [Act.put, List.setIfInBounds_toArray, List.set_cons_zero, List.set_cons_succ]
  refine wpAnyT_take (i := 1) (v := ?v1_2) rfl (by kernel_rfl) (by kernel_rfl) (by kernel_rfl) (by kernel_rfl) (fun _ _ _ h => h) (Or.inl ⟨by rfl, ?hy1_2⟩) hS ?rest1_2
  case hy1_2 => intro w' hSw; obtain ⟨s0, s1, s2, s3, s4, s5, s6, s7, s8, s9, s10, s11, s12, s13, s14, s15, s16, s17⟩ := hSw; go_simp; try with_reducible rfl
  simp only [Act.put, List.setIfInBounds_toArray, List.set_cons_zero, List.set_cons_succ]
  refine wpAnyT_take (i := 2) (v := ?v2_3) rfl (by kernel_rfl) (by kernel_rfl) (by kernel_rfl) (by kernel_rfl) (fun _ _ _ h => h) (Or.inl ⟨by rfl, ?hy2_3⟩) hS ?rest2_3
  case hy2_3 => intro w' hSw; obtain ⟨s0, s1, s2, s3, s4, s5, s6, s7, s8, s9, s10, s11, s12, s13, s14, s15, s16, s17⟩ := hSw; go_simp; try with_reducible rfl
  simp only [Act.put, List.setIfInBounds_toArray, List.set_cons_zero, List.set_cons_succ]
  refine wpAnyT_take (i := 3) (v := ?v3_4) rfl (by kernel_rfl) (by kernel_rfl) (by kernel_rfl) (by kernel_rfl) (fun _ _ _ h => h) (Or.inl ⟨by rfl, ?hy3_4⟩) hS ?rest3_4
  case hy3_4 => intro w' hSw; obtain ⟨s0, s1, s2, s3, s4, s5, s6, s7, s8, s9, s10, s11, s12, s13, s14, s15, s16, s17⟩ := hSw; go_simp; try with_reducible rfl
  simp only [Act.put, List.setIfInBounds_toArray, List.set_cons_zero, List.set_cons_succ]
  refine wpAnyT_take (i := 5) (v := ?v5_5) rfl (by kernel_rfl) (by kernel_rfl) (by kernel_rfl) (by kernel_rfl) (fun _ _ _ h => h) (Or.inl ⟨by rfl, ?hy5_5⟩) hS ?rest5_5
  case hy5_5 => intro w' hSw; obtain ⟨s0, s1, s2, s3, s4, s5, s6, s7, s8, s9, s10, s11, s12, s13, s14, s15, s16, s17⟩ := hSw; go_simp; try with_reducible rfl
  simp only [Act.put, List.setIfInBounds_toArray, List.set_cons_zero, List.set_cons_succ]
  refine wpAnyT_take (i := 6) (v := ?v6_6) rfl (by kernel_rfl) (by kernel_rfl) (by kernel_rfl) (by kernel_rfl) (fun _ _ _ h => h) (Or.inl ⟨by rfl, ?hy6_6⟩) hS ?rest6_6
  case hy6_6 => intro w' hSw; obtain ⟨s0, s1, s2, s3, s4, s5, s6, s7, s8, s9, s10, s11, s12, s13, s14, s15, s16, s17⟩ := hSw; go_simp; try with_reducible rfl
  simp only [Act.put, List.setIfInBounds_toArray, List.set_cons_zero, List.set_cons_succ]
  refine wpAnyT_take (i := 7) (v := ?v7_7) rfl (by kernel_rfl) (by kernel_rfl) (by kernel_rfl) (by kernel_rfl) (fun _ _ _ h => h) (Or.inl ⟨by rfl, ?hy7_7⟩) hS ?rest7_7
  case hy7_7 => intro w' hSw; obtain ⟨s0, s1, s2, s3, s4, s5, s6, s7, s8, s9, s10, s11, s12, s13, s14, s15, s16, s17⟩ := hSw; go_simp; try with_reducible rfl
  simp only [Act.put, List.setIfInBounds_toArray, List.set_cons_zero, List.set_cons_succ]
  refine wpAnyT_take (i := 8) (v := ?v8_8) rfl (by kernel_rfl) (by kernel_rfl) (by kernel_rfl) (by kernel_rfl) (fun _ _ _ h => h) (Or.inl ⟨by rfl, ?hy8_8⟩) hS ?rest8_8
  case hy8_8 => intro w' hSw; obtain ⟨s0, s1, s2, s3, s4, s5, s6, s7, s8, s9, s10, s11, s12, s13, s14, s15, s16, s17⟩ := hSw; go_simp; try with_reducible rfl
  simp only [Act.put, List.setIfInBounds_toArray, List.set_cons_zero, List.set_cons_succ]
  refine wpAnyT_take (i := 9) (v := ?v9_9) rfl (by kernel_rfl) (by kernel_rfl) (by kernel_rfl) (by kernel_rfl) (fun _ _ _ h => h) (Or.inl ⟨by rfl, ?hy9_9⟩) hS ?rest9_9
  case hy9_9 => intro w' hSw; obtain ⟨s0, s1, s2, s3, s4, s5, s6, s7, s8, s9, s10, s11, s12, s13, s14, s15, s16, s17⟩ := hSw; go_simp; try with_reducible rfl
  simp only [Act.put, List.setIfInBounds_toArray, List.set_cons_zero, List.set_cons_succ]
  refine wpAnyT_take (i := 10) (v := ?v10_10) rfl (by kernel_rfl) (by kernel_rfl) (by kernel_rfl) (by kernel_rfl) (fun _ _ _ h => h) (Or.inl ⟨by rfl, ?hy10_10⟩) hS ?rest10_10
  case hy10_10 => intro w' hSw; obtain ⟨s0, s1, s2, s3, s4, s5, s6, s7, s8, s9, s10, s11, s12, s13, s14, s15, s16, s17⟩ := hSw; go_simp; try with_reducible rfl
  simp only [Act.put, List.setIfInBounds_toArray, List.set_cons_zero, List.set_cons_succ]
  refine wpAnyT_take (i := 11) (v := ?v11_11) rfl (by kernel_rfl) (by kernel_rfl) (by kernel_rfl) (by kernel_rfl) (fun _ _ _ h => h) (Or.inl ⟨by rfl, ?hy11_11⟩) hS ?rest11_11
  case hy11_11 => intro w' hSw; obtain ⟨s0, s1, s2, s3, s4, s5, s6, s7, s8, s9, s10, s11, s12, s13, s14, s15, s16, s17⟩ := hSw; go_simp; try with_reducible rfl
  simp only [Act.put, List.setIfInBounds_toArray, List.set_cons_zero, List.set_cons_succ]
  refine wpAnyT_take (i := 12) (v := ?v12_12) rfl (by kernel_rfl) (by kernel_rfl) (by kernel_rfl) (by kernel_rfl) (fun _ _ _ h => h) (Or.inl ⟨by rfl, ?hy12_12⟩) hS ?rest12_12
  case hy12_12 => intro w' hSw; obtain ⟨s0, s1, s2, s3, s4, s5, s6, s7, s8, s9, s10, s11, s12, s13, s14, s15, s16, s17⟩ := hSw; go_simp; try with_reducible rfl
  simp only [Act.put, List.setIfInBounds_toArray, List.set_cons_zero, List.set_cons_succ]
  refine wpAnyT_one (i := 4) (by kernel_rfl) rfl (by rfl) fun K hK => ?_
  go_simp
  go_at_call 75; refine (memShown_any hs (show B ≤ w1.drew.heap.size from by show B ≤ w1.heap.size; omega) (h.below kd).o).mono ?_; rintro e w2 ⟨tv, pv, rfl, hO, hb⟩
  replace hb := kd.trans (hb.mono kd.size)
  have h2 := h.below hb
  replace hR := b_block hb hR (lt_of_block hR)
  have k2 := k0.trans (hb.mono (by omega))
  obtain ⟨ta, tc, pa, pc, ht, hp⟩ := hO.at.form
  subst ht hp
  have hS2 : w2.cell? ⟨db, 0, none⟩ = some (ptrV mb) ∧ w2.cell? ⟨db, 2, none⟩ = some (.int .i64 D.h.pos) ∧ w2.cell? ⟨db, 3, none⟩ = some (.int .i64 D.h.call.code) ∧ w2.cell? ⟨db, 4, none⟩ = some (.int .i64 D.h.call.a) ∧ w2.cell? ⟨db, 5, none⟩ = some (.int .i64 D.h.call.b) ∧ w2.cell? ⟨db, 6, none⟩ = some (.int .i64 D.h.call.c) ∧ w2.cell? ⟨db, 7, none⟩ = some (.int .i64 D.h.tim) ∧ w2.cell? ⟨db, 8, none⟩ = some (.int .i64 D.h.whe) ∧ w2.cell? ⟨db, 9, none⟩ = some (.bool D.h.had) ∧ w2.cell? ⟨db, 10, none⟩ = some (.int .i64 D.h.cnt) ∧ w2.cell? ⟨db, 11, none⟩ = some (.int .i64 D.h.beg) ∧ w2.cell? ⟨db, 12, none⟩ = some (.int .i64 D.h.rep) ∧ w2.cell? ⟨db, 13, none⟩ = some (.int .i64 D.h.out) ∧ w2.cell? ⟨db, 14, none⟩ = some (.int .i64 D.v.kin) ∧ w2.cell? ⟨db, 15, none⟩ = some (.int .i64 D.v.tim) ∧ w2.cell? ⟨db, 16, none⟩ = some (.int .i64 D.v.gen) ∧ w2.cell? ⟨db, 17, none⟩ = some (.int .i64 D.v.whe) ∧ w2.cell? ⟨db, 18, none⟩ = some (.int .i64 D.v.clk) := ⟨cell_of_block h2.e 0, cell_of_block h2.e 2, cell_of_block h2.e 3, cell_of_block h2.e 4, cell_of_block h2.e 5, cell_of_block h2.e 6, cell_of_block h2.e 7, cell_of_block h2.e 8, cell_of_block h2.e 9, cell_of_block h2.e 10, cell_of_block h2.e 11, cell_of_block h2.e 12, cell_of_block h2.e 13, cell_of_block h2.e 14, cell_of_block h2.e 15, cell_of_block h2.e 16, cell_of_block h2.e 17, cell_of_block h2.e 18⟩
  refine hK _ _ (.inr hS2) ?_
  clear hK K
  (try simp only [Act.put, List.setIfInBounds_toArray, List.set_cons_zero, List.set_cons_succ])
  refine wpAnyT_take (i := 13) (v := ?v13_13) rfl (by kernel_rfl) (by kernel_rfl) (by kernel_rfl) (by kernel_rfl) (fun _ _ _ h => h) (Or.inl ⟨by rfl, ?hy13_13⟩) hS2 ?rest13_13
  case hy13_13 => intro w' hSw; obtain ⟨s0, s1, s2, s3, s4, s5, s6, s7, s8, s9, s10, s11, s12, s13, s14, s15, s16, s17⟩ := hSw; go_simp; try with_reducible rfl
  simp only [Act.put, List.setIfInBounds_toArray, List.set_cons_zero, List.set_cons_succ]
  obtain ⟨cs, hcs⟩ : ∃ cs : Array Value, dnCells D (.slice ta D.m.tn tc) (.slice pa D.m.pn pc) = cs := ⟨_, rfl⟩
  rw [show Value.agg (dnCells D (.slice ta D.m.tn tc) (.slice pa D.m.pn pc)) = Value.agg cs from congrArg Value.agg hcs]
  have hsz : cs.size = 20 := by { rw [← hcs]; rfl }
  have hone : cs.all (·.oneCell') = true := by { rw [← hcs]; simp [Value.oneCell'] }
  have hst := run_store_letter (P := Tryz.prog) hsz hone w2 R (there_of_cells hR)
  refine wpAnyT_one (i := 14) (by kernel_rfl) rfl (by rfl) fun K hK => ?_
  go_simp
  refine hK _ _ (.inl rfl) ?_
  clear hK K
  (try simp only [Act.put, List.setIfInBounds_toArray, List.set_cons_zero, List.set_cons_succ])
  refine wpAnyT_done (by kernel_rfl) ?_ _
  have hR3 := heap_setCells (cs := cs) hR hsz
  have hO3 := OwnMemIn.own (hO.setCells cs.toList hR)
  have k3 := b_setCells (b := R) (Nat.le_refl _) cs.toList 0 k2
  clear hS hS2 hst k2 hR h h2 hO
  go_wp2
  subst hRb
  exact bodyPost_ret (v := .agg cs) (results_cell (cs := cs.toList) rfl rfl (range_of_block hR3) Tryz.underlying43 rfl (by rw [done_info]; simp [hsz])) rfl ⟨_, _, by rw [← hcs], hO3, k3⟩

end Go.Proofs.YtflekodaiejflaaGreat

/-
  A step's memory is no greater than the laws bear (chapters 9 to 14). No Go in sight.
-/
namespace Go.Proofs.YtflekodaiejflaaGreat
open Go.RowKit Go.Joins
set_option linter.unusedVariables false
set_option linter.unusedSimpArgs false

theorem Near.trans0 {M N K : Me} (h : Near M N) (tn : K.tn = N.tn) (pn : K.pn = N.pn) (c : K.c = N.c) (n : ∀ k, (K.p k).n ≤ (N.p k).n) : Near M K :=
  ⟨tn.trans h.tn, pn.trans h.pn, c.trans h.c, fun k => Nat.le_trans (n k) (h.n k)⟩
theorem near_sub {M K : Me} (tn : K.tn = M.tn) (pn : K.pn = M.pn) (c : K.c = M.c) (n : ∀ k, (K.p k).n ≤ (M.p k).n) : Near M K := (Near.refl M).trans0 tn pn c n
theorem setPc_le (M : Me) (t j : Nat) (x : Int) (k : Nat) : ((setPc M t j x).p k).n ≤ (M.p k).n := Nat.le_of_eq (setPc_n M t j x k)
theorem size_zero : sizeM me0 ≤ 1048576 := by decide
theorem size_add {a b c : Int} {M : Me} (T : Tm) (hf : MemFacts a b c M) : sizeM (addTm M T) ≤ 1048576 := by
  have h1 := (Near.refl M).size hf
  have h2 : sizeM (addTm M T) = sizeM M + 1 := by
    show M.tn + 1 + (M.pn + slotsP M.p M.pn) = M.tn + (M.pn + slotsP M.p M.pn) + 1
    omega
  have h3 : sizeM M ≤ 1000 := by
    have e := hf.pn
    have ht := hf.tn
    have hs : slotsP M.p M.pn ≤ 30 * M.pn := by
      have : ∀ m, m ≤ M.pn → slotsP M.p m ≤ 30 * m := by
        intro m
        induction m with
        | zero => intro _; simp [slotsP]
        | succ m ih =>
          intro h
          have h1 := ih (by omega)
          have h2 := hf.n m (by omega)
          show slotsP M.p m + (M.p m).n ≤ 30 * (m + 1)
          omega
      exact this _ (Nat.le_refl _)
    show M.tn + (M.pn + slotsP M.p M.pn) ≤ 1000
    omega
  omega
theorem near_lock (D : Dn) (d : Int) (k : Nat) (q : Int) : Near D.m (lockD D d k q).m := by
  unfold lockD
  split
  · exact near_sub rfl rfl rfl (setPc_le _ _ _ _)
  · exact Near.refl _
theorem near_unlock (M : Me) (d : Int) (k : Nat) : Near M (unlockM M d k) := by
  unfold unlockM
  split
  · exact near_sub rfl rfl rfl (setPc_le _ _ _ _)
  · exact Near.refl _
theorem near_push (D : Dn) (k : Nat) : Near D.m (pushD D k).m := by
  show Near D.m (pushedM D k)
  unfold pushedM
  have h : Near D.m (genM (keyedM D) D.h.tim.toNat) := by
    unfold keyedM
    split
    · exact near_sub rfl rfl rfl (fun _ => Nat.le_refl _)
    · exact near_sub rfl rfl rfl (fun _ => Nat.le_refl _)
  refine ⟨h.tn, h.pn, h.c, fun x => Nat.le_trans (pushM_n _ _ _ _) (Nat.succ_le_succ ?_)⟩
  unfold keyedM
  split <;> exact Nat.le_refl _
/-- the step of creating -/
theorem createG_size (a b c d : Int) (M : Me) (h : Hd) : sizeM (createG a b c d M h).m ≤ 1048576 := by
  unfold createG
  split
  · rename_i hq
    have hf : MemFacts a b c M := by
      rw [createQ, Bool.and_eq_true] at hq
      exact stepFit_facts hq.1
    unfold createD
    split
    · unfold allocD
      split
      · exact (Near.refl M).size hf
      · exact size_add _ hf
    split
    · exact (near_lock ⟨M, h, et0⟩ d _ _).size hf
    split
    · exact (near_push ⟨M, h, et0⟩ _).size hf
    · exact (near_unlock M d _).size hf
  · exact size_zero

end Go.Proofs.YtflekodaiejflaaGreat
