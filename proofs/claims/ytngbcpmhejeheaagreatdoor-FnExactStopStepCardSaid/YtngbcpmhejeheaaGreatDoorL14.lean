/-
  StopStep, in the program (chapter 10).
-/
import Derived.Test.YtngbcpmhejeheaaGreatDoorL13
import Derived.Test.YtngbcpmhejeheaaGreatDoorL10
import Derived.Test.YtngbcpmhejeheaaGreatDoorRows
import Derived.LaidLaws
import Derived.LaidHandle
import Derived.LaidSub
import Derived.LaidMore
import Derived.MakeChecks
import Derived.FnData
import Derived.Stop.LaidTwo
import Derived.Stop.Joined
namespace Go.Proofs.YtngbcpmhejeheaaGreatDoor
open Go.Deep Go.RowKit Go.Joins
set_option linter.unusedVariables false
set_option linter.unusedSimpArgs false

theorem enter_stop (args : Array Value) (w : World) : (callFunc 24 args).run Tryz.prog w = .ok (.enter 24 args) w := by
  simp [callFunc, Tryz.func24, Tryz.f24]

theorem try_stop (a b c d : Int) (h : Hd) {tv pv : Value} {M : Me} {w : World} {eb es en : Addr} (hs : sizeM M ≤ 1048576) (hE : ErrsAt w eb es en) (hm : MemAt w tv pv M) :
    Calls Tryz.prog 23 #[.agg #[.int .i64 a, .int .i64 b, .int .i64 c], meV M.c tv pv, .int .i64 d, hdV h, .func (.func 24) #[] #[]] w (NewDn (stopG a b c d M h) (stopQ a b c d M h) w) := by
  have hz := stopG_size a b c d M h
  unfold stopG stopQ at *
  cases hf : stepFit a b c d M h
  · exact tryStep_unfit _ enter_stop a b c d h hs hm hf
  · cases hq : (((h.pos == 5 && h.call.code == 2) || h.pos == 6) && stopB ⟨M, h, et0⟩)
    · exact tryStep_no _ enter_stop a b c d h hs hm (N := stopD ⟨M, h, et0⟩) (Lib.hid (fun W B mb db kW hB hD => by have := stop_does (hE.below kW) hf hB hD; rw [hq] at this; exact this)) hf
    · rw [hf, hq] at hz
      exact tryStep_yes _ enter_stop a b c d h hs hm (N := stopD ⟨M, h, et0⟩) hz (Lib.hid (fun W B mb db kW hB hD => by have := stop_does (hE.below kW) hf hB hD; rw [hq] at this; exact this)) hf

set_option maxRecDepth 100000 in
set_option maxHeartbeats 8000000 in
theorem imStopStep_any : ∀ (a b c d : Int) (h : Hd) (tv pv : Value) (M : Me) (w : World) (eb es en : Addr), sizeM M ≤ 1048576 → ErrsAt w eb es en → MemAt w tv pv M → Calls Tryz.prog 9 #[.agg #[.int .i64 a, .int .i64 b, .int .i64 c], meV M.c tv pv, .int .i64 d, hdV h] w (NewDn (stopG a b c d M h) (stopQ a b c d M h) w) := by
  intro a b c d h tv pv M w eb es en hs hE hm
  obtain ⟨N, hN⟩ : ∃ N, N = stopG a b c d M h := ⟨_, rfl⟩
  obtain ⟨q, hq⟩ : ∃ q, q = stopQ a b c d M h := ⟨_, rfl⟩
  have HT := Lib.hid (fun (tv pv : Value) (w : World) (hE : ErrsAt w eb es en) (hm : MemAt w tv pv M) => try_stop a b c d h hs hE hm)
  rw [← hN, ← hq] at HT ⊢
  clear hN hq
  obtain ⟨va, vc, qa, qc, rfl, rfl⟩ := hm.form
  have k0 := (((((Below.refl w.heap.size w).alloc (Nat.le_refl _) (.cells #[.int .i64 a, .int .i64 b, .int .i64 c] 46)).alloc (by simp) (memO M.c (.slice va M.tn vc) (.slice qa M.pn qc) 36)).alloc (by simp; omega) (.cells (hdCells h) 39)).alloc (by simp; omega) (.cells #[.int .i64 0, .slice none 0 0, .slice none 0 0, .int .i64 0, .int .i64 0, .int .i64 0, .int .i64 0, .int .i64 0, .int .i64 0, .int .i64 0, .bool false, .int .i64 0, .int .i64 0, .int .i64 0, .int .i64 0, .int .i64 0, .int .i64 0, .int .i64 0, .int .i64 0, .int .i64 0] 43))
  have hP := alloc_block (.cells #[.int .i64 0, .slice none 0 0, .slice none 0 0, .int .i64 0, .int .i64 0, .int .i64 0, .int .i64 0, .int .i64 0, .int .i64 0, .int .i64 0, .bool false, .int .i64 0, .int .i64 0, .int .i64 0, .int .i64 0, .int .i64 0, .int .i64 0, .int .i64 0, .int .i64 0, .int .i64 0] 43) (alloc_block (.cells (hdCells h) 39) (alloc_block (memO M.c (.slice va M.tn vc) (.slice qa M.pn qc) 36) (heap_alloc_new w (.cells #[.int .i64 a, .int .i64 b, .int .i64 c] 46))))
  have hX := heap_alloc_new (w.alloc (.cells #[.int .i64 a, .int .i64 b, .int .i64 c] 46)) (memO M.c (.slice va M.tn vc) (.slice qa M.pn qc) 36)
  rw [show (w.alloc (.cells #[.int .i64 a, .int .i64 b, .int .i64 c] 46)).heap.size = w.heap.size + 1 by simp] at hX
  replace hX := alloc_block (.cells #[.int .i64 0, .slice none 0 0, .slice none 0 0, .int .i64 0, .int .i64 0, .int .i64 0, .int .i64 0, .int .i64 0, .int .i64 0, .int .i64 0, .bool false, .int .i64 0, .int .i64 0, .int .i64 0, .int .i64 0, .int .i64 0, .int .i64 0, .int .i64 0, .int .i64 0, .int .i64 0] 43) (alloc_block (.cells (hdCells h) 39) hX)
  have hH := heap_alloc_new ((w.alloc (.cells #[.int .i64 a, .int .i64 b, .int .i64 c] 46)).alloc (memO M.c (.slice va M.tn vc) (.slice qa M.pn qc) 36)) (.cells (hdCells h) 39)
  rw [show ((w.alloc (.cells #[.int .i64 a, .int .i64 b, .int .i64 c] 46)).alloc (memO M.c (.slice va M.tn vc) (.slice qa M.pn qc) 36)).heap.size = w.heap.size + 1 + 1 by simp] at hH
  replace hH := alloc_block (.cells #[.int .i64 0, .slice none 0 0, .slice none 0 0, .int .i64 0, .int .i64 0, .int .i64 0, .int .i64 0, .int .i64 0, .int .i64 0, .int .i64 0, .bool false, .int .i64 0, .int .i64 0, .int .i64 0, .int .i64 0, .int .i64 0, .int .i64 0, .int .i64 0, .int .i64 0, .int .i64 0] 43) hH
  have hR := heap_alloc_new (((w.alloc (.cells #[.int .i64 a, .int .i64 b, .int .i64 c] 46)).alloc (memO M.c (.slice va M.tn vc) (.slice qa M.pn qc) 36)).alloc (.cells (hdCells h) 39)) (.cells #[.int .i64 0, .slice none 0 0, .slice none 0 0, .int .i64 0, .int .i64 0, .int .i64 0, .int .i64 0, .int .i64 0, .int .i64 0, .int .i64 0, .bool false, .int .i64 0, .int .i64 0, .int .i64 0, .int .i64 0, .int .i64 0, .int .i64 0, .int .i64 0, .int .i64 0, .int .i64 0] 43)
  rw [show (((w.alloc (.cells #[.int .i64 a, .int .i64 b, .int .i64 c] 46)).alloc (memO M.c (.slice va M.tn vc) (.slice qa M.pn qc) 36)).alloc (.cells (hdCells h) 39)).heap.size = w.heap.size + 1 + 1 + 1 by simp] at hR
  have HM := Lib.hid (hm.below k0)
  have HE := Lib.hid (hE.below k0)
  clear hE
  have s0 : ((((w.alloc (.cells #[.int .i64 a, .int .i64 b, .int .i64 c] 46)).alloc (memO M.c (.slice va M.tn vc) (.slice qa M.pn qc) 36)).alloc (.cells (hdCells h) 39)).alloc (.cells #[.int .i64 0, .slice none 0 0, .slice none 0 0, .int .i64 0, .int .i64 0, .int .i64 0, .int .i64 0, .int .i64 0, .int .i64 0, .int .i64 0, .bool false, .int .i64 0, .int .i64 0, .int .i64 0, .int .i64 0, .int .i64 0, .int .i64 0, .int .i64 0, .int .i64 0, .int .i64 0] 43)).heap.size = w.heap.size + 1 + 1 + 1 + 1 := by simp
  clear hm
  go_enter Tryz.func9, Tryz.ntmps9
  go_upto_region 1 with fail
  generalize (((w.alloc (.cells #[.int .i64 a, .int .i64 b, .int .i64 c] 46)).alloc (memO M.c (.slice va M.tn vc) (.slice qa M.pn qc) 36)).alloc (.cells (hdCells h) 39)).alloc (.cells #[.int .i64 0, .slice none 0 0, .slice none 0 0, .int .i64 0, .int .i64 0, .int .i64 0, .int .i64 0, .int .i64 0, .int .i64 0, .int .i64 0, .bool false, .int .i64 0, .int .i64 0, .int .i64 0, .int .i64 0, .int .i64 0, .int .i64 0, .int .i64 0, .int .i64 0, .int .i64 0] 43) = w1 at k0 hP hX hH hR HM HE s0 ⊢
  obtain ⟨p0, p1, p2, _, _, _⟩ := three hP
  obtain ⟨x0, x1, x2, _, _, _⟩ := three hX
  obtain ⟨h0, h1, h2, h3, h4, h5, h6, h7, h8, h9, h10, h11, _⟩ := twelve hH
  go_wp2_with fail
  go_at_call 23; refine (HT.out _ _ _ HE.out HM.out).mono ?_; rintro e w4 ⟨t4, p4, rfl, hO, hb⟩
  have lR := lt_of_block hR
  replace hR := b_block hb hR lR
  have k4 := k0.trans (hb.mono k0.size)
  clear p0 p1 p2 x0 x1 x2 h0 h1 h2 h3 h4 h5 h6 h7 h8 h9 h10 h11 hP hX hH HM k0 hb
  obtain ⟨ta, tc, pa, pc, ht, hp⟩ := hO.at.form
  subst ht hp
  obtain ⟨cs, hcs⟩ : ∃ cs : Array Value, dnCells N (.slice ta N.m.tn tc) (.slice pa N.m.pn pc) = cs := ⟨_, rfl⟩
  rw [show dnV N (.slice ta N.m.tn tc) (.slice pa N.m.pn pc) = Value.agg cs from congrArg Value.agg hcs]
  have hsz : cs.size = 20 := by { rw [← hcs]; rfl }
  have hone : cs.all (·.oneCell') = true := by { rw [← hcs]; simp [Value.oneCell'] }
  have hst := run_store_letter (P := Tryz.prog) hsz hone w4 (w.heap.size + 1 + 1 + 1) (there_of_cells hR)
  have hR5 := heap_setCells (cs := cs) hR hsz
  have hO5 := OwnMemIn.own (hO.setCells cs.toList hR)
  have k5 := b_setCells (b := w.heap.size + 1 + 1 + 1) (n := w.heap.size) (by omega) cs.toList 0 k4
  clear hR hO k4
  go_wp2
  exact bodyPost_ret (results_pair (cs := cs.toList) rfl rfl rfl (range_of_block hR5) Tryz.underlying43 rfl (by rw [done_info]; simp [hsz])) rfl ⟨_, _, by rw [← hcs]; rfl, hO5.mono (by omega), k5⟩

end Go.Proofs.YtngbcpmhejeheaaGreatDoor

/-
  What a row that lists the program's errors gives (chapter 10).
-/
namespace Go.Proofs.YtngbcpmhejeheaaGreatDoor
open Go.RowKit Go.Joins Go.ChangeShapes Go.WideShapes
set_option linter.unusedVariables false
set_option linter.unusedSimpArgs false

abbrev laidE : List (String × DataW Unit) := [("errors.errorType", Rows.laid_errors_errorType), ("loop.example/g00743/impl.errBusy", Rows.laid_loop_example_g00743_impl_errBusy), ("loop.example/g00743/impl.errSilent", Rows.laid_loop_example_g00743_impl_errSilent), ("loop.example/g00743/impl.errAbsent", Rows.laid_loop_example_g00743_impl_errAbsent)]
theorem g_errBusy : Tryz.prog.globalNamed "loop.example/g00743/impl.errBusy" = some 0 := by kernel_rfl
theorem t_errBusy : (Tryz.prog.globals[0]?).map (·.type) = some 110 := by kernel_rfl
theorem g_errSilent : Tryz.prog.globalNamed "loop.example/g00743/impl.errSilent" = some 3 := by kernel_rfl
theorem t_errSilent : (Tryz.prog.globals[3]?).map (·.type) = some 110 := by kernel_rfl
theorem g_errAbsent : Tryz.prog.globalNamed "loop.example/g00743/impl.errAbsent" = some 1 := by kernel_rfl
theorem t_errAbsent : (Tryz.prog.globals[1]?).map (·.type) = some 110 := by kernel_rfl
theorem g_errType : Tryz.prog.globalNamed "errors.errorType" = some 2 := by kernel_rfl
theorem erStar : "*" ++ "errors.errorString" = "*errors.errorString" := by decide
theorem erRow (u : TypeId) (h : Tryz.prog.typeName? 3 u = some "*errors.errorString") : u = 195 :=
  typeName_ptr_named (nm := "errors.errorString") (by rw [erStar]; kernel_rfl) (by kernel_rfl) (by decide) u (by rw [erStar]; exact h)
theorem erCells : Tryz.prog.cellsOf 216 = 1 := by kernel_rfl
theorem erCellsS : Tryz.prog.cellsOf 9 = 1 := by kernel_rfl
theorem erRt : (Tryz.prog.cutTypes.find? (·.1 == "internal/reflectlite.rtype")).map (·.2) = some 168 := by kernel_rfl
theorem erOneRow : ((List.range Tryz.prog.types.size).filter fun t => Tryz.prog.rowNamed t [101, 114, 114, 111, 114]) = [110] := by kernel_rfl

theorem handle_of_laid {W : World} (h : laidMetH Tryz.prog laidE W) : W.cell? ⟨2, 0, none⟩ = some (.iface 168 (.agg #[.pointer (some ⟨4, 110, none⟩)])) := by
  have h2 := (laidMetH_iff.1 h).2
  obtain ⟨name, u, ty, e1, e2, e3, e4, e5⟩ := h2 ("errors.errorType", Rows.laid_errors_errorType) (by rw [show (laidE.filter fun x => x.2.handleName?.isSome) = [("errors.errorType", Rows.laid_errors_errorType)] by kernel_rfl]; exact List.mem_singleton.2 rfl)
  have en : name = [101, 114, 114, 111, 114] := (Option.some.inj e1).symm
  subst en
  obtain rfl := Option.some.inj (erRt.symm.trans e2)
  have hm : ty ∈ (List.range Tryz.prog.types.size).filter fun t => Tryz.prog.rowNamed t [101, 114, 114, 111, 114] := List.mem_filter.2 ⟨List.mem_range.2 e3, e4⟩
  rw [erOneRow] at hm
  obtain rfl := List.mem_singleton.1 hm
  have hh : typeHandle Tryz.prog 110 = .pointer (some ⟨4, 110, none⟩) := by kernel_rfl
  rw [hh] at e5
  simpa using World.var?_cell g_errType e5 0

theorem two_s {W : World} (h : laidMetH Tryz.prog laidE W) : laidMet Tryz.prog [("loop.example/g00743/impl.errBusy", Rows.laid_loop_example_g00743_impl_errBusy), ("loop.example/g00743/impl.errSilent", Rows.laid_loop_example_g00743_impl_errSilent)] W := by
  have h1 := h.filter (fun x => x.1 == "loop.example/g00743/impl.errBusy" || x.1 == "loop.example/g00743/impl.errSilent")
  rw [show laidE.filter (fun x => x.1 == "loop.example/g00743/impl.errBusy" || x.1 == "loop.example/g00743/impl.errSilent") = [("loop.example/g00743/impl.errBusy", Rows.laid_loop_example_g00743_impl_errBusy), ("loop.example/g00743/impl.errSilent", Rows.laid_loop_example_g00743_impl_errSilent)] by kernel_rfl] at h1
  rwa [MakeChecks.laidMetH_plain _ _ _ (by kernel_rfl)] at h1
theorem two_n {W : World} (h : laidMetH Tryz.prog laidE W) : laidMet Tryz.prog [("loop.example/g00743/impl.errBusy", Rows.laid_loop_example_g00743_impl_errBusy), ("loop.example/g00743/impl.errAbsent", Rows.laid_loop_example_g00743_impl_errAbsent)] W := by
  have h1 := h.filter (fun x => x.1 == "loop.example/g00743/impl.errBusy" || x.1 == "loop.example/g00743/impl.errAbsent")
  rw [show laidE.filter (fun x => x.1 == "loop.example/g00743/impl.errBusy" || x.1 == "loop.example/g00743/impl.errAbsent") = [("loop.example/g00743/impl.errBusy", Rows.laid_loop_example_g00743_impl_errBusy), ("loop.example/g00743/impl.errAbsent", Rows.laid_loop_example_g00743_impl_errAbsent)] by kernel_rfl] at h1
  rwa [MakeChecks.laidMetH_plain _ _ _ (by kernel_rfl)] at h1
theorem errs_of_laid {W : World} (h : laidMetH Tryz.prog laidE W) : ∃ eb es en, ErrsAt W eb es en := by
  obtain ⟨eb, es, _, _, c0, c1, t0, t1, hv0, hv1, _, _, _, _, _, _, hne, hb0, hb1⟩ := laid_sentinels2 (two_s h) g_errBusy t_errBusy g_errSilent t_errSilent Tryz.underlying110 erRow Tryz.underlying195 Tryz.underlying216 rfl rfl Tryz.underlying9 erCells erCellsS
  obtain ⟨eb', en, _, _, c2, c3, t2, t3, hv2, hv3, _, _, _, _, _, _, hne2, hb2, hb3⟩ := laid_sentinels2 (two_n h) g_errBusy t_errBusy g_errAbsent t_errAbsent Tryz.underlying110 erRow Tryz.underlying195 Tryz.underlying216 rfl rfl Tryz.underlying9 erCells erCellsS
  obtain rfl : eb = eb' := by
    have e := hv0.symm.trans hv2
    simpa using e
  exact ⟨eb, es, en, by simpa using World.var?_cell g_errBusy hv0 0, by simpa using World.var?_cell g_errSilent hv1 0, by simpa using World.var?_cell g_errAbsent hv3 0, handle_of_laid h, ⟨c0, t0, hb0⟩, ⟨c1, t1, hb1⟩, ⟨c3, t3, hb3⟩, fun e => hne e.symm, fun e => hne2 e.symm⟩

/-- the door's own heap meets the condition -/
theorem door_metE (os : Os) (args : Array Value) : laidMetH Tryz.prog laidE ((World.doorLaid Tryz.prog 73 os).forCall (fun _ _ => 0) ⟨#[], args, []⟩).memory :=
  laidMetH_of_parts3 (fuel := 8) (laidMet_of_run' 8 (by kernel_rfl) (by kernel_rfl)) (by kernel_rfl) (by kernel_rfl)
theorem laidOutE : laidOutB Tryz.prog = true := by kernel_rfl

end Go.Proofs.YtngbcpmhejeheaaGreatDoor
