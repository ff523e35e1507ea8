/-
  What a row that lists the program's three errors alone gives (chapter 11).
-/
import Derived.Test.YtflekodaiejflaaGreatDoorR19
namespace Go.Proofs.YtflekodaiejflaaGreatDoor
open Go.RowKit Go.Joins Go.ChangeShapes Go.WideShapes
set_option linter.unusedVariables false
set_option linter.unusedSimpArgs false

abbrev laidL : List (String × DataW Unit) := [("loop.example/g00743/impl.errBusy", Rows.laid_loop_example_g00743_impl_errBusy), ("loop.example/g00743/impl.errSilent", Rows.laid_loop_example_g00743_impl_errSilent), ("loop.example/g00743/impl.errAbsent", Rows.laid_loop_example_g00743_impl_errAbsent)]
theorem two_sL {W : World} (h : laidMetH Tryz.prog laidL W) : laidMet Tryz.prog [("loop.example/g00743/impl.errBusy", Rows.laid_loop_example_g00743_impl_errBusy), ("loop.example/g00743/impl.errSilent", Rows.laid_loop_example_g00743_impl_errSilent)] W := by
  have h1 := h.filter (fun z => z.1 == "loop.example/g00743/impl.errBusy" || z.1 == "loop.example/g00743/impl.errSilent")
  rw [show laidL.filter (fun z => z.1 == "loop.example/g00743/impl.errBusy" || z.1 == "loop.example/g00743/impl.errSilent") = [("loop.example/g00743/impl.errBusy", Rows.laid_loop_example_g00743_impl_errBusy), ("loop.example/g00743/impl.errSilent", Rows.laid_loop_example_g00743_impl_errSilent)] by kernel_rfl] at h1
  rwa [MakeChecks.laidMetH_plain _ _ _ (by kernel_rfl)] at h1
theorem two_nL {W : World} (h : laidMetH Tryz.prog laidL W) : laidMet Tryz.prog [("loop.example/g00743/impl.errBusy", Rows.laid_loop_example_g00743_impl_errBusy), ("loop.example/g00743/impl.errAbsent", Rows.laid_loop_example_g00743_impl_errAbsent)] W := by
  have h1 := h.filter (fun z => z.1 == "loop.example/g00743/impl.errBusy" || z.1 == "loop.example/g00743/impl.errAbsent")
  rw [show laidL.filter (fun z => z.1 == "loop.example/g00743/impl.errBusy" || z.1 == "loop.example/g00743/impl.errAbsent") = [("loop.example/g00743/impl.errBusy", Rows.laid_loop_example_g00743_impl_errBusy), ("loop.example/g00743/impl.errAbsent", Rows.laid_loop_example_g00743_impl_errAbsent)] by kernel_rfl] at h1
  rwa [MakeChecks.laidMetH_plain _ _ _ (by kernel_rfl)] at h1
theorem two_sn {W : World} (h : laidMetH Tryz.prog laidL W) : laidMet Tryz.prog [("loop.example/g00743/impl.errSilent", Rows.laid_loop_example_g00743_impl_errSilent), ("loop.example/g00743/impl.errAbsent", Rows.laid_loop_example_g00743_impl_errAbsent)] W := by
  have h1 := h.filter (fun z => z.1 == "loop.example/g00743/impl.errSilent" || z.1 == "loop.example/g00743/impl.errAbsent")
  rw [show laidL.filter (fun z => z.1 == "loop.example/g00743/impl.errSilent" || z.1 == "loop.example/g00743/impl.errAbsent") = [("loop.example/g00743/impl.errSilent", Rows.laid_loop_example_g00743_impl_errSilent), ("loop.example/g00743/impl.errAbsent", Rows.laid_loop_example_g00743_impl_errAbsent)] by kernel_rfl] at h1
  rwa [MakeChecks.laidMetH_plain _ _ _ (by kernel_rfl)] at h1
theorem errs_of_laidL {W : World} (h : laidMetH Tryz.prog laidL W) : ∃ eb es en, ErrsLo W eb es en := by
  obtain ⟨eb, es, _, _, c0, c1, t0, t1, hv0, hv1, _, _, _, _, _, _, hne, hb0, hb1⟩ := laid_sentinels2 (two_sL h) g_errBusy t_errBusy g_errSilent t_errSilent Tryz.underlying112 erRow Tryz.underlying199 Tryz.underlying220 rfl rfl Tryz.underlying9 erCells erCellsS
  obtain ⟨eb', en, _, _, c2, c3, t2, t3, hv2, hv3, _, _, _, _, _, _, hne2, hb2, hb3⟩ := laid_sentinels2 (two_nL h) g_errBusy t_errBusy g_errAbsent t_errAbsent Tryz.underlying112 erRow Tryz.underlying199 Tryz.underlying220 rfl rfl Tryz.underlying9 erCells erCellsS
  obtain ⟨es', en', _, _, c4, c5, t4, t5, hv4, hv5, _, _, _, _, _, _, hne3, hb4, hb5⟩ := laid_sentinels2 (two_sn h) g_errSilent t_errSilent g_errAbsent t_errAbsent Tryz.underlying112 erRow Tryz.underlying199 Tryz.underlying220 rfl rfl Tryz.underlying9 erCells erCellsS
  obtain rfl : eb = eb' := by
    have e := hv0.symm.trans hv2
    simpa using e
  obtain rfl : es = es' := by
    have e := hv1.symm.trans hv4
    simpa using e
  obtain rfl : en = en' := by
    have e := hv3.symm.trans hv5
    simpa using e
  exact ⟨eb, es, en, by simpa using World.var?_cell g_errBusy hv0 0, by simpa using World.var?_cell g_errSilent hv1 0, by simpa using World.var?_cell g_errAbsent hv3 0, ⟨c0, t0, hb0⟩, ⟨c1, t1, hb1⟩, ⟨c3, t3, hb3⟩, fun e => hne e.symm, fun e => hne2 e.symm, fun e => hne3 e.symm⟩

/-- the door's own heap meets the condition -/
theorem door_metL (os : Os) (args : Array Value) : laidMetH Tryz.prog laidL ((World.doorLaid Tryz.prog 73 os).forCall (fun _ _ => 0) ⟨#[], args, []⟩).memory :=
  laidMetH_of_parts3 (fuel := 8) (laidMet_of_run' 8 (by kernel_rfl) (by kernel_rfl)) (by kernel_rfl) (by kernel_rfl)

end Go.Proofs.YtflekodaiejflaaGreatDoor
