/-
  DERIVED. GIVEN WITH THE SEED: THE PROGRAM's TIES (one call each: nine closed facts by the kernel) AND EACH ROW's TIE, after the 31st guide's Derived/Test/Toyas{Tie, Card}.lean. No idea stands in it: it is a product of the set-up. Laid BY PROGRAM, IN A SANDBOX (cutbox-door.mjs). By AI agents, Wed Nov 11 2026. No macro, syntax, notation, axiom, sorry.
-/
import Derived.Test.YtflekodaiejflaaGreatDoorRows
import Derived.LaidByTextLater
import Derived.SevenTiedAt
import Derived.LaidSub
import Derived.LaidOnce
namespace Go.Proofs.YtflekodaiejflaaGreatDoor
open Go
set_option maxRecDepth 100000
theorem seatTie1 : Tryz.prog.laidByTextLater [("errors.errorType", Rows.laid_errors_errorType), ("loop.example/g00743/impl.errBusy", Rows.laid_loop_example_g00743_impl_errBusy), ("loop.example/g00743/impl.errSilent", Rows.laid_loop_example_g00743_impl_errSilent), ("loop.example/g00743/impl.errAbsent", Rows.laid_loop_example_g00743_impl_errAbsent)] [.handle, .sentinel, .sentinel, .sentinel] true :=
  Program.laidByTextLater_by_one 73 8 2 (by kernel_rfl) (by kernel_rfl) (by kernel_rfl) (by kernel_rfl) (by kernel_rfl) (by kernel_rfl) (fun _ _ => by kernel_rfl)
theorem noOwnUnsafe : Tryz.pinned.checked.prog.headLifts.contains "ownunsafe" = false := by kernel_rfl
theorem tie : Tryz.prog.laidByTextLater [("errors.errorType", Rows.laid_errors_errorType), ("loop.example/g00743/impl.errBusy", Rows.laid_loop_example_g00743_impl_errBusy), ("loop.example/g00743/impl.errSilent", Rows.laid_loop_example_g00743_impl_errSilent), ("loop.example/g00743/impl.errAbsent", Rows.laid_loop_example_g00743_impl_errAbsent)] [.handle, .sentinel, .sentinel, .sentinel] true :=
  Program.laidByTextLater.sub seatTie1 ["errors.errorType", "loop.example/g00743/impl.errBusy", "loop.example/g00743/impl.errSilent", "loop.example/g00743/impl.errAbsent"] (by kernel_rfl) (by kernel_rfl)
theorem fnExactStopStep_row_tie : Rows.fnExactStopStepRow.laidByTextAt .later Tryz.pinned [.handle, .sentinel, .sentinel, .sentinel] true :=
  OpenClaim.laidByTextAt_later rfl rfl tie noOwnUnsafe
theorem tie2 : Tryz.prog.laidByTextLater [("loop.example/g00743/impl.errBusy", Rows.laid_loop_example_g00743_impl_errBusy), ("loop.example/g00743/impl.errSilent", Rows.laid_loop_example_g00743_impl_errSilent), ("loop.example/g00743/impl.errAbsent", Rows.laid_loop_example_g00743_impl_errAbsent)] [.sentinel, .sentinel, .sentinel] true :=
  Program.laidByTextLater.sub seatTie1 ["loop.example/g00743/impl.errBusy", "loop.example/g00743/impl.errSilent", "loop.example/g00743/impl.errAbsent"] (by kernel_rfl) (by kernel_rfl)
theorem fnExactResetStep_row_tie : Rows.fnExactResetStepRow.laidByTextAt .later Tryz.pinned [.sentinel, .sentinel, .sentinel] true :=
  OpenClaim.laidByTextAt_later rfl rfl tie2 noOwnUnsafe
theorem fnExactStopStepUpto_row_tie : Rows.fnExactStopStepUptoRow.laidByTextAt .later Tryz.pinned [.handle, .sentinel, .sentinel, .sentinel] true :=
  OpenClaim.laidByTextAt_later rfl rfl tie noOwnUnsafe
theorem fnExactResetStepUpto_row_tie : Rows.fnExactResetStepUptoRow.laidByTextAt .later Tryz.pinned [.sentinel, .sentinel, .sentinel] true :=
  OpenClaim.laidByTextAt_later rfl rfl tie2 noOwnUnsafe
end Go.Proofs.YtflekodaiejflaaGreatDoor
