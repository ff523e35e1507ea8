/-
  NARROWER THAN 'FOR EVERY INPUT', by the rows' own cells (each row's printed sentence says how): FnExactStopStep: ifaces, laid · FnExactResetStep: ifaces, laid.
  DERIVED. THE GIVEN ROWS OF THIS SEAT. 2 by the template 'for every input the law returns true; each argument reads behind the call as it read before'; 0 by the template 'total and deterministic' (their statements: YtflekodaiejflaaGreatDoorTotals.lean).
  GIVEN WITH THE SEED: the statements are not yours to turn. If you find one false, say at which input.
  Laid BY PROGRAM, IN A SANDBOX (cutbox-rows.mjs): the forced cells as the released guide's own fill.sh prints them over the translation 90db00f2b7b4f12f… (all of the seat's roots in one cut). By AI agents, Wed Nov 11 2026. No macro, syntax, notation, axiom, sorry.
-/
import Derived.Test.YtflekodaiejflaaGreatDoorChecked
import GoSem.Claim
import GoSem.ClaimJoined
import GoSem.ClaimMapViews
import Derived.JoinedTies
import Derived.KernelRfl
namespace Go.Proofs.YtflekodaiejflaaGreatDoor
/- THE CELL 'sum', in the pinned program and in every row, IS THE sha256 OF THE DUMP (.gsa) THAT YtflekodaiejflaaGreatDoorProg.lean LOADS. Nothing in Lean hashes anything: it is a label: what it is worth is what the hold of that sum in a sandbox is worth. -/
noncomputable def Tryz.pinned : Pinned := { name := "ytflekodaiejflaagreatdoor", sum := "90db00f2b7b4f12f31f1b82c04e1459bd4bc3eb00ba88322d45468deeb200bc5", checked := Tryz.checked }
namespace Rows
def none {H : Type} : Left H := { results := [], args := [] }

/- WHAT THE LISTED PACKAGE-LEVEL VARIABLES READ AS WHEN THE CALL BEGINS. Each datum BY PROGRAM (the guide's laid-datum.mjs) off the statement by which the dump's own 'gosem.cut.vars' lays the variable. In a bare row this is a premise. The card (YtflekodaiejflaaGreatDoorCards.lean) ties it to the program's text. -/
def laid_errors_errorType {H : Type} : DataW H := .iface "internal/reflectlite.rtype" (.agg [.ptr (.lit (.string [101, 114, 114, 111, 114]))])
def laid_loop_example_g00743_impl_errBusy {H : Type} : DataW H := .iface "*errors.errorString" (.ptr (.agg [.lit (.string [115, 111, 109, 101, 98, 111, 100, 121, 32, 105, 115, 32, 97, 116, 32, 105, 116])]))
def laid_loop_example_g00743_impl_errSilent {H : Type} : DataW H := .iface "*errors.errorString" (.ptr (.agg [.lit (.string [105, 116, 32, 105, 115, 32, 110, 111, 116, 32, 116, 111, 32, 114, 105, 110, 103])]))
def laid_loop_example_g00743_impl_errAbsent {H : Type} : DataW H := .iface "*errors.errorString" (.ptr (.agg [.lit (.string [116, 104, 101, 114, 101, 32, 105, 115, 32, 110, 111, 32, 115, 117, 99, 104, 32, 116, 105, 109, 101, 114])]))

/-- 'laws.FnExactStopStep': WHATEVER THE INPUT: true; the input reads as it did. -/
def fnExactStopStepSpec : ChangeSpec := { name := "fnExactStopStep", vars := ["loop.example/g00743/impl.errBusy", "loop.example/g00743/impl.errAbsent", "loop.example/g00743/impl.errSilent"], fn := fun _ => fun
  | [d1, d2, d3, d4, g1, g2, g3] => { results := [.lit (.bool true)], args := [d1, d2, d3, d4], vars := [g1, g2, g3] }
  | _ => none }
def fnExactStopStepRow : OpenClaim := { program := "ytflekodaiejflaagreatdoor", sum := "90db00f2b7b4f12f31f1b82c04e1459bd4bc3eb00ba88322d45468deeb200bc5", func := "loop.example/g00743/laws.FnExactStopStep", spec := "fnExactStopStep", inPlace := ["internal/reflectlite.TypeOf", "internal/reflectlite.ValueOf", "(internal/reflectlite.Value).Type", "(internal/reflectlite.Value).IsNil", "(internal/reflectlite.Value).Elem", "(internal/reflectlite.Value).Set"], unfollowed := true, recurses := true, named := ["loop.example/g00743/impl.errBusy", "loop.example/g00743/impl.errAbsent", "loop.example/g00743/impl.errSilent", "errors.errorType"], ifaces := true, apart := false, laid := [("errors.errorType", laid_errors_errorType), ("loop.example/g00743/impl.errBusy", laid_loop_example_g00743_impl_errBusy), ("loop.example/g00743/impl.errSilent", laid_loop_example_g00743_impl_errSilent), ("loop.example/g00743/impl.errAbsent", laid_loop_example_g00743_impl_errAbsent)] }
def FnExactStopStepSaid : Prop := fnExactStopStepRow.holds Tryz.pinned (OpenSpec.ofChange fnExactStopStepSpec)

/-- ITS FALSE NEIGHBOUR: 'it returns false'. Refute it at one input. -/
def fnExactStopStepWrong : ChangeSpec := { name := "fnExactStopStep", vars := ["loop.example/g00743/impl.errBusy", "loop.example/g00743/impl.errAbsent", "loop.example/g00743/impl.errSilent"], fn := fun _ => fun
  | [d1, d2, d3, d4, g1, g2, g3] => { results := [.lit (.bool false)], args := [d1, d2, d3, d4], vars := [g1, g2, g3] }
  | _ => none }
def FnExactStopStepWrongFalsely : Prop := fnExactStopStepRow.holds Tryz.pinned (OpenSpec.ofChange fnExactStopStepWrong)

/-- 'laws.FnExactResetStep': WHATEVER THE INPUT: true; the input reads as it did. -/
def fnExactResetStepSpec : ChangeSpec := { name := "fnExactResetStep", vars := ["loop.example/g00743/impl.errSilent", "loop.example/g00743/impl.errBusy", "loop.example/g00743/impl.errAbsent"], fn := fun _ => fun
  | [d1, d2, d3, d4, g1, g2, g3] => { results := [.lit (.bool true)], args := [d1, d2, d3, d4], vars := [g1, g2, g3] }
  | _ => none }
def fnExactResetStepRow : OpenClaim := { program := "ytflekodaiejflaagreatdoor", sum := "90db00f2b7b4f12f31f1b82c04e1459bd4bc3eb00ba88322d45468deeb200bc5", func := "loop.example/g00743/laws.FnExactResetStep", spec := "fnExactResetStep", inPlace := ["internal/reflectlite.TypeOf"], unfollowed := true, recurses := true, named := ["loop.example/g00743/impl.errSilent", "loop.example/g00743/impl.errBusy", "loop.example/g00743/impl.errAbsent"], ifaces := true, apart := false, laid := [("loop.example/g00743/impl.errBusy", laid_loop_example_g00743_impl_errBusy), ("loop.example/g00743/impl.errSilent", laid_loop_example_g00743_impl_errSilent), ("loop.example/g00743/impl.errAbsent", laid_loop_example_g00743_impl_errAbsent)] }
def FnExactResetStepSaid : Prop := fnExactResetStepRow.holds Tryz.pinned (OpenSpec.ofChange fnExactResetStepSpec)

/-- ITS FALSE NEIGHBOUR: 'it returns false'. Refute it at one input. -/
def fnExactResetStepWrong : ChangeSpec := { name := "fnExactResetStep", vars := ["loop.example/g00743/impl.errSilent", "loop.example/g00743/impl.errBusy", "loop.example/g00743/impl.errAbsent"], fn := fun _ => fun
  | [d1, d2, d3, d4, g1, g2, g3] => { results := [.lit (.bool false)], args := [d1, d2, d3, d4], vars := [g1, g2, g3] }
  | _ => none }
def FnExactResetStepWrongFalsely : Prop := fnExactResetStepRow.holds Tryz.pinned (OpenSpec.ofChange fnExactResetStepWrong)

/- THE SECOND FORM. 'bulk': how many values and letters a reading holds, each counted each time it is reached (what is shared counts as often as it is met; a slice's spare places count too). A statement '..UptoSaid' is the law's where the arguments, and the package variables that the reading takes, are together of bulk at most 1048576: NARROWER than '..Said'. Prove '..Said' where nothing that the law and all that it calls make is longer than what came in: it says more and counts as full. Else prove '..UptoSaid'. A law counts once. -/
mutual
def uptoBulk {H : Type} : DataW H → Nat
  | .lit (.string bytes) => bytes.length + 1
  | .lit _ => 1
  | .nil => 1
  | .ptr d => uptoBulk d + 1
  | .slice elems spare => uptoBulkAll elems + uptoBulkAll spare + 1
  | .agg parts => uptoBulkAll parts + 1
  | .iface _ d => uptoBulk d + 1
  | .map entries => uptoBulkEntries entries + 1
  | .held _ => 1
def uptoBulkAll {H : Type} : List (DataW H) → Nat
  | [] => 0
  | d :: r => uptoBulk d + uptoBulkAll r
def uptoBulkEntries {H : Type} : List (Lit × DataW H) → Nat
  | [] => 0
  | x :: r => uptoBulkEntry x + uptoBulkEntries r
def uptoBulkEntry {H : Type} : Lit × DataW H → Nat
  | (.string bytes, d) => bytes.length + uptoBulk d + 1
  | (_, d) => uptoBulk d + 1
 end
def uptoSmall : (H : Type) → List (DataW H) → Bool := fun _ ds => decide (uptoBulkAll ds ≤ 1048576)
def OpenSpec.upto (s : _root_.Go.ChangeSpec) : _root_.Go.OpenSpec := { _root_.Go.OpenSpec.ofChange s with cond := some uptoSmall }

/-- 'laws.FnExactStopStep', WHERE WHAT IT READS IS OF BULK AT MOST 1048576: true; the input reads as it did. -/
def fnExactStopStepUptoRow : OpenClaim := { program := "ytflekodaiejflaagreatdoor", sum := "90db00f2b7b4f12f31f1b82c04e1459bd4bc3eb00ba88322d45468deeb200bc5", func := "loop.example/g00743/laws.FnExactStopStep", spec := "fnExactStopStep", inPlace := ["internal/reflectlite.TypeOf", "internal/reflectlite.ValueOf", "(internal/reflectlite.Value).Type", "(internal/reflectlite.Value).IsNil", "(internal/reflectlite.Value).Elem", "(internal/reflectlite.Value).Set"], unfollowed := true, recurses := true, named := ["loop.example/g00743/impl.errBusy", "loop.example/g00743/impl.errAbsent", "loop.example/g00743/impl.errSilent", "errors.errorType"], ifaces := true, apart := false, laid := [("errors.errorType", laid_errors_errorType), ("loop.example/g00743/impl.errBusy", laid_loop_example_g00743_impl_errBusy), ("loop.example/g00743/impl.errSilent", laid_loop_example_g00743_impl_errSilent), ("loop.example/g00743/impl.errAbsent", laid_loop_example_g00743_impl_errAbsent)], narrowed := true }
def FnExactStopStepUptoSaid : Prop := fnExactStopStepUptoRow.holds Tryz.pinned (OpenSpec.upto fnExactStopStepSpec)

/-- 'laws.FnExactResetStep', WHERE WHAT IT READS IS OF BULK AT MOST 1048576: true; the input reads as it did. -/
def fnExactResetStepUptoRow : OpenClaim := { program := "ytflekodaiejflaagreatdoor", sum := "90db00f2b7b4f12f31f1b82c04e1459bd4bc3eb00ba88322d45468deeb200bc5", func := "loop.example/g00743/laws.FnExactResetStep", spec := "fnExactResetStep", inPlace := ["internal/reflectlite.TypeOf"], unfollowed := true, recurses := true, named := ["loop.example/g00743/impl.errSilent", "loop.example/g00743/impl.errBusy", "loop.example/g00743/impl.errAbsent"], ifaces := true, apart := false, laid := [("loop.example/g00743/impl.errBusy", laid_loop_example_g00743_impl_errBusy), ("loop.example/g00743/impl.errSilent", laid_loop_example_g00743_impl_errSilent), ("loop.example/g00743/impl.errAbsent", laid_loop_example_g00743_impl_errAbsent)], narrowed := true }
def FnExactResetStepUptoSaid : Prop := fnExactResetStepUptoRow.holds Tryz.pinned (OpenSpec.upto fnExactResetStepSpec)

end Rows
end Go.Proofs.YtflekodaiejflaaGreatDoor
