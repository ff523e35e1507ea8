/-
  NARROWER THAN 'FOR EVERY INPUT', by the rows' own cells (each row's printed sentence says how): FnExactStopStep: ifaces, laid.
  DERIVED. THE GIVEN ROWS OF THIS SEAT. 1 by the template 'for every input the law returns true; each argument reads behind the call as it read before'; 0 by the template 'total and deterministic' (their statements: YtngbcpmhejeheaaGreatDoorTotals.lean).
  GIVEN WITH THE SEED: the statements are not yours to turn. If you find one false, say at which input.
  Laid BY PROGRAM, IN A SANDBOX (cutbox-rows.mjs): the forced cells as the released guide's own fill.sh prints them over the translation 3aa9cb180e3ad8ac… (all of the seat's roots in one cut). By AI agents, Wed Nov 11 2026. No macro, syntax, notation, axiom, sorry.
-/
import Derived.Test.YtngbcpmhejeheaaGreatDoorChecked
import GoSem.Claim
import GoSem.ClaimJoined
import GoSem.ClaimMapViews
import Derived.JoinedTies
import Derived.KernelRfl
namespace Go.Proofs.YtngbcpmhejeheaaGreatDoor
/- THE CELL 'sum', in the pinned program and in every row, IS THE sha256 OF THE DUMP (.gsa) THAT YtngbcpmhejeheaaGreatDoorProg.lean LOADS. Nothing in Lean hashes anything: it is a label: what it is worth is what the hold of that sum in a sandbox is worth. -/
noncomputable def Tryz.pinned : Pinned := { name := "ytngbcpmhejeheaagreatdoor", sum := "3aa9cb180e3ad8ac45954052adf652da67225705c265204f2203aff0507b203b", checked := Tryz.checked }
namespace Rows
def none {H : Type} : Left H := { results := [], args := [] }

/- WHAT THE LISTED PACKAGE-LEVEL VARIABLES READ AS WHEN THE CALL BEGINS. Each datum BY PROGRAM (the guide's laid-datum.mjs) off the statement by which the dump's own 'gosem.cut.vars' lays the variable. In a bare row this is a premise. The card (YtngbcpmhejeheaaGreatDoorCards.lean) ties it to the program's text. -/
def laid_errors_errorType {H : Type} : DataW H := .iface "internal/reflectlite.rtype" (.agg [.ptr (.lit (.string [101, 114, 114, 111, 114]))])
def laid_loop_example_g00743_impl_errBusy {H : Type} : DataW H := .iface "*errors.errorString" (.ptr (.agg [.lit (.string [115, 111, 109, 101, 98, 111, 100, 121, 32, 105, 115, 32, 97, 116, 32, 105, 116])]))
def laid_loop_example_g00743_impl_errSilent {H : Type} : DataW H := .iface "*errors.errorString" (.ptr (.agg [.lit (.string [105, 116, 32, 105, 115, 32, 110, 111, 116, 32, 116, 111, 32, 114, 105, 110, 103])]))
def laid_loop_example_g00743_impl_errAbsent {H : Type} : DataW H := .iface "*errors.errorString" (.ptr (.agg [.lit (.string [116, 104, 101, 114, 101, 32, 105, 115, 32, 110, 111, 32, 115, 117, 99, 104, 32, 116, 105, 109, 101, 114])]))

/-- 'laws.FnExactStopStep': WHATEVER THE INPUT: true; the input reads as it did. -/
def fnExactStopStepSpec : ChangeSpec := { name := "fnExactStopStep", vars := ["loop.example/g00743/impl.errBusy", "loop.example/g00743/impl.errAbsent", "loop.example/g00743/impl.errSilent"], fn := fun _ => fun
  | [d1, d2, d3, d4, g1, g2, g3] => { results := [.lit (.bool true)], args := [d1, d2, d3, d4], vars := [g1, g2, g3] }
  | _ => none }
def fnExactStopStepRow : OpenClaim := { program := "ytngbcpmhejeheaagreatdoor", sum := "3aa9cb180e3ad8ac45954052adf652da67225705c265204f2203aff0507b203b", func := "loop.example/g00743/laws.FnExactStopStep", spec := "fnExactStopStep", inPlace := ["internal/reflectlite.TypeOf", "internal/reflectlite.ValueOf", "(internal/reflectlite.Value).Type", "(internal/reflectlite.Value).IsNil", "(internal/reflectlite.Value).Elem", "(internal/reflectlite.Value).Set"], unfollowed := true, recurses := true, named := ["loop.example/g00743/impl.errBusy", "loop.example/g00743/impl.errAbsent", "loop.example/g00743/impl.errSilent", "errors.errorType"], ifaces := true, apart := false, laid := [("errors.errorType", laid_errors_errorType), ("loop.example/g00743/impl.errBusy", laid_loop_example_g00743_impl_errBusy), ("loop.example/g00743/impl.errSilent", laid_loop_example_g00743_impl_errSilent), ("loop.example/g00743/impl.errAbsent", laid_loop_example_g00743_impl_errAbsent)] }
def FnExactStopStepSaid : Prop := fnExactStopStepRow.holds Tryz.pinned (OpenSpec.ofChange fnExactStopStepSpec)

/-- ITS FALSE NEIGHBOUR: 'it returns false'. Refute it at one input. -/
def fnExactStopStepWrong : ChangeSpec := { name := "fnExactStopStep", vars := ["loop.example/g00743/impl.errBusy", "loop.example/g00743/impl.errAbsent", "loop.example/g00743/impl.errSilent"], fn := fun _ => fun
  | [d1, d2, d3, d4, g1, g2, g3] => { results := [.lit (.bool false)], args := [d1, d2, d3, d4], vars := [g1, g2, g3] }
  | _ => none }
def FnExactStopStepWrongFalsely : Prop := fnExactStopStepRow.holds Tryz.pinned (OpenSpec.ofChange fnExactStopStepWrong)

/- THE SECOND FORM. 'bulk': how many values and letters a reading holds, each counted each time it is reached (what is shared counts as often as it is met; a slice's spare places count too). A statement '..UptoSaid' is the law's where the arguments, and the package variables that the reading takes, are together of bulk at most 1048576: NARROWER than '..Said'. Prove '..Said' where nothing that the law and all that it calls make is longer than what came in: it says more and counts as full. Else prove '..UptoSaid'. A law counts once. -/
mutual
def uptoBulk {H : Type} : DataW H → Nat
  | .lit (.string bytes) => bytes.length + 1
  | .lit _ => 1
  | .nil => 1
  | .ptr d => uptoBulk d + 1
  | .slice elems spare => uptoBulkAll elems + uptoBulkAll spare + 1
  | .agg parts => uptoBulkAll parts + 1
  | .iface _ d => uptoBulk d + 1
  | .map entries => uptoBulkEntries entries + 1
  | .held _ => 1
def uptoBulkAll {H : Type} : List (DataW H) → Nat
  | [] => 0
  | d :: r => uptoBulk d + uptoBulkAll r
def uptoBulkEntries {H : Type} : List (Lit × DataW H) → Nat
  | [] => 0
  | x :: r => uptoBulkEntry x + uptoBulkEntries r
def uptoBulkEntry {H : Type} : Lit × DataW H → Nat
  | (.string bytes, d) => bytes.length + uptoBulk d + 1
  | (_, d) => uptoBulk d + 1
 end
def uptoSmall : (H : Type) → List (DataW H) → Bool := fun _ ds => decide (uptoBulkAll ds ≤ 1048576)
def OpenSpec.upto (s : _root_.Go.ChangeSpec) : _root_.Go.OpenSpec := { _root_.Go.OpenSpec.ofChange s with cond := some uptoSmall }

/-- 'laws.FnExactStopStep', WHERE WHAT IT READS IS OF BULK AT MOST 1048576: true; the input reads as it did. -/
def fnExactStopStepUptoRow : OpenClaim := { program := "ytngbcpmhejeheaagreatdoor", sum := "3aa9cb180e3ad8ac45954052adf652da67225705c265204f2203aff0507b203b", func := "loop.example/g00743/laws.FnExactStopStep", spec := "fnExactStopStep", inPlace := ["internal/reflectlite.TypeOf", "internal/reflectlite.ValueOf", "(internal/reflectlite.Value).Type", "(internal/reflectlite.Value).IsNil", "(internal/reflectlite.Value).Elem", "(internal/reflectlite.Value).Set"], unfollowed := true, recurses := true, named := ["loop.example/g00743/impl.errBusy", "loop.example/g00743/impl.errAbsent", "loop.example/g00743/impl.errSilent", "errors.errorType"], ifaces := true, apart := false, laid := [("errors.errorType", laid_errors_errorType), ("loop.example/g00743/impl.errBusy", laid_loop_example_g00743_impl_errBusy), ("loop.example/g00743/impl.errSilent", laid_loop_example_g00743_impl_errSilent), ("loop.example/g00743/impl.errAbsent", laid_loop_example_g00743_impl_errAbsent)], narrowed := true }
def FnExactStopStepUptoSaid : Prop := fnExactStopStepUptoRow.holds Tryz.pinned (OpenSpec.upto fnExactStopStepSpec)

end Rows
end Go.Proofs.YtngbcpmhejeheaaGreatDoor
