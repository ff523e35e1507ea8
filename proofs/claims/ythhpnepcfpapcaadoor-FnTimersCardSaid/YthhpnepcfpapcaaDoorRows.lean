/-
  NARROWER THAN 'FOR EVERY INPUT', by the rows' own cells (each row's printed sentence says how): FnTimers: laid · FnExactPasses: laid.
  DERIVED. THE GIVEN ROWS OF THIS SEAT. 2 by the template 'for every input the law returns true; each argument reads behind the call as it read before'; 0 by the template 'total and deterministic' (their statements: YthhpnepcfpapcaaDoorTotals.lean).
  GIVEN WITH THE SEED: the statements are not yours to turn. If you find one false, say at which input.
  Laid BY PROGRAM, IN A SANDBOX (cutbox-rows.mjs): the forced cells as the released guide's own fill.sh prints them over the translation d5f30b97eecc5905… (all of the seat's roots in one cut). By AI agents, Wed Nov 11 2026. No macro, syntax, notation, axiom, sorry.
-/
import Derived.Test.YthhpnepcfpapcaaDoorChecked
import GoSem.Claim
import GoSem.ClaimJoined
import GoSem.ClaimMapViews
import Derived.JoinedTies
import Derived.KernelRfl
namespace Go.Proofs.YthhpnepcfpapcaaDoor
/- THE CELL 'sum', in the pinned program and in every row, IS THE sha256 OF THE DUMP (.gsa) THAT YthhpnepcfpapcaaDoorProg.lean LOADS. Nothing in Lean hashes anything: it is a label: what it is worth is what the hold of that sum in a sandbox is worth. -/
noncomputable def Tryd.pinned : Pinned := { name := "ythhpnepcfpapcaadoor", sum := "d5f30b97eecc5905e01843e45c9885cde2ed2db6b160f1d752f67fac58a498d5", checked := Tryd.checked }
namespace Rows
def none {H : Type} : Left H := { results := [], args := [] }

/- WHAT THE LISTED PACKAGE-LEVEL VARIABLES READ AS WHEN THE CALL BEGINS. Each datum BY PROGRAM (the guide's laid-datum.mjs) off the statement by which the dump's own 'gosem.cut.vars' lays the variable. In a bare row this is a premise. The card (YthhpnepcfpapcaaDoorCards.lean) ties it to the program's text. -/
def laid_loop_example_g00743_impl_mayBecome {H : Type} : DataW H := .agg [.agg [.lit (.bool false), .lit (.bool false), .lit (.bool true), .lit (.bool false), .lit (.bool false), .lit (.bool false), .lit (.bool false), .lit (.bool false)], .agg [.lit (.bool false), .lit (.bool false), .lit (.bool true), .lit (.bool false), .lit (.bool false), .lit (.bool false), .lit (.bool true), .lit (.bool false)], .agg [.lit (.bool false), .lit (.bool true), .lit (.bool false), .lit (.bool true), .lit (.bool true), .lit (.bool true), .lit (.bool false), .lit (.bool false)], .agg [.lit (.bool false), .lit (.bool true), .lit (.bool true), .lit (.bool false), .lit (.bool false), .lit (.bool false), .lit (.bool false), .lit (.bool false)], .agg [.lit (.bool false), .lit (.bool true), .lit (.bool true), .lit (.bool false), .lit (.bool false), .lit (.bool false), .lit (.bool false), .lit (.bool false)], .agg [.lit (.bool false), .lit (.bool false), .lit (.bool true), .lit (.bool false), .lit (.bool false), .lit (.bool false), .lit (.bool false), .lit (.bool true)], .agg [.lit (.bool true), .lit (.bool true), .lit (.bool false), .lit (.bool false), .lit (.bool false), .lit (.bool false), .lit (.bool false), .lit (.bool false)], .agg [.lit (.bool false), .lit (.bool false), .lit (.bool true), .lit (.bool false), .lit (.bool false), .lit (.bool false), .lit (.bool false), .lit (.bool false)]]

/-- 'laws.FnTimers': WHATEVER THE INPUT: true; the input reads as it did. -/
def fnTimersSpec : ChangeSpec := { name := "fnTimers", vars := ["loop.example/g00743/impl.mayBecome"], fn := fun _ => fun
  | [d, g1] => { results := [.lit (.bool true)], args := [d], vars := [g1] }
  | _ => none }
def fnTimersRow : OpenClaim := { program := "ythhpnepcfpapcaadoor", sum := "d5f30b97eecc5905e01843e45c9885cde2ed2db6b160f1d752f67fac58a498d5", func := "loop.example/g00743/laws.FnTimers", spec := "fnTimers", named := ["loop.example/g00743/impl.mayBecome"], apart := false, laid := [("loop.example/g00743/impl.mayBecome", laid_loop_example_g00743_impl_mayBecome)] }
def FnTimersSaid : Prop := fnTimersRow.holds Tryd.pinned (OpenSpec.ofChange fnTimersSpec)

/-- ITS FALSE NEIGHBOUR: 'it returns false'. Refute it at one input. -/
def fnTimersWrong : ChangeSpec := { name := "fnTimers", vars := ["loop.example/g00743/impl.mayBecome"], fn := fun _ => fun
  | [d, g1] => { results := [.lit (.bool false)], args := [d], vars := [g1] }
  | _ => none }
def FnTimersWrongFalsely : Prop := fnTimersRow.holds Tryd.pinned (OpenSpec.ofChange fnTimersWrong)

/-- 'laws.FnExactPasses': WHATEVER THE INPUT: true; the input reads as it did. -/
def fnExactPassesSpec : ChangeSpec := { name := "fnExactPasses", vars := ["loop.example/g00743/impl.mayBecome"], fn := fun _ => fun
  | [d1, d2, g1] => { results := [.lit (.bool true)], args := [d1, d2], vars := [g1] }
  | _ => none }
def fnExactPassesRow : OpenClaim := { program := "ythhpnepcfpapcaadoor", sum := "d5f30b97eecc5905e01843e45c9885cde2ed2db6b160f1d752f67fac58a498d5", func := "loop.example/g00743/laws.FnExactPasses", spec := "fnExactPasses", named := ["loop.example/g00743/impl.mayBecome"], apart := false, laid := [("loop.example/g00743/impl.mayBecome", laid_loop_example_g00743_impl_mayBecome)] }
def FnExactPassesSaid : Prop := fnExactPassesRow.holds Tryd.pinned (OpenSpec.ofChange fnExactPassesSpec)

/-- ITS FALSE NEIGHBOUR: 'it returns false'. Refute it at one input. -/
def fnExactPassesWrong : ChangeSpec := { name := "fnExactPasses", vars := ["loop.example/g00743/impl.mayBecome"], fn := fun _ => fun
  | [d1, d2, g1] => { results := [.lit (.bool false)], args := [d1, d2], vars := [g1] }
  | _ => none }
def FnExactPassesWrongFalsely : Prop := fnExactPassesRow.holds Tryd.pinned (OpenSpec.ofChange fnExactPassesWrong)

/- THE SECOND FORM. 'bulk': how many values and letters a reading holds, each counted each time it is reached (what is shared counts as often as it is met; a slice's spare places count too). A statement '..UptoSaid' is the law's where the arguments, and the package variables that the reading takes, are together of bulk at most 1048576: NARROWER than '..Said'. Prove '..Said' where nothing that the law and all that it calls make is longer than what came in: it says more and counts as full. Else prove '..UptoSaid'. A law counts once. -/
mutual
def uptoBulk {H : Type} : DataW H → Nat
  | .lit (.string bytes) => bytes.length + 1
  | .lit _ => 1
  | .nil => 1
  | .ptr d => uptoBulk d + 1
  | .slice elems spare => uptoBulkAll elems + uptoBulkAll spare + 1
  | .agg parts => uptoBulkAll parts + 1
  | .iface _ d => uptoBulk d + 1
  | .map entries => uptoBulkEntries entries + 1
  | .held _ => 1
def uptoBulkAll {H : Type} : List (DataW H) → Nat
  | [] => 0
  | d :: r => uptoBulk d + uptoBulkAll r
def uptoBulkEntries {H : Type} : List (Lit × DataW H) → Nat
  | [] => 0
  | x :: r => uptoBulkEntry x + uptoBulkEntries r
def uptoBulkEntry {H : Type} : Lit × DataW H → Nat
  | (.string bytes, d) => bytes.length + uptoBulk d + 1
  | (_, d) => uptoBulk d + 1
 end
def uptoSmall : (H : Type) → List (DataW H) → Bool := fun _ ds => decide (uptoBulkAll ds ≤ 1048576)
def OpenSpec.upto (s : _root_.Go.ChangeSpec) : _root_.Go.OpenSpec := { _root_.Go.OpenSpec.ofChange s with cond := some uptoSmall }

/-- 'laws.FnTimers', WHERE WHAT IT READS IS OF BULK AT MOST 1048576: true; the input reads as it did. -/
def fnTimersUptoRow : OpenClaim := { program := "ythhpnepcfpapcaadoor", sum := "d5f30b97eecc5905e01843e45c9885cde2ed2db6b160f1d752f67fac58a498d5", func := "loop.example/g00743/laws.FnTimers", spec := "fnTimers", named := ["loop.example/g00743/impl.mayBecome"], apart := false, laid := [("loop.example/g00743/impl.mayBecome", laid_loop_example_g00743_impl_mayBecome)], narrowed := true }
def FnTimersUptoSaid : Prop := fnTimersUptoRow.holds Tryd.pinned (OpenSpec.upto fnTimersSpec)

/-- 'laws.FnExactPasses', WHERE WHAT IT READS IS OF BULK AT MOST 1048576: true; the input reads as it did. -/
def fnExactPassesUptoRow : OpenClaim := { program := "ythhpnepcfpapcaadoor", sum := "d5f30b97eecc5905e01843e45c9885cde2ed2db6b160f1d752f67fac58a498d5", func := "loop.example/g00743/laws.FnExactPasses", spec := "fnExactPasses", named := ["loop.example/g00743/impl.mayBecome"], apart := false, laid := [("loop.example/g00743/impl.mayBecome", laid_loop_example_g00743_impl_mayBecome)], narrowed := true }
def FnExactPassesUptoSaid : Prop := fnExactPassesUptoRow.holds Tryd.pinned (OpenSpec.upto fnExactPassesSpec)

end Rows
end Go.Proofs.YthhpnepcfpapcaaDoor
