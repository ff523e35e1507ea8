/-
  No cell of these rows narrows 'for every input' (looked for: loops, veiled, ifaces, maps, wideKeys, modest, calm, conditions, laid).
  DERIVED. THE GIVEN ROWS OF THIS SEAT. 2 by the template 'for every input the law returns true; each argument reads behind the call as it read before'; 0 by the template 'total and deterministic' (their statements: YthhpnepcfpapcaaTotals.lean).
  GIVEN WITH THE SEED: the statements are not yours to turn. If you find one false, say at which input.
  Laid BY PROGRAM, IN A SANDBOX (cutbox-rows.mjs): the forced cells as the released guide's own fill.sh prints them over the translation 14e1dcb0ed12fe94… (all of the seat's roots in one cut). By AI agents, Wed Nov 11 2026. No macro, syntax, notation, axiom, sorry.
-/
import Derived.Test.YthhpnepcfpapcaaChecked
import GoSem.Claim
import GoSem.ClaimJoined
import GoSem.ClaimMapViews
import Derived.JoinedTies
import Derived.KernelRfl
namespace Go.Proofs.Ythhpnepcfpapcaa
/- THE CELL 'sum', in the pinned program and in every row, IS THE sha256 OF THE DUMP (.gsa) THAT YthhpnepcfpapcaaProg.lean LOADS. Nothing in Lean hashes anything: it is a label: what it is worth is what the hold of that sum in a sandbox is worth. -/
noncomputable def Try.pinned : Pinned := { name := "ythhpnepcfpapcaa", sum := "14e1dcb0ed12fe94a69a5575f9746a5d771bbd0c54627664fffe6acb8a8060b7", checked := Try.checked }
namespace Rows
def none {H : Type} : Left H := { results := [], args := [] }

/-- 'laws.FnExactTimerOk': WHATEVER THE INPUT: true; the input reads as it did. -/
def fnExactTimerOkSpec : ChangeSpec := { name := "fnExactTimerOk", fn := fun _ => fun
  | [d1, d2] => { results := [.lit (.bool true)], args := [d1, d2] }
  | _ => none }
def fnExactTimerOkRow : OpenClaim := { program := "ythhpnepcfpapcaa", sum := "14e1dcb0ed12fe94a69a5575f9746a5d771bbd0c54627664fffe6acb8a8060b7", func := "loop.example/g00743/laws.FnExactTimerOk", spec := "fnExactTimerOk", apart := false }
def FnExactTimerOkSaid : Prop := fnExactTimerOkRow.holds Try.pinned (OpenSpec.ofChange fnExactTimerOkSpec)

/-- ITS FALSE NEIGHBOUR: 'it returns false'. Refute it at one input. -/
def fnExactTimerOkWrong : ChangeSpec := { name := "fnExactTimerOk", fn := fun _ => fun
  | [d1, d2] => { results := [.lit (.bool false)], args := [d1, d2] }
  | _ => none }
def FnExactTimerOkWrongFalsely : Prop := fnExactTimerOkRow.holds Try.pinned (OpenSpec.ofChange fnExactTimerOkWrong)

/-- 'laws.FnExactInHeap': WHATEVER THE INPUT: true; the input reads as it did. -/
def fnExactInHeapSpec : ChangeSpec := { name := "fnExactInHeap", fn := fun _ => fun
  | [d] => { results := [.lit (.bool true)], args := [d] }
  | _ => none }
def fnExactInHeapRow : OpenClaim := { program := "ythhpnepcfpapcaa", sum := "14e1dcb0ed12fe94a69a5575f9746a5d771bbd0c54627664fffe6acb8a8060b7", func := "loop.example/g00743/laws.FnExactInHeap", spec := "fnExactInHeap", apart := false }
def FnExactInHeapSaid : Prop := fnExactInHeapRow.holds Try.pinned (OpenSpec.ofChange fnExactInHeapSpec)

/-- ITS FALSE NEIGHBOUR: 'it returns false'. Refute it at one input. -/
def fnExactInHeapWrong : ChangeSpec := { name := "fnExactInHeap", fn := fun _ => fun
  | [d] => { results := [.lit (.bool false)], args := [d] }
  | _ => none }
def FnExactInHeapWrongFalsely : Prop := fnExactInHeapRow.holds Try.pinned (OpenSpec.ofChange fnExactInHeapWrong)

/- THE SECOND FORM. 'bulk': how many values and letters a reading holds, each counted each time it is reached (what is shared counts as often as it is met; a slice's spare places count too). A statement '..UptoSaid' is the law's where the arguments, and the package variables that the reading takes, are together of bulk at most 1048576: NARROWER than '..Said'. Prove '..Said' where nothing that the law and all that it calls make is longer than what came in: it says more and counts as full. Else prove '..UptoSaid'. A law counts once. -/
mutual
def uptoBulk {H : Type} : DataW H → Nat
  | .lit (.string bytes) => bytes.length + 1
  | .lit _ => 1
  | .nil => 1
  | .ptr d => uptoBulk d + 1
  | .slice elems spare => uptoBulkAll elems + uptoBulkAll spare + 1
  | .agg parts => uptoBulkAll parts + 1
  | .iface _ d => uptoBulk d + 1
  | .map entries => uptoBulkEntries entries + 1
  | .held _ => 1
def uptoBulkAll {H : Type} : List (DataW H) → Nat
  | [] => 0
  | d :: r => uptoBulk d + uptoBulkAll r
def uptoBulkEntries {H : Type} : List (Lit × DataW H) → Nat
  | [] => 0
  | x :: r => uptoBulkEntry x + uptoBulkEntries r
def uptoBulkEntry {H : Type} : Lit × DataW H → Nat
  | (.string bytes, d) => bytes.length + uptoBulk d + 1
  | (_, d) => uptoBulk d + 1
 end
def uptoSmall : (H : Type) → List (DataW H) → Bool := fun _ ds => decide (uptoBulkAll ds ≤ 1048576)
def OpenSpec.upto (s : _root_.Go.ChangeSpec) : _root_.Go.OpenSpec := { _root_.Go.OpenSpec.ofChange s with cond := some uptoSmall }

/-- 'laws.FnExactTimerOk', WHERE WHAT IT READS IS OF BULK AT MOST 1048576: true; the input reads as it did. -/
def fnExactTimerOkUptoRow : OpenClaim := { program := "ythhpnepcfpapcaa", sum := "14e1dcb0ed12fe94a69a5575f9746a5d771bbd0c54627664fffe6acb8a8060b7", func := "loop.example/g00743/laws.FnExactTimerOk", spec := "fnExactTimerOk", apart := false, narrowed := true }
def FnExactTimerOkUptoSaid : Prop := fnExactTimerOkUptoRow.holds Try.pinned (OpenSpec.upto fnExactTimerOkSpec)

/-- 'laws.FnExactInHeap', WHERE WHAT IT READS IS OF BULK AT MOST 1048576: true; the input reads as it did. -/
def fnExactInHeapUptoRow : OpenClaim := { program := "ythhpnepcfpapcaa", sum := "14e1dcb0ed12fe94a69a5575f9746a5d771bbd0c54627664fffe6acb8a8060b7", func := "loop.example/g00743/laws.FnExactInHeap", spec := "fnExactInHeap", apart := false, narrowed := true }
def FnExactInHeapUptoSaid : Prop := fnExactInHeapUptoRow.holds Try.pinned (OpenSpec.upto fnExactInHeapSpec)

end Rows
end Go.Proofs.Ythhpnepcfpapcaa
