/-
  No cell of these rows narrows 'for every input' (looked for: loops, veiled, ifaces, maps, wideKeys, modest, calm, conditions, laid).
  DERIVED. THE GIVEN ROWS OF THIS SEAT. 3 by the template 'for every input the law returns true; each argument reads behind the call as it read before'; 0 by the template 'total and deterministic' (their statements: YtjbodmgnecagmaaTotals.lean).
  GIVEN WITH THE SEED: the statements are not yours to turn. If you find one false, say at which input.
  Laid BY PROGRAM, IN A SANDBOX (cutbox-rows.mjs): the forced cells as the released guide's own fill.sh prints them over the translation 6ddb2c1f376fd86c… (all of the seat's roots in one cut). By AI agents, Wed Nov 11 2026. No macro, syntax, notation, axiom, sorry.
-/
import Derived.Test.YtjbodmgnecagmaaChecked
import GoSem.Claim
import GoSem.ClaimJoined
import GoSem.ClaimMapViews
import Derived.JoinedTies
import Derived.KernelRfl
namespace Go.Proofs.Ytjbodmgnecagmaa
/- THE CELL 'sum', in the pinned program and in every row, IS THE sha256 OF THE DUMP (.gsa) THAT YtjbodmgnecagmaaProg.lean LOADS. Nothing in Lean hashes anything: it is a label: what it is worth is what the hold of that sum in a sandbox is worth. -/
noncomputable def Try.pinned : Pinned := { name := "ytjbodmgnecagmaa", sum := "6ddb2c1f376fd86c41c428e90f32484867a853b5fec48c49df7d2417ac2f09c1", checked := Try.checked }
namespace Rows
def none {H : Type} : Left H := { results := [], args := [] }

/-- 'laws.FnProcs': WHATEVER THE INPUT: true; the input reads as it did. -/
def fnProcsSpec : ChangeSpec := { name := "fnProcs", fn := fun _ => fun
  | [d] => { results := [.lit (.bool true)], args := [d] }
  | _ => none }
def fnProcsRow : OpenClaim := { program := "ytjbodmgnecagmaa", sum := "6ddb2c1f376fd86c41c428e90f32484867a853b5fec48c49df7d2417ac2f09c1", func := "loop.example/g00743/laws.FnProcs", spec := "fnProcs", unfollowed := true, recurses := true, apart := false }
def FnProcsSaid : Prop := fnProcsRow.holds Try.pinned (OpenSpec.ofChange fnProcsSpec)

/-- ITS FALSE NEIGHBOUR: 'it returns false'. Refute it at one input. -/
def fnProcsWrong : ChangeSpec := { name := "fnProcs", fn := fun _ => fun
  | [d] => { results := [.lit (.bool false)], args := [d] }
  | _ => none }
def FnProcsWrongFalsely : Prop := fnProcsRow.holds Try.pinned (OpenSpec.ofChange fnProcsWrong)

/-- 'laws.FnExactProcOk': WHATEVER THE INPUT: true; the input reads as it did. -/
def fnExactProcOkSpec : ChangeSpec := { name := "fnExactProcOk", fn := fun _ => fun
  | [d1, d2] => { results := [.lit (.bool true)], args := [d1, d2] }
  | _ => none }
def fnExactProcOkRow : OpenClaim := { program := "ytjbodmgnecagmaa", sum := "6ddb2c1f376fd86c41c428e90f32484867a853b5fec48c49df7d2417ac2f09c1", func := "loop.example/g00743/laws.FnExactProcOk", spec := "fnExactProcOk", unfollowed := true, recurses := true, apart := false }
def FnExactProcOkSaid : Prop := fnExactProcOkRow.holds Try.pinned (OpenSpec.ofChange fnExactProcOkSpec)

/-- ITS FALSE NEIGHBOUR: 'it returns false'. Refute it at one input. -/
def fnExactProcOkWrong : ChangeSpec := { name := "fnExactProcOk", fn := fun _ => fun
  | [d1, d2] => { results := [.lit (.bool false)], args := [d1, d2] }
  | _ => none }
def FnExactProcOkWrongFalsely : Prop := fnExactProcOkRow.holds Try.pinned (OpenSpec.ofChange fnExactProcOkWrong)

/-- 'laws.FnExactWakeOf': WHATEVER THE INPUT: true; the input reads as it did. -/
def fnExactWakeOfSpec : ChangeSpec := { name := "fnExactWakeOf", fn := fun _ => fun
  | [d] => { results := [.lit (.bool true)], args := [d] }
  | _ => none }
def fnExactWakeOfRow : OpenClaim := { program := "ytjbodmgnecagmaa", sum := "6ddb2c1f376fd86c41c428e90f32484867a853b5fec48c49df7d2417ac2f09c1", func := "loop.example/g00743/laws.FnExactWakeOf", spec := "fnExactWakeOf", apart := false }
def FnExactWakeOfSaid : Prop := fnExactWakeOfRow.holds Try.pinned (OpenSpec.ofChange fnExactWakeOfSpec)

/-- ITS FALSE NEIGHBOUR: 'it returns false'. Refute it at one input. -/
def fnExactWakeOfWrong : ChangeSpec := { name := "fnExactWakeOf", fn := fun _ => fun
  | [d] => { results := [.lit (.bool false)], args := [d] }
  | _ => none }
def FnExactWakeOfWrongFalsely : Prop := fnExactWakeOfRow.holds Try.pinned (OpenSpec.ofChange fnExactWakeOfWrong)

/- THE SECOND FORM. 'bulk': how many values and letters a reading holds, each counted each time it is reached (what is shared counts as often as it is met; a slice's spare places count too). A statement '..UptoSaid' is the law's where the arguments, and the package variables that the reading takes, are together of bulk at most 1048576: NARROWER than '..Said'. Prove '..Said' where nothing that the law and all that it calls make is longer than what came in: it says more and counts as full. Else prove '..UptoSaid'. A law counts once. -/
mutual
def uptoBulk {H : Type} : DataW H → Nat
  | .lit (.string bytes) => bytes.length + 1
  | .lit _ => 1
  | .nil => 1
  | .ptr d => uptoBulk d + 1
  | .slice elems spare => uptoBulkAll elems + uptoBulkAll spare + 1
  | .agg parts => uptoBulkAll parts + 1
  | .iface _ d => uptoBulk d + 1
  | .map entries => uptoBulkEntries entries + 1
  | .held _ => 1
def uptoBulkAll {H : Type} : List (DataW H) → Nat
  | [] => 0
  | d :: r => uptoBulk d + uptoBulkAll r
def uptoBulkEntries {H : Type} : List (Lit × DataW H) → Nat
  | [] => 0
  | x :: r => uptoBulkEntry x + uptoBulkEntries r
def uptoBulkEntry {H : Type} : Lit × DataW H → Nat
  | (.string bytes, d) => bytes.length + uptoBulk d + 1
  | (_, d) => uptoBulk d + 1
 end
def uptoSmall : (H : Type) → List (DataW H) → Bool := fun _ ds => decide (uptoBulkAll ds ≤ 1048576)
def OpenSpec.upto (s : _root_.Go.ChangeSpec) : _root_.Go.OpenSpec := { _root_.Go.OpenSpec.ofChange s with cond := some uptoSmall }

/-- 'laws.FnProcs', WHERE WHAT IT READS IS OF BULK AT MOST 1048576: true; the input reads as it did. -/
def fnProcsUptoRow : OpenClaim := { program := "ytjbodmgnecagmaa", sum := "6ddb2c1f376fd86c41c428e90f32484867a853b5fec48c49df7d2417ac2f09c1", func := "loop.example/g00743/laws.FnProcs", spec := "fnProcs", unfollowed := true, recurses := true, apart := false, narrowed := true }
def FnProcsUptoSaid : Prop := fnProcsUptoRow.holds Try.pinned (OpenSpec.upto fnProcsSpec)

/-- 'laws.FnExactProcOk', WHERE WHAT IT READS IS OF BULK AT MOST 1048576: true; the input reads as it did. -/
def fnExactProcOkUptoRow : OpenClaim := { program := "ytjbodmgnecagmaa", sum := "6ddb2c1f376fd86c41c428e90f32484867a853b5fec48c49df7d2417ac2f09c1", func := "loop.example/g00743/laws.FnExactProcOk", spec := "fnExactProcOk", unfollowed := true, recurses := true, apart := false, narrowed := true }
def FnExactProcOkUptoSaid : Prop := fnExactProcOkUptoRow.holds Try.pinned (OpenSpec.upto fnExactProcOkSpec)

/-- 'laws.FnExactWakeOf', WHERE WHAT IT READS IS OF BULK AT MOST 1048576: true; the input reads as it did. -/
def fnExactWakeOfUptoRow : OpenClaim := { program := "ytjbodmgnecagmaa", sum := "6ddb2c1f376fd86c41c428e90f32484867a853b5fec48c49df7d2417ac2f09c1", func := "loop.example/g00743/laws.FnExactWakeOf", spec := "fnExactWakeOf", apart := false, narrowed := true }
def FnExactWakeOfUptoSaid : Prop := fnExactWakeOfUptoRow.holds Try.pinned (OpenSpec.upto fnExactWakeOfSpec)

end Rows
end Go.Proofs.Ytjbodmgnecagmaa
