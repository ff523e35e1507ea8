/-
  No cell of these rows narrows 'for every input' (looked for: loops, veiled, ifaces, maps, wideKeys, modest, calm, conditions, laid).
  DERIVED. THE GIVEN ROWS OF THIS SEAT. 7 by the template 'for every input the law returns true; each argument reads behind the call as it read before'; 0 by the template 'total and deterministic' (their statements: YtnmaljieaflnmaaTotals.lean).
  GIVEN WITH THE SEED: the statements are not yours to turn. If you find one false, say at which input.
  Laid BY PROGRAM, IN A SANDBOX (cutbox-rows.mjs): the forced cells as the released guide's own fill.sh prints them over the translation 4fe43d8ee8eca426… (all of the seat's roots in one cut). By AI agents, Wed Nov 11 2026. No macro, syntax, notation, axiom, sorry.
-/
import Derived.Test.YtnmaljieaflnmaaChecked
import GoSem.Claim
import GoSem.ClaimJoined
import GoSem.ClaimMapViews
import Derived.JoinedTies
import Derived.KernelRfl
namespace Go.Proofs.Ytnmaljieaflnmaa
/- THE CELL 'sum', in the pinned program and in every row, IS THE sha256 OF THE DUMP (.gsa) THAT YtnmaljieaflnmaaProg.lean LOADS. Nothing in Lean hashes anything: it is a label: what it is worth is what the hold of that sum in a sandbox is worth. -/
noncomputable def Try.pinned : Pinned := { name := "ytnmaljieaflnmaa", sum := "4fe43d8ee8eca426767871578cab62d9ee7677016703852166b496890280286f", checked := Try.checked }
namespace Rows
def none {H : Type} : Left H := { results := [], args := [] }

/-- 'laws.FnProcs': WHATEVER THE INPUT: true; the input reads as it did. -/
def fnProcsSpec : ChangeSpec := { name := "fnProcs", fn := fun _ => fun
  | [d] => { results := [.lit (.bool true)], args := [d] }
  | _ => none }
def fnProcsRow : OpenClaim := { program := "ytnmaljieaflnmaa", sum := "4fe43d8ee8eca426767871578cab62d9ee7677016703852166b496890280286f", func := "loop.example/g00743/laws.FnProcs", spec := "fnProcs", unfollowed := true, recurses := true, apart := false }
def FnProcsSaid : Prop := fnProcsRow.holds Try.pinned (OpenSpec.ofChange fnProcsSpec)

/-- ITS FALSE NEIGHBOUR: 'it returns false'. Refute it at one input. -/
def fnProcsWrong : ChangeSpec := { name := "fnProcs", fn := fun _ => fun
  | [d] => { results := [.lit (.bool false)], args := [d] }
  | _ => none }
def FnProcsWrongFalsely : Prop := fnProcsRow.holds Try.pinned (OpenSpec.ofChange fnProcsWrong)

/-- 'laws.FnExactWakeOf': WHATEVER THE INPUT: true; the input reads as it did. -/
def fnExactWakeOfSpec : ChangeSpec := { name := "fnExactWakeOf", fn := fun _ => fun
  | [d] => { results := [.lit (.bool true)], args := [d] }
  | _ => none }
def fnExactWakeOfRow : OpenClaim := { program := "ytnmaljieaflnmaa", sum := "4fe43d8ee8eca426767871578cab62d9ee7677016703852166b496890280286f", func := "loop.example/g00743/laws.FnExactWakeOf", spec := "fnExactWakeOf", apart := false }
def FnExactWakeOfSaid : Prop := fnExactWakeOfRow.holds Try.pinned (OpenSpec.ofChange fnExactWakeOfSpec)

/-- ITS FALSE NEIGHBOUR: 'it returns false'. Refute it at one input. -/
def fnExactWakeOfWrong : ChangeSpec := { name := "fnExactWakeOf", fn := fun _ => fun
  | [d] => { results := [.lit (.bool false)], args := [d] }
  | _ => none }
def FnExactWakeOfWrongFalsely : Prop := fnExactWakeOfRow.holds Try.pinned (OpenSpec.ofChange fnExactWakeOfWrong)

/-- 'laws.FnExactMemOk': WHATEVER THE INPUT: true; the input reads as it did. -/
def fnExactMemOkSpec : ChangeSpec := { name := "fnExactMemOk", fn := fun _ => fun
  | [d1, d2] => { results := [.lit (.bool true)], args := [d1, d2] }
  | _ => none }
def fnExactMemOkRow : OpenClaim := { program := "ytnmaljieaflnmaa", sum := "4fe43d8ee8eca426767871578cab62d9ee7677016703852166b496890280286f", func := "loop.example/g00743/laws.FnExactMemOk", spec := "fnExactMemOk", unfollowed := true, recurses := true, apart := false }
def FnExactMemOkSaid : Prop := fnExactMemOkRow.holds Try.pinned (OpenSpec.ofChange fnExactMemOkSpec)

/-- ITS FALSE NEIGHBOUR: 'it returns false'. Refute it at one input. -/
def fnExactMemOkWrong : ChangeSpec := { name := "fnExactMemOk", fn := fun _ => fun
  | [d1, d2] => { results := [.lit (.bool false)], args := [d1, d2] }
  | _ => none }
def FnExactMemOkWrongFalsely : Prop := fnExactMemOkRow.holds Try.pinned (OpenSpec.ofChange fnExactMemOkWrong)

/-- 'laws.FnExactNewMem': WHATEVER THE INPUT: true; the input reads as it did. -/
def fnExactNewMemSpec : ChangeSpec := { name := "fnExactNewMem", fn := fun _ => fun
  | [d] => { results := [.lit (.bool true)], args := [d] }
  | _ => none }
def fnExactNewMemRow : OpenClaim := { program := "ytnmaljieaflnmaa", sum := "4fe43d8ee8eca426767871578cab62d9ee7677016703852166b496890280286f", func := "loop.example/g00743/laws.FnExactNewMem", spec := "fnExactNewMem", apart := false }
def FnExactNewMemSaid : Prop := fnExactNewMemRow.holds Try.pinned (OpenSpec.ofChange fnExactNewMemSpec)

/-- ITS FALSE NEIGHBOUR: 'it returns false'. Refute it at one input. -/
def fnExactNewMemWrong : ChangeSpec := { name := "fnExactNewMem", fn := fun _ => fun
  | [d] => { results := [.lit (.bool false)], args := [d] }
  | _ => none }
def FnExactNewMemWrongFalsely : Prop := fnExactNewMemRow.holds Try.pinned (OpenSpec.ofChange fnExactNewMemWrong)

/-- 'laws.FnExactElapsed': WHATEVER THE INPUT: true; the input reads as it did. -/
def fnExactElapsedSpec : ChangeSpec := { name := "fnExactElapsed", fn := fun _ => fun
  | [d1, d2, d3] => { results := [.lit (.bool true)], args := [d1, d2, d3] }
  | _ => none }
def fnExactElapsedRow : OpenClaim := { program := "ytnmaljieaflnmaa", sum := "4fe43d8ee8eca426767871578cab62d9ee7677016703852166b496890280286f", func := "loop.example/g00743/laws.FnExactElapsed", spec := "fnExactElapsed", unfollowed := true, recurses := true, apart := false }
def FnExactElapsedSaid : Prop := fnExactElapsedRow.holds Try.pinned (OpenSpec.ofChange fnExactElapsedSpec)

/-- ITS FALSE NEIGHBOUR: 'it returns false'. Refute it at one input. -/
def fnExactElapsedWrong : ChangeSpec := { name := "fnExactElapsed", fn := fun _ => fun
  | [d1, d2, d3] => { results := [.lit (.bool false)], args := [d1, d2, d3] }
  | _ => none }
def FnExactElapsedWrongFalsely : Prop := fnExactElapsedRow.holds Try.pinned (OpenSpec.ofChange fnExactElapsedWrong)

/-- 'laws.FnExactDueIn': WHATEVER THE INPUT: true; the input reads as it did. -/
def fnExactDueInSpec : ChangeSpec := { name := "fnExactDueIn", fn := fun _ => fun
  | [d1, d2] => { results := [.lit (.bool true)], args := [d1, d2] }
  | _ => none }
def fnExactDueInRow : OpenClaim := { program := "ytnmaljieaflnmaa", sum := "4fe43d8ee8eca426767871578cab62d9ee7677016703852166b496890280286f", func := "loop.example/g00743/laws.FnExactDueIn", spec := "fnExactDueIn", unfollowed := true, recurses := true, apart := false }
def FnExactDueInSaid : Prop := fnExactDueInRow.holds Try.pinned (OpenSpec.ofChange fnExactDueInSpec)

/-- ITS FALSE NEIGHBOUR: 'it returns false'. Refute it at one input. -/
def fnExactDueInWrong : ChangeSpec := { name := "fnExactDueIn", fn := fun _ => fun
  | [d1, d2] => { results := [.lit (.bool false)], args := [d1, d2] }
  | _ => none }
def FnExactDueInWrongFalsely : Prop := fnExactDueInRow.holds Try.pinned (OpenSpec.ofChange fnExactDueInWrong)

/-- 'laws.FnExactWakeAll': WHATEVER THE INPUT: true; the input reads as it did. -/
def fnExactWakeAllSpec : ChangeSpec := { name := "fnExactWakeAll", fn := fun _ => fun
  | [d1, d2] => { results := [.lit (.bool true)], args := [d1, d2] }
  | _ => none }
def fnExactWakeAllRow : OpenClaim := { program := "ytnmaljieaflnmaa", sum := "4fe43d8ee8eca426767871578cab62d9ee7677016703852166b496890280286f", func := "loop.example/g00743/laws.FnExactWakeAll", spec := "fnExactWakeAll", unfollowed := true, recurses := true, apart := false }
def FnExactWakeAllSaid : Prop := fnExactWakeAllRow.holds Try.pinned (OpenSpec.ofChange fnExactWakeAllSpec)

/-- ITS FALSE NEIGHBOUR: 'it returns false'. Refute it at one input. -/
def fnExactWakeAllWrong : ChangeSpec := { name := "fnExactWakeAll", fn := fun _ => fun
  | [d1, d2] => { results := [.lit (.bool false)], args := [d1, d2] }
  | _ => none }
def FnExactWakeAllWrongFalsely : Prop := fnExactWakeAllRow.holds Try.pinned (OpenSpec.ofChange fnExactWakeAllWrong)

/- THE SECOND FORM. 'bulk': how many values and letters a reading holds, each counted each time it is reached (what is shared counts as often as it is met; a slice's spare places count too). A statement '..UptoSaid' is the law's where the arguments, and the package variables that the reading takes, are together of bulk at most 1048576: NARROWER than '..Said'. Prove '..Said' where nothing that the law and all that it calls make is longer than what came in: it says more and counts as full. Else prove '..UptoSaid'. A law counts once. -/
mutual
def uptoBulk {H : Type} : DataW H → Nat
  | .lit (.string bytes) => bytes.length + 1
  | .lit _ => 1
  | .nil => 1
  | .ptr d => uptoBulk d + 1
  | .slice elems spare => uptoBulkAll elems + uptoBulkAll spare + 1
  | .agg parts => uptoBulkAll parts + 1
  | .iface _ d => uptoBulk d + 1
  | .map entries => uptoBulkEntries entries + 1
  | .held _ => 1
def uptoBulkAll {H : Type} : List (DataW H) → Nat
  | [] => 0
  | d :: r => uptoBulk d + uptoBulkAll r
def uptoBulkEntries {H : Type} : List (Lit × DataW H) → Nat
  | [] => 0
  | x :: r => uptoBulkEntry x + uptoBulkEntries r
def uptoBulkEntry {H : Type} : Lit × DataW H → Nat
  | (.string bytes, d) => bytes.length + uptoBulk d + 1
  | (_, d) => uptoBulk d + 1
 end
def uptoSmall : (H : Type) → List (DataW H) → Bool := fun _ ds => decide (uptoBulkAll ds ≤ 1048576)
def OpenSpec.upto (s : _root_.Go.ChangeSpec) : _root_.Go.OpenSpec := { _root_.Go.OpenSpec.ofChange s with cond := some uptoSmall }

/-- 'laws.FnProcs', WHERE WHAT IT READS IS OF BULK AT MOST 1048576: true; the input reads as it did. -/
def fnProcsUptoRow : OpenClaim := { program := "ytnmaljieaflnmaa", sum := "4fe43d8ee8eca426767871578cab62d9ee7677016703852166b496890280286f", func := "loop.example/g00743/laws.FnProcs", spec := "fnProcs", unfollowed := true, recurses := true, apart := false, narrowed := true }
def FnProcsUptoSaid : Prop := fnProcsUptoRow.holds Try.pinned (OpenSpec.upto fnProcsSpec)

/-- 'laws.FnExactWakeOf', WHERE WHAT IT READS IS OF BULK AT MOST 1048576: true; the input reads as it did. -/
def fnExactWakeOfUptoRow : OpenClaim := { program := "ytnmaljieaflnmaa", sum := "4fe43d8ee8eca426767871578cab62d9ee7677016703852166b496890280286f", func := "loop.example/g00743/laws.FnExactWakeOf", spec := "fnExactWakeOf", apart := false, narrowed := true }
def FnExactWakeOfUptoSaid : Prop := fnExactWakeOfUptoRow.holds Try.pinned (OpenSpec.upto fnExactWakeOfSpec)

/-- 'laws.FnExactMemOk', WHERE WHAT IT READS IS OF BULK AT MOST 1048576: true; the input reads as it did. -/
def fnExactMemOkUptoRow : OpenClaim := { program := "ytnmaljieaflnmaa", sum := "4fe43d8ee8eca426767871578cab62d9ee7677016703852166b496890280286f", func := "loop.example/g00743/laws.FnExactMemOk", spec := "fnExactMemOk", unfollowed := true, recurses := true, apart := false, narrowed := true }
def FnExactMemOkUptoSaid : Prop := fnExactMemOkUptoRow.holds Try.pinned (OpenSpec.upto fnExactMemOkSpec)

/-- 'laws.FnExactNewMem', WHERE WHAT IT READS IS OF BULK AT MOST 1048576: true; the input reads as it did. -/
def fnExactNewMemUptoRow : OpenClaim := { program := "ytnmaljieaflnmaa", sum := "4fe43d8ee8eca426767871578cab62d9ee7677016703852166b496890280286f", func := "loop.example/g00743/laws.FnExactNewMem", spec := "fnExactNewMem", apart := false, narrowed := true }
def FnExactNewMemUptoSaid : Prop := fnExactNewMemUptoRow.holds Try.pinned (OpenSpec.upto fnExactNewMemSpec)

/-- 'laws.FnExactElapsed', WHERE WHAT IT READS IS OF BULK AT MOST 1048576: true; the input reads as it did. -/
def fnExactElapsedUptoRow : OpenClaim := { program := "ytnmaljieaflnmaa", sum := "4fe43d8ee8eca426767871578cab62d9ee7677016703852166b496890280286f", func := "loop.example/g00743/laws.FnExactElapsed", spec := "fnExactElapsed", unfollowed := true, recurses := true, apart := false, narrowed := true }
def FnExactElapsedUptoSaid : Prop := fnExactElapsedUptoRow.holds Try.pinned (OpenSpec.upto fnExactElapsedSpec)

/-- 'laws.FnExactDueIn', WHERE WHAT IT READS IS OF BULK AT MOST 1048576: true; the input reads as it did. -/
def fnExactDueInUptoRow : OpenClaim := { program := "ytnmaljieaflnmaa", sum := "4fe43d8ee8eca426767871578cab62d9ee7677016703852166b496890280286f", func := "loop.example/g00743/laws.FnExactDueIn", spec := "fnExactDueIn", unfollowed := true, recurses := true, apart := false, narrowed := true }
def FnExactDueInUptoSaid : Prop := fnExactDueInUptoRow.holds Try.pinned (OpenSpec.upto fnExactDueInSpec)

/-- 'laws.FnExactWakeAll', WHERE WHAT IT READS IS OF BULK AT MOST 1048576: true; the input reads as it did. -/
def fnExactWakeAllUptoRow : OpenClaim := { program := "ytnmaljieaflnmaa", sum := "4fe43d8ee8eca426767871578cab62d9ee7677016703852166b496890280286f", func := "loop.example/g00743/laws.FnExactWakeAll", spec := "fnExactWakeAll", unfollowed := true, recurses := true, apart := false, narrowed := true }
def FnExactWakeAllUptoSaid : Prop := fnExactWakeAllUptoRow.holds Try.pinned (OpenSpec.upto fnExactWakeAllSpec)

end Rows
end Go.Proofs.Ytnmaljieaflnmaa
