/-
  No cell of these rows narrows 'for every input' (looked for: loops, veiled, ifaces, maps, wideKeys, modest, calm, conditions, laid).
  DERIVED. THE GIVEN ROWS OF THIS SEAT. 8 by the template 'for every input the law returns true; each argument reads behind the call as it read before'; 0 by the template 'total and deterministic' (their statements: YtegmlabiodikpaaTotals.lean).
  GIVEN WITH THE SEED: the statements are not yours to turn. If you find one false, say at which input.
  Laid BY PROGRAM, IN A SANDBOX (cutbox-rows.mjs): the forced cells as the released guide's own fill.sh prints them over the translation ad2607dbbcf4638c… (all of the seat's roots in one cut). By AI agents, Wed Nov 11 2026. No macro, syntax, notation, axiom, sorry.
-/
import Derived.Test.YtegmlabiodikpaaChecked
import GoSem.Claim
import GoSem.ClaimJoined
import GoSem.ClaimMapViews
import Derived.JoinedTies
import Derived.KernelRfl
namespace Go.Proofs.Ytegmlabiodikpaa
/- THE CELL 'sum', in the pinned program and in every row, IS THE sha256 OF THE DUMP (.gsa) THAT YtegmlabiodikpaaProg.lean LOADS. Nothing in Lean hashes anything: it is a label: what it is worth is what the hold of that sum in a sandbox is worth. -/
noncomputable def Try.pinned : Pinned := { name := "ytegmlabiodikpaa", sum := "ad2607dbbcf4638cf07b7f2ed2e8fa611bbf0de7f22c18aaa372f68fabe5badb", checked := Try.checked }
namespace Rows
def none {H : Type} : Left H := { results := [], args := [] }

/-- 'laws.FnHeap': WHATEVER THE INPUT: true; the input reads as it did. -/
def fnHeapSpec : ChangeSpec := { name := "fnHeap", fn := fun _ => fun
  | [d] => { results := [.lit (.bool true)], args := [d] }
  | _ => none }
def fnHeapRow : OpenClaim := { program := "ytegmlabiodikpaa", sum := "ad2607dbbcf4638cf07b7f2ed2e8fa611bbf0de7f22c18aaa372f68fabe5badb", func := "loop.example/g00743/laws.FnHeap", spec := "fnHeap", unfollowed := true, recurses := true, apart := false }
def FnHeapSaid : Prop := fnHeapRow.holds Try.pinned (OpenSpec.ofChange fnHeapSpec)

/-- ITS FALSE NEIGHBOUR: 'it returns false'. Refute it at one input. -/
def fnHeapWrong : ChangeSpec := { name := "fnHeap", fn := fun _ => fun
  | [d] => { results := [.lit (.bool false)], args := [d] }
  | _ => none }
def FnHeapWrongFalsely : Prop := fnHeapRow.holds Try.pinned (OpenSpec.ofChange fnHeapWrong)

/-- 'laws.FnSifts': WHATEVER THE INPUT: true; the input reads as it did. -/
def fnSiftsSpec : ChangeSpec := { name := "fnSifts", fn := fun _ => fun
  | [d] => { results := [.lit (.bool true)], args := [d] }
  | _ => none }
def fnSiftsRow : OpenClaim := { program := "ytegmlabiodikpaa", sum := "ad2607dbbcf4638cf07b7f2ed2e8fa611bbf0de7f22c18aaa372f68fabe5badb", func := "loop.example/g00743/laws.FnSifts", spec := "fnSifts", unfollowed := true, recurses := true, apart := false }
def FnSiftsSaid : Prop := fnSiftsRow.holds Try.pinned (OpenSpec.ofChange fnSiftsSpec)

/-- ITS FALSE NEIGHBOUR: 'it returns false'. Refute it at one input. -/
def fnSiftsWrong : ChangeSpec := { name := "fnSifts", fn := fun _ => fun
  | [d] => { results := [.lit (.bool false)], args := [d] }
  | _ => none }
def FnSiftsWrongFalsely : Prop := fnSiftsRow.holds Try.pinned (OpenSpec.ofChange fnSiftsWrong)

/-- 'laws.FnExactHeapOk': WHATEVER THE INPUT: true; the input reads as it did. -/
def fnExactHeapOkSpec : ChangeSpec := { name := "fnExactHeapOk", fn := fun _ => fun
  | [d] => { results := [.lit (.bool true)], args := [d] }
  | _ => none }
def fnExactHeapOkRow : OpenClaim := { program := "ytegmlabiodikpaa", sum := "ad2607dbbcf4638cf07b7f2ed2e8fa611bbf0de7f22c18aaa372f68fabe5badb", func := "loop.example/g00743/laws.FnExactHeapOk", spec := "fnExactHeapOk", unfollowed := true, recurses := true, apart := false }
def FnExactHeapOkSaid : Prop := fnExactHeapOkRow.holds Try.pinned (OpenSpec.ofChange fnExactHeapOkSpec)

/-- ITS FALSE NEIGHBOUR: 'it returns false'. Refute it at one input. -/
def fnExactHeapOkWrong : ChangeSpec := { name := "fnExactHeapOk", fn := fun _ => fun
  | [d] => { results := [.lit (.bool false)], args := [d] }
  | _ => none }
def FnExactHeapOkWrongFalsely : Prop := fnExactHeapOkRow.holds Try.pinned (OpenSpec.ofChange fnExactHeapOkWrong)

/-- 'laws.FnExactRaisedFrom': WHATEVER THE INPUT: true; the input reads as it did. -/
def fnExactRaisedFromSpec : ChangeSpec := { name := "fnExactRaisedFrom", fn := fun _ => fun
  | [d1, d2] => { results := [.lit (.bool true)], args := [d1, d2] }
  | _ => none }
def fnExactRaisedFromRow : OpenClaim := { program := "ytegmlabiodikpaa", sum := "ad2607dbbcf4638cf07b7f2ed2e8fa611bbf0de7f22c18aaa372f68fabe5badb", func := "loop.example/g00743/laws.FnExactRaisedFrom", spec := "fnExactRaisedFrom", unfollowed := true, recurses := true, apart := false }
def FnExactRaisedFromSaid : Prop := fnExactRaisedFromRow.holds Try.pinned (OpenSpec.ofChange fnExactRaisedFromSpec)

/-- ITS FALSE NEIGHBOUR: 'it returns false'. Refute it at one input. -/
def fnExactRaisedFromWrong : ChangeSpec := { name := "fnExactRaisedFrom", fn := fun _ => fun
  | [d1, d2] => { results := [.lit (.bool false)], args := [d1, d2] }
  | _ => none }
def FnExactRaisedFromWrongFalsely : Prop := fnExactRaisedFromRow.holds Try.pinned (OpenSpec.ofChange fnExactRaisedFromWrong)

/-- 'laws.FnExactSunkFrom': WHATEVER THE INPUT: true; the input reads as it did. -/
def fnExactSunkFromSpec : ChangeSpec := { name := "fnExactSunkFrom", fn := fun _ => fun
  | [d1, d2] => { results := [.lit (.bool true)], args := [d1, d2] }
  | _ => none }
def fnExactSunkFromRow : OpenClaim := { program := "ytegmlabiodikpaa", sum := "ad2607dbbcf4638cf07b7f2ed2e8fa611bbf0de7f22c18aaa372f68fabe5badb", func := "loop.example/g00743/laws.FnExactSunkFrom", spec := "fnExactSunkFrom", unfollowed := true, recurses := true, apart := false }
def FnExactSunkFromSaid : Prop := fnExactSunkFromRow.holds Try.pinned (OpenSpec.ofChange fnExactSunkFromSpec)

/-- ITS FALSE NEIGHBOUR: 'it returns false'. Refute it at one input. -/
def fnExactSunkFromWrong : ChangeSpec := { name := "fnExactSunkFrom", fn := fun _ => fun
  | [d1, d2] => { results := [.lit (.bool false)], args := [d1, d2] }
  | _ => none }
def FnExactSunkFromWrongFalsely : Prop := fnExactSunkFromRow.holds Try.pinned (OpenSpec.ofChange fnExactSunkFromWrong)

/-- 'laws.FnExactPushedOn': WHATEVER THE INPUT: true; the input reads as it did. -/
def fnExactPushedOnSpec : ChangeSpec := { name := "fnExactPushedOn", fn := fun _ => fun
  | [d1, d2] => { results := [.lit (.bool true)], args := [d1, d2] }
  | _ => none }
def fnExactPushedOnRow : OpenClaim := { program := "ytegmlabiodikpaa", sum := "ad2607dbbcf4638cf07b7f2ed2e8fa611bbf0de7f22c18aaa372f68fabe5badb", func := "loop.example/g00743/laws.FnExactPushedOn", spec := "fnExactPushedOn", unfollowed := true, recurses := true, apart := false }
def FnExactPushedOnSaid : Prop := fnExactPushedOnRow.holds Try.pinned (OpenSpec.ofChange fnExactPushedOnSpec)

/-- ITS FALSE NEIGHBOUR: 'it returns false'. Refute it at one input. -/
def fnExactPushedOnWrong : ChangeSpec := { name := "fnExactPushedOn", fn := fun _ => fun
  | [d1, d2] => { results := [.lit (.bool false)], args := [d1, d2] }
  | _ => none }
def FnExactPushedOnWrongFalsely : Prop := fnExactPushedOnRow.holds Try.pinned (OpenSpec.ofChange fnExactPushedOnWrong)

/-- 'laws.FnExactPulledOff': WHATEVER THE INPUT: true; the input reads as it did. -/
def fnExactPulledOffSpec : ChangeSpec := { name := "fnExactPulledOff", fn := fun _ => fun
  | [d1, d2] => { results := [.lit (.bool true)], args := [d1, d2] }
  | _ => none }
def fnExactPulledOffRow : OpenClaim := { program := "ytegmlabiodikpaa", sum := "ad2607dbbcf4638cf07b7f2ed2e8fa611bbf0de7f22c18aaa372f68fabe5badb", func := "loop.example/g00743/laws.FnExactPulledOff", spec := "fnExactPulledOff", unfollowed := true, recurses := true, apart := false }
def FnExactPulledOffSaid : Prop := fnExactPulledOffRow.holds Try.pinned (OpenSpec.ofChange fnExactPulledOffSpec)

/-- ITS FALSE NEIGHBOUR: 'it returns false'. Refute it at one input. -/
def fnExactPulledOffWrong : ChangeSpec := { name := "fnExactPulledOff", fn := fun _ => fun
  | [d1, d2] => { results := [.lit (.bool false)], args := [d1, d2] }
  | _ => none }
def FnExactPulledOffWrongFalsely : Prop := fnExactPulledOffRow.holds Try.pinned (OpenSpec.ofChange fnExactPulledOffWrong)

/-- 'laws.FnExactFindSlot': WHATEVER THE INPUT: true; the input reads as it did. -/
def fnExactFindSlotSpec : ChangeSpec := { name := "fnExactFindSlot", fn := fun _ => fun
  | [d1, d2] => { results := [.lit (.bool true)], args := [d1, d2] }
  | _ => none }
def fnExactFindSlotRow : OpenClaim := { program := "ytegmlabiodikpaa", sum := "ad2607dbbcf4638cf07b7f2ed2e8fa611bbf0de7f22c18aaa372f68fabe5badb", func := "loop.example/g00743/laws.FnExactFindSlot", spec := "fnExactFindSlot", unfollowed := true, recurses := true, apart := false }
def FnExactFindSlotSaid : Prop := fnExactFindSlotRow.holds Try.pinned (OpenSpec.ofChange fnExactFindSlotSpec)

/-- ITS FALSE NEIGHBOUR: 'it returns false'. Refute it at one input. -/
def fnExactFindSlotWrong : ChangeSpec := { name := "fnExactFindSlot", fn := fun _ => fun
  | [d1, d2] => { results := [.lit (.bool false)], args := [d1, d2] }
  | _ => none }
def FnExactFindSlotWrongFalsely : Prop := fnExactFindSlotRow.holds Try.pinned (OpenSpec.ofChange fnExactFindSlotWrong)

/- THE SECOND FORM. 'bulk': how many values and letters a reading holds, each counted each time it is reached (what is shared counts as often as it is met; a slice's spare places count too). A statement '..UptoSaid' is the law's where the arguments, and the package variables that the reading takes, are together of bulk at most 1048576: NARROWER than '..Said'. Prove '..Said' where nothing that the law and all that it calls make is longer than what came in: it says more and counts as full. Else prove '..UptoSaid'. A law counts once. -/
mutual
def uptoBulk {H : Type} : DataW H → Nat
  | .lit (.string bytes) => bytes.length + 1
  | .lit _ => 1
  | .nil => 1
  | .ptr d => uptoBulk d + 1
  | .slice elems spare => uptoBulkAll elems + uptoBulkAll spare + 1
  | .agg parts => uptoBulkAll parts + 1
  | .iface _ d => uptoBulk d + 1
  | .map entries => uptoBulkEntries entries + 1
  | .held _ => 1
def uptoBulkAll {H : Type} : List (DataW H) → Nat
  | [] => 0
  | d :: r => uptoBulk d + uptoBulkAll r
def uptoBulkEntries {H : Type} : List (Lit × DataW H) → Nat
  | [] => 0
  | x :: r => uptoBulkEntry x + uptoBulkEntries r
def uptoBulkEntry {H : Type} : Lit × DataW H → Nat
  | (.string bytes, d) => bytes.length + uptoBulk d + 1
  | (_, d) => uptoBulk d + 1
 end
def uptoSmall : (H : Type) → List (DataW H) → Bool := fun _ ds => decide (uptoBulkAll ds ≤ 1048576)
def OpenSpec.upto (s : _root_.Go.ChangeSpec) : _root_.Go.OpenSpec := { _root_.Go.OpenSpec.ofChange s with cond := some uptoSmall }

/-- 'laws.FnHeap', WHERE WHAT IT READS IS OF BULK AT MOST 1048576: true; the input reads as it did. -/
def fnHeapUptoRow : OpenClaim := { program := "ytegmlabiodikpaa", sum := "ad2607dbbcf4638cf07b7f2ed2e8fa611bbf0de7f22c18aaa372f68fabe5badb", func := "loop.example/g00743/laws.FnHeap", spec := "fnHeap", unfollowed := true, recurses := true, apart := false, narrowed := true }
def FnHeapUptoSaid : Prop := fnHeapUptoRow.holds Try.pinned (OpenSpec.upto fnHeapSpec)

/-- 'laws.FnSifts', WHERE WHAT IT READS IS OF BULK AT MOST 1048576: true; the input reads as it did. -/
def fnSiftsUptoRow : OpenClaim := { program := "ytegmlabiodikpaa", sum := "ad2607dbbcf4638cf07b7f2ed2e8fa611bbf0de7f22c18aaa372f68fabe5badb", func := "loop.example/g00743/laws.FnSifts", spec := "fnSifts", unfollowed := true, recurses := true, apart := false, narrowed := true }
def FnSiftsUptoSaid : Prop := fnSiftsUptoRow.holds Try.pinned (OpenSpec.upto fnSiftsSpec)

/-- 'laws.FnExactHeapOk', WHERE WHAT IT READS IS OF BULK AT MOST 1048576: true; the input reads as it did. -/
def fnExactHeapOkUptoRow : OpenClaim := { program := "ytegmlabiodikpaa", sum := "ad2607dbbcf4638cf07b7f2ed2e8fa611bbf0de7f22c18aaa372f68fabe5badb", func := "loop.example/g00743/laws.FnExactHeapOk", spec := "fnExactHeapOk", unfollowed := true, recurses := true, apart := false, narrowed := true }
def FnExactHeapOkUptoSaid : Prop := fnExactHeapOkUptoRow.holds Try.pinned (OpenSpec.upto fnExactHeapOkSpec)

/-- 'laws.FnExactRaisedFrom', WHERE WHAT IT READS IS OF BULK AT MOST 1048576: true; the input reads as it did. -/
def fnExactRaisedFromUptoRow : OpenClaim := { program := "ytegmlabiodikpaa", sum := "ad2607dbbcf4638cf07b7f2ed2e8fa611bbf0de7f22c18aaa372f68fabe5badb", func := "loop.example/g00743/laws.FnExactRaisedFrom", spec := "fnExactRaisedFrom", unfollowed := true, recurses := true, apart := false, narrowed := true }
def FnExactRaisedFromUptoSaid : Prop := fnExactRaisedFromUptoRow.holds Try.pinned (OpenSpec.upto fnExactRaisedFromSpec)

/-- 'laws.FnExactSunkFrom', WHERE WHAT IT READS IS OF BULK AT MOST 1048576: true; the input reads as it did. -/
def fnExactSunkFromUptoRow : OpenClaim := { program := "ytegmlabiodikpaa", sum := "ad2607dbbcf4638cf07b7f2ed2e8fa611bbf0de7f22c18aaa372f68fabe5badb", func := "loop.example/g00743/laws.FnExactSunkFrom", spec := "fnExactSunkFrom", unfollowed := true, recurses := true, apart := false, narrowed := true }
def FnExactSunkFromUptoSaid : Prop := fnExactSunkFromUptoRow.holds Try.pinned (OpenSpec.upto fnExactSunkFromSpec)

/-- 'laws.FnExactPushedOn', WHERE WHAT IT READS IS OF BULK AT MOST 1048576: true; the input reads as it did. -/
def fnExactPushedOnUptoRow : OpenClaim := { program := "ytegmlabiodikpaa", sum := "ad2607dbbcf4638cf07b7f2ed2e8fa611bbf0de7f22c18aaa372f68fabe5badb", func := "loop.example/g00743/laws.FnExactPushedOn", spec := "fnExactPushedOn", unfollowed := true, recurses := true, apart := false, narrowed := true }
def FnExactPushedOnUptoSaid : Prop := fnExactPushedOnUptoRow.holds Try.pinned (OpenSpec.upto fnExactPushedOnSpec)

/-- 'laws.FnExactPulledOff', WHERE WHAT IT READS IS OF BULK AT MOST 1048576: true; the input reads as it did. -/
def fnExactPulledOffUptoRow : OpenClaim := { program := "ytegmlabiodikpaa", sum := "ad2607dbbcf4638cf07b7f2ed2e8fa611bbf0de7f22c18aaa372f68fabe5badb", func := "loop.example/g00743/laws.FnExactPulledOff", spec := "fnExactPulledOff", unfollowed := true, recurses := true, apart := false, narrowed := true }
def FnExactPulledOffUptoSaid : Prop := fnExactPulledOffUptoRow.holds Try.pinned (OpenSpec.upto fnExactPulledOffSpec)

/-- 'laws.FnExactFindSlot', WHERE WHAT IT READS IS OF BULK AT MOST 1048576: true; the input reads as it did. -/
def fnExactFindSlotUptoRow : OpenClaim := { program := "ytegmlabiodikpaa", sum := "ad2607dbbcf4638cf07b7f2ed2e8fa611bbf0de7f22c18aaa372f68fabe5badb", func := "loop.example/g00743/laws.FnExactFindSlot", spec := "fnExactFindSlot", unfollowed := true, recurses := true, apart := false, narrowed := true }
def FnExactFindSlotUptoSaid : Prop := fnExactFindSlotUptoRow.holds Try.pinned (OpenSpec.upto fnExactFindSlotSpec)

end Rows
end Go.Proofs.Ytegmlabiodikpaa
