/-
  No cell of these rows narrows 'for every input' (looked for: loops, veiled, ifaces, maps, wideKeys, modest, calm, conditions, laid).
  DERIVED. THE GIVEN ROWS OF THIS SEAT. 3 by the template 'for every input the law returns true; each argument reads behind the call as it read before'; 0 by the template 'total and deterministic' (their statements: YtonpbmeekgdilaaGreatTotals.lean).
  GIVEN WITH THE SEED: the statements are not yours to turn. If you find one false, say at which input.
  Laid BY PROGRAM, IN A SANDBOX (cutbox-rows.mjs): the forced cells as the released guide's own fill.sh prints them over the translation 6b4c66b65b70701f… (all of the seat's roots in one cut). By AI agents, Wed Nov 11 2026. No macro, syntax, notation, axiom, sorry.
-/
import Derived.Test.YtonpbmeekgdilaaGreatChecked
import GoSem.Claim
import GoSem.ClaimJoined
import GoSem.ClaimMapViews
import Derived.JoinedTies
import Derived.KernelRfl
namespace Go.Proofs.YtonpbmeekgdilaaGreat
/- THE CELL 'sum', in the pinned program and in every row, IS THE sha256 OF THE DUMP (.gsa) THAT YtonpbmeekgdilaaGreatProg.lean LOADS. Nothing in Lean hashes anything: it is a label: what it is worth is what the hold of that sum in a sandbox is worth. -/
noncomputable def Tryz.pinned : Pinned := { name := "ytonpbmeekgdilaagreat", sum := "6b4c66b65b70701faf2099e5ca43cdc086fd6746a691df7e94d7e04f2b079e9d", checked := Tryz.checked }
namespace Rows
def none {H : Type} : Left H := { results := [], args := [] }

/-- 'laws.FnExactArmed': WHATEVER THE INPUT: true; the input reads as it did. -/
def fnExactArmedSpec : ChangeSpec := { name := "fnExactArmed", fn := fun _ => fun
  | [d1, d2, d3, d4] => { results := [.lit (.bool true)], args := [d1, d2, d3, d4] }
  | _ => none }
def fnExactArmedRow : OpenClaim := { program := "ytonpbmeekgdilaagreat", sum := "6b4c66b65b70701faf2099e5ca43cdc086fd6746a691df7e94d7e04f2b079e9d", func := "loop.example/g00743/laws.FnExactArmed", spec := "fnExactArmed", unfollowed := true, recurses := true, apart := false }
def FnExactArmedSaid : Prop := fnExactArmedRow.holds Tryz.pinned (OpenSpec.ofChange fnExactArmedSpec)

/-- ITS FALSE NEIGHBOUR: 'it returns false'. Refute it at one input. -/
def fnExactArmedWrong : ChangeSpec := { name := "fnExactArmed", fn := fun _ => fun
  | [d1, d2, d3, d4] => { results := [.lit (.bool false)], args := [d1, d2, d3, d4] }
  | _ => none }
def FnExactArmedWrongFalsely : Prop := fnExactArmedRow.holds Tryz.pinned (OpenSpec.ofChange fnExactArmedWrong)

/-- 'laws.FnExactTidied': WHATEVER THE INPUT: true; the input reads as it did. -/
def fnExactTidiedSpec : ChangeSpec := { name := "fnExactTidied", fn := fun _ => fun
  | [d1, d2, d3] => { results := [.lit (.bool true)], args := [d1, d2, d3] }
  | _ => none }
def fnExactTidiedRow : OpenClaim := { program := "ytonpbmeekgdilaagreat", sum := "6b4c66b65b70701faf2099e5ca43cdc086fd6746a691df7e94d7e04f2b079e9d", func := "loop.example/g00743/laws.FnExactTidied", spec := "fnExactTidied", unfollowed := true, recurses := true, apart := false }
def FnExactTidiedSaid : Prop := fnExactTidiedRow.holds Tryz.pinned (OpenSpec.ofChange fnExactTidiedSpec)

/-- ITS FALSE NEIGHBOUR: 'it returns false'. Refute it at one input. -/
def fnExactTidiedWrong : ChangeSpec := { name := "fnExactTidied", fn := fun _ => fun
  | [d1, d2, d3] => { results := [.lit (.bool false)], args := [d1, d2, d3] }
  | _ => none }
def FnExactTidiedWrongFalsely : Prop := fnExactTidiedRow.holds Tryz.pinned (OpenSpec.ofChange fnExactTidiedWrong)

/-- 'laws.FnExactRearmed': WHATEVER THE INPUT: true; the input reads as it did. -/
def fnExactRearmedSpec : ChangeSpec := { name := "fnExactRearmed", fn := fun _ => fun
  | [d1, d2, d3] => { results := [.lit (.bool true)], args := [d1, d2, d3] }
  | _ => none }
def fnExactRearmedRow : OpenClaim := { program := "ytonpbmeekgdilaagreat", sum := "6b4c66b65b70701faf2099e5ca43cdc086fd6746a691df7e94d7e04f2b079e9d", func := "loop.example/g00743/laws.FnExactRearmed", spec := "fnExactRearmed", unfollowed := true, recurses := true, apart := false }
def FnExactRearmedSaid : Prop := fnExactRearmedRow.holds Tryz.pinned (OpenSpec.ofChange fnExactRearmedSpec)

/-- ITS FALSE NEIGHBOUR: 'it returns false'. Refute it at one input. -/
def fnExactRearmedWrong : ChangeSpec := { name := "fnExactRearmed", fn := fun _ => fun
  | [d1, d2, d3] => { results := [.lit (.bool false)], args := [d1, d2, d3] }
  | _ => none }
def FnExactRearmedWrongFalsely : Prop := fnExactRearmedRow.holds Tryz.pinned (OpenSpec.ofChange fnExactRearmedWrong)

/- THE SECOND FORM. 'bulk': how many values and letters a reading holds, each counted each time it is reached (what is shared counts as often as it is met; a slice's spare places count too). A statement '..UptoSaid' is the law's where the arguments, and the package variables that the reading takes, are together of bulk at most 1048576: NARROWER than '..Said'. Prove '..Said' where nothing that the law and all that it calls make is longer than what came in: it says more and counts as full. Else prove '..UptoSaid'. A law counts once. -/
mutual
def uptoBulk {H : Type} : DataW H → Nat
  | .lit (.string bytes) => bytes.length + 1
  | .lit _ => 1
  | .nil => 1
  | .ptr d => uptoBulk d + 1
  | .slice elems spare => uptoBulkAll elems + uptoBulkAll spare + 1
  | .agg parts => uptoBulkAll parts + 1
  | .iface _ d => uptoBulk d + 1
  | .map entries => uptoBulkEntries entries + 1
  | .held _ => 1
def uptoBulkAll {H : Type} : List (DataW H) → Nat
  | [] => 0
  | d :: r => uptoBulk d + uptoBulkAll r
def uptoBulkEntries {H : Type} : List (Lit × DataW H) → Nat
  | [] => 0
  | x :: r => uptoBulkEntry x + uptoBulkEntries r
def uptoBulkEntry {H : Type} : Lit × DataW H → Nat
  | (.string bytes, d) => bytes.length + uptoBulk d + 1
  | (_, d) => uptoBulk d + 1
 end
def uptoSmall : (H : Type) → List (DataW H) → Bool := fun _ ds => decide (uptoBulkAll ds ≤ 1048576)
def OpenSpec.upto (s : _root_.Go.ChangeSpec) : _root_.Go.OpenSpec := { _root_.Go.OpenSpec.ofChange s with cond := some uptoSmall }

/-- 'laws.FnExactArmed', WHERE WHAT IT READS IS OF BULK AT MOST 1048576: true; the input reads as it did. -/
def fnExactArmedUptoRow : OpenClaim := { program := "ytonpbmeekgdilaagreat", sum := "6b4c66b65b70701faf2099e5ca43cdc086fd6746a691df7e94d7e04f2b079e9d", func := "loop.example/g00743/laws.FnExactArmed", spec := "fnExactArmed", unfollowed := true, recurses := true, apart := false, narrowed := true }
def FnExactArmedUptoSaid : Prop := fnExactArmedUptoRow.holds Tryz.pinned (OpenSpec.upto fnExactArmedSpec)

/-- 'laws.FnExactTidied', WHERE WHAT IT READS IS OF BULK AT MOST 1048576: true; the input reads as it did. -/
def fnExactTidiedUptoRow : OpenClaim := { program := "ytonpbmeekgdilaagreat", sum := "6b4c66b65b70701faf2099e5ca43cdc086fd6746a691df7e94d7e04f2b079e9d", func := "loop.example/g00743/laws.FnExactTidied", spec := "fnExactTidied", unfollowed := true, recurses := true, apart := false, narrowed := true }
def FnExactTidiedUptoSaid : Prop := fnExactTidiedUptoRow.holds Tryz.pinned (OpenSpec.upto fnExactTidiedSpec)

/-- 'laws.FnExactRearmed', WHERE WHAT IT READS IS OF BULK AT MOST 1048576: true; the input reads as it did. -/
def fnExactRearmedUptoRow : OpenClaim := { program := "ytonpbmeekgdilaagreat", sum := "6b4c66b65b70701faf2099e5ca43cdc086fd6746a691df7e94d7e04f2b079e9d", func := "loop.example/g00743/laws.FnExactRearmed", spec := "fnExactRearmed", unfollowed := true, recurses := true, apart := false, narrowed := true }
def FnExactRearmedUptoSaid : Prop := fnExactRearmedUptoRow.holds Tryz.pinned (OpenSpec.upto fnExactRearmedSpec)

end Rows
end Go.Proofs.YtonpbmeekgdilaaGreat
