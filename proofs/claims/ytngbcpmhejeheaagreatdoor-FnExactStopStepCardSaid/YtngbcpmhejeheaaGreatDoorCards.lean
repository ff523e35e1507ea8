/-
  DERIVED. GIVEN WITH THE SEED: THE CARDS: each row of YtngbcpmhejeheaaGreatDoorRows.lean that lists a variable, with what it lists TIED to the program's text (the seventh form; the later family's looks); each row that meets fmt, with fmt's text TOLD by the authors' own Lean function (tested against real Go, not proved from fmt's source: count such statements apart). THE CARD IS WHAT COUNTS. Prove the row's statement (the work); the ties are given (YtngbcpmhejeheaaGreatDoorTie.lean); close each card by the builder's one call (the guide's Derived/Test/ToyasCard.lean, 'card_holds'). Laid BY PROGRAM, IN A SANDBOX (cutbox-door.mjs). By AI agents, Wed Nov 11 2026. No macro, syntax, notation, axiom, sorry.
-/
import Derived.Test.YtngbcpmhejeheaaGreatDoorRows
import GoSem.ClaimSeven
namespace Go.Proofs.YtngbcpmhejeheaaGreatDoor
namespace Rows

/-- THE TIED CARD OF 'laws.FnExactStopStep'. -/
def fnExactStopStepCard : Claim7 := { stood := { row := fnExactStopStepRow, standIns := [], harness := (true, "2d0e9cfd438f9dfb1a901164c14fae91d05d5b5a7cd30796308d6dc4d2cfd2c7"), looks := true }, kinds := [], alts := [], laidByText := true, laidKinds := [.handle, .sentinel, .sentinel, .sentinel], laidTests := true, laidLooks := .later }
def FnExactStopStepCardSaid : Prop := Claim7.holds Tryz.pinned (.plain (OpenSpec.ofChange fnExactStopStepSpec)) fnExactStopStepCard

/-- THE SECOND FORM's CARD OF 'laws.FnExactStopStep'. -/
def fnExactStopStepUptoCard : Claim7 := { stood := { row := fnExactStopStepUptoRow, standIns := [], harness := (true, "2d0e9cfd438f9dfb1a901164c14fae91d05d5b5a7cd30796308d6dc4d2cfd2c7"), looks := true }, kinds := [], alts := [], laidByText := true, laidKinds := [.handle, .sentinel, .sentinel, .sentinel], laidTests := true, laidLooks := .later }
def FnExactStopStepUptoCardSaid : Prop := Claim7.holds Tryz.pinned (.plain (OpenSpec.upto fnExactStopStepSpec)) fnExactStopStepUptoCard
end Rows
end Go.Proofs.YtngbcpmhejeheaaGreatDoor
