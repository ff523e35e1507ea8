/-
  DERIVED. GIVEN WITH THE SEED: THE CARDS: each row of YtflekodaiejflaaGreatDoorRows.lean that lists a variable, with what it lists TIED to the program's text (the seventh form; the later family's looks); each row that meets fmt, with fmt's text TOLD by the authors' own Lean function (tested against real Go, not proved from fmt's source: count such statements apart). THE CARD IS WHAT COUNTS. Prove the row's statement (the work); the ties are given (YtflekodaiejflaaGreatDoorTie.lean); close each card by the builder's one call (the guide's Derived/Test/ToyasCard.lean, 'card_holds'). Laid BY PROGRAM, IN A SANDBOX (cutbox-door.mjs). By AI agents, Wed Nov 11 2026. No macro, syntax, notation, axiom, sorry.
-/
import Derived.Test.YtflekodaiejflaaGreatDoorRows
import GoSem.ClaimSeven
namespace Go.Proofs.YtflekodaiejflaaGreatDoor
namespace Rows

/-- THE TIED CARD OF 'laws.FnExactStopStep'. -/
def fnExactStopStepCard : Claim7 := { stood := { row := fnExactStopStepRow, standIns := [], harness := (true, "051d4ff84fbb2d8055bbc33620bebf64daa7125b9080240c8a2248506a1ce6da"), looks := true }, kinds := [], alts := [], laidByText := true, laidKinds := [.handle, .sentinel, .sentinel, .sentinel], laidTests := true, laidLooks := .later }
def FnExactStopStepCardSaid : Prop := Claim7.holds Tryz.pinned (.plain (OpenSpec.ofChange fnExactStopStepSpec)) fnExactStopStepCard

/-- THE TIED CARD OF 'laws.FnExactResetStep'. -/
def fnExactResetStepCard : Claim7 := { stood := { row := fnExactResetStepRow, standIns := [], harness := (true, "051d4ff84fbb2d8055bbc33620bebf64daa7125b9080240c8a2248506a1ce6da"), looks := true }, kinds := [], alts := [], laidByText := true, laidKinds := [.sentinel, .sentinel, .sentinel], laidTests := true, laidLooks := .later }
def FnExactResetStepCardSaid : Prop := Claim7.holds Tryz.pinned (.plain (OpenSpec.ofChange fnExactResetStepSpec)) fnExactResetStepCard

/-- THE SECOND FORM's CARD OF 'laws.FnExactStopStep'. -/
def fnExactStopStepUptoCard : Claim7 := { stood := { row := fnExactStopStepUptoRow, standIns := [], harness := (true, "051d4ff84fbb2d8055bbc33620bebf64daa7125b9080240c8a2248506a1ce6da"), looks := true }, kinds := [], alts := [], laidByText := true, laidKinds := [.handle, .sentinel, .sentinel, .sentinel], laidTests := true, laidLooks := .later }
def FnExactStopStepUptoCardSaid : Prop := Claim7.holds Tryz.pinned (.plain (OpenSpec.upto fnExactStopStepSpec)) fnExactStopStepUptoCard

/-- THE SECOND FORM's CARD OF 'laws.FnExactResetStep'. -/
def fnExactResetStepUptoCard : Claim7 := { stood := { row := fnExactResetStepUptoRow, standIns := [], harness := (true, "051d4ff84fbb2d8055bbc33620bebf64daa7125b9080240c8a2248506a1ce6da"), looks := true }, kinds := [], alts := [], laidByText := true, laidKinds := [.sentinel, .sentinel, .sentinel], laidTests := true, laidLooks := .later }
def FnExactResetStepUptoCardSaid : Prop := Claim7.holds Tryz.pinned (.plain (OpenSpec.upto fnExactResetStepSpec)) fnExactResetStepUptoCard
end Rows
end Go.Proofs.YtflekodaiejflaaGreatDoor
