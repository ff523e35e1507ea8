/-
  DERIVED. GIVEN WITH THE SEED: THE CARDS: each row of YthhpnepcfpapcaaDoorRows.lean that lists a variable, with what it lists TIED to the program's text (the seventh form; the later family's looks); each row that meets fmt, with fmt's text TOLD by the authors' own Lean function (tested against real Go, not proved from fmt's source: count such statements apart). THE CARD IS WHAT COUNTS. Prove the row's statement (the work); the ties are given (YthhpnepcfpapcaaDoorTie.lean); close each card by the builder's one call (the guide's Derived/Test/ToyasCard.lean, 'card_holds'). Laid BY PROGRAM, IN A SANDBOX (cutbox-door.mjs). By AI agents, Wed Nov 11 2026. No macro, syntax, notation, axiom, sorry.
-/
import Derived.Test.YthhpnepcfpapcaaDoorRows
import GoSem.ClaimSeven
namespace Go.Proofs.YthhpnepcfpapcaaDoor
namespace Rows

/-- THE TIED CARD OF 'laws.FnTimers'. -/
def fnTimersCard : Claim7 := { stood := { row := fnTimersRow, standIns := [], harness := (true, "5953c30c263e2fa50859b07ff6b3f2e16fced850671aee6e5057b9aa7189ccd6"), looks := false }, kinds := [], alts := [], laidByText := true, laidKinds := [.data], laidTests := true, laidLooks := .later }
def FnTimersCardSaid : Prop := Claim7.holds Tryd.pinned (.plain (OpenSpec.ofChange fnTimersSpec)) fnTimersCard

/-- THE TIED CARD OF 'laws.FnExactPasses'. -/
def fnExactPassesCard : Claim7 := { stood := { row := fnExactPassesRow, standIns := [], harness := (true, "5953c30c263e2fa50859b07ff6b3f2e16fced850671aee6e5057b9aa7189ccd6"), looks := false }, kinds := [], alts := [], laidByText := true, laidKinds := [.data], laidTests := true, laidLooks := .later }
def FnExactPassesCardSaid : Prop := Claim7.holds Tryd.pinned (.plain (OpenSpec.ofChange fnExactPassesSpec)) fnExactPassesCard

/-- THE SECOND FORM's CARD OF 'laws.FnTimers'. -/
def fnTimersUptoCard : Claim7 := { stood := { row := fnTimersUptoRow, standIns := [], harness := (true, "5953c30c263e2fa50859b07ff6b3f2e16fced850671aee6e5057b9aa7189ccd6"), looks := false }, kinds := [], alts := [], laidByText := true, laidKinds := [.data], laidTests := true, laidLooks := .later }
def FnTimersUptoCardSaid : Prop := Claim7.holds Tryd.pinned (.plain (OpenSpec.upto fnTimersSpec)) fnTimersUptoCard

/-- THE SECOND FORM's CARD OF 'laws.FnExactPasses'. -/
def fnExactPassesUptoCard : Claim7 := { stood := { row := fnExactPassesUptoRow, standIns := [], harness := (true, "5953c30c263e2fa50859b07ff6b3f2e16fced850671aee6e5057b9aa7189ccd6"), looks := false }, kinds := [], alts := [], laidByText := true, laidKinds := [.data], laidTests := true, laidLooks := .later }
def FnExactPassesUptoCardSaid : Prop := Claim7.holds Tryd.pinned (.plain (OpenSpec.upto fnExactPassesSpec)) fnExactPassesUptoCard
end Rows
end Go.Proofs.YthhpnepcfpapcaaDoor
