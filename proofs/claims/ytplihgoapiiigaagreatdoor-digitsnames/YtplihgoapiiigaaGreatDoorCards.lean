/-
  DERIVED. GIVEN WITH THE SEED: THE CARDS: each row of YtplihgoapiiigaaGreatDoorRows.lean that lists a variable, with what it lists TIED to the program's text (the seventh form; the later family's looks); each row that meets fmt, with fmt's text TOLD by the authors' own Lean function (tested against real Go, not proved from fmt's source: count such statements apart). THE CARD IS WHAT COUNTS. Prove the row's statement (the work); the ties are given (YtplihgoapiiigaaGreatDoorTie.lean); close each card by the builder's one call (the guide's Derived/Test/ToyasCard.lean, 'card_holds'). Laid BY PROGRAM, IN A SANDBOX (cutbox-door.mjs). By AI agents, Wed Nov 11 2026. No macro, syntax, notation, axiom, sorry.
-/
import Derived.Test.YtplihgoapiiigaaGreatDoorRows
import GoSem.ClaimSeven
namespace Go.Proofs.YtplihgoapiiigaaGreatDoor
namespace Rows

/-- THE TIED CARD OF 'numerallaw17.DigitsNames'. -/
def digitsNamesCard : Claim7 := { stood := { row := digitsNamesRow, standIns := [], harness := (true, "d42fcf2bea41c6fa8deba7846e88db4e89e7235814733d464fda37ad2ae25834"), looks := false }, kinds := [], alts := [], laidByText := true, laidKinds := [.data, .data, .data], laidTests := true, laidLooks := .later }
def DigitsNamesCardSaid : Prop := Claim7.holds Tryz.pinned (.plain (OpenSpec.ofChange digitsNamesSpec)) digitsNamesCard

/-- THE SECOND FORM's CARD OF 'numerallaw17.DigitsNames'. -/
def digitsNamesUptoCard : Claim7 := { stood := { row := digitsNamesUptoRow, standIns := [], harness := (true, "d42fcf2bea41c6fa8deba7846e88db4e89e7235814733d464fda37ad2ae25834"), looks := false }, kinds := [], alts := [], laidByText := true, laidKinds := [.data, .data, .data], laidTests := true, laidLooks := .later }
def DigitsNamesUptoCardSaid : Prop := Claim7.holds Tryz.pinned (.plain (OpenSpec.upto digitsNamesSpec)) digitsNamesUptoCard
end Rows
end Go.Proofs.YtplihgoapiiigaaGreatDoor
