/-
  DERIVED. GIVEN WITH THE SEED: THE CARDS: each row of YtfjegmlpkiaifaaGreatDoorRows.lean that lists a variable, with what it lists TIED to the program's text (the seventh form; the later family's looks); each row that meets fmt, with fmt's text TOLD by the authors' own Lean function (tested against real Go, not proved from fmt's source: count such statements apart). THE CARD IS WHAT COUNTS. Prove the row's statement (the work); the ties are given (YtfjegmlpkiaifaaGreatDoorTie.lean); close each card by the builder's one call (the guide's Derived/Test/ToyasCard.lean, 'card_holds'). Laid BY PROGRAM, IN A SANDBOX (cutbox-door.mjs). By AI agents, Wed Nov 11 2026. No macro, syntax, notation, axiom, sorry.
-/
import Derived.Test.YtfjegmlpkiaifaaGreatDoorRows
import GoSem.ClaimSeven
namespace Go.Proofs.YtfjegmlpkiaifaaGreatDoor
namespace Rows

/-- THE TIED CARD OF 'numerallaw05.RoundSides'. -/
def roundSidesCard : Claim7 := { stood := { row := roundSidesRow, standIns := [], harness := (true, "b5ea31cad33b92a3d74ce301aa45476be9576d8f0034f658f47e82439f8f1589"), looks := false }, kinds := [], alts := [], laidByText := true, laidKinds := [.data, .data], laidTests := true, laidLooks := .later }
def RoundSidesCardSaid : Prop := Claim7.holds Tryz.pinned (.plain (OpenSpec.ofChange roundSidesSpec)) roundSidesCard

/-- THE TIED CARD OF 'numerallaw05.RoundInteger'. -/
def roundIntegerCard : Claim7 := { stood := { row := roundIntegerRow, standIns := [], harness := (true, "b5ea31cad33b92a3d74ce301aa45476be9576d8f0034f658f47e82439f8f1589"), looks := false }, kinds := [], alts := [], laidByText := true, laidKinds := [.data, .data], laidTests := true, laidLooks := .later }
def RoundIntegerCardSaid : Prop := Claim7.holds Tryz.pinned (.plain (OpenSpec.ofChange roundIntegerSpec)) roundIntegerCard

/-- THE SECOND FORM's CARD OF 'numerallaw05.RoundSides'. -/
def roundSidesUptoCard : Claim7 := { stood := { row := roundSidesUptoRow, standIns := [], harness := (true, "b5ea31cad33b92a3d74ce301aa45476be9576d8f0034f658f47e82439f8f1589"), looks := false }, kinds := [], alts := [], laidByText := true, laidKinds := [.data, .data], laidTests := true, laidLooks := .later }
def RoundSidesUptoCardSaid : Prop := Claim7.holds Tryz.pinned (.plain (OpenSpec.upto roundSidesSpec)) roundSidesUptoCard

/-- THE SECOND FORM's CARD OF 'numerallaw05.RoundInteger'. -/
def roundIntegerUptoCard : Claim7 := { stood := { row := roundIntegerUptoRow, standIns := [], harness := (true, "b5ea31cad33b92a3d74ce301aa45476be9576d8f0034f658f47e82439f8f1589"), looks := false }, kinds := [], alts := [], laidByText := true, laidKinds := [.data, .data], laidTests := true, laidLooks := .later }
def RoundIntegerUptoCardSaid : Prop := Claim7.holds Tryz.pinned (.plain (OpenSpec.upto roundIntegerSpec)) roundIntegerUptoCard
end Rows
end Go.Proofs.YtfjegmlpkiaifaaGreatDoor
