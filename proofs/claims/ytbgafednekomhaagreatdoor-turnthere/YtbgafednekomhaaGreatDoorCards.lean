/-
  DERIVED. GIVEN WITH THE SEED: THE CARDS: each row of YtbgafednekomhaaGreatDoorRows.lean that lists a variable, with what it lists TIED to the program's text (the seventh form; the later family's looks); each row that meets fmt, with fmt's text TOLD by the authors' own Lean function (tested against real Go, not proved from fmt's source: count such statements apart). THE CARD IS WHAT COUNTS. Prove the row's statement (the work); the ties are given (YtbgafednekomhaaGreatDoorTie.lean); close each card by the builder's one call (the guide's Derived/Test/ToyasCard.lean, 'card_holds'). Laid BY PROGRAM, IN A SANDBOX (cutbox-door.mjs). By AI agents, Wed Nov 11 2026. No macro, syntax, notation, axiom, sorry.
-/
import Derived.Test.YtbgafednekomhaaGreatDoorRows
import GoSem.ClaimSeven
namespace Go.Proofs.YtbgafednekomhaaGreatDoor
namespace Rows

/-- THE TIED CARD OF 'numerallaw08.TurnNames'. -/
def turnNamesCard : Claim7 := { stood := { row := turnNamesRow, standIns := [], harness := (true, "40e3440ddb62c27bccdbc8b71682b63c288051090975e9ead54d82b69e6579f2"), looks := false }, kinds := [], alts := [], laidByText := true, laidKinds := [.data, .data], laidTests := true, laidLooks := .later }
def TurnNamesCardSaid : Prop := Claim7.holds Tryz.pinned (.plain (OpenSpec.ofChange turnNamesSpec)) turnNamesCard

/-- THE TIED CARD OF 'numerallaw08.TurnWider'. -/
def turnWiderCard : Claim7 := { stood := { row := turnWiderRow, standIns := [], harness := (true, "40e3440ddb62c27bccdbc8b71682b63c288051090975e9ead54d82b69e6579f2"), looks := false }, kinds := [], alts := [], laidByText := true, laidKinds := [.data, .data], laidTests := true, laidLooks := .later }
def TurnWiderCardSaid : Prop := Claim7.holds Tryz.pinned (.plain (OpenSpec.ofChange turnWiderSpec)) turnWiderCard

/-- THE TIED CARD OF 'numerallaw08.TurnGo'. -/
def turnGoCard : Claim7 := { stood := { row := turnGoRow, standIns := [], harness := (true, "40e3440ddb62c27bccdbc8b71682b63c288051090975e9ead54d82b69e6579f2"), looks := false }, kinds := [], alts := [], laidByText := true, laidKinds := [.data, .data], laidTests := true, laidLooks := .later }
def TurnGoCardSaid : Prop := Claim7.holds Tryz.pinned (.plain (OpenSpec.ofChange turnGoSpec)) turnGoCard

/-- THE TIED CARD OF 'numerallaw08.TurnThere'. -/
def turnThereCard : Claim7 := { stood := { row := turnThereRow, standIns := [], harness := (true, "40e3440ddb62c27bccdbc8b71682b63c288051090975e9ead54d82b69e6579f2"), looks := false }, kinds := [], alts := [], laidByText := true, laidKinds := [.data, .data], laidTests := true, laidLooks := .later }
def TurnThereCardSaid : Prop := Claim7.holds Tryz.pinned (.plain (OpenSpec.ofChange turnThereSpec)) turnThereCard

/-- THE SECOND FORM's CARD OF 'numerallaw08.TurnNames'. -/
def turnNamesUptoCard : Claim7 := { stood := { row := turnNamesUptoRow, standIns := [], harness := (true, "40e3440ddb62c27bccdbc8b71682b63c288051090975e9ead54d82b69e6579f2"), looks := false }, kinds := [], alts := [], laidByText := true, laidKinds := [.data, .data], laidTests := true, laidLooks := .later }
def TurnNamesUptoCardSaid : Prop := Claim7.holds Tryz.pinned (.plain (OpenSpec.upto turnNamesSpec)) turnNamesUptoCard

/-- THE SECOND FORM's CARD OF 'numerallaw08.TurnWider'. -/
def turnWiderUptoCard : Claim7 := { stood := { row := turnWiderUptoRow, standIns := [], harness := (true, "40e3440ddb62c27bccdbc8b71682b63c288051090975e9ead54d82b69e6579f2"), looks := false }, kinds := [], alts := [], laidByText := true, laidKinds := [.data, .data], laidTests := true, laidLooks := .later }
def TurnWiderUptoCardSaid : Prop := Claim7.holds Tryz.pinned (.plain (OpenSpec.upto turnWiderSpec)) turnWiderUptoCard

/-- THE SECOND FORM's CARD OF 'numerallaw08.TurnGo'. -/
def turnGoUptoCard : Claim7 := { stood := { row := turnGoUptoRow, standIns := [], harness := (true, "40e3440ddb62c27bccdbc8b71682b63c288051090975e9ead54d82b69e6579f2"), looks := false }, kinds := [], alts := [], laidByText := true, laidKinds := [.data, .data], laidTests := true, laidLooks := .later }
def TurnGoUptoCardSaid : Prop := Claim7.holds Tryz.pinned (.plain (OpenSpec.upto turnGoSpec)) turnGoUptoCard

/-- THE SECOND FORM's CARD OF 'numerallaw08.TurnThere'. -/
def turnThereUptoCard : Claim7 := { stood := { row := turnThereUptoRow, standIns := [], harness := (true, "40e3440ddb62c27bccdbc8b71682b63c288051090975e9ead54d82b69e6579f2"), looks := false }, kinds := [], alts := [], laidByText := true, laidKinds := [.data, .data], laidTests := true, laidLooks := .later }
def TurnThereUptoCardSaid : Prop := Claim7.holds Tryz.pinned (.plain (OpenSpec.upto turnThereSpec)) turnThereUptoCard
end Rows
end Go.Proofs.YtbgafednekomhaaGreatDoor
