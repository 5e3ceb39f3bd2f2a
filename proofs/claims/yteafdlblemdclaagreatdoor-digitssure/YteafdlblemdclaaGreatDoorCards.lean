/-
  DERIVED. GIVEN WITH THE SEED: THE CARDS: each row of YteafdlblemdclaaGreatDoorRows.lean that lists a variable, with what it lists TIED to the program's text (the seventh form; the later family's looks); each row that meets fmt, with fmt's text TOLD by the authors' own Lean function (tested against real Go, not proved from fmt's source: count such statements apart). THE CARD IS WHAT COUNTS. Prove the row's statement (the work); the ties are given (YteafdlblemdclaaGreatDoorTie.lean); close each card by the builder's one call (the guide's Derived/Test/ToyasCard.lean, 'card_holds'). Laid BY PROGRAM, IN A SANDBOX (cutbox-door.mjs). By AI agents, Wed Nov 11 2026. No macro, syntax, notation, axiom, sorry.
-/
import Derived.Test.YteafdlblemdclaaGreatDoorRows
import GoSem.ClaimSeven
namespace Go.Proofs.YteafdlblemdclaaGreatDoor
namespace Rows

/-- THE TIED CARD OF 'numerallaw17.DigitsWorth'. -/
def digitsWorthCard : Claim7 := { stood := { row := digitsWorthRow, standIns := [], harness := (true, "4abbcd58ed9b2bdd82a5fca19671e5d4a9af20c3070864e2f783b1ed3105f4fa"), looks := false }, kinds := [], alts := [], laidByText := true, laidKinds := [.data, .data, .data], laidTests := true, laidLooks := .later }
def DigitsWorthCardSaid : Prop := Claim7.holds Tryz.pinned (.plain (OpenSpec.ofChange digitsWorthSpec)) digitsWorthCard

/-- THE TIED CARD OF 'numerallaw17.DigitsCut'. -/
def digitsCutCard : Claim7 := { stood := { row := digitsCutRow, standIns := [], harness := (true, "4abbcd58ed9b2bdd82a5fca19671e5d4a9af20c3070864e2f783b1ed3105f4fa"), looks := false }, kinds := [], alts := [], laidByText := true, laidKinds := [.data, .data, .data], laidTests := true, laidLooks := .later }
def DigitsCutCardSaid : Prop := Claim7.holds Tryz.pinned (.plain (OpenSpec.ofChange digitsCutSpec)) digitsCutCard

/-- THE TIED CARD OF 'numerallaw17.DigitsEnough'. -/
def digitsEnoughCard : Claim7 := { stood := { row := digitsEnoughRow, standIns := [], harness := (true, "4abbcd58ed9b2bdd82a5fca19671e5d4a9af20c3070864e2f783b1ed3105f4fa"), looks := false }, kinds := [], alts := [], laidByText := true, laidKinds := [.data, .data, .data], laidTests := true, laidLooks := .later }
def DigitsEnoughCardSaid : Prop := Claim7.holds Tryz.pinned (.plain (OpenSpec.ofChange digitsEnoughSpec)) digitsEnoughCard

/-- THE TIED CARD OF 'numerallaw17.DigitsSure'. -/
def digitsSureCard : Claim7 := { stood := { row := digitsSureRow, standIns := [], harness := (true, "4abbcd58ed9b2bdd82a5fca19671e5d4a9af20c3070864e2f783b1ed3105f4fa"), looks := false }, kinds := [], alts := [], laidByText := true, laidKinds := [.data, .data, .data], laidTests := true, laidLooks := .later }
def DigitsSureCardSaid : Prop := Claim7.holds Tryz.pinned (.plain (OpenSpec.ofChange digitsSureSpec)) digitsSureCard

/-- THE SECOND FORM's CARD OF 'numerallaw17.DigitsWorth'. -/
def digitsWorthUptoCard : Claim7 := { stood := { row := digitsWorthUptoRow, standIns := [], harness := (true, "4abbcd58ed9b2bdd82a5fca19671e5d4a9af20c3070864e2f783b1ed3105f4fa"), looks := false }, kinds := [], alts := [], laidByText := true, laidKinds := [.data, .data, .data], laidTests := true, laidLooks := .later }
def DigitsWorthUptoCardSaid : Prop := Claim7.holds Tryz.pinned (.plain (OpenSpec.upto digitsWorthSpec)) digitsWorthUptoCard

/-- THE SECOND FORM's CARD OF 'numerallaw17.DigitsCut'. -/
def digitsCutUptoCard : Claim7 := { stood := { row := digitsCutUptoRow, standIns := [], harness := (true, "4abbcd58ed9b2bdd82a5fca19671e5d4a9af20c3070864e2f783b1ed3105f4fa"), looks := false }, kinds := [], alts := [], laidByText := true, laidKinds := [.data, .data, .data], laidTests := true, laidLooks := .later }
def DigitsCutUptoCardSaid : Prop := Claim7.holds Tryz.pinned (.plain (OpenSpec.upto digitsCutSpec)) digitsCutUptoCard

/-- THE SECOND FORM's CARD OF 'numerallaw17.DigitsEnough'. -/
def digitsEnoughUptoCard : Claim7 := { stood := { row := digitsEnoughUptoRow, standIns := [], harness := (true, "4abbcd58ed9b2bdd82a5fca19671e5d4a9af20c3070864e2f783b1ed3105f4fa"), looks := false }, kinds := [], alts := [], laidByText := true, laidKinds := [.data, .data, .data], laidTests := true, laidLooks := .later }
def DigitsEnoughUptoCardSaid : Prop := Claim7.holds Tryz.pinned (.plain (OpenSpec.upto digitsEnoughSpec)) digitsEnoughUptoCard

/-- THE SECOND FORM's CARD OF 'numerallaw17.DigitsSure'. -/
def digitsSureUptoCard : Claim7 := { stood := { row := digitsSureUptoRow, standIns := [], harness := (true, "4abbcd58ed9b2bdd82a5fca19671e5d4a9af20c3070864e2f783b1ed3105f4fa"), looks := false }, kinds := [], alts := [], laidByText := true, laidKinds := [.data, .data, .data], laidTests := true, laidLooks := .later }
def DigitsSureUptoCardSaid : Prop := Claim7.holds Tryz.pinned (.plain (OpenSpec.upto digitsSureSpec)) digitsSureUptoCard
end Rows
end Go.Proofs.YteafdlblemdclaaGreatDoor
