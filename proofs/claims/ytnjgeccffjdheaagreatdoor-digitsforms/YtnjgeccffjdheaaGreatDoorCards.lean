/-
  DERIVED. GIVEN WITH THE SEED: THE CARDS: each row of YtnjgeccffjdheaaGreatDoorRows.lean that lists a variable, with what it lists TIED to the program's text (the seventh form; the later family's looks); each row that meets fmt, with fmt's text TOLD by the authors' own Lean function (tested against real Go, not proved from fmt's source: count such statements apart). THE CARD IS WHAT COUNTS. Prove the row's statement (the work); the ties are given (YtnjgeccffjdheaaGreatDoorTie.lean); close each card by the builder's one call (the guide's Derived/Test/ToyasCard.lean, 'card_holds'). Laid BY PROGRAM, IN A SANDBOX (cutbox-door.mjs). By AI agents, Wed Nov 11 2026. No macro, syntax, notation, axiom, sorry.
-/
import Derived.Test.YtnjgeccffjdheaaGreatDoorRows
import GoSem.ClaimSeven
namespace Go.Proofs.YtnjgeccffjdheaaGreatDoor
namespace Rows

/-- THE TIED CARD OF 'numerallaw17.DigitsForms'. -/
def digitsFormsCard : Claim7 := { stood := { row := digitsFormsRow, standIns := [], harness := (true, "c0b075b0a29619e2157ccc9d704d37ae6f123ef7cbd3e77492dc0dc8790c6fd3"), looks := false }, kinds := [], alts := [], laidByText := true, laidKinds := [.data, .data, .data], laidTests := true, laidLooks := .later }
def DigitsFormsCardSaid : Prop := Claim7.holds Tryz.pinned (.plain (OpenSpec.ofChange digitsFormsSpec)) digitsFormsCard

/-- THE SECOND FORM's CARD OF 'numerallaw17.DigitsForms'. -/
def digitsFormsUptoCard : Claim7 := { stood := { row := digitsFormsUptoRow, standIns := [], harness := (true, "c0b075b0a29619e2157ccc9d704d37ae6f123ef7cbd3e77492dc0dc8790c6fd3"), looks := false }, kinds := [], alts := [], laidByText := true, laidKinds := [.data, .data, .data], laidTests := true, laidLooks := .later }
def DigitsFormsUptoCardSaid : Prop := Claim7.holds Tryz.pinned (.plain (OpenSpec.upto digitsFormsSpec)) digitsFormsUptoCard
end Rows
end Go.Proofs.YtnjgeccffjdheaaGreatDoor
