/-
  DERIVED. GIVEN WITH THE SEED: THE CARDS: each row of YtohjmjlfmloiaaaDoorRows.lean that lists a variable, with what it lists TIED to the program's text (the seventh form; the later family's looks); each row that meets fmt, with fmt's text TOLD by the authors' own Lean function (tested against real Go, not proved from fmt's source: count such statements apart). THE CARD IS WHAT COUNTS. Prove the row's statement (the work); the ties are given (YtohjmjlfmloiaaaDoorTie.lean); close each card by the builder's one call (the guide's Derived/Test/ToyasCard.lean, 'card_holds'). Laid BY PROGRAM, IN A SANDBOX (cutbox-door.mjs). By AI agents, Wed Nov 11 2026. No macro, syntax, notation, axiom, sorry.
-/
import Derived.Test.YtohjmjlfmloiaaaDoorRows
import GoSem.ClaimSeven
namespace Go.Proofs.YtohjmjlfmloiaaaDoor
namespace Rows

/-- THE TIED CARD OF 'numerallaw14.QuickSure'. -/
def quickSureCard : Claim7 := { stood := { row := quickSureRow, standIns := [], harness := (true, "8ba13deff8d9f95e81ffc08a70845da15a8580887ea4d8c3ffef287413b67504"), looks := false }, kinds := [], alts := [], laidByText := true, laidKinds := [.data, .data, .data], laidTests := true, laidLooks := .later }
def QuickSureCardSaid : Prop := Claim7.holds Tryd.pinned (.plain (OpenSpec.ofChange quickSureSpec)) quickSureCard

/-- THE SECOND FORM's CARD OF 'numerallaw14.QuickSure'. -/
def quickSureUptoCard : Claim7 := { stood := { row := quickSureUptoRow, standIns := [], harness := (true, "8ba13deff8d9f95e81ffc08a70845da15a8580887ea4d8c3ffef287413b67504"), looks := false }, kinds := [], alts := [], laidByText := true, laidKinds := [.data, .data, .data], laidTests := true, laidLooks := .later }
def QuickSureUptoCardSaid : Prop := Claim7.holds Tryd.pinned (.plain (OpenSpec.upto quickSureSpec)) quickSureUptoCard
end Rows
end Go.Proofs.YtohjmjlfmloiaaaDoor
