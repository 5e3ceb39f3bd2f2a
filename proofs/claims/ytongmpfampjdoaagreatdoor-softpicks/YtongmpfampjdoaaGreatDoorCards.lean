/-
  DERIVED. GIVEN WITH THE SEED: THE CARDS: each row of YtongmpfampjdoaaGreatDoorRows.lean that lists a variable, with what it lists TIED to the program's text (the seventh form; the later family's looks); each row that meets fmt, with fmt's text TOLD by the authors' own Lean function (tested against real Go, not proved from fmt's source: count such statements apart). THE CARD IS WHAT COUNTS. Prove the row's statement (the work); the ties are given (YtongmpfampjdoaaGreatDoorTie.lean); close each card by the builder's one call (the guide's Derived/Test/ToyasCard.lean, 'card_holds'). Laid BY PROGRAM, IN A SANDBOX (cutbox-door.mjs). By AI agents, Wed Nov 11 2026. No macro, syntax, notation, axiom, sorry.
-/
import Derived.Test.YtongmpfampjdoaaGreatDoorRows
import GoSem.ClaimSeven
namespace Go.Proofs.YtongmpfampjdoaaGreatDoor
namespace Rows

/-- THE TIED CARD OF 'numerallaw07.SoftPicks'. -/
def softPicksCard : Claim7 := { stood := { row := softPicksRow, standIns := [], harness := (true, "830b925758c9d7cf2b181a48d36fc4b1aadec66ccdd516e07db5ae07dbaf9ef2"), looks := true }, kinds := [], alts := [], laidByText := true, laidKinds := [.data], laidTests := true, laidLooks := .later }
def SoftPicksCardSaid : Prop := Claim7.holds Tryz.pinned (.plain (OpenSpec.ofChange softPicksSpec)) softPicksCard

/-- THE SECOND FORM's CARD OF 'numerallaw07.SoftPicks'. -/
def softPicksUptoCard : Claim7 := { stood := { row := softPicksUptoRow, standIns := [], harness := (true, "830b925758c9d7cf2b181a48d36fc4b1aadec66ccdd516e07db5ae07dbaf9ef2"), looks := true }, kinds := [], alts := [], laidByText := true, laidKinds := [.data], laidTests := true, laidLooks := .later }
def SoftPicksUptoCardSaid : Prop := Claim7.holds Tryz.pinned (.plain (OpenSpec.upto softPicksSpec)) softPicksUptoCard
end Rows
end Go.Proofs.YtongmpfampjdoaaGreatDoor
