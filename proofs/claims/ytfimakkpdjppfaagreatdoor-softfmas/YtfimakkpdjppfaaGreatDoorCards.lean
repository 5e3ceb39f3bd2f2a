/-
  DERIVED. GIVEN WITH THE SEED: THE CARDS: each row of YtfimakkpdjppfaaGreatDoorRows.lean that lists a variable, with what it lists TIED to the program's text (the seventh form; the later family's looks); each row that meets fmt, with fmt's text TOLD by the authors' own Lean function (tested against real Go, not proved from fmt's source: count such statements apart). THE CARD IS WHAT COUNTS. Prove the row's statement (the work); the ties are given (YtfimakkpdjppfaaGreatDoorTie.lean); close each card by the builder's one call (the guide's Derived/Test/ToyasCard.lean, 'card_holds'). Laid BY PROGRAM, IN A SANDBOX (cutbox-door.mjs). By AI agents, Wed Nov 11 2026. No macro, syntax, notation, axiom, sorry.
-/
import Derived.Test.YtfimakkpdjppfaaGreatDoorRows
import GoSem.ClaimSeven
namespace Go.Proofs.YtfimakkpdjppfaaGreatDoor
namespace Rows

/-- THE TIED CARD OF 'numerallaw07.SoftFmas'. -/
def softFmasCard : Claim7 := { stood := { row := softFmasRow, standIns := [], harness := (true, "055a10f518282ed53e9007bee2b661d5070a8910d7e99efa7b02c70c8ac45b3d"), looks := true }, kinds := [], alts := [], laidByText := true, laidKinds := [.data, .data], laidTests := true, laidLooks := .later }
def SoftFmasCardSaid : Prop := Claim7.holds Tryz.pinned (.plain (OpenSpec.ofChange softFmasSpec)) softFmasCard

/-- THE SECOND FORM's CARD OF 'numerallaw07.SoftFmas'. -/
def softFmasUptoCard : Claim7 := { stood := { row := softFmasUptoRow, standIns := [], harness := (true, "055a10f518282ed53e9007bee2b661d5070a8910d7e99efa7b02c70c8ac45b3d"), looks := true }, kinds := [], alts := [], laidByText := true, laidKinds := [.data, .data], laidTests := true, laidLooks := .later }
def SoftFmasUptoCardSaid : Prop := Claim7.holds Tryz.pinned (.plain (OpenSpec.upto softFmasSpec)) softFmasUptoCard
end Rows
end Go.Proofs.YtfimakkpdjppfaaGreatDoor
