/-
  DERIVED. GIVEN WITH THE SEED: THE CARDS: each row of YtbbhlfngjoongaaGreatDoorRows.lean that lists a variable, with what it lists TIED to the program's text (the seventh form; the later family's looks); each row that meets fmt, with fmt's text TOLD by the authors' own Lean function (tested against real Go, not proved from fmt's source: count such statements apart). THE CARD IS WHAT COUNTS. Prove the row's statement (the work); the ties are given (YtbbhlfngjoongaaGreatDoorTie.lean); close each card by the builder's one call (the guide's Derived/Test/ToyasCard.lean, 'card_holds'). Laid BY PROGRAM, IN A SANDBOX (cutbox-door.mjs). By AI agents, Wed Nov 11 2026. No macro, syntax, notation, axiom, sorry.
-/
import Derived.Test.YtbbhlfngjoongaaGreatDoorRows
import GoSem.ClaimSeven
namespace Go.Proofs.YtbbhlfngjoongaaGreatDoor
namespace Rows

/-- THE TIED CARD OF 'numerallaw05.RoundWorth'. -/
def roundWorthCard : Claim7 := { stood := { row := roundWorthRow, standIns := [], harness := (true, "30e5ce4527d2b46debc56e9045b6dcc37f3b9a88697f1a8ecef21513a517b642"), looks := false }, kinds := [], alts := [], laidByText := true, laidKinds := [.data, .data], laidTests := true, laidLooks := .later }
def RoundWorthCardSaid : Prop := Claim7.holds Tryz.pinned (.plain (OpenSpec.ofChange roundWorthSpec)) roundWorthCard

/-- THE TIED CARD OF 'numerallaw05.RoundMirror'. -/
def roundMirrorCard : Claim7 := { stood := { row := roundMirrorRow, standIns := [], harness := (true, "30e5ce4527d2b46debc56e9045b6dcc37f3b9a88697f1a8ecef21513a517b642"), looks := false }, kinds := [], alts := [], laidByText := true, laidKinds := [.data, .data], laidTests := true, laidLooks := .later }
def RoundMirrorCardSaid : Prop := Claim7.holds Tryz.pinned (.plain (OpenSpec.ofChange roundMirrorSpec)) roundMirrorCard

/-- THE SECOND FORM's CARD OF 'numerallaw05.RoundWorth'. -/
def roundWorthUptoCard : Claim7 := { stood := { row := roundWorthUptoRow, standIns := [], harness := (true, "30e5ce4527d2b46debc56e9045b6dcc37f3b9a88697f1a8ecef21513a517b642"), looks := false }, kinds := [], alts := [], laidByText := true, laidKinds := [.data, .data], laidTests := true, laidLooks := .later }
def RoundWorthUptoCardSaid : Prop := Claim7.holds Tryz.pinned (.plain (OpenSpec.upto roundWorthSpec)) roundWorthUptoCard

/-- THE SECOND FORM's CARD OF 'numerallaw05.RoundMirror'. -/
def roundMirrorUptoCard : Claim7 := { stood := { row := roundMirrorUptoRow, standIns := [], harness := (true, "30e5ce4527d2b46debc56e9045b6dcc37f3b9a88697f1a8ecef21513a517b642"), looks := false }, kinds := [], alts := [], laidByText := true, laidKinds := [.data, .data], laidTests := true, laidLooks := .later }
def RoundMirrorUptoCardSaid : Prop := Claim7.holds Tryz.pinned (.plain (OpenSpec.upto roundMirrorSpec)) roundMirrorUptoCard
end Rows
end Go.Proofs.YtbbhlfngjoongaaGreatDoor
