/-
  DERIVED. GIVEN WITH THE SEED: THE CARDS: each row of YtdfmanglfdeooaaGreatDoorRows.lean that lists a variable, with what it lists TIED to the program's text (the seventh form; the later family's looks); each row that meets fmt, with fmt's text TOLD by the authors' own Lean function (tested against real Go, not proved from fmt's source: count such statements apart). THE CARD IS WHAT COUNTS. Prove the row's statement (the work); the ties are given (YtdfmanglfdeooaaGreatDoorTie.lean); close each card by the builder's one call (the guide's Derived/Test/ToyasCard.lean, 'card_holds'). Laid BY PROGRAM, IN A SANDBOX (cutbox-door.mjs). By AI agents, Wed Nov 11 2026. No macro, syntax, notation, axiom, sorry.
-/
import Derived.Test.YtdfmanglfdeooaaGreatDoorRows
import GoSem.ClaimSeven
namespace Go.Proofs.YtdfmanglfdeooaaGreatDoor
namespace Rows

/-- THE TIED CARD OF 'numerallaw06.NearSteps'. -/
def nearStepsCard : Claim7 := { stood := { row := nearStepsRow, standIns := [], harness := (true, "105d13157a1283b746667c79c02a7a129cb94337eca3f618ee9e40e7ecb9bd0f"), looks := false }, kinds := [], alts := [], laidByText := true, laidKinds := [.data, .data], laidTests := true, laidLooks := .later }
def NearStepsCardSaid : Prop := Claim7.holds Tryz.pinned (.plain (OpenSpec.ofChange nearStepsSpec)) nearStepsCard

/-- THE TIED CARD OF 'numerallaw06.NearNative'. -/
def nearNativeCard : Claim7 := { stood := { row := nearNativeRow, standIns := [], harness := (true, "105d13157a1283b746667c79c02a7a129cb94337eca3f618ee9e40e7ecb9bd0f"), looks := false }, kinds := [], alts := [], laidByText := true, laidKinds := [.data, .data], laidTests := true, laidLooks := .later }
def NearNativeCardSaid : Prop := Claim7.holds Tryz.pinned (.plain (OpenSpec.ofChange nearNativeSpec)) nearNativeCard

/-- THE SECOND FORM's CARD OF 'numerallaw06.NearSteps'. -/
def nearStepsUptoCard : Claim7 := { stood := { row := nearStepsUptoRow, standIns := [], harness := (true, "105d13157a1283b746667c79c02a7a129cb94337eca3f618ee9e40e7ecb9bd0f"), looks := false }, kinds := [], alts := [], laidByText := true, laidKinds := [.data, .data], laidTests := true, laidLooks := .later }
def NearStepsUptoCardSaid : Prop := Claim7.holds Tryz.pinned (.plain (OpenSpec.upto nearStepsSpec)) nearStepsUptoCard

/-- THE SECOND FORM's CARD OF 'numerallaw06.NearNative'. -/
def nearNativeUptoCard : Claim7 := { stood := { row := nearNativeUptoRow, standIns := [], harness := (true, "105d13157a1283b746667c79c02a7a129cb94337eca3f618ee9e40e7ecb9bd0f"), looks := false }, kinds := [], alts := [], laidByText := true, laidKinds := [.data, .data], laidTests := true, laidLooks := .later }
def NearNativeUptoCardSaid : Prop := Claim7.holds Tryz.pinned (.plain (OpenSpec.upto nearNativeSpec)) nearNativeUptoCard
end Rows
end Go.Proofs.YtdfmanglfdeooaaGreatDoor
