/-
  DERIVED. GIVEN WITH THE SEED: THE CARDS: each row of YtkebhccbhoamjaaGreatDoorRows.lean that lists a variable, with what it lists TIED to the program's text (the seventh form; the later family's looks); each row that meets fmt, with fmt's text TOLD by the authors' own Lean function (tested against real Go, not proved from fmt's source: count such statements apart). THE CARD IS WHAT COUNTS. Prove the row's statement (the work); the ties are given (YtkebhccbhoamjaaGreatDoorTie.lean); close each card by the builder's one call (the guide's Derived/Test/ToyasCard.lean, 'card_holds'). Laid BY PROGRAM, IN A SANDBOX (cutbox-door.mjs). By AI agents, Wed Nov 11 2026. No macro, syntax, notation, axiom, sorry.
-/
import Derived.Test.YtkebhccbhoamjaaGreatDoorRows
import GoSem.ClaimSeven
namespace Go.Proofs.YtkebhccbhoamjaaGreatDoor
namespace Rows

/-- THE TIED CARD OF 'numerallaw06.NearBeside'. -/
def nearBesideCard : Claim7 := { stood := { row := nearBesideRow, standIns := [], harness := (true, "1abe1f2b9b485ff90ceb5b83082a97a34fb9e33f737948286df1e86e5b4d2058"), looks := false }, kinds := [], alts := [], laidByText := true, laidKinds := [.data, .data], laidTests := true, laidLooks := .later }
def NearBesideCardSaid : Prop := Claim7.holds Tryz.pinned (.plain (OpenSpec.ofChange nearBesideSpec)) nearBesideCard

/-- THE TIED CARD OF 'numerallaw06.NearRow'. -/
def nearRowCard : Claim7 := { stood := { row := nearRowRow, standIns := [], harness := (true, "1abe1f2b9b485ff90ceb5b83082a97a34fb9e33f737948286df1e86e5b4d2058"), looks := false }, kinds := [], alts := [], laidByText := true, laidKinds := [.data, .data], laidTests := true, laidLooks := .later }
def NearRowCardSaid : Prop := Claim7.holds Tryz.pinned (.plain (OpenSpec.ofChange nearRowSpec)) nearRowCard

/-- THE TIED CARD OF 'numerallaw06.NearReach'. -/
def nearReachCard : Claim7 := { stood := { row := nearReachRow, standIns := [], harness := (true, "1abe1f2b9b485ff90ceb5b83082a97a34fb9e33f737948286df1e86e5b4d2058"), looks := false }, kinds := [], alts := [], laidByText := true, laidKinds := [.data, .data], laidTests := true, laidLooks := .later }
def NearReachCardSaid : Prop := Claim7.holds Tryz.pinned (.plain (OpenSpec.ofChange nearReachSpec)) nearReachCard

/-- THE TIED CARD OF 'numerallaw06.NearRounds'. -/
def nearRoundsCard : Claim7 := { stood := { row := nearRoundsRow, standIns := [], harness := (true, "1abe1f2b9b485ff90ceb5b83082a97a34fb9e33f737948286df1e86e5b4d2058"), looks := false }, kinds := [], alts := [], laidByText := true, laidKinds := [.data, .data], laidTests := true, laidLooks := .later }
def NearRoundsCardSaid : Prop := Claim7.holds Tryz.pinned (.plain (OpenSpec.ofChange nearRoundsSpec)) nearRoundsCard

/-- THE TIED CARD OF 'numerallaw06.NearMeets'. -/
def nearMeetsCard : Claim7 := { stood := { row := nearMeetsRow, standIns := [], harness := (true, "1abe1f2b9b485ff90ceb5b83082a97a34fb9e33f737948286df1e86e5b4d2058"), looks := false }, kinds := [], alts := [], laidByText := true, laidKinds := [.data, .data], laidTests := true, laidLooks := .later }
def NearMeetsCardSaid : Prop := Claim7.holds Tryz.pinned (.plain (OpenSpec.ofChange nearMeetsSpec)) nearMeetsCard

/-- THE TIED CARD OF 'numeraltop.TopReach'. -/
def topReachCard : Claim7 := { stood := { row := topReachRow, standIns := [], harness := (true, "1abe1f2b9b485ff90ceb5b83082a97a34fb9e33f737948286df1e86e5b4d2058"), looks := false }, kinds := [], alts := [], laidByText := true, laidKinds := [.data, .data], laidTests := true, laidLooks := .later }
def TopReachCardSaid : Prop := Claim7.holds Tryz.pinned (.plain (OpenSpec.ofChange topReachSpec)) topReachCard

/-- THE SECOND FORM's CARD OF 'numerallaw06.NearBeside'. -/
def nearBesideUptoCard : Claim7 := { stood := { row := nearBesideUptoRow, standIns := [], harness := (true, "1abe1f2b9b485ff90ceb5b83082a97a34fb9e33f737948286df1e86e5b4d2058"), looks := false }, kinds := [], alts := [], laidByText := true, laidKinds := [.data, .data], laidTests := true, laidLooks := .later }
def NearBesideUptoCardSaid : Prop := Claim7.holds Tryz.pinned (.plain (OpenSpec.upto nearBesideSpec)) nearBesideUptoCard

/-- THE SECOND FORM's CARD OF 'numerallaw06.NearRow'. -/
def nearRowUptoCard : Claim7 := { stood := { row := nearRowUptoRow, standIns := [], harness := (true, "1abe1f2b9b485ff90ceb5b83082a97a34fb9e33f737948286df1e86e5b4d2058"), looks := false }, kinds := [], alts := [], laidByText := true, laidKinds := [.data, .data], laidTests := true, laidLooks := .later }
def NearRowUptoCardSaid : Prop := Claim7.holds Tryz.pinned (.plain (OpenSpec.upto nearRowSpec)) nearRowUptoCard

/-- THE SECOND FORM's CARD OF 'numerallaw06.NearReach'. -/
def nearReachUptoCard : Claim7 := { stood := { row := nearReachUptoRow, standIns := [], harness := (true, "1abe1f2b9b485ff90ceb5b83082a97a34fb9e33f737948286df1e86e5b4d2058"), looks := false }, kinds := [], alts := [], laidByText := true, laidKinds := [.data, .data], laidTests := true, laidLooks := .later }
def NearReachUptoCardSaid : Prop := Claim7.holds Tryz.pinned (.plain (OpenSpec.upto nearReachSpec)) nearReachUptoCard

/-- THE SECOND FORM's CARD OF 'numerallaw06.NearRounds'. -/
def nearRoundsUptoCard : Claim7 := { stood := { row := nearRoundsUptoRow, standIns := [], harness := (true, "1abe1f2b9b485ff90ceb5b83082a97a34fb9e33f737948286df1e86e5b4d2058"), looks := false }, kinds := [], alts := [], laidByText := true, laidKinds := [.data, .data], laidTests := true, laidLooks := .later }
def NearRoundsUptoCardSaid : Prop := Claim7.holds Tryz.pinned (.plain (OpenSpec.upto nearRoundsSpec)) nearRoundsUptoCard

/-- THE SECOND FORM's CARD OF 'numerallaw06.NearMeets'. -/
def nearMeetsUptoCard : Claim7 := { stood := { row := nearMeetsUptoRow, standIns := [], harness := (true, "1abe1f2b9b485ff90ceb5b83082a97a34fb9e33f737948286df1e86e5b4d2058"), looks := false }, kinds := [], alts := [], laidByText := true, laidKinds := [.data, .data], laidTests := true, laidLooks := .later }
def NearMeetsUptoCardSaid : Prop := Claim7.holds Tryz.pinned (.plain (OpenSpec.upto nearMeetsSpec)) nearMeetsUptoCard

/-- THE SECOND FORM's CARD OF 'numeraltop.TopReach'. -/
def topReachUptoCard : Claim7 := { stood := { row := topReachUptoRow, standIns := [], harness := (true, "1abe1f2b9b485ff90ceb5b83082a97a34fb9e33f737948286df1e86e5b4d2058"), looks := false }, kinds := [], alts := [], laidByText := true, laidKinds := [.data, .data], laidTests := true, laidLooks := .later }
def TopReachUptoCardSaid : Prop := Claim7.holds Tryz.pinned (.plain (OpenSpec.upto topReachSpec)) topReachUptoCard
end Rows
end Go.Proofs.YtkebhccbhoamjaaGreatDoor
