/-
  DERIVED. GIVEN WITH THE SEED: THE CARDS: each row of YtfnhimofpelmdaaGreatDoorRows.lean that lists a variable, with what it lists TIED to the program's text (the seventh form; the later family's looks); each row that meets fmt, with fmt's text TOLD by the authors' own Lean function (tested against real Go, not proved from fmt's source: count such statements apart). THE CARD IS WHAT COUNTS. Prove the row's statement (the work); the ties are given (YtfnhimofpelmdaaGreatDoorTie.lean); close each card by the builder's one call (the guide's Derived/Test/ToyasCard.lean, 'card_holds'). Laid BY PROGRAM, IN A SANDBOX (cutbox-door.mjs). By AI agents, Wed Nov 11 2026. No macro, syntax, notation, axiom, sorry.
-/
import Derived.Test.YtfnhimofpelmdaaGreatDoorRows
import GoSem.ClaimSeven
namespace Go.Proofs.YtfnhimofpelmdaaGreatDoor
namespace Rows

/-- THE TIED CARD OF 'numerallaw07.SoftSums'. -/
def softSumsCard : Claim7 := { stood := { row := softSumsRow, standIns := [], harness := (true, "d2cc1edd5155594923d341a2b42b50d4e92a95d8a6baa0361c456b9e7792ae9d"), looks := true }, kinds := [], alts := [], laidByText := true, laidKinds := [.data, .data], laidTests := true, laidLooks := .later }
def SoftSumsCardSaid : Prop := Claim7.holds Tryz.pinned (.plain (OpenSpec.ofChange softSumsSpec)) softSumsCard

/-- THE TIED CARD OF 'numerallaw07.SoftProducts'. -/
def softProductsCard : Claim7 := { stood := { row := softProductsRow, standIns := [], harness := (true, "d2cc1edd5155594923d341a2b42b50d4e92a95d8a6baa0361c456b9e7792ae9d"), looks := true }, kinds := [], alts := [], laidByText := true, laidKinds := [.data, .data], laidTests := true, laidLooks := .later }
def SoftProductsCardSaid : Prop := Claim7.holds Tryz.pinned (.plain (OpenSpec.ofChange softProductsSpec)) softProductsCard

/-- THE TIED CARD OF 'numerallaw07.SoftRoots'. -/
def softRootsCard : Claim7 := { stood := { row := softRootsRow, standIns := [], harness := (true, "d2cc1edd5155594923d341a2b42b50d4e92a95d8a6baa0361c456b9e7792ae9d"), looks := true }, kinds := [], alts := [], laidByText := true, laidKinds := [.data, .data], laidTests := true, laidLooks := .later }
def SoftRootsCardSaid : Prop := Claim7.holds Tryz.pinned (.plain (OpenSpec.ofChange softRootsSpec)) softRootsCard

/-- THE TIED CARD OF 'numerallaw07.SoftFmas'. -/
def softFmasCard : Claim7 := { stood := { row := softFmasRow, standIns := [], harness := (true, "d2cc1edd5155594923d341a2b42b50d4e92a95d8a6baa0361c456b9e7792ae9d"), looks := true }, kinds := [], alts := [], laidByText := true, laidKinds := [.data, .data], laidTests := true, laidLooks := .later }
def SoftFmasCardSaid : Prop := Claim7.holds Tryz.pinned (.plain (OpenSpec.ofChange softFmasSpec)) softFmasCard

/-- THE SECOND FORM's CARD OF 'numerallaw07.SoftSums'. -/
def softSumsUptoCard : Claim7 := { stood := { row := softSumsUptoRow, standIns := [], harness := (true, "d2cc1edd5155594923d341a2b42b50d4e92a95d8a6baa0361c456b9e7792ae9d"), looks := true }, kinds := [], alts := [], laidByText := true, laidKinds := [.data, .data], laidTests := true, laidLooks := .later }
def SoftSumsUptoCardSaid : Prop := Claim7.holds Tryz.pinned (.plain (OpenSpec.upto softSumsSpec)) softSumsUptoCard

/-- THE SECOND FORM's CARD OF 'numerallaw07.SoftProducts'. -/
def softProductsUptoCard : Claim7 := { stood := { row := softProductsUptoRow, standIns := [], harness := (true, "d2cc1edd5155594923d341a2b42b50d4e92a95d8a6baa0361c456b9e7792ae9d"), looks := true }, kinds := [], alts := [], laidByText := true, laidKinds := [.data, .data], laidTests := true, laidLooks := .later }
def SoftProductsUptoCardSaid : Prop := Claim7.holds Tryz.pinned (.plain (OpenSpec.upto softProductsSpec)) softProductsUptoCard

/-- THE SECOND FORM's CARD OF 'numerallaw07.SoftRoots'. -/
def softRootsUptoCard : Claim7 := { stood := { row := softRootsUptoRow, standIns := [], harness := (true, "d2cc1edd5155594923d341a2b42b50d4e92a95d8a6baa0361c456b9e7792ae9d"), looks := true }, kinds := [], alts := [], laidByText := true, laidKinds := [.data, .data], laidTests := true, laidLooks := .later }
def SoftRootsUptoCardSaid : Prop := Claim7.holds Tryz.pinned (.plain (OpenSpec.upto softRootsSpec)) softRootsUptoCard

/-- THE SECOND FORM's CARD OF 'numerallaw07.SoftFmas'. -/
def softFmasUptoCard : Claim7 := { stood := { row := softFmasUptoRow, standIns := [], harness := (true, "d2cc1edd5155594923d341a2b42b50d4e92a95d8a6baa0361c456b9e7792ae9d"), looks := true }, kinds := [], alts := [], laidByText := true, laidKinds := [.data, .data], laidTests := true, laidLooks := .later }
def SoftFmasUptoCardSaid : Prop := Claim7.holds Tryz.pinned (.plain (OpenSpec.upto softFmasSpec)) softFmasUptoCard
end Rows
end Go.Proofs.YtfnhimofpelmdaaGreatDoor
