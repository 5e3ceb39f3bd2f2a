/-
  DERIVED. GIVEN WITH THE SEED: THE CARDS: each row of YtaidedkpfnidpaaGreatDoorRows.lean that lists a variable, with what it lists TIED to the program's text (the seventh form; the later family's looks); each row that meets fmt, with fmt's text TOLD by the authors' own Lean function (tested against real Go, not proved from fmt's source: count such statements apart). THE CARD IS WHAT COUNTS. Prove the row's statement (the work); the ties are given (YtaidedkpfnidpaaGreatDoorTie.lean); close each card by the builder's one call (the guide's Derived/Test/ToyasCard.lean, 'card_holds'). Laid BY PROGRAM, IN A SANDBOX (cutbox-door.mjs). By AI agents, Wed Nov 11 2026. No macro, syntax, notation, axiom, sorry.
-/
import Derived.Test.YtaidedkpfnidpaaGreatDoorRows
import GoSem.ClaimSeven
namespace Go.Proofs.YtaidedkpfnidpaaGreatDoor
namespace Rows

/-- THE TIED CARD OF 'numerallaw06.NearRounds'. -/
def nearRoundsCard : Claim7 := { stood := { row := nearRoundsRow, standIns := [], harness := (true, "aa7904b8a61ffed6ff1e1328a91eb509e45f81671cfd79060e8ca57d5ec09604"), looks := false }, kinds := [], alts := [], laidByText := true, laidKinds := [.data, .data], laidTests := true, laidLooks := .later }
def NearRoundsCardSaid : Prop := Claim7.holds Tryz.pinned (.plain (OpenSpec.ofChange nearRoundsSpec)) nearRoundsCard

/-- THE TIED CARD OF 'numerallaw06.NearMeets'. -/
def nearMeetsCard : Claim7 := { stood := { row := nearMeetsRow, standIns := [], harness := (true, "aa7904b8a61ffed6ff1e1328a91eb509e45f81671cfd79060e8ca57d5ec09604"), looks := false }, kinds := [], alts := [], laidByText := true, laidKinds := [.data, .data], laidTests := true, laidLooks := .later }
def NearMeetsCardSaid : Prop := Claim7.holds Tryz.pinned (.plain (OpenSpec.ofChange nearMeetsSpec)) nearMeetsCard

/-- THE SECOND FORM's CARD OF 'numerallaw06.NearRounds'. -/
def nearRoundsUptoCard : Claim7 := { stood := { row := nearRoundsUptoRow, standIns := [], harness := (true, "aa7904b8a61ffed6ff1e1328a91eb509e45f81671cfd79060e8ca57d5ec09604"), looks := false }, kinds := [], alts := [], laidByText := true, laidKinds := [.data, .data], laidTests := true, laidLooks := .later }
def NearRoundsUptoCardSaid : Prop := Claim7.holds Tryz.pinned (.plain (OpenSpec.upto nearRoundsSpec)) nearRoundsUptoCard

/-- THE SECOND FORM's CARD OF 'numerallaw06.NearMeets'. -/
def nearMeetsUptoCard : Claim7 := { stood := { row := nearMeetsUptoRow, standIns := [], harness := (true, "aa7904b8a61ffed6ff1e1328a91eb509e45f81671cfd79060e8ca57d5ec09604"), looks := false }, kinds := [], alts := [], laidByText := true, laidKinds := [.data, .data], laidTests := true, laidLooks := .later }
def NearMeetsUptoCardSaid : Prop := Claim7.holds Tryz.pinned (.plain (OpenSpec.upto nearMeetsSpec)) nearMeetsUptoCard
end Rows
end Go.Proofs.YtaidedkpfnidpaaGreatDoor
