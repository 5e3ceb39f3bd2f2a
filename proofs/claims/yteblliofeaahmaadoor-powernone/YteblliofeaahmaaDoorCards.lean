/-
  DERIVED. GIVEN WITH THE SEED: THE CARDS: each row of YteblliofeaahmaaDoorRows.lean that lists a variable, with what it lists TIED to the program's text (the seventh form; the later family's looks); each row that meets fmt, with fmt's text TOLD by the authors' own Lean function (tested against real Go, not proved from fmt's source: count such statements apart). THE CARD IS WHAT COUNTS. Prove the row's statement (the work); the ties are given (YteblliofeaahmaaDoorTie.lean); close each card by the builder's one call (the guide's Derived/Test/ToyasCard.lean, 'card_holds'). Laid BY PROGRAM, IN A SANDBOX (cutbox-door.mjs). By AI agents, Wed Nov 11 2026. No macro, syntax, notation, axiom, sorry.
-/
import Derived.Test.YteblliofeaahmaaDoorRows
import GoSem.ClaimSeven
namespace Go.Proofs.YteblliofeaahmaaDoor
namespace Rows

/-- THE TIED CARD OF 'numerallaw13.PowerTens'. -/
def powerTensCard : Claim7 := { stood := { row := powerTensRow, standIns := [], harness := (true, "69e7af2e45bd5a89e62d111f9394513d14cba15aadc9aa59cba9c2a29ec99925"), looks := false }, kinds := [], alts := [], laidByText := true, laidKinds := [.data], laidTests := true, laidLooks := .later }
def PowerTensCardSaid : Prop := Claim7.holds Tryd.pinned (.plain (OpenSpec.ofChange powerTensSpec)) powerTensCard

/-- THE TIED CARD OF 'numerallaw13.PowerDigits'. -/
def powerDigitsCard : Claim7 := { stood := { row := powerDigitsRow, standIns := [], harness := (true, "69e7af2e45bd5a89e62d111f9394513d14cba15aadc9aa59cba9c2a29ec99925"), looks := false }, kinds := [], alts := [], laidByText := true, laidKinds := [.data], laidTests := true, laidLooks := .later }
def PowerDigitsCardSaid : Prop := Claim7.holds Tryd.pinned (.plain (OpenSpec.ofChange powerDigitsSpec)) powerDigitsCard

/-- THE TIED CARD OF 'numerallaw13.PowerNone'. -/
def powerNoneCard : Claim7 := { stood := { row := powerNoneRow, standIns := [], harness := (true, "69e7af2e45bd5a89e62d111f9394513d14cba15aadc9aa59cba9c2a29ec99925"), looks := false }, kinds := [], alts := [], goes := true, laidByText := true, laidKinds := [.data], laidTests := true, laidLooks := .later }
def PowerNoneCardSaid : Prop := Claim7.holds Tryd.pinned (.plain (OpenSpec.ofChange powerNoneSpec)) powerNoneCard

/-- THE SECOND FORM's CARD OF 'numerallaw13.PowerTens'. -/
def powerTensUptoCard : Claim7 := { stood := { row := powerTensUptoRow, standIns := [], harness := (true, "69e7af2e45bd5a89e62d111f9394513d14cba15aadc9aa59cba9c2a29ec99925"), looks := false }, kinds := [], alts := [], laidByText := true, laidKinds := [.data], laidTests := true, laidLooks := .later }
def PowerTensUptoCardSaid : Prop := Claim7.holds Tryd.pinned (.plain (OpenSpec.upto powerTensSpec)) powerTensUptoCard

/-- THE SECOND FORM's CARD OF 'numerallaw13.PowerDigits'. -/
def powerDigitsUptoCard : Claim7 := { stood := { row := powerDigitsUptoRow, standIns := [], harness := (true, "69e7af2e45bd5a89e62d111f9394513d14cba15aadc9aa59cba9c2a29ec99925"), looks := false }, kinds := [], alts := [], laidByText := true, laidKinds := [.data], laidTests := true, laidLooks := .later }
def PowerDigitsUptoCardSaid : Prop := Claim7.holds Tryd.pinned (.plain (OpenSpec.upto powerDigitsSpec)) powerDigitsUptoCard
end Rows
end Go.Proofs.YteblliofeaahmaaDoor
