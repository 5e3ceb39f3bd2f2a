/-
  DERIVED. GIVEN WITH THE SEED: THE CARDS: each row of YtcclpafdkgnmiaaGreatDoorRows.lean that lists a variable, with what it lists TIED to the program's text (the seventh form; the later family's looks); each row that meets fmt, with fmt's text TOLD by the authors' own Lean function (tested against real Go, not proved from fmt's source: count such statements apart). THE CARD IS WHAT COUNTS. Prove the row's statement (the work); the ties are given (YtcclpafdkgnmiaaGreatDoorTie.lean); close each card by the builder's one call (the guide's Derived/Test/ToyasCard.lean, 'card_holds'). Laid BY PROGRAM, IN A SANDBOX (cutbox-door.mjs). By AI agents, Wed Nov 11 2026. No macro, syntax, notation, axiom, sorry.
-/
import Derived.Test.YtcclpafdkgnmiaaGreatDoorRows
import GoSem.ClaimSeven
namespace Go.Proofs.YtcclpafdkgnmiaaGreatDoor
namespace Rows

/-- THE TIED CARD OF 'numerallaw05.RoundNames'. -/
def roundNamesCard : Claim7 := { stood := { row := roundNamesRow, standIns := [], harness := (true, "559d2ddc18d740ad2ac9284c9649d8c8814bddba1a018548c5462a6c18220c2a"), looks := false }, kinds := [], alts := [], laidByText := true, laidKinds := [.data, .data], laidTests := true, laidLooks := .later }
def RoundNamesCardSaid : Prop := Claim7.holds Tryz.pinned (.plain (OpenSpec.ofChange roundNamesSpec)) roundNamesCard

/-- THE TIED CARD OF 'numerallaw05.RoundNamed'. -/
def roundNamedCard : Claim7 := { stood := { row := roundNamedRow, standIns := [], harness := (true, "559d2ddc18d740ad2ac9284c9649d8c8814bddba1a018548c5462a6c18220c2a"), looks := false }, kinds := [], alts := [], laidByText := true, laidKinds := [.data, .data], laidTests := true, laidLooks := .later }
def RoundNamedCardSaid : Prop := Claim7.holds Tryz.pinned (.plain (OpenSpec.ofChange roundNamedSpec)) roundNamedCard

/-- THE TIED CARD OF 'numerallaw05.RoundOrder'. -/
def roundOrderCard : Claim7 := { stood := { row := roundOrderRow, standIns := [], harness := (true, "559d2ddc18d740ad2ac9284c9649d8c8814bddba1a018548c5462a6c18220c2a"), looks := false }, kinds := [], alts := [], laidByText := true, laidKinds := [.data, .data], laidTests := true, laidLooks := .later }
def RoundOrderCardSaid : Prop := Claim7.holds Tryz.pinned (.plain (OpenSpec.ofChange roundOrderSpec)) roundOrderCard

/-- THE SECOND FORM's CARD OF 'numerallaw05.RoundNames'. -/
def roundNamesUptoCard : Claim7 := { stood := { row := roundNamesUptoRow, standIns := [], harness := (true, "559d2ddc18d740ad2ac9284c9649d8c8814bddba1a018548c5462a6c18220c2a"), looks := false }, kinds := [], alts := [], laidByText := true, laidKinds := [.data, .data], laidTests := true, laidLooks := .later }
def RoundNamesUptoCardSaid : Prop := Claim7.holds Tryz.pinned (.plain (OpenSpec.upto roundNamesSpec)) roundNamesUptoCard

/-- THE SECOND FORM's CARD OF 'numerallaw05.RoundNamed'. -/
def roundNamedUptoCard : Claim7 := { stood := { row := roundNamedUptoRow, standIns := [], harness := (true, "559d2ddc18d740ad2ac9284c9649d8c8814bddba1a018548c5462a6c18220c2a"), looks := false }, kinds := [], alts := [], laidByText := true, laidKinds := [.data, .data], laidTests := true, laidLooks := .later }
def RoundNamedUptoCardSaid : Prop := Claim7.holds Tryz.pinned (.plain (OpenSpec.upto roundNamedSpec)) roundNamedUptoCard

/-- THE SECOND FORM's CARD OF 'numerallaw05.RoundOrder'. -/
def roundOrderUptoCard : Claim7 := { stood := { row := roundOrderUptoRow, standIns := [], harness := (true, "559d2ddc18d740ad2ac9284c9649d8c8814bddba1a018548c5462a6c18220c2a"), looks := false }, kinds := [], alts := [], laidByText := true, laidKinds := [.data, .data], laidTests := true, laidLooks := .later }
def RoundOrderUptoCardSaid : Prop := Claim7.holds Tryz.pinned (.plain (OpenSpec.upto roundOrderSpec)) roundOrderUptoCard
end Rows
end Go.Proofs.YtcclpafdkgnmiaaGreatDoor
