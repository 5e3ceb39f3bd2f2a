/-
  DERIVED. GIVEN WITH THE SEED: THE CARDS: each row of YtdekhacomggpgaaGreatDoorRows.lean that lists a variable, with what it lists TIED to the program's text (the seventh form; the later family's looks); each row that meets fmt, with fmt's text TOLD by the authors' own Lean function (tested against real Go, not proved from fmt's source: count such statements apart). THE CARD IS WHAT COUNTS. Prove the row's statement (the work); the ties are given (YtdekhacomggpgaaGreatDoorTie.lean); close each card by the builder's one call (the guide's Derived/Test/ToyasCard.lean, 'card_holds'). Laid BY PROGRAM, IN A SANDBOX (cutbox-door.mjs). By AI agents, Wed Nov 11 2026. No macro, syntax, notation, axiom, sorry.
-/
import Derived.Test.YtdekhacomggpgaaGreatDoorRows
import GoSem.ClaimSeven
namespace Go.Proofs.YtdekhacomggpgaaGreatDoor
namespace Rows

/-- THE TIED CARD OF 'numerallaw14.QuickRight'. -/
def quickRightCard : Claim7 := { stood := { row := quickRightRow, standIns := [], harness := (true, "bdd914ecde3b979bea11634bf9fef7ee1c7c3a0abe1a2065c813406b81efd6f3"), looks := false }, kinds := [], alts := [], laidByText := true, laidKinds := [.data], laidTests := true, laidLooks := .later }
def QuickRightCardSaid : Prop := Claim7.holds Tryz.pinned (.plain (OpenSpec.ofChange quickRightSpec)) quickRightCard

/-- THE TIED CARD OF 'numerallaw14.QuickThere'. -/
def quickThereCard : Claim7 := { stood := { row := quickThereRow, standIns := [], harness := (true, "bdd914ecde3b979bea11634bf9fef7ee1c7c3a0abe1a2065c813406b81efd6f3"), looks := false }, kinds := [], alts := [], laidByText := true, laidKinds := [.data, .data, .data], laidTests := true, laidLooks := .later }
def QuickThereCardSaid : Prop := Claim7.holds Tryz.pinned (.plain (OpenSpec.ofChange quickThereSpec)) quickThereCard

/-- THE SECOND FORM's CARD OF 'numerallaw14.QuickRight'. -/
def quickRightUptoCard : Claim7 := { stood := { row := quickRightUptoRow, standIns := [], harness := (true, "bdd914ecde3b979bea11634bf9fef7ee1c7c3a0abe1a2065c813406b81efd6f3"), looks := false }, kinds := [], alts := [], laidByText := true, laidKinds := [.data], laidTests := true, laidLooks := .later }
def QuickRightUptoCardSaid : Prop := Claim7.holds Tryz.pinned (.plain (OpenSpec.upto quickRightSpec)) quickRightUptoCard

/-- THE SECOND FORM's CARD OF 'numerallaw14.QuickThere'. -/
def quickThereUptoCard : Claim7 := { stood := { row := quickThereUptoRow, standIns := [], harness := (true, "bdd914ecde3b979bea11634bf9fef7ee1c7c3a0abe1a2065c813406b81efd6f3"), looks := false }, kinds := [], alts := [], laidByText := true, laidKinds := [.data, .data, .data], laidTests := true, laidLooks := .later }
def QuickThereUptoCardSaid : Prop := Claim7.holds Tryz.pinned (.plain (OpenSpec.upto quickThereSpec)) quickThereUptoCard
end Rows
end Go.Proofs.YtdekhacomggpgaaGreatDoor
