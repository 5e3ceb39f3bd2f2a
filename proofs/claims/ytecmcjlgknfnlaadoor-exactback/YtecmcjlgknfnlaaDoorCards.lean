/-
  DERIVED. GIVEN WITH THE SEED: THE CARDS: each row of YtecmcjlgknfnlaaDoorRows.lean that lists a variable, with what it lists TIED to the program's text (the seventh form; the later family's looks); each row that meets fmt, with fmt's text TOLD by the authors' own Lean function (tested against real Go, not proved from fmt's source: count such statements apart). THE CARD IS WHAT COUNTS. Prove the row's statement (the work); the ties are given (YtecmcjlgknfnlaaDoorTie.lean); close each card by the builder's one call (the guide's Derived/Test/ToyasCard.lean, 'card_holds'). Laid BY PROGRAM, IN A SANDBOX (cutbox-door.mjs). By AI agents, Wed Nov 11 2026. No macro, syntax, notation, axiom, sorry.
-/
import Derived.Test.YtecmcjlgknfnlaaDoorRows
import GoSem.ClaimSeven
namespace Go.Proofs.YtecmcjlgknfnlaaDoor
namespace Rows

/-- THE TIED CARD OF 'numerallaw04.ExactMakes'. -/
def exactMakesCard : Claim7 := { stood := { row := exactMakesRow, standIns := [], harness := (true, "ecf233e5a20170e8feea78bca6bfd6b89ba36a873469dc83591e9402b0c525c6"), looks := false }, kinds := [], alts := [], laidByText := true, laidKinds := [.data], laidTests := true, laidLooks := .later }
def ExactMakesCardSaid : Prop := Claim7.holds Tryd.pinned (.plain (OpenSpec.ofChange exactMakesSpec)) exactMakesCard

/-- THE TIED CARD OF 'numerallaw04.ExactValues'. -/
def exactValuesCard : Claim7 := { stood := { row := exactValuesRow, standIns := [], harness := (true, "ecf233e5a20170e8feea78bca6bfd6b89ba36a873469dc83591e9402b0c525c6"), looks := false }, kinds := [], alts := [], laidByText := true, laidKinds := [.data], laidTests := true, laidLooks := .later }
def ExactValuesCardSaid : Prop := Claim7.holds Tryd.pinned (.plain (OpenSpec.ofChange exactValuesSpec)) exactValuesCard

/-- THE TIED CARD OF 'numerallaw04.ExactSums'. -/
def exactSumsCard : Claim7 := { stood := { row := exactSumsRow, standIns := [], harness := (true, "ecf233e5a20170e8feea78bca6bfd6b89ba36a873469dc83591e9402b0c525c6"), looks := false }, kinds := [], alts := [], laidByText := true, laidKinds := [.data], laidTests := true, laidLooks := .later }
def ExactSumsCardSaid : Prop := Claim7.holds Tryd.pinned (.plain (OpenSpec.ofChange exactSumsSpec)) exactSumsCard

/-- THE TIED CARD OF 'numerallaw04.ExactRatios'. -/
def exactRatiosCard : Claim7 := { stood := { row := exactRatiosRow, standIns := [], harness := (true, "ecf233e5a20170e8feea78bca6bfd6b89ba36a873469dc83591e9402b0c525c6"), looks := false }, kinds := [], alts := [], laidByText := true, laidKinds := [.data], laidTests := true, laidLooks := .later }
def ExactRatiosCardSaid : Prop := Claim7.holds Tryd.pinned (.plain (OpenSpec.ofChange exactRatiosSpec)) exactRatiosCard

/-- THE TIED CARD OF 'numerallaw04.ExactOver'. -/
def exactOverCard : Claim7 := { stood := { row := exactOverRow, standIns := [], harness := (true, "ecf233e5a20170e8feea78bca6bfd6b89ba36a873469dc83591e9402b0c525c6"), looks := false }, kinds := [], alts := [], laidByText := true, laidKinds := [.data], laidTests := true, laidLooks := .later }
def ExactOverCardSaid : Prop := Claim7.holds Tryd.pinned (.plain (OpenSpec.ofChange exactOverSpec)) exactOverCard

/-- THE TIED CARD OF 'numerallaw04.ExactBack'. -/
def exactBackCard : Claim7 := { stood := { row := exactBackRow, standIns := [], harness := (true, "ecf233e5a20170e8feea78bca6bfd6b89ba36a873469dc83591e9402b0c525c6"), looks := false }, kinds := [], alts := [], laidByText := true, laidKinds := [.data], laidTests := true, laidLooks := .later }
def ExactBackCardSaid : Prop := Claim7.holds Tryd.pinned (.plain (OpenSpec.ofChange exactBackSpec)) exactBackCard

/-- THE SECOND FORM's CARD OF 'numerallaw04.ExactMakes'. -/
def exactMakesUptoCard : Claim7 := { stood := { row := exactMakesUptoRow, standIns := [], harness := (true, "ecf233e5a20170e8feea78bca6bfd6b89ba36a873469dc83591e9402b0c525c6"), looks := false }, kinds := [], alts := [], laidByText := true, laidKinds := [.data], laidTests := true, laidLooks := .later }
def ExactMakesUptoCardSaid : Prop := Claim7.holds Tryd.pinned (.plain (OpenSpec.upto exactMakesSpec)) exactMakesUptoCard

/-- THE SECOND FORM's CARD OF 'numerallaw04.ExactValues'. -/
def exactValuesUptoCard : Claim7 := { stood := { row := exactValuesUptoRow, standIns := [], harness := (true, "ecf233e5a20170e8feea78bca6bfd6b89ba36a873469dc83591e9402b0c525c6"), looks := false }, kinds := [], alts := [], laidByText := true, laidKinds := [.data], laidTests := true, laidLooks := .later }
def ExactValuesUptoCardSaid : Prop := Claim7.holds Tryd.pinned (.plain (OpenSpec.upto exactValuesSpec)) exactValuesUptoCard

/-- THE SECOND FORM's CARD OF 'numerallaw04.ExactSums'. -/
def exactSumsUptoCard : Claim7 := { stood := { row := exactSumsUptoRow, standIns := [], harness := (true, "ecf233e5a20170e8feea78bca6bfd6b89ba36a873469dc83591e9402b0c525c6"), looks := false }, kinds := [], alts := [], laidByText := true, laidKinds := [.data], laidTests := true, laidLooks := .later }
def ExactSumsUptoCardSaid : Prop := Claim7.holds Tryd.pinned (.plain (OpenSpec.upto exactSumsSpec)) exactSumsUptoCard

/-- THE SECOND FORM's CARD OF 'numerallaw04.ExactRatios'. -/
def exactRatiosUptoCard : Claim7 := { stood := { row := exactRatiosUptoRow, standIns := [], harness := (true, "ecf233e5a20170e8feea78bca6bfd6b89ba36a873469dc83591e9402b0c525c6"), looks := false }, kinds := [], alts := [], laidByText := true, laidKinds := [.data], laidTests := true, laidLooks := .later }
def ExactRatiosUptoCardSaid : Prop := Claim7.holds Tryd.pinned (.plain (OpenSpec.upto exactRatiosSpec)) exactRatiosUptoCard

/-- THE SECOND FORM's CARD OF 'numerallaw04.ExactOver'. -/
def exactOverUptoCard : Claim7 := { stood := { row := exactOverUptoRow, standIns := [], harness := (true, "ecf233e5a20170e8feea78bca6bfd6b89ba36a873469dc83591e9402b0c525c6"), looks := false }, kinds := [], alts := [], laidByText := true, laidKinds := [.data], laidTests := true, laidLooks := .later }
def ExactOverUptoCardSaid : Prop := Claim7.holds Tryd.pinned (.plain (OpenSpec.upto exactOverSpec)) exactOverUptoCard

/-- THE SECOND FORM's CARD OF 'numerallaw04.ExactBack'. -/
def exactBackUptoCard : Claim7 := { stood := { row := exactBackUptoRow, standIns := [], harness := (true, "ecf233e5a20170e8feea78bca6bfd6b89ba36a873469dc83591e9402b0c525c6"), looks := false }, kinds := [], alts := [], laidByText := true, laidKinds := [.data], laidTests := true, laidLooks := .later }
def ExactBackUptoCardSaid : Prop := Claim7.holds Tryd.pinned (.plain (OpenSpec.upto exactBackSpec)) exactBackUptoCard
end Rows
end Go.Proofs.YtecmcjlgknfnlaaDoor
