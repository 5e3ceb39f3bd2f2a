/-
  DERIVED. GIVEN WITH THE SEED: THE CARDS: each row of YtkcpkbnhlcdacaaGreatDoorRows.lean that lists a variable, with what it lists TIED to the program's text (the seventh form; the later family's looks); each row that meets fmt, with fmt's text TOLD by the authors' own Lean function (tested against real Go, not proved from fmt's source: count such statements apart). THE CARD IS WHAT COUNTS. Prove the row's statement (the work); the ties are given (YtkcpkbnhlcdacaaGreatDoorTie.lean); close each card by the builder's one call (the guide's Derived/Test/ToyasCard.lean, 'card_holds'). Laid BY PROGRAM, IN A SANDBOX (cutbox-door.mjs). By AI agents, Wed Nov 11 2026. No macro, syntax, notation, axiom, sorry.
-/
import Derived.Test.YtkcpkbnhlcdacaaGreatDoorRows
import GoSem.ClaimSeven
namespace Go.Proofs.YtkcpkbnhlcdacaaGreatDoor
namespace Rows

/-- THE TIED CARD OF 'numerallaw11.LexDigits'. -/
def lexDigitsCard : Claim7 := { stood := { row := lexDigitsRow, standIns := [], harness := (true, "ba3659000037562f72e56dffe49c8f2cf125d5b45832b757b48073b98015b324"), looks := true }, kinds := [], alts := [], laidByText := true, laidKinds := [.data, .data, .data, .data, .handle, .data, .data, .data, .pinned, .pinned], laidTests := true, laidLooks := .later }
def LexDigitsCardSaid : Prop := Claim7.holds Tryz.pinned (.plain (OpenSpec.ofChange lexDigitsSpec)) lexDigitsCard

/-- THE TIED CARD OF 'numerallaw11.LexTail'. -/
def lexTailCard : Claim7 := { stood := { row := lexTailRow, standIns := [], harness := (true, "ba3659000037562f72e56dffe49c8f2cf125d5b45832b757b48073b98015b324"), looks := true }, kinds := [], alts := [], laidByText := true, laidKinds := [.data, .data, .data, .data, .handle, .data, .data, .data, .pinned, .pinned], laidTests := true, laidLooks := .later }
def LexTailCardSaid : Prop := Claim7.holds Tryz.pinned (.plain (OpenSpec.ofChange lexTailSpec)) lexTailCard

/-- THE TIED CARD OF 'numerallaw11.LexBeginning'. -/
def lexBeginningCard : Claim7 := { stood := { row := lexBeginningRow, standIns := [], harness := (true, "ba3659000037562f72e56dffe49c8f2cf125d5b45832b757b48073b98015b324"), looks := true }, kinds := [], alts := [], laidByText := true, laidKinds := [.data, .data, .data, .data, .handle, .data, .data, .data, .pinned, .pinned], laidTests := true, laidLooks := .later }
def LexBeginningCardSaid : Prop := Claim7.holds Tryz.pinned (.plain (OpenSpec.ofChange lexBeginningSpec)) lexBeginningCard

/-- THE TIED CARD OF 'numerallaw11.LexForm'. -/
def lexFormCard : Claim7 := { stood := { row := lexFormRow, standIns := [], harness := (true, "ba3659000037562f72e56dffe49c8f2cf125d5b45832b757b48073b98015b324"), looks := true }, kinds := [], alts := [], laidByText := true, laidKinds := [.data, .data, .data, .data, .handle, .data, .data, .data, .pinned, .pinned], laidTests := true, laidLooks := .later }
def LexFormCardSaid : Prop := Claim7.holds Tryz.pinned (.plain (OpenSpec.ofChange lexFormSpec)) lexFormCard

/-- THE SECOND FORM's CARD OF 'numerallaw11.LexDigits'. -/
def lexDigitsUptoCard : Claim7 := { stood := { row := lexDigitsUptoRow, standIns := [], harness := (true, "ba3659000037562f72e56dffe49c8f2cf125d5b45832b757b48073b98015b324"), looks := true }, kinds := [], alts := [], laidByText := true, laidKinds := [.data, .data, .data, .data, .handle, .data, .data, .data, .pinned, .pinned], laidTests := true, laidLooks := .later }
def LexDigitsUptoCardSaid : Prop := Claim7.holds Tryz.pinned (.plain (OpenSpec.upto lexDigitsSpec)) lexDigitsUptoCard

/-- THE SECOND FORM's CARD OF 'numerallaw11.LexTail'. -/
def lexTailUptoCard : Claim7 := { stood := { row := lexTailUptoRow, standIns := [], harness := (true, "ba3659000037562f72e56dffe49c8f2cf125d5b45832b757b48073b98015b324"), looks := true }, kinds := [], alts := [], laidByText := true, laidKinds := [.data, .data, .data, .data, .handle, .data, .data, .data, .pinned, .pinned], laidTests := true, laidLooks := .later }
def LexTailUptoCardSaid : Prop := Claim7.holds Tryz.pinned (.plain (OpenSpec.upto lexTailSpec)) lexTailUptoCard

/-- THE SECOND FORM's CARD OF 'numerallaw11.LexBeginning'. -/
def lexBeginningUptoCard : Claim7 := { stood := { row := lexBeginningUptoRow, standIns := [], harness := (true, "ba3659000037562f72e56dffe49c8f2cf125d5b45832b757b48073b98015b324"), looks := true }, kinds := [], alts := [], laidByText := true, laidKinds := [.data, .data, .data, .data, .handle, .data, .data, .data, .pinned, .pinned], laidTests := true, laidLooks := .later }
def LexBeginningUptoCardSaid : Prop := Claim7.holds Tryz.pinned (.plain (OpenSpec.upto lexBeginningSpec)) lexBeginningUptoCard

/-- THE SECOND FORM's CARD OF 'numerallaw11.LexForm'. -/
def lexFormUptoCard : Claim7 := { stood := { row := lexFormUptoRow, standIns := [], harness := (true, "ba3659000037562f72e56dffe49c8f2cf125d5b45832b757b48073b98015b324"), looks := true }, kinds := [], alts := [], laidByText := true, laidKinds := [.data, .data, .data, .data, .handle, .data, .data, .data, .pinned, .pinned], laidTests := true, laidLooks := .later }
def LexFormUptoCardSaid : Prop := Claim7.holds Tryz.pinned (.plain (OpenSpec.upto lexFormSpec)) lexFormUptoCard
end Rows
end Go.Proofs.YtkcpkbnhlcdacaaGreatDoor
