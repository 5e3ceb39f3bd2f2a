/-
  NARROWER THAN 'FOR EVERY INPUT', by the rows' own cells (each row's printed sentence says how): NearRounds: laid · NearMeets: laid.
  DERIVED. THE GIVEN ROWS OF THIS SEAT. 2 by the template 'for every input the law returns true; each argument reads behind the call as it read before'; 0 by the template 'total and deterministic' (their statements: YtaidedkpfnidpaaGreatDoorTotals.lean).
  GIVEN WITH THE SEED: the statements are not yours to turn. If you find one false, say at which input.
  Laid BY PROGRAM, IN A SANDBOX (cutbox-rows.mjs): the forced cells as the released guide's own fill.sh prints them over the translation e38af71c863d6123… (all of the seat's roots in one cut). By AI agents, Wed Nov 11 2026. No macro, syntax, notation, axiom, sorry.
-/
import Derived.Test.YtaidedkpfnidpaaGreatDoorChecked
import GoSem.Claim
import GoSem.ClaimJoined
import GoSem.ClaimMapViews
import Derived.JoinedTies
import Derived.KernelRfl
namespace Go.Proofs.YtaidedkpfnidpaaGreatDoor
/- THE CELL 'sum', in the pinned program and in every row, IS THE sha256 OF THE DUMP (.gsa) THAT YtaidedkpfnidpaaGreatDoorProg.lean LOADS. Nothing in Lean hashes anything: it is a label: what it is worth is what the hold of that sum in a sandbox is worth. -/
noncomputable def Tryz.pinned : Pinned := { name := "ytaidedkpfnidpaagreatdoor", sum := "e38af71c863d6123c141dabe8a01de8ad2c157b026eaf2cfd5142421c99035d8", checked := Tryz.checked }
namespace Rows
def none {H : Type} : Left H := { results := [], args := [] }

/- WHAT THE LISTED PACKAGE-LEVEL VARIABLES READ AS WHEN THE CALL BEGINS. Each datum BY PROGRAM (the guide's laid-datum.mjs) off the statement by which the dump's own 'gosem.cut.vars' lays the variable. In a bare row this is a premise. The card (YtaidedkpfnidpaaGreatDoorCards.lean) ties it to the program's text. -/
def laid_math_bits_deBruijn32tab {H : Type} : DataW H := .agg [.lit (.int .u8 0), .lit (.int .u8 1), .lit (.int .u8 28), .lit (.int .u8 2), .lit (.int .u8 29), .lit (.int .u8 14), .lit (.int .u8 24), .lit (.int .u8 3), .lit (.int .u8 30), .lit (.int .u8 22), .lit (.int .u8 20), .lit (.int .u8 15), .lit (.int .u8 25), .lit (.int .u8 17), .lit (.int .u8 4), .lit (.int .u8 8), .lit (.int .u8 31), .lit (.int .u8 27), .lit (.int .u8 13), .lit (.int .u8 23), .lit (.int .u8 21), .lit (.int .u8 19), .lit (.int .u8 16), .lit (.int .u8 7), .lit (.int .u8 26), .lit (.int .u8 12), .lit (.int .u8 18), .lit (.int .u8 6), .lit (.int .u8 11), .lit (.int .u8 5), .lit (.int .u8 10), .lit (.int .u8 9)]
def laid_numeral_round_names {H : Type} : DataW H := .agg [.lit (.string [101, 118, 101, 110]), .lit (.string [97, 119, 97, 121]), .lit (.string [122, 101, 114, 111]), .lit (.string [117, 112]), .lit (.string [100, 111, 119, 110])]

/-- 'numerallaw06.NearRounds': WHATEVER THE INPUT: true; the input reads as it did. -/
def nearRoundsSpec : ChangeSpec := { name := "nearRounds", fn := fun _ => fun
  | [d1, d2, d3, d4] => { results := [.lit (.bool true)], args := [d1, d2, d3, d4] }
  | _ => none }
def nearRoundsRow : OpenClaim := { program := "ytaidedkpfnidpaagreatdoor", sum := "e38af71c863d6123c141dabe8a01de8ad2c157b026eaf2cfd5142421c99035d8", func := "numeral/numerallaw06.NearRounds", spec := "nearRounds", unfollowed := true, recurses := true, named := ["numeral/round.names", "math/bits.deBruijn32tab"], apart := false, laid := [("math/bits.deBruijn32tab", laid_math_bits_deBruijn32tab), ("numeral/round.names", laid_numeral_round_names)] }
def NearRoundsSaid : Prop := nearRoundsRow.holds Tryz.pinned (OpenSpec.ofChange nearRoundsSpec)

/-- ITS FALSE NEIGHBOUR: 'it returns false'. Refute it at one input. -/
def nearRoundsWrong : ChangeSpec := { name := "nearRounds", fn := fun _ => fun
  | [d1, d2, d3, d4] => { results := [.lit (.bool false)], args := [d1, d2, d3, d4] }
  | _ => none }
def NearRoundsWrongFalsely : Prop := nearRoundsRow.holds Tryz.pinned (OpenSpec.ofChange nearRoundsWrong)

/-- 'numerallaw06.NearMeets': WHATEVER THE INPUT: true; the input reads as it did. -/
def nearMeetsSpec : ChangeSpec := { name := "nearMeets", fn := fun _ => fun
  | [d1, d2, d3] => { results := [.lit (.bool true)], args := [d1, d2, d3] }
  | _ => none }
def nearMeetsRow : OpenClaim := { program := "ytaidedkpfnidpaagreatdoor", sum := "e38af71c863d6123c141dabe8a01de8ad2c157b026eaf2cfd5142421c99035d8", func := "numeral/numerallaw06.NearMeets", spec := "nearMeets", unfollowed := true, recurses := true, named := ["numeral/round.names", "math/bits.deBruijn32tab"], apart := false, laid := [("math/bits.deBruijn32tab", laid_math_bits_deBruijn32tab), ("numeral/round.names", laid_numeral_round_names)] }
def NearMeetsSaid : Prop := nearMeetsRow.holds Tryz.pinned (OpenSpec.ofChange nearMeetsSpec)

/-- ITS FALSE NEIGHBOUR: 'it returns false'. Refute it at one input. -/
def nearMeetsWrong : ChangeSpec := { name := "nearMeets", fn := fun _ => fun
  | [d1, d2, d3] => { results := [.lit (.bool false)], args := [d1, d2, d3] }
  | _ => none }
def NearMeetsWrongFalsely : Prop := nearMeetsRow.holds Tryz.pinned (OpenSpec.ofChange nearMeetsWrong)

/- THE SECOND FORM. 'bulk': how many values and letters a reading holds, each counted each time it is reached (what is shared counts as often as it is met; a slice's spare places count too). A statement '..UptoSaid' is the law's where the arguments, and the package variables that the reading takes, are together of bulk at most 1048576: NARROWER than '..Said'. Prove '..Said' where nothing that the law and all that it calls make is longer than what came in: it says more and counts as full. Else prove '..UptoSaid'. A law counts once. -/
mutual
def uptoBulk {H : Type} : DataW H → Nat
  | .lit (.string bytes) => bytes.length + 1
  | .lit _ => 1
  | .nil => 1
  | .ptr d => uptoBulk d + 1
  | .slice elems spare => uptoBulkAll elems + uptoBulkAll spare + 1
  | .agg parts => uptoBulkAll parts + 1
  | .iface _ d => uptoBulk d + 1
  | .map entries => uptoBulkEntries entries + 1
  | .held _ => 1
def uptoBulkAll {H : Type} : List (DataW H) → Nat
  | [] => 0
  | d :: r => uptoBulk d + uptoBulkAll r
def uptoBulkEntries {H : Type} : List (Lit × DataW H) → Nat
  | [] => 0
  | x :: r => uptoBulkEntry x + uptoBulkEntries r
def uptoBulkEntry {H : Type} : Lit × DataW H → Nat
  | (.string bytes, d) => bytes.length + uptoBulk d + 1
  | (_, d) => uptoBulk d + 1
 end
def uptoSmall : (H : Type) → List (DataW H) → Bool := fun _ ds => decide (uptoBulkAll ds ≤ 1048576)
def OpenSpec.upto (s : _root_.Go.ChangeSpec) : _root_.Go.OpenSpec := { _root_.Go.OpenSpec.ofChange s with cond := some uptoSmall }

/-- 'numerallaw06.NearRounds', WHERE WHAT IT READS IS OF BULK AT MOST 1048576: true; the input reads as it did. -/
def nearRoundsUptoRow : OpenClaim := { program := "ytaidedkpfnidpaagreatdoor", sum := "e38af71c863d6123c141dabe8a01de8ad2c157b026eaf2cfd5142421c99035d8", func := "numeral/numerallaw06.NearRounds", spec := "nearRounds", unfollowed := true, recurses := true, named := ["numeral/round.names", "math/bits.deBruijn32tab"], apart := false, laid := [("math/bits.deBruijn32tab", laid_math_bits_deBruijn32tab), ("numeral/round.names", laid_numeral_round_names)], narrowed := true }
def NearRoundsUptoSaid : Prop := nearRoundsUptoRow.holds Tryz.pinned (OpenSpec.upto nearRoundsSpec)

/-- 'numerallaw06.NearMeets', WHERE WHAT IT READS IS OF BULK AT MOST 1048576: true; the input reads as it did. -/
def nearMeetsUptoRow : OpenClaim := { program := "ytaidedkpfnidpaagreatdoor", sum := "e38af71c863d6123c141dabe8a01de8ad2c157b026eaf2cfd5142421c99035d8", func := "numeral/numerallaw06.NearMeets", spec := "nearMeets", unfollowed := true, recurses := true, named := ["numeral/round.names", "math/bits.deBruijn32tab"], apart := false, laid := [("math/bits.deBruijn32tab", laid_math_bits_deBruijn32tab), ("numeral/round.names", laid_numeral_round_names)], narrowed := true }
def NearMeetsUptoSaid : Prop := nearMeetsUptoRow.holds Tryz.pinned (OpenSpec.upto nearMeetsSpec)

end Rows
end Go.Proofs.YtaidedkpfnidpaaGreatDoor
