/-
  No cell of these rows narrows 'for every input' (looked for: loops, veiled, ifaces, maps, wideKeys, modest, calm, conditions, laid).
  DERIVED. THE GIVEN ROWS OF THIS SEAT. 4 by the template 'for every input the law returns true; each argument reads behind the call as it read before'; 0 by the template 'total and deterministic' (their statements: YtpaoacehbomdmaaTotals.lean).
  GIVEN WITH THE SEED: the statements are not yours to turn. If you find one false, say at which input.
  Laid BY PROGRAM, IN A SANDBOX (cutbox-rows.mjs): the forced cells as the released guide's own fill.sh prints them over the translation 0a8833d9e2d4a600… (all of the seat's roots in one cut). By AI agents, Wed Nov 11 2026. No macro, syntax, notation, axiom, sorry.
-/
import Derived.Test.YtpaoacehbomdmaaChecked
import GoSem.Claim
import GoSem.ClaimJoined
import GoSem.ClaimMapViews
import Derived.JoinedTies
import Derived.KernelRfl
namespace Go.Proofs.Ytpaoacehbomdmaa
/- THE CELL 'sum', in the pinned program and in every row, IS THE sha256 OF THE DUMP (.gsa) THAT YtpaoacehbomdmaaProg.lean LOADS. Nothing in Lean hashes anything: it is a label: what it is worth is what the hold of that sum in a sandbox is worth. -/
noncomputable def Try.pinned : Pinned := { name := "ytpaoacehbomdmaa", sum := "0a8833d9e2d4a600691a3acf37d27b863691353eae6501a78d10661d9cd84d94", checked := Try.checked }
namespace Rows
def none {H : Type} : Left H := { results := [], args := [] }

/-- 'numerallaw10.DecNames': WHATEVER THE INPUT: true; the input reads as it did. -/
def decNamesSpec : ChangeSpec := { name := "decNames", fn := fun _ => fun
  | [] => { results := [.lit (.bool true)], args := [] }
  | _ => none }
def decNamesRow : OpenClaim := { program := "ytpaoacehbomdmaa", sum := "0a8833d9e2d4a600691a3acf37d27b863691353eae6501a78d10661d9cd84d94", func := "numeral/numerallaw10.DecNames", spec := "decNames", inPlace := ["internal/bytealg.MakeNoZero", "internal/bytealg.Compare"], recurses := true, apart := false }
def DecNamesSaid : Prop := decNamesRow.holds Try.pinned (OpenSpec.ofChange decNamesSpec)

/-- ITS FALSE NEIGHBOUR: 'it returns false'. Refute it at one input. -/
def decNamesWrong : ChangeSpec := { name := "decNames", fn := fun _ => fun
  | [] => { results := [.lit (.bool false)], args := [] }
  | _ => none }
def DecNamesWrongFalsely : Prop := decNamesRow.holds Try.pinned (OpenSpec.ofChange decNamesWrong)

/-- 'numerallaw10.DecMakes': WHATEVER THE INPUT: true; the input reads as it did. -/
def decMakesSpec : ChangeSpec := { name := "decMakes", fn := fun _ => fun
  | [d1, d2, d3] => { results := [.lit (.bool true)], args := [d1, d2, d3] }
  | _ => none }
def decMakesRow : OpenClaim := { program := "ytpaoacehbomdmaa", sum := "0a8833d9e2d4a600691a3acf37d27b863691353eae6501a78d10661d9cd84d94", func := "numeral/numerallaw10.DecMakes", spec := "decMakes", apart := false }
def DecMakesSaid : Prop := decMakesRow.holds Try.pinned (OpenSpec.ofChange decMakesSpec)

/-- ITS FALSE NEIGHBOUR: 'it returns false'. Refute it at one input. -/
def decMakesWrong : ChangeSpec := { name := "decMakes", fn := fun _ => fun
  | [d1, d2, d3] => { results := [.lit (.bool false)], args := [d1, d2, d3] }
  | _ => none }
def DecMakesWrongFalsely : Prop := decMakesRow.holds Try.pinned (OpenSpec.ofChange decMakesWrong)

/-- 'numerallaw10.DecSums': WHATEVER THE INPUT: true; the input reads as it did. -/
def decSumsSpec : ChangeSpec := { name := "decSums", fn := fun _ => fun
  | [d1, d2] => { results := [.lit (.bool true)], args := [d1, d2] }
  | _ => none }
def decSumsRow : OpenClaim := { program := "ytpaoacehbomdmaa", sum := "0a8833d9e2d4a600691a3acf37d27b863691353eae6501a78d10661d9cd84d94", func := "numeral/numerallaw10.DecSums", spec := "decSums", inPlace := ["internal/bytealg.MakeNoZero", "internal/bytealg.Compare"], recurses := true, apart := false }
def DecSumsSaid : Prop := decSumsRow.holds Try.pinned (OpenSpec.ofChange decSumsSpec)

/-- ITS FALSE NEIGHBOUR: 'it returns false'. Refute it at one input. -/
def decSumsWrong : ChangeSpec := { name := "decSums", fn := fun _ => fun
  | [d1, d2] => { results := [.lit (.bool false)], args := [d1, d2] }
  | _ => none }
def DecSumsWrongFalsely : Prop := decSumsRow.holds Try.pinned (OpenSpec.ofChange decSumsWrong)

/-- 'numerallaw10.DecRounds': WHATEVER THE INPUT: true; the input reads as it did. -/
def decRoundsSpec : ChangeSpec := { name := "decRounds", fn := fun _ => fun
  | [d1, d2, d3] => { results := [.lit (.bool true)], args := [d1, d2, d3] }
  | _ => none }
def decRoundsRow : OpenClaim := { program := "ytpaoacehbomdmaa", sum := "0a8833d9e2d4a600691a3acf37d27b863691353eae6501a78d10661d9cd84d94", func := "numeral/numerallaw10.DecRounds", spec := "decRounds", apart := false }
def DecRoundsSaid : Prop := decRoundsRow.holds Try.pinned (OpenSpec.ofChange decRoundsSpec)

/-- ITS FALSE NEIGHBOUR: 'it returns false'. Refute it at one input. -/
def decRoundsWrong : ChangeSpec := { name := "decRounds", fn := fun _ => fun
  | [d1, d2, d3] => { results := [.lit (.bool false)], args := [d1, d2, d3] }
  | _ => none }
def DecRoundsWrongFalsely : Prop := decRoundsRow.holds Try.pinned (OpenSpec.ofChange decRoundsWrong)

/- THE SECOND FORM. 'bulk': how many values and letters a reading holds, each counted each time it is reached (what is shared counts as often as it is met; a slice's spare places count too). A statement '..UptoSaid' is the law's where the arguments, and the package variables that the reading takes, are together of bulk at most 1048576: NARROWER than '..Said'. Prove '..Said' where nothing that the law and all that it calls make is longer than what came in: it says more and counts as full. Else prove '..UptoSaid'. A law counts once. -/
mutual
def uptoBulk {H : Type} : DataW H → Nat
  | .lit (.string bytes) => bytes.length + 1
  | .lit _ => 1
  | .nil => 1
  | .ptr d => uptoBulk d + 1
  | .slice elems spare => uptoBulkAll elems + uptoBulkAll spare + 1
  | .agg parts => uptoBulkAll parts + 1
  | .iface _ d => uptoBulk d + 1
  | .map entries => uptoBulkEntries entries + 1
  | .held _ => 1
def uptoBulkAll {H : Type} : List (DataW H) → Nat
  | [] => 0
  | d :: r => uptoBulk d + uptoBulkAll r
def uptoBulkEntries {H : Type} : List (Lit × DataW H) → Nat
  | [] => 0
  | x :: r => uptoBulkEntry x + uptoBulkEntries r
def uptoBulkEntry {H : Type} : Lit × DataW H → Nat
  | (.string bytes, d) => bytes.length + uptoBulk d + 1
  | (_, d) => uptoBulk d + 1
 end
def uptoSmall : (H : Type) → List (DataW H) → Bool := fun _ ds => decide (uptoBulkAll ds ≤ 1048576)
def OpenSpec.upto (s : _root_.Go.ChangeSpec) : _root_.Go.OpenSpec := { _root_.Go.OpenSpec.ofChange s with cond := some uptoSmall }

/-- 'numerallaw10.DecNames', WHERE WHAT IT READS IS OF BULK AT MOST 1048576: true; the input reads as it did. -/
def decNamesUptoRow : OpenClaim := { program := "ytpaoacehbomdmaa", sum := "0a8833d9e2d4a600691a3acf37d27b863691353eae6501a78d10661d9cd84d94", func := "numeral/numerallaw10.DecNames", spec := "decNames", inPlace := ["internal/bytealg.MakeNoZero", "internal/bytealg.Compare"], recurses := true, apart := false, narrowed := true }
def DecNamesUptoSaid : Prop := decNamesUptoRow.holds Try.pinned (OpenSpec.upto decNamesSpec)

/-- 'numerallaw10.DecMakes', WHERE WHAT IT READS IS OF BULK AT MOST 1048576: true; the input reads as it did. -/
def decMakesUptoRow : OpenClaim := { program := "ytpaoacehbomdmaa", sum := "0a8833d9e2d4a600691a3acf37d27b863691353eae6501a78d10661d9cd84d94", func := "numeral/numerallaw10.DecMakes", spec := "decMakes", apart := false, narrowed := true }
def DecMakesUptoSaid : Prop := decMakesUptoRow.holds Try.pinned (OpenSpec.upto decMakesSpec)

/-- 'numerallaw10.DecSums', WHERE WHAT IT READS IS OF BULK AT MOST 1048576: true; the input reads as it did. -/
def decSumsUptoRow : OpenClaim := { program := "ytpaoacehbomdmaa", sum := "0a8833d9e2d4a600691a3acf37d27b863691353eae6501a78d10661d9cd84d94", func := "numeral/numerallaw10.DecSums", spec := "decSums", inPlace := ["internal/bytealg.MakeNoZero", "internal/bytealg.Compare"], recurses := true, apart := false, narrowed := true }
def DecSumsUptoSaid : Prop := decSumsUptoRow.holds Try.pinned (OpenSpec.upto decSumsSpec)

/-- 'numerallaw10.DecRounds', WHERE WHAT IT READS IS OF BULK AT MOST 1048576: true; the input reads as it did. -/
def decRoundsUptoRow : OpenClaim := { program := "ytpaoacehbomdmaa", sum := "0a8833d9e2d4a600691a3acf37d27b863691353eae6501a78d10661d9cd84d94", func := "numeral/numerallaw10.DecRounds", spec := "decRounds", apart := false, narrowed := true }
def DecRoundsUptoSaid : Prop := decRoundsUptoRow.holds Try.pinned (OpenSpec.upto decRoundsSpec)

end Rows
end Go.Proofs.Ytpaoacehbomdmaa
