/- Of what QuickRightRow stands on: DcRep DcTold DcDiff DcAdd DcAddBoth. -/
import Derived.Test.YtdekhacomggpgaaGreatDoorPax
import Derived.Test.YtdekhacomggpgaaGreatDoorPav
import Derived.Lib.MakeNoZero
import Derived.Laws.CopyRow
import Derived.Shelf.Bits.Mul64
import Derived.Test.YtdekhacomggpgaaGreatDoorPao
namespace Go.Proofs.YtdekhacomggpgaaGreatDoor
open Go.RowKit Go.Shelf
open Go.RowKit
def RT (w:World) (B p N:Nat):Prop:=∃ tl:Array Value,w.heap[B]? = some (.cells (bc (List.replicate p 48) ++ tl) 5 (0,0))∧p+tl.size = N
theorem RT.cell {w:World} {B p N:Nat} (h:RT w B p N) (j:Nat) (hj:j < p):w.cell? ⟨B,j,none⟩ = some (.int .u8 48):=by
 obtain ⟨tl,h,_⟩:=h
 have:=BT.cell ⟨tl,h⟩ j (by simpa using hj)
 rw [List.getElem?_replicate,if_pos hj] at this
 exact this
theorem RT.drew {w:World} {B p N:Nat} (h:RT w B p N):RT w.drew B p N:=h
theorem BT.cells {w:World} {b:Nat} {cs:Array Value} {t:TypeId} {B:Nat} {zs:List Nat} (h:BT w B zs) (hb:w.heap[b]? = some (.cells cs t (0,0))) (ht:t≠5):b≠B:=by
 rintro rfl
 obtain ⟨tl,h⟩:=h
 rw [h] at hb
 injection hb with hb
 injection hb with h1 h2
 exact ht h2.symm
def DfA (g:Bool) (M N:Nat) (x:Int) (V:Value):Prop:=
 (M = N∧V = .tuple #[.agg #[.bool false,.string ⟨#[]⟩,.int .i64 0],.int .i64 0])∨(N < M∧MkA g (M - N) x V)∨(M < N∧MkA (!g) (N - M) x V)
theorem DfA.parts {g:Bool} {M N:Nat} {x:Int} {V:Value} (h:DfA g M N x V):∃ (g2:Bool) (s2:ByteArray) (x2 e2:Int),V = .tuple #[.agg #[.bool g2,.string s2,.int .i64 x2],.int .i64 e2]:=by
 rcases h with ⟨_,h⟩|⟨_,h⟩|⟨_,h⟩
 ·exact ⟨_,_,_,_,h⟩
 ·exact h.parts
 ·exact h.parts
def tenTop (n:Nat):Nat:=10 ^ n
def MkB (g:Bool) (N:Nat) (x:Int) (V:Value):Prop:=(N < tenTop 65536∧MkA g N x V)∨(tenTop 65536≤N∧V = .tuple #[.agg #[.bool false,.string ⟨#[]⟩,.int .i64 0],.int .i64 4])
theorem MkB.parts {g:Bool} {N:Nat} {x:Int} {V:Value} (h:MkB g N x V):∃ (g2:Bool) (s2:ByteArray) (x2 e2:Int),V = .tuple #[.agg #[.bool g2,.string s2,.int .i64 x2],.int .i64 e2]:=by
 rcases h with ⟨_,h⟩|⟨_,h⟩
 ·exact h.parts
 ·exact ⟨_,_,_,_,h⟩
def AddA (g:Bool) (M:Nat) (g2:Bool) (N:Nat) (x:Int) (V:Value):Prop:=(g = g2∧MkB g (M+N) x V)∨(g≠g2∧DfA g M N x V)
theorem MkB.uniq {g:Bool} {N:Nat} {x:Int} {V V':Value} (h:MkB g N x V) (h':MkB g N x V'):V = V':=by
 rcases h with ⟨h1,h2⟩|⟨h1,h2⟩ <;> rcases h' with ⟨k1,k2⟩|⟨k1,k2⟩
 ·exact h2.uniq k2
 ·omega
 ·omega
 ·rw [h2,k2]
theorem MkB.low {g:Bool} {N:Nat} {x:Int} {V:Value} (h:MkB g N x V) (hN:N < tenTop 65536):MkA g N x V:=by
 rcases h with ⟨_,h2⟩|⟨h1,_⟩
 ·exact h2
 ·omega
theorem DfA.uniq {g:Bool} {M N:Nat} {x:Int} {V V':Value} (h:DfA g M N x V) (h':DfA g M N x V'):V = V':=by
 rcases h with ⟨h1,h2⟩|⟨h1,h2⟩|⟨h1,h2⟩ <;> rcases h' with ⟨k1,k2⟩|⟨k1,k2⟩|⟨k1,k2⟩ <;> first
  | (exfalso; omega)
  | exact h2.uniq k2
  | rw [h2,k2]
theorem AddA.uniq {g:Bool} {M:Nat} {g2:Bool} {N:Nat} {x:Int} {V V':Value} (h:AddA g M g2 N x V) (h':AddA g M g2 N x V'):V = V':=by
 rcases h with ⟨h1,h2⟩|⟨h1,h2⟩ <;> rcases h' with ⟨k1,k2⟩|⟨k1,k2⟩
 ·exact h2.uniq k2
 ·exact absurd h1 k1
 ·exact absurd k1 h1
 ·exact h2.uniq k2
end Go.Proofs.YtdekhacomggpgaaGreatDoor
