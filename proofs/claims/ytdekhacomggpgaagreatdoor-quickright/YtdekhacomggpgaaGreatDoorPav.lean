/- Of what QuickRightRow stands on: DcRou DcRouB DcBoth DcRoundsLaw DcRNou DcRAddW DcCmp. -/
import Derived.Test.YtdekhacomggpgaaGreatDoorPaf
import Derived.Test.YtdekhacomggpgaaGreatDoorPan
import Derived.Test.YtdekhacomggpgaaGreatDoorPat
import Derived.Test.YtdekhacomggpgaaGreatDoorPab
import Derived.Test.YtdekhacomggpgaaGreatDoorPau
import Derived.Deep.QuietTactic
import Derived.BigQuiet
import Derived.Test.YtdekhacomggpgaaGreatDoorPao
import Derived.Test.YtdekhacomggpgaaGreatDoorPas
namespace Go.Proofs.YtdekhacomggpgaaGreatDoor
open Go.RowKit
structure Rou (w W:World) (g:Bool) (s:ByteArray) (x:Int) (zs:List Nat):Prop where
 d:W.heap[w.heap.size]? = some (.cells #[.bool g,.string s,.int .i64 x] 23 (0,0))
 r:W.heap[w.heap.size+1]? = some (.cells #[.bool false,.string ⟨#[]⟩,.int .i64 0] 23 (0,0))
 k:BRow W (w.heap.size+1+1) zs
 fr:Below w.heap.size w W
theorem Rou.kept {w W W':World} {g:Bool} {s:ByteArray} {x:Int} {zs:List Nat} (h:Rou w W g s x zs) (hb:Below W.heap.size W W'):Rou w W' g s x zs:=by
 have hl:=h.k.lt
 exact ⟨(hb.block _ (by omega)).trans h.d,(hb.block _ (by omega)).trans h.r,(hb.block _ hl).trans h.k,gr_trans h.fr hb⟩
theorem Rou.only {w W W':World} {g:Bool} {s:ByteArray} {x:Int} {zs ys:List Nat} (h:Rou w W g s x zs) (ho:Only (w.heap.size+1+1) W W') (hk:BRow W' (w.heap.size+1+1) ys):Rou w W' g s x ys:=
 ⟨(ho.block _ (by omega)).trans h.d,(ho.block _ (by omega)).trans h.r,hk,Only.below h.fr ho (by omega)⟩
theorem Rou.cd {w W:World} {g:Bool} {s:ByteArray} {x:Int} {zs:List Nat} (h:Rou w W g s x zs):W.cell? ⟨w.heap.size,0,none⟩ = some (.bool g)∧W.cell? ⟨w.heap.size,1,none⟩ = some (.string s)∧W.cell? ⟨w.heap.size,2,none⟩ = some (.int .i64 x):=
 ⟨by rw [cell_of_row W _ 0 _ _ _ h.d]; rfl,by rw [cell_of_row W _ 1 _ _ _ h.d]; rfl,by rw [cell_of_row W _ 2 _ _ _ h.d]; rfl⟩
theorem Rou.cr {w W:World} {g:Bool} {s:ByteArray} {x:Int} {zs:List Nat} (h:Rou w W g s x zs):W.cell? ⟨w.heap.size+1,0,none⟩ = some (.bool false)∧W.cell? ⟨w.heap.size+1,1,none⟩ = some (.string ⟨#[]⟩)∧W.cell? ⟨w.heap.size+1,2,none⟩ = some (.int .i64 0)∧∀ j,W.frozen? ⟨w.heap.size+1,j,none⟩ = false:=
 ⟨by rw [cell_of_row W _ 0 _ _ _ h.r]; rfl,by rw [cell_of_row W _ 1 _ _ _ h.r]; rfl,by rw [cell_of_row W _ 2 _ _ _ h.r]; rfl,fun j=>frozen_of_row W _ j _ _ h.r⟩
theorem Only.setRow {B:Nat} {a w:World} (h:Only B a w) (cs:Array Value):Only B a (w.setRow B cs):=⟨h.os,h.tape,h.output,by rw [← h.size]; simp,fun k hk=>(setRow_other _ _ _ _ hk).trans (h.block k hk)⟩
theorem MkA.parts {g:Bool} {N:Nat} {x:Int} {V:Value} (h:MkA g N x V):∃ (g2:Bool) (s2:ByteArray) (x2 e2:Int),V = .tuple #[.agg #[.bool g2,.string s2,.int .i64 x2],.int .i64 e2]:=by
 rcases h with ⟨_,rfl⟩|⟨t,n,z,_,_,_,⟨_,rfl⟩|⟨_,rfl⟩⟩ <;> exact ⟨_,_,_,_,rfl⟩
theorem ends_fix (s:ByteArray) (hm:s.size≤65536):∃ f t:Nat,Ends s f t∧(f < t∨(f = 0∧t = 0))∧∀ W:World,Calls Tryz.prog 18 #[.string s] W fun e W'=>e = .returned (.tuple #[.int .i64 (f:Int),.int .i64 (t:Int)])∧Below W.heap.size W W':=by
 by_cases hz:∀ (j:Nat) (hj:j < s.size),(s[j]'hj).toNat = 48
 ·refine ⟨0,0,⟨Nat.le_refl _,Nat.zero_le _,fun j _ h=>absurd h (Nat.not_lt_zero _),fun j h _=>hz j h,fun h=>absurd h (Nat.lt_irrefl _),fun h=>absurd h (Nat.lt_irrefl _)⟩,Or.inr ⟨rfl,rfl⟩,fun W=>(ends_any s W hm).mono fun e W' ⟨⟨f,t,h1,h2,h3⟩,hb⟩=>?_⟩
  rcases h3 with h3|⟨rfl,rfl⟩
  ·have:=h2.hi
   exact absurd (hz f (by omega)) (h2.one h3 (by omega))
  ·exact ⟨h1,hb⟩
 ·obtain ⟨f,q,hfq,he⟩:=Ends.ex hz
  refine ⟨f,q+1,he,Or.inl (by omega),fun W=>(ends_any s W hm).mono fun e W' ⟨⟨f',t',h1,h2,h3⟩,hb⟩=>?_⟩
  obtain ⟨rfl,rfl⟩:=he.uniq h2 (by omega)
  exact ⟨h1,hb⟩
theorem Num.nil (w:World):Num w none 0 0:=⟨[],rfl,Or.inl rfl,Pl.wf_nil,Pl.norm_nil,rfl,by omega⟩
def dl (l:List UInt8) (k:Nat):Int:=match l[k]? with|some a=>(a.toNat:Int) - 48|none=>0
theorem dl_zero (a:UInt8) (l:List UInt8):dl (a :: l) 0 = (a.toNat:Int) - 48:=rfl
theorem dl_succ (a:UInt8) (l:List UInt8) (k:Nat):dl (a :: l) (k+1) = dl l k:=rfl
def Cd (l:List UInt8):Prop:=(∀ a,a∈l→48≤a.toNat)∧∀ a,l.getLast? = some a→a.toNat≠48
theorem Cd.tail {a:UInt8} {l:List UInt8} (h:Cd (a :: l)):Cd l:=
 ⟨fun b hb=>h.1 b (List.mem_cons_of_mem _ hb),fun b hb=>h.2 b (by
  cases l with
  | nil=>cases hb
  | cons c l=>rw [List.getLast?_cons_cons]; exact hb)⟩
theorem Cd.ex:∀ {a:UInt8} {l:List UInt8},Cd (a :: l)→∃ k,(∀ j,j < k→dl (a :: l) j = 0)∧0 < dl (a :: l) k:=by
 intro a l
 induction l generalizing a with
 | nil=>intro h; exact ⟨0,fun j hj=>absurd hj (Nat.not_lt_zero _),by have:=h.1 a (by simp); have:=h.2 a rfl; rw [dl_zero]; omega⟩
 | cons b l ih=>
  intro h
  have h48:=h.1 a (by simp)
  by_cases h0:a.toNat = 48
  ·obtain ⟨k,h1,h2⟩:=ih h.tail
   refine ⟨k+1,fun j hj=>?_,by rw [dl_succ]; exact h2⟩
   cases j with
   | zero=>rw [dl_zero]; omega
   | succ j=>rw [dl_succ]; exact h1 j (by omega)
  ·exact ⟨0,fun j hj=>absurd hj (Nat.not_lt_zero _),by rw [dl_zero]; omega⟩
end Go.Proofs.YtdekhacomggpgaaGreatDoor
