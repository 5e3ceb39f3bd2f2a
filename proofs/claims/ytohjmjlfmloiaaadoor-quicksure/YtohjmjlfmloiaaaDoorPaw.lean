/- Of what QuickSureRow stands on: DcRou DcRouB DcBoth DcRoundsLaw. -/
import Derived.Test.YtohjmjlfmloiaaaDoorPaf
import Derived.Test.YtohjmjlfmloiaaaDoorPaj
import Derived.Test.YtohjmjlfmloiaaaDoorPau
import Derived.Test.YtohjmjlfmloiaaaDoorPab
import Derived.Test.YtohjmjlfmloiaaaDoorPav
import Derived.Deep.QuietTactic
import Derived.BigQuiet
import Derived.Test.YtohjmjlfmloiaaaDoorPal
namespace Go.Proofs.YtohjmjlfmloiaaaDoor
open Go.RowKit
structure Rou (w W:World) (g:Bool) (s:ByteArray) (x:Int) (zs:List Nat):Prop where
 d:W.heap[w.heap.size]? = some (.cells #[.bool g,.string s,.int .i64 x] 25 (0,0))
 r:W.heap[w.heap.size+1]? = some (.cells #[.bool false,.string ⟨#[]⟩,.int .i64 0] 25 (0,0))
 k:BRow W (w.heap.size+1+1) zs
 fr:Below w.heap.size w W
theorem Rou.kept {w W W':World} {g:Bool} {s:ByteArray} {x:Int} {zs:List Nat} (h:Rou w W g s x zs) (hb:Below W.heap.size W W'):Rou w W' g s x zs:=by
 have hl:=h.k.lt
 exact ⟨(hb.block _ (by omega)).trans h.d,(hb.block _ (by omega)).trans h.r,(hb.block _ hl).trans h.k,gr_trans h.fr hb⟩
theorem Rou.only {w W W':World} {g:Bool} {s:ByteArray} {x:Int} {zs ys:List Nat} (h:Rou w W g s x zs) (ho:Only (w.heap.size+1+1) W W') (hk:BRow W' (w.heap.size+1+1) ys):Rou w W' g s x ys:=
 ⟨(ho.block _ (by omega)).trans h.d,(ho.block _ (by omega)).trans h.r,hk,Only.below h.fr ho (by omega)⟩
theorem Only.setRow {B:Nat} {a w:World} (h:Only B a w) (cs:Array Value):Only B a (w.setRow B cs):=⟨h.os,h.tape,h.output,by rw [← h.size]; simp,fun k hk=>(setRow_other _ _ _ _ hk).trans (h.block k hk)⟩
theorem digs_chars {es:List Nat} (h:Pl.Dig es):digs ⟨(chars es).toArray⟩ = es:=by
 unfold digs chars
 simp only [List.map_map]
 conv=>rhs; rw [← List.map_id es]
 apply List.map_congr_left
 intro d hd
 have:=h d hd
 simp only [Function.comp,id]
 rw [UInt8.toNat_ofNat_of_lt' (show 48+d < 256 by omega)]
 omega
theorem all_chars {es:List Nat} (h:Pl.Dig es):AllD ⟨(chars es).toArray⟩ (⟨(chars es).toArray⟩:ByteArray).size:=by
 intro j hj _
 have hj':j < es.length:=by simpa [chars,ByteArray.size] using hj
 have:=h _ (List.getElem_mem hj')
 have e:((⟨(chars es).toArray⟩:ByteArray)[j]'hj).toNat = 48+es[j]:=by
  rw [ByteArray.getElem_eq_getElem_data]
  simp only [List.getElem_toArray,chars,List.getElem_map]
  rw [UInt8.toNat_ofNat_of_lt' (show 48+es[j] < 256 by omega)]
 omega
theorem MkA.parts {g:Bool} {N:Nat} {x:Int} {V:Value} (h:MkA g N x V):∃ (g2:Bool) (s2:ByteArray) (x2 e2:Int),V = .tuple #[.agg #[.bool g2,.string s2,.int .i64 x2],.int .i64 e2]:=by
 rcases h with ⟨_,rfl⟩|⟨t,n,z,_,_,_,⟨_,rfl⟩|⟨_,rfl⟩⟩ <;> exact ⟨_,_,_,_,rfl⟩
theorem lead_len {ds:List Nat} {n:Nat} (hl:Pl.Lead ds) (hv:Pl.dval ds 0 < 10 ^ n) (hn:0 < n):ds.length≤n:=by
 obtain ⟨h1,h2⟩:=hl
 match ds,h1 with
 | d :: r,_=>
  rcases h2 with h2|h2
  ·have:=Pl.lead_low (d:=d) (ds:=r) h2
   have h3:10 ^ r.length < 10 ^ n:=Nat.lt_of_le_of_lt this hv
   have:=(Nat.pow_lt_pow_iff_right (by decide)).1 h3
   simp; omega
  ·omega
theorem ends_fix (s:ByteArray) (hm:s.size≤65536):∃ f t:Nat,Ends s f t∧(f < t∨(f = 0∧t = 0))∧∀ W:World,Calls Tryd.prog 14 #[.string s] W fun e W'=>e = .returned (.tuple #[.int .i64 (f:Int),.int .i64 (t:Int)])∧Below W.heap.size W W':=by
 by_cases hz:∀ (j:Nat) (hj:j < s.size),(s[j]'hj).toNat = 48
 ·refine ⟨0,0,⟨Nat.le_refl _,Nat.zero_le _,fun j _ h=>absurd h (Nat.not_lt_zero _),fun j h _=>hz j h,fun h=>absurd h (Nat.lt_irrefl _),fun h=>absurd h (Nat.lt_irrefl _)⟩,Or.inr ⟨rfl,rfl⟩,fun W=>(ends_any s W hm).mono fun e W' ⟨⟨f,t,h1,h2,h3⟩,hb⟩=>?_⟩
  rcases h3 with h3|⟨rfl,rfl⟩
  ·have:=h2.hi
   exact absurd (hz f (by omega)) (h2.one h3 (by omega))
  ·exact ⟨h1,hb⟩
 ·obtain ⟨f,q,hfq,he⟩:=Ends.ex hz
  refine ⟨f,q+1,he,Or.inl (by omega),fun W=>(ends_any s W hm).mono fun e W' ⟨⟨f',t',h1,h2,h3⟩,hb⟩=>?_⟩
  obtain ⟨rfl,rfl⟩:=he.uniq h2 (by omega)
  exact ⟨h1,hb⟩
end Go.Proofs.YtohjmjlfmloiaaaDoor
