/- Of what QuickSureRow stands on: RefParse RefLess RefSums RefText. -/
import Derived.Test.YtohjmjlfmloiaaaDoorPar
import Derived.Test.YtohjmjlfmloiaaaDoorPas
import Derived.Test.YtohjmjlfmloiaaaDoorPaj
import Derived.Test.YtohjmjlfmloiaaaDoorPao
import Derived.Test.YtohjmjlfmloiaaaDoorPaf
import Derived.Deep.LoopGhost
namespace Go.Proofs.YtohjmjlfmloiaaaDoor
open Go.RowKit
theorem dval_take_lt {ds:List Nat} (h:Pl.Dig ds) (k:Nat) (hk:k≤ds.length):Pl.dval (ds.take k) 0 < 10 ^ k:=by
 have:=Pl.dval_lt (dig_take h k)
 rwa [List.length_take,Nat.min_eq_left hk] at this
theorem dval_take_add (ds:List Nat) (k j:Nat) (h:k+j≤ds.length):Pl.dval (ds.take (k+j)) 0 = Pl.dval (ds.take k) 0 * 10 ^ j+Pl.dval ((ds.drop k).take j) 0:=by
 rw [List.take_add,dval_append,List.length_take,List.length_drop,Nat.min_eq_left (by omega)]
def bl (ds:List Nat):List Value:=ds.map (fun z:Nat=>Value.int .u8 (z:Int))
def BOwn (w:World) (base:Nat) (v:Value) (ds:List Nat):Prop:=w.ownsRow base 5 1 v ds.length (bl ds)
theorem BOwn.nil (w:World) (base:Nat):BOwn w base (.slice none 0 0) []:=World.ownsRow_nil _ _ _ _
theorem BOwn.kept {w w':World} {base:Nat} {v:Value} {ds:List Nat} (h:BOwn w base v ds) (hb:Below w.heap.size w w'):BOwn w' base v ds:=own_below h hb
theorem BOwn.slice {w:World} {base:Nat} {v:Value} {ds:List Nat} (h:BOwn w base v ds):∃ a n c,v = .slice a n c∧ds.length = n:=by
 obtain ⟨_,⟨h1,h2⟩|⟨g,c,cur,hv,_⟩⟩:=h
 ·exact ⟨none,0,0,h1,h2⟩
 ·exact ⟨_,_,_,hv,rfl⟩
theorem rtext_group {V Q G k p M DE D:Nat} (hV:V = Q * 1000000000+G) (h:V * 10 ^ p+D = M) (hk:k = 9∨Q = 0) (hE:DE = G * 10 ^ p+D):Q * 10 ^ (p+k)+DE = M:=by
 rw [hE,← h,hV]
 rcases hk with rfl|rfl
 ·rw [Nat.pow_add,Nat.add_mul,Nat.mul_assoc,Nat.mul_comm (10 ^ p) (10 ^ 9),Nat.add_assoc]
 ·simp
def TInv (w:World) (M:Nat) (g:Nat) (s5 s6:Value) (wr:World):Prop:=
 ∃ (a:Option Addr) (l c:Nat) (cur D:List Nat),s6 = .slice a l c∧cur.length = l∧l≤16384∧Lim wr a cur∧Pl.Wf cur∧Pl.Norm cur∧Pl.val cur = g∧BOwn wr w.heap.size s5 (D.reverse.map (48+·))∧Pl.Dig D ∧
  g * 10 ^ D.length+Pl.dval D 0 = M∧(g = 0→D[0]?.getD 0≠0)∧Below w.heap.size w wr
def RGInv (w:World) (q:Value) (qs D:List Nat) (G k G':Nat) (s5:Value) (wr:World):Prop:=
 ∃ E:List Nat,E.length = k∧Pl.Dig E∧G' * 10 ^ k+Pl.dval E 0 = G∧BOwn wr w.heap.size s5 ((E ++ D).reverse.map (48+·))∧Own wr w.heap.size q qs∧(qs.length = 0→G' = 0→E[0]?.getD 0≠0)∧Below w.heap.size w wr
theorem RGInv.next {w wr W':World} {q s5 v':Value} {qs D:List Nat} {G k G':Nat} {E:List Nat} (h1:E.length = k) (h2:Pl.Dig E) (h3:G' * 10 ^ k+Pl.dval E 0 = G) (h5:Own wr w.heap.size q qs) (h7:Below w.heap.size w wr) (hB:BOwn wr w.heap.size s5 ((E ++ D).reverse.map (48+·)))
  (hO:BOwn W' w.heap.size v' ((E ++ D).reverse.map (48+·) ++ [48+G' % 10])) (hap:Ap wr W' s5 v') (hg:0 < qs.length∨0 < G'):RGInv w q qs D G (k+1) (G' / 10) v' W':=by
 refine ⟨G' % 10 :: E,by simp [h1],?_,?_,?_,?_,?_,?_⟩
 ·intro d hd
  rcases List.mem_cons.1 hd with rfl|hd
  ·exact Nat.mod_lt _ (by decide)
  ·exact h2 d hd
 ·rw [digit_step E h1 rfl]; exact h3
 ·have e:((G' % 10 :: E) ++ D).reverse.map (48+·) = (E ++ D).reverse.map (48+·) ++ [48+G' % 10]:=by simp
  rw [e]; exact hO
 ·refine h5.keep (fun k hk hkv=>hap.block k hk (fun e=>?_))
  obtain ⟨cu,hcu⟩:=h5.type k hkv
  exact row_type hB e.symm hcu (by decide)
 ·intro hq0 hz
  simp
  omega
 ·exact h7.trans ⟨hap.os,hap.tape,hap.output,hap.size,fun q hq=>hap.block q (by have:=h7.size; omega) (fun e=>by have:=World.ownsRow.lt hB q e.symm; omega)⟩
theorem RGInv.zero {w wr:World} {q s5:Value} {qs D:List Nat} {G k G' kq:Nat} (h:RGInv w q qs D G k G' s5 wr) (hG:G < 1000000000) (hk:k = 9∨(kq = 0∧G' = 0)):G' = 0:=by
 rcases hk with hk|hk
 ·obtain ⟨E,_,_,g3,_⟩:=h
  rw [hk,show (10:Nat) ^ 9 = 1000000000 by decide] at g3
  omega
 ·exact hk.2
theorem RGInv.done {w wr:World} {a:Option Addr} {kq l:Nat} {qs D:List Nat} {V G k M:Nat} {s5:Value} (h:RGInv w (.slice a kq l) qs D G k 0 s5 wr) (hk:k = 9∨qs.length = 0) (hG:G = V % 1000000000) (hqv:Pl.val qs = V / 1000000000) (hqw:Pl.Wf qs) (hqN:Pl.Norm qs)
  (hD:Pl.Dig D) (hval:V * 10 ^ D.length+Pl.dval D 0 = M) (hq:qs.length = kq) (h16:kq≤16384):TInv w M (Pl.val qs) s5 (.slice a kq l) wr:=by
 obtain ⟨E,g1,g2,g3,g4,g5,g6,g7⟩:=h
 obtain ⟨a',c',he,_,_,hlim⟩:=g5.lim
 injection he with e1 e2 e3
 subst e1
 rw [Nat.zero_mul,Nat.zero_add] at g3
 refine ⟨a,kq,l,qs,E ++ D,rfl,hq,h16,hlim,hqw,hqN,rfl,g4,?_,?_,?_,g7⟩
 ·intro d hd
  rcases List.mem_append.1 hd with hd|hd
  ·exact g2 d hd
  ·exact hD d hd
 ·rw [List.length_append,Nat.add_comm E.length,g1]
  refine rtext_group (V:=V) (G:=G) (D:=Pl.dval D 0) (by omega) hval ?_ (by rw [dval_append,g3])
  rcases hk with hk|hk
  ·exact Or.inl hk
  ·right
   rw [List.length_eq_zero_iff.1 hk]; rfl
 ·intro hz
  have hq0:qs.length = 0:=by rw [Pl.norm_zero hqN hz]; rfl
  have h6:=g6 hq0 rfl
  have hE:0 < E.length:=by
   cases E with
   | nil=>simp at h6
   | cons e E=>simp
  rw [List.getElem?_append_left hE]
  exact h6
end Go.Proofs.YtohjmjlfmloiaaaDoor
