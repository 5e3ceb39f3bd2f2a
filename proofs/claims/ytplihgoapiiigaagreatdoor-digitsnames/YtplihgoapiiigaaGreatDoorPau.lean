/- Of what DigitsNamesRow stands on: RefParse DcCan. -/
import Derived.Test.YtplihgoapiiigaaGreatDoorPal
import Derived.Test.YtplihgoapiiigaaGreatDoorPad
import Derived.Test.YtplihgoapiiigaaGreatDoorPao
import Derived.Test.YtplihgoapiiigaaGreatDoorPas
import Derived.Test.YtplihgoapiiigaaGreatDoorPat
import Derived.Test.YtplihgoapiiigaaGreatDoorPab
namespace Go.Proofs.YtplihgoapiiigaaGreatDoor
open Go.RowKit
theorem dval_take_add (ds:List Nat) (k j:Nat) (h:k+j≤ds.length):Pl.dval (ds.take (k+j)) 0 = Pl.dval (ds.take k) 0 * 10 ^ j+Pl.dval ((ds.drop k).take j) 0:=by
 rw [List.take_add,dval_append,List.length_take,List.length_drop,Nat.min_eq_left (by omega)]
def valS (u:ByteArray):Nat:=Pl.dval (digs u) 0
theorem says_dig {t:ByteArray} {ds:List Nat} (h:DigS t ds) (hl:Pl.Lead ds):Says t (Pl.dval ds 0):=by
 obtain ⟨h1,h2,h3⟩:=h
 refine ⟨ds,?_,h2,hl,rfl⟩
 apply List.ext_getElem?
 intro i
 unfold chars
 rw [List.getElem?_map]
 by_cases hi:i < t.size
 ·have hi2:i < t.data.toList.length:=by simpa using hi
  have hd:i < ds.length:=by omega
  have:=h3 i hi
  rw [List.getElem?_eq_getElem hi2,List.getElem?_eq_getElem hd]
  rw [List.getElem?_eq_getElem hd] at this
  simp only [Option.map_some,Option.some.injEq]
  apply UInt8.toNat_inj.1
  have e1:(t.data.toList[i]'hi2).toNat = (t[i]'hi).toNat:=by rw [Array.getElem_toList]; rfl
  have e2:=h2 _ (List.getElem_mem hd)
  rw [e1,this]
  simp
  omega
 ·rw [List.getElem?_eq_none (by simpa using hi),List.getElem?_eq_none (by omega)]; rfl
theorem dval_zero_of {ds:List Nat} (h:∀ j,j < ds.length→ds[j]?.getD 0 = 0):Pl.dval ds 0 = 0:=by
 have:=dval_zeros ds ds.length (Nat.le_refl _) h
 rw [List.drop_length] at this
 rw [← this]; rfl
theorem core_of {u:ByteArray} {f q:Nat} (hd:AllD u u.size) (he:Ends u f (q+1)) (hfq:f≤q):∃ n z:Nat,q+1+z = u.size∧valS u = n * 10 ^ z∧n % 10≠0∧Says (u.extract f (q+1)) n:=by
 have hhi:=he.hi
 obtain ⟨z,hz⟩:∃ z,q+1+z = u.size:=⟨u.size - (q+1),by omega⟩
 have hS:=hd.digS
 have hC:=hS.cut f (q+1) (by omega) hhi
 obtain ⟨l1,l2,l3⟩:=hS
 have at_:∀ j (h:j < u.size),(digs u)[j]?.getD 0 = (u[j]'h).toNat - 48:=fun j h=>by have:=l3 j h; omega
 obtain ⟨m,hm⟩:∃ m,q+1 - f = m+1:=⟨q - f,by omega⟩
 have hcl:(((digs u).drop f).take (q+1 - f)).length = m+1:=by rw [List.length_take,List.length_drop]; omega
 have cat:∀ i,i < m+1→(((digs u).drop f).take (q+1 - f))[i]?.getD 0 = (digs u)[f+i]?.getD 0:=fun i hi=>by rw [List.getElem?_take,if_pos (by omega),List.getElem?_drop]
 have a1:Pl.dval ((digs u).take (f+(q+1 - f))) 0 = Pl.dval (((digs u).drop f).take (q+1 - f)) 0:=by
  rw [dval_take_add _ _ _ (by omega),dval_zero_of (ds:=(digs u).take f)]
  ·omega
  ·intro j hj
   rw [List.length_take] at hj
   rw [List.getElem?_take,if_pos (by omega),at_ j (by omega),he.lo j (by omega) (by omega)]
 have a2:Pl.dval (digs u) 0 = Pl.dval ((digs u).take (f+(q+1 - f))) 0 * 10 ^ z:=by
  have:=dval_take_add (digs u) (q+1) z (by omega)
  rw [List.take_of_length_le (by omega),dval_zero_of (ds:=((digs u).drop (q+1)).take z)] at this
  ·rw [this,show f+(q+1 - f) = q+1 from by omega]; omega
  ·intro j hj
   rw [List.length_take,List.length_drop] at hj
   rw [List.getElem?_take,if_pos (by omega),List.getElem?_drop,at_ (q+1+j) (by omega),he.up (q+1+j) (by omega) (by omega)]
 rw [a1] at a2
 refine ⟨Pl.dval (((digs u).drop f).take (q+1 - f)) 0,z,hz,a2,?_,says_dig hC ?_⟩
 ·have:=dval_snoc (((digs u).drop f).take (q+1 - f)) m (by omega)
  rw [List.take_of_length_le (by omega)] at this
  rw [this,cat m (by omega),at_ (f+m) (by omega)]
  have e:f+m = q:=by omega
  have h1:=he.two (by omega) (by omega)
  have h2:=hd q (by omega) (by omega)
  have h3:(u[q+1 - 1]'(by omega)).toNat = (u[q]'(by omega)).toNat:=rfl
  rw [h3] at h1
  simp only [e]
  omega
 ·have h1:=he.one (by omega) (by omega)
  have h2:=hd f (by omega) (by omega)
  have h3:=(cat 0 (by omega)).trans (at_ f (by omega))
  generalize ((digs u).drop f).take (q+1 - f) = C at hcl h3
  match C,hcl with
  | c :: r,_=>
   simp at h3
   exact ⟨by simp,Or.inl (by simp; omega)⟩
theorem val_none {u:ByteArray} (hz:∀ (j:Nat) (hj:j < u.size),(u[j]'hj).toNat = 48):valS u = 0:=by
 refine dval_zero_of fun j hj=>?_
 have hl:(digs u).length = u.size:=by simp [digs]
 have hj':j < u.size:=by omega
 have hk2:j < u.data.toList.length:=by simpa using hj'
 simp only [digs,List.getElem?_map,List.getElem?_eq_getElem hk2]
 have e1:(u.data.toList[j]'hk2).toNat = (u[j]'hj').toNat:=by rw [Array.getElem_toList]; rfl
 have:=hz j hj'
 simp only [Option.map_some,Option.getD_some]
 omega
theorem tens_uniq {n z n' z':Nat} (h:n * 10 ^ z = n' * 10 ^ z') (h1:n % 10≠0) (h2:n' % 10≠0):n = n'∧z = z':=by
 have key:∀ {n z n' z':Nat},n * 10 ^ z = n' * 10 ^ z'→n % 10≠0→z≤z'→z = z':=fun {n z n' z'} h h1 hle=>by
  obtain ⟨k,rfl⟩:∃ k,z' = z+k:=⟨z' - z,by omega⟩
  rcases Nat.eq_zero_or_pos k with rfl|hk
  ·rfl
  ·obtain ⟨j,rfl⟩:∃ j,k = j+1:=⟨k - 1,by omega⟩
   have e:n' * 10 ^ (z+(j+1)) = n' * 10 ^ j * 10 * 10 ^ z:=by rw [Nat.pow_add,Nat.pow_succ]; ac_rfl
   rw [e] at h
   have:=Nat.eq_of_mul_eq_mul_right (Nat.pow_pos (by omega)) h
   omega
 have hz:z = z':=by
  rcases Nat.le_total z z' with q|q
  ·exact key h h1 q
  ·exact (key h.symm h2 q).symm
 subst hz
 exact ⟨Nat.eq_of_mul_eq_mul_right (Nat.pow_pos (by omega)) h,rfl⟩
def MkA (g:Bool) (N:Nat) (x:Int) (V:Value):Prop:=
 (N = 0∧V = .tuple #[.agg #[.bool g,.string ⟨#[]⟩,.int .i64 0],.int .i64 0]) ∨
 ∃ (t:ByteArray) (n z:Nat),N = n * 10 ^ z∧n % 10≠0∧Says t n ∧
  ((x+(z:Int) < -1073741824∨1073741824 < x+(z:Int))∧V = .tuple #[.agg #[.bool false,.string ⟨#[]⟩,.int .i64 0],.int .i64 4] ∨
   ¬ (x+(z:Int) < -1073741824∨1073741824 < x+(z:Int))∧V = .tuple #[.agg #[.bool g,.string t,.int .i64 (x+(z:Int))],.int .i64 0])
theorem MkA.uniq {g:Bool} {N:Nat} {x:Int} {V V':Value} (h:MkA g N x V) (h':MkA g N x V'):V = V':=by
 have pos:∀ {n z:Nat},n % 10≠0→n * 10 ^ z≠0:=fun {n z} h1 h2=>by
  have:=Nat.mul_pos (show 0 < n by omega) (Nat.pow_pos (n:=z) (show 0 < 10 by omega))
  omega
 rcases h with ⟨h0,rfl⟩|⟨t,n,z,hN,hn,hs,h⟩
 ·rcases h' with ⟨_,rfl⟩|⟨t',n',z',hN',hn',_,_⟩
  ·rfl
  ·exact absurd (hN'.symm.trans h0) (pos hn')
 ·rcases h' with ⟨h0,_⟩|⟨t',n',z',hN',hn',hs',h'⟩
  ·exact absurd (hN.symm.trans h0) (pos hn)
  ·obtain ⟨rfl,rfl⟩:=tens_uniq (hN.symm.trans hN') hn hn'
   obtain rfl:=says_eq hs hs'
   rcases h with ⟨a,rfl⟩|⟨a,rfl⟩ <;> rcases h' with ⟨b,rfl⟩|⟨b,rfl⟩
   ·rfl
   ·exact absurd a b
   ·exact absurd b a
   ·rfl
theorem mkA_of {g:Bool} {u:ByteArray} {x:Int} {f q:Nat} (hd:AllD u u.size) (he:Ends u f (q+1)) (hfq:f≤q) {V:Value} (h:(x+(u.size:Int) - ((q:Int)+1) < -1073741824∨1073741824 < x+(u.size:Int) - ((q:Int)+1))∧V = .tuple #[.agg #[.bool false,.string ⟨#[]⟩,.int .i64 0],.int .i64 4]∨¬ (x+(u.size:Int) - ((q:Int)+1) < -1073741824∨1073741824 < x+(u.size:Int) - ((q:Int)+1))∧V = .tuple #[.agg #[.bool g,.string (u.extract f (q+1)),.int .i64 (x+(u.size:Int) - ((q:Int)+1))],.int .i64 0]):MkA g (valS u) x V:=by
 obtain ⟨n,z,hz,hv,hn,hs⟩:=core_of hd he hfq
 have e:x+(u.size:Int) - ((q:Int)+1) = x+(z:Int):=by omega
 rw [e] at h
 exact Or.inr ⟨_,n,z,hv,hn,hs,h⟩
theorem dmake_c (g:Bool) (u:ByteArray) (x:Int) (hx0:-9223372036854775808≤x) (hx1:x < 9223372036854775808) (hm:u.size≤65536) (hd:AllD u u.size) :
  ∃ V,MkA g (valS u) x V∧∀ W:World,Calls Tryz.prog 20 #[.bool g,.string u,.int .i64 x] W fun e W'=>e = .returned V∧Below W.heap.size W W':=by
 have HA:Hid (∀ W:World,Calls Tryz.prog 38 #[.string u] W fun e W'=>e = .returned (.bool true)∧Below W.heap.size W W'):=hide fun W=>(allDigits_any u W hm).mono fun e W' h=>by
  rcases h with ⟨⟨h,_⟩|⟨_,h⟩,hb⟩
  ·exact ⟨h,hb⟩
  ·exact absurd hd h
 by_cases hz:∀ (j:Nat) (hj:j < u.size),(u[j]'hj).toNat = 48
 ·have HE:Hid (∀ W:World,Calls Tryz.prog 39 #[.string u] W fun e W'=>e = .returned (.tuple #[.int .i64 ((0:Nat):Int),.int .i64 ((0:Nat):Int)])∧Below W.heap.size W W'):=hide fun W=>(ends_any u W hm).mono fun e W' ⟨⟨f,t,h1,h2,h3⟩,hb⟩=>by
   rcases h3 with h3|⟨rfl,rfl⟩
   ·have:=h2.hi
    exact absurd (hz f (by omega)) (h2.one h3 (by omega))
   ·exact ⟨h1,hb⟩
  exact ⟨_,Or.inl ⟨val_none hz,rfl⟩,fun W=>make_zero W g u x 0 0 hm HA HE rfl⟩
 ·obtain ⟨f,q,hfq,he⟩:=Ends.ex hz
  have HE:Hid (∀ W:World,Calls Tryz.prog 39 #[.string u] W fun e W'=>e = .returned (.tuple #[.int .i64 (f:Int),.int .i64 ((q+1:Nat):Int)])∧Below W.heap.size W W'):=hide fun W=>(ends_any u W hm).mono fun e W' ⟨⟨f',t',h1,h2,h3⟩,hb⟩=>by
   obtain ⟨rfl,rfl⟩:=he.uniq h2 (by omega)
   exact ⟨h1,hb⟩
  have hhi:=he.hi
  obtain ⟨z,hzz⟩:∃ z,q+1+z = u.size:=⟨u.size - (q+1),by omega⟩
  have hsz:(u.extract f (q+1)).size≤281474976710656:=by rw [ByteArray.size_extract]; omega
  by_cases hfar:x+(u.size:Int) - ((q:Int)+1) < -1073741824∨1073741824 < x+(u.size:Int) - ((q:Int)+1)
  ·refine ⟨_,mkA_of hd he hfq (Or.inl ⟨hfar,rfl⟩),fun W=>make_far W g u x f (q+1) _ z hm HA HE (by omega) hhi rfl hzz (hide fun W=>?_)⟩
   rcases hfar with h|h
   ·exact placed_under W g _ z x (by omega) (by omega)
   ·exact placed_over W g _ z x (by omega) (by omega)
  ·exact ⟨_,mkA_of hd he hfq (Or.inr ⟨hfar,rfl⟩),fun W=>decmk_ok W g u x f (q+1) _ z (x+(u.size:Int) - ((q:Int)+1)) hm HA HE (by omega) hhi rfl hzz (hide fun W=>placed_ok W g _ z x _ (by omega) hsz (by omega) (by omega) (by omega))⟩
end Go.Proofs.YtplihgoapiiigaaGreatDoor
