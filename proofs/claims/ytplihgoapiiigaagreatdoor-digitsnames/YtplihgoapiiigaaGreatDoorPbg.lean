/- Of what DigitsNamesRow stands on: DcMulBoth DcCmpV. -/
import Derived.Test.YtplihgoapiiigaaGreatDoorPaw
import Derived.Test.YtplihgoapiiigaaGreatDoorPat
import Derived.Test.YtplihgoapiiigaaGreatDoorPau
import Derived.Test.YtplihgoapiiigaaGreatDoorPaq
import Derived.Test.YtplihgoapiiigaaGreatDoorPaf
import Derived.Test.YtplihgoapiiigaaGreatDoorPaj
import Derived.Test.YtplihgoapiiigaaGreatDoorPai
import Derived.Test.YtplihgoapiiigaaGreatDoorPal
import Derived.Test.YtplihgoapiiigaaGreatDoorPad
import Derived.Test.YtplihgoapiiigaaGreatDoorPao
import Derived.Test.YtplihgoapiiigaaGreatDoorPag
import Derived.Test.YtplihgoapiiigaaGreatDoorPah
import Derived.Deep.LoopGhost
import Derived.Test.YtplihgoapiiigaaGreatDoorPbb
namespace Go.Proofs.YtplihgoapiiigaaGreatDoor
open Go.RowKit
theorem says_long {t:ByteArray} {n:Nat} (h:Says t n) (hl:65536 < t.size):tenTop 65536≤n:=by
 obtain ⟨ds,h1,h2,⟨l1,l2⟩,h4⟩:=h
 have hs:t.size = ds.length:=by
  have:=congrArg List.length h1
  simpa [chars] using this
 match ds,l1 with
 | d :: r,_=>
  rcases l2 with l2|l2
  ·rw [← h4]
   exact Nat.le_trans (tenTop_le (by simp at hs; omega)) (Pl.lead_low l2)
  ·omega
theorem val_pos {s:ByteArray} (hd:AllD s s.size) (h0:s.size≠0) (hc:Cd s.data.toList):0 < valS s:=by
 have hne:¬ ∀ (j:Nat) (hj:j < s.size),(s[j]'hj).toNat = 48:=fun h=>by
  have h1:=h (s.size - 1) (by omega)
  refine hc.2 (s[s.size - 1]'(by omega)) ?_ h1
  rw [List.getLast?_eq_getElem?,Array.length_toList,List.getElem?_eq_getElem (by rw [Array.length_toList]; exact Nat.sub_lt (Nat.pos_of_ne_zero h0) (by decide))]
  rfl
 obtain ⟨f,q,hfq,he⟩:=Ends.ex hne
 obtain ⟨n,z,_,h2,h3,_⟩:=core_of hd he hfq
 rw [h2]
 exact Nat.mul_pos (by omega) (Nat.pow_pos (by decide))
theorem dval_first:∀ {L M:List Nat} (k:Nat),Pl.Dig L→L.length = M.length→k < L.length→(∀ j,j < k→L[j]?.getD 0 = M[j]?.getD 0)→L[k]?.getD 0 < M[k]?.getD 0→Pl.dval L 0 < Pl.dval M 0:=by
 intro L
 induction L with
 | nil=>intro M k _ _ hk; simp at hk
 | cons a L ih=>
  intro M k hL hlen hk he hlt
  cases M with
  | nil=>simp at hlen
  | cons b M=>
   have hl2:L.length = M.length:=by simpa using hlen
   have hD:Pl.Dig L:=fun d hd=>hL d (List.mem_cons_of_mem _ hd)
   rw [Pl.dval_cons,Pl.dval_cons,hl2]
   cases k with
   | zero=>
    have hab:a < b:=by simpa using hlt
    have h1:=Pl.dval_lt hD
    rw [hl2] at h1
    have h2:(a+1) * 10 ^ M.length≤b * 10 ^ M.length:=Nat.mul_le_mul_right _ hab
    rw [Nat.add_mul] at h2
    omega
   | succ k=>
    have h0:a = b:=by simpa using he 0 (by omega)
    subst h0
    have h1:=ih k hD hl2 (by simpa using hk) (fun j hj=>by simpa using he (j+1) (by omega)) (by simpa using hlt)
    omega
theorem pad_get (s:ByteArray) (z k:Nat) (hd:AllD s s.size):(((digs s ++ List.replicate z 0)[k]?.getD 0:Nat):Int) = dl s.data.toList k:=by
 have hl:(digs s).length = s.data.toList.length:=by simp [digs]
 by_cases hk:k < s.data.toList.length
 ·have h48:=alld_mem.1 hd _ (List.getElem_mem hk)
  rw [List.getElem?_append_left (by omega)]
  unfold digs dl
  rw [List.getElem?_map,List.getElem?_eq_getElem hk]
  simp only [Option.map_some,Option.getD_some]
  omega
 ·rw [List.getElem?_append_right (by omega)]
  unfold dl
  rw [List.getElem?_eq_none (Nat.le_of_not_lt hk)]
  by_cases h2:k - (digs s).length < z
  ·rw [List.getElem?_replicate,if_pos h2]; rfl
  ·rw [List.getElem?_replicate,if_neg h2]; rfl
theorem pad_val (s:ByteArray) (z:Nat) (hd:AllD s s.size):Pl.dval (digs s ++ List.replicate z 0) 0 = valS s * 10 ^ z∧Pl.Dig (digs s ++ List.replicate z 0)∧(digs s ++ List.replicate z 0).length = s.size+z:=by
 obtain ⟨h1,h2,h3,_⟩:=told_val s 0 z hd
 rw [List.replicate_zero,List.nil_append] at h1 h2 h3
 exact ⟨h1,h2,by omega⟩
theorem cmpZ_lt {a b:Int} (h:a < b):cmpZ a b = -1:=by rw [cmpZ,if_pos h]
theorem cmpZ_gt {a b:Int} (h:b < a):cmpZ a b = 1:=by rw [cmpZ,if_neg (by omega),if_pos h]
theorem cmpZ_self (a:Int):cmpZ a a = 0:=by rw [cmpZ,if_neg (by omega),if_neg (by omega)]
theorem dgs_lt {s s2:ByteArray} {o1 o2 k:Nat} (hd:AllD s s.size) (hd2:AllD s2 s2.size) (hl:s.size+o1 = s2.size+o2) (he:∀ j,j < k→dl s.data.toList j = dl s2.data.toList j) (hlt:dl s.data.toList k < dl s2.data.toList k):valS s * 10 ^ o1 < valS s2 * 10 ^ o2:=by
 obtain ⟨a1,a2,a3⟩:=pad_val s o1 hd
 obtain ⟨b1,b2,b3⟩:=pad_val s2 o2 hd2
 rw [← a1,← b1]
 have hlt':(digs s ++ List.replicate o1 0)[k]?.getD 0 < (digs s2 ++ List.replicate o2 0)[k]?.getD 0:=by
  have h1:=pad_get s o1 k hd
  have h2:=pad_get s2 o2 k hd2
  omega
 refine dval_first k a2 (by omega) ?_ (fun j hj=>?_) hlt'
 ·by_cases hk:k < (digs s ++ List.replicate o1 0).length
  ·exact hk
  ·rw [List.getElem?_eq_none (l:=digs s2 ++ List.replicate o2 0) (by omega)] at hlt'
   simp at hlt'
 ·have h1:=pad_get s o1 j hd
  have h2:=pad_get s2 o2 j hd2
  have:=he j hj
  omega
theorem list_eq_of {L M:List Nat} (hl:L.length = M.length) (h:∀ k:Nat,L[k]?.getD 0 = M[k]?.getD 0):L = M:=by
 apply List.ext_getElem hl
 intro k h1 h2
 have:=h k
 rw [List.getElem?_eq_getElem h1,List.getElem?_eq_getElem h2] at this
 simpa using this
theorem cmpS_val {s s2:ByteArray} {o1 o2:Nat} (hd:AllD s s.size) (hd2:AllD s2 s2.size) (hc:Cd s.data.toList) (hc2:Cd s2.data.toList) (hl:s.size+o1 = s2.size+o2):cmpS s s2 = cmpZ ((valS s * 10 ^ o1:Nat):Int) ((valS s2 * 10 ^ o2:Nat):Int):=by
 have h:=fl3 _ _ hc hc2
 have e:cmpS s s2 = cmpL s.data.toList s2.data.toList:=by unfold cmpS cmpL; rw [ByteArray.toList_eq,ByteArray.toList_eq]
 rw [e]
 rcases h with ⟨h1,h2⟩|⟨k,h1,⟨h2,h3⟩|⟨h2,h3⟩⟩
 ·obtain ⟨a1,a2,a3⟩:=pad_val s o1 hd
  obtain ⟨b1,b2,b3⟩:=pad_val s2 o2 hd2
  have:digs s ++ List.replicate o1 0 = digs s2 ++ List.replicate o2 0:=list_eq_of (by omega) fun k=>by
   have p1:=pad_get s o1 k hd
   have p2:=pad_get s2 o2 k hd2
   have:=h2 k
   omega
  rw [h1,← a1,← b1,this,cmpZ_self]
 ·rw [h3,cmpZ_lt (by have:=dgs_lt hd hd2 hl h1 h2; omega)]
 ·rw [h3,cmpZ_gt (by have:=dgs_lt hd2 hd hl.symm (fun j hj=>(h1 j hj).symm) h2; omega)]
structure DcOk (s:ByteArray) (x:Int):Prop where
 sz:s.size≤65536
 ok:AllD s s.size
 lo:-1073741824≤x
 hi:x≤1073741824
 zero:s.size = 0→x = 0
 fst:∀ h:0 < s.size,(s[0]'h).toNat≠48
 cd:Cd s.data.toList
def dvl (g:Bool) (A:Nat):Int:=if g then -(A:Int) else (A:Int)
theorem cmpZ_in (a b:Int):cmpZ a b = -1∨cmpZ a b = 0∨cmpZ a b = 1:=by
 unfold cmpZ
 split
 ·exact Or.inl rfl
 ·split
  ·exact Or.inr (Or.inr rfl)
  ·exact Or.inr (Or.inl rfl)
end Go.Proofs.YtplihgoapiiigaaGreatDoor
