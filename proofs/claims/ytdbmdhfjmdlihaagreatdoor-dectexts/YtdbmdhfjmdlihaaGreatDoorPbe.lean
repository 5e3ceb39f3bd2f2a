/- Of what DecTextsRow stands on: DcOne. -/
import Derived.Test.YtdbmdhfjmdlihaaGreatDoorPaf
namespace Go.Proofs.YtdbmdhfjmdlihaaGreatDoor
open Go.RowKit
set_option maxHeartbeats 1000000
theorem dval_nines (k:Nat):Pl.dval (List.replicate k 9) 0+1 = 10 ^ k:=by
 induction k with
 | zero=>rfl
 | succ k ih=>
  rw [List.replicate_succ,Pl.dval_cons,List.length_replicate,Nat.pow_succ]
  omega
theorem dval_noughts (k:Nat):Pl.dval (List.replicate k 0) 0 = 0:=by
 induction k with
 | zero=>rfl
 | succ k ih=>rw [List.replicate_succ,Pl.dval_cons,ih]; omega
theorem raise {ds:List Nat} {q:Nat} (hq:q < ds.length) (h9:∀ j,q < j→j < ds.length→ds[j]?.getD 0 = 9):Pl.dval (ds.take q ++ (ds[q]?.getD 0+1) :: List.replicate (ds.length - 1 - q) 0) 0 = Pl.dval ds 0+1:=by
 obtain ⟨k,hk⟩:∃ k,ds.length - 1 - q = k:=⟨_,rfl⟩
 have e:ds = ds.take q ++ (ds[q]?.getD 0) :: List.replicate k 9:=by
  apply List.ext_getElem?
  intro i
  rcases Nat.lt_trichotomy i q with h|h|h
  ·rw [List.getElem?_append_left (by rw [List.length_take]; omega),List.getElem?_take,if_pos h]
  ·subst h
   rw [List.getElem?_append_right (by rw [List.length_take]; omega),List.length_take,Nat.min_eq_left (by omega),Nat.sub_self,List.getElem?_cons_zero,List.getElem?_eq_getElem hq]
   simp
  ·rw [List.getElem?_append_right (by rw [List.length_take]; omega),List.length_take,Nat.min_eq_left (by omega)]
   obtain ⟨j,rfl⟩:∃ j,i = q+1+j:=⟨i - q - 1,by omega⟩
   rw [show q+1+j - q = j+1 from by omega,List.getElem?_cons_succ,List.getElem?_replicate]
   by_cases hl:q+1+j < ds.length
   ·have:=h9 (q+1+j) (by omega) hl
    rw [List.getElem?_eq_getElem hl] at this ⊢
    rw [if_pos (by omega)]
    simpa using this
   ·rw [List.getElem?_eq_none (by omega),if_neg (by omega)]
 rw [hk]
 conv=>rhs; rw [e]
 rw [dval_append,dval_append,Pl.dval_cons,Pl.dval_cons,List.length_cons,List.length_cons,List.length_replicate,List.length_replicate,dval_noughts]
 have:=dval_nines k
 rw [Nat.add_mul]
 omega
def addTo (ds:List Nat) (q:Nat):List Nat:=ds.take (q+1) ++ List.replicate (ds.length - 1 - q) 0
theorem addOne_any (B n:Nat) (ds:List Nat) (w:World) (hn:Hid (ds.length = n)) (h0:0 < n) (hlen:n≤65536) (hd:Hid (Pl.Dig ds)) (hz:Hid (ds[0]?.getD 0 = 0)) (hrow:BRow w B (ds.map (48+·))) :
  Calls Tryz.prog 59 #[.slice (some ⟨B,0,none⟩) n n] w fun e w'=>e = .returned (.tuple #[])∧(∃ es:List Nat,es.length = n∧Pl.Dig es∧Pl.dval es 0 = Pl.dval ds 0+1∧BRow w' B (es.map (48+·)))∧Only B w w':=by
 go_enter Tryz.func59,Tryz.ntmps59
 go_wp2
 go_loopw [2] (fun i wr=>∃ q:Nat,q < n∧i = .int .i64 (q:Int)∧Hid (∀ j,q < j→j < ds.length→ds[j]?.getD 0 = 9)∧BRow wr B ((addTo ds q).map (48+·))∧Only B w wr) (fun i _=>(intOf i).toNat)
 case atStart=>
  have hl:=unhide hn
  refine ⟨n - 1,by omega,by congr 1; omega,hide fun j h1 h2=>absurd h2 (by omega),?_,Only.refl _ _⟩
  unfold addTo
  rw [List.take_of_length_le (by omega),show ds.length - 1 - (n - 1) = 0 from by omega]
  simpa using hrow
 case round=>
  obtain ⟨q,hq,rfl,H9,hR,hO⟩:=hrel
  have hl:=unhide hn
  obtain ⟨x,hx⟩:∃ x,x = ds[q]?.getD 0:=⟨_,rfl⟩
  have hxd:x < 10:=by
   rw [hx,List.getElem?_eq_getElem (by omega)]
   exact unhide hd _ (List.getElem_mem _)
  have hlq:(addTo ds q).length = n:=by unfold addTo; simp; omega
  have hat:((addTo ds q).map (48+·))[q]?.getD 0 = 48+x:=by
   unfold addTo
   rw [List.map_append,List.getElem?_append_left (by simp; omega),List.getElem?_map,List.getElem?_take,if_pos (by omega),hx,List.getElem?_eq_getElem (by omega)]
   simp
  have hc:=hR.cell q (by rw [List.length_map,hlq]; omega)
  rw [hat] at hc
  have hf:=hR.frozen q
  by_cases h9:x = 9
  ·subst h9
   obtain ⟨p,rfl⟩:∃ p,q = p+1:=by
    rcases q with _|p
    ·have:=unhide hz; omega
    ·exact ⟨p,rfl⟩
   have HN:Hid (∀ j,p < j→j < ds.length→ds[j]?.getD 0 = 9):=hide fun j h1 h2=>by
    rcases Nat.lt_or_ge (p+1) j with h|h
    ·exact unhide H9 j h h2
    ·obtain rfl:j = p+1:=by omega
     exact hx.symm
   have HR:=hide (hR.set (p+1) 48)
   have HE:Hid (((addTo ds (p+1)).map (48+·)).set (p+1) 48 = (addTo ds p).map (48+·)):=hide (by
    unfold addTo
    rw [show (48:Nat) = (48+·) 0 from rfl,← List.map_set]
    congr 1
    rw [List.set_append_left _ _ (by simp; omega),show ds.length - 1 - p = (ds.length - 1 - (p+1))+1 from by omega,List.replicate_succ]
    rw [show ds.take (p+1+1) = ds.take (p+1) ++ [ds[p+1]?.getD 0] from by
     rw [List.take_add_one,List.getElem?_eq_getElem (by omega)]; simp]
    rw [List.set_append_right _ _ (by rw [List.length_take]; omega),List.length_take,Nat.min_eq_left (by omega),Nat.sub_self]
    simp)
   have hpi:((p:Int)+1) - 1 = (p:Int):=by omega
   clear hat hx hR hl
   go_wp2
   go_roundw
   case rel=>
    refine ⟨p,by omega,by go_num,unhide HN,?_,hO.setCell _ _⟩
    have:=unhide HR
    rw [unhide HE] at this
    exact this
   case measure=>simp [intOf]
  ·have hb:((48:Int)+(x:Int) == 57) = false:=by rw [beq_eq_false_iff_ne]; omega
   have HR:=hide (hR.set q (49+x))
   have HE:Hid (((addTo ds q).map (48+·)).set q (49+x) = (ds.take q ++ (ds[q]?.getD 0+1) :: List.replicate (ds.length - 1 - q) 0).map (48+·)):=hide (by
    unfold addTo
    rw [show 49+x = (48+·) (x+1) from by show 49+x = 48+(x+1); omega,← List.map_set]
    congr 1
    rw [List.set_append_left _ _ (by simp; omega),show ds.take (q+1) = ds.take q ++ [ds[q]?.getD 0] from by
     rw [List.take_add_one,List.getElem?_eq_getElem (by omega)]; simp]
    rw [List.set_append_right _ _ (by rw [List.length_take]; omega),List.length_take,Nat.min_eq_left (by omega),Nat.sub_self,← hx]
    simp)
   have HV:Hid (Pl.dval (ds.take q ++ (ds[q]?.getD 0+1) :: List.replicate (ds.length - 1 - q) 0) 0 = Pl.dval ds 0+1):=hide (raise (by omega) (unhide H9))
   have HD:Hid (Pl.Dig (ds.take q ++ (ds[q]?.getD 0+1) :: List.replicate (ds.length - 1 - q) 0)):=hide (fun d9 h=>by
    rw [List.mem_append,List.mem_cons] at h
    rcases h with h|h|h
    ·exact unhide hd _ (List.mem_of_mem_take h)
    ·rw [h,← hx]; omega
    ·rw [List.eq_of_mem_replicate h]; omega)
   have HL:Hid ((ds.take q ++ (ds[q]?.getD 0+1) :: List.replicate (ds.length - 1 - q) 0).length = n):=hide (by simp; omega)
   have hw8:(48:Int)+(x:Int)+1 = 49+(x:Int):=by omega
   clear hat hx hR hl h9
   go_wp2
   go_end0
   refine ⟨rfl,⟨_,unhide HL,unhide HD,unhide HV,?_⟩,hO.setCell _ _⟩
   have:=unhide HR
   rw [unhide HE] at this
   exact this
end Go.Proofs.YtdbmdhfjmdlihaaGreatDoor
