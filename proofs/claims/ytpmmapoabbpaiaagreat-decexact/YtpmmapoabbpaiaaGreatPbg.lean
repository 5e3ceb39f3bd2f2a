/- Of what DecExactRow stands on: DcAddB. -/
import Derived.Test.YtpmmapoabbpaiaaGreatPal
import Derived.BigQuiet
namespace Go.Proofs.YtpmmapoabbpaiaaGreat
open Go.RowKit
set_option maxHeartbeats 1000000
def BT (w:World) (B:Nat) (zs:List Nat):Prop:=∃ tl:Array Value,w.heap[B]? = some (.cells (bc zs ++ tl) 5 (0,0))
theorem bc_at' (zs:List Nat) (tl:Array Value) (j:Nat) (h:j < zs.length):(bc zs ++ tl)[j]? = some (.int .u8 ((zs[j]?.getD 0:Nat):Int)):=by
 rw [Array.getElem?_append_left (by rw [size_bc]; exact h),bc_at zs j h]
theorem BT.cell {w:World} {B:Nat} {zs:List Nat} (h:BT w B zs) (j:Nat) (hj:j < zs.length):w.cell? ⟨B,j,none⟩ = some (.int .u8 ((zs[j]?.getD 0:Nat):Int)):=by
 obtain ⟨tl,h⟩:=h
 rw [cell_of_row w B j _ _ _ h,bc_at' zs tl j hj]
theorem BT.frozen {w:World} {B:Nat} {zs:List Nat} (h:BT w B zs) (j:Nat):w.frozen? ⟨B,j,none⟩ = false:=by
 obtain ⟨tl,h⟩:=h
 exact frozen_of_row w B j _ _ h
theorem BT.set {w:World} {B:Nat} {zs:List Nat} (h:BT w B zs) (j v:Nat) (hj:j < zs.length):BT (w.setCell ⟨B,j,none⟩ (.int .u8 (v:Int))) B (zs.set j v):=by
 obtain ⟨tl,h⟩:=h
 exact ⟨tl,by rw [heap_setCell_same w B j _ _ _ h,Array.setIfInBounds_append_left (by rw [size_bc]; exact hj),bc_set]⟩
theorem BT.only {w w':World} {B C:Nat} {zs:List Nat} (h:BT w B zs) (k:Only C w w') (hne:B≠C):BT w' B zs:=by
 obtain ⟨tl,h⟩:=h
 exact ⟨tl,by rw [k.block B hne]; exact h⟩
theorem BT.below {w w':World} {B:Nat} {zs:List Nat} (h:BT w B zs) (k:Below w.heap.size w w'):BT w' B zs:=by
 obtain ⟨tl,h⟩:=h
 exact ⟨tl,by rw [k.block B (block_lt h)]; exact h⟩
theorem addB_any (B C n:Nat) (ds es:List Nat) (w:World) (hn:Hid (ds.length = n)) (hn2:Hid (es.length = n)) (hlen:n≤65537) (hd:Hid (Pl.Dig ds)) (he:Hid (Pl.Dig es)) (hne:C≠B) (hrow:BT w B (ds.map (48+·))) (hrow2:BT w C (es.map (48+·))) :
  Calls Tryz.prog 41 #[.slice (some ⟨B,0,none⟩) n n,.slice (some ⟨C,0,none⟩) n n] w fun e w'=>e = .returned (.tuple #[])∧(∃ (fs:List Nat) (c:Nat),fs.length = n∧Pl.Dig fs∧c≤1∧Pl.dval fs 0+c * 10 ^ n = Pl.dval ds 0+Pl.dval es 0∧BT w' B (fs.map (48+·)))∧Only B w w':=by
 go_enter Tryz.func41,Tryz.ntmps41
 go_wp2
 go_loopw [4,5] (fun t i wr=>∃ (q c:Nat) (fs:List Nat),q≤n∧i = .int .i64 ((q:Int) - 1)∧t = .int .u8 (c:Int)∧c≤1∧Hid (fs.length+q = n)∧Hid (Pl.Dig fs)∧Hid (Pl.dval fs 0+c * 10 ^ fs.length = Pl.dval (ds.drop q) 0+Pl.dval (es.drop q) 0)∧BT wr B ((ds.take q ++ fs).map (48+·))∧Only B w wr) (fun _ i _=>(intOf i+1).toNat)
 case atStart=>
  have hl:=unhide hn
  have hl2:=unhide hn2
  refine ⟨n,0,[],Nat.le_refl _,rfl,rfl,by decide,hide (by simp),hide (fun _ h=>nomatch h),hide ?_,?_,Only.refl _ _⟩
  ·rw [List.drop_eq_nil_of_le (by omega),List.drop_eq_nil_of_le (by omega)]; rfl
  ·rw [List.take_of_length_le (by omega),List.append_nil]; exact hrow
 case round=>
  obtain ⟨q,c,fs,hq,rfl,rfl,hc1,HL,HG,HV,hR,hO⟩:=hrel
  rcases q with _|q
  ·have HR:=hide hR
   clear hR
   go_wp2
   go_end0
   refine ⟨rfl,⟨fs,c,unhide HL,unhide HG,hc1,?_,?_⟩,hO⟩
   ·have h1:=unhide HV
    have h2:=unhide HL
    rw [List.drop_zero,List.drop_zero,show fs.length = n from h2] at h1
    exact h1
   ·have h1:=unhide HR
    rw [List.take_zero,List.nil_append] at h1
    exact h1
  ·have hl:=unhide hn
   have hl2:=unhide hn2
   have hfl:=unhide HL
   obtain ⟨x,hx⟩:∃ x,x = ds[q]?.getD 0:=⟨_,rfl⟩
   obtain ⟨y,hy⟩:∃ y,y = es[q]?.getD 0:=⟨_,rfl⟩
   have hx9:x < 10:=by
    rw [hx,List.getElem?_eq_getElem (by omega)]
    exact unhide hd _ (List.getElem_mem _)
   have hy9:y < 10:=by
    rw [hy,List.getElem?_eq_getElem (by omega)]
    exact unhide he _ (List.getElem_mem _)
   have hc:=hR.cell q (by simp; omega)
   have hat:((ds.take (q+1) ++ fs).map (48+·))[q]?.getD 0 = 48+x:=by
    rw [List.map_append,List.getElem?_append_left (by simp; omega),List.getElem?_map,List.getElem?_take,if_pos (by omega),hx,List.getElem?_eq_getElem (by omega)]
    simp
   rw [hat] at hc
   have hk:=(hrow2.only hO hne).cell q (by simp; omega)
   have hat2:(es.map (48+·))[q]?.getD 0 = 48+y:=by
    rw [List.getElem?_map,hy,List.getElem?_eq_getElem (by omega)]
    simp
   rw [hat2] at hk
   have hf:=hR.frozen q
   have HRR:=hide hR
   have HX:Hid (ds.drop q = x :: ds.drop (q+1)):=hide (by rw [hx,List.getElem?_eq_getElem (by omega)]; exact List.drop_eq_getElem_cons (by omega))
   have HY:Hid (es.drop q = y :: es.drop (q+1)):=hide (by rw [hy,List.getElem?_eq_getElem (by omega)]; exact List.drop_eq_getElem_cons (by omega))
   have HL1:Hid ((ds.drop (q+1)).length = fs.length):=hide (by rw [List.length_drop]; omega)
   have HL2:Hid ((es.drop (q+1)).length = fs.length):=hide (by rw [List.length_drop]; omega)
   rw [show ((q+1:Nat):Int) - 1 = (q:Int) from by omega]
   have hc':wr.cell? ⟨B,q,none⟩ = some (.int .u8 (48+(x:Int))):=by rw [hc]; congr 2
   have hk':wr.cell? ⟨C,q,none⟩ = some (.int .u8 (48+(y:Int))):=by rw [hk]; congr 2
   clear hc hk hat hat2 hx hy hR hrow hrow2 hl hl2 hfl
   go_wp2_with fail
   go_quiet (fail)
   have hRq:BT (wr.drewN nq) B ((ds.take (q+1) ++ fs).map (48+·)):=unhide HRR
   have hOq:Only B w (wr.drewN nq):=⟨hO.os,hO.tape,hO.output,hO.size,hO.block⟩
   have hfq:(wr.drewN nq).frozen? ⟨B,q,none⟩ = false:=hf
   have hcq:(wr.drewN nq).cell? ⟨B,q,none⟩ = some (.int .u8 (48+(x:Int))):=hc'
   generalize wr.drewN nq = wq at hRq hOq hfq hcq ⊢
   have hl:=unhide hn
   have hl2:=unhide hn2
   have hfl:=unhide HL
   have HR:Hid (∀ v,BT (wq.setCell ⟨B,q,none⟩ (.int .u8 ((48+v:Nat):Int))) B ((ds.take q ++ v :: fs).map (48+·))):=hide fun v=>by
    have h1:=hRq.set q (48+v) (by simp; omega)
    have e:((ds.take (q+1) ++ fs).map (48+·)).set q (48+v) = (ds.take q ++ v :: fs).map (48+·):=by
     rw [show 48+v = (48+·) v from rfl,← List.map_set]
     congr 1
     rw [List.set_append_left _ _ (by simp; omega),show ds.take (q+1) = ds.take q ++ [ds[q]?.getD 0] from by
      rw [List.take_add_one,List.getElem?_eq_getElem (by omega)]; simp]
     rw [List.set_append_right _ _ (by rw [List.length_take]; omega),List.length_take,Nat.min_eq_left (by omega),Nat.sub_self]
     simp
    rw [e] at h1
    exact h1
   clear hRq hl hl2 hfl hf hO
   go_wp2
   go_roundw
   case rel=>
    obtain ⟨r,k,hrk,hr,hk⟩:∃ r k:Nat,x+y+c = k * 10+r∧r < 10∧k≤1:=⟨(x+y+c) % 10,(x+y+c) / 10,by omega,by omega,by omega⟩
    have e1:((48:Int)+(x:Int) - 48+(48+(y:Int)) - 48+(c:Int)) / 10 = (k:Int):=by omega
    have e2:(48:Int)+((48:Int)+(x:Int) - 48+(48+(y:Int)) - 48+(c:Int)) % 10 = ((48+r:Nat):Int):=by omega
    rw [e1,e2]
    refine ⟨q,k,r :: fs,by omega,rfl,rfl,hk,hide (by have:=unhide HL; simp; omega),hide (fun d9 h=>?_),hide ?_,unhide HR r,hOq.setCell _ _⟩
    ·rcases List.mem_cons.1 h with h|h
     ·omega
     ·exact unhide HG d9 h
    ·have hv:=unhide HV
     rw [unhide HX,unhide HY,Pl.dval_cons,Pl.dval_cons,Pl.dval_cons,List.length_cons,Nat.pow_succ,unhide HL1,unhide HL2]
     generalize 10 ^ fs.length = T at hv ⊢
     have h1:=congrArg (· * T) hrk
     simp only [Nat.add_mul] at h1
     have h2:k * 10 * T = k * (T * 10):=by rw [Nat.mul_assoc,Nat.mul_comm 10 T]
     omega
   case measure=>simp [intOf]
theorem takeB_any (B C n:Nat) (ds es:List Nat) (w:World) (hn:Hid (ds.length = n)) (hn2:Hid (es.length = n)) (hlen:n≤65537) (hd:Hid (Pl.Dig ds)) (he:Hid (Pl.Dig es)) (hne:C≠B) (hrow:BT w B (ds.map (48+·))) (hrow2:BT w C (es.map (48+·))) :
  Calls Tryz.prog 83 #[.slice (some ⟨B,0,none⟩) n n,.slice (some ⟨C,0,none⟩) n n] w fun e w'=>e = .returned (.tuple #[])∧(∃ (fs:List Nat) (c:Nat),fs.length = n∧Pl.Dig fs∧c≤1∧Pl.dval fs 0+c * 10 ^ n+Pl.dval es 0 = Pl.dval ds 0+10 ^ n∧BT w' B (fs.map (48+·)))∧Only B w w':=by
 go_enter Tryz.func83,Tryz.ntmps83
 go_wp2
 go_loopw [4,5] (fun t i wr=>∃ (q c:Nat) (fs:List Nat),q≤n∧i = .int .i64 ((q:Int) - 1)∧t = .int .u8 (c:Int)∧c≤1∧Hid (fs.length+q = n)∧Hid (Pl.Dig fs)∧Hid (Pl.dval fs 0+c * 10 ^ fs.length+Pl.dval (es.drop q) 0 = Pl.dval (ds.drop q) 0+10 ^ fs.length)∧BT wr B ((ds.take q ++ fs).map (48+·))∧Only B w wr) (fun _ i _=>(intOf i+1).toNat)
 case atStart=>
  have hl:=unhide hn
  have hl2:=unhide hn2
  refine ⟨n,1,[],Nat.le_refl _,rfl,rfl,by decide,hide (by simp),hide (fun _ h=>nomatch h),hide ?_,?_,Only.refl _ _⟩
  ·rw [List.drop_eq_nil_of_le (by omega),List.drop_eq_nil_of_le (by omega)]; rfl
  ·rw [List.take_of_length_le (by omega),List.append_nil]; exact hrow
 case round=>
  obtain ⟨q,c,fs,hq,rfl,rfl,hc1,HL,HG,HV,hR,hO⟩:=hrel
  rcases q with _|q
  ·have HR:=hide hR
   clear hR
   go_wp2
   go_end0
   refine ⟨rfl,⟨fs,c,unhide HL,unhide HG,hc1,?_,?_⟩,hO⟩
   ·have h1:=unhide HV
    have h2:=unhide HL
    rw [List.drop_zero,List.drop_zero,show fs.length = n from h2] at h1
    exact h1
   ·have h1:=unhide HR
    rw [List.take_zero,List.nil_append] at h1
    exact h1
  ·have hl:=unhide hn
   have hl2:=unhide hn2
   have hfl:=unhide HL
   obtain ⟨x,hx⟩:∃ x,x = ds[q]?.getD 0:=⟨_,rfl⟩
   obtain ⟨y,hy⟩:∃ y,y = es[q]?.getD 0:=⟨_,rfl⟩
   have hx9:x < 10:=by
    rw [hx,List.getElem?_eq_getElem (by omega)]
    exact unhide hd _ (List.getElem_mem _)
   have hy9:y < 10:=by
    rw [hy,List.getElem?_eq_getElem (by omega)]
    exact unhide he _ (List.getElem_mem _)
   have hc:=hR.cell q (by simp; omega)
   have hat:((ds.take (q+1) ++ fs).map (48+·))[q]?.getD 0 = 48+x:=by
    rw [List.map_append,List.getElem?_append_left (by simp; omega),List.getElem?_map,List.getElem?_take,if_pos (by omega),hx,List.getElem?_eq_getElem (by omega)]
    simp
   rw [hat] at hc
   have hk:=(hrow2.only hO hne).cell q (by simp; omega)
   have hat2:(es.map (48+·))[q]?.getD 0 = 48+y:=by
    rw [List.getElem?_map,hy,List.getElem?_eq_getElem (by omega)]
    simp
   rw [hat2] at hk
   have hf:=hR.frozen q
   have HRR:=hide hR
   have HX:Hid (ds.drop q = x :: ds.drop (q+1)):=hide (by rw [hx,List.getElem?_eq_getElem (by omega)]; exact List.drop_eq_getElem_cons (by omega))
   have HY:Hid (es.drop q = y :: es.drop (q+1)):=hide (by rw [hy,List.getElem?_eq_getElem (by omega)]; exact List.drop_eq_getElem_cons (by omega))
   have HL1:Hid ((ds.drop (q+1)).length = fs.length):=hide (by rw [List.length_drop]; omega)
   have HL2:Hid ((es.drop (q+1)).length = fs.length):=hide (by rw [List.length_drop]; omega)
   rw [show ((q+1:Nat):Int) - 1 = (q:Int) from by omega]
   have hc':wr.cell? ⟨B,q,none⟩ = some (.int .u8 (48+(x:Int))):=by rw [hc]; congr 2
   have hk':wr.cell? ⟨C,q,none⟩ = some (.int .u8 (48+(y:Int))):=by rw [hk]; congr 2
   clear hc hk hat hat2 hx hy hR hrow hrow2 hl hl2 hfl
   go_wp2_with fail
   go_quiet (fail)
   have hRq:BT (wr.drewN nq) B ((ds.take (q+1) ++ fs).map (48+·)):=unhide HRR
   have hOq:Only B w (wr.drewN nq):=⟨hO.os,hO.tape,hO.output,hO.size,hO.block⟩
   have hfq:(wr.drewN nq).frozen? ⟨B,q,none⟩ = false:=hf
   have hcq:(wr.drewN nq).cell? ⟨B,q,none⟩ = some (.int .u8 (48+(x:Int))):=hc'
   generalize wr.drewN nq = wq at hRq hOq hfq hcq ⊢
   have hl:=unhide hn
   have hl2:=unhide hn2
   have hfl:=unhide HL
   have HR:Hid (∀ v,BT (wq.setCell ⟨B,q,none⟩ (.int .u8 ((48+v:Nat):Int))) B ((ds.take q ++ v :: fs).map (48+·))):=hide fun v=>by
    have h1:=hRq.set q (48+v) (by simp; omega)
    have e:((ds.take (q+1) ++ fs).map (48+·)).set q (48+v) = (ds.take q ++ v :: fs).map (48+·):=by
     rw [show 48+v = (48+·) v from rfl,← List.map_set]
     congr 1
     rw [List.set_append_left _ _ (by simp; omega),show ds.take (q+1) = ds.take q ++ [ds[q]?.getD 0] from by
      rw [List.take_add_one,List.getElem?_eq_getElem (by omega)]; simp]
     rw [List.set_append_right _ _ (by rw [List.length_take]; omega),List.length_take,Nat.min_eq_left (by omega),Nat.sub_self]
     simp
    rw [e] at h1
    exact h1
   clear hRq hl hl2 hfl hf hO
   go_wp2
   go_roundw
   case rel=>
    obtain ⟨r,k,hrk,hr,hk⟩:∃ r k:Nat,x+9+c = k * 10+r+y∧r < 10∧k≤1:=⟨(x+9+c - y) % 10,(x+9+c - y) / 10,by omega,by omega,by omega⟩
    have e1:((48:Int)+(x:Int) - 48+57 - (48+(y:Int))+(c:Int)) / 10 = (k:Int):=by omega
    have e2:(48:Int)+((48:Int)+(x:Int) - 48+57 - (48+(y:Int))+(c:Int)) % 10 = ((48+r:Nat):Int):=by omega
    rw [e1,e2]
    refine ⟨q,k,r :: fs,by omega,rfl,rfl,hk,hide (by have:=unhide HL; simp; omega),hide (fun d9 h=>?_),hide ?_,unhide HR r,hOq.setCell _ _⟩
    ·rcases List.mem_cons.1 h with h|h
     ·omega
     ·exact unhide HG d9 h
    ·have hv:=unhide HV
     rw [unhide HX,unhide HY,Pl.dval_cons,Pl.dval_cons,Pl.dval_cons,List.length_cons,Nat.pow_succ,unhide HL1,unhide HL2]
     generalize 10 ^ fs.length = T at hv ⊢
     have h1:=congrArg (· * T) hrk
     simp only [Nat.add_mul] at h1
     have h2:k * 10 * T = k * (T * 10):=by rw [Nat.mul_assoc,Nat.mul_comm 10 T]
     omega
   case measure=>simp [intOf]
end Go.Proofs.YtpmmapoabbpaiaaGreat
