/- Of what NearRoundsRow stands on: Add. -/
import Derived.Test.YtaidedkpfnidpaaGreatDoorPad
import Derived.BigQuiet
import Derived.Laws.CopyOwn
import Derived.Deep.Cut
namespace Go.Proofs.YtaidedkpfnidpaaGreatDoor
open Go.RowKit
set_option maxHeartbeats 1000000
theorem Tryz.size_limb:(Tryz.prog.info? 42).map (·.size)=some 1:=by kernel_rfl
theorem aQ.only{w w':World}{p C:Nat}{v:Value}(h:aQ w p v)(k:Only C w w')(hne:p≠C):aQ w' p v:=by
 unfold aQ;rw [k.block p hne];exact h
theorem jZ(B p n m cap cap':Nat)(a:Option Addr)(pre d post xs:List Nat)(w:World)(hp:pre.length=p)(hd:d.length=n)(hx:xs.length=m)(hmn:m≤n)(hlen:n≤40000)(hne:∀b off,a=some ⟨b,off,none⟩→0<xs.length→b≠B)(wd:Pl.Wf d)(wx:Pl.Wf xs)(hrow:Row w B (pre++d++post))(hl:bE w a xs) :
  Calls Tryz.prog 158 #[.slice (some ⟨B,p,none⟩) n cap,.slice a m cap'] w
   fun e w'=>∃(out:List Nat) (c:Nat),e = .returned (.bool (c != 0))∧out.length=n∧Pl.Wf out∧c≤1∧Pl.val out+4294967296^n*c=Pl.val d+Pl.val xs∧Row w' B (pre++out++post)∧Only B w w':=by
 rcases hl.parts with h0|⟨h0,b,off,rfl,_,hc⟩
 ·subst h0;obtain rfl:m=0:=by rw [←hx];rfl
  exact uL B p n cap cap' a pre d post w (hide hp) (hide hd) hlen wd hrow
 ·exact lW B p n b off m cap cap' pre d post xs w (hide hp) (hide hd) (hide hx) hmn hlen (hne b off rfl h0) wd wx hrow (fun j hj=>hc j (by omega))
theorem Ac{X Y O P R c:Nat}(hX:X<P)(hY:Y<R)(hR:R≤P)(h:O+P*4294967296*c=X+Y):O=X+Y:=by
 cases c with
 | zero=>rw [Nat.mul_zero,Nat.add_zero] at h;exact h
 | succ c=>
  have h6:P*4294967296*1≤P*4294967296*(c+1):=Nat.mul_le_mul_left _ (Nat.le_add_left 1 c);omega
theorem nP{X Y O n k c:Nat}(hX:X<4294967296^n)(hY:Y<4294967296^k)(hk:k≤n)(h:O+4294967296^(n+1)*c=X+Y):O=X+Y:=
 Ac hX hY (Pl.pow_le hk) (by rw [←Nat.pow_succ];exact h)
theorem nH(w:World)(a:Option Addr)(n cap:Nat)(xs:List Nat)(hn:xs.length=n)(hl:bE w a xs)(hb:n≤16384) :
  ∃w2,(Builtin.copy_ #[25,25] 3 #[.slice (some ⟨w.heap.size,0,none⟩) (n+1) (n+1),.slice a n cap]).run Tryz.prog (w.alloc (.cells (lc (List.replicate (n+1) 0)) 42)) = .ok (.int .i64 (n:Int)) w2 ∧
   Row w2 w.heap.size ([]++(xs ++ [0]) ++ [])∧Below w.heap.size w w2:=by
 rcases hl.parts with hx|⟨hp,b,off,rfl,hlt,hc⟩
 ·subst hx;obtain rfl:n=0:=by rw [←hn];rfl
  exact ⟨_,run_copy_none (P:=Tryz.prog) _ 25 25 3 42 _ a _ _ 0 cap Tryz.under_limbs Tryz.size_limb (by simp),Row.made w [0],ah _ _⟩
 ·have hg:=heap_alloc_new w (.cells (lc (List.replicate (n+1) 0)) 42);have hrun:=run_copy_row (P:=Tryz.prog) (w.alloc (.cells (lc (List.replicate (n+1) 0)) 42)) 25 25 3 42 w.heap.size 0 (n+1) (n+1) ⟨b,off,none⟩ n cap (lc (List.replicate (n+1) 0)) 42 (xs.map (fun z:Nat=>Value.int .u32 (z:Int))) Tryz.under_limbs Tryz.size_limb hg
   (by rw [List.length_map,hn];exact (Nat.min_eq_left (by omega)).symm)
   (fun j v hj=>by
    have hjn:j<xs.length:=by have:=(List.getElem?_eq_some_iff.1 hj).1;simpa using this
    have hv:v = .int .u32 ((xs[j]?.getD 0:Nat):Int):=by
     rw [List.getElem?_map,List.getElem?_eq_getElem hjn] at hj;simp at hj;rw [←hj];simp [hjn]
    rw [hv,Addr.add_lit,(ah w _).cell (by exact hlt)];exact hc j hjn)
   (by rw [List.length_map,lX,List.length_replicate,hn];omega)
   (fun u hu=>by obtain ⟨z,_,rfl⟩:=List.mem_map.1 hu;rfl)
  rw [List.length_map,hn] at hrun;refine ⟨_,hrun,⟨#[],?_⟩,below_setRow (ah _ _) (Nat.le_refl _) _⟩;rw [setRow_heap _ _ _ _ _ _ hg];simp only [lc,List.take_zero,List.nil_append,Nat.zero_add,List.append_nil];rw [←List.map_drop,List.drop_replicate,←List.map_append];simp
theorem FR(a a':Option Addr)(n n' cap cap':Nat)(xs ys:List Nat)(w:World)(hn:Hid (xs.length=n))(hn':Hid (ys.length=n'))(hl:bE w a xs)(hl':bE w a' ys)(hw:Pl.Wf xs)(hw':Pl.Wf ys)(hN:Pl.Norm xs)(hN':Pl.Norm ys)(hb:n≤16384)(hb':n'≤16384)(hlt:n'<n) :
  Calls Tryz.prog 148 #[.agg #[.slice a n cap],.agg #[.slice a' n' cap']] w fun e w'=>ib w' w.heap.size e (Pl.val xs+Pl.val ys)∧Below w.heap.size w w':=by
 have hck:=fun (o1 o2 o3:Obj)=>bq a a' cap cap' xs ys (((w.alloc o1).alloc o2).alloc o3) (by rw [aa hn];omega) (by rw [aa hn'];omega) (((hl.alloc _).alloc _).alloc _) (((hl'.alloc _).alloc _).alloc _);rw [aa hn,aa hn',eB (bC (by rw [aa hn];omega) hN) (bC (by rw [aa hn'];omega) hN')] at hck;have HK:=hide hck;clear hck;have hmk:=dA ((n:Int)+1) (n+1) (by omega) (by omega);have HQ:=hide (And.intro (show n'≤n+1 by omega) (show n+1≤40000 by omega));go_enter Tryz.func148,Tryz.ntmps148
 go_wp2_with fail
 refine (aa HK _ _ _).mono ?_;rintro e w1 ⟨rfl,hb1⟩;obtain ⟨hc1,hf1⟩:=bO hb1;have hby:=(aQ.made ((w.alloc (.cells #[.slice a n cap] 27)).alloc (.cells #[.slice a' n' cap'] 27)) (.slice none 0 0)).kept hb1;simp only [World.size_alloc] at hby
 have hB:=hide (ai (ai (ai (ah w (.cells #[.slice a n cap] 27)) (ah _ (.cells #[.slice a' n' cap'] 27))) (ah _ (.cells #[.slice none 0 0] 27))) hb1);clear hb1 HK;go_wp2_with fail
 go_quiet (fail)
 have hBq:=hide (below_drewN (aa hB) nq);have hbq:aQ (w1.drewN nq) (w.heap.size+1+1) (.slice none 0 0):=hby
 clear hB hby hc1 hf1;generalize w1.drewN nq=wq at *;have hsq:w.heap.size≤wq.heap.size:=(aa hBq).size;have hlL:=hl.below (aa hBq);have hlS:=hl'.below (aa hBq);have HL:=hide hlL;have HS:=hide hlS;have HX:=hide hbq;clear hl hl' hlL hlS hbq;obtain ⟨w2,hcp,hr2,hb2⟩:=nH wq a n cap xs (aa hn) (aa HL) (by omega);have hS2:=(aa HS).below hb2;have hX2:=(aa HX).kept hb2;have HB2:=hide (ai (aa hBq) hb2);have hz2:wq.heap.size≤w2.heap.size:=hb2.size;have hxlt:=(aa HX).lt;have hlb:∀b off,a'=some ⟨b,off,none⟩→0<ys.length→b≠wq.heap.size:=by
  intro b off e h0 hbb;rcases (aa HS).parts with hx|⟨_,b2,off2,ha,hblt,_⟩
  ·rw [hx] at h0;simp at h0
  ·rw [ha] at e;injection e with e;injection e with e1;omega
 have HLB:=hide hlb;have hd1:decide (n<n')=false:=by simp;omega
 have HA:=hide (And.intro hlt (And.intro hb' (And.intro hz2 (And.intro hxlt hsq))));clear hb2 hlb hlt hb' hz2 hxlt hsq
 go_upto_region 7 with fail
 go_wp2_with fail
 obtain ⟨hlt,hb',hz2,hxlt,hsq⟩:=aa HA;refine (jZ wq.heap.size 0 (n+1) n' _ _ a' [] (xs ++ [0]) [] ys w2 rfl (by rw [List.length_append,aa hn];rfl) (aa hn') (aa HQ).1 (aa HQ).2 (aa HLB) (Pl.wf_append hw (Pl.wf_one (by decide))) hw' hr2 hS2).mono ?_;clear hmk hcp;rintro e w3 ⟨out,c,rfl,hol,how,hc1,hval,hr3,ho3⟩;have hv3:Pl.val out=Pl.val xs+Pl.val ys:=by
  rw [Pl.val_append,Pl.val_one,Nat.mul_zero,Nat.add_zero] at hval;have h1:=Pl.val_lt hw;have h2:=Pl.val_lt hw';rw [aa hn] at h1;rw [aa hn'] at h2;exact nP h1 h2 (Nat.le_of_lt hlt) hval
 have hX3:=aQ.only hX2 ho3 (Nat.ne_of_lt hxlt);have HB3:=hide (ho3.below (aa HB2) hsq);have hr3':Row w3 wq.heap.size out:=by simpa using hr3
 have HV:=hide hv3;clear hval hr3 ho3 hX2 hr2 hS2 hv3 HB2;go_wp2_with fail
 refine (gI wq.heap.size wq.heap.size (n+1) (n+1) out w3 hol hr3' (Nat.le_refl _) (Nat.le_refl _) (aa HQ).2 how).mono ?_;rintro e w4 ⟨hans,hb4⟩;rw [aa HV] at hans;have hX4:=hX3.kept hb4;have hcx:=hX4.cell;have hfx:=hX4.frozen;have HB4:=hide (ai (aa HB3) hb4);rcases hans with ⟨a5,n5,c5,rfl,hm⟩|⟨rfl,hm⟩
 ·have HM:=hide (hm.mono hsq);clear hm hb4;go_wp2
  exact bodyPost_ret (v:=.tuple #[.agg #[.slice a5 n5 c5],.int .i64 0]) (by simp [results,Tryz.results148,go_sem,hcx]) rfl ⟨Or.inl ⟨_,_,_,rfl,(aa HM).setBox hX4 _⟩,(aa HB4).setCell (Nat.le_add_right _ 2) _⟩
 ·have HM:=hide hm;clear hm hb4;go_wp2
  exact bodyPost_ret (v:=.tuple #[.agg #[.slice none 0 0],.int .i64 4]) (by simp [results,Tryz.results148,go_sem,hcx]) rfl ⟨Or.inr ⟨rfl,aa HM⟩,(aa HB4).setCell (Nat.le_add_right _ 2) _⟩
theorem F8(a a':Option Addr)(n cap cap':Nat)(xs ys:List Nat)(w:World)(hn:Hid (xs.length=n))(hn':Hid (ys.length=n))(hl:bE w a xs)(hl':bE w a' ys)(hw:Pl.Wf xs)(hw':Pl.Wf ys)(hN:Pl.Norm xs)(hN':Pl.Norm ys)(hb:n≤16384) :
  Calls Tryz.prog 148 #[.agg #[.slice a n cap],.agg #[.slice a' n cap']] w fun e w'=>ib w' w.heap.size e (Pl.val xs+Pl.val ys)∧Below w.heap.size w w':=by
 have hck:=fun (o1 o2 o3:Obj)=>bq a a' cap cap' xs ys (((w.alloc o1).alloc o2).alloc o3) (by rw [aa hn];omega) (by rw [aa hn'];omega) (((hl.alloc _).alloc _).alloc _) (((hl'.alloc _).alloc _).alloc _);rw [aa hn,aa hn',eB (bC (by rw [aa hn];omega) hN) (bC (by rw [aa hn'];omega) hN')] at hck;have HK:=hide hck;clear hck;have hmk:=dA ((n:Int)+1) (n+1) (by omega) (by omega);have HQ:=hide (And.intro (show n≤n+1 by omega) (show n+1≤40000 by omega));go_enter Tryz.func148,Tryz.ntmps148
 go_wp2_with fail
 refine (aa HK _ _ _).mono ?_;rintro e w1 ⟨rfl,hb1⟩;obtain ⟨hc1,hf1⟩:=bO hb1;have hby:=(aQ.made ((w.alloc (.cells #[.slice a n cap] 27)).alloc (.cells #[.slice a' n cap'] 27)) (.slice none 0 0)).kept hb1;simp only [World.size_alloc] at hby
 have hB:=hide (ai (ai (ai (ah w (.cells #[.slice a n cap] 27)) (ah _ (.cells #[.slice a' n cap'] 27))) (ah _ (.cells #[.slice none 0 0] 27))) hb1);clear hb1 HK;go_wp2_with fail
 go_quiet (fail)
 have hBq:=hide (below_drewN (aa hB) nq);have hbq:aQ (w1.drewN nq) (w.heap.size+1+1) (.slice none 0 0):=hby
 clear hB hby hc1 hf1;generalize w1.drewN nq=wq at *;have hsq:w.heap.size≤wq.heap.size:=(aa hBq).size;have hlL:=hl.below (aa hBq);have hlS:=hl'.below (aa hBq);have HL:=hide hlL;have HS:=hide hlS;have HX:=hide hbq;clear hl hl' hlL hlS hbq;obtain ⟨w2,hcp,hr2,hb2⟩:=nH wq a n cap xs (aa hn) (aa HL) (by omega);have hS2:=(aa HS).below hb2;have hX2:=(aa HX).kept hb2;have HB2:=hide (ai (aa hBq) hb2);have hz2:wq.heap.size≤w2.heap.size:=hb2.size;have hxlt:=(aa HX).lt;have hlb:∀b off,a'=some ⟨b,off,none⟩→0<ys.length→b≠wq.heap.size:=by
  intro b off e h0 hbb;rcases (aa HS).parts with hx|⟨_,b2,off2,ha,hblt,_⟩
  ·rw [hx] at h0;simp at h0
  ·rw [ha] at e;injection e with e;injection e with e1;omega
 have HLB:=hide hlb;have HA:=hide (And.intro hz2 (And.intro hxlt hsq));clear hb2 hlb hz2 hxlt hsq
 go_upto_region 7 with fail
 go_wp2_with fail
 obtain ⟨hz2,hxlt,hsq⟩:=aa HA;refine (jZ wq.heap.size 0 (n+1) n _ _ a' [] (xs ++ [0]) [] ys w2 rfl (by rw [List.length_append,aa hn];rfl) (aa hn') (aa HQ).1 (aa HQ).2 (aa HLB) (Pl.wf_append hw (Pl.wf_one (by decide))) hw' hr2 hS2).mono ?_;clear hmk hcp;rintro e w3 ⟨out,c,rfl,hol,how,hc1,hval,hr3,ho3⟩;have hv3:Pl.val out=Pl.val xs+Pl.val ys:=by
  rw [Pl.val_append,Pl.val_one,Nat.mul_zero,Nat.add_zero] at hval;have h1:=Pl.val_lt hw;have h2:=Pl.val_lt hw';rw [aa hn] at h1;rw [aa hn'] at h2;exact nP h1 h2 (Nat.le_refl _) hval
 have hX3:=aQ.only hX2 ho3 (Nat.ne_of_lt hxlt);have HB3:=hide (ho3.below (aa HB2) hsq);have hr3':Row w3 wq.heap.size out:=by simpa using hr3
 have HV:=hide hv3;clear hval hr3 ho3 hX2 hr2 hS2 hv3 HB2;go_wp2_with fail
 refine (gI wq.heap.size wq.heap.size (n+1) (n+1) out w3 hol hr3' (Nat.le_refl _) (Nat.le_refl _) (aa HQ).2 how).mono ?_;rintro e w4 ⟨hans,hb4⟩;rw [aa HV] at hans;have hX4:=hX3.kept hb4;have hcx:=hX4.cell;have hfx:=hX4.frozen;have HB4:=hide (ai (aa HB3) hb4);rcases hans with ⟨a5,n5,c5,rfl,hm⟩|⟨rfl,hm⟩
 ·have HM:=hide (hm.mono hsq);clear hm hb4;go_wp2
  exact bodyPost_ret (v:=.tuple #[.agg #[.slice a5 n5 c5],.int .i64 0]) (by simp [results,Tryz.results148,go_sem,hcx]) rfl ⟨Or.inl ⟨_,_,_,rfl,(aa HM).setBox hX4 _⟩,(aa HB4).setCell (Nat.le_add_right _ 2) _⟩
 ·have HM:=hide hm;clear hm hb4;go_wp2
  exact bodyPost_ret (v:=.tuple #[.agg #[.slice none 0 0],.int .i64 4]) (by simp [results,Tryz.results148,go_sem,hcx]) rfl ⟨Or.inr ⟨rfl,aa HM⟩,(aa HB4).setCell (Nat.le_add_right _ 2) _⟩
theorem add_lt(a a':Option Addr)(n n' cap cap':Nat)(xs ys:List Nat)(w:World)(hn:Hid (xs.length=n))(hn':Hid (ys.length=n'))(hl:bE w a xs)(hl':bE w a' ys)(hw:Pl.Wf xs)(hw':Pl.Wf ys)(hN:Pl.Norm xs)(hN':Pl.Norm ys)(hb:n≤16384)(hb':n'≤16384)(hlt:n<n') :
  Calls Tryz.prog 148 #[.agg #[.slice a n cap],.agg #[.slice a' n' cap']] w fun e w'=>ib w' w.heap.size e (Pl.val xs+Pl.val ys)∧Below w.heap.size w w':=by
 have hck:=fun (o1 o2 o3:Obj)=>bq a a' cap cap' xs ys (((w.alloc o1).alloc o2).alloc o3) (by rw [aa hn];omega) (by rw [aa hn'];omega) (((hl.alloc _).alloc _).alloc _) (((hl'.alloc _).alloc _).alloc _);rw [aa hn,aa hn',eB (bC (by rw [aa hn];omega) hN) (bC (by rw [aa hn'];omega) hN')] at hck;have HK:=hide hck;clear hck;have hmk:=dA ((n':Int)+1) (n'+1) (by omega) (by omega);have HQ:=hide (And.intro (show n≤n'+1 by omega) (show n'+1≤40000 by omega));go_enter Tryz.func148,Tryz.ntmps148
 go_wp2_with fail
 refine (aa HK _ _ _).mono ?_;rintro e w1 ⟨rfl,hb1⟩;obtain ⟨hc1,hf1⟩:=bO hb1;have hby:=(aQ.made ((w.alloc (.cells #[.slice a n cap] 27)).alloc (.cells #[.slice a' n' cap'] 27)) (.slice none 0 0)).kept hb1;simp only [World.size_alloc] at hby
 have hB:=hide (ai (ai (ai (ah w (.cells #[.slice a n cap] 27)) (ah _ (.cells #[.slice a' n' cap'] 27))) (ah _ (.cells #[.slice none 0 0] 27))) hb1);clear hb1 HK;go_wp2_with fail
 go_quiet (fail)
 have hBq:=hide (below_drewN (aa hB) nq);have hbq:aQ (w1.drewN nq) (w.heap.size+1+1) (.slice none 0 0):=hby
 clear hB hby hc1 hf1;generalize w1.drewN nq=wq at *;have hsq:w.heap.size≤wq.heap.size:=(aa hBq).size;have hlL:=hl'.below (aa hBq);have hlS:=hl.below (aa hBq);have HL:=hide hlL;have HS:=hide hlS;have HX:=hide hbq;clear hl hl' hlL hlS hbq;obtain ⟨w2,hcp,hr2,hb2⟩:=nH wq a' n' cap' ys (aa hn') (aa HL) (by omega);have hS2:=(aa HS).below hb2;have hX2:=(aa HX).kept hb2;have HB2:=hide (ai (aa hBq) hb2);have hz2:wq.heap.size≤w2.heap.size:=hb2.size;have hxlt:=(aa HX).lt;have hlb:∀b off,a=some ⟨b,off,none⟩→0<xs.length→b≠wq.heap.size:=by
  intro b off e h0 hbb;rcases (aa HS).parts with hx|⟨_,b2,off2,ha,hblt,_⟩
  ·rw [hx] at h0;simp at h0
  ·rw [ha] at e;injection e with e;injection e with e1;omega
 have HLB:=hide hlb;clear hb2 hlb;go_wp2_with fail
 refine (jZ wq.heap.size 0 (n'+1) n _ _ a [] (ys ++ [0]) [] xs w2 rfl (by rw [List.length_append,aa hn'];rfl) (aa hn) (aa HQ).1 (aa HQ).2 (aa HLB) (Pl.wf_append hw' (Pl.wf_one (by decide))) hw hr2 hS2).mono ?_;clear hmk hcp;rintro e w3 ⟨out,c,rfl,hol,how,hc1,hval,hr3,ho3⟩;have hv3:Pl.val out=Pl.val xs+Pl.val ys:=by
  rw [Pl.val_append,Pl.val_one,Nat.mul_zero,Nat.add_zero] at hval;have h1:=Pl.val_lt hw;have h2:=Pl.val_lt hw';rw [aa hn] at h1;rw [aa hn'] at h2;rw [Nat.add_comm (Pl.val xs)];exact nP h2 h1 (Nat.le_of_lt hlt) hval
 have hX3:=aQ.only hX2 ho3 (Nat.ne_of_lt hxlt);have HB3:=hide (ho3.below (aa HB2) hsq);have hr3':Row w3 wq.heap.size out:=by simpa using hr3
 have HV:=hide hv3;clear hval hr3 ho3 hX2 hr2 hS2 hv3 HB2;go_wp2_with fail
 refine (gI wq.heap.size wq.heap.size (n'+1) (n'+1) out w3 hol hr3' (Nat.le_refl _) (Nat.le_refl _) (aa HQ).2 how).mono ?_;rintro e w4 ⟨hans,hb4⟩;rw [aa HV] at hans;have hX4:=hX3.kept hb4;have hcx:=hX4.cell;have hfx:=hX4.frozen;have HB4:=hide (ai (aa HB3) hb4);rcases hans with ⟨a5,n5,c5,rfl,hm⟩|⟨rfl,hm⟩
 ·have HM:=hide (hm.mono hsq);clear hm hb4;go_wp2
  exact bodyPost_ret (v:=.tuple #[.agg #[.slice a5 n5 c5],.int .i64 0]) (by simp [results,Tryz.results148,go_sem,hcx]) rfl ⟨Or.inl ⟨_,_,_,rfl,(aa HM).setBox hX4 _⟩,(aa HB4).setCell (Nat.le_add_right _ 2) _⟩
 ·have HM:=hide hm;clear hm hb4;go_wp2
  exact bodyPost_ret (v:=.tuple #[.agg #[.slice none 0 0],.int .i64 4]) (by simp [results,Tryz.results148,go_sem,hcx]) rfl ⟨Or.inr ⟨rfl,aa HM⟩,(aa HB4).setCell (Nat.le_add_right _ 2) _⟩
theorem pz(a a':Option Addr)(n n' cap cap' m m':Nat)(w:World)(h:Num w a n m)(h':Num w a' n' m') :
  Calls Tryz.prog 148 #[.agg #[.slice a n cap],.agg #[.slice a' n' cap']] w fun e w'=>ib w' w.heap.size e (m+m')∧Below w.heap.size w w':=by
 obtain ⟨xs,hn,hl,hw,hN,hv,hb⟩:=h;obtain ⟨ys,hn',hl',hw',hN',hv',hb'⟩:=h';rw [←hv,←hv'];by_cases hlt:n<n'
 ·exact add_lt a a' n n' cap cap' xs ys w (hide hn) (hide hn') hl hl' hw hw' hN hN' hb hb' hlt
 ·by_cases he:n=n'
  ·subst he;exact F8 a a' n cap cap' xs ys w (hide hn) (hide hn') hl hl' hw hw' hN hN' hb
  ·exact FR a a' n n' cap cap' xs ys w (hide hn) (hide hn') hl hl' hw hw' hN hN' hb hb' (by omega)
end Go.Proofs.YtaidedkpfnidpaaGreatDoor
