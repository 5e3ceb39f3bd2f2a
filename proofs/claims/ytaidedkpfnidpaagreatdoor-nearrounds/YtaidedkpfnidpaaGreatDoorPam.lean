/- Of what NearRoundsRow stands on: Divide Lessen. -/
import Derived.Test.YtaidedkpfnidpaaGreatDoorPal
import Derived.Test.YtaidedkpfnidpaaGreatDoorPah
namespace Go.Proofs.YtaidedkpfnidpaaGreatDoor
open Go.RowKit
set_option maxHeartbeats 2000000
theorem yA{X Y S Q R:Nat}(hS:0<S)(hY:0<Y)(h:X*S=Q*(Y*S)+R)(hR:R<Y*S):Q=X/Y∧R/S=X%Y:=by
 have hD:0<Y*S:=Nat.mul_pos hY hS;have h1:X*S/(Y*S)=Q:=by
  rw [h,Nat.mul_comm Q,Nat.mul_add_div hD,Nat.div_eq_of_lt hR,Nat.add_zero]
 have h2:X*S%(Y*S)=R:=by
  rw [h,Nat.mul_comm Q,Nat.mul_add_mod,Nat.mod_eq_of_lt hR]
 rw [Nat.mul_div_mul_right _ _ hS] at h1;rw [Nat.mul_mod_mul_right] at h2;exact ⟨h1.symm,by rw [←h2,Nat.mul_div_cancel _ hS]⟩
theorem uJ{ys out:List Nat}{n s l:Nat}(hn:ys.length=n)(hp:0<n)(hw:Pl.Wf ys)(hN:Pl.Norm ys)(hl:l=ys[n-1]?.getD 0)(hs:s+Lib.bitLen l=32)(hov:Pl.val out=Pl.val ys*2^s)(how:Pl.Wf out)(hoN:Pl.Norm out):out.length=n∧Pl.val out<4294967296^n:=by
 subst hn;have hb:=(sM hw hN hp l hl).1.1;have hup:Pl.val out<4294967296^ys.length:=by
  rw [hov,oJ];have h1:Pl.val ys*2^s<2^(32*(ys.length-1)+Lib.bitLen l)*2^s:=Nat.mul_lt_mul_of_pos_right hb (Nat.pow_pos (by decide));rw [←Nat.pow_add] at h1;rw [show 32*ys.length=32*(ys.length-1)+Lib.bitLen l+s by omega];exact h1
 have hlow:4294967296^(ys.length-1)≤Pl.val out:=by
  rw [hov];have h1:=Pl.norm_lower hN hp;have h2:Pl.val ys*1≤Pl.val ys*2^s:=Nat.mul_le_mul_left _ (Nat.pow_pos (by decide));rw [Nat.mul_one] at h2;exact Nat.le_trans h1 h2
 have a1:=(Pl.val_le_len how hoN ys.length).2 hup;refine ⟨?_,hup⟩;by_cases h:out.length≤ys.length-1
 ·have:=(Pl.val_le_len how hoN (ys.length-1)).1 h;exact absurd this (Nat.not_lt.2 hlow)
 ·omega
theorem Ba{X Y S V B t T D:Nat}(hX:X<Y*T)(hS:0<S)(hz:V+T*t=X*S)(hD:D=Y*S)(hB:B=T)(hBt:B*t≤X*S):t<D:=by
 subst hB hD;have h1:X*S<Y*B*S:=Nat.mul_lt_mul_of_pos_right hX hS;have h2:B*t<B*(Y*S):=by
  rw [←Nat.mul_assoc,Nat.mul_comm B Y];exact Nat.lt_of_le_of_lt hBt h1
 exact Nat.lt_of_mul_lt_mul_left h2
theorem Ao{l s:Nat}(hs:s+Lib.bitLen l=32):(32:Int)-(Lib.bitLen l:Int)=(s:Int):=by omega
theorem lC(a:Option Addr)(n cap s m:Nat)(w:World)(h:Num w a n m)(hs:s<32) :
  Calls Tryz.prog 107 #[.slice a n cap,.int .i64 (s:Int)] w
   fun e w'=>∃(out:List Nat),e = .returned (.slice (some ⟨w.heap.size,0,none⟩) (n+1) (n+1))∧out.length=n+1∧Pl.Wf out∧Pl.val out=m*2^s∧Row w' w.heap.size out∧Below w.heap.size w w':=by
 obtain ⟨xs,hn,hl,hw,hN,hv,hb⟩:=h;have:=mY a n cap 0 s s xs w hn (by omega) hl hw (by omega) hs (by omega);rw [Nat.zero_add,hv] at this;exact this
theorem uM(a:Option Addr)(b' off' nx n t cap cap' m d:Nat)(ys:List Nat)(w:World)(h:Num w a nx m)(h':Num w (some ⟨b',off',none⟩) n d)(hge:d≤m)(hn2:2≤n)(hnt:Hid (nx+1=n+t))(hyl:Hid (ys.length=n))(hyw:Pl.Wf ys)(hyN:Hid (Pl.Norm ys))(hyv:Hid (Pl.val ys=d))(hlt:b'<w.heap.size)(hc:Hid (∀j,j<n→w.cell? ⟨b',off'+j,none⟩=some (.int .u32 ((ys[j]?.getD 0:Nat):Int)))) :
  Calls Tryz.prog 88 #[.slice a nx cap,.slice (some ⟨b',off',none⟩) n cap'] w fun e w'=>kE w' w.heap.size e (m/d) (m%d)∧Below w.heap.size w w':=by
 have hnd:decide (bW m d<0)=false:=by
  by_cases e:m=d
  ·rw [e,jm];decide
  ·rw [kF (by omega)];decide
 have hnb:=h'.len;have hxb:=h.len;have hn1:((n:Int)==1)=false:=by simp;omega
 obtain ⟨l,hl⟩:∃l,l=ys[n-1]?.getD 0:=⟨_,rfl⟩;have hcl:w.cell? ⟨b',off'+(n-1),none⟩=some (.int .u32 (l:Int)):=by rw [hl];exact aa hc (n-1) (by omega)
 have hl32:l<4294967296:=by rw [hl];exact Pl.wf_at hyw _
 obtain ⟨s,hs⟩:∃s,s+Lib.bitLen l=32:=⟨32-Lib.bitLen l,by
  have:=Lib.bitLen_le l 32 (by decide) (by omega);omega⟩
 have hs32:s<32:=by
  have hyl':=aa hyl;have:=(sM hyw (aa hyN) (by omega) l (by rw [hyl'];exact hl)).2.1;omega
 have HL:=hide (And.intro hl hs);have hsi:=Ao hs;have HSI:=hide hsi;clear hge hl hs hsi;go_enter Tryz.func88,Tryz.ntmps88
 go_wp2_with fail
 refine (bZ _ _ nx n cap cap' m d w h h').mono ?_;rintro e w1 ⟨rfl,hb1⟩;have hc1:w1.cell? ⟨b',off'+(n-1),none⟩=some (.int .u32 (l:Int)):=(hb1.cell (by exact hlt)).trans hcl;clear hcl;go_wp2_with fail
 refine (oV l w1 hl32).mono ?_;rintro e w1' ⟨rfl,rfl⟩;rw [aa HSI];clear hc1;have h1:=h.kept hb1;have h1':=h'.kept hb1;have HB1:=hide hb1;clear h h' hb1;go_wp2_with fail
 refine (lC _ n cap' s d w1 h1' hs32).mono ?_;rintro e w2 ⟨o1,rfl,hol1,how1,hov1,hr1,hb2⟩;have h2:=h1.kept hb2;have HB2:=hide (ai (aa HB1) hb2);have hg1:=(aa HB1).size;have HV1:=hide hov1;clear hb2 h1 h1' hov1;go_wp2_with fail
 refine (dL w1.heap.size 0 (n+1) (n+1) o1 w2 hol1 (Nat.le_refl _) (by omega) (fun j hj=>by rw [Nat.zero_add];exact hr1.cell j hj)).mono ?_;rintro e w2' ⟨rfl,k,hk,hz0,hz1,rfl⟩;obtain ⟨t1,t2,t3,t4,t5⟩:=bY hr1 (Nat.le_refl _) (by omega) how1 hk hz0 hz1;have hv1:Pl.val (o1.take k)=d*2^s:=t5.trans (aa HV1);obtain ⟨hkn,hDn⟩:=uJ (aa hyl) (by omega) hyw (aa hyN) (aa HL).1 (aa HL).2 (by rw [aa hyv];exact hv1) t3 t4;rw [t1] at hkn;subst hkn;have hrD:=hr1.prefix k;generalize o1.take k=xs at *;have HX:=hide (And.intro t1 (And.intro hv1 (And.intro hDn t4)));have hw2:=hr1.lt;clear hz0 hz1 t1 t2 t5 hv1 hDn hr1 how1 hol1 hk t4 HV1;go_wp2_with fail
 refine (lC a nx cap s m w2 h2 hs32).mono ?_;rintro e w3 ⟨zs,rfl,hzl,hzw,hzv,hrz,hb3⟩;have hrD3:=hrD.kept hb3;have HB3:=hide (ai (aa HB2) hb3);have HZ:=hide (And.intro hzl hzv);have hg2:=(aa HB2).size;have hg3:=hb3.size;clear hb3 hrD hzl hzv;go_wp2_with fail
 rw [aa hnt];have hknt:=aa hnt;have hht:xs[k-2+1]?.getD 0≠0:=by
  obtain ⟨e1,_,_,e4⟩:=aa HX;have:=Pl.norm_last e4 (by omega)
  rwa [e1,show k-1=k-2+1 by omega] at this
 have hfl:Pl.val (zs.drop t)<Pl.val xs:=by
  obtain ⟨e1,e2,_,_⟩:=aa HX;obtain ⟨z1,z2⟩:=aa HZ;have hsp:=Pl.val_split zs t (by omega);rw [z2] at hsp;refine Ba (X:=m) (Y:=d) (S:=2^s) (V:=Pl.val (zs.take t)) (B:=4294967296^t) (T:=4294967296^t) ?_ (Nat.pow_pos (by decide)) hsp.symm e2 rfl (by rw [hsp];exact Nat.le_add_left _ _);have hlow:4294967296^(k-1)≤d:=by
   rw [←aa hyv];have:=Pl.norm_lower (aa hyN) (by rw [aa hyl];omega)
   rwa [aa hyl] at this
  have hup:m<4294967296^nx:=by
   obtain ⟨xs',q1,_,q3,_,q5,_⟩:=h2;have:=Pl.val_lt q3
   rwa [q1,q5] at this
  have h3:4294967296^(k-1)*4294967296^t≤d*4294967296^t:=Nat.mul_le_mul_right _ hlow;rw [←Nat.pow_add,show k-1+t=nx by omega] at h3;exact Nat.lt_of_lt_of_le hup h3
 refine (uH w2.heap.size w1.heap.size 0 k (k-2) t (k+t) k zs xs w3 (hide (by omega)) (hide (by rw [(aa HZ).1];exact hknt)) (hide (aa HX).1) (by omega) (by omega) (Nat.le_refl _) (by omega) hzw t3 (hide hht) (hide hfl) (by omega) (by omega) hrz (fun j hj=>by rw [Nat.zero_add];exact hrD3.cell j (by rw [(aa HX).1];exact hj))).mono ?_;rintro e w4 ⟨rfl,qs,rs,_,hql,hqw,hrl,hrw,hrlt,hval,hQ4,hR4,hbut⟩;rw [List.drop_zero,(aa HZ).2,(aa HX).2.1] at hval;rw [(aa HX).2.1] at hrlt;rw [List.replicate_zero,List.nil_append] at hQ4;rw [List.take_zero,List.nil_append,Nat.sub_zero] at hR4;rw [Nat.sub_zero] at hql;have hd0:0<d:=Nat.pos_of_ne_zero (fun e=>by rw [e,Nat.zero_mul] at hrlt;omega);obtain ⟨hqe,hre⟩:=yA (Nat.pow_pos (by decide)) hd0 hval hrlt;have HB4:=hide (hbut.below (aa HB3) hg2);have hws3:w3.heap.size≤w4.heap.size:=hbut.size;have HQE:=hide (And.intro hqe hre);have HLT:=hide (Nat.lt_trans hrlt (by have:=(aa HX).2.2.1;rwa [(aa HX).2.1] at this));clear hval hrlt hqe hre hbut hht hfl hrD3 hrz h2;go_wp2_with fail
 refine (dL w3.heap.size 0 t t qs w4 hql (Nat.le_refl _) (by omega) (fun j hj=>by rw [Nat.zero_add];exact hQ4.cell j hj)).mono ?_;rintro e w4' ⟨rfl,l1,hl1,hz0,hz1,rfl⟩;obtain ⟨q1,q2,q3,q4,q5⟩:=bY hQ4 (Nat.le_trans hg2 hg3) (by omega) hqw hl1 hz0 hz1;have HM:Hid (Mine w4 w.heap.size (some ⟨w3.heap.size,0,none⟩) l1 l1 (m/d)):=hide ⟨_,q1,q2,q3,q4,q5.trans (aa HQE).1,by omega⟩;clear hz0 hz1 q1 q2 q3 q4 q5 hQ4 hl1;go_wp2_with fail
 refine (dL w2.heap.size 0 (k+t) (k+t) (rs++List.replicate t 0) w4 (by simp [hrl]) (Nat.le_refl _) (by omega) (fun j hj=>by rw [Nat.zero_add];exact hR4.cell j hj)).mono ?_;rintro e w4' ⟨rfl,l2,hl2,hz0,hz1,rfl⟩;obtain ⟨r1,r2,r3,r4,r5⟩:=bY hR4 hg2 (by simp;omega) (Pl.wf_append hrw (Pl.wf_replicate t)) hl2 hz0 hz1;rw [Pl.val_append,Pl.val_replicate,Nat.mul_zero,Nat.add_zero] at r5;have hl2k:l2≤k:=by
  have:=(Pl.val_le_len r3 r4 k).2 (by rw [r5];exact aa HLT);omega
 have HN:Hid (Num w4 (some ⟨w2.heap.size,0,none⟩) l2 (Pl.val rs)):=hide (Mine.num ⟨_,r1,r2,r3,r4,r5,by omega⟩);clear hz0 hz1 r1 r2 r3 r4 r5 hR4 hl2;go_wp2_with fail
 refine (fM _ l2 l2 (Pl.val rs) s w4 (aa HN) (Nat.le_refl _) (by omega) (by omega)).mono ?_;rintro e w5 ⟨⟨a5,l5,c5,rfl,hm5⟩,hb5⟩;rw [(aa HQE).2] at hm5;have HM5:=hide (hm5.mono (aa HB4).size);clear hm5;go_wp2
 go_ret2
 exact ⟨⟨_,l1,l1,a5,l5,c5,rfl,(aa HM).kept hb5,aa HM5⟩,ai (aa HB4) hb5⟩
theorem ja(a a':Option Addr)(n n' cap cap' m d:Nat)(w:World)(h:Num w a n m)(h':Num w a' n' d)(hd:0<d) :
  Calls Tryz.prog 88 #[.slice a n cap,.slice a' n' cap'] w fun e w'=>kE w' w.heap.size e (m/d) (m%d)∧Below w.heap.size w w':=by
 by_cases hlt:m<d
 ·exact qB a a' n n' cap cap' m d w h h' hlt
 ·by_cases h1:n'=1
  ·subst h1;exact tC a a' n cap cap' m d w h h'
  ·have hN':=h';have hz:=h'.zero;have hnn:n'≤n:=by
    obtain ⟨zs,kn,_,kw,kN,kv,_⟩:=h;obtain ⟨ys,kn',_,kw',kN',kv',_⟩:=h';have:=(Pl.val_le_len kw' kN' n).2 (by rw [kv'];have:=Pl.val_lt kw;rw [kn,kv] at this;omega);omega
   obtain ⟨ys,hyl,hl,hyw,hyN,hyv,hyb⟩:=h';rcases hl.parts with hx|⟨hp,b,off,rfl,hltb,hc⟩
   ·rw [hx] at hyl;simp at hyl;omega
   ·exact uM a b off n n' (n+1-n') cap cap' m d ys w h hN' (by omega) (by omega) (hide (by omega)) (hide hyl) hyw (hide hyN) (hide hyv) hltb (hide fun j hj=>hc j (by omega))
theorem vL(a a':Option Addr)(n n' cap cap' m d:Nat)(w:World)(h:Num w a n m)(h':Num w a' n' d) :
  Calls Tryz.prog 154 #[.agg #[.slice a n cap],.agg #[.slice a' n' cap']] w fun e w'=>ry w' w.heap.size e m d∧Below w.heap.size w w':=by
 by_cases hd:d=0
 ·subst hd;have hn0:=h'.zero.2 rfl;subst hn0;exact BO a a' n cap cap' m w h
 ·exact GD a a' n n' cap cap' m d w h h' (by omega) (hide fun w1 k k'=>ja a a' n n' cap cap' m d w1 k k' (by omega))
theorem Mine.row{w:World}{base n c m:Nat}{a:Option Addr}(h:Mine w base a n c m)(hp:0<n) :
  ∃g xs,a=some ⟨g,0,none⟩∧base≤g∧g<w.heap.size∧xs.length=n∧Row w g xs∧Pl.Wf xs∧Pl.Norm xs∧Pl.val xs=m∧n≤c∧c≤9223372036854775807∧n≤16384:=by
 have hcap:=h.cap;obtain ⟨xs,hn,ho,hw,hN,hv,hb⟩:=h;rcases ho with ⟨e,_⟩|⟨g,cap,cur,e,hg,hh,h1,h2,h3,hc⟩
 ·injection e with e1 e2 e3;omega
 ·injection e with e1 e2 e3
  have hcur:cur=lc xs++(cur.toList.drop n).toArray:=by
   apply Array.toList_inj.1;rw [Array.toList_append];simp only [lc];have ht:cur.toList.take n=xs.map (fun z:Nat=>Value.int .u32 (z:Int)):=by
    apply List.ext_getElem
    ·simp;omega
    ·intro i h4 h5;have hi:i<xs.length:=by simpa using h5
     have:=hc i hi;rw [List.getElem?_eq_getElem hi,Option.getD_some] at this;rw [List.getElem_take,List.getElem_map];have h6:i<cur.size:=by omega
     rw [Array.getElem?_eq_getElem h6] at this;injection this with this
   rw [←ht,List.take_append_drop]
  have hlt:g<w.heap.size:=by
   by_cases hlt:g<w.heap.size
   ·exact hlt
   ·rw [Array.getElem?_eq_none (by omega)] at hh;cases hh
  exact ⟨g,xs,e1,hg,hlt,hn,⟨_,by rw [←hcur];exact hh⟩,hw,hN,hv,hcap.1,hcap.2,hb⟩
theorem Mine.block{w:World}{base n c m g:Nat}{a:Option Addr}(h:Mine w base a n c m)(ha:a=some ⟨g,0,none⟩):base≤g:=by
 obtain ⟨xs,hn,ho,_⟩:=h;rcases ho with ⟨e,_⟩|⟨g',cap,cur,e,hg,_⟩
 ·injection e with e1 e2 e3;rw [ha] at e1;cases e1
 ·injection e with e1 e2 e3
  rw [ha] at e1;injection e1 with e1
  injection e1 with e1
  omega
theorem dx.kept{w w':World}{p:Nat}{A B C D:Int}(h:dx w p A B C D)(hb:Below w.heap.size w w'):dx w' p A B C D:=by
 unfold dx;rw [hb.block p h.lt];exact h
def Apart(a b:Option Addr):Prop:=∀g h,a=some ⟨g,0,none⟩→b=some ⟨h,0,none⟩→g≠h
def Less(base:Nat)(X Y:Nat)(e:Ending)(w':World):Prop:=
 ∃a1 n1 c1 a2 n2 c2 X' Y',e = .returned (.tuple #[.slice a1 n1 c1,.slice a2 n2 c2])∧Mine w' base a1 n1 c1 X'∧Mine w' base a2 n2 c2 Y'∧Apart a1 a2∧Nat.gcd X' Y'=Nat.gcd X Y∧Y'<X'∧Y'<Y
theorem FV{X Y j n:Nat}(h:Bl X j)(hYX:Y≤X)(hY:4294967296^(n-1)≤Y)(hn:2<n):65≤j:=by
 have h1:4294967296^2≤4294967296^(n-1):=Pl.pow_le (by omega);have h2:(4294967296:Nat)^2=2^64:=by decide
 by_cases hj:65≤j
 ·exact hj
 ·have h3:2^j≤2^64:=Nat.pow_le_pow_right (by decide) (by omega);have:=h.1;omega
theorem Iy{X j:Nat}(h:Bl X j)(hj:65≤j):X/2^(j-62)<4611686018427387904:=by
 rw [Nat.div_lt_iff_lt_mul (Nat.pow_pos (by decide))];have:4611686018427387904*2^(j-62)=2^j:=by
  rw [show (4611686018427387904:Nat)=2^62 from rfl,←Nat.pow_add];congr 1;omega
 rw [this];exact h.1
theorem lY{w:World}{a:Option Addr}{n m:Nat}(h:Num w a n m)(hm:m<18446744073709551616):n≤2:=by
 obtain ⟨xs,hn,_,hw,hN,hv,_⟩:=h;have:=(Pl.val_le_len hw hN 2).2 (by rw [hv];exact hm);omega
theorem oz(base nx n cx cy X Y:Nat)(a b:Option Addr)(w:World)(hX:Mine w base a nx cx X)(hY:Mine w base b n cy Y)(hap:Hid (Apart a b))(hYX:Y≤X)(hn:2<n)(hbw:base≤w.heap.size) :
  Calls Tryz.prog 86 #[.slice a nx cx,.slice b n cy] w fun e w'=>Less base X Y e w'∧Below base w w':=by
 have hXn:=hX.num;have hYn:=hY.num;have hYz:Y≠0:=fun e=>by have:=hYn.zero.2 e;omega
 obtain ⟨j,hj⟩:=xz X;have hlow:4294967296^(n-1)≤Y:=by
  obtain ⟨ys,k1,_,k2,k3,k4,_⟩:=hYn;have:=Pl.norm_lower k3 (by omega)
  rwa [k1,k4] at this
 have hj65:=FV hj hYX hlow hn;have hxx:=Iy hj hj65;have hyy:Y/2^(j-62)<4611686018427387904:=Nat.lt_of_le_of_lt (Nat.div_le_div_right hYX) hxx;have hcX:=hX.cap;have hcY:=hY.cap;have hnx:=hXn.len;have HJ:=hide hj;have HM:=hide (And.intro hX (And.intro hY (And.intro hYX hYz)));have hjb:j≤524288:=by
  obtain ⟨xs,k1,_,k2,k3,k4,k5⟩:=hXn;by_cases h:j≤524288
  ·exact h
  ·have h1:=hj.2.resolve_left (by omega);have h2:=Pl.val_lt k2;rw [k1,k4,oJ] at h2;have h3:2^(32*nx)≤2^(j-1):=Nat.pow_le_pow_right (by decide) (by omega);omega
 obtain ⟨sh,hsh⟩:∃sh,sh=j-62:=⟨_,rfl⟩;rw [←hsh] at hxx hyy;have hshi:(j:Int)-62=(sh:Int):=by omega
 have hshb:sh≤524288:=by omega
 have HXY:=hide (And.intro hxx hyy);clear hX hY hlow hj hsh hxx hyy hYX;go_enter Tryz.func86,Tryz.ntmps86
 go_wp2_with fail
 refine (fO a nx cx X w hXn).mono ?_;rintro e w' ⟨⟨j2,rfl,hB2,_⟩,rfl⟩;obtain rfl:j2=j:=hB2.uniq (aa HJ);clear hB2;go_wp2_with fail
 refine (fM a nx cx X sh w hXn hcX.1 hcX.2 (by omega)).mono ?_;rintro e w1 ⟨⟨a1,l1,c1,rfl,hm1⟩,hb1⟩;have hYn1:=hYn.kept hb1;have HB1:=hide hb1;have hw1:=gp a1 l1 c1 _ w1 hm1.num (lY hm1.num (Nat.lt_trans (aa HXY).1 (by decide)));have HW1:=hide hw1;clear hb1 hm1 hw1 hXn hYn;go_wp2_with fail
 refine (aa HW1).mono ?_;rintro e w' ⟨rfl,rfl⟩;generalize hx0:X/2^sh=x0 at *;have hx0b:x0<4611686018427387904:=by rw [←hx0];exact hx0▸(aa HXY).1
 clear HW1;go_wp2_with fail
 refine (fM b n cy Y sh w1 hYn1 hcY.1 hcY.2 (by omega)).mono ?_;rintro e w2 ⟨⟨a2,l2,c2,rfl,hm2⟩,hb2⟩;have hw2:=gp a2 l2 c2 _ w2 hm2.num (lY hm2.num (Nat.lt_trans (aa HXY).2 (by decide)));have HW2:=hide hw2;have HB2:=hide (ai (aa HB1) hb2);clear hb2 hm2 hw2 hYn1;go_wp2_with fail
 refine (aa HW2).mono ?_;rintro e w' ⟨rfl,rfl⟩;generalize hy0:Y/2^sh=y0 at *;have hy0b:y0<4611686018427387904:=(aa HXY).2;have HP:=hide (And.intro hx0 hy0);clear HW2 hx0 hy0 HXY;go_wp2_with fail
 refine (sO x0 y0 X Y (2^sh) (X%2^sh) (Y%2^sh) w2 hx0b hy0b (hide (by rw [←(aa HP).1];exact (Nat.div_add_mod' X (2^sh)).symm)) (hide (by rw [←(aa HP).2];exact (Nat.div_add_mod' Y (2^sh)).symm)) (hide (Nat.mod_lt _ (Nat.pow_pos (by decide)))) (hide (Nat.mod_lt _ (Nat.pow_pos (by decide))))).mono ?_;rintro e w3 ⟨⟨A,B,C,D,rfl,hT,hSm⟩,hb3⟩;have HB3:=hide (ai (ai (aa HB2) hb3) (ah w3 (.cells #[.int .i64 A,.int .i64 B,.int .i64 C,.int .i64 D] 174)));have hb4:dx (w3.alloc (.cells #[.int .i64 A,.int .i64 B,.int .i64 C,.int .i64 D] 174)) w3.heap.size A B C D:=heap_alloc_new w3 _;obtain ⟨k0,k1,k2,k3⟩:=hb4.cells;have HTS:=hide (And.intro hT hSm);clear hb3 hT hSm;by_cases hB:B=0
 ·subst hB;go_wp2_with fail
  generalize hw4:w3.alloc (.cells #[.int .i64 A,.int .i64 0,.int .i64 C,.int .i64 D] 174)=w4 at *;clear hw4;obtain ⟨hX,hY,hYX,hYz⟩:=aa HM;refine (ja a b nx n cx cy X Y w4 (hX.num.kept (aa HB3)) (hY.num.kept (aa HB3)) (by omega)).mono ?_;rintro e w5 ⟨⟨aq,nq,cq,ar,nr,cr,rfl,hq,hr⟩,hb5⟩;have HR:=hide hr;have HB5:=hide (ai (aa HB3) hb5);have hs3:=(aa HB3).size;clear hq hr hb5;go_wp2
  go_ret2
  refine ⟨⟨b,n,cy,ar,nr,cr,Y,X%Y,rfl,hY.kept (aa HB5),(aa HR).mono (Nat.le_trans hbw hs3),?_,jy X Y,Nat.mod_lt _ (by omega),Nat.mod_lt _ (by omega)⟩,(aa HB5).mono hbw⟩;intro g h hg hh;obtain ⟨g',ys,e1,_,hlt,_⟩:=hY.row (by omega);have h2:=(aa HR).block hh;rw [hg] at e1;injection e1 with e1
  injection e1 with e1
  omega
 ·have hBb:(B==0)=false:=by simpa using hB
  have HBn:=hide hB;clear hB;go_wp2_with fail
  generalize hw4:w3.alloc (.cells #[.int .i64 A,.int .i64 B,.int .i64 C,.int .i64 D] 174)=w4 at *;clear hw4;obtain ⟨hX,hY,hYX,hYz⟩:=aa HM;have hXz:X≠0:=by omega
  have hnx0:0<nx:=by have:=hX.num.zero;omega
  have hnn:n≤nx:=by
   obtain ⟨zs,kn,_,kw,kN,kv,_⟩:=hX.num;obtain ⟨ys,kn',_,kw',kN',kv',_⟩:=hY.num;have:=(Pl.val_le_len kw' kN' nx).2 (by rw [kv'];have:=Pl.val_lt kw;rw [kn,kv] at this;omega);omega
  obtain ⟨gx,xs,rfl,hgx,hgxl,hxl,hRx,hxw,hxN,hxv,hxc,hxc2,hxb⟩:=hX.row hnx0;obtain ⟨gy,ys,rfl,hgy,hgyl,hyl,hRy,hyw,hyN,hyv,hyc,hyc2,hyb⟩:=hY.row (by omega);refine (Aq gx gy base nx n cx cy X Y xs ys A B C D w4 (hide hxl) (hide hyl) hnn hxb hxc hyc hyc2 (hide hxv) (hide hyv) hxw hyw (aa hap gx gy rfl rfl) hgx hgy (Nat.le_trans hbw (aa HB3).size) (hRx.kept (aa HB3)) (hRy.kept (aa HB3)) (hide (aa HTS).1) (hide (aa HBn)) (aa HTS).2).mono ?_;rintro e w5 ⟨⟨t1,t2,X',Y',rfl,hX',hY',hg',hlt',hle'⟩,hb5⟩;have HR:=hide (And.intro hX' (And.intro hY' (And.intro hg' (And.intro hlt' hle'))));have HB5:=hide (((aa HB3).mono hbw).trans hb5);clear hX' hY' hg' hlt' hle' hb5;go_wp2
  go_ret2
  obtain ⟨r1,r2,r3,r4,r5⟩:=aa HR;refine ⟨⟨_,t1,t1,_,t2,t2,X',Y',rfl,r1,r2,?_,r3,r4,Nat.lt_of_lt_of_le r4 r5⟩,aa HB5⟩;intro g h hg hh;injection hg with hg
  injection hg with hg
  injection hh with hh
  injection hh with hh
  have:=aa hap gx gy rfl rfl;omega
end Go.Proofs.YtaidedkpfnidpaaGreatDoor
