/- Of what NearRoundsRow stands on: Parse Gcd. -/
import Derived.Test.YtaidedkpfnidpaaGreatDoorPam
import Derived.Deep.RegionWith
namespace Go.Proofs.YtaidedkpfnidpaaGreatDoor
open Go.RowKit
set_option maxHeartbeats 4000000
theorem aQ.under{w w':World}{p B:Nat}{v:Value}(h:aQ w p v)(hb:Below B w w')(hp:p<B):aQ w' p v:=by
 unfold aQ;rw [hb.block p hp];exact h
theorem aQ.drew'{w:World}{p:Nat}{v:Value}(h:aQ w p v):aQ w.drew p v:=h
theorem Mine.blt{w:World}{base n c m g:Nat}{a:Option Addr}(h:Mine w base a n c m)(ha:a=some ⟨g,0,none⟩):g<w.heap.size:=by
 obtain ⟨xs,hn,ho,_⟩:=h;rcases ho with ⟨e,_⟩|⟨g',cap,cur,e,hg,hh,_⟩
 ·injection e with e1 e2 e3;rw [ha] at e1;cases e1
 ·injection e with e1 e2 e3
  rw [ha] at e1;injection e1 with e1
  injection e1 with e1
  subst e1;by_cases hlt:g<w.heap.size
  ·exact hlt
  ·rw [Array.getElem?_eq_none (by omega)] at hh;cases hh
def lL(w:World)(base:Nat)(v:Value)(n m:Nat):Prop:=∃a c,v = .slice a n c∧Mine w base a n c m
theorem lL.kept{w w':World}{base n m:Nat}{v:Value}(h:lL w base v n m)(hb:Below w.heap.size w w'):lL w' base v n m:=by
 obtain ⟨a,c,rfl,h⟩:=h;exact ⟨a,c,rfl,h.kept hb⟩
def G6(v v':Value):Prop:=∀a n c a' n' c',v = .slice a n c→v' = .slice a' n' c'→Apart a a'
theorem vo{w w':World}{base n m n' m':Nat}{v:Value}{a:Option Addr}{c:Nat}(h:lL w base v n m)(h':Mine w' w.heap.size a n' c m'):G6 v (.slice a n' c)∧G6 (.slice a n' c) v:=by
 obtain ⟨a1,c1,rfl,h1⟩:=h;constructor
 ·intro x1 x2 x3 y1 y2 y3 e1 e2 g k hg hk;injection e1 with e1;injection e2 with e2
  subst e1 e2;have:=h1.blt hg;have:=h'.block hk;omega
 ·intro x1 x2 x3 y1 y2 y3 e1 e2 g k hg hk;injection e1 with e1;injection e2 with e2
  subst e1 e2;have:=h1.blt hk;have:=h'.block hg;omega
structure RG(W w:World)(a b:Option Addr)(n cap n' cap' m m' pa pb:Nat)(b0 b1 b2 b3 b4 b5 b6 b7:Bool)(v7 v8 v18 v19 v20 v21 v22 v23:Value):Prop where
 bel:Below W.heap.size W w
 f0:b0=true→v18 = .pointer (some ⟨pa,0,none⟩)
 f1:b1=true→v19 = .slice a n cap
 f2:b2=true→lL w W.heap.size v20 n m
 f3:b3=true→v21 = .pointer (some ⟨pb,0,none⟩)
 f4:b4=true→v22 = .slice b n' cap'
 f5:b5=true→lL w W.heap.size v23 n' m'
 ap:b2=true→b5=true→G6 v20 v23
 f6:b6=true→b2=true∧v7=v20
 f7:b7=true→b5=true∧v8=v23
theorem RG.kept{W w w':World}{a b:Option Addr}{n cap n' cap' m m' pa pb:Nat}{b0 b1 b2 b3 b4 b5 b6 b7:Bool}{v7 v8 v18 v19 v20 v21 v22 v23:Value}(h:RG W w a b n cap n' cap' m m' pa pb b0 b1 b2 b3 b4 b5 b6 b7 v7 v8 v18 v19 v20 v21 v22 v23)(hb:Below w.heap.size w w'):RG W w' a b n cap n' cap' m m' pa pb b0 b1 b2 b3 b4 b5 b6 b7 v7 v8 v18 v19 v20 v21 v22 v23:=
 ⟨ai h.bel hb,h.f0,h.f1,fun e=>(h.f2 e).kept hb,h.f3,h.f4,fun e=>(h.f5 e).kept hb,h.ap,h.f6,h.f7⟩
def GInv(base G:Nat)(W:World)(Y:Nat)(s7 s8:Value)(wr:World):Prop:=
 ∃a1 n1 c1 a2 n2 c2 X,s7 = .slice a1 n1 c1∧s8 = .slice a2 n2 c2∧Mine wr base a1 n1 c1 X∧Mine wr base a2 n2 c2 Y∧Apart a1 a2∧Y≤X∧Nat.gcd X Y=G∧Below base W wr
theorem kC(a b:Option Addr)(n n' cap cap' m m':Nat)(w:World)(h:Num w a n m)(h':Num w b n' m') :
  Calls Tryz.prog 41 #[.agg #[.slice a n cap],.agg #[.slice b n' cap']] w fun e w'=>(∃a1 n1 c1,e = .returned (.tuple #[.agg #[.slice a1 n1 c1],.int .i64 0])∧Mine w' w.heap.size a1 n1 c1 (Nat.gcd m m'))∧Below w.heap.size w w':=by
 have HK:=hide (fun (o1 o2 o3:Obj)=>iQ a b n n' cap cap' m m' (((w.alloc o1).alloc o2).alloc o3) (((h.alloc _).alloc _).alloc _) (((h'.alloc _).alloc _).alloc _));have HN:=hide (And.intro h h');clear h h';go_enter Tryz.func41,Tryz.ntmps41
 go_wp2_with fail
 refine (aa HK _ _ _).mono ?_;rintro e w1 ⟨rfl,hb1⟩;have hxa:=(((aQ.made w (.slice a n cap)).alloc (.cells #[.slice b n' cap'] 27)).alloc (.cells #[.slice none 0 0] 27)).kept hb1;have hxb:=((aQ.made (w.alloc (.cells #[.slice a n cap] 27)) (.slice b n' cap')).alloc (.cells #[.slice none 0 0] 27)).kept hb1;have hxr:=(aQ.made ((w.alloc (.cells #[.slice a n cap] 27)).alloc (.cells #[.slice b n' cap'] 27)) (.slice none 0 0)).kept hb1;simp only [World.size_alloc] at hxa hxb hxr;have HB:=hide (ai (ai (ai (ah w (.cells #[.slice a n cap] 27)) (ah _ (.cells #[.slice b n' cap'] 27))) (ah _ (.cells #[.slice none 0 0] 27))) hb1);clear hb1 HK;go_wp2_with fail
 refine wp_region_any (by kernel_rfl) ?_;change wpAny _ _ _ _ _ _ _ (World.drew _);have hxa':=hxa.drew';have hxb':=hxb.drew';have hxr':=hxr.drew';have HB':=hide (aa HB).drew;clear hxa hxb hxr HB;generalize w1.drew=W at *;have HN1:=hide ((aa HN).1.kept (aa HB'));have HN2:=hide ((aa HN).2.kept (aa HB'));clear HN;refine iG (fun l act w'=>∃(b0 b1 b2 b3 b4 b5 b6 b7:Bool) (v7 v8 v18 v19 v20 v21 v22 v23:Value),l = #[b0,b1,b2,b3,b4,b5,b6,b7]∧act = { tmps:=#[Value.agg #[Value.slice a n cap],Value.agg #[Value.slice b n' cap'],Value.pointer (some ⟨w.heap.size,0,none⟩),Value.pointer (some ⟨w.heap.size+1,0,none⟩),Value.pointer (some ⟨w.heap.size+1+1,0,none⟩),Value.int IntKind.i64 0,Value.int IntKind.i64 0,v7,v8,undef,undef,Value.agg #[Value.slice a n cap],Value.agg #[Value.slice b n' cap'],Value.int IntKind.i64 0,Value.int IntKind.i64 0,Value.bool false,undef,undef,v18,v19,v20,v21,v22,v23,undef,undef,undef,undef,undef,undef,undef,undef,undef,undef,undef,undef,undef,undef,undef,undef,undef,undef,undef,undef,undef,undef,undef,undef,undef,undef,undef,undef,undef,undef,undef,undef,undef],defers:=[] }∧RG W w' a b n cap n' cap' m m' w.heap.size (w.heap.size+1) b0 b1 b2 b3 b4 b5 b6 b7 v7 v8 v18 v19 v20 v21 v22 v23) ?_ ?_ _ _ _ _ ?_ ?_
 ·rintro l act w' i ⟨b0,b1,b2,b3,b4,b5,b6,b7,v7,v8,v18,v19,v20,v21,v22,v23,rfl,rfl,hR⟩ hi hl;have hi8:i<8:=by
   by_cases h:i<8
   ·exact h
   ·rw [Array.getElem?_eq_none (by simp;omega)] at hl;cases hl
  have hcase:i=0∨i=1∨i=2∨i=3∨i=4∨i=5∨i=6∨i=7:=by omega
  rcases hcase with rfl|rfl|rfl|rfl|rfl|rfl|rfl|rfl
  ·refine wpOp_step rfl fun K hK=>?_;go_simp
   exact hK _ _ ⟨true,b1,b2,b3,b4,b5,b6,b7,v7,v8,_,v19,v20,v21,v22,v23,rfl,rfl,⟨hR.bel,fun _=>rfl,hR.f1,hR.f2,hR.f3,hR.f4,hR.f5,hR.ap,hR.f6,hR.f7⟩⟩
  ·obtain ⟨o,ho,hd⟩:=(mem_ready.1 hi).2;cases ho;have e0:b0=true:=hd ⟨0,.data⟩ (by simp) rfl;clear hd;obtain rfl:=hR.f0 e0;have hc:=(hxa'.kept hR.bel).cell;refine wpOp_step rfl fun K hK=>?_;go_simp
   exact hK _ _ ⟨b0,true,b2,b3,b4,b5,b6,b7,v7,v8,_,_,v20,v21,v22,v23,rfl,rfl,⟨hR.bel,hR.f0,fun _=>rfl,hR.f2,hR.f3,hR.f4,hR.f5,hR.ap,hR.f6,hR.f7⟩⟩
  ·obtain ⟨o,ho,hd⟩:=(mem_ready.1 hi).2;cases ho;have e1:b1=true:=hd ⟨1,.data⟩ (by simp) rfl;clear hd;have e2:b2=false:=by simpa using hl
   obtain rfl:=hR.f1 e1;have hn1:=(aa HN1).kept hR.bel;refine wpOp_step rfl fun K hK=>?_;go_simp
   go_wp2_with fail
   refine (gB a n cap m w' hn1).mono ?_;rintro e w2 ⟨⟨a2,c2,rfl,hm2⟩,hb2⟩;have hR2:=hR.kept hb2;have hN2:lL w2 W.heap.size (.slice a2 n c2) n m:=⟨a2,c2,rfl,hm2.mono hR.bel.size⟩;exact hK _ _ ⟨b0,b1,true,b3,b4,b5,b6,b7,v7,v8,v18,_,_,v21,v22,v23,rfl,rfl,⟨hR2.bel,hR2.f0,hR2.f1,fun _=>hN2,hR2.f3,hR2.f4,hR2.f5,fun _ e=>(vo (hR.f5 e) hm2).2,fun e=>absurd (hR.f6 e).1 (by rw [e2];decide),hR2.f7⟩⟩
  ·refine wpOp_step rfl fun K hK=>?_;go_simp
   exact hK _ _ ⟨b0,b1,b2,true,b4,b5,b6,b7,v7,v8,v18,v19,v20,_,v22,v23,rfl,rfl,⟨hR.bel,hR.f0,hR.f1,hR.f2,fun _=>rfl,hR.f4,hR.f5,hR.ap,hR.f6,hR.f7⟩⟩
  ·obtain ⟨o,ho,hd⟩:=(mem_ready.1 hi).2;cases ho;have e3:b3=true:=hd ⟨3,.data⟩ (by simp) rfl;clear hd;obtain rfl:=hR.f3 e3;have hc:=(hxb'.kept hR.bel).cell;refine wpOp_step rfl fun K hK=>?_;go_simp
   exact hK _ _ ⟨b0,b1,b2,b3,true,b5,b6,b7,v7,v8,v18,v19,v20,_,_,v23,rfl,rfl,⟨hR.bel,hR.f0,hR.f1,hR.f2,hR.f3,fun _=>rfl,hR.f5,hR.ap,hR.f6,hR.f7⟩⟩
  ·obtain ⟨o,ho,hd⟩:=(mem_ready.1 hi).2;cases ho;have e4:b4=true:=hd ⟨4,.data⟩ (by simp) rfl;clear hd;have e5:b5=false:=by simpa using hl
   obtain rfl:=hR.f4 e4;have hn1:=(aa HN2).kept hR.bel;refine wpOp_step rfl fun K hK=>?_;go_simp
   go_wp2_with fail
   refine (gB b n' cap' m' w' hn1).mono ?_;rintro e w2 ⟨⟨a2,c2,rfl,hm2⟩,hb2⟩;have hR2:=hR.kept hb2;have hN2:lL w2 W.heap.size (.slice a2 n' c2) n' m':=⟨a2,c2,rfl,hm2.mono hR.bel.size⟩;exact hK _ _ ⟨b0,b1,b2,b3,b4,true,b6,b7,v7,v8,v18,v19,v20,v21,_,_,rfl,rfl,⟨hR2.bel,hR2.f0,hR2.f1,hR2.f2,hR2.f3,hR2.f4,fun _=>hN2,fun e _=>(vo (hR.f2 e) hm2).1,hR2.f6,fun e=>absurd (hR.f7 e).1 (by rw [e5];decide)⟩⟩
  ·obtain ⟨o,ho,hd⟩:=(mem_ready.1 hi).2;cases ho;have e2:b2=true:=hd ⟨2,.data⟩ (by simp) rfl;clear hd;refine wpOp_step rfl fun K hK=>?_;go_simp
   exact hK _ _ ⟨b0,b1,b2,b3,b4,b5,true,b7,_,v8,v18,v19,v20,v21,v22,v23,rfl,rfl,⟨hR.bel,hR.f0,hR.f1,hR.f2,hR.f3,hR.f4,hR.f5,hR.ap,fun _=>⟨e2,rfl⟩,hR.f7⟩⟩
  ·obtain ⟨o,ho,hd⟩:=(mem_ready.1 hi).2;cases ho;have e5:b5=true:=hd ⟨5,.data⟩ (by simp) rfl;clear hd;refine wpOp_step rfl fun K hK=>?_;go_simp
   exact hK _ _ ⟨b0,b1,b2,b3,b4,b5,b6,true,v7,_,v18,v19,v20,v21,v22,v23,rfl,rfl,⟨hR.bel,hR.f0,hR.f1,hR.f2,hR.f3,hR.f4,hR.f5,hR.ap,hR.f6,fun _=>⟨e5,rfl⟩⟩⟩
 ·rintro l act w' ⟨b0,b1,b2,b3,b4,b5,b6,b7,v7,v8,v18,v19,v20,v21,v22,v23,rfl,rfl,hR⟩ hr;have e0:b0=true:=ready_nil (i:=0) hr rfl (by intro e he hb;simp at he;(try (repeat' (rcases he with rfl|he)));all_goals (first|assumption|(exact absurd hb (by decide))));have e1:b1=true:=ready_nil (i:=1) hr rfl (by intro e he hb;simp at he;(try (repeat' (rcases he with rfl|he)));all_goals (first|assumption|(exact absurd hb (by decide))));have e2:b2=true:=ready_nil (i:=2) hr rfl (by intro e he hb;simp at he;(try (repeat' (rcases he with rfl|he)));all_goals (first|assumption|(exact absurd hb (by decide))));have e3:b3=true:=ready_nil (i:=3) hr rfl (by intro e he hb;simp at he;(try (repeat' (rcases he with rfl|he)));all_goals (first|assumption|(exact absurd hb (by decide))));have e4:b4=true:=ready_nil (i:=4) hr rfl (by intro e he hb;simp at he;(try (repeat' (rcases he with rfl|he)));all_goals (first|assumption|(exact absurd hb (by decide))));have e5:b5=true:=ready_nil (i:=5) hr rfl (by intro e he hb;simp at he;(try (repeat' (rcases he with rfl|he)));all_goals (first|assumption|(exact absurd hb (by decide))));have e6:b6=true:=ready_nil (i:=6) hr rfl (by intro e he hb;simp at he;(try (repeat' (rcases he with rfl|he)));all_goals (first|assumption|(exact absurd hb (by decide))));have e7:b7=true:=ready_nil (i:=7) hr rfl (by intro e he hb;simp at he;(try (repeat' (rcases he with rfl|he)));all_goals (first|assumption|(exact absurd hb (by decide))));obtain ⟨_,rfl⟩:=hR.f6 e6;obtain ⟨_,rfl⟩:=hR.f7 e7;obtain ⟨a1,c1,rfl,hm1⟩:=hR.f2 e2;obtain ⟨a2,c2,rfl,hm2⟩:=hR.f5 e5;have hap:Apart a1 a2:=hR.ap e2 e5 _ _ _ _ _ _ rfl rfl;have hbel:=hR.bel;clear hr hR;have hn1:=hm1.num;have hn2:=hm2.num;have hrlt:w.heap.size+1+1<W.heap.size:=hxr'.lt;have HA:=hide (And.intro hm1 (And.intro hm2 (And.intro hap hbel)));clear hm1 hm2 hap hbel hxa' hxb';by_cases hlt:m<m'
  ·have hcm:=ko hlt;have HLT:=hide hlt;clear hlt;go_wp2_with fail
   refine (bZ a1 a2 n n' c1 c2 m m' w' hn1 hn2).mono ?_;rintro e w4 ⟨rfl,hb4⟩;rw [hcm];clear hn1 hn2;go_wp2
   go_loopg [7,8] m (fun g s7 s8 wr=>GInv W.heap.size (Nat.gcd m m') W g s7 s8 wr)
   case atStart=>exact (by obtain ⟨q1,q2,q3,q4⟩:=aa HA;exact ⟨a2,n',c2,a1,n,c1,m',rfl,rfl,q2.kept hb4,q1.kept hb4,fun g h e1 e2=>Ne.symm (q3 h g e2 e1),Nat.le_of_lt (aa HLT),Nat.gcd_comm _ _,ai q4 hb4⟩)
   case round=>
    obtain ⟨x1,l1,d1,x2,l2,d2,X,rfl,rfl,hX,hY,hap2,hYX,hG,hbel2⟩:=hrel;have hby:=hxr'.under hbel2 hrlt;have hY2:=hY.num.len;by_cases hl:2<l2
    ·have hli:(2:Int)<(l2:Int):=by omega
     have HL:=hide (oz W.heap.size l1 l2 d1 d2 X gk x1 x2 wr hX hY (hide hap2) hYX hl hbel2.size);have HG:=hide hG;clear hX hY hG hap2 hl;go_wp2_with fail
     refine (aa HL).mono ?_;rintro e w5 ⟨⟨y1,k1,f1,y2,k2,f2,X',Y',rfl,hX',hY',hap',hg',hlt',hlt2'⟩,hb5⟩;have HI:Hid (GInv W.heap.size (Nat.gcd m m') W Y' (.slice y1 k1 f1) (.slice y2 k2 f2) w5):=hide ⟨y1,k1,f1,y2,k2,f2,X',rfl,rfl,hX',hY',hap',Nat.le_of_lt hlt',hg'.trans (aa HG),hbel2.trans hb5⟩;have HLT:=hide hlt2';clear hX' hY' hap' hg' hlt' hlt2' hb5 HL;go_wp2
     go_roundg Y'
     case measure=>exact aa HLT
     case rel=>exact aa HI
    ·have hli:¬(2:Int)<(l2:Int):=by omega
     have HB5:=hide (ai (aa HB') (hbel2));have hws:w.heap.size≤W.heap.size:=(aa HB').size;by_cases hl0:l2=0
     ·subst hl0;have hg0:gk=0:=hY.num.zero.1 rfl;subst hg0;rw [Nat.gcd_zero_right] at hG;subst hG;have hcx:=hby.cell;have hfx:=hby.frozen;clear hl hli;by_cases hl1:l1=0
      ·subst hl1;have HO:=hide ((hX.mono hws).cut0);have hXz:=hX.num.zero.1 rfl;have HX:=hide hXz;clear hX hY hXz;go_wp2_with fail
       refine (kZ x1 d1 wr).mono ?_;rintro e w6 ⟨rfl,rfl⟩;go_wp2
       refine bodyPost_ret (v:=.tuple #[.agg #[.slice x1 0 0],.int .i64 0]) (by simp [results,Tryz.results41,go_sem,hcx]) rfl ⟨⟨x1,0,0,rfl,[],rfl,(aa HO).setBox hby _,Pl.wf_nil,Pl.norm_nil,?_,by omega⟩,(aa HB5).setCell (Nat.le_add_right _ 2) _⟩;rw [aa HX];rfl
      ·obtain ⟨gx,xs,rfl,hgx,hgxl,hxl,hRx,hxw,hxN,hxv,hxc,hxc2,hxb⟩:=hX.row (by omega);have HV:=hide hxv;clear hX hY hl1 hxv;go_wp2_with fail
       refine (dL gx 0 l1 d1 xs wr hxl hxc hxc2 (fun j hj=>by rw [Nat.zero_add];exact hRx.cell j hj)).mono ?_;rintro e w6 ⟨rfl,q1,hq1,z0,z1,rfl⟩;have HT:=hide (bY hRx (Nat.le_trans hws hgx) (by omega) hxw hq1 z0 z1);have HQ:=hide (show q1≤16384 by omega);clear z0 z1 hq1;go_wp2
       obtain ⟨t1,t2,t3,t4,t5⟩:=aa HT;exact bodyPost_ret (v:=.tuple #[.agg #[.slice (some ⟨gx,0,none⟩) q1 q1],.int .i64 0]) (by simp [results,Tryz.results41,go_sem,hcx]) rfl ⟨⟨_,q1,q1,rfl,_,t1,t2.setBox hby _,t3,t4,t5.trans (aa HV),aa HQ⟩,(aa HB5).setCell (Nat.le_add_right _ 2) _⟩
     ·have hl0i:((l2:Int)==0)=false:=by rw [beq_eq_false_iff_ne];omega
      have hgp:0<gk:=Nat.pos_of_ne_zero (fun e=>hl0 (hY.num.zero.2 e));have hgk:gk<18446744073709551616:=by
       obtain ⟨zs,kn,_,kw,_,kv,_⟩:=hY.num;have h1:=Pl.val_lt kw;have h2:=Pl.pow_le (show zs.length≤2 by omega);rw [kv] at h1;have h3:(4294967296:Nat)^2=18446744073709551616:=by decide
       omega
      have HDv:=hide (ja x1 x2 l1 l2 d1 d2 X gk wr hX.num hY.num hgp);have HY:=hide hY.num;have HG:=hide hG;have hl2:l2≤2:=by omega
      clear hX hY hG hl0 hl;go_wp2_with fail
      refine (aa HDv).mono ?_;rintro e w6 ⟨⟨aq,nq,cq,ar,nr,cr,rfl,hq,hr⟩,hb6⟩;have hrm:X%gk<gk:=Nat.mod_lt _ hgp;have HY6:=hide ((aa HY).kept hb6);have hrn:=hr.num;have HB6:=hide (ai (aa HB5) hb6);have hby6:=hby.kept hb6;clear hq hr hb6 HDv;go_wp2_with fail
      refine (gp x2 l2 d2 gk w6 (aa HY6) hl2).mono ?_;rintro e w6' ⟨rfl,rfl⟩;go_wp2_with fail
      refine (gp ar nr cr (X%gk) w6 hrn (lY hrn (by omega))).mono ?_;rintro e w6' ⟨rfl,rfl⟩;have HRM:=hide hrm;generalize hrr:X%gk=rr at *;have hrrb:rr<18446744073709551616:=by omega
      have HRR:=hide hrr;clear hrr hrn;go_wp2_with fail
      refine (kJ gk rr w6 hgk hrrb).mono ?_;rintro e w7 ⟨rfl,ho7⟩;have hgle:Nat.gcd gk rr<18446744073709551616:=Nat.lt_of_le_of_lt (Nat.gcd_le_left _ hgp) hgk;have hge:Nat.gcd gk rr=Nat.gcd m m':=by rw [←aa HRR,jy];exact aa HG
      have hby7:=hby6.but (ho7 (w.heap.size+1+1+1)) (by omega);have HB7:Hid (Below w.heap.size w w7):=hide (Only.below (aa HB6) (ho7 w6.heap.size) (aa HB6).size);have HGE:=hide hge;have hs7:=(aa HB7).size;generalize Nat.gcd gk rr=gg at *;clear ho7 hge hby6;go_wp2_with fail
      refine (dD gg w7 hgle).mono ?_;rintro e w8 ⟨⟨a8,n8,c8,rfl,hm8⟩,hb8⟩;rw [aa HGE] at hm8;have hby8:=hby7.kept hb8;have hcx:=hby8.cell;have hfx:=hby8.frozen;have HM8:=hide (hm8.mono hs7);have HB8:=hide (ai (aa HB7) hb8);clear hm8 hb8;go_wp2
      exact bodyPost_ret (v:=.tuple #[.agg #[.slice a8 n8 c8],.int .i64 0]) (by simp [results,Tryz.results41,go_sem,hcx]) rfl ⟨⟨_,_,_,rfl,(aa HM8).setBox hby8 _⟩,(aa HB8).setCell (Nat.le_add_right _ 2) _⟩
  ·have hcm:=yP (Nat.not_lt.1 hlt);have HLT:=hide (Nat.not_lt.1 hlt);clear hlt;go_wp2_with fail
   refine (bZ a1 a2 n n' c1 c2 m m' w' hn1 hn2).mono ?_;rintro e w4 ⟨rfl,hb4⟩;clear hn1 hn2;go_wp2
   go_loopg [7,8] m' (fun g s7 s8 wr=>GInv W.heap.size (Nat.gcd m m') W g s7 s8 wr)
   case atStart=>exact (by obtain ⟨q1,q2,q3,q4⟩:=aa HA;exact ⟨a1,n,c1,a2,n',c2,m,rfl,rfl,q1.kept hb4,q2.kept hb4,q3,aa HLT,rfl,ai q4 hb4⟩)
   case round=>
    obtain ⟨x1,l1,d1,x2,l2,d2,X,rfl,rfl,hX,hY,hap2,hYX,hG,hbel2⟩:=hrel;have hby:=hxr'.under hbel2 hrlt;have hY2:=hY.num.len;by_cases hl:2<l2
    ·have hli:(2:Int)<(l2:Int):=by omega
     have HL:=hide (oz W.heap.size l1 l2 d1 d2 X gk x1 x2 wr hX hY (hide hap2) hYX hl hbel2.size);have HG:=hide hG;clear hX hY hG hap2 hl;go_wp2_with fail
     refine (aa HL).mono ?_;rintro e w5 ⟨⟨y1,k1,f1,y2,k2,f2,X',Y',rfl,hX',hY',hap',hg',hlt',hlt2'⟩,hb5⟩;have HI:Hid (GInv W.heap.size (Nat.gcd m m') W Y' (.slice y1 k1 f1) (.slice y2 k2 f2) w5):=hide ⟨y1,k1,f1,y2,k2,f2,X',rfl,rfl,hX',hY',hap',Nat.le_of_lt hlt',hg'.trans (aa HG),hbel2.trans hb5⟩;have HLT:=hide hlt2';clear hX' hY' hap' hg' hlt' hlt2' hb5 HL;go_wp2
     go_roundg Y'
     case measure=>exact aa HLT
     case rel=>exact aa HI
    ·have hli:¬(2:Int)<(l2:Int):=by omega
     have HB5:=hide (ai (aa HB') (hbel2));have hws:w.heap.size≤W.heap.size:=(aa HB').size;by_cases hl0:l2=0
     ·subst hl0;have hg0:gk=0:=hY.num.zero.1 rfl;subst hg0;rw [Nat.gcd_zero_right] at hG;subst hG;have hcx:=hby.cell;have hfx:=hby.frozen;clear hl hli;by_cases hl1:l1=0
      ·subst hl1;have HO:=hide ((hX.mono hws).cut0);have hXz:=hX.num.zero.1 rfl;have HX:=hide hXz;clear hX hY hXz;go_wp2_with fail
       refine (kZ x1 d1 wr).mono ?_;rintro e w6 ⟨rfl,rfl⟩;go_wp2
       refine bodyPost_ret (v:=.tuple #[.agg #[.slice x1 0 0],.int .i64 0]) (by simp [results,Tryz.results41,go_sem,hcx]) rfl ⟨⟨x1,0,0,rfl,[],rfl,(aa HO).setBox hby _,Pl.wf_nil,Pl.norm_nil,?_,by omega⟩,(aa HB5).setCell (Nat.le_add_right _ 2) _⟩;rw [aa HX];rfl
      ·obtain ⟨gx,xs,rfl,hgx,hgxl,hxl,hRx,hxw,hxN,hxv,hxc,hxc2,hxb⟩:=hX.row (by omega);have HV:=hide hxv;clear hX hY hl1 hxv;go_wp2_with fail
       refine (dL gx 0 l1 d1 xs wr hxl hxc hxc2 (fun j hj=>by rw [Nat.zero_add];exact hRx.cell j hj)).mono ?_;rintro e w6 ⟨rfl,q1,hq1,z0,z1,rfl⟩;have HT:=hide (bY hRx (Nat.le_trans hws hgx) (by omega) hxw hq1 z0 z1);have HQ:=hide (show q1≤16384 by omega);clear z0 z1 hq1;go_wp2
       obtain ⟨t1,t2,t3,t4,t5⟩:=aa HT;exact bodyPost_ret (v:=.tuple #[.agg #[.slice (some ⟨gx,0,none⟩) q1 q1],.int .i64 0]) (by simp [results,Tryz.results41,go_sem,hcx]) rfl ⟨⟨_,q1,q1,rfl,_,t1,t2.setBox hby _,t3,t4,t5.trans (aa HV),aa HQ⟩,(aa HB5).setCell (Nat.le_add_right _ 2) _⟩
     ·have hl0i:((l2:Int)==0)=false:=by rw [beq_eq_false_iff_ne];omega
      have hgp:0<gk:=Nat.pos_of_ne_zero (fun e=>hl0 (hY.num.zero.2 e));have hgk:gk<18446744073709551616:=by
       obtain ⟨zs,kn,_,kw,_,kv,_⟩:=hY.num;have h1:=Pl.val_lt kw;have h2:=Pl.pow_le (show zs.length≤2 by omega);rw [kv] at h1;have h3:(4294967296:Nat)^2=18446744073709551616:=by decide
       omega
      have HDv:=hide (ja x1 x2 l1 l2 d1 d2 X gk wr hX.num hY.num hgp);have HY:=hide hY.num;have HG:=hide hG;have hl2:l2≤2:=by omega
      clear hX hY hG hl0 hl;go_wp2_with fail
      refine (aa HDv).mono ?_;rintro e w6 ⟨⟨aq,nq,cq,ar,nr,cr,rfl,hq,hr⟩,hb6⟩;have hrm:X%gk<gk:=Nat.mod_lt _ hgp;have HY6:=hide ((aa HY).kept hb6);have hrn:=hr.num;have HB6:=hide (ai (aa HB5) hb6);have hby6:=hby.kept hb6;clear hq hr hb6 HDv;go_wp2_with fail
      refine (gp x2 l2 d2 gk w6 (aa HY6) hl2).mono ?_;rintro e w6' ⟨rfl,rfl⟩;go_wp2_with fail
      refine (gp ar nr cr (X%gk) w6 hrn (lY hrn (by omega))).mono ?_;rintro e w6' ⟨rfl,rfl⟩;have HRM:=hide hrm;generalize hrr:X%gk=rr at *;have hrrb:rr<18446744073709551616:=by omega
      have HRR:=hide hrr;clear hrr hrn;go_wp2_with fail
      refine (kJ gk rr w6 hgk hrrb).mono ?_;rintro e w7 ⟨rfl,ho7⟩;have hgle:Nat.gcd gk rr<18446744073709551616:=Nat.lt_of_le_of_lt (Nat.gcd_le_left _ hgp) hgk;have hge:Nat.gcd gk rr=Nat.gcd m m':=by rw [←aa HRR,jy];exact aa HG
      have hby7:=hby6.but (ho7 (w.heap.size+1+1+1)) (by omega);have HB7:Hid (Below w.heap.size w w7):=hide (Only.below (aa HB6) (ho7 w6.heap.size) (aa HB6).size);have HGE:=hide hge;have hs7:=(aa HB7).size;generalize Nat.gcd gk rr=gg at *;clear ho7 hge hby6;go_wp2_with fail
      refine (dD gg w7 hgle).mono ?_;rintro e w8 ⟨⟨a8,n8,c8,rfl,hm8⟩,hb8⟩;rw [aa HGE] at hm8;have hby8:=hby7.kept hb8;have hcx:=hby8.cell;have hfx:=hby8.frozen;have HM8:=hide (hm8.mono hs7);have HB8:=hide (ai (aa HB7) hb8);clear hm8 hb8;go_wp2
      exact bodyPost_ret (v:=.tuple #[.agg #[.slice a8 n8 c8],.int .i64 0]) (by simp [results,Tryz.results41,go_sem,hcx]) rfl ⟨⟨_,_,_,rfl,(aa HM8).setBox hby8 _⟩,(aa HB8).setCell (Nat.le_add_right _ 2) _⟩
 ·simp
 ·refine ⟨false,false,false,false,false,false,false,false,undef,undef,undef,undef,undef,undef,undef,undef,rfl,rfl,?_⟩;constructor
  ·exact dJ W
  all_goals (intro h;cases h)
end Go.Proofs.YtaidedkpfnidpaaGreatDoor
