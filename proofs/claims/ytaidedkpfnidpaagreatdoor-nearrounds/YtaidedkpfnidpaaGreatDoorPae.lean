/- Of what NearRoundsRow stands on: Mul Compare Guess GcdWords LehMath Foretell Take Div QMath Sub. -/
import Derived.Test.YtaidedkpfnidpaaGreatDoorPad
import Derived.BigQuiet
namespace Go.Proofs.YtaidedkpfnidpaaGreatDoor
open Go.RowKit
set_option maxHeartbeats 1000000
theorem xB{xs ys:List Nat}(hx:Pl.Norm xs)(hy:Pl.Norm ys)(px:0<xs.length)(py:0<ys.length)(h:16384<xs.length+ys.length-1):Over (Pl.val xs*Pl.val ys):=by
 have h1:=Pl.norm_lower hx px;have h2:=Pl.norm_lower hy py;have h3:=Nat.mul_le_mul h1 h2;rw [←Nat.pow_add] at h3;exact ⟨Nat.le_trans (Pl.pow_le (by rw [Pl.top_eq];omega)) h3⟩
theorem nE(w:World)(base:Nat):Mine w base none 0 0 0:=⟨[],rfl,Or.inl ⟨rfl,rfl⟩,Pl.wf_nil,Pl.norm_nil,rfl,by omega⟩
theorem wB(a a':Option Addr)(cap cap':Nat)(xs ys:List Nat)(w:World)(hl:bE w a xs)(hl':bE w a' ys)(hN:Pl.Norm xs)(hN':Pl.Norm ys)(hb:xs.length≤16384)(hb':ys.length≤16384)(h0:xs = []∨ys = []) :
  Calls Tryz.prog 118 #[.agg #[.slice a xs.length cap],.agg #[.slice a' ys.length cap']] w fun e w'=>ib w' w.heap.size e (Pl.val xs*Pl.val ys)∧Below w.heap.size w w':=by
 have hz:(fU xs ys != 0)=false:=by rw [eB (bC hb hN) (bC hb' hN')];rfl
 have hv:Pl.val xs*Pl.val ys=0:=by rcases h0 with rfl|rfl<;>simp [Pl.val]
 rw [hv];clear hv;by_cases hx:xs = []
 ·subst hx;clear h0;go_enter Tryz.func118,Tryz.ntmps118
  go_wp2_with fail
  refine (bq a a' cap cap' [] ys _ (by simp) (by omega) (((hl.alloc _).alloc _).alloc _) (((hl'.alloc _).alloc _).alloc _)).mono ?_;rintro e w1 ⟨rfl,hb1⟩;obtain ⟨hc1,hf1⟩:=bO hb1;have hB:=hide (ai (ai (ai (ah _ _) (ah _ _)) (ah _ _)) hb1);clear hb1;go_wp2_with fail
  go_quiet (fail)
  go_wp2
  exact bodyPost_ret (v:=.tuple #[.agg #[.slice none 0 0],.int .i64 0]) (by simp [results,Tryz.results118,go_sem,hc1]) rfl ⟨Or.inl ⟨_,_,_,rfl,nE _ _⟩,(below_drewN (aa hB) nq).setCell (by simp;omega) _⟩
 ·have hy:ys = []:=h0.resolve_left hx;subst hy;have hxl:((xs.length:Int)==0)=false:=by simpa using hx
  clear h0;go_enter Tryz.func118,Tryz.ntmps118
  go_wp2_with fail
  refine (bq a a' cap cap' xs [] _ (by omega) (by simp) (((hl.alloc _).alloc _).alloc _) (((hl'.alloc _).alloc _).alloc _)).mono ?_;rintro e w1 ⟨rfl,hb1⟩;obtain ⟨hc1,hf1⟩:=bO hb1;have hB:=hide (ai (ai (ai (ah _ _) (ah _ _)) (ah _ _)) hb1);clear hb1;go_wp2_with fail
  go_quiet (fail)
  go_wp2
  exact bodyPost_ret (v:=.tuple #[.agg #[.slice none 0 0],.int .i64 0]) (by simp [results,Tryz.results118,go_sem,hc1]) rfl ⟨Or.inl ⟨_,_,_,rfl,nE _ _⟩,(below_drewN (aa hB) nq).setCell (by simp;omega) _⟩
theorem AC(b off b' off' cap cap':Nat)(xs ys:List Nat)(w:World)(hp:0<xs.length)(hp':0<ys.length)(hlt:b<w.heap.size)(hlt':b'<w.heap.size)(hc:∀j,j<xs.length→w.cell? ⟨b,off+j,none⟩=some (.int .u32 ((xs[j]?.getD 0:Nat):Int)))(hc':∀j,j<ys.length→w.cell? ⟨b',off'+j,none⟩=some (.int .u32 ((ys[j]?.getD 0:Nat):Int)))(hw:Pl.Wf xs)(hw':Pl.Wf ys)(hN:Pl.Norm xs)(hN':Pl.Norm ys)(hb:xs.length≤16384)(hb':ys.length≤16384) :
  Calls Tryz.prog 118 #[.agg #[.slice (some ⟨b,off,none⟩) xs.length cap],.agg #[.slice (some ⟨b',off',none⟩) ys.length cap']] w fun e w'=>ib w' w.heap.size e (Pl.val xs*Pl.val ys)∧Below w.heap.size w w':=by
 have hz:(fU xs ys != 0)=false:=by rw [eB (bC hb hN) (bC hb' hN')];rfl
 have hl:bE w (some ⟨b,off,none⟩) xs:=Or.inr ⟨b,off,rfl,hc⟩;have hl':bE w (some ⟨b',off',none⟩) ys:=Or.inr ⟨b',off',rfl,hc'⟩;have hxl:((xs.length:Int)==0)=false:=by simp;intro h;simp [h] at hp
 have hyl:((ys.length:Int)==0)=false:=by simp;intro h;simp [h] at hp'
 have HC:=hide hc;have HC':=hide hc';clear hc hc';go_enter Tryz.func118,Tryz.ntmps118
 go_wp2_with fail
 refine (bq _ _ cap cap' xs ys _ (by omega) (by omega) (((hl.alloc _).alloc _).alloc _) (((hl'.alloc _).alloc _).alloc _)).mono ?_;rintro e w1 ⟨rfl,hb1⟩;obtain ⟨hc1,hf1⟩:=bO hb1;have hs1:w.heap.size+1+1<w1.heap.size:=by have:=hb1.size;simp at this;omega
 have hB:=hide (ai (ai (ai (ah _ _) (ah _ _)) (ah _ _)) hb1);clear hb1;go_wp2_with fail
 go_quiet (fail)
 by_cases hbig:xs.length+ys.length-1≤16384
 ·go_wp2_with fail
  have hQ:w1.cell? ⟨w.heap.size+1+1,0,none⟩=some (.slice none 0 0):=by rw [hc1 _ _ (by simp)];simp [go_sem]
  have hF:w1.frozen? ⟨w.heap.size+1+1,0,none⟩=false:=by rw [hf1 _ _ (by simp)];simp [go_sem]
  have hX:∀j,j<xs.length→(w1.drewN nq).cell? ⟨b,off+j,none⟩=some (.int .u32 ((xs[j]?.getD 0:Nat):Int)):=fun j hj=>((aa hB).cell (by exact hlt)).trans (aa HC j hj);have hY:∀j,j<ys.length→(w1.drewN nq).cell? ⟨b',off'+j,none⟩=some (.int .u32 ((ys[j]?.getD 0:Nat):Int)):=fun j hj=>((aa hB).cell (by exact hlt')).trans (aa HC' j hj);have hsw:w.heap.size≤w1.heap.size:=(aa hB).size;refine (uj b off cap b' off' cap' xs ys (w1.drewN nq) hp hb hb' hw hw' (by exact Nat.lt_of_lt_of_le hlt hsw) (by exact Nat.lt_of_lt_of_le hlt' hsw) hX hY).mono ?_;rintro e w2 ⟨zs,rfl,hzl,wz,hzv,hrz,hb2⟩;have HV:=hide hzv;clear hzv hX hY;go_wp2_with fail
  refine (gI _ w1.heap.size _ _ zs w2 hzl hrz (Nat.le_refl _) (Nat.le_refl _) (by omega) wz).mono ?_;rintro e w3 ⟨hans,hb3⟩;have hB3:=ai hb2 hb3;have hq:w3.cell? ⟨w.heap.size+1+1,0,none⟩=some (.slice none 0 0):=(hB3.cell (p:=⟨w.heap.size+1+1,0,none⟩) hs1).trans hQ;have hf:w3.frozen? ⟨w.heap.size+1+1,0,none⟩=false:=(hB3.frozen (p:=⟨w.heap.size+1+1,0,none⟩) hs1).trans hF;have hBB:=hide (ai (below_drewN (aa hB) nq) hB3);rw [aa HV] at hans;clear hb2 hb3 hB3 hrz hzl wz hc1 hf1;rcases hans with ⟨a3,n3,cap3,rfl,hm⟩|⟨rfl,hm⟩
  ·have HM:=hide hm;clear hm;go_wp2
   exact bodyPost_ret (v:=.tuple #[.agg #[.slice a3 n3 cap3],.int .i64 0]) (by simp [results,Tryz.results118,go_sem,hq]) rfl ⟨Or.inl ⟨_,_,_,rfl,((aa HM).set hs1 _).mono hsw⟩,(aa hBB).setCell (by simp;omega) _⟩
  ·have HM:=hide hm;clear hm;go_wp2
   exact bodyPost_ret (v:=.tuple #[.agg #[.slice none 0 0],.int .i64 4]) (by simp [results,Tryz.results118,go_sem,hq]) rfl ⟨Or.inr ⟨rfl,aa HM⟩,(aa hBB).setCell (by simp;omega) _⟩
 ·go_wp2
  exact bodyPost_ret (v:=.tuple #[.agg #[.slice none 0 0],.int .i64 4]) (by simp [results,Tryz.results118,go_sem,hc1]) rfl ⟨Or.inr ⟨rfl,xB hN hN' hp hp' (by omega)⟩,(below_drewN (aa hB) nq).setCell (by simp;omega) _⟩
theorem j6(a a':Option Addr)(n n' cap cap' m m':Nat)(w:World)(h:Num w a n m)(h':Num w a' n' m') :
  Calls Tryz.prog 118 #[.agg #[.slice a n cap],.agg #[.slice a' n' cap']] w fun e w'=>ib w' w.heap.size e (m*m')∧Below w.heap.size w w':=by
 obtain ⟨xs,hn,hl,hw,hN,hv,hb⟩:=h;obtain ⟨ys,hn',hl',hw',hN',hv',hb'⟩:=h';subst hn hn' hv hv';rcases hl.parts with hx|⟨hp,b,off,rfl,hlt,hc⟩
 ·exact wB a a' cap cap' xs ys w hl hl' hN hN' hb hb' (Or.inl hx)
 ·rcases hl'.parts with hy|⟨hp',b',off',rfl,hlt',hc'⟩
  ·exact wB _ a' cap cap' xs ys w hl hl' hN hN' hb hb' (Or.inr hy)
  ·exact AC b off b' off' cap cap' xs ys w hp hp' hlt hlt' hc hc' hw hw' hN hN' hb hb'
def bW(m k:Nat):Int:=if m<k then -1 else if m=k then 0 else 1
theorem ve{xs ys:List Nat}(hx:Pl.Wf xs)(hy:Pl.Norm ys)(h:xs.length<ys.length):Pl.val xs<Pl.val ys:=by
 have h1:=Pl.val_lt hx;have h2:=Pl.norm_lower hy (by omega);have h3:=Pl.pow_le (show xs.length≤ys.length-1 by omega);omega
theorem yV{xs ys:List Nat}(hx:Pl.Wf xs)(k:Nat)(hl:xs.length=ys.length)(hk:k<xs.length)(hd:xs.drop (k+1)=ys.drop (k+1))(h:xs[k]?.getD 0<ys[k]?.getD 0):Pl.val xs<Pl.val ys:=by
 rw [Pl.val_split xs k (by omega),Pl.val_split ys k (by omega),Pl.drop_cons xs k hk,Pl.drop_cons ys k (by omega),hd];have h1:=Pl.val_lt (Pl.wf_take hx k);rw [List.length_take,Nat.min_eq_left (by omega)] at h1;simp only [Pl.val];have h2:=Nat.mul_le_mul_left (4294967296^k) (show xs[k]?.getD 0+4294967296*Pl.val (ys.drop (k+1))+1≤ys[k]?.getD 0+4294967296*Pl.val (ys.drop (k+1)) by omega);rw [Nat.mul_add,Nat.mul_one] at h2;omega
theorem ko{m k:Nat}(h:m<k):bW m k = -1:=by rw [bW,if_pos h]
theorem kF{m k:Nat}(h:k<m):bW m k=1:=by rw [bW,if_neg (by omega),if_neg (by omega)]
theorem jm(m:Nat):bW m m=0:=by rw [bW,if_neg (by omega),if_pos rfl]
theorem kT(b:Bool)(w:World):Calls Tryz.prog 123 #[.bool b] w fun e w'=>e = .returned (.int .i64 (if b then 1 else -1))∧w'=w:=by
 cases b;all_goals
  go_enter Tryz.func123,Tryz.ntmps123
  go_wp2
  go_ret
  exact ⟨rfl,rfl⟩
theorem tT(b off b' off' cap cap' n:Nat)(xs ys:List Nat)(w:World)(hxn:Hid (xs.length=n))(hyn:Hid (ys.length=n))(hlt:b<w.heap.size)(hlt':b'<w.heap.size)(hx:Pl.Wf xs)(hy:Pl.Wf ys)(hbig:n≤16384)(hc:∀j,j<n→w.cell? ⟨b,off+j,none⟩=some (.int .u32 ((xs[j]?.getD 0:Nat):Int)))(hc':∀j,j<n→w.cell? ⟨b',off'+j,none⟩=some (.int .u32 ((ys[j]?.getD 0:Nat):Int))) :
  Calls Tryz.prog 85 #[.slice (some ⟨b,off,none⟩) n cap,.slice (some ⟨b',off',none⟩) n cap'] w
   fun e w'=>e = .returned (.int .i64 (bW (Pl.val xs) (Pl.val ys)))∧Below w.heap.size w w':=by
 go_enter Tryz.func85,Tryz.ntmps85
 go_wp2
 go_loopw [5] (fun t wr=>∃k:Nat,k≤n∧t = .int .i64 ((k:Int)-1)∧xs.drop k=ys.drop k∧Below w.heap.size w wr) (fun t _=>(intOf t+1).toNat)
 case atStart=>exact ⟨n,Nat.le_refl _,rfl,by rw [List.drop_eq_nil_of_le (by rw [aa hxn];omega),List.drop_eq_nil_of_le (by rw [aa hyn];omega)],dJ _⟩
 case round=>
  obtain ⟨k,hk,rfl,hd,hbel⟩:=hrel;by_cases hk0:k=0
  ·subst hk0;go_wp2
   go_ret
   rw [List.drop_zero,List.drop_zero] at hd;exact ⟨bX (by rw [hd,jm]),hbel⟩
  ·obtain ⟨j,rfl⟩:∃j,k=j+1:=⟨k-1,by omega⟩;obtain ⟨x,hxx⟩:∃x,x=xs[j]?.getD 0:=⟨_,rfl⟩;obtain ⟨y,hyy⟩:∃y,y=ys[j]?.getD 0:=⟨_,rfl⟩;have hcx:wr.cell? ⟨b,off+j,none⟩=some (.int .u32 (x:Int)):=by rw [hxx];exact (hbel.cell (by exact hlt)).trans (hc j (by omega))
   have hcy:wr.cell? ⟨b',off'+j,none⟩=some (.int .u32 (y:Int)):=by rw [hyy];exact (hbel.cell (by exact hlt')).trans (hc' j (by omega))
   have HX:=hide hxx;have HY:=hide hyy;have HD:=hide hd;have hxl:=aa hxn;have hyl:=aa hyn;have hj1:(0:Int)≤(j:Int):=by omega
   have hj2:(j:Int)<(n:Int):=by omega
   have HL:Hid (x=y→xs.drop j=ys.drop j):=fun e=>by
    rw [Pl.drop_cons xs j (by omega),Pl.drop_cons ys j (by omega),hd,←hxx,←hyy,e]
   have HLT:Hid (x<y→Pl.val xs<Pl.val ys):=fun e=>yV hx j (by omega) (by omega) hd (by rw [←hxx,←hyy];exact e);have HGT:Hid (y<x→Pl.val ys<Pl.val xs):=fun e=>yV hy j (by omega) (by omega) hd.symm (by rw [←hxx,←hyy];exact e);clear hxx hyy hd hxl hyl hc hc';go_wp2_with fail
   go_quiet (fail)
   have hbq:=below_drewN hbel nq;have hcx2:(wr.drewN nq).cell? ⟨b,off+j,none⟩=some (.int .u32 (x:Int)):=hcx;have hcy2:(wr.drewN nq).cell? ⟨b',off'+j,none⟩=some (.int .u32 (y:Int)):=hcy;clear hcx hcy;generalize wr.drewN nq=wq at *;by_cases he:x=y
   ·have hne:((x:Int) != (y:Int))=false:=by simp [he]
    have HE:=hide he;clear he;go_wp2
    go_roundw
    case rel=>exact ⟨j,by omega,by go_num,aa HL (aa HE),hbq⟩
    case measure=>simp [intOf]
   ·have hne:((x:Int) != (y:Int))=true:=by simp;omega
    by_cases hlt2:x<y
    ·have hf:decide (y<x)=false:=by simp;omega
     clear he;go_wp2_with fail
     go_quiet ((go_at_call 123;exact Calls.quiet_of_same (kT _ _)))
     go_wp2
     go_ret
     exact ⟨bX (by rw [ko (aa HLT hlt2)]),below_drewN hbq _⟩
    ·have hf:decide (y<x)=true:=by simp;omega
     have hgt:y<x:=by omega
     clear he;go_wp2_with fail
     go_quiet ((go_at_call 123;exact Calls.quiet_of_same (kT _ _)))
     go_wp2
     go_ret
     exact ⟨bX (by rw [kF (aa HGT hgt)]),below_drewN hbq _⟩
theorem bZ(a a':Option Addr)(n n' cap cap' m m':Nat)(w:World)(h:Num w a n m)(h':Num w a' n' m') :
  Calls Tryz.prog 85 #[.slice a n cap,.slice a' n' cap'] w fun e w'=>e = .returned (.int .i64 (bW m m'))∧Below w.heap.size w w':=by
 obtain ⟨xs,hn,hl,hw,hN,hv,hb⟩:=h;obtain ⟨ys,hn',hl',hw',hN',hv',hb'⟩:=h';by_cases he:n=n'
 ·subst he;rcases hl.parts with hx|⟨hp,b,off,rfl,hlt,hc⟩
  ·have hn0:n=0:=by rw [←hn,hx];rfl
   have hy:ys = []:=List.length_eq_zero_iff.1 (by omega);have hm:m=m':=by rw [←hv,←hv',hx,hy]
   subst hm hn0;clear hn hn' hv hv';go_enter Tryz.func85,Tryz.ntmps85
   go_wp2
   refine wp_loop_rounds 1 ?_;rw [rounds_succ];go_wp2
   go_ret
   exact ⟨bX (by rw [jm]),dJ _⟩
  ·rcases hl'.parts with hy|⟨hp',b',off',rfl,hlt',hc'⟩
   ·rw [hy] at hn';simp at hn';omega
   ·rw [←hv,←hv'];exact tT b off b' off' cap cap' n xs ys w (hide hn) (hide hn') hlt hlt' hw hw' hb (fun j hj=>hc j (by omega)) (fun j hj=>hc' j (by omega))
 ·have hne:((n:Int) != (n':Int))=true:=by simp;omega
  by_cases hlt:n<n'
  ·have hc:=ko (ve hw hN' (show xs.length<ys.length by omega));rw [hv,hv'] at hc;have HC:=hide hc;have hf:decide (n'<n)=false:=by simp;omega
   clear hc he hn hn' hv hv';go_enter Tryz.func85,Tryz.ntmps85
   go_wp2_with fail
   refine (kT _ _).mono ?_;rintro e w1 ⟨rfl,rfl⟩;go_wp2
   go_ret
   exact ⟨bX (by rw [aa HC]),dJ _⟩
  ·have hc:=kF (ve hw' hN (show ys.length<xs.length by omega));rw [hv,hv'] at hc;have HC:=hide hc;have hf:decide (n'<n)=true:=by simp;omega
   clear hc he hn hn' hv hv';go_enter Tryz.func85,Tryz.ntmps85
   go_wp2_with fail
   refine (kT _ _).mono ?_;rintro e w1 ⟨rfl,rfl⟩;go_wp2
   go_ret
   exact ⟨bX (by rw [aa HC]),dJ _⟩
structure Dg(q top next p2 p1 p0:Nat):Prop where
 q32:q<4294967296
 pos:0<top
 low:q*top≤p2*4294967296+p1
 mend:∀g l,g*top+l=p2*4294967296+p1→l*4294967296+p0<g*next→q<g
 out:∀g l,g*top+l=p2*4294967296+p1→4294967296≤l→g<4294967296
theorem Am{q top next p2 p1 p0:Nat}(h:Dg q top next p2 p1 p0):q≤(p2*4294967296+p1)/top:=(Nat.le_div_iff_mul_le h.pos).2 h.low
theorem Only.all{w w':World}(h:∀B,Only B w w'){p:Addr}:w'.cell? p=w.cell? p:=(h (p.block+1)).cell (by omega)
theorem Only.drewN{B:Nat}{w w':World}(h:Only B w w')(n:Nat):Only B w (w'.drewN n):=⟨h.os,h.tape,h.output,h.size,h.block⟩
theorem yY(B p b off m cap cap' q top next p2 p1 p0:Nat)(w:World)(hm:m≤20000)(hD:Hid (Dg q top next p2 p1 p0))(ht:top<4294967296)(hnx:next<4294967296)(h2:p2<4294967296)(h1:p1<4294967296)(h0:p0<4294967296)(hpos:0<top)(c2:w.cell? ⟨B,p+(m+2),none⟩=some (.int .u32 (p2:Int)))(c1:w.cell? ⟨B,p+(m+1),none⟩=some (.int .u32 (p1:Int)))(c0:w.cell? ⟨B,p+m,none⟩=some (.int .u32 (p0:Int)))(d1:w.cell? ⟨b,off+(m+1),none⟩=some (.int .u32 (top:Int)))(d0:w.cell? ⟨b,off+m,none⟩=some (.int .u32 (next:Int))) :
  Calls Tryz.prog 156 #[.slice (some ⟨B,p,none⟩) (m+3) cap,.slice (some ⟨b,off,none⟩) (m+2) cap'] w
   fun e w'=>∃g:Nat,e = .returned (.int .u32 (g:Int))∧q≤g∧g<4294967296∧∀C,Only C w w':=by
 go_enter Tryz.func156,Tryz.ntmps156
 go_wp2
 go_quiet (fail)
 replace c2:(w.drewN nq).cell? ⟨B,p+(m+2),none⟩=some (.int .u32 (p2:Int)):=c2;replace c1:(w.drewN nq).cell? ⟨B,p+(m+1),none⟩=some (.int .u32 (p1:Int)):=c1;replace c0:(w.drewN nq).cell? ⟨B,p+m,none⟩=some (.int .u32 (p0:Int)):=c0;have HO:Hid (∀C,Only C w (w.drewN nq)):=hide fun C=>(Only.refl C w).drewN nq;clear d1 d0;generalize w.drewN nq=wa at *;have hor:=kG p2 p1 h2 h1;obtain ⟨high,hh⟩:∃high,high=p2*4294967296+p1:=⟨_,rfl⟩;have hhi:(p2:Int)*4294967296+(p1:Int)=(high:Int):=by omega
 rw [hhi] at hor;have hh1:high<18446744073709551616:=by omega
 have HH:=hide hh;have hqe:(high:Int)/(top:Int)=((high/top:Nat):Int):=(Int.natCast_ediv high top).symm;have hme:(high:Int)%(top:Int)=((high%top:Nat):Int):=(Int.natCast_emod high top).symm;have hq1:high/top<18446744073709551616:=Nat.lt_of_le_of_lt (Nat.div_le_self _ _) hh1;have hm1:high%top<top:=Nat.mod_lt _ hpos;have hq0i:(0:Int)≤(high:Int)/(top:Int):=by rw [hqe];exact Int.natCast_nonneg _
 have hq1i:(high:Int)/(top:Int)<18446744073709551616:=by rw [hqe];omega
 have HQ:=hide (And.intro hqe hme);clear hh hhi hqe hme;go_wp2
 go_quiet (fail)
 replace c0:(wa.drewN nq).cell? ⟨B,p+m,none⟩=some (.int .u32 (p0:Int)):=c0;replace HO:Hid (∀C,Only C w (wa.drewN nq)):=hide fun C=>(aa HO C).drewN nq;clear c2 c1 hor;generalize wa.drewN nq=wb at *;have hg0:Hid (q≤high/top):=by
  have:=Am (aa hD);rw [←aa HH] at this;exact hide this
 go_wp2
 simp only [show m+2-1=m+1 from rfl]
 go_loopw [9,10] (fun t i wr=>∃(g l:Nat),t = .int .u64 (g:Int)∧i = .int .u64 (l:Int)∧g*top+l=high∧q≤g∧l<4294967296∧g<18446744073709551616∧wr=wb) (fun t _ _=>(intOf t).toNat)
 case atStart=>
  obtain ⟨e1,e2⟩:=aa HQ;rw [e1,e2];exact ⟨high/top,high%top,rfl,rfl,Nat.div_add_mod' _ _,aa hg0,by omega,hq1,rfl⟩
 case round=>
  obtain ⟨g,l,rfl,rfl,hgl,hqg,hl,hgb,rfl⟩:=hrel;have hgl':=hgl;rw [aa HH] at hgl';have HM:Hid (l*4294967296+p0<g*next→q<g):=hide ((aa hD).mend g l hgl');have HX:Hid (∀g' l',g'*top+l'=high→4294967296≤l'→g'<4294967296):=hide fun g' l' e h=>(aa hD).out g' l' (by rw [←aa HH];exact e) h;have HS:Hid (∀k,g=k+1→k*top+(l+top)=high):=hide fun k e=>by
   rw [←hgl,e,Nat.add_mul];omega
  have hq32:=(aa hD).q32;have HG:=hide hgl;clear hgl hgl' hq0i hq1i hm1 hq1 HQ;by_cases hbig:4294967296≤g
  ·obtain ⟨k,rfl⟩:∃k,g=k+1:=⟨g-1,by omega⟩;have hb1:(4294967295:Int)<(k:Int)+1:=by omega
   have hs:=aa HS k rfl;have HS':=hide hs;clear hs hbig;by_cases hbr:4294967296≤l+top
   ·have hbr':(4294967295:Int)<(l:Int)+(top:Int):=by omega
    have hk:=aa HX k (l+top) (aa HS') hbr;clear hbr;go_wp2
    go_ret
    exact ⟨k,rfl,by omega,hk,aa HO⟩
   ·have hbr':(l:Int)+(top:Int)≤4294967295:=by omega
    have HL:Hid (l+top<4294967296):=hide (by omega);clear hbr;go_wp2
    go_roundw
    case rel=>exact ⟨k,l+top,rfl,by go_num,aa HS',by omega,aa HL,by omega,trivial⟩
    case measure=>simp [intOf]
  ·obtain ⟨s,hs⟩:∃s,s=l*4294967296+p0:=⟨_,rfl⟩;obtain ⟨t,ht'⟩:∃t,t=g*next:=⟨_,rfl⟩;have hor:=kG l p0 hl h0;rw [show (l:Int)*4294967296+(p0:Int)=(s:Int) by omega] at hor;have hm0:=rF g next;have hm1:=ug (show g<4294967296 by omega) hnx;have hti:(g:Int)*(next:Int)=(t:Int):=by rw [ht',Int.natCast_mul]
   rw [hti] at hm0 hm1;have hsb:s<18446744073709551616:=by omega
   rw [←hs,←ht'] at HM;have hbg:(g:Int)≤4294967295:=by omega
   by_cases hmn:s<t
   ·have hqg':=aa HM hmn;obtain ⟨k,hk⟩:∃k,g=k+1:=⟨g-1,by omega⟩;have hmi:(s:Int)<(t:Int):=by omega
    have hsub:(g:Int)-1=(k:Int):=by omega
    have HS':=hide (aa HS k hk);have HQ':=hide (show q≤k by omega);have hks:k<4294967295:=by omega
    have HKG:=hide (show k<g by omega);clear hmn hbig hs ht' HM hqg' hqg hk;by_cases hbr:4294967296≤l+top
    ·have hbr':(4294967295:Int)<(l:Int)+(top:Int):=by omega
     clear hbr;go_wp2
     go_ret
     refine ⟨k,rfl,aa HQ',by omega,aa HO⟩
    ·have hbr':(l:Int)+(top:Int)≤4294967295:=by omega
     have HL:Hid (l+top<4294967296):=hide (by omega);clear hbr;go_wp2
     go_roundw
     case rel=>exact ⟨k,l+top,rfl,by go_num,aa HS',aa HQ',aa HL,by omega,trivial⟩
     case measure=>have:=aa HKG;simp [intOf];omega
   ·have hmi:(t:Int)≤(s:Int):=by omega
    have HB:Hid (g<4294967296):=hide (by omega);clear hmn hbig hs ht' HM;go_wp2
    go_ret
    exact ⟨g,rfl,hqg,aa HB,aa HO⟩
theorem jy(x y:Nat):Nat.gcd y (x%y)=Nat.gcd x y:=by
 rw [Nat.gcd_comm x y,Nat.gcd_rec y x,Nat.gcd_comm]
theorem Only.allN{w w':World}(h:∀C,Only C w w')(n:Nat):∀C,Only C w (w'.drewN n):=fun C=>(h C).drewN n
theorem kJ(x y:Nat)(w:World)(hx:x<18446744073709551616)(hy:y<18446744073709551616) :
  Calls Tryz.prog 89 #[.int .u64 (x:Int),.int .u64 (y:Int)] w fun e w'=>e = .returned (.int .u64 ((Nat.gcd x y:Nat):Int))∧∀C,Only C w w':=by
 go_enter Tryz.func89,Tryz.ntmps89
 go_wp2
 go_loopw [0,1] (fun a b wr=>∃u v:Nat,a = .int .u64 (u:Int)∧b = .int .u64 (v:Int)∧u<18446744073709551616∧v<18446744073709551616∧Hid (Nat.gcd u v=Nat.gcd x y)∧Hid (∀C,Only C w wr)) (fun _ b _=>(intOf b).toNat)
 case atStart=>exact ⟨x,y,rfl,rfl,hx,hy,rfl,fun C=>Only.refl C w⟩
 case round=>
  obtain ⟨u,v,rfl,rfl,hu,hv,HG,HO⟩:=hrel;by_cases h0:v=0
  ·subst h0;go_wp2
   go_ret
   refine ⟨bX ?_,aa HO⟩;have:=aa HG;rw [Nat.gcd_zero_right] at this;rw [this]
  ·have hv0:((v:Int)==0)=false:=by rw [beq_eq_false_iff_ne];omega
   have hvne:(v:Int)≠0:=by omega
   have hme:(u:Int)%(v:Int)=((u%v:Nat):Int):=(Int.natCast_emod u v).symm;have HME:=hide hme;have hm1:u%v<v:=Nat.mod_lt _ (by omega);have HM:=hide hm1;clear hme h0 hm1;go_wp2
   go_quiet (fail)
   go_wp2
   go_roundw
   case rel=>
    rw [aa HME];have:=aa HM;exact ⟨v,u%v,rfl,rfl,hv,by omega,hide ((jy u v).trans (aa HG)),hide (Only.allN (aa HO) nq)⟩
   case measure=>
    have:=aa HM;rw [aa HME];simp only [intOf,Int.toNat_natCast];exact this
structure jV(x0 y0 A B C D x y:Int):Prop where
 a0:0≤A
 b0:B≤0
 c0:C≤0
 d0:0≤D
 hx:x=A*x0+B*y0
 hy:y=C*x0+D*y0
 det:A*D-B*C=1
 xb:0≤x+B
 yc:0≤y+C
theorem jV.start(x0 y0:Int)(h:0≤x0)(k:0≤y0):jV x0 y0 1 0 0 1 x0 y0:=⟨by omega,by omega,by omega,by omega,by omega,by omega,by omega,by omega,by omega⟩
theorem jV.step{x0 y0 A B C D x y q:Int}(h:jV x0 y0 A B C D x y)(hq:0≤q)(hq2:q*(y+D)≤x+B):jV y0 x0 D C (B-q*D) (A-q*C) y (x-q*y):=by
 have u:q*C≤0:=Int.mul_nonpos_of_nonneg_of_nonpos hq h.c0;have v:0≤q*D:=Int.mul_nonneg hq h.d0;refine ⟨h.d0,h.c0,?_,?_,?_,?_,?_,h.yc,?_⟩
 ·have:=h.b0;omega
 ·have:=h.a0;omega
 ·rw [h.hy];omega
 ·rw [h.hx,h.hy,Int.sub_mul,Int.sub_mul,Int.mul_add,Int.mul_assoc,Int.mul_assoc];omega
 ·have:=h.det;rw [Int.mul_sub,Int.mul_sub,Int.mul_left_comm D q C,Int.mul_left_comm C q D,Int.mul_comm D C,Int.mul_comm D A,Int.mul_comm C B];omega
 ·rw [Int.mul_add] at hq2;omega
theorem qx{A B C D x y H xl yl q:Int}(a0:0≤A)(b0:B≤0)(c0:C≤0)(d0:0≤D)(hq:0≤q)(hH:0<H)(hxl:0≤xl)(hxl2:xl≤H)(hyl:0≤yl)(hyl2:yl≤H)(h1:x+A<(q+1)*(y+C))(h2:q*(y+D)≤x+B) :
  0≤(x*H+A*xl+B*yl)-q*(y*H+C*xl+D*yl)∧(x*H+A*xl+B*yl)-q*(y*H+C*xl+D*yl)<y*H+C*xl+D*yl:=by
 have u0:q*C≤0:=Int.mul_nonpos_of_nonneg_of_nonpos hq c0;have v0:0≤q*D:=Int.mul_nonneg hq d0;have e:q*(y*H+C*xl+D*yl)=q*y*H+q*C*xl+q*D*yl:=by
  rw [Int.mul_add,Int.mul_add,Int.mul_assoc,Int.mul_assoc,Int.mul_assoc]
 rw [e];rw [Int.add_mul,Int.mul_add,Int.one_mul] at h1;rw [Int.mul_add] at h2;generalize q*C=u at *;generalize q*D=v at *;generalize q*y=z at *;constructor
 ·have p1:0≤(A-u)*xl:=Int.mul_nonneg (by omega) hxl;have p2:0≤(v-B)*(H-yl):=Int.mul_nonneg (by omega) (by omega);have p3:0≤(x-z+B-v)*H:=Int.mul_nonneg (by omega) (by omega);rw [Int.sub_mul] at p1;rw [Int.sub_mul,Int.mul_sub,Int.mul_sub] at p2;rw [Int.sub_mul,Int.add_mul,Int.sub_mul] at p3;omega
 ·have p1:0≤(A-u-C)*(H-xl):=Int.mul_nonneg (by omega) (by omega);have p2:0≤(v+D-B)*yl:=Int.mul_nonneg (by omega) hyl;have p3:0≤(z+u+y+C-x-A-1)*H:=Int.mul_nonneg (by omega) (by omega);rw [Int.sub_mul,Int.sub_mul,Int.mul_sub,Int.mul_sub,Int.mul_sub] at p1;rw [Int.sub_mul,Int.add_mul] at p2;rw [Int.sub_mul,Int.sub_mul,Int.sub_mul,Int.add_mul,Int.add_mul,Int.add_mul,Int.one_mul] at p3;omega
theorem tX{t x:Int}(h0:0≤t)(h1:t≤x)(h2:t*x<4611686018427387904):t≤2147483647:=by
 by_cases h:t≤2147483647
 ·exact h
 ·have:2147483648*2147483648≤t*x:=Int.mul_le_mul (by omega) (by omega) (by omega) h0;omega
theorem jV.small{x0 y0 A B C D x y:Int}(h:jV x0 y0 A B C D x y)(hx0:x0<4611686018427387904)(hy0:y0<4611686018427387904)(hc:-C≤x)(hd:D≤x):-2147483647≤C∧D≤2147483647:=by
 have hxn:0≤x:=by have:=h.xb;have:=h.b0;omega
 have hyn:0≤y:=by have:=h.yc;have:=h.c0;omega
 have e1:x0=D*x-B*y:=by
  rw [h.hx,h.hy,Int.mul_add,Int.mul_add,←Int.mul_assoc,←Int.mul_assoc,←Int.mul_assoc,←Int.mul_assoc,Int.mul_comm D A,Int.mul_comm D B];have:(A*D-B*C)*x0=1*x0:=by rw [h.det]
  rw [Int.sub_mul] at this;omega
 have e2:y0=A*y-C*x:=by
  rw [h.hx,h.hy,Int.mul_add,Int.mul_add,←Int.mul_assoc,←Int.mul_assoc,←Int.mul_assoc,←Int.mul_assoc,Int.mul_comm C A,Int.mul_comm C B];have:(A*D-B*C)*y0=1*y0:=by rw [h.det]
  rw [Int.sub_mul] at this;omega
 have p1:0≤(-B)*y:=Int.mul_nonneg (by have:=h.b0;omega) hyn;have p2:0≤A*y:=Int.mul_nonneg h.a0 hyn;rw [Int.neg_mul] at p1;have q1:D*x<4611686018427387904:=by omega
 have q2:(-C)*x<4611686018427387904:=by rw [Int.neg_mul];omega
 have r1:=tX h.d0 hd q1;have r2:=tX (by have:=h.c0;omega) hc q2;omega
def ni(x0 y0 A B C D x y:Int):Prop:=jV x0 y0 A B C D x y∨jV y0 x0 B A D C x y
theorem ni.nonneg{x0 y0 A B C D x y:Int}(h:ni x0 y0 A B C D x y):0≤x∧0≤y∧0≤x+A∧0≤x+B∧0≤y+C∧0≤y+D:=by
 rcases h with h|h
 ·have:=h.a0;have:=h.b0;have:=h.c0;have:=h.d0;have:=h.xb;have:=h.yc;omega
 ·have:=h.a0;have:=h.b0;have:=h.c0;have:=h.d0;have:=h.xb;have:=h.yc;omega
theorem ni.signs{x0 y0 A B C D x y:Int}(h:ni x0 y0 A B C D x y):(0≤A∧B≤0∧C≤0∧0≤D)∨(A≤0∧0≤B∧0≤C∧D≤0):=by
 rcases h with h|h
 ·have:=h.a0;have:=h.b0;have:=h.c0;have:=h.d0;omega
 ·have:=h.a0;have:=h.b0;have:=h.c0;have:=h.d0;omega
theorem ni.step{x0 y0 A B C D x y q:Int}(h:ni x0 y0 A B C D x y)(hx0:x0<4611686018427387904)(hy0:y0<4611686018427387904)(hq:0≤q)(h1:q*(y+C)≤x+A)(h2:x+A<(q+1)*(y+C))(h3:q*(y+D)≤x+B)(h4:x+B<(q+1)*(y+D)) :
  ni x0 y0 C D (A-q*C) (B-q*D) y (x-q*y)∧-2147483647≤A-q*C∧A-q*C≤2147483647∧-2147483647≤B-q*D∧B-q*D≤2147483647∧x-q*y<y:=by
 rcases h with h|h
 ·have hs:=h.step hq h3;have e2:x+A<q*y+q*C+(y+C):=by rw [Int.add_mul,Int.mul_add,Int.one_mul] at h2;exact h2
  have hc:=hs.c0;have hd:=hs.d0;have hyc:=hs.yc;have hb:=hs.b0;have hsm:=hs.small hy0 hx0 (by omega) (by omega);exact ⟨Or.inr hs,by omega,by omega,by omega,by omega,by omega⟩
 ·have hs:=h.step hq h1;have e2:x+B<q*y+q*D+(y+D):=by rw [Int.add_mul,Int.mul_add,Int.one_mul] at h4;exact h4
  have hc:=hs.c0;have hd:=hs.d0;have hyc:=hs.yc;have hb:=hs.b0;have hsm:=hs.small hx0 hy0 (by omega) (by omega);exact ⟨Or.inl hs,by omega,by omega,by omega,by omega,by omega⟩
theorem ni.true{x0 y0 A B C D x y q H xl yl:Int}(h:ni x0 y0 A B C D x y)(hq:0≤q)(hH:0<H)(hxl:0≤xl)(hxl2:xl≤H)(hyl:0≤yl)(hyl2:yl≤H)(h1:q*(y+C)≤x+A)(h2:x+A<(q+1)*(y+C))(h3:q*(y+D)≤x+B)(h4:x+B<(q+1)*(y+D)) :
  0≤(A*(x0*H+xl)+B*(y0*H+yl))-q*(C*(x0*H+xl)+D*(y0*H+yl)) ∧
   (A*(x0*H+xl)+B*(y0*H+yl))-q*(C*(x0*H+xl)+D*(y0*H+yl))<C*(x0*H+xl)+D*(y0*H+yl):=by
 have ex:A*(x0*H+xl)+B*(y0*H+yl)=(A*x0+B*y0)*H+A*xl+B*yl:=by
  rw [Int.mul_add,Int.mul_add,Int.add_mul,Int.mul_assoc,Int.mul_assoc];omega
 have ey:C*(x0*H+xl)+D*(y0*H+yl)=(C*x0+D*y0)*H+C*xl+D*yl:=by
  rw [Int.mul_add,Int.mul_add,Int.add_mul,Int.mul_assoc,Int.mul_assoc];omega
 rw [ex,ey];rcases h with h|h
 ·rw [←h.hx,←h.hy];exact qx h.a0 h.b0 h.c0 h.d0 hq hH hxl hxl2 hyl hyl2 h2 h3
 ·have e1:A*x0+B*y0=x:=by rw [h.hx];omega
  have e2:C*x0+D*y0=y:=by rw [h.hy];omega
  rw [e1,e2];have:=qx h.a0 h.b0 h.c0 h.d0 hq hH hyl hyl2 hxl hxl2 h4 h1;rw [show x*H+A*xl+B*yl=x*H+B*yl+A*xl by omega,show y*H+C*xl+D*yl=y*H+D*yl+C*xl by omega];exact this
def nu(Xt Yt:Nat)(A B C D:Int):Prop:=∃X Y:Nat,(X:Int)=A*Xt+B*Yt∧(Y:Int)=C*Xt+D*Yt∧Nat.gcd X Y=Nat.gcd Xt Yt∧((A=1∧B=0∧C=0∧D=1)∨(Y<X∧X≤Yt))
theorem nu.start(Xt Yt:Nat):nu Xt Yt 1 0 0 1:=⟨Xt,Yt,by omega,by omega,rfl,Or.inl ⟨rfl,rfl,rfl,rfl⟩⟩
theorem nu.step{Xt Yt:Nat}{A B C D q:Int}(h:nu Xt Yt A B C D)(hq:0≤q)(h1:0≤(A*Xt+B*Yt)-q*(C*Xt+D*Yt))(h2:(A*Xt+B*Yt)-q*(C*Xt+D*Yt)<C*Xt+D*Yt):nu Xt Yt C D (A-q*C) (B-q*D):=by
 obtain ⟨X,Y,hX,hY,hg,hc⟩:=h;rw [←hX,←hY] at h1 h2;obtain ⟨n,rfl⟩:=Int.eq_ofNat_of_zero_le hq;have e:(X:Int)-(n:Int)*(Y:Int)=((X-n*Y:Nat):Int):=by
  have:n*Y≤X:=by
   have:((n*Y:Nat):Int)≤(X:Int):=by rw [Int.natCast_mul];omega
   omega
  rw [Int.natCast_sub this,Int.natCast_mul]
 rw [e] at h1 h2;have hle:n*Y≤X:=by
  have:((n*Y:Nat):Int)≤(X:Int):=by rw [Int.natCast_mul];omega
  omega
 have hlt:X-n*Y<Y:=by omega
 have hmod:X%Y=X-n*Y:=by
  have:X=n*Y+(X-n*Y):=by omega
  rw [this,Nat.mul_comm n Y,Nat.mul_add_mod,Nat.mod_eq_of_lt (by rw [Nat.mul_comm Y n];omega)];rw [Nat.mul_comm Y n];omega
 refine ⟨Y,X-n*Y,hY,?_,?_,Or.inr ⟨hlt,?_⟩⟩
 ·rw [←e,hX,hY,Int.sub_mul,Int.sub_mul,Int.mul_add,Int.mul_assoc,Int.mul_assoc];omega
 ·rw [←hmod,jy,hg]
 ·rcases hc with ⟨_,_,hC,hD⟩|⟨h3,h4⟩
  ·rw [hC,hD] at hY;omega
  ·omega
def dx(w:World)(p:Nat)(A B C D:Int):Prop:=w.heap[p]? = some (.cells #[.int .i64 A,.int .i64 B,.int .i64 C,.int .i64 D] 174 (0,0))
theorem dx.cells{w:World}{p:Nat}{A B C D:Int}(h:dx w p A B C D):w.cell? ⟨p,0,none⟩=some (.int .i64 A)∧w.cell? ⟨p,1,none⟩=some (.int .i64 B)∧w.cell? ⟨p,2,none⟩=some (.int .i64 C)∧w.cell? ⟨p,3,none⟩=some (.int .i64 D):=by
 refine ⟨?_,?_,?_,?_⟩<;>(rw [cell_of_row w p _ _ _ _ h];rfl)
theorem dx.frozen{w:World}{p:Nat}{A B C D:Int}(h:dx w p A B C D)(j:Nat):w.frozen? ⟨p,j,none⟩=false:=frozen_of_row w p j _ _ h
theorem dx.lt{w:World}{p:Nat}{A B C D:Int}(h:dx w p A B C D):p<w.heap.size:=by
 by_cases hlt:p<w.heap.size
 ·exact hlt
 ·unfold dx at h;rw [Array.getElem?_eq_none (by omega)] at h;cases h
structure Sm(A B C D:Int):Prop where
 a:-2147483647≤A∧A≤2147483647
 b:-2147483647≤B∧B≤2147483647
 c:-2147483647≤C∧C≤2147483647
 d:-2147483647≤D∧D≤2147483647
 signs:(0≤A∧B≤0∧C≤0∧0≤D)∨(A≤0∧0≤B∧0≤C∧D≤0)
def jr(w:World)(p:Nat)(a b c d:Value):World:=(((w.setCell ⟨p,0,none⟩ a).setCell ⟨p,1,none⟩ b).setCell ⟨p,2,none⟩ c).setCell ⟨p,3,none⟩ d
theorem dx.set4{w:World}{p:Nat}{A B C D:Int}(h:dx w p A B C D)(A' B' C' D':Int):dx (jr w p (.int .i64 A') (.int .i64 B') (.int .i64 C') (.int .i64 D')) p A' B' C' D':=by
 unfold dx at h ⊢;have h1:=heap_setCell_same w p 0 _ _ (.int .i64 A') h;have h2:=heap_setCell_same _ p 1 _ _ (.int .i64 B') h1;have h3:=heap_setCell_same _ p 2 _ _ (.int .i64 C') h2;have h4:=heap_setCell_same _ p 3 _ _ (.int .i64 D') h3;unfold jr;rw [h4];rfl
theorem wR(w:World)(p k:Nat)(a b c d:Value)(h:k≠p):(jr w p a b c d).heap[k]? = w.heap[k]?:=by
 unfold jr;rw [heap_setCell_other _ _ _ _ h,heap_setCell_other _ _ _ _ h,heap_setCell_other _ _ _ _ h,heap_setCell_other _ _ _ _ h]
theorem dx.other4{w:World}{p q:Nat}{A B C D:Int}(h:dx w p A B C D)(hne:p≠q)(a b c d:Value):dx (jr w q a b c d) p A B C D:=by
 unfold dx;rw [wR w q p a b c d hne];exact h
theorem oP{S:Nat}{a w:World}(h:Below S a w){p:Nat}(hp:S≤p)(v0 v1 v2 v3:Value):Below S a (jr w p v0 v1 v2 v3):=by
 unfold jr;exact (((h.setCell hp _).setCell hp _).setCell hp _).setCell hp _
theorem sO(x0 y0 Xt Yt H xl yl:Nat)(w:World)(hx0:x0<4611686018427387904)(hy0:y0<4611686018427387904)(hX:Hid (Xt=x0*H+xl))(hY:Hid (Yt=y0*H+yl))(hxl:Hid (xl<H))(hyl:Hid (yl<H)) :
  Calls Tryz.prog 124 #[.int .i64 (x0:Int),.int .i64 (y0:Int)] w
   fun e w'=>(∃A B C D:Int,e = .returned (.agg #[.int .i64 A,.int .i64 B,.int .i64 C,.int .i64 D])∧nu Xt Yt A B C D∧Sm A B C D)∧Below w.heap.size w w':=by
 go_enter Tryz.func124,Tryz.ntmps124
 go_wp2
 go_loopw [0,1] (fun a b wr=>∃A B C D x y:Int,a = .int .i64 x∧b = .int .i64 y∧0≤x∧x<4611686018427387904∧0≤y∧y<4611686018427387904 ∧
   (-2147483647≤A∧A≤2147483647)∧(-2147483647≤B∧B≤2147483647)∧(-2147483647≤C∧C≤2147483647)∧(-2147483647≤D∧D≤2147483647) ∧
   Hid (ni x0 y0 A B C D x y)∧Hid (nu Xt Yt A B C D)∧dx wr (w.heap.size+1) A B C D∧dx wr w.heap.size 0 0 0 0∧Below w.heap.size w wr) (fun _ b _=>(intOf b).toNat)
 case atStart=>
  refine ⟨1,0,0,1,x0,y0,rfl,rfl,by omega,by omega,by omega,by omega,by omega,by omega,by omega,by omega,hide (Or.inl (jV.start _ _ (by omega) (by omega))),hide (nu.start _ _),?_,?_,?_⟩
  ·show ((w.alloc _).alloc _).heap[w.heap.size+1]? = _
   rw [heap_alloc2_new]
  ·show ((w.alloc _).alloc _).heap[w.heap.size]? = _
   rw [(ah (w.alloc _) _).block w.heap.size (by simp),heap_alloc_new]
  ·exact ai (ah _ _) (ah _ _)
 case round=>
  obtain ⟨A,B,C,D,x,y,rfl,rfl,hx1,hx2,hy1,hy2,⟨hA1,hA2⟩,⟨hB1,hB2⟩,⟨hC1,hC2⟩,⟨hD1,hD2⟩,HL,HT,hbx,hbr,hbel⟩:=hrel;obtain ⟨k0,k1,k2,k3⟩:=hbx.cells;have f0:=hbx.frozen 0;have f1:=hbx.frozen 1;have f2:=hbx.frozen 2;have f3:=hbx.frozen 3;obtain ⟨r0,r1,r2,r3⟩:=hbr.cells;have g0:=hbr.frozen 0;have g1:=hbr.frozen 1;have g2:=hbr.frozen 2;have g3:=hbr.frozen 3;obtain ⟨_,_,hn1,hn2,hn3,hn4⟩:=(aa HL).nonneg;have hSm:Sm A B C D:=⟨⟨hA1,hA2⟩,⟨hB1,hB2⟩,⟨hC1,hC2⟩,⟨hD1,hD2⟩,(aa HL).signs⟩;have hend:=hbr.set4 A B C D;obtain ⟨z0,z1,z2,z3⟩:=hend.cells;have HZ:=hide (And.intro z0 (And.intro z1 (And.intro z2 z3)));have HE:Hid (Below w.heap.size w (jr wr w.heap.size (.int .i64 A) (.int .i64 B) (.int .i64 C) (.int .i64 D))):=hide (oP hbel (Nat.le_refl _) _ _ _ _);have HSm:=hide hSm;clear z0 z1 z2 z3 hend hSm;by_cases hyc:y+C=0
  ·have hb1:(y+C != 0)=false:=by simp [hyc]
   clear hyc;go_wp2
   obtain ⟨z0,z1,z2,z3⟩:=aa HZ;unfold jr at z0 z1 z2 z3;exact bodyPost_ret (v:=.agg #[.int .i64 A,.int .i64 B,.int .i64 C,.int .i64 D]) (by simp [results,Tryz.results124,go_sem,z0,z1,z2,z3]) rfl ⟨⟨A,B,C,D,rfl,aa HT,aa HSm⟩,aa HE⟩
  ·have hb1:(y+C != 0)=true:=by simp [hyc]
   by_cases hyd:y+D=0
   ·have hb2:(y+D != 0)=false:=by simp [hyd]
    clear hyc hyd;go_wp2
    obtain ⟨z0,z1,z2,z3⟩:=aa HZ;unfold jr at z0 z1 z2 z3;exact bodyPost_ret (v:=.agg #[.int .i64 A,.int .i64 B,.int .i64 C,.int .i64 D]) (by simp [results,Tryz.results124,go_sem,z0,z1,z2,z3]) rfl ⟨⟨A,B,C,D,rfl,aa HT,aa HSm⟩,aa HE⟩
   ·have hb2:(y+D != 0)=true:=by simp [hyd]
    have hp1:0<y+C:=by omega
    have hp2:0<y+D:=by omega
    clear hyc hyd;by_cases heq:(x+A)/(y+C)=(x+B)/(y+D)
    ·obtain ⟨q,hq⟩:∃q,q=(x+A)/(y+C):=⟨_,rfl⟩;have hq1:(x+A)/(y+C)=q:=hq.symm;have hq2:(x+B)/(y+D)=q:=by rw [←heq,hq]
     have hq0:0≤q:=by rw [hq];exact Int.ediv_nonneg hn1 (by omega)
     have e1:q*(y+C)≤x+A:=by rw [hq];exact Int.ediv_mul_le _ (by omega)
     have e2:x+A<(q+1)*(y+C):=by rw [hq];exact Int.lt_ediv_add_one_mul_self _ hp1
     have e3:q*(y+D)≤x+B:=by rw [←hq2];exact Int.ediv_mul_le _ (by omega)
     have e4:x+B<(q+1)*(y+D):=by rw [←hq2];exact Int.lt_ediv_add_one_mul_self _ hp2
     obtain ⟨hL',m1,m2,m3,m4,m5⟩:=(aa HL).step (by omega) (by omega) hq0 e1 e2 e3 e4;have hqx:q≤x+A:=by
      have:q*1≤q*(y+C):=Int.mul_le_mul_of_nonneg_left (by omega) hq0;omega
     have hT':nu Xt Yt C D (A-q*C) (B-q*D):=by
      have hx:=aa hX;have hy:=aa hY;have hxl':=aa hxl;have hyl':=aa hyl;have:=(aa HL).true (H:=H) (xl:=xl) (yl:=yl) hq0 (by omega) (by omega) (by omega) (by omega) (by omega) e1 e2 e3 e4;refine (aa HT).step hq0 ?_ ?_
      ·rw [hx,hy];push_cast;exact this.1
      ·rw [hx,hy];push_cast;exact this.2
     have hyn:=hL'.nonneg.2.1;have hqy0:0≤q*y:=Int.mul_nonneg hq0 hy1;obtain ⟨t1,ht1⟩:∃t,q*y=t:=⟨_,rfl⟩;obtain ⟨t2,ht2⟩:∃t,q*C=t:=⟨_,rfl⟩;obtain ⟨t3,ht3⟩:∃t,q*D=t:=⟨_,rfl⟩;rw [ht1] at hL' m5 hyn hqy0;rw [ht2] at hL' m1 m2 hT';rw [ht3] at hL' m3 m4 hT';have HL':=hide hL';have HT':=hide hT';clear hL' hT' e1 e2 e3 e4 heq hq;go_wp2
     go_roundw
     case rel=>
      exact ⟨C,D,A-t2,B-t3,y,x-t1,rfl,rfl,hy1,hy2,hyn,by omega,⟨hC1,hC2⟩,⟨hD1,hD2⟩,⟨m1,m2⟩,⟨m3,m4⟩,aa HL',aa HT',hbx.set4 C D (A-t2) (B-t3),hbr.other4 (by omega) _ _ _ _,oP hbel (by omega) _ _ _ _⟩
     case measure=>
      simp only [intOf];omega
    ·have hne:((x+A)/(y+C) != (x+B)/(y+D))=true:=by simp [heq]
     clear heq;go_wp2
     obtain ⟨z0,z1,z2,z3⟩:=aa HZ;unfold jr at z0 z1 z2 z3;exact bodyPost_ret (v:=.agg #[.int .i64 A,.int .i64 B,.int .i64 C,.int .i64 D]) (by simp [results,Tryz.results124,go_sem,z0,z1,z2,z3]) rfl ⟨⟨A,B,C,D,rfl,aa HT,aa HSm⟩,aa HE⟩
theorem uY{o c p q s y A D B t r u:Int}(B':Int)(hB:B'=B*4294967296)(h:o+B*c=A*p+D*q)(ht:t=c+(A*s+D*y))(e:t=4294967296*u+r):(o+B*r)+B'*u=A*(p+B*s)+D*(q+B*y):=by
 subst hB;have e1:B*t=B*4294967296*u+B*r:=by rw [e,Int.mul_add,Int.mul_assoc]
 have e2:B*t=B*c+(A*(B*s)+D*(B*y)):=by
  rw [ht,Int.mul_add,Int.mul_add,Int.mul_left_comm B A,Int.mul_left_comm B D]
 rw [Int.mul_add A,Int.mul_add D];omega
theorem yK{U P cu A D XL XH Y X:Int}(h:U+P*cu=A*XL+D*Y)(hX:X=A*(XL+P*XH)+D*Y)(hU0:0≤U)(hU1:U<P)(hX0:0≤X)(hX1:X<P):U=X:=by
 have e:X-U=P*(cu+A*XH):=by
  rw [hX,Int.mul_add A,Int.mul_add P,Int.mul_left_comm A P];omega
 have hz:cu+A*XH=0:=by
  rcases Int.lt_trichotomy (cu+A*XH) 0 with h1|h1|h1
  ·have:P*(cu+A*XH)≤P*(-1):=Int.mul_le_mul_of_nonneg_left (by omega) (by omega);omega
  ·exact h1
  ·have:P*1≤P*(cu+A*XH):=Int.mul_le_mul_of_nonneg_left (by omega) (by omega);omega
 rw [hz,Int.mul_zero] at e;omega
theorem sG{A:Int}{x:Nat}(h0:0≤A)(h1:A≤2147483647)(hx:x<4294967296):0≤A*(x:Int)∧A*(x:Int)≤9223372030412324865:=by
 refine ⟨Int.mul_nonneg h0 (by omega),?_⟩;have:A*(x:Int)≤2147483647*4294967295:=Int.mul_le_mul h1 (by omega) (by omega) (by omega);omega
theorem zA{A:Int}{x:Nat}(h0:A≤0)(h1:-2147483647≤A)(hx:x<4294967296):-9223372030412324865≤A*(x:Int)∧A*(x:Int)≤0:=by
 have:=sG (A:=-A) (x:=x) (by omega) (by omega) hx;rw [Int.neg_mul] at this;omega
theorem yZ{A B:Int}{x y:Nat}(h:(0≤A∧B≤0)∨(A≤0∧0≤B))(ha:-2147483647≤A∧A≤2147483647)(hb:-2147483647≤B∧B≤2147483647)(hx:x<4294967296)(hy:y<4294967296) :
  -9223372030412324865≤A*(x:Int)∧A*(x:Int)≤9223372030412324865∧-9223372030412324865≤B*(y:Int)∧B*(y:Int)≤9223372030412324865∧-9223372030412324865≤A*(x:Int)+B*(y:Int)∧A*(x:Int)+B*(y:Int)≤9223372030412324865:=by
 rcases h with ⟨h1,h2⟩|⟨h1,h2⟩
 ·have p:=sG h1 ha.2 hx;have q:=zA h2 hb.1 hy;omega
 ·have p:=zA h1 ha.1 hx;have q:=sG h2 hb.2 hy;omega
def jO(bx by' base:Nat)(xs ys:List Nat)(A B C D:Int)(w:World)(k:Nat)(cu cl:Int)(wr:World):Prop:=
 ∃us ls:List Nat,us.length=k∧ls.length=k∧Pl.Wf us∧Pl.Wf ls∧((Pl.val us:Nat):Int)+((4294967296^k:Nat):Int)*cu=A*((Pl.val (xs.take k):Nat):Int)+B*((Pl.val (ys.take k):Nat):Int) ∧
  ((Pl.val ls:Nat):Int)+((4294967296^k:Nat):Int)*cl=C*((Pl.val (xs.take k):Nat):Int)+D*((Pl.val (ys.take k):Nat):Int) ∧
  Row wr bx (us++xs.drop k)∧Row wr by' (ls++ys.drop k)∧dx wr w.heap.size A B C D∧Below base w wr
theorem lm(k:Nat):((4294967296^(k+1):Nat):Int)=((4294967296^k:Nat):Int)*4294967296:=by rw [Nat.pow_succ,Int.natCast_mul];rfl
theorem jO.step{bx by' base k:Nat}{xs ys:List Nat}{A B C D cu cl t1 t2:Int}{w wr wr':World}(h:jO bx by' base xs ys A B C D w k cu cl wr)(hkx:k<xs.length)(hky:k<ys.length)(hne:bx≠by')(hbx:base≤bx)(hby:base≤by')(hb4:w.heap.size≠bx)(hb5:w.heap.size≠by')(e1:t1=cu+(A*((xs[k]?.getD 0:Nat):Int)+B*((ys[k]?.getD 0:Nat):Int)))(e2:t2=cl+(C*((xs[k]?.getD 0:Nat):Int)+D*((ys[k]?.getD 0:Nat):Int)))(hw:wr'=(wr.setCell ⟨bx,k,none⟩ (.int .u32 (t1%4294967296))).setCell ⟨by',k,none⟩ (.int .u32 (t2%4294967296))) :
  jO bx by' base xs ys A B C D w (k+1) (t1/4294967296) (t2/4294967296) wr':=by
 obtain ⟨us,ls,hu,hl,wu,wl,v1,v2,r1,r2,b4,bel⟩:=h;have m1:t1%4294967296=(((t1%4294967296).toNat:Nat):Int):=by omega
 have m2:t2%4294967296=(((t2%4294967296).toNat:Nat):Int):=by omega
 have s1:=set_mid [] us xs [] k (t1%4294967296).toNat hu hkx;have s2:=set_mid [] ls ys [] k (t2%4294967296).toNat hl hky;simp only [List.nil_append,List.append_nil,List.length_nil,Nat.zero_add] at s1 s2;have q1:=r1.set k (t1%4294967296).toNat (by simp;omega);rw [s1,←m1] at q1;have o1:Only bx wr (wr.setCell ⟨bx,k,none⟩ (.int .u32 (t1%4294967296))):=(Only.refl bx wr).setCell _ _;have q2:=(r2.only o1 (Ne.symm hne)).set k (t2%4294967296).toNat (by simp;omega);rw [s2,←m2] at q2;have o2:Only by' (wr.setCell ⟨bx,k,none⟩ (.int .u32 (t1%4294967296))) ((wr.setCell ⟨bx,k,none⟩ (.int .u32 (t1%4294967296))).setCell ⟨by',k,none⟩ (.int .u32 (t2%4294967296))):=(Only.refl _ _).setCell _ _
 refine ⟨us ++ [(t1%4294967296).toNat],ls ++ [(t2%4294967296).toNat],by simp [hu],by simp [hl],Pl.wf_append wu (Pl.wf_one (by omega)),Pl.wf_append wl (Pl.wf_one (by omega)),?_,?_,?_,?_,?_,?_⟩
 ·rw [Pl.val_append,Pl.val_one,hu,Pl.val_take_any xs k,Pl.val_take_any ys k,Int.natCast_add,Int.natCast_mul,Int.natCast_add,Int.natCast_mul,Int.natCast_add,Int.natCast_mul,←m1];exact uY _ (lm k) v1 e1 (by omega)
 ·rw [Pl.val_append,Pl.val_one,hl,Pl.val_take_any xs k,Pl.val_take_any ys k,Int.natCast_add,Int.natCast_mul,Int.natCast_add,Int.natCast_mul,Int.natCast_add,Int.natCast_mul,←m2];exact uY _ (lm k) v2 e2 (by omega)
 ·rw [hw];exact q1.only o2 hne
 ·rw [hw];exact q2
 ·rw [hw];unfold dx;rw [o2.block _ hb5,o1.block _ hb4];exact b4
 ·rw [hw];exact (bel.setCell hbx _).setCell hby _
theorem jO.drewN{bx by' base k:Nat}{xs ys:List Nat}{A B C D cu cl:Int}{w wr:World}(h:jO bx by' base xs ys A B C D w k cu cl wr)(n:Nat):jO bx by' base xs ys A B C D w k cu cl (wr.drewN n):=by
 obtain ⟨us,ls,hu,hl,wu,wl,v1,v2,r1,r2,b4,bel⟩:=h;exact ⟨us,ls,hu,hl,wu,wl,v1,v2,r1,r2,b4,below_drewN bel n⟩
theorem Aq(bx by' base nx n cx cy Xt Yt:Nat)(xs ys:List Nat)(A B C D:Int)(w:World)(hxl:Hid (xs.length=nx))(hyl:Hid (ys.length=n))(hnn:n≤nx)(hnb:nx≤16384)(hcx:nx≤cx)(hcy:n≤cy)(hcy2:cy≤9223372036854775807)(hXt:Hid (Pl.val xs=Xt))(hYt:Hid (Pl.val ys=Yt))(hxw:Pl.Wf xs)(hyw:Pl.Wf ys)(hne:bx≠by')(hbx:base≤bx)(hby:base≤by')(hbw:base≤w.heap.size)(hRx:Row w bx xs)(hRy:Row w by' ys)(hT:Hid (nu Xt Yt A B C D))(hB0:Hid (B≠0))(hSm:Sm A B C D) :
  Calls Tryz.prog 126 #[.agg #[.int .i64 A,.int .i64 B,.int .i64 C,.int .i64 D],.slice (some ⟨bx,0,none⟩) nx cx,.slice (some ⟨by',0,none⟩) n cy] w
   fun e w'=>(∃l1 l2 X Y,e = .returned (.tuple #[.slice (some ⟨bx,0,none⟩) l1 l1,.slice (some ⟨by',0,none⟩) l2 l2])∧Mine w' base (some ⟨bx,0,none⟩) l1 l1 X∧Mine w' base (some ⟨by',0,none⟩) l2 l2 Y∧Nat.gcd X Y=Nat.gcd Xt Yt∧Y<X∧X≤Yt)∧Below base w w':=by
 obtain ⟨⟨hA1,hA2⟩,⟨hB1,hB2⟩,⟨hC1,hC2⟩,⟨hD1,hD2⟩,hsg⟩:=hSm;have hxlt:=hRx.lt;have hylt:=hRy.lt;go_enter Tryz.func126,Tryz.ntmps126
 go_wp2
 go_loopw [9,10,22] (fun a b i wr=>∃(k:Nat) (cu cl:Int),k≤n∧i = .int .i64 (k:Int)∧a = .int .i64 cu∧b = .int .i64 cl∧-2147483648≤cu∧cu≤2147483648∧-2147483648≤cl∧cl≤2147483648∧jO bx by' base xs ys A B C D w k cu cl wr) (fun _ _ i _=>n-(intOf i).toNat)
 case atStart=>
  refine ⟨0,0,0,Nat.zero_le _,rfl,rfl,rfl,by omega,by omega,by omega,by omega,[],[],rfl,rfl,Pl.wf_nil,Pl.wf_nil,by simp [Pl.val],by simp [Pl.val],by simpa using hRx.kept (ah _ _),by simpa using hRy.kept (ah _ _),?_,?_⟩
  ·exact heap_alloc_new w _
  ·exact (Below.refl _ _).alloc hbw _
 case round=>
  obtain ⟨k,cu,cl,hk,rfl,rfl,rfl,hu1,hu2,hl1,hl2,HI⟩:=hrel;have hxl':=aa hxl;have hyl':=aa hyl;by_cases hkn:k<n
  ·obtain ⟨x,hxx⟩:∃x,x=xs[k]?.getD 0:=⟨_,rfl⟩;obtain ⟨y,hyy⟩:∃y,y=ys[k]?.getD 0:=⟨_,rfl⟩;have hx1:x<4294967296:=by rw [hxx];exact Pl.wf_at hxw k
   have hy1:y<4294967296:=by rw [hyy];exact Pl.wf_at hyw k
   have HI':=HI;obtain ⟨us,ls,hus,hls,_,_,_,_,r1,r2,b4,_⟩:=HI';have a1:=iL [] us xs [] k hus (by omega);have a2:=iL [] ls ys [] k hls (by omega);simp only [List.nil_append,List.append_nil,List.length_nil,Nat.zero_add] at a1 a2;have hcx1:wr.cell? ⟨bx,k,none⟩=some (.int .u32 (x:Int)):=by rw [r1.cell k (by simp;omega),a1,hxx]
   have hcy1:wr.cell? ⟨by',k,none⟩=some (.int .u32 (y:Int)):=by rw [r2.cell k (by simp;omega),a2,hyy]
   have hfx:=r1.frozen k;have hfy:=r2.frozen k;obtain ⟨k0,k1,k2,k3⟩:=b4.cells;have P1:=yZ (x:=x) (y:=y) (A:=A) (B:=B) (by omega) ⟨hA1,hA2⟩ ⟨hB1,hB2⟩ hx1 hy1;have P2:=yZ (x:=x) (y:=y) (A:=C) (B:=D) (by omega) ⟨hC1,hC2⟩ ⟨hD1,hD2⟩ hx1 hy1;have HST:=hide (fun nq wr' t1 t2 e1 e2 e3=>jO.step (wr':=wr') (t1:=t1) (t2:=t2) (HI.drewN nq) (by omega) (by omega) hne hbx hby (by omega) (by omega) e1 e2 e3);rw [←hxx,←hyy] at HST;clear HI hxx hyy r1 r2 b4 a1 a2;obtain ⟨pA,hpA⟩:∃t,A*(x:Int)=t:=⟨_,rfl⟩;obtain ⟨pB,hpB⟩:∃t,B*(y:Int)=t:=⟨_,rfl⟩;obtain ⟨pC,hpC⟩:∃t,C*(x:Int)=t:=⟨_,rfl⟩;obtain ⟨pD,hpD⟩:∃t,D*(y:Int)=t:=⟨_,rfl⟩;rw [hpA,hpB] at P1 HST;rw [hpC,hpD] at P2 HST;obtain ⟨P11,P12,P13,P14,P15,P16⟩:=P1;obtain ⟨P21,P22,P23,P24,P25,P26⟩:=P2;clear hsg;go_wp2
   go_quiet (fail)
   have hfx':(wr.drewN nq).frozen? ⟨bx,k,none⟩=false:=hfx;have hfy':(wr.drewN nq).frozen? ⟨by',k,none⟩=false:=hfy;have hcx':(wr.drewN nq).cell? ⟨bx,k,none⟩=some (.int .u32 (x:Int)):=hcx1;have hcy':(wr.drewN nq).cell? ⟨by',k,none⟩=some (.int .u32 (y:Int)):=hcy1;have k0':(wr.drewN nq).cell? ⟨w.heap.size,0,none⟩=some (.int .i64 A):=k0;have k1':(wr.drewN nq).cell? ⟨w.heap.size,1,none⟩=some (.int .i64 B):=k1;have k2':(wr.drewN nq).cell? ⟨w.heap.size,2,none⟩=some (.int .i64 C):=k2;have k3':(wr.drewN nq).cell? ⟨w.heap.size,3,none⟩=some (.int .i64 D):=k3;have HS2:=hide (aa HST nq);clear HST hfx hfy hcx1 hcy1 k0 k1 k2 k3;generalize wr.drewN nq=wq at *;go_wp2
   go_roundw
   case rel=>exact ⟨k+1,(cu+(pA+pB))/4294967296,(cl+(pC+pD))/4294967296,by omega,by go_num,rfl,rfl,by omega,by omega,by omega,by omega,aa HS2 _ _ _ rfl rfl rfl⟩
   case measure=>simp [intOf];omega
  ·have hke:k=n:=by omega
   subst hke;obtain ⟨us,ls,hus,hls,wu,wl,v1,v2,r1,r2,b4,bel⟩:=HI;have hyt:ys.take k=ys:=List.take_of_length_le (by omega);have hyd:ys.drop k = []:=List.drop_eq_nil_of_le (by omega);rw [hyt,aa hYt] at v1 v2;rw [hyd,List.append_nil] at r2;obtain ⟨X,Y,hX,hY,hg,hcase⟩:=aa hT;obtain ⟨hYX,hXY⟩:=hcase.resolve_left (fun h=>absurd h.2.1 (aa hB0));have hYb:Yt<4294967296^k:=by have:=Pl.val_lt hyw;rwa [hyl',aa hYt] at this
   have hsp:=Pl.val_split xs k (by omega);rw [aa hXt] at hsp;have hul:=Pl.val_lt wu;have hll:=Pl.val_lt wl;rw [hus] at hul;rw [hls] at hll;have hU:Pl.val us=X:=by
    have:=yK (XH:=((Pl.val (xs.drop k):Nat):Int)) v1 (by rw [hX,hsp,Int.natCast_add,Int.natCast_mul]) (Int.natCast_nonneg _) (Int.ofNat_lt.2 hul) (Int.natCast_nonneg X) (Int.ofNat_lt.2 (Nat.lt_of_le_of_lt hXY hYb));exact Int.ofNat.inj this
   have hL:Pl.val ls=Y:=by
    have:=yK (XH:=((Pl.val (xs.drop k):Nat):Int)) v2 (by rw [hY,hsp,Int.natCast_add,Int.natCast_mul]) (Int.natCast_nonneg _) (Int.ofNat_lt.2 hll) (Int.natCast_nonneg Y) (Int.ofNat_lt.2 (Nat.lt_trans (Nat.lt_of_lt_of_le hYX hXY) hYb));exact Int.ofNat.inj this
   have r1':Row wr bx us:=by
    have:=r1.prefix k
    rwa [List.take_append_of_le_length (by omega),List.take_of_length_le (by omega)] at this
   have HF:=hide (And.intro hU (And.intro hL (And.intro hg (And.intro hYX hXY))));clear v1 v2 hX hY hg hcase hYb hsp hul hll hU hL r1 hyt hyd hYX hXY b4 hsg;go_wp2_with fail
   refine (dL bx 0 k k us wr hus (Nat.le_refl _) (by omega) (fun j hj=>by rw [Nat.zero_add];exact r1'.cell j hj)).mono ?_;rintro e w1 ⟨rfl,l1,hl1,z0,z1,rfl⟩;have HT1:=hide (bY r1' hbx (by omega) wu hl1 z0 z1);clear z0 z1;go_wp2_with fail
   refine (dL by' 0 k cy ls wr hls ?_ ?_ (fun j hj=>by rw [Nat.zero_add];exact r2.cell j hj)).mono ?_
   ·exact hcy
   ·exact hcy2
   rintro e w2 ⟨rfl,l2,hl2,z0,z1,rfl⟩;have HT2:=hide (bY r2 hby (by omega) wl hl2 z0 z1);clear z0 z1;go_wp2
   go_ret2
   obtain ⟨f1,f2,f3,f4,f5⟩:=aa HF;obtain ⟨t1,t2,t3,t4,t5⟩:=aa HT1;obtain ⟨u1,u2,u3,u4,u5⟩:=aa HT2;exact ⟨⟨l1,l2,X,Y,rfl,⟨_,t1,t2,t3,t4,t5.trans f1,by omega⟩,⟨_,u1,u2,u3,u4,u5.trans f2,by omega⟩,f3,f4,f5⟩,bel⟩
theorem D5{w:World}{a:Option Addr}{m:Nat}(h:Num w a 1 m):0<m∧m<4294967296∧∃b off,a=some ⟨b,off,none⟩∧b<w.heap.size∧w.cell? ⟨b,off,none⟩=some (.int .u32 (m:Int)):=by
 have hz:=h.zero;obtain ⟨xs,hn,hl,hw,hN,hv,hb⟩:=h
 match xs,hn with
 | [x],_=>
  have hx:x=m:=by rw [←hv];simp [Pl.val]
  subst hx;rcases hl.parts with hx|⟨hp,b,off,ha,hlt,hc⟩
  ·cases hx
  ·exact ⟨by omega,Pl.wf_head hw,b,off,ha,hlt,by have:=hc 0 (by simp);simpa using this⟩
def kE(w:World)(base:Nat)(e:Ending)(q r:Nat):Prop:=
 ∃aq nq cq ar nr cr,e = .returned (.tuple #[.slice aq nq cq,.slice ar nr cr])∧Mine w base aq nq cq q∧Mine w base ar nr cr r
theorem Ae(w:World)(base:Nat):Mine w base none 0 0 0:=⟨[],rfl,Or.inl ⟨rfl,rfl⟩,Pl.wf_nil,Pl.norm_nil,rfl,by omega⟩
theorem qB(a a':Option Addr)(n n' cap cap' m m':Nat)(w:World)(h:Num w a n m)(h':Num w a' n' m')(hlt:m<m') :
  Calls Tryz.prog 88 #[.slice a n cap,.slice a' n' cap'] w fun e w'=>kE w' w.heap.size e (m/m') (m%m')∧Below w.heap.size w w':=by
 rw [Nat.div_eq_of_lt hlt,Nat.mod_eq_of_lt hlt];have hcm:=ko hlt;clear hlt;go_enter Tryz.func88,Tryz.ntmps88
 go_wp2_with fail
 refine (bZ a a' n n' cap cap' m m' w h h').mono ?_;rintro e w1 ⟨rfl,hb1⟩;rw [hcm];have h1:=h.kept hb1;go_wp2_with fail
 refine (gB a n cap m w1 h1).mono ?_;rintro e w2 ⟨⟨a2,c2,rfl,hm2⟩,hb2⟩;have HM:=hide (hm2.mono hb1.size);clear hm2;go_wp2
 go_ret2
 exact ⟨⟨none,0,0,a2,n,c2,rfl,Ae _ _,aa HM⟩,ai hb1 hb2⟩
theorem qP(w:World)(x:Nat):Row (w.alloc (.cells #[.int .u32 (x:Int)] 42)) w.heap.size [x]:=by
 refine ⟨#[],?_⟩;rw [heap_alloc_new];simp [lc]
theorem wI(a:Option Addr)(b' off' n cap cap' m d:Nat)(w:World)(h:Num w a n m)(h':Num w (some ⟨b',off',none⟩) 1 d)(hge:d≤m)(hd0:0<d)(hd:d<4294967296)(hlt:b'<w.heap.size)(hc:w.cell? ⟨b',off',none⟩=some (.int .u32 (d:Int))) :
  Calls Tryz.prog 88 #[.slice a n cap,.slice (some ⟨b',off',none⟩) 1 cap'] w fun e w'=>kE w' w.heap.size e (m/d) (m%d)∧Below w.heap.size w w':=by
 have hnn:¬bW m d<0:=by
  by_cases e:m=d
  ·rw [e,jm];decide
  ·rw [kF (by omega)];decide
 have hnd:decide (bW m d<0)=false:=by simpa using hnn
 clear hnn;have hN:=h;obtain ⟨xs,hn,hl,hw,hNn,hv,hb⟩:=h;rcases hl.parts with hx|⟨hp,b,off,rfl,hltb,hcx⟩
 ·have:m=0:=by rw [←hv,hx];rfl
  omega
 ·have HX:Hid (xs.length=n):=hn;have HV:Hid (Pl.val xs=m):=hv;have hcx':∀j,j<n→w.cell? ⟨b,off+j,none⟩=some (.int .u32 ((xs[j]?.getD 0:Nat):Int)):=fun j hj=>hcx j (by omega);have HCX:=hide hcx';clear hn hv hcx hcx' hp;go_enter Tryz.func88,Tryz.ntmps88
  go_wp2_with fail
  refine (bZ _ _ n 1 cap cap' m d w hN h').mono ?_;rintro e w1 ⟨rfl,hb1⟩;have hc1:w1.cell? ⟨b',off',none⟩=some (.int .u32 (d:Int)):=(hb1.cell (by exact hlt)).trans hc;have hs1:=hb1.size;clear hN h';go_wp2_with fail
  refine (nM b off cap d n xs w1 HX hb hd0 hd hw (by omega) (fun j hj=>(hb1.cell (by exact hltb)).trans (aa HCX j hj))).mono ?_;rintro e w2 ⟨k,qs,rfl,hk,hql,hO,hqw,hqN,hqv,hb2⟩;rw [aa HV] at hqv ⊢;obtain ⟨r,hr⟩:∃r,r=m%d:=⟨_,rfl⟩;have hrd:r<d:=by rw [hr];exact Nat.mod_lt _ hd0
  rw [←hr];have HR:=hide hr;have HM:=hide (show Mine w2 w1.heap.size (some ⟨w1.heap.size,0,none⟩) k k (m/d) from ⟨qs,hql,hO,hqw,hqN,hqv,by omega⟩);clear hr hO hqv;go_wp2_with fail
  have hrow:=qP w2 r;refine (dL w2.heap.size 0 1 1 [r] _ rfl (Nat.le_refl _) (by omega) (fun j hj=>by rw [Nat.zero_add];exact hrow.cell j hj)).mono ?_;rintro e w3 ⟨rfl,l,hl1,h0,h1,rfl⟩;have hl2:l≤1:=hl1;have HT:=hide (bY hrow (Nat.le_refl _) (by simp) (Pl.wf_one (by omega)) hl1 h0 h1);clear h0 h1 hl1 hrow;go_wp2
  go_ret2
  obtain ⟨t1,t2,t3,t4,t5⟩:=aa HT;refine ⟨⟨_,k,k,_,l,l,rfl,((aa HM).mono hs1).alloc _,[r].take l,t1,t2.mono (Nat.le_trans hs1 hb2.size),t3,t4,by rw [t5,Pl.val_one];exact aa HR,by omega⟩,ai (ai hb1 hb2) (ah _ _)⟩
theorem tC(a a':Option Addr)(n cap cap' m d:Nat)(w:World)(h:Num w a n m)(h':Num w a' 1 d) :
  Calls Tryz.prog 88 #[.slice a n cap,.slice a' 1 cap'] w fun e w'=>kE w' w.heap.size e (m/d) (m%d)∧Below w.heap.size w w':=by
 by_cases hlt:m<d
 ·exact qB a a' n 1 cap cap' m d w h h' hlt
 ·obtain ⟨h1,h2,b,off,rfl,h3,h4⟩:=D5 h';exact wI a b off n cap cap' m d w h h' (by omega) h1 h2 h3 h4
def ry(w:World)(base:Nat)(e:Ending)(m d:Nat):Prop:=
 (d=0∧e = .returned (.tuple #[.agg #[.slice none 0 0],.agg #[.slice none 0 0],.int .i64 11])) ∨
 (0<d∧∃aq nq cq ar nr cr,e = .returned (.tuple #[.agg #[.slice aq nq cq],.agg #[.slice ar nr cr],.int .i64 0])∧Mine w base aq nq cq (m/d)∧Mine w base ar nr cr (m%d))
theorem BO(a a':Option Addr)(n cap cap' m:Nat)(w:World)(h:Num w a n m) :
  Calls Tryz.prog 154 #[.agg #[.slice a n cap],.agg #[.slice a' 0 cap']] w fun e w'=>ry w' w.heap.size e m 0∧Below w.heap.size w w':=by
 obtain ⟨xs,hn,hl,hw,hN,hv,hb⟩:=h;have hck:=fun (o1 o2 o3 o4:Obj)=>bq a a' cap cap' xs [] ((((w.alloc o1).alloc o2).alloc o3).alloc o4) (by omega) (by simp) ((((hl.alloc _).alloc _).alloc _).alloc _) (Or.inl rfl);rw [hn,eB (bC (by omega) hN) (bC (by simp) Pl.norm_nil)] at hck;have HK:=hide hck;clear hck hl;go_enter Tryz.func154,Tryz.ntmps154
 go_wp2_with fail
 refine (aa HK _ _ _ _).mono ?_;rintro e w1 ⟨rfl,hb1⟩;obtain ⟨hc1,hf1⟩:=bO hb1;have hB:=hide (ai (ai (ai (ai (ah _ _) (ah _ _)) (ah _ _)) (ah _ _)) hb1);clear hb1 HK;go_wp2
 exact bodyPost_ret (v:=.tuple #[.agg #[.slice none 0 0],.agg #[.slice none 0 0],.int .i64 11]) (by simp [results,Tryz.results154,go_sem,hc1]) rfl ⟨Or.inl ⟨rfl,rfl⟩,((aa hB).setCell (p:=⟨w.heap.size+1+1,0,none⟩) (by simp;omega) _).setCell (by simp;omega) _⟩
theorem GD(a a':Option Addr)(n n' cap cap' m d:Nat)(w:World)(h:Num w a n m)(h':Num w a' n' d)(hd:0<d)(hdiv:Hid (∀w1,Num w1 a n m→Num w1 a' n' d→Calls Tryz.prog 88 #[.slice a n cap,.slice a' n' cap'] w1 fun e w'=>kE w' w1.heap.size e (m/d) (m%d)∧Below w1.heap.size w1 w')) :
  Calls Tryz.prog 154 #[.agg #[.slice a n cap],.agg #[.slice a' n' cap']] w fun e w'=>ry w' w.heap.size e m d∧Below w.heap.size w w':=by
 have hz:=h'.zero;have hn0:((n':Int)==0)=false:=by simp;omega
 have H:=hide h;have H':=hide h';obtain ⟨xs,hn,hl,hw,hN,hv,hb⟩:=h;obtain ⟨ys,hn',hl',hw',hN',hv',hb'⟩:=h';have hck:=fun (o1 o2 o3 o4:Obj)=>bq a a' cap cap' xs ys ((((w.alloc o1).alloc o2).alloc o3).alloc o4) (by omega) (by omega) ((((hl.alloc _).alloc _).alloc _).alloc _) ((((hl'.alloc _).alloc _).alloc _).alloc _);rw [hn,hn',eB (bC (by omega) hN) (bC (by omega) hN')] at hck;have HK:=hide hck;clear hck hl hl' hz hn hn' hv hv';go_enter Tryz.func154,Tryz.ntmps154
 go_wp2_with fail
 refine (aa HK _ _ _ _).mono ?_;rintro e w1 ⟨rfl,hb1⟩;obtain ⟨hc1,hf1⟩:=bO hb1;have hB:=hide (ai (ai (ai (ai (ah w (.cells #[.slice a n cap] 27)) (ah _ (.cells #[.slice a' n' cap'] 27))) (ah _ (.cells #[.slice none 0 0] 27))) (ah _ (.cells #[.slice none 0 0] 27))) hb1);have hbx:=((aQ.made ((w.alloc (.cells #[.slice a n cap] 27)).alloc (.cells #[.slice a' n' cap'] 27)) (.slice none 0 0)).alloc (.cells #[.slice none 0 0] 27)).kept hb1;have hby:=(aQ.made (((w.alloc (.cells #[.slice a n cap] 27)).alloc (.cells #[.slice a' n' cap'] 27)).alloc (.cells #[.slice none 0 0] 27)) (.slice none 0 0)).kept hb1;simp only [World.size_alloc] at hbx hby
 have HBX:=hide hbx;have HBY:=hide hby
 clear hb1 HK hbx hby
 go_wp2_with fail
 refine (aa hdiv w1 ((aa H).kept (aa hB)) ((aa H').kept (aa hB))).mono ?_;rintro e w2 ⟨⟨aq,nq,cq,ar,nr,cr,rfl,hq,hr⟩,hb2⟩;have hbx2:=(aa HBX).kept hb2;have hby2:=(aa HBY).kept hb2;have hcx:=hbx2.cell;have hfx:=hbx2.frozen;have hcy:=hby2.cell;have hfy:=hby2.frozen;have hby3:=hby2.other (a:=⟨w.heap.size+1+1,0,none⟩) (show w.heap.size+1+1+1≠w.heap.size+1+1 by omega) (.slice aq nq cq);have hsz:=(aa hB).size;have HQ:=hide (((hq.mono hsz).setBox hbx2 (.slice aq nq cq)).setBox hby3 (.slice ar nr cr));have HR:=hide (((hr.mono hsz).setBox hbx2 (.slice aq nq cq)).setBox hby3 (.slice ar nr cr));have HB2:=hide (ai (aa hB) hb2);clear hq hr hb2 hbx2 hby2 hby3 hc1 hf1;go_wp2
 exact bodyPost_ret (v:=.tuple #[.agg #[.slice aq nq cq],.agg #[.slice ar nr cr],.int .i64 0]) (by simp [results,Tryz.results154,go_sem,hcx,hcy]) rfl ⟨Or.inr ⟨hd,_,_,_,_,_,_,rfl,aa HQ,aa HR⟩,((aa HB2).setCell (p:=⟨w.heap.size+1+1,0,none⟩) (by simp;omega) _).setCell (by simp;omega) _⟩
theorem I7{K D P top next p2 p1 p0 lD lP:Nat}(hK:0<K)(hD:D=lD+K*(next+4294967296*top))(hP:P=lP+K*(p0+4294967296*(p1+4294967296*p2)))(hlP:lP<K)(h0:p0<4294967296)(h1:p1<4294967296)(htop:0<top)(hnx:next<4294967296)(hlt:P<4294967296*D)(hp2:p2≤top):Dg (P/D) top next p2 p1 p0:=by
 have hDpos:0<D:=by
  have:0<K*(next+4294967296*top):=Nat.mul_pos hK (by omega);omega
 have hPup:P<K*(p0+1+4294967296*(p1+4294967296*p2)):=by
  have e:K*(p0+1+4294967296*(p1+4294967296*p2))=K*(p0+4294967296*(p1+4294967296*p2))+K:=by
   rw [show p0+1+4294967296*(p1+4294967296*p2)=(p0+4294967296*(p1+4294967296*p2))+1 by omega,Nat.mul_add,Nat.mul_one]
  omega
 have hDlow:∀g,K*(g*next+4294967296*(g*top))≤g*D:=fun g=>by
  have e:K*(g*next+4294967296*(g*top))=g*(K*(next+4294967296*top)):=by
   rw [Nat.mul_left_comm g K,Nat.mul_add g,Nat.mul_left_comm g]
  rw [e];exact Nat.mul_le_mul_left g (by omega)
 have hqD:P/D*D≤P:=Nat.div_mul_le_self P D;refine ⟨?_,htop,?_,?_,?_⟩
 ·exact (Nat.div_lt_iff_lt_mul hDpos).2 hlt
 ·by_cases h:P/D*top≤p2*4294967296+p1
  ·exact h
  ·have a1:=hDlow (P/D);generalize P/D=q at *;have a2:K*(p0+1+4294967296*(p1+4294967296*p2))≤K*(q*next+4294967296*(q*top)):=Nat.mul_le_mul_left K (by
    generalize q*top=z at *;generalize q*next=y at *;omega)
   omega
 ·intro g l e hm;have a1:=hDlow g;have a2:K*(p0+1+4294967296*(p1+4294967296*p2))≤K*(g*next+4294967296*(g*top)):=Nat.mul_le_mul_left K (by
   generalize g*top=z at *;generalize g*next=y at *;omega)
  exact (Nat.div_lt_iff_lt_mul hDpos).2 (by omega)
 ·intro g l e hl;have:g*top<4294967296*top:=by
   generalize g*top=z at *;omega
  exact Nat.lt_of_mul_lt_mul_right this
theorem rO(xs:List Nat)(m:Nat)(h:xs.length=m+2):Pl.val xs=Pl.val (xs.take m)+4294967296^m*(xs[m]?.getD 0+4294967296*xs[m+1]?.getD 0):=by
 rw [Pl.val_split xs m (by omega),Pl.drop_cons xs m (by omega),Pl.drop_cons xs (m+1) (by omega),List.drop_eq_nil_of_le (by omega)];simp [Pl.val]
theorem GN(xs:List Nat)(m:Nat)(h:xs.length=m+3):Pl.val xs=Pl.val (xs.take m)+4294967296^m*(xs[m]?.getD 0+4294967296*(xs[m+1]?.getD 0+4294967296*xs[m+2]?.getD 0)):=by
 rw [Pl.val_split xs m (by omega),Pl.drop_cons xs m (by omega),Pl.drop_cons xs (m+1) (by omega),Pl.drop_cons xs (m+2) (by omega),List.drop_eq_nil_of_le (by omega)];simp [Pl.val]
theorem vC{xs:List Nat}(w:Pl.Wf xs)(m:Nat)(h:m≤xs.length):Pl.val (xs.take m)<4294967296^m:=by
 have:=Pl.val_lt (Pl.wf_take w m)
 rwa [List.length_take,Nat.min_eq_left h] at this
theorem GL{K D T t p l:Nat}(hD:D<K*(t+1))(hT:T=l+K*p)(hlt:T<D):p≤t:=by
 by_cases h:p≤t
 ·exact h
 ·have:K*(t+1)≤K*p:=Nat.mul_le_mul_left K (by omega);omega
theorem BC{m z:Nat}{xs rs:List Nat}(hx:xs.length=m+2)(hr:rs.length=m+2)(wx:Pl.Wf xs)(wr:Pl.Wf rs)(hz:z<4294967296)(ht:xs[m+1]?.getD 0≠0)(hlt:Pl.val rs<Pl.val xs) :
  Dg (Pl.val (z::rs)/Pl.val xs) (xs[m+1]?.getD 0) (xs[m]?.getD 0) ((z::rs)[m+2]?.getD 0) ((z::rs)[m+1]?.getD 0) ((z::rs)[m]?.getD 0):=by
 have wd:Pl.Wf (z::rs):=Pl.wf_cons hz wr;refine I7 (K:=4294967296^m) (Nat.pow_pos (by decide)) (rO xs m hx) (GN (z::rs) m (by simp [hr])) (vC wd m (by simp [hr];omega)) (Pl.wf_at wd _) (Pl.wf_at wd _) (by omega) (Pl.wf_at wx _) ?_ ?_
 ·show z+4294967296*Pl.val rs<4294967296*Pl.val xs
  omega
 ·rw [List.getElem?_cons_succ];have e1:=rO rs m hr;have e2:=rO xs m hx;have l1:=vC wx m (by omega);have n1:xs[m]?.getD 0<4294967296:=Pl.wf_at wx m;refine GL (K:=4294967296^m*4294967296) (l:=Pl.val (rs.take m)+4294967296^m*rs[m]?.getD 0) ?_ ?_ hlt
  ·rw [e2];exact top_bound l1 n1
  ·rw [e1,Nat.mul_add,←Nat.mul_assoc,←Nat.add_assoc]
where
 top_bound {K l n t:Nat} (hl:l<K) (hn:n<4294967296):l+K*(n+4294967296*t)<K*4294967296*(t+1):=by
  have:K*(n+1)≤K*4294967296:=Nat.mul_le_mul_left K hn;rw [Nat.mul_add,Nat.mul_add,←Nat.mul_assoc,Nat.mul_one];rw [Nat.mul_add,Nat.mul_one] at this;omega
theorem FC{V g P D:Nat}(hD:0<D)(h:V+g*D=P)(hq:P/D≤g):g=P/D∧V<D:=by
 have h1:g*D≤P:=by omega
 have h2:g≤P/D:=(Nat.le_div_iff_mul_le hD).2 h1;have h3:g=P/D:=by omega
 refine ⟨h3,?_⟩;have h4:=Nat.lt_div_mul_add hD (a:=P);rw [←h3] at h4;omega
theorem Gy{V g P D M:Nat}(hV:V<M)(h:V+g*D=P+M):P/D<g:=by
 have hD:0<D:=by
  cases D with
  | zero=>simp at h;omega
  | succ D=>omega
 rw [Nat.div_lt_iff_lt_mul hD];omega
theorem Hz{V V' g P D M c:Nat}(h:V+(g+1)*D=P+M*1)(ha:V'+M*c=V+D)(hc:c≤1):V'+g*D=P+M*(1-c):=by
 rw [Nat.add_mul,Nat.one_mul] at h;rcases Nat.le_one_iff_eq_zero_or_eq_one.1 hc with rfl|rfl
 ·simp at ha ⊢;omega
 ·simp at ha ⊢;omega
theorem BQ{out:List Nat}{n D:Nat}(hl:out.length=n+1)(h:Pl.val out<D)(hD:D≤4294967296^n):out=out.take n ++ [0]∧Pl.val (out.take n)=Pl.val out:=by
 have e:=Pl.take_snoc out n (by omega);rw [List.take_of_length_le (by omega)] at e;have hv:=Pl.val_take_any out n;rw [List.take_of_length_le (by omega:out.length≤n+1)] at hv;have h0:out[n]?.getD 0=0:=by
  cases hz:out[n]?.getD 0 with
  | zero=>rfl
  | succ z=>
   rw [hz,Nat.mul_add,Nat.mul_one] at hv;omega
 rw [h0] at e hv;exact ⟨e,by simpa using hv.symm⟩
def oQ(w:World)(base:Nat)(e:Ending)(m m':Nat):Prop:=
 (m<m'∧e = .returned (.tuple #[.agg #[.slice none 0 0],.bool false,.int .i64 0])) ∨
 (m'≤m∧∃a n cap,e = .returned (.tuple #[.agg #[.slice a n cap],.bool true,.int .i64 0])∧Mine w base a n cap (m-m'))
theorem yP{m m':Nat}(h:m'≤m):decide (bW m m'<0)=false:=by
 by_cases e:m=m'
 ·rw [e,jm];decide
 ·rw [kF (by omega)];decide
theorem aQ.but{w w':World}{p C:Nat}{v:Value}(h:aQ w p v)(k:Only C w w')(hne:p≠C):aQ w' p v:=by
 unfold aQ;rw [k.block p hne];exact h
theorem Mine.cut0{w:World}{base c m:Nat}{a:Option Addr}(h:Mine w base a 0 c m):Own w base (.slice a 0 0) []:=by
 obtain ⟨xs,hn,ho,_⟩:=h;obtain rfl:xs = []:=List.length_eq_zero_iff.1 hn;rcases ho with ⟨e,_⟩|⟨g,cap,cur,e,hg,hh,h1,h2,h3,hc⟩
 ·injection e with e1 e2 e3
  exact Or.inl ⟨by rw [e1],rfl⟩
 ·injection e with e1 e2 e3
  exact Or.inr ⟨g,0,cur,by rw [e1];rfl,hg,hh,Nat.zero_le _,Nat.zero_le _,by omega,fun j hj=>by simp at hj⟩
theorem iQ(a a':Option Addr)(n n' cap cap' m m':Nat)(w:World)(h:Num w a n m)(h':Num w a' n' m') :
  Calls Tryz.prog 84 #[.agg #[.slice a n cap],.agg #[.slice a' n' cap']] w fun e w'=>e = .returned (.int .i64 0)∧Below w.heap.size w w':=by
 obtain ⟨zs,kn,kl,kw,kN,kv,kb⟩:=h;obtain ⟨ys,kn',kl',kw',kN',kv',kb'⟩:=h';have:=bq a a' cap cap' zs ys w (by omega) (by omega) kl kl';rw [kn,kn',eB (bC (by omega) kN) (bC (by omega) kN')] at this;exact this
theorem sub_lt(a a':Option Addr)(n n' cap cap' m m':Nat)(w:World)(h:Num w a n m)(h':Num w a' n' m')(hlt:m<m') :
  Calls Tryz.prog 150 #[.agg #[.slice a n cap],.agg #[.slice a' n' cap']] w fun e w'=>oQ w' w.heap.size e m m'∧Below w.heap.size w w':=by
 have hN:=h;have hN':=h';obtain ⟨xs,hn,hl,hw,hNn,hv,hb⟩:=h;obtain ⟨ys,hn',hl',hw',hNn',hv',hb'⟩:=h';have hck:=fun (o1 o2 o3:Obj)=>bq a a' cap cap' xs ys (((w.alloc o1).alloc o2).alloc o3) (by omega) (by omega) (((hl.alloc _).alloc _).alloc _) (((hl'.alloc _).alloc _).alloc _);rw [hn,hn',eB (bC (by omega) hNn) (bC (by omega) hNn')] at hck;have HK:=hide hck;have hcm:=ko hlt;have HLT:=hide hlt;clear hck hn hn' hv hv' hl hl' hlt;go_enter Tryz.func150,Tryz.ntmps150
 go_wp2_with fail
 refine (aa HK _ _ _).mono ?_;rintro e w1 ⟨rfl,hb1⟩;obtain ⟨hc1,hf1⟩:=bO hb1;have hby:=(aQ.made ((w.alloc (.cells #[.slice a n cap] 27)).alloc (.cells #[.slice a' n' cap'] 27)) (.slice none 0 0)).kept hb1;simp only [World.size_alloc] at hby
 have hB:=hide (ai (ai (ai (ah w (.cells #[.slice a n cap] 27)) (ah _ (.cells #[.slice a' n' cap'] 27))) (ah _ (.cells #[.slice none 0 0] 27))) hb1);have h1:=hN.kept (aa hB);have h1':=hN'.kept (aa hB);clear hb1 HK hN hN';go_wp2_with fail
 refine (bZ a a' n n' cap cap' m m' w1 h1 h1').mono ?_;rintro e w2 ⟨rfl,hb2⟩;rw [hcm];have hX2:=hby.kept hb2;have hcx:=hX2.cell;have hfx:=hX2.frozen;have HB2:=hide (ai (aa hB) hb2);clear hb2 h1 h1' hc1 hf1;go_wp2
 exact bodyPost_ret (v:=.tuple #[.agg #[.slice none 0 0],.bool false,.int .i64 0]) (by simp [results,Tryz.results150,go_sem,hcx]) rfl ⟨Or.inl ⟨aa HLT,rfl⟩,(aa HB2).setCell (Nat.le_add_right _ 2) _⟩
theorem Ib(b off:Nat)(a':Option Addr)(n n' cap cap' m m':Nat)(xs:List Nat)(w:World)(h:Num w (some ⟨b,off,none⟩) n m)(h':Num w a' n' m')(hle:m'≤m)(hn:Hid (xs.length=n))(hp:0<n)(hv:Hid (Pl.val xs=m))(hw:Pl.Wf xs)(hlt:b<w.heap.size)(hc:Hid (∀j,j<n→w.cell? ⟨b,off+j,none⟩=some (.int .u32 ((xs[j]?.getD 0:Nat):Int)))) :
  Calls Tryz.prog 150 #[.agg #[.slice (some ⟨b,off,none⟩) n cap],.agg #[.slice a' n' cap']] w fun e w'=>oQ w' w.heap.size e m m'∧Below w.heap.size w w':=by
 have hN:=h;have hN':=h';have hnb:=h.len;have hnn:n'≤n:=by
  obtain ⟨zs,kn,_,kw,kN,kv,_⟩:=h;obtain ⟨ys,kn',_,kw',kN',kv',_⟩:=h';have:=(Pl.val_le_len kw' kN' n).2 (by rw [kv'];have:=Pl.val_lt kw;rw [kn,kv] at this;omega);omega
 have hck:=fun (o1 o2 o3:Obj)=>iQ (some ⟨b,off,none⟩) a' n n' cap cap' m m' (((w.alloc o1).alloc o2).alloc o3) (((h.alloc _).alloc _).alloc _) (((h'.alloc _).alloc _).alloc _);have HK:=hide hck;have hcm:=yP hle;have HLE:=hide hle;have HNN:=hide (And.intro hnn hnb);clear hck hle hnn h h';go_enter Tryz.func150,Tryz.ntmps150
 go_wp2_with fail
 refine (aa HK _ _ _).mono ?_;rintro e w1 ⟨rfl,hb1⟩;obtain ⟨hc1,hf1⟩:=bO hb1;have hbb:=(aQ.made (w.alloc (.cells #[.slice (some ⟨b,off,none⟩) n cap] 27)) (.slice a' n' cap')).alloc (.cells #[.slice none 0 0] 27);have hbb:=hbb.kept hb1;have hby:=(aQ.made ((w.alloc (.cells #[.slice (some ⟨b,off,none⟩) n cap] 27)).alloc (.cells #[.slice a' n' cap'] 27)) (.slice none 0 0)).kept hb1;have hba:=(((aQ.made w (.slice (some ⟨b,off,none⟩) n cap)).alloc (.cells #[.slice a' n' cap'] 27)).alloc (.cells #[.slice none 0 0] 27)).kept hb1;simp only [World.size_alloc] at hby hbb hba;have hB:=hide (ai (ai (ai (ah w (.cells #[.slice (some ⟨b,off,none⟩) n cap] 27)) (ah _ (.cells #[.slice a' n' cap'] 27))) (ah _ (.cells #[.slice none 0 0] 27))) hb1);have h1:=hN.kept (aa hB);have h1':=hN'.kept (aa hB);clear hb1 HK hN hN';go_wp2_with fail
 refine (bZ (some ⟨b,off,none⟩) a' n n' cap cap' m m' w1 h1 h1').mono ?_;rintro e w2 ⟨rfl,hb2⟩;have hba2:=hba.kept hb2;have hbb2:=hbb.kept hb2;have hby2:=hby.kept hb2;have hca:=hba2.cell;have hN2:=h1'.kept hb2;have HB2:=hide (ai (aa hB) hb2);have hs2:=(aa HB2).size;clear hb2 h1 h1' hc1 hf1 hba hbb hby
 go_wp2_with fail
 refine (oo b off cap n xs w2 hn hp (by omega) (by omega) (fun j hj=>((aa HB2).cell (by exact hlt)).trans (aa hc j hj))).mono ?_;rintro e w3 ⟨g,c,rfl,hg,hgc,hc9,hrow,_,hb3⟩;have hbb3:=hbb2.kept hb3;have hby3:=hby2.kept hb3;have hcb:=hbb3.cell;have hN3:=hN2.kept hb3;have HB3:=hide (ai (aa HB2) hb3);have hgy:w.heap.size+1+1<g:=Nat.lt_of_lt_of_le hby2.lt hg;have hgw:w.heap.size≤g:=Nat.le_trans hs2 hg;have HG:=hide (And.intro hg (And.intro hgy hgw));have hnc:∀B2 off2,a'=some ⟨B2,off2,none⟩→0<n'→B2≠g:=by
  intro B2 off2 e h0 hbb;obtain ⟨ys,kn,kl,_⟩:=hN2;rcases kl.parts with hx|⟨_,b2,off2',ha,hblt,_⟩
  ·rw [hx] at kn;simp at kn;omega
  ·rw [ha] at e;injection e with e;injection e with e1;omega
 have HC:=hide hnc;clear hb3 hca hba2 hbb2 hby2 hN2 hnc hg hgy hgw;go_wp2_with fail
 refine (?_:Calls Tryz.prog 168 #[.slice (some ⟨g,0,none⟩) n c,.slice a' n' cap'] w3 fun e w'=>∃(out:List Nat),e = .returned (.tuple #[])∧out.length=n∧Pl.Wf out∧Pl.val out=m-m'∧Row w' g out∧Only g w3 w').mono ?_
 ·obtain ⟨ys,kn',kl',kw',kN',kv',kb'⟩:=hN3;rcases kl'.parts with hx|⟨h0,b2,off2,rfl,_,kc⟩
  ·have hn0:n'=0:=by rw [←kn',hx];rfl
   have hm0:m'=0:=by rw [←kv',hx];rfl
   subst hn0 hm0;refine (qN g n c cap' a' xs w3 hn (by omega) hw hrow).mono ?_;rintro e w' ⟨out,he,ho,hw',hv',hr,hO⟩;exact ⟨out,he,ho,hw',by rw [hv',aa hv];rfl,hr,hO⟩
  ·refine (qK g n b2 off2 n' c cap' xs ys w3 hn (hide kn') (aa HNN).1 (by omega) (aa HC b2 off2 rfl (by omega)) (hide (by rw [kv',aa hv];exact aa HLE)) hw kw' hrow (fun j hj=>kc j (by omega))).mono ?_;rintro e w' ⟨out,he,ho,hw',hv',hr,hO⟩;exact ⟨out,he,ho,hw',by rw [hv',kv',aa hv],hr,hO⟩
 rintro e w4 ⟨out,rfl,hol,how,hov,hrow4,honly⟩;obtain ⟨hg,hgy,hgw⟩:=aa HG;have hby4:=hby3.but honly (Nat.ne_of_lt hgy);have HB4:=hide (honly.below (aa HB3) hgw);have HV:=hide hov;clear hov honly hcb hbb3 hby3 hN3 hrow HB3;go_wp2_with fail
 refine (dL g 0 n c out w4 hol hgc hc9 (fun j hj=>by rw [Nat.zero_add];exact hrow4.cell j hj)).mono ?_;rintro e w5 ⟨rfl,l,hl1,h0,h1,rfl⟩;have HT:=hide (bY hrow4 hgw (by omega) how hl1 h0 h1);have hcx:=hby4.cell;have hfx:=hby4.frozen;have HL:=hide (show l≤16384 by omega);clear h0 h1 hl1;go_wp2
 obtain ⟨t1,t2,t3,t4,t5⟩:=aa HT;exact bodyPost_ret (v:=.tuple #[.agg #[.slice (some ⟨g,0,none⟩) l l],.bool true,.int .i64 0]) (by simp [results,Tryz.results150,go_sem,hcx]) rfl ⟨Or.inr ⟨aa HLE,_,l,l,rfl,out.take l,t1,t2.setBox hby4 _,t3,t4,t5.trans (aa HV),aa HL⟩,(aa HB4).setCell (Nat.le_add_right _ 2) _⟩
theorem BZ(a a':Option Addr)(cap cap':Nat)(w:World) :
  Calls Tryz.prog 150 #[.agg #[.slice a 0 cap],.agg #[.slice a' 0 cap']] w fun e w'=>oQ w' w.heap.size e 0 0∧Below w.heap.size w w':=by
 have hz:∀(w:World)(a:Option Addr),Num w a 0 0:=fun w a=>⟨[],rfl,Or.inl rfl,Pl.wf_nil,Pl.norm_nil,rfl,by omega⟩;have hck:=fun (o1 o2 o3:Obj)=>bq a a' cap cap' [] [] (((w.alloc o1).alloc o2).alloc o3) (by simp) (by simp) (Or.inl rfl) (Or.inl rfl);rw [eB (bC (by simp) Pl.norm_nil) (bC (by simp) Pl.norm_nil)] at hck;have HK:=hide hck;have HZ:=hide hz;clear hck hz;go_enter Tryz.func150,Tryz.ntmps150
 go_wp2_with fail
 refine (aa HK _ _ _).mono ?_;rintro e w1 ⟨rfl,hb1⟩;have hbb:=((aQ.made (w.alloc (.cells #[.slice a 0 cap] 27)) (.slice a' 0 cap')).alloc (.cells #[.slice none 0 0] 27)).kept hb1;have hby:=(aQ.made ((w.alloc (.cells #[.slice a 0 cap] 27)).alloc (.cells #[.slice a' 0 cap'] 27)) (.slice none 0 0)).kept hb1;have hba:=(((aQ.made w (.slice a 0 cap)).alloc (.cells #[.slice a' 0 cap'] 27)).alloc (.cells #[.slice none 0 0] 27)).kept hb1;simp only [World.size_alloc] at hby hbb hba;have hB:=hide (ai (ai (ai (ah w (.cells #[.slice a 0 cap] 27)) (ah _ (.cells #[.slice a' 0 cap'] 27))) (ah _ (.cells #[.slice none 0 0] 27))) hb1);have hca:=hba.cell;have hcb:=hbb.cell;clear hb1 HK;go_wp2_with fail
 refine (bZ a a' 0 0 cap cap' 0 0 w1 (aa HZ _ _) (aa HZ _ _)).mono ?_;rintro e w2 ⟨rfl,hb2⟩;rw [jm];have hba2:=hba.kept hb2;have hbb2:=hbb.kept hb2;have hby2:=hby.kept hb2;have hca2:=hba2.cell;have HB2:=hide (ai (aa hB) hb2);clear hb2 hca hcb hba hbb hby
 go_wp2_with fail
 refine (gB a 0 cap 0 w2 (aa HZ _ _)).mono ?_;rintro e w3 ⟨⟨a3,c3,rfl,hm3⟩,hb3⟩;have hbb3:=hbb2.kept hb3;have hby3:=hby2.kept hb3;have hcb3:=hbb3.cell;have hcx:=hby3.cell;have hfx:=hby3.frozen;have HB3:=hide (ai (aa HB2) hb3);have HO:=hide ((hm3.mono (aa HB2).size).cut0);clear hb3 hca2 hba2 hbb2 hby2 hm3;go_wp2_with fail
 refine (qJ c3 a3 a' 0 cap' w3).mono ?_;rintro e w4 ⟨rfl,rfl⟩;go_wp2_with fail
 refine (kZ a3 c3 w4).mono ?_;rintro e w5 ⟨rfl,rfl⟩;go_wp2
 exact bodyPost_ret (v:=.tuple #[.agg #[.slice a3 0 0],.bool true,.int .i64 0]) (by simp [results,Tryz.results150,go_sem,hcx]) rfl ⟨Or.inr ⟨Nat.le_refl _,_,0,0,rfl,[],rfl,(aa HO).setBox hby3 _,Pl.wf_nil,Pl.norm_nil,rfl,by omega⟩,(aa HB3).setCell (Nat.le_add_right _ 2) _⟩
theorem Eg(a a':Option Addr)(n n' cap cap' m m':Nat)(w:World)(h:Num w a n m)(h':Num w a' n' m') :
  Calls Tryz.prog 150 #[.agg #[.slice a n cap],.agg #[.slice a' n' cap']] w fun e w'=>oQ w' w.heap.size e m m'∧Below w.heap.size w w':=by
 by_cases hlt:m<m'
 ·exact sub_lt a a' n n' cap cap' m m' w h h' hlt
 ·have hN:=h;obtain ⟨xs,hn,hl,hw,hNn,hv,hb⟩:=h;rcases hl.parts with hx|⟨hp,b,off,rfl,hltb,hcx⟩
  ·have hm0:m=0:=by rw [←hv,hx];rfl
   have hn0:n=0:=by rw [←hn,hx];rfl
   have hm':m'=0:=by omega
   have hn':=(h'.zero).2 hm';subst hm0 hn0 hm' hn';exact BZ a a' cap cap' w
  ·exact Ib b off a' n n' cap cap' m m' xs w hN h' (by omega) (hide hn) (by omega) (hide hv) hw hltb (hide fun j hj=>hcx j (by omega))
end Go.Proofs.YtaidedkpfnidpaaGreatDoor
