/- Of what NearRoundsRow stands on: ExCmp. -/
import Derived.Test.YtaidedkpfnidpaaGreatDoorPar
namespace Go.Proofs.YtaidedkpfnidpaaGreatDoor
open Go.RowKit
set_option maxHeartbeats 2000000
theorem Fs.four(w:World)(cs:Array Value)(t:TypeId)(ds:Array Value)(u:TypeId)(es:Array Value)(v:TypeId)(gs:Array Value)(x:TypeId) :
  Fs w ((((w.alloc (.cells cs t)).alloc (.cells ds u)).alloc (.cells es v)).alloc (.cells gs x)) [⟨w.heap.size,cs,t⟩,⟨w.heap.size+1,ds,u⟩,⟨w.heap.size+2,es,v⟩,⟨w.heap.size+3,gs,x⟩]:=by
 have h:=((((Fs.begin w).alloc cs t).alloc ds u).alloc es v).alloc gs x;simp only [World.size_alloc,Nat.add_assoc] at h;exact h.sub (by simp)
theorem Fs.three(w:World)(cs:Array Value)(t:TypeId)(ds:Array Value)(u:TypeId)(es:Array Value)(v:TypeId) :
  Fs w (((w.alloc (.cells cs t)).alloc (.cells ds u)).alloc (.cells es v)) [⟨w.heap.size,cs,t⟩,⟨w.heap.size+1,ds,u⟩,⟨w.heap.size+2,es,v⟩]:=by
 have h:=(((Fs.begin w).alloc cs t).alloc ds u).alloc es v;simp only [World.size_alloc,Nat.add_assoc] at h;exact h.sub (by simp)
def qX(w':World)(e:Ending)(u v:Nat):Prop:=∃A N C A' N' C',e = .returned (.tuple #[.agg #[.slice A N C],.agg #[.slice A' N' C'],.int .i64 0])∧Num w' A N u∧Num w' A' N' v
theorem qX.of{w':World}{A A':Option Addr}{N C N' C' u v:Nat}(h:Num w' A N u)(h':Num w' A' N' v):qX w' (.returned (.tuple #[.agg #[.slice A N C],.agg #[.slice A' N' C'],.int .i64 0])) u v:=⟨_,_,_,_,_,_,rfl,h,h'⟩
theorem iU{W:World}{b j:Nat}{cs:Array Value}{t:TypeId}{u:Value}(hb:W.heap[b]? = some (.cells cs t (0,0)))(hc:cs[j]? = some u):W.setCell ⟨b,j,none⟩ u=W:=by
 have he:(W.setCell ⟨b,j,none⟩ u).heap=W.heap:=by
  apply Array.ext_getElem?;intro k;by_cases hk:k=b
  ·subst hk;rw [heap_setCell_same W k j _ _ _ hb,hb]
   congr 2
   apply Array.ext_getElem?;intro i;by_cases hi:i=j
   ·subst hi;obtain ⟨hlt,_⟩:=Array.getElem?_eq_some_iff.1 hc;rw [hc];simp [hlt]
   ·rw [Array.getElem?_setIfInBounds_ne (Ne.symm hi)]
  ·rw [heap_setCell_other W _ k u hk]
 have:W.setCell ⟨b,j,none⟩ u = { W with heap:=(W.setCell ⟨b,j,none⟩ u).heap }:=rfl;rw [this,he]
theorem xX(s:Bool)(a:Option Addr)(n cap:Nat)(x:Int)(w:World)  :
  Calls Tryz.prog 170 #[.agg #[.bool s,.slice a n cap,.int .i64 x],.int .i64 x] w fun e w'=>e = .returned (.tuple #[.agg #[.slice a n cap],.int .i64 0])∧Below w.heap.size w w':=by
 go_enter Tryz.func170,Tryz.ntmps170
 go_wp2
 exact bodyPost_ret (v:=.tuple #[.agg #[.slice a n cap],.int .i64 0]) (by simp [results,Tryz.results170,go_sem]) rfl ⟨rfl,(Fs.two w _ _ _ _).fr⟩
theorem DW(a:Option Addr)(n cap m k:Nat)(w:World)(h:Num w a n m)(hk:k<9223372036854775808)(hno:¬Over (m*2^k)) :
  Calls Tryz.prog 63 #[.agg #[.slice a n cap],.int .i64 (k:Int)] w fun e w'=>(∃a n c,e = .returned (.tuple #[.agg #[.slice a n c],.int .i64 0])∧Mine w' w.heap.size a n c (m*2^k))∧Below w.heap.size w w':=by
 refine (qZ a n cap m k w h hk).mono ?_;rintro e w' ⟨h1|h1,hb⟩
 ·exact ⟨h1,hb⟩
 ·exact absurd h1.2 hno
theorem EB(s:Bool)(a:Option Addr)(n cap m:Nat)(x:Int)(t:Int)(j:Nat)(w:World)(h:Num w a n m)(hj:x-t=(j:Int))(h0:0<j)(hj2:j<9223372036854775808)(hno:¬Over (m*2^j)) :
  Calls Tryz.prog 170 #[.agg #[.bool s,.slice a n cap,.int .i64 x],.int .i64 t] w fun e w'=>(∃A N C,e = .returned (.tuple #[.agg #[.slice A N C],.int .i64 0])∧Num w' A N (m*2^j))∧Below w.heap.size w w':=by
 have hne:(x==t)=false:=by simp;omega
 have H:=hide h;have HO:=hide hno;clear h hno;go_enter Tryz.func170,Tryz.ntmps170
 go_wp2_with fail
 refine (DW a n cap m j _ (((aa H).alloc _).alloc _) hj2 (aa HO)).mono ?_;rintro e w1 ⟨⟨A1,N1,C1,rfl,f1⟩,hb1⟩;have hS:=(Fs.two w _ _ _ _).kept hb1;obtain ⟨⟨ya,yb,yc,-⟩,⟨yd,-⟩,-⟩:=hS.cells;have F1:=hide f1;clear f1;have fz0:=hS.frozen (b:=w.heap.size+1) (cs:=#[.slice none 0 0]) (t:=27) (by simp) 0;go_wp2
 exact bodyPost_ret (v:=.tuple #[.agg #[.slice A1 N1 C1],.int .i64 0]) (by simp [results,Tryz.results170,go_sem,yd]) rfl ⟨⟨_,_,_,rfl,((aa F1).set (by simp) _).num⟩,hS.fr.setCell (by simp) _⟩
theorem vK(s:Bool)(a:Option Addr)(n cap m:Nat)(x t:Int)(j:Nat)(w:World)(h:Num w a n m)(hj:x-t=(j:Int))(hj2:j<9223372036854775808)(hno:¬Over (m*2^j)) :
  Calls Tryz.prog 170 #[.agg #[.bool s,.slice a n cap,.int .i64 x],.int .i64 t] w fun e w'=>(∃A N C,e = .returned (.tuple #[.agg #[.slice A N C],.int .i64 0])∧Num w' A N (m*2^j))∧Below w.heap.size w w':=by
 rcases Nat.eq_zero_or_pos j with h0|h0
 ·subst h0;obtain rfl:x=t:=by omega
  refine (xX s a n cap x w).mono ?_;rintro e w' ⟨rfl,hb⟩;exact ⟨⟨_,_,_,rfl,by rw [Nat.pow_zero,Nat.mul_one];exact h.kept hb⟩,hb⟩
 ·exact EB s a n cap m x t j w h hj h0 hj2 hno
theorem iF(s:Bool)(a:Option Addr)(n cap m:Nat)(x:Int)(s':Bool)(a':Option Addr)(n' cap' m':Nat)(x':Int)(t:Int)(j j':Nat)(w:World)(h:Num w a n m)(h':Num w a' n' m')(hmin:min x x'=t)(hj:x-t=(j:Int))(hj':x'-t=(j':Int))(hj2:j<9223372036854775808)(hj2':j'<9223372036854775808)(hno:¬Over (m*2^j))(hno':¬Over (m'*2^j')) :
  Calls Tryz.prog 161 #[.agg #[.bool s,.slice a n cap,.int .i64 x],.agg #[.bool s',.slice a' n' cap',.int .i64 x']] w fun e w'=>qX w' e (m*2^j) (m'*2^j')∧Below w.heap.size w w':=by
 have H:=hide h;have H':=hide h';have HJ:=hide hj;have HJ':=hide hj';have HO:=hide hno;have HO':=hide hno';clear h h' hj hj' hno hno';go_enter Tryz.func161,Tryz.ntmps161
 go_wp2_with fail
 refine (vK s a n cap m x t j _ (((((aa H).alloc _).alloc _).alloc _).alloc _) (aa HJ) hj2 (aa HO)).mono ?_;rintro e w1 ⟨⟨A1,N1,C1,rfl,f1⟩,hb1⟩;have hS:=(Fs.four w _ _ _ _ _ _ _ _).kept hb1;obtain ⟨⟨ya,yb,yc,-⟩,⟨yd,ye,yf,-⟩,⟨yg,-⟩,⟨yh,-⟩,-⟩:=hS.cells;have F1:=hide f1;clear f1;have fz0:=hS.frozen (b:=w.heap.size+2) (cs:=#[.slice none 0 0]) (t:=27) (by simp) 0;have hS2:=hS.put (b:=w.heap.size+2) (cs:=#[.slice none 0 0]) (t:=27) (by simp) (by simp) 0 (.slice A1 N1 C1) [⟨w.heap.size,#[.bool s,.slice a n cap,.int .i64 x],58⟩,⟨w.heap.size+1,#[.bool s',.slice a' n' cap',.int .i64 x'],58⟩,⟨w.heap.size+2,#[.slice A1 N1 C1],27⟩,⟨w.heap.size+3,#[.slice none 0 0],27⟩] (by simp);have F1b:=hide ((aa F1).put (hS.bx ⟨w.heap.size+2,#[.slice none 0 0],27⟩ (by simp)) (bD _ rfl) 0 (.slice A1 N1 C1));clear F1;go_wp2_with fail
 refine (vK s' a' n' cap' m' x' t j' _ ((aa H').kept hS2.fr) (aa HJ') hj2' (aa HO')).mono ?_;rintro e w2 ⟨⟨A2,N2,C2,rfl,f2⟩,hb2⟩;clear ya yb yc yd ye yf yg yh fz0;clear hS;have hS:=hS2.kept hb2;have F1c:=hide ((aa F1b).kept hb2);clear F1b hS2;obtain ⟨⟨yi,yj,yk,-⟩,⟨yl,ym,yn,-⟩,⟨yo,-⟩,⟨yp,-⟩,-⟩:=hS.cells;have F2:=hide f2;clear f2;have fz0:=hS.frozen (b:=w.heap.size+3) (cs:=#[.slice none 0 0]) (t:=27) (by simp) 0;have hS2:=hS.put (b:=w.heap.size+3) (cs:=#[.slice none 0 0]) (t:=27) (by simp) (by simp) 0 (.slice A2 N2 C2) [⟨w.heap.size,#[.bool s,.slice a n cap,.int .i64 x],58⟩,⟨w.heap.size+1,#[.bool s',.slice a' n' cap',.int .i64 x'],58⟩,⟨w.heap.size+2,#[.slice A1 N1 C1],27⟩,⟨w.heap.size+3,#[.slice A2 N2 C2],27⟩] (by simp);have F2b:=hide ((aa F2).put (hS.bx ⟨w.heap.size+3,#[.slice none 0 0],27⟩ (by simp)) (bD _ rfl) 0 (.slice A2 N2 C2));have F1d:=hide ((aa F1c).put (hS.bx ⟨w.heap.size+3,#[.slice none 0 0],27⟩ (by simp)) (bD _ rfl) 0 (.slice A2 N2 C2));clear F2 F1c;go_wp2_with fail
 clear yi yj yk yl ym yn yo yp fz0;clear hS;obtain ⟨W8,hW8⟩:∃W8,W8=w2.setCell ⟨w.heap.size+3,0,none⟩ (.slice A2 N2 C2):=⟨_,rfl⟩;rw [←hW8] at hS2 F2b F1d ⊢;clear hW8;refine wp_region_any (by kernel_rfl) ?_;refine aM [some (35,.agg #[.slice A1 N1 C1]),some (36,.agg #[.slice A2 N2 C2]),none,none,some (6,.int .i64 0)]
  (fun _ W9=>W9=W8.drew) _ _ rfl (by kernel_rfl) rfl rfl ?_ ?_ rfl
 ·intro l9 t9 W9 i9 hD hi9 hl9 hM;obtain ⟨o9,ho9,hd9⟩:=(mem_ready.1 hi9).2;have hin9:i9<5:=by
   by_cases h:i9<5
   ·exact h
   ·rw [Array.getElem?_eq_none (by rw [hD.len];simp;omega)] at hl9;cases hl9
  have hcase:i9=0∨i9=1∨i9=2∨i9=3∨i9=4:=by omega
  clear hin9;rcases hcase with rfl|rfl|rfl|rfl|rfl
  ·cases ho9;have r4:=hD.old 4 _ rfl rfl;have hM0:Fs w W9 [⟨w.heap.size,#[.bool s,.slice a n cap,.int .i64 x],58⟩,⟨w.heap.size+1,#[.bool s',.slice a' n' cap',.int .i64 x'],58⟩,⟨w.heap.size+2,#[.slice A1 N1 C1],27⟩,⟨w.heap.size+3,#[.slice A2 N2 C2],27⟩]:=by rw [hM];exact hS2.drew
   have c9_0:=hM0.cellAt (b:=w.heap.size+2) (cs:=#[.slice A1 N1 C1]) (t:=27) (by simp) 0 _ rfl;clear hM0;have HM9:=hide hM;clear hM;refine wpOp_step rfl fun K hK=>?_;go_simp
   exact hK _ _ ⟨rfl,aa HM9⟩
  ·cases ho9;have r5:=hD.old 5 _ rfl rfl;have hM0:Fs w W9 [⟨w.heap.size,#[.bool s,.slice a n cap,.int .i64 x],58⟩,⟨w.heap.size+1,#[.bool s',.slice a' n' cap',.int .i64 x'],58⟩,⟨w.heap.size+2,#[.slice A1 N1 C1],27⟩,⟨w.heap.size+3,#[.slice A2 N2 C2],27⟩]:=by rw [hM];exact hS2.drew
   have c9_0:=hM0.cellAt (b:=w.heap.size+3) (cs:=#[.slice A2 N2 C2]) (t:=27) (by simp) 0 _ rfl;clear hM0;have HM9:=hide hM;clear hM;refine wpOp_step rfl fun K hK=>?_;go_simp
   exact hK _ _ ⟨rfl,aa HM9⟩
  ·cases ho9;have r4:=hD.old 4 _ rfl rfl;have r35:=hD.od hd9 0 35 _ rfl (by simp);have hM0:Fs w W9 [⟨w.heap.size,#[.bool s,.slice a n cap,.int .i64 x],58⟩,⟨w.heap.size+1,#[.bool s',.slice a' n' cap',.int .i64 x'],58⟩,⟨w.heap.size+2,#[.slice A1 N1 C1],27⟩,⟨w.heap.size+3,#[.slice A2 N2 C2],27⟩]:=by rw [hM];exact hS2.drew
   have c9_0:=hM0.cellAt (b:=w.heap.size+2) (cs:=#[.slice A1 N1 C1]) (t:=27) (by simp) 0 _ rfl;have z9_0:=hM0.frozen (b:=w.heap.size+2) (cs:=#[.slice A1 N1 C1]) (t:=27) (by simp) 0;have HM9:=hide hM;clear hM;refine wpOp_step rfl fun K hK=>?_;go_simp
   exact hK _ _ ⟨rfl,(iU (hM0.bx ⟨w.heap.size+2,#[.slice A1 N1 C1],27⟩ (by simp)) rfl).trans (aa HM9)⟩
  ·cases ho9;have r5:=hD.old 5 _ rfl rfl;have r36:=hD.od hd9 1 36 _ rfl (by simp);have hM0:Fs w W9 [⟨w.heap.size,#[.bool s,.slice a n cap,.int .i64 x],58⟩,⟨w.heap.size+1,#[.bool s',.slice a' n' cap',.int .i64 x'],58⟩,⟨w.heap.size+2,#[.slice A1 N1 C1],27⟩,⟨w.heap.size+3,#[.slice A2 N2 C2],27⟩]:=by rw [hM];exact hS2.drew
   have c9_0:=hM0.cellAt (b:=w.heap.size+3) (cs:=#[.slice A2 N2 C2]) (t:=27) (by simp) 0 _ rfl;have z9_0:=hM0.frozen (b:=w.heap.size+3) (cs:=#[.slice A2 N2 C2]) (t:=27) (by simp) 0;have HM9:=hide hM;clear hM;refine wpOp_step rfl fun K hK=>?_;go_simp
   exact hK _ _ ⟨rfl,(iU (hM0.bx ⟨w.heap.size+3,#[.slice A2 N2 C2],27⟩ (by simp)) rfl).trans (aa HM9)⟩
  ·cases ho9;have HM9:=hide hM;clear hM;refine wpOp_step rfl fun K hK=>?_;go_simp
   exact hK _ _ ⟨rfl,aa HM9⟩
 ·intro l9 W9 hl9 hM;subst hM;have hS:=hS2.drew;have F1e:=hide ((aa F1d).kept (vW (dJ _)));have F2e:=hide ((aa F2b).kept (vW (dJ _)));clear hS2 F1d F2b;simp only [ay.lay,List.setIfInBounds_toArray,List.set_cons_zero,List.set_cons_succ];obtain ⟨⟨yq,yr,ys,-⟩,⟨yt,yu,yv,-⟩,⟨yw,-⟩,⟨yx,-⟩,-⟩:=hS.cells;go_wp2
  exact bodyPost_ret (v:=.tuple #[.agg #[.slice A1 N1 C1],.agg #[.slice A2 N2 C2],.int .i64 0]) (by simp [results,Tryz.results161,go_sem,yw,yx]) rfl ⟨qX.of (aa F1e) (aa F2e),hS.fr⟩
structure Dy(w:World)(s:Bool)(a:Option Addr)(n m:Nat)(x:Int):Prop where
 num:Num w a n m
 ok:(m=0∧s=false∧x=0)∨(m%2=1∧-1073741824≤x∧x≤1073741824)
theorem Dy.kept{w w':World}{s:Bool}{a:Option Addr}{n m:Nat}{x:Int}(h:Dy w s a n m x)(hb:Below w.heap.size w w'):Dy w' s a n m x:=⟨h.num.kept hb,h.ok⟩
theorem Dy.range{w:World}{s:Bool}{a:Option Addr}{n m:Nat}{x:Int}(h:Dy w s a n m x):-1073741824≤x∧x≤1073741824:=by
 rcases h.ok with ⟨_,_,rfl⟩|⟨_,h1,h2⟩
 ·omega
 ·exact ⟨h1,h2⟩
theorem iK(s:Bool)(a:Option Addr)(n cap m:Nat)(x:Int)(w:World)(h:Dy w s a n m x) :
  Calls Tryz.prog 62 #[.agg #[.bool s,.slice a n cap,.int .i64 x]] w fun e w'=>e = .returned (.int .i64 0)∧Below w.heap.size w w':=by
 rcases h.ok with ⟨rfl,rfl,rfl⟩|⟨h1,h2⟩
 ·have hn:=h.num;obtain rfl:=hn.zero.2 rfl;exact qM a cap w hn
 ·exact yG s a n cap m x w h.num (by have:=h.num.zero;omega) h1 h2
theorem bU(s:Bool)(a:Option Addr)(n cap m:Nat)(x:Int)(s':Bool)(a':Option Addr)(n' cap' m':Nat)(x':Int)(w:World)(h:Dy w s a n m x)(h':Dy w s' a' n' m' x') :
  Calls Tryz.prog 159 #[.agg #[.bool s,.slice a n cap,.int .i64 x],.agg #[.bool s',.slice a' n' cap',.int .i64 x']] w fun e w'=>e = .returned (.int .i64 0)∧Below w.heap.size w w':=by
 have H:=hide h;have H':=hide h';clear h h';go_enter Tryz.func159,Tryz.ntmps159
 go_wp2_with fail
 refine (iK s a n cap m x _ ((aa H).kept (ai (ah _ _) (ah _ _)))).mono ?_;rintro e w1 ⟨rfl,hb1⟩;have hS:=(Fs.two w _ _ _ _).kept hb1;obtain ⟨⟨ya,yb,yc,-⟩,⟨yd,ye,yf,-⟩,-⟩:=hS.cells;go_wp2_with fail
 refine (iK s' a' n' cap' m' x' _ ((aa H').kept hS.fr)).mono ?_;rintro e w2 ⟨rfl,hb2⟩;replace hS:=hS.kept hb2;clear ya yb yc yd ye yf;obtain ⟨⟨yg,yh,yi,-⟩,⟨yj,yk,yl,-⟩,-⟩:=hS.cells;go_wp2
 go_ret
 exact ⟨rfl,hS.fr⟩
end Go.Proofs.YtaidedkpfnidpaaGreatDoor
