/- Of what NearRoundsRow stands on: RFrac ExOf NrRun TnRun SNat SFirst SRdA NrRdy TnWhole RyChk. -/
import Derived.Test.YtaidedkpfnidpaaGreatDoorPaz
namespace Go.Proofs.YtaidedkpfnidpaaGreatDoor
open Go.RowKit
set_option maxHeartbeats 2000000
set_option maxRecDepth 20000
theorem oK(a:Option Addr)(n cap:Nat)(w:World) :
  Calls Tryz.prog 32 #[.agg #[.slice a n cap]] w fun en w'=>en = .returned (.bool (decide (n=0)))∧Below w.heap.size w w':=by
 go_enter Tryz.func32,Tryz.ntmps32
 go_wp2
 go_ret
 refine ⟨dP ?_,ah _ _⟩;by_cases h:n=0<;>simp [h]<;>omega
theorem qC(a:Option Addr)(n cap m:Nat)(w:World)(h:Num w a n m) :
  Calls Tryz.prog 42 #[.agg #[.slice a n cap]] w fun en w'=>en = .returned (.bool (decide (m=1)))∧Below w.heap.size w w':=by
 have hS:=((Rs.begin w).num h).alloc #[.slice a n cap] 27;by_cases h2:n≤2
 ·go_enter Tryz.func42,Tryz.ntmps42
  go_wp2_with fail
  refine (lw a n cap m _ (hS.nm (a,n,m) (by simp)) h2).mono ?_;rintro en w1 ⟨rfl,hb1⟩;go_wp2
  go_ret
  refine ⟨dP ?_,(hS.kept hb1).fr⟩;by_cases h:m=1<;>simp [h]<;>omega
 ·go_enter Tryz.func42,Tryz.ntmps42
  go_wp2_with fail
  refine (DC a n cap m _ (hS.nm (a,n,m) (by simp)) (by omega)).mono ?_;rintro en w1 ⟨rfl,hb1⟩;go_wp2
  go_ret
  refine ⟨dP ?_,(hS.kept hb1).fr⟩;have:m≠1:=by
   rintro rfl;obtain ⟨xs,hn,_,hw,hN,hv,hb⟩:=h;have:=Pl.val_le_len hw hN 1;omega
  simp [this]
theorem vD(a:Option Addr)(cap:Nat)(w:World):Calls Tryz.prog 32 #[.agg #[.slice a 0 cap]] w fun en w'=>en = .returned (.bool true)∧Below w.heap.size w w':=oK a 0 cap w
theorem fH(a:Option Addr)(n cap:Nat)(w:World)(hn:0<n):Calls Tryz.prog 32 #[.agg #[.slice a n cap]] w fun en w'=>en = .returned (.bool false)∧Below w.heap.size w w':=by
 have:=oK a n cap w;rw [decide_eq_false (by omega)] at this;exact this
theorem vX(a:Option Addr)(n cap m:Nat)(w:World)(h:Num w a n m)(hm:m=1):Calls Tryz.prog 42 #[.agg #[.slice a n cap]] w fun en w'=>en = .returned (.bool true)∧Below w.heap.size w w':=by
 have:=qC a n cap m w h;rw [decide_eq_true hm] at this;exact this
theorem yL(a:Option Addr)(n cap m:Nat)(w:World)(h:Num w a n m)(hm:m≠1):Calls Tryz.prog 42 #[.agg #[.slice a n cap]] w fun en w'=>en = .returned (.bool false)∧Below w.heap.size w w':=by
 have:=qC a n cap m w h;rw [decide_eq_false hm] at this;exact this
theorem Dt(a:Option Addr)(n cap:Nat)(xs:List Nat)(a':Option Addr)(n' cap':Nat)(ys:List Nat)(w:World)(hn:xs.length=n)(hn':ys.length=n')(hbx:n≤9223372036854775807)(hby:n'≤9223372036854775807)(hl:bE w a xs)(hl':bE w a' ys)(hc:fU xs ys≠0) :
  Calls Tryz.prog 41 #[.agg #[.slice a n cap],.agg #[.slice a' n' cap']] w fun e w'=>e = .returned (.tuple #[.agg #[.slice none 0 0],.int .i64 (fU xs ys)])∧Below w.heap.size w w':=by
 have HK:=hide (fun (o1 o2 o3:Obj)=>bq a a' cap cap' xs ys (((w.alloc o1).alloc o2).alloc o3) (by omega) (by omega) (((hl.alloc _).alloc _).alloc _) (((hl'.alloc _).alloc _).alloc _));rw [hn,hn'] at HK;have hne:(fU xs ys != 0)=true:=by simp [hc]
 clear hn hn' hl hl' hc hbx hby
 go_enter Tryz.func41,Tryz.ntmps41
 go_wp2_with fail
 refine (aa HK _ _ _).mono ?_;rintro e w1 ⟨rfl,hb1⟩;have hS:=(Fs.three w _ _ _ _ _ _).kept hb1;obtain ⟨⟨ya,-⟩,⟨yb,-⟩,⟨yc,-⟩,-⟩:=hS.cells;have fz0:=hS.frozen (b:=w.heap.size+2) (cs:=#[.slice none 0 0]) (t:=27) (by simp) 0;go_wp2
 exact bodyPost_ret (v:=.tuple #[.agg #[.slice none 0 0],.int .i64 (fU xs ys)]) (by simp [results,Tryz.results41,go_sem,yc]) rfl ⟨rfl,hS.fr.setCell (by simp<;>omega) _⟩
theorem Hg(s:Bool)(a:Option Addr)(n cap:Nat)(a':Option Addr)(cap':Nat)(w:World)  :
  Calls Tryz.prog 12 #[.agg #[.bool s,.slice a n cap,.slice a' 0 cap']] w fun e w'=>e = .returned (.int .i64 20)∧Below w.heap.size w w':=by
 go_enter Tryz.func12,Tryz.ntmps12
 go_wp2_with fail
 refine (vD a' cap' _).mono ?_;rintro e w1 ⟨rfl,hb1⟩;have hS:=(Fs.one w _ _).kept hb1;obtain ⟨⟨ya,yb,yc,-⟩,-⟩:=hS.cells;go_wp2
 go_ret
 exact ⟨rfl,hS.fr⟩
theorem GK(a:Option Addr)(cap:Nat)(a':Option Addr)(n' cap':Nat)(hn':0<n')(w:World)  :
  Calls Tryz.prog 12 #[.agg #[.bool true,.slice a 0 cap,.slice a' n' cap']] w fun e w'=>e = .returned (.int .i64 20)∧Below w.heap.size w w':=by
 go_enter Tryz.func12,Tryz.ntmps12
 go_wp2_with fail
 refine (fH a' n' cap' _ hn').mono ?_;rintro e w1 ⟨rfl,hb1⟩;have hS:=(Fs.one w _ _).kept hb1;obtain ⟨⟨ya,yb,yc,-⟩,-⟩:=hS.cells;go_wp2_with fail
 refine (vD a cap _).mono ?_;rintro e w2 ⟨rfl,hb2⟩;replace hS:=hS.kept hb2;clear ya yb yc;obtain ⟨⟨yd,ye,yf,-⟩,-⟩:=hS.cells;go_wp2
 go_ret
 exact ⟨rfl,hS.fr⟩
theorem CE(a:Option Addr)(n cap:Nat)(a':Option Addr)(n' cap':Nat)(c:Int)(w:World)(hn':0<n')(hc:(c != 0)=true)(HG:Hid (∀W:World,Below w.heap.size w W→Calls Tryz.prog 41 #[.agg #[.slice a n cap],.agg #[.slice a' n' cap']] W fun e w'=>e = .returned (.tuple #[.agg #[.slice none 0 0],.int .i64 c])∧Below W.heap.size W w')) :
  Calls Tryz.prog 12 #[.agg #[.bool false,.slice a n cap,.slice a' n' cap']] w fun e w'=>e = .returned (.int .i64 20)∧Below w.heap.size w w':=by
 go_enter Tryz.func12,Tryz.ntmps12
 go_wp2_with fail
 refine (fH a' n' cap' _ hn').mono ?_;rintro e w1 ⟨rfl,hb1⟩;have hS:=(Fs.one w _ _).kept hb1;obtain ⟨⟨ya,yb,yc,-⟩,-⟩:=hS.cells;go_wp2_with fail
 refine (aa HG _ hS.fr).mono ?_;rintro e w2 ⟨rfl,hb2⟩;replace hS:=hS.kept hb2;clear ya yb yc;obtain ⟨⟨yd,ye,yf,-⟩,-⟩:=hS.cells;go_wp2
 go_ret
 exact ⟨rfl,hS.fr.alloc hS.fr.size _⟩
theorem Bq(a:Option Addr)(n cap m:Nat)(a':Option Addr)(n' cap' m':Nat)(w:World)(hn':0<n')(h:Num w a n m)(h':Num w a' n' m')(hg:Nat.gcd m m'≠1) :
  Calls Tryz.prog 12 #[.agg #[.bool false,.slice a n cap,.slice a' n' cap']] w fun e w'=>e = .returned (.int .i64 20)∧Below w.heap.size w w':=by
 have H:=hide h;have H':=hide h';have HG:=hide hg;clear h h' hg;go_enter Tryz.func12,Tryz.ntmps12
 go_wp2_with fail
 refine (fH a' n' cap' _ hn').mono ?_;rintro e w1 ⟨rfl,hb1⟩;have hS:=(Fs.one w _ _).kept hb1;obtain ⟨⟨ya,yb,yc,-⟩,-⟩:=hS.cells;go_wp2_with fail
 refine (kC a a' n n' cap cap' m m' _ ((aa H).kept hS.fr) ((aa H').kept hS.fr)).mono ?_;rintro e w2 ⟨⟨A1,N1,C1,rfl,f1⟩,hb2⟩;replace hS:=hS.kept hb2;clear ya yb yc;obtain ⟨⟨yd,ye,yf,-⟩,-⟩:=hS.cells;have G1:=hide f1.num;clear f1;have hltw2_0:w.heap.size<w2.heap.size:=hS.lt 0 rfl;replace hS:=hS.alloc #[.slice A1 N1 C1] 27;replace G1:=hide ((aa G1).alloc (.cells #[.slice A1 N1 C1] 27));go_wp2_with fail
 refine (yL A1 N1 C1 _ _ (aa G1) (aa HG)).mono ?_;rintro e w3 ⟨rfl,hb3⟩;replace hS:=hS.kept hb3;clear yd ye yf;obtain ⟨⟨yg,-⟩,⟨yh,yi,yj,-⟩,-⟩:=hS.cells;go_wp2
 go_ret
 exact ⟨rfl,hS.fr⟩
theorem kD(a:Option Addr)(n cap m:Nat)(a':Option Addr)(n' cap' m':Nat)(w:World)(hn':0<n')(h:Num w a n m)(h':Num w a' n' m')(hg:Nat.gcd m m'=1) :
  Calls Tryz.prog 12 #[.agg #[.bool false,.slice a n cap,.slice a' n' cap']] w fun e w'=>e = .returned (.int .i64 0)∧Below w.heap.size w w':=by
 have H:=hide h;have H':=hide h';have HG:=hide hg;clear h h' hg;go_enter Tryz.func12,Tryz.ntmps12
 go_wp2_with fail
 refine (fH a' n' cap' _ hn').mono ?_;rintro e w1 ⟨rfl,hb1⟩;have hS:=(Fs.one w _ _).kept hb1;obtain ⟨⟨ya,yb,yc,-⟩,-⟩:=hS.cells;go_wp2_with fail
 refine (kC a a' n n' cap cap' m m' _ ((aa H).kept hS.fr) ((aa H').kept hS.fr)).mono ?_;rintro e w2 ⟨⟨A1,N1,C1,rfl,f1⟩,hb2⟩;replace hS:=hS.kept hb2;clear ya yb yc;obtain ⟨⟨yd,ye,yf,-⟩,-⟩:=hS.cells;have G1:=hide f1.num;clear f1;have hltw2_0:w.heap.size<w2.heap.size:=hS.lt 0 rfl;replace hS:=hS.alloc #[.slice A1 N1 C1] 27;replace G1:=hide ((aa G1).alloc (.cells #[.slice A1 N1 C1] 27));go_wp2_with fail
 refine (vX A1 N1 C1 _ _ (aa G1) (aa HG)).mono ?_;rintro e w3 ⟨rfl,hb3⟩;replace hS:=hS.kept hb3;clear yd ye yf;obtain ⟨⟨yg,-⟩,⟨yh,yi,yj,-⟩,-⟩:=hS.cells;go_wp2
 go_ret
 exact ⟨rfl,hS.fr⟩
theorem Ar(a:Option Addr)(n cap:Nat)(a':Option Addr)(n' cap':Nat)(c:Int)(w:World)(hn':0<n')(hn:0<n)(hc:(c != 0)=true)(HG:Hid (∀W:World,Below w.heap.size w W→Calls Tryz.prog 41 #[.agg #[.slice a n cap],.agg #[.slice a' n' cap']] W fun e w'=>e = .returned (.tuple #[.agg #[.slice none 0 0],.int .i64 c])∧Below W.heap.size W w')) :
  Calls Tryz.prog 12 #[.agg #[.bool true,.slice a n cap,.slice a' n' cap']] w fun e w'=>e = .returned (.int .i64 20)∧Below w.heap.size w w':=by
 go_enter Tryz.func12,Tryz.ntmps12
 go_wp2_with fail
 refine (fH a' n' cap' _ hn').mono ?_;rintro e w1 ⟨rfl,hb1⟩;have hS:=(Fs.one w _ _).kept hb1;obtain ⟨⟨ya,yb,yc,-⟩,-⟩:=hS.cells;go_wp2_with fail
 refine (fH a n cap _ hn).mono ?_;rintro e w2 ⟨rfl,hb2⟩;replace hS:=hS.kept hb2;clear ya yb yc;obtain ⟨⟨yd,ye,yf,-⟩,-⟩:=hS.cells;go_wp2_with fail
 refine (aa HG _ hS.fr).mono ?_;rintro e w3 ⟨rfl,hb3⟩;replace hS:=hS.kept hb3;clear yd ye yf;obtain ⟨⟨yg,yh,yi,-⟩,-⟩:=hS.cells;go_wp2
 go_ret
 exact ⟨rfl,hS.fr.alloc hS.fr.size _⟩
theorem CV(a:Option Addr)(n cap m:Nat)(a':Option Addr)(n' cap' m':Nat)(w:World)(hn':0<n')(hn:0<n)(h:Num w a n m)(h':Num w a' n' m')(hg:Nat.gcd m m'≠1) :
  Calls Tryz.prog 12 #[.agg #[.bool true,.slice a n cap,.slice a' n' cap']] w fun e w'=>e = .returned (.int .i64 20)∧Below w.heap.size w w':=by
 have H:=hide h;have H':=hide h';have HG:=hide hg;clear h h' hg;go_enter Tryz.func12,Tryz.ntmps12
 go_wp2_with fail
 refine (fH a' n' cap' _ hn').mono ?_;rintro e w1 ⟨rfl,hb1⟩;have hS:=(Fs.one w _ _).kept hb1;obtain ⟨⟨ya,yb,yc,-⟩,-⟩:=hS.cells;go_wp2_with fail
 refine (fH a n cap _ hn).mono ?_;rintro e w2 ⟨rfl,hb2⟩;replace hS:=hS.kept hb2;clear ya yb yc;obtain ⟨⟨yd,ye,yf,-⟩,-⟩:=hS.cells;go_wp2_with fail
 refine (kC a a' n n' cap cap' m m' _ ((aa H).kept hS.fr) ((aa H').kept hS.fr)).mono ?_;rintro e w3 ⟨⟨A1,N1,C1,rfl,f1⟩,hb3⟩;replace hS:=hS.kept hb3;clear yd ye yf;obtain ⟨⟨yg,yh,yi,-⟩,-⟩:=hS.cells;have G1:=hide f1.num;clear f1;have hltw3_0:w.heap.size<w3.heap.size:=hS.lt 0 rfl;replace hS:=hS.alloc #[.slice A1 N1 C1] 27;replace G1:=hide ((aa G1).alloc (.cells #[.slice A1 N1 C1] 27));go_wp2_with fail
 refine (yL A1 N1 C1 _ _ (aa G1) (aa HG)).mono ?_;rintro e w4 ⟨rfl,hb4⟩;replace hS:=hS.kept hb4;clear yg yh yi;obtain ⟨⟨yj,-⟩,⟨yk,yl,ym,-⟩,-⟩:=hS.cells;go_wp2
 go_ret
 exact ⟨rfl,hS.fr⟩
theorem kK(a:Option Addr)(n cap m:Nat)(a':Option Addr)(n' cap' m':Nat)(w:World)(hn':0<n')(hn:0<n)(h:Num w a n m)(h':Num w a' n' m')(hg:Nat.gcd m m'=1) :
  Calls Tryz.prog 12 #[.agg #[.bool true,.slice a n cap,.slice a' n' cap']] w fun e w'=>e = .returned (.int .i64 0)∧Below w.heap.size w w':=by
 have H:=hide h;have H':=hide h';have HG:=hide hg;clear h h' hg;go_enter Tryz.func12,Tryz.ntmps12
 go_wp2_with fail
 refine (fH a' n' cap' _ hn').mono ?_;rintro e w1 ⟨rfl,hb1⟩;have hS:=(Fs.one w _ _).kept hb1;obtain ⟨⟨ya,yb,yc,-⟩,-⟩:=hS.cells;go_wp2_with fail
 refine (fH a n cap _ hn).mono ?_;rintro e w2 ⟨rfl,hb2⟩;replace hS:=hS.kept hb2;clear ya yb yc;obtain ⟨⟨yd,ye,yf,-⟩,-⟩:=hS.cells;go_wp2_with fail
 refine (kC a a' n n' cap cap' m m' _ ((aa H).kept hS.fr) ((aa H').kept hS.fr)).mono ?_;rintro e w3 ⟨⟨A1,N1,C1,rfl,f1⟩,hb3⟩;replace hS:=hS.kept hb3;clear yd ye yf;obtain ⟨⟨yg,yh,yi,-⟩,-⟩:=hS.cells;have G1:=hide f1.num;clear f1;have hltw3_0:w.heap.size<w3.heap.size:=hS.lt 0 rfl;replace hS:=hS.alloc #[.slice A1 N1 C1] 27;replace G1:=hide ((aa G1).alloc (.cells #[.slice A1 N1 C1] 27));go_wp2_with fail
 refine (vX A1 N1 C1 _ _ (aa G1) (aa HG)).mono ?_;rintro e w4 ⟨rfl,hb4⟩;replace hS:=hS.kept hb4;clear yg yh yi;obtain ⟨⟨yj,-⟩,⟨yk,yl,ym,-⟩,-⟩:=hS.cells;go_wp2
 go_ret
 exact ⟨rfl,hS.fr⟩
def Rn(w:World)(p k:Nat):Prop:=∃cs t,w.heap[p]? = some (.cells cs t (0,0))∧cs[k]? = some (.int .i64 0)
theorem Rn.kept{w w':World}{p k:Nat}(h:Rn w p k)(hb:Below w.heap.size w w'):Rn w' p k:=by
 obtain ⟨cs,t,h1,h2⟩:=h;exact ⟨cs,t,by rw [hb.block _ (block_lt h1)];exact h1,h2⟩
theorem Rn.cell{w:World}{p k:Nat}(h:Rn w p k):w.cell? ⟨p,k,none⟩=some (.int .i64 0)∧w.frozen? ⟨p,k,none⟩=false:=by
 obtain ⟨cs,t,h1,h2⟩:=h;exact ⟨by rw [cell_of_row w p k _ _ _ h1];exact h2,frozen_of_row w p k _ _ h1⟩
theorem Rn.still{w:World}{p k:Nat}(h:Rn w p k):w.setCell ⟨p,k,none⟩ (.int .i64 0)=w:=by
 obtain ⟨cs,t,h1,h2⟩:=h;exact iU h1 h2
theorem lS(p k:Nat)(w:World)(h:Rn w p k) :
  Calls Tryz.prog 61 #[.pointer (some ⟨p,k,none⟩),.int .i64 0] w fun en w'=>en = .returned (.tuple #[])∧Below w.heap.size w w':=by
 obtain ⟨h1,h2⟩:=h.cell;have h3:=h.still;go_enter Tryz.func61,Tryz.ntmps61
 go_wp2
 go_end0
 exact ⟨rfl,Below.refl _ _⟩
theorem pV(w:World):Calls Tryz.prog 54 #[] w fun e w'=>(∃A N C,e = .returned (.agg #[.slice A N C])∧Mine w' w.heap.size A N C 1)∧Below w.heap.size w w':=by
 go_enter Tryz.func54,Tryz.ntmps54
 go_wp2
 have hh:=heap_alloc_new (w.alloc (.cells #[.slice (some ⟨w.heap.size+1,0,none⟩) 1 1] 27)) (.cells #[.int .u32 1] 42);rw [World.size_alloc] at hh;have hc:((w.alloc (.cells #[.slice (some ⟨w.heap.size+1,0,none⟩) 1 1] 27)).alloc (.cells #[.int .u32 1] 42)).cell? ⟨w.heap.size,0,none⟩=some (.slice (some ⟨w.heap.size+1,0,none⟩) 1 1):=
  ((Fs.two w #[.slice (some ⟨w.heap.size+1,0,none⟩) 1 1] 27 #[.int .u32 1] 42).cellAt (b:=w.heap.size) (cs:=#[.slice (some ⟨w.heap.size+1,0,none⟩) 1 1]) (t:=27) (by simp) 0 _ rfl)
 exact bodyPost_ret (v:=.agg #[.slice (some ⟨w.heap.size+1,0,none⟩) 1 1]) (by simp [results,Tryz.results54,go_sem,hc]) rfl ⟨⟨_,_,_,rfl,[1],rfl,Or.inr ⟨w.heap.size+1,1,#[.int .u32 1],rfl,by omega,hh,by decide,by decide,by decide,fun j hj=>by
  have:j=0:=by simp at hj;omega
  subst this;rfl⟩,by intro x hx;simp at hx;omega,by simp [Pl.Norm],by decide,by decide⟩,(Fs.two w _ _ _ _).fr⟩
theorem eT(p k:Nat)(a:Option Addr)(n cap:Nat)(w:World)(h:Rn w p k) :
  Calls Tryz.prog 117 #[.pointer (some ⟨p,k,none⟩),.agg #[.slice a n cap],.int .i64 0] w fun e w'=>e = .returned (.agg #[.slice a n cap])∧Below w.heap.size w w':=by
 have H:=hide h;clear h;go_enter Tryz.func117,Tryz.ntmps117
 go_wp2_with fail
 refine (lS p k _ ((aa H).kept (Fs.two w _ _ _ _).fr)).mono ?_;rintro e w1 ⟨rfl,hb1⟩;have hS:=(Fs.two w _ _ _ _).kept hb1;obtain ⟨⟨ya,-⟩,⟨yb,-⟩,-⟩:=hS.cells;have fz0:=hS.frozen (b:=w.heap.size+1) (cs:=#[.slice none 0 0]) (t:=27) (by simp) 0;go_wp2
 exact bodyPost_ret (v:=.agg #[.slice a n cap]) (by simp [results,Tryz.results117,go_sem,yb]) rfl ⟨rfl,(hS.fr.setCell (by simp<;>omega) _)⟩
theorem fZ(p k:Nat)(c:Int)(w:World)(h:Rn w p k) :
  Calls Tryz.prog 120 #[.pointer (some ⟨p,k,none⟩),.int .i64 c,.int .i64 0] w fun e w'=>e = .returned (.int .i64 c)∧Below w.heap.size w w':=by
 have H:=hide h;clear h;go_enter Tryz.func120,Tryz.ntmps120
 go_wp2_with fail
 refine (lS p k _ (aa H)).mono ?_;rintro e w1 ⟨rfl,hb1⟩;have hS:=(Fs.begin w).kept hb1;go_wp2
 go_ret
 exact ⟨rfl,hS.fr⟩
theorem lJ(p k:Nat)(a:Option Addr)(n cap:Nat)(a':Option Addr)(n' cap':Nat)(w:World)(h:Rn w p k) :
  Calls Tryz.prog 153 #[.pointer (some ⟨p,k,none⟩),.agg #[.slice a n cap],.agg #[.slice a' n' cap'],.int .i64 0] w fun e w'=>e = .returned (.tuple #[.agg #[.slice a n cap],.agg #[.slice a' n' cap']])∧Below w.heap.size w w':=by
 have H:=hide h;clear h;go_enter Tryz.func153,Tryz.ntmps153
 go_wp2_with fail
 have hS:=(Fs.three w #[.slice a n cap] 27 #[.slice a' n' cap'] 27 #[.slice none 0 0] 27).alloc #[.slice none 0 0] 27;simp only [World.size_alloc] at hS;refine (lS p k _ ((aa H).kept hS.fr)).mono ?_;rintro e w1 ⟨rfl,hb1⟩;replace hS:=hS.kept hb1;obtain ⟨⟨ya,-⟩,⟨yb,-⟩,⟨yc,-⟩,⟨yd,-⟩,-⟩:=hS.cells;have fy0:=hS.frozen (b:=w.heap.size+2) (cs:=#[.slice none 0 0]) (t:=27) (by simp) 0;have fz0:=hS.frozen (b:=w.heap.size+3) (cs:=#[.slice none 0 0]) (t:=27) (by simp) 0;go_wp2
 go_region
 go_wp2
 exact bodyPost_ret (v:=.tuple #[.agg #[.slice a n cap],.agg #[.slice a' n' cap']]) (by simp [results,Tryz.results153,go_sem,ya,yd]) rfl ⟨rfl,((hS.fr.setCell (show w.heap.size≤w.heap.size+1+1 by omega) _).setCell (show w.heap.size≤w.heap.size+1+1+1 by omega) _).drew⟩
theorem xL(s:Bool)(a:Option Addr)(n cap:Nat)(a':Option Addr)(n' cap':Nat)(md:Nat)(hm:md≤4)(w:World)(HC:Hid (∀W:World,Below w.heap.size w W→Calls Tryz.prog 12 #[.agg #[.bool s,.slice a n cap,.slice a' n' cap']] W fun e w'=>e = .returned (.int .i64 0)∧Below W.heap.size W w')) :
  Calls Tryz.prog 110 #[.agg #[.bool s,.slice a n cap,.slice a' n' cap'],.int .u8 (md:Int)] w fun e w'=>e = .returned (.int .i64 0)∧Below w.heap.size w w':=by
 go_enter Tryz.func110,Tryz.ntmps110
 go_wp2_with fail
 refine (aa HC _ (Fs.one w _ _).fr).mono ?_;rintro e w1 ⟨rfl,hb1⟩;have hS:=(Fs.one w _ _).kept hb1;obtain ⟨⟨ya,yb,yc,-⟩,-⟩:=hS.cells;go_wp2_with fail
 refine (iy md hm _).mono ?_;rintro e w2 ⟨rfl,hb2⟩;replace hS:=hS.kept hb2;clear ya yb yc;obtain ⟨⟨yd,ye,yf,-⟩,-⟩:=hS.cells;clear hm;go_wp2
 go_ret
 exact ⟨rfl,hS.fr⟩
def eF(m i:Nat):Prop:=∀(W:World)(A:Option Addr)(N C:Nat),Num W A N m→Calls Tryz.prog 136 #[.agg #[.slice A N C]] W fun e W'=>e = .returned (.tuple #[.int .i64 (i:Int),.int .i64 0])∧Below W.heap.size W W'
def iV(m:Nat)(s:Int)(v:Nat):Prop:=∀(W:World)(A:Option Addr)(N C:Nat),Num W A N m→Calls Tryz.prog 63 #[.agg #[.slice A N C],.int .i64 s] W fun en W'=>(∃a n c,en = .returned (.tuple #[.agg #[.slice a n c],.int .i64 0])∧Mine W' W.heap.size a n c v)∧Below W.heap.size W W'
def o7(f:FuncId)(x y v:Nat):Prop:=∀(W:World)(a:Option Addr)(n c:Nat)(a':Option Addr)(n' c':Nat),Num W a n x→Num W a' n' y→Calls Tryz.prog f #[.agg #[.slice a n c],.agg #[.slice a' n' c']] W fun en W'=>(∃a n c,en = .returned (.tuple #[.agg #[.slice a n c],.int .i64 0])∧Mine W' W.heap.size a n c v)∧Below W.heap.size W W'
def HDiv(x y q r:Nat):Prop:=∀(W:World)(a:Option Addr)(n c:Nat)(a':Option Addr)(n' c':Nat),Num W a n x→Num W a' n' y→Calls Tryz.prog 154 #[.agg #[.slice a n c],.agg #[.slice a' n' c']] W fun en W'=>(∃a n c a' n' c',en = .returned (.tuple #[.agg #[.slice a n c],.agg #[.slice a' n' c'],.int .i64 0])∧Mine W' W.heap.size a n c q∧Mine W' W.heap.size a' n' c' r)∧Below W.heap.size W W'
theorem ig(a:Option Addr)(n cap:Nat)(w:World)(b:Bool)(h:decide (n=0)=b):Calls Tryz.prog 135 #[.agg #[.slice a n cap]] w fun e w'=>e = .returned (.bool b)∧Below w.heap.size w w':=by
 subst h;rcases Nat.eq_zero_or_pos n with h|h
 ·subst h;exact mR a cap w
 ·rw [decide_eq_false (by omega)];exact gJ a n cap h w
theorem Num.isz{w:World}{a:Option Addr}{n m:Nat}(h:Num w a n m)(hm:m=0):decide (n=0)=true:=by rw [decide_eq_true_iff];exact h.zero.2 hm
theorem Num.noz{w:World}{a:Option Addr}{n m:Nat}(h:Num w a n m)(hm:m≠0):decide (n=0)=false:=by rw [decide_eq_false_iff_not];exact fun e=>hm (h.zero.1 e)
def cS(B m:Nat)(g:Bool):Cf:=.pl (fun q=>.tuple #[.agg #[.slice q.A q.N q.C],.bool g]) (fun q W=>Mine W B q.A q.N q.C m) (fun _=>bL _ _ _ _ _)
theorem JF{P:Program}{fn:FuncId}{args:Array Value}{W:World}{B m:Nat}{g:Bool}(hb:B≤W.heap.size)(h:Calls P fn args W fun en W'=>(∃a n c,en = .returned (.tuple #[.agg #[.slice a n c],.bool g])∧Mine W' W.heap.size a n c m)∧Below W.heap.size W W'):Calls P fn args W fun en W'=>∃q,en = .returned ((cS B m g).f q)∧Below W.heap.size W W'∧(cS B m g).g q W':=
 h.mono fun _ _ ⟨⟨a,n,c,h1,h3⟩,h2⟩=>⟨{ iH with A:=a,N:=n,C:=c },h1,h2,h3.mono hb⟩
theorem za(w:World)(p:Nat)(a1 a2 a3 a4:Option Addr)(n1 n2 n3 n4 c1 c2 c3 c4 m1 m2 m3 m4 i1 i2 i3 i4 i5 lift more t1 t2 t3 t4 t5 t6 t7 t8 t9 t10 t11:Nat)(z th:Int)(go:Bool)(ans:Nat)(hk:Rn w p 0)(h1:Num w a1 n1 m1)(h2:Num w a2 n2 m2)(h3:Num w a3 n3 m3)(h4:Num w a4 n4 m4)(hb1:i1≤524288)(hb2:i2≤524288)(hb3:i3≤524288)(hb4:i4≤524288)(hb5:i5≤1048576)(hl:max 0 ((i3:Int)-(i1:Int))=(lift:Int))(hth:(i5:Int)+(i2:Int)-1-(i3:Int)=th)(hm:max 0 (64+(i4:Int)-th)=(more:Int))(hlb:lift≤524288)(hmb:more≤1048576)(hz1:-2147483648≤z)(hz2:z≤2147483648)(hgo:Hid ((go=true∧ans=t11)∨(go=false∧t9≠0∧ans=t11)∨(go=false∧t9=0∧ans=t10)))(HB1:Hid (eF m1 i1))(HB2:Hid (eF m2 i2))(HB3:Hid (eF m3 i3))(HB4:Hid (eF m4 i4))(HB5:Hid (eF t1 i5))(HU1:Hid (iV m1 lift t1))(HU2:Hid (iV m2 more t2))(HV1:Hid (HDiv t1 m3 t3 t4))(HS:Hid (∀(W:World) (a:Option Addr) (n c:Nat) (b:Option Addr) (k l:Nat) (d:Option Addr) (m e:Nat),Rn W p 0→Num W a n t4→Num W b k t2→Num W d m m3→Calls Tryz.prog 167 #[.pointer (some ⟨p,0,none⟩),.agg #[.slice a n c],.agg #[.slice b k l],.agg #[.slice d m e]] W fun en W'=>(∃A N C,en = .returned (.tuple #[.agg #[.slice A N C],.bool go])∧Mine W' W.heap.size A N C t5)∧Below W.heap.size W W'))(HM:Hid (o7 118 t3 t2 t6))(HA1:Hid (o7 148 t6 t5 t7))(HV2:Hid (HDiv t7 m4 t8 t9))(HU3:Hid (iV t8 1 t10))(HA2:Hid (o7 148 t10 1 t11)) :
  Calls Tryz.prog 145 #[.agg #[.slice a1 n1 c1,.slice a2 n2 c2,.slice a3 n3 c3,.slice a4 n4 c4,.int .i64 z],.pointer (some ⟨p,0,none⟩)] w fun en w'=>(∃A N C,en = .returned (.tuple #[.agg #[.slice A N C],.int .i64 (z-(lift:Int)-(more:Int)-1)])∧Mine w' w.heap.size A N C ans)∧Below w.heap.size w w':=by
 obtain ⟨cs9,t9_,hp,hp0⟩:=hk;refine ax Tryz.func145 rfl (by kernel_rfl) fun T hK=>?_;replace hK:Kn T _ [(0,.agg #[.slice a1 n1 c1,.slice a2 n2 c2,.slice a3 n3 c3,.slice a4 n4 c4,.int .i64 z]),(1,pT p 0)]:=hK;have hS:=Fb.other hp;have hG:au [gN a1 n1 m1,gN a2 n2 m2,gN a3 n3 m3,gN a4 n4 m4] w:=⟨h1,h2,h3,h4,trivial⟩;clear h1 h2 h3 h4;refine wq hS hG hK (fun p1=>[.n 2 #[.slice a1 n1 c1,.slice a2 n2 c2,.slice a3 n3 c3,.slice a4 n4 c4,vJ z] 192,.n 4 #[nJ] 27,.v 5 (vJ 0)]) (fun p1=>[(1,pT p 0),(2,pT (p1 0).N 0),(4,pT (p1 1).N 0),(5,vJ 0)]) (fun p1=>?_) (fun p1 W1 T hF hK=>?_)
 ·iterate 2 refine aI ?_
  refine af ?_;exact ae
 replace hS:=ag.fc hS hF [0,1000,1001] [⟨p,cs9,t9_,false⟩,⟨(p1 0).N,#[.slice a1 n1 c1,.slice a2 n2 c2,.slice a3 n3 c3,.slice a4 n4 c4,vJ z],192,true⟩,⟨(p1 1).N,#[nJ],27,true⟩];replace hG:=hF.gx;clear hF;refine wq hS hG hK (fun p2=>[.v 17 (pT p 0),.v 18 (pT p 0),.v 19 (pT p 0),.v 20 (pT (p1 0).N 2),.l 21 (.agg #[.slice a3 n3 c3]) 1 2,.c (some 22) (cV (.tuple #[vJ (i3:Int),vJ 0])),.v 23 (vJ (i3:Int)),.v 24 (vJ 0),.u 25 (vJ (i3:Int)) (aG 1),.v 6 (vJ (i3:Int))]) (fun p2=>[(1,pT p 0),(2,pT (p1 0).N 0),(4,pT (p1 1).N 0),(5,vJ 0),(6,vJ (i3:Int))]) (fun p2=>?_) (fun p2 W2 T hF hK=>?_)
 ·iterate 4 refine af ?_
  refine aj ?_;refine av (fun W cx=>aD (aa HB3 _ _ _ c3 (cx.G.2.2.1))) ?_;iterate 2 refine af ?_
  refine cZ (fun W cx=>fZ p 0 _ _ ⟨_,_,cx.B 0 _ rfl (by kernel_rfl) (by kernel_rfl),hp0⟩) ?_;refine af ?_;exact ae
 obtain ⟨hS,hG⟩:=ag.fg hS hF;clear hF;refine wq hS hG hK (fun p3=>[.v 26 (vJ (i3:Int)),.v 27 (pT p 0),.v 28 (pT p 0),.v 29 (pT p 0),.v 30 (pT (p1 0).N 0),.l 31 (.agg #[.slice a1 n1 c1]) 1 0,.c (some 32) (cV (.tuple #[vJ (i1:Int),vJ 0])),.v 33 (vJ (i1:Int)),.v 34 (vJ 0),.u 35 (vJ (i1:Int)) (aG 1),.v 36 (vJ ((i3:Int)-(i1:Int))),.v 37 (vJ (lift:Int)),.v 7 (vJ (lift:Int))]) (fun p3=>[(1,pT p 0),(2,pT (p1 0).N 0),(4,pT (p1 1).N 0),(5,vJ 0),(6,vJ (i3:Int)),(7,vJ (lift:Int))]) (fun p3=>?_) (fun p3 W3 T hF hK=>?_)
 ·iterate 5 refine af ?_
  refine aj ?_;refine av (fun W cx=>aD (aa HB1 _ _ _ c1 (cx.G.1))) ?_;iterate 2 refine af ?_
  refine cZ (fun W cx=>fZ p 0 _ _ ⟨_,_,cx.B 0 _ rfl (by kernel_rfl) (by kernel_rfl),hp0⟩) ?_;refine bB (dQ (x:=(i3:Int)-(i1:Int)) (by omega) (by omega)) ?_;refine bB ((xn _ _).trans hl) ?_;refine af ?_;exact ae
 obtain ⟨hS,hG⟩:=ag.fg hS hF;clear hF;refine wq hS hG hK (fun p4=>[.v 38 (pT p 0),.v 39 (pT p 0),.v 40 (pT p 0),.v 41 (pT (p1 0).N 0),.l 42 (.agg #[.slice a1 n1 c1]) 1 0,.v 43 (vJ (lift:Int)),.c (some 44) (cO W3.heap.size t1),.v 45 (.agg #[sJ (p4 6)]),.v 46 (vJ 0),.u 47 (.agg #[sJ (p4 6)]) (aG 1),.n 8 #[nJ] 27,.p 1010 0 [sJ (p4 6)]]) (fun p4=>[(1,pT p 0),(2,pT (p1 0).N 0),(4,pT (p1 1).N 0),(5,vJ 0),(6,vJ (i3:Int)),(7,vJ (lift:Int)),(8,pT (p4 10).N 0)]) (fun p4=>?_) (fun p4 W4 T hF hK=>?_)
 ·iterate 4 refine af ?_
  refine aj ?_;refine af ?_;refine av (fun W cx=>fT cx.hb (aa HU1 _ _ _ c1 (cx.G.1))) ?_;iterate 2 refine af ?_
  refine cZ (fun W cx=>eT p 0 _ _ _ _ ⟨_,_,cx.B 0 _ rfl (by kernel_rfl) (by kernel_rfl),hp0⟩) ?_;refine aI ?_;refine aF ?_;exact ae
 replace hS:=ag.fc hS hF [0,1,2,1010] [⟨p,cs9,t9_,false⟩,⟨(p1 0).N,#[.slice a1 n1 c1,.slice a2 n2 c2,.slice a3 n3 c3,.slice a4 n4 c4,vJ z],192,true⟩,⟨(p1 1).N,#[nJ],27,true⟩,⟨(p4 10).N,#[sJ (p4 6)],27,true⟩];replace hG:au (gM W3.heap.size (p4 6).A (p4 6).N (p4 6).C t1::_) W4:=⟨hF.fx 6,hF.gx⟩;clear hF;refine wq hS hG hK (fun p5=>[.v 48 (pT p 0),.v 49 (pT p 0),.v 50 (pT p 0),.l 51 (.agg #[sJ (p4 6)]) 3 0,.c (some 52) (cV (.tuple #[vJ (i5:Int),vJ 0])),.v 53 (vJ (i5:Int)),.v 54 (vJ 0),.u 55 (vJ (i5:Int)) (aG 1),.v 56 (pT p 0),.v 57 (pT p 0),.v 58 (pT p 0),.v 59 (pT (p1 0).N 1),.l 60 (.agg #[.slice a2 n2 c2]) 1 1,.c (some 61) (cV (.tuple #[vJ (i2:Int),vJ 0])),.v 62 (vJ (i2:Int)),.v 63 (vJ 0),.u 64 (vJ (i2:Int)) (aG 1),.v 65 (vJ ((i5:Int)+(i2:Int))),.v 66 (vJ ((i5:Int)+(i2:Int)-1)),.v 67 (vJ (i3:Int)),.v 68 (vJ th),.v 9 (vJ th)]) (fun p5=>[(1,pT p 0),(2,pT (p1 0).N 0),(4,pT (p1 1).N 0),(5,vJ 0),(7,vJ (lift:Int)),(8,pT (p4 10).N 0),(9,vJ th)]) (fun p5=>?_) (fun p5 W5 T hF hK=>?_)
 ·iterate 3 refine af ?_
  refine aj ?_;refine av (fun W cx=>aD (aa HB5 _ _ _ (p4 6).C (Mine.num cx.G.1))) ?_;iterate 2 refine af ?_
  refine cZ (fun W cx=>fZ p 0 _ _ ⟨_,_,cx.B 0 _ rfl (by kernel_rfl) (by kernel_rfl),hp0⟩) ?_;iterate 4 refine af ?_
  refine aj ?_;refine av (fun W cx=>aD (aa HB2 _ _ _ c2 (cx.G.2.2.1))) ?_;iterate 2 refine af ?_
  refine cZ (fun W cx=>fZ p 0 _ _ ⟨_,_,cx.B 0 _ rfl (by kernel_rfl) (by kernel_rfl),hp0⟩) ?_;refine bB (dQ (x:=(i5:Int)+(i2:Int)) (by omega) (by omega)) ?_;refine bB (dQ (x:=(i5:Int)+(i2:Int)-1) (by omega) (by omega)) ?_;refine af ?_;refine bB ((dQ (x:=(i5:Int)+(i2:Int)-1-(i3:Int)) (by omega) (by omega)).trans hth) ?_;refine af ?_;exact ae
 obtain ⟨hS,hG⟩:=ag.fg hS hF;clear hF;refine wq hS hG hK (fun p6=>[.v 69 (pT p 0),.v 70 (pT p 0),.v 71 (pT p 0),.v 72 (pT (p1 0).N 3),.l 73 (.agg #[.slice a4 n4 c4]) 1 3,.c (some 74) (cV (.tuple #[vJ (i4:Int),vJ 0])),.v 75 (vJ (i4:Int)),.v 76 (vJ 0),.u 77 (vJ (i4:Int)) (aG 1),.v 78 (vJ (64+(i4:Int))),.v 79 (vJ th),.v 80 (vJ (64+(i4:Int)-th)),.v 81 (vJ (more:Int)),.v 10 (vJ (more:Int))]) (fun p6=>[(1,pT p 0),(2,pT (p1 0).N 0),(4,pT (p1 1).N 0),(5,vJ 0),(7,vJ (lift:Int)),(8,pT (p4 10).N 0),(10,vJ (more:Int))]) (fun p6=>?_) (fun p6 W6 T hF hK=>?_)
 ·iterate 4 refine af ?_
  refine aj ?_;refine av (fun W cx=>aD (aa HB4 _ _ _ c4 (cx.G.2.2.2.2.1))) ?_;iterate 2 refine af ?_
  refine cZ (fun W cx=>fZ p 0 _ _ ⟨_,_,cx.B 0 _ rfl (by kernel_rfl) (by kernel_rfl),hp0⟩) ?_;refine bB (dQ (x:=64+(i4:Int)) (by omega) (by omega)) ?_;refine af ?_;refine bB (dQ (x:=64+(i4:Int)-th) (by omega) (by omega)) ?_;refine bB ((xn _ _).trans hm) ?_;refine af ?_;exact ae
 obtain ⟨hS,hG⟩:=ag.fg hS hF;clear hF;refine wq hS hG hK (fun p7=>[.v 82 (pT p 0),.v 83 (pT p 0),.v 84 (pT p 0),.v 85 (pT (p1 0).N 1),.l 86 (.agg #[.slice a2 n2 c2]) 1 1,.v 87 (vJ (more:Int)),.c (some 88) (cO W6.heap.size t2),.v 89 (.agg #[sJ (p7 6)]),.v 90 (vJ 0),.u 91 (.agg #[sJ (p7 6)]) (aG 1),.n 11 #[nJ] 27,.p 1010 0 [sJ (p7 6)]]) (fun p7=>[(1,pT p 0),(2,pT (p1 0).N 0),(4,pT (p1 1).N 0),(5,vJ 0),(7,vJ (lift:Int)),(8,pT (p4 10).N 0),(10,vJ (more:Int)),(11,pT (p7 10).N 0)]) (fun p7=>?_) (fun p7 W7 T hF hK=>?_)
 ·iterate 4 refine af ?_
  refine aj ?_;refine af ?_;refine av (fun W cx=>fT cx.hb (aa HU2 _ _ _ c2 (cx.G.2.2.1))) ?_;iterate 2 refine af ?_
  refine cZ (fun W cx=>eT p 0 _ _ _ _ ⟨_,_,cx.B 0 _ rfl (by kernel_rfl) (by kernel_rfl),hp0⟩) ?_;refine aI ?_;refine aF ?_;exact ae
 replace hS:=ag.fc hS hF [0,1,2,3,1010] [⟨p,cs9,t9_,false⟩,⟨(p1 0).N,#[.slice a1 n1 c1,.slice a2 n2 c2,.slice a3 n3 c3,.slice a4 n4 c4,vJ z],192,true⟩,⟨(p1 1).N,#[nJ],27,true⟩,⟨(p4 10).N,#[sJ (p4 6)],27,true⟩,⟨(p7 10).N,#[sJ (p7 6)],27,true⟩];replace hG:au (gM W6.heap.size (p7 6).A (p7 6).N (p7 6).C t2::_) W7:=⟨hF.fx 6,hF.gx⟩;clear hF;refine wq hS hG hK (fun p8=>[.v 93 (pT p 0),.v 94 (pT p 0),.v 95 (pT p 0),.l 96 (.agg #[sJ (p4 6)]) 3 0,.v 97 (pT (p1 0).N 2),.l 98 (.agg #[.slice a3 n3 c3]) 1 2,.c (some 99) (cD W7.heap.size t3 t4),.v 100 (.agg #[sJ (p8 6)]),.v 101 (.agg #[tJ (p8 6)]),.v 102 (vJ 0),.u 103 (.tuple #[.agg #[sJ (p8 6)],.agg #[tJ (p8 6)]]) (aH 1 2),.v 92 (.tuple #[.agg #[sJ (p8 6)],.agg #[tJ (p8 6)]]),.v 104 (.agg #[sJ (p8 6)]),.v 105 (.agg #[tJ (p8 6)]),.n 12 #[nJ] 27,.n 13 #[nJ] 27,.p 1014 0 [sJ (p8 6)],.p 1015 0 [tJ (p8 6)]]) (fun p8=>[(1,pT p 0),(2,pT (p1 0).N 0),(4,pT (p1 1).N 0),(5,vJ 0),(7,vJ (lift:Int)),(10,vJ (more:Int)),(11,pT (p7 10).N 0),(12,pT (p8 14).N 0),(13,pT (p8 15).N 0)]) (fun p8=>?_) (fun p8 W8 T hF hK=>?_)
 ·iterate 3 refine af ?_
  refine aj ?_;refine af ?_;refine aj ?_;refine av (fun W cx=>wK cx.hb (aa HV1 _ _ _ (p4 6).C _ _ c3 (Mine.num cx.G.2.1) (cx.G.2.2.2.2.1))) ?_;iterate 3 refine af ?_
  refine cZ (fun W cx=>lJ p 0 _ _ _ _ _ _ _ ⟨_,_,cx.B 0 _ rfl (by kernel_rfl) (by kernel_rfl),hp0⟩) ?_;iterate 3 refine af ?_
  iterate 2 refine aI ?_
  iterate 2 refine aF ?_
  exact ae
 replace hS:=ag.fc hS hF [0,1,2,4,1014,1015] [⟨p,cs9,t9_,false⟩,⟨(p1 0).N,#[.slice a1 n1 c1,.slice a2 n2 c2,.slice a3 n3 c3,.slice a4 n4 c4,vJ z],192,true⟩,⟨(p1 1).N,#[nJ],27,true⟩,⟨(p7 10).N,#[sJ (p7 6)],27,true⟩,⟨(p8 14).N,#[sJ (p8 6)],27,true⟩,⟨(p8 15).N,#[tJ (p8 6)],27,true⟩];replace hG:au (gM W7.heap.size (p8 6).A (p8 6).N (p8 6).C t3::gM W7.heap.size (p8 6).A' (p8 6).N' (p8 6).C' t4::_) W8:=⟨And.left (hF.fx 6),And.right (hF.fx 6),hF.gx⟩;clear hF;refine wq hS hG hK (fun p9=>[.v 107 (pT p 0),.l 108 (.agg #[tJ (p8 6)]) 5 0,.l 109 (.agg #[sJ (p7 6)]) 3 0,.v 110 (pT (p1 0).N 2),.l 111 (.agg #[.slice a3 n3 c3]) 1 2,.c (some 112) (cS W8.heap.size t5 go),.v 106 (.tuple #[.agg #[sJ (p9 5)],.bool go]),.v 113 (.agg #[sJ (p9 5)]),.v 114 (.bool go),.n 14 #[nJ] 27,.p 1009 0 [sJ (p9 5)],.v 15 (.bool go)]) (fun p9=>[(1,pT p 0),(2,pT (p1 0).N 0),(4,pT (p1 1).N 0),(5,vJ 0),(7,vJ (lift:Int)),(10,vJ (more:Int)),(11,pT (p7 10).N 0),(12,pT (p8 14).N 0),(13,pT (p8 15).N 0),(14,pT (p9 9).N 0),(15,.bool go)]) (fun p9=>?_) (fun p9 W9 T hF hK=>?_)
 ·refine af ?_;iterate 2 refine aj ?_
  refine af ?_;refine aj ?_;refine av (fun W cx=>JF cx.hb (aa HS _ _ _ (p8 6).C' _ _ (p7 6).C _ _ c3 ⟨_,_,cx.B 0 _ rfl (by kernel_rfl) (by kernel_rfl),hp0⟩ (Mine.num cx.G.2.1) (Mine.num cx.G.2.2.1) (cx.G.2.2.2.2.2.2.1))) ?_;iterate 3 refine af ?_
  refine aI ?_;refine aF ?_;refine af ?_;exact ae
 replace hS:=ag.fc hS hF [0,1,2,3,4,5,1009] [⟨p,cs9,t9_,false⟩,⟨(p1 0).N,#[.slice a1 n1 c1,.slice a2 n2 c2,.slice a3 n3 c3,.slice a4 n4 c4,vJ z],192,true⟩,⟨(p1 1).N,#[nJ],27,true⟩,⟨(p7 10).N,#[sJ (p7 6)],27,true⟩,⟨(p8 14).N,#[sJ (p8 6)],27,true⟩,⟨(p8 15).N,#[tJ (p8 6)],27,true⟩,⟨(p9 9).N,#[sJ (p9 5)],27,true⟩];replace hG:au (gM W8.heap.size (p9 5).A (p9 5).N (p9 5).C t5::_) W9:=⟨hF.fx 5,hF.gx⟩;clear hF;refine wq hS hG hK (fun p10=>[.v 115 (pT p 0),.v 116 (pT p 0),.v 117 (pT p 0),.v 118 (pT p 0),.v 119 (pT p 0),.v 120 (pT p 0),.l 121 (.agg #[sJ (p8 6)]) 4 0,.l 122 (.agg #[sJ (p7 6)]) 3 0,.c (some 123) (cO W9.heap.size t6),.v 124 (.agg #[sJ (p10 8)]),.v 125 (vJ 0),.u 126 (.agg #[sJ (p10 8)]) (aG 1),.l 127 (.agg #[sJ (p9 5)]) 6 0,.c (some 128) (cO W9.heap.size t7),.v 129 (.agg #[sJ (p10 13)]),.v 130 (vJ 0),.u 131 (.agg #[sJ (p10 13)]) (aG 1),.n 16 #[nJ] 27,.p 1017 0 [sJ (p10 13)]]) (fun p10=>[(1,pT p 0),(2,pT (p1 0).N 0),(4,pT (p1 1).N 0),(5,vJ 0),(7,vJ (lift:Int)),(10,vJ (more:Int)),(13,pT (p8 15).N 0),(15,.bool go),(16,pT (p10 17).N 0)]) (fun p10=>?_) (fun p10 W10 T hF hK=>?_)
 ·iterate 6 refine af ?_
  iterate 2 refine aj ?_
  refine av (fun W cx=>fT cx.hb (aa HM _ _ _ (p8 6).C _ _ (p7 6).C (Mine.num cx.G.2.1) (Mine.num cx.G.2.2.2.1))) ?_;iterate 2 refine af ?_
  refine cZ (fun W cx=>eT p 0 _ _ _ _ ⟨_,_,cx.B 0 _ rfl (by kernel_rfl) (by kernel_rfl),hp0⟩) ?_;refine aj ?_;refine av (fun W cx=>fT cx.hb (aa HA1 _ _ _ (p10 8).C _ _ (p9 5).C (Mine.num (cx.F 8 (by kernel_rfl))) (Mine.num cx.G.1))) ?_;iterate 2 refine af ?_
  refine cZ (fun W cx=>eT p 0 _ _ _ _ ⟨_,_,cx.B 0 _ rfl (by kernel_rfl) (by kernel_rfl),hp0⟩) ?_;refine aI ?_;refine aF ?_;exact ae
 replace hS:=ag.fc hS hF [0,1,2,5,1017] [⟨p,cs9,t9_,false⟩,⟨(p1 0).N,#[.slice a1 n1 c1,.slice a2 n2 c2,.slice a3 n3 c3,.slice a4 n4 c4,vJ z],192,true⟩,⟨(p1 1).N,#[nJ],27,true⟩,⟨(p8 15).N,#[tJ (p8 6)],27,true⟩,⟨(p10 17).N,#[sJ (p10 13)],27,true⟩];replace hG:au (gM W9.heap.size (p10 8).A (p10 8).N (p10 8).C t6::gM W9.heap.size (p10 13).A (p10 13).N (p10 13).C t7::_) W10:=⟨hF.fx 8,hF.fx 13,hF.gx⟩;clear hF;refine wq hS hG hK (fun p11=>[.v 133 (pT p 0),.v 134 (pT p 0),.v 135 (pT p 0),.l 136 (.agg #[sJ (p10 13)]) 4 0,.v 137 (pT (p1 0).N 3),.l 138 (.agg #[.slice a4 n4 c4]) 1 3,.c (some 139) (cD W10.heap.size t8 t9),.v 140 (.agg #[sJ (p11 6)]),.v 141 (.agg #[tJ (p11 6)]),.v 142 (vJ 0),.u 143 (.tuple #[.agg #[sJ (p11 6)],.agg #[tJ (p11 6)]]) (aH 1 2),.v 132 (.tuple #[.agg #[sJ (p11 6)],.agg #[tJ (p11 6)]]),.v 144 (.agg #[sJ (p11 6)]),.v 145 (.agg #[tJ (p11 6)]),.p 2 0 [sJ (p11 6)],.p 3 0 [tJ (p11 6)]]) (fun p11=>[(1,pT p 0),(2,pT (p1 0).N 0),(4,pT (p1 1).N 0),(5,vJ 0),(7,vJ (lift:Int)),(10,vJ (more:Int)),(13,pT (p8 15).N 0),(15,.bool go)]) (fun p11=>?_) (fun p11 W11 T hF hK=>?_)
 ·iterate 3 refine af ?_
  refine aj ?_;refine af ?_;refine aj ?_;refine av (fun W cx=>wK cx.hb (aa HV2 _ _ _ (p10 13).C _ _ c4 (Mine.num cx.G.2.1) (cx.G.2.2.2.2.2.2.2.2.2.2.1))) ?_;iterate 3 refine af ?_
  refine cZ (fun W cx=>lJ p 0 _ _ _ _ _ _ _ ⟨_,_,cx.B 0 _ rfl (by kernel_rfl) (by kernel_rfl),hp0⟩) ?_;iterate 3 refine af ?_
  iterate 2 refine aF ?_
  exact ae
 replace hS:=ag.fc hS hF [0,1,2,3] [⟨p,cs9,t9_,false⟩,⟨(p1 0).N,#[.slice a1 n1 c1,.slice a2 n2 c2,.slice a3 n3 c3,.slice a4 n4 c4,vJ z],192,true⟩,⟨(p1 1).N,#[sJ (p11 6)],27,true⟩,⟨(p8 15).N,#[tJ (p11 6)],27,true⟩];replace hG:au (gM W10.heap.size (p11 6).A (p11 6).N (p11 6).C t8::gM W10.heap.size (p11 6).A' (p11 6).N' (p11 6).C' t9::_) W11:=⟨And.left (hF.fx 6),And.right (hF.fx 6),hF.gx⟩;clear hF;have z11:=hS.fr.size;refine wq hS hG hK (fun p12=>[.v 146 (pT p 0),.v 147 (pT p 0),.v 148 (pT p 0),.l 149 (.agg #[sJ (p11 6)]) 2 0,.c (some 150) (cO W11.heap.size t10),.v 151 (.agg #[sJ (p12 4)]),.v 152 (vJ 0),.u 153 (.agg #[sJ (p12 4)]) (aG 1),.p 2 0 [sJ (p12 4)]]) (fun p12=>[(1,pT p 0),(2,pT (p1 0).N 0),(4,pT (p1 1).N 0),(5,vJ 0),(7,vJ (lift:Int)),(10,vJ (more:Int)),(13,pT (p8 15).N 0),(15,.bool go)]) (fun p12=>?_) (fun p12 W12 T hF hK=>?_)
 ·iterate 3 refine af ?_
  refine aj ?_;refine av (fun W cx=>fT cx.hb (aa HU3 _ _ _ (p11 6).C (Mine.num cx.G.1))) ?_;iterate 2 refine af ?_
  refine cZ (fun W cx=>eT p 0 _ _ _ _ ⟨_,_,cx.B 0 _ rfl (by kernel_rfl) (by kernel_rfl),hp0⟩) ?_;refine aF ?_;exact ae
 replace hS:=ag.fc hS hF [0,1,2,3] [⟨p,cs9,t9_,false⟩,⟨(p1 0).N,#[.slice a1 n1 c1,.slice a2 n2 c2,.slice a3 n3 c3,.slice a4 n4 c4,vJ z],192,true⟩,⟨(p1 1).N,#[sJ (p12 4)],27,true⟩,⟨(p8 15).N,#[tJ (p11 6)],27,true⟩];replace hG:au (gM W11.heap.size (p12 4).A (p12 4).N (p12 4).C t10::_) W12:=⟨hF.fx 4,hF.gx⟩;clear hF;rcases aa hgo with ⟨hg,hv⟩|⟨hg,hr,hv⟩|⟨hg,hr,hv⟩<;>subst hg
 ·refine wp_seq ?_;refine wq hS hG hK (fun p13=>[.v 154 (.bool true),.v 155 (.bool true),.k (some 156),.k (some 157),.k (some 158),.v 159 (.bool true)]) (fun p13=>[(1,pT p 0),(2,pT (p1 0).N 0),(4,pT (p1 1).N 0),(5,vJ 0),(7,vJ (lift:Int)),(10,vJ (more:Int)),(159,.bool true)]) (fun p13=>?_) (fun p13 W13 T hF hK=>?_)
  ·iterate 2 refine af ?_
   iterate 3 refine eZ ?_
   refine af ?_;exact ae
  replace hS:=ag.fc hS hF [0,1,2] [⟨p,cs9,t9_,false⟩,⟨(p1 0).N,#[.slice a1 n1 c1,.slice a2 n2 c2,.slice a3 n3 c3,.slice a4 n4 c4,vJ z],192,true⟩,⟨(p1 1).N,#[sJ (p12 4)],27,true⟩];replace hG:=hF.gx;clear hF;have z13:=hS.fr.size;refine wp_cond_true (hK.ew 159) ?_;refine wg hS hG hK (fun p14=>[.v 160 (pT p 0),.v 161 (pT p 0),.v 162 (pT p 0),.l 163 (.agg #[sJ (p12 4)]) 2 0,.c (some 164) (cN W13.heap.size 1),.c (some 165) (cO W13.heap.size t11),.v 166 (.agg #[sJ (p14 5)]),.v 167 (vJ 0),.u 168 (.agg #[sJ (p14 5)]) (aG 1),.p 2 0 [sJ (p14 5)]]) (fun p14=>[(2,pT (p1 0).N 0),(4,pT (p1 1).N 0),(5,vJ 0),(7,vJ (lift:Int)),(10,vJ (more:Int)),(159,.bool true)]) (fun p14=>?_) (fun p14 W14 T hF hK=>?_)
  ·iterate 3 refine af ?_
   refine aj ?_;refine av (fun W cx=>aT cx.hb (dD 1 _ (by decide))) ?_;refine av (fun W cx=>fT cx.hb (aa HA2 _ _ _ (p12 4).C _ _ (p14 4).C (Mine.num cx.G.1) (Mine.num (cx.F 4 (by kernel_rfl))))) ?_;iterate 2 refine af ?_
   refine cZ (fun W cx=>eT p 0 _ _ _ _ ⟨_,_,cx.B 0 _ rfl (by kernel_rfl) (by kernel_rfl),hp0⟩) ?_;refine aF ?_;exact ae
  replace hS:=ag.fc hS hF [0,1,2] [⟨p,cs9,t9_,false⟩,⟨(p1 0).N,#[.slice a1 n1 c1,.slice a2 n2 c2,.slice a3 n3 c3,.slice a4 n4 c4,vJ z],192,true⟩,⟨(p1 1).N,#[sJ (p14 5)],27,true⟩];replace hG:au (gM W13.heap.size (p14 4).A (p14 4).N (p14 4).C 1::gM W13.heap.size (p14 5).A (p14 5).N (p14 5).C t11::_) W14:=⟨hF.fx 4,hF.fx 5,hF.gx⟩;clear hF;have z14:=hS.fr.size;refine aB ?_;refine wq hS hG hK (fun p15=>[.l 169 (.agg #[sJ (p14 5)]) 2 0,.v 170 (pT (p1 0).N 4),.l 171 (vJ z) 1 4,.v 172 (vJ (lift:Int)),.v 173 (vJ (z-(lift:Int))),.v 174 (vJ (more:Int)),.v 175 (vJ (z-(lift:Int)-(more:Int))),.v 176 (vJ (z-(lift:Int)-(more:Int)-1)),.p 2 0 [sJ (p14 5)],.v 5 (vJ (z-(lift:Int)-(more:Int)-1))]) (fun p15=>[(4,pT (p1 1).N 0),(5,vJ (z-(lift:Int)-(more:Int)-1)),(159,.bool true)]) (fun p15=>?_) (fun p15 W15 T hF hK=>?_)
  ·refine aj ?_;refine af ?_;refine aj ?_;refine af ?_;refine bB (dQ (x:=z-(lift:Int)) (by omega) (by omega)) ?_;refine af ?_;refine bB (dQ (x:=z-(lift:Int)-(more:Int)) (by omega) (by omega)) ?_;refine bB (dQ (x:=z-(lift:Int)-(more:Int)-1) (by omega) (by omega)) ?_;refine aF ?_;refine af ?_;exact ae
  replace hS:=ag.fc hS hF [0,2] [⟨p,cs9,t9_,false⟩,⟨(p1 1).N,#[sJ (p14 5)],27,true⟩];replace hG:=hF.gx;clear hF;have z15:=hS.fr.size;refine wp_ret ?_;exact aA hS hK (.tuple #[.agg #[.slice (p14 5).A (p14 5).N (p14 5).C],.int .i64 (z-(lift:Int)-(more:Int)-1)]) [(1,0,1)] [.slice (p14 5).A (p14 5).N (p14 5).C] (by kernel_rfl) (by kernel_rfl) ⟨⟨_,_,_,rfl,by rw [hv];exact Mine.mono hG.2.1 z13⟩,hS.fr⟩
 ·refine wp_seq ?_;refine wq hS hG hK (fun p13=>[.v 154 (.bool false),.v 155 (.bool false),.l 156 (.agg #[tJ (p11 6)]) 3 0,.c (some 157) (cV (.bool false)),.v 158 (.bool true),.v 159 (.bool true)]) (fun p13=>[(1,pT p 0),(2,pT (p1 0).N 0),(4,pT (p1 1).N 0),(5,vJ 0),(7,vJ (lift:Int)),(10,vJ (more:Int)),(159,.bool true)]) (fun p13=>?_) (fun p13 W13 T hF hK=>?_)
  ·iterate 2 refine af ?_
   refine aj ?_;refine av (fun W cx=>aD (ig (p11 6).A' _ (p11 6).C' _ _ (Num.noz (Mine.num cx.G.2.2.1) hr))) ?_;iterate 2 refine af ?_
   exact ae
  replace hS:=ag.fc hS hF [0,1,2] [⟨p,cs9,t9_,false⟩,⟨(p1 0).N,#[.slice a1 n1 c1,.slice a2 n2 c2,.slice a3 n3 c3,.slice a4 n4 c4,vJ z],192,true⟩,⟨(p1 1).N,#[sJ (p12 4)],27,true⟩];replace hG:=hF.gx;clear hF;have z13:=hS.fr.size;refine wp_cond_true (hK.ew 159) ?_;refine wg hS hG hK (fun p14=>[.v 160 (pT p 0),.v 161 (pT p 0),.v 162 (pT p 0),.l 163 (.agg #[sJ (p12 4)]) 2 0,.c (some 164) (cN W13.heap.size 1),.c (some 165) (cO W13.heap.size t11),.v 166 (.agg #[sJ (p14 5)]),.v 167 (vJ 0),.u 168 (.agg #[sJ (p14 5)]) (aG 1),.p 2 0 [sJ (p14 5)]]) (fun p14=>[(2,pT (p1 0).N 0),(4,pT (p1 1).N 0),(5,vJ 0),(7,vJ (lift:Int)),(10,vJ (more:Int)),(159,.bool true)]) (fun p14=>?_) (fun p14 W14 T hF hK=>?_)
  ·iterate 3 refine af ?_
   refine aj ?_;refine av (fun W cx=>aT cx.hb (dD 1 _ (by decide))) ?_;refine av (fun W cx=>fT cx.hb (aa HA2 _ _ _ (p12 4).C _ _ (p14 4).C (Mine.num cx.G.1) (Mine.num (cx.F 4 (by kernel_rfl))))) ?_;iterate 2 refine af ?_
   refine cZ (fun W cx=>eT p 0 _ _ _ _ ⟨_,_,cx.B 0 _ rfl (by kernel_rfl) (by kernel_rfl),hp0⟩) ?_;refine aF ?_;exact ae
  replace hS:=ag.fc hS hF [0,1,2] [⟨p,cs9,t9_,false⟩,⟨(p1 0).N,#[.slice a1 n1 c1,.slice a2 n2 c2,.slice a3 n3 c3,.slice a4 n4 c4,vJ z],192,true⟩,⟨(p1 1).N,#[sJ (p14 5)],27,true⟩];replace hG:au (gM W13.heap.size (p14 4).A (p14 4).N (p14 4).C 1::gM W13.heap.size (p14 5).A (p14 5).N (p14 5).C t11::_) W14:=⟨hF.fx 4,hF.fx 5,hF.gx⟩;clear hF;have z14:=hS.fr.size;refine aB ?_;refine wq hS hG hK (fun p15=>[.l 169 (.agg #[sJ (p14 5)]) 2 0,.v 170 (pT (p1 0).N 4),.l 171 (vJ z) 1 4,.v 172 (vJ (lift:Int)),.v 173 (vJ (z-(lift:Int))),.v 174 (vJ (more:Int)),.v 175 (vJ (z-(lift:Int)-(more:Int))),.v 176 (vJ (z-(lift:Int)-(more:Int)-1)),.p 2 0 [sJ (p14 5)],.v 5 (vJ (z-(lift:Int)-(more:Int)-1))]) (fun p15=>[(4,pT (p1 1).N 0),(5,vJ (z-(lift:Int)-(more:Int)-1)),(159,.bool true)]) (fun p15=>?_) (fun p15 W15 T hF hK=>?_)
  ·refine aj ?_;refine af ?_;refine aj ?_;refine af ?_;refine bB (dQ (x:=z-(lift:Int)) (by omega) (by omega)) ?_;refine af ?_;refine bB (dQ (x:=z-(lift:Int)-(more:Int)) (by omega) (by omega)) ?_;refine bB (dQ (x:=z-(lift:Int)-(more:Int)-1) (by omega) (by omega)) ?_;refine aF ?_;refine af ?_;exact ae
  replace hS:=ag.fc hS hF [0,2] [⟨p,cs9,t9_,false⟩,⟨(p1 1).N,#[sJ (p14 5)],27,true⟩];replace hG:=hF.gx;clear hF;have z15:=hS.fr.size;refine wp_ret ?_;exact aA hS hK (.tuple #[.agg #[.slice (p14 5).A (p14 5).N (p14 5).C],.int .i64 (z-(lift:Int)-(more:Int)-1)]) [(1,0,1)] [.slice (p14 5).A (p14 5).N (p14 5).C] (by kernel_rfl) (by kernel_rfl) ⟨⟨_,_,_,rfl,by rw [hv];exact Mine.mono hG.2.1 z13⟩,hS.fr⟩
 ·refine wp_seq ?_;refine wq hS hG hK (fun p13=>[.v 154 (.bool false),.v 155 (.bool false),.l 156 (.agg #[tJ (p11 6)]) 3 0,.c (some 157) (cV (.bool true)),.v 158 (.bool false),.v 159 (.bool false)]) (fun p13=>[(1,pT p 0),(2,pT (p1 0).N 0),(4,pT (p1 1).N 0),(5,vJ 0),(7,vJ (lift:Int)),(10,vJ (more:Int)),(159,.bool false)]) (fun p13=>?_) (fun p13 W13 T hF hK=>?_)
  ·iterate 2 refine af ?_
   refine aj ?_;refine av (fun W cx=>aD (ig (p11 6).A' _ (p11 6).C' _ _ (Num.isz (Mine.num cx.G.2.2.1) hr))) ?_;iterate 2 refine af ?_
   exact ae
  replace hS:=ag.fc hS hF [0,1,2] [⟨p,cs9,t9_,false⟩,⟨(p1 0).N,#[.slice a1 n1 c1,.slice a2 n2 c2,.slice a3 n3 c3,.slice a4 n4 c4,vJ z],192,true⟩,⟨(p1 1).N,#[sJ (p12 4)],27,true⟩];replace hG:=hF.gx;clear hF;have z13:=hS.fr.size;refine wp_cond_false (hK.ew 159) (wp_skip (aB ?_));refine wq hS hG hK (fun p14=>[.l 169 (.agg #[sJ (p12 4)]) 2 0,.v 170 (pT (p1 0).N 4),.l 171 (vJ z) 1 4,.v 172 (vJ (lift:Int)),.v 173 (vJ (z-(lift:Int))),.v 174 (vJ (more:Int)),.v 175 (vJ (z-(lift:Int)-(more:Int))),.v 176 (vJ (z-(lift:Int)-(more:Int)-1)),.p 2 0 [sJ (p12 4)],.v 5 (vJ (z-(lift:Int)-(more:Int)-1))]) (fun p14=>[(1,pT p 0),(4,pT (p1 1).N 0),(5,vJ (z-(lift:Int)-(more:Int)-1)),(159,.bool false)]) (fun p14=>?_) (fun p14 W14 T hF hK=>?_)
  ·refine aj ?_;refine af ?_;refine aj ?_;refine af ?_;refine bB (dQ (x:=z-(lift:Int)) (by omega) (by omega)) ?_;refine af ?_;refine bB (dQ (x:=z-(lift:Int)-(more:Int)) (by omega) (by omega)) ?_;refine bB (dQ (x:=z-(lift:Int)-(more:Int)-1) (by omega) (by omega)) ?_;refine aF ?_;refine af ?_;exact ae
  replace hS:=ag.fc hS hF [0,2] [⟨p,cs9,t9_,false⟩,⟨(p1 1).N,#[sJ (p12 4)],27,true⟩];replace hG:=hF.gx;clear hF;have z14:=hS.fr.size;refine wp_ret ?_;exact aA hS hK (.tuple #[.agg #[.slice (p12 4).A (p12 4).N (p12 4).C],.int .i64 (z-(lift:Int)-(more:Int)-1)]) [(1,0,1)] [.slice (p12 4).A (p12 4).N (p12 4).C] (by kernel_rfl) (by kernel_rfl) ⟨⟨_,_,_,rfl,by rw [hv];exact Mine.mono hG.1 z11⟩,hS.fr⟩
def xE:Prop:=∀W:World,Calls Tryz.prog 75 #[.int .u32 5,.int .i64 0] W fun en W'=>(∃a n c,en = .returned (.tuple #[.agg #[.slice a n c],.int .i64 0])∧Mine W' W.heap.size a n c 1)∧Below W.heap.size W W'
theorem Num.dec{w:World}{a:Option Addr}{n m:Nat}(h:Num w a n m):decide (n=0)=decide (m=0):=decide_eq_decide.2 h.zero
theorem zW(w:World)(p:Nat)(a b d:Option Addr)(n c k l m e x y z v q r:Nat)(hk:Rn w p 0)(h1:Num w a n x)(h2:Num w b k y)(h3:Num w d m z)(HM:Hid (o7 118 x y v))(HV:Hid (HDiv v z q r)) :
  Calls Tryz.prog 167 #[.pointer (some ⟨p,0,none⟩),.agg #[.slice a n c],.agg #[.slice b k l],.agg #[.slice d m e]] w fun en w'=>(∃A N C,en = .returned (.tuple #[.agg #[.slice A N C],.bool (!decide (r=0))])∧Mine w' w.heap.size A N C q)∧Below w.heap.size w w':=by
 obtain ⟨cs9,t9_,hp,hp0⟩:=hk;refine ax Tryz.func167 rfl (by kernel_rfl) fun T hK=>?_;replace hK:Kn T _ [(0,pT p 0),(1,.agg #[.slice a n c]),(2,.agg #[.slice b k l]),(3,.agg #[.slice d m e])]:=hK;have hS:=Fb.other hp;have hG:au [gN a n x,gN b k y,gN d m z] w:=⟨h1,h2,h3,trivial⟩;refine wq hS hG hK (fun p1=>[.n 5 #[.slice a n c] 27,.n 6 #[.slice b k l] 27,.n 7 #[.slice d m e] 27,.n 8 #[nJ] 27,.v 9 (.bool false)]) (fun p1=>[(0,pT p 0),(5,pT (p1 0).N 0),(6,pT (p1 1).N 0),(7,pT (p1 2).N 0),(8,pT (p1 3).N 0),(9,.bool false)]) (fun p1=>?_) (fun p1 W1 T hF hK=>?_)
 ·iterate 4 refine aI ?_
  refine af ?_;exact ae
 replace hS:=ag.fc hS hF [0,1000,1001,1002,1003] [⟨p,cs9,t9_,false⟩,⟨(p1 0).N,#[.slice a n c],27,true⟩,⟨(p1 1).N,#[.slice b k l],27,true⟩,⟨(p1 2).N,#[.slice d m e],27,true⟩,⟨(p1 3).N,#[nJ],27,true⟩];replace hG:=hF.gx;clear hF;refine wq hS hG hK (fun p2=>[.l 15 (.agg #[.slice a n c]) 1 0,.l 16 (.agg #[.slice b k l]) 2 0,.c (some 17) (cO W1.heap.size v),.v 14 (.tuple #[.agg #[sJ (p2 2)],vJ 0]),.v 18 (.agg #[sJ (p2 2)]),.v 19 (vJ 0),.n 10 #[nJ] 27,.p 1006 0 [sJ (p2 2)],.v 11 (vJ 0)]) (fun p2=>[(0,pT p 0),(5,pT (p1 0).N 0),(6,pT (p1 1).N 0),(7,pT (p1 2).N 0),(8,pT (p1 3).N 0),(9,.bool false),(10,pT (p2 6).N 0),(11,vJ 0)]) (fun p2=>?_) (fun p2 W2 T hF hK=>?_)
 ·iterate 2 refine aj ?_
  refine av (fun W cx=>fT cx.hb (aa HM _ _ _ c _ _ l (cx.G.1) (cx.G.2.1))) ?_;iterate 3 refine af ?_
  refine aI ?_;refine aF ?_;refine af ?_;exact ae
 replace hS:=ag.fc hS hF [0,1,2,3,4,1006] [⟨p,cs9,t9_,false⟩,⟨(p1 0).N,#[.slice a n c],27,true⟩,⟨(p1 1).N,#[.slice b k l],27,true⟩,⟨(p1 2).N,#[.slice d m e],27,true⟩,⟨(p1 3).N,#[nJ],27,true⟩,⟨(p2 6).N,#[sJ (p2 2)],27,true⟩];replace hG:au (gM W1.heap.size (p2 2).A (p2 2).N (p2 2).C v::_) W2:=⟨hF.fx 2,hF.gx⟩;clear hF;refine wp_seq ?_;refine wq hS hG hK (fun p3=>[.v 20 (vJ 0),.v 21 (.bool false)]) (fun p3=>[(0,pT p 0),(5,pT (p1 0).N 0),(6,pT (p1 1).N 0),(7,pT (p1 2).N 0),(8,pT (p1 3).N 0),(9,.bool false),(10,pT (p2 6).N 0),(11,vJ 0),(21,.bool false)]) (fun p3=>?_) (fun p3 W3 T hF hK=>?_)
 ·iterate 2 refine af ?_
  exact ae
 obtain ⟨hS,hG⟩:=ag.fg hS hF;clear hF;refine wp_cond_false (hK.ew 21) (wp_skip (aB ?_));refine wq hS hG hK (fun p4=>[.v 29 (pT p 0),.v 30 (pT p 0),.v 31 (pT p 0),.v 32 (vJ 0),.c (some 33) (cV (.tuple #[]))]) (fun p4=>[(0,pT p 0),(5,pT (p1 0).N 0),(6,pT (p1 1).N 0),(7,pT (p1 2).N 0),(8,pT (p1 3).N 0),(9,.bool false),(10,pT (p2 6).N 0),(21,.bool false)]) (fun p4=>?_) (fun p4 W4 T hF hK=>?_)
 ·iterate 4 refine af ?_
  refine av (fun W cx=>aD (lS p 0 _ ⟨_,_,cx.B 0 _ rfl (by kernel_rfl) (by kernel_rfl),hp0⟩)) ?_;exact ae
 obtain ⟨hS,hG⟩:=ag.fg hS hF;clear hF;have z4:=hS.fr.size;refine wq hS hG hK (fun p5=>[.v 35 (pT p 0),.v 36 (pT p 0),.v 37 (pT p 0),.l 38 (.agg #[sJ (p2 2)]) 5 0,.l 39 (.agg #[.slice d m e]) 3 0,.c (some 40) (cD W4.heap.size q r),.v 41 (.agg #[sJ (p5 5)]),.v 42 (.agg #[tJ (p5 5)]),.v 43 (vJ 0),.u 44 (.tuple #[.agg #[sJ (p5 5)],.agg #[tJ (p5 5)]]) (aH 1 2),.v 34 (.tuple #[.agg #[sJ (p5 5)],.agg #[tJ (p5 5)]]),.v 45 (.agg #[sJ (p5 5)]),.v 46 (.agg #[tJ (p5 5)]),.n 12 #[nJ] 27,.n 13 #[nJ] 27,.p 1013 0 [sJ (p5 5)],.p 1014 0 [tJ (p5 5)]]) (fun p5=>[(0,pT p 0),(5,pT (p1 0).N 0),(6,pT (p1 1).N 0),(7,pT (p1 2).N 0),(8,pT (p1 3).N 0),(9,.bool false),(12,pT (p5 13).N 0),(13,pT (p5 14).N 0),(21,.bool false)]) (fun p5=>?_) (fun p5 W5 T hF hK=>?_)
 ·iterate 3 refine af ?_
  iterate 2 refine aj ?_
  refine av (fun W cx=>wK cx.hb (aa HV _ _ _ (p2 2).C _ _ e (Mine.num cx.G.1) (cx.G.2.2.2.1))) ?_;iterate 3 refine af ?_
  refine cZ (fun W cx=>lJ p 0 _ _ _ _ _ _ _ ⟨_,_,cx.B 0 _ rfl (by kernel_rfl) (by kernel_rfl),hp0⟩) ?_;iterate 3 refine af ?_
  iterate 2 refine aI ?_
  iterate 2 refine aF ?_
  exact ae
 replace hS:=ag.fc hS hF [0,1,2,3,4,1013,1014] [⟨p,cs9,t9_,false⟩,⟨(p1 0).N,#[.slice a n c],27,true⟩,⟨(p1 1).N,#[.slice b k l],27,true⟩,⟨(p1 2).N,#[.slice d m e],27,true⟩,⟨(p1 3).N,#[nJ],27,true⟩,⟨(p5 13).N,#[sJ (p5 5)],27,true⟩,⟨(p5 14).N,#[tJ (p5 5)],27,true⟩];replace hG:au (gM W4.heap.size (p5 5).A (p5 5).N (p5 5).C q::gM W4.heap.size (p5 5).A' (p5 5).N' (p5 5).C' r::_) W5:=⟨And.left (hF.fx 5),And.right (hF.fx 5),hF.gx⟩;clear hF;refine wq hS hG hK (fun p6=>[.l 47 (.agg #[sJ (p5 5)]) 5 0,.l 48 (.agg #[tJ (p5 5)]) 6 0,.c (some 49) (cV (.bool (decide (r=0)))),.v 50 (.bool (!(decide (r=0)))),.p 4 0 [sJ (p5 5)],.v 9 (.bool (!(decide (r=0))))]) (fun p6=>[(0,pT p 0),(5,pT (p1 0).N 0),(6,pT (p1 1).N 0),(7,pT (p1 2).N 0),(8,pT (p1 3).N 0),(9,.bool (!(decide (r=0)))),(21,.bool false)]) (fun p6=>?_) (fun p6 W6 T hF hK=>?_)
 ·iterate 2 refine aj ?_
  refine av (fun W cx=>aD (ig (p5 5).A' _ (p5 5).C' _ _ (Num.dec (Mine.num cx.G.2.1)))) ?_;refine af ?_;refine aF ?_;refine af ?_;exact ae
 replace hS:=ag.fc hS hF [0,1,2,3,4] [⟨p,cs9,t9_,false⟩,⟨(p1 0).N,#[.slice a n c],27,true⟩,⟨(p1 1).N,#[.slice b k l],27,true⟩,⟨(p1 2).N,#[.slice d m e],27,true⟩,⟨(p1 3).N,#[sJ (p5 5)],27,true⟩];replace hG:=hF.gx;clear hF;refine wp_ret ?_;exact aA hS hK (.tuple #[.agg #[.slice (p5 5).A (p5 5).N (p5 5).C],.bool (!decide (r=0))]) [(4,0,1)] [.slice (p5 5).A (p5 5).N (p5 5).C] (by kernel_rfl) (by kernel_rfl) ⟨⟨_,_,_,rfl,Mine.mono hG.1 z4⟩,hS.fr⟩
theorem nI(w:World)(p:Nat)(s:Bool)(a b:Option Addr)(n c k l x y i j:Nat)(sz:Int)(hk:Rn w p 0)(h1:Num w a n x)(h2:Num w b k y)(hi:i≤524288)(hj:j≤524288)(hz:(i:Int)-(j:Int)=sz)(HB1:Hid (eF x i))(HB2:Hid (eF y j)) :
  Calls Tryz.prog 143 #[.pointer (some ⟨p,0,none⟩),.agg #[.bool s,.slice a n c,.slice b k l],.int .i64 0] w fun en w'=>en = .returned (.int .i64 sz)∧Below w.heap.size w w':=by
 obtain ⟨cs9,t9_,hp,hp0⟩:=hk;refine ax Tryz.func143 rfl (by kernel_rfl) fun T hK=>?_;replace hK:Kn T _ [(0,pT p 0),(1,.agg #[.bool s,.slice a n c,.slice b k l]),(2,.int .i64 0)]:=hK;have hS:=Fb.other hp;have hG:au [gN a n x,gN b k y] w:=⟨h1,h2,trivial⟩;refine wq hS hG hK (fun p1=>[.n 4 #[.bool s,.slice a n c,.slice b k l] 29,.v 6 (vJ 0)]) (fun p1=>[(0,pT p 0),(2,vJ 0),(4,pT (p1 0).N 0),(6,vJ 0)]) (fun p1=>?_) (fun p1 W1 T hF hK=>?_)
 ·refine aI ?_;refine af ?_;exact ae
 replace hS:=ag.fc hS hF [0,1000] [⟨p,cs9,t9_,false⟩,⟨(p1 0).N,#[.bool s,.slice a n c,.slice b k l],29,true⟩];replace hG:=hF.gx;clear hF;refine wq hS hG hK (fun p2=>[.v 7 (vJ 0),.v 8 (vJ 0),.v 9 (vJ 0),.v 2 (vJ 0)]) (fun p2=>[(0,pT p 0),(2,vJ 0),(4,pT (p1 0).N 0),(6,vJ 0)]) (fun p2=>?_) (fun p2 W2 T hF hK=>?_)
 ·iterate 4 refine af ?_
  exact ae
 obtain ⟨hS,hG⟩:=ag.fg hS hF;clear hF;refine wq hS hG hK (fun p3=>[.v 10 (pT p 0),.v 11 (pT p 0),.v 12 (pT p 0),.v 13 (pT (p1 0).N 1),.l 14 (.agg #[.slice a n c]) 1 1,.c (some 15) (cV (.tuple #[vJ (i:Int),vJ 0])),.v 16 (vJ (i:Int)),.v 17 (vJ 0),.u 18 (vJ (i:Int)) (aG 1),.v 19 (pT p 0),.v 20 (pT p 0),.v 21 (pT p 0),.v 22 (pT (p1 0).N 2),.l 23 (.agg #[.slice b k l]) 1 2,.c (some 24) (cV (.tuple #[vJ (j:Int),vJ 0])),.v 25 (vJ (j:Int)),.v 26 (vJ 0),.u 27 (vJ (j:Int)) (aG 1),.v 28 (vJ sz),.v 29 (vJ 0),.v 30 (vJ 0),.v 31 (vJ 0),.v 32 (vJ sz),.v 6 (vJ sz)]) (fun p3=>[(6,vJ sz)]) (fun p3=>?_) (fun p3 W3 T hF hK=>?_)
 ·iterate 4 refine af ?_
  refine aj ?_;refine av (fun W cx=>aD (aa HB1 _ _ _ c (cx.G.1))) ?_;iterate 2 refine af ?_
  refine cZ (fun W cx=>fZ p 0 _ _ ⟨_,_,cx.B 0 _ rfl (by kernel_rfl) (by kernel_rfl),hp0⟩) ?_;iterate 4 refine af ?_
  refine aj ?_;refine av (fun W cx=>aD (aa HB2 _ _ _ l (cx.G.2.1))) ?_;iterate 2 refine af ?_
  refine cZ (fun W cx=>fZ p 0 _ _ ⟨_,_,cx.B 0 _ rfl (by kernel_rfl) (by kernel_rfl),hp0⟩) ?_;refine bB ((dQ (x:=(i:Int)-(j:Int)) (by omega) (by omega)).trans hz) ?_;iterate 3 refine af ?_
  refine bB ((dQ (x:=sz+0) (by omega) (by omega)).trans (Int.add_zero sz)) ?_;refine af ?_;exact ae
 replace hS:=ag.fc hS hF [0] [⟨p,cs9,t9_,false⟩];replace hG:=hF.gx;clear hF;refine wp_ret ?_;exact aA hS hK (.int .i64 sz) [] [] (by kernel_rfl) (by kernel_rfl) ⟨rfl,hS.fr⟩
theorem BP(w:World)(p:Nat)(s:Bool)(a b:Option Addr)(n c k l x y:Nat)(hk:Rn w p 0)(h1:Num w a n x)(h2:Num w b k y)(HP:Hid (xE)) :
  Calls Tryz.prog 144 #[.pointer (some ⟨p,0,none⟩),.agg #[.bool s,.slice a n c,.slice b k l],.int .i64 0] w fun en w'=>(∃A N C A' N' C',en = .returned (.agg #[.slice a n c,.slice A N C,.slice b k l,.slice A' N' C',.int .i64 0])∧Mine w' w.heap.size A N C 1∧Mine w' w.heap.size A' N' C' 1)∧Below w.heap.size w w':=by
 obtain ⟨cs9,t9_,hp,hp0⟩:=hk;refine ax Tryz.func144 rfl (by kernel_rfl) fun T hK=>?_;replace hK:Kn T _ [(0,pT p 0),(1,.agg #[.bool s,.slice a n c,.slice b k l]),(2,.int .i64 0)]:=hK;have hS:=Fb.other hp;have hG:au [gN a n x,gN b k y] w:=⟨h1,h2,trivial⟩;refine wq hS hG hK (fun p1=>[.n 4 #[.bool s,.slice a n c,.slice b k l] 29,.n 6 #[nJ,nJ,nJ,nJ,vJ 0] 192]) (fun p1=>[(0,pT p 0),(2,vJ 0),(4,pT (p1 0).N 0),(6,pT (p1 1).N 0)]) (fun p1=>?_) (fun p1 W1 T hF hK=>?_)
 ·iterate 2 refine aI ?_
  exact ae
 replace hS:=ag.fc hS hF [0,1000,1001] [⟨p,cs9,t9_,false⟩,⟨(p1 0).N,#[.bool s,.slice a n c,.slice b k l],29,true⟩,⟨(p1 1).N,#[nJ,nJ,nJ,nJ,vJ 0],192,true⟩];replace hG:=hF.gx;clear hF;have z1:=hS.fr.size;refine wq hS hG hK (fun p2=>[.c (some 10) (cN W1.heap.size 1),.n 7 #[nJ] 27,.p 1001 0 [sJ (p2 0)]]) (fun p2=>[(0,pT p 0),(2,vJ 0),(4,pT (p1 0).N 0),(6,pT (p1 1).N 0),(7,pT (p2 1).N 0)]) (fun p2=>?_) (fun p2 W2 T hF hK=>?_)
 ·refine av (fun W cx=>aT cx.hb (dD 1 _ (by decide))) ?_;refine aI ?_;refine aF ?_;exact ae
 replace hS:=ag.fc hS hF [0,1,2,1001] [⟨p,cs9,t9_,false⟩,⟨(p1 0).N,#[.bool s,.slice a n c,.slice b k l],29,true⟩,⟨(p1 1).N,#[nJ,nJ,nJ,nJ,vJ 0],192,true⟩,⟨(p2 1).N,#[sJ (p2 0)],27,true⟩];replace hG:au (gM W1.heap.size (p2 0).A (p2 0).N (p2 0).C 1::_) W2:=⟨hF.fx 0,hF.gx⟩;clear hF;refine wq hS hG hK (fun p3=>[.v 11 (pT (p1 0).N 1),.l 12 (.agg #[.slice a n c]) 1 1,.l 13 (.agg #[sJ (p2 0)]) 3 0,.v 14 (pT (p1 0).N 2),.l 15 (.agg #[.slice b k l]) 1 2,.l 16 (.agg #[sJ (p2 0)]) 3 0,.v 17 (vJ 0),.v 18 (.agg #[.slice a n c,sJ (p2 0),.slice b k l,sJ (p2 0),vJ 0]),.n 8 #[nJ,nJ,nJ,nJ,vJ 0] 192,.p 1008 0 [.slice a n c,sJ (p2 0),.slice b k l,sJ (p2 0),vJ 0]]) (fun p3=>[(0,pT p 0),(2,vJ 0),(4,pT (p1 0).N 0),(6,pT (p1 1).N 0),(8,pT (p3 8).N 0)]) (fun p3=>?_) (fun p3 W3 T hF hK=>?_)
 ·refine af ?_;iterate 2 refine aj ?_
  refine af ?_;iterate 2 refine aj ?_
  iterate 2 refine af ?_
  refine aI ?_;refine aF ?_;exact ae
 replace hS:=ag.fc hS hF [0,1,2,1008] [⟨p,cs9,t9_,false⟩,⟨(p1 0).N,#[.bool s,.slice a n c,.slice b k l],29,true⟩,⟨(p1 1).N,#[nJ,nJ,nJ,nJ,vJ 0],192,true⟩,⟨(p3 8).N,#[.slice a n c,sJ (p2 0),.slice b k l,sJ (p2 0),vJ 0],192,true⟩];replace hG:=hF.gx;clear hF;have z3:=hS.fr.size;refine wq hS hG hK (fun p4=>[.v 19 (pT p 0),.v 20 (pT p 0),.v 21 (pT p 0),.v 22 (vJ 0),.v 23 (vJ 0),.v 24 (vJ 0),.v 25 (vJ 0),.c (some 26) (cO W3.heap.size 1),.v 27 (.agg #[sJ (p4 7)]),.v 28 (vJ 0),.u 29 (.agg #[sJ (p4 7)]) (aG 1),.n 9 #[nJ] 27,.p 1011 0 [sJ (p4 7)]]) (fun p4=>[(0,pT p 0),(2,vJ 0),(4,pT (p1 0).N 0),(6,pT (p1 1).N 0),(8,pT (p3 8).N 0),(9,pT (p4 11).N 0)]) (fun p4=>?_) (fun p4 W4 T hF hK=>?_)
 ·iterate 7 refine af ?_
  refine av (fun W cx=>fT cx.hb (aa HP _)) ?_;iterate 2 refine af ?_
  refine cZ (fun W cx=>eT p 0 _ _ _ _ ⟨_,_,cx.B 0 _ rfl (by kernel_rfl) (by kernel_rfl),hp0⟩) ?_;refine aI ?_;refine aF ?_;exact ae
 replace hS:=ag.fc hS hF [0,1,2,3,1011] [⟨p,cs9,t9_,false⟩,⟨(p1 0).N,#[.bool s,.slice a n c,.slice b k l],29,true⟩,⟨(p1 1).N,#[nJ,nJ,nJ,nJ,vJ 0],192,true⟩,⟨(p3 8).N,#[.slice a n c,sJ (p2 0),.slice b k l,sJ (p2 0),vJ 0],192,true⟩,⟨(p4 11).N,#[sJ (p4 7)],27,true⟩];replace hG:au (gM W3.heap.size (p4 7).A (p4 7).N (p4 7).C 1::_) W4:=⟨hF.fx 7,hF.gx⟩;clear hF;refine wp_seq (wp_block ?_);refine wq hS hG hK (fun p5=>[.v 33 (vJ 0),.v 34 (.bool false),.v 32 (.bool false)]) (fun p5=>[(0,pT p 0),(2,vJ 0),(4,pT (p1 0).N 0),(6,pT (p1 1).N 0),(8,pT (p3 8).N 0),(9,pT (p4 11).N 0),(32,.bool false)]) (fun p5=>?_) (fun p5 W5 T hF hK=>?_)
 ·iterate 3 refine af ?_
  exact ae
 obtain ⟨hS,hG⟩:=ag.fg hS hF;clear hF;refine wp_cond_false (hK.ew 32) ?_;refine wq hS hG hK (fun p6=>[.v 38 (vJ 0),.v 39 (.bool false),.v 37 (.bool false)]) (fun p6=>[(0,pT p 0),(4,pT (p1 0).N 0),(6,pT (p1 1).N 0),(8,pT (p3 8).N 0),(9,pT (p4 11).N 0),(32,.bool false),(37,.bool false)]) (fun p6=>?_) (fun p6 W6 T hF hK=>?_)
 ·iterate 3 refine af ?_
  exact ae
 obtain ⟨hS,hG⟩:=ag.fg hS hF;clear hF;refine wp_cond_false (hK.ew 37) ?_;refine wg hS hG hK (fun p7=>[.l 30 (.agg #[sJ (p4 7)]) 4 0,.v 31 (pT (p3 8).N 1),.p 3 1 [sJ (p4 7)]]) (fun p7=>[(0,pT p 0),(4,pT (p1 0).N 0),(6,pT (p1 1).N 0),(8,pT (p3 8).N 0),(9,pT (p4 11).N 0),(32,.bool false),(37,.bool false)]) (fun p7=>?_) (fun p7 W7 T hF hK=>?_)
 ·refine aj ?_;refine af ?_;refine aF ?_;exact ae
 replace hS:=ag.fc hS hF [0,1,2,3,4] [⟨p,cs9,t9_,false⟩,⟨(p1 0).N,#[.bool s,.slice a n c,.slice b k l],29,true⟩,⟨(p1 1).N,#[nJ,nJ,nJ,nJ,vJ 0],192,true⟩,⟨(p3 8).N,#[.slice a n c,sJ (p4 7),.slice b k l,sJ (p2 0),vJ 0],192,true⟩,⟨(p4 11).N,#[sJ (p4 7)],27,true⟩];replace hG:=hF.gx;clear hF;refine mG (aB ?_);refine wq hS hG hK (fun p8=>[.l 51 (.agg #[.slice a n c,sJ (p4 7),.slice b k l,sJ (p2 0),vJ 0]) 3 0,.p 2 0 [.slice a n c,sJ (p4 7),.slice b k l,sJ (p2 0),vJ 0]]) (fun p8=>[(0,pT p 0),(4,pT (p1 0).N 0),(6,pT (p1 1).N 0),(8,pT (p3 8).N 0),(9,pT (p4 11).N 0),(32,.bool false),(37,.bool false)]) (fun p8=>?_) (fun p8 W8 T hF hK=>?_)
 ·refine aj ?_;refine aF ?_;exact ae
 replace hS:=ag.fc hS hF [0,1,2,3,4] [⟨p,cs9,t9_,false⟩,⟨(p1 0).N,#[.bool s,.slice a n c,.slice b k l],29,true⟩,⟨(p1 1).N,#[.slice a n c,sJ (p4 7),.slice b k l,sJ (p2 0),vJ 0],192,true⟩,⟨(p3 8).N,#[.slice a n c,sJ (p4 7),.slice b k l,sJ (p2 0),vJ 0],192,true⟩,⟨(p4 11).N,#[sJ (p4 7)],27,true⟩];replace hG:=hF.gx;clear hF;refine wp_ret ?_;exact aA hS hK (.agg #[.slice a n c,.slice (p4 7).A (p4 7).N (p4 7).C,.slice b k l,.slice (p2 0).A (p2 0).N (p2 0).C,.int .i64 0]) [(2,0,5)] [.slice a n c,.slice (p4 7).A (p4 7).N (p4 7).C,.slice b k l,.slice (p2 0).A (p2 0).N (p2 0).C,.int .i64 0] (by kernel_rfl) (by kernel_rfl) ⟨⟨_,_,_,_,_,_,rfl,Mine.mono hG.1 z3,Mine.mono hG.2.1 z1⟩,hS.fr⟩
theorem ou(E F mode:Nat)(h0:Fo E F)(hm:mode≤4)(s:Bool)(a:Option Addr)(n cap m:Nat)(x:Int)(ng:Bool)(gb fl:Int)(w:World)(B:Nat)(h:Mine w B a n cap m)(HC:Hid (∀W:World,Num W a n m→Calls Tryz.prog 62 #[.agg #[.bool s,.slice a n cap,.int .i64 x]] W fun e w'=>e = .returned (.int .i64 0)∧Below W.heap.size W w'))(HR:Hid (∀W:World,Mine W B a n cap m→Calls Tryz.prog 108 #[.agg #[.int .i64 E,.int .i64 F],.agg #[.bool s,.slice a n cap,.int .i64 x],.bool ng,.int .u8 (mode:Int)] W fun e w'=>e = .returned (.tuple #[.int .u64 gb,.int .u8 fl,.int .i64 0])∧Below W.heap.size W w')) :
  Calls Tryz.prog 65 #[.agg #[.int .i64 E,.int .i64 F],.agg #[.bool s,.slice a n cap,.int .i64 x],.bool ng,.int .u8 (mode:Int)] w fun e w'=>e = .returned (.tuple #[.int .u64 gb,.int .u8 fl,.int .i64 0])∧Below w.heap.size w w':=by
 have H:=hide h;clear h;go_enter Tryz.func65,Tryz.ntmps65
 go_wp2_with fail
 refine (dW _ _ _ h0).mono ?_;rintro e w1 ⟨rfl,hb1⟩;have hS:=(Fs.two w _ _ _ _).kept hb1;obtain ⟨⟨ya,yb,-⟩,⟨yc,yd,ye,-⟩,-⟩:=hS.cells;go_wp2_with fail
 refine (aa HC _ ((aa H).kept hS.fr).num).mono ?_;rintro e w2 ⟨rfl,hb2⟩;replace hS:=hS.kept hb2;clear ya yb yc yd ye;obtain ⟨⟨yf,yg,-⟩,⟨yh,yi,yj,-⟩,-⟩:=hS.cells;go_wp2_with fail
 refine (iy mode hm _).mono ?_;rintro e w3 ⟨rfl,hb3⟩;replace hS:=hS.kept hb3;clear yf yg yh yi yj;obtain ⟨⟨yk,yl,-⟩,⟨ym,yn,yo,-⟩,-⟩:=hS.cells;go_wp2_with fail
 refine (aa HR _ ((aa H).kept hS.fr)).mono ?_;rintro e w4 ⟨rfl,hb4⟩;replace hS:=hS.kept hb4;clear yk yl ym yn yo;obtain ⟨⟨yp,yq,-⟩,⟨yr,ys,yt,-⟩,-⟩:=hS.cells;go_wp2
 go_ret3
 exact ⟨rfl,hS.fr⟩
theorem div_pos(a a':Option Addr)(n n' cap cap' m d:Nat)(w:World)(h:Num w a n m)(h':Num w a' n' d)(hd:0<d) :
  Calls Tryz.prog 154 #[.agg #[.slice a n cap],.agg #[.slice a' n' cap']] w fun e w'=>(∃aq nq cq ar nr cr,e = .returned (.tuple #[.agg #[.slice aq nq cq],.agg #[.slice ar nr cr],.int .i64 0])∧Mine w' w.heap.size aq nq cq (m/d)∧Mine w' w.heap.size ar nr cr (m%d))∧Below w.heap.size w w':=by
 refine (vL a a' n n' cap cap' m d w h h').mono ?_;rintro e w' ⟨h1,hb⟩;rcases h1 with ⟨h0,_⟩|⟨_,h1⟩
 ·omega
 ·exact ⟨h1,hb⟩
theorem nO(s:Bool)(a b:Option Addr)(n c k l m d:Nat)(hs:s=true→0<m)(hd:0<d)(hg:Nat.gcd m d=1)(W:World)(h1:Num W a n m)(h2:Num W b k d) :
  Calls Tryz.prog 12 #[.agg #[.bool s,.slice a n c,.slice b k l]] W fun e W'=>e = .returned (.int .i64 0)∧Below W.heap.size W W':=by
 have hk:0<k:=by have:=h2.zero;omega
 cases s
 ·exact kD a n c m b k l d W hk h1 h2 hg
 ·exact kK a n c m b k l d W hk (by have:=h1.zero;have:=hs rfl;omega) h1 h2 hg
end Go.Proofs.YtaidedkpfnidpaaGreatDoor
