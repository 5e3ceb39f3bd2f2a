/- Of what NearRoundsRow stands on: ExCheck LowBig RdCut. -/
import Derived.Test.YtaidedkpfnidpaaGreatDoorPaj
import Derived.Deep.LoopGhost
namespace Go.Proofs.YtaidedkpfnidpaaGreatDoor
open Go.RowKit
set_option maxHeartbeats 400000
def Far(x:Int):Prop:=x < -1073741824∨1073741824<x
instance (x:Int):Decidable (Far x):=by unfold Far;infer_instance
theorem eH(a:Option Addr)(cap:Nat)(w:World)  :
  Calls Tryz.prog 99 #[.agg #[.slice a 0 cap]] w fun e w'=>e = .returned (.bool true)∧Below w.heap.size w w':=by
 go_enter Tryz.func99,Tryz.ntmps99
 go_wp2
 go_ret
 exact ⟨rfl,(Fs.one w _ _).fr⟩
theorem aW(a:Option Addr)(n cap:Nat)(hn:0<n)(w:World)  :
  Calls Tryz.prog 99 #[.agg #[.slice a n cap]] w fun e w'=>e = .returned (.bool false)∧Below w.heap.size w w':=by
 go_enter Tryz.func99,Tryz.ntmps99
 go_wp2
 go_ret
 exact ⟨dP (by simp<;>omega),(Fs.one w _ _).fr⟩
theorem lT(x:Int)(hx:-1073741824≤x∧x≤1073741824)(w:World)  :
  Calls Tryz.prog 104 #[.int .i64 x] w fun e w'=>e = .returned (.bool false)∧Below w.heap.size w w':=by
 go_enter Tryz.func104,Tryz.ntmps104
 go_wp2
 go_ret
 exact ⟨dP (by simp<;>omega),(Fs.begin w).fr⟩
theorem AQ(a:Option Addr)(n cap m:Nat)(w:World)(h:Num w a n m)(hm:m%2=1) :
  Calls Tryz.prog 103 #[.agg #[.slice a n cap],.int .i64 0] w fun e w'=>e = .returned (.tuple #[.bool true,.int .i64 0])∧Below w.heap.size w w':=by
 have:=qf a n cap m 0 w h (by omega);rw [show decide (m/2^0%2=1)=true from by simp [hm]] at this;exact this
theorem wM(s:Bool)(a:Option Addr)(cap:Nat)(x:Int)(w:World)(h:Num w a 0 0) :
  Calls Tryz.prog 62 #[.agg #[.bool s,.slice a 0 cap,.int .i64 x]] w fun e w'=>e = .returned (.int .i64 (if s=true∨x≠0 then 40 else 0))∧Below w.heap.size w w':=by
 have H:=hide h;clear h;go_enter Tryz.func62,Tryz.ntmps62
 go_wp2_with fail
 refine (cK a 0 cap 0 _ ((aa H).kept (ah _ _))).mono ?_;rintro e w1 ⟨rfl,hb1⟩;have hS:=(Fs.one w _ _).kept hb1;obtain ⟨⟨ya,yb,yc,-⟩,-⟩:=hS.cells;go_wp2_with fail
 refine (eH a cap _).mono ?_;rintro e w2 ⟨rfl,hb2⟩;replace hS:=hS.kept hb2;clear ya yb yc;obtain ⟨⟨yd,ye,yf,-⟩,-⟩:=hS.cells;by_cases hs:s=true
 ·subst hs;go_wp2
  go_ret
  exact ⟨by simp,hS.fr⟩
 ·obtain rfl:s=false:=by cases s<;>simp_all
  by_cases hx:x=0
  ·subst hx;go_wp2
   go_ret
   exact ⟨by simp,hS.fr⟩
  ·go_wp2
   go_ret
   exact ⟨by simp,hS.fr⟩
theorem yG(s:Bool)(a:Option Addr)(n cap m:Nat)(x:Int)(w:World)(h:Num w a n m)(hn:0<n)(hm:m%2=1)(hx:-1073741824≤x∧x≤1073741824) :
  Calls Tryz.prog 62 #[.agg #[.bool s,.slice a n cap,.int .i64 x]] w fun e w'=>e = .returned (.int .i64 0)∧Below w.heap.size w w':=by
 have H:=hide h;have HM:=hide hm;clear h hm;go_enter Tryz.func62,Tryz.ntmps62
 go_wp2_with fail
 refine (cK a n cap m _ ((aa H).kept (ah _ _))).mono ?_;rintro e w1 ⟨rfl,hb1⟩;have hS:=(Fs.one w _ _).kept hb1;obtain ⟨⟨ya,yb,yc,-⟩,-⟩:=hS.cells;go_wp2_with fail
 refine (aW a n cap hn _).mono ?_;rintro e w2 ⟨rfl,hb2⟩;replace hS:=hS.kept hb2;clear ya yb yc;obtain ⟨⟨yd,ye,yf,-⟩,-⟩:=hS.cells;go_wp2_with fail
 refine (AQ a n cap m _ ((aa H).kept hS.fr) (aa HM)).mono ?_;rintro e w3 ⟨rfl,hb3⟩;replace hS:=hS.kept hb3;clear yd ye yf;obtain ⟨⟨yg,yh,yi,-⟩,-⟩:=hS.cells;go_wp2_with fail
 refine (lT _ hx _).mono ?_;rintro e w4 ⟨rfl,hb4⟩;replace hS:=hS.kept hb4;clear yg yh yi;obtain ⟨⟨yj,yk,yl,-⟩,-⟩:=hS.cells;go_wp2
 go_ret
 exact ⟨rfl,hS.fr⟩
theorem uT{w:World}{a:Option Addr}{n:Nat}{xs:List Nat}(hn:xs.length=n)(hl:bE w a xs)(hw:Pl.Wf xs)(hc:eG xs=0):Num w a n (Pl.val xs):=by
 have:=Cb hc;exact ⟨xs,hn,hl,hw,this.2,rfl,by omega⟩
theorem DC(a:Option Addr)(n cap m:Nat)(w:World)(h:Num w a n m)(hn2:2<n) :
  Calls Tryz.prog 91 #[.agg #[.slice a n cap]] w fun e w'=>e = .returned (.tuple #[.int .u64 0,.bool false])∧Below w.heap.size w w':=by
 have HK:=hide (fun (o1:Obj)=>cK a n cap m (w.alloc o1) (h.alloc o1));clear h;go_enter Tryz.func91,Tryz.ntmps91
 go_wp2_with fail
 refine (aa HK _).mono ?_;rintro e w1 ⟨rfl,hb1⟩;obtain ⟨hc1,hf1⟩:=bO hb1;go_wp2
 go_ret2
 exact ⟨rfl,ai (ah _ _) hb1⟩
def lK(m dr:Nat):Int:=if m/2^(dr-1)%2=1 then (if dr=1 then 0 else 1) else -1
theorem yH(m dr:Nat):lK m dr = -1∨lK m dr=0∨lK m dr=1:=by
 unfold lK;split
 ·split<;>simp
 ·simp
def jW(mode:Nat)(s:Bool)(m dr:Nat):Nat:=m/2^dr+(if bN mode s (decide (m/2^dr%2=1)) (lK m dr) then 1 else 0)
theorem vG(a:Option Addr)(n cap m k:Nat)(w:World)(h:Num w a n m)(hk:k<9223372036854775808)(hb:m/2^k%2=1) :
  Calls Tryz.prog 103 #[.agg #[.slice a n cap],.int .i64 (k:Int)] w fun e w'=>e = .returned (.tuple #[.bool true,.int .i64 0])∧Below w.heap.size w w':=by
 have:=qf a n cap m k w h hk;rw [decide_eq_true hb] at this;exact this
theorem G7(a:Option Addr)(n cap m k:Nat)(w:World)(h:Num w a n m)(hk:k<9223372036854775808)(hb:¬m/2^k%2=1) :
  Calls Tryz.prog 103 #[.agg #[.slice a n cap],.int .i64 (k:Int)] w fun e w'=>e = .returned (.tuple #[.bool false,.int .i64 0])∧Below w.heap.size w w':=by
 have:=qf a n cap m k w h hk;rw [decide_eq_false hb] at this;exact this
theorem Ci(a:Option Addr)(n cap m j:Nat)(w:World)(h:Num w a n m)(hjj:j<4611686018427387904)(hb:¬m/2^j%2=1) :
  Calls Tryz.prog 163 #[.agg #[.slice a n cap],.int .i64 ((j:Int)+1)] w fun e w'=>e = .returned (.int .i64 (-1))∧Below w.heap.size w w':=by
 have H:=hide h;have HB:=hide hb;have e1:(j:Int)+1-1=(j:Int):=by omega
 clear h hb;go_enter Tryz.func163,Tryz.ntmps163
 go_wp2_with fail
 refine (G7 a n cap m j _ ((aa H).kept (ah _ _)) (by omega) (aa HB)).mono ?_;rintro e w1 ⟨rfl,hb1⟩;have hS:=(Fs.one w _ _).kept hb1;obtain ⟨⟨ya,-⟩,-⟩:=hS.cells;go_wp2
 go_ret
 exact ⟨rfl,hS.fr⟩
theorem zI(a:Option Addr)(n cap m j:Nat)(w:World)(h:Num w a n m)(hjj:j<4611686018427387904)(hb:m/2^j%2=1)(hj:0<j) :
  Calls Tryz.prog 163 #[.agg #[.slice a n cap],.int .i64 ((j:Int)+1)] w fun e w'=>e = .returned (.int .i64 1)∧Below w.heap.size w w':=by
 have H:=hide h;have HB:=hide hb;have e1:(j:Int)+1-1=(j:Int):=by omega
 clear h hb;go_enter Tryz.func163,Tryz.ntmps163
 go_wp2_with fail
 refine (vG a n cap m j _ ((aa H).kept (ah _ _)) (by omega) (aa HB)).mono ?_;rintro e w1 ⟨rfl,hb1⟩;have hS:=(Fs.one w _ _).kept hb1;obtain ⟨⟨ya,-⟩,-⟩:=hS.cells;have e2:((j:Int)+1==1)=false:=by simp;omega
 go_wp2
 go_ret
 exact ⟨rfl,hS.fr⟩
theorem zF(a:Option Addr)(n cap m:Nat)(w:World)(h:Num w a n m)(hb:m/2^0%2=1) :
  Calls Tryz.prog 163 #[.agg #[.slice a n cap],.int .i64 1] w fun e w'=>e = .returned (.int .i64 0)∧Below w.heap.size w w':=by
 have H:=hide h;have HB:=hide hb;clear h hb;go_enter Tryz.func163,Tryz.ntmps163
 go_wp2_with fail
 refine (vG a n cap m 0 _ ((aa H).kept (ah _ _)) (by omega) (aa HB)).mono ?_;rintro e w1 ⟨rfl,hb1⟩;have hS:=(Fs.one w _ _).kept hb1;obtain ⟨⟨ya,-⟩,-⟩:=hS.cells;go_wp2
 go_ret
 exact ⟨rfl,hS.fr⟩
theorem xO(a:Option Addr)(n cap m dr:Nat)(w:World)(h:Num w a n m)(h1:1≤dr)(h2:dr<4611686018427387904) :
  Calls Tryz.prog 163 #[.agg #[.slice a n cap],.int .i64 (dr:Int)] w fun e w'=>e = .returned (.int .i64 (lK m dr))∧Below w.heap.size w w':=by
 obtain ⟨j,rfl⟩:∃j,dr=j+1:=⟨dr-1,by omega⟩;have e1:((j+1:Nat):Int)=(j:Int)+1:=by omega
 rw [e1];unfold lK;rw [show j+1-1=j from by omega];by_cases hb:m/2^j%2=1
 ·rw [if_pos hb];by_cases hj:j=0
  ·subst hj;rw [if_pos rfl];exact zF a n cap m w h hb
  ·rw [if_neg (by omega)];exact zI a n cap m j w h (by omega) hb (by omega)
 ·rw [if_neg hb];exact Ci a n cap m j w h (by omega) hb
theorem vE{w:World}{a:Option Addr}{n m:Nat}(h:Num w a n m)(hm:m<18446744073709551616):n≤2:=by
 obtain ⟨xs,hn,hl,hw,hN,hv,hb⟩:=h;refine Nat.le_of_not_lt fun h3=>?_;have h4:=Pl.norm_lower hN (by omega:0<xs.length);rw [hv,hn] at h4;have h5:4294967296^2≤4294967296^(n-1):=Nat.pow_le_pow_right (by decide) (by omega);omega
theorem yC(s:Bool)(a:Option Addr)(n cap m j mode:Nat)(x:Int)(w:World)(h:Num w a n m)(hj:j<64)(hm:m<18446744073709551616)(hp:m*2^j<18446744073709551616) :
  Calls Tryz.prog 137 #[.agg #[.bool s,.slice a n cap,.int .i64 x],.int .i64 (x-(j:Int)),.int .u8 (mode:Int)] w fun e w'=>e = .returned (.tuple #[.int .u64 ((m*2^j:Nat):Int),.bool true])∧Below w.heap.size w w':=by
 have H:=hide h;have hn2:=vE h hm;have hj1:x-(j:Int)-x = -(j:Int):=by omega
 have e2:(-(j:Int)≤0):=by omega
 have e3:-(-(j:Int))=(j:Int):=by omega
 have e4:IntKind.u64.wrap ((m:Int)*2^j)=((m*2^j:Nat):Int):=by
  rw [show ((m:Int)*2^j)=((m*2^j:Nat):Int) from by simp,IntKind.wrap_u64];omega
 clear h;go_enter Tryz.func137,Tryz.ntmps137
 go_wp2_with fail
 refine (lw a n cap m _ ((aa H).kept (ah _ _)) hn2).mono ?_;rintro e w1 ⟨rfl,hb1⟩;have hS:=(Fs.one w _ _).kept hb1;obtain ⟨⟨ya,yb,yc,-⟩,-⟩:=hS.cells;go_wp2
 exact bodyPost_ret (v:=.tuple #[.int .u64 ((m*2^j:Nat):Int),.bool true]) (by simp [results,Tryz.results137,go_sem]) rfl ⟨rfl,hS.fr⟩
end Go.Proofs.YtaidedkpfnidpaaGreatDoor
