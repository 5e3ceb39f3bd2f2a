/- Of what NearRoundsRow stands on: ExMake SymJ ExWorth. -/
import Derived.Test.YtaidedkpfnidpaaGreatDoorPai
import Derived.Test.YtaidedkpfnidpaaGreatDoorPau
namespace Go.Proofs.YtaidedkpfnidpaaGreatDoor
open Go.RowKit
set_option maxHeartbeats 2000000
set_option maxRecDepth 20000
theorem Tz.uniq{m y z:Nat}(h:Tz m y)(k:Tz m z):y=z:=by
 obtain ⟨p,hp⟩:=h;obtain ⟨q,hq⟩:=k;rcases Nat.lt_trichotomy y z with hlt|rfl|hlt
 ·exfalso;obtain ⟨d,rfl⟩:∃d,z=y+(d+1):=⟨z-y-1,by omega⟩;rw [hp,Nat.pow_add,Nat.mul_assoc] at hq;have:=Nat.eq_of_mul_eq_mul_left (Nat.pow_pos (by decide:0<2)) hq;rw [Nat.pow_succ,Nat.mul_right_comm] at this;omega
 ·rfl
 ·exfalso;obtain ⟨d,rfl⟩:∃d,y=z+(d+1):=⟨y-z-1,by omega⟩;rw [hp,Nat.pow_add,Nat.mul_assoc] at hq;have:=Nat.eq_of_mul_eq_mul_left (Nat.pow_pos (by decide:0<2)) hq;rw [Nat.pow_succ,Nat.mul_right_comm] at this;omega
theorem nR(a:Option Addr)(n cap m z:Nat)(w:World)(h:Num w a n m)(hm:0<m)(hT:Tb w)(hz:Tz m z) :
  Calls Tryz.prog 100 #[.agg #[.slice a n cap]] w fun e w'=>e = .returned (.int .i64 (z:Int))∧Below w.heap.size w w':=by
 refine (xm a n cap m w h hm hT).mono ?_;rintro e w' ⟨⟨y,rfl,hy,_⟩,hb⟩;obtain rfl:=hy.uniq hz;exact ⟨rfl,hb⟩
theorem uF(s:Bool)(a:Option Addr)(cap:Nat)(x:Int)(w:World)(h:Num w a 0 0) :
  Calls Tryz.prog 53 #[.bool s,.agg #[.slice a 0 cap],.int .i64 x] w fun e w'=>e = .returned (.tuple #[.agg #[.bool false,.slice none 0 0,.int .i64 0],.int .i64 0])∧Below w.heap.size w w':=by
 have H:=hide h;clear h;go_enter Tryz.func53,Tryz.ntmps53
 go_wp2_with fail
 refine (cK a 0 cap 0 _ (((aa H).alloc _).alloc _)).mono ?_;rintro e w1 ⟨rfl,hb1⟩;have hS:=(Fs.two w _ _ _ _).kept hb1;obtain ⟨⟨ya,-⟩,⟨yb,yc,yd,-⟩,-⟩:=hS.cells;go_wp2_with fail
 refine (eH a cap _).mono ?_;rintro e w2 ⟨rfl,hb2⟩;replace hS:=hS.kept hb2;clear ya yb yc yd;obtain ⟨⟨ye,-⟩,⟨yf,yg,yh,-⟩,-⟩:=hS.cells;have Q_:=hS.frozen (b:=w.heap.size+1) (cs:=#[.bool false,.slice none 0 0,.int .i64 0]) (t:=58) (by simp);have fz0:=Q_ 0;have fz1:=Q_ 1;have fz2:=Q_ 2;clear Q_;go_wp2
 exact bodyPost_ret (v:=.tuple #[.agg #[.bool false,.slice none 0 0,.int .i64 0],.int .i64 0]) (by simp [results,Tryz.results53,go_sem,yf,yg,yh]) rfl ⟨rfl,((hS.fr.setCell (by simp) _).setCell (by simp) _).setCell (by simp) _⟩
theorem wU(s:Bool)(a:Option Addr)(n cap m z:Nat)(x:Int)(w:World)(h:Num w a n m)(hm:0<m)(hT:Tb w)(hz:Tz m z)(hz2:z<524288)(hx:1073741824<x+z) :
  Calls Tryz.prog 53 #[.bool s,.agg #[.slice a n cap],.int .i64 x] w fun e w'=>e = .returned (.tuple #[.agg #[.bool false,.slice none 0 0,.int .i64 0],.int .i64 4])∧Below w.heap.size w w':=by
 have hn0:0<n:=by have:=h.zero;omega
 have H:=hide h;have HM:=hide hm;have HT:=hide hT;have HZ:=hide hz;clear h hm hT hz;go_enter Tryz.func53,Tryz.ntmps53
 go_wp2_with fail
 refine (cK a n cap m _ (((aa H).alloc _).alloc _)).mono ?_;rintro e w1 ⟨rfl,hb1⟩;have hS:=(Fs.two w _ _ _ _).kept hb1;obtain ⟨⟨ya,-⟩,⟨yb,yc,yd,-⟩,-⟩:=hS.cells;go_wp2_with fail
 refine (aW a n cap hn0 _).mono ?_;rintro e w2 ⟨rfl,hb2⟩;replace hS:=hS.kept hb2;clear ya yb yc yd;obtain ⟨⟨ye,-⟩,⟨yf,yg,yh,-⟩,-⟩:=hS.cells;go_wp2_with fail
 refine (nR a n cap m z _ ((aa H).kept hS.fr) (aa HM) ((aa HT).kept hS.fr) (aa HZ)).mono ?_;rintro e w3 ⟨rfl,hb3⟩;replace hS:=hS.kept hb3;clear ye yf yg yh;obtain ⟨⟨yi,-⟩,⟨yj,yk,yl,-⟩,-⟩:=hS.cells;have Q_:=hS.frozen (b:=w.heap.size+1) (cs:=#[.bool false,.slice none 0 0,.int .i64 0]) (t:=58) (by simp);have fz0:=Q_ 0;have fz1:=Q_ 1;have fz2:=Q_ 2;clear Q_;go_wp2
 exact bodyPost_ret (v:=.tuple #[.agg #[.bool false,.slice none 0 0,.int .i64 0],.int .i64 4]) (by simp [results,Tryz.results53,go_sem,yj,yk,yl]) rfl ⟨rfl,((hS.fr.setCell (by simp) _).setCell (by simp) _).setCell (by simp) _⟩
theorem xC(s:Bool)(a:Option Addr)(n cap m z:Nat)(x:Int)(w:World)(h:Num w a n m)(hm:0<m)(hT:Tb w)(hz:Tz m z)(hz2:z<524288)(hx:x+z < -1073741824) :
  Calls Tryz.prog 53 #[.bool s,.agg #[.slice a n cap],.int .i64 x] w fun e w'=>e = .returned (.tuple #[.agg #[.bool false,.slice none 0 0,.int .i64 0],.int .i64 4])∧Below w.heap.size w w':=by
 have hn0:0<n:=by have:=h.zero;omega
 have H:=hide h;have HM:=hide hm;have HT:=hide hT;have HZ:=hide hz;clear h hm hT hz;go_enter Tryz.func53,Tryz.ntmps53
 go_wp2_with fail
 refine (cK a n cap m _ (((aa H).alloc _).alloc _)).mono ?_;rintro e w1 ⟨rfl,hb1⟩;have hS:=(Fs.two w _ _ _ _).kept hb1;obtain ⟨⟨ya,-⟩,⟨yb,yc,yd,-⟩,-⟩:=hS.cells;go_wp2_with fail
 refine (aW a n cap hn0 _).mono ?_;rintro e w2 ⟨rfl,hb2⟩;replace hS:=hS.kept hb2;clear ya yb yc yd;obtain ⟨⟨ye,-⟩,⟨yf,yg,yh,-⟩,-⟩:=hS.cells;go_wp2_with fail
 refine (nR a n cap m z _ ((aa H).kept hS.fr) (aa HM) ((aa HT).kept hS.fr) (aa HZ)).mono ?_;rintro e w3 ⟨rfl,hb3⟩;replace hS:=hS.kept hb3;clear ye yf yg yh;obtain ⟨⟨yi,-⟩,⟨yj,yk,yl,-⟩,-⟩:=hS.cells;have Q_:=hS.frozen (b:=w.heap.size+1) (cs:=#[.bool false,.slice none 0 0,.int .i64 0]) (t:=58) (by simp);have fz0:=Q_ 0;have fz1:=Q_ 1;have fz2:=Q_ 2;clear Q_;go_wp2
 exact bodyPost_ret (v:=.tuple #[.agg #[.bool false,.slice none 0 0,.int .i64 0],.int .i64 4]) (by simp [results,Tryz.results53,go_sem,yj,yk,yl]) rfl ⟨rfl,((hS.fr.setCell (by simp) _).setCell (by simp) _).setCell (by simp) _⟩
theorem j4(s:Bool)(a:Option Addr)(n cap m z:Nat)(x:Int)(w:World)(h:Num w a n m)(hm:0<m)(hT:Tb w)(hz:Tz m z)(hz2:z<524288)(hcap:n≤cap)(hcap2:cap≤9223372036854775807)(hx:-1073741824≤x+z∧x+z≤1073741824) :
  Calls Tryz.prog 53 #[.bool s,.agg #[.slice a n cap],.int .i64 x] w fun e w'=>(∃A N C,e = .returned (.tuple #[.agg #[.bool s,.slice A N C,.int .i64 (x+(z:Int))],.int .i64 0])∧Mine w' w.heap.size A N C (m/2^z))∧Below w.heap.size w w':=by
 have hn0:0<n:=by have:=h.zero;omega
 have H:=hide h;have HM:=hide hm;have HT:=hide hT;have HZ:=hide hz;clear h hm hT hz;go_enter Tryz.func53,Tryz.ntmps53
 go_wp2_with fail
 refine (cK a n cap m _ (((aa H).alloc _).alloc _)).mono ?_;rintro e w1 ⟨rfl,hb1⟩;have hS:=(Fs.two w _ _ _ _).kept hb1;obtain ⟨⟨ya,-⟩,⟨yb,yc,yd,-⟩,-⟩:=hS.cells;go_wp2_with fail
 refine (aW a n cap hn0 _).mono ?_;rintro e w2 ⟨rfl,hb2⟩;replace hS:=hS.kept hb2;clear ya yb yc yd;obtain ⟨⟨ye,-⟩,⟨yf,yg,yh,-⟩,-⟩:=hS.cells;go_wp2_with fail
 refine (nR a n cap m z _ ((aa H).kept hS.fr) (aa HM) ((aa HT).kept hS.fr) (aa HZ)).mono ?_;rintro e w3 ⟨rfl,hb3⟩;replace hS:=hS.kept hb3;clear ye yf yg yh;obtain ⟨⟨yi,-⟩,⟨yj,yk,yl,-⟩,-⟩:=hS.cells;have hltw3_0:w.heap.size<w3.heap.size:=hS.lt 0 rfl;have hltw3_1:w.heap.size+1<w3.heap.size:=hS.lt 1 rfl;go_wp2_with fail
 refine (tF a n cap m z _ ((aa H).kept hS.fr) hcap hcap2 (by omega)).mono ?_;rintro e w4 ⟨⟨A4,N4,C4,rfl,f4⟩,hb4⟩;replace hS:=hS.kept hb4;clear yi yj yk yl;obtain ⟨⟨ym,-⟩,⟨yn,yo,yp,-⟩,-⟩:=hS.cells;have hltw4_0:w.heap.size<w4.heap.size:=hS.lt 0 rfl;have hltw4_1:w.heap.size+1<w4.heap.size:=hS.lt 1 rfl;have F4:=hide f4;clear f4;have Q_:=hS.frozen (b:=w.heap.size+1) (cs:=#[.bool false,.slice none 0 0,.int .i64 0]) (t:=58) (by simp);have fz0:=Q_ 0;have fz1:=Q_ 1;have fz2:=Q_ 2;clear Q_;go_wp2
 have hB:=fun u0 u1 u2=>((hS.fr.setCell (p:=⟨w.heap.size+1,0,none⟩) (by simp) u0).setCell (p:=⟨w.heap.size+1,1,none⟩) (by simp) u1).setCell (p:=⟨w.heap.size+1,2,none⟩) (by simp) u2;exact bodyPost_ret (v:=.tuple #[.agg #[.bool s,.slice A4 N4 C4,.int .i64 (x+(z:Int))],.int .i64 0]) (by simp [results,Tryz.results53,go_sem,yn,yo,yp,hltw4_1]) rfl
  ⟨⟨_,_,_,rfl,(((((aa F4).set (by exact hltw3_1) _).set (by exact hltw3_1) _).set (by exact hltw3_1) _).alloc _).mono (by omega)⟩,(hB _ _ _).alloc (hB _ _ _).size _⟩
def xK(n:Nat)(L1:Ks)(w0:aN)(gs:List Gf)(E:List Bx)(e:Exit)(a:Act)(W':World):Prop:=e = .normal∧∃T,a=⟨T,[]⟩∧Kn T n L1∧Fb w0 W' E∧au gs W'
theorem EX{P:Program}{c:Code}{Q:Exit→Act→World→Prop}{T0:Array Value}{W:World}{n:Nat}{w0:aN}{gs:List Gf}{E0:List Bx}{L0:Ks}(_:Fb w0 W E0)(_:au gs W)(_:Kn T0 n L0)(E:List Bx)(L1:Ks)(h:c.wp P (xK n L1 w0 gs E) ⟨T0,[]⟩ W)(k:∀T W',Fb w0 W' E→au gs W'→Kn T n L1→Q .normal ⟨T,[]⟩ W'):c.wp P Q ⟨T0,[]⟩ W:=
 Code.wp_mono (fun _ _ W' ⟨he,T,ha,hK,hS,hG⟩=>by subst he;subst ha;exact k T W' hS hG hK) h
theorem jq{P:Program}{c:Code}{Q:Exit→Act→World→Prop}{T0:Array Value}{W:World}{n:Nat}{w0:aN}{gs:List Gf}{E:List Bx}{L0:Ks}(hS:Fb w0 W E)(hG:au gs W)(hK:Kn T0 n L0)(L1:Ks)(h:c.wp P (xK n L1 w0 gs E) ⟨T0,[]⟩ W)(k:∀T W',Fb w0 W' E→au gs W'→Kn T n L1→Q .normal ⟨T,[]⟩ W'):c.wp P Q ⟨T0,[]⟩ W:=
 EX hS hG hK E L1 h k
theorem bg{n:Nat}{L1:Ks}{w0:aN}{gs:List Gf}{E:List Bx}{T:Array Value}{W':World}(hS:Fb w0 W' E)(hG:au gs W')(hK:Kn T n L1):xK n L1 w0 gs E .normal ⟨T,[]⟩ W':=⟨rfl,T,rfl,hK,hS,hG⟩
theorem IA{Q:Exit→Act→World→Prop}{id k:Nat}{a:Act}{w:World}(hk:k≠id)(h:Q (.exit k) a w):Exit.inBlock id Q (.exit k) a w:=by
 show (if k=id then _ else _)
 rw [if_neg hk];exact h
theorem Mine.room{w:World}{base:Nat}{a:Option Addr}{n c m:Nat}(h:Mine w base a n c m):n≤c∧c≤9223372036854775807:=by
 obtain ⟨xs,_,ho,_⟩:=h;rcases ho with ⟨e,_⟩|⟨g',cap',cur,e,hg,hh,h1,h2,h3,hc⟩
 ·cases e;omega
 ·cases e;omega
theorem pO(base:Nat)(a:Option Addr)(n c m:Nat):St base (fun W=>Mine W base a n c m):=⟨fun _ _ hb h=>h.kept hb,fun _ _ u hp h=>h.set hp u⟩
theorem Et(s:Bool)(ex:Int)(fr hid:Nat)(x:Int)(w:World)  :
  Calls Tryz.prog 96 #[.int .u8 1,.agg #[.bool s,.int .i64 ex,.int .u64 fr],.int .u64 hid,.int .i64 x] w fun e w'=>e = .returned (.tuple #[.agg #[.bool false,.slice none 0 0,.int .i64 0],.int .i64 0])∧Below w.heap.size w w':=by
 go_enter Tryz.func96,Tryz.ntmps96
 have hS:Fs w ((w.alloc (.cells #[.bool s,.int .i64 ex,.int .u64 fr] 35)).alloc (.cells #[.bool false,.slice none 0 0,.int .i64 0] 58)) [⟨w.heap.size,#[.bool s,.int .i64 ex,.int .u64 fr],35⟩,⟨w.heap.size+1,#[.bool false,.slice none 0 0,.int .i64 0],58⟩]:=Fs.two w _ _ _ _;go_wp2
 exact bodyPost_ret (v:=.tuple #[.agg #[.bool false,.slice none 0 0,.int .i64 0],.int .i64 0]) (by simp [results,Tryz.results96,go_sem]) rfl ⟨rfl,hS.fr⟩
theorem Es(s:Bool)(ex:Int)(fr hid:Nat)(x:Int)(w:World)  :
  Calls Tryz.prog 96 #[.int .u8 4,.agg #[.bool s,.int .i64 ex,.int .u64 fr],.int .u64 hid,.int .i64 x] w fun e w'=>e = .returned (.tuple #[.agg #[.bool false,.slice none 0 0,.int .i64 0],.int .i64 8])∧Below w.heap.size w w':=by
 go_enter Tryz.func96,Tryz.ntmps96
 have hS:Fs w ((w.alloc (.cells #[.bool s,.int .i64 ex,.int .u64 fr] 35)).alloc (.cells #[.bool false,.slice none 0 0,.int .i64 0] 58)) [⟨w.heap.size,#[.bool s,.int .i64 ex,.int .u64 fr],35⟩,⟨w.heap.size+1,#[.bool false,.slice none 0 0,.int .i64 0],58⟩]:=Fs.two w _ _ _ _;go_wp2
 exact bodyPost_ret (v:=.tuple #[.agg #[.bool false,.slice none 0 0,.int .i64 0],.int .i64 8]) (by simp [results,Tryz.results96,go_sem]) rfl ⟨rfl,hS.fr⟩
theorem DR(s:Bool)(ex:Int)(fr hid:Nat)(x:Int)(w:World)  :
  Calls Tryz.prog 96 #[.int .u8 5,.agg #[.bool s,.int .i64 ex,.int .u64 fr],.int .u64 hid,.int .i64 x] w fun e w'=>e = .returned (.tuple #[.agg #[.bool false,.slice none 0 0,.int .i64 0],.int .i64 8])∧Below w.heap.size w w':=by
 go_enter Tryz.func96,Tryz.ntmps96
 have hS:Fs w ((w.alloc (.cells #[.bool s,.int .i64 ex,.int .u64 fr] 35)).alloc (.cells #[.bool false,.slice none 0 0,.int .i64 0] 58)) [⟨w.heap.size,#[.bool s,.int .i64 ex,.int .u64 fr],35⟩,⟨w.heap.size+1,#[.bool false,.slice none 0 0,.int .i64 0],58⟩]:=Fs.two w _ _ _ _;go_wp2
 exact bodyPost_ret (v:=.tuple #[.agg #[.bool false,.slice none 0 0,.int .i64 0],.int .i64 8]) (by simp [results,Tryz.results96,go_sem]) rfl ⟨rfl,hS.fr⟩
theorem sw(s:Bool)(ex:Int)(fr hid:Nat)(x:Int)(M z:Nat)(xe:Int)(w:World)(hM0:0<M)(hM64:M<18446744073709551616)(hT:Tb w)(hz:Tz M z)(hz2:z<524288)(hb1:-1073741824≤xe+z∧xe+z≤1073741824)(hor:bits BinOp.or .u64 (fr:Int) (hid:Int)=(M:Int))(hxe:x+(ex-1)=xe)(hex:0≤ex∧ex≤4096) :
  Calls Tryz.prog 96 #[.int .u8 3,.agg #[.bool s,.int .i64 ex,.int .u64 fr],.int .u64 hid,.int .i64 x] w fun e w'=>(∃A N C,e = .returned (.tuple #[.agg #[.bool s,.slice A N C,.int .i64 (xe+(z:Int))],.int .i64 0])∧Mine w' w.heap.size A N C (M/2^z))∧Below w.heap.size w w':=by
 refine ax Tryz.func96 rfl (by kernel_rfl) fun T hK=>?_;replace hK:Kn T _ [(0,.int .u8 3),(1,.agg #[.bool s,.int .i64 ex,.int .u64 (fr:Int)]),(2,.int .u64 (hid:Int)),(3,.int .i64 x)]:=hK;have hS:=Fb.begin w;have hG:au [] w:=trivial;refine wq hS hG hK (fun p1=>[.n 5 #[.bool s,vJ ex,.int .u64 (fr:Int)] 35,.n 8 #[.bool false,nJ,vJ 0] 58,.v 9 (vJ 0)]) (fun p1=>[(0,.int .u8 3),(2,.int .u64 (hid:Int)),(3,vJ x),(5,pT (p1 0).N 0),(8,pT (p1 1).N 0),(9,vJ 0)]) (fun p1=>?_) (fun p1 W1 T hF hK=>?_)
 ·iterate 2 refine aI ?_
  refine af ?_;exact ae
 replace hS:=ag.fc hS hF [1000,1001] [⟨(p1 0).N,#[.bool s,vJ ex,.int .u64 (fr:Int)],35,true⟩,⟨(p1 1).N,#[.bool false,nJ,vJ 0],58,true⟩];replace hG:=hF.gx;clear hF;refine wq hS hG hK (fun p2=>[.v 11 (pT (p1 0).N 2),.l 12 (.int .u64 (fr:Int)) 0 2,.v 10 (.int .u64 (fr:Int))]) (fun p2=>[(0,.int .u8 3),(2,.int .u64 (hid:Int)),(3,vJ x),(5,pT (p1 0).N 0),(8,pT (p1 1).N 0),(9,vJ 0),(10,.int .u64 (fr:Int))]) (fun p2=>?_) (fun p2 W2 T hF hK=>?_)
 ·refine af ?_;refine aj ?_;refine af ?_;exact ae
 obtain ⟨hS,hG⟩:=ag.fg hS hF;clear hF;refine wp_seq ?_;refine wq hS hG hK (fun p3=>[.v 13 (.int .u8 3)]) (fun p3=>[(2,.int .u64 (hid:Int)),(3,vJ x),(5,pT (p1 0).N 0),(8,pT (p1 1).N 0),(9,vJ 0),(10,.int .u64 (fr:Int)),(13,.int .u8 3)]) (fun p3=>?_) (fun p3 W3 T hF hK=>?_)
 ·refine af ?_;exact ae
 obtain ⟨hS,hG⟩:=ag.fg hS hF;clear hF;refine wp_block (wp_seq ?_);refine wp_block (wp_seq ?_);refine wp_block (wp_seq ?_);refine wp_block (wp_seq (wp_seq ?_));refine wq hS hG hK (fun p4=>[.v 15 (.bool true),.v 14 (.bool true)]) (fun p4=>[(2,.int .u64 (hid:Int)),(3,vJ x),(5,pT (p1 0).N 0),(8,pT (p1 1).N 0),(9,vJ 0),(10,.int .u64 (fr:Int)),(13,.int .u8 3),(14,.bool true)]) (fun p4=>?_) (fun p4 W4 T hF hK=>?_)
 ·iterate 2 refine af ?_
  exact ae
 obtain ⟨hS,hG⟩:=ag.fg hS hF;clear hF;refine wp_cond_true (hK.ew 14) (wp_exit ?_);refine jC (jC ?_);refine xD (aB ?_);refine wq hS hG hK (fun p5=>[.v 20 (.int .u64 (fr:Int)),.v 21 (.int .u64 (hid:Int)),.v 22 (.int .u64 (M:Int)),.v 10 (.int .u64 (M:Int))]) (fun p5=>[(3,vJ x),(5,pT (p1 0).N 0),(8,pT (p1 1).N 0),(9,vJ 0),(10,.int .u64 (M:Int)),(13,.int .u8 3)]) (fun p5=>?_) (fun p5 W5 T hF hK=>?_)
 ·iterate 2 refine af ?_
  refine bB (hor) ?_;refine af ?_;exact ae
 obtain ⟨hS,hG⟩:=ag.fg hS hF;clear hF;refine wg hS hG hK (fun p6=>[.v 23 (vJ x),.v 24 (pT (p1 0).N 1),.l 25 (vJ ex) 0 1,.v 26 (vJ (ex-1)),.v 27 (vJ xe),.v 3 (vJ xe)]) (fun p6=>[(3,vJ xe),(5,pT (p1 0).N 0),(8,pT (p1 1).N 0),(9,vJ 0),(10,.int .u64 (M:Int)),(13,.int .u8 3)]) (fun p6=>?_) (fun p6 W6 T hF hK=>?_)
 ·iterate 2 refine af ?_
  refine aj ?_;refine bB (dQ (x:=ex-1) (by omega) (by omega)) ?_;refine bB ((dQ (x:=x+(ex-1)) (by omega) (by omega)).trans hxe) ?_;refine af ?_;exact ae
 obtain ⟨hS,hG⟩:=ag.fg hS hF;clear hF;have z6:=hS.fr.size;refine mG (aB ?_);refine wg hS hG hK (fun p7=>[.v 29 (pT (p1 0).N 0),.l 30 (.bool s) 0 0,.v 31 (.int .u64 (M:Int)),.c (some 32) (cN W6.heap.size M),.v 33 (vJ xe),.c (some 34) (cG W6.heap.size (M/2^z) fun x9=>.tuple #[.agg #[.bool s,x9,vJ (xe+(z:Int))],vJ 0]),.v 28 (.tuple #[.agg #[.bool s,sJ (p7 5),vJ (xe+(z:Int))],vJ 0]),.v 35 (.agg #[.bool s,sJ (p7 5),vJ (xe+(z:Int))]),.v 36 (vJ 0),.p 1 0 [.bool s,sJ (p7 5),vJ (xe+(z:Int))],.v 9 (vJ 0)]) (fun p7=>[(8,pT (p1 1).N 0),(9,vJ 0),(13,.int .u8 3)]) (fun p7=>?_) (fun p7 W7 T hF hK=>?_)
 ·refine af ?_;refine aj ?_;refine af ?_;refine av (fun W cx=>aT cx.hb (dD M _ hM64)) ?_;refine af ?_;refine av (fun W cx=>fQ cx.hb (j4 s _ _ _ M z xe _ (Mine.num (cx.F 3 (by kernel_rfl))) hM0 (hT.kept cx.fr) hz hz2 (Mine.room (cx.F 3 (by kernel_rfl))).1 (Mine.room (cx.F 3 (by kernel_rfl))).2 hb1)) ?_;iterate 3 refine af ?_
  refine aF ?_;refine af ?_;exact ae
 replace hS:=ag.fc hS hF [1] [⟨(p1 1).N,#[.bool s,sJ (p7 5),vJ (xe+(z:Int))],58,true⟩];replace hG:au (gM W6.heap.size (p7 3).A (p7 3).N (p7 3).C M::gM W6.heap.size (p7 5).A (p7 5).N (p7 5).C (M/2^z)::_) W7:=⟨hF.fx 3,hF.fx 5,hF.gx⟩;clear hF;refine mG (aB (wp_seq ?_));refine wq hS hG hK (fun p8=>[.l 37 (.agg #[.bool s,sJ (p7 5),vJ (xe+(z:Int))]) 0 0,.v 38 (vJ 0),.p 0 0 [.bool s,sJ (p7 5),vJ (xe+(z:Int))],.v 9 (vJ 0)]) (fun p8=>[(8,pT (p1 1).N 0),(9,vJ 0),(13,.int .u8 3)]) (fun p8=>?_) (fun p8 W8 T hF hK=>?_)
 ·refine aj ?_;refine af ?_;refine aF ?_;refine af ?_;exact ae
 obtain ⟨hS,hG⟩:=ag.fg hS hF;clear hF;refine wp_ret ?_;refine bz ?_;refine mD ?_;refine bz ?_;exact aA hS hK (.tuple #[.agg #[.bool s,.slice (p7 5).A (p7 5).N (p7 5).C,.int .i64 (xe+(z:Int))],.int .i64 0]) [(0,0,3)] [.bool s,.slice (p7 5).A (p7 5).N (p7 5).C,.int .i64 (xe+(z:Int))] (by kernel_rfl) (by kernel_rfl) ⟨⟨_,_,_,rfl,Mine.mono hG.2.1 z6⟩,hS.fr⟩
theorem uy(s:Bool)(ex:Int)(fr hid:Nat)(x:Int)(M z:Nat)(xe:Int)(w:World)(hM0:0<M)(hM64:M<18446744073709551616)(hT:Tb w)(hz:Tz M z)(hz2:z<524288)(hb1:-1073741824≤xe+z∧xe+z≤1073741824)(hfr:fr=M)(hxe:x=xe) :
  Calls Tryz.prog 96 #[.int .u8 2,.agg #[.bool s,.int .i64 ex,.int .u64 fr],.int .u64 hid,.int .i64 x] w fun e w'=>(∃A N C,e = .returned (.tuple #[.agg #[.bool s,.slice A N C,.int .i64 (xe+(z:Int))],.int .i64 0])∧Mine w' w.heap.size A N C (M/2^z))∧Below w.heap.size w w':=by
 subst hfr;subst hxe;refine ax Tryz.func96 rfl (by kernel_rfl) fun T hK=>?_;replace hK:Kn T _ [(0,.int .u8 2),(1,.agg #[.bool s,.int .i64 ex,.int .u64 (fr:Int)]),(2,.int .u64 (hid:Int)),(3,.int .i64 x)]:=hK;have hS:=Fb.begin w;have hG:au [] w:=trivial;refine wq hS hG hK (fun p1=>[.n 5 #[.bool s,vJ ex,.int .u64 (fr:Int)] 35,.n 8 #[.bool false,nJ,vJ 0] 58,.v 9 (vJ 0)]) (fun p1=>[(0,.int .u8 2),(2,.int .u64 (hid:Int)),(3,vJ x),(5,pT (p1 0).N 0),(8,pT (p1 1).N 0),(9,vJ 0)]) (fun p1=>?_) (fun p1 W1 T hF hK=>?_)
 ·iterate 2 refine aI ?_
  refine af ?_;exact ae
 replace hS:=ag.fc hS hF [1000,1001] [⟨(p1 0).N,#[.bool s,vJ ex,.int .u64 (fr:Int)],35,true⟩,⟨(p1 1).N,#[.bool false,nJ,vJ 0],58,true⟩];replace hG:=hF.gx;clear hF;refine wq hS hG hK (fun p2=>[.v 11 (pT (p1 0).N 2),.l 12 (.int .u64 (fr:Int)) 0 2,.v 10 (.int .u64 (fr:Int))]) (fun p2=>[(0,.int .u8 2),(2,.int .u64 (hid:Int)),(3,vJ x),(5,pT (p1 0).N 0),(8,pT (p1 1).N 0),(9,vJ 0),(10,.int .u64 (fr:Int))]) (fun p2=>?_) (fun p2 W2 T hF hK=>?_)
 ·refine af ?_;refine aj ?_;refine af ?_;exact ae
 obtain ⟨hS,hG⟩:=ag.fg hS hF;clear hF;refine wp_seq ?_;refine wq hS hG hK (fun p3=>[.v 13 (.int .u8 2)]) (fun p3=>[(2,.int .u64 (hid:Int)),(3,vJ x),(5,pT (p1 0).N 0),(8,pT (p1 1).N 0),(9,vJ 0),(10,.int .u64 (fr:Int)),(13,.int .u8 2)]) (fun p3=>?_) (fun p3 W3 T hF hK=>?_)
 ·refine af ?_;exact ae
 obtain ⟨hS,hG⟩:=ag.fg hS hF;clear hF;refine wp_block (wp_seq ?_);refine wp_block (wp_seq ?_);refine wp_block (wp_seq ?_);refine wp_block (wp_seq (wp_seq ?_));refine wq hS hG hK (fun p4=>[.v 15 (.bool false),.v 14 (.bool false)]) (fun p4=>[(2,.int .u64 (hid:Int)),(3,vJ x),(5,pT (p1 0).N 0),(8,pT (p1 1).N 0),(9,vJ 0),(10,.int .u64 (fr:Int)),(13,.int .u8 2),(14,.bool false)]) (fun p4=>?_) (fun p4 W4 T hF hK=>?_)
 ·iterate 2 refine af ?_
  exact ae
 obtain ⟨hS,hG⟩:=ag.fg hS hF;clear hF;refine wp_cond_false (hK.ew 14) (wp_skip ?_);refine aB (wp_seq ?_);refine wq hS hG hK (fun p5=>[.v 17 (.bool true),.v 16 (.bool true)]) (fun p5=>[(2,.int .u64 (hid:Int)),(3,vJ x),(5,pT (p1 0).N 0),(8,pT (p1 1).N 0),(9,vJ 0),(10,.int .u64 (fr:Int)),(13,.int .u8 2),(16,.bool true)]) (fun p5=>?_) (fun p5 W5 T hF hK=>?_)
 ·iterate 2 refine af ?_
  exact ae
 obtain ⟨hS,hG⟩:=ag.fg hS hF;clear hF;have z5:=hS.fr.size;refine wp_cond_true (hK.ew 16) (wp_exit ?_);refine jC (jC ?_);refine IA (by decide) ?_;refine jC (xD (aB ?_));refine wg hS hG hK (fun p6=>[.v 29 (pT (p1 0).N 0),.l 30 (.bool s) 0 0,.v 31 (.int .u64 (fr:Int)),.c (some 32) (cN W5.heap.size fr),.v 33 (vJ x),.c (some 34) (cG W5.heap.size (fr/2^z) fun x9=>.tuple #[.agg #[.bool s,x9,vJ (x+(z:Int))],vJ 0]),.v 28 (.tuple #[.agg #[.bool s,sJ (p6 5),vJ (x+(z:Int))],vJ 0]),.v 35 (.agg #[.bool s,sJ (p6 5),vJ (x+(z:Int))]),.v 36 (vJ 0),.p 1 0 [.bool s,sJ (p6 5),vJ (x+(z:Int))],.v 9 (vJ 0)]) (fun p6=>[(2,.int .u64 (hid:Int)),(3,vJ x),(5,pT (p1 0).N 0),(8,pT (p1 1).N 0),(9,vJ 0),(10,.int .u64 (fr:Int)),(13,.int .u8 2)]) (fun p6=>?_) (fun p6 W6 T hF hK=>?_)
 ·refine af ?_;refine aj ?_;refine af ?_;refine av (fun W cx=>aT cx.hb (dD fr _ hM64)) ?_;refine af ?_;refine av (fun W cx=>fQ cx.hb (j4 s _ _ _ fr z x _ (Mine.num (cx.F 3 (by kernel_rfl))) hM0 (hT.kept cx.fr) hz hz2 (Mine.room (cx.F 3 (by kernel_rfl))).1 (Mine.room (cx.F 3 (by kernel_rfl))).2 hb1)) ?_;iterate 3 refine af ?_
  refine aF ?_;refine af ?_;exact ae
 replace hS:=ag.fc hS hF [0,1] [⟨(p1 0).N,#[.bool s,vJ ex,.int .u64 (fr:Int)],35,true⟩,⟨(p1 1).N,#[.bool s,sJ (p6 5),vJ (x+(z:Int))],58,true⟩];replace hG:au (gM W5.heap.size (p6 3).A (p6 3).N (p6 3).C fr::gM W5.heap.size (p6 5).A (p6 5).N (p6 5).C (fr/2^z)::_) W6:=⟨hF.fx 3,hF.fx 5,hF.gx⟩;clear hF;refine mG (aB (wp_seq ?_));refine wq hS hG hK (fun p7=>[.l 37 (.agg #[.bool s,sJ (p6 5),vJ (x+(z:Int))]) 1 0,.v 38 (vJ 0),.p 1 0 [.bool s,sJ (p6 5),vJ (x+(z:Int))],.v 9 (vJ 0)]) (fun p7=>[(2,.int .u64 (hid:Int)),(3,vJ x),(5,pT (p1 0).N 0),(8,pT (p1 1).N 0),(9,vJ 0),(10,.int .u64 (fr:Int)),(13,.int .u8 2)]) (fun p7=>?_) (fun p7 W7 T hF hK=>?_)
 ·refine aj ?_;refine af ?_;refine aF ?_;refine af ?_;exact ae
 obtain ⟨hS,hG⟩:=ag.fg hS hF;clear hF;refine wp_ret ?_;refine bz ?_;refine mD ?_;refine bz ?_;exact aA hS hK (.tuple #[.agg #[.bool s,.slice (p6 5).A (p6 5).N (p6 5).C,.int .i64 (x+(z:Int))],.int .i64 0]) [(1,0,3)] [.bool s,.slice (p6 5).A (p6 5).N (p6 5).C,.int .i64 (x+(z:Int))] (by kernel_rfl) (by kernel_rfl) ⟨⟨_,_,_,rfl,Mine.mono hG.2.1 z5⟩,hS.fr⟩
end Go.Proofs.YtaidedkpfnidpaaGreatDoor
