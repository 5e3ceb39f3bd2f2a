/- Of what RatioOrderRow stands on: RBits Rc8Ord Rc8Leaf RField. -/
import Derived.Test.YtfhmbnnlcjdblaaGreatPay
import Derived.Test.YtfhmbnnlcjdblaaGreatPbb
import Derived.Test.YtfhmbnnlcjdblaaGreatPas
namespace Go.Proofs.YtfhmbnnlcjdblaaGreat
open Go.RowKit
set_option maxHeartbeats 16000000
set_option maxRecDepth 20000
def Bd (k:Nat) (x:Rat):Prop:=x.num.natAbs < 2 ^ k∧x.den < 2 ^ k
theorem bd_mk {n:Int} {d k:Nat} (hn:n.natAbs < 2 ^ k) (hd:d < 2 ^ k) (h0:d≠0):Bd k (mkRat n d):=by
 constructor
 ·rw [Rat.num_mkRat,if_neg h0]
  exact Nat.lt_of_le_of_lt (Int.natAbs_ediv_le_natAbs _ _) hn
 ·rw [Rat.den_mkRat,if_neg h0]
  exact Nat.lt_of_le_of_lt (Nat.div_le_self _ _) hd
theorem Bd.mono {j k:Nat} {x:Rat} (h:Bd j x) (hk:j≤k):Bd k x:=⟨Nat.lt_of_lt_of_le h.1 (Nat.pow_le_pow_right (by decide) hk),Nat.lt_of_lt_of_le h.2 (Nat.pow_le_pow_right (by decide) hk)⟩
theorem mul_bits {a b j k:Nat} (ha:a < 2 ^ j) (hb:b < 2 ^ k):a * b < 2 ^ (j+k):=by
 rw [Nat.pow_add]
 exact Nat.mul_lt_mul_of_lt_of_le ha (Nat.le_of_lt hb) (Nat.pow_pos (by decide))
theorem Bd.add {j k:Nat} {x y:Rat} (h:Bd j x) (h':Bd k y):Bd (j+k+1) (x+y):=by
 rw [Rat.add_def']
 have e1:x.num.natAbs * y.den < 2 ^ (j+k):=mul_bits h.1 h'.2
 have e2:y.num.natAbs * x.den < 2 ^ (j+k):=by rw [Nat.add_comm]; exact mul_bits h'.1 h.2
 have e3:(x.num * y.den+y.num * x.den).natAbs≤x.num.natAbs * y.den+y.num.natAbs * x.den:=by
  have:=Int.natAbs_add_le (x.num * y.den) (y.num * x.den)
  rw [Int.natAbs_mul,Int.natAbs_mul,Int.natAbs_natCast,Int.natAbs_natCast] at this
  exact this
 have e4:2 ^ (j+k+1) = 2 ^ (j+k) * 2:=Nat.pow_succ ..
 refine bd_mk (by omega) ?_ ?_
 ·have:=mul_bits h.2 h'.2
  omega
 ·have:=Nat.mul_pos x.den_pos y.den_pos
  omega
theorem Bd.neg {k:Nat} {x:Rat} (h:Bd k x):Bd k (-x):=⟨by rw [Rat.neg_num,Int.natAbs_neg]; exact h.1,h.2⟩
theorem Bd.sub {j k:Nat} {x y:Rat} (h:Bd j x) (h':Bd k y):Bd (j+k+1) (x - y):=by rw [Rat.sub_eq_add_neg]; exact h.add h'.neg
theorem Bd.ok {k:Nat} {x:Rat} (h:Bd k x) (hk:k≤1000):¬ Over x.num.natAbs∧¬ Over x.den:=by
 have h1:2 ^ k≤4294967296 ^ Pl.top:=by
  rw [pow32]; exact Nat.pow_le_pow_right (by decide) (by rw [Pl.top_eq]; omega)
 exact ⟨fun o=>by have:=o.le; have:=h.1; omega,fun o=>by have:=o.le; have:=h.2; omega⟩
structure Fe where
 (s:Bool) (a:Option Addr) (n:Nat) (a':Option Addr) (n':Nat) (x:Rat)
def Fl (W:World) (l:List Fe):Prop:=∀ e,e∈l→Fq W e.s e.a e.n e.a' e.n' e.x
theorem Fl.kept {w w':World} {l:List Fe} (h:Fl w l) (hb:Below w.heap.size w w'):Fl w' l:=fun e he=>(h e he).kept hb
theorem Fl.cons {w:World} {l:List Fe} {s:Bool} {a a':Option Addr} {n n':Nat} {x:Rat} (h:Fl w l) (hq:Fq w s a n a' n' x):Fl w (⟨s,a,n,a',n',x⟩ :: l):=fun e he=>by
 rcases List.mem_cons.1 he with rfl|he
 ·exact hq
 ·exact h e he
theorem Fl.nil (w:World):Fl w []:=fun _ h=>nomatch h
def rawRat (s:Bool) (xs ys:List Nat):Rat:=if Pl.val (ys.take 5) = 0 then mkRat (Rm.sgn s (Pl.val (xs.take 5))) 1 else mkRat (Rm.sgn s (Pl.val (xs.take 5))) (Pl.val (ys.take 5))
theorem SArg.wf {W:World} {a:Option Addr} {n cap:Nat} {xs:List Nat} (h:SArg W a n cap xs):Pl.Wf xs:=by
 rcases h with ⟨_,_,_,rfl⟩|⟨_,_,_,_,_,_,h⟩
 ·exact Pl.wf_nil
 ·exact h
theorem raw_bd {s:Bool} {xs ys:List Nat} (hx:Pl.Wf xs) (hy:Pl.Wf ys):Bd 160 (rawRat s xs ys):=by
 have h1:=five_lt xs hx
 have h2:=five_lt ys hy
 have e:4294967296 ^ 5 = 2 ^ 160:=by decide
 rw [e] at h1 h2
 unfold rawRat
 split
 ·exact bd_mk (by rw [Rm.sgn_abs]; exact h1) (Nat.one_lt_two_pow (by omega)) (by omega)
 ·rename_i h; exact bd_mk (by rw [Rm.sgn_abs]; exact h1) h2 h
theorem made_any (s:Bool) (a1 a2:Option Addr) (n1 n2 c1 c2:Nat) (xs ys:List Nat) (w:World) (h1:SArg w a1 n1 c1 xs) (h2:SArg w a2 n2 c2 ys) :
  Calls Tryz.prog 5 #[.agg #[.bool s,.slice a1 n1 c1,.slice a2 n2 c2]] w fun en w'=>MadeOk w' en (rawRat s xs ys)∧Below w.heap.size w w':=by
 obtain ⟨o1,o2⟩:=(raw_bd (s:=s) h1.wf h2.wf).ok (by omega)
 by_cases h:Pl.val (ys.take 5) = 0
 ·exact made_none s a1 a2 n1 n2 c1 c2 xs ys _ w h1 h2 h (by rw [rawRat,if_pos h]) o1 o2
 ·exact made_some s a1 a2 n1 n2 c1 c2 xs ys _ w h1 h2 h (by rw [rawRat,if_neg h]) o1 o2
structure Ord8S where
 (b0 b1 b2 b3 b4 b5 b6 b7 b8:Bool)
 (v0 v1 v2 v3 v4 v5 v6 v8:Value)
 (A1:Option Addr)
 (N1 C1:Nat)
 (P1:Option Addr) (Q1 R1:Nat)
 (A2:Option Addr)
 (N2 C2:Nat)
 (P2:Option Addr) (Q2 R2:Nat)
 bs9:List En
 os9:Os
structure Ord8R (w:World) (ss1 ss2:Bool) (pp1 qq1 pp2 qq2:Option Addr) (ii1 jj1 uu1 vv1 ii2 jj2 uu2 vv2:Nat) (sa sv sd sf sl sh:Bool) (na da nv dv nd dd nl dl nh dh:Nat) (c:Int) (Aa:Option Addr) (Na Ca:Nat) (Da:Option Addr) (Ma Ea:Nat) (w2:World) (Av:Option Addr) (Nv Cv:Nat) (Dv:Option Addr) (Mv Ev:Nat) (w3:World) (Ad:Option Addr) (Nd Cd:Nat) (Dd:Option Addr) (Md Ed:Nat) (w5:World) (Af:Option Addr) (Nf Cf:Nat) (w6:World) (Al:Option Addr) (Nl Cl:Nat) (Dl:Option Addr) (Ml El:Nat) (w7:World) (S9:Nat) (b0 b1 b2 b3 b4 b5 b6 b7 b8:Bool) (v0 v1 v2 v3 v4 v5 v6 v8:Value) (A1:Option Addr) (N1 C1:Nat) (P1:Option Addr) (Q1 R1:Nat) (A2:Option Addr) (N2 C2:Nat) (P2:Option Addr) (Q2 R2:Nat) (bs9:List En) (os9:Os) (w':World):Prop where
 hc:Rc w S9 [⟨w7.heap.size,#[.bool sl,.slice Al Nl Cl,.slice Dl Ml El],29⟩,⟨w5.heap.size,#[.bool sd,.slice Ad Nd Cd,.slice Dd Md Ed],29⟩,⟨w3.heap.size,#[.bool sv,.slice Av Nv Cv,.slice Dv Mv Ev],29⟩,⟨w2.heap.size,#[.bool sa,.slice Aa Na Ca,.slice Da Ma Ea],29⟩] [(Dl,Ml,dl),(Al,Nl,nl),(Dd,Md,dd),(Ad,Nd,nd),(Dv,Mv,dv),(Av,Nv,nv),(Da,Ma,da),(Aa,Na,na)] [] none bs9 os9 w'
 f0:b0 = true→v0 = .agg #[.bool sl,.slice Al Nl Cl,.slice Dl Ml El]
 f1:b1 = true→v1 = .agg #[.bool false,.slice A1 N1 C1,.slice P1 Q1 R1]∧(A1,N1,C1,1)∈os9∧(P1,Q1,R1,1)∈os9
 f2:b2 = true→v2 = .tuple #[.agg #[.bool sh,.slice A2 N2 C2,.slice P2 Q2 R2],.int .i64 0]∧(A2,N2,C2,nh)∈os9∧(P2,Q2,R2,dh)∈os9
 f3:b3 = true→v3 = .tuple #[.agg #[.bool sh,.slice A2 N2 C2,.slice P2 Q2 R2],.int .i64 0]
 f4:b4 = true→v4 = .agg #[.bool sh,.slice A2 N2 C2,.slice P2 Q2 R2]
 f5:b5 = true→v5 = .int .i64 0
 f6:b6 = true→AlN bs9 S9 v6 29 3
 f7:b7 = true→StN bs9 S9 v6 #[.bool sh,.slice A2 N2 C2,.slice P2 Q2 R2] 29
 f8:b8 = true→v8 = .int .i64 0
 g2_1:b2 = true→b1 = true
 g3_2:b3 = true→b2 = true
 g3_1:b3 = true→b1 = true
 g4_2:b4 = true→b2 = true
 g4_1:b4 = true→b1 = true
 g5_2:b5 = true→b2 = true
 g5_1:b5 = true→b1 = true
 g7_6:b7 = true→b6 = true
 g7_4:b7 = true→b4 = true
 g7_2:b7 = true→b2 = true
 g7_1:b7 = true→b1 = true
 g8_2:b8 = true→b2 = true
 g8_1:b8 = true→b1 = true
def Ord8I (w:World) (ss1 ss2:Bool) (pp1 qq1 pp2 qq2:Option Addr) (ii1 jj1 uu1 vv1 ii2 jj2 uu2 vv2:Nat) (sa sv sd sf sl sh:Bool) (na da nv dv nd dd nl dl nh dh:Nat) (c:Int) (Aa:Option Addr) (Na Ca:Nat) (Da:Option Addr) (Ma Ea:Nat) (w2:World) (Av:Option Addr) (Nv Cv:Nat) (Dv:Option Addr) (Mv Ev:Nat) (w3:World) (Ad:Option Addr) (Nd Cd:Nat) (Dd:Option Addr) (Md Ed:Nat) (w5:World) (Af:Option Addr) (Nf Cf:Nat) (w6:World) (Al:Option Addr) (Nl Cl:Nat) (Dl:Option Addr) (Ml El:Nat) (w7:World) (S9:Nat) (l:Array Bool) (act:Act) (w':World):Ord8S→Prop
 | ⟨b0,b1,b2,b3,b4,b5,b6,b7,b8,v0,v1,v2,v3,v4,v5,v6,v8,A1,N1,C1,P1,Q1,R1,A2,N2,C2,P2,Q2,R2,bs9,os9⟩=>l = #[b0,b1,b2,b3,b4,b5,b6,b7,b8]∧act = { tmps:=#[.agg #[.bool ss1,.slice pp1 ii1 jj1,.slice qq1 uu1 vv1],.agg #[.bool ss2,.slice pp2 ii2 jj2,.slice qq2 uu2 vv2],.pointer (some ⟨w.heap.size,0,none⟩),.pointer (some ⟨w.heap.size+1,0,none⟩),.bool false,.bool true,.pointer (some ⟨w2.heap.size,0,none⟩),.bool true,.pointer (some ⟨w3.heap.size,0,none⟩),.bool true,.int .i64 c,.int .i64 0,.pointer (some ⟨w5.heap.size,0,none⟩),.int .i64 0,.bool sf,.pointer (some ⟨w6.heap.size,0,none⟩),.int .i64 0,.pointer (some ⟨w7.heap.size,0,none⟩),.int .i64 0,v6,v8,undef,undef,undef,undef,.bool true,.tuple #[.agg #[.bool sa,.slice Aa Na Ca,.slice Da Ma Ea],.bool true],.agg #[.bool ss1,.slice pp1 ii1 jj1,.slice qq1 uu1 vv1],.tuple #[.agg #[.bool sa,.slice Aa Na Ca,.slice Da Ma Ea],.bool true],.agg #[.bool sa,.slice Aa Na Ca,.slice Da Ma Ea],.bool true,.tuple #[.agg #[.bool sv,.slice Av Nv Cv,.slice Dv Mv Ev],.bool true],.agg #[.bool ss2,.slice pp2 ii2 jj2,.slice qq2 uu2 vv2],.tuple #[.agg #[.bool sv,.slice Av Nv Cv,.slice Dv Mv Ev],.bool true],.agg #[.bool sv,.slice Av Nv Cv,.slice Dv Mv Ev],.bool true,.bool true,.bool false,.bool false,.bool true,.bool false,.bool false,.bool false,.bool true,.bool false,.bool false,.tuple #[.int .i64 c,.int .i64 0],.agg #[.bool sa,.slice Aa Na Ca,.slice Da Ma Ea],.agg #[.bool sv,.slice Av Nv Cv,.slice Dv Mv Ev],.tuple #[.int .i64 c,.int .i64 0],.int .i64 c,.int .i64 0,.tuple #[.agg #[.bool sd,.slice Ad Nd Cd,.slice Dd Md Ed],.int .i64 0],.agg #[.bool sa,.slice Aa Na Ca,.slice Da Ma Ea],.agg #[.bool sv,.slice Av Nv Cv,.slice Dv Mv Ev],.tuple #[.agg #[.bool sd,.slice Ad Nd Cd,.slice Dd Md Ed],.int .i64 0],.agg #[.bool sd,.slice Ad Nd Cd,.slice Dd Md Ed],.int .i64 0,.tuple #[.bool sf,.agg #[.slice Af Nf Cf],.int .i64 0],.agg #[.bool sa,.slice Aa Na Ca,.slice Da Ma Ea],.tuple #[.bool sf,.agg #[.slice Af Nf Cf],.int .i64 0],.bool sf,.agg #[.slice Af Nf Cf],.int .i64 0,.tuple #[.agg #[.bool sl,.slice Al Nl Cl,.slice Dl Ml El],.int .i64 0],.bool sf,.agg #[.slice Af Nf Cf],.slice (some ⟨w6.heap.size+1,0,none⟩) 1 1,.agg #[.slice (some ⟨w6.heap.size+1,0,none⟩) 1 1],.tuple #[.agg #[.bool sl,.slice Al Nl Cl,.slice Dl Ml El],.int .i64 0],.agg #[.bool sl,.slice Al Nl Cl,.slice Dl Ml El],.int .i64 0,v3,v0,v1,v2,v4,v5,undef,undef,undef,undef,undef,undef,undef,undef,undef,undef,undef,undef,undef,undef,undef,undef,undef,undef,undef,undef,undef,undef,undef,undef,undef,undef,undef,undef,undef,undef,undef,undef,undef,undef,undef,undef,undef,undef,undef,undef,undef,undef,undef,undef,undef,undef,undef,undef,undef,undef,undef,undef,undef,undef,undef,undef,undef,undef],defers:=[] }∧Ord8R w ss1 ss2 pp1 qq1 pp2 qq2 ii1 jj1 uu1 vv1 ii2 jj2 uu2 vv2 sa sv sd sf sl sh na da nv dv nd dd nl dl nh dh c Aa Na Ca Da Ma Ea w2 Av Nv Cv Dv Mv Ev w3 Ad Nd Cd Dd Md Ed w5 Af Nf Cf w6 Al Nl Cl Dl Ml El w7 S9 b0 b1 b2 b3 b4 b5 b6 b7 b8 v0 v1 v2 v3 v4 v5 v6 v8 A1 N1 C1 P1 Q1 R1 A2 N2 C2 P2 Q2 R2 bs9 os9 w'
theorem order_walk (w:World) (ss1 ss2:Bool) (pp1 qq1 pp2 qq2:Option Addr) (ii1 jj1 uu1 vv1 ii2 jj2 uu2 vv2:Nat) (sa sv sd sf sl sh:Bool) (na da nv dv nd dd nf nl dl nh dh:Nat) (c p:Int) (hc:Hid (c = -1∨c = 0∨c = 1)) (hp:Hid (p = -1∨p = 0)) (H1:Hid (∀ W:World,Below w.heap.size w W→Calls Tryz.prog 5 #[.agg #[.bool ss1,.slice pp1 ii1 jj1,.slice qq1 uu1 vv1]] W fun e w'=>(∃ A N C A' N' C',e = .returned (.tuple #[.agg #[.bool sa,.slice A N C,.slice A' N' C'],.bool true])∧Num w' A N na∧Num w' A' N' da)∧Below W.heap.size W w')) (H2:Hid (∀ W:World,Below w.heap.size w W→Calls Tryz.prog 5 #[.agg #[.bool ss2,.slice pp2 ii2 jj2,.slice qq2 uu2 vv2]] W fun e w'=>(∃ A N C A' N' C',e = .returned (.tuple #[.agg #[.bool sv,.slice A N C,.slice A' N' C'],.bool true])∧Num w' A N nv∧Num w' A' N' dv)∧Below W.heap.size W w')) (HC:Hid (∀ (W:World) (Aa:Option Addr) (Na Ca:Nat) (Da:Option Addr) (Ma Ea:Nat) (Av:Option Addr) (Nv Cv:Nat) (Dv:Option Addr) (Mv Ev:Nat),Num W Aa Na na→Num W Da Ma da→Num W Av Nv nv→Num W Dv Mv dv→Calls Tryz.prog 6 #[.agg #[.bool sa,.slice Aa Na Ca,.slice Da Ma Ea],.agg #[.bool sv,.slice Av Nv Cv,.slice Dv Mv Ev]] W fun e w'=>e = .returned (.tuple #[.int .i64 c,.int .i64 0])∧Below W.heap.size W w')) (HS:Hid (∀ (W:World) (Aa:Option Addr) (Na Ca:Nat) (Da:Option Addr) (Ma Ea:Nat) (Av:Option Addr) (Nv Cv:Nat) (Dv:Option Addr) (Mv Ev:Nat),Num W Aa Na na→Num W Da Ma da→Num W Av Nv nv→Num W Dv Mv dv→Calls Tryz.prog 7 #[.agg #[.bool sa,.slice Aa Na Ca,.slice Da Ma Ea],.agg #[.bool sv,.slice Av Nv Cv,.slice Dv Mv Ev]] W fun e w'=>(∃ A N C A' N' C',e = .returned (.tuple #[.agg #[.bool sd,.slice A N C,.slice A' N' C'],.int .i64 0])∧Num w' A N nd∧Num w' A' N' dd)∧Below W.heap.size W w')) (HF:Hid (∀ (W:World) (Aa:Option Addr) (Na Ca:Nat) (Da:Option Addr) (Ma Ea:Nat),Num W Aa Na na→Num W Da Ma da→Calls Tryz.prog 8 #[.agg #[.bool sa,.slice Aa Na Ca,.slice Da Ma Ea]] W fun e w'=>(∃ A N C,e = .returned (.tuple #[.bool sf,.agg #[.slice A N C],.int .i64 0])∧Num w' A N nf)∧Below W.heap.size W w')) (HK:Hid (∀ (W:World) (A:Option Addr) (N C:Nat) (A':Option Addr) (N' C':Nat),Num W A N nf→Num W A' N' 1→Calls Tryz.prog 9 #[.bool sf,.agg #[.slice A N C],.agg #[.slice A' N' C']] W fun e w'=>(∃ A N C A' N' C',e = .returned (.tuple #[.agg #[.bool sl,.slice A N C,.slice A' N' C'],.int .i64 0])∧Num w' A N nl∧Num w' A' N' dl)∧Below W.heap.size W w')) (HW:Hid (∀ W:World,Calls Tryz.prog 11 #[.int .i64 1] W fun e w'=>(∃ A N C A' N' C',e = .returned (.agg #[.bool false,.slice A N C,.slice A' N' C'])∧Mine w' W.heap.size A N C 1∧Mine w' W.heap.size A' N' C' 1)∧Below W.heap.size W w')) (HA:Hid (∀ (W:World) (Al:Option Addr) (Nl Cl:Nat) (Dl:Option Addr) (Ml El:Nat) (A:Option Addr) (N C:Nat) (A':Option Addr) (N' C':Nat),Num W Al Nl nl→Num W Dl Ml dl→Num W A N 1→Num W A' N' 1→Calls Tryz.prog 10 #[.agg #[.bool sl,.slice Al Nl Cl,.slice Dl Ml El],.agg #[.bool false,.slice A N C,.slice A' N' C']] W fun e w'=>(∃ A N C A' N' C',e = .returned (.tuple #[.agg #[.bool sh,.slice A N C,.slice A' N' C'],.int .i64 0])∧Mine w' W.heap.size A N C nh∧Mine w' W.heap.size A' N' C' dh)∧Below W.heap.size W w')) (HP:Hid (∀ (W:World) (Al:Option Addr) (Nl Cl:Nat) (Dl:Option Addr) (Ml El:Nat) (Aa:Option Addr) (Na Ca:Nat) (Da:Option Addr) (Ma Ea:Nat),Num W Al Nl nl→Num W Dl Ml dl→Num W Aa Na na→Num W Da Ma da→Calls Tryz.prog 6 #[.agg #[.bool sl,.slice Al Nl Cl,.slice Dl Ml El],.agg #[.bool sa,.slice Aa Na Ca,.slice Da Ma Ea]] W fun e w'=>e = .returned (.tuple #[.int .i64 p,.int .i64 0])∧Below W.heap.size W w')) (HQ:Hid (∀ (W:World) (Aa:Option Addr) (Na Ca:Nat) (Da:Option Addr) (Ma Ea:Nat) (Ah:Option Addr) (Nh Ch:Nat) (Dh:Option Addr) (Mh Eh:Nat),Num W Aa Na na→Num W Da Ma da→Num W Ah Nh nh→Num W Dh Mh dh→Calls Tryz.prog 6 #[.agg #[.bool sa,.slice Aa Na Ca,.slice Da Ma Ea],.agg #[.bool sh,.slice Ah Nh Ch,.slice Dh Mh Eh]] W fun e w'=>e = .returned (.tuple #[.int .i64 (-1),.int .i64 0])∧Below W.heap.size W w')) (HG:Hid (∀ (W:World) (Ad:Option Addr) (Nd Cd:Nat) (Dd:Option Addr) (Md Ed:Nat),Num W Ad Nd nd→Num W Dd Md dd→Calls Tryz.prog 12 #[.agg #[.bool sd,.slice Ad Nd Cd,.slice Dd Md Ed]] W fun e w'=>e = .returned (.int .i64 c)∧Below W.heap.size W w')) (HE:Hid (∀ (W:World) (Aa:Option Addr) (Na Ca:Nat) (Da:Option Addr) (Ma Ea:Nat) (Av:Option Addr) (Nv Cv:Nat) (Dv:Option Addr) (Mv Ev:Nat),Num W Aa Na na→Num W Da Ma da→Num W Av Nv nv→Num W Dv Mv dv→Calls Tryz.prog 13 #[.agg #[.bool sa,.slice Aa Na Ca,.slice Da Ma Ea],.agg #[.bool sv,.slice Av Nv Cv,.slice Dv Mv Ev]] W fun e w'=>e = .returned (.bool (decide (c = 0)))∧Below W.heap.size W w')) :
  Calls Tryz.prog 3 #[.agg #[.bool ss1,.slice pp1 ii1 jj1,.slice qq1 uu1 vv1],.agg #[.bool ss2,.slice pp2 ii2 jj2,.slice qq2 uu2 vv2]] w fun e w'=>e = .returned (.bool true)∧Below w.heap.size w w':=by
 have hS:=Rs.begin w
 replace hS:=hS.alloc #[.bool ss1,.slice pp1 ii1 jj1,.slice qq1 uu1 vv1] 24
 try simp only [World.size_alloc] at hS
 replace hS:=hS.alloc #[.bool ss2,.slice pp2 ii2 jj2,.slice qq2 uu2 vv2] 24
 try simp only [World.size_alloc] at hS
 go_enter Tryz.func3,Tryz.ntmps3
 go_wp2_with fail
 refine (ralive_any _).mono ?_
 rintro en w1 ⟨rfl,hb1⟩
 have hz1:=hb1.size
 try simp only [World.size_alloc] at hz1
 replace hS:=hS.kept hb1
 clear hb1
 obtain ⟨⟨k0_0,k0_1,k0_2,-⟩,-⟩:=hS.cz ⟨w.heap.size,#[.bool ss1,.slice pp1 ii1 jj1,.slice qq1 uu1 vv1],24⟩ (by simp)
 simp only [] at k0_0 k0_1 k0_2
 go_wp2_with fail
 clear k0_0 k0_1 k0_2
 refine (unhide H1 _ hS.fr).mono ?_
 rintro en w2 ⟨⟨Aa,Na,Ca,Da,Ma,Ea,rfl,ga,ga'⟩,hb2⟩
 have hz2:=hb2.size
 try simp only [World.size_alloc] at hz2
 replace hS:=((hS.kept hb2).num ga).num ga'
 clear hb2 ga ga'
 replace hS:=hS.alloc #[.bool sa,.slice Aa Na Ca,.slice Da Ma Ea] 29
 try simp only [World.size_alloc] at hS
 obtain ⟨⟨k0_0,k0_1,k0_2,-⟩,-⟩:=hS.cz ⟨w.heap.size+1,#[.bool ss2,.slice pp2 ii2 jj2,.slice qq2 uu2 vv2],24⟩ (by simp)
 simp only [] at k0_0 k0_1 k0_2
 go_wp2_with fail
 clear k0_0 k0_1 k0_2
 refine (unhide H2 _ hS.fr).mono ?_
 rintro en w3 ⟨⟨Av,Nv,Cv,Dv,Mv,Ev,rfl,gv,gv'⟩,hb3⟩
 have hz3:=hb3.size
 try simp only [World.size_alloc] at hz3
 replace hS:=((hS.kept hb3).num gv).num gv'
 clear hb3 gv gv'
 replace hS:=hS.alloc #[.bool sv,.slice Av Nv Cv,.slice Dv Mv Ev] 29
 try simp only [World.size_alloc] at hS
 obtain ⟨⟨k0_0,k0_1,k0_2,-⟩,-⟩:=hS.cz ⟨w3.heap.size,#[.bool sv,.slice Av Nv Cv,.slice Dv Mv Ev],29⟩ (by simp)
 obtain ⟨⟨k1_0,k1_1,k1_2,-⟩,-⟩:=hS.cz ⟨w2.heap.size,#[.bool sa,.slice Aa Na Ca,.slice Da Ma Ea],29⟩ (by simp)
 simp only [] at k0_0 k0_1 k0_2 k1_0 k1_1 k1_2
 go_wp2_with fail
 clear k0_0 k0_1 k0_2 k1_0 k1_1 k1_2
 refine (unhide HC _ _ _ _ _ _ _ _ _ _ _ _ _ (hS.nm (Aa,Na,na) (by simp)) (hS.nm (Da,Ma,da) (by simp)) (hS.nm (Av,Nv,nv) (by simp)) (hS.nm (Dv,Mv,dv) (by simp))).mono ?_
 rintro en w4 ⟨rfl,hb4⟩
 have hz4:=hb4.size
 try simp only [World.size_alloc] at hz4
 replace hS:=hS.kept hb4
 clear hb4
 obtain ⟨⟨k0_0,k0_1,k0_2,-⟩,-⟩:=hS.cz ⟨w3.heap.size,#[.bool sv,.slice Av Nv Cv,.slice Dv Mv Ev],29⟩ (by simp)
 obtain ⟨⟨k1_0,k1_1,k1_2,-⟩,-⟩:=hS.cz ⟨w2.heap.size,#[.bool sa,.slice Aa Na Ca,.slice Da Ma Ea],29⟩ (by simp)
 simp only [] at k0_0 k0_1 k0_2 k1_0 k1_1 k1_2
 go_wp2_with fail
 clear k0_0 k0_1 k0_2 k1_0 k1_1 k1_2
 refine (unhide HS _ _ _ _ _ _ _ _ _ _ _ _ _ (hS.nm (Aa,Na,na) (by simp)) (hS.nm (Da,Ma,da) (by simp)) (hS.nm (Av,Nv,nv) (by simp)) (hS.nm (Dv,Mv,dv) (by simp))).mono ?_
 rintro en w5 ⟨⟨Ad,Nd,Cd,Dd,Md,Ed,rfl,gd,gd'⟩,hb5⟩
 have hz5:=hb5.size
 try simp only [World.size_alloc] at hz5
 replace hS:=((hS.kept hb5).num gd).num gd'
 clear hb5 gd gd'
 replace hS:=hS.alloc #[.bool sd,.slice Ad Nd Cd,.slice Dd Md Ed] 29
 try simp only [World.size_alloc] at hS
 obtain ⟨⟨k0_0,k0_1,k0_2,-⟩,-⟩:=hS.cz ⟨w2.heap.size,#[.bool sa,.slice Aa Na Ca,.slice Da Ma Ea],29⟩ (by simp)
 simp only [] at k0_0 k0_1 k0_2
 go_wp2_with fail
 clear k0_0 k0_1 k0_2
 refine (unhide HF _ _ _ _ _ _ _ (hS.nm (Aa,Na,na) (by simp)) (hS.nm (Da,Ma,da) (by simp))).mono ?_
 rintro en w6 ⟨⟨Af,Nf,Cf,rfl,gf⟩,hb6⟩
 have hz6:=hb6.size
 try simp only [World.size_alloc] at hz6
 replace hS:=(hS.kept hb6).num gf
 clear hb6 gf
 replace hS:=hS.alloc #[.slice Af Nf Cf] 27
 try simp only [World.size_alloc] at hS
 obtain ⟨⟨k0_0,-⟩,-⟩:=hS.cz ⟨w6.heap.size,#[.slice Af Nf Cf],27⟩ (by simp)
 simp only [] at k0_0
 go_wp2_with fail
 clear k0_0
 have hone:=one_mine w6 (.cells #[.slice Af Nf Cf] 27) w.heap.size (by have:=hS.fr.size; simp only [World.size_alloc] at this; omega)
 replace hS:=hS.kept (gr_alloc _ (.cells #[.int .u32 1] 40))
 refine (unhide HK _ _ _ _ _ _ _ (hS.nm (Af,Nf,nf) (by simp)) hone.num).mono ?_
 rintro en w7 ⟨⟨Al,Nl,Cl,Dl,Ml,El,rfl,gl,gl'⟩,hb7⟩
 have hz7:=hb7.size
 try simp only [World.size_alloc] at hz7
 replace hS:=((hS.kept hb7).num gl).num gl'
 clear hb7 gl gl'
 clear hone
 replace hS:=hS.alloc #[.bool sl,.slice Al Nl Cl,.slice Dl Ml El] 29
 try simp only [World.size_alloc] at hS
 go_wp2_with fail
 replace hS:=hS.sub (bs':=[⟨w7.heap.size,#[.bool sl,.slice Al Nl Cl,.slice Dl Ml El],29⟩,⟨w5.heap.size,#[.bool sd,.slice Ad Nd Cd,.slice Dd Md Ed],29⟩,⟨w3.heap.size,#[.bool sv,.slice Av Nv Cv,.slice Dv Mv Ev],29⟩,⟨w2.heap.size,#[.bool sa,.slice Aa Na Ca,.slice Da Ma Ea],29⟩]) (ms':=[(Dl,Ml,dl),(Al,Nl,nl),(Dd,Md,dd),(Ad,Nd,nd),(Dv,Mv,dv),(Av,Nv,nv),(Da,Ma,da),(Aa,Na,na)]) (os':=[]) (by intro x hx; rcases List.mem_cons.1 hx with rfl|hx; (simp); rcases List.mem_cons.1 hx with rfl|hx; (simp); rcases List.mem_cons.1 hx with rfl|hx; (simp); rcases List.mem_cons.1 hx with rfl|hx; (simp); exact absurd hx List.not_mem_nil) (by intro x hx; rcases List.mem_cons.1 hx with rfl|hx; (simp); rcases List.mem_cons.1 hx with rfl|hx; (simp); rcases List.mem_cons.1 hx with rfl|hx; (simp); rcases List.mem_cons.1 hx with rfl|hx; (simp); rcases List.mem_cons.1 hx with rfl|hx; (simp); rcases List.mem_cons.1 hx with rfl|hx; (simp); rcases List.mem_cons.1 hx with rfl|hx; (simp); rcases List.mem_cons.1 hx with rfl|hx; (simp); exact absurd hx List.not_mem_nil) (by intro x hx; exact absurd hx List.not_mem_nil)
 refine wp_region_any (by kernel_rfl) ?_
 change wpAny _ _ _ _ _ _ _ (World.drew _)
 have hS9:=hS.drew
 have hsW9:(World.drew (w7.alloc (.cells #[.bool sl,.slice Al Nl Cl,.slice Dl Ml El] 29))).heap.size = w7.heap.size+1:=by first|rfl|simp
 generalize World.drew (w7.alloc (.cells #[.bool sl,.slice Al Nl Cl,.slice Dl Ml El] 29)) = Wd at hS9 hsW9 ⊢
 obtain ⟨S9,hS9z⟩:∃ x,x = Wd.heap.size:=⟨_,rfl⟩
 have hC9:=Rc.start (bs:=[⟨w7.heap.size,#[.bool sl,.slice Al Nl Cl,.slice Dl Ml El],29⟩,⟨w5.heap.size,#[.bool sd,.slice Ad Nd Cd,.slice Dd Md Ed],29⟩,⟨w3.heap.size,#[.bool sv,.slice Av Nv Cv,.slice Dv Mv Ev],29⟩,⟨w2.heap.size,#[.bool sa,.slice Aa Na Ca,.slice Da Ma Ea],29⟩]) hS9 (by simp)
 rw [← hS9z] at hC9
 refine wpAny_inv (fun l act w'=>∃ σ,Ord8I w ss1 ss2 pp1 qq1 pp2 qq2 ii1 jj1 uu1 vv1 ii2 jj2 uu2 vv2 sa sv sd sf sl sh na da nv dv nd dd nl dl nh dh c Aa Na Ca Da Ma Ea w2 Av Nv Cv Dv Mv Ev w3 Ad Nd Cd Dd Md Ed w5 Af Nf Cf w6 Al Nl Cl Dl Ml El w7 S9 l act w' σ) ?_ ?_ _ _ _ _ ?_ ?_
 ·intro l act w' i9 hI9 hi9 hl9
  have hin9:i9 < 9:=by
   by_cases h:i9 < 9
   ·exact h
   ·obtain ⟨⟨⟩,rfl,_⟩:=hI9
    rw [Array.getElem?_eq_none (by simp; omega)] at hl9; cases hl9
  have hcase:i9 = 0∨i9 = 1∨i9 = 2∨i9 = 3∨i9 = 4∨i9 = 5∨i9 = 6∨i9 = 7∨i9 = 8:=by omega
  clear hin9
  obtain ⟨⟨b0,b1,b2,b3,b4,b5,b6,b7,b8,v0,v1,v2,v3,v4,v5,v6,v8,A1,N1,C1,P1,Q1,R1,A2,N2,C2,P2,Q2,R2,bs9,os9⟩,rfl,rfl,hR⟩:=hI9
  rcases hcase with rfl|rfl|rfl|rfl|rfl|rfl|rfl|rfl|rfl
  ·obtain rfl:b0 = false:=by simpa using hl9
   have hc:=hR.hc
   have c9_0:=hc.st.cellAt (hc.old ⟨w7.heap.size,#[.bool sl,.slice Al Nl Cl,.slice Dl Ml El],29⟩ (by simp)).1 0 (.bool sl) rfl
   have c9_1:=hc.st.cellAt (hc.old ⟨w7.heap.size,#[.bool sl,.slice Al Nl Cl,.slice Dl Ml El],29⟩ (by simp)).1 1 (.slice Al Nl Cl) rfl
   have c9_2:=hc.st.cellAt (hc.old ⟨w7.heap.size,#[.bool sl,.slice Al Nl Cl,.slice Dl Ml El],29⟩ (by simp)).1 2 (.slice Dl Ml El) rfl
   simp only [] at c9_0 c9_1 c9_2
   refine wpOp_step rfl fun K hK=>?_
   go_simp
   exact hK _ _ ⟨⟨_,_,_,_,_,_,_,_,_,_,_,_,_,_,_,_,_,A1,N1,C1,P1,Q1,R1,A2,N2,C2,P2,Q2,R2,_,_⟩,rfl,rfl,{ hR with hc:=hc,f0:=(fun _=>rfl) }⟩
  ·obtain rfl:b1 = false:=by simpa using hl9
   have hc:=hR.hc
   have HR:=hide hR
   clear hR
   refine wpOp_step rfl fun K hK=>?_
   go_simp
   go_wp2_with fail
   refine (W_oft2 hc.st (unhide HW _ )).mono ?_
   rintro en w9 ⟨a9,n9,c9,a8,n8,c8,rfl,hs9,hz9⟩
   have hR:=unhide HR
   exact hK _ _ ⟨⟨_,_,_,_,_,_,_,_,_,_,_,_,_,_,_,_,_,_,_,_,_,_,_,A2,N2,C2,P2,Q2,R2,_,_⟩,rfl,rfl,{ hR with hc:=(hc.call hs9 hz9 (fun y hy=>List.mem_cons_of_mem _ (List.mem_cons_of_mem _ hy))),f1:=(fun _=>⟨rfl,List.mem_cons_of_mem _ (List.mem_cons_self ..),List.mem_cons_self ..⟩),f2:=(fun h=>Bool.noConfusion (hR.g2_1 h)),f3:=(fun h=>Bool.noConfusion (hR.g3_1 h)),f4:=(fun h=>Bool.noConfusion (hR.g4_1 h)),f5:=(fun h=>Bool.noConfusion (hR.g5_1 h)),f7:=(fun h=>Bool.noConfusion (hR.g7_1 h)),f8:=(fun h=>Bool.noConfusion (hR.g8_1 h)),g2_1:=(fun _=>rfl),g3_1:=(fun _=>rfl),g4_1:=(fun _=>rfl),g5_1:=(fun _=>rfl),g7_1:=(fun _=>rfl),g8_1:=(fun _=>rfl) }⟩
  ·obtain rfl:b2 = false:=by simpa using hl9
   obtain ⟨o9,ho9,hd9⟩:=(mem_ready.1 hi9).2
   cases ho9
   have e0:b0 = true:=hd9 ⟨0,.data⟩ (by simp) rfl
   have e1:b1 = true:=hd9 ⟨1,.data⟩ (by simp) rfl
   subst e0 e1
   have h9:=hR.f0 rfl
   subst h9
   have q1:=hR.f1 rfl
   obtain ⟨h9,q1m⟩:=q1
   subst h9
   have hc:=hR.hc
   have HR:=hide hR
   clear hR
   refine wpOp_step rfl fun K hK=>?_
   go_simp
   go_wp2_with fail
   refine (W_oft2 hc.st (unhide HA _ _ _ _ _ _ _ _ _ _ _ _ _ (hc.st.nm (Al,Nl,nl) (by simp)) (hc.st.nm (Dl,Ml,dl) (by simp)) (hc.st.ow _ q1m.1).num (hc.st.ow _ q1m.2).num )).mono ?_
   rintro en w9 ⟨a9,n9,c9,a8,n8,c8,rfl,hs9,hz9⟩
   have hR:=unhide HR
   exact hK _ _ ⟨⟨_,_,_,_,_,_,_,_,_,_,_,_,_,_,_,_,_,A1,N1,C1,P1,Q1,R1,_,_,_,_,_,_,_,_⟩,rfl,rfl,{ hR with hc:=(hc.call hs9 hz9 (fun y hy=>List.mem_cons_of_mem _ (List.mem_cons_of_mem _ hy))),f1:=(fun h=>⟨(hR.f1 h).1,List.mem_cons_of_mem _ (List.mem_cons_of_mem _ (hR.f1 h).2.1),List.mem_cons_of_mem _ (List.mem_cons_of_mem _ (hR.f1 h).2.2)⟩),f2:=(fun _=>⟨rfl,List.mem_cons_of_mem _ (List.mem_cons_self ..),List.mem_cons_self ..⟩),f3:=(fun h=>Bool.noConfusion (hR.g3_2 h)),f4:=(fun h=>Bool.noConfusion (hR.g4_2 h)),f5:=(fun h=>Bool.noConfusion (hR.g5_2 h)),f7:=(fun h=>Bool.noConfusion (hR.g7_2 h)),f8:=(fun h=>Bool.noConfusion (hR.g8_2 h)),g2_1:=(fun _=>rfl),g3_2:=(fun _=>rfl),g4_2:=(fun _=>rfl),g5_2:=(fun _=>rfl),g7_2:=(fun _=>rfl),g8_2:=(fun _=>rfl) }⟩
  ·obtain rfl:b3 = false:=by simpa using hl9
   obtain ⟨o9,ho9,hd9⟩:=(mem_ready.1 hi9).2
   cases ho9
   have e2:b2 = true:=hd9 ⟨2,.data⟩ (by simp) rfl
   subst e2
   have q2:=hR.f2 rfl
   obtain ⟨h9,q2m⟩:=q2
   subst h9
   have hc:=hR.hc
   refine wpOp_step rfl fun K hK=>?_
   go_simp
   exact hK _ _ ⟨⟨_,_,_,_,_,_,_,_,_,_,_,_,_,_,_,_,_,A1,N1,C1,P1,Q1,R1,A2,N2,C2,P2,Q2,R2,_,_⟩,rfl,rfl,{ hR with hc:=hc,f3:=(fun _=>rfl),g3_2:=(fun _=>rfl),g3_1:=(fun _=>hR.g2_1 rfl) }⟩
  ·obtain rfl:b4 = false:=by simpa using hl9
   obtain ⟨o9,ho9,hd9⟩:=(mem_ready.1 hi9).2
   cases ho9
   have e3:b3 = true:=hd9 ⟨3,.data⟩ (by simp) rfl
   subst e3
   obtain rfl:b2 = true:=hR.g3_2 rfl
   have q2:=hR.f2 rfl
   obtain ⟨h9,q2m⟩:=q2
   subst h9
   obtain rfl:b1 = true:=hR.g3_1 rfl
   have q1:=hR.f1 rfl
   obtain ⟨h9,q1m⟩:=q1
   subst h9
   have h9:=hR.f3 rfl
   subst h9
   have hc:=hR.hc
   refine wpOp_step rfl fun K hK=>?_
   go_simp
   exact hK _ _ ⟨⟨_,_,_,_,_,_,_,_,_,_,_,_,_,_,_,_,_,A1,N1,C1,P1,Q1,R1,A2,N2,C2,P2,Q2,R2,_,_⟩,rfl,rfl,{ hR with hc:=hc,f4:=(fun _=>rfl),f7:=(fun h=>Bool.noConfusion (hR.g7_4 h)),g4_2:=(fun _=>rfl),g4_1:=(fun _=>rfl),g7_4:=(fun _=>rfl) }⟩
  ·obtain rfl:b5 = false:=by simpa using hl9
   obtain ⟨o9,ho9,hd9⟩:=(mem_ready.1 hi9).2
   cases ho9
   have e3:b3 = true:=hd9 ⟨3,.data⟩ (by simp) rfl
   subst e3
   obtain rfl:b2 = true:=hR.g3_2 rfl
   have q2:=hR.f2 rfl
   obtain ⟨h9,q2m⟩:=q2
   subst h9
   obtain rfl:b1 = true:=hR.g3_1 rfl
   have q1:=hR.f1 rfl
   obtain ⟨h9,q1m⟩:=q1
   subst h9
   have h9:=hR.f3 rfl
   subst h9
   have hc:=hR.hc
   refine wpOp_step rfl fun K hK=>?_
   go_simp
   exact hK _ _ ⟨⟨_,_,_,_,_,_,_,_,_,_,_,_,_,_,_,_,_,A1,N1,C1,P1,Q1,R1,A2,N2,C2,P2,Q2,R2,_,_⟩,rfl,rfl,{ hR with hc:=hc,f5:=(fun _=>rfl),g5_2:=(fun _=>rfl),g5_1:=(fun _=>rfl) }⟩
  ·obtain rfl:b6 = false:=by simpa using hl9
   have hc:=hR.hc
   refine wpOp_step rfl fun K hK=>?_
   go_simp
   exact hK _ _ ⟨⟨_,_,_,_,_,_,_,_,_,_,_,_,_,_,_,_,_,A1,N1,C1,P1,Q1,R1,A2,N2,C2,P2,Q2,R2,_,_⟩,rfl,rfl,{ hR with hc:=(hc.alloc #[.bool false,.slice none 0 0,.slice none 0 0] 29),f6:=(fun _=>AlN.self rfl hc.sz rfl),f7:=(fun h=>Bool.noConfusion (hR.g7_6 h)),g7_6:=(fun _=>rfl) }⟩
  ·obtain rfl:b7 = false:=by simpa using hl9
   obtain ⟨o9,ho9,hd9⟩:=(mem_ready.1 hi9).2
   cases ho9
   have e4:b4 = true:=hd9 ⟨4,.data⟩ (by simp) rfl
   have e6:b6 = true:=hd9 ⟨6,.data⟩ (by simp) rfl
   subst e4 e6
   obtain rfl:b2 = true:=hR.g4_2 rfl
   have q2:=hR.f2 rfl
   obtain ⟨h9,q2m⟩:=q2
   subst h9
   obtain rfl:b1 = true:=hR.g4_1 rfl
   have q1:=hR.f1 rfl
   obtain ⟨h9,q1m⟩:=q1
   subst h9
   have h9:=hR.f4 rfl
   subst h9
   have hc:=hR.hc
   obtain ⟨g9,cs9,h9,hg9,hz9,hm9⟩:=hR.f6 rfl
   subst h9
   obtain ⟨y9_0,y9_1,y9_2,rfl⟩:∃ y9_0 y9_1 y9_2,cs9 = #[y9_0,y9_1,y9_2]:=by
    match cs9,hz9 with
    | ⟨[y9_0,y9_1,y9_2]⟩,_=>exact ⟨y9_0,y9_1,y9_2,rfl⟩
   clear hz9
   have fz9_0:=hc.st.frozen hm9 0
   have cz9_0:=hc.st.cellAt hm9 0 y9_0 rfl
   simp only [] at fz9_0 cz9_0
   have fz9_1:=hc.st.frozen hm9 1
   have cz9_1:=hc.st.cellAt hm9 1 y9_1 rfl
   simp only [] at fz9_1 cz9_1
   have fz9_2:=hc.st.frozen hm9 2
   have cz9_2:=hc.st.cellAt hm9 2 y9_2 rfl
   simp only [] at fz9_2 cz9_2
   have hn9:∀ x,x∈([⟨w7.heap.size,#[.bool sl,.slice Al Nl Cl,.slice Dl Ml El],29⟩,⟨w5.heap.size,#[.bool sd,.slice Ad Nd Cd,.slice Dd Md Ed],29⟩,⟨w3.heap.size,#[.bool sv,.slice Av Nv Cv,.slice Dv Mv Ev],29⟩,⟨w2.heap.size,#[.bool sa,.slice Aa Na Ca,.slice Da Ma Ea],29⟩]:List En)→x.b≠g9:=fun x hx=>by have:=(hc.old x hx).2; omega
   refine wpOp_step rfl fun K hK=>?_
   go_simp
   exact hK _ _ ⟨⟨_,_,_,_,_,_,_,_,_,_,_,_,_,_,_,_,_,A1,N1,C1,P1,Q1,R1,A2,N2,C2,P2,Q2,R2,_,_⟩,rfl,rfl,{ hR with hc:=(((hc.store hm9 (by have:=hc.w0s; omega) hn9 0 (.bool sh) (by simp)).store (List.mem_cons_self ..) (by have:=hc.w0s; omega) hn9 1 (.slice A2 N2 C2) (by simp)).store (List.mem_cons_self ..) (by have:=hc.w0s; omega) hn9 2 (.slice P2 Q2 R2) (by simp)),f6:=(fun _=>⟨g9,_,rfl,hg9,by simp,List.mem_cons_self ..⟩),f7:=(fun _=>⟨g9,rfl,hg9,List.mem_cons_self ..⟩),g7_6:=(fun _=>rfl),g7_4:=(fun _=>rfl),g7_2:=(fun _=>rfl),g7_1:=(fun _=>rfl) }⟩
  ·obtain rfl:b8 = false:=by simpa using hl9
   obtain ⟨o9,ho9,hd9⟩:=(mem_ready.1 hi9).2
   cases ho9
   have e5:b5 = true:=hd9 ⟨5,.data⟩ (by simp) rfl
   subst e5
   obtain rfl:b2 = true:=hR.g5_2 rfl
   have q2:=hR.f2 rfl
   obtain ⟨h9,q2m⟩:=q2
   subst h9
   obtain rfl:b1 = true:=hR.g5_1 rfl
   have q1:=hR.f1 rfl
   obtain ⟨h9,q1m⟩:=q1
   subst h9
   have h9:=hR.f5 rfl
   subst h9
   have hc:=hR.hc
   refine wpOp_step rfl fun K hK=>?_
   go_simp
   exact hK _ _ ⟨⟨_,_,_,_,_,_,_,_,_,_,_,_,_,_,_,_,_,A1,N1,C1,P1,Q1,R1,A2,N2,C2,P2,Q2,R2,_,_⟩,rfl,rfl,{ hR with hc:=hc,f8:=(fun _=>rfl),g8_2:=(fun _=>rfl),g8_1:=(fun _=>rfl) }⟩
 ·rintro l act Wq8 ⟨⟨b0,b1,b2,b3,b4,b5,b6,b7,b8,v0,v1,v2,v3,v4,v5,v6,v8,x8_A1,x8_N1,x8_C1,x8_P1,x8_Q1,x8_R1,x8_A2,x8_N2,x8_C2,x8_P2,x8_Q2,x8_R2,bs9,os9⟩,rfl,rfl,hR⟩ hr9
  obtain ⟨hc,f0,f1,f2,f3,f4,f5,f6,f7,f8,g2_1,g3_2,g3_1,g4_2,g4_1,g5_2,g5_1,g7_6,g7_4,g7_2,g7_1,g8_2,g8_1⟩:=hR
  have eall:=all_done hr9 (by kernel_rfl) rfl
  obtain rfl:b0 = true:=eall 0 (by decide)
  obtain rfl:b1 = true:=eall 1 (by decide)
  obtain rfl:b2 = true:=eall 2 (by decide)
  obtain rfl:b3 = true:=eall 3 (by decide)
  obtain rfl:b4 = true:=eall 4 (by decide)
  obtain rfl:b5 = true:=eall 5 (by decide)
  obtain rfl:b6 = true:=eall 6 (by decide)
  obtain rfl:b7 = true:=eall 7 (by decide)
  obtain rfl:b8 = true:=eall 8 (by decide)
  clear hr9 eall
  have h9:=f0 rfl
  subst h9
  obtain ⟨h9,q1m,q1m2⟩:=f1 rfl
  subst h9
  obtain ⟨h9,q2m,q2m2⟩:=f2 rfl
  subst h9
  have h9:=f3 rfl
  subst h9
  have h9:=f4 rfl
  subst h9
  have h9:=f5 rfl
  subst h9
  obtain ⟨x8_g6,h9,hg6,hm6⟩:=f7 rfl
  subst h9
  have h9:=f8 rfl
  subst h9
  have hbs9:∀ x,x∈([⟨x8_g6,#[.bool sh,.slice x8_A2 x8_N2 x8_C2,.slice x8_P2 x8_Q2 x8_R2],29⟩,⟨w7.heap.size,#[.bool sl,.slice Al Nl Cl,.slice Dl Ml El],29⟩,⟨w5.heap.size,#[.bool sd,.slice Ad Nd Cd,.slice Dd Md Ed],29⟩,⟨w3.heap.size,#[.bool sv,.slice Av Nv Cv,.slice Dv Mv Ev],29⟩,⟨w2.heap.size,#[.bool sa,.slice Aa Na Ca,.slice Da Ma Ea],29⟩]:List En)→x∈bs9:=by
   intro x hx
   rcases List.mem_cons.1 hx with rfl|hx
   ·exact hm6
   rcases List.mem_cons.1 hx with rfl|hx
   ·exact (hc.old _ (by simp)).1
   rcases List.mem_cons.1 hx with rfl|hx
   ·exact (hc.old _ (by simp)).1
   rcases List.mem_cons.1 hx with rfl|hx
   ·exact (hc.old _ (by simp)).1
   rcases List.mem_cons.1 hx with rfl|hx
   ·exact (hc.old _ (by simp)).1
   exact absurd hx List.not_mem_nil
  have hos9:∀ x,x∈([(x8_A1,x8_N1,x8_C1,1),(x8_P1,x8_Q1,x8_R1,1),(x8_A2,x8_N2,x8_C2,nh),(x8_P2,x8_Q2,x8_R2,dh)]:Os)→x∈os9:=by
   intro x hx
   rcases List.mem_cons.1 hx with rfl|hx
   ·exact q1m
   rcases List.mem_cons.1 hx with rfl|hx
   ·exact q1m2
   rcases List.mem_cons.1 hx with rfl|hx
   ·exact q2m
   rcases List.mem_cons.1 hx with rfl|hx
   ·exact q2m2
   exact absurd hx List.not_mem_nil
  have hS:=hc.st.sub hbs9 (fun x hx=>hx) hos9
  have hsz9:=hc.sz
  rw [hS9z,hsW9] at hsz9
  have hlx8_g6:=hg6
  rw [hS9z,hsW9] at hlx8_g6
  have hux8_g6:=block_lt (hc.st.bx _ hm6).1
  simp only [] at hux8_g6
  clear hbs9 hos9 hc f0 f1 f2 f3 f4 f5 f6 f7 f8 g2_1 g3_2 g3_1 g4_2 g4_1 g5_2 g5_1 g7_6 g7_4 g7_2 g7_1 g8_2 g8_1
  clear q1m q1m2 q2m q2m2 hm6 hg6
  have hz8:=hsz9
  clear hsz9 hS9z hS9 hC9 hsW9
  obtain ⟨⟨k0_0,k0_1,k0_2,-⟩,-⟩:=hS.cz ⟨w7.heap.size,#[.bool sl,.slice Al Nl Cl,.slice Dl Ml El],29⟩ (by simp)
  obtain ⟨⟨k1_0,k1_1,k1_2,-⟩,-⟩:=hS.cz ⟨w2.heap.size,#[.bool sa,.slice Aa Na Ca,.slice Da Ma Ea],29⟩ (by simp)
  simp only [] at k0_0 k0_1 k0_2 k1_0 k1_1 k1_2
  go_wp2_with fail
  clear k0_0 k0_1 k0_2 k1_0 k1_1 k1_2
  refine (unhide HP _ _ _ _ _ _ _ _ _ _ _ _ _ (hS.nm (Al,Nl,nl) (by simp)) (hS.nm (Dl,Ml,dl) (by simp)) (hS.nm (Aa,Na,na) (by simp)) (hS.nm (Da,Ma,da) (by simp))).mono ?_
  rintro en w29 ⟨rfl,hb29⟩
  have hz29:=hb29.size
  try simp only [World.size_alloc] at hz29
  replace hS:=hS.kept hb29
  clear hb29
  obtain ⟨⟨k0_0,k0_1,k0_2,-⟩,-⟩:=hS.cz ⟨x8_g6,#[.bool sh,.slice x8_A2 x8_N2 x8_C2,.slice x8_P2 x8_Q2 x8_R2],29⟩ (by simp)
  obtain ⟨⟨k1_0,k1_1,k1_2,-⟩,-⟩:=hS.cz ⟨w2.heap.size,#[.bool sa,.slice Aa Na Ca,.slice Da Ma Ea],29⟩ (by simp)
  simp only [] at k0_0 k0_1 k0_2 k1_0 k1_1 k1_2
  go_wp2_with fail
  clear k0_0 k0_1 k0_2 k1_0 k1_1 k1_2
  refine (unhide HQ _ _ _ _ _ _ _ _ _ _ _ _ _ (hS.nm (Aa,Na,na) (by simp)) (hS.nm (Da,Ma,da) (by simp)) (hS.ow (x8_A2,x8_N2,x8_C2,nh) (by simp)).num (hS.ow (x8_P2,x8_Q2,x8_R2,dh) (by simp)).num).mono ?_
  rintro en w30 ⟨rfl,hb30⟩
  have hz30:=hb30.size
  try simp only [World.size_alloc] at hz30
  replace hS:=hS.kept hb30
  clear hb30
  rcases unhide hc with rfl|rfl|rfl <;> rcases unhide hp with rfl|rfl
  all_goals
   obtain ⟨⟨k0_0,k0_1,k0_2,-⟩,-⟩:=hS.cz ⟨w5.heap.size,#[.bool sd,.slice Ad Nd Cd,.slice Dd Md Ed],29⟩ (by simp)
   obtain ⟨⟨k1_0,k1_1,k1_2,-⟩,-⟩:=hS.cz ⟨w3.heap.size,#[.bool sv,.slice Av Nv Cv,.slice Dv Mv Ev],29⟩ (by simp)
   obtain ⟨⟨k2_0,k2_1,k2_2,-⟩,-⟩:=hS.cz ⟨w2.heap.size,#[.bool sa,.slice Aa Na Ca,.slice Da Ma Ea],29⟩ (by simp)
   simp only [] at k0_0 k0_1 k0_2 k1_0 k1_1 k1_2 k2_0 k2_1 k2_2
   go_wp2_with fail
   clear k0_0 k0_1 k0_2 k1_0 k1_1 k1_2 k2_0 k2_1 k2_2
   refine (unhide HG _ _ _ _ _ _ _ (hS.nm (Ad,Nd,nd) (by simp)) (hS.nm (Dd,Md,dd) (by simp))).mono ?_
   rintro en w90 ⟨rfl,hb90⟩
   replace hS:=hS.kept hb90
   clear hb90
   obtain ⟨⟨k0_0,k0_1,k0_2,-⟩,-⟩:=hS.cz ⟨w5.heap.size,#[.bool sd,.slice Ad Nd Cd,.slice Dd Md Ed],29⟩ (by simp)
   obtain ⟨⟨k1_0,k1_1,k1_2,-⟩,-⟩:=hS.cz ⟨w3.heap.size,#[.bool sv,.slice Av Nv Cv,.slice Dv Mv Ev],29⟩ (by simp)
   obtain ⟨⟨k2_0,k2_1,k2_2,-⟩,-⟩:=hS.cz ⟨w2.heap.size,#[.bool sa,.slice Aa Na Ca,.slice Da Ma Ea],29⟩ (by simp)
   simp only [] at k0_0 k0_1 k0_2 k1_0 k1_1 k1_2 k2_0 k2_1 k2_2
   go_wp2_with fail
   clear k0_0 k0_1 k0_2 k1_0 k1_1 k1_2 k2_0 k2_1 k2_2
   refine (unhide HE _ _ _ _ _ _ _ _ _ _ _ _ _ (hS.nm (Aa,Na,na) (by simp)) (hS.nm (Da,Ma,da) (by simp)) (hS.nm (Av,Nv,nv) (by simp)) (hS.nm (Dv,Mv,dv) (by simp))).mono ?_
   rintro en w91 ⟨rfl,hb91⟩
   replace hS:=hS.kept hb91
   clear hb91
   go_wp2
   go_ret
   exact ⟨rfl,hS.fr⟩
 ·simp
 ·exact ⟨⟨false,false,false,false,false,false,false,false,false,undef,undef,undef,undef,undef,undef,undef,undef,none,0,0,none,0,0,none,0,0,none,0,0,_,_⟩,rfl,rfl,⟨hC9,nb,nb,nb,nb,nb,nb,nb,nb,nb,nb,nb,nb,nb,nb,nb,nb,nb,nb,nb,nb,nb,nb⟩⟩
theorem whole_one (w:World) :
  Calls Tryz.prog 11 #[.int .i64 1] w fun e w'=>(∃ A N C A' N' C',e = .returned (.agg #[.bool false,.slice A N C,.slice A' N' C'])∧Mine w' w.heap.size A N C 1∧Mine w' w.heap.size A' N' C' 1)∧Below w.heap.size w w':=by
 have hS:=Rs.begin w
 replace hS:=hS.alloc #[.bool false,.slice none 0 0,.slice none 0 0] 29
 try simp only [World.size_alloc] at hS
 go_enter Tryz.func11,Tryz.ntmps11
 go_wp2_with fail
 refine (W_of hS 1 (by omega)).mono ?_
 clear hS; rintro en w1 ⟨yA1,yN1,yC1,rfl,hS,hz1⟩
 simp only [World.size_alloc] at hz1
 go_wp2_with fail
 refine (W_of hS 1 (by omega)).mono ?_
 clear hS; rintro en w2 ⟨yA2,yN2,yC2,rfl,hS,hz2⟩
 obtain ⟨⟨k0_0,k0_1,k0_2,-⟩,z0⟩:=hS.cz ⟨w.heap.size,#[.bool false,.slice none 0 0,.slice none 0 0],29⟩ (by simp)
 have z0_0:=z0 0
 have z0_1:=z0 1
 have z0_2:=z0 2
 clear z0
 simp only [] at k0_0 z0_0 k0_1 z0_1 k0_2 z0_2
 go_wp2
 clear k0_0 z0_0 k0_1 z0_1 k0_2 z0_2
 have u1:=hS.cellAt (x:=⟨w.heap.size,#[.bool false,.slice none 0 0,.slice none 0 0],29⟩) (by simp) 0 (.bool false) rfl
 have y1:=hS.frozen (x:=⟨w.heap.size,#[.bool false,.slice none 0 0,.slice none 0 0],29⟩) (by simp) 0
 simp only [] at u1 y1
 replace hS:=hS.put (x:=⟨w.heap.size,#[.bool false,.slice none 0 0,.slice none 0 0],29⟩) (by simp) (by simp only []; omega) 0 (.bool false) (by simp) [⟨w.heap.size,#[.bool false,.slice none 0 0,.slice none 0 0],29⟩] (by intro y hy; rcases List.mem_cons.1 hy with rfl|hy; exact Or.inl rfl; exact absurd hy List.not_mem_nil)
 have u2:=hS.cellAt (x:=⟨w.heap.size,#[.bool false,.slice none 0 0,.slice none 0 0],29⟩) (by simp) 1 (.slice none 0 0) rfl
 have y2:=hS.frozen (x:=⟨w.heap.size,#[.bool false,.slice none 0 0,.slice none 0 0],29⟩) (by simp) 1
 simp only [] at u2 y2
 replace hS:=hS.put (x:=⟨w.heap.size,#[.bool false,.slice none 0 0,.slice none 0 0],29⟩) (by simp) (by simp only []; omega) 1 (.slice yA1 yN1 yC1) (by simp) [⟨w.heap.size,#[.bool false,.slice yA1 yN1 yC1,.slice none 0 0],29⟩] (by intro y hy; rcases List.mem_cons.1 hy with rfl|hy; exact Or.inl rfl; exact absurd hy List.not_mem_nil)
 have u3:=hS.cellAt (x:=⟨w.heap.size,#[.bool false,.slice yA1 yN1 yC1,.slice none 0 0],29⟩) (by simp) 2 (.slice none 0 0) rfl
 have y3:=hS.frozen (x:=⟨w.heap.size,#[.bool false,.slice yA1 yN1 yC1,.slice none 0 0],29⟩) (by simp) 2
 simp only [] at u3 y3
 replace hS:=hS.put (x:=⟨w.heap.size,#[.bool false,.slice yA1 yN1 yC1,.slice none 0 0],29⟩) (by simp) (by simp only []; omega) 2 (.slice yA2 yN2 yC2) (by simp) [⟨w.heap.size,#[.bool false,.slice yA1 yN1 yC1,.slice yA2 yN2 yC2],29⟩] (by intro y hy; rcases List.mem_cons.1 hy with rfl|hy; exact Or.inl rfl; exact absurd hy List.not_mem_nil)
 obtain ⟨⟨k0_0,k0_1,k0_2,-⟩,-⟩:=hS.cz ⟨w.heap.size,#[.bool false,.slice yA1 yN1 yC1,.slice yA2 yN2 yC2],29⟩ (by simp)
 simp only [] at k0_0 k0_1 k0_2
 exact bodyPost_ret (v:=.agg #[.bool false,.slice yA1 yN1 yC1,.slice yA2 yN2 yC2]) (by simp [results,Tryz.results11,go_sem,k0_0,k0_1,k0_2]) rfl ⟨⟨_,_,_,_,_,_,rfl,hS.ow (yA1,yN1,yC1,1) (by simp),hS.ow (yA2,yN2,yC2,1) (by simp)⟩,hS.fr⟩
theorem lsign_0 (s:Bool) (A:Option Addr) (C:Nat) (D:Option Addr) (M E:Nat) (w:World) :
  Calls Tryz.prog 12 #[.agg #[.bool s,.slice A 0 C,.slice D M E]] w fun e w'=>e = .returned (.int .i64 0)∧Below w.heap.size w w':=by
 have hS:=(Rs.begin w).alloc #[.bool s,.slice A 0 C,.slice D M E] 29
 go_enter Tryz.func12,Tryz.ntmps12
 go_wp2
 go_ret
 exact ⟨rfl,hS.fr⟩
theorem lsign_t (N:Nat) (A:Option Addr) (C:Nat) (D:Option Addr) (M E:Nat) (w:World) :
  Calls Tryz.prog 12 #[.agg #[.bool true,.slice A (N+1) C,.slice D M E]] w fun e w'=>e = .returned (.int .i64 (-1))∧Below w.heap.size w w':=by
 have hS:=(Rs.begin w).alloc #[.bool true,.slice A (N+1) C,.slice D M E] 29
 go_enter Tryz.func12,Tryz.ntmps12
 have hN:¬ ((N+1:Nat):Int) = 0:=by omega
 go_wp2
 go_ret
 exact ⟨rfl,hS.fr⟩
theorem lsign_f (N:Nat) (A:Option Addr) (C:Nat) (D:Option Addr) (M E:Nat) (w:World) :
  Calls Tryz.prog 12 #[.agg #[.bool false,.slice A (N+1) C,.slice D M E]] w fun e w'=>e = .returned (.int .i64 1)∧Below w.heap.size w w':=by
 have hS:=(Rs.begin w).alloc #[.bool false,.slice A (N+1) C,.slice D M E] 29
 go_enter Tryz.func12,Tryz.ntmps12
 have hN:¬ ((N+1:Nat):Int) = 0:=by omega
 go_wp2
 go_ret
 exact ⟨rfl,hS.fr⟩
theorem lawSame_dec (s t:Bool) (a1 a2 a3 a4:Option Addr) (n1 n2 n3 n4 c1 c2 c3 c4:Nat) (x y:Rat) (w:World) (hx:Fq w s a1 n1 a2 n2 x) (hy:Fq w t a3 n3 a4 n4 y) :
  Calls Tryz.prog 13 #[.agg #[.bool s,.slice a1 n1 c1,.slice a2 n2 c2],.agg #[.bool t,.slice a3 n3 c3,.slice a4 n4 c4]] w fun e w'=>e = .returned (.bool (decide (x = y)))∧Below w.heap.size w w':=by
 have hS:=((Rs.begin w).alloc #[.bool s,.slice a1 n1 c1,.slice a2 n2 c2] 29).alloc #[.bool t,.slice a3 n3 c3,.slice a4 n4 c4] 29
 go_enter Tryz.func13,Tryz.ntmps13
 go_wp2_with fail
 refine (same_rat s t a1 a2 a3 a4 n1 n2 n3 n4 c1 c2 c3 c4 x y _ (hx.kept hS.fr) (hy.kept hS.fr)).mono ?_
 rintro en w1 ⟨rfl,hb⟩
 replace hS:=hS.kept hb
 go_wp2
 go_ret
 exact ⟨rfl,hS.fr⟩
end Go.Proofs.YtfhmbnnlcjdblaaGreat
