/- Of what DigitsSureRow stands on: TnRun SNat SFirst SRdA RdAny SRdB TnWhole SRdC SMono SMono2 SMono3 RsMath RsWorth SRatC RsAll. -/
import Derived.Test.YteafdlblemdclaaGreatDoorPbd
import Derived.Test.YteafdlblemdclaaGreatDoorPbk
import Derived.Test.YteafdlblemdclaaGreatDoorPbm
import Derived.Test.YteafdlblemdclaaGreatDoorPad
import Derived.Test.YteafdlblemdclaaGreatDoorPbb
import Derived.Test.YteafdlblemdclaaGreatDoorPam
import Derived.Test.YteafdlblemdclaaGreatDoorPay
import Derived.Test.YteafdlblemdclaaGreatDoorPav
import Derived.Test.YteafdlblemdclaaGreatDoorPal
import Derived.Test.YteafdlblemdclaaGreatDoorPbc
import Derived.Test.YteafdlblemdclaaGreatDoorPai
namespace Go.Proofs.YteafdlblemdclaaGreatDoor
open Go.RowKit
set_option maxHeartbeats 2000000
set_option maxRecDepth 20000
theorem runNat_0 (p k:Nat) (a:Option Addr) (n cap:Nat) (w:World) (h:Rn w p k) :
  Calls Tryz.prog 33 #[.pointer (some ⟨p,k,none⟩),.agg #[.slice a n cap],.int .i64 0] w fun e w'=>e = .returned (.agg #[.slice a n cap])∧Below w.heap.size w w':=by
 have H:=hide h
 clear h
 go_enter Tryz.func33,Tryz.ntmps33
 go_wp2_with fail
 refine (keep_0 p k _ ((unhide H).kept (Fs.two w _ _ _ _).fr)).mono ?_
 rintro e w1 ⟨rfl,hb1⟩
 have hS:=(Fs.two w _ _ _ _).kept hb1
 obtain ⟨⟨ya,-⟩,⟨yb,-⟩,-⟩:=hS.cells
 have fz0:=hS.frozen (b:=w.heap.size+1) (cs:=#[.slice none 0 0]) (t:=28) (by simp) 0
 go_wp2
 exact bodyPost_ret (v:=.agg #[.slice a n cap]) (by simp [results,Tryz.results33,go_sem,yb]) rfl ⟨rfl,(hS.fr.setCell (by simp <;> omega) _)⟩
theorem runInt_0 (p k:Nat) (c:Int) (w:World) (h:Rn w p k) :
  Calls Tryz.prog 99 #[.pointer (some ⟨p,k,none⟩),.int .i64 c,.int .i64 0] w fun e w'=>e = .returned (.int .i64 c)∧Below w.heap.size w w':=by
 have H:=hide h
 clear h
 go_enter Tryz.func99,Tryz.ntmps99
 go_wp2_with fail
 refine (keep_0 p k _ (unhide H)).mono ?_
 rintro e w1 ⟨rfl,hb1⟩
 have hS:=(Fs.begin w).kept hb1
 go_wp2
 go_ret
 exact ⟨rfl,hS.fr⟩
theorem runNats_0 (p k:Nat) (a:Option Addr) (n cap:Nat) (a':Option Addr) (n' cap':Nat) (w:World) (h:Rn w p k) :
  Calls Tryz.prog 97 #[.pointer (some ⟨p,k,none⟩),.agg #[.slice a n cap],.agg #[.slice a' n' cap'],.int .i64 0] w fun e w'=>e = .returned (.tuple #[.agg #[.slice a n cap],.agg #[.slice a' n' cap']])∧Below w.heap.size w w':=by
 have H:=hide h
 clear h
 go_enter Tryz.func97,Tryz.ntmps97
 go_wp2_with fail
 have hS:=(Fs.three w #[.slice a n cap] 28 #[.slice a' n' cap'] 28 #[.slice none 0 0] 28).alloc #[.slice none 0 0] 28
 simp only [World.size_alloc] at hS
 refine (keep_0 p k _ ((unhide H).kept hS.fr)).mono ?_
 rintro e w1 ⟨rfl,hb1⟩
 replace hS:=hS.kept hb1
 obtain ⟨⟨ya,-⟩,⟨yb,-⟩,⟨yc,-⟩,⟨yd,-⟩,-⟩:=hS.cells
 have fy0:=hS.frozen (b:=w.heap.size+2) (cs:=#[.slice none 0 0]) (t:=28) (by simp) 0
 have fz0:=hS.frozen (b:=w.heap.size+3) (cs:=#[.slice none 0 0]) (t:=28) (by simp) 0
 go_wp2
 go_region
 go_wp2
 exact bodyPost_ret (v:=.tuple #[.agg #[.slice a n cap],.agg #[.slice a' n' cap']]) (by simp [results,Tryz.results97,go_sem,ya,yd]) rfl ⟨rfl,((hS.fr.setCell (show w.heap.size≤w.heap.size+1+1 by omega) _).setCell (show w.heap.size≤w.heap.size+1+1+1 by omega) _).drew⟩
theorem tcheckF_ok (s:Bool) (a:Option Addr) (n cap:Nat) (a':Option Addr) (n' cap':Nat) (md:Nat) (hm:md≤4) (w:World) (HC:Hid (∀ W:World,Below w.heap.size w W→Calls Tryz.prog 115 #[.agg #[.bool s,.slice a n cap,.slice a' n' cap']] W fun e w'=>e = .returned (.int .i64 0)∧Below W.heap.size W w')) :
  Calls Tryz.prog 111 #[.agg #[.bool s,.slice a n cap,.slice a' n' cap'],.int .u8 (md:Int)] w fun e w'=>e = .returned (.int .i64 0)∧Below w.heap.size w w':=by
 go_enter Tryz.func111,Tryz.ntmps111
 go_wp2_with fail
 refine (unhide HC _ (Fs.one w _ _).fr).mono ?_
 rintro e w1 ⟨rfl,hb1⟩
 have hS:=(Fs.one w _ _).kept hb1
 obtain ⟨⟨ya,yb,yc,-⟩,-⟩:=hS.cells
 go_wp2_with fail
 refine (mode_ok md hm _).mono ?_
 rintro e w2 ⟨rfl,hb2⟩
 replace hS:=hS.kept hb2
 clear ya yb yc
 obtain ⟨⟨yd,ye,yf,-⟩,-⟩:=hS.cells
 clear hm
 go_wp2
 go_ret
 exact ⟨rfl,hS.fr⟩
def HBits (m i:Nat):Prop:=∀ (W:World) (A:Option Addr) (N C:Nat),Num W A N m→Calls Tryz.prog 100 #[.agg #[.slice A N C]] W fun e W'=>e = .returned (.tuple #[.int .i64 (i:Int),.int .i64 0])∧Below W.heap.size W W'
def HUp (m:Nat) (s:Int) (v:Nat):Prop:=∀ (W:World) (A:Option Addr) (N C:Nat),Num W A N m→Calls Tryz.prog 31 #[.agg #[.slice A N C],.int .i64 s] W fun en W'=>(∃ a n c,en = .returned (.tuple #[.agg #[.slice a n c],.int .i64 0])∧Mine W' W.heap.size a n c v)∧Below W.heap.size W W'
def HTwo (f:FuncId) (x y v:Nat):Prop:=∀ (W:World) (a:Option Addr) (n c:Nat) (a':Option Addr) (n' c':Nat),Num W a n x→Num W a' n' y→Calls Tryz.prog f #[.agg #[.slice a n c],.agg #[.slice a' n' c']] W fun en W'=>(∃ a n c,en = .returned (.tuple #[.agg #[.slice a n c],.int .i64 0])∧Mine W' W.heap.size a n c v)∧Below W.heap.size W W'
def HDiv (x y q r:Nat):Prop:=∀ (W:World) (a:Option Addr) (n c:Nat) (a':Option Addr) (n' c':Nat),Num W a n x→Num W a' n' y→Calls Tryz.prog 98 #[.agg #[.slice a n c],.agg #[.slice a' n' c']] W fun en W'=>(∃ a n c a' n' c',en = .returned (.tuple #[.agg #[.slice a n c],.agg #[.slice a' n' c'],.int .i64 0])∧Mine W' W.heap.size a n c q∧Mine W' W.heap.size a' n' c' r)∧Below W.heap.size W W'
theorem snought (a:Option Addr) (n cap:Nat) (w:World) (b:Bool) (h:decide (n = 0) = b):Calls Tryz.prog 138 #[.agg #[.slice a n cap]] w fun e w'=>e = .returned (.bool b)∧Below w.heap.size w w':=by
 subst h
 rcases Nat.eq_zero_or_pos n with h|h
 ·subst h; exact rnought_yes a cap w
 ·rw [decide_eq_false (by omega)]; exact rnought_no a n cap h w
theorem Num.isz {w:World} {a:Option Addr} {n m:Nat} (h:Num w a n m) (hm:m = 0):decide (n = 0) = true:=by rw [decide_eq_true_iff]; exact h.zero.2 hm
theorem Num.noz {w:World} {a:Option Addr} {n m:Nat} (h:Num w a n m) (hm:m≠0):decide (n = 0) = false:=by rw [decide_eq_false_iff_not]; exact fun e=>hm (h.zero.1 e)
def cS (B m:Nat) (g:Bool):Cf:=⟨fun q=>.tuple #[.agg #[.slice q.A q.N q.C],.bool g],fun q W=>Mine W B q.A q.N q.C m,fun _=>sta_mine _ _ _ _ _⟩
theorem as_s {P:Program} {fn:FuncId} {args:Array Value} {W:World} {B m:Nat} {g:Bool} (hb:B≤W.heap.size) (h:Calls P fn args W fun en W'=>(∃ a n c,en = .returned (.tuple #[.agg #[.slice a n c],.bool g])∧Mine W' W.heap.size a n c m)∧Below W.heap.size W W'):Calls P fn args W fun en W'=>∃ q,en = .returned ((cS B m g).f q)∧Below W.heap.size W W'∧(cS B m g).g q W':=
 h.mono fun _ _ ⟨⟨a,n,c,h1,h3⟩,h2⟩=>⟨{ pq0 with A:=a,N:=n,C:=c },h1,h2,h3.mono hb⟩
theorem sfirst_is (w:World) (p:Nat) (a1 a2 a3 a4:Option Addr) (n1 n2 n3 n4 c1 c2 c3 c4 m1 m2 m3 m4 i1 i2 i3 i4 i5 lift more t1 t2 t3 t4 t5 t6 t7 t8 t9 t10 t11:Nat) (z th:Int) (go:Bool) (ans:Nat) (hk:Rn w p 0) (h1:Num w a1 n1 m1) (h2:Num w a2 n2 m2) (h3:Num w a3 n3 m3) (h4:Num w a4 n4 m4) (hb1:i1≤524288) (hb2:i2≤524288) (hb3:i3≤524288) (hb4:i4≤524288) (hb5:i5≤1048576) (hl:max 0 ((i3:Int) - (i1:Int)) = (lift:Int)) (hth:(i5:Int)+(i2:Int) - 1 - (i3:Int) = th) (hm:max 0 (64+(i4:Int) - th) = (more:Int)) (hlb:lift≤524288) (hmb:more≤1048576) (hz1:-2147483648≤z) (hz2:z≤2147483648) (hgo:Hid ((go = true∧ans = t11)∨(go = false∧t9≠0∧ans = t11)∨(go = false∧t9 = 0∧ans = t10))) (HB1:Hid (HBits m1 i1)) (HB2:Hid (HBits m2 i2)) (HB3:Hid (HBits m3 i3)) (HB4:Hid (HBits m4 i4)) (HB5:Hid (HBits t1 i5)) (HU1:Hid (HUp m1 lift t1)) (HU2:Hid (HUp m2 more t2)) (HV1:Hid (HDiv t1 m3 t3 t4)) (HS:Hid (∀ (W:World) (a:Option Addr) (n c:Nat) (b:Option Addr) (k l:Nat) (d:Option Addr) (m e:Nat),Rn W p 0→Num W a n t4→Num W b k t2→Num W d m m3→Calls Tryz.prog 164 #[.pointer (some ⟨p,0,none⟩),.agg #[.slice a n c],.agg #[.slice b k l],.agg #[.slice d m e]] W fun en W'=>(∃ A N C,en = .returned (.tuple #[.agg #[.slice A N C],.bool go])∧Mine W' W.heap.size A N C t5)∧Below W.heap.size W W')) (HM:Hid (HTwo 34 t3 t2 t6)) (HA1:Hid (HTwo 165 t6 t5 t7)) (HV2:Hid (HDiv t7 m4 t8 t9)) (HU3:Hid (HUp t8 1 t10)) (HA2:Hid (HTwo 165 t10 1 t11)) :
  Calls Tryz.prog 141 #[.agg #[.slice a1 n1 c1,.slice a2 n2 c2,.slice a3 n3 c3,.slice a4 n4 c4,.int .i64 z],.pointer (some ⟨p,0,none⟩)] w fun en w'=>(∃ A N C,en = .returned (.tuple #[.agg #[.slice A N C],.int .i64 (z - (lift:Int) - (more:Int) - 1)])∧Mine w' w.heap.size A N C ans)∧Below w.heap.size w w':=by
 obtain ⟨cs9,t9_,hp,hp0⟩:=hk
 refine calls_sym Tryz.func141 rfl (by kernel_rfl) fun T hK=>?_
 replace hK:Kn T _ [(0,.agg #[.slice a1 n1 c1,.slice a2 n2 c2,.slice a3 n3 c3,.slice a4 n4 c4,.int .i64 z]),(1,.pointer (some ⟨p,0,none⟩))]:=hK
 have hS:=Fb.other hp
 have hG:GsAt [gN a1 n1 m1,gN a2 n2 m2,gN a3 n3 m3,gN a4 n4 m4] w:=⟨h1,h2,h3,h4,trivial⟩
 clear h1 h2 h3 h4
 refine wq hS hG hK (fun p1=>[.n 2 #[.slice a1 n1 c1,.slice a2 n2 c2,.slice a3 n3 c3,.slice a4 n4 c4,.int .i64 z] 188,.n 4 #[.slice none 0 0] 28,.v 5 (.int .i64 0)]) (fun p1=>[(1,.pointer (some ⟨p,0,none⟩)),(2,pT (p1 0).N 0),(4,pT (p1 1).N 0),(5,.int .i64 0)]) (fun p1=>?_) (fun p1 W1 T hF hK=>?_)
 ·iterate 2 refine okn ?_
  refine okv ?_
  exact ok_nil
 replace hS:=SymF.fc hS hF [0,1000,1001] [⟨p,cs9,t9_,false⟩,⟨(p1 0).N,#[.slice a1 n1 c1,.slice a2 n2 c2,.slice a3 n3 c3,.slice a4 n4 c4,.int .i64 z],188,true⟩,⟨(p1 1).N,#[.slice none 0 0],28,true⟩]
 replace hG:=hF.gx
 clear hF
 refine wq hS hG hK (fun p2=>[.v 17 (.pointer (some ⟨p,0,none⟩)),.v 18 (.pointer (some ⟨p,0,none⟩)),.v 19 (.pointer (some ⟨p,0,none⟩)),.v 20 (pT (p1 0).N 2),.l 21 (.agg #[.slice a3 n3 c3]) 1 2,.c (some 22) (cV (.tuple #[.int .i64 (i3:Int),.int .i64 0])),.v 23 (.int .i64 (i3:Int)),.v 24 (.int .i64 0),.u 25 (.int .i64 (i3:Int)) (aG 1),.v 6 (.int .i64 (i3:Int))]) (fun p2=>[(1,.pointer (some ⟨p,0,none⟩)),(2,pT (p1 0).N 0),(4,pT (p1 1).N 0),(5,.int .i64 0),(6,.int .i64 (i3:Int))]) (fun p2=>?_) (fun p2 W2 T hF hK=>?_)
 ·iterate 4 refine okv ?_
  refine okl ?_
  refine okc (fun W cx=>as_v (unhide HB3 _ _ _ c3 (cx.G.2.2.1))) ?_
  iterate 2 refine okv ?_
  refine oku (fun W cx=>runInt_0 p 0 _ _ ⟨_,_,cx.B 0 _ rfl (by kernel_rfl) (by kernel_rfl),hp0⟩) ?_
  refine okv ?_
  exact ok_nil
 obtain ⟨hS,hG⟩:=SymF.fg hS hF
 clear hF
 refine wq hS hG hK (fun p3=>[.v 26 (.int .i64 (i3:Int)),.v 27 (.pointer (some ⟨p,0,none⟩)),.v 28 (.pointer (some ⟨p,0,none⟩)),.v 29 (.pointer (some ⟨p,0,none⟩)),.v 30 (pT (p1 0).N 0),.l 31 (.agg #[.slice a1 n1 c1]) 1 0,.c (some 32) (cV (.tuple #[.int .i64 (i1:Int),.int .i64 0])),.v 33 (.int .i64 (i1:Int)),.v 34 (.int .i64 0),.u 35 (.int .i64 (i1:Int)) (aG 1),.v 36 (.int .i64 ((i3:Int) - (i1:Int))),.v 37 (.int .i64 (lift:Int)),.v 7 (.int .i64 (lift:Int))]) (fun p3=>[(1,.pointer (some ⟨p,0,none⟩)),(2,pT (p1 0).N 0),(4,pT (p1 1).N 0),(5,.int .i64 0),(6,.int .i64 (i3:Int)),(7,.int .i64 (lift:Int))]) (fun p3=>?_) (fun p3 W3 T hF hK=>?_)
 ·iterate 5 refine okv ?_
  refine okl ?_
  refine okc (fun W cx=>as_v (unhide HB1 _ _ _ c1 (cx.G.1))) ?_
  iterate 2 refine okv ?_
  refine oku (fun W cx=>runInt_0 p 0 _ _ ⟨_,_,cx.B 0 _ rfl (by kernel_rfl) (by kernel_rfl),hp0⟩) ?_
  refine okvi (wr64 (x:=(i3:Int) - (i1:Int)) (by omega) (by omega)) ?_
  refine okvi ((imax _ _).trans hl) ?_
  refine okv ?_
  exact ok_nil
 obtain ⟨hS,hG⟩:=SymF.fg hS hF
 clear hF
 refine wq hS hG hK (fun p4=>[.v 38 (.pointer (some ⟨p,0,none⟩)),.v 39 (.pointer (some ⟨p,0,none⟩)),.v 40 (.pointer (some ⟨p,0,none⟩)),.v 41 (pT (p1 0).N 0),.l 42 (.agg #[.slice a1 n1 c1]) 1 0,.v 43 (.int .i64 (lift:Int)),.c (some 44) (cO W3.heap.size t1),.v 45 (.agg #[.slice (p4 6).A (p4 6).N (p4 6).C]),.v 46 (.int .i64 0),.u 47 (.agg #[.slice (p4 6).A (p4 6).N (p4 6).C]) (aG 1),.n 8 #[.slice none 0 0] 28,.p 1010 0 [.slice (p4 6).A (p4 6).N (p4 6).C]]) (fun p4=>[(1,.pointer (some ⟨p,0,none⟩)),(2,pT (p1 0).N 0),(4,pT (p1 1).N 0),(5,.int .i64 0),(6,.int .i64 (i3:Int)),(7,.int .i64 (lift:Int)),(8,pT (p4 10).N 0)]) (fun p4=>?_) (fun p4 W4 T hF hK=>?_)
 ·iterate 4 refine okv ?_
  refine okl ?_
  refine okv ?_
  refine okc (fun W cx=>as_o cx.hb (unhide HU1 _ _ _ c1 (cx.G.1))) ?_
  iterate 2 refine okv ?_
  refine oku (fun W cx=>runNat_0 p 0 _ _ _ _ ⟨_,_,cx.B 0 _ rfl (by kernel_rfl) (by kernel_rfl),hp0⟩) ?_
  refine okn ?_
  refine okp ?_
  exact ok_nil
 replace hS:=SymF.fc hS hF [0,1,2,1010] [⟨p,cs9,t9_,false⟩,⟨(p1 0).N,#[.slice a1 n1 c1,.slice a2 n2 c2,.slice a3 n3 c3,.slice a4 n4 c4,.int .i64 z],188,true⟩,⟨(p1 1).N,#[.slice none 0 0],28,true⟩,⟨(p4 10).N,#[.slice (p4 6).A (p4 6).N (p4 6).C],28,true⟩]
 replace hG:GsAt (gM W3.heap.size (p4 6).A (p4 6).N (p4 6).C t1 :: _) W4:=⟨hF.fx 6,hF.gx⟩
 clear hF
 refine wq hS hG hK (fun p5=>[.v 48 (.pointer (some ⟨p,0,none⟩)),.v 49 (.pointer (some ⟨p,0,none⟩)),.v 50 (.pointer (some ⟨p,0,none⟩)),.l 51 (.agg #[.slice (p4 6).A (p4 6).N (p4 6).C]) 3 0,.c (some 52) (cV (.tuple #[.int .i64 (i5:Int),.int .i64 0])),.v 53 (.int .i64 (i5:Int)),.v 54 (.int .i64 0),.u 55 (.int .i64 (i5:Int)) (aG 1),.v 56 (.pointer (some ⟨p,0,none⟩)),.v 57 (.pointer (some ⟨p,0,none⟩)),.v 58 (.pointer (some ⟨p,0,none⟩)),.v 59 (pT (p1 0).N 1),.l 60 (.agg #[.slice a2 n2 c2]) 1 1,.c (some 61) (cV (.tuple #[.int .i64 (i2:Int),.int .i64 0])),.v 62 (.int .i64 (i2:Int)),.v 63 (.int .i64 0),.u 64 (.int .i64 (i2:Int)) (aG 1),.v 65 (.int .i64 ((i5:Int)+(i2:Int))),.v 66 (.int .i64 ((i5:Int)+(i2:Int) - 1)),.v 67 (.int .i64 (i3:Int)),.v 68 (.int .i64 th),.v 9 (.int .i64 th)]) (fun p5=>[(1,.pointer (some ⟨p,0,none⟩)),(2,pT (p1 0).N 0),(4,pT (p1 1).N 0),(5,.int .i64 0),(7,.int .i64 (lift:Int)),(8,pT (p4 10).N 0),(9,.int .i64 th)]) (fun p5=>?_) (fun p5 W5 T hF hK=>?_)
 ·iterate 3 refine okv ?_
  refine okl ?_
  refine okc (fun W cx=>as_v (unhide HB5 _ _ _ (p4 6).C (Mine.num cx.G.1))) ?_
  iterate 2 refine okv ?_
  refine oku (fun W cx=>runInt_0 p 0 _ _ ⟨_,_,cx.B 0 _ rfl (by kernel_rfl) (by kernel_rfl),hp0⟩) ?_
  iterate 4 refine okv ?_
  refine okl ?_
  refine okc (fun W cx=>as_v (unhide HB2 _ _ _ c2 (cx.G.2.2.1))) ?_
  iterate 2 refine okv ?_
  refine oku (fun W cx=>runInt_0 p 0 _ _ ⟨_,_,cx.B 0 _ rfl (by kernel_rfl) (by kernel_rfl),hp0⟩) ?_
  refine okvi (wr64 (x:=(i5:Int)+(i2:Int)) (by omega) (by omega)) ?_
  refine okvi (wr64 (x:=(i5:Int)+(i2:Int) - 1) (by omega) (by omega)) ?_
  refine okv ?_
  refine okvi ((wr64 (x:=(i5:Int)+(i2:Int) - 1 - (i3:Int)) (by omega) (by omega)).trans hth) ?_
  refine okv ?_
  exact ok_nil
 obtain ⟨hS,hG⟩:=SymF.fg hS hF
 clear hF
 refine wq hS hG hK (fun p6=>[.v 69 (.pointer (some ⟨p,0,none⟩)),.v 70 (.pointer (some ⟨p,0,none⟩)),.v 71 (.pointer (some ⟨p,0,none⟩)),.v 72 (pT (p1 0).N 3),.l 73 (.agg #[.slice a4 n4 c4]) 1 3,.c (some 74) (cV (.tuple #[.int .i64 (i4:Int),.int .i64 0])),.v 75 (.int .i64 (i4:Int)),.v 76 (.int .i64 0),.u 77 (.int .i64 (i4:Int)) (aG 1),.v 78 (.int .i64 (64+(i4:Int))),.v 79 (.int .i64 th),.v 80 (.int .i64 (64+(i4:Int) - th)),.v 81 (.int .i64 (more:Int)),.v 10 (.int .i64 (more:Int))]) (fun p6=>[(1,.pointer (some ⟨p,0,none⟩)),(2,pT (p1 0).N 0),(4,pT (p1 1).N 0),(5,.int .i64 0),(7,.int .i64 (lift:Int)),(8,pT (p4 10).N 0),(10,.int .i64 (more:Int))]) (fun p6=>?_) (fun p6 W6 T hF hK=>?_)
 ·iterate 4 refine okv ?_
  refine okl ?_
  refine okc (fun W cx=>as_v (unhide HB4 _ _ _ c4 (cx.G.2.2.2.2.1))) ?_
  iterate 2 refine okv ?_
  refine oku (fun W cx=>runInt_0 p 0 _ _ ⟨_,_,cx.B 0 _ rfl (by kernel_rfl) (by kernel_rfl),hp0⟩) ?_
  refine okvi (wr64 (x:=64+(i4:Int)) (by omega) (by omega)) ?_
  refine okv ?_
  refine okvi (wr64 (x:=64+(i4:Int) - th) (by omega) (by omega)) ?_
  refine okvi ((imax _ _).trans hm) ?_
  refine okv ?_
  exact ok_nil
 obtain ⟨hS,hG⟩:=SymF.fg hS hF
 clear hF
 refine wq hS hG hK (fun p7=>[.v 82 (.pointer (some ⟨p,0,none⟩)),.v 83 (.pointer (some ⟨p,0,none⟩)),.v 84 (.pointer (some ⟨p,0,none⟩)),.v 85 (pT (p1 0).N 1),.l 86 (.agg #[.slice a2 n2 c2]) 1 1,.v 87 (.int .i64 (more:Int)),.c (some 88) (cO W6.heap.size t2),.v 89 (.agg #[.slice (p7 6).A (p7 6).N (p7 6).C]),.v 90 (.int .i64 0),.u 91 (.agg #[.slice (p7 6).A (p7 6).N (p7 6).C]) (aG 1),.n 11 #[.slice none 0 0] 28,.p 1010 0 [.slice (p7 6).A (p7 6).N (p7 6).C]]) (fun p7=>[(1,.pointer (some ⟨p,0,none⟩)),(2,pT (p1 0).N 0),(4,pT (p1 1).N 0),(5,.int .i64 0),(7,.int .i64 (lift:Int)),(8,pT (p4 10).N 0),(10,.int .i64 (more:Int)),(11,pT (p7 10).N 0)]) (fun p7=>?_) (fun p7 W7 T hF hK=>?_)
 ·iterate 4 refine okv ?_
  refine okl ?_
  refine okv ?_
  refine okc (fun W cx=>as_o cx.hb (unhide HU2 _ _ _ c2 (cx.G.2.2.1))) ?_
  iterate 2 refine okv ?_
  refine oku (fun W cx=>runNat_0 p 0 _ _ _ _ ⟨_,_,cx.B 0 _ rfl (by kernel_rfl) (by kernel_rfl),hp0⟩) ?_
  refine okn ?_
  refine okp ?_
  exact ok_nil
 replace hS:=SymF.fc hS hF [0,1,2,3,1010] [⟨p,cs9,t9_,false⟩,⟨(p1 0).N,#[.slice a1 n1 c1,.slice a2 n2 c2,.slice a3 n3 c3,.slice a4 n4 c4,.int .i64 z],188,true⟩,⟨(p1 1).N,#[.slice none 0 0],28,true⟩,⟨(p4 10).N,#[.slice (p4 6).A (p4 6).N (p4 6).C],28,true⟩,⟨(p7 10).N,#[.slice (p7 6).A (p7 6).N (p7 6).C],28,true⟩]
 replace hG:GsAt (gM W6.heap.size (p7 6).A (p7 6).N (p7 6).C t2 :: _) W7:=⟨hF.fx 6,hF.gx⟩
 clear hF
 refine wq hS hG hK (fun p8=>[.v 93 (.pointer (some ⟨p,0,none⟩)),.v 94 (.pointer (some ⟨p,0,none⟩)),.v 95 (.pointer (some ⟨p,0,none⟩)),.l 96 (.agg #[.slice (p4 6).A (p4 6).N (p4 6).C]) 3 0,.v 97 (pT (p1 0).N 2),.l 98 (.agg #[.slice a3 n3 c3]) 1 2,.c (some 99) (cD W7.heap.size t3 t4),.v 100 (.agg #[.slice (p8 6).A (p8 6).N (p8 6).C]),.v 101 (.agg #[.slice (p8 6).A' (p8 6).N' (p8 6).C']),.v 102 (.int .i64 0),.u 103 (.tuple #[.agg #[.slice (p8 6).A (p8 6).N (p8 6).C],.agg #[.slice (p8 6).A' (p8 6).N' (p8 6).C']]) (aH 1 2),.v 92 (.tuple #[.agg #[.slice (p8 6).A (p8 6).N (p8 6).C],.agg #[.slice (p8 6).A' (p8 6).N' (p8 6).C']]),.v 104 (.agg #[.slice (p8 6).A (p8 6).N (p8 6).C]),.v 105 (.agg #[.slice (p8 6).A' (p8 6).N' (p8 6).C']),.n 12 #[.slice none 0 0] 28,.n 13 #[.slice none 0 0] 28,.p 1014 0 [.slice (p8 6).A (p8 6).N (p8 6).C],.p 1015 0 [.slice (p8 6).A' (p8 6).N' (p8 6).C']]) (fun p8=>[(1,.pointer (some ⟨p,0,none⟩)),(2,pT (p1 0).N 0),(4,pT (p1 1).N 0),(5,.int .i64 0),(7,.int .i64 (lift:Int)),(10,.int .i64 (more:Int)),(11,pT (p7 10).N 0),(12,pT (p8 14).N 0),(13,pT (p8 15).N 0)]) (fun p8=>?_) (fun p8 W8 T hF hK=>?_)
 ·iterate 3 refine okv ?_
  refine okl ?_
  refine okv ?_
  refine okl ?_
  refine okc (fun W cx=>as_d cx.hb (unhide HV1 _ _ _ (p4 6).C _ _ c3 (Mine.num cx.G.2.1) (cx.G.2.2.2.2.1))) ?_
  iterate 3 refine okv ?_
  refine oku (fun W cx=>runNats_0 p 0 _ _ _ _ _ _ _ ⟨_,_,cx.B 0 _ rfl (by kernel_rfl) (by kernel_rfl),hp0⟩) ?_
  iterate 3 refine okv ?_
  iterate 2 refine okn ?_
  iterate 2 refine okp ?_
  exact ok_nil
 replace hS:=SymF.fc hS hF [0,1,2,4,1014,1015] [⟨p,cs9,t9_,false⟩,⟨(p1 0).N,#[.slice a1 n1 c1,.slice a2 n2 c2,.slice a3 n3 c3,.slice a4 n4 c4,.int .i64 z],188,true⟩,⟨(p1 1).N,#[.slice none 0 0],28,true⟩,⟨(p7 10).N,#[.slice (p7 6).A (p7 6).N (p7 6).C],28,true⟩,⟨(p8 14).N,#[.slice (p8 6).A (p8 6).N (p8 6).C],28,true⟩,⟨(p8 15).N,#[.slice (p8 6).A' (p8 6).N' (p8 6).C'],28,true⟩]
 replace hG:GsAt (gM W7.heap.size (p8 6).A (p8 6).N (p8 6).C t3 :: gM W7.heap.size (p8 6).A' (p8 6).N' (p8 6).C' t4 :: _) W8:=⟨And.left (hF.fx 6),And.right (hF.fx 6),hF.gx⟩
 clear hF
 refine wq hS hG hK (fun p9=>[.v 107 (.pointer (some ⟨p,0,none⟩)),.l 108 (.agg #[.slice (p8 6).A' (p8 6).N' (p8 6).C']) 5 0,.l 109 (.agg #[.slice (p7 6).A (p7 6).N (p7 6).C]) 3 0,.v 110 (pT (p1 0).N 2),.l 111 (.agg #[.slice a3 n3 c3]) 1 2,.c (some 112) (cS W8.heap.size t5 go),.v 106 (.tuple #[.agg #[.slice (p9 5).A (p9 5).N (p9 5).C],.bool go]),.v 113 (.agg #[.slice (p9 5).A (p9 5).N (p9 5).C]),.v 114 (.bool go),.n 14 #[.slice none 0 0] 28,.p 1009 0 [.slice (p9 5).A (p9 5).N (p9 5).C],.v 15 (.bool go)]) (fun p9=>[(1,.pointer (some ⟨p,0,none⟩)),(2,pT (p1 0).N 0),(4,pT (p1 1).N 0),(5,.int .i64 0),(7,.int .i64 (lift:Int)),(10,.int .i64 (more:Int)),(11,pT (p7 10).N 0),(12,pT (p8 14).N 0),(13,pT (p8 15).N 0),(14,pT (p9 9).N 0),(15,.bool go)]) (fun p9=>?_) (fun p9 W9 T hF hK=>?_)
 ·refine okv ?_
  iterate 2 refine okl ?_
  refine okv ?_
  refine okl ?_
  refine okc (fun W cx=>as_s cx.hb (unhide HS _ _ _ (p8 6).C' _ _ (p7 6).C _ _ c3 ⟨_,_,cx.B 0 _ rfl (by kernel_rfl) (by kernel_rfl),hp0⟩ (Mine.num cx.G.2.1) (Mine.num cx.G.2.2.1) (cx.G.2.2.2.2.2.2.1))) ?_
  iterate 3 refine okv ?_
  refine okn ?_
  refine okp ?_
  refine okv ?_
  exact ok_nil
 replace hS:=SymF.fc hS hF [0,1,2,3,4,5,1009] [⟨p,cs9,t9_,false⟩,⟨(p1 0).N,#[.slice a1 n1 c1,.slice a2 n2 c2,.slice a3 n3 c3,.slice a4 n4 c4,.int .i64 z],188,true⟩,⟨(p1 1).N,#[.slice none 0 0],28,true⟩,⟨(p7 10).N,#[.slice (p7 6).A (p7 6).N (p7 6).C],28,true⟩,⟨(p8 14).N,#[.slice (p8 6).A (p8 6).N (p8 6).C],28,true⟩,⟨(p8 15).N,#[.slice (p8 6).A' (p8 6).N' (p8 6).C'],28,true⟩,⟨(p9 9).N,#[.slice (p9 5).A (p9 5).N (p9 5).C],28,true⟩]
 replace hG:GsAt (gM W8.heap.size (p9 5).A (p9 5).N (p9 5).C t5 :: _) W9:=⟨hF.fx 5,hF.gx⟩
 clear hF
 refine wq hS hG hK (fun p10=>[.v 115 (.pointer (some ⟨p,0,none⟩)),.v 116 (.pointer (some ⟨p,0,none⟩)),.v 117 (.pointer (some ⟨p,0,none⟩)),.v 118 (.pointer (some ⟨p,0,none⟩)),.v 119 (.pointer (some ⟨p,0,none⟩)),.v 120 (.pointer (some ⟨p,0,none⟩)),.l 121 (.agg #[.slice (p8 6).A (p8 6).N (p8 6).C]) 4 0,.l 122 (.agg #[.slice (p7 6).A (p7 6).N (p7 6).C]) 3 0,.c (some 123) (cO W9.heap.size t6),.v 124 (.agg #[.slice (p10 8).A (p10 8).N (p10 8).C]),.v 125 (.int .i64 0),.u 126 (.agg #[.slice (p10 8).A (p10 8).N (p10 8).C]) (aG 1),.l 127 (.agg #[.slice (p9 5).A (p9 5).N (p9 5).C]) 6 0,.c (some 128) (cO W9.heap.size t7),.v 129 (.agg #[.slice (p10 13).A (p10 13).N (p10 13).C]),.v 130 (.int .i64 0),.u 131 (.agg #[.slice (p10 13).A (p10 13).N (p10 13).C]) (aG 1),.n 16 #[.slice none 0 0] 28,.p 1017 0 [.slice (p10 13).A (p10 13).N (p10 13).C]]) (fun p10=>[(1,.pointer (some ⟨p,0,none⟩)),(2,pT (p1 0).N 0),(4,pT (p1 1).N 0),(5,.int .i64 0),(7,.int .i64 (lift:Int)),(10,.int .i64 (more:Int)),(13,pT (p8 15).N 0),(15,.bool go),(16,pT (p10 17).N 0)]) (fun p10=>?_) (fun p10 W10 T hF hK=>?_)
 ·iterate 6 refine okv ?_
  iterate 2 refine okl ?_
  refine okc (fun W cx=>as_o cx.hb (unhide HM _ _ _ (p8 6).C _ _ (p7 6).C (Mine.num cx.G.2.1) (Mine.num cx.G.2.2.2.1))) ?_
  iterate 2 refine okv ?_
  refine oku (fun W cx=>runNat_0 p 0 _ _ _ _ ⟨_,_,cx.B 0 _ rfl (by kernel_rfl) (by kernel_rfl),hp0⟩) ?_
  refine okl ?_
  refine okc (fun W cx=>as_o cx.hb (unhide HA1 _ _ _ (p10 8).C _ _ (p9 5).C (Mine.num (cx.F 8 (by kernel_rfl))) (Mine.num cx.G.1))) ?_
  iterate 2 refine okv ?_
  refine oku (fun W cx=>runNat_0 p 0 _ _ _ _ ⟨_,_,cx.B 0 _ rfl (by kernel_rfl) (by kernel_rfl),hp0⟩) ?_
  refine okn ?_
  refine okp ?_
  exact ok_nil
 replace hS:=SymF.fc hS hF [0,1,2,5,1017] [⟨p,cs9,t9_,false⟩,⟨(p1 0).N,#[.slice a1 n1 c1,.slice a2 n2 c2,.slice a3 n3 c3,.slice a4 n4 c4,.int .i64 z],188,true⟩,⟨(p1 1).N,#[.slice none 0 0],28,true⟩,⟨(p8 15).N,#[.slice (p8 6).A' (p8 6).N' (p8 6).C'],28,true⟩,⟨(p10 17).N,#[.slice (p10 13).A (p10 13).N (p10 13).C],28,true⟩]
 replace hG:GsAt (gM W9.heap.size (p10 8).A (p10 8).N (p10 8).C t6 :: gM W9.heap.size (p10 13).A (p10 13).N (p10 13).C t7 :: _) W10:=⟨hF.fx 8,hF.fx 13,hF.gx⟩
 clear hF
 refine wq hS hG hK (fun p11=>[.v 133 (.pointer (some ⟨p,0,none⟩)),.v 134 (.pointer (some ⟨p,0,none⟩)),.v 135 (.pointer (some ⟨p,0,none⟩)),.l 136 (.agg #[.slice (p10 13).A (p10 13).N (p10 13).C]) 4 0,.v 137 (pT (p1 0).N 3),.l 138 (.agg #[.slice a4 n4 c4]) 1 3,.c (some 139) (cD W10.heap.size t8 t9),.v 140 (.agg #[.slice (p11 6).A (p11 6).N (p11 6).C]),.v 141 (.agg #[.slice (p11 6).A' (p11 6).N' (p11 6).C']),.v 142 (.int .i64 0),.u 143 (.tuple #[.agg #[.slice (p11 6).A (p11 6).N (p11 6).C],.agg #[.slice (p11 6).A' (p11 6).N' (p11 6).C']]) (aH 1 2),.v 132 (.tuple #[.agg #[.slice (p11 6).A (p11 6).N (p11 6).C],.agg #[.slice (p11 6).A' (p11 6).N' (p11 6).C']]),.v 144 (.agg #[.slice (p11 6).A (p11 6).N (p11 6).C]),.v 145 (.agg #[.slice (p11 6).A' (p11 6).N' (p11 6).C']),.p 2 0 [.slice (p11 6).A (p11 6).N (p11 6).C],.p 3 0 [.slice (p11 6).A' (p11 6).N' (p11 6).C']]) (fun p11=>[(1,.pointer (some ⟨p,0,none⟩)),(2,pT (p1 0).N 0),(4,pT (p1 1).N 0),(5,.int .i64 0),(7,.int .i64 (lift:Int)),(10,.int .i64 (more:Int)),(13,pT (p8 15).N 0),(15,.bool go)]) (fun p11=>?_) (fun p11 W11 T hF hK=>?_)
 ·iterate 3 refine okv ?_
  refine okl ?_
  refine okv ?_
  refine okl ?_
  refine okc (fun W cx=>as_d cx.hb (unhide HV2 _ _ _ (p10 13).C _ _ c4 (Mine.num cx.G.2.1) (cx.G.2.2.2.2.2.2.2.2.2.2.1))) ?_
  iterate 3 refine okv ?_
  refine oku (fun W cx=>runNats_0 p 0 _ _ _ _ _ _ _ ⟨_,_,cx.B 0 _ rfl (by kernel_rfl) (by kernel_rfl),hp0⟩) ?_
  iterate 3 refine okv ?_
  iterate 2 refine okp ?_
  exact ok_nil
 replace hS:=SymF.fc hS hF [0,1,2,3] [⟨p,cs9,t9_,false⟩,⟨(p1 0).N,#[.slice a1 n1 c1,.slice a2 n2 c2,.slice a3 n3 c3,.slice a4 n4 c4,.int .i64 z],188,true⟩,⟨(p1 1).N,#[.slice (p11 6).A (p11 6).N (p11 6).C],28,true⟩,⟨(p8 15).N,#[.slice (p11 6).A' (p11 6).N' (p11 6).C'],28,true⟩]
 replace hG:GsAt (gM W10.heap.size (p11 6).A (p11 6).N (p11 6).C t8 :: gM W10.heap.size (p11 6).A' (p11 6).N' (p11 6).C' t9 :: _) W11:=⟨And.left (hF.fx 6),And.right (hF.fx 6),hF.gx⟩
 clear hF
 have z11:=hS.fr.size
 refine wq hS hG hK (fun p12=>[.v 146 (.pointer (some ⟨p,0,none⟩)),.v 147 (.pointer (some ⟨p,0,none⟩)),.v 148 (.pointer (some ⟨p,0,none⟩)),.l 149 (.agg #[.slice (p11 6).A (p11 6).N (p11 6).C]) 2 0,.c (some 150) (cO W11.heap.size t10),.v 151 (.agg #[.slice (p12 4).A (p12 4).N (p12 4).C]),.v 152 (.int .i64 0),.u 153 (.agg #[.slice (p12 4).A (p12 4).N (p12 4).C]) (aG 1),.p 2 0 [.slice (p12 4).A (p12 4).N (p12 4).C]]) (fun p12=>[(1,.pointer (some ⟨p,0,none⟩)),(2,pT (p1 0).N 0),(4,pT (p1 1).N 0),(5,.int .i64 0),(7,.int .i64 (lift:Int)),(10,.int .i64 (more:Int)),(13,pT (p8 15).N 0),(15,.bool go)]) (fun p12=>?_) (fun p12 W12 T hF hK=>?_)
 ·iterate 3 refine okv ?_
  refine okl ?_
  refine okc (fun W cx=>as_o cx.hb (unhide HU3 _ _ _ (p11 6).C (Mine.num cx.G.1))) ?_
  iterate 2 refine okv ?_
  refine oku (fun W cx=>runNat_0 p 0 _ _ _ _ ⟨_,_,cx.B 0 _ rfl (by kernel_rfl) (by kernel_rfl),hp0⟩) ?_
  refine okp ?_
  exact ok_nil
 replace hS:=SymF.fc hS hF [0,1,2,3] [⟨p,cs9,t9_,false⟩,⟨(p1 0).N,#[.slice a1 n1 c1,.slice a2 n2 c2,.slice a3 n3 c3,.slice a4 n4 c4,.int .i64 z],188,true⟩,⟨(p1 1).N,#[.slice (p12 4).A (p12 4).N (p12 4).C],28,true⟩,⟨(p8 15).N,#[.slice (p11 6).A' (p11 6).N' (p11 6).C'],28,true⟩]
 replace hG:GsAt (gM W11.heap.size (p12 4).A (p12 4).N (p12 4).C t10 :: _) W12:=⟨hF.fx 4,hF.gx⟩
 clear hF
 rcases unhide hgo with ⟨hg,hv⟩|⟨hg,hr,hv⟩|⟨hg,hr,hv⟩ <;> subst hg
 ·refine wp_seq ?_
  refine wq hS hG hK (fun p13=>[.v 154 (.bool true),.v 155 (.bool true),.k (some 156),.k (some 157),.k (some 158),.v 159 (.bool true)]) (fun p13=>[(1,.pointer (some ⟨p,0,none⟩)),(2,pT (p1 0).N 0),(4,pT (p1 1).N 0),(5,.int .i64 0),(7,.int .i64 (lift:Int)),(10,.int .i64 (more:Int)),(159,.bool true)]) (fun p13=>?_) (fun p13 W13 T hF hK=>?_)
  ·iterate 2 refine okv ?_
   iterate 3 refine okk ?_
   refine okv ?_
   exact ok_nil
  replace hS:=SymF.fc hS hF [0,1,2] [⟨p,cs9,t9_,false⟩,⟨(p1 0).N,#[.slice a1 n1 c1,.slice a2 n2 c2,.slice a3 n3 c3,.slice a4 n4 c4,.int .i64 z],188,true⟩,⟨(p1 1).N,#[.slice (p12 4).A (p12 4).N (p12 4).C],28,true⟩]
  replace hG:=hF.gx
  clear hF
  have z13:=hS.fr.size
  refine wp_cond_true (hK.ew 159) ?_
  refine wg hS hG hK (fun p14=>[.v 160 (.pointer (some ⟨p,0,none⟩)),.v 161 (.pointer (some ⟨p,0,none⟩)),.v 162 (.pointer (some ⟨p,0,none⟩)),.l 163 (.agg #[.slice (p12 4).A (p12 4).N (p12 4).C]) 2 0,.c (some 164) (cN W13.heap.size 1),.c (some 165) (cO W13.heap.size t11),.v 166 (.agg #[.slice (p14 5).A (p14 5).N (p14 5).C]),.v 167 (.int .i64 0),.u 168 (.agg #[.slice (p14 5).A (p14 5).N (p14 5).C]) (aG 1),.p 2 0 [.slice (p14 5).A (p14 5).N (p14 5).C]]) (fun p14=>[(2,pT (p1 0).N 0),(4,pT (p1 1).N 0),(5,.int .i64 0),(7,.int .i64 (lift:Int)),(10,.int .i64 (more:Int)),(159,.bool true)]) (fun p14=>?_) (fun p14 W14 T hF hK=>?_)
  ·iterate 3 refine okv ?_
   refine okl ?_
   refine okc (fun W cx=>as_n cx.hb (of_any 1 _ (by decide))) ?_
   refine okc (fun W cx=>as_o cx.hb (unhide HA2 _ _ _ (p12 4).C _ _ (p14 4).C (Mine.num cx.G.1) (Mine.num (cx.F 4 (by kernel_rfl))))) ?_
   iterate 2 refine okv ?_
   refine oku (fun W cx=>runNat_0 p 0 _ _ _ _ ⟨_,_,cx.B 0 _ rfl (by kernel_rfl) (by kernel_rfl),hp0⟩) ?_
   refine okp ?_
   exact ok_nil
  replace hS:=SymF.fc hS hF [0,1,2] [⟨p,cs9,t9_,false⟩,⟨(p1 0).N,#[.slice a1 n1 c1,.slice a2 n2 c2,.slice a3 n3 c3,.slice a4 n4 c4,.int .i64 z],188,true⟩,⟨(p1 1).N,#[.slice (p14 5).A (p14 5).N (p14 5).C],28,true⟩]
  replace hG:GsAt (gM W13.heap.size (p14 4).A (p14 4).N (p14 4).C 1 :: gM W13.heap.size (p14 5).A (p14 5).N (p14 5).C t11 :: _) W14:=⟨hF.fx 4,hF.fx 5,hF.gx⟩
  clear hF
  have z14:=hS.fr.size
  refine then_n ?_
  refine wq hS hG hK (fun p15=>[.l 169 (.agg #[.slice (p14 5).A (p14 5).N (p14 5).C]) 2 0,.v 170 (pT (p1 0).N 4),.l 171 (.int .i64 z) 1 4,.v 172 (.int .i64 (lift:Int)),.v 173 (.int .i64 (z - (lift:Int))),.v 174 (.int .i64 (more:Int)),.v 175 (.int .i64 (z - (lift:Int) - (more:Int))),.v 176 (.int .i64 (z - (lift:Int) - (more:Int) - 1)),.p 2 0 [.slice (p14 5).A (p14 5).N (p14 5).C],.v 5 (.int .i64 (z - (lift:Int) - (more:Int) - 1))]) (fun p15=>[(4,pT (p1 1).N 0),(5,.int .i64 (z - (lift:Int) - (more:Int) - 1)),(159,.bool true)]) (fun p15=>?_) (fun p15 W15 T hF hK=>?_)
  ·refine okl ?_
   refine okv ?_
   refine okl ?_
   refine okv ?_
   refine okvi (wr64 (x:=z - (lift:Int)) (by omega) (by omega)) ?_
   refine okv ?_
   refine okvi (wr64 (x:=z - (lift:Int) - (more:Int)) (by omega) (by omega)) ?_
   refine okvi (wr64 (x:=z - (lift:Int) - (more:Int) - 1) (by omega) (by omega)) ?_
   refine okp ?_
   refine okv ?_
   exact ok_nil
  replace hS:=SymF.fc hS hF [0,2] [⟨p,cs9,t9_,false⟩,⟨(p1 1).N,#[.slice (p14 5).A (p14 5).N (p14 5).C],28,true⟩]
  replace hG:=hF.gx
  clear hF
  have z15:=hS.fr.size
  refine wp_ret ?_
  exact sym_end hS hK (.tuple #[.agg #[.slice (p14 5).A (p14 5).N (p14 5).C],.int .i64 (z - (lift:Int) - (more:Int) - 1)]) [(1,0,1)] [.slice (p14 5).A (p14 5).N (p14 5).C] (by kernel_rfl) (by kernel_rfl) ⟨⟨_,_,_,rfl,by rw [hv]; exact Mine.mono hG.2.1 z13⟩,hS.fr⟩
 ·refine wp_seq ?_
  refine wq hS hG hK (fun p13=>[.v 154 (.bool false),.v 155 (.bool false),.l 156 (.agg #[.slice (p11 6).A' (p11 6).N' (p11 6).C']) 3 0,.c (some 157) (cV (.bool false)),.v 158 (.bool true),.v 159 (.bool true)]) (fun p13=>[(1,.pointer (some ⟨p,0,none⟩)),(2,pT (p1 0).N 0),(4,pT (p1 1).N 0),(5,.int .i64 0),(7,.int .i64 (lift:Int)),(10,.int .i64 (more:Int)),(159,.bool true)]) (fun p13=>?_) (fun p13 W13 T hF hK=>?_)
  ·iterate 2 refine okv ?_
   refine okl ?_
   refine okc (fun W cx=>as_v (snought (p11 6).A' _ (p11 6).C' _ _ (Num.noz (Mine.num cx.G.2.2.1) hr))) ?_
   iterate 2 refine okv ?_
   exact ok_nil
  replace hS:=SymF.fc hS hF [0,1,2] [⟨p,cs9,t9_,false⟩,⟨(p1 0).N,#[.slice a1 n1 c1,.slice a2 n2 c2,.slice a3 n3 c3,.slice a4 n4 c4,.int .i64 z],188,true⟩,⟨(p1 1).N,#[.slice (p12 4).A (p12 4).N (p12 4).C],28,true⟩]
  replace hG:=hF.gx
  clear hF
  have z13:=hS.fr.size
  refine wp_cond_true (hK.ew 159) ?_
  refine wg hS hG hK (fun p14=>[.v 160 (.pointer (some ⟨p,0,none⟩)),.v 161 (.pointer (some ⟨p,0,none⟩)),.v 162 (.pointer (some ⟨p,0,none⟩)),.l 163 (.agg #[.slice (p12 4).A (p12 4).N (p12 4).C]) 2 0,.c (some 164) (cN W13.heap.size 1),.c (some 165) (cO W13.heap.size t11),.v 166 (.agg #[.slice (p14 5).A (p14 5).N (p14 5).C]),.v 167 (.int .i64 0),.u 168 (.agg #[.slice (p14 5).A (p14 5).N (p14 5).C]) (aG 1),.p 2 0 [.slice (p14 5).A (p14 5).N (p14 5).C]]) (fun p14=>[(2,pT (p1 0).N 0),(4,pT (p1 1).N 0),(5,.int .i64 0),(7,.int .i64 (lift:Int)),(10,.int .i64 (more:Int)),(159,.bool true)]) (fun p14=>?_) (fun p14 W14 T hF hK=>?_)
  ·iterate 3 refine okv ?_
   refine okl ?_
   refine okc (fun W cx=>as_n cx.hb (of_any 1 _ (by decide))) ?_
   refine okc (fun W cx=>as_o cx.hb (unhide HA2 _ _ _ (p12 4).C _ _ (p14 4).C (Mine.num cx.G.1) (Mine.num (cx.F 4 (by kernel_rfl))))) ?_
   iterate 2 refine okv ?_
   refine oku (fun W cx=>runNat_0 p 0 _ _ _ _ ⟨_,_,cx.B 0 _ rfl (by kernel_rfl) (by kernel_rfl),hp0⟩) ?_
   refine okp ?_
   exact ok_nil
  replace hS:=SymF.fc hS hF [0,1,2] [⟨p,cs9,t9_,false⟩,⟨(p1 0).N,#[.slice a1 n1 c1,.slice a2 n2 c2,.slice a3 n3 c3,.slice a4 n4 c4,.int .i64 z],188,true⟩,⟨(p1 1).N,#[.slice (p14 5).A (p14 5).N (p14 5).C],28,true⟩]
  replace hG:GsAt (gM W13.heap.size (p14 4).A (p14 4).N (p14 4).C 1 :: gM W13.heap.size (p14 5).A (p14 5).N (p14 5).C t11 :: _) W14:=⟨hF.fx 4,hF.fx 5,hF.gx⟩
  clear hF
  have z14:=hS.fr.size
  refine then_n ?_
  refine wq hS hG hK (fun p15=>[.l 169 (.agg #[.slice (p14 5).A (p14 5).N (p14 5).C]) 2 0,.v 170 (pT (p1 0).N 4),.l 171 (.int .i64 z) 1 4,.v 172 (.int .i64 (lift:Int)),.v 173 (.int .i64 (z - (lift:Int))),.v 174 (.int .i64 (more:Int)),.v 175 (.int .i64 (z - (lift:Int) - (more:Int))),.v 176 (.int .i64 (z - (lift:Int) - (more:Int) - 1)),.p 2 0 [.slice (p14 5).A (p14 5).N (p14 5).C],.v 5 (.int .i64 (z - (lift:Int) - (more:Int) - 1))]) (fun p15=>[(4,pT (p1 1).N 0),(5,.int .i64 (z - (lift:Int) - (more:Int) - 1)),(159,.bool true)]) (fun p15=>?_) (fun p15 W15 T hF hK=>?_)
  ·refine okl ?_
   refine okv ?_
   refine okl ?_
   refine okv ?_
   refine okvi (wr64 (x:=z - (lift:Int)) (by omega) (by omega)) ?_
   refine okv ?_
   refine okvi (wr64 (x:=z - (lift:Int) - (more:Int)) (by omega) (by omega)) ?_
   refine okvi (wr64 (x:=z - (lift:Int) - (more:Int) - 1) (by omega) (by omega)) ?_
   refine okp ?_
   refine okv ?_
   exact ok_nil
  replace hS:=SymF.fc hS hF [0,2] [⟨p,cs9,t9_,false⟩,⟨(p1 1).N,#[.slice (p14 5).A (p14 5).N (p14 5).C],28,true⟩]
  replace hG:=hF.gx
  clear hF
  have z15:=hS.fr.size
  refine wp_ret ?_
  exact sym_end hS hK (.tuple #[.agg #[.slice (p14 5).A (p14 5).N (p14 5).C],.int .i64 (z - (lift:Int) - (more:Int) - 1)]) [(1,0,1)] [.slice (p14 5).A (p14 5).N (p14 5).C] (by kernel_rfl) (by kernel_rfl) ⟨⟨_,_,_,rfl,by rw [hv]; exact Mine.mono hG.2.1 z13⟩,hS.fr⟩
 ·refine wp_seq ?_
  refine wq hS hG hK (fun p13=>[.v 154 (.bool false),.v 155 (.bool false),.l 156 (.agg #[.slice (p11 6).A' (p11 6).N' (p11 6).C']) 3 0,.c (some 157) (cV (.bool true)),.v 158 (.bool false),.v 159 (.bool false)]) (fun p13=>[(1,.pointer (some ⟨p,0,none⟩)),(2,pT (p1 0).N 0),(4,pT (p1 1).N 0),(5,.int .i64 0),(7,.int .i64 (lift:Int)),(10,.int .i64 (more:Int)),(159,.bool false)]) (fun p13=>?_) (fun p13 W13 T hF hK=>?_)
  ·iterate 2 refine okv ?_
   refine okl ?_
   refine okc (fun W cx=>as_v (snought (p11 6).A' _ (p11 6).C' _ _ (Num.isz (Mine.num cx.G.2.2.1) hr))) ?_
   iterate 2 refine okv ?_
   exact ok_nil
  replace hS:=SymF.fc hS hF [0,1,2] [⟨p,cs9,t9_,false⟩,⟨(p1 0).N,#[.slice a1 n1 c1,.slice a2 n2 c2,.slice a3 n3 c3,.slice a4 n4 c4,.int .i64 z],188,true⟩,⟨(p1 1).N,#[.slice (p12 4).A (p12 4).N (p12 4).C],28,true⟩]
  replace hG:=hF.gx
  clear hF
  have z13:=hS.fr.size
  refine wp_cond_false (hK.ew 159) (wp_skip (then_n ?_))
  refine wq hS hG hK (fun p14=>[.l 169 (.agg #[.slice (p12 4).A (p12 4).N (p12 4).C]) 2 0,.v 170 (pT (p1 0).N 4),.l 171 (.int .i64 z) 1 4,.v 172 (.int .i64 (lift:Int)),.v 173 (.int .i64 (z - (lift:Int))),.v 174 (.int .i64 (more:Int)),.v 175 (.int .i64 (z - (lift:Int) - (more:Int))),.v 176 (.int .i64 (z - (lift:Int) - (more:Int) - 1)),.p 2 0 [.slice (p12 4).A (p12 4).N (p12 4).C],.v 5 (.int .i64 (z - (lift:Int) - (more:Int) - 1))]) (fun p14=>[(1,.pointer (some ⟨p,0,none⟩)),(4,pT (p1 1).N 0),(5,.int .i64 (z - (lift:Int) - (more:Int) - 1)),(159,.bool false)]) (fun p14=>?_) (fun p14 W14 T hF hK=>?_)
  ·refine okl ?_
   refine okv ?_
   refine okl ?_
   refine okv ?_
   refine okvi (wr64 (x:=z - (lift:Int)) (by omega) (by omega)) ?_
   refine okv ?_
   refine okvi (wr64 (x:=z - (lift:Int) - (more:Int)) (by omega) (by omega)) ?_
   refine okvi (wr64 (x:=z - (lift:Int) - (more:Int) - 1) (by omega) (by omega)) ?_
   refine okp ?_
   refine okv ?_
   exact ok_nil
  replace hS:=SymF.fc hS hF [0,2] [⟨p,cs9,t9_,false⟩,⟨(p1 1).N,#[.slice (p12 4).A (p12 4).N (p12 4).C],28,true⟩]
  replace hG:=hF.gx
  clear hF
  have z14:=hS.fr.size
  refine wp_ret ?_
  exact sym_end hS hK (.tuple #[.agg #[.slice (p12 4).A (p12 4).N (p12 4).C],.int .i64 (z - (lift:Int) - (more:Int) - 1)]) [(1,0,1)] [.slice (p12 4).A (p12 4).N (p12 4).C] (by kernel_rfl) (by kernel_rfl) ⟨⟨_,_,_,rfl,by rw [hv]; exact Mine.mono hG.1 z11⟩,hS.fr⟩
def HPow0:Prop:=∀ W:World,Calls Tryz.prog 36 #[.int .u32 5,.int .i64 0] W fun en W'=>(∃ a n c,en = .returned (.tuple #[.agg #[.slice a n c],.int .i64 0])∧Mine W' W.heap.size a n c 1)∧Below W.heap.size W W'
theorem Num.dec {w:World} {a:Option Addr} {n m:Nat} (h:Num w a n m):decide (n = 0) = decide (m = 0):=decide_eq_decide.2 h.zero
theorem sshare_is (w:World) (p:Nat) (a b d:Option Addr) (n c k l m e x y z v q r:Nat) (hk:Rn w p 0) (h1:Num w a n x) (h2:Num w b k y) (h3:Num w d m z) (HM:Hid (HTwo 34 x y v)) (HV:Hid (HDiv v z q r)) :
  Calls Tryz.prog 164 #[.pointer (some ⟨p,0,none⟩),.agg #[.slice a n c],.agg #[.slice b k l],.agg #[.slice d m e]] w fun en w'=>(∃ A N C,en = .returned (.tuple #[.agg #[.slice A N C],.bool (!decide (r = 0))])∧Mine w' w.heap.size A N C q)∧Below w.heap.size w w':=by
 obtain ⟨cs9,t9_,hp,hp0⟩:=hk
 refine calls_sym Tryz.func164 rfl (by kernel_rfl) fun T hK=>?_
 replace hK:Kn T _ [(0,.pointer (some ⟨p,0,none⟩)),(1,.agg #[.slice a n c]),(2,.agg #[.slice b k l]),(3,.agg #[.slice d m e])]:=hK
 have hS:=Fb.other hp
 have hG:GsAt [gN a n x,gN b k y,gN d m z] w:=⟨h1,h2,h3,trivial⟩
 refine wq hS hG hK (fun p1=>[.n 5 #[.slice a n c] 28,.n 6 #[.slice b k l] 28,.n 7 #[.slice d m e] 28,.n 8 #[.slice none 0 0] 28,.v 9 (.bool false)]) (fun p1=>[(0,.pointer (some ⟨p,0,none⟩)),(5,pT (p1 0).N 0),(6,pT (p1 1).N 0),(7,pT (p1 2).N 0),(8,pT (p1 3).N 0),(9,.bool false)]) (fun p1=>?_) (fun p1 W1 T hF hK=>?_)
 ·iterate 4 refine okn ?_
  refine okv ?_
  exact ok_nil
 replace hS:=SymF.fc hS hF [0,1000,1001,1002,1003] [⟨p,cs9,t9_,false⟩,⟨(p1 0).N,#[.slice a n c],28,true⟩,⟨(p1 1).N,#[.slice b k l],28,true⟩,⟨(p1 2).N,#[.slice d m e],28,true⟩,⟨(p1 3).N,#[.slice none 0 0],28,true⟩]
 replace hG:=hF.gx
 clear hF
 refine wq hS hG hK (fun p2=>[.l 15 (.agg #[.slice a n c]) 1 0,.l 16 (.agg #[.slice b k l]) 2 0,.c (some 17) (cO W1.heap.size v),.v 14 (.tuple #[.agg #[.slice (p2 2).A (p2 2).N (p2 2).C],.int .i64 0]),.v 18 (.agg #[.slice (p2 2).A (p2 2).N (p2 2).C]),.v 19 (.int .i64 0),.n 10 #[.slice none 0 0] 28,.p 1006 0 [.slice (p2 2).A (p2 2).N (p2 2).C],.v 11 (.int .i64 0)]) (fun p2=>[(0,.pointer (some ⟨p,0,none⟩)),(5,pT (p1 0).N 0),(6,pT (p1 1).N 0),(7,pT (p1 2).N 0),(8,pT (p1 3).N 0),(9,.bool false),(10,pT (p2 6).N 0),(11,.int .i64 0)]) (fun p2=>?_) (fun p2 W2 T hF hK=>?_)
 ·iterate 2 refine okl ?_
  refine okc (fun W cx=>as_o cx.hb (unhide HM _ _ _ c _ _ l (cx.G.1) (cx.G.2.1))) ?_
  iterate 3 refine okv ?_
  refine okn ?_
  refine okp ?_
  refine okv ?_
  exact ok_nil
 replace hS:=SymF.fc hS hF [0,1,2,3,4,1006] [⟨p,cs9,t9_,false⟩,⟨(p1 0).N,#[.slice a n c],28,true⟩,⟨(p1 1).N,#[.slice b k l],28,true⟩,⟨(p1 2).N,#[.slice d m e],28,true⟩,⟨(p1 3).N,#[.slice none 0 0],28,true⟩,⟨(p2 6).N,#[.slice (p2 2).A (p2 2).N (p2 2).C],28,true⟩]
 replace hG:GsAt (gM W1.heap.size (p2 2).A (p2 2).N (p2 2).C v :: _) W2:=⟨hF.fx 2,hF.gx⟩
 clear hF
 refine wp_seq ?_
 refine wq hS hG hK (fun p3=>[.v 20 (.int .i64 0),.v 21 (.bool false)]) (fun p3=>[(0,.pointer (some ⟨p,0,none⟩)),(5,pT (p1 0).N 0),(6,pT (p1 1).N 0),(7,pT (p1 2).N 0),(8,pT (p1 3).N 0),(9,.bool false),(10,pT (p2 6).N 0),(11,.int .i64 0),(21,.bool false)]) (fun p3=>?_) (fun p3 W3 T hF hK=>?_)
 ·iterate 2 refine okv ?_
  exact ok_nil
 obtain ⟨hS,hG⟩:=SymF.fg hS hF
 clear hF
 refine wp_cond_false (hK.ew 21) (wp_skip (then_n ?_))
 refine wq hS hG hK (fun p4=>[.v 29 (.pointer (some ⟨p,0,none⟩)),.v 30 (.pointer (some ⟨p,0,none⟩)),.v 31 (.pointer (some ⟨p,0,none⟩)),.v 32 (.int .i64 0),.c (some 33) (cV (.tuple #[]))]) (fun p4=>[(0,.pointer (some ⟨p,0,none⟩)),(5,pT (p1 0).N 0),(6,pT (p1 1).N 0),(7,pT (p1 2).N 0),(8,pT (p1 3).N 0),(9,.bool false),(10,pT (p2 6).N 0),(21,.bool false)]) (fun p4=>?_) (fun p4 W4 T hF hK=>?_)
 ·iterate 4 refine okv ?_
  refine okc (fun W cx=>as_v (keep_0 p 0 _ ⟨_,_,cx.B 0 _ rfl (by kernel_rfl) (by kernel_rfl),hp0⟩)) ?_
  exact ok_nil
 obtain ⟨hS,hG⟩:=SymF.fg hS hF
 clear hF
 have z4:=hS.fr.size
 refine wq hS hG hK (fun p5=>[.v 35 (.pointer (some ⟨p,0,none⟩)),.v 36 (.pointer (some ⟨p,0,none⟩)),.v 37 (.pointer (some ⟨p,0,none⟩)),.l 38 (.agg #[.slice (p2 2).A (p2 2).N (p2 2).C]) 5 0,.l 39 (.agg #[.slice d m e]) 3 0,.c (some 40) (cD W4.heap.size q r),.v 41 (.agg #[.slice (p5 5).A (p5 5).N (p5 5).C]),.v 42 (.agg #[.slice (p5 5).A' (p5 5).N' (p5 5).C']),.v 43 (.int .i64 0),.u 44 (.tuple #[.agg #[.slice (p5 5).A (p5 5).N (p5 5).C],.agg #[.slice (p5 5).A' (p5 5).N' (p5 5).C']]) (aH 1 2),.v 34 (.tuple #[.agg #[.slice (p5 5).A (p5 5).N (p5 5).C],.agg #[.slice (p5 5).A' (p5 5).N' (p5 5).C']]),.v 45 (.agg #[.slice (p5 5).A (p5 5).N (p5 5).C]),.v 46 (.agg #[.slice (p5 5).A' (p5 5).N' (p5 5).C']),.n 12 #[.slice none 0 0] 28,.n 13 #[.slice none 0 0] 28,.p 1013 0 [.slice (p5 5).A (p5 5).N (p5 5).C],.p 1014 0 [.slice (p5 5).A' (p5 5).N' (p5 5).C']]) (fun p5=>[(0,.pointer (some ⟨p,0,none⟩)),(5,pT (p1 0).N 0),(6,pT (p1 1).N 0),(7,pT (p1 2).N 0),(8,pT (p1 3).N 0),(9,.bool false),(12,pT (p5 13).N 0),(13,pT (p5 14).N 0),(21,.bool false)]) (fun p5=>?_) (fun p5 W5 T hF hK=>?_)
 ·iterate 3 refine okv ?_
  iterate 2 refine okl ?_
  refine okc (fun W cx=>as_d cx.hb (unhide HV _ _ _ (p2 2).C _ _ e (Mine.num cx.G.1) (cx.G.2.2.2.1))) ?_
  iterate 3 refine okv ?_
  refine oku (fun W cx=>runNats_0 p 0 _ _ _ _ _ _ _ ⟨_,_,cx.B 0 _ rfl (by kernel_rfl) (by kernel_rfl),hp0⟩) ?_
  iterate 3 refine okv ?_
  iterate 2 refine okn ?_
  iterate 2 refine okp ?_
  exact ok_nil
 replace hS:=SymF.fc hS hF [0,1,2,3,4,1013,1014] [⟨p,cs9,t9_,false⟩,⟨(p1 0).N,#[.slice a n c],28,true⟩,⟨(p1 1).N,#[.slice b k l],28,true⟩,⟨(p1 2).N,#[.slice d m e],28,true⟩,⟨(p1 3).N,#[.slice none 0 0],28,true⟩,⟨(p5 13).N,#[.slice (p5 5).A (p5 5).N (p5 5).C],28,true⟩,⟨(p5 14).N,#[.slice (p5 5).A' (p5 5).N' (p5 5).C'],28,true⟩]
 replace hG:GsAt (gM W4.heap.size (p5 5).A (p5 5).N (p5 5).C q :: gM W4.heap.size (p5 5).A' (p5 5).N' (p5 5).C' r :: _) W5:=⟨And.left (hF.fx 5),And.right (hF.fx 5),hF.gx⟩
 clear hF
 refine wq hS hG hK (fun p6=>[.l 47 (.agg #[.slice (p5 5).A (p5 5).N (p5 5).C]) 5 0,.l 48 (.agg #[.slice (p5 5).A' (p5 5).N' (p5 5).C']) 6 0,.c (some 49) (cV (.bool (decide (r = 0)))),.v 50 (.bool (!(decide (r = 0)))),.p 4 0 [.slice (p5 5).A (p5 5).N (p5 5).C],.v 9 (.bool (!(decide (r = 0))))]) (fun p6=>[(0,.pointer (some ⟨p,0,none⟩)),(5,pT (p1 0).N 0),(6,pT (p1 1).N 0),(7,pT (p1 2).N 0),(8,pT (p1 3).N 0),(9,.bool (!(decide (r = 0)))),(21,.bool false)]) (fun p6=>?_) (fun p6 W6 T hF hK=>?_)
 ·iterate 2 refine okl ?_
  refine okc (fun W cx=>as_v (snought (p5 5).A' _ (p5 5).C' _ _ (Num.dec (Mine.num cx.G.2.1)))) ?_
  refine okv ?_
  refine okp ?_
  refine okv ?_
  exact ok_nil
 replace hS:=SymF.fc hS hF [0,1,2,3,4] [⟨p,cs9,t9_,false⟩,⟨(p1 0).N,#[.slice a n c],28,true⟩,⟨(p1 1).N,#[.slice b k l],28,true⟩,⟨(p1 2).N,#[.slice d m e],28,true⟩,⟨(p1 3).N,#[.slice (p5 5).A (p5 5).N (p5 5).C],28,true⟩]
 replace hG:=hF.gx
 clear hF
 refine wp_ret ?_
 exact sym_end hS hK (.tuple #[.agg #[.slice (p5 5).A (p5 5).N (p5 5).C],.bool (!decide (r = 0))]) [(4,0,1)] [.slice (p5 5).A (p5 5).N (p5 5).C] (by kernel_rfl) (by kernel_rfl) ⟨⟨_,_,_,rfl,Mine.mono hG.1 z4⟩,hS.fr⟩
theorem ssize_is (w:World) (p:Nat) (s:Bool) (a b:Option Addr) (n c k l x y i j:Nat) (sz:Int) (hk:Rn w p 0) (h1:Num w a n x) (h2:Num w b k y) (hi:i≤524288) (hj:j≤524288) (hz:(i:Int) - (j:Int) = sz) (HB1:Hid (HBits x i)) (HB2:Hid (HBits y j)) :
  Calls Tryz.prog 139 #[.pointer (some ⟨p,0,none⟩),.agg #[.bool s,.slice a n c,.slice b k l],.int .i64 0] w fun en w'=>en = .returned (.int .i64 sz)∧Below w.heap.size w w':=by
 obtain ⟨cs9,t9_,hp,hp0⟩:=hk
 refine calls_sym Tryz.func139 rfl (by kernel_rfl) fun T hK=>?_
 replace hK:Kn T _ [(0,.pointer (some ⟨p,0,none⟩)),(1,.agg #[.bool s,.slice a n c,.slice b k l]),(2,.int .i64 0)]:=hK
 have hS:=Fb.other hp
 have hG:GsAt [gN a n x,gN b k y] w:=⟨h1,h2,trivial⟩
 refine wq hS hG hK (fun p1=>[.n 4 #[.bool s,.slice a n c,.slice b k l] 41,.v 6 (.int .i64 0)]) (fun p1=>[(0,.pointer (some ⟨p,0,none⟩)),(2,.int .i64 0),(4,pT (p1 0).N 0),(6,.int .i64 0)]) (fun p1=>?_) (fun p1 W1 T hF hK=>?_)
 ·refine okn ?_
  refine okv ?_
  exact ok_nil
 replace hS:=SymF.fc hS hF [0,1000] [⟨p,cs9,t9_,false⟩,⟨(p1 0).N,#[.bool s,.slice a n c,.slice b k l],41,true⟩]
 replace hG:=hF.gx
 clear hF
 refine wq hS hG hK (fun p2=>[.v 7 (.int .i64 0),.v 8 (.int .i64 0),.v 9 (.int .i64 0),.v 2 (.int .i64 0)]) (fun p2=>[(0,.pointer (some ⟨p,0,none⟩)),(2,.int .i64 0),(4,pT (p1 0).N 0),(6,.int .i64 0)]) (fun p2=>?_) (fun p2 W2 T hF hK=>?_)
 ·iterate 4 refine okv ?_
  exact ok_nil
 obtain ⟨hS,hG⟩:=SymF.fg hS hF
 clear hF
 refine wq hS hG hK (fun p3=>[.v 10 (.pointer (some ⟨p,0,none⟩)),.v 11 (.pointer (some ⟨p,0,none⟩)),.v 12 (.pointer (some ⟨p,0,none⟩)),.v 13 (pT (p1 0).N 1),.l 14 (.agg #[.slice a n c]) 1 1,.c (some 15) (cV (.tuple #[.int .i64 (i:Int),.int .i64 0])),.v 16 (.int .i64 (i:Int)),.v 17 (.int .i64 0),.u 18 (.int .i64 (i:Int)) (aG 1),.v 19 (.pointer (some ⟨p,0,none⟩)),.v 20 (.pointer (some ⟨p,0,none⟩)),.v 21 (.pointer (some ⟨p,0,none⟩)),.v 22 (pT (p1 0).N 2),.l 23 (.agg #[.slice b k l]) 1 2,.c (some 24) (cV (.tuple #[.int .i64 (j:Int),.int .i64 0])),.v 25 (.int .i64 (j:Int)),.v 26 (.int .i64 0),.u 27 (.int .i64 (j:Int)) (aG 1),.v 28 (.int .i64 sz),.v 29 (.int .i64 0),.v 30 (.int .i64 0),.v 31 (.int .i64 0),.v 32 (.int .i64 sz),.v 6 (.int .i64 sz)]) (fun p3=>[(6,.int .i64 sz)]) (fun p3=>?_) (fun p3 W3 T hF hK=>?_)
 ·iterate 4 refine okv ?_
  refine okl ?_
  refine okc (fun W cx=>as_v (unhide HB1 _ _ _ c (cx.G.1))) ?_
  iterate 2 refine okv ?_
  refine oku (fun W cx=>runInt_0 p 0 _ _ ⟨_,_,cx.B 0 _ rfl (by kernel_rfl) (by kernel_rfl),hp0⟩) ?_
  iterate 4 refine okv ?_
  refine okl ?_
  refine okc (fun W cx=>as_v (unhide HB2 _ _ _ l (cx.G.2.1))) ?_
  iterate 2 refine okv ?_
  refine oku (fun W cx=>runInt_0 p 0 _ _ ⟨_,_,cx.B 0 _ rfl (by kernel_rfl) (by kernel_rfl),hp0⟩) ?_
  refine okvi ((wr64 (x:=(i:Int) - (j:Int)) (by omega) (by omega)).trans hz) ?_
  iterate 3 refine okv ?_
  refine okvi ((wr64 (x:=sz+0) (by omega) (by omega)).trans (Int.add_zero sz)) ?_
  refine okv ?_
  exact ok_nil
 replace hS:=SymF.fc hS hF [0] [⟨p,cs9,t9_,false⟩]
 replace hG:=hF.gx
 clear hF
 refine wp_ret ?_
 exact sym_end hS hK (.int .i64 sz) [] [] (by kernel_rfl) (by kernel_rfl) ⟨rfl,hS.fr⟩
theorem sscal_is (w:World) (p:Nat) (s:Bool) (a b:Option Addr) (n c k l x y:Nat) (hk:Rn w p 0) (h1:Num w a n x) (h2:Num w b k y) (HP:Hid (HPow0)) :
  Calls Tryz.prog 140 #[.pointer (some ⟨p,0,none⟩),.agg #[.bool s,.slice a n c,.slice b k l],.int .i64 0] w fun en w'=>(∃ A N C A' N' C',en = .returned (.agg #[.slice a n c,.slice A N C,.slice b k l,.slice A' N' C',.int .i64 0])∧Mine w' w.heap.size A N C 1∧Mine w' w.heap.size A' N' C' 1)∧Below w.heap.size w w':=by
 obtain ⟨cs9,t9_,hp,hp0⟩:=hk
 refine calls_sym Tryz.func140 rfl (by kernel_rfl) fun T hK=>?_
 replace hK:Kn T _ [(0,.pointer (some ⟨p,0,none⟩)),(1,.agg #[.bool s,.slice a n c,.slice b k l]),(2,.int .i64 0)]:=hK
 have hS:=Fb.other hp
 have hG:GsAt [gN a n x,gN b k y] w:=⟨h1,h2,trivial⟩
 refine wq hS hG hK (fun p1=>[.n 4 #[.bool s,.slice a n c,.slice b k l] 41,.n 6 #[.slice none 0 0,.slice none 0 0,.slice none 0 0,.slice none 0 0,.int .i64 0] 188]) (fun p1=>[(0,.pointer (some ⟨p,0,none⟩)),(2,.int .i64 0),(4,pT (p1 0).N 0),(6,pT (p1 1).N 0)]) (fun p1=>?_) (fun p1 W1 T hF hK=>?_)
 ·iterate 2 refine okn ?_
  exact ok_nil
 replace hS:=SymF.fc hS hF [0,1000,1001] [⟨p,cs9,t9_,false⟩,⟨(p1 0).N,#[.bool s,.slice a n c,.slice b k l],41,true⟩,⟨(p1 1).N,#[.slice none 0 0,.slice none 0 0,.slice none 0 0,.slice none 0 0,.int .i64 0],188,true⟩]
 replace hG:=hF.gx
 clear hF
 have z1:=hS.fr.size
 refine wq hS hG hK (fun p2=>[.c (some 10) (cN W1.heap.size 1),.n 7 #[.slice none 0 0] 28,.p 1001 0 [.slice (p2 0).A (p2 0).N (p2 0).C]]) (fun p2=>[(0,.pointer (some ⟨p,0,none⟩)),(2,.int .i64 0),(4,pT (p1 0).N 0),(6,pT (p1 1).N 0),(7,pT (p2 1).N 0)]) (fun p2=>?_) (fun p2 W2 T hF hK=>?_)
 ·refine okc (fun W cx=>as_n cx.hb (of_any 1 _ (by decide))) ?_
  refine okn ?_
  refine okp ?_
  exact ok_nil
 replace hS:=SymF.fc hS hF [0,1,2,1001] [⟨p,cs9,t9_,false⟩,⟨(p1 0).N,#[.bool s,.slice a n c,.slice b k l],41,true⟩,⟨(p1 1).N,#[.slice none 0 0,.slice none 0 0,.slice none 0 0,.slice none 0 0,.int .i64 0],188,true⟩,⟨(p2 1).N,#[.slice (p2 0).A (p2 0).N (p2 0).C],28,true⟩]
 replace hG:GsAt (gM W1.heap.size (p2 0).A (p2 0).N (p2 0).C 1 :: _) W2:=⟨hF.fx 0,hF.gx⟩
 clear hF
 refine wq hS hG hK (fun p3=>[.v 11 (pT (p1 0).N 1),.l 12 (.agg #[.slice a n c]) 1 1,.l 13 (.agg #[.slice (p2 0).A (p2 0).N (p2 0).C]) 3 0,.v 14 (pT (p1 0).N 2),.l 15 (.agg #[.slice b k l]) 1 2,.l 16 (.agg #[.slice (p2 0).A (p2 0).N (p2 0).C]) 3 0,.v 17 (.int .i64 0),.v 18 (.agg #[.slice a n c,.slice (p2 0).A (p2 0).N (p2 0).C,.slice b k l,.slice (p2 0).A (p2 0).N (p2 0).C,.int .i64 0]),.n 8 #[.slice none 0 0,.slice none 0 0,.slice none 0 0,.slice none 0 0,.int .i64 0] 188,.p 1008 0 [.slice a n c,.slice (p2 0).A (p2 0).N (p2 0).C,.slice b k l,.slice (p2 0).A (p2 0).N (p2 0).C,.int .i64 0]]) (fun p3=>[(0,.pointer (some ⟨p,0,none⟩)),(2,.int .i64 0),(4,pT (p1 0).N 0),(6,pT (p1 1).N 0),(8,pT (p3 8).N 0)]) (fun p3=>?_) (fun p3 W3 T hF hK=>?_)
 ·refine okv ?_
  iterate 2 refine okl ?_
  refine okv ?_
  iterate 2 refine okl ?_
  iterate 2 refine okv ?_
  refine okn ?_
  refine okp ?_
  exact ok_nil
 replace hS:=SymF.fc hS hF [0,1,2,1008] [⟨p,cs9,t9_,false⟩,⟨(p1 0).N,#[.bool s,.slice a n c,.slice b k l],41,true⟩,⟨(p1 1).N,#[.slice none 0 0,.slice none 0 0,.slice none 0 0,.slice none 0 0,.int .i64 0],188,true⟩,⟨(p3 8).N,#[.slice a n c,.slice (p2 0).A (p2 0).N (p2 0).C,.slice b k l,.slice (p2 0).A (p2 0).N (p2 0).C,.int .i64 0],188,true⟩]
 replace hG:=hF.gx
 clear hF
 have z3:=hS.fr.size
 refine wq hS hG hK (fun p4=>[.v 19 (.pointer (some ⟨p,0,none⟩)),.v 20 (.pointer (some ⟨p,0,none⟩)),.v 21 (.pointer (some ⟨p,0,none⟩)),.v 22 (.int .i64 0),.v 23 (.int .i64 0),.v 24 (.int .i64 0),.v 25 (.int .i64 0),.c (some 26) (cO W3.heap.size 1),.v 27 (.agg #[.slice (p4 7).A (p4 7).N (p4 7).C]),.v 28 (.int .i64 0),.u 29 (.agg #[.slice (p4 7).A (p4 7).N (p4 7).C]) (aG 1),.n 9 #[.slice none 0 0] 28,.p 1011 0 [.slice (p4 7).A (p4 7).N (p4 7).C]]) (fun p4=>[(0,.pointer (some ⟨p,0,none⟩)),(2,.int .i64 0),(4,pT (p1 0).N 0),(6,pT (p1 1).N 0),(8,pT (p3 8).N 0),(9,pT (p4 11).N 0)]) (fun p4=>?_) (fun p4 W4 T hF hK=>?_)
 ·iterate 7 refine okv ?_
  refine okc (fun W cx=>as_o cx.hb (unhide HP _)) ?_
  iterate 2 refine okv ?_
  refine oku (fun W cx=>runNat_0 p 0 _ _ _ _ ⟨_,_,cx.B 0 _ rfl (by kernel_rfl) (by kernel_rfl),hp0⟩) ?_
  refine okn ?_
  refine okp ?_
  exact ok_nil
 replace hS:=SymF.fc hS hF [0,1,2,3,1011] [⟨p,cs9,t9_,false⟩,⟨(p1 0).N,#[.bool s,.slice a n c,.slice b k l],41,true⟩,⟨(p1 1).N,#[.slice none 0 0,.slice none 0 0,.slice none 0 0,.slice none 0 0,.int .i64 0],188,true⟩,⟨(p3 8).N,#[.slice a n c,.slice (p2 0).A (p2 0).N (p2 0).C,.slice b k l,.slice (p2 0).A (p2 0).N (p2 0).C,.int .i64 0],188,true⟩,⟨(p4 11).N,#[.slice (p4 7).A (p4 7).N (p4 7).C],28,true⟩]
 replace hG:GsAt (gM W3.heap.size (p4 7).A (p4 7).N (p4 7).C 1 :: _) W4:=⟨hF.fx 7,hF.gx⟩
 clear hF
 refine wp_seq (wp_block ?_)
 refine wq hS hG hK (fun p5=>[.v 33 (.int .i64 0),.v 34 (.bool false),.v 32 (.bool false)]) (fun p5=>[(0,.pointer (some ⟨p,0,none⟩)),(2,.int .i64 0),(4,pT (p1 0).N 0),(6,pT (p1 1).N 0),(8,pT (p3 8).N 0),(9,pT (p4 11).N 0),(32,.bool false)]) (fun p5=>?_) (fun p5 W5 T hF hK=>?_)
 ·iterate 3 refine okv ?_
  exact ok_nil
 obtain ⟨hS,hG⟩:=SymF.fg hS hF
 clear hF
 refine wp_cond_false (hK.ew 32) ?_
 refine wq hS hG hK (fun p6=>[.v 38 (.int .i64 0),.v 39 (.bool false),.v 37 (.bool false)]) (fun p6=>[(0,.pointer (some ⟨p,0,none⟩)),(4,pT (p1 0).N 0),(6,pT (p1 1).N 0),(8,pT (p3 8).N 0),(9,pT (p4 11).N 0),(32,.bool false),(37,.bool false)]) (fun p6=>?_) (fun p6 W6 T hF hK=>?_)
 ·iterate 3 refine okv ?_
  exact ok_nil
 obtain ⟨hS,hG⟩:=SymF.fg hS hF
 clear hF
 refine wp_cond_false (hK.ew 37) ?_
 refine wg hS hG hK (fun p7=>[.l 30 (.agg #[.slice (p4 7).A (p4 7).N (p4 7).C]) 4 0,.v 31 (pT (p3 8).N 1),.p 3 1 [.slice (p4 7).A (p4 7).N (p4 7).C]]) (fun p7=>[(0,.pointer (some ⟨p,0,none⟩)),(4,pT (p1 0).N 0),(6,pT (p1 1).N 0),(8,pT (p3 8).N 0),(9,pT (p4 11).N 0),(32,.bool false),(37,.bool false)]) (fun p7=>?_) (fun p7 W7 T hF hK=>?_)
 ·refine okl ?_
  refine okv ?_
  refine okp ?_
  exact ok_nil
 replace hS:=SymF.fc hS hF [0,1,2,3,4] [⟨p,cs9,t9_,false⟩,⟨(p1 0).N,#[.bool s,.slice a n c,.slice b k l],41,true⟩,⟨(p1 1).N,#[.slice none 0 0,.slice none 0 0,.slice none 0 0,.slice none 0 0,.int .i64 0],188,true⟩,⟨(p3 8).N,#[.slice a n c,.slice (p4 7).A (p4 7).N (p4 7).C,.slice b k l,.slice (p2 0).A (p2 0).N (p2 0).C,.int .i64 0],188,true⟩,⟨(p4 11).N,#[.slice (p4 7).A (p4 7).N (p4 7).C],28,true⟩]
 replace hG:=hF.gx
 clear hF
 refine inb_n (then_n ?_)
 refine wq hS hG hK (fun p8=>[.l 51 (.agg #[.slice a n c,.slice (p4 7).A (p4 7).N (p4 7).C,.slice b k l,.slice (p2 0).A (p2 0).N (p2 0).C,.int .i64 0]) 3 0,.p 2 0 [.slice a n c,.slice (p4 7).A (p4 7).N (p4 7).C,.slice b k l,.slice (p2 0).A (p2 0).N (p2 0).C,.int .i64 0]]) (fun p8=>[(0,.pointer (some ⟨p,0,none⟩)),(4,pT (p1 0).N 0),(6,pT (p1 1).N 0),(8,pT (p3 8).N 0),(9,pT (p4 11).N 0),(32,.bool false),(37,.bool false)]) (fun p8=>?_) (fun p8 W8 T hF hK=>?_)
 ·refine okl ?_
  refine okp ?_
  exact ok_nil
 replace hS:=SymF.fc hS hF [0,1,2,3,4] [⟨p,cs9,t9_,false⟩,⟨(p1 0).N,#[.bool s,.slice a n c,.slice b k l],41,true⟩,⟨(p1 1).N,#[.slice a n c,.slice (p4 7).A (p4 7).N (p4 7).C,.slice b k l,.slice (p2 0).A (p2 0).N (p2 0).C,.int .i64 0],188,true⟩,⟨(p3 8).N,#[.slice a n c,.slice (p4 7).A (p4 7).N (p4 7).C,.slice b k l,.slice (p2 0).A (p2 0).N (p2 0).C,.int .i64 0],188,true⟩,⟨(p4 11).N,#[.slice (p4 7).A (p4 7).N (p4 7).C],28,true⟩]
 replace hG:=hF.gx
 clear hF
 refine wp_ret ?_
 exact sym_end hS hK (.agg #[.slice a n c,.slice (p4 7).A (p4 7).N (p4 7).C,.slice b k l,.slice (p2 0).A (p2 0).N (p2 0).C,.int .i64 0]) [(2,0,5)] [.slice a n c,.slice (p4 7).A (p4 7).N (p4 7).C,.slice b k l,.slice (p2 0).A (p2 0).N (p2 0).C,.int .i64 0] (by kernel_rfl) (by kernel_rfl) ⟨⟨_,_,_,_,_,_,rfl,Mine.mono hG.1 z3,Mine.mono hG.2.1 z1⟩,hS.fr⟩
def blen (m:Nat):Nat:=if m = 0 then 0 else m.log2+1
theorem bl_blen (m:Nat):Bl m (blen m):=by
 unfold blen
 by_cases h:m = 0
 ·rw [if_pos h,h]; exact ⟨by decide,Or.inl rfl⟩
 ·rw [if_neg h]
  refine ⟨Nat.lt_log2_self,Or.inr ?_⟩
  rw [Nat.add_sub_cancel]
  exact Nat.log2_self_le h
theorem Bl.le_of {m k n:Nat} (h:Bl m k) (hm:m < 2 ^ n):k≤n:=by
 rcases h.2 with h0|h1
 ·omega
 ·exact Nat.le_of_not_lt fun hlt=>by
   have:2 ^ n≤2 ^ (k - 1):=pow_bound (by omega)
   omega
theorem Bl.gt_of {m k n:Nat} (h:Bl m k) (hm:2 ^ n≤m):n < k:=by
 refine Nat.lt_of_not_le fun hle=>?_
 have:=pow_bound hle
 have:=h.1
 omega
def cutR (md:Nat) (s:Bool) (m:Nat) (x t:Int):Nat:=if t≤x then m * 2 ^ (x - t).toNat else cutN md s m (t - x).toNat
def lastP (B F k:Nat) (x:Int):Int:=max (1 - (B:Int) - (F:Int)) (x+(k:Int) - 1 - (F:Int))
def rowR (B F md:Nat) (s:Bool) (m k:Nat) (x:Int):Nat:=(lastP B F k x - (1 - (B:Int) - (F:Int))).toNat * 2 ^ F+cutR md s m x (lastP B F k x)
def freeR (F md:Nat) (s:Bool) (m k:Nat) (x:Int):Int:=(blen (cutR md s m x (x+(k:Int) - 1 - (F:Int))):Int) - 1+(x+(k:Int) - 1 - (F:Int))
def flagR (B F I md:Nat) (s:Bool) (m k:Nat) (x:Int):Nat:=if I≤rowR B F md s m k x then 3 else if lastP B F k x≤x then 0 else if freeR F md s m k x < 1 - (B:Int) then 5 else 1
def bitsR (S I md:Nat) (s:Bool) (r:Nat):Nat:=(if s then S else 0)+(if r < I then r else if fth md s false 1 then I else I - 1)
theorem cut_le {md:Nat} {s:Bool} {m dr n:Nat} (h:m / 2 ^ dr < 2 ^ n):cutN md s m dr≤2 ^ n:=by
 unfold cutN; split <;> omega
theorem cut_ge {md:Nat} {s:Bool} {m dr n:Nat} (h:2 ^ n≤m / 2 ^ dr):2 ^ n≤cutN md s m dr:=by
 unfold cutN; omega
theorem cutR_le {md:Nat} {s:Bool} {m k F:Nat} {x t:Int} (hk:Bl m k) (h0:0 < m) (ht:x+(k:Int) - 1 - (F:Int)≤t):cutR md s m x t≤2 ^ (F+1):=by
 have hk1:=hk.1
 have hkp:0 < k:=by
  rcases Nat.eq_zero_or_pos k with h|h
  ·rw [h] at hk1; simp at hk1; omega
  ·exact h
 unfold cutR
 by_cases hx:t≤x
 ·rw [if_pos hx]
  obtain ⟨j,hj⟩:∃ j,(x - t).toNat = j:=⟨_,rfl⟩
  rw [hj]
  have hle:k+j≤F+1:=by omega
  have h1:m * 2 ^ j≤2 ^ k * 2 ^ j:=Nat.mul_le_mul_right _ (by omega)
  rw [← Nat.pow_add] at h1
  exact Nat.le_trans h1 (pow_bound hle)
 ·rw [if_neg hx]
  obtain ⟨j,hj⟩:∃ j,(t - x).toNat = j:=⟨_,rfl⟩
  rw [hj]
  refine cut_le ?_
  rw [Nat.div_lt_iff_lt_mul (pow_pos2 _),← Nat.pow_add]
  exact Nat.lt_of_lt_of_le hk1 (pow_bound (by omega))
theorem cutR_ge {md:Nat} {s:Bool} {m k F:Nat} {x t:Int} (hk:Bl m k) (h0:0 < m) (ht:x+(k:Int) - 1 - (F:Int) = t):2 ^ F≤cutR md s m x t:=by
 have hk1:=hk.1
 have hkp:0 < k:=by
  rcases Nat.eq_zero_or_pos k with h|h
  ·rw [h] at hk1; simp at hk1; omega
  ·exact h
 have hge:2 ^ (k - 1)≤m:=by rcases hk.2 with h|h; omega; exact h
 unfold cutR
 by_cases hx:t≤x
 ·rw [if_pos hx]
  obtain ⟨j,hj⟩:∃ j,(x - t).toNat = j:=⟨_,rfl⟩
  rw [hj]
  have h1:2 ^ (k - 1) * 2 ^ j≤m * 2 ^ j:=Nat.mul_le_mul_right _ hge
  rw [← Nat.pow_add] at h1
  exact Nat.le_trans (pow_bound (by omega)) h1
 ·rw [if_neg hx]
  obtain ⟨j,hj⟩:∃ j,(t - x).toNat = j:=⟨_,rfl⟩
  rw [hj]
  refine cut_ge ?_
  rw [Nat.le_div_iff_mul_le (pow_pos2 _),← Nat.pow_add]
  exact Nat.le_trans (pow_bound (by omega)) hge
theorem cut_any (s:Bool) (a:Option Addr) (n cap m md F k:Nat) (x t:Int) (w:World) (h:Num w a n m) (hcap:n≤cap) (hcap2:cap≤9223372036854775807) (hm:md≤4) (hk:Bl m k) (h0:0 < m) (hF:F≤52) (hx:-2147483648≤x∧x≤2147483648) (ht2:-2147483648≤t∧t≤2147483648) (ht:x+(k:Int) - 1 - (F:Int)≤t) :
  Calls Tryz.prog 143 #[.agg #[.bool s,.slice a n cap,.int .i64 x],.int .i64 t,.int .u8 (md:Int)] w fun e w'=>e = .returned (.tuple #[.int .u64 (cutR md s m x t:Int),.bool (decide (t≤x))])∧Below w.heap.size w w':=by
 have hk1:=hk.1
 have hkp:0 < k:=by
  rcases Nat.eq_zero_or_pos k with h|h
  ·rw [h] at hk1; simp at hk1; omega
  ·exact h
 have hle:=cutR_le (md:=md) (s:=s) hk h0 ht
 have hp53:2 ^ (F+1)≤2 ^ 53:=pow_bound (by omega)
 have e53:(2:Nat) ^ 53 = 9007199254740992:=by decide
 unfold cutR at *
 by_cases hxt:t≤x
 ·rw [if_pos hxt] at hle ⊢
  rw [decide_eq_true hxt]
  obtain ⟨j,hj⟩:∃ j,(x - t).toNat = j:=⟨_,rfl⟩
  rw [hj] at hle ⊢
  have hk53:m < 2 ^ 53:=Nat.lt_of_lt_of_le hk1 (pow_bound (by omega))
  have:=cut_whole s a n cap m j md x w h (by omega) (by omega) (by omega)
  rw [show x - (j:Int) = t from by omega] at this
  exact this
 ·rw [if_neg hxt] at hle ⊢
  rw [decide_eq_false hxt]
  obtain ⟨j,hj⟩:∃ j,(t - x).toNat = j:=⟨_,rfl⟩
  rw [hj] at hle ⊢
  have hq:m / 2 ^ j < 9223372036854775808:=by
   have:m / 2 ^ j≤cutN md s m j:=by unfold cutN; omega
   omega
  have:=cut_drop s a n cap m j md x w h hcap hcap2 hm (by omega) (by omega) hq
  rw [show x+(j:Int) = t from by omega] at this
  exact this
theorem bias2 {E B:Nat} (hE:2≤E) (HB:B = 2 ^ (E - 1) - 1):2 * B+1 = 2 ^ E - 1∧1≤B:=by
 obtain ⟨e,rfl⟩:∃ e,E = e+2:=⟨E - 2,by omega⟩
 rw [show e+2 - 1 = e+1 from by omega] at HB
 have h1:2 ^ (e+2) = 2 * 2 ^ (e+1):=by rw [Nat.pow_succ,Nat.mul_comm]
 have h2:2 ^ (e+1) = 2 * 2 ^ e:=by rw [Nat.pow_succ,Nat.mul_comm]
 have:=pow_pos2 e
 omega
theorem over_iff {B F N kN I:Nat} {t:Int} (hkN:Bl N kN) (hN:N≤2 ^ (F+1)) (hlo:t = 1 - (B:Int) - (F:Int)∨(1 - (B:Int) - (F:Int) < t∧2 ^ F≤N)) (hB:1≤B) (hI:I = (2 * B+1) * 2 ^ F) :
  (B:Int) < (kN:Int) - 1+t↔I≤(t - (1 - (B:Int) - (F:Int))).toNat * 2 ^ F+N:=by
 obtain ⟨st,hst⟩:∃ st,(t - (1 - (B:Int) - (F:Int))).toNat = st:=⟨_,rfl⟩
 rw [hst]
 have hts:t = (st:Int)+(1 - (B:Int) - (F:Int)):=by omega
 have p0:=pow_pos2 F
 have p1:2 ^ (F+1) = 2 * 2 ^ F:=by rw [Nat.pow_succ,Nat.mul_comm]
 have kle:kN≤F+2:=hkN.le_of (by rw [show F+2 = F+1+1 from rfl,Nat.pow_succ]; have:=pow_pos2 (F+1); omega)
 obtain ⟨P,hP⟩:∃ P,P = 2 ^ F:=⟨_,rfl⟩
 rw [p1] at hN
 rw [← hP] at hN hlo p0 hI ⊢
 by_cases c0:N < P
 ·have hz:st = 0:=by rcases hlo with h|h <;> omega
  have k0:kN≤F:=hkN.le_of (by rw [← hP]; exact c0)
  subst hz
  constructor
  ·intro h; omega
  ·intro h
   exfalso
   have:P≤(2 * B+1) * P:=Nat.le_mul_of_pos_left _ (by omega)
   omega
 ·have k1:F < kN:=hkN.gt_of (by rw [← hP]; omega)
  by_cases c1:N < 2 * P
  ·have k2:kN = F+1:=by
    have:=hkN.le_of (n:=F+1) (by rw [p1,← hP]; exact c1)
    omega
   constructor
   ·intro h
    have hs:2 * B≤st:=by omega
    have:=Nat.mul_le_mul_right P hs
    rw [hI,Nat.add_mul,Nat.one_mul]
    omega
   ·intro h
    have hs:2 * B≤st:=by
     refine Nat.le_of_not_lt fun hc=>?_
     have:=Nat.mul_le_mul_right P (show st+1≤2 * B from hc)
     rw [Nat.add_mul,Nat.one_mul] at this
     rw [hI,Nat.add_mul,Nat.one_mul] at h
     omega
    omega
  ·have k2:kN = F+2:=by
    have:=hkN.gt_of (n:=F+1) (by rw [p1,← hP]; omega)
    omega
   obtain ⟨Bm,rfl⟩:∃ Bm,B = Bm+1:=⟨B - 1,by omega⟩
   constructor
   ·intro h
    have hs:2 * Bm+1≤st:=by omega
    have h2:=Nat.mul_le_mul_right P hs
    rw [show 2 * (Bm+1)+1 = 2 * Bm+1+2 from by omega,Nat.add_mul] at hI
    omega
   ·intro h
    have hs:2 * Bm+1≤st:=by
     refine Nat.le_of_not_lt fun hc=>?_
     have h2:=Nat.mul_le_mul_right P (show st+1≤2 * Bm+1 from hc)
     rw [Nat.add_mul,Nat.one_mul] at h2
     rw [show 2 * (Bm+1)+1 = 2 * Bm+1+2 from by omega,Nat.add_mul] at hI
     omega
    omega
theorem Num.bl {w:World} {a:Option Addr} {n m k:Nat} (h:Num w a n m) (hk:Bl m k):k≤524288:=by
 have h1:=h.lt
 rw [show (4294967296:Nat) ^ Pl.top = 2 ^ (32 * Pl.top) from by rw [Nat.pow_mul]] at h1
 have:=hk.le_of h1
 have:=Pl.top_eq
 omega
theorem rounded_any {E F S I B md:Nat} (h:Fm E F S I) (hB:B = 2 ^ (E - 1) - 1) (hm:md≤4) (ng s:Bool) (a:Option Addr) (n cap m k:Nat) (x:Int) (W:World) (Bs:Nat) (g:Mine W Bs a n cap m) (hA:m % 2 = 1∧-1073741824≤x∧x≤1073741824) (hk:Bl m k) :
  Calls Tryz.prog 113 #[.agg #[.int .i64 E,.int .i64 F],.agg #[.bool s,.slice a n cap,.int .i64 x],.bool ng,.int .u8 (md:Int)] W fun e w'=>e = .returned (.tuple #[.int .u64 (bitsR S I md s (rowR B F md s m k x):Int),.int .u8 (flagR B F I md s m k x:Int),.int .i64 0])∧Below W.heap.size W w':=by
 obtain ⟨hc1,hc2⟩:=mine_caps g
 have h0:0 < m:=by omega
 have hn:0 < n:=by have:=g.num.zero; omega
 have hk2:=g.num.bl hk
 have hF:=h.fo.f52
 have hF1:=h.fo.f1
 have hE:=h.fo.e2
 obtain ⟨b2,b1⟩:=bias2 hE hB
 have hI:I = (2 * B+1) * 2 ^ F:=by rw [b2]; exact h.hI
 have hB10:B≤1023:=by
  have:=pow_bound (n:=E - 1) (k:=10) (by have:=h.fo.e11; omega)
  have e10:(2:Nat) ^ 10 = 1024:=by decide
  omega
 obtain ⟨t,ht⟩:∃ t,lastP B F k x = t:=⟨_,rfl⟩
 have htd:=ht
 unfold lastP at htd
 obtain ⟨N,hN⟩:∃ N,cutR md s m x t = N:=⟨_,rfl⟩
 have hNle:N≤2 ^ (F+1):=by rw [← hN]; exact cutR_le hk h0 (by omega)
 have hlo:t = 1 - (B:Int) - (F:Int)∨(1 - (B:Int) - (F:Int) < t∧2 ^ F≤N):=by
  by_cases c:t = 1 - (B:Int) - (F:Int)
  ·exact Or.inl c
  ·exact Or.inr ⟨by omega,by rw [← hN]; exact cutR_ge hk h0 (by omega)⟩
 have hkN:=bl_blen N
 have hiff:=over_iff hkN hNle hlo b1 hI
 have hp53:2 ^ (F+1)≤2 ^ 53:=pow_bound (by omega)
 have e53:(2:Nat) ^ 53 = 9007199254740992:=by decide
 have hkN2:blen N≤64:=hkN.le_of (Nat.lt_of_le_of_lt hNle (Nat.lt_of_le_of_lt hp53 (by decide)))
 have HC:∀ W:World,Num W a n m→Calls Tryz.prog 143 #[.agg #[.bool s,.slice a n cap,.int .i64 x],.int .i64 t,.int .u8 (md:Int)] W fun e w'=>e = .returned (.tuple #[.int .u64 N,.bool (decide (t≤x))])∧Below W.heap.size W w':=fun W g=>by
  have:=cut_any s a n cap m md F k x t W g hc1 hc2 hm hk h0 hF (by omega) (by omega) (by omega)
  rw [hN] at this
  exact this
 have hr:rowR B F md s m k x = (t - (1 - (B:Int) - (F:Int))).toNat * 2 ^ F+N:=by unfold rowR; rw [ht,hN]
 obtain ⟨st,hst⟩:∃ st,(t - (1 - (B:Int) - (F:Int))).toNat = st:=⟨_,rfl⟩
 rw [hst] at hr hiff
 unfold bitsR flagR
 rw [hr,ht]
 by_cases hov:I≤st * 2 ^ F+N
 ·rw [if_neg (show ¬ st * 2 ^ F+N < I by omega),if_pos hov]
  have hov2:=hiff.2 hov
  have hlt:=h.lt
  have hfar:=farther_any md s false 1 hm (Or.inr (Or.inr rfl))
  by_cases hf:fth md s false 1 = true
  ·rw [if_pos hf]
   have hbt:Bt E F ((if s then S else 0)+I) s (2 ^ E - 1) 0:=⟨pow_pos2 _,by have:=pow_pos2 E; omega,by rw [← h.hS,← h.hI]; cases s <;> simp⟩
   refine rounded_over E F B md ng s a n cap m k x t N (blen N) (decide (t≤x)) _ W h.fo (hide hB) g.num hn hk hk2 hA.2 htd (hide HC) (by omega) hkN hkN2 hov2 (hide fun W=>?_)
   exact over_inf E F _ (2 ^ E - 1) md s h.fo W hbt (hide rfl) (hide fun W=>by have:=hfar W; rw [hf] at this; exact this)
  ·rw [if_neg hf]
   have hf':fth md s false 1 = false:=by simpa using hf
   have hp:=pow_pos2 F
   have hE4:2 ^ 2≤2 ^ E:=pow_bound hE
   have hbt:Bt E F ((if s then S else 0)+(I - 1)) s (2 ^ E - 2) (2 ^ F - 1):=by
    refine ⟨by omega,by omega,?_⟩
    have e1:(2 ^ E - 2) * 2 ^ F+(2 ^ F - 1) = I - 1:=by
     rw [h.hI]
     obtain ⟨q,hq⟩:∃ q,2 ^ E = q+2:=⟨2 ^ E - 2,by omega⟩
     rw [hq,show q+2 - 2 = q from by omega,show q+2 - 1 = q+1 from by omega,Nat.add_mul,Nat.one_mul]
     omega
    rw [← h.hS,e1]; cases s <;> simp
   refine rounded_over E F B md ng s a n cap m k x t N (blen N) (decide (t≤x)) _ W h.fo (hide hB) g.num hn hk hk2 hA.2 htd (hide HC) (by omega) hkN hkN2 hov2 (hide fun W=>?_)
   exact over_top E F _ (2 ^ E - 2) (2 ^ F - 1) md s h.fo W hbt (hide (by omega)) (hide rfl) (hide fun W=>by have:=hfar W; rw [hf'] at this; exact this)
 ·rw [if_pos (show st * 2 ^ F+N < I by omega),if_neg hov]
  have hov2:(blen N:Int) - 1+t≤(B:Int):=by
   refine Int.not_lt.1 fun hc=>hov (hiff.1 hc)
  have hp:=pow_pos2 F
  have p1:2 ^ (F+1) = 2 * 2 ^ F:=by rw [Nat.pow_succ,Nat.mul_comm]
  obtain ⟨hd,hhd⟩:∃ hd,hd = N / 2 ^ F:=⟨_,rfl⟩
  have hdm:=Nat.div_add_mod N (2 ^ F)
  have hml:=Nat.mod_lt N hp
  rw [← hhd,Nat.mul_comm] at hdm
  have hd2:hd≤2:=by
   rw [hhd]
   exact Nat.le_of_lt_succ ((Nat.div_lt_iff_lt_mul hp).2 (by omega))
  have hsum:(st+hd) * 2 ^ F+N % 2 ^ F = st * 2 ^ F+N:=by rw [Nat.add_mul]; omega
  have hlt2:st+hd < 2 ^ E - 1:=by
   refine Nat.lt_of_not_le fun hc=>?_
   have:=Nat.mul_le_mul_right (2 ^ F) hc
   rw [← h.hI] at this
   omega
  have hE11:2 ^ E≤2 ^ 11:=pow_bound h.fo.e11
  have e11:(2:Nat) ^ 11 = 2048:=by decide
  have hfr:N % 2 ^ F = N - hd * 2 ^ F:=by omega
  have hbt:Bt E F ((if s then S else 0)+(st * 2 ^ F+N)) s (st+hd) (N % 2 ^ F):=⟨hml,by omega,by rw [hsum,← h.hS]; cases s <;> simp⟩
  have HS9:Hid (t - (1 - (B:Int) - (F:Int)) = (st:Int)):=hide (by omega)
  by_cases hw:t≤x
  ·rw [if_pos hw]
   rw [decide_eq_true hw] at HC
   exact rounded_whole E F B md ng s a n cap m k x t N (blen N) _ st hd (N % 2 ^ F) W h.fo (hide hB) g.num hn hk hk2 hA.2 htd (hide HC) (by omega) hkN hkN2 hov2 HS9 (by omega) hhd hd2 hfr hbt
  ·rw [if_neg hw]
   rw [decide_eq_false hw] at HC
   obtain ⟨N2,hN2⟩:∃ N2,cutR md s m x (x+(k:Int) - 1 - (F:Int)) = N2:=⟨_,rfl⟩
   have hN2le:N2≤2 ^ (F+1):=by rw [← hN2]; exact cutR_le hk h0 (Int.le_refl _)
   have HM:∀ W:World,Num W a n m→Calls Tryz.prog 146 #[.agg #[.bool s,.slice a n cap,.int .i64 x],.int .i64 (x+(k:Int) - 1 - (F:Int)),.int .i64 (1 - (B:Int)),.int .u8 (md:Int)] W fun e w'=>e = .returned (.bool (decide ((blen N2:Int) - 1+(x+(k:Int) - 1 - (F:Int)) < 1 - (B:Int))))∧Below W.heap.size W w':=fun W g=>by
    refine small_is s a n cap x _ _ md N2 (blen N2) (decide (x+(k:Int) - 1 - (F:Int)≤x)) W (hide fun W' hb=>?_) (by omega) (bl_blen N2) ((bl_blen N2).le_of (Nat.lt_of_le_of_lt hN2le (Nat.lt_of_le_of_lt hp53 (by decide)))) (by omega)
    have:=cut_any s a n cap m md F k x (x+(k:Int) - 1 - (F:Int)) W' (g.kept hb) hc1 hc2 hm hk h0 hF (by omega) (by omega) (Int.le_refl _)
    rw [hN2] at this
    exact this
   have hfree:freeR F md s m k x = (blen N2:Int) - 1+(x+(k:Int) - 1 - (F:Int)):=by unfold freeR; rw [hN2]
   rw [hfree]
   by_cases hs:(blen N2:Int) - 1+(x+(k:Int) - 1 - (F:Int)) < 1 - (B:Int)
   ·rw [if_pos hs]
    rw [decide_eq_true hs] at HM
    exact rounded_small E F B md ng s a n cap m k x t N (blen N) _ st hd (N % 2 ^ F) W h.fo (hide hB) g.num hn hk hk2 hA.2 htd (hide HC) (by omega) hkN hkN2 hov2 HS9 (by omega) hhd hd2 hfr hbt (hide HM)
   ·rw [if_neg hs]
    rw [decide_eq_false hs] at HM
    exact rounded_plain E F B md ng s a n cap m k x t N (blen N) _ st hd (N % 2 ^ F) W h.fo (hide hB) g.num hn hk hk2 hA.2 htd (hide HC) (by omega) hkN hkN2 hov2 HS9 (by omega) hhd hd2 hfr hbt (hide HM)
theorem sstand_is (w:World) (s:Bool) (a b:Option Addr) (n c k l x y i j:Nat) (sz e X:Int) (v M:Nat) (hT:Tb w) (h1:Num w a n x) (h2:Num w b k y) (hx:x≠0) (hi:i≤524288) (hj:j≤524288) (hz:(i:Int) - (j:Int) = sz) (hz1:-4096≤sz) (hz2:sz≤4096) (HB1:Hid (HBits x i)) (HB2:Hid (HBits y j)) (HP:Hid HPow0) (HF:Hid (∀ (W:World) (p:Nat) (A:Option Addr) (N C:Nat) (A':Option Addr) (N' C':Nat),Rn W p 0→Num W a n x→Num W A N 1→Num W b k y→Num W A' N' 1→Calls Tryz.prog 141 #[.agg #[.slice a n c,.slice A N C,.slice b k l,.slice A' N' C',.int .i64 0],.pointer (some ⟨p,0,none⟩)] W fun en W'=>(∃ A N C,en = .returned (.tuple #[.agg #[.slice A N C],.int .i64 e])∧Mine W' W.heap.size A N C v)∧Below W.heap.size W W')) (HK:Hid (∀ (W:World) (B:Nat) (A:Option Addr) (N C:Nat),Tb W→Mine W B A N C v→Calls Tryz.prog 57 #[.bool s,.agg #[.slice A N C],.int .i64 e] W fun en W'=>(∃ A N C,en = .returned (.tuple #[.agg #[.bool s,.slice A N C,.int .i64 X],.int .i64 0])∧Mine W' W.heap.size A N C M)∧Below W.heap.size W W')) :
  Calls Tryz.prog 112 #[.agg #[.bool s,.slice a n c,.slice b k l],.int .i64 0] w fun en w'=>(∃ A N C,en = .returned (.tuple #[.agg #[.bool s,.slice A N C,.int .i64 X],.int .i64 0])∧Mine w' w.heap.size A N C M)∧Below w.heap.size w w':=by
 refine calls_sym Tryz.func112 rfl (by kernel_rfl) fun T hK=>?_
 replace hK:Kn T _ [(0,.agg #[.bool s,.slice a n c,.slice b k l]),(1,.int .i64 0)]:=hK
 have hS:=Fb.begin w
 have hG:GsAt [gN a n x,gN b k y] w:=⟨h1,h2,trivial⟩
 refine wq hS hG hK (fun p1=>[.n 2 #[.bool s,.slice a n c,.slice b k l] 41,.n 4 #[.bool false,.slice none 0 0,.int .i64 0] 30,.v 5 (.int .i64 0)]) (fun p1=>[(1,.int .i64 0),(2,pT (p1 0).N 0),(4,pT (p1 1).N 0),(5,.int .i64 0)]) (fun p1=>?_) (fun p1 W1 T hF hK=>?_)
 ·iterate 2 refine okn ?_
  refine okv ?_
  exact ok_nil
 replace hS:=SymF.fc hS hF [1000,1001] [⟨(p1 0).N,#[.bool s,.slice a n c,.slice b k l],41,true⟩,⟨(p1 1).N,#[.bool false,.slice none 0 0,.int .i64 0],30,true⟩]
 replace hG:=hF.gx
 clear hF
 refine wp_seq ?_
 refine wq hS hG hK (fun p2=>[.v 10 (pT (p1 0).N 1),.l 11 (.agg #[.slice a n c]) 0 1,.c (some 12) (cV (.bool false))]) (fun p2=>[(1,.int .i64 0),(2,pT (p1 0).N 0),(4,pT (p1 1).N 0),(5,.int .i64 0),(12,.bool false)]) (fun p2=>?_) (fun p2 W2 T hF hK=>?_)
 ·refine okv ?_
  refine okl ?_
  refine okc (fun W cx=>as_v (snought a _ c _ _ (Num.noz (cx.G.1) hx))) ?_
  exact ok_nil
 obtain ⟨hS,hG⟩:=SymF.fg hS hF
 clear hF
 refine wp_cond_false (hK.ew 12) (wp_skip (then_n ?_))
 refine wq hS hG hK (fun p3=>[.n 6 #[.int .i64 0] 184]) (fun p3=>[(1,.int .i64 0),(2,pT (p1 0).N 0),(4,pT (p1 1).N 0),(5,.int .i64 0),(6,pT (p3 0).N 0),(12,.bool false)]) (fun p3=>?_) (fun p3 W3 T hF hK=>?_)
 ·refine okn ?_
  exact ok_nil
 replace hS:=SymF.fc hS hF [0,1,1000] [⟨(p1 0).N,#[.bool s,.slice a n c,.slice b k l],41,true⟩,⟨(p1 1).N,#[.bool false,.slice none 0 0,.int .i64 0],30,true⟩,⟨(p3 0).N,#[.int .i64 0],184,true⟩]
 replace hG:=hF.gx
 clear hF
 refine wq hS hG hK (fun p4=>[.l 14 (.agg #[.bool s,.slice a n c,.slice b k l]) 0 0,.v 15 (.int .i64 0),.c (some 16) (cV (.int .i64 sz)),.v 7 (.int .i64 sz)]) (fun p4=>[(1,.int .i64 0),(2,pT (p1 0).N 0),(4,pT (p1 1).N 0),(5,.int .i64 0),(6,pT (p3 0).N 0),(7,.int .i64 sz),(12,.bool false)]) (fun p4=>?_) (fun p4 W4 T hF hK=>?_)
 ·refine okl ?_
  refine okv ?_
  refine okc (fun W cx=>as_v (ssize_is _ _ s a b n c k l x y i j sz ⟨_,_,cx.B 2 _ rfl (by kernel_rfl) (by kernel_rfl),rfl⟩ (cx.G.1) (cx.G.2.1) hi hj hz HB1 HB2)) ?_
  refine okv ?_
  exact ok_nil
 obtain ⟨hS,hG⟩:=SymF.fg hS hF
 clear hF
 refine wp_seq ?_
 refine wq hS hG hK (fun p5=>[.v 17 (.int .i64 sz),.v 18 (.bool false),.v 19 (.bool false),.v 20 (.int .i64 sz),.v 21 (.bool false),.v 22 (.bool false)]) (fun p5=>[(1,.int .i64 0),(2,pT (p1 0).N 0),(4,pT (p1 1).N 0),(5,.int .i64 0),(6,pT (p3 0).N 0),(7,.int .i64 sz),(12,.bool false),(22,.bool false)]) (fun p5=>?_) (fun p5 W5 T hF hK=>?_)
 ·refine okv ?_
  refine okvb (decide_eq_false (show ¬ sz > 4096 by omega)) ?_
  iterate 2 refine okv ?_
  refine okvb (decide_eq_false (show ¬ sz < -4096 by omega)) ?_
  refine okv ?_
  exact ok_nil
 obtain ⟨hS,hG⟩:=SymF.fg hS hF
 clear hF
 refine wp_cond_false (hK.ew 22) (wp_skip (then_n ?_))
 refine wq hS hG hK (fun p6=>[.l 31 (.agg #[.bool s,.slice a n c,.slice b k l]) 0 0,.v 32 (.int .i64 0),.c (some 33) (cH W5.heap.size 1 1 fun x9 y9=>.agg #[.slice a n c,x9,.slice b k l,y9,.int .i64 0]),.c (some 34) (cG W5.heap.size v fun x9=>.tuple #[.agg #[x9],.int .i64 e]),.v 30 (.tuple #[.agg #[.slice (p6 3).A (p6 3).N (p6 3).C],.int .i64 e]),.v 35 (.agg #[.slice (p6 3).A (p6 3).N (p6 3).C]),.v 36 (.int .i64 e),.n 8 #[.slice none 0 0] 28,.p 1007 0 [.slice (p6 3).A (p6 3).N (p6 3).C],.v 9 (.int .i64 e)]) (fun p6=>[(2,pT (p1 0).N 0),(4,pT (p1 1).N 0),(5,.int .i64 0),(6,pT (p3 0).N 0),(7,.int .i64 sz),(8,pT (p6 7).N 0),(9,.int .i64 e),(12,.bool false),(22,.bool false)]) (fun p6=>?_) (fun p6 W6 T hF hK=>?_)
 ·refine okl ?_
  refine okv ?_
  refine okc (fun W cx=>as_h cx.hb (sscal_is _ _ s a b n c k l x y ⟨_,_,cx.B 2 _ rfl (by kernel_rfl) (by kernel_rfl),rfl⟩ (cx.G.1) (cx.G.2.1) HP)) ?_
  refine okc (fun W cx=>as_g cx.hb (unhide HF _ _ _ _ (p6 2).C _ _ (p6 2).C' ⟨_,_,cx.B 2 _ rfl (by kernel_rfl) (by kernel_rfl),rfl⟩ (cx.G.1) (Mine.num (And.left (cx.F 2 (by kernel_rfl)))) (cx.G.2.1) (Mine.num (And.right (cx.F 2 (by kernel_rfl)))))) ?_
  iterate 3 refine okv ?_
  refine okn ?_
  refine okp ?_
  refine okv ?_
  exact ok_nil
 replace hS:=SymF.fc hS hF [0,1,2,1007] [⟨(p1 0).N,#[.bool s,.slice a n c,.slice b k l],41,true⟩,⟨(p1 1).N,#[.bool false,.slice none 0 0,.int .i64 0],30,true⟩,⟨(p3 0).N,#[.int .i64 0],184,true⟩,⟨(p6 7).N,#[.slice (p6 3).A (p6 3).N (p6 3).C],28,true⟩]
 replace hG:GsAt (gM W5.heap.size (p6 2).A (p6 2).N (p6 2).C 1 :: gM W5.heap.size (p6 2).A' (p6 2).N' (p6 2).C' 1 :: gM W5.heap.size (p6 3).A (p6 3).N (p6 3).C v :: _) W6:=⟨And.left (hF.fx 2),And.right (hF.fx 2),hF.fx 3,hF.gx⟩
 clear hF
 refine wp_seq ?_
 refine wq hS hG hK (fun p7=>[.v 37 (pT (p3 0).N 0),.v 38 (pT (p3 0).N 0),.l 39 (.int .i64 0) 2 0,.v 40 (.bool false)]) (fun p7=>[(2,pT (p1 0).N 0),(4,pT (p1 1).N 0),(5,.int .i64 0),(6,pT (p3 0).N 0),(7,.int .i64 sz),(8,pT (p6 7).N 0),(9,.int .i64 e),(12,.bool false),(22,.bool false),(40,.bool false)]) (fun p7=>?_) (fun p7 W7 T hF hK=>?_)
 ·iterate 2 refine okv ?_
  refine okl ?_
  refine okv ?_
  exact ok_nil
 obtain ⟨hS,hG⟩:=SymF.fg hS hF
 clear hF
 have z7:=hS.fr.size
 refine wp_cond_false (hK.ew 40) (wp_skip (then_n ?_))
 refine wq hS hG hK (fun p8=>[.v 45 (pT (p1 0).N 0),.l 46 (.bool s) 0 0,.l 47 (.agg #[.slice (p6 3).A (p6 3).N (p6 3).C]) 3 0,.v 48 (.int .i64 e),.c (some 49) (cG W7.heap.size M fun x9=>.tuple #[.agg #[.bool s,x9,.int .i64 X],.int .i64 0]),.v 50 (.agg #[.bool s,.slice (p8 4).A (p8 4).N (p8 4).C,.int .i64 X]),.v 51 (.int .i64 0),.p 1 0 [.bool s,.slice (p8 4).A (p8 4).N (p8 4).C,.int .i64 X],.v 5 (.int .i64 0)]) (fun p8=>[(2,pT (p1 0).N 0),(4,pT (p1 1).N 0),(5,.int .i64 0),(6,pT (p3 0).N 0),(7,.int .i64 sz),(12,.bool false),(22,.bool false),(40,.bool false)]) (fun p8=>?_) (fun p8 W8 T hF hK=>?_)
 ·refine okv ?_
  iterate 2 refine okl ?_
  refine okv ?_
  refine okc (fun W cx=>as_g cx.hb (unhide HK _ _ _ _ _ (hT.kept cx.fr) cx.G.2.2.1)) ?_
  iterate 2 refine okv ?_
  refine okp ?_
  refine okv ?_
  exact ok_nil
 replace hS:=SymF.fc hS hF [0,1,2] [⟨(p1 0).N,#[.bool s,.slice a n c,.slice b k l],41,true⟩,⟨(p1 1).N,#[.bool s,.slice (p8 4).A (p8 4).N (p8 4).C,.int .i64 X],30,true⟩,⟨(p3 0).N,#[.int .i64 0],184,true⟩]
 replace hG:GsAt (gM W7.heap.size (p8 4).A (p8 4).N (p8 4).C M :: _) W8:=⟨hF.fx 4,hF.gx⟩
 clear hF
 refine wp_ret ?_
 exact sym_end hS hK (.tuple #[.agg #[.bool s,.slice (p8 4).A (p8 4).N (p8 4).C,.int .i64 X],.int .i64 0]) [(1,0,3)] [.bool s,.slice (p8 4).A (p8 4).N (p8 4).C,.int .i64 X] (by kernel_rfl) (by kernel_rfl) ⟨⟨_,_,_,rfl,Mine.mono hG.1 z7⟩,hS.fr⟩
theorem sscaled_is (w:World) (E F md:Nat) (s ng:Bool) (a b:Option Addr) (n c k l x y:Nat) (X:Int) (M bt fl:Nat) (hfo:Fo E F) (hm:md≤4) (hT:Tb w) (h1:Num w a n x) (h2:Num w b k y) (HC:Hid (∀ W:World,Num W a n x→Num W b k y→Calls Tryz.prog 115 #[.agg #[.bool s,.slice a n c,.slice b k l]] W fun e W'=>e = .returned (.int .i64 0)∧Below W.heap.size W W')) (HD:Hid (∀ W:World,Tb W→Num W a n x→Num W b k y→Calls Tryz.prog 112 #[.agg #[.bool s,.slice a n c,.slice b k l],.int .i64 0] W fun en W'=>(∃ A N C,en = .returned (.tuple #[.agg #[.bool s,.slice A N C,.int .i64 X],.int .i64 0])∧Mine W' W.heap.size A N C M)∧Below W.heap.size W W')) (HR:Hid (∀ (W:World) (B:Nat) (A:Option Addr) (N C:Nat),Mine W B A N C M→Calls Tryz.prog 113 #[.agg #[.int .i64 E,.int .i64 F],.agg #[.bool s,.slice A N C,.int .i64 X],.bool ng,.int .u8 (md:Int)] W fun e W'=>e = .returned (.tuple #[.int .u64 (bt:Int),.int .u8 (fl:Int),.int .i64 0])∧Below W.heap.size W W')) :
  Calls Tryz.prog 84 #[.agg #[.int .i64 (E:Int),.int .i64 (F:Int)],.agg #[.bool s,.slice a n c,.slice b k l],.int .i64 0,.bool ng,.int .u8 (md:Int)] w fun en w'=>en = .returned (.tuple #[.int .u64 (bt:Int),.int .u8 (fl:Int),.int .i64 0])∧Below w.heap.size w w':=by
 refine calls_sym Tryz.func84 rfl (by kernel_rfl) fun T hK=>?_
 replace hK:Kn T _ [(0,.agg #[.int .i64 (E:Int),.int .i64 (F:Int)]),(1,.agg #[.bool s,.slice a n c,.slice b k l]),(2,.int .i64 0),(3,.bool ng),(4,.int .u8 (md:Int))]:=hK
 have hS:=Fb.begin w
 have hG:GsAt [gN a n x,gN b k y] w:=⟨h1,h2,trivial⟩
 refine wq hS hG hK (fun p1=>[.n 5 #[.int .i64 (E:Int),.int .i64 (F:Int)] 23,.n 6 #[.bool s,.slice a n c,.slice b k l] 41,.v 10 (.int .u64 0),.v 11 (.int .u8 0),.v 12 (.int .i64 0)]) (fun p1=>[(2,.int .i64 0),(3,.bool ng),(4,.int .u8 (md:Int)),(5,pT (p1 0).N 0),(6,pT (p1 1).N 0),(10,.int .u64 0),(11,.int .u8 0),(12,.int .i64 0)]) (fun p1=>?_) (fun p1 W1 T hF hK=>?_)
 ·iterate 2 refine okn ?_
  iterate 3 refine okv ?_
  exact ok_nil
 replace hS:=SymF.fc hS hF [1000,1001] [⟨(p1 0).N,#[.int .i64 (E:Int),.int .i64 (F:Int)],23,true⟩,⟨(p1 1).N,#[.bool s,.slice a n c,.slice b k l],41,true⟩]
 replace hG:=hF.gx
 clear hF
 refine wp_seq ?_
 refine wq hS hG hK (fun p2=>[.l 17 (.agg #[.int .i64 (E:Int),.int .i64 (F:Int)]) 0 0,.c (some 18) (cV (.int .i64 0)),.v 13 (.int .i64 0)]) (fun p2=>[(2,.int .i64 0),(3,.bool ng),(4,.int .u8 (md:Int)),(5,pT (p1 0).N 0),(6,pT (p1 1).N 0),(10,.int .u64 0),(11,.int .u8 0),(12,.int .i64 0),(13,.int .i64 0)]) (fun p2=>?_) (fun p2 W2 T hF hK=>?_)
 ·refine okl ?_
  refine okc (fun W cx=>as_v (check_ok _ _ _ hfo)) ?_
  refine okv ?_
  exact ok_nil
 obtain ⟨hS,hG⟩:=SymF.fg hS hF
 clear hF
 refine wq hS hG hK (fun p3=>[.v 19 (.int .i64 0),.v 20 (.bool false)]) (fun p3=>[(2,.int .i64 0),(3,.bool ng),(4,.int .u8 (md:Int)),(5,pT (p1 0).N 0),(6,pT (p1 1).N 0),(10,.int .u64 0),(11,.int .u8 0),(12,.int .i64 0),(13,.int .i64 0),(20,.bool false)]) (fun p3=>?_) (fun p3 W3 T hF hK=>?_)
 ·iterate 2 refine okv ?_
  exact ok_nil
 obtain ⟨hS,hG⟩:=SymF.fg hS hF
 clear hF
 refine wp_cond_false (hK.ew 20) (wp_skip ?_)
 refine then_n (wp_seq ?_)
 refine wq hS hG hK (fun p4=>[.l 22 (.agg #[.bool s,.slice a n c,.slice b k l]) 1 0,.v 23 (.int .u8 (md:Int)),.c (some 24) (cV (.int .i64 0)),.v 14 (.int .i64 0)]) (fun p4=>[(2,.int .i64 0),(3,.bool ng),(4,.int .u8 (md:Int)),(5,pT (p1 0).N 0),(6,pT (p1 1).N 0),(10,.int .u64 0),(11,.int .u8 0),(12,.int .i64 0),(13,.int .i64 0),(14,.int .i64 0),(20,.bool false)]) (fun p4=>?_) (fun p4 W4 T hF hK=>?_)
 ·refine okl ?_
  refine okv ?_
  refine okc (fun W cx=>as_v (tcheckF_ok s a n c b k l md hm _ (hide fun W9 hb9=>unhide HC W9 (Num.kept (cx.G.1) hb9) (Num.kept (cx.G.2.1) hb9)))) ?_
  refine okv ?_
  exact ok_nil
 obtain ⟨hS,hG⟩:=SymF.fg hS hF
 clear hF
 refine wq hS hG hK (fun p5=>[.v 25 (.int .i64 0),.v 26 (.bool false)]) (fun p5=>[(2,.int .i64 0),(3,.bool ng),(4,.int .u8 (md:Int)),(5,pT (p1 0).N 0),(6,pT (p1 1).N 0),(10,.int .u64 0),(11,.int .u8 0),(12,.int .i64 0),(13,.int .i64 0),(14,.int .i64 0),(20,.bool false),(26,.bool false)]) (fun p5=>?_) (fun p5 W5 T hF hK=>?_)
 ·iterate 2 refine okv ?_
  exact ok_nil
 obtain ⟨hS,hG⟩:=SymF.fg hS hF
 clear hF
 refine wp_cond_false (hK.ew 26) (wp_skip (then_n ?_))
 refine wq hS hG hK (fun p6=>[.l 29 (.agg #[.bool s,.slice a n c,.slice b k l]) 1 0,.v 30 (.int .i64 0),.c (some 31) (cG W5.heap.size M fun x9=>.tuple #[.agg #[.bool s,x9,.int .i64 X],.int .i64 0]),.v 28 (.tuple #[.agg #[.bool s,.slice (p6 2).A (p6 2).N (p6 2).C,.int .i64 X],.int .i64 0]),.v 32 (.agg #[.bool s,.slice (p6 2).A (p6 2).N (p6 2).C,.int .i64 X]),.v 33 (.int .i64 0),.n 15 #[.bool false,.slice none 0 0,.int .i64 0] 30,.p 1006 0 [.bool s,.slice (p6 2).A (p6 2).N (p6 2).C,.int .i64 X],.v 16 (.int .i64 0)]) (fun p6=>[(3,.bool ng),(4,.int .u8 (md:Int)),(5,pT (p1 0).N 0),(10,.int .u64 0),(11,.int .u8 0),(12,.int .i64 0),(13,.int .i64 0),(14,.int .i64 0),(15,pT (p6 6).N 0),(16,.int .i64 0),(20,.bool false),(26,.bool false)]) (fun p6=>?_) (fun p6 W6 T hF hK=>?_)
 ·refine okl ?_
  refine okv ?_
  refine okc (fun W cx=>as_g cx.hb (unhide HD _ (hT.kept cx.fr) (cx.G.1) (cx.G.2.1))) ?_
  iterate 3 refine okv ?_
  refine okn ?_
  refine okp ?_
  refine okv ?_
  exact ok_nil
 replace hS:=SymF.fc hS hF [0,1006] [⟨(p1 0).N,#[.int .i64 (E:Int),.int .i64 (F:Int)],23,true⟩,⟨(p6 6).N,#[.bool s,.slice (p6 2).A (p6 2).N (p6 2).C,.int .i64 X],30,true⟩]
 replace hG:GsAt (gM W5.heap.size (p6 2).A (p6 2).N (p6 2).C M :: _) W6:=⟨hF.fx 2,hF.gx⟩
 clear hF
 refine wp_seq ?_
 refine wq hS hG hK (fun p7=>[.v 34 (.int .i64 0),.v 35 (.bool false)]) (fun p7=>[(3,.bool ng),(4,.int .u8 (md:Int)),(5,pT (p1 0).N 0),(10,.int .u64 0),(11,.int .u8 0),(12,.int .i64 0),(13,.int .i64 0),(14,.int .i64 0),(15,pT (p6 6).N 0),(16,.int .i64 0),(20,.bool false),(26,.bool false),(35,.bool false)]) (fun p7=>?_) (fun p7 W7 T hF hK=>?_)
 ·iterate 2 refine okv ?_
  exact ok_nil
 obtain ⟨hS,hG⟩:=SymF.fg hS hF
 clear hF
 refine wp_cond_false (hK.ew 35) (wp_skip (then_n ?_))
 refine wq hS hG hK (fun p8=>[.l 37 (.agg #[.int .i64 (E:Int),.int .i64 (F:Int)]) 0 0,.l 38 (.agg #[.bool s,.slice (p6 2).A (p6 2).N (p6 2).C,.int .i64 X]) 1 0,.v 39 (.bool ng),.v 40 (.int .u8 (md:Int)),.c (some 41) (cV (.tuple #[.int .u64 (bt:Int),.int .u8 (fl:Int),.int .i64 0])),.v 42 (.int .u64 (bt:Int)),.v 43 (.int .u8 (fl:Int)),.v 44 (.int .i64 0),.v 10 (.int .u64 (bt:Int)),.v 11 (.int .u8 (fl:Int)),.v 12 (.int .i64 0)]) (fun p8=>[(10,.int .u64 (bt:Int)),(11,.int .u8 (fl:Int)),(12,.int .i64 0),(13,.int .i64 0),(14,.int .i64 0),(16,.int .i64 0),(20,.bool false),(26,.bool false),(35,.bool false)]) (fun p8=>?_) (fun p8 W8 T hF hK=>?_)
 ·iterate 2 refine okl ?_
  iterate 2 refine okv ?_
  refine okc (fun W cx=>as_v (unhide HR _ _ _ _ _ cx.G.1)) ?_
  iterate 6 refine okv ?_
  exact ok_nil
 replace hS:=SymF.fc hS hF [] []
 replace hG:=hF.gx
 clear hF
 refine wp_ret ?_
 exact sym_end hS hK (.tuple #[.int .u64 (bt:Int),.int .u8 (fl:Int),.int .i64 0]) [] [] (by kernel_rfl) (by kernel_rfl) ⟨rfl,hS.fr⟩
theorem sratio_w (w:World) (E F md:Nat) (s ng:Bool) (a b:Option Addr) (n c k l x y bt fl:Nat) (h1:Num w a n x) (h2:Num w b k y) (HR:Hid (∀ W:World,Below w.heap.size w W→Num W a n x→Num W b k y→Calls Tryz.prog 84 #[.agg #[.int .i64 E,.int .i64 F],.agg #[.bool s,.slice a n c,.slice b k l],.int .i64 0,.bool ng,.int .u8 (md:Int)] W fun e W'=>e = .returned (.tuple #[.int .u64 (bt:Int),.int .u8 (fl:Int),.int .i64 0])∧Below W.heap.size W W')) :
  Calls Tryz.prog 50 #[.agg #[.int .i64 (E:Int),.int .i64 (F:Int)],.agg #[.bool s,.slice a n c,.slice b k l],.bool ng,.int .u8 (md:Int)] w fun en w'=>en = .returned (.tuple #[.int .u64 (bt:Int),.int .u8 (fl:Int),.int .i64 0])∧Below w.heap.size w w':=by
 refine calls_sym Tryz.func50 rfl (by kernel_rfl) fun T hK=>?_
 replace hK:Kn T _ [(0,.agg #[.int .i64 (E:Int),.int .i64 (F:Int)]),(1,.agg #[.bool s,.slice a n c,.slice b k l]),(2,.bool ng),(3,.int .u8 (md:Int))]:=hK
 have hS:=Fb.begin w
 have hG:GsAt [gN a n x,gN b k y] w:=⟨h1,h2,trivial⟩
 refine wq hS hG hK (fun p1=>[.n 4 #[.int .i64 (E:Int),.int .i64 (F:Int)] 23,.n 5 #[.bool s,.slice a n c,.slice b k l] 41,.v 8 (.int .u64 0),.v 9 (.int .u8 0),.v 10 (.int .i64 0)]) (fun p1=>[(2,.bool ng),(3,.int .u8 (md:Int)),(4,pT (p1 0).N 0),(5,pT (p1 1).N 0),(8,.int .u64 0),(9,.int .u8 0),(10,.int .i64 0)]) (fun p1=>?_) (fun p1 W1 T hF hK=>?_)
 ·iterate 2 refine okn ?_
  iterate 3 refine okv ?_
  exact ok_nil
 replace hS:=SymF.fc hS hF [1000,1001] [⟨(p1 0).N,#[.int .i64 (E:Int),.int .i64 (F:Int)],23,true⟩,⟨(p1 1).N,#[.bool s,.slice a n c,.slice b k l],41,true⟩]
 replace hG:=hF.gx
 clear hF
 refine wq hS hG hK (fun p2=>[.l 11 (.agg #[.int .i64 (E:Int),.int .i64 (F:Int)]) 0 0,.l 12 (.agg #[.bool s,.slice a n c,.slice b k l]) 1 0,.v 13 (.bool ng),.v 14 (.int .u8 (md:Int)),.c (some 15) (cV (.tuple #[.int .u64 (bt:Int),.int .u8 (fl:Int),.int .i64 0])),.v 16 (.int .u64 (bt:Int)),.v 17 (.int .u8 (fl:Int)),.v 18 (.int .i64 0),.v 8 (.int .u64 (bt:Int)),.v 9 (.int .u8 (fl:Int)),.v 10 (.int .i64 0)]) (fun p2=>[(8,.int .u64 (bt:Int)),(9,.int .u8 (fl:Int)),(10,.int .i64 0)]) (fun p2=>?_) (fun p2 W2 T hF hK=>?_)
 ·iterate 2 refine okl ?_
  iterate 2 refine okv ?_
  refine okc (fun W cx=>as_v (unhide HR _ cx.fr (cx.G.1) (cx.G.2.1))) ?_
  iterate 6 refine okv ?_
  exact ok_nil
 replace hS:=SymF.fc hS hF [] []
 replace hG:=hF.gx
 clear hF
 refine wp_ret ?_
 exact sym_end hS hK (.tuple #[.int .u64 (bt:Int),.int .u8 (fl:Int),.int .i64 0]) [] [] (by kernel_rfl) (by kernel_rfl) ⟨rfl,hS.fr⟩
theorem div_pos (a a':Option Addr) (n n' cap cap' m d:Nat) (w:World) (h:Num w a n m) (h':Num w a' n' d) (hd:0 < d) :
  Calls Tryz.prog 98 #[.agg #[.slice a n cap],.agg #[.slice a' n' cap']] w fun e w'=>(∃ aq nq cq ar nr cr,e = .returned (.tuple #[.agg #[.slice aq nq cq],.agg #[.slice ar nr cr],.int .i64 0])∧Mine w' w.heap.size aq nq cq (m / d)∧Mine w' w.heap.size ar nr cr (m % d))∧Below w.heap.size w w':=by
 refine (div_any a a' n n' cap cap' m d w h h').mono ?_
 rintro e w' ⟨h1,hb⟩
 rcases h1 with ⟨h0,_⟩|⟨_,h1⟩
 ·omega
 ·exact ⟨h1,hb⟩
theorem no_over {m K:Nat} (h:m < 2 ^ K) (hK:K≤524288):¬ Over m:=not_over h hK
theorem ans_ok {w:World} {base:Nat} {e:Ending} {m:Nat} (h:Ans w base e m) (hn:¬ Over m):∃ a n cap,e = .returned (.tuple #[.agg #[.slice a n cap],.int .i64 0])∧Mine w base a n cap m:=by
 rcases h with h|⟨_,h⟩
 ·exact h
 ·exact absurd h hn
theorem hbits (m:Nat):HBits m (blen m):=fun W A N C h=>(bits_any A N C m W h).mono fun e W' ⟨⟨k,h1,h2,_⟩,hb⟩=>⟨by rw [h1,h2.uniq (bl_blen m)],hb⟩
theorem hup {m k:Nat} (hk:k < 9223372036854775808) (ho:¬ Over (m * 2 ^ k)):HUp m k (m * 2 ^ k):=fun W A N C h=>(up_any A N C m k W h hk).mono fun _ _ ⟨h1,hb⟩=>⟨ans_ok h1 ho,hb⟩
theorem hmul {x y:Nat} (ho:¬ Over (x * y)):HTwo 34 x y (x * y):=fun W a n c a' n' c' h h'=>(mul_any a a' n n' c c' x y W h h').mono fun _ _ ⟨h1,hb⟩=>⟨ans_ok h1 ho,hb⟩
theorem hadd {x y:Nat} (ho:¬ Over (x+y)):HTwo 165 x y (x+y):=fun W a n c a' n' c' h h'=>(add_any a a' n n' c c' x y W h h').mono fun _ _ ⟨h1,hb⟩=>⟨ans_ok h1 ho,hb⟩
theorem hdiv {x d:Nat} (hd:0 < d):HDiv x d (x / d) (x % d):=fun W a n c a' n' c' h h'=>div_pos a a' n n' c c' x d W h h' hd
theorem hpow0:HPow0:=fun W=>by
 have:=pow_any 5 0 W (by omega) (by omega)
 exact this.mono fun _ _ ⟨h1,hb⟩=>⟨ans_ok h1 (no_over (K:=1) (by decide) (by omega)),hb⟩
def sLift (m d:Nat):Nat:=blen d - blen m
def sOne (m d:Nat):Nat:=m * 2 ^ sLift m d
def sMore (m d:Nat):Nat:=65+blen d - blen (sOne m d)
def sAll (m d:Nat):Nat:=sOne m d * 2 ^ sMore m d
def sAns (m d:Nat):Nat:=if sAll m d % d = 0 then 2 * (sAll m d / d) else 2 * (sAll m d / d)+1
def sExp (m d:Nat):Int:=-(sLift m d:Int) - (sMore m d:Int) - 1
theorem blen_lt {m K:Nat} (h:blen m≤K):m < 2 ^ K:=Nat.lt_of_lt_of_le (bl_blen m).1 (Nat.pow_le_pow_right (by omega) h)
theorem blen_one:blen 1 = 1:=by decide
theorem parts_div {t d f:Nat} (hd:0 < d):t / d * f+t % d * f / d = t * f / d∧t % d * f % d = t * f % d:=by
 have h:=Nat.div_add_mod t d
 have h1:t * f = t % d * f+d * (t / d * f):=by
  conv=>lhs; rw [← h]
  rw [Nat.add_mul,Nat.mul_assoc]; omega
 rw [h1]
 exact ⟨by rw [Nat.add_mul_div_left _ _ hd]; omega,by rw [Nat.add_mul_mod_self_left]⟩
theorem sfirst_any (W:World) (p:Nat) (a1 a2 a3 a4:Option Addr) (n1 n2 n3 n4 c1 c2 c3 c4 m d:Nat) (hk:Rn W p 0) (h1:Num W a1 n1 m) (h2:Num W a2 n2 1) (h3:Num W a3 n3 d) (h4:Num W a4 n4 1) (hd:0 < d) (bm:blen m≤100000) (bd:blen d≤100000) (hr:blen d≤blen m+4096) :
  Calls Tryz.prog 141 #[.agg #[.slice a1 n1 c1,.slice a2 n2 c2,.slice a3 n3 c3,.slice a4 n4 c4,.int .i64 0],.pointer (some ⟨p,0,none⟩)] W fun en W'=>(∃ A N C,en = .returned (.tuple #[.agg #[.slice A N C],.int .i64 (sExp m d)])∧Mine W' W.heap.size A N C (sAns m d))∧Below W.heap.size W W':=by
 obtain ⟨lift,hlift⟩:∃ lift,sLift m d = lift:=⟨_,rfl⟩
 obtain ⟨t1,ht1⟩:∃ t1,sOne m d = t1:=⟨_,rfl⟩
 obtain ⟨more,hmore⟩:∃ more,sMore m d = more:=⟨_,rfl⟩
 have el:lift≤4096:=by rw [← hlift]; unfold sLift; omega
 have em:more≤100065:=by rw [← hmore]; unfold sMore; omega
 obtain ⟨K0,hK0⟩:∃ K,K = 100000:=⟨_,rfl⟩
 obtain ⟨K4,hK4⟩:∃ K,K = 4096:=⟨_,rfl⟩
 obtain ⟨K1,hK1⟩:∃ K,K = 104096:=⟨_,rfl⟩
 obtain ⟨K2,hK2⟩:∃ K,K = 100065:=⟨_,rfl⟩
 obtain ⟨K3,hK3⟩:∃ K,K = 204161:=⟨_,rfl⟩
 have b1:t1 < 2 ^ K1:=by
  rw [← ht1]; unfold sOne
  rw [hlift,show K1 = K0+K4 from by omega,Nat.pow_add]
  exact Nat.mul_lt_mul_of_lt_of_le (blen_lt (by omega)) (Nat.pow_le_pow_right (by omega) (by omega)) (Nat.pow_pos (by omega))
 have b2:2 ^ more≤2 ^ K2:=Nat.pow_le_pow_right (by omega) (by omega)
 have b3:t1 * 2 ^ more < 2 ^ K3:=by
  rw [show K3 = K1+K2 from by omega,Nat.pow_add]
  exact Nat.mul_lt_mul_of_lt_of_le b1 b2 (Nat.pow_pos (by omega))
 have hall:sAll m d = t1 * 2 ^ more:=by unfold sAll; rw [ht1,hmore]
 obtain ⟨e1,e2⟩:=parts_div (t:=t1) (f:=2 ^ more) hd
 have hq:t1 * 2 ^ more / d≤t1 * 2 ^ more:=Nat.div_le_self _ _
 have l1:t1 / d * 2 ^ more≤t1 * 2 ^ more / d:=by rw [← e1]; exact Nat.le_add_right _ _
 have l2:t1 % d * 2 ^ more≤t1 * 2 ^ more:=Nat.mul_le_mul_right _ (Nat.mod_le _ _)
 have i5:blen t1≤104096:=by have:=(bl_blen t1).le_of b1; omega
 have p0:2 ^ K3 * 2 = 2 ^ (K3+1):=(Nat.pow_succ ..).symm
 have lt9:∀ {v:Nat},v < 2 ^ K3 * 2→¬ Over v:=fun {v} h=>no_over (K:=K3+1) (by rw [← p0]; exact h) (by omega)
 obtain ⟨T,hT⟩:∃ T,2 ^ K3 = T:=⟨_,rfl⟩
 rw [hT] at b3 lt9
 have hT1:1 < T:=by rw [← hT]; exact Nat.one_lt_two_pow (by omega)
 clear p0 hT
 have key:=sfirst_is W p a1 a2 a3 a4 n1 n2 n3 n4 c1 c2 c3 c4 m 1 d 1 (blen m) 1 (blen d) 1 (blen t1) lift more t1 (2 ^ more) (t1 / d) (t1 % d) (t1 % d * 2 ^ more / d) (t1 / d * 2 ^ more) (t1 * 2 ^ more / d) (t1 * 2 ^ more / d) 0 (t1 * 2 ^ more / d * 2) (t1 * 2 ^ more / d * 2+1) 0 ((blen t1:Int) - (blen d:Int)) (!decide (t1 % d * 2 ^ more % d = 0)) (sAns m d) hk h1 h2 h3 h4 (by omega) (by omega) (by omega) (by omega) (by omega)
  (by rw [← hlift]; unfold sLift; omega) (by omega) (by rw [← hmore]; unfold sMore; rw [ht1]; omega) (by omega) (by omega) (by omega) (by omega)
  (hide (by
   rw [e2]
   unfold sAns
   rw [hall]
   by_cases hz:t1 * 2 ^ more % d = 0
   ·right; right
    rw [if_pos hz]
    exact ⟨by simp [hz],rfl,by omega⟩
   ·left
    rw [if_neg hz]
    exact ⟨by simp [hz],by omega⟩))
  (hide (hbits m)) (hide (by have:=hbits 1; rw [blen_one] at this; exact this)) (hide (hbits d)) (hide (by have:=hbits 1; rw [blen_one] at this; exact this)) (hide (hbits t1))
  (hide (by have:=hup (m:=m) (k:=lift) (by omega) (by rw [← hlift]; exact no_over (K:=K1) (by have:=b1; rw [← ht1] at this; exact this) (by omega)); rw [show m * 2 ^ lift = t1 from by rw [← ht1,← hlift]; rfl] at this; exact this))
  (hide (by have:=hup (m:=1) (k:=more) (by omega) (by rw [Nat.one_mul]; exact no_over (K:=K2+1) (Nat.lt_of_le_of_lt b2 (Nat.pow_lt_pow_right (by omega) (by omega))) (by omega)); rw [Nat.one_mul] at this; exact this))
  (hide (hdiv hd))
  (hide fun W a n c b k l d9 m9 e9 q1 q2 q3 q4=>sshare_is W p a b d9 n c k l m9 e9 (t1 % d) (2 ^ more) d (t1 % d * 2 ^ more) _ _ q1 q2 q3 q4 (hide (hmul (lt9 (by omega)))) (hide (hdiv hd)))
  (hide (hmul (lt9 (by omega)))) (hide (by have:=hadd (x:=t1 / d * 2 ^ more) (y:=t1 % d * 2 ^ more / d) (lt9 (by omega)); rw [e1] at this; exact this))
  (hide (by have:=hdiv (x:=t1 * 2 ^ more / d) (d:=1) (by omega); rw [Nat.div_one,Nat.mod_one] at this; exact this))
  (hide (by have:=hup (m:=t1 * 2 ^ more / d) (k:=1) (by omega) (lt9 (by rw [Nat.pow_one]; omega)); rw [Nat.pow_one] at this; exact this))
  (hide (hadd (lt9 (by omega))))
 have ee:(0:Int) - (lift:Int) - (more:Int) - 1 = sExp m d:=by unfold sExp; rw [hlift,hmore]; omega
 rw [ee] at key
 exact key
theorem sratio_is {E F S I B md:Nat} (h:Fm E F S I) (hB:B = 2 ^ (E - 1) - 1) (hm:md≤4) (ng s:Bool) (a b:Option Addr) (n c k l m d:Nat) (w:World) (hT:Tb w) (h1:Num w a n m) (h2:Num w b k d) (h0:m≠0) (hd:0 < d) (bm:blen m≤100000) (bd:blen d≤100000) (hr1:blen d≤blen m+4096) (hr2:blen m≤blen d+4096)
  (HC:Hid (∀ W:World,Num W a n m→Num W b k d→Calls Tryz.prog 115 #[.agg #[.bool s,.slice a n c,.slice b k l]] W fun e W'=>e = .returned (.int .i64 0)∧Below W.heap.size W W')) (z M K:Nat) (X:Int) (hz:Tz (sAns m d) z) (hz2:z≤300000) (hM:sAns m d / 2 ^ z = M) (hX:sExp m d+(z:Int) = X) (hK:Bl M K) :
  Calls Tryz.prog 50 #[.agg #[.int .i64 E,.int .i64 F],.agg #[.bool s,.slice a n c,.slice b k l],.bool ng,.int .u8 (md:Int)] w fun e w'=>e = .returned (.tuple #[.int .u64 (bitsR S I md s (rowR B F md s M K X):Int),.int .u8 (flagR B F I md s M K X:Int),.int .i64 0])∧Below w.heap.size w w':=by
 obtain ⟨q,hq⟩:=hz
 have hMq:M = 2 * q+1:=by rw [← hM,hq,Nat.mul_div_cancel_left _ (Nat.pow_pos (by omega))]
 have hX2:-204200≤sExp m d∧sExp m d≤0:=by unfold sExp sLift sMore; omega
 refine sratio_w w E F md s ng a b n c k l m d _ _ h1 h2 (hide fun W hb q1 q2=>?_)
 refine sscaled_is W E F md s ng a b n c k l m d X M _ _ h.fo hm (hT.kept hb) q1 q2 HC (hide fun W t9 r1 r2=>?_) (hide fun W B9 A N C g=>?_)
 ·refine sstand_is W s a b n c k l m d (blen m) (blen d) ((blen m:Int) - (blen d:Int)) (sExp m d) X (sAns m d) M t9 r1 r2 h0 (by omega) (by omega) rfl (by omega) (by omega) (hide (hbits m)) (hide (hbits d)) (hide hpow0) (hide fun W p A N C A' N' C' x1 x2 x3 x4 x5=>sfirst_any W p a A b A' n N k N' c C l C' m d x1 x2 x3 x4 x5 hd bm bd hr1) (hide fun W B9 A N C t8 g=>?_)
  obtain ⟨g1,g2⟩:=mine_caps g
  have:=make_ok s A N C (sAns m d) z (sExp m d) W g.num (by rw [hq]; exact Nat.mul_pos (Nat.pow_pos (by omega)) (by omega)) t8 ⟨q,hq⟩ (by omega) g1 g2 (by omega)
  rw [hM,hX] at this
  exact this
 ·exact rounded_any h hB hm ng s A N C M K X W B9 g ⟨by omega,by omega,by omega⟩ hK
def hlf (r w:Nat):Int:=if 2 * r < w then -1 else if 2 * r = w then 0 else 1
def rnd (md:Nat) (s:Bool) (p w:Nat):Nat:=p / w+(if p % w = 0 then 0 else if fth md s (decide (p / w % 2 = 1)) (hlf (p % w) w) then 1 else 0)
theorem fth_mono {md:Nat} {s o:Bool} {h h':Int} (hle:h≤h') (hf:fth md s o h = true):fth md s o h' = true:=by
 match md with
 | 0=>
  simp only [fth,Bool.or_eq_true,Bool.and_eq_true,decide_eq_true_eq] at hf ⊢
  rcases hf with hf|⟨hf,ho⟩
  ·left; omega
  ·by_cases h0:h' = 0
   ·exact Or.inr ⟨h0,ho⟩
   ·left; omega
 | 1=>simp only [fth,decide_eq_true_eq] at hf ⊢; omega
 | 2=>simp [fth] at hf
 | 3=>simpa [fth] using hf
 | n+4=>simpa [fth] using hf
theorem hlf_mono {r w r' w':Nat} (hw:0 < w) (hw':0 < w') (h:r * w'≤r' * w):hlf r w≤hlf r' w':=by
 have k1:2 * r' < w'→2 * r < w:=fun h1=>by
  refine Nat.lt_of_not_le fun h2=>?_
  have a1:=Nat.mul_le_mul_right w' h2
  have a2:=Nat.mul_lt_mul_of_pos_right h1 hw
  have a3:2 * r * w' = 2 * (r * w'):=Nat.mul_assoc ..
  have a4:2 * r' * w = 2 * (r' * w):=Nat.mul_assoc ..
  have a5:=Nat.mul_comm w w'
  omega
 have k2:2 * r' = w'→2 * r≤w:=fun h1=>by
  refine Nat.le_of_not_lt fun h2=>?_
  have a1:=Nat.mul_lt_mul_of_pos_right h2 hw'
  have a3:2 * r * w' = 2 * (r * w'):=Nat.mul_assoc ..
  have a4:2 * r' * w = 2 * (r' * w):=Nat.mul_assoc ..
  have a5:=Nat.mul_comm w w'
  rw [h1] at a4
  omega
 unfold hlf
 split <;> split <;> (try split) <;> (try split) <;> omega
theorem rnd_mono {md:Nat} {s:Bool} {p w p' w':Nat} (hw:0 < w) (hw':0 < w') (h:p * w'≤p' * w):rnd md s p w≤rnd md s p' w':=by
 have hq:p / w≤p' / w':=by
  rw [Nat.le_div_iff_mul_le hw']
  have h1:p / w * w≤p:=Nat.div_mul_le_self p w
  have h2:=Nat.mul_le_mul_right w' h1
  refine Nat.le_of_mul_le_mul_right (c:=w) ?_ hw
  have a1:p / w * w' * w = p / w * w * w':=Nat.mul_right_comm ..
  omega
 have i1:rnd md s p w≤p / w+1:=by unfold rnd; split <;> (try split) <;> omega
 have i2:p' / w'≤rnd md s p' w':=by unfold rnd; omega
 rcases Nat.lt_or_ge (p / w) (p' / w') with h1|h1
 ·omega
 ·have e:p / w = p' / w':=by omega
  have hr:p % w * w'≤p' % w' * w:=by
   have d1:=Nat.div_add_mod p w
   have d2:=Nat.div_add_mod p' w'
   rw [← d1,← d2,Nat.add_mul,Nat.add_mul,← e] at h
   have a1:w * (p / w) * w' = w' * (p / w) * w:=by rw [Nat.mul_comm w (p / w),Nat.mul_comm w' (p / w),Nat.mul_right_comm]
   omega
  unfold rnd
  rw [← e]
  by_cases h0:p % w = 0
  ·rw [if_pos h0]; omega
  ·rw [if_neg h0]
   have h0':p' % w'≠0:=fun hc=>by
    rw [hc,Nat.zero_mul] at hr
    have:=Nat.mul_pos (Nat.pos_of_ne_zero h0) hw'
    omega
   rw [if_neg h0']
   have hm:=hlf_mono hw hw' hr
   by_cases hf:fth md s (decide (p / w % 2 = 1)) (hlf (p % w) w) = true
   ·rw [if_pos hf,if_pos (fth_mono hm hf)]; exact Nat.le_refl _
   ·rw [if_neg hf]; omega
theorem ahf_hlf {M dr:Nat} (ho:M % 2 = 1) (h1:1≤dr):ahf M dr = hlf (M % 2 ^ dr) (2 ^ dr):=by
 obtain ⟨k,rfl⟩:∃ k,dr = k+1:=⟨dr - 1,by omega⟩
 have hp:2 ^ (k+1) = 2 * 2 ^ k:=by rw [Nat.pow_succ,Nat.mul_comm]
 have hpk:=Nat.pow_pos (n:=k) (show 0 < 2 by omega)
 have hm:M % 2 ^ (k+1) = M % 2 ^ k+2 ^ k * (M / 2 ^ k % 2):=by rw [Nat.pow_succ,Nat.mod_mul]
 have hl:=Nat.mod_lt M hpk
 unfold ahf hlf
 rw [show k+1 - 1 = k from by omega,hm,hp]
 by_cases hb:M / 2 ^ k % 2 = 1
 ·rw [if_pos hb,hb,Nat.mul_one]
  by_cases hk:k = 0
  ·subst hk
   simp [Nat.mod_one]
  ·have hodd:M % 2 ^ k % 2 = 1:=by
    rw [Nat.mod_mod_of_dvd _ (Nat.dvd_of_mod_eq_zero (by rw [show k = (k - 1)+1 from by omega,Nat.pow_succ]; exact Nat.mul_mod_left ..))]; exact ho
   rw [if_neg (by omega),if_neg (by omega),if_neg (by omega)]
 ·have h0:M / 2 ^ k % 2 = 0:=by omega
  rw [if_neg hb,h0,Nat.mul_zero,if_pos (by omega)]
theorem hlf_scale {r w c:Nat} (hc:0 < c):hlf (c * r) (c * w) = hlf r w:=by
 have a1:2 * (c * r) = c * (2 * r):=Nat.mul_left_comm ..
 unfold hlf
 rw [a1]
 have e1:(c * (2 * r) < c * w) = (2 * r < w):=propext (Nat.mul_lt_mul_left hc)
 have e2:(c * (2 * r) = c * w) = (2 * r = w):=propext (Nat.mul_right_inj (by omega))
 simp only [e1,e2]
theorem cut_std {md:Nat} {s:Bool} {n d D A z M:Nat} {X t:Int} (hd:0 < d) (hA:A = if n % d = 0 then 2 * (n / d) else 2 * (n / d)+1) (hz:A = M * 2 ^ z) (ho:M % 2 = 1) (hD:2≤D) (hXt:(D:Int) = t - X+(z:Int)):cutR md s M X t = rnd md s n (d * 2 ^ (D - 1)):=by
 have p2:∀ k,0 < 2 ^ k:=fun k=>Nat.pow_pos (by omega)
 obtain ⟨e,rfl⟩:∃ e,D = e+2:=⟨D - 2,by omega⟩
 rw [show e+2 - 1 = e+1 from by omega]
 have hdm:=Nat.div_add_mod n d
 have hml:=Nat.mod_lt n hd
 obtain ⟨Q,hQ⟩:∃ Q,n / d = Q:=⟨_,rfl⟩
 obtain ⟨ρ,hρ⟩:∃ ρ,n % d = ρ:=⟨_,rfl⟩
 rw [hQ,hρ] at hdm hA
 rw [hρ] at hml
 have hpe:2 ^ (e+2) = 2 * 2 ^ (e+1):=by rw [Nat.pow_succ,Nat.mul_comm]
 have hpe1:2 ^ (e+1) = 2 * 2 ^ e:=by rw [Nat.pow_succ,Nat.mul_comm]
 have hdiv:n / (d * 2 ^ (e+1)) = Q / 2 ^ (e+1):=by rw [← Nat.div_div_eq_div_mul,hQ]
 obtain ⟨c,hc⟩:∃ c,Q / 2 ^ (e+1) = c:=⟨_,rfl⟩
 obtain ⟨q',hq'⟩:∃ q',Q % 2 ^ (e+1) = q':=⟨_,rfl⟩
 have hQd:=Nat.div_add_mod Q (2 ^ (e+1))
 have hql:=Nat.mod_lt Q (p2 (e+1))
 rw [hc,hq'] at hQd
 rw [hq'] at hql
 have hrem:n % (d * 2 ^ (e+1)) = d * q'+ρ:=by
  rw [Nat.mod_mul,hρ,hQ,hq']; omega
 have hA2:A / 2 ^ (e+2) = c∧A % 2 ^ (e+2) = 2 * q'+(if ρ = 0 then 0 else 1):=by
  have e1:A = 2 ^ (e+2) * c+(2 * q'+(if ρ = 0 then 0 else 1)):=by
   rw [hA,hpe,← hQd,Nat.mul_assoc]; split <;> omega
  have e2:2 * q'+(if ρ = 0 then 0 else 1) < 2 ^ (e+2):=by rw [hpe]; split <;> omega
  rw [e1]
  exact ⟨by rw [Nat.mul_add_div (p2 _),Nat.div_eq_of_lt e2]; omega,by rw [Nat.mul_add_mod,Nat.mod_eq_of_lt e2]⟩
 unfold cutR rnd
 rw [hdiv,hc,hrem]
 by_cases htX:t≤X
 ·rw [if_pos htX]
  obtain ⟨y,hy⟩:∃ y:Nat,(X - t).toNat = y:=⟨_,rfl⟩
  have hzy:z = (e+2)+y:=by omega
  have h1:A = 2 ^ (e+2) * (M * 2 ^ y):=by rw [hz,hzy,Nat.pow_add,Nat.mul_left_comm]
  have h2:A % 2 ^ (e+2) = 0:=by rw [h1]; exact Nat.mul_mod_right ..
  have h3:A / 2 ^ (e+2) = M * 2 ^ y:=by rw [h1]; exact Nat.mul_div_cancel_left _ (p2 _)
  rw [h2] at hA2
  have h4:q' = 0∧ρ = 0:=by
   have:=hA2.2
   split at this <;> omega
  rw [hy,← h3,hA2.1,h4.1,h4.2]
  simp
 ·rw [if_neg htX]
  obtain ⟨dr,hdr⟩:∃ dr:Nat,(t - X).toNat = dr:=⟨_,rfl⟩
  have hzd:e+2 = z+dr:=by omega
  have hdr1:1≤dr:=by omega
  have h1:M / 2 ^ dr = c:=by
   rw [← hA2.1,hz,hzd,Nat.pow_add,Nat.mul_comm M,Nat.mul_div_mul_left _ _ (p2 z)]
  have h2:2 ^ z * (M % 2 ^ dr) = 2 * q'+(if ρ = 0 then 0 else 1):=by
   rw [← hA2.2,hz,hzd,Nat.pow_add,Nat.mul_comm M,Nat.mul_mod_mul_left]
  have h3:M % 2 ^ dr≠0:=fun hc0=>by
   have:M % 2 ^ dr % 2 = 1:=by
    rw [Nat.mod_mod_of_dvd _ (Nat.dvd_of_mod_eq_zero (by rw [show dr = (dr - 1)+1 from by omega,Nat.pow_succ]; exact Nat.mul_mod_left ..))]; exact ho
   rw [hc0] at this; cases this
  have h4:d * q'+ρ≠0:=fun hc0=>by
   have hr0:ρ = 0:=by omega
   have hq0:d * q' = 0:=by omega
   have hq1:q' = 0:=by rcases Nat.mul_eq_zero.1 hq0 with h|h <;> omega
   rw [hr0,hq1] at h2
   rcases Nat.mul_eq_zero.1 (h2.trans (by simp)) with h|h
   ·have:=p2 z; omega
   ·exact h3 h
  rw [if_neg h4]
  unfold cutN
  rw [hdr,h1,ahf_hlf ho hdr1,← hlf_scale (p2 z),h2,← Nat.pow_add,← hzd]
  have hh:hlf (2 * q'+(if ρ = 0 then 0 else 1)) (2 ^ (e+2)) = hlf (d * q'+ρ) (d * 2 ^ (e+1)):=by
   rw [hpe,hpe1]
   obtain ⟨H,hH⟩:∃ H,2 ^ e = H:=⟨_,rfl⟩
   rw [hH]
   have m1:d * (2 * H) = 2 * (d * H):=Nat.mul_left_comm ..
   rw [m1]
   unfold hlf
   rcases Nat.lt_trichotomy q' H with hlt|heq|hgt
   ·have g1:d * q'+d≤d * H:=by rw [← Nat.mul_succ]; exact Nat.mul_le_mul_left d hlt
    rw [if_pos (by split <;> omega),if_pos (by omega)]
   ·subst heq
    by_cases hr:ρ = 0
    ·subst hr
     simp only [if_true]
     rw [if_neg (by omega),if_pos (by omega),if_neg (by omega),if_pos (by omega)]
    ·simp only [hr,if_false]
     rw [if_neg (by omega),if_neg (by omega),if_neg (by omega),if_neg (by omega)]
   ·have g1:d * H+d≤d * q':=by rw [← Nat.mul_succ]; exact Nat.mul_le_mul_left d hgt
    rw [if_neg (by split <;> omega),if_neg (by split <;> omega),if_neg (by omega),if_neg (by omega)]
  rw [hh]
theorem Bl.two {m k z:Nat} (h:Bl m k) (h0:0 < m):Bl (2 ^ z * m) (k+z):=by
 have hk:k≠0:=fun e=>by have:=h.1; rw [e] at this; simp at this; omega
 have hp:0 < 2 ^ z:=Nat.pow_pos (by omega)
 refine ⟨?_,Or.inr ?_⟩
 ·rw [Nat.add_comm k z,Nat.pow_add]; exact Nat.mul_lt_mul_of_pos_left h.1 hp
 ·rcases h.2 with h2|h2
  ·exact absurd h2 hk
  ·rw [show k+z - 1 = z+(k - 1) from by omega,Nat.pow_add]; exact Nat.mul_le_mul_left _ h2
theorem Bl.odd {m k:Nat} (h:Bl m k) (h0:0 < m):Bl (2 * m+1) (k+1):=by
 have h1:=(h.two (z:=1) h0)
 rw [Nat.pow_one] at h1
 have hk:k≠0:=fun e=>by have:=h.1; rw [e] at this; simp at this; omega
 have e1:2 ^ (k+1) = 2 * 2 ^ k:=by rw [Nat.pow_succ,Nat.mul_comm]
 refine ⟨?_,Or.inr ?_⟩
 ·have:=h.1; omega
 ·rcases h1.2 with h2|h2
  ·omega
  ·omega
structure Std (m d j n b z M K:Nat) (X:Int):Prop where
 hn:n = m * 2 ^ j
 hd:0 < d
 hA:(if n % d = 0 then 2 * (n / d) else 2 * (n / d)+1) = M * 2 ^ z
 ho:M % 2 = 1
 hK:Bl M K
 hb:Bl (n / d) b
 b65:65≤b
 hX:X = -(j:Int) - 1+(z:Int)
theorem Std.e {m d j n b z M K:Nat} {X:Int} (h:Std m d j n b z M K X):X+(K:Int) - 1 = (b:Int) - 1 - (j:Int):=by
 have hM:0 < M:=by have:=h.ho; omega
 have hQ:0 < n / d:=by
  refine Nat.pos_of_ne_zero fun e=>?_
  have h2:=h.hb.2
  rw [e] at h2
  have:=Nat.pow_pos (n:=b - 1) (show 0 < 2 by omega)
  have:=h.b65
  omega
 have h1:=h.hK.two (z:=z) hM
 rw [Nat.mul_comm,← h.hA] at h1
 have h2:Bl (if n % d = 0 then 2 * (n / d) else 2 * (n / d)+1) (b+1):=by
  split
  ·have:=h.hb.two (z:=1) hQ; rw [Nat.pow_one] at this; exact this
  ·exact h.hb.odd hQ
 have h3:=h1.uniq h2
 rw [h.hX]; omega
theorem Std.row {m d j n b z M K:Nat} {X:Int} (h:Std m d j n b z M K X) {B F md:Nat} {s:Bool} (hF:F≤52):∃ D:Nat,(D:Int) = lastP B F K X+(j:Int)+1∧2≤D∧cutR md s M X (lastP B F K X) = rnd md s n (d * 2 ^ (D - 1)):=by
 have he:=h.e
 have hb:=h.b65
 have hX:=h.hX
 have hl:(b:Int) - 1 - (j:Int) - (F:Int)≤lastP B F K X:=by unfold lastP; omega
 obtain ⟨D,hD⟩:∃ D:Nat,(D:Int) = lastP B F K X+(j:Int)+1:=⟨(lastP B F K X+(j:Int)+1).toNat,by omega⟩
 exact ⟨D,hD,by omega,cut_std (z:=z) h.hd rfl h.hA h.ho (by omega) (by omega)⟩
theorem std_of {m d z q:Nat} (h0:0 < m) (hd:0 < d) (hz:sAns m d = 2 ^ z * (2 * q+1)) {K:Nat} (hK:Bl (2 * q+1) K):Std m d (sLift m d+sMore m d) (sAll m d) (blen (sAll m d / d)) z (2 * q+1) K (sExp m d+(z:Int)):=by
 have hn:sAll m d = m * 2 ^ (sLift m d+sMore m d):=by unfold sAll sOne; rw [Nat.pow_add,Nat.mul_assoc]
 refine ⟨hn,hd,by unfold sAns at hz; rw [hz,Nat.mul_comm],by omega,hK,bl_blen _,?_,by unfold sExp; omega⟩
 have h1:0 < sOne m d:=Nat.mul_pos h0 (Nat.pow_pos (by omega))
 have bt:=bl_blen (sOne m d)
 have bd:=bl_blen d
 have ht:2 ^ (blen (sOne m d) - 1)≤sOne m d:=by
  rcases bt.2 with e|e
  ·have:=bt.1; rw [e] at this; simp at this; omega
  ·exact e
 have ht0:blen (sOne m d)≠0:=fun e=>by have:=bt.1; rw [e] at this; simp at this; omega
 have h2:2 ^ (64+blen d)≤sAll m d:=by
  unfold sAll
  refine Nat.le_trans ?_ (Nat.mul_le_mul_right _ ht)
  rw [← Nat.pow_add]
  exact Nat.pow_le_pow_right (by omega) (by unfold sMore; omega)
 have h3:2 ^ 64≤sAll m d / d:=by
  rw [Nat.le_div_iff_mul_le hd]
  refine Nat.le_trans ?_ h2
  rw [Nat.pow_add]
  exact Nat.mul_le_mul_left _ (Nat.le_of_lt bd.1)
 exact (bl_blen _).gt_of h3
structure Sti (m q d i j n b z M K:Nat) (X:Int):Prop where
 hn:n * q * 2 ^ i = m * d * 2 ^ j
 hq:0 < q
 hd:0 < d
 hA:(if n % d = 0 then 2 * (n / d) else 2 * (n / d)+1) = M * 2 ^ z
 ho:M % 2 = 1
 hK:Bl M K
 hb:Bl (n / d) b
 b60:60≤b
 hX:X = (i:Int) - (j:Int) - 1+(z:Int)
theorem Std.sti {m d j n b z M K:Nat} {X:Int} (h:Std m d j n b z M K X):Sti m d d 0 j n b z M K X:=
 ⟨by rw [Nat.pow_zero,Nat.mul_one,h.hn]; ac_rfl,h.hd,h.hd,h.hA,h.ho,h.hK,h.hb,by have:=h.b65; omega,by rw [h.hX]; omega⟩
theorem Sti.e {m q d i j n b z M K:Nat} {X:Int} (h:Sti m q d i j n b z M K X):X+(K:Int) - 1 = (b:Int) - 1 - (j:Int)+(i:Int):=by
 have hM:0 < M:=by have:=h.ho; omega
 have hQ:0 < n / d:=by
  refine Nat.pos_of_ne_zero fun e=>?_
  have h2:=h.hb.2
  rw [e] at h2
  have:=Nat.pow_pos (n:=b - 1) (show 0 < 2 by omega)
  have:=h.b60
  omega
 have h1:=h.hK.two (z:=z) hM
 rw [Nat.mul_comm,← h.hA] at h1
 have h2:Bl (if n % d = 0 then 2 * (n / d) else 2 * (n / d)+1) (b+1):=by
  split
  ·have:=h.hb.two (z:=1) hQ; rw [Nat.pow_one] at this; exact this
  ·exact h.hb.odd hQ
 have h3:=h1.uniq h2
 rw [h.hX]; omega
theorem Sti.cut {m q d i j n b z M K:Nat} {X t:Int} (h:Sti m q d i j n b z M K X) (md:Nat) (s:Bool) (ht:X+(K:Int) - 1 - 52≤t):∃ D:Nat,(D:Int) = t+(j:Int) - (i:Int)+1∧2≤D∧cutR md s M X t = rnd md s n (d * 2 ^ (D - 1)):=by
 have he:=h.e
 have hb:=h.b60
 have hX:=h.hX
 obtain ⟨D,hD⟩:∃ D:Nat,(D:Int) = t+(j:Int) - (i:Int)+1:=⟨(t+(j:Int) - (i:Int)+1).toNat,by omega⟩
 exact ⟨D,hD,by omega,cut_std (z:=z) h.hd rfl h.hA h.ho (by omega) (by omega)⟩
theorem cross_pow {n m q d i j n' m' q' d' i' j' D D':Nat} (h1:n * q * 2 ^ i = m * d * 2 ^ j) (h2:n' * q' * 2 ^ i' = m' * d' * 2 ^ j') (hq:0 < q) (hq':0 < q') (hle:m * q'≤m' * q) (hD:D+j'+i = D'+j+i'):n * (d' * 2 ^ D')≤n' * (d * 2 ^ D):=by
 have hp2:0 < q * q' * 2 ^ (i+i'):=Nat.mul_pos (Nat.mul_pos hq hq') (Nat.pow_pos (by omega))
 have a1:n * (d' * 2 ^ D') * (q * q' * 2 ^ (i+i')) = m * q' * (d * d' * 2 ^ (j+D'+i')):=by
  have:n * (d' * 2 ^ D') * (q * q' * 2 ^ (i+i')) = n * q * 2 ^ i * (d' * q' * (2 ^ D' * 2 ^ i')):=by rw [Nat.pow_add]; ac_rfl
  rw [this,h1,Nat.pow_add,Nat.pow_add]; ac_rfl
 have a2:n' * (d * 2 ^ D) * (q * q' * 2 ^ (i+i')) = m' * q * (d * d' * 2 ^ (j'+D+i)):=by
  have:n' * (d * 2 ^ D) * (q * q' * 2 ^ (i+i')) = n' * q' * 2 ^ i' * (d * q * (2 ^ D * 2 ^ i)):=by rw [Nat.pow_add]; ac_rfl
  rw [this,h2,Nat.pow_add,Nat.pow_add]; ac_rfl
 refine Nat.le_of_mul_le_mul_right ?_ hp2
 rw [a1,a2,show j'+D+i = j+D'+i' from by omega]
 exact Nat.mul_le_mul_right _ hle
theorem Sti.le {m q d i j n b z M K:Nat} {X:Int} {m' q' d' i' j' n' b' z' M' K':Nat} {X':Int} (h:Sti m q d i j n b z M K X) (h':Sti m' q' d' i' j' n' b' z' M' K' X') (hle:m * q'≤m' * q):X+(K:Int) - 1≤X'+(K':Int) - 1:=by
 have he:=h.e
 have he':=h'.e
 have hpos:∀ k,0 < 2 ^ k:=fun k=>Nat.pow_pos (by omega)
 refine Int.not_lt.1 fun hc=>?_
 have k1:b'+j+i'+1≤b+j'+i:=by omega
 have l1:2 ^ (b - 1) * d≤n:=by
  have h2:2 ^ (b - 1)≤n / d:=by
   rcases h.hb.2 with q9|q9
   ·have:=h.b60; omega
   ·exact q9
  exact (Nat.le_div_iff_mul_le h.hd).1 h2
 have l2:n' < 2 ^ b' * d':=(Nat.div_lt_iff_lt_mul h'.hd).1 h'.hb.1
 obtain ⟨D,hD⟩:∃ D,D = j+i':=⟨_,rfl⟩
 obtain ⟨D',hD'⟩:∃ D',D' = j'+i:=⟨_,rfl⟩
 have x:=cross_pow h.hn h'.hn h.hq h'.hq hle (D:=D) (D':=D') (by omega)
 have y1:2 ^ (b - 1) * d * (d' * 2 ^ D')≤n * (d' * 2 ^ D'):=Nat.mul_le_mul_right _ l1
 have y2:n' * (d * 2 ^ D) < 2 ^ b' * d' * (d * 2 ^ D):=Nat.mul_lt_mul_of_pos_right l2 (Nat.mul_pos h.hd (hpos _))
 have y3:2 ^ (b - 1) * d * (d' * 2 ^ D') = 2 ^ (b - 1+D') * (d * d'):=by rw [Nat.pow_add]; ac_rfl
 have y4:2 ^ b' * d' * (d * 2 ^ D) = 2 ^ (b'+D) * (d * d'):=by rw [Nat.pow_add]; ac_rfl
 have hb:=h.b60
 have y5:2 ^ (b'+D) * (d * d')≤2 ^ (b - 1+D') * (d * d'):=Nat.mul_le_mul_right _ (Nat.pow_le_pow_right (by omega) (by omega))
 omega
theorem Sti.cut_le {m q d i j n b z M K:Nat} {X:Int} {m' q' d' i' j' n' b' z' M' K':Nat} {X' t:Int} (h:Sti m q d i j n b z M K X) (h':Sti m' q' d' i' j' n' b' z' M' K' X') (md:Nat) (s:Bool) (ht:X+(K:Int) - 1 - 52≤t) (ht':X'+(K':Int) - 1 - 52≤t) (hle:m * q'≤m' * q):cutR md s M X t≤cutR md s M' X' t:=by
 have hpos:∀ k,0 < 2 ^ k:=fun k=>Nat.pow_pos (by omega)
 obtain ⟨D,hD,hD2,hr⟩:=h.cut md s ht
 obtain ⟨D',hD',hD2',hr'⟩:=h'.cut md s ht'
 rw [hr,hr']
 exact rnd_mono (Nat.mul_pos h.hd (hpos _)) (Nat.mul_pos h'.hd (hpos _)) (cross_pow h.hn h'.hn h.hq h'.hq hle (by omega))
theorem Sti.whole {m q d i j n b z M K:Nat} {X t:Int} (h:Sti m q d i j n b z M K X) {D:Nat} (hD:(D:Int) = t+(j:Int) - (i:Int)+1) (hD2:2≤D):t≤X↔d * 2 ^ (D - 1) ∣ n:=by
 have hX:=h.hX
 have hA:=h.hA
 have hpos:∀ k,0 < 2 ^ k:=fun k=>Nat.pow_pos (by omega)
 have hdm:=Nat.div_add_mod n d
 constructor
 ·intro ht
  obtain ⟨y,rfl⟩:∃ y,z = y+D:=⟨z - D,by omega⟩
  obtain ⟨D1,rfl⟩:∃ D1,D = D1+1:=⟨D - 1,by omega⟩
  have e:M * 2 ^ (y+(D1+1)) = 2 * (2 ^ D1 * (M * 2 ^ y)):=by rw [Nat.pow_add,Nat.pow_succ]; ac_rfl
  rw [e] at hA
  by_cases hz:n % d = 0
  ·rw [if_pos hz] at hA
   refine ⟨M * 2 ^ y,?_⟩
   rw [show D1+1 - 1 = D1 from by omega,Nat.mul_assoc,← Nat.eq_of_mul_eq_mul_left (show 0 < 2 by omega) hA]
   omega
  ·rw [if_neg hz] at hA; omega
 ·intro ⟨c,hc⟩
  obtain ⟨D1,rfl⟩:∃ D1,D = D1+1:=⟨D - 1,by omega⟩
  rw [show D1+1 - 1 = D1 from by omega,Nat.mul_assoc] at hc
  rw [hc,Nat.mul_mod_right,if_pos rfl,Nat.mul_div_cancel_left _ h.hd] at hA
  refine Int.not_lt.1 fun hlt=>?_
  obtain ⟨y,hy⟩:∃ y,D1+1 = z+(y+1):=⟨D1 - z,by omega⟩
  have e:2 * (2 ^ D1 * c) = 2 * (2 ^ y * c) * 2 ^ z:=by
   have e0:2 ^ D1 * 2 = 2 ^ z * (2 ^ y * 2):=by rw [← Nat.pow_succ,← Nat.pow_succ,← Nat.pow_add]; exact congrArg (2 ^ ·) hy
   have e1:2 * (2 ^ D1 * c) = 2 ^ D1 * 2 * c:=by ac_rfl
   rw [e1,e0]; ac_rfl
  rw [e] at hA
  have:=Nat.eq_of_mul_eq_mul_right (hpos z) hA
  have:=h.ho
  omega
theorem dvd_cross {a N a' N':Nat} (hN:0 < N) (h:a * N' = a' * N) (hd:N ∣ a):N' ∣ a':=by
 obtain ⟨c,rfl⟩:=hd
 refine ⟨c,Nat.eq_of_mul_eq_mul_right hN ?_⟩
 rw [← h]; ac_rfl
theorem Sti.same {m q d i j n b z M K:Nat} {X:Int} {m' q' d' i' j' n' b' z' M' K':Nat} {X':Int} (h:Sti m q d i j n b z M K X) (h':Sti m' q' d' i' j' n' b' z' M' K' X') (B F I md:Nat) (s:Bool) (hF:F≤52) (he:m * q' = m' * q):rowR B F md s M K X = rowR B F md s M' K' X'∧flagR B F I md s M K X = flagR B F I md s M' K' X':=by
 have hpos:∀ k,0 < 2 ^ k:=fun k=>Nat.pow_pos (by omega)
 have ee:X+(K:Int) - 1 = X'+(K':Int) - 1:=Int.le_antisymm (h.le h' (Nat.le_of_eq he)) (h'.le h (Nat.le_of_eq he.symm))
 have cc:∀ t:Int,X+(K:Int) - 1 - 52≤t→cutR md s M X t = cutR md s M' X' t:=fun t ht=>Nat.le_antisymm (h.cut_le h' md s ht (by omega) (Nat.le_of_eq he)) (h'.cut_le h md s (by omega) ht (Nat.le_of_eq he.symm))
 have hl:lastP B F K X = lastP B F K' X':=by unfold lastP; omega
 have hlt:X+(K:Int) - 1 - 52≤lastP B F K X:=by unfold lastP; omega
 have hrow:rowR B F md s M K X = rowR B F md s M' K' X':=by unfold rowR; rw [cc _ hlt,hl]
 have hfree:freeR F md s M K X = freeR F md s M' K' X':=by unfold freeR; rw [cc _ (by omega),ee]
 have hw:lastP B F K X≤X↔lastP B F K' X'≤X':=by
  obtain ⟨D,hD,hD2,-⟩:=h.cut md s hlt
  obtain ⟨D',hD',hD2',-⟩:=h'.cut md s (t:=lastP B F K X) (by omega)
  rw [← hl,h.whole hD hD2,h'.whole hD' hD2']
  have x1:=cross_pow h.hn h'.hn h.hq h'.hq (Nat.le_of_eq he) (D:=D - 1) (D':=D' - 1) (by omega)
  have x2:=cross_pow h'.hn h.hn h'.hq h.hq (Nat.le_of_eq he.symm) (D:=D' - 1) (D':=D - 1) (by omega)
  have x:=Nat.le_antisymm x1 x2
  exact ⟨dvd_cross (Nat.mul_pos h.hd (hpos _)) x,dvd_cross (Nat.mul_pos h'.hd (hpos _)) x.symm⟩
 refine ⟨hrow,?_⟩
 unfold flagR
 rw [hrow,hfree]
 by_cases h1:lastP B F K X≤X
 ·rw [if_pos h1,if_pos (hw.1 h1)]
 ·rw [if_neg h1,if_neg (fun q=>h1 (hw.2 q))]
def pv (F r:Nat):Nat:=if r < 2 ^ F then r else (2 ^ F+r % 2 ^ F) * 2 ^ (r / 2 ^ F - 1)
theorem pv_row {F k c:Nat} (hc:c≤2 ^ (F+1)) (hk:k = 0∨2 ^ F≤c):pv F (k * 2 ^ F+c) = c * 2 ^ k:=by
 have hP:0 < 2 ^ F:=Nat.pow_pos (by omega)
 rw [Nat.pow_succ] at hc
 generalize hPd:2 ^ F = P at *
 unfold pv
 rw [hPd]
 have key:∀ q f:Nat,f < P→k * P+c = q * P+f→1≤q→(if k * P+c < P then k * P+c else (P+(k * P+c) % P) * 2 ^ ((k * P+c) / P - 1)) = (P+f) * 2 ^ (q - 1):=fun q f hf e hq=>by
  have h1:1 * P≤q * P:=Nat.mul_le_mul_right _ hq
  rw [e,if_neg (by omega),Nat.mul_comm q P,Nat.mul_add_mod,Nat.mod_eq_of_lt hf,Nat.mul_add_div hP,Nat.div_eq_of_lt hf,Nat.add_zero]
 rcases Nat.lt_or_ge c P with h1|h1
 ·have:k = 0:=by omega
  subst this
  rw [Nat.zero_mul,Nat.zero_add,if_pos h1,Nat.pow_zero,Nat.mul_one]
 ·rcases Nat.lt_or_ge c (P * 2) with h2|h2
  ·rw [key (k+1) (c - P) (by omega) (by rw [Nat.add_mul]; omega) (by omega),show P+(c - P) = c by omega,Nat.add_sub_cancel]
  ·have h3:c = P * 2:=by omega
   rw [key (k+2) 0 hP (by rw [Nat.add_mul]; omega) (by omega),Nat.add_zero,show k+2 - 1 = k+1 by omega,Nat.pow_succ,h3]
   ac_rfl
theorem pv_parts (F r:Nat):∃ k c,r = k * 2 ^ F+c∧c < 2 ^ (F+1)∧(k = 0∨2 ^ F≤c):=by
 have hP:0 < 2 ^ F:=Nat.pow_pos (by omega)
 rw [Nat.pow_succ]
 generalize 2 ^ F = P at *
 by_cases h:r < P
 ·exact ⟨0,r,by omega,by omega,Or.inl rfl⟩
 ·have h1:=Nat.div_add_mod r P
  have h2:=Nat.mod_lt r hP
  have h3:1≤r / P:=(Nat.le_div_iff_mul_le hP).2 (by omega)
  refine ⟨r / P - 1,P+r % P,?_,by omega,Or.inr (by omega)⟩
  rw [Nat.sub_mul,Nat.one_mul,Nat.mul_comm]
  have:=Nat.mul_le_mul_left P h3
  omega
theorem pv_lt_succ (F r:Nat):pv F r < pv F (r+1):=by
 obtain ⟨k,c,rfl,h1,h2⟩:=pv_parts F r
 rw [pv_row (by omega) h2,Nat.add_assoc,pv_row (by omega) (by omega),Nat.add_mul,Nat.one_mul]
 exact Nat.lt_add_of_pos_right (Nat.pow_pos (by omega))
theorem pv_lt {F r r':Nat} (h:r < r'):pv F r < pv F r':=by
 induction r' with
 | zero=>omega
 | succ n ih=>
  rcases Nat.lt_succ_iff_lt_or_eq.1 h with h|rfl
  ·exact Nat.lt_trans (ih h) (pv_lt_succ F n)
  ·exact pv_lt_succ F r
theorem pv_le {F r r':Nat} (h:r≤r'):pv F r≤pv F r':=by
 rcases Nat.lt_or_eq_of_le h with h|rfl
 ·exact Nat.le_of_lt (pv_lt h)
 ·exact Nat.le_refl _
theorem pv_zero (F:Nat):pv F 0 = 0:=by
 unfold pv; rw [if_pos (Nat.pow_pos (by omega))]
def s3 (a b:Nat):Int:=if a < b then -1 else if a = b then 0 else 1
theorem hlf_s3 (r w:Nat):hlf r w = s3 (2 * r) w:=rfl
theorem s3_scale {a b c:Nat} (hc:0 < c):s3 (a * c) (b * c) = s3 a b:=by
 unfold s3
 have e1:(a * c < b * c) = (a < b):=propext (Nat.mul_lt_mul_right hc)
 have e2:(a * c = b * c) = (a = b):=propext ⟨fun h=>Nat.eq_of_mul_eq_mul_right hc h,fun h=>by rw [h]⟩
 simp only [e1,e2]
structure Plc (p d B F G M K:Nat) (X:Int) (r0 ρ w:Nat):Prop where
 hρ:ρ < w
 row:∀ md s,rowR B F md s M K X = r0+(if ρ = 0 then 0 else if fth md s (decide (r0 % 2 = 1)) (hlf ρ w) then 1 else 0)
 ex:lastP B F K X≤X↔ρ = 0
 le:pv F r0 * d≤p * 2 ^ G
 eq:ρ = 0↔pv F r0 * d = p * 2 ^ G
 lt:p * 2 ^ G < pv F (r0+1) * d
 half:hlf ρ w = s3 (2 * (p * 2 ^ G)) ((pv F r0+pv F (r0+1)) * d)
theorem std_place {p d j n b z M K:Nat} {X:Int} (h:Std p d j n b z M K X) {B F G:Nat} (hF:F≤52) (hF1:1≤F) (hG:(G:Int) = (B:Int)+(F:Int) - 1):∃ r0 ρ w,Plc p d B F G M K X r0 ρ w:=by
 have hpos:∀ k,0 < 2 ^ k:=fun k=>Nat.pow_pos (by omega)
 have hM:0 < M:=by have:=h.ho; omega
 obtain ⟨D,hD,hD2,-⟩:=h.row (B:=B) (md:=2) (s:=false) hF
 have hrow:∀ md s,cutR md s M X (lastP B F K X) = rnd md s n (d * 2 ^ (D - 1)):=fun md s=>by
  obtain ⟨D',hD',_,hr⟩:=h.row (B:=B) (md:=md) (s:=s) hF
  rw [hr,show D' = D by omega]
 obtain ⟨k,hk⟩:∃ k:Nat,(k:Int) = lastP B F K X - (1 - (B:Int) - (F:Int)):=⟨(lastP B F K X - (1 - (B:Int) - (F:Int))).toNat,by unfold lastP; omega⟩
 obtain ⟨w,hw⟩:∃ w,d * 2 ^ (D - 1) = w:=⟨_,rfl⟩
 have hw0:0 < w:=by rw [← hw]; exact Nat.mul_pos h.hd (hpos _)
 rw [hw] at hrow
 have hdm:=Nat.div_add_mod n w
 have hml:=Nat.mod_lt n hw0
 obtain ⟨c,hc⟩:∃ c,n / w = c:=⟨_,rfl⟩
 obtain ⟨ρ,hρ⟩:∃ ρ,n % w = ρ:=⟨_,rfl⟩
 have hrnd:∀ md s,rnd md s n w = c+(if ρ = 0 then 0 else if fth md s (decide (c % 2 = 1)) (hlf ρ w) then 1 else 0):=fun md s=>by unfold rnd; rw [hc,hρ]
 rw [hc,hρ] at hdm
 rw [hρ] at hml
 have hple:X+(K:Int) - 1 - (F:Int)≤lastP B F K X:=by unfold lastP; omega
 have c1:c≤2 ^ (F+1):=by
  have:=cutR_le (md:=2) (s:=false) (F:=F) h.hK hM hple
  rw [hrow,hrnd] at this; omega
 have c2:ρ≠0→c+1≤2 ^ (F+1):=fun hne=>by
  have:=cutR_le (md:=3) (s:=false) (F:=F) h.hK hM hple
  rw [hrow,hrnd,if_neg hne,if_pos (show fth 3 false (decide (c % 2 = 1)) (hlf ρ w) = true from rfl)] at this; exact this
 have c3:k = 0∨2 ^ F≤c:=by
  by_cases h0:k = 0
  ·exact Or.inl h0
  ·have:=cutR_ge (md:=2) (s:=false) (F:=F) (x:=X) (t:=lastP B F K X) h.hK hM (by unfold lastP at hk ⊢; omega)
   rw [hrow,hrnd] at this
   have e:(if ρ = 0 then 0 else if fth 2 false (decide (c % 2 = 1)) (hlf ρ w) = true then 1 else 0) = 0:=by split <;> rfl
   rw [e] at this
   exact Or.inr (by omega)
 have hpar:∀ c',(k * 2 ^ F+c') % 2 = c' % 2:=fun c'=>by
  obtain ⟨f,rfl⟩:∃ f,F = f+1:=⟨F - 1,by omega⟩
  rw [Nat.pow_succ,← Nat.mul_assoc]
  omega
 have hexp:D - 1+G = k+j:=by omega
 have e1:p * 2 ^ G * 2 ^ j = c * 2 ^ k * d * 2 ^ j+ρ * 2 ^ G:=by
  have a1:p * 2 ^ G * 2 ^ j = n * 2 ^ G:=by rw [h.hn]; ac_rfl
  have a2:c * 2 ^ k * d * 2 ^ j = w * c * 2 ^ G:=by
   rw [← hw]
   have a3:c * 2 ^ k * d * 2 ^ j = c * d * 2 ^ (k+j):=by rw [Nat.pow_add]; ac_rfl
   rw [a3,← hexp,Nat.pow_add]; ac_rfl
  rw [a1,a2,← Nat.add_mul,hdm]
 have e2:2 ^ k * d * 2 ^ j = w * 2 ^ G:=by
  rw [← hw]
  have a3:2 ^ k * d * 2 ^ j = d * 2 ^ (k+j):=by rw [Nat.pow_add]; ac_rfl
  rw [a3,← hexp,Nat.pow_add]; ac_rfl
 have v0:pv F (k * 2 ^ F+c) = c * 2 ^ k:=pv_row c1 c3
 have hlt0:ρ * 2 ^ G < w * 2 ^ G:=Nat.mul_lt_mul_of_pos_right hml (hpos G)
 have hnext:p * 2 ^ G < pv F (k * 2 ^ F+c+1) * d:=by
  rcases Nat.eq_zero_or_pos ρ with h0|h0
  ·rw [h0,Nat.zero_mul,Nat.add_zero] at e1
   have e3:=Nat.eq_of_mul_eq_mul_right (hpos j) e1
   rw [e3,← v0]
   exact Nat.mul_lt_mul_of_pos_right (pv_lt_succ F _) h.hd
  ·rw [Nat.add_assoc,pv_row (c2 (by omega)) (by omega)]
   refine Nat.lt_of_mul_lt_mul_right (a:=2 ^ j) ?_
   rw [e1,Nat.add_mul,Nat.one_mul,Nat.add_mul,Nat.add_mul,e2]
   omega
 refine ⟨k * 2 ^ F+c,ρ,w,hml,fun md s=>?_,?_,?_,?_,hnext,?_⟩
 ·unfold rowR
  rw [hrow,hrnd,hpar,← hk,Int.toNat_natCast,Nat.add_assoc]
 ·have:=h.sti.whole (t:=lastP B F K X) (D:=D) (by omega) hD2
  rw [this,hw,← hρ]
  exact Nat.dvd_iff_mod_eq_zero
 ·rw [v0]
  refine Nat.le_of_mul_le_mul_right ?_ (hpos j)
  omega
 ·rw [v0]
  constructor
  ·intro h0
   rw [h0,Nat.zero_mul,Nat.add_zero] at e1
   exact (Nat.eq_of_mul_eq_mul_right (hpos j) e1).symm
  ·intro h0
   rw [h0] at e1
   rcases Nat.eq_zero_or_pos ρ with q|q
   ·exact q
   ·have:=Nat.mul_pos q (hpos G); omega
 ·have hstep:∀ v',v' = pv F (k * 2 ^ F+c+1)→(ρ≠0→v' = (c+1) * 2 ^ k):=fun v' hv hne=>by rw [hv,Nat.add_assoc,pv_row (c2 hne) (by omega)]
  rcases Nat.eq_zero_or_pos ρ with h0|h0
  ·
   rw [h0,Nat.zero_mul,Nat.add_zero] at e1
   have e3:=Nat.eq_of_mul_eq_mul_right (hpos j) e1
   have hs:=Nat.mul_lt_mul_of_pos_right (pv_lt_succ F (k * 2 ^ F+c)) h.hd
   rw [v0] at hs ⊢
   rw [h0,hlf_s3,Nat.add_mul]
   unfold s3
   rw [if_pos (by omega),if_pos (by omega)]
  ·rw [hstep _ rfl (by omega),v0,hlf_s3,← s3_scale (hpos G),← s3_scale (a:=2 * (p * 2 ^ G)) (hpos j)]
   have f1:2 * (p * 2 ^ G) * 2 ^ j = 2 * (c * 2 ^ k * d * 2 ^ j)+2 * ρ * 2 ^ G:=by
    rw [Nat.mul_assoc 2 (p * 2 ^ G),e1,Nat.mul_add,Nat.mul_assoc 2 ρ]
   have f2:(c * 2 ^ k+(c+1) * 2 ^ k) * d * 2 ^ j = 2 * (c * 2 ^ k * d * 2 ^ j)+w * 2 ^ G:=by
    rw [← e2,Nat.add_mul c 1,Nat.one_mul,Nat.add_mul,Nat.add_mul,Nat.add_mul,Nat.add_mul]
    omega
   rw [f1,f2]
   unfold s3
   split <;> split <;> (try split) <;> (try split) <;> omega
theorem bt_place {E F S I:Nat} (h:Fm E F S I) (s:Bool) {r:Nat} (hr:r < S):Bt E F ((if s then S else 0)+r) s (r / 2 ^ F) (r % 2 ^ F):=by
 have hP:=pow_pos2 F
 refine ⟨Nat.mod_lt _ hP,?_,?_⟩
 ·rw [Nat.div_lt_iff_lt_mul hP,← Nat.pow_add,Nat.add_comm E F,← h.hS]; exact hr
 ·rw [← h.hS,Nat.mul_comm (r / 2 ^ F),Nat.div_add_mod]
  cases s <;> simp
def wqA:Nat:=1300
def wqB:Nat:=2100
structure WrQ (F G:Nat) (s:Bool) (r:Nat) (sa:Bool) (va da:Nat):Prop where
 eq:va * 2 ^ G = pv F r * da
 sg:Rm.sgn sa va = Rm.sgn s va
 hd:0 < da
 hg:Nat.gcd va da = 1
 h0:sa = true→0 < va
 bv:va < 2 ^ wqA
 bd:da < 2 ^ wqB
theorem pow_lt {a b:Nat} (h:a < b):2 ^ a < 2 ^ b:=Nat.pow_lt_pow_right (by omega) h
theorem two_coprime {m j:Nat} (h:m % 2 = 1):Nat.gcd m (2 ^ j) = 1:=by
 have h2:Nat.Coprime m 2:=by
  rw [Nat.coprime_comm]
  show Nat.gcd 2 m = 1
  rw [Nat.gcd_rec,h]; decide
 exact Nat.Coprime.pow_right j h2
theorem value_place {E F S I B G:Nat} (h:Fm E F S I) (hB:B = 2 ^ (E - 1) - 1) (hG:(G:Int) = (B:Int)+(F:Int) - 1) (s:Bool) {r:Nat} (hr:r < I) :
  ∃ (sa:Bool) (m:Nat) (x:Int) (i j:Nat),Vals E F (((if s then S else 0)+r:Nat):Int) sa m x∧OkD sa m x∧max x 0 = (i:Int)∧max (-x) 0 = (j:Int)∧WrQ F G s r sa (m * 2 ^ i) (1 * 2 ^ j):=by
 have hP:=pow_pos2 F
 have hBt:=bt_place h s (Nat.lt_trans hr h.lt)
 have hfin:r / 2 ^ F+1 < 2 ^ E:=by
  have:r / 2 ^ F < 2 ^ E - 1:=by rw [Nat.div_lt_iff_lt_mul hP,← h.hI]; exact hr
  have:=pow_pos2 E
  omega
 have hdm:=Nat.div_add_mod r (2 ^ F)
 have hfl:=Nat.mod_lt r hP
 have hpvd:pv F r = if r < 2 ^ F then r else (2 ^ F+r % 2 ^ F) * 2 ^ (r / 2 ^ F - 1):=rfl
 by_cases h0:r = 0
 ·subst h0
  rw [Nat.zero_div,Nat.zero_mod] at hBt
  refine ⟨false,0,0,0,0,vals_zero h.fo (hide hB) hBt,Or.inl ⟨rfl,rfl,rfl⟩,rfl,rfl,?_,?_,by decide,by decide,by simp,?_,?_⟩
  ·rw [pv_zero]; simp
  ·cases s <;> simp [Rm.sgn]
  ·rw [Nat.zero_mul]; exact Nat.pow_pos (by omega)
  ·exact Nat.lt_of_lt_of_le (show 1 * 2 ^ 0 < 2 ^ 1 by decide) (Nat.pow_le_pow_right (by omega) (by unfold wqB; omega))
 ·obtain ⟨M,z,xe,hW⟩:=Wo.ex (B:=B) hfin hfl (fun ⟨a,b⟩=>h0 (by rw [a,b] at hdm; omega))
  have hr1:=hW.range h.fo (hide hB)
  have hz:=hW.zle
  have hF:=h.fo.f52
  have ho:=hW.odd
  have hlt:=hW.lt
  obtain ⟨k,hk,hpv⟩:∃ k:Nat,xe = 1 - (B:Int) - (F:Int)+(k:Int)∧pv F r = M * 2 ^ k:=by
   rcases hW.part with ⟨a1,a2,a3,a4⟩|⟨a1,a2,a3⟩
   ·refine ⟨0,by omega,?_⟩
    rw [a1,Nat.mul_zero,Nat.zero_add] at hdm
    rw [hpvd,if_pos (by omega),a2,hdm,Nat.pow_zero,Nat.mul_one]
   ·refine ⟨r / 2 ^ F - 1,by omega,?_⟩
    have:¬ r < 2 ^ F:=fun hc=>by rw [Nat.div_eq_of_lt hc] at a1; omega
    rw [hpvd,if_neg this,a2,Nat.add_comm]
  obtain ⟨i,hi⟩:∃ i:Nat,max (xe+(z:Int)) 0 = (i:Int):=⟨(max (xe+(z:Int)) 0).toNat,by omega⟩
  obtain ⟨j,hj⟩:∃ j:Nat,max (-(xe+(z:Int))) 0 = (j:Int):=⟨(max (-(xe+(z:Int))) 0).toNat,by omega⟩
  have hm0:0 < M / 2 ^ z:=Nat.pos_of_ne_zero fun e=>by have:=ho.1; rw [e] at this; cases this
  have hml:M / 2 ^ z < 2 ^ 53:=Nat.lt_of_le_of_lt (Nat.div_le_self _ _) (Nat.lt_of_lt_of_le hlt (Nat.pow_le_pow_right (by omega) (by omega)))
  refine ⟨s,M / 2 ^ z,xe+(z:Int),i,j,vals_wo h.fo (hide hB) hBt hW,Or.inr ⟨ho.1,by omega,by omega⟩,hi,hj,?_,rfl,?_,?_,fun _=>Nat.mul_pos hm0 (Nat.pow_pos (by omega)),?_,?_⟩
  ·rw [hpv,Nat.one_mul]
   have e:i+G = z+k+j:=by omega
   have a1:M / 2 ^ z * 2 ^ i * 2 ^ G = M / 2 ^ z * 2 ^ (i+G):=by rw [Nat.pow_add]; ac_rfl
   rw [a1,e,Nat.pow_add,Nat.pow_add,← Nat.mul_assoc,← Nat.mul_assoc,ho.2]
  ·rw [Nat.one_mul]; exact Nat.pow_pos (by omega)
  ·rw [Nat.one_mul]
   rcases Nat.eq_zero_or_pos j with q|q
   ·rw [q,Nat.pow_zero]; exact Nat.gcd_one_right _
   ·have:i = 0:=by omega
    rw [this,Nat.pow_zero,Nat.mul_one]; exact two_coprime ho.1
  ·refine Nat.lt_of_lt_of_le (Nat.mul_lt_mul_of_pos_right hml (Nat.pow_pos (by omega))) ?_
   rw [← Nat.pow_add]; exact Nat.pow_le_pow_right (by omega) (by unfold wqA; omega)
  ·rw [Nat.one_mul]; exact pow_lt (by unfold wqB; omega)
theorem ratio_place {F G:Nat} {s:Bool} {r m i j:Nat} {sa:Bool} {x:Int} (hA:OkD sa m x) (hi:max x 0 = (i:Int)) (hj:max (-x) 0 = (j:Int)) (hq:WrQ F G s r sa (m * 2 ^ i) (1 * 2 ^ j)) (W:World) (A:Option Addr) (N C:Nat) (g:Num W A N m) :
  Calls Tryz.prog 11 #[.agg #[.bool sa,.slice A N C,.int .i64 x]] W fun e w'=>(∃ A N C A' N' C',e = .returned (.tuple #[.agg #[.bool sa,.slice A N C,.slice A' N' C'],.int .i64 0])∧Mine w' W.heap.size A N C (m * 2 ^ i)∧Mine w' W.heap.size A' N' C' (1 * 2 ^ j))∧Below W.heap.size W w':=
 nratio_ok hA hi hj (not_over hq.bv (by decide)) (not_over hq.bd (by decide)) W A N C g
theorem rchk_ok (s:Bool) (a b:Option Addr) (n c k l m d:Nat) (h0:0 < m) (hd:0 < d) (hg:Nat.gcd m d = 1) (W:World) (h1:Num W a n m) (h2:Num W b k d) :
  Calls Tryz.prog 115 #[.agg #[.bool s,.slice a n c,.slice b k l]] W fun e W'=>e = .returned (.int .i64 0)∧Below W.heap.size W W':=by
 have hk:0 < k:=by have:=h2.zero; omega
 have hn:0 < n:=by have:=h1.zero; omega
 cases s
 ·exact rk_ok_f a n c m b k l d W hk h1 h2 hg
 ·exact rk_ok_t a n c m b k l d W hk hn h1 h2 hg
theorem rats_all {E F S I B G:Nat} (h:Fm E F S I) (hB:B = 2 ^ (E - 1) - 1) (hG:(G:Int) = (B:Int)+(F:Int) - 1) {p d:Nat} (h0:0 < p) (hd:0 < d) (hg:Nat.gcd p d = 1) (bp:blen p≤100000) (bd:blen d≤100000) (hr1:blen d≤blen p+4096) (hr2:blen p≤blen d+4096) :
  ∃ (M K:Nat) (X:Int) (r0 ρ w:Nat),Plc p d B F G M K X r0 ρ w∧∀ (md:Nat) (s ng:Bool) (a:Option Addr) (n c:Nat) (b:Option Addr) (k l:Nat) (W:World),md≤4→Tb W→Num W a n p→Num W b k d →
   Calls Tryz.prog 50 #[.agg #[.int .i64 (E:Int),.int .i64 (F:Int)],.agg #[.bool s,.slice a n c,.slice b k l],.bool ng,.int .u8 (md:Int)] W fun e w'=>e = .returned (.tuple #[.int .u64 (bitsR S I md s (rowR B F md s M K X):Int),.int .u8 (flagR B F I md s M K X:Int),.int .i64 0])∧Below W.heap.size W w':=by
 obtain ⟨K,hK⟩:∃ K,K = 204300:=⟨_,rfl⟩
 have hl:sLift p d≤4096:=by unfold sLift; omega
 have hmo:sMore p d≤100065:=by unfold sMore; omega
 have hall:sAll p d < 2 ^ K:=by
  have e:sAll p d = p * 2 ^ (sLift p d+sMore p d):=by unfold sAll sOne; rw [Nat.pow_add,Nat.mul_assoc]
  rw [e]
  refine Nat.lt_of_lt_of_le (Nat.mul_lt_mul_of_pos_right (bl_blen p).1 (Nat.pow_pos (by omega))) ?_
  rw [← Nat.pow_add]
  exact Nat.pow_le_pow_right (by omega) (by omega)
 have hpos:0 < sAll p d:=Nat.mul_pos (Nat.mul_pos h0 (Nat.pow_pos (by omega))) (Nat.pow_pos (by omega))
 have hdm:=Nat.div_add_mod (sAll p d) d
 have hdl:sAll p d / d≤sAll p d:=Nat.div_le_self _ _
 have a1:0 < sAns p d:=by
  unfold sAns
  split
  ·next e=>
   rw [e] at hdm
   rcases Nat.eq_zero_or_pos (sAll p d / d) with q|q
   ·rw [q] at hdm; omega
   ·omega
  ·omega
 have a2:sAns p d < 2 ^ (K+1):=by
  rw [Nat.pow_succ]
  unfold sAns
  split <;> omega
 obtain ⟨z,⟨q,hq⟩,hz⟩:=tz_ex a1 a2
 obtain ⟨r0,ρ,w,hP⟩:=std_place (std_of h0 hd hq (bl_blen _)) (B:=B) h.fo.f52 h.fo.f1 hG
 refine ⟨_,_,_,r0,ρ,w,hP,fun md s ng a n c b k l W hm hT h1 h2=>?_⟩
 exact sratio_is h hB hm ng s a b n c k l p d W hT h1 h2 (by omega) hd bp bd hr1 hr2 (hide fun W q1 q2=>rchk_ok s a b n c k l p d h0 hd hg W q1 q2) z (2 * q+1) (blen (2 * q+1)) _ ⟨q,hq⟩ (by omega) (by rw [hq,Nat.mul_div_cancel_left _ (Nat.pow_pos (by omega))]) rfl (bl_blen _)
theorem Plc.whole {p d B F G M K:Nat} {X:Int} {r0 ρ w:Nat} (h:Plc p d B F G M K X r0 ρ w) {S I:Nat} (hI:r0 < I) (h0:ρ = 0) (md:Nat) (s:Bool):bitsR S I md s (rowR B F md s M K X) = (if s then S else 0)+r0∧flagR B F I md s M K X = 0:=by
 have hr:rowR B F md s M K X = r0:=by rw [h.row,if_pos h0]; omega
 refine ⟨?_,?_⟩
 ·unfold bitsR; rw [hr,if_pos hI]
 ·unfold flagR; rw [hr,if_neg (by omega),if_pos (h.ex.2 h0)]
theorem fth_one (md:Nat) (s o:Bool):fth md s o 1 = fth md s false 1:=by
 match md with
 | 0=>rfl
 | 1=>rfl
 | 2=>rfl
 | 3=>rfl
 | n+4=>rfl
theorem fth_inf {md:Nat} {s o:Bool} {h:Int} (hh:h≤1) (hf:fth md s o h = true):fth md s false 1 = true:=by
 rw [← fth_one md s o]; exact fth_mono hh hf
theorem s3_le (a b:Nat):s3 a b≤1:=by unfold s3; split <;> (try split) <;> omega
theorem Plc.apart {p d B F G M K:Nat} {X:Int} {r0 ρ w:Nat} (h:Plc p d B F G M K X r0 ρ w) (hd:0 < d) {S I:Nat} (hI0:0 < I) (hne:¬ (ρ = 0∧r0 < I)) :
  ∃ (lo:Nat) (hh:Int),lo < I∧pv F lo * d < p * 2 ^ G∧(lo+1 < I→p * 2 ^ G < pv F (lo+1) * d∧hh = s3 (2 * (p * 2 ^ G)) ((pv F lo+pv F (lo+1)) * d)) ∧
   ∀ md s,bitsR S I md s (rowR B F md s M K X) = (if s then S else 0)+(lo+if fth md s (decide (lo % 2 = 1)) hh then 1 else 0)∧(flagR B F I md s M K X = 1∨flagR B F I md s M K X = 3∨flagR B F I md s M K X = 5):=by
 by_cases hI:r0 < I
 ·have h0:ρ≠0:=fun e=>hne ⟨e,hI⟩
  have hlt:pv F r0 * d < p * 2 ^ G:=Nat.lt_of_le_of_ne h.le fun e=>h0 (h.eq.2 e)
  refine ⟨r0,hlf ρ w,hI,hlt,fun _=>⟨h.lt,h.half⟩,fun md s=>⟨?_,?_⟩⟩
  ·have hr:=h.row md s
   rw [if_neg h0] at hr
   unfold bitsR
   congr 1
   rw [hr]
   by_cases hf:fth md s (decide (r0 % 2 = 1)) (hlf ρ w) = true
   ·rw [if_pos hf]
    by_cases h1:r0+1 < I
    ·rw [if_pos h1]
    ·rw [if_neg h1,if_pos (fth_inf (by rw [hlf_s3]; exact s3_le _ _) hf),show I = r0+1 by omega]
   ·rw [if_neg hf,Nat.add_zero,if_pos hI]
  ·unfold flagR
   rw [if_neg (c:=lastP B F K X≤X) (fun e=>h0 (h.ex.1 e))]
   split
   ·exact Or.inr (Or.inl rfl)
   ·split
    ·exact Or.inr (Or.inr rfl)
    ·exact Or.inl rfl
 ·obtain ⟨J,rfl⟩:∃ J,I = J+1:=⟨I - 1,by omega⟩
  have hge:∀ md s,J+1≤rowR B F md s M K X:=fun md s=>by rw [h.row]; omega
  refine ⟨J,1,by omega,?_,fun h1=>absurd h1 (by omega),fun md s=>⟨?_,?_⟩⟩
  ·refine Nat.lt_of_lt_of_le (Nat.mul_lt_mul_of_pos_right (pv_lt (show J < r0 by omega)) hd) h.le
  ·unfold bitsR
   congr 1
   rw [if_neg (show ¬ rowR B F md s M K X < J+1 by have:=hge md s; omega),fth_one md s (decide (J % 2 = 1))]
   split <;> rfl
  ·unfold flagR
   rw [if_pos (hge md s)]; exact Or.inr (Or.inl rfl)
end Go.Proofs.YteafdlblemdclaaGreatDoor
