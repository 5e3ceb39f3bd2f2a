/- Of what RoundWorthRow stands on: ExOf TnRun SNat SFirst SRdA NrRdy ExRat NrFin. -/
import Derived.Test.YtbbhlfngjoongaaGreatDoorPau
import Derived.Test.YtbbhlfngjoongaaGreatDoorPba
import Derived.Test.YtbbhlfngjoongaaGreatDoorPbc
import Derived.Test.YtbbhlfngjoongaaGreatDoorPbd
import Derived.Test.YtbbhlfngjoongaaGreatDoorPax
import Derived.Test.YtbbhlfngjoongaaGreatDoorPaz
namespace Go.Proofs.YtbbhlfngjoongaaGreatDoor
open Go.RowKit
set_option maxHeartbeats 4000000
set_option maxRecDepth 20000
theorem rno_no (a:Option Addr) (n cap:Nat) (w:World) (hn:0 < n):Calls Tryz.prog 26 #[.agg #[.slice a n cap]] w fun en w'=>en = .returned (.bool false)∧Below w.heap.size w w':=by
 have:=nought_any a n cap w
 rw [decide_eq_false (by omega)] at this
 exact this
theorem one_yes (a:Option Addr) (n cap m:Nat) (w:World) (h:Num w a n m) (hm:m = 1):Calls Tryz.prog 63 #[.agg #[.slice a n cap]] w fun en w'=>en = .returned (.bool true)∧Below w.heap.size w w':=by
 have:=isOne_any a n cap m w h
 rw [decide_eq_true hm] at this
 exact this
theorem rk_ok_f (a:Option Addr) (n cap m:Nat) (a':Option Addr) (n' cap' m':Nat) (w:World) (hn':0 < n')  (h:Num w a n m) (h':Num w a' n' m') (hg:Nat.gcd m m' = 1) :
  Calls Tryz.prog 24 #[.agg #[.bool false,.slice a n cap,.slice a' n' cap']] w fun e w'=>e = .returned (.int .i64 0)∧Below w.heap.size w w':=by
 have H:=hide h
 have H':=hide h'
 have HG:=hide hg
 clear h h' hg
 go_enter Tryz.func24,Tryz.ntmps24
 go_wp2_with fail
 refine (rno_no a' n' cap' _ hn').mono ?_
 rintro e w1 ⟨rfl,hb1⟩
 have hS:=(Fs.one w _ _).kept hb1
 obtain ⟨⟨ya,yb,yc,-⟩,-⟩:=hS.cells
 go_wp2_with fail
 refine (gcd_any a a' n n' cap cap' m m' _ ((unhide H).kept hS.fr) ((unhide H').kept hS.fr)).mono ?_
 rintro e w2 ⟨⟨A1,N1,C1,rfl,f1⟩,hb2⟩
 replace hS:=hS.kept hb2
 clear ya yb yc
 obtain ⟨⟨yd,ye,yf,-⟩,-⟩:=hS.cells
 have G1:=hide f1.num
 clear f1
 have hltw2_0:w.heap.size < w2.heap.size:=hS.lt 0 rfl
 replace hS:=hS.alloc #[.slice A1 N1 C1] 28
 replace G1:=hide ((unhide G1).alloc (.cells #[.slice A1 N1 C1] 28))
 go_wp2_with fail
 refine (one_yes A1 N1 C1 _ _ (unhide G1) (unhide HG)).mono ?_
 rintro e w3 ⟨rfl,hb3⟩
 replace hS:=hS.kept hb3
 clear yd ye yf
 obtain ⟨⟨yg,-⟩,⟨yh,yi,yj,-⟩,-⟩:=hS.cells
 go_wp2
 go_ret
 exact ⟨rfl,hS.fr⟩
theorem rk_ok_t (a:Option Addr) (n cap m:Nat) (a':Option Addr) (n' cap' m':Nat) (w:World) (hn':0 < n')  (hn:0 < n) (h:Num w a n m) (h':Num w a' n' m') (hg:Nat.gcd m m' = 1) :
  Calls Tryz.prog 24 #[.agg #[.bool true,.slice a n cap,.slice a' n' cap']] w fun e w'=>e = .returned (.int .i64 0)∧Below w.heap.size w w':=by
 have H:=hide h
 have H':=hide h'
 have HG:=hide hg
 clear h h' hg
 go_enter Tryz.func24,Tryz.ntmps24
 go_wp2_with fail
 refine (rno_no a' n' cap' _ hn').mono ?_
 rintro e w1 ⟨rfl,hb1⟩
 have hS:=(Fs.one w _ _).kept hb1
 obtain ⟨⟨ya,yb,yc,-⟩,-⟩:=hS.cells
 go_wp2_with fail
 refine (rno_no a n cap _ hn).mono ?_
 rintro e w2 ⟨rfl,hb2⟩
 replace hS:=hS.kept hb2
 clear ya yb yc
 obtain ⟨⟨yd,ye,yf,-⟩,-⟩:=hS.cells
 go_wp2_with fail
 refine (gcd_any a a' n n' cap cap' m m' _ ((unhide H).kept hS.fr) ((unhide H').kept hS.fr)).mono ?_
 rintro e w3 ⟨⟨A1,N1,C1,rfl,f1⟩,hb3⟩
 replace hS:=hS.kept hb3
 clear yd ye yf
 obtain ⟨⟨yg,yh,yi,-⟩,-⟩:=hS.cells
 have G1:=hide f1.num
 clear f1
 have hltw3_0:w.heap.size < w3.heap.size:=hS.lt 0 rfl
 replace hS:=hS.alloc #[.slice A1 N1 C1] 28
 replace G1:=hide ((unhide G1).alloc (.cells #[.slice A1 N1 C1] 28))
 go_wp2_with fail
 refine (one_yes A1 N1 C1 _ _ (unhide G1) (unhide HG)).mono ?_
 rintro e w4 ⟨rfl,hb4⟩
 replace hS:=hS.kept hb4
 clear yg yh yi
 obtain ⟨⟨yj,-⟩,⟨yk,yl,ym,-⟩,-⟩:=hS.cells
 go_wp2
 go_ret
 exact ⟨rfl,hS.fr⟩
theorem runNat_0 (p k:Nat) (a:Option Addr) (n cap:Nat) (w:World) (h:Rn w p k) :
  Calls Tryz.prog 47 #[.pointer (some ⟨p,k,none⟩),.agg #[.slice a n cap],.int .i64 0] w fun e w'=>e = .returned (.agg #[.slice a n cap])∧Below w.heap.size w w':=by
 have H:=hide h
 clear h
 go_enter Tryz.func47,Tryz.ntmps47
 go_wp2_with fail
 refine (keep_0 p k _ ((unhide H).kept (Fs.two w _ _ _ _).fr)).mono ?_
 rintro e w1 ⟨rfl,hb1⟩
 have hS:=(Fs.two w _ _ _ _).kept hb1
 obtain ⟨⟨ya,-⟩,⟨yb,-⟩,-⟩:=hS.cells
 have fz0:=hS.frozen (b:=w.heap.size+1) (cs:=#[.slice none 0 0]) (t:=28) (by simp) 0
 go_wp2
 exact bodyPost_ret (v:=.agg #[.slice a n cap]) (by simp [results,Tryz.results47,go_sem,yb]) rfl ⟨rfl,(hS.fr.setCell (by simp <;> omega) _)⟩
theorem runLess_0 (p k:Nat) (a:Option Addr) (n cap:Nat) (t:Bool) (w:World) (h:Rn w p k) :
  Calls Tryz.prog 42 #[.pointer (some ⟨p,k,none⟩),.agg #[.slice a n cap],.bool t,.int .i64 0] w fun e w'=>e = .returned (.agg #[.slice a n cap])∧Below w.heap.size w w':=by
 have H:=hide h
 clear h
 go_enter Tryz.func42,Tryz.ntmps42
 go_wp2_with fail
 refine (keep_0 p k _ ((unhide H).kept (Fs.two w _ _ _ _).fr)).mono ?_
 rintro e w1 ⟨rfl,hb1⟩
 have hS:=(Fs.two w _ _ _ _).kept hb1
 obtain ⟨⟨ya,-⟩,⟨yb,-⟩,-⟩:=hS.cells
 have fz0:=hS.frozen (b:=w.heap.size+1) (cs:=#[.slice none 0 0]) (t:=28) (by simp) 0
 go_wp2
 exact bodyPost_ret (v:=.agg #[.slice a n cap]) (by simp [results,Tryz.results42,go_sem,yb]) rfl ⟨rfl,(hS.fr.setCell (by simp <;> omega) _)⟩
theorem runInt_0 (p k:Nat) (c:Int) (w:World) (h:Rn w p k) :
  Calls Tryz.prog 40 #[.pointer (some ⟨p,k,none⟩),.int .i64 c,.int .i64 0] w fun e w'=>e = .returned (.int .i64 c)∧Below w.heap.size w w':=by
 have H:=hide h
 clear h
 go_enter Tryz.func40,Tryz.ntmps40
 go_wp2_with fail
 refine (keep_0 p k _ (unhide H)).mono ?_
 rintro e w1 ⟨rfl,hb1⟩
 have hS:=(Fs.begin w).kept hb1
 go_wp2
 go_ret
 exact ⟨rfl,hS.fr⟩
theorem runNats_0 (p k:Nat) (a:Option Addr) (n cap:Nat) (a':Option Addr) (n' cap':Nat) (w:World) (h:Rn w p k) :
  Calls Tryz.prog 37 #[.pointer (some ⟨p,k,none⟩),.agg #[.slice a n cap],.agg #[.slice a' n' cap'],.int .i64 0] w fun e w'=>e = .returned (.tuple #[.agg #[.slice a n cap],.agg #[.slice a' n' cap']])∧Below w.heap.size w w':=by
 have H:=hide h
 clear h
 go_enter Tryz.func37,Tryz.ntmps37
 go_wp2_with fail
 have hS:=(Fs.three w #[.slice a n cap] 28 #[.slice a' n' cap'] 28 #[.slice none 0 0] 28).alloc #[.slice none 0 0] 28
 simp only [World.size_alloc] at hS
 refine (keep_0 p k _ ((unhide H).kept hS.fr)).mono ?_
 rintro e w1 ⟨rfl,hb1⟩
 replace hS:=hS.kept hb1
 obtain ⟨⟨ya,-⟩,⟨yb,-⟩,⟨yc,-⟩,⟨yd,-⟩,-⟩:=hS.cells
 have fy0:=hS.frozen (b:=w.heap.size+2) (cs:=#[.slice none 0 0]) (t:=28) (by simp) 0
 have fz0:=hS.frozen (b:=w.heap.size+3) (cs:=#[.slice none 0 0]) (t:=28) (by simp) 0
 go_wp2
 go_region
 go_wp2
 exact bodyPost_ret (v:=.tuple #[.agg #[.slice a n cap],.agg #[.slice a' n' cap']]) (by simp [results,Tryz.results37,go_sem,ya,yd]) rfl ⟨rfl,((hS.fr.setCell (show w.heap.size≤w.heap.size+1+1 by omega) _).setCell (show w.heap.size≤w.heap.size+1+1+1 by omega) _).drew⟩
theorem tcheckF_ok (s:Bool) (a:Option Addr) (n cap:Nat) (a':Option Addr) (n' cap':Nat) (md:Nat) (hm:md≤4) (w:World) (HC:Hid (∀ W:World,Below w.heap.size w W→Calls Tryz.prog 24 #[.agg #[.bool s,.slice a n cap,.slice a' n' cap']] W fun e w'=>e = .returned (.int .i64 0)∧Below W.heap.size W w')) :
  Calls Tryz.prog 34 #[.agg #[.bool s,.slice a n cap,.slice a' n' cap'],.int .u8 (md:Int)] w fun e w'=>e = .returned (.int .i64 0)∧Below w.heap.size w w':=by
 go_enter Tryz.func34,Tryz.ntmps34
 go_wp2_with fail
 refine (unhide HC _ (Fs.one w _ _).fr).mono ?_
 rintro e w1 ⟨rfl,hb1⟩
 have hS:=(Fs.one w _ _).kept hb1
 obtain ⟨⟨ya,yb,yc,-⟩,-⟩:=hS.cells
 go_wp2_with fail
 refine (mode_ok md hm _).mono ?_
 rintro e w2 ⟨rfl,hb2⟩
 replace hS:=hS.kept hb2
 clear ya yb yc
 obtain ⟨⟨yd,ye,yf,-⟩,-⟩:=hS.cells
 clear hm
 go_wp2
 go_ret
 exact ⟨rfl,hS.fr⟩
def HBits (m i:Nat):Prop:=∀ (W:World) (A:Option Addr) (N C:Nat),Num W A N m→Calls Tryz.prog 72 #[.agg #[.slice A N C]] W fun e W'=>e = .returned (.tuple #[.int .i64 (i:Int),.int .i64 0])∧Below W.heap.size W W'
def HUp (m:Nat) (s:Int) (v:Nat):Prop:=∀ (W:World) (A:Option Addr) (N C:Nat),Num W A N m→Calls Tryz.prog 22 #[.agg #[.slice A N C],.int .i64 s] W fun en W'=>(∃ a n c,en = .returned (.tuple #[.agg #[.slice a n c],.int .i64 0])∧Mine W' W.heap.size a n c v)∧Below W.heap.size W W'
def HTwo (f:FuncId) (x y v:Nat):Prop:=∀ (W:World) (a:Option Addr) (n c:Nat) (a':Option Addr) (n' c':Nat),Num W a n x→Num W a' n' y→Calls Tryz.prog f #[.agg #[.slice a n c],.agg #[.slice a' n' c']] W fun en W'=>(∃ a n c,en = .returned (.tuple #[.agg #[.slice a n c],.int .i64 0])∧Mine W' W.heap.size a n c v)∧Below W.heap.size W W'
def HDiv (x y q r:Nat):Prop:=∀ (W:World) (a:Option Addr) (n c:Nat) (a':Option Addr) (n' c':Nat),Num W a n x→Num W a' n' y→Calls Tryz.prog 38 #[.agg #[.slice a n c],.agg #[.slice a' n' c']] W fun en W'=>(∃ a n c a' n' c',en = .returned (.tuple #[.agg #[.slice a n c],.agg #[.slice a' n' c'],.int .i64 0])∧Mine W' W.heap.size a n c q∧Mine W' W.heap.size a' n' c' r)∧Below W.heap.size W W'
theorem snought (a:Option Addr) (n cap:Nat) (w:World) (b:Bool) (h:decide (n = 0) = b):Calls Tryz.prog 39 #[.agg #[.slice a n cap]] w fun e w'=>e = .returned (.bool b)∧Below w.heap.size w w':=by
 subst h
 rcases Nat.eq_zero_or_pos n with h|h
 ·subst h; exact rnought_yes a cap w
 ·rw [decide_eq_false (by omega)]; exact rnought_no a n cap h w
theorem Num.isz {w:World} {a:Option Addr} {n m:Nat} (h:Num w a n m) (hm:m = 0):decide (n = 0) = true:=by rw [decide_eq_true_iff]; exact h.zero.2 hm
theorem Num.noz {w:World} {a:Option Addr} {n m:Nat} (h:Num w a n m) (hm:m≠0):decide (n = 0) = false:=by rw [decide_eq_false_iff_not]; exact fun e=>hm (h.zero.1 e)
def cS (B m:Nat) (g:Bool):Cf:=⟨fun q=>.tuple #[.agg #[.slice q.A q.N q.C],.bool g],fun q W=>Mine W B q.A q.N q.C m,fun _=>sta_mine _ _ _ _ _⟩
theorem as_s {P:Program} {fn:FuncId} {args:Array Value} {W:World} {B m:Nat} {g:Bool} (hb:B≤W.heap.size) (h:Calls P fn args W fun en W'=>(∃ a n c,en = .returned (.tuple #[.agg #[.slice a n c],.bool g])∧Mine W' W.heap.size a n c m)∧Below W.heap.size W W'):Calls P fn args W fun en W'=>∃ q,en = .returned ((cS B m g).f q)∧Below W.heap.size W W'∧(cS B m g).g q W':=
 h.mono fun _ _ ⟨⟨a,n,c,h1,h3⟩,h2⟩=>⟨{ pq0 with A:=a,N:=n,C:=c },h1,h2,h3.mono hb⟩
theorem sfirst_is (w:World) (p:Nat) (a1 a2 a3 a4:Option Addr) (n1 n2 n3 n4 c1 c2 c3 c4 m1 m2 m3 m4 i1 i2 i3 i4 i5 lift more t1 t2 t3 t4 t5 t6 t7 t8 t9 t10 t11:Nat) (z th:Int) (go:Bool) (ans:Nat) (hk:Rn w p 0) (h1:Num w a1 n1 m1) (h2:Num w a2 n2 m2) (h3:Num w a3 n3 m3) (h4:Num w a4 n4 m4) (hb1:i1≤524288) (hb2:i2≤524288) (hb3:i3≤524288) (hb4:i4≤524288) (hb5:i5≤1048576) (hl:max 0 ((i3:Int) - (i1:Int)) = (lift:Int)) (hth:(i5:Int)+(i2:Int) - 1 - (i3:Int) = th) (hm:max 0 (64+(i4:Int) - th) = (more:Int)) (hlb:lift≤524288) (hmb:more≤1048576) (hz1:-2147483648≤z) (hz2:z≤2147483648) (hgo:Hid ((go = true∧ans = t11)∨(go = false∧t9≠0∧ans = t11)∨(go = false∧t9 = 0∧ans = t10))) (HB1:Hid (HBits m1 i1)) (HB2:Hid (HBits m2 i2)) (HB3:Hid (HBits m3 i3)) (HB4:Hid (HBits m4 i4)) (HB5:Hid (HBits t1 i5)) (HU1:Hid (HUp m1 lift t1)) (HU2:Hid (HUp m2 more t2)) (HV1:Hid (HDiv t1 m3 t3 t4)) (HS:Hid (∀ (W:World) (a:Option Addr) (n c:Nat) (b:Option Addr) (k l:Nat) (d:Option Addr) (m e:Nat),Rn W p 0→Num W a n t4→Num W b k t2→Num W d m m3→Calls Tryz.prog 109 #[.pointer (some ⟨p,0,none⟩),.agg #[.slice a n c],.agg #[.slice b k l],.agg #[.slice d m e]] W fun en W'=>(∃ A N C,en = .returned (.tuple #[.agg #[.slice A N C],.bool go])∧Mine W' W.heap.size A N C t5)∧Below W.heap.size W W')) (HM:Hid (HTwo 100 t3 t2 t6)) (HA1:Hid (HTwo 48 t6 t5 t7)) (HV2:Hid (HDiv t7 m4 t8 t9)) (HU3:Hid (HUp t8 1 t10)) (HA2:Hid (HTwo 48 t10 1 t11)) :
  Calls Tryz.prog 81 #[.agg #[.slice a1 n1 c1,.slice a2 n2 c2,.slice a3 n3 c3,.slice a4 n4 c4,.int .i64 z],.pointer (some ⟨p,0,none⟩)] w fun en w'=>(∃ A N C,en = .returned (.tuple #[.agg #[.slice A N C],.int .i64 (z - (lift:Int) - (more:Int) - 1)])∧Mine w' w.heap.size A N C ans)∧Below w.heap.size w w':=by
 obtain ⟨cs9,t9_,hp,hp0⟩:=hk
 refine calls_sym Tryz.func81 rfl (by kernel_rfl) fun T hK=>?_
 replace hK:Kn T _ [(0,.agg #[.slice a1 n1 c1,.slice a2 n2 c2,.slice a3 n3 c3,.slice a4 n4 c4,.int .i64 z]),(1,.pointer (some ⟨p,0,none⟩))]:=hK
 have hS:=Fb.other hp
 have hG:GsAt [gN a1 n1 m1,gN a2 n2 m2,gN a3 n3 m3,gN a4 n4 m4] w:=⟨h1,h2,h3,h4,trivial⟩
 clear h1 h2 h3 h4
 refine wp_symQ hS hG hK (fun p1=>[.n 2 #[.slice a1 n1 c1,.slice a2 n2 c2,.slice a3 n3 c3,.slice a4 n4 c4,.int .i64 z] 133,.n 4 #[.slice none 0 0] 28,.v 5 (.int .i64 0)]) (fun p1=>[(1,.pointer (some ⟨p,0,none⟩)),(2,.pointer (some ⟨(p1 0).N,0,none⟩)),(4,.pointer (some ⟨(p1 1).N,0,none⟩)),(5,.int .i64 0)]) (by kernel_rfl) (fun _ _=>by kernel_rfl) (fun _=>by kernel_rfl) (fun _=>by kernel_rfl) (fun p1=>?_) (fun p1 W1 T hF hK=>?_)
 ·iterate 2 refine ok_n (fun _=>by kernel_rfl) ?_
  refine ok_v (by kernel_rfl) ?_
  exact ok_nil
 replace hS:=SymF.fb hS hF [0,1000,1001] [⟨p,cs9,t9_,false⟩,⟨(p1 0).N,#[.slice a1 n1 c1,.slice a2 n2 c2,.slice a3 n3 c3,.slice a4 n4 c4,.int .i64 z],133,true⟩,⟨(p1 1).N,#[.slice none 0 0],28,true⟩] (by kernel_rfl) (by kernel_rfl)
 replace hG:=hF.gx
 clear hF
 have z1:=hS.fr.size
 refine wp_symQ hS hG hK (fun p2=>[.v 17 (.pointer (some ⟨p,0,none⟩)),.v 18 (.pointer (some ⟨p,0,none⟩)),.v 19 (.pointer (some ⟨p,0,none⟩)),.v 20 (.pointer (some ⟨(p1 0).N,2,none⟩)),.l 21 (.agg #[.slice a3 n3 c3]) 1 2,.c (some 22) (cV (.tuple #[.int .i64 (i3:Int),.int .i64 0])),.v 23 (.int .i64 (i3:Int)),.v 24 (.int .i64 0),.u 25 (.int .i64 (i3:Int)) (aG 1),.v 6 (.int .i64 (i3:Int))]) (fun p2=>[(1,.pointer (some ⟨p,0,none⟩)),(2,.pointer (some ⟨(p1 0).N,0,none⟩)),(4,.pointer (some ⟨(p1 1).N,0,none⟩)),(5,.int .i64 0),(6,.int .i64 (i3:Int))]) (by kernel_rfl) (fun _ _=>by kernel_rfl) (fun _=>by kernel_rfl) (fun _=>by kernel_rfl) (fun p2=>?_) (fun p2 W2 T hF hK=>?_)
 ·iterate 4 refine ok_v (by kernel_rfl) ?_
  refine ok_L (by kernel_rfl) (by kernel_rfl) (by kernel_rfl) ?_
  refine ok_c (fun W cx=>as_v (unhide HB3 _ _ _ c3 (cx.G.2.2.1))) (by kernel_rfl) ?_
  iterate 2 refine ok_v (by kernel_rfl) ?_
  refine ok_u (fun W cx=>runInt_0 p 0 _ _ ⟨_,_,cx.B 0 _ rfl (by kernel_rfl) (by kernel_rfl),hp0⟩) (by kernel_rfl) (by kernel_rfl) ?_
  refine ok_v (by kernel_rfl) ?_
  exact ok_nil
 replace hS:=SymF.fb hS hF [0,1,2] [⟨p,cs9,t9_,false⟩,⟨(p1 0).N,#[.slice a1 n1 c1,.slice a2 n2 c2,.slice a3 n3 c3,.slice a4 n4 c4,.int .i64 z],133,true⟩,⟨(p1 1).N,#[.slice none 0 0],28,true⟩] (by kernel_rfl) (by kernel_rfl)
 replace hG:=hF.gx
 clear hF
 have z2:=hS.fr.size
 refine wp_symQ hS hG hK (fun p3=>[.v 26 (.int .i64 (i3:Int)),.v 27 (.pointer (some ⟨p,0,none⟩)),.v 28 (.pointer (some ⟨p,0,none⟩)),.v 29 (.pointer (some ⟨p,0,none⟩)),.v 30 (.pointer (some ⟨(p1 0).N,0,none⟩)),.l 31 (.agg #[.slice a1 n1 c1]) 1 0,.c (some 32) (cV (.tuple #[.int .i64 (i1:Int),.int .i64 0])),.v 33 (.int .i64 (i1:Int)),.v 34 (.int .i64 0),.u 35 (.int .i64 (i1:Int)) (aG 1),.v 36 (.int .i64 ((i3:Int) - (i1:Int))),.v 37 (.int .i64 (lift:Int)),.v 7 (.int .i64 (lift:Int))]) (fun p3=>[(1,.pointer (some ⟨p,0,none⟩)),(2,.pointer (some ⟨(p1 0).N,0,none⟩)),(4,.pointer (some ⟨(p1 1).N,0,none⟩)),(5,.int .i64 0),(6,.int .i64 (i3:Int)),(7,.int .i64 (lift:Int))]) (by kernel_rfl) (fun _ _=>by kernel_rfl) (fun _=>by kernel_rfl) (fun _=>by kernel_rfl) (fun p3=>?_) (fun p3 W3 T hF hK=>?_)
 ·iterate 5 refine ok_v (by kernel_rfl) ?_
  refine ok_L (by kernel_rfl) (by kernel_rfl) (by kernel_rfl) ?_
  refine ok_c (fun W cx=>as_v (unhide HB1 _ _ _ c1 (cx.G.1))) (by kernel_rfl) ?_
  iterate 2 refine ok_v (by kernel_rfl) ?_
  refine ok_u (fun W cx=>runInt_0 p 0 _ _ ⟨_,_,cx.B 0 _ rfl (by kernel_rfl) (by kernel_rfl),hp0⟩) (by kernel_rfl) (by kernel_rfl) ?_
  refine ok_vi (wr64 (x:=(i3:Int) - (i1:Int)) (by omega) (by omega)) (by kernel_rfl) ?_
  refine ok_vi ((imax _ _).trans hl) (by kernel_rfl) ?_
  refine ok_v (by kernel_rfl) ?_
  exact ok_nil
 replace hS:=SymF.fb hS hF [0,1,2] [⟨p,cs9,t9_,false⟩,⟨(p1 0).N,#[.slice a1 n1 c1,.slice a2 n2 c2,.slice a3 n3 c3,.slice a4 n4 c4,.int .i64 z],133,true⟩,⟨(p1 1).N,#[.slice none 0 0],28,true⟩] (by kernel_rfl) (by kernel_rfl)
 replace hG:=hF.gx
 clear hF
 have z3:=hS.fr.size
 refine wp_symQ hS hG hK (fun p4=>[.v 38 (.pointer (some ⟨p,0,none⟩)),.v 39 (.pointer (some ⟨p,0,none⟩)),.v 40 (.pointer (some ⟨p,0,none⟩)),.v 41 (.pointer (some ⟨(p1 0).N,0,none⟩)),.l 42 (.agg #[.slice a1 n1 c1]) 1 0,.v 43 (.int .i64 (lift:Int)),.c (some 44) (cO W3.heap.size t1),.v 45 (.agg #[.slice (p4 6).A (p4 6).N (p4 6).C]),.v 46 (.int .i64 0),.u 47 (.agg #[.slice (p4 6).A (p4 6).N (p4 6).C]) (aG 1),.n 8 #[.slice none 0 0] 28,.p 1010 0 [.slice (p4 6).A (p4 6).N (p4 6).C]]) (fun p4=>[(1,.pointer (some ⟨p,0,none⟩)),(2,.pointer (some ⟨(p1 0).N,0,none⟩)),(4,.pointer (some ⟨(p1 1).N,0,none⟩)),(5,.int .i64 0),(6,.int .i64 (i3:Int)),(7,.int .i64 (lift:Int)),(8,.pointer (some ⟨(p4 10).N,0,none⟩))]) (by kernel_rfl) (fun _ _=>by kernel_rfl) (fun _=>by kernel_rfl) (fun _=>by kernel_rfl) (fun p4=>?_) (fun p4 W4 T hF hK=>?_)
 ·iterate 4 refine ok_v (by kernel_rfl) ?_
  refine ok_L (by kernel_rfl) (by kernel_rfl) (by kernel_rfl) ?_
  refine ok_v (by kernel_rfl) ?_
  refine ok_c (fun W cx=>as_o cx.hb (unhide HU1 _ _ _ c1 (cx.G.1))) (by kernel_rfl) ?_
  iterate 2 refine ok_v (by kernel_rfl) ?_
  refine ok_u (fun W cx=>runNat_0 p 0 _ _ _ _ ⟨_,_,cx.B 0 _ rfl (by kernel_rfl) (by kernel_rfl),hp0⟩) (by kernel_rfl) (by kernel_rfl) ?_
  refine ok_n (fun _=>by kernel_rfl) ?_
  refine ok_P (by kernel_rfl) (by kernel_rfl) (by kernel_rfl) ?_
  exact ok_nil
 replace hS:=SymF.fb hS hF [0,1,2,1010] [⟨p,cs9,t9_,false⟩,⟨(p1 0).N,#[.slice a1 n1 c1,.slice a2 n2 c2,.slice a3 n3 c3,.slice a4 n4 c4,.int .i64 z],133,true⟩,⟨(p1 1).N,#[.slice none 0 0],28,true⟩,⟨(p4 10).N,#[.slice (p4 6).A (p4 6).N (p4 6).C],28,true⟩] (by kernel_rfl) (by kernel_rfl)
 replace hG:GsAt (gM W3.heap.size (p4 6).A (p4 6).N (p4 6).C t1 :: _) W4:=⟨hF.fx 6,hF.gx⟩
 clear hF
 have z4:=hS.fr.size
 refine wp_symQ hS hG hK (fun p5=>[.v 48 (.pointer (some ⟨p,0,none⟩)),.v 49 (.pointer (some ⟨p,0,none⟩)),.v 50 (.pointer (some ⟨p,0,none⟩)),.l 51 (.agg #[.slice (p4 6).A (p4 6).N (p4 6).C]) 3 0,.c (some 52) (cV (.tuple #[.int .i64 (i5:Int),.int .i64 0])),.v 53 (.int .i64 (i5:Int)),.v 54 (.int .i64 0),.u 55 (.int .i64 (i5:Int)) (aG 1),.v 56 (.pointer (some ⟨p,0,none⟩)),.v 57 (.pointer (some ⟨p,0,none⟩)),.v 58 (.pointer (some ⟨p,0,none⟩)),.v 59 (.pointer (some ⟨(p1 0).N,1,none⟩)),.l 60 (.agg #[.slice a2 n2 c2]) 1 1,.c (some 61) (cV (.tuple #[.int .i64 (i2:Int),.int .i64 0])),.v 62 (.int .i64 (i2:Int)),.v 63 (.int .i64 0),.u 64 (.int .i64 (i2:Int)) (aG 1),.v 65 (.int .i64 ((i5:Int)+(i2:Int))),.v 66 (.int .i64 ((i5:Int)+(i2:Int) - 1)),.v 67 (.int .i64 (i3:Int)),.v 68 (.int .i64 th),.v 9 (.int .i64 th)]) (fun p5=>[(1,.pointer (some ⟨p,0,none⟩)),(2,.pointer (some ⟨(p1 0).N,0,none⟩)),(4,.pointer (some ⟨(p1 1).N,0,none⟩)),(5,.int .i64 0),(7,.int .i64 (lift:Int)),(8,.pointer (some ⟨(p4 10).N,0,none⟩)),(9,.int .i64 th)]) (by kernel_rfl) (fun _ _=>by kernel_rfl) (fun _=>by kernel_rfl) (fun _=>by kernel_rfl) (fun p5=>?_) (fun p5 W5 T hF hK=>?_)
 ·iterate 3 refine ok_v (by kernel_rfl) ?_
  refine ok_L (by kernel_rfl) (by kernel_rfl) (by kernel_rfl) ?_
  refine ok_c (fun W cx=>as_v (unhide HB5 _ _ _ (p4 6).C (Mine.num cx.G.1))) (by kernel_rfl) ?_
  iterate 2 refine ok_v (by kernel_rfl) ?_
  refine ok_u (fun W cx=>runInt_0 p 0 _ _ ⟨_,_,cx.B 0 _ rfl (by kernel_rfl) (by kernel_rfl),hp0⟩) (by kernel_rfl) (by kernel_rfl) ?_
  iterate 4 refine ok_v (by kernel_rfl) ?_
  refine ok_L (by kernel_rfl) (by kernel_rfl) (by kernel_rfl) ?_
  refine ok_c (fun W cx=>as_v (unhide HB2 _ _ _ c2 (cx.G.2.2.1))) (by kernel_rfl) ?_
  iterate 2 refine ok_v (by kernel_rfl) ?_
  refine ok_u (fun W cx=>runInt_0 p 0 _ _ ⟨_,_,cx.B 0 _ rfl (by kernel_rfl) (by kernel_rfl),hp0⟩) (by kernel_rfl) (by kernel_rfl) ?_
  refine ok_vi (wr64 (x:=(i5:Int)+(i2:Int)) (by omega) (by omega)) (by kernel_rfl) ?_
  refine ok_vi (wr64 (x:=(i5:Int)+(i2:Int) - 1) (by omega) (by omega)) (by kernel_rfl) ?_
  refine ok_v (by kernel_rfl) ?_
  refine ok_vi ((wr64 (x:=(i5:Int)+(i2:Int) - 1 - (i3:Int)) (by omega) (by omega)).trans hth) (by kernel_rfl) ?_
  refine ok_v (by kernel_rfl) ?_
  exact ok_nil
 replace hS:=SymF.fb hS hF [0,1,2,3] [⟨p,cs9,t9_,false⟩,⟨(p1 0).N,#[.slice a1 n1 c1,.slice a2 n2 c2,.slice a3 n3 c3,.slice a4 n4 c4,.int .i64 z],133,true⟩,⟨(p1 1).N,#[.slice none 0 0],28,true⟩,⟨(p4 10).N,#[.slice (p4 6).A (p4 6).N (p4 6).C],28,true⟩] (by kernel_rfl) (by kernel_rfl)
 replace hG:=hF.gx
 clear hF
 have z5:=hS.fr.size
 refine wp_symQ hS hG hK (fun p6=>[.v 69 (.pointer (some ⟨p,0,none⟩)),.v 70 (.pointer (some ⟨p,0,none⟩)),.v 71 (.pointer (some ⟨p,0,none⟩)),.v 72 (.pointer (some ⟨(p1 0).N,3,none⟩)),.l 73 (.agg #[.slice a4 n4 c4]) 1 3,.c (some 74) (cV (.tuple #[.int .i64 (i4:Int),.int .i64 0])),.v 75 (.int .i64 (i4:Int)),.v 76 (.int .i64 0),.u 77 (.int .i64 (i4:Int)) (aG 1),.v 78 (.int .i64 (64+(i4:Int))),.v 79 (.int .i64 th),.v 80 (.int .i64 (64+(i4:Int) - th)),.v 81 (.int .i64 (more:Int)),.v 10 (.int .i64 (more:Int))]) (fun p6=>[(1,.pointer (some ⟨p,0,none⟩)),(2,.pointer (some ⟨(p1 0).N,0,none⟩)),(4,.pointer (some ⟨(p1 1).N,0,none⟩)),(5,.int .i64 0),(7,.int .i64 (lift:Int)),(8,.pointer (some ⟨(p4 10).N,0,none⟩)),(10,.int .i64 (more:Int))]) (by kernel_rfl) (fun _ _=>by kernel_rfl) (fun _=>by kernel_rfl) (fun _=>by kernel_rfl) (fun p6=>?_) (fun p6 W6 T hF hK=>?_)
 ·iterate 4 refine ok_v (by kernel_rfl) ?_
  refine ok_L (by kernel_rfl) (by kernel_rfl) (by kernel_rfl) ?_
  refine ok_c (fun W cx=>as_v (unhide HB4 _ _ _ c4 (cx.G.2.2.2.2.1))) (by kernel_rfl) ?_
  iterate 2 refine ok_v (by kernel_rfl) ?_
  refine ok_u (fun W cx=>runInt_0 p 0 _ _ ⟨_,_,cx.B 0 _ rfl (by kernel_rfl) (by kernel_rfl),hp0⟩) (by kernel_rfl) (by kernel_rfl) ?_
  refine ok_vi (wr64 (x:=64+(i4:Int)) (by omega) (by omega)) (by kernel_rfl) ?_
  refine ok_v (by kernel_rfl) ?_
  refine ok_vi (wr64 (x:=64+(i4:Int) - th) (by omega) (by omega)) (by kernel_rfl) ?_
  refine ok_vi ((imax _ _).trans hm) (by kernel_rfl) ?_
  refine ok_v (by kernel_rfl) ?_
  exact ok_nil
 replace hS:=SymF.fb hS hF [0,1,2,3] [⟨p,cs9,t9_,false⟩,⟨(p1 0).N,#[.slice a1 n1 c1,.slice a2 n2 c2,.slice a3 n3 c3,.slice a4 n4 c4,.int .i64 z],133,true⟩,⟨(p1 1).N,#[.slice none 0 0],28,true⟩,⟨(p4 10).N,#[.slice (p4 6).A (p4 6).N (p4 6).C],28,true⟩] (by kernel_rfl) (by kernel_rfl)
 replace hG:=hF.gx
 clear hF
 have z6:=hS.fr.size
 refine wp_symQ hS hG hK (fun p7=>[.v 82 (.pointer (some ⟨p,0,none⟩)),.v 83 (.pointer (some ⟨p,0,none⟩)),.v 84 (.pointer (some ⟨p,0,none⟩)),.v 85 (.pointer (some ⟨(p1 0).N,1,none⟩)),.l 86 (.agg #[.slice a2 n2 c2]) 1 1,.v 87 (.int .i64 (more:Int)),.c (some 88) (cO W6.heap.size t2),.v 89 (.agg #[.slice (p7 6).A (p7 6).N (p7 6).C]),.v 90 (.int .i64 0),.u 91 (.agg #[.slice (p7 6).A (p7 6).N (p7 6).C]) (aG 1),.n 11 #[.slice none 0 0] 28,.p 1010 0 [.slice (p7 6).A (p7 6).N (p7 6).C]]) (fun p7=>[(1,.pointer (some ⟨p,0,none⟩)),(2,.pointer (some ⟨(p1 0).N,0,none⟩)),(4,.pointer (some ⟨(p1 1).N,0,none⟩)),(5,.int .i64 0),(7,.int .i64 (lift:Int)),(8,.pointer (some ⟨(p4 10).N,0,none⟩)),(10,.int .i64 (more:Int)),(11,.pointer (some ⟨(p7 10).N,0,none⟩))]) (by kernel_rfl) (fun _ _=>by kernel_rfl) (fun _=>by kernel_rfl) (fun _=>by kernel_rfl) (fun p7=>?_) (fun p7 W7 T hF hK=>?_)
 ·iterate 4 refine ok_v (by kernel_rfl) ?_
  refine ok_L (by kernel_rfl) (by kernel_rfl) (by kernel_rfl) ?_
  refine ok_v (by kernel_rfl) ?_
  refine ok_c (fun W cx=>as_o cx.hb (unhide HU2 _ _ _ c2 (cx.G.2.2.1))) (by kernel_rfl) ?_
  iterate 2 refine ok_v (by kernel_rfl) ?_
  refine ok_u (fun W cx=>runNat_0 p 0 _ _ _ _ ⟨_,_,cx.B 0 _ rfl (by kernel_rfl) (by kernel_rfl),hp0⟩) (by kernel_rfl) (by kernel_rfl) ?_
  refine ok_n (fun _=>by kernel_rfl) ?_
  refine ok_P (by kernel_rfl) (by kernel_rfl) (by kernel_rfl) ?_
  exact ok_nil
 replace hS:=SymF.fb hS hF [0,1,2,3,1010] [⟨p,cs9,t9_,false⟩,⟨(p1 0).N,#[.slice a1 n1 c1,.slice a2 n2 c2,.slice a3 n3 c3,.slice a4 n4 c4,.int .i64 z],133,true⟩,⟨(p1 1).N,#[.slice none 0 0],28,true⟩,⟨(p4 10).N,#[.slice (p4 6).A (p4 6).N (p4 6).C],28,true⟩,⟨(p7 10).N,#[.slice (p7 6).A (p7 6).N (p7 6).C],28,true⟩] (by kernel_rfl) (by kernel_rfl)
 replace hG:GsAt (gM W6.heap.size (p7 6).A (p7 6).N (p7 6).C t2 :: _) W7:=⟨hF.fx 6,hF.gx⟩
 clear hF
 have z7:=hS.fr.size
 refine wp_symQ hS hG hK (fun p8=>[.v 93 (.pointer (some ⟨p,0,none⟩)),.v 94 (.pointer (some ⟨p,0,none⟩)),.v 95 (.pointer (some ⟨p,0,none⟩)),.l 96 (.agg #[.slice (p4 6).A (p4 6).N (p4 6).C]) 3 0,.v 97 (.pointer (some ⟨(p1 0).N,2,none⟩)),.l 98 (.agg #[.slice a3 n3 c3]) 1 2,.c (some 99) (cD W7.heap.size t3 t4),.v 100 (.agg #[.slice (p8 6).A (p8 6).N (p8 6).C]),.v 101 (.agg #[.slice (p8 6).A' (p8 6).N' (p8 6).C']),.v 102 (.int .i64 0),.u 103 (.tuple #[.agg #[.slice (p8 6).A (p8 6).N (p8 6).C],.agg #[.slice (p8 6).A' (p8 6).N' (p8 6).C']]) (aH 1 2),.v 92 (.tuple #[.agg #[.slice (p8 6).A (p8 6).N (p8 6).C],.agg #[.slice (p8 6).A' (p8 6).N' (p8 6).C']]),.v 104 (.agg #[.slice (p8 6).A (p8 6).N (p8 6).C]),.v 105 (.agg #[.slice (p8 6).A' (p8 6).N' (p8 6).C']),.n 12 #[.slice none 0 0] 28,.n 13 #[.slice none 0 0] 28,.p 1014 0 [.slice (p8 6).A (p8 6).N (p8 6).C],.p 1015 0 [.slice (p8 6).A' (p8 6).N' (p8 6).C']]) (fun p8=>[(1,.pointer (some ⟨p,0,none⟩)),(2,.pointer (some ⟨(p1 0).N,0,none⟩)),(4,.pointer (some ⟨(p1 1).N,0,none⟩)),(5,.int .i64 0),(7,.int .i64 (lift:Int)),(10,.int .i64 (more:Int)),(11,.pointer (some ⟨(p7 10).N,0,none⟩)),(12,.pointer (some ⟨(p8 14).N,0,none⟩)),(13,.pointer (some ⟨(p8 15).N,0,none⟩))]) (by kernel_rfl) (fun _ _=>by kernel_rfl) (fun _=>by kernel_rfl) (fun _=>by kernel_rfl) (fun p8=>?_) (fun p8 W8 T hF hK=>?_)
 ·iterate 3 refine ok_v (by kernel_rfl) ?_
  refine ok_L (by kernel_rfl) (by kernel_rfl) (by kernel_rfl) ?_
  refine ok_v (by kernel_rfl) ?_
  refine ok_L (by kernel_rfl) (by kernel_rfl) (by kernel_rfl) ?_
  refine ok_c (fun W cx=>as_d cx.hb (unhide HV1 _ _ _ (p4 6).C _ _ c3 (Mine.num cx.G.2.1) (cx.G.2.2.2.2.1))) (by kernel_rfl) ?_
  iterate 3 refine ok_v (by kernel_rfl) ?_
  refine ok_u (fun W cx=>runNats_0 p 0 _ _ _ _ _ _ _ ⟨_,_,cx.B 0 _ rfl (by kernel_rfl) (by kernel_rfl),hp0⟩) (by kernel_rfl) (by kernel_rfl) ?_
  iterate 3 refine ok_v (by kernel_rfl) ?_
  iterate 2 refine ok_n (fun _=>by kernel_rfl) ?_
  iterate 2 refine ok_P (by kernel_rfl) (by kernel_rfl) (by kernel_rfl) ?_
  exact ok_nil
 replace hS:=SymF.fb hS hF [0,1,2,4,1014,1015] [⟨p,cs9,t9_,false⟩,⟨(p1 0).N,#[.slice a1 n1 c1,.slice a2 n2 c2,.slice a3 n3 c3,.slice a4 n4 c4,.int .i64 z],133,true⟩,⟨(p1 1).N,#[.slice none 0 0],28,true⟩,⟨(p7 10).N,#[.slice (p7 6).A (p7 6).N (p7 6).C],28,true⟩,⟨(p8 14).N,#[.slice (p8 6).A (p8 6).N (p8 6).C],28,true⟩,⟨(p8 15).N,#[.slice (p8 6).A' (p8 6).N' (p8 6).C'],28,true⟩] (by kernel_rfl) (by kernel_rfl)
 replace hG:GsAt (gM W7.heap.size (p8 6).A (p8 6).N (p8 6).C t3 :: gM W7.heap.size (p8 6).A' (p8 6).N' (p8 6).C' t4 :: _) W8:=⟨And.left (hF.fx 6),And.right (hF.fx 6),hF.gx⟩
 clear hF
 have z8:=hS.fr.size
 refine wp_symQ hS hG hK (fun p9=>[.v 107 (.pointer (some ⟨p,0,none⟩)),.l 108 (.agg #[.slice (p8 6).A' (p8 6).N' (p8 6).C']) 5 0,.l 109 (.agg #[.slice (p7 6).A (p7 6).N (p7 6).C]) 3 0,.v 110 (.pointer (some ⟨(p1 0).N,2,none⟩)),.l 111 (.agg #[.slice a3 n3 c3]) 1 2,.c (some 112) (cS W8.heap.size t5 go),.v 106 (.tuple #[.agg #[.slice (p9 5).A (p9 5).N (p9 5).C],.bool go]),.v 113 (.agg #[.slice (p9 5).A (p9 5).N (p9 5).C]),.v 114 (.bool go),.n 14 #[.slice none 0 0] 28,.p 1009 0 [.slice (p9 5).A (p9 5).N (p9 5).C],.v 15 (.bool go)]) (fun p9=>[(1,.pointer (some ⟨p,0,none⟩)),(2,.pointer (some ⟨(p1 0).N,0,none⟩)),(4,.pointer (some ⟨(p1 1).N,0,none⟩)),(5,.int .i64 0),(7,.int .i64 (lift:Int)),(10,.int .i64 (more:Int)),(11,.pointer (some ⟨(p7 10).N,0,none⟩)),(12,.pointer (some ⟨(p8 14).N,0,none⟩)),(13,.pointer (some ⟨(p8 15).N,0,none⟩)),(14,.pointer (some ⟨(p9 9).N,0,none⟩)),(15,.bool go)]) (by kernel_rfl) (fun _ _=>by kernel_rfl) (fun _=>by kernel_rfl) (fun _=>by kernel_rfl) (fun p9=>?_) (fun p9 W9 T hF hK=>?_)
 ·refine ok_v (by kernel_rfl) ?_
  iterate 2 refine ok_L (by kernel_rfl) (by kernel_rfl) (by kernel_rfl) ?_
  refine ok_v (by kernel_rfl) ?_
  refine ok_L (by kernel_rfl) (by kernel_rfl) (by kernel_rfl) ?_
  refine ok_c (fun W cx=>as_s cx.hb (unhide HS _ _ _ (p8 6).C' _ _ (p7 6).C _ _ c3 ⟨_,_,cx.B 0 _ rfl (by kernel_rfl) (by kernel_rfl),hp0⟩ (Mine.num cx.G.2.1) (Mine.num cx.G.2.2.1) (cx.G.2.2.2.2.2.2.1))) (by kernel_rfl) ?_
  iterate 3 refine ok_v (by kernel_rfl) ?_
  refine ok_n (fun _=>by kernel_rfl) ?_
  refine ok_P (by kernel_rfl) (by kernel_rfl) (by kernel_rfl) ?_
  refine ok_v (by kernel_rfl) ?_
  exact ok_nil
 replace hS:=SymF.fb hS hF [0,1,2,3,4,5,1009] [⟨p,cs9,t9_,false⟩,⟨(p1 0).N,#[.slice a1 n1 c1,.slice a2 n2 c2,.slice a3 n3 c3,.slice a4 n4 c4,.int .i64 z],133,true⟩,⟨(p1 1).N,#[.slice none 0 0],28,true⟩,⟨(p7 10).N,#[.slice (p7 6).A (p7 6).N (p7 6).C],28,true⟩,⟨(p8 14).N,#[.slice (p8 6).A (p8 6).N (p8 6).C],28,true⟩,⟨(p8 15).N,#[.slice (p8 6).A' (p8 6).N' (p8 6).C'],28,true⟩,⟨(p9 9).N,#[.slice (p9 5).A (p9 5).N (p9 5).C],28,true⟩] (by kernel_rfl) (by kernel_rfl)
 replace hG:GsAt (gM W8.heap.size (p9 5).A (p9 5).N (p9 5).C t5 :: _) W9:=⟨hF.fx 5,hF.gx⟩
 clear hF
 have z9:=hS.fr.size
 refine wp_symQ hS hG hK (fun p10=>[.v 115 (.pointer (some ⟨p,0,none⟩)),.v 116 (.pointer (some ⟨p,0,none⟩)),.v 117 (.pointer (some ⟨p,0,none⟩)),.v 118 (.pointer (some ⟨p,0,none⟩)),.v 119 (.pointer (some ⟨p,0,none⟩)),.v 120 (.pointer (some ⟨p,0,none⟩)),.l 121 (.agg #[.slice (p8 6).A (p8 6).N (p8 6).C]) 4 0,.l 122 (.agg #[.slice (p7 6).A (p7 6).N (p7 6).C]) 3 0,.c (some 123) (cO W9.heap.size t6),.v 124 (.agg #[.slice (p10 8).A (p10 8).N (p10 8).C]),.v 125 (.int .i64 0),.u 126 (.agg #[.slice (p10 8).A (p10 8).N (p10 8).C]) (aG 1),.l 127 (.agg #[.slice (p9 5).A (p9 5).N (p9 5).C]) 6 0,.c (some 128) (cO W9.heap.size t7),.v 129 (.agg #[.slice (p10 13).A (p10 13).N (p10 13).C]),.v 130 (.int .i64 0),.u 131 (.agg #[.slice (p10 13).A (p10 13).N (p10 13).C]) (aG 1),.n 16 #[.slice none 0 0] 28,.p 1017 0 [.slice (p10 13).A (p10 13).N (p10 13).C]]) (fun p10=>[(1,.pointer (some ⟨p,0,none⟩)),(2,.pointer (some ⟨(p1 0).N,0,none⟩)),(4,.pointer (some ⟨(p1 1).N,0,none⟩)),(5,.int .i64 0),(7,.int .i64 (lift:Int)),(10,.int .i64 (more:Int)),(13,.pointer (some ⟨(p8 15).N,0,none⟩)),(15,.bool go),(16,.pointer (some ⟨(p10 17).N,0,none⟩))]) (by kernel_rfl) (fun _ _=>by kernel_rfl) (fun _=>by kernel_rfl) (fun _=>by kernel_rfl) (fun p10=>?_) (fun p10 W10 T hF hK=>?_)
 ·iterate 6 refine ok_v (by kernel_rfl) ?_
  iterate 2 refine ok_L (by kernel_rfl) (by kernel_rfl) (by kernel_rfl) ?_
  refine ok_c (fun W cx=>as_o cx.hb (unhide HM _ _ _ (p8 6).C _ _ (p7 6).C (Mine.num cx.G.2.1) (Mine.num cx.G.2.2.2.1))) (by kernel_rfl) ?_
  iterate 2 refine ok_v (by kernel_rfl) ?_
  refine ok_u (fun W cx=>runNat_0 p 0 _ _ _ _ ⟨_,_,cx.B 0 _ rfl (by kernel_rfl) (by kernel_rfl),hp0⟩) (by kernel_rfl) (by kernel_rfl) ?_
  refine ok_L (by kernel_rfl) (by kernel_rfl) (by kernel_rfl) ?_
  refine ok_c (fun W cx=>as_o cx.hb (unhide HA1 _ _ _ (p10 8).C _ _ (p9 5).C (Mine.num (cx.F 8 (by kernel_rfl))) (Mine.num cx.G.1))) (by kernel_rfl) ?_
  iterate 2 refine ok_v (by kernel_rfl) ?_
  refine ok_u (fun W cx=>runNat_0 p 0 _ _ _ _ ⟨_,_,cx.B 0 _ rfl (by kernel_rfl) (by kernel_rfl),hp0⟩) (by kernel_rfl) (by kernel_rfl) ?_
  refine ok_n (fun _=>by kernel_rfl) ?_
  refine ok_P (by kernel_rfl) (by kernel_rfl) (by kernel_rfl) ?_
  exact ok_nil
 replace hS:=SymF.fb hS hF [0,1,2,5,1017] [⟨p,cs9,t9_,false⟩,⟨(p1 0).N,#[.slice a1 n1 c1,.slice a2 n2 c2,.slice a3 n3 c3,.slice a4 n4 c4,.int .i64 z],133,true⟩,⟨(p1 1).N,#[.slice none 0 0],28,true⟩,⟨(p8 15).N,#[.slice (p8 6).A' (p8 6).N' (p8 6).C'],28,true⟩,⟨(p10 17).N,#[.slice (p10 13).A (p10 13).N (p10 13).C],28,true⟩] (by kernel_rfl) (by kernel_rfl)
 replace hG:GsAt (gM W9.heap.size (p10 8).A (p10 8).N (p10 8).C t6 :: gM W9.heap.size (p10 13).A (p10 13).N (p10 13).C t7 :: _) W10:=⟨hF.fx 8,hF.fx 13,hF.gx⟩
 clear hF
 have z10:=hS.fr.size
 refine wp_symQ hS hG hK (fun p11=>[.v 133 (.pointer (some ⟨p,0,none⟩)),.v 134 (.pointer (some ⟨p,0,none⟩)),.v 135 (.pointer (some ⟨p,0,none⟩)),.l 136 (.agg #[.slice (p10 13).A (p10 13).N (p10 13).C]) 4 0,.v 137 (.pointer (some ⟨(p1 0).N,3,none⟩)),.l 138 (.agg #[.slice a4 n4 c4]) 1 3,.c (some 139) (cD W10.heap.size t8 t9),.v 140 (.agg #[.slice (p11 6).A (p11 6).N (p11 6).C]),.v 141 (.agg #[.slice (p11 6).A' (p11 6).N' (p11 6).C']),.v 142 (.int .i64 0),.u 143 (.tuple #[.agg #[.slice (p11 6).A (p11 6).N (p11 6).C],.agg #[.slice (p11 6).A' (p11 6).N' (p11 6).C']]) (aH 1 2),.v 132 (.tuple #[.agg #[.slice (p11 6).A (p11 6).N (p11 6).C],.agg #[.slice (p11 6).A' (p11 6).N' (p11 6).C']]),.v 144 (.agg #[.slice (p11 6).A (p11 6).N (p11 6).C]),.v 145 (.agg #[.slice (p11 6).A' (p11 6).N' (p11 6).C']),.p 2 0 [.slice (p11 6).A (p11 6).N (p11 6).C],.p 3 0 [.slice (p11 6).A' (p11 6).N' (p11 6).C']]) (fun p11=>[(1,.pointer (some ⟨p,0,none⟩)),(2,.pointer (some ⟨(p1 0).N,0,none⟩)),(4,.pointer (some ⟨(p1 1).N,0,none⟩)),(5,.int .i64 0),(7,.int .i64 (lift:Int)),(10,.int .i64 (more:Int)),(13,.pointer (some ⟨(p8 15).N,0,none⟩)),(15,.bool go)]) (by kernel_rfl) (fun _ _=>by kernel_rfl) (fun _=>by kernel_rfl) (fun _=>by kernel_rfl) (fun p11=>?_) (fun p11 W11 T hF hK=>?_)
 ·iterate 3 refine ok_v (by kernel_rfl) ?_
  refine ok_L (by kernel_rfl) (by kernel_rfl) (by kernel_rfl) ?_
  refine ok_v (by kernel_rfl) ?_
  refine ok_L (by kernel_rfl) (by kernel_rfl) (by kernel_rfl) ?_
  refine ok_c (fun W cx=>as_d cx.hb (unhide HV2 _ _ _ (p10 13).C _ _ c4 (Mine.num cx.G.2.1) (cx.G.2.2.2.2.2.2.2.2.2.2.1))) (by kernel_rfl) ?_
  iterate 3 refine ok_v (by kernel_rfl) ?_
  refine ok_u (fun W cx=>runNats_0 p 0 _ _ _ _ _ _ _ ⟨_,_,cx.B 0 _ rfl (by kernel_rfl) (by kernel_rfl),hp0⟩) (by kernel_rfl) (by kernel_rfl) ?_
  iterate 3 refine ok_v (by kernel_rfl) ?_
  iterate 2 refine ok_P (by kernel_rfl) (by kernel_rfl) (by kernel_rfl) ?_
  exact ok_nil
 replace hS:=SymF.fb hS hF [0,1,2,3] [⟨p,cs9,t9_,false⟩,⟨(p1 0).N,#[.slice a1 n1 c1,.slice a2 n2 c2,.slice a3 n3 c3,.slice a4 n4 c4,.int .i64 z],133,true⟩,⟨(p1 1).N,#[.slice (p11 6).A (p11 6).N (p11 6).C],28,true⟩,⟨(p8 15).N,#[.slice (p11 6).A' (p11 6).N' (p11 6).C'],28,true⟩] (by kernel_rfl) (by kernel_rfl)
 replace hG:GsAt (gM W10.heap.size (p11 6).A (p11 6).N (p11 6).C t8 :: gM W10.heap.size (p11 6).A' (p11 6).N' (p11 6).C' t9 :: _) W11:=⟨And.left (hF.fx 6),And.right (hF.fx 6),hF.gx⟩
 clear hF
 have z11:=hS.fr.size
 refine wp_symQ hS hG hK (fun p12=>[.v 146 (.pointer (some ⟨p,0,none⟩)),.v 147 (.pointer (some ⟨p,0,none⟩)),.v 148 (.pointer (some ⟨p,0,none⟩)),.l 149 (.agg #[.slice (p11 6).A (p11 6).N (p11 6).C]) 2 0,.c (some 150) (cO W11.heap.size t10),.v 151 (.agg #[.slice (p12 4).A (p12 4).N (p12 4).C]),.v 152 (.int .i64 0),.u 153 (.agg #[.slice (p12 4).A (p12 4).N (p12 4).C]) (aG 1),.p 2 0 [.slice (p12 4).A (p12 4).N (p12 4).C]]) (fun p12=>[(1,.pointer (some ⟨p,0,none⟩)),(2,.pointer (some ⟨(p1 0).N,0,none⟩)),(4,.pointer (some ⟨(p1 1).N,0,none⟩)),(5,.int .i64 0),(7,.int .i64 (lift:Int)),(10,.int .i64 (more:Int)),(13,.pointer (some ⟨(p8 15).N,0,none⟩)),(15,.bool go)]) (by kernel_rfl) (fun _ _=>by kernel_rfl) (fun _=>by kernel_rfl) (fun _=>by kernel_rfl) (fun p12=>?_) (fun p12 W12 T hF hK=>?_)
 ·iterate 3 refine ok_v (by kernel_rfl) ?_
  refine ok_L (by kernel_rfl) (by kernel_rfl) (by kernel_rfl) ?_
  refine ok_c (fun W cx=>as_o cx.hb (unhide HU3 _ _ _ (p11 6).C (Mine.num cx.G.1))) (by kernel_rfl) ?_
  iterate 2 refine ok_v (by kernel_rfl) ?_
  refine ok_u (fun W cx=>runNat_0 p 0 _ _ _ _ ⟨_,_,cx.B 0 _ rfl (by kernel_rfl) (by kernel_rfl),hp0⟩) (by kernel_rfl) (by kernel_rfl) ?_
  refine ok_P (by kernel_rfl) (by kernel_rfl) (by kernel_rfl) ?_
  exact ok_nil
 replace hS:=SymF.fb hS hF [0,1,2,3] [⟨p,cs9,t9_,false⟩,⟨(p1 0).N,#[.slice a1 n1 c1,.slice a2 n2 c2,.slice a3 n3 c3,.slice a4 n4 c4,.int .i64 z],133,true⟩,⟨(p1 1).N,#[.slice (p12 4).A (p12 4).N (p12 4).C],28,true⟩,⟨(p8 15).N,#[.slice (p11 6).A' (p11 6).N' (p11 6).C'],28,true⟩] (by kernel_rfl) (by kernel_rfl)
 replace hG:GsAt (gM W11.heap.size (p12 4).A (p12 4).N (p12 4).C t10 :: _) W12:=⟨hF.fx 4,hF.gx⟩
 clear hF
 have z12:=hS.fr.size
 rcases unhide hgo with ⟨hg,hv⟩|⟨hg,hr,hv⟩|⟨hg,hr,hv⟩ <;> subst hg
 ·refine wp_seq ?_
  refine wp_symQ hS hG hK (fun p13=>[.v 154 (.bool true),.v 155 (.bool true),.k (some 156),.k (some 157),.k (some 158),.v 159 (.bool true)]) (fun p13=>[(1,.pointer (some ⟨p,0,none⟩)),(2,.pointer (some ⟨(p1 0).N,0,none⟩)),(4,.pointer (some ⟨(p1 1).N,0,none⟩)),(5,.int .i64 0),(7,.int .i64 (lift:Int)),(10,.int .i64 (more:Int)),(159,.bool true)]) (by kernel_rfl) (fun _ _=>by kernel_rfl) (fun _=>by kernel_rfl) (fun _=>by kernel_rfl) (fun p13=>?_) (fun p13 W13 T hF hK=>?_)
  ·iterate 2 refine ok_v (by kernel_rfl) ?_
   iterate 3 refine ok_K (by kernel_rfl) ?_
   refine ok_v (by kernel_rfl) ?_
   exact ok_nil
  replace hS:=SymF.fb hS hF [0,1,2] [⟨p,cs9,t9_,false⟩,⟨(p1 0).N,#[.slice a1 n1 c1,.slice a2 n2 c2,.slice a3 n3 c3,.slice a4 n4 c4,.int .i64 z],133,true⟩,⟨(p1 1).N,#[.slice (p12 4).A (p12 4).N (p12 4).C],28,true⟩] (by kernel_rfl) (by kernel_rfl)
  replace hG:=hF.gx
  clear hF
  have z13:=hS.fr.size
  refine wp_cond_true (hK.ev 159 (by kernel_rfl) _ (by kernel_rfl)) ?_
  refine wp_symG hS hG hK (fun p14=>[.v 160 (.pointer (some ⟨p,0,none⟩)),.v 161 (.pointer (some ⟨p,0,none⟩)),.v 162 (.pointer (some ⟨p,0,none⟩)),.l 163 (.agg #[.slice (p12 4).A (p12 4).N (p12 4).C]) 2 0,.c (some 164) (cN W13.heap.size 1),.c (some 165) (cO W13.heap.size t11),.v 166 (.agg #[.slice (p14 5).A (p14 5).N (p14 5).C]),.v 167 (.int .i64 0),.u 168 (.agg #[.slice (p14 5).A (p14 5).N (p14 5).C]) (aG 1),.p 2 0 [.slice (p14 5).A (p14 5).N (p14 5).C]]) (fun p14=>[(2,.pointer (some ⟨(p1 0).N,0,none⟩)),(4,.pointer (some ⟨(p1 1).N,0,none⟩)),(5,.int .i64 0),(7,.int .i64 (lift:Int)),(10,.int .i64 (more:Int)),(159,.bool true)]) (by kernel_rfl) (fun _ _=>by kernel_rfl) (fun _=>by kernel_rfl) (fun _=>by kernel_rfl) (fun p14=>?_) (fun p14 W14 T hF hK=>?_)
  ·iterate 3 refine ok_v (by kernel_rfl) ?_
   refine ok_L (by kernel_rfl) (by kernel_rfl) (by kernel_rfl) ?_
   refine ok_c (fun W cx=>as_n cx.hb (of_any 1 _ (by decide))) (by kernel_rfl) ?_
   refine ok_c (fun W cx=>as_o cx.hb (unhide HA2 _ _ _ (p12 4).C _ _ (p14 4).C (Mine.num cx.G.1) (Mine.num (cx.F 4 (by kernel_rfl))))) (by kernel_rfl) ?_
   iterate 2 refine ok_v (by kernel_rfl) ?_
   refine ok_u (fun W cx=>runNat_0 p 0 _ _ _ _ ⟨_,_,cx.B 0 _ rfl (by kernel_rfl) (by kernel_rfl),hp0⟩) (by kernel_rfl) (by kernel_rfl) ?_
   refine ok_P (by kernel_rfl) (by kernel_rfl) (by kernel_rfl) ?_
   exact ok_nil
  replace hS:=SymF.fb hS hF [0,1,2] [⟨p,cs9,t9_,false⟩,⟨(p1 0).N,#[.slice a1 n1 c1,.slice a2 n2 c2,.slice a3 n3 c3,.slice a4 n4 c4,.int .i64 z],133,true⟩,⟨(p1 1).N,#[.slice (p14 5).A (p14 5).N (p14 5).C],28,true⟩] (by kernel_rfl) (by kernel_rfl)
  replace hG:GsAt (gM W13.heap.size (p14 4).A (p14 4).N (p14 4).C 1 :: gM W13.heap.size (p14 5).A (p14 5).N (p14 5).C t11 :: _) W14:=⟨hF.fx 4,hF.fx 5,hF.gx⟩
  clear hF
  have z14:=hS.fr.size
  refine then_n ?_
  refine wp_symQ hS hG hK (fun p15=>[.l 169 (.agg #[.slice (p14 5).A (p14 5).N (p14 5).C]) 2 0,.v 170 (.pointer (some ⟨(p1 0).N,4,none⟩)),.l 171 (.int .i64 z) 1 4,.v 172 (.int .i64 (lift:Int)),.v 173 (.int .i64 (z - (lift:Int))),.v 174 (.int .i64 (more:Int)),.v 175 (.int .i64 (z - (lift:Int) - (more:Int))),.v 176 (.int .i64 (z - (lift:Int) - (more:Int) - 1)),.p 2 0 [.slice (p14 5).A (p14 5).N (p14 5).C],.v 5 (.int .i64 (z - (lift:Int) - (more:Int) - 1))]) (fun p15=>[(4,.pointer (some ⟨(p1 1).N,0,none⟩)),(5,.int .i64 (z - (lift:Int) - (more:Int) - 1)),(159,.bool true)]) (by kernel_rfl) (fun _ _=>by kernel_rfl) (fun _=>by kernel_rfl) (fun _=>by kernel_rfl) (fun p15=>?_) (fun p15 W15 T hF hK=>?_)
  ·refine ok_L (by kernel_rfl) (by kernel_rfl) (by kernel_rfl) ?_
   refine ok_v (by kernel_rfl) ?_
   refine ok_L (by kernel_rfl) (by kernel_rfl) (by kernel_rfl) ?_
   refine ok_v (by kernel_rfl) ?_
   refine ok_vi (wr64 (x:=z - (lift:Int)) (by omega) (by omega)) (by kernel_rfl) ?_
   refine ok_v (by kernel_rfl) ?_
   refine ok_vi (wr64 (x:=z - (lift:Int) - (more:Int)) (by omega) (by omega)) (by kernel_rfl) ?_
   refine ok_vi (wr64 (x:=z - (lift:Int) - (more:Int) - 1) (by omega) (by omega)) (by kernel_rfl) ?_
   refine ok_P (by kernel_rfl) (by kernel_rfl) (by kernel_rfl) ?_
   refine ok_v (by kernel_rfl) ?_
   exact ok_nil
  replace hS:=SymF.fb hS hF [0,2] [⟨p,cs9,t9_,false⟩,⟨(p1 1).N,#[.slice (p14 5).A (p14 5).N (p14 5).C],28,true⟩] (by kernel_rfl) (by kernel_rfl)
  replace hG:=hF.gx
  clear hF
  have z15:=hS.fr.size
  refine wp_ret ?_
  exact sym_end hS hK (.tuple #[.agg #[.slice (p14 5).A (p14 5).N (p14 5).C],.int .i64 (z - (lift:Int) - (more:Int) - 1)]) [(1,0,1)] [.slice (p14 5).A (p14 5).N (p14 5).C] (by kernel_rfl) (by kernel_rfl) ⟨⟨_,_,_,rfl,by rw [hv]; exact Mine.mono hG.2.1 z13⟩,hS.fr⟩
 ·refine wp_seq ?_
  refine wp_symQ hS hG hK (fun p13=>[.v 154 (.bool false),.v 155 (.bool false),.l 156 (.agg #[.slice (p11 6).A' (p11 6).N' (p11 6).C']) 3 0,.c (some 157) (cV (.bool false)),.v 158 (.bool true),.v 159 (.bool true)]) (fun p13=>[(1,.pointer (some ⟨p,0,none⟩)),(2,.pointer (some ⟨(p1 0).N,0,none⟩)),(4,.pointer (some ⟨(p1 1).N,0,none⟩)),(5,.int .i64 0),(7,.int .i64 (lift:Int)),(10,.int .i64 (more:Int)),(159,.bool true)]) (by kernel_rfl) (fun _ _=>by kernel_rfl) (fun _=>by kernel_rfl) (fun _=>by kernel_rfl) (fun p13=>?_) (fun p13 W13 T hF hK=>?_)
  ·iterate 2 refine ok_v (by kernel_rfl) ?_
   refine ok_L (by kernel_rfl) (by kernel_rfl) (by kernel_rfl) ?_
   refine ok_c (fun W cx=>as_v (snought (p11 6).A' _ (p11 6).C' _ _ (Num.noz (Mine.num cx.G.2.2.1) hr))) (by kernel_rfl) ?_
   iterate 2 refine ok_v (by kernel_rfl) ?_
   exact ok_nil
  replace hS:=SymF.fb hS hF [0,1,2] [⟨p,cs9,t9_,false⟩,⟨(p1 0).N,#[.slice a1 n1 c1,.slice a2 n2 c2,.slice a3 n3 c3,.slice a4 n4 c4,.int .i64 z],133,true⟩,⟨(p1 1).N,#[.slice (p12 4).A (p12 4).N (p12 4).C],28,true⟩] (by kernel_rfl) (by kernel_rfl)
  replace hG:=hF.gx
  clear hF
  have z13:=hS.fr.size
  refine wp_cond_true (hK.ev 159 (by kernel_rfl) _ (by kernel_rfl)) ?_
  refine wp_symG hS hG hK (fun p14=>[.v 160 (.pointer (some ⟨p,0,none⟩)),.v 161 (.pointer (some ⟨p,0,none⟩)),.v 162 (.pointer (some ⟨p,0,none⟩)),.l 163 (.agg #[.slice (p12 4).A (p12 4).N (p12 4).C]) 2 0,.c (some 164) (cN W13.heap.size 1),.c (some 165) (cO W13.heap.size t11),.v 166 (.agg #[.slice (p14 5).A (p14 5).N (p14 5).C]),.v 167 (.int .i64 0),.u 168 (.agg #[.slice (p14 5).A (p14 5).N (p14 5).C]) (aG 1),.p 2 0 [.slice (p14 5).A (p14 5).N (p14 5).C]]) (fun p14=>[(2,.pointer (some ⟨(p1 0).N,0,none⟩)),(4,.pointer (some ⟨(p1 1).N,0,none⟩)),(5,.int .i64 0),(7,.int .i64 (lift:Int)),(10,.int .i64 (more:Int)),(159,.bool true)]) (by kernel_rfl) (fun _ _=>by kernel_rfl) (fun _=>by kernel_rfl) (fun _=>by kernel_rfl) (fun p14=>?_) (fun p14 W14 T hF hK=>?_)
  ·iterate 3 refine ok_v (by kernel_rfl) ?_
   refine ok_L (by kernel_rfl) (by kernel_rfl) (by kernel_rfl) ?_
   refine ok_c (fun W cx=>as_n cx.hb (of_any 1 _ (by decide))) (by kernel_rfl) ?_
   refine ok_c (fun W cx=>as_o cx.hb (unhide HA2 _ _ _ (p12 4).C _ _ (p14 4).C (Mine.num cx.G.1) (Mine.num (cx.F 4 (by kernel_rfl))))) (by kernel_rfl) ?_
   iterate 2 refine ok_v (by kernel_rfl) ?_
   refine ok_u (fun W cx=>runNat_0 p 0 _ _ _ _ ⟨_,_,cx.B 0 _ rfl (by kernel_rfl) (by kernel_rfl),hp0⟩) (by kernel_rfl) (by kernel_rfl) ?_
   refine ok_P (by kernel_rfl) (by kernel_rfl) (by kernel_rfl) ?_
   exact ok_nil
  replace hS:=SymF.fb hS hF [0,1,2] [⟨p,cs9,t9_,false⟩,⟨(p1 0).N,#[.slice a1 n1 c1,.slice a2 n2 c2,.slice a3 n3 c3,.slice a4 n4 c4,.int .i64 z],133,true⟩,⟨(p1 1).N,#[.slice (p14 5).A (p14 5).N (p14 5).C],28,true⟩] (by kernel_rfl) (by kernel_rfl)
  replace hG:GsAt (gM W13.heap.size (p14 4).A (p14 4).N (p14 4).C 1 :: gM W13.heap.size (p14 5).A (p14 5).N (p14 5).C t11 :: _) W14:=⟨hF.fx 4,hF.fx 5,hF.gx⟩
  clear hF
  have z14:=hS.fr.size
  refine then_n ?_
  refine wp_symQ hS hG hK (fun p15=>[.l 169 (.agg #[.slice (p14 5).A (p14 5).N (p14 5).C]) 2 0,.v 170 (.pointer (some ⟨(p1 0).N,4,none⟩)),.l 171 (.int .i64 z) 1 4,.v 172 (.int .i64 (lift:Int)),.v 173 (.int .i64 (z - (lift:Int))),.v 174 (.int .i64 (more:Int)),.v 175 (.int .i64 (z - (lift:Int) - (more:Int))),.v 176 (.int .i64 (z - (lift:Int) - (more:Int) - 1)),.p 2 0 [.slice (p14 5).A (p14 5).N (p14 5).C],.v 5 (.int .i64 (z - (lift:Int) - (more:Int) - 1))]) (fun p15=>[(4,.pointer (some ⟨(p1 1).N,0,none⟩)),(5,.int .i64 (z - (lift:Int) - (more:Int) - 1)),(159,.bool true)]) (by kernel_rfl) (fun _ _=>by kernel_rfl) (fun _=>by kernel_rfl) (fun _=>by kernel_rfl) (fun p15=>?_) (fun p15 W15 T hF hK=>?_)
  ·refine ok_L (by kernel_rfl) (by kernel_rfl) (by kernel_rfl) ?_
   refine ok_v (by kernel_rfl) ?_
   refine ok_L (by kernel_rfl) (by kernel_rfl) (by kernel_rfl) ?_
   refine ok_v (by kernel_rfl) ?_
   refine ok_vi (wr64 (x:=z - (lift:Int)) (by omega) (by omega)) (by kernel_rfl) ?_
   refine ok_v (by kernel_rfl) ?_
   refine ok_vi (wr64 (x:=z - (lift:Int) - (more:Int)) (by omega) (by omega)) (by kernel_rfl) ?_
   refine ok_vi (wr64 (x:=z - (lift:Int) - (more:Int) - 1) (by omega) (by omega)) (by kernel_rfl) ?_
   refine ok_P (by kernel_rfl) (by kernel_rfl) (by kernel_rfl) ?_
   refine ok_v (by kernel_rfl) ?_
   exact ok_nil
  replace hS:=SymF.fb hS hF [0,2] [⟨p,cs9,t9_,false⟩,⟨(p1 1).N,#[.slice (p14 5).A (p14 5).N (p14 5).C],28,true⟩] (by kernel_rfl) (by kernel_rfl)
  replace hG:=hF.gx
  clear hF
  have z15:=hS.fr.size
  refine wp_ret ?_
  exact sym_end hS hK (.tuple #[.agg #[.slice (p14 5).A (p14 5).N (p14 5).C],.int .i64 (z - (lift:Int) - (more:Int) - 1)]) [(1,0,1)] [.slice (p14 5).A (p14 5).N (p14 5).C] (by kernel_rfl) (by kernel_rfl) ⟨⟨_,_,_,rfl,by rw [hv]; exact Mine.mono hG.2.1 z13⟩,hS.fr⟩
 ·refine wp_seq ?_
  refine wp_symQ hS hG hK (fun p13=>[.v 154 (.bool false),.v 155 (.bool false),.l 156 (.agg #[.slice (p11 6).A' (p11 6).N' (p11 6).C']) 3 0,.c (some 157) (cV (.bool true)),.v 158 (.bool false),.v 159 (.bool false)]) (fun p13=>[(1,.pointer (some ⟨p,0,none⟩)),(2,.pointer (some ⟨(p1 0).N,0,none⟩)),(4,.pointer (some ⟨(p1 1).N,0,none⟩)),(5,.int .i64 0),(7,.int .i64 (lift:Int)),(10,.int .i64 (more:Int)),(159,.bool false)]) (by kernel_rfl) (fun _ _=>by kernel_rfl) (fun _=>by kernel_rfl) (fun _=>by kernel_rfl) (fun p13=>?_) (fun p13 W13 T hF hK=>?_)
  ·iterate 2 refine ok_v (by kernel_rfl) ?_
   refine ok_L (by kernel_rfl) (by kernel_rfl) (by kernel_rfl) ?_
   refine ok_c (fun W cx=>as_v (snought (p11 6).A' _ (p11 6).C' _ _ (Num.isz (Mine.num cx.G.2.2.1) hr))) (by kernel_rfl) ?_
   iterate 2 refine ok_v (by kernel_rfl) ?_
   exact ok_nil
  replace hS:=SymF.fb hS hF [0,1,2] [⟨p,cs9,t9_,false⟩,⟨(p1 0).N,#[.slice a1 n1 c1,.slice a2 n2 c2,.slice a3 n3 c3,.slice a4 n4 c4,.int .i64 z],133,true⟩,⟨(p1 1).N,#[.slice (p12 4).A (p12 4).N (p12 4).C],28,true⟩] (by kernel_rfl) (by kernel_rfl)
  replace hG:=hF.gx
  clear hF
  have z13:=hS.fr.size
  refine wp_cond_false (hK.ev 159 (by kernel_rfl) _ (by kernel_rfl)) ?_
  refine wp_skip ?_
  refine then_n ?_
  refine wp_symQ hS hG hK (fun p14=>[.l 169 (.agg #[.slice (p12 4).A (p12 4).N (p12 4).C]) 2 0,.v 170 (.pointer (some ⟨(p1 0).N,4,none⟩)),.l 171 (.int .i64 z) 1 4,.v 172 (.int .i64 (lift:Int)),.v 173 (.int .i64 (z - (lift:Int))),.v 174 (.int .i64 (more:Int)),.v 175 (.int .i64 (z - (lift:Int) - (more:Int))),.v 176 (.int .i64 (z - (lift:Int) - (more:Int) - 1)),.p 2 0 [.slice (p12 4).A (p12 4).N (p12 4).C],.v 5 (.int .i64 (z - (lift:Int) - (more:Int) - 1))]) (fun p14=>[(1,.pointer (some ⟨p,0,none⟩)),(4,.pointer (some ⟨(p1 1).N,0,none⟩)),(5,.int .i64 (z - (lift:Int) - (more:Int) - 1)),(159,.bool false)]) (by kernel_rfl) (fun _ _=>by kernel_rfl) (fun _=>by kernel_rfl) (fun _=>by kernel_rfl) (fun p14=>?_) (fun p14 W14 T hF hK=>?_)
  ·refine ok_L (by kernel_rfl) (by kernel_rfl) (by kernel_rfl) ?_
   refine ok_v (by kernel_rfl) ?_
   refine ok_L (by kernel_rfl) (by kernel_rfl) (by kernel_rfl) ?_
   refine ok_v (by kernel_rfl) ?_
   refine ok_vi (wr64 (x:=z - (lift:Int)) (by omega) (by omega)) (by kernel_rfl) ?_
   refine ok_v (by kernel_rfl) ?_
   refine ok_vi (wr64 (x:=z - (lift:Int) - (more:Int)) (by omega) (by omega)) (by kernel_rfl) ?_
   refine ok_vi (wr64 (x:=z - (lift:Int) - (more:Int) - 1) (by omega) (by omega)) (by kernel_rfl) ?_
   refine ok_P (by kernel_rfl) (by kernel_rfl) (by kernel_rfl) ?_
   refine ok_v (by kernel_rfl) ?_
   exact ok_nil
  replace hS:=SymF.fb hS hF [0,2] [⟨p,cs9,t9_,false⟩,⟨(p1 1).N,#[.slice (p12 4).A (p12 4).N (p12 4).C],28,true⟩] (by kernel_rfl) (by kernel_rfl)
  replace hG:=hF.gx
  clear hF
  have z14:=hS.fr.size
  refine wp_ret ?_
  exact sym_end hS hK (.tuple #[.agg #[.slice (p12 4).A (p12 4).N (p12 4).C],.int .i64 (z - (lift:Int) - (more:Int) - 1)]) [(1,0,1)] [.slice (p12 4).A (p12 4).N (p12 4).C] (by kernel_rfl) (by kernel_rfl) ⟨⟨_,_,_,rfl,by rw [hv]; exact Mine.mono hG.1 z11⟩,hS.fr⟩
def HPow0:Prop:=∀ W:World,Calls Tryz.prog 66 #[.int .u32 5,.int .i64 0] W fun en W'=>(∃ a n c,en = .returned (.tuple #[.agg #[.slice a n c],.int .i64 0])∧Mine W' W.heap.size a n c 1)∧Below W.heap.size W W'
theorem Num.dec {w:World} {a:Option Addr} {n m:Nat} (h:Num w a n m):decide (n = 0) = decide (m = 0):=decide_eq_decide.2 h.zero
theorem sshare_is (w:World) (p:Nat) (a b d:Option Addr) (n c k l m e x y z v q r:Nat) (hk:Rn w p 0) (h1:Num w a n x) (h2:Num w b k y) (h3:Num w d m z) (HM:Hid (HTwo 100 x y v)) (HV:Hid (HDiv v z q r)) :
  Calls Tryz.prog 109 #[.pointer (some ⟨p,0,none⟩),.agg #[.slice a n c],.agg #[.slice b k l],.agg #[.slice d m e]] w fun en w'=>(∃ A N C,en = .returned (.tuple #[.agg #[.slice A N C],.bool (!decide (r = 0))])∧Mine w' w.heap.size A N C q)∧Below w.heap.size w w':=by
 obtain ⟨cs9,t9_,hp,hp0⟩:=hk
 refine calls_sym Tryz.func109 rfl (by kernel_rfl) fun T hK=>?_
 replace hK:Kn T _ [(0,.pointer (some ⟨p,0,none⟩)),(1,.agg #[.slice a n c]),(2,.agg #[.slice b k l]),(3,.agg #[.slice d m e])]:=hK
 have hS:=Fb.other hp
 have hG:GsAt [gN a n x,gN b k y,gN d m z] w:=⟨h1,h2,h3,trivial⟩
 refine wp_symQ hS hG hK (fun p1=>[.n 5 #[.slice a n c] 28,.n 6 #[.slice b k l] 28,.n 7 #[.slice d m e] 28,.n 8 #[.slice none 0 0] 28,.v 9 (.bool false)]) (fun p1=>[(0,.pointer (some ⟨p,0,none⟩)),(5,.pointer (some ⟨(p1 0).N,0,none⟩)),(6,.pointer (some ⟨(p1 1).N,0,none⟩)),(7,.pointer (some ⟨(p1 2).N,0,none⟩)),(8,.pointer (some ⟨(p1 3).N,0,none⟩)),(9,.bool false)]) (by kernel_rfl) (fun _ _=>by kernel_rfl) (fun _=>by kernel_rfl) (fun _=>by kernel_rfl) (fun p1=>?_) (fun p1 W1 T hF hK=>?_)
 ·iterate 4 refine ok_n (fun _=>by kernel_rfl) ?_
  refine ok_v (by kernel_rfl) ?_
  exact ok_nil
 replace hS:=SymF.fb hS hF [0,1000,1001,1002,1003] [⟨p,cs9,t9_,false⟩,⟨(p1 0).N,#[.slice a n c],28,true⟩,⟨(p1 1).N,#[.slice b k l],28,true⟩,⟨(p1 2).N,#[.slice d m e],28,true⟩,⟨(p1 3).N,#[.slice none 0 0],28,true⟩] (by kernel_rfl) (by kernel_rfl)
 replace hG:=hF.gx
 clear hF
 have z1:=hS.fr.size
 refine wp_symQ hS hG hK (fun p2=>[.l 15 (.agg #[.slice a n c]) 1 0,.l 16 (.agg #[.slice b k l]) 2 0,.c (some 17) (cO W1.heap.size v),.v 14 (.tuple #[.agg #[.slice (p2 2).A (p2 2).N (p2 2).C],.int .i64 0]),.v 18 (.agg #[.slice (p2 2).A (p2 2).N (p2 2).C]),.v 19 (.int .i64 0),.n 10 #[.slice none 0 0] 28,.p 1006 0 [.slice (p2 2).A (p2 2).N (p2 2).C],.v 11 (.int .i64 0)]) (fun p2=>[(0,.pointer (some ⟨p,0,none⟩)),(5,.pointer (some ⟨(p1 0).N,0,none⟩)),(6,.pointer (some ⟨(p1 1).N,0,none⟩)),(7,.pointer (some ⟨(p1 2).N,0,none⟩)),(8,.pointer (some ⟨(p1 3).N,0,none⟩)),(9,.bool false),(10,.pointer (some ⟨(p2 6).N,0,none⟩)),(11,.int .i64 0)]) (by kernel_rfl) (fun _ _=>by kernel_rfl) (fun _=>by kernel_rfl) (fun _=>by kernel_rfl) (fun p2=>?_) (fun p2 W2 T hF hK=>?_)
 ·iterate 2 refine ok_L (by kernel_rfl) (by kernel_rfl) (by kernel_rfl) ?_
  refine ok_c (fun W cx=>as_o cx.hb (unhide HM _ _ _ c _ _ l (cx.G.1) (cx.G.2.1))) (by kernel_rfl) ?_
  iterate 3 refine ok_v (by kernel_rfl) ?_
  refine ok_n (fun _=>by kernel_rfl) ?_
  refine ok_P (by kernel_rfl) (by kernel_rfl) (by kernel_rfl) ?_
  refine ok_v (by kernel_rfl) ?_
  exact ok_nil
 replace hS:=SymF.fb hS hF [0,1,2,3,4,1006] [⟨p,cs9,t9_,false⟩,⟨(p1 0).N,#[.slice a n c],28,true⟩,⟨(p1 1).N,#[.slice b k l],28,true⟩,⟨(p1 2).N,#[.slice d m e],28,true⟩,⟨(p1 3).N,#[.slice none 0 0],28,true⟩,⟨(p2 6).N,#[.slice (p2 2).A (p2 2).N (p2 2).C],28,true⟩] (by kernel_rfl) (by kernel_rfl)
 replace hG:GsAt (gM W1.heap.size (p2 2).A (p2 2).N (p2 2).C v :: _) W2:=⟨hF.fx 2,hF.gx⟩
 clear hF
 have z2:=hS.fr.size
 refine wp_seq ?_
 refine wp_symQ hS hG hK (fun p3=>[.v 20 (.int .i64 0),.v 21 (.bool false)]) (fun p3=>[(0,.pointer (some ⟨p,0,none⟩)),(5,.pointer (some ⟨(p1 0).N,0,none⟩)),(6,.pointer (some ⟨(p1 1).N,0,none⟩)),(7,.pointer (some ⟨(p1 2).N,0,none⟩)),(8,.pointer (some ⟨(p1 3).N,0,none⟩)),(9,.bool false),(10,.pointer (some ⟨(p2 6).N,0,none⟩)),(11,.int .i64 0),(21,.bool false)]) (by kernel_rfl) (fun _ _=>by kernel_rfl) (fun _=>by kernel_rfl) (fun _=>by kernel_rfl) (fun p3=>?_) (fun p3 W3 T hF hK=>?_)
 ·iterate 2 refine ok_v (by kernel_rfl) ?_
  exact ok_nil
 replace hS:=SymF.fb hS hF [0,1,2,3,4,5] [⟨p,cs9,t9_,false⟩,⟨(p1 0).N,#[.slice a n c],28,true⟩,⟨(p1 1).N,#[.slice b k l],28,true⟩,⟨(p1 2).N,#[.slice d m e],28,true⟩,⟨(p1 3).N,#[.slice none 0 0],28,true⟩,⟨(p2 6).N,#[.slice (p2 2).A (p2 2).N (p2 2).C],28,true⟩] (by kernel_rfl) (by kernel_rfl)
 replace hG:=hF.gx
 clear hF
 have z3:=hS.fr.size
 refine wp_cond_false (hK.ev 21 (by kernel_rfl) _ (by kernel_rfl)) ?_
 refine wp_skip ?_
 refine then_n ?_
 refine wp_symQ hS hG hK (fun p4=>[.v 29 (.pointer (some ⟨p,0,none⟩)),.v 30 (.pointer (some ⟨p,0,none⟩)),.v 31 (.pointer (some ⟨p,0,none⟩)),.v 32 (.int .i64 0),.c (some 33) (cV (.tuple #[]))]) (fun p4=>[(0,.pointer (some ⟨p,0,none⟩)),(5,.pointer (some ⟨(p1 0).N,0,none⟩)),(6,.pointer (some ⟨(p1 1).N,0,none⟩)),(7,.pointer (some ⟨(p1 2).N,0,none⟩)),(8,.pointer (some ⟨(p1 3).N,0,none⟩)),(9,.bool false),(10,.pointer (some ⟨(p2 6).N,0,none⟩)),(21,.bool false)]) (by kernel_rfl) (fun _ _=>by kernel_rfl) (fun _=>by kernel_rfl) (fun _=>by kernel_rfl) (fun p4=>?_) (fun p4 W4 T hF hK=>?_)
 ·iterate 4 refine ok_v (by kernel_rfl) ?_
  refine ok_c (fun W cx=>as_v (keep_0 p 0 _ ⟨_,_,cx.B 0 _ rfl (by kernel_rfl) (by kernel_rfl),hp0⟩)) (by kernel_rfl) ?_
  exact ok_nil
 replace hS:=SymF.fb hS hF [0,1,2,3,4,5] [⟨p,cs9,t9_,false⟩,⟨(p1 0).N,#[.slice a n c],28,true⟩,⟨(p1 1).N,#[.slice b k l],28,true⟩,⟨(p1 2).N,#[.slice d m e],28,true⟩,⟨(p1 3).N,#[.slice none 0 0],28,true⟩,⟨(p2 6).N,#[.slice (p2 2).A (p2 2).N (p2 2).C],28,true⟩] (by kernel_rfl) (by kernel_rfl)
 replace hG:=hF.gx
 clear hF
 have z4:=hS.fr.size
 refine wp_symQ hS hG hK (fun p5=>[.v 35 (.pointer (some ⟨p,0,none⟩)),.v 36 (.pointer (some ⟨p,0,none⟩)),.v 37 (.pointer (some ⟨p,0,none⟩)),.l 38 (.agg #[.slice (p2 2).A (p2 2).N (p2 2).C]) 5 0,.l 39 (.agg #[.slice d m e]) 3 0,.c (some 40) (cD W4.heap.size q r),.v 41 (.agg #[.slice (p5 5).A (p5 5).N (p5 5).C]),.v 42 (.agg #[.slice (p5 5).A' (p5 5).N' (p5 5).C']),.v 43 (.int .i64 0),.u 44 (.tuple #[.agg #[.slice (p5 5).A (p5 5).N (p5 5).C],.agg #[.slice (p5 5).A' (p5 5).N' (p5 5).C']]) (aH 1 2),.v 34 (.tuple #[.agg #[.slice (p5 5).A (p5 5).N (p5 5).C],.agg #[.slice (p5 5).A' (p5 5).N' (p5 5).C']]),.v 45 (.agg #[.slice (p5 5).A (p5 5).N (p5 5).C]),.v 46 (.agg #[.slice (p5 5).A' (p5 5).N' (p5 5).C']),.n 12 #[.slice none 0 0] 28,.n 13 #[.slice none 0 0] 28,.p 1013 0 [.slice (p5 5).A (p5 5).N (p5 5).C],.p 1014 0 [.slice (p5 5).A' (p5 5).N' (p5 5).C']]) (fun p5=>[(0,.pointer (some ⟨p,0,none⟩)),(5,.pointer (some ⟨(p1 0).N,0,none⟩)),(6,.pointer (some ⟨(p1 1).N,0,none⟩)),(7,.pointer (some ⟨(p1 2).N,0,none⟩)),(8,.pointer (some ⟨(p1 3).N,0,none⟩)),(9,.bool false),(12,.pointer (some ⟨(p5 13).N,0,none⟩)),(13,.pointer (some ⟨(p5 14).N,0,none⟩)),(21,.bool false)]) (by kernel_rfl) (fun _ _=>by kernel_rfl) (fun _=>by kernel_rfl) (fun _=>by kernel_rfl) (fun p5=>?_) (fun p5 W5 T hF hK=>?_)
 ·iterate 3 refine ok_v (by kernel_rfl) ?_
  iterate 2 refine ok_L (by kernel_rfl) (by kernel_rfl) (by kernel_rfl) ?_
  refine ok_c (fun W cx=>as_d cx.hb (unhide HV _ _ _ (p2 2).C _ _ e (Mine.num cx.G.1) (cx.G.2.2.2.1))) (by kernel_rfl) ?_
  iterate 3 refine ok_v (by kernel_rfl) ?_
  refine ok_u (fun W cx=>runNats_0 p 0 _ _ _ _ _ _ _ ⟨_,_,cx.B 0 _ rfl (by kernel_rfl) (by kernel_rfl),hp0⟩) (by kernel_rfl) (by kernel_rfl) ?_
  iterate 3 refine ok_v (by kernel_rfl) ?_
  iterate 2 refine ok_n (fun _=>by kernel_rfl) ?_
  iterate 2 refine ok_P (by kernel_rfl) (by kernel_rfl) (by kernel_rfl) ?_
  exact ok_nil
 replace hS:=SymF.fb hS hF [0,1,2,3,4,1013,1014] [⟨p,cs9,t9_,false⟩,⟨(p1 0).N,#[.slice a n c],28,true⟩,⟨(p1 1).N,#[.slice b k l],28,true⟩,⟨(p1 2).N,#[.slice d m e],28,true⟩,⟨(p1 3).N,#[.slice none 0 0],28,true⟩,⟨(p5 13).N,#[.slice (p5 5).A (p5 5).N (p5 5).C],28,true⟩,⟨(p5 14).N,#[.slice (p5 5).A' (p5 5).N' (p5 5).C'],28,true⟩] (by kernel_rfl) (by kernel_rfl)
 replace hG:GsAt (gM W4.heap.size (p5 5).A (p5 5).N (p5 5).C q :: gM W4.heap.size (p5 5).A' (p5 5).N' (p5 5).C' r :: _) W5:=⟨And.left (hF.fx 5),And.right (hF.fx 5),hF.gx⟩
 clear hF
 have z5:=hS.fr.size
 refine wp_symQ hS hG hK (fun p6=>[.l 47 (.agg #[.slice (p5 5).A (p5 5).N (p5 5).C]) 5 0,.l 48 (.agg #[.slice (p5 5).A' (p5 5).N' (p5 5).C']) 6 0,.c (some 49) (cV (.bool (decide (r = 0)))),.v 50 (.bool (!(decide (r = 0)))),.p 4 0 [.slice (p5 5).A (p5 5).N (p5 5).C],.v 9 (.bool (!(decide (r = 0))))]) (fun p6=>[(0,.pointer (some ⟨p,0,none⟩)),(5,.pointer (some ⟨(p1 0).N,0,none⟩)),(6,.pointer (some ⟨(p1 1).N,0,none⟩)),(7,.pointer (some ⟨(p1 2).N,0,none⟩)),(8,.pointer (some ⟨(p1 3).N,0,none⟩)),(9,.bool (!(decide (r = 0)))),(21,.bool false)]) (by kernel_rfl) (fun _ _=>by kernel_rfl) (fun _=>by kernel_rfl) (fun _=>by kernel_rfl) (fun p6=>?_) (fun p6 W6 T hF hK=>?_)
 ·iterate 2 refine ok_L (by kernel_rfl) (by kernel_rfl) (by kernel_rfl) ?_
  refine ok_c (fun W cx=>as_v (snought (p5 5).A' _ (p5 5).C' _ _ (Num.dec (Mine.num cx.G.2.1)))) (by kernel_rfl) ?_
  refine ok_v (by kernel_rfl) ?_
  refine ok_P (by kernel_rfl) (by kernel_rfl) (by kernel_rfl) ?_
  refine ok_v (by kernel_rfl) ?_
  exact ok_nil
 replace hS:=SymF.fb hS hF [0,1,2,3,4] [⟨p,cs9,t9_,false⟩,⟨(p1 0).N,#[.slice a n c],28,true⟩,⟨(p1 1).N,#[.slice b k l],28,true⟩,⟨(p1 2).N,#[.slice d m e],28,true⟩,⟨(p1 3).N,#[.slice (p5 5).A (p5 5).N (p5 5).C],28,true⟩] (by kernel_rfl) (by kernel_rfl)
 replace hG:=hF.gx
 clear hF
 have z6:=hS.fr.size
 refine wp_ret ?_
 exact sym_end hS hK (.tuple #[.agg #[.slice (p5 5).A (p5 5).N (p5 5).C],.bool (!decide (r = 0))]) [(4,0,1)] [.slice (p5 5).A (p5 5).N (p5 5).C] (by kernel_rfl) (by kernel_rfl) ⟨⟨_,_,_,rfl,Mine.mono hG.1 z4⟩,hS.fr⟩
theorem ssize_is (w:World) (p:Nat) (s:Bool) (a b:Option Addr) (n c k l x y i j:Nat) (sz:Int) (hk:Rn w p 0) (h1:Num w a n x) (h2:Num w b k y) (hi:i≤524288) (hj:j≤524288) (hz:(i:Int) - (j:Int) = sz) (HB1:Hid (HBits x i)) (HB2:Hid (HBits y j)) :
  Calls Tryz.prog 79 #[.pointer (some ⟨p,0,none⟩),.agg #[.bool s,.slice a n c,.slice b k l],.int .i64 0] w fun en w'=>en = .returned (.int .i64 sz)∧Below w.heap.size w w':=by
 obtain ⟨cs9,t9_,hp,hp0⟩:=hk
 refine calls_sym Tryz.func79 rfl (by kernel_rfl) fun T hK=>?_
 replace hK:Kn T _ [(0,.pointer (some ⟨p,0,none⟩)),(1,.agg #[.bool s,.slice a n c,.slice b k l]),(2,.int .i64 0)]:=hK
 have hS:=Fb.other hp
 have hG:GsAt [gN a n x,gN b k y] w:=⟨h1,h2,trivial⟩
 refine wp_symQ hS hG hK (fun p1=>[.n 4 #[.bool s,.slice a n c,.slice b k l] 35,.v 6 (.int .i64 0)]) (fun p1=>[(0,.pointer (some ⟨p,0,none⟩)),(2,.int .i64 0),(4,.pointer (some ⟨(p1 0).N,0,none⟩)),(6,.int .i64 0)]) (by kernel_rfl) (fun _ _=>by kernel_rfl) (fun _=>by kernel_rfl) (fun _=>by kernel_rfl) (fun p1=>?_) (fun p1 W1 T hF hK=>?_)
 ·refine ok_n (fun _=>by kernel_rfl) ?_
  refine ok_v (by kernel_rfl) ?_
  exact ok_nil
 replace hS:=SymF.fb hS hF [0,1000] [⟨p,cs9,t9_,false⟩,⟨(p1 0).N,#[.bool s,.slice a n c,.slice b k l],35,true⟩] (by kernel_rfl) (by kernel_rfl)
 replace hG:=hF.gx
 clear hF
 have z1:=hS.fr.size
 refine wp_symQ hS hG hK (fun p2=>[.v 7 (.int .i64 0),.v 8 (.int .i64 0),.v 9 (.int .i64 0),.v 2 (.int .i64 0)]) (fun p2=>[(0,.pointer (some ⟨p,0,none⟩)),(2,.int .i64 0),(4,.pointer (some ⟨(p1 0).N,0,none⟩)),(6,.int .i64 0)]) (by kernel_rfl) (fun _ _=>by kernel_rfl) (fun _=>by kernel_rfl) (fun _=>by kernel_rfl) (fun p2=>?_) (fun p2 W2 T hF hK=>?_)
 ·iterate 4 refine ok_v (by kernel_rfl) ?_
  exact ok_nil
 replace hS:=SymF.fb hS hF [0,1] [⟨p,cs9,t9_,false⟩,⟨(p1 0).N,#[.bool s,.slice a n c,.slice b k l],35,true⟩] (by kernel_rfl) (by kernel_rfl)
 replace hG:=hF.gx
 clear hF
 have z2:=hS.fr.size
 refine wp_symQ hS hG hK (fun p3=>[.v 10 (.pointer (some ⟨p,0,none⟩)),.v 11 (.pointer (some ⟨p,0,none⟩)),.v 12 (.pointer (some ⟨p,0,none⟩)),.v 13 (.pointer (some ⟨(p1 0).N,1,none⟩)),.l 14 (.agg #[.slice a n c]) 1 1,.c (some 15) (cV (.tuple #[.int .i64 (i:Int),.int .i64 0])),.v 16 (.int .i64 (i:Int)),.v 17 (.int .i64 0),.u 18 (.int .i64 (i:Int)) (aG 1),.v 19 (.pointer (some ⟨p,0,none⟩)),.v 20 (.pointer (some ⟨p,0,none⟩)),.v 21 (.pointer (some ⟨p,0,none⟩)),.v 22 (.pointer (some ⟨(p1 0).N,2,none⟩)),.l 23 (.agg #[.slice b k l]) 1 2,.c (some 24) (cV (.tuple #[.int .i64 (j:Int),.int .i64 0])),.v 25 (.int .i64 (j:Int)),.v 26 (.int .i64 0),.u 27 (.int .i64 (j:Int)) (aG 1),.v 28 (.int .i64 sz),.v 29 (.int .i64 0),.v 30 (.int .i64 0),.v 31 (.int .i64 0),.v 32 (.int .i64 sz),.v 6 (.int .i64 sz)]) (fun p3=>[(6,.int .i64 sz)]) (by kernel_rfl) (fun _ _=>by kernel_rfl) (fun _=>by kernel_rfl) (fun _=>by kernel_rfl) (fun p3=>?_) (fun p3 W3 T hF hK=>?_)
 ·iterate 4 refine ok_v (by kernel_rfl) ?_
  refine ok_L (by kernel_rfl) (by kernel_rfl) (by kernel_rfl) ?_
  refine ok_c (fun W cx=>as_v (unhide HB1 _ _ _ c (cx.G.1))) (by kernel_rfl) ?_
  iterate 2 refine ok_v (by kernel_rfl) ?_
  refine ok_u (fun W cx=>runInt_0 p 0 _ _ ⟨_,_,cx.B 0 _ rfl (by kernel_rfl) (by kernel_rfl),hp0⟩) (by kernel_rfl) (by kernel_rfl) ?_
  iterate 4 refine ok_v (by kernel_rfl) ?_
  refine ok_L (by kernel_rfl) (by kernel_rfl) (by kernel_rfl) ?_
  refine ok_c (fun W cx=>as_v (unhide HB2 _ _ _ l (cx.G.2.1))) (by kernel_rfl) ?_
  iterate 2 refine ok_v (by kernel_rfl) ?_
  refine ok_u (fun W cx=>runInt_0 p 0 _ _ ⟨_,_,cx.B 0 _ rfl (by kernel_rfl) (by kernel_rfl),hp0⟩) (by kernel_rfl) (by kernel_rfl) ?_
  refine ok_vi ((wr64 (x:=(i:Int) - (j:Int)) (by omega) (by omega)).trans hz) (by kernel_rfl) ?_
  iterate 3 refine ok_v (by kernel_rfl) ?_
  refine ok_vi ((wr64 (x:=sz+0) (by omega) (by omega)).trans (Int.add_zero sz)) (by kernel_rfl) ?_
  refine ok_v (by kernel_rfl) ?_
  exact ok_nil
 replace hS:=SymF.fb hS hF [0] [⟨p,cs9,t9_,false⟩] (by kernel_rfl) (by kernel_rfl)
 replace hG:=hF.gx
 clear hF
 have z3:=hS.fr.size
 refine wp_ret ?_
 exact sym_end hS hK (.int .i64 sz) [] [] (by kernel_rfl) (by kernel_rfl) ⟨rfl,hS.fr⟩
theorem sscal_is (w:World) (p:Nat) (s:Bool) (a b:Option Addr) (n c k l x y:Nat) (hk:Rn w p 0) (h1:Num w a n x) (h2:Num w b k y) (HP:Hid (HPow0)) :
  Calls Tryz.prog 80 #[.pointer (some ⟨p,0,none⟩),.agg #[.bool s,.slice a n c,.slice b k l],.int .i64 0] w fun en w'=>(∃ A N C A' N' C',en = .returned (.agg #[.slice a n c,.slice A N C,.slice b k l,.slice A' N' C',.int .i64 0])∧Mine w' w.heap.size A N C 1∧Mine w' w.heap.size A' N' C' 1)∧Below w.heap.size w w':=by
 obtain ⟨cs9,t9_,hp,hp0⟩:=hk
 refine calls_sym Tryz.func80 rfl (by kernel_rfl) fun T hK=>?_
 replace hK:Kn T _ [(0,.pointer (some ⟨p,0,none⟩)),(1,.agg #[.bool s,.slice a n c,.slice b k l]),(2,.int .i64 0)]:=hK
 have hS:=Fb.other hp
 have hG:GsAt [gN a n x,gN b k y] w:=⟨h1,h2,trivial⟩
 refine wp_symQ hS hG hK (fun p1=>[.n 4 #[.bool s,.slice a n c,.slice b k l] 35,.n 6 #[.slice none 0 0,.slice none 0 0,.slice none 0 0,.slice none 0 0,.int .i64 0] 133]) (fun p1=>[(0,.pointer (some ⟨p,0,none⟩)),(2,.int .i64 0),(4,.pointer (some ⟨(p1 0).N,0,none⟩)),(6,.pointer (some ⟨(p1 1).N,0,none⟩))]) (by kernel_rfl) (fun _ _=>by kernel_rfl) (fun _=>by kernel_rfl) (fun _=>by kernel_rfl) (fun p1=>?_) (fun p1 W1 T hF hK=>?_)
 ·iterate 2 refine ok_n (fun _=>by kernel_rfl) ?_
  exact ok_nil
 replace hS:=SymF.fb hS hF [0,1000,1001] [⟨p,cs9,t9_,false⟩,⟨(p1 0).N,#[.bool s,.slice a n c,.slice b k l],35,true⟩,⟨(p1 1).N,#[.slice none 0 0,.slice none 0 0,.slice none 0 0,.slice none 0 0,.int .i64 0],133,true⟩] (by kernel_rfl) (by kernel_rfl)
 replace hG:=hF.gx
 clear hF
 have z1:=hS.fr.size
 refine wp_symQ hS hG hK (fun p2=>[.c (some 10) (cN W1.heap.size 1),.n 7 #[.slice none 0 0] 28,.p 1001 0 [.slice (p2 0).A (p2 0).N (p2 0).C]]) (fun p2=>[(0,.pointer (some ⟨p,0,none⟩)),(2,.int .i64 0),(4,.pointer (some ⟨(p1 0).N,0,none⟩)),(6,.pointer (some ⟨(p1 1).N,0,none⟩)),(7,.pointer (some ⟨(p2 1).N,0,none⟩))]) (by kernel_rfl) (fun _ _=>by kernel_rfl) (fun _=>by kernel_rfl) (fun _=>by kernel_rfl) (fun p2=>?_) (fun p2 W2 T hF hK=>?_)
 ·refine ok_c (fun W cx=>as_n cx.hb (of_any 1 _ (by decide))) (by kernel_rfl) ?_
  refine ok_n (fun _=>by kernel_rfl) ?_
  refine ok_P (by kernel_rfl) (by kernel_rfl) (by kernel_rfl) ?_
  exact ok_nil
 replace hS:=SymF.fb hS hF [0,1,2,1001] [⟨p,cs9,t9_,false⟩,⟨(p1 0).N,#[.bool s,.slice a n c,.slice b k l],35,true⟩,⟨(p1 1).N,#[.slice none 0 0,.slice none 0 0,.slice none 0 0,.slice none 0 0,.int .i64 0],133,true⟩,⟨(p2 1).N,#[.slice (p2 0).A (p2 0).N (p2 0).C],28,true⟩] (by kernel_rfl) (by kernel_rfl)
 replace hG:GsAt (gM W1.heap.size (p2 0).A (p2 0).N (p2 0).C 1 :: _) W2:=⟨hF.fx 0,hF.gx⟩
 clear hF
 have z2:=hS.fr.size
 refine wp_symQ hS hG hK (fun p3=>[.v 11 (.pointer (some ⟨(p1 0).N,1,none⟩)),.l 12 (.agg #[.slice a n c]) 1 1,.l 13 (.agg #[.slice (p2 0).A (p2 0).N (p2 0).C]) 3 0,.v 14 (.pointer (some ⟨(p1 0).N,2,none⟩)),.l 15 (.agg #[.slice b k l]) 1 2,.l 16 (.agg #[.slice (p2 0).A (p2 0).N (p2 0).C]) 3 0,.v 17 (.int .i64 0),.v 18 (.agg #[.slice a n c,.slice (p2 0).A (p2 0).N (p2 0).C,.slice b k l,.slice (p2 0).A (p2 0).N (p2 0).C,.int .i64 0]),.n 8 #[.slice none 0 0,.slice none 0 0,.slice none 0 0,.slice none 0 0,.int .i64 0] 133,.p 1008 0 [.slice a n c,.slice (p2 0).A (p2 0).N (p2 0).C,.slice b k l,.slice (p2 0).A (p2 0).N (p2 0).C,.int .i64 0]]) (fun p3=>[(0,.pointer (some ⟨p,0,none⟩)),(2,.int .i64 0),(4,.pointer (some ⟨(p1 0).N,0,none⟩)),(6,.pointer (some ⟨(p1 1).N,0,none⟩)),(8,.pointer (some ⟨(p3 8).N,0,none⟩))]) (by kernel_rfl) (fun _ _=>by kernel_rfl) (fun _=>by kernel_rfl) (fun _=>by kernel_rfl) (fun p3=>?_) (fun p3 W3 T hF hK=>?_)
 ·refine ok_v (by kernel_rfl) ?_
  iterate 2 refine ok_L (by kernel_rfl) (by kernel_rfl) (by kernel_rfl) ?_
  refine ok_v (by kernel_rfl) ?_
  iterate 2 refine ok_L (by kernel_rfl) (by kernel_rfl) (by kernel_rfl) ?_
  iterate 2 refine ok_v (by kernel_rfl) ?_
  refine ok_n (fun _=>by kernel_rfl) ?_
  refine ok_P (by kernel_rfl) (by kernel_rfl) (by kernel_rfl) ?_
  exact ok_nil
 replace hS:=SymF.fb hS hF [0,1,2,1008] [⟨p,cs9,t9_,false⟩,⟨(p1 0).N,#[.bool s,.slice a n c,.slice b k l],35,true⟩,⟨(p1 1).N,#[.slice none 0 0,.slice none 0 0,.slice none 0 0,.slice none 0 0,.int .i64 0],133,true⟩,⟨(p3 8).N,#[.slice a n c,.slice (p2 0).A (p2 0).N (p2 0).C,.slice b k l,.slice (p2 0).A (p2 0).N (p2 0).C,.int .i64 0],133,true⟩] (by kernel_rfl) (by kernel_rfl)
 replace hG:=hF.gx
 clear hF
 have z3:=hS.fr.size
 refine wp_symQ hS hG hK (fun p4=>[.v 19 (.pointer (some ⟨p,0,none⟩)),.v 20 (.pointer (some ⟨p,0,none⟩)),.v 21 (.pointer (some ⟨p,0,none⟩)),.v 22 (.int .i64 0),.v 23 (.int .i64 0),.v 24 (.int .i64 0),.v 25 (.int .i64 0),.c (some 26) (cO W3.heap.size 1),.v 27 (.agg #[.slice (p4 7).A (p4 7).N (p4 7).C]),.v 28 (.int .i64 0),.u 29 (.agg #[.slice (p4 7).A (p4 7).N (p4 7).C]) (aG 1),.n 9 #[.slice none 0 0] 28,.p 1011 0 [.slice (p4 7).A (p4 7).N (p4 7).C]]) (fun p4=>[(0,.pointer (some ⟨p,0,none⟩)),(2,.int .i64 0),(4,.pointer (some ⟨(p1 0).N,0,none⟩)),(6,.pointer (some ⟨(p1 1).N,0,none⟩)),(8,.pointer (some ⟨(p3 8).N,0,none⟩)),(9,.pointer (some ⟨(p4 11).N,0,none⟩))]) (by kernel_rfl) (fun _ _=>by kernel_rfl) (fun _=>by kernel_rfl) (fun _=>by kernel_rfl) (fun p4=>?_) (fun p4 W4 T hF hK=>?_)
 ·iterate 7 refine ok_v (by kernel_rfl) ?_
  refine ok_c (fun W cx=>as_o cx.hb (unhide HP _)) (by kernel_rfl) ?_
  iterate 2 refine ok_v (by kernel_rfl) ?_
  refine ok_u (fun W cx=>runNat_0 p 0 _ _ _ _ ⟨_,_,cx.B 0 _ rfl (by kernel_rfl) (by kernel_rfl),hp0⟩) (by kernel_rfl) (by kernel_rfl) ?_
  refine ok_n (fun _=>by kernel_rfl) ?_
  refine ok_P (by kernel_rfl) (by kernel_rfl) (by kernel_rfl) ?_
  exact ok_nil
 replace hS:=SymF.fb hS hF [0,1,2,3,1011] [⟨p,cs9,t9_,false⟩,⟨(p1 0).N,#[.bool s,.slice a n c,.slice b k l],35,true⟩,⟨(p1 1).N,#[.slice none 0 0,.slice none 0 0,.slice none 0 0,.slice none 0 0,.int .i64 0],133,true⟩,⟨(p3 8).N,#[.slice a n c,.slice (p2 0).A (p2 0).N (p2 0).C,.slice b k l,.slice (p2 0).A (p2 0).N (p2 0).C,.int .i64 0],133,true⟩,⟨(p4 11).N,#[.slice (p4 7).A (p4 7).N (p4 7).C],28,true⟩] (by kernel_rfl) (by kernel_rfl)
 replace hG:GsAt (gM W3.heap.size (p4 7).A (p4 7).N (p4 7).C 1 :: _) W4:=⟨hF.fx 7,hF.gx⟩
 clear hF
 have z4:=hS.fr.size
 refine wp_seq ?_
 refine wp_block ?_
 refine wp_symQ hS hG hK (fun p5=>[.v 33 (.int .i64 0),.v 34 (.bool false),.v 32 (.bool false)]) (fun p5=>[(0,.pointer (some ⟨p,0,none⟩)),(2,.int .i64 0),(4,.pointer (some ⟨(p1 0).N,0,none⟩)),(6,.pointer (some ⟨(p1 1).N,0,none⟩)),(8,.pointer (some ⟨(p3 8).N,0,none⟩)),(9,.pointer (some ⟨(p4 11).N,0,none⟩)),(32,.bool false)]) (by kernel_rfl) (fun _ _=>by kernel_rfl) (fun _=>by kernel_rfl) (fun _=>by kernel_rfl) (fun p5=>?_) (fun p5 W5 T hF hK=>?_)
 ·iterate 3 refine ok_v (by kernel_rfl) ?_
  exact ok_nil
 replace hS:=SymF.fb hS hF [0,1,2,3,4] [⟨p,cs9,t9_,false⟩,⟨(p1 0).N,#[.bool s,.slice a n c,.slice b k l],35,true⟩,⟨(p1 1).N,#[.slice none 0 0,.slice none 0 0,.slice none 0 0,.slice none 0 0,.int .i64 0],133,true⟩,⟨(p3 8).N,#[.slice a n c,.slice (p2 0).A (p2 0).N (p2 0).C,.slice b k l,.slice (p2 0).A (p2 0).N (p2 0).C,.int .i64 0],133,true⟩,⟨(p4 11).N,#[.slice (p4 7).A (p4 7).N (p4 7).C],28,true⟩] (by kernel_rfl) (by kernel_rfl)
 replace hG:=hF.gx
 clear hF
 have z5:=hS.fr.size
 refine wp_cond_false (hK.ev 32 (by kernel_rfl) _ (by kernel_rfl)) ?_
 refine wp_symQ hS hG hK (fun p6=>[.v 38 (.int .i64 0),.v 39 (.bool false),.v 37 (.bool false)]) (fun p6=>[(0,.pointer (some ⟨p,0,none⟩)),(4,.pointer (some ⟨(p1 0).N,0,none⟩)),(6,.pointer (some ⟨(p1 1).N,0,none⟩)),(8,.pointer (some ⟨(p3 8).N,0,none⟩)),(9,.pointer (some ⟨(p4 11).N,0,none⟩)),(32,.bool false),(37,.bool false)]) (by kernel_rfl) (fun _ _=>by kernel_rfl) (fun _=>by kernel_rfl) (fun _=>by kernel_rfl) (fun p6=>?_) (fun p6 W6 T hF hK=>?_)
 ·iterate 3 refine ok_v (by kernel_rfl) ?_
  exact ok_nil
 replace hS:=SymF.fb hS hF [0,1,2,3,4] [⟨p,cs9,t9_,false⟩,⟨(p1 0).N,#[.bool s,.slice a n c,.slice b k l],35,true⟩,⟨(p1 1).N,#[.slice none 0 0,.slice none 0 0,.slice none 0 0,.slice none 0 0,.int .i64 0],133,true⟩,⟨(p3 8).N,#[.slice a n c,.slice (p2 0).A (p2 0).N (p2 0).C,.slice b k l,.slice (p2 0).A (p2 0).N (p2 0).C,.int .i64 0],133,true⟩,⟨(p4 11).N,#[.slice (p4 7).A (p4 7).N (p4 7).C],28,true⟩] (by kernel_rfl) (by kernel_rfl)
 replace hG:=hF.gx
 clear hF
 have z6:=hS.fr.size
 refine wp_cond_false (hK.ev 37 (by kernel_rfl) _ (by kernel_rfl)) ?_
 refine wp_symG hS hG hK (fun p7=>[.l 30 (.agg #[.slice (p4 7).A (p4 7).N (p4 7).C]) 4 0,.v 31 (.pointer (some ⟨(p3 8).N,1,none⟩)),.p 3 1 [.slice (p4 7).A (p4 7).N (p4 7).C]]) (fun p7=>[(0,.pointer (some ⟨p,0,none⟩)),(4,.pointer (some ⟨(p1 0).N,0,none⟩)),(6,.pointer (some ⟨(p1 1).N,0,none⟩)),(8,.pointer (some ⟨(p3 8).N,0,none⟩)),(9,.pointer (some ⟨(p4 11).N,0,none⟩)),(32,.bool false),(37,.bool false)]) (by kernel_rfl) (fun _ _=>by kernel_rfl) (fun _=>by kernel_rfl) (fun _=>by kernel_rfl) (fun p7=>?_) (fun p7 W7 T hF hK=>?_)
 ·refine ok_L (by kernel_rfl) (by kernel_rfl) (by kernel_rfl) ?_
  refine ok_v (by kernel_rfl) ?_
  refine ok_P (by kernel_rfl) (by kernel_rfl) (by kernel_rfl) ?_
  exact ok_nil
 replace hS:=SymF.fb hS hF [0,1,2,3,4] [⟨p,cs9,t9_,false⟩,⟨(p1 0).N,#[.bool s,.slice a n c,.slice b k l],35,true⟩,⟨(p1 1).N,#[.slice none 0 0,.slice none 0 0,.slice none 0 0,.slice none 0 0,.int .i64 0],133,true⟩,⟨(p3 8).N,#[.slice a n c,.slice (p4 7).A (p4 7).N (p4 7).C,.slice b k l,.slice (p2 0).A (p2 0).N (p2 0).C,.int .i64 0],133,true⟩,⟨(p4 11).N,#[.slice (p4 7).A (p4 7).N (p4 7).C],28,true⟩] (by kernel_rfl) (by kernel_rfl)
 replace hG:=hF.gx
 clear hF
 have z7:=hS.fr.size
 refine inb_n ?_
 refine then_n ?_
 refine wp_symQ hS hG hK (fun p8=>[.l 51 (.agg #[.slice a n c,.slice (p4 7).A (p4 7).N (p4 7).C,.slice b k l,.slice (p2 0).A (p2 0).N (p2 0).C,.int .i64 0]) 3 0,.p 2 0 [.slice a n c,.slice (p4 7).A (p4 7).N (p4 7).C,.slice b k l,.slice (p2 0).A (p2 0).N (p2 0).C,.int .i64 0]]) (fun p8=>[(0,.pointer (some ⟨p,0,none⟩)),(4,.pointer (some ⟨(p1 0).N,0,none⟩)),(6,.pointer (some ⟨(p1 1).N,0,none⟩)),(8,.pointer (some ⟨(p3 8).N,0,none⟩)),(9,.pointer (some ⟨(p4 11).N,0,none⟩)),(32,.bool false),(37,.bool false)]) (by kernel_rfl) (fun _ _=>by kernel_rfl) (fun _=>by kernel_rfl) (fun _=>by kernel_rfl) (fun p8=>?_) (fun p8 W8 T hF hK=>?_)
 ·refine ok_L (by kernel_rfl) (by kernel_rfl) (by kernel_rfl) ?_
  refine ok_P (by kernel_rfl) (by kernel_rfl) (by kernel_rfl) ?_
  exact ok_nil
 replace hS:=SymF.fb hS hF [0,1,2,3,4] [⟨p,cs9,t9_,false⟩,⟨(p1 0).N,#[.bool s,.slice a n c,.slice b k l],35,true⟩,⟨(p1 1).N,#[.slice a n c,.slice (p4 7).A (p4 7).N (p4 7).C,.slice b k l,.slice (p2 0).A (p2 0).N (p2 0).C,.int .i64 0],133,true⟩,⟨(p3 8).N,#[.slice a n c,.slice (p4 7).A (p4 7).N (p4 7).C,.slice b k l,.slice (p2 0).A (p2 0).N (p2 0).C,.int .i64 0],133,true⟩,⟨(p4 11).N,#[.slice (p4 7).A (p4 7).N (p4 7).C],28,true⟩] (by kernel_rfl) (by kernel_rfl)
 replace hG:=hF.gx
 clear hF
 have z8:=hS.fr.size
 refine wp_ret ?_
 exact sym_end hS hK (.agg #[.slice a n c,.slice (p4 7).A (p4 7).N (p4 7).C,.slice b k l,.slice (p2 0).A (p2 0).N (p2 0).C,.int .i64 0]) [(2,0,5)] [.slice a n c,.slice (p4 7).A (p4 7).N (p4 7).C,.slice b k l,.slice (p2 0).A (p2 0).N (p2 0).C,.int .i64 0] (by kernel_rfl) (by kernel_rfl) ⟨⟨_,_,_,_,_,_,rfl,Mine.mono hG.1 z3,Mine.mono hG.2.1 z1⟩,hS.fr⟩
theorem rdyadic_is (E F mode:Nat) (h0:Fo E F) (hm:mode≤4) (s:Bool) (a:Option Addr) (n cap m:Nat) (x:Int) (ng:Bool) (gb fl:Int) (w:World) (B:Nat) (h:Mine w B a n cap m) (HC:Hid (∀ W:World,Num W a n m→Calls Tryz.prog 21 #[.agg #[.bool s,.slice a n cap,.int .i64 x]] W fun e w'=>e = .returned (.int .i64 0)∧Below W.heap.size W w')) (HR:Hid (∀ W:World,Mine W B a n cap m→Calls Tryz.prog 33 #[.agg #[.int .i64 E,.int .i64 F],.agg #[.bool s,.slice a n cap,.int .i64 x],.bool ng,.int .u8 (mode:Int)] W fun e w'=>e = .returned (.tuple #[.int .u64 gb,.int .u8 fl,.int .i64 0])∧Below W.heap.size W w')) :
  Calls Tryz.prog 10 #[.agg #[.int .i64 E,.int .i64 F],.agg #[.bool s,.slice a n cap,.int .i64 x],.bool ng,.int .u8 (mode:Int)] w fun e w'=>e = .returned (.tuple #[.int .u64 gb,.int .u8 fl,.int .i64 0])∧Below w.heap.size w w':=by
 have H:=hide h
 clear h
 go_enter Tryz.func10,Tryz.ntmps10
 go_wp2_with fail
 refine (check_ok _ _ _ h0).mono ?_
 rintro e w1 ⟨rfl,hb1⟩
 have hS:=(Fs.two w _ _ _ _).kept hb1
 obtain ⟨⟨ya,yb,-⟩,⟨yc,yd,ye,-⟩,-⟩:=hS.cells
 go_wp2_with fail
 refine (unhide HC _ ((unhide H).kept hS.fr).num).mono ?_
 rintro e w2 ⟨rfl,hb2⟩
 replace hS:=hS.kept hb2
 clear ya yb yc yd ye
 obtain ⟨⟨yf,yg,-⟩,⟨yh,yi,yj,-⟩,-⟩:=hS.cells
 go_wp2_with fail
 refine (mode_ok mode hm _).mono ?_
 rintro e w3 ⟨rfl,hb3⟩
 replace hS:=hS.kept hb3
 clear yf yg yh yi yj
 obtain ⟨⟨yk,yl,-⟩,⟨ym,yn,yo,-⟩,-⟩:=hS.cells
 go_wp2_with fail
 refine (unhide HR _ ((unhide H).kept hS.fr)).mono ?_
 rintro e w4 ⟨rfl,hb4⟩
 replace hS:=hS.kept hb4
 clear yk yl ym yn yo
 obtain ⟨⟨yp,yq,-⟩,⟨yr,ys,yt,-⟩,-⟩:=hS.cells
 go_wp2
 go_ret3
 exact ⟨rfl,hS.fr⟩
structure Xrok3S where
 (b0 b1 b2 b3 b4 b5 b6 b7 b8 b9 b10 b11:Bool)
 (v0 v1 v2 v3 v4 v5 v6 v7 v8 v9 v11:Value)
 (A0:Option Addr)
 (N0 C0:Nat)
 (A5:Option Addr)
 (N5 C5:Nat)
 bs9:List En
 os9:Os
structure Xrok3R (w:World) (s:Bool) (a:Option Addr) (n cap m:Nat) (z:Int) (i j V M:Nat) (er:Int) (yA2:Option Addr) (yN2 yC2:Nat) (w2:World) (S9:Nat) (b0 b1 b2 b3 b4 b5 b6 b7 b8 b9 b10 b11:Bool) (v0 v1 v2 v3 v4 v5 v6 v7 v8 v9 v11:Value) (A0:Option Addr) (N0 C0:Nat) (A5:Option Addr) (N5 C5:Nat) (bs9:List En) (os9:Os) (w':World):Prop where
 hc:Rc w S9 [⟨w2.heap.size,#[.slice yA2 yN2 yC2],28⟩,⟨w.heap.size+1,#[.bool false,.slice none 0 0,.slice none 0 0],35⟩,⟨w.heap.size,#[.bool s,.slice a n cap,.int .i64 z],30⟩] [(a,n,m)] [(yA2,yN2,yC2,V)] none bs9 os9 w'
 f0:b0 = true→v0 = .agg #[.slice A0 N0 C0]∧(A0,N0,C0,1)∈os9
 f1:b1 = true→v1 = .pointer (some ⟨w.heap.size,2,none⟩)
 f2:b2 = true→v2 = .int .i64 z
 f3:b3 = true→v3 = .int .i64 (-z)
 f4:b4 = true→v4 = .int .i64 j
 f5:b5 = true→v5 = .tuple #[.agg #[.slice A5 N5 C5],.int .i64 er]∧(A5,N5,C5,M)∈os9
 f6:b6 = true→v6 = .tuple #[.agg #[.slice A5 N5 C5],.int .i64 er]
 f7:b7 = true→v7 = .agg #[.slice A5 N5 C5]
 f8:b8 = true→v8 = .int .i64 er
 f9:b9 = true→AlV bs9 S9 v9 28
 f10:b10 = true→StV bs9 S9 v9 v7 28
 f11:b11 = true→v11 = .int .i64 er
 g5_0:b5 = true→b0 = true
 g6_5:b6 = true→b5 = true
 g6_0:b6 = true→b0 = true
 g7_5:b7 = true→b5 = true
 g7_0:b7 = true→b0 = true
 g8_5:b8 = true→b5 = true
 g8_0:b8 = true→b0 = true
 g10_9:b10 = true→b9 = true
 g10_7:b10 = true→b7 = true
 g10_5:b10 = true→b5 = true
 g10_0:b10 = true→b0 = true
 g11_5:b11 = true→b5 = true
 g11_0:b11 = true→b0 = true
def Xrok3I (w:World) (s:Bool) (a:Option Addr) (n cap m:Nat) (z:Int) (i j V M:Nat) (er:Int) (yA2:Option Addr) (yN2 yC2:Nat) (w2:World) (S9:Nat) (l:Array Bool) (act:Act) (w':World):Xrok3S→Prop
 | ⟨b0,b1,b2,b3,b4,b5,b6,b7,b8,b9,b10,b11,v0,v1,v2,v3,v4,v5,v6,v7,v8,v9,v11,A0,N0,C0,A5,N5,C5,bs9,os9⟩=>l = #[b0,b1,b2,b3,b4,b5,b6,b7,b8,b9,b10,b11]∧act = { tmps:=#[.agg #[.bool s,.slice a n cap,.int .i64 z],.pointer (some ⟨w.heap.size,0,none⟩),.pointer (some ⟨w.heap.size+1,0,none⟩),.int .i64 0,.int .i64 0,.pointer (some ⟨w2.heap.size,0,none⟩),v11,v9,.agg #[.bool s,.slice a n cap,.int .i64 z],.int .i64 0,.int .i64 0,.bool false,undef,undef,.tuple #[.agg #[.slice yA2 yN2 yC2],.int .i64 0],.pointer (some ⟨w.heap.size,1,none⟩),.agg #[.slice a n cap],.pointer (some ⟨w.heap.size,2,none⟩),.int .i64 z,.int .i64 i,.tuple #[.agg #[.slice yA2 yN2 yC2],.int .i64 0],.agg #[.slice yA2 yN2 yC2],.int .i64 0,.int .i64 0,.bool false,undef,undef,v6,v0,v1,v2,v3,v4,v5,v7,v8,undef,undef,undef,undef,undef,undef,undef,undef,undef],defers:=[] }∧Xrok3R w s a n cap m z i j V M er yA2 yN2 yC2 w2 S9 b0 b1 b2 b3 b4 b5 b6 b7 b8 b9 b10 b11 v0 v1 v2 v3 v4 v5 v6 v7 v8 v9 v11 A0 N0 C0 A5 N5 C5 bs9 os9 w'
theorem xr_ok (w:World) (s:Bool) (a:Option Addr) (n cap m:Nat) (z:Int) (i j V M:Nat) (er:Int) (h:Num w a n m) (hx:-1073741824≤z∧z≤1073741824) (hi:max z 0 = (i:Int)) (hj:max (-z) 0 = (j:Int)) (her:er = 0) (HC:Hid (∀ (W:World) (A:Option Addr) (N C:Nat),Num W A N m→Calls Tryz.prog 21 #[.agg #[.bool s,.slice A N C,.int .i64 z]] W fun e w'=>e = .returned (.int .i64 0)∧Below W.heap.size W w')) (HU:Hid (∀ (W:World) (A:Option Addr) (N C:Nat),Num W A N m→Calls Tryz.prog 22 #[.agg #[.slice A N C],.int .i64 (i:Int)] W fun en W'=>(∃ a n c,en = .returned (.tuple #[.agg #[.slice a n c],.int .i64 0])∧Mine W' W.heap.size a n c V)∧Below W.heap.size W W')) (HD:Hid (∀ (W:World) (A:Option Addr) (N C:Nat),Num W A N 1→Calls Tryz.prog 22 #[.agg #[.slice A N C],.int .i64 (j:Int)] W fun en W'=>(∃ a n c,en = .returned (.tuple #[.agg #[.slice a n c],.int .i64 er])∧Mine W' W.heap.size a n c M)∧Below W.heap.size W W')) :
  Calls Tryz.prog 7 #[.agg #[.bool s,.slice a n cap,.int .i64 z]] w fun en w'=>(∃ A N C A' N' C',en = .returned (.tuple #[.agg #[.bool s,.slice A N C,.slice A' N' C'],.int .i64 0])∧Mine w' w.heap.size A N C V∧Mine w' w.heap.size A' N' C' M)∧Below w.heap.size w w':=by
 have her2:(er != 0) = false:=by simp [her]
 have HE:=hide her
 clear her
 have hS:=Rs.begin w
 replace hS:=hS.num h
 replace hS:=hS.alloc #[.bool s,.slice a n cap,.int .i64 z] 30
 try simp only [World.size_alloc] at hS
 replace hS:=hS.alloc #[.bool false,.slice none 0 0,.slice none 0 0] 35
 try simp only [World.size_alloc] at hS
 go_enter Tryz.func7,Tryz.ntmps7
 go_wp2_with fail
 refine (unhide HC _ _ _ _ (hS.nm (a,n,m) (by simp))).mono ?_
 rintro en w1 ⟨rfl,hb9⟩
 have hz1:=hb9.size
 replace hS:=hS.kept hb9
 clear hb9
 simp only [World.size_alloc] at hz1
 obtain ⟨⟨k0_0,k0_1,k0_2,-⟩,-⟩:=hS.cz ⟨w.heap.size,#[.bool s,.slice a n cap,.int .i64 z],30⟩ (by simp)
 simp only [] at k0_0 k0_1 k0_2
 go_wp2_with fail
 clear k0_0 k0_1 k0_2
 try rw [hi]
 refine (W_oft hS (unhide HU _ _ _ _ (hS.nm (a,n,m) (by simp)))).mono ?_
 clear hS; rintro en w2 ⟨yA2,yN2,yC2,rfl,hS,hz2⟩
 replace hS:=hS.alloc #[.slice yA2 yN2 yC2] 28
 try simp only [World.size_alloc] at hS
 go_wp2_with fail
 refine wp_region_any (by kernel_rfl) ?_
 change wpAny _ _ _ _ _ _ _ (World.drew _)
 have hS9:=hS.drew
 have hsW9:(World.drew (w2.alloc (.cells #[.slice yA2 yN2 yC2] 28))).heap.size = w2.heap.size+1:=by first|rfl|simp
 generalize World.drew (w2.alloc (.cells #[.slice yA2 yN2 yC2] 28)) = Wd at hS9 hsW9 ⊢
 obtain ⟨S9,hS9z⟩:∃ x,x = Wd.heap.size:=⟨_,rfl⟩
 have hC9:=Rc.start (bs:=[⟨w2.heap.size,#[.slice yA2 yN2 yC2],28⟩,⟨w.heap.size+1,#[.bool false,.slice none 0 0,.slice none 0 0],35⟩,⟨w.heap.size,#[.bool s,.slice a n cap,.int .i64 z],30⟩]) hS9 (by simp)
 rw [← hS9z] at hC9
 refine wpAny_inv (fun l act w'=>∃ σ,Xrok3I w s a n cap m z i j V M er yA2 yN2 yC2 w2 S9 l act w' σ) ?_ ?_ _ _ _ _ ?_ ?_
 ·intro l act w' i9 hI9 hi9 hl9
  have hin9:i9 < 12:=by
   by_cases h:i9 < 12
   ·exact h
   ·obtain ⟨⟨⟩,rfl,_⟩:=hI9
    rw [Array.getElem?_eq_none (by simp; omega)] at hl9; cases hl9
  have hcase:i9 = 0∨i9 = 1∨i9 = 2∨i9 = 3∨i9 = 4∨i9 = 5∨i9 = 6∨i9 = 7∨i9 = 8∨i9 = 9∨i9 = 10∨i9 = 11:=by omega
  clear hin9
  obtain ⟨⟨b0,b1,b2,b3,b4,b5,b6,b7,b8,b9,b10,b11,v0,v1,v2,v3,v4,v5,v6,v7,v8,v9,v11,A0,N0,C0,A5,N5,C5,bs9,os9⟩,rfl,rfl,hR⟩:=hI9
  rcases hcase with rfl|rfl|rfl|rfl|rfl|rfl|rfl|rfl|rfl|rfl|rfl|rfl
  ·obtain rfl:b0 = false:=by simpa using hl9
   have hc:=hR.hc
   have HR:=hide hR
   clear hR
   refine wpOp_step rfl fun K hK=>?_
   go_simp
   go_wp2_with fail
   refine (W_of hc.st 1 (by omega)).mono ?_
   rintro en w9 ⟨a9,n9,c9,rfl,hs9,hz9⟩
   have hR:=unhide HR
   exact hK _ _ ⟨⟨_,_,_,_,_,_,_,_,_,_,_,_,_,_,_,_,_,_,_,_,_,_,_,_,_,_,A5,N5,C5,_,_⟩,rfl,rfl,{ hR with hc:=(hc.call hs9 hz9 (fun y hy=>List.mem_cons_of_mem _ hy)),f0:=(fun _=>⟨rfl,List.mem_cons_self ..⟩),f5:=(fun h=>Bool.noConfusion (hR.g5_0 h)),f6:=(fun h=>Bool.noConfusion (hR.g6_0 h)),f7:=(fun h=>Bool.noConfusion (hR.g7_0 h)),f8:=(fun h=>Bool.noConfusion (hR.g8_0 h)),f10:=(fun h=>Bool.noConfusion (hR.g10_0 h)),f11:=(fun h=>Bool.noConfusion (hR.g11_0 h)),g5_0:=(fun _=>rfl),g6_0:=(fun _=>rfl),g7_0:=(fun _=>rfl),g8_0:=(fun _=>rfl),g10_0:=(fun _=>rfl),g11_0:=(fun _=>rfl) }⟩
  ·obtain rfl:b1 = false:=by simpa using hl9
   have hc:=hR.hc
   refine wpOp_step rfl fun K hK=>?_
   go_simp
   exact hK _ _ ⟨⟨_,_,_,_,_,_,_,_,_,_,_,_,_,_,_,_,_,_,_,_,_,_,_,A0,N0,C0,A5,N5,C5,_,_⟩,rfl,rfl,{ hR with hc:=hc,f1:=(fun _=>rfl) }⟩
  ·obtain rfl:b2 = false:=by simpa using hl9
   obtain ⟨o9,ho9,hd9⟩:=(mem_ready.1 hi9).2
   cases ho9
   have e1:b1 = true:=hd9 ⟨1,.data⟩ (by simp) rfl
   subst e1
   have h9:=hR.f1 rfl
   subst h9
   have hc:=hR.hc
   have c9_0:=hc.st.cellAt (hc.old ⟨w.heap.size,#[.bool s,.slice a n cap,.int .i64 z],30⟩ (by simp)).1 2 (.int .i64 z) rfl
   simp only [] at c9_0
   refine wpOp_step rfl fun K hK=>?_
   go_simp
   exact hK _ _ ⟨⟨_,_,_,_,_,_,_,_,_,_,_,_,_,_,_,_,_,_,_,_,_,_,_,A0,N0,C0,A5,N5,C5,_,_⟩,rfl,rfl,{ hR with hc:=hc,f2:=(fun _=>rfl) }⟩
  ·obtain rfl:b3 = false:=by simpa using hl9
   obtain ⟨o9,ho9,hd9⟩:=(mem_ready.1 hi9).2
   cases ho9
   have e2:b2 = true:=hd9 ⟨2,.data⟩ (by simp) rfl
   subst e2
   have h9:=hR.f2 rfl
   subst h9
   have hc:=hR.hc
   refine wpOp_step rfl fun K hK=>?_
   go_simp
   exact hK _ _ ⟨⟨_,_,_,_,_,_,_,_,_,_,_,_,_,_,_,_,_,_,_,_,_,_,_,A0,N0,C0,A5,N5,C5,_,_⟩,rfl,rfl,{ hR with hc:=hc,f3:=(fun _=>by first|rfl|(show Value.int _ _ = Value.int _ _; congr 1; rw [IntKind.wrap_i64]; omega)) }⟩
  ·obtain rfl:b4 = false:=by simpa using hl9
   obtain ⟨o9,ho9,hd9⟩:=(mem_ready.1 hi9).2
   cases ho9
   have e3:b3 = true:=hd9 ⟨3,.data⟩ (by simp) rfl
   subst e3
   have h9:=hR.f3 rfl
   subst h9
   have hc:=hR.hc
   refine wpOp_step rfl fun K hK=>?_
   go_simp
   exact hK _ _ ⟨⟨_,_,_,_,_,_,_,_,_,_,_,_,_,_,_,_,_,_,_,_,_,_,_,A0,N0,C0,A5,N5,C5,_,_⟩,rfl,rfl,{ hR with hc:=hc,f4:=(fun _=>by first|rfl|(rw [hj])|simp [hj]|(congr 1)) }⟩
  ·obtain rfl:b5 = false:=by simpa using hl9
   obtain ⟨o9,ho9,hd9⟩:=(mem_ready.1 hi9).2
   cases ho9
   have e0:b0 = true:=hd9 ⟨0,.data⟩ (by simp) rfl
   have e4:b4 = true:=hd9 ⟨4,.data⟩ (by simp) rfl
   subst e0 e4
   have q0:=hR.f0 rfl
   obtain ⟨h9,q0m⟩:=q0
   subst h9
   have h9:=hR.f4 rfl
   subst h9
   have hc:=hR.hc
   have HR:=hide hR
   clear hR
   refine wpOp_step rfl fun K hK=>?_
   go_simp
   go_wp2_with fail
   refine (W_oft hc.st (unhide HD _ _ _ _ (hc.st.ow _ q0m).num)).mono ?_
   rintro en w9 ⟨a9,n9,c9,rfl,hs9,hz9⟩
   have hR:=unhide HR
   exact hK _ _ ⟨⟨_,_,_,_,_,_,_,_,_,_,_,_,_,_,_,_,_,_,_,_,_,_,_,A0,N0,C0,_,_,_,_,_⟩,rfl,rfl,{ hR with hc:=(hc.call hs9 hz9 (fun y hy=>List.mem_cons_of_mem _ hy)),f0:=(fun h=>⟨(hR.f0 h).1,List.mem_cons_of_mem _ (hR.f0 h).2⟩),f5:=(fun _=>⟨rfl,List.mem_cons_self ..⟩),f6:=(fun h=>Bool.noConfusion (hR.g6_5 h)),f7:=(fun h=>Bool.noConfusion (hR.g7_5 h)),f8:=(fun h=>Bool.noConfusion (hR.g8_5 h)),f10:=(fun h=>Bool.noConfusion (hR.g10_5 h)),f11:=(fun h=>Bool.noConfusion (hR.g11_5 h)),g5_0:=(fun _=>rfl),g6_5:=(fun _=>rfl),g7_5:=(fun _=>rfl),g8_5:=(fun _=>rfl),g10_5:=(fun _=>rfl),g11_5:=(fun _=>rfl) }⟩
  ·obtain rfl:b6 = false:=by simpa using hl9
   obtain ⟨o9,ho9,hd9⟩:=(mem_ready.1 hi9).2
   cases ho9
   have e5:b5 = true:=hd9 ⟨5,.data⟩ (by simp) rfl
   subst e5
   have q5:=hR.f5 rfl
   obtain ⟨h9,q5m⟩:=q5
   subst h9
   have hc:=hR.hc
   refine wpOp_step rfl fun K hK=>?_
   go_simp
   exact hK _ _ ⟨⟨_,_,_,_,_,_,_,_,_,_,_,_,_,_,_,_,_,_,_,_,_,_,_,A0,N0,C0,A5,N5,C5,_,_⟩,rfl,rfl,{ hR with hc:=hc,f6:=(fun _=>rfl),g6_5:=(fun _=>rfl),g6_0:=(fun _=>hR.g5_0 rfl) }⟩
  ·obtain rfl:b7 = false:=by simpa using hl9
   obtain ⟨o9,ho9,hd9⟩:=(mem_ready.1 hi9).2
   cases ho9
   have e6:b6 = true:=hd9 ⟨6,.data⟩ (by simp) rfl
   subst e6
   obtain rfl:b5 = true:=hR.g6_5 rfl
   have q5:=hR.f5 rfl
   obtain ⟨h9,q5m⟩:=q5
   subst h9
   obtain rfl:b0 = true:=hR.g6_0 rfl
   have q0:=hR.f0 rfl
   obtain ⟨h9,q0m⟩:=q0
   subst h9
   have h9:=hR.f6 rfl
   subst h9
   have hc:=hR.hc
   refine wpOp_step rfl fun K hK=>?_
   go_simp
   exact hK _ _ ⟨⟨_,_,_,_,_,_,_,_,_,_,_,_,_,_,_,_,_,_,_,_,_,_,_,A0,N0,C0,A5,N5,C5,_,_⟩,rfl,rfl,{ hR with hc:=hc,f7:=(fun _=>rfl),f10:=(fun h=>Bool.noConfusion (hR.g10_7 h)),g7_5:=(fun _=>rfl),g7_0:=(fun _=>rfl),g10_7:=(fun _=>rfl) }⟩
  ·obtain rfl:b8 = false:=by simpa using hl9
   obtain ⟨o9,ho9,hd9⟩:=(mem_ready.1 hi9).2
   cases ho9
   have e6:b6 = true:=hd9 ⟨6,.data⟩ (by simp) rfl
   subst e6
   obtain rfl:b5 = true:=hR.g6_5 rfl
   have q5:=hR.f5 rfl
   obtain ⟨h9,q5m⟩:=q5
   subst h9
   obtain rfl:b0 = true:=hR.g6_0 rfl
   have q0:=hR.f0 rfl
   obtain ⟨h9,q0m⟩:=q0
   subst h9
   have h9:=hR.f6 rfl
   subst h9
   have hc:=hR.hc
   refine wpOp_step rfl fun K hK=>?_
   go_simp
   exact hK _ _ ⟨⟨_,_,_,_,_,_,_,_,_,_,_,_,_,_,_,_,_,_,_,_,_,_,_,A0,N0,C0,A5,N5,C5,_,_⟩,rfl,rfl,{ hR with hc:=hc,f8:=(fun _=>rfl),g8_5:=(fun _=>rfl),g8_0:=(fun _=>rfl) }⟩
  ·obtain rfl:b9 = false:=by simpa using hl9
   have hc:=hR.hc
   refine wpOp_step rfl fun K hK=>?_
   go_simp
   exact hK _ _ ⟨⟨_,_,_,_,_,_,_,_,_,_,_,_,_,_,_,_,_,_,_,_,_,_,_,A0,N0,C0,A5,N5,C5,_,_⟩,rfl,rfl,{ hR with hc:=(hc.alloc #[.slice none 0 0] 28),f9:=(fun _=>AlV.self rfl hc.sz),f10:=(fun h=>Bool.noConfusion (hR.g10_9 h)),g10_9:=(fun _=>rfl) }⟩
  ·obtain rfl:b10 = false:=by simpa using hl9
   obtain ⟨o9,ho9,hd9⟩:=(mem_ready.1 hi9).2
   cases ho9
   have e7:b7 = true:=hd9 ⟨7,.data⟩ (by simp) rfl
   have e9:b9 = true:=hd9 ⟨9,.data⟩ (by simp) rfl
   subst e7 e9
   obtain rfl:b5 = true:=hR.g7_5 rfl
   have q5:=hR.f5 rfl
   obtain ⟨h9,q5m⟩:=q5
   subst h9
   obtain rfl:b0 = true:=hR.g7_0 rfl
   have q0:=hR.f0 rfl
   obtain ⟨h9,q0m⟩:=q0
   subst h9
   have h9:=hR.f7 rfl
   subst h9
   have hc:=hR.hc
   obtain ⟨g9,s9,h9,hg9,hm9⟩:=hR.f9 rfl
   subst h9
   have fz9:=hc.st.frozen hm9 0
   have cz9:=hc.st.cellAt hm9 0 s9 rfl
   simp only [] at fz9 cz9
   have hn9:∀ x,x∈([⟨w2.heap.size,#[.slice yA2 yN2 yC2],28⟩,⟨w.heap.size+1,#[.bool false,.slice none 0 0,.slice none 0 0],35⟩,⟨w.heap.size,#[.bool s,.slice a n cap,.int .i64 z],30⟩]:List En)→x.b≠g9:=fun x hx=>by have:=(hc.old x hx).2; omega
   refine wpOp_step rfl fun K hK=>?_
   go_simp
   exact hK _ _ ⟨⟨_,_,_,_,_,_,_,_,_,_,_,_,_,_,_,_,_,_,_,_,_,_,_,A0,N0,C0,A5,N5,C5,_,_⟩,rfl,rfl,{ hR with hc:=(hc.store hm9 (by have:=hc.w0s; omega) hn9 0 (.slice A5 N5 C5) (by simp)),f9:=(fun _=>AlV.self rfl hg9),f10:=(fun _=>⟨g9,_,rfl,hg9,rfl,List.mem_cons_self ..⟩),g10_9:=(fun _=>rfl),g10_7:=(fun _=>rfl),g10_5:=(fun _=>rfl),g10_0:=(fun _=>rfl) }⟩
  ·obtain rfl:b11 = false:=by simpa using hl9
   obtain ⟨o9,ho9,hd9⟩:=(mem_ready.1 hi9).2
   cases ho9
   have e8:b8 = true:=hd9 ⟨8,.data⟩ (by simp) rfl
   subst e8
   obtain rfl:b5 = true:=hR.g8_5 rfl
   have q5:=hR.f5 rfl
   obtain ⟨h9,q5m⟩:=q5
   subst h9
   obtain rfl:b0 = true:=hR.g8_0 rfl
   have q0:=hR.f0 rfl
   obtain ⟨h9,q0m⟩:=q0
   subst h9
   have h9:=hR.f8 rfl
   subst h9
   have hc:=hR.hc
   refine wpOp_step rfl fun K hK=>?_
   go_simp
   exact hK _ _ ⟨⟨_,_,_,_,_,_,_,_,_,_,_,_,_,_,_,_,_,_,_,_,_,_,_,A0,N0,C0,A5,N5,C5,_,_⟩,rfl,rfl,{ hR with hc:=hc,f11:=(fun _=>rfl),g11_5:=(fun _=>rfl),g11_0:=(fun _=>rfl) }⟩
 ·rintro l act Wq3 ⟨⟨b0,b1,b2,b3,b4,b5,b6,b7,b8,b9,b10,b11,v0,v1,v2,v3,v4,v5,v6,v7,v8,v9,v11,x3_A0,x3_N0,x3_C0,x3_A5,x3_N5,x3_C5,bs9,os9⟩,rfl,rfl,hR⟩ hr9
  obtain ⟨hc,f0,f1,f2,f3,f4,f5,f6,f7,f8,f9,f10,f11,g5_0,g6_5,g6_0,g7_5,g7_0,g8_5,g8_0,g10_9,g10_7,g10_5,g10_0,g11_5,g11_0⟩:=hR
  have eall:=all_done hr9 (by kernel_rfl) rfl
  obtain rfl:b0 = true:=eall 0 (by decide)
  obtain rfl:b1 = true:=eall 1 (by decide)
  obtain rfl:b2 = true:=eall 2 (by decide)
  obtain rfl:b3 = true:=eall 3 (by decide)
  obtain rfl:b4 = true:=eall 4 (by decide)
  obtain rfl:b5 = true:=eall 5 (by decide)
  obtain rfl:b6 = true:=eall 6 (by decide)
  obtain rfl:b7 = true:=eall 7 (by decide)
  obtain rfl:b8 = true:=eall 8 (by decide)
  obtain rfl:b9 = true:=eall 9 (by decide)
  obtain rfl:b10 = true:=eall 10 (by decide)
  obtain rfl:b11 = true:=eall 11 (by decide)
  clear hr9 eall
  obtain ⟨h9,q0m⟩:=f0 rfl
  subst h9
  have h9:=f1 rfl
  subst h9
  have h9:=f2 rfl
  subst h9
  have h9:=f3 rfl
  subst h9
  have h9:=f4 rfl
  subst h9
  obtain ⟨h9,q5m⟩:=f5 rfl
  subst h9
  have h9:=f6 rfl
  subst h9
  have h9:=f7 rfl
  subst h9
  have h9:=f8 rfl
  subst h9
  obtain ⟨x3_g9,s9,h9,hg9,hs9,hm9⟩:=f10 rfl
  subst h9
  obtain rfl:s9 = .slice x3_A5 x3_N5 x3_C5:=by simpa using hs9.symm
  clear hs9
  have h9:=f11 rfl
  subst h9
  have hbs9:∀ x,x∈([⟨x3_g9,#[.slice x3_A5 x3_N5 x3_C5],28⟩,⟨w2.heap.size,#[.slice yA2 yN2 yC2],28⟩,⟨w.heap.size+1,#[.bool false,.slice none 0 0,.slice none 0 0],35⟩,⟨w.heap.size,#[.bool s,.slice a n cap,.int .i64 z],30⟩]:List En)→x∈bs9:=by
   intro x hx
   rcases List.mem_cons.1 hx with rfl|hx
   ·exact hm9
   rcases List.mem_cons.1 hx with rfl|hx
   ·exact (hc.old _ (by simp)).1
   rcases List.mem_cons.1 hx with rfl|hx
   ·exact (hc.old _ (by simp)).1
   rcases List.mem_cons.1 hx with rfl|hx
   ·exact (hc.old _ (by simp)).1
   exact absurd hx List.not_mem_nil
  have hos9:∀ x,x∈([(x3_A0,x3_N0,x3_C0,1),(x3_A5,x3_N5,x3_C5,M),(yA2,yN2,yC2,V)]:Os)→x∈os9:=by
   intro x hx
   rcases List.mem_cons.1 hx with rfl|hx
   ·exact q0m
   rcases List.mem_cons.1 hx with rfl|hx
   ·exact q5m
   rcases List.mem_cons.1 hx with rfl|hx
   ·exact hc.oso _ (by simp)
   exact absurd hx List.not_mem_nil
  have hS:=hc.st.sub hbs9 (fun x hx=>hx) hos9
  have hsz9:=hc.sz
  rw [hS9z,hsW9] at hsz9
  have hlx3_g9:=hg9
  rw [hS9z,hsW9] at hlx3_g9
  have hux3_g9:=block_lt (hc.st.bx _ hm9).1
  simp only [] at hux3_g9
  clear hbs9 hos9 hc f0 f1 f2 f3 f4 f5 f6 f7 f8 f9 f10 f11 g5_0 g6_5 g6_0 g7_5 g7_0 g8_5 g8_0 g10_9 g10_7 g10_5 g10_0 g11_5 g11_0
  clear q0m q5m hm9 hg9
  have hz3:=hsz9
  clear hsz9 hS9z hS9 hC9 hsW9
  obtain ⟨⟨k0_0,-⟩,z0⟩:=hS.cz ⟨x3_g9,#[.slice x3_A5 x3_N5 x3_C5],28⟩ (by simp)
  have z0_0:=z0 0
  clear z0
  obtain ⟨⟨k1_0,-⟩,z1⟩:=hS.cz ⟨w2.heap.size,#[.slice yA2 yN2 yC2],28⟩ (by simp)
  have z1_0:=z1 0
  clear z1
  obtain ⟨⟨k2_0,k2_1,k2_2,-⟩,z2⟩:=hS.cz ⟨w.heap.size+1,#[.bool false,.slice none 0 0,.slice none 0 0],35⟩ (by simp)
  have z2_0:=z2 0
  have z2_1:=z2 1
  have z2_2:=z2 2
  clear z2
  obtain ⟨⟨k3_0,k3_1,k3_2,-⟩,z3⟩:=hS.cz ⟨w.heap.size,#[.bool s,.slice a n cap,.int .i64 z],30⟩ (by simp)
  have z3_0:=z3 0
  have z3_1:=z3 1
  have z3_2:=z3 2
  clear z3
  simp only [] at k0_0 z0_0 k1_0 z1_0 k2_0 z2_0 k2_1 z2_1 k2_2 z2_2 k3_0 z3_0 k3_1 z3_1 k3_2 z3_2
  go_wp2
  have u1:=hS.cellAt (x:=⟨w.heap.size+1,#[.bool false,.slice none 0 0,.slice none 0 0],35⟩) (by simp) 0 (.bool false) rfl
  have y1:=hS.frozen (x:=⟨w.heap.size+1,#[.bool false,.slice none 0 0,.slice none 0 0],35⟩) (by simp) 0
  simp only [] at u1 y1
  replace hS:=hS.put (x:=⟨w.heap.size+1,#[.bool false,.slice none 0 0,.slice none 0 0],35⟩) (by simp) (by simp only []; omega) 0 (.bool s) (by simp) [⟨w.heap.size+1,#[.bool s,.slice none 0 0,.slice none 0 0],35⟩,⟨x3_g9,#[.slice x3_A5 x3_N5 x3_C5],28⟩,⟨w2.heap.size,#[.slice yA2 yN2 yC2],28⟩,⟨w.heap.size,#[.bool s,.slice a n cap,.int .i64 z],30⟩] (by intro y hy; rcases List.mem_cons.1 hy with rfl|hy; exact Or.inl rfl; rcases List.mem_cons.1 hy with rfl|hy; exact Or.inr ⟨by simp,by simp only []; omega⟩; rcases List.mem_cons.1 hy with rfl|hy; exact Or.inr ⟨by simp,by simp only []; omega⟩; rcases List.mem_cons.1 hy with rfl|hy; exact Or.inr ⟨by simp,by simp only []; omega⟩; exact absurd hy List.not_mem_nil)
  have u2:=hS.cellAt (x:=⟨w.heap.size+1,#[.bool s,.slice none 0 0,.slice none 0 0],35⟩) (by simp) 1 (.slice none 0 0) rfl
  have y2:=hS.frozen (x:=⟨w.heap.size+1,#[.bool s,.slice none 0 0,.slice none 0 0],35⟩) (by simp) 1
  simp only [] at u2 y2
  replace hS:=hS.put (x:=⟨w.heap.size+1,#[.bool s,.slice none 0 0,.slice none 0 0],35⟩) (by simp) (by simp only []; omega) 1 (.slice yA2 yN2 yC2) (by simp) [⟨w.heap.size+1,#[.bool s,.slice yA2 yN2 yC2,.slice none 0 0],35⟩,⟨x3_g9,#[.slice x3_A5 x3_N5 x3_C5],28⟩,⟨w2.heap.size,#[.slice yA2 yN2 yC2],28⟩,⟨w.heap.size,#[.bool s,.slice a n cap,.int .i64 z],30⟩] (by intro y hy; rcases List.mem_cons.1 hy with rfl|hy; exact Or.inl rfl; rcases List.mem_cons.1 hy with rfl|hy; exact Or.inr ⟨by simp,by simp only []; omega⟩; rcases List.mem_cons.1 hy with rfl|hy; exact Or.inr ⟨by simp,by simp only []; omega⟩; rcases List.mem_cons.1 hy with rfl|hy; exact Or.inr ⟨by simp,by simp only []; omega⟩; exact absurd hy List.not_mem_nil)
  have u3:=hS.cellAt (x:=⟨w.heap.size+1,#[.bool s,.slice yA2 yN2 yC2,.slice none 0 0],35⟩) (by simp) 2 (.slice none 0 0) rfl
  have y3:=hS.frozen (x:=⟨w.heap.size+1,#[.bool s,.slice yA2 yN2 yC2,.slice none 0 0],35⟩) (by simp) 2
  simp only [] at u3 y3
  replace hS:=hS.put (x:=⟨w.heap.size+1,#[.bool s,.slice yA2 yN2 yC2,.slice none 0 0],35⟩) (by simp) (by simp only []; omega) 2 (.slice x3_A5 x3_N5 x3_C5) (by simp) [⟨w.heap.size+1,#[.bool s,.slice yA2 yN2 yC2,.slice x3_A5 x3_N5 x3_C5],35⟩,⟨x3_g9,#[.slice x3_A5 x3_N5 x3_C5],28⟩,⟨w2.heap.size,#[.slice yA2 yN2 yC2],28⟩,⟨w.heap.size,#[.bool s,.slice a n cap,.int .i64 z],30⟩] (by intro y hy; rcases List.mem_cons.1 hy with rfl|hy; exact Or.inl rfl; rcases List.mem_cons.1 hy with rfl|hy; exact Or.inr ⟨by simp,by simp only []; omega⟩; rcases List.mem_cons.1 hy with rfl|hy; exact Or.inr ⟨by simp,by simp only []; omega⟩; rcases List.mem_cons.1 hy with rfl|hy; exact Or.inr ⟨by simp,by simp only []; omega⟩; exact absurd hy List.not_mem_nil)
  exact bodyPost_ret (v:=.tuple #[.agg #[.bool s,.slice yA2 yN2 yC2,.slice x3_A5 x3_N5 x3_C5],.int .i64 0]) (by simp [results,Tryz.results7,go_sem,k2_0,k2_1,k2_2]) rfl ⟨⟨_,_,_,_,_,_,rfl,hS.ow (yA2,yN2,yC2,V) (by simp),hS.ow (x3_A5,x3_N5,x3_C5,M) (by simp)⟩,hS.fr⟩
 ·simp
 ·exact ⟨⟨false,false,false,false,false,false,false,false,false,false,false,false,undef,undef,undef,undef,undef,undef,undef,undef,undef,undef,.int .i64 0,none,0,0,none,0,0,_,_⟩,rfl,rfl,⟨hC9,nb,nb,nb,nb,nb,nb,nb,nb,nb,nb,nb,nb,nb,nb,nb,nb,nb,nb,nb,nb,nb,nb,nb,nb,nb⟩⟩
theorem mine_caps {w:World} {B:Nat} {a:Option Addr} {n c m:Nat} (h:Mine w B a n c m):n≤c∧c≤9223372036854775807:=by
 obtain ⟨xs,hn,ho,_⟩:=h
 obtain ⟨a',c',e,h1,h2,_⟩:=ho.lim
 cases e
 exact ⟨by omega,h2⟩
theorem nratio_ok {s:Bool} {m:Nat} {x:Int} (hA:OkD s m x) {i j:Nat} (hi:max x 0 = (i:Int)) (hj:max (-x) 0 = (j:Int)) (hV:¬ Over (m * 2 ^ i)) (hM:¬ Over (1 * 2 ^ j)) (W:World) (A:Option Addr) (N C:Nat) (g:Num W A N m) :
  Calls Tryz.prog 7 #[.agg #[.bool s,.slice A N C,.int .i64 x]] W fun e w'=>(∃ A N C A' N' C',e = .returned (.tuple #[.agg #[.bool s,.slice A N C,.slice A' N' C'],.int .i64 0])∧Mine w' W.heap.size A N C (m * 2 ^ i)∧Mine w' W.heap.size A' N' C' (1 * 2 ^ j))∧Below W.heap.size W w':=by
 have hx:-1073741824≤x∧x≤1073741824:=by
  rcases hA with ⟨_,_,h⟩|⟨_,h⟩
  ·omega
  ·exact h
 have up:∀ {u t:Nat},¬ Over (u * 2 ^ t)→t < 9223372036854775808→∀ (W:World) (A:Option Addr) (N C:Nat),Num W A N u→Calls Tryz.prog 22 #[.agg #[.slice A N C],.int .i64 (t:Int)] W fun en W'=>(∃ a n c,en = .returned (.tuple #[.agg #[.slice a n c],.int .i64 0])∧Mine W' W.heap.size a n c (u * 2 ^ t))∧Below W.heap.size W W':=fun hn ht W A N C g=>by
  refine (up_any A N C _ _ W g ht).mono ?_
  rintro e w' ⟨h1,hb⟩
  rcases h1 with h1|⟨_,h1⟩
  ·exact ⟨h1,hb⟩
  ·exact absurd h1 hn
 exact xr_ok W s A N C m x i j _ _ 0 g hx hi hj rfl (hide fun W A N C g=>dcheck_dy s A N C m x W ⟨g,hA⟩) (hide (up hV (by omega))) (hide (up hM (by omega)))
end Go.Proofs.YtbbhlfngjoongaaGreatDoor
