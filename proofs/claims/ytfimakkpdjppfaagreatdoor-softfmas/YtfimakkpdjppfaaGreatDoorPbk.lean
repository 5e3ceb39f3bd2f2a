/- Of what SoftFmasRow stands on: NrTw NrRSum SxSum SxNou. -/
import Derived.Test.YtfimakkpdjppfaaGreatDoorPbe
import Derived.Test.YtfimakkpdjppfaaGreatDoorPbj
import Derived.Test.YtfimakkpdjppfaaGreatDoorPbh
namespace Go.Proofs.YtfimakkpdjppfaaGreatDoor
open Go.RowKit
set_option maxHeartbeats 4000000
set_option maxRecDepth 20000
theorem drcheck_dy (s:Bool) (a:Option Addr) (n cap m:Nat) (x:Int) (w:World) (h:Num w a n m) (hA:OkD s m x) :
  Calls Tryz.prog 37 #[.agg #[.bool s,.slice a n cap,.int .i64 x]] w fun e w'=>e = .returned (.int .i64 0)∧Below w.heap.size w w':=by
 have h0:=h.zero
 obtain ⟨xs,hn,hl,hw,hN,hv,hb⟩:=h
 have:=drcheck_any s a n cap xs x w hn (by omega) hl hw
 have hc:chk xs = 0:=chk_ok (by omega) hN
 have hd:dck s xs x = 0:=by
  unfold dck
  rw [if_neg (by rw [hc]; simp)]
  rw [hv,hn]
  rcases hA with ⟨h1,h2,h3⟩|⟨h1,h2,h3⟩
  ·rw [if_pos (h0.2 h1),if_neg (by rw [h2,h3]; simp)]
  ·rw [if_neg (by omega),if_neg (by unfold Far; omega)]
 rw [hd] at this
 exact this
theorem rtwo_ok (s:Bool) (a:Option Addr) (n cap m:Nat) (x:Int) (s':Bool) (a':Option Addr) (n' cap' m':Nat) (x':Int) (w:World) (h:Num w a n m) (h':Num w a' n' m') (hA:OkD s m x) (hB:OkD s' m' x') :
  Calls Tryz.prog 25 #[.agg #[.bool s,.slice a n cap,.int .i64 x],.agg #[.bool s',.slice a' n' cap',.int .i64 x']] w fun e w'=>e = .returned (.int .i64 0)∧Below w.heap.size w w':=by
 have H:=hide h
 have H':=hide h'
 clear h h'
 go_enter Tryz.func25,Tryz.ntmps25
 go_wp2_with fail
 refine (drcheck_dy s a n cap m x _ ((unhide H).kept (Fs.two w _ _ _ _).fr) hA).mono ?_
 rintro e w1 ⟨rfl,hb1⟩
 have hS:=(Fs.two w _ _ _ _).kept hb1
 obtain ⟨⟨ya,yb,yc,-⟩,⟨yd,ye,yf,-⟩,-⟩:=hS.cells
 go_wp2_with fail
 refine (drcheck_dy s' a' n' cap' m' x' _ ((unhide H').kept hS.fr) hB).mono ?_
 rintro e w2 ⟨rfl,hb2⟩
 replace hS:=hS.kept hb2
 clear ya yb yc yd ye yf
 obtain ⟨⟨yg,yh,yi,-⟩,⟨yj,yk,yl,-⟩,-⟩:=hS.cells
 go_wp2
 go_ret
 exact ⟨rfl,hS.fr⟩
theorem rnone_0 (a:Option Addr) (cap:Nat) (w:World)  :
  Calls Tryz.prog 26 #[.agg #[.slice a 0 cap]] w fun e w'=>e = .returned (.bool true)∧Below w.heap.size w w':=by
 go_enter Tryz.func26,Tryz.ntmps26
 go_wp2
 go_ret
 exact ⟨rfl,(Fs.one w _ _).fr⟩
theorem rnone_n (a:Option Addr) (n cap:Nat) (hn:((n:Int) == 0) = false) (w:World)  :
  Calls Tryz.prog 26 #[.agg #[.slice a n cap]] w fun e w'=>e = .returned (.bool false)∧Below w.heap.size w w':=by
 go_enter Tryz.func26,Tryz.ntmps26
 go_wp2
 go_ret
 exact ⟨rfl,(Fs.one w _ _).fr⟩
theorem rtwin4 (s:Bool) (a:Option Addr) (n cap m:Nat) (x:Int) (w:World) (h:Num w a n m) (HT:Hid (∀ W:World,Num W a n m→Calls Tryz.prog 62 #[.agg #[.slice a n cap]] W fun e w'=>(∃ A N C,e = .returned (.agg #[.slice A N C])∧Mine w' W.heap.size A N C m)∧Below W.heap.size W w')) :
  Calls Tryz.prog 45 #[.agg #[.bool s,.slice a n cap,.int .i64 x]] w fun e w'=>(∃ A N C,e = .returned (.agg #[.bool s,.slice A N C,.int .i64 x])∧Mine w' w.heap.size A N C m)∧Below w.heap.size w w':=by
 have H:=hide h
 clear h
 go_enter Tryz.func45,Tryz.ntmps45
 go_wp2_with fail
 refine (unhide HT _ ((unhide H).kept (Fs.two w _ _ _ _).fr)).mono ?_
 rintro e w1 ⟨⟨A1,N1,C1,rfl,f1⟩,hb1⟩
 have hS:=(Fs.two w _ _ _ _).kept hb1
 obtain ⟨⟨ya,yb,yc,-⟩,⟨yd,ye,yf,-⟩,-⟩:=hS.cells
 have G1:=hide (f1.mono (base':=w.heap.size+2) (by simp))
 clear f1
 have Q_:=hS.frozen (b:=w.heap.size) (cs:=#[.bool s,.slice a n cap,.int .i64 x]) (t:=46) (by simp)
 have fb0:=Q_ 0
 have fb1:=Q_ 1
 have fb2:=Q_ 2
 clear Q_
 have Q_:=hS.frozen (b:=w.heap.size+1) (cs:=#[.bool false,.slice none 0 0,.int .i64 0]) (t:=46) (by simp)
 have fz0:=Q_ 0
 have fz1:=Q_ 1
 have fz2:=Q_ 2
 clear Q_
 go_wp2
 exact bodyPost_ret (v:=.agg #[.bool s,.slice A1 N1 C1,.int .i64 x]) (by simp [results,Tryz.results45,go_sem,yd,ye,yf]) rfl ⟨⟨_,_,_,rfl,Mine.mono (((((unhide G1).set (by simp) _).set (by simp) _).set (by simp) _).set (by simp) _) (by omega)⟩,(((hS.fr.setCell (by simp) _).setCell (by simp) _).setCell (by simp) _).setCell (by simp) _⟩
theorem radd_left (s:Bool) (a:Option Addr) (cap m:Nat) (x:Int) (s':Bool) (a':Option Addr) (n' cap' m':Nat) (x':Int)  (w:World) (h:Num w a 0 m) (h':Num w a' n' m') (HT:Hid (∀ W:World,Num W a 0 m→Num W a' n' m'→Calls Tryz.prog 25 #[.agg #[.bool s,.slice a 0 cap,.int .i64 x],.agg #[.bool s',.slice a' n' cap',.int .i64 x']] W fun e w'=>e = .returned (.int .i64 0)∧Below W.heap.size W w')) (HW:Hid (∀ W:World,Num W a' n' m'→Calls Tryz.prog 62 #[.agg #[.slice a' n' cap']] W fun e w'=>(∃ A N C,e = .returned (.agg #[.slice A N C])∧Mine w' W.heap.size A N C m')∧Below W.heap.size W w')) :
  Calls Tryz.prog 29 #[.agg #[.bool s,.slice a 0 cap,.int .i64 x],.agg #[.bool s',.slice a' n' cap',.int .i64 x']] w fun e w'=>(∃ A N C,e = .returned (.tuple #[.agg #[.bool s',.slice A N C,.int .i64 x'],.int .i64 0])∧Mine w' w.heap.size A N C m')∧Below w.heap.size w w':=by
 have H:=hide h
 have H':=hide h'
 clear h h'
 go_enter Tryz.func29,Tryz.ntmps29
 go_wp2_with fail
 refine (unhide HT _ ((unhide H).kept (Fs.three w _ _ _ _ _ _).fr) ((unhide H').kept (Fs.three w _ _ _ _ _ _).fr)).mono ?_
 rintro e w1 ⟨rfl,hb1⟩
 have hS:=(Fs.three w _ _ _ _ _ _).kept hb1
 obtain ⟨⟨ya,yb,yc,-⟩,⟨yd,ye,yf,-⟩,⟨yg,yh,yi,-⟩,-⟩:=hS.cells
 go_wp2_with fail
 refine (rnone_0 a cap _).mono ?_
 rintro e w2 ⟨rfl,hb2⟩
 replace hS:=hS.kept hb2
 clear ya yb yc yd ye yf yg yh yi
 obtain ⟨⟨yj,yk,yl,-⟩,⟨ym,yn,yo,-⟩,⟨yp,yq,yr,-⟩,-⟩:=hS.cells
 have hltw2_0:w.heap.size < w2.heap.size:=hS.lt 0 rfl
 have hltw2_1:w.heap.size+1 < w2.heap.size:=hS.lt 1 rfl
 have hltw2_2:w.heap.size+2 < w2.heap.size:=hS.lt 2 rfl
 go_wp2_with fail
 refine (rtwin4 s' a' n' cap' m' x' _ ((unhide H').kept hS.fr) HW).mono ?_
 rintro e w3 ⟨⟨A1,N1,C1,rfl,f1⟩,hb3⟩
 replace hS:=hS.kept hb3
 clear yj yk yl ym yn yo yp yq yr
 obtain ⟨⟨ys,yt,yu,-⟩,⟨yv,yw,yx,-⟩,⟨yy,yz,y0,-⟩,-⟩:=hS.cells
 have G1:=hide (f1.mono (base':=w.heap.size+3) hltw2_2)
 clear f1
 have Q_:=hS.frozen (b:=w.heap.size+2) (cs:=#[.bool false,.slice none 0 0,.int .i64 0]) (t:=46) (by simp)
 have fz0:=Q_ 0
 have fz1:=Q_ 1
 have fz2:=Q_ 2
 clear Q_
 go_wp2
 exact bodyPost_ret (v:=.tuple #[.agg #[.bool s',.slice A1 N1 C1,.int .i64 x'],.int .i64 0]) (by simp [results,Tryz.results29,go_sem,yy,yz,y0]) rfl ⟨⟨_,_,_,rfl,Mine.mono ((((unhide G1).set (by simp) _).set (by simp) _).set (by simp) _) (by omega)⟩,((hS.fr.setCell (by simp <;> omega) _).setCell (by simp <;> omega) _).setCell (by simp <;> omega) _⟩
theorem radd_right (s:Bool) (a:Option Addr) (n cap m:Nat) (x:Int) (s':Bool) (a':Option Addr) (cap' m':Nat) (x':Int) (hn:((n:Int) == 0) = false) (w:World) (h:Num w a n m) (h':Num w a' 0 m') (HT:Hid (∀ W:World,Num W a n m→Num W a' 0 m'→Calls Tryz.prog 25 #[.agg #[.bool s,.slice a n cap,.int .i64 x],.agg #[.bool s',.slice a' 0 cap',.int .i64 x']] W fun e w'=>e = .returned (.int .i64 0)∧Below W.heap.size W w')) (HW:Hid (∀ W:World,Num W a n m→Calls Tryz.prog 62 #[.agg #[.slice a n cap]] W fun e w'=>(∃ A N C,e = .returned (.agg #[.slice A N C])∧Mine w' W.heap.size A N C m)∧Below W.heap.size W w')) :
  Calls Tryz.prog 29 #[.agg #[.bool s,.slice a n cap,.int .i64 x],.agg #[.bool s',.slice a' 0 cap',.int .i64 x']] w fun e w'=>(∃ A N C,e = .returned (.tuple #[.agg #[.bool s,.slice A N C,.int .i64 x],.int .i64 0])∧Mine w' w.heap.size A N C m)∧Below w.heap.size w w':=by
 have H:=hide h
 have H':=hide h'
 clear h h'
 go_enter Tryz.func29,Tryz.ntmps29
 go_wp2_with fail
 refine (unhide HT _ ((unhide H).kept (Fs.three w _ _ _ _ _ _).fr) ((unhide H').kept (Fs.three w _ _ _ _ _ _).fr)).mono ?_
 rintro e w1 ⟨rfl,hb1⟩
 have hS:=(Fs.three w _ _ _ _ _ _).kept hb1
 obtain ⟨⟨ya,yb,yc,-⟩,⟨yd,ye,yf,-⟩,⟨yg,yh,yi,-⟩,-⟩:=hS.cells
 go_wp2_with fail
 refine (rnone_n a n cap hn _).mono ?_
 rintro e w2 ⟨rfl,hb2⟩
 replace hS:=hS.kept hb2
 clear ya yb yc yd ye yf yg yh yi
 obtain ⟨⟨yj,yk,yl,-⟩,⟨ym,yn,yo,-⟩,⟨yp,yq,yr,-⟩,-⟩:=hS.cells
 go_wp2_with fail
 refine (rnone_0 a' cap' _).mono ?_
 rintro e w3 ⟨rfl,hb3⟩
 replace hS:=hS.kept hb3
 clear yj yk yl ym yn yo yp yq yr
 obtain ⟨⟨ys,yt,yu,-⟩,⟨yv,yw,yx,-⟩,⟨yy,yz,y0,-⟩,-⟩:=hS.cells
 have hltw3_0:w.heap.size < w3.heap.size:=hS.lt 0 rfl
 have hltw3_1:w.heap.size+1 < w3.heap.size:=hS.lt 1 rfl
 have hltw3_2:w.heap.size+2 < w3.heap.size:=hS.lt 2 rfl
 go_wp2_with fail
 refine (rtwin4 s a n cap m x _ ((unhide H).kept hS.fr) HW).mono ?_
 rintro e w4 ⟨⟨A1,N1,C1,rfl,f1⟩,hb4⟩
 replace hS:=hS.kept hb4
 clear ys yt yu yv yw yx yy yz y0
 obtain ⟨⟨y1,y2,y3,-⟩,⟨y4,y5,y6,-⟩,⟨y7,y8,y9,-⟩,-⟩:=hS.cells
 have G1:=hide (f1.mono (base':=w.heap.size+3) hltw3_2)
 clear f1
 have Q_:=hS.frozen (b:=w.heap.size+2) (cs:=#[.bool false,.slice none 0 0,.int .i64 0]) (t:=46) (by simp)
 have fz0:=Q_ 0
 have fz1:=Q_ 1
 have fz2:=Q_ 2
 clear Q_
 go_wp2
 exact bodyPost_ret (v:=.tuple #[.agg #[.bool s,.slice A1 N1 C1,.int .i64 x],.int .i64 0]) (by simp [results,Tryz.results29,go_sem,y7,y8,y9]) rfl ⟨⟨_,_,_,rfl,Mine.mono ((((unhide G1).set (by simp) _).set (by simp) _).set (by simp) _) (by omega)⟩,((hS.fr.setCell (by simp <;> omega) _).setCell (by simp <;> omega) _).setCell (by simp <;> omega) _⟩
theorem radd_same (s:Bool) (a:Option Addr) (n cap m:Nat) (x:Int) (a':Option Addr) (n' cap' m':Nat) (x':Int) (t:Int) (i j P Q v:Nat) (r:Bool) (v2:Nat) (y:Int) (hn:((n:Int) == 0) = false) (hn':((n':Int) == 0) = false) (ht:min x x' = t) (hi:x - t = (i:Int)) (hj:x' - t = (j:Int)) (hx:-1073741824≤x∧x≤1073741824) (hx':-1073741824≤x'∧x'≤1073741824)  (w:World) (h:Num w a n m) (h':Num w a' n' m') (HT:Hid (∀ W:World,Num W a n m→Num W a' n' m'→Calls Tryz.prog 25 #[.agg #[.bool s,.slice a n cap,.int .i64 x],.agg #[.bool s,.slice a' n' cap',.int .i64 x']] W fun e w'=>e = .returned (.int .i64 0)∧Below W.heap.size W w')) (HU:Hid (∀ (W:World) (A:Option Addr) (N C:Nat),Num W A N m→Calls Tryz.prog 46 #[.agg #[.slice A N C],.int .i64 (i:Int)] W fun e w'=>(∃ A N C,e = .returned (.tuple #[.agg #[.slice A N C],.int .i64 0])∧Mine w' W.heap.size A N C P)∧Below W.heap.size W w')) (HV:Hid (∀ (W:World) (A:Option Addr) (N C:Nat),Num W A N m'→Calls Tryz.prog 46 #[.agg #[.slice A N C],.int .i64 (j:Int)] W fun e w'=>(∃ A N C,e = .returned (.tuple #[.agg #[.slice A N C],.int .i64 0])∧Mine w' W.heap.size A N C Q)∧Below W.heap.size W w')) (HA:Hid (∀ (W:World) (A:Option Addr) (N C:Nat) (A':Option Addr) (N' C':Nat),Num W A N P→Num W A' N' Q→Calls Tryz.prog 47 #[.agg #[.slice A N C],.agg #[.slice A' N' C']] W fun e w'=>(∃ A N C,e = .returned (.tuple #[.agg #[.slice A N C],.int .i64 0])∧Mine w' W.heap.size A N C v)∧Below W.heap.size W w')) (HM:Hid (∀ (W:World) (A:Option Addr) (N C:Nat),Num W A N v→Calls Tryz.prog 28 #[.bool s,.agg #[.slice A N C],.int .i64 t] W fun e w'=>(∃ A N C,e = .returned (.tuple #[.agg #[.bool r,.slice A N C,.int .i64 y],.int .i64 0])∧Mine w' W.heap.size A N C v2)∧Below W.heap.size W w')) :
  Calls Tryz.prog 29 #[.agg #[.bool s,.slice a n cap,.int .i64 x],.agg #[.bool s,.slice a' n' cap',.int .i64 x']] w fun e w'=>(∃ A N C,e = .returned (.tuple #[.agg #[.bool r,.slice A N C,.int .i64 y],.int .i64 0])∧Mine w' w.heap.size A N C v2)∧Below w.heap.size w w':=by
 have H:=hide h
 have H':=hide h'
 clear h h'
 go_enter Tryz.func29,Tryz.ntmps29
 go_wp2_with fail
 refine (unhide HT _ ((unhide H).kept (Fs.three w _ _ _ _ _ _).fr) ((unhide H').kept (Fs.three w _ _ _ _ _ _).fr)).mono ?_
 rintro e w1 ⟨rfl,hb1⟩
 have hS:=(Fs.three w _ _ _ _ _ _).kept hb1
 obtain ⟨⟨ya,yb,yc,-⟩,⟨yd,ye,yf,-⟩,⟨yg,yh,yi,-⟩,-⟩:=hS.cells
 go_wp2_with fail
 refine (rnone_n a n cap hn _).mono ?_
 rintro e w2 ⟨rfl,hb2⟩
 replace hS:=hS.kept hb2
 clear ya yb yc yd ye yf yg yh yi
 obtain ⟨⟨yj,yk,yl,-⟩,⟨ym,yn,yo,-⟩,⟨yp,yq,yr,-⟩,-⟩:=hS.cells
 go_wp2_with fail
 refine (rnone_n a' n' cap' hn' _).mono ?_
 rintro e w3 ⟨rfl,hb3⟩
 replace hS:=hS.kept hb3
 clear yj yk yl ym yn yo yp yq yr
 obtain ⟨⟨ys,yt,yu,-⟩,⟨yv,yw,yx,-⟩,⟨yy,yz,y0,-⟩,-⟩:=hS.cells
 have hltw3_0:w.heap.size < w3.heap.size:=hS.lt 0 rfl
 have hltw3_1:w.heap.size+1 < w3.heap.size:=hS.lt 1 rfl
 have hltw3_2:w.heap.size+2 < w3.heap.size:=hS.lt 2 rfl
 go_wp2_with fail
 refine (unhide HU _ _ _ _ ((unhide H).kept hS.fr)).mono ?_
 rintro e w4 ⟨⟨A1,N1,C1,rfl,f1⟩,hb4⟩
 replace hS:=hS.kept hb4
 clear ys yt yu yv yw yx yy yz y0
 obtain ⟨⟨y1,y2,y3,-⟩,⟨y4,y5,y6,-⟩,⟨y7,y8,y9,-⟩,-⟩:=hS.cells
 have G1:=hide (f1.mono (base':=w.heap.size+3) hltw3_2)
 clear f1
 have hltw4_0:w.heap.size < w4.heap.size:=hS.lt 0 rfl
 have hltw4_1:w.heap.size+1 < w4.heap.size:=hS.lt 1 rfl
 have hltw4_2:w.heap.size+2 < w4.heap.size:=hS.lt 2 rfl
 obtain ⟨WA,hWA⟩:∃ WA,w4.alloc (.cells #[.slice A1 N1 C1] 44) = WA:=⟨_,rfl⟩
 replace hS:=hS.alloc #[.slice A1 N1 C1] 44
 rw [hWA] at hS
 replace G1:=hide (hWA▸(unhide G1).alloc (.cells #[.slice A1 N1 C1] 44))
 clear y1 y2 y3 y4 y5 y6 y7 y8 y9
 obtain ⟨⟨yba,-⟩,⟨ybb,ybc,ybd,-⟩,⟨ybe,ybf,ybg,-⟩,⟨ybh,ybi,ybj,-⟩,-⟩:=hS.cells
 have hltWA_0:w4.heap.size < WA.heap.size:=hS.lt 0 rfl
 have hltWA_1:w.heap.size < WA.heap.size:=hS.lt 1 rfl
 have hltWA_2:w.heap.size+1 < WA.heap.size:=hS.lt 2 rfl
 have hltWA_3:w.heap.size+2 < WA.heap.size:=hS.lt 3 rfl
 go_wp2_with fail
 refine (unhide HV _ _ _ _ ((unhide H').kept hS.fr)).mono ?_
 rintro e w5 ⟨⟨A2,N2,C2,rfl,f2⟩,hb5⟩
 replace hS:=hS.kept hb5
 clear yba ybb ybc ybd ybe ybf ybg ybh ybi ybj
 obtain ⟨⟨ybk,-⟩,⟨ybl,ybm,ybn,-⟩,⟨ybo,ybp,ybq,-⟩,⟨ybr,ybs,ybt,-⟩,-⟩:=hS.cells
 replace G1:=hide ((unhide G1).kept hb5)
 have G2:=hide (f2.mono (base':=w.heap.size+3) hltWA_3)
 clear f2
 have hltw5_0:w4.heap.size < w5.heap.size:=hS.lt 0 rfl
 have hltw5_1:w.heap.size < w5.heap.size:=hS.lt 1 rfl
 have hltw5_2:w.heap.size+1 < w5.heap.size:=hS.lt 2 rfl
 have hltw5_3:w.heap.size+2 < w5.heap.size:=hS.lt 3 rfl
 obtain ⟨WB,hWB⟩:∃ WB,w5.alloc (.cells #[.slice A2 N2 C2] 44) = WB:=⟨_,rfl⟩
 replace hS:=hS.alloc #[.slice A2 N2 C2] 44
 rw [hWB] at hS
 replace G1:=hide (hWB▸(unhide G1).alloc (.cells #[.slice A2 N2 C2] 44))
 replace G2:=hide (hWB▸(unhide G2).alloc (.cells #[.slice A2 N2 C2] 44))
 clear ybk ybl ybm ybn ybo ybp ybq ybr ybs ybt
 obtain ⟨⟨ybu,-⟩,⟨ybv,-⟩,⟨ybw,ybx,yby,-⟩,⟨ybz,yb0,yb1,-⟩,⟨yb2,yb3,yb4,-⟩,-⟩:=hS.cells
 have hltWB_0:w5.heap.size < WB.heap.size:=hS.lt 0 rfl
 have hltWB_1:w4.heap.size < WB.heap.size:=hS.lt 1 rfl
 have hltWB_2:w.heap.size < WB.heap.size:=hS.lt 2 rfl
 have hltWB_3:w.heap.size+1 < WB.heap.size:=hS.lt 3 rfl
 have hltWB_4:w.heap.size+2 < WB.heap.size:=hS.lt 4 rfl
 go_wp2_with fail
 refine (unhide HA _ _ _ _ _ _ _ (unhide G1).num (unhide G2).num).mono ?_
 rintro e w6 ⟨⟨A3,N3,C3,rfl,f3⟩,hb6⟩
 replace hS:=hS.kept hb6
 clear ybu ybv ybw ybx yby ybz yb0 yb1 yb2 yb3 yb4
 obtain ⟨⟨yb5,-⟩,⟨yb6,-⟩,⟨yb7,yb8,yb9,-⟩,⟨yca,ycb,ycc,-⟩,⟨ycd,yce,ycf,-⟩,-⟩:=hS.cells
 replace G1:=hide ((unhide G1).kept hb6)
 replace G2:=hide ((unhide G2).kept hb6)
 have G3:=hide (f3.mono (base':=w.heap.size+3) hltWB_4)
 clear f3
 have hltw6_0:w5.heap.size < w6.heap.size:=hS.lt 0 rfl
 have hltw6_1:w4.heap.size < w6.heap.size:=hS.lt 1 rfl
 have hltw6_2:w.heap.size < w6.heap.size:=hS.lt 2 rfl
 have hltw6_3:w.heap.size+1 < w6.heap.size:=hS.lt 3 rfl
 have hltw6_4:w.heap.size+2 < w6.heap.size:=hS.lt 4 rfl
 obtain ⟨WC,hWC⟩:∃ WC,w6.alloc (.cells #[.slice A3 N3 C3] 44) = WC:=⟨_,rfl⟩
 replace hS:=hS.alloc #[.slice A3 N3 C3] 44
 rw [hWC] at hS
 replace G1:=hide (hWC▸(unhide G1).alloc (.cells #[.slice A3 N3 C3] 44))
 replace G2:=hide (hWC▸(unhide G2).alloc (.cells #[.slice A3 N3 C3] 44))
 replace G3:=hide (hWC▸(unhide G3).alloc (.cells #[.slice A3 N3 C3] 44))
 clear yb5 yb6 yb7 yb8 yb9 yca ycb ycc ycd yce ycf
 obtain ⟨⟨ycg,-⟩,⟨ych,-⟩,⟨yci,-⟩,⟨ycj,yck,ycl,-⟩,⟨ycm,ycn,yco,-⟩,⟨ycp,ycq,ycr,-⟩,-⟩:=hS.cells
 have hltWC_0:w6.heap.size < WC.heap.size:=hS.lt 0 rfl
 have hltWC_1:w5.heap.size < WC.heap.size:=hS.lt 1 rfl
 have hltWC_2:w4.heap.size < WC.heap.size:=hS.lt 2 rfl
 have hltWC_3:w.heap.size < WC.heap.size:=hS.lt 3 rfl
 have hltWC_4:w.heap.size+1 < WC.heap.size:=hS.lt 4 rfl
 have hltWC_5:w.heap.size+2 < WC.heap.size:=hS.lt 5 rfl
 go_wp2_with fail
 refine (unhide HM _ _ _ _ (unhide G3).num).mono ?_
 rintro e w7 ⟨⟨A4,N4,C4,rfl,f4⟩,hb7⟩
 replace hS:=hS.kept hb7
 clear ycg ych yci ycj yck ycl ycm ycn yco ycp ycq ycr
 obtain ⟨⟨ycs,-⟩,⟨yct,-⟩,⟨ycu,-⟩,⟨ycv,ycw,ycx,-⟩,⟨ycy,ycz,yc0,-⟩,⟨yc1,yc2,yc3,-⟩,-⟩:=hS.cells
 replace G1:=hide ((unhide G1).kept hb7)
 replace G2:=hide ((unhide G2).kept hb7)
 replace G3:=hide ((unhide G3).kept hb7)
 have G4:=hide (f4.mono (base':=w.heap.size+3) hltWC_5)
 clear f4
 have Q_:=hS.frozen (b:=w.heap.size+2) (cs:=#[.bool false,.slice none 0 0,.int .i64 0]) (t:=46) (by simp)
 have fz0:=Q_ 0
 have fz1:=Q_ 1
 have fz2:=Q_ 2
 clear Q_
 go_wp2
 exact bodyPost_ret (v:=.tuple #[.agg #[.bool r,.slice A4 N4 C4,.int .i64 y],.int .i64 0]) (by simp [results,Tryz.results29,go_sem,yc1,yc2,yc3]) rfl ⟨⟨_,_,_,rfl,Mine.mono ((((unhide G4).set (by simp) _).set (by simp) _).set (by simp) _) (by omega)⟩,((hS.fr.setCell (by simp <;> omega) _).setCell (by simp <;> omega) _).setCell (by simp <;> omega) _⟩
theorem radd_lt (s:Bool) (a:Option Addr) (n cap m:Nat) (x:Int) (s':Bool) (a':Option Addr) (n' cap' m':Nat) (x':Int) (t:Int) (i j P Q v:Nat) (r:Bool) (v2:Nat) (y:Int) (hn:((n:Int) == 0) = false) (hn':((n':Int) == 0) = false) (ht:min x x' = t) (hi:x - t = (i:Int)) (hj:x' - t = (j:Int)) (hx:-1073741824≤x∧x≤1073741824) (hx':-1073741824≤x'∧x'≤1073741824)  (w:World) (h:Num w a n m) (h':Num w a' n' m') (hs:(s == s') = false) (HT:Hid (∀ W:World,Num W a n m→Num W a' n' m'→Calls Tryz.prog 25 #[.agg #[.bool s,.slice a n cap,.int .i64 x],.agg #[.bool s',.slice a' n' cap',.int .i64 x']] W fun e w'=>e = .returned (.int .i64 0)∧Below W.heap.size W w')) (HU:Hid (∀ (W:World) (A:Option Addr) (N C:Nat),Num W A N m→Calls Tryz.prog 46 #[.agg #[.slice A N C],.int .i64 (i:Int)] W fun e w'=>(∃ A N C,e = .returned (.tuple #[.agg #[.slice A N C],.int .i64 0])∧Mine w' W.heap.size A N C P)∧Below W.heap.size W w')) (HV:Hid (∀ (W:World) (A:Option Addr) (N C:Nat),Num W A N m'→Calls Tryz.prog 46 #[.agg #[.slice A N C],.int .i64 (j:Int)] W fun e w'=>(∃ A N C,e = .returned (.tuple #[.agg #[.slice A N C],.int .i64 0])∧Mine w' W.heap.size A N C Q)∧Below W.heap.size W w')) (c:Int) (HC:Hid (∀ (W:World) (A:Option Addr) (N C:Nat) (A':Option Addr) (N' C':Nat),Num W A N P→Num W A' N' Q→Calls Tryz.prog 48 #[.agg #[.slice A N C],.agg #[.slice A' N' C']] W fun e w'=>e = .returned (.tuple #[.int .i64 c,.int .i64 0])∧Below W.heap.size W w')) (hc:c < 0) (HA:Hid (∀ (W:World) (A:Option Addr) (N C:Nat) (A':Option Addr) (N' C':Nat),Num W A N Q→Num W A' N' P→Calls Tryz.prog 49 #[.agg #[.slice A N C],.agg #[.slice A' N' C']] W fun e w'=>(∃ A N C,e = .returned (.tuple #[.agg #[.slice A N C],.bool true,.int .i64 0])∧Mine w' W.heap.size A N C v)∧Below W.heap.size W w')) (HM:Hid (∀ (W:World) (A:Option Addr) (N C:Nat),Num W A N v→Calls Tryz.prog 28 #[.bool s',.agg #[.slice A N C],.int .i64 t] W fun e w'=>(∃ A N C,e = .returned (.tuple #[.agg #[.bool r,.slice A N C,.int .i64 y],.int .i64 0])∧Mine w' W.heap.size A N C v2)∧Below W.heap.size W w')) :
  Calls Tryz.prog 29 #[.agg #[.bool s,.slice a n cap,.int .i64 x],.agg #[.bool s',.slice a' n' cap',.int .i64 x']] w fun e w'=>(∃ A N C,e = .returned (.tuple #[.agg #[.bool r,.slice A N C,.int .i64 y],.int .i64 0])∧Mine w' w.heap.size A N C v2)∧Below w.heap.size w w':=by
 have H:=hide h
 have H':=hide h'
 clear h h'
 go_enter Tryz.func29,Tryz.ntmps29
 go_wp2_with fail
 refine (unhide HT _ ((unhide H).kept (Fs.three w _ _ _ _ _ _).fr) ((unhide H').kept (Fs.three w _ _ _ _ _ _).fr)).mono ?_
 rintro e w1 ⟨rfl,hb1⟩
 have hS:=(Fs.three w _ _ _ _ _ _).kept hb1
 obtain ⟨⟨ya,yb,yc,-⟩,⟨yd,ye,yf,-⟩,⟨yg,yh,yi,-⟩,-⟩:=hS.cells
 go_wp2_with fail
 refine (rnone_n a n cap hn _).mono ?_
 rintro e w2 ⟨rfl,hb2⟩
 replace hS:=hS.kept hb2
 clear ya yb yc yd ye yf yg yh yi
 obtain ⟨⟨yj,yk,yl,-⟩,⟨ym,yn,yo,-⟩,⟨yp,yq,yr,-⟩,-⟩:=hS.cells
 go_wp2_with fail
 refine (rnone_n a' n' cap' hn' _).mono ?_
 rintro e w3 ⟨rfl,hb3⟩
 replace hS:=hS.kept hb3
 clear yj yk yl ym yn yo yp yq yr
 obtain ⟨⟨ys,yt,yu,-⟩,⟨yv,yw,yx,-⟩,⟨yy,yz,y0,-⟩,-⟩:=hS.cells
 have hltw3_0:w.heap.size < w3.heap.size:=hS.lt 0 rfl
 have hltw3_1:w.heap.size+1 < w3.heap.size:=hS.lt 1 rfl
 have hltw3_2:w.heap.size+2 < w3.heap.size:=hS.lt 2 rfl
 go_wp2_with fail
 refine (unhide HU _ _ _ _ ((unhide H).kept hS.fr)).mono ?_
 rintro e w4 ⟨⟨A1,N1,C1,rfl,f1⟩,hb4⟩
 replace hS:=hS.kept hb4
 clear ys yt yu yv yw yx yy yz y0
 obtain ⟨⟨y1,y2,y3,-⟩,⟨y4,y5,y6,-⟩,⟨y7,y8,y9,-⟩,-⟩:=hS.cells
 have G1:=hide (f1.mono (base':=w.heap.size+3) hltw3_2)
 clear f1
 have hltw4_0:w.heap.size < w4.heap.size:=hS.lt 0 rfl
 have hltw4_1:w.heap.size+1 < w4.heap.size:=hS.lt 1 rfl
 have hltw4_2:w.heap.size+2 < w4.heap.size:=hS.lt 2 rfl
 obtain ⟨WA,hWA⟩:∃ WA,w4.alloc (.cells #[.slice A1 N1 C1] 44) = WA:=⟨_,rfl⟩
 replace hS:=hS.alloc #[.slice A1 N1 C1] 44
 rw [hWA] at hS
 replace G1:=hide (hWA▸(unhide G1).alloc (.cells #[.slice A1 N1 C1] 44))
 clear y1 y2 y3 y4 y5 y6 y7 y8 y9
 obtain ⟨⟨yba,-⟩,⟨ybb,ybc,ybd,-⟩,⟨ybe,ybf,ybg,-⟩,⟨ybh,ybi,ybj,-⟩,-⟩:=hS.cells
 have hltWA_0:w4.heap.size < WA.heap.size:=hS.lt 0 rfl
 have hltWA_1:w.heap.size < WA.heap.size:=hS.lt 1 rfl
 have hltWA_2:w.heap.size+1 < WA.heap.size:=hS.lt 2 rfl
 have hltWA_3:w.heap.size+2 < WA.heap.size:=hS.lt 3 rfl
 go_wp2_with fail
 refine (unhide HV _ _ _ _ ((unhide H').kept hS.fr)).mono ?_
 rintro e w5 ⟨⟨A2,N2,C2,rfl,f2⟩,hb5⟩
 replace hS:=hS.kept hb5
 clear yba ybb ybc ybd ybe ybf ybg ybh ybi ybj
 obtain ⟨⟨ybk,-⟩,⟨ybl,ybm,ybn,-⟩,⟨ybo,ybp,ybq,-⟩,⟨ybr,ybs,ybt,-⟩,-⟩:=hS.cells
 replace G1:=hide ((unhide G1).kept hb5)
 have G2:=hide (f2.mono (base':=w.heap.size+3) hltWA_3)
 clear f2
 have hltw5_0:w4.heap.size < w5.heap.size:=hS.lt 0 rfl
 have hltw5_1:w.heap.size < w5.heap.size:=hS.lt 1 rfl
 have hltw5_2:w.heap.size+1 < w5.heap.size:=hS.lt 2 rfl
 have hltw5_3:w.heap.size+2 < w5.heap.size:=hS.lt 3 rfl
 obtain ⟨WB,hWB⟩:∃ WB,w5.alloc (.cells #[.slice A2 N2 C2] 44) = WB:=⟨_,rfl⟩
 replace hS:=hS.alloc #[.slice A2 N2 C2] 44
 rw [hWB] at hS
 replace G1:=hide (hWB▸(unhide G1).alloc (.cells #[.slice A2 N2 C2] 44))
 replace G2:=hide (hWB▸(unhide G2).alloc (.cells #[.slice A2 N2 C2] 44))
 clear ybk ybl ybm ybn ybo ybp ybq ybr ybs ybt
 obtain ⟨⟨ybu,-⟩,⟨ybv,-⟩,⟨ybw,ybx,yby,-⟩,⟨ybz,yb0,yb1,-⟩,⟨yb2,yb3,yb4,-⟩,-⟩:=hS.cells
 go_wp2_with fail
 refine (unhide HC _ _ _ _ _ _ _ (unhide G1).num (unhide G2).num).mono ?_
 rintro e w6 ⟨rfl,hb6⟩
 replace hS:=hS.kept hb6
 clear ybu ybv ybw ybx yby ybz yb0 yb1 yb2 yb3 yb4
 obtain ⟨⟨yb5,-⟩,⟨yb6,-⟩,⟨yb7,yb8,yb9,-⟩,⟨yca,ycb,ycc,-⟩,⟨ycd,yce,ycf,-⟩,-⟩:=hS.cells
 replace G1:=hide ((unhide G1).kept hb6)
 replace G2:=hide ((unhide G2).kept hb6)
 have hltw6_0:w5.heap.size < w6.heap.size:=hS.lt 0 rfl
 have hltw6_1:w4.heap.size < w6.heap.size:=hS.lt 1 rfl
 have hltw6_2:w.heap.size < w6.heap.size:=hS.lt 2 rfl
 have hltw6_3:w.heap.size+1 < w6.heap.size:=hS.lt 3 rfl
 have hltw6_4:w.heap.size+2 < w6.heap.size:=hS.lt 4 rfl
 go_wp2_with fail
 refine (unhide HA _ _ _ _ _ _ _ (unhide G2).num (unhide G1).num).mono ?_
 rintro e w7 ⟨⟨A3,N3,C3,rfl,f3⟩,hb7⟩
 replace hS:=hS.kept hb7
 clear yb5 yb6 yb7 yb8 yb9 yca ycb ycc ycd yce ycf
 obtain ⟨⟨ycg,-⟩,⟨ych,-⟩,⟨yci,ycj,yck,-⟩,⟨ycl,ycm,ycn,-⟩,⟨yco,ycp,ycq,-⟩,-⟩:=hS.cells
 replace G1:=hide ((unhide G1).kept hb7)
 replace G2:=hide ((unhide G2).kept hb7)
 have G3:=hide (f3.mono (base':=w.heap.size+3) hltw6_4)
 clear f3
 have hltw7_0:w5.heap.size < w7.heap.size:=hS.lt 0 rfl
 have hltw7_1:w4.heap.size < w7.heap.size:=hS.lt 1 rfl
 have hltw7_2:w.heap.size < w7.heap.size:=hS.lt 2 rfl
 have hltw7_3:w.heap.size+1 < w7.heap.size:=hS.lt 3 rfl
 have hltw7_4:w.heap.size+2 < w7.heap.size:=hS.lt 4 rfl
 obtain ⟨WC,hWC⟩:∃ WC,w7.alloc (.cells #[.slice A3 N3 C3] 44) = WC:=⟨_,rfl⟩
 replace hS:=hS.alloc #[.slice A3 N3 C3] 44
 rw [hWC] at hS
 replace G1:=hide (hWC▸(unhide G1).alloc (.cells #[.slice A3 N3 C3] 44))
 replace G2:=hide (hWC▸(unhide G2).alloc (.cells #[.slice A3 N3 C3] 44))
 replace G3:=hide (hWC▸(unhide G3).alloc (.cells #[.slice A3 N3 C3] 44))
 clear ycg ych yci ycj yck ycl ycm ycn yco ycp ycq
 obtain ⟨⟨ycr,-⟩,⟨ycs,-⟩,⟨yct,-⟩,⟨ycu,ycv,ycw,-⟩,⟨ycx,ycy,ycz,-⟩,⟨yc0,yc1,yc2,-⟩,-⟩:=hS.cells
 have hltWC_0:w7.heap.size < WC.heap.size:=hS.lt 0 rfl
 have hltWC_1:w5.heap.size < WC.heap.size:=hS.lt 1 rfl
 have hltWC_2:w4.heap.size < WC.heap.size:=hS.lt 2 rfl
 have hltWC_3:w.heap.size < WC.heap.size:=hS.lt 3 rfl
 have hltWC_4:w.heap.size+1 < WC.heap.size:=hS.lt 4 rfl
 have hltWC_5:w.heap.size+2 < WC.heap.size:=hS.lt 5 rfl
 go_wp2_with fail
 refine (unhide HM _ _ _ _ (unhide G3).num).mono ?_
 rintro e w8 ⟨⟨A4,N4,C4,rfl,f4⟩,hb8⟩
 replace hS:=hS.kept hb8
 clear ycr ycs yct ycu ycv ycw ycx ycy ycz yc0 yc1 yc2
 obtain ⟨⟨yc3,-⟩,⟨yc4,-⟩,⟨yc5,-⟩,⟨yc6,yc7,yc8,-⟩,⟨yc9,yda,ydb,-⟩,⟨ydc,ydd,yde,-⟩,-⟩:=hS.cells
 replace G1:=hide ((unhide G1).kept hb8)
 replace G2:=hide ((unhide G2).kept hb8)
 replace G3:=hide ((unhide G3).kept hb8)
 have G4:=hide (f4.mono (base':=w.heap.size+3) hltWC_5)
 clear f4
 have Q_:=hS.frozen (b:=w.heap.size+2) (cs:=#[.bool false,.slice none 0 0,.int .i64 0]) (t:=46) (by simp)
 have fz0:=Q_ 0
 have fz1:=Q_ 1
 have fz2:=Q_ 2
 clear Q_
 go_wp2
 exact bodyPost_ret (v:=.tuple #[.agg #[.bool r,.slice A4 N4 C4,.int .i64 y],.int .i64 0]) (by simp [results,Tryz.results29,go_sem,ydc,ydd,yde]) rfl ⟨⟨_,_,_,rfl,Mine.mono ((((unhide G4).set (by simp) _).set (by simp) _).set (by simp) _) (by omega)⟩,((hS.fr.setCell (by simp <;> omega) _).setCell (by simp <;> omega) _).setCell (by simp <;> omega) _⟩
theorem radd_ge (s:Bool) (a:Option Addr) (n cap m:Nat) (x:Int) (s':Bool) (a':Option Addr) (n' cap' m':Nat) (x':Int) (t:Int) (i j P Q v:Nat) (r:Bool) (v2:Nat) (y:Int) (hn:((n:Int) == 0) = false) (hn':((n':Int) == 0) = false) (ht:min x x' = t) (hi:x - t = (i:Int)) (hj:x' - t = (j:Int)) (hx:-1073741824≤x∧x≤1073741824) (hx':-1073741824≤x'∧x'≤1073741824)  (w:World) (h:Num w a n m) (h':Num w a' n' m') (hs:(s == s') = false) (HT:Hid (∀ W:World,Num W a n m→Num W a' n' m'→Calls Tryz.prog 25 #[.agg #[.bool s,.slice a n cap,.int .i64 x],.agg #[.bool s',.slice a' n' cap',.int .i64 x']] W fun e w'=>e = .returned (.int .i64 0)∧Below W.heap.size W w')) (HU:Hid (∀ (W:World) (A:Option Addr) (N C:Nat),Num W A N m→Calls Tryz.prog 46 #[.agg #[.slice A N C],.int .i64 (i:Int)] W fun e w'=>(∃ A N C,e = .returned (.tuple #[.agg #[.slice A N C],.int .i64 0])∧Mine w' W.heap.size A N C P)∧Below W.heap.size W w')) (HV:Hid (∀ (W:World) (A:Option Addr) (N C:Nat),Num W A N m'→Calls Tryz.prog 46 #[.agg #[.slice A N C],.int .i64 (j:Int)] W fun e w'=>(∃ A N C,e = .returned (.tuple #[.agg #[.slice A N C],.int .i64 0])∧Mine w' W.heap.size A N C Q)∧Below W.heap.size W w')) (c:Int) (HC:Hid (∀ (W:World) (A:Option Addr) (N C:Nat) (A':Option Addr) (N' C':Nat),Num W A N P→Num W A' N' Q→Calls Tryz.prog 48 #[.agg #[.slice A N C],.agg #[.slice A' N' C']] W fun e w'=>e = .returned (.tuple #[.int .i64 c,.int .i64 0])∧Below W.heap.size W w')) (hc:¬ c < 0) (HA:Hid (∀ (W:World) (A:Option Addr) (N C:Nat) (A':Option Addr) (N' C':Nat),Num W A N P→Num W A' N' Q→Calls Tryz.prog 49 #[.agg #[.slice A N C],.agg #[.slice A' N' C']] W fun e w'=>(∃ A N C,e = .returned (.tuple #[.agg #[.slice A N C],.bool true,.int .i64 0])∧Mine w' W.heap.size A N C v)∧Below W.heap.size W w')) (HM:Hid (∀ (W:World) (A:Option Addr) (N C:Nat),Num W A N v→Calls Tryz.prog 28 #[.bool s,.agg #[.slice A N C],.int .i64 t] W fun e w'=>(∃ A N C,e = .returned (.tuple #[.agg #[.bool r,.slice A N C,.int .i64 y],.int .i64 0])∧Mine w' W.heap.size A N C v2)∧Below W.heap.size W w')) :
  Calls Tryz.prog 29 #[.agg #[.bool s,.slice a n cap,.int .i64 x],.agg #[.bool s',.slice a' n' cap',.int .i64 x']] w fun e w'=>(∃ A N C,e = .returned (.tuple #[.agg #[.bool r,.slice A N C,.int .i64 y],.int .i64 0])∧Mine w' w.heap.size A N C v2)∧Below w.heap.size w w':=by
 have H:=hide h
 have H':=hide h'
 clear h h'
 go_enter Tryz.func29,Tryz.ntmps29
 go_wp2_with fail
 refine (unhide HT _ ((unhide H).kept (Fs.three w _ _ _ _ _ _).fr) ((unhide H').kept (Fs.three w _ _ _ _ _ _).fr)).mono ?_
 rintro e w1 ⟨rfl,hb1⟩
 have hS:=(Fs.three w _ _ _ _ _ _).kept hb1
 obtain ⟨⟨ya,yb,yc,-⟩,⟨yd,ye,yf,-⟩,⟨yg,yh,yi,-⟩,-⟩:=hS.cells
 go_wp2_with fail
 refine (rnone_n a n cap hn _).mono ?_
 rintro e w2 ⟨rfl,hb2⟩
 replace hS:=hS.kept hb2
 clear ya yb yc yd ye yf yg yh yi
 obtain ⟨⟨yj,yk,yl,-⟩,⟨ym,yn,yo,-⟩,⟨yp,yq,yr,-⟩,-⟩:=hS.cells
 go_wp2_with fail
 refine (rnone_n a' n' cap' hn' _).mono ?_
 rintro e w3 ⟨rfl,hb3⟩
 replace hS:=hS.kept hb3
 clear yj yk yl ym yn yo yp yq yr
 obtain ⟨⟨ys,yt,yu,-⟩,⟨yv,yw,yx,-⟩,⟨yy,yz,y0,-⟩,-⟩:=hS.cells
 have hltw3_0:w.heap.size < w3.heap.size:=hS.lt 0 rfl
 have hltw3_1:w.heap.size+1 < w3.heap.size:=hS.lt 1 rfl
 have hltw3_2:w.heap.size+2 < w3.heap.size:=hS.lt 2 rfl
 go_wp2_with fail
 refine (unhide HU _ _ _ _ ((unhide H).kept hS.fr)).mono ?_
 rintro e w4 ⟨⟨A1,N1,C1,rfl,f1⟩,hb4⟩
 replace hS:=hS.kept hb4
 clear ys yt yu yv yw yx yy yz y0
 obtain ⟨⟨y1,y2,y3,-⟩,⟨y4,y5,y6,-⟩,⟨y7,y8,y9,-⟩,-⟩:=hS.cells
 have G1:=hide (f1.mono (base':=w.heap.size+3) hltw3_2)
 clear f1
 have hltw4_0:w.heap.size < w4.heap.size:=hS.lt 0 rfl
 have hltw4_1:w.heap.size+1 < w4.heap.size:=hS.lt 1 rfl
 have hltw4_2:w.heap.size+2 < w4.heap.size:=hS.lt 2 rfl
 obtain ⟨WA,hWA⟩:∃ WA,w4.alloc (.cells #[.slice A1 N1 C1] 44) = WA:=⟨_,rfl⟩
 replace hS:=hS.alloc #[.slice A1 N1 C1] 44
 rw [hWA] at hS
 replace G1:=hide (hWA▸(unhide G1).alloc (.cells #[.slice A1 N1 C1] 44))
 clear y1 y2 y3 y4 y5 y6 y7 y8 y9
 obtain ⟨⟨yba,-⟩,⟨ybb,ybc,ybd,-⟩,⟨ybe,ybf,ybg,-⟩,⟨ybh,ybi,ybj,-⟩,-⟩:=hS.cells
 have hltWA_0:w4.heap.size < WA.heap.size:=hS.lt 0 rfl
 have hltWA_1:w.heap.size < WA.heap.size:=hS.lt 1 rfl
 have hltWA_2:w.heap.size+1 < WA.heap.size:=hS.lt 2 rfl
 have hltWA_3:w.heap.size+2 < WA.heap.size:=hS.lt 3 rfl
 go_wp2_with fail
 refine (unhide HV _ _ _ _ ((unhide H').kept hS.fr)).mono ?_
 rintro e w5 ⟨⟨A2,N2,C2,rfl,f2⟩,hb5⟩
 replace hS:=hS.kept hb5
 clear yba ybb ybc ybd ybe ybf ybg ybh ybi ybj
 obtain ⟨⟨ybk,-⟩,⟨ybl,ybm,ybn,-⟩,⟨ybo,ybp,ybq,-⟩,⟨ybr,ybs,ybt,-⟩,-⟩:=hS.cells
 replace G1:=hide ((unhide G1).kept hb5)
 have G2:=hide (f2.mono (base':=w.heap.size+3) hltWA_3)
 clear f2
 have hltw5_0:w4.heap.size < w5.heap.size:=hS.lt 0 rfl
 have hltw5_1:w.heap.size < w5.heap.size:=hS.lt 1 rfl
 have hltw5_2:w.heap.size+1 < w5.heap.size:=hS.lt 2 rfl
 have hltw5_3:w.heap.size+2 < w5.heap.size:=hS.lt 3 rfl
 obtain ⟨WB,hWB⟩:∃ WB,w5.alloc (.cells #[.slice A2 N2 C2] 44) = WB:=⟨_,rfl⟩
 replace hS:=hS.alloc #[.slice A2 N2 C2] 44
 rw [hWB] at hS
 replace G1:=hide (hWB▸(unhide G1).alloc (.cells #[.slice A2 N2 C2] 44))
 replace G2:=hide (hWB▸(unhide G2).alloc (.cells #[.slice A2 N2 C2] 44))
 clear ybk ybl ybm ybn ybo ybp ybq ybr ybs ybt
 obtain ⟨⟨ybu,-⟩,⟨ybv,-⟩,⟨ybw,ybx,yby,-⟩,⟨ybz,yb0,yb1,-⟩,⟨yb2,yb3,yb4,-⟩,-⟩:=hS.cells
 go_wp2_with fail
 refine (unhide HC _ _ _ _ _ _ _ (unhide G1).num (unhide G2).num).mono ?_
 rintro e w6 ⟨rfl,hb6⟩
 replace hS:=hS.kept hb6
 clear ybu ybv ybw ybx yby ybz yb0 yb1 yb2 yb3 yb4
 obtain ⟨⟨yb5,-⟩,⟨yb6,-⟩,⟨yb7,yb8,yb9,-⟩,⟨yca,ycb,ycc,-⟩,⟨ycd,yce,ycf,-⟩,-⟩:=hS.cells
 replace G1:=hide ((unhide G1).kept hb6)
 replace G2:=hide ((unhide G2).kept hb6)
 have hltw6_0:w5.heap.size < w6.heap.size:=hS.lt 0 rfl
 have hltw6_1:w4.heap.size < w6.heap.size:=hS.lt 1 rfl
 have hltw6_2:w.heap.size < w6.heap.size:=hS.lt 2 rfl
 have hltw6_3:w.heap.size+1 < w6.heap.size:=hS.lt 3 rfl
 have hltw6_4:w.heap.size+2 < w6.heap.size:=hS.lt 4 rfl
 go_wp2_with fail
 refine (unhide HA _ _ _ _ _ _ _ (unhide G1).num (unhide G2).num).mono ?_
 rintro e w7 ⟨⟨A3,N3,C3,rfl,f3⟩,hb7⟩
 replace hS:=hS.kept hb7
 clear yb5 yb6 yb7 yb8 yb9 yca ycb ycc ycd yce ycf
 obtain ⟨⟨ycg,-⟩,⟨ych,-⟩,⟨yci,ycj,yck,-⟩,⟨ycl,ycm,ycn,-⟩,⟨yco,ycp,ycq,-⟩,-⟩:=hS.cells
 replace G1:=hide ((unhide G1).kept hb7)
 replace G2:=hide ((unhide G2).kept hb7)
 have G3:=hide (f3.mono (base':=w.heap.size+3) hltw6_4)
 clear f3
 have hltw7_0:w5.heap.size < w7.heap.size:=hS.lt 0 rfl
 have hltw7_1:w4.heap.size < w7.heap.size:=hS.lt 1 rfl
 have hltw7_2:w.heap.size < w7.heap.size:=hS.lt 2 rfl
 have hltw7_3:w.heap.size+1 < w7.heap.size:=hS.lt 3 rfl
 have hltw7_4:w.heap.size+2 < w7.heap.size:=hS.lt 4 rfl
 obtain ⟨WC,hWC⟩:∃ WC,w7.alloc (.cells #[.slice A3 N3 C3] 44) = WC:=⟨_,rfl⟩
 replace hS:=hS.alloc #[.slice A3 N3 C3] 44
 rw [hWC] at hS
 replace G1:=hide (hWC▸(unhide G1).alloc (.cells #[.slice A3 N3 C3] 44))
 replace G2:=hide (hWC▸(unhide G2).alloc (.cells #[.slice A3 N3 C3] 44))
 replace G3:=hide (hWC▸(unhide G3).alloc (.cells #[.slice A3 N3 C3] 44))
 clear ycg ych yci ycj yck ycl ycm ycn yco ycp ycq
 obtain ⟨⟨ycr,-⟩,⟨ycs,-⟩,⟨yct,-⟩,⟨ycu,ycv,ycw,-⟩,⟨ycx,ycy,ycz,-⟩,⟨yc0,yc1,yc2,-⟩,-⟩:=hS.cells
 have hltWC_0:w7.heap.size < WC.heap.size:=hS.lt 0 rfl
 have hltWC_1:w5.heap.size < WC.heap.size:=hS.lt 1 rfl
 have hltWC_2:w4.heap.size < WC.heap.size:=hS.lt 2 rfl
 have hltWC_3:w.heap.size < WC.heap.size:=hS.lt 3 rfl
 have hltWC_4:w.heap.size+1 < WC.heap.size:=hS.lt 4 rfl
 have hltWC_5:w.heap.size+2 < WC.heap.size:=hS.lt 5 rfl
 go_wp2_with fail
 refine (unhide HM _ _ _ _ (unhide G3).num).mono ?_
 rintro e w8 ⟨⟨A4,N4,C4,rfl,f4⟩,hb8⟩
 replace hS:=hS.kept hb8
 clear ycr ycs yct ycu ycv ycw ycx ycy ycz yc0 yc1 yc2
 obtain ⟨⟨yc3,-⟩,⟨yc4,-⟩,⟨yc5,-⟩,⟨yc6,yc7,yc8,-⟩,⟨yc9,yda,ydb,-⟩,⟨ydc,ydd,yde,-⟩,-⟩:=hS.cells
 replace G1:=hide ((unhide G1).kept hb8)
 replace G2:=hide ((unhide G2).kept hb8)
 replace G3:=hide ((unhide G3).kept hb8)
 have G4:=hide (f4.mono (base':=w.heap.size+3) hltWC_5)
 clear f4
 have Q_:=hS.frozen (b:=w.heap.size+2) (cs:=#[.bool false,.slice none 0 0,.int .i64 0]) (t:=46) (by simp)
 have fz0:=Q_ 0
 have fz1:=Q_ 1
 have fz2:=Q_ 2
 clear Q_
 go_wp2
 exact bodyPost_ret (v:=.tuple #[.agg #[.bool r,.slice A4 N4 C4,.int .i64 y],.int .i64 0]) (by simp [results,Tryz.results29,go_sem,ydc,ydd,yde]) rfl ⟨⟨_,_,_,rfl,Mine.mono ((((unhide G4).set (by simp) _).set (by simp) _).set (by simp) _) (by omega)⟩,((hS.fr.setCell (by simp <;> omega) _).setCell (by simp <;> omega) _).setCell (by simp <;> omega) _⟩
theorem rmul_ok4 (s:Bool) (a:Option Addr) (n cap m:Nat) (x:Int) (s':Bool) (a':Option Addr) (n' cap' m':Nat) (x':Int) (v:Nat) (r:Bool) (v2:Nat) (y:Int) (hn:((n:Int) == 0) = false) (hn':((n':Int) == 0) = false) (hx:-1073741824≤x∧x≤1073741824) (hx':-1073741824≤x'∧x'≤1073741824) (w:World) (h:Num w a n m) (h':Num w a' n' m') (HT:Hid (∀ W:World,Num W a n m→Num W a' n' m'→Calls Tryz.prog 25 #[.agg #[.bool s,.slice a n cap,.int .i64 x],.agg #[.bool s',.slice a' n' cap',.int .i64 x']] W fun e w'=>e = .returned (.int .i64 0)∧Below W.heap.size W w')) (HA:Hid (∀ (W:World) (A:Option Addr) (N C:Nat) (A':Option Addr) (N' C':Nat),Num W A N m→Num W A' N' m'→Calls Tryz.prog 27 #[.agg #[.slice A N C],.agg #[.slice A' N' C']] W fun e w'=>(∃ A N C,e = .returned (.tuple #[.agg #[.slice A N C],.int .i64 0])∧Mine w' W.heap.size A N C v)∧Below W.heap.size W w')) (HM:Hid (∀ (W:World) (A:Option Addr) (N C:Nat),Num W A N v→Calls Tryz.prog 28 #[.bool (s != s'),.agg #[.slice A N C],.int .i64 (x+x')] W fun e w'=>(∃ A N C,e = .returned (.tuple #[.agg #[.bool r,.slice A N C,.int .i64 y],.int .i64 0])∧Mine w' W.heap.size A N C v2)∧Below W.heap.size W w')) :
  Calls Tryz.prog 15 #[.agg #[.bool s,.slice a n cap,.int .i64 x],.agg #[.bool s',.slice a' n' cap',.int .i64 x']] w fun e w'=>(∃ A N C,e = .returned (.tuple #[.agg #[.bool r,.slice A N C,.int .i64 y],.int .i64 0])∧Mine w' w.heap.size A N C v2)∧Below w.heap.size w w':=by
 have H:=hide h
 have H':=hide h'
 clear h h'
 go_enter Tryz.func15,Tryz.ntmps15
 go_wp2_with fail
 refine (unhide HT _ ((unhide H).kept (Fs.three w _ _ _ _ _ _).fr) ((unhide H').kept (Fs.three w _ _ _ _ _ _).fr)).mono ?_
 rintro e w1 ⟨rfl,hb1⟩
 have hS:=(Fs.three w _ _ _ _ _ _).kept hb1
 obtain ⟨⟨ya,yb,yc,-⟩,⟨yd,ye,yf,-⟩,⟨yg,yh,yi,-⟩,-⟩:=hS.cells
 go_wp2_with fail
 refine (rnone_n a n cap hn _).mono ?_
 rintro e w2 ⟨rfl,hb2⟩
 replace hS:=hS.kept hb2
 clear ya yb yc yd ye yf yg yh yi
 obtain ⟨⟨yj,yk,yl,-⟩,⟨ym,yn,yo,-⟩,⟨yp,yq,yr,-⟩,-⟩:=hS.cells
 go_wp2_with fail
 refine (rnone_n a' n' cap' hn' _).mono ?_
 rintro e w3 ⟨rfl,hb3⟩
 replace hS:=hS.kept hb3
 clear yj yk yl ym yn yo yp yq yr
 obtain ⟨⟨ys,yt,yu,-⟩,⟨yv,yw,yx,-⟩,⟨yy,yz,y0,-⟩,-⟩:=hS.cells
 have hltw3_0:w.heap.size < w3.heap.size:=hS.lt 0 rfl
 have hltw3_1:w.heap.size+1 < w3.heap.size:=hS.lt 1 rfl
 have hltw3_2:w.heap.size+2 < w3.heap.size:=hS.lt 2 rfl
 go_wp2_with fail
 refine (unhide HA _ _ _ _ _ _ _ ((unhide H).kept hS.fr) ((unhide H').kept hS.fr)).mono ?_
 rintro e w4 ⟨⟨A1,N1,C1,rfl,f1⟩,hb4⟩
 replace hS:=hS.kept hb4
 clear ys yt yu yv yw yx yy yz y0
 obtain ⟨⟨y1,y2,y3,-⟩,⟨y4,y5,y6,-⟩,⟨y7,y8,y9,-⟩,-⟩:=hS.cells
 have G1:=hide (f1.mono (base':=w.heap.size+3) hltw3_2)
 clear f1
 have hltw4_0:w.heap.size < w4.heap.size:=hS.lt 0 rfl
 have hltw4_1:w.heap.size+1 < w4.heap.size:=hS.lt 1 rfl
 have hltw4_2:w.heap.size+2 < w4.heap.size:=hS.lt 2 rfl
 obtain ⟨WA,hWA⟩:∃ WA,w4.alloc (.cells #[.slice A1 N1 C1] 44) = WA:=⟨_,rfl⟩
 replace hS:=hS.alloc #[.slice A1 N1 C1] 44
 rw [hWA] at hS
 replace G1:=hide (hWA▸(unhide G1).alloc (.cells #[.slice A1 N1 C1] 44))
 clear y1 y2 y3 y4 y5 y6 y7 y8 y9
 obtain ⟨⟨yba,-⟩,⟨ybb,ybc,ybd,-⟩,⟨ybe,ybf,ybg,-⟩,⟨ybh,ybi,ybj,-⟩,-⟩:=hS.cells
 have hltWA_0:w4.heap.size < WA.heap.size:=hS.lt 0 rfl
 have hltWA_1:w.heap.size < WA.heap.size:=hS.lt 1 rfl
 have hltWA_2:w.heap.size+1 < WA.heap.size:=hS.lt 2 rfl
 have hltWA_3:w.heap.size+2 < WA.heap.size:=hS.lt 3 rfl
 go_wp2_with fail
 refine (unhide HM _ _ _ _ (unhide G1).num).mono ?_
 rintro e w5 ⟨⟨A2,N2,C2,rfl,f2⟩,hb5⟩
 replace hS:=hS.kept hb5
 clear yba ybb ybc ybd ybe ybf ybg ybh ybi ybj
 obtain ⟨⟨ybk,-⟩,⟨ybl,ybm,ybn,-⟩,⟨ybo,ybp,ybq,-⟩,⟨ybr,ybs,ybt,-⟩,-⟩:=hS.cells
 replace G1:=hide ((unhide G1).kept hb5)
 have G2:=hide (f2.mono (base':=w.heap.size+3) hltWA_3)
 clear f2
 have Q_:=hS.frozen (b:=w.heap.size+2) (cs:=#[.bool false,.slice none 0 0,.int .i64 0]) (t:=46) (by simp)
 have fz0:=Q_ 0
 have fz1:=Q_ 1
 have fz2:=Q_ 2
 clear Q_
 go_wp2
 exact bodyPost_ret (v:=.tuple #[.agg #[.bool r,.slice A2 N2 C2,.int .i64 y],.int .i64 0]) (by simp [results,Tryz.results15,go_sem,ybr,ybs,ybt]) rfl ⟨⟨_,_,_,rfl,Mine.mono ((((unhide G2).set (by simp) _).set (by simp) _).set (by simp) _) (by omega)⟩,((hS.fr.setCell (by simp <;> omega) _).setCell (by simp <;> omega) _).setCell (by simp <;> omega) _⟩
theorem rmul_left (s:Bool) (a:Option Addr) (cap m:Nat) (x:Int) (s':Bool) (a':Option Addr) (n' cap' m':Nat) (x':Int)  (w:World) (h:Num w a 0 m) (h':Num w a' n' m') (HT:Hid (∀ W:World,Num W a 0 m→Num W a' n' m'→Calls Tryz.prog 25 #[.agg #[.bool s,.slice a 0 cap,.int .i64 x],.agg #[.bool s',.slice a' n' cap',.int .i64 x']] W fun e w'=>e = .returned (.int .i64 0)∧Below W.heap.size W w'))  :
  Calls Tryz.prog 15 #[.agg #[.bool s,.slice a 0 cap,.int .i64 x],.agg #[.bool s',.slice a' n' cap',.int .i64 x']] w fun e w'=>e = .returned (.tuple #[.agg #[.bool false,.slice none 0 0,.int .i64 0],.int .i64 0])∧Below w.heap.size w w':=by
 have H:=hide h
 have H':=hide h'
 clear h h'
 go_enter Tryz.func15,Tryz.ntmps15
 go_wp2_with fail
 refine (unhide HT _ ((unhide H).kept (Fs.three w _ _ _ _ _ _).fr) ((unhide H').kept (Fs.three w _ _ _ _ _ _).fr)).mono ?_
 rintro e w1 ⟨rfl,hb1⟩
 have hS:=(Fs.three w _ _ _ _ _ _).kept hb1
 obtain ⟨⟨ya,yb,yc,-⟩,⟨yd,ye,yf,-⟩,⟨yg,yh,yi,-⟩,-⟩:=hS.cells
 go_wp2_with fail
 refine (rnone_0 a cap _).mono ?_
 rintro e w2 ⟨rfl,hb2⟩
 replace hS:=hS.kept hb2
 clear ya yb yc yd ye yf yg yh yi
 obtain ⟨⟨yj,yk,yl,-⟩,⟨ym,yn,yo,-⟩,⟨yp,yq,yr,-⟩,-⟩:=hS.cells
 have Q_:=hS.frozen (b:=w.heap.size+2) (cs:=#[.bool false,.slice none 0 0,.int .i64 0]) (t:=46) (by simp)
 have fz0:=Q_ 0
 have fz1:=Q_ 1
 have fz2:=Q_ 2
 clear Q_
 go_wp2
 exact bodyPost_ret (v:=.tuple #[.agg #[.bool false,.slice none 0 0,.int .i64 0],.int .i64 0]) (by simp [results,Tryz.results15,go_sem,yp,yq,yr]) rfl ⟨rfl,((hS.fr.setCell (by simp <;> omega) _).setCell (by simp <;> omega) _).setCell (by simp <;> omega) _⟩
theorem rmul_right (s:Bool) (a:Option Addr) (n cap m:Nat) (x:Int) (s':Bool) (a':Option Addr) (cap' m':Nat) (x':Int) (hn:((n:Int) == 0) = false) (w:World) (h:Num w a n m) (h':Num w a' 0 m') (HT:Hid (∀ W:World,Num W a n m→Num W a' 0 m'→Calls Tryz.prog 25 #[.agg #[.bool s,.slice a n cap,.int .i64 x],.agg #[.bool s',.slice a' 0 cap',.int .i64 x']] W fun e w'=>e = .returned (.int .i64 0)∧Below W.heap.size W w'))  :
  Calls Tryz.prog 15 #[.agg #[.bool s,.slice a n cap,.int .i64 x],.agg #[.bool s',.slice a' 0 cap',.int .i64 x']] w fun e w'=>e = .returned (.tuple #[.agg #[.bool false,.slice none 0 0,.int .i64 0],.int .i64 0])∧Below w.heap.size w w':=by
 have H:=hide h
 have H':=hide h'
 clear h h'
 go_enter Tryz.func15,Tryz.ntmps15
 go_wp2_with fail
 refine (unhide HT _ ((unhide H).kept (Fs.three w _ _ _ _ _ _).fr) ((unhide H').kept (Fs.three w _ _ _ _ _ _).fr)).mono ?_
 rintro e w1 ⟨rfl,hb1⟩
 have hS:=(Fs.three w _ _ _ _ _ _).kept hb1
 obtain ⟨⟨ya,yb,yc,-⟩,⟨yd,ye,yf,-⟩,⟨yg,yh,yi,-⟩,-⟩:=hS.cells
 go_wp2_with fail
 refine (rnone_n a n cap hn _).mono ?_
 rintro e w2 ⟨rfl,hb2⟩
 replace hS:=hS.kept hb2
 clear ya yb yc yd ye yf yg yh yi
 obtain ⟨⟨yj,yk,yl,-⟩,⟨ym,yn,yo,-⟩,⟨yp,yq,yr,-⟩,-⟩:=hS.cells
 go_wp2_with fail
 refine (rnone_0 a' cap' _).mono ?_
 rintro e w3 ⟨rfl,hb3⟩
 replace hS:=hS.kept hb3
 clear yj yk yl ym yn yo yp yq yr
 obtain ⟨⟨ys,yt,yu,-⟩,⟨yv,yw,yx,-⟩,⟨yy,yz,y0,-⟩,-⟩:=hS.cells
 have Q_:=hS.frozen (b:=w.heap.size+2) (cs:=#[.bool false,.slice none 0 0,.int .i64 0]) (t:=46) (by simp)
 have fz0:=Q_ 0
 have fz1:=Q_ 1
 have fz2:=Q_ 2
 clear Q_
 go_wp2
 exact bodyPost_ret (v:=.tuple #[.agg #[.bool false,.slice none 0 0,.int .i64 0],.int .i64 0]) (by simp [results,Tryz.results15,go_sem,yy,yz,y0]) rfl ⟨rfl,((hS.fr.setCell (by simp <;> omega) _).setCell (by simp <;> omega) _).setCell (by simp <;> omega) _⟩
def RSums (s:Bool) (m:Nat) (x:Int) (s':Bool) (m':Nat) (x':Int) (r:Bool) (v:Nat) (y:Int):Prop:=
 ∀ (W:World) (A:Option Addr) (N C:Nat) (A':Option Addr) (N' C':Nat),Num W A N m→Num W A' N' m' →
  Calls Tryz.prog 29 #[.agg #[.bool s,.slice A N C,.int .i64 x],.agg #[.bool s',.slice A' N' C',.int .i64 x']] W fun e w'=>(∃ A N C,e = .returned (.tuple #[.agg #[.bool r,.slice A N C,.int .i64 y],.int .i64 0])∧Mine w' W.heap.size A N C v)∧Below W.heap.size W w'
def RProds (s:Bool) (m:Nat) (x:Int) (s':Bool) (m':Nat) (x':Int) (r:Bool) (v:Nat) (y:Int):Prop:=
 ∀ (W:World) (A:Option Addr) (N C:Nat) (A':Option Addr) (N' C':Nat),Num W A N m→Num W A' N' m' →
  Calls Tryz.prog 15 #[.agg #[.bool s,.slice A N C,.int .i64 x],.agg #[.bool s',.slice A' N' C',.int .i64 x']] W fun e w'=>(∃ A N C,e = .returned (.tuple #[.agg #[.bool r,.slice A N C,.int .i64 y],.int .i64 0])∧Mine w' W.heap.size A N C v)∧Below W.heap.size W w'
def RMakes (q:Bool) (v:Nat) (t:Int) (r:Bool) (v2:Nat) (y:Int):Prop:=
 ∀ (W:World) (A:Option Addr) (N C:Nat),Num W A N v→Calls Tryz.prog 28 #[.bool q,.agg #[.slice A N C],.int .i64 t] W fun e w'=>(∃ A N C,e = .returned (.tuple #[.agg #[.bool r,.slice A N C,.int .i64 y],.int .i64 0])∧Mine w' W.heap.size A N C v2)∧Below W.heap.size W w'
theorem rmk_in (r:Bool) (v:Nat) (t L:Int) (d K:Nat) (hd:t - L = (d:Int)) (hv:v * 2 ^ d < 2 ^ (K+1)) (hK:K≤500000) (hL:-1073741824≤L) (hL0:L≤0) (ht:t≤1073741824) :
  ∃ q v2 y,RMakes r v t q v2 y∧OkD q v2 y∧L≤y∧sv q (v2 * 2 ^ (y - L).toNat) = sv r (v * 2 ^ d):=by
 rcases Nat.eq_zero_or_pos v with h0|h0
 ·subst h0
  refine ⟨false,0,0,fun W A N C g=>?_,Or.inl ⟨rfl,rfl,rfl⟩,hL0,by rw [Nat.zero_mul,Nat.zero_mul,sv_zero,sv_zero]⟩
  obtain rfl:=g.zero.2 rfl
  refine (rmake_nought r A C t W g).mono ?_
  rintro e w' ⟨rfl,hb⟩
  exact ⟨⟨none,0,0,rfl,mine_none _ _⟩,hb⟩
 ·have hd1:1≤2 ^ d:=pow_pos2 d
  have hvK:v < 2 ^ (K+1):=Nat.lt_of_le_of_lt (Nat.le_mul_of_pos_right _ hd1) hv
  obtain ⟨z,hz,_⟩:=tz_ex h0 hvK
  have hzd:=lt_of_pow2M hz.leM hv
  have hzd2:=hz.down
  refine ⟨r,v / 2 ^ z,t+(z:Int),fun W A N C g=>rmake_ok r A N C v z t W g h0 hz (by omega) ht (by omega) (by omega),Or.inr ⟨hzd2.1,by omega,by omega⟩,by omega,?_⟩
  rw [show (t+(z:Int) - L).toNat = z+d from by omega,Nat.pow_add,← Nat.mul_assoc,hzd2.2]
theorem rup_in {m i:Nat} (hno:¬ Over (m * 2 ^ i)) (hi:i < 9223372036854775808) (W:World) (A:Option Addr) (N C:Nat) (g:Num W A N m):Calls Tryz.prog 46 #[.agg #[.slice A N C],.int .i64 (i:Int)] W fun e w'=>(∃ A N C,e = .returned (.tuple #[.agg #[.slice A N C],.int .i64 0])∧Mine w' W.heap.size A N C (m * 2 ^ i))∧Below W.heap.size W w':=by
 refine (rup_any A N C m i W g hi).mono ?_
 rintro e w' ⟨h1,hb⟩
 rcases h1 with h1|⟨_,h1⟩
 ·exact ⟨h1,hb⟩
 ·exact absurd h1 hno
theorem radd_fit {p q:Nat} (hno:¬ Over (p+q)) (W:World) (A:Option Addr) (N C:Nat) (A':Option Addr) (N' C':Nat) (g:Num W A N p) (g':Num W A' N' q):Calls Tryz.prog 47 #[.agg #[.slice A N C],.agg #[.slice A' N' C']] W fun e w'=>(∃ A N C,e = .returned (.tuple #[.agg #[.slice A N C],.int .i64 0])∧Mine w' W.heap.size A N C (p+q))∧Below W.heap.size W w':=by
 refine (radd_any A A' N N' C C' p q W g g').mono ?_
 rintro e w' ⟨h1,hb⟩
 rcases h1 with h1|⟨_,h1⟩
 ·exact ⟨h1,hb⟩
 ·exact absurd h1 hno
theorem rmul_fit {p q:Nat} (hno:¬ Over (p * q)) (W:World) (A:Option Addr) (N C:Nat) (A':Option Addr) (N' C':Nat) (g:Num W A N p) (g':Num W A' N' q):Calls Tryz.prog 27 #[.agg #[.slice A N C],.agg #[.slice A' N' C']] W fun e w'=>(∃ A N C,e = .returned (.tuple #[.agg #[.slice A N C],.int .i64 0])∧Mine w' W.heap.size A N C (p * q))∧Below W.heap.size W w':=by
 refine (rmul_any A A' N N' C C' p q W g g').mono ?_
 rintro e w' ⟨h1,hb⟩
 rcases h1 with h1|⟨_,h1⟩
 ·exact ⟨h1,hb⟩
 ·exact absurd h1 hno
theorem rsub_fit {p q:Nat} (hle:q≤p) (W:World) (A:Option Addr) (N C:Nat) (A':Option Addr) (N' C':Nat) (g:Num W A N p) (g':Num W A' N' q):Calls Tryz.prog 49 #[.agg #[.slice A N C],.agg #[.slice A' N' C']] W fun e w'=>(∃ A N C,e = .returned (.tuple #[.agg #[.slice A N C],.bool true,.int .i64 0])∧Mine w' W.heap.size A N C (p - q))∧Below W.heap.size W w':=by
 refine (rsub_any A A' N N' C C' p q W g g').mono ?_
 rintro e w' ⟨h1,hb⟩
 rcases h1 with ⟨h1,_⟩|⟨_,h1⟩
 ·omega
 ·exact ⟨h1,hb⟩
theorem rtwin_num {m:Nat} (a:Option Addr) (n cap:Nat) (W:World) (g:Num W a n m):Calls Tryz.prog 62 #[.agg #[.slice a n cap]] W fun e w'=>(∃ A N C,e = .returned (.agg #[.slice A N C])∧Mine w' W.heap.size A N C m)∧Below W.heap.size W w':=by
 obtain ⟨xs,hn,hl,hw,hN,hv,hb⟩:=g
 refine (rtwin_any6 a n cap xs W hn hl (by omega)).mono ?_
 rintro e w' ⟨⟨b,c,rfl,ho⟩,hb2⟩
 exact ⟨⟨b,n,c,rfl,xs,hn,by exact ho,hw,hN,hv,hb⟩,hb2⟩
theorem ne0 {W:World} {A:Option Addr} {N m:Nat} (g:Num W A N m) (h:0 < m):((N:Int) == 0) = false:=by
 have:=g.zero
 simp only [beq_eq_false_iff_ne,ne_eq]
 omega
theorem radd_in {s:Bool} {m:Nat} {x:Int} {s':Bool} {m':Nat} {x':Int} (L:Int) (K:Nat) (hA:OkD s m x) (hB:OkD s' m' x') (hL:-1073741824≤L) (hL0:L≤0) (hK:K≤500000) (hx:L≤x) (hx':L≤x') (hk:m * 2 ^ (x - L).toNat < 2 ^ K) (hk':m' * 2 ^ (x' - L).toNat < 2 ^ K) :
  ∃ q v y,RSums s m x s' m' x' q v y∧OkD q v y∧L≤y∧sv q (v * 2 ^ (y - L).toNat) = sv s (m * 2 ^ (x - L).toNat)+sv s' (m' * 2 ^ (x' - L).toNat):=by
 have HT:∀ {A:Option Addr} {N C:Nat} {A':Option Addr} {N' C':Nat} (W:World),Num W A N m→Num W A' N' m'→Calls Tryz.prog 25 #[.agg #[.bool s,.slice A N C,.int .i64 x],.agg #[.bool s',.slice A' N' C',.int .i64 x']] W fun e w'=>e = .returned (.int .i64 0)∧Below W.heap.size W w':=fun W g g'=>rtwo_ok s _ _ _ m x s' _ _ _ m' x' W g g' hA hB
 rcases Nat.eq_zero_or_pos m with h0|h0
 ·refine ⟨s',m',x',fun W A N C A' N' C' g g'=>?_,hB,hx',by rw [h0,Nat.zero_mul,sv_zero,Int.zero_add]⟩
  obtain rfl:=g.zero.2 h0
  exact radd_left s A C m x s' A' N' C' m' x' W g g' (hide fun W g g'=>HT W g g') (hide fun W g=>rtwin_num A' N' C' W g)
 rcases Nat.eq_zero_or_pos m' with h1|h1
 ·refine ⟨s,m,x,fun W A N C A' N' C' g g'=>?_,hA,hx,by rw [h1,Nat.zero_mul,sv_zero,Int.add_zero]⟩
  obtain rfl:=g'.zero.2 h1
  exact radd_right s A N C m x s' A' C' m' x' (ne0 g h0) W g g' (hide fun W g g'=>HT W g g') (hide fun W g=>rtwin_num A N C W g)
 have a1:=hA.oddM h0
 have b1:=hB.oddM h1
 obtain ⟨t,ht⟩:∃ t,min x x' = t:=⟨_,rfl⟩
 obtain ⟨i,hi⟩:∃ i:Nat,x - t = (i:Int):=⟨(x - t).toNat,by omega⟩
 obtain ⟨j,hj⟩:∃ j:Nat,x' - t = (j:Int):=⟨(x' - t).toNat,by omega⟩
 obtain ⟨d,hd⟩:∃ d:Nat,t - L = (d:Int):=⟨(t - L).toNat,by omega⟩
 rw [show (x - L).toNat = i+d from by omega,Nat.pow_add,← Nat.mul_assoc] at hk ⊢
 rw [show (x' - L).toNat = j+d from by omega,Nat.pow_add,← Nat.mul_assoc] at hk' ⊢
 have hd1:1≤2 ^ d:=pow_pos2 d
 have ha:m * 2 ^ i < 2 ^ K:=Nat.lt_of_le_of_lt (Nat.le_mul_of_pos_right _ hd1) hk
 have hb:m' * 2 ^ j < 2 ^ K:=Nat.lt_of_le_of_lt (Nat.le_mul_of_pos_right _ hd1) hk'
 have noP:¬ Over (m * 2 ^ i):=not_over ha (by omega)
 have noQ:¬ Over (m' * 2 ^ j):=not_over hb (by omega)
 have p1:2 ^ (K+1) = 2 * 2 ^ K:=by rw [Nat.pow_succ,Nat.mul_comm]
 obtain ⟨P,hP⟩:∃ P,m * 2 ^ i = P:=⟨_,rfl⟩
 obtain ⟨Q,hQ⟩:∃ Q,m' * 2 ^ j = Q:=⟨_,rfl⟩
 have HU:∀ (W:World) (A:Option Addr) (N C:Nat),Num W A N m→Calls Tryz.prog 46 #[.agg #[.slice A N C],.int .i64 (i:Int)] W fun e w'=>(∃ A N C,e = .returned (.tuple #[.agg #[.slice A N C],.int .i64 0])∧Mine w' W.heap.size A N C P)∧Below W.heap.size W w':=by rw [← hP]; exact rup_in noP (by omega)
 have HV:∀ (W:World) (A:Option Addr) (N C:Nat),Num W A N m'→Calls Tryz.prog 46 #[.agg #[.slice A N C],.int .i64 (j:Int)] W fun e w'=>(∃ A N C,e = .returned (.tuple #[.agg #[.slice A N C],.int .i64 0])∧Mine w' W.heap.size A N C Q)∧Below W.heap.size W w':=by rw [← hQ]; exact rup_in noQ (by omega)
 rw [hP] at hk ha noP ⊢
 rw [hQ] at hk' hb noQ ⊢
 by_cases hs:s = s'
 ·subst hs
  obtain ⟨q,v2,y,HM,ok,hy,he⟩:=rmk_in s (P+Q) t L d K hd (by rw [Nat.add_mul]; omega) hK hL hL0 (by omega)
  refine ⟨q,v2,y,fun W A N C A' N' C' g g'=>?_,ok,hy,?_⟩
  ·exact radd_same s A N C m x A' N' C' m' x' t i j P Q (P+Q) q v2 y (ne0 g h0) (ne0 g' h1) ht hi hj a1.2 b1.2 W g g' (hide fun W g g'=>HT W g g') (hide HU) (hide HV) (hide (radd_fit (not_over (n:=K+1) (by omega) (by omega)))) (hide HM)
  ·rw [he,Nat.add_mul]; unfold sv; cases s <;> simp <;> omega
 ·have hsb:(s == s') = false:=by simpa using hs
  by_cases hc:P < Q
  ·obtain ⟨q,v2,y,HM,ok,hy,he⟩:=rmk_in s' (Q - P) t L d K hd (by
    have:(Q - P) * 2 ^ d≤Q * 2 ^ d:=Nat.mul_le_mul_right _ (Nat.sub_le _ _)
    omega) hK hL hL0 (by omega)
   refine ⟨q,v2,y,fun W A N C A' N' C' g g'=>?_,ok,hy,?_⟩
   ·exact radd_lt s A N C m x s' A' N' C' m' x' t i j P Q (Q - P) q v2 y (ne0 g h0) (ne0 g' h1) ht hi hj a1.2 b1.2 W g g' hsb (hide fun W g g'=>HT W g g') (hide HU) (hide HV) (cmpI P Q) (hide fun W A N C A' N' C' g g'=>rcmpApi_any A A' N N' C C' P Q W g g') (by unfold cmpI; rw [if_pos hc]; decide) (hide (rsub_fit (by omega))) (hide HM)
   ·have hm:=Nat.mul_le_mul_right (2 ^ d) (Nat.le_of_lt hc)
    rw [he,Nat.sub_mul]; generalize P * 2 ^ d = uu at *; generalize Q * 2 ^ d = vv at *; unfold sv; cases s <;> cases s' <;> simp at hs ⊢ <;> omega
  ·obtain ⟨q,v2,y,HM,ok,hy,he⟩:=rmk_in s (P - Q) t L d K hd (by
    have:(P - Q) * 2 ^ d≤P * 2 ^ d:=Nat.mul_le_mul_right _ (Nat.sub_le _ _)
    omega) hK hL hL0 (by omega)
   refine ⟨q,v2,y,fun W A N C A' N' C' g g'=>?_,ok,hy,?_⟩
   ·exact radd_ge s A N C m x s' A' N' C' m' x' t i j P Q (P - Q) q v2 y (ne0 g h0) (ne0 g' h1) ht hi hj a1.2 b1.2 W g g' hsb (hide fun W g g'=>HT W g g') (hide HU) (hide HV) (cmpI P Q) (hide fun W A N C A' N' C' g g'=>rcmpApi_any A A' N N' C C' P Q W g g') (by unfold cmpI; rw [if_neg hc]; split <;> decide) (hide (rsub_fit (by omega))) (hide HM)
   ·have hm:=Nat.mul_le_mul_right (2 ^ d) (Nat.le_of_not_lt hc)
    rw [he,Nat.sub_mul]; generalize P * 2 ^ d = uu at *; generalize Q * 2 ^ d = vv at *; unfold sv; cases s <;> cases s' <;> simp at hs ⊢ <;> omega
theorem xzero (E F sg:Int) (s:Bool) (H:Tel 24 #[.agg #[.int .i64 E,.int .i64 F],.bool s] (.int .u64 sg)) (w:World)  :
  Calls Tryz.prog 31 #[.agg #[.int .i64 E,.int .i64 F],.bool s] w fun e w'=>e = .returned (.int .u64 sg)∧Below w.heap.size w w':=by
 go_enter Tryz.func31,Tryz.ntmps31
 go_wp2_with fail
 refine (H _).mono ?_
 rintro e w1 ⟨rfl,hb1⟩
 have hS:=(Fs.one w _ _).kept hb1
 obtain ⟨⟨ya,yb,-⟩,-⟩:=hS.cells
 go_wp2
 go_ret
 exact ⟨rfl,hS.fr⟩
theorem xworth (E F md:Int) (s:Bool) (a:Option Addr) (n cap m:Nat) (x p q:Int) (w:World) (h:Num w a n m) (HR:Hid (∀ W:World,Num W a n m→Calls Tryz.prog 50 #[.agg #[.int .i64 E,.int .i64 F],.agg #[.bool s,.slice a n cap,.int .i64 x,.bool false],.int .u8 md] W fun e w'=>e = .returned (.tuple #[.int .u64 p,.int .u8 q])∧Below W.heap.size W w')) :
  Calls Tryz.prog 30 #[.agg #[.int .i64 E,.int .i64 F],.agg #[.bool s,.slice a n cap,.int .i64 x],.int .u8 md] w fun e w'=>e = .returned (.tuple #[.int .u64 p,.int .u8 q])∧Below w.heap.size w w':=by
 have H:=hide h
 clear h
 go_enter Tryz.func30,Tryz.ntmps30
 go_wp2_with fail
 refine (unhide HR _ ((unhide H).kept (Fs.two w _ _ _ _).fr)).mono ?_
 rintro e w1 ⟨rfl,hb1⟩
 have hS:=(Fs.two w _ _ _ _).kept hb1
 obtain ⟨⟨ya,yb,-⟩,⟨yc,yd,ye,-⟩,-⟩:=hS.cells
 go_wp2
 go_ret2
 exact ⟨rfl,hS.fr⟩
theorem xsum_num (E F:Int) (md:Int) (s:Bool) (a:Option Addr) (n cap m:Nat) (x:Int) (s':Bool) (a':Option Addr) (n' cap' m':Nat) (x':Int) (g g' r:Bool) (v:Nat) (y:Int) (p q:Int) (w:World) (h:Num w a n m) (h':Num w a' n' m') (HS:Hid (RSums s m x s' m' x' r v y)) (hv:0 < v) (HW:Hid (∀ (W:World) (A:Option Addr) (N C:Nat),Num W A N v→Calls Tryz.prog 30 #[.agg #[.int .i64 E,.int .i64 F],.agg #[.bool r,.slice A N C,.int .i64 y],.int .u8 md] W fun e w'=>e = .returned (.tuple #[.int .u64 p,.int .u8 q])∧Below W.heap.size W w')) :
  Calls Tryz.prog 16 #[.agg #[.int .i64 E,.int .i64 F],.agg #[.bool s,.slice a n cap,.int .i64 x],.agg #[.bool s',.slice a' n' cap',.int .i64 x'],.bool g,.bool g',.int .u8 md] w fun e w'=>e = .returned (.tuple #[.int .u64 p,.int .u8 q])∧Below w.heap.size w w':=by
 have H:=hide h
 have H':=hide h'
 clear h h'
 go_enter Tryz.func16,Tryz.ntmps16
 go_wp2_with fail
 refine (unhide HS _ _ _ _ _ _ _ ((unhide H).kept (Fs.three w _ _ _ _ _ _).fr) ((unhide H').kept (Fs.three w _ _ _ _ _ _).fr)).mono ?_
 rintro e w1 ⟨⟨A1,N1,C1,rfl,f1⟩,hb1⟩
 have hS:=(Fs.three w _ _ _ _ _ _).kept hb1
 obtain ⟨⟨ya,yb,-⟩,⟨yc,yd,ye,-⟩,⟨yf,yg,yh,-⟩,-⟩:=hS.cells
 have G1:=hide f1
 clear f1
 have hltw1_0:w.heap.size < w1.heap.size:=hS.lt 0 rfl
 have hltw1_1:w.heap.size+1 < w1.heap.size:=hS.lt 1 rfl
 have hltw1_2:w.heap.size+2 < w1.heap.size:=hS.lt 2 rfl
 obtain ⟨WV1,hWV1⟩:∃ WV1,w1.alloc (.cells #[.bool r,.slice A1 N1 C1,.int .i64 y] 46) = WV1:=⟨_,rfl⟩
 replace hS:=hS.alloc #[.bool r,.slice A1 N1 C1,.int .i64 y] 46
 rw [hWV1] at hS
 replace G1:=hide (hWV1▸(unhide G1).alloc (.cells #[.bool r,.slice A1 N1 C1,.int .i64 y] 46))
 clear ya yb yc yd ye yf yg yh
 obtain ⟨⟨yi,yj,yk,-⟩,⟨yl,ym,-⟩,⟨yn,yo,yp,-⟩,⟨yq,yr,ys,-⟩,-⟩:=hS.cells
 have hN1:(0:Int) < (N1:Int):=by have:=(unhide G1).num.zero; omega
 go_wp2_with fail
 refine (unhide HW _ _ _ _ (unhide G1).num).mono ?_
 rintro e w2 ⟨rfl,hb2⟩
 replace hS:=hS.kept hb2
 clear yi yj yk yl ym yn yo yp yq yr ys
 obtain ⟨⟨yt,yu,yv,-⟩,⟨yw,yx,-⟩,⟨yy,yz,y0,-⟩,⟨y1,y2,y3,-⟩,-⟩:=hS.cells
 replace G1:=hide ((unhide G1).kept hb2)
 go_wp2
 go_ret2
 exact ⟨rfl,hS.fr⟩
theorem xsum_same (E F:Int) (md:Int) (s:Bool) (a:Option Addr) (n cap m:Nat) (x:Int) (s':Bool) (a':Option Addr) (n' cap' m':Nat) (x':Int) (g g' r:Bool) (v:Nat) (y:Int) (sg:Int) (w:World) (h:Num w a n m) (h':Num w a' n' m') (HS:Hid (RSums s m x s' m' x' r v y)) (hv:v = 0) (hn:n = 0) (hg:(g == g') = true) (HZ:Tel 31 #[.agg #[.int .i64 E,.int .i64 F],.bool g] (.int .u64 sg)) :
  Calls Tryz.prog 16 #[.agg #[.int .i64 E,.int .i64 F],.agg #[.bool s,.slice a n cap,.int .i64 x],.agg #[.bool s',.slice a' n' cap',.int .i64 x'],.bool g,.bool g',.int .u8 md] w fun e w'=>e = .returned (.tuple #[.int .u64 sg,.int .u8 0])∧Below w.heap.size w w':=by
 have H:=hide h
 have H':=hide h'
 clear h h'
 subst hn
 go_enter Tryz.func16,Tryz.ntmps16
 go_wp2_with fail
 refine (unhide HS _ _ _ _ _ _ _ ((unhide H).kept (Fs.three w _ _ _ _ _ _).fr) ((unhide H').kept (Fs.three w _ _ _ _ _ _).fr)).mono ?_
 rintro e w1 ⟨⟨A1,N1,C1,rfl,f1⟩,hb1⟩
 have hS:=(Fs.three w _ _ _ _ _ _).kept hb1
 obtain ⟨⟨ya,yb,-⟩,⟨yc,yd,ye,-⟩,⟨yf,yg,yh,-⟩,-⟩:=hS.cells
 have G1:=hide f1
 clear f1
 have hltw1_0:w.heap.size < w1.heap.size:=hS.lt 0 rfl
 have hltw1_1:w.heap.size+1 < w1.heap.size:=hS.lt 1 rfl
 have hltw1_2:w.heap.size+2 < w1.heap.size:=hS.lt 2 rfl
 obtain ⟨WV1,hWV1⟩:∃ WV1,w1.alloc (.cells #[.bool r,.slice A1 N1 C1,.int .i64 y] 46) = WV1:=⟨_,rfl⟩
 replace hS:=hS.alloc #[.bool r,.slice A1 N1 C1,.int .i64 y] 46
 rw [hWV1] at hS
 replace G1:=hide (hWV1▸(unhide G1).alloc (.cells #[.bool r,.slice A1 N1 C1,.int .i64 y] 46))
 clear ya yb yc yd ye yf yg yh
 obtain ⟨⟨yi,yj,yk,-⟩,⟨yl,ym,-⟩,⟨yn,yo,yp,-⟩,⟨yq,yr,ys,-⟩,-⟩:=hS.cells
 obtain rfl:N1 = 0:=by have:=(unhide G1).num.zero; omega
 clear G1
 go_wp2_with fail
 refine (HZ _).mono ?_
 rintro e w2 ⟨rfl,hb2⟩
 replace hS:=hS.kept hb2
 clear yi yj yk yl ym yn yo yp yq yr ys
 obtain ⟨⟨yt,yu,yv,-⟩,⟨yw,yx,-⟩,⟨yy,yz,y0,-⟩,⟨y1,y2,y3,-⟩,-⟩:=hS.cells
 go_wp2
 go_ret2
 exact ⟨rfl,hS.fr⟩
theorem xsum_diff (E F:Int) (md:Int) (s:Bool) (a:Option Addr) (n cap m:Nat) (x:Int) (s':Bool) (a':Option Addr) (n' cap' m':Nat) (x':Int) (g g' r:Bool) (v:Nat) (y:Int) (sg:Int) (w:World) (h:Num w a n m) (h':Num w a' n' m') (HS:Hid (RSums s m x s' m' x' r v y)) (hv:v = 0) (hn:((n:Int) == 0) = false∨(g == g') = false) (r4:Bool) (hr4:(md == (4:Int)) = r4) (HZ:Tel 31 #[.agg #[.int .i64 E,.int .i64 F],.bool r4] (.int .u64 sg)) :
  Calls Tryz.prog 16 #[.agg #[.int .i64 E,.int .i64 F],.agg #[.bool s,.slice a n cap,.int .i64 x],.agg #[.bool s',.slice a' n' cap',.int .i64 x'],.bool g,.bool g',.int .u8 md] w fun e w'=>e = .returned (.tuple #[.int .u64 sg,.int .u8 0])∧Below w.heap.size w w':=by
 have H:=hide h
 have H':=hide h'
 clear h h'
 go_enter Tryz.func16,Tryz.ntmps16
 go_wp2_with fail
 refine (unhide HS _ _ _ _ _ _ _ ((unhide H).kept (Fs.three w _ _ _ _ _ _).fr) ((unhide H').kept (Fs.three w _ _ _ _ _ _).fr)).mono ?_
 rintro e w1 ⟨⟨A1,N1,C1,rfl,f1⟩,hb1⟩
 have hS:=(Fs.three w _ _ _ _ _ _).kept hb1
 obtain ⟨⟨ya,yb,-⟩,⟨yc,yd,ye,-⟩,⟨yf,yg,yh,-⟩,-⟩:=hS.cells
 have G1:=hide f1
 clear f1
 have hltw1_0:w.heap.size < w1.heap.size:=hS.lt 0 rfl
 have hltw1_1:w.heap.size+1 < w1.heap.size:=hS.lt 1 rfl
 have hltw1_2:w.heap.size+2 < w1.heap.size:=hS.lt 2 rfl
 obtain ⟨WV1,hWV1⟩:∃ WV1,w1.alloc (.cells #[.bool r,.slice A1 N1 C1,.int .i64 y] 46) = WV1:=⟨_,rfl⟩
 replace hS:=hS.alloc #[.bool r,.slice A1 N1 C1,.int .i64 y] 46
 rw [hWV1] at hS
 replace G1:=hide (hWV1▸(unhide G1).alloc (.cells #[.bool r,.slice A1 N1 C1,.int .i64 y] 46))
 clear ya yb yc yd ye yf yg yh
 obtain ⟨⟨yi,yj,yk,-⟩,⟨yl,ym,-⟩,⟨yn,yo,yp,-⟩,⟨yq,yr,ys,-⟩,-⟩:=hS.cells
 obtain rfl:N1 = 0:=by have:=(unhide G1).num.zero; omega
 clear G1
 rcases hn with hn|hn
 ·skip
  go_wp2_with fail
  refine (HZ _).mono ?_
  rintro e w2 ⟨rfl,hb2⟩
  replace hS:=hS.kept hb2
  clear yi yj yk yl ym yn yo yp yq yr ys
  obtain ⟨⟨yt,yu,yv,-⟩,⟨yw,yx,-⟩,⟨yy,yz,y0,-⟩,⟨y1,y2,y3,-⟩,-⟩:=hS.cells
  go_wp2
  go_ret2
  exact ⟨rfl,hS.fr⟩
 ·cases hnb:((n:Int) == 0)
  ·skip
   go_wp2_with fail
   refine (HZ _).mono ?_
   rintro e w2 ⟨rfl,hb2⟩
   replace hS:=hS.kept hb2
   clear yi yj yk yl ym yn yo yp yq yr ys
   obtain ⟨⟨yt,yu,yv,-⟩,⟨yw,yx,-⟩,⟨yy,yz,y0,-⟩,⟨y1,y2,y3,-⟩,-⟩:=hS.cells
   go_wp2
   go_ret2
   exact ⟨rfl,hS.fr⟩
  ·skip
   go_wp2_with fail
   refine (HZ _).mono ?_
   rintro e w2 ⟨rfl,hb2⟩
   replace hS:=hS.kept hb2
   clear yi yj yk yl ym yn yo yp yq yr ys
   obtain ⟨⟨yt,yu,yv,-⟩,⟨yw,yx,-⟩,⟨yy,yz,y0,-⟩,⟨y1,y2,y3,-⟩,-⟩:=hS.cells
   go_wp2
   go_ret2
   exact ⟨rfl,hS.fr⟩
theorem xnought_i (g q s:Bool) (A:Option Addr) (N C:Nat) (x:Int) (w:World)  :
  Calls Tryz.prog 13 #[.agg #[.bool g,.bool false,.bool q,.bool true,.bool s,.slice A N C,.int .i64 x]] w fun e w'=>e = .returned (.bool false)∧Below w.heap.size w w':=by
 go_enter Tryz.func13,Tryz.ntmps13
 go_wp2
 go_ret
 exact ⟨rfl,(Fs.one w _ _).fr⟩
theorem xnought_z (g q s:Bool) (A:Option Addr) (N C:Nat) (x:Int) (hN:((N:Int) == 0) = true) (w:World)  :
  Calls Tryz.prog 13 #[.agg #[.bool g,.bool false,.bool q,.bool false,.bool s,.slice A N C,.int .i64 x]] w fun e w'=>e = .returned (.bool true)∧Below w.heap.size w w':=by
 go_enter Tryz.func13,Tryz.ntmps13
 go_wp2
 go_ret
 exact ⟨rfl,(Fs.one w _ _).fr⟩
theorem xnought_n (g q s:Bool) (A:Option Addr) (N C:Nat) (x:Int) (hN:((N:Int) == 0) = false) (w:World)  :
  Calls Tryz.prog 13 #[.agg #[.bool g,.bool false,.bool q,.bool false,.bool s,.slice A N C,.int .i64 x]] w fun e w'=>e = .returned (.bool false)∧Below w.heap.size w w':=by
 go_enter Tryz.func13,Tryz.ntmps13
 go_wp2
 go_ret
 exact ⟨rfl,(Fs.one w _ _).fr⟩
end Go.Proofs.YtfimakkpdjppfaaGreatDoor
