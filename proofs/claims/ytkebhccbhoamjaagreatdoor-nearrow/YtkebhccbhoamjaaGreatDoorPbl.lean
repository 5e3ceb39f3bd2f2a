/- Of what NearRowRow stands on: NrTw NrRSum NrRMid. -/
import Derived.Test.YtkebhccbhoamjaaGreatDoorPbe
import Derived.Test.YtkebhccbhoamjaaGreatDoorPbk
import Derived.Test.YtkebhccbhoamjaaGreatDoorPbc
import Derived.Test.YtkebhccbhoamjaaGreatDoorPbd
namespace Go.Proofs.YtkebhccbhoamjaaGreatDoor
open Go.RowKit
set_option maxHeartbeats 4000000
set_option maxRecDepth 20000
theorem drcheck_dy (s : Bool) (a : Option Addr) (n cap m : Nat) (x : Int) (w : World) (h : Num w a n m) (hA : OkD s m x) :
  Calls Tryz.prog 204 #[.agg #[.bool s,.slice a n cap,.int .i64 x]] w fun e w' => e = .returned (.int .i64 0) ∧ Below w.heap.size w w' := by
 have h0 := h.zero
 obtain ⟨xs,hn,hl,hw,hN,hv,hb⟩ := h
 have := drcheck_any s a n cap xs x w hn (by omega) hl hw
 have hc : chk xs = 0 := chk_ok (by omega) hN
 have hd : dck s xs x = 0 := by
  unfold dck
  rw [if_neg (by rw [hc]; simp)]
  rw [hv,hn]
  rcases hA with ⟨h1,h2,h3⟩ | ⟨h1,h2,h3⟩
  ·rw [if_pos (h0.2 h1),if_neg (by rw [h2,h3]; simp)]
  ·rw [if_neg (by omega),if_neg (by unfold Far; omega)]
 rw [hd] at this
 exact this
theorem rtwo_ok (s : Bool) (a : Option Addr) (n cap m : Nat) (x : Int) (s' : Bool) (a' : Option Addr) (n' cap' m' : Nat) (x' : Int) (w : World) (h : Num w a n m) (h' : Num w a' n' m') (hA : OkD s m x) (hB : OkD s' m' x') :
  Calls Tryz.prog 190 #[.agg #[.bool s,.slice a n cap,.int .i64 x],.agg #[.bool s',.slice a' n' cap',.int .i64 x']] w fun e w' => e = .returned (.int .i64 0) ∧ Below w.heap.size w w' := by
 have H := hide h
 have H' := hide h'
 clear h h'
 go_enter Tryz.func190,Tryz.ntmps190
 go_wp2_with fail
 refine (drcheck_dy s a n cap m x _ ((unhide H).kept (Fs.two w _ _ _ _).fr) hA).mono ?_
 rintro e w1 ⟨rfl,hb1⟩
 have hS := (Fs.two w _ _ _ _).kept hb1
 obtain ⟨⟨ya,yb,yc,-⟩,⟨yd,ye,yf,-⟩,-⟩ := hS.cells
 go_wp2_with fail
 refine (drcheck_dy s' a' n' cap' m' x' _ ((unhide H').kept hS.fr) hB).mono ?_
 rintro e w2 ⟨rfl,hb2⟩
 replace hS := hS.kept hb2
 clear ya yb yc yd ye yf
 obtain ⟨⟨yg,yh,yi,-⟩,⟨yj,yk,yl,-⟩,-⟩ := hS.cells
 go_wp2
 go_ret
 exact ⟨rfl,hS.fr⟩
theorem rnone_0 (a : Option Addr) (cap : Nat) (w : World)  :
  Calls Tryz.prog 178 #[.agg #[.slice a 0 cap]] w fun e w' => e = .returned (.bool true) ∧ Below w.heap.size w w' := by
 go_enter Tryz.func178,Tryz.ntmps178
 go_wp2
 go_ret
 exact ⟨rfl,(Fs.one w _ _).fr⟩
theorem rnone_n (a : Option Addr) (n cap : Nat) (hn : ((n : Int) == 0) = false) (w : World)  :
  Calls Tryz.prog 178 #[.agg #[.slice a n cap]] w fun e w' => e = .returned (.bool false) ∧ Below w.heap.size w w' := by
 go_enter Tryz.func178,Tryz.ntmps178
 go_wp2
 go_ret
 exact ⟨rfl,(Fs.one w _ _).fr⟩
theorem rtwin4 (s : Bool) (a : Option Addr) (n cap m : Nat) (x : Int) (w : World) (h : Num w a n m) (HT : Hid (∀ W : World,Num W a n m → Calls Tryz.prog 249 #[.agg #[.slice a n cap]] W fun e w' => (∃ A N C,e = .returned (.agg #[.slice A N C]) ∧ Mine w' W.heap.size A N C m) ∧ Below W.heap.size W w')) :
  Calls Tryz.prog 191 #[.agg #[.bool s,.slice a n cap,.int .i64 x]] w fun e w' => (∃ A N C,e = .returned (.agg #[.bool s,.slice A N C,.int .i64 x]) ∧ Mine w' w.heap.size A N C m) ∧ Below w.heap.size w w' := by
 have H := hide h
 clear h
 go_enter Tryz.func191,Tryz.ntmps191
 go_wp2_with fail
 refine (unhide HT _ ((unhide H).kept (Fs.two w _ _ _ _).fr)).mono ?_
 rintro e w1 ⟨⟨A1,N1,C1,rfl,f1⟩,hb1⟩
 have hS := (Fs.two w _ _ _ _).kept hb1
 obtain ⟨⟨ya,yb,yc,-⟩,⟨yd,ye,yf,-⟩,-⟩ := hS.cells
 have G1 := hide (f1.mono (base' := w.heap.size + 2) (by simp))
 clear f1
 have Q_ := hS.frozen (b := w.heap.size) (cs := #[.bool s,.slice a n cap,.int .i64 x]) (t := 33) (by simp)
 have fb0 := Q_ 0
 have fb1 := Q_ 1
 have fb2 := Q_ 2
 clear Q_
 have Q_ := hS.frozen (b := w.heap.size + 1) (cs := #[.bool false,.slice none 0 0,.int .i64 0]) (t := 33) (by simp)
 have fz0 := Q_ 0
 have fz1 := Q_ 1
 have fz2 := Q_ 2
 clear Q_
 go_wp2
 exact bodyPost_ret (v := .agg #[.bool s,.slice A1 N1 C1,.int .i64 x]) (by simp [results,Tryz.results191,go_sem,yd,ye,yf]) rfl ⟨⟨_,_,_,rfl,Mine.mono (((((unhide G1).set (by simp) _).set (by simp) _).set (by simp) _).set (by simp) _) (by omega)⟩,(((hS.fr.setCell (by simp) _).setCell (by simp) _).setCell (by simp) _).setCell (by simp) _⟩
theorem radd_left (s : Bool) (a : Option Addr) (cap m : Nat) (x : Int) (s' : Bool) (a' : Option Addr) (n' cap' m' : Nat) (x' : Int)  (w : World) (h : Num w a 0 m) (h' : Num w a' n' m') (HT : Hid (∀ W : World,Num W a 0 m → Num W a' n' m' → Calls Tryz.prog 190 #[.agg #[.bool s,.slice a 0 cap,.int .i64 x],.agg #[.bool s',.slice a' n' cap',.int .i64 x']] W fun e w' => e = .returned (.int .i64 0) ∧ Below W.heap.size W w')) (HW : Hid (∀ W : World,Num W a' n' m' → Calls Tryz.prog 249 #[.agg #[.slice a' n' cap']] W fun e w' => (∃ A N C,e = .returned (.agg #[.slice A N C]) ∧ Mine w' W.heap.size A N C m') ∧ Below W.heap.size W w')) :
  Calls Tryz.prog 125 #[.agg #[.bool s,.slice a 0 cap,.int .i64 x],.agg #[.bool s',.slice a' n' cap',.int .i64 x']] w fun e w' => (∃ A N C,e = .returned (.tuple #[.agg #[.bool s',.slice A N C,.int .i64 x'],.int .i64 0]) ∧ Mine w' w.heap.size A N C m') ∧ Below w.heap.size w w' := by
 have H := hide h
 have H' := hide h'
 clear h h'
 go_enter Tryz.func125,Tryz.ntmps125
 go_wp2_with fail
 refine (unhide HT _ ((unhide H).kept (Fs.three w _ _ _ _ _ _).fr) ((unhide H').kept (Fs.three w _ _ _ _ _ _).fr)).mono ?_
 rintro e w1 ⟨rfl,hb1⟩
 have hS := (Fs.three w _ _ _ _ _ _).kept hb1
 obtain ⟨⟨ya,yb,yc,-⟩,⟨yd,ye,yf,-⟩,⟨yg,yh,yi,-⟩,-⟩ := hS.cells
 go_wp2_with fail
 refine (rnone_0 a cap _).mono ?_
 rintro e w2 ⟨rfl,hb2⟩
 replace hS := hS.kept hb2
 clear ya yb yc yd ye yf yg yh yi
 obtain ⟨⟨yj,yk,yl,-⟩,⟨ym,yn,yo,-⟩,⟨yp,yq,yr,-⟩,-⟩ := hS.cells
 have hltw2_0 : w.heap.size < w2.heap.size := hS.lt 0 rfl
 have hltw2_1 : w.heap.size + 1 < w2.heap.size := hS.lt 1 rfl
 have hltw2_2 : w.heap.size + 2 < w2.heap.size := hS.lt 2 rfl
 go_wp2_with fail
 refine (rtwin4 s' a' n' cap' m' x' _ ((unhide H').kept hS.fr) HW).mono ?_
 rintro e w3 ⟨⟨A1,N1,C1,rfl,f1⟩,hb3⟩
 replace hS := hS.kept hb3
 clear yj yk yl ym yn yo yp yq yr
 obtain ⟨⟨ys,yt,yu,-⟩,⟨yv,yw,yx,-⟩,⟨yy,yz,y0,-⟩,-⟩ := hS.cells
 have G1 := hide (f1.mono (base' := w.heap.size + 3) hltw2_2)
 clear f1
 have Q_ := hS.frozen (b := w.heap.size + 2) (cs := #[.bool false,.slice none 0 0,.int .i64 0]) (t := 33) (by simp)
 have fz0 := Q_ 0
 have fz1 := Q_ 1
 have fz2 := Q_ 2
 clear Q_
 go_wp2
 exact bodyPost_ret (v := .tuple #[.agg #[.bool s',.slice A1 N1 C1,.int .i64 x'],.int .i64 0]) (by simp [results,Tryz.results125,go_sem,yy,yz,y0]) rfl ⟨⟨_,_,_,rfl,Mine.mono ((((unhide G1).set (by simp) _).set (by simp) _).set (by simp) _) (by omega)⟩,((hS.fr.setCell (by simp <;> omega) _).setCell (by simp <;> omega) _).setCell (by simp <;> omega) _⟩
theorem radd_right (s : Bool) (a : Option Addr) (n cap m : Nat) (x : Int) (s' : Bool) (a' : Option Addr) (cap' m' : Nat) (x' : Int) (hn : ((n : Int) == 0) = false) (w : World) (h : Num w a n m) (h' : Num w a' 0 m') (HT : Hid (∀ W : World,Num W a n m → Num W a' 0 m' → Calls Tryz.prog 190 #[.agg #[.bool s,.slice a n cap,.int .i64 x],.agg #[.bool s',.slice a' 0 cap',.int .i64 x']] W fun e w' => e = .returned (.int .i64 0) ∧ Below W.heap.size W w')) (HW : Hid (∀ W : World,Num W a n m → Calls Tryz.prog 249 #[.agg #[.slice a n cap]] W fun e w' => (∃ A N C,e = .returned (.agg #[.slice A N C]) ∧ Mine w' W.heap.size A N C m) ∧ Below W.heap.size W w')) :
  Calls Tryz.prog 125 #[.agg #[.bool s,.slice a n cap,.int .i64 x],.agg #[.bool s',.slice a' 0 cap',.int .i64 x']] w fun e w' => (∃ A N C,e = .returned (.tuple #[.agg #[.bool s,.slice A N C,.int .i64 x],.int .i64 0]) ∧ Mine w' w.heap.size A N C m) ∧ Below w.heap.size w w' := by
 have H := hide h
 have H' := hide h'
 clear h h'
 go_enter Tryz.func125,Tryz.ntmps125
 go_wp2_with fail
 refine (unhide HT _ ((unhide H).kept (Fs.three w _ _ _ _ _ _).fr) ((unhide H').kept (Fs.three w _ _ _ _ _ _).fr)).mono ?_
 rintro e w1 ⟨rfl,hb1⟩
 have hS := (Fs.three w _ _ _ _ _ _).kept hb1
 obtain ⟨⟨ya,yb,yc,-⟩,⟨yd,ye,yf,-⟩,⟨yg,yh,yi,-⟩,-⟩ := hS.cells
 go_wp2_with fail
 refine (rnone_n a n cap hn _).mono ?_
 rintro e w2 ⟨rfl,hb2⟩
 replace hS := hS.kept hb2
 clear ya yb yc yd ye yf yg yh yi
 obtain ⟨⟨yj,yk,yl,-⟩,⟨ym,yn,yo,-⟩,⟨yp,yq,yr,-⟩,-⟩ := hS.cells
 go_wp2_with fail
 refine (rnone_0 a' cap' _).mono ?_
 rintro e w3 ⟨rfl,hb3⟩
 replace hS := hS.kept hb3
 clear yj yk yl ym yn yo yp yq yr
 obtain ⟨⟨ys,yt,yu,-⟩,⟨yv,yw,yx,-⟩,⟨yy,yz,y0,-⟩,-⟩ := hS.cells
 have hltw3_0 : w.heap.size < w3.heap.size := hS.lt 0 rfl
 have hltw3_1 : w.heap.size + 1 < w3.heap.size := hS.lt 1 rfl
 have hltw3_2 : w.heap.size + 2 < w3.heap.size := hS.lt 2 rfl
 go_wp2_with fail
 refine (rtwin4 s a n cap m x _ ((unhide H).kept hS.fr) HW).mono ?_
 rintro e w4 ⟨⟨A1,N1,C1,rfl,f1⟩,hb4⟩
 replace hS := hS.kept hb4
 clear ys yt yu yv yw yx yy yz y0
 obtain ⟨⟨y1,y2,y3,-⟩,⟨y4,y5,y6,-⟩,⟨y7,y8,y9,-⟩,-⟩ := hS.cells
 have G1 := hide (f1.mono (base' := w.heap.size + 3) hltw3_2)
 clear f1
 have Q_ := hS.frozen (b := w.heap.size + 2) (cs := #[.bool false,.slice none 0 0,.int .i64 0]) (t := 33) (by simp)
 have fz0 := Q_ 0
 have fz1 := Q_ 1
 have fz2 := Q_ 2
 clear Q_
 go_wp2
 exact bodyPost_ret (v := .tuple #[.agg #[.bool s,.slice A1 N1 C1,.int .i64 x],.int .i64 0]) (by simp [results,Tryz.results125,go_sem,y7,y8,y9]) rfl ⟨⟨_,_,_,rfl,Mine.mono ((((unhide G1).set (by simp) _).set (by simp) _).set (by simp) _) (by omega)⟩,((hS.fr.setCell (by simp <;> omega) _).setCell (by simp <;> omega) _).setCell (by simp <;> omega) _⟩
theorem radd_same (s : Bool) (a : Option Addr) (n cap m : Nat) (x : Int) (a' : Option Addr) (n' cap' m' : Nat) (x' : Int) (t : Int) (i j P Q v : Nat) (r : Bool) (v2 : Nat) (y : Int) (hn : ((n : Int) == 0) = false) (hn' : ((n' : Int) == 0) = false) (ht : min x x' = t) (hi : x - t = (i : Int)) (hj : x' - t = (j : Int)) (hx : -1073741824 ≤ x ∧ x ≤ 1073741824) (hx' : -1073741824 ≤ x' ∧ x' ≤ 1073741824)  (w : World) (h : Num w a n m) (h' : Num w a' n' m') (HT : Hid (∀ W : World,Num W a n m → Num W a' n' m' → Calls Tryz.prog 190 #[.agg #[.bool s,.slice a n cap,.int .i64 x],.agg #[.bool s,.slice a' n' cap',.int .i64 x']] W fun e w' => e = .returned (.int .i64 0) ∧ Below W.heap.size W w')) (HU : Hid (∀ (W : World) (A : Option Addr) (N C : Nat),Num W A N m → Calls Tryz.prog 192 #[.agg #[.slice A N C],.int .i64 (i : Int)] W fun e w' => (∃ A N C,e = .returned (.tuple #[.agg #[.slice A N C],.int .i64 0]) ∧ Mine w' W.heap.size A N C P) ∧ Below W.heap.size W w')) (HV : Hid (∀ (W : World) (A : Option Addr) (N C : Nat),Num W A N m' → Calls Tryz.prog 192 #[.agg #[.slice A N C],.int .i64 (j : Int)] W fun e w' => (∃ A N C,e = .returned (.tuple #[.agg #[.slice A N C],.int .i64 0]) ∧ Mine w' W.heap.size A N C Q) ∧ Below W.heap.size W w')) (HA : Hid (∀ (W : World) (A : Option Addr) (N C : Nat) (A' : Option Addr) (N' C' : Nat),Num W A N P → Num W A' N' Q → Calls Tryz.prog 193 #[.agg #[.slice A N C],.agg #[.slice A' N' C']] W fun e w' => (∃ A N C,e = .returned (.tuple #[.agg #[.slice A N C],.int .i64 0]) ∧ Mine w' W.heap.size A N C v) ∧ Below W.heap.size W w')) (HM : Hid (∀ (W : World) (A : Option Addr) (N C : Nat),Num W A N v → Calls Tryz.prog 116 #[.bool s,.agg #[.slice A N C],.int .i64 t] W fun e w' => (∃ A N C,e = .returned (.tuple #[.agg #[.bool r,.slice A N C,.int .i64 y],.int .i64 0]) ∧ Mine w' W.heap.size A N C v2) ∧ Below W.heap.size W w')) :
  Calls Tryz.prog 125 #[.agg #[.bool s,.slice a n cap,.int .i64 x],.agg #[.bool s,.slice a' n' cap',.int .i64 x']] w fun e w' => (∃ A N C,e = .returned (.tuple #[.agg #[.bool r,.slice A N C,.int .i64 y],.int .i64 0]) ∧ Mine w' w.heap.size A N C v2) ∧ Below w.heap.size w w' := by
 have H := hide h
 have H' := hide h'
 clear h h'
 go_enter Tryz.func125,Tryz.ntmps125
 go_wp2_with fail
 refine (unhide HT _ ((unhide H).kept (Fs.three w _ _ _ _ _ _).fr) ((unhide H').kept (Fs.three w _ _ _ _ _ _).fr)).mono ?_
 rintro e w1 ⟨rfl,hb1⟩
 have hS := (Fs.three w _ _ _ _ _ _).kept hb1
 obtain ⟨⟨ya,yb,yc,-⟩,⟨yd,ye,yf,-⟩,⟨yg,yh,yi,-⟩,-⟩ := hS.cells
 go_wp2_with fail
 refine (rnone_n a n cap hn _).mono ?_
 rintro e w2 ⟨rfl,hb2⟩
 replace hS := hS.kept hb2
 clear ya yb yc yd ye yf yg yh yi
 obtain ⟨⟨yj,yk,yl,-⟩,⟨ym,yn,yo,-⟩,⟨yp,yq,yr,-⟩,-⟩ := hS.cells
 go_wp2_with fail
 refine (rnone_n a' n' cap' hn' _).mono ?_
 rintro e w3 ⟨rfl,hb3⟩
 replace hS := hS.kept hb3
 clear yj yk yl ym yn yo yp yq yr
 obtain ⟨⟨ys,yt,yu,-⟩,⟨yv,yw,yx,-⟩,⟨yy,yz,y0,-⟩,-⟩ := hS.cells
 have hltw3_0 : w.heap.size < w3.heap.size := hS.lt 0 rfl
 have hltw3_1 : w.heap.size + 1 < w3.heap.size := hS.lt 1 rfl
 have hltw3_2 : w.heap.size + 2 < w3.heap.size := hS.lt 2 rfl
 go_wp2_with fail
 refine (unhide HU _ _ _ _ ((unhide H).kept hS.fr)).mono ?_
 rintro e w4 ⟨⟨A1,N1,C1,rfl,f1⟩,hb4⟩
 replace hS := hS.kept hb4
 clear ys yt yu yv yw yx yy yz y0
 obtain ⟨⟨y1,y2,y3,-⟩,⟨y4,y5,y6,-⟩,⟨y7,y8,y9,-⟩,-⟩ := hS.cells
 have G1 := hide (f1.mono (base' := w.heap.size + 3) hltw3_2)
 clear f1
 have hltw4_0 : w.heap.size < w4.heap.size := hS.lt 0 rfl
 have hltw4_1 : w.heap.size + 1 < w4.heap.size := hS.lt 1 rfl
 have hltw4_2 : w.heap.size + 2 < w4.heap.size := hS.lt 2 rfl
 obtain ⟨WA,hWA⟩ : ∃ WA,w4.alloc (.cells #[.slice A1 N1 C1] 31) = WA := ⟨_,rfl⟩
 replace hS := hS.alloc #[.slice A1 N1 C1] 31
 rw [hWA] at hS
 replace G1 := hide (hWA ▸ (unhide G1).alloc (.cells #[.slice A1 N1 C1] 31))
 clear y1 y2 y3 y4 y5 y6 y7 y8 y9
 obtain ⟨⟨yba,-⟩,⟨ybb,ybc,ybd,-⟩,⟨ybe,ybf,ybg,-⟩,⟨ybh,ybi,ybj,-⟩,-⟩ := hS.cells
 have hltWA_0 : w4.heap.size < WA.heap.size := hS.lt 0 rfl
 have hltWA_1 : w.heap.size < WA.heap.size := hS.lt 1 rfl
 have hltWA_2 : w.heap.size + 1 < WA.heap.size := hS.lt 2 rfl
 have hltWA_3 : w.heap.size + 2 < WA.heap.size := hS.lt 3 rfl
 go_wp2_with fail
 refine (unhide HV _ _ _ _ ((unhide H').kept hS.fr)).mono ?_
 rintro e w5 ⟨⟨A2,N2,C2,rfl,f2⟩,hb5⟩
 replace hS := hS.kept hb5
 clear yba ybb ybc ybd ybe ybf ybg ybh ybi ybj
 obtain ⟨⟨ybk,-⟩,⟨ybl,ybm,ybn,-⟩,⟨ybo,ybp,ybq,-⟩,⟨ybr,ybs,ybt,-⟩,-⟩ := hS.cells
 replace G1 := hide ((unhide G1).kept hb5)
 have G2 := hide (f2.mono (base' := w.heap.size + 3) hltWA_3)
 clear f2
 have hltw5_0 : w4.heap.size < w5.heap.size := hS.lt 0 rfl
 have hltw5_1 : w.heap.size < w5.heap.size := hS.lt 1 rfl
 have hltw5_2 : w.heap.size + 1 < w5.heap.size := hS.lt 2 rfl
 have hltw5_3 : w.heap.size + 2 < w5.heap.size := hS.lt 3 rfl
 obtain ⟨WB,hWB⟩ : ∃ WB,w5.alloc (.cells #[.slice A2 N2 C2] 31) = WB := ⟨_,rfl⟩
 replace hS := hS.alloc #[.slice A2 N2 C2] 31
 rw [hWB] at hS
 replace G1 := hide (hWB ▸ (unhide G1).alloc (.cells #[.slice A2 N2 C2] 31))
 replace G2 := hide (hWB ▸ (unhide G2).alloc (.cells #[.slice A2 N2 C2] 31))
 clear ybk ybl ybm ybn ybo ybp ybq ybr ybs ybt
 obtain ⟨⟨ybu,-⟩,⟨ybv,-⟩,⟨ybw,ybx,yby,-⟩,⟨ybz,yb0,yb1,-⟩,⟨yb2,yb3,yb4,-⟩,-⟩ := hS.cells
 have hltWB_0 : w5.heap.size < WB.heap.size := hS.lt 0 rfl
 have hltWB_1 : w4.heap.size < WB.heap.size := hS.lt 1 rfl
 have hltWB_2 : w.heap.size < WB.heap.size := hS.lt 2 rfl
 have hltWB_3 : w.heap.size + 1 < WB.heap.size := hS.lt 3 rfl
 have hltWB_4 : w.heap.size + 2 < WB.heap.size := hS.lt 4 rfl
 go_wp2_with fail
 refine (unhide HA _ _ _ _ _ _ _ (unhide G1).num (unhide G2).num).mono ?_
 rintro e w6 ⟨⟨A3,N3,C3,rfl,f3⟩,hb6⟩
 replace hS := hS.kept hb6
 clear ybu ybv ybw ybx yby ybz yb0 yb1 yb2 yb3 yb4
 obtain ⟨⟨yb5,-⟩,⟨yb6,-⟩,⟨yb7,yb8,yb9,-⟩,⟨yca,ycb,ycc,-⟩,⟨ycd,yce,ycf,-⟩,-⟩ := hS.cells
 replace G1 := hide ((unhide G1).kept hb6)
 replace G2 := hide ((unhide G2).kept hb6)
 have G3 := hide (f3.mono (base' := w.heap.size + 3) hltWB_4)
 clear f3
 have hltw6_0 : w5.heap.size < w6.heap.size := hS.lt 0 rfl
 have hltw6_1 : w4.heap.size < w6.heap.size := hS.lt 1 rfl
 have hltw6_2 : w.heap.size < w6.heap.size := hS.lt 2 rfl
 have hltw6_3 : w.heap.size + 1 < w6.heap.size := hS.lt 3 rfl
 have hltw6_4 : w.heap.size + 2 < w6.heap.size := hS.lt 4 rfl
 obtain ⟨WC,hWC⟩ : ∃ WC,w6.alloc (.cells #[.slice A3 N3 C3] 31) = WC := ⟨_,rfl⟩
 replace hS := hS.alloc #[.slice A3 N3 C3] 31
 rw [hWC] at hS
 replace G1 := hide (hWC ▸ (unhide G1).alloc (.cells #[.slice A3 N3 C3] 31))
 replace G2 := hide (hWC ▸ (unhide G2).alloc (.cells #[.slice A3 N3 C3] 31))
 replace G3 := hide (hWC ▸ (unhide G3).alloc (.cells #[.slice A3 N3 C3] 31))
 clear yb5 yb6 yb7 yb8 yb9 yca ycb ycc ycd yce ycf
 obtain ⟨⟨ycg,-⟩,⟨ych,-⟩,⟨yci,-⟩,⟨ycj,yck,ycl,-⟩,⟨ycm,ycn,yco,-⟩,⟨ycp,ycq,ycr,-⟩,-⟩ := hS.cells
 have hltWC_0 : w6.heap.size < WC.heap.size := hS.lt 0 rfl
 have hltWC_1 : w5.heap.size < WC.heap.size := hS.lt 1 rfl
 have hltWC_2 : w4.heap.size < WC.heap.size := hS.lt 2 rfl
 have hltWC_3 : w.heap.size < WC.heap.size := hS.lt 3 rfl
 have hltWC_4 : w.heap.size + 1 < WC.heap.size := hS.lt 4 rfl
 have hltWC_5 : w.heap.size + 2 < WC.heap.size := hS.lt 5 rfl
 go_wp2_with fail
 refine (unhide HM _ _ _ _ (unhide G3).num).mono ?_
 rintro e w7 ⟨⟨A4,N4,C4,rfl,f4⟩,hb7⟩
 replace hS := hS.kept hb7
 clear ycg ych yci ycj yck ycl ycm ycn yco ycp ycq ycr
 obtain ⟨⟨ycs,-⟩,⟨yct,-⟩,⟨ycu,-⟩,⟨ycv,ycw,ycx,-⟩,⟨ycy,ycz,yc0,-⟩,⟨yc1,yc2,yc3,-⟩,-⟩ := hS.cells
 replace G1 := hide ((unhide G1).kept hb7)
 replace G2 := hide ((unhide G2).kept hb7)
 replace G3 := hide ((unhide G3).kept hb7)
 have G4 := hide (f4.mono (base' := w.heap.size + 3) hltWC_5)
 clear f4
 have Q_ := hS.frozen (b := w.heap.size + 2) (cs := #[.bool false,.slice none 0 0,.int .i64 0]) (t := 33) (by simp)
 have fz0 := Q_ 0
 have fz1 := Q_ 1
 have fz2 := Q_ 2
 clear Q_
 go_wp2
 exact bodyPost_ret (v := .tuple #[.agg #[.bool r,.slice A4 N4 C4,.int .i64 y],.int .i64 0]) (by simp [results,Tryz.results125,go_sem,yc1,yc2,yc3]) rfl ⟨⟨_,_,_,rfl,Mine.mono ((((unhide G4).set (by simp) _).set (by simp) _).set (by simp) _) (by omega)⟩,((hS.fr.setCell (by simp <;> omega) _).setCell (by simp <;> omega) _).setCell (by simp <;> omega) _⟩
theorem radd_lt (s : Bool) (a : Option Addr) (n cap m : Nat) (x : Int) (s' : Bool) (a' : Option Addr) (n' cap' m' : Nat) (x' : Int) (t : Int) (i j P Q v : Nat) (r : Bool) (v2 : Nat) (y : Int) (hn : ((n : Int) == 0) = false) (hn' : ((n' : Int) == 0) = false) (ht : min x x' = t) (hi : x - t = (i : Int)) (hj : x' - t = (j : Int)) (hx : -1073741824 ≤ x ∧ x ≤ 1073741824) (hx' : -1073741824 ≤ x' ∧ x' ≤ 1073741824)  (w : World) (h : Num w a n m) (h' : Num w a' n' m') (hs : (s == s') = false) (HT : Hid (∀ W : World,Num W a n m → Num W a' n' m' → Calls Tryz.prog 190 #[.agg #[.bool s,.slice a n cap,.int .i64 x],.agg #[.bool s',.slice a' n' cap',.int .i64 x']] W fun e w' => e = .returned (.int .i64 0) ∧ Below W.heap.size W w')) (HU : Hid (∀ (W : World) (A : Option Addr) (N C : Nat),Num W A N m → Calls Tryz.prog 192 #[.agg #[.slice A N C],.int .i64 (i : Int)] W fun e w' => (∃ A N C,e = .returned (.tuple #[.agg #[.slice A N C],.int .i64 0]) ∧ Mine w' W.heap.size A N C P) ∧ Below W.heap.size W w')) (HV : Hid (∀ (W : World) (A : Option Addr) (N C : Nat),Num W A N m' → Calls Tryz.prog 192 #[.agg #[.slice A N C],.int .i64 (j : Int)] W fun e w' => (∃ A N C,e = .returned (.tuple #[.agg #[.slice A N C],.int .i64 0]) ∧ Mine w' W.heap.size A N C Q) ∧ Below W.heap.size W w')) (c : Int) (HC : Hid (∀ (W : World) (A : Option Addr) (N C : Nat) (A' : Option Addr) (N' C' : Nat),Num W A N P → Num W A' N' Q → Calls Tryz.prog 194 #[.agg #[.slice A N C],.agg #[.slice A' N' C']] W fun e w' => e = .returned (.tuple #[.int .i64 c,.int .i64 0]) ∧ Below W.heap.size W w')) (hc : c < 0) (HA : Hid (∀ (W : World) (A : Option Addr) (N C : Nat) (A' : Option Addr) (N' C' : Nat),Num W A N Q → Num W A' N' P → Calls Tryz.prog 195 #[.agg #[.slice A N C],.agg #[.slice A' N' C']] W fun e w' => (∃ A N C,e = .returned (.tuple #[.agg #[.slice A N C],.bool true,.int .i64 0]) ∧ Mine w' W.heap.size A N C v) ∧ Below W.heap.size W w')) (HM : Hid (∀ (W : World) (A : Option Addr) (N C : Nat),Num W A N v → Calls Tryz.prog 116 #[.bool s',.agg #[.slice A N C],.int .i64 t] W fun e w' => (∃ A N C,e = .returned (.tuple #[.agg #[.bool r,.slice A N C,.int .i64 y],.int .i64 0]) ∧ Mine w' W.heap.size A N C v2) ∧ Below W.heap.size W w')) :
  Calls Tryz.prog 125 #[.agg #[.bool s,.slice a n cap,.int .i64 x],.agg #[.bool s',.slice a' n' cap',.int .i64 x']] w fun e w' => (∃ A N C,e = .returned (.tuple #[.agg #[.bool r,.slice A N C,.int .i64 y],.int .i64 0]) ∧ Mine w' w.heap.size A N C v2) ∧ Below w.heap.size w w' := by
 have H := hide h
 have H' := hide h'
 clear h h'
 go_enter Tryz.func125,Tryz.ntmps125
 go_wp2_with fail
 refine (unhide HT _ ((unhide H).kept (Fs.three w _ _ _ _ _ _).fr) ((unhide H').kept (Fs.three w _ _ _ _ _ _).fr)).mono ?_
 rintro e w1 ⟨rfl,hb1⟩
 have hS := (Fs.three w _ _ _ _ _ _).kept hb1
 obtain ⟨⟨ya,yb,yc,-⟩,⟨yd,ye,yf,-⟩,⟨yg,yh,yi,-⟩,-⟩ := hS.cells
 go_wp2_with fail
 refine (rnone_n a n cap hn _).mono ?_
 rintro e w2 ⟨rfl,hb2⟩
 replace hS := hS.kept hb2
 clear ya yb yc yd ye yf yg yh yi
 obtain ⟨⟨yj,yk,yl,-⟩,⟨ym,yn,yo,-⟩,⟨yp,yq,yr,-⟩,-⟩ := hS.cells
 go_wp2_with fail
 refine (rnone_n a' n' cap' hn' _).mono ?_
 rintro e w3 ⟨rfl,hb3⟩
 replace hS := hS.kept hb3
 clear yj yk yl ym yn yo yp yq yr
 obtain ⟨⟨ys,yt,yu,-⟩,⟨yv,yw,yx,-⟩,⟨yy,yz,y0,-⟩,-⟩ := hS.cells
 have hltw3_0 : w.heap.size < w3.heap.size := hS.lt 0 rfl
 have hltw3_1 : w.heap.size + 1 < w3.heap.size := hS.lt 1 rfl
 have hltw3_2 : w.heap.size + 2 < w3.heap.size := hS.lt 2 rfl
 go_wp2_with fail
 refine (unhide HU _ _ _ _ ((unhide H).kept hS.fr)).mono ?_
 rintro e w4 ⟨⟨A1,N1,C1,rfl,f1⟩,hb4⟩
 replace hS := hS.kept hb4
 clear ys yt yu yv yw yx yy yz y0
 obtain ⟨⟨y1,y2,y3,-⟩,⟨y4,y5,y6,-⟩,⟨y7,y8,y9,-⟩,-⟩ := hS.cells
 have G1 := hide (f1.mono (base' := w.heap.size + 3) hltw3_2)
 clear f1
 have hltw4_0 : w.heap.size < w4.heap.size := hS.lt 0 rfl
 have hltw4_1 : w.heap.size + 1 < w4.heap.size := hS.lt 1 rfl
 have hltw4_2 : w.heap.size + 2 < w4.heap.size := hS.lt 2 rfl
 obtain ⟨WA,hWA⟩ : ∃ WA,w4.alloc (.cells #[.slice A1 N1 C1] 31) = WA := ⟨_,rfl⟩
 replace hS := hS.alloc #[.slice A1 N1 C1] 31
 rw [hWA] at hS
 replace G1 := hide (hWA ▸ (unhide G1).alloc (.cells #[.slice A1 N1 C1] 31))
 clear y1 y2 y3 y4 y5 y6 y7 y8 y9
 obtain ⟨⟨yba,-⟩,⟨ybb,ybc,ybd,-⟩,⟨ybe,ybf,ybg,-⟩,⟨ybh,ybi,ybj,-⟩,-⟩ := hS.cells
 have hltWA_0 : w4.heap.size < WA.heap.size := hS.lt 0 rfl
 have hltWA_1 : w.heap.size < WA.heap.size := hS.lt 1 rfl
 have hltWA_2 : w.heap.size + 1 < WA.heap.size := hS.lt 2 rfl
 have hltWA_3 : w.heap.size + 2 < WA.heap.size := hS.lt 3 rfl
 go_wp2_with fail
 refine (unhide HV _ _ _ _ ((unhide H').kept hS.fr)).mono ?_
 rintro e w5 ⟨⟨A2,N2,C2,rfl,f2⟩,hb5⟩
 replace hS := hS.kept hb5
 clear yba ybb ybc ybd ybe ybf ybg ybh ybi ybj
 obtain ⟨⟨ybk,-⟩,⟨ybl,ybm,ybn,-⟩,⟨ybo,ybp,ybq,-⟩,⟨ybr,ybs,ybt,-⟩,-⟩ := hS.cells
 replace G1 := hide ((unhide G1).kept hb5)
 have G2 := hide (f2.mono (base' := w.heap.size + 3) hltWA_3)
 clear f2
 have hltw5_0 : w4.heap.size < w5.heap.size := hS.lt 0 rfl
 have hltw5_1 : w.heap.size < w5.heap.size := hS.lt 1 rfl
 have hltw5_2 : w.heap.size + 1 < w5.heap.size := hS.lt 2 rfl
 have hltw5_3 : w.heap.size + 2 < w5.heap.size := hS.lt 3 rfl
 obtain ⟨WB,hWB⟩ : ∃ WB,w5.alloc (.cells #[.slice A2 N2 C2] 31) = WB := ⟨_,rfl⟩
 replace hS := hS.alloc #[.slice A2 N2 C2] 31
 rw [hWB] at hS
 replace G1 := hide (hWB ▸ (unhide G1).alloc (.cells #[.slice A2 N2 C2] 31))
 replace G2 := hide (hWB ▸ (unhide G2).alloc (.cells #[.slice A2 N2 C2] 31))
 clear ybk ybl ybm ybn ybo ybp ybq ybr ybs ybt
 obtain ⟨⟨ybu,-⟩,⟨ybv,-⟩,⟨ybw,ybx,yby,-⟩,⟨ybz,yb0,yb1,-⟩,⟨yb2,yb3,yb4,-⟩,-⟩ := hS.cells
 go_wp2_with fail
 refine (unhide HC _ _ _ _ _ _ _ (unhide G1).num (unhide G2).num).mono ?_
 rintro e w6 ⟨rfl,hb6⟩
 replace hS := hS.kept hb6
 clear ybu ybv ybw ybx yby ybz yb0 yb1 yb2 yb3 yb4
 obtain ⟨⟨yb5,-⟩,⟨yb6,-⟩,⟨yb7,yb8,yb9,-⟩,⟨yca,ycb,ycc,-⟩,⟨ycd,yce,ycf,-⟩,-⟩ := hS.cells
 replace G1 := hide ((unhide G1).kept hb6)
 replace G2 := hide ((unhide G2).kept hb6)
 have hltw6_0 : w5.heap.size < w6.heap.size := hS.lt 0 rfl
 have hltw6_1 : w4.heap.size < w6.heap.size := hS.lt 1 rfl
 have hltw6_2 : w.heap.size < w6.heap.size := hS.lt 2 rfl
 have hltw6_3 : w.heap.size + 1 < w6.heap.size := hS.lt 3 rfl
 have hltw6_4 : w.heap.size + 2 < w6.heap.size := hS.lt 4 rfl
 go_wp2_with fail
 refine (unhide HA _ _ _ _ _ _ _ (unhide G2).num (unhide G1).num).mono ?_
 rintro e w7 ⟨⟨A3,N3,C3,rfl,f3⟩,hb7⟩
 replace hS := hS.kept hb7
 clear yb5 yb6 yb7 yb8 yb9 yca ycb ycc ycd yce ycf
 obtain ⟨⟨ycg,-⟩,⟨ych,-⟩,⟨yci,ycj,yck,-⟩,⟨ycl,ycm,ycn,-⟩,⟨yco,ycp,ycq,-⟩,-⟩ := hS.cells
 replace G1 := hide ((unhide G1).kept hb7)
 replace G2 := hide ((unhide G2).kept hb7)
 have G3 := hide (f3.mono (base' := w.heap.size + 3) hltw6_4)
 clear f3
 have hltw7_0 : w5.heap.size < w7.heap.size := hS.lt 0 rfl
 have hltw7_1 : w4.heap.size < w7.heap.size := hS.lt 1 rfl
 have hltw7_2 : w.heap.size < w7.heap.size := hS.lt 2 rfl
 have hltw7_3 : w.heap.size + 1 < w7.heap.size := hS.lt 3 rfl
 have hltw7_4 : w.heap.size + 2 < w7.heap.size := hS.lt 4 rfl
 obtain ⟨WC,hWC⟩ : ∃ WC,w7.alloc (.cells #[.slice A3 N3 C3] 31) = WC := ⟨_,rfl⟩
 replace hS := hS.alloc #[.slice A3 N3 C3] 31
 rw [hWC] at hS
 replace G1 := hide (hWC ▸ (unhide G1).alloc (.cells #[.slice A3 N3 C3] 31))
 replace G2 := hide (hWC ▸ (unhide G2).alloc (.cells #[.slice A3 N3 C3] 31))
 replace G3 := hide (hWC ▸ (unhide G3).alloc (.cells #[.slice A3 N3 C3] 31))
 clear ycg ych yci ycj yck ycl ycm ycn yco ycp ycq
 obtain ⟨⟨ycr,-⟩,⟨ycs,-⟩,⟨yct,-⟩,⟨ycu,ycv,ycw,-⟩,⟨ycx,ycy,ycz,-⟩,⟨yc0,yc1,yc2,-⟩,-⟩ := hS.cells
 have hltWC_0 : w7.heap.size < WC.heap.size := hS.lt 0 rfl
 have hltWC_1 : w5.heap.size < WC.heap.size := hS.lt 1 rfl
 have hltWC_2 : w4.heap.size < WC.heap.size := hS.lt 2 rfl
 have hltWC_3 : w.heap.size < WC.heap.size := hS.lt 3 rfl
 have hltWC_4 : w.heap.size + 1 < WC.heap.size := hS.lt 4 rfl
 have hltWC_5 : w.heap.size + 2 < WC.heap.size := hS.lt 5 rfl
 go_wp2_with fail
 refine (unhide HM _ _ _ _ (unhide G3).num).mono ?_
 rintro e w8 ⟨⟨A4,N4,C4,rfl,f4⟩,hb8⟩
 replace hS := hS.kept hb8
 clear ycr ycs yct ycu ycv ycw ycx ycy ycz yc0 yc1 yc2
 obtain ⟨⟨yc3,-⟩,⟨yc4,-⟩,⟨yc5,-⟩,⟨yc6,yc7,yc8,-⟩,⟨yc9,yda,ydb,-⟩,⟨ydc,ydd,yde,-⟩,-⟩ := hS.cells
 replace G1 := hide ((unhide G1).kept hb8)
 replace G2 := hide ((unhide G2).kept hb8)
 replace G3 := hide ((unhide G3).kept hb8)
 have G4 := hide (f4.mono (base' := w.heap.size + 3) hltWC_5)
 clear f4
 have Q_ := hS.frozen (b := w.heap.size + 2) (cs := #[.bool false,.slice none 0 0,.int .i64 0]) (t := 33) (by simp)
 have fz0 := Q_ 0
 have fz1 := Q_ 1
 have fz2 := Q_ 2
 clear Q_
 go_wp2
 exact bodyPost_ret (v := .tuple #[.agg #[.bool r,.slice A4 N4 C4,.int .i64 y],.int .i64 0]) (by simp [results,Tryz.results125,go_sem,ydc,ydd,yde]) rfl ⟨⟨_,_,_,rfl,Mine.mono ((((unhide G4).set (by simp) _).set (by simp) _).set (by simp) _) (by omega)⟩,((hS.fr.setCell (by simp <;> omega) _).setCell (by simp <;> omega) _).setCell (by simp <;> omega) _⟩
theorem radd_ge (s : Bool) (a : Option Addr) (n cap m : Nat) (x : Int) (s' : Bool) (a' : Option Addr) (n' cap' m' : Nat) (x' : Int) (t : Int) (i j P Q v : Nat) (r : Bool) (v2 : Nat) (y : Int) (hn : ((n : Int) == 0) = false) (hn' : ((n' : Int) == 0) = false) (ht : min x x' = t) (hi : x - t = (i : Int)) (hj : x' - t = (j : Int)) (hx : -1073741824 ≤ x ∧ x ≤ 1073741824) (hx' : -1073741824 ≤ x' ∧ x' ≤ 1073741824)  (w : World) (h : Num w a n m) (h' : Num w a' n' m') (hs : (s == s') = false) (HT : Hid (∀ W : World,Num W a n m → Num W a' n' m' → Calls Tryz.prog 190 #[.agg #[.bool s,.slice a n cap,.int .i64 x],.agg #[.bool s',.slice a' n' cap',.int .i64 x']] W fun e w' => e = .returned (.int .i64 0) ∧ Below W.heap.size W w')) (HU : Hid (∀ (W : World) (A : Option Addr) (N C : Nat),Num W A N m → Calls Tryz.prog 192 #[.agg #[.slice A N C],.int .i64 (i : Int)] W fun e w' => (∃ A N C,e = .returned (.tuple #[.agg #[.slice A N C],.int .i64 0]) ∧ Mine w' W.heap.size A N C P) ∧ Below W.heap.size W w')) (HV : Hid (∀ (W : World) (A : Option Addr) (N C : Nat),Num W A N m' → Calls Tryz.prog 192 #[.agg #[.slice A N C],.int .i64 (j : Int)] W fun e w' => (∃ A N C,e = .returned (.tuple #[.agg #[.slice A N C],.int .i64 0]) ∧ Mine w' W.heap.size A N C Q) ∧ Below W.heap.size W w')) (c : Int) (HC : Hid (∀ (W : World) (A : Option Addr) (N C : Nat) (A' : Option Addr) (N' C' : Nat),Num W A N P → Num W A' N' Q → Calls Tryz.prog 194 #[.agg #[.slice A N C],.agg #[.slice A' N' C']] W fun e w' => e = .returned (.tuple #[.int .i64 c,.int .i64 0]) ∧ Below W.heap.size W w')) (hc : ¬ c < 0) (HA : Hid (∀ (W : World) (A : Option Addr) (N C : Nat) (A' : Option Addr) (N' C' : Nat),Num W A N P → Num W A' N' Q → Calls Tryz.prog 195 #[.agg #[.slice A N C],.agg #[.slice A' N' C']] W fun e w' => (∃ A N C,e = .returned (.tuple #[.agg #[.slice A N C],.bool true,.int .i64 0]) ∧ Mine w' W.heap.size A N C v) ∧ Below W.heap.size W w')) (HM : Hid (∀ (W : World) (A : Option Addr) (N C : Nat),Num W A N v → Calls Tryz.prog 116 #[.bool s,.agg #[.slice A N C],.int .i64 t] W fun e w' => (∃ A N C,e = .returned (.tuple #[.agg #[.bool r,.slice A N C,.int .i64 y],.int .i64 0]) ∧ Mine w' W.heap.size A N C v2) ∧ Below W.heap.size W w')) :
  Calls Tryz.prog 125 #[.agg #[.bool s,.slice a n cap,.int .i64 x],.agg #[.bool s',.slice a' n' cap',.int .i64 x']] w fun e w' => (∃ A N C,e = .returned (.tuple #[.agg #[.bool r,.slice A N C,.int .i64 y],.int .i64 0]) ∧ Mine w' w.heap.size A N C v2) ∧ Below w.heap.size w w' := by
 have H := hide h
 have H' := hide h'
 clear h h'
 go_enter Tryz.func125,Tryz.ntmps125
 go_wp2_with fail
 refine (unhide HT _ ((unhide H).kept (Fs.three w _ _ _ _ _ _).fr) ((unhide H').kept (Fs.three w _ _ _ _ _ _).fr)).mono ?_
 rintro e w1 ⟨rfl,hb1⟩
 have hS := (Fs.three w _ _ _ _ _ _).kept hb1
 obtain ⟨⟨ya,yb,yc,-⟩,⟨yd,ye,yf,-⟩,⟨yg,yh,yi,-⟩,-⟩ := hS.cells
 go_wp2_with fail
 refine (rnone_n a n cap hn _).mono ?_
 rintro e w2 ⟨rfl,hb2⟩
 replace hS := hS.kept hb2
 clear ya yb yc yd ye yf yg yh yi
 obtain ⟨⟨yj,yk,yl,-⟩,⟨ym,yn,yo,-⟩,⟨yp,yq,yr,-⟩,-⟩ := hS.cells
 go_wp2_with fail
 refine (rnone_n a' n' cap' hn' _).mono ?_
 rintro e w3 ⟨rfl,hb3⟩
 replace hS := hS.kept hb3
 clear yj yk yl ym yn yo yp yq yr
 obtain ⟨⟨ys,yt,yu,-⟩,⟨yv,yw,yx,-⟩,⟨yy,yz,y0,-⟩,-⟩ := hS.cells
 have hltw3_0 : w.heap.size < w3.heap.size := hS.lt 0 rfl
 have hltw3_1 : w.heap.size + 1 < w3.heap.size := hS.lt 1 rfl
 have hltw3_2 : w.heap.size + 2 < w3.heap.size := hS.lt 2 rfl
 go_wp2_with fail
 refine (unhide HU _ _ _ _ ((unhide H).kept hS.fr)).mono ?_
 rintro e w4 ⟨⟨A1,N1,C1,rfl,f1⟩,hb4⟩
 replace hS := hS.kept hb4
 clear ys yt yu yv yw yx yy yz y0
 obtain ⟨⟨y1,y2,y3,-⟩,⟨y4,y5,y6,-⟩,⟨y7,y8,y9,-⟩,-⟩ := hS.cells
 have G1 := hide (f1.mono (base' := w.heap.size + 3) hltw3_2)
 clear f1
 have hltw4_0 : w.heap.size < w4.heap.size := hS.lt 0 rfl
 have hltw4_1 : w.heap.size + 1 < w4.heap.size := hS.lt 1 rfl
 have hltw4_2 : w.heap.size + 2 < w4.heap.size := hS.lt 2 rfl
 obtain ⟨WA,hWA⟩ : ∃ WA,w4.alloc (.cells #[.slice A1 N1 C1] 31) = WA := ⟨_,rfl⟩
 replace hS := hS.alloc #[.slice A1 N1 C1] 31
 rw [hWA] at hS
 replace G1 := hide (hWA ▸ (unhide G1).alloc (.cells #[.slice A1 N1 C1] 31))
 clear y1 y2 y3 y4 y5 y6 y7 y8 y9
 obtain ⟨⟨yba,-⟩,⟨ybb,ybc,ybd,-⟩,⟨ybe,ybf,ybg,-⟩,⟨ybh,ybi,ybj,-⟩,-⟩ := hS.cells
 have hltWA_0 : w4.heap.size < WA.heap.size := hS.lt 0 rfl
 have hltWA_1 : w.heap.size < WA.heap.size := hS.lt 1 rfl
 have hltWA_2 : w.heap.size + 1 < WA.heap.size := hS.lt 2 rfl
 have hltWA_3 : w.heap.size + 2 < WA.heap.size := hS.lt 3 rfl
 go_wp2_with fail
 refine (unhide HV _ _ _ _ ((unhide H').kept hS.fr)).mono ?_
 rintro e w5 ⟨⟨A2,N2,C2,rfl,f2⟩,hb5⟩
 replace hS := hS.kept hb5
 clear yba ybb ybc ybd ybe ybf ybg ybh ybi ybj
 obtain ⟨⟨ybk,-⟩,⟨ybl,ybm,ybn,-⟩,⟨ybo,ybp,ybq,-⟩,⟨ybr,ybs,ybt,-⟩,-⟩ := hS.cells
 replace G1 := hide ((unhide G1).kept hb5)
 have G2 := hide (f2.mono (base' := w.heap.size + 3) hltWA_3)
 clear f2
 have hltw5_0 : w4.heap.size < w5.heap.size := hS.lt 0 rfl
 have hltw5_1 : w.heap.size < w5.heap.size := hS.lt 1 rfl
 have hltw5_2 : w.heap.size + 1 < w5.heap.size := hS.lt 2 rfl
 have hltw5_3 : w.heap.size + 2 < w5.heap.size := hS.lt 3 rfl
 obtain ⟨WB,hWB⟩ : ∃ WB,w5.alloc (.cells #[.slice A2 N2 C2] 31) = WB := ⟨_,rfl⟩
 replace hS := hS.alloc #[.slice A2 N2 C2] 31
 rw [hWB] at hS
 replace G1 := hide (hWB ▸ (unhide G1).alloc (.cells #[.slice A2 N2 C2] 31))
 replace G2 := hide (hWB ▸ (unhide G2).alloc (.cells #[.slice A2 N2 C2] 31))
 clear ybk ybl ybm ybn ybo ybp ybq ybr ybs ybt
 obtain ⟨⟨ybu,-⟩,⟨ybv,-⟩,⟨ybw,ybx,yby,-⟩,⟨ybz,yb0,yb1,-⟩,⟨yb2,yb3,yb4,-⟩,-⟩ := hS.cells
 go_wp2_with fail
 refine (unhide HC _ _ _ _ _ _ _ (unhide G1).num (unhide G2).num).mono ?_
 rintro e w6 ⟨rfl,hb6⟩
 replace hS := hS.kept hb6
 clear ybu ybv ybw ybx yby ybz yb0 yb1 yb2 yb3 yb4
 obtain ⟨⟨yb5,-⟩,⟨yb6,-⟩,⟨yb7,yb8,yb9,-⟩,⟨yca,ycb,ycc,-⟩,⟨ycd,yce,ycf,-⟩,-⟩ := hS.cells
 replace G1 := hide ((unhide G1).kept hb6)
 replace G2 := hide ((unhide G2).kept hb6)
 have hltw6_0 : w5.heap.size < w6.heap.size := hS.lt 0 rfl
 have hltw6_1 : w4.heap.size < w6.heap.size := hS.lt 1 rfl
 have hltw6_2 : w.heap.size < w6.heap.size := hS.lt 2 rfl
 have hltw6_3 : w.heap.size + 1 < w6.heap.size := hS.lt 3 rfl
 have hltw6_4 : w.heap.size + 2 < w6.heap.size := hS.lt 4 rfl
 go_wp2_with fail
 refine (unhide HA _ _ _ _ _ _ _ (unhide G1).num (unhide G2).num).mono ?_
 rintro e w7 ⟨⟨A3,N3,C3,rfl,f3⟩,hb7⟩
 replace hS := hS.kept hb7
 clear yb5 yb6 yb7 yb8 yb9 yca ycb ycc ycd yce ycf
 obtain ⟨⟨ycg,-⟩,⟨ych,-⟩,⟨yci,ycj,yck,-⟩,⟨ycl,ycm,ycn,-⟩,⟨yco,ycp,ycq,-⟩,-⟩ := hS.cells
 replace G1 := hide ((unhide G1).kept hb7)
 replace G2 := hide ((unhide G2).kept hb7)
 have G3 := hide (f3.mono (base' := w.heap.size + 3) hltw6_4)
 clear f3
 have hltw7_0 : w5.heap.size < w7.heap.size := hS.lt 0 rfl
 have hltw7_1 : w4.heap.size < w7.heap.size := hS.lt 1 rfl
 have hltw7_2 : w.heap.size < w7.heap.size := hS.lt 2 rfl
 have hltw7_3 : w.heap.size + 1 < w7.heap.size := hS.lt 3 rfl
 have hltw7_4 : w.heap.size + 2 < w7.heap.size := hS.lt 4 rfl
 obtain ⟨WC,hWC⟩ : ∃ WC,w7.alloc (.cells #[.slice A3 N3 C3] 31) = WC := ⟨_,rfl⟩
 replace hS := hS.alloc #[.slice A3 N3 C3] 31
 rw [hWC] at hS
 replace G1 := hide (hWC ▸ (unhide G1).alloc (.cells #[.slice A3 N3 C3] 31))
 replace G2 := hide (hWC ▸ (unhide G2).alloc (.cells #[.slice A3 N3 C3] 31))
 replace G3 := hide (hWC ▸ (unhide G3).alloc (.cells #[.slice A3 N3 C3] 31))
 clear ycg ych yci ycj yck ycl ycm ycn yco ycp ycq
 obtain ⟨⟨ycr,-⟩,⟨ycs,-⟩,⟨yct,-⟩,⟨ycu,ycv,ycw,-⟩,⟨ycx,ycy,ycz,-⟩,⟨yc0,yc1,yc2,-⟩,-⟩ := hS.cells
 have hltWC_0 : w7.heap.size < WC.heap.size := hS.lt 0 rfl
 have hltWC_1 : w5.heap.size < WC.heap.size := hS.lt 1 rfl
 have hltWC_2 : w4.heap.size < WC.heap.size := hS.lt 2 rfl
 have hltWC_3 : w.heap.size < WC.heap.size := hS.lt 3 rfl
 have hltWC_4 : w.heap.size + 1 < WC.heap.size := hS.lt 4 rfl
 have hltWC_5 : w.heap.size + 2 < WC.heap.size := hS.lt 5 rfl
 go_wp2_with fail
 refine (unhide HM _ _ _ _ (unhide G3).num).mono ?_
 rintro e w8 ⟨⟨A4,N4,C4,rfl,f4⟩,hb8⟩
 replace hS := hS.kept hb8
 clear ycr ycs yct ycu ycv ycw ycx ycy ycz yc0 yc1 yc2
 obtain ⟨⟨yc3,-⟩,⟨yc4,-⟩,⟨yc5,-⟩,⟨yc6,yc7,yc8,-⟩,⟨yc9,yda,ydb,-⟩,⟨ydc,ydd,yde,-⟩,-⟩ := hS.cells
 replace G1 := hide ((unhide G1).kept hb8)
 replace G2 := hide ((unhide G2).kept hb8)
 replace G3 := hide ((unhide G3).kept hb8)
 have G4 := hide (f4.mono (base' := w.heap.size + 3) hltWC_5)
 clear f4
 have Q_ := hS.frozen (b := w.heap.size + 2) (cs := #[.bool false,.slice none 0 0,.int .i64 0]) (t := 33) (by simp)
 have fz0 := Q_ 0
 have fz1 := Q_ 1
 have fz2 := Q_ 2
 clear Q_
 go_wp2
 exact bodyPost_ret (v := .tuple #[.agg #[.bool r,.slice A4 N4 C4,.int .i64 y],.int .i64 0]) (by simp [results,Tryz.results125,go_sem,ydc,ydd,yde]) rfl ⟨⟨_,_,_,rfl,Mine.mono ((((unhide G4).set (by simp) _).set (by simp) _).set (by simp) _) (by omega)⟩,((hS.fr.setCell (by simp <;> omega) _).setCell (by simp <;> omega) _).setCell (by simp <;> omega) _⟩
theorem rmul_ok4 (s : Bool) (a : Option Addr) (n cap m : Nat) (x : Int) (s' : Bool) (a' : Option Addr) (n' cap' m' : Nat) (x' : Int) (v : Nat) (r : Bool) (v2 : Nat) (y : Int) (hn : ((n : Int) == 0) = false) (hn' : ((n' : Int) == 0) = false) (hx : -1073741824 ≤ x ∧ x ≤ 1073741824) (hx' : -1073741824 ≤ x' ∧ x' ≤ 1073741824) (w : World) (h : Num w a n m) (h' : Num w a' n' m') (HT : Hid (∀ W : World,Num W a n m → Num W a' n' m' → Calls Tryz.prog 190 #[.agg #[.bool s,.slice a n cap,.int .i64 x],.agg #[.bool s',.slice a' n' cap',.int .i64 x']] W fun e w' => e = .returned (.int .i64 0) ∧ Below W.heap.size W w')) (HA : Hid (∀ (W : World) (A : Option Addr) (N C : Nat) (A' : Option Addr) (N' C' : Nat),Num W A N m → Num W A' N' m' → Calls Tryz.prog 196 #[.agg #[.slice A N C],.agg #[.slice A' N' C']] W fun e w' => (∃ A N C,e = .returned (.tuple #[.agg #[.slice A N C],.int .i64 0]) ∧ Mine w' W.heap.size A N C v) ∧ Below W.heap.size W w')) (HM : Hid (∀ (W : World) (A : Option Addr) (N C : Nat),Num W A N v → Calls Tryz.prog 116 #[.bool (s != s'),.agg #[.slice A N C],.int .i64 (x + x')] W fun e w' => (∃ A N C,e = .returned (.tuple #[.agg #[.bool r,.slice A N C,.int .i64 y],.int .i64 0]) ∧ Mine w' W.heap.size A N C v2) ∧ Below W.heap.size W w')) :
  Calls Tryz.prog 126 #[.agg #[.bool s,.slice a n cap,.int .i64 x],.agg #[.bool s',.slice a' n' cap',.int .i64 x']] w fun e w' => (∃ A N C,e = .returned (.tuple #[.agg #[.bool r,.slice A N C,.int .i64 y],.int .i64 0]) ∧ Mine w' w.heap.size A N C v2) ∧ Below w.heap.size w w' := by
 have H := hide h
 have H' := hide h'
 clear h h'
 go_enter Tryz.func126,Tryz.ntmps126
 go_wp2_with fail
 refine (unhide HT _ ((unhide H).kept (Fs.three w _ _ _ _ _ _).fr) ((unhide H').kept (Fs.three w _ _ _ _ _ _).fr)).mono ?_
 rintro e w1 ⟨rfl,hb1⟩
 have hS := (Fs.three w _ _ _ _ _ _).kept hb1
 obtain ⟨⟨ya,yb,yc,-⟩,⟨yd,ye,yf,-⟩,⟨yg,yh,yi,-⟩,-⟩ := hS.cells
 go_wp2_with fail
 refine (rnone_n a n cap hn _).mono ?_
 rintro e w2 ⟨rfl,hb2⟩
 replace hS := hS.kept hb2
 clear ya yb yc yd ye yf yg yh yi
 obtain ⟨⟨yj,yk,yl,-⟩,⟨ym,yn,yo,-⟩,⟨yp,yq,yr,-⟩,-⟩ := hS.cells
 go_wp2_with fail
 refine (rnone_n a' n' cap' hn' _).mono ?_
 rintro e w3 ⟨rfl,hb3⟩
 replace hS := hS.kept hb3
 clear yj yk yl ym yn yo yp yq yr
 obtain ⟨⟨ys,yt,yu,-⟩,⟨yv,yw,yx,-⟩,⟨yy,yz,y0,-⟩,-⟩ := hS.cells
 have hltw3_0 : w.heap.size < w3.heap.size := hS.lt 0 rfl
 have hltw3_1 : w.heap.size + 1 < w3.heap.size := hS.lt 1 rfl
 have hltw3_2 : w.heap.size + 2 < w3.heap.size := hS.lt 2 rfl
 go_wp2_with fail
 refine (unhide HA _ _ _ _ _ _ _ ((unhide H).kept hS.fr) ((unhide H').kept hS.fr)).mono ?_
 rintro e w4 ⟨⟨A1,N1,C1,rfl,f1⟩,hb4⟩
 replace hS := hS.kept hb4
 clear ys yt yu yv yw yx yy yz y0
 obtain ⟨⟨y1,y2,y3,-⟩,⟨y4,y5,y6,-⟩,⟨y7,y8,y9,-⟩,-⟩ := hS.cells
 have G1 := hide (f1.mono (base' := w.heap.size + 3) hltw3_2)
 clear f1
 have hltw4_0 : w.heap.size < w4.heap.size := hS.lt 0 rfl
 have hltw4_1 : w.heap.size + 1 < w4.heap.size := hS.lt 1 rfl
 have hltw4_2 : w.heap.size + 2 < w4.heap.size := hS.lt 2 rfl
 obtain ⟨WA,hWA⟩ : ∃ WA,w4.alloc (.cells #[.slice A1 N1 C1] 31) = WA := ⟨_,rfl⟩
 replace hS := hS.alloc #[.slice A1 N1 C1] 31
 rw [hWA] at hS
 replace G1 := hide (hWA ▸ (unhide G1).alloc (.cells #[.slice A1 N1 C1] 31))
 clear y1 y2 y3 y4 y5 y6 y7 y8 y9
 obtain ⟨⟨yba,-⟩,⟨ybb,ybc,ybd,-⟩,⟨ybe,ybf,ybg,-⟩,⟨ybh,ybi,ybj,-⟩,-⟩ := hS.cells
 have hltWA_0 : w4.heap.size < WA.heap.size := hS.lt 0 rfl
 have hltWA_1 : w.heap.size < WA.heap.size := hS.lt 1 rfl
 have hltWA_2 : w.heap.size + 1 < WA.heap.size := hS.lt 2 rfl
 have hltWA_3 : w.heap.size + 2 < WA.heap.size := hS.lt 3 rfl
 go_wp2_with fail
 refine (unhide HM _ _ _ _ (unhide G1).num).mono ?_
 rintro e w5 ⟨⟨A2,N2,C2,rfl,f2⟩,hb5⟩
 replace hS := hS.kept hb5
 clear yba ybb ybc ybd ybe ybf ybg ybh ybi ybj
 obtain ⟨⟨ybk,-⟩,⟨ybl,ybm,ybn,-⟩,⟨ybo,ybp,ybq,-⟩,⟨ybr,ybs,ybt,-⟩,-⟩ := hS.cells
 replace G1 := hide ((unhide G1).kept hb5)
 have G2 := hide (f2.mono (base' := w.heap.size + 3) hltWA_3)
 clear f2
 have Q_ := hS.frozen (b := w.heap.size + 2) (cs := #[.bool false,.slice none 0 0,.int .i64 0]) (t := 33) (by simp)
 have fz0 := Q_ 0
 have fz1 := Q_ 1
 have fz2 := Q_ 2
 clear Q_
 go_wp2
 exact bodyPost_ret (v := .tuple #[.agg #[.bool r,.slice A2 N2 C2,.int .i64 y],.int .i64 0]) (by simp [results,Tryz.results126,go_sem,ybr,ybs,ybt]) rfl ⟨⟨_,_,_,rfl,Mine.mono ((((unhide G2).set (by simp) _).set (by simp) _).set (by simp) _) (by omega)⟩,((hS.fr.setCell (by simp <;> omega) _).setCell (by simp <;> omega) _).setCell (by simp <;> omega) _⟩
theorem rmul_left (s : Bool) (a : Option Addr) (cap m : Nat) (x : Int) (s' : Bool) (a' : Option Addr) (n' cap' m' : Nat) (x' : Int)  (w : World) (h : Num w a 0 m) (h' : Num w a' n' m') (HT : Hid (∀ W : World,Num W a 0 m → Num W a' n' m' → Calls Tryz.prog 190 #[.agg #[.bool s,.slice a 0 cap,.int .i64 x],.agg #[.bool s',.slice a' n' cap',.int .i64 x']] W fun e w' => e = .returned (.int .i64 0) ∧ Below W.heap.size W w'))  :
  Calls Tryz.prog 126 #[.agg #[.bool s,.slice a 0 cap,.int .i64 x],.agg #[.bool s',.slice a' n' cap',.int .i64 x']] w fun e w' => e = .returned (.tuple #[.agg #[.bool false,.slice none 0 0,.int .i64 0],.int .i64 0]) ∧ Below w.heap.size w w' := by
 have H := hide h
 have H' := hide h'
 clear h h'
 go_enter Tryz.func126,Tryz.ntmps126
 go_wp2_with fail
 refine (unhide HT _ ((unhide H).kept (Fs.three w _ _ _ _ _ _).fr) ((unhide H').kept (Fs.three w _ _ _ _ _ _).fr)).mono ?_
 rintro e w1 ⟨rfl,hb1⟩
 have hS := (Fs.three w _ _ _ _ _ _).kept hb1
 obtain ⟨⟨ya,yb,yc,-⟩,⟨yd,ye,yf,-⟩,⟨yg,yh,yi,-⟩,-⟩ := hS.cells
 go_wp2_with fail
 refine (rnone_0 a cap _).mono ?_
 rintro e w2 ⟨rfl,hb2⟩
 replace hS := hS.kept hb2
 clear ya yb yc yd ye yf yg yh yi
 obtain ⟨⟨yj,yk,yl,-⟩,⟨ym,yn,yo,-⟩,⟨yp,yq,yr,-⟩,-⟩ := hS.cells
 have Q_ := hS.frozen (b := w.heap.size + 2) (cs := #[.bool false,.slice none 0 0,.int .i64 0]) (t := 33) (by simp)
 have fz0 := Q_ 0
 have fz1 := Q_ 1
 have fz2 := Q_ 2
 clear Q_
 go_wp2
 exact bodyPost_ret (v := .tuple #[.agg #[.bool false,.slice none 0 0,.int .i64 0],.int .i64 0]) (by simp [results,Tryz.results126,go_sem,yp,yq,yr]) rfl ⟨rfl,((hS.fr.setCell (by simp <;> omega) _).setCell (by simp <;> omega) _).setCell (by simp <;> omega) _⟩
def RSums (s : Bool) (m : Nat) (x : Int) (s' : Bool) (m' : Nat) (x' : Int) (r : Bool) (v : Nat) (y : Int) : Prop :=
 ∀ (W : World) (A : Option Addr) (N C : Nat) (A' : Option Addr) (N' C' : Nat),Num W A N m → Num W A' N' m' →
  Calls Tryz.prog 125 #[.agg #[.bool s,.slice A N C,.int .i64 x],.agg #[.bool s',.slice A' N' C',.int .i64 x']] W fun e w' => (∃ A N C,e = .returned (.tuple #[.agg #[.bool r,.slice A N C,.int .i64 y],.int .i64 0]) ∧ Mine w' W.heap.size A N C v) ∧ Below W.heap.size W w'
def RProds (s : Bool) (m : Nat) (x : Int) (s' : Bool) (m' : Nat) (x' : Int) (r : Bool) (v : Nat) (y : Int) : Prop :=
 ∀ (W : World) (A : Option Addr) (N C : Nat) (A' : Option Addr) (N' C' : Nat),Num W A N m → Num W A' N' m' →
  Calls Tryz.prog 126 #[.agg #[.bool s,.slice A N C,.int .i64 x],.agg #[.bool s',.slice A' N' C',.int .i64 x']] W fun e w' => (∃ A N C,e = .returned (.tuple #[.agg #[.bool r,.slice A N C,.int .i64 y],.int .i64 0]) ∧ Mine w' W.heap.size A N C v) ∧ Below W.heap.size W w'
def RMakes (q : Bool) (v : Nat) (t : Int) (r : Bool) (v2 : Nat) (y : Int) : Prop :=
 ∀ (W : World) (A : Option Addr) (N C : Nat),Num W A N v → Calls Tryz.prog 116 #[.bool q,.agg #[.slice A N C],.int .i64 t] W fun e w' => (∃ A N C,e = .returned (.tuple #[.agg #[.bool r,.slice A N C,.int .i64 y],.int .i64 0]) ∧ Mine w' W.heap.size A N C v2) ∧ Below W.heap.size W w'
theorem rmk_in (r : Bool) (v : Nat) (t L : Int) (d K : Nat) (hd : t - L = (d : Int)) (hv : v * 2 ^ d < 2 ^ (K + 1)) (hK : K ≤ 500000) (hL : -1073741824 ≤ L) (hL0 : L ≤ 0) (ht : t ≤ 1073741824) :
  ∃ q v2 y,RMakes r v t q v2 y ∧ OkD q v2 y ∧ L ≤ y ∧ sv q (v2 * 2 ^ (y - L).toNat) = sv r (v * 2 ^ d) := by
 rcases Nat.eq_zero_or_pos v with h0 | h0
 ·subst h0
  refine ⟨false,0,0,fun W A N C g => ?_,Or.inl ⟨rfl,rfl,rfl⟩,hL0,by rw [Nat.zero_mul,Nat.zero_mul,sv_zero,sv_zero]⟩
  obtain rfl := g.zero.2 rfl
  refine (rmake_nought r A C t W g).mono ?_
  rintro e w' ⟨rfl,hb⟩
  exact ⟨⟨none,0,0,rfl,mine_none _ _⟩,hb⟩
 ·have hd1 : 1 ≤ 2 ^ d := pow_pos2 d
  have hvK : v < 2 ^ (K + 1) := Nat.lt_of_le_of_lt (Nat.le_mul_of_pos_right _ hd1) hv
  obtain ⟨z,hz,_⟩ := tz_ex h0 hvK
  have hzd := lt_of_pow2M hz.leM hv
  have hzd2 := hz.down
  refine ⟨r,v / 2 ^ z,t + (z : Int),fun W A N C g => rmake_ok r A N C v z t W g h0 hz (by omega) ht (by omega) (by omega),Or.inr ⟨hzd2.1,by omega,by omega⟩,by omega,?_⟩
  rw [show (t + (z : Int) - L).toNat = z + d from by omega,Nat.pow_add,← Nat.mul_assoc,hzd2.2]
theorem rup_in {m i : Nat} (hno : ¬ Over (m * 2 ^ i)) (hi : i < 9223372036854775808) (W : World) (A : Option Addr) (N C : Nat) (g : Num W A N m) : Calls Tryz.prog 192 #[.agg #[.slice A N C],.int .i64 (i : Int)] W fun e w' => (∃ A N C,e = .returned (.tuple #[.agg #[.slice A N C],.int .i64 0]) ∧ Mine w' W.heap.size A N C (m * 2 ^ i)) ∧ Below W.heap.size W w' := by
 refine (rup_any A N C m i W g hi).mono ?_
 rintro e w' ⟨h1,hb⟩
 rcases h1 with h1 | ⟨_,h1⟩
 ·exact ⟨h1,hb⟩
 ·exact absurd h1 hno
theorem radd_fit {p q : Nat} (hno : ¬ Over (p + q)) (W : World) (A : Option Addr) (N C : Nat) (A' : Option Addr) (N' C' : Nat) (g : Num W A N p) (g' : Num W A' N' q) : Calls Tryz.prog 193 #[.agg #[.slice A N C],.agg #[.slice A' N' C']] W fun e w' => (∃ A N C,e = .returned (.tuple #[.agg #[.slice A N C],.int .i64 0]) ∧ Mine w' W.heap.size A N C (p + q)) ∧ Below W.heap.size W w' := by
 refine (radd_any A A' N N' C C' p q W g g').mono ?_
 rintro e w' ⟨h1,hb⟩
 rcases h1 with h1 | ⟨_,h1⟩
 ·exact ⟨h1,hb⟩
 ·exact absurd h1 hno
theorem rmul_fit {p q : Nat} (hno : ¬ Over (p * q)) (W : World) (A : Option Addr) (N C : Nat) (A' : Option Addr) (N' C' : Nat) (g : Num W A N p) (g' : Num W A' N' q) : Calls Tryz.prog 196 #[.agg #[.slice A N C],.agg #[.slice A' N' C']] W fun e w' => (∃ A N C,e = .returned (.tuple #[.agg #[.slice A N C],.int .i64 0]) ∧ Mine w' W.heap.size A N C (p * q)) ∧ Below W.heap.size W w' := by
 refine (rmul_any A A' N N' C C' p q W g g').mono ?_
 rintro e w' ⟨h1,hb⟩
 rcases h1 with h1 | ⟨_,h1⟩
 ·exact ⟨h1,hb⟩
 ·exact absurd h1 hno
theorem rsub_fit {p q : Nat} (hle : q ≤ p) (W : World) (A : Option Addr) (N C : Nat) (A' : Option Addr) (N' C' : Nat) (g : Num W A N p) (g' : Num W A' N' q) : Calls Tryz.prog 195 #[.agg #[.slice A N C],.agg #[.slice A' N' C']] W fun e w' => (∃ A N C,e = .returned (.tuple #[.agg #[.slice A N C],.bool true,.int .i64 0]) ∧ Mine w' W.heap.size A N C (p - q)) ∧ Below W.heap.size W w' := by
 refine (rsub_any A A' N N' C C' p q W g g').mono ?_
 rintro e w' ⟨h1,hb⟩
 rcases h1 with ⟨h1,_⟩ | ⟨_,h1⟩
 ·omega
 ·exact ⟨h1,hb⟩
theorem rtwin_num {m : Nat} (a : Option Addr) (n cap : Nat) (W : World) (g : Num W a n m) : Calls Tryz.prog 249 #[.agg #[.slice a n cap]] W fun e w' => (∃ A N C,e = .returned (.agg #[.slice A N C]) ∧ Mine w' W.heap.size A N C m) ∧ Below W.heap.size W w' := by
 obtain ⟨xs,hn,hl,hw,hN,hv,hb⟩ := g
 refine (rtwin_any6 a n cap xs W hn hl (by omega)).mono ?_
 rintro e w' ⟨⟨b,c,rfl,ho⟩,hb2⟩
 exact ⟨⟨b,n,c,rfl,xs,hn,by exact ho,hw,hN,hv,hb⟩,hb2⟩
theorem ne0 {W : World} {A : Option Addr} {N m : Nat} (g : Num W A N m) (h : 0 < m) : ((N : Int) == 0) = false := by
 have := g.zero
 simp only [beq_eq_false_iff_ne,ne_eq]
 omega
theorem radd_in {s : Bool} {m : Nat} {x : Int} {s' : Bool} {m' : Nat} {x' : Int} (L : Int) (K : Nat) (hA : OkD s m x) (hB : OkD s' m' x') (hL : -1073741824 ≤ L) (hL0 : L ≤ 0) (hK : K ≤ 500000) (hx : L ≤ x) (hx' : L ≤ x') (hk : m * 2 ^ (x - L).toNat < 2 ^ K) (hk' : m' * 2 ^ (x' - L).toNat < 2 ^ K) :
  ∃ q v y,RSums s m x s' m' x' q v y ∧ OkD q v y ∧ L ≤ y ∧ sv q (v * 2 ^ (y - L).toNat) = sv s (m * 2 ^ (x - L).toNat) + sv s' (m' * 2 ^ (x' - L).toNat) := by
 have HT : ∀ {A : Option Addr} {N C : Nat} {A' : Option Addr} {N' C' : Nat} (W : World),Num W A N m → Num W A' N' m' → Calls Tryz.prog 190 #[.agg #[.bool s,.slice A N C,.int .i64 x],.agg #[.bool s',.slice A' N' C',.int .i64 x']] W fun e w' => e = .returned (.int .i64 0) ∧ Below W.heap.size W w' := fun W g g' => rtwo_ok s _ _ _ m x s' _ _ _ m' x' W g g' hA hB
 rcases Nat.eq_zero_or_pos m with h0 | h0
 ·refine ⟨s',m',x',fun W A N C A' N' C' g g' => ?_,hB,hx',by rw [h0,Nat.zero_mul,sv_zero,Int.zero_add]⟩
  obtain rfl := g.zero.2 h0
  exact radd_left s A C m x s' A' N' C' m' x' W g g' (hide fun W g g' => HT W g g') (hide fun W g => rtwin_num A' N' C' W g)
 rcases Nat.eq_zero_or_pos m' with h1 | h1
 ·refine ⟨s,m,x,fun W A N C A' N' C' g g' => ?_,hA,hx,by rw [h1,Nat.zero_mul,sv_zero,Int.add_zero]⟩
  obtain rfl := g'.zero.2 h1
  exact radd_right s A N C m x s' A' C' m' x' (ne0 g h0) W g g' (hide fun W g g' => HT W g g') (hide fun W g => rtwin_num A N C W g)
 have a1 := hA.oddM h0
 have b1 := hB.oddM h1
 obtain ⟨t,ht⟩ : ∃ t,min x x' = t := ⟨_,rfl⟩
 obtain ⟨i,hi⟩ : ∃ i : Nat,x - t = (i : Int) := ⟨(x - t).toNat,by omega⟩
 obtain ⟨j,hj⟩ : ∃ j : Nat,x' - t = (j : Int) := ⟨(x' - t).toNat,by omega⟩
 obtain ⟨d,hd⟩ : ∃ d : Nat,t - L = (d : Int) := ⟨(t - L).toNat,by omega⟩
 rw [show (x - L).toNat = i + d from by omega,Nat.pow_add,← Nat.mul_assoc] at hk ⊢
 rw [show (x' - L).toNat = j + d from by omega,Nat.pow_add,← Nat.mul_assoc] at hk' ⊢
 have hd1 : 1 ≤ 2 ^ d := pow_pos2 d
 have ha : m * 2 ^ i < 2 ^ K := Nat.lt_of_le_of_lt (Nat.le_mul_of_pos_right _ hd1) hk
 have hb : m' * 2 ^ j < 2 ^ K := Nat.lt_of_le_of_lt (Nat.le_mul_of_pos_right _ hd1) hk'
 have noP : ¬ Over (m * 2 ^ i) := not_over ha (by omega)
 have noQ : ¬ Over (m' * 2 ^ j) := not_over hb (by omega)
 have p1 : 2 ^ (K + 1) = 2 * 2 ^ K := by rw [Nat.pow_succ,Nat.mul_comm]
 obtain ⟨P,hP⟩ : ∃ P,m * 2 ^ i = P := ⟨_,rfl⟩
 obtain ⟨Q,hQ⟩ : ∃ Q,m' * 2 ^ j = Q := ⟨_,rfl⟩
 have HU : ∀ (W : World) (A : Option Addr) (N C : Nat),Num W A N m → Calls Tryz.prog 192 #[.agg #[.slice A N C],.int .i64 (i : Int)] W fun e w' => (∃ A N C,e = .returned (.tuple #[.agg #[.slice A N C],.int .i64 0]) ∧ Mine w' W.heap.size A N C P) ∧ Below W.heap.size W w' := by rw [← hP]; exact rup_in noP (by omega)
 have HV : ∀ (W : World) (A : Option Addr) (N C : Nat),Num W A N m' → Calls Tryz.prog 192 #[.agg #[.slice A N C],.int .i64 (j : Int)] W fun e w' => (∃ A N C,e = .returned (.tuple #[.agg #[.slice A N C],.int .i64 0]) ∧ Mine w' W.heap.size A N C Q) ∧ Below W.heap.size W w' := by rw [← hQ]; exact rup_in noQ (by omega)
 rw [hP] at hk ha noP ⊢
 rw [hQ] at hk' hb noQ ⊢
 by_cases hs : s = s'
 ·subst hs
  obtain ⟨q,v2,y,HM,ok,hy,he⟩ := rmk_in s (P + Q) t L d K hd (by rw [Nat.add_mul]; omega) hK hL hL0 (by omega)
  refine ⟨q,v2,y,fun W A N C A' N' C' g g' => ?_,ok,hy,?_⟩
  ·exact radd_same s A N C m x A' N' C' m' x' t i j P Q (P + Q) q v2 y (ne0 g h0) (ne0 g' h1) ht hi hj a1.2 b1.2 W g g' (hide fun W g g' => HT W g g') (hide HU) (hide HV) (hide (radd_fit (not_over (n := K + 1) (by omega) (by omega)))) (hide HM)
  ·rw [he,Nat.add_mul]; unfold sv; cases s <;> simp <;> omega
 ·have hsb : (s == s') = false := by simpa using hs
  by_cases hc : P < Q
  ·obtain ⟨q,v2,y,HM,ok,hy,he⟩ := rmk_in s' (Q - P) t L d K hd (by
    have : (Q - P) * 2 ^ d ≤ Q * 2 ^ d := Nat.mul_le_mul_right _ (Nat.sub_le _ _)
    omega) hK hL hL0 (by omega)
   refine ⟨q,v2,y,fun W A N C A' N' C' g g' => ?_,ok,hy,?_⟩
   ·exact radd_lt s A N C m x s' A' N' C' m' x' t i j P Q (Q - P) q v2 y (ne0 g h0) (ne0 g' h1) ht hi hj a1.2 b1.2 W g g' hsb (hide fun W g g' => HT W g g') (hide HU) (hide HV) (cmpI P Q) (hide fun W A N C A' N' C' g g' => rcmpApi_any A A' N N' C C' P Q W g g') (by unfold cmpI; rw [if_pos hc]; decide) (hide (rsub_fit (by omega))) (hide HM)
   ·have hm := Nat.mul_le_mul_right (2 ^ d) (Nat.le_of_lt hc)
    rw [he,Nat.sub_mul]; generalize P * 2 ^ d = uu at *; generalize Q * 2 ^ d = vv at *; unfold sv; cases s <;> cases s' <;> simp at hs ⊢ <;> omega
  ·obtain ⟨q,v2,y,HM,ok,hy,he⟩ := rmk_in s (P - Q) t L d K hd (by
    have : (P - Q) * 2 ^ d ≤ P * 2 ^ d := Nat.mul_le_mul_right _ (Nat.sub_le _ _)
    omega) hK hL hL0 (by omega)
   refine ⟨q,v2,y,fun W A N C A' N' C' g g' => ?_,ok,hy,?_⟩
   ·exact radd_ge s A N C m x s' A' N' C' m' x' t i j P Q (P - Q) q v2 y (ne0 g h0) (ne0 g' h1) ht hi hj a1.2 b1.2 W g g' hsb (hide fun W g g' => HT W g g') (hide HU) (hide HV) (cmpI P Q) (hide fun W A N C A' N' C' g g' => rcmpApi_any A A' N N' C C' P Q W g g') (by unfold cmpI; rw [if_neg hc]; split <;> decide) (hide (rsub_fit (by omega))) (hide HM)
   ·have hm := Nat.mul_le_mul_right (2 ^ d) (Nat.le_of_not_lt hc)
    rw [he,Nat.sub_mul]; generalize P * 2 ^ d = uu at *; generalize Q * 2 ^ d = vv at *; unfold sv; cases s <;> cases s' <;> simp at hs ⊢ <;> omega
theorem rworth6 (E F b : Int) (s : Bool) (m : Nat) (x : Int) (w : World) (HV : Hid (∀ W : World,Calls Tryz.prog 127 #[.agg #[.int .i64 E,.int .i64 F],.int .u64 b] W fun e w' => (∃ A N C,e = .returned (.tuple #[.agg #[.bool s,.slice A N C,.int .i64 x],.int .i64 0]) ∧ Mine w' W.heap.size A N C m) ∧ Below W.heap.size W w')) :
  Calls Tryz.prog 70 #[.agg #[.int .i64 E,.int .i64 F],.int .u64 b] w fun e w' => (∃ A N C,e = .returned (.agg #[.bool s,.slice A N C,.int .i64 x]) ∧ Mine w' w.heap.size A N C m) ∧ Below w.heap.size w w' := by
 go_enter Tryz.func70,Tryz.ntmps70
 go_wp2_with fail
 refine (unhide HV _).mono ?_
 rintro e w1 ⟨⟨A1,N1,C1,rfl,f1⟩,hb1⟩
 have hS := (Fs.two w _ _ _ _).kept hb1
 obtain ⟨⟨ya,yb,-⟩,⟨yc,yd,ye,-⟩,-⟩ := hS.cells
 have G1 := hide (f1.mono (base' := w.heap.size + 2) (by simp))
 clear f1
 have hltw1_0 : w.heap.size < w1.heap.size := hS.lt 0 rfl
 have hltw1_1 : w.heap.size + 1 < w1.heap.size := hS.lt 1 rfl
 obtain ⟨WV,hWV⟩ : ∃ WV,w1.alloc (.cells #[.bool s,.slice A1 N1 C1,.int .i64 x] 33) = WV := ⟨_,rfl⟩
 replace hS := hS.alloc #[.bool s,.slice A1 N1 C1,.int .i64 x] 33
 rw [hWV] at hS
 replace G1 := hide (hWV ▸ (unhide G1).alloc (.cells #[.bool s,.slice A1 N1 C1,.int .i64 x] 33))
 clear ya yb yc yd ye
 obtain ⟨⟨yf,yg,yh,-⟩,⟨yi,yj,-⟩,⟨yk,yl,ym,-⟩,-⟩ := hS.cells
 have Q_ := hS.frozen (b := w.heap.size + 1) (cs := #[.bool false,.slice none 0 0,.int .i64 0]) (t := 33) (by simp)
 have fz0 := Q_ 0
 have fz1 := Q_ 1
 have fz2 := Q_ 2
 clear Q_
 go_wp2
 exact bodyPost_ret (v := .agg #[.bool s,.slice A1 N1 C1,.int .i64 x]) (by simp [results,Tryz.results70,go_sem,yk,yl,ym]) rfl ⟨⟨_,_,_,rfl,Mine.mono ((((unhide G1).set (by simp) _).set (by simp) _).set (by simp) _) (by omega)⟩,((hS.fr.setCell (by simp <;> omega) _).setCell (by simp <;> omega) _).setCell (by simp <;> omega) _⟩
theorem rmid_err (E F a b c : Int) (hc : (c == (0 : Int)) = false) (HT : Tel 63 #[.agg #[.int .i64 E,.int .i64 F],.int .u64 a,.int .u64 b] (.int .i64 c))  (w : World)  :
  Calls Tryz.prog 25 #[.agg #[.int .i64 E,.int .i64 F],.int .u64 a,.int .u64 b] w fun e w' => e = .returned (.tuple #[.agg #[.bool false,.slice none 0 0,.int .i64 0],.int .i64 c]) ∧ Below w.heap.size w w' := by
 go_enter Tryz.func25,Tryz.ntmps25
 go_wp2_with fail
 refine (HT _).mono ?_
 rintro e w1 ⟨rfl,hb1⟩
 have hS := (Fs.two w _ _ _ _).kept hb1
 obtain ⟨⟨ya,yb,-⟩,⟨yc,yd,ye,-⟩,-⟩ := hS.cells
 have Q_ := hS.frozen (b := w.heap.size + 1) (cs := #[.bool false,.slice none 0 0,.int .i64 0]) (t := 33) (by simp)
 have fz0 := Q_ 0
 have fz1 := Q_ 1
 have fz2 := Q_ 2
 clear Q_
 go_wp2
 exact bodyPost_ret (v := .tuple #[.agg #[.bool false,.slice none 0 0,.int .i64 0],.int .i64 c]) (by simp [results,Tryz.results25,go_sem,yc,yd,ye]) rfl ⟨rfl,((hS.fr.setCell (by simp <;> omega) _).setCell (by simp <;> omega) _).setCell (by simp <;> omega) _⟩
theorem rmid_na (E F a b : Int) (HT : Tel 63 #[.agg #[.int .i64 E,.int .i64 F],.int .u64 a,.int .u64 b] (.int .i64 0)) (HA : Tel 56 #[.agg #[.int .i64 E,.int .i64 F],.int .u64 a] (.bool false))  (w : World)  :
  Calls Tryz.prog 25 #[.agg #[.int .i64 E,.int .i64 F],.int .u64 a,.int .u64 b] w fun e w' => e = .returned (.tuple #[.agg #[.bool false,.slice none 0 0,.int .i64 0],.int .i64 8]) ∧ Below w.heap.size w w' := by
 go_enter Tryz.func25,Tryz.ntmps25
 go_wp2_with fail
 refine (HT _).mono ?_
 rintro e w1 ⟨rfl,hb1⟩
 have hS := (Fs.two w _ _ _ _).kept hb1
 obtain ⟨⟨ya,yb,-⟩,⟨yc,yd,ye,-⟩,-⟩ := hS.cells
 go_wp2_with fail
 refine (HA _).mono ?_
 rintro e w2 ⟨rfl,hb2⟩
 replace hS := hS.kept hb2
 clear ya yb yc yd ye
 obtain ⟨⟨yf,yg,-⟩,⟨yh,yi,yj,-⟩,-⟩ := hS.cells
 have Q_ := hS.frozen (b := w.heap.size + 1) (cs := #[.bool false,.slice none 0 0,.int .i64 0]) (t := 33) (by simp)
 have fz0 := Q_ 0
 have fz1 := Q_ 1
 have fz2 := Q_ 2
 clear Q_
 go_wp2
 exact bodyPost_ret (v := .tuple #[.agg #[.bool false,.slice none 0 0,.int .i64 0],.int .i64 8]) (by simp [results,Tryz.results25,go_sem,yh,yi,yj]) rfl ⟨rfl,((hS.fr.setCell (by simp <;> omega) _).setCell (by simp <;> omega) _).setCell (by simp <;> omega) _⟩
theorem rmid_nb (E F a b : Int) (HT : Tel 63 #[.agg #[.int .i64 E,.int .i64 F],.int .u64 a,.int .u64 b] (.int .i64 0)) (HA : Tel 56 #[.agg #[.int .i64 E,.int .i64 F],.int .u64 a] (.bool true)) (HB : Tel 56 #[.agg #[.int .i64 E,.int .i64 F],.int .u64 b] (.bool false))  (w : World)  :
  Calls Tryz.prog 25 #[.agg #[.int .i64 E,.int .i64 F],.int .u64 a,.int .u64 b] w fun e w' => e = .returned (.tuple #[.agg #[.bool false,.slice none 0 0,.int .i64 0],.int .i64 8]) ∧ Below w.heap.size w w' := by
 go_enter Tryz.func25,Tryz.ntmps25
 go_wp2_with fail
 refine (HT _).mono ?_
 rintro e w1 ⟨rfl,hb1⟩
 have hS := (Fs.two w _ _ _ _).kept hb1
 obtain ⟨⟨ya,yb,-⟩,⟨yc,yd,ye,-⟩,-⟩ := hS.cells
 go_wp2_with fail
 refine (HA _).mono ?_
 rintro e w2 ⟨rfl,hb2⟩
 replace hS := hS.kept hb2
 clear ya yb yc yd ye
 obtain ⟨⟨yf,yg,-⟩,⟨yh,yi,yj,-⟩,-⟩ := hS.cells
 go_wp2_with fail
 refine (HB _).mono ?_
 rintro e w3 ⟨rfl,hb3⟩
 replace hS := hS.kept hb3
 clear yf yg yh yi yj
 obtain ⟨⟨yk,yl,-⟩,⟨ym,yn,yo,-⟩,-⟩ := hS.cells
 have Q_ := hS.frozen (b := w.heap.size + 1) (cs := #[.bool false,.slice none 0 0,.int .i64 0]) (t := 33) (by simp)
 have fz0 := Q_ 0
 have fz1 := Q_ 1
 have fz2 := Q_ 2
 clear Q_
 go_wp2
 exact bodyPost_ret (v := .tuple #[.agg #[.bool false,.slice none 0 0,.int .i64 0],.int .i64 8]) (by simp [results,Tryz.results25,go_sem,ym,yn,yo]) rfl ⟨rfl,((hS.fr.setCell (by simp <;> omega) _).setCell (by simp <;> omega) _).setCell (by simp <;> omega) _⟩
theorem rmid_ok (E F a b : Int) (s : Bool) (m : Nat) (x : Int) (s' : Bool) (m' : Nat) (x' : Int) (r : Bool) (v : Nat) (y : Int) (HT : Tel 63 #[.agg #[.int .i64 E,.int .i64 F],.int .u64 a,.int .u64 b] (.int .i64 0)) (HA : Tel 56 #[.agg #[.int .i64 E,.int .i64 F],.int .u64 a] (.bool true)) (HB : Tel 56 #[.agg #[.int .i64 E,.int .i64 F],.int .u64 b] (.bool true)) (HX : Hid (∀ W : World,Calls Tryz.prog 70 #[.agg #[.int .i64 E,.int .i64 F],.int .u64 a] W fun e w' => (∃ A N C,e = .returned (.agg #[.bool s,.slice A N C,.int .i64 x]) ∧ Mine w' W.heap.size A N C m) ∧ Below W.heap.size W w')) (HY : Hid (∀ W : World,Calls Tryz.prog 70 #[.agg #[.int .i64 E,.int .i64 F],.int .u64 b] W fun e w' => (∃ A N C,e = .returned (.agg #[.bool s',.slice A N C,.int .i64 x']) ∧ Mine w' W.heap.size A N C m') ∧ Below W.heap.size W w')) (HM : Hid (∀ (W : World) (A : Option Addr) (N C : Nat) (A' : Option Addr) (N' C' : Nat),Num W A N m → Num W A' N' m' → Calls Tryz.prog 69 #[.agg #[.bool s,.slice A N C,.int .i64 x],.agg #[.bool s',.slice A' N' C',.int .i64 x']] W fun e w' => (∃ A N C,e = .returned (.agg #[.bool r,.slice A N C,.int .i64 y]) ∧ Mine w' W.heap.size A N C v) ∧ Below W.heap.size W w')) (w : World)  :
  Calls Tryz.prog 25 #[.agg #[.int .i64 E,.int .i64 F],.int .u64 a,.int .u64 b] w fun e w' => (∃ A N C,e = .returned (.tuple #[.agg #[.bool r,.slice A N C,.int .i64 y],.int .i64 0]) ∧ Mine w' w.heap.size A N C v) ∧ Below w.heap.size w w' := by
 go_enter Tryz.func25,Tryz.ntmps25
 go_wp2_with fail
 refine (HT _).mono ?_
 rintro e w1 ⟨rfl,hb1⟩
 have hS := (Fs.two w _ _ _ _).kept hb1
 obtain ⟨⟨ya,yb,-⟩,⟨yc,yd,ye,-⟩,-⟩ := hS.cells
 go_wp2_with fail
 refine (HA _).mono ?_
 rintro e w2 ⟨rfl,hb2⟩
 replace hS := hS.kept hb2
 clear ya yb yc yd ye
 obtain ⟨⟨yf,yg,-⟩,⟨yh,yi,yj,-⟩,-⟩ := hS.cells
 go_wp2_with fail
 refine (HB _).mono ?_
 rintro e w3 ⟨rfl,hb3⟩
 replace hS := hS.kept hb3
 clear yf yg yh yi yj
 obtain ⟨⟨yk,yl,-⟩,⟨ym,yn,yo,-⟩,-⟩ := hS.cells
 have hltw3_0 : w.heap.size < w3.heap.size := hS.lt 0 rfl
 have hltw3_1 : w.heap.size + 1 < w3.heap.size := hS.lt 1 rfl
 go_wp2_with fail
 have hS3s : w.heap.size ≤ w3.heap.size := hS.size
 have hs9 : ∀ x9 : Nat × (Pk → World → Prop),x9 ∈ ([(2,fun q W => Mine W (w.heap.size + 2) q.A q.N q.C (m)),(5,fun q W => Mine W (w.heap.size + 2) q.A q.N q.C (m')),(6,fun q W => Mine W (w.heap.size + 2) q.A q.N q.C (v))] : List (Nat × (Pk → World → Prop))) → ∀ q9 : Pk,St (w.heap.size + 2) (x9.2 q9) := by
  intro x hx q
  simp only [List.mem_cons,List.not_mem_nil,or_false] at hx
  rcases hx with rfl | rfl | rfl
  ·exact st_mine _ _ _ _ _
  ·exact st_mine _ _ _ _ _
  ·exact st_mine _ _ _ _ _
 have h09 : ∀ x9 : Nat × (Pk → World → Prop),x9 ∈ ([(2,fun q W => Mine W (w.heap.size + 2) q.A q.N q.C (m)),(5,fun q W => Mine W (w.heap.size + 2) q.A q.N q.C (m')),(6,fun q W => Mine W (w.heap.size + 2) q.A q.N q.C (v))] : List (Nat × (Pk → World → Prop))) → 9 ≤ x9.1 → x9.2 ⟨none,0,0⟩ w3 := by
  intro x hx hn9
  simp only [List.mem_cons,List.not_mem_nil,or_false] at hx
  rcases hx with rfl | rfl | rfl
  ·exact absurd hn9 (by simp)
  ·exact absurd hn9 (by simp)
  ·exact absurd hn9 (by simp)
 refine wp_region_any (by kernel_rfl) ?_
 refine wpAny_pick (fun p9 => [some (28,.agg #[.int .i64 E,.int .i64 F]),some (29,.int .u64 a),some (30,.agg #[.bool s,.slice (p9 2).A (p9 2).N (p9 2).C,.int .i64 x]),some (31,.agg #[.int .i64 E,.int .i64 F]),some (32,.int .u64 b),some (33,.agg #[.bool s',.slice (p9 5).A (p9 5).N (p9 5).C,.int .i64 x']),some (34,.agg #[.bool r,.slice (p9 6).A (p9 6).N (p9 6).C,.int .i64 y]),none,some (7,.int .i64 0)])
  (fun p9 l9 W9 => Pm w (w.heap.size + 2) [(2,fun q W => Mine W (w.heap.size + 2) q.A q.N q.C (m)),(5,fun q W => Mine W (w.heap.size + 2) q.A q.N q.C (m')),(6,fun q W => Mine W (w.heap.size + 2) q.A q.N q.C (v))] p9 l9 W9 (pickBs l9 [(7,[⟨w.heap.size,#[.int .i64 E,.int .i64 F],23⟩,⟨w.heap.size + 1,#[.bool r,.slice (p9 6).A (p9 6).N (p9 6).C,.int .i64 y],33⟩])] [⟨w.heap.size,#[.int .i64 E,.int .i64 F],23⟩,⟨w.heap.size + 1,#[.bool false,.slice none 0 0,.int .i64 0],33⟩])) _ _ (fun _ => rfl) (by kernel_rfl) (fun _ => rfl) (fun _ => rfl) ?_ ?_ (fun _ => ⟨none,0,0⟩) (Pm.start2 hS _ _ _ (by omega) hs9 h09)
 ·intro p9 l9 t9 W9 i9 hD hi9 hl9 hM
  obtain ⟨o9,ho9,hd9⟩ := (mem_ready.1 hi9).2
  have hin9 : i9 < 9 := by
   by_cases h : i9 < 9
   ·exact h
   ·rw [Array.getElem?_eq_none (by rw [hD.len]; simp; omega)] at hl9; cases hl9
  have hcase : i9 = 0 ∨ i9 = 1 ∨ i9 = 2 ∨ i9 = 3 ∨ i9 = 4 ∨ i9 = 5 ∨ i9 = 6 ∨ i9 = 7 ∨ i9 = 8 := by omega
  clear hin9
  rcases hcase with rfl | rfl | rfl | rfl | rfl | rfl | rfl | rfl | rfl
  ·cases ho9
   have r3 := hD.old 3 _ rfl rfl
   have hM0 : Fs w W9 [⟨w.heap.size,#[.int .i64 E,.int .i64 F],23⟩,⟨w.heap.size + 1,#[.bool false,.slice none 0 0,.int .i64 0],33⟩] := by
    have hM1 := hM.st
    simp only [pickBs] at hM1
    rw [if_neg (hD.waits 0 7 _ ⟨0,.phase⟩ hl9 rfl (by simp) rfl rfl)] at hM1
    exact hM1
   have Q_ := hM0.cellAt (b := w.heap.size) (cs := #[.int .i64 E,.int .i64 F]) (t := 23) (by simp)
   have c9_0 := Q_ 0 _ rfl
   have c9_1 := Q_ 1 _ rfl
   clear Q_
   clear hM0
   refine wpOp_step rfl fun K hK => ?_
   go_simp
   exact hK _ _ ⟨p9,fun _ _ => rfl,rfl,(Pm.keepM rfl (hM.val rfl))⟩
  ·cases ho9
   have r1 := hD.old 1 _ rfl rfl
   refine wpOp_step rfl fun K hK => ?_
   go_simp
   exact hK _ _ ⟨p9,fun _ _ => rfl,rfl,(Pm.keepM rfl (hM.val rfl))⟩
  ·cases ho9
   have r28 := hD.od hd9 0 28 _ rfl (by simp)
   have r29 := hD.od hd9 1 29 _ rfl (by simp)
   have hM0 : Fs w W9 [⟨w.heap.size,#[.int .i64 E,.int .i64 F],23⟩,⟨w.heap.size + 1,#[.bool false,.slice none 0 0,.int .i64 0],33⟩] := by
    have hM1 := hM.st
    simp only [pickBs] at hM1
    rw [if_neg (hD.waits 2 7 _ ⟨2,.phase⟩ hl9 rfl (by simp) rfl rfl)] at hM1
    exact hM1
   have HD := hide hD
   have hn7 := hD.waits 2 7 _ ⟨2,.phase⟩ hl9 rfl (by simp) rfl rfl
   refine wpOp_step rfl fun K hK => ?_
   go_simp
   go_wp2_with fail
   refine (unhide HX _).mono ?_
   rintro en w9 ⟨⟨a9,n9,c9,rfl,h9⟩,hb9⟩
   refine hK _ _ ⟨p9.set 2 ⟨a9,n9,c9⟩,?_,rfl,(Pm.keepM rfl (((hM.kept hs9 hb9).pick ⟨a9,n9,c9⟩ ?_).into (by simp only [pickBs]; rw [if_neg hn7,if_neg hn7])))⟩
   ·intro k9 hk9
    clear hM hK
    match k9,hk9 with
    | 0,_ => rfl
    | 1,_ => rfl
    | 2,hk9 => exact absurd (hl9.symm.trans hk9) (by simp)
    | 3,_ => rfl
    | 4,_ => rfl
    | 5,hk9 => exact absurd (hl9.symm.trans (getD_true ((unhide HD).shut 5 _ (hk9) rfl ⟨2,.chain⟩ (by simp) rfl))) (by simp)
    | 6,hk9 => exact absurd (hl9.symm.trans (getD_true ((unhide HD).shut 6 _ (hk9) rfl ⟨2,.data⟩ (by simp) rfl))) (by simp)
    | 7,hk9 => exact absurd (hl9.symm.trans (getD_true ((unhide HD).shut 7 _ (hk9) rfl ⟨2,.phase⟩ (by simp) rfl))) (by simp)
    | 8,hk9 => exact absurd (hl9.symm.trans (getD_true ((unhide HD).shut 8 _ (hk9) rfl ⟨2,.phase⟩ (by simp) rfl))) (by simp)
    | k9 + 9,_ => rfl
   ·intro x hx he; simp only [List.mem_cons,List.not_mem_nil,or_false] at hx; rcases hx with rfl | rfl | rfl
    ·exact h9.mono hM.bw
    ·exact absurd he (by simp)
    ·exact absurd he (by simp)
  ·cases ho9
   have r3 := hD.old 3 _ rfl rfl
   have hM0 : Fs w W9 [⟨w.heap.size,#[.int .i64 E,.int .i64 F],23⟩,⟨w.heap.size + 1,#[.bool false,.slice none 0 0,.int .i64 0],33⟩] := by
    have hM1 := hM.st
    simp only [pickBs] at hM1
    rw [if_neg (hD.waits 3 7 _ ⟨3,.phase⟩ hl9 rfl (by simp) rfl rfl)] at hM1
    exact hM1
   have Q_ := hM0.cellAt (b := w.heap.size) (cs := #[.int .i64 E,.int .i64 F]) (t := 23) (by simp)
   have c9_0 := Q_ 0 _ rfl
   have c9_1 := Q_ 1 _ rfl
   clear Q_
   clear hM0
   refine wpOp_step rfl fun K hK => ?_
   go_simp
   exact hK _ _ ⟨p9,fun _ _ => rfl,rfl,(Pm.keepM rfl (hM.val rfl))⟩
  ·cases ho9
   have r2 := hD.old 2 _ rfl rfl
   refine wpOp_step rfl fun K hK => ?_
   go_simp
   exact hK _ _ ⟨p9,fun _ _ => rfl,rfl,(Pm.keepM rfl (hM.val rfl))⟩
  ·cases ho9
   have r31 := hD.od hd9 3 31 _ rfl (by simp)
   have r32 := hD.od hd9 4 32 _ rfl (by simp)
   have g2 := hM.fx _ (List.mem_of_getElem? (i := 0) rfl) (Or.inl (getD_true (hd9 ⟨2,.chain⟩ (by simp) rfl)))
   simp only [] at g2
   have hM0 : Fs w W9 [⟨w.heap.size,#[.int .i64 E,.int .i64 F],23⟩,⟨w.heap.size + 1,#[.bool false,.slice none 0 0,.int .i64 0],33⟩] := by
    have hM1 := hM.st
    simp only [pickBs] at hM1
    rw [if_neg (hD.waits 5 7 _ ⟨5,.phase⟩ hl9 rfl (by simp) rfl rfl)] at hM1
    exact hM1
   have HD := hide hD
   have hn7 := hD.waits 5 7 _ ⟨5,.phase⟩ hl9 rfl (by simp) rfl rfl
   refine wpOp_step rfl fun K hK => ?_
   go_simp
   go_wp2_with fail
   refine (unhide HY _).mono ?_
   rintro en w9 ⟨⟨a9,n9,c9,rfl,h9⟩,hb9⟩
   refine hK _ _ ⟨p9.set 5 ⟨a9,n9,c9⟩,?_,rfl,(Pm.keepM rfl (((hM.kept hs9 hb9).pick ⟨a9,n9,c9⟩ ?_).into (by simp only [pickBs]; rw [if_neg hn7,if_neg hn7])))⟩
   ·intro k9 hk9
    clear hM hK
    match k9,hk9 with
    | 0,_ => rfl
    | 1,_ => rfl
    | 2,_ => rfl
    | 3,_ => rfl
    | 4,_ => rfl
    | 5,hk9 => exact absurd (hl9.symm.trans hk9) (by simp)
    | 6,hk9 => exact absurd (hl9.symm.trans (getD_true ((unhide HD).shut 6 _ (hk9) rfl ⟨5,.data⟩ (by simp) rfl))) (by simp)
    | 7,hk9 => exact absurd (hl9.symm.trans (getD_true ((unhide HD).shut 7 _ (hk9) rfl ⟨5,.phase⟩ (by simp) rfl))) (by simp)
    | 8,hk9 => exact absurd (hl9.symm.trans (getD_true ((unhide HD).shut 8 _ (hk9) rfl ⟨5,.phase⟩ (by simp) rfl))) (by simp)
    | k9 + 9,_ => rfl
   ·intro x hx he; simp only [List.mem_cons,List.not_mem_nil,or_false] at hx; rcases hx with rfl | rfl | rfl
    ·exact absurd he (by simp)
    ·exact h9.mono hM.bw
    ·exact absurd he (by simp)
  ·cases ho9
   have r30 := hD.od hd9 2 30 _ rfl (by simp)
   have r33 := hD.od hd9 5 33 _ rfl (by simp)
   have g2 := hM.fx _ (List.mem_of_getElem? (i := 0) rfl) (Or.inl (getD_true (hd9 ⟨2,.data⟩ (by simp) rfl)))
   simp only [] at g2
   have g5 := hM.fx _ (List.mem_of_getElem? (i := 1) rfl) (Or.inl (getD_true (hd9 ⟨5,.data⟩ (by simp) rfl)))
   simp only [] at g5
   have hM0 : Fs w W9 [⟨w.heap.size,#[.int .i64 E,.int .i64 F],23⟩,⟨w.heap.size + 1,#[.bool false,.slice none 0 0,.int .i64 0],33⟩] := by
    have hM1 := hM.st
    simp only [pickBs] at hM1
    rw [if_neg (hD.waits 6 7 _ ⟨6,.data⟩ hl9 rfl (by simp) rfl rfl)] at hM1
    exact hM1
   have HD := hide hD
   have hn7 := hD.waits 6 7 _ ⟨6,.data⟩ hl9 rfl (by simp) rfl rfl
   refine wpOp_step rfl fun K hK => ?_
   go_simp
   go_wp2_with fail
   refine (unhide HM _ _ _ _ _ _ _ g2.num g5.num).mono ?_
   rintro en w9 ⟨⟨a9,n9,c9,rfl,h9⟩,hb9⟩
   refine hK _ _ ⟨p9.set 6 ⟨a9,n9,c9⟩,?_,rfl,(Pm.keepM rfl (((hM.kept hs9 hb9).pick ⟨a9,n9,c9⟩ ?_).into (by simp only [pickBs]; rw [if_neg hn7,if_neg hn7])))⟩
   ·intro k9 hk9
    clear hM hK
    match k9,hk9 with
    | 0,_ => rfl
    | 1,_ => rfl
    | 2,_ => rfl
    | 3,_ => rfl
    | 4,_ => rfl
    | 5,_ => rfl
    | 6,hk9 => exact absurd (hl9.symm.trans hk9) (by simp)
    | 7,hk9 => exact absurd (hl9.symm.trans (getD_true ((unhide HD).shut 7 _ (hk9) rfl ⟨6,.data⟩ (by simp) rfl))) (by simp)
    | 8,hk9 => exact absurd (hl9.symm.trans (getD_true ((unhide HD).shut 8 _ (hk9) rfl ⟨6,.phase⟩ (by simp) rfl))) (by simp)
    | k9 + 9,_ => rfl
   ·intro x hx he; simp only [List.mem_cons,List.not_mem_nil,or_false] at hx; rcases hx with rfl | rfl | rfl
    ·exact absurd he (by simp)
    ·exact absurd he (by simp)
    ·exact h9.mono hM.bw
  ·cases ho9
   have r6 := hD.old 6 _ rfl rfl
   have r34 := hD.od hd9 6 34 _ rfl (by simp)
   have hM0 : Fs w W9 [⟨w.heap.size,#[.int .i64 E,.int .i64 F],23⟩,⟨w.heap.size + 1,#[.bool false,.slice none 0 0,.int .i64 0],33⟩] := by
    have hM1 := hM.st
    simp only [pickBs] at hM1
    rw [if_neg (by rw [hl9]; simp)] at hM1
    exact hM1
   have c9_0 := hM0.cellAt (b := w.heap.size + 1) (cs := #[.bool false,.slice none 0 0,.int .i64 0]) (t := 33) (by simp) 0 _ rfl
   have z9_0 := hM0.frozen (b := w.heap.size + 1) (cs := #[.bool false,.slice none 0 0,.int .i64 0]) (t := 33) (by simp) 0
   have c9_1 := hM0.cellAt (b := w.heap.size + 1) (cs := #[.bool false,.slice none 0 0,.int .i64 0]) (t := 33) (by simp) 1 _ rfl
   have z9_1 := hM0.frozen (b := w.heap.size + 1) (cs := #[.bool false,.slice none 0 0,.int .i64 0]) (t := 33) (by simp) 1
   have c9_2 := hM0.cellAt (b := w.heap.size + 1) (cs := #[.bool false,.slice none 0 0,.int .i64 0]) (t := 33) (by simp) 2 _ rfl
   have z9_2 := hM0.frozen (b := w.heap.size + 1) (cs := #[.bool false,.slice none 0 0,.int .i64 0]) (t := 33) (by simp) 2
   refine wpOp_step rfl fun K hK => ?_
   go_simp
   exact hK _ _ ⟨p9,fun _ _ => rfl,rfl,Pm.putM hl9 ((((hM.val rfl).put hs9 _ _ (by simp <;> omega) (hM0.put (b := w.heap.size + 1) (cs := #[.bool false,.slice none 0 0,.int .i64 0]) (t := 33) (by simp) (by simp) 0 (.bool r) [⟨w.heap.size,#[.int .i64 E,.int .i64 F],23⟩,⟨w.heap.size + 1,#[.bool r,.slice none 0 0,.int .i64 0],33⟩] (by simp <;> omega))).put hs9 _ _ (by simp <;> omega) ((hM0.put (b := w.heap.size + 1) (cs := #[.bool false,.slice none 0 0,.int .i64 0]) (t := 33) (by simp) (by simp) 0 (.bool r) [⟨w.heap.size,#[.int .i64 E,.int .i64 F],23⟩,⟨w.heap.size + 1,#[.bool r,.slice none 0 0,.int .i64 0],33⟩] (by simp <;> omega)).put (b := w.heap.size + 1) (cs := #[.bool r,.slice none 0 0,.int .i64 0]) (t := 33) (by simp) (by simp) 1 (.slice (p9 6).A (p9 6).N (p9 6).C) [⟨w.heap.size,#[.int .i64 E,.int .i64 F],23⟩,⟨w.heap.size + 1,#[.bool r,.slice (p9 6).A (p9 6).N (p9 6).C,.int .i64 0],33⟩] (by simp <;> omega))).put hs9 _ _ (by simp <;> omega) (((hM0.put (b := w.heap.size + 1) (cs := #[.bool false,.slice none 0 0,.int .i64 0]) (t := 33) (by simp) (by simp) 0 (.bool r) [⟨w.heap.size,#[.int .i64 E,.int .i64 F],23⟩,⟨w.heap.size + 1,#[.bool r,.slice none 0 0,.int .i64 0],33⟩] (by simp <;> omega)).put (b := w.heap.size + 1) (cs := #[.bool r,.slice none 0 0,.int .i64 0]) (t := 33) (by simp) (by simp) 1 (.slice (p9 6).A (p9 6).N (p9 6).C) [⟨w.heap.size,#[.int .i64 E,.int .i64 F],23⟩,⟨w.heap.size + 1,#[.bool r,.slice (p9 6).A (p9 6).N (p9 6).C,.int .i64 0],33⟩] (by simp <;> omega)).put (b := w.heap.size + 1) (cs := #[.bool r,.slice (p9 6).A (p9 6).N (p9 6).C,.int .i64 0]) (t := 33) (by simp) (by simp) 2 (.int .i64 y) [⟨w.heap.size,#[.int .i64 E,.int .i64 F],23⟩,⟨w.heap.size + 1,#[.bool r,.slice (p9 6).A (p9 6).N (p9 6).C,.int .i64 y],33⟩] (by simp <;> omega)))⟩
  ·cases ho9
   refine wpOp_step rfl fun K hK => ?_
   go_simp
   exact hK _ _ ⟨p9,fun _ _ => rfl,rfl,(Pm.keepM rfl (hM.val rfl))⟩
 ·intro p9 l9 W9 hn9 hl9 hM
  have fr6_2 := hM.fx _ (List.mem_of_getElem? (i := 0) rfl) (Or.inl (hl9 2 (by decide)))
  have fr6_5 := hM.fx _ (List.mem_of_getElem? (i := 1) rfl) (Or.inl (hl9 5 (by decide)))
  have fr6_6 := hM.fx _ (List.mem_of_getElem? (i := 2) rfl) (Or.inl (hl9 6 (by decide)))
  replace hM := hM.st
  simp only [pickBs] at hM
  rw [if_pos (hl9 7 (by decide))] at hM
  clear hl9 hs9 h09 hn9
  generalize p9 2 = q2 at *
  obtain ⟨Ar6_2,Nr6_2,Cr6_2⟩ := q2
  simp only [] at fr6_2
  generalize p9 5 = q5 at *
  obtain ⟨Ar6_5,Nr6_5,Cr6_5⟩ := q5
  simp only [] at fr6_5
  generalize p9 6 = q6 at *
  obtain ⟨Ar6_6,Nr6_6,Cr6_6⟩ := q6
  simp only [] at fr6_6
  clear hS yk yl ym yn yo
  have hS := hM
  clear hM
  simp only [Puts.lay,List.setIfInBounds_toArray,List.set_cons_zero,List.set_cons_succ]
  obtain ⟨⟨yp,yq,-⟩,⟨yr,ys,yt,-⟩,-⟩ := hS.cells
  go_wp2
  exact bodyPost_ret (v := .tuple #[.agg #[.bool r,.slice Ar6_6 Nr6_6 Cr6_6,.int .i64 y],.int .i64 0]) (by simp [results,Tryz.results25,go_sem,yr,ys,yt]) rfl ⟨⟨_,_,_,rfl,Mine.mono (show Mine W9 _ _ _ _ _ from unhide fr6_6) (by omega)⟩,hS.fr⟩
theorem nmid_err1 (E F a b c : Int) (hc : (c == (0 : Int)) = false) (H0 : Tel 80 #[.agg #[.int .i64 E,.int .i64 F],.int .u64 a] (.int .i64 c))  (w : World)  :
  Calls Tryz.prog 24 #[.agg #[.int .i64 E,.int .i64 F],.int .u64 a,.int .u64 b] w fun e w' => e = .returned (.tuple #[.agg #[.bool false,.slice none 0 0,.int .i64 0],.int .i64 c]) ∧ Below w.heap.size w w' := by
 go_enter Tryz.func24,Tryz.ntmps24
 go_wp2_with fail
 refine (check2_err1 E F c hc _ a b H0 _ (by have := heap_alloc_new ((w.alloc (.cells #[.int .i64 E,.int .i64 F] 23)).alloc (.cells #[.bool false,.slice none 0 0,.int .i64 0] 33)) (.cells #[.int .u64 a,.int .u64 b] 24); simpa only [World.size_alloc] using this)).mono ?_
 rintro e w1 ⟨rfl,hb1⟩
 have hS : Fs w ((w.alloc (.cells #[.int .i64 E,.int .i64 F] 23)).alloc (.cells #[.bool false,.slice none 0 0,.int .i64 0] 33)) [⟨w.heap.size,#[.int .i64 E,.int .i64 F],23⟩,⟨w.heap.size + 1,#[.bool false,.slice none 0 0,.int .i64 0],33⟩] := Fs.two w _ _ _ _
 replace hS := ((hS.alloc #[.int .u64 a,.int .u64 b] 24).kept hb1).sub (fun x hx => List.mem_cons_of_mem _ hx)
 obtain ⟨⟨ya,yb,-⟩,⟨yc,yd,ye,-⟩,-⟩ := hS.cells
 have Q_ := hS.frozen (b := w.heap.size + 1) (cs := #[.bool false,.slice none 0 0,.int .i64 0]) (t := 33) (by simp)
 have fz0 := Q_ 0
 have fz1 := Q_ 1
 have fz2 := Q_ 2
 clear Q_
 go_wp2
 exact bodyPost_ret (v := .tuple #[.agg #[.bool false,.slice none 0 0,.int .i64 0],.int .i64 c]) (by simp [results,Tryz.results24,go_sem,yc,yd,ye]) rfl ⟨rfl,((hS.fr.setCell (by simp <;> omega) _).setCell (by simp <;> omega) _).setCell (by simp <;> omega) _⟩
theorem nmid_err2 (E F a b c : Int) (hc : (c == (0 : Int)) = false) (H0 : Tel 80 #[.agg #[.int .i64 E,.int .i64 F],.int .u64 a] (.int .i64 0)) (H1 : Tel 80 #[.agg #[.int .i64 E,.int .i64 F],.int .u64 b] (.int .i64 c))  (w : World)  :
  Calls Tryz.prog 24 #[.agg #[.int .i64 E,.int .i64 F],.int .u64 a,.int .u64 b] w fun e w' => e = .returned (.tuple #[.agg #[.bool false,.slice none 0 0,.int .i64 0],.int .i64 c]) ∧ Below w.heap.size w w' := by
 go_enter Tryz.func24,Tryz.ntmps24
 go_wp2_with fail
 refine (check2_err2 E F c hc _ a b H0 H1 _ (by have := heap_alloc_new ((w.alloc (.cells #[.int .i64 E,.int .i64 F] 23)).alloc (.cells #[.bool false,.slice none 0 0,.int .i64 0] 33)) (.cells #[.int .u64 a,.int .u64 b] 24); simpa only [World.size_alloc] using this)).mono ?_
 rintro e w1 ⟨rfl,hb1⟩
 have hS : Fs w ((w.alloc (.cells #[.int .i64 E,.int .i64 F] 23)).alloc (.cells #[.bool false,.slice none 0 0,.int .i64 0] 33)) [⟨w.heap.size,#[.int .i64 E,.int .i64 F],23⟩,⟨w.heap.size + 1,#[.bool false,.slice none 0 0,.int .i64 0],33⟩] := Fs.two w _ _ _ _
 replace hS := ((hS.alloc #[.int .u64 a,.int .u64 b] 24).kept hb1).sub (fun x hx => List.mem_cons_of_mem _ hx)
 obtain ⟨⟨ya,yb,-⟩,⟨yc,yd,ye,-⟩,-⟩ := hS.cells
 have Q_ := hS.frozen (b := w.heap.size + 1) (cs := #[.bool false,.slice none 0 0,.int .i64 0]) (t := 33) (by simp)
 have fz0 := Q_ 0
 have fz1 := Q_ 1
 have fz2 := Q_ 2
 clear Q_
 go_wp2
 exact bodyPost_ret (v := .tuple #[.agg #[.bool false,.slice none 0 0,.int .i64 0],.int .i64 c]) (by simp [results,Tryz.results24,go_sem,yc,yd,ye]) rfl ⟨rfl,((hS.fr.setCell (by simp <;> omega) _).setCell (by simp <;> omega) _).setCell (by simp <;> omega) _⟩
end Go.Proofs.YtkebhccbhoamjaaGreatDoor
