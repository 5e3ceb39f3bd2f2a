/- Of what NearMeetsRow stands on: ExMul ExValue ExVal ExWo. -/
import Derived.Test.YtaidedkpfnidpaaGreatDoorPau
import Derived.Test.YtaidedkpfnidpaaGreatDoorPav
import Derived.Test.YtaidedkpfnidpaaGreatDoorPae
import Derived.Test.YtaidedkpfnidpaaGreatDoorPar
import Derived.Test.YtaidedkpfnidpaaGreatDoorPab
namespace Go.Proofs.YtaidedkpfnidpaaGreatDoor
open Go.RowKit
set_option maxHeartbeats 2000000
theorem Mul_left (s:Bool) (a:Option Addr) (cap m:Nat) (x:Int) (s':Bool) (a':Option Addr) (n' cap' m':Nat) (x':Int) (w:World) (h:Dy w s a 0 m x) (h':Dy w s' a' n' m' x') :
  Calls Tryz.prog 133 #[.agg #[.bool s,.slice a 0 cap,.int .i64 x],.agg #[.bool s',.slice a' n' cap',.int .i64 x']] w fun e w'=>e = .returned (.tuple #[.agg #[.bool false,.slice none 0 0,.int .i64 0],.int .i64 0])∧Below w.heap.size w w':=by
 have H:=hide h
 have H':=hide h'
 clear h h'
 go_enter Tryz.func133,Tryz.ntmps133
 go_wp2_with fail
 refine (checkBoth_dy s a 0 cap m x s' a' n' cap' m' x' _ ((unhide H).kept (gr_trans (gr_trans (gr_alloc _ _) (gr_alloc _ _)) (gr_alloc _ _))) ((unhide H').kept (gr_trans (gr_trans (gr_alloc _ _) (gr_alloc _ _)) (gr_alloc _ _)))).mono ?_
 rintro e w1 ⟨rfl,hb1⟩
 have hS:=(Fs.three w _ _ _ _ _ _).kept hb1
 obtain ⟨⟨ya,yb,yc,-⟩,⟨yd,ye,yf,-⟩,⟨yg,yh,yi,-⟩,-⟩:=hS.cells
 go_wp2_with fail
 refine (isNought_yes a cap _).mono ?_
 rintro e w2 ⟨rfl,hb2⟩
 replace hS:=hS.kept hb2
 clear ya yb yc yd ye yf yg yh yi
 obtain ⟨⟨yj,yk,yl,-⟩,⟨ym,yn,yo,-⟩,⟨yp,yq,yr,-⟩,-⟩:=hS.cells
 have Q_:=hS.frozen (b:=w.heap.size+2) (cs:=#[.bool false,.slice none 0 0,.int .i64 0]) (t:=58) (by simp)
 have fz0:=Q_ 0
 have fz1:=Q_ 1
 have fz2:=Q_ 2
 clear Q_
 go_wp2
 exact bodyPost_ret (v:=.tuple #[.agg #[.bool false,.slice none 0 0,.int .i64 0],.int .i64 0]) (by simp [results,Tryz.results133,go_sem,yp,yq,yr]) rfl ⟨rfl,((hS.fr.setCell (by simp <;> omega) _).setCell (by simp <;> omega) _).setCell (by simp <;> omega) _⟩
theorem Mul_right (s:Bool) (a:Option Addr) (n cap m:Nat) (x:Int) (s':Bool) (a':Option Addr) (cap' m':Nat) (x':Int) (w:World) (h:Dy w s a n m x) (h':Dy w s' a' 0 m' x') (hn:0 < n) :
  Calls Tryz.prog 133 #[.agg #[.bool s,.slice a n cap,.int .i64 x],.agg #[.bool s',.slice a' 0 cap',.int .i64 x']] w fun e w'=>e = .returned (.tuple #[.agg #[.bool false,.slice none 0 0,.int .i64 0],.int .i64 0])∧Below w.heap.size w w':=by
 have H:=hide h
 have H':=hide h'
 clear h h'
 go_enter Tryz.func133,Tryz.ntmps133
 go_wp2_with fail
 refine (checkBoth_dy s a n cap m x s' a' 0 cap' m' x' _ ((unhide H).kept (gr_trans (gr_trans (gr_alloc _ _) (gr_alloc _ _)) (gr_alloc _ _))) ((unhide H').kept (gr_trans (gr_trans (gr_alloc _ _) (gr_alloc _ _)) (gr_alloc _ _)))).mono ?_
 rintro e w1 ⟨rfl,hb1⟩
 have hS:=(Fs.three w _ _ _ _ _ _).kept hb1
 obtain ⟨⟨ya,yb,yc,-⟩,⟨yd,ye,yf,-⟩,⟨yg,yh,yi,-⟩,-⟩:=hS.cells
 go_wp2_with fail
 refine (isNought_no a n cap hn _).mono ?_
 rintro e w2 ⟨rfl,hb2⟩
 replace hS:=hS.kept hb2
 clear ya yb yc yd ye yf yg yh yi
 obtain ⟨⟨yj,yk,yl,-⟩,⟨ym,yn,yo,-⟩,⟨yp,yq,yr,-⟩,-⟩:=hS.cells
 go_wp2_with fail
 refine (isNought_yes a' cap' _).mono ?_
 rintro e w3 ⟨rfl,hb3⟩
 replace hS:=hS.kept hb3
 clear yj yk yl ym yn yo yp yq yr
 obtain ⟨⟨ys,yt,yu,-⟩,⟨yv,yw,yx,-⟩,⟨yy,yz,y0,-⟩,-⟩:=hS.cells
 have Q_:=hS.frozen (b:=w.heap.size+2) (cs:=#[.bool false,.slice none 0 0,.int .i64 0]) (t:=58) (by simp)
 have fz0:=Q_ 0
 have fz1:=Q_ 1
 have fz2:=Q_ 2
 clear Q_
 go_wp2
 exact bodyPost_ret (v:=.tuple #[.agg #[.bool false,.slice none 0 0,.int .i64 0],.int .i64 0]) (by simp [results,Tryz.results133,go_sem,yy,yz,y0]) rfl ⟨rfl,((hS.fr.setCell (by simp <;> omega) _).setCell (by simp <;> omega) _).setCell (by simp <;> omega) _⟩
theorem Mul_below (s:Bool) (a:Option Addr) (n cap m:Nat) (x:Int) (s':Bool) (a':Option Addr) (n' cap' m':Nat) (x':Int) (w:World) (h:Dy w s a n m x) (h':Dy w s' a' n' m' x') (hn:0 < n) (hn':0 < n') (hx:x+x' < -1073741824) :
  Calls Tryz.prog 133 #[.agg #[.bool s,.slice a n cap,.int .i64 x],.agg #[.bool s',.slice a' n' cap',.int .i64 x']] w fun e w'=>e = .returned (.tuple #[.agg #[.bool false,.slice none 0 0,.int .i64 0],.int .i64 4])∧Below w.heap.size w w':=by
 have H:=hide h
 have H':=hide h'
 have hxr:=h.range
 have hxr':=h'.range
 clear h h'
 go_enter Tryz.func133,Tryz.ntmps133
 go_wp2_with fail
 refine (checkBoth_dy s a n cap m x s' a' n' cap' m' x' _ ((unhide H).kept (gr_trans (gr_trans (gr_alloc _ _) (gr_alloc _ _)) (gr_alloc _ _))) ((unhide H').kept (gr_trans (gr_trans (gr_alloc _ _) (gr_alloc _ _)) (gr_alloc _ _)))).mono ?_
 rintro e w1 ⟨rfl,hb1⟩
 have hS:=(Fs.three w _ _ _ _ _ _).kept hb1
 obtain ⟨⟨ya,yb,yc,-⟩,⟨yd,ye,yf,-⟩,⟨yg,yh,yi,-⟩,-⟩:=hS.cells
 go_wp2_with fail
 refine (isNought_no a n cap hn _).mono ?_
 rintro e w2 ⟨rfl,hb2⟩
 replace hS:=hS.kept hb2
 clear ya yb yc yd ye yf yg yh yi
 obtain ⟨⟨yj,yk,yl,-⟩,⟨ym,yn,yo,-⟩,⟨yp,yq,yr,-⟩,-⟩:=hS.cells
 go_wp2_with fail
 refine (isNought_no a' n' cap' hn' _).mono ?_
 rintro e w3 ⟨rfl,hb3⟩
 replace hS:=hS.kept hb3
 clear yj yk yl ym yn yo yp yq yr
 obtain ⟨⟨ys,yt,yu,-⟩,⟨yv,yw,yx,-⟩,⟨yy,yz,y0,-⟩,-⟩:=hS.cells
 go_wp2_with fail
 refine (beyond_below _ hx _).mono ?_
 rintro e w4 ⟨rfl,hb4⟩
 replace hS:=hS.kept hb4
 clear ys yt yu yv yw yx yy yz y0
 obtain ⟨⟨y1,y2,y3,-⟩,⟨y4,y5,y6,-⟩,⟨y7,y8,y9,-⟩,-⟩:=hS.cells
 have Q_:=hS.frozen (b:=w.heap.size+2) (cs:=#[.bool false,.slice none 0 0,.int .i64 0]) (t:=58) (by simp)
 have fz0:=Q_ 0
 have fz1:=Q_ 1
 have fz2:=Q_ 2
 clear Q_
 go_wp2
 exact bodyPost_ret (v:=.tuple #[.agg #[.bool false,.slice none 0 0,.int .i64 0],.int .i64 4]) (by simp [results,Tryz.results133,go_sem,y7,y8,y9]) rfl ⟨rfl,((hS.fr.setCell (by simp <;> omega) _).setCell (by simp <;> omega) _).setCell (by simp <;> omega) _⟩
theorem Mul_above (s:Bool) (a:Option Addr) (n cap m:Nat) (x:Int) (s':Bool) (a':Option Addr) (n' cap' m':Nat) (x':Int) (w:World) (h:Dy w s a n m x) (h':Dy w s' a' n' m' x') (hn:0 < n) (hn':0 < n') (hx:1073741824 < x+x') :
  Calls Tryz.prog 133 #[.agg #[.bool s,.slice a n cap,.int .i64 x],.agg #[.bool s',.slice a' n' cap',.int .i64 x']] w fun e w'=>e = .returned (.tuple #[.agg #[.bool false,.slice none 0 0,.int .i64 0],.int .i64 4])∧Below w.heap.size w w':=by
 have H:=hide h
 have H':=hide h'
 have hxr:=h.range
 have hxr':=h'.range
 clear h h'
 go_enter Tryz.func133,Tryz.ntmps133
 go_wp2_with fail
 refine (checkBoth_dy s a n cap m x s' a' n' cap' m' x' _ ((unhide H).kept (gr_trans (gr_trans (gr_alloc _ _) (gr_alloc _ _)) (gr_alloc _ _))) ((unhide H').kept (gr_trans (gr_trans (gr_alloc _ _) (gr_alloc _ _)) (gr_alloc _ _)))).mono ?_
 rintro e w1 ⟨rfl,hb1⟩
 have hS:=(Fs.three w _ _ _ _ _ _).kept hb1
 obtain ⟨⟨ya,yb,yc,-⟩,⟨yd,ye,yf,-⟩,⟨yg,yh,yi,-⟩,-⟩:=hS.cells
 go_wp2_with fail
 refine (isNought_no a n cap hn _).mono ?_
 rintro e w2 ⟨rfl,hb2⟩
 replace hS:=hS.kept hb2
 clear ya yb yc yd ye yf yg yh yi
 obtain ⟨⟨yj,yk,yl,-⟩,⟨ym,yn,yo,-⟩,⟨yp,yq,yr,-⟩,-⟩:=hS.cells
 go_wp2_with fail
 refine (isNought_no a' n' cap' hn' _).mono ?_
 rintro e w3 ⟨rfl,hb3⟩
 replace hS:=hS.kept hb3
 clear yj yk yl ym yn yo yp yq yr
 obtain ⟨⟨ys,yt,yu,-⟩,⟨yv,yw,yx,-⟩,⟨yy,yz,y0,-⟩,-⟩:=hS.cells
 go_wp2_with fail
 refine (beyond_above _ hx _).mono ?_
 rintro e w4 ⟨rfl,hb4⟩
 replace hS:=hS.kept hb4
 clear ys yt yu yv yw yx yy yz y0
 obtain ⟨⟨y1,y2,y3,-⟩,⟨y4,y5,y6,-⟩,⟨y7,y8,y9,-⟩,-⟩:=hS.cells
 have Q_:=hS.frozen (b:=w.heap.size+2) (cs:=#[.bool false,.slice none 0 0,.int .i64 0]) (t:=58) (by simp)
 have fz0:=Q_ 0
 have fz1:=Q_ 1
 have fz2:=Q_ 2
 clear Q_
 go_wp2
 exact bodyPost_ret (v:=.tuple #[.agg #[.bool false,.slice none 0 0,.int .i64 0],.int .i64 4]) (by simp [results,Tryz.results133,go_sem,y7,y8,y9]) rfl ⟨rfl,((hS.fr.setCell (by simp <;> omega) _).setCell (by simp <;> omega) _).setCell (by simp <;> omega) _⟩
theorem mul_fits (a a':Option Addr) (n n' cap cap' m m':Nat) (w:World) (h:Num w a n m) (h':Num w a' n' m') (hno:¬ Over (m * m')) :
  Calls Tryz.prog 118 #[.agg #[.slice a n cap],.agg #[.slice a' n' cap']] w fun e w'=>(∃ a n c,e = .returned (.tuple #[.agg #[.slice a n c],.int .i64 0])∧Mine w' w.heap.size a n c (m * m'))∧Below w.heap.size w w':=by
 refine (mul_any a a' n n' cap cap' m m' w h h').mono ?_
 rintro e w' ⟨h1|h1,hb⟩
 ·exact ⟨h1,hb⟩
 ·exact absurd h1.2 hno
theorem Mul_ok_tt (a:Option Addr) (n cap m:Nat) (x:Int) (a':Option Addr) (n' cap' m':Nat) (x':Int) (w:World) (h:Dy w true a n m x) (h':Dy w true a' n' m' x') (hn:0 < n) (hn':0 < n') (hx:-1073741824≤x+x'∧x+x'≤1073741824) (hno:¬ Over (m * m')) :
  Calls Tryz.prog 133 #[.agg #[.bool true,.slice a n cap,.int .i64 x],.agg #[.bool true,.slice a' n' cap',.int .i64 x']] w fun e w'=>(∃ A N C,e = .returned (.tuple #[.agg #[.bool false,.slice A N C,.int .i64 (x+x')],.int .i64 0])∧Mine w' w.heap.size A N C (m * m'))∧Below w.heap.size w w':=by
 have H:=hide h
 have H':=hide h'
 have hxr:=h.range
 have hxr':=h'.range
 have HO:=hide hno
 clear h h' hno
 go_enter Tryz.func133,Tryz.ntmps133
 go_wp2_with fail
 refine (checkBoth_dy true a n cap m x true a' n' cap' m' x' _ ((unhide H).kept (gr_trans (gr_trans (gr_alloc _ _) (gr_alloc _ _)) (gr_alloc _ _))) ((unhide H').kept (gr_trans (gr_trans (gr_alloc _ _) (gr_alloc _ _)) (gr_alloc _ _)))).mono ?_
 rintro e w1 ⟨rfl,hb1⟩
 have hS:=(Fs.three w _ _ _ _ _ _).kept hb1
 obtain ⟨⟨ya,yb,yc,-⟩,⟨yd,ye,yf,-⟩,⟨yg,yh,yi,-⟩,-⟩:=hS.cells
 go_wp2_with fail
 refine (isNought_no a n cap hn _).mono ?_
 rintro e w2 ⟨rfl,hb2⟩
 replace hS:=hS.kept hb2
 clear ya yb yc yd ye yf yg yh yi
 obtain ⟨⟨yj,yk,yl,-⟩,⟨ym,yn,yo,-⟩,⟨yp,yq,yr,-⟩,-⟩:=hS.cells
 go_wp2_with fail
 refine (isNought_no a' n' cap' hn' _).mono ?_
 rintro e w3 ⟨rfl,hb3⟩
 replace hS:=hS.kept hb3
 clear yj yk yl ym yn yo yp yq yr
 obtain ⟨⟨ys,yt,yu,-⟩,⟨yv,yw,yx,-⟩,⟨yy,yz,y0,-⟩,-⟩:=hS.cells
 go_wp2_with fail
 refine (beyond_no _ hx _).mono ?_
 rintro e w4 ⟨rfl,hb4⟩
 replace hS:=hS.kept hb4
 clear ys yt yu yv yw yx yy yz y0
 obtain ⟨⟨y1,y2,y3,-⟩,⟨y4,y5,y6,-⟩,⟨y7,y8,y9,-⟩,-⟩:=hS.cells
 have hltw4_0:w.heap.size < w4.heap.size:=hS.lt 0 rfl
 have hltw4_1:w.heap.size+1 < w4.heap.size:=hS.lt 1 rfl
 have hltw4_2:w.heap.size+2 < w4.heap.size:=hS.lt 2 rfl
 go_wp2_with fail
 refine (mul_fits a a' n n' cap cap' m m' _ ((unhide H).kept hS.fr).num ((unhide H').kept hS.fr).num (unhide HO)).mono ?_
 rintro e w5 ⟨⟨A5,N5,C5,rfl,f5⟩,hb5⟩
 replace hS:=hS.kept hb5
 clear y1 y2 y3 y4 y5 y6 y7 y8 y9
 obtain ⟨⟨yba,ybb,ybc,-⟩,⟨ybd,ybe,ybf,-⟩,⟨ybg,ybh,ybi,-⟩,-⟩:=hS.cells
 have hltw5_0:w.heap.size < w5.heap.size:=hS.lt 0 rfl
 have hltw5_1:w.heap.size+1 < w5.heap.size:=hS.lt 1 rfl
 have hltw5_2:w.heap.size+2 < w5.heap.size:=hS.lt 2 rfl
 have F5:=hide f5
 clear f5
 have Q_:=hS.frozen (b:=w.heap.size+2) (cs:=#[.bool false,.slice none 0 0,.int .i64 0]) (t:=58) (by simp)
 have fz0:=Q_ 0
 have fz1:=Q_ 1
 have fz2:=Q_ 2
 clear Q_
 go_wp2
 have hB:=fun u0 u1 u2=>((hS.fr.setCell (p:=⟨w.heap.size+2,0,none⟩) (by simp <;> omega) u0).setCell (p:=⟨w.heap.size+2,1,none⟩) (by simp <;> omega) u1).setCell (p:=⟨w.heap.size+2,2,none⟩) (by simp <;> omega) u2
 exact bodyPost_ret (v:=.tuple #[.agg #[.bool false,.slice A5 N5 C5,.int .i64 (x+x')],.int .i64 0]) (by simp [results,Tryz.results133,go_sem,ybg,ybh,ybi,hltw5_2]) rfl
  ⟨⟨_,_,_,rfl,(((((unhide F5).set (by exact hltw4_2) _).set (by exact hltw4_2) _).set (by exact hltw4_2) _).alloc _).mono (by omega)⟩,(hB _ _ _).alloc (hB _ _ _).size _⟩
theorem Mul_ok_tf (a:Option Addr) (n cap m:Nat) (x:Int) (a':Option Addr) (n' cap' m':Nat) (x':Int) (w:World) (h:Dy w true a n m x) (h':Dy w false a' n' m' x') (hn:0 < n) (hn':0 < n') (hx:-1073741824≤x+x'∧x+x'≤1073741824) (hno:¬ Over (m * m')) :
  Calls Tryz.prog 133 #[.agg #[.bool true,.slice a n cap,.int .i64 x],.agg #[.bool false,.slice a' n' cap',.int .i64 x']] w fun e w'=>(∃ A N C,e = .returned (.tuple #[.agg #[.bool true,.slice A N C,.int .i64 (x+x')],.int .i64 0])∧Mine w' w.heap.size A N C (m * m'))∧Below w.heap.size w w':=by
 have H:=hide h
 have H':=hide h'
 have hxr:=h.range
 have hxr':=h'.range
 have HO:=hide hno
 clear h h' hno
 go_enter Tryz.func133,Tryz.ntmps133
 go_wp2_with fail
 refine (checkBoth_dy true a n cap m x false a' n' cap' m' x' _ ((unhide H).kept (gr_trans (gr_trans (gr_alloc _ _) (gr_alloc _ _)) (gr_alloc _ _))) ((unhide H').kept (gr_trans (gr_trans (gr_alloc _ _) (gr_alloc _ _)) (gr_alloc _ _)))).mono ?_
 rintro e w1 ⟨rfl,hb1⟩
 have hS:=(Fs.three w _ _ _ _ _ _).kept hb1
 obtain ⟨⟨ya,yb,yc,-⟩,⟨yd,ye,yf,-⟩,⟨yg,yh,yi,-⟩,-⟩:=hS.cells
 go_wp2_with fail
 refine (isNought_no a n cap hn _).mono ?_
 rintro e w2 ⟨rfl,hb2⟩
 replace hS:=hS.kept hb2
 clear ya yb yc yd ye yf yg yh yi
 obtain ⟨⟨yj,yk,yl,-⟩,⟨ym,yn,yo,-⟩,⟨yp,yq,yr,-⟩,-⟩:=hS.cells
 go_wp2_with fail
 refine (isNought_no a' n' cap' hn' _).mono ?_
 rintro e w3 ⟨rfl,hb3⟩
 replace hS:=hS.kept hb3
 clear yj yk yl ym yn yo yp yq yr
 obtain ⟨⟨ys,yt,yu,-⟩,⟨yv,yw,yx,-⟩,⟨yy,yz,y0,-⟩,-⟩:=hS.cells
 go_wp2_with fail
 refine (beyond_no _ hx _).mono ?_
 rintro e w4 ⟨rfl,hb4⟩
 replace hS:=hS.kept hb4
 clear ys yt yu yv yw yx yy yz y0
 obtain ⟨⟨y1,y2,y3,-⟩,⟨y4,y5,y6,-⟩,⟨y7,y8,y9,-⟩,-⟩:=hS.cells
 have hltw4_0:w.heap.size < w4.heap.size:=hS.lt 0 rfl
 have hltw4_1:w.heap.size+1 < w4.heap.size:=hS.lt 1 rfl
 have hltw4_2:w.heap.size+2 < w4.heap.size:=hS.lt 2 rfl
 go_wp2_with fail
 refine (mul_fits a a' n n' cap cap' m m' _ ((unhide H).kept hS.fr).num ((unhide H').kept hS.fr).num (unhide HO)).mono ?_
 rintro e w5 ⟨⟨A5,N5,C5,rfl,f5⟩,hb5⟩
 replace hS:=hS.kept hb5
 clear y1 y2 y3 y4 y5 y6 y7 y8 y9
 obtain ⟨⟨yba,ybb,ybc,-⟩,⟨ybd,ybe,ybf,-⟩,⟨ybg,ybh,ybi,-⟩,-⟩:=hS.cells
 have hltw5_0:w.heap.size < w5.heap.size:=hS.lt 0 rfl
 have hltw5_1:w.heap.size+1 < w5.heap.size:=hS.lt 1 rfl
 have hltw5_2:w.heap.size+2 < w5.heap.size:=hS.lt 2 rfl
 have F5:=hide f5
 clear f5
 have Q_:=hS.frozen (b:=w.heap.size+2) (cs:=#[.bool false,.slice none 0 0,.int .i64 0]) (t:=58) (by simp)
 have fz0:=Q_ 0
 have fz1:=Q_ 1
 have fz2:=Q_ 2
 clear Q_
 go_wp2
 have hB:=fun u0 u1 u2=>((hS.fr.setCell (p:=⟨w.heap.size+2,0,none⟩) (by simp <;> omega) u0).setCell (p:=⟨w.heap.size+2,1,none⟩) (by simp <;> omega) u1).setCell (p:=⟨w.heap.size+2,2,none⟩) (by simp <;> omega) u2
 exact bodyPost_ret (v:=.tuple #[.agg #[.bool true,.slice A5 N5 C5,.int .i64 (x+x')],.int .i64 0]) (by simp [results,Tryz.results133,go_sem,ybg,ybh,ybi,hltw5_2]) rfl
  ⟨⟨_,_,_,rfl,(((((unhide F5).set (by exact hltw4_2) _).set (by exact hltw4_2) _).set (by exact hltw4_2) _).alloc _).mono (by omega)⟩,(hB _ _ _).alloc (hB _ _ _).size _⟩
theorem Mul_ok_ft (a:Option Addr) (n cap m:Nat) (x:Int) (a':Option Addr) (n' cap' m':Nat) (x':Int) (w:World) (h:Dy w false a n m x) (h':Dy w true a' n' m' x') (hn:0 < n) (hn':0 < n') (hx:-1073741824≤x+x'∧x+x'≤1073741824) (hno:¬ Over (m * m')) :
  Calls Tryz.prog 133 #[.agg #[.bool false,.slice a n cap,.int .i64 x],.agg #[.bool true,.slice a' n' cap',.int .i64 x']] w fun e w'=>(∃ A N C,e = .returned (.tuple #[.agg #[.bool true,.slice A N C,.int .i64 (x+x')],.int .i64 0])∧Mine w' w.heap.size A N C (m * m'))∧Below w.heap.size w w':=by
 have H:=hide h
 have H':=hide h'
 have hxr:=h.range
 have hxr':=h'.range
 have HO:=hide hno
 clear h h' hno
 go_enter Tryz.func133,Tryz.ntmps133
 go_wp2_with fail
 refine (checkBoth_dy false a n cap m x true a' n' cap' m' x' _ ((unhide H).kept (gr_trans (gr_trans (gr_alloc _ _) (gr_alloc _ _)) (gr_alloc _ _))) ((unhide H').kept (gr_trans (gr_trans (gr_alloc _ _) (gr_alloc _ _)) (gr_alloc _ _)))).mono ?_
 rintro e w1 ⟨rfl,hb1⟩
 have hS:=(Fs.three w _ _ _ _ _ _).kept hb1
 obtain ⟨⟨ya,yb,yc,-⟩,⟨yd,ye,yf,-⟩,⟨yg,yh,yi,-⟩,-⟩:=hS.cells
 go_wp2_with fail
 refine (isNought_no a n cap hn _).mono ?_
 rintro e w2 ⟨rfl,hb2⟩
 replace hS:=hS.kept hb2
 clear ya yb yc yd ye yf yg yh yi
 obtain ⟨⟨yj,yk,yl,-⟩,⟨ym,yn,yo,-⟩,⟨yp,yq,yr,-⟩,-⟩:=hS.cells
 go_wp2_with fail
 refine (isNought_no a' n' cap' hn' _).mono ?_
 rintro e w3 ⟨rfl,hb3⟩
 replace hS:=hS.kept hb3
 clear yj yk yl ym yn yo yp yq yr
 obtain ⟨⟨ys,yt,yu,-⟩,⟨yv,yw,yx,-⟩,⟨yy,yz,y0,-⟩,-⟩:=hS.cells
 go_wp2_with fail
 refine (beyond_no _ hx _).mono ?_
 rintro e w4 ⟨rfl,hb4⟩
 replace hS:=hS.kept hb4
 clear ys yt yu yv yw yx yy yz y0
 obtain ⟨⟨y1,y2,y3,-⟩,⟨y4,y5,y6,-⟩,⟨y7,y8,y9,-⟩,-⟩:=hS.cells
 have hltw4_0:w.heap.size < w4.heap.size:=hS.lt 0 rfl
 have hltw4_1:w.heap.size+1 < w4.heap.size:=hS.lt 1 rfl
 have hltw4_2:w.heap.size+2 < w4.heap.size:=hS.lt 2 rfl
 go_wp2_with fail
 refine (mul_fits a a' n n' cap cap' m m' _ ((unhide H).kept hS.fr).num ((unhide H').kept hS.fr).num (unhide HO)).mono ?_
 rintro e w5 ⟨⟨A5,N5,C5,rfl,f5⟩,hb5⟩
 replace hS:=hS.kept hb5
 clear y1 y2 y3 y4 y5 y6 y7 y8 y9
 obtain ⟨⟨yba,ybb,ybc,-⟩,⟨ybd,ybe,ybf,-⟩,⟨ybg,ybh,ybi,-⟩,-⟩:=hS.cells
 have hltw5_0:w.heap.size < w5.heap.size:=hS.lt 0 rfl
 have hltw5_1:w.heap.size+1 < w5.heap.size:=hS.lt 1 rfl
 have hltw5_2:w.heap.size+2 < w5.heap.size:=hS.lt 2 rfl
 have F5:=hide f5
 clear f5
 have Q_:=hS.frozen (b:=w.heap.size+2) (cs:=#[.bool false,.slice none 0 0,.int .i64 0]) (t:=58) (by simp)
 have fz0:=Q_ 0
 have fz1:=Q_ 1
 have fz2:=Q_ 2
 clear Q_
 go_wp2
 have hB:=fun u0 u1 u2=>((hS.fr.setCell (p:=⟨w.heap.size+2,0,none⟩) (by simp <;> omega) u0).setCell (p:=⟨w.heap.size+2,1,none⟩) (by simp <;> omega) u1).setCell (p:=⟨w.heap.size+2,2,none⟩) (by simp <;> omega) u2
 exact bodyPost_ret (v:=.tuple #[.agg #[.bool true,.slice A5 N5 C5,.int .i64 (x+x')],.int .i64 0]) (by simp [results,Tryz.results133,go_sem,ybg,ybh,ybi,hltw5_2]) rfl
  ⟨⟨_,_,_,rfl,(((((unhide F5).set (by exact hltw4_2) _).set (by exact hltw4_2) _).set (by exact hltw4_2) _).alloc _).mono (by omega)⟩,(hB _ _ _).alloc (hB _ _ _).size _⟩
theorem Mul_ok_ff (a:Option Addr) (n cap m:Nat) (x:Int) (a':Option Addr) (n' cap' m':Nat) (x':Int) (w:World) (h:Dy w false a n m x) (h':Dy w false a' n' m' x') (hn:0 < n) (hn':0 < n') (hx:-1073741824≤x+x'∧x+x'≤1073741824) (hno:¬ Over (m * m')) :
  Calls Tryz.prog 133 #[.agg #[.bool false,.slice a n cap,.int .i64 x],.agg #[.bool false,.slice a' n' cap',.int .i64 x']] w fun e w'=>(∃ A N C,e = .returned (.tuple #[.agg #[.bool false,.slice A N C,.int .i64 (x+x')],.int .i64 0])∧Mine w' w.heap.size A N C (m * m'))∧Below w.heap.size w w':=by
 have H:=hide h
 have H':=hide h'
 have hxr:=h.range
 have hxr':=h'.range
 have HO:=hide hno
 clear h h' hno
 go_enter Tryz.func133,Tryz.ntmps133
 go_wp2_with fail
 refine (checkBoth_dy false a n cap m x false a' n' cap' m' x' _ ((unhide H).kept (gr_trans (gr_trans (gr_alloc _ _) (gr_alloc _ _)) (gr_alloc _ _))) ((unhide H').kept (gr_trans (gr_trans (gr_alloc _ _) (gr_alloc _ _)) (gr_alloc _ _)))).mono ?_
 rintro e w1 ⟨rfl,hb1⟩
 have hS:=(Fs.three w _ _ _ _ _ _).kept hb1
 obtain ⟨⟨ya,yb,yc,-⟩,⟨yd,ye,yf,-⟩,⟨yg,yh,yi,-⟩,-⟩:=hS.cells
 go_wp2_with fail
 refine (isNought_no a n cap hn _).mono ?_
 rintro e w2 ⟨rfl,hb2⟩
 replace hS:=hS.kept hb2
 clear ya yb yc yd ye yf yg yh yi
 obtain ⟨⟨yj,yk,yl,-⟩,⟨ym,yn,yo,-⟩,⟨yp,yq,yr,-⟩,-⟩:=hS.cells
 go_wp2_with fail
 refine (isNought_no a' n' cap' hn' _).mono ?_
 rintro e w3 ⟨rfl,hb3⟩
 replace hS:=hS.kept hb3
 clear yj yk yl ym yn yo yp yq yr
 obtain ⟨⟨ys,yt,yu,-⟩,⟨yv,yw,yx,-⟩,⟨yy,yz,y0,-⟩,-⟩:=hS.cells
 go_wp2_with fail
 refine (beyond_no _ hx _).mono ?_
 rintro e w4 ⟨rfl,hb4⟩
 replace hS:=hS.kept hb4
 clear ys yt yu yv yw yx yy yz y0
 obtain ⟨⟨y1,y2,y3,-⟩,⟨y4,y5,y6,-⟩,⟨y7,y8,y9,-⟩,-⟩:=hS.cells
 have hltw4_0:w.heap.size < w4.heap.size:=hS.lt 0 rfl
 have hltw4_1:w.heap.size+1 < w4.heap.size:=hS.lt 1 rfl
 have hltw4_2:w.heap.size+2 < w4.heap.size:=hS.lt 2 rfl
 go_wp2_with fail
 refine (mul_fits a a' n n' cap cap' m m' _ ((unhide H).kept hS.fr).num ((unhide H').kept hS.fr).num (unhide HO)).mono ?_
 rintro e w5 ⟨⟨A5,N5,C5,rfl,f5⟩,hb5⟩
 replace hS:=hS.kept hb5
 clear y1 y2 y3 y4 y5 y6 y7 y8 y9
 obtain ⟨⟨yba,ybb,ybc,-⟩,⟨ybd,ybe,ybf,-⟩,⟨ybg,ybh,ybi,-⟩,-⟩:=hS.cells
 have hltw5_0:w.heap.size < w5.heap.size:=hS.lt 0 rfl
 have hltw5_1:w.heap.size+1 < w5.heap.size:=hS.lt 1 rfl
 have hltw5_2:w.heap.size+2 < w5.heap.size:=hS.lt 2 rfl
 have F5:=hide f5
 clear f5
 have Q_:=hS.frozen (b:=w.heap.size+2) (cs:=#[.bool false,.slice none 0 0,.int .i64 0]) (t:=58) (by simp)
 have fz0:=Q_ 0
 have fz1:=Q_ 1
 have fz2:=Q_ 2
 clear Q_
 go_wp2
 have hB:=fun u0 u1 u2=>((hS.fr.setCell (p:=⟨w.heap.size+2,0,none⟩) (by simp <;> omega) u0).setCell (p:=⟨w.heap.size+2,1,none⟩) (by simp <;> omega) u1).setCell (p:=⟨w.heap.size+2,2,none⟩) (by simp <;> omega) u2
 exact bodyPost_ret (v:=.tuple #[.agg #[.bool false,.slice A5 N5 C5,.int .i64 (x+x')],.int .i64 0]) (by simp [results,Tryz.results133,go_sem,ybg,ybh,ybi,hltw5_2]) rfl
  ⟨⟨_,_,_,rfl,(((((unhide F5).set (by exact hltw4_2) _).set (by exact hltw4_2) _).set (by exact hltw4_2) _).alloc _).mono (by omega)⟩,(hB _ _ _).alloc (hB _ _ _).size _⟩
theorem Mul_ok (s:Bool) (a:Option Addr) (n cap m:Nat) (x:Int) (s':Bool) (a':Option Addr) (n' cap' m':Nat) (x':Int) (w:World) (h:Dy w s a n m x) (h':Dy w s' a' n' m' x') (hn:0 < n) (hn':0 < n') (hx:-1073741824≤x+x'∧x+x'≤1073741824) (hno:¬ Over (m * m')) :
  Calls Tryz.prog 133 #[.agg #[.bool s,.slice a n cap,.int .i64 x],.agg #[.bool s',.slice a' n' cap',.int .i64 x']] w fun e w'=>(∃ A N C,e = .returned (.tuple #[.agg #[.bool (s != s'),.slice A N C,.int .i64 (x+x')],.int .i64 0])∧Mine w' w.heap.size A N C (m * m'))∧Below w.heap.size w w':=by
 cases s <;> cases s'
 ·exact Mul_ok_ff a n cap m x a' n' cap' m' x' w h h' hn hn' hx hno
 ·exact Mul_ok_ft a n cap m x a' n' cap' m' x' w h h' hn hn' hx hno
 ·exact Mul_ok_tf a n cap m x a' n' cap' m' x' w h h' hn hn' hx hno
 ·exact Mul_ok_tt a n cap m x a' n' cap' m' x' w h h' hn hn' hx hno
theorem Class_1 (E F b ex fr:Nat) (neg:Bool) (h:Fo E F) (hB:Bt E F b neg ex fr) (hc:cls ex fr (2 ^ E - 1) = 1) (w:World):Calls Tryz.prog 15 #[.agg #[.int .i64 E,.int .i64 F],.int .u64 b] w fun e w'=>e = .returned (.tuple #[.int .u8 1,.int .i64 0])∧Below w.heap.size w w':=by
 have:=Class_ok E F b ex fr neg h hB (2 ^ E - 1) (hide rfl) w
 rw [hc] at this
 exact this
theorem Class_2 (E F b ex fr:Nat) (neg:Bool) (h:Fo E F) (hB:Bt E F b neg ex fr) (hc:cls ex fr (2 ^ E - 1) = 2) (w:World):Calls Tryz.prog 15 #[.agg #[.int .i64 E,.int .i64 F],.int .u64 b] w fun e w'=>e = .returned (.tuple #[.int .u8 2,.int .i64 0])∧Below w.heap.size w w':=by
 have:=Class_ok E F b ex fr neg h hB (2 ^ E - 1) (hide rfl) w
 rw [hc] at this
 exact this
theorem Class_3 (E F b ex fr:Nat) (neg:Bool) (h:Fo E F) (hB:Bt E F b neg ex fr) (hc:cls ex fr (2 ^ E - 1) = 3) (w:World):Calls Tryz.prog 15 #[.agg #[.int .i64 E,.int .i64 F],.int .u64 b] w fun e w'=>e = .returned (.tuple #[.int .u8 3,.int .i64 0])∧Below w.heap.size w w':=by
 have:=Class_ok E F b ex fr neg h hB (2 ^ E - 1) (hide rfl) w
 rw [hc] at this
 exact this
theorem Class_4 (E F b ex fr:Nat) (neg:Bool) (h:Fo E F) (hB:Bt E F b neg ex fr) (hc:cls ex fr (2 ^ E - 1) = 4) (w:World):Calls Tryz.prog 15 #[.agg #[.int .i64 E,.int .i64 F],.int .u64 b] w fun e w'=>e = .returned (.tuple #[.int .u8 4,.int .i64 0])∧Below w.heap.size w w':=by
 have:=Class_ok E F b ex fr neg h hB (2 ^ E - 1) (hide rfl) w
 rw [hc] at this
 exact this
theorem Class_5 (E F b ex fr:Nat) (neg:Bool) (h:Fo E F) (hB:Bt E F b neg ex fr) (hc:cls ex fr (2 ^ E - 1) = 5) (w:World):Calls Tryz.prog 15 #[.agg #[.int .i64 E,.int .i64 F],.int .u64 b] w fun e w'=>e = .returned (.tuple #[.int .u8 5,.int .i64 0])∧Below w.heap.size w w':=by
 have:=Class_ok E F b ex fr neg h hB (2 ^ E - 1) (hide rfl) w
 rw [hc] at this
 exact this
theorem Value_c (E F B b ex fr:Nat) (s:Bool) (h0:Fo E F) (HB:Hid (B = 2 ^ (E - 1) - 1)) (hB:Bt E F b s ex fr) (c er:Int) (HC:Hid (∀ W:World,Calls Tryz.prog 15 #[.agg #[.int .i64 E,.int .i64 F],.int .u64 b] W fun e w'=>e = .returned (.tuple #[.int .u8 c,.int .i64 0])∧Below W.heap.size W w')) (HWo:Hid (∀ (pF:Nat) (W:World),Calls Tryz.prog 96 #[.int .u8 c,.agg #[.bool s,.int .i64 ex,.int .u64 fr],.int .u64 pF,.int .i64 (1 - (B:Int) - (F:Int))] W fun e w'=>e = .returned (.tuple #[.agg #[.bool false,.slice none 0 0,.int .i64 0],.int .i64 er])∧Below W.heap.size W w')) (w:World) :
  Calls Tryz.prog 51 #[.agg #[.int .i64 E,.int .i64 F],.int .u64 b] w fun e w'=>e = .returned (.tuple #[.agg #[.bool false,.slice none 0 0,.int .i64 0],.int .i64 er])∧Below w.heap.size w w':=by
 have hF:=h0.f52
 have hBl:B≤1023:=B_le h0 HB
 have eF:IntKind.u64.wrap (2 ^ F) = ((2 ^ F:Nat):Int):=by
  have h1:=pow_bound hF
  have:=shl_u64 1 F (by omega)
  simpa using this
 obtain ⟨pF,hpF⟩:∃ pF,pF = 2 ^ F:=⟨_,rfl⟩
 rw [← hpF] at eF
 have HP:=hide hpF
 clear hpF
 have H0:=hide h0
 have HBt:=hide hB
 clear h0 hB
 go_enter Tryz.func51,Tryz.ntmps51
 go_wp2_with fail
 refine (unhide HC _).mono ?_
 rintro e w1 ⟨rfl,hb1⟩
 have hS:=(Fs.two w _ _ _ _).kept hb1
 obtain ⟨⟨ya,yb,-⟩,⟨yc,yd,ye,-⟩,-⟩:=hS.cells
 go_wp2_with fail
 refine (Split_ok E F b ex fr s (unhide H0) (unhide HBt) _).mono ?_
 rintro e w2 ⟨rfl,hb2⟩
 replace hS:=hS.kept hb2
 clear ya yb yc yd ye
 obtain ⟨⟨yf,yg,-⟩,⟨yh,yi,yj,-⟩,-⟩:=hS.cells
 have hltw2_0:w.heap.size < w2.heap.size:=hS.lt 0 rfl
 have hltw2_1:w.heap.size+1 < w2.heap.size:=hS.lt 1 rfl
 replace hS:=hS.alloc #[.bool s,.int .i64 ex,.int .u64 fr] 35
 go_wp2_with fail
 refine (Range_ok E F B (unhide H0) HB _).mono ?_
 rintro e w3 ⟨rfl,hb3⟩
 replace hS:=hS.kept hb3
 clear yf yg yh yi yj
 obtain ⟨⟨yk,yl,ym,-⟩,⟨yn,yo,-⟩,⟨yp,yq,yr,-⟩,-⟩:=hS.cells
 go_wp2_with fail
 refine wp_region_any (by kernel_rfl) ?_
 refine wpAny_det [some (41,.int .u8 c),some (42,.agg #[.bool s,.int .i64 ex,.int .u64 fr]),some (43,.pointer (some ⟨w.heap.size,1,none⟩)),some (44,.int .i64 F),some (45,.int .u64 pF),some (46,.int .i64 (1 - (B:Int) - (F:Int))),some (47,.tuple #[.agg #[.bool false,.slice none 0 0,.int .i64 0],.int .i64 er]),some (48,.agg #[.bool false,.slice none 0 0,.int .i64 0]),some (49,.int .i64 er),none,some (5,.int .i64 er)]
  (fun l9 W9=>Fs w W9 (pickBs l9 [(9,[⟨w2.heap.size,#[.bool s,.int .i64 ex,.int .u64 fr],35⟩,⟨w.heap.size,#[.int .i64 E,.int .i64 F],23⟩,⟨w.heap.size+1,#[.bool false,.slice none 0 0,.int .i64 0],58⟩])] [⟨w2.heap.size,#[.bool s,.int .i64 ex,.int .u64 fr],35⟩,⟨w.heap.size,#[.int .i64 E,.int .i64 F],23⟩,⟨w.heap.size+1,#[.bool false,.slice none 0 0,.int .i64 0],58⟩])) _ _ rfl (by kernel_rfl) rfl rfl ?_ ?_ (hS).drew
 ·intro l9 t9 W9 i9 hD hi9 hl9 hM
  obtain ⟨o9,ho9,hd9⟩:=(mem_ready.1 hi9).2
  have hin9:i9 < 11:=by
   by_cases h:i9 < 11
   ·exact h
   ·rw [Array.getElem?_eq_none (by rw [hD.len]; simp; omega)] at hl9; cases hl9
  have hcase:i9 = 0∨i9 = 1∨i9 = 2∨i9 = 3∨i9 = 4∨i9 = 5∨i9 = 6∨i9 = 7∨i9 = 8∨i9 = 9∨i9 = 10:=by omega
  clear hin9
  rcases hcase with rfl|rfl|rfl|rfl|rfl|rfl|rfl|rfl|rfl|rfl|rfl
  ·cases ho9
   have r6:=hD.old 6 _ rfl rfl
   refine wpOp_step rfl fun K hK=>?_
   go_simp
   exact hK _ _ ⟨rfl,(keepM rfl hM)⟩
  ·cases ho9
   have r8:=hD.old 8 _ rfl rfl
   have hM0:Fs w W9 [⟨w2.heap.size,#[.bool s,.int .i64 ex,.int .u64 fr],35⟩,⟨w.heap.size,#[.int .i64 E,.int .i64 F],23⟩,⟨w.heap.size+1,#[.bool false,.slice none 0 0,.int .i64 0],58⟩]:=by
    have hM1:=hM
    simp only [pickBs] at hM1
    rw [if_neg (hD.waits 1 9 _ ⟨1,.phase⟩ hl9 rfl (by simp) rfl rfl)] at hM1
    exact hM1
   have Q_:=hM0.cellAt (b:=w2.heap.size) (cs:=#[.bool s,.int .i64 ex,.int .u64 fr]) (t:=35) (by simp)
   have c9_0:=Q_ 0 _ rfl
   have c9_1:=Q_ 1 _ rfl
   have c9_2:=Q_ 2 _ rfl
   clear Q_
   clear hM0
   refine wpOp_step rfl fun K hK=>?_
   go_simp
   exact hK _ _ ⟨rfl,(keepM rfl hM)⟩
  ·cases ho9
   have r2:=hD.old 2 _ rfl rfl
   refine wpOp_step rfl fun K hK=>?_
   go_simp
   exact hK _ _ ⟨rfl,(keepM rfl hM)⟩
  ·cases ho9
   have r43:=hD.od hd9 2 43 _ rfl (by simp)
   have hM0:Fs w W9 [⟨w2.heap.size,#[.bool s,.int .i64 ex,.int .u64 fr],35⟩,⟨w.heap.size,#[.int .i64 E,.int .i64 F],23⟩,⟨w.heap.size+1,#[.bool false,.slice none 0 0,.int .i64 0],58⟩]:=by
    have hM1:=hM
    simp only [pickBs] at hM1
    rw [if_neg (hD.waits 3 9 _ ⟨3,.phase⟩ hl9 rfl (by simp) rfl rfl)] at hM1
    exact hM1
   have c9_0:=hM0.cellAt (b:=w.heap.size) (cs:=#[.int .i64 E,.int .i64 F]) (t:=23) (by simp) 1 _ rfl
   clear hM0
   refine wpOp_step rfl fun K hK=>?_
   go_simp
   exact hK _ _ ⟨rfl,(keepM rfl hM)⟩
  ·cases ho9
   have r44:=hD.od hd9 3 44 _ rfl (by simp)
   refine wpOp_step rfl fun K hK=>?_
   go_simp
   exact hK _ _ ⟨act_eq (by (show Value.int _ _ = Value.int _ _; first|rfl|(congr 1; first|exact eF|simpa using eF))),(keepM rfl hM)⟩
  ·cases ho9
   have r9:=hD.old 9 _ rfl rfl
   refine wpOp_step rfl fun K hK=>?_
   go_simp
   exact hK _ _ ⟨rfl,(keepM rfl hM)⟩
  ·cases ho9
   have r41:=hD.od hd9 0 41 _ rfl (by simp)
   have r42:=hD.od hd9 1 42 _ rfl (by simp)
   have r45:=hD.od hd9 4 45 _ rfl (by simp)
   have r46:=hD.od hd9 5 46 _ rfl (by simp)
   have hM0:Fs w W9 [⟨w2.heap.size,#[.bool s,.int .i64 ex,.int .u64 fr],35⟩,⟨w.heap.size,#[.int .i64 E,.int .i64 F],23⟩,⟨w.heap.size+1,#[.bool false,.slice none 0 0,.int .i64 0],58⟩]:=by
    have hM1:=hM
    simp only [pickBs] at hM1
    rw [if_neg (hD.waits 6 9 _ ⟨6,.chain⟩ hl9 rfl (by simp) rfl rfl)] at hM1
    exact hM1
   refine wpOp_step rfl fun K hK=>?_
   go_simp
   go_wp2_with fail
   refine (unhide HWo pF _).mono ?_
   rintro en w9 ⟨rfl,hb9⟩
   exact hK _ _ ⟨rfl,keepM rfl (hM.kept hb9)⟩
  ·cases ho9
   have r47:=hD.od hd9 6 47 _ rfl (by simp)
   refine wpOp_step rfl fun K hK=>?_
   go_simp
   exact hK _ _ ⟨rfl,(keepM rfl hM)⟩
  ·cases ho9
   have r47:=hD.od hd9 6 47 _ rfl (by simp)
   refine wpOp_step rfl fun K hK=>?_
   go_simp
   exact hK _ _ ⟨rfl,(keepM rfl hM)⟩
  ·cases ho9
   have r4:=hD.old 4 _ rfl rfl
   have r48:=hD.od hd9 7 48 _ rfl (by simp)
   have hM0:Fs w W9 [⟨w2.heap.size,#[.bool s,.int .i64 ex,.int .u64 fr],35⟩,⟨w.heap.size,#[.int .i64 E,.int .i64 F],23⟩,⟨w.heap.size+1,#[.bool false,.slice none 0 0,.int .i64 0],58⟩]:=by
    have hM1:=hM
    simp only [pickBs] at hM1
    rw [if_neg (by rw [hl9]; simp)] at hM1
    exact hM1
   have c9_0:=hM0.cellAt (b:=w.heap.size+1) (cs:=#[.bool false,.slice none 0 0,.int .i64 0]) (t:=58) (by simp) 0 _ rfl
   have z9_0:=hM0.frozen (b:=w.heap.size+1) (cs:=#[.bool false,.slice none 0 0,.int .i64 0]) (t:=58) (by simp) 0
   have c9_1:=hM0.cellAt (b:=w.heap.size+1) (cs:=#[.bool false,.slice none 0 0,.int .i64 0]) (t:=58) (by simp) 1 _ rfl
   have z9_1:=hM0.frozen (b:=w.heap.size+1) (cs:=#[.bool false,.slice none 0 0,.int .i64 0]) (t:=58) (by simp) 1
   have c9_2:=hM0.cellAt (b:=w.heap.size+1) (cs:=#[.bool false,.slice none 0 0,.int .i64 0]) (t:=58) (by simp) 2 _ rfl
   have z9_2:=hM0.frozen (b:=w.heap.size+1) (cs:=#[.bool false,.slice none 0 0,.int .i64 0]) (t:=58) (by simp) 2
   refine wpOp_step rfl fun K hK=>?_
   go_simp
   exact hK _ _ ⟨rfl,putM trivial hl9 (((hM0.put (b:=w.heap.size+1) (cs:=#[.bool false,.slice none 0 0,.int .i64 0]) (t:=58) (by simp) (by simp) 0 (.bool false) [⟨w2.heap.size,#[.bool s,.int .i64 ex,.int .u64 fr],35⟩,⟨w.heap.size,#[.int .i64 E,.int .i64 F],23⟩,⟨w.heap.size+1,#[.bool false,.slice none 0 0,.int .i64 0],58⟩] (by simp <;> omega)).put (b:=w.heap.size+1) (cs:=#[.bool false,.slice none 0 0,.int .i64 0]) (t:=58) (by simp) (by simp) 1 (.slice none 0 0) [⟨w2.heap.size,#[.bool s,.int .i64 ex,.int .u64 fr],35⟩,⟨w.heap.size,#[.int .i64 E,.int .i64 F],23⟩,⟨w.heap.size+1,#[.bool false,.slice none 0 0,.int .i64 0],58⟩] (by simp <;> omega)).put (b:=w.heap.size+1) (cs:=#[.bool false,.slice none 0 0,.int .i64 0]) (t:=58) (by simp) (by simp) 2 (.int .i64 0) [⟨w2.heap.size,#[.bool s,.int .i64 ex,.int .u64 fr],35⟩,⟨w.heap.size,#[.int .i64 E,.int .i64 F],23⟩,⟨w.heap.size+1,#[.bool false,.slice none 0 0,.int .i64 0],58⟩] (by simp <;> omega))⟩
  ·cases ho9
   have r49:=hD.od hd9 8 49 _ rfl (by simp)
   refine wpOp_step rfl fun K hK=>?_
   go_simp
   exact hK _ _ ⟨rfl,(keepM rfl hM)⟩
 ·intro l9 W9 hl9 hM
  simp only [pickBs] at hM
  rw [if_pos (hl9 9 (by decide))] at hM
  clear hS yk yl ym yn yo yp yq yr
  have hS:=hM
  clear hM
  simp only [Puts.lay,List.setIfInBounds_toArray,List.set_cons_zero,List.set_cons_succ]
  obtain ⟨⟨ys,yt,yu,-⟩,⟨yv,yw,-⟩,⟨yx,yy,yz,-⟩,-⟩:=hS.cells
  go_wp2
  exact bodyPost_ret (v:=.tuple #[.agg #[.bool false,.slice none 0 0,.int .i64 0],.int .i64 er]) (by simp [results,Tryz.results51,go_sem,yx,yy,yz]) rfl ⟨rfl,hS.fr⟩
theorem Value_m (E F B b ex fr:Nat) (s:Bool) (h0:Fo E F) (HB:Hid (B = 2 ^ (E - 1) - 1)) (hB:Bt E F b s ex fr) (c y:Int) (v:Nat) (HC:Hid (∀ W:World,Calls Tryz.prog 15 #[.agg #[.int .i64 E,.int .i64 F],.int .u64 b] W fun e w'=>e = .returned (.tuple #[.int .u8 c,.int .i64 0])∧Below W.heap.size W w')) (HWo:Hid (∀ (pF:Nat) (W:World),pF = 2 ^ F→Tb W→Calls Tryz.prog 96 #[.int .u8 c,.agg #[.bool s,.int .i64 ex,.int .u64 fr],.int .u64 pF,.int .i64 (1 - (B:Int) - (F:Int))] W fun e w'=>(∃ A N C,e = .returned (.tuple #[.agg #[.bool s,.slice A N C,.int .i64 y],.int .i64 0])∧Mine w' W.heap.size A N C v)∧Below W.heap.size W w')) (w:World) (hT:Tb w) :
  Calls Tryz.prog 51 #[.agg #[.int .i64 E,.int .i64 F],.int .u64 b] w fun e w'=>(∃ A N C,e = .returned (.tuple #[.agg #[.bool s,.slice A N C,.int .i64 y],.int .i64 0])∧Mine w' w.heap.size A N C v)∧Below w.heap.size w w':=by
 have hF:=h0.f52
 have hBl:B≤1023:=B_le h0 HB
 have eF:IntKind.u64.wrap (2 ^ F) = ((2 ^ F:Nat):Int):=by
  have h1:=pow_bound hF
  have:=shl_u64 1 F (by omega)
  simpa using this
 obtain ⟨pF,hpF⟩:∃ pF,pF = 2 ^ F:=⟨_,rfl⟩
 rw [← hpF] at eF
 have HP:=hide hpF
 clear hpF
 have H0:=hide h0
 have HBt:=hide hB
 clear h0 hB
 have HT:=hide hT
 clear hT
 go_enter Tryz.func51,Tryz.ntmps51
 go_wp2_with fail
 refine (unhide HC _).mono ?_
 rintro e w1 ⟨rfl,hb1⟩
 have hS:=(Fs.two w _ _ _ _).kept hb1
 obtain ⟨⟨ya,yb,-⟩,⟨yc,yd,ye,-⟩,-⟩:=hS.cells
 go_wp2_with fail
 refine (Split_ok E F b ex fr s (unhide H0) (unhide HBt) _).mono ?_
 rintro e w2 ⟨rfl,hb2⟩
 replace hS:=hS.kept hb2
 clear ya yb yc yd ye
 obtain ⟨⟨yf,yg,-⟩,⟨yh,yi,yj,-⟩,-⟩:=hS.cells
 have hltw2_0:w.heap.size < w2.heap.size:=hS.lt 0 rfl
 have hltw2_1:w.heap.size+1 < w2.heap.size:=hS.lt 1 rfl
 replace hS:=hS.alloc #[.bool s,.int .i64 ex,.int .u64 fr] 35
 go_wp2_with fail
 refine (Range_ok E F B (unhide H0) HB _).mono ?_
 rintro e w3 ⟨rfl,hb3⟩
 replace hS:=hS.kept hb3
 clear yf yg yh yi yj
 obtain ⟨⟨yk,yl,ym,-⟩,⟨yn,yo,-⟩,⟨yp,yq,yr,-⟩,-⟩:=hS.cells
 go_wp2_with fail
 have hS3s:w.heap.size≤w3.heap.size:=hS.size
 have hs9:∀ x9:Nat×(Pk→World→Prop),x9∈([(6,fun q W=>Mine W w3.heap.size q.A q.N q.C v)]:List (Nat×(Pk→World→Prop)))→∀ q9:Pk,St w3.heap.size (x9.2 q9):=by
  intro x hx q
  simp only [List.mem_cons,List.not_mem_nil,or_false] at hx
  rcases hx with rfl
  ·exact st_mine _ _ _ _ _
 have h09:∀ x9:Nat×(Pk→World→Prop),x9∈([(6,fun q W=>Mine W w3.heap.size q.A q.N q.C v)]:List (Nat×(Pk→World→Prop)))→11≤x9.1→x9.2 ⟨none,0,0⟩ w3:=by
  intro x hx hn9
  simp only [List.mem_cons,List.not_mem_nil,or_false] at hx
  rcases hx with rfl
  ·exact absurd hn9 (by simp)
 refine wp_region_any (by kernel_rfl) ?_
 refine wpAny_pick (fun p9=>[some (41,.int .u8 c),some (42,.agg #[.bool s,.int .i64 ex,.int .u64 fr]),some (43,.pointer (some ⟨w.heap.size,1,none⟩)),some (44,.int .i64 F),some (45,.int .u64 pF),some (46,.int .i64 (1 - (B:Int) - (F:Int))),some (47,.tuple #[.agg #[.bool s,.slice (p9 6).A (p9 6).N (p9 6).C,.int .i64 y],.int .i64 0]),some (48,.agg #[.bool s,.slice (p9 6).A (p9 6).N (p9 6).C,.int .i64 y]),some (49,.int .i64 0),none,some (5,.int .i64 0)])
  (fun p9 l9 W9=>Pm w w3.heap.size [(6,fun q W=>Mine W w3.heap.size q.A q.N q.C v)] p9 l9 W9 (pickBs l9 [(9,[⟨w2.heap.size,#[.bool s,.int .i64 ex,.int .u64 fr],35⟩,⟨w.heap.size,#[.int .i64 E,.int .i64 F],23⟩,⟨w.heap.size+1,#[.bool s,.slice (p9 6).A (p9 6).N (p9 6).C,.int .i64 y],58⟩])] [⟨w2.heap.size,#[.bool s,.int .i64 ex,.int .u64 fr],35⟩,⟨w.heap.size,#[.int .i64 E,.int .i64 F],23⟩,⟨w.heap.size+1,#[.bool false,.slice none 0 0,.int .i64 0],58⟩])) _ _ (fun _=>rfl) (by kernel_rfl) (fun _=>rfl) (fun _=>rfl) ?_ ?_ (fun _=>⟨none,0,0⟩) (Pm.start hS _ _ _ hs9 h09)
 ·intro p9 l9 t9 W9 i9 hD hi9 hl9 hM
  obtain ⟨o9,ho9,hd9⟩:=(mem_ready.1 hi9).2
  have hin9:i9 < 11:=by
   by_cases h:i9 < 11
   ·exact h
   ·rw [Array.getElem?_eq_none (by rw [hD.len]; simp; omega)] at hl9; cases hl9
  have hcase:i9 = 0∨i9 = 1∨i9 = 2∨i9 = 3∨i9 = 4∨i9 = 5∨i9 = 6∨i9 = 7∨i9 = 8∨i9 = 9∨i9 = 10:=by omega
  clear hin9
  rcases hcase with rfl|rfl|rfl|rfl|rfl|rfl|rfl|rfl|rfl|rfl|rfl
  ·cases ho9
   have r6:=hD.old 6 _ rfl rfl
   refine wpOp_step rfl fun K hK=>?_
   go_simp
   exact hK _ _ ⟨p9,fun _ _=>rfl,rfl,(Pm.keepM rfl (hM.val rfl))⟩
  ·cases ho9
   have r8:=hD.old 8 _ rfl rfl
   have hM0:Fs w W9 [⟨w2.heap.size,#[.bool s,.int .i64 ex,.int .u64 fr],35⟩,⟨w.heap.size,#[.int .i64 E,.int .i64 F],23⟩,⟨w.heap.size+1,#[.bool false,.slice none 0 0,.int .i64 0],58⟩]:=by
    have hM1:=hM.st
    simp only [pickBs] at hM1
    rw [if_neg (hD.waits 1 9 _ ⟨1,.phase⟩ hl9 rfl (by simp) rfl rfl)] at hM1
    exact hM1
   have Q_:=hM0.cellAt (b:=w2.heap.size) (cs:=#[.bool s,.int .i64 ex,.int .u64 fr]) (t:=35) (by simp)
   have c9_0:=Q_ 0 _ rfl
   have c9_1:=Q_ 1 _ rfl
   have c9_2:=Q_ 2 _ rfl
   clear Q_
   clear hM0
   refine wpOp_step rfl fun K hK=>?_
   go_simp
   exact hK _ _ ⟨p9,fun _ _=>rfl,rfl,(Pm.keepM rfl (hM.val rfl))⟩
  ·cases ho9
   have r2:=hD.old 2 _ rfl rfl
   refine wpOp_step rfl fun K hK=>?_
   go_simp
   exact hK _ _ ⟨p9,fun _ _=>rfl,rfl,(Pm.keepM rfl (hM.val rfl))⟩
  ·cases ho9
   have r43:=hD.od hd9 2 43 _ rfl (by simp)
   have hM0:Fs w W9 [⟨w2.heap.size,#[.bool s,.int .i64 ex,.int .u64 fr],35⟩,⟨w.heap.size,#[.int .i64 E,.int .i64 F],23⟩,⟨w.heap.size+1,#[.bool false,.slice none 0 0,.int .i64 0],58⟩]:=by
    have hM1:=hM.st
    simp only [pickBs] at hM1
    rw [if_neg (hD.waits 3 9 _ ⟨3,.phase⟩ hl9 rfl (by simp) rfl rfl)] at hM1
    exact hM1
   have c9_0:=hM0.cellAt (b:=w.heap.size) (cs:=#[.int .i64 E,.int .i64 F]) (t:=23) (by simp) 1 _ rfl
   clear hM0
   refine wpOp_step rfl fun K hK=>?_
   go_simp
   exact hK _ _ ⟨p9,fun _ _=>rfl,rfl,(Pm.keepM rfl (hM.val rfl))⟩
  ·cases ho9
   have r44:=hD.od hd9 3 44 _ rfl (by simp)
   refine wpOp_step rfl fun K hK=>?_
   go_simp
   exact hK _ _ ⟨p9,fun _ _=>rfl,act_eq (by (show Value.int _ _ = Value.int _ _; first|rfl|(congr 1; first|exact eF|simpa using eF))),(Pm.keepM rfl (hM.val rfl))⟩
  ·cases ho9
   have r9:=hD.old 9 _ rfl rfl
   refine wpOp_step rfl fun K hK=>?_
   go_simp
   exact hK _ _ ⟨p9,fun _ _=>rfl,rfl,(Pm.keepM rfl (hM.val rfl))⟩
  ·cases ho9
   have r41:=hD.od hd9 0 41 _ rfl (by simp)
   have r42:=hD.od hd9 1 42 _ rfl (by simp)
   have r45:=hD.od hd9 4 45 _ rfl (by simp)
   have r46:=hD.od hd9 5 46 _ rfl (by simp)
   have hM0:Fs w W9 [⟨w2.heap.size,#[.bool s,.int .i64 ex,.int .u64 fr],35⟩,⟨w.heap.size,#[.int .i64 E,.int .i64 F],23⟩,⟨w.heap.size+1,#[.bool false,.slice none 0 0,.int .i64 0],58⟩]:=by
    have hM1:=hM.st
    simp only [pickBs] at hM1
    rw [if_neg (hD.waits 6 9 _ ⟨6,.chain⟩ hl9 rfl (by simp) rfl rfl)] at hM1
    exact hM1
   have HD:=hide hD
   have hn9:=hD.waits 6 9 _ ⟨6,.chain⟩ hl9 rfl (by simp) rfl rfl
   refine wpOp_step rfl fun K hK=>?_
   go_simp
   go_wp2_with fail
   refine (unhide HWo pF _ (unhide HP) ((unhide HT).kept hM.st.fr)).mono ?_
   rintro en w9 ⟨⟨a9,n9,c9,rfl,h9⟩,hb9⟩
   refine hK _ _ ⟨p9.set 6 ⟨a9,n9,c9⟩,?_,rfl,(Pm.keepM rfl (((hM.kept hs9 hb9).pick ⟨a9,n9,c9⟩ ?_).into (by simp only [pickBs]; rw [if_neg hn9,if_neg hn9])))⟩
   ·refine (unhide HD).agree hl9 ?_
    intro k9 hk9 hd9
    clear HD hM hK
    match k9 with
    | 0=>rfl
    | 1=>rfl
    | 2=>rfl
    | 3=>rfl
    | 4=>rfl
    | 5=>rfl
    | 6=>exact absurd rfl hk9
    | 7=>exact nomatch hd9.symm.trans (show downB _ _ _ _ = true by kernel_rfl)
    | 8=>exact nomatch hd9.symm.trans (show downB _ _ _ _ = true by kernel_rfl)
    | 9=>exact nomatch hd9.symm.trans (show downB _ _ _ _ = true by kernel_rfl)
    | 10=>exact nomatch hd9.symm.trans (show downB _ _ _ _ = true by kernel_rfl)
    | k9+11=>rfl
   ·intro x hx he; simp only [List.mem_cons,List.not_mem_nil,or_false] at hx; subst hx; exact h9.mono hM.bw
  ·cases ho9
   have r47:=hD.od hd9 6 47 _ rfl (by simp)
   refine wpOp_step rfl fun K hK=>?_
   go_simp
   exact hK _ _ ⟨p9,fun _ _=>rfl,rfl,(Pm.keepM rfl (hM.val rfl))⟩
  ·cases ho9
   have r47:=hD.od hd9 6 47 _ rfl (by simp)
   refine wpOp_step rfl fun K hK=>?_
   go_simp
   exact hK _ _ ⟨p9,fun _ _=>rfl,rfl,(Pm.keepM rfl (hM.val rfl))⟩
  ·cases ho9
   have r4:=hD.old 4 _ rfl rfl
   have r48:=hD.od hd9 7 48 _ rfl (by simp)
   have hM0:Fs w W9 [⟨w2.heap.size,#[.bool s,.int .i64 ex,.int .u64 fr],35⟩,⟨w.heap.size,#[.int .i64 E,.int .i64 F],23⟩,⟨w.heap.size+1,#[.bool false,.slice none 0 0,.int .i64 0],58⟩]:=by
    have hM1:=hM.st
    simp only [pickBs] at hM1
    rw [if_neg (by rw [hl9]; simp)] at hM1
    exact hM1
   have c9_0:=hM0.cellAt (b:=w.heap.size+1) (cs:=#[.bool false,.slice none 0 0,.int .i64 0]) (t:=58) (by simp) 0 _ rfl
   have z9_0:=hM0.frozen (b:=w.heap.size+1) (cs:=#[.bool false,.slice none 0 0,.int .i64 0]) (t:=58) (by simp) 0
   have c9_1:=hM0.cellAt (b:=w.heap.size+1) (cs:=#[.bool false,.slice none 0 0,.int .i64 0]) (t:=58) (by simp) 1 _ rfl
   have z9_1:=hM0.frozen (b:=w.heap.size+1) (cs:=#[.bool false,.slice none 0 0,.int .i64 0]) (t:=58) (by simp) 1
   have c9_2:=hM0.cellAt (b:=w.heap.size+1) (cs:=#[.bool false,.slice none 0 0,.int .i64 0]) (t:=58) (by simp) 2 _ rfl
   have z9_2:=hM0.frozen (b:=w.heap.size+1) (cs:=#[.bool false,.slice none 0 0,.int .i64 0]) (t:=58) (by simp) 2
   refine wpOp_step rfl fun K hK=>?_
   go_simp
   exact hK _ _ ⟨p9,fun _ _=>rfl,rfl,Pm.putM hl9 ((((hM.val rfl).put hs9 _ _ (block_lt (hS.bx _ (List.mem_of_getElem? (i:=2) rfl))) (hM0.put (b:=w.heap.size+1) (cs:=#[.bool false,.slice none 0 0,.int .i64 0]) (t:=58) (by simp) (by simp) 0 (.bool s) [⟨w2.heap.size,#[.bool s,.int .i64 ex,.int .u64 fr],35⟩,⟨w.heap.size,#[.int .i64 E,.int .i64 F],23⟩,⟨w.heap.size+1,#[.bool s,.slice none 0 0,.int .i64 0],58⟩] (by simp <;> omega))).put hs9 _ _ (block_lt (hS.bx _ (List.mem_of_getElem? (i:=2) rfl))) ((hM0.put (b:=w.heap.size+1) (cs:=#[.bool false,.slice none 0 0,.int .i64 0]) (t:=58) (by simp) (by simp) 0 (.bool s) [⟨w2.heap.size,#[.bool s,.int .i64 ex,.int .u64 fr],35⟩,⟨w.heap.size,#[.int .i64 E,.int .i64 F],23⟩,⟨w.heap.size+1,#[.bool s,.slice none 0 0,.int .i64 0],58⟩] (by simp <;> omega)).put (b:=w.heap.size+1) (cs:=#[.bool s,.slice none 0 0,.int .i64 0]) (t:=58) (by simp) (by simp) 1 (.slice (p9 6).A (p9 6).N (p9 6).C) [⟨w2.heap.size,#[.bool s,.int .i64 ex,.int .u64 fr],35⟩,⟨w.heap.size,#[.int .i64 E,.int .i64 F],23⟩,⟨w.heap.size+1,#[.bool s,.slice (p9 6).A (p9 6).N (p9 6).C,.int .i64 0],58⟩] (by simp <;> omega))).put hs9 _ _ (block_lt (hS.bx _ (List.mem_of_getElem? (i:=2) rfl))) (((hM0.put (b:=w.heap.size+1) (cs:=#[.bool false,.slice none 0 0,.int .i64 0]) (t:=58) (by simp) (by simp) 0 (.bool s) [⟨w2.heap.size,#[.bool s,.int .i64 ex,.int .u64 fr],35⟩,⟨w.heap.size,#[.int .i64 E,.int .i64 F],23⟩,⟨w.heap.size+1,#[.bool s,.slice none 0 0,.int .i64 0],58⟩] (by simp <;> omega)).put (b:=w.heap.size+1) (cs:=#[.bool s,.slice none 0 0,.int .i64 0]) (t:=58) (by simp) (by simp) 1 (.slice (p9 6).A (p9 6).N (p9 6).C) [⟨w2.heap.size,#[.bool s,.int .i64 ex,.int .u64 fr],35⟩,⟨w.heap.size,#[.int .i64 E,.int .i64 F],23⟩,⟨w.heap.size+1,#[.bool s,.slice (p9 6).A (p9 6).N (p9 6).C,.int .i64 0],58⟩] (by simp <;> omega)).put (b:=w.heap.size+1) (cs:=#[.bool s,.slice (p9 6).A (p9 6).N (p9 6).C,.int .i64 0]) (t:=58) (by simp) (by simp) 2 (.int .i64 y) [⟨w2.heap.size,#[.bool s,.int .i64 ex,.int .u64 fr],35⟩,⟨w.heap.size,#[.int .i64 E,.int .i64 F],23⟩,⟨w.heap.size+1,#[.bool s,.slice (p9 6).A (p9 6).N (p9 6).C,.int .i64 y],58⟩] (by simp <;> omega)))⟩
  ·cases ho9
   have r49:=hD.od hd9 8 49 _ rfl (by simp)
   refine wpOp_step rfl fun K hK=>?_
   go_simp
   exact hK _ _ ⟨p9,fun _ _=>rfl,rfl,(Pm.keepM rfl (hM.val rfl))⟩
 ·intro p9 l9 W9 hn9 hl9 hM
  have fr10_6:=hM.fx _ (List.mem_of_getElem? (i:=0) rfl) (Or.inl (hl9 6 (by decide)))
  replace hM:=hM.st
  simp only [pickBs] at hM
  rw [if_pos (hl9 9 (by decide))] at hM
  clear hl9 hs9 h09 hn9
  generalize p9 6 = q6 at *
  obtain ⟨Ar10_6,Nr10_6,Cr10_6⟩:=q6
  simp only [] at fr10_6
  clear hS yk yl ym yn yo yp yq yr
  have hS:=hM
  clear hM
  simp only [Puts.lay,List.setIfInBounds_toArray,List.set_cons_zero,List.set_cons_succ]
  obtain ⟨⟨ys,yt,yu,-⟩,⟨yv,yw,-⟩,⟨yx,yy,yz,-⟩,-⟩:=hS.cells
  have F6:=hide fr10_6
  clear fr10_6
  go_wp2
  exact bodyPost_ret (v:=.tuple #[.agg #[.bool s,.slice Ar10_6 Nr10_6 Cr10_6,.int .i64 y],.int .i64 0]) (by simp [results,Tryz.results51,go_sem,yx,yy,yz]) rfl ⟨⟨_,_,_,rfl,(unhide F6).mono (by have:=hS3s; omega)⟩,hS.fr⟩
theorem Value_1 (E F B b ex fr:Nat) (s:Bool) (h0:Fo E F) (HB:Hid (B = 2 ^ (E - 1) - 1)) (hB:Bt E F b s ex fr)  (hc:cls ex fr (2 ^ E - 1) = 1) (w:World)  :
  Calls Tryz.prog 51 #[.agg #[.int .i64 E,.int .i64 F],.int .u64 b] w fun e w'=>e = .returned (.tuple #[.agg #[.bool false,.slice none 0 0,.int .i64 0],.int .i64 0])∧Below w.heap.size w w':=
 Value_c E F B b ex fr s h0 HB hB 1 0 (hide fun W=>Class_1 E F b ex fr s h0 hB hc W) (hide fun pF W=>worth_1 s ex fr pF (1 - (B:Int) - (F:Int)) W) w
theorem Value_4 (E F B b ex fr:Nat) (s:Bool) (h0:Fo E F) (HB:Hid (B = 2 ^ (E - 1) - 1)) (hB:Bt E F b s ex fr)  (hc:cls ex fr (2 ^ E - 1) = 4) (w:World)  :
  Calls Tryz.prog 51 #[.agg #[.int .i64 E,.int .i64 F],.int .u64 b] w fun e w'=>e = .returned (.tuple #[.agg #[.bool false,.slice none 0 0,.int .i64 0],.int .i64 8])∧Below w.heap.size w w':=
 Value_c E F B b ex fr s h0 HB hB 4 8 (hide fun W=>Class_4 E F b ex fr s h0 hB hc W) (hide fun pF W=>worth_4 s ex fr pF (1 - (B:Int) - (F:Int)) W) w
theorem Value_5 (E F B b ex fr:Nat) (s:Bool) (h0:Fo E F) (HB:Hid (B = 2 ^ (E - 1) - 1)) (hB:Bt E F b s ex fr)  (hc:cls ex fr (2 ^ E - 1) = 5) (w:World)  :
  Calls Tryz.prog 51 #[.agg #[.int .i64 E,.int .i64 F],.int .u64 b] w fun e w'=>e = .returned (.tuple #[.agg #[.bool false,.slice none 0 0,.int .i64 0],.int .i64 8])∧Below w.heap.size w w':=
 Value_c E F B b ex fr s h0 HB hB 5 8 (hide fun W=>Class_5 E F b ex fr s h0 hB hc W) (hide fun pF W=>worth_5 s ex fr pF (1 - (B:Int) - (F:Int)) W) w
theorem Value_normal (E F B b ex fr:Nat) (s:Bool) (h0:Fo E F) (HB:Hid (B = 2 ^ (E - 1) - 1)) (hB:Bt E F b s ex fr) (M z:Nat) (xe:Int) (hc:cls ex fr (2 ^ E - 1) = 3) (w:World) (hM0:0 < M) (hM64:M < 18446744073709551616) (hT:Tb w) (hz:Tz M z) (hz2:z < 524288) (hbd:-1073741824≤xe+z∧xe+z≤1073741824) (hor:Hid (bits BinOp.or .u64 (fr:Int) ((2 ^ F:Nat):Int) = (M:Int))) (hxe:(1 - (B:Int) - (F:Int))+((ex:Int) - 1) = xe) (hex:ex≤4096) :
  Calls Tryz.prog 51 #[.agg #[.int .i64 E,.int .i64 F],.int .u64 b] w fun e w'=>(∃ A N C,e = .returned (.tuple #[.agg #[.bool s,.slice A N C,.int .i64 (xe+(z:Int))],.int .i64 0])∧Mine w' w.heap.size A N C (M / 2 ^ z))∧Below w.heap.size w w':=
 Value_m E F B b ex fr s h0 HB hB 3 _ _ (hide fun W=>Class_3 E F b ex fr s h0 hB hc W) (hide fun pF W hp hT=>worth_normal s ex fr pF (1 - (B:Int) - (F:Int)) M z xe W hM0 hM64 hT hz hz2 hbd (by rw [hp]; exact unhide hor) hxe (by omega)) w hT
theorem Value_small (E F B b ex fr:Nat) (s:Bool) (h0:Fo E F) (HB:Hid (B = 2 ^ (E - 1) - 1)) (hB:Bt E F b s ex fr) (M z:Nat) (xe:Int) (hc:cls ex fr (2 ^ E - 1) = 2) (w:World) (hM0:0 < M) (hM64:M < 18446744073709551616) (hT:Tb w) (hz:Tz M z) (hz2:z < 524288) (hbd:-1073741824≤xe+z∧xe+z≤1073741824) (hfr:Hid (fr = M)) (hxe:(1 - (B:Int) - (F:Int)) = xe) :
  Calls Tryz.prog 51 #[.agg #[.int .i64 E,.int .i64 F],.int .u64 b] w fun e w'=>(∃ A N C,e = .returned (.tuple #[.agg #[.bool s,.slice A N C,.int .i64 (xe+(z:Int))],.int .i64 0])∧Mine w' w.heap.size A N C (M / 2 ^ z))∧Below w.heap.size w w':=
 Value_m E F B b ex fr s h0 HB hB 2 _ _ (hide fun W=>Class_2 E F b ex fr s h0 hB hc W) (hide fun pF W _ hT=>worth_small s ex fr pF (1 - (B:Int) - (F:Int)) M z xe W hM0 hM64 hT hz hz2 hbd (unhide hfr) hxe) w hT
def sv (s:Bool) (m:Nat):Int:=if s then -(m:Int) else (m:Int)
theorem not_over {v n:Nat} (h:v < 2 ^ n) (hn:n≤524288):¬ Over v:=fun o=>by
 have h1:=o.le
 have h2:4294967296 ^ Pl.top = 2 ^ (32 * Pl.top):=by rw [Nat.pow_mul]
 rw [h2] at h1
 have h3:n≤32 * Pl.top:=by have:=Pl.top_eq; omega
 have h4:=Nat.pow_le_pow_right (show 0 < 2 by decide) h3
 exact absurd (Nat.lt_of_lt_of_le h h4) (Nat.not_lt.2 h1)
theorem sv_mul (s:Bool) (m p:Nat):sv s m * (p:Int) = sv s (m * p):=by
 unfold sv; cases s <;> simp [Int.neg_mul]
structure Wo (E F B ex fr M z:Nat) (xe:Int):Prop where
 tz:Tz M z
 part:(ex = 0∧M = fr∧0 < fr∧xe = 1 - (B:Int) - (F:Int))∨(0 < ex∧M = fr+2 ^ F∧xe = 1 - (B:Int) - (F:Int)+((ex:Int) - 1))
 fin:ex+1 < 2 ^ E
 frl:fr < 2 ^ F
theorem or_hidden (fr F:Nat) (hF:F≤52) (hfr:fr < 2 ^ F):bits BinOp.or .u64 (fr:Int) ((2 ^ F:Nat):Int) = ((fr+2 ^ F:Nat):Int):=by
 have h1:=pow_bound hF
 have h2:=or_u64 (2 ^ F) fr F 1 (by rw [Nat.one_mul]) hfr (by omega)
 have h3:bits BinOp.or .u64 (fr:Int) ((2 ^ F:Nat):Int) = bits BinOp.or .u64 ((2 ^ F:Nat):Int) (fr:Int):=by
  show IntKind.u64.wrap ((BitVec.ofInt 64 (fr:Int) ||| BitVec.ofInt 64 ((2 ^ F:Nat):Int)).toNat:Int) = IntKind.u64.wrap ((BitVec.ofInt 64 ((2 ^ F:Nat):Int) ||| BitVec.ofInt 64 (fr:Int)).toNat:Int)
  rw [BitVec.or_comm]
 rw [h3,h2,Nat.add_comm]
theorem tz_ex {M f:Nat} (h0:0 < M) (h:M < 2 ^ f):∃ z,Tz M z∧z < f:=by
 obtain ⟨q,hq,hz⟩:=Lib.ctzFrom_spec f M h0 h
 exact ⟨_,⟨q,hq⟩,hz⟩
theorem Wo.ex {E F B ex fr:Nat} (hfin:ex+1 < 2 ^ E) (hfr:fr < 2 ^ F) (hne:¬ (ex = 0∧fr = 0)):∃ M z xe,Wo E F B ex fr M z xe:=by
 by_cases h:ex = 0
 ·obtain ⟨z,hz,_⟩:=tz_ex (M:=fr) (by omega) hfr
  exact ⟨fr,z,_,hz,Or.inl ⟨h,rfl,by omega,rfl⟩,hfin,hfr⟩
 ·obtain ⟨z,hz,_⟩:=tz_ex (M:=fr+2 ^ F) (f:=F+1) (by omega) (by rw [Nat.pow_succ]; omega)
  exact ⟨fr+2 ^ F,z,_,hz,Or.inr ⟨by omega,rfl,rfl⟩,hfin,hfr⟩
theorem Wo.pos {E F B ex fr M z:Nat} {xe:Int} (h:Wo E F B ex fr M z xe):0 < M:=by
 have:=pow_pos2 F
 rcases h.part with ⟨_,h1,h2,_⟩|⟨_,h1,_⟩ <;> omega
theorem Wo.lt {E F B ex fr M z:Nat} {xe:Int} (h:Wo E F B ex fr M z xe):M < 2 ^ (F+1):=by
 have:=h.frl
 rw [Nat.pow_succ]
 rcases h.part with ⟨_,h1,h2,_⟩|⟨_,h1,_⟩ <;> omega
theorem Wo.zle {E F B ex fr M z:Nat} {xe:Int} (h:Wo E F B ex fr M z xe):z≤F:=by
 obtain ⟨q,hq⟩:=h.tz
 have h1:2 ^ z≤M:=by rw [hq]; exact Nat.le_mul_of_pos_right _ (by omega)
 have h2:2 ^ z < 2 ^ (F+1):=Nat.lt_of_le_of_lt h1 h.lt
 have:=(Nat.pow_lt_pow_iff_right (by decide:1 < 2)).1 h2
 omega
theorem Wo.odd {E F B ex fr M z:Nat} {xe:Int} (h:Wo E F B ex fr M z xe):(M / 2 ^ z) % 2 = 1∧M / 2 ^ z * 2 ^ z = M:=h.tz.down
theorem Wo.range {E F B ex fr M z:Nat} {xe:Int} (h:Wo E F B ex fr M z xe) (h0:Fo E F) (HB:Hid (B = 2 ^ (E - 1) - 1)):-2048≤xe∧xe+(F:Int)≤(B:Int)∧B≤1023:=by
 have h1:=B_le h0 HB
 have h2:=(B_two h0 HB).1
 have h3:=(B_two h0 HB).2
 have h4:=h.fin
 have h5:=h0.f52
 rcases h.part with ⟨_,_,_,h6⟩|⟨_,_,h6⟩ <;> omega
theorem Value_wo (E F B b ex fr:Nat) (s:Bool) (M z:Nat) (xe:Int) (w:World) (h0:Fo E F) (HB:Hid (B = 2 ^ (E - 1) - 1)) (hB:Bt E F b s ex fr) (hW:Wo E F B ex fr M z xe) (hT:Tb w) :
  Calls Tryz.prog 51 #[.agg #[.int .i64 E,.int .i64 F],.int .u64 b] w fun e w'=>(∃ A N C,e = .returned (.tuple #[.agg #[.bool s,.slice A N C,.int .i64 (xe+(z:Int))],.int .i64 0])∧Mine w' w.heap.size A N C (M / 2 ^ z))∧Below w.heap.size w w':=by
 have hr:=hW.range h0 HB
 have hz:=hW.zle
 have hF:=h0.f52
 have hp:=pow_bound (show F+1≤53 by omega)
 have hlt:=hW.lt
 have hfin:=hW.fin
 have hE:=pow_bound h0.e11
 rcases hW.part with ⟨h1,h2,h3,h4⟩|⟨h1,h2,h3⟩
 ·exact Value_small E F B b ex fr s h0 HB hB M z xe (by unfold cls; rw [if_neg (by omega),if_pos h1]) w hW.pos (by omega) hT hW.tz (by omega) (by omega) (hide h2.symm) h4.symm
 ·exact Value_normal E F B b ex fr s h0 HB hB M z xe (by unfold cls; rw [if_neg (by omega),if_neg (by omega),if_pos (by omega)]) w hW.pos (by omega) hT hW.tz (by omega) (by omega) (hide (by rw [h2]; exact or_hidden fr F hF hW.frl)) h3.symm (by omega)
theorem Value_zero (E F B b:Nat) (s:Bool) (w:World) (h0:Fo E F) (HB:Hid (B = 2 ^ (E - 1) - 1)) (hB:Bt E F b s 0 0) :
  Calls Tryz.prog 51 #[.agg #[.int .i64 E,.int .i64 F],.int .u64 b] w fun e w'=>e = .returned (.tuple #[.agg #[.bool false,.slice none 0 0,.int .i64 0],.int .i64 0])∧Below w.heap.size w w':=
 Value_1 E F B b 0 0 s h0 HB hB (by unfold cls; rw [if_pos ⟨rfl,rfl⟩]) w
theorem Wo.bits {E F B ex fr M z:Nat} {xe:Int} (h:Wo E F B ex fr M z xe) {k:Nat} (hk:Bl (M / 2 ^ z) k):0 < k∧(ex = 0→k+z≤F)∧(0 < ex→k+z = F+1):=by
 obtain ⟨ho,hm⟩:=h.odd
 have hM0:=h.pos
 have hfr:=h.frl
 have hk0:0 < k:=by
  rcases Nat.eq_zero_or_pos k with h3|h3
  ·subst h3; have:=hk.1; rw [Nat.pow_zero] at this; exact absurd ho (by rw [Nat.lt_one_iff.1 this]; decide)
  ·exact h3
 have h1:M < 2 ^ (k+z):=by
  rw [← hm,Nat.pow_add]; exact Nat.mul_lt_mul_of_pos_right hk.1 (pow_pos2 z)
 have h2:2 ^ (k - 1+z)≤M:=by
  rcases hk.2 with h3|h3
  ·omega
  ·rw [← hm,Nat.pow_add]; exact Nat.mul_le_mul_right _ h3
 refine ⟨hk0,fun he=>?_,fun he=>?_⟩
 ·rcases h.part with ⟨_,h4,_,_⟩|⟨h4,_⟩
  ·have h5:2 ^ (k - 1+z) < 2 ^ F:=by omega
   have:=(Nat.pow_lt_pow_iff_right (by decide:1 < 2)).1 h5
   omega
  ·omega
 ·rcases h.part with ⟨h4,_⟩|⟨_,h4,_⟩
  ·omega
  ·have h5:2 ^ (k - 1+z) < 2 ^ (F+1):=by rw [Nat.pow_succ]; omega
   have h6:2 ^ F < 2 ^ (k+z):=by omega
   have h7:=(Nat.pow_lt_pow_iff_right (by decide:1 < 2)).1 h5
   have h8:=(Nat.pow_lt_pow_iff_right (by decide:1 < 2)).1 h6
   omega
theorem Wo.inj {E F B ex fr M z ex' fr' M' z':Nat} {xe xe':Int} (h:Wo E F B ex fr M z xe) (h':Wo E F B ex' fr' M' z' xe') (hm:M / 2 ^ z = M' / 2 ^ z') (hx:xe+(z:Int) = xe'+(z':Int)):ex = ex'∧fr = fr':=by
 obtain ⟨k,hk⟩:=bl_ex (M / 2 ^ z)
 have hk':=hk
 rw [hm] at hk'
 obtain ⟨_,h1,h2⟩:=h.bits hk
 obtain ⟨_,h1',h2'⟩:=h'.bits hk'
 have hxe:xe = xe':=by
  rcases h.part with ⟨a1,_,_,a2⟩|⟨a1,_,a2⟩ <;> rcases h'.part with ⟨b1,_,_,b2⟩|⟨b1,_,b2⟩
  ·omega
  ·have:=h1 a1; have:=h2' b1; omega
  ·have:=h2 a1; have:=h1' b1; omega
  ·have:=h2 a1; have:=h2' b1; omega
 have hzz:z = z':=by omega
 have hMM:M = M':=by
  have e1:=h.odd.2
  have e2:=h'.odd.2
  rw [← e1,← e2,hm,hzz]
 have hfr:=h.frl
 have hfr':=h'.frl
 rcases h.part with ⟨a1,a3,_,a2⟩|⟨a1,a3,a2⟩ <;> rcases h'.part with ⟨b1,b3,_,b2⟩|⟨b1,b3,b2⟩ <;> omega
end Go.Proofs.YtaidedkpfnidpaaGreatDoor
