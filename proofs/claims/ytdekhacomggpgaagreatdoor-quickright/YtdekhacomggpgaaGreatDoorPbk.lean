/- Of what QuickRightRow stands on: ExOf ExRat NrFin. -/
import Derived.Test.YtdekhacomggpgaaGreatDoorPbj
import Derived.Test.YtdekhacomggpgaaGreatDoorPba
import Derived.Test.YtdekhacomggpgaaGreatDoorPbe
import Derived.Test.YtdekhacomggpgaaGreatDoorPbf
namespace Go.Proofs.YtdekhacomggpgaaGreatDoor
open Go.RowKit
set_option maxHeartbeats 400000
theorem rno_no (a:Option Addr) (n cap:Nat) (w:World) (hn:0 < n):Calls Tryz.prog 45 #[.agg #[.slice a n cap]] w fun en w'=>en = .returned (.bool false)∧Below w.heap.size w w':=by
 have:=nought_any a n cap w
 rw [decide_eq_false (by omega)] at this
 exact this
theorem one_yes (a:Option Addr) (n cap m:Nat) (w:World) (h:Num w a n m) (hm:m = 1):Calls Tryz.prog 101 #[.agg #[.slice a n cap]] w fun en w'=>en = .returned (.bool true)∧Below w.heap.size w w':=by
 have:=isOne_any a n cap m w h
 rw [decide_eq_true hm] at this
 exact this
theorem rk_ok_f (a:Option Addr) (n cap m:Nat) (a':Option Addr) (n' cap' m':Nat) (w:World) (hn':0 < n')  (h:Num w a n m) (h':Num w a' n' m') (hg:Nat.gcd m m' = 1) :
  Calls Tryz.prog 69 #[.agg #[.bool false,.slice a n cap,.slice a' n' cap']] w fun e w'=>e = .returned (.int .i64 0)∧Below w.heap.size w w':=by
 have H:=hide h
 have H':=hide h'
 have HG:=hide hg
 clear h h' hg
 go_enter Tryz.func69,Tryz.ntmps69
 go_wp2_with fail
 refine (rno_no a' n' cap' _ hn').mono ?_
 rintro e w1 ⟨rfl,hb1⟩
 have hS:=(Fs.one w _ _).kept hb1
 obtain ⟨⟨ya,yb,yc,-⟩,-⟩:=hS.cells
 go_wp2_with fail
 refine (gcd_any a a' n n' cap cap' m m' _ ((unhide H).kept hS.fr) ((unhide H').kept hS.fr)).mono ?_
 rintro e w2 ⟨⟨A1,N1,C1,rfl,f1⟩,hb2⟩
 replace hS:=hS.kept hb2
 clear ya yb yc
 obtain ⟨⟨yd,ye,yf,-⟩,-⟩:=hS.cells
 have G1:=hide f1.num
 clear f1
 have hltw2_0:w.heap.size < w2.heap.size:=hS.lt 0 rfl
 replace hS:=hS.alloc #[.slice A1 N1 C1] 29
 replace G1:=hide ((unhide G1).alloc (.cells #[.slice A1 N1 C1] 29))
 go_wp2_with fail
 refine (one_yes A1 N1 C1 _ _ (unhide G1) (unhide HG)).mono ?_
 rintro e w3 ⟨rfl,hb3⟩
 replace hS:=hS.kept hb3
 clear yd ye yf
 obtain ⟨⟨yg,-⟩,⟨yh,yi,yj,-⟩,-⟩:=hS.cells
 go_wp2
 go_ret
 exact ⟨rfl,hS.fr⟩
theorem rk_ok_t (a:Option Addr) (n cap m:Nat) (a':Option Addr) (n' cap' m':Nat) (w:World) (hn':0 < n')  (hn:0 < n) (h:Num w a n m) (h':Num w a' n' m') (hg:Nat.gcd m m' = 1) :
  Calls Tryz.prog 69 #[.agg #[.bool true,.slice a n cap,.slice a' n' cap']] w fun e w'=>e = .returned (.int .i64 0)∧Below w.heap.size w w':=by
 have H:=hide h
 have H':=hide h'
 have HG:=hide hg
 clear h h' hg
 go_enter Tryz.func69,Tryz.ntmps69
 go_wp2_with fail
 refine (rno_no a' n' cap' _ hn').mono ?_
 rintro e w1 ⟨rfl,hb1⟩
 have hS:=(Fs.one w _ _).kept hb1
 obtain ⟨⟨ya,yb,yc,-⟩,-⟩:=hS.cells
 go_wp2_with fail
 refine (rno_no a n cap _ hn).mono ?_
 rintro e w2 ⟨rfl,hb2⟩
 replace hS:=hS.kept hb2
 clear ya yb yc
 obtain ⟨⟨yd,ye,yf,-⟩,-⟩:=hS.cells
 go_wp2_with fail
 refine (gcd_any a a' n n' cap cap' m m' _ ((unhide H).kept hS.fr) ((unhide H').kept hS.fr)).mono ?_
 rintro e w3 ⟨⟨A1,N1,C1,rfl,f1⟩,hb3⟩
 replace hS:=hS.kept hb3
 clear yd ye yf
 obtain ⟨⟨yg,yh,yi,-⟩,-⟩:=hS.cells
 have G1:=hide f1.num
 clear f1
 have hltw3_0:w.heap.size < w3.heap.size:=hS.lt 0 rfl
 replace hS:=hS.alloc #[.slice A1 N1 C1] 29
 replace G1:=hide ((unhide G1).alloc (.cells #[.slice A1 N1 C1] 29))
 go_wp2_with fail
 refine (one_yes A1 N1 C1 _ _ (unhide G1) (unhide HG)).mono ?_
 rintro e w4 ⟨rfl,hb4⟩
 replace hS:=hS.kept hb4
 clear yg yh yi
 obtain ⟨⟨yj,-⟩,⟨yk,yl,ym,-⟩,-⟩:=hS.cells
 go_wp2
 go_ret
 exact ⟨rfl,hS.fr⟩
theorem mine_caps {w:World} {B:Nat} {a:Option Addr} {n c m:Nat} (h:Mine w B a n c m):n≤c∧c≤9223372036854775807:=by
 obtain ⟨xs,hn,ho,_⟩:=h
 obtain ⟨a',c',e,h1,h2,_⟩:=ho.lim
 cases e
 exact ⟨by omega,h2⟩
end Go.Proofs.YtdekhacomggpgaaGreatDoor
