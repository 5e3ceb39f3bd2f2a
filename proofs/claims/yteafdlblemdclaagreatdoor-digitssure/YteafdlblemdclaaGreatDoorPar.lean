/- Of what DigitsSureRow stands on: ExCheck. -/
import Derived.Test.YteafdlblemdclaaGreatDoorPab
import Derived.Test.YteafdlblemdclaaGreatDoorPam
import Derived.Test.YteafdlblemdclaaGreatDoorPaj
import Derived.Test.YteafdlblemdclaaGreatDoorPad
import Derived.Test.YteafdlblemdclaaGreatDoorProg
import Derived.WalkKit
import Derived.WalkSpells
import Derived.WalkLawsBesides
import Derived.Test.YteafdlblemdclaaGreatDoorPac
import Derived.Test.YteafdlblemdclaaGreatDoorPak
import Derived.Deep.LoopGhost
import Derived.BigQuiet
namespace Go.Proofs.YteafdlblemdclaaGreatDoor
open Go.RowKit
set_option maxHeartbeats 400000
def Far (x:Int):Prop:=x < -1073741824∨1073741824 < x
instance (x:Int):Decidable (Far x):=by unfold Far; infer_instance
theorem isNought_yes (a:Option Addr) (cap:Nat) (w:World)  :
  Calls Tryz.prog 61 #[.agg #[.slice a 0 cap]] w fun e w'=>e = .returned (.bool true)∧Below w.heap.size w w':=by
 go_enter Tryz.func61,Tryz.ntmps61
 go_wp2
 go_ret
 exact ⟨rfl,(Fs.one w _ _).fr⟩
theorem isNought_no (a:Option Addr) (n cap:Nat) (hn:0 < n) (w:World)  :
  Calls Tryz.prog 61 #[.agg #[.slice a n cap]] w fun e w'=>e = .returned (.bool false)∧Below w.heap.size w w':=by
 go_enter Tryz.func61,Tryz.ntmps61
 go_wp2
 go_ret
 exact ⟨ret_bool (by simp <;> omega),(Fs.one w _ _).fr⟩
theorem beyond_no (x:Int) (hx:-1073741824≤x∧x≤1073741824) (w:World)  :
  Calls Tryz.prog 63 #[.int .i64 x] w fun e w'=>e = .returned (.bool false)∧Below w.heap.size w w':=by
 go_enter Tryz.func63,Tryz.ntmps63
 go_wp2
 go_ret
 exact ⟨ret_bool (by simp <;> omega),(Fs.begin w).fr⟩
theorem bit0_odd (a:Option Addr) (n cap m:Nat) (w:World) (h:Num w a n m) (hm:m % 2 = 1) :
  Calls Tryz.prog 62 #[.agg #[.slice a n cap],.int .i64 0] w fun e w'=>e = .returned (.tuple #[.bool true,.int .i64 0])∧Below w.heap.size w w':=by
 have:=bit_any a n cap m 0 w h (by omega)
 rw [show decide (m / 2 ^ 0 % 2 = 1) = true from by simp [hm]] at this
 exact this
theorem dcheck_nil (s:Bool) (a:Option Addr) (cap:Nat) (x:Int) (w:World) (h:Num w a 0 0) :
  Calls Tryz.prog 30 #[.agg #[.bool s,.slice a 0 cap,.int .i64 x]] w fun e w'=>e = .returned (.int .i64 (if s = true∨x≠0 then 40 else 0))∧Below w.heap.size w w':=by
 have H:=hide h
 clear h
 go_enter Tryz.func30,Tryz.ntmps30
 go_wp2_with fail
 refine (check_num a 0 cap 0 _ ((unhide H).kept (gr_alloc _ _))).mono ?_
 rintro e w1 ⟨rfl,hb1⟩
 have hS:=(Fs.one w _ _).kept hb1
 obtain ⟨⟨ya,yb,yc,-⟩,-⟩:=hS.cells
 go_wp2_with fail
 refine (isNought_yes a cap _).mono ?_
 rintro e w2 ⟨rfl,hb2⟩
 replace hS:=hS.kept hb2
 clear ya yb yc
 obtain ⟨⟨yd,ye,yf,-⟩,-⟩:=hS.cells
 by_cases hs:s = true
 ·subst hs
  go_wp2
  go_ret
  exact ⟨by simp,hS.fr⟩
 ·obtain rfl:s = false:=by cases s <;> simp_all
  by_cases hx:x = 0
  ·subst hx
   go_wp2
   go_ret
   exact ⟨by simp,hS.fr⟩
  ·go_wp2
   go_ret
   exact ⟨by simp,hS.fr⟩
theorem dcheck_ok (s:Bool) (a:Option Addr) (n cap m:Nat) (x:Int) (w:World) (h:Num w a n m) (hn:0 < n) (hm:m % 2 = 1) (hx:-1073741824≤x∧x≤1073741824) :
  Calls Tryz.prog 30 #[.agg #[.bool s,.slice a n cap,.int .i64 x]] w fun e w'=>e = .returned (.int .i64 0)∧Below w.heap.size w w':=by
 have H:=hide h
 have HM:=hide hm
 clear h hm
 go_enter Tryz.func30,Tryz.ntmps30
 go_wp2_with fail
 refine (check_num a n cap m _ ((unhide H).kept (gr_alloc _ _))).mono ?_
 rintro e w1 ⟨rfl,hb1⟩
 have hS:=(Fs.one w _ _).kept hb1
 obtain ⟨⟨ya,yb,yc,-⟩,-⟩:=hS.cells
 go_wp2_with fail
 refine (isNought_no a n cap hn _).mono ?_
 rintro e w2 ⟨rfl,hb2⟩
 replace hS:=hS.kept hb2
 clear ya yb yc
 obtain ⟨⟨yd,ye,yf,-⟩,-⟩:=hS.cells
 go_wp2_with fail
 refine (bit0_odd a n cap m _ ((unhide H).kept hS.fr) (unhide HM)).mono ?_
 rintro e w3 ⟨rfl,hb3⟩
 replace hS:=hS.kept hb3
 clear yd ye yf
 obtain ⟨⟨yg,yh,yi,-⟩,-⟩:=hS.cells
 go_wp2_with fail
 refine (beyond_no _ hx _).mono ?_
 rintro e w4 ⟨rfl,hb4⟩
 replace hS:=hS.kept hb4
 clear yg yh yi
 obtain ⟨⟨yj,yk,yl,-⟩,-⟩:=hS.cells
 go_wp2
 go_ret
 exact ⟨rfl,hS.fr⟩
end Go.Proofs.YteafdlblemdclaaGreatDoor
