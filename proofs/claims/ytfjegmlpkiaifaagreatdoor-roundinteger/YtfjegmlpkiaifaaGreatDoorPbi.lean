/- Of what RoundIntegerRow stands on: ExOf TnRun SNat SFirst SRdA NrRdy RyChk. -/
import Derived.Test.YtfjegmlpkiaifaaGreatDoorPax
import Derived.Test.YtfjegmlpkiaifaaGreatDoorPbe
import Derived.Test.YtfjegmlpkiaifaaGreatDoorPbg
import Derived.Test.YtfjegmlpkiaifaaGreatDoorPbh
import Derived.Test.YtfjegmlpkiaifaaGreatDoorPba
import Derived.Test.YtfjegmlpkiaifaaGreatDoorPbd
namespace Go.Proofs.YtfjegmlpkiaifaaGreatDoor
open Go.RowKit
set_option maxHeartbeats 2000000
set_option maxRecDepth 20000
theorem rno_yes (a:Option Addr) (cap:Nat) (w:World):Calls Tryz.prog 44 #[.agg #[.slice a 0 cap]] w fun en w'=>en = .returned (.bool true)∧Below w.heap.size w w':=nought_any a 0 cap w
theorem rno_no (a:Option Addr) (n cap:Nat) (w:World) (hn:0 < n):Calls Tryz.prog 44 #[.agg #[.slice a n cap]] w fun en w'=>en = .returned (.bool false)∧Below w.heap.size w w':=by
 have:=nought_any a n cap w
 rw [decide_eq_false (by omega)] at this
 exact this
theorem one_yes (a:Option Addr) (n cap m:Nat) (w:World) (h:Num w a n m) (hm:m = 1):Calls Tryz.prog 51 #[.agg #[.slice a n cap]] w fun en w'=>en = .returned (.bool true)∧Below w.heap.size w w':=by
 have:=isOne_any a n cap m w h
 rw [decide_eq_true hm] at this
 exact this
theorem one_no (a:Option Addr) (n cap m:Nat) (w:World) (h:Num w a n m) (hm:m≠1):Calls Tryz.prog 51 #[.agg #[.slice a n cap]] w fun en w'=>en = .returned (.bool false)∧Below w.heap.size w w':=by
 have:=isOne_any a n cap m w h
 rw [decide_eq_false hm] at this
 exact this
theorem gcd_bad (a:Option Addr) (n cap:Nat) (xs:List Nat) (a':Option Addr) (n' cap':Nat) (ys:List Nat) (w:World) (hn:xs.length = n) (hn':ys.length = n') (hbx:n≤9223372036854775807) (hby:n'≤9223372036854775807) (hl:Lim w a xs) (hl':Lim w a' ys) (hc:chk2 xs ys≠0) :
  Calls Tryz.prog 50 #[.agg #[.slice a n cap],.agg #[.slice a' n' cap']] w fun e w'=>e = .returned (.tuple #[.agg #[.slice none 0 0],.int .i64 (chk2 xs ys)])∧Below w.heap.size w w':=by
 have HK:=hide (fun (o1 o2 o3:Obj)=>checkBoth_any a a' cap cap' xs ys (((w.alloc o1).alloc o2).alloc o3) (by omega) (by omega) (((hl.alloc _).alloc _).alloc _) (((hl'.alloc _).alloc _).alloc _))
 rw [hn,hn'] at HK
 have hne:(chk2 xs ys != 0) = true:=by simp [hc]
 clear hn hn' hl hl' hc hbx hby
 go_enter Tryz.func50,Tryz.ntmps50
 go_wp2_with fail
 refine (unhide HK _ _ _).mono ?_
 rintro e w1 ⟨rfl,hb1⟩
 have hS:=(Fs.three w _ _ _ _ _ _).kept hb1
 obtain ⟨⟨ya,-⟩,⟨yb,-⟩,⟨yc,-⟩,-⟩:=hS.cells
 have fz0:=hS.frozen (b:=w.heap.size+2) (cs:=#[.slice none 0 0]) (t:=26) (by simp) 0
 go_wp2
 exact bodyPost_ret (v:=.tuple #[.agg #[.slice none 0 0],.int .i64 (chk2 xs ys)]) (by simp [results,Tryz.results50,go_sem,yc]) rfl ⟨rfl,hS.fr.setCell (by simp <;> omega) _⟩
theorem rk_den (s:Bool) (a:Option Addr) (n cap:Nat) (a':Option Addr) (cap':Nat) (w:World)  :
  Calls Tryz.prog 20 #[.agg #[.bool s,.slice a n cap,.slice a' 0 cap']] w fun e w'=>e = .returned (.int .i64 20)∧Below w.heap.size w w':=by
 go_enter Tryz.func20,Tryz.ntmps20
 go_wp2_with fail
 refine (rno_yes a' cap' _).mono ?_
 rintro e w1 ⟨rfl,hb1⟩
 have hS:=(Fs.one w _ _).kept hb1
 obtain ⟨⟨ya,yb,yc,-⟩,-⟩:=hS.cells
 go_wp2
 go_ret
 exact ⟨rfl,hS.fr⟩
theorem rk_neg (a:Option Addr) (cap:Nat) (a':Option Addr) (n' cap':Nat) (hn':0 < n') (w:World)  :
  Calls Tryz.prog 20 #[.agg #[.bool true,.slice a 0 cap,.slice a' n' cap']] w fun e w'=>e = .returned (.int .i64 20)∧Below w.heap.size w w':=by
 go_enter Tryz.func20,Tryz.ntmps20
 go_wp2_with fail
 refine (rno_no a' n' cap' _ hn').mono ?_
 rintro e w1 ⟨rfl,hb1⟩
 have hS:=(Fs.one w _ _).kept hb1
 obtain ⟨⟨ya,yb,yc,-⟩,-⟩:=hS.cells
 go_wp2_with fail
 refine (rno_yes a cap _).mono ?_
 rintro e w2 ⟨rfl,hb2⟩
 replace hS:=hS.kept hb2
 clear ya yb yc
 obtain ⟨⟨yd,ye,yf,-⟩,-⟩:=hS.cells
 go_wp2
 go_ret
 exact ⟨rfl,hS.fr⟩
theorem rk_err_f (a:Option Addr) (n cap:Nat) (a':Option Addr) (n' cap':Nat) (c:Int) (w:World) (hn':0 < n')  (hc:(c != 0) = true) (HG:Hid (∀ W:World,Below w.heap.size w W→Calls Tryz.prog 50 #[.agg #[.slice a n cap],.agg #[.slice a' n' cap']] W fun e w'=>e = .returned (.tuple #[.agg #[.slice none 0 0],.int .i64 c])∧Below W.heap.size W w')) :
  Calls Tryz.prog 20 #[.agg #[.bool false,.slice a n cap,.slice a' n' cap']] w fun e w'=>e = .returned (.int .i64 20)∧Below w.heap.size w w':=by
 go_enter Tryz.func20,Tryz.ntmps20
 go_wp2_with fail
 refine (rno_no a' n' cap' _ hn').mono ?_
 rintro e w1 ⟨rfl,hb1⟩
 have hS:=(Fs.one w _ _).kept hb1
 obtain ⟨⟨ya,yb,yc,-⟩,-⟩:=hS.cells
 go_wp2_with fail
 refine (unhide HG _ hS.fr).mono ?_
 rintro e w2 ⟨rfl,hb2⟩
 replace hS:=hS.kept hb2
 clear ya yb yc
 obtain ⟨⟨yd,ye,yf,-⟩,-⟩:=hS.cells
 go_wp2
 go_ret
 exact ⟨rfl,hS.fr.alloc hS.fr.size _⟩
theorem rk_big_f (a:Option Addr) (n cap m:Nat) (a':Option Addr) (n' cap' m':Nat) (w:World) (hn':0 < n')  (h:Num w a n m) (h':Num w a' n' m') (hg:Nat.gcd m m'≠1) :
  Calls Tryz.prog 20 #[.agg #[.bool false,.slice a n cap,.slice a' n' cap']] w fun e w'=>e = .returned (.int .i64 20)∧Below w.heap.size w w':=by
 have H:=hide h
 have H':=hide h'
 have HG:=hide hg
 clear h h' hg
 go_enter Tryz.func20,Tryz.ntmps20
 go_wp2_with fail
 refine (rno_no a' n' cap' _ hn').mono ?_
 rintro e w1 ⟨rfl,hb1⟩
 have hS:=(Fs.one w _ _).kept hb1
 obtain ⟨⟨ya,yb,yc,-⟩,-⟩:=hS.cells
 go_wp2_with fail
 refine (gcd_any a a' n n' cap cap' m m' _ ((unhide H).kept hS.fr) ((unhide H').kept hS.fr)).mono ?_
 rintro e w2 ⟨⟨A1,N1,C1,rfl,f1⟩,hb2⟩
 replace hS:=hS.kept hb2
 clear ya yb yc
 obtain ⟨⟨yd,ye,yf,-⟩,-⟩:=hS.cells
 have G1:=hide f1.num
 clear f1
 have hltw2_0:w.heap.size < w2.heap.size:=hS.lt 0 rfl
 replace hS:=hS.alloc #[.slice A1 N1 C1] 26
 replace G1:=hide ((unhide G1).alloc (.cells #[.slice A1 N1 C1] 26))
 go_wp2_with fail
 refine (one_no A1 N1 C1 _ _ (unhide G1) (unhide HG)).mono ?_
 rintro e w3 ⟨rfl,hb3⟩
 replace hS:=hS.kept hb3
 clear yd ye yf
 obtain ⟨⟨yg,-⟩,⟨yh,yi,yj,-⟩,-⟩:=hS.cells
 go_wp2
 go_ret
 exact ⟨rfl,hS.fr⟩
theorem rk_ok_f (a:Option Addr) (n cap m:Nat) (a':Option Addr) (n' cap' m':Nat) (w:World) (hn':0 < n')  (h:Num w a n m) (h':Num w a' n' m') (hg:Nat.gcd m m' = 1) :
  Calls Tryz.prog 20 #[.agg #[.bool false,.slice a n cap,.slice a' n' cap']] w fun e w'=>e = .returned (.int .i64 0)∧Below w.heap.size w w':=by
 have H:=hide h
 have H':=hide h'
 have HG:=hide hg
 clear h h' hg
 go_enter Tryz.func20,Tryz.ntmps20
 go_wp2_with fail
 refine (rno_no a' n' cap' _ hn').mono ?_
 rintro e w1 ⟨rfl,hb1⟩
 have hS:=(Fs.one w _ _).kept hb1
 obtain ⟨⟨ya,yb,yc,-⟩,-⟩:=hS.cells
 go_wp2_with fail
 refine (gcd_any a a' n n' cap cap' m m' _ ((unhide H).kept hS.fr) ((unhide H').kept hS.fr)).mono ?_
 rintro e w2 ⟨⟨A1,N1,C1,rfl,f1⟩,hb2⟩
 replace hS:=hS.kept hb2
 clear ya yb yc
 obtain ⟨⟨yd,ye,yf,-⟩,-⟩:=hS.cells
 have G1:=hide f1.num
 clear f1
 have hltw2_0:w.heap.size < w2.heap.size:=hS.lt 0 rfl
 replace hS:=hS.alloc #[.slice A1 N1 C1] 26
 replace G1:=hide ((unhide G1).alloc (.cells #[.slice A1 N1 C1] 26))
 go_wp2_with fail
 refine (one_yes A1 N1 C1 _ _ (unhide G1) (unhide HG)).mono ?_
 rintro e w3 ⟨rfl,hb3⟩
 replace hS:=hS.kept hb3
 clear yd ye yf
 obtain ⟨⟨yg,-⟩,⟨yh,yi,yj,-⟩,-⟩:=hS.cells
 go_wp2
 go_ret
 exact ⟨rfl,hS.fr⟩
theorem rk_err_t (a:Option Addr) (n cap:Nat) (a':Option Addr) (n' cap':Nat) (c:Int) (w:World) (hn':0 < n')  (hn:0 < n) (hc:(c != 0) = true) (HG:Hid (∀ W:World,Below w.heap.size w W→Calls Tryz.prog 50 #[.agg #[.slice a n cap],.agg #[.slice a' n' cap']] W fun e w'=>e = .returned (.tuple #[.agg #[.slice none 0 0],.int .i64 c])∧Below W.heap.size W w')) :
  Calls Tryz.prog 20 #[.agg #[.bool true,.slice a n cap,.slice a' n' cap']] w fun e w'=>e = .returned (.int .i64 20)∧Below w.heap.size w w':=by
 go_enter Tryz.func20,Tryz.ntmps20
 go_wp2_with fail
 refine (rno_no a' n' cap' _ hn').mono ?_
 rintro e w1 ⟨rfl,hb1⟩
 have hS:=(Fs.one w _ _).kept hb1
 obtain ⟨⟨ya,yb,yc,-⟩,-⟩:=hS.cells
 go_wp2_with fail
 refine (rno_no a n cap _ hn).mono ?_
 rintro e w2 ⟨rfl,hb2⟩
 replace hS:=hS.kept hb2
 clear ya yb yc
 obtain ⟨⟨yd,ye,yf,-⟩,-⟩:=hS.cells
 go_wp2_with fail
 refine (unhide HG _ hS.fr).mono ?_
 rintro e w3 ⟨rfl,hb3⟩
 replace hS:=hS.kept hb3
 clear yd ye yf
 obtain ⟨⟨yg,yh,yi,-⟩,-⟩:=hS.cells
 go_wp2
 go_ret
 exact ⟨rfl,hS.fr.alloc hS.fr.size _⟩
theorem rk_big_t (a:Option Addr) (n cap m:Nat) (a':Option Addr) (n' cap' m':Nat) (w:World) (hn':0 < n')  (hn:0 < n) (h:Num w a n m) (h':Num w a' n' m') (hg:Nat.gcd m m'≠1) :
  Calls Tryz.prog 20 #[.agg #[.bool true,.slice a n cap,.slice a' n' cap']] w fun e w'=>e = .returned (.int .i64 20)∧Below w.heap.size w w':=by
 have H:=hide h
 have H':=hide h'
 have HG:=hide hg
 clear h h' hg
 go_enter Tryz.func20,Tryz.ntmps20
 go_wp2_with fail
 refine (rno_no a' n' cap' _ hn').mono ?_
 rintro e w1 ⟨rfl,hb1⟩
 have hS:=(Fs.one w _ _).kept hb1
 obtain ⟨⟨ya,yb,yc,-⟩,-⟩:=hS.cells
 go_wp2_with fail
 refine (rno_no a n cap _ hn).mono ?_
 rintro e w2 ⟨rfl,hb2⟩
 replace hS:=hS.kept hb2
 clear ya yb yc
 obtain ⟨⟨yd,ye,yf,-⟩,-⟩:=hS.cells
 go_wp2_with fail
 refine (gcd_any a a' n n' cap cap' m m' _ ((unhide H).kept hS.fr) ((unhide H').kept hS.fr)).mono ?_
 rintro e w3 ⟨⟨A1,N1,C1,rfl,f1⟩,hb3⟩
 replace hS:=hS.kept hb3
 clear yd ye yf
 obtain ⟨⟨yg,yh,yi,-⟩,-⟩:=hS.cells
 have G1:=hide f1.num
 clear f1
 have hltw3_0:w.heap.size < w3.heap.size:=hS.lt 0 rfl
 replace hS:=hS.alloc #[.slice A1 N1 C1] 26
 replace G1:=hide ((unhide G1).alloc (.cells #[.slice A1 N1 C1] 26))
 go_wp2_with fail
 refine (one_no A1 N1 C1 _ _ (unhide G1) (unhide HG)).mono ?_
 rintro e w4 ⟨rfl,hb4⟩
 replace hS:=hS.kept hb4
 clear yg yh yi
 obtain ⟨⟨yj,-⟩,⟨yk,yl,ym,-⟩,-⟩:=hS.cells
 go_wp2
 go_ret
 exact ⟨rfl,hS.fr⟩
theorem rk_ok_t (a:Option Addr) (n cap m:Nat) (a':Option Addr) (n' cap' m':Nat) (w:World) (hn':0 < n')  (hn:0 < n) (h:Num w a n m) (h':Num w a' n' m') (hg:Nat.gcd m m' = 1) :
  Calls Tryz.prog 20 #[.agg #[.bool true,.slice a n cap,.slice a' n' cap']] w fun e w'=>e = .returned (.int .i64 0)∧Below w.heap.size w w':=by
 have H:=hide h
 have H':=hide h'
 have HG:=hide hg
 clear h h' hg
 go_enter Tryz.func20,Tryz.ntmps20
 go_wp2_with fail
 refine (rno_no a' n' cap' _ hn').mono ?_
 rintro e w1 ⟨rfl,hb1⟩
 have hS:=(Fs.one w _ _).kept hb1
 obtain ⟨⟨ya,yb,yc,-⟩,-⟩:=hS.cells
 go_wp2_with fail
 refine (rno_no a n cap _ hn).mono ?_
 rintro e w2 ⟨rfl,hb2⟩
 replace hS:=hS.kept hb2
 clear ya yb yc
 obtain ⟨⟨yd,ye,yf,-⟩,-⟩:=hS.cells
 go_wp2_with fail
 refine (gcd_any a a' n n' cap cap' m m' _ ((unhide H).kept hS.fr) ((unhide H').kept hS.fr)).mono ?_
 rintro e w3 ⟨⟨A1,N1,C1,rfl,f1⟩,hb3⟩
 replace hS:=hS.kept hb3
 clear yd ye yf
 obtain ⟨⟨yg,yh,yi,-⟩,-⟩:=hS.cells
 have G1:=hide f1.num
 clear f1
 have hltw3_0:w.heap.size < w3.heap.size:=hS.lt 0 rfl
 replace hS:=hS.alloc #[.slice A1 N1 C1] 26
 replace G1:=hide ((unhide G1).alloc (.cells #[.slice A1 N1 C1] 26))
 go_wp2_with fail
 refine (one_yes A1 N1 C1 _ _ (unhide G1) (unhide HG)).mono ?_
 rintro e w4 ⟨rfl,hb4⟩
 replace hS:=hS.kept hb4
 clear yg yh yi
 obtain ⟨⟨yj,-⟩,⟨yk,yl,ym,-⟩,-⟩:=hS.cells
 go_wp2
 go_ret
 exact ⟨rfl,hS.fr⟩
theorem runNat_0 (p k:Nat) (a:Option Addr) (n cap:Nat) (w:World) (h:Rn w p k) :
  Calls Tryz.prog 40 #[.pointer (some ⟨p,k,none⟩),.agg #[.slice a n cap],.int .i64 0] w fun e w'=>e = .returned (.agg #[.slice a n cap])∧Below w.heap.size w w':=by
 have H:=hide h
 clear h
 go_enter Tryz.func40,Tryz.ntmps40
 go_wp2_with fail
 refine (keep_0 p k _ ((unhide H).kept (Fs.two w _ _ _ _).fr)).mono ?_
 rintro e w1 ⟨rfl,hb1⟩
 have hS:=(Fs.two w _ _ _ _).kept hb1
 obtain ⟨⟨ya,-⟩,⟨yb,-⟩,-⟩:=hS.cells
 have fz0:=hS.frozen (b:=w.heap.size+1) (cs:=#[.slice none 0 0]) (t:=26) (by simp) 0
 go_wp2
 exact bodyPost_ret (v:=.agg #[.slice a n cap]) (by simp [results,Tryz.results40,go_sem,yb]) rfl ⟨rfl,(hS.fr.setCell (by simp <;> omega) _)⟩
theorem runLess_0 (p k:Nat) (a:Option Addr) (n cap:Nat) (t:Bool) (w:World) (h:Rn w p k) :
  Calls Tryz.prog 35 #[.pointer (some ⟨p,k,none⟩),.agg #[.slice a n cap],.bool t,.int .i64 0] w fun e w'=>e = .returned (.agg #[.slice a n cap])∧Below w.heap.size w w':=by
 have H:=hide h
 clear h
 go_enter Tryz.func35,Tryz.ntmps35
 go_wp2_with fail
 refine (keep_0 p k _ ((unhide H).kept (Fs.two w _ _ _ _).fr)).mono ?_
 rintro e w1 ⟨rfl,hb1⟩
 have hS:=(Fs.two w _ _ _ _).kept hb1
 obtain ⟨⟨ya,-⟩,⟨yb,-⟩,-⟩:=hS.cells
 have fz0:=hS.frozen (b:=w.heap.size+1) (cs:=#[.slice none 0 0]) (t:=26) (by simp) 0
 go_wp2
 exact bodyPost_ret (v:=.agg #[.slice a n cap]) (by simp [results,Tryz.results35,go_sem,yb]) rfl ⟨rfl,(hS.fr.setCell (by simp <;> omega) _)⟩
theorem runInt_0 (p k:Nat) (c:Int) (w:World) (h:Rn w p k) :
  Calls Tryz.prog 33 #[.pointer (some ⟨p,k,none⟩),.int .i64 c,.int .i64 0] w fun e w'=>e = .returned (.int .i64 c)∧Below w.heap.size w w':=by
 have H:=hide h
 clear h
 go_enter Tryz.func33,Tryz.ntmps33
 go_wp2_with fail
 refine (keep_0 p k _ (unhide H)).mono ?_
 rintro e w1 ⟨rfl,hb1⟩
 have hS:=(Fs.begin w).kept hb1
 go_wp2
 go_ret
 exact ⟨rfl,hS.fr⟩
theorem runNats_0 (p k:Nat) (a:Option Addr) (n cap:Nat) (a':Option Addr) (n' cap':Nat) (w:World) (h:Rn w p k) :
  Calls Tryz.prog 30 #[.pointer (some ⟨p,k,none⟩),.agg #[.slice a n cap],.agg #[.slice a' n' cap'],.int .i64 0] w fun e w'=>e = .returned (.tuple #[.agg #[.slice a n cap],.agg #[.slice a' n' cap']])∧Below w.heap.size w w':=by
 have H:=hide h
 clear h
 go_enter Tryz.func30,Tryz.ntmps30
 go_wp2_with fail
 have hS:=(Fs.three w #[.slice a n cap] 26 #[.slice a' n' cap'] 26 #[.slice none 0 0] 26).alloc #[.slice none 0 0] 26
 simp only [World.size_alloc] at hS
 refine (keep_0 p k _ ((unhide H).kept hS.fr)).mono ?_
 rintro e w1 ⟨rfl,hb1⟩
 replace hS:=hS.kept hb1
 obtain ⟨⟨ya,-⟩,⟨yb,-⟩,⟨yc,-⟩,⟨yd,-⟩,-⟩:=hS.cells
 have fy0:=hS.frozen (b:=w.heap.size+2) (cs:=#[.slice none 0 0]) (t:=26) (by simp) 0
 have fz0:=hS.frozen (b:=w.heap.size+3) (cs:=#[.slice none 0 0]) (t:=26) (by simp) 0
 go_wp2
 go_region
 go_wp2
 exact bodyPost_ret (v:=.tuple #[.agg #[.slice a n cap],.agg #[.slice a' n' cap']]) (by simp [results,Tryz.results30,go_sem,ya,yd]) rfl ⟨rfl,((hS.fr.setCell (show w.heap.size≤w.heap.size+1+1 by omega) _).setCell (show w.heap.size≤w.heap.size+1+1+1 by omega) _).drew⟩
theorem tcheckF_ok (s:Bool) (a:Option Addr) (n cap:Nat) (a':Option Addr) (n' cap':Nat) (md:Nat) (hm:md≤4) (w:World) (HC:Hid (∀ W:World,Below w.heap.size w W→Calls Tryz.prog 20 #[.agg #[.bool s,.slice a n cap,.slice a' n' cap']] W fun e w'=>e = .returned (.int .i64 0)∧Below W.heap.size W w')) :
  Calls Tryz.prog 29 #[.agg #[.bool s,.slice a n cap,.slice a' n' cap'],.int .u8 (md:Int)] w fun e w'=>e = .returned (.int .i64 0)∧Below w.heap.size w w':=by
 go_enter Tryz.func29,Tryz.ntmps29
 go_wp2_with fail
 refine (unhide HC _ (Fs.one w _ _).fr).mono ?_
 rintro e w1 ⟨rfl,hb1⟩
 have hS:=(Fs.one w _ _).kept hb1
 obtain ⟨⟨ya,yb,yc,-⟩,-⟩:=hS.cells
 go_wp2_with fail
 refine (mode_ok md hm _).mono ?_
 rintro e w2 ⟨rfl,hb2⟩
 replace hS:=hS.kept hb2
 clear ya yb yc
 obtain ⟨⟨yd,ye,yf,-⟩,-⟩:=hS.cells
 clear hm
 go_wp2
 go_ret
 exact ⟨rfl,hS.fr⟩
def HBits (m i:Nat):Prop:=∀ (W:World) (A:Option Addr) (N C:Nat),Num W A N m→Calls Tryz.prog 86 #[.agg #[.slice A N C]] W fun e W'=>e = .returned (.tuple #[.int .i64 (i:Int),.int .i64 0])∧Below W.heap.size W W'
def HUp (m:Nat) (s:Int) (v:Nat):Prop:=∀ (W:World) (A:Option Addr) (N C:Nat),Num W A N m→Calls Tryz.prog 59 #[.agg #[.slice A N C],.int .i64 s] W fun en W'=>(∃ a n c,en = .returned (.tuple #[.agg #[.slice a n c],.int .i64 0])∧Mine W' W.heap.size a n c v)∧Below W.heap.size W W'
def HTwo (f:FuncId) (x y v:Nat):Prop:=∀ (W:World) (a:Option Addr) (n c:Nat) (a':Option Addr) (n' c':Nat),Num W a n x→Num W a' n' y→Calls Tryz.prog f #[.agg #[.slice a n c],.agg #[.slice a' n' c']] W fun en W'=>(∃ a n c,en = .returned (.tuple #[.agg #[.slice a n c],.int .i64 0])∧Mine W' W.heap.size a n c v)∧Below W.heap.size W W'
def HDiv (x y q r:Nat):Prop:=∀ (W:World) (a:Option Addr) (n c:Nat) (a':Option Addr) (n' c':Nat),Num W a n x→Num W a' n' y→Calls Tryz.prog 31 #[.agg #[.slice a n c],.agg #[.slice a' n' c']] W fun en W'=>(∃ a n c a' n' c',en = .returned (.tuple #[.agg #[.slice a n c],.agg #[.slice a' n' c'],.int .i64 0])∧Mine W' W.heap.size a n c q∧Mine W' W.heap.size a' n' c' r)∧Below W.heap.size W W'
theorem snought (a:Option Addr) (n cap:Nat) (w:World) (b:Bool) (h:decide (n = 0) = b):Calls Tryz.prog 32 #[.agg #[.slice a n cap]] w fun e w'=>e = .returned (.bool b)∧Below w.heap.size w w':=by
 subst h
 rcases Nat.eq_zero_or_pos n with h|h
 ·subst h; exact rnought_yes a cap w
 ·rw [decide_eq_false (by omega)]; exact rnought_no a n cap h w
theorem Num.isz {w:World} {a:Option Addr} {n m:Nat} (h:Num w a n m) (hm:m = 0):decide (n = 0) = true:=by rw [decide_eq_true_iff]; exact h.zero.2 hm
theorem Num.noz {w:World} {a:Option Addr} {n m:Nat} (h:Num w a n m) (hm:m≠0):decide (n = 0) = false:=by rw [decide_eq_false_iff_not]; exact fun e=>hm (h.zero.1 e)
def cS (B m:Nat) (g:Bool):Cf:=⟨fun q=>.tuple #[.agg #[.slice q.A q.N q.C],.bool g],fun q W=>Mine W B q.A q.N q.C m,fun _=>sta_mine _ _ _ _ _⟩
theorem as_s {P:Program} {fn:FuncId} {args:Array Value} {W:World} {B m:Nat} {g:Bool} (hb:B≤W.heap.size) (h:Calls P fn args W fun en W'=>(∃ a n c,en = .returned (.tuple #[.agg #[.slice a n c],.bool g])∧Mine W' W.heap.size a n c m)∧Below W.heap.size W W'):Calls P fn args W fun en W'=>∃ q,en = .returned ((cS B m g).f q)∧Below W.heap.size W W'∧(cS B m g).g q W':=
 h.mono fun _ _ ⟨⟨a,n,c,h1,h3⟩,h2⟩=>⟨{ pq0 with A:=a,N:=n,C:=c },h1,h2,h3.mono hb⟩
theorem sfirst_is (w:World) (p:Nat) (a1 a2 a3 a4:Option Addr) (n1 n2 n3 n4 c1 c2 c3 c4 m1 m2 m3 m4 i1 i2 i3 i4 i5 lift more t1 t2 t3 t4 t5 t6 t7 t8 t9 t10 t11:Nat) (z th:Int) (go:Bool) (ans:Nat) (hk:Rn w p 0) (h1:Num w a1 n1 m1) (h2:Num w a2 n2 m2) (h3:Num w a3 n3 m3) (h4:Num w a4 n4 m4) (hb1:i1≤524288) (hb2:i2≤524288) (hb3:i3≤524288) (hb4:i4≤524288) (hb5:i5≤1048576) (hl:max 0 ((i3:Int) - (i1:Int)) = (lift:Int)) (hth:(i5:Int)+(i2:Int) - 1 - (i3:Int) = th) (hm:max 0 (64+(i4:Int) - th) = (more:Int)) (hlb:lift≤524288) (hmb:more≤1048576) (hz1:-2147483648≤z) (hz2:z≤2147483648) (hgo:Hid ((go = true∧ans = t11)∨(go = false∧t9≠0∧ans = t11)∨(go = false∧t9 = 0∧ans = t10))) (HB1:Hid (HBits m1 i1)) (HB2:Hid (HBits m2 i2)) (HB3:Hid (HBits m3 i3)) (HB4:Hid (HBits m4 i4)) (HB5:Hid (HBits t1 i5)) (HU1:Hid (HUp m1 lift t1)) (HU2:Hid (HUp m2 more t2)) (HV1:Hid (HDiv t1 m3 t3 t4)) (HS:Hid (∀ (W:World) (a:Option Addr) (n c:Nat) (b:Option Addr) (k l:Nat) (d:Option Addr) (m e:Nat),Rn W p 0→Num W a n t4→Num W b k t2→Num W d m m3→Calls Tryz.prog 121 #[.pointer (some ⟨p,0,none⟩),.agg #[.slice a n c],.agg #[.slice b k l],.agg #[.slice d m e]] W fun en W'=>(∃ A N C,en = .returned (.tuple #[.agg #[.slice A N C],.bool go])∧Mine W' W.heap.size A N C t5)∧Below W.heap.size W W')) (HM:Hid (HTwo 102 t3 t2 t6)) (HA1:Hid (HTwo 41 t6 t5 t7)) (HV2:Hid (HDiv t7 m4 t8 t9)) (HU3:Hid (HUp t8 1 t10)) (HA2:Hid (HTwo 41 t10 1 t11)) :
  Calls Tryz.prog 84 #[.agg #[.slice a1 n1 c1,.slice a2 n2 c2,.slice a3 n3 c3,.slice a4 n4 c4,.int .i64 z],.pointer (some ⟨p,0,none⟩)] w fun en w'=>(∃ A N C,en = .returned (.tuple #[.agg #[.slice A N C],.int .i64 (z - (lift:Int) - (more:Int) - 1)])∧Mine w' w.heap.size A N C ans)∧Below w.heap.size w w':=by
 obtain ⟨cs9,t9_,hp,hp0⟩:=hk
 refine calls_sym Tryz.func84 rfl (by kernel_rfl) fun T hK=>?_
 replace hK:Kn T _ [(0,.agg #[.slice a1 n1 c1,.slice a2 n2 c2,.slice a3 n3 c3,.slice a4 n4 c4,.int .i64 z]),(1,.pointer (some ⟨p,0,none⟩))]:=hK
 have hS:=Fb.other hp
 have hG:GsAt [gN a1 n1 m1,gN a2 n2 m2,gN a3 n3 m3,gN a4 n4 m4] w:=⟨h1,h2,h3,h4,trivial⟩
 clear h1 h2 h3 h4
 refine wq hS hG hK (fun p1=>[.n 2 #[.slice a1 n1 c1,.slice a2 n2 c2,.slice a3 n3 c3,.slice a4 n4 c4,.int .i64 z] 141,.n 4 #[.slice none 0 0] 26,.v 5 (.int .i64 0)]) (fun p1=>[(1,.pointer (some ⟨p,0,none⟩)),(2,pT (p1 0).N 0),(4,pT (p1 1).N 0),(5,.int .i64 0)]) (fun p1=>?_) (fun p1 W1 T hF hK=>?_)
 ·iterate 2 refine okn ?_
  refine okv ?_
  exact ok_nil
 replace hS:=SymF.fc hS hF [0,1000,1001] [⟨p,cs9,t9_,false⟩,⟨(p1 0).N,#[.slice a1 n1 c1,.slice a2 n2 c2,.slice a3 n3 c3,.slice a4 n4 c4,.int .i64 z],141,true⟩,⟨(p1 1).N,#[.slice none 0 0],26,true⟩]
 replace hG:=hF.gx
 clear hF
 refine wq hS hG hK (fun p2=>[.v 17 (.pointer (some ⟨p,0,none⟩)),.v 18 (.pointer (some ⟨p,0,none⟩)),.v 19 (.pointer (some ⟨p,0,none⟩)),.v 20 (pT (p1 0).N 2),.l 21 (.agg #[.slice a3 n3 c3]) 1 2,.c (some 22) (cV (.tuple #[.int .i64 (i3:Int),.int .i64 0])),.v 23 (.int .i64 (i3:Int)),.v 24 (.int .i64 0),.u 25 (.int .i64 (i3:Int)) (aG 1),.v 6 (.int .i64 (i3:Int))]) (fun p2=>[(1,.pointer (some ⟨p,0,none⟩)),(2,pT (p1 0).N 0),(4,pT (p1 1).N 0),(5,.int .i64 0),(6,.int .i64 (i3:Int))]) (fun p2=>?_) (fun p2 W2 T hF hK=>?_)
 ·iterate 4 refine okv ?_
  refine okl ?_
  refine okc (fun W cx=>as_v (unhide HB3 _ _ _ c3 (cx.G.2.2.1))) ?_
  iterate 2 refine okv ?_
  refine oku (fun W cx=>runInt_0 p 0 _ _ ⟨_,_,cx.B 0 _ rfl (by kernel_rfl) (by kernel_rfl),hp0⟩) ?_
  refine okv ?_
  exact ok_nil
 obtain ⟨hS,hG⟩:=SymF.fg hS hF
 clear hF
 refine wq hS hG hK (fun p3=>[.v 26 (.int .i64 (i3:Int)),.v 27 (.pointer (some ⟨p,0,none⟩)),.v 28 (.pointer (some ⟨p,0,none⟩)),.v 29 (.pointer (some ⟨p,0,none⟩)),.v 30 (pT (p1 0).N 0),.l 31 (.agg #[.slice a1 n1 c1]) 1 0,.c (some 32) (cV (.tuple #[.int .i64 (i1:Int),.int .i64 0])),.v 33 (.int .i64 (i1:Int)),.v 34 (.int .i64 0),.u 35 (.int .i64 (i1:Int)) (aG 1),.v 36 (.int .i64 ((i3:Int) - (i1:Int))),.v 37 (.int .i64 (lift:Int)),.v 7 (.int .i64 (lift:Int))]) (fun p3=>[(1,.pointer (some ⟨p,0,none⟩)),(2,pT (p1 0).N 0),(4,pT (p1 1).N 0),(5,.int .i64 0),(6,.int .i64 (i3:Int)),(7,.int .i64 (lift:Int))]) (fun p3=>?_) (fun p3 W3 T hF hK=>?_)
 ·iterate 5 refine okv ?_
  refine okl ?_
  refine okc (fun W cx=>as_v (unhide HB1 _ _ _ c1 (cx.G.1))) ?_
  iterate 2 refine okv ?_
  refine oku (fun W cx=>runInt_0 p 0 _ _ ⟨_,_,cx.B 0 _ rfl (by kernel_rfl) (by kernel_rfl),hp0⟩) ?_
  refine okvi (wr64 (x:=(i3:Int) - (i1:Int)) (by omega) (by omega)) ?_
  refine okvi ((imax _ _).trans hl) ?_
  refine okv ?_
  exact ok_nil
 obtain ⟨hS,hG⟩:=SymF.fg hS hF
 clear hF
 refine wq hS hG hK (fun p4=>[.v 38 (.pointer (some ⟨p,0,none⟩)),.v 39 (.pointer (some ⟨p,0,none⟩)),.v 40 (.pointer (some ⟨p,0,none⟩)),.v 41 (pT (p1 0).N 0),.l 42 (.agg #[.slice a1 n1 c1]) 1 0,.v 43 (.int .i64 (lift:Int)),.c (some 44) (cO W3.heap.size t1),.v 45 (.agg #[.slice (p4 6).A (p4 6).N (p4 6).C]),.v 46 (.int .i64 0),.u 47 (.agg #[.slice (p4 6).A (p4 6).N (p4 6).C]) (aG 1),.n 8 #[.slice none 0 0] 26,.p 1010 0 [.slice (p4 6).A (p4 6).N (p4 6).C]]) (fun p4=>[(1,.pointer (some ⟨p,0,none⟩)),(2,pT (p1 0).N 0),(4,pT (p1 1).N 0),(5,.int .i64 0),(6,.int .i64 (i3:Int)),(7,.int .i64 (lift:Int)),(8,pT (p4 10).N 0)]) (fun p4=>?_) (fun p4 W4 T hF hK=>?_)
 ·iterate 4 refine okv ?_
  refine okl ?_
  refine okv ?_
  refine okc (fun W cx=>as_o cx.hb (unhide HU1 _ _ _ c1 (cx.G.1))) ?_
  iterate 2 refine okv ?_
  refine oku (fun W cx=>runNat_0 p 0 _ _ _ _ ⟨_,_,cx.B 0 _ rfl (by kernel_rfl) (by kernel_rfl),hp0⟩) ?_
  refine okn ?_
  refine okp ?_
  exact ok_nil
 replace hS:=SymF.fc hS hF [0,1,2,1010] [⟨p,cs9,t9_,false⟩,⟨(p1 0).N,#[.slice a1 n1 c1,.slice a2 n2 c2,.slice a3 n3 c3,.slice a4 n4 c4,.int .i64 z],141,true⟩,⟨(p1 1).N,#[.slice none 0 0],26,true⟩,⟨(p4 10).N,#[.slice (p4 6).A (p4 6).N (p4 6).C],26,true⟩]
 replace hG:GsAt (gM W3.heap.size (p4 6).A (p4 6).N (p4 6).C t1 :: _) W4:=⟨hF.fx 6,hF.gx⟩
 clear hF
 refine wq hS hG hK (fun p5=>[.v 48 (.pointer (some ⟨p,0,none⟩)),.v 49 (.pointer (some ⟨p,0,none⟩)),.v 50 (.pointer (some ⟨p,0,none⟩)),.l 51 (.agg #[.slice (p4 6).A (p4 6).N (p4 6).C]) 3 0,.c (some 52) (cV (.tuple #[.int .i64 (i5:Int),.int .i64 0])),.v 53 (.int .i64 (i5:Int)),.v 54 (.int .i64 0),.u 55 (.int .i64 (i5:Int)) (aG 1),.v 56 (.pointer (some ⟨p,0,none⟩)),.v 57 (.pointer (some ⟨p,0,none⟩)),.v 58 (.pointer (some ⟨p,0,none⟩)),.v 59 (pT (p1 0).N 1),.l 60 (.agg #[.slice a2 n2 c2]) 1 1,.c (some 61) (cV (.tuple #[.int .i64 (i2:Int),.int .i64 0])),.v 62 (.int .i64 (i2:Int)),.v 63 (.int .i64 0),.u 64 (.int .i64 (i2:Int)) (aG 1),.v 65 (.int .i64 ((i5:Int)+(i2:Int))),.v 66 (.int .i64 ((i5:Int)+(i2:Int) - 1)),.v 67 (.int .i64 (i3:Int)),.v 68 (.int .i64 th),.v 9 (.int .i64 th)]) (fun p5=>[(1,.pointer (some ⟨p,0,none⟩)),(2,pT (p1 0).N 0),(4,pT (p1 1).N 0),(5,.int .i64 0),(7,.int .i64 (lift:Int)),(8,pT (p4 10).N 0),(9,.int .i64 th)]) (fun p5=>?_) (fun p5 W5 T hF hK=>?_)
 ·iterate 3 refine okv ?_
  refine okl ?_
  refine okc (fun W cx=>as_v (unhide HB5 _ _ _ (p4 6).C (Mine.num cx.G.1))) ?_
  iterate 2 refine okv ?_
  refine oku (fun W cx=>runInt_0 p 0 _ _ ⟨_,_,cx.B 0 _ rfl (by kernel_rfl) (by kernel_rfl),hp0⟩) ?_
  iterate 4 refine okv ?_
  refine okl ?_
  refine okc (fun W cx=>as_v (unhide HB2 _ _ _ c2 (cx.G.2.2.1))) ?_
  iterate 2 refine okv ?_
  refine oku (fun W cx=>runInt_0 p 0 _ _ ⟨_,_,cx.B 0 _ rfl (by kernel_rfl) (by kernel_rfl),hp0⟩) ?_
  refine okvi (wr64 (x:=(i5:Int)+(i2:Int)) (by omega) (by omega)) ?_
  refine okvi (wr64 (x:=(i5:Int)+(i2:Int) - 1) (by omega) (by omega)) ?_
  refine okv ?_
  refine okvi ((wr64 (x:=(i5:Int)+(i2:Int) - 1 - (i3:Int)) (by omega) (by omega)).trans hth) ?_
  refine okv ?_
  exact ok_nil
 obtain ⟨hS,hG⟩:=SymF.fg hS hF
 clear hF
 refine wq hS hG hK (fun p6=>[.v 69 (.pointer (some ⟨p,0,none⟩)),.v 70 (.pointer (some ⟨p,0,none⟩)),.v 71 (.pointer (some ⟨p,0,none⟩)),.v 72 (pT (p1 0).N 3),.l 73 (.agg #[.slice a4 n4 c4]) 1 3,.c (some 74) (cV (.tuple #[.int .i64 (i4:Int),.int .i64 0])),.v 75 (.int .i64 (i4:Int)),.v 76 (.int .i64 0),.u 77 (.int .i64 (i4:Int)) (aG 1),.v 78 (.int .i64 (64+(i4:Int))),.v 79 (.int .i64 th),.v 80 (.int .i64 (64+(i4:Int) - th)),.v 81 (.int .i64 (more:Int)),.v 10 (.int .i64 (more:Int))]) (fun p6=>[(1,.pointer (some ⟨p,0,none⟩)),(2,pT (p1 0).N 0),(4,pT (p1 1).N 0),(5,.int .i64 0),(7,.int .i64 (lift:Int)),(8,pT (p4 10).N 0),(10,.int .i64 (more:Int))]) (fun p6=>?_) (fun p6 W6 T hF hK=>?_)
 ·iterate 4 refine okv ?_
  refine okl ?_
  refine okc (fun W cx=>as_v (unhide HB4 _ _ _ c4 (cx.G.2.2.2.2.1))) ?_
  iterate 2 refine okv ?_
  refine oku (fun W cx=>runInt_0 p 0 _ _ ⟨_,_,cx.B 0 _ rfl (by kernel_rfl) (by kernel_rfl),hp0⟩) ?_
  refine okvi (wr64 (x:=64+(i4:Int)) (by omega) (by omega)) ?_
  refine okv ?_
  refine okvi (wr64 (x:=64+(i4:Int) - th) (by omega) (by omega)) ?_
  refine okvi ((imax _ _).trans hm) ?_
  refine okv ?_
  exact ok_nil
 obtain ⟨hS,hG⟩:=SymF.fg hS hF
 clear hF
 refine wq hS hG hK (fun p7=>[.v 82 (.pointer (some ⟨p,0,none⟩)),.v 83 (.pointer (some ⟨p,0,none⟩)),.v 84 (.pointer (some ⟨p,0,none⟩)),.v 85 (pT (p1 0).N 1),.l 86 (.agg #[.slice a2 n2 c2]) 1 1,.v 87 (.int .i64 (more:Int)),.c (some 88) (cO W6.heap.size t2),.v 89 (.agg #[.slice (p7 6).A (p7 6).N (p7 6).C]),.v 90 (.int .i64 0),.u 91 (.agg #[.slice (p7 6).A (p7 6).N (p7 6).C]) (aG 1),.n 11 #[.slice none 0 0] 26,.p 1010 0 [.slice (p7 6).A (p7 6).N (p7 6).C]]) (fun p7=>[(1,.pointer (some ⟨p,0,none⟩)),(2,pT (p1 0).N 0),(4,pT (p1 1).N 0),(5,.int .i64 0),(7,.int .i64 (lift:Int)),(8,pT (p4 10).N 0),(10,.int .i64 (more:Int)),(11,pT (p7 10).N 0)]) (fun p7=>?_) (fun p7 W7 T hF hK=>?_)
 ·iterate 4 refine okv ?_
  refine okl ?_
  refine okv ?_
  refine okc (fun W cx=>as_o cx.hb (unhide HU2 _ _ _ c2 (cx.G.2.2.1))) ?_
  iterate 2 refine okv ?_
  refine oku (fun W cx=>runNat_0 p 0 _ _ _ _ ⟨_,_,cx.B 0 _ rfl (by kernel_rfl) (by kernel_rfl),hp0⟩) ?_
  refine okn ?_
  refine okp ?_
  exact ok_nil
 replace hS:=SymF.fc hS hF [0,1,2,3,1010] [⟨p,cs9,t9_,false⟩,⟨(p1 0).N,#[.slice a1 n1 c1,.slice a2 n2 c2,.slice a3 n3 c3,.slice a4 n4 c4,.int .i64 z],141,true⟩,⟨(p1 1).N,#[.slice none 0 0],26,true⟩,⟨(p4 10).N,#[.slice (p4 6).A (p4 6).N (p4 6).C],26,true⟩,⟨(p7 10).N,#[.slice (p7 6).A (p7 6).N (p7 6).C],26,true⟩]
 replace hG:GsAt (gM W6.heap.size (p7 6).A (p7 6).N (p7 6).C t2 :: _) W7:=⟨hF.fx 6,hF.gx⟩
 clear hF
 refine wq hS hG hK (fun p8=>[.v 93 (.pointer (some ⟨p,0,none⟩)),.v 94 (.pointer (some ⟨p,0,none⟩)),.v 95 (.pointer (some ⟨p,0,none⟩)),.l 96 (.agg #[.slice (p4 6).A (p4 6).N (p4 6).C]) 3 0,.v 97 (pT (p1 0).N 2),.l 98 (.agg #[.slice a3 n3 c3]) 1 2,.c (some 99) (cD W7.heap.size t3 t4),.v 100 (.agg #[.slice (p8 6).A (p8 6).N (p8 6).C]),.v 101 (.agg #[.slice (p8 6).A' (p8 6).N' (p8 6).C']),.v 102 (.int .i64 0),.u 103 (.tuple #[.agg #[.slice (p8 6).A (p8 6).N (p8 6).C],.agg #[.slice (p8 6).A' (p8 6).N' (p8 6).C']]) (aH 1 2),.v 92 (.tuple #[.agg #[.slice (p8 6).A (p8 6).N (p8 6).C],.agg #[.slice (p8 6).A' (p8 6).N' (p8 6).C']]),.v 104 (.agg #[.slice (p8 6).A (p8 6).N (p8 6).C]),.v 105 (.agg #[.slice (p8 6).A' (p8 6).N' (p8 6).C']),.n 12 #[.slice none 0 0] 26,.n 13 #[.slice none 0 0] 26,.p 1014 0 [.slice (p8 6).A (p8 6).N (p8 6).C],.p 1015 0 [.slice (p8 6).A' (p8 6).N' (p8 6).C']]) (fun p8=>[(1,.pointer (some ⟨p,0,none⟩)),(2,pT (p1 0).N 0),(4,pT (p1 1).N 0),(5,.int .i64 0),(7,.int .i64 (lift:Int)),(10,.int .i64 (more:Int)),(11,pT (p7 10).N 0),(12,pT (p8 14).N 0),(13,pT (p8 15).N 0)]) (fun p8=>?_) (fun p8 W8 T hF hK=>?_)
 ·iterate 3 refine okv ?_
  refine okl ?_
  refine okv ?_
  refine okl ?_
  refine okc (fun W cx=>as_d cx.hb (unhide HV1 _ _ _ (p4 6).C _ _ c3 (Mine.num cx.G.2.1) (cx.G.2.2.2.2.1))) ?_
  iterate 3 refine okv ?_
  refine oku (fun W cx=>runNats_0 p 0 _ _ _ _ _ _ _ ⟨_,_,cx.B 0 _ rfl (by kernel_rfl) (by kernel_rfl),hp0⟩) ?_
  iterate 3 refine okv ?_
  iterate 2 refine okn ?_
  iterate 2 refine okp ?_
  exact ok_nil
 replace hS:=SymF.fc hS hF [0,1,2,4,1014,1015] [⟨p,cs9,t9_,false⟩,⟨(p1 0).N,#[.slice a1 n1 c1,.slice a2 n2 c2,.slice a3 n3 c3,.slice a4 n4 c4,.int .i64 z],141,true⟩,⟨(p1 1).N,#[.slice none 0 0],26,true⟩,⟨(p7 10).N,#[.slice (p7 6).A (p7 6).N (p7 6).C],26,true⟩,⟨(p8 14).N,#[.slice (p8 6).A (p8 6).N (p8 6).C],26,true⟩,⟨(p8 15).N,#[.slice (p8 6).A' (p8 6).N' (p8 6).C'],26,true⟩]
 replace hG:GsAt (gM W7.heap.size (p8 6).A (p8 6).N (p8 6).C t3 :: gM W7.heap.size (p8 6).A' (p8 6).N' (p8 6).C' t4 :: _) W8:=⟨And.left (hF.fx 6),And.right (hF.fx 6),hF.gx⟩
 clear hF
 refine wq hS hG hK (fun p9=>[.v 107 (.pointer (some ⟨p,0,none⟩)),.l 108 (.agg #[.slice (p8 6).A' (p8 6).N' (p8 6).C']) 5 0,.l 109 (.agg #[.slice (p7 6).A (p7 6).N (p7 6).C]) 3 0,.v 110 (pT (p1 0).N 2),.l 111 (.agg #[.slice a3 n3 c3]) 1 2,.c (some 112) (cS W8.heap.size t5 go),.v 106 (.tuple #[.agg #[.slice (p9 5).A (p9 5).N (p9 5).C],.bool go]),.v 113 (.agg #[.slice (p9 5).A (p9 5).N (p9 5).C]),.v 114 (.bool go),.n 14 #[.slice none 0 0] 26,.p 1009 0 [.slice (p9 5).A (p9 5).N (p9 5).C],.v 15 (.bool go)]) (fun p9=>[(1,.pointer (some ⟨p,0,none⟩)),(2,pT (p1 0).N 0),(4,pT (p1 1).N 0),(5,.int .i64 0),(7,.int .i64 (lift:Int)),(10,.int .i64 (more:Int)),(11,pT (p7 10).N 0),(12,pT (p8 14).N 0),(13,pT (p8 15).N 0),(14,pT (p9 9).N 0),(15,.bool go)]) (fun p9=>?_) (fun p9 W9 T hF hK=>?_)
 ·refine okv ?_
  iterate 2 refine okl ?_
  refine okv ?_
  refine okl ?_
  refine okc (fun W cx=>as_s cx.hb (unhide HS _ _ _ (p8 6).C' _ _ (p7 6).C _ _ c3 ⟨_,_,cx.B 0 _ rfl (by kernel_rfl) (by kernel_rfl),hp0⟩ (Mine.num cx.G.2.1) (Mine.num cx.G.2.2.1) (cx.G.2.2.2.2.2.2.1))) ?_
  iterate 3 refine okv ?_
  refine okn ?_
  refine okp ?_
  refine okv ?_
  exact ok_nil
 replace hS:=SymF.fc hS hF [0,1,2,3,4,5,1009] [⟨p,cs9,t9_,false⟩,⟨(p1 0).N,#[.slice a1 n1 c1,.slice a2 n2 c2,.slice a3 n3 c3,.slice a4 n4 c4,.int .i64 z],141,true⟩,⟨(p1 1).N,#[.slice none 0 0],26,true⟩,⟨(p7 10).N,#[.slice (p7 6).A (p7 6).N (p7 6).C],26,true⟩,⟨(p8 14).N,#[.slice (p8 6).A (p8 6).N (p8 6).C],26,true⟩,⟨(p8 15).N,#[.slice (p8 6).A' (p8 6).N' (p8 6).C'],26,true⟩,⟨(p9 9).N,#[.slice (p9 5).A (p9 5).N (p9 5).C],26,true⟩]
 replace hG:GsAt (gM W8.heap.size (p9 5).A (p9 5).N (p9 5).C t5 :: _) W9:=⟨hF.fx 5,hF.gx⟩
 clear hF
 refine wq hS hG hK (fun p10=>[.v 115 (.pointer (some ⟨p,0,none⟩)),.v 116 (.pointer (some ⟨p,0,none⟩)),.v 117 (.pointer (some ⟨p,0,none⟩)),.v 118 (.pointer (some ⟨p,0,none⟩)),.v 119 (.pointer (some ⟨p,0,none⟩)),.v 120 (.pointer (some ⟨p,0,none⟩)),.l 121 (.agg #[.slice (p8 6).A (p8 6).N (p8 6).C]) 4 0,.l 122 (.agg #[.slice (p7 6).A (p7 6).N (p7 6).C]) 3 0,.c (some 123) (cO W9.heap.size t6),.v 124 (.agg #[.slice (p10 8).A (p10 8).N (p10 8).C]),.v 125 (.int .i64 0),.u 126 (.agg #[.slice (p10 8).A (p10 8).N (p10 8).C]) (aG 1),.l 127 (.agg #[.slice (p9 5).A (p9 5).N (p9 5).C]) 6 0,.c (some 128) (cO W9.heap.size t7),.v 129 (.agg #[.slice (p10 13).A (p10 13).N (p10 13).C]),.v 130 (.int .i64 0),.u 131 (.agg #[.slice (p10 13).A (p10 13).N (p10 13).C]) (aG 1),.n 16 #[.slice none 0 0] 26,.p 1017 0 [.slice (p10 13).A (p10 13).N (p10 13).C]]) (fun p10=>[(1,.pointer (some ⟨p,0,none⟩)),(2,pT (p1 0).N 0),(4,pT (p1 1).N 0),(5,.int .i64 0),(7,.int .i64 (lift:Int)),(10,.int .i64 (more:Int)),(13,pT (p8 15).N 0),(15,.bool go),(16,pT (p10 17).N 0)]) (fun p10=>?_) (fun p10 W10 T hF hK=>?_)
 ·iterate 6 refine okv ?_
  iterate 2 refine okl ?_
  refine okc (fun W cx=>as_o cx.hb (unhide HM _ _ _ (p8 6).C _ _ (p7 6).C (Mine.num cx.G.2.1) (Mine.num cx.G.2.2.2.1))) ?_
  iterate 2 refine okv ?_
  refine oku (fun W cx=>runNat_0 p 0 _ _ _ _ ⟨_,_,cx.B 0 _ rfl (by kernel_rfl) (by kernel_rfl),hp0⟩) ?_
  refine okl ?_
  refine okc (fun W cx=>as_o cx.hb (unhide HA1 _ _ _ (p10 8).C _ _ (p9 5).C (Mine.num (cx.F 8 (by kernel_rfl))) (Mine.num cx.G.1))) ?_
  iterate 2 refine okv ?_
  refine oku (fun W cx=>runNat_0 p 0 _ _ _ _ ⟨_,_,cx.B 0 _ rfl (by kernel_rfl) (by kernel_rfl),hp0⟩) ?_
  refine okn ?_
  refine okp ?_
  exact ok_nil
 replace hS:=SymF.fc hS hF [0,1,2,5,1017] [⟨p,cs9,t9_,false⟩,⟨(p1 0).N,#[.slice a1 n1 c1,.slice a2 n2 c2,.slice a3 n3 c3,.slice a4 n4 c4,.int .i64 z],141,true⟩,⟨(p1 1).N,#[.slice none 0 0],26,true⟩,⟨(p8 15).N,#[.slice (p8 6).A' (p8 6).N' (p8 6).C'],26,true⟩,⟨(p10 17).N,#[.slice (p10 13).A (p10 13).N (p10 13).C],26,true⟩]
 replace hG:GsAt (gM W9.heap.size (p10 8).A (p10 8).N (p10 8).C t6 :: gM W9.heap.size (p10 13).A (p10 13).N (p10 13).C t7 :: _) W10:=⟨hF.fx 8,hF.fx 13,hF.gx⟩
 clear hF
 refine wq hS hG hK (fun p11=>[.v 133 (.pointer (some ⟨p,0,none⟩)),.v 134 (.pointer (some ⟨p,0,none⟩)),.v 135 (.pointer (some ⟨p,0,none⟩)),.l 136 (.agg #[.slice (p10 13).A (p10 13).N (p10 13).C]) 4 0,.v 137 (pT (p1 0).N 3),.l 138 (.agg #[.slice a4 n4 c4]) 1 3,.c (some 139) (cD W10.heap.size t8 t9),.v 140 (.agg #[.slice (p11 6).A (p11 6).N (p11 6).C]),.v 141 (.agg #[.slice (p11 6).A' (p11 6).N' (p11 6).C']),.v 142 (.int .i64 0),.u 143 (.tuple #[.agg #[.slice (p11 6).A (p11 6).N (p11 6).C],.agg #[.slice (p11 6).A' (p11 6).N' (p11 6).C']]) (aH 1 2),.v 132 (.tuple #[.agg #[.slice (p11 6).A (p11 6).N (p11 6).C],.agg #[.slice (p11 6).A' (p11 6).N' (p11 6).C']]),.v 144 (.agg #[.slice (p11 6).A (p11 6).N (p11 6).C]),.v 145 (.agg #[.slice (p11 6).A' (p11 6).N' (p11 6).C']),.p 2 0 [.slice (p11 6).A (p11 6).N (p11 6).C],.p 3 0 [.slice (p11 6).A' (p11 6).N' (p11 6).C']]) (fun p11=>[(1,.pointer (some ⟨p,0,none⟩)),(2,pT (p1 0).N 0),(4,pT (p1 1).N 0),(5,.int .i64 0),(7,.int .i64 (lift:Int)),(10,.int .i64 (more:Int)),(13,pT (p8 15).N 0),(15,.bool go)]) (fun p11=>?_) (fun p11 W11 T hF hK=>?_)
 ·iterate 3 refine okv ?_
  refine okl ?_
  refine okv ?_
  refine okl ?_
  refine okc (fun W cx=>as_d cx.hb (unhide HV2 _ _ _ (p10 13).C _ _ c4 (Mine.num cx.G.2.1) (cx.G.2.2.2.2.2.2.2.2.2.2.1))) ?_
  iterate 3 refine okv ?_
  refine oku (fun W cx=>runNats_0 p 0 _ _ _ _ _ _ _ ⟨_,_,cx.B 0 _ rfl (by kernel_rfl) (by kernel_rfl),hp0⟩) ?_
  iterate 3 refine okv ?_
  iterate 2 refine okp ?_
  exact ok_nil
 replace hS:=SymF.fc hS hF [0,1,2,3] [⟨p,cs9,t9_,false⟩,⟨(p1 0).N,#[.slice a1 n1 c1,.slice a2 n2 c2,.slice a3 n3 c3,.slice a4 n4 c4,.int .i64 z],141,true⟩,⟨(p1 1).N,#[.slice (p11 6).A (p11 6).N (p11 6).C],26,true⟩,⟨(p8 15).N,#[.slice (p11 6).A' (p11 6).N' (p11 6).C'],26,true⟩]
 replace hG:GsAt (gM W10.heap.size (p11 6).A (p11 6).N (p11 6).C t8 :: gM W10.heap.size (p11 6).A' (p11 6).N' (p11 6).C' t9 :: _) W11:=⟨And.left (hF.fx 6),And.right (hF.fx 6),hF.gx⟩
 clear hF
 have z11:=hS.fr.size
 refine wq hS hG hK (fun p12=>[.v 146 (.pointer (some ⟨p,0,none⟩)),.v 147 (.pointer (some ⟨p,0,none⟩)),.v 148 (.pointer (some ⟨p,0,none⟩)),.l 149 (.agg #[.slice (p11 6).A (p11 6).N (p11 6).C]) 2 0,.c (some 150) (cO W11.heap.size t10),.v 151 (.agg #[.slice (p12 4).A (p12 4).N (p12 4).C]),.v 152 (.int .i64 0),.u 153 (.agg #[.slice (p12 4).A (p12 4).N (p12 4).C]) (aG 1),.p 2 0 [.slice (p12 4).A (p12 4).N (p12 4).C]]) (fun p12=>[(1,.pointer (some ⟨p,0,none⟩)),(2,pT (p1 0).N 0),(4,pT (p1 1).N 0),(5,.int .i64 0),(7,.int .i64 (lift:Int)),(10,.int .i64 (more:Int)),(13,pT (p8 15).N 0),(15,.bool go)]) (fun p12=>?_) (fun p12 W12 T hF hK=>?_)
 ·iterate 3 refine okv ?_
  refine okl ?_
  refine okc (fun W cx=>as_o cx.hb (unhide HU3 _ _ _ (p11 6).C (Mine.num cx.G.1))) ?_
  iterate 2 refine okv ?_
  refine oku (fun W cx=>runNat_0 p 0 _ _ _ _ ⟨_,_,cx.B 0 _ rfl (by kernel_rfl) (by kernel_rfl),hp0⟩) ?_
  refine okp ?_
  exact ok_nil
 replace hS:=SymF.fc hS hF [0,1,2,3] [⟨p,cs9,t9_,false⟩,⟨(p1 0).N,#[.slice a1 n1 c1,.slice a2 n2 c2,.slice a3 n3 c3,.slice a4 n4 c4,.int .i64 z],141,true⟩,⟨(p1 1).N,#[.slice (p12 4).A (p12 4).N (p12 4).C],26,true⟩,⟨(p8 15).N,#[.slice (p11 6).A' (p11 6).N' (p11 6).C'],26,true⟩]
 replace hG:GsAt (gM W11.heap.size (p12 4).A (p12 4).N (p12 4).C t10 :: _) W12:=⟨hF.fx 4,hF.gx⟩
 clear hF
 rcases unhide hgo with ⟨hg,hv⟩|⟨hg,hr,hv⟩|⟨hg,hr,hv⟩ <;> subst hg
 ·refine wp_seq ?_
  refine wq hS hG hK (fun p13=>[.v 154 (.bool true),.v 155 (.bool true),.k (some 156),.k (some 157),.k (some 158),.v 159 (.bool true)]) (fun p13=>[(1,.pointer (some ⟨p,0,none⟩)),(2,pT (p1 0).N 0),(4,pT (p1 1).N 0),(5,.int .i64 0),(7,.int .i64 (lift:Int)),(10,.int .i64 (more:Int)),(159,.bool true)]) (fun p13=>?_) (fun p13 W13 T hF hK=>?_)
  ·iterate 2 refine okv ?_
   iterate 3 refine okk ?_
   refine okv ?_
   exact ok_nil
  replace hS:=SymF.fc hS hF [0,1,2] [⟨p,cs9,t9_,false⟩,⟨(p1 0).N,#[.slice a1 n1 c1,.slice a2 n2 c2,.slice a3 n3 c3,.slice a4 n4 c4,.int .i64 z],141,true⟩,⟨(p1 1).N,#[.slice (p12 4).A (p12 4).N (p12 4).C],26,true⟩]
  replace hG:=hF.gx
  clear hF
  have z13:=hS.fr.size
  refine wp_cond_true (hK.ew 159) ?_
  refine wg hS hG hK (fun p14=>[.v 160 (.pointer (some ⟨p,0,none⟩)),.v 161 (.pointer (some ⟨p,0,none⟩)),.v 162 (.pointer (some ⟨p,0,none⟩)),.l 163 (.agg #[.slice (p12 4).A (p12 4).N (p12 4).C]) 2 0,.c (some 164) (cN W13.heap.size 1),.c (some 165) (cO W13.heap.size t11),.v 166 (.agg #[.slice (p14 5).A (p14 5).N (p14 5).C]),.v 167 (.int .i64 0),.u 168 (.agg #[.slice (p14 5).A (p14 5).N (p14 5).C]) (aG 1),.p 2 0 [.slice (p14 5).A (p14 5).N (p14 5).C]]) (fun p14=>[(2,pT (p1 0).N 0),(4,pT (p1 1).N 0),(5,.int .i64 0),(7,.int .i64 (lift:Int)),(10,.int .i64 (more:Int)),(159,.bool true)]) (fun p14=>?_) (fun p14 W14 T hF hK=>?_)
  ·iterate 3 refine okv ?_
   refine okl ?_
   refine okc (fun W cx=>as_n cx.hb (of_any 1 _ (by decide))) ?_
   refine okc (fun W cx=>as_o cx.hb (unhide HA2 _ _ _ (p12 4).C _ _ (p14 4).C (Mine.num cx.G.1) (Mine.num (cx.F 4 (by kernel_rfl))))) ?_
   iterate 2 refine okv ?_
   refine oku (fun W cx=>runNat_0 p 0 _ _ _ _ ⟨_,_,cx.B 0 _ rfl (by kernel_rfl) (by kernel_rfl),hp0⟩) ?_
   refine okp ?_
   exact ok_nil
  replace hS:=SymF.fc hS hF [0,1,2] [⟨p,cs9,t9_,false⟩,⟨(p1 0).N,#[.slice a1 n1 c1,.slice a2 n2 c2,.slice a3 n3 c3,.slice a4 n4 c4,.int .i64 z],141,true⟩,⟨(p1 1).N,#[.slice (p14 5).A (p14 5).N (p14 5).C],26,true⟩]
  replace hG:GsAt (gM W13.heap.size (p14 4).A (p14 4).N (p14 4).C 1 :: gM W13.heap.size (p14 5).A (p14 5).N (p14 5).C t11 :: _) W14:=⟨hF.fx 4,hF.fx 5,hF.gx⟩
  clear hF
  have z14:=hS.fr.size
  refine then_n ?_
  refine wq hS hG hK (fun p15=>[.l 169 (.agg #[.slice (p14 5).A (p14 5).N (p14 5).C]) 2 0,.v 170 (pT (p1 0).N 4),.l 171 (.int .i64 z) 1 4,.v 172 (.int .i64 (lift:Int)),.v 173 (.int .i64 (z - (lift:Int))),.v 174 (.int .i64 (more:Int)),.v 175 (.int .i64 (z - (lift:Int) - (more:Int))),.v 176 (.int .i64 (z - (lift:Int) - (more:Int) - 1)),.p 2 0 [.slice (p14 5).A (p14 5).N (p14 5).C],.v 5 (.int .i64 (z - (lift:Int) - (more:Int) - 1))]) (fun p15=>[(4,pT (p1 1).N 0),(5,.int .i64 (z - (lift:Int) - (more:Int) - 1)),(159,.bool true)]) (fun p15=>?_) (fun p15 W15 T hF hK=>?_)
  ·refine okl ?_
   refine okv ?_
   refine okl ?_
   refine okv ?_
   refine okvi (wr64 (x:=z - (lift:Int)) (by omega) (by omega)) ?_
   refine okv ?_
   refine okvi (wr64 (x:=z - (lift:Int) - (more:Int)) (by omega) (by omega)) ?_
   refine okvi (wr64 (x:=z - (lift:Int) - (more:Int) - 1) (by omega) (by omega)) ?_
   refine okp ?_
   refine okv ?_
   exact ok_nil
  replace hS:=SymF.fc hS hF [0,2] [⟨p,cs9,t9_,false⟩,⟨(p1 1).N,#[.slice (p14 5).A (p14 5).N (p14 5).C],26,true⟩]
  replace hG:=hF.gx
  clear hF
  have z15:=hS.fr.size
  refine wp_ret ?_
  exact sym_end hS hK (.tuple #[.agg #[.slice (p14 5).A (p14 5).N (p14 5).C],.int .i64 (z - (lift:Int) - (more:Int) - 1)]) [(1,0,1)] [.slice (p14 5).A (p14 5).N (p14 5).C] (by kernel_rfl) (by kernel_rfl) ⟨⟨_,_,_,rfl,by rw [hv]; exact Mine.mono hG.2.1 z13⟩,hS.fr⟩
 ·refine wp_seq ?_
  refine wq hS hG hK (fun p13=>[.v 154 (.bool false),.v 155 (.bool false),.l 156 (.agg #[.slice (p11 6).A' (p11 6).N' (p11 6).C']) 3 0,.c (some 157) (cV (.bool false)),.v 158 (.bool true),.v 159 (.bool true)]) (fun p13=>[(1,.pointer (some ⟨p,0,none⟩)),(2,pT (p1 0).N 0),(4,pT (p1 1).N 0),(5,.int .i64 0),(7,.int .i64 (lift:Int)),(10,.int .i64 (more:Int)),(159,.bool true)]) (fun p13=>?_) (fun p13 W13 T hF hK=>?_)
  ·iterate 2 refine okv ?_
   refine okl ?_
   refine okc (fun W cx=>as_v (snought (p11 6).A' _ (p11 6).C' _ _ (Num.noz (Mine.num cx.G.2.2.1) hr))) ?_
   iterate 2 refine okv ?_
   exact ok_nil
  replace hS:=SymF.fc hS hF [0,1,2] [⟨p,cs9,t9_,false⟩,⟨(p1 0).N,#[.slice a1 n1 c1,.slice a2 n2 c2,.slice a3 n3 c3,.slice a4 n4 c4,.int .i64 z],141,true⟩,⟨(p1 1).N,#[.slice (p12 4).A (p12 4).N (p12 4).C],26,true⟩]
  replace hG:=hF.gx
  clear hF
  have z13:=hS.fr.size
  refine wp_cond_true (hK.ew 159) ?_
  refine wg hS hG hK (fun p14=>[.v 160 (.pointer (some ⟨p,0,none⟩)),.v 161 (.pointer (some ⟨p,0,none⟩)),.v 162 (.pointer (some ⟨p,0,none⟩)),.l 163 (.agg #[.slice (p12 4).A (p12 4).N (p12 4).C]) 2 0,.c (some 164) (cN W13.heap.size 1),.c (some 165) (cO W13.heap.size t11),.v 166 (.agg #[.slice (p14 5).A (p14 5).N (p14 5).C]),.v 167 (.int .i64 0),.u 168 (.agg #[.slice (p14 5).A (p14 5).N (p14 5).C]) (aG 1),.p 2 0 [.slice (p14 5).A (p14 5).N (p14 5).C]]) (fun p14=>[(2,pT (p1 0).N 0),(4,pT (p1 1).N 0),(5,.int .i64 0),(7,.int .i64 (lift:Int)),(10,.int .i64 (more:Int)),(159,.bool true)]) (fun p14=>?_) (fun p14 W14 T hF hK=>?_)
  ·iterate 3 refine okv ?_
   refine okl ?_
   refine okc (fun W cx=>as_n cx.hb (of_any 1 _ (by decide))) ?_
   refine okc (fun W cx=>as_o cx.hb (unhide HA2 _ _ _ (p12 4).C _ _ (p14 4).C (Mine.num cx.G.1) (Mine.num (cx.F 4 (by kernel_rfl))))) ?_
   iterate 2 refine okv ?_
   refine oku (fun W cx=>runNat_0 p 0 _ _ _ _ ⟨_,_,cx.B 0 _ rfl (by kernel_rfl) (by kernel_rfl),hp0⟩) ?_
   refine okp ?_
   exact ok_nil
  replace hS:=SymF.fc hS hF [0,1,2] [⟨p,cs9,t9_,false⟩,⟨(p1 0).N,#[.slice a1 n1 c1,.slice a2 n2 c2,.slice a3 n3 c3,.slice a4 n4 c4,.int .i64 z],141,true⟩,⟨(p1 1).N,#[.slice (p14 5).A (p14 5).N (p14 5).C],26,true⟩]
  replace hG:GsAt (gM W13.heap.size (p14 4).A (p14 4).N (p14 4).C 1 :: gM W13.heap.size (p14 5).A (p14 5).N (p14 5).C t11 :: _) W14:=⟨hF.fx 4,hF.fx 5,hF.gx⟩
  clear hF
  have z14:=hS.fr.size
  refine then_n ?_
  refine wq hS hG hK (fun p15=>[.l 169 (.agg #[.slice (p14 5).A (p14 5).N (p14 5).C]) 2 0,.v 170 (pT (p1 0).N 4),.l 171 (.int .i64 z) 1 4,.v 172 (.int .i64 (lift:Int)),.v 173 (.int .i64 (z - (lift:Int))),.v 174 (.int .i64 (more:Int)),.v 175 (.int .i64 (z - (lift:Int) - (more:Int))),.v 176 (.int .i64 (z - (lift:Int) - (more:Int) - 1)),.p 2 0 [.slice (p14 5).A (p14 5).N (p14 5).C],.v 5 (.int .i64 (z - (lift:Int) - (more:Int) - 1))]) (fun p15=>[(4,pT (p1 1).N 0),(5,.int .i64 (z - (lift:Int) - (more:Int) - 1)),(159,.bool true)]) (fun p15=>?_) (fun p15 W15 T hF hK=>?_)
  ·refine okl ?_
   refine okv ?_
   refine okl ?_
   refine okv ?_
   refine okvi (wr64 (x:=z - (lift:Int)) (by omega) (by omega)) ?_
   refine okv ?_
   refine okvi (wr64 (x:=z - (lift:Int) - (more:Int)) (by omega) (by omega)) ?_
   refine okvi (wr64 (x:=z - (lift:Int) - (more:Int) - 1) (by omega) (by omega)) ?_
   refine okp ?_
   refine okv ?_
   exact ok_nil
  replace hS:=SymF.fc hS hF [0,2] [⟨p,cs9,t9_,false⟩,⟨(p1 1).N,#[.slice (p14 5).A (p14 5).N (p14 5).C],26,true⟩]
  replace hG:=hF.gx
  clear hF
  have z15:=hS.fr.size
  refine wp_ret ?_
  exact sym_end hS hK (.tuple #[.agg #[.slice (p14 5).A (p14 5).N (p14 5).C],.int .i64 (z - (lift:Int) - (more:Int) - 1)]) [(1,0,1)] [.slice (p14 5).A (p14 5).N (p14 5).C] (by kernel_rfl) (by kernel_rfl) ⟨⟨_,_,_,rfl,by rw [hv]; exact Mine.mono hG.2.1 z13⟩,hS.fr⟩
 ·refine wp_seq ?_
  refine wq hS hG hK (fun p13=>[.v 154 (.bool false),.v 155 (.bool false),.l 156 (.agg #[.slice (p11 6).A' (p11 6).N' (p11 6).C']) 3 0,.c (some 157) (cV (.bool true)),.v 158 (.bool false),.v 159 (.bool false)]) (fun p13=>[(1,.pointer (some ⟨p,0,none⟩)),(2,pT (p1 0).N 0),(4,pT (p1 1).N 0),(5,.int .i64 0),(7,.int .i64 (lift:Int)),(10,.int .i64 (more:Int)),(159,.bool false)]) (fun p13=>?_) (fun p13 W13 T hF hK=>?_)
  ·iterate 2 refine okv ?_
   refine okl ?_
   refine okc (fun W cx=>as_v (snought (p11 6).A' _ (p11 6).C' _ _ (Num.isz (Mine.num cx.G.2.2.1) hr))) ?_
   iterate 2 refine okv ?_
   exact ok_nil
  replace hS:=SymF.fc hS hF [0,1,2] [⟨p,cs9,t9_,false⟩,⟨(p1 0).N,#[.slice a1 n1 c1,.slice a2 n2 c2,.slice a3 n3 c3,.slice a4 n4 c4,.int .i64 z],141,true⟩,⟨(p1 1).N,#[.slice (p12 4).A (p12 4).N (p12 4).C],26,true⟩]
  replace hG:=hF.gx
  clear hF
  have z13:=hS.fr.size
  refine wp_cond_false (hK.ew 159) (wp_skip (then_n ?_))
  refine wq hS hG hK (fun p14=>[.l 169 (.agg #[.slice (p12 4).A (p12 4).N (p12 4).C]) 2 0,.v 170 (pT (p1 0).N 4),.l 171 (.int .i64 z) 1 4,.v 172 (.int .i64 (lift:Int)),.v 173 (.int .i64 (z - (lift:Int))),.v 174 (.int .i64 (more:Int)),.v 175 (.int .i64 (z - (lift:Int) - (more:Int))),.v 176 (.int .i64 (z - (lift:Int) - (more:Int) - 1)),.p 2 0 [.slice (p12 4).A (p12 4).N (p12 4).C],.v 5 (.int .i64 (z - (lift:Int) - (more:Int) - 1))]) (fun p14=>[(1,.pointer (some ⟨p,0,none⟩)),(4,pT (p1 1).N 0),(5,.int .i64 (z - (lift:Int) - (more:Int) - 1)),(159,.bool false)]) (fun p14=>?_) (fun p14 W14 T hF hK=>?_)
  ·refine okl ?_
   refine okv ?_
   refine okl ?_
   refine okv ?_
   refine okvi (wr64 (x:=z - (lift:Int)) (by omega) (by omega)) ?_
   refine okv ?_
   refine okvi (wr64 (x:=z - (lift:Int) - (more:Int)) (by omega) (by omega)) ?_
   refine okvi (wr64 (x:=z - (lift:Int) - (more:Int) - 1) (by omega) (by omega)) ?_
   refine okp ?_
   refine okv ?_
   exact ok_nil
  replace hS:=SymF.fc hS hF [0,2] [⟨p,cs9,t9_,false⟩,⟨(p1 1).N,#[.slice (p12 4).A (p12 4).N (p12 4).C],26,true⟩]
  replace hG:=hF.gx
  clear hF
  have z14:=hS.fr.size
  refine wp_ret ?_
  exact sym_end hS hK (.tuple #[.agg #[.slice (p12 4).A (p12 4).N (p12 4).C],.int .i64 (z - (lift:Int) - (more:Int) - 1)]) [(1,0,1)] [.slice (p12 4).A (p12 4).N (p12 4).C] (by kernel_rfl) (by kernel_rfl) ⟨⟨_,_,_,rfl,by rw [hv]; exact Mine.mono hG.1 z11⟩,hS.fr⟩
def HPow0:Prop:=∀ W:World,Calls Tryz.prog 120 #[.int .u32 5,.int .i64 0] W fun en W'=>(∃ a n c,en = .returned (.tuple #[.agg #[.slice a n c],.int .i64 0])∧Mine W' W.heap.size a n c 1)∧Below W.heap.size W W'
theorem Num.dec {w:World} {a:Option Addr} {n m:Nat} (h:Num w a n m):decide (n = 0) = decide (m = 0):=decide_eq_decide.2 h.zero
theorem sshare_is (w:World) (p:Nat) (a b d:Option Addr) (n c k l m e x y z v q r:Nat) (hk:Rn w p 0) (h1:Num w a n x) (h2:Num w b k y) (h3:Num w d m z) (HM:Hid (HTwo 102 x y v)) (HV:Hid (HDiv v z q r)) :
  Calls Tryz.prog 121 #[.pointer (some ⟨p,0,none⟩),.agg #[.slice a n c],.agg #[.slice b k l],.agg #[.slice d m e]] w fun en w'=>(∃ A N C,en = .returned (.tuple #[.agg #[.slice A N C],.bool (!decide (r = 0))])∧Mine w' w.heap.size A N C q)∧Below w.heap.size w w':=by
 obtain ⟨cs9,t9_,hp,hp0⟩:=hk
 refine calls_sym Tryz.func121 rfl (by kernel_rfl) fun T hK=>?_
 replace hK:Kn T _ [(0,.pointer (some ⟨p,0,none⟩)),(1,.agg #[.slice a n c]),(2,.agg #[.slice b k l]),(3,.agg #[.slice d m e])]:=hK
 have hS:=Fb.other hp
 have hG:GsAt [gN a n x,gN b k y,gN d m z] w:=⟨h1,h2,h3,trivial⟩
 refine wq hS hG hK (fun p1=>[.n 5 #[.slice a n c] 26,.n 6 #[.slice b k l] 26,.n 7 #[.slice d m e] 26,.n 8 #[.slice none 0 0] 26,.v 9 (.bool false)]) (fun p1=>[(0,.pointer (some ⟨p,0,none⟩)),(5,pT (p1 0).N 0),(6,pT (p1 1).N 0),(7,pT (p1 2).N 0),(8,pT (p1 3).N 0),(9,.bool false)]) (fun p1=>?_) (fun p1 W1 T hF hK=>?_)
 ·iterate 4 refine okn ?_
  refine okv ?_
  exact ok_nil
 replace hS:=SymF.fc hS hF [0,1000,1001,1002,1003] [⟨p,cs9,t9_,false⟩,⟨(p1 0).N,#[.slice a n c],26,true⟩,⟨(p1 1).N,#[.slice b k l],26,true⟩,⟨(p1 2).N,#[.slice d m e],26,true⟩,⟨(p1 3).N,#[.slice none 0 0],26,true⟩]
 replace hG:=hF.gx
 clear hF
 refine wq hS hG hK (fun p2=>[.l 15 (.agg #[.slice a n c]) 1 0,.l 16 (.agg #[.slice b k l]) 2 0,.c (some 17) (cO W1.heap.size v),.v 14 (.tuple #[.agg #[.slice (p2 2).A (p2 2).N (p2 2).C],.int .i64 0]),.v 18 (.agg #[.slice (p2 2).A (p2 2).N (p2 2).C]),.v 19 (.int .i64 0),.n 10 #[.slice none 0 0] 26,.p 1006 0 [.slice (p2 2).A (p2 2).N (p2 2).C],.v 11 (.int .i64 0)]) (fun p2=>[(0,.pointer (some ⟨p,0,none⟩)),(5,pT (p1 0).N 0),(6,pT (p1 1).N 0),(7,pT (p1 2).N 0),(8,pT (p1 3).N 0),(9,.bool false),(10,pT (p2 6).N 0),(11,.int .i64 0)]) (fun p2=>?_) (fun p2 W2 T hF hK=>?_)
 ·iterate 2 refine okl ?_
  refine okc (fun W cx=>as_o cx.hb (unhide HM _ _ _ c _ _ l (cx.G.1) (cx.G.2.1))) ?_
  iterate 3 refine okv ?_
  refine okn ?_
  refine okp ?_
  refine okv ?_
  exact ok_nil
 replace hS:=SymF.fc hS hF [0,1,2,3,4,1006] [⟨p,cs9,t9_,false⟩,⟨(p1 0).N,#[.slice a n c],26,true⟩,⟨(p1 1).N,#[.slice b k l],26,true⟩,⟨(p1 2).N,#[.slice d m e],26,true⟩,⟨(p1 3).N,#[.slice none 0 0],26,true⟩,⟨(p2 6).N,#[.slice (p2 2).A (p2 2).N (p2 2).C],26,true⟩]
 replace hG:GsAt (gM W1.heap.size (p2 2).A (p2 2).N (p2 2).C v :: _) W2:=⟨hF.fx 2,hF.gx⟩
 clear hF
 refine wp_seq ?_
 refine wq hS hG hK (fun p3=>[.v 20 (.int .i64 0),.v 21 (.bool false)]) (fun p3=>[(0,.pointer (some ⟨p,0,none⟩)),(5,pT (p1 0).N 0),(6,pT (p1 1).N 0),(7,pT (p1 2).N 0),(8,pT (p1 3).N 0),(9,.bool false),(10,pT (p2 6).N 0),(11,.int .i64 0),(21,.bool false)]) (fun p3=>?_) (fun p3 W3 T hF hK=>?_)
 ·iterate 2 refine okv ?_
  exact ok_nil
 obtain ⟨hS,hG⟩:=SymF.fg hS hF
 clear hF
 refine wp_cond_false (hK.ew 21) (wp_skip (then_n ?_))
 refine wq hS hG hK (fun p4=>[.v 29 (.pointer (some ⟨p,0,none⟩)),.v 30 (.pointer (some ⟨p,0,none⟩)),.v 31 (.pointer (some ⟨p,0,none⟩)),.v 32 (.int .i64 0),.c (some 33) (cV (.tuple #[]))]) (fun p4=>[(0,.pointer (some ⟨p,0,none⟩)),(5,pT (p1 0).N 0),(6,pT (p1 1).N 0),(7,pT (p1 2).N 0),(8,pT (p1 3).N 0),(9,.bool false),(10,pT (p2 6).N 0),(21,.bool false)]) (fun p4=>?_) (fun p4 W4 T hF hK=>?_)
 ·iterate 4 refine okv ?_
  refine okc (fun W cx=>as_v (keep_0 p 0 _ ⟨_,_,cx.B 0 _ rfl (by kernel_rfl) (by kernel_rfl),hp0⟩)) ?_
  exact ok_nil
 obtain ⟨hS,hG⟩:=SymF.fg hS hF
 clear hF
 have z4:=hS.fr.size
 refine wq hS hG hK (fun p5=>[.v 35 (.pointer (some ⟨p,0,none⟩)),.v 36 (.pointer (some ⟨p,0,none⟩)),.v 37 (.pointer (some ⟨p,0,none⟩)),.l 38 (.agg #[.slice (p2 2).A (p2 2).N (p2 2).C]) 5 0,.l 39 (.agg #[.slice d m e]) 3 0,.c (some 40) (cD W4.heap.size q r),.v 41 (.agg #[.slice (p5 5).A (p5 5).N (p5 5).C]),.v 42 (.agg #[.slice (p5 5).A' (p5 5).N' (p5 5).C']),.v 43 (.int .i64 0),.u 44 (.tuple #[.agg #[.slice (p5 5).A (p5 5).N (p5 5).C],.agg #[.slice (p5 5).A' (p5 5).N' (p5 5).C']]) (aH 1 2),.v 34 (.tuple #[.agg #[.slice (p5 5).A (p5 5).N (p5 5).C],.agg #[.slice (p5 5).A' (p5 5).N' (p5 5).C']]),.v 45 (.agg #[.slice (p5 5).A (p5 5).N (p5 5).C]),.v 46 (.agg #[.slice (p5 5).A' (p5 5).N' (p5 5).C']),.n 12 #[.slice none 0 0] 26,.n 13 #[.slice none 0 0] 26,.p 1013 0 [.slice (p5 5).A (p5 5).N (p5 5).C],.p 1014 0 [.slice (p5 5).A' (p5 5).N' (p5 5).C']]) (fun p5=>[(0,.pointer (some ⟨p,0,none⟩)),(5,pT (p1 0).N 0),(6,pT (p1 1).N 0),(7,pT (p1 2).N 0),(8,pT (p1 3).N 0),(9,.bool false),(12,pT (p5 13).N 0),(13,pT (p5 14).N 0),(21,.bool false)]) (fun p5=>?_) (fun p5 W5 T hF hK=>?_)
 ·iterate 3 refine okv ?_
  iterate 2 refine okl ?_
  refine okc (fun W cx=>as_d cx.hb (unhide HV _ _ _ (p2 2).C _ _ e (Mine.num cx.G.1) (cx.G.2.2.2.1))) ?_
  iterate 3 refine okv ?_
  refine oku (fun W cx=>runNats_0 p 0 _ _ _ _ _ _ _ ⟨_,_,cx.B 0 _ rfl (by kernel_rfl) (by kernel_rfl),hp0⟩) ?_
  iterate 3 refine okv ?_
  iterate 2 refine okn ?_
  iterate 2 refine okp ?_
  exact ok_nil
 replace hS:=SymF.fc hS hF [0,1,2,3,4,1013,1014] [⟨p,cs9,t9_,false⟩,⟨(p1 0).N,#[.slice a n c],26,true⟩,⟨(p1 1).N,#[.slice b k l],26,true⟩,⟨(p1 2).N,#[.slice d m e],26,true⟩,⟨(p1 3).N,#[.slice none 0 0],26,true⟩,⟨(p5 13).N,#[.slice (p5 5).A (p5 5).N (p5 5).C],26,true⟩,⟨(p5 14).N,#[.slice (p5 5).A' (p5 5).N' (p5 5).C'],26,true⟩]
 replace hG:GsAt (gM W4.heap.size (p5 5).A (p5 5).N (p5 5).C q :: gM W4.heap.size (p5 5).A' (p5 5).N' (p5 5).C' r :: _) W5:=⟨And.left (hF.fx 5),And.right (hF.fx 5),hF.gx⟩
 clear hF
 refine wq hS hG hK (fun p6=>[.l 47 (.agg #[.slice (p5 5).A (p5 5).N (p5 5).C]) 5 0,.l 48 (.agg #[.slice (p5 5).A' (p5 5).N' (p5 5).C']) 6 0,.c (some 49) (cV (.bool (decide (r = 0)))),.v 50 (.bool (!(decide (r = 0)))),.p 4 0 [.slice (p5 5).A (p5 5).N (p5 5).C],.v 9 (.bool (!(decide (r = 0))))]) (fun p6=>[(0,.pointer (some ⟨p,0,none⟩)),(5,pT (p1 0).N 0),(6,pT (p1 1).N 0),(7,pT (p1 2).N 0),(8,pT (p1 3).N 0),(9,.bool (!(decide (r = 0)))),(21,.bool false)]) (fun p6=>?_) (fun p6 W6 T hF hK=>?_)
 ·iterate 2 refine okl ?_
  refine okc (fun W cx=>as_v (snought (p5 5).A' _ (p5 5).C' _ _ (Num.dec (Mine.num cx.G.2.1)))) ?_
  refine okv ?_
  refine okp ?_
  refine okv ?_
  exact ok_nil
 replace hS:=SymF.fc hS hF [0,1,2,3,4] [⟨p,cs9,t9_,false⟩,⟨(p1 0).N,#[.slice a n c],26,true⟩,⟨(p1 1).N,#[.slice b k l],26,true⟩,⟨(p1 2).N,#[.slice d m e],26,true⟩,⟨(p1 3).N,#[.slice (p5 5).A (p5 5).N (p5 5).C],26,true⟩]
 replace hG:=hF.gx
 clear hF
 refine wp_ret ?_
 exact sym_end hS hK (.tuple #[.agg #[.slice (p5 5).A (p5 5).N (p5 5).C],.bool (!decide (r = 0))]) [(4,0,1)] [.slice (p5 5).A (p5 5).N (p5 5).C] (by kernel_rfl) (by kernel_rfl) ⟨⟨_,_,_,rfl,Mine.mono hG.1 z4⟩,hS.fr⟩
theorem ssize_is (w:World) (p:Nat) (s:Bool) (a b:Option Addr) (n c k l x y i j:Nat) (sz:Int) (hk:Rn w p 0) (h1:Num w a n x) (h2:Num w b k y) (hi:i≤524288) (hj:j≤524288) (hz:(i:Int) - (j:Int) = sz) (HB1:Hid (HBits x i)) (HB2:Hid (HBits y j)) :
  Calls Tryz.prog 81 #[.pointer (some ⟨p,0,none⟩),.agg #[.bool s,.slice a n c,.slice b k l],.int .i64 0] w fun en w'=>en = .returned (.int .i64 sz)∧Below w.heap.size w w':=by
 obtain ⟨cs9,t9_,hp,hp0⟩:=hk
 refine calls_sym Tryz.func81 rfl (by kernel_rfl) fun T hK=>?_
 replace hK:Kn T _ [(0,.pointer (some ⟨p,0,none⟩)),(1,.agg #[.bool s,.slice a n c,.slice b k l]),(2,.int .i64 0)]:=hK
 have hS:=Fb.other hp
 have hG:GsAt [gN a n x,gN b k y] w:=⟨h1,h2,trivial⟩
 refine wq hS hG hK (fun p1=>[.n 4 #[.bool s,.slice a n c,.slice b k l] 28,.v 6 (.int .i64 0)]) (fun p1=>[(0,.pointer (some ⟨p,0,none⟩)),(2,.int .i64 0),(4,pT (p1 0).N 0),(6,.int .i64 0)]) (fun p1=>?_) (fun p1 W1 T hF hK=>?_)
 ·refine okn ?_
  refine okv ?_
  exact ok_nil
 replace hS:=SymF.fc hS hF [0,1000] [⟨p,cs9,t9_,false⟩,⟨(p1 0).N,#[.bool s,.slice a n c,.slice b k l],28,true⟩]
 replace hG:=hF.gx
 clear hF
 refine wq hS hG hK (fun p2=>[.v 7 (.int .i64 0),.v 8 (.int .i64 0),.v 9 (.int .i64 0),.v 2 (.int .i64 0)]) (fun p2=>[(0,.pointer (some ⟨p,0,none⟩)),(2,.int .i64 0),(4,pT (p1 0).N 0),(6,.int .i64 0)]) (fun p2=>?_) (fun p2 W2 T hF hK=>?_)
 ·iterate 4 refine okv ?_
  exact ok_nil
 obtain ⟨hS,hG⟩:=SymF.fg hS hF
 clear hF
 refine wq hS hG hK (fun p3=>[.v 10 (.pointer (some ⟨p,0,none⟩)),.v 11 (.pointer (some ⟨p,0,none⟩)),.v 12 (.pointer (some ⟨p,0,none⟩)),.v 13 (pT (p1 0).N 1),.l 14 (.agg #[.slice a n c]) 1 1,.c (some 15) (cV (.tuple #[.int .i64 (i:Int),.int .i64 0])),.v 16 (.int .i64 (i:Int)),.v 17 (.int .i64 0),.u 18 (.int .i64 (i:Int)) (aG 1),.v 19 (.pointer (some ⟨p,0,none⟩)),.v 20 (.pointer (some ⟨p,0,none⟩)),.v 21 (.pointer (some ⟨p,0,none⟩)),.v 22 (pT (p1 0).N 2),.l 23 (.agg #[.slice b k l]) 1 2,.c (some 24) (cV (.tuple #[.int .i64 (j:Int),.int .i64 0])),.v 25 (.int .i64 (j:Int)),.v 26 (.int .i64 0),.u 27 (.int .i64 (j:Int)) (aG 1),.v 28 (.int .i64 sz),.v 29 (.int .i64 0),.v 30 (.int .i64 0),.v 31 (.int .i64 0),.v 32 (.int .i64 sz),.v 6 (.int .i64 sz)]) (fun p3=>[(6,.int .i64 sz)]) (fun p3=>?_) (fun p3 W3 T hF hK=>?_)
 ·iterate 4 refine okv ?_
  refine okl ?_
  refine okc (fun W cx=>as_v (unhide HB1 _ _ _ c (cx.G.1))) ?_
  iterate 2 refine okv ?_
  refine oku (fun W cx=>runInt_0 p 0 _ _ ⟨_,_,cx.B 0 _ rfl (by kernel_rfl) (by kernel_rfl),hp0⟩) ?_
  iterate 4 refine okv ?_
  refine okl ?_
  refine okc (fun W cx=>as_v (unhide HB2 _ _ _ l (cx.G.2.1))) ?_
  iterate 2 refine okv ?_
  refine oku (fun W cx=>runInt_0 p 0 _ _ ⟨_,_,cx.B 0 _ rfl (by kernel_rfl) (by kernel_rfl),hp0⟩) ?_
  refine okvi ((wr64 (x:=(i:Int) - (j:Int)) (by omega) (by omega)).trans hz) ?_
  iterate 3 refine okv ?_
  refine okvi ((wr64 (x:=sz+0) (by omega) (by omega)).trans (Int.add_zero sz)) ?_
  refine okv ?_
  exact ok_nil
 replace hS:=SymF.fc hS hF [0] [⟨p,cs9,t9_,false⟩]
 replace hG:=hF.gx
 clear hF
 refine wp_ret ?_
 exact sym_end hS hK (.int .i64 sz) [] [] (by kernel_rfl) (by kernel_rfl) ⟨rfl,hS.fr⟩
theorem sscal_is (w:World) (p:Nat) (s:Bool) (a b:Option Addr) (n c k l x y:Nat) (hk:Rn w p 0) (h1:Num w a n x) (h2:Num w b k y) (HP:Hid (HPow0)) :
  Calls Tryz.prog 83 #[.pointer (some ⟨p,0,none⟩),.agg #[.bool s,.slice a n c,.slice b k l],.int .i64 0] w fun en w'=>(∃ A N C A' N' C',en = .returned (.agg #[.slice a n c,.slice A N C,.slice b k l,.slice A' N' C',.int .i64 0])∧Mine w' w.heap.size A N C 1∧Mine w' w.heap.size A' N' C' 1)∧Below w.heap.size w w':=by
 obtain ⟨cs9,t9_,hp,hp0⟩:=hk
 refine calls_sym Tryz.func83 rfl (by kernel_rfl) fun T hK=>?_
 replace hK:Kn T _ [(0,.pointer (some ⟨p,0,none⟩)),(1,.agg #[.bool s,.slice a n c,.slice b k l]),(2,.int .i64 0)]:=hK
 have hS:=Fb.other hp
 have hG:GsAt [gN a n x,gN b k y] w:=⟨h1,h2,trivial⟩
 refine wq hS hG hK (fun p1=>[.n 4 #[.bool s,.slice a n c,.slice b k l] 28,.n 6 #[.slice none 0 0,.slice none 0 0,.slice none 0 0,.slice none 0 0,.int .i64 0] 141]) (fun p1=>[(0,.pointer (some ⟨p,0,none⟩)),(2,.int .i64 0),(4,pT (p1 0).N 0),(6,pT (p1 1).N 0)]) (fun p1=>?_) (fun p1 W1 T hF hK=>?_)
 ·iterate 2 refine okn ?_
  exact ok_nil
 replace hS:=SymF.fc hS hF [0,1000,1001] [⟨p,cs9,t9_,false⟩,⟨(p1 0).N,#[.bool s,.slice a n c,.slice b k l],28,true⟩,⟨(p1 1).N,#[.slice none 0 0,.slice none 0 0,.slice none 0 0,.slice none 0 0,.int .i64 0],141,true⟩]
 replace hG:=hF.gx
 clear hF
 have z1:=hS.fr.size
 refine wq hS hG hK (fun p2=>[.c (some 10) (cN W1.heap.size 1),.n 7 #[.slice none 0 0] 26,.p 1001 0 [.slice (p2 0).A (p2 0).N (p2 0).C]]) (fun p2=>[(0,.pointer (some ⟨p,0,none⟩)),(2,.int .i64 0),(4,pT (p1 0).N 0),(6,pT (p1 1).N 0),(7,pT (p2 1).N 0)]) (fun p2=>?_) (fun p2 W2 T hF hK=>?_)
 ·refine okc (fun W cx=>as_n cx.hb (of_any 1 _ (by decide))) ?_
  refine okn ?_
  refine okp ?_
  exact ok_nil
 replace hS:=SymF.fc hS hF [0,1,2,1001] [⟨p,cs9,t9_,false⟩,⟨(p1 0).N,#[.bool s,.slice a n c,.slice b k l],28,true⟩,⟨(p1 1).N,#[.slice none 0 0,.slice none 0 0,.slice none 0 0,.slice none 0 0,.int .i64 0],141,true⟩,⟨(p2 1).N,#[.slice (p2 0).A (p2 0).N (p2 0).C],26,true⟩]
 replace hG:GsAt (gM W1.heap.size (p2 0).A (p2 0).N (p2 0).C 1 :: _) W2:=⟨hF.fx 0,hF.gx⟩
 clear hF
 refine wq hS hG hK (fun p3=>[.v 11 (pT (p1 0).N 1),.l 12 (.agg #[.slice a n c]) 1 1,.l 13 (.agg #[.slice (p2 0).A (p2 0).N (p2 0).C]) 3 0,.v 14 (pT (p1 0).N 2),.l 15 (.agg #[.slice b k l]) 1 2,.l 16 (.agg #[.slice (p2 0).A (p2 0).N (p2 0).C]) 3 0,.v 17 (.int .i64 0),.v 18 (.agg #[.slice a n c,.slice (p2 0).A (p2 0).N (p2 0).C,.slice b k l,.slice (p2 0).A (p2 0).N (p2 0).C,.int .i64 0]),.n 8 #[.slice none 0 0,.slice none 0 0,.slice none 0 0,.slice none 0 0,.int .i64 0] 141,.p 1008 0 [.slice a n c,.slice (p2 0).A (p2 0).N (p2 0).C,.slice b k l,.slice (p2 0).A (p2 0).N (p2 0).C,.int .i64 0]]) (fun p3=>[(0,.pointer (some ⟨p,0,none⟩)),(2,.int .i64 0),(4,pT (p1 0).N 0),(6,pT (p1 1).N 0),(8,pT (p3 8).N 0)]) (fun p3=>?_) (fun p3 W3 T hF hK=>?_)
 ·refine okv ?_
  iterate 2 refine okl ?_
  refine okv ?_
  iterate 2 refine okl ?_
  iterate 2 refine okv ?_
  refine okn ?_
  refine okp ?_
  exact ok_nil
 replace hS:=SymF.fc hS hF [0,1,2,1008] [⟨p,cs9,t9_,false⟩,⟨(p1 0).N,#[.bool s,.slice a n c,.slice b k l],28,true⟩,⟨(p1 1).N,#[.slice none 0 0,.slice none 0 0,.slice none 0 0,.slice none 0 0,.int .i64 0],141,true⟩,⟨(p3 8).N,#[.slice a n c,.slice (p2 0).A (p2 0).N (p2 0).C,.slice b k l,.slice (p2 0).A (p2 0).N (p2 0).C,.int .i64 0],141,true⟩]
 replace hG:=hF.gx
 clear hF
 have z3:=hS.fr.size
 refine wq hS hG hK (fun p4=>[.v 19 (.pointer (some ⟨p,0,none⟩)),.v 20 (.pointer (some ⟨p,0,none⟩)),.v 21 (.pointer (some ⟨p,0,none⟩)),.v 22 (.int .i64 0),.v 23 (.int .i64 0),.v 24 (.int .i64 0),.v 25 (.int .i64 0),.c (some 26) (cO W3.heap.size 1),.v 27 (.agg #[.slice (p4 7).A (p4 7).N (p4 7).C]),.v 28 (.int .i64 0),.u 29 (.agg #[.slice (p4 7).A (p4 7).N (p4 7).C]) (aG 1),.n 9 #[.slice none 0 0] 26,.p 1011 0 [.slice (p4 7).A (p4 7).N (p4 7).C]]) (fun p4=>[(0,.pointer (some ⟨p,0,none⟩)),(2,.int .i64 0),(4,pT (p1 0).N 0),(6,pT (p1 1).N 0),(8,pT (p3 8).N 0),(9,pT (p4 11).N 0)]) (fun p4=>?_) (fun p4 W4 T hF hK=>?_)
 ·iterate 7 refine okv ?_
  refine okc (fun W cx=>as_o cx.hb (unhide HP _)) ?_
  iterate 2 refine okv ?_
  refine oku (fun W cx=>runNat_0 p 0 _ _ _ _ ⟨_,_,cx.B 0 _ rfl (by kernel_rfl) (by kernel_rfl),hp0⟩) ?_
  refine okn ?_
  refine okp ?_
  exact ok_nil
 replace hS:=SymF.fc hS hF [0,1,2,3,1011] [⟨p,cs9,t9_,false⟩,⟨(p1 0).N,#[.bool s,.slice a n c,.slice b k l],28,true⟩,⟨(p1 1).N,#[.slice none 0 0,.slice none 0 0,.slice none 0 0,.slice none 0 0,.int .i64 0],141,true⟩,⟨(p3 8).N,#[.slice a n c,.slice (p2 0).A (p2 0).N (p2 0).C,.slice b k l,.slice (p2 0).A (p2 0).N (p2 0).C,.int .i64 0],141,true⟩,⟨(p4 11).N,#[.slice (p4 7).A (p4 7).N (p4 7).C],26,true⟩]
 replace hG:GsAt (gM W3.heap.size (p4 7).A (p4 7).N (p4 7).C 1 :: _) W4:=⟨hF.fx 7,hF.gx⟩
 clear hF
 refine wp_seq (wp_block ?_)
 refine wq hS hG hK (fun p5=>[.v 33 (.int .i64 0),.v 34 (.bool false),.v 32 (.bool false)]) (fun p5=>[(0,.pointer (some ⟨p,0,none⟩)),(2,.int .i64 0),(4,pT (p1 0).N 0),(6,pT (p1 1).N 0),(8,pT (p3 8).N 0),(9,pT (p4 11).N 0),(32,.bool false)]) (fun p5=>?_) (fun p5 W5 T hF hK=>?_)
 ·iterate 3 refine okv ?_
  exact ok_nil
 obtain ⟨hS,hG⟩:=SymF.fg hS hF
 clear hF
 refine wp_cond_false (hK.ew 32) ?_
 refine wq hS hG hK (fun p6=>[.v 38 (.int .i64 0),.v 39 (.bool false),.v 37 (.bool false)]) (fun p6=>[(0,.pointer (some ⟨p,0,none⟩)),(4,pT (p1 0).N 0),(6,pT (p1 1).N 0),(8,pT (p3 8).N 0),(9,pT (p4 11).N 0),(32,.bool false),(37,.bool false)]) (fun p6=>?_) (fun p6 W6 T hF hK=>?_)
 ·iterate 3 refine okv ?_
  exact ok_nil
 obtain ⟨hS,hG⟩:=SymF.fg hS hF
 clear hF
 refine wp_cond_false (hK.ew 37) ?_
 refine wg hS hG hK (fun p7=>[.l 30 (.agg #[.slice (p4 7).A (p4 7).N (p4 7).C]) 4 0,.v 31 (pT (p3 8).N 1),.p 3 1 [.slice (p4 7).A (p4 7).N (p4 7).C]]) (fun p7=>[(0,.pointer (some ⟨p,0,none⟩)),(4,pT (p1 0).N 0),(6,pT (p1 1).N 0),(8,pT (p3 8).N 0),(9,pT (p4 11).N 0),(32,.bool false),(37,.bool false)]) (fun p7=>?_) (fun p7 W7 T hF hK=>?_)
 ·refine okl ?_
  refine okv ?_
  refine okp ?_
  exact ok_nil
 replace hS:=SymF.fc hS hF [0,1,2,3,4] [⟨p,cs9,t9_,false⟩,⟨(p1 0).N,#[.bool s,.slice a n c,.slice b k l],28,true⟩,⟨(p1 1).N,#[.slice none 0 0,.slice none 0 0,.slice none 0 0,.slice none 0 0,.int .i64 0],141,true⟩,⟨(p3 8).N,#[.slice a n c,.slice (p4 7).A (p4 7).N (p4 7).C,.slice b k l,.slice (p2 0).A (p2 0).N (p2 0).C,.int .i64 0],141,true⟩,⟨(p4 11).N,#[.slice (p4 7).A (p4 7).N (p4 7).C],26,true⟩]
 replace hG:=hF.gx
 clear hF
 refine inb_n (then_n ?_)
 refine wq hS hG hK (fun p8=>[.l 51 (.agg #[.slice a n c,.slice (p4 7).A (p4 7).N (p4 7).C,.slice b k l,.slice (p2 0).A (p2 0).N (p2 0).C,.int .i64 0]) 3 0,.p 2 0 [.slice a n c,.slice (p4 7).A (p4 7).N (p4 7).C,.slice b k l,.slice (p2 0).A (p2 0).N (p2 0).C,.int .i64 0]]) (fun p8=>[(0,.pointer (some ⟨p,0,none⟩)),(4,pT (p1 0).N 0),(6,pT (p1 1).N 0),(8,pT (p3 8).N 0),(9,pT (p4 11).N 0),(32,.bool false),(37,.bool false)]) (fun p8=>?_) (fun p8 W8 T hF hK=>?_)
 ·refine okl ?_
  refine okp ?_
  exact ok_nil
 replace hS:=SymF.fc hS hF [0,1,2,3,4] [⟨p,cs9,t9_,false⟩,⟨(p1 0).N,#[.bool s,.slice a n c,.slice b k l],28,true⟩,⟨(p1 1).N,#[.slice a n c,.slice (p4 7).A (p4 7).N (p4 7).C,.slice b k l,.slice (p2 0).A (p2 0).N (p2 0).C,.int .i64 0],141,true⟩,⟨(p3 8).N,#[.slice a n c,.slice (p4 7).A (p4 7).N (p4 7).C,.slice b k l,.slice (p2 0).A (p2 0).N (p2 0).C,.int .i64 0],141,true⟩,⟨(p4 11).N,#[.slice (p4 7).A (p4 7).N (p4 7).C],26,true⟩]
 replace hG:=hF.gx
 clear hF
 refine wp_ret ?_
 exact sym_end hS hK (.agg #[.slice a n c,.slice (p4 7).A (p4 7).N (p4 7).C,.slice b k l,.slice (p2 0).A (p2 0).N (p2 0).C,.int .i64 0]) [(2,0,5)] [.slice a n c,.slice (p4 7).A (p4 7).N (p4 7).C,.slice b k l,.slice (p2 0).A (p2 0).N (p2 0).C,.int .i64 0] (by kernel_rfl) (by kernel_rfl) ⟨⟨_,_,_,_,_,_,rfl,Mine.mono hG.1 z3,Mine.mono hG.2.1 z1⟩,hS.fr⟩
theorem rchk_all (s:Bool) (a b:Option Addr) (n c k l m d:Nat) (hs:s = true→0 < m) (hd:0 < d) (hg:Nat.gcd m d = 1) (W:World) (h1:Num W a n m) (h2:Num W b k d) :
  Calls Tryz.prog 20 #[.agg #[.bool s,.slice a n c,.slice b k l]] W fun e W'=>e = .returned (.int .i64 0)∧Below W.heap.size W W':=by
 have hk:0 < k:=by have:=h2.zero; omega
 cases s
 ·exact rk_ok_f a n c m b k l d W hk h1 h2 hg
 ·exact rk_ok_t a n c m b k l d W hk (by have:=h1.zero; have:=hs rfl; omega) h1 h2 hg
end Go.Proofs.YtfjegmlpkiaifaaGreatDoor
