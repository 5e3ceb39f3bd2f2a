/- Of what SoftFmasRow stands on: SfKinds SmMeth SmClo SmOp SpMeth SpClo SpOp SqClo. -/
import Derived.Test.YtfimakkpdjppfaaGreatDoorPbf
import Derived.Test.YtfimakkpdjppfaaGreatDoorPbg
import Derived.Test.YtfimakkpdjppfaaGreatDoorPbh
import Derived.Test.YtfimakkpdjppfaaGreatDoorPbe
import Derived.Test.YtfimakkpdjppfaaGreatDoorPba
import Derived.Test.YtfimakkpdjppfaaGreatDoorPax
namespace Go.Proofs.YtfimakkpdjppfaaGreatDoor
open Go.RowKit
set_option maxHeartbeats 8000000
set_option maxRecDepth 20000
theorem flOf_one {E F b:Int} {k:Kd} {t:TypeId} {x:Value} (hk:∀ (W:World) (B:Nat),Flt W B (.iface t x) k) (h:Tel 34 #[.agg #[.int .i64 E,.int .i64 F],.int .u64 b] (.iface t x)):FlOf E F b k:=by
 intro W _
 refine (h W).mono ?_
 rintro e w' ⟨rfl,hb⟩
 exact ⟨⟨t,x,rfl,hk _ _⟩,hb⟩
theorem opR_one {E F b:Int} {neg nan qu inf:Bool} (h:Tel 10 #[.agg #[.int .i64 E,.int .i64 F],.int .u64 b] (.agg #[.bool neg,.bool nan,.bool qu,.bool inf,.bool false,.slice none 0 0,.int .i64 0])):OpR E F b neg nan qu inf false 0 0:=by
 intro W
 refine (h W).mono ?_
 rintro e w' ⟨rfl,hb⟩
 exact ⟨⟨none,0,0,rfl,mine_nil _ _⟩,hb⟩
theorem nan_both {E F S I:Nat} (h:Fm E F S I):∃ n:Int,Tel 121 #[.agg #[.int .i64 E,.int .i64 F],.bool false,.int .u64 0] (.tuple #[.int .u64 n,.int .i64 0])∧Tel 12 #[.agg #[.int .i64 E,.int .i64 F]] (.int .u64 n):=by
 have h0:=h.fo
 have hp1:=pow_pos2 (F - 1)
 have hpow:2 ^ F = 2 * 2 ^ (F - 1):=by rw [← Nat.pow_succ',Nat.succ_eq_add_one,Nat.sub_add_cancel h0.f1]
 have hpE:=pow_pos2 E
 have htop:=h.top
 have h63:=h.s63
 have hE:=pow_bound h0.e11
 have hF:=pow_bound h0.f52
 refine ⟨((I+2 ^ (F - 1):Nat):Int),fun W=>?_,fun W=>?_⟩
 ·have:=NaN_ok E F (I+2 ^ (F - 1)) 0 (2 ^ E - 1) (2 ^ (F - 1)+0) false h0 hp1 rfl (hide rfl) ⟨by omega,by omega,by rw [h.hI]; simp⟩ W
  exact this
 ·have HI:Tel 14 #[.agg #[.int .i64 E,.int .i64 F],.bool false] (.int .u64 (I:Int)):=fun W=>by
   have e6:IntKind.u64.wrap ((2:Int) ^ E) = ((2 ^ E:Nat):Int):=wrap_pow (by have:=h0.e11; omega)
   have e7:IntKind.u64.wrap (((2 ^ E:Nat):Int) - 1) = ((2 ^ E - 1:Nat):Int):=by rw [IntKind.wrap_u64]; omega
   have e11:IntKind.u64.wrap (((2 ^ E - 1:Nat):Int) * 2 ^ F) = (I:Int):=by rw [shl_u64 _ _ (by rw [← h.hI]; omega),← h.hI]
   have e12:IntKind.u64.wrap (((0:Nat):Int)+(I:Int)) = (I:Int):=by rw [IntKind.wrap_u64]; omega
   exact xInf_f E F (2 ^ E) (2 ^ E - 1) I 0 I (fun W=>xsign_f E F W) h0.e11 h0.f52 h0.f1 e6 e7 e11 e12 W
  have e6:IntKind.u64.wrap ((2:Int) ^ (F - 1)) = ((2 ^ (F - 1):Nat):Int):=wrap_pow (by have:=h0.f52; omega)
  have e7:IntKind.u64.wrap ((I:Int)+((2 ^ (F - 1):Nat):Int)) = ((I+2 ^ (F - 1):Nat):Int):=by rw [IntKind.wrap_u64]; omega
  have hf1:=h0.f1
  have hf52:=h0.f52
  exact xNaN_is E F (F - 1) (2 ^ (F - 1)) I (I+2 ^ (F - 1)) HI (by omega) (by omega) e6 e7 W
theorem as_no {T t:TypeId} {z v:Value} (hz:(Tryz.prog.info? T).map (·.zero) = some (some z)) (hu:(Tryz.prog.underlying T).map (fun u=>match u with|.interface _=>false|_=>true) = some true) (ht:t≠T) (w:World):(Instr.typeAssert (.iface t v) 37 T true).run Tryz.prog w = .ok (.tuple #[z,.bool false]) w:=run_as hu hz ht _ w
theorem cancelled_is (md:Int) (r:Bool) (hr:(md == (4:Int)) = r) (w:World)  :
  Calls Tryz.prog 142 #[.int .u8 md] w fun e w'=>e = .returned (.iface 114 (.agg #[.bool r,.int .u8 0]))∧Below w.heap.size w w':=by
 go_enter Tryz.func142,Tryz.ntmps142
 go_wp2
 go_ret
 exact ⟨rfl,(Fs.begin w).fr⟩
theorem isnt_yes (a:Option Addr) (cap:Nat) (w:World)  :
  Calls Tryz.prog 153 #[.agg #[.slice a 0 cap]] w fun e w'=>e = .returned (.bool true)∧Below w.heap.size w w':=by
 go_enter Tryz.func153,Tryz.ntmps153
 go_wp2
 go_ret
 exact ⟨rfl,(Fs.one w _ _).fr⟩
theorem isnt_no (a:Option Addr) (n cap:Nat) (hn:((n:Int) == 0) = false) (w:World)  :
  Calls Tryz.prog 153 #[.agg #[.slice a n cap]] w fun e w'=>e = .returned (.bool false)∧Below w.heap.size w w':=by
 go_enter Tryz.func153,Tryz.ntmps153
 go_wp2
 go_ret
 exact ⟨rfl,(Fs.one w _ _).fr⟩
theorem noneplus (fl md:Int) (t:TypeId) (y:Value) (w:World)  :
  Calls Tryz.prog 116 #[.agg #[.int .u8 fl],.iface t y,.int .u8 md] w fun e w'=>e = .returned (.iface 65 (.agg #[.int .u8 fl]))∧Below w.heap.size w w':=by
 go_enter Tryz.func116,Tryz.ntmps116
 go_wp2
 go_ret
 exact ⟨rfl,(Fs.one w _ _).fr⟩
theorem infplus_o (neg:Bool) (fl md:Int) (t:TypeId) (y:Value) (ht:t≠113) (w:World)  :
  Calls Tryz.prog 126 #[.agg #[.bool neg,.int .u8 fl],.iface t y,.int .u8 md] w fun e w'=>e = .returned (.iface 113 (.agg #[.bool neg,.int .u8 fl]))∧Below w.heap.size w w':=by
 go_enter Tryz.func126,Tryz.ntmps126
 have ha:=as_no (T:=113) (v:=y) (z:=.agg #[.bool false,.int .u8 0]) (by kernel_rfl) (by kernel_rfl) ht
 go_wp2
 go_ret
 exact ⟨rfl,(Fs.one w _ _).fr⟩
theorem infplus_same (neg neg2:Bool) (fl fl2 md:Int) (hs:(neg != neg2) = false) (w:World)  :
  Calls Tryz.prog 126 #[.agg #[.bool neg,.int .u8 fl],.iface 113 (.agg #[.bool neg2,.int .u8 fl2]),.int .u8 md] w fun e w'=>e = .returned (.iface 113 (.agg #[.bool neg,.int .u8 fl]))∧Below w.heap.size w w':=by
 have hs2:(!neg == neg2) = false:=by cases neg <;> cases neg2 <;> simp_all
 go_enter Tryz.func126,Tryz.ntmps126
 have ha:=run_as_self (T:=113) (v:=.agg #[.bool neg2,.int .u8 fl2]) (by kernel_rfl) 37
 have hS:Fs w (w.alloc (.cells #[.bool neg,.int .u8 fl] 113)) [⟨w.heap.size,#[.bool neg,.int .u8 fl],113⟩]:=Fs.one w _ _
 obtain ⟨⟨ya,yb,-⟩,-⟩:=hS.cells
 obtain ⟨WB,hWB⟩:∃ z9,(w.alloc (.cells #[.bool neg,.int .u8 fl] 113)) = z9:=⟨_,rfl⟩
 rw [hWB] at hS ya yb
 have hltWB_0:w.heap.size < WB.heap.size:=hS.lt 0 rfl
 obtain ⟨WV,hWV⟩:∃ WV,WB.alloc (.cells #[.bool neg2,.int .u8 fl2] 113) = WV:=⟨_,rfl⟩
 replace hS:=hS.alloc #[.bool neg2,.int .u8 fl2] 113
 rw [hWV] at hS
 obtain ⟨⟨yc,yd,-⟩,⟨ye,yf,-⟩,-⟩:=hS.cells
 go_wp2
 go_ret
 exact ⟨rfl,hS.fr⟩
theorem infplus_diff (neg neg2:Bool) (fl fl2 md:Int) (hs:(neg != neg2) = true) (w:World)  :
  Calls Tryz.prog 126 #[.agg #[.bool neg,.int .u8 fl],.iface 113 (.agg #[.bool neg2,.int .u8 fl2]),.int .u8 md] w fun e w'=>e = .returned (.iface 65 (.agg #[.int .u8 16]))∧Below w.heap.size w w':=by
 have hs2:(!neg == neg2) = true:=by cases neg <;> cases neg2 <;> simp_all
 go_enter Tryz.func126,Tryz.ntmps126
 have ha:=run_as_self (T:=113) (v:=.agg #[.bool neg2,.int .u8 fl2]) (by kernel_rfl) 37
 have hS:Fs w (w.alloc (.cells #[.bool neg,.int .u8 fl] 113)) [⟨w.heap.size,#[.bool neg,.int .u8 fl],113⟩]:=Fs.one w _ _
 obtain ⟨⟨ya,yb,-⟩,-⟩:=hS.cells
 obtain ⟨WB,hWB⟩:∃ z9,(w.alloc (.cells #[.bool neg,.int .u8 fl] 113)) = z9:=⟨_,rfl⟩
 rw [hWB] at hS ya yb
 have hltWB_0:w.heap.size < WB.heap.size:=hS.lt 0 rfl
 obtain ⟨WV,hWV⟩:∃ WV,WB.alloc (.cells #[.bool neg2,.int .u8 fl2] 113) = WV:=⟨_,rfl⟩
 replace hS:=hS.alloc #[.bool neg2,.int .u8 fl2] 113
 rw [hWV] at hS
 obtain ⟨⟨yc,yd,-⟩,⟨ye,yf,-⟩,-⟩:=hS.cells
 go_wp2_with fail
 refine (invalid_is _).mono ?_
 rintro e w1 ⟨rfl,hb1⟩
 replace hS:=hS.kept hb1
 clear yc yd ye yf ya yb
 obtain ⟨⟨yg,yh,-⟩,⟨yi,yj,-⟩,-⟩:=hS.cells
 go_wp2
 go_ret
 exact ⟨rfl,hS.fr⟩
theorem nouplus_o (neg:Bool) (fl md:Int) (t:TypeId) (y:Value) (ht:t≠114) (w:World)  :
  Calls Tryz.prog 137 #[.agg #[.bool neg,.int .u8 fl],.iface t y,.int .u8 md] w fun e w'=>e = .returned (.iface t y)∧Below w.heap.size w w':=by
 go_enter Tryz.func137,Tryz.ntmps137
 have ha:=as_no (T:=114) (v:=y) (z:=.agg #[.bool false,.int .u8 0]) (by kernel_rfl) (by kernel_rfl) ht
 go_wp2
 go_ret
 exact ⟨rfl,(Fs.one w _ _).fr⟩
theorem nouplus_same (neg neg2:Bool) (fl fl2 md:Int) (hs:(neg != neg2) = false) (w:World)  :
  Calls Tryz.prog 137 #[.agg #[.bool neg,.int .u8 fl],.iface 114 (.agg #[.bool neg2,.int .u8 fl2]),.int .u8 md] w fun e w'=>e = .returned (.iface 114 (.agg #[.bool neg2,.int .u8 fl2]))∧Below w.heap.size w w':=by
 have hs2:(!neg == neg2) = false:=by cases neg <;> cases neg2 <;> simp_all
 go_enter Tryz.func137,Tryz.ntmps137
 have ha:=run_as_self (T:=114) (v:=.agg #[.bool neg2,.int .u8 fl2]) (by kernel_rfl) 37
 have hS:Fs w (w.alloc (.cells #[.bool neg,.int .u8 fl] 114)) [⟨w.heap.size,#[.bool neg,.int .u8 fl],114⟩]:=Fs.one w _ _
 obtain ⟨⟨ya,yb,-⟩,-⟩:=hS.cells
 obtain ⟨WB,hWB⟩:∃ z9,(w.alloc (.cells #[.bool neg,.int .u8 fl] 114)) = z9:=⟨_,rfl⟩
 rw [hWB] at hS ya yb
 have hltWB_0:w.heap.size < WB.heap.size:=hS.lt 0 rfl
 obtain ⟨WV,hWV⟩:∃ WV,WB.alloc (.cells #[.bool neg2,.int .u8 fl2] 114) = WV:=⟨_,rfl⟩
 replace hS:=hS.alloc #[.bool neg2,.int .u8 fl2] 114
 rw [hWV] at hS
 obtain ⟨⟨yc,yd,-⟩,⟨ye,yf,-⟩,-⟩:=hS.cells
 go_wp2
 go_ret
 exact ⟨rfl,hS.fr⟩
theorem nouplus_diff (neg neg2:Bool) (fl fl2 md:Int) (hs:(neg != neg2) = true) (r:Bool) (hr:(md == (4:Int)) = r) (w:World)  :
  Calls Tryz.prog 137 #[.agg #[.bool neg,.int .u8 fl],.iface 114 (.agg #[.bool neg2,.int .u8 fl2]),.int .u8 md] w fun e w'=>e = .returned (.iface 114 (.agg #[.bool r,.int .u8 0]))∧Below w.heap.size w w':=by
 have hs2:(!neg == neg2) = true:=by cases neg <;> cases neg2 <;> simp_all
 go_enter Tryz.func137,Tryz.ntmps137
 have ha:=run_as_self (T:=114) (v:=.agg #[.bool neg2,.int .u8 fl2]) (by kernel_rfl) 37
 have hS:Fs w (w.alloc (.cells #[.bool neg,.int .u8 fl] 114)) [⟨w.heap.size,#[.bool neg,.int .u8 fl],114⟩]:=Fs.one w _ _
 obtain ⟨⟨ya,yb,-⟩,-⟩:=hS.cells
 obtain ⟨WB,hWB⟩:∃ z9,(w.alloc (.cells #[.bool neg,.int .u8 fl] 114)) = z9:=⟨_,rfl⟩
 rw [hWB] at hS ya yb
 have hltWB_0:w.heap.size < WB.heap.size:=hS.lt 0 rfl
 obtain ⟨WV,hWV⟩:∃ WV,WB.alloc (.cells #[.bool neg2,.int .u8 fl2] 114) = WV:=⟨_,rfl⟩
 replace hS:=hS.alloc #[.bool neg2,.int .u8 fl2] 114
 rw [hWV] at hS
 obtain ⟨⟨yc,yd,-⟩,⟨ye,yf,-⟩,-⟩:=hS.cells
 go_wp2_with fail
 refine (cancelled_is md r hr _).mono ?_
 rintro e w1 ⟨rfl,hb1⟩
 replace hS:=hS.kept hb1
 clear yc yd ye yf ya yb
 obtain ⟨⟨yg,yh,-⟩,⟨yi,yj,-⟩,-⟩:=hS.cells
 go_wp2
 go_ret
 exact ⟨rfl,hS.fr⟩
theorem numplus_zero (s:Bool) (a:Option Addr) (n cap m:Nat) (x fl:Int) (s':Bool) (a':Option Addr) (n' cap' m':Nat) (x' fl' md:Int) (r:Bool) (v:Nat) (y:Int) (r2:Bool) (hr2:(md == (4:Int)) = r2) (w:World) (h:Num w a n m) (h':Num w a' n' m') (hT:Tb w) (HS:Hid (SumsM s m x s' m' x' 0 r v y)) (hv:v = 0) :
  Calls Tryz.prog 147 #[.agg #[.bool s,.slice a n cap,.int .i64 x,.int .u8 fl],.iface 116 (.agg #[.bool s',.slice a' n' cap',.int .i64 x',.int .u8 fl']),.int .u8 md] w fun e w'=>e = .returned (.iface 114 (.agg #[.bool r2,.int .u8 0]))∧Below w.heap.size w w':=by
 have H:=hide h
 have H':=hide h'
 have HT:=hide hT
 clear h h' hT
 go_enter Tryz.func147,Tryz.ntmps147
 have ha:=run_as_self (T:=116) (v:=.agg #[.bool s',.slice a' n' cap',.int .i64 x',.int .u8 fl']) (by kernel_rfl) 37
 have hS:Fs w (w.alloc (.cells #[.bool s,.slice a n cap,.int .i64 x,.int .u8 fl] 116)) [⟨w.heap.size,#[.bool s,.slice a n cap,.int .i64 x,.int .u8 fl],116⟩]:=Fs.one w _ _
 obtain ⟨⟨ya,yb,yc,yd,-⟩,-⟩:=hS.cells
 obtain ⟨WB,hWB⟩:∃ z9,(w.alloc (.cells #[.bool s,.slice a n cap,.int .i64 x,.int .u8 fl] 116)) = z9:=⟨_,rfl⟩
 rw [hWB] at hS ya yb yc yd
 have hltWB_0:w.heap.size < WB.heap.size:=hS.lt 0 rfl
 obtain ⟨WV,hWV⟩:∃ WV,WB.alloc (.cells #[.bool s',.slice a' n' cap',.int .i64 x',.int .u8 fl'] 116) = WV:=⟨_,rfl⟩
 replace hS:=hS.alloc #[.bool s',.slice a' n' cap',.int .i64 x',.int .u8 fl'] 116
 rw [hWV] at hS
 obtain ⟨⟨ye,yf,yg,yh,-⟩,⟨yi,yj,yk,yl,-⟩,-⟩:=hS.cells
 have hsV:=hS.size
 go_wp2_with fail
 refine (unhide HS _ _ _ _ _ _ _ ((unhide H).kept hS.fr) ((unhide H').kept hS.fr) ((unhide HT).kept hS.fr)).mono ?_
 rintro e w1 ⟨⟨A1,N1,C1,rfl,f1⟩,hb1⟩
 replace hS:=hS.kept hb1
 clear ye yf yg yh yi yj yk yl ya yb yc yd
 obtain ⟨⟨ym,yn,yo,yp,-⟩,⟨yq,yr,ys,yt,-⟩,-⟩:=hS.cells
 have G1:=hide (f1.mono (base':=w.heap.size) hsV)
 clear f1
 have hltw1_0:WB.heap.size < w1.heap.size:=hS.lt 0 rfl
 have hltw1_1:w.heap.size < w1.heap.size:=hS.lt 1 rfl
 obtain ⟨WU,hWU⟩:∃ WU,w1.alloc (.cells #[.bool r,.slice A1 N1 C1,.int .i64 y] 46) = WU:=⟨_,rfl⟩
 replace hS:=hS.alloc #[.bool r,.slice A1 N1 C1,.int .i64 y] 46
 rw [hWU] at hS
 replace G1:=hide (hWU▸(unhide G1).alloc (.cells #[.bool r,.slice A1 N1 C1,.int .i64 y] 46))
 clear ym yn yo yp yq yr ys yt
 obtain ⟨⟨yu,yv,yw,-⟩,⟨yx,yy,yz,y0,-⟩,⟨y1,y2,y3,y4,-⟩,-⟩:=hS.cells
 obtain rfl:N1 = 0:=by have:=(unhide G1).num.zero; omega
 clear G1
 go_wp2_with fail
 refine (isnt_yes A1 C1 _).mono ?_
 rintro e w2 ⟨rfl,hb2⟩
 replace hS:=hS.kept hb2
 clear yu yv yw yx yy yz y0 y1 y2 y3 y4
 obtain ⟨⟨y5,y6,y7,-⟩,⟨y8,y9,yba,ybb,-⟩,⟨ybc,ybd,ybe,ybf,-⟩,-⟩:=hS.cells
 go_wp2_with fail
 refine (cancelled_is md r2 hr2 _).mono ?_
 rintro e w3 ⟨rfl,hb3⟩
 replace hS:=hS.kept hb3
 clear y5 y6 y7 y8 y9 yba ybb ybc ybd ybe ybf
 obtain ⟨⟨ybg,ybh,ybi,-⟩,⟨ybj,ybk,ybl,ybm,-⟩,⟨ybn,ybo,ybp,ybq,-⟩,-⟩:=hS.cells
 go_wp2
 go_ret
 exact ⟨rfl,hS.fr⟩
theorem numplus_num (s:Bool) (a:Option Addr) (n cap m:Nat) (x fl:Int) (s':Bool) (a':Option Addr) (n' cap' m':Nat) (x' fl' md:Int) (r:Bool) (v:Nat) (y:Int) (w:World) (h:Num w a n m) (h':Num w a' n' m') (hT:Tb w) (HS:Hid (SumsM s m x s' m' x' 0 r v y)) (hv:0 < v) :
  Calls Tryz.prog 147 #[.agg #[.bool s,.slice a n cap,.int .i64 x,.int .u8 fl],.iface 116 (.agg #[.bool s',.slice a' n' cap',.int .i64 x',.int .u8 fl']),.int .u8 md] w fun e w'=>(∃ A N C,e = .returned (.iface 116 (.agg #[.bool r,.slice A N C,.int .i64 y,.int .u8 0]))∧Mine w' w.heap.size A N C v)∧Below w.heap.size w w':=by
 have H:=hide h
 have H':=hide h'
 have HT:=hide hT
 clear h h' hT
 go_enter Tryz.func147,Tryz.ntmps147
 have ha:=run_as_self (T:=116) (v:=.agg #[.bool s',.slice a' n' cap',.int .i64 x',.int .u8 fl']) (by kernel_rfl) 37
 have hS:Fs w (w.alloc (.cells #[.bool s,.slice a n cap,.int .i64 x,.int .u8 fl] 116)) [⟨w.heap.size,#[.bool s,.slice a n cap,.int .i64 x,.int .u8 fl],116⟩]:=Fs.one w _ _
 obtain ⟨⟨ya,yb,yc,yd,-⟩,-⟩:=hS.cells
 obtain ⟨WB,hWB⟩:∃ z9,(w.alloc (.cells #[.bool s,.slice a n cap,.int .i64 x,.int .u8 fl] 116)) = z9:=⟨_,rfl⟩
 rw [hWB] at hS ya yb yc yd
 have hltWB_0:w.heap.size < WB.heap.size:=hS.lt 0 rfl
 obtain ⟨WV,hWV⟩:∃ WV,WB.alloc (.cells #[.bool s',.slice a' n' cap',.int .i64 x',.int .u8 fl'] 116) = WV:=⟨_,rfl⟩
 replace hS:=hS.alloc #[.bool s',.slice a' n' cap',.int .i64 x',.int .u8 fl'] 116
 rw [hWV] at hS
 obtain ⟨⟨ye,yf,yg,yh,-⟩,⟨yi,yj,yk,yl,-⟩,-⟩:=hS.cells
 have hsV:=hS.size
 go_wp2_with fail
 refine (unhide HS _ _ _ _ _ _ _ ((unhide H).kept hS.fr) ((unhide H').kept hS.fr) ((unhide HT).kept hS.fr)).mono ?_
 rintro e w1 ⟨⟨A1,N1,C1,rfl,f1⟩,hb1⟩
 replace hS:=hS.kept hb1
 clear ye yf yg yh yi yj yk yl ya yb yc yd
 obtain ⟨⟨ym,yn,yo,yp,-⟩,⟨yq,yr,ys,yt,-⟩,-⟩:=hS.cells
 have G1:=hide (f1.mono (base':=w.heap.size) hsV)
 clear f1
 have hltw1_0:WB.heap.size < w1.heap.size:=hS.lt 0 rfl
 have hltw1_1:w.heap.size < w1.heap.size:=hS.lt 1 rfl
 obtain ⟨WU,hWU⟩:∃ WU,w1.alloc (.cells #[.bool r,.slice A1 N1 C1,.int .i64 y] 46) = WU:=⟨_,rfl⟩
 replace hS:=hS.alloc #[.bool r,.slice A1 N1 C1,.int .i64 y] 46
 rw [hWU] at hS
 replace G1:=hide (hWU▸(unhide G1).alloc (.cells #[.bool r,.slice A1 N1 C1,.int .i64 y] 46))
 clear ym yn yo yp yq yr ys yt
 obtain ⟨⟨yu,yv,yw,-⟩,⟨yx,yy,yz,y0,-⟩,⟨y1,y2,y3,y4,-⟩,-⟩:=hS.cells
 have hN1:((N1:Int) == 0) = false:=by have:=(unhide G1).num.zero; simp; omega
 go_wp2_with fail
 refine (isnt_no A1 N1 C1 hN1 _).mono ?_
 rintro e w2 ⟨rfl,hb2⟩
 replace hS:=hS.kept hb2
 clear yu yv yw yx yy yz y0 y1 y2 y3 y4
 obtain ⟨⟨y5,y6,y7,-⟩,⟨y8,y9,yba,ybb,-⟩,⟨ybc,ybd,ybe,ybf,-⟩,-⟩:=hS.cells
 replace G1:=hide ((unhide G1).kept hb2)
 go_wp2
 go_ret
 exact ⟨⟨_,_,_,rfl,unhide G1⟩,hS.fr⟩
theorem numplus_inf (s:Bool) (a:Option Addr) (n cap:Nat) (x fl fl2 md:Int) (neg2:Bool) (w:World)  :
  Calls Tryz.prog 147 #[.agg #[.bool s,.slice a n cap,.int .i64 x,.int .u8 fl],.iface 113 (.agg #[.bool neg2,.int .u8 fl2]),.int .u8 md] w fun e w'=>e = .returned (.iface 113 (.agg #[.bool neg2,.int .u8 fl2]))∧Below w.heap.size w w':=by
 go_enter Tryz.func147,Tryz.ntmps147
 have ha:=as_no (T:=116) (t:=113) (v:=.agg #[.bool neg2,.int .u8 fl2]) (z:=.agg #[.bool false,.slice none 0 0,.int .i64 0,.int .u8 0]) (by kernel_rfl) (by kernel_rfl) (by decide)
 have hm : ∀ w : World, (method 301 113 (.agg #[.bool neg2, .int .u8 fl2]) "numeral/soft.plus").run Tryz.prog w = .ok (126, .agg #[.bool neg2, .int .u8 fl2]) w := fun _ => by kernel_rfl
 go_wp2_with fail
 refine (infplus_o neg2 fl2 md _ _ (by decide) _).mono ?_
 rintro e w1 ⟨rfl,hb1⟩
 have hS:=(Fs.one w _ _).kept hb1
 obtain ⟨⟨ya,yb,yc,yd,-⟩,-⟩:=hS.cells
 go_wp2
 go_ret
 exact ⟨rfl,hS.fr⟩
theorem numplus_nou (s:Bool) (a:Option Addr) (n cap:Nat) (x fl fl2 md:Int) (neg2:Bool) (w:World)  :
  Calls Tryz.prog 147 #[.agg #[.bool s,.slice a n cap,.int .i64 x,.int .u8 fl],.iface 114 (.agg #[.bool neg2,.int .u8 fl2]),.int .u8 md] w fun e w'=>e = .returned (.iface 116 (.agg #[.bool s,.slice a n cap,.int .i64 x,.int .u8 fl]))∧Below w.heap.size w w':=by
 go_enter Tryz.func147,Tryz.ntmps147
 have ha:=as_no (T:=116) (t:=114) (v:=.agg #[.bool neg2,.int .u8 fl2]) (z:=.agg #[.bool false,.slice none 0 0,.int .i64 0,.int .u8 0]) (by kernel_rfl) (by kernel_rfl) (by decide)
 have hm : ∀ w : World, (method 301 114 (.agg #[.bool neg2, .int .u8 fl2]) "numeral/soft.plus").run Tryz.prog w = .ok (137, .agg #[.bool neg2, .int .u8 fl2]) w := fun _ => by kernel_rfl
 go_wp2_with fail
 refine (nouplus_o neg2 fl2 md _ _ (by decide) _).mono ?_
 rintro e w1 ⟨rfl,hb1⟩
 have hS:=(Fs.one w _ _).kept hb1
 obtain ⟨⟨ya,yb,yc,yd,-⟩,-⟩:=hS.cells
 go_wp2
 go_ret
 exact ⟨rfl,hS.fr⟩
theorem enter7 {f : FuncId} {fn : Func} (hf : Tryz.prog.funcs[f]? = some fn) (hname : (fn.name == "runtime.NumGoroutine") = false) (hb : fn.body.isSome = true) (args : Array Value) (w : World) : (callFunc f args).run Tryz.prog w = .ok (.enter f args) w := by
 obtain ⟨c,hc⟩:=Option.isSome_iff_exists.1 hb
 have h1 : fn.name ≠ "runtime.NumGoroutine" := by simpa using hname
 simp [callFunc,hf,h1,hc]
theorem Flt.alloc {W:World} {B:Nat} {v:Value} {k:Kd} (h:Flt W B v k) (o:Obj):Flt (W.alloc o) B v k:=h.kept (gr_alloc _ _)
theorem st_true7:St 0 (fun _=>True):=⟨fun _ _ _ _=>trivial,fun _ _ _ _ _=>trivial⟩
theorem st_flt7 (B:Nat) (v:Value) (k:Kd):St 0 (fun W=>Flt W B v k):=st_zero (fun _ _ hb h=>h.kept hb)
theorem st_mine7 (a:Option Addr) (n c m:Nat):St 0 (fun W=>Mine W 0 a n c m):=st_zero (fun _ _ hb h=>h.kept hb)
def Ng (t : TypeId) (y : Value) (s : Bool) : Prop := ∃ fn : Nat, (∀ w : World, (method 301 t (y) "numeral/soft.negative").run Tryz.prog w = .ok (fn, y) w) ∧ (∀ (args : Array Value) (w : World), (callFunc fn args).run Tryz.prog w = .ok (.enter fn args) w) ∧ ∀ W : World, Calls Tryz.prog fn #[y] W fun e w' => e = .returned (.bool s) ∧ Below W.heap.size W w'
theorem infneg (neg:Bool) (fl:Int) (w:World)  :
  Calls Tryz.prog 124 #[.agg #[.bool neg,.int .u8 fl]] w fun e w'=>e = .returned (.bool neg)∧Below w.heap.size w w':=by
 go_enter Tryz.func124,Tryz.ntmps124
 go_wp2
 go_ret
 exact ⟨rfl,(Fs.one w _ _).fr⟩
theorem ng_inf (neg:Bool) (fl:Int):Ng 113 (.agg #[.bool neg,.int .u8 fl]) neg:=⟨124,fun _=>by kernel_rfl,fun _ _=>by kernel_rfl,fun W=>infneg neg fl W⟩
theorem nouneg (neg:Bool) (fl:Int) (w:World)  :
  Calls Tryz.prog 135 #[.agg #[.bool neg,.int .u8 fl]] w fun e w'=>e = .returned (.bool neg)∧Below w.heap.size w w':=by
 go_enter Tryz.func135,Tryz.ntmps135
 go_wp2
 go_ret
 exact ⟨rfl,(Fs.one w _ _).fr⟩
theorem ng_nou (neg:Bool) (fl:Int):Ng 114 (.agg #[.bool neg,.int .u8 fl]) neg:=⟨135,fun _=>by kernel_rfl,fun _ _=>by kernel_rfl,fun W=>nouneg neg fl W⟩
theorem numneg (s:Bool) (a:Option Addr) (n cap:Nat) (x fl:Int) (w:World)  :
  Calls Tryz.prog 145 #[.agg #[.bool s,.slice a n cap,.int .i64 x,.int .u8 fl]] w fun e w'=>e = .returned (.bool s)∧Below w.heap.size w w':=by
 go_enter Tryz.func145,Tryz.ntmps145
 go_wp2
 go_ret
 exact ⟨rfl,(Fs.one w _ _).fr⟩
theorem ng_num (s:Bool) (a:Option Addr) (n cap:Nat) (x fl:Int):Ng 116 (.agg #[.bool s,.slice a n cap,.int .i64 x,.int .u8 fl]) s:=⟨145,fun _=>by kernel_rfl,fun _ _=>by kernel_rfl,fun W=>numneg s a n cap x fl W⟩
theorem othersign_is (t0 t1:TypeId) (y0 y1:Value) (s0 s1 r:Bool) (hr:(s0 != s1) = r) (h0:Ng t0 y0 s0) (h1:Ng t1 y1 s1) (w:World)  :
  Calls Tryz.prog 132 #[.iface t0 y0,.iface t1 y1] w fun e w'=>e = .returned (.bool r)∧Below w.heap.size w w':=by
 obtain ⟨f0,hm0,hc0,g0⟩:=h0
 obtain ⟨f1,hm1,hc1,g1⟩:=h1
 have hr2:(!s0 == s1) = r:=by rw [← hr]; cases s0 <;> cases s1 <;> rfl
 have H0:=hide g0
 have H1:=hide g1
 clear g0 g1
 go_enter Tryz.func132,Tryz.ntmps132
 go_wp2_with fail
 refine (unhide H0 _).mono ?_
 rintro e w1 ⟨rfl,hb1⟩
 have hS:=(Fs.begin w).kept hb1
 go_wp2_with fail
 refine (unhide H1 _).mono ?_
 rintro e w2 ⟨rfl,hb2⟩
 replace hS:=hS.kept hb2
 go_wp2
 go_ret
 exact ⟨by first|rfl|simp [hr]|simp [hr2],hS.fr⟩
theorem nonetimes (fl:Int) (t:TypeId) (y:Value) (w:World)  :
  Calls Tryz.prog 119 #[.agg #[.int .u8 fl],.iface t y] w fun e w'=>e = .returned (.iface 65 (.agg #[.int .u8 fl]))∧Below w.heap.size w w':=by
 go_enter Tryz.func119,Tryz.ntmps119
 go_wp2
 go_ret
 exact ⟨rfl,(Fs.one w _ _).fr⟩
theorem inftimes_nou (neg neg2:Bool) (fl fl2:Int) (w:World)  :
  Calls Tryz.prog 129 #[.agg #[.bool neg,.int .u8 fl],.iface 114 (.agg #[.bool neg2,.int .u8 fl2])] w fun e w'=>e = .returned (.iface 65 (.agg #[.int .u8 16]))∧Below w.heap.size w w':=by
 go_enter Tryz.func129,Tryz.ntmps129
 have ha:=run_as_self (T:=114) (v:=.agg #[.bool neg2,.int .u8 fl2]) (by kernel_rfl) 37
 go_wp2_with fail
 refine (invalid_is _).mono ?_
 rintro e w1 ⟨rfl,hb1⟩
 have hS:=(Fs.one w _ _).kept hb1
 obtain ⟨⟨ya,yb,-⟩,-⟩:=hS.cells
 go_wp2
 go_ret
 exact ⟨rfl,hS.fr⟩
theorem inftimes_o (neg:Bool) (fl:Int) (t:TypeId) (y:Value) (s r:Bool) (hr:(neg != s) = r) (hn:Ng t y s) (ht:t≠114) (w:World)  :
  Calls Tryz.prog 129 #[.agg #[.bool neg,.int .u8 fl],.iface t y] w fun e w'=>e = .returned (.iface 113 (.agg #[.bool r,.int .u8 0]))∧Below w.heap.size w w':=by
 have HN:=hide hn
 clear hn
 go_enter Tryz.func129,Tryz.ntmps129
 have ha:=as_no (T:=114) (v:=y) (z:=.agg #[.bool false,.int .u8 0]) (by kernel_rfl) (by kernel_rfl) ht
 go_wp2_with fail
 refine (othersign_is _ _ _ _ neg s r hr (ng_inf neg fl) (unhide HN) _).mono ?_
 rintro e w1 ⟨rfl,hb1⟩
 have hS:=(Fs.one w _ _).kept hb1
 obtain ⟨⟨ya,yb,-⟩,-⟩:=hS.cells
 go_wp2
 go_ret
 exact ⟨rfl,hS.fr⟩
theorem noutimes_inf (neg neg2:Bool) (fl fl2:Int) (w:World)  :
  Calls Tryz.prog 140 #[.agg #[.bool neg,.int .u8 fl],.iface 113 (.agg #[.bool neg2,.int .u8 fl2])] w fun e w'=>e = .returned (.iface 65 (.agg #[.int .u8 16]))∧Below w.heap.size w w':=by
 go_enter Tryz.func140,Tryz.ntmps140
 have ha:=run_as_self (T:=113) (v:=.agg #[.bool neg2,.int .u8 fl2]) (by kernel_rfl) 37
 go_wp2_with fail
 refine (invalid_is _).mono ?_
 rintro e w1 ⟨rfl,hb1⟩
 have hS:=(Fs.one w _ _).kept hb1
 obtain ⟨⟨ya,yb,-⟩,-⟩:=hS.cells
 go_wp2
 go_ret
 exact ⟨rfl,hS.fr⟩
theorem noutimes_o (neg:Bool) (fl:Int) (t:TypeId) (y:Value) (s r:Bool) (hr:(neg != s) = r) (hn:Ng t y s) (ht:t≠113) (w:World)  :
  Calls Tryz.prog 140 #[.agg #[.bool neg,.int .u8 fl],.iface t y] w fun e w'=>e = .returned (.iface 114 (.agg #[.bool r,.int .u8 0]))∧Below w.heap.size w w':=by
 have HN:=hide hn
 clear hn
 go_enter Tryz.func140,Tryz.ntmps140
 have ha:=as_no (T:=113) (v:=y) (z:=.agg #[.bool false,.int .u8 0]) (by kernel_rfl) (by kernel_rfl) ht
 go_wp2_with fail
 refine (othersign_is _ _ _ _ neg s r hr (ng_nou neg fl) (unhide HN) _).mono ?_
 rintro e w1 ⟨rfl,hb1⟩
 have hS:=(Fs.one w _ _).kept hb1
 obtain ⟨⟨ya,yb,-⟩,-⟩:=hS.cells
 go_wp2
 go_ret
 exact ⟨rfl,hS.fr⟩
theorem numtimes_num (s:Bool) (a:Option Addr) (n cap m:Nat) (x fl:Int) (s':Bool) (a':Option Addr) (n' cap' m':Nat) (x' fl':Int) (r:Bool) (v:Nat) (y:Int) (w:World) (h:Num w a n m) (h':Num w a' n' m') (HS:Hid (ProdsM s m x s' m' x' 0 r v y)) :
  Calls Tryz.prog 150 #[.agg #[.bool s,.slice a n cap,.int .i64 x,.int .u8 fl],.iface 116 (.agg #[.bool s',.slice a' n' cap',.int .i64 x',.int .u8 fl'])] w fun e w'=>(∃ A N C,e = .returned (.iface 116 (.agg #[.bool r,.slice A N C,.int .i64 y,.int .u8 0]))∧Mine w' w.heap.size A N C v)∧Below w.heap.size w w':=by
 have H:=hide h
 have H':=hide h'
 clear h h'
 go_enter Tryz.func150,Tryz.ntmps150
 have ha:=run_as_self (T:=116) (v:=.agg #[.bool s',.slice a' n' cap',.int .i64 x',.int .u8 fl']) (by kernel_rfl) 37
 have hS:Fs w (w.alloc (.cells #[.bool s,.slice a n cap,.int .i64 x,.int .u8 fl] 116)) [⟨w.heap.size,#[.bool s,.slice a n cap,.int .i64 x,.int .u8 fl],116⟩]:=Fs.one w _ _
 obtain ⟨⟨ya,yb,yc,yd,-⟩,-⟩:=hS.cells
 obtain ⟨WB,hWB⟩:∃ z9,(w.alloc (.cells #[.bool s,.slice a n cap,.int .i64 x,.int .u8 fl] 116)) = z9:=⟨_,rfl⟩
 rw [hWB] at hS ya yb yc yd
 have hltWB_0:w.heap.size < WB.heap.size:=hS.lt 0 rfl
 obtain ⟨WV,hWV⟩:∃ WV,WB.alloc (.cells #[.bool s',.slice a' n' cap',.int .i64 x',.int .u8 fl'] 116) = WV:=⟨_,rfl⟩
 replace hS:=hS.alloc #[.bool s',.slice a' n' cap',.int .i64 x',.int .u8 fl'] 116
 rw [hWV] at hS
 obtain ⟨⟨ye,yf,yg,yh,-⟩,⟨yi,yj,yk,yl,-⟩,-⟩:=hS.cells
 have hsV:=hS.size
 go_wp2_with fail
 refine (unhide HS _ _ _ _ _ _ _ ((unhide H).kept hS.fr) ((unhide H').kept hS.fr)).mono ?_
 rintro e w1 ⟨⟨A1,N1,C1,rfl,f1⟩,hb1⟩
 replace hS:=hS.kept hb1
 clear ye yf yg yh yi yj yk yl ya yb yc yd
 obtain ⟨⟨ym,yn,yo,yp,-⟩,⟨yq,yr,ys,yt,-⟩,-⟩:=hS.cells
 have G1:=hide (f1.mono (base':=w.heap.size) hsV)
 clear f1
 have hltw1_0:WB.heap.size < w1.heap.size:=hS.lt 0 rfl
 have hltw1_1:w.heap.size < w1.heap.size:=hS.lt 1 rfl
 obtain ⟨WU,hWU⟩:∃ WU,w1.alloc (.cells #[.bool r,.slice A1 N1 C1,.int .i64 y] 46) = WU:=⟨_,rfl⟩
 replace hS:=hS.alloc #[.bool r,.slice A1 N1 C1,.int .i64 y] 46
 rw [hWU] at hS
 replace G1:=hide (hWU▸(unhide G1).alloc (.cells #[.bool r,.slice A1 N1 C1,.int .i64 y] 46))
 clear ym yn yo yp yq yr ys yt
 obtain ⟨⟨yu,yv,yw,-⟩,⟨yx,yy,yz,y0,-⟩,⟨y1,y2,y3,y4,-⟩,-⟩:=hS.cells
 go_wp2
 go_ret
 exact ⟨⟨_,_,_,rfl,unhide G1⟩,hS.fr⟩
theorem numtimes_inf (s:Bool) (a:Option Addr) (n cap:Nat) (x fl fl2:Int) (neg2 r:Bool) (hr:(neg2 != s) = r) (w:World)  :
  Calls Tryz.prog 150 #[.agg #[.bool s,.slice a n cap,.int .i64 x,.int .u8 fl],.iface 113 (.agg #[.bool neg2,.int .u8 fl2])] w fun e w'=>e = .returned (.iface 113 (.agg #[.bool r,.int .u8 0]))∧Below w.heap.size w w':=by
 go_enter Tryz.func150,Tryz.ntmps150
 have ha:=as_no (T:=116) (t:=113) (v:=.agg #[.bool neg2,.int .u8 fl2]) (z:=.agg #[.bool false,.slice none 0 0,.int .i64 0,.int .u8 0]) (by kernel_rfl) (by kernel_rfl) (by decide)
 have hm : ∀ w : World, (method 301 113 (.agg #[.bool neg2, .int .u8 fl2]) "numeral/soft.times").run Tryz.prog w = .ok (129, .agg #[.bool neg2, .int .u8 fl2]) w := fun _ => by kernel_rfl
 go_wp2_with fail
 refine (inftimes_o neg2 fl2 _ _ s r hr (ng_num s a n cap x fl) (by decide) _).mono ?_
 rintro e w1 ⟨rfl,hb1⟩
 have hS:=(Fs.one w _ _).kept hb1
 obtain ⟨⟨ya,yb,yc,yd,-⟩,-⟩:=hS.cells
 go_wp2
 go_ret
 exact ⟨rfl,hS.fr⟩
theorem numtimes_nou (s:Bool) (a:Option Addr) (n cap:Nat) (x fl fl2:Int) (neg2 r:Bool) (hr:(neg2 != s) = r) (w:World)  :
  Calls Tryz.prog 150 #[.agg #[.bool s,.slice a n cap,.int .i64 x,.int .u8 fl],.iface 114 (.agg #[.bool neg2,.int .u8 fl2])] w fun e w'=>e = .returned (.iface 114 (.agg #[.bool r,.int .u8 0]))∧Below w.heap.size w w':=by
 go_enter Tryz.func150,Tryz.ntmps150
 have ha:=as_no (T:=116) (t:=114) (v:=.agg #[.bool neg2,.int .u8 fl2]) (z:=.agg #[.bool false,.slice none 0 0,.int .i64 0,.int .u8 0]) (by kernel_rfl) (by kernel_rfl) (by decide)
 have hm : ∀ w : World, (method 301 114 (.agg #[.bool neg2, .int .u8 fl2]) "numeral/soft.times").run Tryz.prog w = .ok (140, .agg #[.bool neg2, .int .u8 fl2]) w := fun _ => by kernel_rfl
 go_wp2_with fail
 refine (noutimes_o neg2 fl2 _ _ s r hr (ng_num s a n cap x fl) (by decide) _).mono ?_
 rintro e w1 ⟨rfl,hb1⟩
 have hS:=(Fs.one w _ _).kept hb1
 obtain ⟨⟨ya,yb,yc,yd,-⟩,-⟩:=hS.cells
 go_wp2
 go_ret
 exact ⟨rfl,hS.fr⟩
theorem fma1_pp (q pm fn fm : Nat) (t0 t1 t2 : TypeId) (y0 y1 y2 : Value) (md : Int) (t3 : TypeId) (y3 : Value) (t : TypeId) (y : Value) (w : World) (hq : w.heap[q]? = some (.cells #[.iface t0 y0, .iface t1 y1, .iface t2 y2] 37 (0, 0))) (hp : w.heap[pm]? = some (.cells #[.int .u8 md] 5 (0, 0))) (hm : (∀ w : World, (method 301 t0 (y0) "numeral/soft.times").run Tryz.prog w = .ok (fn, y0) w)) (hcf : ∀ (args : Array Value) (w : World), (callFunc fn args).run Tryz.prog w = .ok (.enter fn args) w) (HC : Hid (∀ W : World, Below w.heap.size w W → Calls Tryz.prog fn #[y0, .iface t1 y1] W fun e w' => e = .returned (.iface t3 y3) ∧ Below W.heap.size W w')) (hna : ∀ w : World, (nilAhead 301 t3 y3 "numeral/soft.plus").run Tryz.prog w = .ok (some false) w) (hm2 : (∀ w : World, (method 301 t3 (y3) "numeral/soft.plus").run Tryz.prog w = .ok (fm, y3) w)) (hcm : ∀ (args : Array Value) (w : World), (callFunc fm args).run Tryz.prog w = .ok (.enter fm args) w) (HC2 : Hid (∀ W : World, Below w.heap.size w W → Calls Tryz.prog fm #[y3, .iface t2 y2, .int .u8 md] W fun e w' => e = .returned (.iface t y) ∧ Below W.heap.size W w')) :
  Calls Tryz.prog 8 #[.slice (some ⟨q,0,none⟩) 3 3,.pointer (some ⟨pm,0,none⟩)] w fun e w'=>e = .returned (.iface t y)∧Below w.heap.size w w':=by
 go_enter Tryz.func8,Tryz.ntmps8
 have hS:Fs w w [⟨q,#[.iface t0 y0,.iface t1 y1,.iface t2 y2],37⟩,⟨pm,#[.int .u8 md],5⟩]:=⟨fun x hx=>by simp only [List.mem_cons,List.not_mem_nil,or_false] at hx; rcases hx with rfl|rfl; exact hq; exact hp,Below.refl _ _⟩
 have hol0:q < w.heap.size:=block_lt hq
 have hol1:pm < w.heap.size:=block_lt hp
 clear hq hp
 obtain ⟨⟨ya,yb,yc,-⟩,⟨yd,-⟩,-⟩:=hS.cells
 go_wp2_with fail
 have hS3s:w.heap.size≤w.heap.size:=hS.size
 have hs9:∀ x9:Nat×(Pk→World→Prop),x9∈([(18,fun _ W=>True)]:List (Nat×(Pk→World→Prop)))→∀ q9:Pk,St 0 (x9.2 q9):=by
  intro x hx q
  simp only [List.mem_cons,List.not_mem_nil,or_false] at hx
  rcases hx with rfl
  ·exact st_true7
 have h09:∀ x9:Nat×(Pk→World→Prop),x9∈([(18,fun _ W=>True)]:List (Nat×(Pk→World→Prop)))→18≤x9.1→x9.2 ⟨none,0,0⟩ w:=by
  intro x hx hn9
  simp only [List.mem_cons,List.not_mem_nil,or_false] at hx
  rcases hx with rfl
  ·exact trivial
 refine wp_region_any (by kernel_rfl) ?_
 refine wpAny_pick (fun p9 => [some (4, .slice (some ⟨q, 0, none⟩) 3 3), some (5, .pointer (some ⟨q, 0, none⟩)), some (6, .iface t0 y0), some (7, .slice (some ⟨q, 0, none⟩) 3 3), some (8, .pointer (some ⟨q, 1, none⟩)), some (9, .iface t1 y1), some (10, .iface t0 y0), some (11, .iface t0 y0), some (12, .iface t3 y3), some (13, .slice (some ⟨q, 0, none⟩) 3 3), some (14, .pointer (some ⟨q, 2, none⟩)), some (15, .iface t2 y2), some (16, .int .u8 md), some (17, .func (Fn.method "numeral/soft.plus") #[.iface t3 y3] #[]), some (18, .func (Fn.method "numeral/soft.plus") #[.iface t3 y3] #[]), some (19, .iface t3 y3), some (20, .iface t y), some (3, .iface t y)])
  (fun p9 l9 W9=>Pm w 0 [(18,fun _ W=>True)] p9 l9 W9 [⟨q,#[.iface t0 y0,.iface t1 y1,.iface t2 y2],37⟩,⟨pm,#[.int .u8 md],5⟩]) _ _ (fun _=>rfl) (by kernel_rfl) (fun _=>rfl) (fun _=>rfl) ?_ ?_ (fun _=>⟨none,0,0⟩) (Pm.start2 hS _ _ _ (Nat.zero_le _) hs9 h09)
 ·intro p9 l9 t9 W9 i9 hD hi9 hl9 hM
  obtain ⟨o9,ho9,hd9⟩:=(mem_ready.1 hi9).2
  have hin9:i9 < 18:=by
   by_cases h:i9 < 18
   ·exact h
   ·rw [Array.getElem?_eq_none (by rw [hD.len]; simp; omega)] at hl9; cases hl9
  have hcase:i9 = 0∨i9 = 1∨i9 = 2∨i9 = 3∨i9 = 4∨i9 = 5∨i9 = 6∨i9 = 7∨i9 = 8∨i9 = 9∨i9 = 10∨i9 = 11∨i9 = 12∨i9 = 13∨i9 = 14∨i9 = 15∨i9 = 16∨i9 = 17:=by omega
  clear hin9
  rcases hcase with rfl|rfl|rfl|rfl|rfl|rfl|rfl|rfl|rfl|rfl|rfl|rfl|rfl|rfl|rfl|rfl|rfl|rfl
  ·cases ho9
   have r0:=hD.old 0 _ rfl rfl
   refine wpOp_step rfl fun K hK=>?_
   go_simp
   exact hK _ _ ⟨p9,fun _ _=>by first|exact rfl|trivial,rfl,(hM.val rfl)⟩
  ·cases ho9
   have r4:=hD.od hd9 0 4 _ rfl (by simp)
   refine wpOp_step rfl fun K hK=>?_
   go_simp
   exact hK _ _ ⟨p9,fun _ _=>by first|exact rfl|trivial,rfl,(hM.val rfl)⟩
  ·cases ho9
   have r5:=hD.od hd9 1 5 _ rfl (by simp)
   have hM0:=hM.st
   have c9_0:=hM0.cellAt (b:=q) (cs:=#[.iface t0 y0,.iface t1 y1,.iface t2 y2]) (t:=37) (by simp) 0 _ rfl
   clear hM0
   refine wpOp_step rfl fun K hK=>?_
   go_simp
   exact hK _ _ ⟨p9,fun _ _=>by first|exact rfl|trivial,rfl,(hM.val rfl)⟩
  ·cases ho9
   have r0:=hD.old 0 _ rfl rfl
   refine wpOp_step rfl fun K hK=>?_
   go_simp
   exact hK _ _ ⟨p9,fun _ _=>by first|exact rfl|trivial,rfl,(hM.val rfl)⟩
  ·cases ho9
   have r7:=hD.od hd9 3 7 _ rfl (by simp)
   refine wpOp_step rfl fun K hK=>?_
   go_simp
   exact hK _ _ ⟨p9,fun _ _=>by first|exact rfl|trivial,rfl,(hM.val rfl)⟩
  ·cases ho9
   have r8:=hD.od hd9 4 8 _ rfl (by simp)
   have hM0:=hM.st
   have c9_0:=hM0.cellAt (b:=q) (cs:=#[.iface t0 y0,.iface t1 y1,.iface t2 y2]) (t:=37) (by simp) 1 _ rfl
   clear hM0
   refine wpOp_step rfl fun K hK=>?_
   go_simp
   exact hK _ _ ⟨p9,fun _ _=>by first|exact rfl|trivial,rfl,(hM.val rfl)⟩
  ·cases ho9
   have r6:=hD.od hd9 2 6 _ rfl (by simp)
   refine wpOp_step rfl fun K hK=>?_
   go_simp
   exact hK _ _ ⟨p9,fun _ _=>by first|exact rfl|trivial,rfl,(hM.val rfl)⟩
  ·cases ho9
   have r6:=hD.od hd9 2 6 _ rfl (by simp)
   refine wpOp_step rfl fun K hK=>?_
   go_simp
   exact hK _ _ ⟨p9,fun _ _=>by first|exact rfl|trivial,rfl,(hM.val rfl)⟩
  ·cases ho9
   have r11:=hD.od hd9 7 11 _ rfl (by simp)
   have r9:=hD.od hd9 5 9 _ rfl (by simp)
   have ga0:=hM.fx _ (List.mem_of_getElem? (i:=0) rfl) (Or.inr (by rw [hD.len]; simp))
   try simp only [] at ga0
   refine wpOp_step rfl fun K hK=>?_
   go_simp
   go_wp2_with fail
   refine (unhide HC _ hM.st.fr).mono ?_
   rintro en w9 ⟨rfl,hb9⟩
   exact hK _ _ ⟨p9,fun _ _=>by first|exact rfl|trivial,rfl,((hM.kept hs9 hb9).val rfl)⟩
  ·cases ho9
   have r0:=hD.old 0 _ rfl rfl
   refine wpOp_step rfl fun K hK=>?_
   go_simp
   exact hK _ _ ⟨p9,fun _ _=>by first|exact rfl|trivial,rfl,(hM.val rfl)⟩
  ·cases ho9
   have r13:=hD.od hd9 9 13 _ rfl (by simp)
   refine wpOp_step rfl fun K hK=>?_
   go_simp
   exact hK _ _ ⟨p9,fun _ _=>by first|exact rfl|trivial,rfl,(hM.val rfl)⟩
  ·cases ho9
   have r14:=hD.od hd9 10 14 _ rfl (by simp)
   have hM0:=hM.st
   have c9_0:=hM0.cellAt (b:=q) (cs:=#[.iface t0 y0,.iface t1 y1,.iface t2 y2]) (t:=37) (by simp) 2 _ rfl
   clear hM0
   refine wpOp_step rfl fun K hK=>?_
   go_simp
   exact hK _ _ ⟨p9,fun _ _=>by first|exact rfl|trivial,rfl,(hM.val rfl)⟩
  ·cases ho9
   have r1:=hD.old 1 _ rfl rfl
   have hM0:=hM.st
   have c9_0:=hM0.cellAt (b:=pm) (cs:=#[.int .u8 md]) (t:=5) (by simp) 0 _ rfl
   clear hM0
   refine wpOp_step rfl fun K hK=>?_
   go_simp
   exact hK _ _ ⟨p9,fun _ _=>by first|exact rfl|trivial,rfl,(hM.val rfl)⟩
  ·cases ho9
   have r12:=hD.od hd9 8 12 _ rfl (by simp)
   refine wpOp_step rfl fun K hK=>?_
   go_simp
   exact hK _ _ ⟨p9,fun _ _=>by first|exact rfl|trivial,rfl,(hM.val rfl)⟩
  ·cases ho9
   have r17:=hD.od hd9 13 17 _ rfl (by simp)
   refine wpOp_step rfl fun K hK=>?_
   go_simp
   exact hK _ _ ⟨p9,fun _ _=>by first|exact rfl|trivial,rfl,(hM.val rfl)⟩
  ·cases ho9
   have r12:=hD.od hd9 8 12 _ rfl (by simp)
   refine wpOp_step rfl fun K hK=>?_
   go_simp
   exact hK _ _ ⟨p9,fun _ _=>by first|exact rfl|trivial,rfl,(hM.val rfl)⟩
  ·cases ho9
   have r19:=hD.od hd9 15 19 _ rfl (by simp)
   have r15:=hD.od hd9 11 15 _ rfl (by simp)
   have r16:=hD.od hd9 12 16 _ rfl (by simp)
   have ga0:=hM.fx _ (List.mem_of_getElem? (i:=0) rfl) (Or.inr (by rw [hD.len]; simp))
   try simp only [] at ga0
   refine wpOp_step rfl fun K hK=>?_
   go_simp
   go_wp2_with fail
   refine (unhide HC2 _ hM.st.fr).mono ?_
   rintro en w9 ⟨rfl,hb9⟩
   exact hK _ _ ⟨p9,fun _ _=>by first|exact rfl|trivial,rfl,((hM.kept hs9 hb9).val rfl)⟩
  ·cases ho9
   have r20:=hD.od hd9 16 20 _ rfl (by simp)
   refine wpOp_step rfl fun K hK=>?_
   go_simp
   exact hK _ _ ⟨p9,fun _ _=>by first|exact rfl|trivial,rfl,(hM.val rfl)⟩
 ·intro p9 l9 W9 hn9 hl9 hM
  have kr1_0:=hM.fx _ (List.mem_of_getElem? (i:=0) rfl) (Or.inr (by rw [hn9]; simp))
  try simp only [] at kr1_0
  replace hM:=hM.st
  clear hl9 hs9 h09 hn9
  clear hS ya yb yc yd
  have hS:=hM
  clear hM
  simp only [Puts.lay,List.setIfInBounds_toArray,List.set_cons_zero,List.set_cons_succ]
  obtain ⟨⟨ye,yf,yg,-⟩,⟨yh,-⟩,-⟩:=hS.cells
  go_wp2
  go_ret
  exact ⟨rfl,hS.fr⟩
theorem fma1_pn (q pm fn fm : Nat) (t0 t1 t2 : TypeId) (y0 y1 y2 : Value) (md : Int) (t3 : TypeId) (y3 : Value) (r : Bool) (v : Nat) (y fl2 : Int) (w : World) (hq : w.heap[q]? = some (.cells #[.iface t0 y0, .iface t1 y1, .iface t2 y2] 37 (0, 0))) (hp : w.heap[pm]? = some (.cells #[.int .u8 md] 5 (0, 0))) (hm : (∀ w : World, (method 301 t0 (y0) "numeral/soft.times").run Tryz.prog w = .ok (fn, y0) w)) (hcf : ∀ (args : Array Value) (w : World), (callFunc fn args).run Tryz.prog w = .ok (.enter fn args) w) (HC : Hid (∀ W : World, Below w.heap.size w W → Calls Tryz.prog fn #[y0, .iface t1 y1] W fun e w' => e = .returned (.iface t3 y3) ∧ Below W.heap.size W w')) (hna : ∀ w : World, (nilAhead 301 t3 y3 "numeral/soft.plus").run Tryz.prog w = .ok (some false) w) (hm2 : (∀ w : World, (method 301 t3 (y3) "numeral/soft.plus").run Tryz.prog w = .ok (fm, y3) w)) (hcm : ∀ (args : Array Value) (w : World), (callFunc fm args).run Tryz.prog w = .ok (.enter fm args) w) (HC2 : Hid (∀ W : World, Below w.heap.size w W → Calls Tryz.prog fm #[y3, .iface t2 y2, .int .u8 md] W fun e w' => (∃ A N C, e = .returned (.iface 116 (.agg #[.bool r, .slice A N C, .int .i64 y, .int .u8 fl2])) ∧ Mine w' 0 A N C v) ∧ Below W.heap.size W w')) :
  Calls Tryz.prog 8 #[.slice (some ⟨q,0,none⟩) 3 3,.pointer (some ⟨pm,0,none⟩)] w fun e w'=>(∃ A N C,e = .returned (.iface 116 (.agg #[.bool r,.slice A N C,.int .i64 y,.int .u8 fl2]))∧Mine w' 0 A N C v)∧Below w.heap.size w w':=by
 go_enter Tryz.func8,Tryz.ntmps8
 have hS:Fs w w [⟨q,#[.iface t0 y0,.iface t1 y1,.iface t2 y2],37⟩,⟨pm,#[.int .u8 md],5⟩]:=⟨fun x hx=>by simp only [List.mem_cons,List.not_mem_nil,or_false] at hx; rcases hx with rfl|rfl; exact hq; exact hp,Below.refl _ _⟩
 have hol0:q < w.heap.size:=block_lt hq
 have hol1:pm < w.heap.size:=block_lt hp
 clear hq hp
 obtain ⟨⟨ya,yb,yc,-⟩,⟨yd,-⟩,-⟩:=hS.cells
 go_wp2_with fail
 have hS3s:w.heap.size≤w.heap.size:=hS.size
 have hs9:∀ x9:Nat×(Pk→World→Prop),x9∈([(16,fun q9 W=>Mine W 0 q9.A q9.N q9.C v),(18,fun _ W=>True)]:List (Nat×(Pk→World→Prop)))→∀ q9:Pk,St 0 (x9.2 q9):=by
  intro x hx q
  simp only [List.mem_cons,List.not_mem_nil,or_false] at hx
  rcases hx with rfl|rfl
  ·exact st_mine7 _ _ _ _
  ·exact st_true7
 have h09:∀ x9:Nat×(Pk→World→Prop),x9∈([(16,fun q9 W=>Mine W 0 q9.A q9.N q9.C v),(18,fun _ W=>True)]:List (Nat×(Pk→World→Prop)))→18≤x9.1→x9.2 ⟨none,0,0⟩ w:=by
  intro x hx hn9
  simp only [List.mem_cons,List.not_mem_nil,or_false] at hx
  rcases hx with rfl|rfl
  ·exact absurd hn9 (by simp)
  ·exact trivial
 refine wp_region_any (by kernel_rfl) ?_
 refine wpAny_pick (fun p9 => [some (4, .slice (some ⟨q, 0, none⟩) 3 3), some (5, .pointer (some ⟨q, 0, none⟩)), some (6, .iface t0 y0), some (7, .slice (some ⟨q, 0, none⟩) 3 3), some (8, .pointer (some ⟨q, 1, none⟩)), some (9, .iface t1 y1), some (10, .iface t0 y0), some (11, .iface t0 y0), some (12, .iface t3 y3), some (13, .slice (some ⟨q, 0, none⟩) 3 3), some (14, .pointer (some ⟨q, 2, none⟩)), some (15, .iface t2 y2), some (16, .int .u8 md), some (17, .func (Fn.method "numeral/soft.plus") #[.iface t3 y3] #[]), some (18, .func (Fn.method "numeral/soft.plus") #[.iface t3 y3] #[]), some (19, .iface t3 y3), some (20, .iface 116 (.agg #[.bool r, .slice (p9 16).A (p9 16).N (p9 16).C, .int .i64 y, .int .u8 fl2])), some (3, .iface 116 (.agg #[.bool r, .slice (p9 16).A (p9 16).N (p9 16).C, .int .i64 y, .int .u8 fl2]))])
  (fun p9 l9 W9=>Pm w 0 [(16,fun q9 W=>Mine W 0 q9.A q9.N q9.C v),(18,fun _ W=>True)] p9 l9 W9 [⟨q,#[.iface t0 y0,.iface t1 y1,.iface t2 y2],37⟩,⟨pm,#[.int .u8 md],5⟩]) _ _ (fun _=>rfl) (by kernel_rfl) (fun _=>rfl) (fun _=>rfl) ?_ ?_ (fun _=>⟨none,0,0⟩) (Pm.start2 hS _ _ _ (Nat.zero_le _) hs9 h09)
 ·intro p9 l9 t9 W9 i9 hD hi9 hl9 hM
  obtain ⟨o9,ho9,hd9⟩:=(mem_ready.1 hi9).2
  have hin9:i9 < 18:=by
   by_cases h:i9 < 18
   ·exact h
   ·rw [Array.getElem?_eq_none (by rw [hD.len]; simp; omega)] at hl9; cases hl9
  have hcase:i9 = 0∨i9 = 1∨i9 = 2∨i9 = 3∨i9 = 4∨i9 = 5∨i9 = 6∨i9 = 7∨i9 = 8∨i9 = 9∨i9 = 10∨i9 = 11∨i9 = 12∨i9 = 13∨i9 = 14∨i9 = 15∨i9 = 16∨i9 = 17:=by omega
  clear hin9
  rcases hcase with rfl|rfl|rfl|rfl|rfl|rfl|rfl|rfl|rfl|rfl|rfl|rfl|rfl|rfl|rfl|rfl|rfl|rfl
  ·cases ho9
   have r0:=hD.old 0 _ rfl rfl
   refine wpOp_step rfl fun K hK=>?_
   go_simp
   exact hK _ _ ⟨p9,fun _ _=>rfl,rfl,(hM.val rfl)⟩
  ·cases ho9
   have r4:=hD.od hd9 0 4 _ rfl (by simp)
   refine wpOp_step rfl fun K hK=>?_
   go_simp
   exact hK _ _ ⟨p9,fun _ _=>rfl,rfl,(hM.val rfl)⟩
  ·cases ho9
   have r5:=hD.od hd9 1 5 _ rfl (by simp)
   have hM0:=hM.st
   have c9_0:=hM0.cellAt (b:=q) (cs:=#[.iface t0 y0,.iface t1 y1,.iface t2 y2]) (t:=37) (by simp) 0 _ rfl
   clear hM0
   refine wpOp_step rfl fun K hK=>?_
   go_simp
   exact hK _ _ ⟨p9,fun _ _=>rfl,rfl,(hM.val rfl)⟩
  ·cases ho9
   have r0:=hD.old 0 _ rfl rfl
   refine wpOp_step rfl fun K hK=>?_
   go_simp
   exact hK _ _ ⟨p9,fun _ _=>rfl,rfl,(hM.val rfl)⟩
  ·cases ho9
   have r7:=hD.od hd9 3 7 _ rfl (by simp)
   refine wpOp_step rfl fun K hK=>?_
   go_simp
   exact hK _ _ ⟨p9,fun _ _=>rfl,rfl,(hM.val rfl)⟩
  ·cases ho9
   have r8:=hD.od hd9 4 8 _ rfl (by simp)
   have hM0:=hM.st
   have c9_0:=hM0.cellAt (b:=q) (cs:=#[.iface t0 y0,.iface t1 y1,.iface t2 y2]) (t:=37) (by simp) 1 _ rfl
   clear hM0
   refine wpOp_step rfl fun K hK=>?_
   go_simp
   exact hK _ _ ⟨p9,fun _ _=>rfl,rfl,(hM.val rfl)⟩
  ·cases ho9
   have r6:=hD.od hd9 2 6 _ rfl (by simp)
   refine wpOp_step rfl fun K hK=>?_
   go_simp
   exact hK _ _ ⟨p9,fun _ _=>rfl,rfl,(hM.val rfl)⟩
  ·cases ho9
   have r6:=hD.od hd9 2 6 _ rfl (by simp)
   refine wpOp_step rfl fun K hK=>?_
   go_simp
   exact hK _ _ ⟨p9,fun _ _=>rfl,rfl,(hM.val rfl)⟩
  ·cases ho9
   have r11:=hD.od hd9 7 11 _ rfl (by simp)
   have r9:=hD.od hd9 5 9 _ rfl (by simp)
   have ga0:=hM.fx _ (List.mem_of_getElem? (i:=1) rfl) (Or.inr (by rw [hD.len]; simp))
   try simp only [] at ga0
   refine wpOp_step rfl fun K hK=>?_
   go_simp
   go_wp2_with fail
   refine (unhide HC _ hM.st.fr).mono ?_
   rintro en w9 ⟨rfl,hb9⟩
   exact hK _ _ ⟨p9,fun _ _=>rfl,rfl,((hM.kept hs9 hb9).val rfl)⟩
  ·cases ho9
   have r0:=hD.old 0 _ rfl rfl
   refine wpOp_step rfl fun K hK=>?_
   go_simp
   exact hK _ _ ⟨p9,fun _ _=>rfl,rfl,(hM.val rfl)⟩
  ·cases ho9
   have r13:=hD.od hd9 9 13 _ rfl (by simp)
   refine wpOp_step rfl fun K hK=>?_
   go_simp
   exact hK _ _ ⟨p9,fun _ _=>rfl,rfl,(hM.val rfl)⟩
  ·cases ho9
   have r14:=hD.od hd9 10 14 _ rfl (by simp)
   have hM0:=hM.st
   have c9_0:=hM0.cellAt (b:=q) (cs:=#[.iface t0 y0,.iface t1 y1,.iface t2 y2]) (t:=37) (by simp) 2 _ rfl
   clear hM0
   refine wpOp_step rfl fun K hK=>?_
   go_simp
   exact hK _ _ ⟨p9,fun _ _=>rfl,rfl,(hM.val rfl)⟩
  ·cases ho9
   have r1:=hD.old 1 _ rfl rfl
   have hM0:=hM.st
   have c9_0:=hM0.cellAt (b:=pm) (cs:=#[.int .u8 md]) (t:=5) (by simp) 0 _ rfl
   clear hM0
   refine wpOp_step rfl fun K hK=>?_
   go_simp
   exact hK _ _ ⟨p9,fun _ _=>rfl,rfl,(hM.val rfl)⟩
  ·cases ho9
   have r12:=hD.od hd9 8 12 _ rfl (by simp)
   refine wpOp_step rfl fun K hK=>?_
   go_simp
   exact hK _ _ ⟨p9,fun _ _=>rfl,rfl,(hM.val rfl)⟩
  ·cases ho9
   have r17:=hD.od hd9 13 17 _ rfl (by simp)
   refine wpOp_step rfl fun K hK=>?_
   go_simp
   exact hK _ _ ⟨p9,fun _ _=>rfl,rfl,(hM.val rfl)⟩
  ·cases ho9
   have r12:=hD.od hd9 8 12 _ rfl (by simp)
   refine wpOp_step rfl fun K hK=>?_
   go_simp
   exact hK _ _ ⟨p9,fun _ _=>rfl,rfl,(hM.val rfl)⟩
  ·cases ho9
   have r19:=hD.od hd9 15 19 _ rfl (by simp)
   have r15:=hD.od hd9 11 15 _ rfl (by simp)
   have r16:=hD.od hd9 12 16 _ rfl (by simp)
   have ga0:=hM.fx _ (List.mem_of_getElem? (i:=1) rfl) (Or.inr (by rw [hD.len]; simp))
   try simp only [] at ga0
   have HD:=hide hD
   refine wpOp_step rfl fun K hK=>?_
   go_simp
   go_wp2_with fail
   refine (unhide HC2 _ hM.st.fr).mono ?_
   rintro en w9 ⟨⟨a9,n9,c9,rfl,h9⟩,hb9⟩
   refine hK _ _ ⟨p9.set 16 ⟨a9,n9,c9⟩,?_,rfl,((hM.kept hs9 hb9).pick ⟨a9,n9,c9⟩ ?_)⟩
   ·intro k9 hk9
    clear hM hK
    match k9,hk9 with
    | 0,_=>rfl
    | 1,_=>rfl
    | 2,_=>rfl
    | 3,_=>rfl
    | 4,_=>rfl
    | 5,_=>rfl
    | 6,_=>rfl
    | 7,_=>rfl
    | 8,_=>rfl
    | 9,_=>rfl
    | 10,_=>rfl
    | 11,_=>rfl
    | 12,_=>rfl
    | 13,_=>rfl
    | 14,_=>rfl
    | 15,_=>rfl
    | 16,hk9=>exact absurd (hl9.symm.trans hk9) (by simp)
    | 17,hk9=>exact absurd (hl9.symm.trans (getD_true ((unhide HD).shut 17 _ (hk9) rfl ⟨16,.data⟩ (by simp) rfl))) (by simp)
    | k9+18,_=>rfl
   ·intro x hx he; simp only [List.mem_cons,List.not_mem_nil,or_false] at hx; rcases hx with rfl|rfl
    ·exact h9
    ·exact absurd he (by simp)
  ·cases ho9
   have r20:=hD.od hd9 16 20 _ rfl (by simp)
   refine wpOp_step rfl fun K hK=>?_
   go_simp
   exact hK _ _ ⟨p9,fun _ _=>rfl,rfl,(hM.val rfl)⟩
 ·intro p9 l9 W9 hn9 hl9 hM
  have fr1_16:=hM.fx _ (List.mem_of_getElem? (i:=0) rfl) (Or.inl (hl9 16 (by decide)))
  have kr1_0:=hM.fx _ (List.mem_of_getElem? (i:=1) rfl) (Or.inr (by rw [hn9]; simp))
  try simp only [] at kr1_0
  replace hM:=hM.st
  clear hl9 hs9 h09 hn9
  generalize p9 16 = q16 at *
  obtain ⟨Ar1_16,Nr1_16,Cr1_16⟩:=q16
  simp only [] at fr1_16
  clear hS ya yb yc yd
  have hS:=hM
  clear hM
  simp only [Puts.lay,List.setIfInBounds_toArray,List.set_cons_zero,List.set_cons_succ]
  obtain ⟨⟨ye,yf,yg,-⟩,⟨yh,-⟩,-⟩:=hS.cells
  go_wp2
  go_ret
  exact ⟨⟨_,_,_,rfl,fr1_16⟩,hS.fr⟩
theorem fma1_np (q pm fn fm : Nat) (t0 t1 t2 : TypeId) (y0 y1 y2 : Value) (md : Int) (r1 : Bool) (v1 : Nat) (z1 l1 : Int) (t : TypeId) (y : Value) (w : World) (hq : w.heap[q]? = some (.cells #[.iface t0 y0, .iface t1 y1, .iface t2 y2] 37 (0, 0))) (hp : w.heap[pm]? = some (.cells #[.int .u8 md] 5 (0, 0))) (hm : (∀ w : World, (method 301 t0 (y0) "numeral/soft.times").run Tryz.prog w = .ok (fn, y0) w)) (hcf : ∀ (args : Array Value) (w : World), (callFunc fn args).run Tryz.prog w = .ok (.enter fn args) w) (HC : Hid (∀ W : World, Below w.heap.size w W → Calls Tryz.prog fn #[y0, .iface t1 y1] W fun e w' => (∃ A N C, e = .returned (.iface 116 (.agg #[.bool r1, .slice A N C, .int .i64 z1, .int .u8 l1])) ∧ Mine w' 0 A N C v1) ∧ Below W.heap.size W w')) (hm2 : ∀ (A : Option Addr) (N C : Nat), (∀ w : World, (method 301 116 (.agg #[.bool r1, .slice A N C, .int .i64 z1, .int .u8 l1]) "numeral/soft.plus").run Tryz.prog w = .ok (fm, .agg #[.bool r1, .slice A N C, .int .i64 z1, .int .u8 l1]) w)) (hcm : ∀ (args : Array Value) (w : World), (callFunc fm args).run Tryz.prog w = .ok (.enter fm args) w) (HC2 : Hid (∀ (W : World) (A : Option Addr) (N C : Nat), Below w.heap.size w W → Mine W 0 A N C v1 → Calls Tryz.prog fm #[.agg #[.bool r1, .slice A N C, .int .i64 z1, .int .u8 l1], .iface t2 y2, .int .u8 md] W fun e w' => e = .returned (.iface t y) ∧ Below W.heap.size W w')) :
  Calls Tryz.prog 8 #[.slice (some ⟨q,0,none⟩) 3 3,.pointer (some ⟨pm,0,none⟩)] w fun e w'=>e = .returned (.iface t y)∧Below w.heap.size w w':=by
 go_enter Tryz.func8,Tryz.ntmps8
 have hS:Fs w w [⟨q,#[.iface t0 y0,.iface t1 y1,.iface t2 y2],37⟩,⟨pm,#[.int .u8 md],5⟩]:=⟨fun x hx=>by simp only [List.mem_cons,List.not_mem_nil,or_false] at hx; rcases hx with rfl|rfl; exact hq; exact hp,Below.refl _ _⟩
 have hol0:q < w.heap.size:=block_lt hq
 have hol1:pm < w.heap.size:=block_lt hp
 clear hq hp
 obtain ⟨⟨ya,yb,yc,-⟩,⟨yd,-⟩,-⟩:=hS.cells
 go_wp2_with fail
 have hS3s:w.heap.size≤w.heap.size:=hS.size
 have hs9:∀ x9:Nat×(Pk→World→Prop),x9∈([(8,fun q9 W=>Mine W 0 q9.A q9.N q9.C v1),(18,fun _ W=>True)]:List (Nat×(Pk→World→Prop)))→∀ q9:Pk,St 0 (x9.2 q9):=by
  intro x hx q
  simp only [List.mem_cons,List.not_mem_nil,or_false] at hx
  rcases hx with rfl|rfl
  ·exact st_mine7 _ _ _ _
  ·exact st_true7
 have h09:∀ x9:Nat×(Pk→World→Prop),x9∈([(8,fun q9 W=>Mine W 0 q9.A q9.N q9.C v1),(18,fun _ W=>True)]:List (Nat×(Pk→World→Prop)))→18≤x9.1→x9.2 ⟨none,0,0⟩ w:=by
  intro x hx hn9
  simp only [List.mem_cons,List.not_mem_nil,or_false] at hx
  rcases hx with rfl|rfl
  ·exact absurd hn9 (by simp)
  ·exact trivial
 refine wp_region_any (by kernel_rfl) ?_
 refine wpAny_pick (fun p9 => [some (4, .slice (some ⟨q, 0, none⟩) 3 3), some (5, .pointer (some ⟨q, 0, none⟩)), some (6, .iface t0 y0), some (7, .slice (some ⟨q, 0, none⟩) 3 3), some (8, .pointer (some ⟨q, 1, none⟩)), some (9, .iface t1 y1), some (10, .iface t0 y0), some (11, .iface t0 y0), some (12, .iface 116 (.agg #[.bool r1, .slice (p9 8).A (p9 8).N (p9 8).C, .int .i64 z1, .int .u8 l1])), some (13, .slice (some ⟨q, 0, none⟩) 3 3), some (14, .pointer (some ⟨q, 2, none⟩)), some (15, .iface t2 y2), some (16, .int .u8 md), some (17, .func (Fn.method "numeral/soft.plus") #[.iface 116 (.agg #[.bool r1, .slice (p9 8).A (p9 8).N (p9 8).C, .int .i64 z1, .int .u8 l1])] #[]), some (18, .func (Fn.method "numeral/soft.plus") #[.iface 116 (.agg #[.bool r1, .slice (p9 8).A (p9 8).N (p9 8).C, .int .i64 z1, .int .u8 l1])] #[]), some (19, .iface 116 (.agg #[.bool r1, .slice (p9 8).A (p9 8).N (p9 8).C, .int .i64 z1, .int .u8 l1])), some (20, .iface t y), some (3, .iface t y)])
  (fun p9 l9 W9=>Pm w 0 [(8,fun q9 W=>Mine W 0 q9.A q9.N q9.C v1),(18,fun _ W=>True)] p9 l9 W9 [⟨q,#[.iface t0 y0,.iface t1 y1,.iface t2 y2],37⟩,⟨pm,#[.int .u8 md],5⟩]) _ _ (fun _=>rfl) (by kernel_rfl) (fun _=>rfl) (fun _=>rfl) ?_ ?_ (fun _=>⟨none,0,0⟩) (Pm.start2 hS _ _ _ (Nat.zero_le _) hs9 h09)
 ·intro p9 l9 t9 W9 i9 hD hi9 hl9 hM
  obtain ⟨o9,ho9,hd9⟩:=(mem_ready.1 hi9).2
  have hin9:i9 < 18:=by
   by_cases h:i9 < 18
   ·exact h
   ·rw [Array.getElem?_eq_none (by rw [hD.len]; simp; omega)] at hl9; cases hl9
  have hcase:i9 = 0∨i9 = 1∨i9 = 2∨i9 = 3∨i9 = 4∨i9 = 5∨i9 = 6∨i9 = 7∨i9 = 8∨i9 = 9∨i9 = 10∨i9 = 11∨i9 = 12∨i9 = 13∨i9 = 14∨i9 = 15∨i9 = 16∨i9 = 17:=by omega
  clear hin9
  rcases hcase with rfl|rfl|rfl|rfl|rfl|rfl|rfl|rfl|rfl|rfl|rfl|rfl|rfl|rfl|rfl|rfl|rfl|rfl
  ·cases ho9
   have r0:=hD.old 0 _ rfl rfl
   refine wpOp_step rfl fun K hK=>?_
   go_simp
   exact hK _ _ ⟨p9,fun _ _=>rfl,rfl,(hM.val rfl)⟩
  ·cases ho9
   have r4:=hD.od hd9 0 4 _ rfl (by simp)
   refine wpOp_step rfl fun K hK=>?_
   go_simp
   exact hK _ _ ⟨p9,fun _ _=>rfl,rfl,(hM.val rfl)⟩
  ·cases ho9
   have r5:=hD.od hd9 1 5 _ rfl (by simp)
   have hM0:=hM.st
   have c9_0:=hM0.cellAt (b:=q) (cs:=#[.iface t0 y0,.iface t1 y1,.iface t2 y2]) (t:=37) (by simp) 0 _ rfl
   clear hM0
   refine wpOp_step rfl fun K hK=>?_
   go_simp
   exact hK _ _ ⟨p9,fun _ _=>rfl,rfl,(hM.val rfl)⟩
  ·cases ho9
   have r0:=hD.old 0 _ rfl rfl
   refine wpOp_step rfl fun K hK=>?_
   go_simp
   exact hK _ _ ⟨p9,fun _ _=>rfl,rfl,(hM.val rfl)⟩
  ·cases ho9
   have r7:=hD.od hd9 3 7 _ rfl (by simp)
   refine wpOp_step rfl fun K hK=>?_
   go_simp
   exact hK _ _ ⟨p9,fun _ _=>rfl,rfl,(hM.val rfl)⟩
  ·cases ho9
   have r8:=hD.od hd9 4 8 _ rfl (by simp)
   have hM0:=hM.st
   have c9_0:=hM0.cellAt (b:=q) (cs:=#[.iface t0 y0,.iface t1 y1,.iface t2 y2]) (t:=37) (by simp) 1 _ rfl
   clear hM0
   refine wpOp_step rfl fun K hK=>?_
   go_simp
   exact hK _ _ ⟨p9,fun _ _=>rfl,rfl,(hM.val rfl)⟩
  ·cases ho9
   have r6:=hD.od hd9 2 6 _ rfl (by simp)
   refine wpOp_step rfl fun K hK=>?_
   go_simp
   exact hK _ _ ⟨p9,fun _ _=>rfl,rfl,(hM.val rfl)⟩
  ·cases ho9
   have r6:=hD.od hd9 2 6 _ rfl (by simp)
   refine wpOp_step rfl fun K hK=>?_
   go_simp
   exact hK _ _ ⟨p9,fun _ _=>rfl,rfl,(hM.val rfl)⟩
  ·cases ho9
   have r11:=hD.od hd9 7 11 _ rfl (by simp)
   have r9:=hD.od hd9 5 9 _ rfl (by simp)
   have ga0:=hM.fx _ (List.mem_of_getElem? (i:=1) rfl) (Or.inr (by rw [hD.len]; simp))
   try simp only [] at ga0
   have HD:=hide hD
   refine wpOp_step rfl fun K hK=>?_
   go_simp
   go_wp2_with fail
   refine (unhide HC _ hM.st.fr).mono ?_
   rintro en w9 ⟨⟨a9,n9,c9,rfl,h9⟩,hb9⟩
   refine hK _ _ ⟨p9.set 8 ⟨a9,n9,c9⟩,?_,rfl,((hM.kept hs9 hb9).pick ⟨a9,n9,c9⟩ ?_)⟩
   ·intro k9 hk9
    clear hM hK
    match k9,hk9 with
    | 0,_=>rfl
    | 1,_=>rfl
    | 2,_=>rfl
    | 3,_=>rfl
    | 4,_=>rfl
    | 5,_=>rfl
    | 6,_=>rfl
    | 7,_=>rfl
    | 8,hk9=>exact absurd (hl9.symm.trans hk9) (by simp)
    | 9,_=>rfl
    | 10,_=>rfl
    | 11,_=>rfl
    | 12,_=>rfl
    | 13,hk9=>exact absurd (hl9.symm.trans (getD_true ((unhide HD).shut 13 _ (hk9) rfl ⟨8,.data⟩ (by simp) rfl))) (by simp)
    | 14,hk9=>exact absurd (hl9.symm.trans (getD_true ((unhide HD).shut 13 _ (getD_true ((unhide HD).shut 14 _ (hk9) rfl ⟨13,.data⟩ (by simp) rfl)) rfl ⟨8,.data⟩ (by simp) rfl))) (by simp)
    | 15,hk9=>exact absurd (hl9.symm.trans (getD_true ((unhide HD).shut 15 _ (hk9) rfl ⟨8,.data⟩ (by simp) rfl))) (by simp)
    | 16,hk9=>exact absurd (hl9.symm.trans (getD_true ((unhide HD).shut 16 _ (hk9) rfl ⟨8,.chain⟩ (by simp) rfl))) (by simp)
    | 17,hk9=>exact absurd (hl9.symm.trans (getD_true ((unhide HD).shut 17 _ (hk9) rfl ⟨8,.phase⟩ (by simp) rfl))) (by simp)
    | k9+18,_=>rfl
   ·intro x hx he; simp only [List.mem_cons,List.not_mem_nil,or_false] at hx; rcases hx with rfl|rfl
    ·exact h9
    ·exact absurd he (by simp)
  ·cases ho9
   have r0:=hD.old 0 _ rfl rfl
   refine wpOp_step rfl fun K hK=>?_
   go_simp
   exact hK _ _ ⟨p9,fun _ _=>rfl,rfl,(hM.val rfl)⟩
  ·cases ho9
   have r13:=hD.od hd9 9 13 _ rfl (by simp)
   refine wpOp_step rfl fun K hK=>?_
   go_simp
   exact hK _ _ ⟨p9,fun _ _=>rfl,rfl,(hM.val rfl)⟩
  ·cases ho9
   have r14:=hD.od hd9 10 14 _ rfl (by simp)
   have hM0:=hM.st
   have c9_0:=hM0.cellAt (b:=q) (cs:=#[.iface t0 y0,.iface t1 y1,.iface t2 y2]) (t:=37) (by simp) 2 _ rfl
   clear hM0
   refine wpOp_step rfl fun K hK=>?_
   go_simp
   exact hK _ _ ⟨p9,fun _ _=>rfl,rfl,(hM.val rfl)⟩
  ·cases ho9
   have r1:=hD.old 1 _ rfl rfl
   have hM0:=hM.st
   have c9_0:=hM0.cellAt (b:=pm) (cs:=#[.int .u8 md]) (t:=5) (by simp) 0 _ rfl
   clear hM0
   refine wpOp_step rfl fun K hK=>?_
   go_simp
   exact hK _ _ ⟨p9,fun _ _=>rfl,rfl,(hM.val rfl)⟩
  ·cases ho9
   have r12:=hD.od hd9 8 12 _ rfl (by simp)
   refine wpOp_step rfl fun K hK=>?_
   go_simp
   exact hK _ _ ⟨p9,fun _ _=>rfl,rfl,(hM.val rfl)⟩
  ·cases ho9
   have r17:=hD.od hd9 13 17 _ rfl (by simp)
   refine wpOp_step rfl fun K hK=>?_
   go_simp
   exact hK _ _ ⟨p9,fun _ _=>rfl,rfl,(hM.val rfl)⟩
  ·cases ho9
   have r12:=hD.od hd9 8 12 _ rfl (by simp)
   refine wpOp_step rfl fun K hK=>?_
   go_simp
   exact hK _ _ ⟨p9,fun _ _=>rfl,rfl,(hM.val rfl)⟩
  ·cases ho9
   have r19:=hD.od hd9 15 19 _ rfl (by simp)
   have r15:=hD.od hd9 11 15 _ rfl (by simp)
   have r16:=hD.od hd9 12 16 _ rfl (by simp)
   have ga0:=hM.fx _ (List.mem_of_getElem? (i:=1) rfl) (Or.inr (by rw [hD.len]; simp))
   try simp only [] at ga0
   have g8:=hM.fx _ (List.mem_of_getElem? (i:=0) rfl) (Or.inl (getD_true (hd9 ⟨8,.chain⟩ (by simp) rfl)))
   simp only [] at g8
   refine wpOp_step rfl fun K hK=>?_
   go_simp
   go_wp2_with fail
   refine (unhide HC2 _ _ _ _ hM.st.fr g8).mono ?_
   rintro en w9 ⟨rfl,hb9⟩
   exact hK _ _ ⟨p9,fun _ _=>rfl,rfl,((hM.kept hs9 hb9).val rfl)⟩
  ·cases ho9
   have r20:=hD.od hd9 16 20 _ rfl (by simp)
   refine wpOp_step rfl fun K hK=>?_
   go_simp
   exact hK _ _ ⟨p9,fun _ _=>rfl,rfl,(hM.val rfl)⟩
 ·intro p9 l9 W9 hn9 hl9 hM
  have fr1_8:=hM.fx _ (List.mem_of_getElem? (i:=0) rfl) (Or.inl (hl9 8 (by decide)))
  have kr1_0:=hM.fx _ (List.mem_of_getElem? (i:=1) rfl) (Or.inr (by rw [hn9]; simp))
  try simp only [] at kr1_0
  replace hM:=hM.st
  clear hl9 hs9 h09 hn9
  generalize p9 8 = q8 at *
  obtain ⟨Ar1_8,Nr1_8,Cr1_8⟩:=q8
  simp only [] at fr1_8
  clear hS ya yb yc yd
  have hS:=hM
  clear hM
  simp only [Puts.lay,List.setIfInBounds_toArray,List.set_cons_zero,List.set_cons_succ]
  obtain ⟨⟨ye,yf,yg,-⟩,⟨yh,-⟩,-⟩:=hS.cells
  go_wp2
  go_ret
  exact ⟨rfl,hS.fr⟩
theorem fma1_nn (q pm fn fm : Nat) (t0 t1 t2 : TypeId) (y0 y1 y2 : Value) (md : Int) (r1 : Bool) (v1 : Nat) (z1 l1 : Int) (r : Bool) (v : Nat) (y fl2 : Int) (w : World) (hq : w.heap[q]? = some (.cells #[.iface t0 y0, .iface t1 y1, .iface t2 y2] 37 (0, 0))) (hp : w.heap[pm]? = some (.cells #[.int .u8 md] 5 (0, 0))) (hm : (∀ w : World, (method 301 t0 (y0) "numeral/soft.times").run Tryz.prog w = .ok (fn, y0) w)) (hcf : ∀ (args : Array Value) (w : World), (callFunc fn args).run Tryz.prog w = .ok (.enter fn args) w) (HC : Hid (∀ W : World, Below w.heap.size w W → Calls Tryz.prog fn #[y0, .iface t1 y1] W fun e w' => (∃ A N C, e = .returned (.iface 116 (.agg #[.bool r1, .slice A N C, .int .i64 z1, .int .u8 l1])) ∧ Mine w' 0 A N C v1) ∧ Below W.heap.size W w')) (hm2 : ∀ (A : Option Addr) (N C : Nat), (∀ w : World, (method 301 116 (.agg #[.bool r1, .slice A N C, .int .i64 z1, .int .u8 l1]) "numeral/soft.plus").run Tryz.prog w = .ok (fm, .agg #[.bool r1, .slice A N C, .int .i64 z1, .int .u8 l1]) w)) (hcm : ∀ (args : Array Value) (w : World), (callFunc fm args).run Tryz.prog w = .ok (.enter fm args) w) (HC2 : Hid (∀ (W : World) (A : Option Addr) (N C : Nat), Below w.heap.size w W → Mine W 0 A N C v1 → Calls Tryz.prog fm #[.agg #[.bool r1, .slice A N C, .int .i64 z1, .int .u8 l1], .iface t2 y2, .int .u8 md] W fun e w' => (∃ A N C, e = .returned (.iface 116 (.agg #[.bool r, .slice A N C, .int .i64 y, .int .u8 fl2])) ∧ Mine w' 0 A N C v) ∧ Below W.heap.size W w')) :
  Calls Tryz.prog 8 #[.slice (some ⟨q,0,none⟩) 3 3,.pointer (some ⟨pm,0,none⟩)] w fun e w'=>(∃ A N C,e = .returned (.iface 116 (.agg #[.bool r,.slice A N C,.int .i64 y,.int .u8 fl2]))∧Mine w' 0 A N C v)∧Below w.heap.size w w':=by
 go_enter Tryz.func8,Tryz.ntmps8
 have hS:Fs w w [⟨q,#[.iface t0 y0,.iface t1 y1,.iface t2 y2],37⟩,⟨pm,#[.int .u8 md],5⟩]:=⟨fun x hx=>by simp only [List.mem_cons,List.not_mem_nil,or_false] at hx; rcases hx with rfl|rfl; exact hq; exact hp,Below.refl _ _⟩
 have hol0:q < w.heap.size:=block_lt hq
 have hol1:pm < w.heap.size:=block_lt hp
 clear hq hp
 obtain ⟨⟨ya,yb,yc,-⟩,⟨yd,-⟩,-⟩:=hS.cells
 go_wp2_with fail
 have hS3s:w.heap.size≤w.heap.size:=hS.size
 have hs9:∀ x9:Nat×(Pk→World→Prop),x9∈([(8,fun q9 W=>Mine W 0 q9.A q9.N q9.C v1),(16,fun q9 W=>Mine W 0 q9.A q9.N q9.C v),(18,fun _ W=>True)]:List (Nat×(Pk→World→Prop)))→∀ q9:Pk,St 0 (x9.2 q9):=by
  intro x hx q
  simp only [List.mem_cons,List.not_mem_nil,or_false] at hx
  rcases hx with rfl|rfl|rfl
  ·exact st_mine7 _ _ _ _
  ·exact st_mine7 _ _ _ _
  ·exact st_true7
 have h09:∀ x9:Nat×(Pk→World→Prop),x9∈([(8,fun q9 W=>Mine W 0 q9.A q9.N q9.C v1),(16,fun q9 W=>Mine W 0 q9.A q9.N q9.C v),(18,fun _ W=>True)]:List (Nat×(Pk→World→Prop)))→18≤x9.1→x9.2 ⟨none,0,0⟩ w:=by
  intro x hx hn9
  simp only [List.mem_cons,List.not_mem_nil,or_false] at hx
  rcases hx with rfl|rfl|rfl
  ·exact absurd hn9 (by simp)
  ·exact absurd hn9 (by simp)
  ·exact trivial
 refine wp_region_any (by kernel_rfl) ?_
 refine wpAny_pick (fun p9 => [some (4, .slice (some ⟨q, 0, none⟩) 3 3), some (5, .pointer (some ⟨q, 0, none⟩)), some (6, .iface t0 y0), some (7, .slice (some ⟨q, 0, none⟩) 3 3), some (8, .pointer (some ⟨q, 1, none⟩)), some (9, .iface t1 y1), some (10, .iface t0 y0), some (11, .iface t0 y0), some (12, .iface 116 (.agg #[.bool r1, .slice (p9 8).A (p9 8).N (p9 8).C, .int .i64 z1, .int .u8 l1])), some (13, .slice (some ⟨q, 0, none⟩) 3 3), some (14, .pointer (some ⟨q, 2, none⟩)), some (15, .iface t2 y2), some (16, .int .u8 md), some (17, .func (Fn.method "numeral/soft.plus") #[.iface 116 (.agg #[.bool r1, .slice (p9 8).A (p9 8).N (p9 8).C, .int .i64 z1, .int .u8 l1])] #[]), some (18, .func (Fn.method "numeral/soft.plus") #[.iface 116 (.agg #[.bool r1, .slice (p9 8).A (p9 8).N (p9 8).C, .int .i64 z1, .int .u8 l1])] #[]), some (19, .iface 116 (.agg #[.bool r1, .slice (p9 8).A (p9 8).N (p9 8).C, .int .i64 z1, .int .u8 l1])), some (20, .iface 116 (.agg #[.bool r, .slice (p9 16).A (p9 16).N (p9 16).C, .int .i64 y, .int .u8 fl2])), some (3, .iface 116 (.agg #[.bool r, .slice (p9 16).A (p9 16).N (p9 16).C, .int .i64 y, .int .u8 fl2]))])
  (fun p9 l9 W9=>Pm w 0 [(8,fun q9 W=>Mine W 0 q9.A q9.N q9.C v1),(16,fun q9 W=>Mine W 0 q9.A q9.N q9.C v),(18,fun _ W=>True)] p9 l9 W9 [⟨q,#[.iface t0 y0,.iface t1 y1,.iface t2 y2],37⟩,⟨pm,#[.int .u8 md],5⟩]) _ _ (fun _=>rfl) (by kernel_rfl) (fun _=>rfl) (fun _=>rfl) ?_ ?_ (fun _=>⟨none,0,0⟩) (Pm.start2 hS _ _ _ (Nat.zero_le _) hs9 h09)
 ·intro p9 l9 t9 W9 i9 hD hi9 hl9 hM
  obtain ⟨o9,ho9,hd9⟩:=(mem_ready.1 hi9).2
  have hin9:i9 < 18:=by
   by_cases h:i9 < 18
   ·exact h
   ·rw [Array.getElem?_eq_none (by rw [hD.len]; simp; omega)] at hl9; cases hl9
  have hcase:i9 = 0∨i9 = 1∨i9 = 2∨i9 = 3∨i9 = 4∨i9 = 5∨i9 = 6∨i9 = 7∨i9 = 8∨i9 = 9∨i9 = 10∨i9 = 11∨i9 = 12∨i9 = 13∨i9 = 14∨i9 = 15∨i9 = 16∨i9 = 17:=by omega
  clear hin9
  rcases hcase with rfl|rfl|rfl|rfl|rfl|rfl|rfl|rfl|rfl|rfl|rfl|rfl|rfl|rfl|rfl|rfl|rfl|rfl
  ·cases ho9
   have r0:=hD.old 0 _ rfl rfl
   refine wpOp_step rfl fun K hK=>?_
   go_simp
   exact hK _ _ ⟨p9,fun _ _=>rfl,rfl,(hM.val rfl)⟩
  ·cases ho9
   have r4:=hD.od hd9 0 4 _ rfl (by simp)
   refine wpOp_step rfl fun K hK=>?_
   go_simp
   exact hK _ _ ⟨p9,fun _ _=>rfl,rfl,(hM.val rfl)⟩
  ·cases ho9
   have r5:=hD.od hd9 1 5 _ rfl (by simp)
   have hM0:=hM.st
   have c9_0:=hM0.cellAt (b:=q) (cs:=#[.iface t0 y0,.iface t1 y1,.iface t2 y2]) (t:=37) (by simp) 0 _ rfl
   clear hM0
   refine wpOp_step rfl fun K hK=>?_
   go_simp
   exact hK _ _ ⟨p9,fun _ _=>rfl,rfl,(hM.val rfl)⟩
  ·cases ho9
   have r0:=hD.old 0 _ rfl rfl
   refine wpOp_step rfl fun K hK=>?_
   go_simp
   exact hK _ _ ⟨p9,fun _ _=>rfl,rfl,(hM.val rfl)⟩
  ·cases ho9
   have r7:=hD.od hd9 3 7 _ rfl (by simp)
   refine wpOp_step rfl fun K hK=>?_
   go_simp
   exact hK _ _ ⟨p9,fun _ _=>rfl,rfl,(hM.val rfl)⟩
  ·cases ho9
   have r8:=hD.od hd9 4 8 _ rfl (by simp)
   have hM0:=hM.st
   have c9_0:=hM0.cellAt (b:=q) (cs:=#[.iface t0 y0,.iface t1 y1,.iface t2 y2]) (t:=37) (by simp) 1 _ rfl
   clear hM0
   refine wpOp_step rfl fun K hK=>?_
   go_simp
   exact hK _ _ ⟨p9,fun _ _=>rfl,rfl,(hM.val rfl)⟩
  ·cases ho9
   have r6:=hD.od hd9 2 6 _ rfl (by simp)
   refine wpOp_step rfl fun K hK=>?_
   go_simp
   exact hK _ _ ⟨p9,fun _ _=>rfl,rfl,(hM.val rfl)⟩
  ·cases ho9
   have r6:=hD.od hd9 2 6 _ rfl (by simp)
   refine wpOp_step rfl fun K hK=>?_
   go_simp
   exact hK _ _ ⟨p9,fun _ _=>rfl,rfl,(hM.val rfl)⟩
  ·cases ho9
   have r11:=hD.od hd9 7 11 _ rfl (by simp)
   have r9:=hD.od hd9 5 9 _ rfl (by simp)
   have ga0:=hM.fx _ (List.mem_of_getElem? (i:=2) rfl) (Or.inr (by rw [hD.len]; simp))
   try simp only [] at ga0
   have HD:=hide hD
   refine wpOp_step rfl fun K hK=>?_
   go_simp
   go_wp2_with fail
   refine (unhide HC _ hM.st.fr).mono ?_
   rintro en w9 ⟨⟨a9,n9,c9,rfl,h9⟩,hb9⟩
   refine hK _ _ ⟨p9.set 8 ⟨a9,n9,c9⟩,?_,rfl,((hM.kept hs9 hb9).pick ⟨a9,n9,c9⟩ ?_)⟩
   ·intro k9 hk9
    clear hM hK
    match k9,hk9 with
    | 0,_=>rfl
    | 1,_=>rfl
    | 2,_=>rfl
    | 3,_=>rfl
    | 4,_=>rfl
    | 5,_=>rfl
    | 6,_=>rfl
    | 7,_=>rfl
    | 8,hk9=>exact absurd (hl9.symm.trans hk9) (by simp)
    | 9,_=>rfl
    | 10,_=>rfl
    | 11,_=>rfl
    | 12,_=>rfl
    | 13,hk9=>exact absurd (hl9.symm.trans (getD_true ((unhide HD).shut 13 _ (hk9) rfl ⟨8,.data⟩ (by simp) rfl))) (by simp)
    | 14,hk9=>exact absurd (hl9.symm.trans (getD_true ((unhide HD).shut 13 _ (getD_true ((unhide HD).shut 14 _ (hk9) rfl ⟨13,.data⟩ (by simp) rfl)) rfl ⟨8,.data⟩ (by simp) rfl))) (by simp)
    | 15,hk9=>exact absurd (hl9.symm.trans (getD_true ((unhide HD).shut 15 _ (hk9) rfl ⟨8,.data⟩ (by simp) rfl))) (by simp)
    | 16,hk9=>exact absurd (hl9.symm.trans (getD_true ((unhide HD).shut 16 _ (hk9) rfl ⟨8,.chain⟩ (by simp) rfl))) (by simp)
    | 17,hk9=>exact absurd (hl9.symm.trans (getD_true ((unhide HD).shut 17 _ (hk9) rfl ⟨8,.phase⟩ (by simp) rfl))) (by simp)
    | k9+18,_=>rfl
   ·intro x hx he; simp only [List.mem_cons,List.not_mem_nil,or_false] at hx; rcases hx with rfl|rfl|rfl
    ·exact h9
    ·exact absurd he (by simp)
    ·exact absurd he (by simp)
  ·cases ho9
   have r0:=hD.old 0 _ rfl rfl
   refine wpOp_step rfl fun K hK=>?_
   go_simp
   exact hK _ _ ⟨p9,fun _ _=>rfl,rfl,(hM.val rfl)⟩
  ·cases ho9
   have r13:=hD.od hd9 9 13 _ rfl (by simp)
   refine wpOp_step rfl fun K hK=>?_
   go_simp
   exact hK _ _ ⟨p9,fun _ _=>rfl,rfl,(hM.val rfl)⟩
  ·cases ho9
   have r14:=hD.od hd9 10 14 _ rfl (by simp)
   have hM0:=hM.st
   have c9_0:=hM0.cellAt (b:=q) (cs:=#[.iface t0 y0,.iface t1 y1,.iface t2 y2]) (t:=37) (by simp) 2 _ rfl
   clear hM0
   refine wpOp_step rfl fun K hK=>?_
   go_simp
   exact hK _ _ ⟨p9,fun _ _=>rfl,rfl,(hM.val rfl)⟩
  ·cases ho9
   have r1:=hD.old 1 _ rfl rfl
   have hM0:=hM.st
   have c9_0:=hM0.cellAt (b:=pm) (cs:=#[.int .u8 md]) (t:=5) (by simp) 0 _ rfl
   clear hM0
   refine wpOp_step rfl fun K hK=>?_
   go_simp
   exact hK _ _ ⟨p9,fun _ _=>rfl,rfl,(hM.val rfl)⟩
  ·cases ho9
   have r12:=hD.od hd9 8 12 _ rfl (by simp)
   refine wpOp_step rfl fun K hK=>?_
   go_simp
   exact hK _ _ ⟨p9,fun _ _=>rfl,rfl,(hM.val rfl)⟩
  ·cases ho9
   have r17:=hD.od hd9 13 17 _ rfl (by simp)
   refine wpOp_step rfl fun K hK=>?_
   go_simp
   exact hK _ _ ⟨p9,fun _ _=>rfl,rfl,(hM.val rfl)⟩
  ·cases ho9
   have r12:=hD.od hd9 8 12 _ rfl (by simp)
   refine wpOp_step rfl fun K hK=>?_
   go_simp
   exact hK _ _ ⟨p9,fun _ _=>rfl,rfl,(hM.val rfl)⟩
  ·cases ho9
   have r19:=hD.od hd9 15 19 _ rfl (by simp)
   have r15:=hD.od hd9 11 15 _ rfl (by simp)
   have r16:=hD.od hd9 12 16 _ rfl (by simp)
   have ga0:=hM.fx _ (List.mem_of_getElem? (i:=2) rfl) (Or.inr (by rw [hD.len]; simp))
   try simp only [] at ga0
   have g8:=hM.fx _ (List.mem_of_getElem? (i:=0) rfl) (Or.inl (getD_true (hd9 ⟨8,.chain⟩ (by simp) rfl)))
   simp only [] at g8
   have HD:=hide hD
   refine wpOp_step rfl fun K hK=>?_
   go_simp
   go_wp2_with fail
   refine (unhide HC2 _ _ _ _ hM.st.fr g8).mono ?_
   rintro en w9 ⟨⟨a9,n9,c9,rfl,h9⟩,hb9⟩
   refine hK _ _ ⟨p9.set 16 ⟨a9,n9,c9⟩,?_,rfl,((hM.kept hs9 hb9).pick ⟨a9,n9,c9⟩ ?_)⟩
   ·intro k9 hk9
    clear hM hK
    match k9,hk9 with
    | 0,_=>rfl
    | 1,_=>rfl
    | 2,_=>rfl
    | 3,_=>rfl
    | 4,_=>rfl
    | 5,_=>rfl
    | 6,_=>rfl
    | 7,_=>rfl
    | 8,_=>rfl
    | 9,_=>rfl
    | 10,_=>rfl
    | 11,_=>rfl
    | 12,_=>rfl
    | 13,_=>rfl
    | 14,_=>rfl
    | 15,_=>rfl
    | 16,hk9=>exact absurd (hl9.symm.trans hk9) (by simp)
    | 17,hk9=>exact absurd (hl9.symm.trans (getD_true ((unhide HD).shut 17 _ (hk9) rfl ⟨16,.data⟩ (by simp) rfl))) (by simp)
    | k9+18,_=>rfl
   ·intro x hx he; simp only [List.mem_cons,List.not_mem_nil,or_false] at hx; rcases hx with rfl|rfl|rfl
    ·exact absurd he (by simp)
    ·exact h9
    ·exact absurd he (by simp)
  ·cases ho9
   have r20:=hD.od hd9 16 20 _ rfl (by simp)
   refine wpOp_step rfl fun K hK=>?_
   go_simp
   exact hK _ _ ⟨p9,fun _ _=>rfl,rfl,(hM.val rfl)⟩
 ·intro p9 l9 W9 hn9 hl9 hM
  have fr1_8:=hM.fx _ (List.mem_of_getElem? (i:=0) rfl) (Or.inl (hl9 8 (by decide)))
  have fr1_16:=hM.fx _ (List.mem_of_getElem? (i:=1) rfl) (Or.inl (hl9 16 (by decide)))
  have kr1_0:=hM.fx _ (List.mem_of_getElem? (i:=2) rfl) (Or.inr (by rw [hn9]; simp))
  try simp only [] at kr1_0
  replace hM:=hM.st
  clear hl9 hs9 h09 hn9
  generalize p9 8 = q8 at *
  obtain ⟨Ar1_8,Nr1_8,Cr1_8⟩:=q8
  simp only [] at fr1_8
  generalize p9 16 = q16 at *
  obtain ⟨Ar1_16,Nr1_16,Cr1_16⟩:=q16
  simp only [] at fr1_16
  clear hS ya yb yc yd
  have hS:=hM
  clear hM
  simp only [Puts.lay,List.setIfInBounds_toArray,List.set_cons_zero,List.set_cons_succ]
  obtain ⟨⟨ye,yf,yg,-⟩,⟨yh,-⟩,-⟩:=hS.cells
  go_wp2
  go_ret
  exact ⟨⟨_,_,_,rfl,fr1_16⟩,hS.fr⟩
end Go.Proofs.YtfimakkpdjppfaaGreatDoor
