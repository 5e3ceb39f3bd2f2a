/- Of what SoftSumsRow stands on: SfKinds SmMeth SmClo SmOp. -/
import Derived.Test.YtfnhimofpelmdaaGreatDoorPbd
import Derived.Test.YtfnhimofpelmdaaGreatDoorPbe
import Derived.Test.YtfnhimofpelmdaaGreatDoorPbf
import Derived.Test.YtfnhimofpelmdaaGreatDoorPbc
import Derived.Test.YtfnhimofpelmdaaGreatDoorPaf
import Derived.Test.YtfnhimofpelmdaaGreatDoorPax
namespace Go.Proofs.YtfnhimofpelmdaaGreatDoor
open Go.RowKit
set_option maxHeartbeats 8000000
set_option maxRecDepth 20000
theorem flOf_one {E F b : Int} {k : Kd} {t : TypeId} {x : Value} (hk : ∀ (W : World) (B : Nat),Flt W B (.iface t x) k) (h : Tel 81 #[.agg #[.int .i64 E,.int .i64 F],.int .u64 b] (.iface t x)) : FlOf E F b k := by
 intro W _
 refine (h W).mono ?_
 rintro e w' ⟨rfl,hb⟩
 exact ⟨⟨t,x,rfl,hk _ _⟩,hb⟩
theorem opR_one {E F b : Int} {neg nan qu inf : Bool} (h : Tel 25 #[.agg #[.int .i64 E,.int .i64 F],.int .u64 b] (.agg #[.bool neg,.bool nan,.bool qu,.bool inf,.bool false,.slice none 0 0,.int .i64 0])) : OpR E F b neg nan qu inf false 0 0 := by
 intro W
 refine (h W).mono ?_
 rintro e w' ⟨rfl,hb⟩
 exact ⟨⟨none,0,0,rfl,mine_nil _ _⟩,hb⟩
theorem nan_both {E F S I : Nat} (h : Fm E F S I) : ∃ n : Int,Tel 152 #[.agg #[.int .i64 E,.int .i64 F],.bool false,.int .u64 0] (.tuple #[.int .u64 n,.int .i64 0]) ∧ Tel 27 #[.agg #[.int .i64 E,.int .i64 F]] (.int .u64 n) := by
 have h0 := h.fo
 have hp1 := pow_pos2 (F - 1)
 have hpow : 2 ^ F = 2 * 2 ^ (F - 1) := by rw [← Nat.pow_succ',Nat.succ_eq_add_one,Nat.sub_add_cancel h0.f1]
 have hpE := pow_pos2 E
 have htop := h.top
 have h63 := h.s63
 have hE := pow_bound h0.e11
 have hF := pow_bound h0.f52
 refine ⟨((I + 2 ^ (F - 1) : Nat) : Int),fun W => ?_,fun W => ?_⟩
 ·have := NaN_ok E F (I + 2 ^ (F - 1)) 0 (2 ^ E - 1) (2 ^ (F - 1) + 0) false h0 hp1 rfl (hide rfl) ⟨by omega,by omega,by rw [h.hI]; simp⟩ W
  exact this
 ·have HI : Tel 33 #[.agg #[.int .i64 E,.int .i64 F],.bool false] (.int .u64 (I : Int)) := fun W => by
   have e6 : IntKind.u64.wrap ((2 : Int) ^ E) = ((2 ^ E : Nat) : Int) := wrap_pow (by have := h0.e11; omega)
   have e7 : IntKind.u64.wrap (((2 ^ E : Nat) : Int) - 1) = ((2 ^ E - 1 : Nat) : Int) := by rw [IntKind.wrap_u64]; omega
   have e11 : IntKind.u64.wrap (((2 ^ E - 1 : Nat) : Int) * 2 ^ F) = (I : Int) := by rw [shl_u64 _ _ (by rw [← h.hI]; omega),← h.hI]
   have e12 : IntKind.u64.wrap (((0 : Nat) : Int) + (I : Int)) = (I : Int) := by rw [IntKind.wrap_u64]; omega
   exact xInf_f E F (2 ^ E) (2 ^ E - 1) I 0 I (fun W => xsign_f E F W) h0.e11 h0.f52 h0.f1 e6 e7 e11 e12 W
  have e6 : IntKind.u64.wrap ((2 : Int) ^ (F - 1)) = ((2 ^ (F - 1) : Nat) : Int) := wrap_pow (by have := h0.f52; omega)
  have e7 : IntKind.u64.wrap ((I : Int) + ((2 ^ (F - 1) : Nat) : Int)) = ((I + 2 ^ (F - 1) : Nat) : Int) := by rw [IntKind.wrap_u64]; omega
  have hf1 := h0.f1
  have hf52 := h0.f52
  exact xNaN_is E F (F - 1) (2 ^ (F - 1)) I (I + 2 ^ (F - 1)) HI (by omega) (by omega) e6 e7 W
theorem as_no {T t : TypeId} {z v : Value} (hz : (Tryz.prog.info? T).map (·.zero) = some (some z)) (hu : (Tryz.prog.underlying T).map (fun u => match u with | .interface _ => false | _ => true) = some true) (ht : t ≠ T) (w : World) : (Instr.typeAssert (.iface t v) 39 T true).run Tryz.prog w = .ok (.tuple #[z,.bool false]) w := run_as hu hz ht _ w
theorem cancelled_is (md : Int) (r : Bool) (hr : (md == (4 : Int)) = r) (w : World)  :
  Calls Tryz.prog 170 #[.int .u8 md] w fun e w' => e = .returned (.iface 148 (.agg #[.bool r,.int .u8 0])) ∧ Below w.heap.size w w' := by
 go_enter Tryz.func170,Tryz.ntmps170
 go_wp2
 go_ret
 exact ⟨rfl,(Fs.begin w).fr⟩
theorem isnt_yes (a : Option Addr) (cap : Nat) (w : World)  :
  Calls Tryz.prog 180 #[.agg #[.slice a 0 cap]] w fun e w' => e = .returned (.bool true) ∧ Below w.heap.size w w' := by
 go_enter Tryz.func180,Tryz.ntmps180
 go_wp2
 go_ret
 exact ⟨rfl,(Fs.one w _ _).fr⟩
theorem isnt_no (a : Option Addr) (n cap : Nat) (hn : ((n : Int) == 0) = false) (w : World)  :
  Calls Tryz.prog 180 #[.agg #[.slice a n cap]] w fun e w' => e = .returned (.bool false) ∧ Below w.heap.size w w' := by
 go_enter Tryz.func180,Tryz.ntmps180
 go_wp2
 go_ret
 exact ⟨rfl,(Fs.one w _ _).fr⟩
theorem noneplus (fl md : Int) (t : TypeId) (y : Value) (w : World)  :
  Calls Tryz.prog 147 #[.agg #[.int .u8 fl],.iface t y,.int .u8 md] w fun e w' => e = .returned (.iface 85 (.agg #[.int .u8 fl])) ∧ Below w.heap.size w w' := by
 go_enter Tryz.func147,Tryz.ntmps147
 go_wp2
 go_ret
 exact ⟨rfl,(Fs.one w _ _).fr⟩
theorem infplus_o (neg : Bool) (fl md : Int) (t : TypeId) (y : Value) (ht : t ≠ 147) (w : World)  :
  Calls Tryz.prog 155 #[.agg #[.bool neg,.int .u8 fl],.iface t y,.int .u8 md] w fun e w' => e = .returned (.iface 147 (.agg #[.bool neg,.int .u8 fl])) ∧ Below w.heap.size w w' := by
 go_enter Tryz.func155,Tryz.ntmps155
 have ha := as_no (T := 147) (v := y) (z := .agg #[.bool false,.int .u8 0]) (by kernel_rfl) (by kernel_rfl) ht
 go_wp2
 go_ret
 exact ⟨rfl,(Fs.one w _ _).fr⟩
theorem infplus_same (neg neg2 : Bool) (fl fl2 md : Int) (hs : (neg != neg2) = false) (w : World)  :
  Calls Tryz.prog 155 #[.agg #[.bool neg,.int .u8 fl],.iface 147 (.agg #[.bool neg2,.int .u8 fl2]),.int .u8 md] w fun e w' => e = .returned (.iface 147 (.agg #[.bool neg,.int .u8 fl])) ∧ Below w.heap.size w w' := by
 have hs2 : (!neg == neg2) = false := by cases neg <;> cases neg2 <;> simp_all
 go_enter Tryz.func155,Tryz.ntmps155
 have ha := run_as_self (T := 147) (v := .agg #[.bool neg2,.int .u8 fl2]) (by kernel_rfl) 39
 have hS : Fs w (w.alloc (.cells #[.bool neg,.int .u8 fl] 147)) [⟨w.heap.size,#[.bool neg,.int .u8 fl],147⟩] := Fs.one w _ _
 obtain ⟨⟨ya,yb,-⟩,-⟩ := hS.cells
 obtain ⟨WB,hWB⟩ : ∃ z9,(w.alloc (.cells #[.bool neg,.int .u8 fl] 147)) = z9 := ⟨_,rfl⟩
 rw [hWB] at hS ya yb
 have hltWB_0 : w.heap.size < WB.heap.size := hS.lt 0 rfl
 obtain ⟨WV,hWV⟩ : ∃ WV,WB.alloc (.cells #[.bool neg2,.int .u8 fl2] 147) = WV := ⟨_,rfl⟩
 replace hS := hS.alloc #[.bool neg2,.int .u8 fl2] 147
 rw [hWV] at hS
 obtain ⟨⟨yc,yd,-⟩,⟨ye,yf,-⟩,-⟩ := hS.cells
 go_wp2
 go_ret
 exact ⟨rfl,hS.fr⟩
theorem infplus_diff (neg neg2 : Bool) (fl fl2 md : Int) (hs : (neg != neg2) = true) (w : World)  :
  Calls Tryz.prog 155 #[.agg #[.bool neg,.int .u8 fl],.iface 147 (.agg #[.bool neg2,.int .u8 fl2]),.int .u8 md] w fun e w' => e = .returned (.iface 85 (.agg #[.int .u8 16])) ∧ Below w.heap.size w w' := by
 have hs2 : (!neg == neg2) = true := by cases neg <;> cases neg2 <;> simp_all
 go_enter Tryz.func155,Tryz.ntmps155
 have ha := run_as_self (T := 147) (v := .agg #[.bool neg2,.int .u8 fl2]) (by kernel_rfl) 39
 have hS : Fs w (w.alloc (.cells #[.bool neg,.int .u8 fl] 147)) [⟨w.heap.size,#[.bool neg,.int .u8 fl],147⟩] := Fs.one w _ _
 obtain ⟨⟨ya,yb,-⟩,-⟩ := hS.cells
 obtain ⟨WB,hWB⟩ : ∃ z9,(w.alloc (.cells #[.bool neg,.int .u8 fl] 147)) = z9 := ⟨_,rfl⟩
 rw [hWB] at hS ya yb
 have hltWB_0 : w.heap.size < WB.heap.size := hS.lt 0 rfl
 obtain ⟨WV,hWV⟩ : ∃ WV,WB.alloc (.cells #[.bool neg2,.int .u8 fl2] 147) = WV := ⟨_,rfl⟩
 replace hS := hS.alloc #[.bool neg2,.int .u8 fl2] 147
 rw [hWV] at hS
 obtain ⟨⟨yc,yd,-⟩,⟨ye,yf,-⟩,-⟩ := hS.cells
 go_wp2_with fail
 refine (invalid_is _).mono ?_
 rintro e w1 ⟨rfl,hb1⟩
 replace hS := hS.kept hb1
 clear yc yd ye yf ya yb
 obtain ⟨⟨yg,yh,-⟩,⟨yi,yj,-⟩,-⟩ := hS.cells
 go_wp2
 go_ret
 exact ⟨rfl,hS.fr⟩
theorem nouplus_o (neg : Bool) (fl md : Int) (t : TypeId) (y : Value) (ht : t ≠ 148) (w : World)  :
  Calls Tryz.prog 165 #[.agg #[.bool neg,.int .u8 fl],.iface t y,.int .u8 md] w fun e w' => e = .returned (.iface t y) ∧ Below w.heap.size w w' := by
 go_enter Tryz.func165,Tryz.ntmps165
 have ha := as_no (T := 148) (v := y) (z := .agg #[.bool false,.int .u8 0]) (by kernel_rfl) (by kernel_rfl) ht
 go_wp2
 go_ret
 exact ⟨rfl,(Fs.one w _ _).fr⟩
theorem nouplus_same (neg neg2 : Bool) (fl fl2 md : Int) (hs : (neg != neg2) = false) (w : World)  :
  Calls Tryz.prog 165 #[.agg #[.bool neg,.int .u8 fl],.iface 148 (.agg #[.bool neg2,.int .u8 fl2]),.int .u8 md] w fun e w' => e = .returned (.iface 148 (.agg #[.bool neg2,.int .u8 fl2])) ∧ Below w.heap.size w w' := by
 have hs2 : (!neg == neg2) = false := by cases neg <;> cases neg2 <;> simp_all
 go_enter Tryz.func165,Tryz.ntmps165
 have ha := run_as_self (T := 148) (v := .agg #[.bool neg2,.int .u8 fl2]) (by kernel_rfl) 39
 have hS : Fs w (w.alloc (.cells #[.bool neg,.int .u8 fl] 148)) [⟨w.heap.size,#[.bool neg,.int .u8 fl],148⟩] := Fs.one w _ _
 obtain ⟨⟨ya,yb,-⟩,-⟩ := hS.cells
 obtain ⟨WB,hWB⟩ : ∃ z9,(w.alloc (.cells #[.bool neg,.int .u8 fl] 148)) = z9 := ⟨_,rfl⟩
 rw [hWB] at hS ya yb
 have hltWB_0 : w.heap.size < WB.heap.size := hS.lt 0 rfl
 obtain ⟨WV,hWV⟩ : ∃ WV,WB.alloc (.cells #[.bool neg2,.int .u8 fl2] 148) = WV := ⟨_,rfl⟩
 replace hS := hS.alloc #[.bool neg2,.int .u8 fl2] 148
 rw [hWV] at hS
 obtain ⟨⟨yc,yd,-⟩,⟨ye,yf,-⟩,-⟩ := hS.cells
 go_wp2
 go_ret
 exact ⟨rfl,hS.fr⟩
theorem nouplus_diff (neg neg2 : Bool) (fl fl2 md : Int) (hs : (neg != neg2) = true) (r : Bool) (hr : (md == (4 : Int)) = r) (w : World)  :
  Calls Tryz.prog 165 #[.agg #[.bool neg,.int .u8 fl],.iface 148 (.agg #[.bool neg2,.int .u8 fl2]),.int .u8 md] w fun e w' => e = .returned (.iface 148 (.agg #[.bool r,.int .u8 0])) ∧ Below w.heap.size w w' := by
 have hs2 : (!neg == neg2) = true := by cases neg <;> cases neg2 <;> simp_all
 go_enter Tryz.func165,Tryz.ntmps165
 have ha := run_as_self (T := 148) (v := .agg #[.bool neg2,.int .u8 fl2]) (by kernel_rfl) 39
 have hS : Fs w (w.alloc (.cells #[.bool neg,.int .u8 fl] 148)) [⟨w.heap.size,#[.bool neg,.int .u8 fl],148⟩] := Fs.one w _ _
 obtain ⟨⟨ya,yb,-⟩,-⟩ := hS.cells
 obtain ⟨WB,hWB⟩ : ∃ z9,(w.alloc (.cells #[.bool neg,.int .u8 fl] 148)) = z9 := ⟨_,rfl⟩
 rw [hWB] at hS ya yb
 have hltWB_0 : w.heap.size < WB.heap.size := hS.lt 0 rfl
 obtain ⟨WV,hWV⟩ : ∃ WV,WB.alloc (.cells #[.bool neg2,.int .u8 fl2] 148) = WV := ⟨_,rfl⟩
 replace hS := hS.alloc #[.bool neg2,.int .u8 fl2] 148
 rw [hWV] at hS
 obtain ⟨⟨yc,yd,-⟩,⟨ye,yf,-⟩,-⟩ := hS.cells
 go_wp2_with fail
 refine (cancelled_is md r hr _).mono ?_
 rintro e w1 ⟨rfl,hb1⟩
 replace hS := hS.kept hb1
 clear yc yd ye yf ya yb
 obtain ⟨⟨yg,yh,-⟩,⟨yi,yj,-⟩,-⟩ := hS.cells
 go_wp2
 go_ret
 exact ⟨rfl,hS.fr⟩
theorem numplus_zero (s : Bool) (a : Option Addr) (n cap m : Nat) (x fl : Int) (s' : Bool) (a' : Option Addr) (n' cap' m' : Nat) (x' fl' md : Int) (r : Bool) (v : Nat) (y : Int) (r2 : Bool) (hr2 : (md == (4 : Int)) = r2) (w : World) (h : Num w a n m) (h' : Num w a' n' m') (hT : Tb w) (HS : Hid (SumsM s m x s' m' x' 0 r v y)) (hv : v = 0) :
  Calls Tryz.prog 173 #[.agg #[.bool s,.slice a n cap,.int .i64 x,.int .u8 fl],.iface 150 (.agg #[.bool s',.slice a' n' cap',.int .i64 x',.int .u8 fl']),.int .u8 md] w fun e w' => e = .returned (.iface 148 (.agg #[.bool r2,.int .u8 0])) ∧ Below w.heap.size w w' := by
 have H := hide h
 have H' := hide h'
 have HT := hide hT
 clear h h' hT
 go_enter Tryz.func173,Tryz.ntmps173
 have ha := run_as_self (T := 150) (v := .agg #[.bool s',.slice a' n' cap',.int .i64 x',.int .u8 fl']) (by kernel_rfl) 39
 have hS : Fs w (w.alloc (.cells #[.bool s,.slice a n cap,.int .i64 x,.int .u8 fl] 150)) [⟨w.heap.size,#[.bool s,.slice a n cap,.int .i64 x,.int .u8 fl],150⟩] := Fs.one w _ _
 obtain ⟨⟨ya,yb,yc,yd,-⟩,-⟩ := hS.cells
 obtain ⟨WB,hWB⟩ : ∃ z9,(w.alloc (.cells #[.bool s,.slice a n cap,.int .i64 x,.int .u8 fl] 150)) = z9 := ⟨_,rfl⟩
 rw [hWB] at hS ya yb yc yd
 have hltWB_0 : w.heap.size < WB.heap.size := hS.lt 0 rfl
 obtain ⟨WV,hWV⟩ : ∃ WV,WB.alloc (.cells #[.bool s',.slice a' n' cap',.int .i64 x',.int .u8 fl'] 150) = WV := ⟨_,rfl⟩
 replace hS := hS.alloc #[.bool s',.slice a' n' cap',.int .i64 x',.int .u8 fl'] 150
 rw [hWV] at hS
 obtain ⟨⟨ye,yf,yg,yh,-⟩,⟨yi,yj,yk,yl,-⟩,-⟩ := hS.cells
 have hsV := hS.size
 go_wp2_with fail
 refine (unhide HS _ _ _ _ _ _ _ ((unhide H).kept hS.fr) ((unhide H').kept hS.fr) ((unhide HT).kept hS.fr)).mono ?_
 rintro e w1 ⟨⟨A1,N1,C1,rfl,f1⟩,hb1⟩
 replace hS := hS.kept hb1
 clear ye yf yg yh yi yj yk yl ya yb yc yd
 obtain ⟨⟨ym,yn,yo,yp,-⟩,⟨yq,yr,ys,yt,-⟩,-⟩ := hS.cells
 have G1 := hide (f1.mono (base' := w.heap.size) hsV)
 clear f1
 have hltw1_0 : WB.heap.size < w1.heap.size := hS.lt 0 rfl
 have hltw1_1 : w.heap.size < w1.heap.size := hS.lt 1 rfl
 obtain ⟨WU,hWU⟩ : ∃ WU,w1.alloc (.cells #[.bool r,.slice A1 N1 C1,.int .i64 y] 47) = WU := ⟨_,rfl⟩
 replace hS := hS.alloc #[.bool r,.slice A1 N1 C1,.int .i64 y] 47
 rw [hWU] at hS
 replace G1 := hide (hWU ▸ (unhide G1).alloc (.cells #[.bool r,.slice A1 N1 C1,.int .i64 y] 47))
 clear ym yn yo yp yq yr ys yt
 obtain ⟨⟨yu,yv,yw,-⟩,⟨yx,yy,yz,y0,-⟩,⟨y1,y2,y3,y4,-⟩,-⟩ := hS.cells
 obtain rfl : N1 = 0 := by have := (unhide G1).num.zero; omega
 clear G1
 go_wp2_with fail
 refine (isnt_yes A1 C1 _).mono ?_
 rintro e w2 ⟨rfl,hb2⟩
 replace hS := hS.kept hb2
 clear yu yv yw yx yy yz y0 y1 y2 y3 y4
 obtain ⟨⟨y5,y6,y7,-⟩,⟨y8,y9,yba,ybb,-⟩,⟨ybc,ybd,ybe,ybf,-⟩,-⟩ := hS.cells
 go_wp2_with fail
 refine (cancelled_is md r2 hr2 _).mono ?_
 rintro e w3 ⟨rfl,hb3⟩
 replace hS := hS.kept hb3
 clear y5 y6 y7 y8 y9 yba ybb ybc ybd ybe ybf
 obtain ⟨⟨ybg,ybh,ybi,-⟩,⟨ybj,ybk,ybl,ybm,-⟩,⟨ybn,ybo,ybp,ybq,-⟩,-⟩ := hS.cells
 go_wp2
 go_ret
 exact ⟨rfl,hS.fr⟩
theorem numplus_num (s : Bool) (a : Option Addr) (n cap m : Nat) (x fl : Int) (s' : Bool) (a' : Option Addr) (n' cap' m' : Nat) (x' fl' md : Int) (r : Bool) (v : Nat) (y : Int) (w : World) (h : Num w a n m) (h' : Num w a' n' m') (hT : Tb w) (HS : Hid (SumsM s m x s' m' x' 0 r v y)) (hv : 0 < v) :
  Calls Tryz.prog 173 #[.agg #[.bool s,.slice a n cap,.int .i64 x,.int .u8 fl],.iface 150 (.agg #[.bool s',.slice a' n' cap',.int .i64 x',.int .u8 fl']),.int .u8 md] w fun e w' => (∃ A N C,e = .returned (.iface 150 (.agg #[.bool r,.slice A N C,.int .i64 y,.int .u8 0])) ∧ Mine w' w.heap.size A N C v) ∧ Below w.heap.size w w' := by
 have H := hide h
 have H' := hide h'
 have HT := hide hT
 clear h h' hT
 go_enter Tryz.func173,Tryz.ntmps173
 have ha := run_as_self (T := 150) (v := .agg #[.bool s',.slice a' n' cap',.int .i64 x',.int .u8 fl']) (by kernel_rfl) 39
 have hS : Fs w (w.alloc (.cells #[.bool s,.slice a n cap,.int .i64 x,.int .u8 fl] 150)) [⟨w.heap.size,#[.bool s,.slice a n cap,.int .i64 x,.int .u8 fl],150⟩] := Fs.one w _ _
 obtain ⟨⟨ya,yb,yc,yd,-⟩,-⟩ := hS.cells
 obtain ⟨WB,hWB⟩ : ∃ z9,(w.alloc (.cells #[.bool s,.slice a n cap,.int .i64 x,.int .u8 fl] 150)) = z9 := ⟨_,rfl⟩
 rw [hWB] at hS ya yb yc yd
 have hltWB_0 : w.heap.size < WB.heap.size := hS.lt 0 rfl
 obtain ⟨WV,hWV⟩ : ∃ WV,WB.alloc (.cells #[.bool s',.slice a' n' cap',.int .i64 x',.int .u8 fl'] 150) = WV := ⟨_,rfl⟩
 replace hS := hS.alloc #[.bool s',.slice a' n' cap',.int .i64 x',.int .u8 fl'] 150
 rw [hWV] at hS
 obtain ⟨⟨ye,yf,yg,yh,-⟩,⟨yi,yj,yk,yl,-⟩,-⟩ := hS.cells
 have hsV := hS.size
 go_wp2_with fail
 refine (unhide HS _ _ _ _ _ _ _ ((unhide H).kept hS.fr) ((unhide H').kept hS.fr) ((unhide HT).kept hS.fr)).mono ?_
 rintro e w1 ⟨⟨A1,N1,C1,rfl,f1⟩,hb1⟩
 replace hS := hS.kept hb1
 clear ye yf yg yh yi yj yk yl ya yb yc yd
 obtain ⟨⟨ym,yn,yo,yp,-⟩,⟨yq,yr,ys,yt,-⟩,-⟩ := hS.cells
 have G1 := hide (f1.mono (base' := w.heap.size) hsV)
 clear f1
 have hltw1_0 : WB.heap.size < w1.heap.size := hS.lt 0 rfl
 have hltw1_1 : w.heap.size < w1.heap.size := hS.lt 1 rfl
 obtain ⟨WU,hWU⟩ : ∃ WU,w1.alloc (.cells #[.bool r,.slice A1 N1 C1,.int .i64 y] 47) = WU := ⟨_,rfl⟩
 replace hS := hS.alloc #[.bool r,.slice A1 N1 C1,.int .i64 y] 47
 rw [hWU] at hS
 replace G1 := hide (hWU ▸ (unhide G1).alloc (.cells #[.bool r,.slice A1 N1 C1,.int .i64 y] 47))
 clear ym yn yo yp yq yr ys yt
 obtain ⟨⟨yu,yv,yw,-⟩,⟨yx,yy,yz,y0,-⟩,⟨y1,y2,y3,y4,-⟩,-⟩ := hS.cells
 have hN1 : ((N1 : Int) == 0) = false := by have := (unhide G1).num.zero; simp; omega
 go_wp2_with fail
 refine (isnt_no A1 N1 C1 hN1 _).mono ?_
 rintro e w2 ⟨rfl,hb2⟩
 replace hS := hS.kept hb2
 clear yu yv yw yx yy yz y0 y1 y2 y3 y4
 obtain ⟨⟨y5,y6,y7,-⟩,⟨y8,y9,yba,ybb,-⟩,⟨ybc,ybd,ybe,ybf,-⟩,-⟩ := hS.cells
 replace G1 := hide ((unhide G1).kept hb2)
 go_wp2
 go_ret
 exact ⟨⟨_,_,_,rfl,unhide G1⟩,hS.fr⟩
theorem numplus_inf (s : Bool) (a : Option Addr) (n cap : Nat) (x fl fl2 md : Int) (neg2 : Bool) (w : World)  :
  Calls Tryz.prog 173 #[.agg #[.bool s,.slice a n cap,.int .i64 x,.int .u8 fl],.iface 147 (.agg #[.bool neg2,.int .u8 fl2]),.int .u8 md] w fun e w' => e = .returned (.iface 147 (.agg #[.bool neg2,.int .u8 fl2])) ∧ Below w.heap.size w w' := by
 go_enter Tryz.func173,Tryz.ntmps173
 have ha := as_no (T := 150) (t := 147) (v := .agg #[.bool neg2,.int .u8 fl2]) (z := .agg #[.bool false,.slice none 0 0,.int .i64 0,.int .u8 0]) (by kernel_rfl) (by kernel_rfl) (by decide)
 have hm : ∀ w : World, (method 351 147 (.agg #[.bool neg2, .int .u8 fl2]) "numeral/soft.plus").run Tryz.prog w = .ok (155, .agg #[.bool neg2, .int .u8 fl2]) w := fun _ => by kernel_rfl
 go_wp2_with fail
 refine (infplus_o neg2 fl2 md _ _ (by decide) _).mono ?_
 rintro e w1 ⟨rfl,hb1⟩
 have hS := (Fs.one w _ _).kept hb1
 obtain ⟨⟨ya,yb,yc,yd,-⟩,-⟩ := hS.cells
 go_wp2
 go_ret
 exact ⟨rfl,hS.fr⟩
theorem numplus_nou (s : Bool) (a : Option Addr) (n cap : Nat) (x fl fl2 md : Int) (neg2 : Bool) (w : World)  :
  Calls Tryz.prog 173 #[.agg #[.bool s,.slice a n cap,.int .i64 x,.int .u8 fl],.iface 148 (.agg #[.bool neg2,.int .u8 fl2]),.int .u8 md] w fun e w' => e = .returned (.iface 150 (.agg #[.bool s,.slice a n cap,.int .i64 x,.int .u8 fl])) ∧ Below w.heap.size w w' := by
 go_enter Tryz.func173,Tryz.ntmps173
 have ha := as_no (T := 150) (t := 148) (v := .agg #[.bool neg2,.int .u8 fl2]) (z := .agg #[.bool false,.slice none 0 0,.int .i64 0,.int .u8 0]) (by kernel_rfl) (by kernel_rfl) (by decide)
 have hm : ∀ w : World, (method 351 148 (.agg #[.bool neg2, .int .u8 fl2]) "numeral/soft.plus").run Tryz.prog w = .ok (165, .agg #[.bool neg2, .int .u8 fl2]) w := fun _ => by kernel_rfl
 go_wp2_with fail
 refine (nouplus_o neg2 fl2 md _ _ (by decide) _).mono ?_
 rintro e w1 ⟨rfl,hb1⟩
 have hS := (Fs.one w _ _).kept hb1
 obtain ⟨⟨ya,yb,yc,yd,-⟩,-⟩ := hS.cells
 go_wp2
 go_ret
 exact ⟨rfl,hS.fr⟩
theorem enter7 {f : FuncId} {fn : Func} (hf : Tryz.prog.funcs[f]? = some fn) (hname : (fn.name == "runtime.NumGoroutine") = false) (hb : fn.body.isSome = true) (args : Array Value) (w : World) : (callFunc f args).run Tryz.prog w = .ok (.enter f args) w := by
 obtain ⟨c,hc⟩ := Option.isSome_iff_exists.1 hb
 have h1 : fn.name ≠ "runtime.NumGoroutine" := by simpa using hname
 simp [callFunc,hf,h1,hc]
theorem Flt.alloc {W : World} {B : Nat} {v : Value} {k : Kd} (h : Flt W B v k) (o : Obj) : Flt (W.alloc o) B v k := h.kept (gr_alloc _ _)
theorem st_true7 : St 0 (fun _ => True) := ⟨fun _ _ _ _ => trivial,fun _ _ _ _ _ => trivial⟩
theorem st_flt7 (B : Nat) (v : Value) (k : Kd) : St 0 (fun W => Flt W B v k) := st_zero (fun _ _ hb h => h.kept hb)
theorem st_mine7 (a : Option Addr) (n c m : Nat) : St 0 (fun W => Mine W 0 a n c m) := st_zero (fun _ _ hb h => h.kept hb)
theorem add1_plain (q pm fn : Nat) (t0 t1 : TypeId) (y0 y1 : Value) (md : Int) (t : TypeId) (y : Value) (w : World) (hq : w.heap[q]? = some (.cells #[.iface t0 y0, .iface t1 y1] 39 (0, 0))) (hp : w.heap[pm]? = some (.cells #[.int .u8 md] 5 (0, 0))) (hm : (∀ w : World, (method 351 t0 (y0) "numeral/soft.plus").run Tryz.prog w = .ok (fn, y0) w)) (hcf : ∀ (args : Array Value) (w : World), (callFunc fn args).run Tryz.prog w = .ok (.enter fn args) w) (HC : Hid (∀ W : World, Below w.heap.size w W → Calls Tryz.prog fn #[y0, .iface t1 y1, .int .u8 md] W fun e w' => e = .returned (.iface t y) ∧ Below W.heap.size W w')) :
  Calls Tryz.prog 23 #[.slice (some ⟨q,0,none⟩) 2 2,.pointer (some ⟨pm,0,none⟩)] w fun e w' => e = .returned (.iface t y) ∧ Below w.heap.size w w' := by
 go_enter Tryz.func23,Tryz.ntmps23
 have hS : Fs w w [⟨q,#[.iface t0 y0,.iface t1 y1],39⟩,⟨pm,#[.int .u8 md],5⟩] := ⟨fun x hx => by simp only [List.mem_cons,List.not_mem_nil,or_false] at hx; rcases hx with rfl | rfl; exact hq; exact hp,Below.refl _ _⟩
 have hol0 : q < w.heap.size := block_lt hq
 have hol1 : pm < w.heap.size := block_lt hp
 clear hq hp
 obtain ⟨⟨ya,yb,-⟩,⟨yc,-⟩,-⟩ := hS.cells
 go_wp2_with fail
 have hS3s : w.heap.size ≤ w.heap.size := hS.size
 have hs9 : ∀ x9 : Nat × (Pk → World → Prop),x9 ∈ ([(11,fun _ W => True)] : List (Nat × (Pk → World → Prop))) → ∀ q9 : Pk,St 0 (x9.2 q9) := by
  intro x hx q
  simp only [List.mem_cons,List.not_mem_nil,or_false] at hx
  rcases hx with rfl
  ·exact st_true7
 have h09 : ∀ x9 : Nat × (Pk → World → Prop),x9 ∈ ([(11,fun _ W => True)] : List (Nat × (Pk → World → Prop))) → 11 ≤ x9.1 → x9.2 ⟨none,0,0⟩ w := by
  intro x hx hn9
  simp only [List.mem_cons,List.not_mem_nil,or_false] at hx
  rcases hx with rfl
  ·exact trivial
 refine wp_region_any (by kernel_rfl) ?_
 refine wpAny_pick (fun p9 => [some (4,.slice (some ⟨q,0,none⟩) 2 2),some (5,.pointer (some ⟨q,0,none⟩)),some (6,.iface t0 y0),some (7,.slice (some ⟨q,0,none⟩) 2 2),some (8,.pointer (some ⟨q,1,none⟩)),some (9,.iface t1 y1),some (10,.int .u8 md),some (11,.iface t0 y0),some (12,.iface t0 y0),some (13,.iface t y),some (3,.iface t y)])
  (fun p9 l9 W9 => Pm w 0 [(11,fun _ W => True)] p9 l9 W9 [⟨q,#[.iface t0 y0,.iface t1 y1],39⟩,⟨pm,#[.int .u8 md],5⟩]) _ _ (fun _ => rfl) (by kernel_rfl) (fun _ => rfl) (fun _ => rfl) ?_ ?_ (fun _ => ⟨none,0,0⟩) (Pm.start2 hS _ _ _ (Nat.zero_le _) hs9 h09)
 ·intro p9 l9 t9 W9 i9 hD hi9 hl9 hM
  obtain ⟨o9,ho9,hd9⟩ := (mem_ready.1 hi9).2
  have hin9 : i9 < 11 := by
   by_cases h : i9 < 11
   ·exact h
   ·rw [Array.getElem?_eq_none (by rw [hD.len]; simp; omega)] at hl9; cases hl9
  have hcase : i9 = 0 ∨ i9 = 1 ∨ i9 = 2 ∨ i9 = 3 ∨ i9 = 4 ∨ i9 = 5 ∨ i9 = 6 ∨ i9 = 7 ∨ i9 = 8 ∨ i9 = 9 ∨ i9 = 10 := by omega
  clear hin9
  rcases hcase with rfl | rfl | rfl | rfl | rfl | rfl | rfl | rfl | rfl | rfl | rfl
  ·cases ho9
   have r0 := hD.old 0 _ rfl rfl
   refine wpOp_step rfl fun K hK => ?_
   go_simp
   exact hK _ _ ⟨p9,fun _ _ => by first | exact rfl | trivial,rfl,(hM.val rfl)⟩
  ·cases ho9
   have r4 := hD.od hd9 0 4 _ rfl (by simp)
   refine wpOp_step rfl fun K hK => ?_
   go_simp
   exact hK _ _ ⟨p9,fun _ _ => by first | exact rfl | trivial,rfl,(hM.val rfl)⟩
  ·cases ho9
   have r5 := hD.od hd9 1 5 _ rfl (by simp)
   have hM0 := hM.st
   have c9_0 := hM0.cellAt (b := q) (cs := #[.iface t0 y0,.iface t1 y1]) (t := 39) (by simp) 0 _ rfl
   clear hM0
   refine wpOp_step rfl fun K hK => ?_
   go_simp
   exact hK _ _ ⟨p9,fun _ _ => by first | exact rfl | trivial,rfl,(hM.val rfl)⟩
  ·cases ho9
   have r0 := hD.old 0 _ rfl rfl
   refine wpOp_step rfl fun K hK => ?_
   go_simp
   exact hK _ _ ⟨p9,fun _ _ => by first | exact rfl | trivial,rfl,(hM.val rfl)⟩
  ·cases ho9
   have r7 := hD.od hd9 3 7 _ rfl (by simp)
   refine wpOp_step rfl fun K hK => ?_
   go_simp
   exact hK _ _ ⟨p9,fun _ _ => by first | exact rfl | trivial,rfl,(hM.val rfl)⟩
  ·cases ho9
   have r8 := hD.od hd9 4 8 _ rfl (by simp)
   have hM0 := hM.st
   have c9_0 := hM0.cellAt (b := q) (cs := #[.iface t0 y0,.iface t1 y1]) (t := 39) (by simp) 1 _ rfl
   clear hM0
   refine wpOp_step rfl fun K hK => ?_
   go_simp
   exact hK _ _ ⟨p9,fun _ _ => by first | exact rfl | trivial,rfl,(hM.val rfl)⟩
  ·cases ho9
   have r1 := hD.old 1 _ rfl rfl
   have hM0 := hM.st
   have c9_0 := hM0.cellAt (b := pm) (cs := #[.int .u8 md]) (t := 5) (by simp) 0 _ rfl
   clear hM0
   refine wpOp_step rfl fun K hK => ?_
   go_simp
   exact hK _ _ ⟨p9,fun _ _ => by first | exact rfl | trivial,rfl,(hM.val rfl)⟩
  ·cases ho9
   have r6 := hD.od hd9 2 6 _ rfl (by simp)
   refine wpOp_step rfl fun K hK => ?_
   go_simp
   exact hK _ _ ⟨p9,fun _ _ => by first | exact rfl | trivial,rfl,(hM.val rfl)⟩
  ·cases ho9
   have r6 := hD.od hd9 2 6 _ rfl (by simp)
   refine wpOp_step rfl fun K hK => ?_
   go_simp
   exact hK _ _ ⟨p9,fun _ _ => by first | exact rfl | trivial,rfl,(hM.val rfl)⟩
  ·cases ho9
   have r12 := hD.od hd9 8 12 _ rfl (by simp)
   have r9 := hD.od hd9 5 9 _ rfl (by simp)
   have r10 := hD.od hd9 6 10 _ rfl (by simp)
   have ga0 := hM.fx _ (List.mem_of_getElem? (i := 0) rfl) (Or.inr (by rw [hD.len]; simp))
   try simp only [] at ga0
   refine wpOp_step rfl fun K hK => ?_
   go_simp
   go_wp2_with fail
   refine (unhide HC _ hM.st.fr).mono ?_
   rintro en w9 ⟨rfl,hb9⟩
   exact hK _ _ ⟨p9,fun _ _ => by first | exact rfl | trivial,rfl,((hM.kept hs9 hb9).val rfl)⟩
  ·cases ho9
   have r13 := hD.od hd9 9 13 _ rfl (by simp)
   refine wpOp_step rfl fun K hK => ?_
   go_simp
   exact hK _ _ ⟨p9,fun _ _ => by first | exact rfl | trivial,rfl,(hM.val rfl)⟩
 ·intro p9 l9 W9 hn9 hl9 hM
  have kr1_0 := hM.fx _ (List.mem_of_getElem? (i := 0) rfl) (Or.inr (by rw [hn9]; simp))
  try simp only [] at kr1_0
  replace hM := hM.st
  clear hl9 hs9 h09 hn9
  clear hS ya yb yc
  have hS := hM
  clear hM
  simp only [Puts.lay,List.setIfInBounds_toArray,List.set_cons_zero,List.set_cons_succ]
  obtain ⟨⟨yd,ye,-⟩,⟨yf,-⟩,-⟩ := hS.cells
  go_wp2
  go_ret
  exact ⟨rfl,hS.fr⟩
theorem add1_num (q pm fn : Nat) (t0 t1 : TypeId) (y0 y1 : Value) (md : Int) (r : Bool) (v : Nat) (y fl2 : Int) (w : World) (hq : w.heap[q]? = some (.cells #[.iface t0 y0, .iface t1 y1] 39 (0, 0))) (hp : w.heap[pm]? = some (.cells #[.int .u8 md] 5 (0, 0))) (hm : (∀ w : World, (method 351 t0 (y0) "numeral/soft.plus").run Tryz.prog w = .ok (fn, y0) w)) (hcf : ∀ (args : Array Value) (w : World), (callFunc fn args).run Tryz.prog w = .ok (.enter fn args) w) (HC : Hid (∀ W : World, Below w.heap.size w W → Calls Tryz.prog fn #[y0, .iface t1 y1, .int .u8 md] W fun e w' => (∃ A N C, e = .returned (.iface 150 (.agg #[.bool r, .slice A N C, .int .i64 y, .int .u8 fl2])) ∧ Mine w' 0 A N C v) ∧ Below W.heap.size W w')) :
  Calls Tryz.prog 23 #[.slice (some ⟨q,0,none⟩) 2 2,.pointer (some ⟨pm,0,none⟩)] w fun e w' => (∃ A N C,e = .returned (.iface 150 (.agg #[.bool r,.slice A N C,.int .i64 y,.int .u8 fl2])) ∧ Mine w' 0 A N C v) ∧ Below w.heap.size w w' := by
 go_enter Tryz.func23,Tryz.ntmps23
 have hS : Fs w w [⟨q,#[.iface t0 y0,.iface t1 y1],39⟩,⟨pm,#[.int .u8 md],5⟩] := ⟨fun x hx => by simp only [List.mem_cons,List.not_mem_nil,or_false] at hx; rcases hx with rfl | rfl; exact hq; exact hp,Below.refl _ _⟩
 have hol0 : q < w.heap.size := block_lt hq
 have hol1 : pm < w.heap.size := block_lt hp
 clear hq hp
 obtain ⟨⟨ya,yb,-⟩,⟨yc,-⟩,-⟩ := hS.cells
 go_wp2_with fail
 have hS3s : w.heap.size ≤ w.heap.size := hS.size
 have hs9 : ∀ x9 : Nat × (Pk → World → Prop),x9 ∈ ([(9,fun q9 W => Mine W 0 q9.A q9.N q9.C v)] : List (Nat × (Pk → World → Prop))) → ∀ q9 : Pk,St 0 (x9.2 q9) := by
  intro x hx q
  simp only [List.mem_cons,List.not_mem_nil,or_false] at hx
  rcases hx with rfl
  ·exact st_mine7 _ _ _ _
 have h09 : ∀ x9 : Nat × (Pk → World → Prop),x9 ∈ ([(9,fun q9 W => Mine W 0 q9.A q9.N q9.C v)] : List (Nat × (Pk → World → Prop))) → 11 ≤ x9.1 → x9.2 ⟨none,0,0⟩ w := by
  intro x hx hn9
  simp only [List.mem_cons,List.not_mem_nil,or_false] at hx
  rcases hx with rfl
  ·exact absurd hn9 (by simp)
 refine wp_region_any (by kernel_rfl) ?_
 refine wpAny_pick (fun p9 => [some (4,.slice (some ⟨q,0,none⟩) 2 2),some (5,.pointer (some ⟨q,0,none⟩)),some (6,.iface t0 y0),some (7,.slice (some ⟨q,0,none⟩) 2 2),some (8,.pointer (some ⟨q,1,none⟩)),some (9,.iface t1 y1),some (10,.int .u8 md),some (11,.iface t0 y0),some (12,.iface t0 y0),some (13,.iface 150 (.agg #[.bool r,.slice (p9 9).A (p9 9).N (p9 9).C,.int .i64 y,.int .u8 fl2])),some (3,.iface 150 (.agg #[.bool r,.slice (p9 9).A (p9 9).N (p9 9).C,.int .i64 y,.int .u8 fl2]))])
  (fun p9 l9 W9 => Pm w 0 [(9,fun q9 W => Mine W 0 q9.A q9.N q9.C v)] p9 l9 W9 [⟨q,#[.iface t0 y0,.iface t1 y1],39⟩,⟨pm,#[.int .u8 md],5⟩]) _ _ (fun _ => rfl) (by kernel_rfl) (fun _ => rfl) (fun _ => rfl) ?_ ?_ (fun _ => ⟨none,0,0⟩) (Pm.start2 hS _ _ _ (Nat.zero_le _) hs9 h09)
 ·intro p9 l9 t9 W9 i9 hD hi9 hl9 hM
  obtain ⟨o9,ho9,hd9⟩ := (mem_ready.1 hi9).2
  have hin9 : i9 < 11 := by
   by_cases h : i9 < 11
   ·exact h
   ·rw [Array.getElem?_eq_none (by rw [hD.len]; simp; omega)] at hl9; cases hl9
  have hcase : i9 = 0 ∨ i9 = 1 ∨ i9 = 2 ∨ i9 = 3 ∨ i9 = 4 ∨ i9 = 5 ∨ i9 = 6 ∨ i9 = 7 ∨ i9 = 8 ∨ i9 = 9 ∨ i9 = 10 := by omega
  clear hin9
  rcases hcase with rfl | rfl | rfl | rfl | rfl | rfl | rfl | rfl | rfl | rfl | rfl
  ·cases ho9
   have r0 := hD.old 0 _ rfl rfl
   refine wpOp_step rfl fun K hK => ?_
   go_simp
   exact hK _ _ ⟨p9,fun _ _ => rfl,rfl,(hM.val rfl)⟩
  ·cases ho9
   have r4 := hD.od hd9 0 4 _ rfl (by simp)
   refine wpOp_step rfl fun K hK => ?_
   go_simp
   exact hK _ _ ⟨p9,fun _ _ => rfl,rfl,(hM.val rfl)⟩
  ·cases ho9
   have r5 := hD.od hd9 1 5 _ rfl (by simp)
   have hM0 := hM.st
   have c9_0 := hM0.cellAt (b := q) (cs := #[.iface t0 y0,.iface t1 y1]) (t := 39) (by simp) 0 _ rfl
   clear hM0
   refine wpOp_step rfl fun K hK => ?_
   go_simp
   exact hK _ _ ⟨p9,fun _ _ => rfl,rfl,(hM.val rfl)⟩
  ·cases ho9
   have r0 := hD.old 0 _ rfl rfl
   refine wpOp_step rfl fun K hK => ?_
   go_simp
   exact hK _ _ ⟨p9,fun _ _ => rfl,rfl,(hM.val rfl)⟩
  ·cases ho9
   have r7 := hD.od hd9 3 7 _ rfl (by simp)
   refine wpOp_step rfl fun K hK => ?_
   go_simp
   exact hK _ _ ⟨p9,fun _ _ => rfl,rfl,(hM.val rfl)⟩
  ·cases ho9
   have r8 := hD.od hd9 4 8 _ rfl (by simp)
   have hM0 := hM.st
   have c9_0 := hM0.cellAt (b := q) (cs := #[.iface t0 y0,.iface t1 y1]) (t := 39) (by simp) 1 _ rfl
   clear hM0
   refine wpOp_step rfl fun K hK => ?_
   go_simp
   exact hK _ _ ⟨p9,fun _ _ => rfl,rfl,(hM.val rfl)⟩
  ·cases ho9
   have r1 := hD.old 1 _ rfl rfl
   have hM0 := hM.st
   have c9_0 := hM0.cellAt (b := pm) (cs := #[.int .u8 md]) (t := 5) (by simp) 0 _ rfl
   clear hM0
   refine wpOp_step rfl fun K hK => ?_
   go_simp
   exact hK _ _ ⟨p9,fun _ _ => rfl,rfl,(hM.val rfl)⟩
  ·cases ho9
   have r6 := hD.od hd9 2 6 _ rfl (by simp)
   refine wpOp_step rfl fun K hK => ?_
   go_simp
   exact hK _ _ ⟨p9,fun _ _ => rfl,rfl,(hM.val rfl)⟩
  ·cases ho9
   have r6 := hD.od hd9 2 6 _ rfl (by simp)
   refine wpOp_step rfl fun K hK => ?_
   go_simp
   exact hK _ _ ⟨p9,fun _ _ => rfl,rfl,(hM.val rfl)⟩
  ·cases ho9
   have r12 := hD.od hd9 8 12 _ rfl (by simp)
   have r9 := hD.od hd9 5 9 _ rfl (by simp)
   have r10 := hD.od hd9 6 10 _ rfl (by simp)
   have HD := hide hD
   refine wpOp_step rfl fun K hK => ?_
   go_simp
   go_wp2_with fail
   refine (unhide HC _ hM.st.fr).mono ?_
   rintro en w9 ⟨⟨a9,n9,c9,rfl,h9⟩,hb9⟩
   refine hK _ _ ⟨p9.set 9 ⟨a9,n9,c9⟩,?_,rfl,((hM.kept hs9 hb9).pick ⟨a9,n9,c9⟩ ?_)⟩
   ·intro k9 hk9
    clear hM hK
    match k9,hk9 with
    | 0,_ => rfl
    | 1,_ => rfl
    | 2,_ => rfl
    | 3,_ => rfl
    | 4,_ => rfl
    | 5,_ => rfl
    | 6,_ => rfl
    | 7,_ => rfl
    | 8,_ => rfl
    | 9,hk9 => exact absurd (hl9.symm.trans hk9) (by simp)
    | 10,hk9 => exact absurd (hl9.symm.trans (getD_true ((unhide HD).shut 10 _ (hk9) rfl ⟨9,.data⟩ (by simp) rfl))) (by simp)
    | k9 + 11,_ => rfl
   ·intro x hx he; simp only [List.mem_cons,List.not_mem_nil,or_false] at hx; subst hx; exact h9
  ·cases ho9
   have r13 := hD.od hd9 9 13 _ rfl (by simp)
   refine wpOp_step rfl fun K hK => ?_
   go_simp
   exact hK _ _ ⟨p9,fun _ _ => rfl,rfl,(hM.val rfl)⟩
 ·intro p9 l9 W9 hn9 hl9 hM
  have fr1_9 := hM.fx _ (List.mem_of_getElem? (i := 0) rfl) (Or.inl (hl9 9 (by decide)))
  replace hM := hM.st
  clear hl9 hs9 h09 hn9
  generalize p9 9 = q9 at *
  obtain ⟨Ar1_9,Nr1_9,Cr1_9⟩ := q9
  simp only [] at fr1_9
  clear hS ya yb yc
  have hS := hM
  clear hM
  simp only [Puts.lay,List.setIfInBounds_toArray,List.set_cons_zero,List.set_cons_succ]
  obtain ⟨⟨yd,ye,-⟩,⟨yf,-⟩,-⟩ := hS.cells
  go_wp2
  go_ret
  exact ⟨⟨_,_,_,rfl,fr1_9⟩,hS.fr⟩
theorem operate2_err1 (E F a b : Int) (md fd p pm : Nat) (c : Int) (hc : (c == (0 : Int)) = false) (H0 : Tel 79 #[.agg #[.int .i64 E,.int .i64 F],.int .u64 a] (.int .i64 c)) (w : World) (hp : w.heap[p]? = some (.cells #[.int .u64 a,.int .u64 b] 24 (0,0)))  :
  Calls Tryz.prog 22 #[.agg #[.int .i64 E,.int .i64 F],.int .u8 (md : Int),.func (Fn.func fd) #[] #[.pointer (some ⟨pm,0,none⟩)],.slice (some ⟨p,0,none⟩) 2 2] w fun e w' => e = .returned (.tuple #[.int .u64 0,.int .u8 0,.int .i64 c]) ∧ Below w.heap.size w w' := by
 go_enter Tryz.func22,Tryz.ntmps22
 have hS : Fs w w [⟨p,#[.int .u64 a,.int .u64 b],24⟩] := ⟨fun x hx => by simp only [List.mem_cons,List.not_mem_nil,or_false] at hx; rcases hx with rfl; exact hp,Below.refl _ _⟩
 have hol0 : p < w.heap.size := block_lt hp
 clear hp
 replace hS := hS.alloc #[.int .i64 E,.int .i64 F] 23
 obtain ⟨⟨ya,yb,-⟩,⟨yc,yd,-⟩,-⟩ := hS.cells
 go_wp2_with fail
 refine (scheck2_err1 E F c hc p a b H0 _ (hS.bx ⟨p,#[.int .u64 a,.int .u64 b],24⟩ (by simp))).mono ?_
 rintro e w1 ⟨rfl,hb1⟩
 replace hS := hS.kept hb1
 clear ya yb yc yd
 obtain ⟨⟨ye,yf,-⟩,⟨yg,yh,-⟩,-⟩ := hS.cells
 go_wp2
 go_ret3
 exact ⟨rfl,hS.fr⟩
theorem operate2_err2 (E F a b : Int) (md fd p pm : Nat) (c : Int) (hc : (c == (0 : Int)) = false) (H0 : Tel 79 #[.agg #[.int .i64 E,.int .i64 F],.int .u64 a] (.int .i64 0)) (H1 : Tel 79 #[.agg #[.int .i64 E,.int .i64 F],.int .u64 b] (.int .i64 c)) (w : World) (hp : w.heap[p]? = some (.cells #[.int .u64 a,.int .u64 b] 24 (0,0)))  :
  Calls Tryz.prog 22 #[.agg #[.int .i64 E,.int .i64 F],.int .u8 (md : Int),.func (Fn.func fd) #[] #[.pointer (some ⟨pm,0,none⟩)],.slice (some ⟨p,0,none⟩) 2 2] w fun e w' => e = .returned (.tuple #[.int .u64 0,.int .u8 0,.int .i64 c]) ∧ Below w.heap.size w w' := by
 go_enter Tryz.func22,Tryz.ntmps22
 have hS : Fs w w [⟨p,#[.int .u64 a,.int .u64 b],24⟩] := ⟨fun x hx => by simp only [List.mem_cons,List.not_mem_nil,or_false] at hx; rcases hx with rfl; exact hp,Below.refl _ _⟩
 have hol0 : p < w.heap.size := block_lt hp
 clear hp
 replace hS := hS.alloc #[.int .i64 E,.int .i64 F] 23
 obtain ⟨⟨ya,yb,-⟩,⟨yc,yd,-⟩,-⟩ := hS.cells
 go_wp2_with fail
 refine (scheck2_err2 E F c hc p a b H0 H1 _ (hS.bx ⟨p,#[.int .u64 a,.int .u64 b],24⟩ (by simp))).mono ?_
 rintro e w1 ⟨rfl,hb1⟩
 replace hS := hS.kept hb1
 clear ya yb yc yd
 obtain ⟨⟨ye,yf,-⟩,⟨yg,yh,-⟩,-⟩ := hS.cells
 go_wp2
 go_ret3
 exact ⟨rfl,hS.fr⟩
theorem operate2_mode (E F a b : Int) (md fd p pm : Nat) (st : ByteArray) (H0 : Tel 79 #[.agg #[.int .i64 E,.int .i64 F],.int .u64 a] (.int .i64 0)) (H1 : Tel 79 #[.agg #[.int .i64 E,.int .i64 F],.int .u64 b] (.int .i64 0)) (HM : Tel 49 #[.int .u8 (md : Int)] (.tuple #[.string st,.int .i64 7])) (w : World) (hp : w.heap[p]? = some (.cells #[.int .u64 a,.int .u64 b] 24 (0,0)))  :
  Calls Tryz.prog 22 #[.agg #[.int .i64 E,.int .i64 F],.int .u8 (md : Int),.func (Fn.func fd) #[] #[.pointer (some ⟨pm,0,none⟩)],.slice (some ⟨p,0,none⟩) 2 2] w fun e w' => e = .returned (.tuple #[.int .u64 0,.int .u8 0,.int .i64 7]) ∧ Below w.heap.size w w' := by
 go_enter Tryz.func22,Tryz.ntmps22
 have hS : Fs w w [⟨p,#[.int .u64 a,.int .u64 b],24⟩] := ⟨fun x hx => by simp only [List.mem_cons,List.not_mem_nil,or_false] at hx; rcases hx with rfl; exact hp,Below.refl _ _⟩
 have hol0 : p < w.heap.size := block_lt hp
 clear hp
 replace hS := hS.alloc #[.int .i64 E,.int .i64 F] 23
 obtain ⟨⟨ya,yb,-⟩,⟨yc,yd,-⟩,-⟩ := hS.cells
 go_wp2_with fail
 refine (scheck2_ok E F p a b H0 H1 _ (hS.bx ⟨p,#[.int .u64 a,.int .u64 b],24⟩ (by simp))).mono ?_
 rintro e w1 ⟨rfl,hb1⟩
 replace hS := hS.kept hb1
 clear ya yb yc yd
 obtain ⟨⟨ye,yf,-⟩,⟨yg,yh,-⟩,-⟩ := hS.cells
 go_wp2_with fail
 refine (HM _).mono ?_
 rintro e w2 ⟨rfl,hb2⟩
 replace hS := hS.kept hb2
 clear ye yf yg yh
 obtain ⟨⟨yi,yj,-⟩,⟨yk,yl,-⟩,-⟩ := hS.cells
 go_wp2
 go_ret3
 exact ⟨rfl,hS.fr⟩
theorem operate2_plain (E F a b : Int) (md fd p pm : Nat) (H0 : Tel 79 #[.agg #[.int .i64 E, .int .i64 F], .int .u64 a] (.int .i64 0)) (H1 : Tel 79 #[.agg #[.int .i64 E, .int .i64 F], .int .u64 b] (.int .i64 0)) (k0 k1 : Kd) (HA : Hid (FlOf E F a k0)) (HB : Hid (FlOf E F b k1)) (hmd : md ≤ 4) (hr : (k0.isNan || k1.isNan) = false) (fr : Nat) (bb gg : Int) (t : TypeId) (y : Value)  (w : World) (hp : w.heap[p]? = some (.cells #[.int .u64 a, .int .u64 b] 24 (0, 0))) (hpm : w.heap[pm]? = some (.cells #[.int .u8 (md : Int)] 5 (0, 0))) (hT : Tb w) (hN : Nb w) (hcd : ∀ (args : Array Value) (w : World), (callFunc fd args).run Tryz.prog w = .ok (.enter fd args) w) (hcr : ∀ (args : Array Value) (w : World), (callFunc fr args).run Tryz.prog w = .ok (.enter fr args) w) (HDo : Hid (∀ (W : World) (q : Nat) (t0 t1 : TypeId) (y0 y1 : Value), Tb W → W.heap[q]? = some (.cells #[.iface t0 y0, .iface t1 y1] 39 (0, 0)) → W.heap[pm]? = some (.cells #[.int .u8 (md : Int)] 5 (0, 0)) → Flt W (q + 1) (.iface t0 y0) k0 → Flt W (q + 1) (.iface t1 y1) k1 → Calls Tryz.prog fd #[.slice (some ⟨q, 0, none⟩) 2 2, .pointer (some ⟨pm, 0, none⟩)] W fun e w' => e = .returned (.iface t y) ∧ Below W.heap.size W w')) (hm : (∀ w : World, (method 351 t (y) "numeral/soft.rounded").run Tryz.prog w = .ok (fr, y) w)) (HRd : Hid (∀ W : World, Calls Tryz.prog fr #[y, .agg #[.int .i64 E, .int .i64 F], .int .u8 (md : Int)] W fun e w' => e = .returned (.tuple #[.int .u64 bb, .int .u8 gg, .int .i64 0]) ∧ Below W.heap.size W w')) :
  Calls Tryz.prog 22 #[.agg #[.int .i64 E,.int .i64 F],.int .u8 (md : Int),.func (Fn.func fd) #[] #[.pointer (some ⟨pm,0,none⟩)],.slice (some ⟨p,0,none⟩) 2 2] w fun e w' => e = .returned (.tuple #[.int .u64 bb,.int .u8 gg,.int .i64 0]) ∧ Below w.heap.size w w' := by
 have HT := hide hT
 have HN := hide hN
 have HNN : Hid (∀ (q : Nat) (v0 v1 : Value) (B : Nat) (W : World),W.heap[q]? = some (.cells #[v0,v1] 39 (0,0)) → Flt W B v0 k0 → Flt W B v1 k1 → Calls Tryz.prog 51 #[.slice (some ⟨q,0,none⟩) 2 2] W fun e w' => e = .returned (.tuple #[.agg #[.int .u8 (nn2 k0 k1)],.bool false]) ∧ Below W.heap.size W w') := hide (fun q v0 v1 B W h1 h2 h3 => by have := noNumber2 q v0 v1 k0 k1 B W h1 h2 h3; rw [hr] at this; exact this)
 obtain ⟨fl,hfl⟩ : ∃ fl,nn2 k0 k1 = fl := ⟨_,rfl⟩
 rw [hfl] at HNN
 clear hT hN hr hfl
 go_enter Tryz.func22,Tryz.ntmps22
 have hS : Fs w w [⟨p,#[.int .u64 a,.int .u64 b],24⟩,⟨pm,#[.int .u8 (md : Int)],5⟩] := ⟨fun x hx => by simp only [List.mem_cons,List.not_mem_nil,or_false] at hx; rcases hx with rfl | rfl; exact hp; exact hpm,Below.refl _ _⟩
 have hol0 : p < w.heap.size := block_lt hp
 have hol1 : pm < w.heap.size := block_lt hpm
 clear hp hpm
 replace hS := hS.alloc #[.int .i64 E,.int .i64 F] 23
 obtain ⟨⟨ya,yb,-⟩,⟨yc,yd,-⟩,⟨ye,-⟩,-⟩ := hS.cells
 go_wp2_with fail
 refine (scheck2_ok E F p a b H0 H1 _ (hS.bx ⟨p,#[.int .u64 a,.int .u64 b],24⟩ (by simp))).mono ?_
 rintro e w1 ⟨rfl,hb1⟩
 replace hS := hS.kept hb1
 clear ya yb yc yd ye
 obtain ⟨⟨yf,yg,-⟩,⟨yh,yi,-⟩,⟨yj,-⟩,-⟩ := hS.cells
 go_wp2_with fail
 refine (name_ok md hmd _ ((unhide HN).kept hS.fr)).mono ?_
 rintro e w2 ⟨⟨st,rfl⟩,hb2⟩
 replace hS := hS.kept hb2
 clear yf yg yh yi yj
 obtain ⟨⟨yk,yl,-⟩,⟨ym,yn,-⟩,⟨yo,-⟩,-⟩ := hS.cells
 have hbx : w.heap.size < w2.heap.size := block_lt (hS.bx ⟨w.heap.size,#[.int .i64 E,.int .i64 F],23⟩ (by simp))
 go_wp2_with fail
 refine (floatsOf2 E F p a b k0 k1 HA HB _ ((unhide HT).kept hS.fr) (hS.bx ⟨p,#[.int .u64 a,.int .u64 b],24⟩ (by simp))).mono ?_
 rintro e w3 ⟨⟨q,t0,y0,t1,y1,rfl,hqw,hq,g0,g1⟩,hb3⟩
 replace hS := hS.kept hb3
 clear yk yl ym yn yo
 obtain ⟨⟨yp,yq,-⟩,⟨yr,ys,-⟩,⟨yt,-⟩,-⟩ := hS.cells
 have G0 : Hid (Flt w3 (q + 1) (.iface t0 y0) k0) := hide g0
 have G1 : Hid (Flt w3 (q + 1) (.iface t1 y1) k1) := hide g1
 clear g0 g1
 replace hS : Fs w w3 [⟨q,#[.iface t0 y0,.iface t1 y1],39⟩,⟨w.heap.size,#[.int .i64 E,.int .i64 F],23⟩,⟨p,#[.int .u64 a,.int .u64 b],24⟩,⟨pm,#[.int .u8 (md : Int)],5⟩] := ⟨fun x hx => by rcases List.mem_cons.1 hx with rfl | hx; exact hq; exact hS.bx x hx,hS.fr⟩
 clear hq yp yq yr ys yt
 obtain ⟨⟨yu,yv,-⟩,⟨yw,yx,-⟩,⟨yy,yz,-⟩,⟨y2,-⟩,-⟩ := hS.cells
 go_wp2_with fail
 refine (unhide HNN _ _ _ _ _ (hS.bx ⟨q,#[.iface t0 y0,.iface t1 y1],39⟩ (by simp)) (unhide G0) (unhide G1)).mono ?_
 rintro e w4 ⟨rfl,hb4⟩
 replace hS := hS.kept hb4
 clear yu yv yw yx yy yz y2
 obtain ⟨⟨y3,y4,-⟩,⟨y5,y6,-⟩,⟨y7,y8,-⟩,⟨y9,-⟩,-⟩ := hS.cells
 replace G0 := hide ((unhide G0).kept hb4)
 replace G1 := hide ((unhide G1).kept hb4)
 have hltw4_0 : q < w4.heap.size := hS.lt 0 rfl
 have hltw4_1 : w.heap.size < w4.heap.size := hS.lt 1 rfl
 have hltw4_2 : p < w4.heap.size := hS.lt 2 rfl
 have hltw4_3 : pm < w4.heap.size := hS.lt 3 rfl
 obtain ⟨WV,hWV⟩ : ∃ WV,w4.alloc (.cells #[.int .u8 fl] 85) = WV := ⟨_,rfl⟩
 replace hS := hS.alloc #[.int .u8 fl] 85
 rw [hWV] at hS
 replace G0 := hide (hWV ▸ (unhide G0).alloc (.cells #[.int .u8 fl] 85))
 replace G1 := hide (hWV ▸ (unhide G1).alloc (.cells #[.int .u8 fl] 85))
 clear y3 y4 y5 y6 y7 y8 y9
 obtain ⟨⟨yba,-⟩,⟨ybb,ybc,-⟩,⟨ybd,ybe,-⟩,⟨ybf,ybg,-⟩,⟨ybh,-⟩,-⟩ := hS.cells
 go_wp2_with fail
 have hS3s : w.heap.size ≤ WV.heap.size := hS.size
 have hs9 : ∀ x9 : Nat × (Pk → World → Prop),x9 ∈ ([(12,fun _ W => Flt W (q + 1) (.iface t0 y0) k0),(13,fun _ W => Flt W (q + 1) (.iface t1 y1) k1)] : List (Nat × (Pk → World → Prop))) → ∀ q9 : Pk,St 0 (x9.2 q9) := by
  intro x hx q
  simp only [List.mem_cons,List.not_mem_nil,or_false] at hx
  rcases hx with rfl | rfl
  ·exact st_flt7 _ _ _
  ·exact st_flt7 _ _ _
 have h09 : ∀ x9 : Nat × (Pk → World → Prop),x9 ∈ ([(12,fun _ W => Flt W (q + 1) (.iface t0 y0) k0),(13,fun _ W => Flt W (q + 1) (.iface t1 y1) k1)] : List (Nat × (Pk → World → Prop))) → 12 ≤ x9.1 → x9.2 ⟨none,0,0⟩ WV := by
  intro x hx hn9
  simp only [List.mem_cons,List.not_mem_nil,or_false] at hx
  rcases hx with rfl | rfl
  ·exact unhide G0
  ·exact unhide G1
 refine wp_region_any (by kernel_rfl) ?_
 refine wpAny_pick (fun p9 => [some (44,.func (Fn.func fd) #[] #[.pointer (some ⟨pm,0,none⟩)]),some (45,.slice (some ⟨q,0,none⟩) 2 2),some (46,.iface t y),some (47,.agg #[.int .i64 E,.int .i64 F]),some (48,.int .u8 (md : Int)),some (49,.tuple #[.int .u64 bb,.int .u8 gg,.int .i64 0]),some (50,.int .u64 bb),some (51,.int .u8 gg),some (52,.int .i64 0),some (8,.int .u64 bb),some (9,.int .u8 gg),some (10,.int .i64 0)])
  (fun p9 l9 W9 => Pm w 0 [(12,fun _ W => Flt W (q + 1) (.iface t0 y0) k0),(13,fun _ W => Flt W (q + 1) (.iface t1 y1) k1)] p9 l9 W9 [⟨w4.heap.size,#[.int .u8 fl],85⟩,⟨q,#[.iface t0 y0,.iface t1 y1],39⟩,⟨w.heap.size,#[.int .i64 E,.int .i64 F],23⟩,⟨p,#[.int .u64 a,.int .u64 b],24⟩,⟨pm,#[.int .u8 (md : Int)],5⟩]) _ _ (fun _ => rfl) (by kernel_rfl) (fun _ => rfl) (fun _ => rfl) ?_ ?_ (fun _ => ⟨none,0,0⟩) (Pm.start2 hS _ _ _ (Nat.zero_le _) hs9 h09)
 ·intro p9 l9 t9 W9 i9 hD hi9 hl9 hM
  obtain ⟨o9,ho9,hd9⟩ := (mem_ready.1 hi9).2
  have hin9 : i9 < 12 := by
   by_cases h : i9 < 12
   ·exact h
   ·rw [Array.getElem?_eq_none (by rw [hD.len]; simp; omega)] at hl9; cases hl9
  have hcase : i9 = 0 ∨ i9 = 1 ∨ i9 = 2 ∨ i9 = 3 ∨ i9 = 4 ∨ i9 = 5 ∨ i9 = 6 ∨ i9 = 7 ∨ i9 = 8 ∨ i9 = 9 ∨ i9 = 10 ∨ i9 = 11 := by omega
  clear hin9
  rcases hcase with rfl | rfl | rfl | rfl | rfl | rfl | rfl | rfl | rfl | rfl | rfl | rfl
  ·cases ho9
   have r2 := hD.old 2 _ rfl rfl
   refine wpOp_step rfl fun K hK => ?_
   go_simp
   exact hK _ _ ⟨p9,fun _ _ => by first | exact rfl | trivial,rfl,(hM.val rfl)⟩
  ·cases ho9
   have r14 := hD.old 14 _ rfl rfl
   refine wpOp_step rfl fun K hK => ?_
   go_simp
   exact hK _ _ ⟨p9,fun _ _ => by first | exact rfl | trivial,rfl,(hM.val rfl)⟩
  ·cases ho9
   have r44 := hD.od hd9 0 44 _ rfl (by simp)
   have r45 := hD.od hd9 1 45 _ rfl (by simp)
   have ga0 := hM.fx _ (List.mem_of_getElem? (i := 0) rfl) (Or.inr (by rw [hD.len]; simp))
   try simp only [] at ga0
   have ga1 := hM.fx _ (List.mem_of_getElem? (i := 1) rfl) (Or.inr (by rw [hD.len]; simp))
   try simp only [] at ga1
   refine wpOp_step rfl fun K hK => ?_
   go_simp
   go_wp2_with fail
   refine (unhide HDo _ _ _ _ _ _ ((unhide HT).kept hM.st.fr) (hM.st.bx ⟨q,#[.iface t0 y0,.iface t1 y1],39⟩ (by simp)) (hM.st.bx ⟨pm,#[.int .u8 (md : Int)],5⟩ (by simp)) ga0 ga1).mono ?_
   rintro en w9 ⟨rfl,hb9⟩
   exact hK _ _ ⟨p9,fun _ _ => by first | exact rfl | trivial,rfl,((hM.kept hs9 hb9).val rfl)⟩
  ·cases ho9
   have r4 := hD.old 4 _ rfl rfl
   have hM0 := hM.st
   have Q_ := hM0.cellAt (b := w.heap.size) (cs := #[.int .i64 E,.int .i64 F]) (t := 23) (by simp)
   have c9_0 := Q_ 0 _ rfl
   have c9_1 := Q_ 1 _ rfl
   clear Q_
   clear hM0
   refine wpOp_step rfl fun K hK => ?_
   go_simp
   exact hK _ _ ⟨p9,fun _ _ => by first | exact rfl | trivial,rfl,(hM.val rfl)⟩
  ·cases ho9
   have r1 := hD.old 1 _ rfl rfl
   refine wpOp_step rfl fun K hK => ?_
   go_simp
   exact hK _ _ ⟨p9,fun _ _ => by first | exact rfl | trivial,rfl,(hM.val rfl)⟩
  ·cases ho9
   have r46 := hD.od hd9 2 46 _ rfl (by simp)
   have r47 := hD.od hd9 3 47 _ rfl (by simp)
   have r48 := hD.od hd9 4 48 _ rfl (by simp)
   have ga0 := hM.fx _ (List.mem_of_getElem? (i := 0) rfl) (Or.inr (by rw [hD.len]; simp))
   try simp only [] at ga0
   have ga1 := hM.fx _ (List.mem_of_getElem? (i := 1) rfl) (Or.inr (by rw [hD.len]; simp))
   try simp only [] at ga1
   refine wpOp_step rfl fun K hK => ?_
   go_simp
   go_wp2_with fail
   refine (unhide HRd _).mono ?_
   rintro en w9 ⟨rfl,hb9⟩
   exact hK _ _ ⟨p9,fun _ _ => by first | exact rfl | trivial,rfl,((hM.kept hs9 hb9).val rfl)⟩
  ·cases ho9
   have r49 := hD.od hd9 5 49 _ rfl (by simp)
   refine wpOp_step rfl fun K hK => ?_
   go_simp
   exact hK _ _ ⟨p9,fun _ _ => by first | exact rfl | trivial,rfl,(hM.val rfl)⟩
  ·cases ho9
   have r49 := hD.od hd9 5 49 _ rfl (by simp)
   refine wpOp_step rfl fun K hK => ?_
   go_simp
   exact hK _ _ ⟨p9,fun _ _ => by first | exact rfl | trivial,rfl,(hM.val rfl)⟩
  ·cases ho9
   have r49 := hD.od hd9 5 49 _ rfl (by simp)
   refine wpOp_step rfl fun K hK => ?_
   go_simp
   exact hK _ _ ⟨p9,fun _ _ => by first | exact rfl | trivial,rfl,(hM.val rfl)⟩
  ·cases ho9
   have r50 := hD.od hd9 6 50 _ rfl (by simp)
   refine wpOp_step rfl fun K hK => ?_
   go_simp
   exact hK _ _ ⟨p9,fun _ _ => by first | exact rfl | trivial,rfl,(hM.val rfl)⟩
  ·cases ho9
   have r51 := hD.od hd9 7 51 _ rfl (by simp)
   refine wpOp_step rfl fun K hK => ?_
   go_simp
   exact hK _ _ ⟨p9,fun _ _ => by first | exact rfl | trivial,rfl,(hM.val rfl)⟩
  ·cases ho9
   have r52 := hD.od hd9 8 52 _ rfl (by simp)
   refine wpOp_step rfl fun K hK => ?_
   go_simp
   exact hK _ _ ⟨p9,fun _ _ => by first | exact rfl | trivial,rfl,(hM.val rfl)⟩
 ·intro p9 l9 W9 hn9 hl9 hM
  have kr11_0 := hM.fx _ (List.mem_of_getElem? (i := 0) rfl) (Or.inr (by rw [hn9]; simp))
  try simp only [] at kr11_0
  have kr11_1 := hM.fx _ (List.mem_of_getElem? (i := 1) rfl) (Or.inr (by rw [hn9]; simp))
  try simp only [] at kr11_1
  replace hM := hM.st
  clear hl9 hs9 h09 hn9
  clear hS yba ybb ybc ybd ybe ybf ybg ybh
  have hS := hM
  clear hM
  simp only [Puts.lay,List.setIfInBounds_toArray,List.set_cons_zero,List.set_cons_succ]
  obtain ⟨⟨ybi,-⟩,⟨ybj,ybk,-⟩,⟨ybl,ybm,-⟩,⟨ybn,ybo,-⟩,⟨ybp,-⟩,-⟩ := hS.cells
  go_wp2
  go_ret3
  exact ⟨rfl,hS.fr⟩
theorem operate2_num (E F a b : Int) (md fd p pm : Nat) (H0 : Tel 79 #[.agg #[.int .i64 E, .int .i64 F], .int .u64 a] (.int .i64 0)) (H1 : Tel 79 #[.agg #[.int .i64 E, .int .i64 F], .int .u64 b] (.int .i64 0)) (k0 k1 : Kd) (HA : Hid (FlOf E F a k0)) (HB : Hid (FlOf E F b k1)) (hmd : md ≤ 4) (hr : (k0.isNan || k1.isNan) = false) (fr : Nat) (bb gg : Int) (r : Bool) (v : Nat) (y fl2 : Int)  (w : World) (hp : w.heap[p]? = some (.cells #[.int .u64 a, .int .u64 b] 24 (0, 0))) (hpm : w.heap[pm]? = some (.cells #[.int .u8 (md : Int)] 5 (0, 0))) (hT : Tb w) (hN : Nb w) (hcd : ∀ (args : Array Value) (w : World), (callFunc fd args).run Tryz.prog w = .ok (.enter fd args) w) (hcr : ∀ (args : Array Value) (w : World), (callFunc fr args).run Tryz.prog w = .ok (.enter fr args) w) (HDo : Hid (∀ (W : World) (q : Nat) (t0 t1 : TypeId) (y0 y1 : Value), Tb W → W.heap[q]? = some (.cells #[.iface t0 y0, .iface t1 y1] 39 (0, 0)) → W.heap[pm]? = some (.cells #[.int .u8 (md : Int)] 5 (0, 0)) → Flt W (q + 1) (.iface t0 y0) k0 → Flt W (q + 1) (.iface t1 y1) k1 → Calls Tryz.prog fd #[.slice (some ⟨q, 0, none⟩) 2 2, .pointer (some ⟨pm, 0, none⟩)] W fun e w' => (∃ A N C, e = .returned (.iface 150 (.agg #[.bool r, .slice A N C, .int .i64 y, .int .u8 fl2])) ∧ Mine w' 0 A N C v) ∧ Below W.heap.size W w')) (hm : ∀ (A : Option Addr) (N C : Nat), (∀ w : World, (method 351 150 (.agg #[.bool r, .slice A N C, .int .i64 y, .int .u8 fl2]) "numeral/soft.rounded").run Tryz.prog w = .ok (fr, .agg #[.bool r, .slice A N C, .int .i64 y, .int .u8 fl2]) w)) (HRd : Hid (∀ (W : World) (A : Option Addr) (N C : Nat), Mine W 0 A N C v → Calls Tryz.prog fr #[.agg #[.bool r, .slice A N C, .int .i64 y, .int .u8 fl2], .agg #[.int .i64 E, .int .i64 F], .int .u8 (md : Int)] W fun e w' => e = .returned (.tuple #[.int .u64 bb, .int .u8 gg, .int .i64 0]) ∧ Below W.heap.size W w')) :
  Calls Tryz.prog 22 #[.agg #[.int .i64 E,.int .i64 F],.int .u8 (md : Int),.func (Fn.func fd) #[] #[.pointer (some ⟨pm,0,none⟩)],.slice (some ⟨p,0,none⟩) 2 2] w fun e w' => e = .returned (.tuple #[.int .u64 bb,.int .u8 gg,.int .i64 0]) ∧ Below w.heap.size w w' := by
 have HT := hide hT
 have HN := hide hN
 have HNN : Hid (∀ (q : Nat) (v0 v1 : Value) (B : Nat) (W : World),W.heap[q]? = some (.cells #[v0,v1] 39 (0,0)) → Flt W B v0 k0 → Flt W B v1 k1 → Calls Tryz.prog 51 #[.slice (some ⟨q,0,none⟩) 2 2] W fun e w' => e = .returned (.tuple #[.agg #[.int .u8 (nn2 k0 k1)],.bool false]) ∧ Below W.heap.size W w') := hide (fun q v0 v1 B W h1 h2 h3 => by have := noNumber2 q v0 v1 k0 k1 B W h1 h2 h3; rw [hr] at this; exact this)
 obtain ⟨fl,hfl⟩ : ∃ fl,nn2 k0 k1 = fl := ⟨_,rfl⟩
 rw [hfl] at HNN
 clear hT hN hr hfl
 go_enter Tryz.func22,Tryz.ntmps22
 have hS : Fs w w [⟨p,#[.int .u64 a,.int .u64 b],24⟩,⟨pm,#[.int .u8 (md : Int)],5⟩] := ⟨fun x hx => by simp only [List.mem_cons,List.not_mem_nil,or_false] at hx; rcases hx with rfl | rfl; exact hp; exact hpm,Below.refl _ _⟩
 have hol0 : p < w.heap.size := block_lt hp
 have hol1 : pm < w.heap.size := block_lt hpm
 clear hp hpm
 replace hS := hS.alloc #[.int .i64 E,.int .i64 F] 23
 obtain ⟨⟨ya,yb,-⟩,⟨yc,yd,-⟩,⟨ye,-⟩,-⟩ := hS.cells
 go_wp2_with fail
 refine (scheck2_ok E F p a b H0 H1 _ (hS.bx ⟨p,#[.int .u64 a,.int .u64 b],24⟩ (by simp))).mono ?_
 rintro e w1 ⟨rfl,hb1⟩
 replace hS := hS.kept hb1
 clear ya yb yc yd ye
 obtain ⟨⟨yf,yg,-⟩,⟨yh,yi,-⟩,⟨yj,-⟩,-⟩ := hS.cells
 go_wp2_with fail
 refine (name_ok md hmd _ ((unhide HN).kept hS.fr)).mono ?_
 rintro e w2 ⟨⟨st,rfl⟩,hb2⟩
 replace hS := hS.kept hb2
 clear yf yg yh yi yj
 obtain ⟨⟨yk,yl,-⟩,⟨ym,yn,-⟩,⟨yo,-⟩,-⟩ := hS.cells
 have hbx : w.heap.size < w2.heap.size := block_lt (hS.bx ⟨w.heap.size,#[.int .i64 E,.int .i64 F],23⟩ (by simp))
 go_wp2_with fail
 refine (floatsOf2 E F p a b k0 k1 HA HB _ ((unhide HT).kept hS.fr) (hS.bx ⟨p,#[.int .u64 a,.int .u64 b],24⟩ (by simp))).mono ?_
 rintro e w3 ⟨⟨q,t0,y0,t1,y1,rfl,hqw,hq,g0,g1⟩,hb3⟩
 replace hS := hS.kept hb3
 clear yk yl ym yn yo
 obtain ⟨⟨yp,yq,-⟩,⟨yr,ys,-⟩,⟨yt,-⟩,-⟩ := hS.cells
 have G0 : Hid (Flt w3 (q + 1) (.iface t0 y0) k0) := hide g0
 have G1 : Hid (Flt w3 (q + 1) (.iface t1 y1) k1) := hide g1
 clear g0 g1
 replace hS : Fs w w3 [⟨q,#[.iface t0 y0,.iface t1 y1],39⟩,⟨w.heap.size,#[.int .i64 E,.int .i64 F],23⟩,⟨p,#[.int .u64 a,.int .u64 b],24⟩,⟨pm,#[.int .u8 (md : Int)],5⟩] := ⟨fun x hx => by rcases List.mem_cons.1 hx with rfl | hx; exact hq; exact hS.bx x hx,hS.fr⟩
 clear hq yp yq yr ys yt
 obtain ⟨⟨yu,yv,-⟩,⟨yw,yx,-⟩,⟨yy,yz,-⟩,⟨y2,-⟩,-⟩ := hS.cells
 go_wp2_with fail
 refine (unhide HNN _ _ _ _ _ (hS.bx ⟨q,#[.iface t0 y0,.iface t1 y1],39⟩ (by simp)) (unhide G0) (unhide G1)).mono ?_
 rintro e w4 ⟨rfl,hb4⟩
 replace hS := hS.kept hb4
 clear yu yv yw yx yy yz y2
 obtain ⟨⟨y3,y4,-⟩,⟨y5,y6,-⟩,⟨y7,y8,-⟩,⟨y9,-⟩,-⟩ := hS.cells
 replace G0 := hide ((unhide G0).kept hb4)
 replace G1 := hide ((unhide G1).kept hb4)
 have hltw4_0 : q < w4.heap.size := hS.lt 0 rfl
 have hltw4_1 : w.heap.size < w4.heap.size := hS.lt 1 rfl
 have hltw4_2 : p < w4.heap.size := hS.lt 2 rfl
 have hltw4_3 : pm < w4.heap.size := hS.lt 3 rfl
 obtain ⟨WV,hWV⟩ : ∃ WV,w4.alloc (.cells #[.int .u8 fl] 85) = WV := ⟨_,rfl⟩
 replace hS := hS.alloc #[.int .u8 fl] 85
 rw [hWV] at hS
 replace G0 := hide (hWV ▸ (unhide G0).alloc (.cells #[.int .u8 fl] 85))
 replace G1 := hide (hWV ▸ (unhide G1).alloc (.cells #[.int .u8 fl] 85))
 clear y3 y4 y5 y6 y7 y8 y9
 obtain ⟨⟨yba,-⟩,⟨ybb,ybc,-⟩,⟨ybd,ybe,-⟩,⟨ybf,ybg,-⟩,⟨ybh,-⟩,-⟩ := hS.cells
 go_wp2_with fail
 have hS3s : w.heap.size ≤ WV.heap.size := hS.size
 have hs9 : ∀ x9 : Nat × (Pk → World → Prop),x9 ∈ ([(2,fun q9 W => Mine W 0 q9.A q9.N q9.C v),(12,fun _ W => Flt W (q + 1) (.iface t0 y0) k0),(13,fun _ W => Flt W (q + 1) (.iface t1 y1) k1)] : List (Nat × (Pk → World → Prop))) → ∀ q9 : Pk,St 0 (x9.2 q9) := by
  intro x hx q
  simp only [List.mem_cons,List.not_mem_nil,or_false] at hx
  rcases hx with rfl | rfl | rfl
  ·exact st_mine7 _ _ _ _
  ·exact st_flt7 _ _ _
  ·exact st_flt7 _ _ _
 have h09 : ∀ x9 : Nat × (Pk → World → Prop),x9 ∈ ([(2,fun q9 W => Mine W 0 q9.A q9.N q9.C v),(12,fun _ W => Flt W (q + 1) (.iface t0 y0) k0),(13,fun _ W => Flt W (q + 1) (.iface t1 y1) k1)] : List (Nat × (Pk → World → Prop))) → 12 ≤ x9.1 → x9.2 ⟨none,0,0⟩ WV := by
  intro x hx hn9
  simp only [List.mem_cons,List.not_mem_nil,or_false] at hx
  rcases hx with rfl | rfl | rfl
  ·exact absurd hn9 (by simp)
  ·exact unhide G0
  ·exact unhide G1
 refine wp_region_any (by kernel_rfl) ?_
 refine wpAny_pick (fun p9 => [some (44,.func (Fn.func fd) #[] #[.pointer (some ⟨pm,0,none⟩)]),some (45,.slice (some ⟨q,0,none⟩) 2 2),some (46,.iface 150 (.agg #[.bool r,.slice (p9 2).A (p9 2).N (p9 2).C,.int .i64 y,.int .u8 fl2])),some (47,.agg #[.int .i64 E,.int .i64 F]),some (48,.int .u8 (md : Int)),some (49,.tuple #[.int .u64 bb,.int .u8 gg,.int .i64 0]),some (50,.int .u64 bb),some (51,.int .u8 gg),some (52,.int .i64 0),some (8,.int .u64 bb),some (9,.int .u8 gg),some (10,.int .i64 0)])
  (fun p9 l9 W9 => Pm w 0 [(2,fun q9 W => Mine W 0 q9.A q9.N q9.C v),(12,fun _ W => Flt W (q + 1) (.iface t0 y0) k0),(13,fun _ W => Flt W (q + 1) (.iface t1 y1) k1)] p9 l9 W9 [⟨w4.heap.size,#[.int .u8 fl],85⟩,⟨q,#[.iface t0 y0,.iface t1 y1],39⟩,⟨w.heap.size,#[.int .i64 E,.int .i64 F],23⟩,⟨p,#[.int .u64 a,.int .u64 b],24⟩,⟨pm,#[.int .u8 (md : Int)],5⟩]) _ _ (fun _ => rfl) (by kernel_rfl) (fun _ => rfl) (fun _ => rfl) ?_ ?_ (fun _ => ⟨none,0,0⟩) (Pm.start2 hS _ _ _ (Nat.zero_le _) hs9 h09)
 ·intro p9 l9 t9 W9 i9 hD hi9 hl9 hM
  obtain ⟨o9,ho9,hd9⟩ := (mem_ready.1 hi9).2
  have hin9 : i9 < 12 := by
   by_cases h : i9 < 12
   ·exact h
   ·rw [Array.getElem?_eq_none (by rw [hD.len]; simp; omega)] at hl9; cases hl9
  have hcase : i9 = 0 ∨ i9 = 1 ∨ i9 = 2 ∨ i9 = 3 ∨ i9 = 4 ∨ i9 = 5 ∨ i9 = 6 ∨ i9 = 7 ∨ i9 = 8 ∨ i9 = 9 ∨ i9 = 10 ∨ i9 = 11 := by omega
  clear hin9
  rcases hcase with rfl | rfl | rfl | rfl | rfl | rfl | rfl | rfl | rfl | rfl | rfl | rfl
  ·cases ho9
   have r2 := hD.old 2 _ rfl rfl
   refine wpOp_step rfl fun K hK => ?_
   go_simp
   exact hK _ _ ⟨p9,fun _ _ => rfl,rfl,(hM.val rfl)⟩
  ·cases ho9
   have r14 := hD.old 14 _ rfl rfl
   refine wpOp_step rfl fun K hK => ?_
   go_simp
   exact hK _ _ ⟨p9,fun _ _ => rfl,rfl,(hM.val rfl)⟩
  ·cases ho9
   have r44 := hD.od hd9 0 44 _ rfl (by simp)
   have r45 := hD.od hd9 1 45 _ rfl (by simp)
   have ga0 := hM.fx _ (List.mem_of_getElem? (i := 1) rfl) (Or.inr (by rw [hD.len]; simp))
   try simp only [] at ga0
   have ga1 := hM.fx _ (List.mem_of_getElem? (i := 2) rfl) (Or.inr (by rw [hD.len]; simp))
   try simp only [] at ga1
   have HD := hide hD
   refine wpOp_step rfl fun K hK => ?_
   go_simp
   go_wp2_with fail
   refine (unhide HDo _ _ _ _ _ _ ((unhide HT).kept hM.st.fr) (hM.st.bx ⟨q,#[.iface t0 y0,.iface t1 y1],39⟩ (by simp)) (hM.st.bx ⟨pm,#[.int .u8 (md : Int)],5⟩ (by simp)) ga0 ga1).mono ?_
   rintro en w9 ⟨⟨a9,n9,c9,rfl,h9⟩,hb9⟩
   refine hK _ _ ⟨p9.set 2 ⟨a9,n9,c9⟩,?_,rfl,((hM.kept hs9 hb9).pick ⟨a9,n9,c9⟩ ?_)⟩
   ·intro k9 hk9
    clear hM hK
    match k9,hk9 with
    | 0,_ => rfl
    | 1,_ => rfl
    | 2,hk9 => exact absurd (hl9.symm.trans hk9) (by simp)
    | 3,_ => rfl
    | 4,_ => rfl
    | 5,hk9 => exact absurd (hl9.symm.trans (getD_true ((unhide HD).shut 5 _ (hk9) rfl ⟨2,.data⟩ (by simp) rfl))) (by simp)
    | 6,hk9 => exact absurd (hl9.symm.trans (getD_true ((unhide HD).shut 5 _ (getD_true ((unhide HD).shut 6 _ (hk9) rfl ⟨5,.data⟩ (by simp) rfl)) rfl ⟨2,.data⟩ (by simp) rfl))) (by simp)
    | 7,hk9 => exact absurd (hl9.symm.trans (getD_true ((unhide HD).shut 5 _ (getD_true ((unhide HD).shut 7 _ (hk9) rfl ⟨5,.data⟩ (by simp) rfl)) rfl ⟨2,.data⟩ (by simp) rfl))) (by simp)
    | 8,hk9 => exact absurd (hl9.symm.trans (getD_true ((unhide HD).shut 5 _ (getD_true ((unhide HD).shut 8 _ (hk9) rfl ⟨5,.data⟩ (by simp) rfl)) rfl ⟨2,.data⟩ (by simp) rfl))) (by simp)
    | 9,hk9 => exact absurd (hl9.symm.trans (getD_true ((unhide HD).shut 9 _ (hk9) rfl ⟨2,.phase⟩ (by simp) rfl))) (by simp)
    | 10,hk9 => exact absurd (hl9.symm.trans (getD_true ((unhide HD).shut 10 _ (hk9) rfl ⟨2,.phase⟩ (by simp) rfl))) (by simp)
    | 11,hk9 => exact absurd (hl9.symm.trans (getD_true ((unhide HD).shut 11 _ (hk9) rfl ⟨2,.phase⟩ (by simp) rfl))) (by simp)
    | k9 + 12,_ => rfl
   ·intro x hx he; simp only [List.mem_cons,List.not_mem_nil,or_false] at hx; rcases hx with rfl | rfl | rfl
    ·exact h9
    ·exact absurd he (by simp)
    ·exact absurd he (by simp)
  ·cases ho9
   have r4 := hD.old 4 _ rfl rfl
   have hM0 := hM.st
   have Q_ := hM0.cellAt (b := w.heap.size) (cs := #[.int .i64 E,.int .i64 F]) (t := 23) (by simp)
   have c9_0 := Q_ 0 _ rfl
   have c9_1 := Q_ 1 _ rfl
   clear Q_
   clear hM0
   refine wpOp_step rfl fun K hK => ?_
   go_simp
   exact hK _ _ ⟨p9,fun _ _ => rfl,rfl,(hM.val rfl)⟩
  ·cases ho9
   have r1 := hD.old 1 _ rfl rfl
   refine wpOp_step rfl fun K hK => ?_
   go_simp
   exact hK _ _ ⟨p9,fun _ _ => rfl,rfl,(hM.val rfl)⟩
  ·cases ho9
   have r46 := hD.od hd9 2 46 _ rfl (by simp)
   have r47 := hD.od hd9 3 47 _ rfl (by simp)
   have r48 := hD.od hd9 4 48 _ rfl (by simp)
   have ga0 := hM.fx _ (List.mem_of_getElem? (i := 1) rfl) (Or.inr (by rw [hD.len]; simp))
   try simp only [] at ga0
   have ga1 := hM.fx _ (List.mem_of_getElem? (i := 2) rfl) (Or.inr (by rw [hD.len]; simp))
   try simp only [] at ga1
   have g2 := hM.fx _ (List.mem_of_getElem? (i := 0) rfl) (Or.inl (getD_true (hd9 ⟨2,.data⟩ (by simp) rfl)))
   simp only [] at g2
   refine wpOp_step rfl fun K hK => ?_
   go_simp
   go_wp2_with fail
   refine (unhide HRd _ _ _ _ g2).mono ?_
   rintro en w9 ⟨rfl,hb9⟩
   exact hK _ _ ⟨p9,fun _ _ => rfl,rfl,((hM.kept hs9 hb9).val rfl)⟩
  ·cases ho9
   have r49 := hD.od hd9 5 49 _ rfl (by simp)
   refine wpOp_step rfl fun K hK => ?_
   go_simp
   exact hK _ _ ⟨p9,fun _ _ => rfl,rfl,(hM.val rfl)⟩
  ·cases ho9
   have r49 := hD.od hd9 5 49 _ rfl (by simp)
   refine wpOp_step rfl fun K hK => ?_
   go_simp
   exact hK _ _ ⟨p9,fun _ _ => rfl,rfl,(hM.val rfl)⟩
  ·cases ho9
   have r49 := hD.od hd9 5 49 _ rfl (by simp)
   refine wpOp_step rfl fun K hK => ?_
   go_simp
   exact hK _ _ ⟨p9,fun _ _ => rfl,rfl,(hM.val rfl)⟩
  ·cases ho9
   have r50 := hD.od hd9 6 50 _ rfl (by simp)
   refine wpOp_step rfl fun K hK => ?_
   go_simp
   exact hK _ _ ⟨p9,fun _ _ => rfl,rfl,(hM.val rfl)⟩
  ·cases ho9
   have r51 := hD.od hd9 7 51 _ rfl (by simp)
   refine wpOp_step rfl fun K hK => ?_
   go_simp
   exact hK _ _ ⟨p9,fun _ _ => rfl,rfl,(hM.val rfl)⟩
  ·cases ho9
   have r52 := hD.od hd9 8 52 _ rfl (by simp)
   refine wpOp_step rfl fun K hK => ?_
   go_simp
   exact hK _ _ ⟨p9,fun _ _ => rfl,rfl,(hM.val rfl)⟩
 ·intro p9 l9 W9 hn9 hl9 hM
  have fr11_2 := hM.fx _ (List.mem_of_getElem? (i := 0) rfl) (Or.inl (hl9 2 (by decide)))
  have kr11_0 := hM.fx _ (List.mem_of_getElem? (i := 1) rfl) (Or.inr (by rw [hn9]; simp))
  try simp only [] at kr11_0
  have kr11_1 := hM.fx _ (List.mem_of_getElem? (i := 2) rfl) (Or.inr (by rw [hn9]; simp))
  try simp only [] at kr11_1
  replace hM := hM.st
  clear hl9 hs9 h09 hn9
  generalize p9 2 = q2 at *
  obtain ⟨Ar11_2,Nr11_2,Cr11_2⟩ := q2
  simp only [] at fr11_2
  clear hS yba ybb ybc ybd ybe ybf ybg ybh
  have hS := hM
  clear hM
  simp only [Puts.lay,List.setIfInBounds_toArray,List.set_cons_zero,List.set_cons_succ]
  obtain ⟨⟨ybi,-⟩,⟨ybj,ybk,-⟩,⟨ybl,ybm,-⟩,⟨ybn,ybo,-⟩,⟨ybp,-⟩,-⟩ := hS.cells
  go_wp2
  go_ret3
  exact ⟨rfl,hS.fr⟩
theorem operate2_nan (E F a b : Int) (md fd p pm : Nat) (H0 : Tel 79 #[.agg #[.int .i64 E, .int .i64 F], .int .u64 a] (.int .i64 0)) (H1 : Tel 79 #[.agg #[.int .i64 E, .int .i64 F], .int .u64 b] (.int .i64 0)) (k0 k1 : Kd) (HA : Hid (FlOf E F a k0)) (HB : Hid (FlOf E F b k1)) (hmd : md ≤ 4) (hr : (k0.isNan || k1.isNan) = true) (fr : Nat) (bb gg : Int) (t : TypeId) (y : Value) (fl : Nat) (hfl : nn2 k0 k1 = (fl : Int))  (w : World) (hp : w.heap[p]? = some (.cells #[.int .u64 a, .int .u64 b] 24 (0, 0))) (hpm : w.heap[pm]? = some (.cells #[.int .u8 (md : Int)] 5 (0, 0))) (hT : Tb w) (hN : Nb w) (hcd : ∀ (args : Array Value) (w : World), (callFunc fd args).run Tryz.prog w = .ok (.enter fd args) w) (hcr : ∀ (args : Array Value) (w : World), (callFunc fr args).run Tryz.prog w = .ok (.enter fr args) w) (HDo : Hid (∀ (W : World) (q : Nat) (t0 t1 : TypeId) (y0 y1 : Value), Tb W → W.heap[q]? = some (.cells #[.iface t0 y0, .iface t1 y1] 39 (0, 0)) → W.heap[pm]? = some (.cells #[.int .u8 (md : Int)] 5 (0, 0)) → Flt W (q + 1) (.iface t0 y0) (.nan fl) → Flt W (q + 1) (.iface t1 y1) k1 → Calls Tryz.prog fd #[.slice (some ⟨q, 0, none⟩) 2 2, .pointer (some ⟨pm, 0, none⟩)] W fun e w' => e = .returned (.iface t y) ∧ Below W.heap.size W w')) (hm : (∀ w : World, (method 351 t (y) "numeral/soft.rounded").run Tryz.prog w = .ok (fr, y) w)) (HRd : Hid (∀ W : World, Calls Tryz.prog fr #[y, .agg #[.int .i64 E, .int .i64 F], .int .u8 (md : Int)] W fun e w' => e = .returned (.tuple #[.int .u64 bb, .int .u8 gg, .int .i64 0]) ∧ Below W.heap.size W w')) :
  Calls Tryz.prog 22 #[.agg #[.int .i64 E,.int .i64 F],.int .u8 (md : Int),.func (Fn.func fd) #[] #[.pointer (some ⟨pm,0,none⟩)],.slice (some ⟨p,0,none⟩) 2 2] w fun e w' => e = .returned (.tuple #[.int .u64 bb,.int .u8 gg,.int .i64 0]) ∧ Below w.heap.size w w' := by
 have HT := hide hT
 have HN := hide hN
 have HNN : Hid (∀ (q : Nat) (v0 v1 : Value) (B : Nat) (W : World),W.heap[q]? = some (.cells #[v0,v1] 39 (0,0)) → Flt W B v0 k0 → Flt W B v1 k1 → Calls Tryz.prog 51 #[.slice (some ⟨q,0,none⟩) 2 2] W fun e w' => e = .returned (.tuple #[.agg #[.int .u8 (nn2 k0 k1)],.bool true]) ∧ Below W.heap.size W w') := hide (fun q v0 v1 B W h1 h2 h3 => by have := noNumber2 q v0 v1 k0 k1 B W h1 h2 h3; rw [hr] at this; exact this)
 rw [hfl] at HNN
 clear hT hN hr hfl
 go_enter Tryz.func22,Tryz.ntmps22
 have hS : Fs w w [⟨p,#[.int .u64 a,.int .u64 b],24⟩,⟨pm,#[.int .u8 (md : Int)],5⟩] := ⟨fun x hx => by simp only [List.mem_cons,List.not_mem_nil,or_false] at hx; rcases hx with rfl | rfl; exact hp; exact hpm,Below.refl _ _⟩
 have hol0 : p < w.heap.size := block_lt hp
 have hol1 : pm < w.heap.size := block_lt hpm
 clear hp hpm
 replace hS := hS.alloc #[.int .i64 E,.int .i64 F] 23
 obtain ⟨⟨ya,yb,-⟩,⟨yc,yd,-⟩,⟨ye,-⟩,-⟩ := hS.cells
 go_wp2_with fail
 refine (scheck2_ok E F p a b H0 H1 _ (hS.bx ⟨p,#[.int .u64 a,.int .u64 b],24⟩ (by simp))).mono ?_
 rintro e w1 ⟨rfl,hb1⟩
 replace hS := hS.kept hb1
 clear ya yb yc yd ye
 obtain ⟨⟨yf,yg,-⟩,⟨yh,yi,-⟩,⟨yj,-⟩,-⟩ := hS.cells
 go_wp2_with fail
 refine (name_ok md hmd _ ((unhide HN).kept hS.fr)).mono ?_
 rintro e w2 ⟨⟨st,rfl⟩,hb2⟩
 replace hS := hS.kept hb2
 clear yf yg yh yi yj
 obtain ⟨⟨yk,yl,-⟩,⟨ym,yn,-⟩,⟨yo,-⟩,-⟩ := hS.cells
 have hbx : w.heap.size < w2.heap.size := block_lt (hS.bx ⟨w.heap.size,#[.int .i64 E,.int .i64 F],23⟩ (by simp))
 go_wp2_with fail
 refine (floatsOf2 E F p a b k0 k1 HA HB _ ((unhide HT).kept hS.fr) (hS.bx ⟨p,#[.int .u64 a,.int .u64 b],24⟩ (by simp))).mono ?_
 rintro e w3 ⟨⟨q,t0,y0,t1,y1,rfl,hqw,hq,g0,g1⟩,hb3⟩
 replace hS := hS.kept hb3
 clear yk yl ym yn yo
 obtain ⟨⟨yp,yq,-⟩,⟨yr,ys,-⟩,⟨yt,-⟩,-⟩ := hS.cells
 have G0 : Hid (Flt w3 (q + 1) (.iface t0 y0) k0) := hide g0
 have G1 : Hid (Flt w3 (q + 1) (.iface t1 y1) k1) := hide g1
 clear g0 g1
 replace hS : Fs w w3 [⟨q,#[.iface t0 y0,.iface t1 y1],39⟩,⟨w.heap.size,#[.int .i64 E,.int .i64 F],23⟩,⟨p,#[.int .u64 a,.int .u64 b],24⟩,⟨pm,#[.int .u8 (md : Int)],5⟩] := ⟨fun x hx => by rcases List.mem_cons.1 hx with rfl | hx; exact hq; exact hS.bx x hx,hS.fr⟩
 clear hq yp yq yr ys yt
 obtain ⟨⟨yu,yv,-⟩,⟨yw,yx,-⟩,⟨yy,yz,-⟩,⟨y2,-⟩,-⟩ := hS.cells
 go_wp2_with fail
 refine (unhide HNN _ _ _ _ _ (hS.bx ⟨q,#[.iface t0 y0,.iface t1 y1],39⟩ (by simp)) (unhide G0) (unhide G1)).mono ?_
 rintro e w4 ⟨rfl,hb4⟩
 replace hS := hS.kept hb4
 clear yu yv yw yx yy yz y2
 obtain ⟨⟨y3,y4,-⟩,⟨y5,y6,-⟩,⟨y7,y8,-⟩,⟨y9,-⟩,-⟩ := hS.cells
 replace G0 := hide ((unhide G0).kept hb4)
 replace G1 := hide ((unhide G1).kept hb4)
 have hltw4_0 : q < w4.heap.size := hS.lt 0 rfl
 have hltw4_1 : w.heap.size < w4.heap.size := hS.lt 1 rfl
 have hltw4_2 : p < w4.heap.size := hS.lt 2 rfl
 have hltw4_3 : pm < w4.heap.size := hS.lt 3 rfl
 obtain ⟨WV,hWV⟩ : ∃ WV,w4.alloc (.cells #[.int .u8 (fl : Int)] 85) = WV := ⟨_,rfl⟩
 replace hS := hS.alloc #[.int .u8 (fl : Int)] 85
 rw [hWV] at hS
 replace G0 := hide (hWV ▸ (unhide G0).alloc (.cells #[.int .u8 (fl : Int)] 85))
 replace G1 := hide (hWV ▸ (unhide G1).alloc (.cells #[.int .u8 (fl : Int)] 85))
 clear y3 y4 y5 y6 y7 y8 y9
 obtain ⟨⟨yba,-⟩,⟨ybb,ybc,-⟩,⟨ybd,ybe,-⟩,⟨ybf,ybg,-⟩,⟨ybh,-⟩,-⟩ := hS.cells
 obtain ⟨WS,hWS⟩ : ∃ z9,WV.setCell ⟨q,0,none⟩ (.iface 85 (.agg #[.int .u8 (fl : Int)])) = z9 := ⟨_,rfl⟩
 have fzWS := hS.frozen (b := q) (cs := #[.iface t0 y0,.iface t1 y1]) (t := 39) (by simp) 0
 go_wp2_with fail
 replace hS := hS.put (b := q) (cs := #[.iface t0 y0,.iface t1 y1]) (t := 39) (by simp) (by omega) 0 (.iface 85 (.agg #[.int .u8 (fl : Int)])) [⟨w4.heap.size,#[.int .u8 (fl : Int)],85⟩,⟨q,#[.iface 85 (.agg #[.int .u8 (fl : Int)]),.iface t1 y1],39⟩,⟨w.heap.size,#[.int .i64 E,.int .i64 F],23⟩,⟨p,#[.int .u64 a,.int .u64 b],24⟩,⟨pm,#[.int .u8 (md : Int)],5⟩] (by simp <;> omega)
 rw [hWS] at hS
 replace G1 := hide (hWS ▸ (unhide G1).set (p := ⟨q,0,none⟩) (Nat.lt_succ_self q) (.iface 85 (.agg #[.int .u8 (fl : Int)])))
 clear G0 fzWS yba ybb ybc ybd ybe ybf ybg ybh
 obtain ⟨⟨ybi,-⟩,⟨ybj,ybk,-⟩,⟨ybl,ybm,-⟩,⟨ybn,ybo,-⟩,⟨ybp,-⟩,-⟩ := hS.cells
 have hS3s : w.heap.size ≤ WS.heap.size := hS.size
 have hs9 : ∀ x9 : Nat × (Pk → World → Prop),x9 ∈ ([(12,fun _ W => Flt W (q + 1) (.iface t1 y1) k1)] : List (Nat × (Pk → World → Prop))) → ∀ q9 : Pk,St 0 (x9.2 q9) := by
  intro x hx q
  simp only [List.mem_cons,List.not_mem_nil,or_false] at hx
  rcases hx with rfl
  ·exact st_flt7 _ _ _
 have h09 : ∀ x9 : Nat × (Pk → World → Prop),x9 ∈ ([(12,fun _ W => Flt W (q + 1) (.iface t1 y1) k1)] : List (Nat × (Pk → World → Prop))) → 12 ≤ x9.1 → x9.2 ⟨none,0,0⟩ WS := by
  intro x hx hn9
  simp only [List.mem_cons,List.not_mem_nil,or_false] at hx
  rcases hx with rfl
  ·exact unhide G1
 refine wp_region_any (by kernel_rfl) ?_
 refine wpAny_pick (fun p9 => [some (44,.func (Fn.func fd) #[] #[.pointer (some ⟨pm,0,none⟩)]),some (45,.slice (some ⟨q,0,none⟩) 2 2),some (46,.iface t y),some (47,.agg #[.int .i64 E,.int .i64 F]),some (48,.int .u8 (md : Int)),some (49,.tuple #[.int .u64 bb,.int .u8 gg,.int .i64 0]),some (50,.int .u64 bb),some (51,.int .u8 gg),some (52,.int .i64 0),some (8,.int .u64 bb),some (9,.int .u8 gg),some (10,.int .i64 0)])
  (fun p9 l9 W9 => Pm w 0 [(12,fun _ W => Flt W (q + 1) (.iface t1 y1) k1)] p9 l9 W9 [⟨w4.heap.size,#[.int .u8 (fl : Int)],85⟩,⟨q,#[.iface 85 (.agg #[.int .u8 (fl : Int)]),.iface t1 y1],39⟩,⟨w.heap.size,#[.int .i64 E,.int .i64 F],23⟩,⟨p,#[.int .u64 a,.int .u64 b],24⟩,⟨pm,#[.int .u8 (md : Int)],5⟩]) _ _ (fun _ => rfl) (by kernel_rfl) (fun _ => rfl) (fun _ => rfl) ?_ ?_ (fun _ => ⟨none,0,0⟩) (Pm.start2 hS _ _ _ (Nat.zero_le _) hs9 h09)
 ·intro p9 l9 t9 W9 i9 hD hi9 hl9 hM
  obtain ⟨o9,ho9,hd9⟩ := (mem_ready.1 hi9).2
  have hin9 : i9 < 12 := by
   by_cases h : i9 < 12
   ·exact h
   ·rw [Array.getElem?_eq_none (by rw [hD.len]; simp; omega)] at hl9; cases hl9
  have hcase : i9 = 0 ∨ i9 = 1 ∨ i9 = 2 ∨ i9 = 3 ∨ i9 = 4 ∨ i9 = 5 ∨ i9 = 6 ∨ i9 = 7 ∨ i9 = 8 ∨ i9 = 9 ∨ i9 = 10 ∨ i9 = 11 := by omega
  clear hin9
  rcases hcase with rfl | rfl | rfl | rfl | rfl | rfl | rfl | rfl | rfl | rfl | rfl | rfl
  ·cases ho9
   have r2 := hD.old 2 _ rfl rfl
   refine wpOp_step rfl fun K hK => ?_
   go_simp
   exact hK _ _ ⟨p9,fun _ _ => by first | exact rfl | trivial,rfl,(hM.val rfl)⟩
  ·cases ho9
   have r14 := hD.old 14 _ rfl rfl
   refine wpOp_step rfl fun K hK => ?_
   go_simp
   exact hK _ _ ⟨p9,fun _ _ => by first | exact rfl | trivial,rfl,(hM.val rfl)⟩
  ·cases ho9
   have r44 := hD.od hd9 0 44 _ rfl (by simp)
   have r45 := hD.od hd9 1 45 _ rfl (by simp)
   have ga0 := hM.fx _ (List.mem_of_getElem? (i := 0) rfl) (Or.inr (by rw [hD.len]; simp))
   try simp only [] at ga0
   refine wpOp_step rfl fun K hK => ?_
   go_simp
   go_wp2_with fail
   refine (unhide HDo _ _ _ _ _ _ ((unhide HT).kept hM.st.fr) (hM.st.bx ⟨q,#[.iface 85 (.agg #[.int .u8 (fl : Int)]),.iface t1 y1],39⟩ (by simp)) (hM.st.bx ⟨pm,#[.int .u8 (md : Int)],5⟩ (by simp)) rfl ga0).mono ?_
   rintro en w9 ⟨rfl,hb9⟩
   exact hK _ _ ⟨p9,fun _ _ => by first | exact rfl | trivial,rfl,((hM.kept hs9 hb9).val rfl)⟩
  ·cases ho9
   have r4 := hD.old 4 _ rfl rfl
   have hM0 := hM.st
   have Q_ := hM0.cellAt (b := w.heap.size) (cs := #[.int .i64 E,.int .i64 F]) (t := 23) (by simp)
   have c9_0 := Q_ 0 _ rfl
   have c9_1 := Q_ 1 _ rfl
   clear Q_
   clear hM0
   refine wpOp_step rfl fun K hK => ?_
   go_simp
   exact hK _ _ ⟨p9,fun _ _ => by first | exact rfl | trivial,rfl,(hM.val rfl)⟩
  ·cases ho9
   have r1 := hD.old 1 _ rfl rfl
   refine wpOp_step rfl fun K hK => ?_
   go_simp
   exact hK _ _ ⟨p9,fun _ _ => by first | exact rfl | trivial,rfl,(hM.val rfl)⟩
  ·cases ho9
   have r46 := hD.od hd9 2 46 _ rfl (by simp)
   have r47 := hD.od hd9 3 47 _ rfl (by simp)
   have r48 := hD.od hd9 4 48 _ rfl (by simp)
   have ga0 := hM.fx _ (List.mem_of_getElem? (i := 0) rfl) (Or.inr (by rw [hD.len]; simp))
   try simp only [] at ga0
   refine wpOp_step rfl fun K hK => ?_
   go_simp
   go_wp2_with fail
   refine (unhide HRd _).mono ?_
   rintro en w9 ⟨rfl,hb9⟩
   exact hK _ _ ⟨p9,fun _ _ => by first | exact rfl | trivial,rfl,((hM.kept hs9 hb9).val rfl)⟩
  ·cases ho9
   have r49 := hD.od hd9 5 49 _ rfl (by simp)
   refine wpOp_step rfl fun K hK => ?_
   go_simp
   exact hK _ _ ⟨p9,fun _ _ => by first | exact rfl | trivial,rfl,(hM.val rfl)⟩
  ·cases ho9
   have r49 := hD.od hd9 5 49 _ rfl (by simp)
   refine wpOp_step rfl fun K hK => ?_
   go_simp
   exact hK _ _ ⟨p9,fun _ _ => by first | exact rfl | trivial,rfl,(hM.val rfl)⟩
  ·cases ho9
   have r49 := hD.od hd9 5 49 _ rfl (by simp)
   refine wpOp_step rfl fun K hK => ?_
   go_simp
   exact hK _ _ ⟨p9,fun _ _ => by first | exact rfl | trivial,rfl,(hM.val rfl)⟩
  ·cases ho9
   have r50 := hD.od hd9 6 50 _ rfl (by simp)
   refine wpOp_step rfl fun K hK => ?_
   go_simp
   exact hK _ _ ⟨p9,fun _ _ => by first | exact rfl | trivial,rfl,(hM.val rfl)⟩
  ·cases ho9
   have r51 := hD.od hd9 7 51 _ rfl (by simp)
   refine wpOp_step rfl fun K hK => ?_
   go_simp
   exact hK _ _ ⟨p9,fun _ _ => by first | exact rfl | trivial,rfl,(hM.val rfl)⟩
  ·cases ho9
   have r52 := hD.od hd9 8 52 _ rfl (by simp)
   refine wpOp_step rfl fun K hK => ?_
   go_simp
   exact hK _ _ ⟨p9,fun _ _ => by first | exact rfl | trivial,rfl,(hM.val rfl)⟩
 ·intro p9 l9 W9 hn9 hl9 hM
  have kr11_0 := hM.fx _ (List.mem_of_getElem? (i := 0) rfl) (Or.inr (by rw [hn9]; simp))
  try simp only [] at kr11_0
  replace hM := hM.st
  clear hl9 hs9 h09 hn9
  clear hS ybi ybj ybk ybl ybm ybn ybo ybp
  have hS := hM
  clear hM
  simp only [Puts.lay,List.setIfInBounds_toArray,List.set_cons_zero,List.set_cons_succ]
  obtain ⟨⟨ybq,-⟩,⟨ybr,ybs,-⟩,⟨ybt,ybu,-⟩,⟨ybv,ybw,-⟩,⟨ybx,-⟩,-⟩ := hS.cells
  go_wp2
  go_ret3
  exact ⟨rfl,hS.fr⟩
theorem sAdd_is (E F a b : Int) (md : Nat) (x y z : Int) (w : World) (HO : Hid (∀ (W : World) (p pm : Nat),Below w.heap.size w W → W.heap[p]? = some (.cells #[.int .u64 a,.int .u64 b] 24 (0,0)) → W.heap[pm]? = some (.cells #[.int .u8 (md : Int)] 5 (0,0)) → Calls Tryz.prog 22 #[.agg #[.int .i64 E,.int .i64 F],.int .u8 (md : Int),.func (Fn.func 23) #[] #[.pointer (some ⟨pm,0,none⟩)],.slice (some ⟨p,0,none⟩) 2 2] W fun e w' => e = .returned (.tuple #[.int .u64 x,.int .u8 y,.int .i64 z]) ∧ Below W.heap.size W w')) :
  Calls Tryz.prog 8 #[.agg #[.int .i64 E,.int .i64 F],.int .u64 a,.int .u64 b,.int .u8 (md : Int)] w fun e w' => e = .returned (.tuple #[.int .u64 x,.int .u8 y,.int .i64 z]) ∧ Below w.heap.size w w' := by
 go_enter Tryz.func8,Tryz.ntmps8
 go_wp2_with fail
 have hS : Fs w ((w.alloc (.cells #[.int .i64 E,.int .i64 F] 23)).alloc (.cells #[.int .u8 (md : Int)] 5)) [⟨w.heap.size,#[.int .i64 E,.int .i64 F],23⟩,⟨w.heap.size + 1,#[.int .u8 (md : Int)],5⟩] := Fs.two w _ _ _ _
 have hA := hS.alloc #[.int .u64 a,.int .u64 b] 24
 simp only [World.size_alloc] at hA
 refine (unhide HO _ _ _ hA.fr (hA.bx ⟨w.heap.size + 1 + 1,#[.int .u64 a,.int .u64 b],24⟩ (by simp)) (hA.bx ⟨w.heap.size + 1,#[.int .u8 (md : Int)],5⟩ (by simp))).mono ?_
 rintro e w1 ⟨rfl,hb1⟩
 replace hS := hA.kept hb1
 go_wp2
 go_ret3
 exact ⟨rfl,hS.fr⟩
theorem sSub_err (E F a b : Int) (md : Nat) (c : Int) (hc : (c == (0 : Int)) = false) (HN : Tel 29 #[.agg #[.int .i64 E,.int .i64 F],.int .u64 b] (.tuple #[.int .u64 0,.int .i64 c])) (w : World)  :
  Calls Tryz.prog 10 #[.agg #[.int .i64 E,.int .i64 F],.int .u64 a,.int .u64 b,.int .u8 (md : Int)] w fun e w' => e = .returned (.tuple #[.int .u64 0,.int .u8 0,.int .i64 c]) ∧ Below w.heap.size w w' := by
 go_enter Tryz.func10,Tryz.ntmps10
 go_wp2_with fail
 refine (HN _).mono ?_
 rintro e w1 ⟨rfl,hb1⟩
 have hS := (Fs.one w _ _).kept hb1
 obtain ⟨⟨ya,yb,-⟩,-⟩ := hS.cells
 go_wp2
 go_ret3
 exact ⟨rfl,hS.fr⟩
theorem sSub_ok (E F a b b' : Int) (md : Nat) (x y z : Int) (HN : Tel 29 #[.agg #[.int .i64 E,.int .i64 F],.int .u64 b] (.tuple #[.int .u64 b',.int .i64 0])) (w : World) (hT : Tb w) (hN : Nb w) (HA : Hid (∀ W : World,Tb W → Nb W → Calls Tryz.prog 8 #[.agg #[.int .i64 E,.int .i64 F],.int .u64 a,.int .u64 b',.int .u8 (md : Int)] W fun e w' => e = .returned (.tuple #[.int .u64 x,.int .u8 y,.int .i64 z]) ∧ Below W.heap.size W w')) :
  Calls Tryz.prog 10 #[.agg #[.int .i64 E,.int .i64 F],.int .u64 a,.int .u64 b,.int .u8 (md : Int)] w fun e w' => e = .returned (.tuple #[.int .u64 x,.int .u8 y,.int .i64 z]) ∧ Below w.heap.size w w' := by
 have HT := hide hT
 have HNb := hide hN
 clear hT hN
 go_enter Tryz.func10,Tryz.ntmps10
 go_wp2_with fail
 refine (HN _).mono ?_
 rintro e w1 ⟨rfl,hb1⟩
 have hS := (Fs.one w _ _).kept hb1
 obtain ⟨⟨ya,yb,-⟩,-⟩ := hS.cells
 go_wp2_with fail
 refine (unhide HA _ ((unhide HT).kept hS.fr) ((unhide HNb).kept hS.fr)).mono ?_
 rintro e w2 ⟨rfl,hb2⟩
 replace hS := hS.kept hb2
 clear ya yb
 obtain ⟨⟨yc,yd,-⟩,-⟩ := hS.cells
 go_wp2
 go_ret3
 exact ⟨rfl,hS.fr⟩
end Go.Proofs.YtfnhimofpelmdaaGreatDoor
