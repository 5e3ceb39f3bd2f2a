/- Of what RoundSidesRow stands on: RdLeaf NrName RdRound TnRun0 RzW RzSpl RzTog RzApa RzSum RzSub RzAny RzRat. -/
import Derived.Test.YtfjegmlpkiaifaaGreatDoorPav
import Derived.Test.YtfjegmlpkiaifaaGreatDoorPab
import Derived.Test.YtfjegmlpkiaifaaGreatDoorPaw
import Derived.Test.YtfjegmlpkiaifaaGreatDoorPau
import Derived.Test.YtfjegmlpkiaifaaGreatDoorPaf
import Derived.Test.YtfjegmlpkiaifaaGreatDoorPar
import Derived.Test.YtfjegmlpkiaifaaGreatDoorPap
import Derived.Test.YtfjegmlpkiaifaaGreatDoorPas
import Derived.Test.YtfjegmlpkiaifaaGreatDoorPag
import Derived.Test.YtfjegmlpkiaifaaGreatDoorPat
namespace Go.Proofs.YtfjegmlpkiaifaaGreatDoor
open Go.RowKit
set_option maxHeartbeats 4000000
set_option maxRecDepth 20000
theorem and_one (q:Nat) (hq:q < 18446744073709551616):bits BinOp.and .u64 (q:Int) 1 = ((q % 2:Nat):Int):=by
 show IntKind.u64.wrap ((BitVec.ofInt 64 (q:Int) &&& BitVec.ofInt 64 1).toNat:Int) = _
 have e1:BitVec.ofInt 64 (q:Int) = BitVec.ofNat 64 q:=by simp
 have e2:(BitVec.ofNat 64 q &&& BitVec.ofInt 64 1).toNat = q % 2:=by
  rw [BitVec.toNat_and,BitVec.toNat_ofNat,Nat.mod_eq_of_lt (by omega)]
  show q &&& 1 = q % 2
  exact Nat.and_one_is_mod q
 rw [e1,e2,IntKind.wrap_u64]
 omega
theorem cut_drop (s:Bool) (a:Option Addr) (n cap m dr mode:Nat) (z:Int) (w:World) (h:Num w a n m) (hcap:n≤cap) (hcap2:cap≤9223372036854775807) (hm:mode≤4) (hdr:0 < dr) (hdr2:dr < 4611686018427387904) (hq:m / 2 ^ dr < 9223372036854775808) :
  Calls Tryz.prog 87 #[.agg #[.bool s,.slice a n cap,.int .i64 z],.int .i64 (z+(dr:Int)),.int .u8 (mode:Int)] w fun en w'=>en = .returned (.tuple #[.int .u64 (cutN mode s m dr:Int),.bool false])∧Below w.heap.size w w':=by
 have ho:((((m / 2 ^ dr) % 2:Nat):Int) == 1) = decide (m / 2 ^ dr % 2 = 1):=by
  by_cases h1:m / 2 ^ dr % 2 = 1
  ·rw [h1]; rfl
  ·have:m / 2 ^ dr % 2 = 0:=by omega
   rw [this]; rfl
 have HD:=hide fun (W:World) (g:Num W a n m)=>down_any a n cap m dr W g hcap hcap2 (by omega)
 have HH:=hide fun (W:World) (A:Option Addr) (N C:Nat) (g:Num W A N m)=>ahalf_any A N C m dr W g (by omega) hdr2
 have hF:=fun (W:World)=>farther_any mode s (decide (m / 2 ^ dr % 2 = 1)) (ahf m dr) hm (ahf_three m dr) W
 unfold cutN
 by_cases hf:fth mode s (decide (m / 2 ^ dr % 2 = 1)) (ahf m dr) = true
 ·rw [hf] at hF
  rw [if_pos hf]
  exact cut_up w s a n cap m z dr _ mode _ _ h hdr hdr2 hq (and_one _ (by omega)) ho HD HH (hide hF)
 ·rw [Bool.not_eq_true] at hf
  rw [hf] at hF
  rw [hf,if_neg (by simp)]
  exact cut_down w s a n cap m z dr _ mode _ _ h hdr hdr2 hq (and_one _ (by omega)) ho HD HH (hide hF)
theorem len64_k (N k:Nat) (w:World) (hN:N < 18446744073709551616) (hk:Bl N k):Calls Tryz.prog 125 #[.int .u64 (N:Int)] w fun e w'=>e = .returned (.int .i64 (k:Int))∧Below w.heap.size w w':=by
 refine (len64_int (N:Int) w (by omega) (by omega)).mono ?_
 rintro e w' ⟨rfl,rfl⟩
 have h1:Bl N (Lib.bitLen N):=bl_bitLen 64 N (by simpa using hN) (by simpa using hN)
 have h2:=h1.uniq hk
 exact ⟨by rw [Int.toNat_natCast,h2],Below.refl _ _⟩
theorem rnought_yes (a:Option Addr) (cap:Nat) (w:World)  :
  Calls Tryz.prog 32 #[.agg #[.slice a 0 cap]] w fun e w'=>e = .returned (.bool true)∧Below w.heap.size w w':=by
 go_enter Tryz.func32,Tryz.ntmps32
 go_wp2
 go_ret
 exact ⟨rfl,(Fs.one w _ _).fr⟩
theorem rnought_no (a:Option Addr) (n cap:Nat) (hn:0 < n) (w:World)  :
  Calls Tryz.prog 32 #[.agg #[.slice a n cap]] w fun e w'=>e = .returned (.bool false)∧Below w.heap.size w w':=by
 go_enter Tryz.func32,Tryz.ntmps32
 go_wp2
 go_ret
 exact ⟨ret_bool (by simp <;> omega),(Fs.one w _ _).fr⟩
theorem firstBit_k (N k:Nat) (t:Int) (w:World) (hN:N < 18446744073709551616) (hk:Bl N k) (hk2:k≤64) (ht:-2147483648≤t∧t≤2147483648) :
  Calls Tryz.prog 88 #[.int .u64 N,.int .i64 t] w fun e w'=>e = .returned (.int .i64 ((k:Int) - 1+t))∧Below w.heap.size w w':=by
 have HK:=hide hk
 clear hk
 go_enter Tryz.func88,Tryz.ntmps88
 go_wp2_with fail
 refine (len64_k N k _ hN (unhide HK)).mono ?_
 rintro e w1 ⟨rfl,hb1⟩
 have hS:=(Fs.begin w).kept hb1
 go_wp2
 go_ret
 exact ⟨rfl,hS.fr⟩
theorem mode_ok (mode:Nat) (hm:mode≤4) (w:World)  :
  Calls Tryz.prog 65 #[.int .u8 (mode:Int)] w fun e w'=>e = .returned (.int .i64 0)∧Below w.heap.size w w':=by
 go_enter Tryz.func65,Tryz.ntmps65
 go_wp2
 go_ret
 exact ⟨rfl,(Fs.begin w).fr⟩
theorem rfields_any (s:Bool) (N st F h fr:Nat) (w:World) (hF:F≤52) (hst:st≤4096) (hh:h≤2) (HH:Hid (h = N / 2 ^ F)) (HR:Hid (fr = N - h * 2 ^ F)) (hN:N < 9223372036854775808) :
  Calls Tryz.prog 92 #[.bool s,.int .u64 N,.int .i64 st,.int .i64 F] w fun e w'=>e = .returned (.agg #[.bool s,.int .i64 ((st:Int)+(h:Int)),.int .u64 fr])∧Below w.heap.size w w':=by
 have hpF:=pow_bound (show F≤52 from hF)
 have hp0:=pow_pos2 F
 have hle:h * 2 ^ F≤N:=by rw [unhide HH]; exact Nat.div_mul_le_self _ _
 have e1:((N:Int) / 2 ^ F) = (h:Int):=by rw [unhide HH]; simp
 have e4:IntKind.u64.wrap ((h:Int) * 2 ^ F) = (h:Int) * 2 ^ F:=by
  rw [show ((h:Int) * 2 ^ F) = ((h * 2 ^ F:Nat):Int) from by simp,IntKind.wrap_u64]; omega
 have e5:IntKind.u64.wrap ((N:Int) - (h:Int) * 2 ^ F) = (fr:Int):=by
  rw [show ((h:Int) * 2 ^ F) = ((h * 2 ^ F:Nat):Int) from by simp,unhide HR,IntKind.wrap_u64]; omega
 go_enter Tryz.func92,Tryz.ntmps92
 go_wp2
 exact bodyPost_ret (v:=.agg #[.bool s,.int .i64 ((st:Int)+(h:Int)),.int .u64 fr]) (by simp [results,Tryz.results92,go_sem]) rfl ⟨rfl,(Fs.one w _ _).fr⟩
theorem over_inf (E F b m1 mode:Nat) (s:Bool) (h0:Fo E F) (w:World) (hB:Bt E F b s m1 0) (HM:Hid (m1 = 2 ^ E - 1)) (HF:Hid (∀ W:World,Calls Tryz.prog 39 #[.agg #[.bool s,.bool false,.int .i64 1],.int .u8 (mode:Int)] W fun e w'=>e = .returned (.bool true)∧Below W.heap.size W w')) :
  Calls Tryz.prog 89 #[.agg #[.int .i64 E,.int .i64 F],.bool s,.int .u8 (mode:Int)] w fun e w'=>e = .returned (.tuple #[.int .u64 b,.int .i64 0])∧Below w.heap.size w w':=by
 have H0:=hide h0
 have HB:=hide hB
 clear h0 hB
 go_enter Tryz.func89,Tryz.ntmps89
 go_wp2_with fail
 have hS:Fs w (w.alloc (.cells #[.int .i64 E,.int .i64 F] 23)) [⟨w.heap.size,#[.int .i64 E,.int .i64 F],23⟩]:=Fs.one w _ _
 replace hS:=hS.alloc #[.bool s,.bool false,.int .i64 1] 87
 try simp only [World.size_alloc] at hS
 go_wp2_with fail
 refine (unhide HF _).mono ?_
 rintro e w1 ⟨rfl,hb1⟩
 replace hS:=hS.kept hb1
 obtain ⟨⟨ya,yb,yc,-⟩,⟨yd,ye,-⟩,-⟩:=hS.cells
 go_wp2_with fail
 refine (Inf_ok E F b m1 s (unhide H0) (unhide HB) HM _).mono ?_
 rintro e w2 ⟨rfl,hb2⟩
 replace hS:=hS.kept hb2
 clear ya yb yc yd ye
 obtain ⟨⟨yf,yg,yh,-⟩,⟨yi,yj,-⟩,-⟩:=hS.cells
 go_wp2
 exact bodyPost_ret (v:=.tuple #[.int .u64 b,.int .i64 0]) (by simp [results,Tryz.results89,go_sem]) rfl ⟨rfl,hS.fr⟩
theorem over_top (E F b m1 m0 mode:Nat) (s:Bool) (h0:Fo E F) (w:World) (hB:Bt E F b s m1 m0) (HM:Hid (m1+1 = 2 ^ E - 1)) (HM0:Hid (m0 = 2 ^ F - 1)) (HF:Hid (∀ W:World,Calls Tryz.prog 39 #[.agg #[.bool s,.bool false,.int .i64 1],.int .u8 (mode:Int)] W fun e w'=>e = .returned (.bool false)∧Below W.heap.size W w')) :
  Calls Tryz.prog 89 #[.agg #[.int .i64 E,.int .i64 F],.bool s,.int .u8 (mode:Int)] w fun e w'=>e = .returned (.tuple #[.int .u64 b,.int .i64 0])∧Below w.heap.size w w':=by
 have H0:=hide h0
 have HB:=hide hB
 clear h0 hB
 go_enter Tryz.func89,Tryz.ntmps89
 go_wp2_with fail
 have hS:Fs w (w.alloc (.cells #[.int .i64 E,.int .i64 F] 23)) [⟨w.heap.size,#[.int .i64 E,.int .i64 F],23⟩]:=Fs.one w _ _
 replace hS:=hS.alloc #[.bool s,.bool false,.int .i64 1] 87
 try simp only [World.size_alloc] at hS
 go_wp2_with fail
 refine (unhide HF _).mono ?_
 rintro e w1 ⟨rfl,hb1⟩
 replace hS:=hS.kept hb1
 obtain ⟨⟨ya,yb,yc,-⟩,⟨yd,ye,-⟩,-⟩:=hS.cells
 go_wp2_with fail
 refine (Greatest_ok E F b m1 m0 s (unhide H0) (unhide HB) HM HM0 _).mono ?_
 rintro e w2 ⟨rfl,hb2⟩
 replace hS:=hS.kept hb2
 clear ya yb yc yd ye
 obtain ⟨⟨yf,yg,yh,-⟩,⟨yi,yj,-⟩,-⟩:=hS.cells
 go_wp2
 exact bodyPost_ret (v:=.tuple #[.int .u64 b,.int .i64 0]) (by simp [results,Tryz.results89,go_sem]) rfl ⟨rfl,hS.fr⟩
theorem small_is (s:Bool) (a:Option Addr) (n cap:Nat) (x free nm:Int) (mode N k:Nat) (wh:Bool) (w:World) (HC:Hid (∀ W:World,Below w.heap.size w W→Calls Tryz.prog 87 #[.agg #[.bool s,.slice a n cap,.int .i64 x],.int .i64 free,.int .u8 (mode:Int)] W fun e w'=>e = .returned (.tuple #[.int .u64 N,.bool wh])∧Below W.heap.size W w')) (hN:N < 18446744073709551616) (hk:Bl N k) (hk2:k≤64) (ht:-2147483648≤free∧free≤2147483648) :
  Calls Tryz.prog 90 #[.agg #[.bool s,.slice a n cap,.int .i64 x],.int .i64 free,.int .i64 nm,.int .u8 (mode:Int)] w fun e w'=>e = .returned (.bool (decide ((k:Int) - 1+free < nm)))∧Below w.heap.size w w':=by
 have HK:=hide hk
 clear hk
 go_enter Tryz.func90,Tryz.ntmps90
 go_wp2_with fail
 refine (unhide HC _ (gr_alloc _ _)).mono ?_
 rintro e w1 ⟨rfl,hb1⟩
 have hS:=(Fs.one w _ _).kept hb1
 obtain ⟨⟨ya,yb,yc,-⟩,-⟩:=hS.cells
 go_wp2_with fail
 refine (firstBit_k N k free _ hN (unhide HK) hk2 ht).mono ?_
 rintro e w2 ⟨rfl,hb2⟩
 replace hS:=hS.kept hb2
 clear ya yb yc
 obtain ⟨⟨yd,ye,yf,-⟩,-⟩:=hS.cells
 go_wp2
 go_ret
 exact ⟨rfl,hS.fr⟩
theorem join_is (E F b st hd fr:Nat) (s:Bool) (h:Fo E F) (hB:Bt E F b s (st+hd) fr) (w:World):Calls Tryz.prog 91 #[.agg #[.int .i64 E,.int .i64 F],.agg #[.bool s,.int .i64 ((st:Int)+(hd:Int)),.int .u64 fr]] w fun e w'=>e = .returned (.tuple #[.int .u64 b,.int .i64 0])∧Below w.heap.size w w':=by
 have:=Join_ok E F b (st+hd) fr s h hB w
 rw [show (((st+hd:Nat)):Int) = (st:Int)+(hd:Int) from by omega] at this
 exact this
theorem rounded_nought (E F b mode:Nat) (ng:Bool) (h0:Fo E F) (a:Option Addr) (cap:Nat) (w:World) (hB:Bt E F b ng 0 0) :
  Calls Tryz.prog 53 #[.agg #[.int .i64 E,.int .i64 F],.agg #[.bool false,.slice a 0 cap,.int .i64 0],.bool ng,.int .u8 (mode:Int)] w fun e w'=>e = .returned (.tuple #[.int .u64 b,.int .u8 0,.int .i64 0])∧Below w.heap.size w w':=by
 have H0:=hide h0
 have HB:=hide hB
 clear h0 hB
 go_enter Tryz.func53,Tryz.ntmps53
 go_wp2_with fail
 refine (rnought_yes a cap _).mono ?_
 rintro e w1 ⟨rfl,hb1⟩
 have hS:=(Fs.two w _ _ _ _).kept hb1
 obtain ⟨⟨ya,yb,-⟩,⟨yc,yd,ye,-⟩,-⟩:=hS.cells
 go_wp2_with fail
 refine (Nought_ok E F b ng (unhide H0) (unhide HB) _).mono ?_
 rintro e w2 ⟨rfl,hb2⟩
 replace hS:=hS.kept hb2
 clear ya yb yc yd ye
 obtain ⟨⟨yf,yg,-⟩,⟨yh,yi,yj,-⟩,-⟩:=hS.cells
 go_wp2
 exact bodyPost_ret (v:=.tuple #[.int .u64 b,.int .u8 0,.int .i64 0]) (by simp [results,Tryz.results53,go_sem]) rfl ⟨rfl,hS.fr⟩
theorem rounded_over (E F B mode:Nat) (ng:Bool) (s:Bool) (a:Option Addr) (n cap m k:Nat) (x t:Int) (N kN:Nat) (wh:Bool) (b:Nat) (w:World) (h0:Fo E F) (HB:Hid (B = 2 ^ (E - 1) - 1)) (h:Num w a n m) (hn:0 < n) (hk:Bl m k) (hk2:k≤524288) (hx:-1073741824≤x∧x≤1073741824) (hat:max (1 - (B:Int) - (F:Int)) (x+(k:Int) - 1 - (F:Int)) = t) (HC:Hid (∀ W:World,Num W a n m→Calls Tryz.prog 87 #[.agg #[.bool s,.slice a n cap,.int .i64 x],.int .i64 t,.int .u8 (mode:Int)] W fun e w'=>e = .returned (.tuple #[.int .u64 N,.bool wh])∧Below W.heap.size W w')) (hN:N < 9223372036854775808) (hkN:Bl N kN) (hkN2:kN≤64) (hov:(B:Int) < (kN:Int) - 1+t) (HO:Hid (∀ W:World,Calls Tryz.prog 89 #[.agg #[.int .i64 E,.int .i64 F],.bool s,.int .u8 (mode:Int)] W fun e w'=>e = .returned (.tuple #[.int .u64 b,.int .i64 0])∧Below W.heap.size W w')) :
  Calls Tryz.prog 53 #[.agg #[.int .i64 E,.int .i64 F],.agg #[.bool s,.slice a n cap,.int .i64 x],.bool ng,.int .u8 (mode:Int)] w fun e w'=>e = .returned (.tuple #[.int .u64 b,.int .u8 3,.int .i64 0])∧Below w.heap.size w w':=by
 have H0:=hide h0
 have H:=hide h
 have HK:=hide hk
 have HKN:=hide hkN
 have hBl:B≤1023:=B_le h0 HB
 have hF:=h0.f52
 have hF1:=h0.f1
 clear h0 h hk hkN
 go_enter Tryz.func53,Tryz.ntmps53
 go_wp2_with fail
 refine (rnought_no a n cap hn _).mono ?_
 rintro e w1 ⟨rfl,hb1⟩
 have hS:=(Fs.two w _ _ _ _).kept hb1
 obtain ⟨⟨ya,yb,-⟩,⟨yc,yd,ye,-⟩,-⟩:=hS.cells
 go_wp2_with fail
 refine (Range_ok E F B (unhide H0) HB _).mono ?_
 rintro e w2 ⟨rfl,hb2⟩
 replace hS:=hS.kept hb2
 clear ya yb yc yd ye
 obtain ⟨⟨yf,yg,-⟩,⟨yh,yi,yj,-⟩,-⟩:=hS.cells
 go_wp2_with fail
 refine (bits_k a n cap m k _ ((unhide H).kept hS.fr) (unhide HK)).mono ?_
 rintro e w3 ⟨rfl,hb3⟩
 replace hS:=hS.kept hb3
 clear yf yg yh yi yj
 obtain ⟨⟨yk,yl,-⟩,⟨ym,yn,yo,-⟩,-⟩:=hS.cells
 go_wp2_with fail
 refine (unhide HC _ ((unhide H).kept hS.fr)).mono ?_
 rintro e w4 ⟨rfl,hb4⟩
 replace hS:=hS.kept hb4
 clear yk yl ym yn yo
 obtain ⟨⟨yp,yq,-⟩,⟨yr,ys,yt,-⟩,-⟩:=hS.cells
 go_wp2_with fail
 refine (firstBit_k N kN t _ (by omega) (unhide HKN) hkN2 (by omega)).mono ?_
 rintro e w5 ⟨rfl,hb5⟩
 replace hS:=hS.kept hb5
 clear yp yq yr ys yt
 obtain ⟨⟨yu,yv,-⟩,⟨yw,yx,yy,-⟩,-⟩:=hS.cells
 go_wp2_with fail
 refine (unhide HO _).mono ?_
 rintro e w6 ⟨rfl,hb6⟩
 replace hS:=hS.kept hb6
 clear yu yv yw yx yy
 obtain ⟨⟨yz,y0,-⟩,⟨y1,y2,y3,-⟩,-⟩:=hS.cells
 go_wp2
 exact bodyPost_ret (v:=.tuple #[.int .u64 b,.int .u8 3,.int .i64 0]) (by simp [results,Tryz.results53,go_sem]) rfl ⟨rfl,hS.fr⟩
theorem rounded_whole (E F B mode:Nat) (ng:Bool) (s:Bool) (a:Option Addr) (n cap m k:Nat) (x t:Int) (N kN:Nat) (b st hd fr:Nat) (w:World) (h0:Fo E F) (HB:Hid (B = 2 ^ (E - 1) - 1)) (h:Num w a n m) (hn:0 < n) (hk:Bl m k) (hk2:k≤524288) (hx:-1073741824≤x∧x≤1073741824) (hat:max (1 - (B:Int) - (F:Int)) (x+(k:Int) - 1 - (F:Int)) = t) (HC:Hid (∀ W:World,Num W a n m→Calls Tryz.prog 87 #[.agg #[.bool s,.slice a n cap,.int .i64 x],.int .i64 t,.int .u8 (mode:Int)] W fun e w'=>e = .returned (.tuple #[.int .u64 N,.bool true])∧Below W.heap.size W w')) (hN:N < 9223372036854775808) (hkN:Bl N kN) (hkN2:kN≤64) (hov:(kN:Int) - 1+t≤(B:Int)) (HS9:Hid (t - (1 - (B:Int) - (F:Int)) = (st:Int))) (hst:st≤4096) (hN2:hd = N / 2 ^ F) (hhd:hd≤2) (hfr:fr = N - hd * 2 ^ F) (hB:Bt E F b s (st+hd) fr) :
  Calls Tryz.prog 53 #[.agg #[.int .i64 E,.int .i64 F],.agg #[.bool s,.slice a n cap,.int .i64 x],.bool ng,.int .u8 (mode:Int)] w fun e w'=>e = .returned (.tuple #[.int .u64 b,.int .u8 0,.int .i64 0])∧Below w.heap.size w w':=by
 have H0:=hide h0
 have H:=hide h
 have HK:=hide hk
 have HKN:=hide hkN
 have hBl:B≤1023:=B_le h0 HB
 have hF:=h0.f52
 have hF1:=h0.f1
 clear h0 h hk hkN
 have HBt:=hide hB
 have HN2:=hide hN2
 have HFR:=hide hfr
 clear hB hN2 hfr
 go_enter Tryz.func53,Tryz.ntmps53
 go_wp2_with fail
 refine (rnought_no a n cap hn _).mono ?_
 rintro e w1 ⟨rfl,hb1⟩
 have hS:=(Fs.two w _ _ _ _).kept hb1
 obtain ⟨⟨ya,yb,-⟩,⟨yc,yd,ye,-⟩,-⟩:=hS.cells
 go_wp2_with fail
 refine (Range_ok E F B (unhide H0) HB _).mono ?_
 rintro e w2 ⟨rfl,hb2⟩
 replace hS:=hS.kept hb2
 clear ya yb yc yd ye
 obtain ⟨⟨yf,yg,-⟩,⟨yh,yi,yj,-⟩,-⟩:=hS.cells
 go_wp2_with fail
 refine (bits_k a n cap m k _ ((unhide H).kept hS.fr) (unhide HK)).mono ?_
 rintro e w3 ⟨rfl,hb3⟩
 replace hS:=hS.kept hb3
 clear yf yg yh yi yj
 obtain ⟨⟨yk,yl,-⟩,⟨ym,yn,yo,-⟩,-⟩:=hS.cells
 go_wp2_with fail
 refine (unhide HC _ ((unhide H).kept hS.fr)).mono ?_
 rintro e w4 ⟨rfl,hb4⟩
 replace hS:=hS.kept hb4
 clear yk yl ym yn yo
 obtain ⟨⟨yp,yq,-⟩,⟨yr,ys,yt,-⟩,-⟩:=hS.cells
 go_wp2_with fail
 refine (firstBit_k N kN t _ (by omega) (unhide HKN) hkN2 (by omega)).mono ?_
 rintro e w5 ⟨rfl,hb5⟩
 replace hS:=hS.kept hb5
 clear yp yq yr ys yt
 obtain ⟨⟨yu,yv,-⟩,⟨yw,yx,yy,-⟩,-⟩:=hS.cells
 have e9:t - (1 - (B:Int) - (F:Int)) = (st:Int):=unhide HS9
 go_wp2_with fail
 refine wp_region_any (by kernel_rfl) ?_
 refine wpAny_det [some (102,.agg #[.int .i64 E,.int .i64 F]),some (103,.pointer (some ⟨w.heap.size+1,0,none⟩)),some (104,.bool s),some (105,.int .u64 N),some (106,.int .i64 t),some (107,.int .i64 (1 - (B:Int) - (F:Int))),some (108,.int .i64 st),some (109,.pointer (some ⟨w.heap.size,1,none⟩)),some (110,.int .i64 F),some (111,.agg #[.bool s,.int .i64 ((st:Int)+(hd:Int)),.int .u64 fr]),some (112,.tuple #[.int .u64 b,.int .i64 0]),some (101,.tuple #[.int .u64 b,.int .i64 0]),some (113,.int .u64 b),some (114,.int .i64 0),some (24,.int .u64 b),some (15,.int .i64 0)]
  (fun _ W9=>Fs w W9 [⟨w.heap.size,#[.int .i64 E,.int .i64 F],23⟩,⟨w.heap.size+1,#[.bool s,.slice a n cap,.int .i64 x],61⟩]) _ _ rfl (by kernel_rfl) rfl rfl ?_ ?_ (hS).drew
 ·intro l9 t9 W9 i9 hD hi9 hl9 hM
  obtain ⟨o9,ho9,hd9⟩:=(mem_ready.1 hi9).2
  have hin9:i9 < 16:=by
   by_cases h:i9 < 16
   ·exact h
   ·rw [Array.getElem?_eq_none (by rw [hD.len]; simp; omega)] at hl9; cases hl9
  have hcase:i9 = 0∨i9 = 1∨i9 = 2∨i9 = 3∨i9 = 4∨i9 = 5∨i9 = 6∨i9 = 7∨i9 = 8∨i9 = 9∨i9 = 10∨i9 = 11∨i9 = 12∨i9 = 13∨i9 = 14∨i9 = 15:=by omega
  clear hin9
  rcases hcase with rfl|rfl|rfl|rfl|rfl|rfl|rfl|rfl|rfl|rfl|rfl|rfl|rfl|rfl|rfl|rfl
  ·cases ho9
   have r4:=hD.old 4 _ rfl rfl
   have hM0:=hM
   have Q_:=hM0.cellAt (b:=w.heap.size) (cs:=#[.int .i64 E,.int .i64 F]) (t:=23) (by simp)
   have c9_0:=Q_ 0 _ rfl
   have c9_1:=Q_ 1 _ rfl
   clear Q_
   clear hM0
   refine wpOp_step rfl fun K hK=>?_
   go_simp
   exact hK _ _ ⟨rfl,hM⟩
  ·cases ho9
   have r5:=hD.old 5 _ rfl rfl
   refine wpOp_step rfl fun K hK=>?_
   go_simp
   exact hK _ _ ⟨rfl,hM⟩
  ·cases ho9
   have r103:=hD.od hd9 1 103 _ rfl (by simp)
   have hM0:=hM
   have c9_0:=hM0.cellAt (b:=w.heap.size+1) (cs:=#[.bool s,.slice a n cap,.int .i64 x]) (t:=61) (by simp) 0 _ rfl
   clear hM0
   refine wpOp_step rfl fun K hK=>?_
   go_simp
   exact hK _ _ ⟨rfl,hM⟩
  ·cases ho9
   have r19:=hD.old 19 _ rfl rfl
   refine wpOp_step rfl fun K hK=>?_
   go_simp
   exact hK _ _ ⟨rfl,hM⟩
  ·cases ho9
   have r18:=hD.old 18 _ rfl rfl
   refine wpOp_step rfl fun K hK=>?_
   go_simp
   exact hK _ _ ⟨rfl,hM⟩
  ·cases ho9
   have r13:=hD.old 13 _ rfl rfl
   refine wpOp_step rfl fun K hK=>?_
   go_simp
   exact hK _ _ ⟨rfl,hM⟩
  ·cases ho9
   have r106:=hD.od hd9 4 106 _ rfl (by simp)
   have r107:=hD.od hd9 5 107 _ rfl (by simp)
   refine wpOp_step rfl fun K hK=>?_
   go_simp
   exact hK _ _ ⟨act_eq (by (show Value.int _ _ = Value.int _ _; first|exact congrArg (Value.int .i64) e9|(congr 1; first|exact e9|(rw [IntKind.wrap_i64]; omega)))),hM⟩
  ·cases ho9
   have r4:=hD.old 4 _ rfl rfl
   refine wpOp_step rfl fun K hK=>?_
   go_simp
   exact hK _ _ ⟨rfl,hM⟩
  ·cases ho9
   have r109:=hD.od hd9 7 109 _ rfl (by simp)
   have hM0:=hM
   have c9_0:=hM0.cellAt (b:=w.heap.size) (cs:=#[.int .i64 E,.int .i64 F]) (t:=23) (by simp) 1 _ rfl
   clear hM0
   refine wpOp_step rfl fun K hK=>?_
   go_simp
   exact hK _ _ ⟨rfl,hM⟩
  ·cases ho9
   have r104:=hD.od hd9 2 104 _ rfl (by simp)
   have r105:=hD.od hd9 3 105 _ rfl (by simp)
   have r108:=hD.od hd9 6 108 _ rfl (by simp)
   have r110:=hD.od hd9 8 110 _ rfl (by simp)
   refine wpOp_step rfl fun K hK=>?_
   go_simp
   go_wp2_with fail
   refine (rfields_any s N st F hd fr _ hF hst hhd HN2 HFR hN).mono ?_
   rintro en w9 ⟨rfl,hb9⟩
   exact hK _ _ ⟨rfl,hM.kept hb9⟩
  ·cases ho9
   have r102:=hD.od hd9 0 102 _ rfl (by simp)
   have r111:=hD.od hd9 9 111 _ rfl (by simp)
   refine wpOp_step rfl fun K hK=>?_
   go_simp
   go_wp2_with fail
   refine (join_is E F b st hd fr s (unhide H0) (unhide HBt) _).mono ?_
   rintro en w9 ⟨rfl,hb9⟩
   exact hK _ _ ⟨rfl,hM.kept hb9⟩
  ·cases ho9
   have r112:=hD.od hd9 10 112 _ rfl (by simp)
   refine wpOp_step rfl fun K hK=>?_
   go_simp
   exact hK _ _ ⟨rfl,hM⟩
  ·cases ho9
   have r101:=hD.od hd9 11 101 _ rfl (by simp)
   refine wpOp_step rfl fun K hK=>?_
   go_simp
   exact hK _ _ ⟨rfl,hM⟩
  ·cases ho9
   have r101:=hD.od hd9 11 101 _ rfl (by simp)
   refine wpOp_step rfl fun K hK=>?_
   go_simp
   exact hK _ _ ⟨rfl,hM⟩
  ·cases ho9
   have r113:=hD.od hd9 12 113 _ rfl (by simp)
   refine wpOp_step rfl fun K hK=>?_
   go_simp
   exact hK _ _ ⟨rfl,hM⟩
  ·cases ho9
   have r114:=hD.od hd9 13 114 _ rfl (by simp)
   refine wpOp_step rfl fun K hK=>?_
   go_simp
   exact hK _ _ ⟨rfl,hM⟩
 ·intro l9 W9 hl9 hM
  clear hS yu yv yw yx yy
  have hS:=hM
  clear hM
  simp only [Puts.lay,List.setIfInBounds_toArray,List.set_cons_zero,List.set_cons_succ]
  obtain ⟨⟨yz,y0,-⟩,⟨y1,y2,y3,-⟩,-⟩:=hS.cells
  go_wp2
  exact bodyPost_ret (v:=.tuple #[.int .u64 b,.int .u8 0,.int .i64 0]) (by simp [results,Tryz.results53,go_sem]) rfl ⟨rfl,hS.fr⟩
theorem rounded_small (E F B mode:Nat) (ng:Bool) (s:Bool) (a:Option Addr) (n cap m k:Nat) (x t:Int) (N kN:Nat) (b st hd fr:Nat) (w:World) (h0:Fo E F) (HB:Hid (B = 2 ^ (E - 1) - 1)) (h:Num w a n m) (hn:0 < n) (hk:Bl m k) (hk2:k≤524288) (hx:-1073741824≤x∧x≤1073741824) (hat:max (1 - (B:Int) - (F:Int)) (x+(k:Int) - 1 - (F:Int)) = t) (HC:Hid (∀ W:World,Num W a n m→Calls Tryz.prog 87 #[.agg #[.bool s,.slice a n cap,.int .i64 x],.int .i64 t,.int .u8 (mode:Int)] W fun e w'=>e = .returned (.tuple #[.int .u64 N,.bool false])∧Below W.heap.size W w')) (hN:N < 9223372036854775808) (hkN:Bl N kN) (hkN2:kN≤64) (hov:(kN:Int) - 1+t≤(B:Int)) (HS9:Hid (t - (1 - (B:Int) - (F:Int)) = (st:Int))) (hst:st≤4096) (hN2:hd = N / 2 ^ F) (hhd:hd≤2) (hfr:fr = N - hd * 2 ^ F) (hB:Bt E F b s (st+hd) fr) (HM:Hid (∀ W:World,Num W a n m→Calls Tryz.prog 90 #[.agg #[.bool s,.slice a n cap,.int .i64 x],.int .i64 (x+(k:Int) - 1 - (F:Int)),.int .i64 (1 - (B:Int)),.int .u8 (mode:Int)] W fun e w'=>e = .returned (.bool true)∧Below W.heap.size W w')) :
  Calls Tryz.prog 53 #[.agg #[.int .i64 E,.int .i64 F],.agg #[.bool s,.slice a n cap,.int .i64 x],.bool ng,.int .u8 (mode:Int)] w fun e w'=>e = .returned (.tuple #[.int .u64 b,.int .u8 5,.int .i64 0])∧Below w.heap.size w w':=by
 have H0:=hide h0
 have H:=hide h
 have HK:=hide hk
 have HKN:=hide hkN
 have hBl:B≤1023:=B_le h0 HB
 have hF:=h0.f52
 have hF1:=h0.f1
 clear h0 h hk hkN
 have o1:bits BinOp.or .u8 0 1 = 1:=by decide
 have o2:bits BinOp.or .u8 1 4 = 5:=by decide
 have HBt:=hide hB
 have HN2:=hide hN2
 have HFR:=hide hfr
 clear hB hN2 hfr
 go_enter Tryz.func53,Tryz.ntmps53
 go_wp2_with fail
 refine (rnought_no a n cap hn _).mono ?_
 rintro e w1 ⟨rfl,hb1⟩
 have hS:=(Fs.two w _ _ _ _).kept hb1
 obtain ⟨⟨ya,yb,-⟩,⟨yc,yd,ye,-⟩,-⟩:=hS.cells
 go_wp2_with fail
 refine (Range_ok E F B (unhide H0) HB _).mono ?_
 rintro e w2 ⟨rfl,hb2⟩
 replace hS:=hS.kept hb2
 clear ya yb yc yd ye
 obtain ⟨⟨yf,yg,-⟩,⟨yh,yi,yj,-⟩,-⟩:=hS.cells
 go_wp2_with fail
 refine (bits_k a n cap m k _ ((unhide H).kept hS.fr) (unhide HK)).mono ?_
 rintro e w3 ⟨rfl,hb3⟩
 replace hS:=hS.kept hb3
 clear yf yg yh yi yj
 obtain ⟨⟨yk,yl,-⟩,⟨ym,yn,yo,-⟩,-⟩:=hS.cells
 go_wp2_with fail
 refine (unhide HC _ ((unhide H).kept hS.fr)).mono ?_
 rintro e w4 ⟨rfl,hb4⟩
 replace hS:=hS.kept hb4
 clear yk yl ym yn yo
 obtain ⟨⟨yp,yq,-⟩,⟨yr,ys,yt,-⟩,-⟩:=hS.cells
 go_wp2_with fail
 refine (firstBit_k N kN t _ (by omega) (unhide HKN) hkN2 (by omega)).mono ?_
 rintro e w5 ⟨rfl,hb5⟩
 replace hS:=hS.kept hb5
 clear yp yq yr ys yt
 obtain ⟨⟨yu,yv,-⟩,⟨yw,yx,yy,-⟩,-⟩:=hS.cells
 go_wp2_with fail
 refine (unhide HM _ ((unhide H).kept hS.fr)).mono ?_
 rintro e w6 ⟨rfl,hb6⟩
 replace hS:=hS.kept hb6
 clear yu yv yw yx yy
 obtain ⟨⟨yz,y0,-⟩,⟨y1,y2,y3,-⟩,-⟩:=hS.cells
 have e9:t - (1 - (B:Int) - (F:Int)) = (st:Int):=unhide HS9
 go_wp2_with fail
 refine wp_region_any (by kernel_rfl) ?_
 refine wpAny_det [some (102,.agg #[.int .i64 E,.int .i64 F]),some (103,.pointer (some ⟨w.heap.size+1,0,none⟩)),some (104,.bool s),some (105,.int .u64 N),some (106,.int .i64 t),some (107,.int .i64 (1 - (B:Int) - (F:Int))),some (108,.int .i64 st),some (109,.pointer (some ⟨w.heap.size,1,none⟩)),some (110,.int .i64 F),some (111,.agg #[.bool s,.int .i64 ((st:Int)+(hd:Int)),.int .u64 fr]),some (112,.tuple #[.int .u64 b,.int .i64 0]),some (101,.tuple #[.int .u64 b,.int .i64 0]),some (113,.int .u64 b),some (114,.int .i64 0),some (24,.int .u64 b),some (15,.int .i64 0)]
  (fun _ W9=>Fs w W9 [⟨w.heap.size,#[.int .i64 E,.int .i64 F],23⟩,⟨w.heap.size+1,#[.bool s,.slice a n cap,.int .i64 x],61⟩]) _ _ rfl (by kernel_rfl) rfl rfl ?_ ?_ (hS).drew
 ·intro l9 t9 W9 i9 hD hi9 hl9 hM
  obtain ⟨o9,ho9,hd9⟩:=(mem_ready.1 hi9).2
  have hin9:i9 < 16:=by
   by_cases h:i9 < 16
   ·exact h
   ·rw [Array.getElem?_eq_none (by rw [hD.len]; simp; omega)] at hl9; cases hl9
  have hcase:i9 = 0∨i9 = 1∨i9 = 2∨i9 = 3∨i9 = 4∨i9 = 5∨i9 = 6∨i9 = 7∨i9 = 8∨i9 = 9∨i9 = 10∨i9 = 11∨i9 = 12∨i9 = 13∨i9 = 14∨i9 = 15:=by omega
  clear hin9
  rcases hcase with rfl|rfl|rfl|rfl|rfl|rfl|rfl|rfl|rfl|rfl|rfl|rfl|rfl|rfl|rfl|rfl
  ·cases ho9
   have r4:=hD.old 4 _ rfl rfl
   have hM0:=hM
   have Q_:=hM0.cellAt (b:=w.heap.size) (cs:=#[.int .i64 E,.int .i64 F]) (t:=23) (by simp)
   have c9_0:=Q_ 0 _ rfl
   have c9_1:=Q_ 1 _ rfl
   clear Q_
   clear hM0
   refine wpOp_step rfl fun K hK=>?_
   go_simp
   exact hK _ _ ⟨rfl,hM⟩
  ·cases ho9
   have r5:=hD.old 5 _ rfl rfl
   refine wpOp_step rfl fun K hK=>?_
   go_simp
   exact hK _ _ ⟨rfl,hM⟩
  ·cases ho9
   have r103:=hD.od hd9 1 103 _ rfl (by simp)
   have hM0:=hM
   have c9_0:=hM0.cellAt (b:=w.heap.size+1) (cs:=#[.bool s,.slice a n cap,.int .i64 x]) (t:=61) (by simp) 0 _ rfl
   clear hM0
   refine wpOp_step rfl fun K hK=>?_
   go_simp
   exact hK _ _ ⟨rfl,hM⟩
  ·cases ho9
   have r19:=hD.old 19 _ rfl rfl
   refine wpOp_step rfl fun K hK=>?_
   go_simp
   exact hK _ _ ⟨rfl,hM⟩
  ·cases ho9
   have r18:=hD.old 18 _ rfl rfl
   refine wpOp_step rfl fun K hK=>?_
   go_simp
   exact hK _ _ ⟨rfl,hM⟩
  ·cases ho9
   have r13:=hD.old 13 _ rfl rfl
   refine wpOp_step rfl fun K hK=>?_
   go_simp
   exact hK _ _ ⟨rfl,hM⟩
  ·cases ho9
   have r106:=hD.od hd9 4 106 _ rfl (by simp)
   have r107:=hD.od hd9 5 107 _ rfl (by simp)
   refine wpOp_step rfl fun K hK=>?_
   go_simp
   exact hK _ _ ⟨act_eq (by (show Value.int _ _ = Value.int _ _; first|exact congrArg (Value.int .i64) e9|(congr 1; first|exact e9|(rw [IntKind.wrap_i64]; omega)))),hM⟩
  ·cases ho9
   have r4:=hD.old 4 _ rfl rfl
   refine wpOp_step rfl fun K hK=>?_
   go_simp
   exact hK _ _ ⟨rfl,hM⟩
  ·cases ho9
   have r109:=hD.od hd9 7 109 _ rfl (by simp)
   have hM0:=hM
   have c9_0:=hM0.cellAt (b:=w.heap.size) (cs:=#[.int .i64 E,.int .i64 F]) (t:=23) (by simp) 1 _ rfl
   clear hM0
   refine wpOp_step rfl fun K hK=>?_
   go_simp
   exact hK _ _ ⟨rfl,hM⟩
  ·cases ho9
   have r104:=hD.od hd9 2 104 _ rfl (by simp)
   have r105:=hD.od hd9 3 105 _ rfl (by simp)
   have r108:=hD.od hd9 6 108 _ rfl (by simp)
   have r110:=hD.od hd9 8 110 _ rfl (by simp)
   refine wpOp_step rfl fun K hK=>?_
   go_simp
   go_wp2_with fail
   refine (rfields_any s N st F hd fr _ hF hst hhd HN2 HFR hN).mono ?_
   rintro en w9 ⟨rfl,hb9⟩
   exact hK _ _ ⟨rfl,hM.kept hb9⟩
  ·cases ho9
   have r102:=hD.od hd9 0 102 _ rfl (by simp)
   have r111:=hD.od hd9 9 111 _ rfl (by simp)
   refine wpOp_step rfl fun K hK=>?_
   go_simp
   go_wp2_with fail
   refine (join_is E F b st hd fr s (unhide H0) (unhide HBt) _).mono ?_
   rintro en w9 ⟨rfl,hb9⟩
   exact hK _ _ ⟨rfl,hM.kept hb9⟩
  ·cases ho9
   have r112:=hD.od hd9 10 112 _ rfl (by simp)
   refine wpOp_step rfl fun K hK=>?_
   go_simp
   exact hK _ _ ⟨rfl,hM⟩
  ·cases ho9
   have r101:=hD.od hd9 11 101 _ rfl (by simp)
   refine wpOp_step rfl fun K hK=>?_
   go_simp
   exact hK _ _ ⟨rfl,hM⟩
  ·cases ho9
   have r101:=hD.od hd9 11 101 _ rfl (by simp)
   refine wpOp_step rfl fun K hK=>?_
   go_simp
   exact hK _ _ ⟨rfl,hM⟩
  ·cases ho9
   have r113:=hD.od hd9 12 113 _ rfl (by simp)
   refine wpOp_step rfl fun K hK=>?_
   go_simp
   exact hK _ _ ⟨rfl,hM⟩
  ·cases ho9
   have r114:=hD.od hd9 13 114 _ rfl (by simp)
   refine wpOp_step rfl fun K hK=>?_
   go_simp
   exact hK _ _ ⟨rfl,hM⟩
 ·intro l9 W9 hl9 hM
  clear hS yz y0 y1 y2 y3
  have hS:=hM
  clear hM
  simp only [Puts.lay,List.setIfInBounds_toArray,List.set_cons_zero,List.set_cons_succ]
  obtain ⟨⟨y4,y5,-⟩,⟨y6,y7,y8,-⟩,-⟩:=hS.cells
  go_wp2
  exact bodyPost_ret (v:=.tuple #[.int .u64 b,.int .u8 5,.int .i64 0]) (by simp [results,Tryz.results53,go_sem]) rfl ⟨rfl,hS.fr⟩
theorem rounded_plain (E F B mode:Nat) (ng:Bool) (s:Bool) (a:Option Addr) (n cap m k:Nat) (x t:Int) (N kN:Nat) (b st hd fr:Nat) (w:World) (h0:Fo E F) (HB:Hid (B = 2 ^ (E - 1) - 1)) (h:Num w a n m) (hn:0 < n) (hk:Bl m k) (hk2:k≤524288) (hx:-1073741824≤x∧x≤1073741824) (hat:max (1 - (B:Int) - (F:Int)) (x+(k:Int) - 1 - (F:Int)) = t) (HC:Hid (∀ W:World,Num W a n m→Calls Tryz.prog 87 #[.agg #[.bool s,.slice a n cap,.int .i64 x],.int .i64 t,.int .u8 (mode:Int)] W fun e w'=>e = .returned (.tuple #[.int .u64 N,.bool false])∧Below W.heap.size W w')) (hN:N < 9223372036854775808) (hkN:Bl N kN) (hkN2:kN≤64) (hov:(kN:Int) - 1+t≤(B:Int)) (HS9:Hid (t - (1 - (B:Int) - (F:Int)) = (st:Int))) (hst:st≤4096) (hN2:hd = N / 2 ^ F) (hhd:hd≤2) (hfr:fr = N - hd * 2 ^ F) (hB:Bt E F b s (st+hd) fr) (HM:Hid (∀ W:World,Num W a n m→Calls Tryz.prog 90 #[.agg #[.bool s,.slice a n cap,.int .i64 x],.int .i64 (x+(k:Int) - 1 - (F:Int)),.int .i64 (1 - (B:Int)),.int .u8 (mode:Int)] W fun e w'=>e = .returned (.bool false)∧Below W.heap.size W w')) :
  Calls Tryz.prog 53 #[.agg #[.int .i64 E,.int .i64 F],.agg #[.bool s,.slice a n cap,.int .i64 x],.bool ng,.int .u8 (mode:Int)] w fun e w'=>e = .returned (.tuple #[.int .u64 b,.int .u8 1,.int .i64 0])∧Below w.heap.size w w':=by
 have H0:=hide h0
 have H:=hide h
 have HK:=hide hk
 have HKN:=hide hkN
 have hBl:B≤1023:=B_le h0 HB
 have hF:=h0.f52
 have hF1:=h0.f1
 clear h0 h hk hkN
 have o1:bits BinOp.or .u8 0 1 = 1:=by decide
 have o2:bits BinOp.or .u8 1 4 = 5:=by decide
 have HBt:=hide hB
 have HN2:=hide hN2
 have HFR:=hide hfr
 clear hB hN2 hfr
 go_enter Tryz.func53,Tryz.ntmps53
 go_wp2_with fail
 refine (rnought_no a n cap hn _).mono ?_
 rintro e w1 ⟨rfl,hb1⟩
 have hS:=(Fs.two w _ _ _ _).kept hb1
 obtain ⟨⟨ya,yb,-⟩,⟨yc,yd,ye,-⟩,-⟩:=hS.cells
 go_wp2_with fail
 refine (Range_ok E F B (unhide H0) HB _).mono ?_
 rintro e w2 ⟨rfl,hb2⟩
 replace hS:=hS.kept hb2
 clear ya yb yc yd ye
 obtain ⟨⟨yf,yg,-⟩,⟨yh,yi,yj,-⟩,-⟩:=hS.cells
 go_wp2_with fail
 refine (bits_k a n cap m k _ ((unhide H).kept hS.fr) (unhide HK)).mono ?_
 rintro e w3 ⟨rfl,hb3⟩
 replace hS:=hS.kept hb3
 clear yf yg yh yi yj
 obtain ⟨⟨yk,yl,-⟩,⟨ym,yn,yo,-⟩,-⟩:=hS.cells
 go_wp2_with fail
 refine (unhide HC _ ((unhide H).kept hS.fr)).mono ?_
 rintro e w4 ⟨rfl,hb4⟩
 replace hS:=hS.kept hb4
 clear yk yl ym yn yo
 obtain ⟨⟨yp,yq,-⟩,⟨yr,ys,yt,-⟩,-⟩:=hS.cells
 go_wp2_with fail
 refine (firstBit_k N kN t _ (by omega) (unhide HKN) hkN2 (by omega)).mono ?_
 rintro e w5 ⟨rfl,hb5⟩
 replace hS:=hS.kept hb5
 clear yp yq yr ys yt
 obtain ⟨⟨yu,yv,-⟩,⟨yw,yx,yy,-⟩,-⟩:=hS.cells
 go_wp2_with fail
 refine (unhide HM _ ((unhide H).kept hS.fr)).mono ?_
 rintro e w6 ⟨rfl,hb6⟩
 replace hS:=hS.kept hb6
 clear yu yv yw yx yy
 obtain ⟨⟨yz,y0,-⟩,⟨y1,y2,y3,-⟩,-⟩:=hS.cells
 have e9:t - (1 - (B:Int) - (F:Int)) = (st:Int):=unhide HS9
 go_wp2_with fail
 refine wp_region_any (by kernel_rfl) ?_
 refine wpAny_det [some (102,.agg #[.int .i64 E,.int .i64 F]),some (103,.pointer (some ⟨w.heap.size+1,0,none⟩)),some (104,.bool s),some (105,.int .u64 N),some (106,.int .i64 t),some (107,.int .i64 (1 - (B:Int) - (F:Int))),some (108,.int .i64 st),some (109,.pointer (some ⟨w.heap.size,1,none⟩)),some (110,.int .i64 F),some (111,.agg #[.bool s,.int .i64 ((st:Int)+(hd:Int)),.int .u64 fr]),some (112,.tuple #[.int .u64 b,.int .i64 0]),some (101,.tuple #[.int .u64 b,.int .i64 0]),some (113,.int .u64 b),some (114,.int .i64 0),some (24,.int .u64 b),some (15,.int .i64 0)]
  (fun _ W9=>Fs w W9 [⟨w.heap.size,#[.int .i64 E,.int .i64 F],23⟩,⟨w.heap.size+1,#[.bool s,.slice a n cap,.int .i64 x],61⟩]) _ _ rfl (by kernel_rfl) rfl rfl ?_ ?_ (hS).drew
 ·intro l9 t9 W9 i9 hD hi9 hl9 hM
  obtain ⟨o9,ho9,hd9⟩:=(mem_ready.1 hi9).2
  have hin9:i9 < 16:=by
   by_cases h:i9 < 16
   ·exact h
   ·rw [Array.getElem?_eq_none (by rw [hD.len]; simp; omega)] at hl9; cases hl9
  have hcase:i9 = 0∨i9 = 1∨i9 = 2∨i9 = 3∨i9 = 4∨i9 = 5∨i9 = 6∨i9 = 7∨i9 = 8∨i9 = 9∨i9 = 10∨i9 = 11∨i9 = 12∨i9 = 13∨i9 = 14∨i9 = 15:=by omega
  clear hin9
  rcases hcase with rfl|rfl|rfl|rfl|rfl|rfl|rfl|rfl|rfl|rfl|rfl|rfl|rfl|rfl|rfl|rfl
  ·cases ho9
   have r4:=hD.old 4 _ rfl rfl
   have hM0:=hM
   have Q_:=hM0.cellAt (b:=w.heap.size) (cs:=#[.int .i64 E,.int .i64 F]) (t:=23) (by simp)
   have c9_0:=Q_ 0 _ rfl
   have c9_1:=Q_ 1 _ rfl
   clear Q_
   clear hM0
   refine wpOp_step rfl fun K hK=>?_
   go_simp
   exact hK _ _ ⟨rfl,hM⟩
  ·cases ho9
   have r5:=hD.old 5 _ rfl rfl
   refine wpOp_step rfl fun K hK=>?_
   go_simp
   exact hK _ _ ⟨rfl,hM⟩
  ·cases ho9
   have r103:=hD.od hd9 1 103 _ rfl (by simp)
   have hM0:=hM
   have c9_0:=hM0.cellAt (b:=w.heap.size+1) (cs:=#[.bool s,.slice a n cap,.int .i64 x]) (t:=61) (by simp) 0 _ rfl
   clear hM0
   refine wpOp_step rfl fun K hK=>?_
   go_simp
   exact hK _ _ ⟨rfl,hM⟩
  ·cases ho9
   have r19:=hD.old 19 _ rfl rfl
   refine wpOp_step rfl fun K hK=>?_
   go_simp
   exact hK _ _ ⟨rfl,hM⟩
  ·cases ho9
   have r18:=hD.old 18 _ rfl rfl
   refine wpOp_step rfl fun K hK=>?_
   go_simp
   exact hK _ _ ⟨rfl,hM⟩
  ·cases ho9
   have r13:=hD.old 13 _ rfl rfl
   refine wpOp_step rfl fun K hK=>?_
   go_simp
   exact hK _ _ ⟨rfl,hM⟩
  ·cases ho9
   have r106:=hD.od hd9 4 106 _ rfl (by simp)
   have r107:=hD.od hd9 5 107 _ rfl (by simp)
   refine wpOp_step rfl fun K hK=>?_
   go_simp
   exact hK _ _ ⟨act_eq (by (show Value.int _ _ = Value.int _ _; first|exact congrArg (Value.int .i64) e9|(congr 1; first|exact e9|(rw [IntKind.wrap_i64]; omega)))),hM⟩
  ·cases ho9
   have r4:=hD.old 4 _ rfl rfl
   refine wpOp_step rfl fun K hK=>?_
   go_simp
   exact hK _ _ ⟨rfl,hM⟩
  ·cases ho9
   have r109:=hD.od hd9 7 109 _ rfl (by simp)
   have hM0:=hM
   have c9_0:=hM0.cellAt (b:=w.heap.size) (cs:=#[.int .i64 E,.int .i64 F]) (t:=23) (by simp) 1 _ rfl
   clear hM0
   refine wpOp_step rfl fun K hK=>?_
   go_simp
   exact hK _ _ ⟨rfl,hM⟩
  ·cases ho9
   have r104:=hD.od hd9 2 104 _ rfl (by simp)
   have r105:=hD.od hd9 3 105 _ rfl (by simp)
   have r108:=hD.od hd9 6 108 _ rfl (by simp)
   have r110:=hD.od hd9 8 110 _ rfl (by simp)
   refine wpOp_step rfl fun K hK=>?_
   go_simp
   go_wp2_with fail
   refine (rfields_any s N st F hd fr _ hF hst hhd HN2 HFR hN).mono ?_
   rintro en w9 ⟨rfl,hb9⟩
   exact hK _ _ ⟨rfl,hM.kept hb9⟩
  ·cases ho9
   have r102:=hD.od hd9 0 102 _ rfl (by simp)
   have r111:=hD.od hd9 9 111 _ rfl (by simp)
   refine wpOp_step rfl fun K hK=>?_
   go_simp
   go_wp2_with fail
   refine (join_is E F b st hd fr s (unhide H0) (unhide HBt) _).mono ?_
   rintro en w9 ⟨rfl,hb9⟩
   exact hK _ _ ⟨rfl,hM.kept hb9⟩
  ·cases ho9
   have r112:=hD.od hd9 10 112 _ rfl (by simp)
   refine wpOp_step rfl fun K hK=>?_
   go_simp
   exact hK _ _ ⟨rfl,hM⟩
  ·cases ho9
   have r101:=hD.od hd9 11 101 _ rfl (by simp)
   refine wpOp_step rfl fun K hK=>?_
   go_simp
   exact hK _ _ ⟨rfl,hM⟩
  ·cases ho9
   have r101:=hD.od hd9 11 101 _ rfl (by simp)
   refine wpOp_step rfl fun K hK=>?_
   go_simp
   exact hK _ _ ⟨rfl,hM⟩
  ·cases ho9
   have r113:=hD.od hd9 12 113 _ rfl (by simp)
   refine wpOp_step rfl fun K hK=>?_
   go_simp
   exact hK _ _ ⟨rfl,hM⟩
  ·cases ho9
   have r114:=hD.od hd9 13 114 _ rfl (by simp)
   refine wpOp_step rfl fun K hK=>?_
   go_simp
   exact hK _ _ ⟨rfl,hM⟩
 ·intro l9 W9 hl9 hM
  clear hS yz y0 y1 y2 y3
  have hS:=hM
  clear hM
  simp only [Puts.lay,List.setIfInBounds_toArray,List.set_cons_zero,List.set_cons_succ]
  obtain ⟨⟨y4,y5,-⟩,⟨y6,y7,y8,-⟩,-⟩:=hS.cells
  go_wp2
  exact bodyPost_ret (v:=.tuple #[.int .u64 b,.int .u8 1,.int .i64 0]) (by simp [results,Tryz.results53,go_sem]) rfl ⟨rfl,hS.fr⟩
theorem setCell_stillz {W:World} {b j:Nat} {cs:Array Value} {t:TypeId} {u:Value} (hb:W.heap[b]? = some (.cells cs t (0,0))) (hc:cs[j]? = some u):W.setCell ⟨b,j,none⟩ u = W:=by
 have he:(W.setCell ⟨b,j,none⟩ u).heap = W.heap:=by
  apply Array.ext_getElem?
  intro k
  by_cases hk:k = b
  ·subst hk
   rw [heap_setCell_same W k j _ _ _ hb,hb]
   congr 2
   apply Array.ext_getElem?
   intro i
   by_cases hi:i = j
   ·subst hi
    obtain ⟨hlt,_⟩:=Array.getElem?_eq_some_iff.1 hc
    rw [hc]; simp [hlt]
   ·rw [Array.getElem?_setIfInBounds_ne (Ne.symm hi)]
  ·rw [heap_setCell_other W _ k u hk]
 have:W.setCell ⟨b,j,none⟩ u = { W with heap:=(W.setCell ⟨b,j,none⟩ u).heap }:=rfl
 rw [this,he]
def Rz (w:World) (p k:Nat):Prop:=∃ cs t,w.heap[p]? = some (.cells cs t (0,0))∧cs[k]? = some (.int .i64 0)
theorem Rz.kept {w w':World} {p k:Nat} (h:Rz w p k) (hb:Below w.heap.size w w'):Rz w' p k:=by
 obtain ⟨cs,t,h1,h2⟩:=h
 exact ⟨cs,t,by rw [hb.block _ (block_lt h1)]; exact h1,h2⟩
theorem Rz.cell {w:World} {p k:Nat} (h:Rz w p k):w.cell? ⟨p,k,none⟩ = some (.int .i64 0)∧w.frozen? ⟨p,k,none⟩ = false:=by
 obtain ⟨cs,t,h1,h2⟩:=h
 exact ⟨by rw [cell_of_row w p k _ _ _ h1]; exact h2,frozen_of_row w p k _ _ h1⟩
theorem Rz.still {w:World} {p k:Nat} (h:Rz w p k):w.setCell ⟨p,k,none⟩ (.int .i64 0) = w:=by
 obtain ⟨cs,t,h1,h2⟩:=h
 exact setCell_stillz h1 h2
theorem keep_z (p k:Nat) (w:World) (h:Rz w p k) :
  Calls Tryz.prog 38 #[.pointer (some ⟨p,k,none⟩),.int .i64 0] w fun en w'=>en = .returned (.tuple #[])∧Below w.heap.size w w':=by
 obtain ⟨h1,h2⟩:=h.cell
 have h3:=h.still
 go_enter Tryz.func38,Tryz.ntmps38
 go_wp2
 go_end0
 exact ⟨rfl,Below.refl _ _⟩
theorem runNat_z (p k:Nat) (a:Option Addr) (n cap:Nat) (w:World) (h:Rz w p k) :
  Calls Tryz.prog 40 #[.pointer (some ⟨p,k,none⟩),.agg #[.slice a n cap],.int .i64 0] w fun e w'=>e = .returned (.agg #[.slice a n cap])∧Below w.heap.size w w':=by
 have H:=hide h
 clear h
 go_enter Tryz.func40,Tryz.ntmps40
 go_wp2_with fail
 refine (keep_z p k _ ((unhide H).kept (Fs.two w _ _ _ _).fr)).mono ?_
 rintro e w1 ⟨rfl,hb1⟩
 have hS:=(Fs.two w _ _ _ _).kept hb1
 obtain ⟨⟨ya,-⟩,⟨yb,-⟩,-⟩:=hS.cells
 have fz0:=hS.frozen (b:=w.heap.size+1) (cs:=#[.slice none 0 0]) (t:=26) (by simp) 0
 go_wp2
 exact bodyPost_ret (v:=.agg #[.slice a n cap]) (by simp [results,Tryz.results40,go_sem,yb]) rfl ⟨rfl,(hS.fr.setCell (by simp <;> omega) _)⟩
theorem runLess_z (p k:Nat) (a:Option Addr) (n cap:Nat) (t:Bool) (w:World) (h:Rz w p k) :
  Calls Tryz.prog 35 #[.pointer (some ⟨p,k,none⟩),.agg #[.slice a n cap],.bool t,.int .i64 0] w fun e w'=>e = .returned (.agg #[.slice a n cap])∧Below w.heap.size w w':=by
 have H:=hide h
 clear h
 go_enter Tryz.func35,Tryz.ntmps35
 go_wp2_with fail
 refine (keep_z p k _ ((unhide H).kept (Fs.two w _ _ _ _).fr)).mono ?_
 rintro e w1 ⟨rfl,hb1⟩
 have hS:=(Fs.two w _ _ _ _).kept hb1
 obtain ⟨⟨ya,-⟩,⟨yb,-⟩,-⟩:=hS.cells
 have fz0:=hS.frozen (b:=w.heap.size+1) (cs:=#[.slice none 0 0]) (t:=26) (by simp) 0
 go_wp2
 exact bodyPost_ret (v:=.agg #[.slice a n cap]) (by simp [results,Tryz.results35,go_sem,yb]) rfl ⟨rfl,(hS.fr.setCell (by simp <;> omega) _)⟩
theorem runInt_z (p k:Nat) (c:Int) (w:World) (h:Rz w p k) :
  Calls Tryz.prog 33 #[.pointer (some ⟨p,k,none⟩),.int .i64 c,.int .i64 0] w fun e w'=>e = .returned (.int .i64 c)∧Below w.heap.size w w':=by
 have H:=hide h
 clear h
 go_enter Tryz.func33,Tryz.ntmps33
 go_wp2_with fail
 refine (keep_z p k _ (unhide H)).mono ?_
 rintro e w1 ⟨rfl,hb1⟩
 have hS:=(Fs.begin w).kept hb1
 go_wp2
 go_ret
 exact ⟨rfl,hS.fr⟩
theorem runNats_z (p k:Nat) (a:Option Addr) (n cap:Nat) (a':Option Addr) (n' cap':Nat) (w:World) (h:Rz w p k) :
  Calls Tryz.prog 30 #[.pointer (some ⟨p,k,none⟩),.agg #[.slice a n cap],.agg #[.slice a' n' cap'],.int .i64 0] w fun e w'=>e = .returned (.tuple #[.agg #[.slice a n cap],.agg #[.slice a' n' cap']])∧Below w.heap.size w w':=by
 have H:=hide h
 clear h
 go_enter Tryz.func30,Tryz.ntmps30
 go_wp2_with fail
 have hS:=(Fs.three w #[.slice a n cap] 26 #[.slice a' n' cap'] 26 #[.slice none 0 0] 26).alloc #[.slice none 0 0] 26
 simp only [World.size_alloc] at hS
 refine (keep_z p k _ ((unhide H).kept hS.fr)).mono ?_
 rintro e w1 ⟨rfl,hb1⟩
 replace hS:=hS.kept hb1
 obtain ⟨⟨ya,-⟩,⟨yb,-⟩,⟨yc,-⟩,⟨yd,-⟩,-⟩:=hS.cells
 have fy0:=hS.frozen (b:=w.heap.size+2) (cs:=#[.slice none 0 0]) (t:=26) (by simp) 0
 have fz0:=hS.frozen (b:=w.heap.size+3) (cs:=#[.slice none 0 0]) (t:=26) (by simp) 0
 go_wp2
 go_region
 go_wp2
 exact bodyPost_ret (v:=.tuple #[.agg #[.slice a n cap],.agg #[.slice a' n' cap']]) (by simp [results,Tryz.results30,go_sem,ya,yd]) rfl ⟨rfl,((hS.fr.setCell (show w.heap.size≤w.heap.size+1+1 by omega) _).setCell (show w.heap.size≤w.heap.size+1+1+1 by omega) _).drew⟩
def WTwo (f:FuncId) (p x y v:Nat):Prop:=∀ (W:World) (a:Option Addr) (n c:Nat) (a':Option Addr) (n' c':Nat),Rz W p 0→Num W a n x→Num W a' n' y→Calls Tryz.prog f #[.pointer (some ⟨p,0,none⟩),.agg #[.slice a n c],.agg #[.slice a' n' c']] W fun en W'=>(∃ A N C,en = .returned (.agg #[.slice A N C])∧Mine W' W.heap.size A N C v)∧Below W.heap.size W W'
def WDiv (p x y q r:Nat):Prop:=∀ (W:World) (a:Option Addr) (n c:Nat) (a':Option Addr) (n' c':Nat),Rz W p 0→Num W a n x→Num W a' n' y→Calls Tryz.prog 75 #[.pointer (some ⟨p,0,none⟩),.agg #[.slice a n c],.agg #[.slice a' n' c']] W fun en W'=>(∃ A N C A' N' C',en = .returned (.tuple #[.agg #[.slice A N C],.agg #[.slice A' N' C']])∧Mine W' W.heap.size A N C q∧Mine W' W.heap.size A' N' C' r)∧Below W.heap.size W W'
def WCmp (p x y:Nat) (r:Int):Prop:=∀ (W:World) (a:Option Addr) (n c:Nat) (a':Option Addr) (n' c':Nat),Rz W p 0→Num W a n x→Num W a' n' y→Calls Tryz.prog 63 #[.pointer (some ⟨p,0,none⟩),.agg #[.slice a n c],.agg #[.slice a' n' c']] W fun en W'=>en = .returned (.int .i64 r)∧Below W.heap.size W W'
def WMo (p x y z q r:Nat):Prop:=∀ (W:World) (a:Option Addr) (n c:Nat) (a':Option Addr) (n' c':Nat) (a2:Option Addr) (n2 c2:Nat),Rz W p 0→Num W a n x→Num W a' n' y→Num W a2 n2 z→Calls Tryz.prog 150 #[.pointer (some ⟨p,0,none⟩),.agg #[.slice a n c],.agg #[.slice a' n' c'],.agg #[.slice a2 n2 c2]] W fun en W'=>(∃ A N C A' N' C',en = .returned (.tuple #[.agg #[.slice A N C],.agg #[.slice A' N' C']])∧Mine W' W.heap.size A N C q∧Mine W' W.heap.size A' N' C' r)∧Below W.heap.size W W'
theorem zadd (w:World) (p:Nat) (a1 a2:Option Addr) (n1 n2 c1 c2 x y v:Nat) (hR:Rz w p 0) (h1:Num w a1 n1 x) (h2:Num w a2 n2 y) (H:Hid (∀ (W:World) (a:Option Addr) (n c:Nat) (a':Option Addr) (n' c':Nat),Num W a n x→Num W a' n' y→Calls Tryz.prog 41 #[.agg #[.slice a n c],.agg #[.slice a' n' c']] W fun en W'=>(∃ A N C,en = .returned (.tuple #[.agg #[.slice A N C],.int .i64 0])∧Mine W' W.heap.size A N C v)∧Below W.heap.size W W')) :
  Calls Tryz.prog 135 #[.pointer (some ⟨p,0,none⟩),.agg #[.slice a1 n1 c1],.agg #[.slice a2 n2 c2]] w fun en w'=>(∃ A N C,en = .returned (.agg #[.slice A N C])∧Mine w' w.heap.size A N C v)∧Below w.heap.size w w':=by
 obtain ⟨cs9,t9_,hp,hp0⟩:=hR
 refine calls_sym Tryz.func135 rfl (by kernel_rfl) fun T hK=>?_
 replace hK:Kn T _ [(0,.pointer (some ⟨p,0,none⟩)),(1,.agg #[.slice a1 n1 c1]),(2,.agg #[.slice a2 n2 c2])]:=hK
 have hS:=Fb.other hp
 have hG:GsAt [gN a1 n1 x,gN a2 n2 y] w:=⟨h1,h2,trivial⟩
 refine wq hS hG hK (fun p1=>[.n 4 #[.slice a1 n1 c1] 26,.n 5 #[.slice a2 n2 c2] 26,.n 6 #[.slice none 0 0] 26]) (fun p1=>[(0,.pointer (some ⟨p,0,none⟩)),(4,pT (p1 0).N 0),(5,pT (p1 1).N 0),(6,pT (p1 2).N 0)]) (fun p1=>?_) (fun p1 W1 T hF hK=>?_)
 ·iterate 3 refine okn ?_
  exact ok_nil
 replace hS:=SymF.fc hS hF [0,1000,1001,1002] [⟨p,cs9,t9_,false⟩,⟨(p1 0).N,#[.slice a1 n1 c1],26,true⟩,⟨(p1 1).N,#[.slice a2 n2 c2],26,true⟩,⟨(p1 2).N,#[.slice none 0 0],26,true⟩]
 replace hG:=hF.gx
 clear hF
 have z1:=hS.fr.size
 refine wq hS hG hK (fun p2=>[.v 7 (.pointer (some ⟨p,0,none⟩)),.v 8 (.pointer (some ⟨p,0,none⟩)),.v 9 (.pointer (some ⟨p,0,none⟩)),.l 10 (.agg #[.slice a1 n1 c1]) 1 0,.l 11 (.agg #[.slice a2 n2 c2]) 2 0,.c (some 12) (cO W1.heap.size v),.v 13 (.agg #[.slice (p2 5).A (p2 5).N (p2 5).C]),.v 14 (.int .i64 0),.u 15 (.agg #[.slice (p2 5).A (p2 5).N (p2 5).C]) (aG 1),.p 3 0 [.slice (p2 5).A (p2 5).N (p2 5).C]]) (fun p2=>[(6,pT (p1 2).N 0)]) (fun p2=>?_) (fun p2 W2 T hF hK=>?_)
 ·iterate 3 refine okv ?_
  iterate 2 refine okl ?_
  refine okc (fun W cx=>as_o cx.hb (unhide H _ _ _ c1 _ _ c2 (cx.G.1) (cx.G.2.1))) ?_
  iterate 2 refine okv ?_
  refine oku (fun W cx=>runNat_z p 0 _ _ _ _ ⟨_,_,cx.B 0 _ rfl (by kernel_rfl) (by kernel_rfl),hp0⟩) ?_
  refine okp ?_
  exact ok_nil
 replace hS:=SymF.fc hS hF [0,3] [⟨p,cs9,t9_,false⟩,⟨(p1 2).N,#[.slice (p2 5).A (p2 5).N (p2 5).C],26,true⟩]
 replace hG:GsAt (gM W1.heap.size (p2 5).A (p2 5).N (p2 5).C v :: _) W2:=⟨hF.fx 5,hF.gx⟩
 clear hF
 refine wp_ret ?_
 exact sym_end hS hK (.agg #[.slice (p2 5).A (p2 5).N (p2 5).C]) [(1,0,1)] [.slice (p2 5).A (p2 5).N (p2 5).C] (by kernel_rfl) (by kernel_rfl) ⟨⟨_,_,_,rfl,Mine.mono hG.1 z1⟩,hS.fr⟩
theorem zmul (w:World) (p:Nat) (a1 a2:Option Addr) (n1 n2 c1 c2 x y v:Nat) (hR:Rz w p 0) (h1:Num w a1 n1 x) (h2:Num w a2 n2 y) (H:Hid (∀ (W:World) (a:Option Addr) (n c:Nat) (a':Option Addr) (n' c':Nat),Num W a n x→Num W a' n' y→Calls Tryz.prog 102 #[.agg #[.slice a n c],.agg #[.slice a' n' c']] W fun en W'=>(∃ A N C,en = .returned (.tuple #[.agg #[.slice A N C],.int .i64 0])∧Mine W' W.heap.size A N C v)∧Below W.heap.size W W')) :
  Calls Tryz.prog 62 #[.pointer (some ⟨p,0,none⟩),.agg #[.slice a1 n1 c1],.agg #[.slice a2 n2 c2]] w fun en w'=>(∃ A N C,en = .returned (.agg #[.slice A N C])∧Mine w' w.heap.size A N C v)∧Below w.heap.size w w':=by
 obtain ⟨cs9,t9_,hp,hp0⟩:=hR
 refine calls_sym Tryz.func62 rfl (by kernel_rfl) fun T hK=>?_
 replace hK:Kn T _ [(0,.pointer (some ⟨p,0,none⟩)),(1,.agg #[.slice a1 n1 c1]),(2,.agg #[.slice a2 n2 c2])]:=hK
 have hS:=Fb.other hp
 have hG:GsAt [gN a1 n1 x,gN a2 n2 y] w:=⟨h1,h2,trivial⟩
 refine wq hS hG hK (fun p1=>[.n 4 #[.slice a1 n1 c1] 26,.n 5 #[.slice a2 n2 c2] 26,.n 6 #[.slice none 0 0] 26]) (fun p1=>[(0,.pointer (some ⟨p,0,none⟩)),(4,pT (p1 0).N 0),(5,pT (p1 1).N 0),(6,pT (p1 2).N 0)]) (fun p1=>?_) (fun p1 W1 T hF hK=>?_)
 ·iterate 3 refine okn ?_
  exact ok_nil
 replace hS:=SymF.fc hS hF [0,1000,1001,1002] [⟨p,cs9,t9_,false⟩,⟨(p1 0).N,#[.slice a1 n1 c1],26,true⟩,⟨(p1 1).N,#[.slice a2 n2 c2],26,true⟩,⟨(p1 2).N,#[.slice none 0 0],26,true⟩]
 replace hG:=hF.gx
 clear hF
 have z1:=hS.fr.size
 refine wq hS hG hK (fun p2=>[.v 7 (.pointer (some ⟨p,0,none⟩)),.v 8 (.pointer (some ⟨p,0,none⟩)),.v 9 (.pointer (some ⟨p,0,none⟩)),.l 10 (.agg #[.slice a1 n1 c1]) 1 0,.l 11 (.agg #[.slice a2 n2 c2]) 2 0,.c (some 12) (cO W1.heap.size v),.v 13 (.agg #[.slice (p2 5).A (p2 5).N (p2 5).C]),.v 14 (.int .i64 0),.u 15 (.agg #[.slice (p2 5).A (p2 5).N (p2 5).C]) (aG 1),.p 3 0 [.slice (p2 5).A (p2 5).N (p2 5).C]]) (fun p2=>[(6,pT (p1 2).N 0)]) (fun p2=>?_) (fun p2 W2 T hF hK=>?_)
 ·iterate 3 refine okv ?_
  iterate 2 refine okl ?_
  refine okc (fun W cx=>as_o cx.hb (unhide H _ _ _ c1 _ _ c2 (cx.G.1) (cx.G.2.1))) ?_
  iterate 2 refine okv ?_
  refine oku (fun W cx=>runNat_z p 0 _ _ _ _ ⟨_,_,cx.B 0 _ rfl (by kernel_rfl) (by kernel_rfl),hp0⟩) ?_
  refine okp ?_
  exact ok_nil
 replace hS:=SymF.fc hS hF [0,3] [⟨p,cs9,t9_,false⟩,⟨(p1 2).N,#[.slice (p2 5).A (p2 5).N (p2 5).C],26,true⟩]
 replace hG:GsAt (gM W1.heap.size (p2 5).A (p2 5).N (p2 5).C v :: _) W2:=⟨hF.fx 5,hF.gx⟩
 clear hF
 refine wp_ret ?_
 exact sym_end hS hK (.agg #[.slice (p2 5).A (p2 5).N (p2 5).C]) [(1,0,1)] [.slice (p2 5).A (p2 5).N (p2 5).C] (by kernel_rfl) (by kernel_rfl) ⟨⟨_,_,_,rfl,Mine.mono hG.1 z1⟩,hS.fr⟩
theorem zgcd (w:World) (p:Nat) (a1 a2:Option Addr) (n1 n2 c1 c2 x y v:Nat) (hR:Rz w p 0) (h1:Num w a1 n1 x) (h2:Num w a2 n2 y) (H:Hid (∀ (W:World) (a:Option Addr) (n c:Nat) (a':Option Addr) (n' c':Nat),Num W a n x→Num W a' n' y→Calls Tryz.prog 50 #[.agg #[.slice a n c],.agg #[.slice a' n' c']] W fun en W'=>(∃ A N C,en = .returned (.tuple #[.agg #[.slice A N C],.int .i64 0])∧Mine W' W.heap.size A N C v)∧Below W.heap.size W W')) :
  Calls Tryz.prog 45 #[.pointer (some ⟨p,0,none⟩),.agg #[.slice a1 n1 c1],.agg #[.slice a2 n2 c2]] w fun en w'=>(∃ A N C,en = .returned (.agg #[.slice A N C])∧Mine w' w.heap.size A N C v)∧Below w.heap.size w w':=by
 obtain ⟨cs9,t9_,hp,hp0⟩:=hR
 refine calls_sym Tryz.func45 rfl (by kernel_rfl) fun T hK=>?_
 replace hK:Kn T _ [(0,.pointer (some ⟨p,0,none⟩)),(1,.agg #[.slice a1 n1 c1]),(2,.agg #[.slice a2 n2 c2])]:=hK
 have hS:=Fb.other hp
 have hG:GsAt [gN a1 n1 x,gN a2 n2 y] w:=⟨h1,h2,trivial⟩
 refine wq hS hG hK (fun p1=>[.n 4 #[.slice a1 n1 c1] 26,.n 5 #[.slice a2 n2 c2] 26,.n 6 #[.slice none 0 0] 26]) (fun p1=>[(0,.pointer (some ⟨p,0,none⟩)),(4,pT (p1 0).N 0),(5,pT (p1 1).N 0),(6,pT (p1 2).N 0)]) (fun p1=>?_) (fun p1 W1 T hF hK=>?_)
 ·iterate 3 refine okn ?_
  exact ok_nil
 replace hS:=SymF.fc hS hF [0,1000,1001,1002] [⟨p,cs9,t9_,false⟩,⟨(p1 0).N,#[.slice a1 n1 c1],26,true⟩,⟨(p1 1).N,#[.slice a2 n2 c2],26,true⟩,⟨(p1 2).N,#[.slice none 0 0],26,true⟩]
 replace hG:=hF.gx
 clear hF
 have z1:=hS.fr.size
 refine wq hS hG hK (fun p2=>[.v 7 (.pointer (some ⟨p,0,none⟩)),.v 8 (.pointer (some ⟨p,0,none⟩)),.v 9 (.pointer (some ⟨p,0,none⟩)),.l 10 (.agg #[.slice a1 n1 c1]) 1 0,.l 11 (.agg #[.slice a2 n2 c2]) 2 0,.c (some 12) (cO W1.heap.size v),.v 13 (.agg #[.slice (p2 5).A (p2 5).N (p2 5).C]),.v 14 (.int .i64 0),.u 15 (.agg #[.slice (p2 5).A (p2 5).N (p2 5).C]) (aG 1),.p 3 0 [.slice (p2 5).A (p2 5).N (p2 5).C]]) (fun p2=>[(6,pT (p1 2).N 0)]) (fun p2=>?_) (fun p2 W2 T hF hK=>?_)
 ·iterate 3 refine okv ?_
  iterate 2 refine okl ?_
  refine okc (fun W cx=>as_o cx.hb (unhide H _ _ _ c1 _ _ c2 (cx.G.1) (cx.G.2.1))) ?_
  iterate 2 refine okv ?_
  refine oku (fun W cx=>runNat_z p 0 _ _ _ _ ⟨_,_,cx.B 0 _ rfl (by kernel_rfl) (by kernel_rfl),hp0⟩) ?_
  refine okp ?_
  exact ok_nil
 replace hS:=SymF.fc hS hF [0,3] [⟨p,cs9,t9_,false⟩,⟨(p1 2).N,#[.slice (p2 5).A (p2 5).N (p2 5).C],26,true⟩]
 replace hG:GsAt (gM W1.heap.size (p2 5).A (p2 5).N (p2 5).C v :: _) W2:=⟨hF.fx 5,hF.gx⟩
 clear hF
 refine wp_ret ?_
 exact sym_end hS hK (.agg #[.slice (p2 5).A (p2 5).N (p2 5).C]) [(1,0,1)] [.slice (p2 5).A (p2 5).N (p2 5).C] (by kernel_rfl) (by kernel_rfl) ⟨⟨_,_,_,rfl,Mine.mono hG.1 z1⟩,hS.fr⟩
theorem zsub (w:World) (p:Nat) (a1 a2:Option Addr) (n1 n2 c1 c2 x y v:Nat) (g:Bool) (hR:Rz w p 0) (h1:Num w a1 n1 x) (h2:Num w a2 n2 y) (H:Hid (∀ (W:World) (a:Option Addr) (n c:Nat) (a':Option Addr) (n' c':Nat),Num W a n x→Num W a' n' y→Calls Tryz.prog 36 #[.agg #[.slice a n c],.agg #[.slice a' n' c']] W fun en W'=>(∃ A N C,en = .returned (.tuple #[.agg #[.slice A N C],.bool g,.int .i64 0])∧Mine W' W.heap.size A N C v)∧Below W.heap.size W W')) :
  Calls Tryz.prog 141 #[.pointer (some ⟨p,0,none⟩),.agg #[.slice a1 n1 c1],.agg #[.slice a2 n2 c2]] w fun en w'=>(∃ A N C,en = .returned (.agg #[.slice A N C])∧Mine w' w.heap.size A N C v)∧Below w.heap.size w w':=by
 obtain ⟨cs9,t9_,hp,hp0⟩:=hR
 refine calls_sym Tryz.func141 rfl (by kernel_rfl) fun T hK=>?_
 replace hK:Kn T _ [(0,.pointer (some ⟨p,0,none⟩)),(1,.agg #[.slice a1 n1 c1]),(2,.agg #[.slice a2 n2 c2])]:=hK
 have hS:=Fb.other hp
 have hG:GsAt [gN a1 n1 x,gN a2 n2 y] w:=⟨h1,h2,trivial⟩
 refine wq hS hG hK (fun p1=>[.n 4 #[.slice a1 n1 c1] 26,.n 5 #[.slice a2 n2 c2] 26,.n 6 #[.slice none 0 0] 26]) (fun p1=>[(0,.pointer (some ⟨p,0,none⟩)),(4,pT (p1 0).N 0),(5,pT (p1 1).N 0),(6,pT (p1 2).N 0)]) (fun p1=>?_) (fun p1 W1 T hF hK=>?_)
 ·iterate 3 refine okn ?_
  exact ok_nil
 replace hS:=SymF.fc hS hF [0,1000,1001,1002] [⟨p,cs9,t9_,false⟩,⟨(p1 0).N,#[.slice a1 n1 c1],26,true⟩,⟨(p1 1).N,#[.slice a2 n2 c2],26,true⟩,⟨(p1 2).N,#[.slice none 0 0],26,true⟩]
 replace hG:=hF.gx
 clear hF
 have z1:=hS.fr.size
 refine wq hS hG hK (fun p2=>[.v 7 (.pointer (some ⟨p,0,none⟩)),.v 8 (.pointer (some ⟨p,0,none⟩)),.v 9 (.pointer (some ⟨p,0,none⟩)),.l 10 (.agg #[.slice a1 n1 c1]) 1 0,.l 11 (.agg #[.slice a2 n2 c2]) 2 0,.c (some 12) (cG W1.heap.size v fun x9=>.tuple #[.agg #[x9],.bool g,.int .i64 0]),.v 13 (.agg #[.slice (p2 5).A (p2 5).N (p2 5).C]),.v 14 (.bool g),.v 15 (.int .i64 0),.u 16 (.agg #[.slice (p2 5).A (p2 5).N (p2 5).C]) (aG 1),.p 3 0 [.slice (p2 5).A (p2 5).N (p2 5).C]]) (fun p2=>[(6,pT (p1 2).N 0)]) (fun p2=>?_) (fun p2 W2 T hF hK=>?_)
 ·iterate 3 refine okv ?_
  iterate 2 refine okl ?_
  refine okc (fun W cx=>as_g cx.hb (unhide H _ _ _ c1 _ _ c2 (cx.G.1) (cx.G.2.1))) ?_
  iterate 3 refine okv ?_
  refine oku (fun W cx=>runLess_z p 0 _ _ _ g _ ⟨_,_,cx.B 0 _ rfl (by kernel_rfl) (by kernel_rfl),hp0⟩) ?_
  refine okp ?_
  exact ok_nil
 replace hS:=SymF.fc hS hF [0,3] [⟨p,cs9,t9_,false⟩,⟨(p1 2).N,#[.slice (p2 5).A (p2 5).N (p2 5).C],26,true⟩]
 replace hG:GsAt (gM W1.heap.size (p2 5).A (p2 5).N (p2 5).C v :: _) W2:=⟨hF.fx 5,hF.gx⟩
 clear hF
 refine wp_ret ?_
 exact sym_end hS hK (.agg #[.slice (p2 5).A (p2 5).N (p2 5).C]) [(1,0,1)] [.slice (p2 5).A (p2 5).N (p2 5).C] (by kernel_rfl) (by kernel_rfl) ⟨⟨_,_,_,rfl,Mine.mono hG.1 z1⟩,hS.fr⟩
theorem zdiv (w:World) (p:Nat) (a1 a2:Option Addr) (n1 n2 c1 c2 x y v u:Nat) (hR:Rz w p 0) (h1:Num w a1 n1 x) (h2:Num w a2 n2 y) (H:Hid (∀ (W:World) (a:Option Addr) (n c:Nat) (a':Option Addr) (n' c':Nat),Num W a n x→Num W a' n' y→Calls Tryz.prog 31 #[.agg #[.slice a n c],.agg #[.slice a' n' c']] W fun en W'=>(∃ A N C A' N' C',en = .returned (.tuple #[.agg #[.slice A N C],.agg #[.slice A' N' C'],.int .i64 0])∧Mine W' W.heap.size A N C v∧Mine W' W.heap.size A' N' C' u)∧Below W.heap.size W W')) :
  Calls Tryz.prog 75 #[.pointer (some ⟨p,0,none⟩),.agg #[.slice a1 n1 c1],.agg #[.slice a2 n2 c2]] w fun en w'=>(∃ A N C A' N' C',en = .returned (.tuple #[.agg #[.slice A N C],.agg #[.slice A' N' C']])∧Mine w' w.heap.size A N C v∧Mine w' w.heap.size A' N' C' u)∧Below w.heap.size w w':=by
 obtain ⟨cs9,t9_,hp,hp0⟩:=hR
 refine calls_sym Tryz.func75 rfl (by kernel_rfl) fun T hK=>?_
 replace hK:Kn T _ [(0,.pointer (some ⟨p,0,none⟩)),(1,.agg #[.slice a1 n1 c1]),(2,.agg #[.slice a2 n2 c2])]:=hK
 have hS:=Fb.other hp
 have hG:GsAt [gN a1 n1 x,gN a2 n2 y] w:=⟨h1,h2,trivial⟩
 refine wq hS hG hK (fun p1=>[.n 4 #[.slice a1 n1 c1] 26,.n 5 #[.slice a2 n2 c2] 26,.n 6 #[.slice none 0 0] 26,.n 7 #[.slice none 0 0] 26]) (fun p1=>[(0,.pointer (some ⟨p,0,none⟩)),(4,pT (p1 0).N 0),(5,pT (p1 1).N 0),(6,pT (p1 2).N 0),(7,pT (p1 3).N 0)]) (fun p1=>?_) (fun p1 W1 T hF hK=>?_)
 ·iterate 4 refine okn ?_
  exact ok_nil
 replace hS:=SymF.fc hS hF [0,1000,1001,1002,1003] [⟨p,cs9,t9_,false⟩,⟨(p1 0).N,#[.slice a1 n1 c1],26,true⟩,⟨(p1 1).N,#[.slice a2 n2 c2],26,true⟩,⟨(p1 2).N,#[.slice none 0 0],26,true⟩,⟨(p1 3).N,#[.slice none 0 0],26,true⟩]
 replace hG:=hF.gx
 clear hF
 have z1:=hS.fr.size
 refine wq hS hG hK (fun p2=>[.v 8 (.pointer (some ⟨p,0,none⟩)),.v 9 (.pointer (some ⟨p,0,none⟩)),.v 10 (.pointer (some ⟨p,0,none⟩)),.l 11 (.agg #[.slice a1 n1 c1]) 1 0,.l 12 (.agg #[.slice a2 n2 c2]) 2 0,.c (some 13) (cD W1.heap.size v u),.v 14 (.agg #[.slice (p2 5).A (p2 5).N (p2 5).C]),.v 15 (.agg #[.slice (p2 5).A' (p2 5).N' (p2 5).C']),.v 16 (.int .i64 0),.u 17 (.tuple #[.agg #[.slice (p2 5).A (p2 5).N (p2 5).C],.agg #[.slice (p2 5).A' (p2 5).N' (p2 5).C']]) (aH 1 2),.v 18 (.agg #[.slice (p2 5).A (p2 5).N (p2 5).C]),.v 19 (.agg #[.slice (p2 5).A' (p2 5).N' (p2 5).C']),.p 3 0 [.slice (p2 5).A (p2 5).N (p2 5).C],.p 4 0 [.slice (p2 5).A' (p2 5).N' (p2 5).C']]) (fun p2=>[(6,pT (p1 2).N 0),(7,pT (p1 3).N 0)]) (fun p2=>?_) (fun p2 W2 T hF hK=>?_)
 ·iterate 3 refine okv ?_
  iterate 2 refine okl ?_
  refine okc (fun W cx=>as_d cx.hb (unhide H _ _ _ c1 _ _ c2 (cx.G.1) (cx.G.2.1))) ?_
  iterate 3 refine okv ?_
  refine oku (fun W cx=>runNats_z p 0 _ _ _ _ _ _ _ ⟨_,_,cx.B 0 _ rfl (by kernel_rfl) (by kernel_rfl),hp0⟩) ?_
  iterate 2 refine okv ?_
  iterate 2 refine okp ?_
  exact ok_nil
 replace hS:=SymF.fc hS hF [0,3,4] [⟨p,cs9,t9_,false⟩,⟨(p1 2).N,#[.slice (p2 5).A (p2 5).N (p2 5).C],26,true⟩,⟨(p1 3).N,#[.slice (p2 5).A' (p2 5).N' (p2 5).C'],26,true⟩]
 replace hG:GsAt (gM W1.heap.size (p2 5).A (p2 5).N (p2 5).C v :: gM W1.heap.size (p2 5).A' (p2 5).N' (p2 5).C' u :: _) W2:=⟨And.left (hF.fx 5),And.right (hF.fx 5),hF.gx⟩
 clear hF
 refine wp_ret ?_
 exact sym_end hS hK (.tuple #[.agg #[.slice (p2 5).A (p2 5).N (p2 5).C],.agg #[.slice (p2 5).A' (p2 5).N' (p2 5).C']]) [(1,0,1),(2,0,1)] [.slice (p2 5).A (p2 5).N (p2 5).C,.slice (p2 5).A' (p2 5).N' (p2 5).C'] (by kernel_rfl) (by kernel_rfl) ⟨⟨_,_,_,_,_,_,rfl,Mine.mono hG.1 z1,Mine.mono hG.2.1 z1⟩,hS.fr⟩
theorem zcmp (w:World) (p:Nat) (a1 a2:Option Addr) (n1 n2 c1 c2 x y:Nat) (r:Int) (hR:Rz w p 0) (h1:Num w a1 n1 x) (h2:Num w a2 n2 y) (H:Hid (∀ (W:World) (a:Option Addr) (n c:Nat) (a':Option Addr) (n' c':Nat),Num W a n x→Num W a' n' y→Calls Tryz.prog 34 #[.agg #[.slice a n c],.agg #[.slice a' n' c']] W fun en W'=>en = .returned (.tuple #[.int .i64 r,.int .i64 0])∧Below W.heap.size W W')) :
  Calls Tryz.prog 63 #[.pointer (some ⟨p,0,none⟩),.agg #[.slice a1 n1 c1],.agg #[.slice a2 n2 c2]] w fun en w'=>en = .returned (.int .i64 r)∧Below w.heap.size w w':=by
 obtain ⟨cs9,t9_,hp,hp0⟩:=hR
 refine calls_sym Tryz.func63 rfl (by kernel_rfl) fun T hK=>?_
 replace hK:Kn T _ [(0,.pointer (some ⟨p,0,none⟩)),(1,.agg #[.slice a1 n1 c1]),(2,.agg #[.slice a2 n2 c2])]:=hK
 have hS:=Fb.other hp
 have hG:GsAt [gN a1 n1 x,gN a2 n2 y] w:=⟨h1,h2,trivial⟩
 refine wq hS hG hK (fun p1=>[.n 4 #[.slice a1 n1 c1] 26,.n 5 #[.slice a2 n2 c2] 26,.v 6 (.int .i64 0)]) (fun p1=>[(0,.pointer (some ⟨p,0,none⟩)),(4,pT (p1 0).N 0),(5,pT (p1 1).N 0),(6,.int .i64 0)]) (fun p1=>?_) (fun p1 W1 T hF hK=>?_)
 ·iterate 2 refine okn ?_
  refine okv ?_
  exact ok_nil
 replace hS:=SymF.fc hS hF [0,1000,1001] [⟨p,cs9,t9_,false⟩,⟨(p1 0).N,#[.slice a1 n1 c1],26,true⟩,⟨(p1 1).N,#[.slice a2 n2 c2],26,true⟩]
 replace hG:=hF.gx
 clear hF
 refine wq hS hG hK (fun p2=>[.v 7 (.pointer (some ⟨p,0,none⟩)),.v 8 (.pointer (some ⟨p,0,none⟩)),.v 9 (.pointer (some ⟨p,0,none⟩)),.l 10 (.agg #[.slice a1 n1 c1]) 1 0,.l 11 (.agg #[.slice a2 n2 c2]) 2 0,.c (some 12) (cV (.tuple #[.int .i64 r,.int .i64 0])),.v 13 (.int .i64 r),.v 14 (.int .i64 0),.u 15 (.int .i64 r) (aG 1),.v 6 (.int .i64 r)]) (fun p2=>[(6,.int .i64 r)]) (fun p2=>?_) (fun p2 W2 T hF hK=>?_)
 ·iterate 3 refine okv ?_
  iterate 2 refine okl ?_
  refine okc (fun W cx=>as_v (unhide H _ _ _ c1 _ _ c2 (cx.G.1) (cx.G.2.1))) ?_
  iterate 2 refine okv ?_
  refine oku (fun W cx=>runInt_z p 0 _ _ ⟨_,_,cx.B 0 _ rfl (by kernel_rfl) (by kernel_rfl),hp0⟩) ?_
  refine okv ?_
  exact ok_nil
 obtain ⟨hS,hG⟩:=SymF.fg hS hF
 clear hF
 refine wp_ret ?_
 exact sym_end hS hK (.int .i64 r) [] [] (by kernel_rfl) (by kernel_rfl) ⟨rfl,hS.fr⟩
theorem zover (w:World) (p:Nat) (a1 a2:Option Addr) (n1 n2 c1 c2 x y v u:Nat) (hR:Rz w p 0) (h1:Num w a1 n1 x) (h2:Num w a2 n2 y) (H:Hid (WDiv p x y v u))  :
  Calls Tryz.prog 47 #[.pointer (some ⟨p,0,none⟩),.agg #[.slice a1 n1 c1],.agg #[.slice a2 n2 c2]] w fun en w'=>(∃ A N C,en = .returned (.agg #[.slice A N C])∧Mine w' w.heap.size A N C v)∧Below w.heap.size w w':=by
 obtain ⟨cs9,t9_,hp,hp0⟩:=hR
 refine calls_sym Tryz.func47 rfl (by kernel_rfl) fun T hK=>?_
 replace hK:Kn T _ [(0,.pointer (some ⟨p,0,none⟩)),(1,.agg #[.slice a1 n1 c1]),(2,.agg #[.slice a2 n2 c2])]:=hK
 have hS:=Fb.other hp
 have hG:GsAt [gN a1 n1 x,gN a2 n2 y] w:=⟨h1,h2,trivial⟩
 refine wq hS hG hK (fun p1=>[.n 4 #[.slice a1 n1 c1] 26,.n 5 #[.slice a2 n2 c2] 26,.n 6 #[.slice none 0 0] 26]) (fun p1=>[(0,.pointer (some ⟨p,0,none⟩)),(4,pT (p1 0).N 0),(5,pT (p1 1).N 0),(6,pT (p1 2).N 0)]) (fun p1=>?_) (fun p1 W1 T hF hK=>?_)
 ·iterate 3 refine okn ?_
  exact ok_nil
 replace hS:=SymF.fc hS hF [0,1000,1001,1002] [⟨p,cs9,t9_,false⟩,⟨(p1 0).N,#[.slice a1 n1 c1],26,true⟩,⟨(p1 1).N,#[.slice a2 n2 c2],26,true⟩,⟨(p1 2).N,#[.slice none 0 0],26,true⟩]
 replace hG:=hF.gx
 clear hF
 have z1:=hS.fr.size
 refine wq hS hG hK (fun p2=>[.v 10 (.pointer (some ⟨p,0,none⟩)),.l 11 (.agg #[.slice a1 n1 c1]) 1 0,.l 12 (.agg #[.slice a2 n2 c2]) 2 0,.c (some 13) (cH W1.heap.size v u fun x9 y9=>.tuple #[.agg #[x9],.agg #[y9]]),.v 9 (.tuple #[.agg #[.slice (p2 3).A (p2 3).N (p2 3).C],.agg #[.slice (p2 3).A' (p2 3).N' (p2 3).C']]),.v 14 (.agg #[.slice (p2 3).A (p2 3).N (p2 3).C]),.v 15 (.agg #[.slice (p2 3).A' (p2 3).N' (p2 3).C']),.n 7 #[.slice none 0 0] 26,.n 8 #[.slice none 0 0] 26,.p 1007 0 [.slice (p2 3).A (p2 3).N (p2 3).C],.p 1008 0 [.slice (p2 3).A' (p2 3).N' (p2 3).C']]) (fun p2=>[(6,pT (p1 2).N 0),(7,pT (p2 7).N 0)]) (fun p2=>?_) (fun p2 W2 T hF hK=>?_)
 ·refine okv ?_
  iterate 2 refine okl ?_
  refine okc (fun W cx=>as_h cx.hb (unhide H _ _ _ c1 _ _ c2 ⟨_,_,cx.B 0 _ rfl (by kernel_rfl) (by kernel_rfl),hp0⟩ (cx.G.1) (cx.G.2.1))) ?_
  iterate 3 refine okv ?_
  iterate 2 refine okn ?_
  iterate 2 refine okp ?_
  exact ok_nil
 replace hS:=SymF.fc hS hF [0,3,1007] [⟨p,cs9,t9_,false⟩,⟨(p1 2).N,#[.slice none 0 0],26,true⟩,⟨(p2 7).N,#[.slice (p2 3).A (p2 3).N (p2 3).C],26,true⟩]
 replace hG:GsAt (gM W1.heap.size (p2 3).A (p2 3).N (p2 3).C v :: gM W1.heap.size (p2 3).A' (p2 3).N' (p2 3).C' u :: _) W2:=⟨And.left (hF.fx 3),And.right (hF.fx 3),hF.gx⟩
 clear hF
 refine wq hS hG hK (fun p3=>[.l 16 (.agg #[.slice (p2 3).A (p2 3).N (p2 3).C]) 2 0,.p 1 0 [.slice (p2 3).A (p2 3).N (p2 3).C]]) (fun p3=>[(6,pT (p1 2).N 0)]) (fun p3=>?_) (fun p3 W3 T hF hK=>?_)
 ·refine okl ?_
  refine okp ?_
  exact ok_nil
 replace hS:=SymF.fc hS hF [0,1] [⟨p,cs9,t9_,false⟩,⟨(p1 2).N,#[.slice (p2 3).A (p2 3).N (p2 3).C],26,true⟩]
 replace hG:=hF.gx
 clear hF
 refine wp_ret ?_
 exact sym_end hS hK (.agg #[.slice (p2 3).A (p2 3).N (p2 3).C]) [(1,0,1)] [.slice (p2 3).A (p2 3).N (p2 3).C] (by kernel_rfl) (by kernel_rfl) ⟨⟨_,_,_,rfl,Mine.mono hG.1 z1⟩,hS.fr⟩
theorem zmo (w:World) (p:Nat) (a1 a2 a3:Option Addr) (n1 n2 n3 c1 c2 c3 x y z h l t q r u s:Nat) (hR:Rz w p 0) (h1:Num w a1 n1 x) (h2:Num w a2 n2 y) (h3:Num w a3 n3 z) (H1:Hid (WDiv p x z h l)) (H2:Hid (WTwo 62 p l y t)) (H3:Hid (WDiv p t z q r)) (H4:Hid (WTwo 62 p h y u)) (H5:Hid (WTwo 135 p u q s))  :
  Calls Tryz.prog 150 #[.pointer (some ⟨p,0,none⟩),.agg #[.slice a1 n1 c1],.agg #[.slice a2 n2 c2],.agg #[.slice a3 n3 c3]] w fun en w'=>(∃ A N C A' N' C',en = .returned (.tuple #[.agg #[.slice A N C],.agg #[.slice A' N' C']])∧Mine w' w.heap.size A N C s∧Mine w' w.heap.size A' N' C' r)∧Below w.heap.size w w':=by
 obtain ⟨cs9,t9_,hp,hp0⟩:=hR
 refine calls_sym Tryz.func150 rfl (by kernel_rfl) fun T hK=>?_
 replace hK:Kn T _ [(0,.pointer (some ⟨p,0,none⟩)),(1,.agg #[.slice a1 n1 c1]),(2,.agg #[.slice a2 n2 c2]),(3,.agg #[.slice a3 n3 c3])]:=hK
 have hS:=Fb.other hp
 have hG:GsAt [gN a1 n1 x,gN a2 n2 y,gN a3 n3 z] w:=⟨h1,h2,h3,trivial⟩
 refine wq hS hG hK (fun p1=>[.n 5 #[.slice a1 n1 c1] 26,.n 6 #[.slice a2 n2 c2] 26,.n 7 #[.slice a3 n3 c3] 26,.n 8 #[.slice none 0 0] 26,.n 9 #[.slice none 0 0] 26]) (fun p1=>[(0,.pointer (some ⟨p,0,none⟩)),(5,pT (p1 0).N 0),(6,pT (p1 1).N 0),(7,pT (p1 2).N 0),(8,pT (p1 3).N 0),(9,pT (p1 4).N 0)]) (fun p1=>?_) (fun p1 W1 T hF hK=>?_)
 ·iterate 5 refine okn ?_
  exact ok_nil
 replace hS:=SymF.fc hS hF [0,1000,1001,1002,1003,1004] [⟨p,cs9,t9_,false⟩,⟨(p1 0).N,#[.slice a1 n1 c1],26,true⟩,⟨(p1 1).N,#[.slice a2 n2 c2],26,true⟩,⟨(p1 2).N,#[.slice a3 n3 c3],26,true⟩,⟨(p1 3).N,#[.slice none 0 0],26,true⟩,⟨(p1 4).N,#[.slice none 0 0],26,true⟩]
 replace hG:=hF.gx
 clear hF
 refine wq hS hG hK (fun p2=>[.v 13 (.pointer (some ⟨p,0,none⟩)),.l 14 (.agg #[.slice a1 n1 c1]) 1 0,.l 15 (.agg #[.slice a3 n3 c3]) 3 0,.c (some 16) (cH W1.heap.size h l fun x9 y9=>.tuple #[.agg #[x9],.agg #[y9]]),.v 12 (.tuple #[.agg #[.slice (p2 3).A (p2 3).N (p2 3).C],.agg #[.slice (p2 3).A' (p2 3).N' (p2 3).C']]),.v 17 (.agg #[.slice (p2 3).A (p2 3).N (p2 3).C]),.v 18 (.agg #[.slice (p2 3).A' (p2 3).N' (p2 3).C']),.n 10 #[.slice none 0 0] 26,.n 11 #[.slice none 0 0] 26,.p 1007 0 [.slice (p2 3).A (p2 3).N (p2 3).C],.p 1008 0 [.slice (p2 3).A' (p2 3).N' (p2 3).C']]) (fun p2=>[(0,.pointer (some ⟨p,0,none⟩)),(6,pT (p1 1).N 0),(7,pT (p1 2).N 0),(8,pT (p1 3).N 0),(9,pT (p1 4).N 0),(10,pT (p2 7).N 0),(11,pT (p2 8).N 0)]) (fun p2=>?_) (fun p2 W2 T hF hK=>?_)
 ·refine okv ?_
  iterate 2 refine okl ?_
  refine okc (fun W cx=>as_h cx.hb (unhide H1 _ _ _ c1 _ _ c3 ⟨_,_,cx.B 0 _ rfl (by kernel_rfl) (by kernel_rfl),hp0⟩ (cx.G.1) (cx.G.2.2.1))) ?_
  iterate 3 refine okv ?_
  iterate 2 refine okn ?_
  iterate 2 refine okp ?_
  exact ok_nil
 replace hS:=SymF.fc hS hF [0,2,3,4,5,1007,1008] [⟨p,cs9,t9_,false⟩,⟨(p1 1).N,#[.slice a2 n2 c2],26,true⟩,⟨(p1 2).N,#[.slice a3 n3 c3],26,true⟩,⟨(p1 3).N,#[.slice none 0 0],26,true⟩,⟨(p1 4).N,#[.slice none 0 0],26,true⟩,⟨(p2 7).N,#[.slice (p2 3).A (p2 3).N (p2 3).C],26,true⟩,⟨(p2 8).N,#[.slice (p2 3).A' (p2 3).N' (p2 3).C'],26,true⟩]
 replace hG:GsAt (gM W1.heap.size (p2 3).A (p2 3).N (p2 3).C h :: gM W1.heap.size (p2 3).A' (p2 3).N' (p2 3).C' l :: _) W2:=⟨And.left (hF.fx 3),And.right (hF.fx 3),hF.gx⟩
 clear hF
 have z2:=hS.fr.size
 refine wq hS hG hK (fun p3=>[.v 20 (.pointer (some ⟨p,0,none⟩)),.v 21 (.pointer (some ⟨p,0,none⟩)),.l 22 (.agg #[.slice (p2 3).A' (p2 3).N' (p2 3).C']) 6 0,.l 23 (.agg #[.slice a2 n2 c2]) 1 0,.c (some 24) (cN W2.heap.size t),.l 25 (.agg #[.slice a3 n3 c3]) 2 0,.c (some 26) (cH W2.heap.size q r fun x9 y9=>.tuple #[.agg #[x9],.agg #[y9]]),.v 19 (.tuple #[.agg #[.slice (p3 6).A (p3 6).N (p3 6).C],.agg #[.slice (p3 6).A' (p3 6).N' (p3 6).C']]),.v 27 (.agg #[.slice (p3 6).A (p3 6).N (p3 6).C]),.v 28 (.agg #[.slice (p3 6).A' (p3 6).N' (p3 6).C']),.p 3 0 [.slice (p3 6).A (p3 6).N (p3 6).C],.p 4 0 [.slice (p3 6).A' (p3 6).N' (p3 6).C']]) (fun p3=>[(0,.pointer (some ⟨p,0,none⟩)),(6,pT (p1 1).N 0),(8,pT (p1 3).N 0),(9,pT (p1 4).N 0),(10,pT (p2 7).N 0)]) (fun p3=>?_) (fun p3 W3 T hF hK=>?_)
 ·iterate 2 refine okv ?_
  iterate 2 refine okl ?_
  refine okc (fun W cx=>as_n cx.hb (unhide H2 _ _ _ (p2 3).C' _ _ c2 ⟨_,_,cx.B 0 _ rfl (by kernel_rfl) (by kernel_rfl),hp0⟩ (Mine.num cx.G.2.1) (cx.G.2.2.2.1))) ?_
  refine okl ?_
  refine okc (fun W cx=>as_h cx.hb (unhide H3 _ _ _ (p3 4).C _ _ c3 ⟨_,_,cx.B 0 _ rfl (by kernel_rfl) (by kernel_rfl),hp0⟩ (Mine.num (cx.F 4 (by kernel_rfl))) (cx.G.2.2.2.2.1))) ?_
  iterate 3 refine okv ?_
  iterate 2 refine okp ?_
  exact ok_nil
 replace hS:=SymF.fc hS hF [0,1,3,4,5] [⟨p,cs9,t9_,false⟩,⟨(p1 1).N,#[.slice a2 n2 c2],26,true⟩,⟨(p1 3).N,#[.slice (p3 6).A (p3 6).N (p3 6).C],26,true⟩,⟨(p1 4).N,#[.slice (p3 6).A' (p3 6).N' (p3 6).C'],26,true⟩,⟨(p2 7).N,#[.slice (p2 3).A (p2 3).N (p2 3).C],26,true⟩]
 replace hG:GsAt (gM W2.heap.size (p3 4).A (p3 4).N (p3 4).C t :: gM W2.heap.size (p3 6).A (p3 6).N (p3 6).C q :: gM W2.heap.size (p3 6).A' (p3 6).N' (p3 6).C' r :: _) W3:=⟨hF.fx 4,And.left (hF.fx 6),And.right (hF.fx 6),hF.gx⟩
 clear hF
 have z3:=hS.fr.size
 refine wq hS hG hK (fun p4=>[.v 29 (.pointer (some ⟨p,0,none⟩)),.v 30 (.pointer (some ⟨p,0,none⟩)),.l 31 (.agg #[.slice (p2 3).A (p2 3).N (p2 3).C]) 4 0,.l 32 (.agg #[.slice a2 n2 c2]) 1 0,.c (some 33) (cN W3.heap.size u),.l 34 (.agg #[.slice (p3 6).A (p3 6).N (p3 6).C]) 2 0,.c (some 35) (cN W3.heap.size s),.l 36 (.agg #[.slice (p3 6).A' (p3 6).N' (p3 6).C']) 3 0,.p 2 0 [.slice (p4 6).A (p4 6).N (p4 6).C],.p 3 0 [.slice (p3 6).A' (p3 6).N' (p3 6).C']]) (fun p4=>[(8,pT (p1 3).N 0),(9,pT (p1 4).N 0)]) (fun p4=>?_) (fun p4 W4 T hF hK=>?_)
 ·iterate 2 refine okv ?_
  iterate 2 refine okl ?_
  refine okc (fun W cx=>as_n cx.hb (unhide H4 _ _ _ (p2 3).C _ _ c2 ⟨_,_,cx.B 0 _ rfl (by kernel_rfl) (by kernel_rfl),hp0⟩ (Mine.num cx.G.2.2.2.1) (cx.G.2.2.2.2.2.2.1))) ?_
  refine okl ?_
  refine okc (fun W cx=>as_n cx.hb (unhide H5 _ _ _ (p4 4).C _ _ (p3 6).C ⟨_,_,cx.B 0 _ rfl (by kernel_rfl) (by kernel_rfl),hp0⟩ (Mine.num (cx.F 4 (by kernel_rfl))) (Mine.num cx.G.2.1))) ?_
  refine okl ?_
  iterate 2 refine okp ?_
  exact ok_nil
 replace hS:=SymF.fc hS hF [0,2,3] [⟨p,cs9,t9_,false⟩,⟨(p1 3).N,#[.slice (p4 6).A (p4 6).N (p4 6).C],26,true⟩,⟨(p1 4).N,#[.slice (p3 6).A' (p3 6).N' (p3 6).C'],26,true⟩]
 replace hG:GsAt (gM W3.heap.size (p4 4).A (p4 4).N (p4 4).C u :: gM W3.heap.size (p4 6).A (p4 6).N (p4 6).C s :: _) W4:=⟨hF.fx 4,hF.fx 6,hF.gx⟩
 clear hF
 refine wp_ret ?_
 exact sym_end hS hK (.tuple #[.agg #[.slice (p4 6).A (p4 6).N (p4 6).C],.agg #[.slice (p3 6).A' (p3 6).N' (p3 6).C']]) [(1,0,1),(2,0,1)] [.slice (p4 6).A (p4 6).N (p4 6).C,.slice (p3 6).A' (p3 6).N' (p3 6).C'] (by kernel_rfl) (by kernel_rfl) ⟨⟨_,_,_,_,_,_,rfl,Mine.mono hG.2.1 z3,Mine.mono hG.2.2.2.2.1 z2⟩,hS.fr⟩
theorem zdist_lt (w:World) (p:Nat) (a1 a2:Option Addr) (n1 n2 c1 c2 x y v:Nat) (r:Int) (hR:Rz w p 0) (h1:Num w a1 n1 x) (h2:Num w a2 n2 y) (H1:Hid (WCmp p x y r)) (hr:r < 0) (H2:Hid (WTwo 141 p y x v))  :
  Calls Tryz.prog 151 #[.pointer (some ⟨p,0,none⟩),.agg #[.slice a1 n1 c1],.agg #[.slice a2 n2 c2]] w fun en w'=>(∃ A N C,en = .returned (.agg #[.slice A N C])∧Mine w' w.heap.size A N C v)∧Below w.heap.size w w':=by
 obtain ⟨cs9,t9_,hp,hp0⟩:=hR
 refine calls_sym Tryz.func151 rfl (by kernel_rfl) fun T hK=>?_
 replace hK:Kn T _ [(0,.pointer (some ⟨p,0,none⟩)),(1,.agg #[.slice a1 n1 c1]),(2,.agg #[.slice a2 n2 c2])]:=hK
 have hS:=Fb.other hp
 have hG:GsAt [gN a1 n1 x,gN a2 n2 y] w:=⟨h1,h2,trivial⟩
 refine wq hS hG hK (fun p1=>[.n 4 #[.slice a1 n1 c1] 26,.n 5 #[.slice a2 n2 c2] 26,.n 6 #[.slice none 0 0] 26]) (fun p1=>[(0,.pointer (some ⟨p,0,none⟩)),(4,pT (p1 0).N 0),(5,pT (p1 1).N 0),(6,pT (p1 2).N 0)]) (fun p1=>?_) (fun p1 W1 T hF hK=>?_)
 ·iterate 3 refine okn ?_
  exact ok_nil
 replace hS:=SymF.fc hS hF [0,1000,1001,1002] [⟨p,cs9,t9_,false⟩,⟨(p1 0).N,#[.slice a1 n1 c1],26,true⟩,⟨(p1 1).N,#[.slice a2 n2 c2],26,true⟩,⟨(p1 2).N,#[.slice none 0 0],26,true⟩]
 replace hG:=hF.gx
 clear hF
 refine wp_seq ?_
 refine wq hS hG hK (fun p2=>[.v 7 (.pointer (some ⟨p,0,none⟩)),.l 8 (.agg #[.slice a1 n1 c1]) 1 0,.l 9 (.agg #[.slice a2 n2 c2]) 2 0,.c (some 10) (cV (.int .i64 r)),.v 11 (.bool true)]) (fun p2=>[(0,.pointer (some ⟨p,0,none⟩)),(4,pT (p1 0).N 0),(5,pT (p1 1).N 0),(6,pT (p1 2).N 0),(11,.bool true)]) (fun p2=>?_) (fun p2 W2 T hF hK=>?_)
 ·refine okv ?_
  iterate 2 refine okl ?_
  refine okc (fun W cx=>as_v (unhide H1 _ _ _ c1 _ _ c2 ⟨_,_,cx.B 0 _ rfl (by kernel_rfl) (by kernel_rfl),hp0⟩ (cx.G.1) (cx.G.2.1))) ?_
  refine okvb (decide_eq_true (show r < 0 by omega)) ?_
  exact ok_nil
 obtain ⟨hS,hG⟩:=SymF.fg hS hF
 clear hF
 refine wp_cond_true (hK.ew 11) ?_
 refine wg hS hG hK (fun p3=>[.l 12 (.agg #[.slice a2 n2 c2]) 2 0,.l 13 (.agg #[.slice a1 n1 c1]) 1 0,.p 1 0 [.slice a2 n2 c2],.p 2 0 [.slice a1 n1 c1]]) (fun p3=>[(0,.pointer (some ⟨p,0,none⟩)),(4,pT (p1 0).N 0),(5,pT (p1 1).N 0),(6,pT (p1 2).N 0)]) (fun p3=>?_) (fun p3 W3 T hF hK=>?_)
 ·iterate 2 refine okl ?_
  iterate 2 refine okp ?_
  exact ok_nil
 replace hS:=SymF.fc hS hF [0,1,2,3] [⟨p,cs9,t9_,false⟩,⟨(p1 0).N,#[.slice a2 n2 c2],26,true⟩,⟨(p1 1).N,#[.slice a1 n1 c1],26,true⟩,⟨(p1 2).N,#[.slice none 0 0],26,true⟩]
 replace hG:=hF.gx
 clear hF
 have z3:=hS.fr.size
 refine then_n ?_
 refine wq hS hG hK (fun p4=>[.v 14 (.pointer (some ⟨p,0,none⟩)),.l 15 (.agg #[.slice a2 n2 c2]) 1 0,.l 16 (.agg #[.slice a1 n1 c1]) 2 0,.c (some 17) (cN W3.heap.size v),.p 3 0 [.slice (p4 3).A (p4 3).N (p4 3).C]]) (fun p4=>[(6,pT (p1 2).N 0)]) (fun p4=>?_) (fun p4 W4 T hF hK=>?_)
 ·refine okv ?_
  iterate 2 refine okl ?_
  refine okc (fun W cx=>as_n cx.hb (unhide H2 _ _ _ c2 _ _ c1 ⟨_,_,cx.B 0 _ rfl (by kernel_rfl) (by kernel_rfl),hp0⟩ (cx.G.2.1) (cx.G.1))) ?_
  refine okp ?_
  exact ok_nil
 replace hS:=SymF.fc hS hF [0,3] [⟨p,cs9,t9_,false⟩,⟨(p1 2).N,#[.slice (p4 3).A (p4 3).N (p4 3).C],26,true⟩]
 replace hG:GsAt (gM W3.heap.size (p4 3).A (p4 3).N (p4 3).C v :: _) W4:=⟨hF.fx 3,hF.gx⟩
 clear hF
 refine wp_ret ?_
 exact sym_end hS hK (.agg #[.slice (p4 3).A (p4 3).N (p4 3).C]) [(1,0,1)] [.slice (p4 3).A (p4 3).N (p4 3).C] (by kernel_rfl) (by kernel_rfl) ⟨⟨_,_,_,rfl,Mine.mono hG.1 z3⟩,hS.fr⟩
theorem zdist_ge (w:World) (p:Nat) (a1 a2:Option Addr) (n1 n2 c1 c2 x y v:Nat) (r:Int) (hR:Rz w p 0) (h1:Num w a1 n1 x) (h2:Num w a2 n2 y) (H1:Hid (WCmp p x y r)) (hr:0≤r) (H2:Hid (WTwo 141 p x y v))  :
  Calls Tryz.prog 151 #[.pointer (some ⟨p,0,none⟩),.agg #[.slice a1 n1 c1],.agg #[.slice a2 n2 c2]] w fun en w'=>(∃ A N C,en = .returned (.agg #[.slice A N C])∧Mine w' w.heap.size A N C v)∧Below w.heap.size w w':=by
 obtain ⟨cs9,t9_,hp,hp0⟩:=hR
 refine calls_sym Tryz.func151 rfl (by kernel_rfl) fun T hK=>?_
 replace hK:Kn T _ [(0,.pointer (some ⟨p,0,none⟩)),(1,.agg #[.slice a1 n1 c1]),(2,.agg #[.slice a2 n2 c2])]:=hK
 have hS:=Fb.other hp
 have hG:GsAt [gN a1 n1 x,gN a2 n2 y] w:=⟨h1,h2,trivial⟩
 refine wq hS hG hK (fun p1=>[.n 4 #[.slice a1 n1 c1] 26,.n 5 #[.slice a2 n2 c2] 26,.n 6 #[.slice none 0 0] 26]) (fun p1=>[(0,.pointer (some ⟨p,0,none⟩)),(4,pT (p1 0).N 0),(5,pT (p1 1).N 0),(6,pT (p1 2).N 0)]) (fun p1=>?_) (fun p1 W1 T hF hK=>?_)
 ·iterate 3 refine okn ?_
  exact ok_nil
 replace hS:=SymF.fc hS hF [0,1000,1001,1002] [⟨p,cs9,t9_,false⟩,⟨(p1 0).N,#[.slice a1 n1 c1],26,true⟩,⟨(p1 1).N,#[.slice a2 n2 c2],26,true⟩,⟨(p1 2).N,#[.slice none 0 0],26,true⟩]
 replace hG:=hF.gx
 clear hF
 refine wp_seq ?_
 refine wq hS hG hK (fun p2=>[.v 7 (.pointer (some ⟨p,0,none⟩)),.l 8 (.agg #[.slice a1 n1 c1]) 1 0,.l 9 (.agg #[.slice a2 n2 c2]) 2 0,.c (some 10) (cV (.int .i64 r)),.v 11 (.bool false)]) (fun p2=>[(0,.pointer (some ⟨p,0,none⟩)),(4,pT (p1 0).N 0),(5,pT (p1 1).N 0),(6,pT (p1 2).N 0),(11,.bool false)]) (fun p2=>?_) (fun p2 W2 T hF hK=>?_)
 ·refine okv ?_
  iterate 2 refine okl ?_
  refine okc (fun W cx=>as_v (unhide H1 _ _ _ c1 _ _ c2 ⟨_,_,cx.B 0 _ rfl (by kernel_rfl) (by kernel_rfl),hp0⟩ (cx.G.1) (cx.G.2.1))) ?_
  refine okvb (decide_eq_false (show ¬ r < 0 by omega)) ?_
  exact ok_nil
 obtain ⟨hS,hG⟩:=SymF.fg hS hF
 clear hF
 have z2:=hS.fr.size
 refine wp_cond_false (hK.ew 11) (wp_skip (then_n ?_))
 refine wq hS hG hK (fun p3=>[.v 14 (.pointer (some ⟨p,0,none⟩)),.l 15 (.agg #[.slice a1 n1 c1]) 1 0,.l 16 (.agg #[.slice a2 n2 c2]) 2 0,.c (some 17) (cN W2.heap.size v),.p 3 0 [.slice (p3 3).A (p3 3).N (p3 3).C]]) (fun p3=>[(4,pT (p1 0).N 0),(5,pT (p1 1).N 0),(6,pT (p1 2).N 0)]) (fun p3=>?_) (fun p3 W3 T hF hK=>?_)
 ·refine okv ?_
  iterate 2 refine okl ?_
  refine okc (fun W cx=>as_n cx.hb (unhide H2 _ _ _ c1 _ _ c2 ⟨_,_,cx.B 0 _ rfl (by kernel_rfl) (by kernel_rfl),hp0⟩ (cx.G.1) (cx.G.2.1))) ?_
  refine okp ?_
  exact ok_nil
 replace hS:=SymF.fc hS hF [0,1,2,3] [⟨p,cs9,t9_,false⟩,⟨(p1 0).N,#[.slice a1 n1 c1],26,true⟩,⟨(p1 1).N,#[.slice a2 n2 c2],26,true⟩,⟨(p1 2).N,#[.slice (p3 3).A (p3 3).N (p3 3).C],26,true⟩]
 replace hG:GsAt (gM W2.heap.size (p3 3).A (p3 3).N (p3 3).C v :: _) W3:=⟨hF.fx 3,hF.gx⟩
 clear hF
 refine wp_ret ?_
 exact sym_end hS hK (.agg #[.slice (p3 3).A (p3 3).N (p3 3).C]) [(3,0,1)] [.slice (p3 3).A (p3 3).N (p3 3).C] (by kernel_rfl) (by kernel_rfl) ⟨⟨_,_,_,rfl,Mine.mono hG.1 z2⟩,hS.fr⟩
theorem znou_t (w:World) (a:Option Addr) (n c:Nat) (hn:n = 0) :
  Calls Tryz.prog 44 #[.agg #[.slice a n c]] w fun en w'=>en = .returned (.bool true)∧Below w.heap.size w w':=by
 refine calls_sym Tryz.func44 rfl (by kernel_rfl) fun T hK=>?_
 replace hK:Kn T _ [(0,.agg #[.slice a n c])]:=hK
 have hS:=Fb.begin w
 have hG:GsAt [] w:=trivial
 refine wq hS hG hK (fun p1=>[.n 1 #[.slice a n c] 26,.v 2 (.bool false)]) (fun p1=>[(1,pT (p1 0).N 0),(2,.bool false)]) (fun p1=>?_) (fun p1 W1 T hF hK=>?_)
 ·refine okn ?_
  refine okv ?_
  exact ok_nil
 replace hS:=SymF.fc hS hF [1000] [⟨(p1 0).N,#[.slice a n c],26,true⟩]
 replace hG:=hF.gx
 clear hF
 refine wq hS hG hK (fun p2=>[.v 3 (pT (p1 0).N 0),.l 4 (.slice a n c) 0 0,.v 5 (.int .i64 (n:Int)),.v 6 (.bool true),.v 2 (.bool true)]) (fun p2=>[(2,.bool true)]) (fun p2=>?_) (fun p2 W2 T hF hK=>?_)
 ·refine okv ?_
  refine okl ?_
  refine okv ?_
  refine okvb (beq_iff_eq.2 (show (n:Int) = 0 by omega)) ?_
  refine okv ?_
  exact ok_nil
 replace hS:=SymF.fc hS hF [] []
 replace hG:=hF.gx
 clear hF
 refine wp_ret ?_
 exact sym_end hS hK (.bool true) [] [] (by kernel_rfl) (by kernel_rfl) ⟨rfl,hS.fr⟩
theorem znou_f (w:World) (a:Option Addr) (n c:Nat) (hn:n≠0) :
  Calls Tryz.prog 44 #[.agg #[.slice a n c]] w fun en w'=>en = .returned (.bool false)∧Below w.heap.size w w':=by
 refine calls_sym Tryz.func44 rfl (by kernel_rfl) fun T hK=>?_
 replace hK:Kn T _ [(0,.agg #[.slice a n c])]:=hK
 have hS:=Fb.begin w
 have hG:GsAt [] w:=trivial
 refine wq hS hG hK (fun p1=>[.n 1 #[.slice a n c] 26,.v 2 (.bool false)]) (fun p1=>[(1,pT (p1 0).N 0),(2,.bool false)]) (fun p1=>?_) (fun p1 W1 T hF hK=>?_)
 ·refine okn ?_
  refine okv ?_
  exact ok_nil
 replace hS:=SymF.fc hS hF [1000] [⟨(p1 0).N,#[.slice a n c],26,true⟩]
 replace hG:=hF.gx
 clear hF
 refine wq hS hG hK (fun p2=>[.v 3 (pT (p1 0).N 0),.l 4 (.slice a n c) 0 0,.v 5 (.int .i64 (n:Int)),.v 6 (.bool false),.v 2 (.bool false)]) (fun p2=>[(2,.bool false)]) (fun p2=>?_) (fun p2 W2 T hF hK=>?_)
 ·refine okv ?_
  refine okl ?_
  refine okv ?_
  refine okvb (beq_false_of_ne (show (n:Int)≠0 by omega)) ?_
  refine okv ?_
  exact ok_nil
 replace hS:=SymF.fc hS hF [] []
 replace hG:=hF.gx
 clear hF
 refine wp_ret ?_
 exact sym_end hS hK (.bool false) [] [] (by kernel_rfl) (by kernel_rfl) ⟨rfl,hS.fr⟩
theorem znought (a:Option Addr) (n cap:Nat) (w:World) (b:Bool) (h:decide (n = 0) = b):Calls Tryz.prog 44 #[.agg #[.slice a n cap]] w fun e w'=>e = .returned (.bool b)∧Below w.heap.size w w':=by
 subst h
 by_cases hn:n = 0
 ·rw [decide_eq_true hn]; exact znou_t w a n cap hn
 ·rw [decide_eq_false hn]; exact znou_f w a n cap hn
theorem Num.zdec {w:World} {a:Option Addr} {n m:Nat} (h:Num w a n m):decide (n = 0) = decide (m = 0):=by
 by_cases hm:m = 0
 ·rw [decide_eq_true hm,decide_eq_true (h.zero.2 hm)]
 ·rw [decide_eq_false hm,decide_eq_false fun e=>hm (h.zero.1 e)]
theorem zspl_s (w:World) (p:Nat) (a1 a2 a3 a4:Option Addr) (n1 n2 n3 n4 c1 c2 c3 c4 m1 d1 m2 d2:Nat) (s b:Bool) (wa ra wb rb g ta tb q1 le q2 ri rj di lo e dn pa br pb bs:Nat) (hR:Rz w p 0) (h1:Num w a1 n1 m1) (h2:Num w a2 n2 d1) (h3:Num w a3 n3 m2) (h4:Num w a4 n4 d2) (H1:Hid (WDiv p m1 d1 wa ra)) (H2:Hid (WDiv p m2 d2 wb rb)) (H3:Hid (WTwo 45 p d1 d2 g)) (H4:Hid (WTwo 47 p d2 g ta)) (H5:Hid (WTwo 47 p d1 g tb)) (H6:Hid (WMo p ra ta g q1 le)) (H7:Hid (WMo p rb tb g q2 ri)) (H8:Hid (WTwo 141 p g ri rj)) (H9:Hid (WTwo 151 p le rj di)) (HA:Hid (WTwo 45 p di g lo)) (HB:Hid (WTwo 47 p d2 lo e)) (HC:Hid (WTwo 62 p tb e dn)) (HD:Hid (WMo p ra ta lo pa br)) (HE:Hid (WMo p rb tb lo pb bs)) (hz:decide (br = 0) = b)  :
  Calls Tryz.prog 139 #[.pointer (some ⟨p,0,none⟩),.agg #[.bool s,.slice a1 n1 c1,.slice a2 n2 c2,.bool s,.slice a3 n3 c3,.slice a4 n4 c4]] w fun en w'=>(∃ A N C A' N' C' A2 N2 C2 A3 N3 C3 A4 N4 C4,en = .returned (.agg #[.slice A N C,.slice A' N' C',.slice A2 N2 C2,.slice A3 N3 C3,.slice A4 N4 C4,.bool (!b)])∧Mine w' w.heap.size A N C wa∧Mine w' w.heap.size A' N' C' wb∧Mine w' w.heap.size A2 N2 C2 pa∧Mine w' w.heap.size A3 N3 C3 pb∧Mine w' w.heap.size A4 N4 C4 dn)∧Below w.heap.size w w':=by
 obtain ⟨cs9,t9_,hp,hp0⟩:=hR
 refine calls_sym Tryz.func139 rfl (by kernel_rfl) fun T hK=>?_
 replace hK:Kn T _ [(0,.pointer (some ⟨p,0,none⟩)),(1,.agg #[.bool s,.slice a1 n1 c1,.slice a2 n2 c2,.bool s,.slice a3 n3 c3,.slice a4 n4 c4])]:=hK
 have hS:=Fb.other hp
 have hG:GsAt [gN a1 n1 m1,gN a2 n2 d1,gN a3 n3 m2,gN a4 n4 d2] w:=⟨h1,h2,h3,h4,trivial⟩
 refine wq hS hG hK (fun p1=>[.n 3 #[.bool s,.slice a1 n1 c1,.slice a2 n2 c2,.bool s,.slice a3 n3 c3,.slice a4 n4 c4] 67,.n 4 #[.slice none 0 0,.slice none 0 0,.slice none 0 0,.slice none 0 0,.slice none 0 0,.bool false] 190]) (fun p1=>[(0,.pointer (some ⟨p,0,none⟩)),(3,pT (p1 0).N 0),(4,pT (p1 1).N 0)]) (fun p1=>?_) (fun p1 W1 T hF hK=>?_)
 ·iterate 2 refine okn ?_
  exact ok_nil
 replace hS:=SymF.fc hS hF [0,1000,1001] [⟨p,cs9,t9_,false⟩,⟨(p1 0).N,#[.bool s,.slice a1 n1 c1,.slice a2 n2 c2,.bool s,.slice a3 n3 c3,.slice a4 n4 c4],67,true⟩,⟨(p1 1).N,#[.slice none 0 0,.slice none 0 0,.slice none 0 0,.slice none 0 0,.slice none 0 0,.bool false],190,true⟩]
 replace hG:=hF.gx
 clear hF
 have z1:=hS.fr.size
 refine wq hS hG hK (fun p2=>[.v 23 (.pointer (some ⟨p,0,none⟩)),.v 24 (pT (p1 0).N 0),.v 25 (pT (p1 0).N 1),.l 26 (.agg #[.slice a1 n1 c1]) 1 1,.v 27 (pT (p1 0).N 0),.v 28 (pT (p1 0).N 2),.l 29 (.agg #[.slice a2 n2 c2]) 1 2,.c (some 30) (cH W1.heap.size wa ra fun x9 y9=>.tuple #[.agg #[x9],.agg #[y9]]),.v 22 (.tuple #[.agg #[.slice (p2 7).A (p2 7).N (p2 7).C],.agg #[.slice (p2 7).A' (p2 7).N' (p2 7).C']]),.v 31 (.agg #[.slice (p2 7).A (p2 7).N (p2 7).C]),.v 32 (.agg #[.slice (p2 7).A' (p2 7).N' (p2 7).C']),.n 5 #[.slice none 0 0] 26,.n 6 #[.slice none 0 0] 26,.p 1011 0 [.slice (p2 7).A (p2 7).N (p2 7).C],.p 1012 0 [.slice (p2 7).A' (p2 7).N' (p2 7).C']]) (fun p2=>[(0,.pointer (some ⟨p,0,none⟩)),(3,pT (p1 0).N 0),(4,pT (p1 1).N 0),(5,pT (p2 11).N 0),(6,pT (p2 12).N 0)]) (fun p2=>?_) (fun p2 W2 T hF hK=>?_)
 ·iterate 3 refine okv ?_
  refine okl ?_
  iterate 2 refine okv ?_
  refine okl ?_
  refine okc (fun W cx=>as_h cx.hb (unhide H1 _ _ _ c1 _ _ c2 ⟨_,_,cx.B 0 _ rfl (by kernel_rfl) (by kernel_rfl),hp0⟩ (cx.G.1) (cx.G.2.1))) ?_
  iterate 3 refine okv ?_
  iterate 2 refine okn ?_
  iterate 2 refine okp ?_
  exact ok_nil
 replace hS:=SymF.fc hS hF [0,1,2,1011,1012] [⟨p,cs9,t9_,false⟩,⟨(p1 0).N,#[.bool s,.slice a1 n1 c1,.slice a2 n2 c2,.bool s,.slice a3 n3 c3,.slice a4 n4 c4],67,true⟩,⟨(p1 1).N,#[.slice none 0 0,.slice none 0 0,.slice none 0 0,.slice none 0 0,.slice none 0 0,.bool false],190,true⟩,⟨(p2 11).N,#[.slice (p2 7).A (p2 7).N (p2 7).C],26,true⟩,⟨(p2 12).N,#[.slice (p2 7).A' (p2 7).N' (p2 7).C'],26,true⟩]
 replace hG:GsAt (gM W1.heap.size (p2 7).A (p2 7).N (p2 7).C wa :: gM W1.heap.size (p2 7).A' (p2 7).N' (p2 7).C' ra :: _) W2:=⟨And.left (hF.fx 7),And.right (hF.fx 7),hF.gx⟩
 clear hF
 have z2:=hS.fr.size
 refine wq hS hG hK (fun p3=>[.v 34 (.pointer (some ⟨p,0,none⟩)),.v 35 (pT (p1 0).N 3),.v 36 (pT (p1 0).N 4),.l 37 (.agg #[.slice a3 n3 c3]) 1 4,.v 38 (pT (p1 0).N 3),.v 39 (pT (p1 0).N 5),.l 40 (.agg #[.slice a4 n4 c4]) 1 5,.c (some 41) (cH W2.heap.size wb rb fun x9 y9=>.tuple #[.agg #[x9],.agg #[y9]]),.v 33 (.tuple #[.agg #[.slice (p3 7).A (p3 7).N (p3 7).C],.agg #[.slice (p3 7).A' (p3 7).N' (p3 7).C']]),.v 42 (.agg #[.slice (p3 7).A (p3 7).N (p3 7).C]),.v 43 (.agg #[.slice (p3 7).A' (p3 7).N' (p3 7).C']),.n 7 #[.slice none 0 0] 26,.n 8 #[.slice none 0 0] 26,.p 1011 0 [.slice (p3 7).A (p3 7).N (p3 7).C],.p 1012 0 [.slice (p3 7).A' (p3 7).N' (p3 7).C']]) (fun p3=>[(0,.pointer (some ⟨p,0,none⟩)),(3,pT (p1 0).N 0),(4,pT (p1 1).N 0),(5,pT (p2 11).N 0),(6,pT (p2 12).N 0),(7,pT (p3 11).N 0),(8,pT (p3 12).N 0)]) (fun p3=>?_) (fun p3 W3 T hF hK=>?_)
 ·iterate 3 refine okv ?_
  refine okl ?_
  iterate 2 refine okv ?_
  refine okl ?_
  refine okc (fun W cx=>as_h cx.hb (unhide H2 _ _ _ c3 _ _ c4 ⟨_,_,cx.B 0 _ rfl (by kernel_rfl) (by kernel_rfl),hp0⟩ (cx.G.2.2.2.2.1) (cx.G.2.2.2.2.2.1))) ?_
  iterate 3 refine okv ?_
  iterate 2 refine okn ?_
  iterate 2 refine okp ?_
  exact ok_nil
 replace hS:=SymF.fc hS hF [0,1,2,3,4,1011,1012] [⟨p,cs9,t9_,false⟩,⟨(p1 0).N,#[.bool s,.slice a1 n1 c1,.slice a2 n2 c2,.bool s,.slice a3 n3 c3,.slice a4 n4 c4],67,true⟩,⟨(p1 1).N,#[.slice none 0 0,.slice none 0 0,.slice none 0 0,.slice none 0 0,.slice none 0 0,.bool false],190,true⟩,⟨(p2 11).N,#[.slice (p2 7).A (p2 7).N (p2 7).C],26,true⟩,⟨(p2 12).N,#[.slice (p2 7).A' (p2 7).N' (p2 7).C'],26,true⟩,⟨(p3 11).N,#[.slice (p3 7).A (p3 7).N (p3 7).C],26,true⟩,⟨(p3 12).N,#[.slice (p3 7).A' (p3 7).N' (p3 7).C'],26,true⟩]
 replace hG:GsAt (gM W2.heap.size (p3 7).A (p3 7).N (p3 7).C wb :: gM W2.heap.size (p3 7).A' (p3 7).N' (p3 7).C' rb :: _) W3:=⟨And.left (hF.fx 7),And.right (hF.fx 7),hF.gx⟩
 clear hF
 refine wq hS hG hK (fun p4=>[.v 44 (.pointer (some ⟨p,0,none⟩)),.v 45 (pT (p1 0).N 0),.v 46 (pT (p1 0).N 2),.l 47 (.agg #[.slice a2 n2 c2]) 1 2,.v 48 (pT (p1 0).N 3),.v 49 (pT (p1 0).N 5),.l 50 (.agg #[.slice a4 n4 c4]) 1 5,.c (some 51) (cN W3.heap.size g),.n 9 #[.slice none 0 0] 26,.p 1008 0 [.slice (p4 7).A (p4 7).N (p4 7).C]]) (fun p4=>[(0,.pointer (some ⟨p,0,none⟩)),(3,pT (p1 0).N 0),(4,pT (p1 1).N 0),(5,pT (p2 11).N 0),(6,pT (p2 12).N 0),(7,pT (p3 11).N 0),(8,pT (p3 12).N 0),(9,pT (p4 8).N 0)]) (fun p4=>?_) (fun p4 W4 T hF hK=>?_)
 ·iterate 3 refine okv ?_
  refine okl ?_
  iterate 2 refine okv ?_
  refine okl ?_
  refine okc (fun W cx=>as_n cx.hb (unhide H3 _ _ _ c2 _ _ c4 ⟨_,_,cx.B 0 _ rfl (by kernel_rfl) (by kernel_rfl),hp0⟩ (cx.G.2.2.2.2.2.1) (cx.G.2.2.2.2.2.2.2.1))) ?_
  refine okn ?_
  refine okp ?_
  exact ok_nil
 replace hS:=SymF.fc hS hF [0,1,2,3,4,5,6,1008] [⟨p,cs9,t9_,false⟩,⟨(p1 0).N,#[.bool s,.slice a1 n1 c1,.slice a2 n2 c2,.bool s,.slice a3 n3 c3,.slice a4 n4 c4],67,true⟩,⟨(p1 1).N,#[.slice none 0 0,.slice none 0 0,.slice none 0 0,.slice none 0 0,.slice none 0 0,.bool false],190,true⟩,⟨(p2 11).N,#[.slice (p2 7).A (p2 7).N (p2 7).C],26,true⟩,⟨(p2 12).N,#[.slice (p2 7).A' (p2 7).N' (p2 7).C'],26,true⟩,⟨(p3 11).N,#[.slice (p3 7).A (p3 7).N (p3 7).C],26,true⟩,⟨(p3 12).N,#[.slice (p3 7).A' (p3 7).N' (p3 7).C'],26,true⟩,⟨(p4 8).N,#[.slice (p4 7).A (p4 7).N (p4 7).C],26,true⟩]
 replace hG:GsAt (gM W3.heap.size (p4 7).A (p4 7).N (p4 7).C g :: _) W4:=⟨hF.fx 7,hF.gx⟩
 clear hF
 refine wq hS hG hK (fun p5=>[.v 52 (.pointer (some ⟨p,0,none⟩)),.v 53 (pT (p1 0).N 3),.v 54 (pT (p1 0).N 5),.l 55 (.agg #[.slice a4 n4 c4]) 1 5,.l 56 (.agg #[.slice (p4 7).A (p4 7).N (p4 7).C]) 7 0,.c (some 57) (cN W4.heap.size ta),.v 58 (.pointer (some ⟨p,0,none⟩)),.v 59 (pT (p1 0).N 0),.v 60 (pT (p1 0).N 2),.l 61 (.agg #[.slice a2 n2 c2]) 1 2,.l 62 (.agg #[.slice (p4 7).A (p4 7).N (p4 7).C]) 7 0,.c (some 63) (cN W4.heap.size tb),.n 10 #[.slice none 0 0] 26,.n 11 #[.slice none 0 0] 26,.p 1012 0 [.slice (p5 5).A (p5 5).N (p5 5).C],.p 1013 0 [.slice (p5 11).A (p5 11).N (p5 11).C]]) (fun p5=>[(0,.pointer (some ⟨p,0,none⟩)),(3,pT (p1 0).N 0),(4,pT (p1 1).N 0),(5,pT (p2 11).N 0),(6,pT (p2 12).N 0),(7,pT (p3 11).N 0),(8,pT (p3 12).N 0),(9,pT (p4 8).N 0),(10,pT (p5 12).N 0),(11,pT (p5 13).N 0)]) (fun p5=>?_) (fun p5 W5 T hF hK=>?_)
 ·iterate 3 refine okv ?_
  iterate 2 refine okl ?_
  refine okc (fun W cx=>as_n cx.hb (unhide H4 _ _ _ c4 _ _ (p4 7).C ⟨_,_,cx.B 0 _ rfl (by kernel_rfl) (by kernel_rfl),hp0⟩ (cx.G.2.2.2.2.2.2.2.2.1) (Mine.num cx.G.1))) ?_
  iterate 3 refine okv ?_
  iterate 2 refine okl ?_
  refine okc (fun W cx=>as_n cx.hb (unhide H5 _ _ _ c2 _ _ (p4 7).C ⟨_,_,cx.B 0 _ rfl (by kernel_rfl) (by kernel_rfl),hp0⟩ (cx.G.2.2.2.2.2.2.1) (Mine.num cx.G.1))) ?_
  iterate 2 refine okn ?_
  iterate 2 refine okp ?_
  exact ok_nil
 replace hS:=SymF.fc hS hF [0,1,2,3,4,5,6,7,1012,1013] [⟨p,cs9,t9_,false⟩,⟨(p1 0).N,#[.bool s,.slice a1 n1 c1,.slice a2 n2 c2,.bool s,.slice a3 n3 c3,.slice a4 n4 c4],67,true⟩,⟨(p1 1).N,#[.slice none 0 0,.slice none 0 0,.slice none 0 0,.slice none 0 0,.slice none 0 0,.bool false],190,true⟩,⟨(p2 11).N,#[.slice (p2 7).A (p2 7).N (p2 7).C],26,true⟩,⟨(p2 12).N,#[.slice (p2 7).A' (p2 7).N' (p2 7).C'],26,true⟩,⟨(p3 11).N,#[.slice (p3 7).A (p3 7).N (p3 7).C],26,true⟩,⟨(p3 12).N,#[.slice (p3 7).A' (p3 7).N' (p3 7).C'],26,true⟩,⟨(p4 8).N,#[.slice (p4 7).A (p4 7).N (p4 7).C],26,true⟩,⟨(p5 12).N,#[.slice (p5 5).A (p5 5).N (p5 5).C],26,true⟩,⟨(p5 13).N,#[.slice (p5 11).A (p5 11).N (p5 11).C],26,true⟩]
 replace hG:GsAt (gM W4.heap.size (p5 5).A (p5 5).N (p5 5).C ta :: gM W4.heap.size (p5 11).A (p5 11).N (p5 11).C tb :: _) W5:=⟨hF.fx 5,hF.fx 11,hF.gx⟩
 clear hF
 refine wq hS hG hK (fun p6=>[.v 65 (.pointer (some ⟨p,0,none⟩)),.l 66 (.agg #[.slice (p2 7).A' (p2 7).N' (p2 7).C']) 4 0,.l 67 (.agg #[.slice (p5 5).A (p5 5).N (p5 5).C]) 8 0,.l 68 (.agg #[.slice (p4 7).A (p4 7).N (p4 7).C]) 7 0,.c (some 69) (cH W5.heap.size q1 le fun x9 y9=>.tuple #[.agg #[x9],.agg #[y9]]),.v 64 (.tuple #[.agg #[.slice (p6 4).A (p6 4).N (p6 4).C],.agg #[.slice (p6 4).A' (p6 4).N' (p6 4).C']]),.v 70 (.agg #[.slice (p6 4).A (p6 4).N (p6 4).C]),.v 71 (.agg #[.slice (p6 4).A' (p6 4).N' (p6 4).C']),.n 12 #[.slice none 0 0] 26,.n 13 #[.slice none 0 0] 26,.p 1008 0 [.slice (p6 4).A (p6 4).N (p6 4).C],.p 1009 0 [.slice (p6 4).A' (p6 4).N' (p6 4).C']]) (fun p6=>[(0,.pointer (some ⟨p,0,none⟩)),(3,pT (p1 0).N 0),(4,pT (p1 1).N 0),(5,pT (p2 11).N 0),(6,pT (p2 12).N 0),(7,pT (p3 11).N 0),(8,pT (p3 12).N 0),(9,pT (p4 8).N 0),(10,pT (p5 12).N 0),(11,pT (p5 13).N 0),(13,pT (p6 9).N 0)]) (fun p6=>?_) (fun p6 W6 T hF hK=>?_)
 ·refine okv ?_
  iterate 3 refine okl ?_
  refine okc (fun W cx=>as_h cx.hb (unhide H6 _ _ _ (p2 7).C' _ _ (p5 5).C _ _ (p4 7).C ⟨_,_,cx.B 0 _ rfl (by kernel_rfl) (by kernel_rfl),hp0⟩ (Mine.num cx.G.2.2.2.2.2.2.1) (Mine.num cx.G.1) (Mine.num cx.G.2.2.1))) ?_
  iterate 3 refine okv ?_
  iterate 2 refine okn ?_
  iterate 2 refine okp ?_
  exact ok_nil
 replace hS:=SymF.fc hS hF [0,1,2,3,4,5,6,7,8,9,1009] [⟨p,cs9,t9_,false⟩,⟨(p1 0).N,#[.bool s,.slice a1 n1 c1,.slice a2 n2 c2,.bool s,.slice a3 n3 c3,.slice a4 n4 c4],67,true⟩,⟨(p1 1).N,#[.slice none 0 0,.slice none 0 0,.slice none 0 0,.slice none 0 0,.slice none 0 0,.bool false],190,true⟩,⟨(p2 11).N,#[.slice (p2 7).A (p2 7).N (p2 7).C],26,true⟩,⟨(p2 12).N,#[.slice (p2 7).A' (p2 7).N' (p2 7).C'],26,true⟩,⟨(p3 11).N,#[.slice (p3 7).A (p3 7).N (p3 7).C],26,true⟩,⟨(p3 12).N,#[.slice (p3 7).A' (p3 7).N' (p3 7).C'],26,true⟩,⟨(p4 8).N,#[.slice (p4 7).A (p4 7).N (p4 7).C],26,true⟩,⟨(p5 12).N,#[.slice (p5 5).A (p5 5).N (p5 5).C],26,true⟩,⟨(p5 13).N,#[.slice (p5 11).A (p5 11).N (p5 11).C],26,true⟩,⟨(p6 9).N,#[.slice (p6 4).A' (p6 4).N' (p6 4).C'],26,true⟩]
 replace hG:GsAt (gM W5.heap.size (p6 4).A (p6 4).N (p6 4).C q1 :: gM W5.heap.size (p6 4).A' (p6 4).N' (p6 4).C' le :: _) W6:=⟨And.left (hF.fx 4),And.right (hF.fx 4),hF.gx⟩
 clear hF
 refine wq hS hG hK (fun p7=>[.v 73 (.pointer (some ⟨p,0,none⟩)),.l 74 (.agg #[.slice (p3 7).A' (p3 7).N' (p3 7).C']) 6 0,.l 75 (.agg #[.slice (p5 11).A (p5 11).N (p5 11).C]) 9 0,.l 76 (.agg #[.slice (p4 7).A (p4 7).N (p4 7).C]) 7 0,.c (some 77) (cH W6.heap.size q2 ri fun x9 y9=>.tuple #[.agg #[x9],.agg #[y9]]),.v 72 (.tuple #[.agg #[.slice (p7 4).A (p7 4).N (p7 4).C],.agg #[.slice (p7 4).A' (p7 4).N' (p7 4).C']]),.v 78 (.agg #[.slice (p7 4).A (p7 4).N (p7 4).C]),.v 79 (.agg #[.slice (p7 4).A' (p7 4).N' (p7 4).C']),.n 14 #[.slice none 0 0] 26,.n 15 #[.slice none 0 0] 26,.p 1008 0 [.slice (p7 4).A (p7 4).N (p7 4).C],.p 1009 0 [.slice (p7 4).A' (p7 4).N' (p7 4).C']]) (fun p7=>[(0,.pointer (some ⟨p,0,none⟩)),(3,pT (p1 0).N 0),(4,pT (p1 1).N 0),(5,pT (p2 11).N 0),(6,pT (p2 12).N 0),(7,pT (p3 11).N 0),(8,pT (p3 12).N 0),(9,pT (p4 8).N 0),(10,pT (p5 12).N 0),(11,pT (p5 13).N 0),(13,pT (p6 9).N 0),(15,pT (p7 9).N 0)]) (fun p7=>?_) (fun p7 W7 T hF hK=>?_)
 ·refine okv ?_
  iterate 3 refine okl ?_
  refine okc (fun W cx=>as_h cx.hb (unhide H7 _ _ _ (p3 7).C' _ _ (p5 11).C _ _ (p4 7).C ⟨_,_,cx.B 0 _ rfl (by kernel_rfl) (by kernel_rfl),hp0⟩ (Mine.num cx.G.2.2.2.2.2.2.1) (Mine.num cx.G.2.2.2.1) (Mine.num cx.G.2.2.2.2.1))) ?_
  iterate 3 refine okv ?_
  iterate 2 refine okn ?_
  iterate 2 refine okp ?_
  exact ok_nil
 replace hS:=SymF.fc hS hF [0,1,2,3,4,5,6,7,8,9,10,1009] [⟨p,cs9,t9_,false⟩,⟨(p1 0).N,#[.bool s,.slice a1 n1 c1,.slice a2 n2 c2,.bool s,.slice a3 n3 c3,.slice a4 n4 c4],67,true⟩,⟨(p1 1).N,#[.slice none 0 0,.slice none 0 0,.slice none 0 0,.slice none 0 0,.slice none 0 0,.bool false],190,true⟩,⟨(p2 11).N,#[.slice (p2 7).A (p2 7).N (p2 7).C],26,true⟩,⟨(p2 12).N,#[.slice (p2 7).A' (p2 7).N' (p2 7).C'],26,true⟩,⟨(p3 11).N,#[.slice (p3 7).A (p3 7).N (p3 7).C],26,true⟩,⟨(p3 12).N,#[.slice (p3 7).A' (p3 7).N' (p3 7).C'],26,true⟩,⟨(p4 8).N,#[.slice (p4 7).A (p4 7).N (p4 7).C],26,true⟩,⟨(p5 12).N,#[.slice (p5 5).A (p5 5).N (p5 5).C],26,true⟩,⟨(p5 13).N,#[.slice (p5 11).A (p5 11).N (p5 11).C],26,true⟩,⟨(p6 9).N,#[.slice (p6 4).A' (p6 4).N' (p6 4).C'],26,true⟩,⟨(p7 9).N,#[.slice (p7 4).A' (p7 4).N' (p7 4).C'],26,true⟩]
 replace hG:GsAt (gM W6.heap.size (p7 4).A (p7 4).N (p7 4).C q2 :: gM W6.heap.size (p7 4).A' (p7 4).N' (p7 4).C' ri :: _) W7:=⟨And.left (hF.fx 4),And.right (hF.fx 4),hF.gx⟩
 clear hF
 refine wp_seq ?_
 refine wq hS hG hK (fun p8=>[.v 80 (pT (p1 0).N 0),.v 81 (pT (p1 0).N 0),.l 82 (.bool s) 1 0,.v 83 (pT (p1 0).N 3),.v 84 (pT (p1 0).N 3),.l 85 (.bool s) 1 3,.v 86 (.bool true)]) (fun p8=>[(0,.pointer (some ⟨p,0,none⟩)),(3,pT (p1 0).N 0),(4,pT (p1 1).N 0),(5,pT (p2 11).N 0),(6,pT (p2 12).N 0),(7,pT (p3 11).N 0),(8,pT (p3 12).N 0),(9,pT (p4 8).N 0),(10,pT (p5 12).N 0),(11,pT (p5 13).N 0),(13,pT (p6 9).N 0),(15,pT (p7 9).N 0),(86,.bool true)]) (fun p8=>?_) (fun p8 W8 T hF hK=>?_)
 ·iterate 2 refine okv ?_
  refine okl ?_
  iterate 2 refine okv ?_
  refine okl ?_
  refine okvb (beq_self_eq_true s) ?_
  exact ok_nil
 obtain ⟨hS,hG⟩:=SymF.fg hS hF
 clear hF
 refine wp_cond_true (hK.ew 86) ?_
 refine wg hS hG hK (fun p9=>[.v 87 (.pointer (some ⟨p,0,none⟩)),.l 88 (.agg #[.slice (p4 7).A (p4 7).N (p4 7).C]) 7 0,.l 89 (.agg #[.slice (p7 4).A' (p7 4).N' (p7 4).C']) 11 0,.c (some 90) (cN W8.heap.size rj),.p 11 0 [.slice (p9 3).A (p9 3).N (p9 3).C]]) (fun p9=>[(0,.pointer (some ⟨p,0,none⟩)),(3,pT (p1 0).N 0),(4,pT (p1 1).N 0),(5,pT (p2 11).N 0),(6,pT (p2 12).N 0),(7,pT (p3 11).N 0),(8,pT (p3 12).N 0),(9,pT (p4 8).N 0),(10,pT (p5 12).N 0),(11,pT (p5 13).N 0),(13,pT (p6 9).N 0),(15,pT (p7 9).N 0)]) (fun p9=>?_) (fun p9 W9 T hF hK=>?_)
 ·refine okv ?_
  iterate 2 refine okl ?_
  refine okc (fun W cx=>as_n cx.hb (unhide H8 _ _ _ (p4 7).C _ _ (p7 4).C' ⟨_,_,cx.B 0 _ rfl (by kernel_rfl) (by kernel_rfl),hp0⟩ (Mine.num cx.G.2.2.2.2.2.2.1) (Mine.num cx.G.2.1))) ?_
  refine okp ?_
  exact ok_nil
 replace hS:=SymF.fc hS hF [0,1,2,3,4,5,6,7,8,9,10,11] [⟨p,cs9,t9_,false⟩,⟨(p1 0).N,#[.bool s,.slice a1 n1 c1,.slice a2 n2 c2,.bool s,.slice a3 n3 c3,.slice a4 n4 c4],67,true⟩,⟨(p1 1).N,#[.slice none 0 0,.slice none 0 0,.slice none 0 0,.slice none 0 0,.slice none 0 0,.bool false],190,true⟩,⟨(p2 11).N,#[.slice (p2 7).A (p2 7).N (p2 7).C],26,true⟩,⟨(p2 12).N,#[.slice (p2 7).A' (p2 7).N' (p2 7).C'],26,true⟩,⟨(p3 11).N,#[.slice (p3 7).A (p3 7).N (p3 7).C],26,true⟩,⟨(p3 12).N,#[.slice (p3 7).A' (p3 7).N' (p3 7).C'],26,true⟩,⟨(p4 8).N,#[.slice (p4 7).A (p4 7).N (p4 7).C],26,true⟩,⟨(p5 12).N,#[.slice (p5 5).A (p5 5).N (p5 5).C],26,true⟩,⟨(p5 13).N,#[.slice (p5 11).A (p5 11).N (p5 11).C],26,true⟩,⟨(p6 9).N,#[.slice (p6 4).A' (p6 4).N' (p6 4).C'],26,true⟩,⟨(p7 9).N,#[.slice (p9 3).A (p9 3).N (p9 3).C],26,true⟩]
 replace hG:GsAt (gM W8.heap.size (p9 3).A (p9 3).N (p9 3).C rj :: _) W9:=⟨hF.fx 3,hF.gx⟩
 clear hF
 refine then_n ?_
 refine wq hS hG hK (fun p10=>[.v 91 (.pointer (some ⟨p,0,none⟩)),.v 92 (.pointer (some ⟨p,0,none⟩)),.l 93 (.agg #[.slice (p6 4).A' (p6 4).N' (p6 4).C']) 10 0,.l 94 (.agg #[.slice (p9 3).A (p9 3).N (p9 3).C]) 11 0,.c (some 95) (cN W9.heap.size di),.l 96 (.agg #[.slice (p4 7).A (p4 7).N (p4 7).C]) 7 0,.c (some 97) (cN W9.heap.size lo),.n 16 #[.slice none 0 0] 26,.p 1007 0 [.slice (p10 6).A (p10 6).N (p10 6).C]]) (fun p10=>[(0,.pointer (some ⟨p,0,none⟩)),(3,pT (p1 0).N 0),(4,pT (p1 1).N 0),(5,pT (p2 11).N 0),(6,pT (p2 12).N 0),(7,pT (p3 11).N 0),(8,pT (p3 12).N 0),(10,pT (p5 12).N 0),(11,pT (p5 13).N 0),(16,pT (p10 7).N 0)]) (fun p10=>?_) (fun p10 W10 T hF hK=>?_)
 ·iterate 2 refine okv ?_
  iterate 2 refine okl ?_
  refine okc (fun W cx=>as_n cx.hb (unhide H9 _ _ _ (p6 4).C' _ _ (p9 3).C ⟨_,_,cx.B 0 _ rfl (by kernel_rfl) (by kernel_rfl),hp0⟩ (Mine.num cx.G.2.2.2.2.1) (Mine.num cx.G.1))) ?_
  refine okl ?_
  refine okc (fun W cx=>as_n cx.hb (unhide HA _ _ _ (p10 4).C _ _ (p4 7).C ⟨_,_,cx.B 0 _ rfl (by kernel_rfl) (by kernel_rfl),hp0⟩ (Mine.num (cx.F 4 (by kernel_rfl))) (Mine.num cx.G.2.2.2.2.2.2.2.1))) ?_
  refine okn ?_
  refine okp ?_
  exact ok_nil
 replace hS:=SymF.fc hS hF [0,1,2,3,4,5,6,8,9,1007] [⟨p,cs9,t9_,false⟩,⟨(p1 0).N,#[.bool s,.slice a1 n1 c1,.slice a2 n2 c2,.bool s,.slice a3 n3 c3,.slice a4 n4 c4],67,true⟩,⟨(p1 1).N,#[.slice none 0 0,.slice none 0 0,.slice none 0 0,.slice none 0 0,.slice none 0 0,.bool false],190,true⟩,⟨(p2 11).N,#[.slice (p2 7).A (p2 7).N (p2 7).C],26,true⟩,⟨(p2 12).N,#[.slice (p2 7).A' (p2 7).N' (p2 7).C'],26,true⟩,⟨(p3 11).N,#[.slice (p3 7).A (p3 7).N (p3 7).C],26,true⟩,⟨(p3 12).N,#[.slice (p3 7).A' (p3 7).N' (p3 7).C'],26,true⟩,⟨(p5 12).N,#[.slice (p5 5).A (p5 5).N (p5 5).C],26,true⟩,⟨(p5 13).N,#[.slice (p5 11).A (p5 11).N (p5 11).C],26,true⟩,⟨(p10 7).N,#[.slice (p10 6).A (p10 6).N (p10 6).C],26,true⟩]
 replace hG:GsAt (gM W9.heap.size (p10 4).A (p10 4).N (p10 4).C di :: gM W9.heap.size (p10 6).A (p10 6).N (p10 6).C lo :: _) W10:=⟨hF.fx 4,hF.fx 6,hF.gx⟩
 clear hF
 have z10:=hS.fr.size
 refine wq hS hG hK (fun p11=>[.v 98 (.pointer (some ⟨p,0,none⟩)),.l 99 (.agg #[.slice (p5 11).A (p5 11).N (p5 11).C]) 8 0,.v 100 (.pointer (some ⟨p,0,none⟩)),.v 101 (pT (p1 0).N 3),.v 102 (pT (p1 0).N 5),.l 103 (.agg #[.slice a4 n4 c4]) 1 5,.l 104 (.agg #[.slice (p10 6).A (p10 6).N (p10 6).C]) 9 0,.c (some 105) (cN W10.heap.size e),.c (some 106) (cN W10.heap.size dn),.n 17 #[.slice none 0 0] 26,.p 1009 0 [.slice (p11 8).A (p11 8).N (p11 8).C]]) (fun p11=>[(0,.pointer (some ⟨p,0,none⟩)),(4,pT (p1 1).N 0),(5,pT (p2 11).N 0),(6,pT (p2 12).N 0),(7,pT (p3 11).N 0),(8,pT (p3 12).N 0),(10,pT (p5 12).N 0),(11,pT (p5 13).N 0),(16,pT (p10 7).N 0),(17,pT (p11 9).N 0)]) (fun p11=>?_) (fun p11 W11 T hF hK=>?_)
 ·refine okv ?_
  refine okl ?_
  iterate 3 refine okv ?_
  iterate 2 refine okl ?_
  refine okc (fun W cx=>as_n cx.hb (unhide HB _ _ _ c4 _ _ (p10 6).C ⟨_,_,cx.B 0 _ rfl (by kernel_rfl) (by kernel_rfl),hp0⟩ (cx.G.2.2.2.2.2.2.2.2.2.2.2.2.2.2.2.2.2.1) (Mine.num cx.G.2.1))) ?_
  refine okc (fun W cx=>as_n cx.hb (unhide HC _ _ _ (p5 11).C _ _ (p11 7).C ⟨_,_,cx.B 0 _ rfl (by kernel_rfl) (by kernel_rfl),hp0⟩ (Mine.num cx.G.2.2.2.2.2.2.2.2.1) (Mine.num (cx.F 7 (by kernel_rfl))))) ?_
  refine okn ?_
  refine okp ?_
  exact ok_nil
 replace hS:=SymF.fc hS hF [0,2,3,4,5,6,7,8,9,1009] [⟨p,cs9,t9_,false⟩,⟨(p1 1).N,#[.slice none 0 0,.slice none 0 0,.slice none 0 0,.slice none 0 0,.slice none 0 0,.bool false],190,true⟩,⟨(p2 11).N,#[.slice (p2 7).A (p2 7).N (p2 7).C],26,true⟩,⟨(p2 12).N,#[.slice (p2 7).A' (p2 7).N' (p2 7).C'],26,true⟩,⟨(p3 11).N,#[.slice (p3 7).A (p3 7).N (p3 7).C],26,true⟩,⟨(p3 12).N,#[.slice (p3 7).A' (p3 7).N' (p3 7).C'],26,true⟩,⟨(p5 12).N,#[.slice (p5 5).A (p5 5).N (p5 5).C],26,true⟩,⟨(p5 13).N,#[.slice (p5 11).A (p5 11).N (p5 11).C],26,true⟩,⟨(p10 7).N,#[.slice (p10 6).A (p10 6).N (p10 6).C],26,true⟩,⟨(p11 9).N,#[.slice (p11 8).A (p11 8).N (p11 8).C],26,true⟩]
 replace hG:GsAt (gM W10.heap.size (p11 7).A (p11 7).N (p11 7).C e :: gM W10.heap.size (p11 8).A (p11 8).N (p11 8).C dn :: _) W11:=⟨hF.fx 7,hF.fx 8,hF.gx⟩
 clear hF
 have z11:=hS.fr.size
 refine wq hS hG hK (fun p12=>[.v 108 (.pointer (some ⟨p,0,none⟩)),.l 109 (.agg #[.slice (p2 7).A' (p2 7).N' (p2 7).C']) 3 0,.l 110 (.agg #[.slice (p5 5).A (p5 5).N (p5 5).C]) 6 0,.l 111 (.agg #[.slice (p10 6).A (p10 6).N (p10 6).C]) 8 0,.c (some 112) (cH W11.heap.size pa br fun x9 y9=>.tuple #[.agg #[x9],.agg #[y9]]),.v 107 (.tuple #[.agg #[.slice (p12 4).A (p12 4).N (p12 4).C],.agg #[.slice (p12 4).A' (p12 4).N' (p12 4).C']]),.v 113 (.agg #[.slice (p12 4).A (p12 4).N (p12 4).C]),.v 114 (.agg #[.slice (p12 4).A' (p12 4).N' (p12 4).C']),.n 18 #[.slice none 0 0] 26,.n 19 #[.slice none 0 0] 26,.p 1008 0 [.slice (p12 4).A (p12 4).N (p12 4).C],.p 1009 0 [.slice (p12 4).A' (p12 4).N' (p12 4).C']]) (fun p12=>[(0,.pointer (some ⟨p,0,none⟩)),(4,pT (p1 1).N 0),(5,pT (p2 11).N 0),(7,pT (p3 11).N 0),(8,pT (p3 12).N 0),(11,pT (p5 13).N 0),(16,pT (p10 7).N 0),(17,pT (p11 9).N 0),(18,pT (p12 8).N 0),(19,pT (p12 9).N 0)]) (fun p12=>?_) (fun p12 W12 T hF hK=>?_)
 ·refine okv ?_
  iterate 3 refine okl ?_
  refine okc (fun W cx=>as_h cx.hb (unhide HD _ _ _ (p2 7).C' _ _ (p5 5).C _ _ (p10 6).C ⟨_,_,cx.B 0 _ rfl (by kernel_rfl) (by kernel_rfl),hp0⟩ (Mine.num cx.G.2.2.2.2.2.2.2.2.2.2.2.2.2.2.2.1) (Mine.num cx.G.2.2.2.2.2.2.2.2.2.1) (Mine.num cx.G.2.2.2.1))) ?_
  iterate 3 refine okv ?_
  iterate 2 refine okn ?_
  iterate 2 refine okp ?_
  exact ok_nil
 replace hS:=SymF.fc hS hF [0,1,2,4,5,7,8,9,1008,1009] [⟨p,cs9,t9_,false⟩,⟨(p1 1).N,#[.slice none 0 0,.slice none 0 0,.slice none 0 0,.slice none 0 0,.slice none 0 0,.bool false],190,true⟩,⟨(p2 11).N,#[.slice (p2 7).A (p2 7).N (p2 7).C],26,true⟩,⟨(p3 11).N,#[.slice (p3 7).A (p3 7).N (p3 7).C],26,true⟩,⟨(p3 12).N,#[.slice (p3 7).A' (p3 7).N' (p3 7).C'],26,true⟩,⟨(p5 13).N,#[.slice (p5 11).A (p5 11).N (p5 11).C],26,true⟩,⟨(p10 7).N,#[.slice (p10 6).A (p10 6).N (p10 6).C],26,true⟩,⟨(p11 9).N,#[.slice (p11 8).A (p11 8).N (p11 8).C],26,true⟩,⟨(p12 8).N,#[.slice (p12 4).A (p12 4).N (p12 4).C],26,true⟩,⟨(p12 9).N,#[.slice (p12 4).A' (p12 4).N' (p12 4).C'],26,true⟩]
 replace hG:GsAt (gM W11.heap.size (p12 4).A (p12 4).N (p12 4).C pa :: gM W11.heap.size (p12 4).A' (p12 4).N' (p12 4).C' br :: _) W12:=⟨And.left (hF.fx 4),And.right (hF.fx 4),hF.gx⟩
 clear hF
 have z12:=hS.fr.size
 refine wq hS hG hK (fun p13=>[.v 116 (.pointer (some ⟨p,0,none⟩)),.l 117 (.agg #[.slice (p3 7).A' (p3 7).N' (p3 7).C']) 4 0,.l 118 (.agg #[.slice (p5 11).A (p5 11).N (p5 11).C]) 5 0,.l 119 (.agg #[.slice (p10 6).A (p10 6).N (p10 6).C]) 6 0,.c (some 120) (cH W12.heap.size pb bs fun x9 y9=>.tuple #[.agg #[x9],.agg #[y9]]),.v 115 (.tuple #[.agg #[.slice (p13 4).A (p13 4).N (p13 4).C],.agg #[.slice (p13 4).A' (p13 4).N' (p13 4).C']]),.v 121 (.agg #[.slice (p13 4).A (p13 4).N (p13 4).C]),.v 122 (.agg #[.slice (p13 4).A' (p13 4).N' (p13 4).C']),.n 20 #[.slice none 0 0] 26,.n 21 #[.slice none 0 0] 26,.p 1008 0 [.slice (p13 4).A (p13 4).N (p13 4).C],.p 1009 0 [.slice (p13 4).A' (p13 4).N' (p13 4).C']]) (fun p13=>[(4,pT (p1 1).N 0),(5,pT (p2 11).N 0),(7,pT (p3 11).N 0),(17,pT (p11 9).N 0),(18,pT (p12 8).N 0),(19,pT (p12 9).N 0),(20,pT (p13 8).N 0)]) (fun p13=>?_) (fun p13 W13 T hF hK=>?_)
 ·refine okv ?_
  iterate 3 refine okl ?_
  refine okc (fun W cx=>as_h cx.hb (unhide HE _ _ _ (p3 7).C' _ _ (p5 11).C _ _ (p10 6).C ⟨_,_,cx.B 0 _ rfl (by kernel_rfl) (by kernel_rfl),hp0⟩ (Mine.num cx.G.2.2.2.2.2.2.2.2.2.2.2.2.2.2.2.1) (Mine.num cx.G.2.2.2.2.2.2.2.2.2.2.2.2.1) (Mine.num cx.G.2.2.2.2.2.1))) ?_
  iterate 3 refine okv ?_
  iterate 2 refine okn ?_
  iterate 2 refine okp ?_
  exact ok_nil
 replace hS:=SymF.fc hS hF [0,1,2,3,7,8,9,1008] [⟨p,cs9,t9_,false⟩,⟨(p1 1).N,#[.slice none 0 0,.slice none 0 0,.slice none 0 0,.slice none 0 0,.slice none 0 0,.bool false],190,true⟩,⟨(p2 11).N,#[.slice (p2 7).A (p2 7).N (p2 7).C],26,true⟩,⟨(p3 11).N,#[.slice (p3 7).A (p3 7).N (p3 7).C],26,true⟩,⟨(p11 9).N,#[.slice (p11 8).A (p11 8).N (p11 8).C],26,true⟩,⟨(p12 8).N,#[.slice (p12 4).A (p12 4).N (p12 4).C],26,true⟩,⟨(p12 9).N,#[.slice (p12 4).A' (p12 4).N' (p12 4).C'],26,true⟩,⟨(p13 8).N,#[.slice (p13 4).A (p13 4).N (p13 4).C],26,true⟩]
 replace hG:GsAt (gM W12.heap.size (p13 4).A (p13 4).N (p13 4).C pb :: gM W12.heap.size (p13 4).A' (p13 4).N' (p13 4).C' bs :: _) W13:=⟨And.left (hF.fx 4),And.right (hF.fx 4),hF.gx⟩
 clear hF
 refine wq hS hG hK (fun p14=>[.l 123 (.agg #[.slice (p2 7).A (p2 7).N (p2 7).C]) 2 0,.l 124 (.agg #[.slice (p3 7).A (p3 7).N (p3 7).C]) 3 0,.l 125 (.agg #[.slice (p12 4).A (p12 4).N (p12 4).C]) 5 0,.l 126 (.agg #[.slice (p13 4).A (p13 4).N (p13 4).C]) 7 0,.l 127 (.agg #[.slice (p11 8).A (p11 8).N (p11 8).C]) 4 0,.l 128 (.agg #[.slice (p12 4).A' (p12 4).N' (p12 4).C']) 6 0,.c (some 129) (cV (.bool b)),.v 130 (.bool (!b)),.v 131 (.agg #[.slice (p2 7).A (p2 7).N (p2 7).C,.slice (p3 7).A (p3 7).N (p3 7).C,.slice (p12 4).A (p12 4).N (p12 4).C,.slice (p13 4).A (p13 4).N (p13 4).C,.slice (p11 8).A (p11 8).N (p11 8).C,.bool (!b)]),.p 1 0 [.slice (p2 7).A (p2 7).N (p2 7).C,.slice (p3 7).A (p3 7).N (p3 7).C,.slice (p12 4).A (p12 4).N (p12 4).C,.slice (p13 4).A (p13 4).N (p13 4).C,.slice (p11 8).A (p11 8).N (p11 8).C,.bool (!b)]]) (fun p14=>[(4,pT (p1 1).N 0)]) (fun p14=>?_) (fun p14 W14 T hF hK=>?_)
 ·iterate 6 refine okl ?_
  refine okc (fun W cx=>as_v (znought (p12 4).A' _ (p12 4).C' _ _ ((Num.zdec (Mine.num cx.G.2.2.2.1)).trans hz))) ?_
  iterate 2 refine okv ?_
  refine okp ?_
  exact ok_nil
 replace hS:=SymF.fc hS hF [0,1] [⟨p,cs9,t9_,false⟩,⟨(p1 1).N,#[.slice (p2 7).A (p2 7).N (p2 7).C,.slice (p3 7).A (p3 7).N (p3 7).C,.slice (p12 4).A (p12 4).N (p12 4).C,.slice (p13 4).A (p13 4).N (p13 4).C,.slice (p11 8).A (p11 8).N (p11 8).C,.bool (!b)],190,true⟩]
 replace hG:=hF.gx
 clear hF
 refine wp_ret ?_
 exact sym_end hS hK (.agg #[.slice (p2 7).A (p2 7).N (p2 7).C,.slice (p3 7).A (p3 7).N (p3 7).C,.slice (p12 4).A (p12 4).N (p12 4).C,.slice (p13 4).A (p13 4).N (p13 4).C,.slice (p11 8).A (p11 8).N (p11 8).C,.bool (!b)]) [(1,0,6)] [.slice (p2 7).A (p2 7).N (p2 7).C,.slice (p3 7).A (p3 7).N (p3 7).C,.slice (p12 4).A (p12 4).N (p12 4).C,.slice (p13 4).A (p13 4).N (p13 4).C,.slice (p11 8).A (p11 8).N (p11 8).C,.bool (!b)] (by kernel_rfl) (by kernel_rfl) ⟨⟨_,_,_,_,_,_,_,_,_,_,_,_,_,_,_,rfl,Mine.mono hG.2.2.2.2.2.2.2.2.2.2.2.2.2.2.2.2.2.2.1 z1,Mine.mono hG.2.2.2.2.2.2.2.2.2.2.2.2.2.2.2.2.1 z2,Mine.mono hG.2.2.1 z11,Mine.mono hG.1 z12,Mine.mono hG.2.2.2.2.2.1 z10⟩,hS.fr⟩
theorem zspl_d (w:World) (p:Nat) (a1 a2 a3 a4:Option Addr) (n1 n2 n3 n4 c1 c2 c3 c4 m1 d1 m2 d2:Nat) (s t b:Bool) (wa ra wb rb g ta tb q1 le q2 ri di lo e dn pa br pb bs:Nat) (hR:Rz w p 0) (h1:Num w a1 n1 m1) (h2:Num w a2 n2 d1) (h3:Num w a3 n3 m2) (h4:Num w a4 n4 d2) (H1:Hid (WDiv p m1 d1 wa ra)) (H2:Hid (WDiv p m2 d2 wb rb)) (H3:Hid (WTwo 45 p d1 d2 g)) (H4:Hid (WTwo 47 p d2 g ta)) (H5:Hid (WTwo 47 p d1 g tb)) (H6:Hid (WMo p ra ta g q1 le)) (H7:Hid (WMo p rb tb g q2 ri)) (H9:Hid (WTwo 151 p le ri di)) (HA:Hid (WTwo 45 p di g lo)) (HB:Hid (WTwo 47 p d2 lo e)) (HC:Hid (WTwo 62 p tb e dn)) (HD:Hid (WMo p ra ta lo pa br)) (HE:Hid (WMo p rb tb lo pb bs)) (hz:decide (br = 0) = b) (hst:(s == t) = false)  :
  Calls Tryz.prog 139 #[.pointer (some ⟨p,0,none⟩),.agg #[.bool s,.slice a1 n1 c1,.slice a2 n2 c2,.bool t,.slice a3 n3 c3,.slice a4 n4 c4]] w fun en w'=>(∃ A N C A' N' C' A2 N2 C2 A3 N3 C3 A4 N4 C4,en = .returned (.agg #[.slice A N C,.slice A' N' C',.slice A2 N2 C2,.slice A3 N3 C3,.slice A4 N4 C4,.bool (!b)])∧Mine w' w.heap.size A N C wa∧Mine w' w.heap.size A' N' C' wb∧Mine w' w.heap.size A2 N2 C2 pa∧Mine w' w.heap.size A3 N3 C3 pb∧Mine w' w.heap.size A4 N4 C4 dn)∧Below w.heap.size w w':=by
 obtain ⟨cs9,t9_,hp,hp0⟩:=hR
 refine calls_sym Tryz.func139 rfl (by kernel_rfl) fun T hK=>?_
 replace hK:Kn T _ [(0,.pointer (some ⟨p,0,none⟩)),(1,.agg #[.bool s,.slice a1 n1 c1,.slice a2 n2 c2,.bool t,.slice a3 n3 c3,.slice a4 n4 c4])]:=hK
 have hS:=Fb.other hp
 have hG:GsAt [gN a1 n1 m1,gN a2 n2 d1,gN a3 n3 m2,gN a4 n4 d2] w:=⟨h1,h2,h3,h4,trivial⟩
 refine wq hS hG hK (fun p1=>[.n 3 #[.bool s,.slice a1 n1 c1,.slice a2 n2 c2,.bool t,.slice a3 n3 c3,.slice a4 n4 c4] 67,.n 4 #[.slice none 0 0,.slice none 0 0,.slice none 0 0,.slice none 0 0,.slice none 0 0,.bool false] 190]) (fun p1=>[(0,.pointer (some ⟨p,0,none⟩)),(3,pT (p1 0).N 0),(4,pT (p1 1).N 0)]) (fun p1=>?_) (fun p1 W1 T hF hK=>?_)
 ·iterate 2 refine okn ?_
  exact ok_nil
 replace hS:=SymF.fc hS hF [0,1000,1001] [⟨p,cs9,t9_,false⟩,⟨(p1 0).N,#[.bool s,.slice a1 n1 c1,.slice a2 n2 c2,.bool t,.slice a3 n3 c3,.slice a4 n4 c4],67,true⟩,⟨(p1 1).N,#[.slice none 0 0,.slice none 0 0,.slice none 0 0,.slice none 0 0,.slice none 0 0,.bool false],190,true⟩]
 replace hG:=hF.gx
 clear hF
 have z1:=hS.fr.size
 refine wq hS hG hK (fun p2=>[.v 23 (.pointer (some ⟨p,0,none⟩)),.v 24 (pT (p1 0).N 0),.v 25 (pT (p1 0).N 1),.l 26 (.agg #[.slice a1 n1 c1]) 1 1,.v 27 (pT (p1 0).N 0),.v 28 (pT (p1 0).N 2),.l 29 (.agg #[.slice a2 n2 c2]) 1 2,.c (some 30) (cH W1.heap.size wa ra fun x9 y9=>.tuple #[.agg #[x9],.agg #[y9]]),.v 22 (.tuple #[.agg #[.slice (p2 7).A (p2 7).N (p2 7).C],.agg #[.slice (p2 7).A' (p2 7).N' (p2 7).C']]),.v 31 (.agg #[.slice (p2 7).A (p2 7).N (p2 7).C]),.v 32 (.agg #[.slice (p2 7).A' (p2 7).N' (p2 7).C']),.n 5 #[.slice none 0 0] 26,.n 6 #[.slice none 0 0] 26,.p 1011 0 [.slice (p2 7).A (p2 7).N (p2 7).C],.p 1012 0 [.slice (p2 7).A' (p2 7).N' (p2 7).C']]) (fun p2=>[(0,.pointer (some ⟨p,0,none⟩)),(3,pT (p1 0).N 0),(4,pT (p1 1).N 0),(5,pT (p2 11).N 0),(6,pT (p2 12).N 0)]) (fun p2=>?_) (fun p2 W2 T hF hK=>?_)
 ·iterate 3 refine okv ?_
  refine okl ?_
  iterate 2 refine okv ?_
  refine okl ?_
  refine okc (fun W cx=>as_h cx.hb (unhide H1 _ _ _ c1 _ _ c2 ⟨_,_,cx.B 0 _ rfl (by kernel_rfl) (by kernel_rfl),hp0⟩ (cx.G.1) (cx.G.2.1))) ?_
  iterate 3 refine okv ?_
  iterate 2 refine okn ?_
  iterate 2 refine okp ?_
  exact ok_nil
 replace hS:=SymF.fc hS hF [0,1,2,1011,1012] [⟨p,cs9,t9_,false⟩,⟨(p1 0).N,#[.bool s,.slice a1 n1 c1,.slice a2 n2 c2,.bool t,.slice a3 n3 c3,.slice a4 n4 c4],67,true⟩,⟨(p1 1).N,#[.slice none 0 0,.slice none 0 0,.slice none 0 0,.slice none 0 0,.slice none 0 0,.bool false],190,true⟩,⟨(p2 11).N,#[.slice (p2 7).A (p2 7).N (p2 7).C],26,true⟩,⟨(p2 12).N,#[.slice (p2 7).A' (p2 7).N' (p2 7).C'],26,true⟩]
 replace hG:GsAt (gM W1.heap.size (p2 7).A (p2 7).N (p2 7).C wa :: gM W1.heap.size (p2 7).A' (p2 7).N' (p2 7).C' ra :: _) W2:=⟨And.left (hF.fx 7),And.right (hF.fx 7),hF.gx⟩
 clear hF
 have z2:=hS.fr.size
 refine wq hS hG hK (fun p3=>[.v 34 (.pointer (some ⟨p,0,none⟩)),.v 35 (pT (p1 0).N 3),.v 36 (pT (p1 0).N 4),.l 37 (.agg #[.slice a3 n3 c3]) 1 4,.v 38 (pT (p1 0).N 3),.v 39 (pT (p1 0).N 5),.l 40 (.agg #[.slice a4 n4 c4]) 1 5,.c (some 41) (cH W2.heap.size wb rb fun x9 y9=>.tuple #[.agg #[x9],.agg #[y9]]),.v 33 (.tuple #[.agg #[.slice (p3 7).A (p3 7).N (p3 7).C],.agg #[.slice (p3 7).A' (p3 7).N' (p3 7).C']]),.v 42 (.agg #[.slice (p3 7).A (p3 7).N (p3 7).C]),.v 43 (.agg #[.slice (p3 7).A' (p3 7).N' (p3 7).C']),.n 7 #[.slice none 0 0] 26,.n 8 #[.slice none 0 0] 26,.p 1011 0 [.slice (p3 7).A (p3 7).N (p3 7).C],.p 1012 0 [.slice (p3 7).A' (p3 7).N' (p3 7).C']]) (fun p3=>[(0,.pointer (some ⟨p,0,none⟩)),(3,pT (p1 0).N 0),(4,pT (p1 1).N 0),(5,pT (p2 11).N 0),(6,pT (p2 12).N 0),(7,pT (p3 11).N 0),(8,pT (p3 12).N 0)]) (fun p3=>?_) (fun p3 W3 T hF hK=>?_)
 ·iterate 3 refine okv ?_
  refine okl ?_
  iterate 2 refine okv ?_
  refine okl ?_
  refine okc (fun W cx=>as_h cx.hb (unhide H2 _ _ _ c3 _ _ c4 ⟨_,_,cx.B 0 _ rfl (by kernel_rfl) (by kernel_rfl),hp0⟩ (cx.G.2.2.2.2.1) (cx.G.2.2.2.2.2.1))) ?_
  iterate 3 refine okv ?_
  iterate 2 refine okn ?_
  iterate 2 refine okp ?_
  exact ok_nil
 replace hS:=SymF.fc hS hF [0,1,2,3,4,1011,1012] [⟨p,cs9,t9_,false⟩,⟨(p1 0).N,#[.bool s,.slice a1 n1 c1,.slice a2 n2 c2,.bool t,.slice a3 n3 c3,.slice a4 n4 c4],67,true⟩,⟨(p1 1).N,#[.slice none 0 0,.slice none 0 0,.slice none 0 0,.slice none 0 0,.slice none 0 0,.bool false],190,true⟩,⟨(p2 11).N,#[.slice (p2 7).A (p2 7).N (p2 7).C],26,true⟩,⟨(p2 12).N,#[.slice (p2 7).A' (p2 7).N' (p2 7).C'],26,true⟩,⟨(p3 11).N,#[.slice (p3 7).A (p3 7).N (p3 7).C],26,true⟩,⟨(p3 12).N,#[.slice (p3 7).A' (p3 7).N' (p3 7).C'],26,true⟩]
 replace hG:GsAt (gM W2.heap.size (p3 7).A (p3 7).N (p3 7).C wb :: gM W2.heap.size (p3 7).A' (p3 7).N' (p3 7).C' rb :: _) W3:=⟨And.left (hF.fx 7),And.right (hF.fx 7),hF.gx⟩
 clear hF
 refine wq hS hG hK (fun p4=>[.v 44 (.pointer (some ⟨p,0,none⟩)),.v 45 (pT (p1 0).N 0),.v 46 (pT (p1 0).N 2),.l 47 (.agg #[.slice a2 n2 c2]) 1 2,.v 48 (pT (p1 0).N 3),.v 49 (pT (p1 0).N 5),.l 50 (.agg #[.slice a4 n4 c4]) 1 5,.c (some 51) (cN W3.heap.size g),.n 9 #[.slice none 0 0] 26,.p 1008 0 [.slice (p4 7).A (p4 7).N (p4 7).C]]) (fun p4=>[(0,.pointer (some ⟨p,0,none⟩)),(3,pT (p1 0).N 0),(4,pT (p1 1).N 0),(5,pT (p2 11).N 0),(6,pT (p2 12).N 0),(7,pT (p3 11).N 0),(8,pT (p3 12).N 0),(9,pT (p4 8).N 0)]) (fun p4=>?_) (fun p4 W4 T hF hK=>?_)
 ·iterate 3 refine okv ?_
  refine okl ?_
  iterate 2 refine okv ?_
  refine okl ?_
  refine okc (fun W cx=>as_n cx.hb (unhide H3 _ _ _ c2 _ _ c4 ⟨_,_,cx.B 0 _ rfl (by kernel_rfl) (by kernel_rfl),hp0⟩ (cx.G.2.2.2.2.2.1) (cx.G.2.2.2.2.2.2.2.1))) ?_
  refine okn ?_
  refine okp ?_
  exact ok_nil
 replace hS:=SymF.fc hS hF [0,1,2,3,4,5,6,1008] [⟨p,cs9,t9_,false⟩,⟨(p1 0).N,#[.bool s,.slice a1 n1 c1,.slice a2 n2 c2,.bool t,.slice a3 n3 c3,.slice a4 n4 c4],67,true⟩,⟨(p1 1).N,#[.slice none 0 0,.slice none 0 0,.slice none 0 0,.slice none 0 0,.slice none 0 0,.bool false],190,true⟩,⟨(p2 11).N,#[.slice (p2 7).A (p2 7).N (p2 7).C],26,true⟩,⟨(p2 12).N,#[.slice (p2 7).A' (p2 7).N' (p2 7).C'],26,true⟩,⟨(p3 11).N,#[.slice (p3 7).A (p3 7).N (p3 7).C],26,true⟩,⟨(p3 12).N,#[.slice (p3 7).A' (p3 7).N' (p3 7).C'],26,true⟩,⟨(p4 8).N,#[.slice (p4 7).A (p4 7).N (p4 7).C],26,true⟩]
 replace hG:GsAt (gM W3.heap.size (p4 7).A (p4 7).N (p4 7).C g :: _) W4:=⟨hF.fx 7,hF.gx⟩
 clear hF
 refine wq hS hG hK (fun p5=>[.v 52 (.pointer (some ⟨p,0,none⟩)),.v 53 (pT (p1 0).N 3),.v 54 (pT (p1 0).N 5),.l 55 (.agg #[.slice a4 n4 c4]) 1 5,.l 56 (.agg #[.slice (p4 7).A (p4 7).N (p4 7).C]) 7 0,.c (some 57) (cN W4.heap.size ta),.v 58 (.pointer (some ⟨p,0,none⟩)),.v 59 (pT (p1 0).N 0),.v 60 (pT (p1 0).N 2),.l 61 (.agg #[.slice a2 n2 c2]) 1 2,.l 62 (.agg #[.slice (p4 7).A (p4 7).N (p4 7).C]) 7 0,.c (some 63) (cN W4.heap.size tb),.n 10 #[.slice none 0 0] 26,.n 11 #[.slice none 0 0] 26,.p 1012 0 [.slice (p5 5).A (p5 5).N (p5 5).C],.p 1013 0 [.slice (p5 11).A (p5 11).N (p5 11).C]]) (fun p5=>[(0,.pointer (some ⟨p,0,none⟩)),(3,pT (p1 0).N 0),(4,pT (p1 1).N 0),(5,pT (p2 11).N 0),(6,pT (p2 12).N 0),(7,pT (p3 11).N 0),(8,pT (p3 12).N 0),(9,pT (p4 8).N 0),(10,pT (p5 12).N 0),(11,pT (p5 13).N 0)]) (fun p5=>?_) (fun p5 W5 T hF hK=>?_)
 ·iterate 3 refine okv ?_
  iterate 2 refine okl ?_
  refine okc (fun W cx=>as_n cx.hb (unhide H4 _ _ _ c4 _ _ (p4 7).C ⟨_,_,cx.B 0 _ rfl (by kernel_rfl) (by kernel_rfl),hp0⟩ (cx.G.2.2.2.2.2.2.2.2.1) (Mine.num cx.G.1))) ?_
  iterate 3 refine okv ?_
  iterate 2 refine okl ?_
  refine okc (fun W cx=>as_n cx.hb (unhide H5 _ _ _ c2 _ _ (p4 7).C ⟨_,_,cx.B 0 _ rfl (by kernel_rfl) (by kernel_rfl),hp0⟩ (cx.G.2.2.2.2.2.2.1) (Mine.num cx.G.1))) ?_
  iterate 2 refine okn ?_
  iterate 2 refine okp ?_
  exact ok_nil
 replace hS:=SymF.fc hS hF [0,1,2,3,4,5,6,7,1012,1013] [⟨p,cs9,t9_,false⟩,⟨(p1 0).N,#[.bool s,.slice a1 n1 c1,.slice a2 n2 c2,.bool t,.slice a3 n3 c3,.slice a4 n4 c4],67,true⟩,⟨(p1 1).N,#[.slice none 0 0,.slice none 0 0,.slice none 0 0,.slice none 0 0,.slice none 0 0,.bool false],190,true⟩,⟨(p2 11).N,#[.slice (p2 7).A (p2 7).N (p2 7).C],26,true⟩,⟨(p2 12).N,#[.slice (p2 7).A' (p2 7).N' (p2 7).C'],26,true⟩,⟨(p3 11).N,#[.slice (p3 7).A (p3 7).N (p3 7).C],26,true⟩,⟨(p3 12).N,#[.slice (p3 7).A' (p3 7).N' (p3 7).C'],26,true⟩,⟨(p4 8).N,#[.slice (p4 7).A (p4 7).N (p4 7).C],26,true⟩,⟨(p5 12).N,#[.slice (p5 5).A (p5 5).N (p5 5).C],26,true⟩,⟨(p5 13).N,#[.slice (p5 11).A (p5 11).N (p5 11).C],26,true⟩]
 replace hG:GsAt (gM W4.heap.size (p5 5).A (p5 5).N (p5 5).C ta :: gM W4.heap.size (p5 11).A (p5 11).N (p5 11).C tb :: _) W5:=⟨hF.fx 5,hF.fx 11,hF.gx⟩
 clear hF
 refine wq hS hG hK (fun p6=>[.v 65 (.pointer (some ⟨p,0,none⟩)),.l 66 (.agg #[.slice (p2 7).A' (p2 7).N' (p2 7).C']) 4 0,.l 67 (.agg #[.slice (p5 5).A (p5 5).N (p5 5).C]) 8 0,.l 68 (.agg #[.slice (p4 7).A (p4 7).N (p4 7).C]) 7 0,.c (some 69) (cH W5.heap.size q1 le fun x9 y9=>.tuple #[.agg #[x9],.agg #[y9]]),.v 64 (.tuple #[.agg #[.slice (p6 4).A (p6 4).N (p6 4).C],.agg #[.slice (p6 4).A' (p6 4).N' (p6 4).C']]),.v 70 (.agg #[.slice (p6 4).A (p6 4).N (p6 4).C]),.v 71 (.agg #[.slice (p6 4).A' (p6 4).N' (p6 4).C']),.n 12 #[.slice none 0 0] 26,.n 13 #[.slice none 0 0] 26,.p 1008 0 [.slice (p6 4).A (p6 4).N (p6 4).C],.p 1009 0 [.slice (p6 4).A' (p6 4).N' (p6 4).C']]) (fun p6=>[(0,.pointer (some ⟨p,0,none⟩)),(3,pT (p1 0).N 0),(4,pT (p1 1).N 0),(5,pT (p2 11).N 0),(6,pT (p2 12).N 0),(7,pT (p3 11).N 0),(8,pT (p3 12).N 0),(9,pT (p4 8).N 0),(10,pT (p5 12).N 0),(11,pT (p5 13).N 0),(13,pT (p6 9).N 0)]) (fun p6=>?_) (fun p6 W6 T hF hK=>?_)
 ·refine okv ?_
  iterate 3 refine okl ?_
  refine okc (fun W cx=>as_h cx.hb (unhide H6 _ _ _ (p2 7).C' _ _ (p5 5).C _ _ (p4 7).C ⟨_,_,cx.B 0 _ rfl (by kernel_rfl) (by kernel_rfl),hp0⟩ (Mine.num cx.G.2.2.2.2.2.2.1) (Mine.num cx.G.1) (Mine.num cx.G.2.2.1))) ?_
  iterate 3 refine okv ?_
  iterate 2 refine okn ?_
  iterate 2 refine okp ?_
  exact ok_nil
 replace hS:=SymF.fc hS hF [0,1,2,3,4,5,6,7,8,9,1009] [⟨p,cs9,t9_,false⟩,⟨(p1 0).N,#[.bool s,.slice a1 n1 c1,.slice a2 n2 c2,.bool t,.slice a3 n3 c3,.slice a4 n4 c4],67,true⟩,⟨(p1 1).N,#[.slice none 0 0,.slice none 0 0,.slice none 0 0,.slice none 0 0,.slice none 0 0,.bool false],190,true⟩,⟨(p2 11).N,#[.slice (p2 7).A (p2 7).N (p2 7).C],26,true⟩,⟨(p2 12).N,#[.slice (p2 7).A' (p2 7).N' (p2 7).C'],26,true⟩,⟨(p3 11).N,#[.slice (p3 7).A (p3 7).N (p3 7).C],26,true⟩,⟨(p3 12).N,#[.slice (p3 7).A' (p3 7).N' (p3 7).C'],26,true⟩,⟨(p4 8).N,#[.slice (p4 7).A (p4 7).N (p4 7).C],26,true⟩,⟨(p5 12).N,#[.slice (p5 5).A (p5 5).N (p5 5).C],26,true⟩,⟨(p5 13).N,#[.slice (p5 11).A (p5 11).N (p5 11).C],26,true⟩,⟨(p6 9).N,#[.slice (p6 4).A' (p6 4).N' (p6 4).C'],26,true⟩]
 replace hG:GsAt (gM W5.heap.size (p6 4).A (p6 4).N (p6 4).C q1 :: gM W5.heap.size (p6 4).A' (p6 4).N' (p6 4).C' le :: _) W6:=⟨And.left (hF.fx 4),And.right (hF.fx 4),hF.gx⟩
 clear hF
 refine wq hS hG hK (fun p7=>[.v 73 (.pointer (some ⟨p,0,none⟩)),.l 74 (.agg #[.slice (p3 7).A' (p3 7).N' (p3 7).C']) 6 0,.l 75 (.agg #[.slice (p5 11).A (p5 11).N (p5 11).C]) 9 0,.l 76 (.agg #[.slice (p4 7).A (p4 7).N (p4 7).C]) 7 0,.c (some 77) (cH W6.heap.size q2 ri fun x9 y9=>.tuple #[.agg #[x9],.agg #[y9]]),.v 72 (.tuple #[.agg #[.slice (p7 4).A (p7 4).N (p7 4).C],.agg #[.slice (p7 4).A' (p7 4).N' (p7 4).C']]),.v 78 (.agg #[.slice (p7 4).A (p7 4).N (p7 4).C]),.v 79 (.agg #[.slice (p7 4).A' (p7 4).N' (p7 4).C']),.n 14 #[.slice none 0 0] 26,.n 15 #[.slice none 0 0] 26,.p 1008 0 [.slice (p7 4).A (p7 4).N (p7 4).C],.p 1009 0 [.slice (p7 4).A' (p7 4).N' (p7 4).C']]) (fun p7=>[(0,.pointer (some ⟨p,0,none⟩)),(3,pT (p1 0).N 0),(4,pT (p1 1).N 0),(5,pT (p2 11).N 0),(6,pT (p2 12).N 0),(7,pT (p3 11).N 0),(8,pT (p3 12).N 0),(9,pT (p4 8).N 0),(10,pT (p5 12).N 0),(11,pT (p5 13).N 0),(13,pT (p6 9).N 0),(15,pT (p7 9).N 0)]) (fun p7=>?_) (fun p7 W7 T hF hK=>?_)
 ·refine okv ?_
  iterate 3 refine okl ?_
  refine okc (fun W cx=>as_h cx.hb (unhide H7 _ _ _ (p3 7).C' _ _ (p5 11).C _ _ (p4 7).C ⟨_,_,cx.B 0 _ rfl (by kernel_rfl) (by kernel_rfl),hp0⟩ (Mine.num cx.G.2.2.2.2.2.2.1) (Mine.num cx.G.2.2.2.1) (Mine.num cx.G.2.2.2.2.1))) ?_
  iterate 3 refine okv ?_
  iterate 2 refine okn ?_
  iterate 2 refine okp ?_
  exact ok_nil
 replace hS:=SymF.fc hS hF [0,1,2,3,4,5,6,7,8,9,10,1009] [⟨p,cs9,t9_,false⟩,⟨(p1 0).N,#[.bool s,.slice a1 n1 c1,.slice a2 n2 c2,.bool t,.slice a3 n3 c3,.slice a4 n4 c4],67,true⟩,⟨(p1 1).N,#[.slice none 0 0,.slice none 0 0,.slice none 0 0,.slice none 0 0,.slice none 0 0,.bool false],190,true⟩,⟨(p2 11).N,#[.slice (p2 7).A (p2 7).N (p2 7).C],26,true⟩,⟨(p2 12).N,#[.slice (p2 7).A' (p2 7).N' (p2 7).C'],26,true⟩,⟨(p3 11).N,#[.slice (p3 7).A (p3 7).N (p3 7).C],26,true⟩,⟨(p3 12).N,#[.slice (p3 7).A' (p3 7).N' (p3 7).C'],26,true⟩,⟨(p4 8).N,#[.slice (p4 7).A (p4 7).N (p4 7).C],26,true⟩,⟨(p5 12).N,#[.slice (p5 5).A (p5 5).N (p5 5).C],26,true⟩,⟨(p5 13).N,#[.slice (p5 11).A (p5 11).N (p5 11).C],26,true⟩,⟨(p6 9).N,#[.slice (p6 4).A' (p6 4).N' (p6 4).C'],26,true⟩,⟨(p7 9).N,#[.slice (p7 4).A' (p7 4).N' (p7 4).C'],26,true⟩]
 replace hG:GsAt (gM W6.heap.size (p7 4).A (p7 4).N (p7 4).C q2 :: gM W6.heap.size (p7 4).A' (p7 4).N' (p7 4).C' ri :: _) W7:=⟨And.left (hF.fx 4),And.right (hF.fx 4),hF.gx⟩
 clear hF
 refine wp_seq ?_
 refine wq hS hG hK (fun p8=>[.v 80 (pT (p1 0).N 0),.v 81 (pT (p1 0).N 0),.l 82 (.bool s) 1 0,.v 83 (pT (p1 0).N 3),.v 84 (pT (p1 0).N 3),.l 85 (.bool t) 1 3,.v 86 (.bool false)]) (fun p8=>[(0,.pointer (some ⟨p,0,none⟩)),(3,pT (p1 0).N 0),(4,pT (p1 1).N 0),(5,pT (p2 11).N 0),(6,pT (p2 12).N 0),(7,pT (p3 11).N 0),(8,pT (p3 12).N 0),(9,pT (p4 8).N 0),(10,pT (p5 12).N 0),(11,pT (p5 13).N 0),(13,pT (p6 9).N 0),(15,pT (p7 9).N 0),(86,.bool false)]) (fun p8=>?_) (fun p8 W8 T hF hK=>?_)
 ·iterate 2 refine okv ?_
  refine okl ?_
  iterate 2 refine okv ?_
  refine okl ?_
  refine okvb (hst) ?_
  exact ok_nil
 obtain ⟨hS,hG⟩:=SymF.fg hS hF
 clear hF
 refine wp_cond_false (hK.ew 86) (wp_skip (then_n ?_))
 refine wq hS hG hK (fun p9=>[.v 91 (.pointer (some ⟨p,0,none⟩)),.v 92 (.pointer (some ⟨p,0,none⟩)),.l 93 (.agg #[.slice (p6 4).A' (p6 4).N' (p6 4).C']) 10 0,.l 94 (.agg #[.slice (p7 4).A' (p7 4).N' (p7 4).C']) 11 0,.c (some 95) (cN W8.heap.size di),.l 96 (.agg #[.slice (p4 7).A (p4 7).N (p4 7).C]) 7 0,.c (some 97) (cN W8.heap.size lo),.n 16 #[.slice none 0 0] 26,.p 1007 0 [.slice (p9 6).A (p9 6).N (p9 6).C]]) (fun p9=>[(0,.pointer (some ⟨p,0,none⟩)),(3,pT (p1 0).N 0),(4,pT (p1 1).N 0),(5,pT (p2 11).N 0),(6,pT (p2 12).N 0),(7,pT (p3 11).N 0),(8,pT (p3 12).N 0),(9,pT (p4 8).N 0),(10,pT (p5 12).N 0),(11,pT (p5 13).N 0),(15,pT (p7 9).N 0),(16,pT (p9 7).N 0)]) (fun p9=>?_) (fun p9 W9 T hF hK=>?_)
 ·iterate 2 refine okv ?_
  iterate 2 refine okl ?_
  refine okc (fun W cx=>as_n cx.hb (unhide H9 _ _ _ (p6 4).C' _ _ (p7 4).C' ⟨_,_,cx.B 0 _ rfl (by kernel_rfl) (by kernel_rfl),hp0⟩ (Mine.num cx.G.2.2.2.1) (Mine.num cx.G.2.1))) ?_
  refine okl ?_
  refine okc (fun W cx=>as_n cx.hb (unhide HA _ _ _ (p9 4).C _ _ (p4 7).C ⟨_,_,cx.B 0 _ rfl (by kernel_rfl) (by kernel_rfl),hp0⟩ (Mine.num (cx.F 4 (by kernel_rfl))) (Mine.num cx.G.2.2.2.2.2.2.1))) ?_
  refine okn ?_
  refine okp ?_
  exact ok_nil
 replace hS:=SymF.fc hS hF [0,1,2,3,4,5,6,7,8,9,11,1007] [⟨p,cs9,t9_,false⟩,⟨(p1 0).N,#[.bool s,.slice a1 n1 c1,.slice a2 n2 c2,.bool t,.slice a3 n3 c3,.slice a4 n4 c4],67,true⟩,⟨(p1 1).N,#[.slice none 0 0,.slice none 0 0,.slice none 0 0,.slice none 0 0,.slice none 0 0,.bool false],190,true⟩,⟨(p2 11).N,#[.slice (p2 7).A (p2 7).N (p2 7).C],26,true⟩,⟨(p2 12).N,#[.slice (p2 7).A' (p2 7).N' (p2 7).C'],26,true⟩,⟨(p3 11).N,#[.slice (p3 7).A (p3 7).N (p3 7).C],26,true⟩,⟨(p3 12).N,#[.slice (p3 7).A' (p3 7).N' (p3 7).C'],26,true⟩,⟨(p4 8).N,#[.slice (p4 7).A (p4 7).N (p4 7).C],26,true⟩,⟨(p5 12).N,#[.slice (p5 5).A (p5 5).N (p5 5).C],26,true⟩,⟨(p5 13).N,#[.slice (p5 11).A (p5 11).N (p5 11).C],26,true⟩,⟨(p7 9).N,#[.slice (p7 4).A' (p7 4).N' (p7 4).C'],26,true⟩,⟨(p9 7).N,#[.slice (p9 6).A (p9 6).N (p9 6).C],26,true⟩]
 replace hG:GsAt (gM W8.heap.size (p9 4).A (p9 4).N (p9 4).C di :: gM W8.heap.size (p9 6).A (p9 6).N (p9 6).C lo :: _) W9:=⟨hF.fx 4,hF.fx 6,hF.gx⟩
 clear hF
 have z9:=hS.fr.size
 refine wq hS hG hK (fun p10=>[.v 98 (.pointer (some ⟨p,0,none⟩)),.l 99 (.agg #[.slice (p5 11).A (p5 11).N (p5 11).C]) 9 0,.v 100 (.pointer (some ⟨p,0,none⟩)),.v 101 (pT (p1 0).N 3),.v 102 (pT (p1 0).N 5),.l 103 (.agg #[.slice a4 n4 c4]) 1 5,.l 104 (.agg #[.slice (p9 6).A (p9 6).N (p9 6).C]) 11 0,.c (some 105) (cN W9.heap.size e),.c (some 106) (cN W9.heap.size dn),.n 17 #[.slice none 0 0] 26,.p 1009 0 [.slice (p10 8).A (p10 8).N (p10 8).C]]) (fun p10=>[(0,.pointer (some ⟨p,0,none⟩)),(4,pT (p1 1).N 0),(5,pT (p2 11).N 0),(6,pT (p2 12).N 0),(7,pT (p3 11).N 0),(8,pT (p3 12).N 0),(9,pT (p4 8).N 0),(10,pT (p5 12).N 0),(11,pT (p5 13).N 0),(15,pT (p7 9).N 0),(16,pT (p9 7).N 0),(17,pT (p10 9).N 0)]) (fun p10=>?_) (fun p10 W10 T hF hK=>?_)
 ·refine okv ?_
  refine okl ?_
  iterate 3 refine okv ?_
  iterate 2 refine okl ?_
  refine okc (fun W cx=>as_n cx.hb (unhide HB _ _ _ c4 _ _ (p9 6).C ⟨_,_,cx.B 0 _ rfl (by kernel_rfl) (by kernel_rfl),hp0⟩ (cx.G.2.2.2.2.2.2.2.2.2.2.2.2.2.2.2.2.1) (Mine.num cx.G.2.1))) ?_
  refine okc (fun W cx=>as_n cx.hb (unhide HC _ _ _ (p5 11).C _ _ (p10 7).C ⟨_,_,cx.B 0 _ rfl (by kernel_rfl) (by kernel_rfl),hp0⟩ (Mine.num cx.G.2.2.2.2.2.2.2.1) (Mine.num (cx.F 7 (by kernel_rfl))))) ?_
  refine okn ?_
  refine okp ?_
  exact ok_nil
 replace hS:=SymF.fc hS hF [0,2,3,4,5,6,7,8,9,10,11,1009] [⟨p,cs9,t9_,false⟩,⟨(p1 1).N,#[.slice none 0 0,.slice none 0 0,.slice none 0 0,.slice none 0 0,.slice none 0 0,.bool false],190,true⟩,⟨(p2 11).N,#[.slice (p2 7).A (p2 7).N (p2 7).C],26,true⟩,⟨(p2 12).N,#[.slice (p2 7).A' (p2 7).N' (p2 7).C'],26,true⟩,⟨(p3 11).N,#[.slice (p3 7).A (p3 7).N (p3 7).C],26,true⟩,⟨(p3 12).N,#[.slice (p3 7).A' (p3 7).N' (p3 7).C'],26,true⟩,⟨(p4 8).N,#[.slice (p4 7).A (p4 7).N (p4 7).C],26,true⟩,⟨(p5 12).N,#[.slice (p5 5).A (p5 5).N (p5 5).C],26,true⟩,⟨(p5 13).N,#[.slice (p5 11).A (p5 11).N (p5 11).C],26,true⟩,⟨(p7 9).N,#[.slice (p7 4).A' (p7 4).N' (p7 4).C'],26,true⟩,⟨(p9 7).N,#[.slice (p9 6).A (p9 6).N (p9 6).C],26,true⟩,⟨(p10 9).N,#[.slice (p10 8).A (p10 8).N (p10 8).C],26,true⟩]
 replace hG:GsAt (gM W9.heap.size (p10 7).A (p10 7).N (p10 7).C e :: gM W9.heap.size (p10 8).A (p10 8).N (p10 8).C dn :: _) W10:=⟨hF.fx 7,hF.fx 8,hF.gx⟩
 clear hF
 have z10:=hS.fr.size
 refine wq hS hG hK (fun p11=>[.v 108 (.pointer (some ⟨p,0,none⟩)),.l 109 (.agg #[.slice (p2 7).A' (p2 7).N' (p2 7).C']) 3 0,.l 110 (.agg #[.slice (p5 5).A (p5 5).N (p5 5).C]) 7 0,.l 111 (.agg #[.slice (p9 6).A (p9 6).N (p9 6).C]) 10 0,.c (some 112) (cH W10.heap.size pa br fun x9 y9=>.tuple #[.agg #[x9],.agg #[y9]]),.v 107 (.tuple #[.agg #[.slice (p11 4).A (p11 4).N (p11 4).C],.agg #[.slice (p11 4).A' (p11 4).N' (p11 4).C']]),.v 113 (.agg #[.slice (p11 4).A (p11 4).N (p11 4).C]),.v 114 (.agg #[.slice (p11 4).A' (p11 4).N' (p11 4).C']),.n 18 #[.slice none 0 0] 26,.n 19 #[.slice none 0 0] 26,.p 1008 0 [.slice (p11 4).A (p11 4).N (p11 4).C],.p 1009 0 [.slice (p11 4).A' (p11 4).N' (p11 4).C']]) (fun p11=>[(0,.pointer (some ⟨p,0,none⟩)),(4,pT (p1 1).N 0),(5,pT (p2 11).N 0),(7,pT (p3 11).N 0),(8,pT (p3 12).N 0),(9,pT (p4 8).N 0),(11,pT (p5 13).N 0),(15,pT (p7 9).N 0),(16,pT (p9 7).N 0),(17,pT (p10 9).N 0),(18,pT (p11 8).N 0),(19,pT (p11 9).N 0)]) (fun p11=>?_) (fun p11 W11 T hF hK=>?_)
 ·refine okv ?_
  iterate 3 refine okl ?_
  refine okc (fun W cx=>as_h cx.hb (unhide HD _ _ _ (p2 7).C' _ _ (p5 5).C _ _ (p9 6).C ⟨_,_,cx.B 0 _ rfl (by kernel_rfl) (by kernel_rfl),hp0⟩ (Mine.num cx.G.2.2.2.2.2.2.2.2.2.2.2.2.2.2.1) (Mine.num cx.G.2.2.2.2.2.2.2.2.1) (Mine.num cx.G.2.2.2.1))) ?_
  iterate 3 refine okv ?_
  iterate 2 refine okn ?_
  iterate 2 refine okp ?_
  exact ok_nil
 replace hS:=SymF.fc hS hF [0,1,2,4,5,6,8,9,10,11,1008,1009] [⟨p,cs9,t9_,false⟩,⟨(p1 1).N,#[.slice none 0 0,.slice none 0 0,.slice none 0 0,.slice none 0 0,.slice none 0 0,.bool false],190,true⟩,⟨(p2 11).N,#[.slice (p2 7).A (p2 7).N (p2 7).C],26,true⟩,⟨(p3 11).N,#[.slice (p3 7).A (p3 7).N (p3 7).C],26,true⟩,⟨(p3 12).N,#[.slice (p3 7).A' (p3 7).N' (p3 7).C'],26,true⟩,⟨(p4 8).N,#[.slice (p4 7).A (p4 7).N (p4 7).C],26,true⟩,⟨(p5 13).N,#[.slice (p5 11).A (p5 11).N (p5 11).C],26,true⟩,⟨(p7 9).N,#[.slice (p7 4).A' (p7 4).N' (p7 4).C'],26,true⟩,⟨(p9 7).N,#[.slice (p9 6).A (p9 6).N (p9 6).C],26,true⟩,⟨(p10 9).N,#[.slice (p10 8).A (p10 8).N (p10 8).C],26,true⟩,⟨(p11 8).N,#[.slice (p11 4).A (p11 4).N (p11 4).C],26,true⟩,⟨(p11 9).N,#[.slice (p11 4).A' (p11 4).N' (p11 4).C'],26,true⟩]
 replace hG:GsAt (gM W10.heap.size (p11 4).A (p11 4).N (p11 4).C pa :: gM W10.heap.size (p11 4).A' (p11 4).N' (p11 4).C' br :: _) W11:=⟨And.left (hF.fx 4),And.right (hF.fx 4),hF.gx⟩
 clear hF
 have z11:=hS.fr.size
 refine wq hS hG hK (fun p12=>[.v 116 (.pointer (some ⟨p,0,none⟩)),.l 117 (.agg #[.slice (p3 7).A' (p3 7).N' (p3 7).C']) 4 0,.l 118 (.agg #[.slice (p5 11).A (p5 11).N (p5 11).C]) 6 0,.l 119 (.agg #[.slice (p9 6).A (p9 6).N (p9 6).C]) 8 0,.c (some 120) (cH W11.heap.size pb bs fun x9 y9=>.tuple #[.agg #[x9],.agg #[y9]]),.v 115 (.tuple #[.agg #[.slice (p12 4).A (p12 4).N (p12 4).C],.agg #[.slice (p12 4).A' (p12 4).N' (p12 4).C']]),.v 121 (.agg #[.slice (p12 4).A (p12 4).N (p12 4).C]),.v 122 (.agg #[.slice (p12 4).A' (p12 4).N' (p12 4).C']),.n 20 #[.slice none 0 0] 26,.n 21 #[.slice none 0 0] 26,.p 1008 0 [.slice (p12 4).A (p12 4).N (p12 4).C],.p 1009 0 [.slice (p12 4).A' (p12 4).N' (p12 4).C']]) (fun p12=>[(0,.pointer (some ⟨p,0,none⟩)),(4,pT (p1 1).N 0),(5,pT (p2 11).N 0),(7,pT (p3 11).N 0),(9,pT (p4 8).N 0),(15,pT (p7 9).N 0),(17,pT (p10 9).N 0),(18,pT (p11 8).N 0),(19,pT (p11 9).N 0),(20,pT (p12 8).N 0)]) (fun p12=>?_) (fun p12 W12 T hF hK=>?_)
 ·refine okv ?_
  iterate 3 refine okl ?_
  refine okc (fun W cx=>as_h cx.hb (unhide HE _ _ _ (p3 7).C' _ _ (p5 11).C _ _ (p9 6).C ⟨_,_,cx.B 0 _ rfl (by kernel_rfl) (by kernel_rfl),hp0⟩ (Mine.num cx.G.2.2.2.2.2.2.2.2.2.2.2.2.2.2.1) (Mine.num cx.G.2.2.2.2.2.2.2.2.2.2.2.1) (Mine.num cx.G.2.2.2.2.2.1))) ?_
  iterate 3 refine okv ?_
  iterate 2 refine okn ?_
  iterate 2 refine okp ?_
  exact ok_nil
 replace hS:=SymF.fc hS hF [0,1,2,3,5,7,9,10,11,1008] [⟨p,cs9,t9_,false⟩,⟨(p1 1).N,#[.slice none 0 0,.slice none 0 0,.slice none 0 0,.slice none 0 0,.slice none 0 0,.bool false],190,true⟩,⟨(p2 11).N,#[.slice (p2 7).A (p2 7).N (p2 7).C],26,true⟩,⟨(p3 11).N,#[.slice (p3 7).A (p3 7).N (p3 7).C],26,true⟩,⟨(p4 8).N,#[.slice (p4 7).A (p4 7).N (p4 7).C],26,true⟩,⟨(p7 9).N,#[.slice (p7 4).A' (p7 4).N' (p7 4).C'],26,true⟩,⟨(p10 9).N,#[.slice (p10 8).A (p10 8).N (p10 8).C],26,true⟩,⟨(p11 8).N,#[.slice (p11 4).A (p11 4).N (p11 4).C],26,true⟩,⟨(p11 9).N,#[.slice (p11 4).A' (p11 4).N' (p11 4).C'],26,true⟩,⟨(p12 8).N,#[.slice (p12 4).A (p12 4).N (p12 4).C],26,true⟩]
 replace hG:GsAt (gM W11.heap.size (p12 4).A (p12 4).N (p12 4).C pb :: gM W11.heap.size (p12 4).A' (p12 4).N' (p12 4).C' bs :: _) W12:=⟨And.left (hF.fx 4),And.right (hF.fx 4),hF.gx⟩
 clear hF
 refine wq hS hG hK (fun p13=>[.l 123 (.agg #[.slice (p2 7).A (p2 7).N (p2 7).C]) 2 0,.l 124 (.agg #[.slice (p3 7).A (p3 7).N (p3 7).C]) 3 0,.l 125 (.agg #[.slice (p11 4).A (p11 4).N (p11 4).C]) 7 0,.l 126 (.agg #[.slice (p12 4).A (p12 4).N (p12 4).C]) 9 0,.l 127 (.agg #[.slice (p10 8).A (p10 8).N (p10 8).C]) 6 0,.l 128 (.agg #[.slice (p11 4).A' (p11 4).N' (p11 4).C']) 8 0,.c (some 129) (cV (.bool b)),.v 130 (.bool (!b)),.v 131 (.agg #[.slice (p2 7).A (p2 7).N (p2 7).C,.slice (p3 7).A (p3 7).N (p3 7).C,.slice (p11 4).A (p11 4).N (p11 4).C,.slice (p12 4).A (p12 4).N (p12 4).C,.slice (p10 8).A (p10 8).N (p10 8).C,.bool (!b)]),.p 1 0 [.slice (p2 7).A (p2 7).N (p2 7).C,.slice (p3 7).A (p3 7).N (p3 7).C,.slice (p11 4).A (p11 4).N (p11 4).C,.slice (p12 4).A (p12 4).N (p12 4).C,.slice (p10 8).A (p10 8).N (p10 8).C,.bool (!b)]]) (fun p13=>[(0,.pointer (some ⟨p,0,none⟩)),(4,pT (p1 1).N 0),(9,pT (p4 8).N 0),(15,pT (p7 9).N 0)]) (fun p13=>?_) (fun p13 W13 T hF hK=>?_)
 ·iterate 6 refine okl ?_
  refine okc (fun W cx=>as_v (znought (p11 4).A' _ (p11 4).C' _ _ ((Num.zdec (Mine.num cx.G.2.2.2.1)).trans hz))) ?_
  iterate 2 refine okv ?_
  refine okp ?_
  exact ok_nil
 replace hS:=SymF.fc hS hF [0,1,4,5] [⟨p,cs9,t9_,false⟩,⟨(p1 1).N,#[.slice (p2 7).A (p2 7).N (p2 7).C,.slice (p3 7).A (p3 7).N (p3 7).C,.slice (p11 4).A (p11 4).N (p11 4).C,.slice (p12 4).A (p12 4).N (p12 4).C,.slice (p10 8).A (p10 8).N (p10 8).C,.bool (!b)],190,true⟩,⟨(p4 8).N,#[.slice (p4 7).A (p4 7).N (p4 7).C],26,true⟩,⟨(p7 9).N,#[.slice (p7 4).A' (p7 4).N' (p7 4).C'],26,true⟩]
 replace hG:=hF.gx
 clear hF
 refine wp_ret ?_
 exact sym_end hS hK (.agg #[.slice (p2 7).A (p2 7).N (p2 7).C,.slice (p3 7).A (p3 7).N (p3 7).C,.slice (p11 4).A (p11 4).N (p11 4).C,.slice (p12 4).A (p12 4).N (p12 4).C,.slice (p10 8).A (p10 8).N (p10 8).C,.bool (!b)]) [(1,0,6)] [.slice (p2 7).A (p2 7).N (p2 7).C,.slice (p3 7).A (p3 7).N (p3 7).C,.slice (p11 4).A (p11 4).N (p11 4).C,.slice (p12 4).A (p12 4).N (p12 4).C,.slice (p10 8).A (p10 8).N (p10 8).C,.bool (!b)] (by kernel_rfl) (by kernel_rfl) ⟨⟨_,_,_,_,_,_,_,_,_,_,_,_,_,_,_,rfl,Mine.mono hG.2.2.2.2.2.2.2.2.2.2.2.2.2.2.2.2.2.1 z1,Mine.mono hG.2.2.2.2.2.2.2.2.2.2.2.2.2.2.2.1 z2,Mine.mono hG.2.2.1 z10,Mine.mono hG.1 z11,Mine.mono hG.2.2.2.2.2.1 z9⟩,hS.fr⟩
def c5 (B m1 m2 m3 m4 m5:Nat) (b:Bool):Cf:=⟨fun q=>.agg #[.slice q.A q.N q.C,.slice q.A' q.N' q.C',.slice q.A2 q.N2 q.C2,.slice q.A3 q.N3 q.C3,.slice q.A4 q.N4 q.C4,.bool b],fun q W=>Mine W B q.A q.N q.C m1∧Mine W B q.A' q.N' q.C' m2∧Mine W B q.A2 q.N2 q.C2 m3∧Mine W B q.A3 q.N3 q.C3 m4∧Mine W B q.A4 q.N4 q.C4 m5,fun _=>sta_and (sta_mine _ _ _ _ _) (sta_and (sta_mine _ _ _ _ _) (sta_and (sta_mine _ _ _ _ _) (sta_and (sta_mine _ _ _ _ _) (sta_mine _ _ _ _ _))))⟩
theorem as_5 {P:Program} {fn:FuncId} {args:Array Value} {W:World} {B m1 m2 m3 m4 m5:Nat} {b:Bool} (hb:B≤W.heap.size) (h:Calls P fn args W fun en W'=>(∃ A N C A' N' C' A2 N2 C2 A3 N3 C3 A4 N4 C4,en = .returned (.agg #[.slice A N C,.slice A' N' C',.slice A2 N2 C2,.slice A3 N3 C3,.slice A4 N4 C4,.bool b])∧Mine W' W.heap.size A N C m1∧Mine W' W.heap.size A' N' C' m2∧Mine W' W.heap.size A2 N2 C2 m3∧Mine W' W.heap.size A3 N3 C3 m4∧Mine W' W.heap.size A4 N4 C4 m5)∧Below W.heap.size W W'):Calls P fn args W fun en W'=>∃ q,en = .returned ((c5 B m1 m2 m3 m4 m5 b).f q)∧Below W.heap.size W W'∧(c5 B m1 m2 m3 m4 m5 b).g q W':=
 h.mono fun _ _ ⟨⟨a,n,c,a',n',c',a2,n2,c2,a3,n3,c3,a4,n4,c4,h1,k1,k2,k3,k4,k5⟩,h2⟩=>⟨{ pq0 with A:=a,N:=n,C:=c,A':=a',N':=n',C':=c',A2:=a2,N2:=n2,C2:=c2,A3:=a3,N3:=n3,C3:=c3,A4:=a4,N4:=n4,C4:=c4 },h1,h2,k1.mono hb,k2.mono hb,k3.mono hb,k4.mono hb,k5.mono hb⟩
def WSpl (p:Nat) (s t:Bool) (m1 d1 m2 d2 wa wb pa pb dn:Nat) (b:Bool):Prop:=∀ (W:World) (a1:Option Addr) (n1 c1:Nat) (a2:Option Addr) (n2 c2:Nat) (a3:Option Addr) (n3 c3:Nat) (a4:Option Addr) (n4 c4:Nat),Rz W p 0→Num W a1 n1 m1→Num W a2 n2 d1→Num W a3 n3 m2→Num W a4 n4 d2→Calls Tryz.prog 139 #[.pointer (some ⟨p,0,none⟩),.agg #[.bool s,.slice a1 n1 c1,.slice a2 n2 c2,.bool t,.slice a3 n3 c3,.slice a4 n4 c4]] W fun en W'=>(∃ A N C A' N' C' A2 N2 C2 A3 N3 C3 A4 N4 C4,en = .returned (.agg #[.slice A N C,.slice A' N' C',.slice A2 N2 C2,.slice A3 N3 C3,.slice A4 N4 C4,.bool b])∧Mine W' W.heap.size A N C wa∧Mine W' W.heap.size A' N' C' wb∧Mine W' W.heap.size A2 N2 C2 pa∧Mine W' W.heap.size A3 N3 C3 pb∧Mine W' W.heap.size A4 N4 C4 dn)∧Below W.heap.size W W'
def WFr (p:Nat) (s:Bool) (x y:Nat) (g:Bool):Prop:=∀ (W:World) (a:Option Addr) (n c:Nat) (a':Option Addr) (n' c':Nat),Rz W p 0→Num W a n x→Num W a' n' y→Calls Tryz.prog 46 #[.pointer (some ⟨p,0,none⟩),.bool s,.agg #[.slice a n c],.agg #[.slice a' n' c']] W fun en W'=>en = .returned (.tuple #[.agg #[.bool g,.slice a n c,.slice a' n' c'],.int .i64 0])∧Below W.heap.size W W'
theorem ztog_t (w:World) (p:Nat) (a1 a2 a3 a4:Option Addr) (n1 n2 n3 n4 c1 c2 c3 c4 m1 d1 m2 d2:Nat) (s g:Bool) (wa wb pa pb dn u v x y z:Nat) (hR:Rz w p 0) (h1:Num w a1 n1 m1) (h2:Num w a2 n2 d1) (h3:Num w a3 n3 m2) (h4:Num w a4 n4 d2) (HS:Hid (WSpl p s s m1 d1 m2 d2 wa wb pa pb dn true)) (H1:Hid (WTwo 135 p pa pb u)) (H2:Hid (WTwo 135 p u 1 v)) (H3:Hid (WTwo 135 p wa wb x)) (H4:Hid (WTwo 62 p x dn y)) (H5:Hid (WTwo 135 p v y z)) (HF:Hid (WFr p s z dn g))  :
  Calls Tryz.prog 114 #[.pointer (some ⟨p,0,none⟩),.agg #[.bool s,.slice a1 n1 c1,.slice a2 n2 c2,.bool s,.slice a3 n3 c3,.slice a4 n4 c4]] w fun en w'=>(∃ A N C A' N' C',en = .returned (.tuple #[.agg #[.bool g,.slice A N C,.slice A' N' C'],.int .i64 0])∧Mine w' w.heap.size A N C z∧Mine w' w.heap.size A' N' C' dn)∧Below w.heap.size w w':=by
 obtain ⟨cs9,t9_,hp,hp0⟩:=hR
 refine calls_sym Tryz.func114 rfl (by kernel_rfl) fun T hK=>?_
 replace hK:Kn T _ [(0,.pointer (some ⟨p,0,none⟩)),(1,.agg #[.bool s,.slice a1 n1 c1,.slice a2 n2 c2,.bool s,.slice a3 n3 c3,.slice a4 n4 c4])]:=hK
 have hS:=Fb.other hp
 have hG:GsAt [gN a1 n1 m1,gN a2 n2 d1,gN a3 n3 m2,gN a4 n4 d2] w:=⟨h1,h2,h3,h4,trivial⟩
 refine wq hS hG hK (fun p1=>[.n 3 #[.bool s,.slice a1 n1 c1,.slice a2 n2 c2,.bool s,.slice a3 n3 c3,.slice a4 n4 c4] 67,.n 4 #[.bool false,.slice none 0 0,.slice none 0 0] 28,.v 5 (.int .i64 0)]) (fun p1=>[(0,.pointer (some ⟨p,0,none⟩)),(3,pT (p1 0).N 0),(4,pT (p1 1).N 0),(5,.int .i64 0)]) (fun p1=>?_) (fun p1 W1 T hF hK=>?_)
 ·iterate 2 refine okn ?_
  refine okv ?_
  exact ok_nil
 replace hS:=SymF.fc hS hF [0,1000,1001] [⟨p,cs9,t9_,false⟩,⟨(p1 0).N,#[.bool s,.slice a1 n1 c1,.slice a2 n2 c2,.bool s,.slice a3 n3 c3,.slice a4 n4 c4],67,true⟩,⟨(p1 1).N,#[.bool false,.slice none 0 0,.slice none 0 0],28,true⟩]
 replace hG:=hF.gx
 clear hF
 have z1:=hS.fr.size
 refine wq hS hG hK (fun p2=>[.v 8 (.pointer (some ⟨p,0,none⟩)),.l 9 (.agg #[.bool s,.slice a1 n1 c1,.slice a2 n2 c2,.bool s,.slice a3 n3 c3,.slice a4 n4 c4]) 1 0,.c (some 10) (c5 W1.heap.size wa wb pa pb dn true),.n 6 #[.slice none 0 0,.slice none 0 0,.slice none 0 0,.slice none 0 0,.slice none 0 0,.bool false] 190,.p 1003 0 [.slice (p2 2).A (p2 2).N (p2 2).C,.slice (p2 2).A' (p2 2).N' (p2 2).C',.slice (p2 2).A2 (p2 2).N2 (p2 2).C2,.slice (p2 2).A3 (p2 2).N3 (p2 2).C3,.slice (p2 2).A4 (p2 2).N4 (p2 2).C4,.bool true]]) (fun p2=>[(0,.pointer (some ⟨p,0,none⟩)),(3,pT (p1 0).N 0),(4,pT (p1 1).N 0),(5,.int .i64 0),(6,pT (p2 3).N 0)]) (fun p2=>?_) (fun p2 W2 T hF hK=>?_)
 ·refine okv ?_
  refine okl ?_
  refine okc (fun W cx=>as_5 cx.hb (unhide HS _ _ _ c1 _ _ c2 _ _ c3 _ _ c4 ⟨_,_,cx.B 0 _ rfl (by kernel_rfl) (by kernel_rfl),hp0⟩ (cx.G.1) (cx.G.2.1) (cx.G.2.2.1) (cx.G.2.2.2.1))) ?_
  refine okn ?_
  refine okp ?_
  exact ok_nil
 replace hS:=SymF.fc hS hF [0,1,2,1003] [⟨p,cs9,t9_,false⟩,⟨(p1 0).N,#[.bool s,.slice a1 n1 c1,.slice a2 n2 c2,.bool s,.slice a3 n3 c3,.slice a4 n4 c4],67,true⟩,⟨(p1 1).N,#[.bool false,.slice none 0 0,.slice none 0 0],28,true⟩,⟨(p2 3).N,#[.slice (p2 2).A (p2 2).N (p2 2).C,.slice (p2 2).A' (p2 2).N' (p2 2).C',.slice (p2 2).A2 (p2 2).N2 (p2 2).C2,.slice (p2 2).A3 (p2 2).N3 (p2 2).C3,.slice (p2 2).A4 (p2 2).N4 (p2 2).C4,.bool true],190,true⟩]
 replace hG:GsAt (gM W1.heap.size (p2 2).A (p2 2).N (p2 2).C wa :: gM W1.heap.size (p2 2).A' (p2 2).N' (p2 2).C' wb :: gM W1.heap.size (p2 2).A2 (p2 2).N2 (p2 2).C2 pa :: gM W1.heap.size (p2 2).A3 (p2 2).N3 (p2 2).C3 pb :: gM W1.heap.size (p2 2).A4 (p2 2).N4 (p2 2).C4 dn :: _) W2:=⟨(hF.fx 2).1,(hF.fx 2).2.1,(hF.fx 2).2.2.1,(hF.fx 2).2.2.2.1,(hF.fx 2).2.2.2.2,hF.gx⟩
 clear hF
 refine wq hS hG hK (fun p3=>[.v 11 (.pointer (some ⟨p,0,none⟩)),.v 12 (pT (p2 3).N 2),.l 13 (.agg #[.slice (p2 2).A2 (p2 2).N2 (p2 2).C2]) 3 2,.v 14 (pT (p2 3).N 3),.l 15 (.agg #[.slice (p2 2).A3 (p2 2).N3 (p2 2).C3]) 3 3,.c (some 16) (cN W2.heap.size u),.n 7 #[.slice none 0 0] 26,.p 1006 0 [.slice (p3 5).A (p3 5).N (p3 5).C]]) (fun p3=>[(0,.pointer (some ⟨p,0,none⟩)),(3,pT (p1 0).N 0),(4,pT (p1 1).N 0),(5,.int .i64 0),(6,pT (p2 3).N 0),(7,pT (p3 6).N 0)]) (fun p3=>?_) (fun p3 W3 T hF hK=>?_)
 ·iterate 2 refine okv ?_
  refine okl ?_
  refine okv ?_
  refine okl ?_
  refine okc (fun W cx=>as_n cx.hb (unhide H1 _ _ _ (p2 2).C2 _ _ (p2 2).C3 ⟨_,_,cx.B 0 _ rfl (by kernel_rfl) (by kernel_rfl),hp0⟩ (Mine.num cx.G.2.2.1) (Mine.num cx.G.2.2.2.1))) ?_
  refine okn ?_
  refine okp ?_
  exact ok_nil
 replace hS:=SymF.fc hS hF [0,1,2,3,1006] [⟨p,cs9,t9_,false⟩,⟨(p1 0).N,#[.bool s,.slice a1 n1 c1,.slice a2 n2 c2,.bool s,.slice a3 n3 c3,.slice a4 n4 c4],67,true⟩,⟨(p1 1).N,#[.bool false,.slice none 0 0,.slice none 0 0],28,true⟩,⟨(p2 3).N,#[.slice (p2 2).A (p2 2).N (p2 2).C,.slice (p2 2).A' (p2 2).N' (p2 2).C',.slice (p2 2).A2 (p2 2).N2 (p2 2).C2,.slice (p2 2).A3 (p2 2).N3 (p2 2).C3,.slice (p2 2).A4 (p2 2).N4 (p2 2).C4,.bool true],190,true⟩,⟨(p3 6).N,#[.slice (p3 5).A (p3 5).N (p3 5).C],26,true⟩]
 replace hG:GsAt (gM W2.heap.size (p3 5).A (p3 5).N (p3 5).C u :: _) W3:=⟨hF.fx 5,hF.gx⟩
 clear hF
 refine wp_seq ?_
 refine wq hS hG hK (fun p4=>[.v 17 (pT (p2 3).N 5),.l 18 (.bool true) 3 5]) (fun p4=>[(0,.pointer (some ⟨p,0,none⟩)),(3,pT (p1 0).N 0),(4,pT (p1 1).N 0),(5,.int .i64 0),(6,pT (p2 3).N 0),(7,pT (p3 6).N 0),(18,.bool true)]) (fun p4=>?_) (fun p4 W4 T hF hK=>?_)
 ·refine okv ?_
  refine okl ?_
  exact ok_nil
 obtain ⟨hS,hG⟩:=SymF.fg hS hF
 clear hF
 refine wp_cond_true (hK.ew 18) ?_
 refine wg hS hG hK (fun p5=>[.v 19 (.pointer (some ⟨p,0,none⟩)),.l 20 (.agg #[.slice (p3 5).A (p3 5).N (p3 5).C]) 4 0,.c (some 21) (cN W4.heap.size 1),.c (some 22) (cN W4.heap.size v),.p 4 0 [.slice (p5 3).A (p5 3).N (p5 3).C]]) (fun p5=>[(0,.pointer (some ⟨p,0,none⟩)),(3,pT (p1 0).N 0),(4,pT (p1 1).N 0),(5,.int .i64 0),(6,pT (p2 3).N 0),(7,pT (p3 6).N 0)]) (fun p5=>?_) (fun p5 W5 T hF hK=>?_)
 ·refine okv ?_
  refine okl ?_
  refine okc (fun W cx=>as_n cx.hb (of_any 1 _ (by decide))) ?_
  refine okc (fun W cx=>as_n cx.hb (unhide H2 _ _ _ (p3 5).C _ _ (p5 2).C ⟨_,_,cx.B 0 _ rfl (by kernel_rfl) (by kernel_rfl),hp0⟩ (Mine.num cx.G.1) (Mine.num (cx.F 2 (by kernel_rfl))))) ?_
  refine okp ?_
  exact ok_nil
 replace hS:=SymF.fc hS hF [0,1,2,3,4] [⟨p,cs9,t9_,false⟩,⟨(p1 0).N,#[.bool s,.slice a1 n1 c1,.slice a2 n2 c2,.bool s,.slice a3 n3 c3,.slice a4 n4 c4],67,true⟩,⟨(p1 1).N,#[.bool false,.slice none 0 0,.slice none 0 0],28,true⟩,⟨(p2 3).N,#[.slice (p2 2).A (p2 2).N (p2 2).C,.slice (p2 2).A' (p2 2).N' (p2 2).C',.slice (p2 2).A2 (p2 2).N2 (p2 2).C2,.slice (p2 2).A3 (p2 2).N3 (p2 2).C3,.slice (p2 2).A4 (p2 2).N4 (p2 2).C4,.bool true],190,true⟩,⟨(p3 6).N,#[.slice (p5 3).A (p5 3).N (p5 3).C],26,true⟩]
 replace hG:GsAt (gM W4.heap.size (p5 2).A (p5 2).N (p5 2).C 1 :: gM W4.heap.size (p5 3).A (p5 3).N (p5 3).C v :: _) W5:=⟨hF.fx 2,hF.fx 3,hF.gx⟩
 clear hF
 have z5:=hS.fr.size
 refine then_n ?_
 refine wq hS hG hK (fun p6=>[.v 23 (.pointer (some ⟨p,0,none⟩)),.l 24 (.agg #[.slice (p5 3).A (p5 3).N (p5 3).C]) 4 0,.v 25 (.pointer (some ⟨p,0,none⟩)),.v 26 (.pointer (some ⟨p,0,none⟩)),.v 27 (pT (p2 3).N 0),.l 28 (.agg #[.slice (p2 2).A (p2 2).N (p2 2).C]) 3 0,.v 29 (pT (p2 3).N 1),.l 30 (.agg #[.slice (p2 2).A' (p2 2).N' (p2 2).C']) 3 1,.c (some 31) (cN W5.heap.size x),.v 32 (pT (p2 3).N 4),.l 33 (.agg #[.slice (p2 2).A4 (p2 2).N4 (p2 2).C4]) 3 4,.c (some 34) (cN W5.heap.size y),.c (some 35) (cN W5.heap.size z),.p 4 0 [.slice (p6 12).A (p6 12).N (p6 12).C]]) (fun p6=>[(0,.pointer (some ⟨p,0,none⟩)),(3,pT (p1 0).N 0),(4,pT (p1 1).N 0),(5,.int .i64 0),(6,pT (p2 3).N 0),(7,pT (p3 6).N 0)]) (fun p6=>?_) (fun p6 W6 T hF hK=>?_)
 ·refine okv ?_
  refine okl ?_
  iterate 3 refine okv ?_
  refine okl ?_
  refine okv ?_
  refine okl ?_
  refine okc (fun W cx=>as_n cx.hb (unhide H3 _ _ _ (p2 2).C _ _ (p2 2).C' ⟨_,_,cx.B 0 _ rfl (by kernel_rfl) (by kernel_rfl),hp0⟩ (Mine.num cx.G.2.2.2.1) (Mine.num cx.G.2.2.2.2.1))) ?_
  refine okv ?_
  refine okl ?_
  refine okc (fun W cx=>as_n cx.hb (unhide H4 _ _ _ (p6 8).C _ _ (p2 2).C4 ⟨_,_,cx.B 0 _ rfl (by kernel_rfl) (by kernel_rfl),hp0⟩ (Mine.num (cx.F 8 (by kernel_rfl))) (Mine.num cx.G.2.2.2.2.2.2.2.1))) ?_
  refine okc (fun W cx=>as_n cx.hb (unhide H5 _ _ _ (p5 3).C _ _ (p6 11).C ⟨_,_,cx.B 0 _ rfl (by kernel_rfl) (by kernel_rfl),hp0⟩ (Mine.num cx.G.2.1) (Mine.num (cx.F 11 (by kernel_rfl))))) ?_
  refine okp ?_
  exact ok_nil
 replace hS:=SymF.fc hS hF [0,1,2,3,4] [⟨p,cs9,t9_,false⟩,⟨(p1 0).N,#[.bool s,.slice a1 n1 c1,.slice a2 n2 c2,.bool s,.slice a3 n3 c3,.slice a4 n4 c4],67,true⟩,⟨(p1 1).N,#[.bool false,.slice none 0 0,.slice none 0 0],28,true⟩,⟨(p2 3).N,#[.slice (p2 2).A (p2 2).N (p2 2).C,.slice (p2 2).A' (p2 2).N' (p2 2).C',.slice (p2 2).A2 (p2 2).N2 (p2 2).C2,.slice (p2 2).A3 (p2 2).N3 (p2 2).C3,.slice (p2 2).A4 (p2 2).N4 (p2 2).C4,.bool true],190,true⟩,⟨(p3 6).N,#[.slice (p6 12).A (p6 12).N (p6 12).C],26,true⟩]
 replace hG:GsAt (gM W5.heap.size (p6 8).A (p6 8).N (p6 8).C x :: gM W5.heap.size (p6 11).A (p6 11).N (p6 11).C y :: gM W5.heap.size (p6 12).A (p6 12).N (p6 12).C z :: _) W6:=⟨hF.fx 8,hF.fx 11,hF.fx 12,hF.gx⟩
 clear hF
 refine wq hS hG hK (fun p7=>[.v 36 (.pointer (some ⟨p,0,none⟩)),.v 37 (pT (p1 0).N 0),.v 38 (pT (p1 0).N 0),.l 39 (.bool s) 1 0,.l 40 (.agg #[.slice (p6 12).A (p6 12).N (p6 12).C]) 4 0,.v 41 (pT (p2 3).N 4),.l 42 (.agg #[.slice (p2 2).A4 (p2 2).N4 (p2 2).C4]) 3 4,.c (some 43) (cV (.tuple #[.agg #[.bool g,.slice (p6 12).A (p6 12).N (p6 12).C,.slice (p2 2).A4 (p2 2).N4 (p2 2).C4],.int .i64 0])),.v 44 (.agg #[.bool g,.slice (p6 12).A (p6 12).N (p6 12).C,.slice (p2 2).A4 (p2 2).N4 (p2 2).C4]),.v 45 (.int .i64 0),.p 2 0 [.bool g,.slice (p6 12).A (p6 12).N (p6 12).C,.slice (p2 2).A4 (p2 2).N4 (p2 2).C4],.v 5 (.int .i64 0)]) (fun p7=>[(4,pT (p1 1).N 0),(5,.int .i64 0)]) (fun p7=>?_) (fun p7 W7 T hF hK=>?_)
 ·iterate 3 refine okv ?_
  iterate 2 refine okl ?_
  refine okv ?_
  refine okl ?_
  refine okc (fun W cx=>as_v (unhide HF _ _ _ (p6 12).C _ _ (p2 2).C4 ⟨_,_,cx.B 0 _ rfl (by kernel_rfl) (by kernel_rfl),hp0⟩ (Mine.num cx.G.2.2.1) (Mine.num cx.G.2.2.2.2.2.2.2.2.2.2.1))) ?_
  iterate 2 refine okv ?_
  refine okp ?_
  refine okv ?_
  exact ok_nil
 replace hS:=SymF.fc hS hF [0,2] [⟨p,cs9,t9_,false⟩,⟨(p1 1).N,#[.bool g,.slice (p6 12).A (p6 12).N (p6 12).C,.slice (p2 2).A4 (p2 2).N4 (p2 2).C4],28,true⟩]
 replace hG:=hF.gx
 clear hF
 refine wp_ret ?_
 exact sym_end hS hK (.tuple #[.agg #[.bool g,.slice (p6 12).A (p6 12).N (p6 12).C,.slice (p2 2).A4 (p2 2).N4 (p2 2).C4],.int .i64 0]) [(1,0,3)] [.bool g,.slice (p6 12).A (p6 12).N (p6 12).C,.slice (p2 2).A4 (p2 2).N4 (p2 2).C4] (by kernel_rfl) (by kernel_rfl) ⟨⟨_,_,_,_,_,_,rfl,Mine.mono hG.2.2.1 z5,Mine.mono hG.2.2.2.2.2.2.2.2.2.2.1 z1⟩,hS.fr⟩
theorem ztog_f (w:World) (p:Nat) (a1 a2 a3 a4:Option Addr) (n1 n2 n3 n4 c1 c2 c3 c4 m1 d1 m2 d2:Nat) (s g:Bool) (wa wb pa pb dn u x y z:Nat) (hR:Rz w p 0) (h1:Num w a1 n1 m1) (h2:Num w a2 n2 d1) (h3:Num w a3 n3 m2) (h4:Num w a4 n4 d2) (HS:Hid (WSpl p s s m1 d1 m2 d2 wa wb pa pb dn false)) (H1:Hid (WTwo 135 p pa pb u)) (H3:Hid (WTwo 135 p wa wb x)) (H4:Hid (WTwo 62 p x dn y)) (H5:Hid (WTwo 135 p u y z)) (HF:Hid (WFr p s z dn g))  :
  Calls Tryz.prog 114 #[.pointer (some ⟨p,0,none⟩),.agg #[.bool s,.slice a1 n1 c1,.slice a2 n2 c2,.bool s,.slice a3 n3 c3,.slice a4 n4 c4]] w fun en w'=>(∃ A N C A' N' C',en = .returned (.tuple #[.agg #[.bool g,.slice A N C,.slice A' N' C'],.int .i64 0])∧Mine w' w.heap.size A N C z∧Mine w' w.heap.size A' N' C' dn)∧Below w.heap.size w w':=by
 obtain ⟨cs9,t9_,hp,hp0⟩:=hR
 refine calls_sym Tryz.func114 rfl (by kernel_rfl) fun T hK=>?_
 replace hK:Kn T _ [(0,.pointer (some ⟨p,0,none⟩)),(1,.agg #[.bool s,.slice a1 n1 c1,.slice a2 n2 c2,.bool s,.slice a3 n3 c3,.slice a4 n4 c4])]:=hK
 have hS:=Fb.other hp
 have hG:GsAt [gN a1 n1 m1,gN a2 n2 d1,gN a3 n3 m2,gN a4 n4 d2] w:=⟨h1,h2,h3,h4,trivial⟩
 refine wq hS hG hK (fun p1=>[.n 3 #[.bool s,.slice a1 n1 c1,.slice a2 n2 c2,.bool s,.slice a3 n3 c3,.slice a4 n4 c4] 67,.n 4 #[.bool false,.slice none 0 0,.slice none 0 0] 28,.v 5 (.int .i64 0)]) (fun p1=>[(0,.pointer (some ⟨p,0,none⟩)),(3,pT (p1 0).N 0),(4,pT (p1 1).N 0),(5,.int .i64 0)]) (fun p1=>?_) (fun p1 W1 T hF hK=>?_)
 ·iterate 2 refine okn ?_
  refine okv ?_
  exact ok_nil
 replace hS:=SymF.fc hS hF [0,1000,1001] [⟨p,cs9,t9_,false⟩,⟨(p1 0).N,#[.bool s,.slice a1 n1 c1,.slice a2 n2 c2,.bool s,.slice a3 n3 c3,.slice a4 n4 c4],67,true⟩,⟨(p1 1).N,#[.bool false,.slice none 0 0,.slice none 0 0],28,true⟩]
 replace hG:=hF.gx
 clear hF
 have z1:=hS.fr.size
 refine wq hS hG hK (fun p2=>[.v 8 (.pointer (some ⟨p,0,none⟩)),.l 9 (.agg #[.bool s,.slice a1 n1 c1,.slice a2 n2 c2,.bool s,.slice a3 n3 c3,.slice a4 n4 c4]) 1 0,.c (some 10) (c5 W1.heap.size wa wb pa pb dn false),.n 6 #[.slice none 0 0,.slice none 0 0,.slice none 0 0,.slice none 0 0,.slice none 0 0,.bool false] 190,.p 1003 0 [.slice (p2 2).A (p2 2).N (p2 2).C,.slice (p2 2).A' (p2 2).N' (p2 2).C',.slice (p2 2).A2 (p2 2).N2 (p2 2).C2,.slice (p2 2).A3 (p2 2).N3 (p2 2).C3,.slice (p2 2).A4 (p2 2).N4 (p2 2).C4,.bool false]]) (fun p2=>[(0,.pointer (some ⟨p,0,none⟩)),(3,pT (p1 0).N 0),(4,pT (p1 1).N 0),(5,.int .i64 0),(6,pT (p2 3).N 0)]) (fun p2=>?_) (fun p2 W2 T hF hK=>?_)
 ·refine okv ?_
  refine okl ?_
  refine okc (fun W cx=>as_5 cx.hb (unhide HS _ _ _ c1 _ _ c2 _ _ c3 _ _ c4 ⟨_,_,cx.B 0 _ rfl (by kernel_rfl) (by kernel_rfl),hp0⟩ (cx.G.1) (cx.G.2.1) (cx.G.2.2.1) (cx.G.2.2.2.1))) ?_
  refine okn ?_
  refine okp ?_
  exact ok_nil
 replace hS:=SymF.fc hS hF [0,1,2,1003] [⟨p,cs9,t9_,false⟩,⟨(p1 0).N,#[.bool s,.slice a1 n1 c1,.slice a2 n2 c2,.bool s,.slice a3 n3 c3,.slice a4 n4 c4],67,true⟩,⟨(p1 1).N,#[.bool false,.slice none 0 0,.slice none 0 0],28,true⟩,⟨(p2 3).N,#[.slice (p2 2).A (p2 2).N (p2 2).C,.slice (p2 2).A' (p2 2).N' (p2 2).C',.slice (p2 2).A2 (p2 2).N2 (p2 2).C2,.slice (p2 2).A3 (p2 2).N3 (p2 2).C3,.slice (p2 2).A4 (p2 2).N4 (p2 2).C4,.bool false],190,true⟩]
 replace hG:GsAt (gM W1.heap.size (p2 2).A (p2 2).N (p2 2).C wa :: gM W1.heap.size (p2 2).A' (p2 2).N' (p2 2).C' wb :: gM W1.heap.size (p2 2).A2 (p2 2).N2 (p2 2).C2 pa :: gM W1.heap.size (p2 2).A3 (p2 2).N3 (p2 2).C3 pb :: gM W1.heap.size (p2 2).A4 (p2 2).N4 (p2 2).C4 dn :: _) W2:=⟨(hF.fx 2).1,(hF.fx 2).2.1,(hF.fx 2).2.2.1,(hF.fx 2).2.2.2.1,(hF.fx 2).2.2.2.2,hF.gx⟩
 clear hF
 refine wq hS hG hK (fun p3=>[.v 11 (.pointer (some ⟨p,0,none⟩)),.v 12 (pT (p2 3).N 2),.l 13 (.agg #[.slice (p2 2).A2 (p2 2).N2 (p2 2).C2]) 3 2,.v 14 (pT (p2 3).N 3),.l 15 (.agg #[.slice (p2 2).A3 (p2 2).N3 (p2 2).C3]) 3 3,.c (some 16) (cN W2.heap.size u),.n 7 #[.slice none 0 0] 26,.p 1006 0 [.slice (p3 5).A (p3 5).N (p3 5).C]]) (fun p3=>[(0,.pointer (some ⟨p,0,none⟩)),(3,pT (p1 0).N 0),(4,pT (p1 1).N 0),(5,.int .i64 0),(6,pT (p2 3).N 0),(7,pT (p3 6).N 0)]) (fun p3=>?_) (fun p3 W3 T hF hK=>?_)
 ·iterate 2 refine okv ?_
  refine okl ?_
  refine okv ?_
  refine okl ?_
  refine okc (fun W cx=>as_n cx.hb (unhide H1 _ _ _ (p2 2).C2 _ _ (p2 2).C3 ⟨_,_,cx.B 0 _ rfl (by kernel_rfl) (by kernel_rfl),hp0⟩ (Mine.num cx.G.2.2.1) (Mine.num cx.G.2.2.2.1))) ?_
  refine okn ?_
  refine okp ?_
  exact ok_nil
 replace hS:=SymF.fc hS hF [0,1,2,3,1006] [⟨p,cs9,t9_,false⟩,⟨(p1 0).N,#[.bool s,.slice a1 n1 c1,.slice a2 n2 c2,.bool s,.slice a3 n3 c3,.slice a4 n4 c4],67,true⟩,⟨(p1 1).N,#[.bool false,.slice none 0 0,.slice none 0 0],28,true⟩,⟨(p2 3).N,#[.slice (p2 2).A (p2 2).N (p2 2).C,.slice (p2 2).A' (p2 2).N' (p2 2).C',.slice (p2 2).A2 (p2 2).N2 (p2 2).C2,.slice (p2 2).A3 (p2 2).N3 (p2 2).C3,.slice (p2 2).A4 (p2 2).N4 (p2 2).C4,.bool false],190,true⟩,⟨(p3 6).N,#[.slice (p3 5).A (p3 5).N (p3 5).C],26,true⟩]
 replace hG:GsAt (gM W2.heap.size (p3 5).A (p3 5).N (p3 5).C u :: _) W3:=⟨hF.fx 5,hF.gx⟩
 clear hF
 refine wp_seq ?_
 refine wq hS hG hK (fun p4=>[.v 17 (pT (p2 3).N 5),.l 18 (.bool false) 3 5]) (fun p4=>[(0,.pointer (some ⟨p,0,none⟩)),(3,pT (p1 0).N 0),(4,pT (p1 1).N 0),(5,.int .i64 0),(6,pT (p2 3).N 0),(7,pT (p3 6).N 0),(18,.bool false)]) (fun p4=>?_) (fun p4 W4 T hF hK=>?_)
 ·refine okv ?_
  refine okl ?_
  exact ok_nil
 obtain ⟨hS,hG⟩:=SymF.fg hS hF
 clear hF
 have z4:=hS.fr.size
 refine wp_cond_false (hK.ew 18) (wp_skip (then_n ?_))
 refine wq hS hG hK (fun p5=>[.v 23 (.pointer (some ⟨p,0,none⟩)),.l 24 (.agg #[.slice (p3 5).A (p3 5).N (p3 5).C]) 4 0,.v 25 (.pointer (some ⟨p,0,none⟩)),.v 26 (.pointer (some ⟨p,0,none⟩)),.v 27 (pT (p2 3).N 0),.l 28 (.agg #[.slice (p2 2).A (p2 2).N (p2 2).C]) 3 0,.v 29 (pT (p2 3).N 1),.l 30 (.agg #[.slice (p2 2).A' (p2 2).N' (p2 2).C']) 3 1,.c (some 31) (cN W4.heap.size x),.v 32 (pT (p2 3).N 4),.l 33 (.agg #[.slice (p2 2).A4 (p2 2).N4 (p2 2).C4]) 3 4,.c (some 34) (cN W4.heap.size y),.c (some 35) (cN W4.heap.size z),.p 4 0 [.slice (p5 12).A (p5 12).N (p5 12).C]]) (fun p5=>[(0,.pointer (some ⟨p,0,none⟩)),(3,pT (p1 0).N 0),(4,pT (p1 1).N 0),(5,.int .i64 0),(6,pT (p2 3).N 0),(7,pT (p3 6).N 0)]) (fun p5=>?_) (fun p5 W5 T hF hK=>?_)
 ·refine okv ?_
  refine okl ?_
  iterate 3 refine okv ?_
  refine okl ?_
  refine okv ?_
  refine okl ?_
  refine okc (fun W cx=>as_n cx.hb (unhide H3 _ _ _ (p2 2).C _ _ (p2 2).C' ⟨_,_,cx.B 0 _ rfl (by kernel_rfl) (by kernel_rfl),hp0⟩ (Mine.num cx.G.2.1) (Mine.num cx.G.2.2.1))) ?_
  refine okv ?_
  refine okl ?_
  refine okc (fun W cx=>as_n cx.hb (unhide H4 _ _ _ (p5 8).C _ _ (p2 2).C4 ⟨_,_,cx.B 0 _ rfl (by kernel_rfl) (by kernel_rfl),hp0⟩ (Mine.num (cx.F 8 (by kernel_rfl))) (Mine.num cx.G.2.2.2.2.2.1))) ?_
  refine okc (fun W cx=>as_n cx.hb (unhide H5 _ _ _ (p3 5).C _ _ (p5 11).C ⟨_,_,cx.B 0 _ rfl (by kernel_rfl) (by kernel_rfl),hp0⟩ (Mine.num cx.G.1) (Mine.num (cx.F 11 (by kernel_rfl))))) ?_
  refine okp ?_
  exact ok_nil
 replace hS:=SymF.fc hS hF [0,1,2,3,4] [⟨p,cs9,t9_,false⟩,⟨(p1 0).N,#[.bool s,.slice a1 n1 c1,.slice a2 n2 c2,.bool s,.slice a3 n3 c3,.slice a4 n4 c4],67,true⟩,⟨(p1 1).N,#[.bool false,.slice none 0 0,.slice none 0 0],28,true⟩,⟨(p2 3).N,#[.slice (p2 2).A (p2 2).N (p2 2).C,.slice (p2 2).A' (p2 2).N' (p2 2).C',.slice (p2 2).A2 (p2 2).N2 (p2 2).C2,.slice (p2 2).A3 (p2 2).N3 (p2 2).C3,.slice (p2 2).A4 (p2 2).N4 (p2 2).C4,.bool false],190,true⟩,⟨(p3 6).N,#[.slice (p5 12).A (p5 12).N (p5 12).C],26,true⟩]
 replace hG:GsAt (gM W4.heap.size (p5 8).A (p5 8).N (p5 8).C x :: gM W4.heap.size (p5 11).A (p5 11).N (p5 11).C y :: gM W4.heap.size (p5 12).A (p5 12).N (p5 12).C z :: _) W5:=⟨hF.fx 8,hF.fx 11,hF.fx 12,hF.gx⟩
 clear hF
 refine wq hS hG hK (fun p6=>[.v 36 (.pointer (some ⟨p,0,none⟩)),.v 37 (pT (p1 0).N 0),.v 38 (pT (p1 0).N 0),.l 39 (.bool s) 1 0,.l 40 (.agg #[.slice (p5 12).A (p5 12).N (p5 12).C]) 4 0,.v 41 (pT (p2 3).N 4),.l 42 (.agg #[.slice (p2 2).A4 (p2 2).N4 (p2 2).C4]) 3 4,.c (some 43) (cV (.tuple #[.agg #[.bool g,.slice (p5 12).A (p5 12).N (p5 12).C,.slice (p2 2).A4 (p2 2).N4 (p2 2).C4],.int .i64 0])),.v 44 (.agg #[.bool g,.slice (p5 12).A (p5 12).N (p5 12).C,.slice (p2 2).A4 (p2 2).N4 (p2 2).C4]),.v 45 (.int .i64 0),.p 2 0 [.bool g,.slice (p5 12).A (p5 12).N (p5 12).C,.slice (p2 2).A4 (p2 2).N4 (p2 2).C4],.v 5 (.int .i64 0)]) (fun p6=>[(0,.pointer (some ⟨p,0,none⟩)),(4,pT (p1 1).N 0),(5,.int .i64 0),(7,pT (p3 6).N 0)]) (fun p6=>?_) (fun p6 W6 T hF hK=>?_)
 ·iterate 3 refine okv ?_
  iterate 2 refine okl ?_
  refine okv ?_
  refine okl ?_
  refine okc (fun W cx=>as_v (unhide HF _ _ _ (p5 12).C _ _ (p2 2).C4 ⟨_,_,cx.B 0 _ rfl (by kernel_rfl) (by kernel_rfl),hp0⟩ (Mine.num cx.G.2.2.1) (Mine.num cx.G.2.2.2.2.2.2.2.2.1))) ?_
  iterate 2 refine okv ?_
  refine okp ?_
  refine okv ?_
  exact ok_nil
 replace hS:=SymF.fc hS hF [0,2,4] [⟨p,cs9,t9_,false⟩,⟨(p1 1).N,#[.bool g,.slice (p5 12).A (p5 12).N (p5 12).C,.slice (p2 2).A4 (p2 2).N4 (p2 2).C4],28,true⟩,⟨(p3 6).N,#[.slice (p5 12).A (p5 12).N (p5 12).C],26,true⟩]
 replace hG:=hF.gx
 clear hF
 refine wp_ret ?_
 exact sym_end hS hK (.tuple #[.agg #[.bool g,.slice (p5 12).A (p5 12).N (p5 12).C,.slice (p2 2).A4 (p2 2).N4 (p2 2).C4],.int .i64 0]) [(1,0,3)] [.bool g,.slice (p5 12).A (p5 12).N (p5 12).C,.slice (p2 2).A4 (p2 2).N4 (p2 2).C4] (by kernel_rfl) (by kernel_rfl) ⟨⟨_,_,_,_,_,_,rfl,Mine.mono hG.2.2.1 z4,Mine.mono hG.2.2.2.2.2.2.2.2.1 z1⟩,hS.fr⟩
def WBel (p wa wb pa pb:Nat) (r:Bool):Prop:=∀ (W:World) (a1:Option Addr) (n1 c1:Nat) (a2:Option Addr) (n2 c2:Nat) (a3:Option Addr) (n3 c3:Nat) (a4:Option Addr) (n4 c4:Nat) (a5:Option Addr) (n5 c5:Nat) (b:Bool),Rz W p 0→Num W a1 n1 wa→Num W a2 n2 wb→Num W a3 n3 pa→Num W a4 n4 pb→Calls Tryz.prog 140 #[.agg #[.slice a1 n1 c1,.slice a2 n2 c2,.slice a3 n3 c3,.slice a4 n4 c4,.slice a5 n5 c5,.bool b],.pointer (some ⟨p,0,none⟩)] W fun en W'=>en = .returned (.bool r)∧Below W.heap.size W W'
theorem Num.znil (w:World):Num w none 0 0:=⟨[],rfl,Or.inl rfl,Pl.wf_nil,Pl.norm_nil,rfl,by omega⟩
theorem zbel_ne (w:World) (p:Nat) (a1 a2 a3 a4 a5:Option Addr) (n1 n2 n3 n4 n5 c1 c2 c3 c4 c5 wa wb pa pb:Nat) (b:Bool) (r1:Int) (g:Bool) (hR:Rz w p 0) (h1:Num w a1 n1 wa) (h2:Num w a2 n2 wb) (h3:Num w a3 n3 pa) (h4:Num w a4 n4 pb) (H1:Hid (WCmp p wa wb r1)) (hr:r1≠0) (hg:decide (r1 < 0) = g)  :
  Calls Tryz.prog 140 #[.agg #[.slice a1 n1 c1,.slice a2 n2 c2,.slice a3 n3 c3,.slice a4 n4 c4,.slice a5 n5 c5,.bool b],.pointer (some ⟨p,0,none⟩)] w fun en w'=>en = .returned (.bool g)∧Below w.heap.size w w':=by
 obtain ⟨cs9,t9_,hp,hp0⟩:=hR
 refine calls_sym Tryz.func140 rfl (by kernel_rfl) fun T hK=>?_
 replace hK:Kn T _ [(0,.agg #[.slice a1 n1 c1,.slice a2 n2 c2,.slice a3 n3 c3,.slice a4 n4 c4,.slice a5 n5 c5,.bool b]),(1,.pointer (some ⟨p,0,none⟩))]:=hK
 have hS:=Fb.other hp
 have hG:GsAt [gN a1 n1 wa,gN a2 n2 wb,gN a3 n3 pa,gN a4 n4 pb] w:=⟨h1,h2,h3,h4,trivial⟩
 refine wq hS hG hK (fun p1=>[.n 2 #[.slice a1 n1 c1,.slice a2 n2 c2,.slice a3 n3 c3,.slice a4 n4 c4,.slice a5 n5 c5,.bool b] 190,.v 4 (.bool false)]) (fun p1=>[(1,.pointer (some ⟨p,0,none⟩)),(2,pT (p1 0).N 0),(4,.bool false)]) (fun p1=>?_) (fun p1 W1 T hF hK=>?_)
 ·refine okn ?_
  refine okv ?_
  exact ok_nil
 replace hS:=SymF.fc hS hF [0,1000] [⟨p,cs9,t9_,false⟩,⟨(p1 0).N,#[.slice a1 n1 c1,.slice a2 n2 c2,.slice a3 n3 c3,.slice a4 n4 c4,.slice a5 n5 c5,.bool b],190,true⟩]
 replace hG:=hF.gx
 clear hF
 refine wp_seq ?_
 refine wq hS hG hK (fun p2=>[.v 6 (.pointer (some ⟨p,0,none⟩)),.v 7 (pT (p1 0).N 0),.l 8 (.agg #[.slice a1 n1 c1]) 1 0,.v 9 (pT (p1 0).N 1),.l 10 (.agg #[.slice a2 n2 c2]) 1 1,.c (some 11) (cV (.int .i64 r1)),.v 5 (.int .i64 r1)]) (fun p2=>[(1,.pointer (some ⟨p,0,none⟩)),(2,pT (p1 0).N 0),(4,.bool false),(5,.int .i64 r1)]) (fun p2=>?_) (fun p2 W2 T hF hK=>?_)
 ·iterate 2 refine okv ?_
  refine okl ?_
  refine okv ?_
  refine okl ?_
  refine okc (fun W cx=>as_v (unhide H1 _ _ _ c1 _ _ c2 ⟨_,_,cx.B 0 _ rfl (by kernel_rfl) (by kernel_rfl),hp0⟩ (cx.G.1) (cx.G.2.1))) ?_
  refine okv ?_
  exact ok_nil
 obtain ⟨hS,hG⟩:=SymF.fg hS hF
 clear hF
 refine wq hS hG hK (fun p3=>[.v 12 (.int .i64 r1),.v 13 (.bool true)]) (fun p3=>[(1,.pointer (some ⟨p,0,none⟩)),(2,pT (p1 0).N 0),(4,.bool false),(5,.int .i64 r1),(13,.bool true)]) (fun p3=>?_) (fun p3 W3 T hF hK=>?_)
 ·refine okv ?_
  refine okvb (bne_iff_ne.2 (show r1≠0 by omega)) ?_
  exact ok_nil
 obtain ⟨hS,hG⟩:=SymF.fg hS hF
 clear hF
 refine wp_cond_true (hK.ew 13) ?_
 refine wq hS hG hK (fun p4=>[.v 14 (.int .i64 r1),.v 15 (.bool g),.v 4 (.bool g)]) (fun p4=>[(1,.pointer (some ⟨p,0,none⟩)),(2,pT (p1 0).N 0),(4,.bool g)]) (fun p4=>?_) (fun p4 W4 T hF hK=>?_)
 ·refine okv ?_
  refine okvb (hg) ?_
  refine okv ?_
  exact ok_nil
 obtain ⟨hS,hG⟩:=SymF.fg hS hF
 clear hF
 refine wp_ret ?_
 refine then_r ?_
 exact sym_end hS hK (.bool g) [] [] (by kernel_rfl) (by kernel_rfl) ⟨rfl,hS.fr⟩
theorem zbel_eq (w:World) (p:Nat) (a1 a2 a3 a4 a5:Option Addr) (n1 n2 n3 n4 n5 c1 c2 c3 c4 c5 wa wb pa pb:Nat) (b:Bool) (r1 r2:Int) (g:Bool) (hR:Rz w p 0) (h1:Num w a1 n1 wa) (h2:Num w a2 n2 wb) (h3:Num w a3 n3 pa) (h4:Num w a4 n4 pb) (H1:Hid (WCmp p wa wb r1)) (hr:r1 = 0) (H2:Hid (WCmp p pa pb r2)) (hg:decide (r2 < 0) = g)  :
  Calls Tryz.prog 140 #[.agg #[.slice a1 n1 c1,.slice a2 n2 c2,.slice a3 n3 c3,.slice a4 n4 c4,.slice a5 n5 c5,.bool b],.pointer (some ⟨p,0,none⟩)] w fun en w'=>en = .returned (.bool g)∧Below w.heap.size w w':=by
 obtain ⟨cs9,t9_,hp,hp0⟩:=hR
 refine calls_sym Tryz.func140 rfl (by kernel_rfl) fun T hK=>?_
 replace hK:Kn T _ [(0,.agg #[.slice a1 n1 c1,.slice a2 n2 c2,.slice a3 n3 c3,.slice a4 n4 c4,.slice a5 n5 c5,.bool b]),(1,.pointer (some ⟨p,0,none⟩))]:=hK
 have hS:=Fb.other hp
 have hG:GsAt [gN a1 n1 wa,gN a2 n2 wb,gN a3 n3 pa,gN a4 n4 pb] w:=⟨h1,h2,h3,h4,trivial⟩
 refine wq hS hG hK (fun p1=>[.n 2 #[.slice a1 n1 c1,.slice a2 n2 c2,.slice a3 n3 c3,.slice a4 n4 c4,.slice a5 n5 c5,.bool b] 190,.v 4 (.bool false)]) (fun p1=>[(1,.pointer (some ⟨p,0,none⟩)),(2,pT (p1 0).N 0),(4,.bool false)]) (fun p1=>?_) (fun p1 W1 T hF hK=>?_)
 ·refine okn ?_
  refine okv ?_
  exact ok_nil
 replace hS:=SymF.fc hS hF [0,1000] [⟨p,cs9,t9_,false⟩,⟨(p1 0).N,#[.slice a1 n1 c1,.slice a2 n2 c2,.slice a3 n3 c3,.slice a4 n4 c4,.slice a5 n5 c5,.bool b],190,true⟩]
 replace hG:=hF.gx
 clear hF
 refine wp_seq ?_
 refine wq hS hG hK (fun p2=>[.v 6 (.pointer (some ⟨p,0,none⟩)),.v 7 (pT (p1 0).N 0),.l 8 (.agg #[.slice a1 n1 c1]) 1 0,.v 9 (pT (p1 0).N 1),.l 10 (.agg #[.slice a2 n2 c2]) 1 1,.c (some 11) (cV (.int .i64 r1)),.v 5 (.int .i64 r1)]) (fun p2=>[(1,.pointer (some ⟨p,0,none⟩)),(2,pT (p1 0).N 0),(4,.bool false),(5,.int .i64 r1)]) (fun p2=>?_) (fun p2 W2 T hF hK=>?_)
 ·iterate 2 refine okv ?_
  refine okl ?_
  refine okv ?_
  refine okl ?_
  refine okc (fun W cx=>as_v (unhide H1 _ _ _ c1 _ _ c2 ⟨_,_,cx.B 0 _ rfl (by kernel_rfl) (by kernel_rfl),hp0⟩ (cx.G.1) (cx.G.2.1))) ?_
  refine okv ?_
  exact ok_nil
 obtain ⟨hS,hG⟩:=SymF.fg hS hF
 clear hF
 refine wq hS hG hK (fun p3=>[.v 12 (.int .i64 r1),.v 13 (.bool false)]) (fun p3=>[(1,.pointer (some ⟨p,0,none⟩)),(2,pT (p1 0).N 0),(4,.bool false),(5,.int .i64 r1),(13,.bool false)]) (fun p3=>?_) (fun p3 W3 T hF hK=>?_)
 ·refine okv ?_
  refine okvb ((bne_eq_false_iff_eq.2 (show r1 = 0 by omega))) ?_
  exact ok_nil
 obtain ⟨hS,hG⟩:=SymF.fg hS hF
 clear hF
 refine wp_cond_false (hK.ew 13) (wp_skip (then_n ?_))
 refine wq hS hG hK (fun p4=>[.v 16 (.pointer (some ⟨p,0,none⟩)),.v 17 (pT (p1 0).N 2),.l 18 (.agg #[.slice a3 n3 c3]) 1 2,.v 19 (pT (p1 0).N 3),.l 20 (.agg #[.slice a4 n4 c4]) 1 3,.c (some 21) (cV (.int .i64 r2)),.v 22 (.bool g),.v 4 (.bool g)]) (fun p4=>[(4,.bool g),(5,.int .i64 r1)]) (fun p4=>?_) (fun p4 W4 T hF hK=>?_)
 ·iterate 2 refine okv ?_
  refine okl ?_
  refine okv ?_
  refine okl ?_
  refine okc (fun W cx=>as_v (unhide H2 _ _ _ c3 _ _ c4 ⟨_,_,cx.B 0 _ rfl (by kernel_rfl) (by kernel_rfl),hp0⟩ (cx.G.2.2.1) (cx.G.2.2.2.1))) ?_
  refine okvb (hg) ?_
  refine okv ?_
  exact ok_nil
 obtain ⟨hS,hG⟩:=SymF.fg hS hF
 clear hF
 refine wp_ret ?_
 exact sym_end hS hK (.bool g) [] [] (by kernel_rfl) (by kernel_rfl) ⟨rfl,hS.fr⟩
theorem zapa_tl (w:World) (p:Nat) (a1 a2 a3 a4:Option Addr) (n1 n2 n3 n4 c1 c2 c3 c4 m1 d1 m2 d2:Nat) (s t b g:Bool) (wa wb pa pb dn wh wi u v x y z:Nat) (r:Int) (hR:Rz w p 0) (h1:Num w a1 n1 m1) (h2:Num w a2 n2 d1) (h3:Num w a3 n3 m2) (h4:Num w a4 n4 d2) (HS:Hid (WSpl p s t m1 d1 m2 d2 wa wb pa pb dn b)) (HB:Hid (WBel p wa wb pa pb true)) (H1:Hid (WTwo 141 p wb wa wh)) (HC:Hid (WCmp p pb pa r)) (hr:r < 0) (H2:Hid (WTwo 141 p wh 1 wi)) (H3:Hid (WTwo 141 p dn pa u)) (H4:Hid (WTwo 135 p u pb v)) (H5:Hid (WTwo 62 p wi dn x)) (H6:Hid (WTwo 141 p v 0 y)) (H7:Hid (WTwo 135 p x y z)) (HF:Hid (WFr p t z dn g))  :
  Calls Tryz.prog 115 #[.pointer (some ⟨p,0,none⟩),.agg #[.bool s,.slice a1 n1 c1,.slice a2 n2 c2,.bool t,.slice a3 n3 c3,.slice a4 n4 c4]] w fun en w'=>(∃ A N C A' N' C',en = .returned (.tuple #[.agg #[.bool g,.slice A N C,.slice A' N' C'],.int .i64 0])∧Mine w' w.heap.size A N C z∧Mine w' w.heap.size A' N' C' dn)∧Below w.heap.size w w':=by
 obtain ⟨cs9,t9_,hp,hp0⟩:=hR
 refine calls_sym Tryz.func115 rfl (by kernel_rfl) fun T hK=>?_
 replace hK:Kn T _ [(0,.pointer (some ⟨p,0,none⟩)),(1,.agg #[.bool s,.slice a1 n1 c1,.slice a2 n2 c2,.bool t,.slice a3 n3 c3,.slice a4 n4 c4])]:=hK
 have hS:=Fb.other hp
 have hG:GsAt [gN a1 n1 m1,gN a2 n2 d1,gN a3 n3 m2,gN a4 n4 d2] w:=⟨h1,h2,h3,h4,trivial⟩
 refine wq hS hG hK (fun p1=>[.n 3 #[.bool s,.slice a1 n1 c1,.slice a2 n2 c2,.bool t,.slice a3 n3 c3,.slice a4 n4 c4] 67,.n 4 #[.bool false,.slice none 0 0,.slice none 0 0] 28,.v 5 (.int .i64 0)]) (fun p1=>[(0,.pointer (some ⟨p,0,none⟩)),(3,pT (p1 0).N 0),(4,pT (p1 1).N 0),(5,.int .i64 0)]) (fun p1=>?_) (fun p1 W1 T hF hK=>?_)
 ·iterate 2 refine okn ?_
  refine okv ?_
  exact ok_nil
 replace hS:=SymF.fc hS hF [0,1000,1001] [⟨p,cs9,t9_,false⟩,⟨(p1 0).N,#[.bool s,.slice a1 n1 c1,.slice a2 n2 c2,.bool t,.slice a3 n3 c3,.slice a4 n4 c4],67,true⟩,⟨(p1 1).N,#[.bool false,.slice none 0 0,.slice none 0 0],28,true⟩]
 replace hG:=hF.gx
 clear hF
 have z1:=hS.fr.size
 refine wq hS hG hK (fun p2=>[.v 10 (.pointer (some ⟨p,0,none⟩)),.l 11 (.agg #[.bool s,.slice a1 n1 c1,.slice a2 n2 c2,.bool t,.slice a3 n3 c3,.slice a4 n4 c4]) 1 0,.c (some 12) (c5 W1.heap.size wa wb pa pb dn b),.n 6 #[.slice none 0 0,.slice none 0 0,.slice none 0 0,.slice none 0 0,.slice none 0 0,.bool false] 190,.p 1003 0 [.slice (p2 2).A (p2 2).N (p2 2).C,.slice (p2 2).A' (p2 2).N' (p2 2).C',.slice (p2 2).A2 (p2 2).N2 (p2 2).C2,.slice (p2 2).A3 (p2 2).N3 (p2 2).C3,.slice (p2 2).A4 (p2 2).N4 (p2 2).C4,.bool b]]) (fun p2=>[(0,.pointer (some ⟨p,0,none⟩)),(3,pT (p1 0).N 0),(4,pT (p1 1).N 0),(5,.int .i64 0),(6,pT (p2 3).N 0)]) (fun p2=>?_) (fun p2 W2 T hF hK=>?_)
 ·refine okv ?_
  refine okl ?_
  refine okc (fun W cx=>as_5 cx.hb (unhide HS _ _ _ c1 _ _ c2 _ _ c3 _ _ c4 ⟨_,_,cx.B 0 _ rfl (by kernel_rfl) (by kernel_rfl),hp0⟩ (cx.G.1) (cx.G.2.1) (cx.G.2.2.1) (cx.G.2.2.2.1))) ?_
  refine okn ?_
  refine okp ?_
  exact ok_nil
 replace hS:=SymF.fc hS hF [0,1,2,1003] [⟨p,cs9,t9_,false⟩,⟨(p1 0).N,#[.bool s,.slice a1 n1 c1,.slice a2 n2 c2,.bool t,.slice a3 n3 c3,.slice a4 n4 c4],67,true⟩,⟨(p1 1).N,#[.bool false,.slice none 0 0,.slice none 0 0],28,true⟩,⟨(p2 3).N,#[.slice (p2 2).A (p2 2).N (p2 2).C,.slice (p2 2).A' (p2 2).N' (p2 2).C',.slice (p2 2).A2 (p2 2).N2 (p2 2).C2,.slice (p2 2).A3 (p2 2).N3 (p2 2).C3,.slice (p2 2).A4 (p2 2).N4 (p2 2).C4,.bool b],190,true⟩]
 replace hG:GsAt (gM W1.heap.size (p2 2).A (p2 2).N (p2 2).C wa :: gM W1.heap.size (p2 2).A' (p2 2).N' (p2 2).C' wb :: gM W1.heap.size (p2 2).A2 (p2 2).N2 (p2 2).C2 pa :: gM W1.heap.size (p2 2).A3 (p2 2).N3 (p2 2).C3 pb :: gM W1.heap.size (p2 2).A4 (p2 2).N4 (p2 2).C4 dn :: _) W2:=⟨(hF.fx 2).1,(hF.fx 2).2.1,(hF.fx 2).2.2.1,(hF.fx 2).2.2.2.1,(hF.fx 2).2.2.2.2,hF.gx⟩
 clear hF
 refine wq hS hG hK (fun p3=>[.v 13 (pT (p1 0).N 0),.v 14 (pT (p1 0).N 0),.l 15 (.bool s) 1 0,.v 7 (.bool s)]) (fun p3=>[(0,.pointer (some ⟨p,0,none⟩)),(3,pT (p1 0).N 0),(4,pT (p1 1).N 0),(5,.int .i64 0),(6,pT (p2 3).N 0),(7,.bool s)]) (fun p3=>?_) (fun p3 W3 T hF hK=>?_)
 ·iterate 2 refine okv ?_
  refine okl ?_
  refine okv ?_
  exact ok_nil
 obtain ⟨hS,hG⟩:=SymF.fg hS hF
 clear hF
 refine wp_seq ?_
 refine wq hS hG hK (fun p4=>[.l 16 (.agg #[.slice (p2 2).A (p2 2).N (p2 2).C,.slice (p2 2).A' (p2 2).N' (p2 2).C',.slice (p2 2).A2 (p2 2).N2 (p2 2).C2,.slice (p2 2).A3 (p2 2).N3 (p2 2).C3,.slice (p2 2).A4 (p2 2).N4 (p2 2).C4,.bool b]) 3 0,.v 17 (.pointer (some ⟨p,0,none⟩)),.c (some 18) (cV (.bool true))]) (fun p4=>[(0,.pointer (some ⟨p,0,none⟩)),(3,pT (p1 0).N 0),(4,pT (p1 1).N 0),(5,.int .i64 0),(6,pT (p2 3).N 0),(7,.bool s),(18,.bool true)]) (fun p4=>?_) (fun p4 W4 T hF hK=>?_)
 ·refine okl ?_
  refine okv ?_
  refine okc (fun W cx=>as_v (unhide HB _ (p2 2).A (p2 2).N (p2 2).C (p2 2).A' (p2 2).N' (p2 2).C' (p2 2).A2 (p2 2).N2 (p2 2).C2 (p2 2).A3 (p2 2).N3 (p2 2).C3 (p2 2).A4 (p2 2).N4 (p2 2).C4 b ⟨_,_,cx.B 0 _ rfl (by kernel_rfl) (by kernel_rfl),hp0⟩ (Mine.num cx.G.1) (Mine.num cx.G.2.1) (Mine.num cx.G.2.2.1) (Mine.num cx.G.2.2.2.1))) ?_
  exact ok_nil
 obtain ⟨hS,hG⟩:=SymF.fg hS hF
 clear hF
 refine wp_cond_true (hK.ew 18) ?_
 refine wq hS hG hK (fun p5=>[.v 19 (pT (p1 0).N 3),.v 20 (pT (p1 0).N 3),.l 21 (.bool t) 1 3,.v 7 (.bool t)]) (fun p5=>[(0,.pointer (some ⟨p,0,none⟩)),(4,pT (p1 1).N 0),(5,.int .i64 0),(6,pT (p2 3).N 0),(7,.bool t)]) (fun p5=>?_) (fun p5 W5 T hF hK=>?_)
 ·iterate 2 refine okv ?_
  refine okl ?_
  refine okv ?_
  exact ok_nil
 obtain ⟨hS,hG⟩:=SymF.fg hS hF
 clear hF
 refine wq hS hG hK (fun p6=>[.v 22 (pT (p2 3).N 1),.l 23 (.agg #[.slice (p2 2).A' (p2 2).N' (p2 2).C']) 3 1,.v 24 (pT (p2 3).N 0),.l 25 (.agg #[.slice (p2 2).A (p2 2).N (p2 2).C]) 3 0,.v 26 (pT (p2 3).N 0),.p 3 0 [.slice (p2 2).A' (p2 2).N' (p2 2).C'],.v 27 (pT (p2 3).N 1),.p 3 1 [.slice (p2 2).A (p2 2).N (p2 2).C]]) (fun p6=>[(0,.pointer (some ⟨p,0,none⟩)),(4,pT (p1 1).N 0),(5,.int .i64 0),(6,pT (p2 3).N 0),(7,.bool t)]) (fun p6=>?_) (fun p6 W6 T hF hK=>?_)
 ·refine okv ?_
  refine okl ?_
  refine okv ?_
  refine okl ?_
  refine okv ?_
  refine okp ?_
  refine okv ?_
  refine okp ?_
  exact ok_nil
 replace hS:=SymF.fc hS hF [0,2,3] [⟨p,cs9,t9_,false⟩,⟨(p1 1).N,#[.bool false,.slice none 0 0,.slice none 0 0],28,true⟩,⟨(p2 3).N,#[.slice (p2 2).A' (p2 2).N' (p2 2).C',.slice (p2 2).A (p2 2).N (p2 2).C,.slice (p2 2).A2 (p2 2).N2 (p2 2).C2,.slice (p2 2).A3 (p2 2).N3 (p2 2).C3,.slice (p2 2).A4 (p2 2).N4 (p2 2).C4,.bool b],190,true⟩]
 replace hG:=hF.gx
 clear hF
 refine wg hS hG hK (fun p7=>[.v 28 (pT (p2 3).N 3),.l 29 (.agg #[.slice (p2 2).A3 (p2 2).N3 (p2 2).C3]) 2 3,.v 30 (pT (p2 3).N 2),.l 31 (.agg #[.slice (p2 2).A2 (p2 2).N2 (p2 2).C2]) 2 2,.v 32 (pT (p2 3).N 2),.p 2 2 [.slice (p2 2).A3 (p2 2).N3 (p2 2).C3],.v 33 (pT (p2 3).N 3),.p 2 3 [.slice (p2 2).A2 (p2 2).N2 (p2 2).C2]]) (fun p7=>[(0,.pointer (some ⟨p,0,none⟩)),(4,pT (p1 1).N 0),(5,.int .i64 0),(6,pT (p2 3).N 0),(7,.bool t)]) (fun p7=>?_) (fun p7 W7 T hF hK=>?_)
 ·refine okv ?_
  refine okl ?_
  refine okv ?_
  refine okl ?_
  refine okv ?_
  refine okp ?_
  refine okv ?_
  refine okp ?_
  exact ok_nil
 replace hS:=SymF.fc hS hF [0,1,2] [⟨p,cs9,t9_,false⟩,⟨(p1 1).N,#[.bool false,.slice none 0 0,.slice none 0 0],28,true⟩,⟨(p2 3).N,#[.slice (p2 2).A' (p2 2).N' (p2 2).C',.slice (p2 2).A (p2 2).N (p2 2).C,.slice (p2 2).A3 (p2 2).N3 (p2 2).C3,.slice (p2 2).A2 (p2 2).N2 (p2 2).C2,.slice (p2 2).A4 (p2 2).N4 (p2 2).C4,.bool b],190,true⟩]
 replace hG:=hF.gx
 clear hF
 refine then_n ?_
 refine wq hS hG hK (fun p8=>[.v 34 (.pointer (some ⟨p,0,none⟩)),.v 35 (pT (p2 3).N 0),.l 36 (.agg #[.slice (p2 2).A' (p2 2).N' (p2 2).C']) 2 0,.v 37 (pT (p2 3).N 1),.l 38 (.agg #[.slice (p2 2).A (p2 2).N (p2 2).C]) 2 1,.c (some 39) (cN W7.heap.size wh),.n 8 #[.slice none 0 0] 26,.p 1006 0 [.slice (p8 5).A (p8 5).N (p8 5).C]]) (fun p8=>[(0,.pointer (some ⟨p,0,none⟩)),(4,pT (p1 1).N 0),(5,.int .i64 0),(6,pT (p2 3).N 0),(7,.bool t),(8,pT (p8 6).N 0)]) (fun p8=>?_) (fun p8 W8 T hF hK=>?_)
 ·iterate 2 refine okv ?_
  refine okl ?_
  refine okv ?_
  refine okl ?_
  refine okc (fun W cx=>as_n cx.hb (unhide H1 _ _ _ (p2 2).C' _ _ (p2 2).C ⟨_,_,cx.B 0 _ rfl (by kernel_rfl) (by kernel_rfl),hp0⟩ (Mine.num cx.G.2.1) (Mine.num cx.G.1))) ?_
  refine okn ?_
  refine okp ?_
  exact ok_nil
 replace hS:=SymF.fc hS hF [0,1,2,1006] [⟨p,cs9,t9_,false⟩,⟨(p1 1).N,#[.bool false,.slice none 0 0,.slice none 0 0],28,true⟩,⟨(p2 3).N,#[.slice (p2 2).A' (p2 2).N' (p2 2).C',.slice (p2 2).A (p2 2).N (p2 2).C,.slice (p2 2).A3 (p2 2).N3 (p2 2).C3,.slice (p2 2).A2 (p2 2).N2 (p2 2).C2,.slice (p2 2).A4 (p2 2).N4 (p2 2).C4,.bool b],190,true⟩,⟨(p8 6).N,#[.slice (p8 5).A (p8 5).N (p8 5).C],26,true⟩]
 replace hG:GsAt (gM W7.heap.size (p8 5).A (p8 5).N (p8 5).C wh :: _) W8:=⟨hF.fx 5,hF.gx⟩
 clear hF
 refine wp_seq ?_
 refine wq hS hG hK (fun p9=>[.v 40 (.pointer (some ⟨p,0,none⟩)),.v 41 (pT (p2 3).N 2),.l 42 (.agg #[.slice (p2 2).A3 (p2 2).N3 (p2 2).C3]) 2 2,.v 43 (pT (p2 3).N 3),.l 44 (.agg #[.slice (p2 2).A2 (p2 2).N2 (p2 2).C2]) 2 3,.c (some 45) (cV (.int .i64 r)),.v 46 (.bool true)]) (fun p9=>[(0,.pointer (some ⟨p,0,none⟩)),(4,pT (p1 1).N 0),(5,.int .i64 0),(6,pT (p2 3).N 0),(7,.bool t),(8,pT (p8 6).N 0),(46,.bool true)]) (fun p9=>?_) (fun p9 W9 T hF hK=>?_)
 ·iterate 2 refine okv ?_
  refine okl ?_
  refine okv ?_
  refine okl ?_
  refine okc (fun W cx=>as_v (unhide HC _ _ _ (p2 2).C3 _ _ (p2 2).C2 ⟨_,_,cx.B 0 _ rfl (by kernel_rfl) (by kernel_rfl),hp0⟩ (Mine.num cx.G.2.2.2.2.1) (Mine.num cx.G.2.2.2.1))) ?_
  refine okvb (decide_eq_true (show r < 0 by omega)) ?_
  exact ok_nil
 obtain ⟨hS,hG⟩:=SymF.fg hS hF
 clear hF
 refine wp_cond_true (hK.ew 46) ?_
 refine wq hS hG hK (fun p10=>[.v 47 (.pointer (some ⟨p,0,none⟩)),.l 48 (.agg #[.slice (p8 5).A (p8 5).N (p8 5).C]) 3 0,.c (some 49) (cN W9.heap.size 1),.c (some 50) (cN W9.heap.size wi),.p 3 0 [.slice (p10 3).A (p10 3).N (p10 3).C]]) (fun p10=>[(0,.pointer (some ⟨p,0,none⟩)),(4,pT (p1 1).N 0),(5,.int .i64 0),(6,pT (p2 3).N 0),(7,.bool t),(8,pT (p8 6).N 0)]) (fun p10=>?_) (fun p10 W10 T hF hK=>?_)
 ·refine okv ?_
  refine okl ?_
  refine okc (fun W cx=>as_n cx.hb (of_any 1 _ (by decide))) ?_
  refine okc (fun W cx=>as_n cx.hb (unhide H2 _ _ _ (p8 5).C _ _ (p10 2).C ⟨_,_,cx.B 0 _ rfl (by kernel_rfl) (by kernel_rfl),hp0⟩ (Mine.num cx.G.1) (Mine.num (cx.F 2 (by kernel_rfl))))) ?_
  refine okp ?_
  exact ok_nil
 replace hS:=SymF.fc hS hF [0,1,2,3] [⟨p,cs9,t9_,false⟩,⟨(p1 1).N,#[.bool false,.slice none 0 0,.slice none 0 0],28,true⟩,⟨(p2 3).N,#[.slice (p2 2).A' (p2 2).N' (p2 2).C',.slice (p2 2).A (p2 2).N (p2 2).C,.slice (p2 2).A3 (p2 2).N3 (p2 2).C3,.slice (p2 2).A2 (p2 2).N2 (p2 2).C2,.slice (p2 2).A4 (p2 2).N4 (p2 2).C4,.bool b],190,true⟩,⟨(p8 6).N,#[.slice (p10 3).A (p10 3).N (p10 3).C],26,true⟩]
 replace hG:GsAt (gM W9.heap.size (p10 2).A (p10 2).N (p10 2).C 1 :: gM W9.heap.size (p10 3).A (p10 3).N (p10 3).C wi :: _) W10:=⟨hF.fx 2,hF.fx 3,hF.gx⟩
 clear hF
 refine wq hS hG hK (fun p11=>[.v 51 (.pointer (some ⟨p,0,none⟩)),.v 52 (.pointer (some ⟨p,0,none⟩)),.v 53 (pT (p2 3).N 4),.l 54 (.agg #[.slice (p2 2).A4 (p2 2).N4 (p2 2).C4]) 2 4,.v 55 (pT (p2 3).N 3),.l 56 (.agg #[.slice (p2 2).A2 (p2 2).N2 (p2 2).C2]) 2 3,.c (some 57) (cN W10.heap.size u),.v 58 (pT (p2 3).N 2),.l 59 (.agg #[.slice (p2 2).A3 (p2 2).N3 (p2 2).C3]) 2 2,.c (some 60) (cN W10.heap.size v),.v 61 (pT (p2 3).N 2),.p 2 2 [.slice (p11 9).A (p11 9).N (p11 9).C]]) (fun p11=>[(0,.pointer (some ⟨p,0,none⟩)),(4,pT (p1 1).N 0),(5,.int .i64 0),(6,pT (p2 3).N 0),(7,.bool t),(8,pT (p8 6).N 0)]) (fun p11=>?_) (fun p11 W11 T hF hK=>?_)
 ·iterate 3 refine okv ?_
  refine okl ?_
  refine okv ?_
  refine okl ?_
  refine okc (fun W cx=>as_n cx.hb (unhide H3 _ _ _ (p2 2).C4 _ _ (p2 2).C2 ⟨_,_,cx.B 0 _ rfl (by kernel_rfl) (by kernel_rfl),hp0⟩ (Mine.num cx.G.2.2.2.2.2.2.2.1) (Mine.num cx.G.2.2.2.2.2.1))) ?_
  refine okv ?_
  refine okl ?_
  refine okc (fun W cx=>as_n cx.hb (unhide H4 _ _ _ (p11 6).C _ _ (p2 2).C3 ⟨_,_,cx.B 0 _ rfl (by kernel_rfl) (by kernel_rfl),hp0⟩ (Mine.num (cx.F 6 (by kernel_rfl))) (Mine.num cx.G.2.2.2.2.2.2.1))) ?_
  refine okv ?_
  refine okp ?_
  exact ok_nil
 replace hS:=SymF.fc hS hF [0,1,2,3] [⟨p,cs9,t9_,false⟩,⟨(p1 1).N,#[.bool false,.slice none 0 0,.slice none 0 0],28,true⟩,⟨(p2 3).N,#[.slice (p2 2).A' (p2 2).N' (p2 2).C',.slice (p2 2).A (p2 2).N (p2 2).C,.slice (p11 9).A (p11 9).N (p11 9).C,.slice (p2 2).A2 (p2 2).N2 (p2 2).C2,.slice (p2 2).A4 (p2 2).N4 (p2 2).C4,.bool b],190,true⟩,⟨(p8 6).N,#[.slice (p10 3).A (p10 3).N (p10 3).C],26,true⟩]
 replace hG:GsAt (gM W10.heap.size (p11 6).A (p11 6).N (p11 6).C u :: gM W10.heap.size (p11 9).A (p11 9).N (p11 9).C v :: _) W11:=⟨hF.fx 6,hF.fx 9,hF.gx⟩
 clear hF
 refine wg hS hG hK (fun p12=>[.v 62 (.agg #[.slice none 0 0]),.v 63 (pT (p2 3).N 3),.p 2 3 [.slice none 0 0]]) (fun p12=>[(0,.pointer (some ⟨p,0,none⟩)),(4,pT (p1 1).N 0),(5,.int .i64 0),(6,pT (p2 3).N 0),(7,.bool t),(8,pT (p8 6).N 0)]) (fun p12=>?_) (fun p12 W12 T hF hK=>?_)
 ·iterate 2 refine okv ?_
  refine okp ?_
  exact ok_nil
 replace hS:=SymF.fc hS hF [0,1,2,3] [⟨p,cs9,t9_,false⟩,⟨(p1 1).N,#[.bool false,.slice none 0 0,.slice none 0 0],28,true⟩,⟨(p2 3).N,#[.slice (p2 2).A' (p2 2).N' (p2 2).C',.slice (p2 2).A (p2 2).N (p2 2).C,.slice (p11 9).A (p11 9).N (p11 9).C,.slice none 0 0,.slice (p2 2).A4 (p2 2).N4 (p2 2).C4,.bool b],190,true⟩,⟨(p8 6).N,#[.slice (p10 3).A (p10 3).N (p10 3).C],26,true⟩]
 replace hG:=hF.gx
 clear hF
 have z12:=hS.fr.size
 refine then_n ?_
 refine wq hS hG hK (fun p13=>[.v 64 (.pointer (some ⟨p,0,none⟩)),.v 65 (.pointer (some ⟨p,0,none⟩)),.l 66 (.agg #[.slice (p10 3).A (p10 3).N (p10 3).C]) 3 0,.v 67 (pT (p2 3).N 4),.l 68 (.agg #[.slice (p2 2).A4 (p2 2).N4 (p2 2).C4]) 2 4,.c (some 69) (cN W12.heap.size x),.v 70 (.pointer (some ⟨p,0,none⟩)),.v 71 (pT (p2 3).N 2),.l 72 (.agg #[.slice (p11 9).A (p11 9).N (p11 9).C]) 2 2,.v 73 (pT (p2 3).N 3),.l 74 (.agg #[.slice none 0 0]) 2 3,.c (some 75) (cN W12.heap.size y),.c (some 76) (cN W12.heap.size z),.n 9 #[.slice none 0 0] 26,.p 1013 0 [.slice (p13 12).A (p13 12).N (p13 12).C]]) (fun p13=>[(0,.pointer (some ⟨p,0,none⟩)),(4,pT (p1 1).N 0),(5,.int .i64 0),(6,pT (p2 3).N 0),(7,.bool t),(9,pT (p13 13).N 0)]) (fun p13=>?_) (fun p13 W13 T hF hK=>?_)
 ·iterate 2 refine okv ?_
  refine okl ?_
  refine okv ?_
  refine okl ?_
  refine okc (fun W cx=>as_n cx.hb (unhide H5 _ _ _ (p10 3).C _ _ (p2 2).C4 ⟨_,_,cx.B 0 _ rfl (by kernel_rfl) (by kernel_rfl),hp0⟩ (Mine.num cx.G.2.2.2.1) (Mine.num cx.G.2.2.2.2.2.2.2.2.2.1))) ?_
  iterate 2 refine okv ?_
  refine okl ?_
  refine okv ?_
  refine okl ?_
  refine okc (fun W cx=>as_n cx.hb (unhide H6 _ _ _ (p11 9).C _ _ 0 ⟨_,_,cx.B 0 _ rfl (by kernel_rfl) (by kernel_rfl),hp0⟩ (Mine.num cx.G.2.1) (Num.znil _))) ?_
  refine okc (fun W cx=>as_n cx.hb (unhide H7 _ _ _ (p13 5).C _ _ (p13 11).C ⟨_,_,cx.B 0 _ rfl (by kernel_rfl) (by kernel_rfl),hp0⟩ (Mine.num (cx.F 5 (by kernel_rfl))) (Mine.num (cx.F 11 (by kernel_rfl))))) ?_
  refine okn ?_
  refine okp ?_
  exact ok_nil
 replace hS:=SymF.fc hS hF [0,1,2,1013] [⟨p,cs9,t9_,false⟩,⟨(p1 1).N,#[.bool false,.slice none 0 0,.slice none 0 0],28,true⟩,⟨(p2 3).N,#[.slice (p2 2).A' (p2 2).N' (p2 2).C',.slice (p2 2).A (p2 2).N (p2 2).C,.slice (p11 9).A (p11 9).N (p11 9).C,.slice none 0 0,.slice (p2 2).A4 (p2 2).N4 (p2 2).C4,.bool b],190,true⟩,⟨(p13 13).N,#[.slice (p13 12).A (p13 12).N (p13 12).C],26,true⟩]
 replace hG:GsAt (gM W12.heap.size (p13 5).A (p13 5).N (p13 5).C x :: gM W12.heap.size (p13 11).A (p13 11).N (p13 11).C y :: gM W12.heap.size (p13 12).A (p13 12).N (p13 12).C z :: _) W13:=⟨hF.fx 5,hF.fx 11,hF.fx 12,hF.gx⟩
 clear hF
 refine wq hS hG hK (fun p14=>[.v 77 (.pointer (some ⟨p,0,none⟩)),.v 78 (.bool t),.l 79 (.agg #[.slice (p13 12).A (p13 12).N (p13 12).C]) 3 0,.v 80 (pT (p2 3).N 4),.l 81 (.agg #[.slice (p2 2).A4 (p2 2).N4 (p2 2).C4]) 2 4,.c (some 82) (cV (.tuple #[.agg #[.bool g,.slice (p13 12).A (p13 12).N (p13 12).C,.slice (p2 2).A4 (p2 2).N4 (p2 2).C4],.int .i64 0])),.v 83 (.agg #[.bool g,.slice (p13 12).A (p13 12).N (p13 12).C,.slice (p2 2).A4 (p2 2).N4 (p2 2).C4]),.v 84 (.int .i64 0),.p 1 0 [.bool g,.slice (p13 12).A (p13 12).N (p13 12).C,.slice (p2 2).A4 (p2 2).N4 (p2 2).C4],.v 5 (.int .i64 0)]) (fun p14=>[(4,pT (p1 1).N 0),(5,.int .i64 0)]) (fun p14=>?_) (fun p14 W14 T hF hK=>?_)
 ·iterate 2 refine okv ?_
  refine okl ?_
  refine okv ?_
  refine okl ?_
  refine okc (fun W cx=>as_v (unhide HF _ _ _ (p13 12).C _ _ (p2 2).C4 ⟨_,_,cx.B 0 _ rfl (by kernel_rfl) (by kernel_rfl),hp0⟩ (Mine.num cx.G.2.2.1) (Mine.num cx.G.2.2.2.2.2.2.2.2.2.2.2.2.1))) ?_
  iterate 2 refine okv ?_
  refine okp ?_
  refine okv ?_
  exact ok_nil
 replace hS:=SymF.fc hS hF [0,1] [⟨p,cs9,t9_,false⟩,⟨(p1 1).N,#[.bool g,.slice (p13 12).A (p13 12).N (p13 12).C,.slice (p2 2).A4 (p2 2).N4 (p2 2).C4],28,true⟩]
 replace hG:=hF.gx
 clear hF
 refine wp_ret ?_
 exact sym_end hS hK (.tuple #[.agg #[.bool g,.slice (p13 12).A (p13 12).N (p13 12).C,.slice (p2 2).A4 (p2 2).N4 (p2 2).C4],.int .i64 0]) [(1,0,3)] [.bool g,.slice (p13 12).A (p13 12).N (p13 12).C,.slice (p2 2).A4 (p2 2).N4 (p2 2).C4] (by kernel_rfl) (by kernel_rfl) ⟨⟨_,_,_,_,_,_,rfl,Mine.mono hG.2.2.1 z12,Mine.mono hG.2.2.2.2.2.2.2.2.2.2.2.2.1 z1⟩,hS.fr⟩
theorem zapa_tg (w:World) (p:Nat) (a1 a2 a3 a4:Option Addr) (n1 n2 n3 n4 c1 c2 c3 c4 m1 d1 m2 d2:Nat) (s t b g:Bool) (wa wb pa pb dn wh x y z:Nat) (r:Int) (hR:Rz w p 0) (h1:Num w a1 n1 m1) (h2:Num w a2 n2 d1) (h3:Num w a3 n3 m2) (h4:Num w a4 n4 d2) (HS:Hid (WSpl p s t m1 d1 m2 d2 wa wb pa pb dn b)) (HB:Hid (WBel p wa wb pa pb true)) (H1:Hid (WTwo 141 p wb wa wh)) (HC:Hid (WCmp p pb pa r)) (hr:0≤r) (H5:Hid (WTwo 62 p wh dn x)) (H6:Hid (WTwo 141 p pb pa y)) (H7:Hid (WTwo 135 p x y z)) (HF:Hid (WFr p t z dn g))  :
  Calls Tryz.prog 115 #[.pointer (some ⟨p,0,none⟩),.agg #[.bool s,.slice a1 n1 c1,.slice a2 n2 c2,.bool t,.slice a3 n3 c3,.slice a4 n4 c4]] w fun en w'=>(∃ A N C A' N' C',en = .returned (.tuple #[.agg #[.bool g,.slice A N C,.slice A' N' C'],.int .i64 0])∧Mine w' w.heap.size A N C z∧Mine w' w.heap.size A' N' C' dn)∧Below w.heap.size w w':=by
 obtain ⟨cs9,t9_,hp,hp0⟩:=hR
 refine calls_sym Tryz.func115 rfl (by kernel_rfl) fun T hK=>?_
 replace hK:Kn T _ [(0,.pointer (some ⟨p,0,none⟩)),(1,.agg #[.bool s,.slice a1 n1 c1,.slice a2 n2 c2,.bool t,.slice a3 n3 c3,.slice a4 n4 c4])]:=hK
 have hS:=Fb.other hp
 have hG:GsAt [gN a1 n1 m1,gN a2 n2 d1,gN a3 n3 m2,gN a4 n4 d2] w:=⟨h1,h2,h3,h4,trivial⟩
 refine wq hS hG hK (fun p1=>[.n 3 #[.bool s,.slice a1 n1 c1,.slice a2 n2 c2,.bool t,.slice a3 n3 c3,.slice a4 n4 c4] 67,.n 4 #[.bool false,.slice none 0 0,.slice none 0 0] 28,.v 5 (.int .i64 0)]) (fun p1=>[(0,.pointer (some ⟨p,0,none⟩)),(3,pT (p1 0).N 0),(4,pT (p1 1).N 0),(5,.int .i64 0)]) (fun p1=>?_) (fun p1 W1 T hF hK=>?_)
 ·iterate 2 refine okn ?_
  refine okv ?_
  exact ok_nil
 replace hS:=SymF.fc hS hF [0,1000,1001] [⟨p,cs9,t9_,false⟩,⟨(p1 0).N,#[.bool s,.slice a1 n1 c1,.slice a2 n2 c2,.bool t,.slice a3 n3 c3,.slice a4 n4 c4],67,true⟩,⟨(p1 1).N,#[.bool false,.slice none 0 0,.slice none 0 0],28,true⟩]
 replace hG:=hF.gx
 clear hF
 have z1:=hS.fr.size
 refine wq hS hG hK (fun p2=>[.v 10 (.pointer (some ⟨p,0,none⟩)),.l 11 (.agg #[.bool s,.slice a1 n1 c1,.slice a2 n2 c2,.bool t,.slice a3 n3 c3,.slice a4 n4 c4]) 1 0,.c (some 12) (c5 W1.heap.size wa wb pa pb dn b),.n 6 #[.slice none 0 0,.slice none 0 0,.slice none 0 0,.slice none 0 0,.slice none 0 0,.bool false] 190,.p 1003 0 [.slice (p2 2).A (p2 2).N (p2 2).C,.slice (p2 2).A' (p2 2).N' (p2 2).C',.slice (p2 2).A2 (p2 2).N2 (p2 2).C2,.slice (p2 2).A3 (p2 2).N3 (p2 2).C3,.slice (p2 2).A4 (p2 2).N4 (p2 2).C4,.bool b]]) (fun p2=>[(0,.pointer (some ⟨p,0,none⟩)),(3,pT (p1 0).N 0),(4,pT (p1 1).N 0),(5,.int .i64 0),(6,pT (p2 3).N 0)]) (fun p2=>?_) (fun p2 W2 T hF hK=>?_)
 ·refine okv ?_
  refine okl ?_
  refine okc (fun W cx=>as_5 cx.hb (unhide HS _ _ _ c1 _ _ c2 _ _ c3 _ _ c4 ⟨_,_,cx.B 0 _ rfl (by kernel_rfl) (by kernel_rfl),hp0⟩ (cx.G.1) (cx.G.2.1) (cx.G.2.2.1) (cx.G.2.2.2.1))) ?_
  refine okn ?_
  refine okp ?_
  exact ok_nil
 replace hS:=SymF.fc hS hF [0,1,2,1003] [⟨p,cs9,t9_,false⟩,⟨(p1 0).N,#[.bool s,.slice a1 n1 c1,.slice a2 n2 c2,.bool t,.slice a3 n3 c3,.slice a4 n4 c4],67,true⟩,⟨(p1 1).N,#[.bool false,.slice none 0 0,.slice none 0 0],28,true⟩,⟨(p2 3).N,#[.slice (p2 2).A (p2 2).N (p2 2).C,.slice (p2 2).A' (p2 2).N' (p2 2).C',.slice (p2 2).A2 (p2 2).N2 (p2 2).C2,.slice (p2 2).A3 (p2 2).N3 (p2 2).C3,.slice (p2 2).A4 (p2 2).N4 (p2 2).C4,.bool b],190,true⟩]
 replace hG:GsAt (gM W1.heap.size (p2 2).A (p2 2).N (p2 2).C wa :: gM W1.heap.size (p2 2).A' (p2 2).N' (p2 2).C' wb :: gM W1.heap.size (p2 2).A2 (p2 2).N2 (p2 2).C2 pa :: gM W1.heap.size (p2 2).A3 (p2 2).N3 (p2 2).C3 pb :: gM W1.heap.size (p2 2).A4 (p2 2).N4 (p2 2).C4 dn :: _) W2:=⟨(hF.fx 2).1,(hF.fx 2).2.1,(hF.fx 2).2.2.1,(hF.fx 2).2.2.2.1,(hF.fx 2).2.2.2.2,hF.gx⟩
 clear hF
 refine wq hS hG hK (fun p3=>[.v 13 (pT (p1 0).N 0),.v 14 (pT (p1 0).N 0),.l 15 (.bool s) 1 0,.v 7 (.bool s)]) (fun p3=>[(0,.pointer (some ⟨p,0,none⟩)),(3,pT (p1 0).N 0),(4,pT (p1 1).N 0),(5,.int .i64 0),(6,pT (p2 3).N 0),(7,.bool s)]) (fun p3=>?_) (fun p3 W3 T hF hK=>?_)
 ·iterate 2 refine okv ?_
  refine okl ?_
  refine okv ?_
  exact ok_nil
 obtain ⟨hS,hG⟩:=SymF.fg hS hF
 clear hF
 refine wp_seq ?_
 refine wq hS hG hK (fun p4=>[.l 16 (.agg #[.slice (p2 2).A (p2 2).N (p2 2).C,.slice (p2 2).A' (p2 2).N' (p2 2).C',.slice (p2 2).A2 (p2 2).N2 (p2 2).C2,.slice (p2 2).A3 (p2 2).N3 (p2 2).C3,.slice (p2 2).A4 (p2 2).N4 (p2 2).C4,.bool b]) 3 0,.v 17 (.pointer (some ⟨p,0,none⟩)),.c (some 18) (cV (.bool true))]) (fun p4=>[(0,.pointer (some ⟨p,0,none⟩)),(3,pT (p1 0).N 0),(4,pT (p1 1).N 0),(5,.int .i64 0),(6,pT (p2 3).N 0),(7,.bool s),(18,.bool true)]) (fun p4=>?_) (fun p4 W4 T hF hK=>?_)
 ·refine okl ?_
  refine okv ?_
  refine okc (fun W cx=>as_v (unhide HB _ (p2 2).A (p2 2).N (p2 2).C (p2 2).A' (p2 2).N' (p2 2).C' (p2 2).A2 (p2 2).N2 (p2 2).C2 (p2 2).A3 (p2 2).N3 (p2 2).C3 (p2 2).A4 (p2 2).N4 (p2 2).C4 b ⟨_,_,cx.B 0 _ rfl (by kernel_rfl) (by kernel_rfl),hp0⟩ (Mine.num cx.G.1) (Mine.num cx.G.2.1) (Mine.num cx.G.2.2.1) (Mine.num cx.G.2.2.2.1))) ?_
  exact ok_nil
 obtain ⟨hS,hG⟩:=SymF.fg hS hF
 clear hF
 refine wp_cond_true (hK.ew 18) ?_
 refine wq hS hG hK (fun p5=>[.v 19 (pT (p1 0).N 3),.v 20 (pT (p1 0).N 3),.l 21 (.bool t) 1 3,.v 7 (.bool t)]) (fun p5=>[(0,.pointer (some ⟨p,0,none⟩)),(4,pT (p1 1).N 0),(5,.int .i64 0),(6,pT (p2 3).N 0),(7,.bool t)]) (fun p5=>?_) (fun p5 W5 T hF hK=>?_)
 ·iterate 2 refine okv ?_
  refine okl ?_
  refine okv ?_
  exact ok_nil
 obtain ⟨hS,hG⟩:=SymF.fg hS hF
 clear hF
 refine wq hS hG hK (fun p6=>[.v 22 (pT (p2 3).N 1),.l 23 (.agg #[.slice (p2 2).A' (p2 2).N' (p2 2).C']) 3 1,.v 24 (pT (p2 3).N 0),.l 25 (.agg #[.slice (p2 2).A (p2 2).N (p2 2).C]) 3 0,.v 26 (pT (p2 3).N 0),.p 3 0 [.slice (p2 2).A' (p2 2).N' (p2 2).C'],.v 27 (pT (p2 3).N 1),.p 3 1 [.slice (p2 2).A (p2 2).N (p2 2).C]]) (fun p6=>[(0,.pointer (some ⟨p,0,none⟩)),(4,pT (p1 1).N 0),(5,.int .i64 0),(6,pT (p2 3).N 0),(7,.bool t)]) (fun p6=>?_) (fun p6 W6 T hF hK=>?_)
 ·refine okv ?_
  refine okl ?_
  refine okv ?_
  refine okl ?_
  refine okv ?_
  refine okp ?_
  refine okv ?_
  refine okp ?_
  exact ok_nil
 replace hS:=SymF.fc hS hF [0,2,3] [⟨p,cs9,t9_,false⟩,⟨(p1 1).N,#[.bool false,.slice none 0 0,.slice none 0 0],28,true⟩,⟨(p2 3).N,#[.slice (p2 2).A' (p2 2).N' (p2 2).C',.slice (p2 2).A (p2 2).N (p2 2).C,.slice (p2 2).A2 (p2 2).N2 (p2 2).C2,.slice (p2 2).A3 (p2 2).N3 (p2 2).C3,.slice (p2 2).A4 (p2 2).N4 (p2 2).C4,.bool b],190,true⟩]
 replace hG:=hF.gx
 clear hF
 refine wg hS hG hK (fun p7=>[.v 28 (pT (p2 3).N 3),.l 29 (.agg #[.slice (p2 2).A3 (p2 2).N3 (p2 2).C3]) 2 3,.v 30 (pT (p2 3).N 2),.l 31 (.agg #[.slice (p2 2).A2 (p2 2).N2 (p2 2).C2]) 2 2,.v 32 (pT (p2 3).N 2),.p 2 2 [.slice (p2 2).A3 (p2 2).N3 (p2 2).C3],.v 33 (pT (p2 3).N 3),.p 2 3 [.slice (p2 2).A2 (p2 2).N2 (p2 2).C2]]) (fun p7=>[(0,.pointer (some ⟨p,0,none⟩)),(4,pT (p1 1).N 0),(5,.int .i64 0),(6,pT (p2 3).N 0),(7,.bool t)]) (fun p7=>?_) (fun p7 W7 T hF hK=>?_)
 ·refine okv ?_
  refine okl ?_
  refine okv ?_
  refine okl ?_
  refine okv ?_
  refine okp ?_
  refine okv ?_
  refine okp ?_
  exact ok_nil
 replace hS:=SymF.fc hS hF [0,1,2] [⟨p,cs9,t9_,false⟩,⟨(p1 1).N,#[.bool false,.slice none 0 0,.slice none 0 0],28,true⟩,⟨(p2 3).N,#[.slice (p2 2).A' (p2 2).N' (p2 2).C',.slice (p2 2).A (p2 2).N (p2 2).C,.slice (p2 2).A3 (p2 2).N3 (p2 2).C3,.slice (p2 2).A2 (p2 2).N2 (p2 2).C2,.slice (p2 2).A4 (p2 2).N4 (p2 2).C4,.bool b],190,true⟩]
 replace hG:=hF.gx
 clear hF
 refine then_n ?_
 refine wq hS hG hK (fun p8=>[.v 34 (.pointer (some ⟨p,0,none⟩)),.v 35 (pT (p2 3).N 0),.l 36 (.agg #[.slice (p2 2).A' (p2 2).N' (p2 2).C']) 2 0,.v 37 (pT (p2 3).N 1),.l 38 (.agg #[.slice (p2 2).A (p2 2).N (p2 2).C]) 2 1,.c (some 39) (cN W7.heap.size wh),.n 8 #[.slice none 0 0] 26,.p 1006 0 [.slice (p8 5).A (p8 5).N (p8 5).C]]) (fun p8=>[(0,.pointer (some ⟨p,0,none⟩)),(4,pT (p1 1).N 0),(5,.int .i64 0),(6,pT (p2 3).N 0),(7,.bool t),(8,pT (p8 6).N 0)]) (fun p8=>?_) (fun p8 W8 T hF hK=>?_)
 ·iterate 2 refine okv ?_
  refine okl ?_
  refine okv ?_
  refine okl ?_
  refine okc (fun W cx=>as_n cx.hb (unhide H1 _ _ _ (p2 2).C' _ _ (p2 2).C ⟨_,_,cx.B 0 _ rfl (by kernel_rfl) (by kernel_rfl),hp0⟩ (Mine.num cx.G.2.1) (Mine.num cx.G.1))) ?_
  refine okn ?_
  refine okp ?_
  exact ok_nil
 replace hS:=SymF.fc hS hF [0,1,2,1006] [⟨p,cs9,t9_,false⟩,⟨(p1 1).N,#[.bool false,.slice none 0 0,.slice none 0 0],28,true⟩,⟨(p2 3).N,#[.slice (p2 2).A' (p2 2).N' (p2 2).C',.slice (p2 2).A (p2 2).N (p2 2).C,.slice (p2 2).A3 (p2 2).N3 (p2 2).C3,.slice (p2 2).A2 (p2 2).N2 (p2 2).C2,.slice (p2 2).A4 (p2 2).N4 (p2 2).C4,.bool b],190,true⟩,⟨(p8 6).N,#[.slice (p8 5).A (p8 5).N (p8 5).C],26,true⟩]
 replace hG:GsAt (gM W7.heap.size (p8 5).A (p8 5).N (p8 5).C wh :: _) W8:=⟨hF.fx 5,hF.gx⟩
 clear hF
 refine wp_seq ?_
 refine wq hS hG hK (fun p9=>[.v 40 (.pointer (some ⟨p,0,none⟩)),.v 41 (pT (p2 3).N 2),.l 42 (.agg #[.slice (p2 2).A3 (p2 2).N3 (p2 2).C3]) 2 2,.v 43 (pT (p2 3).N 3),.l 44 (.agg #[.slice (p2 2).A2 (p2 2).N2 (p2 2).C2]) 2 3,.c (some 45) (cV (.int .i64 r)),.v 46 (.bool false)]) (fun p9=>[(0,.pointer (some ⟨p,0,none⟩)),(4,pT (p1 1).N 0),(5,.int .i64 0),(6,pT (p2 3).N 0),(7,.bool t),(8,pT (p8 6).N 0),(46,.bool false)]) (fun p9=>?_) (fun p9 W9 T hF hK=>?_)
 ·iterate 2 refine okv ?_
  refine okl ?_
  refine okv ?_
  refine okl ?_
  refine okc (fun W cx=>as_v (unhide HC _ _ _ (p2 2).C3 _ _ (p2 2).C2 ⟨_,_,cx.B 0 _ rfl (by kernel_rfl) (by kernel_rfl),hp0⟩ (Mine.num cx.G.2.2.2.2.1) (Mine.num cx.G.2.2.2.1))) ?_
  refine okvb (decide_eq_false (show ¬ r < 0 by omega)) ?_
  exact ok_nil
 obtain ⟨hS,hG⟩:=SymF.fg hS hF
 clear hF
 have z9:=hS.fr.size
 refine wp_cond_false (hK.ew 46) (wp_skip (then_n ?_))
 refine wq hS hG hK (fun p10=>[.v 64 (.pointer (some ⟨p,0,none⟩)),.v 65 (.pointer (some ⟨p,0,none⟩)),.l 66 (.agg #[.slice (p8 5).A (p8 5).N (p8 5).C]) 3 0,.v 67 (pT (p2 3).N 4),.l 68 (.agg #[.slice (p2 2).A4 (p2 2).N4 (p2 2).C4]) 2 4,.c (some 69) (cN W9.heap.size x),.v 70 (.pointer (some ⟨p,0,none⟩)),.v 71 (pT (p2 3).N 2),.l 72 (.agg #[.slice (p2 2).A3 (p2 2).N3 (p2 2).C3]) 2 2,.v 73 (pT (p2 3).N 3),.l 74 (.agg #[.slice (p2 2).A2 (p2 2).N2 (p2 2).C2]) 2 3,.c (some 75) (cN W9.heap.size y),.c (some 76) (cN W9.heap.size z),.n 9 #[.slice none 0 0] 26,.p 1013 0 [.slice (p10 12).A (p10 12).N (p10 12).C]]) (fun p10=>[(0,.pointer (some ⟨p,0,none⟩)),(4,pT (p1 1).N 0),(5,.int .i64 0),(6,pT (p2 3).N 0),(7,.bool t),(8,pT (p8 6).N 0),(9,pT (p10 13).N 0)]) (fun p10=>?_) (fun p10 W10 T hF hK=>?_)
 ·iterate 2 refine okv ?_
  refine okl ?_
  refine okv ?_
  refine okl ?_
  refine okc (fun W cx=>as_n cx.hb (unhide H5 _ _ _ (p8 5).C _ _ (p2 2).C4 ⟨_,_,cx.B 0 _ rfl (by kernel_rfl) (by kernel_rfl),hp0⟩ (Mine.num cx.G.1) (Mine.num cx.G.2.2.2.2.2.1))) ?_
  iterate 2 refine okv ?_
  refine okl ?_
  refine okv ?_
  refine okl ?_
  refine okc (fun W cx=>as_n cx.hb (unhide H6 _ _ _ (p2 2).C3 _ _ (p2 2).C2 ⟨_,_,cx.B 0 _ rfl (by kernel_rfl) (by kernel_rfl),hp0⟩ (Mine.num cx.G.2.2.2.2.1) (Mine.num cx.G.2.2.2.1))) ?_
  refine okc (fun W cx=>as_n cx.hb (unhide H7 _ _ _ (p10 5).C _ _ (p10 11).C ⟨_,_,cx.B 0 _ rfl (by kernel_rfl) (by kernel_rfl),hp0⟩ (Mine.num (cx.F 5 (by kernel_rfl))) (Mine.num (cx.F 11 (by kernel_rfl))))) ?_
  refine okn ?_
  refine okp ?_
  exact ok_nil
 replace hS:=SymF.fc hS hF [0,1,2,3,1013] [⟨p,cs9,t9_,false⟩,⟨(p1 1).N,#[.bool false,.slice none 0 0,.slice none 0 0],28,true⟩,⟨(p2 3).N,#[.slice (p2 2).A' (p2 2).N' (p2 2).C',.slice (p2 2).A (p2 2).N (p2 2).C,.slice (p2 2).A3 (p2 2).N3 (p2 2).C3,.slice (p2 2).A2 (p2 2).N2 (p2 2).C2,.slice (p2 2).A4 (p2 2).N4 (p2 2).C4,.bool b],190,true⟩,⟨(p8 6).N,#[.slice (p8 5).A (p8 5).N (p8 5).C],26,true⟩,⟨(p10 13).N,#[.slice (p10 12).A (p10 12).N (p10 12).C],26,true⟩]
 replace hG:GsAt (gM W9.heap.size (p10 5).A (p10 5).N (p10 5).C x :: gM W9.heap.size (p10 11).A (p10 11).N (p10 11).C y :: gM W9.heap.size (p10 12).A (p10 12).N (p10 12).C z :: _) W10:=⟨hF.fx 5,hF.fx 11,hF.fx 12,hF.gx⟩
 clear hF
 refine wq hS hG hK (fun p11=>[.v 77 (.pointer (some ⟨p,0,none⟩)),.v 78 (.bool t),.l 79 (.agg #[.slice (p10 12).A (p10 12).N (p10 12).C]) 4 0,.v 80 (pT (p2 3).N 4),.l 81 (.agg #[.slice (p2 2).A4 (p2 2).N4 (p2 2).C4]) 2 4,.c (some 82) (cV (.tuple #[.agg #[.bool g,.slice (p10 12).A (p10 12).N (p10 12).C,.slice (p2 2).A4 (p2 2).N4 (p2 2).C4],.int .i64 0])),.v 83 (.agg #[.bool g,.slice (p10 12).A (p10 12).N (p10 12).C,.slice (p2 2).A4 (p2 2).N4 (p2 2).C4]),.v 84 (.int .i64 0),.p 1 0 [.bool g,.slice (p10 12).A (p10 12).N (p10 12).C,.slice (p2 2).A4 (p2 2).N4 (p2 2).C4],.v 5 (.int .i64 0)]) (fun p11=>[(0,.pointer (some ⟨p,0,none⟩)),(4,pT (p1 1).N 0),(5,.int .i64 0),(6,pT (p2 3).N 0),(8,pT (p8 6).N 0)]) (fun p11=>?_) (fun p11 W11 T hF hK=>?_)
 ·iterate 2 refine okv ?_
  refine okl ?_
  refine okv ?_
  refine okl ?_
  refine okc (fun W cx=>as_v (unhide HF _ _ _ (p10 12).C _ _ (p2 2).C4 ⟨_,_,cx.B 0 _ rfl (by kernel_rfl) (by kernel_rfl),hp0⟩ (Mine.num cx.G.2.2.1) (Mine.num cx.G.2.2.2.2.2.2.2.2.1))) ?_
  iterate 2 refine okv ?_
  refine okp ?_
  refine okv ?_
  exact ok_nil
 replace hS:=SymF.fc hS hF [0,1,2,3] [⟨p,cs9,t9_,false⟩,⟨(p1 1).N,#[.bool g,.slice (p10 12).A (p10 12).N (p10 12).C,.slice (p2 2).A4 (p2 2).N4 (p2 2).C4],28,true⟩,⟨(p2 3).N,#[.slice (p2 2).A' (p2 2).N' (p2 2).C',.slice (p2 2).A (p2 2).N (p2 2).C,.slice (p2 2).A3 (p2 2).N3 (p2 2).C3,.slice (p2 2).A2 (p2 2).N2 (p2 2).C2,.slice (p2 2).A4 (p2 2).N4 (p2 2).C4,.bool b],190,true⟩,⟨(p8 6).N,#[.slice (p8 5).A (p8 5).N (p8 5).C],26,true⟩]
 replace hG:=hF.gx
 clear hF
 refine wp_ret ?_
 exact sym_end hS hK (.tuple #[.agg #[.bool g,.slice (p10 12).A (p10 12).N (p10 12).C,.slice (p2 2).A4 (p2 2).N4 (p2 2).C4],.int .i64 0]) [(1,0,3)] [.bool g,.slice (p10 12).A (p10 12).N (p10 12).C,.slice (p2 2).A4 (p2 2).N4 (p2 2).C4] (by kernel_rfl) (by kernel_rfl) ⟨⟨_,_,_,_,_,_,rfl,Mine.mono hG.2.2.1 z9,Mine.mono hG.2.2.2.2.2.2.2.2.1 z1⟩,hS.fr⟩
theorem zapa_fl (w:World) (p:Nat) (a1 a2 a3 a4:Option Addr) (n1 n2 n3 n4 c1 c2 c3 c4 m1 d1 m2 d2:Nat) (s t b g:Bool) (wa wb pa pb dn wh wi u v x y z:Nat) (r:Int) (hR:Rz w p 0) (h1:Num w a1 n1 m1) (h2:Num w a2 n2 d1) (h3:Num w a3 n3 m2) (h4:Num w a4 n4 d2) (HS:Hid (WSpl p s t m1 d1 m2 d2 wa wb pa pb dn b)) (HB:Hid (WBel p wa wb pa pb false)) (H1:Hid (WTwo 141 p wa wb wh)) (HC:Hid (WCmp p pa pb r)) (hr:r < 0) (H2:Hid (WTwo 141 p wh 1 wi)) (H3:Hid (WTwo 141 p dn pb u)) (H4:Hid (WTwo 135 p u pa v)) (H5:Hid (WTwo 62 p wi dn x)) (H6:Hid (WTwo 141 p v 0 y)) (H7:Hid (WTwo 135 p x y z)) (HF:Hid (WFr p s z dn g))  :
  Calls Tryz.prog 115 #[.pointer (some ⟨p,0,none⟩),.agg #[.bool s,.slice a1 n1 c1,.slice a2 n2 c2,.bool t,.slice a3 n3 c3,.slice a4 n4 c4]] w fun en w'=>(∃ A N C A' N' C',en = .returned (.tuple #[.agg #[.bool g,.slice A N C,.slice A' N' C'],.int .i64 0])∧Mine w' w.heap.size A N C z∧Mine w' w.heap.size A' N' C' dn)∧Below w.heap.size w w':=by
 obtain ⟨cs9,t9_,hp,hp0⟩:=hR
 refine calls_sym Tryz.func115 rfl (by kernel_rfl) fun T hK=>?_
 replace hK:Kn T _ [(0,.pointer (some ⟨p,0,none⟩)),(1,.agg #[.bool s,.slice a1 n1 c1,.slice a2 n2 c2,.bool t,.slice a3 n3 c3,.slice a4 n4 c4])]:=hK
 have hS:=Fb.other hp
 have hG:GsAt [gN a1 n1 m1,gN a2 n2 d1,gN a3 n3 m2,gN a4 n4 d2] w:=⟨h1,h2,h3,h4,trivial⟩
 refine wq hS hG hK (fun p1=>[.n 3 #[.bool s,.slice a1 n1 c1,.slice a2 n2 c2,.bool t,.slice a3 n3 c3,.slice a4 n4 c4] 67,.n 4 #[.bool false,.slice none 0 0,.slice none 0 0] 28,.v 5 (.int .i64 0)]) (fun p1=>[(0,.pointer (some ⟨p,0,none⟩)),(3,pT (p1 0).N 0),(4,pT (p1 1).N 0),(5,.int .i64 0)]) (fun p1=>?_) (fun p1 W1 T hF hK=>?_)
 ·iterate 2 refine okn ?_
  refine okv ?_
  exact ok_nil
 replace hS:=SymF.fc hS hF [0,1000,1001] [⟨p,cs9,t9_,false⟩,⟨(p1 0).N,#[.bool s,.slice a1 n1 c1,.slice a2 n2 c2,.bool t,.slice a3 n3 c3,.slice a4 n4 c4],67,true⟩,⟨(p1 1).N,#[.bool false,.slice none 0 0,.slice none 0 0],28,true⟩]
 replace hG:=hF.gx
 clear hF
 have z1:=hS.fr.size
 refine wq hS hG hK (fun p2=>[.v 10 (.pointer (some ⟨p,0,none⟩)),.l 11 (.agg #[.bool s,.slice a1 n1 c1,.slice a2 n2 c2,.bool t,.slice a3 n3 c3,.slice a4 n4 c4]) 1 0,.c (some 12) (c5 W1.heap.size wa wb pa pb dn b),.n 6 #[.slice none 0 0,.slice none 0 0,.slice none 0 0,.slice none 0 0,.slice none 0 0,.bool false] 190,.p 1003 0 [.slice (p2 2).A (p2 2).N (p2 2).C,.slice (p2 2).A' (p2 2).N' (p2 2).C',.slice (p2 2).A2 (p2 2).N2 (p2 2).C2,.slice (p2 2).A3 (p2 2).N3 (p2 2).C3,.slice (p2 2).A4 (p2 2).N4 (p2 2).C4,.bool b]]) (fun p2=>[(0,.pointer (some ⟨p,0,none⟩)),(3,pT (p1 0).N 0),(4,pT (p1 1).N 0),(5,.int .i64 0),(6,pT (p2 3).N 0)]) (fun p2=>?_) (fun p2 W2 T hF hK=>?_)
 ·refine okv ?_
  refine okl ?_
  refine okc (fun W cx=>as_5 cx.hb (unhide HS _ _ _ c1 _ _ c2 _ _ c3 _ _ c4 ⟨_,_,cx.B 0 _ rfl (by kernel_rfl) (by kernel_rfl),hp0⟩ (cx.G.1) (cx.G.2.1) (cx.G.2.2.1) (cx.G.2.2.2.1))) ?_
  refine okn ?_
  refine okp ?_
  exact ok_nil
 replace hS:=SymF.fc hS hF [0,1,2,1003] [⟨p,cs9,t9_,false⟩,⟨(p1 0).N,#[.bool s,.slice a1 n1 c1,.slice a2 n2 c2,.bool t,.slice a3 n3 c3,.slice a4 n4 c4],67,true⟩,⟨(p1 1).N,#[.bool false,.slice none 0 0,.slice none 0 0],28,true⟩,⟨(p2 3).N,#[.slice (p2 2).A (p2 2).N (p2 2).C,.slice (p2 2).A' (p2 2).N' (p2 2).C',.slice (p2 2).A2 (p2 2).N2 (p2 2).C2,.slice (p2 2).A3 (p2 2).N3 (p2 2).C3,.slice (p2 2).A4 (p2 2).N4 (p2 2).C4,.bool b],190,true⟩]
 replace hG:GsAt (gM W1.heap.size (p2 2).A (p2 2).N (p2 2).C wa :: gM W1.heap.size (p2 2).A' (p2 2).N' (p2 2).C' wb :: gM W1.heap.size (p2 2).A2 (p2 2).N2 (p2 2).C2 pa :: gM W1.heap.size (p2 2).A3 (p2 2).N3 (p2 2).C3 pb :: gM W1.heap.size (p2 2).A4 (p2 2).N4 (p2 2).C4 dn :: _) W2:=⟨(hF.fx 2).1,(hF.fx 2).2.1,(hF.fx 2).2.2.1,(hF.fx 2).2.2.2.1,(hF.fx 2).2.2.2.2,hF.gx⟩
 clear hF
 refine wq hS hG hK (fun p3=>[.v 13 (pT (p1 0).N 0),.v 14 (pT (p1 0).N 0),.l 15 (.bool s) 1 0,.v 7 (.bool s)]) (fun p3=>[(0,.pointer (some ⟨p,0,none⟩)),(3,pT (p1 0).N 0),(4,pT (p1 1).N 0),(5,.int .i64 0),(6,pT (p2 3).N 0),(7,.bool s)]) (fun p3=>?_) (fun p3 W3 T hF hK=>?_)
 ·iterate 2 refine okv ?_
  refine okl ?_
  refine okv ?_
  exact ok_nil
 obtain ⟨hS,hG⟩:=SymF.fg hS hF
 clear hF
 refine wp_seq ?_
 refine wq hS hG hK (fun p4=>[.l 16 (.agg #[.slice (p2 2).A (p2 2).N (p2 2).C,.slice (p2 2).A' (p2 2).N' (p2 2).C',.slice (p2 2).A2 (p2 2).N2 (p2 2).C2,.slice (p2 2).A3 (p2 2).N3 (p2 2).C3,.slice (p2 2).A4 (p2 2).N4 (p2 2).C4,.bool b]) 3 0,.v 17 (.pointer (some ⟨p,0,none⟩)),.c (some 18) (cV (.bool false))]) (fun p4=>[(0,.pointer (some ⟨p,0,none⟩)),(3,pT (p1 0).N 0),(4,pT (p1 1).N 0),(5,.int .i64 0),(6,pT (p2 3).N 0),(7,.bool s),(18,.bool false)]) (fun p4=>?_) (fun p4 W4 T hF hK=>?_)
 ·refine okl ?_
  refine okv ?_
  refine okc (fun W cx=>as_v (unhide HB _ (p2 2).A (p2 2).N (p2 2).C (p2 2).A' (p2 2).N' (p2 2).C' (p2 2).A2 (p2 2).N2 (p2 2).C2 (p2 2).A3 (p2 2).N3 (p2 2).C3 (p2 2).A4 (p2 2).N4 (p2 2).C4 b ⟨_,_,cx.B 0 _ rfl (by kernel_rfl) (by kernel_rfl),hp0⟩ (Mine.num cx.G.1) (Mine.num cx.G.2.1) (Mine.num cx.G.2.2.1) (Mine.num cx.G.2.2.2.1))) ?_
  exact ok_nil
 obtain ⟨hS,hG⟩:=SymF.fg hS hF
 clear hF
 refine wp_cond_false (hK.ew 18) (wp_skip (then_n ?_))
 refine wq hS hG hK (fun p5=>[.v 34 (.pointer (some ⟨p,0,none⟩)),.v 35 (pT (p2 3).N 0),.l 36 (.agg #[.slice (p2 2).A (p2 2).N (p2 2).C]) 3 0,.v 37 (pT (p2 3).N 1),.l 38 (.agg #[.slice (p2 2).A' (p2 2).N' (p2 2).C']) 3 1,.c (some 39) (cN W4.heap.size wh),.n 8 #[.slice none 0 0] 26,.p 1006 0 [.slice (p5 5).A (p5 5).N (p5 5).C]]) (fun p5=>[(0,.pointer (some ⟨p,0,none⟩)),(3,pT (p1 0).N 0),(4,pT (p1 1).N 0),(5,.int .i64 0),(6,pT (p2 3).N 0),(7,.bool s),(8,pT (p5 6).N 0)]) (fun p5=>?_) (fun p5 W5 T hF hK=>?_)
 ·iterate 2 refine okv ?_
  refine okl ?_
  refine okv ?_
  refine okl ?_
  refine okc (fun W cx=>as_n cx.hb (unhide H1 _ _ _ (p2 2).C _ _ (p2 2).C' ⟨_,_,cx.B 0 _ rfl (by kernel_rfl) (by kernel_rfl),hp0⟩ (Mine.num cx.G.1) (Mine.num cx.G.2.1))) ?_
  refine okn ?_
  refine okp ?_
  exact ok_nil
 replace hS:=SymF.fc hS hF [0,1,2,3,1006] [⟨p,cs9,t9_,false⟩,⟨(p1 0).N,#[.bool s,.slice a1 n1 c1,.slice a2 n2 c2,.bool t,.slice a3 n3 c3,.slice a4 n4 c4],67,true⟩,⟨(p1 1).N,#[.bool false,.slice none 0 0,.slice none 0 0],28,true⟩,⟨(p2 3).N,#[.slice (p2 2).A (p2 2).N (p2 2).C,.slice (p2 2).A' (p2 2).N' (p2 2).C',.slice (p2 2).A2 (p2 2).N2 (p2 2).C2,.slice (p2 2).A3 (p2 2).N3 (p2 2).C3,.slice (p2 2).A4 (p2 2).N4 (p2 2).C4,.bool b],190,true⟩,⟨(p5 6).N,#[.slice (p5 5).A (p5 5).N (p5 5).C],26,true⟩]
 replace hG:GsAt (gM W4.heap.size (p5 5).A (p5 5).N (p5 5).C wh :: _) W5:=⟨hF.fx 5,hF.gx⟩
 clear hF
 refine wp_seq ?_
 refine wq hS hG hK (fun p6=>[.v 40 (.pointer (some ⟨p,0,none⟩)),.v 41 (pT (p2 3).N 2),.l 42 (.agg #[.slice (p2 2).A2 (p2 2).N2 (p2 2).C2]) 3 2,.v 43 (pT (p2 3).N 3),.l 44 (.agg #[.slice (p2 2).A3 (p2 2).N3 (p2 2).C3]) 3 3,.c (some 45) (cV (.int .i64 r)),.v 46 (.bool true)]) (fun p6=>[(0,.pointer (some ⟨p,0,none⟩)),(3,pT (p1 0).N 0),(4,pT (p1 1).N 0),(5,.int .i64 0),(6,pT (p2 3).N 0),(7,.bool s),(8,pT (p5 6).N 0),(46,.bool true)]) (fun p6=>?_) (fun p6 W6 T hF hK=>?_)
 ·iterate 2 refine okv ?_
  refine okl ?_
  refine okv ?_
  refine okl ?_
  refine okc (fun W cx=>as_v (unhide HC _ _ _ (p2 2).C2 _ _ (p2 2).C3 ⟨_,_,cx.B 0 _ rfl (by kernel_rfl) (by kernel_rfl),hp0⟩ (Mine.num cx.G.2.2.2.1) (Mine.num cx.G.2.2.2.2.1))) ?_
  refine okvb (decide_eq_true (show r < 0 by omega)) ?_
  exact ok_nil
 obtain ⟨hS,hG⟩:=SymF.fg hS hF
 clear hF
 refine wp_cond_true (hK.ew 46) ?_
 refine wq hS hG hK (fun p7=>[.v 47 (.pointer (some ⟨p,0,none⟩)),.l 48 (.agg #[.slice (p5 5).A (p5 5).N (p5 5).C]) 4 0,.c (some 49) (cN W6.heap.size 1),.c (some 50) (cN W6.heap.size wi),.p 4 0 [.slice (p7 3).A (p7 3).N (p7 3).C]]) (fun p7=>[(0,.pointer (some ⟨p,0,none⟩)),(3,pT (p1 0).N 0),(4,pT (p1 1).N 0),(5,.int .i64 0),(6,pT (p2 3).N 0),(7,.bool s),(8,pT (p5 6).N 0)]) (fun p7=>?_) (fun p7 W7 T hF hK=>?_)
 ·refine okv ?_
  refine okl ?_
  refine okc (fun W cx=>as_n cx.hb (of_any 1 _ (by decide))) ?_
  refine okc (fun W cx=>as_n cx.hb (unhide H2 _ _ _ (p5 5).C _ _ (p7 2).C ⟨_,_,cx.B 0 _ rfl (by kernel_rfl) (by kernel_rfl),hp0⟩ (Mine.num cx.G.1) (Mine.num (cx.F 2 (by kernel_rfl))))) ?_
  refine okp ?_
  exact ok_nil
 replace hS:=SymF.fc hS hF [0,1,2,3,4] [⟨p,cs9,t9_,false⟩,⟨(p1 0).N,#[.bool s,.slice a1 n1 c1,.slice a2 n2 c2,.bool t,.slice a3 n3 c3,.slice a4 n4 c4],67,true⟩,⟨(p1 1).N,#[.bool false,.slice none 0 0,.slice none 0 0],28,true⟩,⟨(p2 3).N,#[.slice (p2 2).A (p2 2).N (p2 2).C,.slice (p2 2).A' (p2 2).N' (p2 2).C',.slice (p2 2).A2 (p2 2).N2 (p2 2).C2,.slice (p2 2).A3 (p2 2).N3 (p2 2).C3,.slice (p2 2).A4 (p2 2).N4 (p2 2).C4,.bool b],190,true⟩,⟨(p5 6).N,#[.slice (p7 3).A (p7 3).N (p7 3).C],26,true⟩]
 replace hG:GsAt (gM W6.heap.size (p7 2).A (p7 2).N (p7 2).C 1 :: gM W6.heap.size (p7 3).A (p7 3).N (p7 3).C wi :: _) W7:=⟨hF.fx 2,hF.fx 3,hF.gx⟩
 clear hF
 refine wq hS hG hK (fun p8=>[.v 51 (.pointer (some ⟨p,0,none⟩)),.v 52 (.pointer (some ⟨p,0,none⟩)),.v 53 (pT (p2 3).N 4),.l 54 (.agg #[.slice (p2 2).A4 (p2 2).N4 (p2 2).C4]) 3 4,.v 55 (pT (p2 3).N 3),.l 56 (.agg #[.slice (p2 2).A3 (p2 2).N3 (p2 2).C3]) 3 3,.c (some 57) (cN W7.heap.size u),.v 58 (pT (p2 3).N 2),.l 59 (.agg #[.slice (p2 2).A2 (p2 2).N2 (p2 2).C2]) 3 2,.c (some 60) (cN W7.heap.size v),.v 61 (pT (p2 3).N 2),.p 3 2 [.slice (p8 9).A (p8 9).N (p8 9).C]]) (fun p8=>[(0,.pointer (some ⟨p,0,none⟩)),(3,pT (p1 0).N 0),(4,pT (p1 1).N 0),(5,.int .i64 0),(6,pT (p2 3).N 0),(7,.bool s),(8,pT (p5 6).N 0)]) (fun p8=>?_) (fun p8 W8 T hF hK=>?_)
 ·iterate 3 refine okv ?_
  refine okl ?_
  refine okv ?_
  refine okl ?_
  refine okc (fun W cx=>as_n cx.hb (unhide H3 _ _ _ (p2 2).C4 _ _ (p2 2).C3 ⟨_,_,cx.B 0 _ rfl (by kernel_rfl) (by kernel_rfl),hp0⟩ (Mine.num cx.G.2.2.2.2.2.2.2.1) (Mine.num cx.G.2.2.2.2.2.2.1))) ?_
  refine okv ?_
  refine okl ?_
  refine okc (fun W cx=>as_n cx.hb (unhide H4 _ _ _ (p8 6).C _ _ (p2 2).C2 ⟨_,_,cx.B 0 _ rfl (by kernel_rfl) (by kernel_rfl),hp0⟩ (Mine.num (cx.F 6 (by kernel_rfl))) (Mine.num cx.G.2.2.2.2.2.1))) ?_
  refine okv ?_
  refine okp ?_
  exact ok_nil
 replace hS:=SymF.fc hS hF [0,1,2,3,4] [⟨p,cs9,t9_,false⟩,⟨(p1 0).N,#[.bool s,.slice a1 n1 c1,.slice a2 n2 c2,.bool t,.slice a3 n3 c3,.slice a4 n4 c4],67,true⟩,⟨(p1 1).N,#[.bool false,.slice none 0 0,.slice none 0 0],28,true⟩,⟨(p2 3).N,#[.slice (p2 2).A (p2 2).N (p2 2).C,.slice (p2 2).A' (p2 2).N' (p2 2).C',.slice (p8 9).A (p8 9).N (p8 9).C,.slice (p2 2).A3 (p2 2).N3 (p2 2).C3,.slice (p2 2).A4 (p2 2).N4 (p2 2).C4,.bool b],190,true⟩,⟨(p5 6).N,#[.slice (p7 3).A (p7 3).N (p7 3).C],26,true⟩]
 replace hG:GsAt (gM W7.heap.size (p8 6).A (p8 6).N (p8 6).C u :: gM W7.heap.size (p8 9).A (p8 9).N (p8 9).C v :: _) W8:=⟨hF.fx 6,hF.fx 9,hF.gx⟩
 clear hF
 refine wg hS hG hK (fun p9=>[.v 62 (.agg #[.slice none 0 0]),.v 63 (pT (p2 3).N 3),.p 3 3 [.slice none 0 0]]) (fun p9=>[(0,.pointer (some ⟨p,0,none⟩)),(3,pT (p1 0).N 0),(4,pT (p1 1).N 0),(5,.int .i64 0),(6,pT (p2 3).N 0),(7,.bool s),(8,pT (p5 6).N 0)]) (fun p9=>?_) (fun p9 W9 T hF hK=>?_)
 ·iterate 2 refine okv ?_
  refine okp ?_
  exact ok_nil
 replace hS:=SymF.fc hS hF [0,1,2,3,4] [⟨p,cs9,t9_,false⟩,⟨(p1 0).N,#[.bool s,.slice a1 n1 c1,.slice a2 n2 c2,.bool t,.slice a3 n3 c3,.slice a4 n4 c4],67,true⟩,⟨(p1 1).N,#[.bool false,.slice none 0 0,.slice none 0 0],28,true⟩,⟨(p2 3).N,#[.slice (p2 2).A (p2 2).N (p2 2).C,.slice (p2 2).A' (p2 2).N' (p2 2).C',.slice (p8 9).A (p8 9).N (p8 9).C,.slice none 0 0,.slice (p2 2).A4 (p2 2).N4 (p2 2).C4,.bool b],190,true⟩,⟨(p5 6).N,#[.slice (p7 3).A (p7 3).N (p7 3).C],26,true⟩]
 replace hG:=hF.gx
 clear hF
 have z9:=hS.fr.size
 refine then_n ?_
 refine wq hS hG hK (fun p10=>[.v 64 (.pointer (some ⟨p,0,none⟩)),.v 65 (.pointer (some ⟨p,0,none⟩)),.l 66 (.agg #[.slice (p7 3).A (p7 3).N (p7 3).C]) 4 0,.v 67 (pT (p2 3).N 4),.l 68 (.agg #[.slice (p2 2).A4 (p2 2).N4 (p2 2).C4]) 3 4,.c (some 69) (cN W9.heap.size x),.v 70 (.pointer (some ⟨p,0,none⟩)),.v 71 (pT (p2 3).N 2),.l 72 (.agg #[.slice (p8 9).A (p8 9).N (p8 9).C]) 3 2,.v 73 (pT (p2 3).N 3),.l 74 (.agg #[.slice none 0 0]) 3 3,.c (some 75) (cN W9.heap.size y),.c (some 76) (cN W9.heap.size z),.n 9 #[.slice none 0 0] 26,.p 1013 0 [.slice (p10 12).A (p10 12).N (p10 12).C]]) (fun p10=>[(0,.pointer (some ⟨p,0,none⟩)),(3,pT (p1 0).N 0),(4,pT (p1 1).N 0),(5,.int .i64 0),(6,pT (p2 3).N 0),(7,.bool s),(9,pT (p10 13).N 0)]) (fun p10=>?_) (fun p10 W10 T hF hK=>?_)
 ·iterate 2 refine okv ?_
  refine okl ?_
  refine okv ?_
  refine okl ?_
  refine okc (fun W cx=>as_n cx.hb (unhide H5 _ _ _ (p7 3).C _ _ (p2 2).C4 ⟨_,_,cx.B 0 _ rfl (by kernel_rfl) (by kernel_rfl),hp0⟩ (Mine.num cx.G.2.2.2.1) (Mine.num cx.G.2.2.2.2.2.2.2.2.2.1))) ?_
  iterate 2 refine okv ?_
  refine okl ?_
  refine okv ?_
  refine okl ?_
  refine okc (fun W cx=>as_n cx.hb (unhide H6 _ _ _ (p8 9).C _ _ 0 ⟨_,_,cx.B 0 _ rfl (by kernel_rfl) (by kernel_rfl),hp0⟩ (Mine.num cx.G.2.1) (Num.znil _))) ?_
  refine okc (fun W cx=>as_n cx.hb (unhide H7 _ _ _ (p10 5).C _ _ (p10 11).C ⟨_,_,cx.B 0 _ rfl (by kernel_rfl) (by kernel_rfl),hp0⟩ (Mine.num (cx.F 5 (by kernel_rfl))) (Mine.num (cx.F 11 (by kernel_rfl))))) ?_
  refine okn ?_
  refine okp ?_
  exact ok_nil
 replace hS:=SymF.fc hS hF [0,1,2,3,1013] [⟨p,cs9,t9_,false⟩,⟨(p1 0).N,#[.bool s,.slice a1 n1 c1,.slice a2 n2 c2,.bool t,.slice a3 n3 c3,.slice a4 n4 c4],67,true⟩,⟨(p1 1).N,#[.bool false,.slice none 0 0,.slice none 0 0],28,true⟩,⟨(p2 3).N,#[.slice (p2 2).A (p2 2).N (p2 2).C,.slice (p2 2).A' (p2 2).N' (p2 2).C',.slice (p8 9).A (p8 9).N (p8 9).C,.slice none 0 0,.slice (p2 2).A4 (p2 2).N4 (p2 2).C4,.bool b],190,true⟩,⟨(p10 13).N,#[.slice (p10 12).A (p10 12).N (p10 12).C],26,true⟩]
 replace hG:GsAt (gM W9.heap.size (p10 5).A (p10 5).N (p10 5).C x :: gM W9.heap.size (p10 11).A (p10 11).N (p10 11).C y :: gM W9.heap.size (p10 12).A (p10 12).N (p10 12).C z :: _) W10:=⟨hF.fx 5,hF.fx 11,hF.fx 12,hF.gx⟩
 clear hF
 refine wq hS hG hK (fun p11=>[.v 77 (.pointer (some ⟨p,0,none⟩)),.v 78 (.bool s),.l 79 (.agg #[.slice (p10 12).A (p10 12).N (p10 12).C]) 4 0,.v 80 (pT (p2 3).N 4),.l 81 (.agg #[.slice (p2 2).A4 (p2 2).N4 (p2 2).C4]) 3 4,.c (some 82) (cV (.tuple #[.agg #[.bool g,.slice (p10 12).A (p10 12).N (p10 12).C,.slice (p2 2).A4 (p2 2).N4 (p2 2).C4],.int .i64 0])),.v 83 (.agg #[.bool g,.slice (p10 12).A (p10 12).N (p10 12).C,.slice (p2 2).A4 (p2 2).N4 (p2 2).C4]),.v 84 (.int .i64 0),.p 2 0 [.bool g,.slice (p10 12).A (p10 12).N (p10 12).C,.slice (p2 2).A4 (p2 2).N4 (p2 2).C4],.v 5 (.int .i64 0)]) (fun p11=>[(3,pT (p1 0).N 0),(4,pT (p1 1).N 0),(5,.int .i64 0),(6,pT (p2 3).N 0)]) (fun p11=>?_) (fun p11 W11 T hF hK=>?_)
 ·iterate 2 refine okv ?_
  refine okl ?_
  refine okv ?_
  refine okl ?_
  refine okc (fun W cx=>as_v (unhide HF _ _ _ (p10 12).C _ _ (p2 2).C4 ⟨_,_,cx.B 0 _ rfl (by kernel_rfl) (by kernel_rfl),hp0⟩ (Mine.num cx.G.2.2.1) (Mine.num cx.G.2.2.2.2.2.2.2.2.2.2.2.2.1))) ?_
  iterate 2 refine okv ?_
  refine okp ?_
  refine okv ?_
  exact ok_nil
 replace hS:=SymF.fc hS hF [0,1,2,3] [⟨p,cs9,t9_,false⟩,⟨(p1 0).N,#[.bool s,.slice a1 n1 c1,.slice a2 n2 c2,.bool t,.slice a3 n3 c3,.slice a4 n4 c4],67,true⟩,⟨(p1 1).N,#[.bool g,.slice (p10 12).A (p10 12).N (p10 12).C,.slice (p2 2).A4 (p2 2).N4 (p2 2).C4],28,true⟩,⟨(p2 3).N,#[.slice (p2 2).A (p2 2).N (p2 2).C,.slice (p2 2).A' (p2 2).N' (p2 2).C',.slice (p8 9).A (p8 9).N (p8 9).C,.slice none 0 0,.slice (p2 2).A4 (p2 2).N4 (p2 2).C4,.bool b],190,true⟩]
 replace hG:=hF.gx
 clear hF
 refine wp_ret ?_
 exact sym_end hS hK (.tuple #[.agg #[.bool g,.slice (p10 12).A (p10 12).N (p10 12).C,.slice (p2 2).A4 (p2 2).N4 (p2 2).C4],.int .i64 0]) [(2,0,3)] [.bool g,.slice (p10 12).A (p10 12).N (p10 12).C,.slice (p2 2).A4 (p2 2).N4 (p2 2).C4] (by kernel_rfl) (by kernel_rfl) ⟨⟨_,_,_,_,_,_,rfl,Mine.mono hG.2.2.1 z9,Mine.mono hG.2.2.2.2.2.2.2.2.2.2.2.2.1 z1⟩,hS.fr⟩
theorem zapa_fg (w:World) (p:Nat) (a1 a2 a3 a4:Option Addr) (n1 n2 n3 n4 c1 c2 c3 c4 m1 d1 m2 d2:Nat) (s t b g:Bool) (wa wb pa pb dn wh x y z:Nat) (r:Int) (hR:Rz w p 0) (h1:Num w a1 n1 m1) (h2:Num w a2 n2 d1) (h3:Num w a3 n3 m2) (h4:Num w a4 n4 d2) (HS:Hid (WSpl p s t m1 d1 m2 d2 wa wb pa pb dn b)) (HB:Hid (WBel p wa wb pa pb false)) (H1:Hid (WTwo 141 p wa wb wh)) (HC:Hid (WCmp p pa pb r)) (hr:0≤r) (H5:Hid (WTwo 62 p wh dn x)) (H6:Hid (WTwo 141 p pa pb y)) (H7:Hid (WTwo 135 p x y z)) (HF:Hid (WFr p s z dn g))  :
  Calls Tryz.prog 115 #[.pointer (some ⟨p,0,none⟩),.agg #[.bool s,.slice a1 n1 c1,.slice a2 n2 c2,.bool t,.slice a3 n3 c3,.slice a4 n4 c4]] w fun en w'=>(∃ A N C A' N' C',en = .returned (.tuple #[.agg #[.bool g,.slice A N C,.slice A' N' C'],.int .i64 0])∧Mine w' w.heap.size A N C z∧Mine w' w.heap.size A' N' C' dn)∧Below w.heap.size w w':=by
 obtain ⟨cs9,t9_,hp,hp0⟩:=hR
 refine calls_sym Tryz.func115 rfl (by kernel_rfl) fun T hK=>?_
 replace hK:Kn T _ [(0,.pointer (some ⟨p,0,none⟩)),(1,.agg #[.bool s,.slice a1 n1 c1,.slice a2 n2 c2,.bool t,.slice a3 n3 c3,.slice a4 n4 c4])]:=hK
 have hS:=Fb.other hp
 have hG:GsAt [gN a1 n1 m1,gN a2 n2 d1,gN a3 n3 m2,gN a4 n4 d2] w:=⟨h1,h2,h3,h4,trivial⟩
 refine wq hS hG hK (fun p1=>[.n 3 #[.bool s,.slice a1 n1 c1,.slice a2 n2 c2,.bool t,.slice a3 n3 c3,.slice a4 n4 c4] 67,.n 4 #[.bool false,.slice none 0 0,.slice none 0 0] 28,.v 5 (.int .i64 0)]) (fun p1=>[(0,.pointer (some ⟨p,0,none⟩)),(3,pT (p1 0).N 0),(4,pT (p1 1).N 0),(5,.int .i64 0)]) (fun p1=>?_) (fun p1 W1 T hF hK=>?_)
 ·iterate 2 refine okn ?_
  refine okv ?_
  exact ok_nil
 replace hS:=SymF.fc hS hF [0,1000,1001] [⟨p,cs9,t9_,false⟩,⟨(p1 0).N,#[.bool s,.slice a1 n1 c1,.slice a2 n2 c2,.bool t,.slice a3 n3 c3,.slice a4 n4 c4],67,true⟩,⟨(p1 1).N,#[.bool false,.slice none 0 0,.slice none 0 0],28,true⟩]
 replace hG:=hF.gx
 clear hF
 have z1:=hS.fr.size
 refine wq hS hG hK (fun p2=>[.v 10 (.pointer (some ⟨p,0,none⟩)),.l 11 (.agg #[.bool s,.slice a1 n1 c1,.slice a2 n2 c2,.bool t,.slice a3 n3 c3,.slice a4 n4 c4]) 1 0,.c (some 12) (c5 W1.heap.size wa wb pa pb dn b),.n 6 #[.slice none 0 0,.slice none 0 0,.slice none 0 0,.slice none 0 0,.slice none 0 0,.bool false] 190,.p 1003 0 [.slice (p2 2).A (p2 2).N (p2 2).C,.slice (p2 2).A' (p2 2).N' (p2 2).C',.slice (p2 2).A2 (p2 2).N2 (p2 2).C2,.slice (p2 2).A3 (p2 2).N3 (p2 2).C3,.slice (p2 2).A4 (p2 2).N4 (p2 2).C4,.bool b]]) (fun p2=>[(0,.pointer (some ⟨p,0,none⟩)),(3,pT (p1 0).N 0),(4,pT (p1 1).N 0),(5,.int .i64 0),(6,pT (p2 3).N 0)]) (fun p2=>?_) (fun p2 W2 T hF hK=>?_)
 ·refine okv ?_
  refine okl ?_
  refine okc (fun W cx=>as_5 cx.hb (unhide HS _ _ _ c1 _ _ c2 _ _ c3 _ _ c4 ⟨_,_,cx.B 0 _ rfl (by kernel_rfl) (by kernel_rfl),hp0⟩ (cx.G.1) (cx.G.2.1) (cx.G.2.2.1) (cx.G.2.2.2.1))) ?_
  refine okn ?_
  refine okp ?_
  exact ok_nil
 replace hS:=SymF.fc hS hF [0,1,2,1003] [⟨p,cs9,t9_,false⟩,⟨(p1 0).N,#[.bool s,.slice a1 n1 c1,.slice a2 n2 c2,.bool t,.slice a3 n3 c3,.slice a4 n4 c4],67,true⟩,⟨(p1 1).N,#[.bool false,.slice none 0 0,.slice none 0 0],28,true⟩,⟨(p2 3).N,#[.slice (p2 2).A (p2 2).N (p2 2).C,.slice (p2 2).A' (p2 2).N' (p2 2).C',.slice (p2 2).A2 (p2 2).N2 (p2 2).C2,.slice (p2 2).A3 (p2 2).N3 (p2 2).C3,.slice (p2 2).A4 (p2 2).N4 (p2 2).C4,.bool b],190,true⟩]
 replace hG:GsAt (gM W1.heap.size (p2 2).A (p2 2).N (p2 2).C wa :: gM W1.heap.size (p2 2).A' (p2 2).N' (p2 2).C' wb :: gM W1.heap.size (p2 2).A2 (p2 2).N2 (p2 2).C2 pa :: gM W1.heap.size (p2 2).A3 (p2 2).N3 (p2 2).C3 pb :: gM W1.heap.size (p2 2).A4 (p2 2).N4 (p2 2).C4 dn :: _) W2:=⟨(hF.fx 2).1,(hF.fx 2).2.1,(hF.fx 2).2.2.1,(hF.fx 2).2.2.2.1,(hF.fx 2).2.2.2.2,hF.gx⟩
 clear hF
 refine wq hS hG hK (fun p3=>[.v 13 (pT (p1 0).N 0),.v 14 (pT (p1 0).N 0),.l 15 (.bool s) 1 0,.v 7 (.bool s)]) (fun p3=>[(0,.pointer (some ⟨p,0,none⟩)),(3,pT (p1 0).N 0),(4,pT (p1 1).N 0),(5,.int .i64 0),(6,pT (p2 3).N 0),(7,.bool s)]) (fun p3=>?_) (fun p3 W3 T hF hK=>?_)
 ·iterate 2 refine okv ?_
  refine okl ?_
  refine okv ?_
  exact ok_nil
 obtain ⟨hS,hG⟩:=SymF.fg hS hF
 clear hF
 refine wp_seq ?_
 refine wq hS hG hK (fun p4=>[.l 16 (.agg #[.slice (p2 2).A (p2 2).N (p2 2).C,.slice (p2 2).A' (p2 2).N' (p2 2).C',.slice (p2 2).A2 (p2 2).N2 (p2 2).C2,.slice (p2 2).A3 (p2 2).N3 (p2 2).C3,.slice (p2 2).A4 (p2 2).N4 (p2 2).C4,.bool b]) 3 0,.v 17 (.pointer (some ⟨p,0,none⟩)),.c (some 18) (cV (.bool false))]) (fun p4=>[(0,.pointer (some ⟨p,0,none⟩)),(3,pT (p1 0).N 0),(4,pT (p1 1).N 0),(5,.int .i64 0),(6,pT (p2 3).N 0),(7,.bool s),(18,.bool false)]) (fun p4=>?_) (fun p4 W4 T hF hK=>?_)
 ·refine okl ?_
  refine okv ?_
  refine okc (fun W cx=>as_v (unhide HB _ (p2 2).A (p2 2).N (p2 2).C (p2 2).A' (p2 2).N' (p2 2).C' (p2 2).A2 (p2 2).N2 (p2 2).C2 (p2 2).A3 (p2 2).N3 (p2 2).C3 (p2 2).A4 (p2 2).N4 (p2 2).C4 b ⟨_,_,cx.B 0 _ rfl (by kernel_rfl) (by kernel_rfl),hp0⟩ (Mine.num cx.G.1) (Mine.num cx.G.2.1) (Mine.num cx.G.2.2.1) (Mine.num cx.G.2.2.2.1))) ?_
  exact ok_nil
 obtain ⟨hS,hG⟩:=SymF.fg hS hF
 clear hF
 refine wp_cond_false (hK.ew 18) (wp_skip (then_n ?_))
 refine wq hS hG hK (fun p5=>[.v 34 (.pointer (some ⟨p,0,none⟩)),.v 35 (pT (p2 3).N 0),.l 36 (.agg #[.slice (p2 2).A (p2 2).N (p2 2).C]) 3 0,.v 37 (pT (p2 3).N 1),.l 38 (.agg #[.slice (p2 2).A' (p2 2).N' (p2 2).C']) 3 1,.c (some 39) (cN W4.heap.size wh),.n 8 #[.slice none 0 0] 26,.p 1006 0 [.slice (p5 5).A (p5 5).N (p5 5).C]]) (fun p5=>[(0,.pointer (some ⟨p,0,none⟩)),(3,pT (p1 0).N 0),(4,pT (p1 1).N 0),(5,.int .i64 0),(6,pT (p2 3).N 0),(7,.bool s),(8,pT (p5 6).N 0)]) (fun p5=>?_) (fun p5 W5 T hF hK=>?_)
 ·iterate 2 refine okv ?_
  refine okl ?_
  refine okv ?_
  refine okl ?_
  refine okc (fun W cx=>as_n cx.hb (unhide H1 _ _ _ (p2 2).C _ _ (p2 2).C' ⟨_,_,cx.B 0 _ rfl (by kernel_rfl) (by kernel_rfl),hp0⟩ (Mine.num cx.G.1) (Mine.num cx.G.2.1))) ?_
  refine okn ?_
  refine okp ?_
  exact ok_nil
 replace hS:=SymF.fc hS hF [0,1,2,3,1006] [⟨p,cs9,t9_,false⟩,⟨(p1 0).N,#[.bool s,.slice a1 n1 c1,.slice a2 n2 c2,.bool t,.slice a3 n3 c3,.slice a4 n4 c4],67,true⟩,⟨(p1 1).N,#[.bool false,.slice none 0 0,.slice none 0 0],28,true⟩,⟨(p2 3).N,#[.slice (p2 2).A (p2 2).N (p2 2).C,.slice (p2 2).A' (p2 2).N' (p2 2).C',.slice (p2 2).A2 (p2 2).N2 (p2 2).C2,.slice (p2 2).A3 (p2 2).N3 (p2 2).C3,.slice (p2 2).A4 (p2 2).N4 (p2 2).C4,.bool b],190,true⟩,⟨(p5 6).N,#[.slice (p5 5).A (p5 5).N (p5 5).C],26,true⟩]
 replace hG:GsAt (gM W4.heap.size (p5 5).A (p5 5).N (p5 5).C wh :: _) W5:=⟨hF.fx 5,hF.gx⟩
 clear hF
 refine wp_seq ?_
 refine wq hS hG hK (fun p6=>[.v 40 (.pointer (some ⟨p,0,none⟩)),.v 41 (pT (p2 3).N 2),.l 42 (.agg #[.slice (p2 2).A2 (p2 2).N2 (p2 2).C2]) 3 2,.v 43 (pT (p2 3).N 3),.l 44 (.agg #[.slice (p2 2).A3 (p2 2).N3 (p2 2).C3]) 3 3,.c (some 45) (cV (.int .i64 r)),.v 46 (.bool false)]) (fun p6=>[(0,.pointer (some ⟨p,0,none⟩)),(3,pT (p1 0).N 0),(4,pT (p1 1).N 0),(5,.int .i64 0),(6,pT (p2 3).N 0),(7,.bool s),(8,pT (p5 6).N 0),(46,.bool false)]) (fun p6=>?_) (fun p6 W6 T hF hK=>?_)
 ·iterate 2 refine okv ?_
  refine okl ?_
  refine okv ?_
  refine okl ?_
  refine okc (fun W cx=>as_v (unhide HC _ _ _ (p2 2).C2 _ _ (p2 2).C3 ⟨_,_,cx.B 0 _ rfl (by kernel_rfl) (by kernel_rfl),hp0⟩ (Mine.num cx.G.2.2.2.1) (Mine.num cx.G.2.2.2.2.1))) ?_
  refine okvb (decide_eq_false (show ¬ r < 0 by omega)) ?_
  exact ok_nil
 obtain ⟨hS,hG⟩:=SymF.fg hS hF
 clear hF
 have z6:=hS.fr.size
 refine wp_cond_false (hK.ew 46) (wp_skip (then_n ?_))
 refine wq hS hG hK (fun p7=>[.v 64 (.pointer (some ⟨p,0,none⟩)),.v 65 (.pointer (some ⟨p,0,none⟩)),.l 66 (.agg #[.slice (p5 5).A (p5 5).N (p5 5).C]) 4 0,.v 67 (pT (p2 3).N 4),.l 68 (.agg #[.slice (p2 2).A4 (p2 2).N4 (p2 2).C4]) 3 4,.c (some 69) (cN W6.heap.size x),.v 70 (.pointer (some ⟨p,0,none⟩)),.v 71 (pT (p2 3).N 2),.l 72 (.agg #[.slice (p2 2).A2 (p2 2).N2 (p2 2).C2]) 3 2,.v 73 (pT (p2 3).N 3),.l 74 (.agg #[.slice (p2 2).A3 (p2 2).N3 (p2 2).C3]) 3 3,.c (some 75) (cN W6.heap.size y),.c (some 76) (cN W6.heap.size z),.n 9 #[.slice none 0 0] 26,.p 1013 0 [.slice (p7 12).A (p7 12).N (p7 12).C]]) (fun p7=>[(0,.pointer (some ⟨p,0,none⟩)),(3,pT (p1 0).N 0),(4,pT (p1 1).N 0),(5,.int .i64 0),(6,pT (p2 3).N 0),(7,.bool s),(8,pT (p5 6).N 0),(9,pT (p7 13).N 0)]) (fun p7=>?_) (fun p7 W7 T hF hK=>?_)
 ·iterate 2 refine okv ?_
  refine okl ?_
  refine okv ?_
  refine okl ?_
  refine okc (fun W cx=>as_n cx.hb (unhide H5 _ _ _ (p5 5).C _ _ (p2 2).C4 ⟨_,_,cx.B 0 _ rfl (by kernel_rfl) (by kernel_rfl),hp0⟩ (Mine.num cx.G.1) (Mine.num cx.G.2.2.2.2.2.1))) ?_
  iterate 2 refine okv ?_
  refine okl ?_
  refine okv ?_
  refine okl ?_
  refine okc (fun W cx=>as_n cx.hb (unhide H6 _ _ _ (p2 2).C2 _ _ (p2 2).C3 ⟨_,_,cx.B 0 _ rfl (by kernel_rfl) (by kernel_rfl),hp0⟩ (Mine.num cx.G.2.2.2.1) (Mine.num cx.G.2.2.2.2.1))) ?_
  refine okc (fun W cx=>as_n cx.hb (unhide H7 _ _ _ (p7 5).C _ _ (p7 11).C ⟨_,_,cx.B 0 _ rfl (by kernel_rfl) (by kernel_rfl),hp0⟩ (Mine.num (cx.F 5 (by kernel_rfl))) (Mine.num (cx.F 11 (by kernel_rfl))))) ?_
  refine okn ?_
  refine okp ?_
  exact ok_nil
 replace hS:=SymF.fc hS hF [0,1,2,3,4,1013] [⟨p,cs9,t9_,false⟩,⟨(p1 0).N,#[.bool s,.slice a1 n1 c1,.slice a2 n2 c2,.bool t,.slice a3 n3 c3,.slice a4 n4 c4],67,true⟩,⟨(p1 1).N,#[.bool false,.slice none 0 0,.slice none 0 0],28,true⟩,⟨(p2 3).N,#[.slice (p2 2).A (p2 2).N (p2 2).C,.slice (p2 2).A' (p2 2).N' (p2 2).C',.slice (p2 2).A2 (p2 2).N2 (p2 2).C2,.slice (p2 2).A3 (p2 2).N3 (p2 2).C3,.slice (p2 2).A4 (p2 2).N4 (p2 2).C4,.bool b],190,true⟩,⟨(p5 6).N,#[.slice (p5 5).A (p5 5).N (p5 5).C],26,true⟩,⟨(p7 13).N,#[.slice (p7 12).A (p7 12).N (p7 12).C],26,true⟩]
 replace hG:GsAt (gM W6.heap.size (p7 5).A (p7 5).N (p7 5).C x :: gM W6.heap.size (p7 11).A (p7 11).N (p7 11).C y :: gM W6.heap.size (p7 12).A (p7 12).N (p7 12).C z :: _) W7:=⟨hF.fx 5,hF.fx 11,hF.fx 12,hF.gx⟩
 clear hF
 refine wq hS hG hK (fun p8=>[.v 77 (.pointer (some ⟨p,0,none⟩)),.v 78 (.bool s),.l 79 (.agg #[.slice (p7 12).A (p7 12).N (p7 12).C]) 5 0,.v 80 (pT (p2 3).N 4),.l 81 (.agg #[.slice (p2 2).A4 (p2 2).N4 (p2 2).C4]) 3 4,.c (some 82) (cV (.tuple #[.agg #[.bool g,.slice (p7 12).A (p7 12).N (p7 12).C,.slice (p2 2).A4 (p2 2).N4 (p2 2).C4],.int .i64 0])),.v 83 (.agg #[.bool g,.slice (p7 12).A (p7 12).N (p7 12).C,.slice (p2 2).A4 (p2 2).N4 (p2 2).C4]),.v 84 (.int .i64 0),.p 2 0 [.bool g,.slice (p7 12).A (p7 12).N (p7 12).C,.slice (p2 2).A4 (p2 2).N4 (p2 2).C4],.v 5 (.int .i64 0)]) (fun p8=>[(0,.pointer (some ⟨p,0,none⟩)),(3,pT (p1 0).N 0),(4,pT (p1 1).N 0),(5,.int .i64 0),(6,pT (p2 3).N 0),(8,pT (p5 6).N 0)]) (fun p8=>?_) (fun p8 W8 T hF hK=>?_)
 ·iterate 2 refine okv ?_
  refine okl ?_
  refine okv ?_
  refine okl ?_
  refine okc (fun W cx=>as_v (unhide HF _ _ _ (p7 12).C _ _ (p2 2).C4 ⟨_,_,cx.B 0 _ rfl (by kernel_rfl) (by kernel_rfl),hp0⟩ (Mine.num cx.G.2.2.1) (Mine.num cx.G.2.2.2.2.2.2.2.2.1))) ?_
  iterate 2 refine okv ?_
  refine okp ?_
  refine okv ?_
  exact ok_nil
 replace hS:=SymF.fc hS hF [0,1,2,3,4] [⟨p,cs9,t9_,false⟩,⟨(p1 0).N,#[.bool s,.slice a1 n1 c1,.slice a2 n2 c2,.bool t,.slice a3 n3 c3,.slice a4 n4 c4],67,true⟩,⟨(p1 1).N,#[.bool g,.slice (p7 12).A (p7 12).N (p7 12).C,.slice (p2 2).A4 (p2 2).N4 (p2 2).C4],28,true⟩,⟨(p2 3).N,#[.slice (p2 2).A (p2 2).N (p2 2).C,.slice (p2 2).A' (p2 2).N' (p2 2).C',.slice (p2 2).A2 (p2 2).N2 (p2 2).C2,.slice (p2 2).A3 (p2 2).N3 (p2 2).C3,.slice (p2 2).A4 (p2 2).N4 (p2 2).C4,.bool b],190,true⟩,⟨(p5 6).N,#[.slice (p5 5).A (p5 5).N (p5 5).C],26,true⟩]
 replace hG:=hF.gx
 clear hF
 refine wp_ret ?_
 exact sym_end hS hK (.tuple #[.agg #[.bool g,.slice (p7 12).A (p7 12).N (p7 12).C,.slice (p2 2).A4 (p2 2).N4 (p2 2).C4],.int .i64 0]) [(2,0,3)] [.bool g,.slice (p7 12).A (p7 12).N (p7 12).C,.slice (p2 2).A4 (p2 2).N4 (p2 2).C4] (by kernel_rfl) (by kernel_rfl) ⟨⟨_,_,_,_,_,_,rfl,Mine.mono hG.2.2.1 z6,Mine.mono hG.2.2.2.2.2.2.2.2.1 z1⟩,hS.fr⟩
def WSum (f:FuncId) (p:Nat) (s t:Bool) (m1 d1 m2 d2 z dn:Nat) (g:Bool):Prop:=∀ (W:World) (a1:Option Addr) (n1 c1:Nat) (a2:Option Addr) (n2 c2:Nat) (a3:Option Addr) (n3 c3:Nat) (a4:Option Addr) (n4 c4:Nat),Rz W p 0→Num W a1 n1 m1→Num W a2 n2 d1→Num W a3 n3 m2→Num W a4 n4 d2→Calls Tryz.prog f #[.pointer (some ⟨p,0,none⟩),.agg #[.bool s,.slice a1 n1 c1,.slice a2 n2 c2,.bool t,.slice a3 n3 c3,.slice a4 n4 c4]] W fun en W'=>(∃ A N C A' N' C',en = .returned (.tuple #[.agg #[.bool g,.slice A N C,.slice A' N' C'],.int .i64 0])∧Mine W' W.heap.size A N C z∧Mine W' W.heap.size A' N' C' dn)∧Below W.heap.size W W'
def BSum (f:FuncId) (s t:Bool) (m1 d1 m2 d2 z dn:Nat) (g:Bool):Prop:=∀ (W:World) (a1:Option Addr) (n1 c1:Nat) (a2:Option Addr) (n2 c2:Nat) (a3:Option Addr) (n3 c3:Nat) (a4:Option Addr) (n4 c4:Nat),Num W a1 n1 m1→Num W a2 n2 d1→Num W a3 n3 m2→Num W a4 n4 d2→Calls Tryz.prog f #[.agg #[.bool s,.slice a1 n1 c1,.slice a2 n2 c2,.bool t,.slice a3 n3 c3,.slice a4 n4 c4]] W fun en W'=>(∃ A N C A' N' C',en = .returned (.tuple #[.agg #[.bool g,.slice A N C,.slice A' N' C'],.int .i64 0])∧Mine W' W.heap.size A N C z∧Mine W' W.heap.size A' N' C' dn)∧Below W.heap.size W W'
theorem zsum_s (w:World) (a1 a2 a3 a4:Option Addr) (n1 n2 n3 n4 c1 c2 c3 c4 m1 d1 m2 d2:Nat) (s g:Bool) (z dn:Nat) (h1:Num w a1 n1 m1) (h2:Num w a2 n2 d1) (h3:Num w a3 n3 m2) (h4:Num w a4 n4 d2) (HT:∀ p:Nat,Hid (WSum 114 p s s m1 d1 m2 d2 z dn g))  :
  Calls Tryz.prog 76 #[.agg #[.bool s,.slice a1 n1 c1,.slice a2 n2 c2,.bool s,.slice a3 n3 c3,.slice a4 n4 c4]] w fun en w'=>(∃ A N C A' N' C',en = .returned (.tuple #[.agg #[.bool g,.slice A N C,.slice A' N' C'],.int .i64 0])∧Mine w' w.heap.size A N C z∧Mine w' w.heap.size A' N' C' dn)∧Below w.heap.size w w':=by
 refine calls_sym Tryz.func76 rfl (by kernel_rfl) fun T hK=>?_
 replace hK:Kn T _ [(0,.agg #[.bool s,.slice a1 n1 c1,.slice a2 n2 c2,.bool s,.slice a3 n3 c3,.slice a4 n4 c4])]:=hK
 have hS:=Fb.begin w
 have hG:GsAt [gN a1 n1 m1,gN a2 n2 d1,gN a3 n3 m2,gN a4 n4 d2] w:=⟨h1,h2,h3,h4,trivial⟩
 refine wq hS hG hK (fun p1=>[.n 1 #[.bool s,.slice a1 n1 c1,.slice a2 n2 c2,.bool s,.slice a3 n3 c3,.slice a4 n4 c4] 67,.n 2 #[.bool false,.slice none 0 0,.slice none 0 0] 28,.v 3 (.int .i64 0)]) (fun p1=>[(1,pT (p1 0).N 0),(2,pT (p1 1).N 0),(3,.int .i64 0)]) (fun p1=>?_) (fun p1 W1 T hF hK=>?_)
 ·iterate 2 refine okn ?_
  refine okv ?_
  exact ok_nil
 replace hS:=SymF.fc hS hF [1000,1001] [⟨(p1 0).N,#[.bool s,.slice a1 n1 c1,.slice a2 n2 c2,.bool s,.slice a3 n3 c3,.slice a4 n4 c4],67,true⟩,⟨(p1 1).N,#[.bool false,.slice none 0 0,.slice none 0 0],28,true⟩]
 replace hG:=hF.gx
 clear hF
 refine wq hS hG hK (fun p2=>[.n 4 #[.int .i64 0] 95]) (fun p2=>[(1,pT (p1 0).N 0),(2,pT (p1 1).N 0),(3,.int .i64 0),(4,pT (p2 0).N 0)]) (fun p2=>?_) (fun p2 W2 T hF hK=>?_)
 ·refine okn ?_
  exact ok_nil
 replace hS:=SymF.fc hS hF [0,1,1000] [⟨(p1 0).N,#[.bool s,.slice a1 n1 c1,.slice a2 n2 c2,.bool s,.slice a3 n3 c3,.slice a4 n4 c4],67,true⟩,⟨(p1 1).N,#[.bool false,.slice none 0 0,.slice none 0 0],28,true⟩,⟨(p2 0).N,#[.int .i64 0],95,true⟩]
 replace hG:=hF.gx
 clear hF
 refine wp_seq ?_
 refine wq hS hG hK (fun p3=>[.v 5 (pT (p1 0).N 0),.v 6 (pT (p1 0).N 0),.l 7 (.bool s) 0 0,.v 8 (pT (p1 0).N 3),.v 9 (pT (p1 0).N 3),.l 10 (.bool s) 0 3,.v 11 (.bool true)]) (fun p3=>[(1,pT (p1 0).N 0),(2,pT (p1 1).N 0),(3,.int .i64 0),(4,pT (p2 0).N 0),(11,.bool true)]) (fun p3=>?_) (fun p3 W3 T hF hK=>?_)
 ·iterate 2 refine okv ?_
  refine okl ?_
  iterate 2 refine okv ?_
  refine okl ?_
  refine okvb (beq_self_eq_true s) ?_
  exact ok_nil
 obtain ⟨hS,hG⟩:=SymF.fg hS hF
 clear hF
 have z3:=hS.fr.size
 refine wp_cond_true (hK.ew 11) ?_
 refine wq hS hG hK (fun p4=>[.l 12 (.agg #[.bool s,.slice a1 n1 c1,.slice a2 n2 c2,.bool s,.slice a3 n3 c3,.slice a4 n4 c4]) 0 0,.c (some 13) (cH W3.heap.size z dn fun x9 y9=>.tuple #[.agg #[.bool g,x9,y9],.int .i64 0]),.v 14 (.agg #[.bool g,.slice (p4 1).A (p4 1).N (p4 1).C,.slice (p4 1).A' (p4 1).N' (p4 1).C']),.v 15 (.int .i64 0),.p 1 0 [.bool g,.slice (p4 1).A (p4 1).N (p4 1).C,.slice (p4 1).A' (p4 1).N' (p4 1).C'],.v 3 (.int .i64 0)]) (fun p4=>[(1,pT (p1 0).N 0),(2,pT (p1 1).N 0),(3,.int .i64 0),(4,pT (p2 0).N 0)]) (fun p4=>?_) (fun p4 W4 T hF hK=>?_)
 ·refine okl ?_
  refine okc (fun W cx=>as_h cx.hb (unhide (HT (p2 0).N) _ _ _ c1 _ _ c2 _ _ c3 _ _ c4 ⟨_,_,cx.B 2 _ rfl (by kernel_rfl) (by kernel_rfl),rfl⟩ (cx.G.1) (cx.G.2.1) (cx.G.2.2.1) (cx.G.2.2.2.1))) ?_
  iterate 2 refine okv ?_
  refine okp ?_
  refine okv ?_
  exact ok_nil
 replace hS:=SymF.fc hS hF [0,1,2] [⟨(p1 0).N,#[.bool s,.slice a1 n1 c1,.slice a2 n2 c2,.bool s,.slice a3 n3 c3,.slice a4 n4 c4],67,true⟩,⟨(p1 1).N,#[.bool g,.slice (p4 1).A (p4 1).N (p4 1).C,.slice (p4 1).A' (p4 1).N' (p4 1).C'],28,true⟩,⟨(p2 0).N,#[.int .i64 0],95,true⟩]
 replace hG:GsAt (gM W3.heap.size (p4 1).A (p4 1).N (p4 1).C z :: gM W3.heap.size (p4 1).A' (p4 1).N' (p4 1).C' dn :: _) W4:=⟨And.left (hF.fx 1),And.right (hF.fx 1),hF.gx⟩
 clear hF
 refine wp_ret ?_
 refine then_r ?_
 exact sym_end hS hK (.tuple #[.agg #[.bool g,.slice (p4 1).A (p4 1).N (p4 1).C,.slice (p4 1).A' (p4 1).N' (p4 1).C'],.int .i64 0]) [(1,0,3)] [.bool g,.slice (p4 1).A (p4 1).N (p4 1).C,.slice (p4 1).A' (p4 1).N' (p4 1).C'] (by kernel_rfl) (by kernel_rfl) ⟨⟨_,_,_,_,_,_,rfl,Mine.mono hG.1 z3,Mine.mono hG.2.1 z3⟩,hS.fr⟩
theorem zsum_d (w:World) (a1 a2 a3 a4:Option Addr) (n1 n2 n3 n4 c1 c2 c3 c4 m1 d1 m2 d2:Nat) (s t g:Bool) (z dn:Nat) (h1:Num w a1 n1 m1) (h2:Num w a2 n2 d1) (h3:Num w a3 n3 m2) (h4:Num w a4 n4 d2) (HT:∀ p:Nat,Hid (WSum 115 p s t m1 d1 m2 d2 z dn g)) (hst:(s == t) = false)  :
  Calls Tryz.prog 76 #[.agg #[.bool s,.slice a1 n1 c1,.slice a2 n2 c2,.bool t,.slice a3 n3 c3,.slice a4 n4 c4]] w fun en w'=>(∃ A N C A' N' C',en = .returned (.tuple #[.agg #[.bool g,.slice A N C,.slice A' N' C'],.int .i64 0])∧Mine w' w.heap.size A N C z∧Mine w' w.heap.size A' N' C' dn)∧Below w.heap.size w w':=by
 refine calls_sym Tryz.func76 rfl (by kernel_rfl) fun T hK=>?_
 replace hK:Kn T _ [(0,.agg #[.bool s,.slice a1 n1 c1,.slice a2 n2 c2,.bool t,.slice a3 n3 c3,.slice a4 n4 c4])]:=hK
 have hS:=Fb.begin w
 have hG:GsAt [gN a1 n1 m1,gN a2 n2 d1,gN a3 n3 m2,gN a4 n4 d2] w:=⟨h1,h2,h3,h4,trivial⟩
 refine wq hS hG hK (fun p1=>[.n 1 #[.bool s,.slice a1 n1 c1,.slice a2 n2 c2,.bool t,.slice a3 n3 c3,.slice a4 n4 c4] 67,.n 2 #[.bool false,.slice none 0 0,.slice none 0 0] 28,.v 3 (.int .i64 0)]) (fun p1=>[(1,pT (p1 0).N 0),(2,pT (p1 1).N 0),(3,.int .i64 0)]) (fun p1=>?_) (fun p1 W1 T hF hK=>?_)
 ·iterate 2 refine okn ?_
  refine okv ?_
  exact ok_nil
 replace hS:=SymF.fc hS hF [1000,1001] [⟨(p1 0).N,#[.bool s,.slice a1 n1 c1,.slice a2 n2 c2,.bool t,.slice a3 n3 c3,.slice a4 n4 c4],67,true⟩,⟨(p1 1).N,#[.bool false,.slice none 0 0,.slice none 0 0],28,true⟩]
 replace hG:=hF.gx
 clear hF
 refine wq hS hG hK (fun p2=>[.n 4 #[.int .i64 0] 95]) (fun p2=>[(1,pT (p1 0).N 0),(2,pT (p1 1).N 0),(3,.int .i64 0),(4,pT (p2 0).N 0)]) (fun p2=>?_) (fun p2 W2 T hF hK=>?_)
 ·refine okn ?_
  exact ok_nil
 replace hS:=SymF.fc hS hF [0,1,1000] [⟨(p1 0).N,#[.bool s,.slice a1 n1 c1,.slice a2 n2 c2,.bool t,.slice a3 n3 c3,.slice a4 n4 c4],67,true⟩,⟨(p1 1).N,#[.bool false,.slice none 0 0,.slice none 0 0],28,true⟩,⟨(p2 0).N,#[.int .i64 0],95,true⟩]
 replace hG:=hF.gx
 clear hF
 refine wp_seq ?_
 refine wq hS hG hK (fun p3=>[.v 5 (pT (p1 0).N 0),.v 6 (pT (p1 0).N 0),.l 7 (.bool s) 0 0,.v 8 (pT (p1 0).N 3),.v 9 (pT (p1 0).N 3),.l 10 (.bool t) 0 3,.v 11 (.bool false)]) (fun p3=>[(1,pT (p1 0).N 0),(2,pT (p1 1).N 0),(3,.int .i64 0),(4,pT (p2 0).N 0),(11,.bool false)]) (fun p3=>?_) (fun p3 W3 T hF hK=>?_)
 ·iterate 2 refine okv ?_
  refine okl ?_
  iterate 2 refine okv ?_
  refine okl ?_
  refine okvb (hst) ?_
  exact ok_nil
 obtain ⟨hS,hG⟩:=SymF.fg hS hF
 clear hF
 have z3:=hS.fr.size
 refine wp_cond_false (hK.ew 11) (wp_skip (then_n ?_))
 refine wq hS hG hK (fun p4=>[.l 16 (.agg #[.bool s,.slice a1 n1 c1,.slice a2 n2 c2,.bool t,.slice a3 n3 c3,.slice a4 n4 c4]) 0 0,.c (some 17) (cH W3.heap.size z dn fun x9 y9=>.tuple #[.agg #[.bool g,x9,y9],.int .i64 0]),.v 18 (.agg #[.bool g,.slice (p4 1).A (p4 1).N (p4 1).C,.slice (p4 1).A' (p4 1).N' (p4 1).C']),.v 19 (.int .i64 0),.p 1 0 [.bool g,.slice (p4 1).A (p4 1).N (p4 1).C,.slice (p4 1).A' (p4 1).N' (p4 1).C'],.v 3 (.int .i64 0)]) (fun p4=>[(1,pT (p1 0).N 0),(2,pT (p1 1).N 0),(3,.int .i64 0),(4,pT (p2 0).N 0)]) (fun p4=>?_) (fun p4 W4 T hF hK=>?_)
 ·refine okl ?_
  refine okc (fun W cx=>as_h cx.hb (unhide (HT (p2 0).N) _ _ _ c1 _ _ c2 _ _ c3 _ _ c4 ⟨_,_,cx.B 2 _ rfl (by kernel_rfl) (by kernel_rfl),rfl⟩ (cx.G.1) (cx.G.2.1) (cx.G.2.2.1) (cx.G.2.2.2.1))) ?_
  iterate 2 refine okv ?_
  refine okp ?_
  refine okv ?_
  exact ok_nil
 replace hS:=SymF.fc hS hF [0,1,2] [⟨(p1 0).N,#[.bool s,.slice a1 n1 c1,.slice a2 n2 c2,.bool t,.slice a3 n3 c3,.slice a4 n4 c4],67,true⟩,⟨(p1 1).N,#[.bool g,.slice (p4 1).A (p4 1).N (p4 1).C,.slice (p4 1).A' (p4 1).N' (p4 1).C'],28,true⟩,⟨(p2 0).N,#[.int .i64 0],95,true⟩]
 replace hG:GsAt (gM W3.heap.size (p4 1).A (p4 1).N (p4 1).C z :: gM W3.heap.size (p4 1).A' (p4 1).N' (p4 1).C' dn :: _) W4:=⟨And.left (hF.fx 1),And.right (hF.fx 1),hF.gx⟩
 clear hF
 refine wp_ret ?_
 exact sym_end hS hK (.tuple #[.agg #[.bool g,.slice (p4 1).A (p4 1).N (p4 1).C,.slice (p4 1).A' (p4 1).N' (p4 1).C'],.int .i64 0]) [(1,0,3)] [.bool g,.slice (p4 1).A (p4 1).N (p4 1).C,.slice (p4 1).A' (p4 1).N' (p4 1).C'] (by kernel_rfl) (by kernel_rfl) ⟨⟨_,_,_,_,_,_,rfl,Mine.mono hG.1 z3,Mine.mono hG.2.1 z3⟩,hS.fr⟩
theorem zdif (w:World) (a1 a2 a3 a4:Option Addr) (n1 n2 n3 n4 c1 c2 c3 c4 m1 d1 m2 d2:Nat) (s t g:Bool) (z dn:Nat) (h1:Num w a1 n1 m1) (h2:Num w a2 n2 d1) (h3:Num w a3 n3 m2) (h4:Num w a4 n4 d2) (HT:Hid (BSum 76 s (!t) m1 d1 m2 d2 z dn g))  :
  Calls Tryz.prog 49 #[.agg #[.bool s,.slice a1 n1 c1,.slice a2 n2 c2,.bool t,.slice a3 n3 c3,.slice a4 n4 c4]] w fun en w'=>(∃ A N C A' N' C',en = .returned (.tuple #[.agg #[.bool g,.slice A N C,.slice A' N' C'],.int .i64 0])∧Mine w' w.heap.size A N C z∧Mine w' w.heap.size A' N' C' dn)∧Below w.heap.size w w':=by
 refine calls_sym Tryz.func49 rfl (by kernel_rfl) fun T hK=>?_
 replace hK:Kn T _ [(0,.agg #[.bool s,.slice a1 n1 c1,.slice a2 n2 c2,.bool t,.slice a3 n3 c3,.slice a4 n4 c4])]:=hK
 have hS:=Fb.begin w
 have hG:GsAt [gN a1 n1 m1,gN a2 n2 d1,gN a3 n3 m2,gN a4 n4 d2] w:=⟨h1,h2,h3,h4,trivial⟩
 refine wq hS hG hK (fun p1=>[.n 1 #[.bool s,.slice a1 n1 c1,.slice a2 n2 c2,.bool t,.slice a3 n3 c3,.slice a4 n4 c4] 67,.n 2 #[.bool false,.slice none 0 0,.slice none 0 0] 28,.v 3 (.int .i64 0)]) (fun p1=>[(1,pT (p1 0).N 0),(2,pT (p1 1).N 0),(3,.int .i64 0)]) (fun p1=>?_) (fun p1 W1 T hF hK=>?_)
 ·iterate 2 refine okn ?_
  refine okv ?_
  exact ok_nil
 replace hS:=SymF.fc hS hF [1000,1001] [⟨(p1 0).N,#[.bool s,.slice a1 n1 c1,.slice a2 n2 c2,.bool t,.slice a3 n3 c3,.slice a4 n4 c4],67,true⟩,⟨(p1 1).N,#[.bool false,.slice none 0 0,.slice none 0 0],28,true⟩]
 replace hG:=hF.gx
 clear hF
 refine wq hS hG hK (fun p2=>[.v 4 (pT (p1 0).N 3),.v 5 (pT (p1 0).N 3),.l 6 (.bool t) 0 3,.v 7 (.bool (!t)),.v 8 (pT (p1 0).N 3),.v 9 (pT (p1 0).N 3),.p 0 3 [.bool (!t)]]) (fun p2=>[(1,pT (p1 0).N 0),(2,pT (p1 1).N 0),(3,.int .i64 0)]) (fun p2=>?_) (fun p2 W2 T hF hK=>?_)
 ·iterate 2 refine okv ?_
  refine okl ?_
  iterate 3 refine okv ?_
  refine okp ?_
  exact ok_nil
 replace hS:=SymF.fc hS hF [0,1] [⟨(p1 0).N,#[.bool s,.slice a1 n1 c1,.slice a2 n2 c2,.bool (!t),.slice a3 n3 c3,.slice a4 n4 c4],67,true⟩,⟨(p1 1).N,#[.bool false,.slice none 0 0,.slice none 0 0],28,true⟩]
 replace hG:=hF.gx
 clear hF
 have z2:=hS.fr.size
 refine wq hS hG hK (fun p3=>[.l 10 (.agg #[.bool s,.slice a1 n1 c1,.slice a2 n2 c2,.bool (!t),.slice a3 n3 c3,.slice a4 n4 c4]) 0 0,.c (some 11) (cH W2.heap.size z dn fun x9 y9=>.tuple #[.agg #[.bool g,x9,y9],.int .i64 0]),.v 12 (.agg #[.bool g,.slice (p3 1).A (p3 1).N (p3 1).C,.slice (p3 1).A' (p3 1).N' (p3 1).C']),.v 13 (.int .i64 0),.p 1 0 [.bool g,.slice (p3 1).A (p3 1).N (p3 1).C,.slice (p3 1).A' (p3 1).N' (p3 1).C'],.v 3 (.int .i64 0)]) (fun p3=>[(2,pT (p1 1).N 0),(3,.int .i64 0)]) (fun p3=>?_) (fun p3 W3 T hF hK=>?_)
 ·refine okl ?_
  refine okc (fun W cx=>as_h cx.hb (unhide HT _ _ _ c1 _ _ c2 _ _ c3 _ _ c4 (cx.G.1) (cx.G.2.1) (cx.G.2.2.1) (cx.G.2.2.2.1))) ?_
  iterate 2 refine okv ?_
  refine okp ?_
  refine okv ?_
  exact ok_nil
 replace hS:=SymF.fc hS hF [1] [⟨(p1 1).N,#[.bool g,.slice (p3 1).A (p3 1).N (p3 1).C,.slice (p3 1).A' (p3 1).N' (p3 1).C'],28,true⟩]
 replace hG:GsAt (gM W2.heap.size (p3 1).A (p3 1).N (p3 1).C z :: gM W2.heap.size (p3 1).A' (p3 1).N' (p3 1).C' dn :: _) W3:=⟨And.left (hF.fx 1),And.right (hF.fx 1),hF.gx⟩
 clear hF
 refine wp_ret ?_
 exact sym_end hS hK (.tuple #[.agg #[.bool g,.slice (p3 1).A (p3 1).N (p3 1).C,.slice (p3 1).A' (p3 1).N' (p3 1).C'],.int .i64 0]) [(0,0,3)] [.bool g,.slice (p3 1).A (p3 1).N (p3 1).C,.slice (p3 1).A' (p3 1).N' (p3 1).C'] (by kernel_rfl) (by kernel_rfl) ⟨⟨_,_,_,_,_,_,rfl,Mine.mono hG.1 z2,Mine.mono hG.2.1 z2⟩,hS.fr⟩
theorem zfra_t (w:World) (p:Nat) (a1 a2:Option Addr) (n1 n2 c1 c2 x y:Nat) (b:Bool) (hR:Rz w p 0) (h1:Num w a1 n1 x) (h2:Num w a2 n2 y) (hz:decide (x = 0) = b)  :
  Calls Tryz.prog 46 #[.pointer (some ⟨p,0,none⟩),.bool true,.agg #[.slice a1 n1 c1],.agg #[.slice a2 n2 c2]] w fun en w'=>en = .returned (.tuple #[.agg #[.bool (!b),.slice a1 n1 c1,.slice a2 n2 c2],.int .i64 0])∧Below w.heap.size w w':=by
 obtain ⟨cs9,t9_,hp,hp0⟩:=hR
 refine calls_sym Tryz.func46 rfl (by kernel_rfl) fun T hK=>?_
 replace hK:Kn T _ [(0,.pointer (some ⟨p,0,none⟩)),(1,.bool true),(2,.agg #[.slice a1 n1 c1]),(3,.agg #[.slice a2 n2 c2])]:=hK
 have hS:=Fb.other hp
 have hG:GsAt [gN a1 n1 x,gN a2 n2 y] w:=⟨h1,h2,trivial⟩
 refine wq hS hG hK (fun p1=>[.n 6 #[.slice a1 n1 c1] 26,.n 7 #[.slice a2 n2 c2] 26,.n 8 #[.bool false,.slice none 0 0,.slice none 0 0] 28,.v 9 (.int .i64 0)]) (fun p1=>[(0,.pointer (some ⟨p,0,none⟩)),(1,.bool true),(6,pT (p1 0).N 0),(7,pT (p1 1).N 0),(8,pT (p1 2).N 0),(9,.int .i64 0)]) (fun p1=>?_) (fun p1 W1 T hF hK=>?_)
 ·iterate 3 refine okn ?_
  refine okv ?_
  exact ok_nil
 replace hS:=SymF.fc hS hF [0,1000,1001,1002] [⟨p,cs9,t9_,false⟩,⟨(p1 0).N,#[.slice a1 n1 c1],26,true⟩,⟨(p1 1).N,#[.slice a2 n2 c2],26,true⟩,⟨(p1 2).N,#[.bool false,.slice none 0 0,.slice none 0 0],28,true⟩]
 replace hG:=hF.gx
 clear hF
 refine wp_seq ?_
 refine wq hS hG hK (fun p2=>[.v 10 (.pointer (some ⟨p,0,none⟩)),.v 11 (.pointer (some ⟨p,0,none⟩)),.v 12 (.pointer (some ⟨p,0,none⟩)),.v 13 (.pointer (some ⟨p,0,none⟩)),.g 14 (.int .i64 0) [.int .i64 0] [.ld ⟨p,0,none⟩ (.int .i64 0)],.v 15 (.bool false)]) (fun p2=>[(0,.pointer (some ⟨p,0,none⟩)),(1,.bool true),(6,pT (p1 0).N 0),(7,pT (p1 1).N 0),(8,pT (p1 2).N 0),(9,.int .i64 0),(15,.bool false)]) (fun p2=>?_) (fun p2 W2 T hF hK=>?_)
 ·iterate 4 refine okv ?_
  refine ok_g (fun W cx=>⟨⟨(Rz.cell (k:=0) ⟨_,_,cx.B 0 _ rfl (by kernel_rfl) (by kernel_rfl),hp0⟩).1,trivial⟩,rfl⟩) (by kernel_rfl) ?_
  refine okv ?_
  exact ok_nil
 obtain ⟨hS,hG⟩:=SymF.fg hS hF
 clear hF
 refine wp_cond_false (hK.ew 15) (wp_skip (then_n ?_))
 refine wq hS hG hK (fun p3=>[.v 22 (.bool true),.v 23 (.bool true),.l 24 (.agg #[.slice a1 n1 c1]) 1 0,.c (some 25) (cV (.bool b)),.v 26 (.bool (!b)),.v 27 (.bool (!b)),.l 28 (.agg #[.slice a1 n1 c1]) 1 0,.l 29 (.agg #[.slice a2 n2 c2]) 2 0,.v 30 (.agg #[.bool (!b),.slice a1 n1 c1,.slice a2 n2 c2]),.p 3 0 [.bool (!b),.slice a1 n1 c1,.slice a2 n2 c2],.v 9 (.int .i64 0)]) (fun p3=>[(0,.pointer (some ⟨p,0,none⟩)),(8,pT (p1 2).N 0),(9,.int .i64 0)]) (fun p3=>?_) (fun p3 W3 T hF hK=>?_)
 ·iterate 2 refine okv ?_
  refine okl ?_
  refine okc (fun W cx=>as_v (znought a1 _ c1 _ _ ((Num.zdec (cx.G.1)).trans hz))) ?_
  iterate 2 refine okv ?_
  iterate 2 refine okl ?_
  refine okv ?_
  refine okp ?_
  refine okv ?_
  exact ok_nil
 replace hS:=SymF.fc hS hF [0,3] [⟨p,cs9,t9_,false⟩,⟨(p1 2).N,#[.bool (!b),.slice a1 n1 c1,.slice a2 n2 c2],28,true⟩]
 replace hG:=hF.gx
 clear hF
 refine wp_ret ?_
 exact sym_end hS hK (.tuple #[.agg #[.bool (!b),.slice a1 n1 c1,.slice a2 n2 c2],.int .i64 0]) [(1,0,3)] [.bool (!b),.slice a1 n1 c1,.slice a2 n2 c2] (by kernel_rfl) (by kernel_rfl) ⟨rfl,hS.fr⟩
theorem zfra_f (w:World) (p:Nat) (a1 a2:Option Addr) (n1 n2 c1 c2 x y:Nat) (hR:Rz w p 0) (h1:Num w a1 n1 x) (h2:Num w a2 n2 y)  :
  Calls Tryz.prog 46 #[.pointer (some ⟨p,0,none⟩),.bool false,.agg #[.slice a1 n1 c1],.agg #[.slice a2 n2 c2]] w fun en w'=>en = .returned (.tuple #[.agg #[.bool false,.slice a1 n1 c1,.slice a2 n2 c2],.int .i64 0])∧Below w.heap.size w w':=by
 obtain ⟨cs9,t9_,hp,hp0⟩:=hR
 refine calls_sym Tryz.func46 rfl (by kernel_rfl) fun T hK=>?_
 replace hK:Kn T _ [(0,.pointer (some ⟨p,0,none⟩)),(1,.bool false),(2,.agg #[.slice a1 n1 c1]),(3,.agg #[.slice a2 n2 c2])]:=hK
 have hS:=Fb.other hp
 have hG:GsAt [gN a1 n1 x,gN a2 n2 y] w:=⟨h1,h2,trivial⟩
 refine wq hS hG hK (fun p1=>[.n 6 #[.slice a1 n1 c1] 26,.n 7 #[.slice a2 n2 c2] 26,.n 8 #[.bool false,.slice none 0 0,.slice none 0 0] 28,.v 9 (.int .i64 0)]) (fun p1=>[(0,.pointer (some ⟨p,0,none⟩)),(1,.bool false),(6,pT (p1 0).N 0),(7,pT (p1 1).N 0),(8,pT (p1 2).N 0),(9,.int .i64 0)]) (fun p1=>?_) (fun p1 W1 T hF hK=>?_)
 ·iterate 3 refine okn ?_
  refine okv ?_
  exact ok_nil
 replace hS:=SymF.fc hS hF [0,1000,1001,1002] [⟨p,cs9,t9_,false⟩,⟨(p1 0).N,#[.slice a1 n1 c1],26,true⟩,⟨(p1 1).N,#[.slice a2 n2 c2],26,true⟩,⟨(p1 2).N,#[.bool false,.slice none 0 0,.slice none 0 0],28,true⟩]
 replace hG:=hF.gx
 clear hF
 refine wp_seq ?_
 refine wq hS hG hK (fun p2=>[.v 10 (.pointer (some ⟨p,0,none⟩)),.v 11 (.pointer (some ⟨p,0,none⟩)),.v 12 (.pointer (some ⟨p,0,none⟩)),.v 13 (.pointer (some ⟨p,0,none⟩)),.g 14 (.int .i64 0) [.int .i64 0] [.ld ⟨p,0,none⟩ (.int .i64 0)],.v 15 (.bool false)]) (fun p2=>[(0,.pointer (some ⟨p,0,none⟩)),(1,.bool false),(6,pT (p1 0).N 0),(7,pT (p1 1).N 0),(8,pT (p1 2).N 0),(9,.int .i64 0),(15,.bool false)]) (fun p2=>?_) (fun p2 W2 T hF hK=>?_)
 ·iterate 4 refine okv ?_
  refine ok_g (fun W cx=>⟨⟨(Rz.cell (k:=0) ⟨_,_,cx.B 0 _ rfl (by kernel_rfl) (by kernel_rfl),hp0⟩).1,trivial⟩,rfl⟩) (by kernel_rfl) ?_
  refine okv ?_
  exact ok_nil
 obtain ⟨hS,hG⟩:=SymF.fg hS hF
 clear hF
 refine wp_cond_false (hK.ew 15) (wp_skip (then_n ?_))
 refine wq hS hG hK (fun p3=>[.v 22 (.bool false),.v 23 (.bool false),.k (some 24),.k (some 25),.k (some 26),.v 27 (.bool false),.l 28 (.agg #[.slice a1 n1 c1]) 1 0,.l 29 (.agg #[.slice a2 n2 c2]) 2 0,.v 30 (.agg #[.bool false,.slice a1 n1 c1,.slice a2 n2 c2]),.p 3 0 [.bool false,.slice a1 n1 c1,.slice a2 n2 c2],.v 9 (.int .i64 0)]) (fun p3=>[(0,.pointer (some ⟨p,0,none⟩)),(8,pT (p1 2).N 0),(9,.int .i64 0)]) (fun p3=>?_) (fun p3 W3 T hF hK=>?_)
 ·iterate 2 refine okv ?_
  iterate 3 refine okk ?_
  refine okv ?_
  iterate 2 refine okl ?_
  refine okv ?_
  refine okp ?_
  refine okv ?_
  exact ok_nil
 replace hS:=SymF.fc hS hF [0,3] [⟨p,cs9,t9_,false⟩,⟨(p1 2).N,#[.bool false,.slice a1 n1 c1,.slice a2 n2 c2],28,true⟩]
 replace hG:=hF.gx
 clear hF
 refine wp_ret ?_
 exact sym_end hS hK (.tuple #[.agg #[.bool false,.slice a1 n1 c1,.slice a2 n2 c2],.int .i64 0]) [(1,0,3)] [.bool false,.slice a1 n1 c1,.slice a2 n2 c2] (by kernel_rfl) (by kernel_rfl) ⟨rfl,hS.fr⟩
theorem zbck (w:World) (a1 a2 a3 a4:Option Addr) (n1 n2 n3 n4 c1 c2 c3 c4 m1 d1 m2 d2:Nat) (s t:Bool) (h1:Num w a1 n1 m1) (h2:Num w a2 n2 d1) (h3:Num w a3 n3 m2) (h4:Num w a4 n4 d2) (C1:Hid (∀ W:World,Num W a1 n1 m1→Num W a2 n2 d1→Calls Tryz.prog 20 #[.agg #[.bool s,.slice a1 n1 c1,.slice a2 n2 c2]] W fun e W'=>e = .returned (.int .i64 0)∧Below W.heap.size W W')) (C2:Hid (∀ W:World,Num W a3 n3 m2→Num W a4 n4 d2→Calls Tryz.prog 20 #[.agg #[.bool t,.slice a3 n3 c3,.slice a4 n4 c4]] W fun e W'=>e = .returned (.int .i64 0)∧Below W.heap.size W W'))  :
  Calls Tryz.prog 25 #[.agg #[.bool s,.slice a1 n1 c1,.slice a2 n2 c2,.bool t,.slice a3 n3 c3,.slice a4 n4 c4]] w fun en w'=>en = .returned (.int .i64 0)∧Below w.heap.size w w':=by
 refine calls_sym Tryz.func25 rfl (by kernel_rfl) fun T hK=>?_
 replace hK:Kn T _ [(0,.agg #[.bool s,.slice a1 n1 c1,.slice a2 n2 c2,.bool t,.slice a3 n3 c3,.slice a4 n4 c4])]:=hK
 have hS:=Fb.begin w
 have hG:GsAt [gN a1 n1 m1,gN a2 n2 d1,gN a3 n3 m2,gN a4 n4 d2] w:=⟨h1,h2,h3,h4,trivial⟩
 refine wq hS hG hK (fun p1=>[.n 1 #[.bool s,.slice a1 n1 c1,.slice a2 n2 c2,.bool t,.slice a3 n3 c3,.slice a4 n4 c4] 67,.v 2 (.int .i64 0)]) (fun p1=>[(1,pT (p1 0).N 0),(2,.int .i64 0)]) (fun p1=>?_) (fun p1 W1 T hF hK=>?_)
 ·refine okn ?_
  refine okv ?_
  exact ok_nil
 replace hS:=SymF.fc hS hF [1000] [⟨(p1 0).N,#[.bool s,.slice a1 n1 c1,.slice a2 n2 c2,.bool t,.slice a3 n3 c3,.slice a4 n4 c4],67,true⟩]
 replace hG:=hF.gx
 clear hF
 refine wp_seq ?_
 refine wq hS hG hK (fun p2=>[.v 4 (pT (p1 0).N 0),.l 5 (.agg #[.bool s,.slice a1 n1 c1,.slice a2 n2 c2]) 0 0,.c (some 6) (cV (.int .i64 0)),.v 3 (.int .i64 0)]) (fun p2=>[(1,pT (p1 0).N 0),(2,.int .i64 0),(3,.int .i64 0)]) (fun p2=>?_) (fun p2 W2 T hF hK=>?_)
 ·refine okv ?_
  refine okl ?_
  refine okc (fun W cx=>as_v (unhide C1 _ (cx.G.1) (cx.G.2.1))) ?_
  refine okv ?_
  exact ok_nil
 obtain ⟨hS,hG⟩:=SymF.fg hS hF
 clear hF
 refine wq hS hG hK (fun p3=>[.v 7 (.int .i64 0),.v 8 (.bool false)]) (fun p3=>[(1,pT (p1 0).N 0),(2,.int .i64 0),(3,.int .i64 0),(8,.bool false)]) (fun p3=>?_) (fun p3 W3 T hF hK=>?_)
 ·iterate 2 refine okv ?_
  exact ok_nil
 obtain ⟨hS,hG⟩:=SymF.fg hS hF
 clear hF
 refine wp_cond_false (hK.ew 8) (wp_skip (then_n ?_))
 refine wq hS hG hK (fun p4=>[.v 10 (pT (p1 0).N 3),.l 11 (.agg #[.bool t,.slice a3 n3 c3,.slice a4 n4 c4]) 0 3,.c (some 12) (cV (.int .i64 0)),.v 2 (.int .i64 0)]) (fun p4=>[(2,.int .i64 0),(3,.int .i64 0)]) (fun p4=>?_) (fun p4 W4 T hF hK=>?_)
 ·refine okv ?_
  refine okl ?_
  refine okc (fun W cx=>as_v (unhide C2 _ (cx.G.2.2.1) (cx.G.2.2.2.1))) ?_
  refine okv ?_
  exact ok_nil
 obtain ⟨hS,hG⟩:=SymF.fg hS hF
 clear hF
 refine wp_ret ?_
 exact sym_end hS hK (.int .i64 0) [] [] (by kernel_rfl) (by kernel_rfl) ⟨rfl,hS.fr⟩
theorem zchd_sub (w:World) (a1 a2 a3 a4:Option Addr) (n1 n2 n3 n4 c1 c2 c3 c4 m1 d1 m2 d2:Nat) (s t g:Bool) (z dn:Nat) (h1:Num w a1 n1 m1) (h2:Num w a2 n2 d1) (h3:Num w a3 n3 m2) (h4:Num w a4 n4 d2) (C1:Hid (∀ W:World,Num W a1 n1 m1→Num W a2 n2 d1→Calls Tryz.prog 20 #[.agg #[.bool s,.slice a1 n1 c1,.slice a2 n2 c2]] W fun e W'=>e = .returned (.int .i64 0)∧Below W.heap.size W W')) (C2:Hid (∀ W:World,Num W a3 n3 m2→Num W a4 n4 d2→Calls Tryz.prog 20 #[.agg #[.bool t,.slice a3 n3 c3,.slice a4 n4 c4]] W fun e W'=>e = .returned (.int .i64 0)∧Below W.heap.size W W')) (HO:Hid (BSum 49 s t m1 d1 m2 d2 z dn g))  :
  Calls Tryz.prog 48 #[.agg #[.bool s,.slice a1 n1 c1,.slice a2 n2 c2,.bool t,.slice a3 n3 c3,.slice a4 n4 c4],.func (.func 49) #[.agg #[.bool s,.slice a1 n1 c1,.slice a2 n2 c2,.bool t,.slice a3 n3 c3,.slice a4 n4 c4]] #[]] w fun en w'=>(∃ A N C A' N' C',en = .returned (.tuple #[.agg #[.bool g,.slice A N C,.slice A' N' C'],.int .i64 0])∧Mine w' w.heap.size A N C z∧Mine w' w.heap.size A' N' C' dn)∧Below w.heap.size w w':=by
 refine calls_sym Tryz.func48 rfl (by kernel_rfl) fun T hK=>?_
 replace hK:Kn T _ [(0,.agg #[.bool s,.slice a1 n1 c1,.slice a2 n2 c2,.bool t,.slice a3 n3 c3,.slice a4 n4 c4]),(1,.func (.func 49) #[.agg #[.bool s,.slice a1 n1 c1,.slice a2 n2 c2,.bool t,.slice a3 n3 c3,.slice a4 n4 c4]] #[])]:=hK
 have hS:=Fb.begin w
 have hG:GsAt [gN a1 n1 m1,gN a2 n2 d1,gN a3 n3 m2,gN a4 n4 d2] w:=⟨h1,h2,h3,h4,trivial⟩
 refine wq hS hG hK (fun p1=>[.n 2 #[.bool s,.slice a1 n1 c1,.slice a2 n2 c2,.bool t,.slice a3 n3 c3,.slice a4 n4 c4] 67,.n 4 #[.bool false,.slice none 0 0,.slice none 0 0] 28,.v 5 (.int .i64 0)]) (fun p1=>[(1,.func (.func 49) #[.agg #[.bool s,.slice a1 n1 c1,.slice a2 n2 c2,.bool t,.slice a3 n3 c3,.slice a4 n4 c4]] #[]),(2,pT (p1 0).N 0),(4,pT (p1 1).N 0),(5,.int .i64 0)]) (fun p1=>?_) (fun p1 W1 T hF hK=>?_)
 ·iterate 2 refine okn ?_
  refine okv ?_
  exact ok_nil
 replace hS:=SymF.fc hS hF [1000,1001] [⟨(p1 0).N,#[.bool s,.slice a1 n1 c1,.slice a2 n2 c2,.bool t,.slice a3 n3 c3,.slice a4 n4 c4],67,true⟩,⟨(p1 1).N,#[.bool false,.slice none 0 0,.slice none 0 0],28,true⟩]
 replace hG:=hF.gx
 clear hF
 refine wp_seq ?_
 refine wq hS hG hK (fun p2=>[.l 7 (.agg #[.bool s,.slice a1 n1 c1,.slice a2 n2 c2,.bool t,.slice a3 n3 c3,.slice a4 n4 c4]) 0 0,.c (some 8) (cV (.int .i64 0)),.v 6 (.int .i64 0)]) (fun p2=>[(1,.func (.func 49) #[.agg #[.bool s,.slice a1 n1 c1,.slice a2 n2 c2,.bool t,.slice a3 n3 c3,.slice a4 n4 c4]] #[]),(4,pT (p1 1).N 0),(5,.int .i64 0),(6,.int .i64 0)]) (fun p2=>?_) (fun p2 W2 T hF hK=>?_)
 ·refine okl ?_
  refine okc (fun W cx=>as_v (zbck _ _ _ _ _ _ _ _ _ _ _ _ _ _ _ _ _ _ _ (cx.G.1) (cx.G.2.1) (cx.G.2.2.1) (cx.G.2.2.2.1) C1 C2)) ?_
  refine okv ?_
  exact ok_nil
 obtain ⟨hS,hG⟩:=SymF.fg hS hF
 clear hF
 refine wq hS hG hK (fun p3=>[.v 9 (.int .i64 0),.v 10 (.bool false)]) (fun p3=>[(1,.func (.func 49) #[.agg #[.bool s,.slice a1 n1 c1,.slice a2 n2 c2,.bool t,.slice a3 n3 c3,.slice a4 n4 c4]] #[]),(4,pT (p1 1).N 0),(5,.int .i64 0),(6,.int .i64 0),(10,.bool false)]) (fun p3=>?_) (fun p3 W3 T hF hK=>?_)
 ·iterate 2 refine okv ?_
  exact ok_nil
 obtain ⟨hS,hG⟩:=SymF.fg hS hF
 clear hF
 have z3:=hS.fr.size
 refine wp_cond_false (hK.ew 10) (wp_skip (then_n ?_))
 refine wq hS hG hK (fun p4=>[.v 13 (.func (.func 49) #[.agg #[.bool s,.slice a1 n1 c1,.slice a2 n2 c2,.bool t,.slice a3 n3 c3,.slice a4 n4 c4]] #[]),.c (some 14) (cH W3.heap.size z dn fun x9 y9=>.tuple #[.agg #[.bool g,x9,y9],.int .i64 0]),.v 15 (.agg #[.bool g,.slice (p4 1).A (p4 1).N (p4 1).C,.slice (p4 1).A' (p4 1).N' (p4 1).C']),.v 16 (.int .i64 0),.p 1 0 [.bool g,.slice (p4 1).A (p4 1).N (p4 1).C,.slice (p4 1).A' (p4 1).N' (p4 1).C'],.v 5 (.int .i64 0)]) (fun p4=>[(4,pT (p1 1).N 0),(5,.int .i64 0),(6,.int .i64 0)]) (fun p4=>?_) (fun p4 W4 T hF hK=>?_)
 ·refine okv ?_
  refine okc (fun W cx=>as_h cx.hb (unhide HO _ _ _ c1 _ _ c2 _ _ c3 _ _ c4 (cx.G.1) (cx.G.2.1) (cx.G.2.2.1) (cx.G.2.2.2.1))) ?_
  iterate 2 refine okv ?_
  refine okp ?_
  refine okv ?_
  exact ok_nil
 replace hS:=SymF.fc hS hF [1] [⟨(p1 1).N,#[.bool g,.slice (p4 1).A (p4 1).N (p4 1).C,.slice (p4 1).A' (p4 1).N' (p4 1).C'],28,true⟩]
 replace hG:GsAt (gM W3.heap.size (p4 1).A (p4 1).N (p4 1).C z :: gM W3.heap.size (p4 1).A' (p4 1).N' (p4 1).C' dn :: _) W4:=⟨And.left (hF.fx 1),And.right (hF.fx 1),hF.gx⟩
 clear hF
 refine wp_ret ?_
 exact sym_end hS hK (.tuple #[.agg #[.bool g,.slice (p4 1).A (p4 1).N (p4 1).C,.slice (p4 1).A' (p4 1).N' (p4 1).C'],.int .i64 0]) [(0,0,3)] [.bool g,.slice (p4 1).A (p4 1).N (p4 1).C,.slice (p4 1).A' (p4 1).N' (p4 1).C'] (by kernel_rfl) (by kernel_rfl) ⟨⟨_,_,_,_,_,_,rfl,Mine.mono hG.1 z3,Mine.mono hG.2.1 z3⟩,hS.fr⟩
theorem zsub_is (w:World) (a1 a2 a3 a4:Option Addr) (n1 n2 n3 n4 c1 c2 c3 c4 m1 d1 m2 d2:Nat) (s t g:Bool) (z dn:Nat) (h1:Num w a1 n1 m1) (h2:Num w a2 n2 d1) (h3:Num w a3 n3 m2) (h4:Num w a4 n4 d2) (C1:Hid (∀ W:World,Num W a1 n1 m1→Num W a2 n2 d1→Calls Tryz.prog 20 #[.agg #[.bool s,.slice a1 n1 c1,.slice a2 n2 c2]] W fun e W'=>e = .returned (.int .i64 0)∧Below W.heap.size W W')) (C2:Hid (∀ W:World,Num W a3 n3 m2→Num W a4 n4 d2→Calls Tryz.prog 20 #[.agg #[.bool t,.slice a3 n3 c3,.slice a4 n4 c4]] W fun e W'=>e = .returned (.int .i64 0)∧Below W.heap.size W W')) (HO:Hid (BSum 49 s t m1 d1 m2 d2 z dn g))  :
  Calls Tryz.prog 15 #[.agg #[.bool s,.slice a1 n1 c1,.slice a2 n2 c2],.agg #[.bool t,.slice a3 n3 c3,.slice a4 n4 c4]] w fun en w'=>(∃ A N C A' N' C',en = .returned (.tuple #[.agg #[.bool g,.slice A N C,.slice A' N' C'],.int .i64 0])∧Mine w' w.heap.size A N C z∧Mine w' w.heap.size A' N' C' dn)∧Below w.heap.size w w':=by
 refine calls_sym Tryz.func15 rfl (by kernel_rfl) fun T hK=>?_
 replace hK:Kn T _ [(0,.agg #[.bool s,.slice a1 n1 c1,.slice a2 n2 c2]),(1,.agg #[.bool t,.slice a3 n3 c3,.slice a4 n4 c4])]:=hK
 have hS:=Fb.begin w
 have hG:GsAt [gN a1 n1 m1,gN a2 n2 d1,gN a3 n3 m2,gN a4 n4 d2] w:=⟨h1,h2,h3,h4,trivial⟩
 refine wq hS hG hK (fun p1=>[.n 2 #[.bool s,.slice a1 n1 c1,.slice a2 n2 c2] 28,.n 3 #[.bool t,.slice a3 n3 c3,.slice a4 n4 c4] 28,.n 4 #[.bool false,.slice none 0 0,.slice none 0 0] 28,.v 5 (.int .i64 0)]) (fun p1=>[(2,pT (p1 0).N 0),(3,pT (p1 1).N 0),(4,pT (p1 2).N 0),(5,.int .i64 0)]) (fun p1=>?_) (fun p1 W1 T hF hK=>?_)
 ·iterate 3 refine okn ?_
  refine okv ?_
  exact ok_nil
 replace hS:=SymF.fc hS hF [1000,1001,1002] [⟨(p1 0).N,#[.bool s,.slice a1 n1 c1,.slice a2 n2 c2],28,true⟩,⟨(p1 1).N,#[.bool t,.slice a3 n3 c3,.slice a4 n4 c4],28,true⟩,⟨(p1 2).N,#[.bool false,.slice none 0 0,.slice none 0 0],28,true⟩]
 replace hG:=hF.gx
 clear hF
 refine wq hS hG hK (fun p2=>[.l 7 (.agg #[.bool s,.slice a1 n1 c1,.slice a2 n2 c2]) 0 0,.l 8 (.agg #[.bool t,.slice a3 n3 c3,.slice a4 n4 c4]) 1 0,.v 9 (.agg #[.bool s,.slice a1 n1 c1,.slice a2 n2 c2,.bool t,.slice a3 n3 c3,.slice a4 n4 c4]),.n 6 #[.bool false,.slice none 0 0,.slice none 0 0,.bool false,.slice none 0 0,.slice none 0 0] 67,.p 1003 0 [.bool s,.slice a1 n1 c1,.slice a2 n2 c2,.bool t,.slice a3 n3 c3,.slice a4 n4 c4]]) (fun p2=>[(4,pT (p1 2).N 0),(5,.int .i64 0),(6,pT (p2 3).N 0)]) (fun p2=>?_) (fun p2 W2 T hF hK=>?_)
 ·iterate 2 refine okl ?_
  refine okv ?_
  refine okn ?_
  refine okp ?_
  exact ok_nil
 replace hS:=SymF.fc hS hF [2,1003] [⟨(p1 2).N,#[.bool false,.slice none 0 0,.slice none 0 0],28,true⟩,⟨(p2 3).N,#[.bool s,.slice a1 n1 c1,.slice a2 n2 c2,.bool t,.slice a3 n3 c3,.slice a4 n4 c4],67,true⟩]
 replace hG:=hF.gx
 clear hF
 have z2:=hS.fr.size
 refine wq hS hG hK (fun p3=>[.l 10 (.agg #[.bool s,.slice a1 n1 c1,.slice a2 n2 c2,.bool t,.slice a3 n3 c3,.slice a4 n4 c4]) 1 0,.l 11 (.agg #[.bool s,.slice a1 n1 c1,.slice a2 n2 c2,.bool t,.slice a3 n3 c3,.slice a4 n4 c4]) 1 0,.v 12 (.func (.func 49) #[.agg #[.bool s,.slice a1 n1 c1,.slice a2 n2 c2,.bool t,.slice a3 n3 c3,.slice a4 n4 c4]] #[]),.c (some 13) (cH W2.heap.size z dn fun x9 y9=>.tuple #[.agg #[.bool g,x9,y9],.int .i64 0]),.v 14 (.agg #[.bool g,.slice (p3 3).A (p3 3).N (p3 3).C,.slice (p3 3).A' (p3 3).N' (p3 3).C']),.v 15 (.int .i64 0),.p 0 0 [.bool g,.slice (p3 3).A (p3 3).N (p3 3).C,.slice (p3 3).A' (p3 3).N' (p3 3).C'],.v 5 (.int .i64 0)]) (fun p3=>[(4,pT (p1 2).N 0),(5,.int .i64 0)]) (fun p3=>?_) (fun p3 W3 T hF hK=>?_)
 ·iterate 2 refine okl ?_
  refine okv ?_
  refine okc (fun W cx=>as_h cx.hb (zchd_sub _ _ _ _ _ _ _ _ _ _ _ _ _ _ _ _ _ _ _ _ _ _ (cx.G.1) (cx.G.2.1) (cx.G.2.2.1) (cx.G.2.2.2.1) C1 C2 HO)) ?_
  iterate 2 refine okv ?_
  refine okp ?_
  refine okv ?_
  exact ok_nil
 replace hS:=SymF.fc hS hF [0] [⟨(p1 2).N,#[.bool g,.slice (p3 3).A (p3 3).N (p3 3).C,.slice (p3 3).A' (p3 3).N' (p3 3).C'],28,true⟩]
 replace hG:GsAt (gM W2.heap.size (p3 3).A (p3 3).N (p3 3).C z :: gM W2.heap.size (p3 3).A' (p3 3).N' (p3 3).C' dn :: _) W3:=⟨And.left (hF.fx 3),And.right (hF.fx 3),hF.gx⟩
 clear hF
 refine wp_ret ?_
 exact sym_end hS hK (.tuple #[.agg #[.bool g,.slice (p3 3).A (p3 3).N (p3 3).C,.slice (p3 3).A' (p3 3).N' (p3 3).C'],.int .i64 0]) [(0,0,3)] [.bool g,.slice (p3 3).A (p3 3).N (p3 3).C,.slice (p3 3).A' (p3 3).N' (p3 3).C'] (by kernel_rfl) (by kernel_rfl) ⟨⟨_,_,_,_,_,_,rfl,Mine.mono hG.1 z2,Mine.mono hG.2.1 z2⟩,hS.fr⟩
theorem zans {w:World} {base:Nat} {e:Ending} {m:Nat} (h:Ans w base e m) (hn:¬ Over m):∃ a n cap,e = .returned (.tuple #[.agg #[.slice a n cap],.int .i64 0])∧Mine w base a n cap m:=by
 rcases h with h|h
 ·exact h
 ·exact absurd h.2 hn
theorem wadd_ok (p:Nat) {x y:Nat} (ho:¬ Over (x+y)):WTwo 135 p x y (x+y):=fun W a n c a' n' c' hR h h'=>
 zadd W p a a' n n' c c' x y _ hR h h' (hide fun W a n c a' n' c' h h'=>(add_any a a' n n' c c' x y W h h').mono fun _ _ ⟨k,hb⟩=>⟨zans k ho,hb⟩)
theorem wmul_ok (p:Nat) {x y:Nat} (ho:¬ Over (x * y)):WTwo 62 p x y (x * y):=fun W a n c a' n' c' hR h h'=>
 zmul W p a a' n n' c c' x y _ hR h h' (hide fun W a n c a' n' c' h h'=>(mul_any a a' n n' c c' x y W h h').mono fun _ _ ⟨k,hb⟩=>⟨zans k ho,hb⟩)
theorem wgcd_ok (p x y:Nat):WTwo 45 p x y (Nat.gcd x y):=fun W a n c a' n' c' hR h h'=>
 zgcd W p a a' n n' c c' x y _ hR h h' (hide fun W a n c a' n' c' h h'=>gcd_any a a' n n' c c' x y W h h')
theorem wsub_ok (p:Nat) {x y:Nat} (hy:y≤x):WTwo 141 p x y (x - y):=fun W a n c a' n' c' hR h h'=>
 zsub W p a a' n n' c c' x y _ true hR h h' (hide fun W a n c a' n' c' h h'=>(sub_any a a' n n' c c' x y W h h').mono fun _ _ ⟨k,hb⟩=>⟨by
  rcases k with ⟨k,_⟩|⟨_,k⟩
  ·omega
  ·exact k,hb⟩)
theorem wdiv_ok (p x:Nat) {y:Nat} (hy:0 < y):WDiv p x y (x / y) (x % y):=fun W a n c a' n' c' hR h h'=>
 zdiv W p a a' n n' c c' x y _ _ hR h h' (hide fun W a n c a' n' c' h h'=>(div_any a a' n n' c c' x y W h h').mono fun _ _ ⟨k,hb⟩=>⟨by
  rcases k with ⟨k,_⟩|⟨_,k⟩
  ·omega
  ·exact k,hb⟩)
theorem wcmp_ok (p x y:Nat):WCmp p x y (cmpI x y):=fun W a n c a' n' c' hR h h'=>
 zcmp W p a a' n n' c c' x y _ hR h h' (hide fun W a n c a' n' c' h h'=>cmpN_any a a' n n' c c' x y W h h')
theorem wover_ok (p x:Nat) {y:Nat} (hy:0 < y):WTwo 47 p x y (x / y):=fun W a n c a' n' c' hR h h'=>
 zover W p a a' n n' c c' x y _ _ hR h h' (hide (wdiv_ok p x hy))
theorem zmo_parts (x y z:Nat) (hz:0 < z):x / z * y+x % z * y / z = x * y / z∧x % z * y % z = x * y % z:=by
 have h:x * y = z * (x / z * y)+x % z * y:=by
  have:=Nat.div_add_mod x z
  conv=>lhs; rw [← this,Nat.add_mul,Nat.mul_assoc]
 exact ⟨by rw [h,Nat.mul_add_div hz],by rw [h,Nat.mul_add_mod]⟩
theorem wmo_ok (p x y:Nat) {z:Nat} (hz:0 < z) (ho:¬ Over (x % z * y)) (hq:¬ Over (x * y / z)) (hm:∀ {m n:Nat},m≤n→Over m→Over n):WMo p x y z (x * y / z) (x * y % z):=fun W a n c a' n' c' a2 n2 c2 hR h h' h2=>by
 obtain ⟨e1,e2⟩:=zmo_parts x y z hz
 have k:=zmo W p a a' a2 n n' n2 c c' c2 x y z _ _ _ _ _ _ _ hR h h' h2 (hide (wdiv_ok p x hz)) (hide (wmul_ok p ho)) (hide (wdiv_ok p _ hz)) (hide (wmul_ok p (x:=x / z) (y:=y) fun o=>hq (hm (Nat.le.intro e1) o))) (hide (wadd_ok p (by rw [e1]; exact hq)))
 rw [e1,e2] at k
 exact k
theorem wdist_ok (p x y:Nat):WTwo 151 p x y (if x < y then y - x else x - y):=fun W a n c a' n' c' hR h h'=>by
 by_cases hl:x < y
 ·rw [if_pos hl]
  exact zdist_lt W p a a' n n' c c' x y _ _ hR h h' (hide (wcmp_ok p x y)) (by unfold cmpI; rw [if_pos hl]; decide) (hide (wsub_ok p (by omega)))
 ·rw [if_neg hl]
  exact zdist_ge W p a a' n n' c c' x y _ _ hR h h' (hide (wcmp_ok p x y)) (by unfold cmpI; rw [if_neg hl]; split <;> decide) (hide (wsub_ok p (by omega)))
theorem wfr_ok (p:Nat) (s:Bool) (x y:Nat):WFr p s x y (s && !decide (x = 0)):=fun W a n c a' n' c' hR h h'=>by
 cases s
 ·exact zfra_f W p a a' n n' c c' x y hR h h'
 ·exact zfra_t W p a a' n n' c c' x y _ hR h h' rfl
theorem zover_mono {m n:Nat} (hmn:m≤n) (h:Over m):Over n:=⟨Nat.le_trans h.le hmn⟩
structure SmR (N m1 d1 m2 d2:Nat):Prop where
 a:m1≤N
 b:d1≤N
 c:m2≤N
 d:d2≤N
 p1:0 < d1
 p2:0 < d2
 o:∀ v,v≤8 * (N * N * N)+8→¬ Over v
theorem SmR.two {N m1 d1 m2 d2:Nat} (h:SmR N m1 d1 m2 d2) {v:Nat} (hv:v≤N * N):¬ Over v:=by
 have h0:0 < N:=Nat.lt_of_lt_of_le h.p1 h.b
 have:=Nat.le_mul_of_pos_right (N * N) h0
 exact h.o v (by omega)
theorem SmR.wmo {N m1 d1 m2 d2:Nat} (h:SmR N m1 d1 m2 d2) (p:Nat) {x y z:Nat} (hz:0 < z) (hx:x≤N) (hy:y≤N):WMo p x y z (x * y / z) (x * y % z):=
 wmo_ok p x y hz (h.two (Nat.mul_le_mul (Nat.le_trans (Nat.mod_le x z) hx) hy)) (h.two (Nat.le_trans (Nat.div_le_self _ _) (Nat.mul_le_mul hx hy))) zover_mono
theorem spl_s {N m1 d1 m2 d2:Nat} (h:SmR N m1 d1 m2 d2) (p:Nat) (s:Bool):WSpl p s s m1 d1 m2 d2 (m1 / d1) (m2 / d2) (Rm.partA true m1 d1 m2 d2) (Rm.partB true m1 d1 m2 d2) (Rm.sden true m1 d1 m2 d2) (!decide (Rm.broken true m1 d1 m2 d2 = 0)):=fun W a1 n1 c1 a2 n2 c2 a3 n3 c3 a4 n4 c4 hR h1 h2 h3 h4=>by
 have hg:0 < Nat.gcd d1 d2:=Nat.gcd_pos_of_pos_left _ h.p1
 have hl:0 < Rm.lost true m1 d1 m2 d2:=Nat.gcd_pos_of_pos_right _ hg
 have x1:m1 % d1≤N:=Nat.le_trans (Nat.le_of_lt (Nat.mod_lt _ h.p1)) h.b
 have x2:m2 % d2≤N:=Nat.le_trans (Nat.le_of_lt (Nat.mod_lt _ h.p2)) h.d
 have y1:d2 / Nat.gcd d1 d2≤N:=Nat.le_trans (Nat.div_le_self _ _) h.d
 have y2:d1 / Nat.gcd d1 d2≤N:=Nat.le_trans (Nat.div_le_self _ _) h.b
 have y3:d2 / Rm.lost true m1 d1 m2 d2≤N:=Nat.le_trans (Nat.div_le_self _ _) h.d
 exact zspl_s W p a1 a2 a3 a4 n1 n2 n3 n4 c1 c2 c3 c4 m1 d1 m2 d2 s (decide (Rm.broken true m1 d1 m2 d2 = 0)) (m1 / d1) (m1 % d1) (m2 / d2) (m2 % d2) (Nat.gcd d1 d2) (d2 / Nat.gcd d1 d2) (d1 / Nat.gcd d1 d2) (m1 % d1 * (d2 / Nat.gcd d1 d2) / Nat.gcd d1 d2) (m1 % d1 * (d2 / Nat.gcd d1 d2) % Nat.gcd d1 d2) (m2 % d2 * (d1 / Nat.gcd d1 d2) / Nat.gcd d1 d2) (m2 % d2 * (d1 / Nat.gcd d1 d2) % Nat.gcd d1 d2) (Nat.gcd d1 d2 - m2 % d2 * (d1 / Nat.gcd d1 d2) % Nat.gcd d1 d2) (Rm.dist (m1 % d1 * (d2 / Nat.gcd d1 d2) % Nat.gcd d1 d2) (Nat.gcd d1 d2 - m2 % d2 * (d1 / Nat.gcd d1 d2) % Nat.gcd d1 d2)) (Rm.lost true m1 d1 m2 d2) (d2 / Rm.lost true m1 d1 m2 d2) (Rm.sden true m1 d1 m2 d2) (Rm.partA true m1 d1 m2 d2) (Rm.broken true m1 d1 m2 d2) (Rm.partB true m1 d1 m2 d2) (m2 % d2 * (d1 / Nat.gcd d1 d2) % Rm.lost true m1 d1 m2 d2) hR h1 h2 h3 h4
  (hide (wdiv_ok p m1 h.p1)) (hide (wdiv_ok p m2 h.p2)) (hide (wgcd_ok p d1 d2)) (hide (wover_ok p d2 hg)) (hide (wover_ok p d1 hg)) (hide (h.wmo p hg x1 y1)) (hide (h.wmo p hg x2 y2)) (hide (wsub_ok p (Nat.le_of_lt (Nat.mod_lt _ hg)))) (hide (wdist_ok p _ _)) (hide (wgcd_ok p _ _)) (hide (wover_ok p d2 hl)) (hide (wmul_ok p (h.two (Nat.mul_le_mul y2 y3)))) (hide (h.wmo p hl x1 y1)) (hide (h.wmo p hl x2 y2)) rfl
theorem spl_d {N m1 d1 m2 d2:Nat} (h:SmR N m1 d1 m2 d2) (p:Nat) (s t:Bool) (hst:(s == t) = false):WSpl p s t m1 d1 m2 d2 (m1 / d1) (m2 / d2) (Rm.partA false m1 d1 m2 d2) (Rm.partB false m1 d1 m2 d2) (Rm.sden false m1 d1 m2 d2) (!decide (Rm.broken false m1 d1 m2 d2 = 0)):=fun W a1 n1 c1 a2 n2 c2 a3 n3 c3 a4 n4 c4 hR h1 h2 h3 h4=>by
 have hg:0 < Nat.gcd d1 d2:=Nat.gcd_pos_of_pos_left _ h.p1
 have hl:0 < Rm.lost false m1 d1 m2 d2:=Nat.gcd_pos_of_pos_right _ hg
 have x1:m1 % d1≤N:=Nat.le_trans (Nat.le_of_lt (Nat.mod_lt _ h.p1)) h.b
 have x2:m2 % d2≤N:=Nat.le_trans (Nat.le_of_lt (Nat.mod_lt _ h.p2)) h.d
 have y1:d2 / Nat.gcd d1 d2≤N:=Nat.le_trans (Nat.div_le_self _ _) h.d
 have y2:d1 / Nat.gcd d1 d2≤N:=Nat.le_trans (Nat.div_le_self _ _) h.b
 have y3:d2 / Rm.lost false m1 d1 m2 d2≤N:=Nat.le_trans (Nat.div_le_self _ _) h.d
 exact zspl_d W p a1 a2 a3 a4 n1 n2 n3 n4 c1 c2 c3 c4 m1 d1 m2 d2 s t (decide (Rm.broken false m1 d1 m2 d2 = 0)) (m1 / d1) (m1 % d1) (m2 / d2) (m2 % d2) (Nat.gcd d1 d2) (d2 / Nat.gcd d1 d2) (d1 / Nat.gcd d1 d2) (m1 % d1 * (d2 / Nat.gcd d1 d2) / Nat.gcd d1 d2) (m1 % d1 * (d2 / Nat.gcd d1 d2) % Nat.gcd d1 d2) (m2 % d2 * (d1 / Nat.gcd d1 d2) / Nat.gcd d1 d2) (m2 % d2 * (d1 / Nat.gcd d1 d2) % Nat.gcd d1 d2) (Rm.dist (m1 % d1 * (d2 / Nat.gcd d1 d2) % Nat.gcd d1 d2) (m2 % d2 * (d1 / Nat.gcd d1 d2) % Nat.gcd d1 d2)) (Rm.lost false m1 d1 m2 d2) (d2 / Rm.lost false m1 d1 m2 d2) (Rm.sden false m1 d1 m2 d2) (Rm.partA false m1 d1 m2 d2) (Rm.broken false m1 d1 m2 d2) (Rm.partB false m1 d1 m2 d2) (m2 % d2 * (d1 / Nat.gcd d1 d2) % Rm.lost false m1 d1 m2 d2) hR h1 h2 h3 h4
  (hide (wdiv_ok p m1 h.p1)) (hide (wdiv_ok p m2 h.p2)) (hide (wgcd_ok p d1 d2)) (hide (wover_ok p d2 hg)) (hide (wover_ok p d1 hg)) (hide (h.wmo p hg x1 y1)) (hide (h.wmo p hg x2 y2)) (hide (wdist_ok p _ _)) (hide (wgcd_ok p _ _)) (hide (wover_ok p d2 hl)) (hide (wmul_ok p (h.two (Nat.mul_le_mul y2 y3)))) (hide (h.wmo p hl x1 y1)) (hide (h.wmo p hl x2 y2)) rfl hst
theorem SmR.parts {N m1 d1 m2 d2:Nat} (h:SmR N m1 d1 m2 d2) (same:Bool):Rm.partA same m1 d1 m2 d2≤N * N∧Rm.partB same m1 d1 m2 d2≤N * N∧Rm.sden same m1 d1 m2 d2≤N * N∧m1 / d1≤N∧m2 / d2≤N:=by
 have x1:m1 % d1≤N:=Nat.le_trans (Nat.le_of_lt (Nat.mod_lt _ h.p1)) h.b
 have x2:m2 % d2≤N:=Nat.le_trans (Nat.le_of_lt (Nat.mod_lt _ h.p2)) h.d
 have y1:d2 / Nat.gcd d1 d2≤N:=Nat.le_trans (Nat.div_le_self _ _) h.d
 have y2:d1 / Nat.gcd d1 d2≤N:=Nat.le_trans (Nat.div_le_self _ _) h.b
 have y3:d2 / Rm.lost same m1 d1 m2 d2≤N:=Nat.le_trans (Nat.div_le_self _ _) h.d
 exact ⟨Nat.le_trans (Nat.div_le_self _ _) (Nat.mul_le_mul x1 y1),Nat.le_trans (Nat.div_le_self _ _) (Nat.mul_le_mul x2 y2),Nat.mul_le_mul y2 y3,Nat.le_trans (Nat.div_le_self _ _) h.a,Nat.le_trans (Nat.div_le_self _ _) h.c⟩
theorem tog_ok {N m1 d1 m2 d2:Nat} (h:SmR N m1 d1 m2 d2) (p:Nat) (s:Bool):WSum 114 p s s m1 d1 m2 d2 (Rm.snum m1 d1 m2 d2) (Rm.sden true m1 d1 m2 d2) (s && !decide (Rm.snum m1 d1 m2 d2 = 0)):=fun W a1 n1 c1 a2 n2 c2 a3 n3 c3 a4 n4 c4 hR h1 h2 h3 h4=>by
 have h0:0 < N:=Nat.lt_of_lt_of_le h.p1 h.b
 obtain ⟨b1,b2,b3,b4,b5⟩:=h.parts true
 have hNN:=Nat.le_mul_of_pos_right (N * N) h0
 have hN1:N≤N * N:=Nat.le_mul_of_pos_right N h0
 have b6:(m1 / d1+m2 / d2) * Rm.sden true m1 d1 m2 d2≤(2 * N) * (N * N):=Nat.mul_le_mul (by omega) b3
 have b7:(2 * N) * (N * N) = 2 * (N * N * N):=by rw [Nat.mul_assoc 2,Nat.mul_comm N (N * N)]
 have HS:=spl_s h p s
 have z1:=wadd_ok p (h.o (Rm.partA true m1 d1 m2 d2+Rm.partB true m1 d1 m2 d2) (by omega))
 have z3:=wadd_ok p (h.o (m1 / d1+m2 / d2) (by omega))
 have z4:=wmul_ok p (h.o ((m1 / d1+m2 / d2) * Rm.sden true m1 d1 m2 d2) (by omega))
 by_cases hb:Rm.broken true m1 d1 m2 d2 = 0
 ·have e:Rm.snum m1 d1 m2 d2 = Rm.partA true m1 d1 m2 d2+Rm.partB true m1 d1 m2 d2+(m1 / d1+m2 / d2) * Rm.sden true m1 d1 m2 d2:=by unfold Rm.snum; rw [if_pos hb]; omega
  rw [decide_eq_true hb] at HS
  have z5:=wadd_ok p (h.o (Rm.partA true m1 d1 m2 d2+Rm.partB true m1 d1 m2 d2+(m1 / d1+m2 / d2) * Rm.sden true m1 d1 m2 d2) (by omega))
  rw [← e] at z5
  exact ztog_f W p a1 a2 a3 a4 n1 n2 n3 n4 c1 c2 c3 c4 m1 d1 m2 d2 s _ _ _ _ _ _ _ _ _ _ hR h1 h2 h3 h4 (hide HS) (hide z1) (hide z3) (hide z4) (hide z5) (hide (wfr_ok p s _ _))
 ·have e:Rm.snum m1 d1 m2 d2 = Rm.partA true m1 d1 m2 d2+Rm.partB true m1 d1 m2 d2+1+(m1 / d1+m2 / d2) * Rm.sden true m1 d1 m2 d2:=by unfold Rm.snum; rw [if_neg hb]; omega
  rw [decide_eq_false hb] at HS
  have z2:=wadd_ok p (h.o (Rm.partA true m1 d1 m2 d2+Rm.partB true m1 d1 m2 d2+1) (by omega))
  have z5:=wadd_ok p (h.o (Rm.partA true m1 d1 m2 d2+Rm.partB true m1 d1 m2 d2+1+(m1 / d1+m2 / d2) * Rm.sden true m1 d1 m2 d2) (by omega))
  rw [← e] at z5
  exact ztog_t W p a1 a2 a3 a4 n1 n2 n3 n4 c1 c2 c3 c4 m1 d1 m2 d2 s _ _ _ _ _ _ _ _ _ _ _ hR h1 h2 h3 h4 (hide HS) (hide z1) (hide z2) (hide z3) (hide z4) (hide z5) (hide (wfr_ok p s _ _))
end Go.Proofs.YtfjegmlpkiaifaaGreatDoor
