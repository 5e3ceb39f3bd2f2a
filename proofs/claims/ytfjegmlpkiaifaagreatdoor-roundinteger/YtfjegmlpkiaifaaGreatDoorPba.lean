/- Of what RoundIntegerRow stands on: RdLeaf NrName RdRound TnRun0. -/
import Derived.Test.YtfjegmlpkiaifaaGreatDoorPay
import Derived.Test.YtfjegmlpkiaifaaGreatDoorPap
import Derived.Test.YtfjegmlpkiaifaaGreatDoorPab
import Derived.Test.YtfjegmlpkiaifaaGreatDoorPaz
import Derived.Test.YtfjegmlpkiaifaaGreatDoorPax
namespace Go.Proofs.YtfjegmlpkiaifaaGreatDoor
open Go.RowKit
set_option maxHeartbeats 2000000
set_option maxRecDepth 20000
theorem and_one (q:Nat) (hq:q < 18446744073709551616):bits BinOp.and .u64 (q:Int) 1 = ((q % 2:Nat):Int):=by
 show IntKind.u64.wrap ((BitVec.ofInt 64 (q:Int) &&& BitVec.ofInt 64 1).toNat:Int) = _
 have e1:BitVec.ofInt 64 (q:Int) = BitVec.ofNat 64 q:=by simp
 have e2:(BitVec.ofNat 64 q &&& BitVec.ofInt 64 1).toNat = q % 2:=by
  rw [BitVec.toNat_and,BitVec.toNat_ofNat,Nat.mod_eq_of_lt (by omega)]
  show q &&& 1 = q % 2
  exact Nat.and_one_is_mod q
 rw [e1,e2,IntKind.wrap_u64]
 omega
theorem cut_drop (s:Bool) (a:Option Addr) (n cap m dr mode:Nat) (z:Int) (w:World) (h:Num w a n m) (hcap:n≤cap) (hcap2:cap≤9223372036854775807) (hm:mode≤4) (hdr:0 < dr) (hdr2:dr < 4611686018427387904) (hq:m / 2 ^ dr < 9223372036854775808) :
  Calls Tryz.prog 87 #[.agg #[.bool s,.slice a n cap,.int .i64 z],.int .i64 (z+(dr:Int)),.int .u8 (mode:Int)] w fun en w'=>en = .returned (.tuple #[.int .u64 (cutN mode s m dr:Int),.bool false])∧Below w.heap.size w w':=by
 have ho:((((m / 2 ^ dr) % 2:Nat):Int) == 1) = decide (m / 2 ^ dr % 2 = 1):=by
  by_cases h1:m / 2 ^ dr % 2 = 1
  ·rw [h1]; rfl
  ·have:m / 2 ^ dr % 2 = 0:=by omega
   rw [this]; rfl
 have HD:=hide fun (W:World) (g:Num W a n m)=>down_any a n cap m dr W g hcap hcap2 (by omega)
 have HH:=hide fun (W:World) (A:Option Addr) (N C:Nat) (g:Num W A N m)=>ahalf_any A N C m dr W g (by omega) hdr2
 have hF:=fun (W:World)=>farther_any mode s (decide (m / 2 ^ dr % 2 = 1)) (ahf m dr) hm (ahf_three m dr) W
 unfold cutN
 by_cases hf:fth mode s (decide (m / 2 ^ dr % 2 = 1)) (ahf m dr) = true
 ·rw [hf] at hF
  rw [if_pos hf]
  exact cut_up w s a n cap m z dr _ mode _ _ h hdr hdr2 hq (and_one _ (by omega)) ho HD HH (hide hF)
 ·rw [Bool.not_eq_true] at hf
  rw [hf] at hF
  rw [hf,if_neg (by simp)]
  exact cut_down w s a n cap m z dr _ mode _ _ h hdr hdr2 hq (and_one _ (by omega)) ho HD HH (hide hF)
theorem len64_k (N k:Nat) (w:World) (hN:N < 18446744073709551616) (hk:Bl N k):Calls Tryz.prog 125 #[.int .u64 (N:Int)] w fun e w'=>e = .returned (.int .i64 (k:Int))∧Below w.heap.size w w':=by
 refine (len64_int (N:Int) w (by omega) (by omega)).mono ?_
 rintro e w' ⟨rfl,rfl⟩
 have h1:Bl N (Lib.bitLen N):=bl_bitLen 64 N (by simpa using hN) (by simpa using hN)
 have h2:=h1.uniq hk
 exact ⟨by rw [Int.toNat_natCast,h2],Below.refl _ _⟩
theorem rnought_yes (a:Option Addr) (cap:Nat) (w:World)  :
  Calls Tryz.prog 32 #[.agg #[.slice a 0 cap]] w fun e w'=>e = .returned (.bool true)∧Below w.heap.size w w':=by
 go_enter Tryz.func32,Tryz.ntmps32
 go_wp2
 go_ret
 exact ⟨rfl,(Fs.one w _ _).fr⟩
theorem rnought_no (a:Option Addr) (n cap:Nat) (hn:0 < n) (w:World)  :
  Calls Tryz.prog 32 #[.agg #[.slice a n cap]] w fun e w'=>e = .returned (.bool false)∧Below w.heap.size w w':=by
 go_enter Tryz.func32,Tryz.ntmps32
 go_wp2
 go_ret
 exact ⟨ret_bool (by simp <;> omega),(Fs.one w _ _).fr⟩
theorem firstBit_k (N k:Nat) (t:Int) (w:World) (hN:N < 18446744073709551616) (hk:Bl N k) (hk2:k≤64) (ht:-2147483648≤t∧t≤2147483648) :
  Calls Tryz.prog 88 #[.int .u64 N,.int .i64 t] w fun e w'=>e = .returned (.int .i64 ((k:Int) - 1+t))∧Below w.heap.size w w':=by
 have HK:=hide hk
 clear hk
 go_enter Tryz.func88,Tryz.ntmps88
 go_wp2_with fail
 refine (len64_k N k _ hN (unhide HK)).mono ?_
 rintro e w1 ⟨rfl,hb1⟩
 have hS:=(Fs.begin w).kept hb1
 go_wp2
 go_ret
 exact ⟨rfl,hS.fr⟩
theorem mode_ok (mode:Nat) (hm:mode≤4) (w:World)  :
  Calls Tryz.prog 65 #[.int .u8 (mode:Int)] w fun e w'=>e = .returned (.int .i64 0)∧Below w.heap.size w w':=by
 go_enter Tryz.func65,Tryz.ntmps65
 go_wp2
 go_ret
 exact ⟨rfl,(Fs.begin w).fr⟩
theorem rfields_any (s:Bool) (N st F h fr:Nat) (w:World) (hF:F≤52) (hst:st≤4096) (hh:h≤2) (HH:Hid (h = N / 2 ^ F)) (HR:Hid (fr = N - h * 2 ^ F)) (hN:N < 9223372036854775808) :
  Calls Tryz.prog 92 #[.bool s,.int .u64 N,.int .i64 st,.int .i64 F] w fun e w'=>e = .returned (.agg #[.bool s,.int .i64 ((st:Int)+(h:Int)),.int .u64 fr])∧Below w.heap.size w w':=by
 have hpF:=pow_bound (show F≤52 from hF)
 have hp0:=pow_pos2 F
 have hle:h * 2 ^ F≤N:=by rw [unhide HH]; exact Nat.div_mul_le_self _ _
 have e1:((N:Int) / 2 ^ F) = (h:Int):=by rw [unhide HH]; simp
 have e4:IntKind.u64.wrap ((h:Int) * 2 ^ F) = (h:Int) * 2 ^ F:=by
  rw [show ((h:Int) * 2 ^ F) = ((h * 2 ^ F:Nat):Int) from by simp,IntKind.wrap_u64]; omega
 have e5:IntKind.u64.wrap ((N:Int) - (h:Int) * 2 ^ F) = (fr:Int):=by
  rw [show ((h:Int) * 2 ^ F) = ((h * 2 ^ F:Nat):Int) from by simp,unhide HR,IntKind.wrap_u64]; omega
 go_enter Tryz.func92,Tryz.ntmps92
 go_wp2
 exact bodyPost_ret (v:=.agg #[.bool s,.int .i64 ((st:Int)+(h:Int)),.int .u64 fr]) (by simp [results,Tryz.results92,go_sem]) rfl ⟨rfl,(Fs.one w _ _).fr⟩
theorem over_inf (E F b m1 mode:Nat) (s:Bool) (h0:Fo E F) (w:World) (hB:Bt E F b s m1 0) (HM:Hid (m1 = 2 ^ E - 1)) (HF:Hid (∀ W:World,Calls Tryz.prog 39 #[.agg #[.bool s,.bool false,.int .i64 1],.int .u8 (mode:Int)] W fun e w'=>e = .returned (.bool true)∧Below W.heap.size W w')) :
  Calls Tryz.prog 89 #[.agg #[.int .i64 E,.int .i64 F],.bool s,.int .u8 (mode:Int)] w fun e w'=>e = .returned (.tuple #[.int .u64 b,.int .i64 0])∧Below w.heap.size w w':=by
 have H0:=hide h0
 have HB:=hide hB
 clear h0 hB
 go_enter Tryz.func89,Tryz.ntmps89
 go_wp2_with fail
 have hS:Fs w (w.alloc (.cells #[.int .i64 E,.int .i64 F] 23)) [⟨w.heap.size,#[.int .i64 E,.int .i64 F],23⟩]:=Fs.one w _ _
 replace hS:=hS.alloc #[.bool s,.bool false,.int .i64 1] 87
 try simp only [World.size_alloc] at hS
 go_wp2_with fail
 refine (unhide HF _).mono ?_
 rintro e w1 ⟨rfl,hb1⟩
 replace hS:=hS.kept hb1
 obtain ⟨⟨ya,yb,yc,-⟩,⟨yd,ye,-⟩,-⟩:=hS.cells
 go_wp2_with fail
 refine (Inf_ok E F b m1 s (unhide H0) (unhide HB) HM _).mono ?_
 rintro e w2 ⟨rfl,hb2⟩
 replace hS:=hS.kept hb2
 clear ya yb yc yd ye
 obtain ⟨⟨yf,yg,yh,-⟩,⟨yi,yj,-⟩,-⟩:=hS.cells
 go_wp2
 exact bodyPost_ret (v:=.tuple #[.int .u64 b,.int .i64 0]) (by simp [results,Tryz.results89,go_sem]) rfl ⟨rfl,hS.fr⟩
theorem over_top (E F b m1 m0 mode:Nat) (s:Bool) (h0:Fo E F) (w:World) (hB:Bt E F b s m1 m0) (HM:Hid (m1+1 = 2 ^ E - 1)) (HM0:Hid (m0 = 2 ^ F - 1)) (HF:Hid (∀ W:World,Calls Tryz.prog 39 #[.agg #[.bool s,.bool false,.int .i64 1],.int .u8 (mode:Int)] W fun e w'=>e = .returned (.bool false)∧Below W.heap.size W w')) :
  Calls Tryz.prog 89 #[.agg #[.int .i64 E,.int .i64 F],.bool s,.int .u8 (mode:Int)] w fun e w'=>e = .returned (.tuple #[.int .u64 b,.int .i64 0])∧Below w.heap.size w w':=by
 have H0:=hide h0
 have HB:=hide hB
 clear h0 hB
 go_enter Tryz.func89,Tryz.ntmps89
 go_wp2_with fail
 have hS:Fs w (w.alloc (.cells #[.int .i64 E,.int .i64 F] 23)) [⟨w.heap.size,#[.int .i64 E,.int .i64 F],23⟩]:=Fs.one w _ _
 replace hS:=hS.alloc #[.bool s,.bool false,.int .i64 1] 87
 try simp only [World.size_alloc] at hS
 go_wp2_with fail
 refine (unhide HF _).mono ?_
 rintro e w1 ⟨rfl,hb1⟩
 replace hS:=hS.kept hb1
 obtain ⟨⟨ya,yb,yc,-⟩,⟨yd,ye,-⟩,-⟩:=hS.cells
 go_wp2_with fail
 refine (Greatest_ok E F b m1 m0 s (unhide H0) (unhide HB) HM HM0 _).mono ?_
 rintro e w2 ⟨rfl,hb2⟩
 replace hS:=hS.kept hb2
 clear ya yb yc yd ye
 obtain ⟨⟨yf,yg,yh,-⟩,⟨yi,yj,-⟩,-⟩:=hS.cells
 go_wp2
 exact bodyPost_ret (v:=.tuple #[.int .u64 b,.int .i64 0]) (by simp [results,Tryz.results89,go_sem]) rfl ⟨rfl,hS.fr⟩
theorem small_is (s:Bool) (a:Option Addr) (n cap:Nat) (x free nm:Int) (mode N k:Nat) (wh:Bool) (w:World) (HC:Hid (∀ W:World,Below w.heap.size w W→Calls Tryz.prog 87 #[.agg #[.bool s,.slice a n cap,.int .i64 x],.int .i64 free,.int .u8 (mode:Int)] W fun e w'=>e = .returned (.tuple #[.int .u64 N,.bool wh])∧Below W.heap.size W w')) (hN:N < 18446744073709551616) (hk:Bl N k) (hk2:k≤64) (ht:-2147483648≤free∧free≤2147483648) :
  Calls Tryz.prog 90 #[.agg #[.bool s,.slice a n cap,.int .i64 x],.int .i64 free,.int .i64 nm,.int .u8 (mode:Int)] w fun e w'=>e = .returned (.bool (decide ((k:Int) - 1+free < nm)))∧Below w.heap.size w w':=by
 have HK:=hide hk
 clear hk
 go_enter Tryz.func90,Tryz.ntmps90
 go_wp2_with fail
 refine (unhide HC _ (gr_alloc _ _)).mono ?_
 rintro e w1 ⟨rfl,hb1⟩
 have hS:=(Fs.one w _ _).kept hb1
 obtain ⟨⟨ya,yb,yc,-⟩,-⟩:=hS.cells
 go_wp2_with fail
 refine (firstBit_k N k free _ hN (unhide HK) hk2 ht).mono ?_
 rintro e w2 ⟨rfl,hb2⟩
 replace hS:=hS.kept hb2
 clear ya yb yc
 obtain ⟨⟨yd,ye,yf,-⟩,-⟩:=hS.cells
 go_wp2
 go_ret
 exact ⟨rfl,hS.fr⟩
theorem join_is (E F b st hd fr:Nat) (s:Bool) (h:Fo E F) (hB:Bt E F b s (st+hd) fr) (w:World):Calls Tryz.prog 91 #[.agg #[.int .i64 E,.int .i64 F],.agg #[.bool s,.int .i64 ((st:Int)+(hd:Int)),.int .u64 fr]] w fun e w'=>e = .returned (.tuple #[.int .u64 b,.int .i64 0])∧Below w.heap.size w w':=by
 have:=Join_ok E F b (st+hd) fr s h hB w
 rw [show (((st+hd:Nat)):Int) = (st:Int)+(hd:Int) from by omega] at this
 exact this
theorem rounded_over (E F B mode:Nat) (ng:Bool) (s:Bool) (a:Option Addr) (n cap m k:Nat) (x t:Int) (N kN:Nat) (wh:Bool) (b:Nat) (w:World) (h0:Fo E F) (HB:Hid (B = 2 ^ (E - 1) - 1)) (h:Num w a n m) (hn:0 < n) (hk:Bl m k) (hk2:k≤524288) (hx:-1073741824≤x∧x≤1073741824) (hat:max (1 - (B:Int) - (F:Int)) (x+(k:Int) - 1 - (F:Int)) = t) (HC:Hid (∀ W:World,Num W a n m→Calls Tryz.prog 87 #[.agg #[.bool s,.slice a n cap,.int .i64 x],.int .i64 t,.int .u8 (mode:Int)] W fun e w'=>e = .returned (.tuple #[.int .u64 N,.bool wh])∧Below W.heap.size W w')) (hN:N < 9223372036854775808) (hkN:Bl N kN) (hkN2:kN≤64) (hov:(B:Int) < (kN:Int) - 1+t) (HO:Hid (∀ W:World,Calls Tryz.prog 89 #[.agg #[.int .i64 E,.int .i64 F],.bool s,.int .u8 (mode:Int)] W fun e w'=>e = .returned (.tuple #[.int .u64 b,.int .i64 0])∧Below W.heap.size W w')) :
  Calls Tryz.prog 53 #[.agg #[.int .i64 E,.int .i64 F],.agg #[.bool s,.slice a n cap,.int .i64 x],.bool ng,.int .u8 (mode:Int)] w fun e w'=>e = .returned (.tuple #[.int .u64 b,.int .u8 3,.int .i64 0])∧Below w.heap.size w w':=by
 have H0:=hide h0
 have H:=hide h
 have HK:=hide hk
 have HKN:=hide hkN
 have hBl:B≤1023:=B_le h0 HB
 have hF:=h0.f52
 have hF1:=h0.f1
 clear h0 h hk hkN
 go_enter Tryz.func53,Tryz.ntmps53
 go_wp2_with fail
 refine (rnought_no a n cap hn _).mono ?_
 rintro e w1 ⟨rfl,hb1⟩
 have hS:=(Fs.two w _ _ _ _).kept hb1
 obtain ⟨⟨ya,yb,-⟩,⟨yc,yd,ye,-⟩,-⟩:=hS.cells
 go_wp2_with fail
 refine (Range_ok E F B (unhide H0) HB _).mono ?_
 rintro e w2 ⟨rfl,hb2⟩
 replace hS:=hS.kept hb2
 clear ya yb yc yd ye
 obtain ⟨⟨yf,yg,-⟩,⟨yh,yi,yj,-⟩,-⟩:=hS.cells
 go_wp2_with fail
 refine (bits_k a n cap m k _ ((unhide H).kept hS.fr) (unhide HK)).mono ?_
 rintro e w3 ⟨rfl,hb3⟩
 replace hS:=hS.kept hb3
 clear yf yg yh yi yj
 obtain ⟨⟨yk,yl,-⟩,⟨ym,yn,yo,-⟩,-⟩:=hS.cells
 go_wp2_with fail
 refine (unhide HC _ ((unhide H).kept hS.fr)).mono ?_
 rintro e w4 ⟨rfl,hb4⟩
 replace hS:=hS.kept hb4
 clear yk yl ym yn yo
 obtain ⟨⟨yp,yq,-⟩,⟨yr,ys,yt,-⟩,-⟩:=hS.cells
 go_wp2_with fail
 refine (firstBit_k N kN t _ (by omega) (unhide HKN) hkN2 (by omega)).mono ?_
 rintro e w5 ⟨rfl,hb5⟩
 replace hS:=hS.kept hb5
 clear yp yq yr ys yt
 obtain ⟨⟨yu,yv,-⟩,⟨yw,yx,yy,-⟩,-⟩:=hS.cells
 go_wp2_with fail
 refine (unhide HO _).mono ?_
 rintro e w6 ⟨rfl,hb6⟩
 replace hS:=hS.kept hb6
 clear yu yv yw yx yy
 obtain ⟨⟨yz,y0,-⟩,⟨y1,y2,y3,-⟩,-⟩:=hS.cells
 go_wp2
 exact bodyPost_ret (v:=.tuple #[.int .u64 b,.int .u8 3,.int .i64 0]) (by simp [results,Tryz.results53,go_sem]) rfl ⟨rfl,hS.fr⟩
theorem rounded_whole (E F B mode:Nat) (ng:Bool) (s:Bool) (a:Option Addr) (n cap m k:Nat) (x t:Int) (N kN:Nat) (b st hd fr:Nat) (w:World) (h0:Fo E F) (HB:Hid (B = 2 ^ (E - 1) - 1)) (h:Num w a n m) (hn:0 < n) (hk:Bl m k) (hk2:k≤524288) (hx:-1073741824≤x∧x≤1073741824) (hat:max (1 - (B:Int) - (F:Int)) (x+(k:Int) - 1 - (F:Int)) = t) (HC:Hid (∀ W:World,Num W a n m→Calls Tryz.prog 87 #[.agg #[.bool s,.slice a n cap,.int .i64 x],.int .i64 t,.int .u8 (mode:Int)] W fun e w'=>e = .returned (.tuple #[.int .u64 N,.bool true])∧Below W.heap.size W w')) (hN:N < 9223372036854775808) (hkN:Bl N kN) (hkN2:kN≤64) (hov:(kN:Int) - 1+t≤(B:Int)) (HS9:Hid (t - (1 - (B:Int) - (F:Int)) = (st:Int))) (hst:st≤4096) (hN2:hd = N / 2 ^ F) (hhd:hd≤2) (hfr:fr = N - hd * 2 ^ F) (hB:Bt E F b s (st+hd) fr) :
  Calls Tryz.prog 53 #[.agg #[.int .i64 E,.int .i64 F],.agg #[.bool s,.slice a n cap,.int .i64 x],.bool ng,.int .u8 (mode:Int)] w fun e w'=>e = .returned (.tuple #[.int .u64 b,.int .u8 0,.int .i64 0])∧Below w.heap.size w w':=by
 have H0:=hide h0
 have H:=hide h
 have HK:=hide hk
 have HKN:=hide hkN
 have hBl:B≤1023:=B_le h0 HB
 have hF:=h0.f52
 have hF1:=h0.f1
 clear h0 h hk hkN
 have HBt:=hide hB
 have HN2:=hide hN2
 have HFR:=hide hfr
 clear hB hN2 hfr
 go_enter Tryz.func53,Tryz.ntmps53
 go_wp2_with fail
 refine (rnought_no a n cap hn _).mono ?_
 rintro e w1 ⟨rfl,hb1⟩
 have hS:=(Fs.two w _ _ _ _).kept hb1
 obtain ⟨⟨ya,yb,-⟩,⟨yc,yd,ye,-⟩,-⟩:=hS.cells
 go_wp2_with fail
 refine (Range_ok E F B (unhide H0) HB _).mono ?_
 rintro e w2 ⟨rfl,hb2⟩
 replace hS:=hS.kept hb2
 clear ya yb yc yd ye
 obtain ⟨⟨yf,yg,-⟩,⟨yh,yi,yj,-⟩,-⟩:=hS.cells
 go_wp2_with fail
 refine (bits_k a n cap m k _ ((unhide H).kept hS.fr) (unhide HK)).mono ?_
 rintro e w3 ⟨rfl,hb3⟩
 replace hS:=hS.kept hb3
 clear yf yg yh yi yj
 obtain ⟨⟨yk,yl,-⟩,⟨ym,yn,yo,-⟩,-⟩:=hS.cells
 go_wp2_with fail
 refine (unhide HC _ ((unhide H).kept hS.fr)).mono ?_
 rintro e w4 ⟨rfl,hb4⟩
 replace hS:=hS.kept hb4
 clear yk yl ym yn yo
 obtain ⟨⟨yp,yq,-⟩,⟨yr,ys,yt,-⟩,-⟩:=hS.cells
 go_wp2_with fail
 refine (firstBit_k N kN t _ (by omega) (unhide HKN) hkN2 (by omega)).mono ?_
 rintro e w5 ⟨rfl,hb5⟩
 replace hS:=hS.kept hb5
 clear yp yq yr ys yt
 obtain ⟨⟨yu,yv,-⟩,⟨yw,yx,yy,-⟩,-⟩:=hS.cells
 have e9:t - (1 - (B:Int) - (F:Int)) = (st:Int):=unhide HS9
 go_wp2_with fail
 refine wp_region_any (by kernel_rfl) ?_
 refine wpAny_det [some (102,.agg #[.int .i64 E,.int .i64 F]),some (103,.pointer (some ⟨w.heap.size+1,0,none⟩)),some (104,.bool s),some (105,.int .u64 N),some (106,.int .i64 t),some (107,.int .i64 (1 - (B:Int) - (F:Int))),some (108,.int .i64 st),some (109,.pointer (some ⟨w.heap.size,1,none⟩)),some (110,.int .i64 F),some (111,.agg #[.bool s,.int .i64 ((st:Int)+(hd:Int)),.int .u64 fr]),some (112,.tuple #[.int .u64 b,.int .i64 0]),some (101,.tuple #[.int .u64 b,.int .i64 0]),some (113,.int .u64 b),some (114,.int .i64 0),some (24,.int .u64 b),some (15,.int .i64 0)]
  (fun _ W9=>Fs w W9 [⟨w.heap.size,#[.int .i64 E,.int .i64 F],23⟩,⟨w.heap.size+1,#[.bool s,.slice a n cap,.int .i64 x],61⟩]) _ _ rfl (by kernel_rfl) rfl rfl ?_ ?_ (hS).drew
 ·intro l9 t9 W9 i9 hD hi9 hl9 hM
  obtain ⟨o9,ho9,hd9⟩:=(mem_ready.1 hi9).2
  have hin9:i9 < 16:=by
   by_cases h:i9 < 16
   ·exact h
   ·rw [Array.getElem?_eq_none (by rw [hD.len]; simp; omega)] at hl9; cases hl9
  have hcase:i9 = 0∨i9 = 1∨i9 = 2∨i9 = 3∨i9 = 4∨i9 = 5∨i9 = 6∨i9 = 7∨i9 = 8∨i9 = 9∨i9 = 10∨i9 = 11∨i9 = 12∨i9 = 13∨i9 = 14∨i9 = 15:=by omega
  clear hin9
  rcases hcase with rfl|rfl|rfl|rfl|rfl|rfl|rfl|rfl|rfl|rfl|rfl|rfl|rfl|rfl|rfl|rfl
  ·cases ho9
   have r4:=hD.old 4 _ rfl rfl
   have hM0:=hM
   have Q_:=hM0.cellAt (b:=w.heap.size) (cs:=#[.int .i64 E,.int .i64 F]) (t:=23) (by simp)
   have c9_0:=Q_ 0 _ rfl
   have c9_1:=Q_ 1 _ rfl
   clear Q_
   clear hM0
   refine wpOp_step rfl fun K hK=>?_
   go_simp
   exact hK _ _ ⟨rfl,hM⟩
  ·cases ho9
   have r5:=hD.old 5 _ rfl rfl
   refine wpOp_step rfl fun K hK=>?_
   go_simp
   exact hK _ _ ⟨rfl,hM⟩
  ·cases ho9
   have r103:=hD.od hd9 1 103 _ rfl (by simp)
   have hM0:=hM
   have c9_0:=hM0.cellAt (b:=w.heap.size+1) (cs:=#[.bool s,.slice a n cap,.int .i64 x]) (t:=61) (by simp) 0 _ rfl
   clear hM0
   refine wpOp_step rfl fun K hK=>?_
   go_simp
   exact hK _ _ ⟨rfl,hM⟩
  ·cases ho9
   have r19:=hD.old 19 _ rfl rfl
   refine wpOp_step rfl fun K hK=>?_
   go_simp
   exact hK _ _ ⟨rfl,hM⟩
  ·cases ho9
   have r18:=hD.old 18 _ rfl rfl
   refine wpOp_step rfl fun K hK=>?_
   go_simp
   exact hK _ _ ⟨rfl,hM⟩
  ·cases ho9
   have r13:=hD.old 13 _ rfl rfl
   refine wpOp_step rfl fun K hK=>?_
   go_simp
   exact hK _ _ ⟨rfl,hM⟩
  ·cases ho9
   have r106:=hD.od hd9 4 106 _ rfl (by simp)
   have r107:=hD.od hd9 5 107 _ rfl (by simp)
   refine wpOp_step rfl fun K hK=>?_
   go_simp
   exact hK _ _ ⟨act_eq (by (show Value.int _ _ = Value.int _ _; first|exact congrArg (Value.int .i64) e9|(congr 1; first|exact e9|(rw [IntKind.wrap_i64]; omega)))),hM⟩
  ·cases ho9
   have r4:=hD.old 4 _ rfl rfl
   refine wpOp_step rfl fun K hK=>?_
   go_simp
   exact hK _ _ ⟨rfl,hM⟩
  ·cases ho9
   have r109:=hD.od hd9 7 109 _ rfl (by simp)
   have hM0:=hM
   have c9_0:=hM0.cellAt (b:=w.heap.size) (cs:=#[.int .i64 E,.int .i64 F]) (t:=23) (by simp) 1 _ rfl
   clear hM0
   refine wpOp_step rfl fun K hK=>?_
   go_simp
   exact hK _ _ ⟨rfl,hM⟩
  ·cases ho9
   have r104:=hD.od hd9 2 104 _ rfl (by simp)
   have r105:=hD.od hd9 3 105 _ rfl (by simp)
   have r108:=hD.od hd9 6 108 _ rfl (by simp)
   have r110:=hD.od hd9 8 110 _ rfl (by simp)
   refine wpOp_step rfl fun K hK=>?_
   go_simp
   go_wp2_with fail
   refine (rfields_any s N st F hd fr _ hF hst hhd HN2 HFR hN).mono ?_
   rintro en w9 ⟨rfl,hb9⟩
   exact hK _ _ ⟨rfl,hM.kept hb9⟩
  ·cases ho9
   have r102:=hD.od hd9 0 102 _ rfl (by simp)
   have r111:=hD.od hd9 9 111 _ rfl (by simp)
   refine wpOp_step rfl fun K hK=>?_
   go_simp
   go_wp2_with fail
   refine (join_is E F b st hd fr s (unhide H0) (unhide HBt) _).mono ?_
   rintro en w9 ⟨rfl,hb9⟩
   exact hK _ _ ⟨rfl,hM.kept hb9⟩
  ·cases ho9
   have r112:=hD.od hd9 10 112 _ rfl (by simp)
   refine wpOp_step rfl fun K hK=>?_
   go_simp
   exact hK _ _ ⟨rfl,hM⟩
  ·cases ho9
   have r101:=hD.od hd9 11 101 _ rfl (by simp)
   refine wpOp_step rfl fun K hK=>?_
   go_simp
   exact hK _ _ ⟨rfl,hM⟩
  ·cases ho9
   have r101:=hD.od hd9 11 101 _ rfl (by simp)
   refine wpOp_step rfl fun K hK=>?_
   go_simp
   exact hK _ _ ⟨rfl,hM⟩
  ·cases ho9
   have r113:=hD.od hd9 12 113 _ rfl (by simp)
   refine wpOp_step rfl fun K hK=>?_
   go_simp
   exact hK _ _ ⟨rfl,hM⟩
  ·cases ho9
   have r114:=hD.od hd9 13 114 _ rfl (by simp)
   refine wpOp_step rfl fun K hK=>?_
   go_simp
   exact hK _ _ ⟨rfl,hM⟩
 ·intro l9 W9 hl9 hM
  clear hS yu yv yw yx yy
  have hS:=hM
  clear hM
  simp only [Puts.lay,List.setIfInBounds_toArray,List.set_cons_zero,List.set_cons_succ]
  obtain ⟨⟨yz,y0,-⟩,⟨y1,y2,y3,-⟩,-⟩:=hS.cells
  go_wp2
  exact bodyPost_ret (v:=.tuple #[.int .u64 b,.int .u8 0,.int .i64 0]) (by simp [results,Tryz.results53,go_sem]) rfl ⟨rfl,hS.fr⟩
theorem rounded_small (E F B mode:Nat) (ng:Bool) (s:Bool) (a:Option Addr) (n cap m k:Nat) (x t:Int) (N kN:Nat) (b st hd fr:Nat) (w:World) (h0:Fo E F) (HB:Hid (B = 2 ^ (E - 1) - 1)) (h:Num w a n m) (hn:0 < n) (hk:Bl m k) (hk2:k≤524288) (hx:-1073741824≤x∧x≤1073741824) (hat:max (1 - (B:Int) - (F:Int)) (x+(k:Int) - 1 - (F:Int)) = t) (HC:Hid (∀ W:World,Num W a n m→Calls Tryz.prog 87 #[.agg #[.bool s,.slice a n cap,.int .i64 x],.int .i64 t,.int .u8 (mode:Int)] W fun e w'=>e = .returned (.tuple #[.int .u64 N,.bool false])∧Below W.heap.size W w')) (hN:N < 9223372036854775808) (hkN:Bl N kN) (hkN2:kN≤64) (hov:(kN:Int) - 1+t≤(B:Int)) (HS9:Hid (t - (1 - (B:Int) - (F:Int)) = (st:Int))) (hst:st≤4096) (hN2:hd = N / 2 ^ F) (hhd:hd≤2) (hfr:fr = N - hd * 2 ^ F) (hB:Bt E F b s (st+hd) fr) (HM:Hid (∀ W:World,Num W a n m→Calls Tryz.prog 90 #[.agg #[.bool s,.slice a n cap,.int .i64 x],.int .i64 (x+(k:Int) - 1 - (F:Int)),.int .i64 (1 - (B:Int)),.int .u8 (mode:Int)] W fun e w'=>e = .returned (.bool true)∧Below W.heap.size W w')) :
  Calls Tryz.prog 53 #[.agg #[.int .i64 E,.int .i64 F],.agg #[.bool s,.slice a n cap,.int .i64 x],.bool ng,.int .u8 (mode:Int)] w fun e w'=>e = .returned (.tuple #[.int .u64 b,.int .u8 5,.int .i64 0])∧Below w.heap.size w w':=by
 have H0:=hide h0
 have H:=hide h
 have HK:=hide hk
 have HKN:=hide hkN
 have hBl:B≤1023:=B_le h0 HB
 have hF:=h0.f52
 have hF1:=h0.f1
 clear h0 h hk hkN
 have o1:bits BinOp.or .u8 0 1 = 1:=by decide
 have o2:bits BinOp.or .u8 1 4 = 5:=by decide
 have HBt:=hide hB
 have HN2:=hide hN2
 have HFR:=hide hfr
 clear hB hN2 hfr
 go_enter Tryz.func53,Tryz.ntmps53
 go_wp2_with fail
 refine (rnought_no a n cap hn _).mono ?_
 rintro e w1 ⟨rfl,hb1⟩
 have hS:=(Fs.two w _ _ _ _).kept hb1
 obtain ⟨⟨ya,yb,-⟩,⟨yc,yd,ye,-⟩,-⟩:=hS.cells
 go_wp2_with fail
 refine (Range_ok E F B (unhide H0) HB _).mono ?_
 rintro e w2 ⟨rfl,hb2⟩
 replace hS:=hS.kept hb2
 clear ya yb yc yd ye
 obtain ⟨⟨yf,yg,-⟩,⟨yh,yi,yj,-⟩,-⟩:=hS.cells
 go_wp2_with fail
 refine (bits_k a n cap m k _ ((unhide H).kept hS.fr) (unhide HK)).mono ?_
 rintro e w3 ⟨rfl,hb3⟩
 replace hS:=hS.kept hb3
 clear yf yg yh yi yj
 obtain ⟨⟨yk,yl,-⟩,⟨ym,yn,yo,-⟩,-⟩:=hS.cells
 go_wp2_with fail
 refine (unhide HC _ ((unhide H).kept hS.fr)).mono ?_
 rintro e w4 ⟨rfl,hb4⟩
 replace hS:=hS.kept hb4
 clear yk yl ym yn yo
 obtain ⟨⟨yp,yq,-⟩,⟨yr,ys,yt,-⟩,-⟩:=hS.cells
 go_wp2_with fail
 refine (firstBit_k N kN t _ (by omega) (unhide HKN) hkN2 (by omega)).mono ?_
 rintro e w5 ⟨rfl,hb5⟩
 replace hS:=hS.kept hb5
 clear yp yq yr ys yt
 obtain ⟨⟨yu,yv,-⟩,⟨yw,yx,yy,-⟩,-⟩:=hS.cells
 go_wp2_with fail
 refine (unhide HM _ ((unhide H).kept hS.fr)).mono ?_
 rintro e w6 ⟨rfl,hb6⟩
 replace hS:=hS.kept hb6
 clear yu yv yw yx yy
 obtain ⟨⟨yz,y0,-⟩,⟨y1,y2,y3,-⟩,-⟩:=hS.cells
 have e9:t - (1 - (B:Int) - (F:Int)) = (st:Int):=unhide HS9
 go_wp2_with fail
 refine wp_region_any (by kernel_rfl) ?_
 refine wpAny_det [some (102,.agg #[.int .i64 E,.int .i64 F]),some (103,.pointer (some ⟨w.heap.size+1,0,none⟩)),some (104,.bool s),some (105,.int .u64 N),some (106,.int .i64 t),some (107,.int .i64 (1 - (B:Int) - (F:Int))),some (108,.int .i64 st),some (109,.pointer (some ⟨w.heap.size,1,none⟩)),some (110,.int .i64 F),some (111,.agg #[.bool s,.int .i64 ((st:Int)+(hd:Int)),.int .u64 fr]),some (112,.tuple #[.int .u64 b,.int .i64 0]),some (101,.tuple #[.int .u64 b,.int .i64 0]),some (113,.int .u64 b),some (114,.int .i64 0),some (24,.int .u64 b),some (15,.int .i64 0)]
  (fun _ W9=>Fs w W9 [⟨w.heap.size,#[.int .i64 E,.int .i64 F],23⟩,⟨w.heap.size+1,#[.bool s,.slice a n cap,.int .i64 x],61⟩]) _ _ rfl (by kernel_rfl) rfl rfl ?_ ?_ (hS).drew
 ·intro l9 t9 W9 i9 hD hi9 hl9 hM
  obtain ⟨o9,ho9,hd9⟩:=(mem_ready.1 hi9).2
  have hin9:i9 < 16:=by
   by_cases h:i9 < 16
   ·exact h
   ·rw [Array.getElem?_eq_none (by rw [hD.len]; simp; omega)] at hl9; cases hl9
  have hcase:i9 = 0∨i9 = 1∨i9 = 2∨i9 = 3∨i9 = 4∨i9 = 5∨i9 = 6∨i9 = 7∨i9 = 8∨i9 = 9∨i9 = 10∨i9 = 11∨i9 = 12∨i9 = 13∨i9 = 14∨i9 = 15:=by omega
  clear hin9
  rcases hcase with rfl|rfl|rfl|rfl|rfl|rfl|rfl|rfl|rfl|rfl|rfl|rfl|rfl|rfl|rfl|rfl
  ·cases ho9
   have r4:=hD.old 4 _ rfl rfl
   have hM0:=hM
   have Q_:=hM0.cellAt (b:=w.heap.size) (cs:=#[.int .i64 E,.int .i64 F]) (t:=23) (by simp)
   have c9_0:=Q_ 0 _ rfl
   have c9_1:=Q_ 1 _ rfl
   clear Q_
   clear hM0
   refine wpOp_step rfl fun K hK=>?_
   go_simp
   exact hK _ _ ⟨rfl,hM⟩
  ·cases ho9
   have r5:=hD.old 5 _ rfl rfl
   refine wpOp_step rfl fun K hK=>?_
   go_simp
   exact hK _ _ ⟨rfl,hM⟩
  ·cases ho9
   have r103:=hD.od hd9 1 103 _ rfl (by simp)
   have hM0:=hM
   have c9_0:=hM0.cellAt (b:=w.heap.size+1) (cs:=#[.bool s,.slice a n cap,.int .i64 x]) (t:=61) (by simp) 0 _ rfl
   clear hM0
   refine wpOp_step rfl fun K hK=>?_
   go_simp
   exact hK _ _ ⟨rfl,hM⟩
  ·cases ho9
   have r19:=hD.old 19 _ rfl rfl
   refine wpOp_step rfl fun K hK=>?_
   go_simp
   exact hK _ _ ⟨rfl,hM⟩
  ·cases ho9
   have r18:=hD.old 18 _ rfl rfl
   refine wpOp_step rfl fun K hK=>?_
   go_simp
   exact hK _ _ ⟨rfl,hM⟩
  ·cases ho9
   have r13:=hD.old 13 _ rfl rfl
   refine wpOp_step rfl fun K hK=>?_
   go_simp
   exact hK _ _ ⟨rfl,hM⟩
  ·cases ho9
   have r106:=hD.od hd9 4 106 _ rfl (by simp)
   have r107:=hD.od hd9 5 107 _ rfl (by simp)
   refine wpOp_step rfl fun K hK=>?_
   go_simp
   exact hK _ _ ⟨act_eq (by (show Value.int _ _ = Value.int _ _; first|exact congrArg (Value.int .i64) e9|(congr 1; first|exact e9|(rw [IntKind.wrap_i64]; omega)))),hM⟩
  ·cases ho9
   have r4:=hD.old 4 _ rfl rfl
   refine wpOp_step rfl fun K hK=>?_
   go_simp
   exact hK _ _ ⟨rfl,hM⟩
  ·cases ho9
   have r109:=hD.od hd9 7 109 _ rfl (by simp)
   have hM0:=hM
   have c9_0:=hM0.cellAt (b:=w.heap.size) (cs:=#[.int .i64 E,.int .i64 F]) (t:=23) (by simp) 1 _ rfl
   clear hM0
   refine wpOp_step rfl fun K hK=>?_
   go_simp
   exact hK _ _ ⟨rfl,hM⟩
  ·cases ho9
   have r104:=hD.od hd9 2 104 _ rfl (by simp)
   have r105:=hD.od hd9 3 105 _ rfl (by simp)
   have r108:=hD.od hd9 6 108 _ rfl (by simp)
   have r110:=hD.od hd9 8 110 _ rfl (by simp)
   refine wpOp_step rfl fun K hK=>?_
   go_simp
   go_wp2_with fail
   refine (rfields_any s N st F hd fr _ hF hst hhd HN2 HFR hN).mono ?_
   rintro en w9 ⟨rfl,hb9⟩
   exact hK _ _ ⟨rfl,hM.kept hb9⟩
  ·cases ho9
   have r102:=hD.od hd9 0 102 _ rfl (by simp)
   have r111:=hD.od hd9 9 111 _ rfl (by simp)
   refine wpOp_step rfl fun K hK=>?_
   go_simp
   go_wp2_with fail
   refine (join_is E F b st hd fr s (unhide H0) (unhide HBt) _).mono ?_
   rintro en w9 ⟨rfl,hb9⟩
   exact hK _ _ ⟨rfl,hM.kept hb9⟩
  ·cases ho9
   have r112:=hD.od hd9 10 112 _ rfl (by simp)
   refine wpOp_step rfl fun K hK=>?_
   go_simp
   exact hK _ _ ⟨rfl,hM⟩
  ·cases ho9
   have r101:=hD.od hd9 11 101 _ rfl (by simp)
   refine wpOp_step rfl fun K hK=>?_
   go_simp
   exact hK _ _ ⟨rfl,hM⟩
  ·cases ho9
   have r101:=hD.od hd9 11 101 _ rfl (by simp)
   refine wpOp_step rfl fun K hK=>?_
   go_simp
   exact hK _ _ ⟨rfl,hM⟩
  ·cases ho9
   have r113:=hD.od hd9 12 113 _ rfl (by simp)
   refine wpOp_step rfl fun K hK=>?_
   go_simp
   exact hK _ _ ⟨rfl,hM⟩
  ·cases ho9
   have r114:=hD.od hd9 13 114 _ rfl (by simp)
   refine wpOp_step rfl fun K hK=>?_
   go_simp
   exact hK _ _ ⟨rfl,hM⟩
 ·intro l9 W9 hl9 hM
  clear hS yz y0 y1 y2 y3
  have hS:=hM
  clear hM
  simp only [Puts.lay,List.setIfInBounds_toArray,List.set_cons_zero,List.set_cons_succ]
  obtain ⟨⟨y4,y5,-⟩,⟨y6,y7,y8,-⟩,-⟩:=hS.cells
  go_wp2
  exact bodyPost_ret (v:=.tuple #[.int .u64 b,.int .u8 5,.int .i64 0]) (by simp [results,Tryz.results53,go_sem]) rfl ⟨rfl,hS.fr⟩
theorem rounded_plain (E F B mode:Nat) (ng:Bool) (s:Bool) (a:Option Addr) (n cap m k:Nat) (x t:Int) (N kN:Nat) (b st hd fr:Nat) (w:World) (h0:Fo E F) (HB:Hid (B = 2 ^ (E - 1) - 1)) (h:Num w a n m) (hn:0 < n) (hk:Bl m k) (hk2:k≤524288) (hx:-1073741824≤x∧x≤1073741824) (hat:max (1 - (B:Int) - (F:Int)) (x+(k:Int) - 1 - (F:Int)) = t) (HC:Hid (∀ W:World,Num W a n m→Calls Tryz.prog 87 #[.agg #[.bool s,.slice a n cap,.int .i64 x],.int .i64 t,.int .u8 (mode:Int)] W fun e w'=>e = .returned (.tuple #[.int .u64 N,.bool false])∧Below W.heap.size W w')) (hN:N < 9223372036854775808) (hkN:Bl N kN) (hkN2:kN≤64) (hov:(kN:Int) - 1+t≤(B:Int)) (HS9:Hid (t - (1 - (B:Int) - (F:Int)) = (st:Int))) (hst:st≤4096) (hN2:hd = N / 2 ^ F) (hhd:hd≤2) (hfr:fr = N - hd * 2 ^ F) (hB:Bt E F b s (st+hd) fr) (HM:Hid (∀ W:World,Num W a n m→Calls Tryz.prog 90 #[.agg #[.bool s,.slice a n cap,.int .i64 x],.int .i64 (x+(k:Int) - 1 - (F:Int)),.int .i64 (1 - (B:Int)),.int .u8 (mode:Int)] W fun e w'=>e = .returned (.bool false)∧Below W.heap.size W w')) :
  Calls Tryz.prog 53 #[.agg #[.int .i64 E,.int .i64 F],.agg #[.bool s,.slice a n cap,.int .i64 x],.bool ng,.int .u8 (mode:Int)] w fun e w'=>e = .returned (.tuple #[.int .u64 b,.int .u8 1,.int .i64 0])∧Below w.heap.size w w':=by
 have H0:=hide h0
 have H:=hide h
 have HK:=hide hk
 have HKN:=hide hkN
 have hBl:B≤1023:=B_le h0 HB
 have hF:=h0.f52
 have hF1:=h0.f1
 clear h0 h hk hkN
 have o1:bits BinOp.or .u8 0 1 = 1:=by decide
 have o2:bits BinOp.or .u8 1 4 = 5:=by decide
 have HBt:=hide hB
 have HN2:=hide hN2
 have HFR:=hide hfr
 clear hB hN2 hfr
 go_enter Tryz.func53,Tryz.ntmps53
 go_wp2_with fail
 refine (rnought_no a n cap hn _).mono ?_
 rintro e w1 ⟨rfl,hb1⟩
 have hS:=(Fs.two w _ _ _ _).kept hb1
 obtain ⟨⟨ya,yb,-⟩,⟨yc,yd,ye,-⟩,-⟩:=hS.cells
 go_wp2_with fail
 refine (Range_ok E F B (unhide H0) HB _).mono ?_
 rintro e w2 ⟨rfl,hb2⟩
 replace hS:=hS.kept hb2
 clear ya yb yc yd ye
 obtain ⟨⟨yf,yg,-⟩,⟨yh,yi,yj,-⟩,-⟩:=hS.cells
 go_wp2_with fail
 refine (bits_k a n cap m k _ ((unhide H).kept hS.fr) (unhide HK)).mono ?_
 rintro e w3 ⟨rfl,hb3⟩
 replace hS:=hS.kept hb3
 clear yf yg yh yi yj
 obtain ⟨⟨yk,yl,-⟩,⟨ym,yn,yo,-⟩,-⟩:=hS.cells
 go_wp2_with fail
 refine (unhide HC _ ((unhide H).kept hS.fr)).mono ?_
 rintro e w4 ⟨rfl,hb4⟩
 replace hS:=hS.kept hb4
 clear yk yl ym yn yo
 obtain ⟨⟨yp,yq,-⟩,⟨yr,ys,yt,-⟩,-⟩:=hS.cells
 go_wp2_with fail
 refine (firstBit_k N kN t _ (by omega) (unhide HKN) hkN2 (by omega)).mono ?_
 rintro e w5 ⟨rfl,hb5⟩
 replace hS:=hS.kept hb5
 clear yp yq yr ys yt
 obtain ⟨⟨yu,yv,-⟩,⟨yw,yx,yy,-⟩,-⟩:=hS.cells
 go_wp2_with fail
 refine (unhide HM _ ((unhide H).kept hS.fr)).mono ?_
 rintro e w6 ⟨rfl,hb6⟩
 replace hS:=hS.kept hb6
 clear yu yv yw yx yy
 obtain ⟨⟨yz,y0,-⟩,⟨y1,y2,y3,-⟩,-⟩:=hS.cells
 have e9:t - (1 - (B:Int) - (F:Int)) = (st:Int):=unhide HS9
 go_wp2_with fail
 refine wp_region_any (by kernel_rfl) ?_
 refine wpAny_det [some (102,.agg #[.int .i64 E,.int .i64 F]),some (103,.pointer (some ⟨w.heap.size+1,0,none⟩)),some (104,.bool s),some (105,.int .u64 N),some (106,.int .i64 t),some (107,.int .i64 (1 - (B:Int) - (F:Int))),some (108,.int .i64 st),some (109,.pointer (some ⟨w.heap.size,1,none⟩)),some (110,.int .i64 F),some (111,.agg #[.bool s,.int .i64 ((st:Int)+(hd:Int)),.int .u64 fr]),some (112,.tuple #[.int .u64 b,.int .i64 0]),some (101,.tuple #[.int .u64 b,.int .i64 0]),some (113,.int .u64 b),some (114,.int .i64 0),some (24,.int .u64 b),some (15,.int .i64 0)]
  (fun _ W9=>Fs w W9 [⟨w.heap.size,#[.int .i64 E,.int .i64 F],23⟩,⟨w.heap.size+1,#[.bool s,.slice a n cap,.int .i64 x],61⟩]) _ _ rfl (by kernel_rfl) rfl rfl ?_ ?_ (hS).drew
 ·intro l9 t9 W9 i9 hD hi9 hl9 hM
  obtain ⟨o9,ho9,hd9⟩:=(mem_ready.1 hi9).2
  have hin9:i9 < 16:=by
   by_cases h:i9 < 16
   ·exact h
   ·rw [Array.getElem?_eq_none (by rw [hD.len]; simp; omega)] at hl9; cases hl9
  have hcase:i9 = 0∨i9 = 1∨i9 = 2∨i9 = 3∨i9 = 4∨i9 = 5∨i9 = 6∨i9 = 7∨i9 = 8∨i9 = 9∨i9 = 10∨i9 = 11∨i9 = 12∨i9 = 13∨i9 = 14∨i9 = 15:=by omega
  clear hin9
  rcases hcase with rfl|rfl|rfl|rfl|rfl|rfl|rfl|rfl|rfl|rfl|rfl|rfl|rfl|rfl|rfl|rfl
  ·cases ho9
   have r4:=hD.old 4 _ rfl rfl
   have hM0:=hM
   have Q_:=hM0.cellAt (b:=w.heap.size) (cs:=#[.int .i64 E,.int .i64 F]) (t:=23) (by simp)
   have c9_0:=Q_ 0 _ rfl
   have c9_1:=Q_ 1 _ rfl
   clear Q_
   clear hM0
   refine wpOp_step rfl fun K hK=>?_
   go_simp
   exact hK _ _ ⟨rfl,hM⟩
  ·cases ho9
   have r5:=hD.old 5 _ rfl rfl
   refine wpOp_step rfl fun K hK=>?_
   go_simp
   exact hK _ _ ⟨rfl,hM⟩
  ·cases ho9
   have r103:=hD.od hd9 1 103 _ rfl (by simp)
   have hM0:=hM
   have c9_0:=hM0.cellAt (b:=w.heap.size+1) (cs:=#[.bool s,.slice a n cap,.int .i64 x]) (t:=61) (by simp) 0 _ rfl
   clear hM0
   refine wpOp_step rfl fun K hK=>?_
   go_simp
   exact hK _ _ ⟨rfl,hM⟩
  ·cases ho9
   have r19:=hD.old 19 _ rfl rfl
   refine wpOp_step rfl fun K hK=>?_
   go_simp
   exact hK _ _ ⟨rfl,hM⟩
  ·cases ho9
   have r18:=hD.old 18 _ rfl rfl
   refine wpOp_step rfl fun K hK=>?_
   go_simp
   exact hK _ _ ⟨rfl,hM⟩
  ·cases ho9
   have r13:=hD.old 13 _ rfl rfl
   refine wpOp_step rfl fun K hK=>?_
   go_simp
   exact hK _ _ ⟨rfl,hM⟩
  ·cases ho9
   have r106:=hD.od hd9 4 106 _ rfl (by simp)
   have r107:=hD.od hd9 5 107 _ rfl (by simp)
   refine wpOp_step rfl fun K hK=>?_
   go_simp
   exact hK _ _ ⟨act_eq (by (show Value.int _ _ = Value.int _ _; first|exact congrArg (Value.int .i64) e9|(congr 1; first|exact e9|(rw [IntKind.wrap_i64]; omega)))),hM⟩
  ·cases ho9
   have r4:=hD.old 4 _ rfl rfl
   refine wpOp_step rfl fun K hK=>?_
   go_simp
   exact hK _ _ ⟨rfl,hM⟩
  ·cases ho9
   have r109:=hD.od hd9 7 109 _ rfl (by simp)
   have hM0:=hM
   have c9_0:=hM0.cellAt (b:=w.heap.size) (cs:=#[.int .i64 E,.int .i64 F]) (t:=23) (by simp) 1 _ rfl
   clear hM0
   refine wpOp_step rfl fun K hK=>?_
   go_simp
   exact hK _ _ ⟨rfl,hM⟩
  ·cases ho9
   have r104:=hD.od hd9 2 104 _ rfl (by simp)
   have r105:=hD.od hd9 3 105 _ rfl (by simp)
   have r108:=hD.od hd9 6 108 _ rfl (by simp)
   have r110:=hD.od hd9 8 110 _ rfl (by simp)
   refine wpOp_step rfl fun K hK=>?_
   go_simp
   go_wp2_with fail
   refine (rfields_any s N st F hd fr _ hF hst hhd HN2 HFR hN).mono ?_
   rintro en w9 ⟨rfl,hb9⟩
   exact hK _ _ ⟨rfl,hM.kept hb9⟩
  ·cases ho9
   have r102:=hD.od hd9 0 102 _ rfl (by simp)
   have r111:=hD.od hd9 9 111 _ rfl (by simp)
   refine wpOp_step rfl fun K hK=>?_
   go_simp
   go_wp2_with fail
   refine (join_is E F b st hd fr s (unhide H0) (unhide HBt) _).mono ?_
   rintro en w9 ⟨rfl,hb9⟩
   exact hK _ _ ⟨rfl,hM.kept hb9⟩
  ·cases ho9
   have r112:=hD.od hd9 10 112 _ rfl (by simp)
   refine wpOp_step rfl fun K hK=>?_
   go_simp
   exact hK _ _ ⟨rfl,hM⟩
  ·cases ho9
   have r101:=hD.od hd9 11 101 _ rfl (by simp)
   refine wpOp_step rfl fun K hK=>?_
   go_simp
   exact hK _ _ ⟨rfl,hM⟩
  ·cases ho9
   have r101:=hD.od hd9 11 101 _ rfl (by simp)
   refine wpOp_step rfl fun K hK=>?_
   go_simp
   exact hK _ _ ⟨rfl,hM⟩
  ·cases ho9
   have r113:=hD.od hd9 12 113 _ rfl (by simp)
   refine wpOp_step rfl fun K hK=>?_
   go_simp
   exact hK _ _ ⟨rfl,hM⟩
  ·cases ho9
   have r114:=hD.od hd9 13 114 _ rfl (by simp)
   refine wpOp_step rfl fun K hK=>?_
   go_simp
   exact hK _ _ ⟨rfl,hM⟩
 ·intro l9 W9 hl9 hM
  clear hS yz y0 y1 y2 y3
  have hS:=hM
  clear hM
  simp only [Puts.lay,List.setIfInBounds_toArray,List.set_cons_zero,List.set_cons_succ]
  obtain ⟨⟨y4,y5,-⟩,⟨y6,y7,y8,-⟩,-⟩:=hS.cells
  go_wp2
  exact bodyPost_ret (v:=.tuple #[.int .u64 b,.int .u8 1,.int .i64 0]) (by simp [results,Tryz.results53,go_sem]) rfl ⟨rfl,hS.fr⟩
theorem setCell_stillz {W:World} {b j:Nat} {cs:Array Value} {t:TypeId} {u:Value} (hb:W.heap[b]? = some (.cells cs t (0,0))) (hc:cs[j]? = some u):W.setCell ⟨b,j,none⟩ u = W:=by
 have he:(W.setCell ⟨b,j,none⟩ u).heap = W.heap:=by
  apply Array.ext_getElem?
  intro k
  by_cases hk:k = b
  ·subst hk
   rw [heap_setCell_same W k j _ _ _ hb,hb]
   congr 2
   apply Array.ext_getElem?
   intro i
   by_cases hi:i = j
   ·subst hi
    obtain ⟨hlt,_⟩:=Array.getElem?_eq_some_iff.1 hc
    rw [hc]; simp [hlt]
   ·rw [Array.getElem?_setIfInBounds_ne (Ne.symm hi)]
  ·rw [heap_setCell_other W _ k u hk]
 have:W.setCell ⟨b,j,none⟩ u = { W with heap:=(W.setCell ⟨b,j,none⟩ u).heap }:=rfl
 rw [this,he]
def Rz (w:World) (p k:Nat):Prop:=∃ cs t,w.heap[p]? = some (.cells cs t (0,0))∧cs[k]? = some (.int .i64 0)
theorem Rz.kept {w w':World} {p k:Nat} (h:Rz w p k) (hb:Below w.heap.size w w'):Rz w' p k:=by
 obtain ⟨cs,t,h1,h2⟩:=h
 exact ⟨cs,t,by rw [hb.block _ (block_lt h1)]; exact h1,h2⟩
theorem Rz.cell {w:World} {p k:Nat} (h:Rz w p k):w.cell? ⟨p,k,none⟩ = some (.int .i64 0)∧w.frozen? ⟨p,k,none⟩ = false:=by
 obtain ⟨cs,t,h1,h2⟩:=h
 exact ⟨by rw [cell_of_row w p k _ _ _ h1]; exact h2,frozen_of_row w p k _ _ h1⟩
theorem Rz.still {w:World} {p k:Nat} (h:Rz w p k):w.setCell ⟨p,k,none⟩ (.int .i64 0) = w:=by
 obtain ⟨cs,t,h1,h2⟩:=h
 exact setCell_stillz h1 h2
theorem keep_z (p k:Nat) (w:World) (h:Rz w p k) :
  Calls Tryz.prog 38 #[.pointer (some ⟨p,k,none⟩),.int .i64 0] w fun en w'=>en = .returned (.tuple #[])∧Below w.heap.size w w':=by
 obtain ⟨h1,h2⟩:=h.cell
 have h3:=h.still
 go_enter Tryz.func38,Tryz.ntmps38
 go_wp2
 go_end0
 exact ⟨rfl,Below.refl _ _⟩
theorem runNat_z (p k:Nat) (a:Option Addr) (n cap:Nat) (w:World) (h:Rz w p k) :
  Calls Tryz.prog 40 #[.pointer (some ⟨p,k,none⟩),.agg #[.slice a n cap],.int .i64 0] w fun e w'=>e = .returned (.agg #[.slice a n cap])∧Below w.heap.size w w':=by
 have H:=hide h
 clear h
 go_enter Tryz.func40,Tryz.ntmps40
 go_wp2_with fail
 refine (keep_z p k _ ((unhide H).kept (Fs.two w _ _ _ _).fr)).mono ?_
 rintro e w1 ⟨rfl,hb1⟩
 have hS:=(Fs.two w _ _ _ _).kept hb1
 obtain ⟨⟨ya,-⟩,⟨yb,-⟩,-⟩:=hS.cells
 have fz0:=hS.frozen (b:=w.heap.size+1) (cs:=#[.slice none 0 0]) (t:=26) (by simp) 0
 go_wp2
 exact bodyPost_ret (v:=.agg #[.slice a n cap]) (by simp [results,Tryz.results40,go_sem,yb]) rfl ⟨rfl,(hS.fr.setCell (by simp <;> omega) _)⟩
theorem runLess_z (p k:Nat) (a:Option Addr) (n cap:Nat) (t:Bool) (w:World) (h:Rz w p k) :
  Calls Tryz.prog 35 #[.pointer (some ⟨p,k,none⟩),.agg #[.slice a n cap],.bool t,.int .i64 0] w fun e w'=>e = .returned (.agg #[.slice a n cap])∧Below w.heap.size w w':=by
 have H:=hide h
 clear h
 go_enter Tryz.func35,Tryz.ntmps35
 go_wp2_with fail
 refine (keep_z p k _ ((unhide H).kept (Fs.two w _ _ _ _).fr)).mono ?_
 rintro e w1 ⟨rfl,hb1⟩
 have hS:=(Fs.two w _ _ _ _).kept hb1
 obtain ⟨⟨ya,-⟩,⟨yb,-⟩,-⟩:=hS.cells
 have fz0:=hS.frozen (b:=w.heap.size+1) (cs:=#[.slice none 0 0]) (t:=26) (by simp) 0
 go_wp2
 exact bodyPost_ret (v:=.agg #[.slice a n cap]) (by simp [results,Tryz.results35,go_sem,yb]) rfl ⟨rfl,(hS.fr.setCell (by simp <;> omega) _)⟩
theorem runInt_z (p k:Nat) (c:Int) (w:World) (h:Rz w p k) :
  Calls Tryz.prog 33 #[.pointer (some ⟨p,k,none⟩),.int .i64 c,.int .i64 0] w fun e w'=>e = .returned (.int .i64 c)∧Below w.heap.size w w':=by
 have H:=hide h
 clear h
 go_enter Tryz.func33,Tryz.ntmps33
 go_wp2_with fail
 refine (keep_z p k _ (unhide H)).mono ?_
 rintro e w1 ⟨rfl,hb1⟩
 have hS:=(Fs.begin w).kept hb1
 go_wp2
 go_ret
 exact ⟨rfl,hS.fr⟩
theorem runNats_z (p k:Nat) (a:Option Addr) (n cap:Nat) (a':Option Addr) (n' cap':Nat) (w:World) (h:Rz w p k) :
  Calls Tryz.prog 30 #[.pointer (some ⟨p,k,none⟩),.agg #[.slice a n cap],.agg #[.slice a' n' cap'],.int .i64 0] w fun e w'=>e = .returned (.tuple #[.agg #[.slice a n cap],.agg #[.slice a' n' cap']])∧Below w.heap.size w w':=by
 have H:=hide h
 clear h
 go_enter Tryz.func30,Tryz.ntmps30
 go_wp2_with fail
 have hS:=(Fs.three w #[.slice a n cap] 26 #[.slice a' n' cap'] 26 #[.slice none 0 0] 26).alloc #[.slice none 0 0] 26
 simp only [World.size_alloc] at hS
 refine (keep_z p k _ ((unhide H).kept hS.fr)).mono ?_
 rintro e w1 ⟨rfl,hb1⟩
 replace hS:=hS.kept hb1
 obtain ⟨⟨ya,-⟩,⟨yb,-⟩,⟨yc,-⟩,⟨yd,-⟩,-⟩:=hS.cells
 have fy0:=hS.frozen (b:=w.heap.size+2) (cs:=#[.slice none 0 0]) (t:=26) (by simp) 0
 have fz0:=hS.frozen (b:=w.heap.size+3) (cs:=#[.slice none 0 0]) (t:=26) (by simp) 0
 go_wp2
 go_region
 go_wp2
 exact bodyPost_ret (v:=.tuple #[.agg #[.slice a n cap],.agg #[.slice a' n' cap']]) (by simp [results,Tryz.results30,go_sem,ya,yd]) rfl ⟨rfl,((hS.fr.setCell (show w.heap.size≤w.heap.size+1+1 by omega) _).setCell (show w.heap.size≤w.heap.size+1+1+1 by omega) _).drew⟩
end Go.Proofs.YtfjegmlpkiaifaaGreatDoor
