/- Of what DigitsSureRow stands on: RdCut. -/
import Derived.Test.YteafdlblemdclaaGreatDoorPab
import Derived.Test.YteafdlblemdclaaGreatDoorPar
import Derived.Test.YteafdlblemdclaaGreatDoorPax
namespace Go.Proofs.YteafdlblemdclaaGreatDoor
open Go.RowKit
set_option maxHeartbeats 400000
def ahf (m dr:Nat):Int:=if m / 2 ^ (dr - 1) % 2 = 1 then (if dr = 1 then 0 else 1) else -1
theorem ahf_three (m dr:Nat):ahf m dr = -1∨ahf m dr = 0∨ahf m dr = 1:=by
 unfold ahf; split
 ·split <;> simp
 ·simp
def cutN (mode:Nat) (s:Bool) (m dr:Nat):Nat:=m / 2 ^ dr+(if fth mode s (decide (m / 2 ^ dr % 2 = 1)) (ahf m dr) then 1 else 0)
theorem bit_yes (a:Option Addr) (n cap m k:Nat) (w:World) (h:Num w a n m) (hk:k < 9223372036854775808) (hb:m / 2 ^ k % 2 = 1) :
  Calls Tryz.prog 62 #[.agg #[.slice a n cap],.int .i64 (k:Int)] w fun e w'=>e = .returned (.tuple #[.bool true,.int .i64 0])∧Below w.heap.size w w':=by
 have:=bit_any a n cap m k w h hk
 rw [decide_eq_true hb] at this
 exact this
theorem bit_no (a:Option Addr) (n cap m k:Nat) (w:World) (h:Num w a n m) (hk:k < 9223372036854775808) (hb:¬ m / 2 ^ k % 2 = 1) :
  Calls Tryz.prog 62 #[.agg #[.slice a n cap],.int .i64 (k:Int)] w fun e w'=>e = .returned (.tuple #[.bool false,.int .i64 0])∧Below w.heap.size w w':=by
 have:=bit_any a n cap m k w h hk
 rw [decide_eq_false hb] at this
 exact this
theorem ahalf_no (a:Option Addr) (n cap m j:Nat) (w:World) (h:Num w a n m) (hjj:j < 4611686018427387904) (hb:¬ m / 2 ^ j % 2 = 1) :
  Calls Tryz.prog 167 #[.agg #[.slice a n cap],.int .i64 ((j:Int)+1)] w fun e w'=>e = .returned (.int .i64 (-1))∧Below w.heap.size w w':=by
 have H:=hide h
 have HB:=hide hb
 have e1:(j:Int)+1 - 1 = (j:Int):=by omega
 clear h hb
 go_enter Tryz.func167,Tryz.ntmps167
 go_wp2_with fail
 refine (bit_no a n cap m j _ ((unhide H).kept (gr_alloc _ _)) (by omega) (unhide HB)).mono ?_
 rintro e w1 ⟨rfl,hb1⟩
 have hS:=(Fs.one w _ _).kept hb1
 obtain ⟨⟨ya,-⟩,-⟩:=hS.cells
 go_wp2
 go_ret
 exact ⟨rfl,hS.fr⟩
theorem ahalf_yes (a:Option Addr) (n cap m j:Nat) (w:World) (h:Num w a n m) (hjj:j < 4611686018427387904) (hb:m / 2 ^ j % 2 = 1) (hj:0 < j) :
  Calls Tryz.prog 167 #[.agg #[.slice a n cap],.int .i64 ((j:Int)+1)] w fun e w'=>e = .returned (.int .i64 1)∧Below w.heap.size w w':=by
 have H:=hide h
 have HB:=hide hb
 have e1:(j:Int)+1 - 1 = (j:Int):=by omega
 clear h hb
 go_enter Tryz.func167,Tryz.ntmps167
 go_wp2_with fail
 refine (bit_yes a n cap m j _ ((unhide H).kept (gr_alloc _ _)) (by omega) (unhide HB)).mono ?_
 rintro e w1 ⟨rfl,hb1⟩
 have hS:=(Fs.one w _ _).kept hb1
 obtain ⟨⟨ya,-⟩,-⟩:=hS.cells
 have e2:((j:Int)+1 == 1) = false:=by simp; omega
 go_wp2
 go_ret
 exact ⟨rfl,hS.fr⟩
theorem ahalf_one (a:Option Addr) (n cap m:Nat) (w:World) (h:Num w a n m) (hb:m / 2 ^ 0 % 2 = 1) :
  Calls Tryz.prog 167 #[.agg #[.slice a n cap],.int .i64 1] w fun e w'=>e = .returned (.int .i64 0)∧Below w.heap.size w w':=by
 have H:=hide h
 have HB:=hide hb
 clear h hb
 go_enter Tryz.func167,Tryz.ntmps167
 go_wp2_with fail
 refine (bit_yes a n cap m 0 _ ((unhide H).kept (gr_alloc _ _)) (by omega) (unhide HB)).mono ?_
 rintro e w1 ⟨rfl,hb1⟩
 have hS:=(Fs.one w _ _).kept hb1
 obtain ⟨⟨ya,-⟩,-⟩:=hS.cells
 go_wp2
 go_ret
 exact ⟨rfl,hS.fr⟩
theorem ahalf_any (a:Option Addr) (n cap m dr:Nat) (w:World) (h:Num w a n m) (h1:1≤dr) (h2:dr < 4611686018427387904) :
  Calls Tryz.prog 167 #[.agg #[.slice a n cap],.int .i64 (dr:Int)] w fun e w'=>e = .returned (.int .i64 (ahf m dr))∧Below w.heap.size w w':=by
 obtain ⟨j,rfl⟩:∃ j,dr = j+1:=⟨dr - 1,by omega⟩
 have e1:((j+1:Nat):Int) = (j:Int)+1:=by omega
 rw [e1]
 unfold ahf
 rw [show j+1 - 1 = j from by omega]
 by_cases hb:m / 2 ^ j % 2 = 1
 ·rw [if_pos hb]
  by_cases hj:j = 0
  ·subst hj
   rw [if_pos rfl]
   exact ahalf_one a n cap m w h hb
  ·rw [if_neg (by omega)]
   exact ahalf_yes a n cap m j w h (by omega) hb (by omega)
 ·rw [if_neg hb]
  exact ahalf_no a n cap m j w h (by omega) hb
theorem num_le2 {w:World} {a:Option Addr} {n m:Nat} (h:Num w a n m) (hm:m < 18446744073709551616):n≤2:=by
 obtain ⟨xs,hn,hl,hw,hN,hv,hb⟩:=h
 refine Nat.le_of_not_lt fun h3=>?_
 have h4:=Pl.norm_lower hN (by omega:0 < xs.length)
 rw [hv,hn] at h4
 have h5:4294967296 ^ 2≤4294967296 ^ (n - 1):=Nat.pow_le_pow_right (by decide) (by omega)
 omega
theorem cut_whole (s:Bool) (a:Option Addr) (n cap m j mode:Nat) (x:Int) (w:World) (h:Num w a n m) (hj:j < 64) (hm:m < 18446744073709551616) (hp:m * 2 ^ j < 18446744073709551616) :
  Calls Tryz.prog 143 #[.agg #[.bool s,.slice a n cap,.int .i64 x],.int .i64 (x - (j:Int)),.int .u8 (mode:Int)] w fun e w'=>e = .returned (.tuple #[.int .u64 ((m * 2 ^ j:Nat):Int),.bool true])∧Below w.heap.size w w':=by
 have H:=hide h
 have hn2:=num_le2 h hm
 have hj1:x - (j:Int) - x = -(j:Int):=by omega
 have e2:(-(j:Int)≤0):=by omega
 have e3:-(-(j:Int)) = (j:Int):=by omega
 have e4:IntKind.u64.wrap ((m:Int) * 2 ^ j) = ((m * 2 ^ j:Nat):Int):=by
  rw [show ((m:Int) * 2 ^ j) = ((m * 2 ^ j:Nat):Int) from by simp,IntKind.wrap_u64]; omega
 clear h
 go_enter Tryz.func143,Tryz.ntmps143
 go_wp2_with fail
 refine (low_small a n cap m _ ((unhide H).kept (gr_alloc _ _)) hn2).mono ?_
 rintro e w1 ⟨rfl,hb1⟩
 have hS:=(Fs.one w _ _).kept hb1
 obtain ⟨⟨ya,yb,yc,-⟩,-⟩:=hS.cells
 go_wp2
 exact bodyPost_ret (v:=.tuple #[.int .u64 ((m * 2 ^ j:Nat):Int),.bool true]) (by simp [results,Tryz.results143,go_sem]) rfl ⟨rfl,hS.fr⟩
end Go.Proofs.YteafdlblemdclaaGreatDoor
