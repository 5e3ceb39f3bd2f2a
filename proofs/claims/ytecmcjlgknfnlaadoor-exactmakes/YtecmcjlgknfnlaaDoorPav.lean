/- Of what ExactMakesRow stands on: ExMul ExValue ExWo ExRMake. -/
import Derived.Test.YtecmcjlgknfnlaaDoorPar
import Derived.Test.YtecmcjlgknfnlaaDoorPas
import Derived.Test.YtecmcjlgknfnlaaDoorPag
import Derived.Test.YtecmcjlgknfnlaaDoorPao
import Derived.Test.YtecmcjlgknfnlaaDoorPaq
namespace Go.Proofs.YtecmcjlgknfnlaaDoor
open Go.RowKit
end Go.Proofs.YtecmcjlgknfnlaaDoor
namespace Go.Proofs.YtecmcjlgknfnlaaDoor
open Go.RowKit
end Go.Proofs.YtecmcjlgknfnlaaDoor
namespace Go.Proofs.YtecmcjlgknfnlaaDoor
open Go.RowKit
structure Wo (E F B ex fr M z : Nat) (xe : Int) : Prop where
 tz : Tz M z
 part : (ex = 0 ∧ M = fr ∧ 0 < fr ∧ xe = 1 - (B : Int) - (F : Int)) ∨ (0 < ex ∧ M = fr + 2 ^ F ∧ xe = 1 - (B : Int) - (F : Int) + ((ex : Int) - 1))
 fin : ex + 1 < 2 ^ E
 frl : fr < 2 ^ F
theorem tz_ex {M f : Nat} (h0 : 0 < M) (h : M < 2 ^ f) : ∃ z,Tz M z ∧ z < f := by
 obtain ⟨q,hq,hz⟩ := Lib.ctzFrom_spec f M h0 h
 exact ⟨_,⟨q,hq⟩,hz⟩
theorem Wo.ex {E F B ex fr : Nat} (hfin : ex + 1 < 2 ^ E) (hfr : fr < 2 ^ F) (hne : ¬ (ex = 0 ∧ fr = 0)) : ∃ M z xe,Wo E F B ex fr M z xe := by
 by_cases h : ex = 0
 ·obtain ⟨z,hz,_⟩ := tz_ex (M := fr) (by omega) hfr
  exact ⟨fr,z,_,hz,Or.inl ⟨h,rfl,by omega,rfl⟩,hfin,hfr⟩
 ·obtain ⟨z,hz,_⟩ := tz_ex (M := fr + 2 ^ F) (f := F + 1) (by omega) (by rw [Nat.pow_succ]; omega)
  exact ⟨fr + 2 ^ F,z,_,hz,Or.inr ⟨by omega,rfl,rfl⟩,hfin,hfr⟩
theorem Wo.pos {E F B ex fr M z : Nat} {xe : Int} (h : Wo E F B ex fr M z xe) : 0 < M := by
 have := pow_pos2 F
 rcases h.part with ⟨_,h1,h2,_⟩ | ⟨_,h1,_⟩ <;> omega
theorem Wo.lt {E F B ex fr M z : Nat} {xe : Int} (h : Wo E F B ex fr M z xe) : M < 2 ^ (F + 1) := by
 have := h.frl
 rw [Nat.pow_succ]
 rcases h.part with ⟨_,h1,h2,_⟩ | ⟨_,h1,_⟩ <;> omega
theorem Wo.odd {E F B ex fr M z : Nat} {xe : Int} (h : Wo E F B ex fr M z xe) : (M / 2 ^ z) % 2 = 1 ∧ M / 2 ^ z * 2 ^ z = M := h.tz.down
theorem Wo.range {E F B ex fr M z : Nat} {xe : Int} (h : Wo E F B ex fr M z xe) (h0 : Fo E F) (HB : Hid (B = 2 ^ (E - 1) - 1)) : -2048 ≤ xe ∧ xe + (F : Int) ≤ (B : Int) ∧ B ≤ 1023 := by
 have h1 := B_le h0 HB
 have h2 := (B_two h0 HB).1
 have h3 := (B_two h0 HB).2
 have h4 := h.fin
 have h5 := h0.f52
 rcases h.part with ⟨_,_,_,h6⟩ | ⟨_,_,h6⟩ <;> omega
theorem Wo.bits {E F B ex fr M z : Nat} {xe : Int} (h : Wo E F B ex fr M z xe) {k : Nat} (hk : Bl (M / 2 ^ z) k) : 0 < k ∧ (ex = 0 → k + z ≤ F) ∧ (0 < ex → k + z = F + 1) := by
 obtain ⟨ho,hm⟩ := h.odd
 have hM0 := h.pos
 have hfr := h.frl
 have hk0 : 0 < k := by
  rcases Nat.eq_zero_or_pos k with h3 | h3
  ·subst h3; have := hk.1; rw [Nat.pow_zero] at this; exact absurd ho (by rw [Nat.lt_one_iff.1 this]; decide)
  ·exact h3
 have h1 : M < 2 ^ (k + z) := by
  rw [← hm,Nat.pow_add]; exact Nat.mul_lt_mul_of_pos_right hk.1 (pow_pos2 z)
 have h2 : 2 ^ (k - 1 + z) ≤ M := by
  rcases hk.2 with h3 | h3
  ·omega
  ·rw [← hm,Nat.pow_add]; exact Nat.mul_le_mul_right _ h3
 refine ⟨hk0,fun he => ?_,fun he => ?_⟩
 ·rcases h.part with ⟨_,h4,_,_⟩ | ⟨h4,_⟩
  ·have h5 : 2 ^ (k - 1 + z) < 2 ^ F := by omega
   have := (Nat.pow_lt_pow_iff_right (by decide : 1 < 2)).1 h5
   omega
  ·omega
 ·rcases h.part with ⟨h4,_⟩ | ⟨_,h4,_⟩
  ·omega
  ·have h5 : 2 ^ (k - 1 + z) < 2 ^ (F + 1) := by rw [Nat.pow_succ]; omega
   have h6 : 2 ^ F < 2 ^ (k + z) := by omega
   have h7 := (Nat.pow_lt_pow_iff_right (by decide : 1 < 2)).1 h5
   have h8 := (Nat.pow_lt_pow_iff_right (by decide : 1 < 2)).1 h6
   omega
theorem Wo.inj {E F B ex fr M z ex' fr' M' z' : Nat} {xe xe' : Int} (h : Wo E F B ex fr M z xe) (h' : Wo E F B ex' fr' M' z' xe') (hm : M / 2 ^ z = M' / 2 ^ z') (hx : xe + (z : Int) = xe' + (z' : Int)) : ex = ex' ∧ fr = fr' := by
 obtain ⟨k,hk⟩ := bl_ex (M / 2 ^ z)
 have hk' := hk
 rw [hm] at hk'
 obtain ⟨_,h1,h2⟩ := h.bits hk
 obtain ⟨_,h1',h2'⟩ := h'.bits hk'
 have hxe : xe = xe' := by
  rcases h.part with ⟨a1,_,_,a2⟩ | ⟨a1,_,a2⟩ <;> rcases h'.part with ⟨b1,_,_,b2⟩ | ⟨b1,_,b2⟩
  ·omega
  ·have := h1 a1; have := h2' b1; omega
  ·have := h2 a1; have := h1' b1; omega
  ·have := h2 a1; have := h2' b1; omega
 have hzz : z = z' := by omega
 have hMM : M = M' := by
  have e1 := h.odd.2
  have e2 := h'.odd.2
  rw [← e1,← e2,hm,hzz]
 have hfr := h.frl
 have hfr' := h'.frl
 rcases h.part with ⟨a1,a3,_,a2⟩ | ⟨a1,a3,a2⟩ <;> rcases h'.part with ⟨b1,b3,_,b2⟩ | ⟨b1,b3,b2⟩ <;> omega
end Go.Proofs.YtecmcjlgknfnlaaDoor
namespace Go.Proofs.YtecmcjlgknfnlaaDoor
open Go.RowKit
theorem Tz.bit_no {m z k : Nat} (h : Tz m z) (hk : k < z) : ¬ m / 2 ^ k % 2 = 1 := by
 obtain ⟨q,rfl⟩ := h
 obtain ⟨d,rfl⟩ : ∃ d,z = k + (d + 1) := ⟨z - k - 1,by omega⟩
 have e1 : 2 ^ (k + (d + 1)) * (2 * q + 1) = 2 ^ k * (2 * (2 ^ d * (2 * q + 1))) := by rw [Nat.pow_add,Nat.pow_succ]; ac_rfl
 rw [e1,Nat.mul_div_cancel_left _ (pow_pos2 k)]
 omega
theorem rbit_is (a : Option Addr) (n cap m k : Nat) (b : Bool) (w : World) (h : Num w a n m) (hk : k < 9223372036854775808) (hb : decide (m / 2 ^ k % 2 = 1) = b) :
  Calls Tryd.prog 77 #[.agg #[.slice a n cap],.int .i64 (k : Int)] w fun e w' => e = .returned (.tuple #[.bool b,.int .i64 0]) ∧ Below w.heap.size w w' := by
 have := rbit_any a n cap m k w h hk
 rw [hb] at this
 exact this
set_option maxHeartbeats 1000000 in
theorem reven_any (a : Option Addr) (n cap m z : Nat) (w : World) (h : Num w a n m) (hz : Tz m z) (hz2 : z < 4294967296) :
  Calls Tryd.prog 36 #[.agg #[.slice a n cap]] w fun e w' => e = .returned (.int .i64 (z : Int)) ∧ Below w.heap.size w w' := by
 have H := hide h
 have HZ := hide hz
 clear h hz
 go_enter Tryd.func36,Tryd.ntmps36
 go_wp2
 go_loopw [3] (fun t wr => ∃ k : Nat,k ≤ z ∧ t = .int .i64 (k : Int) ∧ Below w.heap.size w wr ∧ Box wr w.heap.size (.slice a n cap)) (fun t _ => (z - intOf t).toNat)
 case atStart => exact ⟨0,Nat.zero_le _,rfl,gr_alloc _ _,Box.made w _⟩
 case round =>
  obtain ⟨k,hk,rfl,hbel,hbx⟩ := hrel
  have hc := hbx.cell
  by_cases hkz : k = z
  ·subst hkz
   have hcall := rbit_is a n cap m k true wr ((unhide H).kept hbel) (by omega) (decide_eq_true (unhide HZ).down.1)
   have HC := hide hcall
   clear hcall
   go_wp2_with fail
   refine (unhide HC).mono ?_
   rintro e w1 ⟨rfl,hb1⟩
   have hB := hbel.trans (hb1.mono hbel.size)
   go_wp2
   go_ret
   exact ⟨rfl,hB⟩
  ·have hcall := rbit_is a n cap m k false wr ((unhide H).kept hbel) (by omega) (decide_eq_false ((unhide HZ).bit_no (by omega)))
   have HC := hide hcall
   clear hcall
   go_wp2_with fail
   refine (unhide HC).mono ?_
   rintro e w1 ⟨rfl,hb1⟩
   have hB := hbel.trans (hb1.mono hbel.size)
   have hX := hbx.kept hb1
   go_wp2
   go_roundw
   case rel => exact ⟨k + 1,by omega,by go_num,hB,hX⟩
   case measure => simp [intOf]; omega
set_option maxHeartbeats 400000 in
theorem rmake_bad (s : Bool) (a : Option Addr) (n cap : Nat) (xs : List Nat) (x : Int) (w : World) (hn : xs.length = n) (hbig : n ≤ 9223372036854775807) (hl : Lim w a xs) (hc : chk xs ≠ 0) :
  Calls Tryd.prog 9 #[.bool s,.agg #[.slice a n cap],.int .i64 x] w fun e w' => e = .returned (.tuple #[.agg #[.bool false,.slice none 0 0,.int .i64 0],.int .i64 (chk xs)]) ∧ Below w.heap.size w w' := by
 have hcb : (chk xs != 0) = true := by simpa using hc
 have HL := hide hl
 subst hn
 clear hl hc
 go_enter Tryd.func9,Tryd.ntmps9
 go_wp2_with fail
 refine (rcheck_any a cap xs _ hbig (((unhide HL).alloc _).alloc _)).mono ?_
 rintro e w1 ⟨rfl,hb1⟩
 have hS := (Fs.two w _ _ _ _).kept hb1
 obtain ⟨⟨z1_0_0,-⟩,⟨z1_1_0,z1_1_1,z1_1_2,-⟩,-⟩ := hS.cells
 have fz0 := hS.frozen (b := w.heap.size + 1) (cs := #[.bool false,.slice none 0 0,.int .i64 0]) (t := 26) (by simp) 0
 have fz1 := hS.frozen (b := w.heap.size + 1) (cs := #[.bool false,.slice none 0 0,.int .i64 0]) (t := 26) (by simp) 1
 have fz2 := hS.frozen (b := w.heap.size + 1) (cs := #[.bool false,.slice none 0 0,.int .i64 0]) (t := 26) (by simp) 2
 go_wp2
 exact bodyPost_ret (v := .tuple #[.agg #[.bool false,.slice none 0 0,.int .i64 0],.int .i64 (chk xs)]) (by simp [results,Tryd.results9,go_sem,z1_1_0,z1_1_1,z1_1_2]) rfl ⟨rfl,((hS.fr.setCell (by simp <;> omega) _).setCell (by simp <;> omega) _).setCell (by simp <;> omega) _⟩
set_option maxHeartbeats 400000 in
theorem rmake_nought (s : Bool) (a : Option Addr) (cap : Nat) (x : Int) (w : World) (h : Num w a 0 0) :
  Calls Tryd.prog 9 #[.bool s,.agg #[.slice a 0 cap],.int .i64 x] w fun e w' => e = .returned (.tuple #[.agg #[.bool false,.slice none 0 0,.int .i64 0],.int .i64 0]) ∧ Below w.heap.size w w' := by
 have H := hide h
 clear h
 go_enter Tryd.func9,Tryd.ntmps9
 go_wp2_with fail
 refine (rcheck_num a 0 cap 0 _ (((unhide H).alloc _).alloc _)).mono ?_
 rintro e w1 ⟨rfl,hb1⟩
 have hS := (Fs.two w _ _ _ _).kept hb1
 obtain ⟨⟨z1_0_0,-⟩,⟨z1_1_0,z1_1_1,z1_1_2,-⟩,-⟩ := hS.cells
 go_wp2_with fail
 refine (rnone_yes a cap _).mono ?_
 rintro e w2 ⟨rfl,hb2⟩
 replace hS := hS.kept hb2
 clear z1_0_0 z1_1_0 z1_1_1 z1_1_2
 obtain ⟨⟨z2_0_0,-⟩,⟨z2_1_0,z2_1_1,z2_1_2,-⟩,-⟩ := hS.cells
 have fz0 := hS.frozen (b := w.heap.size + 1) (cs := #[.bool false,.slice none 0 0,.int .i64 0]) (t := 26) (by simp) 0
 have fz1 := hS.frozen (b := w.heap.size + 1) (cs := #[.bool false,.slice none 0 0,.int .i64 0]) (t := 26) (by simp) 1
 have fz2 := hS.frozen (b := w.heap.size + 1) (cs := #[.bool false,.slice none 0 0,.int .i64 0]) (t := 26) (by simp) 2
 go_wp2
 exact bodyPost_ret (v := .tuple #[.agg #[.bool false,.slice none 0 0,.int .i64 0],.int .i64 0]) (by simp [results,Tryd.results9,go_sem,z2_1_0,z2_1_1,z2_1_2]) rfl ⟨rfl,((hS.fr.setCell (by simp <;> omega) _).setCell (by simp <;> omega) _).setCell (by simp <;> omega) _⟩
set_option maxHeartbeats 400000 in
theorem rmake_gt (s : Bool) (a : Option Addr) (n cap m z : Nat) (x : Int) (w : World) (h : Num w a n m) (hm : 0 < m) (hz : Tz m z) (hz2 : z < 524288) (hx : 1073741824 < x) :
  Calls Tryd.prog 9 #[.bool s,.agg #[.slice a n cap],.int .i64 x] w fun e w' => e = .returned (.tuple #[.agg #[.bool false,.slice none 0 0,.int .i64 0],.int .i64 4]) ∧ Below w.heap.size w w' := by
 have hn0 : 0 < n := by have := h.zero; omega
 have H := hide h
 have HZ := hide hz
 clear h hm hz
 go_enter Tryd.func9,Tryd.ntmps9
 go_wp2_with fail
 refine (rcheck_num a n cap m _ (((unhide H).alloc _).alloc _)).mono ?_
 rintro e w1 ⟨rfl,hb1⟩
 have hS := (Fs.two w _ _ _ _).kept hb1
 obtain ⟨⟨z1_0_0,-⟩,⟨z1_1_0,z1_1_1,z1_1_2,-⟩,-⟩ := hS.cells
 go_wp2_with fail
 refine (rnone_no a n cap hn0 _).mono ?_
 rintro e w2 ⟨rfl,hb2⟩
 replace hS := hS.kept hb2
 clear z1_0_0 z1_1_0 z1_1_1 z1_1_2
 obtain ⟨⟨z2_0_0,-⟩,⟨z2_1_0,z2_1_1,z2_1_2,-⟩,-⟩ := hS.cells
 go_wp2_with fail
 refine (reven_any a n cap m z _ ((unhide H).kept hS.fr) (unhide HZ) (by omega)).mono ?_
 rintro e w3 ⟨rfl,hb3⟩
 replace hS := hS.kept hb3
 clear z2_0_0 z2_1_0 z2_1_1 z2_1_2
 obtain ⟨⟨z3_0_0,-⟩,⟨z3_1_0,z3_1_1,z3_1_2,-⟩,-⟩ := hS.cells
 have fz0 := hS.frozen (b := w.heap.size + 1) (cs := #[.bool false,.slice none 0 0,.int .i64 0]) (t := 26) (by simp) 0
 have fz1 := hS.frozen (b := w.heap.size + 1) (cs := #[.bool false,.slice none 0 0,.int .i64 0]) (t := 26) (by simp) 1
 have fz2 := hS.frozen (b := w.heap.size + 1) (cs := #[.bool false,.slice none 0 0,.int .i64 0]) (t := 26) (by simp) 2
 go_wp2
 exact bodyPost_ret (v := .tuple #[.agg #[.bool false,.slice none 0 0,.int .i64 0],.int .i64 4]) (by simp [results,Tryd.results9,go_sem,z3_1_0,z3_1_1,z3_1_2]) rfl ⟨rfl,((hS.fr.setCell (by simp <;> omega) _).setCell (by simp <;> omega) _).setCell (by simp <;> omega) _⟩
set_option maxHeartbeats 400000 in
theorem rmake_lt (s : Bool) (a : Option Addr) (n cap m z : Nat) (x : Int) (w : World) (h : Num w a n m) (hm : 0 < m) (hz : Tz m z) (hz2 : z < 524288) (hx0 : x ≤ 1073741824) (hx : x < -2147483648) :
  Calls Tryd.prog 9 #[.bool s,.agg #[.slice a n cap],.int .i64 x] w fun e w' => e = .returned (.tuple #[.agg #[.bool false,.slice none 0 0,.int .i64 0],.int .i64 4]) ∧ Below w.heap.size w w' := by
 have hn0 : 0 < n := by have := h.zero; omega
 have H := hide h
 have HZ := hide hz
 clear h hm hz
 go_enter Tryd.func9,Tryd.ntmps9
 go_wp2_with fail
 refine (rcheck_num a n cap m _ (((unhide H).alloc _).alloc _)).mono ?_
 rintro e w1 ⟨rfl,hb1⟩
 have hS := (Fs.two w _ _ _ _).kept hb1
 obtain ⟨⟨z1_0_0,-⟩,⟨z1_1_0,z1_1_1,z1_1_2,-⟩,-⟩ := hS.cells
 go_wp2_with fail
 refine (rnone_no a n cap hn0 _).mono ?_
 rintro e w2 ⟨rfl,hb2⟩
 replace hS := hS.kept hb2
 clear z1_0_0 z1_1_0 z1_1_1 z1_1_2
 obtain ⟨⟨z2_0_0,-⟩,⟨z2_1_0,z2_1_1,z2_1_2,-⟩,-⟩ := hS.cells
 go_wp2_with fail
 refine (reven_any a n cap m z _ ((unhide H).kept hS.fr) (unhide HZ) (by omega)).mono ?_
 rintro e w3 ⟨rfl,hb3⟩
 replace hS := hS.kept hb3
 clear z2_0_0 z2_1_0 z2_1_1 z2_1_2
 obtain ⟨⟨z3_0_0,-⟩,⟨z3_1_0,z3_1_1,z3_1_2,-⟩,-⟩ := hS.cells
 have fz0 := hS.frozen (b := w.heap.size + 1) (cs := #[.bool false,.slice none 0 0,.int .i64 0]) (t := 26) (by simp) 0
 have fz1 := hS.frozen (b := w.heap.size + 1) (cs := #[.bool false,.slice none 0 0,.int .i64 0]) (t := 26) (by simp) 1
 have fz2 := hS.frozen (b := w.heap.size + 1) (cs := #[.bool false,.slice none 0 0,.int .i64 0]) (t := 26) (by simp) 2
 go_wp2
 exact bodyPost_ret (v := .tuple #[.agg #[.bool false,.slice none 0 0,.int .i64 0],.int .i64 4]) (by simp [results,Tryd.results9,go_sem,z3_1_0,z3_1_1,z3_1_2]) rfl ⟨rfl,((hS.fr.setCell (by simp <;> omega) _).setCell (by simp <;> omega) _).setCell (by simp <;> omega) _⟩
set_option maxHeartbeats 400000 in
theorem rmake_above (s : Bool) (a : Option Addr) (n cap m z : Nat) (x : Int) (w : World) (h : Num w a n m) (hm : 0 < m) (hz : Tz m z) (hz2 : z < 524288) (hx1 : x ≤ 1073741824) (hx2 : -2147483648 ≤ x) (hx : 1073741824 < x + z) :
  Calls Tryd.prog 9 #[.bool s,.agg #[.slice a n cap],.int .i64 x] w fun e w' => e = .returned (.tuple #[.agg #[.bool false,.slice none 0 0,.int .i64 0],.int .i64 4]) ∧ Below w.heap.size w w' := by
 have hn0 : 0 < n := by have := h.zero; omega
 have H := hide h
 have HZ := hide hz
 clear h hm hz
 go_enter Tryd.func9,Tryd.ntmps9
 go_wp2_with fail
 refine (rcheck_num a n cap m _ (((unhide H).alloc _).alloc _)).mono ?_
 rintro e w1 ⟨rfl,hb1⟩
 have hS := (Fs.two w _ _ _ _).kept hb1
 obtain ⟨⟨z1_0_0,-⟩,⟨z1_1_0,z1_1_1,z1_1_2,-⟩,-⟩ := hS.cells
 go_wp2_with fail
 refine (rnone_no a n cap hn0 _).mono ?_
 rintro e w2 ⟨rfl,hb2⟩
 replace hS := hS.kept hb2
 clear z1_0_0 z1_1_0 z1_1_1 z1_1_2
 obtain ⟨⟨z2_0_0,-⟩,⟨z2_1_0,z2_1_1,z2_1_2,-⟩,-⟩ := hS.cells
 go_wp2_with fail
 refine (reven_any a n cap m z _ ((unhide H).kept hS.fr) (unhide HZ) (by omega)).mono ?_
 rintro e w3 ⟨rfl,hb3⟩
 replace hS := hS.kept hb3
 clear z2_0_0 z2_1_0 z2_1_1 z2_1_2
 obtain ⟨⟨z3_0_0,-⟩,⟨z3_1_0,z3_1_1,z3_1_2,-⟩,-⟩ := hS.cells
 go_wp2_with fail
 refine (rfar_above _ hx _).mono ?_
 rintro e w4 ⟨rfl,hb4⟩
 replace hS := hS.kept hb4
 clear z3_0_0 z3_1_0 z3_1_1 z3_1_2
 obtain ⟨⟨z4_0_0,-⟩,⟨z4_1_0,z4_1_1,z4_1_2,-⟩,-⟩ := hS.cells
 have fz0 := hS.frozen (b := w.heap.size + 1) (cs := #[.bool false,.slice none 0 0,.int .i64 0]) (t := 26) (by simp) 0
 have fz1 := hS.frozen (b := w.heap.size + 1) (cs := #[.bool false,.slice none 0 0,.int .i64 0]) (t := 26) (by simp) 1
 have fz2 := hS.frozen (b := w.heap.size + 1) (cs := #[.bool false,.slice none 0 0,.int .i64 0]) (t := 26) (by simp) 2
 go_wp2
 exact bodyPost_ret (v := .tuple #[.agg #[.bool false,.slice none 0 0,.int .i64 0],.int .i64 4]) (by simp [results,Tryd.results9,go_sem,z4_1_0,z4_1_1,z4_1_2]) rfl ⟨rfl,((hS.fr.setCell (by simp <;> omega) _).setCell (by simp <;> omega) _).setCell (by simp <;> omega) _⟩
set_option maxHeartbeats 400000 in
theorem rmake_below (s : Bool) (a : Option Addr) (n cap m z : Nat) (x : Int) (w : World) (h : Num w a n m) (hm : 0 < m) (hz : Tz m z) (hz2 : z < 524288) (hx1 : x ≤ 1073741824) (hx2 : -2147483648 ≤ x) (hx : x + z < -1073741824) :
  Calls Tryd.prog 9 #[.bool s,.agg #[.slice a n cap],.int .i64 x] w fun e w' => e = .returned (.tuple #[.agg #[.bool false,.slice none 0 0,.int .i64 0],.int .i64 4]) ∧ Below w.heap.size w w' := by
 have hn0 : 0 < n := by have := h.zero; omega
 have H := hide h
 have HZ := hide hz
 clear h hm hz
 go_enter Tryd.func9,Tryd.ntmps9
 go_wp2_with fail
 refine (rcheck_num a n cap m _ (((unhide H).alloc _).alloc _)).mono ?_
 rintro e w1 ⟨rfl,hb1⟩
 have hS := (Fs.two w _ _ _ _).kept hb1
 obtain ⟨⟨z1_0_0,-⟩,⟨z1_1_0,z1_1_1,z1_1_2,-⟩,-⟩ := hS.cells
 go_wp2_with fail
 refine (rnone_no a n cap hn0 _).mono ?_
 rintro e w2 ⟨rfl,hb2⟩
 replace hS := hS.kept hb2
 clear z1_0_0 z1_1_0 z1_1_1 z1_1_2
 obtain ⟨⟨z2_0_0,-⟩,⟨z2_1_0,z2_1_1,z2_1_2,-⟩,-⟩ := hS.cells
 go_wp2_with fail
 refine (reven_any a n cap m z _ ((unhide H).kept hS.fr) (unhide HZ) (by omega)).mono ?_
 rintro e w3 ⟨rfl,hb3⟩
 replace hS := hS.kept hb3
 clear z2_0_0 z2_1_0 z2_1_1 z2_1_2
 obtain ⟨⟨z3_0_0,-⟩,⟨z3_1_0,z3_1_1,z3_1_2,-⟩,-⟩ := hS.cells
 go_wp2_with fail
 refine (rfar_below _ hx _).mono ?_
 rintro e w4 ⟨rfl,hb4⟩
 replace hS := hS.kept hb4
 clear z3_0_0 z3_1_0 z3_1_1 z3_1_2
 obtain ⟨⟨z4_0_0,-⟩,⟨z4_1_0,z4_1_1,z4_1_2,-⟩,-⟩ := hS.cells
 have fz0 := hS.frozen (b := w.heap.size + 1) (cs := #[.bool false,.slice none 0 0,.int .i64 0]) (t := 26) (by simp) 0
 have fz1 := hS.frozen (b := w.heap.size + 1) (cs := #[.bool false,.slice none 0 0,.int .i64 0]) (t := 26) (by simp) 1
 have fz2 := hS.frozen (b := w.heap.size + 1) (cs := #[.bool false,.slice none 0 0,.int .i64 0]) (t := 26) (by simp) 2
 go_wp2
 exact bodyPost_ret (v := .tuple #[.agg #[.bool false,.slice none 0 0,.int .i64 0],.int .i64 4]) (by simp [results,Tryd.results9,go_sem,z4_1_0,z4_1_1,z4_1_2]) rfl ⟨rfl,((hS.fr.setCell (by simp <;> omega) _).setCell (by simp <;> omega) _).setCell (by simp <;> omega) _⟩
set_option maxHeartbeats 1000000 in
theorem rmake_ok (s : Bool) (a : Option Addr) (n cap m z : Nat) (x : Int) (w : World) (h : Num w a n m) (hm : 0 < m) (hz : Tz m z) (hz2 : z < 524288) (hx1 : x ≤ 1073741824) (hx2 : -2147483648 ≤ x) (hx : -1073741824 ≤ x + z ∧ x + z ≤ 1073741824) :
  Calls Tryd.prog 9 #[.bool s,.agg #[.slice a n cap],.int .i64 x] w fun e w' => (∃ A N C,e = .returned (.tuple #[.agg #[.bool s,.slice A N C,.int .i64 (x + (z : Int))],.int .i64 0]) ∧ Mine w' w.heap.size A N C (m / 2 ^ z)) ∧ Below w.heap.size w w' := by
 have hn0 : 0 < n := by have := h.zero; omega
 have H := hide h
 have HZ := hide hz
 clear h hm hz
 go_enter Tryd.func9,Tryd.ntmps9
 go_wp2_with fail
 refine (rcheck_num a n cap m _ (((unhide H).alloc _).alloc _)).mono ?_
 rintro e w1 ⟨rfl,hb1⟩
 have hS := (Fs.two w _ _ _ _).kept hb1
 obtain ⟨⟨z1_0_0,-⟩,⟨z1_1_0,z1_1_1,z1_1_2,-⟩,-⟩ := hS.cells
 go_wp2_with fail
 refine (rnone_no a n cap hn0 _).mono ?_
 rintro e w2 ⟨rfl,hb2⟩
 replace hS := hS.kept hb2
 clear z1_0_0 z1_1_0 z1_1_1 z1_1_2
 obtain ⟨⟨z2_0_0,-⟩,⟨z2_1_0,z2_1_1,z2_1_2,-⟩,-⟩ := hS.cells
 go_wp2_with fail
 refine (reven_any a n cap m z _ ((unhide H).kept hS.fr) (unhide HZ) (by omega)).mono ?_
 rintro e w3 ⟨rfl,hb3⟩
 replace hS := hS.kept hb3
 clear z2_0_0 z2_1_0 z2_1_1 z2_1_2
 obtain ⟨⟨z3_0_0,-⟩,⟨z3_1_0,z3_1_1,z3_1_2,-⟩,-⟩ := hS.cells
 go_wp2_with fail
 refine (rfar_no _ hx _).mono ?_
 rintro e w4 ⟨rfl,hb4⟩
 replace hS := hS.kept hb4
 clear z3_0_0 z3_1_0 z3_1_1 z3_1_2
 obtain ⟨⟨z4_0_0,-⟩,⟨z4_1_0,z4_1_1,z4_1_2,-⟩,-⟩ := hS.cells
 have hltw4_0 : w.heap.size < w4.heap.size := block_lt (hS.bx ⟨w.heap.size,#[.slice a n cap],24⟩ (by simp))
 have hltw4_1 : w.heap.size + 1 < w4.heap.size := block_lt (hS.bx ⟨w.heap.size + 1,#[.bool false,.slice none 0 0,.int .i64 0],26⟩ (by simp))
 go_wp2_with fail
 refine (rdown_any a n cap m z _ ((unhide H).kept hS.fr) (by omega)).mono ?_
 rintro e w5 ⟨⟨A4,N4,C4,rfl,f4⟩,hb5⟩
 replace hS := hS.kept hb5
 clear z4_0_0 z4_1_0 z4_1_1 z4_1_2
 obtain ⟨⟨z5_0_0,-⟩,⟨z5_1_0,z5_1_1,z5_1_2,-⟩,-⟩ := hS.cells
 have hltw5_0 : w.heap.size < w5.heap.size := block_lt (hS.bx ⟨w.heap.size,#[.slice a n cap],24⟩ (by simp))
 have hltw5_1 : w.heap.size + 1 < w5.heap.size := block_lt (hS.bx ⟨w.heap.size + 1,#[.bool false,.slice none 0 0,.int .i64 0],26⟩ (by simp))
 have F4 := hide f4
 clear f4
 have fz0 := hS.frozen (b := w.heap.size + 1) (cs := #[.bool false,.slice none 0 0,.int .i64 0]) (t := 26) (by simp) 0
 have fz1 := hS.frozen (b := w.heap.size + 1) (cs := #[.bool false,.slice none 0 0,.int .i64 0]) (t := 26) (by simp) 1
 have fz2 := hS.frozen (b := w.heap.size + 1) (cs := #[.bool false,.slice none 0 0,.int .i64 0]) (t := 26) (by simp) 2
 go_wp2
 have hB := fun u0 u1 u2 => ((hS.fr.setCell (p := ⟨w.heap.size + 1,0,none⟩) (by simp) u0).setCell (p := ⟨w.heap.size + 1,1,none⟩) (by simp) u1).setCell (p := ⟨w.heap.size + 1,2,none⟩) (by simp) u2
 exact bodyPost_ret (v := .tuple #[.agg #[.bool s,.slice A4 N4 C4,.int .i64 (x + (z : Int))],.int .i64 0]) (by simp [results,Tryd.results9,go_sem,z5_1_0,z5_1_1,z5_1_2,hltw5_1]) rfl
  ⟨⟨_,_,_,rfl,(((((unhide F4).set (by exact hltw4_1) _).set (by exact hltw4_1) _).set (by exact hltw4_1) _).alloc _).mono (by omega)⟩,(hB _ _ _).alloc (hB _ _ _).size _⟩
def DAns (base : Nat) (q : Bool) (v : Nat) (y er : Int) (en : Ending) (w' : World) : Prop := ∃ A N C,en = .returned (.tuple #[.agg #[.bool q,.slice A N C,.int .i64 y],.int .i64 er]) ∧ Mine w' base A N C v
theorem dans_nil {w : World} {er : Int} {f : Nat} {vs : Array Value} (h : Calls Tryd.prog f vs w fun e w' => e = .returned (.tuple #[.agg #[.bool false,.slice none 0 0,.int .i64 0],.int .i64 er]) ∧ Below w.heap.size w w') : Calls Tryd.prog f vs w fun e w' => DAns w.heap.size false 0 0 er e w' ∧ Below w.heap.size w w' := by
 refine h.mono ?_
 rintro e w' ⟨rfl,hb⟩
 exact ⟨⟨none,0,0,rfl,mine_nil _ _⟩,hb⟩
theorem make_both (s : Bool) (xs : List Nat) (n : Nat) (x : Int) (hn : xs.length = n) (hw : Pl.Wf xs) (hb : n ≤ 9223372036854775807) : ∃ (q : Bool) (v : Nat) (y er : Int),
  (∀ (w : World) (a : Option Addr) (cap : Nat),Lim w a xs → Calls Tryd.prog 9 #[.bool s,.agg #[.slice a n cap],.int .i64 x] w fun e w' => DAns w.heap.size q v y er e w' ∧ Below w.heap.size w w') ∧
  (∀ (w : World) (a : Option Addr) (cap : Nat),Lim w a xs → n ≤ cap → cap ≤ 9223372036854775807 → Tb w → Calls Tryd.prog 11 #[.bool s,.agg #[.slice a n cap],.int .i64 x] w fun e w' => DAns w.heap.size q v y er e w' ∧ Below w.heap.size w w') := by
 by_cases hc : chk xs = 0
 case neg => exact ⟨false,0,0,chk xs,fun w a cap hl => dans_nil (rmake_bad s a n cap xs x w hn hb hl hc),fun w a cap hl _ _ _ => dans_nil (make_bad s a n cap xs x w hn hb hl hc)⟩
 have num := fun (w : World) (a : Option Addr) (hl : Lim w a xs) => dck_num hn hl hw hc
 rcases Nat.eq_zero_or_pos (Pl.val xs) with h0 | h0
 ·refine ⟨false,0,0,0,fun w a cap hl => dans_nil ?_,fun w a cap hl _ _ _ => dans_nil ?_⟩
  ·have g := num w a hl
   obtain rfl := g.zero.2 h0
   rw [h0] at g
   exact rmake_nought s a cap x w g
  ·have g := num w a hl
   obtain rfl := g.zero.2 h0
   rw [h0] at g
   exact make_nought s a cap x w g
 ·obtain ⟨K,hK⟩ : ∃ K,K = 524288 := ⟨_,rfl⟩
  have hlt : Pl.val xs < 2 ^ K := by
   have h1 := Pl.val_lt hw
   have h2 := (chk_zero hc).1
   have e1 : (4294967296 : Nat) ^ xs.length = 2 ^ (32 * xs.length) := by rw [Nat.pow_mul]
   rw [e1] at h1
   exact Nat.lt_of_lt_of_le h1 (Nat.pow_le_pow_right (by decide) (by omega))
  generalize hV : Pl.val xs = m at *
  obtain ⟨z,hz,hz2⟩ := tz_ex h0 hlt
  rw [hK] at hz2
  by_cases c1 : 1073741824 < x + z
  ·refine ⟨false,0,0,4,fun w a cap hl => dans_nil ?_,fun w a cap hl _ _ hT => dans_nil (make_above s a n cap m z x w (num w a hl) h0 hT hz hz2 c1)⟩
   by_cases c2 : 1073741824 < x
   ·exact rmake_gt s a n cap m z x w (num w a hl) h0 hz hz2 c2
   ·exact rmake_above s a n cap m z x w (num w a hl) h0 hz hz2 (by omega) (by omega) c1
  by_cases c2 : x + z < -1073741824
  ·refine ⟨false,0,0,4,fun w a cap hl => dans_nil ?_,fun w a cap hl _ _ hT => dans_nil (make_below s a n cap m z x w (num w a hl) h0 hT hz hz2 c2)⟩
   by_cases c3 : x < -2147483648
   ·exact rmake_lt s a n cap m z x w (num w a hl) h0 hz hz2 (by omega) c3
   ·exact rmake_below s a n cap m z x w (num w a hl) h0 hz hz2 (by omega) (by omega) c2
  ·exact ⟨s,m / 2 ^ z,x + z,0,fun w a cap hl => rmake_ok s a n cap m z x w (num w a hl) h0 hz hz2 (by omega) (by omega) (by omega),fun w a cap hl hc1 hc2 hT => make_ok s a n cap m z x w (num w a hl) h0 hT hz hz2 hc1 hc2 (by omega)⟩
end Go.Proofs.YtecmcjlgknfnlaaDoor
