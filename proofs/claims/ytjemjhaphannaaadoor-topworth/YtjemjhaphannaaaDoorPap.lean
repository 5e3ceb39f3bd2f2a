/- Of what TopWorthRow stands on: RefUpDown ExCheck ExTop. -/
import Derived.Test.YtjemjhaphannaaaDoorPan
import Derived.Test.YtjemjhaphannaaaDoorPao
import Derived.Test.YtjemjhaphannaaaDoorPaj
import Derived.Test.YtjemjhaphannaaaDoorPaf
import Derived.BigQuiet
import Derived.Test.YtjemjhaphannaaaDoorPab
import Derived.Test.YtjemjhaphannaaaDoorPai
namespace Go.Proofs.YtjemjhaphannaaaDoor
open Go.RowKit
end Go.Proofs.YtjemjhaphannaaaDoor
namespace Go.Proofs.YtjemjhaphannaaaDoor
open Go.RowKit
def Far (x : Int) : Prop := x < -1073741824 ∨ 1073741824 < x
instance (x : Int) : Decidable (Far x) := by unfold Far; infer_instance
set_option maxHeartbeats 400000 in
theorem isNought_yes (a : Option Addr) (cap : Nat) (w : World)  :
  Calls Tryd.prog 50 #[.agg #[.slice a 0 cap]] w fun e w' => e = .returned (.bool true) ∧ Below w.heap.size w w' := by
 go_enter Tryd.func50,Tryd.ntmps50
 go_wp2
 go_ret
 exact ⟨rfl,(Fs.one w _ _).fr⟩
set_option maxHeartbeats 400000 in
theorem isNought_no (a : Option Addr) (n cap : Nat) (hn : 0 < n) (w : World)  :
  Calls Tryd.prog 50 #[.agg #[.slice a n cap]] w fun e w' => e = .returned (.bool false) ∧ Below w.heap.size w w' := by
 go_enter Tryd.func50,Tryd.ntmps50
 go_wp2
 go_ret
 exact ⟨ret_bool (by simp <;> omega),(Fs.one w _ _).fr⟩
set_option maxHeartbeats 400000 in
theorem beyond_no (x : Int) (hx : -1073741824 ≤ x ∧ x ≤ 1073741824) (w : World)  :
  Calls Tryd.prog 66 #[.int .i64 x] w fun e w' => e = .returned (.bool false) ∧ Below w.heap.size w w' := by
 go_enter Tryd.func66,Tryd.ntmps66
 go_wp2
 go_ret
 exact ⟨ret_bool (by simp <;> omega),(Fs.begin w).fr⟩
theorem bit0_odd (a : Option Addr) (n cap m : Nat) (w : World) (h : Num w a n m) (hm : m % 2 = 1) :
  Calls Tryd.prog 65 #[.agg #[.slice a n cap],.int .i64 0] w fun e w' => e = .returned (.tuple #[.bool true,.int .i64 0]) ∧ Below w.heap.size w w' := by
 have := bit_any a n cap m 0 w h (by omega)
 rw [show decide (m / 2 ^ 0 % 2 = 1) = true from by simp [hm]] at this
 exact this
set_option maxHeartbeats 400000 in
theorem dcheck_nil (s : Bool) (a : Option Addr) (cap : Nat) (x : Int) (w : World) (h : Num w a 0 0) :
  Calls Tryd.prog 21 #[.agg #[.bool s,.slice a 0 cap,.int .i64 x]] w fun e w' => e = .returned (.int .i64 (if s = true ∨ x ≠ 0 then 40 else 0)) ∧ Below w.heap.size w w' := by
 have H := hide h
 clear h
 go_enter Tryd.func21,Tryd.ntmps21
 go_wp2_with fail
 refine (check_num a 0 cap 0 _ ((unhide H).kept (gr_alloc _ _))).mono ?_
 rintro e w1 ⟨rfl,hb1⟩
 have hS := (Fs.one w _ _).kept hb1
 obtain ⟨⟨z1_0_0,z1_0_1,z1_0_2,-⟩,-⟩ := hS.cells
 go_wp2_with fail
 refine (isNought_yes a cap _).mono ?_
 rintro e w2 ⟨rfl,hb2⟩
 replace hS := hS.kept hb2
 clear z1_0_0 z1_0_1 z1_0_2
 obtain ⟨⟨z2_0_0,z2_0_1,z2_0_2,-⟩,-⟩ := hS.cells
 by_cases hs : s = true
 ·subst hs
  go_wp2
  go_ret
  exact ⟨by simp,hS.fr⟩
 ·obtain rfl : s = false := by cases s <;> simp_all
  by_cases hx : x = 0
  ·subst hx
   go_wp2
   go_ret
   exact ⟨by simp,hS.fr⟩
  ·go_wp2
   go_ret
   exact ⟨by simp,hS.fr⟩
set_option maxHeartbeats 400000 in
theorem dcheck_ok (s : Bool) (a : Option Addr) (n cap m : Nat) (x : Int) (w : World) (h : Num w a n m) (hn : 0 < n) (hm : m % 2 = 1) (hx : -1073741824 ≤ x ∧ x ≤ 1073741824) :
  Calls Tryd.prog 21 #[.agg #[.bool s,.slice a n cap,.int .i64 x]] w fun e w' => e = .returned (.int .i64 0) ∧ Below w.heap.size w w' := by
 have H := hide h
 have HM := hide hm
 clear h hm
 go_enter Tryd.func21,Tryd.ntmps21
 go_wp2_with fail
 refine (check_num a n cap m _ ((unhide H).kept (gr_alloc _ _))).mono ?_
 rintro e w1 ⟨rfl,hb1⟩
 have hS := (Fs.one w _ _).kept hb1
 obtain ⟨⟨z1_0_0,z1_0_1,z1_0_2,-⟩,-⟩ := hS.cells
 go_wp2_with fail
 refine (isNought_no a n cap hn _).mono ?_
 rintro e w2 ⟨rfl,hb2⟩
 replace hS := hS.kept hb2
 clear z1_0_0 z1_0_1 z1_0_2
 obtain ⟨⟨z2_0_0,z2_0_1,z2_0_2,-⟩,-⟩ := hS.cells
 go_wp2_with fail
 refine (bit0_odd a n cap m _ ((unhide H).kept hS.fr) (unhide HM)).mono ?_
 rintro e w3 ⟨rfl,hb3⟩
 replace hS := hS.kept hb3
 clear z2_0_0 z2_0_1 z2_0_2
 obtain ⟨⟨z3_0_0,z3_0_1,z3_0_2,-⟩,-⟩ := hS.cells
 go_wp2_with fail
 refine (beyond_no _ hx _).mono ?_
 rintro e w4 ⟨rfl,hb4⟩
 replace hS := hS.kept hb4
 clear z3_0_0 z3_0_1 z3_0_2
 obtain ⟨⟨z4_0_0,z4_0_1,z4_0_2,-⟩,-⟩ := hS.cells
 go_wp2
 go_ret
 exact ⟨rfl,hS.fr⟩
end Go.Proofs.YtjemjhaphannaaaDoor
namespace Go.Proofs.YtjemjhaphannaaaDoor
open Go.RowKit
set_option maxHeartbeats 400000 in
theorem tdouble  (w : World)  :
  Calls Tryd.prog 46 #[] w fun e w' => e = .returned (.agg #[.int .i64 11,.int .i64 52]) ∧ Below w.heap.size w w' := by
 go_enter Tryd.func46,Tryd.ntmps46
 go_wp2
 exact bodyPost_ret (v := .agg #[.int .i64 11,.int .i64 52]) (by simp [results,Tryd.results46,go_sem]) rfl ⟨rfl,(Fs.one w _ _).fr⟩
set_option maxHeartbeats 400000 in
theorem tis_bad (E F : Int) (hbad : NoFo E F) (b : Int) (w : World)  :
  Calls Tryd.prog 95 #[.agg #[.int .i64 E,.int .i64 F],.int .u64 b] w fun e w' => e = .returned (.bool false) ∧ Below w.heap.size w w' := by
 have HB := hide hbad
 clear hbad
 go_enter Tryd.func95,Tryd.ntmps95
 go_wp2_with fail
 refine (rcheck_bad _ _ _ (unhide HB)).mono ?_
 rintro e w1 ⟨rfl,hb1⟩
 have hS := (Fs.one w _ _).kept hb1
 obtain ⟨⟨z1_0_0,z1_0_1,-⟩,-⟩ := hS.cells
 go_wp2
 go_ret
 exact ⟨rfl,hS.fr⟩
set_option maxHeartbeats 400000 in
theorem tis_many (E F b : Nat) (h0 : Fo E F) (hb : 2 ^ (F + E + 1) ≤ b) (hb64 : b < 18446744073709551616) (w : World)  :
  Calls Tryd.prog 95 #[.agg #[.int .i64 E,.int .i64 F],.int .u64 b] w fun e w' => e = .returned (.bool false) ∧ Below w.heap.size w w' := by
 have H0 := hide h0
 have HB := hide hb
 clear h0 hb
 go_enter Tryd.func95,Tryd.ntmps95
 go_wp2_with fail
 refine (rcheck_ok _ _ _ (unhide H0)).mono ?_
 rintro e w1 ⟨rfl,hb1⟩
 have hS := (Fs.one w _ _).kept hb1
 obtain ⟨⟨z1_0_0,z1_0_1,-⟩,-⟩ := hS.cells
 go_wp2_with fail
 refine (rfits_many _ _ _ (unhide H0) (unhide HB) hb64 _).mono ?_
 rintro e w2 ⟨rfl,hb2⟩
 replace hS := hS.kept hb2
 clear z1_0_0 z1_0_1
 obtain ⟨⟨z2_0_0,z2_0_1,-⟩,-⟩ := hS.cells
 go_wp2
 go_ret
 exact ⟨rfl,hS.fr⟩
set_option maxHeartbeats 400000 in
theorem tis_ok (E F b : Nat) (h0 : Fo E F) (hb : b < 2 ^ (F + E + 1)) (w : World)  :
  Calls Tryd.prog 95 #[.agg #[.int .i64 E,.int .i64 F],.int .u64 b] w fun e w' => e = .returned (.bool true) ∧ Below w.heap.size w w' := by
 have H0 := hide h0
 have HB := hide hb
 clear h0 hb
 go_enter Tryd.func95,Tryd.ntmps95
 go_wp2_with fail
 refine (rcheck_ok _ _ _ (unhide H0)).mono ?_
 rintro e w1 ⟨rfl,hb1⟩
 have hS := (Fs.one w _ _).kept hb1
 obtain ⟨⟨z1_0_0,z1_0_1,-⟩,-⟩ := hS.cells
 go_wp2_with fail
 refine (rfits_ok _ _ _ (unhide H0) (unhide HB) _).mono ?_
 rintro e w2 ⟨rfl,hb2⟩
 replace hS := hS.kept hb2
 clear z1_0_0 z1_0_1
 obtain ⟨⟨z2_0_0,z2_0_1,-⟩,-⟩ := hS.cells
 go_wp2
 go_ret
 exact ⟨rfl,hS.fr⟩
set_option maxHeartbeats 400000 in
theorem rfin_yes (E F b ex fr : Nat) (s : Bool) (h0 : Fo E F) (hB : Bt E F b s ex fr) (c : Nat) (hc : cls ex fr (2 ^ E - 1) = c) (h3 : c ≤ 3) (w : World)  :
  Calls Tryd.prog 96 #[.agg #[.int .i64 E,.int .i64 F],.int .u64 b] w fun e w' => e = .returned (.bool true) ∧ Below w.heap.size w w' := by
 have H0 := hide h0
 have HB := hide hB
 have HC : Hid (∀ W,Calls Tryd.prog 144 #[.agg #[.int .i64 E,.int .i64 F],.int .u64 b] W fun e w' => e = .returned (.tuple #[.int .u8 (c : Int),.int .i64 0]) ∧ Below W.heap.size W w') := hide (fun W => by
  have := rClass_ok E F b ex fr s h0 hB (2 ^ E - 1) (hide rfl) W
  rw [hc] at this
  exact this)
 clear h0 hB hc
 go_enter Tryd.func96,Tryd.ntmps96
 go_wp2_with fail
 refine (unhide HC _).mono ?_
 rintro e w1 ⟨rfl,hb1⟩
 have hS := (Fs.one w _ _).kept hb1
 obtain ⟨⟨z1_0_0,z1_0_1,-⟩,-⟩ := hS.cells
 go_wp2
 go_ret
 exact ⟨ret_bool (by simp <;> omega),hS.fr⟩
set_option maxHeartbeats 400000 in
theorem rfin_no (E F b ex fr : Nat) (s : Bool) (h0 : Fo E F) (hB : Bt E F b s ex fr) (c : Nat) (hc : cls ex fr (2 ^ E - 1) = c) (h3 : 3 < c) (w : World)  :
  Calls Tryd.prog 96 #[.agg #[.int .i64 E,.int .i64 F],.int .u64 b] w fun e w' => e = .returned (.bool false) ∧ Below w.heap.size w w' := by
 have H0 := hide h0
 have HB := hide hB
 have HC : Hid (∀ W,Calls Tryd.prog 144 #[.agg #[.int .i64 E,.int .i64 F],.int .u64 b] W fun e w' => e = .returned (.tuple #[.int .u8 (c : Int),.int .i64 0]) ∧ Below W.heap.size W w') := hide (fun W => by
  have := rClass_ok E F b ex fr s h0 hB (2 ^ E - 1) (hide rfl) W
  rw [hc] at this
  exact this)
 clear h0 hB hc
 go_enter Tryd.func96,Tryd.ntmps96
 go_wp2_with fail
 refine (unhide HC _).mono ?_
 rintro e w1 ⟨rfl,hb1⟩
 have hS := (Fs.one w _ _).kept hb1
 obtain ⟨⟨z1_0_0,z1_0_1,-⟩,-⟩ := hS.cells
 go_wp2
 go_ret
 exact ⟨ret_bool (by simp <;> omega),hS.fr⟩
set_option maxHeartbeats 400000 in
theorem tfinite_bad (E F : Int) (hbad : NoFo E F) (b : Int) (w : World)  :
  Calls Tryd.prog 47 #[.agg #[.int .i64 E,.int .i64 F],.int .u64 b] w fun e w' => e = .returned (.bool false) ∧ Below w.heap.size w w' := by
 have HB := hide hbad
 clear hbad
 go_enter Tryd.func47,Tryd.ntmps47
 go_wp2_with fail
 refine (tis_bad _ _ (unhide HB) _ _).mono ?_
 rintro e w1 ⟨rfl,hb1⟩
 have hS := (Fs.one w _ _).kept hb1
 obtain ⟨⟨z1_0_0,z1_0_1,-⟩,-⟩ := hS.cells
 go_wp2
 go_ret
 exact ⟨rfl,hS.fr⟩
set_option maxHeartbeats 400000 in
theorem tfinite_many (E F b : Nat) (h0 : Fo E F) (hb : 2 ^ (F + E + 1) ≤ b) (hb64 : b < 18446744073709551616) (w : World)  :
  Calls Tryd.prog 47 #[.agg #[.int .i64 E,.int .i64 F],.int .u64 b] w fun e w' => e = .returned (.bool false) ∧ Below w.heap.size w w' := by
 have H0 := hide h0
 have HB := hide hb
 clear h0 hb
 go_enter Tryd.func47,Tryd.ntmps47
 go_wp2_with fail
 refine (tis_many _ _ _ (unhide H0) (unhide HB) hb64 _).mono ?_
 rintro e w1 ⟨rfl,hb1⟩
 have hS := (Fs.one w _ _).kept hb1
 obtain ⟨⟨z1_0_0,z1_0_1,-⟩,-⟩ := hS.cells
 go_wp2
 go_ret
 exact ⟨rfl,hS.fr⟩
set_option maxHeartbeats 400000 in
theorem tfinite_yes (E F b ex fr : Nat) (s : Bool) (h0 : Fo E F) (hB : Bt E F b s ex fr) (c : Nat) (hc : cls ex fr (2 ^ E - 1) = c) (h3 : c ≤ 3) (w : World)  :
  Calls Tryd.prog 47 #[.agg #[.int .i64 E,.int .i64 F],.int .u64 b] w fun e w' => e = .returned (.bool true) ∧ Below w.heap.size w w' := by
 have hb := hB.lt
 have H0 := hide h0
 have HB := hide hB
 have HC := hide hc
 have HL := hide hb
 clear h0 hB hc hb
 go_enter Tryd.func47,Tryd.ntmps47
 go_wp2_with fail
 refine (tis_ok _ _ _ (unhide H0) (unhide HL) _).mono ?_
 rintro e w1 ⟨rfl,hb1⟩
 have hS := (Fs.one w _ _).kept hb1
 obtain ⟨⟨z1_0_0,z1_0_1,-⟩,-⟩ := hS.cells
 go_wp2_with fail
 refine (rfin_yes E F b ex fr s (unhide H0) (unhide HB) c (unhide HC) h3 _).mono ?_
 rintro e w2 ⟨rfl,hb2⟩
 replace hS := hS.kept hb2
 clear z1_0_0 z1_0_1
 obtain ⟨⟨z2_0_0,z2_0_1,-⟩,-⟩ := hS.cells
 go_wp2
 go_ret
 exact ⟨rfl,hS.fr⟩
set_option maxHeartbeats 400000 in
theorem tfinite_no (E F b ex fr : Nat) (s : Bool) (h0 : Fo E F) (hB : Bt E F b s ex fr) (c : Nat) (hc : cls ex fr (2 ^ E - 1) = c) (h3 : 3 < c) (w : World)  :
  Calls Tryd.prog 47 #[.agg #[.int .i64 E,.int .i64 F],.int .u64 b] w fun e w' => e = .returned (.bool false) ∧ Below w.heap.size w w' := by
 have hb := hB.lt
 have H0 := hide h0
 have HB := hide hB
 have HC := hide hc
 have HL := hide hb
 clear h0 hB hc hb
 go_enter Tryd.func47,Tryd.ntmps47
 go_wp2_with fail
 refine (tis_ok _ _ _ (unhide H0) (unhide HL) _).mono ?_
 rintro e w1 ⟨rfl,hb1⟩
 have hS := (Fs.one w _ _).kept hb1
 obtain ⟨⟨z1_0_0,z1_0_1,-⟩,-⟩ := hS.cells
 go_wp2_with fail
 refine (rfin_no E F b ex fr s (unhide H0) (unhide HB) c (unhide HC) h3 _).mono ?_
 rintro e w2 ⟨rfl,hb2⟩
 replace hS := hS.kept hb2
 clear z1_0_0 z1_0_1
 obtain ⟨⟨z2_0_0,z2_0_1,-⟩,-⟩ := hS.cells
 go_wp2
 go_ret
 exact ⟨rfl,hS.fr⟩
theorem shl_nought (E F b : Nat) (h0 : Fo E F) (s : Bool) (ex fr : Nat) (hB : Bt E F b s ex fr) : (IntKind.u64.wrap (IntKind.u64.wrap ((b : Int) * 2 ^ (63 - E - F)) * 2) == 0) = decide (ex = 0 ∧ fr = 0) := by
 have hE := h0.e11
 have hF := h0.f52
 have h1 := hB.low
 have e1 : (b : Int) * 2 ^ (63 - E - F) = ((b * 2 ^ (63 - E - F) : Nat) : Int) := by simp
 have e2 : b = s.toNat * 2 ^ (F + E) + (ex * 2 ^ F + fr) := hB.eq
 have e3 : 2 ^ (F + E) * 2 ^ (63 - E - F) = 9223372036854775808 := by rw [← Nat.pow_add,show F + E + (63 - E - F) = 63 from by omega]
 obtain ⟨P,hP⟩ : ∃ P,P = 2 ^ (63 - E - F) := ⟨_,rfl⟩
 obtain ⟨Q,hQ⟩ : ∃ Q,Q = ex * 2 ^ F + fr := ⟨_,rfl⟩
 obtain ⟨R,hR⟩ : ∃ R,R = 2 ^ (F + E) := ⟨_,rfl⟩
 rw [← hP,← hR] at e3
 rw [← hQ,← hR] at e2
 rw [← hQ,← hR] at h1
 have hP0 : 0 < P := by rw [hP]; exact pow_pos2 _
 have e4 : b * P = s.toNat * 9223372036854775808 + Q * P := by rw [e2,Nat.add_mul,Nat.mul_assoc,e3]
 have hQP : Q * P < 9223372036854775808 := by rw [← e3]; exact Nat.mul_lt_mul_of_pos_right h1 hP0
 have hs : s.toNat ≤ 1 := by cases s <;> simp
 rw [e1,← hP,e4,IntKind.wrap_u64,IntKind.wrap_u64]
 have hz : Q = 0 ↔ ex = 0 ∧ fr = 0 := by
  rw [hQ]
  constructor
  ·intro h
   have hp := pow_pos2 F
   have : ex * 2 ^ F = 0 := by omega
   rcases Nat.mul_eq_zero.1 this with h2 | h2
   ·exact ⟨h2,by omega⟩
   ·omega
  ·rintro ⟨rfl,rfl⟩; simp
 have hqz : Q * P = 0 ↔ Q = 0 := by
  constructor
  ·intro h
   rcases Nat.mul_eq_zero.1 h with h2 | h2
   ·exact h2
   ·omega
  ·intro h; rw [h,Nat.zero_mul]
 rw [Bool.eq_iff_iff]
 simp only [beq_iff_eq,decide_eq_true_eq]
 rw [← hz,← hqz]
 rcases (show s.toNat = 0 ∨ s.toNat = 1 by omega) with h | h <;> rw [h] <;> omega
set_option maxHeartbeats 400000 in
theorem tnought_any (E F b ex fr : Nat) (s : Bool) (h0 : Fo E F) (hB : Bt E F b s ex fr) (z : Bool) (hz : z = decide (ex = 0 ∧ fr = 0)) (w : World)  :
  Calls Tryd.prog 48 #[.agg #[.int .i64 E,.int .i64 F],.int .u64 b] w fun e w' => e = .returned (.bool z) ∧ Below w.heap.size w w' := by
 have hE := h0.e11
 have hF := h0.f52
 have HE := hide (shl_nought E F b h0 s ex fr hB)
 rw [← hz] at HE
 clear h0 hB hz
 go_enter Tryd.func48,Tryd.ntmps48
 go_wp2
 go_ret
 exact ⟨ret_bool (unhide HE),gr_alloc _ _⟩
end Go.Proofs.YtjemjhaphannaaaDoor
