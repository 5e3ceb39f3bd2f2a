/- Fields taken out of bits, and put in. -/
import Derived.Test.YtafeioonnhnpcaaFmLeaf
namespace Go.Proofs.Ytafeioonnhnpcaa
open Go.RowKit

/-- The bits b have these fields. -/
structure Bt (E F b : Nat) (neg : Bool) (ex fr : Nat) : Prop where
  fr_lt : fr < 2 ^ F
  ex_lt : ex < 2 ^ E
  eq : b = neg.toNat * 2 ^ (F + E) + (ex * 2 ^ F + fr)

theorem Bt.low {E F b ex fr : Nat} {neg : Bool} (h : Bt E F b neg ex fr) : ex * 2 ^ F + fr < 2 ^ (F + E) := by
  have h1 := h.fr_lt
  have h2 : (ex + 1) * 2 ^ F ≤ 2 ^ E * 2 ^ F := Nat.mul_le_mul_right _ h.ex_lt
  rw [Nat.add_mul, Nat.one_mul, ← Nat.pow_add, Nat.add_comm E F] at h2
  omega
theorem Bt.lt {E F b ex fr : Nat} {neg : Bool} (h : Bt E F b neg ex fr) : b < 2 ^ (F + E + 1) := by
  have h1 := h.low
  have h2 := h.eq
  rw [Nat.pow_succ]
  cases neg <;> simp at h2 <;> omega
theorem Bt.of (E F b : Nat) (hb : b < 2 ^ (F + E + 1)) : Bt E F b (decide (b / 2 ^ (F + E) = 1)) (b % 2 ^ (F + E) / 2 ^ F) (b % 2 ^ F) := by
  have hq : b / 2 ^ (F + E) < 2 := by
    rw [Nat.div_lt_iff_lt_mul (pow_pos2 _)]
    rw [Nat.pow_succ] at hb
    omega
  have e1 := Nat.div_add_mod b (2 ^ (F + E))
  have e2 := Nat.div_add_mod (b % 2 ^ (F + E)) (2 ^ F)
  rw [Nat.mod_mod_of_dvd b (Nat.pow_dvd_pow 2 (by omega))] at e2
  refine ⟨Nat.mod_lt _ (pow_pos2 _), ?_, ?_⟩
  · rw [Nat.div_lt_iff_lt_mul (pow_pos2 _), ← Nat.pow_add, Nat.add_comm E F]
    exact Nat.mod_lt _ (pow_pos2 _)
  · rw [Nat.mul_comm (b % 2 ^ (F + E) / 2 ^ F), e2]
    by_cases h : b / 2 ^ (F + E) = 1
    · rw [h] at e1
      simp [h]; omega
    · have h0 : b / 2 ^ (F + E) = 0 := by generalize b / 2 ^ (F + E) = q at hq h; omega
      rw [h0] at e1
      simp [h]; omega
theorem Bt.sign {E F b ex fr : Nat} {neg : Bool} (h : Bt E F b neg ex fr) : b / 2 ^ (F + E) = neg.toNat := by
  rw [h.eq, Nat.mul_comm, Nat.mul_add_div (pow_pos2 _), Nat.div_eq_of_lt h.low, Nat.add_zero]
theorem Bt.rest {E F b ex fr : Nat} {neg : Bool} (h : Bt E F b neg ex fr) : b % 2 ^ (F + E) = ex * 2 ^ F + fr := by
  rw [h.eq, Nat.mul_comm, Nat.mul_add_mod, Nat.mod_eq_of_lt h.low]
theorem Bt.exp {E F b ex fr : Nat} {neg : Bool} (h : Bt E F b neg ex fr) : b % 2 ^ (F + E) / 2 ^ F = ex := by
  rw [h.rest, Nat.mul_comm, Nat.mul_add_div (pow_pos2 _), Nat.div_eq_of_lt h.fr_lt, Nat.add_zero]
theorem Bt.frac {E F b ex fr : Nat} {neg : Bool} (h : Bt E F b neg ex fr) : b % 2 ^ F = fr := by
  rw [← Nat.mod_mod_of_dvd b (Nat.pow_dvd_pow 2 (show F ≤ F + E by omega)), h.rest, Nat.mul_comm, Nat.mul_add_mod, Nat.mod_eq_of_lt h.fr_lt]
theorem Bt.up {E F b ex fr : Nat} {neg : Bool} (h : Bt E F b neg ex fr) : b / 2 ^ F = neg.toNat * 2 ^ E + ex := by
  rw [h.eq, Nat.pow_add, show neg.toNat * (2 ^ F * 2 ^ E) + (ex * 2 ^ F + fr) = 2 ^ F * (neg.toNat * 2 ^ E + ex) + fr by
    rw [Nat.mul_add, ← Nat.mul_assoc, Nat.mul_comm neg.toNat, Nat.mul_assoc, Nat.mul_comm ex]; omega,
    Nat.mul_add_div (pow_pos2 _), Nat.div_eq_of_lt h.fr_lt, Nat.add_zero]
theorem Bt.up_sign {E F b ex fr : Nat} {neg : Bool} (h : Bt E F b neg ex fr) : b / 2 ^ F / 2 ^ E = neg.toNat := by
  rw [h.up, Nat.mul_comm, Nat.mul_add_div (pow_pos2 _), Nat.div_eq_of_lt h.ex_lt, Nat.add_zero]
theorem Bt.up_exp {E F b ex fr : Nat} {neg : Bool} (h : Bt E F b neg ex fr) : b / 2 ^ F % 2 ^ E = ex := by
  rw [h.up, Nat.mul_comm, Nat.mul_add_mod, Nat.mod_eq_of_lt h.ex_lt]
theorem Fo.sum {E F : Nat} (h : Fo E F) : F + E ≤ 63 := by have := h.f52; have := h.e11; omega
theorem Bt.u64 {E F b ex fr : Nat} {neg : Bool} (h : Bt E F b neg ex fr) (f : Fo E F) : b < 18446744073709551616 := by
  have h1 := h.lt
  have h2 := pow_bound (show F + E + 1 ≤ 64 by have := f.sum; omega)
  omega
theorem Bt.fr64 {E F b ex fr : Nat} {neg : Bool} (h : Bt E F b neg ex fr) (f : Fo E F) : fr < 4503599627370496 := by
  have h1 := h.fr_lt
  have h2 := pow_bound f.f52
  omega
theorem Bt.ex64 {E F b ex fr : Nat} {neg : Bool} (h : Bt E F b neg ex fr) (f : Fo E F) : ex < 2048 := by
  have h1 := h.ex_lt
  have h2 := pow_bound f.e11
  omega

set_option maxHeartbeats 400000 in
theorem take2 (E F b ex fr : Nat) (neg : Bool) (w : World) (h : Fo E F) (hB : Bt E F b neg ex fr) : Calls Try.prog 51 #[.agg #[.int .i64 E, .int .i64 F], .int .u64 b, .int .i64 2] w fun e w' => e = .returned (.int .u64 (neg.toNat : Int)) ∧ Below w.heap.size w w' := by
  obtain ⟨k, hk⟩ : ∃ k, k = F + E := ⟨_, rfl⟩
  have HK := hide hk
  have hk63 : k ≤ 63 := by have := h.sum; omega
  obtain ⟨n, hn⟩ : ∃ n, n = neg.toNat := ⟨_, rfl⟩
  rw [← hn]
  have HN : Hid (n = b / 2 ^ k) := hide (by rw [hk, hB.sign, hn])
  clear hk hn hB
  go_enter Try.func51, Try.ntmps51
  go_wp2_with fail
  refine wp_loop_rounds 1 ?_
  rw [rounds_succ]
  go_wp2_with fail
  refine (place2 _ _ k _ h HK).mono ?_
  rintro e w1 ⟨rfl, hb1⟩
  go_wp2
  go_ret
  exact ⟨ret_u64 (by rw [unhide HN]; simp), gr_trans (gr_alloc _ _) hb1⟩

set_option maxHeartbeats 400000 in
theorem take1 (E F b ex fr : Nat) (neg : Bool) (w : World) (h : Fo E F) (hB : Bt E F b neg ex fr) : Calls Try.prog 51 #[.agg #[.int .i64 E, .int .i64 F], .int .u64 b, .int .i64 1] w fun e w' => e = .returned (.int .u64 (ex : Int)) ∧ Below w.heap.size w w' := by
  obtain ⟨m, hm⟩ : ∃ m, m = 2 ^ (F + E) := ⟨_, rfl⟩
  have HM := hide hm
  obtain ⟨c, hc⟩ : ∃ c, c = b % 2 ^ (F + E) := ⟨_, rfl⟩
  have hbn : Go.bits .andNot .u64 (b : Int) (m : Int) = (c : Int) := by rw [hm, clear_top b (F + E) h.sum hB.lt, hc]
  have hcl : c < 18446744073709551616 := by
    have h1 := pow_bound h.sum
    have h2 := Nat.mod_lt b (pow_pos2 (F + E))
    omega
  have HN : Hid (ex = c / 2 ^ F) := hide (by rw [hc, hB.exp])
  have h4 := h.f52
  clear hc hm hB
  go_enter Try.func51, Try.ntmps51
  go_wp2_with fail
  refine wp_loop_rounds 2 ?_
  rw [rounds_succ]
  go_wp2_with fail
  refine (mask2 _ _ m _ h HM).mono ?_
  rintro e w1 ⟨rfl, hb1⟩
  obtain ⟨hc1, hf1⟩ := bcell hb1
  go_wp2_with fail
  rw [rounds_succ]
  go_wp2_with fail
  refine (place1 _ _ _).mono ?_
  rintro e w2 ⟨rfl, hb2⟩
  go_wp2
  go_ret
  exact ⟨ret_u64 (by rw [unhide HN]; simp), gr_trans (gr_trans (gr_alloc _ _) hb1) hb2⟩

set_option maxHeartbeats 400000 in
theorem take0 (E F b ex fr : Nat) (neg : Bool) (w : World) (h : Fo E F) (hB : Bt E F b neg ex fr) : Calls Try.prog 51 #[.agg #[.int .i64 E, .int .i64 F], .int .u64 b, .int .i64 0] w fun e w' => e = .returned (.int .u64 (fr : Int)) ∧ Below w.heap.size w w' := by
  obtain ⟨m, hm⟩ : ∃ m, m = 2 ^ (F + E) := ⟨_, rfl⟩
  have HM := hide hm
  obtain ⟨m1, hm1⟩ : ∃ m1, m1 = (2 ^ E - 1) * 2 ^ F := ⟨_, rfl⟩
  have HM1 := hide hm1
  obtain ⟨c, hcl, hb1, hb2⟩ := clear_mid b E F h.sum hB.lt
  rw [← hm1] at hb1
  rw [← hm, hB.frac] at hb2
  have hfl := hB.fr64 h
  clear hm hm1 hB
  go_enter Try.func51, Try.ntmps51
  go_wp2_with fail
  refine wp_loop_rounds 3 ?_
  rw [rounds_succ]
  go_wp2_with fail
  refine (mask1 _ _ m1 _ h HM1).mono ?_
  rintro e w1 ⟨rfl, hb1⟩
  have hS := (Fs.one w _ _).kept hb1
  obtain ⟨⟨ca, cb, -⟩, -⟩ := hS.cells
  go_wp2_with fail
  rw [rounds_succ]
  go_wp2_with fail
  refine (mask2 _ _ m _ h HM).mono ?_
  rintro e w2 ⟨rfl, hb2⟩
  replace hS := hS.kept hb2
  clear ca cb
  obtain ⟨⟨ca, cb, -⟩, -⟩ := hS.cells
  go_wp2_with fail
  rw [rounds_succ]
  go_wp2_with fail
  refine (place0 _ _ _).mono ?_
  rintro e w3 ⟨rfl, hb3⟩
  go_wp2
  go_ret
  exact ⟨rfl, (hS.kept hb3).fr⟩

set_option maxHeartbeats 400000 in
theorem put1 (E F ex t : Nat) (w : World) (h : Fo E F) (hx : ex < 2 ^ E) (ht : Hid (t = ex * 2 ^ F)) : Calls Try.prog 67 #[.agg #[.int .i64 E, .int .i64 F], .int .u64 0, .int .i64 1, .int .u64 ex] w fun e w' => e = .returned (.int .u64 (t : Int)) ∧ Below w.heap.size w w' := by
  obtain ⟨m1, hm1⟩ : ∃ m1, m1 = (2 ^ E - 1) * 2 ^ F := ⟨_, rfl⟩
  have HM1 := hide hm1
  have hlt : ex * 2 ^ F < 18446744073709551616 := by
    have h1 := pow_bound (show E + F ≤ 63 by have := h.sum; omega)
    have : ex * 2 ^ F ≤ 2 ^ E * 2 ^ F := Nat.mul_le_mul_right _ (Nat.le_of_lt hx)
    rw [← Nat.pow_add] at this
    omega
  have h4 := h.f52
  have hz := clear_zero m1
  have HE : Hid (Go.bits .or .u64 0 (IntKind.u64.wrap ((ex : Int) * 2 ^ F)) = (t : Int)) := hide (by
    rw [shl_u64 ex F hlt, unhide ht]
    have := or_u64 0 (ex * 2 ^ F) 64 0 (by simp) (by omega) (by omega)
    simpa using this)
  clear hm1 hlt hx
  go_enter Try.func67, Try.ntmps67
  go_wp2_with fail
  refine (mask1 _ _ m1 _ h HM1).mono ?_
  rintro e w1 ⟨rfl, hb1⟩
  obtain ⟨hc1, hf1⟩ := bcell hb1
  go_wp2_with fail
  refine (place1 _ _ _).mono ?_
  rintro e w2 ⟨rfl, hb2⟩
  go_wp2
  go_ret
  exact ⟨ret_u64 (unhide HE), gr_trans (gr_trans (gr_alloc _ _) hb1) hb2⟩

set_option maxHeartbeats 400000 in
theorem put0 (E F ex t fr r : Nat) (w : World) (h : Fo E F) (hx : ex < 2 ^ E) (hf : fr < 2 ^ F) (ht : Hid (t = ex * 2 ^ F)) (hr : Hid (r = t + fr)) : Calls Try.prog 67 #[.agg #[.int .i64 E, .int .i64 F], .int .u64 t, .int .i64 0, .int .u64 fr] w fun e w' => e = .returned (.int .u64 (r : Int)) ∧ Below w.heap.size w w' := by
  obtain ⟨m1, hm1⟩ : ∃ m1, m1 = 2 ^ F - 1 := ⟨_, rfl⟩
  have HM1 := hide hm1
  have hB : Bt E F (ex * 2 ^ F + fr) false ex fr := ⟨hf, hx, by simp⟩
  have hlt := hB.u64 h
  have hz : Go.bits .andNot .u64 (t : Int) (m1 : Int) = (t : Int) := by
    rw [unhide ht, hm1]
    exact clear_none_low ex F (by omega)
  have hor : Go.bits .or .u64 (t : Int) (fr : Int) = (r : Int) := by
    rw [unhide hr]
    exact or_u64 t fr F ex (unhide ht) hf (by rw [unhide ht]; exact hlt)
  have hfl := hB.fr64 h
  clear hm1 hlt hx hf hB
  go_enter Try.func67, Try.ntmps67
  go_wp2_with fail
  refine (mask0 _ _ m1 _ h HM1).mono ?_
  rintro e w1 ⟨rfl, hb1⟩
  obtain ⟨hc1, hf1⟩ := bcell hb1
  go_wp2_with fail
  refine (place0 _ _ _).mono ?_
  rintro e w2 ⟨rfl, hb2⟩
  go_wp2
  go_ret
  exact ⟨rfl, gr_trans (gr_trans (gr_alloc _ _) hb1) hb2⟩

set_option maxHeartbeats 400000 in
theorem put2 (E F b r : Nat) (w : World) (h : Fo E F) (hb : b < 2 ^ (F + E)) (hr : Hid (r = b + 2 ^ (F + E))) : Calls Try.prog 67 #[.agg #[.int .i64 E, .int .i64 F], .int .u64 b, .int .i64 2, .int .u64 1] w fun e w' => e = .returned (.int .u64 (r : Int)) ∧ Below w.heap.size w w' := by
  obtain ⟨m, hm⟩ : ∃ m, m = 2 ^ (F + E) := ⟨_, rfl⟩
  have HM := hide hm
  obtain ⟨k, hk⟩ : ∃ k, k = F + E := ⟨_, rfl⟩
  have HK := hide hk
  have hk63 : k ≤ 63 := by have := h.sum; omega
  have hz : Go.bits .andNot .u64 (b : Int) (m : Int) = (b : Int) := by
    rw [hm]
    exact clear_none_top b (F + E) hb h.sum
  have HE : Hid (Go.bits .or .u64 (b : Int) (IntKind.u64.wrap (2 ^ k)) = (r : Int)) := hide (by
    have h1 := pow_bound hk63
    have h2 := shl_u64 1 k (by omega)
    rw [Nat.one_mul] at h2
    rw [show ((1 : Nat) : Int) * 2 ^ k = 2 ^ k by simp] at h2
    rw [h2, unhide hr, ← hk]
    rw [← hk] at hb
    have h3 := bits_or_u64_nat b (2 ^ k) (by omega) (by omega)
    have e : b ||| 2 ^ k = b + 2 ^ k := by
      have := Nat.two_pow_add_eq_or_of_lt (i := k) (b := b) hb 1
      rw [Nat.mul_one] at this
      rw [Nat.or_comm, ← this, Nat.add_comm]
    rw [h3, e])
  clear hm hk hb
  go_enter Try.func67, Try.ntmps67
  go_wp2_with fail
  refine (mask2 _ _ m _ h HM).mono ?_
  rintro e w1 ⟨rfl, hb1⟩
  obtain ⟨hc1, hf1⟩ := bcell hb1
  go_wp2_with fail
  refine (place2 _ _ k _ h HK).mono ?_
  rintro e w2 ⟨rfl, hb2⟩
  go_wp2
  go_ret
  exact ⟨ret_u64 (unhide HE), gr_trans (gr_trans (gr_alloc _ _) hb1) hb2⟩

set_option maxHeartbeats 400000 in
theorem join_any (E F b ex fr : Nat) (neg : Bool) (w : World) (h : Fo E F) (hB : Bt E F b neg ex fr) : Calls Try.prog 56 #[.agg #[.int .i64 E, .int .i64 F], .agg #[.bool neg, .int .i64 ex, .int .u64 fr]] w fun e w' => e = .returned (.int .u64 (b : Int)) ∧ Below w.heap.size w w' := by
  obtain ⟨t, ht⟩ : ∃ t, t = ex * 2 ^ F := ⟨_, rfl⟩
  obtain ⟨r, hr⟩ : ∃ r, r = t + fr := ⟨_, rfl⟩
  have HT := hide ht
  have HR := hide hr
  have hrl : Hid (r < 2 ^ (F + E)) := hide (by rw [hr, ht]; exact hB.low)
  have hexl := hB.ex64 h
  have HX := hide hB.ex_lt
  have HF := hide hB.fr_lt
  cases neg with
  | false =>
    have hbr : b = r := by have := hB.eq; simp at this; rw [hr, ht, this]
    rw [hbr]
    clear hbr ht hr hB
    go_enter Try.func56, Try.ntmps56
    go_wp2_with fail
    refine (put1 _ _ ex t _ h (unhide HX) HT).mono ?_
    rintro e w1 ⟨rfl, hb1⟩
    have hS := (Fs.two w _ _ _ _).kept hb1
    obtain ⟨⟨ca, cb, -⟩, ⟨cc, cd, ce, -⟩, -⟩ := hS.cells
    go_wp2_with fail
    refine (put0 _ _ ex t fr r _ h (unhide HX) (unhide HF) HT HR).mono ?_
    rintro e w2 ⟨rfl, hb2⟩
    replace hS := hS.kept hb2
    clear ca cb cc cd ce
    obtain ⟨⟨ca, cb, -⟩, ⟨cc, cd, ce, -⟩, -⟩ := hS.cells
    go_wp2
    go_ret
    exact ⟨rfl, hS.fr⟩
  | true =>
    have HB : Hid (b = r + 2 ^ (F + E)) := hide (by have := hB.eq; simp at this; rw [hr, ht, this]; omega)
    clear ht hr hB
    go_enter Try.func56, Try.ntmps56
    go_wp2_with fail
    refine (put1 _ _ ex t _ h (unhide HX) HT).mono ?_
    rintro e w1 ⟨rfl, hb1⟩
    have hS := (Fs.two w _ _ _ _).kept hb1
    obtain ⟨⟨ca, cb, -⟩, ⟨cc, cd, ce, -⟩, -⟩ := hS.cells
    go_wp2_with fail
    refine (put0 _ _ ex t fr r _ h (unhide HX) (unhide HF) HT HR).mono ?_
    rintro e w2 ⟨rfl, hb2⟩
    replace hS := hS.kept hb2
    clear ca cb cc cd ce
    obtain ⟨⟨ca, cb, -⟩, ⟨cc, cd, ce, -⟩, -⟩ := hS.cells
    go_wp2_with fail
    refine (put2 _ _ r b _ h (unhide hrl) HB).mono ?_
    rintro e w3 ⟨rfl, hb3⟩
    go_wp2
    go_ret
    exact ⟨rfl, (hS.kept hb3).fr⟩

end Go.Proofs.Ytafeioonnhnpcaa
