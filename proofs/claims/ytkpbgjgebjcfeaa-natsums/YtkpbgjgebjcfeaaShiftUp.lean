/- The call nat.shiftUp answers the limbs, times a power of two, in a row of its own. -/
import Derived.Test.YtkpbgjgebjcfeaaNums
import Derived.Test.YtkpbgjgebjcfeaaPlainB
namespace Go.Proofs.Ytkpbgjgebjcfeaa
open Go.RowKit

theorem bits_or_u32 (a b : Nat) (ha : a < 4294967296) (hb : b < 4294967296) : Go.bits .or .u32 (a : Int) (b : Int) = ((a ||| b : Nat) : Int) := by
  have hx : a ||| b < 2 ^ 32 := Nat.or_lt_two_pow (by omega) (by omega)
  have h1 : (BitVec.ofInt 32 (a : Int)).toNat = a := by rw [BitVec.ofInt_natCast, BitVec.toNat_ofNat]; exact Nat.mod_eq_of_lt (by omega)
  have h2 : (BitVec.ofInt 32 (b : Int)).toNat = b := by rw [BitVec.ofInt_natCast, BitVec.toNat_ofNat]; exact Nat.mod_eq_of_lt (by omega)
  show IntKind.u32.wrap ((BitVec.ofInt 32 (a : Int) ||| BitVec.ofInt 32 (b : Int)).toNat : Int) = _
  rw [BitVec.toNat_or, h1, h2, IntKind.wrap_u32]
  omega
theorem pow_lt32 {pt : Nat} (h : pt < 32) : 2 ^ pt ≤ 2147483648 := Nat.pow_le_pow_right (show 0 < 2 by decide) (show pt ≤ 31 by omega)
theorem mul_lt63 {x pt : Nat} (hx : x < 4294967296) (h : pt < 32) : x * 2 ^ pt < 9223372036854775808 := by
  have h1 := pow_lt32 h
  have : x * 2 ^ pt ≤ 4294967295 * 2147483648 := Nat.mul_le_mul (by omega) h1
  omega
theorem sh_wrap {x k pt : Nat} (hx : x < 4294967296) (hk : k % 32 = pt) (h : pt < 32) : IntKind.u64.wrap ((x : Int) * 2 ^ (k % 32)) = ((x * 2 ^ pt : Nat) : Int) := by
  have := mul_lt63 hx h
  rw [hk, IntKind.wrap_u64]
  have e : (x : Int) * 2 ^ pt = ((x * 2 ^ pt : Nat) : Int) := by push_cast; rfl
  rw [e]
  omega
theorem pow_split {pt : Nat} (h : pt < 32) : 4294967296 = 2 ^ pt * 2 ^ (32 - pt) := by
  rw [← Nat.pow_add, show pt + (32 - pt) = 32 by omega]
theorem sh_low {x pt : Nat} (h : pt < 32) : x * 2 ^ pt % 4294967296 = 2 ^ pt * (x % 2 ^ (32 - pt)) := by
  rw [pow_split h, Nat.mul_comm x, Nat.mul_mod_mul_left]
theorem or_low {c x pt : Nat} (hc : c < 2 ^ pt) (h : pt < 32) : Go.bits .or .u32 (c : Int) (((x * 2 ^ pt : Nat) : Int) % 4294967296) = ((c + x * 2 ^ pt % 4294967296 : Nat) : Int) := by
  have h1 := pow_lt32 h
  rw [show (((x * 2 ^ pt : Nat) : Int) % 4294967296) = ((x * 2 ^ pt % 4294967296 : Nat) : Int) by omega, bits_or_u32 _ _ (by omega) (by omega)]
  congr 1
  rw [sh_low h, Nat.or_comm, ← Nat.two_pow_add_eq_or_of_lt hc, Nat.add_comm]
theorem or_high {x pt : Nat} (hx : x < 4294967296) (h : pt < 32) : Go.bits .or .u32 (0 : Int) (((x * 2 ^ pt : Nat) : Int) / 4294967296 % 4294967296) = ((x * 2 ^ pt / 4294967296 : Nat) : Int) := by
  have := mul_lt63 hx h
  rw [show (((x * 2 ^ pt : Nat) : Int) / 4294967296 % 4294967296) = ((x * 2 ^ pt / 4294967296 : Nat) : Int) by omega]
  have := bits_or_u32 0 (x * 2 ^ pt / 4294967296) (by omega) (by omega)
  rw [Nat.zero_or] at this
  exact this
theorem high_lt {x pt : Nat} (hx : x < 4294967296) : x * 2 ^ pt / 4294967296 < 2 ^ pt := by
  rw [Nat.div_lt_iff_lt_mul (by decide), Nat.mul_comm]
  exact Nat.mul_lt_mul_of_pos_left hx (Nat.pow_pos (by decide))
theorem low_lt {c x pt : Nat} (hc : c < 2 ^ pt) (h : pt < 32) : c + x * 2 ^ pt % 4294967296 < 4294967296 := by
  rw [sh_low h]
  have h2 : x % 2 ^ (32 - pt) < 2 ^ (32 - pt) := Nat.mod_lt _ (Nat.pow_pos (by decide))
  have h3 : 2 ^ pt * (x % 2 ^ (32 - pt) + 1) ≤ 2 ^ pt * 2 ^ (32 - pt) := Nat.mul_le_mul_left _ h2
  rw [← pow_split h, Nat.mul_add, Nat.mul_one] at h3
  omega
/-- One step. -/
theorem up_step {o p c x t B B' s lo hi : Nat} (hB : B' = B * 4294967296) (h : o + B * c = p * s) (ht : t = x * s) (e : t = 4294967296 * hi + lo) : (o + B * (c + lo)) + B' * hi = (p + B * x) * s := by
  subst hB
  have e1 : B * t = B * 4294967296 * hi + B * lo := by rw [e, Nat.mul_add, Nat.mul_assoc]
  have e2 : (p + B * x) * s = p * s + B * t := by rw [ht, Nat.add_mul, Nat.mul_assoc]
  rw [e2, Nat.mul_add, e1]
  omega
theorem up_set1 (wh m c v : Nat) (os : List Nat) : (List.replicate wh 0 ++ (os ++ c :: List.replicate (m + 1) 0)).set (wh + os.length) v = List.replicate wh 0 ++ ((os ++ [v]) ++ 0 :: List.replicate m 0) := by
  rw [List.set_append_right _ _ (by simp), List.length_replicate, Nat.add_sub_cancel_left, List.set_append_right _ _ (by omega), Nat.sub_self]
  simp [List.replicate_succ]
theorem up_set2 (wh m v : Nat) (os : List Nat) : (List.replicate wh 0 ++ (os ++ 0 :: List.replicate m 0)).set (wh + os.length) v = List.replicate wh 0 ++ (os ++ v :: List.replicate m 0) := by
  rw [List.set_append_right _ _ (by simp), List.length_replicate, Nat.add_sub_cancel_left, List.set_append_right _ _ (by omega), Nat.sub_self]
  simp
theorem up_at1 (wh c : Nat) (os r : List Nat) : (List.replicate wh 0 ++ (os ++ c :: r))[wh + os.length]?.getD 0 = c := by
  rw [List.getElem?_append_right (by simp), List.length_replicate, Nat.add_sub_cancel_left, List.getElem?_append_right (by omega), Nat.sub_self]
  simp
theorem up_at2 (wh c m : Nat) (os : List Nat) : (List.replicate wh 0 ++ (os ++ c :: List.replicate (m + 1) 0))[wh + os.length + 1]?.getD 0 = 0 := by
  rw [List.getElem?_append_right (by simp; omega), List.length_replicate, List.getElem?_append_right (by omega)]
  rw [show wh + os.length + 1 - wh - os.length = 0 + 1 by omega, List.getElem?_cons_succ]
  simp
/-- The end: whole limbs and the part. -/
theorem up_end {v x wh pt k c n : Nat} (hk : k = 32 * wh + pt) (h : v + 4294967296 ^ n * c = x * 2 ^ pt) : 4294967296 ^ wh * (v + 4294967296 ^ n * c) = x * 2 ^ k := by
  rw [h, hk, Nat.pow_add, Nat.pow_mul, Nat.mul_left_comm]

set_option maxHeartbeats 400000 in
theorem shiftUp_some (b off cap n wh pt k : Nat) (xs : List Nat) (w : World) (hn : Hid (xs.length = n)) (hlen : n ≤ 20000) (hx : Pl.Wf xs) (hlt : b < w.heap.size) (hk : Hid (k = 32 * wh + pt)) (hpt : pt < 32) (hwh : wh ≤ 20000)
    (hc : ∀ j, j < n → w.cell? ⟨b, off + j, none⟩ = some (.int .u32 ((xs[j]?.getD 0 : Nat) : Int))) :
    Calls Try.prog 51 #[.slice (some ⟨b, off, none⟩) n cap, .int .i64 (k : Int)] w
      fun e w' => ∃ (out : List Nat), e = .returned (.slice (some ⟨w.heap.size, 0, none⟩) (wh + n + 1) (wh + n + 1)) ∧ out.length = wh + n + 1 ∧ Pl.Wf out ∧ Pl.val out = Pl.val xs * 2 ^ k ∧ Row w' w.heap.size out ∧ Below w.heap.size w w' := by
  have hmk := make_limbs ((wh : Int) + (n : Int) + 1) (wh + n + 1) (by omega) (by omega)
  have hq : (k : Int) / 32 = (wh : Int) := by have := unhide hk; omega
  have hr : (k : Int) % 32 = (pt : Int) := by have := unhide hk; omega
  have HP : Hid (k % 32 = pt) := by have := unhide hk; exact hide (by omega)
  go_enter Try.func51, Try.ntmps51
  go_wp2
  clear hmk hq hr
  go_loopw [23] (fun i wr => ∃ (j c : Nat) (os : List Nat), j ≤ n ∧ i = .int .i64 (j : Int) ∧ c < 2 ^ pt ∧ os.length = j ∧ Pl.Wf os ∧ Pl.val os + 4294967296 ^ j * c = Pl.val (xs.take j) * 2 ^ pt ∧
      Row wr w.heap.size (List.replicate wh 0 ++ (os ++ c :: List.replicate (n - j) 0)) ∧ Below w.heap.size w wr) (fun i _ => n - (intOf i).toNat)
  case atStart =>
    refine ⟨0, 0, [], Nat.zero_le _, rfl, Nat.pow_pos (by decide), rfl, Pl.wf_nil, by simp [Pl.val], ?_, gr_alloc _ _⟩
    have e : List.replicate wh 0 ++ ([] ++ 0 :: List.replicate (n - 0) 0) = List.replicate (wh + n + 1) 0 := by
      rw [List.nil_append, Nat.sub_zero, ← List.replicate_succ, List.replicate_append_replicate, Nat.add_assoc]
    rw [e]
    exact Row.made _ _
  case round =>
    obtain ⟨j, c, os, hj, rfl, hcl, hol, how, hval, hr, hbel⟩ := hrel
    have hxl := unhide hn
    by_cases hjn : j < n
    · obtain ⟨x, hxx⟩ : ∃ x, x = xs[j]?.getD 0 := ⟨_, rfl⟩
      obtain ⟨m, hm⟩ : ∃ m, n - j = m + 1 := ⟨n - j - 1, by omega⟩
      rw [hm] at hr
      have hx1 : x < 4294967296 := by rw [hxx]; exact Pl.wf_at hx j
      have hcx : wr.cell? ⟨b, off + j, none⟩ = some (.int .u32 (x : Int)) := by rw [hxx]; exact (hbel.cell (by exact hlt)).trans (hc j hjn)
      have hc1 := hr.cell (wh + j) (by simp; omega)
      have hc2 := hr.cell (wh + j + 1) (by simp; omega)
      rw [← hol, up_at1] at hc1
      rw [← hol, up_at2] at hc2
      rw [hol] at hc1 hc2
      have hf1 := hr.frozen (wh + j)
      have hf2 := hr.frozen (wh + j + 1)
      have HR : Hid (∀ v1 v2 : Nat, Row ((wr.setCell ⟨w.heap.size, wh + j, none⟩ (.int .u32 (v1 : Int))).setCell ⟨w.heap.size, wh + j + 1, none⟩ (.int .u32 (v2 : Int))) w.heap.size (List.replicate wh 0 ++ ((os ++ [v1]) ++ v2 :: List.replicate m 0))) := fun v1 v2 => by
        have h1 := hr.set (wh + j) v1 (by simp; omega)
        rw [← hol, up_set1] at h1
        have h2 := h1.set (wh + (os ++ [v1]).length) v2 (by simp)
        rw [up_set2] at h2
        rw [← hol]
        simpa [Nat.add_assoc] using h2
      have HV : Hid (∀ lo hi : Nat, x * 2 ^ pt = 4294967296 * hi + lo → Pl.val (os ++ [c + lo]) + 4294967296 ^ (j + 1) * hi = Pl.val (xs.take (j + 1)) * 2 ^ pt) := fun lo hi e => by
        rw [Pl.val_append, Pl.val_one, hol, Pl.val_take_any xs j, ← hxx]
        exact up_step (Nat.pow_succ ..) hval rfl e
      have HM := hide hm
      clear hval hxx hr hxl hc hm
      go_wp2
      go_roundw
      case rel =>
        rw [sh_wrap hx1 (unhide HP) hpt, or_low hcl hpt, or_high hx1 hpt]
        have hm := unhide HM
        refine ⟨j + 1, x * 2 ^ pt / 4294967296, os ++ [c + x * 2 ^ pt % 4294967296], by omega, by go_num, high_lt hx1, by simp [hol], Pl.wf_append how (Pl.wf_one (low_lt hcl hpt)), unhide HV _ _ (Nat.div_add_mod _ _).symm, ?_, (hbel.setCell (Nat.le_refl _) _).setCell (Nat.le_refl _) _⟩
        rw [show n - (j + 1) = m by omega]
        exact unhide HR _ _
      case measure => simp [intOf]; omega
    · have hje : j = n := by omega
      subst hje
      rw [List.take_of_length_le (by omega)] at hval
      rw [Nat.sub_self] at hr
      have hc32 := pow_lt32 hpt
      have HV : Hid (Pl.val (List.replicate wh 0 ++ (os ++ [c])) = Pl.val xs * 2 ^ k) := by
        rw [Pl.val_append, Pl.val_replicate, List.length_replicate, Nat.zero_add, Pl.val_append, Pl.val_one, hol]
        exact up_end (unhide hk) hval
      have HW : Hid (Pl.Wf (List.replicate wh 0 ++ (os ++ [c]))) := Pl.wf_append (Pl.wf_replicate wh) (Pl.wf_append how (Pl.wf_one (by omega)))
      have HR := hide hr
      clear hval hr hc hxl
      go_wp2
      go_ret
      exact ⟨List.replicate wh 0 ++ (os ++ [c]), rfl, by simp [hol]; omega, unhide HW, unhide HV, unhide HR, hbel⟩

set_option maxHeartbeats 400000 in
theorem shiftUp_none (a : Option Addr) (cap wh pt k : Nat) (w : World) (hk : Hid (k = 32 * wh + pt)) (hpt : pt < 32) (hwh : wh ≤ 20000) :
    Calls Try.prog 51 #[.slice a 0 cap, .int .i64 (k : Int)] w
      fun e w' => ∃ (out : List Nat), e = .returned (.slice (some ⟨w.heap.size, 0, none⟩) (wh + 1) (wh + 1)) ∧ out.length = wh + 1 ∧ Pl.Wf out ∧ Pl.val out = 0 ∧ Row w' w.heap.size out ∧ Below w.heap.size w w' := by
  have hmk := make_limbs ((wh : Int) + 1) (wh + 1) (by omega) (by omega)
  have hq : (k : Int) / 32 = (wh : Int) := by have := unhide hk; omega
  have hr : (k : Int) % 32 = (pt : Int) := by have := unhide hk; omega
  go_enter Try.func51, Try.ntmps51
  go_wp2
  refine wp_loop_rounds 1 ?_
  rw [rounds_succ]
  go_wp2
  go_ret
  exact ⟨List.replicate (wh + 1) 0, rfl, List.length_replicate, Pl.wf_replicate _, Pl.val_replicate _, Row.made _ _, gr_alloc _ _⟩

/-- Whatever limbs. -/
theorem shiftUp_any (a : Option Addr) (n cap wh pt k : Nat) (xs : List Nat) (w : World) (hn : xs.length = n) (hlen : n ≤ 20000) (hl : Lim w a xs) (hx : Pl.Wf xs) (hk : k = 32 * wh + pt) (hpt : pt < 32) (hwh : wh ≤ 20000) :
    Calls Try.prog 51 #[.slice a n cap, .int .i64 (k : Int)] w
      fun e w' => ∃ (out : List Nat), e = .returned (.slice (some ⟨w.heap.size, 0, none⟩) (wh + n + 1) (wh + n + 1)) ∧ out.length = wh + n + 1 ∧ Pl.Wf out ∧ Pl.val out = Pl.val xs * 2 ^ k ∧ Row w' w.heap.size out ∧ Below w.heap.size w w' := by
  rcases hl.parts with h0 | ⟨_, b, off, rfl, hlt, hc⟩
  · subst h0
    obtain rfl : n = 0 := by rw [← hn]; rfl
    refine (shiftUp_none a cap wh pt k w (hide hk) hpt hwh).mono ?_
    rintro e w' ⟨out, he, h1, h2, h3, h4, h5⟩
    exact ⟨out, he, h1, h2, by rw [h3]; simp [Pl.val], h4, h5⟩
  · exact shiftUp_some b off cap n wh pt k xs w (hide hn) hlen hx hlt (hide hk) hpt hwh (fun j hj => hc j (by omega))

end Go.Proofs.Ytkpbgjgebjcfeaa
