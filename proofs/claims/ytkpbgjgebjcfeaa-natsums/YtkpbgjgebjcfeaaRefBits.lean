/- The document's own limb, size, Bits and Bit. -/
import Derived.Test.YtkpbgjgebjcfeaaRefCheck
import Derived.Test.YtkpbgjgebjcfeaaUpDown
namespace Go.Proofs.Ytkpbgjgebjcfeaa
open Go.RowKit

/-- One limb of whatever list; nought beyond it. -/
theorem rlimb_any (a : Option Addr) (n cap i : Nat) (xs : List Nat) (w : World) (hn : xs.length = n) (hl : Lim w a xs) (hw : Pl.Wf xs) (hi : i < 9223372036854775808) :
    Calls Try.prog 65 #[.slice a n cap, .int .i64 (i : Int)] w fun e w' => e = .returned (.int .u64 ((xs[i]?.getD 0 : Nat) : Int)) ∧ w = w' := by
  by_cases hlt : i < n
  · rcases hl.parts with hx | ⟨hp, b, off, rfl, hltb, hc⟩
    · rw [hx] at hn; simp at hn; omega
    · have hcx := hc i (by omega)
      have hx1 := Pl.wf_at hw i
      have hli : (i : Int) < (n : Int) := by omega
      generalize xs[i]?.getD 0 = x at *
      clear hc hl hlt
      go_enter Try.func65, Try.ntmps65
      go_wp2
      go_ret
      exact ⟨rfl, rfl⟩
  · have hz : xs[i]?.getD 0 = 0 := by rw [List.getElem?_eq_none (by omega)]; rfl
    rw [hz]
    have hli : ¬ (i : Int) < (n : Int) := by omega
    clear hlt hz hl hn
    go_enter Try.func65, Try.ntmps65
    go_wp2
    go_ret
    exact ⟨rfl, rfl⟩

theorem bl_half {x k : Nat} (hx : x ≠ 0) (h : Bl (x / 2) k) : Bl x (k + 1) := by
  obtain ⟨h1, h2⟩ := h
  refine ⟨by rw [Nat.pow_succ]; omega, Or.inr ?_⟩
  rw [Nat.add_sub_cancel]
  rcases h2 with h2 | h2
  · subst h2; simp; omega
  · by_cases hz : k = 0
    · subst hz; simp; omega
    · have : 2 ^ k = 2 ^ (k - 1) * 2 := by rw [← Nat.pow_succ]; congr 1; omega
      omega

set_option maxHeartbeats 400000 in
theorem rsize_any (a : Option Addr) (n cap m : Nat) (w : World) (h : Num w a n m) :
    Calls Try.prog 61 #[.slice a n cap] w fun e w' => (∃ k : Nat, e = .returned (.int .i64 (k : Int)) ∧ Bl m k ∧ k ≤ 32 * n) ∧ w = w' := by
  obtain ⟨xs, hn, hl, hw, hN, hv, hb⟩ := h
  subst hn
  rcases hl.parts with hx | ⟨hp, b, off, rfl, hlt, hc⟩
  · subst hx
    go_enter Try.func61, Try.ntmps61
    go_wp2
    go_ret
    exact ⟨⟨0, rfl, by rw [← hv]; exact bl_zero, by omega⟩, rfl⟩
  · obtain ⟨l, hle⟩ : ∃ l, l = xs[xs.length - 1]?.getD 0 := ⟨_, rfl⟩
    have hcell := hc (xs.length - 1) (by omega)
    rw [← hle] at hcell
    have hll : l < 4294967296 := by rw [hle]; exact Pl.wf_at hw _
    have hB := bl_row hw hN hp l hle
    have hxl : ((xs.length : Int) == 0) = false := by simp; intro h; simp [h] at hp
    obtain ⟨hB1, hB2, hB3⟩ := hB
    rw [hv] at hB1
    have HB := hide hB1
    have HL := hide (bl_bitLen 64 l (by omega) (by omega))
    generalize hbl : Lib.bitLen l = bl at *
    have hnl : xs.length ≤ 16384 := hb
    have hnp : 0 < xs.length := hp
    generalize xs.length = n at *
    clear hB1 hle hc hl hv hN hw hbl
    go_enter Try.func61, Try.ntmps61
    go_wp2
    go_loopw [3, 4] (fun s3 s4 wr => ∃ (x k j : Nat), s4 = .int .u32 (x : Int) ∧ x < 4294967296 ∧ s3 = .int .i64 (32 * ((n : Int) - 1) + (j : Int)) ∧ j + k = bl ∧ Hid (Bl x k) ∧ w = wr) (fun _ s4 _ => (intOf s4).toNat)
    case atStart => exact ⟨l, bl, 0, rfl, hll, by simp, by omega, HL, rfl⟩
    case round =>
      obtain ⟨x, k, j, rfl, hx, rfl, hjk, HX, rfl⟩ := hrel
      by_cases h0 : x = 0
      · subst h0
        have hk0 : k = 0 := (unhide HX).uniq bl_zero
        have hji : 32 * ((n : Int) - 1) + (j : Int) = ((32 * (n - 1) + bl : Nat) : Int) := by omega
        clear HX
        go_wp2
        go_ret
        exact ⟨⟨32 * (n - 1) + bl, ret_int hji, unhide HB, by omega⟩, rfl⟩
      · obtain ⟨k', hk'⟩ : ∃ k', Bl (x / 2) k' := bl_ex (x / 2)
        have hkk : k = k' + 1 := (unhide HX).uniq (bl_half h0 hk')
        have HX' := hide hk'
        have hx0i : (0 : Int) < (x : Int) := by omega
        clear HX hk'
        go_wp2
        go_roundw
        case rel =>
          have e1 : (x : Int) / 2 = ((x / 2 : Nat) : Int) := by omega
          rw [e1]
          exact ⟨x / 2, k', j + 1, rfl, by omega, by congr 1; omega, by omega, unhide HX', trivial⟩
        case measure => simp [intOf]; omega

set_option maxHeartbeats 400000 in
theorem rbits_any (a : Option Addr) (n cap m : Nat) (w : World) (h : Num w a n m) :
    Calls Try.prog 31 #[.agg #[.slice a n cap]] w fun e w' => (∃ k : Nat, e = .returned (.tuple #[.int .i64 (k : Int), .int .i64 0]) ∧ Bl m k ∧ k ≤ 32 * n) ∧ Below w.heap.size w w' := by
  have hNum := h
  obtain ⟨xs, hn, hl, hw, hN, hv, hb⟩ := h
  subst hn
  have HN := hide hNum
  clear hNum
  have hz : chk xs = 0 := chk_ok hb hN
  have hzb : (chk xs != 0) = false := by rw [hz]; rfl
  clear hz
  go_enter Try.func31, Try.ntmps31
  go_wp2_with fail
  refine (rcheck_any a cap xs _ (by omega) (hl.alloc _)).mono ?_
  rintro e w1 ⟨rfl, hb1⟩
  obtain ⟨hc1, hf1⟩ := bcell hb1
  go_wp2_with fail
  have hn1 := ((unhide HN).kept (gr_alloc _ _)).kept hb1
  refine (rsize_any a xs.length cap m _ hn1).mono ?_
  rintro e w2 ⟨⟨k, rfl, hk1, hk2⟩, rfl⟩
  go_wp2
  go_ret2
  exact ⟨⟨k, rfl, hk1, hk2⟩, gr_trans (gr_alloc _ _) hb1⟩

theorem and_one_u64 (e : Nat) (h : e < 18446744073709551616) : Go.bits .and .u64 (e : Int) 1 = ((e % 2 : Nat) : Int) := by
  have h1 : (BitVec.ofInt 64 (e : Int)).toNat = e := by
    rw [BitVec.ofInt_natCast, BitVec.toNat_ofNat]; exact Nat.mod_eq_of_lt (by omega)
  show IntKind.u64.wrap ((BitVec.ofInt 64 (e : Int) &&& BitVec.ofInt 64 1).toNat : Int) = _
  rw [BitVec.toNat_and, h1, show (BitVec.ofInt 64 1).toNat = 1 from rfl, Nat.and_one_is_mod, IntKind.wrap_u64]
  omega

set_option maxHeartbeats 800000 in
theorem rbit_any (a : Option Addr) (n cap m k : Nat) (w : World) (h : Num w a n m) (hk : k < 9223372036854775808) :
    Calls Try.prog 33 #[.agg #[.slice a n cap], .int .i64 (k : Int)] w fun e w' => e = .returned (.tuple #[.bool (decide (m / 2 ^ k % 2 = 1)), .int .i64 0]) ∧ Below w.heap.size w w' := by
  obtain ⟨xs, hn, hl, hw, hN, hv, hb⟩ := h
  have hck := fun o1 : Obj => rcheck_any a cap xs (w.alloc o1) (by omega) (hl.alloc o1)
  rw [hn, chk_ok (by omega) hN] at hck
  have HK := hide hck
  have hbr := bit_row hw k
  rw [hv] at hbr
  obtain ⟨wh, hwh⟩ : ∃ wh, wh = k / 32 := ⟨_, rfl⟩
  obtain ⟨pt, hpt⟩ : ∃ pt, pt = k % 32 := ⟨_, rfl⟩
  have hq : (k : Int) / 32 = (wh : Int) := by omega
  have hr : (k : Int) % 32 = (pt : Int) := by omega
  have hpk : pt < 32 := by omega
  rw [← hwh, ← hpt] at hbr
  have hx1 : xs[wh]?.getD 0 < 4294967296 := Pl.wf_at hw wh
  have HL := hide (fun w (h : Lim w a xs) => rlimb_any a n cap wh xs w hn h hw (by omega))
  have HBR := hide hbr
  have hwb : wh < 288230376151711744 := by omega
  generalize xs[wh]?.getD 0 = x at *
  clear hbr hck hn hv hN hwh hpt
  go_enter Try.func33, Try.ntmps33
  go_wp2_with fail
  refine (unhide HK _).mono ?_
  rintro e w1 ⟨rfl, hb1⟩
  have hbx := (Box.made w (.slice a n cap)).kept hb1
  have hcx := hbx.cell
  have HB := hide (gr_trans (gr_alloc w (.cells #[.slice a n cap] 24)) hb1)
  clear hb1 HK
  go_wp2_with fail
  refine (unhide HL w1 (hl.below (unhide HB))).mono ?_
  rintro e w2 ⟨rfl, rfl⟩
  go_wp2
  go_ret2
  refine ⟨ret_pair ?_, unhide HB⟩
  rw [show (x : Int) / 2 ^ pt = ((x / 2 ^ pt : Nat) : Int) by rw [Int.natCast_ediv, Int.natCast_pow]; rfl, and_one_u64 _ (Nat.lt_of_le_of_lt (Nat.div_le_self _ _) (by omega)), unhide HBR, beq_one]

end Go.Proofs.Ytkpbgjgebjcfeaa
