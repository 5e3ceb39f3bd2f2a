/- The document's own Up, Down and Low of numbers that may be; the program's Low of more than two limbs. -/
import Derived.Test.YtkpbgjgebjcfeaaRefShift
import Derived.Test.YtkpbgjgebjcfeaaRefMul
import Derived.Test.YtkpbgjgebjcfeaaBad
import Derived.Test.YtkpbgjgebjcfeaaLow
import Derived.BigQuiet
namespace Go.Proofs.Ytkpbgjgebjcfeaa
open Go.RowKit

theorem rcheck_num (a : Option Addr) (n cap m : Nat) (w : World) (h : Num w a n m) :
    Calls Try.prog 23 #[.agg #[.slice a n cap]] w fun e w' => e = .returned (.int .i64 0) ∧ Below w.heap.size w w' := by
  obtain ⟨xs, hn, hl, hw, hN, hv, hb⟩ := h
  have := rcheck_any a cap xs w (by omega) hl
  rw [hn, chk_ok (by omega) hN] at this
  exact this

set_option maxHeartbeats 800000 in
theorem rdown_any (a : Option Addr) (n cap m k : Nat) (w : World) (h : Num w a n m) (hk : k < 9223372036854775808) :
    Calls Try.prog 30 #[.agg #[.slice a n cap], .int .i64 (k : Int)] w fun e w' => (∃ a' n' c', e = .returned (.tuple #[.agg #[.slice a' n' c'], .int .i64 0]) ∧ Mine w' w.heap.size a' n' c' (m / 2 ^ k)) ∧ Below w.heap.size w w' := by
  have HS : Hid (∀ W, Num W a n m → Calls Try.prog 64 #[.slice a n cap, .int .i64 (k : Int)] W fun e w' => (∃ a' l c, e = .returned (.slice a' l c) ∧ Mine w' W.heap.size a' l c (m / 2 ^ k)) ∧ Below W.heap.size W w') := hide (fun W hW => by
    obtain ⟨xs, hn, hl, hw, hN, hv, hb⟩ := hW
    rw [← hv]
    exact rdown_list a n cap (k / 32) (k % 32) k xs W hn hl hw hb (hide (by omega)) (by omega) hk)
  have HK := hide (fun (o1 o2 : Obj) => rcheck_num a n cap m ((w.alloc o1).alloc o2) ((h.alloc o1).alloc o2))
  have H := hide h
  clear h
  go_enter Try.func30, Try.ntmps30
  go_wp2_with fail
  refine (unhide HK _ _).mono ?_
  rintro e w1 ⟨rfl, hb1⟩
  have hbx := ((Box.made w (.slice a n cap)).alloc (.cells #[.slice none 0 0] 24)).kept hb1
  have hby := (Box.made (w.alloc (.cells #[.slice a n cap] 24)) (.slice none 0 0)).kept hb1
  simp only [World.size_alloc] at hby
  have hcx := hbx.cell
  have HB := hide (gr_trans (gr_trans (gr_alloc w (.cells #[.slice a n cap] 24)) (gr_alloc _ (.cells #[.slice none 0 0] 24))) hb1)
  clear hb1 HK
  go_wp2_with fail
  refine (unhide HS _ ((unhide H).kept (unhide HB))).mono ?_
  rintro e w2 ⟨⟨a2, n2, c2, rfl, hm2⟩, hb2⟩
  have hX2 := hby.kept hb2
  have HM := hide ((hm2.mono (unhide HB).size).alloc (.cells #[.slice a2 n2 c2] 24))
  have HB2 := hide (gr_trans (gr_trans (unhide HB) hb2) (gr_alloc w2 (.cells #[.slice a2 n2 c2] 24)))
  have hX3 := hX2.alloc (.cells #[.slice a2 n2 c2] 24)
  clear hm2 hb2
  go_wp2_with fail
  refine (rnat_any _ _ n2 c2 _ rfl).mono ?_
  rintro e w3 ⟨rfl, rfl⟩
  have hcx := hX3.cell
  have hfx := hX3.frozen
  go_wp2
  exact bodyPost_ret (v := .tuple #[.agg #[.slice a2 n2 c2], .int .i64 0]) (by simp [results, Try.results30, go_sem, hcx]) rfl ⟨⟨_, _, _, rfl, (unhide HM).setBox hX3 _⟩, (unhide HB2).setCell (Nat.le_add_right _ 1) _⟩

set_option maxHeartbeats 400000 in
theorem rup_zero (a : Option Addr) (cap k : Nat) (w : World) :
    Calls Try.prog 27 #[.agg #[.slice a 0 cap], .int .i64 (k : Int)] w fun e w' => e = .returned (.tuple #[.agg #[.slice none 0 0], .int .i64 0]) ∧ Below w.heap.size w w' := by
  have HK := hide (fun (o1 o2 : Obj) => rcheck_num a 0 cap 0 ((w.alloc o1).alloc o2) ⟨[], rfl, Or.inl rfl, Pl.wf_nil, Pl.norm_nil, rfl, by omega⟩)
  go_enter Try.func27, Try.ntmps27
  go_wp2_with fail
  refine (unhide HK _ _).mono ?_
  rintro e w1 ⟨rfl, hb1⟩
  have hbx := ((Box.made w (.slice a 0 cap)).alloc (.cells #[.slice none 0 0] 24)).kept hb1
  have hby := (Box.made (w.alloc (.cells #[.slice a 0 cap] 24)) (.slice none 0 0)).kept hb1
  simp only [World.size_alloc] at hby
  have hcx := hbx.cell
  have hcy := hby.cell
  have hfy := hby.frozen
  have HB := hide (gr_trans (gr_trans (gr_alloc w (.cells #[.slice a 0 cap] 24)) (gr_alloc _ (.cells #[.slice none 0 0] 24))) hb1)
  clear hb1 HK
  go_wp2
  exact bodyPost_ret (v := .tuple #[.agg #[.slice none 0 0], .int .i64 0]) (by simp [results, Try.results27, go_sem, hcy]) rfl ⟨rfl, (unhide HB).setCell (by simp) _⟩

set_option maxHeartbeats 800000 in
theorem rup_num (b off n cap m k j : Nat) (w : World) (h : Num w (some ⟨b, off, none⟩) n m) (hm : 0 < m) (hj : Bl m j) (hlt : b < w.heap.size) (hk2 : k < 9223372036854775808) :
    Calls Try.prog 27 #[.agg #[.slice (some ⟨b, off, none⟩) n cap], .int .i64 (k : Int)] w fun e w' => Ans w' w.heap.size e (m * 2 ^ k) ∧ Below w.heap.size w w' := by
  have H := hide h
  have hz := h.zero
  have hn0 : ((n : Int) == 0) = false := by simp; omega
  have HK := hide (fun (o1 o2 : Obj) => rcheck_num (some ⟨b, off, none⟩) n cap m ((w.alloc o1).alloc o2) ((h.alloc o1).alloc o2))
  have hnb := h.len
  have HJ := hide hj
  clear hj h
  go_enter Try.func27, Try.ntmps27
  go_wp2_with fail
  refine (unhide HK _ _).mono ?_
  rintro e w1 ⟨rfl, hb1⟩
  have hbx := ((Box.made w (.slice (some ⟨b, off, none⟩) n cap)).alloc (.cells #[.slice none 0 0] 24)).kept hb1
  have hby := (Box.made (w.alloc (.cells #[.slice (some ⟨b, off, none⟩) n cap] 24)) (.slice none 0 0)).kept hb1
  simp only [World.size_alloc] at hby
  have hcx := hbx.cell
  have hcy := hby.cell
  have hfy := hby.frozen
  have HB := hide (gr_trans (gr_trans (gr_alloc w (.cells #[.slice (some ⟨b, off, none⟩) n cap] 24)) (gr_alloc _ (.cells #[.slice none 0 0] 24))) hb1)
  clear hb1 HK
  go_wp2_with fail
  refine (rsize_any (some ⟨b, off, none⟩) n cap m w1 ((unhide H).kept (unhide HB))).mono ?_
  rintro e w2 ⟨⟨j2, rfl, hB2, hle⟩, rfl⟩
  obtain rfl : j2 = j := hB2.uniq (unhide HJ)
  clear hB2
  have hj0 : j2 ≠ 0 := fun e => by subst e; have := (unhide HJ).1; simp at this; omega
  have hlow := (unhide HJ).2.resolve_left hj0
  by_cases hkj : k + j2 ≤ 524288
  · have hgt : ¬ (524288 : Int) - (j2 : Int) < (k : Int) := by omega
    have hm2 : m * 2 ^ k < 2 ^ (k + j2) := by
      rw [Nat.add_comm, Nat.pow_add]
      exact Nat.mul_lt_mul_of_pos_right (unhide HJ).1 (Nat.pow_pos (by decide))
    have hm3 : m * 2 ^ k < 4294967296 ^ Pl.top := by
      rw [pow32]
      exact Nat.lt_of_lt_of_le hm2 (Nat.pow_le_pow_right (by decide) (by rw [Pl.top_eq]; omega))
    have HU : Hid (Calls Try.prog 62 #[.slice (some ⟨b, off, none⟩) n cap, .int .i64 (k : Int)] w1 fun e w' => (∃ a' l c, e = .returned (.slice a' l c) ∧ Mine w' w1.heap.size a' l c (m * 2 ^ k)) ∧ Below w1.heap.size w1 w') := hide (by
      obtain ⟨xs, hn, hl, hw, hN, hv, hb⟩ := (unhide H).kept (unhide HB)
      have hc : ∀ j, j < n → w1.cell? ⟨b, off + j, none⟩ = some (.int .u32 ((xs[j]?.getD 0 : Nat) : Int)) := by
        rcases hl with h0 | ⟨b2, off2, e, hc⟩
        · rw [h0] at hn; simp at hn; omega
        · injection e with e
          injection e with e1 e2
          subst e1 e2
          exact fun j hj => hc j (by omega)
      refine (rup_list b off cap n (k / 32) (k % 32) k xs w1 (hide hn) (by omega) (by omega) hw (by have := (unhide HB).size; omega) (hide (by omega)) (by omega) (by omega) (hide hc)).mono ?_
      rintro e w' ⟨⟨a', l, c, ys, rfl, h1, h2, h3, h4, h5⟩, h6⟩
      rw [hv] at h5
      refine ⟨⟨a', l, c, rfl, ys, h1, h2, h3, h4, h5, ?_⟩, h6⟩
      have := (Pl.val_le_len h3 h4 Pl.top).2 (by rw [h5]; exact hm3)
      rw [Pl.top_eq] at this
      omega)
    clear hm2 hm3 hkj hlow hj0
    go_wp2_with fail
    refine (unhide HU).mono ?_
    rintro e w3 ⟨⟨a3, n3, c3, rfl, hm3⟩, hb3⟩
    have hX3 := (hby.kept hb3).alloc (.cells #[.slice a3 n3 c3] 24)
    have HM := hide ((hm3.mono (unhide HB).size).alloc (.cells #[.slice a3 n3 c3] 24))
    have HB3 := hide (gr_trans (gr_trans (unhide HB) hb3) (gr_alloc w3 (.cells #[.slice a3 n3 c3] 24)))
    clear hm3 hb3 hcy hfy
    go_wp2_with fail
    refine (rnat_any _ _ n3 c3 _ rfl).mono ?_
    rintro e w4 ⟨rfl, rfl⟩
    have hcx := hX3.cell
    have hfx := hX3.frozen
    go_wp2
    exact bodyPost_ret (v := .tuple #[.agg #[.slice a3 n3 c3], .int .i64 0]) (by simp [results, Try.results27, go_sem, hcx]) rfl ⟨Or.inl ⟨_, _, _, rfl, (unhide HM).setBox hX3 _⟩, (unhide HB3).setCell (Nat.le_add_right _ 1) _⟩
  · have hgt : (524288 : Int) - (j2 : Int) < (k : Int) := by omega
    have HO : Hid (Over (m * 2 ^ k)) := hide ⟨by
      rw [pow32]
      have h3 : 2 ^ (32 * Pl.top) ≤ 2 ^ (j2 - 1 + k) := Nat.pow_le_pow_right (by decide) (by rw [Pl.top_eq]; omega)
      rw [Nat.pow_add] at h3
      exact Nat.le_trans h3 (Nat.mul_le_mul_right _ hlow)⟩
    clear hlow hj0 hkj
    go_wp2
    exact bodyPost_ret (v := .tuple #[.agg #[.slice none 0 0], .int .i64 4]) (by simp [results, Try.results27, go_sem, hcy]) rfl ⟨Or.inr ⟨rfl, unhide HO⟩, (unhide HB).setCell (by simp) _⟩

theorem rup_any (a : Option Addr) (n cap m k : Nat) (w : World) (h : Num w a n m) (hk : k < 9223372036854775808) :
    Calls Try.prog 27 #[.agg #[.slice a n cap], .int .i64 (k : Int)] w fun e w' => Ans w' w.heap.size e (m * 2 ^ k) ∧ Below w.heap.size w w' := by
  by_cases hm : m = 0
  · subst hm
    obtain rfl := h.zero.2 rfl
    refine (rup_zero a cap k w).mono ?_
    rintro e w' ⟨rfl, hb⟩
    rw [Nat.zero_mul]
    exact ⟨Or.inl ⟨none, 0, 0, rfl, [], rfl, Or.inl ⟨rfl, rfl⟩, Pl.wf_nil, Pl.norm_nil, rfl, by omega⟩, hb⟩
  · obtain ⟨j, hj⟩ := bl_ex m
    have h' := h
    obtain ⟨xs, hn, hl, hw, hN, hv, hb⟩ := h
    rcases hl.parts with h0 | ⟨_, b, off, rfl, hlt, _⟩
    · rw [h0] at hv; exact absurd hv.symm hm
    · exact rup_num b off n cap m k j w h' (by omega) hj hlt hk

end Go.Proofs.Ytkpbgjgebjcfeaa
