/- The call nat.guessDigit answers the quotient's digit, or a greater one. -/
import Derived.Test.YtkpbgjgebjcfeaaBase
import Derived.Test.YtkpbgjgebjcfeaaPlainB
import Derived.BigQuiet
namespace Go.Proofs.Ytkpbgjgebjcfeaa
open Go.RowKit

/-- What guessDigit is told of its limbs, in numbers: q is the digit. -/
structure Dg (q top next p2 p1 p0 : Nat) : Prop where
  q32 : q < 4294967296
  pos : 0 < top
  low : q * top ≤ p2 * 4294967296 + p1
  mend : ∀ g l, g * top + l = p2 * 4294967296 + p1 → l * 4294967296 + p0 < g * next → q < g
  out : ∀ g l, g * top + l = p2 * 4294967296 + p1 → 4294967296 ≤ l → g < 4294967296

theorem dg_first {q top next p2 p1 p0 : Nat} (h : Dg q top next p2 p1 p0) : q ≤ (p2 * 4294967296 + p1) / top := (Nat.le_div_iff_mul_le h.pos).2 h.low

theorem Only.all {w w' : World} (h : ∀ B, Only B w w') {p : Addr} : w'.cell? p = w.cell? p := (h (p.block + 1)).cell (by omega)
theorem Only.drewN {B : Nat} {w w' : World} (h : Only B w w') (n : Nat) : Only B w (w'.drewN n) := ⟨h.os, h.tape, h.output, h.size, h.block⟩

set_option maxHeartbeats 1000000 in
theorem guess_any (B p b off m cap cap' q top next p2 p1 p0 : Nat) (w : World) (hm : m ≤ 20000) (hD : Hid (Dg q top next p2 p1 p0)) (ht : top < 4294967296) (hnx : next < 4294967296) (h2 : p2 < 4294967296) (h1 : p1 < 4294967296) (h0 : p0 < 4294967296) (hpos : 0 < top)
    (c2 : w.cell? ⟨B, p + (m + 2), none⟩ = some (.int .u32 (p2 : Int))) (c1 : w.cell? ⟨B, p + (m + 1), none⟩ = some (.int .u32 (p1 : Int))) (c0 : w.cell? ⟨B, p + m, none⟩ = some (.int .u32 (p0 : Int)))
    (d1 : w.cell? ⟨b, off + (m + 1), none⟩ = some (.int .u32 (top : Int))) (d0 : w.cell? ⟨b, off + m, none⟩ = some (.int .u32 (next : Int))) :
    Calls Try.prog 93 #[.slice (some ⟨B, p, none⟩) (m + 3) cap, .slice (some ⟨b, off, none⟩) (m + 2) cap'] w
      fun e w' => ∃ g : Nat, e = .returned (.int .u32 (g : Int)) ∧ q ≤ g ∧ g < 4294967296 ∧ ∀ C, Only C w w' := by
  go_enter Try.func93, Try.ntmps93
  go_wp2
  go_quiet (fail)
  replace c2 : (w.drewN nq).cell? ⟨B, p + (m + 2), none⟩ = some (.int .u32 (p2 : Int)) := c2
  replace c1 : (w.drewN nq).cell? ⟨B, p + (m + 1), none⟩ = some (.int .u32 (p1 : Int)) := c1
  replace c0 : (w.drewN nq).cell? ⟨B, p + m, none⟩ = some (.int .u32 (p0 : Int)) := c0
  have HO : Hid (∀ C, Only C w (w.drewN nq)) := hide fun C => (Only.refl C w).drewN nq
  clear d1 d0
  generalize w.drewN nq = wa at *
  have hor := or_limb p2 p1 h2 h1
  obtain ⟨high, hh⟩ : ∃ high, high = p2 * 4294967296 + p1 := ⟨_, rfl⟩
  have hhi : (p2 : Int) * 4294967296 + (p1 : Int) = (high : Int) := by omega
  rw [hhi] at hor
  have hh1 : high < 18446744073709551616 := by omega
  have HH := hide hh
  have hqe : (high : Int) / (top : Int) = ((high / top : Nat) : Int) := (Int.natCast_ediv high top).symm
  have hme : (high : Int) % (top : Int) = ((high % top : Nat) : Int) := (Int.natCast_emod high top).symm
  have hq1 : high / top < 18446744073709551616 := Nat.lt_of_le_of_lt (Nat.div_le_self _ _) hh1
  have hm1 : high % top < top := Nat.mod_lt _ hpos
  have hq0i : (0 : Int) ≤ (high : Int) / (top : Int) := by rw [hqe]; exact Int.natCast_nonneg _
  have hq1i : (high : Int) / (top : Int) < 18446744073709551616 := by rw [hqe]; omega
  have HQ := hide (And.intro hqe hme)
  clear hh hhi hqe hme
  go_wp2
  go_quiet (fail)
  replace c0 : (wa.drewN nq).cell? ⟨B, p + m, none⟩ = some (.int .u32 (p0 : Int)) := c0
  replace HO : Hid (∀ C, Only C w (wa.drewN nq)) := hide fun C => (unhide HO C).drewN nq
  clear c2 c1 hor
  generalize wa.drewN nq = wb at *
  have hg0 : Hid (q ≤ high / top) := by
    have := dg_first (unhide hD)
    rw [← unhide HH] at this
    exact hide this
  go_wp2
  simp only [show m + 2 - 1 = m + 1 from rfl]
  go_loopw [9, 10] (fun t i wr => ∃ (g l : Nat), t = .int .u64 (g : Int) ∧ i = .int .u64 (l : Int) ∧ g * top + l = high ∧ q ≤ g ∧ l < 4294967296 ∧ g < 18446744073709551616 ∧ wr = wb) (fun t _ _ => (intOf t).toNat)
  case atStart =>
    obtain ⟨e1, e2⟩ := unhide HQ
    rw [e1, e2]
    exact ⟨high / top, high % top, rfl, rfl, Nat.div_add_mod' _ _, unhide hg0, by omega, hq1, rfl⟩
  case round =>
    obtain ⟨g, l, rfl, rfl, hgl, hqg, hl, hgb, rfl⟩ := hrel
    have hgl' := hgl
    rw [unhide HH] at hgl'
    have HM : Hid (l * 4294967296 + p0 < g * next → q < g) := hide ((unhide hD).mend g l hgl')
    have HX : Hid (∀ g' l', g' * top + l' = high → 4294967296 ≤ l' → g' < 4294967296) := hide fun g' l' e h => (unhide hD).out g' l' (by rw [← unhide HH]; exact e) h
    have HS : Hid (∀ k, g = k + 1 → k * top + (l + top) = high) := hide fun k e => by
      rw [← hgl, e, Nat.add_mul]; omega
    have hq32 := (unhide hD).q32
    have HG := hide hgl
    clear hgl hgl' hq0i hq1i hm1 hq1 HQ
    by_cases hbig : 4294967296 ≤ g
    · obtain ⟨k, rfl⟩ : ∃ k, g = k + 1 := ⟨g - 1, by omega⟩
      have hb1 : (4294967295 : Int) < (k : Int) + 1 := by omega
      have hs := unhide HS k rfl
      have HS' := hide hs
      clear hs hbig
      by_cases hbr : 4294967296 ≤ l + top
      · have hbr' : (4294967295 : Int) < (l : Int) + (top : Int) := by omega
        have hk := unhide HX k (l + top) (unhide HS') hbr
        clear hbr
        go_wp2
        go_ret
        exact ⟨k, rfl, by omega, hk, unhide HO⟩
      · have hbr' : (l : Int) + (top : Int) ≤ 4294967295 := by omega
        have HL : Hid (l + top < 4294967296) := hide (by omega)
        clear hbr
        go_wp2
        go_roundw
        case rel => exact ⟨k, l + top, rfl, by go_num, unhide HS', by omega, unhide HL, by omega, trivial⟩
        case measure => simp [intOf]
    · obtain ⟨s, hs⟩ : ∃ s, s = l * 4294967296 + p0 := ⟨_, rfl⟩
      obtain ⟨t, ht'⟩ : ∃ t, t = g * next := ⟨_, rfl⟩
      have hor := or_limb l p0 hl h0
      rw [show (l : Int) * 4294967296 + (p0 : Int) = (s : Int) by omega] at hor
      have hm0 := mul_lo g next
      have hm1 := mul_hi (show g < 4294967296 by omega) hnx
      have hti : (g : Int) * (next : Int) = (t : Int) := by rw [ht', Int.natCast_mul]
      rw [hti] at hm0 hm1
      have hsb : s < 18446744073709551616 := by omega
      rw [← hs, ← ht'] at HM
      have hbg : (g : Int) ≤ 4294967295 := by omega
      by_cases hmn : s < t
      · have hqg' := unhide HM hmn
        obtain ⟨k, hk⟩ : ∃ k, g = k + 1 := ⟨g - 1, by omega⟩
        have hmi : (s : Int) < (t : Int) := by omega
        have hsub : (g : Int) - 1 = (k : Int) := by omega
        have HS' := hide (unhide HS k hk)
        have HQ' := hide (show q ≤ k by omega)
        have hks : k < 4294967295 := by omega
        have HKG := hide (show k < g by omega)
        clear hmn hbig hs ht' HM hqg' hqg hk
        by_cases hbr : 4294967296 ≤ l + top
        · have hbr' : (4294967295 : Int) < (l : Int) + (top : Int) := by omega
          clear hbr
          go_wp2
          go_ret
          refine ⟨k, rfl, unhide HQ', by omega, unhide HO⟩
        · have hbr' : (l : Int) + (top : Int) ≤ 4294967295 := by omega
          have HL : Hid (l + top < 4294967296) := hide (by omega)
          clear hbr
          go_wp2
          go_roundw
          case rel => exact ⟨k, l + top, rfl, by go_num, unhide HS', unhide HQ', unhide HL, by omega, trivial⟩
          case measure => have := unhide HKG; simp [intOf]; omega
      · have hmi : (t : Int) ≤ (s : Int) := by omega
        have HB : Hid (g < 4294967296) := hide (by omega)
        clear hmn hbig hs ht' HM
        go_wp2
        go_ret
        exact ⟨g, rfl, hqg, unhide HB, unhide HO⟩

end Go.Proofs.Ytkpbgjgebjcfeaa
