/- The law numerallaw01.NatPows answers true. -/
import Derived.Test.YtkpbgjgebjcfeaaLed
import Derived.Test.YtkpbgjgebjcfeaaPAns
import Derived.Test.YtkpbgjgebjcfeaaPow
import Derived.Test.YtkpbgjgebjcfeaaRefPow
namespace Go.Proofs.Ytkpbgjgebjcfeaa
open Go.RowKit

theorem pows_both (b : Nat) (n : Int) (hb : b < 4294967296) (hn : -9223372036854775808 ≤ n) (hn' : n < 9223372036854775808) : ∃ (m : Nat) (code : Int),
    (∀ w, Calls Try.prog 36 #[.int .u32 (b : Int), .int .i64 n] w fun e w' => PAns w' w.heap.size e m code ∧ Below w.heap.size w w') ∧
    (∀ w, Calls Try.prog 13 #[.int .u32 (b : Int), .int .i64 n] w fun e w' => PAns w' w.heap.size e m code ∧ Below w.heap.size w w') := by
  by_cases h0 : n < 0
  · exact ⟨0, 2, fun w => (rpow_neg b n w h0).mono (fun e w' ⟨h1, h2⟩ => ⟨⟨none, 0, 0, h1, Mine.nil _ _⟩, h2⟩), fun w => (pow_neg b n w h0).mono (fun e w' ⟨h1, h2⟩ => ⟨⟨none, 0, 0, h1, Mine.nil _ _⟩, h2⟩)⟩
  · obtain ⟨k, rfl⟩ : ∃ k : Nat, n = (k : Int) := ⟨n.toNat, by omega⟩
    by_cases ho : Over (b ^ k)
    · exact ⟨0, 4, fun w => (rpow_any b k w hb (by omega)).mono (fun e w' ⟨h1, h2⟩ => ⟨by
        rcases h1 with ⟨a, n, c, rfl, hm⟩ | ⟨rfl, _⟩
        · exact absurd ho hm.num.not_over
        · exact ⟨none, 0, 0, rfl, Mine.nil _ _⟩, h2⟩), fun w => (pow_any b k w hb (by omega)).mono (fun e w' ⟨h1, h2⟩ => ⟨by
        rcases h1 with ⟨a, n, c, rfl, hm⟩ | ⟨rfl, _⟩
        · exact absurd ho hm.num.not_over
        · exact ⟨none, 0, 0, rfl, Mine.nil _ _⟩, h2⟩)⟩
    · exact ⟨b ^ k, 0, fun w => (rpow_any b k w hb (by omega)).mono (fun e w' ⟨h1, h2⟩ => ⟨h1.resolve_right (fun h => ho h.2), h2⟩), fun w => (pow_any b k w hb (by omega)).mono (fun e w' ⟨h1, h2⟩ => ⟨h1.resolve_right (fun h => ho h.2), h2⟩)⟩

set_option maxHeartbeats 4000000 in
theorem pows_any (b : Nat) (n : Int) (u : Nat) (w : World) (hb : b < 4294967296) (hn : -9223372036854775808 ≤ n) (hn' : n < 9223372036854775808) (hu : u < 18446744073709551616) :
    Calls Try.prog 6 #[.int .u32 (b : Int), .int .i64 n, .int .u64 (u : Int)] w fun e w' => e = .returned (.bool true) ∧ Below w.heap.size w w' := by
  obtain ⟨m, code, hR, hP⟩ := pows_both b n hb hn hn'
  have HR := hide hR
  have HP := hide hP
  clear hR hP
  have HL0 := hide (Led.new w w.heap.size (Nat.le_refl _))
  have HB0 := hide (gr_alloc w (.cells #[.slice none 0 0, .slice none 0 0, .bool false] 43))
  go_enter Try.func6, Try.ntmps6
  go_wp2_with fail
  refine (unhide HR _).mono ?_
  rintro e w1 ⟨⟨a1, n1, c1, rfl, hm1⟩, hb1⟩
  have hs1 := hb1.size
  simp only [World.size_alloc] at hs1
  have HL1 := hide (((unhide HL0).kept hb1).alloc (.cells #[.slice a1 n1 c1] 24))
  have HX1 := hide (Bx.made ((unhide HL0).kept hb1) (.slice a1 n1 c1))
  have HM1 := hide ((hm1.mono (base' := w.heap.size) (by simp)).alloc (.cells #[.slice a1 n1 c1] 24))
  have HB1 := hide (gr_trans (gr_trans (unhide HB0) hb1) (gr_alloc w1 (.cells #[.slice a1 n1 c1] 24)))
  clear hm1 hb1 HL0 HB0 HR
  go_wp2_with fail
  refine (unhide HP _).mono ?_
  rintro e w2 ⟨⟨a2, n2, c2, rfl, hm2⟩, hb2⟩
  have hs2 := hb2.size
  simp only [World.size_alloc] at hs2
  have HF2 := hide (hm2.fresh (unhide HL1))
  have HL2 := hide (((unhide HL1).kept hb2).alloc (.cells #[.slice a2 n2 c2] 24))
  have HX2 := hide (((unhide HX1).kept hb2).alloc (.cells #[.slice a2 n2 c2] 24))
  have HM2 := hide (((unhide HM1).kept hb2).alloc (.cells #[.slice a2 n2 c2] 24))
  have HY2 := hide (Bx.made ((unhide HL1).kept hb2) (.slice a2 n2 c2))
  have HN2 := hide ((hm2.mono (base' := w.heap.size) (by simp; omega)).alloc (.cells #[.slice a2 n2 c2] 24))
  have HB2 := hide (gr_trans (gr_trans (unhide HB1) hb2) (gr_alloc w2 (.cells #[.slice a2 n2 c2] 24)))
  have x2 := (unhide HX2).cell
  clear hm2 hb2 HL1 HX1 HM1 HB1
  go_wp2_with fail
  refine (led_adds w.heap.size w.heap.size 0 _ _ [] [] a2 a1 n2 n1 c2 c1 m code _ (unhide HL2) (unhide HN2) (unhide HF2) (unhide HM2) (unhide HB2).size (by omega)).mono ?_
  rintro e w3 ⟨rfl, vg3, vw3, hL3, hA3⟩
  have HL3 := hide hL3
  have HX3 := hide ((unhide HX2).added (unhide HL2) hA3)
  have HM3 := hide ((unhide HM2).added hA3)
  have HB3 := hide ((unhide HB2).trans hA3.bel)
  have hs3 := hA3.bel.size
  simp only [World.size_alloc] at hs3
  clear hL3 hA3 HL2 HX2 HM2 HY2 HN2 HB2 HF2 x2
  go_wp2_with fail
  refine (unhide HP _).mono ?_
  rintro e w4 ⟨⟨a4, n4, c4, rfl, hm4⟩, hb4⟩
  have hs4 := hb4.size
  have HF4 := hide (hm4.fresh (unhide HL3))
  have HL4 := hide (((unhide HL3).kept hb4).alloc (.cells #[.slice a4 n4 c4] 24))
  have HX4 := hide (((unhide HX3).kept hb4).alloc (.cells #[.slice a4 n4 c4] 24))
  have HM4 := hide (((unhide HM3).kept hb4).alloc (.cells #[.slice a4 n4 c4] 24))
  have HN4 := hide ((hm4.mono (base' := w.heap.size) (by omega)).alloc (.cells #[.slice a4 n4 c4] 24))
  have HB4 := hide ((unhide HB3).trans ((gr_trans hb4 (gr_alloc w4 (.cells #[.slice a4 n4 c4] 24))).mono (unhide HB3).size))
  have x4 := (unhide HX4).cell
  clear hm4 hb4 HL3 HX3 HM3 HB3 HP
  go_wp2_with fail
  refine (led_adds w.heap.size w.heap.size 1 _ _ _ _ a4 a1 n4 n1 c4 c1 m code _ (unhide HL4) (unhide HN4) (unhide HF4) (unhide HM4) (unhide HB4).size (by omega)).mono ?_
  rintro e w5 ⟨rfl, vg5, vw5, hL5, hA5⟩
  have HL5 := hide hL5
  have HB5 := hide ((unhide HB4).trans hA5.bel)
  clear hL5 hA5 HL4 HX4 HM4 HN4 HB4 HF4 x4
  go_wp2_with fail
  refine (of_any u _ hu).mono ?_
  rintro e w6 ⟨⟨a6, n6, c6, rfl, hm6⟩, hb6⟩
  have HF6 := hide (hm6.fresh (unhide HL5))
  have HL6 := hide ((unhide HL5).kept hb6)
  have HN6 := hide (hm6.mono (base' := w.heap.size) (unhide HB5).size)
  have HB6 := hide ((unhide HB5).trans (hb6.mono (unhide HB5).size))
  clear hm6 hb6 HL5 HB5
  go_wp2_with fail
  refine (rof_any u _ hu).mono ?_
  rintro e w7 ⟨⟨a7, n7, c7, rfl, hm7⟩, hb7⟩
  have HL7 := hide ((unhide HL6).kept hb7)
  have HN7 := hide ((unhide HN6).kept hb7)
  have HM7 := hide (hm7.mono (base' := w.heap.size) (unhide HB6).size)
  have HB7 := hide ((unhide HB6).trans (hb7.mono (unhide HB6).size))
  clear hm7 hb7 HL6 HN6 HB6
  go_wp2_with fail
  refine (led_adds w.heap.size w.heap.size 2 _ _ _ _ a6 a7 n6 n7 c6 c7 u 0 _ (unhide HL7) (unhide HN7) (unhide HF6) (unhide HM7) (unhide HB7).size (by omega)).mono ?_
  rintro e w8 ⟨rfl, vg8, vw8, hL8, hA8⟩
  have HL8 := hide hL8
  have HB8 := hide ((unhide HB7).trans hA8.bel)
  clear hL8 hA8 HL7 HN7 HM7 HB7 HF6
  go_wp2_with fail
  refine (of_any u _ hu).mono ?_
  rintro e w9 ⟨⟨a9, n9, c9, rfl, hm9⟩, hb9⟩
  have HF9 := hide (hm9.fresh (unhide HL8))
  have HL9 := hide ((unhide HL8).kept hb9)
  have HN9 := hide (hm9.mono (base' := w.heap.size) (unhide HB8).size)
  have HB9 := hide ((unhide HB8).trans (hb9.mono (unhide HB8).size))
  clear hm9 hb9 HL8 HB8
  go_wp2_with fail
  refine (rof_any u _ hu).mono ?_
  rintro e wa ⟨⟨aa, na, ca, rfl, hma⟩, hba⟩
  have HLa := hide ((unhide HL9).kept hba)
  have HNa := hide ((unhide HN9).kept hba)
  have HMa := hide (hma.mono (base' := w.heap.size) (unhide HB9).size)
  have HBa := hide ((unhide HB9).trans (hba.mono (unhide HB9).size))
  clear hma hba HL9 HN9 HB9
  go_wp2_with fail
  refine (led_adds w.heap.size w.heap.size 3 _ _ _ _ a9 aa n9 na c9 ca u 0 _ (unhide HLa) (unhide HNa) (unhide HF9) (unhide HMa) (unhide HBa).size (by omega)).mono ?_
  rintro e wb ⟨rfl, vgb, vwb, hLb, hAb⟩
  have HLb := hide hLb
  have HBb := hide ((unhide HBa).trans hAb.bel)
  clear hLb hAb HLa HNa HMa HBa HF9
  go_wp2_with fail
  refine (led_stands0 w.heap.size w.heap.size 4 _ _ _ _ _ (unhide HLb) (unhide HBb).size (by omega) (by omega)).mono ?_
  rintro e wc ⟨rfl, hbc⟩
  have HBc := hide ((unhide HBb).trans hbc)
  clear hbc HLb HBb
  go_wp2
  go_ret
  exact ⟨rfl, unhide HBc⟩

end Go.Proofs.Ytkpbgjgebjcfeaa
