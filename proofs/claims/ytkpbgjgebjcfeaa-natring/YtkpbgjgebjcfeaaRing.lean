/- The statement NatRing, walked: sums and products go in any order and any brackets, a product goes over a sum, Sub of Add takes back, and the bits of a product. -/
import Derived.Test.YtkpbgjgebjcfeaaVars
import Derived.Test.YtkpbgjgebjcfeaaAlive
import Derived.Test.YtkpbgjgebjcfeaaSame
import Derived.Test.YtkpbgjgebjcfeaaSub
import Derived.Test.YtkpbgjgebjcfeaaAdd
namespace Go.Proofs.Ytkpbgjgebjcfeaa
open Go.RowKit

theorem ring_bounds {A B C : Nat} (hA : A < Kk) (hB : B < Kk) (hC : C < Kk) :
    A + B < K4 ∧ B + A < K4 ∧ B + C < K4 ∧ A + B + C < K4 ∧ A + (B + C) < K4 ∧ A * B < K4 ∧ B * A < K4 ∧ B * C < K4 ∧ A * B * C < K4 ∧ A * (B * C) < K4 ∧ A * (B + C) < K4 ∧ A * C < K4 ∧ A * B + A * C < K4 := by
  unfold K4
  have hK := Kk_big
  generalize Kk = K at *
  have k1 : K * 1 ≤ K * K := Nat.mul_le_mul_left _ (by omega)
  have k1' : K * 4 ≤ K * K := Nat.mul_le_mul_left _ (by omega)
  have k2 : K * K * 1 ≤ K * K * K := Nat.mul_le_mul_left _ (by omega)
  have k2' : K * K * 4 ≤ K * K * K := Nat.mul_le_mul_left _ (by omega)
  have k3 : K * K * K * 1 ≤ K * K * K * K := Nat.mul_le_mul_left _ (by omega)
  have k3' : K * K * K * 4 ≤ K * K * K * K := Nat.mul_le_mul_left _ (by omega)
  have p1 : A * B ≤ K * K := Nat.mul_le_mul (by omega) (by omega)
  have p2 : B * C ≤ K * K := Nat.mul_le_mul (by omega) (by omega)
  have p3 : A * C ≤ K * K := Nat.mul_le_mul (by omega) (by omega)
  have p4 : A * B * C ≤ K * K * K := Nat.mul_le_mul p1 (by omega)
  have p5 : A * (B + C) = A * B + A * C := Nat.mul_add _ _ _
  rw [Nat.mul_comm B A, ← Nat.mul_assoc, p5]
  refine ⟨?_, ?_, ?_, ?_, ?_, ?_, ?_, ?_, ?_, ?_, ?_, ?_, ?_⟩ <;> omega

theorem ring_sized {A B x y z : Nat} (hx : Bl A x) (hy : Bl B y) (hz : Bl (A * B) z) :
    z = x + y ∨ (z ≠ x + y ∧ z + 1 = x + y) ∨ (z ≠ x + y ∧ z + 1 ≠ x + y ∧ x = 0 ∧ z = 0) ∨ (z ≠ x + y ∧ z + 1 ≠ x + y ∧ x ≠ 0 ∧ y = 0 ∧ z = 0) := by
  by_cases hx0 : x = 0
  · subst hx0
    have hA : A = 0 := by have := hx.1; simpa using this
    subst hA
    rw [Nat.zero_mul] at hz
    have : z = 0 := hz.uniq bl_zero
    omega
  · by_cases hy0 : y = 0
    · subst hy0
      have hB : B = 0 := by have := hy.1; simpa using this
      subst hB
      rw [Nat.mul_zero] at hz
      have : z = 0 := hz.uniq bl_zero
      omega
    · have a1 := hx.2.resolve_left hx0
      have b1 := hy.2.resolve_left hy0
      have l1 : 2 ^ (x - 1) * 2 ^ (y - 1) ≤ A * B := Nat.mul_le_mul a1 b1
      have l2 : A * B < 2 ^ x * 2 ^ y := Nat.mul_lt_mul_of_lt_of_le hx.1 (Nat.le_of_lt hy.1) (Nat.pow_pos (by decide))
      rw [← Nat.pow_add] at l1 l2
      have u1 : x - 1 + (y - 1) < z := by
        by_cases h : x - 1 + (y - 1) < z
        · exact h
        · have := Nat.pow_le_pow_right (show 0 < 2 by decide) (show z ≤ x - 1 + (y - 1) by omega)
          have := hz.1
          omega
      have u2 : z ≤ x + y := by
        by_cases h : z ≤ x + y
        · exact h
        · have := Nat.pow_le_pow_right (show 0 < 2 by decide) (show x + y ≤ z - 1 by omega)
          have := hz.2.resolve_left (by omega)
          omega
      omega


set_option maxRecDepth 20000 in
set_option maxHeartbeats 1000000 in
theorem ring_out1 (a b c : Option Addr) (na nb nc ca cb cc : Nat) (xs ys zs : List Nat) (w : World) (hna : xs.length = na) (hnb : ys.length = nb) (hnc : zs.length = nc) (hba : na ≤ 9223372036854775807) (hbb : nb ≤ 9223372036854775807) (hbc : nc ≤ 9223372036854775807) (hla : Lim w a xs) (hlb : Lim w b ys) (hlc : Lim w c zs)
    (hda : decide (chk xs = 0 ∧ na ≤ 4000) = false) :
    Calls Try.prog 8 #[.agg #[.slice a na ca], .agg #[.slice b nb cb], .agg #[.slice c nc cc]] w fun e w' => e = .returned (.bool true) ∧ Below w.heap.size w w' := by
  have HSA := hide (fun w h => small_any a na ca 4000 xs w hna hba h)
  have HSB := hide (fun w h => small_any b nb cb 4000 ys w hnb hbb h)
  have HSC := hide (fun w h => small_any c nc cc 4000 zs w hnc hbc h)
  rw [hda] at HSA
  clear hda
  clear hna hnb hnc hba hbb hbc
  go_enter Try.func8, Try.ntmps8
  go_wp2_with fail
  refine (alive_any _).mono ?_
  rintro e w1 ⟨rfl, hb1⟩
  have hxa := (((Box.made w (.slice a na ca)).alloc (.cells #[.slice b nb cb] 24)).alloc (.cells #[.slice c nc cc] 24)).kept hb1
  have hxb := ((Box.made (w.alloc (.cells #[.slice a na ca] 24)) (.slice b nb cb)).alloc (.cells #[.slice c nc cc] 24)).kept hb1
  have hxc := (Box.made ((w.alloc (.cells #[.slice a na ca] 24)).alloc (.cells #[.slice b nb cb] 24)) (.slice c nc cc)).kept hb1
  have HB := hide (gr_trans (gr_trans (gr_trans (gr_alloc w (.cells #[.slice a na ca] 24)) (gr_alloc _ (.cells #[.slice b nb cb] 24))) (gr_alloc _ (.cells #[.slice c nc cc] 24))) hb1)
  simp only [World.size_alloc] at hxa hxb hxc
  replace hla := hla.below (unhide HB)
  replace hlb := hlb.below (unhide HB)
  replace hlc := hlc.below (unhide HB)
  have hca := hxa.cell
  have hcb := hxb.cell
  have hcc := hxc.cell
  clear hb1
  go_wp2_with fail
  refine (unhide HSA _ hla).mono ?_
  rintro e w2 ⟨rfl, hb2⟩
  replace hxa := hxa.kept hb2
  replace hxb := hxb.kept hb2
  replace hxc := hxc.kept hb2
  replace hla := hla.below hb2
  replace hlb := hlb.below hb2
  replace hlc := hlc.below hb2
  replace hca := hxa.cell
  replace hcb := hxb.cell
  replace hcc := hxc.cell
  replace HB := hide (gr_trans (unhide HB) hb2)
  clear hb2
  go_wp2
  go_ret
  exact ⟨rfl, unhide HB⟩

set_option maxRecDepth 20000 in
set_option maxHeartbeats 1000000 in
theorem ring_out2 (a b c : Option Addr) (na nb nc ca cb cc : Nat) (xs ys zs : List Nat) (w : World) (hna : xs.length = na) (hnb : ys.length = nb) (hnc : zs.length = nc) (hba : na ≤ 9223372036854775807) (hbb : nb ≤ 9223372036854775807) (hbc : nc ≤ 9223372036854775807) (hla : Lim w a xs) (hlb : Lim w b ys) (hlc : Lim w c zs)
    (hda : decide (chk xs = 0 ∧ na ≤ 4000) = true) (hdb : decide (chk ys = 0 ∧ nb ≤ 4000) = false) :
    Calls Try.prog 8 #[.agg #[.slice a na ca], .agg #[.slice b nb cb], .agg #[.slice c nc cc]] w fun e w' => e = .returned (.bool true) ∧ Below w.heap.size w w' := by
  have HSA := hide (fun w h => small_any a na ca 4000 xs w hna hba h)
  have HSB := hide (fun w h => small_any b nb cb 4000 ys w hnb hbb h)
  have HSC := hide (fun w h => small_any c nc cc 4000 zs w hnc hbc h)
  rw [hda] at HSA
  rw [hdb] at HSB
  clear hda hdb
  clear hna hnb hnc hba hbb hbc
  go_enter Try.func8, Try.ntmps8
  go_wp2_with fail
  refine (alive_any _).mono ?_
  rintro e w1 ⟨rfl, hb1⟩
  have hxa := (((Box.made w (.slice a na ca)).alloc (.cells #[.slice b nb cb] 24)).alloc (.cells #[.slice c nc cc] 24)).kept hb1
  have hxb := ((Box.made (w.alloc (.cells #[.slice a na ca] 24)) (.slice b nb cb)).alloc (.cells #[.slice c nc cc] 24)).kept hb1
  have hxc := (Box.made ((w.alloc (.cells #[.slice a na ca] 24)).alloc (.cells #[.slice b nb cb] 24)) (.slice c nc cc)).kept hb1
  have HB := hide (gr_trans (gr_trans (gr_trans (gr_alloc w (.cells #[.slice a na ca] 24)) (gr_alloc _ (.cells #[.slice b nb cb] 24))) (gr_alloc _ (.cells #[.slice c nc cc] 24))) hb1)
  simp only [World.size_alloc] at hxa hxb hxc
  replace hla := hla.below (unhide HB)
  replace hlb := hlb.below (unhide HB)
  replace hlc := hlc.below (unhide HB)
  have hca := hxa.cell
  have hcb := hxb.cell
  have hcc := hxc.cell
  clear hb1
  go_wp2_with fail
  refine (unhide HSA _ hla).mono ?_
  rintro e w2 ⟨rfl, hb2⟩
  replace hxa := hxa.kept hb2
  replace hxb := hxb.kept hb2
  replace hxc := hxc.kept hb2
  replace hla := hla.below hb2
  replace hlb := hlb.below hb2
  replace hlc := hlc.below hb2
  replace hca := hxa.cell
  replace hcb := hxb.cell
  replace hcc := hxc.cell
  replace HB := hide (gr_trans (unhide HB) hb2)
  clear hb2
  go_wp2_with fail
  refine (unhide HSB _ hlb).mono ?_
  rintro e w3 ⟨rfl, hb3⟩
  replace hxa := hxa.kept hb3
  replace hxb := hxb.kept hb3
  replace hxc := hxc.kept hb3
  replace hla := hla.below hb3
  replace hlb := hlb.below hb3
  replace hlc := hlc.below hb3
  replace hca := hxa.cell
  replace hcb := hxb.cell
  replace hcc := hxc.cell
  replace HB := hide (gr_trans (unhide HB) hb3)
  clear hb3
  go_wp2
  go_ret
  exact ⟨rfl, unhide HB⟩

set_option maxRecDepth 20000 in
set_option maxHeartbeats 1000000 in
theorem ring_out3 (a b c : Option Addr) (na nb nc ca cb cc : Nat) (xs ys zs : List Nat) (w : World) (hna : xs.length = na) (hnb : ys.length = nb) (hnc : zs.length = nc) (hba : na ≤ 9223372036854775807) (hbb : nb ≤ 9223372036854775807) (hbc : nc ≤ 9223372036854775807) (hla : Lim w a xs) (hlb : Lim w b ys) (hlc : Lim w c zs)
    (hda : decide (chk xs = 0 ∧ na ≤ 4000) = true) (hdb : decide (chk ys = 0 ∧ nb ≤ 4000) = true) (hdc : decide (chk zs = 0 ∧ nc ≤ 4000) = false) :
    Calls Try.prog 8 #[.agg #[.slice a na ca], .agg #[.slice b nb cb], .agg #[.slice c nc cc]] w fun e w' => e = .returned (.bool true) ∧ Below w.heap.size w w' := by
  have HSA := hide (fun w h => small_any a na ca 4000 xs w hna hba h)
  have HSB := hide (fun w h => small_any b nb cb 4000 ys w hnb hbb h)
  have HSC := hide (fun w h => small_any c nc cc 4000 zs w hnc hbc h)
  rw [hda] at HSA
  rw [hdb] at HSB
  rw [hdc] at HSC
  clear hda hdb hdc
  clear hna hnb hnc hba hbb hbc
  go_enter Try.func8, Try.ntmps8
  go_wp2_with fail
  refine (alive_any _).mono ?_
  rintro e w1 ⟨rfl, hb1⟩
  have hxa := (((Box.made w (.slice a na ca)).alloc (.cells #[.slice b nb cb] 24)).alloc (.cells #[.slice c nc cc] 24)).kept hb1
  have hxb := ((Box.made (w.alloc (.cells #[.slice a na ca] 24)) (.slice b nb cb)).alloc (.cells #[.slice c nc cc] 24)).kept hb1
  have hxc := (Box.made ((w.alloc (.cells #[.slice a na ca] 24)).alloc (.cells #[.slice b nb cb] 24)) (.slice c nc cc)).kept hb1
  have HB := hide (gr_trans (gr_trans (gr_trans (gr_alloc w (.cells #[.slice a na ca] 24)) (gr_alloc _ (.cells #[.slice b nb cb] 24))) (gr_alloc _ (.cells #[.slice c nc cc] 24))) hb1)
  simp only [World.size_alloc] at hxa hxb hxc
  replace hla := hla.below (unhide HB)
  replace hlb := hlb.below (unhide HB)
  replace hlc := hlc.below (unhide HB)
  have hca := hxa.cell
  have hcb := hxb.cell
  have hcc := hxc.cell
  clear hb1
  go_wp2_with fail
  refine (unhide HSA _ hla).mono ?_
  rintro e w2 ⟨rfl, hb2⟩
  replace hxa := hxa.kept hb2
  replace hxb := hxb.kept hb2
  replace hxc := hxc.kept hb2
  replace hla := hla.below hb2
  replace hlb := hlb.below hb2
  replace hlc := hlc.below hb2
  replace hca := hxa.cell
  replace hcb := hxb.cell
  replace hcc := hxc.cell
  replace HB := hide (gr_trans (unhide HB) hb2)
  clear hb2
  go_wp2_with fail
  refine (unhide HSB _ hlb).mono ?_
  rintro e w3 ⟨rfl, hb3⟩
  replace hxa := hxa.kept hb3
  replace hxb := hxb.kept hb3
  replace hxc := hxc.kept hb3
  replace hla := hla.below hb3
  replace hlb := hlb.below hb3
  replace hlc := hlc.below hb3
  replace hca := hxa.cell
  replace hcb := hxb.cell
  replace hcc := hxc.cell
  replace HB := hide (gr_trans (unhide HB) hb3)
  clear hb3
  go_wp2_with fail
  refine (unhide HSC _ hlc).mono ?_
  rintro e w4 ⟨rfl, hb4⟩
  replace hxa := hxa.kept hb4
  replace hxb := hxb.kept hb4
  replace hxc := hxc.kept hb4
  replace hla := hla.below hb4
  replace hlb := hlb.below hb4
  replace hlc := hlc.below hb4
  replace hca := hxa.cell
  replace hcb := hxb.cell
  replace hcc := hxc.cell
  replace HB := hide (gr_trans (unhide HB) hb4)
  clear hb4
  go_wp2
  go_ret
  exact ⟨rfl, unhide HB⟩

set_option maxRecDepth 20000 in
set_option maxHeartbeats 8000000 in
theorem ring_in (a b c : Option Addr) (na nb nc ca cb cc : Nat) (xs ys zs : List Nat) (w : World) (hna : xs.length = na) (hnb : ys.length = nb) (hnc : zs.length = nc) (hba : na ≤ 9223372036854775807) (hbb : nb ≤ 9223372036854775807) (hbc : nc ≤ 9223372036854775807) (hla : Lim w a xs) (hlb : Lim w b ys) (hlc : Lim w c zs)
    (hda : decide (chk xs = 0 ∧ na ≤ 4000) = true) (hdb : decide (chk ys = 0 ∧ nb ≤ 4000) = true) (hdc : decide (chk zs = 0 ∧ nc ≤ 4000) = true) (hwa : Pl.Wf xs) (hwb : Pl.Wf ys) (hwc : Pl.Wf zs) :
    Calls Try.prog 8 #[.agg #[.slice a na ca], .agg #[.slice b nb cb], .agg #[.slice c nc cc]] w fun e w' => e = .returned (.bool true) ∧ Below w.heap.size w w' := by
  have HNA := hide (fun w h => small_num a na xs w hna h hwa hda)
  have HNB := hide (fun w h => small_num b nb ys w hnb h hwb hdb)
  have HNC := hide (fun w h => small_num c nc zs w hnc h hwc hdc)
  have HSA := hide (fun w h => small_any a na ca 4000 xs w hna hba h)
  have HSB := hide (fun w h => small_any b nb cb 4000 ys w hnb hbb h)
  have HSC := hide (fun w h => small_any c nc cc 4000 zs w hnc hbc h)
  rw [hda] at HSA
  rw [hdb] at HSB
  rw [hdc] at HSC
  clear hda hdb hdc
  clear hna hnb hnc hba hbb hbc
  go_enter Try.func8, Try.ntmps8
  go_wp2_with fail
  refine (alive_any _).mono ?_
  rintro e w1 ⟨rfl, hb1⟩
  have hxa := (((Box.made w (.slice a na ca)).alloc (.cells #[.slice b nb cb] 24)).alloc (.cells #[.slice c nc cc] 24)).kept hb1
  have hxb := ((Box.made (w.alloc (.cells #[.slice a na ca] 24)) (.slice b nb cb)).alloc (.cells #[.slice c nc cc] 24)).kept hb1
  have hxc := (Box.made ((w.alloc (.cells #[.slice a na ca] 24)).alloc (.cells #[.slice b nb cb] 24)) (.slice c nc cc)).kept hb1
  have HB := hide (gr_trans (gr_trans (gr_trans (gr_alloc w (.cells #[.slice a na ca] 24)) (gr_alloc _ (.cells #[.slice b nb cb] 24))) (gr_alloc _ (.cells #[.slice c nc cc] 24))) hb1)
  simp only [World.size_alloc] at hxa hxb hxc
  replace hla := hla.below (unhide HB)
  replace hlb := hlb.below (unhide HB)
  replace hlc := hlc.below (unhide HB)
  have hca := hxa.cell
  have hcb := hxb.cell
  have hcc := hxc.cell
  clear hb1
  go_wp2_with fail
  refine (unhide HSA _ hla).mono ?_
  rintro e w2 ⟨rfl, hb2⟩
  replace hxa := hxa.kept hb2
  replace hxb := hxb.kept hb2
  replace hxc := hxc.kept hb2
  replace hla := hla.below hb2
  replace hlb := hlb.below hb2
  replace hlc := hlc.below hb2
  replace hca := hxa.cell
  replace hcb := hxb.cell
  replace hcc := hxc.cell
  replace HB := hide (gr_trans (unhide HB) hb2)
  clear hb2
  go_wp2_with fail
  refine (unhide HSB _ hlb).mono ?_
  rintro e w3 ⟨rfl, hb3⟩
  replace hxa := hxa.kept hb3
  replace hxb := hxb.kept hb3
  replace hxc := hxc.kept hb3
  replace hla := hla.below hb3
  replace hlb := hlb.below hb3
  replace hlc := hlc.below hb3
  replace hca := hxa.cell
  replace hcb := hxb.cell
  replace hcc := hxc.cell
  replace HB := hide (gr_trans (unhide HB) hb3)
  clear hb3
  go_wp2_with fail
  refine (unhide HSC _ hlc).mono ?_
  rintro e w4 ⟨rfl, hb4⟩
  replace hxa := hxa.kept hb4
  replace hxb := hxb.kept hb4
  replace hxc := hxc.kept hb4
  replace hla := hla.below hb4
  replace hlb := hlb.below hb4
  replace hlc := hlc.below hb4
  replace hca := hxa.cell
  replace hcb := hxb.cell
  replace hcc := hxc.cell
  replace HB := hide (gr_trans (unhide HB) hb4)
  clear hb4
  obtain ⟨hA, hAk⟩ := unhide HNA _ hla
  obtain ⟨hB, hBk⟩ := unhide HNB _ hlb
  obtain ⟨hC, hCk⟩ := unhide HNC _ hlc
  have va : Var w4 _ a na ca (Pl.val xs) := ⟨hxa, hA⟩
  have vb : Var w4 _ b nb cb (Pl.val ys) := ⟨hxb, hB⟩
  have vc : Var w4 _ c nc cc (Pl.val zs) := ⟨hxc, hC⟩
  generalize Pl.val xs = A at *
  generalize Pl.val ys = B at *
  generalize Pl.val zs = C at *
  obtain ⟨o1, o2, o3, o4, o5, o6, o7, o8, o9, o10, o11, o12, o13⟩ := ring_bounds hAk hBk hCk
  have HO := hide (And.intro (k4_not o1) (And.intro (k4_not o2) (And.intro (k4_not o3) (And.intro (k4_not o4) (And.intro (k4_not o5) (And.intro (k4_not o6) (And.intro (k4_not o7) (And.intro (k4_not o8) (And.intro (k4_not o9) (And.intro (k4_not o10) (And.intro (k4_not o11) (And.intro (k4_not o12) (k4_not o13)))))))))))))
  clear o1 o2 o3 o4 o5 o6 o7 o8 o9 o10 o11 o12 o13 hxa hxb hxc hla hlb hlc hA hB hC hAk hBk hCk HNA HNB HNC HSA HSB HSC hca hcb hcc hwa hwb hwc
  have h_a := va.cell
  have h_b := vb.cell
  go_wp2_with fail
  refine (add_any a b na nb ca cb (A) (B) w4 va.num vb.num).mono ?_
  rintro e u5 ⟨hans, hb⟩
  obtain ⟨a_ab, n_ab, c_ab, rfl, hm⟩ := hans.ok (unhide HO).1
  have vab := Var.made u5 c_ab hm.num
  replace va := (va.kept hb).alloc (.cells #[.slice a_ab n_ab c_ab] 24)
  replace vb := (vb.kept hb).alloc (.cells #[.slice a_ab n_ab c_ab] 24)
  replace vc := (vc.kept hb).alloc (.cells #[.slice a_ab n_ab c_ab] 24)
  replace HB := hide (gr_trans (gr_trans (unhide HB) hb) (gr_alloc u5 (.cells #[.slice a_ab n_ab c_ab] 24)))
  clear hans hb hm h_a h_b
  have h_b := vb.cell
  have h_a := va.cell
  go_wp2_with fail
  generalize hw : u5.alloc (.cells #[.slice a_ab n_ab c_ab] 24) = w5 at *
  generalize u5.heap.size = p_ab at *
  clear hw u5
  refine (add_any b a nb na cb ca (B) (A) w5 vb.num va.num).mono ?_
  rintro e u6 ⟨hans, hb⟩
  obtain ⟨a_ba, n_ba, c_ba, rfl, hm⟩ := hans.ok (unhide HO).2.1
  have vba := Var.made u6 c_ba hm.num
  replace va := (va.kept hb).alloc (.cells #[.slice a_ba n_ba c_ba] 24)
  replace vb := (vb.kept hb).alloc (.cells #[.slice a_ba n_ba c_ba] 24)
  replace vc := (vc.kept hb).alloc (.cells #[.slice a_ba n_ba c_ba] 24)
  replace vab := (vab.kept hb).alloc (.cells #[.slice a_ba n_ba c_ba] 24)
  replace HB := hide (gr_trans (gr_trans (unhide HB) hb) (gr_alloc u6 (.cells #[.slice a_ba n_ba c_ba] 24)))
  clear hans hb hm h_b h_a
  have h_b := vb.cell
  have h_c := vc.cell
  go_wp2_with fail
  generalize hw : u6.alloc (.cells #[.slice a_ba n_ba c_ba] 24) = w6 at *
  generalize u6.heap.size = p_ba at *
  clear hw u6
  refine (add_any b c nb nc cb cc (B) (C) w6 vb.num vc.num).mono ?_
  rintro e u7 ⟨hans, hb⟩
  obtain ⟨a_bc, n_bc, c_bc, rfl, hm⟩ := hans.ok (unhide HO).2.2.1
  have vbc := Var.made u7 c_bc hm.num
  replace va := (va.kept hb).alloc (.cells #[.slice a_bc n_bc c_bc] 24)
  replace vb := (vb.kept hb).alloc (.cells #[.slice a_bc n_bc c_bc] 24)
  replace vc := (vc.kept hb).alloc (.cells #[.slice a_bc n_bc c_bc] 24)
  replace vab := (vab.kept hb).alloc (.cells #[.slice a_bc n_bc c_bc] 24)
  replace vba := (vba.kept hb).alloc (.cells #[.slice a_bc n_bc c_bc] 24)
  replace HB := hide (gr_trans (gr_trans (unhide HB) hb) (gr_alloc u7 (.cells #[.slice a_bc n_bc c_bc] 24)))
  clear hans hb hm h_b h_c
  have h_ab := vab.cell
  have h_c := vc.cell
  go_wp2_with fail
  generalize hw : u7.alloc (.cells #[.slice a_bc n_bc c_bc] 24) = w7 at *
  generalize u7.heap.size = p_bc at *
  clear hw u7
  refine (add_any a_ab c n_ab nc c_ab cc (A + B) (C) w7 vab.num vc.num).mono ?_
  rintro e u8 ⟨hans, hb⟩
  obtain ⟨a_left, n_left, c_left, rfl, hm⟩ := hans.ok (unhide HO).2.2.2.1
  have vleft := Var.made u8 c_left hm.num
  replace va := (va.kept hb).alloc (.cells #[.slice a_left n_left c_left] 24)
  replace vb := (vb.kept hb).alloc (.cells #[.slice a_left n_left c_left] 24)
  replace vc := (vc.kept hb).alloc (.cells #[.slice a_left n_left c_left] 24)
  replace vab := (vab.kept hb).alloc (.cells #[.slice a_left n_left c_left] 24)
  replace vba := (vba.kept hb).alloc (.cells #[.slice a_left n_left c_left] 24)
  replace vbc := (vbc.kept hb).alloc (.cells #[.slice a_left n_left c_left] 24)
  replace HB := hide (gr_trans (gr_trans (unhide HB) hb) (gr_alloc u8 (.cells #[.slice a_left n_left c_left] 24)))
  clear hans hb hm h_ab h_c
  have h_a := va.cell
  have h_bc := vbc.cell
  go_wp2_with fail
  generalize hw : u8.alloc (.cells #[.slice a_left n_left c_left] 24) = w8 at *
  generalize u8.heap.size = p_left at *
  clear hw u8
  refine (add_any a a_bc na n_bc ca c_bc (A) (B + C) w8 va.num vbc.num).mono ?_
  rintro e u9 ⟨hans, hb⟩
  obtain ⟨a_right, n_right, c_right, rfl, hm⟩ := hans.ok (unhide HO).2.2.2.2.1
  have vright := Var.made u9 c_right hm.num
  replace va := (va.kept hb).alloc (.cells #[.slice a_right n_right c_right] 24)
  replace vb := (vb.kept hb).alloc (.cells #[.slice a_right n_right c_right] 24)
  replace vc := (vc.kept hb).alloc (.cells #[.slice a_right n_right c_right] 24)
  replace vab := (vab.kept hb).alloc (.cells #[.slice a_right n_right c_right] 24)
  replace vba := (vba.kept hb).alloc (.cells #[.slice a_right n_right c_right] 24)
  replace vbc := (vbc.kept hb).alloc (.cells #[.slice a_right n_right c_right] 24)
  replace vleft := (vleft.kept hb).alloc (.cells #[.slice a_right n_right c_right] 24)
  replace HB := hide (gr_trans (gr_trans (unhide HB) hb) (gr_alloc u9 (.cells #[.slice a_right n_right c_right] 24)))
  clear hans hb hm h_a h_bc
  have h_a := va.cell
  have h_b := vb.cell
  go_wp2_with fail
  generalize hw : u9.alloc (.cells #[.slice a_right n_right c_right] 24) = w9 at *
  generalize u9.heap.size = p_right at *
  clear hw u9
  refine (mul_any a b na nb ca cb (A) (B) w9 va.num vb.num).mono ?_
  rintro e u10 ⟨hans, hb⟩
  obtain ⟨a_p, n_p, c_p, rfl, hm⟩ := hans.ok (unhide HO).2.2.2.2.2.1
  have vp := Var.made u10 c_p hm.num
  replace va := (va.kept hb).alloc (.cells #[.slice a_p n_p c_p] 24)
  replace vb := (vb.kept hb).alloc (.cells #[.slice a_p n_p c_p] 24)
  replace vc := (vc.kept hb).alloc (.cells #[.slice a_p n_p c_p] 24)
  replace vab := (vab.kept hb).alloc (.cells #[.slice a_p n_p c_p] 24)
  replace vba := (vba.kept hb).alloc (.cells #[.slice a_p n_p c_p] 24)
  replace vbc := (vbc.kept hb).alloc (.cells #[.slice a_p n_p c_p] 24)
  replace vleft := (vleft.kept hb).alloc (.cells #[.slice a_p n_p c_p] 24)
  replace vright := (vright.kept hb).alloc (.cells #[.slice a_p n_p c_p] 24)
  replace HB := hide (gr_trans (gr_trans (unhide HB) hb) (gr_alloc u10 (.cells #[.slice a_p n_p c_p] 24)))
  clear hans hb hm h_a h_b
  have h_b := vb.cell
  have h_a := va.cell
  go_wp2_with fail
  generalize hw : u10.alloc (.cells #[.slice a_p n_p c_p] 24) = w10 at *
  generalize u10.heap.size = p_p at *
  clear hw u10
  refine (mul_any b a nb na cb ca (B) (A) w10 vb.num va.num).mono ?_
  rintro e u11 ⟨hans, hb⟩
  obtain ⟨a_q, n_q, c_q, rfl, hm⟩ := hans.ok (unhide HO).2.2.2.2.2.2.1
  have vq := Var.made u11 c_q hm.num
  replace va := (va.kept hb).alloc (.cells #[.slice a_q n_q c_q] 24)
  replace vb := (vb.kept hb).alloc (.cells #[.slice a_q n_q c_q] 24)
  replace vc := (vc.kept hb).alloc (.cells #[.slice a_q n_q c_q] 24)
  replace vab := (vab.kept hb).alloc (.cells #[.slice a_q n_q c_q] 24)
  replace vba := (vba.kept hb).alloc (.cells #[.slice a_q n_q c_q] 24)
  replace vbc := (vbc.kept hb).alloc (.cells #[.slice a_q n_q c_q] 24)
  replace vleft := (vleft.kept hb).alloc (.cells #[.slice a_q n_q c_q] 24)
  replace vright := (vright.kept hb).alloc (.cells #[.slice a_q n_q c_q] 24)
  replace vp := (vp.kept hb).alloc (.cells #[.slice a_q n_q c_q] 24)
  replace HB := hide (gr_trans (gr_trans (unhide HB) hb) (gr_alloc u11 (.cells #[.slice a_q n_q c_q] 24)))
  clear hans hb hm h_b h_a
  have h_b := vb.cell
  have h_c := vc.cell
  go_wp2_with fail
  generalize hw : u11.alloc (.cells #[.slice a_q n_q c_q] 24) = w11 at *
  generalize u11.heap.size = p_q at *
  clear hw u11
  refine (mul_any b c nb nc cb cc (B) (C) w11 vb.num vc.num).mono ?_
  rintro e u12 ⟨hans, hb⟩
  obtain ⟨a_r, n_r, c_r, rfl, hm⟩ := hans.ok (unhide HO).2.2.2.2.2.2.2.1
  have vr := Var.made u12 c_r hm.num
  replace va := (va.kept hb).alloc (.cells #[.slice a_r n_r c_r] 24)
  replace vb := (vb.kept hb).alloc (.cells #[.slice a_r n_r c_r] 24)
  replace vc := (vc.kept hb).alloc (.cells #[.slice a_r n_r c_r] 24)
  replace vab := (vab.kept hb).alloc (.cells #[.slice a_r n_r c_r] 24)
  replace vba := (vba.kept hb).alloc (.cells #[.slice a_r n_r c_r] 24)
  replace vbc := (vbc.kept hb).alloc (.cells #[.slice a_r n_r c_r] 24)
  replace vleft := (vleft.kept hb).alloc (.cells #[.slice a_r n_r c_r] 24)
  replace vright := (vright.kept hb).alloc (.cells #[.slice a_r n_r c_r] 24)
  replace vp := (vp.kept hb).alloc (.cells #[.slice a_r n_r c_r] 24)
  replace vq := (vq.kept hb).alloc (.cells #[.slice a_r n_r c_r] 24)
  replace HB := hide (gr_trans (gr_trans (unhide HB) hb) (gr_alloc u12 (.cells #[.slice a_r n_r c_r] 24)))
  clear hans hb hm h_b h_c
  have h_p := vp.cell
  have h_c := vc.cell
  go_wp2_with fail
  generalize hw : u12.alloc (.cells #[.slice a_r n_r c_r] 24) = w12 at *
  generalize u12.heap.size = p_r at *
  clear hw u12
  refine (mul_any a_p c n_p nc c_p cc (A * B) (C) w12 vp.num vc.num).mono ?_
  rintro e u13 ⟨hans, hb⟩
  obtain ⟨a_s, n_s, c_s, rfl, hm⟩ := hans.ok (unhide HO).2.2.2.2.2.2.2.2.1
  have vs := Var.made u13 c_s hm.num
  replace va := (va.kept hb).alloc (.cells #[.slice a_s n_s c_s] 24)
  replace vb := (vb.kept hb).alloc (.cells #[.slice a_s n_s c_s] 24)
  replace vc := (vc.kept hb).alloc (.cells #[.slice a_s n_s c_s] 24)
  replace vab := (vab.kept hb).alloc (.cells #[.slice a_s n_s c_s] 24)
  replace vba := (vba.kept hb).alloc (.cells #[.slice a_s n_s c_s] 24)
  replace vbc := (vbc.kept hb).alloc (.cells #[.slice a_s n_s c_s] 24)
  replace vleft := (vleft.kept hb).alloc (.cells #[.slice a_s n_s c_s] 24)
  replace vright := (vright.kept hb).alloc (.cells #[.slice a_s n_s c_s] 24)
  replace vp := (vp.kept hb).alloc (.cells #[.slice a_s n_s c_s] 24)
  replace vq := (vq.kept hb).alloc (.cells #[.slice a_s n_s c_s] 24)
  replace vr := (vr.kept hb).alloc (.cells #[.slice a_s n_s c_s] 24)
  replace HB := hide (gr_trans (gr_trans (unhide HB) hb) (gr_alloc u13 (.cells #[.slice a_s n_s c_s] 24)))
  clear hans hb hm h_p h_c
  have h_a := va.cell
  have h_r := vr.cell
  go_wp2_with fail
  generalize hw : u13.alloc (.cells #[.slice a_s n_s c_s] 24) = w13 at *
  generalize u13.heap.size = p_s at *
  clear hw u13
  refine (mul_any a a_r na n_r ca c_r (A) (B * C) w13 va.num vr.num).mono ?_
  rintro e u14 ⟨hans, hb⟩
  obtain ⟨a_t, n_t, c_t, rfl, hm⟩ := hans.ok (unhide HO).2.2.2.2.2.2.2.2.2.1
  have vt := Var.made u14 c_t hm.num
  replace va := (va.kept hb).alloc (.cells #[.slice a_t n_t c_t] 24)
  replace vb := (vb.kept hb).alloc (.cells #[.slice a_t n_t c_t] 24)
  replace vc := (vc.kept hb).alloc (.cells #[.slice a_t n_t c_t] 24)
  replace vab := (vab.kept hb).alloc (.cells #[.slice a_t n_t c_t] 24)
  replace vba := (vba.kept hb).alloc (.cells #[.slice a_t n_t c_t] 24)
  replace vbc := (vbc.kept hb).alloc (.cells #[.slice a_t n_t c_t] 24)
  replace vleft := (vleft.kept hb).alloc (.cells #[.slice a_t n_t c_t] 24)
  replace vright := (vright.kept hb).alloc (.cells #[.slice a_t n_t c_t] 24)
  replace vp := (vp.kept hb).alloc (.cells #[.slice a_t n_t c_t] 24)
  replace vq := (vq.kept hb).alloc (.cells #[.slice a_t n_t c_t] 24)
  replace vr := (vr.kept hb).alloc (.cells #[.slice a_t n_t c_t] 24)
  replace vs := (vs.kept hb).alloc (.cells #[.slice a_t n_t c_t] 24)
  replace HB := hide (gr_trans (gr_trans (unhide HB) hb) (gr_alloc u14 (.cells #[.slice a_t n_t c_t] 24)))
  clear hans hb hm h_a h_r
  clear vr
  have h_a := va.cell
  have h_bc := vbc.cell
  go_wp2_with fail
  generalize hw : u14.alloc (.cells #[.slice a_t n_t c_t] 24) = w14 at *
  generalize u14.heap.size = p_t at *
  clear hw u14
  refine (mul_any a a_bc na n_bc ca c_bc (A) (B + C) w14 va.num vbc.num).mono ?_
  rintro e u15 ⟨hans, hb⟩
  obtain ⟨a_over, n_over, c_over, rfl, hm⟩ := hans.ok (unhide HO).2.2.2.2.2.2.2.2.2.2.1
  have vover := Var.made u15 c_over hm.num
  replace va := (va.kept hb).alloc (.cells #[.slice a_over n_over c_over] 24)
  replace vb := (vb.kept hb).alloc (.cells #[.slice a_over n_over c_over] 24)
  replace vc := (vc.kept hb).alloc (.cells #[.slice a_over n_over c_over] 24)
  replace vab := (vab.kept hb).alloc (.cells #[.slice a_over n_over c_over] 24)
  replace vba := (vba.kept hb).alloc (.cells #[.slice a_over n_over c_over] 24)
  replace vbc := (vbc.kept hb).alloc (.cells #[.slice a_over n_over c_over] 24)
  replace vleft := (vleft.kept hb).alloc (.cells #[.slice a_over n_over c_over] 24)
  replace vright := (vright.kept hb).alloc (.cells #[.slice a_over n_over c_over] 24)
  replace vp := (vp.kept hb).alloc (.cells #[.slice a_over n_over c_over] 24)
  replace vq := (vq.kept hb).alloc (.cells #[.slice a_over n_over c_over] 24)
  replace vs := (vs.kept hb).alloc (.cells #[.slice a_over n_over c_over] 24)
  replace vt := (vt.kept hb).alloc (.cells #[.slice a_over n_over c_over] 24)
  replace HB := hide (gr_trans (gr_trans (unhide HB) hb) (gr_alloc u15 (.cells #[.slice a_over n_over c_over] 24)))
  clear hans hb hm h_a h_bc
  clear vbc
  have h_a := va.cell
  have h_c := vc.cell
  go_wp2_with fail
  generalize hw : u15.alloc (.cells #[.slice a_over n_over c_over] 24) = w15 at *
  generalize u15.heap.size = p_over at *
  clear hw u15
  refine (mul_any a c na nc ca cc (A) (C) w15 va.num vc.num).mono ?_
  rintro e u16 ⟨hans, hb⟩
  obtain ⟨a_ac, n_ac, c_ac, rfl, hm⟩ := hans.ok (unhide HO).2.2.2.2.2.2.2.2.2.2.2.1
  have vac := Var.made u16 c_ac hm.num
  replace va := (va.kept hb).alloc (.cells #[.slice a_ac n_ac c_ac] 24)
  replace vb := (vb.kept hb).alloc (.cells #[.slice a_ac n_ac c_ac] 24)
  replace vc := (vc.kept hb).alloc (.cells #[.slice a_ac n_ac c_ac] 24)
  replace vab := (vab.kept hb).alloc (.cells #[.slice a_ac n_ac c_ac] 24)
  replace vba := (vba.kept hb).alloc (.cells #[.slice a_ac n_ac c_ac] 24)
  replace vleft := (vleft.kept hb).alloc (.cells #[.slice a_ac n_ac c_ac] 24)
  replace vright := (vright.kept hb).alloc (.cells #[.slice a_ac n_ac c_ac] 24)
  replace vp := (vp.kept hb).alloc (.cells #[.slice a_ac n_ac c_ac] 24)
  replace vq := (vq.kept hb).alloc (.cells #[.slice a_ac n_ac c_ac] 24)
  replace vs := (vs.kept hb).alloc (.cells #[.slice a_ac n_ac c_ac] 24)
  replace vt := (vt.kept hb).alloc (.cells #[.slice a_ac n_ac c_ac] 24)
  replace vover := (vover.kept hb).alloc (.cells #[.slice a_ac n_ac c_ac] 24)
  replace HB := hide (gr_trans (gr_trans (unhide HB) hb) (gr_alloc u16 (.cells #[.slice a_ac n_ac c_ac] 24)))
  clear hans hb hm h_a h_c
  clear vc
  have h_p := vp.cell
  have h_ac := vac.cell
  go_wp2_with fail
  generalize hw : u16.alloc (.cells #[.slice a_ac n_ac c_ac] 24) = w16 at *
  generalize u16.heap.size = p_ac at *
  clear hw u16
  refine (add_any a_p a_ac n_p n_ac c_p c_ac (A * B) (A * C) w16 vp.num vac.num).mono ?_
  rintro e u17 ⟨hans, hb⟩
  obtain ⟨a_sum, n_sum, c_sum, rfl, hm⟩ := hans.ok (unhide HO).2.2.2.2.2.2.2.2.2.2.2.2
  have vsum := Var.made u17 c_sum hm.num
  replace va := (va.kept hb).alloc (.cells #[.slice a_sum n_sum c_sum] 24)
  replace vb := (vb.kept hb).alloc (.cells #[.slice a_sum n_sum c_sum] 24)
  replace vab := (vab.kept hb).alloc (.cells #[.slice a_sum n_sum c_sum] 24)
  replace vba := (vba.kept hb).alloc (.cells #[.slice a_sum n_sum c_sum] 24)
  replace vleft := (vleft.kept hb).alloc (.cells #[.slice a_sum n_sum c_sum] 24)
  replace vright := (vright.kept hb).alloc (.cells #[.slice a_sum n_sum c_sum] 24)
  replace vp := (vp.kept hb).alloc (.cells #[.slice a_sum n_sum c_sum] 24)
  replace vq := (vq.kept hb).alloc (.cells #[.slice a_sum n_sum c_sum] 24)
  replace vs := (vs.kept hb).alloc (.cells #[.slice a_sum n_sum c_sum] 24)
  replace vt := (vt.kept hb).alloc (.cells #[.slice a_sum n_sum c_sum] 24)
  replace vover := (vover.kept hb).alloc (.cells #[.slice a_sum n_sum c_sum] 24)
  replace vac := (vac.kept hb).alloc (.cells #[.slice a_sum n_sum c_sum] 24)
  replace HB := hide (gr_trans (gr_trans (unhide HB) hb) (gr_alloc u17 (.cells #[.slice a_sum n_sum c_sum] 24)))
  clear hans hb hm h_p h_ac
  clear vac
  have h_ab := vab.cell
  have h_b := vb.cell
  go_wp2_with fail
  generalize hw : u17.alloc (.cells #[.slice a_sum n_sum c_sum] 24) = w17 at *
  generalize u17.heap.size = p_sum at *
  clear hw u17
  refine (sub_any a_ab b n_ab nb c_ab cb (A + B) (B) w17 vab.num vb.num).mono ?_
  rintro e u18 ⟨hans, hb⟩
  obtain ⟨_, a_back, n_back, c_back, rfl, hm⟩ := hans.resolve_left (fun h => absurd h.1 (Nat.not_lt.2 (Nat.le_add_left _ _)))
  have vback := Var.made u18 c_back hm.num
  replace va := (va.kept hb).alloc (.cells #[.slice a_back n_back c_back] 24)
  replace vb := (vb.kept hb).alloc (.cells #[.slice a_back n_back c_back] 24)
  replace vab := (vab.kept hb).alloc (.cells #[.slice a_back n_back c_back] 24)
  replace vba := (vba.kept hb).alloc (.cells #[.slice a_back n_back c_back] 24)
  replace vleft := (vleft.kept hb).alloc (.cells #[.slice a_back n_back c_back] 24)
  replace vright := (vright.kept hb).alloc (.cells #[.slice a_back n_back c_back] 24)
  replace vp := (vp.kept hb).alloc (.cells #[.slice a_back n_back c_back] 24)
  replace vq := (vq.kept hb).alloc (.cells #[.slice a_back n_back c_back] 24)
  replace vs := (vs.kept hb).alloc (.cells #[.slice a_back n_back c_back] 24)
  replace vt := (vt.kept hb).alloc (.cells #[.slice a_back n_back c_back] 24)
  replace vover := (vover.kept hb).alloc (.cells #[.slice a_back n_back c_back] 24)
  replace vsum := (vsum.kept hb).alloc (.cells #[.slice a_back n_back c_back] 24)
  replace HB := hide (gr_trans (gr_trans (unhide HB) hb) (gr_alloc u18 (.cells #[.slice a_back n_back c_back] 24)))
  clear hans hb hm h_ab h_b
  have h_a := va.cell
  go_wp2_with fail
  generalize hw : u18.alloc (.cells #[.slice a_back n_back c_back] 24) = w18 at *
  generalize u18.heap.size = p_back at *
  clear hw u18
  refine (bits_any a na ca (A) w18 va.num).mono ?_
  rintro e w19 ⟨⟨k_x, rfl, hbl_x, hle_x⟩, hb⟩
  have hn_x := va.num.len
  replace va := va.kept hb
  replace vb := vb.kept hb
  replace vab := vab.kept hb
  replace vba := vba.kept hb
  replace vleft := vleft.kept hb
  replace vright := vright.kept hb
  replace vp := vp.kept hb
  replace vq := vq.kept hb
  replace vs := vs.kept hb
  replace vt := vt.kept hb
  replace vover := vover.kept hb
  replace vsum := vsum.kept hb
  replace vback := vback.kept hb
  replace HB := hide (gr_trans (unhide HB) hb)
  clear hb h_a
  have h_b := vb.cell
  go_wp2_with fail
  refine (bits_any b nb cb (B) w19 vb.num).mono ?_
  rintro e w20 ⟨⟨k_y, rfl, hbl_y, hle_y⟩, hb⟩
  have hn_y := vb.num.len
  replace va := va.kept hb
  replace vb := vb.kept hb
  replace vab := vab.kept hb
  replace vba := vba.kept hb
  replace vleft := vleft.kept hb
  replace vright := vright.kept hb
  replace vp := vp.kept hb
  replace vq := vq.kept hb
  replace vs := vs.kept hb
  replace vt := vt.kept hb
  replace vover := vover.kept hb
  replace vsum := vsum.kept hb
  replace vback := vback.kept hb
  replace HB := hide (gr_trans (unhide HB) hb)
  clear hb h_b
  have h_p := vp.cell
  go_wp2_with fail
  refine (bits_any a_p n_p c_p (A * B) w20 vp.num).mono ?_
  rintro e w21 ⟨⟨k_z, rfl, hbl_z, hle_z⟩, hb⟩
  have hn_z := vp.num.len
  replace va := va.kept hb
  replace vb := vb.kept hb
  replace vab := vab.kept hb
  replace vba := vba.kept hb
  replace vleft := vleft.kept hb
  replace vright := vright.kept hb
  replace vp := vp.kept hb
  replace vq := vq.kept hb
  replace vs := vs.kept hb
  replace vt := vt.kept hb
  replace vover := vover.kept hb
  replace vsum := vsum.kept hb
  replace vback := vback.kept hb
  replace HB := hide (gr_trans (unhide HB) hb)
  clear hb h_p
  have hsz := ring_sized hbl_x hbl_y hbl_z
  have HZ := hide (And.intro (show k_x ≤ 524288 by omega) (show k_y ≤ 524288 by omega))
  clear hbl_x hbl_y hbl_z
  rcases hsz with hs | hs | hs | hs
  · have e1 : ((k_z : Int) == (k_x : Int) + (k_y : Int)) = true := by simp; omega
    clear hs hle_x hle_y hle_z hn_x hn_y hn_z
    obtain ⟨hkx, hky⟩ := unhide HZ
    have h_x := vback.cell
    have h_y := va.cell
    go_wp2_with fail
    refine (same_any a_back a n_back na c_back ca (A + B - B) (A) w21 vback.num va.num).mono ?_
    rintro e w22 ⟨rfl, hb⟩
    rw [decide_eq_true (Nat.add_sub_cancel _ _)]
    replace va := va.kept hb
    replace vb := vb.kept hb
    replace vab := vab.kept hb
    replace vba := vba.kept hb
    replace vleft := vleft.kept hb
    replace vright := vright.kept hb
    replace vp := vp.kept hb
    replace vq := vq.kept hb
    replace vs := vs.kept hb
    replace vt := vt.kept hb
    replace vover := vover.kept hb
    replace vsum := vsum.kept hb
    replace vback := vback.kept hb
    replace HB := hide (gr_trans (unhide HB) hb)
    clear hb h_x h_y
    have h_x := vab.cell
    have h_y := vba.cell
    go_wp2_with fail
    refine (same_any a_ab a_ba n_ab n_ba c_ab c_ba (A + B) (B + A) w22 vab.num vba.num).mono ?_
    rintro e w23 ⟨rfl, hb⟩
    rw [decide_eq_true (Nat.add_comm _ _)]
    replace va := va.kept hb
    replace vb := vb.kept hb
    replace vab := vab.kept hb
    replace vba := vba.kept hb
    replace vleft := vleft.kept hb
    replace vright := vright.kept hb
    replace vp := vp.kept hb
    replace vq := vq.kept hb
    replace vs := vs.kept hb
    replace vt := vt.kept hb
    replace vover := vover.kept hb
    replace vsum := vsum.kept hb
    replace vback := vback.kept hb
    replace HB := hide (gr_trans (unhide HB) hb)
    clear hb h_x h_y
    have h_x := vleft.cell
    have h_y := vright.cell
    go_wp2_with fail
    refine (same_any a_left a_right n_left n_right c_left c_right ((A + B) + C) (A + (B + C)) w23 vleft.num vright.num).mono ?_
    rintro e w24 ⟨rfl, hb⟩
    rw [decide_eq_true (Nat.add_assoc _ _ _)]
    replace va := va.kept hb
    replace vb := vb.kept hb
    replace vab := vab.kept hb
    replace vba := vba.kept hb
    replace vleft := vleft.kept hb
    replace vright := vright.kept hb
    replace vp := vp.kept hb
    replace vq := vq.kept hb
    replace vs := vs.kept hb
    replace vt := vt.kept hb
    replace vover := vover.kept hb
    replace vsum := vsum.kept hb
    replace vback := vback.kept hb
    replace HB := hide (gr_trans (unhide HB) hb)
    clear hb h_x h_y
    have h_x := vp.cell
    have h_y := vq.cell
    go_wp2_with fail
    refine (same_any a_p a_q n_p n_q c_p c_q (A * B) (B * A) w24 vp.num vq.num).mono ?_
    rintro e w25 ⟨rfl, hb⟩
    rw [decide_eq_true (Nat.mul_comm _ _)]
    replace va := va.kept hb
    replace vb := vb.kept hb
    replace vab := vab.kept hb
    replace vba := vba.kept hb
    replace vleft := vleft.kept hb
    replace vright := vright.kept hb
    replace vp := vp.kept hb
    replace vq := vq.kept hb
    replace vs := vs.kept hb
    replace vt := vt.kept hb
    replace vover := vover.kept hb
    replace vsum := vsum.kept hb
    replace vback := vback.kept hb
    replace HB := hide (gr_trans (unhide HB) hb)
    clear hb h_x h_y
    have h_x := vs.cell
    have h_y := vt.cell
    go_wp2_with fail
    refine (same_any a_s a_t n_s n_t c_s c_t ((A * B) * C) (A * (B * C)) w25 vs.num vt.num).mono ?_
    rintro e w26 ⟨rfl, hb⟩
    rw [decide_eq_true (Nat.mul_assoc _ _ _)]
    replace va := va.kept hb
    replace vb := vb.kept hb
    replace vab := vab.kept hb
    replace vba := vba.kept hb
    replace vleft := vleft.kept hb
    replace vright := vright.kept hb
    replace vp := vp.kept hb
    replace vq := vq.kept hb
    replace vs := vs.kept hb
    replace vt := vt.kept hb
    replace vover := vover.kept hb
    replace vsum := vsum.kept hb
    replace vback := vback.kept hb
    replace HB := hide (gr_trans (unhide HB) hb)
    clear hb h_x h_y
    have h_x := vover.cell
    have h_y := vsum.cell
    go_wp2_with fail
    refine (same_any a_over a_sum n_over n_sum c_over c_sum (A * (B + C)) ((A * B) + (A * C)) w26 vover.num vsum.num).mono ?_
    rintro e w27 ⟨rfl, hb⟩
    rw [decide_eq_true (Nat.mul_add _ _ _)]
    replace va := va.kept hb
    replace vb := vb.kept hb
    replace vab := vab.kept hb
    replace vba := vba.kept hb
    replace vleft := vleft.kept hb
    replace vright := vright.kept hb
    replace vp := vp.kept hb
    replace vq := vq.kept hb
    replace vs := vs.kept hb
    replace vt := vt.kept hb
    replace vover := vover.kept hb
    replace vsum := vsum.kept hb
    replace vback := vback.kept hb
    replace HB := hide (gr_trans (unhide HB) hb)
    clear hb h_x h_y
    go_wp2
    go_ret
    exact ⟨rfl, unhide HB⟩
  · have e1 : ((k_z : Int) == (k_x : Int) + (k_y : Int)) = false := by simp; omega
    have e2 : ((k_z : Int) == (k_x : Int) + (k_y : Int) - 1) = true := by simp; omega
    clear hs hle_x hle_y hle_z hn_x hn_y hn_z
    obtain ⟨hkx, hky⟩ := unhide HZ
    have h_x := vback.cell
    have h_y := va.cell
    go_wp2_with fail
    refine (same_any a_back a n_back na c_back ca (A + B - B) (A) w21 vback.num va.num).mono ?_
    rintro e w22 ⟨rfl, hb⟩
    rw [decide_eq_true (Nat.add_sub_cancel _ _)]
    replace va := va.kept hb
    replace vb := vb.kept hb
    replace vab := vab.kept hb
    replace vba := vba.kept hb
    replace vleft := vleft.kept hb
    replace vright := vright.kept hb
    replace vp := vp.kept hb
    replace vq := vq.kept hb
    replace vs := vs.kept hb
    replace vt := vt.kept hb
    replace vover := vover.kept hb
    replace vsum := vsum.kept hb
    replace vback := vback.kept hb
    replace HB := hide (gr_trans (unhide HB) hb)
    clear hb h_x h_y
    have h_x := vab.cell
    have h_y := vba.cell
    go_wp2_with fail
    refine (same_any a_ab a_ba n_ab n_ba c_ab c_ba (A + B) (B + A) w22 vab.num vba.num).mono ?_
    rintro e w23 ⟨rfl, hb⟩
    rw [decide_eq_true (Nat.add_comm _ _)]
    replace va := va.kept hb
    replace vb := vb.kept hb
    replace vab := vab.kept hb
    replace vba := vba.kept hb
    replace vleft := vleft.kept hb
    replace vright := vright.kept hb
    replace vp := vp.kept hb
    replace vq := vq.kept hb
    replace vs := vs.kept hb
    replace vt := vt.kept hb
    replace vover := vover.kept hb
    replace vsum := vsum.kept hb
    replace vback := vback.kept hb
    replace HB := hide (gr_trans (unhide HB) hb)
    clear hb h_x h_y
    have h_x := vleft.cell
    have h_y := vright.cell
    go_wp2_with fail
    refine (same_any a_left a_right n_left n_right c_left c_right ((A + B) + C) (A + (B + C)) w23 vleft.num vright.num).mono ?_
    rintro e w24 ⟨rfl, hb⟩
    rw [decide_eq_true (Nat.add_assoc _ _ _)]
    replace va := va.kept hb
    replace vb := vb.kept hb
    replace vab := vab.kept hb
    replace vba := vba.kept hb
    replace vleft := vleft.kept hb
    replace vright := vright.kept hb
    replace vp := vp.kept hb
    replace vq := vq.kept hb
    replace vs := vs.kept hb
    replace vt := vt.kept hb
    replace vover := vover.kept hb
    replace vsum := vsum.kept hb
    replace vback := vback.kept hb
    replace HB := hide (gr_trans (unhide HB) hb)
    clear hb h_x h_y
    have h_x := vp.cell
    have h_y := vq.cell
    go_wp2_with fail
    refine (same_any a_p a_q n_p n_q c_p c_q (A * B) (B * A) w24 vp.num vq.num).mono ?_
    rintro e w25 ⟨rfl, hb⟩
    rw [decide_eq_true (Nat.mul_comm _ _)]
    replace va := va.kept hb
    replace vb := vb.kept hb
    replace vab := vab.kept hb
    replace vba := vba.kept hb
    replace vleft := vleft.kept hb
    replace vright := vright.kept hb
    replace vp := vp.kept hb
    replace vq := vq.kept hb
    replace vs := vs.kept hb
    replace vt := vt.kept hb
    replace vover := vover.kept hb
    replace vsum := vsum.kept hb
    replace vback := vback.kept hb
    replace HB := hide (gr_trans (unhide HB) hb)
    clear hb h_x h_y
    have h_x := vs.cell
    have h_y := vt.cell
    go_wp2_with fail
    refine (same_any a_s a_t n_s n_t c_s c_t ((A * B) * C) (A * (B * C)) w25 vs.num vt.num).mono ?_
    rintro e w26 ⟨rfl, hb⟩
    rw [decide_eq_true (Nat.mul_assoc _ _ _)]
    replace va := va.kept hb
    replace vb := vb.kept hb
    replace vab := vab.kept hb
    replace vba := vba.kept hb
    replace vleft := vleft.kept hb
    replace vright := vright.kept hb
    replace vp := vp.kept hb
    replace vq := vq.kept hb
    replace vs := vs.kept hb
    replace vt := vt.kept hb
    replace vover := vover.kept hb
    replace vsum := vsum.kept hb
    replace vback := vback.kept hb
    replace HB := hide (gr_trans (unhide HB) hb)
    clear hb h_x h_y
    have h_x := vover.cell
    have h_y := vsum.cell
    go_wp2_with fail
    refine (same_any a_over a_sum n_over n_sum c_over c_sum (A * (B + C)) ((A * B) + (A * C)) w26 vover.num vsum.num).mono ?_
    rintro e w27 ⟨rfl, hb⟩
    rw [decide_eq_true (Nat.mul_add _ _ _)]
    replace va := va.kept hb
    replace vb := vb.kept hb
    replace vab := vab.kept hb
    replace vba := vba.kept hb
    replace vleft := vleft.kept hb
    replace vright := vright.kept hb
    replace vp := vp.kept hb
    replace vq := vq.kept hb
    replace vs := vs.kept hb
    replace vt := vt.kept hb
    replace vover := vover.kept hb
    replace vsum := vsum.kept hb
    replace vback := vback.kept hb
    replace HB := hide (gr_trans (unhide HB) hb)
    clear hb h_x h_y
    go_wp2
    go_ret
    exact ⟨rfl, unhide HB⟩
  · have e1 : ((k_z : Int) == (k_x : Int) + (k_y : Int)) = false := by simp; omega
    have e2 : ((k_z : Int) == (k_x : Int) + (k_y : Int) - 1) = false := by simp; omega
    have e3 : ((k_x : Int) == 0) = true := by simp; omega
    have e4 : ((k_z : Int) == 0) = true := by simp; omega
    clear hs hle_x hle_y hle_z hn_x hn_y hn_z
    obtain ⟨hkx, hky⟩ := unhide HZ
    have h_x := vback.cell
    have h_y := va.cell
    go_wp2_with fail
    refine (same_any a_back a n_back na c_back ca (A + B - B) (A) w21 vback.num va.num).mono ?_
    rintro e w22 ⟨rfl, hb⟩
    rw [decide_eq_true (Nat.add_sub_cancel _ _)]
    replace va := va.kept hb
    replace vb := vb.kept hb
    replace vab := vab.kept hb
    replace vba := vba.kept hb
    replace vleft := vleft.kept hb
    replace vright := vright.kept hb
    replace vp := vp.kept hb
    replace vq := vq.kept hb
    replace vs := vs.kept hb
    replace vt := vt.kept hb
    replace vover := vover.kept hb
    replace vsum := vsum.kept hb
    replace vback := vback.kept hb
    replace HB := hide (gr_trans (unhide HB) hb)
    clear hb h_x h_y
    have h_x := vab.cell
    have h_y := vba.cell
    go_wp2_with fail
    refine (same_any a_ab a_ba n_ab n_ba c_ab c_ba (A + B) (B + A) w22 vab.num vba.num).mono ?_
    rintro e w23 ⟨rfl, hb⟩
    rw [decide_eq_true (Nat.add_comm _ _)]
    replace va := va.kept hb
    replace vb := vb.kept hb
    replace vab := vab.kept hb
    replace vba := vba.kept hb
    replace vleft := vleft.kept hb
    replace vright := vright.kept hb
    replace vp := vp.kept hb
    replace vq := vq.kept hb
    replace vs := vs.kept hb
    replace vt := vt.kept hb
    replace vover := vover.kept hb
    replace vsum := vsum.kept hb
    replace vback := vback.kept hb
    replace HB := hide (gr_trans (unhide HB) hb)
    clear hb h_x h_y
    have h_x := vleft.cell
    have h_y := vright.cell
    go_wp2_with fail
    refine (same_any a_left a_right n_left n_right c_left c_right ((A + B) + C) (A + (B + C)) w23 vleft.num vright.num).mono ?_
    rintro e w24 ⟨rfl, hb⟩
    rw [decide_eq_true (Nat.add_assoc _ _ _)]
    replace va := va.kept hb
    replace vb := vb.kept hb
    replace vab := vab.kept hb
    replace vba := vba.kept hb
    replace vleft := vleft.kept hb
    replace vright := vright.kept hb
    replace vp := vp.kept hb
    replace vq := vq.kept hb
    replace vs := vs.kept hb
    replace vt := vt.kept hb
    replace vover := vover.kept hb
    replace vsum := vsum.kept hb
    replace vback := vback.kept hb
    replace HB := hide (gr_trans (unhide HB) hb)
    clear hb h_x h_y
    have h_x := vp.cell
    have h_y := vq.cell
    go_wp2_with fail
    refine (same_any a_p a_q n_p n_q c_p c_q (A * B) (B * A) w24 vp.num vq.num).mono ?_
    rintro e w25 ⟨rfl, hb⟩
    rw [decide_eq_true (Nat.mul_comm _ _)]
    replace va := va.kept hb
    replace vb := vb.kept hb
    replace vab := vab.kept hb
    replace vba := vba.kept hb
    replace vleft := vleft.kept hb
    replace vright := vright.kept hb
    replace vp := vp.kept hb
    replace vq := vq.kept hb
    replace vs := vs.kept hb
    replace vt := vt.kept hb
    replace vover := vover.kept hb
    replace vsum := vsum.kept hb
    replace vback := vback.kept hb
    replace HB := hide (gr_trans (unhide HB) hb)
    clear hb h_x h_y
    have h_x := vs.cell
    have h_y := vt.cell
    go_wp2_with fail
    refine (same_any a_s a_t n_s n_t c_s c_t ((A * B) * C) (A * (B * C)) w25 vs.num vt.num).mono ?_
    rintro e w26 ⟨rfl, hb⟩
    rw [decide_eq_true (Nat.mul_assoc _ _ _)]
    replace va := va.kept hb
    replace vb := vb.kept hb
    replace vab := vab.kept hb
    replace vba := vba.kept hb
    replace vleft := vleft.kept hb
    replace vright := vright.kept hb
    replace vp := vp.kept hb
    replace vq := vq.kept hb
    replace vs := vs.kept hb
    replace vt := vt.kept hb
    replace vover := vover.kept hb
    replace vsum := vsum.kept hb
    replace vback := vback.kept hb
    replace HB := hide (gr_trans (unhide HB) hb)
    clear hb h_x h_y
    have h_x := vover.cell
    have h_y := vsum.cell
    go_wp2_with fail
    refine (same_any a_over a_sum n_over n_sum c_over c_sum (A * (B + C)) ((A * B) + (A * C)) w26 vover.num vsum.num).mono ?_
    rintro e w27 ⟨rfl, hb⟩
    rw [decide_eq_true (Nat.mul_add _ _ _)]
    replace va := va.kept hb
    replace vb := vb.kept hb
    replace vab := vab.kept hb
    replace vba := vba.kept hb
    replace vleft := vleft.kept hb
    replace vright := vright.kept hb
    replace vp := vp.kept hb
    replace vq := vq.kept hb
    replace vs := vs.kept hb
    replace vt := vt.kept hb
    replace vover := vover.kept hb
    replace vsum := vsum.kept hb
    replace vback := vback.kept hb
    replace HB := hide (gr_trans (unhide HB) hb)
    clear hb h_x h_y
    go_wp2
    go_ret
    exact ⟨rfl, unhide HB⟩
  · have e1 : ((k_z : Int) == (k_x : Int) + (k_y : Int)) = false := by simp; omega
    have e2 : ((k_z : Int) == (k_x : Int) + (k_y : Int) - 1) = false := by simp; omega
    have e3 : ((k_x : Int) == 0) = false := by simp; omega
    have e5 : ((k_y : Int) == 0) = true := by simp; omega
    have e4 : ((k_z : Int) == 0) = true := by simp; omega
    clear hs hle_x hle_y hle_z hn_x hn_y hn_z
    obtain ⟨hkx, hky⟩ := unhide HZ
    have h_x := vback.cell
    have h_y := va.cell
    go_wp2_with fail
    refine (same_any a_back a n_back na c_back ca (A + B - B) (A) w21 vback.num va.num).mono ?_
    rintro e w22 ⟨rfl, hb⟩
    rw [decide_eq_true (Nat.add_sub_cancel _ _)]
    replace va := va.kept hb
    replace vb := vb.kept hb
    replace vab := vab.kept hb
    replace vba := vba.kept hb
    replace vleft := vleft.kept hb
    replace vright := vright.kept hb
    replace vp := vp.kept hb
    replace vq := vq.kept hb
    replace vs := vs.kept hb
    replace vt := vt.kept hb
    replace vover := vover.kept hb
    replace vsum := vsum.kept hb
    replace vback := vback.kept hb
    replace HB := hide (gr_trans (unhide HB) hb)
    clear hb h_x h_y
    have h_x := vab.cell
    have h_y := vba.cell
    go_wp2_with fail
    refine (same_any a_ab a_ba n_ab n_ba c_ab c_ba (A + B) (B + A) w22 vab.num vba.num).mono ?_
    rintro e w23 ⟨rfl, hb⟩
    rw [decide_eq_true (Nat.add_comm _ _)]
    replace va := va.kept hb
    replace vb := vb.kept hb
    replace vab := vab.kept hb
    replace vba := vba.kept hb
    replace vleft := vleft.kept hb
    replace vright := vright.kept hb
    replace vp := vp.kept hb
    replace vq := vq.kept hb
    replace vs := vs.kept hb
    replace vt := vt.kept hb
    replace vover := vover.kept hb
    replace vsum := vsum.kept hb
    replace vback := vback.kept hb
    replace HB := hide (gr_trans (unhide HB) hb)
    clear hb h_x h_y
    have h_x := vleft.cell
    have h_y := vright.cell
    go_wp2_with fail
    refine (same_any a_left a_right n_left n_right c_left c_right ((A + B) + C) (A + (B + C)) w23 vleft.num vright.num).mono ?_
    rintro e w24 ⟨rfl, hb⟩
    rw [decide_eq_true (Nat.add_assoc _ _ _)]
    replace va := va.kept hb
    replace vb := vb.kept hb
    replace vab := vab.kept hb
    replace vba := vba.kept hb
    replace vleft := vleft.kept hb
    replace vright := vright.kept hb
    replace vp := vp.kept hb
    replace vq := vq.kept hb
    replace vs := vs.kept hb
    replace vt := vt.kept hb
    replace vover := vover.kept hb
    replace vsum := vsum.kept hb
    replace vback := vback.kept hb
    replace HB := hide (gr_trans (unhide HB) hb)
    clear hb h_x h_y
    have h_x := vp.cell
    have h_y := vq.cell
    go_wp2_with fail
    refine (same_any a_p a_q n_p n_q c_p c_q (A * B) (B * A) w24 vp.num vq.num).mono ?_
    rintro e w25 ⟨rfl, hb⟩
    rw [decide_eq_true (Nat.mul_comm _ _)]
    replace va := va.kept hb
    replace vb := vb.kept hb
    replace vab := vab.kept hb
    replace vba := vba.kept hb
    replace vleft := vleft.kept hb
    replace vright := vright.kept hb
    replace vp := vp.kept hb
    replace vq := vq.kept hb
    replace vs := vs.kept hb
    replace vt := vt.kept hb
    replace vover := vover.kept hb
    replace vsum := vsum.kept hb
    replace vback := vback.kept hb
    replace HB := hide (gr_trans (unhide HB) hb)
    clear hb h_x h_y
    have h_x := vs.cell
    have h_y := vt.cell
    go_wp2_with fail
    refine (same_any a_s a_t n_s n_t c_s c_t ((A * B) * C) (A * (B * C)) w25 vs.num vt.num).mono ?_
    rintro e w26 ⟨rfl, hb⟩
    rw [decide_eq_true (Nat.mul_assoc _ _ _)]
    replace va := va.kept hb
    replace vb := vb.kept hb
    replace vab := vab.kept hb
    replace vba := vba.kept hb
    replace vleft := vleft.kept hb
    replace vright := vright.kept hb
    replace vp := vp.kept hb
    replace vq := vq.kept hb
    replace vs := vs.kept hb
    replace vt := vt.kept hb
    replace vover := vover.kept hb
    replace vsum := vsum.kept hb
    replace vback := vback.kept hb
    replace HB := hide (gr_trans (unhide HB) hb)
    clear hb h_x h_y
    have h_x := vover.cell
    have h_y := vsum.cell
    go_wp2_with fail
    refine (same_any a_over a_sum n_over n_sum c_over c_sum (A * (B + C)) ((A * B) + (A * C)) w26 vover.num vsum.num).mono ?_
    rintro e w27 ⟨rfl, hb⟩
    rw [decide_eq_true (Nat.mul_add _ _ _)]
    replace va := va.kept hb
    replace vb := vb.kept hb
    replace vab := vab.kept hb
    replace vba := vba.kept hb
    replace vleft := vleft.kept hb
    replace vright := vright.kept hb
    replace vp := vp.kept hb
    replace vq := vq.kept hb
    replace vs := vs.kept hb
    replace vt := vt.kept hb
    replace vover := vover.kept hb
    replace vsum := vsum.kept hb
    replace vback := vback.kept hb
    replace HB := hide (gr_trans (unhide HB) hb)
    clear hb h_x h_y
    go_wp2
    go_ret
    exact ⟨rfl, unhide HB⟩

/-- Every three numbers, or what may be none. -/
theorem ring_any (a b c : Option Addr) (na nb nc ca cb cc : Nat) (xs ys zs : List Nat) (w : World) (hna : xs.length = na) (hnb : ys.length = nb) (hnc : zs.length = nc) (hba : na ≤ 9223372036854775807) (hbb : nb ≤ 9223372036854775807) (hbc : nc ≤ 9223372036854775807) (hla : Lim w a xs) (hlb : Lim w b ys) (hlc : Lim w c zs) (hwa : Pl.Wf xs) (hwb : Pl.Wf ys) (hwc : Pl.Wf zs) :
    Calls Try.prog 8 #[.agg #[.slice a na ca], .agg #[.slice b nb cb], .agg #[.slice c nc cc]] w fun e w' => e = .returned (.bool true) ∧ Below w.heap.size w w' := by
  by_cases hda : decide (chk xs = 0 ∧ na ≤ 4000) = true
  · by_cases hdb : decide (chk ys = 0 ∧ nb ≤ 4000) = true
    · by_cases hdc : decide (chk zs = 0 ∧ nc ≤ 4000) = true
      · exact ring_in a b c na nb nc ca cb cc xs ys zs w hna hnb hnc hba hbb hbc hla hlb hlc hda hdb hdc hwa hwb hwc
      · exact ring_out3 a b c na nb nc ca cb cc xs ys zs w hna hnb hnc hba hbb hbc hla hlb hlc hda hdb (by simpa using hdc)
    · exact ring_out2 a b c na nb nc ca cb cc xs ys zs w hna hnb hnc hba hbb hbc hla hlb hlc hda (by simpa using hdb)
  · exact ring_out1 a b c na nb nc ca cb cc xs ys zs w hna hnb hnc hba hbb hbc hla hlb hlc (by simpa using hda)

end Go.Proofs.Ytkpbgjgebjcfeaa
