/- The statement NatCommon, walked: a greatest common divisor divides both, and over it they have none but 1. -/
import Derived.Test.YtkpbgjgebjcfeaaGcd
import Derived.Test.YtkpbgjgebjcfeaaAlive
import Derived.Test.YtkpbgjgebjcfeaaSame
import Derived.Deep.Cut
import Derived.Deep.RegionWith
namespace Go.Proofs.Ytkpbgjgebjcfeaa
open Go.RowKit

theorem common_one {A B : Nat} (h : 0 < Nat.gcd A B) : Nat.gcd (A / Nat.gcd A B) (B / Nat.gcd A B) = 1 := by
  rw [Nat.gcd_div (Nat.gcd_dvd_left A B) (Nat.gcd_dvd_right A B), Nat.div_self h]
theorem common_mod {A B : Nat} : A % Nat.gcd A B = 0 ∧ B % Nat.gcd A B = 0 := ⟨Nat.mod_eq_zero_of_dvd (Nat.gcd_dvd_left A B), Nat.mod_eq_zero_of_dvd (Nat.gcd_dvd_right A B)⟩
theorem small_num' (a : Option Addr) (n : Nat) (xs : List Nat) (w : World) (hn : xs.length = n) (hl : Lim w a xs) (hw : Pl.Wf xs) (hd : decide (chk xs = 0 ∧ n ≤ 300) = true) : Num w a n (Pl.val xs) := by
  obtain ⟨h0, h4⟩ := of_decide_eq_true hd
  obtain ⟨h1, h2⟩ := chk_zero h0
  exact ⟨xs, hn, hl, hw, h2, rfl, by omega⟩


set_option maxRecDepth 20000 in
set_option maxHeartbeats 1000000 in
theorem common_out1 (a b : Option Addr) (na nb ca cb : Nat) (xs ys : List Nat) (w : World) (hna : xs.length = na) (hnb : ys.length = nb) (hba : na ≤ 9223372036854775807) (hbb : nb ≤ 9223372036854775807) (hla : Lim w a xs) (hlb : Lim w b ys)
    (hda : decide (chk xs = 0 ∧ na ≤ 300) = false) :
    Calls Try.prog 11 #[.agg #[.slice a na ca], .agg #[.slice b nb cb]] w fun e w' => e = .returned (.bool true) ∧ Below w.heap.size w w' := by
  have HSA := hide (fun w h => small_any a na ca 300 xs w hna hba h)
  have HSB := hide (fun w h => small_any b nb cb 300 ys w hnb hbb h)
  rw [hda] at HSA
  clear hda
  clear hna hnb hba hbb
  go_enter Try.func11, Try.ntmps11
  go_wp2_with fail
  refine (alive_any _).mono ?_
  rintro e w1 ⟨rfl, hb1⟩
  have hxa := ((Box.made w (.slice a na ca)).alloc (.cells #[.slice b nb cb] 24)).kept hb1
  have hxb := (Box.made (w.alloc (.cells #[.slice a na ca] 24)) (.slice b nb cb)).kept hb1
  have HB := hide (gr_trans (gr_trans (gr_alloc w (.cells #[.slice a na ca] 24)) (gr_alloc _ (.cells #[.slice b nb cb] 24))) hb1)
  simp only [World.size_alloc] at hxa hxb
  replace hla := hla.below (unhide HB)
  replace hlb := hlb.below (unhide HB)
  have hca := hxa.cell
  have hcb := hxb.cell
  clear hb1
  go_wp2_with fail
  refine (unhide HSA _ hla).mono ?_
  rintro e w2 ⟨rfl, hb2⟩
  replace hxa := hxa.kept hb2
  replace hxb := hxb.kept hb2
  replace hla := hla.below hb2
  replace hlb := hlb.below hb2
  replace hca := hxa.cell
  replace hcb := hxb.cell
  replace HB := hide (gr_trans (unhide HB) hb2)
  clear hb2
  go_wp2
  go_ret
  exact ⟨rfl, unhide HB⟩

set_option maxRecDepth 20000 in
set_option maxHeartbeats 1000000 in
theorem common_out2 (a b : Option Addr) (na nb ca cb : Nat) (xs ys : List Nat) (w : World) (hna : xs.length = na) (hnb : ys.length = nb) (hba : na ≤ 9223372036854775807) (hbb : nb ≤ 9223372036854775807) (hla : Lim w a xs) (hlb : Lim w b ys)
    (hda : decide (chk xs = 0 ∧ na ≤ 300) = true) (hdb : decide (chk ys = 0 ∧ nb ≤ 300) = false) :
    Calls Try.prog 11 #[.agg #[.slice a na ca], .agg #[.slice b nb cb]] w fun e w' => e = .returned (.bool true) ∧ Below w.heap.size w w' := by
  have HSA := hide (fun w h => small_any a na ca 300 xs w hna hba h)
  have HSB := hide (fun w h => small_any b nb cb 300 ys w hnb hbb h)
  rw [hda] at HSA
  rw [hdb] at HSB
  clear hda hdb
  clear hna hnb hba hbb
  go_enter Try.func11, Try.ntmps11
  go_wp2_with fail
  refine (alive_any _).mono ?_
  rintro e w1 ⟨rfl, hb1⟩
  have hxa := ((Box.made w (.slice a na ca)).alloc (.cells #[.slice b nb cb] 24)).kept hb1
  have hxb := (Box.made (w.alloc (.cells #[.slice a na ca] 24)) (.slice b nb cb)).kept hb1
  have HB := hide (gr_trans (gr_trans (gr_alloc w (.cells #[.slice a na ca] 24)) (gr_alloc _ (.cells #[.slice b nb cb] 24))) hb1)
  simp only [World.size_alloc] at hxa hxb
  replace hla := hla.below (unhide HB)
  replace hlb := hlb.below (unhide HB)
  have hca := hxa.cell
  have hcb := hxb.cell
  clear hb1
  go_wp2_with fail
  refine (unhide HSA _ hla).mono ?_
  rintro e w2 ⟨rfl, hb2⟩
  replace hxa := hxa.kept hb2
  replace hxb := hxb.kept hb2
  replace hla := hla.below hb2
  replace hlb := hlb.below hb2
  replace hca := hxa.cell
  replace hcb := hxb.cell
  replace HB := hide (gr_trans (unhide HB) hb2)
  clear hb2
  go_wp2_with fail
  refine (unhide HSB _ hlb).mono ?_
  rintro e w3 ⟨rfl, hb3⟩
  replace hxa := hxa.kept hb3
  replace hxb := hxb.kept hb3
  replace hla := hla.below hb3
  replace hlb := hlb.below hb3
  replace hca := hxa.cell
  replace hcb := hxb.cell
  replace HB := hide (gr_trans (unhide HB) hb3)
  clear hb3
  go_wp2
  go_ret
  exact ⟨rfl, unhide HB⟩

set_option maxRecDepth 20000 in
set_option maxHeartbeats 4000000 in
theorem common_zero (a b : Option Addr) (na nb ca cb : Nat) (xs ys : List Nat) (w : World) (hna : xs.length = na) (hnb : ys.length = nb) (hba : na ≤ 9223372036854775807) (hbb : nb ≤ 9223372036854775807) (hla : Lim w a xs) (hlb : Lim w b ys)
    (hda : decide (chk xs = 0 ∧ na ≤ 300) = true) (hdb : decide (chk ys = 0 ∧ nb ≤ 300) = true) (hwa : Pl.Wf xs) (hwb : Pl.Wf ys) (hz : Hid (Pl.val xs = 0 ∧ Pl.val ys = 0)) :
    Calls Try.prog 11 #[.agg #[.slice a na ca], .agg #[.slice b nb cb]] w fun e w' => e = .returned (.bool true) ∧ Below w.heap.size w w' := by
  have HNA := hide (fun w h => small_num' a na xs w hna h hwa hda)
  have HNB := hide (fun w h => small_num' b nb ys w hnb h hwb hdb)
  have HSA := hide (fun w h => small_any a na ca 300 xs w hna hba h)
  have HSB := hide (fun w h => small_any b nb cb 300 ys w hnb hbb h)
  rw [hda] at HSA
  rw [hdb] at HSB
  clear hda hdb
  clear hna hnb hba hbb
  go_enter Try.func11, Try.ntmps11
  go_wp2_with fail
  refine (alive_any _).mono ?_
  rintro e w1 ⟨rfl, hb1⟩
  have hxa := ((Box.made w (.slice a na ca)).alloc (.cells #[.slice b nb cb] 24)).kept hb1
  have hxb := (Box.made (w.alloc (.cells #[.slice a na ca] 24)) (.slice b nb cb)).kept hb1
  have HB := hide (gr_trans (gr_trans (gr_alloc w (.cells #[.slice a na ca] 24)) (gr_alloc _ (.cells #[.slice b nb cb] 24))) hb1)
  simp only [World.size_alloc] at hxa hxb
  replace hla := hla.below (unhide HB)
  replace hlb := hlb.below (unhide HB)
  have hca := hxa.cell
  have hcb := hxb.cell
  clear hb1
  go_wp2_with fail
  refine (unhide HSA _ hla).mono ?_
  rintro e w2 ⟨rfl, hb2⟩
  replace hxa := hxa.kept hb2
  replace hxb := hxb.kept hb2
  replace hla := hla.below hb2
  replace hlb := hlb.below hb2
  replace hca := hxa.cell
  replace hcb := hxb.cell
  replace HB := hide (gr_trans (unhide HB) hb2)
  clear hb2
  go_wp2_with fail
  refine (unhide HSB _ hlb).mono ?_
  rintro e w3 ⟨rfl, hb3⟩
  replace hxa := hxa.kept hb3
  replace hxb := hxb.kept hb3
  replace hla := hla.below hb3
  replace hlb := hlb.below hb3
  replace hca := hxa.cell
  replace hcb := hxb.cell
  replace HB := hide (gr_trans (unhide HB) hb3)
  clear hb3
  have va : Var w3 _ a na ca (Pl.val xs) := ⟨hxa, unhide HNA _ hla⟩
  have vb : Var w3 _ b nb cb (Pl.val ys) := ⟨hxb, unhide HNB _ hlb⟩
  generalize Pl.val xs = A at *
  generalize Pl.val ys = B at *
  clear hxa hxb hla hlb HNA HNB HSA HSB hca hcb hwa hwb
  have h_a := va.cell
  have h_b := vb.cell
  go_wp2_with fail
  refine (gcd_any a b na nb ca cb (A) (B) w3 va.num vb.num).mono ?_
  rintro e u4 ⟨⟨a_g, n_g, c_g, rfl, hm⟩, hb⟩
  have vg := Var.made u4 c_g hm.num
  replace va := (va.kept hb).alloc (.cells #[.slice a_g n_g c_g] 24)
  replace vb := (vb.kept hb).alloc (.cells #[.slice a_g n_g c_g] 24)
  replace HB := hide (gr_trans (gr_trans (unhide HB) hb) (gr_alloc u4 (.cells #[.slice a_g n_g c_g] 24)))
  clear hb hm h_a h_b
  have h_b := vb.cell
  have h_a := va.cell
  go_wp2_with fail
  generalize hw : u4.alloc (.cells #[.slice a_g n_g c_g] 24) = w4 at *
  generalize u4.heap.size = p_g at *
  clear hw
  refine (gcd_any b a nb na cb ca (B) (A) w4 vb.num va.num).mono ?_
  rintro e u5 ⟨⟨a_h, n_h, c_h, rfl, hm⟩, hb⟩
  have vh := Var.made u5 c_h hm.num
  replace va := (va.kept hb).alloc (.cells #[.slice a_h n_h c_h] 24)
  replace vb := (vb.kept hb).alloc (.cells #[.slice a_h n_h c_h] 24)
  replace vg := (vg.kept hb).alloc (.cells #[.slice a_h n_h c_h] 24)
  replace HB := hide (gr_trans (gr_trans (unhide HB) hb) (gr_alloc u5 (.cells #[.slice a_h n_h c_h] 24)))
  clear hb hm h_b h_a
  have h_g := vg.cell
  have h_h := vh.cell
  go_wp2_with fail
  generalize hw : u5.alloc (.cells #[.slice a_h n_h c_h] 24) = w5 at *
  generalize u5.heap.size = p_h at *
  clear hw
  refine (same_any a_g a_h n_g n_h c_g c_h (Nat.gcd A B) (Nat.gcd B A) w5 vg.num vh.num).mono ?_
  rintro e w6 ⟨rfl, hb⟩
  rw [decide_eq_true (Nat.gcd_comm A B)]
  replace va := va.kept hb
  replace vb := vb.kept hb
  replace vg := vg.kept hb
  replace vh := vh.kept hb
  replace HB := hide (gr_trans (unhide HB) hb)
  clear hb h_g h_h vh
  obtain ⟨rfl, rfl⟩ := unhide hz
  obtain rfl := va.num.zero.2 rfl
  obtain rfl := vb.num.zero.2 rfl
  obtain rfl := vg.num.zero.2 rfl
  have h_a := va.cell
  have h_b := vb.cell
  have h_g := vg.cell
  clear va vb vg
  go_wp2
  go_ret
  exact ⟨rfl, unhide HB⟩

set_option maxRecDepth 20000 in
set_option maxHeartbeats 8000000 in
theorem common_in (a b : Option Addr) (na nb ca cb : Nat) (xs ys : List Nat) (w : World) (hna : xs.length = na) (hnb : ys.length = nb) (hba : na ≤ 9223372036854775807) (hbb : nb ≤ 9223372036854775807) (hla : Lim w a xs) (hlb : Lim w b ys)
    (hda : decide (chk xs = 0 ∧ na ≤ 300) = true) (hdb : decide (chk ys = 0 ∧ nb ≤ 300) = true) (hwa : Pl.Wf xs) (hwb : Pl.Wf ys) (hz : Hid (¬ (Pl.val xs = 0 ∧ Pl.val ys = 0))) (bz : Bool) (hbz : Hid (bz = decide (na = 0))) (hbz2 : Hid (bz = true → decide (nb = 0) = false)) :
    Calls Try.prog 11 #[.agg #[.slice a na ca], .agg #[.slice b nb cb]] w fun e w' => e = .returned (.bool true) ∧ Below w.heap.size w w' := by
  have HNA := hide (fun w h => small_num' a na xs w hna h hwa hda)
  have HNB := hide (fun w h => small_num' b nb ys w hnb h hwb hdb)
  have HSA := hide (fun w h => small_any a na ca 300 xs w hna hba h)
  have HSB := hide (fun w h => small_any b nb cb 300 ys w hnb hbb h)
  rw [hda] at HSA
  rw [hdb] at HSB
  clear hda hdb
  clear hna hnb hba hbb
  go_enter Try.func11, Try.ntmps11
  go_wp2_with fail
  refine (alive_any _).mono ?_
  rintro e w1 ⟨rfl, hb1⟩
  have hxa := ((Box.made w (.slice a na ca)).alloc (.cells #[.slice b nb cb] 24)).kept hb1
  have hxb := (Box.made (w.alloc (.cells #[.slice a na ca] 24)) (.slice b nb cb)).kept hb1
  have HB := hide (gr_trans (gr_trans (gr_alloc w (.cells #[.slice a na ca] 24)) (gr_alloc _ (.cells #[.slice b nb cb] 24))) hb1)
  simp only [World.size_alloc] at hxa hxb
  replace hla := hla.below (unhide HB)
  replace hlb := hlb.below (unhide HB)
  have hca := hxa.cell
  have hcb := hxb.cell
  clear hb1
  go_wp2_with fail
  refine (unhide HSA _ hla).mono ?_
  rintro e w2 ⟨rfl, hb2⟩
  replace hxa := hxa.kept hb2
  replace hxb := hxb.kept hb2
  replace hla := hla.below hb2
  replace hlb := hlb.below hb2
  replace hca := hxa.cell
  replace hcb := hxb.cell
  replace HB := hide (gr_trans (unhide HB) hb2)
  clear hb2
  go_wp2_with fail
  refine (unhide HSB _ hlb).mono ?_
  rintro e w3 ⟨rfl, hb3⟩
  replace hxa := hxa.kept hb3
  replace hxb := hxb.kept hb3
  replace hla := hla.below hb3
  replace hlb := hlb.below hb3
  replace hca := hxa.cell
  replace hcb := hxb.cell
  replace HB := hide (gr_trans (unhide HB) hb3)
  clear hb3
  have va : Var w3 _ a na ca (Pl.val xs) := ⟨hxa, unhide HNA _ hla⟩
  have vb : Var w3 _ b nb cb (Pl.val ys) := ⟨hxb, unhide HNB _ hlb⟩
  generalize Pl.val xs = A at *
  generalize Pl.val ys = B at *
  clear hxa hxb hla hlb HNA HNB HSA HSB hca hcb hwa hwb
  have h_a := va.cell
  have h_b := vb.cell
  go_wp2_with fail
  refine (gcd_any a b na nb ca cb (A) (B) w3 va.num vb.num).mono ?_
  rintro e u4 ⟨⟨a_g, n_g, c_g, rfl, hm⟩, hb⟩
  have vg := Var.made u4 c_g hm.num
  replace va := (va.kept hb).alloc (.cells #[.slice a_g n_g c_g] 24)
  replace vb := (vb.kept hb).alloc (.cells #[.slice a_g n_g c_g] 24)
  replace HB := hide (gr_trans (gr_trans (unhide HB) hb) (gr_alloc u4 (.cells #[.slice a_g n_g c_g] 24)))
  clear hb hm h_a h_b
  have h_b := vb.cell
  have h_a := va.cell
  go_wp2_with fail
  generalize hw : u4.alloc (.cells #[.slice a_g n_g c_g] 24) = w4 at *
  generalize u4.heap.size = p_g at *
  clear hw
  refine (gcd_any b a nb na cb ca (B) (A) w4 vb.num va.num).mono ?_
  rintro e u5 ⟨⟨a_h, n_h, c_h, rfl, hm⟩, hb⟩
  have vh := Var.made u5 c_h hm.num
  replace va := (va.kept hb).alloc (.cells #[.slice a_h n_h c_h] 24)
  replace vb := (vb.kept hb).alloc (.cells #[.slice a_h n_h c_h] 24)
  replace vg := (vg.kept hb).alloc (.cells #[.slice a_h n_h c_h] 24)
  replace HB := hide (gr_trans (gr_trans (unhide HB) hb) (gr_alloc u5 (.cells #[.slice a_h n_h c_h] 24)))
  clear hb hm h_b h_a
  have h_g := vg.cell
  have h_h := vh.cell
  go_wp2_with fail
  generalize hw : u5.alloc (.cells #[.slice a_h n_h c_h] 24) = w5 at *
  generalize u5.heap.size = p_h at *
  clear hw
  refine (same_any a_g a_h n_g n_h c_g c_h (Nat.gcd A B) (Nat.gcd B A) w5 vg.num vh.num).mono ?_
  rintro e w6 ⟨rfl, hb⟩
  rw [decide_eq_true (Nat.gcd_comm A B)]
  replace va := va.kept hb
  replace vb := vb.kept hb
  replace vg := vg.kept hb
  replace vh := vh.kept hb
  replace HB := hide (gr_trans (unhide HB) hb)
  clear hb h_g h_h vh
  have hgp : 0 < Nat.gcd A B := Nat.pos_of_ne_zero (fun e => unhide hz (Nat.gcd_eq_zero_iff.1 e))
  have HGP := hide hgp
  clear hgp
  have h_a := va.cell
  have h_b := vb.cell
  cases bz with
  | true =>
    have hna0 : ((na : Int) == 0) = true := by have := of_decide_eq_true (unhide hbz).symm; simp [this]
    have hnb0 : ((nb : Int) == 0) = false := by have := of_decide_eq_false (unhide hbz2 rfl); rw [beq_eq_false_iff_ne]; omega
    go_upto_region 10 with fail
    clear h_a h_b hna0 hnb0
    have h_a := va.cell
    have h_g := vg.cell
    go_wp2_with fail
    refine (div_any a a_g na n_g ca c_g (A) (Nat.gcd A B) w6 va.num vg.num).mono ?_
    rintro e u7 ⟨hans, hb⟩
    obtain ⟨_, a_x, n_x, c_x, a_r, n_r, c_r, rfl, hq, hr⟩ := hans.resolve_left (fun h => absurd h.1 (Nat.ne_of_gt (unhide HGP)))
    have vx := (Var.made u7 c_x hq.num).alloc (.cells #[.slice a_r n_r c_r] 24)
    have vr := Var.made (u7.alloc (.cells #[.slice a_x n_x c_x] 24)) c_r (hr.num.alloc _)
    simp only [World.size_alloc] at vx vr
    replace va := ((va.kept hb).alloc (.cells #[.slice a_x n_x c_x] 24)).alloc (.cells #[.slice a_r n_r c_r] 24)
    replace vb := ((vb.kept hb).alloc (.cells #[.slice a_x n_x c_x] 24)).alloc (.cells #[.slice a_r n_r c_r] 24)
    replace vg := ((vg.kept hb).alloc (.cells #[.slice a_x n_x c_x] 24)).alloc (.cells #[.slice a_r n_r c_r] 24)
    replace HB := hide (gr_trans (gr_trans (gr_trans (unhide HB) hb) (gr_alloc u7 (.cells #[.slice a_x n_x c_x] 24))) (gr_alloc _ (.cells #[.slice a_r n_r c_r] 24)))
    clear hans hb hq hr h_a h_g
    have h_b := vb.cell
    have h_g := vg.cell
    go_wp2_with fail
    generalize hw : (u7.alloc (.cells #[.slice a_x n_x c_x] 24)).alloc (.cells #[.slice a_r n_r c_r] 24) = w7 at *
    generalize u7.heap.size = p_x at *
    clear hw
    refine (div_any b a_g nb n_g cb c_g (B) (Nat.gcd A B) w7 vb.num vg.num).mono ?_
    rintro e u8 ⟨hans, hb⟩
    obtain ⟨_, a_y, n_y, c_y, a_s, n_s, c_s, rfl, hq, hr⟩ := hans.resolve_left (fun h => absurd h.1 (Nat.ne_of_gt (unhide HGP)))
    have vy := (Var.made u8 c_y hq.num).alloc (.cells #[.slice a_s n_s c_s] 24)
    have vs := Var.made (u8.alloc (.cells #[.slice a_y n_y c_y] 24)) c_s (hr.num.alloc _)
    simp only [World.size_alloc] at vy vs
    replace va := ((va.kept hb).alloc (.cells #[.slice a_y n_y c_y] 24)).alloc (.cells #[.slice a_s n_s c_s] 24)
    replace vb := ((vb.kept hb).alloc (.cells #[.slice a_y n_y c_y] 24)).alloc (.cells #[.slice a_s n_s c_s] 24)
    replace vg := ((vg.kept hb).alloc (.cells #[.slice a_y n_y c_y] 24)).alloc (.cells #[.slice a_s n_s c_s] 24)
    replace vx := ((vx.kept hb).alloc (.cells #[.slice a_y n_y c_y] 24)).alloc (.cells #[.slice a_s n_s c_s] 24)
    replace vr := ((vr.kept hb).alloc (.cells #[.slice a_y n_y c_y] 24)).alloc (.cells #[.slice a_s n_s c_s] 24)
    replace HB := hide (gr_trans (gr_trans (gr_trans (unhide HB) hb) (gr_alloc u8 (.cells #[.slice a_y n_y c_y] 24))) (gr_alloc _ (.cells #[.slice a_s n_s c_s] 24)))
    clear hans hb hq hr h_b h_g
    have h_x := vx.cell
    have h_y := vy.cell
    go_wp2_with fail
    generalize hw : (u8.alloc (.cells #[.slice a_y n_y c_y] 24)).alloc (.cells #[.slice a_s n_s c_s] 24) = w8 at *
    generalize u8.heap.size = p_y at *
    clear hw
    refine (gcd_any a_x a_y n_x n_y c_x c_y (A / Nat.gcd A B) (B / Nat.gcd A B) w8 vx.num vy.num).mono ?_
    rintro e u9 ⟨⟨a_one, n_one, c_one, rfl, hm⟩, hb⟩
    have vone := Var.made u9 c_one hm.num
    replace va := (va.kept hb).alloc (.cells #[.slice a_one n_one c_one] 24)
    replace vb := (vb.kept hb).alloc (.cells #[.slice a_one n_one c_one] 24)
    replace vg := (vg.kept hb).alloc (.cells #[.slice a_one n_one c_one] 24)
    replace vx := (vx.kept hb).alloc (.cells #[.slice a_one n_one c_one] 24)
    replace vr := (vr.kept hb).alloc (.cells #[.slice a_one n_one c_one] 24)
    replace vy := (vy.kept hb).alloc (.cells #[.slice a_one n_one c_one] 24)
    replace vs := (vs.kept hb).alloc (.cells #[.slice a_one n_one c_one] 24)
    replace HB := hide (gr_trans (gr_trans (unhide HB) hb) (gr_alloc u9 (.cells #[.slice a_one n_one c_one] 24)))
    clear hb hm h_x h_y
    rw [common_mod.1] at vr
    rw [common_mod.2] at vs
    rw [common_one (unhide HGP)] at vone
    obtain rfl := vr.num.zero.2 rfl
    obtain rfl := vs.num.zero.2 rfl
    have hbr := vr.box
    have hbs := vs.box
    have hbo := vone.box
    have hno := vone.num
    clear va vb vg vx vy vr vs vone
    go_wp2_with fail
    generalize hw : u9.alloc (.cells #[.slice a_one n_one c_one] 24) = w9 at *
    generalize u9.heap.size = p_one at *
    clear hw
    refine wp_region_any (by kernel_rfl) ?_
    change wpAny _ _ _ _ _ _ _ (World.drew _)
    replace hbr := hbr.drew'
    replace hbs := hbs.drew'
    replace hbo := hbo.drew'
    replace hno := hno.drew
    replace HB := hide (unhide HB).drew
    generalize World.drew w9 = wd at *
    have h_r := hbr.cell
    have h_s := hbs.cell
    have h_o := hbo.cell
    refine wpAny_ready (rs := [0]) (by kernel_rfl) (by simp) (AllReady.cons rfl (fun K hK => ?_) AllReady.nil)
    go_simp
    refine hK _ _ ?_
    clear hK K
    refine wpAny_ready (rs := [1]) (by kernel_rfl) (by simp) (AllReady.cons rfl (fun K hK => ?_) AllReady.nil)
    go_simp
    refine hK _ _ ?_
    clear hK K
    refine wpAny_ready (rs := [2]) (by kernel_rfl) (by simp) (AllReady.cons rfl (fun K hK => ?_) AllReady.nil)
    go_simp
    refine hK _ _ ?_
    clear hK K
    refine wpAny_ready (rs := [3]) (by kernel_rfl) (by simp) (AllReady.cons rfl (fun K hK => ?_) AllReady.nil)
    go_simp
    refine hK _ _ ?_
    clear hK K
    refine wpAny_ready (rs := [4]) (by kernel_rfl) (by simp) (AllReady.cons rfl (fun K hK => ?_) AllReady.nil)
    go_simp
    refine hK _ _ ?_
    clear hK K
    refine wpAny_ready (rs := [5]) (by kernel_rfl) (by simp) (AllReady.cons rfl (fun K hK => ?_) AllReady.nil)
    go_simp
    refine hK _ _ ?_
    clear hK K
    refine wpAny_ready (rs := [6]) (by kernel_rfl) (by simp) (AllReady.cons rfl (fun K hK => ?_) AllReady.nil)
    go_simp
    refine hK _ _ ?_
    clear hK K
    refine wpAny_ready (rs := [7]) (by kernel_rfl) (by simp) (AllReady.cons rfl (fun K hK => ?_) AllReady.nil)
    go_simp
    refine hK _ _ ?_
    clear hK K
    refine wpAny_ready (rs := [8]) (by kernel_rfl) (by simp) (AllReady.cons rfl (fun K hK => ?_) AllReady.nil)
    go_simp
    refine hK _ _ ?_
    clear hK K
    refine wpAny_ready (rs := [9]) (by kernel_rfl) (by simp) (AllReady.cons rfl (fun K hK => ?_) AllReady.nil)
    go_simp
    refine hK _ _ ?_
    clear hK K
    refine wpAny_ready (rs := [10]) (by kernel_rfl) (by simp) (AllReady.cons rfl (fun K hK => ?_) AllReady.nil)
    go_simp
    refine hK _ _ ?_
    clear hK K
    refine wpAny_ready (rs := [11]) (by kernel_rfl) (by simp) (AllReady.cons rfl (fun K hK => ?_) AllReady.nil)
    go_simp
    refine hK _ _ ?_
    clear hK K
    refine wpAny_ready (rs := [12]) (by kernel_rfl) (by simp) (AllReady.cons rfl (fun K hK => ?_) AllReady.nil)
    go_simp
    refine hK _ _ ?_
    clear hK K
    refine wpAny_ready (rs := [13]) (by kernel_rfl) (by simp) (AllReady.cons rfl (fun K hK => ?_) AllReady.nil)
    go_simp
    refine hK _ _ ?_
    clear hK K
    refine wpAny_ready (rs := [14]) (by kernel_rfl) (by simp) (AllReady.cons rfl (fun K hK => ?_) AllReady.nil)
    go_simp
    refine hK _ _ ?_
    clear hK K
    refine wpAny_ready (rs := [15]) (by kernel_rfl) (by simp) (AllReady.cons rfl (fun K hK => ?_) AllReady.nil)
    go_simp
    refine hK _ _ ?_
    clear hK K
    refine wpAny_ready (rs := [16]) (by kernel_rfl) (by simp) (AllReady.cons rfl (fun K hK => ?_) AllReady.nil)
    go_simp
    refine hK _ _ ?_
    clear hK K
    refine wpAny_ready (rs := [17]) (by kernel_rfl) (by simp) (AllReady.cons rfl (fun K hK => ?_) AllReady.nil)
    go_simp
    refine hK _ _ ?_
    clear hK K
    refine wpAny_ready (rs := [18]) (by kernel_rfl) (by simp) (AllReady.cons rfl (fun K hK => ?_) AllReady.nil)
    go_simp
    refine hK _ _ ?_
    clear hK K
    refine wpAny_ready (rs := [19]) (by kernel_rfl) (by simp) (AllReady.cons rfl (fun K hK => ?_) AllReady.nil)
    go_simp
    refine hK _ _ ?_
    clear hK K
    refine wpAny_ready (rs := [20]) (by kernel_rfl) (by simp) (AllReady.cons rfl (fun K hK => ?_) AllReady.nil)
    go_simp
    refine hK _ _ ?_
    clear hK K
    refine wpAny_ready (rs := [21]) (by kernel_rfl) (by simp) (AllReady.cons rfl (fun K hK => ?_) AllReady.nil)
    go_simp
    refine hK _ _ ?_
    clear hK K
    refine wpAny_ready (rs := [22]) (by kernel_rfl) (by simp) (AllReady.cons rfl (fun K hK => ?_) AllReady.nil)
    go_simp
    refine hK _ _ ?_
    clear hK K
    refine wpAny_ready (rs := [23, 24]) (by kernel_rfl) (by simp) (AllReady.cons rfl (fun K hK => ?_) (AllReady.cons rfl (fun K hK => ?_) AllReady.nil))
    · go_simp
      refine hK _ _ ?_
      clear hK K
      refine wpAny_ready (rs := [24]) (by kernel_rfl) (by simp) (AllReady.cons rfl (fun K hK => ?_) AllReady.nil)
      go_simp
      go_wp2_with fail
      refine (of_any 1 _ (by omega)).mono ?_
      rintro e w8 ⟨⟨a8, n8, c8, rfl, hm8⟩, hb8⟩
      replace hbo := hbo.kept hb8
      replace h_o := hbo.cell
      replace hno := hno.kept hb8
      replace HB := hide (gr_trans (unhide HB) hb8)
      clear hb8 hbr hbs h_r h_s
      refine hK _ _ ?_
      clear hK K
      refine wpAny_ready (rs := [25]) (by kernel_rfl) (by simp) (AllReady.cons rfl (fun K hK => ?_) AllReady.nil)
      go_simp
      go_wp2_with fail
      refine (same_any a_one a8 n_one n8 c_one c8 1 1 _ hno hm8.num).mono ?_
      rintro e w9 ⟨rfl, hb9⟩
      replace HB := hide (gr_trans (unhide HB) hb9)
      clear hbo h_o hno hm8 hb9
      refine hK _ _ ?_
      clear hK K
      refine wpAny_ready (rs := [26]) (by kernel_rfl) (by simp) (AllReady.cons rfl (fun K hK => ?_) AllReady.nil)
      go_simp
      refine hK _ _ ?_
      clear hK K
      refine wpAny_ready (rs := [27]) (by kernel_rfl) (by simp) (AllReady.cons rfl (fun K hK => ?_) AllReady.nil)
      go_simp
      refine hK _ _ ?_
      clear hK K
      refine wpAny_done (by kernel_rfl) ?_ _
      go_wp2
      go_ret
      exact ⟨rfl, unhide HB⟩
    · go_simp
      go_wp2_with fail
      refine (of_any 1 _ (by omega)).mono ?_
      rintro e w8 ⟨⟨a8, n8, c8, rfl, hm8⟩, hb8⟩
      replace hbo := hbo.kept hb8
      replace h_o := hbo.cell
      replace hno := hno.kept hb8
      replace HB := hide (gr_trans (unhide HB) hb8)
      clear hb8 hbr hbs h_r h_s
      refine hK _ _ ?_
      clear hK K
      refine wpAny_ready (rs := [23]) (by kernel_rfl) (by simp) (AllReady.cons rfl (fun K hK => ?_) AllReady.nil)
      go_simp
      refine hK _ _ ?_
      clear hK K
      refine wpAny_ready (rs := [25]) (by kernel_rfl) (by simp) (AllReady.cons rfl (fun K hK => ?_) AllReady.nil)
      go_simp
      go_wp2_with fail
      refine (same_any a_one a8 n_one n8 c_one c8 1 1 _ hno hm8.num).mono ?_
      rintro e w9 ⟨rfl, hb9⟩
      replace HB := hide (gr_trans (unhide HB) hb9)
      clear hbo h_o hno hm8 hb9
      refine hK _ _ ?_
      clear hK K
      refine wpAny_ready (rs := [26]) (by kernel_rfl) (by simp) (AllReady.cons rfl (fun K hK => ?_) AllReady.nil)
      go_simp
      refine hK _ _ ?_
      clear hK K
      refine wpAny_ready (rs := [27]) (by kernel_rfl) (by simp) (AllReady.cons rfl (fun K hK => ?_) AllReady.nil)
      go_simp
      refine hK _ _ ?_
      clear hK K
      refine wpAny_done (by kernel_rfl) ?_ _
      go_wp2
      go_ret
      exact ⟨rfl, unhide HB⟩
  | false =>
    have hna0 : ((na : Int) == 0) = false := by have := of_decide_eq_false (unhide hbz).symm; rw [beq_eq_false_iff_ne]; omega
    go_upto_region 10 with fail
    clear h_a h_b hna0
    have h_a := va.cell
    have h_g := vg.cell
    go_wp2_with fail
    refine (div_any a a_g na n_g ca c_g (A) (Nat.gcd A B) w6 va.num vg.num).mono ?_
    rintro e u7 ⟨hans, hb⟩
    obtain ⟨_, a_x, n_x, c_x, a_r, n_r, c_r, rfl, hq, hr⟩ := hans.resolve_left (fun h => absurd h.1 (Nat.ne_of_gt (unhide HGP)))
    have vx := (Var.made u7 c_x hq.num).alloc (.cells #[.slice a_r n_r c_r] 24)
    have vr := Var.made (u7.alloc (.cells #[.slice a_x n_x c_x] 24)) c_r (hr.num.alloc _)
    simp only [World.size_alloc] at vx vr
    replace va := ((va.kept hb).alloc (.cells #[.slice a_x n_x c_x] 24)).alloc (.cells #[.slice a_r n_r c_r] 24)
    replace vb := ((vb.kept hb).alloc (.cells #[.slice a_x n_x c_x] 24)).alloc (.cells #[.slice a_r n_r c_r] 24)
    replace vg := ((vg.kept hb).alloc (.cells #[.slice a_x n_x c_x] 24)).alloc (.cells #[.slice a_r n_r c_r] 24)
    replace HB := hide (gr_trans (gr_trans (gr_trans (unhide HB) hb) (gr_alloc u7 (.cells #[.slice a_x n_x c_x] 24))) (gr_alloc _ (.cells #[.slice a_r n_r c_r] 24)))
    clear hans hb hq hr h_a h_g
    have h_b := vb.cell
    have h_g := vg.cell
    go_wp2_with fail
    generalize hw : (u7.alloc (.cells #[.slice a_x n_x c_x] 24)).alloc (.cells #[.slice a_r n_r c_r] 24) = w7 at *
    generalize u7.heap.size = p_x at *
    clear hw
    refine (div_any b a_g nb n_g cb c_g (B) (Nat.gcd A B) w7 vb.num vg.num).mono ?_
    rintro e u8 ⟨hans, hb⟩
    obtain ⟨_, a_y, n_y, c_y, a_s, n_s, c_s, rfl, hq, hr⟩ := hans.resolve_left (fun h => absurd h.1 (Nat.ne_of_gt (unhide HGP)))
    have vy := (Var.made u8 c_y hq.num).alloc (.cells #[.slice a_s n_s c_s] 24)
    have vs := Var.made (u8.alloc (.cells #[.slice a_y n_y c_y] 24)) c_s (hr.num.alloc _)
    simp only [World.size_alloc] at vy vs
    replace va := ((va.kept hb).alloc (.cells #[.slice a_y n_y c_y] 24)).alloc (.cells #[.slice a_s n_s c_s] 24)
    replace vb := ((vb.kept hb).alloc (.cells #[.slice a_y n_y c_y] 24)).alloc (.cells #[.slice a_s n_s c_s] 24)
    replace vg := ((vg.kept hb).alloc (.cells #[.slice a_y n_y c_y] 24)).alloc (.cells #[.slice a_s n_s c_s] 24)
    replace vx := ((vx.kept hb).alloc (.cells #[.slice a_y n_y c_y] 24)).alloc (.cells #[.slice a_s n_s c_s] 24)
    replace vr := ((vr.kept hb).alloc (.cells #[.slice a_y n_y c_y] 24)).alloc (.cells #[.slice a_s n_s c_s] 24)
    replace HB := hide (gr_trans (gr_trans (gr_trans (unhide HB) hb) (gr_alloc u8 (.cells #[.slice a_y n_y c_y] 24))) (gr_alloc _ (.cells #[.slice a_s n_s c_s] 24)))
    clear hans hb hq hr h_b h_g
    have h_x := vx.cell
    have h_y := vy.cell
    go_wp2_with fail
    generalize hw : (u8.alloc (.cells #[.slice a_y n_y c_y] 24)).alloc (.cells #[.slice a_s n_s c_s] 24) = w8 at *
    generalize u8.heap.size = p_y at *
    clear hw
    refine (gcd_any a_x a_y n_x n_y c_x c_y (A / Nat.gcd A B) (B / Nat.gcd A B) w8 vx.num vy.num).mono ?_
    rintro e u9 ⟨⟨a_one, n_one, c_one, rfl, hm⟩, hb⟩
    have vone := Var.made u9 c_one hm.num
    replace va := (va.kept hb).alloc (.cells #[.slice a_one n_one c_one] 24)
    replace vb := (vb.kept hb).alloc (.cells #[.slice a_one n_one c_one] 24)
    replace vg := (vg.kept hb).alloc (.cells #[.slice a_one n_one c_one] 24)
    replace vx := (vx.kept hb).alloc (.cells #[.slice a_one n_one c_one] 24)
    replace vr := (vr.kept hb).alloc (.cells #[.slice a_one n_one c_one] 24)
    replace vy := (vy.kept hb).alloc (.cells #[.slice a_one n_one c_one] 24)
    replace vs := (vs.kept hb).alloc (.cells #[.slice a_one n_one c_one] 24)
    replace HB := hide (gr_trans (gr_trans (unhide HB) hb) (gr_alloc u9 (.cells #[.slice a_one n_one c_one] 24)))
    clear hb hm h_x h_y
    rw [common_mod.1] at vr
    rw [common_mod.2] at vs
    rw [common_one (unhide HGP)] at vone
    obtain rfl := vr.num.zero.2 rfl
    obtain rfl := vs.num.zero.2 rfl
    have hbr := vr.box
    have hbs := vs.box
    have hbo := vone.box
    have hno := vone.num
    clear va vb vg vx vy vr vs vone
    go_wp2_with fail
    generalize hw : u9.alloc (.cells #[.slice a_one n_one c_one] 24) = w9 at *
    generalize u9.heap.size = p_one at *
    clear hw
    refine wp_region_any (by kernel_rfl) ?_
    change wpAny _ _ _ _ _ _ _ (World.drew _)
    replace hbr := hbr.drew'
    replace hbs := hbs.drew'
    replace hbo := hbo.drew'
    replace hno := hno.drew
    replace HB := hide (unhide HB).drew
    generalize World.drew w9 = wd at *
    have h_r := hbr.cell
    have h_s := hbs.cell
    have h_o := hbo.cell
    refine wpAny_ready (rs := [0]) (by kernel_rfl) (by simp) (AllReady.cons rfl (fun K hK => ?_) AllReady.nil)
    go_simp
    refine hK _ _ ?_
    clear hK K
    refine wpAny_ready (rs := [1]) (by kernel_rfl) (by simp) (AllReady.cons rfl (fun K hK => ?_) AllReady.nil)
    go_simp
    refine hK _ _ ?_
    clear hK K
    refine wpAny_ready (rs := [2]) (by kernel_rfl) (by simp) (AllReady.cons rfl (fun K hK => ?_) AllReady.nil)
    go_simp
    refine hK _ _ ?_
    clear hK K
    refine wpAny_ready (rs := [3]) (by kernel_rfl) (by simp) (AllReady.cons rfl (fun K hK => ?_) AllReady.nil)
    go_simp
    refine hK _ _ ?_
    clear hK K
    refine wpAny_ready (rs := [4]) (by kernel_rfl) (by simp) (AllReady.cons rfl (fun K hK => ?_) AllReady.nil)
    go_simp
    refine hK _ _ ?_
    clear hK K
    refine wpAny_ready (rs := [5]) (by kernel_rfl) (by simp) (AllReady.cons rfl (fun K hK => ?_) AllReady.nil)
    go_simp
    refine hK _ _ ?_
    clear hK K
    refine wpAny_ready (rs := [6]) (by kernel_rfl) (by simp) (AllReady.cons rfl (fun K hK => ?_) AllReady.nil)
    go_simp
    refine hK _ _ ?_
    clear hK K
    refine wpAny_ready (rs := [7]) (by kernel_rfl) (by simp) (AllReady.cons rfl (fun K hK => ?_) AllReady.nil)
    go_simp
    refine hK _ _ ?_
    clear hK K
    refine wpAny_ready (rs := [8]) (by kernel_rfl) (by simp) (AllReady.cons rfl (fun K hK => ?_) AllReady.nil)
    go_simp
    refine hK _ _ ?_
    clear hK K
    refine wpAny_ready (rs := [9]) (by kernel_rfl) (by simp) (AllReady.cons rfl (fun K hK => ?_) AllReady.nil)
    go_simp
    refine hK _ _ ?_
    clear hK K
    refine wpAny_ready (rs := [10]) (by kernel_rfl) (by simp) (AllReady.cons rfl (fun K hK => ?_) AllReady.nil)
    go_simp
    refine hK _ _ ?_
    clear hK K
    refine wpAny_ready (rs := [11]) (by kernel_rfl) (by simp) (AllReady.cons rfl (fun K hK => ?_) AllReady.nil)
    go_simp
    refine hK _ _ ?_
    clear hK K
    refine wpAny_ready (rs := [12]) (by kernel_rfl) (by simp) (AllReady.cons rfl (fun K hK => ?_) AllReady.nil)
    go_simp
    refine hK _ _ ?_
    clear hK K
    refine wpAny_ready (rs := [13]) (by kernel_rfl) (by simp) (AllReady.cons rfl (fun K hK => ?_) AllReady.nil)
    go_simp
    refine hK _ _ ?_
    clear hK K
    refine wpAny_ready (rs := [14]) (by kernel_rfl) (by simp) (AllReady.cons rfl (fun K hK => ?_) AllReady.nil)
    go_simp
    refine hK _ _ ?_
    clear hK K
    refine wpAny_ready (rs := [15]) (by kernel_rfl) (by simp) (AllReady.cons rfl (fun K hK => ?_) AllReady.nil)
    go_simp
    refine hK _ _ ?_
    clear hK K
    refine wpAny_ready (rs := [16]) (by kernel_rfl) (by simp) (AllReady.cons rfl (fun K hK => ?_) AllReady.nil)
    go_simp
    refine hK _ _ ?_
    clear hK K
    refine wpAny_ready (rs := [17]) (by kernel_rfl) (by simp) (AllReady.cons rfl (fun K hK => ?_) AllReady.nil)
    go_simp
    refine hK _ _ ?_
    clear hK K
    refine wpAny_ready (rs := [18]) (by kernel_rfl) (by simp) (AllReady.cons rfl (fun K hK => ?_) AllReady.nil)
    go_simp
    refine hK _ _ ?_
    clear hK K
    refine wpAny_ready (rs := [19]) (by kernel_rfl) (by simp) (AllReady.cons rfl (fun K hK => ?_) AllReady.nil)
    go_simp
    refine hK _ _ ?_
    clear hK K
    refine wpAny_ready (rs := [20]) (by kernel_rfl) (by simp) (AllReady.cons rfl (fun K hK => ?_) AllReady.nil)
    go_simp
    refine hK _ _ ?_
    clear hK K
    refine wpAny_ready (rs := [21]) (by kernel_rfl) (by simp) (AllReady.cons rfl (fun K hK => ?_) AllReady.nil)
    go_simp
    refine hK _ _ ?_
    clear hK K
    refine wpAny_ready (rs := [22]) (by kernel_rfl) (by simp) (AllReady.cons rfl (fun K hK => ?_) AllReady.nil)
    go_simp
    refine hK _ _ ?_
    clear hK K
    refine wpAny_ready (rs := [23, 24]) (by kernel_rfl) (by simp) (AllReady.cons rfl (fun K hK => ?_) (AllReady.cons rfl (fun K hK => ?_) AllReady.nil))
    · go_simp
      refine hK _ _ ?_
      clear hK K
      refine wpAny_ready (rs := [24]) (by kernel_rfl) (by simp) (AllReady.cons rfl (fun K hK => ?_) AllReady.nil)
      go_simp
      go_wp2_with fail
      refine (of_any 1 _ (by omega)).mono ?_
      rintro e w8 ⟨⟨a8, n8, c8, rfl, hm8⟩, hb8⟩
      replace hbo := hbo.kept hb8
      replace h_o := hbo.cell
      replace hno := hno.kept hb8
      replace HB := hide (gr_trans (unhide HB) hb8)
      clear hb8 hbr hbs h_r h_s
      refine hK _ _ ?_
      clear hK K
      refine wpAny_ready (rs := [25]) (by kernel_rfl) (by simp) (AllReady.cons rfl (fun K hK => ?_) AllReady.nil)
      go_simp
      go_wp2_with fail
      refine (same_any a_one a8 n_one n8 c_one c8 1 1 _ hno hm8.num).mono ?_
      rintro e w9 ⟨rfl, hb9⟩
      replace HB := hide (gr_trans (unhide HB) hb9)
      clear hbo h_o hno hm8 hb9
      refine hK _ _ ?_
      clear hK K
      refine wpAny_ready (rs := [26]) (by kernel_rfl) (by simp) (AllReady.cons rfl (fun K hK => ?_) AllReady.nil)
      go_simp
      refine hK _ _ ?_
      clear hK K
      refine wpAny_ready (rs := [27]) (by kernel_rfl) (by simp) (AllReady.cons rfl (fun K hK => ?_) AllReady.nil)
      go_simp
      refine hK _ _ ?_
      clear hK K
      refine wpAny_done (by kernel_rfl) ?_ _
      go_wp2
      go_ret
      exact ⟨rfl, unhide HB⟩
    · go_simp
      go_wp2_with fail
      refine (of_any 1 _ (by omega)).mono ?_
      rintro e w8 ⟨⟨a8, n8, c8, rfl, hm8⟩, hb8⟩
      replace hbo := hbo.kept hb8
      replace h_o := hbo.cell
      replace hno := hno.kept hb8
      replace HB := hide (gr_trans (unhide HB) hb8)
      clear hb8 hbr hbs h_r h_s
      refine hK _ _ ?_
      clear hK K
      refine wpAny_ready (rs := [23]) (by kernel_rfl) (by simp) (AllReady.cons rfl (fun K hK => ?_) AllReady.nil)
      go_simp
      refine hK _ _ ?_
      clear hK K
      refine wpAny_ready (rs := [25]) (by kernel_rfl) (by simp) (AllReady.cons rfl (fun K hK => ?_) AllReady.nil)
      go_simp
      go_wp2_with fail
      refine (same_any a_one a8 n_one n8 c_one c8 1 1 _ hno hm8.num).mono ?_
      rintro e w9 ⟨rfl, hb9⟩
      replace HB := hide (gr_trans (unhide HB) hb9)
      clear hbo h_o hno hm8 hb9
      refine hK _ _ ?_
      clear hK K
      refine wpAny_ready (rs := [26]) (by kernel_rfl) (by simp) (AllReady.cons rfl (fun K hK => ?_) AllReady.nil)
      go_simp
      refine hK _ _ ?_
      clear hK K
      refine wpAny_ready (rs := [27]) (by kernel_rfl) (by simp) (AllReady.cons rfl (fun K hK => ?_) AllReady.nil)
      go_simp
      refine hK _ _ ?_
      clear hK K
      refine wpAny_done (by kernel_rfl) ?_ _
      go_wp2
      go_ret
      exact ⟨rfl, unhide HB⟩

/-- Every two values of the type api.Nat. -/
theorem common_any (a b : Option Addr) (na nb ca cb : Nat) (xs ys : List Nat) (w : World) (hna : xs.length = na) (hnb : ys.length = nb) (hba : na ≤ 9223372036854775807) (hbb : nb ≤ 9223372036854775807) (hla : Lim w a xs) (hlb : Lim w b ys) (hwa : Pl.Wf xs) (hwb : Pl.Wf ys) :
    Calls Try.prog 11 #[.agg #[.slice a na ca], .agg #[.slice b nb cb]] w fun e w' => e = .returned (.bool true) ∧ Below w.heap.size w w' := by
  by_cases hda : decide (chk xs = 0 ∧ na ≤ 300) = true
  · by_cases hdb : decide (chk ys = 0 ∧ nb ≤ 300) = true
    · by_cases hz : Pl.val xs = 0 ∧ Pl.val ys = 0
      · exact common_zero a b na nb ca cb xs ys w hna hnb hba hbb hla hlb hda hdb hwa hwb (hide hz)
      · have k1 := (small_num' a na xs w hna hla hwa hda).zero
        have k2 := (small_num' b nb ys w hnb hlb hwb hdb).zero
        refine common_in a b na nb ca cb xs ys w hna hnb hba hbb hla hlb hda hdb hwa hwb (hide hz) (decide (na = 0)) (hide rfl) (hide fun e => ?_)
        have e1 := of_decide_eq_true e
        simp
        omega
    · exact common_out2 a b na nb ca cb xs ys w hna hnb hba hbb hla hlb hda (by simpa using hdb)
  · exact common_out1 a b na nb ca cb xs ys w hna hnb hba hbb hla hlb (by simpa using hda)

end Go.Proofs.Ytkpbgjgebjcfeaa
