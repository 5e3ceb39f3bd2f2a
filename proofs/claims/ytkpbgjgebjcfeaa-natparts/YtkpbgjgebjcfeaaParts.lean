/- The statement NatParts, walked: quotient times divisor and remainder make the number again, the remainder is below the divisor; of nought, or of what may not be, there are none. -/
import Derived.Test.YtkpbgjgebjcfeaaVars
import Derived.Test.YtkpbgjgebjcfeaaAlive
import Derived.Test.YtkpbgjgebjcfeaaSame
import Derived.Test.YtkpbgjgebjcfeaaSub
import Derived.Test.YtkpbgjgebjcfeaaAdd
import Derived.Test.YtkpbgjgebjcfeaaDivide
namespace Go.Proofs.Ytkpbgjgebjcfeaa
open Go.RowKit

set_option maxHeartbeats 400000 in
theorem cmpApi_any (a a' : Option Addr) (n n' cap cap' m m' : Nat) (w : World) (h : Num w a n m) (h' : Num w a' n' m') :
    Calls Try.prog 46 #[.agg #[.slice a n cap], .agg #[.slice a' n' cap']] w fun e w' => e = .returned (.tuple #[.int .i64 (cmpI m m'), .int .i64 0]) ∧ Below w.heap.size w w' := by
  have HK := hide (fun (o1 o2 : Obj) => checkBoth_num a a' n n' cap cap' m m' ((w.alloc o1).alloc o2) ((h.alloc _).alloc _) ((h'.alloc _).alloc _))
  have H := hide (And.intro h h')
  clear h h'
  go_enter Try.func46, Try.ntmps46
  go_wp2_with fail
  refine (unhide HK _ _).mono ?_
  rintro e w1 ⟨rfl, hb1⟩
  obtain ⟨hc1, hf1⟩ := bcell hb1
  have HB := hide (gr_trans (gr_trans (gr_alloc w (.cells #[.slice a n cap] 24)) (gr_alloc _ (.cells #[.slice a' n' cap'] 24))) hb1)
  clear hb1
  go_wp2_with fail
  refine (compare_any a a' n n' cap cap' m m' w1 ((unhide H).1.kept (unhide HB)) ((unhide H).2.kept (unhide HB))).mono ?_
  rintro e w2 ⟨rfl, hb2⟩
  go_wp2
  go_ret2
  exact ⟨rfl, gr_trans (unhide HB) hb2⟩

set_option maxHeartbeats 800000 in
/-- Div of what may not be. -/
theorem div_bad (a a' : Option Addr) (n n' cap cap' : Nat) (xs ys : List Nat) (w : World) (hn : xs.length = n) (hn' : ys.length = n') (hbx : n ≤ 9223372036854775807) (hby : n' ≤ 9223372036854775807) (hl : Lim w a xs) (hl' : Lim w a' ys) (hne : chk2 xs ys ≠ 0) :
    Calls Try.prog 16 #[.agg #[.slice a n cap], .agg #[.slice a' n' cap']] w fun e w' => e = .returned (.tuple #[.agg #[.slice none 0 0], .agg #[.slice none 0 0], .int .i64 (chk2 xs ys)]) ∧ Below w.heap.size w w' := by
  have hck := fun (o1 o2 o3 o4 : Obj) => checkBoth_any a a' cap cap' xs ys ((((w.alloc o1).alloc o2).alloc o3).alloc o4) (by omega) (by omega) ((((hl.alloc _).alloc _).alloc _).alloc _) ((((hl'.alloc _).alloc _).alloc _).alloc _)
  rw [hn, hn'] at hck
  have HK := hide hck
  have hb0 : (chk2 xs ys != 0) = true := by simp [hne]
  clear hck hl hl' hn hn' hbx hby hne
  go_enter Try.func16, Try.ntmps16
  go_wp2_with fail
  refine (unhide HK _ _ _ _).mono ?_
  rintro e w1 ⟨rfl, hb1⟩
  obtain ⟨hc1, hf1⟩ := bcell hb1
  have hB := hide (gr_trans (gr_trans (gr_trans (gr_trans (gr_alloc _ _) (gr_alloc _ _)) (gr_alloc _ _)) (gr_alloc _ _)) hb1)
  clear hb1 HK
  go_wp2
  exact bodyPost_ret (v := .tuple #[.agg #[.slice none 0 0], .agg #[.slice none 0 0], .int .i64 (chk2 xs ys)]) (by simp [results, Try.results16, go_sem, hc1]) rfl ⟨rfl, ((unhide hB).setCell (p := ⟨w.heap.size + 1 + 1, 0, none⟩) (by simp; omega) _).setCell (by simp; omega) _⟩

set_option maxRecDepth 20000 in
set_option maxHeartbeats 2000000 in
theorem parts_ok (a b : Option Addr) (na nb ca cb m d : Nat) (w : World) (hA : Num w a na m) (hB : Num w b nb d) (hd : 0 < d) :
    Calls Try.prog 9 #[.agg #[.slice a na ca], .agg #[.slice b nb cb]] w fun e w' => e = .returned (.bool true) ∧ Below w.heap.size w w' := by
  have HD := hide hd
  clear hd
  go_enter Try.func9, Try.ntmps9
  go_wp2_with fail
  refine (alive_any _).mono ?_
  rintro e w1 ⟨rfl, hb1⟩
  have hxa := ((Box.made w (.slice a na ca)).alloc (.cells #[.slice b nb cb] 24)).kept hb1
  have hxb := (Box.made (w.alloc (.cells #[.slice a na ca] 24)) (.slice b nb cb)).kept hb1
  simp only [World.size_alloc] at hxa hxb
  have HB := hide (gr_trans (gr_trans (gr_alloc w (.cells #[.slice a na ca] 24)) (gr_alloc _ (.cells #[.slice b nb cb] 24))) hb1)
  have va : Var w1 _ a na ca m := ⟨hxa, hA.kept (unhide HB)⟩
  have vb : Var w1 _ b nb cb d := ⟨hxb, hB.kept (unhide HB)⟩
  clear hb1 hxa hxb hA hB
  have h_a := va.cell
  have h_b := vb.cell
  go_wp2_with fail
  refine (div_any a b na nb ca cb m d w1 va.num vb.num).mono ?_
  rintro e w2 ⟨hans, hb⟩
  obtain ⟨_, aq, nq, cq, ar, nr, cr, rfl, hq, hr⟩ := hans.resolve_left (fun h => absurd h.1 (Nat.ne_of_gt (unhide HD)))
  have vq := (Var.made w2 cq hq.num).alloc (.cells #[.slice ar nr cr] 24)
  have vr := Var.made (w2.alloc (.cells #[.slice aq nq cq] 24)) cr (hr.num.alloc _)
  simp only [World.size_alloc] at vq vr
  replace va := ((va.kept hb).alloc (.cells #[.slice aq nq cq] 24)).alloc (.cells #[.slice ar nr cr] 24)
  replace vb := ((vb.kept hb).alloc (.cells #[.slice aq nq cq] 24)).alloc (.cells #[.slice ar nr cr] 24)
  replace HB := hide (gr_trans (gr_trans (gr_trans (unhide HB) hb) (gr_alloc w2 (.cells #[.slice aq nq cq] 24))) (gr_alloc _ (.cells #[.slice ar nr cr] 24)))
  clear hans hb h_a h_b hq hr
  have h_q := vq.cell
  have h_b := vb.cell
  have hml := va.num.lt
  have HO : Hid (¬ Over (m / d * d) ∧ ¬ Over (m / d * d + m % d)) := by
    have e1 : m / d * d + m % d = m := Nat.div_add_mod' m d
    exact hide ⟨fun o => absurd o.le (Nat.not_le.2 (Nat.lt_of_le_of_lt (Nat.div_mul_le_self m d) hml)), fun o => absurd o.le (Nat.not_le.2 (by rw [e1]; exact hml))⟩
  clear hml
  go_wp2_with fail
  generalize hw : (w2.alloc (.cells #[.slice aq nq cq] 24)).alloc (.cells #[.slice ar nr cr] 24) = w3 at *
  clear hw
  refine (mul_any aq b nq nb cq cb (m / d) d w3 vq.num vb.num).mono ?_
  rintro e u4 ⟨hans, hb⟩
  obtain ⟨ap, np, cp, rfl, hm⟩ := hans.ok (unhide HO).1
  have vp := Var.made u4 cp hm.num
  replace va := (va.kept hb).alloc (.cells #[.slice ap np cp] 24)
  replace vb := (vb.kept hb).alloc (.cells #[.slice ap np cp] 24)
  replace vr := (vr.kept hb).alloc (.cells #[.slice ap np cp] 24)
  replace HB := hide (gr_trans (gr_trans (unhide HB) hb) (gr_alloc u4 (.cells #[.slice ap np cp] 24)))
  clear hans hb hm h_q h_b vq
  have h_p := vp.cell
  have h_r := vr.cell
  go_wp2_with fail
  generalize hw : u4.alloc (.cells #[.slice ap np cp] 24) = w4 at *
  clear hw
  refine (add_any ap ar np nr cp cr (m / d * d) (m % d) w4 vp.num vr.num).mono ?_
  rintro e u5 ⟨hans, hb⟩
  obtain ⟨as', ns, cs, rfl, hm⟩ := hans.ok (unhide HO).2
  have vs := Var.made u5 cs hm.num
  replace va := (va.kept hb).alloc (.cells #[.slice as' ns cs] 24)
  replace vb := (vb.kept hb).alloc (.cells #[.slice as' ns cs] 24)
  replace vr := (vr.kept hb).alloc (.cells #[.slice as' ns cs] 24)
  replace HB := hide (gr_trans (gr_trans (unhide HB) hb) (gr_alloc u5 (.cells #[.slice as' ns cs] 24)))
  clear hans hb hm h_p h_r vp
  have h_r := vr.cell
  have h_b := vb.cell
  go_wp2_with fail
  generalize hw : u5.alloc (.cells #[.slice as' ns cs] 24) = w5 at *
  clear hw
  refine (cmpApi_any ar b nr nb cr cb (m % d) d w5 vr.num vb.num).mono ?_
  rintro e w6 ⟨rfl, hb⟩
  rw [cmpI_lt (Nat.mod_lt _ (unhide HD))]
  replace va := va.kept hb
  replace vs := vs.kept hb
  replace HB := hide (gr_trans (unhide HB) hb)
  clear hb h_r h_b vb vr
  have h_s := vs.cell
  have h_a := va.cell
  go_wp2_with fail
  refine (same_any as' a ns na cs ca (m / d * d + m % d) m w6 vs.num va.num).mono ?_
  rintro e w7 ⟨rfl, hb⟩
  rw [decide_eq_true (Nat.div_add_mod' m d)]
  replace HB := hide (gr_trans (unhide HB) hb)
  clear hb
  go_wp2
  go_ret
  exact ⟨rfl, unhide HB⟩

set_option maxRecDepth 20000 in
set_option maxHeartbeats 2000000 in
/-- A first number that may not be. -/
theorem parts_bad1 (a b : Option Addr) (na nb ca cb : Nat) (xs ys : List Nat) (w : World) (hna : xs.length = na) (hnb : ys.length = nb) (hba : na ≤ 9223372036854775807) (hbb : nb ≤ 9223372036854775807) (hla : Lim w a xs) (hlb : Lim w b ys) (hne : chk xs ≠ 0) :
    Calls Try.prog 9 #[.agg #[.slice a na ca], .agg #[.slice b nb cb]] w fun e w' => e = .returned (.bool true) ∧ Below w.heap.size w w' := by
  have HD := hide (fun w h h' => div_bad a b na nb ca cb xs ys w hna hnb hba hbb h h' (by rw [chk2, if_neg hne]; exact hne))
  have HC := hide (fun w h => check_any a ca xs w (by omega) h)
  rw [hna] at HC
  have hc2 : (chk2 xs ys != 0) = true := by rw [chk2, if_neg hne]; simp [hne]
  have hc1 : (chk xs != 0) = true := by simp [hne]
  clear hna hnb hba hbb hne
  go_enter Try.func9, Try.ntmps9
  go_wp2_with fail
  refine (alive_any _).mono ?_
  rintro e w1 ⟨rfl, hb1⟩
  have hxa := ((Box.made w (.slice a na ca)).alloc (.cells #[.slice b nb cb] 24)).kept hb1
  have hxb := (Box.made (w.alloc (.cells #[.slice a na ca] 24)) (.slice b nb cb)).kept hb1
  simp only [World.size_alloc] at hxa hxb
  have HB := hide (gr_trans (gr_trans (gr_alloc w (.cells #[.slice a na ca] 24)) (gr_alloc _ (.cells #[.slice b nb cb] 24))) hb1)
  replace hla := hla.below (unhide HB)
  replace hlb := hlb.below (unhide HB)
  have h_a := hxa.cell
  have h_b := hxb.cell
  clear hb1
  go_wp2_with fail
  refine (unhide HD _ hla hlb).mono ?_
  rintro e w2 ⟨rfl, hb⟩
  replace hxa := ((hxa.kept hb).alloc (.cells #[.slice none 0 0] 24)).alloc (.cells #[.slice none 0 0] 24)
  replace hla := ((hla.below hb).alloc (.cells #[.slice none 0 0] 24)).alloc (.cells #[.slice none 0 0] 24)
  replace h_a := hxa.cell
  replace HB := hide (gr_trans (gr_trans (gr_trans (unhide HB) hb) (gr_alloc w2 (.cells #[.slice none 0 0] 24))) (gr_alloc _ (.cells #[.slice none 0 0] 24)))
  clear hb h_b hxb hlb
  go_wp2_with fail
  refine (unhide HC _ hla).mono ?_
  rintro e w3 ⟨rfl, hb⟩
  replace HB := hide (gr_trans (unhide HB) hb)
  clear hb h_a hxa hla
  go_wp2
  go_ret
  exact ⟨rfl, unhide HB⟩

set_option maxRecDepth 20000 in
set_option maxHeartbeats 2000000 in
/-- A second number that may not be. -/
theorem parts_bad2 (a b : Option Addr) (na nb ca cb : Nat) (xs ys : List Nat) (w : World) (hna : xs.length = na) (hnb : ys.length = nb) (hba : na ≤ 9223372036854775807) (hbb : nb ≤ 9223372036854775807) (hla : Lim w a xs) (hlb : Lim w b ys) (h0 : chk xs = 0) (hne : chk ys ≠ 0) :
    Calls Try.prog 9 #[.agg #[.slice a na ca], .agg #[.slice b nb cb]] w fun e w' => e = .returned (.bool true) ∧ Below w.heap.size w w' := by
  have HD := hide (fun w h h' => div_bad a b na nb ca cb xs ys w hna hnb hba hbb h h' (by rw [chk2, if_pos h0]; exact hne))
  have HC := hide (fun w h => check_any a ca xs w (by omega) h)
  have HC' := hide (fun w h => check_any b cb ys w (by omega) h)
  rw [hna, h0] at HC
  rw [hnb] at HC'
  have hc2 : (chk2 xs ys != 0) = true := by rw [chk2, if_pos h0]; simp [hne]
  have hc1 : (chk ys != 0) = true := by simp [hne]
  clear hna hnb hba hbb hne h0
  go_enter Try.func9, Try.ntmps9
  go_wp2_with fail
  refine (alive_any _).mono ?_
  rintro e w1 ⟨rfl, hb1⟩
  have hxa := ((Box.made w (.slice a na ca)).alloc (.cells #[.slice b nb cb] 24)).kept hb1
  have hxb := (Box.made (w.alloc (.cells #[.slice a na ca] 24)) (.slice b nb cb)).kept hb1
  simp only [World.size_alloc] at hxa hxb
  have HB := hide (gr_trans (gr_trans (gr_alloc w (.cells #[.slice a na ca] 24)) (gr_alloc _ (.cells #[.slice b nb cb] 24))) hb1)
  replace hla := hla.below (unhide HB)
  replace hlb := hlb.below (unhide HB)
  have h_a := hxa.cell
  have h_b := hxb.cell
  clear hb1
  go_wp2_with fail
  refine (unhide HD _ hla hlb).mono ?_
  rintro e w2 ⟨rfl, hb⟩
  replace hxa := ((hxa.kept hb).alloc (.cells #[.slice none 0 0] 24)).alloc (.cells #[.slice none 0 0] 24)
  replace hxb := ((hxb.kept hb).alloc (.cells #[.slice none 0 0] 24)).alloc (.cells #[.slice none 0 0] 24)
  replace hla := ((hla.below hb).alloc (.cells #[.slice none 0 0] 24)).alloc (.cells #[.slice none 0 0] 24)
  replace hlb := ((hlb.below hb).alloc (.cells #[.slice none 0 0] 24)).alloc (.cells #[.slice none 0 0] 24)
  replace h_a := hxa.cell
  replace h_b := hxb.cell
  replace HB := hide (gr_trans (gr_trans (gr_trans (unhide HB) hb) (gr_alloc w2 (.cells #[.slice none 0 0] 24))) (gr_alloc _ (.cells #[.slice none 0 0] 24)))
  clear hb
  go_wp2_with fail
  refine (unhide HC _ hla).mono ?_
  rintro e w3 ⟨rfl, hb⟩
  replace hxb := hxb.kept hb
  replace hlb := hlb.below hb
  replace h_b := hxb.cell
  replace HB := hide (gr_trans (unhide HB) hb)
  clear hb h_a hxa hla
  go_wp2_with fail
  refine (unhide HC' _ hlb).mono ?_
  rintro e w4 ⟨rfl, hb⟩
  replace HB := hide (gr_trans (unhide HB) hb)
  clear hb h_b hxb hlb
  go_wp2
  go_ret
  exact ⟨rfl, unhide HB⟩

set_option maxRecDepth 20000 in
set_option maxHeartbeats 2000000 in
/-- By nought. -/
theorem parts_zero (a b : Option Addr) (na ca cb : Nat) (xs : List Nat) (w : World) (hna : xs.length = na) (hla : Lim w a xs) (hwa : Pl.Wf xs) (h0 : chk xs = 0) :
    Calls Try.prog 9 #[.agg #[.slice a na ca], .agg #[.slice b 0 cb]] w fun e w' => e = .returned (.bool true) ∧ Below w.heap.size w w' := by
  obtain ⟨hl16, hN⟩ := chk_zero h0
  have HC := hide (fun w h => check_any a ca xs w (by omega) h)
  have HC' := hide (fun w => check_any b cb [] w (by simp) (Or.inl rfl))
  rw [hna, h0] at HC
  have hz : chk ([] : List Nat) = 0 := by decide
  rw [hz] at HC'
  have HN := hide (fun w (h : Lim w a xs) => (⟨xs, hna, h, hwa, hN, rfl, by omega⟩ : Num w a na (Pl.val xs)))
  clear hna h0 hl16 hN hz hwa
  go_enter Try.func9, Try.ntmps9
  go_wp2_with fail
  refine (alive_any _).mono ?_
  rintro e w1 ⟨rfl, hb1⟩
  have hxa := ((Box.made w (.slice a na ca)).alloc (.cells #[.slice b 0 cb] 24)).kept hb1
  have hxb := (Box.made (w.alloc (.cells #[.slice a na ca] 24)) (.slice b 0 cb)).kept hb1
  simp only [World.size_alloc] at hxa hxb
  have HB := hide (gr_trans (gr_trans (gr_alloc w (.cells #[.slice a na ca] 24)) (gr_alloc _ (.cells #[.slice b 0 cb] 24))) hb1)
  replace hla := hla.below (unhide HB)
  have h_a := hxa.cell
  have h_b := hxb.cell
  clear hb1
  go_wp2_with fail
  refine (div_zero a b na ca cb _ _ (unhide HN _ hla)).mono ?_
  rintro e w2 ⟨hda, hb⟩
  obtain ⟨_, rfl⟩ := hda.resolve_right (fun h => absurd h.1 (by omega))
  replace hxa := ((hxa.kept hb).alloc (.cells #[.slice none 0 0] 24)).alloc (.cells #[.slice none 0 0] 24)
  replace hxb := ((hxb.kept hb).alloc (.cells #[.slice none 0 0] 24)).alloc (.cells #[.slice none 0 0] 24)
  replace hla := ((hla.below hb).alloc (.cells #[.slice none 0 0] 24)).alloc (.cells #[.slice none 0 0] 24)
  replace h_a := hxa.cell
  replace h_b := hxb.cell
  replace HB := hide (gr_trans (gr_trans (gr_trans (unhide HB) hb) (gr_alloc w2 (.cells #[.slice none 0 0] 24))) (gr_alloc _ (.cells #[.slice none 0 0] 24)))
  clear hb hda
  go_wp2_with fail
  refine (unhide HC _ hla).mono ?_
  rintro e w3 ⟨rfl, hb⟩
  replace hxb := hxb.kept hb
  replace h_b := hxb.cell
  replace HB := hide (gr_trans (unhide HB) hb)
  clear hb h_a hxa hla
  go_wp2_with fail
  refine (unhide HC' _).mono ?_
  rintro e w4 ⟨rfl, hb⟩
  replace hxb := hxb.kept hb
  replace h_b := hxb.cell
  replace HB := hide (gr_trans (unhide HB) hb)
  clear hb
  go_wp2
  go_ret
  exact ⟨rfl, unhide HB⟩

/-- Every two values of the type api.Nat. -/
theorem parts_any (a b : Option Addr) (na nb ca cb : Nat) (xs ys : List Nat) (w : World) (hna : xs.length = na) (hnb : ys.length = nb) (hba : na ≤ 9223372036854775807) (hbb : nb ≤ 9223372036854775807) (hla : Lim w a xs) (hlb : Lim w b ys) (hwa : Pl.Wf xs) (hwb : Pl.Wf ys) :
    Calls Try.prog 9 #[.agg #[.slice a na ca], .agg #[.slice b nb cb]] w fun e w' => e = .returned (.bool true) ∧ Below w.heap.size w w' := by
  by_cases ha : chk xs = 0
  · by_cases hb : chk ys = 0
    · obtain ⟨h1, h2⟩ := chk_zero ha
      obtain ⟨h3, h4⟩ := chk_zero hb
      have hA : Num w a na (Pl.val xs) := ⟨xs, hna, hla, hwa, h2, rfl, by omega⟩
      have hB : Num w b nb (Pl.val ys) := ⟨ys, hnb, hlb, hwb, h4, rfl, by omega⟩
      by_cases hd : Pl.val ys = 0
      · obtain rfl := hB.zero.2 hd
        exact parts_zero a b na ca cb xs w hna hla hwa ha
      · exact parts_ok a b na nb ca cb _ _ w hA hB (by omega)
    · exact parts_bad2 a b na nb ca cb xs ys w hna hnb hba hbb hla hlb ha hb
  · exact parts_bad1 a b na nb ca cb xs ys w hna hnb hba hbb hla hlb ha

end Go.Proofs.Ytkpbgjgebjcfeaa
