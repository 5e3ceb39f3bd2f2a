/- The statement NatMoves, walked: Up is Mul by a power of two, Down the quotient by it, Down of Up takes back, bits move along. -/
import Derived.Test.YtkpbgjgebjcfeaaUpDown
import Derived.Test.YtkpbgjgebjcfeaaAlive
import Derived.Test.YtkpbgjgebjcfeaaSame
import Derived.Test.YtkpbgjgebjcfeaaDivide
namespace Go.Proofs.Ytkpbgjgebjcfeaa
open Go.RowKit

theorem two_k {k : Nat} (h : k ≤ 5000) : 2 ^ k ≤ Kk := by
  unfold Kk
  rw [pow32]
  exact Nat.pow_le_pow_right (by decide) (by rw [fourK_eq]; omega)
theorem moves_bounds {A k : Nat} (hA : A < Kk) (hk : k ≤ 5000) : 2 ^ k < K4 ∧ A * 2 ^ k < K4 := by
  have h2 := two_k hk
  unfold K4
  have hK := Kk_big
  generalize Kk = K at *
  have k1 : K * 4 ≤ K * K := Nat.mul_le_mul_left _ (by omega)
  have k2 : K * K * 4 ≤ K * K * K := Nat.mul_le_mul_left _ (by omega)
  have k3 : K * K * K * 4 ≤ K * K * K * K := Nat.mul_le_mul_left _ (by omega)
  have p1 : A * 2 ^ k ≤ K * K := Nat.mul_le_mul (by omega) h2
  generalize 2 ^ k = z at *
  generalize A * z = y at *
  generalize K * K * K * K = q4 at *
  generalize K * K * K = q3 at *
  generalize K * K = q2 at *
  omega
theorem bit_up (A k i : Nat) : A * 2 ^ k / 2 ^ (i + k) % 2 = A / 2 ^ i % 2 := by
  rw [Nat.pow_add, Nat.mul_div_mul_right _ _ (Nat.pow_pos (by decide))]
theorem bl_up {A k x y : Nat} (hx : Bl A x) (hy : Bl (A * 2 ^ k) y) : y = x + k ∨ (y ≠ x + k ∧ x = 0 ∧ y = 0) := by
  by_cases hx0 : x = 0
  · subst hx0
    have hA : A = 0 := by have := hx.1; simpa using this
    subst hA
    rw [Nat.zero_mul] at hy
    have : y = 0 := hy.uniq bl_zero
    omega
  · left
    refine hy.uniq ⟨?_, Or.inr ?_⟩
    · rw [Nat.pow_add]; exact Nat.mul_lt_mul_of_pos_right hx.1 (Nat.pow_pos (by decide))
    · rw [show x + k - 1 = x - 1 + k by omega, Nat.pow_add]; exact Nat.mul_le_mul_right _ (hx.2.resolve_left hx0)


set_option maxRecDepth 20000 in
set_option maxHeartbeats 1000000 in
theorem moves_out (a : Option Addr) (na ca nn i k : Nat) (xs : List Nat) (w : World) (hna : xs.length = na) (hca : na ≤ ca) (hca2 : ca ≤ 9223372036854775807) (hla : Lim w a xs) (hk : Hid (k = nn % 5001)) (hnn : nn < 65536)
    (hda : decide (chk xs = 0 ∧ na ≤ 4000) = false) :
    Calls Try.prog 10 #[.agg #[.slice a na ca], .int .u16 (nn : Int), .int .u16 (i : Int)] w fun e w' => e = .returned (.bool true) ∧ Below w.heap.size w w' := by
  have HSA := hide (fun w h => small_any a na ca 4000 xs w hna (by omega) h)
  rw [hda] at HSA
  have HREM : Hid ((nn : Int) % 5001 = (k : Int)) := hide (by have := unhide hk; omega)
  have hk5 : k ≤ 5000 := by have := unhide hk; omega
  have HCap := hide (And.intro hca hca2)
  clear hna hca hca2 hda
  go_enter Try.func10, Try.ntmps10
  go_wp2_with fail
  refine (alive_any _).mono ?_
  rintro e w1 ⟨rfl, hb1⟩
  have hxa := (Box.made w (.slice a na ca)).kept hb1
  have HB := hide (gr_trans (gr_alloc w (.cells #[.slice a na ca] 24)) hb1)
  replace hla := hla.below (unhide HB)
  have hca := hxa.cell
  clear hb1
  go_wp2_with fail
  refine (unhide HSA _ hla).mono ?_
  rintro e w2 ⟨rfl, hb2⟩
  rw [unhide HREM]
  replace hxa := hxa.kept hb2
  replace hla := hla.below hb2
  replace hca := hxa.cell
  replace HB := hide (gr_trans (unhide HB) hb2)
  clear hb2
  go_wp2
  go_ret
  exact ⟨rfl, unhide HB⟩

set_option maxRecDepth 20000 in
set_option maxHeartbeats 8000000 in
theorem moves_in (a : Option Addr) (na ca nn i k : Nat) (xs : List Nat) (w : World) (hna : xs.length = na) (hca : na ≤ ca) (hca2 : ca ≤ 9223372036854775807) (hla : Lim w a xs) (hk : Hid (k = nn % 5001)) (hnn : nn < 65536) (hi : i < 65536)
    (hda : decide (chk xs = 0 ∧ na ≤ 4000) = true) (hwa : Pl.Wf xs) :
    Calls Try.prog 10 #[.agg #[.slice a na ca], .int .u16 (nn : Int), .int .u16 (i : Int)] w fun e w' => e = .returned (.bool true) ∧ Below w.heap.size w w' := by
  have HNA := hide (fun w h => small_num a na xs w hna h hwa hda)
  have HSA := hide (fun w h => small_any a na ca 4000 xs w hna (by omega) h)
  rw [hda] at HSA
  have HREM : Hid ((nn : Int) % 5001 = (k : Int)) := hide (by have := unhide hk; omega)
  have hk5 : k ≤ 5000 := by have := unhide hk; omega
  have HCap := hide (And.intro hca hca2)
  clear hna hca hca2 hda
  go_enter Try.func10, Try.ntmps10
  go_wp2_with fail
  refine (alive_any _).mono ?_
  rintro e w1 ⟨rfl, hb1⟩
  have hxa := (Box.made w (.slice a na ca)).kept hb1
  have HB := hide (gr_trans (gr_alloc w (.cells #[.slice a na ca] 24)) hb1)
  replace hla := hla.below (unhide HB)
  have hca := hxa.cell
  clear hb1
  go_wp2_with fail
  refine (unhide HSA _ hla).mono ?_
  rintro e w2 ⟨rfl, hb2⟩
  rw [unhide HREM]
  replace hxa := hxa.kept hb2
  replace hla := hla.below hb2
  replace hca := hxa.cell
  replace HB := hide (gr_trans (unhide HB) hb2)
  clear hb2
  obtain ⟨hA, hAk⟩ := unhide HNA _ hla
  have va : Var w2 _ a na ca (Pl.val xs) := ⟨hxa, hA⟩
  generalize Pl.val xs = A at *
  obtain ⟨o1, o2⟩ := moves_bounds hAk hk5
  have HO := hide (And.intro (k4_not o1) (k4_not o2))
  clear o1 o2 hxa hla hA hAk HNA HSA hca hwa HREM
  go_wp2_with fail
  refine (pow_any 2 k w2 (by omega) (by omega)).mono ?_
  rintro e u3 ⟨hans, hb⟩
  obtain ⟨a_two, n_two, c_two, rfl, hm⟩ := hans.ok (unhide HO).1
  have hcap_two := hide hm.cap
  have vtwo := Var.made u3 c_two hm.num
  replace va := (va.kept hb).alloc (.cells #[.slice a_two n_two c_two] 24)
  replace HB := hide (gr_trans (gr_trans (unhide HB) hb) (gr_alloc u3 (.cells #[.slice a_two n_two c_two] 24)))
  clear hans hb hm 
  have h_a := va.cell
  go_wp2_with fail
  generalize hw : u3.alloc (.cells #[.slice a_two n_two c_two] 24) = w3 at *
  generalize u3.heap.size = p_two at *
  clear hw
  refine (up_any a na ca A k w3 va.num (by omega)).mono ?_
  rintro e u4 ⟨hans, hb⟩
  obtain ⟨a_u, n_u, c_u, rfl, hm⟩ := hans.ok (unhide HO).2
  have hcap_u := hide hm.cap
  have vu := Var.made u4 c_u hm.num
  replace va := (va.kept hb).alloc (.cells #[.slice a_u n_u c_u] 24)
  replace vtwo := (vtwo.kept hb).alloc (.cells #[.slice a_u n_u c_u] 24)
  replace HB := hide (gr_trans (gr_trans (unhide HB) hb) (gr_alloc u4 (.cells #[.slice a_u n_u c_u] 24)))
  clear hans hb hm h_a
  have h_a := va.cell
  have h_two := vtwo.cell
  go_wp2_with fail
  generalize hw : u4.alloc (.cells #[.slice a_u n_u c_u] 24) = w4 at *
  generalize u4.heap.size = p_u at *
  clear hw
  refine (mul_any a a_two na n_two ca c_two A (2 ^ k) w4 va.num vtwo.num).mono ?_
  rintro e u5 ⟨hans, hb⟩
  obtain ⟨a_p, n_p, c_p, rfl, hm⟩ := hans.ok (unhide HO).2
  have hcap_p := hide hm.cap
  have vp := Var.made u5 c_p hm.num
  replace va := (va.kept hb).alloc (.cells #[.slice a_p n_p c_p] 24)
  replace vtwo := (vtwo.kept hb).alloc (.cells #[.slice a_p n_p c_p] 24)
  replace vu := (vu.kept hb).alloc (.cells #[.slice a_p n_p c_p] 24)
  replace HB := hide (gr_trans (gr_trans (unhide HB) hb) (gr_alloc u5 (.cells #[.slice a_p n_p c_p] 24)))
  clear hans hb hm h_a h_two
  have h_a := va.cell
  go_wp2_with fail
  generalize hw : u5.alloc (.cells #[.slice a_p n_p c_p] 24) = w5 at *
  generalize u5.heap.size = p_p at *
  clear hw
  refine (down_any a na ca A k w5 va.num (unhide HCap).1 (unhide HCap).2 (by omega)).mono ?_
  rintro e u6 ⟨hans, hb⟩
  obtain ⟨a_d, n_d, c_d, rfl, hm⟩ := hans
  have hcap_d := hide hm.cap
  have vd := Var.made u6 c_d hm.num
  replace va := (va.kept hb).alloc (.cells #[.slice a_d n_d c_d] 24)
  replace vtwo := (vtwo.kept hb).alloc (.cells #[.slice a_d n_d c_d] 24)
  replace vu := (vu.kept hb).alloc (.cells #[.slice a_d n_d c_d] 24)
  replace vp := (vp.kept hb).alloc (.cells #[.slice a_d n_d c_d] 24)
  replace HB := hide (gr_trans (gr_trans (unhide HB) hb) (gr_alloc u6 (.cells #[.slice a_d n_d c_d] 24)))
  clear hb hm h_a
  have h_a := va.cell
  have h_two := vtwo.cell
  go_wp2_with fail
  generalize hw : u6.alloc (.cells #[.slice a_d n_d c_d] 24) = w6 at *
  generalize u6.heap.size = p_d at *
  clear hw
  refine (div_any a a_two na n_two ca c_two A (2 ^ k) w6 va.num vtwo.num).mono ?_
  rintro e u7 ⟨hans, hb⟩
  obtain ⟨_, a_q, n_q, c_q, a_r, n_r, c_r, rfl, hq, hr⟩ := hans.resolve_left (fun h => absurd h.1 (Nat.ne_of_gt (Nat.pow_pos (by decide))))
  have vq := (Var.made u7 c_q hq.num).alloc (.cells #[.slice a_r n_r c_r] 24)
  clear vtwo h_a h_two hr hq hans
  replace va := ((va.kept hb).alloc (.cells #[.slice a_q n_q c_q] 24)).alloc (.cells #[.slice a_r n_r c_r] 24)
  replace vu := ((vu.kept hb).alloc (.cells #[.slice a_q n_q c_q] 24)).alloc (.cells #[.slice a_r n_r c_r] 24)
  replace vp := ((vp.kept hb).alloc (.cells #[.slice a_q n_q c_q] 24)).alloc (.cells #[.slice a_r n_r c_r] 24)
  replace vd := ((vd.kept hb).alloc (.cells #[.slice a_q n_q c_q] 24)).alloc (.cells #[.slice a_r n_r c_r] 24)
  replace HB := hide (gr_trans (gr_trans (gr_trans (unhide HB) hb) (gr_alloc u7 (.cells #[.slice a_q n_q c_q] 24))) (gr_alloc _ (.cells #[.slice a_r n_r c_r] 24)))
  clear hb
  have h_u := vu.cell
  go_wp2_with fail
  generalize hw : (u7.alloc (.cells #[.slice a_q n_q c_q] 24)).alloc (.cells #[.slice a_r n_r c_r] 24) = w7 at *
  generalize u7.heap.size = p_q at *
  clear hw
  refine (down_any a_u n_u c_u (A * 2 ^ k) k w7 vu.num (unhide hcap_u).1 (unhide hcap_u).2 (by omega)).mono ?_
  rintro e u8 ⟨hans, hb⟩
  obtain ⟨a_back, n_back, c_back, rfl, hm⟩ := hans
  have hcap_back := hide hm.cap
  have vback := Var.made u8 c_back hm.num
  replace va := (va.kept hb).alloc (.cells #[.slice a_back n_back c_back] 24)
  replace vu := (vu.kept hb).alloc (.cells #[.slice a_back n_back c_back] 24)
  replace vp := (vp.kept hb).alloc (.cells #[.slice a_back n_back c_back] 24)
  replace vd := (vd.kept hb).alloc (.cells #[.slice a_back n_back c_back] 24)
  replace vq := (vq.kept hb).alloc (.cells #[.slice a_back n_back c_back] 24)
  replace HB := hide (gr_trans (gr_trans (unhide HB) hb) (gr_alloc u8 (.cells #[.slice a_back n_back c_back] 24)))
  clear hb hm h_u
  have h_u := vu.cell
  go_wp2_with fail
  generalize hw : u8.alloc (.cells #[.slice a_back n_back c_back] 24) = w8 at *
  generalize u8.heap.size = p_back at *
  clear hw
  refine (bit_any a_u n_u c_u (A * 2 ^ k) (i + k) w8 vu.num (by omega)).mono ?_
  rintro e w9 ⟨rfl, hb⟩
  rw [bit_up]
  replace va := va.kept hb
  replace vu := vu.kept hb
  replace vp := vp.kept hb
  replace vd := vd.kept hb
  replace vq := vq.kept hb
  replace vback := vback.kept hb
  replace HB := hide (gr_trans (unhide HB) hb)
  clear hb h_u
  have h_a := va.cell
  go_wp2_with fail
  refine (bit_any a na ca A i w9 va.num (by omega)).mono ?_
  rintro e w10 ⟨rfl, hb⟩
  generalize decide (A / 2 ^ i % 2 = 1) = bb at *
  replace va := va.kept hb
  replace vu := vu.kept hb
  replace vp := vp.kept hb
  replace vd := vd.kept hb
  replace vq := vq.kept hb
  replace vback := vback.kept hb
  replace HB := hide (gr_trans (unhide HB) hb)
  clear hb h_a
  have h_a := va.cell
  go_wp2_with fail
  refine (bits_any a na ca A w10 va.num).mono ?_
  rintro e w11 ⟨⟨k_x, rfl, hbl_x, hle_x⟩, hb⟩
  have hn_x := va.num.len
  replace va := va.kept hb
  replace vu := vu.kept hb
  replace vp := vp.kept hb
  replace vd := vd.kept hb
  replace vq := vq.kept hb
  replace vback := vback.kept hb
  replace HB := hide (gr_trans (unhide HB) hb)
  clear hb h_a
  have h_u := vu.cell
  go_wp2_with fail
  refine (bits_any a_u n_u c_u (A * 2 ^ k) w11 vu.num).mono ?_
  rintro e w12 ⟨⟨k_y, rfl, hbl_y, hle_y⟩, hb⟩
  have hn_y := vu.num.len
  replace va := va.kept hb
  replace vu := vu.kept hb
  replace vp := vp.kept hb
  replace vd := vd.kept hb
  replace vq := vq.kept hb
  replace vback := vback.kept hb
  replace HB := hide (gr_trans (unhide HB) hb)
  clear hb h_u
  have hsz := bl_up hbl_x hbl_y
  have hkx : k_x ≤ 524288 := by omega
  have hky : k_y ≤ 524288 := by omega
  clear hbl_x hbl_y hle_x hle_y hn_x hn_y
  rcases hsz with hs | hs
  · have e1 : ((k_y : Int) == (k_x : Int) + (k : Int)) = true := by simp; omega
    clear hs
    have h_x := vu.cell
    have h_y := vp.cell
    go_wp2_with fail
    refine (same_any a_u a_p n_u n_p c_u c_p (A * 2 ^ k) (A * 2 ^ k) w12 vu.num vp.num).mono ?_
    rintro e w13 ⟨rfl, hb⟩
    rw [decide_eq_true (rfl)]
    replace va := va.kept hb
    replace vu := vu.kept hb
    replace vp := vp.kept hb
    replace vd := vd.kept hb
    replace vq := vq.kept hb
    replace vback := vback.kept hb
    replace HB := hide (gr_trans (unhide HB) hb)
    clear hb h_x h_y
    have h_x := vd.cell
    have h_y := vq.cell
    go_wp2_with fail
    refine (same_any a_d a_q n_d n_q c_d c_q (A / 2 ^ k) (A / 2 ^ k) w13 vd.num vq.num).mono ?_
    rintro e w14 ⟨rfl, hb⟩
    rw [decide_eq_true (rfl)]
    replace va := va.kept hb
    replace vu := vu.kept hb
    replace vp := vp.kept hb
    replace vd := vd.kept hb
    replace vq := vq.kept hb
    replace vback := vback.kept hb
    replace HB := hide (gr_trans (unhide HB) hb)
    clear hb h_x h_y
    have h_x := vback.cell
    have h_y := va.cell
    go_wp2_with fail
    refine (same_any a_back a n_back na c_back ca (A * 2 ^ k / 2 ^ k) (A) w14 vback.num va.num).mono ?_
    rintro e w15 ⟨rfl, hb⟩
    rw [decide_eq_true (Nat.mul_div_cancel _ (Nat.pow_pos (by decide)))]
    replace va := va.kept hb
    replace vu := vu.kept hb
    replace vp := vp.kept hb
    replace vd := vd.kept hb
    replace vq := vq.kept hb
    replace vback := vback.kept hb
    replace HB := hide (gr_trans (unhide HB) hb)
    clear hb h_x h_y
    go_wp2
    go_ret
    exact ⟨rfl, unhide HB⟩
  · have e1 : ((k_y : Int) == (k_x : Int) + (k : Int)) = false := by simp; omega
    have e2 : ((k_x : Int) == 0) = true := by simp; omega
    have e3 : ((k_y : Int) == 0) = true := by simp; omega
    clear hs
    have h_x := vu.cell
    have h_y := vp.cell
    go_wp2_with fail
    refine (same_any a_u a_p n_u n_p c_u c_p (A * 2 ^ k) (A * 2 ^ k) w12 vu.num vp.num).mono ?_
    rintro e w13 ⟨rfl, hb⟩
    rw [decide_eq_true (rfl)]
    replace va := va.kept hb
    replace vu := vu.kept hb
    replace vp := vp.kept hb
    replace vd := vd.kept hb
    replace vq := vq.kept hb
    replace vback := vback.kept hb
    replace HB := hide (gr_trans (unhide HB) hb)
    clear hb h_x h_y
    have h_x := vd.cell
    have h_y := vq.cell
    go_wp2_with fail
    refine (same_any a_d a_q n_d n_q c_d c_q (A / 2 ^ k) (A / 2 ^ k) w13 vd.num vq.num).mono ?_
    rintro e w14 ⟨rfl, hb⟩
    rw [decide_eq_true (rfl)]
    replace va := va.kept hb
    replace vu := vu.kept hb
    replace vp := vp.kept hb
    replace vd := vd.kept hb
    replace vq := vq.kept hb
    replace vback := vback.kept hb
    replace HB := hide (gr_trans (unhide HB) hb)
    clear hb h_x h_y
    have h_x := vback.cell
    have h_y := va.cell
    go_wp2_with fail
    refine (same_any a_back a n_back na c_back ca (A * 2 ^ k / 2 ^ k) (A) w14 vback.num va.num).mono ?_
    rintro e w15 ⟨rfl, hb⟩
    rw [decide_eq_true (Nat.mul_div_cancel _ (Nat.pow_pos (by decide)))]
    replace va := va.kept hb
    replace vu := vu.kept hb
    replace vp := vp.kept hb
    replace vd := vd.kept hb
    replace vq := vq.kept hb
    replace vback := vback.kept hb
    replace HB := hide (gr_trans (unhide HB) hb)
    clear hb h_x h_y
    go_wp2
    go_ret
    exact ⟨rfl, unhide HB⟩

/-- Every number, or what may be none. -/
theorem moves_any (a : Option Addr) (na ca nn i k : Nat) (xs : List Nat) (w : World) (hna : xs.length = na) (hca : na ≤ ca) (hca2 : ca ≤ 9223372036854775807) (hla : Lim w a xs) (hk : Hid (k = nn % 5001)) (hnn : nn < 65536) (hi : i < 65536) (hwa : Pl.Wf xs) :
    Calls Try.prog 10 #[.agg #[.slice a na ca], .int .u16 (nn : Int), .int .u16 (i : Int)] w fun e w' => e = .returned (.bool true) ∧ Below w.heap.size w w' := by
  by_cases hda : decide (chk xs = 0 ∧ na ≤ 4000) = true
  · exact moves_in a na ca nn i k xs w hna hca hca2 hla hk hnn hi hda hwa
  · exact moves_out a na ca nn i k xs w hna hca hca2 hla hk hnn (by simpa using hda)

end Go.Proofs.Ytkpbgjgebjcfeaa
