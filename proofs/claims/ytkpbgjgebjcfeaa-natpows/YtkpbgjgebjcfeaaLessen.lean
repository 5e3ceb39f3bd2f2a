/- The call nat.lessen goes one or more steps of Euclid's way. -/
import Derived.Test.YtkpbgjgebjcfeaaTake
import Derived.Test.YtkpbgjgebjcfeaaUpDown
import Derived.Test.YtkpbgjgebjcfeaaDivide
import Derived.Test.YtkpbgjgebjcfeaaLow
namespace Go.Proofs.Ytkpbgjgebjcfeaa
open Go.RowKit

/-- A number of its own that is not nought lies at the head of a block. -/
theorem Mine.row {w : World} {base n c m : Nat} {a : Option Addr} (h : Mine w base a n c m) (hp : 0 < n) :
    ∃ g xs, a = some ⟨g, 0, none⟩ ∧ base ≤ g ∧ g < w.heap.size ∧ xs.length = n ∧ Row w g xs ∧ Pl.Wf xs ∧ Pl.Norm xs ∧ Pl.val xs = m ∧ n ≤ c ∧ c ≤ 9223372036854775807 ∧ n ≤ 16384 := by
  have hcap := h.cap
  obtain ⟨xs, hn, ho, hw, hN, hv, hb⟩ := h
  rcases ho with ⟨e, _⟩ | ⟨g, cap, cur, e, hg, hh, h1, h2, h3, hc⟩
  · injection e with e1 e2 e3; omega
  · injection e with e1 e2 e3
    have hcur : cur = lc xs ++ (cur.toList.drop n).toArray := by
      apply Array.toList_inj.1
      rw [Array.toList_append]
      simp only [lc]
      have ht : cur.toList.take n = xs.map (fun z : Nat => Value.int .u32 (z : Int)) := by
        apply List.ext_getElem
        · simp; omega
        · intro i h4 h5
          have hi : i < xs.length := by simpa using h5
          have := hc i hi
          rw [List.getElem?_eq_getElem hi, Option.getD_some] at this
          rw [List.getElem_take, List.getElem_map]
          have h6 : i < cur.size := by omega
          rw [Array.getElem?_eq_getElem h6] at this
          injection this with this
      rw [← ht, List.take_append_drop]
    have hlt : g < w.heap.size := by
      by_cases hlt : g < w.heap.size
      · exact hlt
      · rw [Array.getElem?_eq_none (by omega)] at hh; cases hh
    exact ⟨g, xs, e1, hg, hlt, hn, ⟨_, by rw [← hcur]; exact hh⟩, hw, hN, hv, hcap.1, hcap.2, hb⟩

theorem Mine.block {w : World} {base n c m g : Nat} {a : Option Addr} (h : Mine w base a n c m) (ha : a = some ⟨g, 0, none⟩) : base ≤ g := by
  obtain ⟨xs, hn, ho, _⟩ := h
  rcases ho with ⟨e, _⟩ | ⟨g', cap, cur, e, hg, _⟩
  · injection e with e1 e2 e3; rw [ha] at e1; cases e1
  · injection e with e1 e2 e3
    rw [ha] at e1
    injection e1 with e1
    injection e1 with e1
    omega
theorem Box4.kept {w w' : World} {p : Nat} {A B C D : Int} (h : Box4 w p A B C D) (hb : Below w.heap.size w w') : Box4 w' p A B C D := by
  unfold Box4; rw [hb.block p h.lt]; exact h
/-- Two slices do not lie in one block. -/
def Apart (a b : Option Addr) : Prop := ∀ g h, a = some ⟨g, 0, none⟩ → b = some ⟨h, 0, none⟩ → g ≠ h

/-- What lessen answers. -/
def Less (base : Nat) (X Y : Nat) (e : Ending) (w' : World) : Prop :=
  ∃ a1 n1 c1 a2 n2 c2 X' Y', e = .returned (.tuple #[.slice a1 n1 c1, .slice a2 n2 c2]) ∧ Mine w' base a1 n1 c1 X' ∧ Mine w' base a2 n2 c2 Y' ∧ Apart a1 a2 ∧ Nat.gcd X' Y' = Nat.gcd X Y ∧ Y' < X' ∧ Y' < Y

theorem bl_big {X Y j n : Nat} (h : Bl X j) (hYX : Y ≤ X) (hY : 4294967296 ^ (n - 1) ≤ Y) (hn : 2 < n) : 65 ≤ j := by
  have h1 : 4294967296 ^ 2 ≤ 4294967296 ^ (n - 1) := Pl.pow_le (by omega)
  have h2 : (4294967296 : Nat) ^ 2 = 2 ^ 64 := by decide
  by_cases hj : 65 ≤ j
  · exact hj
  · have h3 : 2 ^ j ≤ 2 ^ 64 := Nat.pow_le_pow_right (by decide) (by omega)
    have := h.1
    omega
theorem lead62 {X j : Nat} (h : Bl X j) (hj : 65 ≤ j) : X / 2 ^ (j - 62) < 4611686018427387904 := by
  rw [Nat.div_lt_iff_lt_mul (Nat.pow_pos (by decide))]
  have : 4611686018427387904 * 2 ^ (j - 62) = 2 ^ j := by
    rw [show (4611686018427387904 : Nat) = 2 ^ 62 from rfl, ← Nat.pow_add]; congr 1; omega
  rw [this]
  exact h.1
theorem num_two {w : World} {a : Option Addr} {n m : Nat} (h : Num w a n m) (hm : m < 18446744073709551616) : n ≤ 2 := by
  obtain ⟨xs, hn, _, hw, hN, hv, _⟩ := h
  have := (Pl.val_le_len hw hN 2).2 (by rw [hv]; exact hm)
  omega

set_option maxHeartbeats 2000000 in
theorem lessen_any (base nx n cx cy X Y : Nat) (a b : Option Addr) (w : World) (hX : Mine w base a nx cx X) (hY : Mine w base b n cy Y) (hap : Hid (Apart a b)) (hYX : Y ≤ X) (hn : 2 < n) (hbw : base ≤ w.heap.size) :
    Calls Try.prog 78 #[.slice a nx cx, .slice b n cy] w fun e w' => Less base X Y e w' ∧ Below base w w' := by
  have hXn := hX.num
  have hYn := hY.num
  have hYz : Y ≠ 0 := fun e => by have := hYn.zero.2 e; omega
  obtain ⟨j, hj⟩ := bl_ex X
  have hlow : 4294967296 ^ (n - 1) ≤ Y := by
    obtain ⟨ys, k1, _, k2, k3, k4, _⟩ := hYn
    have := Pl.norm_lower k3 (by omega)
    rwa [k1, k4] at this
  have hj65 := bl_big hj hYX hlow hn
  have hxx := lead62 hj hj65
  have hyy : Y / 2 ^ (j - 62) < 4611686018427387904 := Nat.lt_of_le_of_lt (Nat.div_le_div_right hYX) hxx
  have hcX := hX.cap
  have hcY := hY.cap
  have hnx := hXn.len
  have HJ := hide hj
  have HM := hide (And.intro hX (And.intro hY (And.intro hYX hYz)))
  have hjb : j ≤ 524288 := by
    obtain ⟨xs, k1, _, k2, k3, k4, k5⟩ := hXn
    by_cases h : j ≤ 524288
    · exact h
    · have h1 := hj.2.resolve_left (by omega)
      have h2 := Pl.val_lt k2
      rw [k1, k4, pow32] at h2
      have h3 : 2 ^ (32 * nx) ≤ 2 ^ (j - 1) := Nat.pow_le_pow_right (by decide) (by omega)
      omega
  obtain ⟨sh, hsh⟩ : ∃ sh, sh = j - 62 := ⟨_, rfl⟩
  rw [← hsh] at hxx hyy
  have hshi : (j : Int) - 62 = (sh : Int) := by omega
  have hshb : sh ≤ 524288 := by omega
  have HXY := hide (And.intro hxx hyy)
  clear hX hY hlow hj hsh hxx hyy hYX
  go_enter Try.func78, Try.ntmps78
  go_wp2_with fail
  refine (bitLength_any a nx cx X w hXn).mono ?_
  rintro e w' ⟨⟨j2, rfl, hB2, _⟩, rfl⟩
  obtain rfl : j2 = j := hB2.uniq (unhide HJ)
  clear hB2
  go_wp2_with fail
  refine (shiftDown_any a nx cx X sh w hXn hcX.1 hcX.2 (by omega)).mono ?_
  rintro e w1 ⟨⟨a1, l1, c1, rfl, hm1⟩, hb1⟩
  have hYn1 := hYn.kept hb1
  have HB1 := hide hb1
  have hw1 := word_any a1 l1 c1 _ w1 hm1.num (num_two hm1.num (Nat.lt_trans (unhide HXY).1 (by decide)))
  have HW1 := hide hw1
  clear hb1 hm1 hw1 hXn hYn
  go_wp2_with fail
  refine (unhide HW1).mono ?_
  rintro e w' ⟨rfl, rfl⟩
  generalize hx0 : X / 2 ^ sh = x0 at *
  have hx0b : x0 < 4611686018427387904 := by rw [← hx0]; exact hx0 ▸ (unhide HXY).1
  clear HW1
  go_wp2_with fail
  refine (shiftDown_any b n cy Y sh w1 hYn1 hcY.1 hcY.2 (by omega)).mono ?_
  rintro e w2 ⟨⟨a2, l2, c2, rfl, hm2⟩, hb2⟩
  have hw2 := word_any a2 l2 c2 _ w2 hm2.num (num_two hm2.num (Nat.lt_trans (unhide HXY).2 (by decide)))
  have HW2 := hide hw2
  have HB2 := hide (gr_trans (unhide HB1) hb2)
  clear hb2 hm2 hw2 hYn1
  go_wp2_with fail
  refine (unhide HW2).mono ?_
  rintro e w' ⟨rfl, rfl⟩
  generalize hy0 : Y / 2 ^ sh = y0 at *
  have hy0b : y0 < 4611686018427387904 := (unhide HXY).2
  have HP := hide (And.intro hx0 hy0)
  clear HW2 hx0 hy0 HXY
  go_wp2_with fail
  refine (foretell_any x0 y0 X Y (2 ^ sh) (X % 2 ^ sh) (Y % 2 ^ sh) w2 hx0b hy0b (hide (by rw [← (unhide HP).1]; exact (Nat.div_add_mod' X (2 ^ sh)).symm)) (hide (by rw [← (unhide HP).2]; exact (Nat.div_add_mod' Y (2 ^ sh)).symm)) (hide (Nat.mod_lt _ (Nat.pow_pos (by decide)))) (hide (Nat.mod_lt _ (Nat.pow_pos (by decide))))).mono ?_
  rintro e w3 ⟨⟨A, B, C, D, rfl, hT, hSm⟩, hb3⟩
  have HB3 := hide (gr_trans (gr_trans (unhide HB2) hb3) (gr_alloc w3 (.cells #[.int .i64 A, .int .i64 B, .int .i64 C, .int .i64 D] 94)))
  have hb4 : Box4 (w3.alloc (.cells #[.int .i64 A, .int .i64 B, .int .i64 C, .int .i64 D] 94)) w3.heap.size A B C D := heap_alloc_new w3 _
  obtain ⟨k0, k1, k2, k3⟩ := hb4.cells
  have HTS := hide (And.intro hT hSm)
  clear hb3 hT hSm
  by_cases hB : B = 0
  · subst hB
    go_wp2_with fail
    generalize hw4 : w3.alloc (.cells #[.int .i64 A, .int .i64 0, .int .i64 C, .int .i64 D] 94) = w4 at *
    clear hw4
    obtain ⟨hX, hY, hYX, hYz⟩ := unhide HM
    refine (divide_any a b nx n cx cy X Y w4 (hX.num.kept (unhide HB3)) (hY.num.kept (unhide HB3)) (by omega)).mono ?_
    rintro e w5 ⟨⟨aq, nq, cq, ar, nr, cr, rfl, hq, hr⟩, hb5⟩
    have HR := hide hr
    have HB5 := hide (gr_trans (unhide HB3) hb5)
    have hs3 := (unhide HB3).size
    clear hq hr hb5
    go_wp2
    go_ret2
    refine ⟨⟨b, n, cy, ar, nr, cr, Y, X % Y, rfl, hY.kept (unhide HB5), (unhide HR).mono (Nat.le_trans hbw hs3), ?_, gcd_next X Y, Nat.mod_lt _ (by omega), Nat.mod_lt _ (by omega)⟩, (unhide HB5).mono hbw⟩
    intro g h hg hh
    obtain ⟨g', ys, e1, _, hlt, _⟩ := hY.row (by omega)
    have h2 := (unhide HR).block hh
    rw [hg] at e1
    injection e1 with e1
    injection e1 with e1
    omega
  · have hBb : (B == 0) = false := by simpa using hB
    have HBn := hide hB
    clear hB
    go_wp2_with fail
    generalize hw4 : w3.alloc (.cells #[.int .i64 A, .int .i64 B, .int .i64 C, .int .i64 D] 94) = w4 at *
    clear hw4
    obtain ⟨hX, hY, hYX, hYz⟩ := unhide HM
    have hXz : X ≠ 0 := by omega
    have hnx0 : 0 < nx := by have := hX.num.zero; omega
    have hnn : n ≤ nx := by
      obtain ⟨zs, kn, _, kw, kN, kv, _⟩ := hX.num
      obtain ⟨ys, kn', _, kw', kN', kv', _⟩ := hY.num
      have := (Pl.val_le_len kw' kN' nx).2 (by rw [kv']; have := Pl.val_lt kw; rw [kn, kv] at this; omega)
      omega
    obtain ⟨gx, xs, rfl, hgx, hgxl, hxl, hRx, hxw, hxN, hxv, hxc, hxc2, hxb⟩ := hX.row hnx0
    obtain ⟨gy, ys, rfl, hgy, hgyl, hyl, hRy, hyw, hyN, hyv, hyc, hyc2, hyb⟩ := hY.row (by omega)
    refine (take_any gx gy base nx n cx cy X Y xs ys A B C D w4 (hide hxl) (hide hyl) hnn hxb hxc hyc hyc2 (hide hxv) (hide hyv) hxw hyw (unhide hap gx gy rfl rfl) hgx hgy (Nat.le_trans hbw (unhide HB3).size) (hRx.kept (unhide HB3)) (hRy.kept (unhide HB3)) (hide (unhide HTS).1) (hide (unhide HBn)) (unhide HTS).2).mono ?_
    rintro e w5 ⟨⟨t1, t2, X', Y', rfl, hX', hY', hg', hlt', hle'⟩, hb5⟩
    have HR := hide (And.intro hX' (And.intro hY' (And.intro hg' (And.intro hlt' hle'))))
    have HB5 := hide (((unhide HB3).mono hbw).trans hb5)
    clear hX' hY' hg' hlt' hle' hb5
    go_wp2
    go_ret2
    obtain ⟨r1, r2, r3, r4, r5⟩ := unhide HR
    refine ⟨⟨_, t1, t1, _, t2, t2, X', Y', rfl, r1, r2, ?_, r3, r4, Nat.lt_of_lt_of_le r4 r5⟩, unhide HB5⟩
    intro g h hg hh
    injection hg with hg
    injection hg with hg
    injection hh with hh
    injection hh with hh
    have := unhide hap gx gy rfl rfl
    omega

end Go.Proofs.Ytkpbgjgebjcfeaa
