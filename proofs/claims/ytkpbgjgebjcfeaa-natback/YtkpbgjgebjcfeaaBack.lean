/- The statement NatBack, walked: a number's text is read as the number and has no nought ahead; what is read of a text is written as the text without the noughts ahead. -/
import Derived.Test.YtkpbgjgebjcfeaaParse
import Derived.Test.YtkpbgjgebjcfeaaVars
import Derived.Test.YtkpbgjgebjcfeaaAlive
import Derived.Test.YtkpbgjgebjcfeaaSame
namespace Go.Proofs.Ytkpbgjgebjcfeaa
open Go.RowKit

theorem byte_48 {d : Nat} (h : d < 10) : (UInt8.ofNat (48 + d)).toNat = 48 + d := by
  rw [UInt8.toNat_ofNat']
  omega
theorem chars_at {t : ByteArray} {ds : List Nat} (h : t.data.toList = chars ds) (hd : Pl.Dig ds) : t.size = ds.length ∧ ∀ (k : Nat) (hk : k < t.size), (t[k]'hk).toNat = 48 + ds[k]?.getD 0 := by
  have hl : t.size = ds.length := by
    have : t.data.toList.length = ds.length := by rw [h]; simp [chars]
    simpa using this
  refine ⟨hl, fun k hk => ?_⟩
  have hk2 : k < ds.length := by omega
  have e : (t[k]'hk) = UInt8.ofNat (48 + ds[k]) := by
    rw [ByteArray.getElem_eq_getElem_data, ← Array.getElem_toList]
    simp only [h, chars, List.getElem_map]
  rw [e, byte_48 (hd _ (List.getElem_mem hk2)), List.getElem?_eq_getElem hk2]
  rfl
theorem DigS.alld {s : ByteArray} {ds : List Nat} (h : DigS s ds) : AllD s s.size ∧ digs s = ds := by
  obtain ⟨h1, h2, h3⟩ := h
  have hb : ∀ k, k < s.size → ds[k]?.getD 0 < 10 := fun k hk => by
    rw [List.getElem?_eq_getElem (by omega)]
    exact h2 _ (List.getElem_mem _)
  refine ⟨fun j hj _ => by rw [h3 j hj]; have := hb j hj; omega, ?_⟩
  apply List.ext_getElem
  · simp [digs]; exact h1
  · intro i hi1 hi2
    have hs : i < s.size := by omega
    have h4 := h3 i hs
    rw [List.getElem?_eq_getElem hi2, Option.getD_some] at h4
    simp only [digs, List.getElem_map, Array.getElem_toList]
    rw [ByteArray.getElem_eq_getElem_data] at h4
    omega
theorem Says.digS {t : ByteArray} {m : Nat} (h : Says t m) : ∃ ds, DigS t ds ∧ Pl.Lead ds ∧ Pl.dval ds 0 = m := by
  obtain ⟨ds, h1, h2, h3, h4⟩ := h
  obtain ⟨a, b⟩ := chars_at h1 h2
  exact ⟨ds, ⟨a, h2, b⟩, h3, h4⟩
theorem says_of {t : ByteArray} {ds : List Nat} (h : DigS t ds) (hl : Pl.Lead ds) : Says t (Pl.dval ds 0) := by
  obtain ⟨h1, h2, h3⟩ := h
  refine ⟨ds, ?_, h2, hl, rfl⟩
  apply List.ext_getElem
  · simp [chars]; exact h1
  · intro i hi1 hi2
    have hs : i < t.size := by simpa using hi1
    have h4 := h3 i hs
    have hd : i < ds.length := by omega
    rw [List.getElem?_eq_getElem hd, Option.getD_some, ByteArray.getElem_eq_getElem_data] at h4
    simp only [chars, List.getElem_map, Array.getElem_toList]
    apply UInt8.toNat_inj.1
    rw [h4, byte_48 (h2 _ (List.getElem_mem hd))]

/-- A number of at most 4,000 limbs has a text that Parse takes. -/
def fortyK : Nat := 40000
theorem fortyK_eq : fortyK = 40000 := rfl
theorem Kk_ten : Kk ≤ 10 ^ fortyK := by
  have e : fortyK = 10 * fourK := by rw [fortyK_eq, fourK_eq]
  rw [e, Nat.pow_mul]
  exact Nat.pow_le_pow_left (by decide) _
theorem says_size {t : ByteArray} {m : Nat} (h : Says t m) (hm : m < Kk) : 0 < t.size ∧ t.size ≤ 40000 := by
  obtain ⟨ds, ⟨h1, h2, _⟩, h3, h4⟩ := h.digS
  have hK := Kk_ten
  have hp : 0 < ds.length := List.length_pos_iff.2 h3.1
  refine ⟨by omega, ?_⟩
  rcases h3.2 with h5 | h5
  · match ds, h1, h4, h5, hp with
    | d :: ds, h1, h4, h5, _ =>
      have hlow := Pl.lead_low (ds := ds) (d := d) (by simpa using h5)
      rw [h4] at hlow
      have : ds.length < fortyK := (Nat.pow_lt_pow_iff_right (show 1 < 10 by decide)).1 (Nat.lt_of_le_of_lt hlow (Nat.lt_of_lt_of_le hm hK))
      rw [fortyK_eq] at this
      simp at h1
      omega
  · omega

/-- A text of a number is read as it. -/
theorem parse_says (t : ByteArray) (m : Nat) (w : World) (h : Says t m) (hs : 0 < t.size ∧ t.size ≤ 40000) :
    Calls Try.prog 40 #[.string t] w fun e w' => (∃ a n c, e = .returned (.tuple #[.agg #[.slice a n c], .int .i64 0, .int .i64 0]) ∧ Mine w' w.heap.size a n c m) ∧ Below w.heap.size w w' := by
  refine (parse_any t w (by omega)).mono ?_
  rintro e w' ⟨hp, hb⟩
  obtain ⟨ds, hd, _, hv⟩ := h.digS
  obtain ⟨ha, he⟩ := hd.alld
  rcases hp with hp | hp | ⟨i, hi, _, _, hbad, _⟩ | ⟨a, n, c, _, _, _, rfl, hm⟩
  · omega
  · omega
  · exact absurd (ha i hi hi) hbad
  · rw [he, hv] at hm
    exact ⟨⟨a, n, c, rfl, hm⟩, hb⟩

/-- A fault of a text: nothing is answered, and a place. -/
def PErr (s : ByteArray) (e : Ending) : Prop := ∃ (i : Nat) (c : Int), i ≤ s.size ∧ (c != 0) = true ∧ e = .returned (.tuple #[.agg #[.slice none 0 0], .int .i64 (i : Int), .int .i64 c])
theorem parse_two (s : ByteArray) (w : World) (hm : s.size ≤ 9223372036854775807) :
    Calls Try.prog 40 #[.string s] w fun e w' => (((¬ (0 < s.size ∧ s.size ≤ 65536 ∧ AllD s s.size)) ∧ PErr s e) ∨ ((0 < s.size ∧ s.size ≤ 65536 ∧ AllD s s.size) ∧ ∃ a n c, e = .returned (.tuple #[.agg #[.slice a n c], .int .i64 0, .int .i64 0]) ∧ Mine w' w.heap.size a n c (Pl.dval (digs s) 0))) ∧ Below w.heap.size w w' := by
  refine (parse_any s w hm).mono ?_
  rintro e w' ⟨hp, hb⟩
  refine ⟨?_, hb⟩
  rcases hp with ⟨h1, rfl⟩ | ⟨h1, rfl⟩ | ⟨i, hi, h65, _, hbad, rfl⟩ | ⟨a, n, c, h1, h2, h3, rfl, hm⟩
  · exact Or.inl ⟨by omega, 0, 3, Nat.zero_le _, rfl, rfl⟩
  · exact Or.inl ⟨by omega, 0, 12, Nat.zero_le _, rfl, rfl⟩
  · exact Or.inl ⟨fun h => hbad (h.2.2 i hi hi), i, 12, by omega, rfl, rfl⟩
  · exact Or.inr ⟨⟨h1, h2, h3⟩, a, n, c, rfl, hm⟩

/-- Without the noughts ahead. -/
theorem lead_cut {s : ByteArray} {i : Nat} (ha : AllD s s.size) (hi : i < s.size) (hz : ∀ (j : Nat) (h : j < s.size), j < i → (s[j]'h).toNat = 48) (hend : i + 1 = s.size ∨ (s[i]'hi).toNat ≠ 48) : Says (s.extract i s.size) (Pl.dval (digs s) 0) := by
  have hd := ha.digS
  have hc := hd.cut i s.size (by omega) (Nat.le_refl _)
  have hl : (digs s).length = s.size := hd.1.symm
  rw [List.take_of_length_le (by rw [List.length_drop]; omega)] at hc
  have hz2 : ∀ j, j < i → (digs s)[j]?.getD 0 = 0 := fun j hj => by
    have := hd.2.2 j (by omega)
    rw [hz j (by omega) hj] at this
    omega
  rw [← dval_zeros (digs s) i (by omega) hz2]
  refine says_of hc ⟨?_, ?_⟩
  · intro e
    have : ((digs s).drop i).length = 0 := by rw [e]; rfl
    rw [List.length_drop] at this
    omega
  · rcases hend with h | h
    · right; rw [List.length_drop]; omega
    · left
      rw [List.getElem?_drop, Nat.add_zero]
      have := hd.2.2 i hi
      omega


set_option maxRecDepth 20000 in
set_option maxHeartbeats 4000000 in
theorem back_out_err (a : Option Addr) (na ca : Nat) (xs : List Nat) (s : ByteArray) (w : World) (hna : xs.length = na) (hba : na ≤ 9223372036854775807) (hla : Lim w a xs) (hsm : s.size ≤ 9223372036854775807)
    (hda : decide (chk xs = 0 ∧ na ≤ 4000) = false) (HE : Hid (¬ (0 < s.size ∧ s.size ≤ 65536 ∧ AllD s s.size))) :
    Calls Try.prog 12 #[.agg #[.slice a na ca], .string s] w fun e w' => e = .returned (.bool true) ∧ Below w.heap.size w w' := by
  have HSA := hide (fun w h => small_any a na ca 4000 xs w hna hba h)
  rw [hda] at HSA
  have HP := hide (fun w => parse_two s w hsm)
  clear hna hba hda
  go_enter Try.func12, Try.ntmps12
  go_wp2_with fail
  refine (alive_any _).mono ?_
  rintro e w1 ⟨rfl, hb1⟩
  have hxa := (Box.made w (.slice a na ca)).kept hb1
  have HB := hide (gr_trans (gr_alloc w (.cells #[.slice a na ca] 24)) hb1)
  replace hla := hla.below (unhide HB)
  have hca := hxa.cell
  clear hb1
  go_wp2_with fail
  refine (unhide HSA _ hla).mono ?_
  rintro e w2 ⟨rfl, hb2⟩
  replace hxa := hxa.kept hb2
  replace hla := hla.below hb2
  replace hca := hxa.cell
  replace HB := hide (gr_trans (unhide HB) hb2)
  clear hb2 HSA
  clear hxa hla
  go_wp2_with fail
  refine (unhide HP _).mono ?_
  rintro e v1 ⟨hpe, hb⟩
  obtain ⟨_, i, c, hi, hc, rfl⟩ := hpe.resolve_right (fun h => absurd h.1 (unhide HE))
  have hvx := (Box.made v1 (.slice none 0 0)).cell
  replace HB := hide (gr_trans (gr_trans (unhide HB) hb) (gr_alloc v1 (.cells #[.slice none 0 0] 24)))
  have hii : (i : Int) ≤ (s.size : Int) := by omega
  clear hb hpe
  go_wp2
  go_ret
  exact ⟨rfl, unhide HB⟩

set_option maxRecDepth 20000 in
set_option maxHeartbeats 4000000 in
theorem back_out_ok (a : Option Addr) (na ca : Nat) (xs : List Nat) (s : ByteArray) (w : World) (hna : xs.length = na) (hba : na ≤ 9223372036854775807) (hla : Lim w a xs) (hsm : s.size ≤ 9223372036854775807)
    (hda : decide (chk xs = 0 ∧ na ≤ 4000) = false) (HE : Hid (0 < s.size ∧ s.size ≤ 65536 ∧ AllD s s.size)) :
    Calls Try.prog 12 #[.agg #[.slice a na ca], .string s] w fun e w' => e = .returned (.bool true) ∧ Below w.heap.size w w' := by
  have HSA := hide (fun w h => small_any a na ca 4000 xs w hna hba h)
  rw [hda] at HSA
  have HP := hide (fun w => parse_two s w hsm)
  clear hna hba hda
  go_enter Try.func12, Try.ntmps12
  go_wp2_with fail
  refine (alive_any _).mono ?_
  rintro e w1 ⟨rfl, hb1⟩
  have hxa := (Box.made w (.slice a na ca)).kept hb1
  have HB := hide (gr_trans (gr_alloc w (.cells #[.slice a na ca] 24)) hb1)
  replace hla := hla.below (unhide HB)
  have hca := hxa.cell
  clear hb1
  go_wp2_with fail
  refine (unhide HSA _ hla).mono ?_
  rintro e w2 ⟨rfl, hb2⟩
  replace hxa := hxa.kept hb2
  replace hla := hla.below hb2
  replace hca := hxa.cell
  replace HB := hide (gr_trans (unhide HB) hb2)
  clear hb2 HSA
  clear hxa hla
  go_wp2_with fail
  refine (unhide HP _).mono ?_
  rintro e v1 ⟨hpe, hb⟩
  obtain ⟨_, a_n, n_n, c_n, rfl, hm⟩ := hpe.resolve_left (fun h => absurd (unhide HE) h.1)
  have vn := Var.made v1 c_n hm.num
  replace HB := hide (gr_trans (gr_trans (unhide HB) hb) (gr_alloc v1 (.cells #[.slice a_n n_n c_n] 24)))
  clear hb hpe hm
  go_wp2
  generalize hw : v1.alloc (.cells #[.slice a_n n_n c_n] 24) = v2 at *
  clear hw
  go_loopw [14] (fun t wr => ∃ i : Nat, i < s.size ∧ t = .int .i64 (i : Int) ∧ Hid (∀ (j : Nat) (h : j < s.size), j < i → (s[j]'h).toNat = 48) ∧ v2 = wr) (fun t _ => s.size - (intOf t).toNat)
  case atStart => exact ⟨0, (unhide HE).1, rfl, hide (fun j _ hj => absurd hj (Nat.not_lt_zero _)), rfl⟩
  case round =>
    obtain ⟨i, hi, rfl, HZ, rfl⟩ := hrel
    obtain ⟨x', hx'⟩ : ∃ x, x = (s[i]'hi).toNat := ⟨_, rfl⟩
    have hx1' : x' < 256 := by rw [hx']; exact (s[i]'hi).toNat_lt
    have hsx' : (s[i]'hi).toNat = x' := hx'.symm
    clear hx'
    by_cases hgo : i + 1 < s.size ∧ x' = 48
    · obtain ⟨hg1, hg2⟩ := hgo
      have hg1i : (i : Int) < (s.size : Int) - 1 := by omega
      have HN : Hid (∀ (j : Nat) (h : j < s.size), j < i + 1 → (s[j]'h).toNat = 48) := hide (fun j h hj => by
        by_cases hji : j < i
        · exact unhide HZ j h hji
        · have : j = i := by omega
          subst this
          rw [hsx', hg2])
      subst hg2
      have hs65 : s.size ≤ 65536 := (unhide HE).2.1
      go_wp2
      go_roundw
      case rel => exact ⟨i + 1, hg1, by go_num, unhide HN, trivial⟩
      case measure => simp [intOf]; omega
    · have hSays := lead_cut (unhide HE).2.2 hi (unhide HZ) (by
        by_cases h : i + 1 = s.size
        · exact Or.inl h
        · right; rw [hsx']; omega)
      have HSays := hide hSays
      have hs65 : s.size ≤ 65536 := (unhide HE).2.1
      have h_n := vn.cell
      have hTx := text_any a_n n_n c_n _ v2 vn.num
      have HTx := hide hTx
      clear hSays hTx
      by_cases hlast : i + 1 < s.size
      · have hg1i : (i : Int) < (s.size : Int) - 1 := by omega
        have hg2 : ((x' : Int) == 48) = false := by rw [beq_eq_false_iff_ne]; omega
        clear hgo hlast
        go_wp2_with fail
        refine (unhide HTx).mono ?_
        rintro e v3 ⟨t', rfl, hs', hb⟩
        obtain rfl := says_eq hs' (unhide HSays)
        replace HB := hide (gr_trans (unhide HB) hb)
        clear hb hs' HSays
        go_wp2
        go_ret
        exact ⟨rfl, unhide HB⟩
      · have hg1i : ¬ (i : Int) < (s.size : Int) - 1 := by omega
        clear hgo hlast
        go_wp2_with fail
        refine (unhide HTx).mono ?_
        rintro e v3 ⟨t', rfl, hs', hb⟩
        obtain rfl := says_eq hs' (unhide HSays)
        replace HB := hide (gr_trans (unhide HB) hb)
        clear hb hs' HSays
        go_wp2
        go_ret
        exact ⟨rfl, unhide HB⟩

set_option maxRecDepth 20000 in
set_option maxHeartbeats 4000000 in
theorem back_in_err (a : Option Addr) (na ca : Nat) (xs : List Nat) (s : ByteArray) (w : World) (hna : xs.length = na) (hba : na ≤ 9223372036854775807) (hla : Lim w a xs) (hsm : s.size ≤ 9223372036854775807)
    (hda : decide (chk xs = 0 ∧ na ≤ 4000) = true) (HE : Hid (¬ (0 < s.size ∧ s.size ≤ 65536 ∧ AllD s s.size))) (hwa : Pl.Wf xs) :
    Calls Try.prog 12 #[.agg #[.slice a na ca], .string s] w fun e w' => e = .returned (.bool true) ∧ Below w.heap.size w w' := by
  have HNA := hide (fun w h => small_num a na xs w hna h hwa hda)
  have HSA := hide (fun w h => small_any a na ca 4000 xs w hna hba h)
  rw [hda] at HSA
  have HP := hide (fun w => parse_two s w hsm)
  clear hna hba hda
  go_enter Try.func12, Try.ntmps12
  go_wp2_with fail
  refine (alive_any _).mono ?_
  rintro e w1 ⟨rfl, hb1⟩
  have hxa := (Box.made w (.slice a na ca)).kept hb1
  have HB := hide (gr_trans (gr_alloc w (.cells #[.slice a na ca] 24)) hb1)
  replace hla := hla.below (unhide HB)
  have hca := hxa.cell
  clear hb1
  go_wp2_with fail
  refine (unhide HSA _ hla).mono ?_
  rintro e w2 ⟨rfl, hb2⟩
  replace hxa := hxa.kept hb2
  replace hla := hla.below hb2
  replace hca := hxa.cell
  replace HB := hide (gr_trans (unhide HB) hb2)
  clear hb2 HSA
  obtain ⟨hA, hAk⟩ := unhide HNA _ hla
  have va : Var w2 _ a na ca (Pl.val xs) := ⟨hxa, hA⟩
  generalize Pl.val xs = A at *
  have HK := hide hAk
  clear hxa hla hA hAk HNA hca
  have h_a := va.cell
  go_wp2_with fail
  refine (text_any a na ca A w2 va.num).mono ?_
  rintro e w3 ⟨t, rfl, hs, hb⟩
  have hsz := says_size hs (unhide HK)
  have HS := hide hs
  replace va := va.kept hb
  replace HB := hide (gr_trans (unhide HB) hb)
  clear hb h_a hs
  have HSZ := hide hsz
  clear hsz
  go_wp2_with fail
  refine (parse_says t A w3 (unhide HS) (unhide HSZ)).mono ?_
  rintro e u4 ⟨⟨a_b, n_b, c_b, rfl, hm⟩, hb⟩
  have vb := Var.made u4 c_b hm.num
  replace va := (va.kept hb).alloc (.cells #[.slice a_b n_b c_b] 24)
  replace HB := hide (gr_trans (gr_trans (unhide HB) hb) (gr_alloc u4 (.cells #[.slice a_b n_b c_b] 24)))
  clear hb hm
  have h_a := va.cell
  have h_b := vb.cell
  go_wp2_with fail
  generalize hw : u4.alloc (.cells #[.slice a_b n_b c_b] 24) = w4 at *
  clear hw
  refine (same_any a a_b na n_b ca c_b A A w4 va.num vb.num).mono ?_
  rintro e w5 ⟨rfl, hb⟩
  rw [decide_eq_true rfl]
  replace HB := hide (gr_trans (unhide HB) hb)
  clear hb h_a h_b va vb
  obtain ⟨hz0, hz4⟩ := unhide HSZ
  have hne : ((t.size : Int) == 0) = false := by rw [beq_eq_false_iff_ne]; omega
  obtain ⟨x, hx⟩ : ∃ x, x = (t[0]'hz0).toNat := ⟨_, rfl⟩
  have hx1 : x < 256 := by rw [hx]; exact (t[0]'hz0).toNat_lt
  have hxt : (t[0]'hz0).toNat = x := hx.symm
  have hlead : x ≠ 48 ∨ t.size = 1 := by
    obtain ⟨ds, ⟨k1, k2, k3⟩, k4, k5⟩ := (unhide HS).digS
    have := k3 0 hz0
    rcases k4.2 with h | h
    · left; omega
    · right; omega
  clear hx
  rcases hlead with hl | hl
  · have hl1 : ((x : Int) == 48) = false := by rw [beq_eq_false_iff_ne]; omega
    clear hl
    go_wp2_with fail
    refine (unhide HP _).mono ?_
    rintro e v1 ⟨hpe, hb⟩
    obtain ⟨_, i, c, hi, hc, rfl⟩ := hpe.resolve_right (fun h => absurd h.1 (unhide HE))
    have hvx := (Box.made v1 (.slice none 0 0)).cell
    replace HB := hide (gr_trans (gr_trans (unhide HB) hb) (gr_alloc v1 (.cells #[.slice none 0 0] 24)))
    have hii : (i : Int) ≤ (s.size : Int) := by omega
    clear hb hpe
    go_wp2
    go_ret
    exact ⟨rfl, unhide HB⟩
  · have hl2 : ((t.size : Int)) = 1 := by omega
    by_cases hl3 : x = 48
    · subst hl3
      clear hl
      go_wp2_with fail
      refine (unhide HP _).mono ?_
      rintro e v1 ⟨hpe, hb⟩
      obtain ⟨_, i, c, hi, hc, rfl⟩ := hpe.resolve_right (fun h => absurd h.1 (unhide HE))
      have hvx := (Box.made v1 (.slice none 0 0)).cell
      replace HB := hide (gr_trans (gr_trans (unhide HB) hb) (gr_alloc v1 (.cells #[.slice none 0 0] 24)))
      have hii : (i : Int) ≤ (s.size : Int) := by omega
      clear hb hpe
      go_wp2
      go_ret
      exact ⟨rfl, unhide HB⟩
    · have hl1 : ((x : Int) == 48) = false := by rw [beq_eq_false_iff_ne]; omega
      clear hl hl3
      go_wp2_with fail
      refine (unhide HP _).mono ?_
      rintro e v1 ⟨hpe, hb⟩
      obtain ⟨_, i, c, hi, hc, rfl⟩ := hpe.resolve_right (fun h => absurd h.1 (unhide HE))
      have hvx := (Box.made v1 (.slice none 0 0)).cell
      replace HB := hide (gr_trans (gr_trans (unhide HB) hb) (gr_alloc v1 (.cells #[.slice none 0 0] 24)))
      have hii : (i : Int) ≤ (s.size : Int) := by omega
      clear hb hpe
      go_wp2
      go_ret
      exact ⟨rfl, unhide HB⟩

set_option maxRecDepth 20000 in
set_option maxHeartbeats 4000000 in
theorem back_in_ok (a : Option Addr) (na ca : Nat) (xs : List Nat) (s : ByteArray) (w : World) (hna : xs.length = na) (hba : na ≤ 9223372036854775807) (hla : Lim w a xs) (hsm : s.size ≤ 9223372036854775807)
    (hda : decide (chk xs = 0 ∧ na ≤ 4000) = true) (HE : Hid (0 < s.size ∧ s.size ≤ 65536 ∧ AllD s s.size)) (hwa : Pl.Wf xs) :
    Calls Try.prog 12 #[.agg #[.slice a na ca], .string s] w fun e w' => e = .returned (.bool true) ∧ Below w.heap.size w w' := by
  have HNA := hide (fun w h => small_num a na xs w hna h hwa hda)
  have HSA := hide (fun w h => small_any a na ca 4000 xs w hna hba h)
  rw [hda] at HSA
  have HP := hide (fun w => parse_two s w hsm)
  clear hna hba hda
  go_enter Try.func12, Try.ntmps12
  go_wp2_with fail
  refine (alive_any _).mono ?_
  rintro e w1 ⟨rfl, hb1⟩
  have hxa := (Box.made w (.slice a na ca)).kept hb1
  have HB := hide (gr_trans (gr_alloc w (.cells #[.slice a na ca] 24)) hb1)
  replace hla := hla.below (unhide HB)
  have hca := hxa.cell
  clear hb1
  go_wp2_with fail
  refine (unhide HSA _ hla).mono ?_
  rintro e w2 ⟨rfl, hb2⟩
  replace hxa := hxa.kept hb2
  replace hla := hla.below hb2
  replace hca := hxa.cell
  replace HB := hide (gr_trans (unhide HB) hb2)
  clear hb2 HSA
  obtain ⟨hA, hAk⟩ := unhide HNA _ hla
  have va : Var w2 _ a na ca (Pl.val xs) := ⟨hxa, hA⟩
  generalize Pl.val xs = A at *
  have HK := hide hAk
  clear hxa hla hA hAk HNA hca
  have h_a := va.cell
  go_wp2_with fail
  refine (text_any a na ca A w2 va.num).mono ?_
  rintro e w3 ⟨t, rfl, hs, hb⟩
  have hsz := says_size hs (unhide HK)
  have HS := hide hs
  replace va := va.kept hb
  replace HB := hide (gr_trans (unhide HB) hb)
  clear hb h_a hs
  have HSZ := hide hsz
  clear hsz
  go_wp2_with fail
  refine (parse_says t A w3 (unhide HS) (unhide HSZ)).mono ?_
  rintro e u4 ⟨⟨a_b, n_b, c_b, rfl, hm⟩, hb⟩
  have vb := Var.made u4 c_b hm.num
  replace va := (va.kept hb).alloc (.cells #[.slice a_b n_b c_b] 24)
  replace HB := hide (gr_trans (gr_trans (unhide HB) hb) (gr_alloc u4 (.cells #[.slice a_b n_b c_b] 24)))
  clear hb hm
  have h_a := va.cell
  have h_b := vb.cell
  go_wp2_with fail
  generalize hw : u4.alloc (.cells #[.slice a_b n_b c_b] 24) = w4 at *
  clear hw
  refine (same_any a a_b na n_b ca c_b A A w4 va.num vb.num).mono ?_
  rintro e w5 ⟨rfl, hb⟩
  rw [decide_eq_true rfl]
  replace HB := hide (gr_trans (unhide HB) hb)
  clear hb h_a h_b va vb
  obtain ⟨hz0, hz4⟩ := unhide HSZ
  have hne : ((t.size : Int) == 0) = false := by rw [beq_eq_false_iff_ne]; omega
  obtain ⟨x, hx⟩ : ∃ x, x = (t[0]'hz0).toNat := ⟨_, rfl⟩
  have hx1 : x < 256 := by rw [hx]; exact (t[0]'hz0).toNat_lt
  have hxt : (t[0]'hz0).toNat = x := hx.symm
  have hlead : x ≠ 48 ∨ t.size = 1 := by
    obtain ⟨ds, ⟨k1, k2, k3⟩, k4, k5⟩ := (unhide HS).digS
    have := k3 0 hz0
    rcases k4.2 with h | h
    · left; omega
    · right; omega
  clear hx
  rcases hlead with hl | hl
  · have hl1 : ((x : Int) == 48) = false := by rw [beq_eq_false_iff_ne]; omega
    clear hl
    go_wp2_with fail
    refine (unhide HP _).mono ?_
    rintro e v1 ⟨hpe, hb⟩
    obtain ⟨_, a_n, n_n, c_n, rfl, hm⟩ := hpe.resolve_left (fun h => absurd (unhide HE) h.1)
    have vn := Var.made v1 c_n hm.num
    replace HB := hide (gr_trans (gr_trans (unhide HB) hb) (gr_alloc v1 (.cells #[.slice a_n n_n c_n] 24)))
    clear hb hpe hm
    go_wp2
    generalize hw : v1.alloc (.cells #[.slice a_n n_n c_n] 24) = v2 at *
    clear hw
    go_loopw [14] (fun t wr => ∃ i : Nat, i < s.size ∧ t = .int .i64 (i : Int) ∧ Hid (∀ (j : Nat) (h : j < s.size), j < i → (s[j]'h).toNat = 48) ∧ v2 = wr) (fun t _ => s.size - (intOf t).toNat)
    case atStart => exact ⟨0, (unhide HE).1, rfl, hide (fun j _ hj => absurd hj (Nat.not_lt_zero _)), rfl⟩
    case round =>
      obtain ⟨i, hi, rfl, HZ, rfl⟩ := hrel
      obtain ⟨x', hx'⟩ : ∃ x, x = (s[i]'hi).toNat := ⟨_, rfl⟩
      have hx1' : x' < 256 := by rw [hx']; exact (s[i]'hi).toNat_lt
      have hsx' : (s[i]'hi).toNat = x' := hx'.symm
      clear hx'
      by_cases hgo : i + 1 < s.size ∧ x' = 48
      · obtain ⟨hg1, hg2⟩ := hgo
        have hg1i : (i : Int) < (s.size : Int) - 1 := by omega
        have HN : Hid (∀ (j : Nat) (h : j < s.size), j < i + 1 → (s[j]'h).toNat = 48) := hide (fun j h hj => by
          by_cases hji : j < i
          · exact unhide HZ j h hji
          · have : j = i := by omega
            subst this
            rw [hsx', hg2])
        subst hg2
        have hs65 : s.size ≤ 65536 := (unhide HE).2.1
        go_wp2
        go_roundw
        case rel => exact ⟨i + 1, hg1, by go_num, unhide HN, trivial⟩
        case measure => simp [intOf]; omega
      · have hSays := lead_cut (unhide HE).2.2 hi (unhide HZ) (by
          by_cases h : i + 1 = s.size
          · exact Or.inl h
          · right; rw [hsx']; omega)
        have HSays := hide hSays
        have hs65 : s.size ≤ 65536 := (unhide HE).2.1
        have h_n := vn.cell
        have hTx := text_any a_n n_n c_n _ v2 vn.num
        have HTx := hide hTx
        clear hSays hTx
        by_cases hlast : i + 1 < s.size
        · have hg1i : (i : Int) < (s.size : Int) - 1 := by omega
          have hg2 : ((x' : Int) == 48) = false := by rw [beq_eq_false_iff_ne]; omega
          clear hgo hlast
          go_wp2_with fail
          refine (unhide HTx).mono ?_
          rintro e v3 ⟨t', rfl, hs', hb⟩
          obtain rfl := says_eq hs' (unhide HSays)
          replace HB := hide (gr_trans (unhide HB) hb)
          clear hb hs' HSays
          go_wp2
          go_ret
          exact ⟨rfl, unhide HB⟩
        · have hg1i : ¬ (i : Int) < (s.size : Int) - 1 := by omega
          clear hgo hlast
          go_wp2_with fail
          refine (unhide HTx).mono ?_
          rintro e v3 ⟨t', rfl, hs', hb⟩
          obtain rfl := says_eq hs' (unhide HSays)
          replace HB := hide (gr_trans (unhide HB) hb)
          clear hb hs' HSays
          go_wp2
          go_ret
          exact ⟨rfl, unhide HB⟩
  · have hl2 : ((t.size : Int)) = 1 := by omega
    by_cases hl3 : x = 48
    · subst hl3
      clear hl
      go_wp2_with fail
      refine (unhide HP _).mono ?_
      rintro e v1 ⟨hpe, hb⟩
      obtain ⟨_, a_n, n_n, c_n, rfl, hm⟩ := hpe.resolve_left (fun h => absurd (unhide HE) h.1)
      have vn := Var.made v1 c_n hm.num
      replace HB := hide (gr_trans (gr_trans (unhide HB) hb) (gr_alloc v1 (.cells #[.slice a_n n_n c_n] 24)))
      clear hb hpe hm
      go_wp2
      generalize hw : v1.alloc (.cells #[.slice a_n n_n c_n] 24) = v2 at *
      clear hw
      go_loopw [14] (fun t wr => ∃ i : Nat, i < s.size ∧ t = .int .i64 (i : Int) ∧ Hid (∀ (j : Nat) (h : j < s.size), j < i → (s[j]'h).toNat = 48) ∧ v2 = wr) (fun t _ => s.size - (intOf t).toNat)
      case atStart => exact ⟨0, (unhide HE).1, rfl, hide (fun j _ hj => absurd hj (Nat.not_lt_zero _)), rfl⟩
      case round =>
        obtain ⟨i, hi, rfl, HZ, rfl⟩ := hrel
        obtain ⟨x', hx'⟩ : ∃ x, x = (s[i]'hi).toNat := ⟨_, rfl⟩
        have hx1' : x' < 256 := by rw [hx']; exact (s[i]'hi).toNat_lt
        have hsx' : (s[i]'hi).toNat = x' := hx'.symm
        clear hx'
        by_cases hgo : i + 1 < s.size ∧ x' = 48
        · obtain ⟨hg1, hg2⟩ := hgo
          have hg1i : (i : Int) < (s.size : Int) - 1 := by omega
          have HN : Hid (∀ (j : Nat) (h : j < s.size), j < i + 1 → (s[j]'h).toNat = 48) := hide (fun j h hj => by
            by_cases hji : j < i
            · exact unhide HZ j h hji
            · have : j = i := by omega
              subst this
              rw [hsx', hg2])
          subst hg2
          have hs65 : s.size ≤ 65536 := (unhide HE).2.1
          go_wp2
          go_roundw
          case rel => exact ⟨i + 1, hg1, by go_num, unhide HN, trivial⟩
          case measure => simp [intOf]; omega
        · have hSays := lead_cut (unhide HE).2.2 hi (unhide HZ) (by
            by_cases h : i + 1 = s.size
            · exact Or.inl h
            · right; rw [hsx']; omega)
          have HSays := hide hSays
          have hs65 : s.size ≤ 65536 := (unhide HE).2.1
          have h_n := vn.cell
          have hTx := text_any a_n n_n c_n _ v2 vn.num
          have HTx := hide hTx
          clear hSays hTx
          by_cases hlast : i + 1 < s.size
          · have hg1i : (i : Int) < (s.size : Int) - 1 := by omega
            have hg2 : ((x' : Int) == 48) = false := by rw [beq_eq_false_iff_ne]; omega
            clear hgo hlast
            go_wp2_with fail
            refine (unhide HTx).mono ?_
            rintro e v3 ⟨t', rfl, hs', hb⟩
            obtain rfl := says_eq hs' (unhide HSays)
            replace HB := hide (gr_trans (unhide HB) hb)
            clear hb hs' HSays
            go_wp2
            go_ret
            exact ⟨rfl, unhide HB⟩
          · have hg1i : ¬ (i : Int) < (s.size : Int) - 1 := by omega
            clear hgo hlast
            go_wp2_with fail
            refine (unhide HTx).mono ?_
            rintro e v3 ⟨t', rfl, hs', hb⟩
            obtain rfl := says_eq hs' (unhide HSays)
            replace HB := hide (gr_trans (unhide HB) hb)
            clear hb hs' HSays
            go_wp2
            go_ret
            exact ⟨rfl, unhide HB⟩
    · have hl1 : ((x : Int) == 48) = false := by rw [beq_eq_false_iff_ne]; omega
      clear hl hl3
      go_wp2_with fail
      refine (unhide HP _).mono ?_
      rintro e v1 ⟨hpe, hb⟩
      obtain ⟨_, a_n, n_n, c_n, rfl, hm⟩ := hpe.resolve_left (fun h => absurd (unhide HE) h.1)
      have vn := Var.made v1 c_n hm.num
      replace HB := hide (gr_trans (gr_trans (unhide HB) hb) (gr_alloc v1 (.cells #[.slice a_n n_n c_n] 24)))
      clear hb hpe hm
      go_wp2
      generalize hw : v1.alloc (.cells #[.slice a_n n_n c_n] 24) = v2 at *
      clear hw
      go_loopw [14] (fun t wr => ∃ i : Nat, i < s.size ∧ t = .int .i64 (i : Int) ∧ Hid (∀ (j : Nat) (h : j < s.size), j < i → (s[j]'h).toNat = 48) ∧ v2 = wr) (fun t _ => s.size - (intOf t).toNat)
      case atStart => exact ⟨0, (unhide HE).1, rfl, hide (fun j _ hj => absurd hj (Nat.not_lt_zero _)), rfl⟩
      case round =>
        obtain ⟨i, hi, rfl, HZ, rfl⟩ := hrel
        obtain ⟨x', hx'⟩ : ∃ x, x = (s[i]'hi).toNat := ⟨_, rfl⟩
        have hx1' : x' < 256 := by rw [hx']; exact (s[i]'hi).toNat_lt
        have hsx' : (s[i]'hi).toNat = x' := hx'.symm
        clear hx'
        by_cases hgo : i + 1 < s.size ∧ x' = 48
        · obtain ⟨hg1, hg2⟩ := hgo
          have hg1i : (i : Int) < (s.size : Int) - 1 := by omega
          have HN : Hid (∀ (j : Nat) (h : j < s.size), j < i + 1 → (s[j]'h).toNat = 48) := hide (fun j h hj => by
            by_cases hji : j < i
            · exact unhide HZ j h hji
            · have : j = i := by omega
              subst this
              rw [hsx', hg2])
          subst hg2
          have hs65 : s.size ≤ 65536 := (unhide HE).2.1
          go_wp2
          go_roundw
          case rel => exact ⟨i + 1, hg1, by go_num, unhide HN, trivial⟩
          case measure => simp [intOf]; omega
        · have hSays := lead_cut (unhide HE).2.2 hi (unhide HZ) (by
            by_cases h : i + 1 = s.size
            · exact Or.inl h
            · right; rw [hsx']; omega)
          have HSays := hide hSays
          have hs65 : s.size ≤ 65536 := (unhide HE).2.1
          have h_n := vn.cell
          have hTx := text_any a_n n_n c_n _ v2 vn.num
          have HTx := hide hTx
          clear hSays hTx
          by_cases hlast : i + 1 < s.size
          · have hg1i : (i : Int) < (s.size : Int) - 1 := by omega
            have hg2 : ((x' : Int) == 48) = false := by rw [beq_eq_false_iff_ne]; omega
            clear hgo hlast
            go_wp2_with fail
            refine (unhide HTx).mono ?_
            rintro e v3 ⟨t', rfl, hs', hb⟩
            obtain rfl := says_eq hs' (unhide HSays)
            replace HB := hide (gr_trans (unhide HB) hb)
            clear hb hs' HSays
            go_wp2
            go_ret
            exact ⟨rfl, unhide HB⟩
          · have hg1i : ¬ (i : Int) < (s.size : Int) - 1 := by omega
            clear hgo hlast
            go_wp2_with fail
            refine (unhide HTx).mono ?_
            rintro e v3 ⟨t', rfl, hs', hb⟩
            obtain rfl := says_eq hs' (unhide HSays)
            replace HB := hide (gr_trans (unhide HB) hb)
            clear hb hs' HSays
            go_wp2
            go_ret
            exact ⟨rfl, unhide HB⟩

/-- Every number, or what may be none, and every text. -/
theorem back_any (a : Option Addr) (na ca : Nat) (xs : List Nat) (s : ByteArray) (w : World) (hna : xs.length = na) (hba : na ≤ 9223372036854775807) (hla : Lim w a xs) (hsm : s.size ≤ 9223372036854775807) (hwa : Pl.Wf xs) :
    Calls Try.prog 12 #[.agg #[.slice a na ca], .string s] w fun e w' => e = .returned (.bool true) ∧ Below w.heap.size w w' := by
  by_cases hda : decide (chk xs = 0 ∧ na ≤ 4000) = true
  · by_cases hE : 0 < s.size ∧ s.size ≤ 65536 ∧ AllD s s.size
    · exact back_in_ok a na ca xs s w hna hba hla hsm hda (hide hE) hwa
    · exact back_in_err a na ca xs s w hna hba hla hsm hda (hide hE) hwa
  · by_cases hE : 0 < s.size ∧ s.size ≤ 65536 ∧ AllD s s.size
    · exact back_out_ok a na ca xs s w hna hba hla hsm (by simpa using hda) (hide hE)
    · exact back_out_err a na ca xs s w hna hba hla hsm (by simpa using hda) (hide hE)

end Go.Proofs.Ytkpbgjgebjcfeaa
