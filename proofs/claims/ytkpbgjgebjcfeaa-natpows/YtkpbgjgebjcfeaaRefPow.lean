/- The document's own Pow; and nat.Pow below nought. -/
import Derived.Test.YtkpbgjgebjcfeaaRefMul
import Derived.Test.YtkpbgjgebjcfeaaPow
import Derived.Test.YtkpbgjgebjcfeaaLessen
import Derived.Test.YtkpbgjgebjcfeaaDiv
namespace Go.Proofs.Ytkpbgjgebjcfeaa
open Go.RowKit

theorem TimesTo.mine {base b0 N P : Nat} {e : Ending} {w' : World} (h : TimesTo base N P e w') (hb : b0 ≤ base) :
    ∃ n, e = .returned (.slice (some ⟨base, 0, none⟩) n N) ∧ n ≤ N ∧ (n ≤ 16384 → Mine w' b0 (some ⟨base, 0, none⟩) n N P) ∧ (16384 < n → Over P) ∧ ∃ zs, zs.length = n ∧ Own w' base (.slice (some ⟨base, 0, none⟩) n N) zs ∧ Pl.Wf zs ∧ Pl.Norm zs ∧ Pl.val zs = P := by
  obtain ⟨n, zs, he, hn, hl, ho, hw, hN, hv⟩ := h
  refine ⟨n, he, hn, fun h16 => ⟨zs, hl, ho.mono hb, hw, hN, hv, h16⟩, fun h16 => ⟨?_⟩, zs, hl, ho, hw, hN, hv⟩
  have h := Pl.val_le_len hw hN Pl.top
  rw [hl, hv, Pl.top_eq] at h
  rw [Pl.top_eq]
  omega

/-- times of two numbers that are not nought, of whatever size up to 40000 limbs. -/
theorem rtimes_own (g nx cx N : Nat) (xs : List Nat) (b' ny cy : Nat) (ys : List Nat) (w : World) (hxl : xs.length = nx) (hyl : ys.length = ny) (hx : nx ≤ 40000) (hy : ny ≤ 40000) (wx : Pl.Wf xs) (wy : Pl.Wf ys) (hgx : g < w.heap.size) (hgy : b' < w.heap.size)
    (hcx : ∀ j, j < nx → w.cell? ⟨g, 0 + j, none⟩ = some (.int .u32 ((xs[j]?.getD 0 : Nat) : Int))) (hcy : ∀ j, j < ny → w.cell? ⟨b', 0 + j, none⟩ = some (.int .u32 ((ys[j]?.getD 0 : Nat) : Int))) (hN : nx + ny = N) :
    Calls Try.prog 67 #[.slice (some ⟨g, 0, none⟩) nx cx, .slice (some ⟨b', 0, none⟩) ny cy] w
      fun e w' => TimesTo w.heap.size N (Pl.val xs * Pl.val ys) e w' ∧ Below w.heap.size w w' := by
  subst hN
  exact rtimes_some g 0 cx b' 0 cy nx ny xs ys w (hide hxl) (hide hyl) hx hy wx wy hgx hgy (hide hcx) (hide hcy)

set_option maxHeartbeats 400000 in
theorem rpow_neg (b : Nat) (n : Int) (w : World) (hn : n < 0) :
    Calls Try.prog 36 #[.int .u32 (b : Int), .int .i64 n] w fun e w' => e = .returned (.tuple #[.agg #[.slice none 0 0], .int .i64 2]) ∧ Below w.heap.size w w' := by
  go_enter Try.func36, Try.ntmps36
  go_wp2
  exact bodyPost_ret (v := .tuple #[.agg #[.slice none 0 0], .int .i64 2]) (by simp [results, Try.results36, go_sem]) rfl ⟨rfl, gr_alloc _ _⟩
set_option maxHeartbeats 400000 in
theorem pow_neg (b : Nat) (n : Int) (w : World) (hn : n < 0) :
    Calls Try.prog 13 #[.int .u32 (b : Int), .int .i64 n] w fun e w' => e = .returned (.tuple #[.agg #[.slice none 0 0], .int .i64 2]) ∧ Below w.heap.size w w' := by
  go_enter Try.func13, Try.ntmps13
  go_wp2
  exact bodyPost_ret (v := .tuple #[.agg #[.slice none 0 0], .int .i64 2]) (by simp [results, Try.results13, go_sem]) rfl ⟨rfl, gr_alloc _ _⟩

set_option maxHeartbeats 400000 in
theorem rpow_short (b n v : Nat) (w : World) (hb : b < 4294967296) (hn : n < 9223372036854775808) (hv : Hid (b ^ n = v)) (hc : (n = 0 ∧ v = 1) ∨ (n ≠ 0 ∧ b < 2 ∧ v = b)) :
    Calls Try.prog 36 #[.int .u32 (b : Int), .int .i64 (n : Int)] w fun e w' => Ans w' w.heap.size e (b ^ n) ∧ Below w.heap.size w w' := by
  rw [unhide hv]
  rcases hc with ⟨rfl, rfl⟩ | ⟨h1, h2, rfl⟩
  · go_enter Try.func36, Try.ntmps36
    go_wp2_with fail
    refine (rof_any 1 _ (by omega)).mono ?_
    rintro e w1 ⟨⟨a1, n1, c1, rfl, hm1⟩, hb1⟩
    have hX := (Box.made w (.slice none 0 0)).kept hb1
    have hcx := hX.cell
    have hfx := hX.frozen
    have HM := hide (hm1.mono (show w.heap.size ≤ (w.alloc (.cells #[.slice none 0 0] 24)).heap.size by simp))
    have HB := hide (gr_trans (gr_alloc w (.cells #[.slice none 0 0] 24)) hb1)
    clear hm1 hb1
    go_wp2
    exact bodyPost_ret (v := .tuple #[.agg #[.slice a1 n1 c1], .int .i64 0]) (by simp [results, Try.results36, go_sem, hcx]) rfl ⟨Or.inl ⟨_, _, _, rfl, (unhide HM).setBox hX _⟩, (unhide HB).setCell (Nat.le_refl _) _⟩
  · have hn0 : ((n : Int) == 0) = false := by rw [beq_eq_false_iff_ne]; omega
    have hb2 : (v : Int) < 2 := by omega
    clear h1 h2
    go_enter Try.func36, Try.ntmps36
    go_wp2_with fail
    refine (rof_any v _ (by omega)).mono ?_
    rintro e w1 ⟨⟨a1, n1, c1, rfl, hm1⟩, hb1⟩
    have hX := (Box.made w (.slice none 0 0)).kept hb1
    have hcx := hX.cell
    have hfx := hX.frozen
    have HM := hide (hm1.mono (show w.heap.size ≤ (w.alloc (.cells #[.slice none 0 0] 24)).heap.size by simp))
    have HB := hide (gr_trans (gr_alloc w (.cells #[.slice none 0 0] 24)) hb1)
    clear hm1 hb1
    go_wp2
    exact bodyPost_ret (v := .tuple #[.agg #[.slice a1 n1 c1], .int .i64 0]) (by simp [results, Try.results36, go_sem, hcx]) rfl ⟨Or.inl ⟨_, _, _, rfl, (unhide HM).setBox hX _⟩, (unhide HB).setCell (Nat.le_refl _) _⟩

set_option maxHeartbeats 400000 in
theorem rpow_over (b n : Nat) (w : World) (hb : b < 4294967296) (hb2 : 2 ≤ b) (hn : n < 9223372036854775808) (hbig : 524288 < n) :
    Calls Try.prog 36 #[.int .u32 (b : Int), .int .i64 (n : Int)] w fun e w' => Ans w' w.heap.size e (b ^ n) ∧ Below w.heap.size w w' := by
  have HO := hide (two_pow_over hb2 (Nat.le_of_lt hbig))
  have hn0 : ((n : Int) == 0) = false := by rw [beq_eq_false_iff_ne]; omega
  have hb2i : ¬ (b : Int) < 2 := by omega
  have hgi : (524288 : Int) < (n : Int) := by omega
  clear hbig hb2
  go_enter Try.func36, Try.ntmps36
  go_wp2
  exact bodyPost_ret (v := .tuple #[.agg #[.slice none 0 0], .int .i64 4]) (by simp [results, Try.results36, go_sem]) rfl ⟨Or.inr ⟨rfl, unhide HO⟩, gr_alloc _ _⟩

set_option maxRecDepth 20000 in
set_option maxHeartbeats 2000000 in
theorem rpow_in (b n : Nat) (w : World) (hb : b < 4294967296) (hb2 : 2 ≤ b) (hn0 : n ≠ 0) (hbig : n ≤ 524288) :
    Calls Try.prog 36 #[.int .u32 (b : Int), .int .i64 (n : Int)] w fun e w' => Ans w' w.heap.size e (b ^ n) ∧ Below w.heap.size w w' := by
  have hn0i : ((n : Int) == 0) = false := by rw [beq_eq_false_iff_ne]; omega
  have hb2i : ¬ (b : Int) < 2 := by omega
  have hgi : ¬ (524288 : Int) < (n : Int) := by omega
  have HQ := hide (And.intro hb2 (And.intro hn0 hbig))
  clear hn0 hb2 hbig
  go_enter Try.func36, Try.ntmps36
  go_wp2
  go_loopw [6, 7] (fun s6 s7 wr => ∃ (j g l c : Nat), j ≤ 20 ∧ s7 = .int .i64 ((j : Int) - 1) ∧ s6 = .slice (some ⟨g, 0, none⟩) l c ∧ 0 < l ∧ Hid (Mine wr w.heap.size (some ⟨g, 0, none⟩) l c (b ^ (n / 2 ^ j))) ∧ Box wr w.heap.size (.slice none 0 0) ∧ Below w.heap.size w wr) (fun _ s7 _ => (intOf s7 + 1).toNat)
  case atStart =>
    have hz : n / 2 ^ 20 = 0 := Nat.div_eq_of_lt (by have := (unhide HQ).2.2; omega)
    refine ⟨20, w.heap.size + 1, 1, 1, Nat.le_refl _, rfl, by simp, by omega, hide ?_, (Box.made w (.slice none 0 0)).alloc _, gr_trans (gr_alloc _ _) (gr_alloc _ _)⟩
    rw [hz, Nat.pow_zero]
    refine ⟨[1], rfl, Or.inr ⟨w.heap.size + 1, 1, #[.int .u32 1], rfl, by omega, by rw [heap_alloc2_new], by simp, by simp, by omega, fun j hj => ?_⟩, Pl.wf_one (by decide), by simp [Pl.Norm], rfl, by omega⟩
    have : j = 0 := by simpa using hj
    subst this
    rfl
  case round =>
    obtain ⟨j, g, l, c, hj, rfl, rfl, hl0, HM, hbx, hbel⟩ := hrel
    have hcx := hbx.cell
    have hfx := hbx.frozen
    by_cases hj0 : j = 0
    · subst hj0
      have hm : Mine wr w.heap.size (some ⟨g, 0, none⟩) l c (b ^ n) := by have := unhide HM; rwa [Nat.pow_zero, Nat.div_one] at this
      have HM' := hide hm
      clear HM hm
      go_wp2_with fail
      refine (rnat_any _ _ l c _ rfl).mono ?_
      rintro e w2 ⟨rfl, rfl⟩
      have hbx2 := hbx.alloc (.cells #[.slice (some ⟨g, 0, none⟩) l c] 24)
      have hcx2 := hbx2.cell
      have hfx2 := hbx2.frozen
      go_wp2
      exact bodyPost_ret (v := .tuple #[.agg #[.slice (some ⟨g, 0, none⟩) l c], .int .i64 0]) (by simp [results, Try.results36, go_sem, hcx2]) rfl ⟨Or.inl ⟨_, _, _, rfl, ((unhide HM').alloc _).setBox hbx2 _⟩, ((gr_trans hbel (gr_alloc _ _))).setCell (Nat.le_refl _) _⟩
    · obtain ⟨k, rfl⟩ : ∃ k, j = k + 1 := ⟨j - 1, by omega⟩
      obtain ⟨g', xs, e1, hg, hglt, hxl, hrow, hxw, hxN, hxv, hlc, hc9, hl16⟩ := (unhide HM).row hl0
      injection e1 with e1
      injection e1 with e1
      subst e1
      have HT := hide (rtimes_own g l c (l + l) xs g l c xs wr hxl hxl (by omega) (by omega) hxw hxw hglt hglt (fun i hi => by rw [Nat.zero_add]; exact hrow.cell i (by omega)) (fun i hi => by rw [Nat.zero_add]; exact hrow.cell i (by omega)) rfl)
      have HV := hide hxv
      clear hrow hxv hxw hxN
      go_wp2_with fail
      refine (unhide HT).mono ?_
      rintro e w2 ⟨ht, hb2'⟩
      obtain ⟨n2, rfl, hn2, hmine, hover, zs, hzl, hzo, hzw, hzN, hzv⟩ := ht.mine hbel.size
      have hbx2 := hbx.kept hb2'
      have HB2 := hide (gr_trans hbel hb2')
      have hVp : 0 < b ^ (n / 2 ^ (k + 1)) := Nat.pow_pos (by have := (unhide HQ).1; omega)
      rw [unhide HV] at hzv hmine hover
      have hn2p : 0 < n2 := Nat.pos_of_ne_zero (fun e => by
        have h0 : zs = [] := List.length_eq_zero_iff.1 (by omega)
        rw [h0] at hzv
        have : 0 < b ^ (n / 2 ^ (k + 1)) * b ^ (n / 2 ^ (k + 1)) := Nat.mul_pos hVp hVp
        rw [← hzv] at this
        exact absurd this (by simp [Pl.val]))
      have hzr : Row w2 wr.heap.size zs := by
        rcases hzo with ⟨e, _⟩ | ⟨g', cap', cur, e, hg', hh, h1, h2, h3, hcc⟩
        · cases e
        · injection e with e1 e2 e3
          injection e1 with e1
          injection e1 with e1
          subst e1
          refine ⟨(cur.toList.drop n2).toArray, ?_⟩
          have hcur : cur = lc zs ++ (cur.toList.drop n2).toArray := by
            apply Array.toList_inj.1
            rw [Array.toList_append]
            simp only [lc]
            have ht : cur.toList.take n2 = zs.map (fun z : Nat => Value.int .u32 (z : Int)) := by
              apply List.ext_getElem
              · simp; omega
              · intro i h4 h5
                have hi : i < zs.length := by simpa using h5
                have := hcc i hi
                rw [List.getElem?_eq_getElem hi, Option.getD_some] at this
                rw [List.getElem_take, List.getElem_map]
                have h6 : i < cur.size := by omega
                rw [Array.getElem?_eq_getElem h6] at this
                injection this with this
            rw [← ht, List.take_append_drop]
          rw [← hcur]; exact hh
      have hw2 : wr.heap.size < w2.heap.size := hzr.lt
      by_cases hpar : n / 2 ^ k % 2 = 0
      · have hbit : (Go.bits BinOp.and IntKind.i64 ((n : Int) / 2 ^ k) 1 == 1) = false := by
          have e : (n : Int) / 2 ^ k = ((n / 2 ^ k : Nat) : Int) := by simp
          rw [e, and_one_i64 _ (Nat.lt_of_le_of_lt (div_pow_le n k) (by have := (unhide HQ).2.2; omega)), hpar]; rfl
        have e1 : b ^ (n / 2 ^ (k + 1)) * b ^ (n / 2 ^ (k + 1)) = b ^ (n / 2 ^ k) := by rw [← Nat.pow_add, half_even n k hpar]
        rw [e1] at hmine hover
        clear hpar e1 hzv hzo hzr hzw hzN hb2' ht HT HM
        by_cases h16 : n2 ≤ 16384
        · have hm16 := hmine h16
          have h16i : ¬ (16384 : Int) < (n2 : Int) := by omega
          have HMn := hide hm16
          have HP := hide hn2p
          clear h16 hm16 hmine hover
          go_wp2
          go_roundw
          case rel => exact ⟨k, wr.heap.size, n2, l + l, by omega, by go_num, rfl, unhide HP, unhide HMn, hbx2, unhide HB2⟩
          case measure => simp [intOf]
        · have hov := hover (by omega)
          have h16i : (16384 : Int) < (n2 : Int) := by omega
          have HOv : Hid (Over (b ^ n)) := hide (over_mono (by have := (unhide HQ).1; omega) (div_pow_le n k) hov)
          have hcx2 := hbx2.cell
          have hfx2 := hbx2.frozen
          clear h16 hov hmine hover
          go_wp2
          exact bodyPost_ret (v := .tuple #[.agg #[.slice none 0 0], .int .i64 4]) (by simp [results, Try.results36, go_sem, hcx2]) rfl ⟨Or.inr ⟨rfl, unhide HOv⟩, (unhide HB2).setCell (Nat.le_refl _) _⟩
      · have hbit : (Go.bits BinOp.and IntKind.i64 ((n : Int) / 2 ^ k) 1 == 1) = true := by
          have e : (n : Int) / 2 ^ k = ((n / 2 ^ k : Nat) : Int) := by simp
          rw [e, and_one_i64 _ (Nat.lt_of_le_of_lt (div_pow_le n k) (by have := (unhide HQ).2.2; omega)), show n / 2 ^ k % 2 = 1 by omega]; rfl
        have hbr : Row (w2.alloc (.cells #[.int .u32 (b : Int)] 28)) w2.heap.size [b] := heap_alloc_lc w2 b
        have hzr' := hzr.kept (gr_alloc w2 (.cells #[.int .u32 (b : Int)] 28))
        have HT2 := hide (rtimes_own wr.heap.size n2 (l + l) (n2 + 1) zs w2.heap.size 1 1 [b] (w2.alloc (.cells #[.int .u32 (b : Int)] 28)) hzl rfl (by omega) (by omega) hzw (Pl.wf_one hb) (by simp; omega) (by simp) (fun i hi => by rw [Nat.zero_add]; exact hzr'.cell i (by omega)) (fun i hi => by rw [Nat.zero_add]; exact hbr.cell i hi) rfl)
        have e1 : Pl.val zs * Pl.val [b] = b ^ (n / 2 ^ k) := by rw [hzv, Pl.val_one, pow_odd, half_odd n k hpar]
        rw [e1] at HT2
        clear hpar e1 hzv hzo hzr hzw hzN hb2' ht HT HM hbr hzr' hmine hover
        go_wp2_with fail
        refine (unhide HT2).mono ?_
        rintro e w3 ⟨ht3, hb3⟩
        obtain ⟨n3, rfl, hn3, hmine3, hover3, zs3, hzl3, _, _, _, hzv3⟩ := ht3.mine (Nat.le_trans (unhide HB2).size (gr_alloc w2 _).size)
        simp only [World.size_alloc] at hmine3
        have hn3p : 0 < n3 := Nat.pos_of_ne_zero (fun e => by
          have h0 : zs3 = [] := List.length_eq_zero_iff.1 (by omega)
          rw [h0] at hzv3
          have : 0 < b ^ (n / 2 ^ k) := Nat.pow_pos (by have := (unhide HQ).1; omega)
          rw [← hzv3] at this
          exact absurd this (by simp [Pl.val]))
        have hbx3 := (hbx2.alloc (.cells #[.int .u32 (b : Int)] 28)).kept hb3
        have HB3 := hide (gr_trans (gr_trans (unhide HB2) (gr_alloc w2 (.cells #[.int .u32 (b : Int)] 28))) hb3)
        clear hzv3 ht3 hb3 HT2
        by_cases h16 : n3 ≤ 16384
        · have hm16 := hmine3 h16
          have h16i : ¬ (16384 : Int) < (n3 : Int) := by omega
          have HMn := hide hm16
          have HP := hide hn3p
          clear h16 hm16 hmine3 hover3
          go_wp2
          go_roundw
          case rel => exact ⟨k, _, n3, n2 + 1, by omega, by go_num, rfl, unhide HP, unhide HMn, hbx3, unhide HB3⟩
          case measure => simp [intOf]
        · have hov := hover3 (by omega)
          have h16i : (16384 : Int) < (n3 : Int) := by omega
          have HOv : Hid (Over (b ^ n)) := hide (over_mono (by have := (unhide HQ).1; omega) (div_pow_le n k) hov)
          have hcx2 := hbx3.cell
          have hfx2 := hbx3.frozen
          clear h16 hov hmine3 hover3
          go_wp2
          exact bodyPost_ret (v := .tuple #[.agg #[.slice none 0 0], .int .i64 4]) (by simp [results, Try.results36, go_sem, hcx2]) rfl ⟨Or.inr ⟨rfl, unhide HOv⟩, (unhide HB3).setCell (Nat.le_refl _) _⟩

/-- Every base and every exponent from nought on. -/
theorem rpow_any (b n : Nat) (w : World) (hb : b < 4294967296) (hn : n < 9223372036854775808) :
    Calls Try.prog 36 #[.int .u32 (b : Int), .int .i64 (n : Int)] w fun e w' => Ans w' w.heap.size e (b ^ n) ∧ Below w.heap.size w w' := by
  by_cases h0 : n = 0
  · subst h0
    exact rpow_short b 0 1 w hb hn (hide (Nat.pow_zero b)) (Or.inl ⟨rfl, rfl⟩)
  · by_cases hb2 : b < 2
    · refine rpow_short b n b w hb hn (hide ?_) (Or.inr ⟨h0, hb2, rfl⟩)
      have : b = 0 ∨ b = 1 := by omega
      rcases this with rfl | rfl
      · exact Nat.zero_pow (by omega)
      · exact Nat.one_pow n
    · by_cases hbig : n ≤ 524288
      · exact rpow_in b n w hb (by omega) h0 hbig
      · exact rpow_over b n w hb (by omega) hn (by omega)

end Go.Proofs.Ytkpbgjgebjcfeaa
