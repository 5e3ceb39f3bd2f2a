/- The call nat.shiftDown answers the limbs, over a power of two, rounded down, in a row of its own. -/
import Derived.Test.YtkpbgjgebjcfeaaShiftUp
namespace Go.Proofs.Ytkpbgjgebjcfeaa
open Go.RowKit

theorem or_wrap (A x : Nat) (hx : x < 4294967296) : Go.bits .or .u64 (IntKind.u64.wrap ((A : Int) * 4294967296)) (x : Int) = ((A % 4294967296 * 4294967296 + x : Nat) : Int) := by
  have e : IntKind.u64.wrap ((A : Int) * 4294967296) = ((A % 4294967296 : Nat) : Int) * 4294967296 := by rw [IntKind.wrap_u64]; omega
  rw [e, or_limb _ _ (by omega) hx]
  omega
theorem down_shr (t k pt : Nat) (h : k % 32 = pt) : ((t : Int) / 2 ^ (k % 32)) % 4294967296 = ((t / 2 ^ pt % 4294967296 : Nat) : Int) := by
  rw [h, Int.natCast_emod, Int.natCast_ediv, Int.natCast_pow]
  rfl
/-- One limb of a quotient by a power of two. -/
theorem down_step {V x h P Q : Nat} (hP : 0 < P) (hPQ : 4294967296 = P * Q) (hh : h = V % 4294967296) (hx : x < 4294967296) : (h * 4294967296 + x) / P % 4294967296 + 4294967296 * (V / P) = (x + 4294967296 * V) / P := by
  have hr : V % P < P := Nat.mod_lt _ hP
  have hm : h % P = V % P := by rw [hh, Nat.mod_mod_of_dvd V ⟨Q, hPQ⟩]
  have hv := Nat.div_add_mod V P
  have hu := Nat.div_add_mod h P
  rw [hm] at hu
  generalize V % P = r at *
  generalize V / P = v at *
  generalize h / P = u at *
  have hD : (x + 4294967296 * r) / P < 4294967296 := by
    rw [Nat.div_lt_iff_lt_mul hP]
    have : 4294967296 * (r + 1) ≤ 4294967296 * P := Nat.mul_le_mul_left _ hr
    omega
  have e1 : h * 4294967296 + x = P * (u * 4294967296) + (x + 4294967296 * r) := by
    rw [← hu, Nat.add_mul, Nat.mul_assoc]; omega
  have e2 : x + 4294967296 * V = P * (4294967296 * v) + (x + 4294967296 * r) := by
    rw [← hv, Nat.mul_add, Nat.mul_left_comm]; omega
  rw [e1, e2, Nat.mul_add_div hP, Nat.mul_add_div hP, Nat.mul_comm u, Nat.mul_add_mod, Nat.mod_eq_of_lt hD]
  omega
theorem val_mod (ys : List Nat) (hw : Pl.Wf ys) (j : Nat) : ys[j]?.getD 0 = Pl.val (ys.drop j) % 4294967296 := by
  by_cases h : j < ys.length
  · have := Pl.wf_at hw j
    rw [Pl.drop_cons ys j h]
    simp only [Pl.val]
    omega
  · rw [List.drop_eq_nil_of_le (by omega), List.getElem?_eq_none (by omega)]; rfl
theorem set_rep' (j v : Nat) (qs : List Nat) : (List.replicate (j + 1) 0 ++ qs).set j v = List.replicate j 0 ++ (v :: qs) := by
  rw [List.set_append_left _ _ (by simp), List.replicate_succ', List.set_append_right _ _ (by simp)]
  simp

set_option maxHeartbeats 400000 in
theorem shiftDown_some (b off cap wh pt k N : Nat) (ys : List Nat) (w : World) (hy : Hid (ys.length = N)) (hN0 : 0 < N) (hN : N ≤ 40000) (hwh : wh ≤ 40000) (hcap : wh + N ≤ cap) (hcap2 : cap ≤ 9223372036854775807) (hx : Pl.Wf ys) (hlt : b < w.heap.size) (hk : Hid (k = 32 * wh + pt)) (hpt : pt < 32)
    (hc : ∀ j, j < N → w.cell? ⟨b, off + wh + j, none⟩ = some (.int .u32 ((ys[j]?.getD 0 : Nat) : Int))) :
    Calls Try.prog 63 #[.slice (some ⟨b, off, none⟩) (wh + N) cap, .int .i64 (k : Int)] w
      fun e w' => ∃ l qs, e = .returned (.slice (some ⟨w.heap.size, 0, none⟩) l l) ∧ l ≤ N ∧ Own w' w.heap.size (.slice (some ⟨w.heap.size, 0, none⟩) l l) qs ∧ qs.length = l ∧ Pl.Wf qs ∧ Pl.Norm qs ∧ Pl.val qs = Pl.val ys / 2 ^ pt ∧ Below w.heap.size w w' := by
  have hmk := make_limbs ((N : Int)) N rfl (by omega)
  have hq : (k : Int) / 32 = (wh : Int) := by have := unhide hk; omega
  have hr : (k : Int) % 32 = (pt : Int) := by have := unhide hk; omega
  have HP : Hid (k % 32 = pt) := by have := unhide hk; exact hide (by omega)
  go_enter Try.func63, Try.ntmps63
  go_wp2
  clear hmk hq hr
  go_loopw [9, 10] (fun ab i wr => ∃ (j A : Nat) (qs : List Nat), j ≤ N ∧ i = .int .i64 ((j : Int) - 1) ∧ ab = .int .u64 (A : Int) ∧ A < 18446744073709551616 ∧ A % 4294967296 = ys[j]?.getD 0 ∧ qs.length = N - j ∧ Pl.Wf qs ∧ Pl.val qs = Pl.val (ys.drop j) / 2 ^ pt ∧
      Row wr w.heap.size (List.replicate j 0 ++ qs) ∧ Below w.heap.size w wr) (fun _ i _ => (intOf i + 1).toNat)
  case atStart =>
    refine ⟨N, 0, [], Nat.le_refl _, rfl, rfl, by omega, ?_, by simp, Pl.wf_nil, ?_, ?_, gr_alloc _ _⟩
    · rw [List.getElem?_eq_none (by rw [unhide hy]; omega)]; rfl
    · rw [List.drop_eq_nil_of_le (by rw [unhide hy]; omega)]; simp [Pl.val]
    · rw [List.append_nil]; exact Row.made _ _
  case round =>
    obtain ⟨j, A, qs, hj, rfl, rfl, hA, hAm, hql, hqw, hv, hrow, hbel⟩ := hrel
    by_cases hj0 : j = 0
    · subst hj0
      have hr2 : Row wr w.heap.size qs := by simpa using hrow
      rw [List.drop_zero] at hv
      have HV := hide hv
      clear hv hrow hAm hc
      go_wp2_with fail
      refine (trim_at w.heap.size 0 N N qs wr (by omega) (Nat.le_refl _) (by omega) (fun j hj => by rw [Nat.zero_add]; exact hr2.cell j hj)).mono ?_
      rintro e w1 ⟨rfl, l, hl, h0, h1, rfl⟩
      have HT := hide (trim_row hr2 (Nat.le_refl _) (by omega) hqw hl h0 h1)
      clear h0 h1
      go_wp2
      go_ret
      obtain ⟨t1, t2, t3, t4, t5⟩ := unhide HT
      exact ⟨l, qs.take l, rfl, by omega, t2, t1, t3, t4, by rw [t5, unhide HV], hbel⟩
    · obtain ⟨i, rfl⟩ : ∃ i, j = i + 1 := ⟨j - 1, by omega⟩
      obtain ⟨x, hxx⟩ : ∃ x, x = ys[i]?.getD 0 := ⟨_, rfl⟩
      have hx1 : x < 4294967296 := by rw [hxx]; exact Pl.wf_at hx i
      have hcx : wr.cell? ⟨b, off + wh + i, none⟩ = some (.int .u32 (x : Int)) := by rw [hxx]; exact (hbel.cell (by exact hlt)).trans (hc i (by omega))
      have hcq := hrow.cell i (by simp; omega)
      have hfq := hrow.frozen i
      have HV : Hid (Pl.val ((A % 4294967296 * 4294967296 + x) / 2 ^ pt % 4294967296 :: qs) = Pl.val (ys.drop i) / 2 ^ pt) := by
        have hyl := unhide hy
        rw [Pl.drop_cons ys i (by omega), ← hxx]
        simp only [Pl.val]
        rw [hv]
        exact down_step (Nat.pow_pos (by decide)) (pow_split hpt) (by rw [hAm]; exact val_mod ys hx (i + 1)) hx1
      have HR := hide (hrow.set i ((A % 4294967296 * 4294967296 + x) / 2 ^ pt % 4294967296) (by simp; omega))
      have HX := hide hxx
      have hA2 : A % 4294967296 < 4294967296 := Nat.mod_lt _ (by decide)
      clear hxx hv hrow hc hAm
      go_wp2
      go_roundw
      case rel =>
        rw [or_wrap A x hx1, down_shr _ k pt (unhide HP)]
        refine ⟨i, A % 4294967296 * 4294967296 + x, (A % 4294967296 * 4294967296 + x) / 2 ^ pt % 4294967296 :: qs, by omega, rfl, rfl, by omega, by rw [← unhide HX]; omega, by simp; omega, Pl.wf_cons (Nat.mod_lt _ (by decide)) hqw, unhide HV, ?_, hbel.setCell (Nat.le_refl _) _⟩
        have h := unhide HR
        rwa [set_rep'] at h
      case measure => simp [intOf]

set_option maxHeartbeats 400000 in
theorem shiftDown_nil (a : Option Addr) (n cap wh k : Nat) (w : World) (hk : Hid (wh = k / 32)) (hk2 : wh < 9223372036854775808) (hle : n ≤ wh) :
    Calls Try.prog 63 #[.slice a n cap, .int .i64 (k : Int)] w fun e w' => e = .returned (.slice none 0 0) ∧ w' = w := by
  have hq : (k : Int) / 32 = (wh : Int) := by have := unhide hk; omega
  have hd : (n : Int) ≤ (wh : Int) := by omega
  clear hle
  go_enter Try.func63, Try.ntmps63
  go_wp2
  go_ret
  exact ⟨rfl, rfl⟩

/-- Every number, over every power of two. -/
theorem shiftDown_any (a : Option Addr) (n cap m k : Nat) (w : World) (h : Num w a n m) (hcap : n ≤ cap) (hcap2 : cap ≤ 9223372036854775807) (hk : k < 9223372036854775808) :
    Calls Try.prog 63 #[.slice a n cap, .int .i64 (k : Int)] w fun e w' => (∃ a' l c, e = .returned (.slice a' l c) ∧ Mine w' w.heap.size a' l c (m / 2 ^ k)) ∧ Below w.heap.size w w' := by
  obtain ⟨xs, hn, hl, hw, hN, hv, hb⟩ := h
  by_cases hle : n ≤ k / 32
  · refine (shiftDown_nil a n cap (k / 32) k w rfl (by omega) hle).mono ?_
    rintro e w' ⟨rfl, rfl⟩
    have h0 : m / 2 ^ k = 0 := by
      apply Nat.div_eq_of_lt
      have h1 := Pl.val_lt hw
      rw [hv, hn] at h1
      have h2 : (4294967296 : Nat) ^ n = 2 ^ (32 * n) := by rw [Nat.pow_mul]
      have h3 := Nat.pow_le_pow_right (show 0 < 2 by decide) (show 32 * n ≤ k by omega)
      rw [h2] at h1
      exact Nat.lt_of_lt_of_le h1 h3
    rw [h0]
    exact ⟨⟨none, 0, 0, rfl, [], rfl, Or.inl ⟨rfl, rfl⟩, Pl.wf_nil, Pl.norm_nil, rfl, by omega⟩, gr_refl _⟩
  · rcases hl.parts with hx | ⟨hp, b, off, rfl, hltb, hcx⟩
    · rw [hx] at hn; simp at hn; omega
    · obtain ⟨N, rfl⟩ : ∃ N, n = k / 32 + N := ⟨n - k / 32, by omega⟩
      have hyl : (xs.drop (k / 32)).length = N := by rw [List.length_drop]; omega
      refine (shiftDown_some b off cap (k / 32) (k % 32) k N (xs.drop (k / 32)) w (hide hyl) (by omega) (by omega) (by omega) hcap hcap2 (Pl.wf_drop hw _) hltb (hide (by omega)) (by omega) (fun j hj => ?_)).mono ?_
      · have := hcx (k / 32 + j) (by omega)
        rw [← Nat.add_assoc] at this
        rw [this, List.getElem?_drop]
      · rintro e w' ⟨l, qs, rfl, hlN, hO, hql, hqw, hqN, hqv, hb1⟩
        refine ⟨⟨_, l, l, rfl, qs, hql, hO, hqw, hqN, ?_, by omega⟩, hb1⟩
        rw [hqv, ← hv, Pl.val_split xs (k / 32) (by omega)]
        have e : 2 ^ k = 4294967296 ^ (k / 32) * 2 ^ (k % 32) := by
          rw [show (4294967296 : Nat) = 2 ^ 32 from rfl, ← Nat.pow_mul, ← Nat.pow_add]
          congr 1; omega
        have hlo := Pl.val_lt (Pl.wf_take hw (k / 32))
        rw [List.length_take, Nat.min_eq_left (by omega)] at hlo
        rw [e, ← Nat.div_div_eq_div_mul]
        congr 1
        rw [Nat.add_comm, Nat.mul_add_div (Nat.lt_of_le_of_lt (Nat.zero_le _) hlo), Nat.div_eq_of_lt hlo, Nat.add_zero]

end Go.Proofs.Ytkpbgjgebjcfeaa
