/- The document's own plus: the sum of two lists. -/
import Derived.Test.YtkpbgjgebjcfeaaRefShift
import Derived.Test.YtkpbgjgebjcfeaaPlainB
namespace Go.Proofs.Ytkpbgjgebjcfeaa
open Go.RowKit

theorem plus_step {o B c p q x y s : Nat} (h : o + B * c = p + q) (hs : s = x + y + c) : (o + B * (s % 4294967296)) + B * 4294967296 * (s / 4294967296) = (p + B * x) + (q + B * y) := by
  have e : s = 4294967296 * (s / 4294967296) + s % 4294967296 := (Nat.div_add_mod _ _).symm
  have e1 : B * s = B * 4294967296 * (s / 4294967296) + B * (s % 4294967296) := by
    conv => lhs; rw [e]
    rw [Nat.mul_add, Nat.mul_assoc]
  have e2 : B * s = B * x + B * y + B * c := by rw [hs, Nat.mul_add, Nat.mul_add]
  omega

/-- What plus answers: the sum, in a row of its own. -/
def PlusTo (base M V : Nat) (e : Ending) (w' : World) : Prop :=
  ∃ a n c zs, e = .returned (.slice a n c) ∧ n ≤ M + 1 ∧ zs.length = n ∧ Own w' base (.slice a n c) zs ∧ Pl.Wf zs ∧ Pl.Norm zs ∧ Pl.val zs = V

/-- A sum has no nought at its end. -/
theorem plus_norm {zs xs ys : List Nat} {i n n' M : Nat} (hl : zs.length = i) (hxl : xs.length = n) (hyl : ys.length = n') (hi : n ≤ i) (hi' : n' ≤ i) (hM : n = M ∨ n' = M) (hz : Pl.Wf zs) (hN : Pl.Norm xs) (hN' : Pl.Norm ys) (hv : Pl.val zs = Pl.val xs + Pl.val ys)
    (h : i ≤ M ∨ zs[M]?.getD 0 ≠ 0) (h1 : i ≤ M + 1) : Pl.Norm zs := by
  apply Pl.norm_of
  by_cases h0 : zs.length = 0
  · exact Or.inl h0
  · right
    by_cases hiM : i ≤ M
    · intro e
      have e2 : Pl.val zs = Pl.val (zs.take (i - 1)) := by
        rw [Pl.val_split zs (i - 1) (by omega), Pl.drop_cons zs (i - 1) (by omega), ← hl, e, List.drop_eq_nil_of_le (by omega)]
        simp [Pl.val]
      have h2 := Pl.val_lt (Pl.wf_take hz (i - 1))
      rw [List.length_take, Nat.min_eq_left (by omega)] at h2
      rcases hM with hM | hM
      · have h3 := Pl.norm_lower hN (by omega)
        rw [hxl, show n - 1 = i - 1 by omega] at h3
        omega
      · have h3 := Pl.norm_lower hN' (by omega)
        rw [hyl, show n' - 1 = i - 1 by omega] at h3
        omega
    · rcases h with h | h
      · omega
      · rw [hl, show i - 1 = M by omega]; exact h

set_option maxRecDepth 20000 in
set_option maxHeartbeats 2000000 in
theorem rplus_list (a a' : Option Addr) (n n' cap cap' M : Nat) (xs ys : List Nat) (w : World) (hn : xs.length = n) (hn' : ys.length = n') (hl : Lim w a xs) (hl' : Lim w a' ys) (hw : Pl.Wf xs) (hw' : Pl.Wf ys) (hN : Pl.Norm xs) (hN' : Pl.Norm ys) (hb : n ≤ M) (hb' : n' ≤ M) (hM : M ≤ 40000) (hM2 : Hid (n = M ∨ n' = M)) :
    Calls Try.prog 73 #[.slice a n cap, .slice a' n' cap'] w fun e w' => PlusTo w.heap.size M (Pl.val xs + Pl.val ys) e w' ∧ Below w.heap.size w w' := by
  have HLX := hide (fun (i : Nat) (W : World) (h : Lim W a xs) (hi : i < 9223372036854775808) => rlimb_any a n cap i xs W hn h hw hi)
  have HLY := hide (fun (i : Nat) (W : World) (h : Lim W a' ys) (hi : i < 9223372036854775808) => rlimb_any a' n' cap' i ys W hn' h hw' hi)
  have HL := hide hl
  have HL' := hide hl'
  have HN := hide hn
  have HN' := hide hn'
  clear hl hn hl' hn'
  go_enter Try.func73, Try.ntmps73
  go_wp2
  go_loopw [5, 6, 7] (fun s3 s4 s5 wr => ∃ (i c : Nat) (zs : List Nat), i ≤ M + 1 ∧ s5 = .int .i64 (i : Int) ∧ s4 = .int .u64 (c : Int) ∧ c ≤ 1 ∧ (i = M + 1 → c = 0) ∧ Hid (Own wr w.heap.size s3 zs ∧ zs.length = i ∧ Pl.Wf zs ∧ Pl.val zs + 4294967296 ^ i * c = Pl.val (xs.take i) + Pl.val (ys.take i) ∧ (i ≤ M ∨ zs[M]?.getD 0 ≠ 0) ∧ Below w.heap.size w wr)) (fun _ _ s5 _ => M + 1 - (intOf s5).toNat)
  case atStart => exact ⟨0, 0, [], Nat.zero_le _, rfl, rfl, by omega, fun _ => rfl, hide ⟨Or.inl ⟨rfl, rfl⟩, rfl, Pl.wf_nil, by simp [Pl.val], Or.inl (Nat.zero_le _), gr_refl _⟩⟩
  case round =>
    obtain ⟨i, c, zs, hi, rfl, rfl, hc, hic, HS⟩ := hrel
    have hM2' := unhide hM2
    by_cases hgo : i < M ∨ c = 1
    · have hiM : i ≤ M := by
        by_cases h : i ≤ M
        · exact h
        · have := hic (by omega); omega
      obtain ⟨h1, h2, h3, h4, h6, h5⟩ := unhide HS
      obtain ⟨va, vn, vc, rfl⟩ := h1.slice
      have hvn := h1.len
      obtain ⟨x, hxx⟩ : ∃ x, x = xs[i]?.getD 0 := ⟨_, rfl⟩
      obtain ⟨y, hyy⟩ : ∃ y, y = ys[i]?.getD 0 := ⟨_, rfl⟩
      have hx1 : x < 4294967296 := by rw [hxx]; exact Pl.wf_at hw _
      have hy1 : y < 4294967296 := by rw [hyy]; exact Pl.wf_at hw' _
      have L1 := unhide HLX i wr ((unhide HL).below h5) (by omega)
      have L2 := unhide HLY i wr ((unhide HL').below h5) (by omega)
      rw [← hxx] at L1
      rw [← hyy] at L2
      have HL1 := hide L1
      have HL2 := hide L2
      obtain ⟨s, hs⟩ : ∃ s, s = x + y + c := ⟨_, rfl⟩
      have hs1 : s < 18446744073709551616 := by omega
      obtain ⟨v', W', hrun, hO, hap, _⟩ := append_own1 wr w.heap.size vn vc (s % 4294967296) va zs h1 h5.size (by omega)
      have hval : Pl.val (zs ++ [s % 4294967296]) + 4294967296 ^ (i + 1) * (s / 4294967296) = Pl.val (xs.take (i + 1)) + Pl.val (ys.take (i + 1)) := by
        rw [Pl.val_append, Pl.val_one, h2, Nat.pow_succ, Pl.val_take_any xs i, Pl.val_take_any ys i, ← hxx, ← hyy]
        exact plus_step h4 hs
      have hB' : Below w.heap.size w W' := h5.trans ⟨hap.os, hap.tape, hap.output, hap.size, fun q hq => hap.block q (by have := h5.size; omega) (fun e => by have := h1.lt q e.symm; omega)⟩
      have hlast : i + 1 ≤ M ∨ (zs ++ [s % 4294967296])[M]?.getD 0 ≠ 0 := by
        by_cases hh : i + 1 ≤ M
        · exact Or.inl hh
        · right
          have hiM2 : i = M := by omega
          have hxn := unhide HN
          have hyn := unhide HN'
          have hx0 : x = 0 := by rw [hxx, List.getElem?_eq_none (by omega)]; rfl
          have hy0 : y = 0 := by rw [hyy, List.getElem?_eq_none (by omega)]; rfl
          rw [List.getElem?_append_right (by omega), show M - zs.length = 0 by omega]
          simp
          omega
      have hcar : i + 1 = M + 1 → s / 4294967296 = 0 := fun hh => by
        have hxn := unhide HN
        have hyn := unhide HN'
        have hx0 : x = 0 := by rw [hxx, List.getElem?_eq_none (by omega)]; rfl
        have hy0 : y = 0 := by rw [hyy, List.getElem?_eq_none (by omega)]; rfl
        omega
      have hs2 : s / 4294967296 ≤ 1 := by omega
      have hsi : (x : Int) + (y : Int) + (c : Int) = (s : Int) := by omega
      have HS' := hide (show Own W' w.heap.size v' (zs ++ [s % 4294967296]) ∧ (zs ++ [s % 4294967296]).length = i + 1 ∧ Pl.Wf (zs ++ [s % 4294967296]) ∧ _ ∧ _ ∧ Below w.heap.size w W' from ⟨hO, by simp [h2], Pl.wf_append h3 (Pl.wf_one (Nat.mod_lt _ (by decide))), hval, hlast, hB'⟩)
      have e2 : (s : Int) % 4294967296 = ((s % 4294967296 : Nat) : Int) := by omega
      rw [← e2] at hrun
      have HSI := hide hsi
      have HRUN := hide hrun
      have HCAR := hide hcar
      have hcase : i < n ∨ (n ≤ i ∧ i < n') ∨ (n ≤ i ∧ n' ≤ i ∧ 0 < c) := by omega
      clear h1 h2 h3 h4 h5 h6 hxx hyy L1 L2 hO hap hval hB' hlast hcar hs HS hrun hvn e2 hgo hic hM2' hsi
      rcases hcase with hA | ⟨hA, hB⟩ | ⟨hA, hB, hC⟩
      all_goals (
        go_wp2_with fail
        refine (unhide HL1).mono ?_
        rintro e w1 ⟨rfl, rfl⟩
        go_wp2_with fail
        refine (unhide HL2).mono ?_
        rintro e w1 ⟨rfl, rfl⟩
        go_wp2_with (at_builtin; rw [unhide HSI]; refine wpList_append_run rfl (.tmp 34) (.tmp 37) 22 rfl (unhide HRUN) ?_)
        go_roundw
        case rel => exact ⟨i + 1, s / 4294967296, zs ++ [s % 4294967296], by omega, by go_num, by go_num, hs2, unhide HCAR, HS'⟩
        case measure => simp [intOf]; omega)
    · obtain ⟨h1, h2, h3, h4, h6, h5⟩ := unhide HS
      obtain ⟨va, vn, vc, rfl⟩ := h1.slice
      have hvn := h1.len
      obtain rfl : c = 0 := by omega
      have hxn := unhide HN
      have hyn := unhide HN'
      have hA : n ≤ i := by omega
      have hB : n' ≤ i := by omega
      rw [List.take_of_length_le (by omega), List.take_of_length_le (by omega), Nat.mul_zero, Nat.add_zero] at h4
      have hno := plus_norm h2 hxn hyn hA hB hM2' h3 hN hN' h4 h6 hi
      have HP := hide (show PlusTo w.heap.size M (Pl.val xs + Pl.val ys) (.returned (.slice va vn vc)) wr from ⟨va, vn, vc, zs, rfl, by omega, by omega, h1, h3, hno, h4⟩)
      have HB := hide h5
      clear h1 h2 h3 h4 h5 h6 hno hxn hyn hM2' HS hic hgo hvn
      go_wp2
      go_ret
      exact ⟨unhide HP, unhide HB⟩

end Go.Proofs.Ytkpbgjgebjcfeaa
