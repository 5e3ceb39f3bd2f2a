/- The document's own less, fits, and cmp of any two lists. -/
import Derived.Test.YtkpbgjgebjcfeaaRefPlus
import Derived.Test.YtkpbgjgebjcfeaaRefMul
import Derived.Test.YtkpbgjgebjcfeaaSame
namespace Go.Proofs.Ytkpbgjgebjcfeaa
open Go.RowKit

theorem less_step {o q p c c' z y x s B : Nat} (h : o + q = p + B * c) (hs : s + y + c = x + 4294967296) (hz : z = s % 4294967296) (hc : c' + s / 4294967296 = 1) : (o + B * z) + (q + B * y) = (p + B * x) + B * 4294967296 * c' := by
  have e0 : z + y + c = x + 4294967296 * c' := by omega
  have e1 : B * z + B * y + B * c = B * x + B * 4294967296 * c' := by rw [← Nat.mul_add, ← Nat.mul_add, e0, Nat.mul_add, Nat.mul_assoc]
  omega
theorem less_end {o q p B c : Nat} (h : o + q = p + B * c) (hc : c ≤ 1) (ho : o < B) (hq : q ≤ p) : o = p - q := by
  rcases Nat.lt_or_ge 0 c with h0 | h0
  · have : c = 1 := by omega
    subst this
    omega
  · have : c = 0 := by omega
    subst this
    omega

/-- What less answers: the difference, trimmed, in a row of its own. -/
def LessTo (base N V : Nat) (e : Ending) (w' : World) : Prop :=
  ∃ a n c zs, e = .returned (.slice a n c) ∧ n ≤ N ∧ zs.length = n ∧ Own w' base (.slice a n c) zs ∧ Pl.Wf zs ∧ Pl.Norm zs ∧ Pl.val zs = V

set_option maxRecDepth 20000 in
set_option maxHeartbeats 2000000 in
theorem rless_list (a a' : Option Addr) (n n' cap cap' : Nat) (xs ys : List Nat) (w : World) (hn : xs.length = n) (hn' : ys.length = n') (hl : Lim w a xs) (hl' : Lim w a' ys) (hw : Pl.Wf xs) (hw' : Pl.Wf ys) (hnn : n' ≤ n) (hM : n ≤ 40000) (hle : Hid (Pl.val ys ≤ Pl.val xs)) :
    Calls Try.prog 86 #[.slice a n cap, .slice a' n' cap'] w fun e w' => LessTo w.heap.size n (Pl.val xs - Pl.val ys) e w' ∧ Below w.heap.size w w' := by
  have HLX := hide (fun (i : Nat) (W : World) (h : Lim W a xs) (hi : i < 9223372036854775808) => rlimb_any a n cap i xs W hn h hw hi)
  have HLY := hide (fun (i : Nat) (W : World) (h : Lim W a' ys) (hi : i < 9223372036854775808) => rlimb_any a' n' cap' i ys W hn' h hw' hi)
  have HL := hide hl
  have HL' := hide hl'
  have HN := hide hn
  have HN' := hide hn'
  have HNN := hide hnn
  clear hl hn hl' hn' hnn
  go_enter Try.func86, Try.ntmps86
  go_wp2
  go_loopw [5, 6, 7] (fun s3 s4 s5 wr => ∃ (i c : Nat) (zs : List Nat), i ≤ n ∧ s5 = .int .i64 (i : Int) ∧ s4 = .int .u64 (c : Int) ∧ c ≤ 1 ∧ Hid (Own wr w.heap.size s3 zs ∧ zs.length = i ∧ Pl.Wf zs ∧ Pl.val zs + Pl.val (ys.take i) = Pl.val (xs.take i) + 4294967296 ^ i * c ∧ Below w.heap.size w wr)) (fun _ _ s5 _ => n - (intOf s5).toNat)
  case atStart => exact ⟨0, 0, [], Nat.zero_le _, rfl, rfl, by omega, hide ⟨Or.inl ⟨rfl, rfl⟩, rfl, Pl.wf_nil, by simp [Pl.val], gr_refl _⟩⟩
  case round =>
    obtain ⟨i, c, zs, hi, rfl, rfl, hc, HS⟩ := hrel
    by_cases hin : i < n
    · obtain ⟨h1, h2, h3, h4, h5⟩ := unhide HS
      obtain ⟨va, vn, vc, rfl⟩ := h1.slice
      have hvn := h1.len
      obtain ⟨x, hxx⟩ : ∃ x, x = xs[i]?.getD 0 := ⟨_, rfl⟩
      obtain ⟨y, hyy⟩ : ∃ y, y = ys[i]?.getD 0 := ⟨_, rfl⟩
      have hx1 : x < 4294967296 := by rw [hxx]; exact Pl.wf_at hw _
      have hy1 : y < 4294967296 := by rw [hyy]; exact Pl.wf_at hw' _
      have L1 := unhide HLX i wr ((unhide HL).below h5) (by omega)
      have L2 := unhide HLY i wr ((unhide HL').below h5) (by omega)
      rw [← hxx] at L1
      rw [← hyy] at L2
      have HL1 := hide L1
      have HL2 := hide L2
      obtain ⟨s, hs⟩ : ∃ s, s + y + c = x + 4294967296 := ⟨x + 4294967296 - y - c, by omega⟩
      have hs1 : s < 8589934592 := by omega
      obtain ⟨v', W', hrun, hO, hap, _⟩ := append_own1 wr w.heap.size vn vc (s % 4294967296) va zs h1 h5.size (by omega)
      have hval : Pl.val (zs ++ [s % 4294967296]) + Pl.val (ys.take (i + 1)) = Pl.val (xs.take (i + 1)) + 4294967296 ^ (i + 1) * (1 - s / 4294967296) := by
        rw [Pl.val_append, Pl.val_one, h2, Nat.pow_succ, Pl.val_take_any xs i, Pl.val_take_any ys i, ← hxx, ← hyy]
        exact less_step h4 hs rfl (by omega)
      have hB' : Below w.heap.size w W' := h5.trans ⟨hap.os, hap.tape, hap.output, hap.size, fun q hq => hap.block q (by have := h5.size; omega) (fun e => by have := h1.lt q e.symm; omega)⟩
      have hsi : (x : Int) + 4294967296 - (y : Int) - (c : Int) = (s : Int) := by omega
      have hs2 : s / 4294967296 ≤ 1 := by omega
      have HS' := hide (show Own W' w.heap.size v' (zs ++ [s % 4294967296]) ∧ (zs ++ [s % 4294967296]).length = i + 1 ∧ Pl.Wf (zs ++ [s % 4294967296]) ∧ _ ∧ Below w.heap.size w W' from ⟨hO, by simp [h2], Pl.wf_append h3 (Pl.wf_one (Nat.mod_lt _ (by decide))), hval, hB'⟩)
      have e2 : (s : Int) % 4294967296 = ((s % 4294967296 : Nat) : Int) := by omega
      rw [← e2] at hrun
      have HSI := hide hsi
      have HRUN := hide hrun
      clear h1 h2 h3 h4 h5 hxx hyy L1 L2 hO hap hval hB' hs HS hrun hvn e2 hsi
      go_wp2_with fail
      refine (unhide HL1).mono ?_
      rintro e w1 ⟨rfl, rfl⟩
      go_wp2_with fail
      refine (unhide HL2).mono ?_
      rintro e w1 ⟨rfl, rfl⟩
      go_wp2_with (at_builtin; rw [unhide HSI]; refine wpList_append_run rfl (.tmp 25) (.tmp 28) 22 rfl (unhide HRUN) ?_)
      go_roundw
      case rel => exact ⟨i + 1, 1 - s / 4294967296, zs ++ [s % 4294967296], by omega, by go_num, by go_num, by omega, HS'⟩
      case measure => simp [intOf]; omega
    · obtain ⟨h1, h2, h3, h4, h5⟩ := unhide HS
      obtain ⟨va, vn, vc, rfl⟩ := h1.slice
      obtain rfl : i = n := by omega
      have hxn := unhide HN
      have hyn := unhide HN'
      have hnn := unhide HNN
      rw [List.take_of_length_le (by omega), List.take_of_length_le (by omega)] at h4
      have hlt := Pl.val_lt h3
      rw [h2] at hlt
      have hv := less_end h4 hc hlt (unhide hle)
      have HT := hide (rtrim_own w.heap.size _ zs wr h1 h3)
      have HV := hide hv
      have HB := hide h5
      have HZ := hide h2
      clear h1 h2 h3 h4 h5 hv hlt hxn hyn hnn HS
      go_wp2_with fail
      refine (unhide HT).mono ?_
      rintro e w1 ⟨rfl, a2, l, c2, ys2, rfl, t1, t2, t3, t4, t5, t6⟩
      have HM := hide (show LessTo w.heap.size i (Pl.val xs - Pl.val ys) (.returned (.slice a2 l c2)) wr from ⟨a2, l, c2, ys2, rfl, by have := unhide HZ; omega, t2, t3, t4, t5, t6.trans (unhide HV)⟩)
      clear t1 t2 t3 t4 t5 t6 HT
      go_wp2
      go_ret
      exact ⟨unhide HM, unhide HB⟩

/-- cmp of any two numbers. -/
theorem rcmp_all (a a' : Option Addr) (n n' cap cap' m m' : Nat) (w : World) (h : Num w a n m) (h' : Num w a' n' m') :
    Calls Try.prog 54 #[.slice a n cap, .slice a' n' cap'] w fun e w' => e = .returned (.int .i64 (cmpI m m')) ∧ Below w.heap.size w w' := by
  by_cases he : n = n'
  · subst he
    exact rcmp_any a a' n cap cap' m m' w h h'
  · obtain ⟨xs, hn, hl, hw, hN, hv, hb⟩ := h
    obtain ⟨ys, hn', hl', hw', hN', hv', hb'⟩ := h'
    have hne : ((n : Int) != (n' : Int)) = true := by simp; omega
    have hne2 : ((n : Int) == (n' : Int)) = false := by simp; omega
    by_cases hlt : n < n'
    · have hc : cmpI m m' = -1 := by rw [← hv, ← hv']; exact cmpI_lt (cmp_len hw hN' (by omega))
      rw [hc]
      clear hc hv hv' hn hn' hl hl' hw hw' hN hN' he
      go_enter Try.func54, Try.ntmps54
      go_wp2
      go_ret
      exact ⟨rfl, gr_refl _⟩
    · have hlt2 : n' < n := by omega
      have hc : cmpI m m' = 1 := by rw [← hv, ← hv']; exact cmpI_gt (cmp_len hw' hN (by omega))
      rw [hc]
      clear hc hv hv' hn hn' hl hl' hw hw' hN hN' he hlt
      go_enter Try.func54, Try.ntmps54
      go_wp2
      go_ret
      exact ⟨rfl, gr_refl _⟩

end Go.Proofs.Ytkpbgjgebjcfeaa
