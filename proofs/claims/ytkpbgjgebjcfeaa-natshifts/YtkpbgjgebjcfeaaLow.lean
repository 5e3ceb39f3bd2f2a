/- The calls nat.word and nat.Low: a number of at most 64 bits. -/
import Derived.Test.YtkpbgjgebjcfeaaNums
namespace Go.Proofs.Ytkpbgjgebjcfeaa
open Go.RowKit

set_option maxHeartbeats 400000 in
theorem word_some (b off cap n : Nat) (xs : List Nat) (w : World) (hn : Hid (xs.length = n)) (hn2 : n ≤ 2) (hw : Pl.Wf xs)
    (hc : ∀ j, j < n → w.cell? ⟨b, off + j, none⟩ = some (.int .u32 ((xs[j]?.getD 0 : Nat) : Int))) :
    Calls Try.prog 66 #[.slice (some ⟨b, off, none⟩) n cap] w fun e w' => e = .returned (.int .u64 (Pl.val xs : Int)) ∧ w = w' := by
  go_enter Try.func66, Try.ntmps66
  go_wp2
  go_loop [3, 4] (fun r i => ∃ (k acc : Nat), k ≤ n ∧ i = .int .i64 ((k : Int) - 1) ∧ r = .int .u64 (acc : Int) ∧ acc = Pl.val (xs.drop k)) (fun _ i => (intOf i + 1).toNat)
  case atStart => exact ⟨n, 0, Nat.le_refl _, rfl, rfl, by rw [List.drop_eq_nil_of_le (by rw [unhide hn]; omega)]; rfl⟩
  case round =>
    obtain ⟨k, acc, hk, rfl, rfl, hv⟩ := hrel
    by_cases hk0 : k = 0
    · subst hk0
      have HV := hide hv
      clear hv
      go_wp2
      go_ret
      exact ⟨ret_int (by rw [unhide HV, List.drop_zero]), rfl⟩
    · obtain ⟨j, rfl⟩ : ∃ j, k = j + 1 := ⟨k - 1, by omega⟩
      obtain ⟨x, hxx⟩ : ∃ x, x = xs[j]?.getD 0 := ⟨_, rfl⟩
      have hnl := unhide hn
      have hx1 : x < 4294967296 := by rw [hxx]; exact Pl.wf_at hw j
      have hacc : acc < 4294967296 := by
        have h1 := Pl.val_lt (Pl.wf_drop hw (j + 1))
        have h2 : (xs.drop (j + 1)).length ≤ 1 := by rw [List.length_drop]; omega
        have h3 := Pl.pow_le h2
        rw [← hv] at h1
        omega
      have hcx := hc j (by omega)
      rw [← hxx] at hcx
      obtain ⟨t, ht⟩ : ∃ t, t = acc * 4294967296 + x := ⟨_, rfl⟩
      have hor : Go.bits BinOp.or IntKind.u64 ((acc : Int) * 4294967296) (x : Int) = (t : Int) := by rw [or_limb acc x hacc hx1, ht]; omega
      have HT : Hid (t = Pl.val (xs.drop j)) := by
        rw [Pl.drop_cons xs j (by omega), ← hxx]
        show t = x + 4294967296 * Pl.val (xs.drop (j + 1))
        rw [← hv, ht]; omega
      clear hxx ht hv hnl hc
      go_wp2
      go_round
      case rel => exact ⟨j, t, by omega, rfl, rfl, unhide HT⟩
      case measure => simp [intOf]

theorem word_any (a : Option Addr) (n cap m : Nat) (w : World) (h : Num w a n m) (hn2 : n ≤ 2) :
    Calls Try.prog 66 #[.slice a n cap] w fun e w' => e = .returned (.int .u64 (m : Int)) ∧ w = w' := by
  obtain ⟨xs, hn, hl, hw, hN, hv, hb⟩ := h
  rcases hl.parts with hx | ⟨hp, b, off, rfl, hlt, hc⟩
  · have hn0 : n = 0 := by rw [← hn, hx]; rfl
    have hm0 : m = 0 := by rw [← hv, hx]; rfl
    subst hn0 hm0
    clear hn hv hl hw hN hb hx
    go_enter Try.func66, Try.ntmps66
    go_wp2
    refine wp_loop_rounds 1 ?_
    rw [rounds_succ]
    go_wp2
    go_ret
    exact ⟨rfl, rfl⟩
  · rw [← hv]
    exact word_some b off cap n xs w (hide hn) hn2 hw (fun j hj => hc j (by omega))

set_option maxHeartbeats 400000 in
/-- Low of a number of at most two limbs. -/
theorem low_small (a : Option Addr) (n cap m : Nat) (w : World) (h : Num w a n m) (hn2 : n ≤ 2) :
    Calls Try.prog 34 #[.agg #[.slice a n cap]] w fun e w' => e = .returned (.tuple #[.int .u64 (m : Int), .bool true]) ∧ Below w.heap.size w w' := by
  have H := hide h
  obtain ⟨xs, hn, hl, hw, hN, hv, hb⟩ := h
  have hck := check_any a cap xs (w.alloc (.cells #[.slice a n cap] 24)) (by omega) (hl.alloc _)
  rw [hn, chk_ok (by omega) hN] at hck
  have HK := hide hck
  clear hck hl hn hv
  go_enter Try.func34, Try.ntmps34
  go_wp2_with fail
  refine (unhide HK).mono ?_
  rintro e w1 ⟨rfl, hb1⟩
  obtain ⟨hc1, hf1⟩ := bcell hb1
  go_wp2_with fail
  refine (word_any a n cap m w1 (((unhide H).alloc _).kept hb1) hn2).mono ?_
  rintro e w2 ⟨rfl, rfl⟩
  go_wp2
  go_ret2
  exact ⟨rfl, gr_trans (gr_alloc _ _) hb1⟩

end Go.Proofs.Ytkpbgjgebjcfeaa
