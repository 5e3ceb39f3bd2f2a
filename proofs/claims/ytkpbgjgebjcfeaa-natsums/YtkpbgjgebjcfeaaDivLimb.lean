/- The calls nat.divideByLimb (into a new row) and nat.cutGroup (in place) divide a row of limbs by one limb. -/
import Derived.Test.YtkpbgjgebjcfeaaNums
namespace Go.Proofs.Ytkpbgjgebjcfeaa
open Go.RowKit

theorem div_step {V Q r x d t : Nat} (h : V = Q * d + r) (ht : t = r * 4294967296 + x) : x + 4294967296 * V = (t / d + 4294967296 * Q) * d + t % d := by
  have e := Nat.div_add_mod t d
  have e2 : 4294967296 * V = 4294967296 * (Q * d) + r * 4294967296 := by rw [h, Nat.mul_add, Nat.mul_comm r]
  rw [Nat.add_mul, Nat.mul_assoc, e2, Nat.mul_comm (t / d) d]
  omega
theorem div_digit {r x d t : Nat} (hr : r < d) (hx : x < 4294967296) (ht : t = r * 4294967296 + x) : t / d < 4294967296 := by
  apply Nat.div_lt_of_lt_mul
  have : (r + 1) * 4294967296 ≤ d * 4294967296 := Nat.mul_le_mul_right _ hr
  omega
theorem set_rep (j v : Nat) (qs post : List Nat) : (List.replicate (j + 1) 0 ++ qs ++ post).set j v = List.replicate j 0 ++ (v :: qs) ++ post := by
  rw [List.append_assoc, List.set_append_left _ _ (by simp), List.replicate_succ', List.set_append_right _ _ (by simp)]
  simp

set_option maxHeartbeats 400000 in
theorem divideByLimb_any (b off cap d n : Nat) (xs : List Nat) (w : World) (hn : Hid (xs.length = n)) (hlen : n ≤ 16384) (hd : 0 < d) (hd2 : d < 4294967296) (hx : Pl.Wf xs) (hlt : b < w.heap.size)
    (hc : ∀ j, j < n → w.cell? ⟨b, off + j, none⟩ = some (.int .u32 ((xs[j]?.getD 0 : Nat) : Int))) :
    Calls Try.prog 82 #[.slice (some ⟨b, off, none⟩) n cap, .int .u32 (d : Int)] w
      fun e w' => ∃ (k : Nat) (qs : List Nat), e = .returned (.tuple #[.slice (some ⟨w.heap.size, 0, none⟩) k k, .int .u32 ((Pl.val xs % d : Nat) : Int)]) ∧ k ≤ n ∧ qs.length = k ∧ Own w' w.heap.size (.slice (some ⟨w.heap.size, 0, none⟩) k k) qs ∧ Pl.Wf qs ∧ Pl.Norm qs ∧ Pl.val qs = Pl.val xs / d ∧ Below w.heap.size w w' := by
  have hmk := make_limbs (n : Int) n rfl (by omega)
  go_enter Try.func82, Try.ntmps82
  go_wp2
  clear hmk
  go_loopw [6, 7] (fun r i wr => ∃ (k rr : Nat) (qs : List Nat), k ≤ n ∧ i = .int .i64 ((k : Int) - 1) ∧ r = .int .u64 (rr : Int) ∧ rr < d ∧ qs.length = n - k ∧ Pl.Wf qs ∧ Pl.val (xs.drop k) = Pl.val qs * d + rr ∧
      Row wr w.heap.size (List.replicate k 0 ++ qs) ∧ Below w.heap.size w wr) (fun _ i _ => (intOf i + 1).toNat)
  case atStart =>
    refine ⟨n, 0, [], Nat.le_refl _, rfl, rfl, hd, by simp, Pl.wf_nil, ?_, ?_, gr_alloc _ _⟩
    · rw [List.drop_eq_nil_of_le (by rw [unhide hn]; omega)]; simp [Pl.val]
    · rw [List.append_nil]; exact Row.made _ _
  case round =>
    obtain ⟨k, rr, qs, hk, rfl, rfl, hrd, hql, hqw, hv, hrow, hbel⟩ := hrel
    by_cases hk0 : k = 0
    · subst hk0
      have hv2 := hv
      rw [List.drop_zero] at hv2
      have hr2 : Row wr w.heap.size qs := by simpa using hrow
      have hm : Pl.val xs % d = rr := by rw [hv2, Nat.mul_comm, Nat.mul_add_mod]; exact Nat.mod_eq_of_lt hrd
      have hq : Pl.val xs / d = Pl.val qs := by rw [hv2, Nat.mul_comm, Nat.mul_add_div hd, Nat.div_eq_of_lt hrd, Nat.add_zero]
      have HM := hide hm
      have HQ := hide hq
      clear hm hq hv hv2 hrow
      go_wp2_with fail
      refine (trim_at w.heap.size 0 n n qs wr (by omega) (Nat.le_refl _) (by omega) (fun j hj => by rw [Nat.zero_add]; exact hr2.cell j hj)).mono ?_
      rintro e w1 ⟨rfl, l, hl, h0, h1, rfl⟩
      have HT := hide (trim_row hr2 (Nat.le_refl _) (by omega) hqw hl h0 h1)
      clear h0 h1
      go_wp2
      go_ret2
      obtain ⟨t1, t2, t3, t4, t5⟩ := unhide HT
      refine ⟨l, qs.take l, ?_, by omega, t1, t2, t3, t4, by rw [t5, unhide HQ], hbel⟩
      rw [unhide HM]
      rfl
    · obtain ⟨j, rfl⟩ : ∃ j, k = j + 1 := ⟨k - 1, by omega⟩
      obtain ⟨x, hxx⟩ : ∃ x, x = xs[j]?.getD 0 := ⟨_, rfl⟩
      obtain ⟨t, ht⟩ : ∃ t, t = rr * 4294967296 + x := ⟨_, rfl⟩
      have hx1 : x < 4294967296 := by rw [hxx]; exact Pl.wf_at hx j
      have hcx : wr.cell? ⟨b, off + j, none⟩ = some (.int .u32 (x : Int)) := by rw [hxx]; exact (hbel.cell (by exact hlt)).trans (hc j (by omega))
      have hor : Go.bits BinOp.or IntKind.u64 ((rr : Int) * 4294967296) (x : Int) = (t : Int) := by rw [or_limb rr x (by omega) hx1, ht]; omega
      have hcq := hrow.cell j (by simp; omega)
      have hfq := hrow.frozen j
      have hq1 : t / d < 4294967296 := div_digit hrd hx1 ht
      have hqe : (t : Int) / (d : Int) = ((t / d : Nat) : Int) := (Int.natCast_ediv t d).symm
      have hme : (t : Int) % (d : Int) = ((t % d : Nat) : Int) := (Int.natCast_emod t d).symm
      have hq1i : (t : Int) / (d : Int) < 4294967296 := by rw [hqe]; omega
      have hq0i : (0 : Int) ≤ (t : Int) / (d : Int) := by rw [hqe]; exact Int.natCast_nonneg _
      have HQE := hide hqe
      have HME := hide hme
      have hm1 : t % d < d := Nat.mod_lt _ hd
      have hnl := unhide hn
      have HV : Hid (Pl.val (xs.drop j) = (t / d + 4294967296 * Pl.val qs) * d + t % d) := by
        rw [Pl.drop_cons xs j (by omega), ← hxx]; exact div_step hv ht
      have HR := hide (hrow.set j (t / d) (by simp; omega))
      clear hxx ht hv hrow hnl hc hqe hme
      go_wp2
      go_roundw
      case rel =>
        rw [unhide HQE, unhide HME]
        refine ⟨j, t % d, t / d :: qs, by omega, rfl, rfl, hm1, by simp; omega, Pl.wf_cons hq1 hqw, unhide HV, ?_, hbel.setCell (Nat.le_refl _) _⟩
        have h := unhide HR
        have e := set_rep j (t / d) qs []
        simp only [List.append_nil] at e
        rwa [e] at h
      case measure => simp [intOf]

set_option maxHeartbeats 400000 in
theorem cutGroup_any (B cap n : Nat) (xs post : List Nat) (w : World) (hn : Hid (xs.length = n)) (hlen : n ≤ 16384) (hx : Pl.Wf xs) (hrow : Row w B (xs ++ post)) :
    Calls Try.prog 70 #[.slice (some ⟨B, 0, none⟩) n cap] w
      fun e w' => ∃ qs : List Nat, e = .returned (.int .u32 ((Pl.val xs % 1000000000 : Nat) : Int)) ∧ qs.length = n ∧ Pl.Wf qs ∧ Pl.val qs = Pl.val xs / 1000000000 ∧ Row w' B (qs ++ post) ∧ Only B w w' := by
  go_enter Try.func70, Try.ntmps70
  go_wp2
  go_loopw [3, 4] (fun r i wr => ∃ (k rr : Nat) (qs : List Nat), k ≤ n ∧ i = .int .i64 ((k : Int) - 1) ∧ r = .int .u64 (rr : Int) ∧ rr < 1000000000 ∧ qs.length = n - k ∧ Pl.Wf qs ∧ Pl.val (xs.drop k) = Pl.val qs * 1000000000 + rr ∧
      Row wr B (xs.take k ++ qs ++ post) ∧ Only B w wr) (fun _ i _ => (intOf i + 1).toNat)
  case atStart =>
    refine ⟨n, 0, [], Nat.le_refl _, rfl, rfl, by omega, by simp, Pl.wf_nil, ?_, ?_, Only.refl _ _⟩
    · rw [List.drop_eq_nil_of_le (by rw [unhide hn]; omega)]; simp [Pl.val]
    · rw [List.take_of_length_le (by rw [unhide hn]; omega), List.append_nil]; exact hrow
  case round =>
    obtain ⟨k, rr, qs, hk, rfl, rfl, hrd, hql, hqw, hv, hrow2, honly⟩ := hrel
    by_cases hk0 : k = 0
    · subst hk0
      have hv2 := hv
      rw [List.drop_zero] at hv2
      have hr2 : Row wr B (qs ++ post) := by simpa using hrow2
      have hm : Pl.val xs % 1000000000 = rr := by omega
      have hq : Pl.val qs = Pl.val xs / 1000000000 := by omega
      have HM := hide hm
      have HQ := hide hq
      clear hm hq hv hv2 hrow2
      go_wp2
      go_ret
      refine ⟨qs, ret_int ?_, by omega, hqw, unhide HQ, hr2, honly⟩
      rw [unhide HM]
    · obtain ⟨j, rfl⟩ : ∃ j, k = j + 1 := ⟨k - 1, by omega⟩
      obtain ⟨x, hxx⟩ : ∃ x, x = xs[j]?.getD 0 := ⟨_, rfl⟩
      obtain ⟨t, ht⟩ : ∃ t, t = rr * 4294967296 + x := ⟨_, rfl⟩
      have hnl := unhide hn
      have hx1 : x < 4294967296 := by rw [hxx]; exact Pl.wf_at hx j
      have htl : (xs.take (j + 1)).length = j + 1 := by rw [List.length_take]; omega
      have htj : (xs.take j).length = j := by rw [List.length_take]; omega
      have hcx : wr.cell? ⟨B, j, none⟩ = some (.int .u32 (x : Int)) := by
        rw [hrow2.cell j (by simp; omega), hxx, List.append_assoc, List.getElem?_append_left (by omega), List.getElem?_take, if_pos (by omega)]
      have hor : Go.bits BinOp.or IntKind.u64 ((rr : Int) * 4294967296) (x : Int) = (t : Int) := by rw [or_limb rr x (by omega) hx1, ht]; omega
      have hfq := hrow2.frozen j
      have hq1 : t / 1000000000 < 4294967296 := div_digit hrd hx1 ht
      have hm1 : t % 1000000000 < 1000000000 := Nat.mod_lt _ (by omega)
      have hq1i : (t : Int) / 1000000000 < 4294967296 := by omega
      have HV : Hid (Pl.val (xs.drop j) = (t / 1000000000 + 4294967296 * Pl.val qs) * 1000000000 + t % 1000000000) := by
        rw [Pl.drop_cons xs j (by omega), ← hxx]; exact div_step hv ht
      have hs := hrow2.set j (t / 1000000000) (by simp; omega)
      have es : (xs.take (j + 1) ++ qs ++ post).set j (t / 1000000000) = xs.take j ++ (t / 1000000000 :: qs) ++ post := by
        rw [Pl.take_snoc xs j (by omega), List.append_assoc, List.append_assoc, List.set_append_right _ _ (by omega), htj, Nat.sub_self]
        simp
      rw [es] at hs
      have HR := hide hs
      clear hxx ht hv hrow2 hnl hs es htl htj
      go_wp2
      go_roundw
      case rel =>
        have e1 : (t : Int) / 1000000000 = ((t / 1000000000 : Nat) : Int) := by omega
        have e2 : (t : Int) % 1000000000 = ((t % 1000000000 : Nat) : Int) := by omega
        rw [e1, e2]
        exact ⟨j, t % 1000000000, t / 1000000000 :: qs, by omega, rfl, rfl, hm1, by simp; omega, Pl.wf_cons hq1 hqw, unhide HV, unhide HR, honly.setCell _ _⟩
      case measure => simp [intOf]

end Go.Proofs.Ytkpbgjgebjcfeaa
