/- The document's own over: a list over a small number, and what is left. -/
import Derived.Test.YtkpbgjgebjcfeaaRefMul
import Derived.Test.YtkpbgjgebjcfeaaDivLimb
namespace Go.Proofs.Ytkpbgjgebjcfeaa
open Go.RowKit

/-- What over answers. -/
def OverTo (base n d V : Nat) (e : Ending) (w' : World) : Prop :=
  ∃ (k : Nat) (qs : List Nat), e = .returned (.tuple #[.slice (some ⟨base, 0, none⟩) k n, .int .u64 ((V % d : Nat) : Int)]) ∧ k ≤ n ∧ qs.length = k ∧ Own w' base (.slice (some ⟨base, 0, none⟩) k n) qs ∧ Pl.Wf qs ∧ Pl.Norm qs ∧ Pl.val qs = V / d

set_option maxHeartbeats 400000 in
theorem rover_some (b off cap d n : Nat) (xs : List Nat) (w : World) (hn : Hid (xs.length = n)) (hlen : n ≤ 16384) (hd : 0 < d) (hd2 : d < 4294967296) (hx : Pl.Wf xs) (hlt : b < w.heap.size)
    (hc : ∀ j, j < n → w.cell? ⟨b, off + j, none⟩ = some (.int .u32 ((xs[j]?.getD 0 : Nat) : Int))) :
    Calls Try.prog 71 #[.slice (some ⟨b, off, none⟩) n cap, .int .u64 (d : Int)] w
      fun e w' => OverTo w.heap.size n d (Pl.val xs) e w' ∧ Below w.heap.size w w' := by
  have hmk := make_limbs (n : Int) n rfl (by omega)
  go_enter Try.func71, Try.ntmps71
  go_wp2
  clear hmk
  go_loopw [7, 8] (fun r i wr => ∃ (k rr : Nat) (qs : List Nat), k ≤ n ∧ i = .int .i64 ((k : Int) - 1) ∧ r = .int .u64 (rr : Int) ∧ rr < d ∧ qs.length = n - k ∧ Pl.Wf qs ∧ Pl.val (xs.drop k) = Pl.val qs * d + rr ∧
      Row wr w.heap.size (List.replicate k 0 ++ qs) ∧ Below w.heap.size w wr) (fun _ i _ => (intOf i + 1).toNat)
  case atStart =>
    refine ⟨n, 0, [], Nat.le_refl _, rfl, rfl, hd, by simp, Pl.wf_nil, ?_, ?_, gr_alloc _ _⟩
    · rw [List.drop_eq_nil_of_le (by rw [unhide hn]; omega)]; simp [Pl.val]
    · rw [List.append_nil]; exact Row.made _ _
  case round =>
    obtain ⟨k, rr, qs, hk, rfl, rfl, hrd, hql, hqw, hv, hrow, hbel⟩ := hrel
    by_cases hk0 : k = 0
    · subst hk0
      have hv2 := hv
      rw [List.drop_zero] at hv2
      have hr2 : Row wr w.heap.size qs := by simpa using hrow
      have hm : Pl.val xs % d = rr := by rw [hv2, Nat.mul_comm, Nat.mul_add_mod]; exact Nat.mod_eq_of_lt hrd
      have hq : Pl.val xs / d = Pl.val qs := by rw [hv2, Nat.mul_comm, Nat.mul_add_div hd, Nat.div_eq_of_lt hrd, Nat.add_zero]
      have HM := hide hm
      have HQ := hide hq
      clear hm hq hv hv2 hrow
      go_wp2_with fail
      refine (rtrim_at w.heap.size 0 n n qs wr (by omega) (Nat.le_refl _) (by omega) (fun j hj => by rw [Nat.zero_add]; exact hr2.cell j hj)).mono ?_
      rintro e w1 ⟨rfl, l, hl, h0, h1, rfl⟩
      have hl2 : l ≤ n := by omega
      have HT := hide (rtrim_row (cap := n) hr2 (Nat.le_refl _) (by omega) hqw hl (by omega) hl2 h0 h1)
      clear h0 h1
      go_wp2
      go_ret2
      obtain ⟨t1, t2, t3, t4, t5⟩ := unhide HT
      refine ⟨⟨l, qs.take l, ?_, hl2, t1, t2, t3, t4, by rw [t5, unhide HQ]⟩, hbel⟩
      rw [unhide HM]
      rfl
    · obtain ⟨j, rfl⟩ : ∃ j, k = j + 1 := ⟨k - 1, by omega⟩
      obtain ⟨x, hxx⟩ : ∃ x, x = xs[j]?.getD 0 := ⟨_, rfl⟩
      obtain ⟨t, ht⟩ : ∃ t, t = rr * 4294967296 + x := ⟨_, rfl⟩
      have hx1 : x < 4294967296 := by rw [hxx]; exact Pl.wf_at hx j
      have hcx : wr.cell? ⟨b, off + j, none⟩ = some (.int .u32 (x : Int)) := by rw [hxx]; exact (hbel.cell (by exact hlt)).trans (hc j (by omega))
      have hor : Go.bits BinOp.or IntKind.u64 ((rr : Int) * 4294967296) (x : Int) = (t : Int) := by rw [or_limb rr x (by omega) hx1, ht]; omega
      have hcq := hrow.cell j (by simp; omega)
      have hfq := hrow.frozen j
      have hq1 : t / d < 4294967296 := div_digit hrd hx1 ht
      have hqe : (t : Int) / (d : Int) = ((t / d : Nat) : Int) := (Int.natCast_ediv t d).symm
      have hme : (t : Int) % (d : Int) = ((t % d : Nat) : Int) := (Int.natCast_emod t d).symm
      have hq1i : (t : Int) / (d : Int) < 4294967296 := by rw [hqe]; omega
      have hq0i : (0 : Int) ≤ (t : Int) / (d : Int) := by rw [hqe]; exact Int.natCast_nonneg _
      have HQE := hide hqe
      have HME := hide hme
      have hm1 : t % d < d := Nat.mod_lt _ hd
      have hnl := unhide hn
      have HV : Hid (Pl.val (xs.drop j) = (t / d + 4294967296 * Pl.val qs) * d + t % d) := by
        rw [Pl.drop_cons xs j (by omega), ← hxx]; exact div_step hv ht
      have HR := hide (hrow.set j (t / d) (by simp; omega))
      clear hxx ht hv hrow hnl hc hqe hme
      go_wp2
      go_roundw
      case rel =>
        rw [unhide HQE, unhide HME]
        refine ⟨j, t % d, t / d :: qs, by omega, rfl, rfl, hm1, by simp; omega, Pl.wf_cons hq1 hqw, unhide HV, ?_, hbel.setCell (Nat.le_refl _) _⟩
        have h := unhide HR
        have e := set_rep j (t / d) qs []
        simp only [List.append_nil] at e
        rwa [e] at h
      case measure => simp [intOf]

end Go.Proofs.Ytkpbgjgebjcfeaa
