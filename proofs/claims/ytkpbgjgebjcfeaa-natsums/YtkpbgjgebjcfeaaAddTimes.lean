/- The call nat.addTimes adds a row of limbs times a factor into another row of as many limbs, in place, and answers what is carried beyond. -/
import Derived.Test.YtkpbgjgebjcfeaaBase
namespace Go.Proofs.Ytkpbgjgebjcfeaa
open Go.RowKit

set_option maxHeartbeats 400000 in
theorem addTimes_any (B b off cap cap' f : Nat) (pre d post xs : List Nat) (w : World) (hd : d.length = xs.length) (hlen : xs.length ≤ 1073741824) (hne : b ≠ B)
    (wd : Pl.Wf d) (wx : Pl.Wf xs) (hf : f < 4294967296) (hrow : Row w B (pre ++ d ++ post))
    (hc : ∀ j, j < xs.length → w.cell? ⟨b, off + j, none⟩ = some (.int .u32 ((xs[j]?.getD 0 : Nat) : Int))) :
    Calls Try.prog 87 #[.slice (some ⟨B, pre.length, none⟩) d.length cap, .slice (some ⟨b, off, none⟩) xs.length cap', .int .u32 (f : Int)] w
      fun e w' => ∃ (out : List Nat) (c : Nat), e = .returned (.int .u32 (c : Int)) ∧ out.length = xs.length ∧ Pl.Wf out ∧ c < 4294967296 ∧ Pl.val out + 4294967296 ^ xs.length * c = Pl.val d + f * Pl.val xs ∧ Row w' B (pre ++ out ++ post) ∧ Only B w w' := by
  go_enter Try.func87, Try.ntmps87
  go_wp2
  go_loopw [7, 12] (fun t i wr => ∃ (k c : Nat) (out : List Nat), k ≤ xs.length ∧ i = .int .i64 k ∧ t = .int .u64 (c : Int) ∧ c < 4294967296 ∧ out.length = k ∧ Pl.Wf out ∧
      Pl.val out + 4294967296 ^ k * c = Pl.val (d.take k) + f * Pl.val (xs.take k) ∧ Row wr B (pre ++ (out ++ d.drop k) ++ post) ∧ Only B w wr) (fun _ i _ => xs.length - (intOf i).toNat)
  case atStart => exact ⟨0, 0, [], Nat.zero_le _, rfl, rfl, by omega, rfl, Pl.wf_nil, by simp [Pl.val], by simpa using hrow, Only.refl _ _⟩
  case round =>
    obtain ⟨k, c, out, hk, rfl, rfl, hcl, hol, how, hval, hr, honly⟩ := hrel
    by_cases hlt : k < xs.length
    · obtain ⟨x, hx⟩ : ∃ x, x = xs[k]?.getD 0 := ⟨_, rfl⟩
      obtain ⟨y, hy⟩ : ∃ y, y = d[k]?.getD 0 := ⟨_, rfl⟩
      have hcx : wr.cell? ⟨b, off + k, none⟩ = some (.int .u32 (x : Int)) := by rw [hx]; exact (honly.cell (by exact hne)).trans (hc k hlt)
      have hcd : wr.cell? ⟨B, pre.length + k, none⟩ = some (.int .u32 (y : Int)) := by
        rw [hr.cell (pre.length + k) (by simp; omega), at_mid _ _ _ _ _ hol (by omega), hy]
      have hfz : wr.frozen? ⟨B, pre.length + k, none⟩ = false := hr.frozen _
      have hx1 : x < 4294967296 := by rw [hx]; exact Pl.wf_at wx k
      have hy1 : y < 4294967296 := by rw [hy]; exact Pl.wf_at wd k
      have hm1 := mul_lo x f
      have hm2 := mul_hi hx1 hf
      have HV : Hid (Pl.val out + 4294967296 ^ k * c = Pl.val (d.take k) + f * Pl.val (xs.take k)) := hval
      have HX : Hid (x = xs[k]?.getD 0) := hx
      have HY : Hid (y = d[k]?.getD 0) := hy
      clear hval hx hy
      go_wp2
      have e1 : ((c : Int) + ((x : Int) * (f : Int) + (y : Int))) / 4294967296 = (((c + x * f + y) / 4294967296 : Nat) : Int) := by omega
      have e2 : ((c : Int) + ((x : Int) * (f : Int) + (y : Int))) % 4294967296 = (((c + x * f + y) % 4294967296 : Nat) : Int) := by omega
      have hb : c + x * f + y < 18446744073709551616 := by have : ((x * f : Nat) : Int) = (x : Int) * (f : Int) := Int.natCast_mul _ _; omega
      go_roundw
      case rel =>
        rw [e1, e2]
        refine ⟨k + 1, (c + x * f + y) / 4294967296, out ++ [(c + x * f + y) % 4294967296], by omega, by go_num, rfl, by omega, by simp [hol], Pl.wf_append how (Pl.wf_one (by omega)), ?_, ?_, honly.setCell _ _⟩
        · rw [Pl.val_append, Pl.val_one, hol, Pl.val_take_succ d k (by omega), Pl.val_take_succ xs k hlt, ← HX.out, ← HY.out]
          exact Pl.step_mul _ (Nat.pow_succ ..) HV.out _ _ _ (by omega) y rfl
        · have := hr.set (pre.length + k) ((c + x * f + y) % 4294967296) (by simp; omega)
          rwa [set_mid _ _ _ _ _ _ hol (by omega)] at this
      case measure => simp [intOf]; omega
    · have hke : k = xs.length := by omega
      have HV : Hid (Pl.val out + 4294967296 ^ k * c = Pl.val (d.take k) + f * Pl.val (xs.take k)) := hval
      clear hval
      go_wp2
      go_ret
      refine ⟨out, c, ret_int (by omega), by omega, how, hcl, ?_, ?_, honly⟩
      · have := HV.out
        rw [hke, List.take_of_length_le (by omega), List.take_of_length_le (by omega)] at this
        exact this
      · rw [List.drop_eq_nil_of_le (by omega), List.append_nil] at hr
        exact hr

theorem addTimes_at (B p n b off cap cap' f : Nat) (pre d post xs : List Nat) (w : World) (hp : pre.length = p) (hd : d.length = n) (hx : xs.length = n) (hlen : n ≤ 1073741824) (hne : b ≠ B)
    (wd : Pl.Wf d) (wx : Pl.Wf xs) (hf : f < 4294967296) (hrow : Row w B (pre ++ d ++ post))
    (hc : ∀ j, j < xs.length → w.cell? ⟨b, off + j, none⟩ = some (.int .u32 ((xs[j]?.getD 0 : Nat) : Int))) :
    Calls Try.prog 87 #[.slice (some ⟨B, p, none⟩) n cap, .slice (some ⟨b, off, none⟩) n cap', .int .u32 (f : Int)] w
      fun e w' => ∃ (out : List Nat) (c : Nat), e = .returned (.int .u32 (c : Int)) ∧ out.length = n ∧ Pl.Wf out ∧ c < 4294967296 ∧ Pl.val out + 4294967296 ^ n * c = Pl.val d + f * Pl.val xs ∧ Row w' B (pre ++ out ++ post) ∧ Only B w w' := by
  subst hp
  subst hx
  have h := addTimes_any B b off cap cap' f pre d post xs w hd hlen hne wd wx hf hrow hc
  rw [hd] at h
  exact h

end Go.Proofs.Ytkpbgjgebjcfeaa
