/- The call nat.takeTimes takes a row of limbs times a limb from a row that is one limb longer, in place, and tells whether that went below nought. -/
import Derived.Test.YtkpbgjgebjcfeaaBase
import Derived.Test.YtkpbgjgebjcfeaaPlainB
namespace Go.Proofs.Ytkpbgjgebjcfeaa
open Go.RowKit

/-- One step: what is taken, what is borrowed. -/
theorem tt_step {o p c d f s B y t hi lo r bo : Nat} (B' : Nat) (hB : B' = B * 4294967296) (h : o + f * p = d + B * c) (ht : t = c + s * f) (e : t = 4294967296 * hi + lo) (hr : r + lo = y + 4294967296 * bo) :
    (o + B * r) + f * (p + B * s) = (d + B * y) + B' * (hi + bo) := by
  subst hB
  have e1 : B * t = B * 4294967296 * hi + B * lo := by rw [e, Nat.mul_add, Nat.mul_assoc]
  have e2 : B * t = B * c + f * (B * s) := by rw [ht, Nat.mul_add]; congr 1; rw [Nat.mul_comm s f, Nat.mul_left_comm]
  have e3 : B * (r + lo) = B * (y + 4294967296 * bo) := by rw [hr]
  rw [Nat.mul_add, Nat.mul_add, ← Nat.mul_assoc] at e3
  rw [Nat.mul_add, Nat.mul_add]
  omega
theorem tt_bound {c f s hi lo : Nat} (hc : c ≤ f) (hs : s < 4294967296) (e : c + s * f = 4294967296 * hi + lo) (hl : lo < 4294967296) : hi ≤ f ∧ (hi = f → lo = 0) := by
  have h1 : s * f ≤ 4294967295 * f := Nat.mul_le_mul_right _ (by omega)
  constructor <;> omega

theorem tt_end {o v d c B B' r y bo : Nat} (hB : B' = B * 4294967296) (h : o + v = d + B * c) (e : r + c = y + 4294967296 * bo) : o + B * r + v = d + B * y + B' * bo := by
  subst hB
  have e3 : B * (r + c) = B * (y + 4294967296 * bo) := by rw [e]
  rw [Nat.mul_add, Nat.mul_add, ← Nat.mul_assoc] at e3
  omega

/-- What takeTimes leaves. -/
def TakeTo (B : Nat) (pre post d xs : List Nat) (f n : Nat) (w : World) (e : Ending) (w' : World) : Prop :=
  ∃ (out : List Nat) (bo : Bool), e = .returned (.bool bo) ∧ out.length = n + 1 ∧ Pl.Wf out ∧ Pl.val out + f * Pl.val xs = Pl.val d + 4294967296 ^ (n + 1) * bo.toNat ∧ Row w' B (pre ++ out ++ post) ∧ Only B w w'

theorem tt_e2 (y t : Nat) (hy : y < 4294967296) (h : (y : Int) < (t : Int) % 4294967296) : ((y : Int) - (t : Int)) % 4294967296 = ((y + 4294967296 - t % 4294967296 : Nat) : Int) := by omega
theorem tt_e3 (y c : Nat) (hc : c < 4294967296) (h : (y : Int) < (c : Int)) : ((y : Int) - (c : Int)) % 4294967296 = ((y + 4294967296 - c : Nat) : Int) := by omega

set_option maxHeartbeats 400000 in
theorem takeTimes_any (B p n b off cap cap' f : Nat) (pre d post xs : List Nat) (w : World) (hp : Hid (pre.length = p)) (hd : Hid (d.length = n + 1)) (hx : Hid (xs.length = n)) (hlen : n ≤ 20000) (hne : b ≠ B) (hf : f < 4294967296)
    (wd : Pl.Wf d) (wx : Pl.Wf xs) (hrow : Row w B (pre ++ d ++ post))
    (hc : ∀ j, j < n → w.cell? ⟨b, off + j, none⟩ = some (.int .u32 ((xs[j]?.getD 0 : Nat) : Int))) :
    Calls Try.prog 94 #[.slice (some ⟨B, p, none⟩) (n + 1) cap, .slice (some ⟨b, off, none⟩) n cap', .int .u32 (f : Int)] w
      (TakeTo B pre post d xs f n w) := by
  go_enter Try.func94, Try.ntmps94
  go_wp2
  go_loopw [7, 15] (fun t i wr => ∃ (k c : Nat) (out : List Nat), k ≤ n ∧ i = .int .i64 k ∧ t = .int .u64 (c : Int) ∧ c ≤ f ∧ out.length = k ∧ Pl.Wf out ∧
      Pl.val out + f * Pl.val (xs.take k) = Pl.val (d.take k) + 4294967296 ^ k * c ∧ Row wr B (pre ++ (out ++ d.drop k) ++ post) ∧ Only B w wr) (fun _ i _ => n - (intOf i).toNat)
  case atStart => exact ⟨0, 0, [], Nat.zero_le _, rfl, rfl, by omega, rfl, Pl.wf_nil, by simp [Pl.val], by simpa using hrow, Only.refl _ _⟩
  case round =>
    obtain ⟨k, c, out, hk, rfl, rfl, hcl, hol, how, hval, hr, honly⟩ := hrel
    have HVal := hide hval
    clear hval
    have hpl := unhide hp
    have hdl := unhide hd
    have hxl := unhide hx
    obtain ⟨y, hy⟩ : ∃ y, y = d[k]?.getD 0 := ⟨_, rfl⟩
    have hy1 : y < 4294967296 := by rw [hy]; exact Pl.wf_at wd k
    have hcd : wr.cell? ⟨B, p + k, none⟩ = some (.int .u32 (y : Int)) := by
      rw [hr.cell (p + k) (by simp; omega), ← hpl, at_mid _ _ _ _ _ hol (by omega), hy]
    have hfz : wr.frozen? ⟨B, p + k, none⟩ = false := hr.frozen _
    have HR : Hid (∀ v, Row (wr.setCell ⟨B, p + k, none⟩ (.int .u32 ((v : Nat) : Int))) B (pre ++ ((out ++ [v]) ++ d.drop (k + 1)) ++ post)) := fun v => by
      have := hr.set (p + k) v (by simp; omega)
      rw [← hpl] at this ⊢
      rwa [set_mid _ _ _ _ _ _ hol (by omega)] at this
    by_cases hlt : k < n
    · obtain ⟨x, hxx⟩ : ∃ x, x = xs[k]?.getD 0 := ⟨_, rfl⟩
      have hx1 : x < 4294967296 := by rw [hxx]; exact Pl.wf_at wx k
      have hcx : wr.cell? ⟨b, off + k, none⟩ = some (.int .u32 (x : Int)) := by rw [hxx]; exact (honly.cell (by exact hne)).trans (hc k hlt)
      obtain ⟨t, ht⟩ : ∃ t, t = c + x * f := ⟨_, rfl⟩
      have hm0 := mul_lo x f
      have hm1 := mul_hi hx1 hf
      have hti : (c : Int) + (x : Int) * (f : Int) = (t : Int) := by rw [ht]; push_cast; rfl
      have ht1 : t < 18446744073709551616 := by omega
      have hb2 := tt_bound hcl hx1 (by rw [← ht]; exact (Nat.div_add_mod t 4294967296).symm) (Nat.mod_lt _ (by decide))
      have HV : Hid (∀ r bo, r + t % 4294967296 = y + 4294967296 * bo → Pl.val (out ++ [r]) + f * Pl.val (xs.take (k + 1)) = Pl.val (d.take (k + 1)) + 4294967296 ^ (k + 1) * (t / 4294967296 + bo)) := fun r bo e => by
        rw [Pl.val_append, Pl.val_one, hol, Pl.val_take_any d k, Pl.val_take_any xs k, ← hy, ← hxx]
        exact tt_step _ (Nat.pow_succ ..) (unhide HVal) ht (Nat.div_add_mod t 4294967296).symm e
      clear HVal hy hxx hr hpl hdl hxl hc ht
      by_cases hbo : y < t % 4294967296
      · have hbi : (y : Int) < (t : Int) % 4294967296 := by omega
        clear hbo
        go_wp2
        go_roundw
        case rel =>
          have e1 : (t : Int) / 4294967296 + 1 = ((t / 4294967296 + 1 : Nat) : Int) := by omega
          have e2 := tt_e2 y t hy1 hbi
          rw [e1, e2]
          exact ⟨k + 1, t / 4294967296 + 1, out ++ [y + 4294967296 - t % 4294967296], by omega, by go_num, rfl, by omega, by simp [hol], Pl.wf_append how (Pl.wf_one (by omega)), unhide HV _ 1 (by omega), unhide HR _, honly.setCell _ _⟩
        case measure => simp [intOf]; omega
      · have hbi : (t : Int) % 4294967296 ≤ (y : Int) := by omega
        clear hbo
        go_wp2
        go_roundw
        case rel =>
          have e1 : (t : Int) / 4294967296 = ((t / 4294967296 : Nat) : Int) := by omega
          have e2 : (y : Int) - (t : Int) % 4294967296 = ((y - t % 4294967296 : Nat) : Int) := by omega
          rw [e1, e2]
          exact ⟨k + 1, t / 4294967296, out ++ [y - t % 4294967296], by omega, by go_num, rfl, hb2.1, by simp [hol], Pl.wf_append how (Pl.wf_one (by omega)), unhide HV _ 0 (by omega), unhide HR _, honly.setCell _ _⟩
        case measure => simp [intOf]; omega
    · have hke : k = n := by omega
      subst hke
      have hxt : xs.take k = xs := List.take_of_length_le (by omega)
      have hdt : d.take (k + 1) = d := List.take_of_length_le (by omega)
      have HV : Hid (∀ r (bo : Bool), r + c = y + 4294967296 * bo.toNat → Pl.val (out ++ [r]) + f * Pl.val xs = Pl.val d + 4294967296 ^ (k + 1) * bo.toNat) := fun r bo e => by
        have hd2 : Pl.val d = Pl.val (d.take k) + 4294967296 ^ k * y := by
          have := Pl.val_take_any d k
          rw [hdt, ← hy] at this
          exact this
        rw [Pl.val_append, Pl.val_one, hol, hd2]
        have hval := unhide HVal
        rw [hxt] at hval
        exact tt_end (Nat.pow_succ ..) hval e
      have HD : Hid (d.drop (k + 1) = []) := List.drop_eq_nil_of_le (by omega)
      clear HVal hy hr hpl hdl hxl hc hxt hdt
      by_cases hbo : y < c
      · have hbi : (y : Int) < (c : Int) := by omega
        clear hbo
        go_wp2
        go_ret
        have e2 := tt_e3 y c (by omega) hbi
        rw [e2]
        have hR := unhide HR (y + 4294967296 - c)
        rw [unhide HD, List.append_nil] at hR
        exact ⟨out ++ [y + 4294967296 - c], true, rfl, by simp [hol], Pl.wf_append how (Pl.wf_one (by omega)), unhide HV _ true (by simp; omega), hR, honly.setCell _ _⟩
      · have hbi : ¬ (y : Int) < (c : Int) := by omega
        clear hbo
        go_wp2
        go_ret
        have e2 : (y : Int) - (c : Int) = ((y - c : Nat) : Int) := by omega
        rw [e2]
        have hR := unhide HR (y - c)
        rw [unhide HD, List.append_nil] at hR
        exact ⟨out ++ [y - c], false, rfl, by simp [hol], Pl.wf_append how (Pl.wf_one (by omega)), unhide HV _ false (by simp; omega), hR, honly.setCell _ _⟩

end Go.Proofs.Ytkpbgjgebjcfeaa
