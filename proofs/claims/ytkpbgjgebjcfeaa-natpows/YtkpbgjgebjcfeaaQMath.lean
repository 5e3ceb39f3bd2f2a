/- The mathematics of a quotient's digits: what the highest limbs say of a digit; what is left in the end. -/
import Derived.Test.YtkpbgjgebjcfeaaGuess
namespace Go.Proofs.Ytkpbgjgebjcfeaa

theorem dg_of {K D P top next p2 p1 p0 lD lP : Nat} (hK : 0 < K) (hD : D = lD + K * (next + 4294967296 * top)) (hP : P = lP + K * (p0 + 4294967296 * (p1 + 4294967296 * p2))) (hlP : lP < K)
    (h0 : p0 < 4294967296) (h1 : p1 < 4294967296) (htop : 0 < top) (hnx : next < 4294967296) (hlt : P < 4294967296 * D) (hp2 : p2 ≤ top) : Dg (P / D) top next p2 p1 p0 := by
  have hDpos : 0 < D := by
    have : 0 < K * (next + 4294967296 * top) := Nat.mul_pos hK (by omega)
    omega
  have hPup : P < K * (p0 + 1 + 4294967296 * (p1 + 4294967296 * p2)) := by
    have e : K * (p0 + 1 + 4294967296 * (p1 + 4294967296 * p2)) = K * (p0 + 4294967296 * (p1 + 4294967296 * p2)) + K := by
      rw [show p0 + 1 + 4294967296 * (p1 + 4294967296 * p2) = (p0 + 4294967296 * (p1 + 4294967296 * p2)) + 1 by omega, Nat.mul_add, Nat.mul_one]
    omega
  have hDlow : ∀ g, K * (g * next + 4294967296 * (g * top)) ≤ g * D := fun g => by
    have e : K * (g * next + 4294967296 * (g * top)) = g * (K * (next + 4294967296 * top)) := by
      rw [Nat.mul_left_comm g K, Nat.mul_add g, Nat.mul_left_comm g]
    rw [e]
    exact Nat.mul_le_mul_left g (by omega)
  have hqD : P / D * D ≤ P := Nat.div_mul_le_self P D
  refine ⟨?_, htop, ?_, ?_, ?_⟩
  · exact (Nat.div_lt_iff_lt_mul hDpos).2 hlt
  · by_cases h : P / D * top ≤ p2 * 4294967296 + p1
    · exact h
    · have a1 := hDlow (P / D)
      generalize P / D = q at *
      have a2 : K * (p0 + 1 + 4294967296 * (p1 + 4294967296 * p2)) ≤ K * (q * next + 4294967296 * (q * top)) := Nat.mul_le_mul_left K (by
        generalize q * top = z at *
        generalize q * next = y at *
        omega)
      omega
  · intro g l e hm
    have a1 := hDlow g
    have a2 : K * (p0 + 1 + 4294967296 * (p1 + 4294967296 * p2)) ≤ K * (g * next + 4294967296 * (g * top)) := Nat.mul_le_mul_left K (by
      generalize g * top = z at *
      generalize g * next = y at *
      omega)
    exact (Nat.div_lt_iff_lt_mul hDpos).2 (by omega)
  · intro g l e hl
    have : g * top < 4294967296 * top := by
      generalize g * top = z at *
      omega
    exact Nat.lt_of_mul_lt_mul_right this

theorem split2 (xs : List Nat) (m : Nat) (h : xs.length = m + 2) : Pl.val xs = Pl.val (xs.take m) + 4294967296 ^ m * (xs[m]?.getD 0 + 4294967296 * xs[m + 1]?.getD 0) := by
  rw [Pl.val_split xs m (by omega), Pl.drop_cons xs m (by omega), Pl.drop_cons xs (m + 1) (by omega), List.drop_eq_nil_of_le (by omega)]
  simp [Pl.val]
theorem split3 (xs : List Nat) (m : Nat) (h : xs.length = m + 3) : Pl.val xs = Pl.val (xs.take m) + 4294967296 ^ m * (xs[m]?.getD 0 + 4294967296 * (xs[m + 1]?.getD 0 + 4294967296 * xs[m + 2]?.getD 0)) := by
  rw [Pl.val_split xs m (by omega), Pl.drop_cons xs m (by omega), Pl.drop_cons xs (m + 1) (by omega), Pl.drop_cons xs (m + 2) (by omega), List.drop_eq_nil_of_le (by omega)]
  simp [Pl.val]
theorem low_pow {xs : List Nat} (w : Pl.Wf xs) (m : Nat) (h : m ≤ xs.length) : Pl.val (xs.take m) < 4294967296 ^ m := by
  have := Pl.val_lt (Pl.wf_take w m)
  rwa [List.length_take, Nat.min_eq_left h] at this

theorem top_le {K D T t p l : Nat} (hD : D < K * (t + 1)) (hT : T = l + K * p) (hlt : T < D) : p ≤ t := by
  by_cases h : p ≤ t
  · exact h
  · have : K * (t + 1) ≤ K * p := Nat.mul_le_mul_left K (by omega)
    omega

/-- The digit, from the limbs: rs < the divisor, z the next limb. -/
theorem dg_limbs {m z : Nat} {xs rs : List Nat} (hx : xs.length = m + 2) (hr : rs.length = m + 2) (wx : Pl.Wf xs) (wr : Pl.Wf rs) (hz : z < 4294967296) (ht : xs[m + 1]?.getD 0 ≠ 0) (hlt : Pl.val rs < Pl.val xs) :
    Dg (Pl.val (z :: rs) / Pl.val xs) (xs[m + 1]?.getD 0) (xs[m]?.getD 0) ((z :: rs)[m + 2]?.getD 0) ((z :: rs)[m + 1]?.getD 0) ((z :: rs)[m]?.getD 0) := by
  have wd : Pl.Wf (z :: rs) := Pl.wf_cons hz wr
  refine dg_of (K := 4294967296 ^ m) (Nat.pow_pos (by decide)) (split2 xs m hx) (split3 (z :: rs) m (by simp [hr])) (low_pow wd m (by simp [hr]; omega)) (Pl.wf_at wd _) (Pl.wf_at wd _) (by omega) (Pl.wf_at wx _) ?_ ?_
  · show z + 4294967296 * Pl.val rs < 4294967296 * Pl.val xs
    omega
  · rw [List.getElem?_cons_succ]
    have e1 := split2 rs m hr
    have e2 := split2 xs m hx
    have l1 := low_pow wx m (by omega)
    have n1 : xs[m]?.getD 0 < 4294967296 := Pl.wf_at wx m
    refine top_le (K := 4294967296 ^ m * 4294967296) (l := Pl.val (rs.take m) + 4294967296 ^ m * rs[m]?.getD 0) ?_ ?_ hlt
    · rw [e2]
      exact top_bound l1 n1
    · rw [e1, Nat.mul_add, ← Nat.mul_assoc, ← Nat.add_assoc]
where
  top_bound {K l n t : Nat} (hl : l < K) (hn : n < 4294967296) : l + K * (n + 4294967296 * t) < K * 4294967296 * (t + 1) := by
    have : K * (n + 1) ≤ K * 4294967296 := Nat.mul_le_mul_left K hn
    rw [Nat.mul_add, Nat.mul_add, ← Nat.mul_assoc, Nat.mul_one]
    rw [Nat.mul_add, Nat.mul_one] at this
    omega

/-- Not below nought: the digit is right, and what is left is the remainder. -/
theorem q_done {V g P D : Nat} (hD : 0 < D) (h : V + g * D = P) (hq : P / D ≤ g) : g = P / D ∧ V < D := by
  have h1 : g * D ≤ P := by omega
  have h2 : g ≤ P / D := (Nat.le_div_iff_mul_le hD).2 h1
  have h3 : g = P / D := by omega
  refine ⟨h3, ?_⟩
  have h4 := Nat.lt_div_mul_add hD (a := P)
  rw [← h3] at h4
  omega
/-- Below nought: the digit is too great. -/
theorem q_more {V g P D M : Nat} (hV : V < M) (h : V + g * D = P + M) : P / D < g := by
  have hD : 0 < D := by
    cases D with
    | zero => simp at h; omega
    | succ D => omega
  rw [Nat.div_lt_iff_lt_mul hD]
  omega
/-- One divisor is put back. -/
theorem q_back {V V' g P D M c : Nat} (h : V + (g + 1) * D = P + M * 1) (ha : V' + M * c = V + D) (hc : c ≤ 1) : V' + g * D = P + M * (1 - c) := by
  rw [Nat.add_mul, Nat.one_mul] at h
  rcases Nat.le_one_iff_eq_zero_or_eq_one.1 hc with rfl | rfl
  · simp at ha ⊢; omega
  · simp at ha ⊢; omega
/-- The limb above is nought. -/
theorem top_zero {out : List Nat} {n D : Nat} (hl : out.length = n + 1) (h : Pl.val out < D) (hD : D ≤ 4294967296 ^ n) : out = out.take n ++ [0] ∧ Pl.val (out.take n) = Pl.val out := by
  have e := Pl.take_snoc out n (by omega)
  rw [List.take_of_length_le (by omega)] at e
  have hv := Pl.val_take_any out n
  rw [List.take_of_length_le (by omega : out.length ≤ n + 1)] at hv
  have h0 : out[n]?.getD 0 = 0 := by
    cases hz : out[n]?.getD 0 with
    | zero => rfl
    | succ z =>
      rw [hz, Nat.mul_add, Nat.mul_one] at hv
      omega
  rw [h0] at e hv
  exact ⟨e, by simpa using hv.symm⟩

end Go.Proofs.Ytkpbgjgebjcfeaa
