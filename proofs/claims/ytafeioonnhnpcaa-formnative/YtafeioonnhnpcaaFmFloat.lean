/- What the words of Go's floats stand for, by their fields; and how they stand to nought, to the greatest and to the least normal ones. -/
import Derived.Test.YtafeioonnhnpcaaFmFits
namespace Go.Proofs.Ytafeioonnhnpcaa
open Ieee

theorem read_of (f : Format) (b ex fr : Nat) (neg : Bool) (hB : Bt f.exponentBits f.fractionBits b neg ex fr) :
    f.read b = if ex = 0 then .number neg fr f.leastPlace else if ex < 2 ^ f.exponentBits - 1 then .number neg (2 ^ f.fractionBits + fr) (f.leastPlace + (ex - 1 : Nat)) else if fr = 0 then .infinity neg else .nan neg fr := by
  have h1 := hB.fr_lt
  have h2 := hB.ex_lt
  have hw : f.signWeight = 2 ^ (f.fractionBits + f.exponentBits) := by rw [Format.signWeight, Nat.add_comm]
  have hr := hB.rest
  have hs := hB.sign
  have hpos := pow_pos2 f.fractionBits
  unfold Format.read
  simp only [hw, hr, hs, Format.binade, Format.infRung]
  have hneg : (neg.toNat % 2 == 1) = neg := by cases neg <;> rfl
  rw [hneg]
  by_cases h0 : ex = 0
  · subst h0
    rw [Nat.zero_mul, Nat.zero_add, if_pos h1, if_pos rfl]
  · have hge : 2 ^ f.fractionBits ≤ ex * 2 ^ f.fractionBits := Nat.le_mul_of_pos_left _ (by omega)
    rw [if_neg (by omega), if_neg h0]
    have hdiv : (ex * 2 ^ f.fractionBits + fr) / 2 ^ f.fractionBits = ex := by
      rw [Nat.mul_comm, Nat.mul_add_div hpos, Nat.div_eq_of_lt h1, Nat.add_zero]
    have hmod : (ex * 2 ^ f.fractionBits + fr) % 2 ^ f.fractionBits = fr := by
      rw [Nat.mul_comm, Nat.mul_add_mod, Nat.mod_eq_of_lt h1]
    rw [hdiv, hmod]
    by_cases h3 : ex < 2 ^ f.exponentBits - 1
    · have : (ex + 1) * 2 ^ f.fractionBits ≤ (2 ^ f.exponentBits - 1) * 2 ^ f.fractionBits := Nat.mul_le_mul_right _ h3
      rw [Nat.add_mul, Nat.one_mul] at this
      rw [if_pos (by omega), if_pos h3]
    · obtain rfl : ex = 2 ^ f.exponentBits - 1 := by omega
      rw [if_neg (by omega), if_neg h3]
      by_cases h4 : fr = 0
      · subst h4
        rw [if_pos (by omega), if_pos rfl]
      · rw [if_neg (by omega), if_neg h4]
        congr 1
        omega

theorem signed_zero (s : Bool) (k : Nat) : signed s 0 k = 0 := by
  unfold signed; cases s <;> simp [Nat.zero_shiftLeft]
theorem signed_eq (s : Bool) (m k : Nat) : signed s m k = if s then -((m * 2 ^ k : Nat) : Int) else ((m * 2 ^ k : Nat) : Int) := by
  unfold signed; rw [Nat.shiftLeft_eq]
theorem signed_eq_zero (s : Bool) (m k : Nat) : signed s m k = 0 ↔ m = 0 := by
  rw [signed_eq]
  have hp := pow_pos2 k
  constructor
  · intro h
    have : m * 2 ^ k = 0 := by
      generalize m * 2 ^ k = z at h
      cases s <;> simp at h <;> omega
    rcases Nat.mul_eq_zero.1 this with h | h
    · exact h
    · omega
  · rintro rfl; simp
theorem cmp_eq {a b : Int} : compare a b = .eq ↔ a = b := by
  rw [Int.compare_eq_ite_lt] <;> split <;> (try split) <;> simp <;> omega
theorem cmp_lt {a b : Int} : compare a b = .lt ↔ a < b := by
  rw [Int.compare_eq_ite_lt] <;> split <;> (try split) <;> simp <;> omega
theorem cmp_gt {a b : Int} : compare a b = .gt ↔ b < a := by
  rw [Int.compare_eq_ite_lt] <;> split <;> (try split) <;> simp <;> omega

theorem num_not_gt (s : Bool) (m M : Nat) (i j : Int) (hm : m ≤ M) (hij : i ≤ j) : (Datum.number s m i).order (Datum.number false M j) ≠ some .gt := by
  have hmin : min i j = i := by omega
  simp only [Datum.order, hmin, ne_eq, Option.some.injEq, cmp_gt, signed_eq]
  have h1 : M ≤ M * 2 ^ (j - i).toNat := Nat.le_mul_of_pos_right _ (pow_pos2 _)
  have h0 : (i - i).toNat = 0 := by omega
  rw [h0, Nat.pow_zero, Nat.mul_one]
  generalize M * 2 ^ (j - i).toNat = z at h1 ⊢
  cases s <;> simp <;> omega
theorem num_not_lt (s : Bool) (m M : Nat) (i j : Int) (hm : m ≤ M) (hij : i ≤ j) : (Datum.number s m i).order (Datum.number true M j) ≠ some .lt := by
  have hmin : min i j = i := by omega
  simp only [Datum.order, hmin, ne_eq, Option.some.injEq, cmp_lt, signed_eq]
  have h1 : M ≤ M * 2 ^ (j - i).toNat := Nat.le_mul_of_pos_right _ (pow_pos2 _)
  have h0 : (i - i).toNat = 0 := by omega
  rw [h0, Nat.pow_zero, Nat.mul_one]
  generalize M * 2 ^ (j - i).toNat = z at h1 ⊢
  cases s <;> simp <;> omega
theorem num_self (s : Bool) (m : Nat) (i : Int) : (Datum.number s m i).order (Datum.number s m i) = some .eq := by
  simp [Datum.order]
theorem num_zero (s : Bool) (m : Nat) (i j : Int) : (Datum.number s m i).order (Datum.number false 0 j) = some .eq ↔ m = 0 := by
  simp only [Datum.order, Option.some.injEq, cmp_eq, signed_zero, signed_eq_zero]
theorem num_small (m M : Nat) (i j : Int) (hij : j ≤ i) : (Datum.number false m i).order (Datum.number false M j) = some .lt ↔ m * 2 ^ (i - j).toNat < M := by
  have hmin : min i j = j := by omega
  have h0 : (j - j).toNat = 0 := by omega
  simp only [Datum.order, hmin, Option.some.injEq, cmp_lt, signed_eq, h0, Nat.pow_zero, Nat.mul_one]
  generalize m * 2 ^ (i - j).toNat = z
  simp

/-- The four ways in which a word of a form shows its class, by Go's own comparisons. -/
theorem class_shows (f : Format) (b ex fr : Nat) (neg : Bool) (hE : 2 ≤ f.exponentBits) (hF : 1 ≤ f.fractionBits) (hB : Bt f.exponentBits f.fractionBits b neg ex fr) (c : Nat) (hc : c = cls ex fr (2 ^ f.exponentBits - 1)) :
    (f.order b b == some .eq) = !decide (c = 5) ∧ (f.order b 0 == some .eq) = decide (c = 1) ∧
    ((f.order b (f.infRung - 1) == some .gt) || (f.order b (f.signWeight + (f.infRung - 1)) == some .lt)) = decide (c = 4) ∧
    (f.order (b % f.signWeight) f.binade == some .lt) = decide (c = 1 ∨ c = 2) := by
  have he := pow_bound hE
  have hf := pow_bound hF
  have hx := hB.ex_lt
  have hy := hB.fr_lt
  have hrest := hB.rest
  have hw : f.signWeight = 2 ^ (f.fractionBits + f.exponentBits) := by rw [Format.signWeight, Nat.add_comm]
  obtain ⟨q, hq⟩ : ∃ q, 2 ^ f.exponentBits = q + 2 := ⟨2 ^ f.exponentBits - 2, by omega⟩
  obtain ⟨P, hP⟩ : ∃ P, 2 ^ f.fractionBits = P := ⟨_, rfl⟩
  have hqP : (q + 1) * P = q * P + P := Nat.succ_mul q P
  have mk : ∀ (ng : Bool) (ex fr b : Nat), ex < q + 2 → fr < P → b = ng.toNat * f.signWeight + (ex * P + fr) → Bt f.exponentBits f.fractionBits b ng ex fr :=
    fun ng ex fr b h1 h2 h3 => ⟨by rw [hP]; exact h2, by rw [hq]; exact h1, by rw [← hw, hP]; exact h3⟩
  have hinf : f.infRung - 1 = q * P + (P - 1) := by
    rw [Format.infRung, Format.binade, hq, hP, show q + 2 - 1 = q + 1 from rfl, hqP]; omega
  have rz := read_of f 0 0 0 false (mk false 0 0 0 (by omega) (by omega) (by simp))
  have rm := read_of f (f.infRung - 1) q (P - 1) false (mk false q (P - 1) _ (by omega) (by omega) (by rw [hinf]; simp))
  have rn := read_of f (f.signWeight + (f.infRung - 1)) q (P - 1) true (mk true q (P - 1) _ (by omega) (by omega) (by rw [hinf]; simp))
  have rs := read_of f f.binade 1 0 false (mk false 1 0 _ (by omega) (by omega) (by rw [Format.binade, hP]; simp))
  have rb := read_of f b ex fr neg hB
  have ra := read_of f (b % f.signWeight) ex fr false (mk false ex fr _ (by omega) (by omega) (by rw [hw, hrest, hP]; simp))
  rw [if_pos rfl] at rz
  rw [if_neg (by omega), if_pos (by omega), hP] at rm rn
  rw [if_neg (by omega), if_pos (by omega), hP, Nat.add_zero, show ((1 - 1 : Nat) : Int) = 0 from rfl, Int.add_zero] at rs
  rw [hP] at rb ra hy
  rw [hq] at rb ra hx hc
  have ht : q + 2 - 1 = q + 1 := rfl
  rw [ht] at rb ra hc
  unfold Format.order
  rw [rz, rm, rn, rs, rb, ra]
  by_cases h0 : ex = 0
  · subst h0
    simp only [if_true]
    have g1 := num_not_gt neg fr (P + (P - 1)) f.leastPlace (f.leastPlace + ((q - 1 : Nat) : Int)) (by omega) (by omega)
    have g2 := num_not_lt neg fr (P + (P - 1)) f.leastPlace (f.leastPlace + ((q - 1 : Nat) : Int)) (by omega) (by omega)
    have g3 := num_zero neg fr f.leastPlace f.leastPlace
    have g4 := num_small fr P f.leastPlace f.leastPlace (by omega)
    have e0 : (f.leastPlace - f.leastPlace).toNat = 0 := by omega
    rw [e0, Nat.pow_zero, Nat.mul_one] at g4
    rw [num_self]
    by_cases h1 : fr = 0
    · have hc1 : c = 1 := by rw [hc, cls, if_pos ⟨rfl, h1⟩]
      refine ⟨by simp [hc1], ?_, ?_, ?_⟩
      · rw [g3.2 h1]; simp [hc1]
      · simp [g1, g2, hc1]
      · rw [g4.2 (by omega)]; simp [hc1]
    · have hc1 : c = 2 := by rw [hc, cls, if_neg (fun h => h1 h.2), if_pos rfl]
      have g5 : (Datum.number neg fr f.leastPlace).order (Datum.number false 0 f.leastPlace) ≠ some .eq := fun h => h1 (g3.1 h)
      refine ⟨by simp [hc1], ?_, ?_, ?_⟩
      · simp [g5, hc1]
      · simp [g1, g2, hc1]
      · rw [g4.2 (by omega)]; simp [hc1]
  · simp only [if_neg h0]
    by_cases h1 : ex < q + 1
    · simp only [if_pos h1]
      have hc1 : c = 3 := by rw [hc, cls, if_neg (fun h => h0 h.1), if_neg h0, if_pos h1]
      have g1 := num_not_gt neg (P + fr) (P + (P - 1)) (f.leastPlace + ((ex - 1 : Nat) : Int)) (f.leastPlace + ((q - 1 : Nat) : Int)) (by omega) (by omega)
      have g2 := num_not_lt neg (P + fr) (P + (P - 1)) (f.leastPlace + ((ex - 1 : Nat) : Int)) (f.leastPlace + ((q - 1 : Nat) : Int)) (by omega) (by omega)
      have g3 : (Datum.number neg (P + fr) (f.leastPlace + ((ex - 1 : Nat) : Int))).order (Datum.number false 0 f.leastPlace) ≠ some .eq := fun h => (show P + fr ≠ 0 by omega) ((num_zero neg (P + fr) (f.leastPlace + ((ex - 1 : Nat) : Int)) f.leastPlace).1 h)
      have g4 := num_small (P + fr) P (f.leastPlace + ((ex - 1 : Nat) : Int)) f.leastPlace (by omega)
      have g5 : ¬ (P + fr) * 2 ^ ((f.leastPlace + ((ex - 1 : Nat) : Int)) - f.leastPlace).toNat < P := by
        have : P + fr ≤ (P + fr) * 2 ^ ((f.leastPlace + ((ex - 1 : Nat) : Int)) - f.leastPlace).toNat := Nat.le_mul_of_pos_right _ (pow_pos2 _)
        omega
      have g6 : (Datum.number false (P + fr) (f.leastPlace + ((ex - 1 : Nat) : Int))).order (Datum.number false P f.leastPlace) ≠ some .lt := fun h => g5 (g4.1 h)
      rw [num_self]
      refine ⟨by simp [hc1], ?_, ?_, ?_⟩
      · simp [g3, hc1]
      · simp [g1, g2, hc1]
      · simp [g6, hc1]
    · simp only [if_neg h1]
      by_cases h2 : fr = 0
      · have hc1 : c = 4 := by rw [hc, cls, if_neg (fun h => h0 h.1), if_neg h0, if_neg h1, if_pos h2]
        simp only [if_pos h2]
        cases neg <;> simp [Datum.order, hc1]
      · have hc1 : c = 5 := by rw [hc, cls, if_neg (fun h => h0 h.1), if_neg h0, if_neg h1, if_neg h2]
        simp only [if_neg h2]
        simp [Datum.order, hc1]

end Go.Proofs.Ytafeioonnhnpcaa
