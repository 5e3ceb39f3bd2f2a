/- Of what NearBesideRow stands on: NrCmp NrCall. -/
import Derived.Test.YtkebhccbhoamjaaGreatDoorPaz
import Derived.Test.YtkebhccbhoamjaaGreatDoorPau
import Derived.Test.YtkebhccbhoamjaaGreatDoorPab
namespace Go.Proofs.YtkebhccbhoamjaaGreatDoor
open Go.RowKit
end Go.Proofs.YtkebhccbhoamjaaGreatDoor
namespace Go.Proofs.YtkebhccbhoamjaaGreatDoor
open Go.RowKit
structure Fm (E F S I : Nat) : Prop where
 fo : Fo E F
 hS : S = 2 ^ (F + E)
 hI : I = (2 ^ E - 1) * 2 ^ F
theorem Fm.top {E F S I : Nat} (h : Fm E F S I) : I + 2 ^ F = S := by
 have h1 := h.hS
 have h2 := h.hI
 have h3 := pow_pos2 E
 have h4 : (2 ^ E - 1) * 2 ^ F + 1 * 2 ^ F = 2 ^ E * 2 ^ F := by rw [← Nat.add_mul,Nat.sub_add_cancel h3]
 rw [Nat.add_comm,Nat.pow_add] at h1
 omega
theorem Fm.lt {E F S I : Nat} (h : Fm E F S I) : I < S := by
 have := h.top
 have := pow_pos2 F
 omega
theorem Fm.six {E F S I : Nat} (h : Fm E F S I) : 6 ≤ I := by
 have h1 : 2 ^ 2 ≤ 2 ^ E := pow_bound h.fo.e2
 have h2 : 2 ^ 1 ≤ 2 ^ F := pow_bound h.fo.f1
 rw [h.hI]
 exact Nat.le_trans (by decide : 6 ≤ 3 * 2) (Nat.mul_le_mul (by omega) (by omega))
theorem Fm.s63 {E F S I : Nat} (h : Fm E F S I) : S ≤ 9223372036854775808 := (half_le h.fo h.hS).2
theorem Fm.i63 {E F S I : Nat} (h : Fm E F S I) : I < 9223372036854774000 := by
 have h1 := h.top
 have h2 := h.s63
 by_cases hF : F = 52
 ·subst hF
  have h3 : (2 : Nat) ^ 52 = 4503599627370496 := by decide
  omega
 ·have h3 := h.fo.f52
  have h4 := h.fo.e11
  have h5 : 2 ^ (F + E) ≤ 2 ^ 62 := pow_bound (by omega)
  rw [← h.hS] at h5
  have h6 : (2 : Nat) ^ 62 = 4611686018427387904 := by decide
  have := pow_pos2 F
  omega
theorem Fm.bt {E F S I b : Nat} (h : Fm E F S I) (hb : b < 2 * S) : b < 2 ^ (F + E + 1) := by rw [Nat.pow_succ,Nat.mul_comm,← h.hS]; exact hb
theorem Fm.tb {E F S I b : Nat} (h : Fm E F S I) (hb : ¬ b < 2 * S) : 2 ^ (F + E + 1) ≤ b := by rw [Nat.pow_succ,Nat.mul_comm,← h.hS]; omega
theorem Fm.nan {E F S I b ex fr : Nat} {neg : Bool} (h : Fm E F S I) (hB : Bt E F b neg ex fr) : cls ex fr (2 ^ E - 1) = 5 ↔ I < b % S := by
 have hr := hB.rest
 rw [← h.hS] at hr
 have h1 := hB.fr_lt
 have h2 := hB.ex_lt
 have hI := h.hI
 have hE : 2 ^ 2 ≤ 2 ^ E := pow_bound h.fo.e2
 have hmul : ex < 2 ^ E - 1 → ex * 2 ^ F + 2 ^ F ≤ (2 ^ E - 1) * 2 ^ F := fun hx => by
  have := Nat.mul_le_mul_right (2 ^ F) (show ex + 1 ≤ 2 ^ E - 1 from hx)
  rw [Nat.add_mul,Nat.one_mul] at this
  exact this
 unfold cls
 by_cases h0 : ex = 0
 ·subst h0
  have := hmul (by omega)
  by_cases h3 : fr = 0
  ·simp [h3]; omega
  ·simp [h3]; omega
 ·by_cases hlt : ex < 2 ^ E - 1
  ·have := hmul hlt
   simp [h0,hlt]; omega
  ·have he : ex = 2 ^ E - 1 := by omega
   have hm : ex * 2 ^ F = I := by rw [he,hI]
   by_cases h3 : fr = 0
   ·simp [h0,hlt,h3]; omega
   ·simp [h0,hlt,h3]; omega
theorem fits_T {E F S I b : Nat} (h : Fm E F S I) (hb : b < 2 * S) : Tel 80 #[.agg #[.int .i64 E,.int .i64 F],.int .u64 (b : Int)] (.int .i64 0) := fun W => fits_ok E F b h.fo (h.bt hb) W
theorem fits_M {E F S I b : Nat} (h : Fm E F S I) (hb : ¬ b < 2 * S) : Tel 80 #[.agg #[.int .i64 E,.int .i64 F],.int .u64 (b : Int)] (.int .i64 6) := fun W => fits_many E F b h.fo (h.tb hb) W
theorem fits_B {E F : Int} (h : NoFo E F) (b : Int) : Tel 80 #[.agg #[.int .i64 E,.int .i64 F],.int .u64 b] (.int .i64 5) := fun W => fits_bad E F h b W
theorem class_T {E F S I b : Nat} (h : Fm E F S I) (hb : b < 2 * S) (hn : b % S ≤ I) : ∃ c : Int,(c == (5 : Int)) = false ∧ Tel 37 #[.agg #[.int .i64 E,.int .i64 F],.int .u64 (b : Int)] (.tuple #[.int .u8 c,.int .i64 0]) := by
 have hB := Bt.of E F b (h.bt hb)
 refine ⟨_,?_,fun W => Class_ok E F b _ _ _ h.fo hB _ (hide rfl) W⟩
 have h5 : ¬ cls (b % 2 ^ (F + E) / 2 ^ F) (b % 2 ^ F) (2 ^ E - 1) = 5 := fun e => by have := (h.nan hB).1 e; omega
 simp only [beq_eq_false_iff_ne,ne_eq]
 omega
theorem class_N {E F S I b : Nat} (h : Fm E F S I) (hb : b < 2 * S) (hn : ¬ b % S ≤ I) : Tel 37 #[.agg #[.int .i64 E,.int .i64 F],.int .u64 (b : Int)] (.tuple #[.int .u8 5,.int .i64 0]) := by
 have hB := Bt.of E F b (h.bt hb)
 intro W
 have h1 := Class_ok E F b _ _ _ h.fo hB _ (hide rfl) W
 rw [(h.nan hB).2 (by omega)] at h1
 exact h1
def infS (S I : Nat) (d : Bool) : Nat := if d then S + I else I
theorem inf_T {E F S I : Nat} (h : Fm E F S I) (d : Bool) : Tel 104 #[.agg #[.int .i64 E,.int .i64 F],.bool d] (.tuple #[.int .u64 (infS S I d : Int),.int .i64 0]) := by
 refine fun W => Inf_ok E F _ (2 ^ E - 1) d h.fo ⟨pow_pos2 F,by have := pow_pos2 E; omega,?_⟩ (hide rfl) W
 rw [← h.hS,← h.hI]
 cases d <;> simp [infS]
theorem spot_T {E F S I b : Nat} (h : Fm E F S I) (hb : b < 2 * S) : Tel 61 #[.agg #[.int .i64 E,.int .i64 F],.int .u64 (b : Int)] (.agg #[.int .u64 (spS S b : Int),.int .u64 ((b % S : Nat) : Int)]) := by
 intro W
 unfold spS
 by_cases h0 : b % S = 0
 ·rw [if_pos h0,h0]; exact spotOf_0 E F S b h.fo (hide h.hS) hb h0 W
 ·rw [if_neg h0]; exact spotOf_n E F S b _ _ h.fo (hide h.hS) hb rfl (by omega) rfl W
theorem div_two {S b : Nat} (h0 : 0 < S) (hb : b < 2 * S) : (b < S ∧ b / S = 0 ∧ b % S = b) ∨ (¬ b < S ∧ b / S = 1 ∧ b % S = b - S) := by
 by_cases h : b < S
 ·exact Or.inl ⟨h,Nat.div_eq_of_lt h,Nat.mod_eq_of_lt h⟩
 ·refine Or.inr ⟨h,?_,?_⟩
  ·rw [Nat.div_eq_iff h0]; omega
  ·rw [Nat.mod_eq_sub_mod (by omega),Nat.mod_eq_of_lt (by omega)]
theorem Fm.pos {E F S I : Nat} (h : Fm E F S I) : 0 < S := by have := h.lt; omega
theorem place_T {E F S I b : Nat} (h : Fm E F S I) (hb : b < 2 * S) : Tel 62 #[.agg #[.int .u64 (spS S b : Int),.int .u64 ((b % S : Nat) : Int)]] (.int .i64 (plc S b)) := by
 intro W
 have h63 := h.s63
 unfold spS plc
 rcases div_two h.pos hb with ⟨h1,h2,h3⟩ | ⟨h1,h2,h3⟩
 ·rw [h2,h3,if_pos h1,ite_self]
  exact place_0 b (by omega) W
 ·rw [if_neg h1,h2,h3]
  by_cases h0 : b - S = 0
  ·rw [if_pos h0,h0,show (S : Int) - (b : Int) = ((0 : Nat) : Int) from by omega]
   exact place_0 0 (by decide) W
  ·rw [if_neg h0,show (S : Int) - (b : Int) = -((b - S : Nat) : Int) from by omega]
   exact place_1 (b - S) (by omega) (by omega) W
def upN (S b : Nat) : Nat := if b < S then b + 1 else if b = S then 1 else b - 1
def dnN (S b : Nat) : Nat := if b = 0 then S + 1 else if b < S then b - 1 else b + 1
theorem plc_bd {E F S I b : Nat} (h : Fm E F S I) (hb : b < 2 * S) (hn : b % S ≤ I) : -(I : Int) ≤ plc S b ∧ plc S b ≤ (I : Int) := by
 unfold plc
 rcases div_two h.pos hb with ⟨h1,-,h3⟩ | ⟨h1,-,h3⟩
 ·rw [if_pos h1]; omega
 ·rw [if_neg h1]; omega
theorem sp_ne {S b c : Nat} (h0 : 0 < S) (hb : b < 2 * S) (hc : c < 2 * S) (hne : plc S b ≠ plc S c) : ((spS S b : Int) == (spS S c : Int) && ((b % S : Nat) : Int) == ((c % S : Nat) : Int)) = false := by
 unfold plc at hne
 unfold spS
 simp only [Bool.and_eq_false_iff,beq_eq_false_iff_ne,ne_eq]
 rcases div_two h0 hb with ⟨h1,h2,h3⟩ | ⟨h1,h2,h3⟩ <;> rcases div_two h0 hc with ⟨k1,k2,k3⟩ | ⟨k1,k2,k3⟩ <;> simp only [h1,h2,h3,k1,k2,k3,if_true,if_false] at hne ⊢ <;> (by_cases z1 : b - S = 0 <;> by_cases z2 : c - S = 0 <;> by_cases z3 : b = 0 <;> by_cases z4 : c = 0 <;> simp [z1,z2,z3,z4] at hne ⊢ <;> omega)
theorem spS_neg {S b : Nat} (h0 : 0 < S) (hb : b < 2 * S) : ((spS S b : Int) == (1 : Int)) = decide (S < b) := by
 unfold spS
 rcases div_two h0 hb with ⟨h1,h2,h3⟩ | ⟨h1,h2,h3⟩
 ·rw [h2,ite_self,decide_eq_false (by omega)]; rfl
 ·rw [h2,h3]
  by_cases h4 : b - S = 0
  ·rw [if_pos h4,decide_eq_false (by omega)]; rfl
  ·rw [if_neg h4,decide_eq_true (by omega)]; rfl
theorem Up_T {E F S I b : Nat} (h : Fm E F S I) (hb : b < 2 * S) (hn : b % S ≤ I) (he : b ≠ I) : Tel 10 #[.agg #[.int .i64 E,.int .i64 F],.int .u64 (b : Int)] (.tuple #[.int .u64 (upN S b : Int),.int .i64 0]) := by
 intro W
 obtain ⟨c,hc,HC⟩ := class_T h hb hn
 have hlt := h.lt
 have h63 := h.i63
 have hI2 : infS S I false < 2 * S := by simp only [infS,Bool.false_eq_true,if_false]; omega
 have hpI : plc S (infS S I false) = (I : Int) := by simp only [infS,Bool.false_eq_true,if_false,plc]; rw [if_pos hlt]
 have hbd := plc_bd h hb hn
 refine Up_is E F b _ _ (fun W => beside_up E F b (fits_T h hb) c hc HC _ (inf_T h false) _ _ (spot_T h hb) _ _ (spot_T h hI2) (sp_ne h.pos hb hI2 ?_) (plc S b) (upN S b : Int) (by omega) (by omega) _ rfl (place_T h hb) ?_ W) W
 ·rw [hpI]
  unfold plc
  rcases div_two h.pos hb with ⟨h1,h2,h3⟩ | ⟨h1,h2,h3⟩
  ·rw [if_pos h1]; omega
  ·rw [if_neg h1]; have := h.six; omega
 ·intro W
  rw [spS_neg h.pos hb]
  unfold plc upN
  rcases div_two h.pos hb with ⟨h1,h2,h3⟩ | ⟨h1,h2,h3⟩
  ·rw [if_pos h1,if_pos h1]
   exact at_0 E F (b + 1) (by omega) _ (fun e => by omega) W
  ·rw [if_neg h1,if_neg h1]
   by_cases h0 : b = S
   ·rw [if_pos h0,show ((S : Int) - (b : Int) + 1) = ((1 : Nat) : Int) from by omega]
    exact at_0 E F 1 (by decide) _ (fun e => by omega) W
   ·rw [if_neg h0,show ((S : Int) - (b : Int) + 1) = -((b - S - 1 : Nat) : Int) from by omega]
    exact at_1 E F S (b - S - 1) (b - 1) _ h.fo (hide h.hS) (by omega) (fun _ => decide_eq_true (by omega)) (by omega) W
theorem Down_T {E F S I b : Nat} (h : Fm E F S I) (hb : b < 2 * S) (hn : b % S ≤ I) (he : b ≠ S + I) : Tel 12 #[.agg #[.int .i64 E,.int .i64 F],.int .u64 (b : Int)] (.tuple #[.int .u64 (dnN S b : Int),.int .i64 0]) := by
 intro W
 obtain ⟨c,hc,HC⟩ := class_T h hb hn
 have hlt := h.lt
 have h63 := h.i63
 have hI2 : infS S I true < 2 * S := by simp only [infS,if_true]; omega
 have hpI : plc S (infS S I true) = -(I : Int) := by simp only [infS,if_true,plc]; rw [if_neg (by omega)]; omega
 have hbd := plc_bd h hb hn
 refine Down_is E F b _ _ (fun W => beside_down E F b (fits_T h hb) c hc HC _ (inf_T h true) _ _ (spot_T h hb) _ _ (spot_T h hI2) (sp_ne h.pos hb hI2 ?_) (plc S b) (dnN S b : Int) (by omega) (by omega) _ rfl (place_T h hb) ?_ W) W
 ·rw [hpI]
  unfold plc
  rcases div_two h.pos hb with ⟨h1,h2,h3⟩ | ⟨h1,h2,h3⟩
  ·rw [if_pos h1]; have := h.six; omega
  ·rw [if_neg h1]; omega
 ·intro W
  rw [spS_neg h.pos hb]
  unfold plc dnN
  rcases div_two h.pos hb with ⟨h1,h2,h3⟩ | ⟨h1,h2,h3⟩
  ·rw [if_pos h1,if_pos h1]
   by_cases h0 : b = 0
   ·subst h0
    rw [if_pos rfl,show (((0 : Nat) : Int) - 1) = -((1 : Nat) : Int) from rfl]
    exact at_1 E F S 1 (S + 1) _ h.fo (hide h.hS) (by decide) (fun e => by omega) rfl W
   ·rw [if_neg h0,show ((b : Int) - 1) = ((b - 1 : Nat) : Int) from by omega]
    exact at_0 E F (b - 1) (by omega) _ (fun _ => decide_eq_false (by omega)) W
  ·rw [if_neg h1,if_neg h1,if_neg (show ¬ b = 0 by have := h.pos; omega),show ((S : Int) - (b : Int) - 1) = -((b - S + 1 : Nat) : Int) from by omega]
   exact at_1 E F S (b - S + 1) (b + 1) _ h.fo (hide h.hS) (by omega) (fun e => by omega) (by omega) W
theorem Up_E {E F S I : Nat} (h : Fm E F S I) : Tel 10 #[.agg #[.int .i64 E,.int .i64 F],.int .u64 (I : Int)] (.tuple #[.int .u64 0,.int .i64 60]) := by
 have hlt := h.lt
 have hb : I < 2 * S := by omega
 have hn : I % S ≤ I := Nat.mod_le _ _
 obtain ⟨c,hc,HC⟩ := class_T h hb hn
 have hi := inf_T h false
 rw [show infS S I false = I from rfl] at hi
 exact fun W => Up_is E F I _ _ (fun W => beside_end E F I false (fits_T h hb) c hc HC _ hi _ _ (spot_T h hb) (spot_T h hb) W) W
theorem Down_E {E F S I : Nat} (h : Fm E F S I) : Tel 12 #[.agg #[.int .i64 E,.int .i64 F],.int .u64 ((S + I : Nat) : Int)] (.tuple #[.int .u64 0,.int .i64 60]) := by
 have hlt := h.lt
 have hb : S + I < 2 * S := by omega
 have hn : (S + I) % S ≤ I := by rw [Nat.add_mod_left]; exact Nat.mod_le _ _
 obtain ⟨c,hc,HC⟩ := class_T h hb hn
 have hi := inf_T h true
 rw [show infS S I true = S + I from rfl] at hi
 exact fun W => Down_is E F _ _ _ (fun W => beside_end E F _ true (fits_T h hb) c hc HC _ hi _ _ (spot_T h hb) (spot_T h hb) W) W
theorem Up_N {E F S I b : Nat} (h : Fm E F S I) (hb : b < 2 * S) (hn : ¬ b % S ≤ I) : Tel 10 #[.agg #[.int .i64 E,.int .i64 F],.int .u64 (b : Int)] (.tuple #[.int .u64 0,.int .i64 2]) :=
 fun W => Up_is E F b _ _ (fun W => beside_nan E F b false (fits_T h hb) (class_N h hb hn) W) W
theorem Down_N {E F S I b : Nat} (h : Fm E F S I) (hb : b < 2 * S) (hn : ¬ b % S ≤ I) : Tel 12 #[.agg #[.int .i64 E,.int .i64 F],.int .u64 (b : Int)] (.tuple #[.int .u64 0,.int .i64 2]) :=
 fun W => Down_is E F b _ _ (fun W => beside_nan E F b true (fits_T h hb) (class_N h hb hn) W) W
theorem Up_X {E F b c : Int} (H : Tel 80 #[.agg #[.int .i64 E,.int .i64 F],.int .u64 b] (.int .i64 c)) (hc : (c == (0 : Int)) = false) : Tel 10 #[.agg #[.int .i64 E,.int .i64 F],.int .u64 b] (.tuple #[.int .u64 0,.int .i64 c]) :=
 fun W => Up_is E F b _ _ (fun W => beside_err E F b c false H hc W) W
theorem Down_X {E F b c : Int} (H : Tel 80 #[.agg #[.int .i64 E,.int .i64 F],.int .u64 b] (.int .i64 c)) (hc : (c == (0 : Int)) = false) : Tel 12 #[.agg #[.int .i64 E,.int .i64 F],.int .u64 b] (.tuple #[.int .u64 0,.int .i64 c]) :=
 fun W => Down_is E F b _ _ (fun W => beside_err E F b c true H hc W) W
theorem Steps_T {E F S I a b : Nat} (h : Fm E F S I) (ha : a < 2 * S) (hb : b < 2 * S) (hna : a % S ≤ I) (hnb : b % S ≤ I) : Tel 22 #[.agg #[.int .i64 E,.int .i64 F],.int .u64 (a : Int),.int .u64 (b : Int)] (.tuple #[.bool (decide (plc S b < plc S a)),.int .u64 ((plc S a - plc S b).natAbs : Int),.int .i64 0]) := by
 intro W
 obtain ⟨c1,hc1,HC⟩ := class_T h ha hna
 obtain ⟨c2,hc2,HD⟩ := class_T h hb hnb
 have h63 := h.i63
 have hA := plc_bd h ha hna
 have hB := plc_bd h hb hnb
 by_cases hlt : plc S b < plc S a
 ·rw [decide_eq_true hlt]
  exact Steps_down E F a b c1 hc1 c2 hc2 (fits_T h ha) (fits_T h hb) HC HD _ _ _ _ _ _ (spot_T h ha) (spot_T h hb) (place_T h ha) (place_T h hb) hlt (by omega) (by omega) (by omega) (by omega) _ (by omega) W
 ·rw [decide_eq_false hlt]
  exact Steps_up E F a b c1 hc1 c2 hc2 (fits_T h ha) (fits_T h hb) HC HD _ _ _ _ _ _ (spot_T h ha) (spot_T h hb) (place_T h ha) (place_T h hb) hlt (by omega) (by omega) (by omega) (by omega) _ (by omega) W
end Go.Proofs.YtkebhccbhoamjaaGreatDoor
