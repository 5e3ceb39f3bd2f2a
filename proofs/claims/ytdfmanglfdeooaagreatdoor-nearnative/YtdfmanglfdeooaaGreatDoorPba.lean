/- Of what NearNativeRow stands on: NrCall NrFl NrNat0 NrNatN NrNatNon NrNatLt NrNatEq NrNatGt. -/
import Derived.Test.YtdfmanglfdeooaaGreatDoorPaf
import Derived.Test.YtdfmanglfdeooaaGreatDoorPaz
import Derived.Test.YtdfmanglfdeooaaGreatDoorPau
import Derived.Test.YtdfmanglfdeooaaGreatDoorPab
import Derived.Laws.Externs
namespace Go.Proofs.YtdfmanglfdeooaaGreatDoor
open Go.RowKit
structure Fm (E F S I : Nat) : Prop where
 fo : Fo E F
 hS : S = 2 ^ (F + E)
 hI : I = (2 ^ E - 1) * 2 ^ F
theorem Fm.top {E F S I : Nat} (h : Fm E F S I) : I + 2 ^ F = S := by
 have h1 := h.hS
 have h2 := h.hI
 have h3 := pow_pos2 E
 have h4 : (2 ^ E - 1) * 2 ^ F + 1 * 2 ^ F = 2 ^ E * 2 ^ F := by rw [← Nat.add_mul,Nat.sub_add_cancel h3]
 rw [Nat.add_comm,Nat.pow_add] at h1
 omega
theorem Fm.lt {E F S I : Nat} (h : Fm E F S I) : I < S := by
 have := h.top
 have := pow_pos2 F
 omega
theorem Fm.six {E F S I : Nat} (h : Fm E F S I) : 6 ≤ I := by
 have h1 : 2 ^ 2 ≤ 2 ^ E := pow_bound h.fo.e2
 have h2 : 2 ^ 1 ≤ 2 ^ F := pow_bound h.fo.f1
 rw [h.hI]
 exact Nat.le_trans (by decide : 6 ≤ 3 * 2) (Nat.mul_le_mul (by omega) (by omega))
theorem Fm.s63 {E F S I : Nat} (h : Fm E F S I) : S ≤ 9223372036854775808 := (half_le h.fo h.hS).2
theorem Fm.i63 {E F S I : Nat} (h : Fm E F S I) : I < 9223372036854774000 := by
 have h1 := h.top
 have h2 := h.s63
 by_cases hF : F = 52
 ·subst hF
  have h3 : (2 : Nat) ^ 52 = 4503599627370496 := by decide
  omega
 ·have h3 := h.fo.f52
  have h4 := h.fo.e11
  have h5 : 2 ^ (F + E) ≤ 2 ^ 62 := pow_bound (by omega)
  rw [← h.hS] at h5
  have h6 : (2 : Nat) ^ 62 = 4611686018427387904 := by decide
  have := pow_pos2 F
  omega
theorem Fm.bt {E F S I b : Nat} (h : Fm E F S I) (hb : b < 2 * S) : b < 2 ^ (F + E + 1) := by rw [Nat.pow_succ,Nat.mul_comm,← h.hS]; exact hb
theorem Fm.nan {E F S I b ex fr : Nat} {neg : Bool} (h : Fm E F S I) (hB : Bt E F b neg ex fr) : cls ex fr (2 ^ E - 1) = 5 ↔ I < b % S := by
 have hr := hB.rest
 rw [← h.hS] at hr
 have h1 := hB.fr_lt
 have h2 := hB.ex_lt
 have hI := h.hI
 have hE : 2 ^ 2 ≤ 2 ^ E := pow_bound h.fo.e2
 have hmul : ex < 2 ^ E - 1 → ex * 2 ^ F + 2 ^ F ≤ (2 ^ E - 1) * 2 ^ F := fun hx => by
  have := Nat.mul_le_mul_right (2 ^ F) (show ex + 1 ≤ 2 ^ E - 1 from hx)
  rw [Nat.add_mul,Nat.one_mul] at this
  exact this
 unfold cls
 by_cases h0 : ex = 0
 ·subst h0
  have := hmul (by omega)
  by_cases h3 : fr = 0
  ·simp [h3]; omega
  ·simp [h3]; omega
 ·by_cases hlt : ex < 2 ^ E - 1
  ·have := hmul hlt
   simp [h0,hlt]; omega
  ·have he : ex = 2 ^ E - 1 := by omega
   have hm : ex * 2 ^ F = I := by rw [he,hI]
   by_cases h3 : fr = 0
   ·simp [h0,hlt,h3]; omega
   ·simp [h0,hlt,h3]; omega
theorem fits_T {E F S I b : Nat} (h : Fm E F S I) (hb : b < 2 * S) : Tel 42 #[.agg #[.int .i64 E,.int .i64 F],.int .u64 (b : Int)] (.int .i64 0) := fun W => fits_ok E F b h.fo (h.bt hb) W
theorem class_T {E F S I b : Nat} (h : Fm E F S I) (hb : b < 2 * S) (hn : b % S ≤ I) : ∃ c : Int,(c == (5 : Int)) = false ∧ Tel 43 #[.agg #[.int .i64 E,.int .i64 F],.int .u64 (b : Int)] (.tuple #[.int .u8 c,.int .i64 0]) := by
 have hB := Bt.of E F b (h.bt hb)
 refine ⟨_,?_,fun W => Class_ok E F b _ _ _ h.fo hB _ (hide rfl) W⟩
 have h5 : ¬ cls (b % 2 ^ (F + E) / 2 ^ F) (b % 2 ^ F) (2 ^ E - 1) = 5 := fun e => by have := (h.nan hB).1 e; omega
 simp only [beq_eq_false_iff_ne,ne_eq]
 omega
theorem class_N {E F S I b : Nat} (h : Fm E F S I) (hb : b < 2 * S) (hn : ¬ b % S ≤ I) : Tel 43 #[.agg #[.int .i64 E,.int .i64 F],.int .u64 (b : Int)] (.tuple #[.int .u8 5,.int .i64 0]) := by
 have hB := Bt.of E F b (h.bt hb)
 intro W
 have h1 := Class_ok E F b _ _ _ h.fo hB _ (hide rfl) W
 rw [(h.nan hB).2 (by omega)] at h1
 exact h1
def infS (S I : Nat) (d : Bool) : Nat := if d then S + I else I
theorem inf_T {E F S I : Nat} (h : Fm E F S I) (d : Bool) : Tel 45 #[.agg #[.int .i64 E,.int .i64 F],.bool d] (.tuple #[.int .u64 (infS S I d : Int),.int .i64 0]) := by
 refine fun W => Inf_ok E F _ (2 ^ E - 1) d h.fo ⟨pow_pos2 F,by have := pow_pos2 E; omega,?_⟩ (hide rfl) W
 rw [← h.hS,← h.hI]
 cases d <;> simp [infS]
theorem spot_T {E F S I b : Nat} (h : Fm E F S I) (hb : b < 2 * S) : Tel 22 #[.agg #[.int .i64 E,.int .i64 F],.int .u64 (b : Int)] (.agg #[.int .u64 (spS S b : Int),.int .u64 ((b % S : Nat) : Int)]) := by
 intro W
 unfold spS
 by_cases h0 : b % S = 0
 ·rw [if_pos h0,h0]; exact spotOf_0 E F S b h.fo (hide h.hS) hb h0 W
 ·rw [if_neg h0]; exact spotOf_n E F S b _ _ h.fo (hide h.hS) hb rfl (by omega) rfl W
theorem div_two {S b : Nat} (h0 : 0 < S) (hb : b < 2 * S) : (b < S ∧ b / S = 0 ∧ b % S = b) ∨ (¬ b < S ∧ b / S = 1 ∧ b % S = b - S) := by
 by_cases h : b < S
 ·exact Or.inl ⟨h,Nat.div_eq_of_lt h,Nat.mod_eq_of_lt h⟩
 ·refine Or.inr ⟨h,?_,?_⟩
  ·rw [Nat.div_eq_iff h0]; omega
  ·rw [Nat.mod_eq_sub_mod (by omega),Nat.mod_eq_of_lt (by omega)]
theorem Fm.pos {E F S I : Nat} (h : Fm E F S I) : 0 < S := by have := h.lt; omega
theorem place_T {E F S I b : Nat} (h : Fm E F S I) (hb : b < 2 * S) : Tel 23 #[.agg #[.int .u64 (spS S b : Int),.int .u64 ((b % S : Nat) : Int)]] (.int .i64 (plc S b)) := by
 intro W
 have h63 := h.s63
 unfold spS plc
 rcases div_two h.pos hb with ⟨h1,h2,h3⟩ | ⟨h1,h2,h3⟩
 ·rw [h2,h3,if_pos h1,ite_self]
  exact place_0 b (by omega) W
 ·rw [if_neg h1,h2,h3]
  by_cases h0 : b - S = 0
  ·rw [if_pos h0,h0,show (S : Int) - (b : Int) = ((0 : Nat) : Int) from by omega]
   exact place_0 0 (by decide) W
  ·rw [if_neg h0,show (S : Int) - (b : Int) = -((b - S : Nat) : Int) from by omega]
   exact place_1 (b - S) (by omega) (by omega) W
def upN (S b : Nat) : Nat := if b < S then b + 1 else if b = S then 1 else b - 1
def dnN (S b : Nat) : Nat := if b = 0 then S + 1 else if b < S then b - 1 else b + 1
theorem plc_bd {E F S I b : Nat} (h : Fm E F S I) (hb : b < 2 * S) (hn : b % S ≤ I) : -(I : Int) ≤ plc S b ∧ plc S b ≤ (I : Int) := by
 unfold plc
 rcases div_two h.pos hb with ⟨h1,-,h3⟩ | ⟨h1,-,h3⟩
 ·rw [if_pos h1]; omega
 ·rw [if_neg h1]; omega
theorem sp_ne {S b c : Nat} (h0 : 0 < S) (hb : b < 2 * S) (hc : c < 2 * S) (hne : plc S b ≠ plc S c) : ((spS S b : Int) == (spS S c : Int) && ((b % S : Nat) : Int) == ((c % S : Nat) : Int)) = false := by
 unfold plc at hne
 unfold spS
 simp only [Bool.and_eq_false_iff,beq_eq_false_iff_ne,ne_eq]
 rcases div_two h0 hb with ⟨h1,h2,h3⟩ | ⟨h1,h2,h3⟩ <;> rcases div_two h0 hc with ⟨k1,k2,k3⟩ | ⟨k1,k2,k3⟩ <;> simp only [h1,h2,h3,k1,k2,k3,if_true,if_false] at hne ⊢ <;> (by_cases z1 : b - S = 0 <;> by_cases z2 : c - S = 0 <;> by_cases z3 : b = 0 <;> by_cases z4 : c = 0 <;> simp [z1,z2,z3,z4] at hne ⊢ <;> omega)
theorem sp_eq {S b c : Nat} (h0 : 0 < S) (hb : b < 2 * S) (hc : c < 2 * S) (he : plc S b = plc S c) : ((spS S b : Int) == (spS S c : Int) && ((b % S : Nat) : Int) == ((c % S : Nat) : Int)) = true := by
 unfold plc at he
 unfold spS
 simp only [Bool.and_eq_true,beq_iff_eq]
 rcases div_two h0 hb with ⟨h1,h2,h3⟩ | ⟨h1,h2,h3⟩ <;> rcases div_two h0 hc with ⟨k1,k2,k3⟩ | ⟨k1,k2,k3⟩ <;> simp only [h1,h2,h3,k1,k2,k3,if_true,if_false] at he ⊢ <;> (by_cases z1 : b - S = 0 <;> by_cases z2 : c - S = 0 <;> by_cases z3 : b = 0 <;> by_cases z4 : c = 0 <;> simp [z1,z2,z3,z4] at he ⊢ <;> omega)
theorem spS_neg {S b : Nat} (h0 : 0 < S) (hb : b < 2 * S) : ((spS S b : Int) == (1 : Int)) = decide (S < b) := by
 unfold spS
 rcases div_two h0 hb with ⟨h1,h2,h3⟩ | ⟨h1,h2,h3⟩
 ·rw [h2,ite_self,decide_eq_false (by omega)]; rfl
 ·rw [h2,h3]
  by_cases h4 : b - S = 0
  ·rw [if_pos h4,decide_eq_false (by omega)]; rfl
  ·rw [if_neg h4,decide_eq_true (by omega)]; rfl
theorem Up_T {E F S I b : Nat} (h : Fm E F S I) (hb : b < 2 * S) (hn : b % S ≤ I) (he : b ≠ I) : Tel 7 #[.agg #[.int .i64 E,.int .i64 F],.int .u64 (b : Int)] (.tuple #[.int .u64 (upN S b : Int),.int .i64 0]) := by
 intro W
 obtain ⟨c,hc,HC⟩ := class_T h hb hn
 have hlt := h.lt
 have h63 := h.i63
 have hI2 : infS S I false < 2 * S := by simp only [infS,Bool.false_eq_true,if_false]; omega
 have hpI : plc S (infS S I false) = (I : Int) := by simp only [infS,Bool.false_eq_true,if_false,plc]; rw [if_pos hlt]
 have hbd := plc_bd h hb hn
 refine Up_is E F b _ _ (fun W => beside_up E F b (fits_T h hb) c hc HC _ (inf_T h false) _ _ (spot_T h hb) _ _ (spot_T h hI2) (sp_ne h.pos hb hI2 ?_) (plc S b) (upN S b : Int) (by omega) (by omega) _ rfl (place_T h hb) ?_ W) W
 ·rw [hpI]
  unfold plc
  rcases div_two h.pos hb with ⟨h1,h2,h3⟩ | ⟨h1,h2,h3⟩
  ·rw [if_pos h1]; omega
  ·rw [if_neg h1]; have := h.six; omega
 ·intro W
  rw [spS_neg h.pos hb]
  unfold plc upN
  rcases div_two h.pos hb with ⟨h1,h2,h3⟩ | ⟨h1,h2,h3⟩
  ·rw [if_pos h1,if_pos h1]
   exact at_0 E F (b + 1) (by omega) _ (fun e => by omega) W
  ·rw [if_neg h1,if_neg h1]
   by_cases h0 : b = S
   ·rw [if_pos h0,show ((S : Int) - (b : Int) + 1) = ((1 : Nat) : Int) from by omega]
    exact at_0 E F 1 (by decide) _ (fun e => by omega) W
   ·rw [if_neg h0,show ((S : Int) - (b : Int) + 1) = -((b - S - 1 : Nat) : Int) from by omega]
    exact at_1 E F S (b - S - 1) (b - 1) _ h.fo (hide h.hS) (by omega) (fun _ => decide_eq_true (by omega)) (by omega) W
theorem Down_T {E F S I b : Nat} (h : Fm E F S I) (hb : b < 2 * S) (hn : b % S ≤ I) (he : b ≠ S + I) : Tel 8 #[.agg #[.int .i64 E,.int .i64 F],.int .u64 (b : Int)] (.tuple #[.int .u64 (dnN S b : Int),.int .i64 0]) := by
 intro W
 obtain ⟨c,hc,HC⟩ := class_T h hb hn
 have hlt := h.lt
 have h63 := h.i63
 have hI2 : infS S I true < 2 * S := by simp only [infS,if_true]; omega
 have hpI : plc S (infS S I true) = -(I : Int) := by simp only [infS,if_true,plc]; rw [if_neg (by omega)]; omega
 have hbd := plc_bd h hb hn
 refine Down_is E F b _ _ (fun W => beside_down E F b (fits_T h hb) c hc HC _ (inf_T h true) _ _ (spot_T h hb) _ _ (spot_T h hI2) (sp_ne h.pos hb hI2 ?_) (plc S b) (dnN S b : Int) (by omega) (by omega) _ rfl (place_T h hb) ?_ W) W
 ·rw [hpI]
  unfold plc
  rcases div_two h.pos hb with ⟨h1,h2,h3⟩ | ⟨h1,h2,h3⟩
  ·rw [if_pos h1]; have := h.six; omega
  ·rw [if_neg h1]; omega
 ·intro W
  rw [spS_neg h.pos hb]
  unfold plc dnN
  rcases div_two h.pos hb with ⟨h1,h2,h3⟩ | ⟨h1,h2,h3⟩
  ·rw [if_pos h1,if_pos h1]
   by_cases h0 : b = 0
   ·subst h0
    rw [if_pos rfl,show (((0 : Nat) : Int) - 1) = -((1 : Nat) : Int) from rfl]
    exact at_1 E F S 1 (S + 1) _ h.fo (hide h.hS) (by decide) (fun e => by omega) rfl W
   ·rw [if_neg h0,show ((b : Int) - 1) = ((b - 1 : Nat) : Int) from by omega]
    exact at_0 E F (b - 1) (by omega) _ (fun _ => decide_eq_false (by omega)) W
  ·rw [if_neg h1,if_neg h1,if_neg (show ¬ b = 0 by have := h.pos; omega),show ((S : Int) - (b : Int) - 1) = -((b - S + 1 : Nat) : Int) from by omega]
   exact at_1 E F S (b - S + 1) (b + 1) _ h.fo (hide h.hS) (by omega) (fun e => by omega) (by omega) W
theorem Up_E {E F S I : Nat} (h : Fm E F S I) : Tel 7 #[.agg #[.int .i64 E,.int .i64 F],.int .u64 (I : Int)] (.tuple #[.int .u64 0,.int .i64 60]) := by
 have hlt := h.lt
 have hb : I < 2 * S := by omega
 have hn : I % S ≤ I := Nat.mod_le _ _
 obtain ⟨c,hc,HC⟩ := class_T h hb hn
 have hi := inf_T h false
 rw [show infS S I false = I from rfl] at hi
 exact fun W => Up_is E F I _ _ (fun W => beside_end E F I false (fits_T h hb) c hc HC _ hi _ _ (spot_T h hb) (spot_T h hb) W) W
theorem Down_E {E F S I : Nat} (h : Fm E F S I) : Tel 8 #[.agg #[.int .i64 E,.int .i64 F],.int .u64 ((S + I : Nat) : Int)] (.tuple #[.int .u64 0,.int .i64 60]) := by
 have hlt := h.lt
 have hb : S + I < 2 * S := by omega
 have hn : (S + I) % S ≤ I := by rw [Nat.add_mod_left]; exact Nat.mod_le _ _
 obtain ⟨c,hc,HC⟩ := class_T h hb hn
 have hi := inf_T h true
 rw [show infS S I true = S + I from rfl] at hi
 exact fun W => Down_is E F _ _ _ (fun W => beside_end E F _ true (fits_T h hb) c hc HC _ hi _ _ (spot_T h hb) (spot_T h hb) W) W
theorem Up_N {E F S I b : Nat} (h : Fm E F S I) (hb : b < 2 * S) (hn : ¬ b % S ≤ I) : Tel 7 #[.agg #[.int .i64 E,.int .i64 F],.int .u64 (b : Int)] (.tuple #[.int .u64 0,.int .i64 2]) :=
 fun W => Up_is E F b _ _ (fun W => beside_nan E F b false (fits_T h hb) (class_N h hb hn) W) W
theorem Down_N {E F S I b : Nat} (h : Fm E F S I) (hb : b < 2 * S) (hn : ¬ b % S ≤ I) : Tel 8 #[.agg #[.int .i64 E,.int .i64 F],.int .u64 (b : Int)] (.tuple #[.int .u64 0,.int .i64 2]) :=
 fun W => Down_is E F b _ _ (fun W => beside_nan E F b true (fits_T h hb) (class_N h hb hn) W) W
theorem Steps_T {E F S I a b : Nat} (h : Fm E F S I) (ha : a < 2 * S) (hb : b < 2 * S) (hna : a % S ≤ I) (hnb : b % S ≤ I) : Tel 6 #[.agg #[.int .i64 E,.int .i64 F],.int .u64 (a : Int),.int .u64 (b : Int)] (.tuple #[.bool (decide (plc S b < plc S a)),.int .u64 ((plc S a - plc S b).natAbs : Int),.int .i64 0]) := by
 intro W
 obtain ⟨c1,hc1,HC⟩ := class_T h ha hna
 obtain ⟨c2,hc2,HD⟩ := class_T h hb hnb
 have h63 := h.i63
 have hA := plc_bd h ha hna
 have hB := plc_bd h hb hnb
 by_cases hlt : plc S b < plc S a
 ·rw [decide_eq_true hlt]
  exact Steps_down E F a b c1 hc1 c2 hc2 (fits_T h ha) (fits_T h hb) HC HD _ _ _ _ _ _ (spot_T h ha) (spot_T h hb) (place_T h ha) (place_T h hb) hlt (by omega) (by omega) (by omega) (by omega) _ (by omega) W
 ·rw [decide_eq_false hlt]
  exact Steps_up E F a b c1 hc1 c2 hc2 (fits_T h ha) (fits_T h hb) HC HD _ _ _ _ _ _ (spot_T h ha) (spot_T h hb) (place_T h ha) (place_T h hb) hlt (by omega) (by omega) (by omega) (by omega) _ (by omega) W
theorem Cmp_T {E F S I a b : Nat} (h : Fm E F S I) (ha : a < 2 * S) (hb : b < 2 * S) (hna : a % S ≤ I) (hnb : b % S ≤ I) : Tel 9 #[.agg #[.int .i64 E,.int .i64 F],.int .u64 (a : Int),.int .u64 (b : Int)] (.tuple #[.int .i64 (cm3 (plc S a) (plc S b)),.bool true,.int .i64 0]) := by
 intro W
 obtain ⟨c1,hc1,HC⟩ := class_T h ha hna
 obtain ⟨c2,hc2,HD⟩ := class_T h hb hnb
 unfold cm3
 by_cases h1 : plc S a < plc S b
 ·rw [if_pos h1]
  exact Cmp_lt W E F a b _ _ _ _ _ _ c1 c2 hc1 hc2 (fits_T h ha) (fits_T h hb) HC HD (spot_T h ha) (spot_T h hb) (place_T h ha) (place_T h hb) (sp_ne h.pos ha hb (by omega)) h1
 ·rw [if_neg h1]
  by_cases h2 : plc S b < plc S a
  ·rw [if_pos h2]
   exact Cmp_gt W E F a b _ _ _ _ _ _ c1 c2 hc1 hc2 (fits_T h ha) (fits_T h hb) HC HD (spot_T h ha) (spot_T h hb) (place_T h ha) (place_T h hb) (sp_ne h.pos ha hb (by omega)) h1
  ·rw [if_neg h2]
   exact Cmp_eq W E F a b _ _ _ _ c1 c2 hc1 hc2 (fits_T h ha) (fits_T h hb) HC HD (spot_T h ha) (spot_T h hb) (sp_eq h.pos ha hb (by omega))
end Go.Proofs.YtdfmanglfdeooaaGreatDoor
namespace Go.Proofs.YtdfmanglfdeooaaGreatDoor
open Ieee
def mg (F ex fr : Nat) : Nat := if ex = 0 then fr else (2 ^ F + fr) * 2 ^ (ex - 1)
theorem mg_lt {F ex fr ex' fr' : Nat} (h : fr < 2 ^ F) (h' : fr' < 2 ^ F) (hlt : ex * 2 ^ F + fr < ex' * 2 ^ F + fr') : mg F ex fr < mg F ex' fr' := by
 have hle : ex ≤ ex' := by
  refine Nat.le_of_not_lt fun hc => ?_
  have := Nat.mul_le_mul_right (2 ^ F) (show ex' + 1 ≤ ex from hc)
  rw [Nat.add_mul,Nat.one_mul] at this
  omega
 unfold mg
 by_cases he : ex = ex'
 ·subst he
  by_cases h0 : ex = 0
  ·rw [if_pos h0,if_pos h0]; omega
  ·rw [if_neg h0,if_neg h0]
   exact Nat.mul_lt_mul_of_pos_right (by omega) (pow_pos2 _)
 ·have h1 : ex < ex' := by omega
  rw [if_neg (show ¬ ex' = 0 by omega)]
  have hb : 2 ^ F * 2 ^ (ex' - 1) ≤ (2 ^ F + fr') * 2 ^ (ex' - 1) := Nat.mul_le_mul_right _ (by omega)
  by_cases h0 : ex = 0
  ·rw [if_pos h0]
   have : 2 ^ F * 1 ≤ 2 ^ F * 2 ^ (ex' - 1) := Nat.mul_le_mul_left _ (pow_pos2 _)
   omega
  ·rw [if_neg h0]
   have h2 : (2 ^ F + fr) * 2 ^ (ex - 1) < (2 ^ F + 2 ^ F) * 2 ^ (ex - 1) := Nat.mul_lt_mul_of_pos_right (by omega) (pow_pos2 _)
   have h3 : (2 ^ F + 2 ^ F) * 2 ^ (ex - 1) = 2 ^ F * 2 ^ ex := by
    obtain ⟨k,rfl⟩ : ∃ k,ex = k + 1 := ⟨ex - 1,by omega⟩
    rw [Nat.add_sub_cancel,Nat.pow_succ,← Nat.two_mul,Nat.mul_comm 2 (2 ^ F),Nat.mul_assoc,Nat.mul_comm 2 (2 ^ k)]
   have h4 : 2 ^ F * 2 ^ ex ≤ 2 ^ F * 2 ^ (ex' - 1) := Nat.mul_le_mul_left _ (pow_bound (by omega))
   omega
def sg (s : Bool) (n : Nat) : Int := if s then -(n : Int) else (n : Int)
theorem cmp_scale (a b : Int) (d : Nat) : compare (a * ((2 ^ d : Nat) : Int)) (b * ((2 ^ d : Nat) : Int)) = compare a b := by
 have hp : (0 : Int) < ((2 ^ d : Nat) : Int) := by have := pow_pos2 d; omega
 rcases Int.lt_trichotomy a b with h | h | h
 ·rw [cmp_lt.2 h,cmp_lt.2 (Int.mul_lt_mul_of_pos_right h hp)]
 ·rw [h,cmp_eq.2 rfl,cmp_eq.2 rfl]
 ·rw [cmp_gt.2 h,cmp_gt.2 (Int.mul_lt_mul_of_pos_right h hp)]
theorem sg_mul (s : Bool) (n d : Nat) : sg s (n * 2 ^ d) = sg s n * ((2 ^ d : Nat) : Int) := by
 unfold sg; cases s <;> simp [Int.neg_mul]
theorem signed_sg (s : Bool) (m k : Nat) : signed s m k = sg s (m * 2 ^ k) := by rw [signed_eq]; rfl
theorem num_order (s s' : Bool) (m m' k k' : Nat) (L : Int) : (Datum.number s m (L + (k : Int))).order (Datum.number s' m' (L + (k' : Int))) = some (compare (sg s (m * 2 ^ k)) (sg s' (m' * 2 ^ k'))) := by
 show some (compare (signed s m (L + (k : Int) - min (L + (k : Int)) (L + (k' : Int))).toNat) (signed s' m' (L + (k' : Int) - min (L + (k : Int)) (L + (k' : Int))).toNat)) = _
 rw [signed_sg,signed_sg,← cmp_scale _ _ (min k k'),← sg_mul,← sg_mul,Nat.mul_assoc,Nat.mul_assoc,← Nat.pow_add,← Nat.pow_add]
 rw [show (L + (k : Int) - min (L + (k : Int)) (L + (k' : Int))).toNat + min k k' = k from by omega,show (L + (k' : Int) - min (L + (k : Int)) (L + (k' : Int))).toNat + min k k' = k' from by omega]
theorem cmp_sg {s s' : Bool} {g g' r r' : Nat} (h1 : r < r' → g < g') (h2 : r' < r → g' < g) (h3 : r = r' → g = g') (_z : 0 < r → 0 < g) (_z' : 0 < r' → 0 < g') (_y : r = 0 → g = 0) (_y' : r' = 0 → g' = 0) : compare (sg s g) (sg s' g') = compare (sg s r) (sg s' r') := by
 have key : (sg s g < sg s' g' ↔ sg s r < sg s' r') ∧ (sg s g = sg s' g' ↔ sg s r = sg s' r') ∧ (sg s' g' < sg s g ↔ sg s' r' < sg s r) := by
  unfold sg
  rcases Nat.lt_trichotomy r r' with h | h | h
  ·have := h1 h
   cases s <;> cases s' <;> simp <;> omega
  ·have := h3 h
   cases s <;> cases s' <;> simp <;> omega
  ·have := h2 h
   cases s <;> cases s' <;> simp <;> omega
 rcases Int.lt_trichotomy (sg s r) (sg s' r') with h | h | h
 ·rw [cmp_lt.2 h,cmp_lt.2 (key.1.2 h)]
 ·rw [cmp_eq.2 h,cmp_eq.2 (key.2.1.2 h)]
 ·rw [cmp_gt.2 h,cmp_gt.2 (key.2.2.2 h)]
theorem plc_sg {E F S I b ex fr : Nat} {neg : Bool} (h : Fm E F S I) (hB : Bt E F b neg ex fr) : plc S b = sg neg (ex * 2 ^ F + fr) := by
 have h1 := hB.eq
 have h2 := hB.low
 rw [← h.hS] at h1 h2
 generalize ex * 2 ^ F + fr = r at *
 unfold plc sg
 cases neg
 ·simp only [Bool.toNat_false,Nat.zero_mul,Nat.zero_add] at h1
  rw [if_pos (by omega),if_neg (by simp)]; omega
 ·simp only [Bool.toNat_true,Nat.one_mul] at h1
  rw [if_neg (by omega),if_pos rfl]; omega
theorem order_plc (f : Format) (S I a b : Nat) (h : Fm f.exponentBits f.fractionBits S I) (ha : a < 2 * S) (hb : b < 2 * S) (hna : a % S ≤ I) (hnb : b % S ≤ I) : f.order a b = some (compare (plc S a) (plc S b)) := by
 have hA := Bt.of _ _ a (h.bt ha)
 have hB := Bt.of _ _ b (h.bt hb)
 have hra := hA.rest
 have hrb := hB.rest
 rw [plc_sg h hA,plc_sg h hB]
 have hx := hA.ex_lt
 have hx' := hB.ex_lt
 have hy := hA.fr_lt
 have hy' := hB.fr_lt
 have n1 := (h.nan hA).2
 have n2 := (h.nan hB).2
 generalize decide (a / 2 ^ (f.fractionBits + f.exponentBits) = 1) = s at *
 generalize decide (b / 2 ^ (f.fractionBits + f.exponentBits) = 1) = s' at *
 generalize a % 2 ^ (f.fractionBits + f.exponentBits) / 2 ^ f.fractionBits = ex at *
 generalize b % 2 ^ (f.fractionBits + f.exponentBits) / 2 ^ f.fractionBits = ex' at *
 generalize a % 2 ^ f.fractionBits = fr at *
 generalize b % 2 ^ f.fractionBits = fr' at *
 rw [← h.hS] at hra hrb
 have hI := h.hI
 have hE : 2 ^ 2 ≤ 2 ^ f.exponentBits := pow_bound h.fo.e2
 have fin : ∀ {ex fr r : Nat},r = ex * 2 ^ f.fractionBits + fr → r ≤ I → ex < 2 ^ f.exponentBits → fr < 2 ^ f.fractionBits → ¬ ex < 2 ^ f.exponentBits - 1 → fr = 0 ∧ r = I := fun {ex fr r} h1 h2 h3 h4 h5 => by
  have : ex = 2 ^ f.exponentBits - 1 := by omega
  subst this
  omega
 have small : ∀ {ex fr : Nat},fr < 2 ^ f.fractionBits → ex < 2 ^ f.exponentBits - 1 → ex * 2 ^ f.fractionBits + fr < I := fun {ex fr} h1 h2 => by
  have := Nat.mul_le_mul_right (2 ^ f.fractionBits) (show ex + 1 ≤ 2 ^ f.exponentBits - 1 from h2)
  rw [Nat.add_mul,Nat.one_mul] at this
  omega
 have rd : ∀ {x : Nat} {s : Bool} {ex fr : Nat},Bt f.exponentBits f.fractionBits x s ex fr → ex < 2 ^ f.exponentBits - 1 → ∃ M k : Nat,f.read x = .number s M (f.leastPlace + (k : Int)) ∧ M * 2 ^ k = mg f.fractionBits ex fr := fun {x s ex fr} hB h1 => by
  rw [read_of f x ex fr s hB]
  unfold mg
  by_cases h0 : ex = 0
  ·exact ⟨fr,0,by rw [if_pos h0]; simp,by rw [if_pos h0,Nat.pow_zero,Nat.mul_one]⟩
  ·exact ⟨2 ^ f.fractionBits + fr,ex - 1,by rw [if_neg h0,if_pos h1],by rw [if_neg h0]⟩
 have inf : ∀ {x : Nat} {s : Bool} {ex fr : Nat},Bt f.exponentBits f.fractionBits x s ex fr → ¬ ex < 2 ^ f.exponentBits - 1 → fr = 0 → f.read x = .infinity s := fun {x s ex fr} hB h1 h2 => by
  rw [read_of f x ex fr s hB,if_neg (by omega),if_neg h1,if_pos h2]
 have h6 := h.six
 unfold Format.order
 by_cases c1 : ex < 2 ^ f.exponentBits - 1
 ·by_cases c2 : ex' < 2 ^ f.exponentBits - 1
  ·obtain ⟨M,k,r1,g1⟩ := rd hA c1
   obtain ⟨M',k',r2,g2⟩ := rd hB c2
   rw [r1,r2,num_order,g1,g2]
   congr 1
   have m0 : mg f.fractionBits 0 0 = 0 := rfl
   have p0 := pow_pos2 f.fractionBits
   refine cmp_sg (mg_lt hy hy') (mg_lt hy' hy) (fun e => ?_) (fun h => ?_) (fun h => ?_) (fun e => ?_) (fun e => ?_)
   ·rcases Nat.lt_trichotomy (mg f.fractionBits ex fr) (mg f.fractionBits ex' fr') with hl | hl | hl
    ·exfalso
     have he : ex = ex' := by
      rcases Nat.lt_trichotomy ex ex' with q | q | q
      ·have := Nat.mul_le_mul_right (2 ^ f.fractionBits) (show ex + 1 ≤ ex' from q)
       rw [Nat.add_mul,Nat.one_mul] at this; omega
      ·exact q
      ·have := Nat.mul_le_mul_right (2 ^ f.fractionBits) (show ex' + 1 ≤ ex from q)
       rw [Nat.add_mul,Nat.one_mul] at this; omega
     subst he
     obtain rfl : fr = fr' := by omega
     omega
    ·exact hl
    ·exfalso
     have he : ex = ex' := by
      rcases Nat.lt_trichotomy ex ex' with q | q | q
      ·have := Nat.mul_le_mul_right (2 ^ f.fractionBits) (show ex + 1 ≤ ex' from q)
       rw [Nat.add_mul,Nat.one_mul] at this; omega
      ·exact q
      ·have := Nat.mul_le_mul_right (2 ^ f.fractionBits) (show ex' + 1 ≤ ex from q)
       rw [Nat.add_mul,Nat.one_mul] at this; omega
     subst he
     obtain rfl : fr = fr' := by omega
     omega
   ·have := mg_lt (F := f.fractionBits) (ex := 0) (fr := 0) (ex' := ex) (fr' := fr) p0 hy (by omega); omega
   ·have := mg_lt (F := f.fractionBits) (ex := 0) (fr := 0) (ex' := ex') (fr' := fr') p0 hy' (by omega); omega
   ·have h1 : ex = 0 := by
     rcases Nat.eq_zero_or_pos ex with q | q
     ·exact q
     ·have := Nat.mul_le_mul_right (2 ^ f.fractionBits) (show 1 ≤ ex from q); omega
    subst h1
    obtain rfl : fr = 0 := by omega
    rfl
   ·have h1 : ex' = 0 := by
     rcases Nat.eq_zero_or_pos ex' with q | q
     ·exact q
     ·have := Nat.mul_le_mul_right (2 ^ f.fractionBits) (show 1 ≤ ex' from q); omega
    subst h1
    obtain rfl : fr' = 0 := by omega
    rfl
  ·obtain ⟨f0,e0⟩ := fin hrb hnb hx' hy' c2
   obtain ⟨M,k,r1,_⟩ := rd hA c1
   have hs := small hy c1
   generalize ex * 2 ^ f.fractionBits + fr = r at *
   rw [r1,inf hB c2 f0]
   show some (if s' then Ordering.gt else Ordering.lt) = _
   congr 1
   rw [← hrb,e0]
   cases s'
   ·rw [cmp_lt.2 (by unfold sg; cases s <;> simp <;> omega)]; rfl
   ·rw [cmp_gt.2 (by unfold sg; cases s <;> simp <;> omega)]; rfl
 ·obtain ⟨f1,e1⟩ := fin hra hna hx hy c1
  by_cases c2 : ex' < 2 ^ f.exponentBits - 1
  ·obtain ⟨M,k,r2,_⟩ := rd hB c2
   have hs := small hy' c2
   generalize ex' * 2 ^ f.fractionBits + fr' = r at *
   rw [r2,inf hA c1 f1]
   show some (if s then Ordering.lt else Ordering.gt) = _
   congr 1
   rw [← hra,e1]
   cases s
   ·rw [cmp_gt.2 (by unfold sg; cases s' <;> simp <;> omega)]; rfl
   ·rw [cmp_lt.2 (by unfold sg; cases s' <;> simp <;> omega)]; rfl
  ·obtain ⟨f0,e0⟩ := fin hrb hnb hx' hy' c2
   rw [inf hA c1 f1,inf hB c2 f0]
   show some (compare s'.toNat s.toNat) = _
   congr 1
   rw [← hra,← hrb,e0,e1]
   unfold sg
   cases s <;> cases s'
   ·rw [cmp_eq.2 rfl]; rfl
   ·rw [cmp_gt.2 (by simp; omega)]; rfl
   ·rw [cmp_lt.2 (by simp; omega)]; rfl
   ·rw [cmp_eq.2 rfl]; rfl
theorem read_nan (f : Format) (S I a : Nat) (h : Fm f.exponentBits f.fractionBits S I) (ha : a < 2 * S) (hna : ¬ a % S ≤ I) : ∃ s u,f.read a = .nan s u := by
 have hA := Bt.of _ _ a (h.bt ha)
 have hc := (h.nan hA).2 (by omega)
 rw [read_of f a _ _ _ hA]
 unfold cls at hc
 generalize a % 2 ^ (f.fractionBits + f.exponentBits) / 2 ^ f.fractionBits = ex at *
 generalize a % 2 ^ f.fractionBits = fr at *
 by_cases h0 : ex = 0
 ·by_cases h1 : fr = 0 <;> simp [h0,h1] at hc
 ·by_cases h2 : ex < 2 ^ f.exponentBits - 1
  ·simp [h0,h2] at hc
  ·by_cases h1 : fr = 0
   ·simp [h0,h2,h1] at hc
   ·exact ⟨_,_,by rw [if_neg h0,if_neg h2,if_neg h1]⟩
theorem order_nan1 (f : Format) (S I a b : Nat) (h : Fm f.exponentBits f.fractionBits S I) (ha : a < 2 * S) (hna : ¬ a % S ≤ I) : f.order a b = none := by
 obtain ⟨s,u,e⟩ := read_nan f S I a h ha hna
 unfold Format.order; rw [e]; rfl
theorem order_nan2 (f : Format) (S I a b : Nat) (h : Fm f.exponentBits f.fractionBits S I) (hb : b < 2 * S) (hnb : ¬ b % S ≤ I) : f.order a b = none := by
 obtain ⟨s,u,e⟩ := read_nan f S I b h hb hnb
 unfold Format.order; rw [e]; cases f.read a <;> rfl
end Go.Proofs.YtdfmanglfdeooaaGreatDoor
namespace Go.Proofs.YtdfmanglfdeooaaGreatDoor
open Go.RowKit
theorem nrun_bits (b : Nat) (w : World) : (callFunc 30 #[.float .f64 b]).run Tryz.prog w = .ok (.value (.int .u64 (b : Int))) w := by
 rw [run_callFunc_extern (e := Extern.MathFloatBits.float64bits) Tryz.func30 (by kernel_rfl) (by kernel_rfl) (by kernel_rfl) (by kernel_rfl)]; rfl
theorem nrun_from (b : Nat) (w : World) : (callFunc 11 #[.int .u64 (b : Int)]).run Tryz.prog w = .ok (.value (.float .f64 b)) w := by
 rw [run_callFunc_extern (e := Extern.MathFloatBits.float64frombits) Tryz.func11 (by kernel_rfl) (by kernel_rfl) (by kernel_rfl) (by kernel_rfl)]; rfl
theorem nsignbit_any (b : Nat) (neg : Bool) (w : World) (hb : b < 18446744073709551616) (hn : Hid (neg = decide (9223372036854775808 ≤ b))) : Calls Tryz.prog 15 #[.float .f64 b] w fun e w' => e = .returned (.bool neg) ∧ Below w.heap.size w w' := by
 have x1 := nrun_bits
 go_enter Tryz.func15,Tryz.ntmps15
 go_wp2
 go_ret
 refine ⟨?_,gr_refl _⟩
 have : decide (wrap64 (b : Int) < 0) = neg := by
  rw [unhide hn,decide_eq_decide]
  unfold wrap64
  omega
 rw [← this]
 rfl
set_option maxHeartbeats 400000 in
theorem double_any  (w : World)  :
  Calls Tryz.prog 12 #[] w fun e w' => e = .returned (.agg #[.int .i64 11,.int .i64 52]) ∧ Below w.heap.size w w' := by
 go_enter Tryz.func12,Tryz.ntmps12
 go_wp2
 exact bodyPost_ret (v := .agg #[.int .i64 11,.int .i64 52]) (by simp [results,Tryz.results12,go_sem]) rfl ⟨rfl,gr_alloc _ _⟩
set_option maxRecDepth 20000 in
set_option maxHeartbeats 400000 in
theorem inf_pos  (w : World)  :
  Calls Tryz.prog 14 #[.int .i64 1] w fun e w' => e = .returned (.float .f64 9218868437227405312) ∧ Below w.heap.size w w' := by
 have h1 : ∀ w,(callFunc 11 #[.int .u64 9218868437227405312]).run Tryz.prog w = .ok (.value (.float .f64 9218868437227405312)) w := fun w => nrun_from _ w
 go_enter Tryz.func14,Tryz.ntmps14
 go_wp2
 go_ret
 exact ⟨rfl,(Fs.begin w).fr⟩
set_option maxRecDepth 20000 in
set_option maxHeartbeats 400000 in
theorem inf_neg  (w : World)  :
  Calls Tryz.prog 14 #[.int .i64 (-1)] w fun e w' => e = .returned (.float .f64 18442240474082181120) ∧ Below w.heap.size w w' := by
 have h1 : ∀ w,(callFunc 11 #[.int .u64 18442240474082181120]).run Tryz.prog w = .ok (.value (.float .f64 18442240474082181120)) w := fun w => nrun_from _ w
 go_enter Tryz.func14,Tryz.ntmps14
 go_wp2
 go_ret
 exact ⟨rfl,(Fs.begin w).fr⟩
set_option maxHeartbeats 400000 in
theorem isNaN_no (a : Nat) (h : FloatKind.f64.format.order a a = some .eq) (w : World)  :
  Calls Tryz.prog 27 #[.float .f64 a] w fun e w' => e = .returned (.bool false) ∧ Below w.heap.size w w' := by
 go_enter Tryz.func27,Tryz.ntmps27
 go_wp2
 go_ret
 exact ⟨rfl,(Fs.begin w).fr⟩
set_option maxRecDepth 20000 in
set_option maxHeartbeats 400000 in
theorem copysign_pos  (w : World)  :
  Calls Tryz.prog 29 #[.float .f64 1,.float .f64 9218868437227405312] w fun e w' => e = .returned (.float .f64 1) ∧ Below w.heap.size w w' := by
 have e1 : Go.bits .andNot .u64 1 9223372036854775808 = 1 := by decide
 have e2 : Go.bits .and .u64 9218868437227405312 9223372036854775808 = 0 := by decide
 have e3 : Go.bits .or .u64 1 0 = 1 := by decide
 have h1 : ∀ w,(callFunc 30 #[.float .f64 1]).run Tryz.prog w = .ok (.value (.int .u64 1)) w := fun w => nrun_bits _ w
 have h2 : ∀ w,(callFunc 30 #[.float .f64 9218868437227405312]).run Tryz.prog w = .ok (.value (.int .u64 9218868437227405312)) w := fun w => nrun_bits _ w
 have h3 : ∀ w,(callFunc 11 #[.int .u64 1]).run Tryz.prog w = .ok (.value (.float .f64 1)) w := fun w => nrun_from _ w
 go_enter Tryz.func29,Tryz.ntmps29
 go_wp2
 go_ret
 exact ⟨rfl,(Fs.begin w).fr⟩
set_option maxRecDepth 20000 in
set_option maxHeartbeats 400000 in
theorem copysign_neg  (w : World)  :
  Calls Tryz.prog 29 #[.float .f64 1,.float .f64 18442240474082181120] w fun e w' => e = .returned (.float .f64 9223372036854775809) ∧ Below w.heap.size w w' := by
 have e1 : Go.bits .andNot .u64 1 9223372036854775808 = 1 := by decide
 have e2 : Go.bits .and .u64 18442240474082181120 9223372036854775808 = 9223372036854775808 := by decide
 have e3 : Go.bits .or .u64 1 9223372036854775808 = 9223372036854775809 := by decide
 have h1 : ∀ w,(callFunc 30 #[.float .f64 1]).run Tryz.prog w = .ok (.value (.int .u64 1)) w := fun w => nrun_bits _ w
 have h2 : ∀ w,(callFunc 30 #[.float .f64 18442240474082181120]).run Tryz.prog w = .ok (.value (.int .u64 18442240474082181120)) w := fun w => nrun_bits _ w
 have h3 : ∀ w,(callFunc 11 #[.int .u64 9223372036854775809]).run Tryz.prog w = .ok (.value (.float .f64 9223372036854775809)) w := fun w => nrun_from _ w
 go_enter Tryz.func29,Tryz.ntmps29
 go_wp2
 go_ret
 exact ⟨rfl,(Fs.begin w).fr⟩
set_option maxHeartbeats 400000 in
theorem isinf_pos (a : Nat) (r : Bool) (h : (FloatKind.f64.format.order a 9218868437227405311 == some .gt) = r) (w : World)  :
  Calls Tryz.prog 16 #[.float .f64 a,.int .i64 1] w fun e w' => e = .returned (.bool r) ∧ Below w.heap.size w w' := by
 go_enter Tryz.func16,Tryz.ntmps16
 go_wp2
 go_ret
 exact ⟨rfl,Below.refl _ _⟩
theorem run_negf (a : Nat) (w : World) : (Op.unary UnOp.neg (.float .f64 a)).run Tryz.prog w = .ok (.float .f64 (Op.negFloat .f64 a)) w := rfl
set_option maxHeartbeats 400000 in
theorem isinf_neg (a a1 : Nat) (r : Bool) (h1 : Op.negFloat .f64 a = a1) (h : (FloatKind.f64.format.order a1 9218868437227405311 == some .gt) = r) (w : World)  :
  Calls Tryz.prog 16 #[.float .f64 a,.int .i64 (-1)] w fun e w' => e = .returned (.bool r) ∧ Below w.heap.size w w' := by
 have hr : ∀ w,(Op.unary UnOp.neg (.float .f64 a)).run Tryz.prog w = .ok (.float .f64 a1) w := fun w => by rw [← h1]; exact run_negf a w
 clear h1
 go_enter Tryz.func16,Tryz.ntmps16
 go_wp2
 go_ret
 exact ⟨rfl,Below.refl _ _⟩
set_option maxHeartbeats 400000 in
theorem next_eq (a y : Nat) (ha : FloatKind.f64.format.order a a = some .eq) (hy : FloatKind.f64.format.order y y = some .eq) (h : FloatKind.f64.format.order a y = some .eq) (w : World)  :
  Calls Tryz.prog 13 #[.float .f64 a,.float .f64 y] w fun e w' => e = .returned (.float .f64 a) ∧ Below w.heap.size w w' := by
 go_enter Tryz.func13,Tryz.ntmps13
 go_wp2_with fail
 refine (isNaN_no _ ha _).mono ?_
 rintro e w1 ⟨rfl,hb1⟩
 have hS := (Fs.begin w).kept hb1
 go_wp2_with fail
 refine (isNaN_no _ hy _).mono ?_
 rintro e w2 ⟨rfl,hb2⟩
 replace hS := hS.kept hb2
 go_wp2
 go_ret
 exact ⟨rfl,hS.fr⟩
set_option maxRecDepth 20000 in
set_option maxHeartbeats 400000 in
theorem next_zero_pos (a : Nat) (ha : FloatKind.f64.format.order a a = some .eq) (hy : FloatKind.f64.format.order 9218868437227405312 9218868437227405312 = some .eq) (h : FloatKind.f64.format.order a 9218868437227405312 = some .lt) (h0 : FloatKind.f64.format.order a 0 = some .eq) (w : World)  :
  Calls Tryz.prog 13 #[.float .f64 a,.float .f64 9218868437227405312] w fun e w' => e = .returned (.float .f64 1) ∧ Below w.heap.size w w' := by
 have x1 : ∀ w,(callFunc 11 #[.int .u64 1]).run Tryz.prog w = .ok (.value (.float .f64 1)) w := fun w => nrun_from 1 w
 go_enter Tryz.func13,Tryz.ntmps13
 go_wp2_with fail
 refine (isNaN_no _ ha _).mono ?_
 rintro e w1 ⟨rfl,hb1⟩
 have hS := (Fs.begin w).kept hb1
 go_wp2_with fail
 refine (isNaN_no _ hy _).mono ?_
 rintro e w2 ⟨rfl,hb2⟩
 replace hS := hS.kept hb2
 go_wp2_with fail
 refine (copysign_pos _).mono ?_
 rintro e w3 ⟨rfl,hb3⟩
 replace hS := hS.kept hb3
 go_wp2
 go_ret
 exact ⟨rfl,hS.fr⟩
set_option maxRecDepth 20000 in
set_option maxHeartbeats 400000 in
theorem next_zero_neg (a : Nat) (ha : FloatKind.f64.format.order a a = some .eq) (hy : FloatKind.f64.format.order 18442240474082181120 18442240474082181120 = some .eq) (h : FloatKind.f64.format.order a 18442240474082181120 = some .gt) (h0 : FloatKind.f64.format.order a 0 = some .eq) (w : World)  :
  Calls Tryz.prog 13 #[.float .f64 a,.float .f64 18442240474082181120] w fun e w' => e = .returned (.float .f64 9223372036854775809) ∧ Below w.heap.size w w' := by
 have x1 : ∀ w,(callFunc 11 #[.int .u64 1]).run Tryz.prog w = .ok (.value (.float .f64 1)) w := fun w => nrun_from 1 w
 go_enter Tryz.func13,Tryz.ntmps13
 go_wp2_with fail
 refine (isNaN_no _ ha _).mono ?_
 rintro e w1 ⟨rfl,hb1⟩
 have hS := (Fs.begin w).kept hb1
 go_wp2_with fail
 refine (isNaN_no _ hy _).mono ?_
 rintro e w2 ⟨rfl,hb2⟩
 replace hS := hS.kept hb2
 go_wp2_with fail
 refine (copysign_neg _).mono ?_
 rintro e w3 ⟨rfl,hb3⟩
 replace hS := hS.kept hb3
 go_wp2
 go_ret
 exact ⟨rfl,hS.fr⟩
set_option maxRecDepth 20000 in
set_option maxHeartbeats 400000 in
theorem next_up_inc (a b y : Nat) (ha : FloatKind.f64.format.order a a = some .eq) (hy : FloatKind.f64.format.order y y = some .eq) (h : FloatKind.f64.format.order a y = some .lt) (h1 : FloatKind.f64.format.order y a = some .gt) (h0 : FloatKind.f64.format.order a 0 = some .gt) (hb : b = a + 1) (hb2 : b < 18446744073709551616) (w : World)  :
  Calls Tryz.prog 13 #[.float .f64 a,.float .f64 y] w fun e w' => e = .returned (.float .f64 b) ∧ Below w.heap.size w w' := by
 have e1 : IntKind.u64.wrap ((a : Int) + 1) = (b : Int) := by rw [IntKind.wrap_u64]; omega
 have x1 := nrun_from b
 have x2 := nrun_bits a
 clear hb hb2
 go_enter Tryz.func13,Tryz.ntmps13
 go_wp2_with fail
 refine (isNaN_no _ ha _).mono ?_
 rintro e w1 ⟨rfl,hb1⟩
 have hS := (Fs.begin w).kept hb1
 go_wp2_with fail
 refine (isNaN_no _ hy _).mono ?_
 rintro e w2 ⟨rfl,hb2⟩
 replace hS := hS.kept hb2
 go_wp2
 go_ret
 exact ⟨rfl,hS.fr⟩
set_option maxRecDepth 20000 in
set_option maxHeartbeats 400000 in
theorem next_up_dec (a b y : Nat) (ha : FloatKind.f64.format.order a a = some .eq) (hy : FloatKind.f64.format.order y y = some .eq) (h : FloatKind.f64.format.order a y = some .lt) (h1 : FloatKind.f64.format.order y a = some .gt) (h0 : FloatKind.f64.format.order a 0 = some .lt) (hb : a = b + 1) (hb2 : a < 18446744073709551616) (w : World)  :
  Calls Tryz.prog 13 #[.float .f64 a,.float .f64 y] w fun e w' => e = .returned (.float .f64 b) ∧ Below w.heap.size w w' := by
 have e1 : IntKind.u64.wrap ((a : Int) - 1) = (b : Int) := by rw [IntKind.wrap_u64]; omega
 have x1 := nrun_from b
 have x2 := nrun_bits a
 clear hb hb2
 go_enter Tryz.func13,Tryz.ntmps13
 go_wp2_with fail
 refine (isNaN_no _ ha _).mono ?_
 rintro e w1 ⟨rfl,hb1⟩
 have hS := (Fs.begin w).kept hb1
 go_wp2_with fail
 refine (isNaN_no _ hy _).mono ?_
 rintro e w2 ⟨rfl,hb2⟩
 replace hS := hS.kept hb2
 go_wp2
 go_ret
 exact ⟨rfl,hS.fr⟩
set_option maxRecDepth 20000 in
set_option maxHeartbeats 400000 in
theorem next_dn_inc (a b y : Nat) (ha : FloatKind.f64.format.order a a = some .eq) (hy : FloatKind.f64.format.order y y = some .eq) (h : FloatKind.f64.format.order a y = some .gt) (h1 : FloatKind.f64.format.order y a = some .lt) (h0 : FloatKind.f64.format.order a 0 = some .lt) (hb : b = a + 1) (hb2 : b < 18446744073709551616) (w : World)  :
  Calls Tryz.prog 13 #[.float .f64 a,.float .f64 y] w fun e w' => e = .returned (.float .f64 b) ∧ Below w.heap.size w w' := by
 have e1 : IntKind.u64.wrap ((a : Int) + 1) = (b : Int) := by rw [IntKind.wrap_u64]; omega
 have x1 := nrun_from b
 have x2 := nrun_bits a
 clear hb hb2
 go_enter Tryz.func13,Tryz.ntmps13
 go_wp2_with fail
 refine (isNaN_no _ ha _).mono ?_
 rintro e w1 ⟨rfl,hb1⟩
 have hS := (Fs.begin w).kept hb1
 go_wp2_with fail
 refine (isNaN_no _ hy _).mono ?_
 rintro e w2 ⟨rfl,hb2⟩
 replace hS := hS.kept hb2
 go_wp2
 go_ret
 exact ⟨rfl,hS.fr⟩
set_option maxRecDepth 20000 in
set_option maxHeartbeats 400000 in
theorem next_dn_dec (a b y : Nat) (ha : FloatKind.f64.format.order a a = some .eq) (hy : FloatKind.f64.format.order y y = some .eq) (h : FloatKind.f64.format.order a y = some .gt) (h1 : FloatKind.f64.format.order y a = some .lt) (h0 : FloatKind.f64.format.order a 0 = some .gt) (hb : a = b + 1) (hb2 : a < 18446744073709551616) (w : World)  :
  Calls Tryz.prog 13 #[.float .f64 a,.float .f64 y] w fun e w' => e = .returned (.float .f64 b) ∧ Below w.heap.size w w' := by
 have e1 : IntKind.u64.wrap ((a : Int) - 1) = (b : Int) := by rw [IntKind.wrap_u64]; omega
 have x1 := nrun_from b
 have x2 := nrun_bits a
 clear hb hb2
 go_enter Tryz.func13,Tryz.ntmps13
 go_wp2_with fail
 refine (isNaN_no _ ha _).mono ?_
 rintro e w1 ⟨rfl,hb1⟩
 have hS := (Fs.begin w).kept hb1
 go_wp2_with fail
 refine (isNaN_no _ hy _).mono ?_
 rintro e w2 ⟨rfl,hb2⟩
 replace hS := hS.kept hb2
 go_wp2
 go_ret
 exact ⟨rfl,hS.fr⟩
end Go.Proofs.YtdfmanglfdeooaaGreatDoor
namespace Go.Proofs.YtdfmanglfdeooaaGreatDoor
open Go.RowKit
theorem sgn_any (u : Nat) (w : World) (hu : u < 18446744073709551616) : Calls Tryz.prog 15 #[.float .f64 u] w fun e w' => e = .returned (.bool (decide ((9223372036854775808 : Int) ≤ (u : Int)))) ∧ Below w.heap.size w w' :=
 nsignbit_any u _ w hu (hide (by rw [decide_eq_decide]; omega))
set_option maxRecDepth 20000 in
set_option maxHeartbeats 4000000 in
theorem native_nan (a b : Nat) (HC : Tel 9 #[.agg #[.int .i64 11,.int .i64 52],.int .u64 (a : Int),.int .u64 (b : Int)] (.tuple #[.int .i64 0,.bool false,.int .i64 0])) (ho : FloatKind.f64.format.order a b = none) (_hp : FloatKind.f64.format.order b a = none) (HU : Tel 7 #[.agg #[.int .i64 11,.int .i64 52],.int .u64 (a : Int)] (.tuple #[.int .u64 0,.int .i64 2])) (HD : Tel 8 #[.agg #[.int .i64 11,.int .i64 52],.int .u64 (a : Int)] (.tuple #[.int .u64 0,.int .i64 2])) (ha : FloatKind.f64.format.order a a = none) (w : World) (HW : Hid (∀ W : World,Below w.heap.size w W → Calls Tryz.prog 5 #[] W fun e w' => e = .returned (.bool true) ∧ Below W.heap.size W w')) :
  Calls Tryz.prog 4 #[.int .u64 (a : Int),.int .u64 (b : Int)] w fun e w' => e = .returned (.bool true) ∧ Below w.heap.size w w' := by
 have x1 := nrun_from a
 have x2 := nrun_from b
 go_enter Tryz.func4,Tryz.ntmps4
 go_wp2_with fail
 refine (unhide HW _ (Fs.begin w).fr).mono ?_
 rintro e w1 ⟨rfl,hb1⟩
 have hS := (Fs.begin w).kept hb1
 go_wp2_with fail
 refine (double_any _).mono ?_
 rintro e w2 ⟨rfl,hb2⟩
 replace hS := hS.kept hb2
 go_wp2_with fail
 refine (HC _).mono ?_
 rintro e w3 ⟨rfl,hb3⟩
 replace hS := hS.kept hb3
 go_wp2_with fail
 refine (double_any _).mono ?_
 rintro e w4 ⟨rfl,hb4⟩
 replace hS := hS.kept hb4
 go_wp2_with fail
 refine (HU _).mono ?_
 rintro e w5 ⟨rfl,hb5⟩
 replace hS := hS.kept hb5
 go_wp2_with fail
 refine (double_any _).mono ?_
 rintro e w6 ⟨rfl,hb6⟩
 replace hS := hS.kept hb6
 go_wp2_with fail
 refine (HD _).mono ?_
 rintro e w7 ⟨rfl,hb7⟩
 replace hS := hS.kept hb7
 go_wp2
 go_ret
 exact ⟨rfl,hS.fr⟩
end Go.Proofs.YtdfmanglfdeooaaGreatDoor
namespace Go.Proofs.YtdfmanglfdeooaaGreatDoor
open Go.RowKit
set_option maxRecDepth 20000 in
set_option maxHeartbeats 4000000 in
theorem native_non_mid (a b : Nat) (HC : Tel 9 #[.agg #[.int .i64 11,.int .i64 52],.int .u64 (a : Int),.int .u64 (b : Int)] (.tuple #[.int .i64 0,.bool false,.int .i64 0])) (ho : FloatKind.f64.format.order a b = none) (_hp : FloatKind.f64.format.order b a = none) (ha : FloatKind.f64.format.order a a = some .eq) (u d : Nat) (hu : u < 18446744073709551616) (hd : d < 18446744073709551616) (HU : Tel 7 #[.agg #[.int .i64 11,.int .i64 52],.int .u64 (a : Int)] (.tuple #[.int .u64 (u : Int),.int .i64 0])) (HD : Tel 8 #[.agg #[.int .i64 11,.int .i64 52],.int .u64 (a : Int)] (.tuple #[.int .u64 (d : Int),.int .i64 0])) (hou : FloatKind.f64.format.order u u = some .eq) (hod : FloatKind.f64.format.order d d = some .eq) (HV : Tel 13 #[.float .f64 a,.float .f64 9218868437227405312] (.float .f64 u)) (HX : Tel 13 #[.float .f64 a,.float .f64 18442240474082181120] (.float .f64 d)) (HI : Tel 16 #[.float .f64 a,.int .i64 1] (.bool false)) (HJ : Tel 16 #[.float .f64 a,.int .i64 (-1)] (.bool false))  (w : World) (HW : Hid (∀ W : World,Below w.heap.size w W → Calls Tryz.prog 5 #[] W fun e w' => e = .returned (.bool true) ∧ Below W.heap.size W w')) :
  Calls Tryz.prog 4 #[.int .u64 (a : Int),.int .u64 (b : Int)] w fun e w' => e = .returned (.bool true) ∧ Below w.heap.size w w' := by
 have x1 := nrun_from a
 have x2 := nrun_from b
 have x3 := nrun_from u
 have x4 := nrun_from d
 go_enter Tryz.func4,Tryz.ntmps4
 go_wp2_with fail
 refine (unhide HW _ (Fs.begin w).fr).mono ?_
 rintro e w1 ⟨rfl,hb1⟩
 have hS := (Fs.begin w).kept hb1
 go_wp2_with fail
 refine (double_any _).mono ?_
 rintro e w2 ⟨rfl,hb2⟩
 replace hS := hS.kept hb2
 go_wp2_with fail
 refine (HC _).mono ?_
 rintro e w3 ⟨rfl,hb3⟩
 replace hS := hS.kept hb3
 go_wp2_with fail
 refine (double_any _).mono ?_
 rintro e w4 ⟨rfl,hb4⟩
 replace hS := hS.kept hb4
 go_wp2_with fail
 refine (HU _).mono ?_
 rintro e w5 ⟨rfl,hb5⟩
 replace hS := hS.kept hb5
 go_wp2_with fail
 refine (double_any _).mono ?_
 rintro e w6 ⟨rfl,hb6⟩
 replace hS := hS.kept hb6
 go_wp2_with fail
 refine (HD _).mono ?_
 rintro e w7 ⟨rfl,hb7⟩
 replace hS := hS.kept hb7
 go_wp2_with fail
 refine (inf_pos _).mono ?_
 rintro e w8 ⟨rfl,hb8⟩
 replace hS := hS.kept hb8
 go_wp2_with fail
 refine (HV _).mono ?_
 rintro e w9 ⟨rfl,hb9⟩
 replace hS := hS.kept hb9
 go_wp2_with fail
 refine (inf_neg _).mono ?_
 rintro e w10 ⟨rfl,hb10⟩
 replace hS := hS.kept hb10
 go_wp2_with fail
 refine (HX _).mono ?_
 rintro e w11 ⟨rfl,hb11⟩
 replace hS := hS.kept hb11
 go_wp2_with fail
 refine (sgn_any u _ hu).mono ?_
 rintro e w12 ⟨rfl,hb12⟩
 replace hS := hS.kept hb12
 go_wp2_with fail
 refine (sgn_any d _ hd).mono ?_
 rintro e w13 ⟨rfl,hb13⟩
 replace hS := hS.kept hb13
 go_wp2_with fail
 refine (HI _).mono ?_
 rintro e w14 ⟨rfl,hb14⟩
 replace hS := hS.kept hb14
 go_wp2_with fail
 refine (HJ _).mono ?_
 rintro e w15 ⟨rfl,hb15⟩
 replace hS := hS.kept hb15
 go_wp2
 go_ret
 exact ⟨rfl,hS.fr⟩
set_option maxRecDepth 20000 in
set_option maxHeartbeats 4000000 in
theorem native_non_pinf (a b : Nat) (HC : Tel 9 #[.agg #[.int .i64 11,.int .i64 52],.int .u64 (a : Int),.int .u64 (b : Int)] (.tuple #[.int .i64 0,.bool false,.int .i64 0])) (ho : FloatKind.f64.format.order a b = none) (_hp : FloatKind.f64.format.order b a = none) (ha : FloatKind.f64.format.order a a = some .eq) (d : Nat) (hd : d < 18446744073709551616) (HU : Tel 7 #[.agg #[.int .i64 11,.int .i64 52],.int .u64 (a : Int)] (.tuple #[.int .u64 0,.int .i64 60])) (HD : Tel 8 #[.agg #[.int .i64 11,.int .i64 52],.int .u64 (a : Int)] (.tuple #[.int .u64 (d : Int),.int .i64 0])) (hod : FloatKind.f64.format.order d d = some .eq) (HV : Tel 13 #[.float .f64 a,.float .f64 9218868437227405312] (.float .f64 a)) (HX : Tel 13 #[.float .f64 a,.float .f64 18442240474082181120] (.float .f64 d)) (HI : Tel 16 #[.float .f64 a,.int .i64 1] (.bool true)) (HJ : Tel 16 #[.float .f64 a,.int .i64 (-1)] (.bool false))  (w : World) (HW : Hid (∀ W : World,Below w.heap.size w W → Calls Tryz.prog 5 #[] W fun e w' => e = .returned (.bool true) ∧ Below W.heap.size W w')) :
  Calls Tryz.prog 4 #[.int .u64 (a : Int),.int .u64 (b : Int)] w fun e w' => e = .returned (.bool true) ∧ Below w.heap.size w w' := by
 have x1 := nrun_from a
 have x2 := nrun_from b
 have x4 := nrun_from d
 go_enter Tryz.func4,Tryz.ntmps4
 go_wp2_with fail
 refine (unhide HW _ (Fs.begin w).fr).mono ?_
 rintro e w1 ⟨rfl,hb1⟩
 have hS := (Fs.begin w).kept hb1
 go_wp2_with fail
 refine (double_any _).mono ?_
 rintro e w2 ⟨rfl,hb2⟩
 replace hS := hS.kept hb2
 go_wp2_with fail
 refine (HC _).mono ?_
 rintro e w3 ⟨rfl,hb3⟩
 replace hS := hS.kept hb3
 go_wp2_with fail
 refine (double_any _).mono ?_
 rintro e w4 ⟨rfl,hb4⟩
 replace hS := hS.kept hb4
 go_wp2_with fail
 refine (HU _).mono ?_
 rintro e w5 ⟨rfl,hb5⟩
 replace hS := hS.kept hb5
 go_wp2_with fail
 refine (double_any _).mono ?_
 rintro e w6 ⟨rfl,hb6⟩
 replace hS := hS.kept hb6
 go_wp2_with fail
 refine (HD _).mono ?_
 rintro e w7 ⟨rfl,hb7⟩
 replace hS := hS.kept hb7
 go_wp2_with fail
 refine (inf_pos _).mono ?_
 rintro e w8 ⟨rfl,hb8⟩
 replace hS := hS.kept hb8
 go_wp2_with fail
 refine (HV _).mono ?_
 rintro e w9 ⟨rfl,hb9⟩
 replace hS := hS.kept hb9
 go_wp2_with fail
 refine (inf_neg _).mono ?_
 rintro e w10 ⟨rfl,hb10⟩
 replace hS := hS.kept hb10
 go_wp2_with fail
 refine (HX _).mono ?_
 rintro e w11 ⟨rfl,hb11⟩
 replace hS := hS.kept hb11
 go_wp2_with fail
 refine (sgn_any d _ hd).mono ?_
 rintro e w12 ⟨rfl,hb12⟩
 replace hS := hS.kept hb12
 go_wp2_with fail
 refine (HI _).mono ?_
 rintro e w13 ⟨rfl,hb13⟩
 replace hS := hS.kept hb13
 go_wp2_with fail
 refine (HJ _).mono ?_
 rintro e w14 ⟨rfl,hb14⟩
 replace hS := hS.kept hb14
 go_wp2
 go_ret
 exact ⟨rfl,hS.fr⟩
set_option maxRecDepth 20000 in
set_option maxHeartbeats 4000000 in
theorem native_non_minf (a b : Nat) (HC : Tel 9 #[.agg #[.int .i64 11,.int .i64 52],.int .u64 (a : Int),.int .u64 (b : Int)] (.tuple #[.int .i64 0,.bool false,.int .i64 0])) (ho : FloatKind.f64.format.order a b = none) (_hp : FloatKind.f64.format.order b a = none) (ha : FloatKind.f64.format.order a a = some .eq) (u : Nat) (hu : u < 18446744073709551616) (HU : Tel 7 #[.agg #[.int .i64 11,.int .i64 52],.int .u64 (a : Int)] (.tuple #[.int .u64 (u : Int),.int .i64 0])) (HD : Tel 8 #[.agg #[.int .i64 11,.int .i64 52],.int .u64 (a : Int)] (.tuple #[.int .u64 0,.int .i64 60])) (hou : FloatKind.f64.format.order u u = some .eq) (HV : Tel 13 #[.float .f64 a,.float .f64 9218868437227405312] (.float .f64 u)) (HX : Tel 13 #[.float .f64 a,.float .f64 18442240474082181120] (.float .f64 a)) (HI : Tel 16 #[.float .f64 a,.int .i64 1] (.bool false)) (HJ : Tel 16 #[.float .f64 a,.int .i64 (-1)] (.bool true))  (w : World) (HW : Hid (∀ W : World,Below w.heap.size w W → Calls Tryz.prog 5 #[] W fun e w' => e = .returned (.bool true) ∧ Below W.heap.size W w')) :
  Calls Tryz.prog 4 #[.int .u64 (a : Int),.int .u64 (b : Int)] w fun e w' => e = .returned (.bool true) ∧ Below w.heap.size w w' := by
 have x1 := nrun_from a
 have x2 := nrun_from b
 have x3 := nrun_from u
 go_enter Tryz.func4,Tryz.ntmps4
 go_wp2_with fail
 refine (unhide HW _ (Fs.begin w).fr).mono ?_
 rintro e w1 ⟨rfl,hb1⟩
 have hS := (Fs.begin w).kept hb1
 go_wp2_with fail
 refine (double_any _).mono ?_
 rintro e w2 ⟨rfl,hb2⟩
 replace hS := hS.kept hb2
 go_wp2_with fail
 refine (HC _).mono ?_
 rintro e w3 ⟨rfl,hb3⟩
 replace hS := hS.kept hb3
 go_wp2_with fail
 refine (double_any _).mono ?_
 rintro e w4 ⟨rfl,hb4⟩
 replace hS := hS.kept hb4
 go_wp2_with fail
 refine (HU _).mono ?_
 rintro e w5 ⟨rfl,hb5⟩
 replace hS := hS.kept hb5
 go_wp2_with fail
 refine (double_any _).mono ?_
 rintro e w6 ⟨rfl,hb6⟩
 replace hS := hS.kept hb6
 go_wp2_with fail
 refine (HD _).mono ?_
 rintro e w7 ⟨rfl,hb7⟩
 replace hS := hS.kept hb7
 go_wp2_with fail
 refine (inf_pos _).mono ?_
 rintro e w8 ⟨rfl,hb8⟩
 replace hS := hS.kept hb8
 go_wp2_with fail
 refine (HV _).mono ?_
 rintro e w9 ⟨rfl,hb9⟩
 replace hS := hS.kept hb9
 go_wp2_with fail
 refine (inf_neg _).mono ?_
 rintro e w10 ⟨rfl,hb10⟩
 replace hS := hS.kept hb10
 go_wp2_with fail
 refine (HX _).mono ?_
 rintro e w11 ⟨rfl,hb11⟩
 replace hS := hS.kept hb11
 go_wp2_with fail
 refine (sgn_any u _ hu).mono ?_
 rintro e w12 ⟨rfl,hb12⟩
 replace hS := hS.kept hb12
 go_wp2_with fail
 refine (HI _).mono ?_
 rintro e w13 ⟨rfl,hb13⟩
 replace hS := hS.kept hb13
 go_wp2_with fail
 refine (HJ _).mono ?_
 rintro e w14 ⟨rfl,hb14⟩
 replace hS := hS.kept hb14
 go_wp2
 go_ret
 exact ⟨rfl,hS.fr⟩
end Go.Proofs.YtdfmanglfdeooaaGreatDoor
namespace Go.Proofs.YtdfmanglfdeooaaGreatDoor
open Go.RowKit
set_option maxRecDepth 20000 in
set_option maxHeartbeats 4000000 in
theorem native_lt_mid (a b : Nat) (HC : Tel 9 #[.agg #[.int .i64 11,.int .i64 52],.int .u64 (a : Int),.int .u64 (b : Int)] (.tuple #[.int .i64 (-1),.bool true,.int .i64 0])) (ho : FloatKind.f64.format.order a b = some .lt) (_hp : FloatKind.f64.format.order b a = some .gt) (ha : FloatKind.f64.format.order a a = some .eq) (u d : Nat) (hu : u < 18446744073709551616) (hd : d < 18446744073709551616) (HU : Tel 7 #[.agg #[.int .i64 11,.int .i64 52],.int .u64 (a : Int)] (.tuple #[.int .u64 (u : Int),.int .i64 0])) (HD : Tel 8 #[.agg #[.int .i64 11,.int .i64 52],.int .u64 (a : Int)] (.tuple #[.int .u64 (d : Int),.int .i64 0])) (hou : FloatKind.f64.format.order u u = some .eq) (hod : FloatKind.f64.format.order d d = some .eq) (HV : Tel 13 #[.float .f64 a,.float .f64 9218868437227405312] (.float .f64 u)) (HX : Tel 13 #[.float .f64 a,.float .f64 18442240474082181120] (.float .f64 d)) (HI : Tel 16 #[.float .f64 a,.int .i64 1] (.bool false)) (HJ : Tel 16 #[.float .f64 a,.int .i64 (-1)] (.bool false))  (w : World) (HW : Hid (∀ W : World,Below w.heap.size w W → Calls Tryz.prog 5 #[] W fun e w' => e = .returned (.bool true) ∧ Below W.heap.size W w')) :
  Calls Tryz.prog 4 #[.int .u64 (a : Int),.int .u64 (b : Int)] w fun e w' => e = .returned (.bool true) ∧ Below w.heap.size w w' := by
 have x1 := nrun_from a
 have x2 := nrun_from b
 have x3 := nrun_from u
 have x4 := nrun_from d
 go_enter Tryz.func4,Tryz.ntmps4
 go_wp2_with fail
 refine (unhide HW _ (Fs.begin w).fr).mono ?_
 rintro e w1 ⟨rfl,hb1⟩
 have hS := (Fs.begin w).kept hb1
 go_wp2_with fail
 refine (double_any _).mono ?_
 rintro e w2 ⟨rfl,hb2⟩
 replace hS := hS.kept hb2
 go_wp2_with fail
 refine (HC _).mono ?_
 rintro e w3 ⟨rfl,hb3⟩
 replace hS := hS.kept hb3
 go_wp2_with fail
 refine (double_any _).mono ?_
 rintro e w4 ⟨rfl,hb4⟩
 replace hS := hS.kept hb4
 go_wp2_with fail
 refine (HU _).mono ?_
 rintro e w5 ⟨rfl,hb5⟩
 replace hS := hS.kept hb5
 go_wp2_with fail
 refine (double_any _).mono ?_
 rintro e w6 ⟨rfl,hb6⟩
 replace hS := hS.kept hb6
 go_wp2_with fail
 refine (HD _).mono ?_
 rintro e w7 ⟨rfl,hb7⟩
 replace hS := hS.kept hb7
 go_wp2_with fail
 refine (inf_pos _).mono ?_
 rintro e w8 ⟨rfl,hb8⟩
 replace hS := hS.kept hb8
 go_wp2_with fail
 refine (HV _).mono ?_
 rintro e w9 ⟨rfl,hb9⟩
 replace hS := hS.kept hb9
 go_wp2_with fail
 refine (inf_neg _).mono ?_
 rintro e w10 ⟨rfl,hb10⟩
 replace hS := hS.kept hb10
 go_wp2_with fail
 refine (HX _).mono ?_
 rintro e w11 ⟨rfl,hb11⟩
 replace hS := hS.kept hb11
 go_wp2_with fail
 refine (sgn_any u _ hu).mono ?_
 rintro e w12 ⟨rfl,hb12⟩
 replace hS := hS.kept hb12
 go_wp2_with fail
 refine (sgn_any d _ hd).mono ?_
 rintro e w13 ⟨rfl,hb13⟩
 replace hS := hS.kept hb13
 go_wp2_with fail
 refine (HI _).mono ?_
 rintro e w14 ⟨rfl,hb14⟩
 replace hS := hS.kept hb14
 go_wp2_with fail
 refine (HJ _).mono ?_
 rintro e w15 ⟨rfl,hb15⟩
 replace hS := hS.kept hb15
 go_wp2
 go_ret
 exact ⟨rfl,hS.fr⟩
set_option maxRecDepth 20000 in
set_option maxHeartbeats 4000000 in
theorem native_lt_pinf (a b : Nat) (HC : Tel 9 #[.agg #[.int .i64 11,.int .i64 52],.int .u64 (a : Int),.int .u64 (b : Int)] (.tuple #[.int .i64 (-1),.bool true,.int .i64 0])) (ho : FloatKind.f64.format.order a b = some .lt) (_hp : FloatKind.f64.format.order b a = some .gt) (ha : FloatKind.f64.format.order a a = some .eq) (d : Nat) (hd : d < 18446744073709551616) (HU : Tel 7 #[.agg #[.int .i64 11,.int .i64 52],.int .u64 (a : Int)] (.tuple #[.int .u64 0,.int .i64 60])) (HD : Tel 8 #[.agg #[.int .i64 11,.int .i64 52],.int .u64 (a : Int)] (.tuple #[.int .u64 (d : Int),.int .i64 0])) (hod : FloatKind.f64.format.order d d = some .eq) (HV : Tel 13 #[.float .f64 a,.float .f64 9218868437227405312] (.float .f64 a)) (HX : Tel 13 #[.float .f64 a,.float .f64 18442240474082181120] (.float .f64 d)) (HI : Tel 16 #[.float .f64 a,.int .i64 1] (.bool true)) (HJ : Tel 16 #[.float .f64 a,.int .i64 (-1)] (.bool false))  (w : World) (HW : Hid (∀ W : World,Below w.heap.size w W → Calls Tryz.prog 5 #[] W fun e w' => e = .returned (.bool true) ∧ Below W.heap.size W w')) :
  Calls Tryz.prog 4 #[.int .u64 (a : Int),.int .u64 (b : Int)] w fun e w' => e = .returned (.bool true) ∧ Below w.heap.size w w' := by
 have x1 := nrun_from a
 have x2 := nrun_from b
 have x4 := nrun_from d
 go_enter Tryz.func4,Tryz.ntmps4
 go_wp2_with fail
 refine (unhide HW _ (Fs.begin w).fr).mono ?_
 rintro e w1 ⟨rfl,hb1⟩
 have hS := (Fs.begin w).kept hb1
 go_wp2_with fail
 refine (double_any _).mono ?_
 rintro e w2 ⟨rfl,hb2⟩
 replace hS := hS.kept hb2
 go_wp2_with fail
 refine (HC _).mono ?_
 rintro e w3 ⟨rfl,hb3⟩
 replace hS := hS.kept hb3
 go_wp2_with fail
 refine (double_any _).mono ?_
 rintro e w4 ⟨rfl,hb4⟩
 replace hS := hS.kept hb4
 go_wp2_with fail
 refine (HU _).mono ?_
 rintro e w5 ⟨rfl,hb5⟩
 replace hS := hS.kept hb5
 go_wp2_with fail
 refine (double_any _).mono ?_
 rintro e w6 ⟨rfl,hb6⟩
 replace hS := hS.kept hb6
 go_wp2_with fail
 refine (HD _).mono ?_
 rintro e w7 ⟨rfl,hb7⟩
 replace hS := hS.kept hb7
 go_wp2_with fail
 refine (inf_pos _).mono ?_
 rintro e w8 ⟨rfl,hb8⟩
 replace hS := hS.kept hb8
 go_wp2_with fail
 refine (HV _).mono ?_
 rintro e w9 ⟨rfl,hb9⟩
 replace hS := hS.kept hb9
 go_wp2_with fail
 refine (inf_neg _).mono ?_
 rintro e w10 ⟨rfl,hb10⟩
 replace hS := hS.kept hb10
 go_wp2_with fail
 refine (HX _).mono ?_
 rintro e w11 ⟨rfl,hb11⟩
 replace hS := hS.kept hb11
 go_wp2_with fail
 refine (sgn_any d _ hd).mono ?_
 rintro e w12 ⟨rfl,hb12⟩
 replace hS := hS.kept hb12
 go_wp2_with fail
 refine (HI _).mono ?_
 rintro e w13 ⟨rfl,hb13⟩
 replace hS := hS.kept hb13
 go_wp2_with fail
 refine (HJ _).mono ?_
 rintro e w14 ⟨rfl,hb14⟩
 replace hS := hS.kept hb14
 go_wp2
 go_ret
 exact ⟨rfl,hS.fr⟩
set_option maxRecDepth 20000 in
set_option maxHeartbeats 4000000 in
theorem native_lt_minf (a b : Nat) (HC : Tel 9 #[.agg #[.int .i64 11,.int .i64 52],.int .u64 (a : Int),.int .u64 (b : Int)] (.tuple #[.int .i64 (-1),.bool true,.int .i64 0])) (ho : FloatKind.f64.format.order a b = some .lt) (_hp : FloatKind.f64.format.order b a = some .gt) (ha : FloatKind.f64.format.order a a = some .eq) (u : Nat) (hu : u < 18446744073709551616) (HU : Tel 7 #[.agg #[.int .i64 11,.int .i64 52],.int .u64 (a : Int)] (.tuple #[.int .u64 (u : Int),.int .i64 0])) (HD : Tel 8 #[.agg #[.int .i64 11,.int .i64 52],.int .u64 (a : Int)] (.tuple #[.int .u64 0,.int .i64 60])) (hou : FloatKind.f64.format.order u u = some .eq) (HV : Tel 13 #[.float .f64 a,.float .f64 9218868437227405312] (.float .f64 u)) (HX : Tel 13 #[.float .f64 a,.float .f64 18442240474082181120] (.float .f64 a)) (HI : Tel 16 #[.float .f64 a,.int .i64 1] (.bool false)) (HJ : Tel 16 #[.float .f64 a,.int .i64 (-1)] (.bool true))  (w : World) (HW : Hid (∀ W : World,Below w.heap.size w W → Calls Tryz.prog 5 #[] W fun e w' => e = .returned (.bool true) ∧ Below W.heap.size W w')) :
  Calls Tryz.prog 4 #[.int .u64 (a : Int),.int .u64 (b : Int)] w fun e w' => e = .returned (.bool true) ∧ Below w.heap.size w w' := by
 have x1 := nrun_from a
 have x2 := nrun_from b
 have x3 := nrun_from u
 go_enter Tryz.func4,Tryz.ntmps4
 go_wp2_with fail
 refine (unhide HW _ (Fs.begin w).fr).mono ?_
 rintro e w1 ⟨rfl,hb1⟩
 have hS := (Fs.begin w).kept hb1
 go_wp2_with fail
 refine (double_any _).mono ?_
 rintro e w2 ⟨rfl,hb2⟩
 replace hS := hS.kept hb2
 go_wp2_with fail
 refine (HC _).mono ?_
 rintro e w3 ⟨rfl,hb3⟩
 replace hS := hS.kept hb3
 go_wp2_with fail
 refine (double_any _).mono ?_
 rintro e w4 ⟨rfl,hb4⟩
 replace hS := hS.kept hb4
 go_wp2_with fail
 refine (HU _).mono ?_
 rintro e w5 ⟨rfl,hb5⟩
 replace hS := hS.kept hb5
 go_wp2_with fail
 refine (double_any _).mono ?_
 rintro e w6 ⟨rfl,hb6⟩
 replace hS := hS.kept hb6
 go_wp2_with fail
 refine (HD _).mono ?_
 rintro e w7 ⟨rfl,hb7⟩
 replace hS := hS.kept hb7
 go_wp2_with fail
 refine (inf_pos _).mono ?_
 rintro e w8 ⟨rfl,hb8⟩
 replace hS := hS.kept hb8
 go_wp2_with fail
 refine (HV _).mono ?_
 rintro e w9 ⟨rfl,hb9⟩
 replace hS := hS.kept hb9
 go_wp2_with fail
 refine (inf_neg _).mono ?_
 rintro e w10 ⟨rfl,hb10⟩
 replace hS := hS.kept hb10
 go_wp2_with fail
 refine (HX _).mono ?_
 rintro e w11 ⟨rfl,hb11⟩
 replace hS := hS.kept hb11
 go_wp2_with fail
 refine (sgn_any u _ hu).mono ?_
 rintro e w12 ⟨rfl,hb12⟩
 replace hS := hS.kept hb12
 go_wp2_with fail
 refine (HI _).mono ?_
 rintro e w13 ⟨rfl,hb13⟩
 replace hS := hS.kept hb13
 go_wp2_with fail
 refine (HJ _).mono ?_
 rintro e w14 ⟨rfl,hb14⟩
 replace hS := hS.kept hb14
 go_wp2
 go_ret
 exact ⟨rfl,hS.fr⟩
end Go.Proofs.YtdfmanglfdeooaaGreatDoor
namespace Go.Proofs.YtdfmanglfdeooaaGreatDoor
open Go.RowKit
set_option maxRecDepth 20000 in
set_option maxHeartbeats 4000000 in
theorem native_eq_mid (a b : Nat) (HC : Tel 9 #[.agg #[.int .i64 11,.int .i64 52],.int .u64 (a : Int),.int .u64 (b : Int)] (.tuple #[.int .i64 0,.bool true,.int .i64 0])) (ho : FloatKind.f64.format.order a b = some .eq) (_hp : FloatKind.f64.format.order b a = some .eq) (ha : FloatKind.f64.format.order a a = some .eq) (u d : Nat) (hu : u < 18446744073709551616) (hd : d < 18446744073709551616) (HU : Tel 7 #[.agg #[.int .i64 11,.int .i64 52],.int .u64 (a : Int)] (.tuple #[.int .u64 (u : Int),.int .i64 0])) (HD : Tel 8 #[.agg #[.int .i64 11,.int .i64 52],.int .u64 (a : Int)] (.tuple #[.int .u64 (d : Int),.int .i64 0])) (hou : FloatKind.f64.format.order u u = some .eq) (hod : FloatKind.f64.format.order d d = some .eq) (HV : Tel 13 #[.float .f64 a,.float .f64 9218868437227405312] (.float .f64 u)) (HX : Tel 13 #[.float .f64 a,.float .f64 18442240474082181120] (.float .f64 d)) (HI : Tel 16 #[.float .f64 a,.int .i64 1] (.bool false)) (HJ : Tel 16 #[.float .f64 a,.int .i64 (-1)] (.bool false))  (w : World) (HW : Hid (∀ W : World,Below w.heap.size w W → Calls Tryz.prog 5 #[] W fun e w' => e = .returned (.bool true) ∧ Below W.heap.size W w')) :
  Calls Tryz.prog 4 #[.int .u64 (a : Int),.int .u64 (b : Int)] w fun e w' => e = .returned (.bool true) ∧ Below w.heap.size w w' := by
 have x1 := nrun_from a
 have x2 := nrun_from b
 have x3 := nrun_from u
 have x4 := nrun_from d
 go_enter Tryz.func4,Tryz.ntmps4
 go_wp2_with fail
 refine (unhide HW _ (Fs.begin w).fr).mono ?_
 rintro e w1 ⟨rfl,hb1⟩
 have hS := (Fs.begin w).kept hb1
 go_wp2_with fail
 refine (double_any _).mono ?_
 rintro e w2 ⟨rfl,hb2⟩
 replace hS := hS.kept hb2
 go_wp2_with fail
 refine (HC _).mono ?_
 rintro e w3 ⟨rfl,hb3⟩
 replace hS := hS.kept hb3
 go_wp2_with fail
 refine (double_any _).mono ?_
 rintro e w4 ⟨rfl,hb4⟩
 replace hS := hS.kept hb4
 go_wp2_with fail
 refine (HU _).mono ?_
 rintro e w5 ⟨rfl,hb5⟩
 replace hS := hS.kept hb5
 go_wp2_with fail
 refine (double_any _).mono ?_
 rintro e w6 ⟨rfl,hb6⟩
 replace hS := hS.kept hb6
 go_wp2_with fail
 refine (HD _).mono ?_
 rintro e w7 ⟨rfl,hb7⟩
 replace hS := hS.kept hb7
 go_wp2_with fail
 refine (inf_pos _).mono ?_
 rintro e w8 ⟨rfl,hb8⟩
 replace hS := hS.kept hb8
 go_wp2_with fail
 refine (HV _).mono ?_
 rintro e w9 ⟨rfl,hb9⟩
 replace hS := hS.kept hb9
 go_wp2_with fail
 refine (inf_neg _).mono ?_
 rintro e w10 ⟨rfl,hb10⟩
 replace hS := hS.kept hb10
 go_wp2_with fail
 refine (HX _).mono ?_
 rintro e w11 ⟨rfl,hb11⟩
 replace hS := hS.kept hb11
 go_wp2_with fail
 refine (sgn_any u _ hu).mono ?_
 rintro e w12 ⟨rfl,hb12⟩
 replace hS := hS.kept hb12
 go_wp2_with fail
 refine (sgn_any d _ hd).mono ?_
 rintro e w13 ⟨rfl,hb13⟩
 replace hS := hS.kept hb13
 go_wp2_with fail
 refine (HI _).mono ?_
 rintro e w14 ⟨rfl,hb14⟩
 replace hS := hS.kept hb14
 go_wp2_with fail
 refine (HJ _).mono ?_
 rintro e w15 ⟨rfl,hb15⟩
 replace hS := hS.kept hb15
 go_wp2
 go_ret
 exact ⟨rfl,hS.fr⟩
set_option maxRecDepth 20000 in
set_option maxHeartbeats 4000000 in
theorem native_eq_pinf (a b : Nat) (HC : Tel 9 #[.agg #[.int .i64 11,.int .i64 52],.int .u64 (a : Int),.int .u64 (b : Int)] (.tuple #[.int .i64 0,.bool true,.int .i64 0])) (ho : FloatKind.f64.format.order a b = some .eq) (_hp : FloatKind.f64.format.order b a = some .eq) (ha : FloatKind.f64.format.order a a = some .eq) (d : Nat) (hd : d < 18446744073709551616) (HU : Tel 7 #[.agg #[.int .i64 11,.int .i64 52],.int .u64 (a : Int)] (.tuple #[.int .u64 0,.int .i64 60])) (HD : Tel 8 #[.agg #[.int .i64 11,.int .i64 52],.int .u64 (a : Int)] (.tuple #[.int .u64 (d : Int),.int .i64 0])) (hod : FloatKind.f64.format.order d d = some .eq) (HV : Tel 13 #[.float .f64 a,.float .f64 9218868437227405312] (.float .f64 a)) (HX : Tel 13 #[.float .f64 a,.float .f64 18442240474082181120] (.float .f64 d)) (HI : Tel 16 #[.float .f64 a,.int .i64 1] (.bool true)) (HJ : Tel 16 #[.float .f64 a,.int .i64 (-1)] (.bool false))  (w : World) (HW : Hid (∀ W : World,Below w.heap.size w W → Calls Tryz.prog 5 #[] W fun e w' => e = .returned (.bool true) ∧ Below W.heap.size W w')) :
  Calls Tryz.prog 4 #[.int .u64 (a : Int),.int .u64 (b : Int)] w fun e w' => e = .returned (.bool true) ∧ Below w.heap.size w w' := by
 have x1 := nrun_from a
 have x2 := nrun_from b
 have x4 := nrun_from d
 go_enter Tryz.func4,Tryz.ntmps4
 go_wp2_with fail
 refine (unhide HW _ (Fs.begin w).fr).mono ?_
 rintro e w1 ⟨rfl,hb1⟩
 have hS := (Fs.begin w).kept hb1
 go_wp2_with fail
 refine (double_any _).mono ?_
 rintro e w2 ⟨rfl,hb2⟩
 replace hS := hS.kept hb2
 go_wp2_with fail
 refine (HC _).mono ?_
 rintro e w3 ⟨rfl,hb3⟩
 replace hS := hS.kept hb3
 go_wp2_with fail
 refine (double_any _).mono ?_
 rintro e w4 ⟨rfl,hb4⟩
 replace hS := hS.kept hb4
 go_wp2_with fail
 refine (HU _).mono ?_
 rintro e w5 ⟨rfl,hb5⟩
 replace hS := hS.kept hb5
 go_wp2_with fail
 refine (double_any _).mono ?_
 rintro e w6 ⟨rfl,hb6⟩
 replace hS := hS.kept hb6
 go_wp2_with fail
 refine (HD _).mono ?_
 rintro e w7 ⟨rfl,hb7⟩
 replace hS := hS.kept hb7
 go_wp2_with fail
 refine (inf_pos _).mono ?_
 rintro e w8 ⟨rfl,hb8⟩
 replace hS := hS.kept hb8
 go_wp2_with fail
 refine (HV _).mono ?_
 rintro e w9 ⟨rfl,hb9⟩
 replace hS := hS.kept hb9
 go_wp2_with fail
 refine (inf_neg _).mono ?_
 rintro e w10 ⟨rfl,hb10⟩
 replace hS := hS.kept hb10
 go_wp2_with fail
 refine (HX _).mono ?_
 rintro e w11 ⟨rfl,hb11⟩
 replace hS := hS.kept hb11
 go_wp2_with fail
 refine (sgn_any d _ hd).mono ?_
 rintro e w12 ⟨rfl,hb12⟩
 replace hS := hS.kept hb12
 go_wp2_with fail
 refine (HI _).mono ?_
 rintro e w13 ⟨rfl,hb13⟩
 replace hS := hS.kept hb13
 go_wp2_with fail
 refine (HJ _).mono ?_
 rintro e w14 ⟨rfl,hb14⟩
 replace hS := hS.kept hb14
 go_wp2
 go_ret
 exact ⟨rfl,hS.fr⟩
set_option maxRecDepth 20000 in
set_option maxHeartbeats 4000000 in
theorem native_eq_minf (a b : Nat) (HC : Tel 9 #[.agg #[.int .i64 11,.int .i64 52],.int .u64 (a : Int),.int .u64 (b : Int)] (.tuple #[.int .i64 0,.bool true,.int .i64 0])) (ho : FloatKind.f64.format.order a b = some .eq) (_hp : FloatKind.f64.format.order b a = some .eq) (ha : FloatKind.f64.format.order a a = some .eq) (u : Nat) (hu : u < 18446744073709551616) (HU : Tel 7 #[.agg #[.int .i64 11,.int .i64 52],.int .u64 (a : Int)] (.tuple #[.int .u64 (u : Int),.int .i64 0])) (HD : Tel 8 #[.agg #[.int .i64 11,.int .i64 52],.int .u64 (a : Int)] (.tuple #[.int .u64 0,.int .i64 60])) (hou : FloatKind.f64.format.order u u = some .eq) (HV : Tel 13 #[.float .f64 a,.float .f64 9218868437227405312] (.float .f64 u)) (HX : Tel 13 #[.float .f64 a,.float .f64 18442240474082181120] (.float .f64 a)) (HI : Tel 16 #[.float .f64 a,.int .i64 1] (.bool false)) (HJ : Tel 16 #[.float .f64 a,.int .i64 (-1)] (.bool true))  (w : World) (HW : Hid (∀ W : World,Below w.heap.size w W → Calls Tryz.prog 5 #[] W fun e w' => e = .returned (.bool true) ∧ Below W.heap.size W w')) :
  Calls Tryz.prog 4 #[.int .u64 (a : Int),.int .u64 (b : Int)] w fun e w' => e = .returned (.bool true) ∧ Below w.heap.size w w' := by
 have x1 := nrun_from a
 have x2 := nrun_from b
 have x3 := nrun_from u
 go_enter Tryz.func4,Tryz.ntmps4
 go_wp2_with fail
 refine (unhide HW _ (Fs.begin w).fr).mono ?_
 rintro e w1 ⟨rfl,hb1⟩
 have hS := (Fs.begin w).kept hb1
 go_wp2_with fail
 refine (double_any _).mono ?_
 rintro e w2 ⟨rfl,hb2⟩
 replace hS := hS.kept hb2
 go_wp2_with fail
 refine (HC _).mono ?_
 rintro e w3 ⟨rfl,hb3⟩
 replace hS := hS.kept hb3
 go_wp2_with fail
 refine (double_any _).mono ?_
 rintro e w4 ⟨rfl,hb4⟩
 replace hS := hS.kept hb4
 go_wp2_with fail
 refine (HU _).mono ?_
 rintro e w5 ⟨rfl,hb5⟩
 replace hS := hS.kept hb5
 go_wp2_with fail
 refine (double_any _).mono ?_
 rintro e w6 ⟨rfl,hb6⟩
 replace hS := hS.kept hb6
 go_wp2_with fail
 refine (HD _).mono ?_
 rintro e w7 ⟨rfl,hb7⟩
 replace hS := hS.kept hb7
 go_wp2_with fail
 refine (inf_pos _).mono ?_
 rintro e w8 ⟨rfl,hb8⟩
 replace hS := hS.kept hb8
 go_wp2_with fail
 refine (HV _).mono ?_
 rintro e w9 ⟨rfl,hb9⟩
 replace hS := hS.kept hb9
 go_wp2_with fail
 refine (inf_neg _).mono ?_
 rintro e w10 ⟨rfl,hb10⟩
 replace hS := hS.kept hb10
 go_wp2_with fail
 refine (HX _).mono ?_
 rintro e w11 ⟨rfl,hb11⟩
 replace hS := hS.kept hb11
 go_wp2_with fail
 refine (sgn_any u _ hu).mono ?_
 rintro e w12 ⟨rfl,hb12⟩
 replace hS := hS.kept hb12
 go_wp2_with fail
 refine (HI _).mono ?_
 rintro e w13 ⟨rfl,hb13⟩
 replace hS := hS.kept hb13
 go_wp2_with fail
 refine (HJ _).mono ?_
 rintro e w14 ⟨rfl,hb14⟩
 replace hS := hS.kept hb14
 go_wp2
 go_ret
 exact ⟨rfl,hS.fr⟩
end Go.Proofs.YtdfmanglfdeooaaGreatDoor
namespace Go.Proofs.YtdfmanglfdeooaaGreatDoor
open Go.RowKit
set_option maxRecDepth 20000 in
set_option maxHeartbeats 4000000 in
theorem native_gt_mid (a b : Nat) (HC : Tel 9 #[.agg #[.int .i64 11,.int .i64 52],.int .u64 (a : Int),.int .u64 (b : Int)] (.tuple #[.int .i64 1,.bool true,.int .i64 0])) (ho : FloatKind.f64.format.order a b = some .gt) (_hp : FloatKind.f64.format.order b a = some .lt) (ha : FloatKind.f64.format.order a a = some .eq) (u d : Nat) (hu : u < 18446744073709551616) (hd : d < 18446744073709551616) (HU : Tel 7 #[.agg #[.int .i64 11,.int .i64 52],.int .u64 (a : Int)] (.tuple #[.int .u64 (u : Int),.int .i64 0])) (HD : Tel 8 #[.agg #[.int .i64 11,.int .i64 52],.int .u64 (a : Int)] (.tuple #[.int .u64 (d : Int),.int .i64 0])) (hou : FloatKind.f64.format.order u u = some .eq) (hod : FloatKind.f64.format.order d d = some .eq) (HV : Tel 13 #[.float .f64 a,.float .f64 9218868437227405312] (.float .f64 u)) (HX : Tel 13 #[.float .f64 a,.float .f64 18442240474082181120] (.float .f64 d)) (HI : Tel 16 #[.float .f64 a,.int .i64 1] (.bool false)) (HJ : Tel 16 #[.float .f64 a,.int .i64 (-1)] (.bool false))  (w : World) (HW : Hid (∀ W : World,Below w.heap.size w W → Calls Tryz.prog 5 #[] W fun e w' => e = .returned (.bool true) ∧ Below W.heap.size W w')) :
  Calls Tryz.prog 4 #[.int .u64 (a : Int),.int .u64 (b : Int)] w fun e w' => e = .returned (.bool true) ∧ Below w.heap.size w w' := by
 have x1 := nrun_from a
 have x2 := nrun_from b
 have x3 := nrun_from u
 have x4 := nrun_from d
 go_enter Tryz.func4,Tryz.ntmps4
 go_wp2_with fail
 refine (unhide HW _ (Fs.begin w).fr).mono ?_
 rintro e w1 ⟨rfl,hb1⟩
 have hS := (Fs.begin w).kept hb1
 go_wp2_with fail
 refine (double_any _).mono ?_
 rintro e w2 ⟨rfl,hb2⟩
 replace hS := hS.kept hb2
 go_wp2_with fail
 refine (HC _).mono ?_
 rintro e w3 ⟨rfl,hb3⟩
 replace hS := hS.kept hb3
 go_wp2_with fail
 refine (double_any _).mono ?_
 rintro e w4 ⟨rfl,hb4⟩
 replace hS := hS.kept hb4
 go_wp2_with fail
 refine (HU _).mono ?_
 rintro e w5 ⟨rfl,hb5⟩
 replace hS := hS.kept hb5
 go_wp2_with fail
 refine (double_any _).mono ?_
 rintro e w6 ⟨rfl,hb6⟩
 replace hS := hS.kept hb6
 go_wp2_with fail
 refine (HD _).mono ?_
 rintro e w7 ⟨rfl,hb7⟩
 replace hS := hS.kept hb7
 go_wp2_with fail
 refine (inf_pos _).mono ?_
 rintro e w8 ⟨rfl,hb8⟩
 replace hS := hS.kept hb8
 go_wp2_with fail
 refine (HV _).mono ?_
 rintro e w9 ⟨rfl,hb9⟩
 replace hS := hS.kept hb9
 go_wp2_with fail
 refine (inf_neg _).mono ?_
 rintro e w10 ⟨rfl,hb10⟩
 replace hS := hS.kept hb10
 go_wp2_with fail
 refine (HX _).mono ?_
 rintro e w11 ⟨rfl,hb11⟩
 replace hS := hS.kept hb11
 go_wp2_with fail
 refine (sgn_any u _ hu).mono ?_
 rintro e w12 ⟨rfl,hb12⟩
 replace hS := hS.kept hb12
 go_wp2_with fail
 refine (sgn_any d _ hd).mono ?_
 rintro e w13 ⟨rfl,hb13⟩
 replace hS := hS.kept hb13
 go_wp2_with fail
 refine (HI _).mono ?_
 rintro e w14 ⟨rfl,hb14⟩
 replace hS := hS.kept hb14
 go_wp2_with fail
 refine (HJ _).mono ?_
 rintro e w15 ⟨rfl,hb15⟩
 replace hS := hS.kept hb15
 go_wp2
 go_ret
 exact ⟨rfl,hS.fr⟩
set_option maxRecDepth 20000 in
set_option maxHeartbeats 4000000 in
theorem native_gt_pinf (a b : Nat) (HC : Tel 9 #[.agg #[.int .i64 11,.int .i64 52],.int .u64 (a : Int),.int .u64 (b : Int)] (.tuple #[.int .i64 1,.bool true,.int .i64 0])) (ho : FloatKind.f64.format.order a b = some .gt) (_hp : FloatKind.f64.format.order b a = some .lt) (ha : FloatKind.f64.format.order a a = some .eq) (d : Nat) (hd : d < 18446744073709551616) (HU : Tel 7 #[.agg #[.int .i64 11,.int .i64 52],.int .u64 (a : Int)] (.tuple #[.int .u64 0,.int .i64 60])) (HD : Tel 8 #[.agg #[.int .i64 11,.int .i64 52],.int .u64 (a : Int)] (.tuple #[.int .u64 (d : Int),.int .i64 0])) (hod : FloatKind.f64.format.order d d = some .eq) (HV : Tel 13 #[.float .f64 a,.float .f64 9218868437227405312] (.float .f64 a)) (HX : Tel 13 #[.float .f64 a,.float .f64 18442240474082181120] (.float .f64 d)) (HI : Tel 16 #[.float .f64 a,.int .i64 1] (.bool true)) (HJ : Tel 16 #[.float .f64 a,.int .i64 (-1)] (.bool false))  (w : World) (HW : Hid (∀ W : World,Below w.heap.size w W → Calls Tryz.prog 5 #[] W fun e w' => e = .returned (.bool true) ∧ Below W.heap.size W w')) :
  Calls Tryz.prog 4 #[.int .u64 (a : Int),.int .u64 (b : Int)] w fun e w' => e = .returned (.bool true) ∧ Below w.heap.size w w' := by
 have x1 := nrun_from a
 have x2 := nrun_from b
 have x4 := nrun_from d
 go_enter Tryz.func4,Tryz.ntmps4
 go_wp2_with fail
 refine (unhide HW _ (Fs.begin w).fr).mono ?_
 rintro e w1 ⟨rfl,hb1⟩
 have hS := (Fs.begin w).kept hb1
 go_wp2_with fail
 refine (double_any _).mono ?_
 rintro e w2 ⟨rfl,hb2⟩
 replace hS := hS.kept hb2
 go_wp2_with fail
 refine (HC _).mono ?_
 rintro e w3 ⟨rfl,hb3⟩
 replace hS := hS.kept hb3
 go_wp2_with fail
 refine (double_any _).mono ?_
 rintro e w4 ⟨rfl,hb4⟩
 replace hS := hS.kept hb4
 go_wp2_with fail
 refine (HU _).mono ?_
 rintro e w5 ⟨rfl,hb5⟩
 replace hS := hS.kept hb5
 go_wp2_with fail
 refine (double_any _).mono ?_
 rintro e w6 ⟨rfl,hb6⟩
 replace hS := hS.kept hb6
 go_wp2_with fail
 refine (HD _).mono ?_
 rintro e w7 ⟨rfl,hb7⟩
 replace hS := hS.kept hb7
 go_wp2_with fail
 refine (inf_pos _).mono ?_
 rintro e w8 ⟨rfl,hb8⟩
 replace hS := hS.kept hb8
 go_wp2_with fail
 refine (HV _).mono ?_
 rintro e w9 ⟨rfl,hb9⟩
 replace hS := hS.kept hb9
 go_wp2_with fail
 refine (inf_neg _).mono ?_
 rintro e w10 ⟨rfl,hb10⟩
 replace hS := hS.kept hb10
 go_wp2_with fail
 refine (HX _).mono ?_
 rintro e w11 ⟨rfl,hb11⟩
 replace hS := hS.kept hb11
 go_wp2_with fail
 refine (sgn_any d _ hd).mono ?_
 rintro e w12 ⟨rfl,hb12⟩
 replace hS := hS.kept hb12
 go_wp2_with fail
 refine (HI _).mono ?_
 rintro e w13 ⟨rfl,hb13⟩
 replace hS := hS.kept hb13
 go_wp2_with fail
 refine (HJ _).mono ?_
 rintro e w14 ⟨rfl,hb14⟩
 replace hS := hS.kept hb14
 go_wp2
 go_ret
 exact ⟨rfl,hS.fr⟩
set_option maxRecDepth 20000 in
set_option maxHeartbeats 4000000 in
theorem native_gt_minf (a b : Nat) (HC : Tel 9 #[.agg #[.int .i64 11,.int .i64 52],.int .u64 (a : Int),.int .u64 (b : Int)] (.tuple #[.int .i64 1,.bool true,.int .i64 0])) (ho : FloatKind.f64.format.order a b = some .gt) (_hp : FloatKind.f64.format.order b a = some .lt) (ha : FloatKind.f64.format.order a a = some .eq) (u : Nat) (hu : u < 18446744073709551616) (HU : Tel 7 #[.agg #[.int .i64 11,.int .i64 52],.int .u64 (a : Int)] (.tuple #[.int .u64 (u : Int),.int .i64 0])) (HD : Tel 8 #[.agg #[.int .i64 11,.int .i64 52],.int .u64 (a : Int)] (.tuple #[.int .u64 0,.int .i64 60])) (hou : FloatKind.f64.format.order u u = some .eq) (HV : Tel 13 #[.float .f64 a,.float .f64 9218868437227405312] (.float .f64 u)) (HX : Tel 13 #[.float .f64 a,.float .f64 18442240474082181120] (.float .f64 a)) (HI : Tel 16 #[.float .f64 a,.int .i64 1] (.bool false)) (HJ : Tel 16 #[.float .f64 a,.int .i64 (-1)] (.bool true))  (w : World) (HW : Hid (∀ W : World,Below w.heap.size w W → Calls Tryz.prog 5 #[] W fun e w' => e = .returned (.bool true) ∧ Below W.heap.size W w')) :
  Calls Tryz.prog 4 #[.int .u64 (a : Int),.int .u64 (b : Int)] w fun e w' => e = .returned (.bool true) ∧ Below w.heap.size w w' := by
 have x1 := nrun_from a
 have x2 := nrun_from b
 have x3 := nrun_from u
 go_enter Tryz.func4,Tryz.ntmps4
 go_wp2_with fail
 refine (unhide HW _ (Fs.begin w).fr).mono ?_
 rintro e w1 ⟨rfl,hb1⟩
 have hS := (Fs.begin w).kept hb1
 go_wp2_with fail
 refine (double_any _).mono ?_
 rintro e w2 ⟨rfl,hb2⟩
 replace hS := hS.kept hb2
 go_wp2_with fail
 refine (HC _).mono ?_
 rintro e w3 ⟨rfl,hb3⟩
 replace hS := hS.kept hb3
 go_wp2_with fail
 refine (double_any _).mono ?_
 rintro e w4 ⟨rfl,hb4⟩
 replace hS := hS.kept hb4
 go_wp2_with fail
 refine (HU _).mono ?_
 rintro e w5 ⟨rfl,hb5⟩
 replace hS := hS.kept hb5
 go_wp2_with fail
 refine (double_any _).mono ?_
 rintro e w6 ⟨rfl,hb6⟩
 replace hS := hS.kept hb6
 go_wp2_with fail
 refine (HD _).mono ?_
 rintro e w7 ⟨rfl,hb7⟩
 replace hS := hS.kept hb7
 go_wp2_with fail
 refine (inf_pos _).mono ?_
 rintro e w8 ⟨rfl,hb8⟩
 replace hS := hS.kept hb8
 go_wp2_with fail
 refine (HV _).mono ?_
 rintro e w9 ⟨rfl,hb9⟩
 replace hS := hS.kept hb9
 go_wp2_with fail
 refine (inf_neg _).mono ?_
 rintro e w10 ⟨rfl,hb10⟩
 replace hS := hS.kept hb10
 go_wp2_with fail
 refine (HX _).mono ?_
 rintro e w11 ⟨rfl,hb11⟩
 replace hS := hS.kept hb11
 go_wp2_with fail
 refine (sgn_any u _ hu).mono ?_
 rintro e w12 ⟨rfl,hb12⟩
 replace hS := hS.kept hb12
 go_wp2_with fail
 refine (HI _).mono ?_
 rintro e w13 ⟨rfl,hb13⟩
 replace hS := hS.kept hb13
 go_wp2_with fail
 refine (HJ _).mono ?_
 rintro e w14 ⟨rfl,hb14⟩
 replace hS := hS.kept hb14
 go_wp2
 go_ret
 exact ⟨rfl,hS.fr⟩
end Go.Proofs.YtdfmanglfdeooaaGreatDoor
