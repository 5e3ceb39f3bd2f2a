/- Of what SoftSumsRow stands on: SkKinds. -/
import Derived.Test.YtfnhimofpelmdaaGreatDoorPbg
import Derived.Test.YtfnhimofpelmdaaGreatDoorPbi
namespace Go.Proofs.YtfnhimofpelmdaaGreatDoor
open Go.RowKit
inductive Kr : Kd → Bool → Bool → Bool → Bool → Bool → Nat → Int → Prop
 | nanq (g : Bool) : Kr (.nan 0) g true true false false 0 0
 | nanl (g : Bool) : Kr (.nan 16) g true false false false 0 0
 | inf (g : Bool) : Kr (.inf g 0) g false false true false 0 0
 | zero (g : Bool) : Kr (.zero g 0) g false false false false 0 0
 | num (g : Bool) (m : Nat) (x : Int) (hm : 0 < m) (ho : OkD g m x) (hx : -2048 ≤ x) (hk : m * 2 ^ (x - -2048).toNat < 2 ^ 3100) : Kr (.num g m x 0) g false false false g m x
theorem flt_kr {E F S I b : Nat} (h : Fm E F S I) (hb : b < 2 * S) : ∃ (k : Kd) (g n q i s : Bool) (m : Nat) (x : Int),FlOf E F b k ∧ OpR E F b g n q i s m x ∧ Kr k g n q i s m x ∧ g = decide (S ≤ b) ∧ (i = true → b = infS S I g) := by
 have h0 := h.fo
 have hB := Bt.of E F b (h.bt hb)
 have hneg : decide (b / 2 ^ (F + E) = 1) = decide (S ≤ b) := by
  rw [← h.hS]
  rcases div_two h.pos hb with ⟨h1,h2,-⟩ | ⟨h1,h2,-⟩
  ·simp [h2]; omega
  ·simp [h2]; omega
 rw [hneg] at hB
 generalize decide (S ≤ b) = neg at hB hneg
 generalize b % 2 ^ (F + E) / 2 ^ F = ex at hB
 generalize b % 2 ^ F = fr at hB
 obtain ⟨B,hBi⟩ : ∃ B,B = 2 ^ (E - 1) - 1 := ⟨_,rfl⟩
 have HBi := hide hBi
 have hE4 := two_lt h0.e2
 have HS : Tel 100 #[.agg #[.int .i64 E,.int .i64 F],.int .u64 (b : Int)] (.tuple #[.agg #[.bool neg,.int .i64 ex,.int .u64 fr],.int .i64 0]) := fun W => Split_ok E F b ex fr neg h0 hB W
 have HC : ∀ c : Nat,cls ex fr (2 ^ E - 1) = c → Tel 99 #[.agg #[.int .i64 E,.int .i64 F],.int .u64 (b : Int)] (.tuple #[.int .u8 (c : Int),.int .i64 0]) := fun c hc W => by
  have := Class_ok E F b ex fr neg h0 hB _ (hide rfl) W
  rw [hc] at this
  exact this
 by_cases hx : ex + 1 = 2 ^ E
 ·by_cases hf : fr = 0
  ·have hc : cls ex fr (2 ^ E - 1) = 4 := by unfold cls; rw [if_neg (by omega),if_neg (by omega),if_neg (by omega),if_pos hf]
   refine ⟨.inf neg 0,neg,false,false,true,false,0,0,flOf_one (fun _ _ => rfl) (fun W => floatOf_inf E F b ex fr neg (HC 4 hc) HS W),opR_one (fun W => open_inf E F b ex fr neg h0 (hide hB) hx hf W),.inf neg,rfl,fun _ => ?_⟩
   have heq := hB.eq
   rw [hf,show ex = 2 ^ E - 1 from by omega,← h.hI,← h.hS] at heq
   unfold infS
   cases neg <;> simp at heq ⊢ <;> omega
  ·have hc : cls ex fr (2 ^ E - 1) = 5 := by unfold cls; rw [if_neg (by omega),if_neg (by omega),if_neg (by omega),if_neg hf]
   have hfl := hB.fr_lt
   have hpow : 2 ^ F = 2 * 2 ^ (F - 1) := by rw [← Nat.pow_succ',Nat.succ_eq_add_one,Nat.sub_add_cancel h0.f1]
   have hp1 := pow_pos2 (F - 1)
   by_cases hq : 2 ^ (F - 1) ≤ fr
   ·have hd : fr / 2 ^ (F - 1) = 1 := by rw [Nat.div_eq_iff hp1]; omega
    have HP : Tel 109 #[.agg #[.int .i64 E,.int .i64 F],.int .u64 (b : Int)] (.tuple #[.int .u64 ((fr % 2 ^ (F - 1) : Nat) : Int),.bool true,.int .i64 0]) := fun W => Payload_nan E F b ex fr neg h0 hB _ true hc (hide rfl) (hide (by simp [hq])) W
    exact ⟨.nan 0,neg,true,true,false,false,0,0,flOf_one (fun _ _ => rfl) (fun W => floatOf_nan E F b ex fr neg (HC 5 hc) HS 0 (fun W => noneOf_quiet E F b _ HP W) W),opR_one (fun W => open_quiet E F b ex fr neg h0 (hide hB) hx (by omega) hd W),.nanq neg,rfl,fun c => by cases c⟩
   ·have hd : fr / 2 ^ (F - 1) = 0 := Nat.div_eq_of_lt (by omega)
    have HP : Tel 109 #[.agg #[.int .i64 E,.int .i64 F],.int .u64 (b : Int)] (.tuple #[.int .u64 ((fr % 2 ^ (F - 1) : Nat) : Int),.bool false,.int .i64 0]) := fun W => Payload_nan E F b ex fr neg h0 hB _ false hc (hide rfl) (hide (by simp [hq])) W
    exact ⟨.nan 16,neg,true,false,false,false,0,0,flOf_one (fun _ _ => rfl) (fun W => floatOf_nan E F b ex fr neg (HC 5 hc) HS 16 (fun W => noneOf_loud E F b _ HP W) W),opR_one (fun W => open_loud E F b ex fr neg h0 (hide hB) hx (by omega) hd W),.nanl neg,rfl,fun c => by cases c⟩
 have hfin : ex + 1 < 2 ^ E := by have := hB.ex_lt; omega
 by_cases hz : ex = 0 ∧ fr = 0
 ·obtain ⟨rfl,rfl⟩ := hz
  exact ⟨.zero neg 0,neg,false,false,false,false,0,0,flOf_one (fun _ _ => rfl) (fun W => floatOf_zero E F b 0 0 neg (HC 1 (by unfold cls; rw [if_pos ⟨rfl,rfl⟩])) HS W),
   fun W => open_fin E F b 0 0 neg h0 (hide hB) hfin false 0 0 (hide fun W => rValue_zero E F B b neg h0 HBi hB W) W,.zero neg,rfl,fun c => by cases c⟩
 obtain ⟨M,z,xe,hW⟩ := Wo.ex (B := B) hfin hB.fr_lt hz
 have hzl := hW.zle
 have hF := h0.f52
 have hr := hW.range h0 HBi
 have hod := hW.odd
 have hM0 := hW.pos
 have hc : ∃ c : Nat,cls ex fr (2 ^ E - 1) = c ∧ (c = 2 ∨ c = 3) := by
  unfold cls
  by_cases he : ex = 0
  ·exact ⟨2,by rw [if_neg hz,if_pos he],Or.inl rfl⟩
  ·exact ⟨3,by rw [if_neg hz,if_neg he,if_pos (by omega)],Or.inr rfl⟩
 obtain ⟨c,hc1,hc2⟩ := hc
 refine ⟨.num neg (M / 2 ^ z) (xe + (z : Int)) 0,neg,false,false,false,neg,M / 2 ^ z,xe + (z : Int),?_,?_,.num neg _ _ (Nat.pos_of_ne_zero (fun c => by rw [c] at hod; exact absurd hod.1 (by decide))) (Or.inr ⟨hod.1,by omega,by omega⟩) (by omega) ?_,rfl,fun c => by cases c⟩
 ·intro W hT
  exact floatOf_num E F b c ex fr neg (HC c hc1) HS (by simp; omega) (by simp; omega) (by simp; omega) neg (M / 2 ^ z) (xe + (z : Int)) (hide (vals_wo h0 HBi hB hW)) W hT
 ·refine fun W => open_fin E F b ex fr neg h0 (hide hB) hfin neg (M / 2 ^ z) (xe + (z : Int)) (hide fun W => ?_) W
  rcases hW.part with ⟨rfl,rfl,hf,rfl⟩ | ⟨h1,hM,rfl⟩
  ·exact rValue_small E F B b M z neg h0 HBi hB W hf hW.tz (by omega)
  ·have := rValue_normal E F B b ex fr M z neg h0 HBi hB W h1 hfin hM hW.tz (by omega)
   rw [show ((ex : Int) - (B : Int) - (F : Int)) = 1 - (B : Int) - (F : Int) + ((ex : Int) - 1) from by omega] at this
   exact this
 ·obtain ⟨u,hu⟩ : ∃ u : Nat,xe - -2048 = (u : Int) := ⟨(xe - -2048).toNat,by omega⟩
  rw [show (xe + (z : Int) - -2048).toNat = z + u from by omega,Nat.pow_add,← Nat.mul_assoc,hod.2]
  have h1 : M * 2 ^ u < 2 ^ (F + 1) * 2 ^ u := Nat.mul_lt_mul_of_pos_right hW.lt (pow_pos2 _)
  rw [← Nat.pow_add] at h1
  exact Nat.lt_of_lt_of_le h1 (pow_bound (n := F + 1 + u) (k := 3100) (by omega))
end Go.Proofs.YtfnhimofpelmdaaGreatDoor
