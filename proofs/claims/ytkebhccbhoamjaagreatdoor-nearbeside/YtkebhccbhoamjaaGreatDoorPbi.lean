/- Of what NearBesideRow stands on: NrBesLaw. -/
import Derived.Test.YtkebhccbhoamjaaGreatDoorPbh
namespace Go.Proofs.YtkebhccbhoamjaaGreatDoor
open Go.RowKit
theorem Fm.inf4 {E F S I b ex fr : Nat} {neg : Bool} (h : Fm E F S I) (hB : Bt E F b neg ex fr) : cls ex fr (2 ^ E - 1) = 4 ↔ b % S = I := by
 have hr := hB.rest
 rw [← h.hS] at hr
 have h1 := hB.fr_lt
 have h2 := hB.ex_lt
 have hI := h.hI
 have hE : 2 ^ 2 ≤ 2 ^ E := pow_bound h.fo.e2
 have h6 := h.six
 have hmul : ex < 2 ^ E - 1 → ex * 2 ^ F + 2 ^ F ≤ (2 ^ E - 1) * 2 ^ F := fun hx => by
  have := Nat.mul_le_mul_right (2 ^ F) (show ex + 1 ≤ 2 ^ E - 1 from hx)
  rw [Nat.add_mul,Nat.one_mul] at this
  exact this
 unfold cls
 by_cases h0 : ex = 0
 ·subst h0
  have := hmul (by omega)
  by_cases h3 : fr = 0
  ·simp [h3]; omega
  ·simp [h3]; omega
 ·by_cases hlt : ex < 2 ^ E - 1
  ·have := hmul hlt
   simp [h0,hlt]; omega
  ·have he : ex = 2 ^ E - 1 := by omega
   have hm : ex * 2 ^ F = I := by rw [he,hI]
   by_cases h3 : fr = 0
   ·simp [h0,hlt,h3]; omega
   ·simp [h0,hlt,h3]; omega
theorem cls_five (ex fr top : Nat) : 1 ≤ cls ex fr top ∧ cls ex fr top ≤ 5 := by
 unfold cls
 split
 ·omega
 ·split
  ·omega
  ·split
   ·omega
   ·split <;> omega
theorem half_T {E F S I : Nat} (h : Fm E F S I) : Tel 50 #[.agg #[.int .i64 E,.int .i64 F]] (.int .u64 (S : Int)) := fun W => rhalf6 E F S h.fo (hide h.hS) W
theorem rfits_T {E F S I b : Nat} (h : Fm E F S I) (hb : b < 2 * S) : Tel 47 #[.agg #[.int .i64 E,.int .i64 F],.int .u64 (b : Int)] (.int .i64 0) := fun W => rfits_ok E F b h.fo (h.bt hb) W
theorem rcls_T {E F S I b : Nat} (h : Fm E F S I) (hb : b < 2 * S) : ∃ c : Nat,1 ≤ c ∧ c ≤ 5 ∧ (c = 5 ↔ I < b % S) ∧ (c = 4 ↔ b % S = I) ∧ Tel 108 #[.agg #[.int .i64 E,.int .i64 F],.int .u64 (b : Int)] (.tuple #[.int .u8 (c : Int),.int .i64 0]) := by
 have hB := Bt.of E F b (h.bt hb)
 have hc := cls_five (b % 2 ^ (F + E) / 2 ^ F) (b % 2 ^ F) (2 ^ E - 1)
 exact ⟨_,hc.1,hc.2,h.nan hB,h.inf4 hB,fun W => rClass_ok E F b _ _ _ h.fo hB _ (hide rfl) W⟩
theorem ne_of {c k : Nat} (h : ¬ c = k) : ((c : Int) == (k : Int)) = false := by simp only [beq_eq_false_iff_ne,ne_eq]; omega
theorem hi_N {E F S I b : Nat} (h : Fm E F S I) (hb : b < 2 * S) (hn : ¬ b % S ≤ I) : Tel 11 #[.agg #[.int .i64 E,.int .i64 F],.int .u64 (b : Int)] (.tuple #[.int .u64 0,.int .i64 2]) := by
 obtain ⟨c,_,_,h5,_,HC⟩ := rcls_T h hb
 obtain rfl := h5.2 (by omega)
 exact fun W => higher_nan E F b (rfits_T h hb) (fun W => rclass6 E F b 5 HC W) W
theorem hi_E {E F S I : Nat} (h : Fm E F S I) : Tel 11 #[.agg #[.int .i64 E,.int .i64 F],.int .u64 (I : Int)] (.tuple #[.int .u64 0,.int .i64 60]) := by
 have hlt := h.lt
 have hb : I < 2 * S := by omega
 have hm : I % S = I := Nat.mod_eq_of_lt hlt
 obtain ⟨c,_,_,_,h4,HC⟩ := rcls_T h hb
 obtain rfl := h4.2 hm
 exact fun W => higher_end E F I _ (rfits_T h hb) (fun W => rclass6 E F I 4 HC W) (fun W => rplace_lo E F S I I h.pos hm hlt (half_T h) W) W
theorem hi_T {E F S I b : Nat} (h : Fm E F S I) (hb : b < 2 * S) (hn : b % S ≤ I) (he : b ≠ I) : Tel 11 #[.agg #[.int .i64 E,.int .i64 F],.int .u64 (b : Int)] (.tuple #[.int .u64 (upN S b : Int),.int .i64 0]) := by
 intro W
 have h63 := h.s63
 have h6 := h.six
 obtain ⟨c,_,_,h5,h4,HC⟩ := rcls_T h hb
 have n5 : ¬ c = 5 := fun e => by have := h5.1 e; omega
 have HK : Tel 48 #[.agg #[.int .i64 E,.int .i64 F],.int .u64 (b : Int)] (.int .u8 (c : Int)) := fun W => rclass6 E F b c HC W
 unfold upN
 rcases div_two h.pos hb with ⟨h1,h2,h3⟩ | ⟨h1,h2,h3⟩
 ·rw [if_pos h1]
  have n4 : ¬ c = 4 := fun e => by have := h4.1 e; omega
  exact higher_pos E F b b _ c (ne_of n5) (ne_of n4) (rfits_T h hb) HK (fun W => rplace_lo E F S b b h.pos h3 h1 (half_T h) W) (by rw [IntKind.wrap_u64]; omega) W
 ·rw [if_neg h1]
  by_cases h0 : b = S
  ·rw [if_pos h0]
   have n4 : ¬ c = 4 := fun e => by have := h4.1 e; omega
   exact higher_pos E F b 0 _ c (ne_of n5) (ne_of n4) (rfits_T h hb) HK (fun W => rplace_no E F S b 0 h.pos (by omega) (by omega) rfl (half_T h) W) (by rw [IntKind.wrap_u64]; rfl) W
  ·rw [if_neg h0]
   exact higher_neg E F b ((b - S : Nat) : Int) S _ c (ne_of n5) (rfits_T h hb) HK (fun W => rplace_hi E F S b (b - S) h.pos h3 (by omega) (by omega) (half_T h) W) (half_T h) (by rw [IntKind.wrap_u64,IntKind.wrap_u64]; omega) W
def flN (S b : Nat) : Nat := if S ≤ b then b - S else b + S
theorem flip_T {E F S I b : Nat} (h : Fm E F S I) (hb : b < 2 * S) : Tel 51 #[.agg #[.int .i64 E,.int .i64 F],.int .u64 (b : Int)] (.int .u64 (flN S b : Int)) := by
 intro W
 have h63 := h.s63
 unfold flN
 by_cases h1 : S ≤ b
 ·rw [if_pos h1]; exact flip_hi E F b S _ (half_T h) (by omega) (by rw [IntKind.wrap_u64]; omega) W
 ·rw [if_neg h1]; exact flip_lo E F b S _ (half_T h) (by omega) (by rw [IntKind.wrap_u64]; omega) W
theorem fl_lt {S b : Nat} (hb : b < 2 * S) : flN S b < 2 * S := by unfold flN; split <;> omega
theorem fl_mod {S b : Nat} (h0 : 0 < S) (hb : b < 2 * S) : flN S b % S = b % S := by
 unfold flN
 rcases div_two h0 hb with ⟨h1,_,h3⟩ | ⟨h1,_,h3⟩
 ·rw [if_neg (by omega),Nat.add_mod_right]
 ·rw [if_pos (by omega),h3,Nat.mod_eq_of_lt (by omega)]
theorem fl_up {S I b : Nat} (hI : I < S) (h6 : 6 ≤ I) (hb : b < 2 * S) (hn : b % S ≤ I) (he : b ≠ S + I) : flN S (upN S (flN S b)) = dnN S b := by
 rcases div_two (show 0 < S by omega) hb with ⟨h1,_,h3⟩ | ⟨h1,_,h3⟩
 ·have e1 : flN S b = b + S := by unfold flN; rw [if_neg (by omega)]
  rw [e1]
  by_cases h0 : b = 0
  ·subst h0
   have e2 : upN S (0 + S) = 1 := by unfold upN; rw [if_neg (by omega),if_pos (by omega)]
   rw [e2]; unfold flN dnN; rw [if_neg (by omega),if_pos rfl]; omega
  ·have e2 : upN S (b + S) = b + S - 1 := by unfold upN; rw [if_neg (by omega),if_neg (by omega)]
   rw [e2]; unfold flN dnN; rw [if_pos (by omega),if_neg h0,if_pos h1]; omega
 ·have e1 : flN S b = b - S := by unfold flN; rw [if_pos (by omega)]
  rw [e1]
  have e2 : upN S (b - S) = b - S + 1 := by unfold upN; rw [if_pos (by omega)]
  rw [e2]; unfold flN dnN; rw [if_neg (by omega),if_neg (by omega),if_neg h1]; omega
theorem plc_up6 {E F S I b : Nat} (h : Fm E F S I) (hb : b < 2 * S) (hn : b % S ≤ I) (he : b ≠ I) : upN S b < 2 * S ∧ upN S b % S ≤ I ∧ upN S b ≠ S + I ∧ plc S (upN S b) = plc S b + 1 := by
 have hlt := h.lt
 have h6 := h.six
 unfold upN
 rcases div_two h.pos hb with ⟨h1,h2,h3⟩ | ⟨h1,h2,h3⟩
 ·rw [if_pos h1]
  have h4 : b + 1 < S := by omega
  rw [Nat.mod_eq_of_lt h4]
  refine ⟨by omega,by omega,by omega,?_⟩
  unfold plc; rw [if_pos h4,if_pos h1]; omega
 ·rw [if_neg h1]
  by_cases h0 : b = S
  ·rw [if_pos h0,Nat.mod_eq_of_lt (by omega)]
   refine ⟨by omega,by omega,by omega,?_⟩
   unfold plc; rw [if_pos (by omega),if_neg h1]; omega
  ·rw [if_neg h0]
   rcases div_two h.pos (show b - 1 < 2 * S by omega) with ⟨k1,k2,k3⟩ | ⟨k1,k2,k3⟩
   ·omega
   ·refine ⟨by omega,by omega,by omega,?_⟩
    unfold plc; rw [if_neg k1,if_neg h1]; omega
theorem ups {E F S I b : Nat} (h : Fm E F S I) (hb : b < 2 * S) : ∃ u eu : Int,Tel 10 #[.agg #[.int .i64 E,.int .i64 F],.int .u64 (b : Int)] (.tuple #[.int .u64 u,.int .i64 eu]) ∧ Tel 11 #[.agg #[.int .i64 E,.int .i64 F],.int .u64 (b : Int)] (.tuple #[.int .u64 u,.int .i64 eu]) := by
 by_cases hn : b % S ≤ I
 ·by_cases he : b = I
  ·subst he; exact ⟨_,_,Up_E h,hi_E h⟩
  ·exact ⟨_,_,Up_T h hb hn he,hi_T h hb hn he⟩
 ·exact ⟨_,_,Up_N h hb hn,hi_N h hb hn⟩
theorem downs {E F S I b : Nat} (h : Fm E F S I) (hb : b < 2 * S) : ∃ d ed : Int,Tel 12 #[.agg #[.int .i64 E,.int .i64 F],.int .u64 (b : Int)] (.tuple #[.int .u64 d,.int .i64 ed]) ∧ Tel 13 #[.agg #[.int .i64 E,.int .i64 F],.int .u64 (b : Int)] (.tuple #[.int .u64 d,.int .i64 ed]) := by
 have hf := fl_lt hb
 have hm := fl_mod h.pos hb
 have hlt := h.lt
 by_cases hn : b % S ≤ I
 ·by_cases he : b = S + I
  ·have e1 : flN S b = I := by rw [he]; unfold flN; rw [if_pos (by omega)]; omega
   have hF := flip_T h hb
   rw [e1] at hF
   have hD := Down_E h
   rw [← he] at hD
   exact ⟨_,_,hD,fun W => lower_no E F b I 0 60 rfl (rfits_T h hb) hF (hi_E h) W⟩
  ·have hne : flN S b ≠ I := by
    intro e
    unfold flN at e
    by_cases h1 : S ≤ b
    ·rw [if_pos h1] at e; omega
    ·rw [if_neg h1] at e; omega
   obtain ⟨u1,_,_,_⟩ := plc_up6 h hf (by rw [hm]; exact hn) hne
   have hG2 := flip_T h u1
   rw [fl_up hlt h.six hb hn he] at hG2
   exact ⟨_,_,Down_T h hb hn he,fun W => lower_ok E F b _ _ _ (rfits_T h hb) (flip_T h hb) (hi_T h hf (by rw [hm]; exact hn) hne) hG2 W⟩
 ·exact ⟨_,_,Down_N h hb hn,fun W => lower_no E F b _ 0 2 rfl (rfits_T h hb) (flip_T h hb) (hi_N h hf (by rw [hm]; exact hn)) W⟩
theorem nearBeside_any (E F : Int) (b : Nat) (w : World) (hT : Tb w) (hN : Nb w) (hb64 : b < 18446744073709551616) :
  Calls Tryz.prog 3 #[.agg #[.int .i64 E,.int .i64 F],.int .u64 (b : Int)] w fun e w' => e = .returned (.bool true) ∧ Below w.heap.size w w' := by
 have HW : Hid (∀ W : World,Below w.heap.size w W → Calls Tryz.prog 9 #[] W fun e w' => e = .returned (.bool true) ∧ Below W.heap.size W w') := hide fun W hb => awake6_any W (hT.kept hb) (hN.kept hb)
 by_cases hf : 2 ≤ E ∧ E ≤ 11 ∧ 1 ≤ F ∧ F ≤ 52
 ·obtain ⟨E',rfl⟩ : ∃ n : Nat,E = (n : Int) := ⟨E.toNat,by omega⟩
  obtain ⟨F',rfl⟩ : ∃ n : Nat,F = (n : Int) := ⟨F.toNat,by omega⟩
  obtain ⟨S,hS⟩ : ∃ S,S = 2 ^ (F' + E') := ⟨_,rfl⟩
  obtain ⟨I,hI⟩ : ∃ I,I = (2 ^ E' - 1) * 2 ^ F' := ⟨_,rfl⟩
  have h : Fm E' F' S I := ⟨⟨by omega,by omega,by omega,by omega⟩,hS,hI⟩
  clear hS hI hf
  by_cases hb : b < 2 * S
  ·obtain ⟨u,eu,HU,HH⟩ := ups h hb
   obtain ⟨d,ed,HD,HL⟩ := downs h hb
   obtain ⟨B,hBi⟩ : ∃ B,B = 2 ^ (E' - 1) - 1 := ⟨_,rfl⟩
   have hBt := Bt.of E' F' b (h.bt hb)
   obtain ⟨c,c1,c5,h5,h4,HC⟩ := rcls_T h hb
   by_cases hfin : c ≤ 3
   ·have hB10 : B ≤ 1023 := by
     rw [hBi]
     have := pow_bound (n := E' - 1) (k := 10) (by have := h.fo.e11; omega)
     have e10 : (2 : Nat) ^ 10 = 1024 := by decide
     omega
    have hex := hBt.ex64 h.fo
    have hF52 := h.fo.f52
    have hex2 : b % 2 ^ (F' + E') / 2 ^ F' + 1 < 2 ^ E' := by
     have hne5 := (h.nan hBt).2
     have hne4 := (h.inf4 hBt).2
     have hrest := hBt.rest
     refine Nat.lt_of_not_le fun hge => ?_
     have he : 2 ^ E' - 1 ≤ b % 2 ^ (F' + E') / 2 ^ F' := by
      generalize b % 2 ^ (F' + E') / 2 ^ F' = q at *
      generalize 2 ^ E' = r at *
      omega
     have hle := Nat.mul_le_mul_right (2 ^ F') he
     rw [← h.hI] at hle
     have : I ≤ b % S := by
      rw [h.hS,hrest]; exact Nat.le_trans hle (Nat.le_add_right _ _)
     rcases Nat.lt_or_eq_of_le this with q | q
     ·have := h5.2 q; omega
     ·have := h4.2 q.symm; omega
    obtain ⟨s0,m,x,hV⟩ : ∃ s0 m x,Vals E' F' b s0 m x := by
     by_cases hz : b % 2 ^ (F' + E') / 2 ^ F' = 0 ∧ b % 2 ^ F' = 0
     ·rw [hz.1,hz.2] at hBt
      exact ⟨_,_,_,vals_zero h.fo (hide hBi) hBt⟩
     ·obtain ⟨M,z,xe,hW⟩ := Wo.ex (B := B) hex2 hBt.fr_lt hz
      exact ⟨_,_,_,vals_wo h.fo (hide hBi) hBt hW⟩
    generalize decide (b / 2 ^ (F' + E') = 1) = sg at *
    generalize b % 2 ^ (F' + E') / 2 ^ F' = ex at *
    generalize b % 2 ^ F' = fr at *
    obtain ⟨mx,hmx⟩ : ∃ mx : Int,max (ex : Int) 1 = mx := ⟨_,rfl⟩
    have hk : (1 - (B : Int) - (F' : Int)) + mx - 1 = mx - (B : Int) - (F' : Int) := by omega
    refine beside_B E' F' b u eu d ed HU HH HD HL (mx - (B : Int) - (F' : Int)) w hT (hide fun W hT => ?_) (hide fun W => ?_) HW
    ·exact Ulp_is E' F' b s0 m x sg ex fr (1 - (B : Int) - (F' : Int)) B mx _ W hT (hide hV) (fun W => Split_ok E' F' b ex fr sg h.fo hBt W) (fun W => Range_ok E' F' B h.fo (hide hBi) W) hmx hk (by omega) (by omega) (hide (mk1 _ _ (by omega)))
    ·exact rulp_ok E' F' b _ (by omega) (rfits_T h hb) (fun W => rfin_yes E' F' b c (by omega) HC W) (fun W => runit E' F' b sg ex fr mx B _ (fun W => rSplit_ok E' F' b ex fr sg h.fo hBt W) (fun W => rbias_any E' F' B h.fo (hide hBi) W) hmx rfl (by omega) (by omega) (by omega) W) W
   ·have hV : Tel 52 #[.agg #[.int .i64 E',.int .i64 F'],.int .u64 (b : Int)] (.tuple #[.agg #[.bool false,.slice none 0 0,.int .i64 0],.int .i64 8]) := by
     have hc : c = 4 ∨ c = 5 := by omega
     rcases hc with hc | hc
     ·exact fun W => Value_4 E' F' B b _ _ _ h.fo (hide hBi) hBt ((h.inf4 hBt).2 (h4.1 hc)) W
     ·exact fun W => Value_5 E' F' B b _ _ _ h.fo (hide hBi) hBt ((h.nan hBt).2 (h5.1 hc)) W
    exact beside_A E' F' b u eu d ed HU HH HD HL 8 (fun W => nulp_err E' F' b 8 rfl hV W) (fun W => rulp_no E' F' b (rfits_T h hb) (fun W => rfin_no E' F' b c (by omega) HC W) W) w HW
  ·have hM : Tel 47 #[.agg #[.int .i64 E',.int .i64 F'],.int .u64 (b : Int)] (.int .i64 6) := fun W => rfits_many E' F' b h.fo (h.tb hb) hb64 W
   have hV : Tel 52 #[.agg #[.int .i64 E',.int .i64 F'],.int .u64 (b : Int)] (.tuple #[.agg #[.bool false,.slice none 0 0,.int .i64 0],.int .i64 6]) := fun W => Value_many E' F' b h.fo (h.tb hb) W
   exact beside_A E' F' b 0 6 0 6 (Up_X (fits_M h hb) rfl) (fun W => higher_err E' F' b 6 rfl hM W) (Down_X (fits_M h hb) rfl) (fun W => lower_err E' F' b 6 rfl hM W) 6 (fun W => nulp_err E' F' b 6 rfl hV W) (fun W => rulp_err E' F' b 6 rfl hM W) w HW
 ·have hb : NoFo E F := by unfold NoFo; omega
  have hM : Tel 47 #[.agg #[.int .i64 E,.int .i64 F],.int .u64 (b : Int)] (.int .i64 5) := fun W => rfits_bad E F hb _ W
  have hV : Tel 52 #[.agg #[.int .i64 E,.int .i64 F],.int .u64 (b : Int)] (.tuple #[.agg #[.bool false,.slice none 0 0,.int .i64 0],.int .i64 5]) := fun W => Value_form E F hb _ W
  exact beside_A E F b 0 5 0 5 (Up_X (fits_B hb _) rfl) (fun W => higher_err E F b 5 rfl hM W) (Down_X (fits_B hb _) rfl) (fun W => lower_err E F b 5 rfl hM W) 5 (fun W => nulp_err E F b 5 rfl hV W) (fun W => rulp_err E F b 5 rfl hM W) w HW
end Go.Proofs.YtkebhccbhoamjaaGreatDoor
