/- Of what NearRowRow stands on: NrRowLaw. -/
import Derived.Test.YtkebhccbhoamjaaGreatDoorPbh
import Derived.Test.YtkebhccbhoamjaaGreatDoorPbi
import Derived.Test.YtkebhccbhoamjaaGreatDoorPbj
import Derived.Test.YtkebhccbhoamjaaGreatDoorPbm
import Derived.Test.YtkebhccbhoamjaaGreatDoorPbl
import Derived.Test.YtkebhccbhoamjaaGreatDoorPbn
namespace Go.Proofs.YtkebhccbhoamjaaGreatDoor
open Go.RowKit
def RVals (E F b : Int) (s : Bool) (m : Nat) (x : Int) : Prop := ∀ W : World,Calls Tryz.prog 127 #[.agg #[.int .i64 E,.int .i64 F],.int .u64 b] W fun e w' => (∃ A N C,e = .returned (.tuple #[.agg #[.bool s,.slice A N C,.int .i64 x],.int .i64 0]) ∧ Mine w' W.heap.size A N C m) ∧ Below W.heap.size W w'
theorem vfin {E F B b ex fr : Nat} {s : Bool} (h0 : Fo E F) (hBi : B = 2 ^ (E - 1) - 1) (hB : Bt E F b s ex fr) (hfin : ex + 1 < 2 ^ E) :
  ∃ q v y,RVals E F b q v y ∧ Vals E F b q v y ∧ OkD q v y ∧ -2048 ≤ y ∧ v * 2 ^ (y - -2048).toNat < 2 ^ 3100 := by
 have HBi := hide hBi
 by_cases hz : ex = 0 ∧ fr = 0
 ·obtain ⟨rfl,rfl⟩ := hz
  refine ⟨false,0,0,fun W => rValue_zero E F B b s h0 HBi hB W,vals_zero h0 HBi hB,Or.inl ⟨rfl,rfl,rfl⟩,by omega,?_⟩
  rw [Nat.zero_mul]; exact pow_pos2 3100
 obtain ⟨M,z,xe,hW⟩ := Wo.ex (B := B) hfin hB.fr_lt hz
 have hzl := hW.zle
 have hF := h0.f52
 have hr := hW.range h0 HBi
 have hod := hW.odd
 refine ⟨s,M / 2 ^ z,xe + (z : Int),fun w => ?_,vals_wo h0 HBi hB hW,Or.inr ⟨hod.1,by omega,by omega⟩,by omega,?_⟩
 ·rcases hW.part with ⟨rfl,rfl,hf,rfl⟩ | ⟨h1,hM,rfl⟩
  ·exact rValue_small E F B b M z s h0 HBi hB w hf hW.tz (by omega)
  ·have := rValue_normal E F B b ex fr M z s h0 HBi hB w h1 hfin hM hW.tz (by omega)
   rw [show ((ex : Int) - (B : Int) - (F : Int)) = 1 - (B : Int) - (F : Int) + ((ex : Int) - 1) from by omega] at this
   exact this
 ·obtain ⟨u,hu⟩ : ∃ u : Nat,xe - -2048 = (u : Int) := ⟨(xe - -2048).toNat,by omega⟩
  rw [show (xe + (z : Int) - -2048).toNat = z + u from by omega,Nat.pow_add,← Nat.mul_assoc,hod.2]
  have h1 : M * 2 ^ u < 2 ^ (F + 1) * 2 ^ u := Nat.mul_lt_mul_of_pos_right hW.lt (pow_pos2 _)
  rw [← Nat.pow_add] at h1
  exact Nat.lt_of_lt_of_le h1 (pow_bound (n := F + 1 + u) (k := 3100) (by omega))
theorem half_both {q : Bool} {v : Nat} {y : Int} (hA : OkD q v y) (hy : -2048 ≤ y) (hv : v * 2 ^ (y - -2048).toNat < 2 ^ 3101) (hy2 : v = 0 ∨ y ≤ 4000) : ∃ r v2 y2,ProdsM q v y false 1 (-1) 0 r v2 y2 ∧ RProds q v y false 1 (-1) r v2 y2 := by
 have hB : OkD false 1 (-1) := Or.inr ⟨by decide,by decide,by decide⟩
 have hno : ¬ Over (v * 1) := by
  have : v < 2 ^ 3101 := Nat.lt_of_le_of_lt (Nat.le_mul_of_pos_right _ (pow_pos2 _)) hv
  rw [Nat.mul_one]
  exact not_over this (by decide)
 rcases mul_oneM hA hB with ⟨h0,P⟩ | ⟨⟨h0,_⟩,⟨hc,_⟩ | ⟨_,P⟩⟩
 ·have hv0 : v = 0 := by omega
  refine ⟨false,0,0,P,fun W A N C A' N' C' g g' => ?_⟩
  obtain rfl := g.zero.2 hv0
  refine (rmul_left q A C v y false A' N' C' 1 (-1) W g g' (hide fun W g g' => rtwo_ok q A 0 C v y false A' N' C' 1 (-1) W g g' hA hB)).mono ?_
  rintro e w' ⟨rfl,hb⟩
  exact ⟨⟨none,0,0,rfl,mine_none _ _⟩,hb⟩
 ·exfalso
  rcases hc with hc | hc | hc
  ·omega
  ·omega
  ·exact hno hc
 ·have hod := hA.oddM h0
  refine ⟨(q != false),v * 1,y + -1,P,fun W A N C A' N' C' g g' => ?_⟩
  refine rmul_ok4 q A N C v y false A' N' C' 1 (-1) (v * 1) (q != false) (v * 1) (y + -1) (ne0 g h0) (ne0 g' (by decide)) hod.2 (by decide) W g g' (hide fun W g g' => rtwo_ok q A N C v y false A' N' C' 1 (-1) W g g' hA hB) (hide (rmul_fit hno)) (hide fun W A N C g => ?_)
  have := rmake_ok (q != false) A N C (v * 1) 0 (y + -1) W g (by omega) ⟨v / 2,by omega⟩ (by decide) (by omega) (by omega) (by omega)
  rw [show (y + -1) + ((0 : Nat) : Int) = y + -1 from by omega,show v * 1 / 2 ^ 0 = v * 1 from by simp] at this
  exact this
theorem low_top {v : Nat} {y : Int} (kv : v * 2 ^ (y - -2048).toNat < 2 ^ 3101) : v = 0 ∨ y ≤ 4000 := by
 rcases Nat.eq_zero_or_pos v with h0 | h0
 ·exact Or.inl h0
 ·refine Or.inr (Int.not_lt.1 fun hc => ?_)
  have h1 : 2 ^ (y - -2048).toNat ≤ v * 2 ^ (y - -2048).toNat := Nat.le_mul_of_pos_left _ h0
  have h2 : 2 ^ 3101 ≤ 2 ^ (y - -2048).toNat := pow_bound (n := 3101) (k := (y - -2048).toNat) (by omega)
  exact Nat.lt_irrefl (2 ^ 3101) (Nat.lt_of_le_of_lt (Nat.le_trans h2 h1) kv)
theorem mid_fin {E F S I B a b : Nat} (h : Fm E F S I) (hBi : B = 2 ^ (E - 1) - 1) (ha : a < 2 * S) (hb : b < 2 * S) (hfa : a % S < I) (hfb : b % S < I) :
  ∃ s v x,(∀ W : World,Tb W → Calls Tryz.prog 24 #[.agg #[.int .i64 E,.int .i64 F],.int .u64 (a : Int),.int .u64 (b : Int)] W fun e w' => (∃ A N C,e = .returned (.tuple #[.agg #[.bool s,.slice A N C,.int .i64 x],.int .i64 0]) ∧ Mine w' W.heap.size A N C v) ∧ Below W.heap.size W w') ∧
   (∀ W : World,Calls Tryz.prog 25 #[.agg #[.int .i64 E,.int .i64 F],.int .u64 (a : Int),.int .u64 (b : Int)] W fun e w' => (∃ A N C,e = .returned (.tuple #[.agg #[.bool s,.slice A N C,.int .i64 x],.int .i64 0]) ∧ Mine w' W.heap.size A N C v) ∧ Below W.heap.size W w') := by
 have fin : ∀ {b : Nat},b < 2 * S → b % S < I → b % 2 ^ (F + E) / 2 ^ F + 1 < 2 ^ E := fun {b} hb hf => by
  have hBt := Bt.of E F b (h.bt hb)
  have hrest := hBt.rest
  refine Nat.lt_of_not_le fun hge => ?_
  have he : 2 ^ E - 1 ≤ b % 2 ^ (F + E) / 2 ^ F := by
   generalize b % 2 ^ (F + E) / 2 ^ F = q at *
   generalize 2 ^ E = r at *
   omega
  have hle := Nat.mul_le_mul_right (2 ^ F) he
  rw [← h.hI] at hle
  have : I ≤ b % S := by
   rw [h.hS,hrest]; exact Nat.le_trans hle (Nat.le_add_right _ _)
  omega
 obtain ⟨s1,m1,x1,R1,V1,o1,l1,k1⟩ := vfin h.fo hBi (Bt.of E F a (h.bt ha)) (fin ha hfa)
 obtain ⟨s2,m2,x2,R2,V2,o2,l2,k2⟩ := vfin h.fo hBi (Bt.of E F b (h.bt hb)) (fin hb hfb)
 obtain ⟨q,v,y,SU,ok,ly,kv,we⟩ := add_inM (-2048) 3100 o1 o2 (by decide) (by decide) (by decide) l1 l2 k1 k2
 rw [show 3100 + 1 = 3101 from rfl] at kv
 obtain ⟨q',v',y',RS,ok',ly',we'⟩ := radd_in (-2048) 3100 o1 o2 (by decide) (by decide) (by decide) l1 l2 k1 k2
 obtain ⟨rfl,rfl,rfl⟩ := OkD.oneM ok ok' ly ly' (we.trans we'.symm)
 obtain ⟨r,v2,y2,PU,RP⟩ := half_both ok ly kv (low_top kv)
 obtain ⟨ca,ca1,ca5,a5,a4,HCa⟩ := rcls_T h ha
 obtain ⟨cb,cb1,cb5,b5,b4,HCb⟩ := rcls_T h hb
 have na : ca ≤ 3 := by
  have n5 : ¬ ca = 5 := fun e => by have := a5.1 e; omega
  have n4 : ¬ ca = 4 := fun e => by have := a4.1 e; omega
  omega
 have nb : cb ≤ 3 := by
  have n5 : ¬ cb = 5 := fun e => by have := b5.1 e; omega
  have n4 : ¬ cb = 4 := fun e => by have := b4.1 e; omega
  omega
 refine ⟨r,v2,y2,fun W hT => ?_,fun W => ?_⟩
 ·exact Mid_ok W E F a b s1 m1 x1 s2 m2 x2 r v2 y2 hT (fits_T h ha) (fits_T h hb) (hide V1) (hide V2) (hide fun W p er A N C A' N' C' g g' hT hR => middle_E p 0 er s1 A N C m1 x1 s2 A' N' C' m2 x2 q v y r v2 y2 W g g' hT hR (hide (mk1 _ _ (by decide))) (hide SU) (hide PU))
 ·exact rmid_ok E F a b s1 m1 x1 s2 m2 x2 r v2 y2 (fun W => rtwo_2 E F a b 0 (rfits_T h ha) (rfits_T h hb) W) (fun W => rfin_yes E F a ca (by omega) HCa W) (fun W => rfin_yes E F b cb (by omega) HCb W) (hide fun W => rworth6 E F a s1 m1 x1 W (hide R1)) (hide fun W => rworth6 E F b s2 m2 x2 W (hide R2)) (hide fun W A N C A' N' C' g g' => mean_is W s1 A N C m1 x1 s2 A' N' C' m2 x2 q v y r v2 y2 g g' (hide RS) (hide RP)) W
theorem Pla_T {E F S I b : Nat} (h : Fm E F S I) (hb : b < 2 * S) : Tel 49 #[.agg #[.int .i64 E,.int .i64 F],.int .u64 (b : Int)] (.tuple #[.bool (decide (S < b)),.int .u64 ((b % S : Nat) : Int)]) := by
 intro W
 rcases div_two h.pos hb with ⟨h1,h2,h3⟩ | ⟨h1,h2,h3⟩
 ·rw [decide_eq_false (show ¬ S < b by omega)]
  exact rplace_lo E F S b (b % S) h.pos rfl h1 (half_T h) W
 ·by_cases h0 : b = S
  ·have e0 : b % S = 0 := by omega
   rw [decide_eq_false (show ¬ S < b by omega),e0]
   exact rplace_no E F S b 0 h.pos e0 (by omega) rfl (half_T h) W
  ·rw [decide_eq_true (show S < b by omega)]
   exact rplace_hi E F S b (b % S) h.pos rfl (by omega) (by omega) (half_T h) W
theorem plc_pl {S b : Nat} (h0 : 0 < S) (hb : b < 2 * S) : plc S b = if S < b then -((b % S : Nat) : Int) else ((b % S : Nat) : Int) := by
 unfold plc
 rcases div_two h0 hb with ⟨h1,h2,h3⟩ | ⟨h1,h2,h3⟩
 ·rw [if_pos h1,if_neg (by omega),h3]
 ·rw [if_neg h1,h3]
  by_cases h4 : S < b
  ·rw [if_pos h4]; omega
  ·rw [if_neg h4]; omega
theorem pl_pos {S b : Nat} (h0 : 0 < S) (hb : b < 2 * S) (g : S < b) : 0 < b % S := by
 rcases div_two h0 hb with ⟨h1,h2,h3⟩ | ⟨h1,h2,h3⟩ <;> omega
theorem rsteps_T {E F S I a b : Nat} (h : Fm E F S I) (ha : a < 2 * S) (hb : b < 2 * S) (hna : a % S ≤ I) (hnb : b % S ≤ I) : Tel 64 #[.agg #[.int .i64 E,.int .i64 F],.int .u64 (a : Int),.int .u64 (b : Int)] (.tuple #[.bool (decide (plc S b < plc S a)),.int .u64 ((plc S a - plc S b).natAbs : Int)]) := by
 intro W
 have h63 := h.i63
 have PA := Pla_T h ha
 have PB := Pla_T h hb
 have hpa := plc_pl h.pos ha
 have hpb := plc_pl h.pos hb
 have za := pl_pos h.pos ha
 have zb := pl_pos h.pos hb
 generalize a % S = x at PA hpa za hna
 generalize b % S = y at PB hpb zb hnb
 by_cases h1 : S < a
 ·have z1 := za h1
  rw [decide_eq_true h1] at PA
  rw [if_pos h1] at hpa
  by_cases h2 : S < b
  ·have z2 := zb h2
   rw [decide_eq_true h2] at PB
   rw [if_pos h2] at hpb
   by_cases h3 : (y : Int) ≤ (x : Int)
   ·rw [decide_eq_false (show ¬ plc S b < plc S a by omega)]
    exact rst_tg E F a b x y _ PA PB h3 (by rw [IntKind.wrap_u64]; omega) W
   ·rw [decide_eq_true (show plc S b < plc S a by omega)]
    exact rst_tl E F a b x y _ PA PB h3 (by rw [IntKind.wrap_u64]; omega) W
  ·rw [decide_eq_false h2] at PB
   rw [if_neg h2] at hpb
   rw [decide_eq_false (show ¬ plc S b < plc S a by omega)]
   exact rst_tf E F a b x y _ PA PB (by rw [IntKind.wrap_u64]; omega) W
 ·rw [decide_eq_false h1] at PA
  rw [if_neg h1] at hpa
  by_cases h2 : S < b
  ·have z2 := zb h2
   rw [decide_eq_true h2] at PB
   rw [if_pos h2] at hpb
   rw [decide_eq_true (show plc S b < plc S a by omega)]
   exact rst_ft E F a b x y _ PA PB (by rw [IntKind.wrap_u64]; omega) W
  ·rw [decide_eq_false h2] at PB
   rw [if_neg h2] at hpb
   by_cases h3 : (x : Int) ≤ (y : Int)
   ·rw [decide_eq_false (show ¬ plc S b < plc S a by omega)]
    exact rst_fg E F a b x y _ PA PB h3 (by rw [IntKind.wrap_u64]; omega) W
   ·rw [decide_eq_true (show plc S b < plc S a by omega)]
    exact rst_fl E F a b x y _ PA PB h3 (by rw [IntKind.wrap_u64]; omega) W
theorem two_T {E F S I a b : Nat} (h : Fm E F S I) (ha : a < 2 * S) (hb : b < 2 * S) : Tel 63 #[.agg #[.int .i64 E,.int .i64 F],.int .u64 (a : Int),.int .u64 (b : Int)] (.int .i64 0) := fun W => rtwo_2 E F a b 0 (rfits_T h ha) (rfits_T h hb) W
theorem rcl_T {E F S I b : Nat} (h : Fm E F S I) (hb : b < 2 * S) (hn : b % S ≤ I) : ∃ c : Int,(c == (5 : Int)) = false ∧ Tel 48 #[.agg #[.int .i64 E,.int .i64 F],.int .u64 (b : Int)] (.int .u8 c) := by
 obtain ⟨c,_,_,h5,_,HC⟩ := rcls_T h hb
 exact ⟨c,ne_of (fun e => by have := h5.1 e; omega),fun W => rclass6 E F b c HC W⟩
theorem rcl_N {E F S I b : Nat} (h : Fm E F S I) (hb : b < 2 * S) (hn : ¬ b % S ≤ I) : Tel 48 #[.agg #[.int .i64 E,.int .i64 F],.int .u64 (b : Int)] (.int .u8 5) := by
 obtain ⟨c,_,_,h5,_,HC⟩ := rcls_T h hb
 obtain rfl := h5.2 (by omega)
 exact fun W => rclass6 E F b 5 HC W
theorem nz_of {n : Nat} (h : n ≠ 0) : ((n : Int) == (0 : Int)) = false := by simp only [beq_eq_false_iff_ne,ne_eq]; omega
theorem rCmp_T {E F S I a b : Nat} (h : Fm E F S I) (ha : a < 2 * S) (hb : b < 2 * S) (hna : a % S ≤ I) (hnb : b % S ≤ I) : Tel 19 #[.agg #[.int .i64 E,.int .i64 F],.int .u64 (a : Int),.int .u64 (b : Int)] (.tuple #[.int .i64 (cm3 (plc S a) (plc S b)),.bool true,.int .i64 0]) := by
 intro W
 obtain ⟨c1,hc1,HK⟩ := rcl_T h ha hna
 obtain ⟨c2,hc2,HL⟩ := rcl_T h hb hnb
 have HS := rsteps_T h ha hb hna hnb
 unfold cm3
 by_cases h1 : plc S a < plc S b
 ·rw [if_pos h1]
  rw [decide_eq_false (show ¬ plc S b < plc S a by omega)] at HS
  exact rc6_lt E F a b _ c1 hc1 c2 hc2 (nz_of (by omega)) (two_T h ha hb) HK HL HS W
 ·rw [if_neg h1]
  by_cases h2 : plc S b < plc S a
  ·rw [if_pos h2]
   rw [decide_eq_true h2] at HS
   exact rc6_gt E F a b _ c1 hc1 c2 hc2 (nz_of (by omega)) (two_T h ha hb) HK HL HS W
  ·rw [if_neg h2]
   rw [show (plc S a - plc S b).natAbs = 0 from by omega] at HS
   exact rc6_eq E F a b _ c1 hc1 c2 hc2 (two_T h ha hb) HK HL HS W
theorem rSteps_T {E F S I a b : Nat} (h : Fm E F S I) (ha : a < 2 * S) (hb : b < 2 * S) (hna : a % S ≤ I) (hnb : b % S ≤ I) : Tel 23 #[.agg #[.int .i64 E,.int .i64 F],.int .u64 (a : Int),.int .u64 (b : Int)] (.tuple #[.bool (decide (plc S b < plc S a)),.int .u64 ((plc S a - plc S b).natAbs : Int),.int .i64 0]) := by
 intro W
 obtain ⟨c1,hc1,HK⟩ := rcl_T h ha hna
 obtain ⟨c2,hc2,HL⟩ := rcl_T h hb hnb
 exact rs6_ok E F a b _ _ c1 hc1 c2 hc2 (two_T h ha hb) HK HL (rsteps_T h ha hb hna hnb) W
theorem rOrder_T {E F S I a b : Nat} (h : Fm E F S I) (ha : a < 2 * S) (hb : b < 2 * S) : Tel 21 #[.agg #[.int .i64 E,.int .i64 F],.int .u64 (a : Int),.int .u64 (b : Int)] (.tuple #[.int .i64 (cm3 (rwN S a) (rwN S b)),.int .i64 0]) := by
 intro W
 have HT := two_T h ha hb
 have HH := half_T h
 by_cases he : a = b
 ·subst he
  have e : cm3 (rwN S a) (rwN S a) = 0 := by unfold cm3; rw [if_neg (by omega),if_neg (by omega)]
  rw [e]
  exact ro6_eq E F a HT W
 have hne : ((a : Int) == (b : Int)) = false := by simp only [beq_eq_false_iff_ne,ne_eq]; omega
 have lo : ∀ {x y : Int},x < y → cm3 x y = -1 := fun {x y} g => by unfold cm3; rw [if_pos g]
 have hi : ∀ {x y : Int},y < x → cm3 x y = 1 := fun {x y} g => by unfold cm3; rw [if_neg (by omega),if_pos g]
 have ra : rwN S a = if a < S then (a : Int) else (S : Int) - (a : Int) - 1 := rfl
 have rb : rwN S b = if b < S then (b : Int) else (S : Int) - (b : Int) - 1 := rfl
 by_cases h1 : S ≤ a
 ·rw [if_neg (show ¬ a < S by omega)] at ra
  by_cases h2 : b < S
  ·rw [if_pos h2] at rb
   rw [lo (show rwN S a < rwN S b by omega)]
   exact ro6_A E F a b S hne HT HH (by omega) (by omega) W
  ·rw [if_neg h2] at rb
   by_cases h3 : b < a
   ·rw [lo (show rwN S a < rwN S b by omega)]
    exact ro6_B E F a b S hne HT HH (by omega) (by omega) (by omega) W
   ·rw [hi (show rwN S b < rwN S a by omega)]
    exact ro6_C E F a b S hne HT HH (by omega) (by omega) (by omega) W
 ·rw [if_pos (show a < S by omega)] at ra
  by_cases h2 : S ≤ b
  ·rw [if_neg (show ¬ b < S by omega)] at rb
   rw [hi (show rwN S b < rwN S a by omega)]
   exact ro6_D E F a b S hne HT HH (by omega) (by omega) W
  ·rw [if_pos (show b < S by omega)] at rb
   by_cases h3 : a < b
   ·rw [lo (show rwN S a < rwN S b by omega)]
    exact ro6_E E F a b S hne HT HH (by omega) (by omega) (by omega) W
   ·rw [hi (show rwN S b < rwN S a by omega)]
    exact ro6_F E F a b S hne HT HH (by omega) (by omega) (by omega) W
structure Six (E F a b k e o hh n j : Int) (i d : Bool) : Prop where
 hc : Tel 18 #[.agg #[.int .i64 E,.int .i64 F],.int .u64 a,.int .u64 b] (.tuple #[.int .i64 k,.bool i,.int .i64 e])
 rc : Tel 19 #[.agg #[.int .i64 E,.int .i64 F],.int .u64 a,.int .u64 b] (.tuple #[.int .i64 k,.bool i,.int .i64 e])
 ho : Tel 20 #[.agg #[.int .i64 E,.int .i64 F],.int .u64 a,.int .u64 b] (.tuple #[.int .i64 o,.int .i64 hh])
 ro : Tel 21 #[.agg #[.int .i64 E,.int .i64 F],.int .u64 a,.int .u64 b] (.tuple #[.int .i64 o,.int .i64 hh])
 hs : Tel 22 #[.agg #[.int .i64 E,.int .i64 F],.int .u64 a,.int .u64 b] (.tuple #[.bool d,.int .u64 n,.int .i64 j])
 rs : Tel 23 #[.agg #[.int .i64 E,.int .i64 F],.int .u64 a,.int .u64 b] (.tuple #[.bool d,.int .u64 n,.int .i64 j])
structure MidA (E F a b m : Int) : Prop where
 hm : ∀ W : World,Tb W → Calls Tryz.prog 24 #[.agg #[.int .i64 E,.int .i64 F],.int .u64 a,.int .u64 b] W fun e w' => e = .returned (.tuple #[.agg #[.bool false,.slice none 0 0,.int .i64 0],.int .i64 m]) ∧ Below W.heap.size W w'
 rm : Tel 25 #[.agg #[.int .i64 E,.int .i64 F],.int .u64 a,.int .u64 b] (.tuple #[.agg #[.bool false,.slice none 0 0,.int .i64 0],.int .i64 m])
theorem six_any {E F S I a b : Nat} (h : Fm E F S I) (ha : a < 2 * S) (hb : b < 2 * S) : ∃ k e o hh n j i d,Six (E : Int) (F : Int) (a : Int) (b : Int) k e o hh n j i d := by
 have HO := Order_T h ha hb
 have RO := rOrder_T h ha hb
 have HT := two_T h ha hb
 by_cases hna : a % S ≤ I
 ·by_cases hnb : b % S ≤ I
  ·exact ⟨_,_,_,_,_,_,_,_,⟨Cmp_T h ha hb hna hnb,rCmp_T h ha hb hna hnb,HO,RO,Steps_T h ha hb hna hnb,rSteps_T h ha hb hna hnb⟩⟩
  ·obtain ⟨c1,hc1,HC⟩ := class_T h ha hna
   obtain ⟨c2,hc2,HK⟩ := rcl_T h ha hna
   have HD := class_N h hb hnb
   have HL := rcl_N h hb hnb
   exact ⟨_,_,_,_,_,_,_,_,⟨fun W => Cmp_nan2 E F a b c1 hc1 (fits_T h ha) (fits_T h hb) HC HD W,fun W => rc6_nan2 E F a b c2 hc2 HT HK HL W,HO,RO,fun W => Steps_nan2 E F a b c1 hc1 (fits_T h ha) (fits_T h hb) HC HD W,fun W => rs6_nan2 E F a b c2 hc2 HT HK HL W⟩⟩
 ·have HC := class_N h ha hna
  have HK := rcl_N h ha hna
  exact ⟨_,_,_,_,_,_,_,_,⟨fun W => Cmp_nan1 E F a b (fits_T h ha) (fits_T h hb) HC W,fun W => rc6_nan1 E F a b HT HK W,HO,RO,fun W => Steps_nan1 E F a b (fits_T h ha) (fits_T h hb) HC W,fun W => rs6_nan1 E F a b HT HK W⟩⟩
def Fe (E F b c : Int) : Prop := (Tel 80 #[.agg #[.int .i64 E,.int .i64 F],.int .u64 b] (.int .i64 c)) ∧ (Tel 47 #[.agg #[.int .i64 E,.int .i64 F],.int .u64 b] (.int .i64 c))
theorem er_any {E F a b c : Int} (hc : (c == (0 : Int)) = false) (hE : Fe E F a c ∨ (Fe E F a 0 ∧ Fe E F b c)) : Six E F a b 0 c 0 c 0 c false false ∧ MidA E F a b c := by
 rcases hE with ⟨H,R⟩ | ⟨⟨H0,R0⟩,H,R⟩
 ·have HT : Tel 63 #[.agg #[.int .i64 E,.int .i64 F],.int .u64 a,.int .u64 b] (.int .i64 c) := fun W => rtwo_1 E F a b c hc R W
  exact ⟨⟨fun W => Cmp_err1 E F a b c hc H W,fun W => rc6_err E F a b c hc HT W,fun W => Order_err1 E F a b c hc H W,fun W => ro6_err E F a b c hc HT W,fun W => Steps_err1 E F a b c hc H W,fun W => rs6_err E F a b c hc HT W⟩,⟨fun W _ => nmid_err1 E F a b c hc H W,fun W => rmid_err E F a b c hc HT W⟩⟩
 ·have HT : Tel 63 #[.agg #[.int .i64 E,.int .i64 F],.int .u64 a,.int .u64 b] (.int .i64 c) := fun W => rtwo_2 E F a b c R0 R W
  exact ⟨⟨fun W => Cmp_err2 E F a b c hc H0 H W,fun W => rc6_err E F a b c hc HT W,fun W => Order_err2 E F a b c hc H0 H W,fun W => ro6_err E F a b c hc HT W,fun W => Steps_err2 E F a b c hc H0 H W,fun W => rs6_err E F a b c hc HT W⟩,⟨fun W _ => nmid_err2 E F a b c hc H0 H W,fun W => rmid_err E F a b c hc HT W⟩⟩
theorem fin_ex {E F S I b : Nat} (h : Fm E F S I) (hb : b < 2 * S) (hf : b % S < I) : b % 2 ^ (F + E) / 2 ^ F + 1 < 2 ^ E := by
 have hBt := Bt.of E F b (h.bt hb)
 have hrest := hBt.rest
 refine Nat.lt_of_not_le fun hge => ?_
 have he : 2 ^ E - 1 ≤ b % 2 ^ (F + E) / 2 ^ F := by
  generalize b % 2 ^ (F + E) / 2 ^ F = q at *
  generalize 2 ^ E = r at *
  omega
 have hle := Nat.mul_le_mul_right (2 ^ F) he
 rw [← h.hI] at hle
 have : I ≤ b % S := by
  rw [h.hS,hrest]; exact Nat.le_trans hle (Nat.le_add_right _ _)
 omega
theorem valE {E F S I B b : Nat} (h : Fm E F S I) (hBi : B = 2 ^ (E - 1) - 1) (hb : b < 2 * S) :
  ∃ s m x er,(∀ W : World,Tb W → Calls Tryz.prog 52 #[.agg #[.int .i64 E,.int .i64 F],.int .u64 (b : Int)] W fun e w' => (∃ A N C,e = .returned (.tuple #[.agg #[.bool s,.slice A N C,.int .i64 x],.int .i64 er]) ∧ Mine w' W.heap.size A N C m) ∧ Below W.heap.size W w') ∧ OkD s m x ∧ -2048 ≤ x ∧ m * 2 ^ (x - -2048).toNat < 2 ^ 3100 ∧ (b % S < I → er = 0) ∧ (I ≤ b % S → er = 8) := by
 by_cases hf : b % S < I
 ·obtain ⟨s,m,x,_,V,o,l,k⟩ := vfin h.fo hBi (Bt.of E F b (h.bt hb)) (fin_ex h hb hf)
  exact ⟨s,m,x,0,V,o,l,k,fun _ => rfl,fun g => by omega⟩
 ·have hBt := Bt.of E F b (h.bt hb)
  refine ⟨false,0,0,8,fun W _ => ?_,Or.inl ⟨rfl,rfl,rfl⟩,by decide,by rw [Nat.zero_mul]; exact pow_pos2 3100,fun g => absurd g hf,fun _ => rfl⟩
  have hv : Calls Tryz.prog 52 #[.agg #[.int .i64 E,.int .i64 F],.int .u64 (b : Int)] W fun e w' => e = .returned (.tuple #[.agg #[.bool false,.slice none 0 0,.int .i64 0],.int .i64 8]) ∧ Below W.heap.size W w' := by
   rcases Nat.lt_or_eq_of_le (Nat.le_of_not_lt hf) with q | q
   ·exact Value_5 E F B b _ _ _ h.fo (hide hBi) hBt ((h.nan hBt).2 q) W
   ·exact Value_4 E F B b _ _ _ h.fo (hide hBi) hBt ((h.inf4 hBt).2 q.symm) W
  refine hv.mono ?_
  rintro e w' ⟨rfl,hbl⟩
  exact ⟨⟨none,0,0,rfl,mine_none _ _⟩,hbl⟩
theorem fin_yes {E F S I b : Nat} (h : Fm E F S I) (hb : b < 2 * S) (hf : b % S < I) : Tel 56 #[.agg #[.int .i64 E,.int .i64 F],.int .u64 (b : Int)] (.bool true) := by
 obtain ⟨c,c1,c5,a5,a4,HC⟩ := rcls_T h hb
 have n5 : ¬ c = 5 := fun e => by have := a5.1 e; omega
 have n4 : ¬ c = 4 := fun e => by have := a4.1 e; omega
 exact fun W => rfin_yes E F b c (by omega) HC W
theorem fin_no {E F S I b : Nat} (h : Fm E F S I) (hb : b < 2 * S) (hf : ¬ b % S < I) : Tel 56 #[.agg #[.int .i64 E,.int .i64 F],.int .u64 (b : Int)] (.bool false) := by
 obtain ⟨c,c1,c5,a5,a4,HC⟩ := rcls_T h hb
 have n3 : 4 ≤ c := by
  rcases Nat.lt_or_eq_of_le (Nat.le_of_not_lt hf) with q | q
  ·have := a5.2 q; omega
  ·have := a4.2 q.symm; omega
 exact fun W => rfin_no E F b c (by omega) HC W
theorem mid_no {E F S I B a b : Nat} (h : Fm E F S I) (ha : a < 2 * S) (hb : b < 2 * S) (hBi : B = 2 ^ (E - 1) - 1) (hno : ¬ (a % S < I ∧ b % S < I)) : MidA E F a b 8 := by
 constructor
 ·intro W hT
  obtain ⟨s1,m1,x1,e1,V1,o1,l1,k1,a0,a8⟩ := valE h hBi ha
  obtain ⟨s2,m2,x2,e2,V2,o2,l2,k2,b0,b8⟩ := valE h hBi hb
  obtain ⟨q,v,y,SU,ok,ly,kv,we⟩ := add_inM (-2048) 3100 o1 o2 (by decide) (by decide) (by decide) l1 l2 k1 k2
  rw [show 3100 + 1 = 3101 from rfl] at kv
  obtain ⟨r,v2,y2,PU,_⟩ := half_both ok ly kv (low_top kv)
  have hk : Kp (Kp 0 e1) e2 = 8 := by
   rw [Kp.zero]; unfold Kp
   by_cases ga : a % S < I
   ·rw [if_pos (a0 ga)]; exact b8 (by omega)
   ·rw [a8 (by omega),if_neg (by decide)]
  exact Mid_er W E F a b s1 m1 x1 s2 m2 x2 r v2 y2 e1 e2 8 hT (fits_T h ha) (fits_T h hb) (hide V1) (hide V2) (hide fun W p er A N C A' N' C' g g' hT hR => middle_E p 0 er s1 A N C m1 x1 s2 A' N' C' m2 x2 q v y r v2 y2 W g g' hT hR (hide (mk1 _ _ (by decide))) (hide SU) (hide PU)) (hide hk) rfl
 ·intro W
  have HT := two_T h ha hb
  by_cases ga : a % S < I
  ·exact rmid_nb E F a b HT (fin_yes h ha ga) (fin_no h hb (by omega)) W
  ·exact rmid_na E F a b HT (fin_no h ha ga) W
theorem nearRow_any (E F : Int) (a b : Nat) (w : World) (hT : Tb w) (hN : Nb w) (ha64 : a < 18446744073709551616) (hb64 : b < 18446744073709551616) :
  Calls Tryz.prog 4 #[.agg #[.int .i64 E,.int .i64 F],.int .u64 (a : Int),.int .u64 (b : Int)] w fun e w' => e = .returned (.bool true) ∧ Below w.heap.size w w' := by
 have HW : Hid (∀ W : World,Below w.heap.size w W → Calls Tryz.prog 9 #[] W fun e w' => e = .returned (.bool true) ∧ Below W.heap.size W w') := hide fun W hb => awake6_any W (hT.kept hb) (hN.kept hb)
 have fin : ∀ {k1 e1 o1 h1 n1 j1 : Int} {i1 d1 : Bool} {k2 e2 o2 h2 n2 j2 : Int} {i2 d2 : Bool} {m1 m2 : Int},Six E F a b k1 e1 o1 h1 n1 j1 i1 d1 → MidA E F a b m1 → Six E F b a k2 e2 o2 h2 n2 j2 i2 d2 → MidA E F b a m2 → Calls Tryz.prog 4 #[.agg #[.int .i64 E,.int .i64 F],.int .u64 (a : Int),.int .u64 (b : Int)] w fun e w' => e = .returned (.bool true) ∧ Below w.heap.size w w' := fun S1 M1 S2 M2 =>
  row_A E F a b _ _ _ _ _ _ _ _ S1.hc S1.rc S1.ho S1.ro S1.hs S1.rs _ (hide M1.hm) M1.rm _ _ _ _ _ _ _ _ S2.hc S2.rc S2.ho S2.ro S2.hs S2.rs _ (hide M2.hm) M2.rm w hT HW
 by_cases hf : 2 ≤ E ∧ E ≤ 11 ∧ 1 ≤ F ∧ F ≤ 52
 ·obtain ⟨E',rfl⟩ : ∃ n : Nat,E = (n : Int) := ⟨E.toNat,by omega⟩
  obtain ⟨F',rfl⟩ : ∃ n : Nat,F = (n : Int) := ⟨F.toNat,by omega⟩
  obtain ⟨S,hS⟩ : ∃ S,S = 2 ^ (F' + E') := ⟨_,rfl⟩
  obtain ⟨I,hI⟩ : ∃ I,I = (2 ^ E' - 1) * 2 ^ F' := ⟨_,rfl⟩
  have h : Fm E' F' S I := ⟨⟨by omega,by omega,by omega,by omega⟩,hS,hI⟩
  clear hS hI hf
  have fo : ∀ {x : Nat},x < 2 * S → Fe E' F' x 0 := fun hx => ⟨fits_T h hx,rfits_T h hx⟩
  have fm : ∀ {x : Nat},x < 18446744073709551616 → ¬ x < 2 * S → Fe E' F' x 6 := fun h64 hx => ⟨fits_M h hx,fun W => rfits_many E' F' _ h.fo (h.tb hx) h64 W⟩
  by_cases ha : a < 2 * S
  ·by_cases hb : b < 2 * S
   ·obtain ⟨B,hBi⟩ : ∃ B,B = 2 ^ (E' - 1) - 1 := ⟨_,rfl⟩
    obtain ⟨k1,e1,o1,h1,n1,j1,i1,d1,S1⟩ := six_any h ha hb
    obtain ⟨k2,e2,o2,h2,n2,j2,i2,d2,S2⟩ := six_any h hb ha
    by_cases hfi : a % S < I ∧ b % S < I
    ·obtain ⟨s1,v1,x1,HM1,RM1⟩ := mid_fin h hBi ha hb hfi.1 hfi.2
     obtain ⟨s2,v2,x2,HM2,RM2⟩ := mid_fin h hBi hb ha hfi.2 hfi.1
     exact row_B E' F' a b _ _ _ _ _ _ _ _ S1.hc S1.rc S1.ho S1.ro S1.hs S1.rs _ _ _ (hide HM1) (hide RM1) _ _ _ _ _ _ _ _ S2.hc S2.rc S2.ho S2.ro S2.hs S2.rs _ _ _ (hide HM2) (hide RM2) w hT HW
    ·exact fin S1 (mid_no h ha hb hBi hfi) S2 (mid_no h hb ha hBi fun g => hfi ⟨g.2,g.1⟩)
   ·obtain ⟨S1,M1⟩ := er_any (a := a) (b := b) (c := 6) rfl (Or.inr ⟨fo ha,fm hb64 hb⟩)
    obtain ⟨S2,M2⟩ := er_any (a := b) (b := a) (c := 6) rfl (Or.inl (fm hb64 hb))
    exact fin S1 M1 S2 M2
  ·obtain ⟨S1,M1⟩ := er_any (a := a) (b := b) (c := 6) rfl (Or.inl (fm ha64 ha))
   have hE2 : Fe E' F' b 6 ∨ (Fe E' F' b 0 ∧ Fe E' F' a 6) := by
    by_cases hb : b < 2 * S
    ·exact Or.inr ⟨fo hb,fm ha64 ha⟩
    ·exact Or.inl (fm hb64 hb)
   obtain ⟨S2,M2⟩ := er_any (a := b) (b := a) (c := 6) rfl hE2
   exact fin S1 M1 S2 M2
 ·have hn : NoFo E F := by unfold NoFo; omega
  have fb : ∀ x : Int,Fe E F x 5 := fun x => ⟨fits_B hn x,fun W => rfits_bad E F hn x W⟩
  obtain ⟨S1,M1⟩ := er_any (a := a) (b := b) (c := 5) rfl (Or.inl (fb a))
  obtain ⟨S2,M2⟩ := er_any (a := b) (b := a) (c := 5) rfl (Or.inl (fb b))
  exact fin S1 M1 S2 M2
end Go.Proofs.YtkebhccbhoamjaaGreatDoor
