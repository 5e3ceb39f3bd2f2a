/- Of what ExactFloatsRow stands on: ExFloatsLaw. -/
import Derived.Test.YtjemjhaphannaaaDoorPav
import Derived.Test.YtjemjhaphannaaaDoorPaw
import Derived.Test.YtjemjhaphannaaaDoorPau
import Derived.Test.YtjemjhaphannaaaDoorPal
namespace Go.Proofs.YtjemjhaphannaaaDoor
open Go.RowKit
theorem Value_non (E F B b ex fr : Nat) (s : Bool) (h0 : Fo E F) (HB : Hid (B = 2 ^ (E - 1) - 1)) (hB : Bt E F b s ex fr) (hnf : ¬ ex + 1 < 2 ^ E) (w : World) :
  Calls Tryd.prog 18 #[.agg #[.int .i64 (E : Int),.int .i64 (F : Int)],.int .u64 b] w fun e w' => e = .returned (.tuple #[.agg #[.bool false,.slice none 0 0,.int .i64 0],.int .i64 8]) ∧ Below w.heap.size w w' := by
 have h2 := (pow_bound h0.e2 : 2 ^ 2 ≤ 2 ^ E)
 have hex := hB.ex_lt
 by_cases hf : fr = 0
 ·exact Value_4 E F B b ex fr s h0 HB hB (by unfold cls; rw [if_neg (by omega),if_neg (by omega),if_neg (by omega),if_pos hf]) w
 ·exact Value_5 E F B b ex fr s h0 HB hB (by unfold cls; rw [if_neg (by omega),if_neg (by omega),if_neg (by omega),if_neg hf]) w
def Nat64 (x : Nat) : Prop := (∃ s ex fr s0 m bk e,Fin 11 52 1023 x s ex fr s0 m bk e ∧ ex + 1 < 2 ^ 11 ∧ FloatKind.f64.format.sub x x = some 0) ∨
 (FloatKind.f64.format.sub x x = none ∧ ∀ W : World,Calls Tryd.prog 18 #[.agg #[.int .i64 11,.int .i64 52],.int .u64 x] W fun e w' => e = .returned (.tuple #[.agg #[.bool false,.slice none 0 0,.int .i64 0],.int .i64 8]) ∧ Below W.heap.size W w')
theorem nat64_any (x : Nat) (hx : x < 18446744073709551616) : Nat64 x := by
 have hfo : Fo 11 52 := ⟨by decide,by decide,by decide,by decide⟩
 have hB := Bt.of 11 52 x (by exact hx)
 generalize decide (x / 2 ^ (52 + 11) = 1) = s at hB
 generalize x % 2 ^ (52 + 11) / 2 ^ 52 = ex at hB
 generalize x % 2 ^ 52 = fr at hB
 by_cases hf : ex + 1 < 2 ^ 11
 ·obtain ⟨s0,m,bk,e,h⟩ := Fin.ex (B := 1023) hfo (hide (by decide)) hB hf
  exact Or.inl ⟨s,ex,fr,s0,m,bk,e,h,hf,f64_sub_self hB hf⟩
 ·exact Or.inr ⟨f64_sub_none hB hf,fun W => Value_non 11 52 1023 x ex fr s hfo (hide (by decide)) hB hf W⟩
theorem floats_A (E F : Int) (b x y : Nat) (er : Int) (w : World) (hT : Tb w) (hx : x < 18446744073709551616) (hy : y < 18446744073709551616) (hv : Hid (∀ W : World,Calls Tryd.prog 18 #[.agg #[.int .i64 E,.int .i64 F],.int .u64 b] W fun e w' => e = .returned (.tuple #[.agg #[.bool false,.slice none 0 0,.int .i64 0],.int .i64 er]) ∧ Below W.heap.size W w')) (her : (er == 0) = false) :
  Calls Tryd.prog 8 #[.agg #[.int .i64 E,.int .i64 F],.int .u64 b,.int .u64 x,.int .u64 y] w fun e w' => e = .returned (.bool true) ∧ Below w.heap.size w w' := by
 rcases nat64_any x hx with ⟨s1,ex1,fr1,t1,m1,k1,e1,hF1,hf1,hs1⟩ | ⟨hs1,hv1⟩ <;> rcases nat64_any y hy with ⟨s2,ex2,fr2,t2,m2,k2,e2,hF2,hf2,hs2⟩ | ⟨hs2,hv2⟩
 ·obtain ⟨t,ht⟩ : ∃ t,t = min e1 e2 := ⟨_,rfl⟩
  obtain ⟨j,hj⟩ : ∃ j : Nat,e1 - t = (j : Int) := ⟨(e1 - t).toNat,by omega⟩
  obtain ⟨j',hj'⟩ : ∃ j' : Nat,e2 - t = (j' : Int) := ⟨(e2 - t).toNat,by omega⟩
  have hcm := fun (W : World) (A : Option Addr) (N C : Nat) (A' : Option Addr) (N' C' : Nat) (g : Num W A N m1) (g' : Num W A' N' m2) => Cmp_any t1 A N C m1 e1 t2 A' N' C' m2 e2 t j j' W ⟨g,hF1.ok⟩ ⟨g',hF2.ok⟩ hj hj'
  rcases f64_cmp hF1 hF2 hf1 hf2 hj hj' with ⟨hc,ho⟩ | ⟨hc,ho⟩ | ⟨hc,ho⟩
  ·rw [hc] at hcm
   exact xf_A_lt E F b x y er t1 m1 e1 t2 m2 e2 w hT hv her (hide hF1.val) (run_sub_fin hs1) (hide hF2.val) (run_sub_fin hs2) (hide hcm) ho
  ·rw [hc] at hcm
   exact xf_A_eq E F b x y er t1 m1 e1 t2 m2 e2 w hT hv her (hide hF1.val) (run_sub_fin hs1) (hide hF2.val) (run_sub_fin hs2) (hide hcm) ho
  ·rw [hc] at hcm
   exact xf_A_gt E F b x y er t1 m1 e1 t2 m2 e2 w hT hv her (hide hF1.val) (run_sub_fin hs1) (hide hF2.val) (run_sub_fin hs2) (hide hcm) ho
 ·exact xf_A_xn E F b x y er t1 m1 e1 8 (nanAt y) w hT hv her (hide hF1.val) (run_sub_fin hs1) (hide hv2) rfl rfl (run_sub_non hs2) (nan_order y)
 ·exact xf_A_nx E F b x y er 8 (nanAt x) t2 m2 e2 w hT hv her (hide hv1) rfl rfl (run_sub_non hs1) (nan_order x) (hide hF2.val) (run_sub_fin hs2)
 ·exact xf_A_nn E F b x y er 8 (nanAt x) 8 (nanAt y) w hT hv her (hide hv1) rfl rfl (run_sub_non hs1) (nan_order x) (hide hv2) rfl (run_sub_non hs2) (nan_order y)
theorem floats_B (E F : Int) (b x y : Nat) (s0 : Bool) (m0 bk nn : Nat) (x0 : Int) (w : World) (hT : Tb w) (hx : x < 18446744073709551616) (hy : y < 18446744073709551616) (hv : Hid (∀ W : World,Tb W → Calls Tryd.prog 18 #[.agg #[.int .i64 E,.int .i64 F],.int .u64 b] W fun e w' => (∃ A N C,e = .returned (.tuple #[.agg #[.bool s0,.slice A N C,.int .i64 x0],.int .i64 0]) ∧ Num w' A N m0) ∧ Below W.heap.size W w')) (hbi : Hid (∀ (W : World) (A : Option Addr) (N C : Nat),Num W A N m0 → Calls Tryd.prog 39 #[.agg #[.int .i64 E,.int .i64 F],.agg #[.bool s0,.slice A N C,.int .i64 x0]] W fun e w' => e = .returned (.tuple #[.int .u64 bk,.bool true,.int .i64 0]) ∧ Below W.heap.size W w')) (hv' : Hid (∀ W : World,Tb W → Calls Tryd.prog 18 #[.agg #[.int .i64 E,.int .i64 F],.int .u64 bk] W fun e w' => (∃ A N C,e = .returned (.tuple #[.agg #[.bool s0,.slice A N C,.int .i64 x0],.int .i64 0]) ∧ Num w' A N m0) ∧ Below W.heap.size W w')) (hno : Hid (∀ W : World,Calls Tryd.prog 40 #[.agg #[.int .i64 E,.int .i64 F],.bool true] W fun e w' => e = .returned (.tuple #[.int .u64 nn,.int .i64 0]) ∧ Below W.heap.size W w')) (hck : Hid (∀ (W : World) (A : Option Addr) (N C : Nat),Num W A N m0 → Calls Tryd.prog 21 #[.agg #[.bool s0,.slice A N C,.int .i64 x0]] W fun e w' => e = .returned (.int .i64 0) ∧ Below W.heap.size W w')) (hbk : ((bk : Int) != (b : Int)) = false) :
  Calls Tryd.prog 8 #[.agg #[.int .i64 E,.int .i64 F],.int .u64 b,.int .u64 x,.int .u64 y] w fun e w' => e = .returned (.bool true) ∧ Below w.heap.size w w' := by
 rcases nat64_any x hx with ⟨s1,ex1,fr1,t1,m1,k1,e1,hF1,hf1,hs1⟩ | ⟨hs1,hv1⟩ <;> rcases nat64_any y hy with ⟨s2,ex2,fr2,t2,m2,k2,e2,hF2,hf2,hs2⟩ | ⟨hs2,hv2⟩
 ·obtain ⟨t,ht⟩ : ∃ t,t = min e1 e2 := ⟨_,rfl⟩
  obtain ⟨j,hj⟩ : ∃ j : Nat,e1 - t = (j : Int) := ⟨(e1 - t).toNat,by omega⟩
  obtain ⟨j',hj'⟩ : ∃ j' : Nat,e2 - t = (j' : Int) := ⟨(e2 - t).toNat,by omega⟩
  have hcm := fun (W : World) (A : Option Addr) (N C : Nat) (A' : Option Addr) (N' C' : Nat) (g : Num W A N m1) (g' : Num W A' N' m2) => Cmp_any t1 A N C m1 e1 t2 A' N' C' m2 e2 t j j' W ⟨g,hF1.ok⟩ ⟨g',hF2.ok⟩ hj hj'
  rcases f64_cmp hF1 hF2 hf1 hf2 hj hj' with ⟨hc,ho⟩ | ⟨hc,ho⟩ | ⟨hc,ho⟩
  ·rw [hc] at hcm
   exact xf_B_lt E F b x y s0 m0 bk nn x0 t1 m1 e1 t2 m2 e2 w hT hv hbi hv' hno hck hbk (hide hF1.val) (run_sub_fin hs1) (hide hF2.val) (run_sub_fin hs2) (hide hcm) ho
  ·rw [hc] at hcm
   exact xf_B_eq E F b x y s0 m0 bk nn x0 t1 m1 e1 t2 m2 e2 w hT hv hbi hv' hno hck hbk (hide hF1.val) (run_sub_fin hs1) (hide hF2.val) (run_sub_fin hs2) (hide hcm) ho
  ·rw [hc] at hcm
   exact xf_B_gt E F b x y s0 m0 bk nn x0 t1 m1 e1 t2 m2 e2 w hT hv hbi hv' hno hck hbk (hide hF1.val) (run_sub_fin hs1) (hide hF2.val) (run_sub_fin hs2) (hide hcm) ho
 ·exact xf_B_xn E F b x y s0 m0 bk nn x0 t1 m1 e1 8 (nanAt y) w hT hv hbi hv' hno hck hbk (hide hF1.val) (run_sub_fin hs1) (hide hv2) rfl rfl (run_sub_non hs2) (nan_order y)
 ·exact xf_B_nx E F b x y s0 m0 bk nn x0 8 (nanAt x) t2 m2 e2 w hT hv hbi hv' hno hck hbk (hide hv1) rfl rfl (run_sub_non hs1) (nan_order x) (hide hF2.val) (run_sub_fin hs2)
 ·exact xf_B_nn E F b x y s0 m0 bk nn x0 8 (nanAt x) 8 (nanAt y) w hT hv hbi hv' hno hck hbk (hide hv1) rfl rfl (run_sub_non hs1) (nan_order x) (hide hv2) rfl (run_sub_non hs2) (nan_order y)
theorem floats_C (E F : Int) (b x y : Nat) (s0 : Bool) (m0 bk nn : Nat) (x0 : Int) (w : World) (hT : Tb w) (hx : x < 18446744073709551616) (hy : y < 18446744073709551616) (hv : Hid (∀ W : World,Tb W → Calls Tryd.prog 18 #[.agg #[.int .i64 E,.int .i64 F],.int .u64 b] W fun e w' => (∃ A N C,e = .returned (.tuple #[.agg #[.bool s0,.slice A N C,.int .i64 x0],.int .i64 0]) ∧ Num w' A N m0) ∧ Below W.heap.size W w')) (hbi : Hid (∀ (W : World) (A : Option Addr) (N C : Nat),Num W A N m0 → Calls Tryd.prog 39 #[.agg #[.int .i64 E,.int .i64 F],.agg #[.bool s0,.slice A N C,.int .i64 x0]] W fun e w' => e = .returned (.tuple #[.int .u64 bk,.bool true,.int .i64 0]) ∧ Below W.heap.size W w')) (hv' : Hid (∀ W : World,Tb W → Calls Tryd.prog 18 #[.agg #[.int .i64 E,.int .i64 F],.int .u64 bk] W fun e w' => (∃ A N C,e = .returned (.tuple #[.agg #[.bool s0,.slice A N C,.int .i64 x0],.int .i64 0]) ∧ Num w' A N m0) ∧ Below W.heap.size W w')) (hno : Hid (∀ W : World,Calls Tryd.prog 40 #[.agg #[.int .i64 E,.int .i64 F],.bool true] W fun e w' => e = .returned (.tuple #[.int .u64 nn,.int .i64 0]) ∧ Below W.heap.size W w')) (hck : Hid (∀ (W : World) (A : Option Addr) (N C : Nat),Num W A N m0 → Calls Tryd.prog 21 #[.agg #[.bool s0,.slice A N C,.int .i64 x0]] W fun e w' => e = .returned (.int .i64 0) ∧ Below W.heap.size W w')) (hbk : ((bk : Int) != (b : Int)) = true) (hbn : ((b : Int) != (nn : Int)) = false) (hb0 : ((bk : Int) != 0) = false) :
  Calls Tryd.prog 8 #[.agg #[.int .i64 E,.int .i64 F],.int .u64 b,.int .u64 x,.int .u64 y] w fun e w' => e = .returned (.bool true) ∧ Below w.heap.size w w' := by
 rcases nat64_any x hx with ⟨s1,ex1,fr1,t1,m1,k1,e1,hF1,hf1,hs1⟩ | ⟨hs1,hv1⟩ <;> rcases nat64_any y hy with ⟨s2,ex2,fr2,t2,m2,k2,e2,hF2,hf2,hs2⟩ | ⟨hs2,hv2⟩
 ·obtain ⟨t,ht⟩ : ∃ t,t = min e1 e2 := ⟨_,rfl⟩
  obtain ⟨j,hj⟩ : ∃ j : Nat,e1 - t = (j : Int) := ⟨(e1 - t).toNat,by omega⟩
  obtain ⟨j',hj'⟩ : ∃ j' : Nat,e2 - t = (j' : Int) := ⟨(e2 - t).toNat,by omega⟩
  have hcm := fun (W : World) (A : Option Addr) (N C : Nat) (A' : Option Addr) (N' C' : Nat) (g : Num W A N m1) (g' : Num W A' N' m2) => Cmp_any t1 A N C m1 e1 t2 A' N' C' m2 e2 t j j' W ⟨g,hF1.ok⟩ ⟨g',hF2.ok⟩ hj hj'
  rcases f64_cmp hF1 hF2 hf1 hf2 hj hj' with ⟨hc,ho⟩ | ⟨hc,ho⟩ | ⟨hc,ho⟩
  ·rw [hc] at hcm
   exact xf_C_lt E F b x y s0 m0 bk nn x0 t1 m1 e1 t2 m2 e2 w hT hv hbi hv' hno hck hbk hbn hb0 (hide hF1.val) (run_sub_fin hs1) (hide hF2.val) (run_sub_fin hs2) (hide hcm) ho
  ·rw [hc] at hcm
   exact xf_C_eq E F b x y s0 m0 bk nn x0 t1 m1 e1 t2 m2 e2 w hT hv hbi hv' hno hck hbk hbn hb0 (hide hF1.val) (run_sub_fin hs1) (hide hF2.val) (run_sub_fin hs2) (hide hcm) ho
  ·rw [hc] at hcm
   exact xf_C_gt E F b x y s0 m0 bk nn x0 t1 m1 e1 t2 m2 e2 w hT hv hbi hv' hno hck hbk hbn hb0 (hide hF1.val) (run_sub_fin hs1) (hide hF2.val) (run_sub_fin hs2) (hide hcm) ho
 ·exact xf_C_xn E F b x y s0 m0 bk nn x0 t1 m1 e1 8 (nanAt y) w hT hv hbi hv' hno hck hbk hbn hb0 (hide hF1.val) (run_sub_fin hs1) (hide hv2) rfl rfl (run_sub_non hs2) (nan_order y)
 ·exact xf_C_nx E F b x y s0 m0 bk nn x0 8 (nanAt x) t2 m2 e2 w hT hv hbi hv' hno hck hbk hbn hb0 (hide hv1) rfl rfl (run_sub_non hs1) (nan_order x) (hide hF2.val) (run_sub_fin hs2)
 ·exact xf_C_nn E F b x y s0 m0 bk nn x0 8 (nanAt x) 8 (nanAt y) w hT hv hbi hv' hno hck hbk hbn hb0 (hide hv1) rfl rfl (run_sub_non hs1) (nan_order x) (hide hv2) rfl (run_sub_non hs2) (nan_order y)
theorem exactFloats_any (E F : Int) (b x y : Nat) (w : World) (hT : Tb w) (hx : x < 18446744073709551616) (hy : y < 18446744073709551616) (hb : b < 18446744073709551616) :
  Calls Tryd.prog 8 #[.agg #[.int .i64 E,.int .i64 F],.int .u64 b,.int .u64 x,.int .u64 y] w fun e w' => e = .returned (.bool true) ∧ Below w.heap.size w w' := by
 rcases fo_cases5 E F with hbad | ⟨E,F,rfl,rfl,h0⟩
 ·exact floats_A E F b x y 5 w hT hx hy (hide fun W => Value_form E F hbad b W) rfl
 obtain ⟨B,HB⟩ : ∃ B,Hid (B = 2 ^ (E - 1) - 1) := ⟨_,hide rfl⟩
 by_cases hm : 2 ^ (F + E + 1) ≤ b
 ·exact floats_A E F b x y 6 w hT hx hy (hide fun W => Value_many E F b h0 hm W) rfl
 have hB := Bt.of E F b (by omega)
 generalize decide (b / 2 ^ (F + E) = 1) = s at hB
 generalize b % 2 ^ (F + E) / 2 ^ F = ex at hB
 generalize b % 2 ^ F = fr at hB
 by_cases hf : ex + 1 < 2 ^ E
 case neg => exact floats_A E F b x y 8 w hT hx hy (hide fun W => Value_non E F B b ex fr s h0 HB hB hf W) rfl
 obtain ⟨s0,m0,bk,x0,hF⟩ := Fin.ex h0 HB hB hf
 have hN : Bt E F (2 ^ (F + E)) true 0 0 := ⟨pow_pos2 _,pow_pos2 _,by simp⟩
 have hno : Hid (∀ W : World,Calls Tryd.prog 40 #[.agg #[.int .i64 (E : Int),.int .i64 (F : Int)],.bool true] W fun e w' => e = .returned (.tuple #[.int .u64 ((2 ^ (F + E) : Nat) : Int),.int .i64 0]) ∧ Below W.heap.size W w') := hide fun W => Nought_ok E F _ true h0 hN W
 have hck : Hid (∀ (W : World) (A : Option Addr) (N C : Nat),Num W A N m0 → Calls Tryd.prog 21 #[.agg #[.bool s0,.slice A N C,.int .i64 x0]] W fun e w' => e = .returned (.int .i64 0) ∧ Below W.heap.size W w') := hide fun W A N C g => dcheck_dy s0 A N C m0 x0 W ⟨g,hF.ok⟩
 by_cases hk : bk = b
 ·exact floats_B E F b x y s0 m0 bk _ x0 w hT hx hy (hide hF.val) (hide hF.back) (hide (by rw [hk]; exact hF.val)) hno hck (by simp [hk])
 ·rcases hF.kind with ⟨z1,z2,z3,z4,z5,z6⟩ | ⟨_,M,z,xe,_,_,_,_,z6⟩
  ·subst z1; subst z2; subst z3; subst z4; subst z5; subst z6
   have hbs : b = 2 ^ (F + E) := by
    have := hB.eq
    cases s
    ·simp at this; omega
    ·simpa using this
   have hZ : Bt E F 0 false 0 0 := ⟨pow_pos2 _,pow_pos2 _,by simp⟩
   exact floats_C E F b x y false 0 0 _ 0 w hT hx hy (hide hF.val) (hide hF.back) (hide fun W _ => (Value_zero E F B 0 false W h0 HB hZ).mono (by
    rintro e w' ⟨rfl,hbb⟩
    exact ⟨⟨none,0,0,rfl,[],rfl,Or.inl rfl,Pl.wf_nil,Pl.norm_nil,rfl,by omega⟩,hbb⟩)) hno hck (by simp; omega) (by simp [hbs]) rfl
  ·exact absurd z6 hk
end Go.Proofs.YtjemjhaphannaaaDoor
