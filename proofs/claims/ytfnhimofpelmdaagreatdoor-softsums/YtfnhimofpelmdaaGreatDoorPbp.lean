/- Of what SoftSumsRow stands on: SkAdd SkBoth SkSums. -/
import Derived.Test.YtfnhimofpelmdaaGreatDoorPbj
import Derived.Test.YtfnhimofpelmdaaGreatDoorPbg
import Derived.Test.YtfnhimofpelmdaaGreatDoorPbk
import Derived.Test.YtfnhimofpelmdaaGreatDoorPbi
import Derived.Test.YtfnhimofpelmdaaGreatDoorPbo
import Derived.Test.YtfnhimofpelmdaaGreatDoorPbd
namespace Go.Proofs.YtfnhimofpelmdaaGreatDoor
open Go.RowKit
set_option maxHeartbeats 4000000
theorem mt_none (v : Value) (w : World) : (method 351 85 v "numeral/soft.plus").run Tryz.prog w = .ok (147, v) w := by kernel_rfl
theorem mt_inf (v : Value) (w : World) : (method 351 147 v "numeral/soft.plus").run Tryz.prog w = .ok (155, v) w := by kernel_rfl
theorem mt_nou (v : Value) (w : World) : (method 351 148 v "numeral/soft.plus").run Tryz.prog w = .ok (165, v) w := by kernel_rfl
theorem mt_num (v : Value) (w : World) : (method 351 150 v "numeral/soft.plus").run Tryz.prog w = .ok (173, v) w := by kernel_rfl
theorem mr_none (v : Value) (w : World) : (method 351 85 v "numeral/soft.rounded").run Tryz.prog w = .ok (149, v) w := by kernel_rfl
theorem mr_inf (v : Value) (w : World) : (method 351 147 v "numeral/soft.rounded").run Tryz.prog w = .ok (157, v) w := by kernel_rfl
theorem mr_nou (v : Value) (w : World) : (method 351 148 v "numeral/soft.rounded").run Tryz.prog w = .ok (167, v) w := by kernel_rfl
theorem mr_num (v : Value) (w : World) : (method 351 150 v "numeral/soft.rounded").run Tryz.prog w = .ok (175, v) w := by kernel_rfl
theorem en_add1 (args : Array Value) (w : World) : (callFunc 23 args).run Tryz.prog w = .ok (.enter 23 args) w := enter7 Tryz.func23 (by kernel_rfl) (by kernel_rfl) args w
theorem en_pnone (args : Array Value) (w : World) : (callFunc 147 args).run Tryz.prog w = .ok (.enter 147 args) w := enter7 Tryz.func147 (by kernel_rfl) (by kernel_rfl) args w
theorem en_pinf (args : Array Value) (w : World) : (callFunc 155 args).run Tryz.prog w = .ok (.enter 155 args) w := enter7 Tryz.func155 (by kernel_rfl) (by kernel_rfl) args w
theorem en_pnou (args : Array Value) (w : World) : (callFunc 165 args).run Tryz.prog w = .ok (.enter 165 args) w := enter7 Tryz.func165 (by kernel_rfl) (by kernel_rfl) args w
theorem en_pnum (args : Array Value) (w : World) : (callFunc 173 args).run Tryz.prog w = .ok (.enter 173 args) w := enter7 Tryz.func173 (by kernel_rfl) (by kernel_rfl) args w
theorem en_rnone (args : Array Value) (w : World) : (callFunc 149 args).run Tryz.prog w = .ok (.enter 149 args) w := enter7 Tryz.func149 (by kernel_rfl) (by kernel_rfl) args w
theorem en_rinf (args : Array Value) (w : World) : (callFunc 157 args).run Tryz.prog w = .ok (.enter 157 args) w := enter7 Tryz.func157 (by kernel_rfl) (by kernel_rfl) args w
theorem en_rnou (args : Array Value) (w : World) : (callFunc 167 args).run Tryz.prog w = .ok (.enter 167 args) w := enter7 Tryz.func167 (by kernel_rfl) (by kernel_rfl) args w
theorem en_rnum (args : Array Value) (w : World) : (callFunc 175 args).run Tryz.prog w = .ok (.enter 175 args) w := enter7 Tryz.func175 (by kernel_rfl) (by kernel_rfl) args w
def AddIs (E F a b : Int) (md : Nat) (x y z : Int) : Prop := ∀ W : World,Tb W → Nb W → Calls Tryz.prog 8 #[.agg #[.int .i64 E,.int .i64 F],.int .u64 a,.int .u64 b,.int .u8 (md : Int)] W fun e w' => e = .returned (.tuple #[.int .u64 x,.int .u8 y,.int .i64 z]) ∧ Below W.heap.size W w'
theorem add_plain {E F S I a b md : Nat} (h : Fm E F S I) (ha : a < 2 * S) (hb : b < 2 * S) (hmd : md ≤ 4) {k0 k1 : Kd} (HA : FlOf E F a k0) (HB : FlOf E F b k1) (hr : (k0.isNan || k1.isNan) = false) (fn fr : Nat) (t : TypeId) (y : Value) (bb gg : Int)
  (hm0 : ∀ (W : World) (B : Nat) (t0 : TypeId) (y0 : Value), Flt W B (.iface t0 y0) k0 → ∀ w : World, (method 351 t0 y0 "numeral/soft.plus").run Tryz.prog w = .ok (fn, y0) w)
  (hcf : ∀ (args : Array Value) (w : World),(callFunc fn args).run Tryz.prog w = .ok (.enter fn args) w) (hcr : ∀ (args : Array Value) (w : World),(callFunc fr args).run Tryz.prog w = .ok (.enter fr args) w)
  (HP : ∀ (W : World) (B : Nat) (t0 t1 : TypeId) (y0 y1 : Value),Tb W → Flt W B (.iface t0 y0) k0 → Flt W B (.iface t1 y1) k1 → Calls Tryz.prog fn #[y0,.iface t1 y1,.int .u8 (md : Int)] W fun e w' => e = .returned (.iface t y) ∧ Below W.heap.size W w')
  (hm : ∀ w : World, (method 351 t y "numeral/soft.rounded").run Tryz.prog w = .ok (fr, y) w) (HRd : ∀ W : World, Calls Tryz.prog fr #[y, .agg #[.int .i64 E, .int .i64 F], .int .u8 (md : Int)] W fun e w' => e = .returned (.tuple #[.int .u64 bb, .int .u8 gg, .int .i64 0]) ∧ Below W.heap.size W w') : AddIs E F a b md bb gg 0 :=
 fun W hT hN => sAdd_is E F a b md bb gg 0 W (hide fun W' p pm hbel hp hpm => operate2_plain E F a b md 23 p pm (fits_T h ha) (fits_T h hb) k0 k1 (hide HA) (hide HB) hmd hr fr bb gg t y W' hp hpm (hT.kept hbel) (hN.kept hbel) en_add1 hcr
  (hide fun W q t0 t1 y0 y1 hT hq hpm f0 f1 => add1_plain q pm fn t0 t1 y0 y1 md t y W hq hpm (hm0 W _ t0 y0 f0) hcf (hide fun W' hb => HP W' _ t0 t1 y0 y1 (hT.kept hb) (f0.kept hb) (f1.kept hb))) hm (hide HRd))
theorem add_num {E F S I a b md : Nat} (h : Fm E F S I) (ha : a < 2 * S) (hb : b < 2 * S) (hmd : md ≤ 4) {k0 k1 : Kd} (HA : FlOf E F a k0) (HB : FlOf E F b k1) (hr : (k0.isNan || k1.isNan) = false) (fn : Nat) (r : Bool) (v : Nat) (y fl2 : Int) (bb gg : Int)
  (hm0 : ∀ (W : World) (B : Nat) (t0 : TypeId) (y0 : Value), Flt W B (.iface t0 y0) k0 → ∀ w : World, (method 351 t0 y0 "numeral/soft.plus").run Tryz.prog w = .ok (fn, y0) w)
  (hcf : ∀ (args : Array Value) (w : World),(callFunc fn args).run Tryz.prog w = .ok (.enter fn args) w)
  (HP : ∀ (W : World) (B : Nat) (t0 t1 : TypeId) (y0 y1 : Value),Tb W → Flt W B (.iface t0 y0) k0 → Flt W B (.iface t1 y1) k1 → Calls Tryz.prog fn #[y0,.iface t1 y1,.int .u8 (md : Int)] W fun e w' => (∃ A N C,e = .returned (.iface 150 (.agg #[.bool r,.slice A N C,.int .i64 y,.int .u8 fl2])) ∧ Mine w' 0 A N C v) ∧ Below W.heap.size W w')
  (HRd : ∀ (W : World) (A : Option Addr) (N C : Nat),Mine W 0 A N C v → Calls Tryz.prog 175 #[.agg #[.bool r,.slice A N C,.int .i64 y,.int .u8 fl2],.agg #[.int .i64 E,.int .i64 F],.int .u8 (md : Int)] W fun e w' => e = .returned (.tuple #[.int .u64 bb,.int .u8 gg,.int .i64 0]) ∧ Below W.heap.size W w') : AddIs E F a b md bb gg 0 :=
 fun W hT hN => sAdd_is E F a b md bb gg 0 W (hide fun W' p pm hbel hp hpm => operate2_num E F a b md 23 p pm (fits_T h ha) (fits_T h hb) k0 k1 (hide HA) (hide HB) hmd hr 175 bb gg r v y fl2 W' hp hpm (hT.kept hbel) (hN.kept hbel) en_add1 en_rnum
  (hide fun W q t0 t1 y0 y1 hT hq hpm f0 f1 => add1_num q pm fn t0 t1 y0 y1 md r v y fl2 W hq hpm (hm0 W _ t0 y0 f0) hcf (hide fun W' hb => HP W' _ t0 t1 y0 y1 (hT.kept hb) (f0.kept hb) (f1.kept hb))) (fun _ _ _ w => mr_num _ w) (hide HRd))
theorem add_nan {E F S I a b md : Nat} (h : Fm E F S I) (ha : a < 2 * S) (hb : b < 2 * S) (hmd : md ≤ 4) {k0 k1 : Kd} (HA : FlOf E F a k0) (HB : FlOf E F b k1) (hr : (k0.isNan || k1.isNan) = true) (fl : Nat) (hfl : nn2 k0 k1 = (fl : Int)) (n : Int) (HN : Tel 152 #[.agg #[.int .i64 E,.int .i64 F],.bool false,.int .u64 0] (.tuple #[.int .u64 n,.int .i64 0])) : AddIs E F a b md n fl 0 :=
 fun W hT hN => sAdd_is E F a b md n fl 0 W (hide fun W' p pm hbel hp hpm => operate2_nan E F a b md 23 p pm (fits_T h ha) (fits_T h hb) k0 k1 (hide HA) (hide HB) hmd hr 149 n fl 85 (.agg #[.int .u8 (fl : Int)]) fl hfl W' hp hpm (hT.kept hbel) (hN.kept hbel) en_add1 en_rnone
  (hide fun W q t0 t1 y0 y1 hT hq hpm f0 f1 => by
   obtain ⟨rfl,rfl⟩ := Value.iface.inj f0
   exact add1_plain q pm 147 _ t1 _ y1 md _ _ W hq hpm (fun w => mt_none _ w) en_pnone (hide fun W' hb => noneplus fl md t1 y1 W')) (fun w => mr_none _ w) (hide fun W => nonerounded fl E F md n 0 HN W))
theorem Kr.ok {k : Kd} {g n q i s : Bool} {m : Nat} {x : Int} (h : Kr k g n q i s m x) : OkD s m x ∧ -2048 ≤ x ∧ m * 2 ^ (x - -2048).toNat < 2 ^ 3100 := by
 cases h with
 | num g m x hm ho hx hk => exact ⟨ho,hx,hk⟩
 | nanq => exact ⟨Or.inl ⟨rfl,rfl,rfl⟩,by decide,by rw [Nat.zero_mul]; exact pow_pos2 3100⟩
 | nanl => exact ⟨Or.inl ⟨rfl,rfl,rfl⟩,by decide,by rw [Nat.zero_mul]; exact pow_pos2 3100⟩
 | inf => exact ⟨Or.inl ⟨rfl,rfl,rfl⟩,by decide,by rw [Nat.zero_mul]; exact pow_pos2 3100⟩
 | zero => exact ⟨Or.inl ⟨rfl,rfl,rfl⟩,by decide,by rw [Nat.zero_mul]; exact pow_pos2 3100⟩
theorem kr_nan {k0 k1 : Kd} {g0 n0 q0 i0 s0 g1 n1 q1 i1 s1 : Bool} {m0 m1 : Nat} {x0 x1 : Int} (h0 : Kr k0 g0 n0 q0 i0 s0 m0 x0) (h1 : Kr k1 g1 n1 q1 i1 s1 m1 x1) :
  (k0.isNan || k1.isNan) = (n0 || n1) ∧ ((n0 || n1) = true → ∃ fl : Nat,nn2 k0 k1 = (fl : Int) ∧ ((fl : Int) = fl16 ((n0 && !q0) || (n1 && !q1)))) := by
 cases h0 <;> cases h1 <;> refine ⟨rfl,fun h => ?_⟩ <;> first | exact Bool.noConfusion h | exact ⟨0,by decide,by decide⟩ | exact ⟨16,by decide,by decide⟩ | exact ⟨0,(by show Go.bits .or .u8 0 ((0 : Nat) : Int) = _; decide),by decide⟩ | exact ⟨16,(by show Go.bits .or .u8 0 ((16 : Nat) : Int) = _; decide),by decide⟩
def sgS (S : Nat) (s : Bool) : Int := ((if s then S else 0 : Nat) : Int)
theorem nou_T {E F S I : Nat} (h : Fm E F S I) (s : Bool) : Tel 84 #[.agg #[.int .i64 E,.int .i64 F],.bool s] (.tuple #[.int .u64 (sgS S s),.int .i64 0]) := fun W => by
 refine Nought_ok E F _ s h.fo ⟨pow_pos2 F,pow_pos2 E,?_⟩ W
 rw [← h.hS]
 cases s <;> simp
theorem flag_or {B F I md : Nat} {s : Bool} {m k : Nat} {x : Int} : Go.bits .or .u8 (flagR B F I md s m k x : Int) 0 = (flagR B F I md s m k x : Int) := by
 unfold flagR
 split
 ·decide
 ·split
  ·decide
  ·split <;> decide
theorem top_low {v : Nat} {y : Int} (kv : v * 2 ^ (y - -2048).toNat < 2 ^ 3101) (h0 : 0 < v) : y ≤ 4000 := by
 refine Int.not_lt.1 fun hc => ?_
 have h1 : 2 ^ (y - -2048).toNat ≤ v * 2 ^ (y - -2048).toNat := Nat.le_mul_of_pos_left _ h0
 have h2 : 2 ^ 3101 ≤ 2 ^ (y - -2048).toNat := pow_bound (n := 3101) (k := (y - -2048).toNat) (by omega)
 exact Nat.lt_irrefl (2 ^ 3101) (Nat.lt_of_le_of_lt (Nat.le_trans h2 h1) kv)
theorem okd_odd {s : Bool} {m : Nat} {x : Int} (h : OkD s m x) (hm : 0 < m) : m % 2 = 1 ∧ -1073741824 ≤ x ∧ x ≤ 1073741824 := by
 rcases h with ⟨_,h1,_⟩ | h1
 ·omega
 ·exact h1
theorem sum_both {E F S I B md : Nat} (h : Fm E F S I) (hB : B = 2 ^ (E - 1) - 1) (hmd : md ≤ 4) {s0 s1 : Bool} {m0 m1 : Nat} {x0 x1 : Int} (g0 g1 : Bool) (o0 : OkD s0 m0 x0 ∧ -2048 ≤ x0 ∧ m0 * 2 ^ (x0 - -2048).toNat < 2 ^ 3100) (o1 : OkD s1 m1 x1 ∧ -2048 ≤ x1 ∧ m1 * 2 ^ (x1 - -2048).toNat < 2 ^ 3100) :
  ∃ (r : Bool) (v : Nat) (y xs ys : Int),SumsM s0 m0 x0 s1 m1 x1 0 r v y ∧ OkD r v y ∧ -2048 ≤ y ∧ v * 2 ^ (y - -2048).toNat < 2 ^ 3101 ∧ sv r (v * 2 ^ (y - -2048).toNat) = sv s0 (m0 * 2 ^ (x0 - -2048).toNat) + sv s1 (m1 * 2 ^ (x1 - -2048).toNat) ∧
   (∀ (W : World) (A : Option Addr) (N C : Nat) (A' : Option Addr) (N' C' : Nat),Num W A N m0 → Num W A' N' m1 → Calls Tryz.prog 28 #[.agg #[.int .i64 E,.int .i64 F],.agg #[.bool s0,.slice A N C,.int .i64 x0],.agg #[.bool s1,.slice A' N' C',.int .i64 x1],.bool g0,.bool g1,.int .u8 (md : Int)] W fun e w' => e = .returned (.tuple #[.int .u64 xs,.int .u8 ys]) ∧ Below W.heap.size W w') ∧
   (0 < v → xs = (bitsR S I md r (rowR B F md r v (blen v) y) : Int) ∧ ys = (flagR B F I md r v (blen v) y : Int)) ∧ (v = 0 → m0 = 0 → g0 = g1 → xs = sgS S g0 ∧ ys = 0) ∧ (v = 0 → ¬ (m0 = 0 ∧ g0 = g1) → xs = sgS S (decide (md = 4)) ∧ ys = 0) := by
 obtain ⟨oa,la,ka⟩ := o0
 obtain ⟨ob,lb,kb⟩ := o1
 obtain ⟨r,v,y,SU,ok,ly,kv,we⟩ := add_inM (-2048) 3100 oa ob (by decide) (by decide) (by decide) la lb ka kb
 rw [show 3100 + 1 = 3101 from rfl] at kv
 obtain ⟨r',v',y',RS,ok',ly',we'⟩ := radd_in (-2048) 3100 oa ob (by decide) (by decide) (by decide) la lb ka kb
 obtain ⟨rfl,rfl,rfl⟩ := OkD.oneM ok ok' ly ly' (we.trans we'.symm)
 have hm4 : ((md : Int) == (4 : Int)) = decide (md = 4) := by rw [Bool.eq_iff_iff]; simp; omega
 rcases Nat.eq_zero_or_pos v with hv | hv
 ·by_cases hc : m0 = 0 ∧ g0 = g1
  ·refine ⟨r,v,y,sgS S g0,0,SU,ok,ly,kv,we,fun W A N C A' N' C' n0 n1 => ?_,fun c => by omega,fun _ _ _ => ⟨rfl,rfl⟩,fun _ c => absurd hc c⟩
   exact xsum_same E F md s0 A N C m0 x0 s1 A' N' C' m1 x1 g0 g1 r v y _ W n0 n1 (hide RS) hv (n0.zero.2 hc.1) (by rw [hc.2]; simp) (fun W => xzero E F _ g0 (xsign_T h g0) W)
  ·refine ⟨r,v,y,sgS S (decide (md = 4)),0,SU,ok,ly,kv,we,fun W A N C A' N' C' n0 n1 => ?_,fun c => by omega,fun _ c1 c2 => absurd ⟨c1,c2⟩ hc,fun _ _ => ⟨rfl,rfl⟩⟩
   refine xsum_diff E F md s0 A N C m0 x0 s1 A' N' C' m1 x1 g0 g1 r v y _ W n0 n1 (hide RS) hv ?_ _ hm4 (fun W => xzero E F _ _ (xsign_T h _) W)
   by_cases h1 : m0 = 0
   ·exact Or.inr (by simpa using fun c => hc ⟨h1,c⟩)
   ·exact Or.inl (by have := n0.zero; simp; omega)
 ·have hod := okd_odd ok hv
  have hyl := top_low kv hv
  have hvK : v < 2 ^ 3101 := Nat.lt_of_le_of_lt (Nat.le_mul_of_pos_right _ (pow_pos2 _)) kv
  have hbl : blen v ≤ 3101 := (bl_blen v).le_of hvK
  refine ⟨r,v,y,_,_,SU,ok,ly,kv,we,fun W A N C A' N' C' n0 n1 => ?_,fun _ => ⟨rfl,rfl⟩,fun c => by omega,fun c => by omega⟩
  exact xsum_num E F md s0 A N C m0 x0 s1 A' N' C' m1 x1 g0 g1 r v y _ _ W n0 n1 (hide RS) hv (hide fun W A N C g => xworth E F md r A N C v y _ _ W g (hide fun W g => rround_any h hB hmd r A N C v (blen v) y W g hod.1 (by omega) (bl_blen v) (by omega)))
theorem ifc {a c : TypeId} {b d : Value} (h : Value.iface a b = .iface c d) : a = c ∧ b = d := by injection h with h1 h2; exact ⟨h1,h2⟩
theorem flip_ne {a b : Bool} (h : ¬ a = b) : (!a == b) = true := by cases a <;> cases b <;> simp_all
theorem add_both {E F S I a b md : Nat} (h : Fm E F S I) (ha : a < 2 * S) (hb : b < 2 * S) (hmd : md ≤ 4) :
  ∃ X Y : Int,AddIs E F a b md X Y 0 ∧ Tel 9 #[.agg #[.int .i64 E,.int .i64 F],.int .u64 (a : Int),.int .u64 (b : Int),.int .u8 (md : Int)] (.tuple #[.int .u64 X,.int .u8 Y,.int .i64 0]) := by
 obtain ⟨k0,g0,n0,q0,i0,s0,m0,x0,HA,HO0,K0,-,hi0⟩ := flt_kr h ha
 obtain ⟨k1,g1,n1,q1,i1,s1,m1,x1,HB,HO1,K1,-,hi1⟩ := flt_kr h hb
 obtain ⟨nn,N1,N2⟩ := nan_both h
 obtain ⟨B,hB⟩ : ∃ B,B = 2 ^ (E - 1) - 1 := ⟨_,rfl⟩
 have h0 := h.fo
 have R0 : Tel 52 #[.agg #[.int .i64 E,.int .i64 F],.int .u64 (a : Int)] (.int .i64 0) := fun W => rmay_ok E F a h0 (h.bt ha) W
 have Q0 : Tel 52 #[.agg #[.int .i64 E,.int .i64 F],.int .u64 (b : Int)] (.int .i64 0) := fun W => rmay_ok E F b h0 (h.bt hb) W
 obtain ⟨r,v,y,xs,ys,SU,ok,ly,-,we,HSm,hpos,hsame,hdiff⟩ := sum_both h hB hmd g0 g1 K0.ok K1.ok
 have ref : ∀ X Y : Int,_ → Tel 9 #[.agg #[.int .i64 E,.int .i64 F],.int .u64 (a : Int),.int .u64 (b : Int),.int .u8 (md : Int)] (.tuple #[.int .u64 X,.int .u8 Y,.int .i64 0]) := fun X Y hc W => xAdd_ok W E F a b md g0 n0 q0 i0 s0 g1 n1 q1 i1 s1 m0 m1 x0 x1 nn X Y xs ys R0 Q0 (by omega) (hide HO0) (hide HO1) N2 (hide HSm) hc
 obtain ⟨hn,hfl⟩ := kr_nan K0 K1
 by_cases hr : (n0 || n1) = true
 ·obtain ⟨fl,f1,f2⟩ := hfl hr
  exact ⟨nn,fl,add_nan h ha hb hmd HA HB (hn.trans hr) fl f1 nn N1,ref nn fl (Or.inl ⟨hr,rfl,f2⟩)⟩
 replace hr : (n0 || n1) = false := by simpa using hr
 rw [hr] at hn
 have infR : ∀ g : Bool,∀ W : World,Calls Tryz.prog 157 #[.agg #[.bool g,.int .u8 ((0 : Nat) : Int)],.agg #[.int .i64 E,.int .i64 F],.int .u8 (md : Int)] W fun e w' => e = .returned (.tuple #[.int .u64 (infS S I g : Int),.int .u8 0,.int .i64 0]) ∧ Below W.heap.size W w' := fun g W => infrounded g 0 E F md _ 0 (inf_T h g) W
 have nouR : ∀ g : Bool,∀ W : World,Calls Tryz.prog 167 #[.agg #[.bool g,.int .u8 ((0 : Nat) : Int)],.agg #[.int .i64 E,.int .i64 F],.int .u8 (md : Int)] W fun e w' => e = .returned (.tuple #[.int .u64 (sgS S g),.int .u8 0,.int .i64 0]) ∧ Below W.heap.size W w' := fun g W => nourounded g 0 E F md _ 0 (nou_T h g) W
 have numR : 0 < v → ∀ (W : World) (A : Option Addr) (N C : Nat),Mine W 0 A N C v → Calls Tryz.prog 175 #[.agg #[.bool r,.slice A N C,.int .i64 y,.int .u8 ((0 : Nat) : Int)],.agg #[.int .i64 E,.int .i64 F],.int .u8 (md : Int)] W fun e w' => e = .returned (.tuple #[.int .u64 xs,.int .u8 ys,.int .i64 0]) ∧ Below W.heap.size W w' := fun hv W A N C g => by
  obtain ⟨e1,e2⟩ := hpos hv
  have hod := okd_odd ok hv
  rw [e1,e2]
  exact numrounded r A N C v y 0 E F md _ _ _ W g (hide fun W g => rdyadic_any h hB hmd r r A N C v (blen v) y W 0 g hod (bl_blen v)) flag_or
 have hm4 : ((md : Int) == (4 : Int)) = decide (md = 4) := by rw [Bool.eq_iff_iff]; simp; omega
 cases K0 with
 | nanq => simp at hr
 | nanl => simp at hr
 | inf =>
  have ea := hi0 rfl
  cases K1 with
  | nanq => simp at hr
  | nanl => simp at hr
  | inf =>
   by_cases hg : g0 = g1
   ·subst hg
    refine ⟨_,0,add_plain h ha hb hmd HA HB hn 155 157 147 _ _ _ (fun W B t0 y0 f w => by obtain ⟨rfl,rfl⟩ := ifc f; exact mt_inf _ w) en_pinf en_rinf (fun W B t0 t1 y0 y1 hT f0 f1 => ?_) (fun w => mr_inf _ w) (infR g0),ref _ 0 (Or.inr ⟨hr,Or.inr (Or.inl ⟨rfl,rfl,by simp,by rw [← ea],rfl⟩)⟩)⟩
    obtain ⟨rfl,rfl⟩ := ifc f0
    obtain ⟨rfl,rfl⟩ := ifc f1
    exact infplus_same g0 g0 0 0 md (by simp) W
   ·refine ⟨nn,16,add_plain h ha hb hmd HA HB hn 155 149 85 (.agg #[.int .u8 16]) _ _ (fun W B t0 y0 f w => by obtain ⟨rfl,rfl⟩ := ifc f; exact mt_inf _ w) en_pinf en_rnone (fun W B t0 t1 y0 y1 hT f0 f1 => ?_) (fun w => mr_none _ w) (fun W => nonerounded 16 E F md nn 0 N1 W),ref _ 16 (Or.inr ⟨hr,Or.inl ⟨rfl,rfl,flip_ne hg,rfl,rfl⟩⟩)⟩
    obtain ⟨rfl,rfl⟩ := ifc f0
    obtain ⟨rfl,rfl⟩ := ifc f1
    exact infplus_diff g0 g1 0 0 md (by simpa using hg) W
  | zero =>
   refine ⟨_,0,add_plain h ha hb hmd HA HB hn 155 157 147 _ _ _ (fun W B t0 y0 f w => by obtain ⟨rfl,rfl⟩ := ifc f; exact mt_inf _ w) en_pinf en_rinf (fun W B t0 t1 y0 y1 hT f0 f1 => ?_) (fun w => mr_inf _ w) (infR g0),ref _ 0 (Or.inr ⟨hr,Or.inr (Or.inr (Or.inl ⟨rfl,rfl,by rw [← ea],rfl⟩))⟩)⟩
   obtain ⟨rfl,rfl⟩ := ifc f0
   obtain ⟨rfl,rfl⟩ := ifc f1
   exact infplus_o g0 0 md _ _ (by decide) W
  | num _ _ _ hm ho hx hk =>
   clear hk
   refine ⟨_,0,add_plain h ha hb hmd HA HB hn 155 157 147 _ _ _ (fun W B t0 y0 f w => by obtain ⟨rfl,rfl⟩ := ifc f; exact mt_inf _ w) en_pinf en_rinf (fun W B t0 t1 y0 y1 hT f0 f1 => ?_) (fun w => mr_inf _ w) (infR g0),ref _ 0 (Or.inr ⟨hr,Or.inr (Or.inr (Or.inl ⟨rfl,rfl,by rw [← ea],rfl⟩))⟩)⟩
   obtain ⟨rfl,rfl⟩ := ifc f0
   obtain ⟨A,N,C,f1,_⟩ := f1
   obtain ⟨rfl,rfl⟩ := ifc f1
   exact infplus_o g0 0 md _ _ (by decide) W
 | zero =>
  cases K1 with
  | nanq => simp at hr
  | nanl => simp at hr
  | inf =>
   have eb := hi1 rfl
   refine ⟨_,0,add_plain h ha hb hmd HA HB hn 165 157 147 _ _ _ (fun W B t0 y0 f w => by obtain ⟨rfl,rfl⟩ := ifc f; exact mt_nou _ w) en_pnou en_rinf (fun W B t0 t1 y0 y1 hT f0 f1 => ?_) (fun w => mr_inf _ w) (infR g1),ref _ 0 (Or.inr ⟨hr,Or.inr (Or.inr (Or.inr (Or.inl ⟨rfl,rfl,by rw [← eb],rfl⟩)))⟩)⟩
   obtain ⟨rfl,rfl⟩ := ifc f0
   obtain ⟨rfl,rfl⟩ := ifc f1
   exact nouplus_o g0 0 md _ _ (by decide) W
  | zero =>
   have hv0 : v = 0 := by
    refine Nat.eq_zero_of_not_pos fun hv => ?_
    rw [Nat.zero_mul,sv_zero,Int.add_zero] at we
    have h2 := Nat.mul_pos hv (pow_pos2 (y - -2048).toNat)
    unfold sv at we
    split at we <;> omega
   by_cases hg : g0 = g1
   ·obtain ⟨e1,e2⟩ := hsame hv0 rfl hg
    refine ⟨xs,ys,?_,ref _ _ (Or.inr ⟨hr,Or.inr (Or.inr (Or.inr (Or.inr ⟨rfl,rfl,rfl,rfl⟩)))⟩)⟩
    rw [e1,e2,hg]
    refine add_plain h ha hb hmd HA HB hn 165 167 148 _ _ _ (fun W B t0 y0 f w => by obtain ⟨rfl,rfl⟩ := ifc f; exact mt_nou _ w) en_pnou en_rnou (fun W B t0 t1 y0 y1 hT f0 f1 => ?_) (fun w => mr_nou _ w) (nouR g1)
    obtain ⟨rfl,rfl⟩ := ifc f0
    obtain ⟨rfl,rfl⟩ := ifc f1
    exact nouplus_same g0 g1 0 0 md (by rw [hg]; simp) W
   ·obtain ⟨e1,e2⟩ := hdiff hv0 (fun c => hg c.2)
    refine ⟨xs,ys,?_,ref _ _ (Or.inr ⟨hr,Or.inr (Or.inr (Or.inr (Or.inr ⟨rfl,rfl,rfl,rfl⟩)))⟩)⟩
    rw [e1,e2]
    refine add_plain h ha hb hmd HA HB hn 165 167 148 _ _ _ (fun W B t0 y0 f w => by obtain ⟨rfl,rfl⟩ := ifc f; exact mt_nou _ w) en_pnou en_rnou (fun W B t0 t1 y0 y1 hT f0 f1 => ?_) (fun w => mr_nou _ w) (nouR (decide (md = 4)))
    obtain ⟨rfl,rfl⟩ := ifc f0
    obtain ⟨rfl,rfl⟩ := ifc f1
    exact nouplus_diff g0 g1 0 0 md (by simpa using hg) _ hm4 W
  | num _ _ _ hm ho hx hk =>
   clear hk
   rw [Nat.zero_mul,sv_zero,Int.zero_add] at we
   obtain ⟨rfl,rfl,rfl⟩ := OkD.oneM ok ho ly hx we
   refine ⟨xs,ys,add_num h ha hb hmd HA HB hn 165 r v y _ xs ys (fun W B t0 y0 f w => by obtain ⟨rfl,rfl⟩ := ifc f; exact mt_nou _ w) en_pnou (fun W B t0 t1 y0 y1 hT f0 f1 => ?_) (numR hm),ref _ _ (Or.inr ⟨hr,Or.inr (Or.inr (Or.inr (Or.inr ⟨rfl,rfl,rfl,rfl⟩)))⟩)⟩
   obtain ⟨rfl,rfl⟩ := ifc f0
   obtain ⟨A,N,C,f1,hmi⟩ := f1
   obtain ⟨rfl,rfl⟩ := ifc f1
   refine (nouplus_o g0 0 md _ _ (by decide) W).mono ?_
   rintro e w' ⟨rfl,hbl⟩
   exact ⟨⟨A,N,C,rfl,(hmi.kept hbl).mono (Nat.zero_le _)⟩,hbl⟩
 | num _ _ _ hm ho hx hk =>
  clear hk
  cases K1 with
  | nanq => simp at hr
  | nanl => simp at hr
  | inf =>
   have eb := hi1 rfl
   refine ⟨_,0,add_plain h ha hb hmd HA HB hn 173 157 147 _ _ _ (fun W B t0 y0 f w => by obtain ⟨A,N,C,f,_⟩ := f; obtain ⟨rfl,rfl⟩ := ifc f; exact mt_num _ w) en_pnum en_rinf (fun W B t0 t1 y0 y1 hT f0 f1 => ?_) (fun w => mr_inf _ w) (infR g1),ref _ 0 (Or.inr ⟨hr,Or.inr (Or.inr (Or.inr (Or.inl ⟨rfl,rfl,by rw [← eb],rfl⟩)))⟩)⟩
   obtain ⟨A,N,C,f0,_⟩ := f0
   obtain ⟨rfl,rfl⟩ := ifc f0
   obtain ⟨rfl,rfl⟩ := ifc f1
   exact numplus_inf g0 A N C x0 0 0 md g1 W
  | zero =>
   rw [Nat.zero_mul,sv_zero,Int.add_zero] at we
   obtain ⟨rfl,rfl,rfl⟩ := OkD.oneM ok ho ly hx we
   refine ⟨xs,ys,add_num h ha hb hmd HA HB hn 173 r v y _ xs ys (fun W B t0 y0 f w => by obtain ⟨A,N,C,f,_⟩ := f; obtain ⟨rfl,rfl⟩ := ifc f; exact mt_num _ w) en_pnum (fun W B t0 t1 y0 y1 hT f0 f1 => ?_) (numR hm),ref _ _ (Or.inr ⟨hr,Or.inr (Or.inr (Or.inr (Or.inr ⟨rfl,rfl,rfl,rfl⟩)))⟩)⟩
   obtain ⟨A,N,C,f0,hmi⟩ := f0
   obtain ⟨rfl,rfl⟩ := ifc f0
   obtain ⟨rfl,rfl⟩ := ifc f1
   refine (numplus_nou r A N C y 0 0 md g1 W).mono ?_
   rintro e w' ⟨rfl,hbl⟩
   exact ⟨⟨A,N,C,rfl,(hmi.kept hbl).mono (Nat.zero_le _)⟩,hbl⟩
  | num _ _ _ hm1 ho1 hx1 hk1 =>
   clear hk1
   rcases Nat.eq_zero_or_pos v with hv | hv
   ·obtain ⟨e1,e2⟩ := hdiff hv (fun c => by omega)
    refine ⟨xs,ys,?_,ref _ _ (Or.inr ⟨hr,Or.inr (Or.inr (Or.inr (Or.inr ⟨rfl,rfl,rfl,rfl⟩)))⟩)⟩
    rw [e1,e2]
    refine add_plain h ha hb hmd HA HB hn 173 167 148 _ _ _ (fun W B t0 y0 f w => by obtain ⟨A,N,C,f,_⟩ := f; obtain ⟨rfl,rfl⟩ := ifc f; exact mt_num _ w) en_pnum en_rnou (fun W B t0 t1 y0 y1 hT f0 f1 => ?_) (fun w => mr_nou _ w) (nouR (decide (md = 4)))
    obtain ⟨A,N,C,f0,hmi⟩ := f0
    obtain ⟨rfl,rfl⟩ := ifc f0
    obtain ⟨A1,N1',C1,f1,hmj⟩ := f1
    obtain ⟨rfl,rfl⟩ := ifc f1
    exact numplus_zero g0 A N C m0 x0 0 g1 A1 N1' C1 m1 x1 0 md r v y _ hm4 W hmi.num hmj.num hT (hide SU) hv
   ·refine ⟨xs,ys,add_num h ha hb hmd HA HB hn 173 r v y _ xs ys (fun W B t0 y0 f w => by obtain ⟨A,N,C,f,_⟩ := f; obtain ⟨rfl,rfl⟩ := ifc f; exact mt_num _ w) en_pnum (fun W B t0 t1 y0 y1 hT f0 f1 => ?_) (numR hv),ref _ _ (Or.inr ⟨hr,Or.inr (Or.inr (Or.inr (Or.inr ⟨rfl,rfl,rfl,rfl⟩)))⟩)⟩
    obtain ⟨A,N,C,f0,hmi⟩ := f0
    obtain ⟨rfl,rfl⟩ := ifc f0
    obtain ⟨A1,N1',C1,f1,hmj⟩ := f1
    obtain ⟨rfl,rfl⟩ := ifc f1
    refine (numplus_num g0 A N C m0 x0 0 g1 A1 N1' C1 m1 x1 0 md r v y W hmi.num hmj.num hT (hide SU) hv).mono ?_
    rintro e w' ⟨⟨A2,N2',C2,rfl,hm2⟩,hbl⟩
    exact ⟨⟨A2,N2',C2,rfl,hm2.mono (Nat.zero_le _)⟩,hbl⟩
theorem xor_hi {b K : Nat} (hb : b < 2 ^ K) : b ^^^ 2 ^ K = 2 ^ K + b := by
 have h1 : 2 ^ K + b = 2 ^ K ||| b := by have := Nat.two_pow_add_eq_or_of_lt (i := K) hb 1; simpa using this
 rw [h1]
 apply Nat.eq_of_testBit_eq
 intro i
 rw [Nat.testBit_xor,Nat.testBit_or,Nat.testBit_two_pow]
 by_cases h : K = i
 ·subst h; simp [Nat.testBit_lt_two_pow hb]
 ·simp [h]
theorem xor_lo {b K : Nat} (hb : b < 2 ^ K) : (2 ^ K + b) ^^^ 2 ^ K = b := by rw [← xor_hi hb,Nat.xor_assoc,Nat.xor_self,Nat.xor_zero]
theorem xor_u64 (a b : Nat) (ha : a < 18446744073709551616) (hb : b < 18446744073709551616) (hc : a ^^^ b < 18446744073709551616) : Go.bits .xor .u64 (a : Int) (b : Int) = ((a ^^^ b : Nat) : Int) := by
 show IntKind.u64.wrap ((BitVec.ofInt 64 (a : Int) ^^^ BitVec.ofInt 64 (b : Int)).toNat : Int) = _
 rw [BitVec.toNat_xor,ofInt_u64 a ha,ofInt_u64 b hb,IntKind.wrap_u64]
 omega
theorem turned {E F S I b : Nat} (h : Fm E F S I) (hb : b < 2 * S) : ∃ b',b' < 2 * S ∧ Go.bits .xor .u64 (b : Int) (S : Int) = (b' : Int) := by
 have h63 := h.s63
 have hS := h.hS
 have h0 := h.pos
 by_cases hlt : b < S
 ·refine ⟨S + b,by omega,?_⟩
  have e : b ^^^ S = S + b := by rw [hS] at hlt ⊢; exact xor_hi hlt
  rw [xor_u64 b S (by omega) (by omega) (by omega),e]
 ·obtain ⟨c,rfl⟩ : ∃ c,b = S + c := ⟨b - S,by omega⟩
  refine ⟨c,by omega,?_⟩
  have hc : c < S := by omega
  have e : (S + c) ^^^ S = c := by rw [hS] at hc ⊢; exact xor_lo hc
  rw [xor_u64 (S + c) S (by omega) (by omega) (by omega),e]
theorem name_bad (md : Nat) (hm : 4 < md) (w : World) :
  Calls Tryz.prog 49 #[.int .u8 (md : Int)] w fun e w' => e = .returned (.tuple #[.string ⟨#[]⟩,.int .i64 7]) ∧ Below w.heap.size w w' := by
 go_enter Tryz.func49,Tryz.ntmps49
 go_wp2_with fail
 refine (mode_bad md hm _).mono ?_
 rintro e w1 ⟨rfl,hb1⟩
 clear hm
 go_wp2
 go_ret2
 exact ⟨rfl,hb1⟩
def SubIs (E F a b : Int) (md : Nat) (x y z : Int) : Prop := ∀ W : World,Tb W → Nb W → Calls Tryz.prog 10 #[.agg #[.int .i64 E,.int .i64 F],.int .u64 a,.int .u64 b,.int .u8 (md : Int)] W fun e w' => e = .returned (.tuple #[.int .u64 x,.int .u8 y,.int .i64 z]) ∧ Below W.heap.size W w'
def RAddIs (E F a b : Int) (md : Nat) (x y z : Int) : Prop := Tel 9 #[.agg #[.int .i64 E,.int .i64 F],.int .u64 a,.int .u64 b,.int .u8 (md : Int)] (.tuple #[.int .u64 x,.int .u8 y,.int .i64 z])
def RSubIs (E F a b : Int) (md : Nat) (x y z : Int) : Prop := Tel 11 #[.agg #[.int .i64 E,.int .i64 F],.int .u64 a,.int .u64 b,.int .u8 (md : Int)] (.tuple #[.int .u64 x,.int .u8 y,.int .i64 z])
theorem sums_any (E F : Int) (a b md : Nat) (ha : a < 18446744073709551616) (hb : b < 18446744073709551616) :
  (∃ x y z,AddIs E F a b md x y z ∧ RAddIs E F a b md x y z) ∧ (∃ x y z,SubIs E F a b md x y z ∧ RSubIs E F a b md x y z) := by
 have e1 : ∀ c : Int,(c == (0 : Int)) = false → Tel 79 #[.agg #[.int .i64 E,.int .i64 F],.int .u64 (a : Int)] (.int .i64 c) → AddIs E F a b md 0 0 c := fun c hc A0 W _ _ => sAdd_is E F a b md 0 0 c W (hide fun W' p pm _ hp _ => operate2_err1 E F a b md _ p pm c hc A0 W' hp)
 by_cases hbad : NoFo E F
 ·have hc : ((5 : Int) == (0 : Int)) = false := by decide
  have R0 : Tel 52 #[.agg #[.int .i64 E,.int .i64 F],.int .u64 (a : Int)] (.int .i64 5) := fun W => rmay_bad E F hbad (a : Int) W
  exact ⟨⟨0,0,5,e1 5 hc (fits_B hbad a),fun W => xAdd_err1 E F a b md 5 hc R0 W⟩,⟨0,0,5,fun W _ _ => sSub_err E F a b md 5 hc (fun W => sNeg_err E F b 5 hc (fits_B hbad b) W) W,fun W => xSub_err1 E F a b md 5 hc R0 W⟩⟩
 unfold NoFo at hbad
 obtain ⟨E,rfl⟩ : ∃ n : Nat,E = n := ⟨E.toNat,by omega⟩
 obtain ⟨F,rfl⟩ : ∃ n : Nat,F = n := ⟨F.toNat,by omega⟩
 have h0 : Fo E F := ⟨by omega,by omega,by omega,by omega⟩
 clear hbad
 obtain ⟨S,hS⟩ : ∃ S,S = 2 ^ (F + E) := ⟨_,rfl⟩
 obtain ⟨I,hI⟩ : ∃ I,I = (2 ^ E - 1) * 2 ^ F := ⟨_,rfl⟩
 have h : Fm E F S I := ⟨h0,hS,hI⟩
 have hc : ((6 : Int) == (0 : Int)) = false := by decide
 have HS : Tel 56 #[.agg #[.int .i64 E,.int .i64 F]] (.int .u64 (S : Int)) := fun W => ssign_is E F S h0 (hide hS) W
 have HX : Tel 30 #[.agg #[.int .i64 E,.int .i64 F],.bool true] (.int .u64 (S : Int)) := fun W => xsign_t E F S h0 (hide hS) W
 by_cases hfa : a < 2 * S
 ·have A0 := fits_T h hfa
  have R0 : Tel 52 #[.agg #[.int .i64 E,.int .i64 F],.int .u64 (a : Int)] (.int .i64 0) := fun W => rmay_ok E F a h0 (h.bt hfa) W
  by_cases hfb : b < 2 * S
  ·have B0 := fits_T h hfb
   have Q0 : Tel 52 #[.agg #[.int .i64 E,.int .i64 F],.int .u64 (b : Int)] (.int .i64 0) := fun W => rmay_ok E F b h0 (h.bt hfb) W
   obtain ⟨b',hb',hx⟩ := turned h hfb
   have HN : Tel 29 #[.agg #[.int .i64 E,.int .i64 F],.int .u64 (b : Int)] (.tuple #[.int .u64 (b' : Int),.int .i64 0]) := fun W => sNeg_ok E F b S b' B0 HS hx W
   by_cases hmd : md ≤ 4
   ·obtain ⟨X,Y,p1,p2⟩ := add_both h hfa hfb hmd
    obtain ⟨X',Y',p3,p4⟩ := add_both h hfa hb' hmd
    exact ⟨⟨X,Y,0,p1,p2⟩,⟨X',Y',0,fun W hT hN => sSub_ok E F a b b' md X' Y' 0 HN W hT hN (hide p3),fun W => xSub_ok E F a b b' md S X' Y' 0 R0 Q0 (by omega) HX hx p4 W⟩⟩
   ·have A1 : ∀ b : Nat,b < 2 * S → AddIs E F a b md 0 0 7 := fun b hfb W _ _ => sAdd_is E F a b md 0 0 7 W (hide fun W' p pm _ hp _ => operate2_mode E F a b md _ p pm _ A0 (fits_T h hfb) (fun W => name_bad md (by omega) W) W' hp)
    exact ⟨⟨0,0,7,A1 b hfb,fun W => xAdd_mode E F a b md R0 Q0 (by omega) W⟩,⟨0,0,7,fun W hT hN => sSub_ok E F a b b' md 0 0 7 HN W hT hN (hide (A1 b' hb')),fun W => xSub_mode E F a b md R0 Q0 (by omega) W⟩⟩
  ·have B0 := fits_M h hfb
   have Q0 : Tel 52 #[.agg #[.int .i64 E,.int .i64 F],.int .u64 (b : Int)] (.int .i64 6) := fun W => rmay_over E F b h0 (h.tb hfb) hb W
   exact ⟨⟨0,0,6,fun W _ _ => sAdd_is E F a b md 0 0 6 W (hide fun W' p pm _ hp _ => operate2_err2 E F a b md _ p pm 6 hc A0 B0 W' hp),fun W => xAdd_err2 E F a b md 6 hc R0 Q0 W⟩,
    ⟨0,0,6,fun W _ _ => sSub_err E F a b md 6 hc (fun W => sNeg_err E F b 6 hc B0 W) W,fun W => xSub_err2 E F a b md 6 hc R0 Q0 W⟩⟩
 ·have A0 := fits_M h hfa
  have R0 : Tel 52 #[.agg #[.int .i64 E,.int .i64 F],.int .u64 (a : Int)] (.int .i64 6) := fun W => rmay_over E F a h0 (h.tb hfa) ha W
  refine ⟨⟨0,0,6,e1 6 hc A0,fun W => xAdd_err1 E F a b md 6 hc R0 W⟩,⟨0,0,6,fun W hT hN => ?_,fun W => xSub_err1 E F a b md 6 hc R0 W⟩⟩
  by_cases hfb : b < 2 * S
  ·obtain ⟨b',hb',hx⟩ := turned h hfb
   exact sSub_ok E F a b b' md 0 0 6 (fun W => sNeg_ok E F b S b' (fits_T h hfb) HS hx W) W hT hN (hide fun W _ _ => sAdd_is E F a b' md 0 0 6 W (hide fun W' p pm _ hp _ => operate2_err1 E F a b' md _ p pm 6 hc A0 W' hp))
  ·exact sSub_err E F a b md 6 hc (fun W => sNeg_err E F b 6 hc (fits_M h hfb) W) W
theorem softSums_any (E F : Int) (a b c md : Nat) (w : World) (hT : Tb w) (hN : Nb w) (ha : a < 18446744073709551616) (hb : b < 18446744073709551616) :
  Calls Tryz.prog 3 #[.agg #[.int .i64 E,.int .i64 F,.int .u64 (a : Int),.int .u64 (b : Int),.int .u64 (c : Int),.int .u8 (md : Int)]] w fun e w' => e = .returned (.bool true) ∧ Below w.heap.size w w' := by
 obtain ⟨⟨x1,y1,z1,p1,q1⟩,⟨x3,y3,z3,p3,q3⟩⟩ := sums_any E F a b md ha hb
 obtain ⟨⟨x2,y2,z2,p2,q2⟩,-⟩ := sums_any E F b a md hb ha
 obtain ⟨⟨x4,y4,z4,p4,q4⟩,⟨x5,y5,z5,p5,q5⟩⟩ := sums_any E F a a md ha ha
 exact sums_law E F a b c md x1 y1 z1 x2 y2 z2 x3 y3 z3 x4 y4 z4 x5 y5 z5 (hide p1) q1 (hide p2) q2 (hide p3) q3 (hide p4) q4 (hide p5) q5 w hT hN
end Go.Proofs.YtfnhimofpelmdaaGreatDoor
