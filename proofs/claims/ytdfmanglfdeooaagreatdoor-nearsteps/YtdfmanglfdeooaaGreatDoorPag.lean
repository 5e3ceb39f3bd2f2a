/- Of what NearStepsRow stands on: Mul Compare Same Guess GcdWords LehMath Foretell Take Div QMath Sub CmpN. -/
import Derived.Test.YtdfmanglfdeooaaGreatDoorPaf
import Derived.BigQuiet
import Derived.Test.YtdfmanglfdeooaaGreatDoorPae
namespace Go.Proofs.YtdfmanglfdeooaaGreatDoor
open Go.RowKit
theorem pow_le_mul {xs ys : List Nat} (hx : Pl.Norm xs) (hy : Pl.Norm ys) (px : 0 < xs.length) (py : 0 < ys.length) (h : 16384 < xs.length + ys.length - 1) : Over (Pl.val xs * Pl.val ys) := by
 have h1 := Pl.norm_lower hx px
 have h2 := Pl.norm_lower hy py
 have h3 := Nat.mul_le_mul h1 h2
 rw [← Nat.pow_add] at h3
 exact ⟨Nat.le_trans (Pl.pow_le (by rw [Pl.top_eq]; omega)) h3⟩
theorem mine_nil (w : World) (base : Nat) : Mine w base none 0 0 0 := ⟨[],rfl,Or.inl ⟨rfl,rfl⟩,Pl.wf_nil,Pl.norm_nil,rfl,by omega⟩
set_option maxHeartbeats 400000 in
theorem mul_nil (a a' : Option Addr) (cap cap' : Nat) (xs ys : List Nat) (w : World) (hl : Lim w a xs) (hl' : Lim w a' ys) (hN : Pl.Norm xs) (hN' : Pl.Norm ys) (hb : xs.length ≤ 16384) (hb' : ys.length ≤ 16384) (h0 : xs = [] ∨ ys = []) :
  Calls Tryz.prog 99 #[.agg #[.slice a xs.length cap],.agg #[.slice a' ys.length cap']] w fun e w' => Ans w' w.heap.size e (Pl.val xs * Pl.val ys) ∧ Below w.heap.size w w' := by
 have hz : (chk2 xs ys != 0) = false := by rw [chk2_ok (chk_ok hb hN) (chk_ok hb' hN')]; rfl
 have hv : Pl.val xs * Pl.val ys = 0 := by rcases h0 with rfl | rfl <;> simp [Pl.val]
 rw [hv]
 clear hv
 by_cases hx : xs = []
 ·subst hx
  clear h0
  go_enter Tryz.func99,Tryz.ntmps99
  go_wp2_with fail
  refine (checkBoth_any a a' cap cap' [] ys _ (by simp) (by omega) (((hl.alloc _).alloc _).alloc _) (((hl'.alloc _).alloc _).alloc _)).mono ?_
  rintro e w1 ⟨rfl,hb1⟩
  obtain ⟨hc1,hf1⟩ := bcell hb1
  have hB := hide (gr_trans (gr_trans (gr_trans (gr_alloc _ _) (gr_alloc _ _)) (gr_alloc _ _)) hb1)
  clear hb1
  go_wp2_with fail
  go_quiet (fail)
  go_wp2
  exact bodyPost_ret (v := .tuple #[.agg #[.slice none 0 0],.int .i64 0]) (by simp [results,Tryz.results99,go_sem,hc1]) rfl ⟨Or.inl ⟨_,_,_,rfl,mine_nil _ _⟩,(below_drewN (unhide hB) nq).setCell (by simp; omega) _⟩
 ·have hy : ys = [] := h0.resolve_left hx
  subst hy
  have hxl : ((xs.length : Int) == 0) = false := by simpa using hx
  clear h0
  go_enter Tryz.func99,Tryz.ntmps99
  go_wp2_with fail
  refine (checkBoth_any a a' cap cap' xs [] _ (by omega) (by simp) (((hl.alloc _).alloc _).alloc _) (((hl'.alloc _).alloc _).alloc _)).mono ?_
  rintro e w1 ⟨rfl,hb1⟩
  obtain ⟨hc1,hf1⟩ := bcell hb1
  have hB := hide (gr_trans (gr_trans (gr_trans (gr_alloc _ _) (gr_alloc _ _)) (gr_alloc _ _)) hb1)
  clear hb1
  go_wp2_with fail
  go_quiet (fail)
  go_wp2
  exact bodyPost_ret (v := .tuple #[.agg #[.slice none 0 0],.int .i64 0]) (by simp [results,Tryz.results99,go_sem,hc1]) rfl ⟨Or.inl ⟨_,_,_,rfl,mine_nil _ _⟩,(below_drewN (unhide hB) nq).setCell (by simp; omega) _⟩
set_option maxHeartbeats 800000 in
theorem mul_some (b off b' off' cap cap' : Nat) (xs ys : List Nat) (w : World) (hp : 0 < xs.length) (hp' : 0 < ys.length) (hlt : b < w.heap.size) (hlt' : b' < w.heap.size)
  (hc : ∀ j,j < xs.length → w.cell? ⟨b,off + j,none⟩ = some (.int .u32 ((xs[j]?.getD 0 : Nat) : Int)))
  (hc' : ∀ j,j < ys.length → w.cell? ⟨b',off' + j,none⟩ = some (.int .u32 ((ys[j]?.getD 0 : Nat) : Int)))
  (hw : Pl.Wf xs) (hw' : Pl.Wf ys) (hN : Pl.Norm xs) (hN' : Pl.Norm ys) (hb : xs.length ≤ 16384) (hb' : ys.length ≤ 16384) :
  Calls Tryz.prog 99 #[.agg #[.slice (some ⟨b,off,none⟩) xs.length cap],.agg #[.slice (some ⟨b',off',none⟩) ys.length cap']] w fun e w' => Ans w' w.heap.size e (Pl.val xs * Pl.val ys) ∧ Below w.heap.size w w' := by
 have hz : (chk2 xs ys != 0) = false := by rw [chk2_ok (chk_ok hb hN) (chk_ok hb' hN')]; rfl
 have hl : Lim w (some ⟨b,off,none⟩) xs := Or.inr ⟨b,off,rfl,hc⟩
 have hl' : Lim w (some ⟨b',off',none⟩) ys := Or.inr ⟨b',off',rfl,hc'⟩
 have hxl : ((xs.length : Int) == 0) = false := by simp; intro h; simp [h] at hp
 have hyl : ((ys.length : Int) == 0) = false := by simp; intro h; simp [h] at hp'
 have HC := hide hc
 have HC' := hide hc'
 clear hc hc'
 go_enter Tryz.func99,Tryz.ntmps99
 go_wp2_with fail
 refine (checkBoth_any _ _ cap cap' xs ys _ (by omega) (by omega) (((hl.alloc _).alloc _).alloc _) (((hl'.alloc _).alloc _).alloc _)).mono ?_
 rintro e w1 ⟨rfl,hb1⟩
 obtain ⟨hc1,hf1⟩ := bcell hb1
 have hs1 : w.heap.size + 1 + 1 < w1.heap.size := by have := hb1.size; simp at this; omega
 have hB := hide (gr_trans (gr_trans (gr_trans (gr_alloc _ _) (gr_alloc _ _)) (gr_alloc _ _)) hb1)
 clear hb1
 go_wp2_with fail
 go_quiet (fail)
 by_cases hbig : xs.length + ys.length - 1 ≤ 16384
 ·go_wp2_with fail
  have hQ : w1.cell? ⟨w.heap.size + 1 + 1,0,none⟩ = some (.slice none 0 0) := by rw [hc1 _ _ (by simp)]; simp [go_sem]
  have hF : w1.frozen? ⟨w.heap.size + 1 + 1,0,none⟩ = false := by rw [hf1 _ _ (by simp)]; simp [go_sem]
  have hX : ∀ j,j < xs.length → (w1.drewN nq).cell? ⟨b,off + j,none⟩ = some (.int .u32 ((xs[j]?.getD 0 : Nat) : Int)) := fun j hj => ((unhide hB).cell (by exact hlt)).trans (unhide HC j hj)
  have hY : ∀ j,j < ys.length → (w1.drewN nq).cell? ⟨b',off' + j,none⟩ = some (.int .u32 ((ys[j]?.getD 0 : Nat) : Int)) := fun j hj => ((unhide hB).cell (by exact hlt')).trans (unhide HC' j hj)
  have hsw : w.heap.size ≤ w1.heap.size := (unhide hB).size
  refine (multiply_any b off cap b' off' cap' xs ys (w1.drewN nq) hp hb hb' hw hw' (by exact Nat.lt_of_lt_of_le hlt hsw) (by exact Nat.lt_of_lt_of_le hlt' hsw) hX hY).mono ?_
  rintro e w2 ⟨zs,rfl,hzl,wz,hzv,hrz,hb2⟩
  have HV := hide hzv
  clear hzv hX hY
  go_wp2_with fail
  refine (limited_at _ w1.heap.size _ _ zs w2 hzl hrz (Nat.le_refl _) (Nat.le_refl _) (by omega) wz).mono ?_
  rintro e w3 ⟨hans,hb3⟩
  have hB3 := gr_trans hb2 hb3
  have hq : w3.cell? ⟨w.heap.size + 1 + 1,0,none⟩ = some (.slice none 0 0) := (hB3.cell (p := ⟨w.heap.size + 1 + 1,0,none⟩) hs1).trans hQ
  have hf : w3.frozen? ⟨w.heap.size + 1 + 1,0,none⟩ = false := (hB3.frozen (p := ⟨w.heap.size + 1 + 1,0,none⟩) hs1).trans hF
  have hBB := hide (gr_trans (below_drewN (unhide hB) nq) hB3)
  rw [unhide HV] at hans
  clear hb2 hb3 hB3 hrz hzl wz hc1 hf1
  rcases hans with ⟨a3,n3,cap3,rfl,hm⟩ | ⟨rfl,hm⟩
  ·have HM := hide hm
   clear hm
   go_wp2
   exact bodyPost_ret (v := .tuple #[.agg #[.slice a3 n3 cap3],.int .i64 0]) (by simp [results,Tryz.results99,go_sem,hq]) rfl ⟨Or.inl ⟨_,_,_,rfl,((unhide HM).set hs1 _).mono hsw⟩,(unhide hBB).setCell (by simp; omega) _⟩
  ·have HM := hide hm
   clear hm
   go_wp2
   exact bodyPost_ret (v := .tuple #[.agg #[.slice none 0 0],.int .i64 4]) (by simp [results,Tryz.results99,go_sem,hq]) rfl ⟨Or.inr ⟨rfl,unhide HM⟩,(unhide hBB).setCell (by simp; omega) _⟩
 ·go_wp2
  exact bodyPost_ret (v := .tuple #[.agg #[.slice none 0 0],.int .i64 4]) (by simp [results,Tryz.results99,go_sem,hc1]) rfl ⟨Or.inr ⟨rfl,pow_le_mul hN hN' hp hp' (by omega)⟩,(below_drewN (unhide hB) nq).setCell (by simp; omega) _⟩
theorem mul_any (a a' : Option Addr) (n n' cap cap' m m' : Nat) (w : World) (h : Num w a n m) (h' : Num w a' n' m') :
  Calls Tryz.prog 99 #[.agg #[.slice a n cap],.agg #[.slice a' n' cap']] w fun e w' => Ans w' w.heap.size e (m * m') ∧ Below w.heap.size w w' := by
 obtain ⟨xs,hn,hl,hw,hN,hv,hb⟩ := h
 obtain ⟨ys,hn',hl',hw',hN',hv',hb'⟩ := h'
 subst hn hn' hv hv'
 rcases hl.parts with hx | ⟨hp,b,off,rfl,hlt,hc⟩
 ·exact mul_nil a a' cap cap' xs ys w hl hl' hN hN' hb hb' (Or.inl hx)
 ·rcases hl'.parts with hy | ⟨hp',b',off',rfl,hlt',hc'⟩
  ·exact mul_nil _ a' cap cap' xs ys w hl hl' hN hN' hb hb' (Or.inr hy)
  ·exact mul_some b off b' off' cap cap' xs ys w hp hp' hlt hlt' hc hc' hw hw' hN hN' hb hb'
end Go.Proofs.YtdfmanglfdeooaaGreatDoor
namespace Go.Proofs.YtdfmanglfdeooaaGreatDoor
open Go.RowKit
end Go.Proofs.YtdfmanglfdeooaaGreatDoor
namespace Go.Proofs.YtdfmanglfdeooaaGreatDoor
open Go.RowKit
end Go.Proofs.YtdfmanglfdeooaaGreatDoor
namespace Go.Proofs.YtdfmanglfdeooaaGreatDoor
open Go.RowKit
theorem Only.all {w w' : World} (h : ∀ B,Only B w w') {p : Addr} : w'.cell? p = w.cell? p := (h (p.block + 1)).cell (by omega)
theorem Only.drewN {B : Nat} {w w' : World} (h : Only B w w') (n : Nat) : Only B w (w'.drewN n) := ⟨h.os,h.tape,h.output,h.size,h.block⟩
end Go.Proofs.YtdfmanglfdeooaaGreatDoor
namespace Go.Proofs.YtdfmanglfdeooaaGreatDoor
open Go.RowKit
theorem gcd_next (x y : Nat) : Nat.gcd y (x % y) = Nat.gcd x y := by
 rw [Nat.gcd_comm x y,Nat.gcd_rec y x,Nat.gcd_comm]
end Go.Proofs.YtdfmanglfdeooaaGreatDoor
namespace Go.Proofs.YtdfmanglfdeooaaGreatDoor
structure Inv1 (x0 y0 A B C D x y : Int) : Prop where
 a0 : 0 ≤ A
 b0 : B ≤ 0
 c0 : C ≤ 0
 d0 : 0 ≤ D
 hx : x = A * x0 + B * y0
 hy : y = C * x0 + D * y0
 det : A * D - B * C = 1
 xb : 0 ≤ x + B
 yc : 0 ≤ y + C
theorem Inv1.start (x0 y0 : Int) (h : 0 ≤ x0) (k : 0 ≤ y0) : Inv1 x0 y0 1 0 0 1 x0 y0 := ⟨by omega,by omega,by omega,by omega,by omega,by omega,by omega,by omega,by omega⟩
theorem Inv1.step {x0 y0 A B C D x y q : Int} (h : Inv1 x0 y0 A B C D x y) (hq : 0 ≤ q) (hq2 : q * (y + D) ≤ x + B) : Inv1 y0 x0 D C (B - q * D) (A - q * C) y (x - q * y) := by
 have u : q * C ≤ 0 := Int.mul_nonpos_of_nonneg_of_nonpos hq h.c0
 have v : 0 ≤ q * D := Int.mul_nonneg hq h.d0
 refine ⟨h.d0,h.c0,?_,?_,?_,?_,?_,h.yc,?_⟩
 ·have := h.b0; omega
 ·have := h.a0; omega
 ·rw [h.hy]; omega
 ·rw [h.hx,h.hy,Int.sub_mul,Int.sub_mul,Int.mul_add,Int.mul_assoc,Int.mul_assoc]; omega
 ·have := h.det
  rw [Int.mul_sub,Int.mul_sub,Int.mul_left_comm D q C,Int.mul_left_comm C q D,Int.mul_comm D C,Int.mul_comm D A,Int.mul_comm C B]
  omega
 ·rw [Int.mul_add] at hq2
  omega
theorem true_step {A B C D x y H xl yl q : Int} (a0 : 0 ≤ A) (b0 : B ≤ 0) (c0 : C ≤ 0) (d0 : 0 ≤ D) (hq : 0 ≤ q) (hH : 0 < H) (hxl : 0 ≤ xl) (hxl2 : xl ≤ H) (hyl : 0 ≤ yl) (hyl2 : yl ≤ H)
  (h1 : x + A < (q + 1) * (y + C)) (h2 : q * (y + D) ≤ x + B) :
  0 ≤ (x * H + A * xl + B * yl) - q * (y * H + C * xl + D * yl) ∧ (x * H + A * xl + B * yl) - q * (y * H + C * xl + D * yl) < y * H + C * xl + D * yl := by
 have u0 : q * C ≤ 0 := Int.mul_nonpos_of_nonneg_of_nonpos hq c0
 have v0 : 0 ≤ q * D := Int.mul_nonneg hq d0
 have e : q * (y * H + C * xl + D * yl) = q * y * H + q * C * xl + q * D * yl := by
  rw [Int.mul_add,Int.mul_add,Int.mul_assoc,Int.mul_assoc,Int.mul_assoc]
 rw [e]
 rw [Int.add_mul,Int.mul_add,Int.one_mul] at h1
 rw [Int.mul_add] at h2
 generalize q * C = u at *
 generalize q * D = v at *
 generalize q * y = z at *
 constructor
 ·have p1 : 0 ≤ (A - u) * xl := Int.mul_nonneg (by omega) hxl
  have p2 : 0 ≤ (v - B) * (H - yl) := Int.mul_nonneg (by omega) (by omega)
  have p3 : 0 ≤ (x - z + B - v) * H := Int.mul_nonneg (by omega) (by omega)
  rw [Int.sub_mul] at p1
  rw [Int.sub_mul,Int.mul_sub,Int.mul_sub] at p2
  rw [Int.sub_mul,Int.add_mul,Int.sub_mul] at p3
  omega
 ·have p1 : 0 ≤ (A - u - C) * (H - xl) := Int.mul_nonneg (by omega) (by omega)
  have p2 : 0 ≤ (v + D - B) * yl := Int.mul_nonneg (by omega) hyl
  have p3 : 0 ≤ (z + u + y + C - x - A - 1) * H := Int.mul_nonneg (by omega) (by omega)
  rw [Int.sub_mul,Int.sub_mul,Int.mul_sub,Int.mul_sub,Int.mul_sub] at p1
  rw [Int.sub_mul,Int.add_mul] at p2
  rw [Int.sub_mul,Int.sub_mul,Int.sub_mul,Int.add_mul,Int.add_mul,Int.add_mul,Int.one_mul] at p3
  omega
theorem sq_bound {t x : Int} (h0 : 0 ≤ t) (h1 : t ≤ x) (h2 : t * x < 4611686018427387904) : t ≤ 2147483647 := by
 by_cases h : t ≤ 2147483647
 ·exact h
 ·have : 2147483648 * 2147483648 ≤ t * x := Int.mul_le_mul (by omega) (by omega) (by omega) h0
  omega
theorem Inv1.small {x0 y0 A B C D x y : Int} (h : Inv1 x0 y0 A B C D x y) (hx0 : x0 < 4611686018427387904) (hy0 : y0 < 4611686018427387904) (hc : -C ≤ x) (hd : D ≤ x) : -2147483647 ≤ C ∧ D ≤ 2147483647 := by
 have hxn : 0 ≤ x := by have := h.xb; have := h.b0; omega
 have hyn : 0 ≤ y := by have := h.yc; have := h.c0; omega
 have e1 : x0 = D * x - B * y := by
  rw [h.hx,h.hy,Int.mul_add,Int.mul_add,← Int.mul_assoc,← Int.mul_assoc,← Int.mul_assoc,← Int.mul_assoc,Int.mul_comm D A,Int.mul_comm D B]
  have : (A * D - B * C) * x0 = 1 * x0 := by rw [h.det]
  rw [Int.sub_mul] at this
  omega
 have e2 : y0 = A * y - C * x := by
  rw [h.hx,h.hy,Int.mul_add,Int.mul_add,← Int.mul_assoc,← Int.mul_assoc,← Int.mul_assoc,← Int.mul_assoc,Int.mul_comm C A,Int.mul_comm C B]
  have : (A * D - B * C) * y0 = 1 * y0 := by rw [h.det]
  rw [Int.sub_mul] at this
  omega
 have p1 : 0 ≤ (-B) * y := Int.mul_nonneg (by have := h.b0; omega) hyn
 have p2 : 0 ≤ A * y := Int.mul_nonneg h.a0 hyn
 rw [Int.neg_mul] at p1
 have q1 : D * x < 4611686018427387904 := by omega
 have q2 : (-C) * x < 4611686018427387904 := by rw [Int.neg_mul]; omega
 have r1 := sq_bound h.d0 hd q1
 have r2 := sq_bound (by have := h.c0; omega) hc q2
 omega
def Leh (x0 y0 A B C D x y : Int) : Prop := Inv1 x0 y0 A B C D x y ∨ Inv1 y0 x0 B A D C x y
theorem Leh.step {x0 y0 A B C D x y q : Int} (h : Leh x0 y0 A B C D x y) (hx0 : x0 < 4611686018427387904) (hy0 : y0 < 4611686018427387904) (hq : 0 ≤ q)
  (h1 : q * (y + C) ≤ x + A) (h2 : x + A < (q + 1) * (y + C)) (h3 : q * (y + D) ≤ x + B) (h4 : x + B < (q + 1) * (y + D)) :
  Leh x0 y0 C D (A - q * C) (B - q * D) y (x - q * y) ∧ -2147483647 ≤ A - q * C ∧ A - q * C ≤ 2147483647 ∧ -2147483647 ≤ B - q * D ∧ B - q * D ≤ 2147483647 ∧ x - q * y < y := by
 rcases h with h | h
 ·have hs := h.step hq h3
  have e2 : x + A < q * y + q * C + (y + C) := by rw [Int.add_mul,Int.mul_add,Int.one_mul] at h2; exact h2
  have hc := hs.c0
  have hd := hs.d0
  have hyc := hs.yc
  have hb := hs.b0
  have hsm := hs.small hy0 hx0 (by omega) (by omega)
  exact ⟨Or.inr hs,by omega,by omega,by omega,by omega,by omega⟩
 ·have hs := h.step hq h1
  have e2 : x + B < q * y + q * D + (y + D) := by rw [Int.add_mul,Int.mul_add,Int.one_mul] at h4; exact h4
  have hc := hs.c0
  have hd := hs.d0
  have hyc := hs.yc
  have hb := hs.b0
  have hsm := hs.small hx0 hy0 (by omega) (by omega)
  exact ⟨Or.inl hs,by omega,by omega,by omega,by omega,by omega⟩
theorem Leh.true {x0 y0 A B C D x y q H xl yl : Int} (h : Leh x0 y0 A B C D x y) (hq : 0 ≤ q) (hH : 0 < H) (hxl : 0 ≤ xl) (hxl2 : xl ≤ H) (hyl : 0 ≤ yl) (hyl2 : yl ≤ H)
  (h1 : q * (y + C) ≤ x + A) (h2 : x + A < (q + 1) * (y + C)) (h3 : q * (y + D) ≤ x + B) (h4 : x + B < (q + 1) * (y + D)) :
  0 ≤ (A * (x0 * H + xl) + B * (y0 * H + yl)) - q * (C * (x0 * H + xl) + D * (y0 * H + yl)) ∧
   (A * (x0 * H + xl) + B * (y0 * H + yl)) - q * (C * (x0 * H + xl) + D * (y0 * H + yl)) < C * (x0 * H + xl) + D * (y0 * H + yl) := by
 have ex : A * (x0 * H + xl) + B * (y0 * H + yl) = (A * x0 + B * y0) * H + A * xl + B * yl := by
  rw [Int.mul_add,Int.mul_add,Int.add_mul,Int.mul_assoc,Int.mul_assoc]; omega
 have ey : C * (x0 * H + xl) + D * (y0 * H + yl) = (C * x0 + D * y0) * H + C * xl + D * yl := by
  rw [Int.mul_add,Int.mul_add,Int.add_mul,Int.mul_assoc,Int.mul_assoc]; omega
 rw [ex,ey]
 rcases h with h | h
 ·rw [← h.hx,← h.hy]
  exact true_step h.a0 h.b0 h.c0 h.d0 hq hH hxl hxl2 hyl hyl2 h2 h3
 ·have e1 : A * x0 + B * y0 = x := by rw [h.hx]; omega
  have e2 : C * x0 + D * y0 = y := by rw [h.hy]; omega
  rw [e1,e2]
  have := true_step h.a0 h.b0 h.c0 h.d0 hq hH hyl hyl2 hxl hxl2 h4 h1
  rw [show x * H + A * xl + B * yl = x * H + B * yl + A * xl by omega,show y * H + C * xl + D * yl = y * H + D * yl + C * xl by omega]
  exact this
def Tru (Xt Yt : Nat) (A B C D : Int) : Prop := ∃ X Y : Nat,(X : Int) = A * Xt + B * Yt ∧ (Y : Int) = C * Xt + D * Yt ∧ Nat.gcd X Y = Nat.gcd Xt Yt ∧ ((A = 1 ∧ B = 0 ∧ C = 0 ∧ D = 1) ∨ (Y < X ∧ X ≤ Yt))
theorem Tru.start (Xt Yt : Nat) : Tru Xt Yt 1 0 0 1 := ⟨Xt,Yt,by omega,by omega,rfl,Or.inl ⟨rfl,rfl,rfl,rfl⟩⟩
theorem Tru.step {Xt Yt : Nat} {A B C D q : Int} (h : Tru Xt Yt A B C D) (hq : 0 ≤ q) (h1 : 0 ≤ (A * Xt + B * Yt) - q * (C * Xt + D * Yt)) (h2 : (A * Xt + B * Yt) - q * (C * Xt + D * Yt) < C * Xt + D * Yt) : Tru Xt Yt C D (A - q * C) (B - q * D) := by
 obtain ⟨X,Y,hX,hY,hg,hc⟩ := h
 rw [← hX,← hY] at h1 h2
 obtain ⟨n,rfl⟩ := Int.eq_ofNat_of_zero_le hq
 have e : (X : Int) - (n : Int) * (Y : Int) = ((X - n * Y : Nat) : Int) := by
  have : n * Y ≤ X := by
   have : ((n * Y : Nat) : Int) ≤ (X : Int) := by rw [Int.natCast_mul]; omega
   omega
  rw [Int.natCast_sub this,Int.natCast_mul]
 rw [e] at h1 h2
 have hle : n * Y ≤ X := by
  have : ((n * Y : Nat) : Int) ≤ (X : Int) := by rw [Int.natCast_mul]; omega
  omega
 have hlt : X - n * Y < Y := by omega
 have hmod : X % Y = X - n * Y := by
  have : X = n * Y + (X - n * Y) := by omega
  rw [this,Nat.mul_comm n Y,Nat.mul_add_mod,Nat.mod_eq_of_lt (by rw [Nat.mul_comm Y n]; omega)]
  rw [Nat.mul_comm Y n]
  omega
 refine ⟨Y,X - n * Y,hY,?_,?_,Or.inr ⟨hlt,?_⟩⟩
 ·rw [← e,hX,hY,Int.sub_mul,Int.sub_mul,Int.mul_add,Int.mul_assoc,Int.mul_assoc]; omega
 ·rw [← hmod,gcd_next,hg]
 ·rcases hc with ⟨_,_,hC,hD⟩ | ⟨h3,h4⟩
  ·rw [hC,hD] at hY; omega
  ·omega
end Go.Proofs.YtdfmanglfdeooaaGreatDoor
namespace Go.Proofs.YtdfmanglfdeooaaGreatDoor
open Go.RowKit
end Go.Proofs.YtdfmanglfdeooaaGreatDoor
namespace Go.Proofs.YtdfmanglfdeooaaGreatDoor
open Go.RowKit
end Go.Proofs.YtdfmanglfdeooaaGreatDoor
namespace Go.Proofs.YtdfmanglfdeooaaGreatDoor
open Go.RowKit
end Go.Proofs.YtdfmanglfdeooaaGreatDoor
namespace Go.Proofs.YtdfmanglfdeooaaGreatDoor
end Go.Proofs.YtdfmanglfdeooaaGreatDoor
namespace Go.Proofs.YtdfmanglfdeooaaGreatDoor
open Go.RowKit
theorem Box.but {w w' : World} {p C : Nat} {v : Value} (h : Box w p v) (k : Only C w w') (hne : p ≠ C) : Box w' p v := by
 unfold Box; rw [k.block p hne]; exact h
end Go.Proofs.YtdfmanglfdeooaaGreatDoor
namespace Go.Proofs.YtdfmanglfdeooaaGreatDoor
open Go.RowKit
end Go.Proofs.YtdfmanglfdeooaaGreatDoor
