/- Of what NearRowRow stands on: ExLimit ExAddO ExSum NrSum NrRun NrSpoil NrMid NrUlp NrHas NrWor. -/
import Derived.Test.YtkebhccbhoamjaaGreatDoorPba
import Derived.Test.YtkebhccbhoamjaaGreatDoorPbb
import Derived.Test.YtkebhccbhoamjaaGreatDoorPaw
import Derived.Test.YtkebhccbhoamjaaGreatDoorPaf
import Derived.Test.YtkebhccbhoamjaaGreatDoorPam
import Derived.Test.YtkebhccbhoamjaaGreatDoorPaj
namespace Go.Proofs.YtkebhccbhoamjaaGreatDoor
open Go.RowKit
set_option maxHeartbeats 4000000
set_option maxRecDepth 20000
theorem dmul_over (a a' : Option Addr) (n n' cap cap' m m' : Nat) (w : World) (h : Num w a n m) (h' : Num w a' n' m') (ho : Over (m * m')) :
  Calls Tryz.prog 186 #[.agg #[.slice a n cap],.agg #[.slice a' n' cap']] w fun e w' => e = .returned (.tuple #[.agg #[.slice none 0 0],.int .i64 4]) ∧ Below w.heap.size w w' := by
 refine (mul_any a a' n n' cap cap' m m' w h h').mono ?_
 rintro e w' ⟨⟨_,_,_,_,h1⟩ | h1,hb⟩
 ·exact absurd h1.num.lt (Nat.not_lt.2 ho.le)
 ·exact ⟨h1.1,hb⟩
theorem Mul_over (s : Bool) (a : Option Addr) (n cap m : Nat) (x : Int) (s' : Bool) (a' : Option Addr) (n' cap' m' : Nat) (x' : Int) (w : World) (h : Dy w s a n m x) (h' : Dy w s' a' n' m' x') (hn : 0 < n) (hn' : 0 < n') (hx : -1073741824 ≤ x + x' ∧ x + x' ≤ 1073741824) (ho : Over (m * m')) :
  Calls Tryz.prog 122 #[.agg #[.bool s,.slice a n cap,.int .i64 x],.agg #[.bool s',.slice a' n' cap',.int .i64 x']] w fun e w' => e = .returned (.tuple #[.agg #[.bool false,.slice none 0 0,.int .i64 0],.int .i64 4]) ∧ Below w.heap.size w w' := by
 have H := hide h
 have H' := hide h'
 have HO := hide ho
 have hxr := h.range
 have hxr' := h'.range
 clear h h' ho
 go_enter Tryz.func122,Tryz.ntmps122
 go_wp2_with fail
 refine (checkBoth_dy s a n cap m x s' a' n' cap' m' x' _ ((unhide H).kept (gr_trans (gr_trans (gr_alloc _ _) (gr_alloc _ _)) (gr_alloc _ _))) ((unhide H').kept (gr_trans (gr_trans (gr_alloc _ _) (gr_alloc _ _)) (gr_alloc _ _)))).mono ?_
 rintro e w1 ⟨rfl,hb1⟩
 have hS := (Fs.three w _ _ _ _ _ _).kept hb1
 obtain ⟨⟨ya,yb,yc,-⟩,⟨yd,ye,yf,-⟩,⟨yg,yh,yi,-⟩,-⟩ := hS.cells
 go_wp2_with fail
 refine (isNought_no a n cap hn _).mono ?_
 rintro e w2 ⟨rfl,hb2⟩
 replace hS := hS.kept hb2
 clear ya yb yc yd ye yf yg yh yi
 obtain ⟨⟨yj,yk,yl,-⟩,⟨ym,yn,yo,-⟩,⟨yp,yq,yr,-⟩,-⟩ := hS.cells
 go_wp2_with fail
 refine (isNought_no a' n' cap' hn' _).mono ?_
 rintro e w3 ⟨rfl,hb3⟩
 replace hS := hS.kept hb3
 clear yj yk yl ym yn yo yp yq yr
 obtain ⟨⟨ys,yt,yu,-⟩,⟨yv,yw,yx,-⟩,⟨yy,yz,y0,-⟩,-⟩ := hS.cells
 go_wp2_with fail
 refine (beyond_no _ hx _).mono ?_
 rintro e w4 ⟨rfl,hb4⟩
 replace hS := hS.kept hb4
 clear ys yt yu yv yw yx yy yz y0
 obtain ⟨⟨y1,y2,y3,-⟩,⟨y4,y5,y6,-⟩,⟨y7,y8,y9,-⟩,-⟩ := hS.cells
 go_wp2_with fail
 refine (dmul_over a a' n n' cap cap' m m' _ ((unhide H).kept hS.fr).num ((unhide H').kept hS.fr).num (unhide HO)).mono ?_
 rintro e w5 ⟨rfl,hb5⟩
 replace hS := hS.kept hb5
 clear y1 y2 y3 y4 y5 y6 y7 y8 y9
 obtain ⟨⟨yba,ybb,ybc,-⟩,⟨ybd,ybe,ybf,-⟩,⟨ybg,ybh,ybi,-⟩,-⟩ := hS.cells
 have hltw5_0 : w.heap.size < w5.heap.size := hS.lt 0 rfl
 have hltw5_1 : w.heap.size + 1 < w5.heap.size := hS.lt 1 rfl
 have hltw5_2 : w.heap.size + 2 < w5.heap.size := hS.lt 2 rfl
 have Q_ := hS.frozen (b := w.heap.size + 2) (cs := #[.bool false,.slice none 0 0,.int .i64 0]) (t := 33) (by simp)
 have fz0 := Q_ 0
 have fz1 := Q_ 1
 have fz2 := Q_ 2
 clear Q_
 go_wp2
 have hB := fun u0 u1 u2 => ((hS.fr.setCell (p := ⟨w.heap.size + 2,0,none⟩) (by simp <;> omega) u0).setCell (p := ⟨w.heap.size + 2,1,none⟩) (by simp <;> omega) u1).setCell (p := ⟨w.heap.size + 2,2,none⟩) (by simp <;> omega) u2
 exact bodyPost_ret (v := .tuple #[.agg #[.bool false,.slice none 0 0,.int .i64 0],.int .i64 4]) (by simp [results,Tryz.results122,go_sem,ybg,ybh,ybi,hltw5_2]) rfl ⟨rfl,(hB _ _ _).alloc (hB _ _ _).size _⟩
def OkD (s : Bool) (m : Nat) (x : Int) : Prop := (m = 0 ∧ s = false ∧ x = 0) ∨ (m % 2 = 1 ∧ -1073741824 ≤ x ∧ x ≤ 1073741824)
def Sums (s : Bool) (m : Nat) (x : Int) (s' : Bool) (m' : Nat) (x' : Int) (er : Int) (r : Bool) (v : Nat) (y : Int) : Prop :=
 ∀ (W : World) (A : Option Addr) (N C : Nat) (A' : Option Addr) (N' C' : Nat),Num W A N m → Num W A' N' m' → Tb W →
  Calls Tryz.prog 123 #[.agg #[.bool s,.slice A N C,.int .i64 x],.agg #[.bool s',.slice A' N' C',.int .i64 x']] W fun e w' => (∃ A N C,e = .returned (.tuple #[.agg #[.bool r,.slice A N C,.int .i64 y],.int .i64 er]) ∧ Num w' A N v) ∧ Below W.heap.size W w'
theorem num_none (w : World) : Num w none 0 0 := ⟨[],rfl,Or.inl rfl,Pl.wf_nil,Pl.norm_nil,rfl,by omega⟩
theorem Sums.many {s : Bool} {m : Nat} {x : Int} {s' : Bool} {m' : Nat} {x' : Int} (h : ∀ (W : World) (A : Option Addr) (N C : Nat) (A' : Option Addr) (N' C' : Nat),Num W A N m → Num W A' N' m' → Tb W →
  Calls Tryz.prog 123 #[.agg #[.bool s,.slice A N C,.int .i64 x],.agg #[.bool s',.slice A' N' C',.int .i64 x']] W fun e w' => e = .returned (.tuple #[.agg #[.bool false,.slice none 0 0,.int .i64 0],.int .i64 4]) ∧ Below W.heap.size W w') : Sums s m x s' m' x' 4 false 0 0 := fun W A N C A' N' C' g g' hT => by
 refine (h W A N C A' N' C' g g' hT).mono ?_
 rintro e w' ⟨rfl,hb⟩
 exact ⟨⟨none,0,0,rfl,num_none _⟩,hb⟩
theorem Sums.of {s : Bool} {m : Nat} {x : Int} {s' : Bool} {m' : Nat} {x' t : Int} {i j v : Nat} {r : Bool} (hm : m % 2 = 1 ∧ -1073741824 ≤ x ∧ x ≤ 1073741824) (hm' : m' % 2 = 1 ∧ -1073741824 ≤ x' ∧ x' ≤ 1073741824) (ht : min x x' = t) (hi : x - t = (i : Int)) (hj : x' - t = (j : Int)) (hno : ¬ Over (m * 2 ^ i)) (hno' : ¬ Over (m' * 2 ^ j))
  (hS : ∀ (W : World) (A : Option Addr) (N C : Nat) (A' : Option Addr) (N' C' : Nat),Num W A N (m * 2 ^ i) → Num W A' N' (m' * 2 ^ j) → Calls Tryz.prog 189 #[.bool s,.agg #[.slice A N C],.bool s',.agg #[.slice A' N' C']] W fun e w' => (∃ A N C,e = .returned (.tuple #[.bool r,.agg #[.slice A N C],.int .i64 0]) ∧ Mine w' W.heap.size A N C v) ∧ Below W.heap.size W w') (hv : v < 4294967296 ^ Pl.top) :
  (v = 0 ∧ Sums s m x s' m' x' 0 false 0 0) ∨ ∃ z,0 < v ∧ Tz v z ∧ z < 524288 ∧ ((-1073741824 ≤ t + z ∧ t + z ≤ 1073741824 ∧ Sums s m x s' m' x' 0 r (v / 2 ^ z) (t + (z : Int))) ∨ ((1073741824 < t + z ∨ t + z < -1073741824) ∧ Sums s m x s' m' x' 4 false 0 0)) := by
 have hp : ∀ {W : World} {A : Option Addr} {N : Nat},Num W A N m → 0 < N := fun g => by have := g.zero; omega
 have hp' : ∀ {W : World} {A : Option Addr} {N : Nat},Num W A N m' → 0 < N := fun g => by have := g.zero; omega
 rcases Nat.eq_zero_or_pos v with h0 | h0
 ·subst h0
  refine Or.inl ⟨rfl,fun W A N C A' N' C' g g' _ => ?_⟩
  refine (Add_zero s A N C m x s' A' N' C' m' x' t i j r W ⟨g,Or.inr hm⟩ ⟨g',Or.inr hm'⟩ (hp g) (hp' g') ht hi hj (by omega) (by omega) hno hno' (hide hS)).mono ?_
  rintro e w' ⟨rfl,hb⟩
  exact ⟨⟨none,0,0,rfl,num_none _⟩,hb⟩
 ·have h2 : 4294967296 ^ Pl.top = 2 ^ (32 * Pl.top) := by rw [Nat.pow_mul]
  rw [h2] at hv
  obtain ⟨z,hz,hz2⟩ := tz_ex h0 hv
  have hz3 : z < 524288 := by have := Pl.top_eq; omega
  refine Or.inr ⟨z,h0,hz,hz3,?_⟩
  by_cases hx : -1073741824 ≤ t + z ∧ t + z ≤ 1073741824
  ·refine Or.inl ⟨hx.1,hx.2,fun W A N C A' N' C' g g' hT => ?_⟩
   refine (Add_num s A N C m x s' A' N' C' m' x' t i j v z r W ⟨g,Or.inr hm⟩ ⟨g',Or.inr hm'⟩ (hp g) (hp' g') hT ht hi hj (by omega) (by omega) hno hno' h0 hz hz3 hx (hide hS)).mono ?_
   rintro e w' ⟨⟨A,N,C,rfl,h1⟩,hb⟩
   exact ⟨⟨A,N,C,rfl,h1.num⟩,hb⟩
  ·refine Or.inr ⟨by omega,Sums.many fun W A N C A' N' C' g g' hT => ?_⟩
   by_cases hx1 : 1073741824 < t + z
   ·exact Add_above s A N C m x s' A' N' C' m' x' t i j v z r W ⟨g,Or.inr hm⟩ ⟨g',Or.inr hm'⟩ (hp g) (hp' g') ht hi hj (by omega) (by omega) hno hno' hT h0 hz hz3 hx1 (hide hS)
   ·exact Add_below s A N C m x s' A' N' C' m' x' t i j v z r W ⟨g,Or.inr hm⟩ ⟨g',Or.inr hm'⟩ (hp g) (hp' g') ht hi hj (by omega) (by omega) hno hno' hT h0 hz hz3 (by omega) (hide hS)
theorem sv_zero (s : Bool) : sv s 0 = 0 := by unfold sv; cases s <;> rfl
theorem mine_none (w : World) (base : Nat) : Mine w base none 0 0 0 := ⟨[],rfl,Or.inl ⟨rfl,rfl⟩,Pl.wf_nil,Pl.norm_nil,rfl,by omega⟩
def SumsM (s : Bool) (m : Nat) (x : Int) (s' : Bool) (m' : Nat) (x' : Int) (er : Int) (r : Bool) (v : Nat) (y : Int) : Prop :=
 ∀ (W : World) (A : Option Addr) (N C : Nat) (A' : Option Addr) (N' C' : Nat),Num W A N m → Num W A' N' m' → Tb W →
  Calls Tryz.prog 123 #[.agg #[.bool s,.slice A N C,.int .i64 x],.agg #[.bool s',.slice A' N' C',.int .i64 x']] W fun e w' => (∃ A N C,e = .returned (.tuple #[.agg #[.bool r,.slice A N C,.int .i64 y],.int .i64 er]) ∧ Mine w' W.heap.size A N C v) ∧ Below W.heap.size W w'
theorem SumsM.many {s : Bool} {m : Nat} {x : Int} {s' : Bool} {m' : Nat} {x' : Int} (h : ∀ (W : World) (A : Option Addr) (N C : Nat) (A' : Option Addr) (N' C' : Nat),Num W A N m → Num W A' N' m' → Tb W →
  Calls Tryz.prog 123 #[.agg #[.bool s,.slice A N C,.int .i64 x],.agg #[.bool s',.slice A' N' C',.int .i64 x']] W fun e w' => e = .returned (.tuple #[.agg #[.bool false,.slice none 0 0,.int .i64 0],.int .i64 4]) ∧ Below W.heap.size W w') : SumsM s m x s' m' x' 4 false 0 0 := fun W A N C A' N' C' g g' hT => by
 refine (h W A N C A' N' C' g g' hT).mono ?_
 rintro e w' ⟨rfl,hb⟩
 exact ⟨⟨none,0,0,rfl,mine_none _ _⟩,hb⟩
theorem SumsM.of {s : Bool} {m : Nat} {x : Int} {s' : Bool} {m' : Nat} {x' t : Int} {i j v : Nat} {r : Bool} (hm : m % 2 = 1 ∧ -1073741824 ≤ x ∧ x ≤ 1073741824) (hm' : m' % 2 = 1 ∧ -1073741824 ≤ x' ∧ x' ≤ 1073741824) (ht : min x x' = t) (hi : x - t = (i : Int)) (hj : x' - t = (j : Int)) (hno : ¬ Over (m * 2 ^ i)) (hno' : ¬ Over (m' * 2 ^ j))
  (hS : ∀ (W : World) (A : Option Addr) (N C : Nat) (A' : Option Addr) (N' C' : Nat),Num W A N (m * 2 ^ i) → Num W A' N' (m' * 2 ^ j) → Calls Tryz.prog 189 #[.bool s,.agg #[.slice A N C],.bool s',.agg #[.slice A' N' C']] W fun e w' => (∃ A N C,e = .returned (.tuple #[.bool r,.agg #[.slice A N C],.int .i64 0]) ∧ Mine w' W.heap.size A N C v) ∧ Below W.heap.size W w') (hv : v < 4294967296 ^ Pl.top) :
  (v = 0 ∧ SumsM s m x s' m' x' 0 false 0 0) ∨ ∃ z,0 < v ∧ Tz v z ∧ z < 524288 ∧ ((-1073741824 ≤ t + z ∧ t + z ≤ 1073741824 ∧ SumsM s m x s' m' x' 0 r (v / 2 ^ z) (t + (z : Int))) ∨ ((1073741824 < t + z ∨ t + z < -1073741824) ∧ SumsM s m x s' m' x' 4 false 0 0)) := by
 have hp : ∀ {W : World} {A : Option Addr} {N : Nat},Num W A N m → 0 < N := fun g => by have := g.zero; omega
 have hp' : ∀ {W : World} {A : Option Addr} {N : Nat},Num W A N m' → 0 < N := fun g => by have := g.zero; omega
 rcases Nat.eq_zero_or_pos v with h0 | h0
 ·subst h0
  refine Or.inl ⟨rfl,fun W A N C A' N' C' g g' _ => ?_⟩
  refine (Add_zero s A N C m x s' A' N' C' m' x' t i j r W ⟨g,Or.inr hm⟩ ⟨g',Or.inr hm'⟩ (hp g) (hp' g') ht hi hj (by omega) (by omega) hno hno' (hide hS)).mono ?_
  rintro e w' ⟨rfl,hb⟩
  exact ⟨⟨none,0,0,rfl,mine_none _ _⟩,hb⟩
 ·have h2 : 4294967296 ^ Pl.top = 2 ^ (32 * Pl.top) := by rw [Nat.pow_mul]
  rw [h2] at hv
  obtain ⟨z,hz,hz2⟩ := tz_ex h0 hv
  have hz3 : z < 524288 := by have := Pl.top_eq; omega
  refine Or.inr ⟨z,h0,hz,hz3,?_⟩
  by_cases hx : -1073741824 ≤ t + z ∧ t + z ≤ 1073741824
  ·refine Or.inl ⟨hx.1,hx.2,fun W A N C A' N' C' g g' hT => ?_⟩
   refine (Add_num s A N C m x s' A' N' C' m' x' t i j v z r W ⟨g,Or.inr hm⟩ ⟨g',Or.inr hm'⟩ (hp g) (hp' g') hT ht hi hj (by omega) (by omega) hno hno' h0 hz hz3 hx (hide hS)).mono ?_
   rintro e w' ⟨⟨A,N,C,rfl,h1⟩,hb⟩
   exact ⟨⟨A,N,C,rfl,h1⟩,hb⟩
  ·refine Or.inr ⟨by omega,SumsM.many fun W A N C A' N' C' g g' hT => ?_⟩
   by_cases hx1 : 1073741824 < t + z
   ·exact Add_above s A N C m x s' A' N' C' m' x' t i j v z r W ⟨g,Or.inr hm⟩ ⟨g',Or.inr hm'⟩ (hp g) (hp' g') ht hi hj (by omega) (by omega) hno hno' hT h0 hz hz3 hx1 (hide hS)
   ·exact Add_below s A N C m x s' A' N' C' m' x' t i j v z r W ⟨g,Or.inr hm⟩ ⟨g',Or.inr hm'⟩ (hp g) (hp' g') ht hi hj (by omega) (by omega) hno hno' hT h0 hz hz3 (by omega) (hide hS)
def ProdsM (s : Bool) (m : Nat) (x : Int) (s' : Bool) (m' : Nat) (x' : Int) (er : Int) (r : Bool) (v : Nat) (y : Int) : Prop :=
 ∀ (W : World) (A : Option Addr) (N C : Nat) (A' : Option Addr) (N' C' : Nat),Num W A N m → Num W A' N' m' →
  Calls Tryz.prog 122 #[.agg #[.bool s,.slice A N C,.int .i64 x],.agg #[.bool s',.slice A' N' C',.int .i64 x']] W fun e w' => (∃ A N C,e = .returned (.tuple #[.agg #[.bool r,.slice A N C,.int .i64 y],.int .i64 er]) ∧ Mine w' W.heap.size A N C v) ∧ Below W.heap.size W w'
theorem ProdsM.plain {s : Bool} {m : Nat} {x : Int} {s' : Bool} {m' : Nat} {x' er : Int} (h : ∀ (W : World) (A : Option Addr) (N C : Nat) (A' : Option Addr) (N' C' : Nat),Num W A N m → Num W A' N' m' →
  Calls Tryz.prog 122 #[.agg #[.bool s,.slice A N C,.int .i64 x],.agg #[.bool s',.slice A' N' C',.int .i64 x']] W fun e w' => e = .returned (.tuple #[.agg #[.bool false,.slice none 0 0,.int .i64 0],.int .i64 er]) ∧ Below W.heap.size W w') : ProdsM s m x s' m' x' er false 0 0 := fun W A N C A' N' C' g g' => by
 refine (h W A N C A' N' C' g g').mono ?_
 rintro e w' ⟨rfl,hb⟩
 exact ⟨⟨none,0,0,rfl,mine_none _ _⟩,hb⟩
theorem mul_oneM {s : Bool} {m : Nat} {x : Int} {s' : Bool} {m' : Nat} {x' : Int} (hA : OkD s m x) (hB : OkD s' m' x') :
  ((m = 0 ∨ m' = 0) ∧ ProdsM s m x s' m' x' 0 false 0 0) ∨ ((0 < m ∧ 0 < m') ∧ (((x + x' < -1073741824 ∨ 1073741824 < x + x' ∨ Over (m * m')) ∧ ProdsM s m x s' m' x' 4 false 0 0) ∨ (¬ (x + x' < -1073741824 ∨ 1073741824 < x + x' ∨ Over (m * m')) ∧ ProdsM s m x s' m' x' 0 (s != s') (m * m') (x + x')))) := by
 have hp : ∀ {W : World} {A : Option Addr} {N m : Nat},Num W A N m → 0 < m → 0 < N := fun g h => by have := g.zero; omega
 rcases Nat.eq_zero_or_pos m with h0 | h0
 ·refine Or.inl ⟨Or.inl h0,ProdsM.plain fun W A N C A' N' C' g g' => ?_⟩
  obtain rfl := g.zero.2 h0
  exact Mul_left s A C m x s' A' N' C' m' x' W ⟨g,hA⟩ ⟨g',hB⟩
 rcases Nat.eq_zero_or_pos m' with h1 | h1
 ·refine Or.inl ⟨Or.inr h1,ProdsM.plain fun W A N C A' N' C' g g' => ?_⟩
  obtain rfl := g'.zero.2 h1
  exact Mul_right s A N C m x s' A' C' m' x' W ⟨g,hA⟩ ⟨g',hB⟩ (hp g h0)
 refine Or.inr ⟨⟨h0,h1⟩,?_⟩
 by_cases hc : x + x' < -1073741824 ∨ 1073741824 < x + x' ∨ Over (m * m')
 ·refine Or.inl ⟨hc,ProdsM.plain fun W A N C A' N' C' g g' => ?_⟩
  by_cases c1 : x + x' < -1073741824
  ·exact Mul_below s A N C m x s' A' N' C' m' x' W ⟨g,hA⟩ ⟨g',hB⟩ (hp g h0) (hp g' h1) c1
  by_cases c2 : 1073741824 < x + x'
  ·exact Mul_above s A N C m x s' A' N' C' m' x' W ⟨g,hA⟩ ⟨g',hB⟩ (hp g h0) (hp g' h1) c2
  ·exact Mul_over s A N C m x s' A' N' C' m' x' W ⟨g,hA⟩ ⟨g',hB⟩ (hp g h0) (hp g' h1) (by omega) (by
    rcases hc with h | h | h
    ·exact absurd h c1
    ·exact absurd h c2
    ·exact h)
 ·refine Or.inr ⟨hc,fun W A N C A' N' C' g g' => ?_⟩
  refine (Mul_ok s A N C m x s' A' N' C' m' x' W ⟨g,hA⟩ ⟨g',hB⟩ (hp g h0) (hp g' h1) (by omega) (fun h => hc (Or.inr (Or.inr h)))).mono ?_
  rintro e w' ⟨⟨A,N,C,rfl,h2⟩,hb⟩
  exact ⟨⟨A,N,C,rfl,h2⟩,hb⟩
theorem lt_of_pow2M {v d K z : Nat} (h : 2 ^ z ≤ v) (hv : v * 2 ^ d < 2 ^ K) : z + d < K := by
 have h1 : 2 ^ (z + d) < 2 ^ K := by
  rw [Nat.pow_add]
  exact Nat.lt_of_le_of_lt (Nat.mul_le_mul_right _ h) hv
 exact (Nat.pow_lt_pow_iff_right (by decide)).1 h1
theorem Tz.leM {v z : Nat} (h : Tz v z) : 2 ^ z ≤ v := by
 obtain ⟨q,rfl⟩ := h
 exact Nat.le_mul_of_pos_right _ (by omega)
theorem sv_leM {s s' r : Bool} {a b v : Nat} (h : sv r v = sv s a + sv s' b) : v ≤ a + b := by
 unfold sv at h
 cases s <;> cases s' <;> cases r <;> simp at h <;> omega
theorem add_in0M {s : Bool} {m : Nat} {x : Int} {s' : Bool} {m' : Nat} {x' t L : Int} {i j d v K : Nat} {r : Bool} (hm : m % 2 = 1 ∧ -1073741824 ≤ x ∧ x ≤ 1073741824) (hm' : m' % 2 = 1 ∧ -1073741824 ≤ x' ∧ x' ≤ 1073741824) (ht : min x x' = t) (hi : x - t = (i : Int)) (hj : x' - t = (j : Int)) (hd : t - L = (d : Int)) (hL : -1073741824 ≤ L) (hL0 : L ≤ 0) (hK : K ≤ 500000) (hk : m * 2 ^ (x - L).toNat < 2 ^ K) (hk' : m' * 2 ^ (x' - L).toNat < 2 ^ K)
  (hS : ∀ (W : World) (A : Option Addr) (N C : Nat) (A' : Option Addr) (N' C' : Nat),Num W A N (m * 2 ^ i) → Num W A' N' (m' * 2 ^ j) → Calls Tryz.prog 189 #[.bool s,.agg #[.slice A N C],.bool s',.agg #[.slice A' N' C']] W fun e w' => (∃ A N C,e = .returned (.tuple #[.bool r,.agg #[.slice A N C],.int .i64 0]) ∧ Mine w' W.heap.size A N C v) ∧ Below W.heap.size W w') (hw : sv r v = sv s (m * 2 ^ i) + sv s' (m' * 2 ^ j)) :
  ∃ q v y,SumsM s m x s' m' x' 0 q v y ∧ OkD q v y ∧ L ≤ y ∧ v * 2 ^ (y - L).toNat < 2 ^ (K + 1) ∧ sv q (v * 2 ^ (y - L).toNat) = sv s (m * 2 ^ (x - L).toNat) + sv s' (m' * 2 ^ (x' - L).toNat) := by
 have e1 : (x - L).toNat = i + d := by omega
 have e2 : (x' - L).toNat = j + d := by omega
 rw [e1,Nat.pow_add,← Nat.mul_assoc] at hk
 rw [e2,Nat.pow_add,← Nat.mul_assoc] at hk'
 have hd1 : 1 ≤ 2 ^ d := pow_pos2 d
 have ha : m * 2 ^ i < 2 ^ K := Nat.lt_of_le_of_lt (Nat.le_mul_of_pos_right _ hd1) hk
 have hb : m' * 2 ^ j < 2 ^ K := Nat.lt_of_le_of_lt (Nat.le_mul_of_pos_right _ hd1) hk'
 have hle := sv_leM hw
 have hvd : v * 2 ^ d < 2 ^ (K + 1) := by
  have h1 : v * 2 ^ d ≤ (m * 2 ^ i + m' * 2 ^ j) * 2 ^ d := Nat.mul_le_mul_right _ hle
  rw [Nat.add_mul] at h1
  rw [Nat.pow_succ]
  omega
 have hv : v < 2 ^ (K + 1) := Nat.lt_of_le_of_lt (Nat.le_mul_of_pos_right _ hd1) hvd
 have hvt : v < 4294967296 ^ Pl.top := Nat.lt_of_not_le fun hle => not_over hv (by omega) ⟨hle⟩
 have hsum : sv s (m * 2 ^ (x - L).toNat) + sv s' (m' * 2 ^ (x' - L).toNat) = sv r (v * 2 ^ d) := by
  rw [e1,e2,Nat.pow_add,Nat.pow_add,← Nat.mul_assoc,← Nat.mul_assoc,← sv_mul s (m * 2 ^ i),← sv_mul s' (m' * 2 ^ j),← sv_mul r v,← Int.add_mul,← hw]
 rcases SumsM.of hm hm' ht hi hj (not_over ha (by omega)) (not_over hb (by omega)) hS hvt with ⟨h0,P⟩ | ⟨z,h0,hz,hz2,⟨p1,p2,P⟩ | ⟨p1,P⟩⟩
 ·refine ⟨false,0,0,P,Or.inl ⟨rfl,rfl,rfl⟩,hL0,by rw [Nat.zero_mul]; exact pow_pos2 _,?_⟩
  rw [hsum,h0,Nat.zero_mul,Nat.zero_mul,sv_zero,sv_zero]
 ·have e3 : (t + (z : Int) - L).toNat = z + d := by omega
  have e4 : v / 2 ^ z * 2 ^ (z + d) = v * 2 ^ d := by rw [Nat.pow_add,← Nat.mul_assoc,hz.down.2]
  refine ⟨r,v / 2 ^ z,t + (z : Int),P,Or.inr ⟨hz.down.1,p1,p2⟩,by omega,?_,?_⟩
  ·rw [e3,e4]; exact hvd
  ·rw [e3,e4,hsum]
 ·have := lt_of_pow2M hz.leM hvd
  omega
theorem OkD.oddM {s : Bool} {m : Nat} {x : Int} (h : OkD s m x) (h0 : 0 < m) : m % 2 = 1 ∧ -1073741824 ≤ x ∧ x ≤ 1073741824 := by
 rcases h with ⟨h,_⟩ | h
 ·omega
 ·exact h
theorem add_inM {s : Bool} {m : Nat} {x : Int} {s' : Bool} {m' : Nat} {x' : Int} (L : Int) (K : Nat) (hA : OkD s m x) (hB : OkD s' m' x') (hL : -1073741824 ≤ L) (hL0 : L ≤ 0) (hK : K ≤ 500000) (hx : L ≤ x) (hx' : L ≤ x') (hk : m * 2 ^ (x - L).toNat < 2 ^ K) (hk' : m' * 2 ^ (x' - L).toNat < 2 ^ K) :
  ∃ q v y,SumsM s m x s' m' x' 0 q v y ∧ OkD q v y ∧ L ≤ y ∧ v * 2 ^ (y - L).toNat < 2 ^ (K + 1) ∧ sv q (v * 2 ^ (y - L).toNat) = sv s (m * 2 ^ (x - L).toNat) + sv s' (m' * 2 ^ (x' - L).toNat) := by
 have hup : ∀ {a : Nat},a < 2 ^ K → a < 2 ^ (K + 1) := fun h => by rw [Nat.pow_succ]; omega
 rcases Nat.eq_zero_or_pos m with h0 | h0
 ·refine ⟨s',m',x',fun W A N C A' N' C' g g' _ => ?_,hB,hx',hup hk',by rw [h0,Nat.zero_mul,sv_zero,Int.zero_add]⟩
  obtain rfl := g.zero.2 h0
  refine (Add_left _ A C _ _ _ A' N' C' _ _ W ⟨g,hA⟩ ⟨g',hB⟩).mono ?_
  rintro e w' ⟨⟨A,N,C,rfl,h1⟩,hb⟩
  exact ⟨⟨A,N,C,rfl,h1⟩,hb⟩
 rcases Nat.eq_zero_or_pos m' with h1 | h1
 ·refine ⟨s,m,x,fun W A N C A' N' C' g g' _ => ?_,hA,hx,hup hk,by rw [h1,Nat.zero_mul,sv_zero,Int.add_zero]⟩
  obtain rfl := g'.zero.2 h1
  refine (Add_right _ A N C _ _ _ A' C' _ _ W ⟨g,hA⟩ ⟨g',hB⟩ (by have := g.zero; omega)).mono ?_
  rintro e w' ⟨⟨A,N,C,rfl,h1⟩,hb⟩
  exact ⟨⟨A,N,C,rfl,h1⟩,hb⟩
 have a1 := hA.oddM h0
 have b1 := hB.oddM h1
 obtain ⟨t,ht⟩ : ∃ t,min x x' = t := ⟨_,rfl⟩
 obtain ⟨i,hi⟩ : ∃ i : Nat,x - t = (i : Int) := ⟨(x - t).toNat,by omega⟩
 obtain ⟨j,hj⟩ : ∃ j : Nat,x' - t = (j : Int) := ⟨(x' - t).toNat,by omega⟩
 obtain ⟨d,hd⟩ : ∃ d : Nat,t - L = (d : Int) := ⟨(t - L).toNat,by omega⟩
 have e1 : (x - L).toNat = i + d := by omega
 have e2 : (x' - L).toNat = j + d := by omega
 have hd1 : 1 ≤ 2 ^ d := pow_pos2 d
 have ha : m * 2 ^ i < 2 ^ K := by
  rw [e1,Nat.pow_add,← Nat.mul_assoc] at hk
  exact Nat.lt_of_le_of_lt (Nat.le_mul_of_pos_right _ hd1) hk
 have hb : m' * 2 ^ j < 2 ^ K := by
  rw [e2,Nat.pow_add,← Nat.mul_assoc] at hk'
  exact Nat.lt_of_le_of_lt (Nat.le_mul_of_pos_right _ hd1) hk'
 have hov : ¬ Over (m * 2 ^ i + m' * 2 ^ j) := not_over (n := K + 1) (by rw [Nat.pow_succ]; omega) (by omega)
 by_cases hs : s = s'
 ·subst hs
  exact add_in0M (r := s) a1 b1 ht hi hj hd hL hL0 hK hk hk' (fun W A N C A' N' C' g g' => addS_same s A N C _ A' N' C' _ W g g' hov) (by unfold sv; cases s <;> simp <;> omega)
 ·rcases Nat.lt_or_ge (m * 2 ^ i) (m' * 2 ^ j) with hc | hc
  ·refine add_in0M (r := s') (v := m' * 2 ^ j - m * 2 ^ i) a1 b1 ht hi hj hd hL hL0 hK hk hk' (fun W A N C A' N' C' g g' => ?_) (by generalize m * 2 ^ i = u at *; generalize m' * 2 ^ j = u' at *; unfold sv; cases s <;> cases s' <;> simp at hs ⊢ <;> omega)
   cases s <;> cases s'
   ·exact absurd rfl hs
   ·exact addS_lt_f A N C _ A' N' C' _ W g g' hc
   ·exact addS_lt_t A N C _ A' N' C' _ W g g' hc
   ·exact absurd rfl hs
  ·refine add_in0M (r := s) (v := m * 2 ^ i - m' * 2 ^ j) a1 b1 ht hi hj hd hL hL0 hK hk hk' (fun W A N C A' N' C' g g' => ?_) (by generalize m * 2 ^ i = u at *; generalize m' * 2 ^ j = u' at *; unfold sv; cases s <;> cases s' <;> simp at hs ⊢ <;> omega)
   cases s <;> cases s'
   ·exact absurd rfl hs
   ·exact addS_ge_f A N C _ A' N' C' _ W g g' hc
   ·exact addS_ge_t A N C _ A' N' C' _ W g g' hc
   ·exact absurd rfl hs
theorem OkD.oneM {s : Bool} {m : Nat} {x : Int} {s' : Bool} {m' : Nat} {x' L : Int} (hA : OkD s m x) (hB : OkD s' m' x') (hx : L ≤ x) (hx' : L ≤ x') (h : sv s (m * 2 ^ (x - L).toNat) = sv s' (m' * 2 ^ (x' - L).toNat)) : s = s' ∧ m = m' ∧ x = x' := by
 have p := pow_pos2 (x - L).toNat
 have p' := pow_pos2 (x' - L).toNat
 rcases hA with ⟨h0,h1,h2⟩ | ⟨h0,_⟩ <;> rcases hB with ⟨g0,g1,g2⟩ | ⟨g0,_⟩
 ·exact ⟨by rw [h1,g1],by omega,by omega⟩
 ·have q : 0 < m' * 2 ^ (x' - L).toNat := Nat.mul_pos (by omega) p'
  rw [h0,Nat.zero_mul,sv_zero] at h
  generalize m' * 2 ^ (x' - L).toNat = u' at *
  unfold sv at h; cases s' <;> simp at h <;> omega
 ·have q : 0 < m * 2 ^ (x - L).toNat := Nat.mul_pos (by omega) p
  rw [g0,Nat.zero_mul,sv_zero] at h
  generalize m * 2 ^ (x - L).toNat = u at *
  unfold sv at h; cases s <;> simp at h <;> omega
 ·have q : 0 < m * 2 ^ (x - L).toNat := Nat.mul_pos (by omega) p
  have q' : 0 < m' * 2 ^ (x' - L).toNat := Nat.mul_pos (by omega) p'
  have e : s = s' ∧ m * 2 ^ (x - L).toNat = m' * 2 ^ (x' - L).toNat := by
   generalize m * 2 ^ (x - L).toNat = u at *
   generalize m' * 2 ^ (x' - L).toNat = u' at *
   unfold sv at h; cases s <;> cases s' <;> simp at h ⊢ <;> omega
  have t1 : Tz (m * 2 ^ (x - L).toNat) (x - L).toNat := ⟨m / 2,by rw [Nat.mul_comm]; congr 1; omega⟩
  have t2 : Tz (m' * 2 ^ (x' - L).toNat) (x' - L).toNat := ⟨m' / 2,by rw [Nat.mul_comm]; congr 1; omega⟩
  rw [e.2] at t1
  have e3 := t1.uniq t2
  refine ⟨e.1,?_,by omega⟩
  have e4 := e.2
  rw [e3] at e4
  exact Nat.eq_of_mul_eq_mul_right p' e4
def Rn (w : World) (p k : Nat) : Prop := ∃ cs t,w.heap[p]? = some (.cells cs t (0,0)) ∧ cs[k]? = some (.int .i64 0)
theorem Rn.kept {w w' : World} {p k : Nat} (h : Rn w p k) (hb : Below w.heap.size w w') : Rn w' p k := by
 obtain ⟨cs,t,h1,h2⟩ := h
 exact ⟨cs,t,by rw [hb.block _ (block_lt h1)]; exact h1,h2⟩
theorem Rn.cell {w : World} {p k : Nat} (h : Rn w p k) : w.cell? ⟨p,k,none⟩ = some (.int .i64 0) ∧ w.frozen? ⟨p,k,none⟩ = false := by
 obtain ⟨cs,t,h1,h2⟩ := h
 exact ⟨by rw [cell_of_row w p k _ _ _ h1]; exact h2,frozen_of_row w p k _ _ h1⟩
theorem Rn.still {w : World} {p k : Nat} (h : Rn w p k) : w.setCell ⟨p,k,none⟩ (.int .i64 0) = w := by
 obtain ⟨cs,t,h1,h2⟩ := h
 exact setCell_still h1 h2
theorem keep_0 (p k : Nat) (w : World) (h : Rn w p k) :
  Calls Tryz.prog 124 #[.pointer (some ⟨p,k,none⟩),.int .i64 0] w fun en w' => en = .returned (.tuple #[]) ∧ Below w.heap.size w w' := by
 obtain ⟨h1,h2⟩ := h.cell
 have h3 := h.still
 go_enter Tryz.func124,Tryz.ntmps124
 go_wp2
 go_end0
 exact ⟨rfl,Below.refl _ _⟩
theorem runDyadic_0 (p k : Nat) (s : Bool) (a : Option Addr) (n cap : Nat) (x : Int) (w : World) (h : Rn w p k) :
  Calls Tryz.prog 68 #[.pointer (some ⟨p,k,none⟩),.agg #[.bool s,.slice a n cap,.int .i64 x],.int .i64 0] w fun e w' => e = .returned (.agg #[.bool s,.slice a n cap,.int .i64 x]) ∧ Below w.heap.size w w' := by
 have H := hide h
 clear h
 go_enter Tryz.func68,Tryz.ntmps68
 go_wp2_with fail
 refine (keep_0 p k _ ((unhide H).kept (Fs.two w _ _ _ _).fr)).mono ?_
 rintro e w1 ⟨rfl,hb1⟩
 have hS := (Fs.two w _ _ _ _).kept hb1
 obtain ⟨⟨ya,yb,yc,-⟩,⟨yd,ye,yf,-⟩,-⟩ := hS.cells
 have Q_ := hS.frozen (b := w.heap.size + 1) (cs := #[.bool false,.slice none 0 0,.int .i64 0]) (t := 33) (by simp)
 have fz0 := Q_ 0
 have fz1 := Q_ 1
 have fz2 := Q_ 2
 clear Q_
 go_wp2
 exact bodyPost_ret (v := .agg #[.bool s,.slice a n cap,.int .i64 x]) (by simp [results,Tryz.results68,go_sem,yd,ye,yf]) rfl ⟨rfl,((hS.fr.setCell (by simp <;> omega) _).setCell (by simp <;> omega) _).setCell (by simp <;> omega) _⟩
theorem runRatio_0 (p k : Nat) (s : Bool) (a : Option Addr) (n cap : Nat) (a' : Option Addr) (n' cap' : Nat) (w : World) (h : Rn w p k) :
  Calls Tryz.prog 73 #[.pointer (some ⟨p,k,none⟩),.agg #[.bool s,.slice a n cap,.slice a' n' cap'],.int .i64 0] w fun e w' => e = .returned (.agg #[.bool s,.slice a n cap,.slice a' n' cap']) ∧ Below w.heap.size w w' := by
 have H := hide h
 clear h
 go_enter Tryz.func73,Tryz.ntmps73
 go_wp2_with fail
 refine (keep_0 p k _ ((unhide H).kept (Fs.two w _ _ _ _).fr)).mono ?_
 rintro e w1 ⟨rfl,hb1⟩
 have hS := (Fs.two w _ _ _ _).kept hb1
 obtain ⟨⟨ya,yb,yc,-⟩,⟨yd,ye,yf,-⟩,-⟩ := hS.cells
 have Q_ := hS.frozen (b := w.heap.size + 1) (cs := #[.bool false,.slice none 0 0,.slice none 0 0]) (t := 48) (by simp)
 have fz0 := Q_ 0
 have fz1 := Q_ 1
 have fz2 := Q_ 2
 clear Q_
 go_wp2
 exact bodyPost_ret (v := .agg #[.bool s,.slice a n cap,.slice a' n' cap']) (by simp [results,Tryz.results73,go_sem,yd,ye,yf]) rfl ⟨rfl,((hS.fr.setCell (by simp <;> omega) _).setCell (by simp <;> omega) _).setCell (by simp <;> omega) _⟩
theorem one_any (w : World) : Calls Tryz.prog 55 #[] w fun e w' => (∃ A N C,e = .returned (.agg #[.slice A N C]) ∧ Mine w' w.heap.size A N C 1) ∧ Below w.heap.size w w' := by
 go_enter Tryz.func55,Tryz.ntmps55
 go_wp2
 have hh := heap_alloc_new (w.alloc (.cells #[.slice (some ⟨w.heap.size + 1,0,none⟩) 1 1] 31)) (.cells #[.int .u32 1] 62)
 rw [World.size_alloc] at hh
 have hc : ((w.alloc (.cells #[.slice (some ⟨w.heap.size + 1,0,none⟩) 1 1] 31)).alloc (.cells #[.int .u32 1] 62)).cell? ⟨w.heap.size,0,none⟩ = some (.slice (some ⟨w.heap.size + 1,0,none⟩) 1 1) :=
  ((Fs.two w #[.slice (some ⟨w.heap.size + 1,0,none⟩) 1 1] 31 #[.int .u32 1] 62).cellAt (b := w.heap.size) (cs := #[.slice (some ⟨w.heap.size + 1,0,none⟩) 1 1]) (t := 31) (by simp) 0 _ rfl)
 exact bodyPost_ret (v := .agg #[.slice (some ⟨w.heap.size + 1,0,none⟩) 1 1]) (by simp [results,Tryz.results55,go_sem,hc]) rfl ⟨⟨_,_,_,rfl,[1],rfl,Or.inr ⟨w.heap.size + 1,1,#[.int .u32 1],rfl,by omega,hh,by decide,by decide,by decide,fun j hj => by
  have : j = 0 := by simp at hj; omega
  subst this; rfl⟩,by intro x hx; simp at hx; omega,by simp [Pl.Norm],by decide,by decide⟩,(Fs.two w _ _ _ _).fr⟩
structure Sp (w W : World) (g : Nat) : Prop where
 os : W.os = w.os
 tape : W.tape = w.tape
 output : W.output = w.output
 size : w.heap.size ≤ W.heap.size
 block : ∀ k,k < w.heap.size → k ≠ g → W.heap[k]? = w.heap[k]?
def Ob (w : World) (g : Nat) (v : Value) : Prop := v.ownBlock = some g ∨ v.ownBlock = none ∨ ∃ q,v.ownBlock = some q ∧ w.heap.size ≤ q
theorem Sp.append {w W W' : World} {g : Nat} {v v' : Value} (h : Sp w W g) (ho : Ob w g v) (ha : Ap W W' v v') : Sp w W' g ∧ Ob w g v' := by
 refine ⟨⟨ha.os.trans h.os,ha.tape.trans h.tape,ha.output.trans h.output,Nat.le_trans h.size ha.size,fun k hk hne => ?_⟩,?_⟩
 ·rw [ha.block k (Nat.lt_of_lt_of_le hk h.size) ?_,h.block k hk hne]
  rcases ho with e | e | ⟨q,e,hq⟩
  ·rw [e]; intro c; injection c with c; exact hne c
  ·rw [e]; intro c; cases c
  ·rw [e]; intro c; injection c with c; omega
 ·rcases ha.own with e | ⟨q,e,hq⟩
  ·rw [Ob,e]; exact ho
  ·exact Or.inr (Or.inr ⟨q,e,Nat.le_trans h.size hq⟩)
theorem spoil_nil (w : World) : Calls Tryz.prog 17 #[.agg #[.slice none 0 0]] w fun e w' => e = .returned (.tuple #[]) ∧ Below w.heap.size w w' := by
 go_enter Tryz.func17,Tryz.ntmps17
 go_wp2
 refine wp_loop_rounds 1 ?_
 rw [rounds_succ]
 go_wp2
 go_loopw [3,4] (fun s3 s4 wr => ∃ (j : Nat) (zs : List Nat),j ≤ 9 ∧ s4 = .int .i64 (j : Int) ∧ Hid (Own wr w.heap.size s3 zs ∧ zs.length = j ∧ Below w.heap.size w wr)) (fun _ s4 _ => 9 - (intOf s4).toNat)
 case atStart => exact ⟨0,[],Nat.zero_le _,rfl,hide ⟨Or.inl ⟨rfl,rfl⟩,rfl,gr_alloc _ _⟩⟩
 case round =>
  obtain ⟨j,zs,hj,rfl,HS⟩ := hrel
  obtain ⟨h1,h2,h3⟩ := unhide HS
  obtain ⟨va,vn,vc,rfl⟩ := h1.slice
  have hvn := h1.len
  by_cases hj9 : j < 9
  ·obtain ⟨v',W',hrun,hO,hap,_⟩ := append_own1 wr w.heap.size vn vc 78 va zs h1 h3.size (by omega)
   have hB' : Below w.heap.size w W' := h3.trans ⟨hap.os,hap.tape,hap.output,hap.size,fun q hq => hap.block q (by have := h3.size; omega) (fun e => by have := h1.lt q e.symm; omega)⟩
   have HS' := hide (show Own W' w.heap.size v' (zs ++ [78]) ∧ (zs ++ [78]).length = j + 1 ∧ Below w.heap.size w W' from ⟨hO,by simp [h2],hB'⟩)
   have HRUN := hide hrun
   clear h1 h2 h3 hO hap hB' HS hrun hvn
   go_wp2_with (at_builtin; refine wpList_append_run rfl (.tmp 22) (.tmp 23) 29 rfl (unhide HRUN) ?_)
   go_roundw
   case rel => exact ⟨j + 1,zs ++ [78],by omega,by go_num,HS'⟩
   case measure => simp [intOf]; omega
  ·obtain rfl : j = 9 := by omega
   have hb : ¬ ((vn : Int) < 9) := by omega
   clear h1 h2 HS hvn
   go_wp2
   go_end0
   exact ⟨rfl,h3⟩
theorem spoil_any (g n c B m : Nat) (w : World) (h : Mine w B (some ⟨g,0,none⟩) n c m) (hB : B ≤ w.heap.size) : Calls Tryz.prog 17 #[.agg #[.slice (some ⟨g,0,none⟩) n c]] w fun e w' => e = .returned (.tuple #[]) ∧ Sp w w' g := by
 obtain ⟨xs,hl,ho,_,_,_,hn16⟩ := h
 rcases ho with ⟨e,_⟩ | ⟨g',c',cur,e,hg,hh,k1,k2,k3,_⟩
 ·cases e
 rw [hl] at e k1
 cases e
 have hlt : g < w.heap.size := block_lt hh
 obtain ⟨W1,hW1⟩ : ∃ W1,w.alloc (.cells #[.slice (some ⟨g,0,none⟩) n c] 31) = W1 := ⟨_,rfl⟩
 have b1 : W1.heap[w.heap.size]? = some (.cells #[.slice (some ⟨g,0,none⟩) n c] 31 (0,0)) := by rw [← hW1]; exact heap_alloc_new w _
 have b2 : W1.heap[g]? = some (.cells cur 62 (0,0)) := by rw [← hW1,(gr_alloc w _).block g hlt]; exact hh
 have hSp : Sp w W1 g := ⟨by rw [← hW1]; rfl,by rw [← hW1]; rfl,by rw [← hW1]; rfl,by rw [← hW1]; simp,fun k hk _ => by rw [← hW1]; exact (gr_alloc w _).block k hk⟩
 have HST := hide (show W1.heap[w.heap.size]? = some (.cells #[.slice (some ⟨g,0,none⟩) n c] 31 (0,0)) ∧ (∃ cu : Array Value,W1.heap[g]? = some (.cells cu 62 (0,0)) ∧ c ≤ cu.size ∧ ∀ j,j < 0 → cu[j]? = some (.int .u32 77)) ∧ Sp w W1 g from ⟨b1,⟨cur,b2,k2,fun j hj => absurd hj (Nat.not_lt_zero _)⟩,hSp⟩)
 have HB := hide hB
 have HG := hide hg
 have HC := hide k3
 clear hSp b1 b2 hh k2 k3 hl hg hB
 go_enter Tryz.func17,Tryz.ntmps17
 go_wp2
 clear hW1
 go_loopw [2] (fun s2 wr => ∃ i : Nat,i ≤ n ∧ s2 = .int .i64 (i : Int) ∧ Hid (wr.heap[w.heap.size]? = some (.cells #[.slice (some ⟨g,0,none⟩) n c] 31 (0,0)) ∧ (∃ cu : Array Value,wr.heap[g]? = some (.cells cu 62 (0,0)) ∧ c ≤ cu.size ∧ ∀ j,j < i → cu[j]? = some (.int .u32 77)) ∧ Sp w wr g)) (fun s2 _ => n - (intOf s2).toNat)
 case atStart => exact ⟨0,Nat.zero_le _,rfl,HST⟩
 case round =>
  obtain ⟨i,hi,rfl,HS⟩ := hrel
  obtain ⟨h1,⟨cu,h2,h3,h4⟩,h5⟩ := unhide HS
  have c1 : wr.cell? ⟨w.heap.size,0,none⟩ = some (.slice (some ⟨g,0,none⟩) n c) := by rw [cell_of_row wr _ 0 _ _ _ h1]; rfl
  by_cases hin : i < n
  ·obtain ⟨x0,hx0⟩ : ∃ x0,cu[i]? = some x0 := ⟨cu[i]'(by omega),Array.getElem?_eq_getElem (by omega)⟩
   have c2 : wr.cell? ⟨g,i,none⟩ = some x0 := by rw [cell_of_row wr _ i _ _ _ h2]; exact hx0
   have z2 := frozen_of_row wr g i _ _ h2
   have HS' := hide (show (wr.setCell ⟨g,i,none⟩ (.int .u32 77)).heap[w.heap.size]? = some (.cells #[.slice (some ⟨g,0,none⟩) n c] 31 (0,0)) ∧ (∃ cu : Array Value,(wr.setCell ⟨g,i,none⟩ (.int .u32 77)).heap[g]? = some (.cells cu 62 (0,0)) ∧ c ≤ cu.size ∧ ∀ j,j < i + 1 → cu[j]? = some (.int .u32 77)) ∧ Sp w (wr.setCell ⟨g,i,none⟩ (.int .u32 77)) g from
    ⟨by rw [heap_setCell_other wr _ w.heap.size _ (by show w.heap.size ≠ g; omega)]; exact h1,⟨_,heap_setCell_same wr g i _ _ _ h2,by simpa using h3,fun j hj => by
     by_cases e : j = i
     ·subst e; rw [Array.getElem?_setIfInBounds_self_of_lt (by omega)]
     ·rw [Array.getElem?_setIfInBounds_ne (Ne.symm e)]; exact h4 j (by omega)⟩,
     ⟨h5.os,h5.tape,h5.output,by have := h5.size; simpa [World.setCell] using this,fun k hk hne => by rw [heap_setCell_other wr _ k _ (by show k ≠ g; exact hne)]; exact h5.block k hk hne⟩⟩)
   clear h1 h2 h3 h4 h5 HS hx0
   go_wp2
   go_roundw
   case rel => exact ⟨i + 1,by omega,by go_num,HS'⟩
   case measure => simp [intOf]; omega
  ·obtain rfl : i = n := by omega
   have hO : Own wr B (.slice (some ⟨g,0,none⟩) i c) (List.replicate i 77) := Or.inr ⟨g,c,cu,by simp,unhide HG,h2,by simpa using k1,h3,unhide HC,fun j hj => by
    have hj2 : j < i := by simpa using hj
    rw [h4 j hj2,List.getElem?_replicate,if_pos hj2]; rfl⟩
   have HOS := hide (show Own wr B (.slice (some ⟨g,0,none⟩) i c) (List.replicate i 77) ∧ Sp w wr g from ⟨hO,h5⟩)
   clear h1 h2 h3 h4 h5 HS hO
   go_wp2
   clear c1
   go_loopw [3,4] (fun s3 s4 wr => ∃ (j : Nat) (zs : List Nat),j ≤ 9 ∧ s4 = .int .i64 (j : Int) ∧ Hid (Own wr B s3 zs ∧ zs.length = i + j ∧ Sp w wr g ∧ Ob w g s3)) (fun _ s4 _ => 9 - (intOf s4).toNat)
   case atStart => exact ⟨0,List.replicate i 77,Nat.zero_le _,rfl,hide ⟨(unhide HOS).1,by simp,(unhide HOS).2,Or.inl rfl⟩⟩
   case round =>
    obtain ⟨j,zs,hj,rfl,HS⟩ := hrel
    obtain ⟨h1,h2,h3,h4⟩ := unhide HS
    obtain ⟨va,vn,vc,rfl⟩ := h1.slice
    have hvn := h1.len
    by_cases hj9 : j < 9
    ·obtain ⟨v',W',hrun,hO,hap,_⟩ := append_own1 wr B vn vc 78 va zs h1 (Nat.le_trans (unhide HB) h3.size) (by omega)
     obtain ⟨p1,p2⟩ := h3.append h4 hap
     have HS' := hide (show Own W' B v' (zs ++ [78]) ∧ (zs ++ [78]).length = i + (j + 1) ∧ Sp w W' g ∧ Ob w g v' from ⟨hO,by simp [h2]; omega,p1,p2⟩)
     have HRUN := hide hrun
     clear h1 h2 h3 h4 hO hap p1 p2 HS hrun hvn
     go_wp2_with (at_builtin; refine wpList_append_run rfl (.tmp 22) (.tmp 23) 29 rfl (unhide HRUN) ?_)
     go_roundw
     case rel => exact ⟨j + 1,zs ++ [78],by omega,by go_num,HS'⟩
     case measure => simp [intOf]; omega
    ·obtain rfl : j = 9 := by omega
     have hb : ¬ ((vn : Int) < 9) := by omega
     clear h1 h2 HS hvn
     go_wp2
     go_end0
     exact ⟨rfl,h3⟩
def Vals (E F b : Int) (s : Bool) (m : Nat) (x : Int) : Prop := ∀ W : World,Tb W → Calls Tryz.prog 52 #[.agg #[.int .i64 E,.int .i64 F],.int .u64 b] W fun e w' => (∃ A N C,e = .returned (.tuple #[.agg #[.bool s,.slice A N C,.int .i64 x],.int .i64 0]) ∧ Mine w' W.heap.size A N C m) ∧ Below W.heap.size W w'
def Mk1 (s : Bool) (x : Int) : Prop := ∀ (W : World) (B : Nat) (A : Option Addr) (N C : Nat),Mine W B A N C 1 → Tb W → Calls Tryz.prog 54 #[.bool s,.agg #[.slice A N C],.int .i64 x] W fun e w' => (∃ A N C,e = .returned (.tuple #[.agg #[.bool s,.slice A N C,.int .i64 x],.int .i64 0]) ∧ Mine w' W.heap.size A N C 1) ∧ Below W.heap.size W w'
theorem Ulp_is (E F b : Int) (s0 : Bool) (m : Nat) (x : Int) (s1 : Bool) (ex fr lo hi mx k : Int) (w : World) (hT : Tb w) (HV : Hid (Vals E F b s0 m x)) (HP : Tel 30 #[.agg #[.int .i64 E,.int .i64 F],.int .u64 b] (.tuple #[.agg #[.bool s1,.int .i64 ex,.int .u64 fr],.int .i64 0])) (HG : Tel 53 #[.agg #[.int .i64 E,.int .i64 F]] (.tuple #[.int .i64 lo,.int .i64 hi,.int .i64 0])) (hmx : max ex 1 = mx) (hk : lo + mx - 1 = k) (hlo : -100000 ≤ lo ∧ lo ≤ 100000) (hmx2 : 0 ≤ mx ∧ mx ≤ 100000) (HK : Hid (Mk1 false k)) :
  Calls Tryz.prog 14 #[.agg #[.int .i64 E,.int .i64 F],.int .u64 b] w fun e w' => (∃ A N C,e = .returned (.tuple #[.agg #[.bool false,.slice A N C,.int .i64 k],.int .i64 0]) ∧ Mine w' w.heap.size A N C 1) ∧ Below w.heap.size w w' := by
 have HT := hide hT
 clear hT
 go_enter Tryz.func14,Tryz.ntmps14
 go_wp2_with fail
 refine (unhide HV _ ((unhide HT).kept (Fs.two w _ _ _ _).fr)).mono ?_
 rintro e w1 ⟨⟨A1,N1,C1,rfl,f1⟩,hb1⟩
 have hS := (Fs.two w _ _ _ _).kept hb1
 obtain ⟨⟨ya,yb,-⟩,⟨yc,yd,ye,-⟩,-⟩ := hS.cells
 clear f1
 have hltw1_0 : w.heap.size < w1.heap.size := hS.lt 0 rfl
 have hltw1_1 : w.heap.size + 1 < w1.heap.size := hS.lt 1 rfl
 replace hS := hS.alloc #[.bool s0,.slice A1 N1 C1,.int .i64 x] 33
 clear ya yb yc yd ye
 obtain ⟨⟨yf,yg,yh,-⟩,⟨yi,yj,-⟩,⟨yk,yl,ym,-⟩,-⟩ := hS.cells
 go_wp2_with fail
 refine (HP _).mono ?_
 rintro e w2 ⟨rfl,hb2⟩
 replace hS := hS.kept hb2
 clear yf yg yh yi yj yk yl ym
 obtain ⟨⟨yn,yo,yp,-⟩,⟨yq,yr,-⟩,⟨ys,yt,yu,-⟩,-⟩ := hS.cells
 have hltw2_0 : w1.heap.size < w2.heap.size := hS.lt 0 rfl
 have hltw2_1 : w.heap.size < w2.heap.size := hS.lt 1 rfl
 have hltw2_2 : w.heap.size + 1 < w2.heap.size := hS.lt 2 rfl
 replace hS := hS.alloc #[.bool s1,.int .i64 ex,.int .u64 fr] 55
 clear yn yo yp yq yr ys yt yu
 obtain ⟨⟨yv,yw,yx,-⟩,⟨yy,yz,y0,-⟩,⟨y1,y2,-⟩,⟨y3,y4,y5,-⟩,-⟩ := hS.cells
 go_wp2_with fail
 refine (HG _).mono ?_
 rintro e w3 ⟨rfl,hb3⟩
 replace hS := hS.kept hb3
 clear yv yw yx yy yz y0 y1 y2 y3 y4 y5
 obtain ⟨⟨y6,y7,y8,-⟩,⟨y9,yba,ybb,-⟩,⟨ybc,ybd,-⟩,⟨ybe,ybf,ybg,-⟩,-⟩ := hS.cells
 have hltw3_0 : w2.heap.size < w3.heap.size := hS.lt 0 rfl
 have hltw3_1 : w1.heap.size < w3.heap.size := hS.lt 1 rfl
 have hltw3_2 : w.heap.size < w3.heap.size := hS.lt 2 rfl
 have hltw3_3 : w.heap.size + 1 < w3.heap.size := hS.lt 3 rfl
 go_wp2_with fail
 have hS3s : w.heap.size ≤ w3.heap.size := hS.size
 have hs9 : ∀ x9 : Nat × (Pk → World → Prop),x9 ∈ ([(0,fun q W => Mine W (w.heap.size + 2) q.A q.N q.C 1),(7,fun q W => Mine W (w.heap.size + 2) q.A q.N q.C (1))] : List (Nat × (Pk → World → Prop))) → ∀ q9 : Pk,St (w.heap.size + 2) (x9.2 q9) := by
  intro x hx q
  simp only [List.mem_cons,List.not_mem_nil,or_false] at hx
  rcases hx with rfl | rfl
  ·exact st_mine _ _ _ _ _
  ·exact st_mine _ _ _ _ _
 have h09 : ∀ x9 : Nat × (Pk → World → Prop),x9 ∈ ([(0,fun q W => Mine W (w.heap.size + 2) q.A q.N q.C 1),(7,fun q W => Mine W (w.heap.size + 2) q.A q.N q.C (1))] : List (Nat × (Pk → World → Prop))) → 12 ≤ x9.1 → x9.2 ⟨none,0,0⟩ w3 := by
  intro x hx hn9
  simp only [List.mem_cons,List.not_mem_nil,or_false] at hx
  rcases hx with rfl | rfl
  ·exact absurd hn9 (by simp)
  ·exact absurd hn9 (by simp)
 refine wp_region_any (by kernel_rfl) ?_
 refine wpAny_pick (fun p9 => [some (35,.agg #[.slice (p9 0).A (p9 0).N (p9 0).C]),some (36,.int .i64 lo),some (37,.pointer (some ⟨w2.heap.size,1,none⟩)),some (38,.int .i64 ex),some (39,.int .i64 mx),some (40,.int .i64 (lo + mx)),some (41,.int .i64 k),some (42,.tuple #[.agg #[.bool false,.slice (p9 7).A (p9 7).N (p9 7).C,.int .i64 k],.int .i64 0]),some (43,.agg #[.bool false,.slice (p9 7).A (p9 7).N (p9 7).C,.int .i64 k]),some (44,.int .i64 0),none,some (5,.int .i64 0)])
  (fun p9 l9 W9 => Pm w (w.heap.size + 2) [(0,fun q W => Mine W (w.heap.size + 2) q.A q.N q.C 1),(7,fun q W => Mine W (w.heap.size + 2) q.A q.N q.C (1))] p9 l9 W9 (pickBs l9 [(10,[⟨w2.heap.size,#[.bool s1,.int .i64 ex,.int .u64 fr],55⟩,⟨w1.heap.size,#[.bool s0,.slice A1 N1 C1,.int .i64 x],33⟩,⟨w.heap.size,#[.int .i64 E,.int .i64 F],23⟩,⟨w.heap.size + 1,#[.bool false,.slice (p9 7).A (p9 7).N (p9 7).C,.int .i64 k],33⟩])] [⟨w2.heap.size,#[.bool s1,.int .i64 ex,.int .u64 fr],55⟩,⟨w1.heap.size,#[.bool s0,.slice A1 N1 C1,.int .i64 x],33⟩,⟨w.heap.size,#[.int .i64 E,.int .i64 F],23⟩,⟨w.heap.size + 1,#[.bool false,.slice none 0 0,.int .i64 0],33⟩])) _ _ (fun _ => rfl) (by kernel_rfl) (fun _ => rfl) (fun _ => rfl) ?_ ?_ (fun _ => ⟨none,0,0⟩) (Pm.start2 hS _ _ _ (by omega) hs9 h09)
 ·intro p9 l9 t9 W9 i9 hD hi9 hl9 hM
  obtain ⟨o9,ho9,hd9⟩ := (mem_ready.1 hi9).2
  have hin9 : i9 < 12 := by
   by_cases h : i9 < 12
   ·exact h
   ·rw [Array.getElem?_eq_none (by rw [hD.len]; simp; omega)] at hl9; cases hl9
  have hcase : i9 = 0 ∨ i9 = 1 ∨ i9 = 2 ∨ i9 = 3 ∨ i9 = 4 ∨ i9 = 5 ∨ i9 = 6 ∨ i9 = 7 ∨ i9 = 8 ∨ i9 = 9 ∨ i9 = 10 ∨ i9 = 11 := by omega
  clear hin9
  rcases hcase with rfl | rfl | rfl | rfl | rfl | rfl | rfl | rfl | rfl | rfl | rfl | rfl
  ·cases ho9
   have hM0 : Fs w W9 [⟨w2.heap.size,#[.bool s1,.int .i64 ex,.int .u64 fr],55⟩,⟨w1.heap.size,#[.bool s0,.slice A1 N1 C1,.int .i64 x],33⟩,⟨w.heap.size,#[.int .i64 E,.int .i64 F],23⟩,⟨w.heap.size + 1,#[.bool false,.slice none 0 0,.int .i64 0],33⟩] := by
    have hM1 := hM.st
    simp only [pickBs] at hM1
    rw [if_neg (hD.waits 0 10 _ ⟨0,.phase⟩ hl9 rfl (by simp) rfl rfl)] at hM1
    exact hM1
   have HD := hide hD
   have hn10 := hD.waits 0 10 _ ⟨0,.phase⟩ hl9 rfl (by simp) rfl rfl
   refine wpOp_step rfl fun K hK => ?_
   go_simp
   go_wp2_with fail
   refine (one_any _).mono ?_
   rintro en w9 ⟨⟨a9,n9,c9,rfl,h9⟩,hb9⟩
   refine hK _ _ ⟨p9.set 0 ⟨a9,n9,c9⟩,?_,rfl,(Pm.keepM rfl (((hM.kept hs9 hb9).pick ⟨a9,n9,c9⟩ ?_).into (by simp only [pickBs]; rw [if_neg hn10,if_neg hn10])))⟩
   ·intro k9 hk9
    clear hM hK
    match k9,hk9 with
    | 0,hk9 => exact absurd (hl9.symm.trans hk9) (by simp)
    | 1,_ => rfl
    | 2,_ => rfl
    | 3,_ => rfl
    | 4,_ => rfl
    | 5,_ => rfl
    | 6,_ => rfl
    | 7,hk9 => exact absurd (hl9.symm.trans (getD_true ((unhide HD).shut 7 _ (hk9) rfl ⟨0,.data⟩ (by simp) rfl))) (by simp)
    | 8,hk9 => exact absurd (hl9.symm.trans (getD_true ((unhide HD).shut 7 _ (getD_true ((unhide HD).shut 8 _ (hk9) rfl ⟨7,.data⟩ (by simp) rfl)) rfl ⟨0,.data⟩ (by simp) rfl))) (by simp)
    | 9,hk9 => exact absurd (hl9.symm.trans (getD_true ((unhide HD).shut 7 _ (getD_true ((unhide HD).shut 9 _ (hk9) rfl ⟨7,.data⟩ (by simp) rfl)) rfl ⟨0,.data⟩ (by simp) rfl))) (by simp)
    | 10,hk9 => exact absurd (hl9.symm.trans (getD_true ((unhide HD).shut 10 _ (hk9) rfl ⟨0,.phase⟩ (by simp) rfl))) (by simp)
    | 11,hk9 => exact absurd (hl9.symm.trans (getD_true ((unhide HD).shut 11 _ (hk9) rfl ⟨0,.phase⟩ (by simp) rfl))) (by simp)
    | k9 + 12,_ => rfl
   ·intro x hx he; simp only [List.mem_cons,List.not_mem_nil,or_false] at hx; rcases hx with rfl | rfl
    ·exact h9.mono hM.bw
    ·exact absurd he (by simp)
  ·cases ho9
   have r10 := hD.old 10 _ rfl rfl
   refine wpOp_step rfl fun K hK => ?_
   go_simp
   exact hK _ _ ⟨p9,fun _ _ => rfl,rfl,(Pm.keepM rfl (hM.val rfl))⟩
  ·cases ho9
   have r8 := hD.old 8 _ rfl rfl
   refine wpOp_step rfl fun K hK => ?_
   go_simp
   exact hK _ _ ⟨p9,fun _ _ => rfl,rfl,(Pm.keepM rfl (hM.val rfl))⟩
  ·cases ho9
   have r37 := hD.od hd9 2 37 _ rfl (by simp)
   have hM0 : Fs w W9 [⟨w2.heap.size,#[.bool s1,.int .i64 ex,.int .u64 fr],55⟩,⟨w1.heap.size,#[.bool s0,.slice A1 N1 C1,.int .i64 x],33⟩,⟨w.heap.size,#[.int .i64 E,.int .i64 F],23⟩,⟨w.heap.size + 1,#[.bool false,.slice none 0 0,.int .i64 0],33⟩] := by
    have hM1 := hM.st
    simp only [pickBs] at hM1
    rw [if_neg (hD.waits 3 10 _ ⟨3,.phase⟩ hl9 rfl (by simp) rfl rfl)] at hM1
    exact hM1
   have c9_0 := hM0.cellAt (b := w2.heap.size) (cs := #[.bool s1,.int .i64 ex,.int .u64 fr]) (t := 55) (by simp) 1 _ rfl
   clear hM0
   refine wpOp_step rfl fun K hK => ?_
   go_simp
   exact hK _ _ ⟨p9,fun _ _ => rfl,rfl,(Pm.keepM rfl (hM.val rfl))⟩
  ·cases ho9
   have r38 := hD.od hd9 3 38 _ rfl (by simp)
   refine wpOp_step rfl fun K hK => ?_
   go_simp
   exact hK _ _ ⟨p9,fun _ _ => rfl,act_eq (by first | rfl | (rw [← hmx]; rfl) | (simp [hmx])),(Pm.keepM rfl (hM.val rfl))⟩
  ·cases ho9
   have r36 := hD.od hd9 1 36 _ rfl (by simp)
   have r39 := hD.od hd9 4 39 _ rfl (by simp)
   refine wpOp_step rfl fun K hK => ?_
   go_simp
   exact hK _ _ ⟨p9,fun _ _ => rfl,act_eq (by (show Value.int _ _ = Value.int _ _; congr 1; (first | rfl | omega | (rw [IntKind.wrap_i64]; omega) | (rw [IntKind.wrap_u64]; omega)))),(Pm.keepM rfl (hM.val rfl))⟩
  ·cases ho9
   have r40 := hD.od hd9 5 40 _ rfl (by simp)
   refine wpOp_step rfl fun K hK => ?_
   go_simp
   exact hK _ _ ⟨p9,fun _ _ => rfl,act_eq (by first | rfl | (show Value.int _ _ = Value.int _ _; congr 1; first | exact hk | (rw [IntKind.wrap_i64]; omega))),(Pm.keepM rfl (hM.val rfl))⟩
  ·cases ho9
   have r35 := hD.od hd9 0 35 _ rfl (by simp)
   have r41 := hD.od hd9 6 41 _ rfl (by simp)
   have g0 := hM.fx _ (List.mem_of_getElem? (i := 0) rfl) (Or.inl (getD_true (hd9 ⟨0,.data⟩ (by simp) rfl)))
   simp only [] at g0
   have hM0 : Fs w W9 [⟨w2.heap.size,#[.bool s1,.int .i64 ex,.int .u64 fr],55⟩,⟨w1.heap.size,#[.bool s0,.slice A1 N1 C1,.int .i64 x],33⟩,⟨w.heap.size,#[.int .i64 E,.int .i64 F],23⟩,⟨w.heap.size + 1,#[.bool false,.slice none 0 0,.int .i64 0],33⟩] := by
    have hM1 := hM.st
    simp only [pickBs] at hM1
    rw [if_neg (hD.waits 7 10 _ ⟨7,.chain⟩ hl9 rfl (by simp) rfl rfl)] at hM1
    exact hM1
   have HD := hide hD
   have hn10 := hD.waits 7 10 _ ⟨7,.chain⟩ hl9 rfl (by simp) rfl rfl
   refine wpOp_step rfl fun K hK => ?_
   go_simp
   go_wp2_with fail
   refine (unhide HK _ _ _ _ _ g0 ((unhide HT).kept hM.st.fr)).mono ?_
   rintro en w9 ⟨⟨a9,n9,c9,rfl,h9⟩,hb9⟩
   refine hK _ _ ⟨p9.set 7 ⟨a9,n9,c9⟩,?_,rfl,(Pm.keepM rfl (((hM.kept hs9 hb9).pick ⟨a9,n9,c9⟩ ?_).into (by simp only [pickBs]; rw [if_neg hn10,if_neg hn10])))⟩
   ·intro k9 hk9
    clear hM hK
    match k9,hk9 with
    | 0,_ => rfl
    | 1,_ => rfl
    | 2,_ => rfl
    | 3,_ => rfl
    | 4,_ => rfl
    | 5,_ => rfl
    | 6,_ => rfl
    | 7,hk9 => exact absurd (hl9.symm.trans hk9) (by simp)
    | 8,hk9 => exact absurd (hl9.symm.trans (getD_true ((unhide HD).shut 8 _ (hk9) rfl ⟨7,.data⟩ (by simp) rfl))) (by simp)
    | 9,hk9 => exact absurd (hl9.symm.trans (getD_true ((unhide HD).shut 9 _ (hk9) rfl ⟨7,.data⟩ (by simp) rfl))) (by simp)
    | 10,hk9 => exact absurd (hl9.symm.trans (getD_true ((unhide HD).shut 10 _ (hk9) rfl ⟨7,.chain⟩ (by simp) rfl))) (by simp)
    | 11,hk9 => exact absurd (hl9.symm.trans (getD_true ((unhide HD).shut 11 _ (hk9) rfl ⟨7,.phase⟩ (by simp) rfl))) (by simp)
    | k9 + 12,_ => rfl
   ·intro x hx he; simp only [List.mem_cons,List.not_mem_nil,or_false] at hx; rcases hx with rfl | rfl
    ·exact absurd he (by simp)
    ·exact h9.mono hM.bw
  ·cases ho9
   have r42 := hD.od hd9 7 42 _ rfl (by simp)
   refine wpOp_step rfl fun K hK => ?_
   go_simp
   exact hK _ _ ⟨p9,fun _ _ => rfl,rfl,(Pm.keepM rfl (hM.val rfl))⟩
  ·cases ho9
   have r42 := hD.od hd9 7 42 _ rfl (by simp)
   refine wpOp_step rfl fun K hK => ?_
   go_simp
   exact hK _ _ ⟨p9,fun _ _ => rfl,rfl,(Pm.keepM rfl (hM.val rfl))⟩
  ·cases ho9
   have r4 := hD.old 4 _ rfl rfl
   have r43 := hD.od hd9 8 43 _ rfl (by simp)
   have hM0 : Fs w W9 [⟨w2.heap.size,#[.bool s1,.int .i64 ex,.int .u64 fr],55⟩,⟨w1.heap.size,#[.bool s0,.slice A1 N1 C1,.int .i64 x],33⟩,⟨w.heap.size,#[.int .i64 E,.int .i64 F],23⟩,⟨w.heap.size + 1,#[.bool false,.slice none 0 0,.int .i64 0],33⟩] := by
    have hM1 := hM.st
    simp only [pickBs] at hM1
    rw [if_neg (by rw [hl9]; simp)] at hM1
    exact hM1
   have c9_0 := hM0.cellAt (b := w.heap.size + 1) (cs := #[.bool false,.slice none 0 0,.int .i64 0]) (t := 33) (by simp) 0 _ rfl
   have z9_0 := hM0.frozen (b := w.heap.size + 1) (cs := #[.bool false,.slice none 0 0,.int .i64 0]) (t := 33) (by simp) 0
   have c9_1 := hM0.cellAt (b := w.heap.size + 1) (cs := #[.bool false,.slice none 0 0,.int .i64 0]) (t := 33) (by simp) 1 _ rfl
   have z9_1 := hM0.frozen (b := w.heap.size + 1) (cs := #[.bool false,.slice none 0 0,.int .i64 0]) (t := 33) (by simp) 1
   have c9_2 := hM0.cellAt (b := w.heap.size + 1) (cs := #[.bool false,.slice none 0 0,.int .i64 0]) (t := 33) (by simp) 2 _ rfl
   have z9_2 := hM0.frozen (b := w.heap.size + 1) (cs := #[.bool false,.slice none 0 0,.int .i64 0]) (t := 33) (by simp) 2
   refine wpOp_step rfl fun K hK => ?_
   go_simp
   exact hK _ _ ⟨p9,fun _ _ => rfl,rfl,Pm.putM hl9 ((((hM.val rfl).put hs9 _ _ (by simp <;> omega) (hM0.put (b := w.heap.size + 1) (cs := #[.bool false,.slice none 0 0,.int .i64 0]) (t := 33) (by simp) (by simp) 0 (.bool false) [⟨w2.heap.size,#[.bool s1,.int .i64 ex,.int .u64 fr],55⟩,⟨w1.heap.size,#[.bool s0,.slice A1 N1 C1,.int .i64 x],33⟩,⟨w.heap.size,#[.int .i64 E,.int .i64 F],23⟩,⟨w.heap.size + 1,#[.bool false,.slice none 0 0,.int .i64 0],33⟩] (by simp <;> omega))).put hs9 _ _ (by simp <;> omega) ((hM0.put (b := w.heap.size + 1) (cs := #[.bool false,.slice none 0 0,.int .i64 0]) (t := 33) (by simp) (by simp) 0 (.bool false) [⟨w2.heap.size,#[.bool s1,.int .i64 ex,.int .u64 fr],55⟩,⟨w1.heap.size,#[.bool s0,.slice A1 N1 C1,.int .i64 x],33⟩,⟨w.heap.size,#[.int .i64 E,.int .i64 F],23⟩,⟨w.heap.size + 1,#[.bool false,.slice none 0 0,.int .i64 0],33⟩] (by simp <;> omega)).put (b := w.heap.size + 1) (cs := #[.bool false,.slice none 0 0,.int .i64 0]) (t := 33) (by simp) (by simp) 1 (.slice (p9 7).A (p9 7).N (p9 7).C) [⟨w2.heap.size,#[.bool s1,.int .i64 ex,.int .u64 fr],55⟩,⟨w1.heap.size,#[.bool s0,.slice A1 N1 C1,.int .i64 x],33⟩,⟨w.heap.size,#[.int .i64 E,.int .i64 F],23⟩,⟨w.heap.size + 1,#[.bool false,.slice (p9 7).A (p9 7).N (p9 7).C,.int .i64 0],33⟩] (by simp <;> omega))).put hs9 _ _ (by simp <;> omega) (((hM0.put (b := w.heap.size + 1) (cs := #[.bool false,.slice none 0 0,.int .i64 0]) (t := 33) (by simp) (by simp) 0 (.bool false) [⟨w2.heap.size,#[.bool s1,.int .i64 ex,.int .u64 fr],55⟩,⟨w1.heap.size,#[.bool s0,.slice A1 N1 C1,.int .i64 x],33⟩,⟨w.heap.size,#[.int .i64 E,.int .i64 F],23⟩,⟨w.heap.size + 1,#[.bool false,.slice none 0 0,.int .i64 0],33⟩] (by simp <;> omega)).put (b := w.heap.size + 1) (cs := #[.bool false,.slice none 0 0,.int .i64 0]) (t := 33) (by simp) (by simp) 1 (.slice (p9 7).A (p9 7).N (p9 7).C) [⟨w2.heap.size,#[.bool s1,.int .i64 ex,.int .u64 fr],55⟩,⟨w1.heap.size,#[.bool s0,.slice A1 N1 C1,.int .i64 x],33⟩,⟨w.heap.size,#[.int .i64 E,.int .i64 F],23⟩,⟨w.heap.size + 1,#[.bool false,.slice (p9 7).A (p9 7).N (p9 7).C,.int .i64 0],33⟩] (by simp <;> omega)).put (b := w.heap.size + 1) (cs := #[.bool false,.slice (p9 7).A (p9 7).N (p9 7).C,.int .i64 0]) (t := 33) (by simp) (by simp) 2 (.int .i64 k) [⟨w2.heap.size,#[.bool s1,.int .i64 ex,.int .u64 fr],55⟩,⟨w1.heap.size,#[.bool s0,.slice A1 N1 C1,.int .i64 x],33⟩,⟨w.heap.size,#[.int .i64 E,.int .i64 F],23⟩,⟨w.heap.size + 1,#[.bool false,.slice (p9 7).A (p9 7).N (p9 7).C,.int .i64 k],33⟩] (by simp <;> omega)))⟩
  ·cases ho9
   have r44 := hD.od hd9 9 44 _ rfl (by simp)
   refine wpOp_step rfl fun K hK => ?_
   go_simp
   exact hK _ _ ⟨p9,fun _ _ => rfl,rfl,(Pm.keepM rfl (hM.val rfl))⟩
 ·intro p9 l9 W9 hn9 hl9 hM
  have fr6_0 := hM.fx _ (List.mem_of_getElem? (i := 0) rfl) (Or.inl (hl9 0 (by decide)))
  have fr6_7 := hM.fx _ (List.mem_of_getElem? (i := 1) rfl) (Or.inl (hl9 7 (by decide)))
  replace hM := hM.st
  simp only [pickBs] at hM
  rw [if_pos (hl9 10 (by decide))] at hM
  clear hl9 hs9 h09 hn9
  generalize p9 0 = q0 at *
  obtain ⟨Ar6_0,Nr6_0,Cr6_0⟩ := q0
  simp only [] at fr6_0
  generalize p9 7 = q7 at *
  obtain ⟨Ar6_7,Nr6_7,Cr6_7⟩ := q7
  simp only [] at fr6_7
  clear hS y6 y7 y8 y9 yba ybb ybc ybd ybe ybf ybg
  have hS := hM
  clear hM
  simp only [Puts.lay,List.setIfInBounds_toArray,List.set_cons_zero,List.set_cons_succ]
  obtain ⟨⟨ybh,ybi,ybj,-⟩,⟨ybk,ybl,ybm,-⟩,⟨ybn,ybo,-⟩,⟨ybp,ybq,ybr,-⟩,-⟩ := hS.cells
  go_wp2
  exact bodyPost_ret (v := .tuple #[.agg #[.bool false,.slice Ar6_7 Nr6_7 Cr6_7,.int .i64 k],.int .i64 0]) (by simp [results,Tryz.results14,go_sem,ybp,ybq,ybr]) rfl ⟨⟨_,_,_,rfl,Mine.mono (show Mine W9 _ _ _ _ _ from unhide fr6_7) (by omega)⟩,hS.fr⟩
theorem has_ne (E F b : Int) (p : Nat) (md : Int) (s : Bool) (a : Option Addr) (n cap m : Nat) (x : Int) (neg : Bool) (S gb fl : Int) (w : World) (B : Nat) (h : Mine w B a n cap m) (hp : w.heap[p]? = some (.cells #[.int .i64 E,.int .i64 F,.int .u64 b,.int .u8 md,.int .i64 0] 109 (0,0))) (hs : decide (S ≤ b) = neg) (HB : Tel 120 #[.agg #[.int .i64 E,.int .i64 F]] (.int .u64 S)) (HD : Hid (∀ (W : World) (B : Nat) (A : Option Addr) (N C : Nat),Mine W B A N C m → Calls Tryz.prog 134 #[.agg #[.int .i64 E,.int .i64 F],.agg #[.bool s,.slice A N C,.int .i64 x],.bool neg,.int .u8 md] W fun e w' => e = .returned (.tuple #[.int .u64 gb,.int .u8 fl,.int .i64 0]) ∧ Below W.heap.size W w')) (hq : (gb == b) = false) :
  Calls Tryz.prog 75 #[.pointer (some ⟨p,0,none⟩),.agg #[.bool s,.slice a n cap,.int .i64 x]] w fun e w' => e = .returned (.bool false) ∧ Below w.heap.size w w' := by
 have H := hide h
 clear h
 go_enter Tryz.func75,Tryz.ntmps75
 have HR : Hid (Rn w p 4) := hide ⟨_,_,hp,rfl⟩
 have hS : Fs w w [⟨p,#[.int .i64 E,.int .i64 F,.int .u64 b,.int .u8 md,.int .i64 0],109⟩] := ⟨fun x hx => by rcases List.mem_cons.1 hx with rfl | hx; exact hp; exact absurd hx List.not_mem_nil,Below.refl _ _⟩
 have hlt0 : p < w.heap.size := block_lt hp
 clear hp
 replace hS := hS.alloc #[.bool s,.slice a n cap,.int .i64 x] 33
 obtain ⟨⟨ya,yb,yc,-⟩,⟨yd,ye,yf,yg,yh,-⟩,-⟩ := hS.cells
 go_wp2_with fail
 refine wp_region_any (by kernel_rfl) ?_
 refine wpAny_det [some (9,.pointer (some ⟨p,0,none⟩)),some (10,.pointer (some ⟨p,0,none⟩)),some (11,.pointer (some ⟨p,2,none⟩)),some (12,.int .u64 b),some (13,.pointer (some ⟨p,0,none⟩)),some (14,.pointer (some ⟨p,0,none⟩)),some (15,.pointer (some ⟨p,0,none⟩)),some (16,.agg #[.int .i64 E,.int .i64 F]),some (17,.int .u64 S),some (18,.bool neg),some (5,.bool neg)]
  (fun _ W9 => Fs w W9 [⟨w.heap.size,#[.bool s,.slice a n cap,.int .i64 x],33⟩,⟨p,#[.int .i64 E,.int .i64 F,.int .u64 b,.int .u8 md,.int .i64 0],109⟩]) _ _ rfl (by kernel_rfl) rfl rfl ?_ ?_ (hS).drew
 ·intro l9 t9 W9 i9 hD hi9 hl9 hM
  obtain ⟨o9,ho9,hd9⟩ := (mem_ready.1 hi9).2
  have hin9 : i9 < 11 := by
   by_cases h : i9 < 11
   ·exact h
   ·rw [Array.getElem?_eq_none (by rw [hD.len]; simp; omega)] at hl9; cases hl9
  have hcase : i9 = 0 ∨ i9 = 1 ∨ i9 = 2 ∨ i9 = 3 ∨ i9 = 4 ∨ i9 = 5 ∨ i9 = 6 ∨ i9 = 7 ∨ i9 = 8 ∨ i9 = 9 ∨ i9 = 10 := by omega
  clear hin9
  rcases hcase with rfl | rfl | rfl | rfl | rfl | rfl | rfl | rfl | rfl | rfl | rfl
  ·cases ho9
   have r0 := hD.old 0 _ rfl rfl
   refine wpOp_step rfl fun K hK => ?_
   go_simp
   exact hK _ _ ⟨rfl,hM⟩
  ·cases ho9
   have r9 := hD.od hd9 0 9 _ rfl (by simp)
   refine wpOp_step rfl fun K hK => ?_
   go_simp
   exact hK _ _ ⟨rfl,hM⟩
  ·cases ho9
   have r10 := hD.od hd9 1 10 _ rfl (by simp)
   refine wpOp_step rfl fun K hK => ?_
   go_simp
   exact hK _ _ ⟨rfl,hM⟩
  ·cases ho9
   have r11 := hD.od hd9 2 11 _ rfl (by simp)
   have hM0 := hM
   have c9_0 := hM0.cellAt (b := p) (cs := #[.int .i64 E,.int .i64 F,.int .u64 b,.int .u8 md,.int .i64 0]) (t := 109) (by simp) 2 _ rfl
   clear hM0
   refine wpOp_step rfl fun K hK => ?_
   go_simp
   exact hK _ _ ⟨rfl,hM⟩
  ·cases ho9
   have r0 := hD.old 0 _ rfl rfl
   refine wpOp_step rfl fun K hK => ?_
   go_simp
   exact hK _ _ ⟨rfl,hM⟩
  ·cases ho9
   have r13 := hD.od hd9 4 13 _ rfl (by simp)
   refine wpOp_step rfl fun K hK => ?_
   go_simp
   exact hK _ _ ⟨rfl,hM⟩
  ·cases ho9
   have r14 := hD.od hd9 5 14 _ rfl (by simp)
   refine wpOp_step rfl fun K hK => ?_
   go_simp
   exact hK _ _ ⟨rfl,hM⟩
  ·cases ho9
   have r15 := hD.od hd9 6 15 _ rfl (by simp)
   have hM0 := hM
   have Q_ := hM0.cellAt (b := p) (cs := #[.int .i64 E,.int .i64 F,.int .u64 b,.int .u8 md,.int .i64 0]) (t := 109) (by simp)
   have c9_0 := Q_ 0 _ rfl
   have c9_1 := Q_ 1 _ rfl
   clear Q_
   clear hM0
   refine wpOp_step rfl fun K hK => ?_
   go_simp
   exact hK _ _ ⟨rfl,hM⟩
  ·cases ho9
   have r16 := hD.od hd9 7 16 _ rfl (by simp)
   refine wpOp_step rfl fun K hK => ?_
   go_simp
   go_wp2_with fail
   refine (HB _).mono ?_
   rintro en w9 ⟨rfl,hb9⟩
   exact hK _ _ ⟨rfl,hM.kept hb9⟩
  ·cases ho9
   have r12 := hD.od hd9 3 12 _ rfl (by simp)
   have r17 := hD.od hd9 8 17 _ rfl (by simp)
   refine wpOp_step rfl fun K hK => ?_
   go_simp
   exact hK _ _ ⟨act_eq (by first | rfl | (rw [← hs]; rfl) | simp [← hs]),hM⟩
  ·cases ho9
   have r18 := hD.od hd9 9 18 _ rfl (by simp)
   refine wpOp_step rfl fun K hK => ?_
   go_simp
   exact hK _ _ ⟨rfl,hM⟩
 ·intro l9 W9 hl9 hM
  clear hS ya yb yc yd ye yf yg yh
  have hS := hM
  clear hM
  simp only [Puts.lay,List.setIfInBounds_toArray,List.set_cons_zero,List.set_cons_succ]
  obtain ⟨⟨yi,yj,yk,-⟩,⟨yl,ym,yn,yo,yp,-⟩,-⟩ := hS.cells
  go_wp2_with fail
  refine wp_region_any (by kernel_rfl) ?_
  refine wpAny_det [some (20,.pointer (some ⟨p,0,none⟩)),some (21,.pointer (some ⟨p,0,none⟩)),some (22,.pointer (some ⟨p,0,none⟩)),some (23,.agg #[.int .i64 E,.int .i64 F]),some (24,.agg #[.bool s,.slice a n cap,.int .i64 x]),some (25,.bool neg),some (26,.pointer (some ⟨p,0,none⟩)),some (27,.pointer (some ⟨p,0,none⟩)),some (28,.pointer (some ⟨p,3,none⟩)),some (29,.int .u8 md),some (30,.tuple #[.int .u64 gb,.int .u8 fl,.int .i64 0]),some (19,.tuple #[.int .u64 gb,.int .u8 fl,.int .i64 0]),some (31,.int .u64 gb),some (32,.int .u8 fl),some (33,.int .i64 0),some (6,.int .u64 gb),some (7,.int .u8 fl),some (8,.int .i64 0)]
   (fun _ W9 => Fs w W9 [⟨w.heap.size,#[.bool s,.slice a n cap,.int .i64 x],33⟩,⟨p,#[.int .i64 E,.int .i64 F,.int .u64 b,.int .u8 md,.int .i64 0],109⟩]) _ _ rfl (by kernel_rfl) rfl rfl ?_ ?_ (hS).drew
  ·intro l9 t9 W9 i9 hD hi9 hl9 hM
   obtain ⟨o9,ho9,hd9⟩ := (mem_ready.1 hi9).2
   have hin9 : i9 < 18 := by
    by_cases h : i9 < 18
    ·exact h
    ·rw [Array.getElem?_eq_none (by rw [hD.len]; simp; omega)] at hl9; cases hl9
   have hcase : i9 = 0 ∨ i9 = 1 ∨ i9 = 2 ∨ i9 = 3 ∨ i9 = 4 ∨ i9 = 5 ∨ i9 = 6 ∨ i9 = 7 ∨ i9 = 8 ∨ i9 = 9 ∨ i9 = 10 ∨ i9 = 11 ∨ i9 = 12 ∨ i9 = 13 ∨ i9 = 14 ∨ i9 = 15 ∨ i9 = 16 ∨ i9 = 17 := by omega
   clear hin9
   rcases hcase with rfl | rfl | rfl | rfl | rfl | rfl | rfl | rfl | rfl | rfl | rfl | rfl | rfl | rfl | rfl | rfl | rfl | rfl
   ·cases ho9
    have r0 := hD.old 0 _ rfl rfl
    refine wpOp_step rfl fun K hK => ?_
    go_simp
    exact hK _ _ ⟨rfl,hM⟩
   ·cases ho9
    have r20 := hD.od hd9 0 20 _ rfl (by simp)
    refine wpOp_step rfl fun K hK => ?_
    go_simp
    exact hK _ _ ⟨rfl,hM⟩
   ·cases ho9
    have r21 := hD.od hd9 1 21 _ rfl (by simp)
    refine wpOp_step rfl fun K hK => ?_
    go_simp
    exact hK _ _ ⟨rfl,hM⟩
   ·cases ho9
    have r22 := hD.od hd9 2 22 _ rfl (by simp)
    have hM0 := hM
    have Q_ := hM0.cellAt (b := p) (cs := #[.int .i64 E,.int .i64 F,.int .u64 b,.int .u8 md,.int .i64 0]) (t := 109) (by simp)
    have c9_0 := Q_ 0 _ rfl
    have c9_1 := Q_ 1 _ rfl
    clear Q_
    clear hM0
    refine wpOp_step rfl fun K hK => ?_
    go_simp
    exact hK _ _ ⟨rfl,hM⟩
   ·cases ho9
    have r3 := hD.old 3 _ rfl rfl
    have hM0 := hM
    have Q_ := hM0.cellAt (b := w.heap.size) (cs := #[.bool s,.slice a n cap,.int .i64 x]) (t := 33) (by simp)
    have c9_0 := Q_ 0 _ rfl
    have c9_1 := Q_ 1 _ rfl
    have c9_2 := Q_ 2 _ rfl
    clear Q_
    clear hM0
    refine wpOp_step rfl fun K hK => ?_
    go_simp
    exact hK _ _ ⟨rfl,hM⟩
   ·cases ho9
    have r5 := hD.old 5 _ rfl rfl
    refine wpOp_step rfl fun K hK => ?_
    go_simp
    exact hK _ _ ⟨rfl,hM⟩
   ·cases ho9
    have r0 := hD.old 0 _ rfl rfl
    refine wpOp_step rfl fun K hK => ?_
    go_simp
    exact hK _ _ ⟨rfl,hM⟩
   ·cases ho9
    have r26 := hD.od hd9 6 26 _ rfl (by simp)
    refine wpOp_step rfl fun K hK => ?_
    go_simp
    exact hK _ _ ⟨rfl,hM⟩
   ·cases ho9
    have r27 := hD.od hd9 7 27 _ rfl (by simp)
    refine wpOp_step rfl fun K hK => ?_
    go_simp
    exact hK _ _ ⟨rfl,hM⟩
   ·cases ho9
    have r28 := hD.od hd9 8 28 _ rfl (by simp)
    have hM0 := hM
    have c9_0 := hM0.cellAt (b := p) (cs := #[.int .i64 E,.int .i64 F,.int .u64 b,.int .u8 md,.int .i64 0]) (t := 109) (by simp) 3 _ rfl
    clear hM0
    refine wpOp_step rfl fun K hK => ?_
    go_simp
    exact hK _ _ ⟨rfl,hM⟩
   ·cases ho9
    have r23 := hD.od hd9 3 23 _ rfl (by simp)
    have r24 := hD.od hd9 4 24 _ rfl (by simp)
    have r25 := hD.od hd9 5 25 _ rfl (by simp)
    have r29 := hD.od hd9 9 29 _ rfl (by simp)
    refine wpOp_step rfl fun K hK => ?_
    go_simp
    go_wp2_with fail
    refine (unhide HD _ _ _ _ _ ((unhide H).kept hM.fr)).mono ?_
    rintro en w9 ⟨rfl,hb9⟩
    exact hK _ _ ⟨rfl,hM.kept hb9⟩
   ·cases ho9
    have r30 := hD.od hd9 10 30 _ rfl (by simp)
    refine wpOp_step rfl fun K hK => ?_
    go_simp
    exact hK _ _ ⟨rfl,hM⟩
   ·cases ho9
    have r19 := hD.od hd9 11 19 _ rfl (by simp)
    refine wpOp_step rfl fun K hK => ?_
    go_simp
    exact hK _ _ ⟨rfl,hM⟩
   ·cases ho9
    have r19 := hD.od hd9 11 19 _ rfl (by simp)
    refine wpOp_step rfl fun K hK => ?_
    go_simp
    exact hK _ _ ⟨rfl,hM⟩
   ·cases ho9
    have r19 := hD.od hd9 11 19 _ rfl (by simp)
    refine wpOp_step rfl fun K hK => ?_
    go_simp
    exact hK _ _ ⟨rfl,hM⟩
   ·cases ho9
    have r31 := hD.od hd9 12 31 _ rfl (by simp)
    refine wpOp_step rfl fun K hK => ?_
    go_simp
    exact hK _ _ ⟨rfl,hM⟩
   ·cases ho9
    have r32 := hD.od hd9 13 32 _ rfl (by simp)
    refine wpOp_step rfl fun K hK => ?_
    go_simp
    exact hK _ _ ⟨rfl,hM⟩
   ·cases ho9
    have r33 := hD.od hd9 14 33 _ rfl (by simp)
    refine wpOp_step rfl fun K hK => ?_
    go_simp
    exact hK _ _ ⟨rfl,hM⟩
  ·intro l9 W9 hl9 hM
   clear hS yi yj yk yl ym yn yo yp
   have hS := hM
   clear hM
   simp only [Puts.lay,List.setIfInBounds_toArray,List.set_cons_zero,List.set_cons_succ]
   obtain ⟨⟨yq,yr,ys,-⟩,⟨yt,yu,yv,yw,yx,-⟩,-⟩ := hS.cells
   go_wp2_with fail
   refine (keep_0 p 4 _ ((unhide HR).kept hS.fr)).mono ?_
   rintro e w1 ⟨rfl,hb1⟩
   replace hS := hS.kept hb1
   clear yq yr ys yt yu yv yw yx
   obtain ⟨⟨yy,yz,y0,-⟩,⟨y1,y2,y3,y4,y5,-⟩,-⟩ := hS.cells
   go_wp2
   go_ret
   exact ⟨rfl,hS.fr⟩
theorem has_eq (E F b : Int) (p : Nat) (md : Int) (s : Bool) (a : Option Addr) (n cap m : Nat) (x : Int) (neg : Bool) (S gb fl : Int) (w : World) (B : Nat) (h : Mine w B a n cap m) (hp : w.heap[p]? = some (.cells #[.int .i64 E,.int .i64 F,.int .u64 b,.int .u8 md,.int .i64 0] 109 (0,0))) (hs : decide (S ≤ b) = neg) (HB : Tel 120 #[.agg #[.int .i64 E,.int .i64 F]] (.int .u64 S)) (HD : Hid (∀ (W : World) (B : Nat) (A : Option Addr) (N C : Nat),Mine W B A N C m → Calls Tryz.prog 134 #[.agg #[.int .i64 E,.int .i64 F],.agg #[.bool s,.slice A N C,.int .i64 x],.bool neg,.int .u8 md] W fun e w' => e = .returned (.tuple #[.int .u64 gb,.int .u8 fl,.int .i64 0]) ∧ Below W.heap.size W w')) (hq : gb = b) (r : Bool) (hf : (Go.bits .and .u8 fl 2 == (0 : Int)) = r) :
  Calls Tryz.prog 75 #[.pointer (some ⟨p,0,none⟩),.agg #[.bool s,.slice a n cap,.int .i64 x]] w fun e w' => e = .returned (.bool r) ∧ Below w.heap.size w w' := by
 have H := hide h
 clear h
 subst hq
 go_enter Tryz.func75,Tryz.ntmps75
 have HR : Hid (Rn w p 4) := hide ⟨_,_,hp,rfl⟩
 have hS : Fs w w [⟨p,#[.int .i64 E,.int .i64 F,.int .u64 gb,.int .u8 md,.int .i64 0],109⟩] := ⟨fun x hx => by rcases List.mem_cons.1 hx with rfl | hx; exact hp; exact absurd hx List.not_mem_nil,Below.refl _ _⟩
 have hlt0 : p < w.heap.size := block_lt hp
 clear hp
 replace hS := hS.alloc #[.bool s,.slice a n cap,.int .i64 x] 33
 obtain ⟨⟨ya,yb,yc,-⟩,⟨yd,ye,yf,yg,yh,-⟩,-⟩ := hS.cells
 go_wp2_with fail
 refine wp_region_any (by kernel_rfl) ?_
 refine wpAny_det [some (9,.pointer (some ⟨p,0,none⟩)),some (10,.pointer (some ⟨p,0,none⟩)),some (11,.pointer (some ⟨p,2,none⟩)),some (12,.int .u64 gb),some (13,.pointer (some ⟨p,0,none⟩)),some (14,.pointer (some ⟨p,0,none⟩)),some (15,.pointer (some ⟨p,0,none⟩)),some (16,.agg #[.int .i64 E,.int .i64 F]),some (17,.int .u64 S),some (18,.bool neg),some (5,.bool neg)]
  (fun _ W9 => Fs w W9 [⟨w.heap.size,#[.bool s,.slice a n cap,.int .i64 x],33⟩,⟨p,#[.int .i64 E,.int .i64 F,.int .u64 gb,.int .u8 md,.int .i64 0],109⟩]) _ _ rfl (by kernel_rfl) rfl rfl ?_ ?_ (hS).drew
 ·intro l9 t9 W9 i9 hD hi9 hl9 hM
  obtain ⟨o9,ho9,hd9⟩ := (mem_ready.1 hi9).2
  have hin9 : i9 < 11 := by
   by_cases h : i9 < 11
   ·exact h
   ·rw [Array.getElem?_eq_none (by rw [hD.len]; simp; omega)] at hl9; cases hl9
  have hcase : i9 = 0 ∨ i9 = 1 ∨ i9 = 2 ∨ i9 = 3 ∨ i9 = 4 ∨ i9 = 5 ∨ i9 = 6 ∨ i9 = 7 ∨ i9 = 8 ∨ i9 = 9 ∨ i9 = 10 := by omega
  clear hin9
  rcases hcase with rfl | rfl | rfl | rfl | rfl | rfl | rfl | rfl | rfl | rfl | rfl
  ·cases ho9
   have r0 := hD.old 0 _ rfl rfl
   refine wpOp_step rfl fun K hK => ?_
   go_simp
   exact hK _ _ ⟨rfl,hM⟩
  ·cases ho9
   have r9 := hD.od hd9 0 9 _ rfl (by simp)
   refine wpOp_step rfl fun K hK => ?_
   go_simp
   exact hK _ _ ⟨rfl,hM⟩
  ·cases ho9
   have r10 := hD.od hd9 1 10 _ rfl (by simp)
   refine wpOp_step rfl fun K hK => ?_
   go_simp
   exact hK _ _ ⟨rfl,hM⟩
  ·cases ho9
   have r11 := hD.od hd9 2 11 _ rfl (by simp)
   have hM0 := hM
   have c9_0 := hM0.cellAt (b := p) (cs := #[.int .i64 E,.int .i64 F,.int .u64 gb,.int .u8 md,.int .i64 0]) (t := 109) (by simp) 2 _ rfl
   clear hM0
   refine wpOp_step rfl fun K hK => ?_
   go_simp
   exact hK _ _ ⟨rfl,hM⟩
  ·cases ho9
   have r0 := hD.old 0 _ rfl rfl
   refine wpOp_step rfl fun K hK => ?_
   go_simp
   exact hK _ _ ⟨rfl,hM⟩
  ·cases ho9
   have r13 := hD.od hd9 4 13 _ rfl (by simp)
   refine wpOp_step rfl fun K hK => ?_
   go_simp
   exact hK _ _ ⟨rfl,hM⟩
  ·cases ho9
   have r14 := hD.od hd9 5 14 _ rfl (by simp)
   refine wpOp_step rfl fun K hK => ?_
   go_simp
   exact hK _ _ ⟨rfl,hM⟩
  ·cases ho9
   have r15 := hD.od hd9 6 15 _ rfl (by simp)
   have hM0 := hM
   have Q_ := hM0.cellAt (b := p) (cs := #[.int .i64 E,.int .i64 F,.int .u64 gb,.int .u8 md,.int .i64 0]) (t := 109) (by simp)
   have c9_0 := Q_ 0 _ rfl
   have c9_1 := Q_ 1 _ rfl
   clear Q_
   clear hM0
   refine wpOp_step rfl fun K hK => ?_
   go_simp
   exact hK _ _ ⟨rfl,hM⟩
  ·cases ho9
   have r16 := hD.od hd9 7 16 _ rfl (by simp)
   refine wpOp_step rfl fun K hK => ?_
   go_simp
   go_wp2_with fail
   refine (HB _).mono ?_
   rintro en w9 ⟨rfl,hb9⟩
   exact hK _ _ ⟨rfl,hM.kept hb9⟩
  ·cases ho9
   have r12 := hD.od hd9 3 12 _ rfl (by simp)
   have r17 := hD.od hd9 8 17 _ rfl (by simp)
   refine wpOp_step rfl fun K hK => ?_
   go_simp
   exact hK _ _ ⟨act_eq (by first | rfl | (rw [← hs]; rfl) | simp [← hs]),hM⟩
  ·cases ho9
   have r18 := hD.od hd9 9 18 _ rfl (by simp)
   refine wpOp_step rfl fun K hK => ?_
   go_simp
   exact hK _ _ ⟨rfl,hM⟩
 ·intro l9 W9 hl9 hM
  clear hS ya yb yc yd ye yf yg yh
  have hS := hM
  clear hM
  simp only [Puts.lay,List.setIfInBounds_toArray,List.set_cons_zero,List.set_cons_succ]
  obtain ⟨⟨yi,yj,yk,-⟩,⟨yl,ym,yn,yo,yp,-⟩,-⟩ := hS.cells
  go_wp2_with fail
  refine wp_region_any (by kernel_rfl) ?_
  refine wpAny_det [some (20,.pointer (some ⟨p,0,none⟩)),some (21,.pointer (some ⟨p,0,none⟩)),some (22,.pointer (some ⟨p,0,none⟩)),some (23,.agg #[.int .i64 E,.int .i64 F]),some (24,.agg #[.bool s,.slice a n cap,.int .i64 x]),some (25,.bool neg),some (26,.pointer (some ⟨p,0,none⟩)),some (27,.pointer (some ⟨p,0,none⟩)),some (28,.pointer (some ⟨p,3,none⟩)),some (29,.int .u8 md),some (30,.tuple #[.int .u64 gb,.int .u8 fl,.int .i64 0]),some (19,.tuple #[.int .u64 gb,.int .u8 fl,.int .i64 0]),some (31,.int .u64 gb),some (32,.int .u8 fl),some (33,.int .i64 0),some (6,.int .u64 gb),some (7,.int .u8 fl),some (8,.int .i64 0)]
   (fun _ W9 => Fs w W9 [⟨w.heap.size,#[.bool s,.slice a n cap,.int .i64 x],33⟩,⟨p,#[.int .i64 E,.int .i64 F,.int .u64 gb,.int .u8 md,.int .i64 0],109⟩]) _ _ rfl (by kernel_rfl) rfl rfl ?_ ?_ (hS).drew
  ·intro l9 t9 W9 i9 hD hi9 hl9 hM
   obtain ⟨o9,ho9,hd9⟩ := (mem_ready.1 hi9).2
   have hin9 : i9 < 18 := by
    by_cases h : i9 < 18
    ·exact h
    ·rw [Array.getElem?_eq_none (by rw [hD.len]; simp; omega)] at hl9; cases hl9
   have hcase : i9 = 0 ∨ i9 = 1 ∨ i9 = 2 ∨ i9 = 3 ∨ i9 = 4 ∨ i9 = 5 ∨ i9 = 6 ∨ i9 = 7 ∨ i9 = 8 ∨ i9 = 9 ∨ i9 = 10 ∨ i9 = 11 ∨ i9 = 12 ∨ i9 = 13 ∨ i9 = 14 ∨ i9 = 15 ∨ i9 = 16 ∨ i9 = 17 := by omega
   clear hin9
   rcases hcase with rfl | rfl | rfl | rfl | rfl | rfl | rfl | rfl | rfl | rfl | rfl | rfl | rfl | rfl | rfl | rfl | rfl | rfl
   ·cases ho9
    have r0 := hD.old 0 _ rfl rfl
    refine wpOp_step rfl fun K hK => ?_
    go_simp
    exact hK _ _ ⟨rfl,hM⟩
   ·cases ho9
    have r20 := hD.od hd9 0 20 _ rfl (by simp)
    refine wpOp_step rfl fun K hK => ?_
    go_simp
    exact hK _ _ ⟨rfl,hM⟩
   ·cases ho9
    have r21 := hD.od hd9 1 21 _ rfl (by simp)
    refine wpOp_step rfl fun K hK => ?_
    go_simp
    exact hK _ _ ⟨rfl,hM⟩
   ·cases ho9
    have r22 := hD.od hd9 2 22 _ rfl (by simp)
    have hM0 := hM
    have Q_ := hM0.cellAt (b := p) (cs := #[.int .i64 E,.int .i64 F,.int .u64 gb,.int .u8 md,.int .i64 0]) (t := 109) (by simp)
    have c9_0 := Q_ 0 _ rfl
    have c9_1 := Q_ 1 _ rfl
    clear Q_
    clear hM0
    refine wpOp_step rfl fun K hK => ?_
    go_simp
    exact hK _ _ ⟨rfl,hM⟩
   ·cases ho9
    have r3 := hD.old 3 _ rfl rfl
    have hM0 := hM
    have Q_ := hM0.cellAt (b := w.heap.size) (cs := #[.bool s,.slice a n cap,.int .i64 x]) (t := 33) (by simp)
    have c9_0 := Q_ 0 _ rfl
    have c9_1 := Q_ 1 _ rfl
    have c9_2 := Q_ 2 _ rfl
    clear Q_
    clear hM0
    refine wpOp_step rfl fun K hK => ?_
    go_simp
    exact hK _ _ ⟨rfl,hM⟩
   ·cases ho9
    have r5 := hD.old 5 _ rfl rfl
    refine wpOp_step rfl fun K hK => ?_
    go_simp
    exact hK _ _ ⟨rfl,hM⟩
   ·cases ho9
    have r0 := hD.old 0 _ rfl rfl
    refine wpOp_step rfl fun K hK => ?_
    go_simp
    exact hK _ _ ⟨rfl,hM⟩
   ·cases ho9
    have r26 := hD.od hd9 6 26 _ rfl (by simp)
    refine wpOp_step rfl fun K hK => ?_
    go_simp
    exact hK _ _ ⟨rfl,hM⟩
   ·cases ho9
    have r27 := hD.od hd9 7 27 _ rfl (by simp)
    refine wpOp_step rfl fun K hK => ?_
    go_simp
    exact hK _ _ ⟨rfl,hM⟩
   ·cases ho9
    have r28 := hD.od hd9 8 28 _ rfl (by simp)
    have hM0 := hM
    have c9_0 := hM0.cellAt (b := p) (cs := #[.int .i64 E,.int .i64 F,.int .u64 gb,.int .u8 md,.int .i64 0]) (t := 109) (by simp) 3 _ rfl
    clear hM0
    refine wpOp_step rfl fun K hK => ?_
    go_simp
    exact hK _ _ ⟨rfl,hM⟩
   ·cases ho9
    have r23 := hD.od hd9 3 23 _ rfl (by simp)
    have r24 := hD.od hd9 4 24 _ rfl (by simp)
    have r25 := hD.od hd9 5 25 _ rfl (by simp)
    have r29 := hD.od hd9 9 29 _ rfl (by simp)
    refine wpOp_step rfl fun K hK => ?_
    go_simp
    go_wp2_with fail
    refine (unhide HD _ _ _ _ _ ((unhide H).kept hM.fr)).mono ?_
    rintro en w9 ⟨rfl,hb9⟩
    exact hK _ _ ⟨rfl,hM.kept hb9⟩
   ·cases ho9
    have r30 := hD.od hd9 10 30 _ rfl (by simp)
    refine wpOp_step rfl fun K hK => ?_
    go_simp
    exact hK _ _ ⟨rfl,hM⟩
   ·cases ho9
    have r19 := hD.od hd9 11 19 _ rfl (by simp)
    refine wpOp_step rfl fun K hK => ?_
    go_simp
    exact hK _ _ ⟨rfl,hM⟩
   ·cases ho9
    have r19 := hD.od hd9 11 19 _ rfl (by simp)
    refine wpOp_step rfl fun K hK => ?_
    go_simp
    exact hK _ _ ⟨rfl,hM⟩
   ·cases ho9
    have r19 := hD.od hd9 11 19 _ rfl (by simp)
    refine wpOp_step rfl fun K hK => ?_
    go_simp
    exact hK _ _ ⟨rfl,hM⟩
   ·cases ho9
    have r31 := hD.od hd9 12 31 _ rfl (by simp)
    refine wpOp_step rfl fun K hK => ?_
    go_simp
    exact hK _ _ ⟨rfl,hM⟩
   ·cases ho9
    have r32 := hD.od hd9 13 32 _ rfl (by simp)
    refine wpOp_step rfl fun K hK => ?_
    go_simp
    exact hK _ _ ⟨rfl,hM⟩
   ·cases ho9
    have r33 := hD.od hd9 14 33 _ rfl (by simp)
    refine wpOp_step rfl fun K hK => ?_
    go_simp
    exact hK _ _ ⟨rfl,hM⟩
  ·intro l9 W9 hl9 hM
   clear hS yi yj yk yl ym yn yo yp
   have hS := hM
   clear hM
   simp only [Puts.lay,List.setIfInBounds_toArray,List.set_cons_zero,List.set_cons_succ]
   obtain ⟨⟨yq,yr,ys,-⟩,⟨yt,yu,yv,yw,yx,-⟩,-⟩ := hS.cells
   go_wp2_with fail
   refine (keep_0 p 4 _ ((unhide HR).kept hS.fr)).mono ?_
   rintro e w1 ⟨rfl,hb1⟩
   replace hS := hS.kept hb1
   clear yq yr ys yt yu yv yw yx
   obtain ⟨⟨yy,yz,y0,-⟩,⟨y1,y2,y3,y4,y5,-⟩,-⟩ := hS.cells
   go_wp2
   go_ret
   exact ⟨by rw [← hf]; rfl,hS.fr⟩
theorem worth_fin (E F b b' : Int) (md : Int) (p : Nat) (s : Bool) (m : Nat) (x : Int) (c : Int) (w : World) (hT : Tb w) (hp : w.heap[p]? = some (.cells #[.int .i64 E,.int .i64 F,.int .u64 b,.int .u8 md,.int .i64 0] 109 (0,0))) (hc : (c != (4 : Int)) = true) (HC : Tel 37 #[.agg #[.int .i64 E,.int .i64 F],.int .u64 b'] (.tuple #[.int .u8 c,.int .i64 0])) (HV : Hid (Vals E F b' s m x)) :
  Calls Tryz.prog 130 #[.pointer (some ⟨p,0,none⟩),.int .u64 b',.int .i64 0] w fun e w' => (∃ A N C,e = .returned (.agg #[.bool s,.slice A N C,.int .i64 x]) ∧ Mine w' w.heap.size A N C m) ∧ Below w.heap.size w w' := by
 have HT := hide hT
 clear hT
 go_enter Tryz.func130,Tryz.ntmps130
 have HR : Hid (Rn w p 4) := hide ⟨_,_,hp,rfl⟩
 have hS : Fs w w [⟨p,#[.int .i64 E,.int .i64 F,.int .u64 b,.int .u8 md,.int .i64 0],109⟩] := ⟨fun x hx => by rcases List.mem_cons.1 hx with rfl | hx; exact hp; exact absurd hx List.not_mem_nil,Below.refl _ _⟩
 have hlt0 : p < w.heap.size := block_lt hp
 clear hp
 replace hS := hS.alloc #[.bool false,.slice none 0 0,.int .i64 0] 33
 obtain ⟨⟨ya,yb,yc,-⟩,⟨yd,ye,yf,yg,yh,-⟩,-⟩ := hS.cells
 go_wp2_with fail
 refine (keep_0 p 4 _ ((unhide HR).kept hS.fr)).mono ?_
 rintro e w1 ⟨rfl,hb1⟩
 replace hS := hS.kept hb1
 clear ya yb yc yd ye yf yg yh
 obtain ⟨⟨yi,yj,yk,-⟩,⟨yl,ym,yn,yo,yp,-⟩,-⟩ := hS.cells
 go_wp2_with fail
 refine (HC _).mono ?_
 rintro e w2 ⟨rfl,hb2⟩
 replace hS := hS.kept hb2
 clear yi yj yk yl ym yn yo yp
 obtain ⟨⟨yq,yr,ys,-⟩,⟨yt,yu,yv,yw,yx,-⟩,-⟩ := hS.cells
 go_wp2_with fail
 refine (keep_0 p 4 _ ((unhide HR).kept hS.fr)).mono ?_
 rintro e w3 ⟨rfl,hb3⟩
 replace hS := hS.kept hb3
 clear yq yr ys yt yu yv yw yx
 obtain ⟨⟨yy,yz,y0,-⟩,⟨y1,y2,y3,y4,y5,-⟩,-⟩ := hS.cells
 have hltw3_0 : w.heap.size < w3.heap.size := hS.lt 0 rfl
 have hltw3_1 : p < w3.heap.size := hS.lt 1 rfl
 go_wp2_with fail
 have hS3s : w.heap.size ≤ w3.heap.size := hS.size
 have hs9 : ∀ x9 : Nat × (Pk → World → Prop),x9 ∈ ([(8,fun q W => Mine W (w.heap.size + 1) q.A q.N q.C (m))] : List (Nat × (Pk → World → Prop))) → ∀ q9 : Pk,St (w.heap.size + 1) (x9.2 q9) := by
  intro x hx q
  simp only [List.mem_cons,List.not_mem_nil,or_false] at hx
  rcases hx with rfl
  ·exact st_mine _ _ _ _ _
 have h09 : ∀ x9 : Nat × (Pk → World → Prop),x9 ∈ ([(8,fun q W => Mine W (w.heap.size + 1) q.A q.N q.C (m))] : List (Nat × (Pk → World → Prop))) → 13 ≤ x9.1 → x9.2 ⟨none,0,0⟩ w3 := by
  intro x hx hn9
  simp only [List.mem_cons,List.not_mem_nil,or_false] at hx
  rcases hx with rfl
  ·exact absurd hn9 (by simp)
 refine wp_region_any (by kernel_rfl) ?_
 refine wpAny_pick (fun p9 => [some (31,.pointer (some ⟨p,0,none⟩)),some (32,.pointer (some ⟨p,0,none⟩)),some (33,.pointer (some ⟨p,4,none⟩)),some (34,.pointer (some ⟨p,0,none⟩)),some (35,.pointer (some ⟨p,0,none⟩)),some (36,.pointer (some ⟨p,0,none⟩)),some (37,.agg #[.int .i64 E,.int .i64 F]),some (38,.int .u64 b'),some (39,.tuple #[.agg #[.bool s,.slice (p9 8).A (p9 8).N (p9 8).C,.int .i64 x],.int .i64 0]),some (40,.agg #[.bool s,.slice (p9 8).A (p9 8).N (p9 8).C,.int .i64 x]),some (41,.int .i64 0),some (42,.agg #[.bool s,.slice (p9 8).A (p9 8).N (p9 8).C,.int .i64 x]),none])
  (fun p9 l9 W9 => Pm w (w.heap.size + 1) [(8,fun q W => Mine W (w.heap.size + 1) q.A q.N q.C (m))] p9 l9 W9 (pickBs l9 [(12,[⟨w.heap.size,#[.bool s,.slice (p9 8).A (p9 8).N (p9 8).C,.int .i64 x],33⟩,⟨p,#[.int .i64 E,.int .i64 F,.int .u64 b,.int .u8 md,.int .i64 0],109⟩])] [⟨w.heap.size,#[.bool false,.slice none 0 0,.int .i64 0],33⟩,⟨p,#[.int .i64 E,.int .i64 F,.int .u64 b,.int .u8 md,.int .i64 0],109⟩])) _ _ (fun _ => rfl) (by kernel_rfl) (fun _ => rfl) (fun _ => rfl) ?_ ?_ (fun _ => ⟨none,0,0⟩) (Pm.start2 hS _ _ _ (by omega) hs9 h09)
 ·intro p9 l9 t9 W9 i9 hD hi9 hl9 hM
  obtain ⟨o9,ho9,hd9⟩ := (mem_ready.1 hi9).2
  have hin9 : i9 < 13 := by
   by_cases h : i9 < 13
   ·exact h
   ·rw [Array.getElem?_eq_none (by rw [hD.len]; simp; omega)] at hl9; cases hl9
  have hcase : i9 = 0 ∨ i9 = 1 ∨ i9 = 2 ∨ i9 = 3 ∨ i9 = 4 ∨ i9 = 5 ∨ i9 = 6 ∨ i9 = 7 ∨ i9 = 8 ∨ i9 = 9 ∨ i9 = 10 ∨ i9 = 11 ∨ i9 = 12 := by omega
  clear hin9
  rcases hcase with rfl | rfl | rfl | rfl | rfl | rfl | rfl | rfl | rfl | rfl | rfl | rfl | rfl
  ·cases ho9
   have r0 := hD.old 0 _ rfl rfl
   refine wpOp_step rfl fun K hK => ?_
   go_simp
   exact hK _ _ ⟨p9,fun _ _ => rfl,rfl,(Pm.keepM rfl (hM.val rfl))⟩
  ·cases ho9
   have r31 := hD.od hd9 0 31 _ rfl (by simp)
   refine wpOp_step rfl fun K hK => ?_
   go_simp
   exact hK _ _ ⟨p9,fun _ _ => rfl,rfl,(Pm.keepM rfl (hM.val rfl))⟩
  ·cases ho9
   have r32 := hD.od hd9 1 32 _ rfl (by simp)
   refine wpOp_step rfl fun K hK => ?_
   go_simp
   exact hK _ _ ⟨p9,fun _ _ => rfl,rfl,(Pm.keepM rfl (hM.val rfl))⟩
  ·cases ho9
   have r0 := hD.old 0 _ rfl rfl
   refine wpOp_step rfl fun K hK => ?_
   go_simp
   exact hK _ _ ⟨p9,fun _ _ => rfl,rfl,(Pm.keepM rfl (hM.val rfl))⟩
  ·cases ho9
   have r34 := hD.od hd9 3 34 _ rfl (by simp)
   refine wpOp_step rfl fun K hK => ?_
   go_simp
   exact hK _ _ ⟨p9,fun _ _ => rfl,rfl,(Pm.keepM rfl (hM.val rfl))⟩
  ·cases ho9
   have r35 := hD.od hd9 4 35 _ rfl (by simp)
   refine wpOp_step rfl fun K hK => ?_
   go_simp
   exact hK _ _ ⟨p9,fun _ _ => rfl,rfl,(Pm.keepM rfl (hM.val rfl))⟩
  ·cases ho9
   have r36 := hD.od hd9 5 36 _ rfl (by simp)
   have hM0 : Fs w W9 [⟨w.heap.size,#[.bool false,.slice none 0 0,.int .i64 0],33⟩,⟨p,#[.int .i64 E,.int .i64 F,.int .u64 b,.int .u8 md,.int .i64 0],109⟩] := by
    have hM1 := hM.st
    simp only [pickBs] at hM1
    rw [if_neg (hD.waits 6 12 _ ⟨6,.phase⟩ hl9 rfl (by simp) rfl rfl)] at hM1
    exact hM1
   have Q_ := hM0.cellAt (b := p) (cs := #[.int .i64 E,.int .i64 F,.int .u64 b,.int .u8 md,.int .i64 0]) (t := 109) (by simp)
   have c9_0 := Q_ 0 _ rfl
   have c9_1 := Q_ 1 _ rfl
   clear Q_
   clear hM0
   refine wpOp_step rfl fun K hK => ?_
   go_simp
   exact hK _ _ ⟨p9,fun _ _ => rfl,rfl,(Pm.keepM rfl (hM.val rfl))⟩
  ·cases ho9
   have r1 := hD.old 1 _ rfl rfl
   refine wpOp_step rfl fun K hK => ?_
   go_simp
   exact hK _ _ ⟨p9,fun _ _ => rfl,rfl,(Pm.keepM rfl (hM.val rfl))⟩
  ·cases ho9
   have r37 := hD.od hd9 6 37 _ rfl (by simp)
   have r38 := hD.od hd9 7 38 _ rfl (by simp)
   have hM0 : Fs w W9 [⟨w.heap.size,#[.bool false,.slice none 0 0,.int .i64 0],33⟩,⟨p,#[.int .i64 E,.int .i64 F,.int .u64 b,.int .u8 md,.int .i64 0],109⟩] := by
    have hM1 := hM.st
    simp only [pickBs] at hM1
    rw [if_neg (hD.waits 8 12 _ ⟨8,.phase⟩ hl9 rfl (by simp) rfl rfl)] at hM1
    exact hM1
   have HD := hide hD
   have hn12 := hD.waits 8 12 _ ⟨8,.phase⟩ hl9 rfl (by simp) rfl rfl
   refine wpOp_step rfl fun K hK => ?_
   go_simp
   go_wp2_with fail
   refine (unhide HV _ ((unhide HT).kept hM.st.fr)).mono ?_
   rintro en w9 ⟨⟨a9,n9,c9,rfl,h9⟩,hb9⟩
   refine hK _ _ ⟨p9.set 8 ⟨a9,n9,c9⟩,?_,rfl,(Pm.keepM rfl (((hM.kept hs9 hb9).pick ⟨a9,n9,c9⟩ ?_).into (by simp only [pickBs]; rw [if_neg hn12,if_neg hn12])))⟩
   ·intro k9 hk9
    clear hM hK
    match k9,hk9 with
    | 0,_ => rfl
    | 1,_ => rfl
    | 2,_ => rfl
    | 3,_ => rfl
    | 4,_ => rfl
    | 5,_ => rfl
    | 6,_ => rfl
    | 7,_ => rfl
    | 8,hk9 => exact absurd (hl9.symm.trans hk9) (by simp)
    | 9,hk9 => exact absurd (hl9.symm.trans (getD_true ((unhide HD).shut 9 _ (hk9) rfl ⟨8,.data⟩ (by simp) rfl))) (by simp)
    | 10,hk9 => exact absurd (hl9.symm.trans (getD_true ((unhide HD).shut 10 _ (hk9) rfl ⟨8,.data⟩ (by simp) rfl))) (by simp)
    | 11,hk9 => exact absurd (hl9.symm.trans (getD_true ((unhide HD).shut 11 _ (hk9) rfl ⟨8,.chain⟩ (by simp) rfl))) (by simp)
    | 12,hk9 => exact absurd (hl9.symm.trans (getD_true ((unhide HD).shut 12 _ (hk9) rfl ⟨8,.phase⟩ (by simp) rfl))) (by simp)
    | k9 + 13,_ => rfl
   ·intro x hx he; simp only [List.mem_cons,List.not_mem_nil,or_false] at hx; subst hx; exact h9.mono hM.bw
  ·cases ho9
   have r39 := hD.od hd9 8 39 _ rfl (by simp)
   refine wpOp_step rfl fun K hK => ?_
   go_simp
   exact hK _ _ ⟨p9,fun _ _ => rfl,rfl,(Pm.keepM rfl (hM.val rfl))⟩
  ·cases ho9
   have r39 := hD.od hd9 8 39 _ rfl (by simp)
   refine wpOp_step rfl fun K hK => ?_
   go_simp
   exact hK _ _ ⟨p9,fun _ _ => rfl,rfl,(Pm.keepM rfl (hM.val rfl))⟩
  ·cases ho9
   have r33 := hD.od hd9 2 33 _ rfl (by simp)
   have r40 := hD.od hd9 9 40 _ rfl (by simp)
   have r41 := hD.od hd9 10 41 _ rfl (by simp)
   have g8 := hM.fx _ (List.mem_of_getElem? (i := 0) rfl) (Or.inl (getD_true (hd9 ⟨8,.chain⟩ (by simp) rfl)))
   simp only [] at g8
   have hM0 : Fs w W9 [⟨w.heap.size,#[.bool false,.slice none 0 0,.int .i64 0],33⟩,⟨p,#[.int .i64 E,.int .i64 F,.int .u64 b,.int .u8 md,.int .i64 0],109⟩] := by
    have hM1 := hM.st
    simp only [pickBs] at hM1
    rw [if_neg (hD.waits 11 12 _ ⟨11,.data⟩ hl9 rfl (by simp) rfl rfl)] at hM1
    exact hM1
   refine wpOp_step rfl fun K hK => ?_
   go_simp
   go_wp2_with fail
   refine (runDyadic_0 p 4 _ _ _ _ _ _ ((unhide HR).kept hM.st.fr)).mono ?_
   rintro en w9 ⟨rfl,hb9⟩
   exact hK _ _ ⟨p9,fun _ _ => rfl,rfl,(Pm.keepM rfl ((hM.kept hs9 hb9).val rfl))⟩
  ·cases ho9
   have r6 := hD.old 6 _ rfl rfl
   have r42 := hD.od hd9 11 42 _ rfl (by simp)
   have hM0 : Fs w W9 [⟨w.heap.size,#[.bool false,.slice none 0 0,.int .i64 0],33⟩,⟨p,#[.int .i64 E,.int .i64 F,.int .u64 b,.int .u8 md,.int .i64 0],109⟩] := by
    have hM1 := hM.st
    simp only [pickBs] at hM1
    rw [if_neg (by rw [hl9]; simp)] at hM1
    exact hM1
   have c9_0 := hM0.cellAt (b := w.heap.size) (cs := #[.bool false,.slice none 0 0,.int .i64 0]) (t := 33) (by simp) 0 _ rfl
   have z9_0 := hM0.frozen (b := w.heap.size) (cs := #[.bool false,.slice none 0 0,.int .i64 0]) (t := 33) (by simp) 0
   have c9_1 := hM0.cellAt (b := w.heap.size) (cs := #[.bool false,.slice none 0 0,.int .i64 0]) (t := 33) (by simp) 1 _ rfl
   have z9_1 := hM0.frozen (b := w.heap.size) (cs := #[.bool false,.slice none 0 0,.int .i64 0]) (t := 33) (by simp) 1
   have c9_2 := hM0.cellAt (b := w.heap.size) (cs := #[.bool false,.slice none 0 0,.int .i64 0]) (t := 33) (by simp) 2 _ rfl
   have z9_2 := hM0.frozen (b := w.heap.size) (cs := #[.bool false,.slice none 0 0,.int .i64 0]) (t := 33) (by simp) 2
   refine wpOp_step rfl fun K hK => ?_
   go_simp
   exact hK _ _ ⟨p9,fun _ _ => rfl,rfl,Pm.putM hl9 ((((hM.val rfl).put hs9 _ _ (by simp <;> omega) (hM0.put (b := w.heap.size) (cs := #[.bool false,.slice none 0 0,.int .i64 0]) (t := 33) (by simp) (by simp) 0 (.bool s) [⟨w.heap.size,#[.bool s,.slice none 0 0,.int .i64 0],33⟩,⟨p,#[.int .i64 E,.int .i64 F,.int .u64 b,.int .u8 md,.int .i64 0],109⟩] (by simp <;> omega))).put hs9 _ _ (by simp <;> omega) ((hM0.put (b := w.heap.size) (cs := #[.bool false,.slice none 0 0,.int .i64 0]) (t := 33) (by simp) (by simp) 0 (.bool s) [⟨w.heap.size,#[.bool s,.slice none 0 0,.int .i64 0],33⟩,⟨p,#[.int .i64 E,.int .i64 F,.int .u64 b,.int .u8 md,.int .i64 0],109⟩] (by simp <;> omega)).put (b := w.heap.size) (cs := #[.bool s,.slice none 0 0,.int .i64 0]) (t := 33) (by simp) (by simp) 1 (.slice (p9 8).A (p9 8).N (p9 8).C) [⟨w.heap.size,#[.bool s,.slice (p9 8).A (p9 8).N (p9 8).C,.int .i64 0],33⟩,⟨p,#[.int .i64 E,.int .i64 F,.int .u64 b,.int .u8 md,.int .i64 0],109⟩] (by simp <;> omega))).put hs9 _ _ (by simp <;> omega) (((hM0.put (b := w.heap.size) (cs := #[.bool false,.slice none 0 0,.int .i64 0]) (t := 33) (by simp) (by simp) 0 (.bool s) [⟨w.heap.size,#[.bool s,.slice none 0 0,.int .i64 0],33⟩,⟨p,#[.int .i64 E,.int .i64 F,.int .u64 b,.int .u8 md,.int .i64 0],109⟩] (by simp <;> omega)).put (b := w.heap.size) (cs := #[.bool s,.slice none 0 0,.int .i64 0]) (t := 33) (by simp) (by simp) 1 (.slice (p9 8).A (p9 8).N (p9 8).C) [⟨w.heap.size,#[.bool s,.slice (p9 8).A (p9 8).N (p9 8).C,.int .i64 0],33⟩,⟨p,#[.int .i64 E,.int .i64 F,.int .u64 b,.int .u8 md,.int .i64 0],109⟩] (by simp <;> omega)).put (b := w.heap.size) (cs := #[.bool s,.slice (p9 8).A (p9 8).N (p9 8).C,.int .i64 0]) (t := 33) (by simp) (by simp) 2 (.int .i64 x) [⟨w.heap.size,#[.bool s,.slice (p9 8).A (p9 8).N (p9 8).C,.int .i64 x],33⟩,⟨p,#[.int .i64 E,.int .i64 F,.int .u64 b,.int .u8 md,.int .i64 0],109⟩] (by simp <;> omega)))⟩
 ·intro p9 l9 W9 hn9 hl9 hM
  have fr5_8 := hM.fx _ (List.mem_of_getElem? (i := 0) rfl) (Or.inl (hl9 8 (by decide)))
  replace hM := hM.st
  simp only [pickBs] at hM
  rw [if_pos (hl9 12 (by decide))] at hM
  clear hl9 hs9 h09 hn9
  generalize p9 8 = q8 at *
  obtain ⟨Ar5_8,Nr5_8,Cr5_8⟩ := q8
  simp only [] at fr5_8
  clear hS yy yz y0 y1 y2 y3 y4 y5
  have hS := hM
  clear hM
  simp only [Puts.lay,List.setIfInBounds_toArray,List.set_cons_zero,List.set_cons_succ]
  obtain ⟨⟨y6,y7,y8,-⟩,⟨y9,yba,ybb,ybc,ybd,-⟩,-⟩ := hS.cells
  go_wp2
  exact bodyPost_ret (v := .agg #[.bool s,.slice Ar5_8 Nr5_8 Cr5_8,.int .i64 x]) (by simp [results,Tryz.results130,go_sem,y6,y7,y8]) rfl ⟨⟨_,_,_,rfl,Mine.mono (show Mine W9 _ _ _ _ _ from unhide fr5_8) (by omega)⟩,hS.fr⟩
end Go.Proofs.YtkebhccbhoamjaaGreatDoor
