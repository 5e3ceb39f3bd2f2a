/- Of what ExactRingRow stands on: ExRingLaw. -/
import Derived.Test.YtjemjhaphannaaaDoorPax
import Derived.Test.YtjemjhaphannaaaDoorPay
import Derived.Test.YtjemjhaphannaaaDoorPat
namespace Go.Proofs.YtjemjhaphannaaaDoor
open Go.RowKit
def Prods (s : Bool) (m : Nat) (x : Int) (s' : Bool) (m' : Nat) (x' : Int) (er : Int) (r : Bool) (v : Nat) (y : Int) : Prop :=
 ∀ (W : World) (A : Option Addr) (N C : Nat) (A' : Option Addr) (N' C' : Nat),Num W A N m → Num W A' N' m' →
  Calls Tryd.prog 44 #[.agg #[.bool s,.slice A N C,.int .i64 x],.agg #[.bool s',.slice A' N' C',.int .i64 x']] W fun e w' => (∃ A N C,e = .returned (.tuple #[.agg #[.bool r,.slice A N C,.int .i64 y],.int .i64 er]) ∧ Num w' A N v) ∧ Below W.heap.size W w'
theorem Prods.plain {s : Bool} {m : Nat} {x : Int} {s' : Bool} {m' : Nat} {x' er : Int} (h : ∀ (W : World) (A : Option Addr) (N C : Nat) (A' : Option Addr) (N' C' : Nat),Num W A N m → Num W A' N' m' →
  Calls Tryd.prog 44 #[.agg #[.bool s,.slice A N C,.int .i64 x],.agg #[.bool s',.slice A' N' C',.int .i64 x']] W fun e w' => e = .returned (.tuple #[.agg #[.bool false,.slice none 0 0,.int .i64 0],.int .i64 er]) ∧ Below W.heap.size W w') : Prods s m x s' m' x' er false 0 0 := fun W A N C A' N' C' g g' => by
 refine (h W A N C A' N' C' g g').mono ?_
 rintro e w' ⟨rfl,hb⟩
 exact ⟨⟨none,0,0,rfl,num_none _⟩,hb⟩
theorem mul_one {s : Bool} {m : Nat} {x : Int} {s' : Bool} {m' : Nat} {x' : Int} (hA : OkD s m x) (hB : OkD s' m' x') :
  ((m = 0 ∨ m' = 0) ∧ Prods s m x s' m' x' 0 false 0 0) ∨ ((0 < m ∧ 0 < m') ∧ (((x + x' < -1073741824 ∨ 1073741824 < x + x' ∨ Over (m * m')) ∧ Prods s m x s' m' x' 4 false 0 0) ∨ (¬ (x + x' < -1073741824 ∨ 1073741824 < x + x' ∨ Over (m * m')) ∧ Prods s m x s' m' x' 0 (s != s') (m * m') (x + x')))) := by
 have hp : ∀ {W : World} {A : Option Addr} {N m : Nat},Num W A N m → 0 < m → 0 < N := fun g h => by have := g.zero; omega
 rcases Nat.eq_zero_or_pos m with h0 | h0
 ·refine Or.inl ⟨Or.inl h0,Prods.plain fun W A N C A' N' C' g g' => ?_⟩
  obtain rfl := g.zero.2 h0
  exact Mul_left s A C m x s' A' N' C' m' x' W ⟨g,hA⟩ ⟨g',hB⟩
 rcases Nat.eq_zero_or_pos m' with h1 | h1
 ·refine Or.inl ⟨Or.inr h1,Prods.plain fun W A N C A' N' C' g g' => ?_⟩
  obtain rfl := g'.zero.2 h1
  exact Mul_right s A N C m x s' A' C' m' x' W ⟨g,hA⟩ ⟨g',hB⟩ (hp g h0)
 refine Or.inr ⟨⟨h0,h1⟩,?_⟩
 by_cases hc : x + x' < -1073741824 ∨ 1073741824 < x + x' ∨ Over (m * m')
 ·refine Or.inl ⟨hc,Prods.plain fun W A N C A' N' C' g g' => ?_⟩
  by_cases c1 : x + x' < -1073741824
  ·exact Mul_below s A N C m x s' A' N' C' m' x' W ⟨g,hA⟩ ⟨g',hB⟩ (hp g h0) (hp g' h1) c1
  by_cases c2 : 1073741824 < x + x'
  ·exact Mul_above s A N C m x s' A' N' C' m' x' W ⟨g,hA⟩ ⟨g',hB⟩ (hp g h0) (hp g' h1) c2
  ·exact Mul_over s A N C m x s' A' N' C' m' x' W ⟨g,hA⟩ ⟨g',hB⟩ (hp g h0) (hp g' h1) (by omega) (by
    rcases hc with h | h | h
    ·exact absurd h c1
    ·exact absurd h c2
    ·exact h)
 ·refine Or.inr ⟨hc,fun W A N C A' N' C' g g' => ?_⟩
  refine (Mul_ok s A N C m x s' A' N' C' m' x' W ⟨g,hA⟩ ⟨g',hB⟩ (hp g h0) (hp g' h1) (by omega) (fun h => hc (Or.inr (Or.inr h)))).mono ?_
  rintro e w' ⟨⟨A,N,C,rfl,h2⟩,hb⟩
  exact ⟨⟨A,N,C,rfl,h2.num⟩,hb⟩
theorem mul_two {s : Bool} {m : Nat} {x : Int} {s' : Bool} {m' : Nat} {x' : Int} (hA : OkD s m x) (hB : OkD s' m' x') : ∃ er q v y,Prods s m x s' m' x' er q v y ∧ Prods s' m' x' s m x er q v y := by
 have e1 : m' * m = m * m' := Nat.mul_comm ..
 have e2 : x' + x = x + x' := Int.add_comm ..
 have e3 : (s' != s) = (s != s') := by cases s <;> cases s' <;> rfl
 have hQ := mul_one hB hA
 rw [e1,e2,e3] at hQ
 rcases mul_one hA hB with ⟨c,P⟩ | ⟨c,⟨d,P⟩ | ⟨d,P⟩⟩ <;> rcases hQ with ⟨c',Q⟩ | ⟨c',⟨d',Q⟩ | ⟨d',Q⟩⟩
 ·exact ⟨_,_,_,_,P,Q⟩
 ·omega
 ·omega
 ·omega
 ·exact ⟨_,_,_,_,P,Q⟩
 ·exact absurd d d'
 ·omega
 ·exact absurd d' d
 ·exact ⟨_,_,_,_,P,Q⟩
def negS (s : Bool) (m : Nat) : Bool := if m = 0 then false else !s
theorem negS_ok {s : Bool} {m : Nat} {x : Int} (h : OkD s m x) : OkD (negS s m) m x := by
 rcases h with ⟨a,b,c⟩ | h
 ·exact Or.inl ⟨a,by unfold negS; rw [if_pos a],c⟩
 ·exact Or.inr h
theorem negS_sv (s : Bool) (m k : Nat) : sv (negS s m) (m * 2 ^ k) = - sv s (m * 2 ^ k) := by
 unfold negS
 by_cases h : m = 0
 ·subst h; rw [Nat.zero_mul,sv_zero,sv_zero]; rfl
 ·rw [if_neg h]; unfold sv; cases s <;> simp
theorem neg_any {s : Bool} {m : Nat} {x : Int} (h : OkD s m x) (W : World) (A : Option Addr) (N C : Nat) (g : Num W A N m) :
  Calls Tryd.prog 30 #[.agg #[.bool s,.slice A N C,.int .i64 x]] W fun e w' => (∃ A N C,e = .returned (.tuple #[.agg #[.bool (negS s m),.slice A N C,.int .i64 x],.int .i64 0]) ∧ Num w' A N m) ∧ Below W.heap.size W w' := by
 have fin : ∀ {r : Bool} {e : Ending} {w' : World},((∃ A N C,e = .returned (.tuple #[.agg #[.bool r,.slice A N C,.int .i64 x],.int .i64 0]) ∧ Mine w' W.heap.size A N C m) ∧ Below W.heap.size W w') → ((∃ A N C,e = .returned (.tuple #[.agg #[.bool r,.slice A N C,.int .i64 x],.int .i64 0]) ∧ Num w' A N m) ∧ Below W.heap.size W w') := by
  rintro r e w' ⟨⟨A,N,C,h1,h2⟩,hb⟩
  exact ⟨⟨A,N,C,h1,h2.num⟩,hb⟩
 rcases Nat.eq_zero_or_pos m with h0 | h0
 ·rcases h with ⟨_,rfl,rfl⟩ | h
  ·obtain rfl := g.zero.2 h0
   unfold negS
   rw [if_pos h0]
   exact (Neg_nought A C m W ⟨g,Or.inl ⟨h0,rfl,rfl⟩⟩).mono fun e w' h => fin h
  ·omega
 ·unfold negS
  rw [if_neg (by omega)]
  cases s
  ·exact (Neg_false A N C m x W ⟨g,h⟩ (by have := g.zero; omega)).mono fun e w' h => fin h
  ·exact (Neg_true A N C m x W ⟨g,h⟩).mono fun e w' h => fin h
theorem sum_neg {s : Bool} {m : Nat} {x : Int} (h : OkD s m x) : Sums s m x (negS s m) m x 0 false 0 0 := by
 obtain ⟨er,q,v,y,P,_,hf⟩ := add_two h (negS_ok h)
 intro W A N C A' N' C' g g' hT
 by_cases h0 : m = 0
 ·obtain rfl := g.zero.2 h0
  have h2 : OkD (negS s m) m x := negS_ok h
  have e1 : negS s m = false ∧ x = 0 := by
   rcases h2 with ⟨_,a,b⟩ | a
   ·exact ⟨a,b⟩
   ·omega
  rw [e1.1] at h2 ⊢
  have h3 := e1.2
  subst h3
  refine (Add_left s A C m 0 false A' N' C' m 0 W ⟨g,h⟩ ⟨g',h2⟩).mono ?_
  rintro e w' ⟨⟨A,N,C,rfl,h1⟩,hb⟩
  refine ⟨⟨A,N,C,rfl,?_⟩,hb⟩
  have := h1.num
  rw [h0] at this
  exact this
 ·have hm : m % 2 = 1 ∧ -1073741824 ≤ x ∧ x ≤ 1073741824 := by
   rcases h with ⟨a,_⟩ | a
   ·exact absurd a h0
   ·exact a
  have hne : s ≠ negS s m := by unfold negS; rw [if_neg h0]; cases s <;> simp
  have hno : ¬ Over (m * 2 ^ 0) := fun o => absurd g.lt (Nat.not_lt.2 (by have := o.le; simpa using this))
  have hS : ∀ (W : World) (A : Option Addr) (N C : Nat) (A' : Option Addr) (N' C' : Nat),Num W A N (m * 2 ^ 0) → Num W A' N' (m * 2 ^ 0) → Calls Tryd.prog 57 #[.bool s,.agg #[.slice A N C],.bool (negS s m),.agg #[.slice A' N' C']] W fun e w' => (∃ A N C,e = .returned (.tuple #[.bool s,.agg #[.slice A N C],.int .i64 0]) ∧ Mine w' W.heap.size A N C 0) ∧ Below W.heap.size W w' := fun W A N C A' N' C' g g' => by
   have e1 : negS s m = !s := by unfold negS; rw [if_neg h0]
   rw [e1]
   have e2 : m * 2 ^ 0 - m * 2 ^ 0 = 0 := Nat.sub_self _
   cases s
   ·have := addS_ge_f A N C _ A' N' C' _ W g g' (Nat.le_refl _)
    rw [e2] at this
    exact this
   ·have := addS_ge_t A N C _ A' N' C' _ W g g' (Nat.le_refl _)
    rw [e2] at this
    exact this
  rcases Sums.of (t := x) hm hm (by omega) (by omega) (by omega) hno hno hS (Nat.pow_pos (by decide)) with ⟨_,P⟩ | ⟨z,hz,_⟩
  ·exact P W A N C A' N' C' g g' hT
  ·omega
theorem exactRing_any (s : Bool) (a : Option Addr) (n cap : Nat) (xs : List Nat) (x : Int) (s' : Bool) (a' : Option Addr) (n' cap' : Nat) (ys : List Nat) (x' : Int) (w : World) (hT : Tb w) (hn : xs.length = n) (hb : n ≤ 9223372036854775807) (hl : Lim w a xs) (hw : Pl.Wf xs) (hn' : ys.length = n') (hb' : n' ≤ 9223372036854775807) (hl' : Lim w a' ys) (hw' : Pl.Wf ys) :
  Calls Tryd.prog 9 #[.agg #[.bool s,.slice a n cap,.int .i64 x],.agg #[.bool s',.slice a' n' cap',.int .i64 x']] w fun e w' => e = .returned (.bool true) ∧ Below w.heap.size w w' := by
 have okd : ∀ {s : Bool} {xs : List Nat} {x : Int},dck s xs x = 0 → chk xs = 0 ∧ OkD s (Pl.val xs) x := fun {s xs x} h => by
  have hck : chk xs = 0 := by
   unfold dck at h
   by_cases hc : chk xs = 0
   ·exact hc
   ·rw [if_pos hc] at h; exact absurd h hc
  refine ⟨hck,?_⟩
  unfold dck at h
  rw [if_neg (by simpa using hck)] at h
  by_cases hz : xs.length = 0
  ·rw [if_pos hz] at h
   have hv : Pl.val xs = 0 := by rw [List.length_eq_zero_iff.1 hz]; rfl
   by_cases hs : s = true ∨ x ≠ 0
   ·rw [if_pos hs] at h; cases h
   ·exact Or.inl ⟨hv,by cases s <;> simp_all,by omega⟩
  ·rw [if_neg hz] at h
   by_cases hs : Pl.val xs % 2 = 0 ∨ Far x
   ·rw [if_pos hs] at h; cases h
   ·exact Or.inr ⟨by omega,by unfold Far at hs; omega⟩
 by_cases hc : dck s xs x = 0
 case neg => exact ring_a s a n cap xs x s' a' n' cap' x' w hT hn hb hl hw (by simpa using hc)
 by_cases hc' : dck s' ys x' = 0
 case neg => exact ring_b s a n cap xs x s' a' n' cap' ys x' w hT hn hb hl hw hn' hb' hl' hw' (by simpa using hc) (by simpa using hc')
 obtain ⟨k1,hA⟩ := okd hc
 obtain ⟨k2,hB⟩ := okd hc'
 have gA := dck_num hn hl hw k1
 have gB := dck_num hn' hl' hw' k2
 generalize Pl.val xs = m at hA gA
 generalize Pl.val ys = m' at hB gB
 obtain ⟨e1,q1,v1,y1,S1,S2,_⟩ := add_two hA hB
 obtain ⟨e3,q3,v3,y3,P1,P2⟩ := mul_two hA hB
 obtain ⟨e8,q8,v8,y8,D1,_,hD⟩ := add_two hA (negS_ok hB)
 have ca := fun (W : World) (A : Option Addr) (N C : Nat) (g : Num W A N m) => dcheck_dy s A N C m x W ⟨g,hA⟩
 have cb := fun (W : World) (A : Option Addr) (N C : Nat) (g : Num W A N m') => dcheck_dy s' A N C m' x' W ⟨g,hB⟩
 have cmp : ∀ (t : Int) (i j : Nat),x - t = (i : Int) → x' - t = (j : Int) → ∀ (W : World) (A : Option Addr) (N C : Nat) (A' : Option Addr) (N' C' : Nat),Num W A N m → Num W A' N' m' → Calls Tryd.prog 17 #[.agg #[.bool s,.slice A N C,.int .i64 x],.agg #[.bool s',.slice A' N' C',.int .i64 x']] W fun e w' => e = .returned (.tuple #[.int .i64 (cmp3 (sv s (m * 2 ^ i)) (sv s' (m' * 2 ^ j))),.int .i64 0]) ∧ Below W.heap.size W w' := fun t i j hi hj W A N C A' N' C' g g' => Cmp_any s A N C m x s' A' N' C' m' x' t i j W ⟨g,hA⟩ ⟨g',hB⟩ hi hj
 rcases hD with ⟨rfl,T,i,j,k,hi,hj,hk,hwo⟩ | ⟨rfl,rfl,rfl,rfl⟩
 ·rw [negS_sv] at hwo
  have cc := cmp T i j hi hj
  generalize sv s (m * 2 ^ i) = u at hwo cc
  generalize sv s' (m' * 2 ^ j) = u' at hwo cc
  rcases Nat.eq_zero_or_pos v8 with h0 | h0
  ·subst h0
   rw [Nat.zero_mul,sv_zero] at hwo
   rw [cmp3_eq (by omega)] at cc
   cases q8
   ·exact ring_zf s a n cap m x s' a' n' cap' m' x' e1 e3 y1 y3 y8 q1 q3 _ _ v1 v3 w hT gA gB (hide ca) (hide cb) (hide S1) (hide S2) (hide P1) (hide P2) (hide (neg_any hA)) (hide (neg_any hB)) (hide (sum_neg hA)) (hide D1) (hide cc)
   ·exact ring_zt s a n cap m x s' a' n' cap' m' x' e1 e3 y1 y3 y8 q1 q3 _ _ v1 v3 w hT gA gB (hide ca) (hide cb) (hide S1) (hide S2) (hide P1) (hide P2) (hide (neg_any hA)) (hide (neg_any hB)) (hide (sum_neg hA)) (hide D1) (hide cc)
  ·have hp : 0 < v8 * 2 ^ k := Nat.mul_pos h0 (pow_pos2 k)
   generalize v8 * 2 ^ k = V at hwo hp
   cases q8
   ·rw [cmp3_gt (by simp [sv] at hwo; omega)] at cc
    exact ring_pos s a n cap m x s' a' n' cap' m' x' e1 e3 y1 y3 y8 q1 q3 _ _ v1 v3 v8 w hT gA gB (hide ca) (hide cb) (hide S1) (hide S2) (hide P1) (hide P2) (hide (neg_any hA)) (hide (neg_any hB)) (hide (sum_neg hA)) (hide D1) (hide cc) h0
   ·rw [cmp3_lt (by simp [sv] at hwo; omega)] at cc
    exact ring_neg s a n cap m x s' a' n' cap' m' x' e1 e3 y1 y3 y8 q1 q3 _ _ v1 v3 v8 w hT gA gB (hide ca) (hide cb) (hide S1) (hide S2) (hide P1) (hide P2) (hide (neg_any hA)) (hide (neg_any hB)) (hide (sum_neg hA)) (hide D1) (hide cc) h0
 ·obtain ⟨t,ht⟩ : ∃ t,min x x' = t := ⟨_,rfl⟩
  obtain ⟨i,hi⟩ : ∃ i : Nat,x - t = (i : Int) := ⟨(x - t).toNat,by omega⟩
  obtain ⟨j,hj⟩ : ∃ j : Nat,x' - t = (j : Int) := ⟨(x' - t).toNat,by omega⟩
  exact ring_many s a n cap m x s' a' n' cap' m' x' e1 e3 y1 y3 _ q1 q3 _ _ v1 v3 w hT gA gB (hide ca) (hide cb) (hide S1) (hide S2) (hide P1) (hide P2) (hide (neg_any hA)) (hide (neg_any hB)) (hide (sum_neg hA)) (hide D1) (hide (cmp t i j hi hj))
end Go.Proofs.YtjemjhaphannaaaDoor
