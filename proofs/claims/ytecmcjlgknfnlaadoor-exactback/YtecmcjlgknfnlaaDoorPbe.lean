/- Of what ExactBackRow stands on: ExBackLaw. -/
import Derived.Test.YtecmcjlgknfnlaaDoorPbb
import Derived.Test.YtecmcjlgknfnlaaDoorPbc
import Derived.Test.YtecmcjlgknfnlaaDoorPbd
import Derived.Test.YtecmcjlgknfnlaaDoorPba
namespace Go.Proofs.YtecmcjlgknfnlaaDoor
open Go.RowKit
theorem ratio_ok {s : Bool} {m : Nat} {x : Int} (hA : OkD s m x) {i j : Nat} (hi : max x 0 = (i : Int)) (hj : max (-x) 0 = (j : Int)) (hV : ¬ Over (m * 2 ^ i)) (hM : ¬ Over (1 * 2 ^ j)) (W : World) (A : Option Addr) (N C : Nat) (g : Num W A N m) :
  Calls Tryd.prog 23 #[.agg #[.bool s,.slice A N C,.int .i64 x]] W fun e w' => (∃ A N C A' N' C',e = .returned (.tuple #[.agg #[.bool s,.slice A N C,.slice A' N' C'],.int .i64 0]) ∧ Mine w' W.heap.size A N C (m * 2 ^ i) ∧ Mine w' W.heap.size A' N' C' (1 * 2 ^ j)) ∧ Below W.heap.size W w' := by
 have hx : -1073741824 ≤ x ∧ x ≤ 1073741824 := by
  rcases hA with ⟨_,_,h⟩ | ⟨_,h⟩
  ·omega
  ·exact h
 have up : ∀ {u t : Nat},¬ Over (u * 2 ^ t) → t < 9223372036854775808 → ∀ (W : World) (A : Option Addr) (N C : Nat),Num W A N u → Calls Tryd.prog 59 #[.agg #[.slice A N C],.int .i64 (t : Int)] W fun en W' => (∃ a n c,en = .returned (.tuple #[.agg #[.slice a n c],.int .i64 0]) ∧ Mine W' W.heap.size a n c (u * 2 ^ t)) ∧ Below W.heap.size W W' := fun hn ht W A N C g => by
  refine (up_any A N C _ _ W g ht).mono ?_
  rintro e w' ⟨h1,hb⟩
  rcases h1 with h1 | ⟨_,h1⟩
  ·exact ⟨h1,hb⟩
  ·exact absurd h1 hn
 exact xr_ok W s A N C m x i j _ _ 0 g hx hi hj rfl (hide fun W A N C g => dcheck_dy s A N C m x W ⟨g,hA⟩) (hide (up hV (by omega))) (hide (up hM (by omega)))
theorem pow_tz (t : Nat) : Tz (2 ^ t) t := ⟨0,by simp⟩
theorem pow_bl (t : Nat) : Bl (2 ^ t) (t + 1) := ⟨Nat.pow_lt_pow_right (by decide) (by omega),Or.inr (by rw [Nat.add_sub_cancel]; exact Nat.le_refl _)⟩
theorem of_dy {s : Bool} {V t : Nat} (ht : t ≤ 524288) (hco : Nat.gcd V (2 ^ t) = 1) (hs : s = true → 0 < V) {q : Bool} {v : Nat} {y : Int} (hq : (V = 0 ∧ q = false ∧ v = 0 ∧ y = 0) ∨ (0 < V ∧ q = s ∧ ∃ z,Tz V z ∧ z < 524288 ∧ v = V / 2 ^ z ∧ y = -(t : Int) + (z : Int)))
  (W : World) (A : Option Addr) (N C : Nat) (A' : Option Addr) (N' C' : Nat) (g : Num W A N V) (h1 : N ≤ C) (h2 : C ≤ 9223372036854775807) (g' : Num W A' N' (2 ^ t)) (hT : Tb W) :
  Calls Tryd.prog 26 #[.agg #[.bool s,.slice A N C,.slice A' N' C']] W fun e w' => (∃ A N C,e = .returned (.tuple #[.agg #[.bool q,.slice A N C,.int .i64 y],.bool true,.int .i64 0]) ∧ Mine w' W.heap.size A N C v) ∧ Below W.heap.size W w' := by
 have hN' : 0 < N' := by have := g'.zero; have := pow_pos2 t; omega
 refine of_yes s A N C A' N' C' (2 ^ t) (t + 1) t q v y W g' hT (pow_pos2 t) (pow_bl t) (pow_tz t) ?_ (hide fun W' hb => ?_) (by omega) (hide fun W' hb => ?_)
 ·have := g'.lt
  have e : (4294967296 : Nat) ^ Pl.top = 2 ^ (32 * Pl.top) := by rw [Nat.pow_mul]
  rw [e] at this
  have := (Nat.pow_lt_pow_iff_right (by decide)).1 this
  have := Pl.top_eq
  omega
 ·cases s
  ·exact rk_ok_f A N C V A' N' C' (2 ^ t) W' hN' (g.kept hb) (g'.kept hb) hco
  ·exact rk_ok_t A N C V A' N' C' (2 ^ t) W' hN' (by have := g.zero; have := hs rfl; omega) (g.kept hb) (g'.kept hb) hco
 ·rcases hq with ⟨h0,rfl,rfl,rfl⟩ | ⟨h0,rfl,z,hz,hz2,rfl,rfl⟩
  ·have k := g.kept hb
   obtain rfl := k.zero.2 h0
   rw [h0] at k
   exact dans_nil (make_nought s A C _ W' k)
  ·exact make_ok q A N C V z _ W' (g.kept hb) h0 (hT.kept hb) hz hz2 h1 h2 (by omega)
theorem odd_co {m t : Nat} (h : m % 2 = 1) : Nat.gcd m (2 ^ t) = 1 := by
 refine Nat.Coprime.pow_right t ?_
 show Nat.gcd m 2 = 1
 rw [Nat.gcd_comm,Nat.gcd_rec,h]; rfl
theorem exactBack_any (s : Bool) (a : Option Addr) (n cap : Nat) (xs : List Nat) (x : Int) (r : Bool) (b : Option Addr) (k l : Nat) (ys : List Nat) (b' : Option Addr) (k' l' : Nat) (zs : List Nat) (w : World) (hT : Tb w)
  (hn : xs.length = n) (hb : n ≤ 9223372036854775807) (hl : Lim w a xs) (hw : Pl.Wf xs) (hk : ys.length = k) (hkb : k ≤ 9223372036854775807) (hkl : k ≤ l) (hll : l ≤ 9223372036854775807) (hly : Lim w b ys) (hwy : Pl.Wf ys) (hk' : zs.length = k') (hkb' : k' ≤ 9223372036854775807) (hlz : Lim w b' zs) (hwz : Pl.Wf zs) :
  Calls Tryd.prog 8 #[.agg #[.bool s,.slice a n cap,.int .i64 x],.agg #[.bool r,.slice b k l,.slice b' k' l']] w fun e w' => e = .returned (.bool true) ∧ Below w.heap.size w w' := by
 have hR : (∃ c : Int,(c = 20 ∨ c = 0) ∧ ∀ W : World,Below w.heap.size w W → Calls Tryd.prog 26 #[.agg #[.bool r,.slice b k l,.slice b' k' l']] W fun e w' => e = .returned (.tuple #[.agg #[.bool false,.slice none 0 0,.int .i64 0],.bool false,.int .i64 c]) ∧ Below W.heap.size W w') ∨
   (∃ (q : Bool) (v : Nat) (y : Int) (p t : Nat),Num w b k p ∧ Num w b' k' (2 ^ t) ∧ (∀ W : World,Below w.heap.size w W → Calls Tryd.prog 26 #[.agg #[.bool r,.slice b k l,.slice b' k' l']] W fun e w' => (∃ A N C,e = .returned (.tuple #[.agg #[.bool q,.slice A N C,.int .i64 y],.bool true,.int .i64 0]) ∧ Mine w' W.heap.size A N C v) ∧ Below W.heap.size W w') ∧
    (∀ (W : World) (A : Option Addr) (N C : Nat),Num W A N v → Calls Tryd.prog 23 #[.agg #[.bool q,.slice A N C,.int .i64 y]] W fun e w' => (∃ A N C A' N' C',e = .returned (.tuple #[.agg #[.bool r,.slice A N C,.slice A' N' C'],.int .i64 0]) ∧ Mine w' W.heap.size A N C p ∧ Mine w' W.heap.size A' N' C' (2 ^ t)) ∧ Below W.heap.size W w')) := by
  have bad : (∀ W : World,Below w.heap.size w W → Calls Tryd.prog 62 #[.agg #[.bool r,.slice b k l,.slice b' k' l']] W fun e w' => e = .returned (.int .i64 20) ∧ Below W.heap.size W w') → (∃ c : Int,(c = 20 ∨ c = 0) ∧ ∀ W : World,Below w.heap.size w W → Calls Tryd.prog 26 #[.agg #[.bool r,.slice b k l,.slice b' k' l']] W fun e w' => e = .returned (.tuple #[.agg #[.bool false,.slice none 0 0,.int .i64 0],.bool false,.int .i64 c]) ∧ Below W.heap.size W w') := fun h => ⟨20,Or.inl rfl,fun W hW => of_err r b k l b' k' l' W (hide fun W' hW' => h W' (gr_trans hW hW'))⟩
  rcases Nat.eq_zero_or_pos k' with z' | z'
  ·subst z'
   exact Or.inl (bad fun W _ => rk_den r b k l b' l' W)
  by_cases hneg : r = true ∧ k = 0
  ·obtain ⟨rfl,rfl⟩ := hneg
   exact Or.inl (bad fun W _ => rk_neg b l b' k' l' z' W)
  by_cases hc : chk2 ys zs = 0
  case neg =>
   refine Or.inl (bad fun W hW => ?_)
   have hG : ∀ W' : World,Below W.heap.size W W' → Calls Tryd.prog 107 #[.agg #[.slice b k l],.agg #[.slice b' k' l']] W' fun e w' => e = .returned (.tuple #[.agg #[.slice none 0 0],.int .i64 (chk2 ys zs)]) ∧ Below W'.heap.size W' w' := fun W' hW' => gcd_bad b k l ys b' k' l' zs W' hk hk' hkb hkb' (hly.below (gr_trans hW hW')) (hlz.below (gr_trans hW hW')) hc
   cases r
   ·exact rk_err_f b k l b' k' l' _ W z' (by simpa using hc) (hide hG)
   ·exact rk_err_t b k l b' k' l' _ W z' (by have : ¬ k = 0 := fun e => hneg ⟨rfl,e⟩; omega) (by simpa using hc) (hide hG)
  have c1 : chk ys = 0 := by
   unfold chk2 at hc
   by_cases h : chk ys = 0
   ·exact h
   ·rw [if_neg h] at hc; exact absurd hc h
  have c2 : chk zs = 0 := by unfold chk2 at hc; rw [if_pos c1] at hc; exact hc
  have gN := dck_num hk hly hwy c1
  have gD := dck_num hk' hlz hwz c2
  have hD0 : 0 < Pl.val zs := by have := gD.zero; omega
  have hlen := (chk_zero c2).1
  have hlenY := (chk_zero c1).1
  have mZ := Pl.val_lt hwz
  have mY := Pl.val_lt hwy
  obtain ⟨K,hK⟩ : ∃ K,K = 524288 := ⟨_,rfl⟩
  have toK : ∀ {v len : Nat},v < 4294967296 ^ len → len ≤ 16384 → v < 2 ^ K := fun h1 h2 => by
   rw [show (4294967296 : Nat) = 2 ^ 32 from rfl,← Nat.pow_mul] at h1
   exact Nat.lt_of_lt_of_le h1 (Nat.pow_le_pow_right (by decide) (by omega))
  replace mZ := toK mZ hlen
  replace mY := toK mY hlenY
  generalize hP : Pl.val ys = p at *
  generalize hQ : Pl.val zs = d at *
  by_cases hg : Nat.gcd p d = 1
  case neg =>
   refine Or.inl (bad fun W hW => ?_)
   cases r
   ·exact rk_big_f b k l p b' k' l' d W z' (gN.kept hW) (gD.kept hW) hg
   ·exact rk_big_t b k l p b' k' l' d W z' (by have : ¬ k = 0 := fun e => hneg ⟨rfl,e⟩; omega) (gN.kept hW) (gD.kept hW) hg
  have okc : ∀ W : World,Below w.heap.size w W → Calls Tryd.prog 62 #[.agg #[.bool r,.slice b k l,.slice b' k' l']] W fun e w' => e = .returned (.int .i64 0) ∧ Below W.heap.size W w' := fun W hW => by
   cases r
   ·exact rk_ok_f b k l p b' k' l' d W z' (gN.kept hW) (gD.kept hW) hg
   ·exact rk_ok_t b k l p b' k' l' d W z' (by have : ¬ k = 0 := fun e => hneg ⟨rfl,e⟩; omega) (gN.kept hW) (gD.kept hW) hg
  obtain ⟨e,hbl⟩ := bl_ex d
  obtain ⟨t,ht,ht2⟩ := tz_ex hD0 mZ
  rw [hK] at ht2
  by_cases hlt : t + 1 < e
  ·exact Or.inl ⟨0,Or.inr rfl,fun W hW => of_no r b k l b' k' l' d e t W (gD.kept hW) (hT.kept hW) hD0 hbl ht ht2 (hide fun W' hW' => okc W' (gr_trans hW hW')) (by omega)⟩
  have hd : d = 2 ^ t := by
   obtain ⟨u,hu⟩ := ht
   have h1 := hbl.1
   have h2 : (2 : Nat) ^ e ≤ 2 ^ (t + 1) := Nat.pow_le_pow_right (by decide) (by omega)
   rw [Nat.pow_succ] at h2
   have h3 : u = 0 := by
    refine Nat.eq_zero_of_not_pos fun h => ?_
    have : 2 ^ t * 3 ≤ 2 ^ t * (2 * u + 1) := Nat.mul_le_mul_left _ (by omega)
    have := pow_pos2 t
    omega
   rw [hu,h3]; simp
  subst hd
  have hs : r = true → 0 < p := fun e => by
   have := gN.zero
   have : ¬ k = 0 := fun e' => hneg ⟨e,e'⟩
   omega
  have noO : ∀ {u : Nat},u < 2 ^ K → ¬ Over u := fun h => not_over h (by omega)
  have one_lt : 1 < 2 ^ K := Nat.one_lt_two_pow (by rw [hK]; decide)
  rcases Nat.eq_zero_or_pos p with p0 | p0
  ·have ht0 : t = 0 := by
    rw [p0,Nat.gcd_zero_left] at hg
    rcases Nat.eq_zero_or_pos t with h | h
    ·exact h
    ·have : 2 ^ 1 ≤ 2 ^ t := Nat.pow_le_pow_right (by decide) h
     omega
   have hr : r = false := by
    cases r
    ·rfl
    ·have := hs rfl; omega
   subst ht0
   subst hr
   refine Or.inr ⟨false,0,0,p,0,gN,gD,fun W hW => of_dy (by omega) hg (fun h => by cases h) (Or.inl ⟨p0,rfl,rfl,rfl⟩) W b k l b' k' l' (gN.kept hW) hkl hll (gD.kept hW) (hT.kept hW),fun W A N C g => ?_⟩
   have := ratio_ok (s := false) (m := 0) (x := 0) (Or.inl ⟨rfl,rfl,rfl⟩) (i := 0) (j := 0) (by simp) (by simp) (noO (by rw [Nat.zero_mul]; exact pow_pos2 K)) (noO (by rw [Nat.pow_zero,Nat.mul_one]; exact one_lt)) W A N C g
   rw [p0]
   simpa using this
  ·obtain ⟨z,hz,hz2⟩ := tz_ex p0 mY
   rw [hK] at hz2
   have hodd := hz.down
   have hA : OkD r (p / 2 ^ z) (-(t : Int) + (z : Int)) := Or.inr ⟨hodd.1,by omega,by omega⟩
   refine Or.inr ⟨r,p / 2 ^ z,-(t : Int) + (z : Int),p,t,gN,gD,fun W hW => of_dy (by omega) hg hs (Or.inr ⟨p0,rfl,z,hz,hz2,rfl,rfl⟩) W b k l b' k' l' (gN.kept hW) hkl hll (gD.kept hW) (hT.kept hW),fun W A N C g => ?_⟩
   rcases Nat.eq_zero_or_pos t with t0 | t0
   ·subst t0
    have := ratio_ok hA (i := z) (j := 0) (by omega) (by omega) (noO (by rw [hodd.2]; exact mY)) (noO (by rw [Nat.pow_zero,Nat.mul_one]; exact one_lt)) W A N C g
    rw [hodd.2] at this
    simpa using this
   ·have hz0 : z = 0 := by
     rcases Nat.eq_zero_or_pos z with h | h
     ·exact h
     ·exfalso
      have d1 : 2 ∣ p := by
       obtain ⟨u,hu⟩ := hz
       obtain ⟨z1,rfl⟩ : ∃ z1,z = z1 + 1 := ⟨z - 1,by omega⟩
       exact ⟨2 ^ z1 * (2 * u + 1),by rw [hu,Nat.pow_succ]; ac_rfl⟩
      have d2 : 2 ∣ 2 ^ t := by
       obtain ⟨t1,rfl⟩ : ∃ t1,t = t1 + 1 := ⟨t - 1,by omega⟩
       exact ⟨2 ^ t1,by rw [Nat.pow_succ]; ac_rfl⟩
      have := Nat.dvd_gcd d1 d2
      rw [hg] at this
      have := Nat.le_of_dvd (by decide) this
      omega
    subst hz0
    have := ratio_ok hA (i := 0) (j := t) (by omega) (by omega) (noO (by rw [Nat.pow_zero,Nat.mul_one,Nat.div_one]; exact mY)) (noO (by rw [Nat.one_mul]; exact mZ)) W A N C g
    simpa using this
 have hD : (∃ er : Int,(er == 0) = false ∧ ∀ W : World,Below w.heap.size w W → Calls Tryd.prog 23 #[.agg #[.bool s,.slice a n cap,.int .i64 x]] W fun e w' => e = .returned (.tuple #[.agg #[.bool false,.slice none 0 0,.slice none 0 0],.int .i64 er]) ∧ Below W.heap.size W w') ∨
   (∃ m V M : Nat,Num w a n m ∧ (∀ W : World,Below w.heap.size w W → Calls Tryd.prog 23 #[.agg #[.bool s,.slice a n cap,.int .i64 x]] W fun e w' => (∃ A N C A' N' C',e = .returned (.tuple #[.agg #[.bool s,.slice A N C,.slice A' N' C'],.int .i64 0]) ∧ Mine w' W.heap.size A N C V ∧ Mine w' W.heap.size A' N' C' M) ∧ Below W.heap.size W w') ∧
    (∀ (W : World) (A : Option Addr) (N C : Nat) (A' : Option Addr) (N' C' : Nat),Num W A N V → N ≤ C → C ≤ 9223372036854775807 → Num W A' N' M → Tb W → Calls Tryd.prog 26 #[.agg #[.bool s,.slice A N C,.slice A' N' C']] W fun e w' => (∃ A N C,e = .returned (.tuple #[.agg #[.bool s,.slice A N C,.int .i64 x],.bool true,.int .i64 0]) ∧ Mine w' W.heap.size A N C m) ∧ Below W.heap.size W w')) := by
  by_cases hc : dck s xs x = 0
  case neg => exact Or.inl ⟨dck s xs x,by simpa using hc,fun W hW => xr_err s a n cap x _ W (by simpa using hc) (hide fun W' hW' => dcheck_any s a n cap xs x W' hn hb (hl.below (gr_trans hW hW')) hw)⟩
  obtain ⟨c1,hA⟩ := dck_okd hc
  have gA := dck_num hn hl hw c1
  have hlen := (chk_zero c1).1
  generalize Pl.val xs = m at hA gA
  have hx : -1073741824 ≤ x ∧ x ≤ 1073741824 := by
   rcases hA with ⟨_,_,h⟩ | ⟨_,h⟩
   ·omega
   ·exact h
  obtain ⟨i,hi⟩ : ∃ i : Nat,max x 0 = (i : Int) := ⟨(max x 0).toNat,by omega⟩
  obtain ⟨j,hj⟩ : ∃ j : Nat,max (-x) 0 = (j : Int) := ⟨(max (-x) 0).toNat,by omega⟩
  have ck : ∀ (W : World) (A : Option Addr) (N C : Nat),Num W A N m → Calls Tryd.prog 29 #[.agg #[.bool s,.slice A N C,.int .i64 x]] W fun e w' => e = .returned (.int .i64 0) ∧ Below W.heap.size W w' := fun W A N C g => dcheck_dy s A N C m x W ⟨g,hA⟩
  have over : ∀ {u t : Nat},Over (u * 2 ^ t) → t < 9223372036854775808 → ∀ (W : World) (A : Option Addr) (N C : Nat),Num W A N u → Calls Tryd.prog 59 #[.agg #[.slice A N C],.int .i64 (t : Int)] W fun en W' => en = .returned (.tuple #[.agg #[.slice none 0 0],.int .i64 4]) ∧ Below W.heap.size W W' := fun ho ht W A N C g => by
   refine (up_any A N C _ _ W g ht).mono ?_
   rintro e w' ⟨h1,hb⟩
   rcases h1 with ⟨a,n,c,rfl,h1⟩ | ⟨h1,_⟩
   ·exact absurd h1.num.lt (Nat.not_lt.2 ho.le)
   ·exact ⟨h1,hb⟩
  by_cases hV : Over (m * 2 ^ i)
  ·exact Or.inl ⟨4,rfl,fun W hW => xr_over s a n cap x i W hi (hide fun W' hW' => ck W' a n cap (gA.kept (gr_trans hW hW'))) (hide fun W' hW' => over hV (by omega) W' a n cap (gA.kept (gr_trans hW hW')))⟩
  by_cases hM : Over (1 * 2 ^ j)
  ·refine Or.inl ⟨4,rfl,fun W hW => xr_many W s a n cap m x i j (m * 2 ^ i) 0 4 (gA.kept hW) hx hi hj (by decide) (hide ck) (hide fun W A N C g => ?_) (hide fun W A N C g => ?_)⟩
   ·refine (up_any A N C _ _ W g (by omega)).mono ?_
    rintro e w' ⟨h1,hb⟩
    rcases h1 with h1 | ⟨_,h1⟩
    ·exact ⟨h1,hb⟩
    ·exact absurd h1 hV
   ·refine (over hM (by omega) W A N C g).mono ?_
    rintro e w' ⟨h1,hb⟩
    exact ⟨⟨none,0,0,h1,mine_nil _ _⟩,hb⟩
  ·have hj2 : j ≤ 524288 := by
    refine Nat.le_of_not_lt fun h => hM ⟨?_⟩
    rw [Nat.one_mul,show (4294967296 : Nat) = 2 ^ 32 from rfl,← Nat.pow_mul]
    exact Nat.pow_le_pow_right (by decide) (by have := Pl.top_eq; omega)
   refine Or.inr ⟨m,m * 2 ^ i,1 * 2 ^ j,gA,fun W hW => ratio_ok hA hi hj hV hM W a n cap (gA.kept hW),?_⟩
   rw [Nat.one_mul]
   rcases hA with ⟨rfl,rfl,rfl⟩ | ⟨ho,_⟩
   ·obtain rfl : i = 0 := by omega
    obtain rfl : j = 0 := by omega
    exact of_dy (by omega) (by simp) (fun h => by cases h) (Or.inl ⟨by simp,rfl,rfl,rfl⟩)
   ·have tz : Tz (m * 2 ^ i) i := ⟨m / 2,by rw [Nat.mul_comm]; congr 1; omega⟩
    have hp : 0 < m * 2 ^ i := Nat.mul_pos (by omega) (pow_pos2 i)
    have hi2 : i < 524288 := by
     refine Nat.lt_of_not_le fun h => hV ⟨?_⟩
     rw [show (4294967296 : Nat) = 2 ^ 32 from rfl,← Nat.pow_mul]
     exact Nat.le_trans (Nat.pow_le_pow_right (by decide) (by have := Pl.top_eq; omega)) (Nat.le_mul_of_pos_left _ (by omega))
    have hco : Nat.gcd (m * 2 ^ i) (2 ^ j) = 1 := by
     rcases Nat.eq_zero_or_pos j with h | h
     ·rw [h]; simp
     ·obtain rfl : i = 0 := by omega
      rw [Nat.pow_zero,Nat.mul_one]
      exact odd_co ho
    exact of_dy hj2 hco (fun _ => hp) (Or.inr ⟨hp,rfl,i,tz,hi2,by rw [Nat.mul_div_cancel _ (pow_pos2 i)],by omega⟩)
 rcases hD with ⟨er,he,hr1⟩ | ⟨m,V,M,gA,hr1,ho1⟩
 ·rcases hR with ⟨c,rfl | rfl,ho2⟩ | ⟨q,v,y,p,t,g1,g2,ho2,hr2⟩
  ·exact back_bad_err s a n cap 0 x r b k l 0 b' k' l' 0 er w hT (hide hr1) he (hide ho2)
  ·exact back_bad_no s a n cap 0 x r b k l 0 b' k' l' 0 er w hT (hide hr1) he (hide ho2)
  ·exact back_bad_yes s a n cap 0 x r b k l p b' k' l' (2 ^ t) er q v y w hT (hide hr1) he (hide ho2) (hide hr2) g1 g2
 ·rcases hR with ⟨c,rfl | rfl,ho2⟩ | ⟨q,v,y,p,t,g1,g2,ho2,hr2⟩
  ·exact back_ok_err s a n cap m x r b k l 0 b' k' l' 0 V M w hT gA (hide hr1) (hide ho1) (hide ho2)
  ·exact back_ok_no s a n cap m x r b k l 0 b' k' l' 0 V M w hT gA (hide hr1) (hide ho1) (hide ho2)
  ·exact back_ok_yes s a n cap m x r b k l p b' k' l' (2 ^ t) V M q v y w hT gA (hide hr1) (hide ho1) (hide ho2) (hide hr2) g1 g2
end Go.Proofs.YtecmcjlgknfnlaaDoor
