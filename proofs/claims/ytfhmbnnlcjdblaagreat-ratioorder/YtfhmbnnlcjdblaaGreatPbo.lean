/- Of what RatioOrderRow stands on: Rc8Law. -/
import Derived.Test.YtfhmbnnlcjdblaaGreatPbc
import Derived.Test.YtfhmbnnlcjdblaaGreatPbn
import Derived.Test.YtfhmbnnlcjdblaaGreatPax
namespace Go.Proofs.YtfhmbnnlcjdblaaGreat
open Go.RowKit
theorem rat_pos {q:Rat} (h:0 < q):0 < q.num:=by
 have h1:=(Rat.lt_iff 0 q).1 h
 have e1:(0:Rat).num = 0:=rfl
 have e2:(0:Rat).den = 1:=rfl
 rw [e1,e2] at h1
 omega
theorem mk_one (i:Int):mkRat i 1 = (i:Rat):=Rat.mkRat_self (i:Rat)
theorem over_not {m k:Nat} (h:m < 2 ^ k) (hk:k≤1000):¬ Over m:=fun o=>by
 have h1:2 ^ k≤4294967296 ^ Pl.top:=by
  rw [pow32]; exact Nat.pow_le_pow_right (by decide) (by rw [Pl.top_eq]; omega)
 have:=o.le
 omega
theorem over_cross {j k:Nat} {x y:Rat} (hx:Bd j x) (hy:Bd k y) (h:j+k≤1000):¬ Over (x.num.natAbs * y.den):=over_not (mul_bits hx.1 hy.2) h
theorem ordR_cases (x y:Rat):ordR x y = -1∨ordR x y = 0∨ordR x y = 1:=by
 unfold ordR
 by_cases h:x = y
 ·rw [if_pos h]; exact Or.inr (Or.inl rfl)
 ·rw [if_neg h]
  by_cases h2:x < y
  ·rw [if_pos h2]; exact Or.inl rfl
  ·rw [if_neg h2]; exact Or.inr (Or.inr rfl)
theorem ordR_zero (x y:Rat):decide (x = y) = decide (ordR x y = 0):=by
 rw [decide_eq_decide]
 unfold ordR
 by_cases h:x = y
 ·rw [if_pos h]; exact ⟨fun _=>rfl,fun _=>h⟩
 ·rw [if_neg h]
  by_cases h2:x < y
  ·rw [if_pos h2]; exact ⟨fun e=>absurd e h,fun e=>absurd e (by decide)⟩
  ·rw [if_neg h2]; exact ⟨fun e=>absurd e h,fun e=>absurd e (by decide)⟩
theorem ROk.mine {w:World} {base:Nat} {en:Ending} {z:Rat} (h:ROk w base en z) (h1:¬ Over z.num.natAbs) (h2:¬ Over z.den):∃ a n c a' n' c',en = .returned (.tuple #[.agg #[.bool (decide (z.num < 0)),.slice a n c,.slice a' n' c'],.int .i64 0])∧Mine w base a n c z.num.natAbs∧Mine w base a' n' c' z.den:=by
 obtain ⟨s,a,n,c,a',n',c',r,e,h|h⟩:=h
 ·obtain ⟨rfl,e1,e2,e3⟩:=h
  subst e1
  exact ⟨a,n,c,a',n',c',e,e2,e3⟩
 ·exact absurd h.2.2 (fun o=>o.elim h1 h2)
theorem ROk.nums {w:World} {base:Nat} {en:Ending} {z:Rat} (h:ROk w base en z) (h1:¬ Over z.num.natAbs) (h2:¬ Over z.den):∃ a n c a' n' c',en = .returned (.tuple #[.agg #[.bool (decide (z.num < 0)),.slice a n c,.slice a' n' c'],.int .i64 0])∧Num w a n z.num.natAbs∧Num w a' n' z.den:=by
 obtain ⟨a,n,c,a',n',c',e,e1,e2⟩:=h.mine h1 h2
 exact ⟨a,n,c,a',n',c',e,e1.num,e2.num⟩
theorem lsign_any (x y:Rat) (A:Option Addr) (N C:Nat) (D:Option Addr) (M E:Nat) (w:World) (h:Num w A N (x - y).num.natAbs) :
  Calls Tryz.prog 12 #[.agg #[.bool (decide ((x - y).num < 0)),.slice A N C,.slice D M E]] w fun e w'=>e = .returned (.int .i64 (ordR x y))∧Below w.heap.size w w':=by
 have hpos:∀ n:Nat,Num w A N n→n≠0→∃ k,N = k+1:=fun n hn h0=>by
  cases N with
  | zero=>exact absurd (hn.zero.1 rfl) h0
  | succ k=>exact ⟨k,rfl⟩
 by_cases hxy:x = y
 ·have hz:(x - y).num = 0:=by rw [hxy,Rat.sub_self]; rfl
  have hN:N = 0:=h.zero.2 (by rw [hz]; rfl)
  subst hN
  rw [ordR_eq hxy]
  exact lsign_0 _ A C D M E w
 ·by_cases hl:x < y
  ·have h1:=rat_pos ((Rat.lt_iff_sub_pos x y).1 hl)
   have h2:(x - y).num < 0:=by rw [← Rat.neg_sub,Rat.neg_num]; omega
   obtain ⟨k,rfl⟩:=hpos _ h (by omega)
   rw [decide_eq_true h2,ordR_lt ((Rat.lt_iff x y).1 hl)]
   exact lsign_t k A C D M E w
  ·have hg:y < x:=by
    rcases Rat.le_total (a:=x) (b:=y) with h3|h3
    ·exact absurd (Rat.le_antisymm h3 (Rat.not_lt.1 hl)) hxy
    ·exact Rat.not_le.1 (fun h4=>hxy (Rat.le_antisymm h4 h3))
   have h1:=rat_pos ((Rat.lt_iff_sub_pos y x).1 hg)
   obtain ⟨k,rfl⟩:=hpos _ h (by omega)
   rw [decide_eq_false (by omega),ordR_gt ((Rat.lt_iff y x).1 hg)]
   exact lsign_f k A C D M E w
theorem floor_any (x:Rat):∃ (sf:Bool) (nf:Nat),(∀ (W:World) (A:Option Addr) (N C:Nat) (D:Option Addr) (M E:Nat),Num W A N x.num.natAbs→Num W D M x.den →
   Calls Tryz.prog 8 #[.agg #[.bool (decide (x.num < 0)),.slice A N C,.slice D M E]] W fun e w'=>(∃ A N C,e = .returned (.tuple #[.bool sf,.agg #[.slice A N C],.int .i64 0])∧Num w' A N nf)∧Below W.heap.size W w') ∧
  Rm.sgn sf nf * (x.den:Int)≤x.num∧x.num < (Rm.sgn sf nf+1) * (x.den:Int)∧nf≤x.num.natAbs+1:=by
 have hd:0 < x.den:=Nat.pos_of_ne_zero x.den_nz
 have hq:=Nat.div_add_mod x.num.natAbs x.den
 have hr:=Nat.mod_lt x.num.natAbs hd
 have hle:=Nat.div_le_self x.num.natAbs x.den
 have hc:((x.num.natAbs / x.den:Nat):Int) * (x.den:Int) = ((x.den * (x.num.natAbs / x.den):Nat):Int):=by rw [Nat.mul_comm]; push_cast; rfl
 by_cases hn:x.num < 0
 ·by_cases h0:x.num.natAbs % x.den = 0
  ·refine ⟨true,x.num.natAbs / x.den,fun W A N C D M E h1 h2=>?_,?_,?_,by omega⟩
   ·rw [decide_eq_true hn]
    refine (floor_whole A D N M C E x W ⟨(decide_eq_true hn).symm,h1,h2⟩ h0).mono ?_
    rintro en w' ⟨⟨b,k,l,e,hm⟩,hb⟩
    exact ⟨⟨b,k,l,e,hm.num⟩,hb⟩
   ·show -((x.num.natAbs / x.den:Nat):Int) * (x.den:Int)≤x.num
    rw [Int.neg_mul,hc]; omega
   ·show x.num < (-((x.num.natAbs / x.den:Nat):Int)+1) * (x.den:Int)
    rw [Int.add_mul,Int.neg_mul,hc]; omega
  ·refine ⟨true,x.num.natAbs / x.den+1,fun W A N C D M E h1 h2=>?_,?_,?_,by omega⟩
   ·rw [decide_eq_true hn]
    refine (floor_below A D N M C E x W ⟨(decide_eq_true hn).symm,h1,h2⟩ h0).mono ?_
    rintro en w' ⟨⟨b,k,l,e,hm⟩,hb⟩
    exact ⟨⟨b,k,l,e,hm.num⟩,hb⟩
   ·show -((x.num.natAbs / x.den+1:Nat):Int) * (x.den:Int)≤x.num
    rw [Int.natCast_add,Int.neg_mul,Int.add_mul,hc]; omega
   ·show x.num < (-((x.num.natAbs / x.den+1:Nat):Int)+1) * (x.den:Int)
    have e1:-((x.num.natAbs / x.den+1:Nat):Int)+1 = -((x.num.natAbs / x.den:Nat):Int):=by omega
    rw [e1,Int.neg_mul,hc]; omega
 ·refine ⟨false,x.num.natAbs / x.den,fun W A N C D M E h1 h2=>?_,?_,?_,by omega⟩
  ·rw [decide_eq_false hn]
   refine (floor_above A D N M C E x W ⟨(decide_eq_false hn).symm,h1,h2⟩).mono ?_
   rintro en w' ⟨⟨b,k,l,e,hm⟩,hb⟩
   exact ⟨⟨b,k,l,e,hm.num⟩,hb⟩
  ·show ((x.num.natAbs / x.den:Nat):Int) * (x.den:Int)≤x.num
   rw [hc]; omega
  ·show x.num < (((x.num.natAbs / x.den:Nat):Int)+1) * (x.den:Int)
   rw [Int.add_mul,hc]; omega
theorem made_nums {W:World} {s:Bool} {a1 a2:Option Addr} {n1 n2 c1 c2:Nat} {xs ys:List Nat} (h1:SArg W a1 n1 c1 xs) (h2:SArg W a2 n2 c2 ys) {x:Rat} (hx:x = rawRat s xs ys) :
  Calls Tryz.prog 5 #[.agg #[.bool s,.slice a1 n1 c1,.slice a2 n2 c2]] W fun e w'=>(∃ A N C A' N' C',e = .returned (.tuple #[.agg #[.bool (decide (x.num < 0)),.slice A N C,.slice A' N' C'],.bool true])∧Num w' A N x.num.natAbs∧Num w' A' N' x.den)∧Below W.heap.size W w':=by
 subst hx
 refine (made_any s a1 a2 n1 n2 c1 c2 xs ys W h1 h2).mono ?_
 rintro en w' ⟨⟨t,a,n,c,a',n',c',e,hq⟩,hb⟩
 obtain ⟨g1,g2,g3⟩:=hq
 subst g1
 exact ⟨⟨a,n,c,a',n',c',e,g2,g3⟩,hb⟩
theorem order_any (s1 s2:Bool) (p1 q1 p2 q2:Option Addr) (i1 j1 u1 v1 i2 j2 u2 v2:Nat) (xs1 ys1 xs2 ys2:List Nat) (w:World)
  (h1a:SArg w p1 i1 j1 xs1) (h1b:SArg w q1 u1 v1 ys1) (h2a:SArg w p2 i2 j2 xs2) (h2b:SArg w q2 u2 v2 ys2) :
  Calls Tryz.prog 3 #[.agg #[.bool s1,.slice p1 i1 j1,.slice q1 u1 v1],.agg #[.bool s2,.slice p2 i2 j2,.slice q2 u2 v2]] w fun e w'=>e = .returned (.bool true)∧Below w.heap.size w w':=by
 obtain ⟨x,hx⟩:∃ r,r = rawRat s1 xs1 ys1:=⟨_,rfl⟩
 obtain ⟨y,hy⟩:∃ r,r = rawRat s2 xs2 ys2:=⟨_,rfl⟩
 have bx:Bd 160 x:=by rw [hx]; exact raw_bd h1a.wf h1b.wf
 have b_y:Bd 160 y:=by rw [hy]; exact raw_bd h2a.wf h2b.wf
 have bd:=bx.sub b_y
 obtain ⟨sf,nf,hF,hlo,hhi,hnf⟩:=floor_any x
 obtain ⟨i,hi⟩:∃ i,i = Rm.sgn sf nf:=⟨_,rfl⟩
 rw [← hi] at hlo hhi
 have hia:i.natAbs = nf:=by rw [hi,Rm.sgn_abs]
 have bl:Bd 161 (i:Rat):=⟨by rw [Rat.num_intCast,hia]; have:=bx.1; rw [Nat.pow_succ]; omega,by rw [Rat.den_intCast]; exact Nat.one_lt_two_pow (by decide)⟩
 have b1:Bd 1 (1:Rat):=⟨by decide,by decide⟩
 have bh:=bl.add b1
 have eh:(i:Rat)+1 = ((i+1:Int):Rat):=by rw [Rat.intCast_add]; rfl
 refine order_walk w s1 s2 p1 q1 p2 q2 i1 j1 u1 v1 i2 j2 u2 v2 (decide (x.num < 0)) (decide (y.num < 0)) (decide ((x - y).num < 0)) sf (decide ((i:Rat).num < 0)) (decide (((i:Rat)+1).num < 0)) x.num.natAbs x.den y.num.natAbs y.den (x - y).num.natAbs (x - y).den nf (i:Rat).num.natAbs (i:Rat).den ((i:Rat)+1).num.natAbs ((i:Rat)+1).den (ordR x y) (ordR (i:Rat) x) (hide (ordR_cases x y)) (hide ?_)
  (hide (fun W hb=>made_nums (h1a.kept hb) (h1b.kept hb) hx)) (hide (fun W hb=>made_nums (h2a.kept hb) (h2b.kept hb) hy))
  (hide (fun W Aa Na Ca Da Ma Ea Ab Nb Cb Db Mb Eb k1 k2 k3 k4=>cmp_rat _ _ Aa Da Ab Db Na Ma Nb Mb Ca Ea Cb Eb x y W ⟨rfl,k1,k2⟩ ⟨rfl,k3,k4⟩ (over_cross bx b_y (by decide)) (over_cross b_y bx (by decide))))
  (hide (fun W Aa Na Ca Da Ma Ea Ab Nb Cb Db Mb Eb k1 k2 k3 k4=>(sub_rat _ _ Aa Da Ab Db Na Ma Nb Mb Ca Ea Cb Eb x y W ⟨rfl,k1,k2⟩ ⟨rfl,k3,k4⟩).mono (fun e w' h=>⟨h.1.nums (bd.ok (by decide)).1 (bd.ok (by decide)).2,h.2⟩)))
  (hide hF)
  (hide (fun W A N C A' N' C' k1 k2=>(make_rat sf A A' N N' C C' nf 1 W k1 k2 (by decide)).mono (fun e w' h=>⟨by have h1:=h.1; rw [← hi,mk_one] at h1; exact h1.nums (bl.ok (by decide)).1 (bl.ok (by decide)).2,h.2⟩)))
  (hide whole_one)
  (hide (fun W Al Nl Cl Dl Ml El A N C A' N' C' k1 k2 k3 k4=>(add_rat _ _ Al Dl A A' Nl Ml N N' Cl El C C' (i:Rat) 1 W ⟨rfl,k1,k2⟩ ⟨rfl,k3,k4⟩).mono (fun e w' h=>⟨h.1.mine (bh.ok (by decide)).1 (bh.ok (by decide)).2,h.2⟩)))
  (hide (fun W Al Nl Cl Dl Ml El Aa Na Ca Da Ma Ea k1 k2 k3 k4=>cmp_rat _ _ Al Dl Aa Da Nl Ml Na Ma Cl El Ca Ea (i:Rat) x W ⟨rfl,k1,k2⟩ ⟨rfl,k3,k4⟩ (over_cross bl bx (by decide)) (over_cross bx bl (by decide))))
  (hide (fun W Aa Na Ca Da Ma Ea Ah Nh Ch Dh Mh Eh k1 k2 k3 k4=>?_))
  (hide (fun W Ad Nd Cd Dd Md Ed k1 k2=>lsign_any x y Ad Nd Cd Dd Md Ed W k1))
  (hide (fun W Aa Na Ca Da Ma Ea Ab Nb Cb Db Mb Eb k1 k2 k3 k4=>?_))
 ·by_cases he:(i:Rat) = x
  ·exact Or.inr (ordR_eq he)
  ·refine Or.inl (ordR_lt ?_)
   have hne:=rat_ne he
   rw [Rat.num_intCast,Rat.den_intCast] at hne ⊢
   omega
 ·have hc:ordR x ((i:Rat)+1) = -1:=ordR_lt (by
   rw [eh,Rat.num_intCast,Rat.den_intCast]
   omega)
  rw [← hc]
  exact cmp_rat _ _ Aa Da Ah Dh Na Ma Nh Mh Ca Ea Ch Eh x ((i:Rat)+1) W ⟨rfl,k1,k2⟩ ⟨rfl,k3,k4⟩ (over_cross bx bh (by decide)) (over_cross bh bx (by decide))
 ·rw [← ordR_zero]
  exact lawSame_dec _ _ Aa Da Ab Db Na Ma Nb Mb Ca Ea Cb Eb x y W ⟨rfl,k1,k2⟩ ⟨rfl,k3,k4⟩
end Go.Proofs.YtfhmbnnlcjdblaaGreat
