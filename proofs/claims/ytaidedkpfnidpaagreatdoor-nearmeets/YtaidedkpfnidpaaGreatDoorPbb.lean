/- Of what NearMeetsRow stands on: RzAny SRatC RsAll RcM SOrdA RcW RcBor. -/
import Derived.Test.YtaidedkpfnidpaaGreatDoorPba
import Derived.Test.YtaidedkpfnidpaaGreatDoorPan
import Derived.Test.YtaidedkpfnidpaaGreatDoorPam
import Derived.Test.YtaidedkpfnidpaaGreatDoorPao
import Derived.Test.YtaidedkpfnidpaaGreatDoorPae
import Derived.Test.YtaidedkpfnidpaaGreatDoorPaq
import Derived.Test.YtaidedkpfnidpaaGreatDoorPaz
import Derived.Test.YtaidedkpfnidpaaGreatDoorPah
import Derived.Test.YtaidedkpfnidpaaGreatDoorPat
import Derived.Test.YtaidedkpfnidpaaGreatDoorPax
import Derived.Test.YtaidedkpfnidpaaGreatDoorPau
import Derived.Test.YtaidedkpfnidpaaGreatDoorPak
import Derived.Test.YtaidedkpfnidpaaGreatDoorPap
import Derived.Test.YtaidedkpfnidpaaGreatDoorPay
namespace Go.Proofs.YtaidedkpfnidpaaGreatDoor
open Go.RowKit
set_option maxHeartbeats 2000000
set_option maxRecDepth 20000
theorem zans {w:World} {base:Nat} {e:Ending} {m:Nat} (h:Ans w base e m) (hn:¬ Over m):∃ a n cap,e = .returned (.tuple #[.agg #[.slice a n cap],.int .i64 0])∧Mine w base a n cap m:=by
 rcases h with h|h
 ·exact h
 ·exact absurd h.2 hn
theorem wmul_ok (p:Nat) {x y:Nat} (ho:¬ Over (x * y)):WTwo 77 p x y (x * y):=fun W a n c a' n' c' hR h h'=>
 zmul W p a a' n n' c c' x y _ hR h h' (hide fun W a n c a' n' c' h h'=>(mul_any a a' n n' c c' x y W h h').mono fun _ _ ⟨k,hb⟩=>⟨zans k ho,hb⟩)
theorem wcmp_ok (p x y:Nat):WCmp p x y (cmpI x y):=fun W a n c a' n' c' hR h h'=>
 zcmp W p a a' n n' c c' x y _ hR h h' (hide fun W a n c a' n' c' h h'=>cmpN_any a a' n n' c c' x y W h h')
theorem Mine.limb {w:World} {B:Nat} {a:Option Addr} {n c m:Nat} (h:Mine w B a n c m) (h0:0 < m) (h1:m < 4294967296):n = 1∧∃ b,a = some ⟨b,0,none⟩∧w.cell? ⟨b,0,none⟩ = some (.int .u32 (m:Int)):=by
 have hn:n = 1:=by
  obtain ⟨xs,hl,-,hw,hN,hv,-⟩:=h
  match xs,hl,hw,hN,hv with
  | [],hl,_,_,hv=>simp [Pl.val] at hv; omega
  | [x],hl,_,_,_=>simpa using hl.symm
  | x :: y :: r,hl,hw,hN,hv=>
   exfalso
   have h3:Pl.val (y :: r)≠0:=by
    intro h4
    have:=Pl.norm_lower (xs:=x :: y :: r) hN (by simp)
    simp only [Pl.val] at this hv h4
    have h5:(4294967296:Nat) ^ 1≤4294967296 ^ ((x :: y :: r).length - 1):=Nat.pow_le_pow_right (by omega) (by simp)
    omega
   simp only [Pl.val] at hv h3
   omega
 refine ⟨hn,?_⟩
 subst hn
 obtain ⟨xs,hl,ho,hw,hN,hv,-⟩:=h
 match xs,hl,ho,hv with
 | [x],_,ho,hv=>
  simp [Pl.val] at hv
  subst hv
  rcases ho with ⟨e,-⟩|⟨g,cap,cur,e,hg,hh,-,-,-,hc⟩
  ·cases e
  ·injection e with e1 e2 e3
   refine ⟨g,e1,?_⟩
   rw [cell_of_row w g 0 _ _ _ hh]
   have:=hc 0 (by simp)
   simpa using this
theorem Plc.whole {p d B F G M K:Nat} {X:Int} {r0 ρ w:Nat} (h:Plc p d B F G M K X r0 ρ w) {S I:Nat} (hI:r0 < I) (h0:ρ = 0) (md:Nat) (s:Bool):bitsR S I md s (rowR B F md s M K X) = (if s then S else 0)+r0∧flagR B F I md s M K X = 0:=by
 have hr:rowR B F md s M K X = r0:=by rw [h.row,if_pos h0]; omega
 refine ⟨?_,?_⟩
 ·unfold bitsR; rw [hr,if_pos hI]
 ·unfold flagR; rw [hr,if_neg (by omega),if_pos (h.ex.2 h0)]
theorem fth_one (md:Nat) (s o:Bool):fth md s o 1 = fth md s false 1:=by
 match md with
 | 0=>rfl
 | 1=>rfl
 | 2=>rfl
 | 3=>rfl
 | n+4=>rfl
theorem fth_inf {md:Nat} {s o:Bool} {h:Int} (hh:h≤1) (hf:fth md s o h = true):fth md s false 1 = true:=by
 rw [← fth_one md s o]; exact fth_mono hh hf
theorem s3_le (a b:Nat):s3 a b≤1:=by unfold s3; split <;> (try split) <;> omega
theorem Plc.apart {p d B F G M K:Nat} {X:Int} {r0 ρ w:Nat} (h:Plc p d B F G M K X r0 ρ w) (hd:0 < d) {S I:Nat} (hI0:0 < I) (hne:¬ (ρ = 0∧r0 < I)) :
  ∃ (lo:Nat) (hh:Int),lo < I∧pv F lo * d < p * 2 ^ G∧(lo+1 < I→p * 2 ^ G < pv F (lo+1) * d∧hh = s3 (2 * (p * 2 ^ G)) ((pv F lo+pv F (lo+1)) * d)) ∧
   ∀ md s,bitsR S I md s (rowR B F md s M K X) = (if s then S else 0)+(lo+if fth md s (decide (lo % 2 = 1)) hh then 1 else 0)∧(flagR B F I md s M K X = 1∨flagR B F I md s M K X = 3∨flagR B F I md s M K X = 5):=by
 by_cases hI:r0 < I
 ·have h0:ρ≠0:=fun e=>hne ⟨e,hI⟩
  have hlt:pv F r0 * d < p * 2 ^ G:=Nat.lt_of_le_of_ne h.le fun e=>h0 (h.eq.2 e)
  refine ⟨r0,hlf ρ w,hI,hlt,fun _=>⟨h.lt,h.half⟩,fun md s=>⟨?_,?_⟩⟩
  ·have hr:=h.row md s
   rw [if_neg h0] at hr
   unfold bitsR
   congr 1
   rw [hr]
   by_cases hf:fth md s (decide (r0 % 2 = 1)) (hlf ρ w) = true
   ·rw [if_pos hf]
    by_cases h1:r0+1 < I
    ·rw [if_pos h1]
    ·rw [if_neg h1,if_pos (fth_inf (by rw [hlf_s3]; exact s3_le _ _) hf),show I = r0+1 by omega]
   ·rw [if_neg hf,Nat.add_zero,if_pos hI]
  ·unfold flagR
   rw [if_neg (c:=lastP B F K X≤X) (fun e=>h0 (h.ex.1 e))]
   split
   ·exact Or.inr (Or.inl rfl)
   ·split
    ·exact Or.inr (Or.inr rfl)
    ·exact Or.inl rfl
 ·obtain ⟨J,rfl⟩:∃ J,I = J+1:=⟨I - 1,by omega⟩
  have hge:∀ md s,J+1≤rowR B F md s M K X:=fun md s=>by rw [h.row]; omega
  refine ⟨J,1,by omega,?_,fun h1=>absurd h1 (by omega),fun md s=>⟨?_,?_⟩⟩
  ·refine Nat.lt_of_lt_of_le (Nat.mul_lt_mul_of_pos_right (pv_lt (show J < r0 by omega)) hd) h.le
  ·unfold bitsR
   congr 1
   rw [if_neg (show ¬ rowR B F md s M K X < J+1 by have:=hge md s; omega),fth_one md s (decide (J % 2 = 1))]
   split <;> rfl
  ·unfold flagR
   rw [if_pos (hge md s)]; exact Or.inr (Or.inl rfl)
def bdm (md:Nat) (s:Bool) (F a:Nat):Nat:=if md≤1 then pv F a+pv F (a+1) else if fth md s false 1 then 2 * pv F a else 2 * pv F (a+1)
def inb (md:Nat) (s:Bool) (r:Nat):Bool:=if md = 0 then decide (r % 2 = 0) else if md = 1 then true else !fth md s false 1
def outb (md:Nat) (s:Bool) (r:Nat):Bool:=if md = 0 then decide (r % 2 = 0) else if md = 1 then false else fth md s false 1
structure Rin (md:Nat) (s:Bool) (F r h d:Nat):Prop where
 lo:r = 0∨bdm md s F (r - 1) * d < h∨(bdm md s F (r - 1) * d = h∧inb md s r = true)
 hi:h < bdm md s F r * d∨(h = bdm md s F r * d∧outb md s r = true)
theorem rin_iff {md:Nat} {s:Bool} {F r h d:Nat}:Rin md s F r h d↔(r = 0∨bdm md s F (r - 1) * d < h∨(bdm md s F (r - 1) * d = h∧inb md s r = true))∧(h < bdm md s F r * d∨(h = bdm md s F r * d∧outb md s r = true)):=
 ⟨fun h=>⟨h.lo,h.hi⟩,fun h=>⟨h.1,h.2⟩⟩
theorem bdm_lt {md:Nat} {s:Bool} {F a b:Nat} (h:a < b):bdm md s F a < bdm md s F b:=by
 have h1:=pv_lt (F:=F) h
 have h2:=pv_lt (F:=F) (show a+1 < b+1 by omega)
 unfold bdm
 split
 ·omega
 ·split <;> omega
theorem in_out (md:Nat) (s:Bool) (r:Nat):inb md s (r+1) = !outb md s r:=by
 unfold inb outb
 split
 ·by_cases h:r % 2 = 0
  ·rw [decide_eq_true h,decide_eq_false (by omega)]; rfl
  ·rw [decide_eq_false h,decide_eq_true (by omega)]; rfl
 ·split <;> rfl
theorem Rin.no {md:Nat} {s:Bool} {F r r' h d:Nat} (hd:0 < d) (a:Rin md s F r h d) (b:Rin md s F r' h d) (hlt:r < r'):False:=by
 have h1:h≤bdm md s F r * d:=by rcases a.hi with h|⟨h,-⟩ <;> omega
 have h2:bdm md s F (r' - 1) * d≤h:=by rcases b.lo with h|h|⟨h,-⟩ <;> omega
 by_cases e:r = r' - 1
 ·obtain rfl:r' = r+1:=by omega
  rw [Nat.add_sub_cancel] at h2
  have b1:=b.lo
  rw [Nat.add_sub_cancel] at b1
  have o:outb md s r = true:=by rcases a.hi with h|⟨-,h⟩ <;> first|omega|exact h
  have i:inb md s (r+1) = true:=by rcases b1 with h|h|⟨-,h⟩ <;> first|omega|exact h
  rw [in_out,o] at i; cases i
 ·have:=Nat.mul_lt_mul_of_pos_right (bdm_lt (md:=md) (s:=s) (F:=F) (show r < r' - 1 by omega)) hd
  omega
theorem Rin.uniq {md:Nat} {s:Bool} {F r r' h d:Nat} (hd:0 < d) (a:Rin md s F r h d) (b:Rin md s F r' h d):r = r':=by
 rcases Nat.lt_trichotomy r r' with q|q|q
 ·exact (a.no hd b q).elim
 ·exact q
 ·exact (b.no hd a q).elim
theorem fth_two {md:Nat} (hm:2≤md) (s o:Bool) (h:Int):fth md s o h = fth md s false 1:=by
 match md,hm with
 | 2,_=>rfl
 | 3,_=>rfl
 | n+4,_=>rfl
theorem rin_zero (md:Nat) (s:Bool) (F:Nat) {d:Nat} (hd:0 < d):Rin md s F 0 0 d:=by
 refine ⟨Or.inl rfl,?_⟩
 have h1:=pv_lt (F:=F) (show 0 < 1 by omega)
 rw [pv_zero] at h1
 unfold bdm outb
 simp only [pv_zero,Nat.zero_add]
 by_cases hm:md≤1
 ·simp only [if_pos hm]
  exact Or.inl (Nat.mul_pos h1 hd)
 ·simp only [if_neg hm,if_neg (show md≠0 by omega),if_neg (show md≠1 by omega)]
  cases fth md s false 1
  ·simp only [Bool.false_eq_true,if_false]
   exact Or.inl (Nat.mul_pos (by omega) hd)
  ·simp only [if_true]
   refine Or.inr ⟨?_,?_⟩ <;> simp
theorem Plc.rin {p d B F G M K:Nat} {X:Int} {r0 ρ w:Nat} (h:Plc p d B F G M K X r0 ρ w) (hd:0 < d) (md:Nat) (s:Bool):Rin md s F (rowR B F md s M K X) (2 * (p * 2 ^ G)) d:=by
 have hle:=h.le
 have hlt:=h.lt
 have hh:=h.half
 have hrow:=h.row md s
 have heq:=h.eq
 obtain ⟨N,hN⟩:∃ N,N = p * 2 ^ G:=⟨_,rfl⟩
 rw [← hN] at hle hlt hh heq ⊢
 have g1:=Nat.mul_lt_mul_of_pos_right (pv_lt (F:=F) (show r0 < r0+1 by omega)) hd
 have g2:=Nat.mul_lt_mul_of_pos_right (pv_lt (F:=F) (show r0+1 < r0+1+1 by omega)) hd
 have g3:r0 = 0∨pv F (r0 - 1) * d < pv F r0 * d:=by
  by_cases e:r0 = 0
  ·exact Or.inl e
  ·exact Or.inr (Nat.mul_lt_mul_of_pos_right (pv_lt (by omega)) hd)
 have e1:∀ a,(pv F a+pv F (a+1)) * d = pv F a * d+pv F (a+1) * d:=fun a=>Nat.add_mul ..
 have e2:∀ a,2 * pv F a * d = 2 * (pv F a * d):=fun a=>Nat.mul_assoc ..
 have e3:r0 = 0∨r0 - 1+1 = r0:=by omega
 by_cases h0:ρ = 0
 ·have hq:=heq.1 h0
  rw [if_pos h0,Nat.add_zero] at hrow
  rw [hrow,rin_iff]
  unfold bdm inb outb
  by_cases hm:md≤1
  ·simp only [if_pos hm,e1]
   refine ⟨?_,Or.inl (by omega)⟩
   rcases g3 with g|g
   ·exact Or.inl g
   ·rcases e3 with e|e
    ·exact Or.inl e
    ·rw [e]; exact Or.inr (Or.inl (by omega))
  ·simp only [if_neg hm,if_neg (show md≠0 by omega),if_neg (show md≠1 by omega)]
   cases fth md s false 1
   ·simp only [Bool.false_eq_true,if_false,e2,Bool.not_false,and_true,and_false,or_false]
    refine ⟨?_,by omega⟩
    rcases e3 with e|e
    ·exact Or.inl e
    ·rw [e]; omega
   ·simp only [if_true,e2,Bool.not_true,and_true,Bool.false_eq_true,and_false,or_false]
    refine ⟨?_,by omega⟩
    omega
 ·have hq:pv F r0 * d < N:=Nat.lt_of_le_of_ne hle fun e=>h0 (heq.2 e)
  rw [if_neg h0] at hrow
  by_cases hm:2≤md
  ·rw [fth_two hm] at hrow
   rw [hrow,rin_iff]
   unfold bdm inb outb
   simp only [if_neg (show ¬ md≤1 by omega),if_neg (show md≠0 by omega),if_neg (show md≠1 by omega)]
   cases fth md s false 1
   ·simp only [Bool.false_eq_true,if_false,Nat.add_zero,e2,Bool.not_false,and_true,and_false,or_false]
    refine ⟨?_,by omega⟩
    rcases e3 with e|e
    ·exact Or.inl e
    ·rw [e]; omega
   ·simp only [if_true,Nat.add_sub_cancel,e2,Bool.not_true,and_true,Bool.false_eq_true,and_false,or_false]
    exact ⟨by omega,by omega⟩
  ·rw [hh] at hrow
   have hs3:s3 (2 * N) ((pv F r0+pv F (r0+1)) * d) = if 2 * N < pv F r0 * d+pv F (r0+1) * d then -1 else if 2 * N = pv F r0 * d+pv F (r0+1) * d then 0 else 1:=by rw [e1]; rfl
   rw [hs3] at hrow
   rw [hrow,rin_iff]
   unfold bdm inb outb
   simp only [if_pos (show md≤1 by omega)]
   have lo0:r0 = 0∨(pv F (r0 - 1)+pv F (r0 - 1+1)) * d < 2 * N:=by
    rcases g3 with g|g
    ·exact Or.inl g
    ·rcases e3 with e|e
     ·exact Or.inl e
     ·rw [e,Nat.add_mul]; exact Or.inr (by omega)
   rcases Nat.lt_trichotomy (2 * N) (pv F r0 * d+pv F (r0+1) * d) with q|q|q
   ·have ef:fth md s (decide (r0 % 2 = 1)) (if 2 * N < pv F r0 * d+pv F (r0+1) * d then -1 else if 2 * N = pv F r0 * d+pv F (r0+1) * d then 0 else 1) = false:=by
     rw [if_pos q]
     rcases (show md = 0∨md = 1 by omega) with rfl|rfl <;> rfl
    rw [ef]
    simp only [Bool.false_eq_true,if_false,Nat.add_zero]
    refine ⟨?_,Or.inl (by rw [e1]; exact q)⟩
    rcases lo0 with l|l
    ·exact Or.inl l
    ·exact Or.inr (Or.inl l)
   ·rcases (show md = 0∨md = 1 by omega) with rfl|rfl
    ·have ef:fth 0 s (decide (r0 % 2 = 1)) (if 2 * N < pv F r0 * d+pv F (r0+1) * d then -1 else if 2 * N = pv F r0 * d+pv F (r0+1) * d then 0 else 1) = decide (r0 % 2 = 1):=by
      rw [if_neg (by omega),if_pos q]
      simp [fth]
     rw [ef]
     by_cases ho:r0 % 2 = 1
     ·simp only [decide_eq_true ho,if_true,Nat.add_sub_cancel]
      exact ⟨Or.inr (Or.inr ⟨by rw [e1]; omega,decide_eq_true (by omega)⟩),Or.inl (by rw [e1]; omega)⟩
     ·simp only [decide_eq_false ho,Bool.false_eq_true,if_false,Nat.add_zero,if_true]
      refine ⟨?_,Or.inr ⟨by rw [e1]; exact q,decide_eq_true (by omega)⟩⟩
      rcases lo0 with l|l
      ·exact Or.inl l
      ·exact Or.inr (Or.inl l)
    ·have ef:fth 1 s (decide (r0 % 2 = 1)) (if 2 * N < pv F r0 * d+pv F (r0+1) * d then -1 else if 2 * N = pv F r0 * d+pv F (r0+1) * d then 0 else 1) = true:=by
      rw [if_neg (by omega),if_pos q]; rfl
     rw [ef]
     simp only [if_true,Nat.add_sub_cancel]
     exact ⟨Or.inr (Or.inr ⟨by rw [e1]; omega,rfl⟩),Or.inl (by rw [e1]; omega)⟩
   ·have ef:fth md s (decide (r0 % 2 = 1)) (if 2 * N < pv F r0 * d+pv F (r0+1) * d then -1 else if 2 * N = pv F r0 * d+pv F (r0+1) * d then 0 else 1) = true:=by
     rw [if_neg (by omega),if_neg (by omega)]
     rcases (show md = 0∨md = 1 by omega) with rfl|rfl <;> rfl
    rw [ef]
    simp only [if_true,Nat.add_sub_cancel]
    exact ⟨Or.inr (Or.inl (by rw [e1]; omega)),Or.inl (by rw [e1]; omega)⟩
theorem std_dy {m i j c K:Nat} {x:Int} (hc:65≤c) (ho:m % 2 = 1) (hK:Bl m K) (hx:x = (i:Int) - (j:Int)):Std (m * 2 ^ i) (2 ^ j) (j+c) (m * 2 ^ i * 2 ^ (j+c)) (blen (m * 2 ^ i * 2 ^ (j+c) / 2 ^ j)) (i+c+1) m K x:=by
 have hp:0 < 2 ^ j:=Nat.pow_pos (by omega)
 have e:m * 2 ^ i * 2 ^ (j+c) = m * 2 ^ (i+c) * 2 ^ j:=by rw [Nat.pow_add,Nat.pow_add]; ac_rfl
 have e1:m * 2 ^ i * 2 ^ (j+c) / 2 ^ j = m * 2 ^ (i+c):=by rw [e]; exact Nat.mul_div_cancel _ hp
 have e2:m * 2 ^ i * 2 ^ (j+c) % 2 ^ j = 0:=by rw [e]; exact Nat.mul_mod_left ..
 refine ⟨rfl,hp,?_,ho,hK,bl_blen _,?_,by rw [hx]; omega⟩
 ·rw [if_pos e2,e1,Nat.pow_succ]; ac_rfl
 ·rw [e1]
  have h1:2 ^ c≤m * 2 ^ (i+c):=Nat.le_trans (Nat.pow_le_pow_right (by omega) (by omega)) (Nat.le_mul_of_pos_left _ (show 0 < m by omega))
  have:=(bl_blen _).gt_of h1
  omega
def capR (I md:Nat) (s:Bool) (r:Nat):Nat:=if r < I then r else if fth md s false 1 then I else I - 1
theorem as_h0 {P:Program} {fn:FuncId} {args:Array Value} {W:World} {m m':Nat} {f:Value→Value→Value} (h:Calls P fn args W fun en W'=>(∃ a n c a' n' c',en = .returned (f (.slice a n c) (.slice a' n' c'))∧Mine W' 0 a n c m∧Mine W' 0 a' n' c' m')∧Below W.heap.size W W'):Calls P fn args W fun en W'=>∃ q,en = .returned ((cH 0 m m' f).f q)∧Below W.heap.size W W'∧(cH 0 m m' f).g q W':=
 h.mono fun _ _ ⟨⟨a,n,c,a',n',c',h1,h3,h4⟩,h2⟩=>⟨{ pq0 with A:=a,N:=n,C:=c,A':=a',N':=n',C':=c' },h1,h2,h3,h4⟩
theorem rhas_n (w:World) (E F b md er:Int) (p:Nat) (s:Bool) (a:Option Addr) (n c:Nat) (x:Int) (neg:Bool) (S gb fl:Int) (hp:w.heap[p]? = some (.cells #[.int .i64 E,.int .i64 F,.int .u64 b,.int .u8 md,.int .i64 er] 67 (0,0))) (hs:decide (b ≥ S) = neg) (HB:Hid (∀ W:World,Calls Tryz.prog 60 #[.agg #[.int .i64 E,.int .i64 F]] W fun e W'=>e = .returned (.int .u64 S)∧Below W.heap.size W W')) (HD:Hid (∀ W:World,Below w.heap.size w W→Calls Tryz.prog 65 #[.agg #[.int .i64 E,.int .i64 F],.agg #[.bool s,.slice a n c,.int .i64 x],.bool neg,.int .u8 md] W fun e W'=>e = .returned (.tuple #[.int .u64 gb,.int .u8 fl,.int .i64 0])∧Below W.heap.size W W')) (he:gb≠b) :
  Calls Tryz.prog 25 #[.pointer (some ⟨p,0,none⟩),.agg #[.bool s,.slice a n c,.int .i64 x]] w fun en w'=>en = .returned (.bool false)∧Below w.heap.size w w':=by
 refine calls_sym Tryz.func25 rfl (by kernel_rfl) fun T hK=>?_
 replace hK:Kn T _ [(0,.pointer (some ⟨p,0,none⟩)),(1,.agg #[.bool s,.slice a n c,.int .i64 x])]:=hK
 have hS:=Fb.other hp
 have hG:GsAt [] w:=trivial
 refine wq hS hG hK (fun p1=>[.n 3 #[.bool s,.slice a n c,.int .i64 x] 58,.v 4 (.bool false)]) (fun p1=>[(0,.pointer (some ⟨p,0,none⟩)),(3,pT (p1 0).N 0),(4,.bool false)]) (fun p1=>?_) (fun p1 W1 T hF hK=>?_)
 ·refine okn ?_
  refine okv ?_
  exact ok_nil
 replace hS:=SymF.fc hS hF [0,1000] [⟨p,#[.int .i64 E,.int .i64 F,.int .u64 b,.int .u8 md,.int .i64 er],67,false⟩,⟨(p1 0).N,#[.bool s,.slice a n c,.int .i64 x],58,true⟩]
 replace hG:=hF.gx
 clear hF
 refine wq hS hG hK (fun p2=>[.v 9 (.pointer (some ⟨p,0,none⟩)),.v 10 (.pointer (some ⟨p,0,none⟩)),.v 11 (.pointer (some ⟨p,2,none⟩)),.l 12 (.int .u64 b) 0 2,.v 13 (.pointer (some ⟨p,0,none⟩)),.v 14 (.pointer (some ⟨p,0,none⟩)),.v 15 (.pointer (some ⟨p,0,none⟩)),.l 16 (.agg #[.int .i64 E,.int .i64 F]) 0 0,.c (some 17) (cV (.int .u64 S)),.v 18 (.bool neg),.v 5 (.bool neg)]) (fun p2=>[(0,.pointer (some ⟨p,0,none⟩)),(3,pT (p1 0).N 0),(4,.bool false),(5,.bool neg)]) (fun p2=>?_) (fun p2 W2 T hF hK=>?_)
 ·iterate 3 refine okv ?_
  refine okl ?_
  iterate 3 refine okv ?_
  refine okl ?_
  refine okc (fun W cx=>as_v (unhide HB _)) ?_
  refine okvb (hs) ?_
  refine okv ?_
  exact ok_nil
 obtain ⟨hS,hG⟩:=SymF.fg hS hF
 clear hF
 refine wq hS hG hK (fun p3=>[.v 20 (.pointer (some ⟨p,0,none⟩)),.v 21 (.pointer (some ⟨p,0,none⟩)),.v 22 (.pointer (some ⟨p,0,none⟩)),.l 23 (.agg #[.int .i64 E,.int .i64 F]) 0 0,.l 24 (.agg #[.bool s,.slice a n c,.int .i64 x]) 1 0,.v 25 (.bool neg),.v 26 (.pointer (some ⟨p,0,none⟩)),.v 27 (.pointer (some ⟨p,0,none⟩)),.v 28 (.pointer (some ⟨p,3,none⟩)),.l 29 (.int .u8 md) 0 3,.c (some 30) (cV (.tuple #[.int .u64 gb,.int .u8 fl,.int .i64 0])),.v 19 (.tuple #[.int .u64 gb,.int .u8 fl,.int .i64 0]),.v 31 (.int .u64 gb),.v 32 (.int .u8 fl),.v 33 (.int .i64 0),.v 6 (.int .u64 gb),.v 7 (.int .u8 fl),.v 8 (.int .i64 0)]) (fun p3=>[(0,.pointer (some ⟨p,0,none⟩)),(4,.bool false),(6,.int .u64 gb),(7,.int .u8 fl),(8,.int .i64 0)]) (fun p3=>?_) (fun p3 W3 T hF hK=>?_)
 ·iterate 3 refine okv ?_
  iterate 2 refine okl ?_
  iterate 4 refine okv ?_
  refine okl ?_
  refine okc (fun W cx=>as_v (unhide HD _ cx.fr)) ?_
  iterate 7 refine okv ?_
  exact ok_nil
 obtain ⟨hS,hG⟩:=SymF.fg hS hF
 clear hF
 refine wq hS hG hK (fun p4=>[.v 34 (.pointer (some ⟨p,0,none⟩)),.v 35 (.pointer (some ⟨p,0,none⟩)),.v 36 (.pointer (some ⟨p,4,none⟩)),.v 37 (.int .i64 0),.c (some 38) (cV (.tuple #[]))]) (fun p4=>[(0,.pointer (some ⟨p,0,none⟩)),(4,.bool false),(6,.int .u64 gb),(7,.int .u8 fl)]) (fun p4=>?_) (fun p4 W4 T hF hK=>?_)
 ·iterate 4 refine okv ?_
  refine okc (fun W cx=>as_v (keep_g p 4 er 0 (fun _=>rfl) _ ⟨_,_,cx.B 0 _ rfl (by kernel_rfl) (by kernel_rfl),rfl⟩)) ?_
  exact ok_nil
 obtain ⟨hS,hG⟩:=SymF.fg hS hF
 clear hF
 refine wq hS hG hK (fun p5=>[.v 39 (.int .u64 gb),.v 40 (.pointer (some ⟨p,0,none⟩)),.v 41 (.pointer (some ⟨p,0,none⟩)),.v 42 (.pointer (some ⟨p,2,none⟩)),.l 43 (.int .u64 b) 0 2,.v 44 (.bool false),.v 45 (.bool false),.k (some 46),.k (some 47),.k (some 48),.v 49 (.bool false),.v 4 (.bool false)]) (fun p5=>[(4,.bool false)]) (fun p5=>?_) (fun p5 W5 T hF hK=>?_)
 ·iterate 4 refine okv ?_
  refine okl ?_
  refine okvb (beq_false_of_ne he) ?_
  refine okv ?_
  iterate 3 refine okk ?_
  iterate 2 refine okv ?_
  exact ok_nil
 obtain ⟨hS,hG⟩:=SymF.fg hS hF
 clear hF
 refine wp_ret ?_
 exact sym_end hS hK (.bool false) [] [] (by kernel_rfl) (by kernel_rfl) ⟨rfl,hS.fr⟩
theorem rhas_t (w:World) (E F b md er:Int) (p:Nat) (s:Bool) (a:Option Addr) (n c:Nat) (x:Int) (neg:Bool) (S gb fl:Int) (hp:w.heap[p]? = some (.cells #[.int .i64 E,.int .i64 F,.int .u64 b,.int .u8 md,.int .i64 er] 67 (0,0))) (hs:decide (b ≥ S) = neg) (HB:Hid (∀ W:World,Calls Tryz.prog 60 #[.agg #[.int .i64 E,.int .i64 F]] W fun e W'=>e = .returned (.int .u64 S)∧Below W.heap.size W W')) (HD:Hid (∀ W:World,Below w.heap.size w W→Calls Tryz.prog 65 #[.agg #[.int .i64 E,.int .i64 F],.agg #[.bool s,.slice a n c,.int .i64 x],.bool neg,.int .u8 md] W fun e W'=>e = .returned (.tuple #[.int .u64 gb,.int .u8 fl,.int .i64 0])∧Below W.heap.size W W')) (he:gb = b) (ho:bits BinOp.and .u8 fl 2 = 0) :
  Calls Tryz.prog 25 #[.pointer (some ⟨p,0,none⟩),.agg #[.bool s,.slice a n c,.int .i64 x]] w fun en w'=>en = .returned (.bool true)∧Below w.heap.size w w':=by
 refine calls_sym Tryz.func25 rfl (by kernel_rfl) fun T hK=>?_
 replace hK:Kn T _ [(0,.pointer (some ⟨p,0,none⟩)),(1,.agg #[.bool s,.slice a n c,.int .i64 x])]:=hK
 have hS:=Fb.other hp
 have hG:GsAt [] w:=trivial
 refine wq hS hG hK (fun p1=>[.n 3 #[.bool s,.slice a n c,.int .i64 x] 58,.v 4 (.bool false)]) (fun p1=>[(0,.pointer (some ⟨p,0,none⟩)),(3,pT (p1 0).N 0),(4,.bool false)]) (fun p1=>?_) (fun p1 W1 T hF hK=>?_)
 ·refine okn ?_
  refine okv ?_
  exact ok_nil
 replace hS:=SymF.fc hS hF [0,1000] [⟨p,#[.int .i64 E,.int .i64 F,.int .u64 b,.int .u8 md,.int .i64 er],67,false⟩,⟨(p1 0).N,#[.bool s,.slice a n c,.int .i64 x],58,true⟩]
 replace hG:=hF.gx
 clear hF
 refine wq hS hG hK (fun p2=>[.v 9 (.pointer (some ⟨p,0,none⟩)),.v 10 (.pointer (some ⟨p,0,none⟩)),.v 11 (.pointer (some ⟨p,2,none⟩)),.l 12 (.int .u64 b) 0 2,.v 13 (.pointer (some ⟨p,0,none⟩)),.v 14 (.pointer (some ⟨p,0,none⟩)),.v 15 (.pointer (some ⟨p,0,none⟩)),.l 16 (.agg #[.int .i64 E,.int .i64 F]) 0 0,.c (some 17) (cV (.int .u64 S)),.v 18 (.bool neg),.v 5 (.bool neg)]) (fun p2=>[(0,.pointer (some ⟨p,0,none⟩)),(3,pT (p1 0).N 0),(4,.bool false),(5,.bool neg)]) (fun p2=>?_) (fun p2 W2 T hF hK=>?_)
 ·iterate 3 refine okv ?_
  refine okl ?_
  iterate 3 refine okv ?_
  refine okl ?_
  refine okc (fun W cx=>as_v (unhide HB _)) ?_
  refine okvb (hs) ?_
  refine okv ?_
  exact ok_nil
 obtain ⟨hS,hG⟩:=SymF.fg hS hF
 clear hF
 refine wq hS hG hK (fun p3=>[.v 20 (.pointer (some ⟨p,0,none⟩)),.v 21 (.pointer (some ⟨p,0,none⟩)),.v 22 (.pointer (some ⟨p,0,none⟩)),.l 23 (.agg #[.int .i64 E,.int .i64 F]) 0 0,.l 24 (.agg #[.bool s,.slice a n c,.int .i64 x]) 1 0,.v 25 (.bool neg),.v 26 (.pointer (some ⟨p,0,none⟩)),.v 27 (.pointer (some ⟨p,0,none⟩)),.v 28 (.pointer (some ⟨p,3,none⟩)),.l 29 (.int .u8 md) 0 3,.c (some 30) (cV (.tuple #[.int .u64 gb,.int .u8 fl,.int .i64 0])),.v 19 (.tuple #[.int .u64 gb,.int .u8 fl,.int .i64 0]),.v 31 (.int .u64 gb),.v 32 (.int .u8 fl),.v 33 (.int .i64 0),.v 6 (.int .u64 gb),.v 7 (.int .u8 fl),.v 8 (.int .i64 0)]) (fun p3=>[(0,.pointer (some ⟨p,0,none⟩)),(4,.bool false),(6,.int .u64 gb),(7,.int .u8 fl),(8,.int .i64 0)]) (fun p3=>?_) (fun p3 W3 T hF hK=>?_)
 ·iterate 3 refine okv ?_
  iterate 2 refine okl ?_
  iterate 4 refine okv ?_
  refine okl ?_
  refine okc (fun W cx=>as_v (unhide HD _ cx.fr)) ?_
  iterate 7 refine okv ?_
  exact ok_nil
 obtain ⟨hS,hG⟩:=SymF.fg hS hF
 clear hF
 refine wq hS hG hK (fun p4=>[.v 34 (.pointer (some ⟨p,0,none⟩)),.v 35 (.pointer (some ⟨p,0,none⟩)),.v 36 (.pointer (some ⟨p,4,none⟩)),.v 37 (.int .i64 0),.c (some 38) (cV (.tuple #[]))]) (fun p4=>[(0,.pointer (some ⟨p,0,none⟩)),(4,.bool false),(6,.int .u64 gb),(7,.int .u8 fl)]) (fun p4=>?_) (fun p4 W4 T hF hK=>?_)
 ·iterate 4 refine okv ?_
  refine okc (fun W cx=>as_v (keep_g p 4 er 0 (fun _=>rfl) _ ⟨_,_,cx.B 0 _ rfl (by kernel_rfl) (by kernel_rfl),rfl⟩)) ?_
  exact ok_nil
 obtain ⟨hS,hG⟩:=SymF.fg hS hF
 clear hF
 refine wq hS hG hK (fun p5=>[.v 39 (.int .u64 gb),.v 40 (.pointer (some ⟨p,0,none⟩)),.v 41 (.pointer (some ⟨p,0,none⟩)),.v 42 (.pointer (some ⟨p,2,none⟩)),.l 43 (.int .u64 b) 0 2,.v 44 (.bool true),.v 45 (.bool true),.v 46 (.int .u8 fl),.v 47 (.int .u8 0),.v 48 (.bool true),.v 49 (.bool true),.v 4 (.bool true)]) (fun p5=>[(4,.bool true)]) (fun p5=>?_) (fun p5 W5 T hF hK=>?_)
 ·iterate 4 refine okv ?_
  refine okl ?_
  refine okvb (beq_iff_eq.2 he) ?_
  iterate 2 refine okv ?_
  refine okvi (ho) ?_
  iterate 3 refine okv ?_
  exact ok_nil
 obtain ⟨hS,hG⟩:=SymF.fg hS hF
 clear hF
 refine wp_ret ?_
 exact sym_end hS hK (.bool true) [] [] (by kernel_rfl) (by kernel_rfl) ⟨rfl,hS.fr⟩
theorem rhas_o (w:World) (E F b md er:Int) (p:Nat) (s:Bool) (a:Option Addr) (n c:Nat) (x:Int) (neg:Bool) (S gb fl o:Int) (hp:w.heap[p]? = some (.cells #[.int .i64 E,.int .i64 F,.int .u64 b,.int .u8 md,.int .i64 er] 67 (0,0))) (hs:decide (b ≥ S) = neg) (HB:Hid (∀ W:World,Calls Tryz.prog 60 #[.agg #[.int .i64 E,.int .i64 F]] W fun e W'=>e = .returned (.int .u64 S)∧Below W.heap.size W W')) (HD:Hid (∀ W:World,Below w.heap.size w W→Calls Tryz.prog 65 #[.agg #[.int .i64 E,.int .i64 F],.agg #[.bool s,.slice a n c,.int .i64 x],.bool neg,.int .u8 md] W fun e W'=>e = .returned (.tuple #[.int .u64 gb,.int .u8 fl,.int .i64 0])∧Below W.heap.size W W')) (he:gb = b) (ho:bits BinOp.and .u8 fl 2 = o) (ho2:o≠0) :
  Calls Tryz.prog 25 #[.pointer (some ⟨p,0,none⟩),.agg #[.bool s,.slice a n c,.int .i64 x]] w fun en w'=>en = .returned (.bool false)∧Below w.heap.size w w':=by
 refine calls_sym Tryz.func25 rfl (by kernel_rfl) fun T hK=>?_
 replace hK:Kn T _ [(0,.pointer (some ⟨p,0,none⟩)),(1,.agg #[.bool s,.slice a n c,.int .i64 x])]:=hK
 have hS:=Fb.other hp
 have hG:GsAt [] w:=trivial
 refine wq hS hG hK (fun p1=>[.n 3 #[.bool s,.slice a n c,.int .i64 x] 58,.v 4 (.bool false)]) (fun p1=>[(0,.pointer (some ⟨p,0,none⟩)),(3,pT (p1 0).N 0),(4,.bool false)]) (fun p1=>?_) (fun p1 W1 T hF hK=>?_)
 ·refine okn ?_
  refine okv ?_
  exact ok_nil
 replace hS:=SymF.fc hS hF [0,1000] [⟨p,#[.int .i64 E,.int .i64 F,.int .u64 b,.int .u8 md,.int .i64 er],67,false⟩,⟨(p1 0).N,#[.bool s,.slice a n c,.int .i64 x],58,true⟩]
 replace hG:=hF.gx
 clear hF
 refine wq hS hG hK (fun p2=>[.v 9 (.pointer (some ⟨p,0,none⟩)),.v 10 (.pointer (some ⟨p,0,none⟩)),.v 11 (.pointer (some ⟨p,2,none⟩)),.l 12 (.int .u64 b) 0 2,.v 13 (.pointer (some ⟨p,0,none⟩)),.v 14 (.pointer (some ⟨p,0,none⟩)),.v 15 (.pointer (some ⟨p,0,none⟩)),.l 16 (.agg #[.int .i64 E,.int .i64 F]) 0 0,.c (some 17) (cV (.int .u64 S)),.v 18 (.bool neg),.v 5 (.bool neg)]) (fun p2=>[(0,.pointer (some ⟨p,0,none⟩)),(3,pT (p1 0).N 0),(4,.bool false),(5,.bool neg)]) (fun p2=>?_) (fun p2 W2 T hF hK=>?_)
 ·iterate 3 refine okv ?_
  refine okl ?_
  iterate 3 refine okv ?_
  refine okl ?_
  refine okc (fun W cx=>as_v (unhide HB _)) ?_
  refine okvb (hs) ?_
  refine okv ?_
  exact ok_nil
 obtain ⟨hS,hG⟩:=SymF.fg hS hF
 clear hF
 refine wq hS hG hK (fun p3=>[.v 20 (.pointer (some ⟨p,0,none⟩)),.v 21 (.pointer (some ⟨p,0,none⟩)),.v 22 (.pointer (some ⟨p,0,none⟩)),.l 23 (.agg #[.int .i64 E,.int .i64 F]) 0 0,.l 24 (.agg #[.bool s,.slice a n c,.int .i64 x]) 1 0,.v 25 (.bool neg),.v 26 (.pointer (some ⟨p,0,none⟩)),.v 27 (.pointer (some ⟨p,0,none⟩)),.v 28 (.pointer (some ⟨p,3,none⟩)),.l 29 (.int .u8 md) 0 3,.c (some 30) (cV (.tuple #[.int .u64 gb,.int .u8 fl,.int .i64 0])),.v 19 (.tuple #[.int .u64 gb,.int .u8 fl,.int .i64 0]),.v 31 (.int .u64 gb),.v 32 (.int .u8 fl),.v 33 (.int .i64 0),.v 6 (.int .u64 gb),.v 7 (.int .u8 fl),.v 8 (.int .i64 0)]) (fun p3=>[(0,.pointer (some ⟨p,0,none⟩)),(4,.bool false),(6,.int .u64 gb),(7,.int .u8 fl),(8,.int .i64 0)]) (fun p3=>?_) (fun p3 W3 T hF hK=>?_)
 ·iterate 3 refine okv ?_
  iterate 2 refine okl ?_
  iterate 4 refine okv ?_
  refine okl ?_
  refine okc (fun W cx=>as_v (unhide HD _ cx.fr)) ?_
  iterate 7 refine okv ?_
  exact ok_nil
 obtain ⟨hS,hG⟩:=SymF.fg hS hF
 clear hF
 refine wq hS hG hK (fun p4=>[.v 34 (.pointer (some ⟨p,0,none⟩)),.v 35 (.pointer (some ⟨p,0,none⟩)),.v 36 (.pointer (some ⟨p,4,none⟩)),.v 37 (.int .i64 0),.c (some 38) (cV (.tuple #[]))]) (fun p4=>[(0,.pointer (some ⟨p,0,none⟩)),(4,.bool false),(6,.int .u64 gb),(7,.int .u8 fl)]) (fun p4=>?_) (fun p4 W4 T hF hK=>?_)
 ·iterate 4 refine okv ?_
  refine okc (fun W cx=>as_v (keep_g p 4 er 0 (fun _=>rfl) _ ⟨_,_,cx.B 0 _ rfl (by kernel_rfl) (by kernel_rfl),rfl⟩)) ?_
  exact ok_nil
 obtain ⟨hS,hG⟩:=SymF.fg hS hF
 clear hF
 refine wq hS hG hK (fun p5=>[.v 39 (.int .u64 gb),.v 40 (.pointer (some ⟨p,0,none⟩)),.v 41 (.pointer (some ⟨p,0,none⟩)),.v 42 (.pointer (some ⟨p,2,none⟩)),.l 43 (.int .u64 b) 0 2,.v 44 (.bool true),.v 45 (.bool true),.v 46 (.int .u8 fl),.v 47 (.int .u8 o),.v 48 (.bool false),.v 49 (.bool false),.v 4 (.bool false)]) (fun p5=>[(4,.bool false)]) (fun p5=>?_) (fun p5 W5 T hF hK=>?_)
 ·iterate 4 refine okv ?_
  refine okl ?_
  refine okvb (beq_iff_eq.2 he) ?_
  iterate 2 refine okv ?_
  refine okvi (ho) ?_
  refine okvb (beq_false_of_ne ho2) ?_
  iterate 2 refine okv ?_
  exact ok_nil
 obtain ⟨hS,hG⟩:=SymF.fg hS hF
 clear hF
 refine wp_ret ?_
 exact sym_end hS hK (.bool false) [] [] (by kernel_rfl) (by kernel_rfl) ⟨rfl,hS.fr⟩
theorem rwor_f (w:World) (E F b md er b2 c0:Int) (p:Nat) (s:Bool) (m:Nat) (x cl:Int) (hT:Tb w) (hp:w.heap[p]? = some (.cells #[.int .i64 E,.int .i64 F,.int .u64 b,.int .u8 md,.int .i64 er] 67 (0,0))) (hk:er = 0→c0 = 0) (hc:cl≠4) (HC:Hid (∀ W:World,Calls Tryz.prog 15 #[.agg #[.int .i64 E,.int .i64 F],.int .u64 b2] W fun e W'=>e = .returned (.tuple #[.int .u8 cl,.int .i64 0])∧Below W.heap.size W W')) (HV:Hid (∀ W:World,Tb W→Calls Tryz.prog 51 #[.agg #[.int .i64 E,.int .i64 F],.int .u64 b2] W fun e W'=>(∃ A N C,e = .returned (.tuple #[.agg #[.bool s,.slice A N C,.int .i64 x],.int .i64 0])∧Mine W' 0 A N C m)∧Below W.heap.size W W')) :
  Calls Tryz.prog 58 #[.pointer (some ⟨p,0,none⟩),.int .u64 b2,.int .i64 c0] w fun en w'=>(∃ A N C,en = .returned (.agg #[.bool s,.slice A N C,.int .i64 x])∧Mine w' 0 A N C m)∧Below w.heap.size w w':=by
 refine calls_sym Tryz.func58 rfl (by kernel_rfl) fun T hK=>?_
 replace hK:Kn T _ [(0,.pointer (some ⟨p,0,none⟩)),(1,.int .u64 b2),(2,.int .i64 c0)]:=hK
 have hS:=Fb.other hp
 have hG:GsAt [] w:=trivial
 refine wq hS hG hK (fun p1=>[.n 6 #[.bool false,.slice none 0 0,.int .i64 0] 58]) (fun p1=>[(0,.pointer (some ⟨p,0,none⟩)),(1,.int .u64 b2),(2,.int .i64 c0),(6,pT (p1 0).N 0)]) (fun p1=>?_) (fun p1 W1 T hF hK=>?_)
 ·refine okn ?_
  exact ok_nil
 replace hS:=SymF.fc hS hF [0,1000] [⟨p,#[.int .i64 E,.int .i64 F,.int .u64 b,.int .u8 md,.int .i64 er],67,false⟩,⟨(p1 0).N,#[.bool false,.slice none 0 0,.int .i64 0],58,true⟩]
 replace hG:=hF.gx
 clear hF
 refine wq hS hG hK (fun p2=>[.v 10 (.pointer (some ⟨p,0,none⟩)),.v 11 (.pointer (some ⟨p,0,none⟩)),.v 12 (.pointer (some ⟨p,4,none⟩)),.v 13 (.int .i64 c0),.c (some 14) (cV (.tuple #[]))]) (fun p2=>[(0,.pointer (some ⟨p,0,none⟩)),(1,.int .u64 b2),(2,.int .i64 c0),(6,pT (p1 0).N 0)]) (fun p2=>?_) (fun p2 W2 T hF hK=>?_)
 ·iterate 4 refine okv ?_
  refine okc (fun W cx=>as_v (keep_g p 4 er c0 hk _ ⟨_,_,cx.B 0 _ rfl (by kernel_rfl) (by kernel_rfl),rfl⟩)) ?_
  exact ok_nil
 obtain ⟨hS,hG⟩:=SymF.fg hS hF
 clear hF
 refine wq hS hG hK (fun p3=>[.v 16 (.pointer (some ⟨p,0,none⟩)),.v 17 (.pointer (some ⟨p,0,none⟩)),.v 18 (.pointer (some ⟨p,0,none⟩)),.l 19 (.agg #[.int .i64 E,.int .i64 F]) 0 0,.v 20 (.int .u64 b2),.c (some 21) (cV (.tuple #[.int .u8 cl,.int .i64 0])),.v 15 (.tuple #[.int .u8 cl,.int .i64 0]),.v 22 (.int .u8 cl),.v 23 (.int .i64 0),.v 7 (.int .u8 cl),.v 2 (.int .i64 0)]) (fun p3=>[(0,.pointer (some ⟨p,0,none⟩)),(1,.int .u64 b2),(2,.int .i64 0),(6,pT (p1 0).N 0),(7,.int .u8 cl)]) (fun p3=>?_) (fun p3 W3 T hF hK=>?_)
 ·iterate 3 refine okv ?_
  refine okl ?_
  refine okv ?_
  refine okc (fun W cx=>as_v (unhide HC _)) ?_
  iterate 5 refine okv ?_
  exact ok_nil
 obtain ⟨hS,hG⟩:=SymF.fg hS hF
 clear hF
 refine wq hS hG hK (fun p4=>[.v 24 (.pointer (some ⟨p,0,none⟩)),.v 25 (.pointer (some ⟨p,0,none⟩)),.v 26 (.pointer (some ⟨p,4,none⟩)),.v 27 (.int .i64 0),.c (some 28) (cV (.tuple #[]))]) (fun p4=>[(0,.pointer (some ⟨p,0,none⟩)),(1,.int .u64 b2),(2,.int .i64 0),(6,pT (p1 0).N 0),(7,.int .u8 cl)]) (fun p4=>?_) (fun p4 W4 T hF hK=>?_)
 ·iterate 4 refine okv ?_
  refine okc (fun W cx=>as_v (keep_g p 4 er 0 (fun _=>rfl) _ ⟨_,_,cx.B 0 _ rfl (by kernel_rfl) (by kernel_rfl),rfl⟩)) ?_
  exact ok_nil
 obtain ⟨hS,hG⟩:=SymF.fg hS hF
 clear hF
 refine wp_seq ?_
 refine wq hS hG hK (fun p5=>[.v 29 (.int .u8 cl),.v 30 (.bool true)]) (fun p5=>[(0,.pointer (some ⟨p,0,none⟩)),(1,.int .u64 b2),(2,.int .i64 0),(6,pT (p1 0).N 0),(30,.bool true)]) (fun p5=>?_) (fun p5 W5 T hF hK=>?_)
 ·refine okv ?_
  refine okvb (bne_iff_ne.2 (show cl≠4 by omega)) ?_
  exact ok_nil
 obtain ⟨hS,hG⟩:=SymF.fg hS hF
 clear hF
 refine wp_cond_true (hK.ew 30) ?_
 refine wq hS hG hK (fun p6=>[.v 31 (.pointer (some ⟨p,0,none⟩)),.v 32 (.pointer (some ⟨p,0,none⟩)),.v 33 (.pointer (some ⟨p,4,none⟩)),.v 34 (.pointer (some ⟨p,0,none⟩)),.v 35 (.pointer (some ⟨p,0,none⟩)),.v 36 (.pointer (some ⟨p,0,none⟩)),.l 37 (.agg #[.int .i64 E,.int .i64 F]) 0 0,.v 38 (.int .u64 b2),.c (some 39) (cM0 m fun x9=>.tuple #[.agg #[.bool s,x9,.int .i64 x],.int .i64 0]),.v 40 (.agg #[.bool s,.slice (p6 8).A (p6 8).N (p6 8).C,.int .i64 x]),.v 41 (.int .i64 0),.u 42 (.agg #[.bool s,.slice (p6 8).A (p6 8).N (p6 8).C,.int .i64 x]) (aG 1),.p 1 0 [.bool s,.slice (p6 8).A (p6 8).N (p6 8).C,.int .i64 x]]) (fun p6=>[(0,.pointer (some ⟨p,0,none⟩)),(1,.int .u64 b2),(2,.int .i64 0),(6,pT (p1 0).N 0)]) (fun p6=>?_) (fun p6 W6 T hF hK=>?_)
 ·iterate 6 refine okv ?_
  refine okl ?_
  refine okv ?_
  refine okc (fun W cx=>as_0 (unhide HV _ (hT.kept cx.fr))) ?_
  iterate 2 refine okv ?_
  refine oku (fun W cx=>runDyadic_g p 4 er 0 (fun _=>rfl) _ _ _ _ _ _ ⟨_,_,cx.B 0 _ rfl (by kernel_rfl) (by kernel_rfl),rfl⟩) ?_
  refine okp ?_
  exact ok_nil
 replace hS:=SymF.fc hS hF [0,1] [⟨p,#[.int .i64 E,.int .i64 F,.int .u64 b,.int .u8 md,.int .i64 er],67,false⟩,⟨(p1 0).N,#[.bool s,.slice (p6 8).A (p6 8).N (p6 8).C,.int .i64 x],58,true⟩]
 replace hG:GsAt (gM 0 (p6 8).A (p6 8).N (p6 8).C m :: _) W6:=⟨hF.fx 8,hF.gx⟩
 clear hF
 refine wp_ret ?_
 refine then_r ?_
 exact sym_end hS hK (.agg #[.bool s,.slice (p6 8).A (p6 8).N (p6 8).C,.int .i64 x]) [(1,0,3)] [.bool s,.slice (p6 8).A (p6 8).N (p6 8).C,.int .i64 x] (by kernel_rfl) (by kernel_rfl) ⟨⟨_,_,_,rfl,Mine.mono (hG.1) (Nat.zero_le _)⟩,hS.fr⟩
theorem rwor_i (w:World) (E F b md er b2 c0:Int) (p:Nat) (s:Bool) (lo hi S:Int) (hT:Tb w) (hp:w.heap[p]? = some (.cells #[.int .i64 E,.int .i64 F,.int .u64 b,.int .u8 md,.int .i64 er] 67 (0,0))) (hk:er = 0→c0 = 0) (hs:decide (b2 ≥ S) = s) (hh:-100000≤hi∧hi≤100000) (HC:Hid (∀ W:World,Calls Tryz.prog 15 #[.agg #[.int .i64 E,.int .i64 F],.int .u64 b2] W fun e W'=>e = .returned (.tuple #[.int .u8 4,.int .i64 0])∧Below W.heap.size W W')) (HG:Hid (∀ W:World,Calls Tryz.prog 52 #[.agg #[.int .i64 E,.int .i64 F]] W fun e W'=>e = .returned (.tuple #[.int .i64 lo,.int .i64 hi,.int .i64 0])∧Below W.heap.size W W')) (HB:Hid (∀ W:World,Calls Tryz.prog 60 #[.agg #[.int .i64 E,.int .i64 F]] W fun e W'=>e = .returned (.int .u64 S)∧Below W.heap.size W W')) (HK:Hid (Mk1 s (hi+1))) :
  Calls Tryz.prog 58 #[.pointer (some ⟨p,0,none⟩),.int .u64 b2,.int .i64 c0] w fun en w'=>(∃ A N C,en = .returned (.agg #[.bool s,.slice A N C,.int .i64 (hi+1)])∧Mine w' 0 A N C 1)∧Below w.heap.size w w':=by
 refine calls_sym Tryz.func58 rfl (by kernel_rfl) fun T hK=>?_
 replace hK:Kn T _ [(0,.pointer (some ⟨p,0,none⟩)),(1,.int .u64 b2),(2,.int .i64 c0)]:=hK
 have hS:=Fb.other hp
 have hG:GsAt [] w:=trivial
 refine wq hS hG hK (fun p1=>[.n 6 #[.bool false,.slice none 0 0,.int .i64 0] 58]) (fun p1=>[(0,.pointer (some ⟨p,0,none⟩)),(1,.int .u64 b2),(2,.int .i64 c0),(6,pT (p1 0).N 0)]) (fun p1=>?_) (fun p1 W1 T hF hK=>?_)
 ·refine okn ?_
  exact ok_nil
 replace hS:=SymF.fc hS hF [0,1000] [⟨p,#[.int .i64 E,.int .i64 F,.int .u64 b,.int .u8 md,.int .i64 er],67,false⟩,⟨(p1 0).N,#[.bool false,.slice none 0 0,.int .i64 0],58,true⟩]
 replace hG:=hF.gx
 clear hF
 refine wq hS hG hK (fun p2=>[.v 10 (.pointer (some ⟨p,0,none⟩)),.v 11 (.pointer (some ⟨p,0,none⟩)),.v 12 (.pointer (some ⟨p,4,none⟩)),.v 13 (.int .i64 c0),.c (some 14) (cV (.tuple #[]))]) (fun p2=>[(0,.pointer (some ⟨p,0,none⟩)),(1,.int .u64 b2),(2,.int .i64 c0),(6,pT (p1 0).N 0)]) (fun p2=>?_) (fun p2 W2 T hF hK=>?_)
 ·iterate 4 refine okv ?_
  refine okc (fun W cx=>as_v (keep_g p 4 er c0 hk _ ⟨_,_,cx.B 0 _ rfl (by kernel_rfl) (by kernel_rfl),rfl⟩)) ?_
  exact ok_nil
 obtain ⟨hS,hG⟩:=SymF.fg hS hF
 clear hF
 refine wq hS hG hK (fun p3=>[.v 16 (.pointer (some ⟨p,0,none⟩)),.v 17 (.pointer (some ⟨p,0,none⟩)),.v 18 (.pointer (some ⟨p,0,none⟩)),.l 19 (.agg #[.int .i64 E,.int .i64 F]) 0 0,.v 20 (.int .u64 b2),.c (some 21) (cV (.tuple #[.int .u8 4,.int .i64 0])),.v 15 (.tuple #[.int .u8 4,.int .i64 0]),.v 22 (.int .u8 4),.v 23 (.int .i64 0),.v 7 (.int .u8 4),.v 2 (.int .i64 0)]) (fun p3=>[(0,.pointer (some ⟨p,0,none⟩)),(1,.int .u64 b2),(2,.int .i64 0),(6,pT (p1 0).N 0),(7,.int .u8 4)]) (fun p3=>?_) (fun p3 W3 T hF hK=>?_)
 ·iterate 3 refine okv ?_
  refine okl ?_
  refine okv ?_
  refine okc (fun W cx=>as_v (unhide HC _)) ?_
  iterate 5 refine okv ?_
  exact ok_nil
 obtain ⟨hS,hG⟩:=SymF.fg hS hF
 clear hF
 refine wq hS hG hK (fun p4=>[.v 24 (.pointer (some ⟨p,0,none⟩)),.v 25 (.pointer (some ⟨p,0,none⟩)),.v 26 (.pointer (some ⟨p,4,none⟩)),.v 27 (.int .i64 0),.c (some 28) (cV (.tuple #[]))]) (fun p4=>[(0,.pointer (some ⟨p,0,none⟩)),(1,.int .u64 b2),(2,.int .i64 0),(6,pT (p1 0).N 0),(7,.int .u8 4)]) (fun p4=>?_) (fun p4 W4 T hF hK=>?_)
 ·iterate 4 refine okv ?_
  refine okc (fun W cx=>as_v (keep_g p 4 er 0 (fun _=>rfl) _ ⟨_,_,cx.B 0 _ rfl (by kernel_rfl) (by kernel_rfl),rfl⟩)) ?_
  exact ok_nil
 obtain ⟨hS,hG⟩:=SymF.fg hS hF
 clear hF
 refine wp_seq ?_
 refine wq hS hG hK (fun p5=>[.v 29 (.int .u8 4),.v 30 (.bool false)]) (fun p5=>[(0,.pointer (some ⟨p,0,none⟩)),(1,.int .u64 b2),(2,.int .i64 0),(6,pT (p1 0).N 0),(30,.bool false)]) (fun p5=>?_) (fun p5 W5 T hF hK=>?_)
 ·iterate 2 refine okv ?_
  exact ok_nil
 obtain ⟨hS,hG⟩:=SymF.fg hS hF
 clear hF
 refine wp_cond_false (hK.ew 30) (wp_skip (then_n ?_))
 refine wq hS hG hK (fun p6=>[.v 44 (.pointer (some ⟨p,0,none⟩)),.v 45 (.pointer (some ⟨p,0,none⟩)),.v 46 (.pointer (some ⟨p,0,none⟩)),.l 47 (.agg #[.int .i64 E,.int .i64 F]) 0 0,.c (some 48) (cV (.tuple #[.int .i64 lo,.int .i64 hi,.int .i64 0])),.v 43 (.tuple #[.int .i64 lo,.int .i64 hi,.int .i64 0]),.v 49 (.int .i64 lo),.v 50 (.int .i64 hi),.v 51 (.int .i64 0),.v 8 (.int .i64 lo),.v 9 (.int .i64 hi),.v 2 (.int .i64 0)]) (fun p6=>[(0,.pointer (some ⟨p,0,none⟩)),(1,.int .u64 b2),(2,.int .i64 0),(6,pT (p1 0).N 0),(9,.int .i64 hi)]) (fun p6=>?_) (fun p6 W6 T hF hK=>?_)
 ·iterate 3 refine okv ?_
  refine okl ?_
  refine okc (fun W cx=>as_v (unhide HG _)) ?_
  iterate 7 refine okv ?_
  exact ok_nil
 obtain ⟨hS,hG⟩:=SymF.fg hS hF
 clear hF
 refine wq hS hG hK (fun p7=>[.v 52 (.pointer (some ⟨p,0,none⟩)),.v 53 (.pointer (some ⟨p,0,none⟩)),.v 54 (.pointer (some ⟨p,4,none⟩)),.v 55 (.int .i64 0),.c (some 56) (cV (.tuple #[]))]) (fun p7=>[(0,.pointer (some ⟨p,0,none⟩)),(1,.int .u64 b2),(6,pT (p1 0).N 0),(9,.int .i64 hi)]) (fun p7=>?_) (fun p7 W7 T hF hK=>?_)
 ·iterate 4 refine okv ?_
  refine okc (fun W cx=>as_v (keep_g p 4 er 0 (fun _=>rfl) _ ⟨_,_,cx.B 0 _ rfl (by kernel_rfl) (by kernel_rfl),rfl⟩)) ?_
  exact ok_nil
 obtain ⟨hS,hG⟩:=SymF.fg hS hF
 clear hF
 refine wq hS hG hK (fun p8=>[.v 57 (.pointer (some ⟨p,0,none⟩)),.v 58 (.pointer (some ⟨p,0,none⟩)),.v 59 (.pointer (some ⟨p,4,none⟩)),.v 60 (.int .u64 b2),.v 61 (.pointer (some ⟨p,0,none⟩)),.v 62 (.pointer (some ⟨p,0,none⟩)),.v 63 (.pointer (some ⟨p,0,none⟩)),.l 64 (.agg #[.int .i64 E,.int .i64 F]) 0 0,.c (some 65) (cV (.int .u64 S)),.v 66 (.bool s),.c (some 67) (cN W7.heap.size 1),.v 68 (.int .i64 hi),.v 69 (.int .i64 (hi+1)),.c (some 70) (cG W7.heap.size 1 fun x9=>.tuple #[.agg #[.bool s,x9,.int .i64 (hi+1)],.int .i64 0]),.v 71 (.agg #[.bool s,.slice (p8 13).A (p8 13).N (p8 13).C,.int .i64 (hi+1)]),.v 72 (.int .i64 0),.u 73 (.agg #[.bool s,.slice (p8 13).A (p8 13).N (p8 13).C,.int .i64 (hi+1)]) (aG 1),.p 1 0 [.bool s,.slice (p8 13).A (p8 13).N (p8 13).C,.int .i64 (hi+1)]]) (fun p8=>[(0,.pointer (some ⟨p,0,none⟩)),(1,.int .u64 b2),(6,pT (p1 0).N 0)]) (fun p8=>?_) (fun p8 W8 T hF hK=>?_)
 ·iterate 7 refine okv ?_
  refine okl ?_
  refine okc (fun W cx=>as_v (unhide HB _)) ?_
  refine okvb (hs) ?_
  refine okc (fun W cx=>as_n cx.hb (one_any _)) ?_
  refine okv ?_
  refine okvi (wr64 (x:=hi+1) (by omega) (by omega)) ?_
  refine okc (fun W cx=>as_g cx.hb (unhide HK _ _ _ _ _ (cx.F 10 (by kernel_rfl)) (hT.kept cx.fr))) ?_
  iterate 2 refine okv ?_
  refine oku (fun W cx=>runDyadic_g p 4 er 0 (fun _=>rfl) _ _ _ _ _ _ ⟨_,_,cx.B 0 _ rfl (by kernel_rfl) (by kernel_rfl),rfl⟩) ?_
  refine okp ?_
  exact ok_nil
 replace hS:=SymF.fc hS hF [0,1] [⟨p,#[.int .i64 E,.int .i64 F,.int .u64 b,.int .u8 md,.int .i64 er],67,false⟩,⟨(p1 0).N,#[.bool s,.slice (p8 13).A (p8 13).N (p8 13).C,.int .i64 (hi+1)],58,true⟩]
 replace hG:GsAt (gM W7.heap.size (p8 10).A (p8 10).N (p8 10).C 1 :: gM W7.heap.size (p8 13).A (p8 13).N (p8 13).C 1 :: _) W8:=⟨hF.fx 10,hF.fx 13,hF.gx⟩
 clear hF
 refine wp_ret ?_
 exact sym_end hS hK (.agg #[.bool s,.slice (p8 13).A (p8 13).N (p8 13).C,.int .i64 (hi+1)]) [(1,0,3)] [.bool s,.slice (p8 13).A (p8 13).N (p8 13).C,.int .i64 (hi+1)] (by kernel_rfl) (by kernel_rfl) ⟨⟨_,_,_,rfl,Mine.mono (hG.2.1) (Nat.zero_le _)⟩,hS.fr⟩
theorem rmid_is (w:World) (E F b md er:Int) (p:Nat) (s:Bool) (a:Option Addr) (n c m:Nat) (x:Int) (s':Bool) (a':Option Addr) (n' c' m':Nat) (x':Int) (r1:Bool) (v1:Nat) (y1:Int) (r2:Bool) (v2:Nat) (y2:Int) (h1:Num w a n m) (h2:Num w a' n' m') (hT:Tb w) (hp:w.heap[p]? = some (.cells #[.int .i64 E,.int .i64 F,.int .u64 b,.int .u8 md,.int .i64 er] 67 (0,0))) (HK:Hid (Mk1 false (-1))) (HS:Hid (SumsM s m x s' m' x' 0 r1 v1 y1)) (HP:Hid (ProdsM r1 v1 y1 false 1 (-1) 0 r2 v2 y2)) :
  Calls Tryz.prog 102 #[.pointer (some ⟨p,4,none⟩),.agg #[.bool s,.slice a n c,.int .i64 x],.agg #[.bool s',.slice a' n' c',.int .i64 x']] w fun en w'=>(∃ A N C,en = .returned (.agg #[.bool r2,.slice A N C,.int .i64 y2])∧Mine w' 0 A N C v2)∧Below w.heap.size w w':=by
 refine calls_sym Tryz.func102 rfl (by kernel_rfl) fun T hK=>?_
 replace hK:Kn T _ [(0,.pointer (some ⟨p,4,none⟩)),(1,.agg #[.bool s,.slice a n c,.int .i64 x]),(2,.agg #[.bool s',.slice a' n' c',.int .i64 x'])]:=hK
 have hS:=Fb.other hp
 have hG:GsAt [gN a n m,gN a' n' m'] w:=⟨h1,h2,trivial⟩
 refine wq hS hG hK (fun p1=>[.n 4 #[.bool s,.slice a n c,.int .i64 x] 58,.n 5 #[.bool s',.slice a' n' c',.int .i64 x'] 58,.n 6 #[.bool false,.slice none 0 0,.int .i64 0] 58]) (fun p1=>[(0,.pointer (some ⟨p,4,none⟩)),(4,pT (p1 0).N 0),(5,pT (p1 1).N 0),(6,pT (p1 2).N 0)]) (fun p1=>?_) (fun p1 W1 T hF hK=>?_)
 ·iterate 3 refine okn ?_
  exact ok_nil
 replace hS:=SymF.fc hS hF [0,1000,1001,1002] [⟨p,#[.int .i64 E,.int .i64 F,.int .u64 b,.int .u8 md,.int .i64 er],67,false⟩,⟨(p1 0).N,#[.bool s,.slice a n c,.int .i64 x],58,true⟩,⟨(p1 1).N,#[.bool s',.slice a' n' c',.int .i64 x'],58,true⟩,⟨(p1 2).N,#[.bool false,.slice none 0 0,.int .i64 0],58,true⟩]
 replace hG:=hF.gx
 clear hF
 refine wq hS hG hK (fun p2=>[.v 8 (.pointer (some ⟨p,4,none⟩)),.c (some 9) (cN W1.heap.size 1),.c (some 10) (cG W1.heap.size 1 fun x9=>.tuple #[.agg #[.bool false,x9,.int .i64 (-1)],.int .i64 0]),.v 11 (.agg #[.bool false,.slice (p2 2).A (p2 2).N (p2 2).C,.int .i64 (-1)]),.v 12 (.int .i64 0),.u 13 (.agg #[.bool false,.slice (p2 2).A (p2 2).N (p2 2).C,.int .i64 (-1)]) (aG 1),.n 7 #[.bool false,.slice none 0 0,.int .i64 0] 58,.p 1006 0 [.bool false,.slice (p2 2).A (p2 2).N (p2 2).C,.int .i64 (-1)]]) (fun p2=>[(0,.pointer (some ⟨p,4,none⟩)),(4,pT (p1 0).N 0),(5,pT (p1 1).N 0),(6,pT (p1 2).N 0),(7,pT (p2 6).N 0)]) (fun p2=>?_) (fun p2 W2 T hF hK=>?_)
 ·refine okv ?_
  refine okc (fun W cx=>as_n cx.hb (one_any _)) ?_
  refine okc (fun W cx=>as_g cx.hb (unhide HK _ _ _ _ _ (cx.F 1 (by kernel_rfl)) (hT.kept cx.fr))) ?_
  iterate 2 refine okv ?_
  refine oku (fun W cx=>runDyadic_g p 4 er 0 (fun _=>rfl) _ _ _ _ _ _ ⟨_,_,cx.B 0 _ rfl (by kernel_rfl) (by kernel_rfl),rfl⟩) ?_
  refine okn ?_
  refine okp ?_
  exact ok_nil
 replace hS:=SymF.fc hS hF [0,1,2,3,1006] [⟨p,#[.int .i64 E,.int .i64 F,.int .u64 b,.int .u8 md,.int .i64 er],67,false⟩,⟨(p1 0).N,#[.bool s,.slice a n c,.int .i64 x],58,true⟩,⟨(p1 1).N,#[.bool s',.slice a' n' c',.int .i64 x'],58,true⟩,⟨(p1 2).N,#[.bool false,.slice none 0 0,.int .i64 0],58,true⟩,⟨(p2 6).N,#[.bool false,.slice (p2 2).A (p2 2).N (p2 2).C,.int .i64 (-1)],58,true⟩]
 replace hG:GsAt (gM W1.heap.size (p2 1).A (p2 1).N (p2 1).C 1 :: gM W1.heap.size (p2 2).A (p2 2).N (p2 2).C 1 :: _) W2:=⟨hF.fx 1,hF.fx 2,hF.gx⟩
 clear hF
 refine wq hS hG hK (fun p3=>[.v 14 (.pointer (some ⟨p,4,none⟩)),.v 15 (.pointer (some ⟨p,4,none⟩)),.l 16 (.agg #[.bool s,.slice a n c,.int .i64 x]) 1 0,.l 17 (.agg #[.bool s',.slice a' n' c',.int .i64 x']) 2 0,.c (some 18) (cG W2.heap.size v1 fun x9=>.tuple #[.agg #[.bool r1,x9,.int .i64 y1],.int .i64 0]),.v 19 (.agg #[.bool r1,.slice (p3 4).A (p3 4).N (p3 4).C,.int .i64 y1]),.v 20 (.int .i64 0),.u 21 (.agg #[.bool r1,.slice (p3 4).A (p3 4).N (p3 4).C,.int .i64 y1]) (aG 1),.l 22 (.agg #[.bool false,.slice (p2 2).A (p2 2).N (p2 2).C,.int .i64 (-1)]) 4 0,.c (some 23) (cG W2.heap.size v2 fun x9=>.tuple #[.agg #[.bool r2,x9,.int .i64 y2],.int .i64 0]),.v 24 (.agg #[.bool r2,.slice (p3 9).A (p3 9).N (p3 9).C,.int .i64 y2]),.v 25 (.int .i64 0),.u 26 (.agg #[.bool r2,.slice (p3 9).A (p3 9).N (p3 9).C,.int .i64 y2]) (aG 1),.p 3 0 [.bool r2,.slice (p3 9).A (p3 9).N (p3 9).C,.int .i64 y2]]) (fun p3=>[(6,pT (p1 2).N 0)]) (fun p3=>?_) (fun p3 W3 T hF hK=>?_)
 ·iterate 2 refine okv ?_
  iterate 2 refine okl ?_
  refine okc (fun W cx=>as_g cx.hb (unhide HS _ _ _ c _ _ c' (cx.G.2.2.1) (cx.G.2.2.2.1) (hT.kept cx.fr))) ?_
  iterate 2 refine okv ?_
  refine oku (fun W cx=>runDyadic_g p 4 er 0 (fun _=>rfl) _ _ _ _ _ _ ⟨_,_,cx.B 0 _ rfl (by kernel_rfl) (by kernel_rfl),rfl⟩) ?_
  refine okl ?_
  refine okc (fun W cx=>as_g cx.hb (unhide HP _ _ _ (p3 4).C _ _ (p2 2).C (Mine.num (cx.F 4 (by kernel_rfl))) (Mine.num cx.G.2.1))) ?_
  iterate 2 refine okv ?_
  refine oku (fun W cx=>runDyadic_g p 4 er 0 (fun _=>rfl) _ _ _ _ _ _ ⟨_,_,cx.B 0 _ rfl (by kernel_rfl) (by kernel_rfl),rfl⟩) ?_
  refine okp ?_
  exact ok_nil
 replace hS:=SymF.fc hS hF [0,3] [⟨p,#[.int .i64 E,.int .i64 F,.int .u64 b,.int .u8 md,.int .i64 er],67,false⟩,⟨(p1 2).N,#[.bool r2,.slice (p3 9).A (p3 9).N (p3 9).C,.int .i64 y2],58,true⟩]
 replace hG:GsAt (gM W2.heap.size (p3 4).A (p3 4).N (p3 4).C v1 :: gM W2.heap.size (p3 9).A (p3 9).N (p3 9).C v2 :: _) W3:=⟨hF.fx 4,hF.fx 9,hF.gx⟩
 clear hF
 refine wp_ret ?_
 exact sym_end hS hK (.agg #[.bool r2,.slice (p3 9).A (p3 9).N (p3 9).C,.int .i64 y2]) [(1,0,3)] [.bool r2,.slice (p3 9).A (p3 9).N (p3 9).C,.int .i64 y2] (by kernel_rfl) (by kernel_rfl) ⟨⟨_,_,_,rfl,Mine.mono (hG.2.1) (Nat.zero_le _)⟩,hS.fr⟩
theorem rbor_m0 (w:World) (E F b er:Int) (p:Nat) (s:Bool) (a:Option Addr) (n c m:Nat) (x:Int) (s':Bool) (a':Option Addr) (n' c' m':Nat) (x':Int) (r:Bool) (v:Nat) (y:Int) (h1:Num w a n m) (h2:Num w a' n' m') (hT:Tb w) (hp:w.heap[p]? = some (.cells #[.int .i64 E,.int .i64 F,.int .u64 b,.int .u8 0,.int .i64 er] 67 (0,0))) (HM:Hid (∀ (W:World) (A:Option Addr) (N C:Nat) (A':Option Addr) (N' C':Nat),Tb W→W.heap[p]? = some (.cells #[.int .i64 E,.int .i64 F,.int .u64 b,.int .u8 0,.int .i64 er] 67 (0,0))→Num W A N m→Num W A' N' m'→Calls Tryz.prog 102 #[.pointer (some ⟨p,4,none⟩),.agg #[.bool s,.slice A N C,.int .i64 x],.agg #[.bool s',.slice A' N' C',.int .i64 x']] W fun e W'=>(∃ A N C,e = .returned (.agg #[.bool r,.slice A N C,.int .i64 y])∧Mine W' 0 A N C v)∧Below W.heap.size W W')) :
  Calls Tryz.prog 57 #[.pointer (some ⟨p,0,none⟩),.agg #[.bool s,.slice a n c,.int .i64 x],.agg #[.bool s',.slice a' n' c',.int .i64 x']] w fun en w'=>(∃ A N C,en = .returned (.agg #[.bool r,.slice A N C,.int .i64 y])∧Mine w' 0 A N C v)∧Below w.heap.size w w':=by
 refine calls_sym Tryz.func57 rfl (by kernel_rfl) fun T hK=>?_
 replace hK:Kn T _ [(0,.pointer (some ⟨p,0,none⟩)),(1,.agg #[.bool s,.slice a n c,.int .i64 x]),(2,.agg #[.bool s',.slice a' n' c',.int .i64 x'])]:=hK
 have hS:=Fb.other hp
 have hG:GsAt [gN a n m,gN a' n' m'] w:=⟨h1,h2,trivial⟩
 refine wq hS hG hK (fun p1=>[.n 4 #[.bool s,.slice a n c,.int .i64 x] 58,.n 5 #[.bool s',.slice a' n' c',.int .i64 x'] 58,.n 6 #[.bool false,.slice none 0 0,.int .i64 0] 58]) (fun p1=>[(0,.pointer (some ⟨p,0,none⟩)),(4,pT (p1 0).N 0),(5,pT (p1 1).N 0),(6,pT (p1 2).N 0)]) (fun p1=>?_) (fun p1 W1 T hF hK=>?_)
 ·iterate 3 refine okn ?_
  exact ok_nil
 replace hS:=SymF.fc hS hF [0,1000,1001,1002] [⟨p,#[.int .i64 E,.int .i64 F,.int .u64 b,.int .u8 0,.int .i64 er],67,false⟩,⟨(p1 0).N,#[.bool s,.slice a n c,.int .i64 x],58,true⟩,⟨(p1 1).N,#[.bool s',.slice a' n' c',.int .i64 x'],58,true⟩,⟨(p1 2).N,#[.bool false,.slice none 0 0,.int .i64 0],58,true⟩]
 replace hG:=hF.gx
 clear hF
 refine wp_seq ?_
 refine wq hS hG hK (fun p2=>[.v 7 (.pointer (some ⟨p,0,none⟩)),.v 8 (.pointer (some ⟨p,0,none⟩)),.v 9 (.pointer (some ⟨p,3,none⟩)),.l 10 (.int .u8 0) 0 3]) (fun p2=>[(0,.pointer (some ⟨p,0,none⟩)),(4,pT (p1 0).N 0),(5,pT (p1 1).N 0),(6,pT (p1 2).N 0),(10,.int .u8 0)]) (fun p2=>?_) (fun p2 W2 T hF hK=>?_)
 ·iterate 3 refine okv ?_
  refine okl ?_
  exact ok_nil
 obtain ⟨hS,hG⟩:=SymF.fg hS hF
 clear hF
 refine wp_block (wp_seq ?_)
 refine wq hS hG hK (fun p3=>[.v 12 (.bool true),.v 11 (.bool true)]) (fun p3=>[(0,.pointer (some ⟨p,0,none⟩)),(4,pT (p1 0).N 0),(5,pT (p1 1).N 0),(6,pT (p1 2).N 0),(10,.int .u8 0),(11,.bool true)]) (fun p3=>?_) (fun p3 W3 T hF hK=>?_)
 ·iterate 2 refine okv ?_
  exact ok_nil
 obtain ⟨hS,hG⟩:=SymF.fg hS hF
 clear hF
 refine wp_cond_true (hK.ew 11) (wp_skip ?_)
 refine then_n (wp_cond_true (hK.ew 11) ?_)
 refine wq hS hG hK (fun p4=>[.v 14 (.pointer (some ⟨p,0,none⟩)),.v 15 (.pointer (some ⟨p,0,none⟩)),.v 16 (.pointer (some ⟨p,4,none⟩)),.l 17 (.agg #[.bool s,.slice a n c,.int .i64 x]) 1 0,.l 18 (.agg #[.bool s',.slice a' n' c',.int .i64 x']) 2 0,.c (some 19) (cM0 v fun x9=>.agg #[.bool r,x9,.int .i64 y]),.p 3 0 [.bool r,.slice (p4 5).A (p4 5).N (p4 5).C,.int .i64 y]]) (fun p4=>[(4,pT (p1 0).N 0),(5,pT (p1 1).N 0),(6,pT (p1 2).N 0),(10,.int .u8 0)]) (fun p4=>?_) (fun p4 W4 T hF hK=>?_)
 ·iterate 3 refine okv ?_
  iterate 2 refine okl ?_
  refine okc (fun W cx=>as_0 (unhide HM _ _ _ c _ _ c' (hT.kept cx.fr) (cx.B 0 _ rfl (by kernel_rfl) (by kernel_rfl)) (cx.G.1) (cx.G.2.1))) ?_
  refine okp ?_
  exact ok_nil
 replace hS:=SymF.fc hS hF [0,1,2,3] [⟨p,#[.int .i64 E,.int .i64 F,.int .u64 b,.int .u8 0,.int .i64 er],67,false⟩,⟨(p1 0).N,#[.bool s,.slice a n c,.int .i64 x],58,true⟩,⟨(p1 1).N,#[.bool s',.slice a' n' c',.int .i64 x'],58,true⟩,⟨(p1 2).N,#[.bool r,.slice (p4 5).A (p4 5).N (p4 5).C,.int .i64 y],58,true⟩]
 replace hG:GsAt (gM 0 (p4 5).A (p4 5).N (p4 5).C v :: _) W4:=⟨hF.fx 5,hF.gx⟩
 clear hF
 refine wp_ret ?_
 refine inb_r ?_
 refine then_r ?_
 exact sym_end hS hK (.agg #[.bool r,.slice (p4 5).A (p4 5).N (p4 5).C,.int .i64 y]) [(3,0,3)] [.bool r,.slice (p4 5).A (p4 5).N (p4 5).C,.int .i64 y] (by kernel_rfl) (by kernel_rfl) ⟨⟨_,_,_,rfl,Mine.mono (hG.1) (Nat.zero_le _)⟩,hS.fr⟩
theorem rbor_m1 (w:World) (E F b er:Int) (p:Nat) (s:Bool) (a:Option Addr) (n c m:Nat) (x:Int) (s':Bool) (a':Option Addr) (n' c' m':Nat) (x':Int) (r:Bool) (v:Nat) (y:Int) (h1:Num w a n m) (h2:Num w a' n' m') (hT:Tb w) (hp:w.heap[p]? = some (.cells #[.int .i64 E,.int .i64 F,.int .u64 b,.int .u8 1,.int .i64 er] 67 (0,0))) (HM:Hid (∀ (W:World) (A:Option Addr) (N C:Nat) (A':Option Addr) (N' C':Nat),Tb W→W.heap[p]? = some (.cells #[.int .i64 E,.int .i64 F,.int .u64 b,.int .u8 1,.int .i64 er] 67 (0,0))→Num W A N m→Num W A' N' m'→Calls Tryz.prog 102 #[.pointer (some ⟨p,4,none⟩),.agg #[.bool s,.slice A N C,.int .i64 x],.agg #[.bool s',.slice A' N' C',.int .i64 x']] W fun e W'=>(∃ A N C,e = .returned (.agg #[.bool r,.slice A N C,.int .i64 y])∧Mine W' 0 A N C v)∧Below W.heap.size W W')) :
  Calls Tryz.prog 57 #[.pointer (some ⟨p,0,none⟩),.agg #[.bool s,.slice a n c,.int .i64 x],.agg #[.bool s',.slice a' n' c',.int .i64 x']] w fun en w'=>(∃ A N C,en = .returned (.agg #[.bool r,.slice A N C,.int .i64 y])∧Mine w' 0 A N C v)∧Below w.heap.size w w':=by
 refine calls_sym Tryz.func57 rfl (by kernel_rfl) fun T hK=>?_
 replace hK:Kn T _ [(0,.pointer (some ⟨p,0,none⟩)),(1,.agg #[.bool s,.slice a n c,.int .i64 x]),(2,.agg #[.bool s',.slice a' n' c',.int .i64 x'])]:=hK
 have hS:=Fb.other hp
 have hG:GsAt [gN a n m,gN a' n' m'] w:=⟨h1,h2,trivial⟩
 refine wq hS hG hK (fun p1=>[.n 4 #[.bool s,.slice a n c,.int .i64 x] 58,.n 5 #[.bool s',.slice a' n' c',.int .i64 x'] 58,.n 6 #[.bool false,.slice none 0 0,.int .i64 0] 58]) (fun p1=>[(0,.pointer (some ⟨p,0,none⟩)),(4,pT (p1 0).N 0),(5,pT (p1 1).N 0),(6,pT (p1 2).N 0)]) (fun p1=>?_) (fun p1 W1 T hF hK=>?_)
 ·iterate 3 refine okn ?_
  exact ok_nil
 replace hS:=SymF.fc hS hF [0,1000,1001,1002] [⟨p,#[.int .i64 E,.int .i64 F,.int .u64 b,.int .u8 1,.int .i64 er],67,false⟩,⟨(p1 0).N,#[.bool s,.slice a n c,.int .i64 x],58,true⟩,⟨(p1 1).N,#[.bool s',.slice a' n' c',.int .i64 x'],58,true⟩,⟨(p1 2).N,#[.bool false,.slice none 0 0,.int .i64 0],58,true⟩]
 replace hG:=hF.gx
 clear hF
 refine wp_seq ?_
 refine wq hS hG hK (fun p2=>[.v 7 (.pointer (some ⟨p,0,none⟩)),.v 8 (.pointer (some ⟨p,0,none⟩)),.v 9 (.pointer (some ⟨p,3,none⟩)),.l 10 (.int .u8 1) 0 3]) (fun p2=>[(0,.pointer (some ⟨p,0,none⟩)),(4,pT (p1 0).N 0),(5,pT (p1 1).N 0),(6,pT (p1 2).N 0),(10,.int .u8 1)]) (fun p2=>?_) (fun p2 W2 T hF hK=>?_)
 ·iterate 3 refine okv ?_
  refine okl ?_
  exact ok_nil
 obtain ⟨hS,hG⟩:=SymF.fg hS hF
 clear hF
 refine wp_block (wp_seq ?_)
 refine wq hS hG hK (fun p3=>[.v 12 (.bool false),.v 11 (.bool false)]) (fun p3=>[(0,.pointer (some ⟨p,0,none⟩)),(4,pT (p1 0).N 0),(5,pT (p1 1).N 0),(6,pT (p1 2).N 0),(10,.int .u8 1),(11,.bool false)]) (fun p3=>?_) (fun p3 W3 T hF hK=>?_)
 ·iterate 2 refine okv ?_
  exact ok_nil
 obtain ⟨hS,hG⟩:=SymF.fg hS hF
 clear hF
 refine wp_cond_false (hK.ew 11) ?_
 refine wg hS hG hK (fun p4=>[.v 13 (.bool true),.v 11 (.bool true)]) (fun p4=>[(0,.pointer (some ⟨p,0,none⟩)),(4,pT (p1 0).N 0),(5,pT (p1 1).N 0),(6,pT (p1 2).N 0),(10,.int .u8 1),(11,.bool true)]) (fun p4=>?_) (fun p4 W4 T hF hK=>?_)
 ·iterate 2 refine okv ?_
  exact ok_nil
 obtain ⟨hS,hG⟩:=SymF.fg hS hF
 clear hF
 refine then_n (wp_cond_true (hK.ew 11) ?_)
 refine wq hS hG hK (fun p5=>[.v 14 (.pointer (some ⟨p,0,none⟩)),.v 15 (.pointer (some ⟨p,0,none⟩)),.v 16 (.pointer (some ⟨p,4,none⟩)),.l 17 (.agg #[.bool s,.slice a n c,.int .i64 x]) 1 0,.l 18 (.agg #[.bool s',.slice a' n' c',.int .i64 x']) 2 0,.c (some 19) (cM0 v fun x9=>.agg #[.bool r,x9,.int .i64 y]),.p 3 0 [.bool r,.slice (p5 5).A (p5 5).N (p5 5).C,.int .i64 y]]) (fun p5=>[(4,pT (p1 0).N 0),(5,pT (p1 1).N 0),(6,pT (p1 2).N 0),(10,.int .u8 1)]) (fun p5=>?_) (fun p5 W5 T hF hK=>?_)
 ·iterate 3 refine okv ?_
  iterate 2 refine okl ?_
  refine okc (fun W cx=>as_0 (unhide HM _ _ _ c _ _ c' (hT.kept cx.fr) (cx.B 0 _ rfl (by kernel_rfl) (by kernel_rfl)) (cx.G.1) (cx.G.2.1))) ?_
  refine okp ?_
  exact ok_nil
 replace hS:=SymF.fc hS hF [0,1,2,3] [⟨p,#[.int .i64 E,.int .i64 F,.int .u64 b,.int .u8 1,.int .i64 er],67,false⟩,⟨(p1 0).N,#[.bool s,.slice a n c,.int .i64 x],58,true⟩,⟨(p1 1).N,#[.bool s',.slice a' n' c',.int .i64 x'],58,true⟩,⟨(p1 2).N,#[.bool r,.slice (p5 5).A (p5 5).N (p5 5).C,.int .i64 y],58,true⟩]
 replace hG:GsAt (gM 0 (p5 5).A (p5 5).N (p5 5).C v :: _) W5:=⟨hF.fx 5,hF.gx⟩
 clear hF
 refine wp_ret ?_
 refine inb_r ?_
 refine then_r ?_
 exact sym_end hS hK (.agg #[.bool r,.slice (p5 5).A (p5 5).N (p5 5).C,.int .i64 y]) [(3,0,3)] [.bool r,.slice (p5 5).A (p5 5).N (p5 5).C,.int .i64 y] (by kernel_rfl) (by kernel_rfl) ⟨⟨_,_,_,rfl,Mine.mono (hG.1) (Nat.zero_le _)⟩,hS.fr⟩
theorem rbor_u4 (w:World) (E F b er:Int) (p:Nat) (s:Bool) (a:Option Addr) (n c:Nat) (x:Int) (s':Bool) (a':Option Addr) (n' c':Nat) (x':Int) (hp:w.heap[p]? = some (.cells #[.int .i64 E,.int .i64 F,.int .u64 b,.int .u8 4,.int .i64 er] 67 (0,0))) :
  Calls Tryz.prog 57 #[.pointer (some ⟨p,0,none⟩),.agg #[.bool s,.slice a n c,.int .i64 x],.agg #[.bool s',.slice a' n' c',.int .i64 x']] w fun en w'=>en = .returned (.agg #[.bool s',.slice a' n' c',.int .i64 x'])∧Below w.heap.size w w':=by
 refine calls_sym Tryz.func57 rfl (by kernel_rfl) fun T hK=>?_
 replace hK:Kn T _ [(0,.pointer (some ⟨p,0,none⟩)),(1,.agg #[.bool s,.slice a n c,.int .i64 x]),(2,.agg #[.bool s',.slice a' n' c',.int .i64 x'])]:=hK
 have hS:=Fb.other hp
 have hG:GsAt [] w:=trivial
 refine wq hS hG hK (fun p1=>[.n 4 #[.bool s,.slice a n c,.int .i64 x] 58,.n 5 #[.bool s',.slice a' n' c',.int .i64 x'] 58,.n 6 #[.bool false,.slice none 0 0,.int .i64 0] 58]) (fun p1=>[(0,.pointer (some ⟨p,0,none⟩)),(4,pT (p1 0).N 0),(5,pT (p1 1).N 0),(6,pT (p1 2).N 0)]) (fun p1=>?_) (fun p1 W1 T hF hK=>?_)
 ·iterate 3 refine okn ?_
  exact ok_nil
 replace hS:=SymF.fc hS hF [0,1000,1001,1002] [⟨p,#[.int .i64 E,.int .i64 F,.int .u64 b,.int .u8 4,.int .i64 er],67,false⟩,⟨(p1 0).N,#[.bool s,.slice a n c,.int .i64 x],58,true⟩,⟨(p1 1).N,#[.bool s',.slice a' n' c',.int .i64 x'],58,true⟩,⟨(p1 2).N,#[.bool false,.slice none 0 0,.int .i64 0],58,true⟩]
 replace hG:=hF.gx
 clear hF
 refine wp_seq ?_
 refine wq hS hG hK (fun p2=>[.v 7 (.pointer (some ⟨p,0,none⟩)),.v 8 (.pointer (some ⟨p,0,none⟩)),.v 9 (.pointer (some ⟨p,3,none⟩)),.l 10 (.int .u8 4) 0 3]) (fun p2=>[(0,.pointer (some ⟨p,0,none⟩)),(4,pT (p1 0).N 0),(5,pT (p1 1).N 0),(6,pT (p1 2).N 0),(10,.int .u8 4)]) (fun p2=>?_) (fun p2 W2 T hF hK=>?_)
 ·iterate 3 refine okv ?_
  refine okl ?_
  exact ok_nil
 obtain ⟨hS,hG⟩:=SymF.fg hS hF
 clear hF
 refine wp_block (wp_seq ?_)
 refine wq hS hG hK (fun p3=>[.v 12 (.bool false),.v 11 (.bool false)]) (fun p3=>[(0,.pointer (some ⟨p,0,none⟩)),(4,pT (p1 0).N 0),(5,pT (p1 1).N 0),(6,pT (p1 2).N 0),(10,.int .u8 4),(11,.bool false)]) (fun p3=>?_) (fun p3 W3 T hF hK=>?_)
 ·iterate 2 refine okv ?_
  exact ok_nil
 obtain ⟨hS,hG⟩:=SymF.fg hS hF
 clear hF
 refine wp_cond_false (hK.ew 11) ?_
 refine wg hS hG hK (fun p4=>[.v 13 (.bool false),.v 11 (.bool false)]) (fun p4=>[(0,.pointer (some ⟨p,0,none⟩)),(4,pT (p1 0).N 0),(5,pT (p1 1).N 0),(6,pT (p1 2).N 0),(10,.int .u8 4),(11,.bool false)]) (fun p4=>?_) (fun p4 W4 T hF hK=>?_)
 ·iterate 2 refine okv ?_
  exact ok_nil
 obtain ⟨hS,hG⟩:=SymF.fg hS hF
 clear hF
 refine then_n (wp_cond_false (hK.ew 11) ?_)
 refine wq hS hG hK (fun p5=>[.v 21 (.bool true),.v 20 (.bool true)]) (fun p5=>[(0,.pointer (some ⟨p,0,none⟩)),(4,pT (p1 0).N 0),(5,pT (p1 1).N 0),(6,pT (p1 2).N 0),(10,.int .u8 4),(20,.bool true)]) (fun p5=>?_) (fun p5 W5 T hF hK=>?_)
 ·iterate 2 refine okv ?_
  exact ok_nil
 obtain ⟨hS,hG⟩:=SymF.fg hS hF
 clear hF
 refine wp_cond_true (hK.ew 20) ?_
 refine wq hS hG hK (fun p6=>[.l 22 (.agg #[.bool s',.slice a' n' c',.int .i64 x']) 2 0,.p 3 0 [.bool s',.slice a' n' c',.int .i64 x']]) (fun p6=>[(0,.pointer (some ⟨p,0,none⟩)),(4,pT (p1 0).N 0),(5,pT (p1 1).N 0),(6,pT (p1 2).N 0),(10,.int .u8 4)]) (fun p6=>?_) (fun p6 W6 T hF hK=>?_)
 ·refine okl ?_
  refine okp ?_
  exact ok_nil
 replace hS:=SymF.fc hS hF [0,1,2,3] [⟨p,#[.int .i64 E,.int .i64 F,.int .u64 b,.int .u8 4,.int .i64 er],67,false⟩,⟨(p1 0).N,#[.bool s,.slice a n c,.int .i64 x],58,true⟩,⟨(p1 1).N,#[.bool s',.slice a' n' c',.int .i64 x'],58,true⟩,⟨(p1 2).N,#[.bool s',.slice a' n' c',.int .i64 x'],58,true⟩]
 replace hG:=hF.gx
 clear hF
 refine wp_ret ?_
 refine inb_r ?_
 refine then_r ?_
 exact sym_end hS hK (.agg #[.bool s',.slice a' n' c',.int .i64 x']) [(3,0,3)] [.bool s',.slice a' n' c',.int .i64 x'] (by kernel_rfl) (by kernel_rfl) ⟨rfl,hS.fr⟩
theorem rbor_l3 (w:World) (E F b er:Int) (p:Nat) (s:Bool) (a:Option Addr) (n c:Nat) (x:Int) (s':Bool) (a':Option Addr) (n' c':Nat) (x':Int) (hp:w.heap[p]? = some (.cells #[.int .i64 E,.int .i64 F,.int .u64 b,.int .u8 3,.int .i64 er] 67 (0,0))) :
  Calls Tryz.prog 57 #[.pointer (some ⟨p,0,none⟩),.agg #[.bool s,.slice a n c,.int .i64 x],.agg #[.bool s',.slice a' n' c',.int .i64 x']] w fun en w'=>en = .returned (.agg #[.bool s,.slice a n c,.int .i64 x])∧Below w.heap.size w w':=by
 refine calls_sym Tryz.func57 rfl (by kernel_rfl) fun T hK=>?_
 replace hK:Kn T _ [(0,.pointer (some ⟨p,0,none⟩)),(1,.agg #[.bool s,.slice a n c,.int .i64 x]),(2,.agg #[.bool s',.slice a' n' c',.int .i64 x'])]:=hK
 have hS:=Fb.other hp
 have hG:GsAt [] w:=trivial
 refine wq hS hG hK (fun p1=>[.n 4 #[.bool s,.slice a n c,.int .i64 x] 58,.n 5 #[.bool s',.slice a' n' c',.int .i64 x'] 58,.n 6 #[.bool false,.slice none 0 0,.int .i64 0] 58]) (fun p1=>[(0,.pointer (some ⟨p,0,none⟩)),(4,pT (p1 0).N 0),(5,pT (p1 1).N 0),(6,pT (p1 2).N 0)]) (fun p1=>?_) (fun p1 W1 T hF hK=>?_)
 ·iterate 3 refine okn ?_
  exact ok_nil
 replace hS:=SymF.fc hS hF [0,1000,1001,1002] [⟨p,#[.int .i64 E,.int .i64 F,.int .u64 b,.int .u8 3,.int .i64 er],67,false⟩,⟨(p1 0).N,#[.bool s,.slice a n c,.int .i64 x],58,true⟩,⟨(p1 1).N,#[.bool s',.slice a' n' c',.int .i64 x'],58,true⟩,⟨(p1 2).N,#[.bool false,.slice none 0 0,.int .i64 0],58,true⟩]
 replace hG:=hF.gx
 clear hF
 refine wp_seq ?_
 refine wq hS hG hK (fun p2=>[.v 7 (.pointer (some ⟨p,0,none⟩)),.v 8 (.pointer (some ⟨p,0,none⟩)),.v 9 (.pointer (some ⟨p,3,none⟩)),.l 10 (.int .u8 3) 0 3]) (fun p2=>[(0,.pointer (some ⟨p,0,none⟩)),(4,pT (p1 0).N 0),(5,pT (p1 1).N 0),(6,pT (p1 2).N 0),(10,.int .u8 3)]) (fun p2=>?_) (fun p2 W2 T hF hK=>?_)
 ·iterate 3 refine okv ?_
  refine okl ?_
  exact ok_nil
 obtain ⟨hS,hG⟩:=SymF.fg hS hF
 clear hF
 refine wp_block (wp_seq ?_)
 refine wq hS hG hK (fun p3=>[.v 12 (.bool false),.v 11 (.bool false)]) (fun p3=>[(0,.pointer (some ⟨p,0,none⟩)),(4,pT (p1 0).N 0),(5,pT (p1 1).N 0),(6,pT (p1 2).N 0),(10,.int .u8 3),(11,.bool false)]) (fun p3=>?_) (fun p3 W3 T hF hK=>?_)
 ·iterate 2 refine okv ?_
  exact ok_nil
 obtain ⟨hS,hG⟩:=SymF.fg hS hF
 clear hF
 refine wp_cond_false (hK.ew 11) ?_
 refine wg hS hG hK (fun p4=>[.v 13 (.bool false),.v 11 (.bool false)]) (fun p4=>[(0,.pointer (some ⟨p,0,none⟩)),(4,pT (p1 0).N 0),(5,pT (p1 1).N 0),(6,pT (p1 2).N 0),(10,.int .u8 3),(11,.bool false)]) (fun p4=>?_) (fun p4 W4 T hF hK=>?_)
 ·iterate 2 refine okv ?_
  exact ok_nil
 obtain ⟨hS,hG⟩:=SymF.fg hS hF
 clear hF
 refine then_n (wp_cond_false (hK.ew 11) ?_)
 refine wq hS hG hK (fun p5=>[.v 21 (.bool false),.v 20 (.bool false)]) (fun p5=>[(0,.pointer (some ⟨p,0,none⟩)),(4,pT (p1 0).N 0),(5,pT (p1 1).N 0),(6,pT (p1 2).N 0),(10,.int .u8 3),(20,.bool false)]) (fun p5=>?_) (fun p5 W5 T hF hK=>?_)
 ·iterate 2 refine okv ?_
  exact ok_nil
 obtain ⟨hS,hG⟩:=SymF.fg hS hF
 clear hF
 refine wp_cond_false (hK.ew 20) ?_
 refine wq hS hG hK (fun p6=>[.v 24 (.bool true),.v 23 (.bool true)]) (fun p6=>[(0,.pointer (some ⟨p,0,none⟩)),(4,pT (p1 0).N 0),(5,pT (p1 1).N 0),(6,pT (p1 2).N 0),(23,.bool true)]) (fun p6=>?_) (fun p6 W6 T hF hK=>?_)
 ·iterate 2 refine okv ?_
  exact ok_nil
 obtain ⟨hS,hG⟩:=SymF.fg hS hF
 clear hF
 refine wp_cond_true (hK.ew 23) ?_
 refine wq hS hG hK (fun p7=>[.l 25 (.agg #[.bool s,.slice a n c,.int .i64 x]) 1 0,.p 3 0 [.bool s,.slice a n c,.int .i64 x]]) (fun p7=>[(0,.pointer (some ⟨p,0,none⟩)),(4,pT (p1 0).N 0),(5,pT (p1 1).N 0),(6,pT (p1 2).N 0)]) (fun p7=>?_) (fun p7 W7 T hF hK=>?_)
 ·refine okl ?_
  refine okp ?_
  exact ok_nil
 replace hS:=SymF.fc hS hF [0,1,2,3] [⟨p,#[.int .i64 E,.int .i64 F,.int .u64 b,.int .u8 3,.int .i64 er],67,false⟩,⟨(p1 0).N,#[.bool s,.slice a n c,.int .i64 x],58,true⟩,⟨(p1 1).N,#[.bool s',.slice a' n' c',.int .i64 x'],58,true⟩,⟨(p1 2).N,#[.bool s,.slice a n c,.int .i64 x],58,true⟩]
 replace hG:=hF.gx
 clear hF
 refine wp_ret ?_
 refine inb_r ?_
 refine then_r ?_
 exact sym_end hS hK (.agg #[.bool s,.slice a n c,.int .i64 x]) [(3,0,3)] [.bool s,.slice a n c,.int .i64 x] (by kernel_rfl) (by kernel_rfl) ⟨rfl,hS.fr⟩
theorem rbor_u2f (w:World) (E F b er:Int) (p:Nat) (a:Option Addr) (n c:Nat) (x:Int) (s':Bool) (a':Option Addr) (n' c':Nat) (x':Int) (hp:w.heap[p]? = some (.cells #[.int .i64 E,.int .i64 F,.int .u64 b,.int .u8 2,.int .i64 er] 67 (0,0))) :
  Calls Tryz.prog 57 #[.pointer (some ⟨p,0,none⟩),.agg #[.bool false,.slice a n c,.int .i64 x],.agg #[.bool s',.slice a' n' c',.int .i64 x']] w fun en w'=>en = .returned (.agg #[.bool s',.slice a' n' c',.int .i64 x'])∧Below w.heap.size w w':=by
 refine calls_sym Tryz.func57 rfl (by kernel_rfl) fun T hK=>?_
 replace hK:Kn T _ [(0,.pointer (some ⟨p,0,none⟩)),(1,.agg #[.bool false,.slice a n c,.int .i64 x]),(2,.agg #[.bool s',.slice a' n' c',.int .i64 x'])]:=hK
 have hS:=Fb.other hp
 have hG:GsAt [] w:=trivial
 refine wq hS hG hK (fun p1=>[.n 4 #[.bool false,.slice a n c,.int .i64 x] 58,.n 5 #[.bool s',.slice a' n' c',.int .i64 x'] 58,.n 6 #[.bool false,.slice none 0 0,.int .i64 0] 58]) (fun p1=>[(0,.pointer (some ⟨p,0,none⟩)),(4,pT (p1 0).N 0),(5,pT (p1 1).N 0),(6,pT (p1 2).N 0)]) (fun p1=>?_) (fun p1 W1 T hF hK=>?_)
 ·iterate 3 refine okn ?_
  exact ok_nil
 replace hS:=SymF.fc hS hF [0,1000,1001,1002] [⟨p,#[.int .i64 E,.int .i64 F,.int .u64 b,.int .u8 2,.int .i64 er],67,false⟩,⟨(p1 0).N,#[.bool false,.slice a n c,.int .i64 x],58,true⟩,⟨(p1 1).N,#[.bool s',.slice a' n' c',.int .i64 x'],58,true⟩,⟨(p1 2).N,#[.bool false,.slice none 0 0,.int .i64 0],58,true⟩]
 replace hG:=hF.gx
 clear hF
 refine wp_seq ?_
 refine wq hS hG hK (fun p2=>[.v 7 (.pointer (some ⟨p,0,none⟩)),.v 8 (.pointer (some ⟨p,0,none⟩)),.v 9 (.pointer (some ⟨p,3,none⟩)),.l 10 (.int .u8 2) 0 3]) (fun p2=>[(0,.pointer (some ⟨p,0,none⟩)),(4,pT (p1 0).N 0),(5,pT (p1 1).N 0),(6,pT (p1 2).N 0),(10,.int .u8 2)]) (fun p2=>?_) (fun p2 W2 T hF hK=>?_)
 ·iterate 3 refine okv ?_
  refine okl ?_
  exact ok_nil
 obtain ⟨hS,hG⟩:=SymF.fg hS hF
 clear hF
 refine wp_block (wp_seq ?_)
 refine wq hS hG hK (fun p3=>[.v 12 (.bool false),.v 11 (.bool false)]) (fun p3=>[(0,.pointer (some ⟨p,0,none⟩)),(4,pT (p1 0).N 0),(5,pT (p1 1).N 0),(6,pT (p1 2).N 0),(10,.int .u8 2),(11,.bool false)]) (fun p3=>?_) (fun p3 W3 T hF hK=>?_)
 ·iterate 2 refine okv ?_
  exact ok_nil
 obtain ⟨hS,hG⟩:=SymF.fg hS hF
 clear hF
 refine wp_cond_false (hK.ew 11) ?_
 refine wg hS hG hK (fun p4=>[.v 13 (.bool false),.v 11 (.bool false)]) (fun p4=>[(0,.pointer (some ⟨p,0,none⟩)),(4,pT (p1 0).N 0),(5,pT (p1 1).N 0),(6,pT (p1 2).N 0),(10,.int .u8 2),(11,.bool false)]) (fun p4=>?_) (fun p4 W4 T hF hK=>?_)
 ·iterate 2 refine okv ?_
  exact ok_nil
 obtain ⟨hS,hG⟩:=SymF.fg hS hF
 clear hF
 refine then_n (wp_cond_false (hK.ew 11) ?_)
 refine wq hS hG hK (fun p5=>[.v 21 (.bool false),.v 20 (.bool false)]) (fun p5=>[(0,.pointer (some ⟨p,0,none⟩)),(4,pT (p1 0).N 0),(5,pT (p1 1).N 0),(6,pT (p1 2).N 0),(10,.int .u8 2),(20,.bool false)]) (fun p5=>?_) (fun p5 W5 T hF hK=>?_)
 ·iterate 2 refine okv ?_
  exact ok_nil
 obtain ⟨hS,hG⟩:=SymF.fg hS hF
 clear hF
 refine wp_cond_false (hK.ew 20) ?_
 refine wq hS hG hK (fun p6=>[.v 24 (.bool false),.v 23 (.bool false)]) (fun p6=>[(0,.pointer (some ⟨p,0,none⟩)),(4,pT (p1 0).N 0),(5,pT (p1 1).N 0),(6,pT (p1 2).N 0),(23,.bool false)]) (fun p6=>?_) (fun p6 W6 T hF hK=>?_)
 ·iterate 2 refine okv ?_
  exact ok_nil
 obtain ⟨hS,hG⟩:=SymF.fg hS hF
 clear hF
 refine wp_cond_false (hK.ew 23) (wp_skip ?_)
 refine inb_n (then_n (wp_seq ?_))
 refine wq hS hG hK (fun p7=>[.v 26 (pT (p1 0).N 0),.l 27 (.bool false) 1 0]) (fun p7=>[(0,.pointer (some ⟨p,0,none⟩)),(4,pT (p1 0).N 0),(5,pT (p1 1).N 0),(6,pT (p1 2).N 0),(27,.bool false)]) (fun p7=>?_) (fun p7 W7 T hF hK=>?_)
 ·refine okv ?_
  refine okl ?_
  exact ok_nil
 obtain ⟨hS,hG⟩:=SymF.fg hS hF
 clear hF
 refine wp_cond_false (hK.ew 27) (wp_skip (then_n ?_))
 refine wq hS hG hK (fun p8=>[.l 29 (.agg #[.bool s',.slice a' n' c',.int .i64 x']) 2 0,.p 3 0 [.bool s',.slice a' n' c',.int .i64 x']]) (fun p8=>[(0,.pointer (some ⟨p,0,none⟩)),(4,pT (p1 0).N 0),(5,pT (p1 1).N 0),(6,pT (p1 2).N 0)]) (fun p8=>?_) (fun p8 W8 T hF hK=>?_)
 ·refine okl ?_
  refine okp ?_
  exact ok_nil
 replace hS:=SymF.fc hS hF [0,1,2,3] [⟨p,#[.int .i64 E,.int .i64 F,.int .u64 b,.int .u8 2,.int .i64 er],67,false⟩,⟨(p1 0).N,#[.bool false,.slice a n c,.int .i64 x],58,true⟩,⟨(p1 1).N,#[.bool s',.slice a' n' c',.int .i64 x'],58,true⟩,⟨(p1 2).N,#[.bool s',.slice a' n' c',.int .i64 x'],58,true⟩]
 replace hG:=hF.gx
 clear hF
 refine wp_ret ?_
 exact sym_end hS hK (.agg #[.bool s',.slice a' n' c',.int .i64 x']) [(3,0,3)] [.bool s',.slice a' n' c',.int .i64 x'] (by kernel_rfl) (by kernel_rfl) ⟨rfl,hS.fr⟩
theorem rbor_l2t (w:World) (E F b er:Int) (p:Nat) (a:Option Addr) (n c:Nat) (x:Int) (s':Bool) (a':Option Addr) (n' c':Nat) (x':Int) (hp:w.heap[p]? = some (.cells #[.int .i64 E,.int .i64 F,.int .u64 b,.int .u8 2,.int .i64 er] 67 (0,0))) :
  Calls Tryz.prog 57 #[.pointer (some ⟨p,0,none⟩),.agg #[.bool true,.slice a n c,.int .i64 x],.agg #[.bool s',.slice a' n' c',.int .i64 x']] w fun en w'=>en = .returned (.agg #[.bool true,.slice a n c,.int .i64 x])∧Below w.heap.size w w':=by
 refine calls_sym Tryz.func57 rfl (by kernel_rfl) fun T hK=>?_
 replace hK:Kn T _ [(0,.pointer (some ⟨p,0,none⟩)),(1,.agg #[.bool true,.slice a n c,.int .i64 x]),(2,.agg #[.bool s',.slice a' n' c',.int .i64 x'])]:=hK
 have hS:=Fb.other hp
 have hG:GsAt [] w:=trivial
 refine wq hS hG hK (fun p1=>[.n 4 #[.bool true,.slice a n c,.int .i64 x] 58,.n 5 #[.bool s',.slice a' n' c',.int .i64 x'] 58,.n 6 #[.bool false,.slice none 0 0,.int .i64 0] 58]) (fun p1=>[(0,.pointer (some ⟨p,0,none⟩)),(4,pT (p1 0).N 0),(5,pT (p1 1).N 0),(6,pT (p1 2).N 0)]) (fun p1=>?_) (fun p1 W1 T hF hK=>?_)
 ·iterate 3 refine okn ?_
  exact ok_nil
 replace hS:=SymF.fc hS hF [0,1000,1001,1002] [⟨p,#[.int .i64 E,.int .i64 F,.int .u64 b,.int .u8 2,.int .i64 er],67,false⟩,⟨(p1 0).N,#[.bool true,.slice a n c,.int .i64 x],58,true⟩,⟨(p1 1).N,#[.bool s',.slice a' n' c',.int .i64 x'],58,true⟩,⟨(p1 2).N,#[.bool false,.slice none 0 0,.int .i64 0],58,true⟩]
 replace hG:=hF.gx
 clear hF
 refine wp_seq ?_
 refine wq hS hG hK (fun p2=>[.v 7 (.pointer (some ⟨p,0,none⟩)),.v 8 (.pointer (some ⟨p,0,none⟩)),.v 9 (.pointer (some ⟨p,3,none⟩)),.l 10 (.int .u8 2) 0 3]) (fun p2=>[(0,.pointer (some ⟨p,0,none⟩)),(4,pT (p1 0).N 0),(5,pT (p1 1).N 0),(6,pT (p1 2).N 0),(10,.int .u8 2)]) (fun p2=>?_) (fun p2 W2 T hF hK=>?_)
 ·iterate 3 refine okv ?_
  refine okl ?_
  exact ok_nil
 obtain ⟨hS,hG⟩:=SymF.fg hS hF
 clear hF
 refine wp_block (wp_seq ?_)
 refine wq hS hG hK (fun p3=>[.v 12 (.bool false),.v 11 (.bool false)]) (fun p3=>[(0,.pointer (some ⟨p,0,none⟩)),(4,pT (p1 0).N 0),(5,pT (p1 1).N 0),(6,pT (p1 2).N 0),(10,.int .u8 2),(11,.bool false)]) (fun p3=>?_) (fun p3 W3 T hF hK=>?_)
 ·iterate 2 refine okv ?_
  exact ok_nil
 obtain ⟨hS,hG⟩:=SymF.fg hS hF
 clear hF
 refine wp_cond_false (hK.ew 11) ?_
 refine wg hS hG hK (fun p4=>[.v 13 (.bool false),.v 11 (.bool false)]) (fun p4=>[(0,.pointer (some ⟨p,0,none⟩)),(4,pT (p1 0).N 0),(5,pT (p1 1).N 0),(6,pT (p1 2).N 0),(10,.int .u8 2),(11,.bool false)]) (fun p4=>?_) (fun p4 W4 T hF hK=>?_)
 ·iterate 2 refine okv ?_
  exact ok_nil
 obtain ⟨hS,hG⟩:=SymF.fg hS hF
 clear hF
 refine then_n (wp_cond_false (hK.ew 11) ?_)
 refine wq hS hG hK (fun p5=>[.v 21 (.bool false),.v 20 (.bool false)]) (fun p5=>[(0,.pointer (some ⟨p,0,none⟩)),(4,pT (p1 0).N 0),(5,pT (p1 1).N 0),(6,pT (p1 2).N 0),(10,.int .u8 2),(20,.bool false)]) (fun p5=>?_) (fun p5 W5 T hF hK=>?_)
 ·iterate 2 refine okv ?_
  exact ok_nil
 obtain ⟨hS,hG⟩:=SymF.fg hS hF
 clear hF
 refine wp_cond_false (hK.ew 20) ?_
 refine wq hS hG hK (fun p6=>[.v 24 (.bool false),.v 23 (.bool false)]) (fun p6=>[(0,.pointer (some ⟨p,0,none⟩)),(4,pT (p1 0).N 0),(5,pT (p1 1).N 0),(6,pT (p1 2).N 0),(23,.bool false)]) (fun p6=>?_) (fun p6 W6 T hF hK=>?_)
 ·iterate 2 refine okv ?_
  exact ok_nil
 obtain ⟨hS,hG⟩:=SymF.fg hS hF
 clear hF
 refine wp_cond_false (hK.ew 23) (wp_skip ?_)
 refine inb_n (then_n (wp_seq ?_))
 refine wq hS hG hK (fun p7=>[.v 26 (pT (p1 0).N 0),.l 27 (.bool true) 1 0]) (fun p7=>[(0,.pointer (some ⟨p,0,none⟩)),(4,pT (p1 0).N 0),(5,pT (p1 1).N 0),(6,pT (p1 2).N 0),(27,.bool true)]) (fun p7=>?_) (fun p7 W7 T hF hK=>?_)
 ·refine okv ?_
  refine okl ?_
  exact ok_nil
 obtain ⟨hS,hG⟩:=SymF.fg hS hF
 clear hF
 refine wp_cond_true (hK.ew 27) ?_
 refine wq hS hG hK (fun p8=>[.l 28 (.agg #[.bool true,.slice a n c,.int .i64 x]) 1 0,.p 3 0 [.bool true,.slice a n c,.int .i64 x]]) (fun p8=>[(0,.pointer (some ⟨p,0,none⟩)),(4,pT (p1 0).N 0),(5,pT (p1 1).N 0),(6,pT (p1 2).N 0)]) (fun p8=>?_) (fun p8 W8 T hF hK=>?_)
 ·refine okl ?_
  refine okp ?_
  exact ok_nil
 replace hS:=SymF.fc hS hF [0,1,2,3] [⟨p,#[.int .i64 E,.int .i64 F,.int .u64 b,.int .u8 2,.int .i64 er],67,false⟩,⟨(p1 0).N,#[.bool true,.slice a n c,.int .i64 x],58,true⟩,⟨(p1 1).N,#[.bool s',.slice a' n' c',.int .i64 x'],58,true⟩,⟨(p1 2).N,#[.bool true,.slice a n c,.int .i64 x],58,true⟩]
 replace hG:=hF.gx
 clear hF
 refine wp_ret ?_
 refine then_r ?_
 exact sym_end hS hK (.agg #[.bool true,.slice a n c,.int .i64 x]) [(3,0,3)] [.bool true,.slice a n c,.int .i64 x] (by kernel_rfl) (by kernel_rfl) ⟨rfl,hS.fr⟩
theorem rend_0 (w:World) (E F b md S:Int) (p:Nat) (s:Bool) (m:Nat) (x:Int) (up:Int) (su:Bool) (mu:Nat) (xu:Int) (sh:Bool) (mh:Nat) (xh:Int) (hT:Tb w) (hp:w.heap[p]? = some (.cells #[.int .i64 E,.int .i64 F,.int .u64 b,.int .u8 md,.int .i64 0] 67 (0,0))) (HV:Hid (∀ W:World,Tb W→Calls Tryz.prog 51 #[.agg #[.int .i64 E,.int .i64 F],.int .u64 b] W fun e W'=>(∃ A N C,e = .returned (.tuple #[.agg #[.bool s,.slice A N C,.int .i64 x],.int .i64 0])∧Mine W' 0 A N C m)∧Below W.heap.size W W')) (HB:Hid (∀ W:World,Calls Tryz.prog 60 #[.agg #[.int .i64 E,.int .i64 F]] W fun e W'=>e = .returned (.int .u64 S)∧Below W.heap.size W W')) (h0:b = 0) (hb:b≠S) (HUp:Hid (∀ W:World,Calls Tryz.prog 14 #[.agg #[.int .i64 E,.int .i64 F],.int .u64 b] W fun e W'=>e = .returned (.tuple #[.int .u64 up,.int .i64 0])∧Below W.heap.size W W')) (HWu:Hid (∀ W:World,Tb W→W.heap[p]? = some (.cells #[.int .i64 E,.int .i64 F,.int .u64 b,.int .u8 md,.int .i64 0] 67 (0,0))→Calls Tryz.prog 58 #[.pointer (some ⟨p,0,none⟩),.int .u64 up,.int .i64 0] W fun e W'=>(∃ A N C,e = .returned (.agg #[.bool su,.slice A N C,.int .i64 xu])∧Mine W' 0 A N C mu)∧Below W.heap.size W W')) (HH:Hid (∀ (W:World) (A:Option Addr) (N C:Nat) (A':Option Addr) (N' C':Nat),Tb W→W.heap[p]? = some (.cells #[.int .i64 E,.int .i64 F,.int .u64 b,.int .u8 md,.int .i64 0] 67 (0,0))→Mine W 0 A N C m→Mine W 0 A' N' C' mu→Calls Tryz.prog 57 #[.pointer (some ⟨p,0,none⟩),.agg #[.bool s,.slice A N C,.int .i64 x],.agg #[.bool su,.slice A' N' C',.int .i64 xu]] W fun e W'=>(∃ A N C,e = .returned (.agg #[.bool sh,.slice A N C,.int .i64 xh])∧Mine W' 0 A N C mh)∧Below W.heap.size W W')) :
  Calls Tryz.prog 22 #[.pointer (some ⟨p,0,none⟩)] w fun en w'=>(∃ A N C A' N' C',en = .returned (.tuple #[.agg #[.bool s,.slice A N C,.int .i64 x],.agg #[.bool sh,.slice A' N' C',.int .i64 xh]])∧Mine w' 0 A N C m∧Mine w' 0 A' N' C' mh)∧Below w.heap.size w w':=by
 refine calls_sym Tryz.func22 rfl (by kernel_rfl) fun T hK=>?_
 replace hK:Kn T _ [(0,.pointer (some ⟨p,0,none⟩))]:=hK
 have hS:=Fb.other hp
 have hG:GsAt [] w:=trivial
 refine wq hS hG hK (fun p1=>[.n 2 #[.bool false,.slice none 0 0,.int .i64 0] 58,.n 3 #[.bool false,.slice none 0 0,.int .i64 0] 58]) (fun p1=>[(0,.pointer (some ⟨p,0,none⟩)),(2,pT (p1 0).N 0),(3,pT (p1 1).N 0)]) (fun p1=>?_) (fun p1 W1 T hF hK=>?_)
 ·iterate 2 refine okn ?_
  exact ok_nil
 replace hS:=SymF.fc hS hF [0,1000,1001] [⟨p,#[.int .i64 E,.int .i64 F,.int .u64 b,.int .u8 md,.int .i64 0],67,false⟩,⟨(p1 0).N,#[.bool false,.slice none 0 0,.int .i64 0],58,true⟩,⟨(p1 1).N,#[.bool false,.slice none 0 0,.int .i64 0],58,true⟩]
 replace hG:=hF.gx
 clear hF
 refine wq hS hG hK (fun p2=>[.v 5 (.pointer (some ⟨p,0,none⟩)),.v 6 (.pointer (some ⟨p,0,none⟩)),.v 7 (.pointer (some ⟨p,4,none⟩)),.v 8 (.pointer (some ⟨p,0,none⟩)),.v 9 (.pointer (some ⟨p,0,none⟩)),.v 10 (.pointer (some ⟨p,0,none⟩)),.l 11 (.agg #[.int .i64 E,.int .i64 F]) 0 0,.v 12 (.pointer (some ⟨p,0,none⟩)),.v 13 (.pointer (some ⟨p,0,none⟩)),.v 14 (.pointer (some ⟨p,2,none⟩)),.l 15 (.int .u64 b) 0 2,.c (some 16) (cM0 m fun x9=>.tuple #[.agg #[.bool s,x9,.int .i64 x],.int .i64 0]),.v 17 (.agg #[.bool s,.slice (p2 11).A (p2 11).N (p2 11).C,.int .i64 x]),.v 18 (.int .i64 0),.u 19 (.agg #[.bool s,.slice (p2 11).A (p2 11).N (p2 11).C,.int .i64 x]) (aG 1),.n 4 #[.bool false,.slice none 0 0,.int .i64 0] 58,.p 1015 0 [.bool s,.slice (p2 11).A (p2 11).N (p2 11).C,.int .i64 x]]) (fun p2=>[(0,.pointer (some ⟨p,0,none⟩)),(2,pT (p1 0).N 0),(3,pT (p1 1).N 0),(4,pT (p2 15).N 0)]) (fun p2=>?_) (fun p2 W2 T hF hK=>?_)
 ·iterate 6 refine okv ?_
  refine okl ?_
  iterate 3 refine okv ?_
  refine okl ?_
  refine okc (fun W cx=>as_0 (unhide HV _ (hT.kept cx.fr))) ?_
  iterate 2 refine okv ?_
  refine oku (fun W cx=>runDyadic_g p 4 0 0 (fun _=>rfl) _ _ _ _ _ _ ⟨_,_,cx.B 0 _ rfl (by kernel_rfl) (by kernel_rfl),rfl⟩) ?_
  refine okn ?_
  refine okp ?_
  exact ok_nil
 replace hS:=SymF.fc hS hF [0,1,2,1015] [⟨p,#[.int .i64 E,.int .i64 F,.int .u64 b,.int .u8 md,.int .i64 0],67,false⟩,⟨(p1 0).N,#[.bool false,.slice none 0 0,.int .i64 0],58,true⟩,⟨(p1 1).N,#[.bool false,.slice none 0 0,.int .i64 0],58,true⟩,⟨(p2 15).N,#[.bool s,.slice (p2 11).A (p2 11).N (p2 11).C,.int .i64 x],58,true⟩]
 replace hG:GsAt (gM 0 (p2 11).A (p2 11).N (p2 11).C m :: _) W2:=⟨hF.fx 11,hF.gx⟩
 clear hF
 refine wq hS hG hK (fun p3=>[.l 20 (.agg #[.bool s,.slice (p2 11).A (p2 11).N (p2 11).C,.int .i64 x]) 3 0,.l 21 (.agg #[.bool s,.slice (p2 11).A (p2 11).N (p2 11).C,.int .i64 x]) 3 0,.p 1 0 [.bool s,.slice (p2 11).A (p2 11).N (p2 11).C,.int .i64 x],.p 2 0 [.bool s,.slice (p2 11).A (p2 11).N (p2 11).C,.int .i64 x]]) (fun p3=>[(0,.pointer (some ⟨p,0,none⟩)),(2,pT (p1 0).N 0),(3,pT (p1 1).N 0),(4,pT (p2 15).N 0)]) (fun p3=>?_) (fun p3 W3 T hF hK=>?_)
 ·iterate 2 refine okl ?_
  iterate 2 refine okp ?_
  exact ok_nil
 replace hS:=SymF.fc hS hF [0,1,2,3] [⟨p,#[.int .i64 E,.int .i64 F,.int .u64 b,.int .u8 md,.int .i64 0],67,false⟩,⟨(p1 0).N,#[.bool s,.slice (p2 11).A (p2 11).N (p2 11).C,.int .i64 x],58,true⟩,⟨(p1 1).N,#[.bool s,.slice (p2 11).A (p2 11).N (p2 11).C,.int .i64 x],58,true⟩,⟨(p2 15).N,#[.bool s,.slice (p2 11).A (p2 11).N (p2 11).C,.int .i64 x],58,true⟩]
 replace hG:=hF.gx
 clear hF
 refine wp_seq ?_
 refine wq hS hG hK (fun p4=>[.v 22 (.pointer (some ⟨p,0,none⟩)),.v 23 (.pointer (some ⟨p,0,none⟩)),.v 24 (.pointer (some ⟨p,2,none⟩)),.l 25 (.int .u64 b) 0 2,.v 26 (.bool false)]) (fun p4=>[(0,.pointer (some ⟨p,0,none⟩)),(2,pT (p1 0).N 0),(3,pT (p1 1).N 0),(4,pT (p2 15).N 0),(26,.bool false)]) (fun p4=>?_) (fun p4 W4 T hF hK=>?_)
 ·iterate 3 refine okv ?_
  refine okl ?_
  refine okvb ((bne_eq_false_iff_eq.2 (show b = 0 by omega))) ?_
  exact ok_nil
 obtain ⟨hS,hG⟩:=SymF.fg hS hF
 clear hF
 refine wp_cond_false (hK.ew 26) (wp_skip ?_)
 refine then_n (wp_seq ?_)
 refine wq hS hG hK (fun p5=>[.v 43 (.pointer (some ⟨p,0,none⟩)),.v 44 (.pointer (some ⟨p,0,none⟩)),.v 45 (.pointer (some ⟨p,2,none⟩)),.l 46 (.int .u64 b) 0 2,.v 47 (.pointer (some ⟨p,0,none⟩)),.v 48 (.pointer (some ⟨p,0,none⟩)),.v 49 (.pointer (some ⟨p,0,none⟩)),.l 50 (.agg #[.int .i64 E,.int .i64 F]) 0 0,.c (some 51) (cV (.int .u64 S)),.v 52 (.bool true)]) (fun p5=>[(0,.pointer (some ⟨p,0,none⟩)),(2,pT (p1 0).N 0),(3,pT (p1 1).N 0),(4,pT (p2 15).N 0),(52,.bool true)]) (fun p5=>?_) (fun p5 W5 T hF hK=>?_)
 ·iterate 3 refine okv ?_
  refine okl ?_
  iterate 3 refine okv ?_
  refine okl ?_
  refine okc (fun W cx=>as_v (unhide HB _)) ?_
  refine okvb (bne_iff_ne.2 (show b≠S by omega)) ?_
  exact ok_nil
 obtain ⟨hS,hG⟩:=SymF.fg hS hF
 clear hF
 refine wp_cond_true (hK.ew 52) ?_
 refine wg hS hG hK (fun p6=>[.v 53 (.pointer (some ⟨p,0,none⟩)),.l 54 (.agg #[.bool s,.slice (p2 11).A (p2 11).N (p2 11).C,.int .i64 x]) 3 0,.v 55 (.pointer (some ⟨p,0,none⟩)),.v 56 (.pointer (some ⟨p,0,none⟩)),.v 57 (.pointer (some ⟨p,0,none⟩)),.v 58 (.pointer (some ⟨p,0,none⟩)),.l 59 (.agg #[.int .i64 E,.int .i64 F]) 0 0,.v 60 (.pointer (some ⟨p,0,none⟩)),.v 61 (.pointer (some ⟨p,0,none⟩)),.v 62 (.pointer (some ⟨p,2,none⟩)),.l 63 (.int .u64 b) 0 2,.c (some 64) (cV (.tuple #[.int .u64 up,.int .i64 0])),.v 65 (.int .u64 up),.v 66 (.int .i64 0),.c (some 67) (cM0 mu fun x9=>.agg #[.bool su,x9,.int .i64 xu]),.c (some 68) (cM0 mh fun x9=>.agg #[.bool sh,x9,.int .i64 xh]),.p 2 0 [.bool sh,.slice (p6 15).A (p6 15).N (p6 15).C,.int .i64 xh]]) (fun p6=>[(0,.pointer (some ⟨p,0,none⟩)),(2,pT (p1 0).N 0),(3,pT (p1 1).N 0),(4,pT (p2 15).N 0)]) (fun p6=>?_) (fun p6 W6 T hF hK=>?_)
 ·refine okv ?_
  refine okl ?_
  iterate 4 refine okv ?_
  refine okl ?_
  iterate 3 refine okv ?_
  refine okl ?_
  refine okc (fun W cx=>as_v (unhide HUp _)) ?_
  iterate 2 refine okv ?_
  refine okc (fun W cx=>as_0 (unhide HWu _ (hT.kept cx.fr) (cx.B 0 _ rfl (by kernel_rfl) (by kernel_rfl)))) ?_
  refine okc (fun W cx=>as_0 (unhide HH _ _ _ (p2 11).C _ _ (p6 14).C (hT.kept cx.fr) (cx.B 0 _ rfl (by kernel_rfl) (by kernel_rfl)) (Mine.mono (cx.G.1) (Nat.zero_le _)) (cx.F 14 (by kernel_rfl)))) ?_
  refine okp ?_
  exact ok_nil
 replace hS:=SymF.fc hS hF [0,1,2,3] [⟨p,#[.int .i64 E,.int .i64 F,.int .u64 b,.int .u8 md,.int .i64 0],67,false⟩,⟨(p1 0).N,#[.bool s,.slice (p2 11).A (p2 11).N (p2 11).C,.int .i64 x],58,true⟩,⟨(p1 1).N,#[.bool sh,.slice (p6 15).A (p6 15).N (p6 15).C,.int .i64 xh],58,true⟩,⟨(p2 15).N,#[.bool s,.slice (p2 11).A (p2 11).N (p2 11).C,.int .i64 x],58,true⟩]
 replace hG:GsAt (gM 0 (p6 14).A (p6 14).N (p6 14).C mu :: gM 0 (p6 15).A (p6 15).N (p6 15).C mh :: _) W6:=⟨hF.fx 14,hF.fx 15,hF.gx⟩
 clear hF
 refine then_n ?_
 refine wq hS hG hK (fun p7=>[.l 69 (.agg #[.bool s,.slice (p2 11).A (p2 11).N (p2 11).C,.int .i64 x]) 1 0,.l 70 (.agg #[.bool sh,.slice (p6 15).A (p6 15).N (p6 15).C,.int .i64 xh]) 2 0,.p 1 0 [.bool s,.slice (p2 11).A (p2 11).N (p2 11).C,.int .i64 x],.p 2 0 [.bool sh,.slice (p6 15).A (p6 15).N (p6 15).C,.int .i64 xh]]) (fun p7=>[(0,.pointer (some ⟨p,0,none⟩)),(2,pT (p1 0).N 0),(3,pT (p1 1).N 0),(4,pT (p2 15).N 0)]) (fun p7=>?_) (fun p7 W7 T hF hK=>?_)
 ·iterate 2 refine okl ?_
  iterate 2 refine okp ?_
  exact ok_nil
 obtain ⟨hS,hG⟩:=SymF.fg hS hF
 clear hF
 refine wp_ret ?_
 exact sym_end hS hK (.tuple #[.agg #[.bool s,.slice (p2 11).A (p2 11).N (p2 11).C,.int .i64 x],.agg #[.bool sh,.slice (p6 15).A (p6 15).N (p6 15).C,.int .i64 xh]]) [(1,0,3),(2,0,3)] [.bool s,.slice (p2 11).A (p2 11).N (p2 11).C,.int .i64 x,.bool sh,.slice (p6 15).A (p6 15).N (p6 15).C,.int .i64 xh] (by kernel_rfl) (by kernel_rfl) ⟨⟨_,_,_,_,_,_,rfl,Mine.mono (hG.2.2.1) (Nat.zero_le _),Mine.mono (hG.2.1) (Nat.zero_le _)⟩,hS.fr⟩
theorem rend_s (w:World) (E F b md S:Int) (p:Nat) (s:Bool) (m:Nat) (x:Int) (dn:Int) (sd:Bool) (md_:Nat) (xd:Int) (sl:Bool) (ml:Nat) (xl:Int) (hT:Tb w) (hp:w.heap[p]? = some (.cells #[.int .i64 E,.int .i64 F,.int .u64 b,.int .u8 md,.int .i64 0] 67 (0,0))) (HV:Hid (∀ W:World,Tb W→Calls Tryz.prog 51 #[.agg #[.int .i64 E,.int .i64 F],.int .u64 b] W fun e W'=>(∃ A N C,e = .returned (.tuple #[.agg #[.bool s,.slice A N C,.int .i64 x],.int .i64 0])∧Mine W' 0 A N C m)∧Below W.heap.size W W')) (HB:Hid (∀ W:World,Calls Tryz.prog 60 #[.agg #[.int .i64 E,.int .i64 F]] W fun e W'=>e = .returned (.int .u64 S)∧Below W.heap.size W W')) (h0:b≠0) (hb:b = S) (HDn:Hid (∀ W:World,Calls Tryz.prog 59 #[.agg #[.int .i64 E,.int .i64 F],.int .u64 b] W fun e W'=>e = .returned (.tuple #[.int .u64 dn,.int .i64 0])∧Below W.heap.size W W')) (HWd:Hid (∀ W:World,Tb W→W.heap[p]? = some (.cells #[.int .i64 E,.int .i64 F,.int .u64 b,.int .u8 md,.int .i64 0] 67 (0,0))→Calls Tryz.prog 58 #[.pointer (some ⟨p,0,none⟩),.int .u64 dn,.int .i64 0] W fun e W'=>(∃ A N C,e = .returned (.agg #[.bool sd,.slice A N C,.int .i64 xd])∧Mine W' 0 A N C md_)∧Below W.heap.size W W')) (HL:Hid (∀ (W:World) (A:Option Addr) (N C:Nat) (A':Option Addr) (N' C':Nat),Tb W→W.heap[p]? = some (.cells #[.int .i64 E,.int .i64 F,.int .u64 b,.int .u8 md,.int .i64 0] 67 (0,0))→Mine W 0 A N C md_→Mine W 0 A' N' C' m→Calls Tryz.prog 57 #[.pointer (some ⟨p,0,none⟩),.agg #[.bool sd,.slice A N C,.int .i64 xd],.agg #[.bool s,.slice A' N' C',.int .i64 x]] W fun e W'=>(∃ A N C,e = .returned (.agg #[.bool sl,.slice A N C,.int .i64 xl])∧Mine W' 0 A N C ml)∧Below W.heap.size W W')) :
  Calls Tryz.prog 22 #[.pointer (some ⟨p,0,none⟩)] w fun en w'=>(∃ A N C A' N' C',en = .returned (.tuple #[.agg #[.bool sl,.slice A N C,.int .i64 xl],.agg #[.bool s,.slice A' N' C',.int .i64 x]])∧Mine w' 0 A N C ml∧Mine w' 0 A' N' C' m)∧Below w.heap.size w w':=by
 refine calls_sym Tryz.func22 rfl (by kernel_rfl) fun T hK=>?_
 replace hK:Kn T _ [(0,.pointer (some ⟨p,0,none⟩))]:=hK
 have hS:=Fb.other hp
 have hG:GsAt [] w:=trivial
 refine wq hS hG hK (fun p1=>[.n 2 #[.bool false,.slice none 0 0,.int .i64 0] 58,.n 3 #[.bool false,.slice none 0 0,.int .i64 0] 58]) (fun p1=>[(0,.pointer (some ⟨p,0,none⟩)),(2,pT (p1 0).N 0),(3,pT (p1 1).N 0)]) (fun p1=>?_) (fun p1 W1 T hF hK=>?_)
 ·iterate 2 refine okn ?_
  exact ok_nil
 replace hS:=SymF.fc hS hF [0,1000,1001] [⟨p,#[.int .i64 E,.int .i64 F,.int .u64 b,.int .u8 md,.int .i64 0],67,false⟩,⟨(p1 0).N,#[.bool false,.slice none 0 0,.int .i64 0],58,true⟩,⟨(p1 1).N,#[.bool false,.slice none 0 0,.int .i64 0],58,true⟩]
 replace hG:=hF.gx
 clear hF
 refine wq hS hG hK (fun p2=>[.v 5 (.pointer (some ⟨p,0,none⟩)),.v 6 (.pointer (some ⟨p,0,none⟩)),.v 7 (.pointer (some ⟨p,4,none⟩)),.v 8 (.pointer (some ⟨p,0,none⟩)),.v 9 (.pointer (some ⟨p,0,none⟩)),.v 10 (.pointer (some ⟨p,0,none⟩)),.l 11 (.agg #[.int .i64 E,.int .i64 F]) 0 0,.v 12 (.pointer (some ⟨p,0,none⟩)),.v 13 (.pointer (some ⟨p,0,none⟩)),.v 14 (.pointer (some ⟨p,2,none⟩)),.l 15 (.int .u64 b) 0 2,.c (some 16) (cM0 m fun x9=>.tuple #[.agg #[.bool s,x9,.int .i64 x],.int .i64 0]),.v 17 (.agg #[.bool s,.slice (p2 11).A (p2 11).N (p2 11).C,.int .i64 x]),.v 18 (.int .i64 0),.u 19 (.agg #[.bool s,.slice (p2 11).A (p2 11).N (p2 11).C,.int .i64 x]) (aG 1),.n 4 #[.bool false,.slice none 0 0,.int .i64 0] 58,.p 1015 0 [.bool s,.slice (p2 11).A (p2 11).N (p2 11).C,.int .i64 x]]) (fun p2=>[(0,.pointer (some ⟨p,0,none⟩)),(2,pT (p1 0).N 0),(3,pT (p1 1).N 0),(4,pT (p2 15).N 0)]) (fun p2=>?_) (fun p2 W2 T hF hK=>?_)
 ·iterate 6 refine okv ?_
  refine okl ?_
  iterate 3 refine okv ?_
  refine okl ?_
  refine okc (fun W cx=>as_0 (unhide HV _ (hT.kept cx.fr))) ?_
  iterate 2 refine okv ?_
  refine oku (fun W cx=>runDyadic_g p 4 0 0 (fun _=>rfl) _ _ _ _ _ _ ⟨_,_,cx.B 0 _ rfl (by kernel_rfl) (by kernel_rfl),rfl⟩) ?_
  refine okn ?_
  refine okp ?_
  exact ok_nil
 replace hS:=SymF.fc hS hF [0,1,2,1015] [⟨p,#[.int .i64 E,.int .i64 F,.int .u64 b,.int .u8 md,.int .i64 0],67,false⟩,⟨(p1 0).N,#[.bool false,.slice none 0 0,.int .i64 0],58,true⟩,⟨(p1 1).N,#[.bool false,.slice none 0 0,.int .i64 0],58,true⟩,⟨(p2 15).N,#[.bool s,.slice (p2 11).A (p2 11).N (p2 11).C,.int .i64 x],58,true⟩]
 replace hG:GsAt (gM 0 (p2 11).A (p2 11).N (p2 11).C m :: _) W2:=⟨hF.fx 11,hF.gx⟩
 clear hF
 refine wq hS hG hK (fun p3=>[.l 20 (.agg #[.bool s,.slice (p2 11).A (p2 11).N (p2 11).C,.int .i64 x]) 3 0,.l 21 (.agg #[.bool s,.slice (p2 11).A (p2 11).N (p2 11).C,.int .i64 x]) 3 0,.p 1 0 [.bool s,.slice (p2 11).A (p2 11).N (p2 11).C,.int .i64 x],.p 2 0 [.bool s,.slice (p2 11).A (p2 11).N (p2 11).C,.int .i64 x]]) (fun p3=>[(0,.pointer (some ⟨p,0,none⟩)),(2,pT (p1 0).N 0),(3,pT (p1 1).N 0),(4,pT (p2 15).N 0)]) (fun p3=>?_) (fun p3 W3 T hF hK=>?_)
 ·iterate 2 refine okl ?_
  iterate 2 refine okp ?_
  exact ok_nil
 replace hS:=SymF.fc hS hF [0,1,2,3] [⟨p,#[.int .i64 E,.int .i64 F,.int .u64 b,.int .u8 md,.int .i64 0],67,false⟩,⟨(p1 0).N,#[.bool s,.slice (p2 11).A (p2 11).N (p2 11).C,.int .i64 x],58,true⟩,⟨(p1 1).N,#[.bool s,.slice (p2 11).A (p2 11).N (p2 11).C,.int .i64 x],58,true⟩,⟨(p2 15).N,#[.bool s,.slice (p2 11).A (p2 11).N (p2 11).C,.int .i64 x],58,true⟩]
 replace hG:=hF.gx
 clear hF
 refine wp_seq ?_
 refine wq hS hG hK (fun p4=>[.v 22 (.pointer (some ⟨p,0,none⟩)),.v 23 (.pointer (some ⟨p,0,none⟩)),.v 24 (.pointer (some ⟨p,2,none⟩)),.l 25 (.int .u64 b) 0 2,.v 26 (.bool true)]) (fun p4=>[(0,.pointer (some ⟨p,0,none⟩)),(2,pT (p1 0).N 0),(3,pT (p1 1).N 0),(4,pT (p2 15).N 0),(26,.bool true)]) (fun p4=>?_) (fun p4 W4 T hF hK=>?_)
 ·iterate 3 refine okv ?_
  refine okl ?_
  refine okvb (bne_iff_ne.2 (show b≠0 by omega)) ?_
  exact ok_nil
 obtain ⟨hS,hG⟩:=SymF.fg hS hF
 clear hF
 refine wp_cond_true (hK.ew 26) ?_
 refine wg hS hG hK (fun p5=>[.v 27 (.pointer (some ⟨p,0,none⟩)),.v 28 (.pointer (some ⟨p,0,none⟩)),.v 29 (.pointer (some ⟨p,0,none⟩)),.v 30 (.pointer (some ⟨p,0,none⟩)),.v 31 (.pointer (some ⟨p,0,none⟩)),.l 32 (.agg #[.int .i64 E,.int .i64 F]) 0 0,.v 33 (.pointer (some ⟨p,0,none⟩)),.v 34 (.pointer (some ⟨p,0,none⟩)),.v 35 (.pointer (some ⟨p,2,none⟩)),.l 36 (.int .u64 b) 0 2,.c (some 37) (cV (.tuple #[.int .u64 dn,.int .i64 0])),.v 38 (.int .u64 dn),.v 39 (.int .i64 0),.c (some 40) (cM0 md_ fun x9=>.agg #[.bool sd,x9,.int .i64 xd]),.l 41 (.agg #[.bool s,.slice (p2 11).A (p2 11).N (p2 11).C,.int .i64 x]) 3 0,.c (some 42) (cM0 ml fun x9=>.agg #[.bool sl,x9,.int .i64 xl]),.p 1 0 [.bool sl,.slice (p5 15).A (p5 15).N (p5 15).C,.int .i64 xl]]) (fun p5=>[(0,.pointer (some ⟨p,0,none⟩)),(2,pT (p1 0).N 0),(3,pT (p1 1).N 0),(4,pT (p2 15).N 0)]) (fun p5=>?_) (fun p5 W5 T hF hK=>?_)
 ·iterate 5 refine okv ?_
  refine okl ?_
  iterate 3 refine okv ?_
  refine okl ?_
  refine okc (fun W cx=>as_v (unhide HDn _)) ?_
  iterate 2 refine okv ?_
  refine okc (fun W cx=>as_0 (unhide HWd _ (hT.kept cx.fr) (cx.B 0 _ rfl (by kernel_rfl) (by kernel_rfl)))) ?_
  refine okl ?_
  refine okc (fun W cx=>as_0 (unhide HL _ _ _ (p5 13).C _ _ (p2 11).C (hT.kept cx.fr) (cx.B 0 _ rfl (by kernel_rfl) (by kernel_rfl)) (cx.F 13 (by kernel_rfl)) (Mine.mono (cx.G.1) (Nat.zero_le _)))) ?_
  refine okp ?_
  exact ok_nil
 replace hS:=SymF.fc hS hF [0,1,2,3] [⟨p,#[.int .i64 E,.int .i64 F,.int .u64 b,.int .u8 md,.int .i64 0],67,false⟩,⟨(p1 0).N,#[.bool sl,.slice (p5 15).A (p5 15).N (p5 15).C,.int .i64 xl],58,true⟩,⟨(p1 1).N,#[.bool s,.slice (p2 11).A (p2 11).N (p2 11).C,.int .i64 x],58,true⟩,⟨(p2 15).N,#[.bool s,.slice (p2 11).A (p2 11).N (p2 11).C,.int .i64 x],58,true⟩]
 replace hG:GsAt (gM 0 (p5 13).A (p5 13).N (p5 13).C md_ :: gM 0 (p5 15).A (p5 15).N (p5 15).C ml :: _) W5:=⟨hF.fx 13,hF.fx 15,hF.gx⟩
 clear hF
 refine then_n (wp_seq ?_)
 refine wq hS hG hK (fun p6=>[.v 43 (.pointer (some ⟨p,0,none⟩)),.v 44 (.pointer (some ⟨p,0,none⟩)),.v 45 (.pointer (some ⟨p,2,none⟩)),.l 46 (.int .u64 b) 0 2,.v 47 (.pointer (some ⟨p,0,none⟩)),.v 48 (.pointer (some ⟨p,0,none⟩)),.v 49 (.pointer (some ⟨p,0,none⟩)),.l 50 (.agg #[.int .i64 E,.int .i64 F]) 0 0,.c (some 51) (cV (.int .u64 S)),.v 52 (.bool false)]) (fun p6=>[(0,.pointer (some ⟨p,0,none⟩)),(2,pT (p1 0).N 0),(3,pT (p1 1).N 0),(4,pT (p2 15).N 0),(52,.bool false)]) (fun p6=>?_) (fun p6 W6 T hF hK=>?_)
 ·iterate 3 refine okv ?_
  refine okl ?_
  iterate 3 refine okv ?_
  refine okl ?_
  refine okc (fun W cx=>as_v (unhide HB _)) ?_
  refine okvb ((bne_eq_false_iff_eq.2 (show b = S by omega))) ?_
  exact ok_nil
 obtain ⟨hS,hG⟩:=SymF.fg hS hF
 clear hF
 refine wp_cond_false (hK.ew 52) (wp_skip (then_n ?_))
 refine wq hS hG hK (fun p7=>[.l 69 (.agg #[.bool sl,.slice (p5 15).A (p5 15).N (p5 15).C,.int .i64 xl]) 1 0,.l 70 (.agg #[.bool s,.slice (p2 11).A (p2 11).N (p2 11).C,.int .i64 x]) 2 0,.p 1 0 [.bool sl,.slice (p5 15).A (p5 15).N (p5 15).C,.int .i64 xl],.p 2 0 [.bool s,.slice (p2 11).A (p2 11).N (p2 11).C,.int .i64 x]]) (fun p7=>[(0,.pointer (some ⟨p,0,none⟩)),(2,pT (p1 0).N 0),(3,pT (p1 1).N 0),(4,pT (p2 15).N 0)]) (fun p7=>?_) (fun p7 W7 T hF hK=>?_)
 ·iterate 2 refine okl ?_
  iterate 2 refine okp ?_
  exact ok_nil
 obtain ⟨hS,hG⟩:=SymF.fg hS hF
 clear hF
 refine wp_ret ?_
 exact sym_end hS hK (.tuple #[.agg #[.bool sl,.slice (p5 15).A (p5 15).N (p5 15).C,.int .i64 xl],.agg #[.bool s,.slice (p2 11).A (p2 11).N (p2 11).C,.int .i64 x]]) [(1,0,3),(2,0,3)] [.bool sl,.slice (p5 15).A (p5 15).N (p5 15).C,.int .i64 xl,.bool s,.slice (p2 11).A (p2 11).N (p2 11).C,.int .i64 x] (by kernel_rfl) (by kernel_rfl) ⟨⟨_,_,_,_,_,_,rfl,Mine.mono (hG.2.1) (Nat.zero_le _),Mine.mono (hG.2.2.1) (Nat.zero_le _)⟩,hS.fr⟩
theorem rend_n (w:World) (E F b md S:Int) (p:Nat) (s:Bool) (m:Nat) (x:Int) (dn:Int) (sd:Bool) (md_:Nat) (xd:Int) (sl:Bool) (ml:Nat) (xl:Int) (up:Int) (su:Bool) (mu:Nat) (xu:Int) (sh:Bool) (mh:Nat) (xh:Int) (hT:Tb w) (hp:w.heap[p]? = some (.cells #[.int .i64 E,.int .i64 F,.int .u64 b,.int .u8 md,.int .i64 0] 67 (0,0))) (HV:Hid (∀ W:World,Tb W→Calls Tryz.prog 51 #[.agg #[.int .i64 E,.int .i64 F],.int .u64 b] W fun e W'=>(∃ A N C,e = .returned (.tuple #[.agg #[.bool s,.slice A N C,.int .i64 x],.int .i64 0])∧Mine W' 0 A N C m)∧Below W.heap.size W W')) (HB:Hid (∀ W:World,Calls Tryz.prog 60 #[.agg #[.int .i64 E,.int .i64 F]] W fun e W'=>e = .returned (.int .u64 S)∧Below W.heap.size W W')) (h0:b≠0) (hb:b≠S) (HDn:Hid (∀ W:World,Calls Tryz.prog 59 #[.agg #[.int .i64 E,.int .i64 F],.int .u64 b] W fun e W'=>e = .returned (.tuple #[.int .u64 dn,.int .i64 0])∧Below W.heap.size W W')) (HWd:Hid (∀ W:World,Tb W→W.heap[p]? = some (.cells #[.int .i64 E,.int .i64 F,.int .u64 b,.int .u8 md,.int .i64 0] 67 (0,0))→Calls Tryz.prog 58 #[.pointer (some ⟨p,0,none⟩),.int .u64 dn,.int .i64 0] W fun e W'=>(∃ A N C,e = .returned (.agg #[.bool sd,.slice A N C,.int .i64 xd])∧Mine W' 0 A N C md_)∧Below W.heap.size W W')) (HL:Hid (∀ (W:World) (A:Option Addr) (N C:Nat) (A':Option Addr) (N' C':Nat),Tb W→W.heap[p]? = some (.cells #[.int .i64 E,.int .i64 F,.int .u64 b,.int .u8 md,.int .i64 0] 67 (0,0))→Mine W 0 A N C md_→Mine W 0 A' N' C' m→Calls Tryz.prog 57 #[.pointer (some ⟨p,0,none⟩),.agg #[.bool sd,.slice A N C,.int .i64 xd],.agg #[.bool s,.slice A' N' C',.int .i64 x]] W fun e W'=>(∃ A N C,e = .returned (.agg #[.bool sl,.slice A N C,.int .i64 xl])∧Mine W' 0 A N C ml)∧Below W.heap.size W W')) (HUp:Hid (∀ W:World,Calls Tryz.prog 14 #[.agg #[.int .i64 E,.int .i64 F],.int .u64 b] W fun e W'=>e = .returned (.tuple #[.int .u64 up,.int .i64 0])∧Below W.heap.size W W')) (HWu:Hid (∀ W:World,Tb W→W.heap[p]? = some (.cells #[.int .i64 E,.int .i64 F,.int .u64 b,.int .u8 md,.int .i64 0] 67 (0,0))→Calls Tryz.prog 58 #[.pointer (some ⟨p,0,none⟩),.int .u64 up,.int .i64 0] W fun e W'=>(∃ A N C,e = .returned (.agg #[.bool su,.slice A N C,.int .i64 xu])∧Mine W' 0 A N C mu)∧Below W.heap.size W W')) (HH:Hid (∀ (W:World) (A:Option Addr) (N C:Nat) (A':Option Addr) (N' C':Nat),Tb W→W.heap[p]? = some (.cells #[.int .i64 E,.int .i64 F,.int .u64 b,.int .u8 md,.int .i64 0] 67 (0,0))→Mine W 0 A N C m→Mine W 0 A' N' C' mu→Calls Tryz.prog 57 #[.pointer (some ⟨p,0,none⟩),.agg #[.bool s,.slice A N C,.int .i64 x],.agg #[.bool su,.slice A' N' C',.int .i64 xu]] W fun e W'=>(∃ A N C,e = .returned (.agg #[.bool sh,.slice A N C,.int .i64 xh])∧Mine W' 0 A N C mh)∧Below W.heap.size W W')) :
  Calls Tryz.prog 22 #[.pointer (some ⟨p,0,none⟩)] w fun en w'=>(∃ A N C A' N' C',en = .returned (.tuple #[.agg #[.bool sl,.slice A N C,.int .i64 xl],.agg #[.bool sh,.slice A' N' C',.int .i64 xh]])∧Mine w' 0 A N C ml∧Mine w' 0 A' N' C' mh)∧Below w.heap.size w w':=by
 refine calls_sym Tryz.func22 rfl (by kernel_rfl) fun T hK=>?_
 replace hK:Kn T _ [(0,.pointer (some ⟨p,0,none⟩))]:=hK
 have hS:=Fb.other hp
 have hG:GsAt [] w:=trivial
 refine wq hS hG hK (fun p1=>[.n 2 #[.bool false,.slice none 0 0,.int .i64 0] 58,.n 3 #[.bool false,.slice none 0 0,.int .i64 0] 58]) (fun p1=>[(0,.pointer (some ⟨p,0,none⟩)),(2,pT (p1 0).N 0),(3,pT (p1 1).N 0)]) (fun p1=>?_) (fun p1 W1 T hF hK=>?_)
 ·iterate 2 refine okn ?_
  exact ok_nil
 replace hS:=SymF.fc hS hF [0,1000,1001] [⟨p,#[.int .i64 E,.int .i64 F,.int .u64 b,.int .u8 md,.int .i64 0],67,false⟩,⟨(p1 0).N,#[.bool false,.slice none 0 0,.int .i64 0],58,true⟩,⟨(p1 1).N,#[.bool false,.slice none 0 0,.int .i64 0],58,true⟩]
 replace hG:=hF.gx
 clear hF
 refine wq hS hG hK (fun p2=>[.v 5 (.pointer (some ⟨p,0,none⟩)),.v 6 (.pointer (some ⟨p,0,none⟩)),.v 7 (.pointer (some ⟨p,4,none⟩)),.v 8 (.pointer (some ⟨p,0,none⟩)),.v 9 (.pointer (some ⟨p,0,none⟩)),.v 10 (.pointer (some ⟨p,0,none⟩)),.l 11 (.agg #[.int .i64 E,.int .i64 F]) 0 0,.v 12 (.pointer (some ⟨p,0,none⟩)),.v 13 (.pointer (some ⟨p,0,none⟩)),.v 14 (.pointer (some ⟨p,2,none⟩)),.l 15 (.int .u64 b) 0 2,.c (some 16) (cM0 m fun x9=>.tuple #[.agg #[.bool s,x9,.int .i64 x],.int .i64 0]),.v 17 (.agg #[.bool s,.slice (p2 11).A (p2 11).N (p2 11).C,.int .i64 x]),.v 18 (.int .i64 0),.u 19 (.agg #[.bool s,.slice (p2 11).A (p2 11).N (p2 11).C,.int .i64 x]) (aG 1),.n 4 #[.bool false,.slice none 0 0,.int .i64 0] 58,.p 1015 0 [.bool s,.slice (p2 11).A (p2 11).N (p2 11).C,.int .i64 x]]) (fun p2=>[(0,.pointer (some ⟨p,0,none⟩)),(2,pT (p1 0).N 0),(3,pT (p1 1).N 0),(4,pT (p2 15).N 0)]) (fun p2=>?_) (fun p2 W2 T hF hK=>?_)
 ·iterate 6 refine okv ?_
  refine okl ?_
  iterate 3 refine okv ?_
  refine okl ?_
  refine okc (fun W cx=>as_0 (unhide HV _ (hT.kept cx.fr))) ?_
  iterate 2 refine okv ?_
  refine oku (fun W cx=>runDyadic_g p 4 0 0 (fun _=>rfl) _ _ _ _ _ _ ⟨_,_,cx.B 0 _ rfl (by kernel_rfl) (by kernel_rfl),rfl⟩) ?_
  refine okn ?_
  refine okp ?_
  exact ok_nil
 replace hS:=SymF.fc hS hF [0,1,2,1015] [⟨p,#[.int .i64 E,.int .i64 F,.int .u64 b,.int .u8 md,.int .i64 0],67,false⟩,⟨(p1 0).N,#[.bool false,.slice none 0 0,.int .i64 0],58,true⟩,⟨(p1 1).N,#[.bool false,.slice none 0 0,.int .i64 0],58,true⟩,⟨(p2 15).N,#[.bool s,.slice (p2 11).A (p2 11).N (p2 11).C,.int .i64 x],58,true⟩]
 replace hG:GsAt (gM 0 (p2 11).A (p2 11).N (p2 11).C m :: _) W2:=⟨hF.fx 11,hF.gx⟩
 clear hF
 refine wq hS hG hK (fun p3=>[.l 20 (.agg #[.bool s,.slice (p2 11).A (p2 11).N (p2 11).C,.int .i64 x]) 3 0,.l 21 (.agg #[.bool s,.slice (p2 11).A (p2 11).N (p2 11).C,.int .i64 x]) 3 0,.p 1 0 [.bool s,.slice (p2 11).A (p2 11).N (p2 11).C,.int .i64 x],.p 2 0 [.bool s,.slice (p2 11).A (p2 11).N (p2 11).C,.int .i64 x]]) (fun p3=>[(0,.pointer (some ⟨p,0,none⟩)),(2,pT (p1 0).N 0),(3,pT (p1 1).N 0),(4,pT (p2 15).N 0)]) (fun p3=>?_) (fun p3 W3 T hF hK=>?_)
 ·iterate 2 refine okl ?_
  iterate 2 refine okp ?_
  exact ok_nil
 replace hS:=SymF.fc hS hF [0,1,2,3] [⟨p,#[.int .i64 E,.int .i64 F,.int .u64 b,.int .u8 md,.int .i64 0],67,false⟩,⟨(p1 0).N,#[.bool s,.slice (p2 11).A (p2 11).N (p2 11).C,.int .i64 x],58,true⟩,⟨(p1 1).N,#[.bool s,.slice (p2 11).A (p2 11).N (p2 11).C,.int .i64 x],58,true⟩,⟨(p2 15).N,#[.bool s,.slice (p2 11).A (p2 11).N (p2 11).C,.int .i64 x],58,true⟩]
 replace hG:=hF.gx
 clear hF
 refine wp_seq ?_
 refine wq hS hG hK (fun p4=>[.v 22 (.pointer (some ⟨p,0,none⟩)),.v 23 (.pointer (some ⟨p,0,none⟩)),.v 24 (.pointer (some ⟨p,2,none⟩)),.l 25 (.int .u64 b) 0 2,.v 26 (.bool true)]) (fun p4=>[(0,.pointer (some ⟨p,0,none⟩)),(2,pT (p1 0).N 0),(3,pT (p1 1).N 0),(4,pT (p2 15).N 0),(26,.bool true)]) (fun p4=>?_) (fun p4 W4 T hF hK=>?_)
 ·iterate 3 refine okv ?_
  refine okl ?_
  refine okvb (bne_iff_ne.2 (show b≠0 by omega)) ?_
  exact ok_nil
 obtain ⟨hS,hG⟩:=SymF.fg hS hF
 clear hF
 refine wp_cond_true (hK.ew 26) ?_
 refine wg hS hG hK (fun p5=>[.v 27 (.pointer (some ⟨p,0,none⟩)),.v 28 (.pointer (some ⟨p,0,none⟩)),.v 29 (.pointer (some ⟨p,0,none⟩)),.v 30 (.pointer (some ⟨p,0,none⟩)),.v 31 (.pointer (some ⟨p,0,none⟩)),.l 32 (.agg #[.int .i64 E,.int .i64 F]) 0 0,.v 33 (.pointer (some ⟨p,0,none⟩)),.v 34 (.pointer (some ⟨p,0,none⟩)),.v 35 (.pointer (some ⟨p,2,none⟩)),.l 36 (.int .u64 b) 0 2,.c (some 37) (cV (.tuple #[.int .u64 dn,.int .i64 0])),.v 38 (.int .u64 dn),.v 39 (.int .i64 0),.c (some 40) (cM0 md_ fun x9=>.agg #[.bool sd,x9,.int .i64 xd]),.l 41 (.agg #[.bool s,.slice (p2 11).A (p2 11).N (p2 11).C,.int .i64 x]) 3 0,.c (some 42) (cM0 ml fun x9=>.agg #[.bool sl,x9,.int .i64 xl]),.p 1 0 [.bool sl,.slice (p5 15).A (p5 15).N (p5 15).C,.int .i64 xl]]) (fun p5=>[(0,.pointer (some ⟨p,0,none⟩)),(2,pT (p1 0).N 0),(3,pT (p1 1).N 0),(4,pT (p2 15).N 0)]) (fun p5=>?_) (fun p5 W5 T hF hK=>?_)
 ·iterate 5 refine okv ?_
  refine okl ?_
  iterate 3 refine okv ?_
  refine okl ?_
  refine okc (fun W cx=>as_v (unhide HDn _)) ?_
  iterate 2 refine okv ?_
  refine okc (fun W cx=>as_0 (unhide HWd _ (hT.kept cx.fr) (cx.B 0 _ rfl (by kernel_rfl) (by kernel_rfl)))) ?_
  refine okl ?_
  refine okc (fun W cx=>as_0 (unhide HL _ _ _ (p5 13).C _ _ (p2 11).C (hT.kept cx.fr) (cx.B 0 _ rfl (by kernel_rfl) (by kernel_rfl)) (cx.F 13 (by kernel_rfl)) (Mine.mono (cx.G.1) (Nat.zero_le _)))) ?_
  refine okp ?_
  exact ok_nil
 replace hS:=SymF.fc hS hF [0,1,2,3] [⟨p,#[.int .i64 E,.int .i64 F,.int .u64 b,.int .u8 md,.int .i64 0],67,false⟩,⟨(p1 0).N,#[.bool sl,.slice (p5 15).A (p5 15).N (p5 15).C,.int .i64 xl],58,true⟩,⟨(p1 1).N,#[.bool s,.slice (p2 11).A (p2 11).N (p2 11).C,.int .i64 x],58,true⟩,⟨(p2 15).N,#[.bool s,.slice (p2 11).A (p2 11).N (p2 11).C,.int .i64 x],58,true⟩]
 replace hG:GsAt (gM 0 (p5 13).A (p5 13).N (p5 13).C md_ :: gM 0 (p5 15).A (p5 15).N (p5 15).C ml :: _) W5:=⟨hF.fx 13,hF.fx 15,hF.gx⟩
 clear hF
 refine then_n (wp_seq ?_)
 refine wq hS hG hK (fun p6=>[.v 43 (.pointer (some ⟨p,0,none⟩)),.v 44 (.pointer (some ⟨p,0,none⟩)),.v 45 (.pointer (some ⟨p,2,none⟩)),.l 46 (.int .u64 b) 0 2,.v 47 (.pointer (some ⟨p,0,none⟩)),.v 48 (.pointer (some ⟨p,0,none⟩)),.v 49 (.pointer (some ⟨p,0,none⟩)),.l 50 (.agg #[.int .i64 E,.int .i64 F]) 0 0,.c (some 51) (cV (.int .u64 S)),.v 52 (.bool true)]) (fun p6=>[(0,.pointer (some ⟨p,0,none⟩)),(2,pT (p1 0).N 0),(3,pT (p1 1).N 0),(4,pT (p2 15).N 0),(52,.bool true)]) (fun p6=>?_) (fun p6 W6 T hF hK=>?_)
 ·iterate 3 refine okv ?_
  refine okl ?_
  iterate 3 refine okv ?_
  refine okl ?_
  refine okc (fun W cx=>as_v (unhide HB _)) ?_
  refine okvb (bne_iff_ne.2 (show b≠S by omega)) ?_
  exact ok_nil
 obtain ⟨hS,hG⟩:=SymF.fg hS hF
 clear hF
 refine wp_cond_true (hK.ew 52) ?_
 refine wg hS hG hK (fun p7=>[.v 53 (.pointer (some ⟨p,0,none⟩)),.l 54 (.agg #[.bool s,.slice (p2 11).A (p2 11).N (p2 11).C,.int .i64 x]) 3 0,.v 55 (.pointer (some ⟨p,0,none⟩)),.v 56 (.pointer (some ⟨p,0,none⟩)),.v 57 (.pointer (some ⟨p,0,none⟩)),.v 58 (.pointer (some ⟨p,0,none⟩)),.l 59 (.agg #[.int .i64 E,.int .i64 F]) 0 0,.v 60 (.pointer (some ⟨p,0,none⟩)),.v 61 (.pointer (some ⟨p,0,none⟩)),.v 62 (.pointer (some ⟨p,2,none⟩)),.l 63 (.int .u64 b) 0 2,.c (some 64) (cV (.tuple #[.int .u64 up,.int .i64 0])),.v 65 (.int .u64 up),.v 66 (.int .i64 0),.c (some 67) (cM0 mu fun x9=>.agg #[.bool su,x9,.int .i64 xu]),.c (some 68) (cM0 mh fun x9=>.agg #[.bool sh,x9,.int .i64 xh]),.p 2 0 [.bool sh,.slice (p7 15).A (p7 15).N (p7 15).C,.int .i64 xh]]) (fun p7=>[(2,pT (p1 0).N 0),(3,pT (p1 1).N 0)]) (fun p7=>?_) (fun p7 W7 T hF hK=>?_)
 ·refine okv ?_
  refine okl ?_
  iterate 4 refine okv ?_
  refine okl ?_
  iterate 3 refine okv ?_
  refine okl ?_
  refine okc (fun W cx=>as_v (unhide HUp _)) ?_
  iterate 2 refine okv ?_
  refine okc (fun W cx=>as_0 (unhide HWu _ (hT.kept cx.fr) (cx.B 0 _ rfl (by kernel_rfl) (by kernel_rfl)))) ?_
  refine okc (fun W cx=>as_0 (unhide HH _ _ _ (p2 11).C _ _ (p7 14).C (hT.kept cx.fr) (cx.B 0 _ rfl (by kernel_rfl) (by kernel_rfl)) (Mine.mono (cx.G.2.2.1) (Nat.zero_le _)) (cx.F 14 (by kernel_rfl)))) ?_
  refine okp ?_
  exact ok_nil
 replace hS:=SymF.fc hS hF [0,1,2] [⟨p,#[.int .i64 E,.int .i64 F,.int .u64 b,.int .u8 md,.int .i64 0],67,false⟩,⟨(p1 0).N,#[.bool sl,.slice (p5 15).A (p5 15).N (p5 15).C,.int .i64 xl],58,true⟩,⟨(p1 1).N,#[.bool sh,.slice (p7 15).A (p7 15).N (p7 15).C,.int .i64 xh],58,true⟩]
 replace hG:GsAt (gM 0 (p7 14).A (p7 14).N (p7 14).C mu :: gM 0 (p7 15).A (p7 15).N (p7 15).C mh :: _) W7:=⟨hF.fx 14,hF.fx 15,hF.gx⟩
 clear hF
 refine then_n ?_
 refine wq hS hG hK (fun p8=>[.l 69 (.agg #[.bool sl,.slice (p5 15).A (p5 15).N (p5 15).C,.int .i64 xl]) 1 0,.l 70 (.agg #[.bool sh,.slice (p7 15).A (p7 15).N (p7 15).C,.int .i64 xh]) 2 0,.p 1 0 [.bool sl,.slice (p5 15).A (p5 15).N (p5 15).C,.int .i64 xl],.p 2 0 [.bool sh,.slice (p7 15).A (p7 15).N (p7 15).C,.int .i64 xh]]) (fun p8=>[(2,pT (p1 0).N 0),(3,pT (p1 1).N 0)]) (fun p8=>?_) (fun p8 W8 T hF hK=>?_)
 ·iterate 2 refine okl ?_
  iterate 2 refine okp ?_
  exact ok_nil
 obtain ⟨hS,hG⟩:=SymF.fg hS hF
 clear hF
 refine wp_ret ?_
 exact sym_end hS hK (.tuple #[.agg #[.bool sl,.slice (p5 15).A (p5 15).N (p5 15).C,.int .i64 xl],.agg #[.bool sh,.slice (p7 15).A (p7 15).N (p7 15).C,.int .i64 xh]]) [(1,0,3),(2,0,3)] [.bool sl,.slice (p5 15).A (p5 15).N (p5 15).C,.int .i64 xl,.bool sh,.slice (p7 15).A (p7 15).N (p7 15).C,.int .i64 xh] (by kernel_rfl) (by kernel_rfl) ⟨⟨_,_,_,_,_,_,rfl,Mine.mono (hG.2.2.2.1) (Nat.zero_le _),Mine.mono (hG.2.1) (Nat.zero_le _)⟩,hS.fr⟩
theorem rend_x (w:World) (E F b md S:Int) (p:Nat) (d cd:Int) (sd:Bool) (nd:Nat) (xd:Int) (u cu:Int) (su:Bool) (mu:Nat) (xu:Int) (sl:Bool) (ml:Nat) (xl:Int) (sh:Bool) (mh:Nat) (xh:Int) (hT:Tb w) (hp:w.heap[p]? = some (.cells #[.int .i64 E,.int .i64 F,.int .u64 b,.int .u8 md,.int .i64 0] 67 (0,0))) (HV:Hid (∀ W:World,Calls Tryz.prog 51 #[.agg #[.int .i64 E,.int .i64 F],.int .u64 b] W fun e W'=>e = .returned (.tuple #[.agg #[.bool false,.slice none 0 0,.int .i64 0],.int .i64 8])∧Below W.heap.size W W')) (HB:Hid (∀ W:World,Calls Tryz.prog 60 #[.agg #[.int .i64 E,.int .i64 F]] W fun e W'=>e = .returned (.int .u64 S)∧Below W.heap.size W W')) (h0:b≠0) (hb:b≠S) (HDn:Hid (∀ W:World,Calls Tryz.prog 59 #[.agg #[.int .i64 E,.int .i64 F],.int .u64 b] W fun e W'=>e = .returned (.tuple #[.int .u64 d,.int .i64 cd])∧Below W.heap.size W W')) (HWd:Hid (∀ W:World,Tb W→W.heap[p]? = some (.cells #[.int .i64 E,.int .i64 F,.int .u64 b,.int .u8 md,.int .i64 8] 67 (0,0))→Calls Tryz.prog 58 #[.pointer (some ⟨p,0,none⟩),.int .u64 d,.int .i64 cd] W fun e W'=>(∃ A N C,e = .returned (.agg #[.bool sd,.slice A N C,.int .i64 xd])∧Mine W' 0 A N C nd)∧Below W.heap.size W W')) (HL:Hid (∀ (W:World) (A:Option Addr) (N C:Nat) (A':Option Addr) (N' C':Nat),Tb W→W.heap[p]? = some (.cells #[.int .i64 E,.int .i64 F,.int .u64 b,.int .u8 md,.int .i64 8] 67 (0,0))→Mine W 0 A N C nd→Mine W 0 A' N' C' 0→Calls Tryz.prog 57 #[.pointer (some ⟨p,0,none⟩),.agg #[.bool sd,.slice A N C,.int .i64 xd],.agg #[.bool false,.slice A' N' C',.int .i64 0]] W fun e W'=>(∃ A N C,e = .returned (.agg #[.bool sl,.slice A N C,.int .i64 xl])∧Mine W' 0 A N C ml)∧Below W.heap.size W W')) (HUp:Hid (∀ W:World,Calls Tryz.prog 14 #[.agg #[.int .i64 E,.int .i64 F],.int .u64 b] W fun e W'=>e = .returned (.tuple #[.int .u64 u,.int .i64 cu])∧Below W.heap.size W W')) (HWu:Hid (∀ W:World,Tb W→W.heap[p]? = some (.cells #[.int .i64 E,.int .i64 F,.int .u64 b,.int .u8 md,.int .i64 8] 67 (0,0))→Calls Tryz.prog 58 #[.pointer (some ⟨p,0,none⟩),.int .u64 u,.int .i64 cu] W fun e W'=>(∃ A N C,e = .returned (.agg #[.bool su,.slice A N C,.int .i64 xu])∧Mine W' 0 A N C mu)∧Below W.heap.size W W')) (HH:Hid (∀ (W:World) (A:Option Addr) (N C:Nat) (A':Option Addr) (N' C':Nat),Tb W→W.heap[p]? = some (.cells #[.int .i64 E,.int .i64 F,.int .u64 b,.int .u8 md,.int .i64 8] 67 (0,0))→Mine W 0 A N C 0→Mine W 0 A' N' C' mu→Calls Tryz.prog 57 #[.pointer (some ⟨p,0,none⟩),.agg #[.bool false,.slice A N C,.int .i64 0],.agg #[.bool su,.slice A' N' C',.int .i64 xu]] W fun e W'=>(∃ A N C,e = .returned (.agg #[.bool sh,.slice A N C,.int .i64 xh])∧Mine W' 0 A N C mh)∧Below W.heap.size W W')) :
  Calls Tryz.prog 22 #[.pointer (some ⟨p,0,none⟩)] w fun en w'=>(∃ A N C A' N' C',en = .returned (.tuple #[.agg #[.bool sl,.slice A N C,.int .i64 xl],.agg #[.bool sh,.slice A' N' C',.int .i64 xh]])∧Mine w' 0 A N C ml∧Mine w' 0 A' N' C' mh)∧OneBut p w w'∧w'.heap[p]? = some (.cells #[.int .i64 E,.int .i64 F,.int .u64 b,.int .u8 md,.int .i64 8] 67 (0,0)):=by
 refine calls_sym Tryz.func22 rfl (by kernel_rfl) fun T hK=>?_
 replace hK:Kn T _ [(0,.pointer (some ⟨p,0,none⟩))]:=hK
 have hS:=Fb.rcv hp
 have hG:GsAt [] w:=trivial
 refine wq hS hG hK (fun p1=>[.n 2 #[.bool false,.slice none 0 0,.int .i64 0] 58,.n 3 #[.bool false,.slice none 0 0,.int .i64 0] 58]) (fun p1=>[(0,.pointer (some ⟨p,0,none⟩)),(2,pT (p1 0).N 0),(3,pT (p1 1).N 0)]) (fun p1=>?_) (fun p1 W1 T hF hK=>?_)
 ·iterate 2 refine okn ?_
  exact ok_nil
 replace hS:=SymF.fc hS hF [0,1000,1001] [⟨p,#[.int .i64 E,.int .i64 F,.int .u64 b,.int .u8 md,.int .i64 0],67,true⟩,⟨(p1 0).N,#[.bool false,.slice none 0 0,.int .i64 0],58,true⟩,⟨(p1 1).N,#[.bool false,.slice none 0 0,.int .i64 0],58,true⟩]
 replace hG:=hF.gx
 clear hF
 have z1:=OneBut.size hS.fr
 refine wq hS hG hK (fun p2=>[.v 5 (.pointer (some ⟨p,0,none⟩)),.v 6 (.pointer (some ⟨p,0,none⟩)),.v 7 (.pointer (some ⟨p,4,none⟩)),.v 8 (.pointer (some ⟨p,0,none⟩)),.v 9 (.pointer (some ⟨p,0,none⟩)),.v 10 (.pointer (some ⟨p,0,none⟩)),.l 11 (.agg #[.int .i64 E,.int .i64 F]) 0 0,.v 12 (.pointer (some ⟨p,0,none⟩)),.v 13 (.pointer (some ⟨p,0,none⟩)),.v 14 (.pointer (some ⟨p,2,none⟩)),.l 15 (.int .u64 b) 0 2,.c (some 16) (cV (.tuple #[.agg #[.bool false,.slice none 0 0,.int .i64 0],.int .i64 8])),.v 17 (.agg #[.bool false,.slice none 0 0,.int .i64 0]),.v 18 (.int .i64 8),.w (some 19) 0 4 [.int .i64 8] (fun _=>[.int .i64 8]) (cV (.agg #[.bool false,.slice none 0 0,.int .i64 0])),.n 4 #[.bool false,.slice none 0 0,.int .i64 0] 58,.p 1015 0 [.bool false,.slice none 0 0,.int .i64 0]]) (fun p2=>[(0,.pointer (some ⟨p,0,none⟩)),(2,pT (p1 0).N 0),(3,pT (p1 1).N 0),(4,pT (p2 15).N 0)]) (fun p2=>?_) (fun p2 W2 T hF hK=>?_)
 ·iterate 6 refine okv ?_
  refine okl ?_
  iterate 3 refine okv ?_
  refine okl ?_
  refine okc (fun W cx=>as_v (unhide HV _)) ?_
  iterate 2 refine okv ?_
  refine ok_W p #[.int .i64 E,.int .i64 F,.int .u64 b,.int .u8 md,.int .i64 0] 67 (fun W cx hW=>as_w (runDyadic_gw p 4 8 _ _ _ _ _ _ _ W hW rfl)) (by kernel_rfl) (by kernel_rfl) (by kernel_rfl) (by kernel_rfl) (by kernel_rfl) rfl (by kernel_rfl) ?_
  refine okn ?_
  refine okp ?_
  exact ok_nil
 replace hS:=SymF.fc hS hF [0,1,2,1015] [⟨p,#[.int .i64 E,.int .i64 F,.int .u64 b,.int .u8 md,.int .i64 8],67,true⟩,⟨(p1 0).N,#[.bool false,.slice none 0 0,.int .i64 0],58,true⟩,⟨(p1 1).N,#[.bool false,.slice none 0 0,.int .i64 0],58,true⟩,⟨(p2 15).N,#[.bool false,.slice none 0 0,.int .i64 0],58,true⟩]
 replace hG:=hF.gx
 clear hF
 have z2:=OneBut.size hS.fr
 refine wq hS hG hK (fun p3=>[.l 20 (.agg #[.bool false,.slice none 0 0,.int .i64 0]) 3 0,.l 21 (.agg #[.bool false,.slice none 0 0,.int .i64 0]) 3 0,.p 1 0 [.bool false,.slice none 0 0,.int .i64 0],.p 2 0 [.bool false,.slice none 0 0,.int .i64 0]]) (fun p3=>[(0,.pointer (some ⟨p,0,none⟩)),(2,pT (p1 0).N 0),(3,pT (p1 1).N 0),(4,pT (p2 15).N 0)]) (fun p3=>?_) (fun p3 W3 T hF hK=>?_)
 ·iterate 2 refine okl ?_
  iterate 2 refine okp ?_
  exact ok_nil
 obtain ⟨hS,hG⟩:=SymF.fg hS hF
 clear hF
 have z3:=OneBut.size hS.fr
 refine wp_seq ?_
 refine wq hS hG hK (fun p4=>[.v 22 (.pointer (some ⟨p,0,none⟩)),.v 23 (.pointer (some ⟨p,0,none⟩)),.v 24 (.pointer (some ⟨p,2,none⟩)),.l 25 (.int .u64 b) 0 2,.v 26 (.bool true)]) (fun p4=>[(0,.pointer (some ⟨p,0,none⟩)),(2,pT (p1 0).N 0),(3,pT (p1 1).N 0),(4,pT (p2 15).N 0),(26,.bool true)]) (fun p4=>?_) (fun p4 W4 T hF hK=>?_)
 ·iterate 3 refine okv ?_
  refine okl ?_
  refine okvb (bne_iff_ne.2 (show b≠0 by omega)) ?_
  exact ok_nil
 obtain ⟨hS,hG⟩:=SymF.fg hS hF
 clear hF
 have z4:=OneBut.size hS.fr
 refine wp_cond_true (hK.ew 26) ?_
 refine wg hS hG hK (fun p5=>[.v 27 (.pointer (some ⟨p,0,none⟩)),.v 28 (.pointer (some ⟨p,0,none⟩)),.v 29 (.pointer (some ⟨p,0,none⟩)),.v 30 (.pointer (some ⟨p,0,none⟩)),.v 31 (.pointer (some ⟨p,0,none⟩)),.l 32 (.agg #[.int .i64 E,.int .i64 F]) 0 0,.v 33 (.pointer (some ⟨p,0,none⟩)),.v 34 (.pointer (some ⟨p,0,none⟩)),.v 35 (.pointer (some ⟨p,2,none⟩)),.l 36 (.int .u64 b) 0 2,.c (some 37) (cV (.tuple #[.int .u64 d,.int .i64 cd])),.v 38 (.int .u64 d),.v 39 (.int .i64 cd),.c (some 40) (cM0 nd fun x9=>.agg #[.bool sd,x9,.int .i64 xd]),.l 41 (.agg #[.bool false,.slice none 0 0,.int .i64 0]) 3 0,.c (some 42) (cM0 ml fun x9=>.agg #[.bool sl,x9,.int .i64 xl]),.p 1 0 [.bool sl,.slice (p5 15).A (p5 15).N (p5 15).C,.int .i64 xl]]) (fun p5=>[(0,.pointer (some ⟨p,0,none⟩)),(2,pT (p1 0).N 0),(3,pT (p1 1).N 0),(4,pT (p2 15).N 0)]) (fun p5=>?_) (fun p5 W5 T hF hK=>?_)
 ·iterate 5 refine okv ?_
  refine okl ?_
  iterate 3 refine okv ?_
  refine okl ?_
  refine okc (fun W cx=>as_v (unhide HDn _)) ?_
  iterate 2 refine okv ?_
  refine okc (fun W cx=>as_0 (unhide HWd _ (tb_but hT hp cx.fr) (cx.B 0 _ rfl (by kernel_rfl) (by kernel_rfl)))) ?_
  refine okl ?_
  refine okc (fun W cx=>as_0 (unhide HL _ _ _ (p5 13).C _ _ 0 (tb_but hT hp cx.fr) (cx.B 0 _ rfl (by kernel_rfl) (by kernel_rfl)) (cx.F 13 (by kernel_rfl)) (mine_none _ _))) ?_
  refine okp ?_
  exact ok_nil
 replace hS:=SymF.fc hS hF [0,1,2,3] [⟨p,#[.int .i64 E,.int .i64 F,.int .u64 b,.int .u8 md,.int .i64 8],67,true⟩,⟨(p1 0).N,#[.bool sl,.slice (p5 15).A (p5 15).N (p5 15).C,.int .i64 xl],58,true⟩,⟨(p1 1).N,#[.bool false,.slice none 0 0,.int .i64 0],58,true⟩,⟨(p2 15).N,#[.bool false,.slice none 0 0,.int .i64 0],58,true⟩]
 replace hG:GsAt (gM 0 (p5 13).A (p5 13).N (p5 13).C nd :: gM 0 (p5 15).A (p5 15).N (p5 15).C ml :: _) W5:=⟨hF.fx 13,hF.fx 15,hF.gx⟩
 clear hF
 have z5:=OneBut.size hS.fr
 refine then_n (wp_seq ?_)
 refine wq hS hG hK (fun p6=>[.v 43 (.pointer (some ⟨p,0,none⟩)),.v 44 (.pointer (some ⟨p,0,none⟩)),.v 45 (.pointer (some ⟨p,2,none⟩)),.l 46 (.int .u64 b) 0 2,.v 47 (.pointer (some ⟨p,0,none⟩)),.v 48 (.pointer (some ⟨p,0,none⟩)),.v 49 (.pointer (some ⟨p,0,none⟩)),.l 50 (.agg #[.int .i64 E,.int .i64 F]) 0 0,.c (some 51) (cV (.int .u64 S)),.v 52 (.bool true)]) (fun p6=>[(0,.pointer (some ⟨p,0,none⟩)),(2,pT (p1 0).N 0),(3,pT (p1 1).N 0),(4,pT (p2 15).N 0),(52,.bool true)]) (fun p6=>?_) (fun p6 W6 T hF hK=>?_)
 ·iterate 3 refine okv ?_
  refine okl ?_
  iterate 3 refine okv ?_
  refine okl ?_
  refine okc (fun W cx=>as_v (unhide HB _)) ?_
  refine okvb (bne_iff_ne.2 (show b≠S by omega)) ?_
  exact ok_nil
 obtain ⟨hS,hG⟩:=SymF.fg hS hF
 clear hF
 have z6:=OneBut.size hS.fr
 refine wp_cond_true (hK.ew 52) ?_
 refine wg hS hG hK (fun p7=>[.v 53 (.pointer (some ⟨p,0,none⟩)),.l 54 (.agg #[.bool false,.slice none 0 0,.int .i64 0]) 3 0,.v 55 (.pointer (some ⟨p,0,none⟩)),.v 56 (.pointer (some ⟨p,0,none⟩)),.v 57 (.pointer (some ⟨p,0,none⟩)),.v 58 (.pointer (some ⟨p,0,none⟩)),.l 59 (.agg #[.int .i64 E,.int .i64 F]) 0 0,.v 60 (.pointer (some ⟨p,0,none⟩)),.v 61 (.pointer (some ⟨p,0,none⟩)),.v 62 (.pointer (some ⟨p,2,none⟩)),.l 63 (.int .u64 b) 0 2,.c (some 64) (cV (.tuple #[.int .u64 u,.int .i64 cu])),.v 65 (.int .u64 u),.v 66 (.int .i64 cu),.c (some 67) (cM0 mu fun x9=>.agg #[.bool su,x9,.int .i64 xu]),.c (some 68) (cM0 mh fun x9=>.agg #[.bool sh,x9,.int .i64 xh]),.p 2 0 [.bool sh,.slice (p7 15).A (p7 15).N (p7 15).C,.int .i64 xh]]) (fun p7=>[(2,pT (p1 0).N 0),(3,pT (p1 1).N 0)]) (fun p7=>?_) (fun p7 W7 T hF hK=>?_)
 ·refine okv ?_
  refine okl ?_
  iterate 4 refine okv ?_
  refine okl ?_
  iterate 3 refine okv ?_
  refine okl ?_
  refine okc (fun W cx=>as_v (unhide HUp _)) ?_
  iterate 2 refine okv ?_
  refine okc (fun W cx=>as_0 (unhide HWu _ (tb_but hT hp cx.fr) (cx.B 0 _ rfl (by kernel_rfl) (by kernel_rfl)))) ?_
  refine okc (fun W cx=>as_0 (unhide HH _ _ _ 0 _ _ (p7 14).C (tb_but hT hp cx.fr) (cx.B 0 _ rfl (by kernel_rfl) (by kernel_rfl)) (mine_none _ _) (cx.F 14 (by kernel_rfl)))) ?_
  refine okp ?_
  exact ok_nil
 replace hS:=SymF.fc hS hF [0,1,2] [⟨p,#[.int .i64 E,.int .i64 F,.int .u64 b,.int .u8 md,.int .i64 8],67,true⟩,⟨(p1 0).N,#[.bool sl,.slice (p5 15).A (p5 15).N (p5 15).C,.int .i64 xl],58,true⟩,⟨(p1 1).N,#[.bool sh,.slice (p7 15).A (p7 15).N (p7 15).C,.int .i64 xh],58,true⟩]
 replace hG:GsAt (gM 0 (p7 14).A (p7 14).N (p7 14).C mu :: gM 0 (p7 15).A (p7 15).N (p7 15).C mh :: _) W7:=⟨hF.fx 14,hF.fx 15,hF.gx⟩
 clear hF
 have z7:=OneBut.size hS.fr
 refine then_n ?_
 refine wq hS hG hK (fun p8=>[.l 69 (.agg #[.bool sl,.slice (p5 15).A (p5 15).N (p5 15).C,.int .i64 xl]) 1 0,.l 70 (.agg #[.bool sh,.slice (p7 15).A (p7 15).N (p7 15).C,.int .i64 xh]) 2 0,.p 1 0 [.bool sl,.slice (p5 15).A (p5 15).N (p5 15).C,.int .i64 xl],.p 2 0 [.bool sh,.slice (p7 15).A (p7 15).N (p7 15).C,.int .i64 xh]]) (fun p8=>[(2,pT (p1 0).N 0),(3,pT (p1 1).N 0)]) (fun p8=>?_) (fun p8 W8 T hF hK=>?_)
 ·iterate 2 refine okl ?_
  iterate 2 refine okp ?_
  exact ok_nil
 obtain ⟨hS,hG⟩:=SymF.fg hS hF
 clear hF
 have z8:=OneBut.size hS.fr
 refine wp_ret ?_
 exact sym_end hS hK (.tuple #[.agg #[.bool sl,.slice (p5 15).A (p5 15).N (p5 15).C,.int .i64 xl],.agg #[.bool sh,.slice (p7 15).A (p7 15).N (p7 15).C,.int .i64 xh]]) [(1,0,3),(2,0,3)] [.bool sl,.slice (p5 15).A (p5 15).N (p5 15).C,.int .i64 xl,.bool sh,.slice (p7 15).A (p7 15).N (p7 15).C,.int .i64 xh] (by kernel_rfl) (by kernel_rfl) ⟨⟨_,_,_,_,_,_,rfl,Mine.mono (hG.2.2.2.1) (Nat.zero_le _),Mine.mono (hG.2.1) (Nat.zero_le _)⟩,hS.fr,hS.bx _ (List.mem_cons_self ..)⟩
theorem rrea_f (w:World) (E F b md err:Int) (he:err≠0) (H0:Hid (∀ (W:World) (q:Nat),W.heap[q]? = some (.cells #[.int .u64 b] 24 (0,0))→Calls Tryz.prog 20 #[.agg #[.int .i64 E,.int .i64 F],.slice (some ⟨q,0,none⟩) 1 1] W fun e W'=>e = .returned (.int .i64 err)∧Below W.heap.size W W')) :
  Calls Tryz.prog 6 #[.agg #[.int .i64 E,.int .i64 F],.int .u64 b,.int .u8 md] w fun en w'=>en = .returned (.tuple #[.agg #[.bool false,.slice none 0 0,.slice none 0 0],.agg #[.bool false,.slice none 0 0,.slice none 0 0],.bool false,.bool false,.int .i64 err])∧Below w.heap.size w w':=by
 refine calls_sym Tryz.func6 rfl (by kernel_rfl) fun T hK=>?_
 replace hK:Kn T _ [(0,.agg #[.int .i64 E,.int .i64 F]),(1,.int .u64 b),(2,.int .u8 md)]:=hK
 have hS:=Fb.begin w
 have hG:GsAt [] w:=trivial
 refine wq hS hG hK (fun p1=>[.n 3 #[.int .i64 E,.int .i64 F] 23,.n 6 #[.bool false,.slice none 0 0,.slice none 0 0] 29,.n 7 #[.bool false,.slice none 0 0,.slice none 0 0] 29,.v 8 (.bool false),.v 9 (.bool false),.v 10 (.int .i64 0)]) (fun p1=>[(1,.int .u64 b),(2,.int .u8 md),(3,pT (p1 0).N 0),(6,pT (p1 1).N 0),(7,pT (p1 2).N 0),(8,.bool false),(9,.bool false),(10,.int .i64 0)]) (fun p1=>?_) (fun p1 W1 T hF hK=>?_)
 ·iterate 3 refine okn ?_
  iterate 3 refine okv ?_
  exact ok_nil
 replace hS:=SymF.fc hS hF [1000,1001,1002] [⟨(p1 0).N,#[.int .i64 E,.int .i64 F],23,true⟩,⟨(p1 1).N,#[.bool false,.slice none 0 0,.slice none 0 0],29,true⟩,⟨(p1 2).N,#[.bool false,.slice none 0 0,.slice none 0 0],29,true⟩]
 replace hG:=hF.gx
 clear hF
 refine wp_seq ?_
 refine wq hS hG hK (fun p2=>[.l 17 (.agg #[.int .i64 E,.int .i64 F]) 0 0,.v 18 (.int .u64 b),.n 19 #[.int .u64 b] (1000000+24),.c (some 20) (cV (.int .i64 err)),.v 11 (.int .i64 err)]) (fun p2=>[(1,.int .u64 b),(2,.int .u8 md),(3,pT (p1 0).N 0),(6,pT (p1 1).N 0),(7,pT (p1 2).N 0),(8,.bool false),(9,.bool false),(10,.int .i64 0),(11,.int .i64 err)]) (fun p2=>?_) (fun p2 W2 T hF hK=>?_)
 ·refine okl ?_
  refine okv ?_
  refine okn ?_
  refine okc (fun W cx=>as_v (unhide H0 _ _ (cx.F 2 (by kernel_rfl) (by kernel_rfl)))) ?_
  refine okv ?_
  exact ok_nil
 obtain ⟨hS,hG⟩:=SymF.fg hS hF
 clear hF
 refine wq hS hG hK (fun p3=>[.v 21 (.int .i64 err),.v 22 (.bool true)]) (fun p3=>[(1,.int .u64 b),(2,.int .u8 md),(3,pT (p1 0).N 0),(6,pT (p1 1).N 0),(7,pT (p1 2).N 0),(8,.bool false),(9,.bool false),(10,.int .i64 0),(11,.int .i64 err),(22,.bool true)]) (fun p3=>?_) (fun p3 W3 T hF hK=>?_)
 ·refine okv ?_
  refine okvb (bne_iff_ne.2 (show err≠0 by omega)) ?_
  exact ok_nil
 obtain ⟨hS,hG⟩:=SymF.fg hS hF
 clear hF
 refine wp_cond_true (hK.ew 22) ?_
 refine wq hS hG hK (fun p4=>[.v 23 (.agg #[.bool false,.slice none 0 0,.slice none 0 0]),.v 24 (.agg #[.bool false,.slice none 0 0,.slice none 0 0]),.v 25 (.int .i64 err),.p 1 0 [.bool false,.slice none 0 0,.slice none 0 0],.p 2 0 [.bool false,.slice none 0 0,.slice none 0 0],.v 8 (.bool false),.v 9 (.bool false),.v 10 (.int .i64 err)]) (fun p4=>[(1,.int .u64 b),(2,.int .u8 md),(3,pT (p1 0).N 0),(6,pT (p1 1).N 0),(7,pT (p1 2).N 0),(8,.bool false),(9,.bool false),(10,.int .i64 err)]) (fun p4=>?_) (fun p4 W4 T hF hK=>?_)
 ·iterate 3 refine okv ?_
  iterate 2 refine okp ?_
  iterate 3 refine okv ?_
  exact ok_nil
 obtain ⟨hS,hG⟩:=SymF.fg hS hF
 clear hF
 refine wp_ret ?_
 refine then_r ?_
 exact sym_end hS hK (.tuple #[.agg #[.bool false,.slice none 0 0,.slice none 0 0],.agg #[.bool false,.slice none 0 0,.slice none 0 0],.bool false,.bool false,.int .i64 err]) [(1,0,3),(2,0,3)] [.bool false,.slice none 0 0,.slice none 0 0,.bool false,.slice none 0 0,.slice none 0 0] (by kernel_rfl) (by kernel_rfl) ⟨rfl,hS.fr⟩
theorem rrea_m (w:World) (E F b md err:Int) (str:ByteArray) (he:err≠0) (hN:Nb5 w) (H0:Hid (∀ (W:World) (q:Nat),W.heap[q]? = some (.cells #[.int .u64 b] 24 (0,0))→Calls Tryz.prog 20 #[.agg #[.int .i64 E,.int .i64 F],.slice (some ⟨q,0,none⟩) 1 1] W fun e W'=>e = .returned (.int .i64 0)∧Below W.heap.size W W')) (HN:Hid (∀ W:World,Nb5 W→Calls Tryz.prog 21 #[.int .u8 md] W fun e W'=>e = .returned (.tuple #[.string str,.int .i64 err])∧Below W.heap.size W W')) :
  Calls Tryz.prog 6 #[.agg #[.int .i64 E,.int .i64 F],.int .u64 b,.int .u8 md] w fun en w'=>en = .returned (.tuple #[.agg #[.bool false,.slice none 0 0,.slice none 0 0],.agg #[.bool false,.slice none 0 0,.slice none 0 0],.bool false,.bool false,.int .i64 err])∧Below w.heap.size w w':=by
 refine calls_sym Tryz.func6 rfl (by kernel_rfl) fun T hK=>?_
 replace hK:Kn T _ [(0,.agg #[.int .i64 E,.int .i64 F]),(1,.int .u64 b),(2,.int .u8 md)]:=hK
 have hS:=Fb.begin w
 have hG:GsAt [] w:=trivial
 refine wq hS hG hK (fun p1=>[.n 3 #[.int .i64 E,.int .i64 F] 23,.n 6 #[.bool false,.slice none 0 0,.slice none 0 0] 29,.n 7 #[.bool false,.slice none 0 0,.slice none 0 0] 29,.v 8 (.bool false),.v 9 (.bool false),.v 10 (.int .i64 0)]) (fun p1=>[(1,.int .u64 b),(2,.int .u8 md),(3,pT (p1 0).N 0),(6,pT (p1 1).N 0),(7,pT (p1 2).N 0),(8,.bool false),(9,.bool false),(10,.int .i64 0)]) (fun p1=>?_) (fun p1 W1 T hF hK=>?_)
 ·iterate 3 refine okn ?_
  iterate 3 refine okv ?_
  exact ok_nil
 replace hS:=SymF.fc hS hF [1000,1001,1002] [⟨(p1 0).N,#[.int .i64 E,.int .i64 F],23,true⟩,⟨(p1 1).N,#[.bool false,.slice none 0 0,.slice none 0 0],29,true⟩,⟨(p1 2).N,#[.bool false,.slice none 0 0,.slice none 0 0],29,true⟩]
 replace hG:=hF.gx
 clear hF
 refine wp_seq ?_
 refine wq hS hG hK (fun p2=>[.l 17 (.agg #[.int .i64 E,.int .i64 F]) 0 0,.v 18 (.int .u64 b),.n 19 #[.int .u64 b] (1000000+24),.c (some 20) (cV (.int .i64 0)),.v 11 (.int .i64 0)]) (fun p2=>[(1,.int .u64 b),(2,.int .u8 md),(3,pT (p1 0).N 0),(6,pT (p1 1).N 0),(7,pT (p1 2).N 0),(8,.bool false),(9,.bool false),(10,.int .i64 0),(11,.int .i64 0)]) (fun p2=>?_) (fun p2 W2 T hF hK=>?_)
 ·refine okl ?_
  refine okv ?_
  refine okn ?_
  refine okc (fun W cx=>as_v (unhide H0 _ _ (cx.F 2 (by kernel_rfl) (by kernel_rfl)))) ?_
  refine okv ?_
  exact ok_nil
 obtain ⟨hS,hG⟩:=SymF.fg hS hF
 clear hF
 refine wq hS hG hK (fun p3=>[.v 21 (.int .i64 0),.v 22 (.bool false)]) (fun p3=>[(1,.int .u64 b),(2,.int .u8 md),(3,pT (p1 0).N 0),(6,pT (p1 1).N 0),(7,pT (p1 2).N 0),(8,.bool false),(9,.bool false),(10,.int .i64 0),(11,.int .i64 0),(22,.bool false)]) (fun p3=>?_) (fun p3 W3 T hF hK=>?_)
 ·iterate 2 refine okv ?_
  exact ok_nil
 obtain ⟨hS,hG⟩:=SymF.fg hS hF
 clear hF
 refine wp_cond_false (hK.ew 22) (wp_skip ?_)
 refine then_n (wp_seq ?_)
 refine wq hS hG hK (fun p4=>[.v 27 (.int .u8 md),.c (some 28) (cV (.tuple #[.string str,.int .i64 err])),.v 26 (.tuple #[.string str,.int .i64 err]),.v 29 (.string str),.v 30 (.int .i64 err),.v 12 (.string str),.v 13 (.int .i64 err)]) (fun p4=>[(1,.int .u64 b),(2,.int .u8 md),(3,pT (p1 0).N 0),(6,pT (p1 1).N 0),(7,pT (p1 2).N 0),(8,.bool false),(9,.bool false),(10,.int .i64 0),(11,.int .i64 0),(13,.int .i64 err)]) (fun p4=>?_) (fun p4 W4 T hF hK=>?_)
 ·refine okv ?_
  refine okc (fun W cx=>as_v (unhide HN _ (hN.kept cx.fr))) ?_
  iterate 5 refine okv ?_
  exact ok_nil
 obtain ⟨hS,hG⟩:=SymF.fg hS hF
 clear hF
 refine wq hS hG hK (fun p5=>[.v 31 (.int .i64 err),.v 32 (.bool true)]) (fun p5=>[(1,.int .u64 b),(2,.int .u8 md),(3,pT (p1 0).N 0),(6,pT (p1 1).N 0),(7,pT (p1 2).N 0),(8,.bool false),(9,.bool false),(10,.int .i64 0),(11,.int .i64 0),(13,.int .i64 err),(32,.bool true)]) (fun p5=>?_) (fun p5 W5 T hF hK=>?_)
 ·refine okv ?_
  refine okvb (bne_iff_ne.2 (show err≠0 by omega)) ?_
  exact ok_nil
 obtain ⟨hS,hG⟩:=SymF.fg hS hF
 clear hF
 refine wp_cond_true (hK.ew 32) ?_
 refine wq hS hG hK (fun p6=>[.v 33 (.agg #[.bool false,.slice none 0 0,.slice none 0 0]),.v 34 (.agg #[.bool false,.slice none 0 0,.slice none 0 0]),.v 35 (.int .i64 err),.p 1 0 [.bool false,.slice none 0 0,.slice none 0 0],.p 2 0 [.bool false,.slice none 0 0,.slice none 0 0],.v 8 (.bool false),.v 9 (.bool false),.v 10 (.int .i64 err)]) (fun p6=>[(1,.int .u64 b),(2,.int .u8 md),(3,pT (p1 0).N 0),(6,pT (p1 1).N 0),(7,pT (p1 2).N 0),(8,.bool false),(9,.bool false),(10,.int .i64 err),(11,.int .i64 0)]) (fun p6=>?_) (fun p6 W6 T hF hK=>?_)
 ·iterate 3 refine okv ?_
  iterate 2 refine okp ?_
  iterate 3 refine okv ?_
  exact ok_nil
 obtain ⟨hS,hG⟩:=SymF.fg hS hF
 clear hF
 refine wp_ret ?_
 refine then_r ?_
 exact sym_end hS hK (.tuple #[.agg #[.bool false,.slice none 0 0,.slice none 0 0],.agg #[.bool false,.slice none 0 0,.slice none 0 0],.bool false,.bool false,.int .i64 err]) [(1,0,3),(2,0,3)] [.bool false,.slice none 0 0,.slice none 0 0,.bool false,.slice none 0 0,.slice none 0 0] (by kernel_rfl) (by kernel_rfl) ⟨rfl,hS.fr⟩
theorem rrea_ok (w:World) (E F b md:Int) (str:ByteArray) (sl:Bool) (ml:Nat) (xl:Int) (sh:Bool) (mh:Nat) (xh:Int) (nl dl nh dh:Nat) (li hi:Bool) (hT:Tb w) (hN:Nb5 w) (H0:Hid (∀ (W:World) (q:Nat),W.heap[q]? = some (.cells #[.int .u64 b] 24 (0,0))→Calls Tryz.prog 20 #[.agg #[.int .i64 E,.int .i64 F],.slice (some ⟨q,0,none⟩) 1 1] W fun e W'=>e = .returned (.int .i64 0)∧Below W.heap.size W W')) (HN:Hid (∀ W:World,Nb5 W→Calls Tryz.prog 21 #[.int .u8 md] W fun e W'=>e = .returned (.tuple #[.string str,.int .i64 0])∧Below W.heap.size W W')) (HE:Hid (∀ (W:World) (p:Nat),Tb W→W.heap[p]? = some (.cells #[.int .i64 E,.int .i64 F,.int .u64 b,.int .u8 md,.int .i64 0] 67 (0,0))→Calls Tryz.prog 22 #[.pointer (some ⟨p,0,none⟩)] W fun e W'=>(∃ A N C A' N' C',e = .returned (.tuple #[.agg #[.bool sl,.slice A N C,.int .i64 xl],.agg #[.bool sh,.slice A' N' C',.int .i64 xh]])∧Mine W' 0 A N C ml∧Mine W' 0 A' N' C' mh)∧Below W.heap.size W W')) (HRl:Hid (∀ (W:World) (A:Option Addr) (N C:Nat),Num W A N ml→Calls Tryz.prog 24 #[.agg #[.bool sl,.slice A N C,.int .i64 xl]] W fun e W'=>(∃ A N C A' N' C',e = .returned (.tuple #[.agg #[.bool sl,.slice A N C,.slice A' N' C'],.int .i64 0])∧Mine W' W.heap.size A N C nl∧Mine W' W.heap.size A' N' C' dl)∧Below W.heap.size W W')) (HRh:Hid (∀ (W:World) (A:Option Addr) (N C:Nat),Num W A N mh→Calls Tryz.prog 24 #[.agg #[.bool sh,.slice A N C,.int .i64 xh]] W fun e W'=>(∃ A N C A' N' C',e = .returned (.tuple #[.agg #[.bool sh,.slice A N C,.slice A' N' C'],.int .i64 0])∧Mine W' W.heap.size A N C nh∧Mine W' W.heap.size A' N' C' dh)∧Below W.heap.size W W')) (HHl:Hid (∀ (W:World) (p:Nat) (A:Option Addr) (N C:Nat),W.heap[p]? = some (.cells #[.int .i64 E,.int .i64 F,.int .u64 b,.int .u8 md,.int .i64 0] 67 (0,0))→Mine W 0 A N C ml→Calls Tryz.prog 25 #[.pointer (some ⟨p,0,none⟩),.agg #[.bool sl,.slice A N C,.int .i64 xl]] W fun e W'=>e = .returned (.bool li)∧Below W.heap.size W W')) (HHh:Hid (∀ (W:World) (p:Nat) (A:Option Addr) (N C:Nat),W.heap[p]? = some (.cells #[.int .i64 E,.int .i64 F,.int .u64 b,.int .u8 md,.int .i64 0] 67 (0,0))→Mine W 0 A N C mh→Calls Tryz.prog 25 #[.pointer (some ⟨p,0,none⟩),.agg #[.bool sh,.slice A N C,.int .i64 xh]] W fun e W'=>e = .returned (.bool hi)∧Below W.heap.size W W')) :
  Calls Tryz.prog 6 #[.agg #[.int .i64 E,.int .i64 F],.int .u64 b,.int .u8 md] w fun en w'=>(∃ A1 N1 C1 A1' N1' C1' A2 N2 C2 A2' N2' C2',en = .returned (.tuple #[.agg #[.bool sl,.slice A1 N1 C1,.slice A1' N1' C1'],.agg #[.bool sh,.slice A2 N2 C2,.slice A2' N2' C2'],.bool li,.bool hi,.int .i64 0])∧Mine w' w.heap.size A1 N1 C1 nl∧Mine w' w.heap.size A1' N1' C1' dl∧Mine w' w.heap.size A2 N2 C2 nh∧Mine w' w.heap.size A2' N2' C2' dh)∧Below w.heap.size w w':=by
 refine calls_sym Tryz.func6 rfl (by kernel_rfl) fun T hK=>?_
 replace hK:Kn T _ [(0,.agg #[.int .i64 E,.int .i64 F]),(1,.int .u64 b),(2,.int .u8 md)]:=hK
 have hS:=Fb.begin w
 have hG:GsAt [] w:=trivial
 refine wq hS hG hK (fun p1=>[.n 3 #[.int .i64 E,.int .i64 F] 23,.n 6 #[.bool false,.slice none 0 0,.slice none 0 0] 29,.n 7 #[.bool false,.slice none 0 0,.slice none 0 0] 29,.v 8 (.bool false),.v 9 (.bool false),.v 10 (.int .i64 0)]) (fun p1=>[(1,.int .u64 b),(2,.int .u8 md),(3,pT (p1 0).N 0),(6,pT (p1 1).N 0),(7,pT (p1 2).N 0),(8,.bool false),(9,.bool false),(10,.int .i64 0)]) (fun p1=>?_) (fun p1 W1 T hF hK=>?_)
 ·iterate 3 refine okn ?_
  iterate 3 refine okv ?_
  exact ok_nil
 replace hS:=SymF.fc hS hF [1000,1001,1002] [⟨(p1 0).N,#[.int .i64 E,.int .i64 F],23,true⟩,⟨(p1 1).N,#[.bool false,.slice none 0 0,.slice none 0 0],29,true⟩,⟨(p1 2).N,#[.bool false,.slice none 0 0,.slice none 0 0],29,true⟩]
 replace hG:=hF.gx
 clear hF
 refine wp_seq ?_
 refine wq hS hG hK (fun p2=>[.l 17 (.agg #[.int .i64 E,.int .i64 F]) 0 0,.v 18 (.int .u64 b),.n 19 #[.int .u64 b] (1000000+24),.c (some 20) (cV (.int .i64 0)),.v 11 (.int .i64 0)]) (fun p2=>[(1,.int .u64 b),(2,.int .u8 md),(3,pT (p1 0).N 0),(6,pT (p1 1).N 0),(7,pT (p1 2).N 0),(8,.bool false),(9,.bool false),(10,.int .i64 0),(11,.int .i64 0)]) (fun p2=>?_) (fun p2 W2 T hF hK=>?_)
 ·refine okl ?_
  refine okv ?_
  refine okn ?_
  refine okc (fun W cx=>as_v (unhide H0 _ _ (cx.F 2 (by kernel_rfl) (by kernel_rfl)))) ?_
  refine okv ?_
  exact ok_nil
 obtain ⟨hS,hG⟩:=SymF.fg hS hF
 clear hF
 refine wq hS hG hK (fun p3=>[.v 21 (.int .i64 0),.v 22 (.bool false)]) (fun p3=>[(1,.int .u64 b),(2,.int .u8 md),(3,pT (p1 0).N 0),(6,pT (p1 1).N 0),(7,pT (p1 2).N 0),(8,.bool false),(9,.bool false),(10,.int .i64 0),(11,.int .i64 0),(22,.bool false)]) (fun p3=>?_) (fun p3 W3 T hF hK=>?_)
 ·iterate 2 refine okv ?_
  exact ok_nil
 obtain ⟨hS,hG⟩:=SymF.fg hS hF
 clear hF
 refine wp_cond_false (hK.ew 22) (wp_skip ?_)
 refine then_n (wp_seq ?_)
 refine wq hS hG hK (fun p4=>[.v 27 (.int .u8 md),.c (some 28) (cV (.tuple #[.string str,.int .i64 0])),.v 26 (.tuple #[.string str,.int .i64 0]),.v 29 (.string str),.v 30 (.int .i64 0),.v 12 (.string str),.v 13 (.int .i64 0)]) (fun p4=>[(1,.int .u64 b),(2,.int .u8 md),(3,pT (p1 0).N 0),(6,pT (p1 1).N 0),(7,pT (p1 2).N 0),(8,.bool false),(9,.bool false),(10,.int .i64 0),(11,.int .i64 0),(13,.int .i64 0)]) (fun p4=>?_) (fun p4 W4 T hF hK=>?_)
 ·refine okv ?_
  refine okc (fun W cx=>as_v (unhide HN _ (hN.kept cx.fr))) ?_
  iterate 5 refine okv ?_
  exact ok_nil
 obtain ⟨hS,hG⟩:=SymF.fg hS hF
 clear hF
 refine wq hS hG hK (fun p5=>[.v 31 (.int .i64 0),.v 32 (.bool false)]) (fun p5=>[(1,.int .u64 b),(2,.int .u8 md),(3,pT (p1 0).N 0),(6,pT (p1 1).N 0),(7,pT (p1 2).N 0),(8,.bool false),(9,.bool false),(10,.int .i64 0),(11,.int .i64 0),(13,.int .i64 0),(32,.bool false)]) (fun p5=>?_) (fun p5 W5 T hF hK=>?_)
 ·iterate 2 refine okv ?_
  exact ok_nil
 obtain ⟨hS,hG⟩:=SymF.fg hS hF
 clear hF
 refine wp_cond_false (hK.ew 32) (wp_skip (then_n ?_))
 refine wq hS hG hK (fun p6=>[.l 36 (.agg #[.int .i64 E,.int .i64 F]) 0 0,.v 37 (.int .u64 b),.v 38 (.int .u8 md),.v 39 (.agg #[.int .i64 E,.int .i64 F,.int .u64 b,.int .u8 md,.int .i64 0]),.n 14 #[.int .i64 0,.int .i64 0,.int .u64 0,.int .u8 0,.int .i64 0] 67,.p 1004 0 [.int .i64 E,.int .i64 F,.int .u64 b,.int .u8 md,.int .i64 0]]) (fun p6=>[(6,pT (p1 1).N 0),(7,pT (p1 2).N 0),(8,.bool false),(9,.bool false),(10,.int .i64 0),(11,.int .i64 0),(13,.int .i64 0),(14,pT (p6 4).N 0)]) (fun p6=>?_) (fun p6 W6 T hF hK=>?_)
 ·refine okl ?_
  iterate 3 refine okv ?_
  refine okn ?_
  refine okp ?_
  exact ok_nil
 replace hS:=SymF.fc hS hF [1,2,1004] [⟨(p1 1).N,#[.bool false,.slice none 0 0,.slice none 0 0],29,true⟩,⟨(p1 2).N,#[.bool false,.slice none 0 0,.slice none 0 0],29,true⟩,⟨(p6 4).N,#[.int .i64 E,.int .i64 F,.int .u64 b,.int .u8 md,.int .i64 0],67,true⟩]
 replace hG:=hF.gx
 clear hF
 refine wq hS hG hK (fun p7=>[.c (some 41) (cH 0 ml mh fun x9 y9=>.tuple #[.agg #[.bool sl,x9,.int .i64 xl],.agg #[.bool sh,y9,.int .i64 xh]]),.v 40 (.tuple #[.agg #[.bool sl,.slice (p7 0).A (p7 0).N (p7 0).C,.int .i64 xl],.agg #[.bool sh,.slice (p7 0).A' (p7 0).N' (p7 0).C',.int .i64 xh]]),.v 42 (.agg #[.bool sl,.slice (p7 0).A (p7 0).N (p7 0).C,.int .i64 xl]),.v 43 (.agg #[.bool sh,.slice (p7 0).A' (p7 0).N' (p7 0).C',.int .i64 xh]),.n 15 #[.bool false,.slice none 0 0,.int .i64 0] 58,.n 16 #[.bool false,.slice none 0 0,.int .i64 0] 58,.p 1004 0 [.bool sl,.slice (p7 0).A (p7 0).N (p7 0).C,.int .i64 xl],.p 1005 0 [.bool sh,.slice (p7 0).A' (p7 0).N' (p7 0).C',.int .i64 xh]]) (fun p7=>[(6,pT (p1 1).N 0),(7,pT (p1 2).N 0),(8,.bool false),(9,.bool false),(10,.int .i64 0),(11,.int .i64 0),(13,.int .i64 0),(14,pT (p6 4).N 0),(15,pT (p7 4).N 0),(16,pT (p7 5).N 0)]) (fun p7=>?_) (fun p7 W7 T hF hK=>?_)
 ·refine okc (fun W cx=>as_h0 (unhide HE _ _ (hT.kept cx.fr) (cx.B 2 _ rfl (by kernel_rfl) (by kernel_rfl)))) ?_
  iterate 3 refine okv ?_
  iterate 2 refine okn ?_
  iterate 2 refine okp ?_
  exact ok_nil
 replace hS:=SymF.fc hS hF [0,1,2,1004,1005] [⟨(p1 1).N,#[.bool false,.slice none 0 0,.slice none 0 0],29,true⟩,⟨(p1 2).N,#[.bool false,.slice none 0 0,.slice none 0 0],29,true⟩,⟨(p6 4).N,#[.int .i64 E,.int .i64 F,.int .u64 b,.int .u8 md,.int .i64 0],67,true⟩,⟨(p7 4).N,#[.bool sl,.slice (p7 0).A (p7 0).N (p7 0).C,.int .i64 xl],58,true⟩,⟨(p7 5).N,#[.bool sh,.slice (p7 0).A' (p7 0).N' (p7 0).C',.int .i64 xh],58,true⟩]
 replace hG:GsAt (gM 0 (p7 0).A (p7 0).N (p7 0).C ml :: gM 0 (p7 0).A' (p7 0).N' (p7 0).C' mh :: _) W7:=⟨And.left (hF.fx 0),And.right (hF.fx 0),hF.gx⟩
 clear hF
 have z7:=hS.fr.size
 refine wq hS hG hK (fun p8=>[.v 44 (pT (p6 4).N 4),.l 45 (.agg #[.bool sl,.slice (p7 0).A (p7 0).N (p7 0).C,.int .i64 xl]) 3 0,.c (some 46) (cH W7.heap.size nl dl fun x9 y9=>.tuple #[.agg #[.bool sl,x9,y9],.int .i64 0]),.v 47 (.agg #[.bool sl,.slice (p8 2).A (p8 2).N (p8 2).C,.slice (p8 2).A' (p8 2).N' (p8 2).C']),.v 48 (.int .i64 0),.u 49 (.agg #[.bool sl,.slice (p8 2).A (p8 2).N (p8 2).C,.slice (p8 2).A' (p8 2).N' (p8 2).C']) (aG 1),.v 50 (pT (p6 4).N 4),.l 51 (.agg #[.bool sh,.slice (p7 0).A' (p7 0).N' (p7 0).C',.int .i64 xh]) 4 0,.c (some 52) (cH W7.heap.size nh dh fun x9 y9=>.tuple #[.agg #[.bool sh,x9,y9],.int .i64 0]),.v 53 (.agg #[.bool sh,.slice (p8 8).A (p8 8).N (p8 8).C,.slice (p8 8).A' (p8 8).N' (p8 8).C']),.v 54 (.int .i64 0),.u 55 (.agg #[.bool sh,.slice (p8 8).A (p8 8).N (p8 8).C,.slice (p8 8).A' (p8 8).N' (p8 8).C']) (aG 1),.p 0 0 [.bool sl,.slice (p8 2).A (p8 2).N (p8 2).C,.slice (p8 2).A' (p8 2).N' (p8 2).C'],.p 1 0 [.bool sh,.slice (p8 8).A (p8 8).N (p8 8).C,.slice (p8 8).A' (p8 8).N' (p8 8).C']]) (fun p8=>[(6,pT (p1 1).N 0),(7,pT (p1 2).N 0),(8,.bool false),(9,.bool false),(10,.int .i64 0),(11,.int .i64 0),(13,.int .i64 0),(14,pT (p6 4).N 0),(15,pT (p7 4).N 0),(16,pT (p7 5).N 0)]) (fun p8=>?_) (fun p8 W8 T hF hK=>?_)
 ·refine okv ?_
  refine okl ?_
  refine okc (fun W cx=>as_h cx.hb (unhide HRl _ _ _ (p7 0).C (Mine.num cx.G.1))) ?_
  iterate 2 refine okv ?_
  refine oku (fun W cx=>runRatio_g _ 4 0 0 (fun _=>rfl) _ _ _ _ _ _ _ _ ⟨_,_,cx.B 2 _ rfl (by kernel_rfl) (by kernel_rfl),rfl⟩) ?_
  refine okv ?_
  refine okl ?_
  refine okc (fun W cx=>as_h cx.hb (unhide HRh _ _ _ (p7 0).C' (Mine.num cx.G.2.1))) ?_
  iterate 2 refine okv ?_
  refine oku (fun W cx=>runRatio_g _ 4 0 0 (fun _=>rfl) _ _ _ _ _ _ _ _ ⟨_,_,cx.B 2 _ rfl (by kernel_rfl) (by kernel_rfl),rfl⟩) ?_
  iterate 2 refine okp ?_
  exact ok_nil
 replace hS:=SymF.fc hS hF [0,1,2,3,4] [⟨(p1 1).N,#[.bool sl,.slice (p8 2).A (p8 2).N (p8 2).C,.slice (p8 2).A' (p8 2).N' (p8 2).C'],29,true⟩,⟨(p1 2).N,#[.bool sh,.slice (p8 8).A (p8 8).N (p8 8).C,.slice (p8 8).A' (p8 8).N' (p8 8).C'],29,true⟩,⟨(p6 4).N,#[.int .i64 E,.int .i64 F,.int .u64 b,.int .u8 md,.int .i64 0],67,true⟩,⟨(p7 4).N,#[.bool sl,.slice (p7 0).A (p7 0).N (p7 0).C,.int .i64 xl],58,true⟩,⟨(p7 5).N,#[.bool sh,.slice (p7 0).A' (p7 0).N' (p7 0).C',.int .i64 xh],58,true⟩]
 replace hG:GsAt (gM W7.heap.size (p8 2).A (p8 2).N (p8 2).C nl :: gM W7.heap.size (p8 2).A' (p8 2).N' (p8 2).C' dl :: gM W7.heap.size (p8 8).A (p8 8).N (p8 8).C nh :: gM W7.heap.size (p8 8).A' (p8 8).N' (p8 8).C' dh :: _) W8:=⟨And.left (hF.fx 2),And.right (hF.fx 2),And.left (hF.fx 8),And.right (hF.fx 8),hF.gx⟩
 clear hF
 refine wq hS hG hK (fun p9=>[.l 56 (.agg #[.bool sl,.slice (p7 0).A (p7 0).N (p7 0).C,.int .i64 xl]) 3 0,.c (some 57) (cV (.bool li)),.l 58 (.agg #[.bool sh,.slice (p7 0).A' (p7 0).N' (p7 0).C',.int .i64 xh]) 4 0,.c (some 59) (cV (.bool hi)),.v 8 (.bool li),.v 9 (.bool hi)]) (fun p9=>[(6,pT (p1 1).N 0),(7,pT (p1 2).N 0),(8,.bool li),(9,.bool hi),(10,.int .i64 0),(11,.int .i64 0),(13,.int .i64 0),(14,pT (p6 4).N 0)]) (fun p9=>?_) (fun p9 W9 T hF hK=>?_)
 ·refine okl ?_
  refine okc (fun W cx=>as_v (unhide HHl _ _ _ _ (p7 0).C (cx.B 2 _ rfl (by kernel_rfl) (by kernel_rfl)) (Mine.mono (cx.G.2.2.2.2.1) (Nat.zero_le _)))) ?_
  refine okl ?_
  refine okc (fun W cx=>as_v (unhide HHh _ _ _ _ (p7 0).C' (cx.B 2 _ rfl (by kernel_rfl) (by kernel_rfl)) (Mine.mono (cx.G.2.2.2.2.2.1) (Nat.zero_le _)))) ?_
  iterate 2 refine okv ?_
  exact ok_nil
 obtain ⟨hS,hG⟩:=SymF.fg hS hF
 clear hF
 refine wp_seq ?_
 refine wq hS hG hK (fun p10=>[.v 60 (pT (p6 4).N 4),.v 61 (pT (p6 4).N 4),.l 62 (.int .i64 0) 2 4,.v 63 (.bool false)]) (fun p10=>[(6,pT (p1 1).N 0),(7,pT (p1 2).N 0),(8,.bool li),(9,.bool hi),(10,.int .i64 0),(11,.int .i64 0),(13,.int .i64 0),(14,pT (p6 4).N 0),(63,.bool false)]) (fun p10=>?_) (fun p10 W10 T hF hK=>?_)
 ·iterate 2 refine okv ?_
  refine okl ?_
  refine okv ?_
  exact ok_nil
 obtain ⟨hS,hG⟩:=SymF.fg hS hF
 clear hF
 refine wp_cond_false (hK.ew 63) (wp_skip (then_n ?_))
 refine wq hS hG hK (fun p11=>[.l 69 (.agg #[.bool sl,.slice (p8 2).A (p8 2).N (p8 2).C,.slice (p8 2).A' (p8 2).N' (p8 2).C']) 0 0,.l 70 (.agg #[.bool sh,.slice (p8 8).A (p8 8).N (p8 8).C,.slice (p8 8).A' (p8 8).N' (p8 8).C']) 1 0,.v 71 (.bool li),.v 72 (.bool hi),.p 0 0 [.bool sl,.slice (p8 2).A (p8 2).N (p8 2).C,.slice (p8 2).A' (p8 2).N' (p8 2).C'],.p 1 0 [.bool sh,.slice (p8 8).A (p8 8).N (p8 8).C,.slice (p8 8).A' (p8 8).N' (p8 8).C'],.v 8 (.bool li),.v 9 (.bool hi),.v 10 (.int .i64 0)]) (fun p11=>[(6,pT (p1 1).N 0),(7,pT (p1 2).N 0),(8,.bool li),(9,.bool hi),(10,.int .i64 0),(11,.int .i64 0),(13,.int .i64 0),(14,pT (p6 4).N 0)]) (fun p11=>?_) (fun p11 W11 T hF hK=>?_)
 ·iterate 2 refine okl ?_
  iterate 2 refine okv ?_
  iterate 2 refine okp ?_
  iterate 3 refine okv ?_
  exact ok_nil
 replace hS:=SymF.fc hS hF [0,1,2] [⟨(p1 1).N,#[.bool sl,.slice (p8 2).A (p8 2).N (p8 2).C,.slice (p8 2).A' (p8 2).N' (p8 2).C'],29,true⟩,⟨(p1 2).N,#[.bool sh,.slice (p8 8).A (p8 8).N (p8 8).C,.slice (p8 8).A' (p8 8).N' (p8 8).C'],29,true⟩,⟨(p6 4).N,#[.int .i64 E,.int .i64 F,.int .u64 b,.int .u8 md,.int .i64 0],67,true⟩]
 replace hG:=hF.gx
 clear hF
 refine wp_ret ?_
 exact sym_end hS hK (.tuple #[.agg #[.bool sl,.slice (p8 2).A (p8 2).N (p8 2).C,.slice (p8 2).A' (p8 2).N' (p8 2).C'],.agg #[.bool sh,.slice (p8 8).A (p8 8).N (p8 8).C,.slice (p8 8).A' (p8 8).N' (p8 8).C'],.bool li,.bool hi,.int .i64 0]) [(0,0,3),(1,0,3)] [.bool sl,.slice (p8 2).A (p8 2).N (p8 2).C,.slice (p8 2).A' (p8 2).N' (p8 2).C',.bool sh,.slice (p8 8).A (p8 8).N (p8 8).C,.slice (p8 8).A' (p8 8).N' (p8 8).C'] (by kernel_rfl) (by kernel_rfl) ⟨⟨_,_,_,_,_,_,_,_,_,_,_,_,rfl,Mine.mono hG.1 z7,Mine.mono hG.2.1 z7,Mine.mono hG.2.2.1 z7,Mine.mono hG.2.2.2.1 z7⟩,hS.fr⟩
theorem rrea_x (w:World) (E F b md:Int) (str:ByteArray) (sl:Bool) (ml:Nat) (xl:Int) (sh:Bool) (mh:Nat) (xh:Int) (nl dl nh dh:Nat) (li hi:Bool) (hT:Tb w) (hN:Nb5 w) (H0:Hid (∀ (W:World) (q:Nat),W.heap[q]? = some (.cells #[.int .u64 b] 24 (0,0))→Calls Tryz.prog 20 #[.agg #[.int .i64 E,.int .i64 F],.slice (some ⟨q,0,none⟩) 1 1] W fun e W'=>e = .returned (.int .i64 0)∧Below W.heap.size W W')) (HN:Hid (∀ W:World,Nb5 W→Calls Tryz.prog 21 #[.int .u8 md] W fun e W'=>e = .returned (.tuple #[.string str,.int .i64 0])∧Below W.heap.size W W')) (HE:Hid (∀ (W:World) (p:Nat),Tb W→W.heap[p]? = some (.cells #[.int .i64 E,.int .i64 F,.int .u64 b,.int .u8 md,.int .i64 0] 67 (0,0))→Calls Tryz.prog 22 #[.pointer (some ⟨p,0,none⟩)] W fun e W'=>(∃ A N C A' N' C',e = .returned (.tuple #[.agg #[.bool sl,.slice A N C,.int .i64 xl],.agg #[.bool sh,.slice A' N' C',.int .i64 xh]])∧Mine W' 0 A N C ml∧Mine W' 0 A' N' C' mh)∧Below W.heap.size (evs (sts p 4 [.int .i64 8]) W) W')) (HRl:Hid (∀ (W:World) (A:Option Addr) (N C:Nat),Num W A N ml→Calls Tryz.prog 24 #[.agg #[.bool sl,.slice A N C,.int .i64 xl]] W fun e W'=>(∃ A N C A' N' C',e = .returned (.tuple #[.agg #[.bool sl,.slice A N C,.slice A' N' C'],.int .i64 0])∧Mine W' W.heap.size A N C nl∧Mine W' W.heap.size A' N' C' dl)∧Below W.heap.size W W')) (HRh:Hid (∀ (W:World) (A:Option Addr) (N C:Nat),Num W A N mh→Calls Tryz.prog 24 #[.agg #[.bool sh,.slice A N C,.int .i64 xh]] W fun e W'=>(∃ A N C A' N' C',e = .returned (.tuple #[.agg #[.bool sh,.slice A N C,.slice A' N' C'],.int .i64 0])∧Mine W' W.heap.size A N C nh∧Mine W' W.heap.size A' N' C' dh)∧Below W.heap.size W W')) (HHl:Hid (∀ (W:World) (p:Nat) (A:Option Addr) (N C:Nat),W.heap[p]? = some (.cells #[.int .i64 E,.int .i64 F,.int .u64 b,.int .u8 md,.int .i64 8] 67 (0,0))→Mine W 0 A N C ml→Calls Tryz.prog 25 #[.pointer (some ⟨p,0,none⟩),.agg #[.bool sl,.slice A N C,.int .i64 xl]] W fun e W'=>e = .returned (.bool li)∧Below W.heap.size W W')) (HHh:Hid (∀ (W:World) (p:Nat) (A:Option Addr) (N C:Nat),W.heap[p]? = some (.cells #[.int .i64 E,.int .i64 F,.int .u64 b,.int .u8 md,.int .i64 8] 67 (0,0))→Mine W 0 A N C mh→Calls Tryz.prog 25 #[.pointer (some ⟨p,0,none⟩),.agg #[.bool sh,.slice A N C,.int .i64 xh]] W fun e W'=>e = .returned (.bool hi)∧Below W.heap.size W W')) :
  Calls Tryz.prog 6 #[.agg #[.int .i64 E,.int .i64 F],.int .u64 b,.int .u8 md] w fun en w'=>en = .returned (.tuple #[.agg #[.bool false,.slice none 0 0,.slice none 0 0],.agg #[.bool false,.slice none 0 0,.slice none 0 0],.bool false,.bool false,.int .i64 8])∧Below w.heap.size w w':=by
 refine calls_sym Tryz.func6 rfl (by kernel_rfl) fun T hK=>?_
 replace hK:Kn T _ [(0,.agg #[.int .i64 E,.int .i64 F]),(1,.int .u64 b),(2,.int .u8 md)]:=hK
 have hS:=Fb.begin w
 have hG:GsAt [] w:=trivial
 refine wq hS hG hK (fun p1=>[.n 3 #[.int .i64 E,.int .i64 F] 23,.n 6 #[.bool false,.slice none 0 0,.slice none 0 0] 29,.n 7 #[.bool false,.slice none 0 0,.slice none 0 0] 29,.v 8 (.bool false),.v 9 (.bool false),.v 10 (.int .i64 0)]) (fun p1=>[(1,.int .u64 b),(2,.int .u8 md),(3,pT (p1 0).N 0),(6,pT (p1 1).N 0),(7,pT (p1 2).N 0),(8,.bool false),(9,.bool false),(10,.int .i64 0)]) (fun p1=>?_) (fun p1 W1 T hF hK=>?_)
 ·iterate 3 refine okn ?_
  iterate 3 refine okv ?_
  exact ok_nil
 replace hS:=SymF.fc hS hF [1000,1001,1002] [⟨(p1 0).N,#[.int .i64 E,.int .i64 F],23,true⟩,⟨(p1 1).N,#[.bool false,.slice none 0 0,.slice none 0 0],29,true⟩,⟨(p1 2).N,#[.bool false,.slice none 0 0,.slice none 0 0],29,true⟩]
 replace hG:=hF.gx
 clear hF
 refine wp_seq ?_
 refine wq hS hG hK (fun p2=>[.l 17 (.agg #[.int .i64 E,.int .i64 F]) 0 0,.v 18 (.int .u64 b),.n 19 #[.int .u64 b] (1000000+24),.c (some 20) (cV (.int .i64 0)),.v 11 (.int .i64 0)]) (fun p2=>[(1,.int .u64 b),(2,.int .u8 md),(3,pT (p1 0).N 0),(6,pT (p1 1).N 0),(7,pT (p1 2).N 0),(8,.bool false),(9,.bool false),(10,.int .i64 0),(11,.int .i64 0)]) (fun p2=>?_) (fun p2 W2 T hF hK=>?_)
 ·refine okl ?_
  refine okv ?_
  refine okn ?_
  refine okc (fun W cx=>as_v (unhide H0 _ _ (cx.F 2 (by kernel_rfl) (by kernel_rfl)))) ?_
  refine okv ?_
  exact ok_nil
 obtain ⟨hS,hG⟩:=SymF.fg hS hF
 clear hF
 refine wq hS hG hK (fun p3=>[.v 21 (.int .i64 0),.v 22 (.bool false)]) (fun p3=>[(1,.int .u64 b),(2,.int .u8 md),(3,pT (p1 0).N 0),(6,pT (p1 1).N 0),(7,pT (p1 2).N 0),(8,.bool false),(9,.bool false),(10,.int .i64 0),(11,.int .i64 0),(22,.bool false)]) (fun p3=>?_) (fun p3 W3 T hF hK=>?_)
 ·iterate 2 refine okv ?_
  exact ok_nil
 obtain ⟨hS,hG⟩:=SymF.fg hS hF
 clear hF
 refine wp_cond_false (hK.ew 22) (wp_skip ?_)
 refine then_n (wp_seq ?_)
 refine wq hS hG hK (fun p4=>[.v 27 (.int .u8 md),.c (some 28) (cV (.tuple #[.string str,.int .i64 0])),.v 26 (.tuple #[.string str,.int .i64 0]),.v 29 (.string str),.v 30 (.int .i64 0),.v 12 (.string str),.v 13 (.int .i64 0)]) (fun p4=>[(1,.int .u64 b),(2,.int .u8 md),(3,pT (p1 0).N 0),(6,pT (p1 1).N 0),(7,pT (p1 2).N 0),(8,.bool false),(9,.bool false),(10,.int .i64 0),(11,.int .i64 0),(13,.int .i64 0)]) (fun p4=>?_) (fun p4 W4 T hF hK=>?_)
 ·refine okv ?_
  refine okc (fun W cx=>as_v (unhide HN _ (hN.kept cx.fr))) ?_
  iterate 5 refine okv ?_
  exact ok_nil
 obtain ⟨hS,hG⟩:=SymF.fg hS hF
 clear hF
 refine wq hS hG hK (fun p5=>[.v 31 (.int .i64 0),.v 32 (.bool false)]) (fun p5=>[(1,.int .u64 b),(2,.int .u8 md),(3,pT (p1 0).N 0),(6,pT (p1 1).N 0),(7,pT (p1 2).N 0),(8,.bool false),(9,.bool false),(10,.int .i64 0),(11,.int .i64 0),(13,.int .i64 0),(32,.bool false)]) (fun p5=>?_) (fun p5 W5 T hF hK=>?_)
 ·iterate 2 refine okv ?_
  exact ok_nil
 obtain ⟨hS,hG⟩:=SymF.fg hS hF
 clear hF
 refine wp_cond_false (hK.ew 32) (wp_skip (then_n ?_))
 refine wq hS hG hK (fun p6=>[.l 36 (.agg #[.int .i64 E,.int .i64 F]) 0 0,.v 37 (.int .u64 b),.v 38 (.int .u8 md),.v 39 (.agg #[.int .i64 E,.int .i64 F,.int .u64 b,.int .u8 md,.int .i64 0]),.n 14 #[.int .i64 0,.int .i64 0,.int .u64 0,.int .u8 0,.int .i64 0] 67,.p 1004 0 [.int .i64 E,.int .i64 F,.int .u64 b,.int .u8 md,.int .i64 0]]) (fun p6=>[(6,pT (p1 1).N 0),(7,pT (p1 2).N 0),(8,.bool false),(9,.bool false),(10,.int .i64 0),(11,.int .i64 0),(13,.int .i64 0),(14,pT (p6 4).N 0)]) (fun p6=>?_) (fun p6 W6 T hF hK=>?_)
 ·refine okl ?_
  iterate 3 refine okv ?_
  refine okn ?_
  refine okp ?_
  exact ok_nil
 replace hS:=SymF.fc hS hF [1,2,1004] [⟨(p1 1).N,#[.bool false,.slice none 0 0,.slice none 0 0],29,true⟩,⟨(p1 2).N,#[.bool false,.slice none 0 0,.slice none 0 0],29,true⟩,⟨(p6 4).N,#[.int .i64 E,.int .i64 F,.int .u64 b,.int .u8 md,.int .i64 0],67,true⟩]
 replace hG:=hF.gx
 clear hF
 refine wq hS hG hK (fun p7=>[.w (some 41) 2 4 [.int .i64 8] (fun _=>[.int .i64 8]) (cH 0 ml mh fun x9 y9=>.tuple #[.agg #[.bool sl,x9,.int .i64 xl],.agg #[.bool sh,y9,.int .i64 xh]]),.v 40 (.tuple #[.agg #[.bool sl,.slice (p7 0).A (p7 0).N (p7 0).C,.int .i64 xl],.agg #[.bool sh,.slice (p7 0).A' (p7 0).N' (p7 0).C',.int .i64 xh]]),.v 42 (.agg #[.bool sl,.slice (p7 0).A (p7 0).N (p7 0).C,.int .i64 xl]),.v 43 (.agg #[.bool sh,.slice (p7 0).A' (p7 0).N' (p7 0).C',.int .i64 xh]),.n 15 #[.bool false,.slice none 0 0,.int .i64 0] 58,.n 16 #[.bool false,.slice none 0 0,.int .i64 0] 58,.p 1004 0 [.bool sl,.slice (p7 0).A (p7 0).N (p7 0).C,.int .i64 xl],.p 1005 0 [.bool sh,.slice (p7 0).A' (p7 0).N' (p7 0).C',.int .i64 xh]]) (fun p7=>[(6,pT (p1 1).N 0),(7,pT (p1 2).N 0),(8,.bool false),(9,.bool false),(10,.int .i64 0),(11,.int .i64 0),(13,.int .i64 0),(14,pT (p6 4).N 0),(15,pT (p7 4).N 0),(16,pT (p7 5).N 0)]) (fun p7=>?_) (fun p7 W7 T hF hK=>?_)
 ·refine ok_W (p6 4).N #[.int .i64 E,.int .i64 F,.int .u64 b,.int .u8 md,.int .i64 0] 67 (fun W cx hW=>as_wH (unhide HE _ _ (hT.kept cx.fr) hW)) (by kernel_rfl) (by kernel_rfl) (by kernel_rfl) (by kernel_rfl) (by kernel_rfl) rfl (by kernel_rfl) ?_
  iterate 3 refine okv ?_
  iterate 2 refine okn ?_
  iterate 2 refine okp ?_
  exact ok_nil
 replace hS:=SymF.fc hS hF [0,1,2,1004,1005] [⟨(p1 1).N,#[.bool false,.slice none 0 0,.slice none 0 0],29,true⟩,⟨(p1 2).N,#[.bool false,.slice none 0 0,.slice none 0 0],29,true⟩,⟨(p6 4).N,#[.int .i64 E,.int .i64 F,.int .u64 b,.int .u8 md,.int .i64 8],67,true⟩,⟨(p7 4).N,#[.bool sl,.slice (p7 0).A (p7 0).N (p7 0).C,.int .i64 xl],58,true⟩,⟨(p7 5).N,#[.bool sh,.slice (p7 0).A' (p7 0).N' (p7 0).C',.int .i64 xh],58,true⟩]
 replace hG:GsAt (gM 0 (p7 0).A (p7 0).N (p7 0).C ml :: gM 0 (p7 0).A' (p7 0).N' (p7 0).C' mh :: _) W7:=⟨And.left (hF.fx 0),And.right (hF.fx 0),hF.gx⟩
 clear hF
 refine wq hS hG hK (fun p8=>[.v 44 (pT (p6 4).N 4),.l 45 (.agg #[.bool sl,.slice (p7 0).A (p7 0).N (p7 0).C,.int .i64 xl]) 3 0,.c (some 46) (cH W7.heap.size nl dl fun x9 y9=>.tuple #[.agg #[.bool sl,x9,y9],.int .i64 0]),.v 47 (.agg #[.bool sl,.slice (p8 2).A (p8 2).N (p8 2).C,.slice (p8 2).A' (p8 2).N' (p8 2).C']),.v 48 (.int .i64 0),.u 49 (.agg #[.bool sl,.slice (p8 2).A (p8 2).N (p8 2).C,.slice (p8 2).A' (p8 2).N' (p8 2).C']) (aG 1),.v 50 (pT (p6 4).N 4),.l 51 (.agg #[.bool sh,.slice (p7 0).A' (p7 0).N' (p7 0).C',.int .i64 xh]) 4 0,.c (some 52) (cH W7.heap.size nh dh fun x9 y9=>.tuple #[.agg #[.bool sh,x9,y9],.int .i64 0]),.v 53 (.agg #[.bool sh,.slice (p8 8).A (p8 8).N (p8 8).C,.slice (p8 8).A' (p8 8).N' (p8 8).C']),.v 54 (.int .i64 0),.u 55 (.agg #[.bool sh,.slice (p8 8).A (p8 8).N (p8 8).C,.slice (p8 8).A' (p8 8).N' (p8 8).C']) (aG 1),.p 0 0 [.bool sl,.slice (p8 2).A (p8 2).N (p8 2).C,.slice (p8 2).A' (p8 2).N' (p8 2).C'],.p 1 0 [.bool sh,.slice (p8 8).A (p8 8).N (p8 8).C,.slice (p8 8).A' (p8 8).N' (p8 8).C']]) (fun p8=>[(6,pT (p1 1).N 0),(7,pT (p1 2).N 0),(8,.bool false),(9,.bool false),(10,.int .i64 0),(11,.int .i64 0),(13,.int .i64 0),(14,pT (p6 4).N 0),(15,pT (p7 4).N 0),(16,pT (p7 5).N 0)]) (fun p8=>?_) (fun p8 W8 T hF hK=>?_)
 ·refine okv ?_
  refine okl ?_
  refine okc (fun W cx=>as_h cx.hb (unhide HRl _ _ _ (p7 0).C (Mine.num cx.G.1))) ?_
  iterate 2 refine okv ?_
  refine oku (fun W cx=>runRatio_g _ 4 8 0 (fun e=>absurd e (by decide)) _ _ _ _ _ _ _ _ ⟨_,_,cx.B 2 _ rfl (by kernel_rfl) (by kernel_rfl),rfl⟩) ?_
  refine okv ?_
  refine okl ?_
  refine okc (fun W cx=>as_h cx.hb (unhide HRh _ _ _ (p7 0).C' (Mine.num cx.G.2.1))) ?_
  iterate 2 refine okv ?_
  refine oku (fun W cx=>runRatio_g _ 4 8 0 (fun e=>absurd e (by decide)) _ _ _ _ _ _ _ _ ⟨_,_,cx.B 2 _ rfl (by kernel_rfl) (by kernel_rfl),rfl⟩) ?_
  iterate 2 refine okp ?_
  exact ok_nil
 replace hS:=SymF.fc hS hF [0,1,2,3,4] [⟨(p1 1).N,#[.bool sl,.slice (p8 2).A (p8 2).N (p8 2).C,.slice (p8 2).A' (p8 2).N' (p8 2).C'],29,true⟩,⟨(p1 2).N,#[.bool sh,.slice (p8 8).A (p8 8).N (p8 8).C,.slice (p8 8).A' (p8 8).N' (p8 8).C'],29,true⟩,⟨(p6 4).N,#[.int .i64 E,.int .i64 F,.int .u64 b,.int .u8 md,.int .i64 8],67,true⟩,⟨(p7 4).N,#[.bool sl,.slice (p7 0).A (p7 0).N (p7 0).C,.int .i64 xl],58,true⟩,⟨(p7 5).N,#[.bool sh,.slice (p7 0).A' (p7 0).N' (p7 0).C',.int .i64 xh],58,true⟩]
 replace hG:GsAt (gM W7.heap.size (p8 2).A (p8 2).N (p8 2).C nl :: gM W7.heap.size (p8 2).A' (p8 2).N' (p8 2).C' dl :: gM W7.heap.size (p8 8).A (p8 8).N (p8 8).C nh :: gM W7.heap.size (p8 8).A' (p8 8).N' (p8 8).C' dh :: _) W8:=⟨And.left (hF.fx 2),And.right (hF.fx 2),And.left (hF.fx 8),And.right (hF.fx 8),hF.gx⟩
 clear hF
 refine wq hS hG hK (fun p9=>[.l 56 (.agg #[.bool sl,.slice (p7 0).A (p7 0).N (p7 0).C,.int .i64 xl]) 3 0,.c (some 57) (cV (.bool li)),.l 58 (.agg #[.bool sh,.slice (p7 0).A' (p7 0).N' (p7 0).C',.int .i64 xh]) 4 0,.c (some 59) (cV (.bool hi)),.v 8 (.bool li),.v 9 (.bool hi)]) (fun p9=>[(6,pT (p1 1).N 0),(7,pT (p1 2).N 0),(8,.bool li),(9,.bool hi),(10,.int .i64 0),(11,.int .i64 0),(13,.int .i64 0),(14,pT (p6 4).N 0)]) (fun p9=>?_) (fun p9 W9 T hF hK=>?_)
 ·refine okl ?_
  refine okc (fun W cx=>as_v (unhide HHl _ _ _ _ (p7 0).C (cx.B 2 _ rfl (by kernel_rfl) (by kernel_rfl)) (Mine.mono (cx.G.2.2.2.2.1) (Nat.zero_le _)))) ?_
  refine okl ?_
  refine okc (fun W cx=>as_v (unhide HHh _ _ _ _ (p7 0).C' (cx.B 2 _ rfl (by kernel_rfl) (by kernel_rfl)) (Mine.mono (cx.G.2.2.2.2.2.1) (Nat.zero_le _)))) ?_
  iterate 2 refine okv ?_
  exact ok_nil
 obtain ⟨hS,hG⟩:=SymF.fg hS hF
 clear hF
 refine wp_seq ?_
 refine wq hS hG hK (fun p10=>[.v 60 (pT (p6 4).N 4),.v 61 (pT (p6 4).N 4),.l 62 (.int .i64 8) 2 4,.v 63 (.bool true)]) (fun p10=>[(6,pT (p1 1).N 0),(7,pT (p1 2).N 0),(8,.bool li),(9,.bool hi),(10,.int .i64 0),(11,.int .i64 0),(13,.int .i64 0),(14,pT (p6 4).N 0),(63,.bool true)]) (fun p10=>?_) (fun p10 W10 T hF hK=>?_)
 ·iterate 2 refine okv ?_
  refine okl ?_
  refine okv ?_
  exact ok_nil
 obtain ⟨hS,hG⟩:=SymF.fg hS hF
 clear hF
 refine wp_cond_true (hK.ew 63) ?_
 refine wq hS hG hK (fun p11=>[.v 64 (.agg #[.bool false,.slice none 0 0,.slice none 0 0]),.v 65 (.agg #[.bool false,.slice none 0 0,.slice none 0 0]),.v 66 (pT (p6 4).N 4),.v 67 (pT (p6 4).N 4),.l 68 (.int .i64 8) 2 4,.p 0 0 [.bool false,.slice none 0 0,.slice none 0 0],.p 1 0 [.bool false,.slice none 0 0,.slice none 0 0],.v 8 (.bool false),.v 9 (.bool false),.v 10 (.int .i64 8)]) (fun p11=>[(6,pT (p1 1).N 0),(7,pT (p1 2).N 0),(8,.bool false),(9,.bool false),(10,.int .i64 8),(11,.int .i64 0),(13,.int .i64 0)]) (fun p11=>?_) (fun p11 W11 T hF hK=>?_)
 ·iterate 4 refine okv ?_
  refine okl ?_
  iterate 2 refine okp ?_
  iterate 3 refine okv ?_
  exact ok_nil
 replace hS:=SymF.fc hS hF [0,1] [⟨(p1 1).N,#[.bool false,.slice none 0 0,.slice none 0 0],29,true⟩,⟨(p1 2).N,#[.bool false,.slice none 0 0,.slice none 0 0],29,true⟩]
 replace hG:=hF.gx
 clear hF
 refine wp_ret ?_
 refine then_r ?_
 exact sym_end hS hK (.tuple #[.agg #[.bool false,.slice none 0 0,.slice none 0 0],.agg #[.bool false,.slice none 0 0,.slice none 0 0],.bool false,.bool false,.int .i64 8]) [(0,0,3),(1,0,3)] [.bool false,.slice none 0 0,.slice none 0 0,.bool false,.slice none 0 0,.slice none 0 0] (by kernel_rfl) (by kernel_rfl) ⟨rfl,hS.fr⟩
def Bord (md:Nat) (s:Bool) (m:Nat) (x:Int) (s':Bool) (m':Nat) (x':Int) (r:Bool) (v:Nat) (y:Int):Prop:=
 (md≤1∧∃ r1 v1 y1,SumsM s m x s' m' x' 0 r1 v1 y1∧ProdsM r1 v1 y1 false 1 (-1) 0 r v y)∨((md = 4∨(md = 2∧s = false))∧r = s'∧v = m'∧y = x')∨((md = 3∨(md = 2∧s = true))∧r = s∧v = m∧y = x)
theorem border_is (E F b er:Int) (md p:Nat) (s:Bool) (a:Option Addr) (n c m:Nat) (x:Int) (s':Bool) (a':Option Addr) (n' c' m':Nat) (x':Int) (r:Bool) (v:Nat) (y:Int) (w:World)
  (h:Mine w 0 a n c m) (h':Mine w 0 a' n' c' m') (hT:Tb w) (hp:w.heap[p]? = some (.cells #[.int .i64 E,.int .i64 F,.int .u64 b,.int .u8 (md:Int),.int .i64 er] 67 (0,0))) (HK:Mk1 false (-1)) (hd:Bord md s m x s' m' x' r v y) :
  Calls Tryz.prog 57 #[.pointer (some ⟨p,0,none⟩),.agg #[.bool s,.slice a n c,.int .i64 x],.agg #[.bool s',.slice a' n' c',.int .i64 x']] w fun e w'=>(∃ A N C,e = .returned (.agg #[.bool r,.slice A N C,.int .i64 y])∧Mine w' 0 A N C v)∧Below w.heap.size w w':=by
 rcases hd with ⟨h1,r1,v1,y1,HS,HP⟩|⟨h1,rfl,rfl,rfl⟩|⟨h1,rfl,rfl,rfl⟩
 ·rcases (show md = 0∨md = 1 by omega) with rfl|rfl
  ·exact rbor_m0 w E F b er p s a n c m x s' a' n' c' m' x' r v y h.num h'.num hT hp (hide fun W A N C A' N' C' hT hp g1 g2=>rmid_is W E F b _ er p s A N C m x s' A' N' C' m' x' r1 v1 y1 r v y g1 g2 hT hp (hide HK) (hide HS) (hide HP))
  ·exact rbor_m1 w E F b er p s a n c m x s' a' n' c' m' x' r v y h.num h'.num hT hp (hide fun W A N C A' N' C' hT hp g1 g2=>rmid_is W E F b _ er p s A N C m x s' A' N' C' m' x' r1 v1 y1 r v y g1 g2 hT hp (hide HK) (hide HS) (hide HP))
 ·have key:Calls Tryz.prog 57 #[.pointer (some ⟨p,0,none⟩),.agg #[.bool s,.slice a n c,.int .i64 x],.agg #[.bool r,.slice a' n' c',.int .i64 y]] w fun e w'=>e = .returned (.agg #[.bool r,.slice a' n' c',.int .i64 y])∧Below w.heap.size w w':=by
   rcases h1 with rfl|⟨rfl,rfl⟩
   ·exact rbor_u4 w E F b er p s a n c x r a' n' c' y hp
   ·exact rbor_u2f w E F b er p a n c x r a' n' c' y hp
  exact key.mono fun e w' ⟨h1,h2⟩=>⟨⟨a',n',c',h1,h'.kept h2⟩,h2⟩
 ·have key:Calls Tryz.prog 57 #[.pointer (some ⟨p,0,none⟩),.agg #[.bool r,.slice a n c,.int .i64 y],.agg #[.bool s',.slice a' n' c',.int .i64 x']] w fun e w'=>e = .returned (.agg #[.bool r,.slice a n c,.int .i64 y])∧Below w.heap.size w w':=by
   rcases h1 with rfl|⟨rfl,rfl⟩
   ·exact rbor_l3 w E F b er p r a n c y s' a' n' c' x' hp
   ·exact rbor_l2t w E F b er p a n c y s' a' n' c' x' hp
  exact key.mono fun e w' ⟨h1,h2⟩=>⟨⟨a,n,c,h1,h.kept h2⟩,h2⟩
end Go.Proofs.YtaidedkpfnidpaaGreatDoor
