/- Of what DigitsNamesRow stands on: RReg0 RdMode SNat NrCall NrFin TnWhole SRdC SMono2 RsMath RsWorth. -/
import Derived.Test.YtplihgoapiiigaaGreatDoorPaz
import Derived.Test.YtplihgoapiiigaaGreatDoorPaa
import Derived.Test.YtplihgoapiiigaaGreatDoorPab
import Derived.Test.YtplihgoapiiigaaGreatDoorPad
import Derived.Test.YtplihgoapiiigaaGreatDoorPbe
import Derived.Test.YtplihgoapiiigaaGreatDoorPba
import Derived.Test.YtplihgoapiiigaaGreatDoorPbc
import Derived.Test.YtplihgoapiiigaaGreatDoorPbd
import Derived.Test.YtplihgoapiiigaaGreatDoorPak
import Derived.Test.YtplihgoapiiigaaGreatDoorPai
import Derived.ChangeKeysEq
import Derived.Test.YtplihgoapiiigaaGreatDoorPal
import Derived.Test.YtplihgoapiiigaaGreatDoorPaw
import Derived.Test.YtplihgoapiiigaaGreatDoorPaj
import Derived.Test.YtplihgoapiiigaaGreatDoorPag
namespace Go.Proofs.YtplihgoapiiigaaGreatDoor
open Go.RowKit
abbrev Ms:=List (Option Addr×Nat×Nat)
abbrev Os:=List (Option Addr×Nat×Nat×Nat)
theorem Rs.sub {w0 W:World} {k:Option (Nat×Int)} {bs bs':List En} {ms ms':Ms} {os os':Os} (h:Rs w0 W k bs ms os) (hb:∀ x,x∈bs'→x∈bs) (hm:∀ x,x∈ms'→x∈ms) (ho:∀ x,x∈os'→x∈os):Rs w0 W k bs' ms' os':=
 ⟨h.wk,fun x hx=>h.bx x (hb x hx),fun x hx=>h.nm x (hm x hx),fun x hx=>h.ow x (ho x hx),h.fr⟩
theorem Rs.cellAt {w0 W:World} {k:Option (Nat×Int)} {bs:List En} {ms:Ms} {os:Os} (h:Rs w0 W k bs ms os) {x:En} (hx:x∈bs) (j:Nat) (v:Value) (hv:x.cs[j]? = some v):W.cell? ⟨x.b,j,none⟩ = some v:=by
 rw [cell_of_row W x.b j _ _ _ (h.bx x hx).1]; exact hv
theorem Rs.more {w0 W W':World} {p n c M:Nat} {e r:Int} {a:Option Addr} {bs:List En} {ms:Ms} {os:Os} (hS:Rs w0 W (some (p,e)) bs ms os) (hm:Mine W' W.heap.size a n c M) (hk:Wk W' p r) (hb:But p W W'):Rs w0 W' (some (p,r)) bs ms ((a,n,c,M) :: os):=
 (hS.call hb hk).own hm hS.size
def fth (mode:Nat) (s o:Bool) (h:Int):Bool:=match mode with
 | 0=>decide (0 < h) || (decide (h = 0) && o)
 | 1=>decide (0≤h)
 | 2=>false
 | 3=>!s
 | _=>s
def HUp (m:Nat) (s:Int) (v:Nat):Prop:=∀ (W:World) (A:Option Addr) (N C:Nat),Num W A N m→Calls Tryz.prog 35 #[.agg #[.slice A N C],.int .i64 s] W fun en W'=>(∃ a n c,en = .returned (.tuple #[.agg #[.slice a n c],.int .i64 0])∧Mine W' W.heap.size a n c v)∧Below W.heap.size W W'
def HDiv (x y q r:Nat):Prop:=∀ (W:World) (a:Option Addr) (n c:Nat) (a':Option Addr) (n' c':Nat),Num W a n x→Num W a' n' y→Calls Tryz.prog 75 #[.agg #[.slice a n c],.agg #[.slice a' n' c']] W fun en W'=>(∃ a n c a' n' c',en = .returned (.tuple #[.agg #[.slice a n c],.agg #[.slice a' n' c'],.int .i64 0])∧Mine W' W.heap.size a n c q∧Mine W' W.heap.size a' n' c' r)∧Below W.heap.size W W'
structure Fm (E F S I:Nat):Prop where
 fo:Fo E F
 hS:S = 2 ^ (F+E)
 hI:I = (2 ^ E - 1) * 2 ^ F
theorem Fm.top {E F S I:Nat} (h:Fm E F S I):I+2 ^ F = S:=by
 have h1:=h.hS
 have h2:=h.hI
 have h3:=pow_pos2 E
 have h4:(2 ^ E - 1) * 2 ^ F+1 * 2 ^ F = 2 ^ E * 2 ^ F:=by rw [← Nat.add_mul,Nat.sub_add_cancel h3]
 rw [Nat.add_comm,Nat.pow_add] at h1
 omega
theorem Fm.lt {E F S I:Nat} (h:Fm E F S I):I < S:=by
 have:=h.top
 have:=pow_pos2 F
 omega
theorem Fm.pos {E F S I:Nat} (h:Fm E F S I):0 < S:=by have:=h.lt; omega
theorem vals_zero {E F B b:Nat} {s:Bool} (h0:Fo E F) (HB:Hid (B = 2 ^ (E - 1) - 1)) (hB:Bt E F b s 0 0):Vals E F b false 0 0:=fun W _=>by
 refine (Value_zero E F B b s W h0 HB hB).mono ?_
 rintro e w' ⟨rfl,hb⟩
 exact ⟨⟨none,0,0,rfl,mine_none _ _⟩,hb⟩
theorem vals_wo {E F B b ex fr M z:Nat} {s:Bool} {xe:Int} (h0:Fo E F) (HB:Hid (B = 2 ^ (E - 1) - 1)) (hB:Bt E F b s ex fr) (hW:Wo E F B ex fr M z xe):Vals E F b s (M / 2 ^ z) (xe+(z:Int)):=fun W hT=>
 Value_wo E F B b ex fr s M z xe W h0 HB hB hW hT
theorem div_pos (a a':Option Addr) (n n' cap cap' m d:Nat) (w:World) (h:Num w a n m) (h':Num w a' n' d) (hd:0 < d) :
  Calls Tryz.prog 75 #[.agg #[.slice a n cap],.agg #[.slice a' n' cap']] w fun e w'=>(∃ aq nq cq ar nr cr,e = .returned (.tuple #[.agg #[.slice aq nq cq],.agg #[.slice ar nr cr],.int .i64 0])∧Mine w' w.heap.size aq nq cq (m / d)∧Mine w' w.heap.size ar nr cr (m % d))∧Below w.heap.size w w':=by
 refine (div_any a a' n n' cap cap' m d w h h').mono ?_
 rintro e w' ⟨h1,hb⟩
 rcases h1 with ⟨h0,_⟩|⟨_,h1⟩
 ·omega
 ·exact ⟨h1,hb⟩
theorem ans_ok {w:World} {base:Nat} {e:Ending} {m:Nat} (h:Ans w base e m) (hn:¬ Over m):∃ a n cap,e = .returned (.tuple #[.agg #[.slice a n cap],.int .i64 0])∧Mine w base a n cap m:=by
 rcases h with h|⟨_,h⟩
 ·exact h
 ·exact absurd h hn
theorem hup {m k:Nat} (hk:k < 9223372036854775808) (ho:¬ Over (m * 2 ^ k)):HUp m k (m * 2 ^ k):=fun W A N C h=>(up_any A N C m k W h hk).mono fun _ _ ⟨h1,hb⟩=>⟨ans_ok h1 ho,hb⟩
theorem hdiv {x d:Nat} (hd:0 < d):HDiv x d (x / d) (x % d):=fun W a n c a' n' c' h h'=>div_pos a a' n n' c c' x d W h h' hd
theorem Bl.two {m k z:Nat} (h:Bl m k) (h0:0 < m):Bl (2 ^ z * m) (k+z):=by
 have hk:k≠0:=fun e=>by have:=h.1; rw [e] at this; simp at this; omega
 have hp:0 < 2 ^ z:=Nat.pow_pos (by omega)
 refine ⟨?_,Or.inr ?_⟩
 ·rw [Nat.add_comm k z,Nat.pow_add]; exact Nat.mul_lt_mul_of_pos_left h.1 hp
 ·rcases h.2 with h2|h2
  ·exact absurd h2 hk
  ·rw [show k+z - 1 = z+(k - 1) from by omega,Nat.pow_add]; exact Nat.mul_le_mul_left _ h2
theorem Bl.odd {m k:Nat} (h:Bl m k) (h0:0 < m):Bl (2 * m+1) (k+1):=by
 have h1:=(h.two (z:=1) h0)
 rw [Nat.pow_one] at h1
 have hk:k≠0:=fun e=>by have:=h.1; rw [e] at this; simp at this; omega
 have e1:2 ^ (k+1) = 2 * 2 ^ k:=by rw [Nat.pow_succ,Nat.mul_comm]
 refine ⟨?_,Or.inr ?_⟩
 ·have:=h.1; omega
 ·rcases h1.2 with h2|h2
  ·omega
  ·omega
def pv (F r:Nat):Nat:=if r < 2 ^ F then r else (2 ^ F+r % 2 ^ F) * 2 ^ (r / 2 ^ F - 1)
theorem pv_zero (F:Nat):pv F 0 = 0:=by
 unfold pv; rw [if_pos (Nat.pow_pos (by omega))]
def s3 (a b:Nat):Int:=if a < b then -1 else if a = b then 0 else 1
theorem bt_place {E F S I:Nat} (h:Fm E F S I) (s:Bool) {r:Nat} (hr:r < S):Bt E F ((if s then S else 0)+r) s (r / 2 ^ F) (r % 2 ^ F):=by
 have hP:=pow_pos2 F
 refine ⟨Nat.mod_lt _ hP,?_,?_⟩
 ·rw [Nat.div_lt_iff_lt_mul hP,← Nat.pow_add,Nat.add_comm E F,← h.hS]; exact hr
 ·rw [← h.hS,Nat.mul_comm (r / 2 ^ F),Nat.div_add_mod]
  cases s <;> simp
def wqA:Nat:=1300
def wqB:Nat:=2100
structure WrQ (F G:Nat) (s:Bool) (r:Nat) (sa:Bool) (va da:Nat):Prop where
 eq:va * 2 ^ G = pv F r * da
 sg:Rm.sgn sa va = Rm.sgn s va
 hd:0 < da
 hg:Nat.gcd va da = 1
 h0:sa = true→0 < va
 bv:va < 2 ^ wqA
 bd:da < 2 ^ wqB
theorem pow_lt {a b:Nat} (h:a < b):2 ^ a < 2 ^ b:=Nat.pow_lt_pow_right (by omega) h
theorem two_coprime {m j:Nat} (h:m % 2 = 1):Nat.gcd m (2 ^ j) = 1:=by
 have h2:Nat.Coprime m 2:=by
  rw [Nat.coprime_comm]
  show Nat.gcd 2 m = 1
  rw [Nat.gcd_rec,h]; decide
 exact Nat.Coprime.pow_right j h2
theorem value_place {E F S I B G:Nat} (h:Fm E F S I) (hB:B = 2 ^ (E - 1) - 1) (hG:(G:Int) = (B:Int)+(F:Int) - 1) (s:Bool) {r:Nat} (hr:r < I) :
  ∃ (sa:Bool) (m:Nat) (x:Int) (i j:Nat),Vals E F (((if s then S else 0)+r:Nat):Int) sa m x∧OkD sa m x∧max x 0 = (i:Int)∧max (-x) 0 = (j:Int)∧WrQ F G s r sa (m * 2 ^ i) (1 * 2 ^ j):=by
 have hP:=pow_pos2 F
 have hBt:=bt_place h s (Nat.lt_trans hr h.lt)
 have hfin:r / 2 ^ F+1 < 2 ^ E:=by
  have:r / 2 ^ F < 2 ^ E - 1:=by rw [Nat.div_lt_iff_lt_mul hP,← h.hI]; exact hr
  have:=pow_pos2 E
  omega
 have hdm:=Nat.div_add_mod r (2 ^ F)
 have hfl:=Nat.mod_lt r hP
 have hpvd:pv F r = if r < 2 ^ F then r else (2 ^ F+r % 2 ^ F) * 2 ^ (r / 2 ^ F - 1):=rfl
 by_cases h0:r = 0
 ·subst h0
  rw [Nat.zero_div,Nat.zero_mod] at hBt
  refine ⟨false,0,0,0,0,vals_zero h.fo (hide hB) hBt,Or.inl ⟨rfl,rfl,rfl⟩,rfl,rfl,?_,?_,by decide,by decide,by simp,?_,?_⟩
  ·rw [pv_zero]; simp
  ·cases s <;> simp [Rm.sgn]
  ·rw [Nat.zero_mul]; exact Nat.pow_pos (by omega)
  ·exact Nat.lt_of_lt_of_le (show 1 * 2 ^ 0 < 2 ^ 1 by decide) (Nat.pow_le_pow_right (by omega) (by unfold wqB; omega))
 ·obtain ⟨M,z,xe,hW⟩:=Wo.ex (B:=B) hfin hfl (fun ⟨a,b⟩=>h0 (by rw [a,b] at hdm; omega))
  have hr1:=hW.range h.fo (hide hB)
  have hz:=hW.zle
  have hF:=h.fo.f52
  have ho:=hW.odd
  have hlt:=hW.lt
  obtain ⟨k,hk,hpv⟩:∃ k:Nat,xe = 1 - (B:Int) - (F:Int)+(k:Int)∧pv F r = M * 2 ^ k:=by
   rcases hW.part with ⟨a1,a2,a3,a4⟩|⟨a1,a2,a3⟩
   ·refine ⟨0,by omega,?_⟩
    rw [a1,Nat.mul_zero,Nat.zero_add] at hdm
    rw [hpvd,if_pos (by omega),a2,hdm,Nat.pow_zero,Nat.mul_one]
   ·refine ⟨r / 2 ^ F - 1,by omega,?_⟩
    have:¬ r < 2 ^ F:=fun hc=>by rw [Nat.div_eq_of_lt hc] at a1; omega
    rw [hpvd,if_neg this,a2,Nat.add_comm]
  obtain ⟨i,hi⟩:∃ i:Nat,max (xe+(z:Int)) 0 = (i:Int):=⟨(max (xe+(z:Int)) 0).toNat,by omega⟩
  obtain ⟨j,hj⟩:∃ j:Nat,max (-(xe+(z:Int))) 0 = (j:Int):=⟨(max (-(xe+(z:Int))) 0).toNat,by omega⟩
  have hm0:0 < M / 2 ^ z:=Nat.pos_of_ne_zero fun e=>by have:=ho.1; rw [e] at this; cases this
  have hml:M / 2 ^ z < 2 ^ 53:=Nat.lt_of_le_of_lt (Nat.div_le_self _ _) (Nat.lt_of_lt_of_le hlt (Nat.pow_le_pow_right (by omega) (by omega)))
  refine ⟨s,M / 2 ^ z,xe+(z:Int),i,j,vals_wo h.fo (hide hB) hBt hW,Or.inr ⟨ho.1,by omega,by omega⟩,hi,hj,?_,rfl,?_,?_,fun _=>Nat.mul_pos hm0 (Nat.pow_pos (by omega)),?_,?_⟩
  ·rw [hpv,Nat.one_mul]
   have e:i+G = z+k+j:=by omega
   have a1:M / 2 ^ z * 2 ^ i * 2 ^ G = M / 2 ^ z * 2 ^ (i+G):=by rw [Nat.pow_add]; ac_rfl
   rw [a1,e,Nat.pow_add,Nat.pow_add,← Nat.mul_assoc,← Nat.mul_assoc,ho.2]
  ·rw [Nat.one_mul]; exact Nat.pow_pos (by omega)
  ·rw [Nat.one_mul]
   rcases Nat.eq_zero_or_pos j with q|q
   ·rw [q,Nat.pow_zero]; exact Nat.gcd_one_right _
   ·have:i = 0:=by omega
    rw [this,Nat.pow_zero,Nat.mul_one]; exact two_coprime ho.1
  ·refine Nat.lt_of_lt_of_le (Nat.mul_lt_mul_of_pos_right hml (Nat.pow_pos (by omega))) ?_
   rw [← Nat.pow_add]; exact Nat.pow_le_pow_right (by omega) (by unfold wqA; omega)
  ·rw [Nat.one_mul]; exact pow_lt (by unfold wqB; omega)
end Go.Proofs.YtplihgoapiiigaaGreatDoor
