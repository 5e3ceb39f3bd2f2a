/- Of what DigitsSureRow stands on: ExOf NrAl NrCall NrFin RyChk RSame. -/
import Derived.Test.YteafdlblemdclaaGreatDoorPbi
import Derived.Test.YteafdlblemdclaaGreatDoorPbb
import Derived.Test.YteafdlblemdclaaGreatDoorPbc
import Derived.Test.YteafdlblemdclaaGreatDoorPax
import Derived.Test.YteafdlblemdclaaGreatDoorPab
import Derived.ChangeKeysEq
import Derived.Test.YteafdlblemdclaaGreatDoorPbd
import Derived.Test.YteafdlblemdclaaGreatDoorPak
import Derived.BigQuiet
namespace Go.Proofs.YteafdlblemdclaaGreatDoor
open Go.RowKit
set_option maxHeartbeats 400000
theorem rno_no (a:Option Addr) (n cap:Nat) (w:World) (hn:0 < n):Calls Tryz.prog 72 #[.agg #[.slice a n cap]] w fun en w'=>en = .returned (.bool false)∧Below w.heap.size w w':=by
 have:=nought_any a n cap w
 rw [decide_eq_false (by omega)] at this
 exact this
theorem one_yes (a:Option Addr) (n cap m:Nat) (w:World) (h:Num w a n m) (hm:m = 1):Calls Tryz.prog 150 #[.agg #[.slice a n cap]] w fun en w'=>en = .returned (.bool true)∧Below w.heap.size w w':=by
 have:=isOne_any a n cap m w h
 rw [decide_eq_true hm] at this
 exact this
theorem rk_ok_f (a:Option Addr) (n cap m:Nat) (a':Option Addr) (n' cap' m':Nat) (w:World) (hn':0 < n')  (h:Num w a n m) (h':Num w a' n' m') (hg:Nat.gcd m m' = 1) :
  Calls Tryz.prog 115 #[.agg #[.bool false,.slice a n cap,.slice a' n' cap']] w fun e w'=>e = .returned (.int .i64 0)∧Below w.heap.size w w':=by
 have H:=hide h
 have H':=hide h'
 have HG:=hide hg
 clear h h' hg
 go_enter Tryz.func115,Tryz.ntmps115
 go_wp2_with fail
 refine (rno_no a' n' cap' _ hn').mono ?_
 rintro e w1 ⟨rfl,hb1⟩
 have hS:=(Fs.one w _ _).kept hb1
 obtain ⟨⟨ya,yb,yc,-⟩,-⟩:=hS.cells
 go_wp2_with fail
 refine (gcd_any a a' n n' cap cap' m m' _ ((unhide H).kept hS.fr) ((unhide H').kept hS.fr)).mono ?_
 rintro e w2 ⟨⟨A1,N1,C1,rfl,f1⟩,hb2⟩
 replace hS:=hS.kept hb2
 clear ya yb yc
 obtain ⟨⟨yd,ye,yf,-⟩,-⟩:=hS.cells
 have G1:=hide f1.num
 clear f1
 have hltw2_0:w.heap.size < w2.heap.size:=hS.lt 0 rfl
 replace hS:=hS.alloc #[.slice A1 N1 C1] 28
 replace G1:=hide ((unhide G1).alloc (.cells #[.slice A1 N1 C1] 28))
 go_wp2_with fail
 refine (one_yes A1 N1 C1 _ _ (unhide G1) (unhide HG)).mono ?_
 rintro e w3 ⟨rfl,hb3⟩
 replace hS:=hS.kept hb3
 clear yd ye yf
 obtain ⟨⟨yg,-⟩,⟨yh,yi,yj,-⟩,-⟩:=hS.cells
 go_wp2
 go_ret
 exact ⟨rfl,hS.fr⟩
theorem rk_ok_t (a:Option Addr) (n cap m:Nat) (a':Option Addr) (n' cap' m':Nat) (w:World) (hn':0 < n')  (hn:0 < n) (h:Num w a n m) (h':Num w a' n' m') (hg:Nat.gcd m m' = 1) :
  Calls Tryz.prog 115 #[.agg #[.bool true,.slice a n cap,.slice a' n' cap']] w fun e w'=>e = .returned (.int .i64 0)∧Below w.heap.size w w':=by
 have H:=hide h
 have H':=hide h'
 have HG:=hide hg
 clear h h' hg
 go_enter Tryz.func115,Tryz.ntmps115
 go_wp2_with fail
 refine (rno_no a' n' cap' _ hn').mono ?_
 rintro e w1 ⟨rfl,hb1⟩
 have hS:=(Fs.one w _ _).kept hb1
 obtain ⟨⟨ya,yb,yc,-⟩,-⟩:=hS.cells
 go_wp2_with fail
 refine (rno_no a n cap _ hn).mono ?_
 rintro e w2 ⟨rfl,hb2⟩
 replace hS:=hS.kept hb2
 clear ya yb yc
 obtain ⟨⟨yd,ye,yf,-⟩,-⟩:=hS.cells
 go_wp2_with fail
 refine (gcd_any a a' n n' cap cap' m m' _ ((unhide H).kept hS.fr) ((unhide H').kept hS.fr)).mono ?_
 rintro e w3 ⟨⟨A1,N1,C1,rfl,f1⟩,hb3⟩
 replace hS:=hS.kept hb3
 clear yd ye yf
 obtain ⟨⟨yg,yh,yi,-⟩,-⟩:=hS.cells
 have G1:=hide f1.num
 clear f1
 have hltw3_0:w.heap.size < w3.heap.size:=hS.lt 0 rfl
 replace hS:=hS.alloc #[.slice A1 N1 C1] 28
 replace G1:=hide ((unhide G1).alloc (.cells #[.slice A1 N1 C1] 28))
 go_wp2_with fail
 refine (one_yes A1 N1 C1 _ _ (unhide G1) (unhide HG)).mono ?_
 rintro e w4 ⟨rfl,hb4⟩
 replace hS:=hS.kept hb4
 clear yg yh yi
 obtain ⟨⟨yj,-⟩,⟨yk,yl,ym,-⟩,-⟩:=hS.cells
 go_wp2
 go_ret
 exact ⟨rfl,hS.fr⟩
theorem AlN.but {bs':List En} {S0 n:Nat} {v:Value} {t:TypeId} (h:AlN bs' S0 v t n) {g:Nat} (hne:v≠.pointer (some ⟨g,0,none⟩)) (y:En):AlN (y :: bs'.filter (fun y=>y.b≠g)) S0 v t n:=by
 obtain ⟨g',cs,h1,h2,h3,h4⟩:=h
 exact ⟨g',cs,h1,h2,h3,List.mem_cons_of_mem _ (List.mem_filter.2 ⟨h4,by simp only [ne_eq,decide_not,Bool.not_eq_eq_eq_not,Bool.not_true,decide_eq_false_iff_not]; intro e; exact hne (by rw [h1,e])⟩)⟩
theorem StN.but {bs':List En} {S0:Nat} {v:Value} {cs:Array Value} {t:TypeId} (h:StN bs' S0 v cs t) {g:Nat} (hne:v≠.pointer (some ⟨g,0,none⟩)) (y:En):StN (y :: bs'.filter (fun y=>y.b≠g)) S0 v cs t:=by
 obtain ⟨g',h1,h2,h4⟩:=h
 exact ⟨g',h1,h2,List.mem_cons_of_mem _ (List.mem_filter.2 ⟨h4,by simp only [ne_eq,decide_not,Bool.not_eq_eq_eq_not,Bool.not_true,decide_eq_false_iff_not]; intro e; exact hne (by rw [h1,e])⟩)⟩
theorem StN.cons {bs':List En} {S0:Nat} {v:Value} {cs:Array Value} {t:TypeId} (h:StN bs' S0 v cs t) (y:En):StN (y :: bs') S0 v cs t:=by
 obtain ⟨g,h1,h2,h4⟩:=h
 exact ⟨g,h1,h2,List.mem_cons_of_mem _ h4⟩
theorem AlN.ne {W w0:World} {k:Option (Nat×Int)} {ms:Ms} {os:Os} {bs':List En} {S0 n:Nat} {v:Value} {t:TypeId} (h:AlN bs' S0 v t n) (hs:Rs w0 W k bs' ms os):v≠.pointer (some ⟨W.heap.size,0,none⟩):=by
 obtain ⟨g,s,h1,h2,h3,h4⟩:=h
 have:=block_lt (hs.bx _ h4).1
 rw [h1]
 intro e
 injection e with e
 injection e with e
 injection e with e
 simp only at this
 omega
structure Fm (E F S I:Nat):Prop where
 fo:Fo E F
 hS:S = 2 ^ (F+E)
 hI:I = (2 ^ E - 1) * 2 ^ F
theorem Fm.top {E F S I:Nat} (h:Fm E F S I):I+2 ^ F = S:=by
 have h1:=h.hS
 have h2:=h.hI
 have h3:=pow_pos2 E
 have h4:(2 ^ E - 1) * 2 ^ F+1 * 2 ^ F = 2 ^ E * 2 ^ F:=by rw [← Nat.add_mul,Nat.sub_add_cancel h3]
 rw [Nat.add_comm,Nat.pow_add] at h1
 omega
theorem Fm.lt {E F S I:Nat} (h:Fm E F S I):I < S:=by
 have:=h.top
 have:=pow_pos2 F
 omega
theorem Fm.bt {E F S I b:Nat} (h:Fm E F S I) (hb:b < 2 * S):b < 2 ^ (F+E+1):=by rw [Nat.pow_succ,Nat.mul_comm,← h.hS]; exact hb
theorem Fm.pos {E F S I:Nat} (h:Fm E F S I):0 < S:=by have:=h.lt; omega
theorem mine_caps {w:World} {B:Nat} {a:Option Addr} {n c m:Nat} (h:Mine w B a n c m):n≤c∧c≤9223372036854775807:=by
 obtain ⟨xs,hn,ho,_⟩:=h
 obtain ⟨a',c',e,h1,h2,_⟩:=ho.lim
 cases e
 exact ⟨by omega,h2⟩
theorem vals_zero {E F B b:Nat} {s:Bool} (h0:Fo E F) (HB:Hid (B = 2 ^ (E - 1) - 1)) (hB:Bt E F b s 0 0):Vals E F b false 0 0:=fun W _=>by
 refine (Value_zero E F B b s W h0 HB hB).mono ?_
 rintro e w' ⟨rfl,hb⟩
 exact ⟨⟨none,0,0,rfl,mine_none _ _⟩,hb⟩
theorem vals_wo {E F B b ex fr M z:Nat} {s:Bool} {xe:Int} (h0:Fo E F) (HB:Hid (B = 2 ^ (E - 1) - 1)) (hB:Bt E F b s ex fr) (hW:Wo E F B ex fr M z xe):Vals E F b s (M / 2 ^ z) (xe+(z:Int)):=fun W hT=>
 Value_wo E F B b ex fr s M z xe W h0 HB hB hW hT
theorem nratio_ok {s:Bool} {m:Nat} {x:Int} (hA:OkD s m x) {i j:Nat} (hi:max x 0 = (i:Int)) (hj:max (-x) 0 = (j:Int)) (hV:¬ Over (m * 2 ^ i)) (hM:¬ Over (1 * 2 ^ j)) (W:World) (A:Option Addr) (N C:Nat) (g:Num W A N m) :
  Calls Tryz.prog 11 #[.agg #[.bool s,.slice A N C,.int .i64 x]] W fun e w'=>(∃ A N C A' N' C',e = .returned (.tuple #[.agg #[.bool s,.slice A N C,.slice A' N' C'],.int .i64 0])∧Mine w' W.heap.size A N C (m * 2 ^ i)∧Mine w' W.heap.size A' N' C' (1 * 2 ^ j))∧Below W.heap.size W w':=by
 have hx:-1073741824≤x∧x≤1073741824:=by
  rcases hA with ⟨_,_,h⟩|⟨_,h⟩
  ·omega
  ·exact h
 have up:∀ {u t:Nat},¬ Over (u * 2 ^ t)→t < 9223372036854775808→∀ (W:World) (A:Option Addr) (N C:Nat),Num W A N u→Calls Tryz.prog 31 #[.agg #[.slice A N C],.int .i64 (t:Int)] W fun en W'=>(∃ a n c,en = .returned (.tuple #[.agg #[.slice a n c],.int .i64 0])∧Mine W' W.heap.size a n c (u * 2 ^ t))∧Below W.heap.size W W':=fun hn ht W A N C g=>by
  refine (up_any A N C _ _ W g ht).mono ?_
  rintro e w' ⟨h1,hb⟩
  rcases h1 with h1|⟨_,h1⟩
  ·exact ⟨h1,hb⟩
  ·exact absurd h1 hn
 exact xr_ok2 W s A N C m x i j _ _ g hx hi hj (hide fun W A N C g=>dcheck_dy s A N C m x W ⟨g,hA⟩) (hide (up hV (by omega))) (hide (up hM (by omega)))
theorem rchk_all (s:Bool) (a b:Option Addr) (n c k l m d:Nat) (hs:s = true→0 < m) (hd:0 < d) (hg:Nat.gcd m d = 1) (W:World) (h1:Num W a n m) (h2:Num W b k d) :
  Calls Tryz.prog 115 #[.agg #[.bool s,.slice a n c,.slice b k l]] W fun e W'=>e = .returned (.int .i64 0)∧Below W.heap.size W W':=by
 have hk:0 < k:=by have:=h2.zero; omega
 cases s
 ·exact rk_ok_f a n c m b k l d W hk h1 h2 hg
 ·exact rk_ok_t a n c m b k l d W hk (by have:=h1.zero; have:=hs rfl; omega) h1 h2 hg
theorem same_dec {w w':World} {s t:Bool} {a1 a2 a3 a4:Option Addr} {n1 n2 n3 n4:Nat} {x y:Rat} (hx:Fq w s a1 n1 a2 n2 x) (hy:Fq w' t a3 n3 a4 n4 y) :
  decide (x = y) = ((s == t) && decide (x.num.natAbs = y.num.natAbs) && decide (x.den = y.den)):=by
 have h1:=hx.neg
 have h2:=hy.neg
 subst h1 h2
 by_cases h:x = y
 ·subst h; simp
 ·have:¬ ((decide (x.num < 0) = decide (y.num < 0)∧x.num.natAbs = y.num.natAbs)∧x.den = y.den):=by
   rintro ⟨⟨e1,e2⟩,e3⟩
   apply h
   refine Rat.ext ?_ e3
   rw [decide_eq_decide] at e1
   omega
  rw [decide_eq_false h]
  symm
  simp only [Bool.and_eq_false_iff,beq_eq_false_iff_ne,decide_eq_false_iff_not]
  by_cases e1:decide (x.num < 0) = decide (y.num < 0)
  ·by_cases e2:x.num.natAbs = y.num.natAbs
   ·exact Or.inr (fun e3=>this ⟨⟨e1,e2⟩,e3⟩)
   ·exact Or.inl (Or.inr e2)
  ·exact Or.inl (Or.inl e1)
end Go.Proofs.YteafdlblemdclaaGreatDoor
