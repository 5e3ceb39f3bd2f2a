/- Of what DecExactRow stands on: ExOf RyChk Rc8Rat. -/
import Derived.Test.YtpmmapoabbpaiaaGreatPaz
import Derived.Test.YtpmmapoabbpaiaaGreatPbp
import Derived.Test.YtpmmapoabbpaiaaGreatPbr
import Derived.Test.YtpmmapoabbpaiaaGreatPbn
import Derived.Test.YtpmmapoabbpaiaaGreatPbq
import Derived.Test.YtpmmapoabbpaiaaGreatPbm
namespace Go.Proofs.YtpmmapoabbpaiaaGreat
open Go.RowKit
set_option maxHeartbeats 400000
theorem rno_no (a:Option Addr) (n cap:Nat) (w:World) (hn:0 < n):Calls Tryz.prog 68 #[.agg #[.slice a n cap]] w fun en w'=>en = .returned (.bool false)∧Below w.heap.size w w':=by
 have:=nought_any a n cap w
 rw [decide_eq_false (by omega)] at this
 exact this
theorem one_yes (a:Option Addr) (n cap m:Nat) (w:World) (h:Num w a n m) (hm:m = 1):Calls Tryz.prog 73 #[.agg #[.slice a n cap]] w fun en w'=>en = .returned (.bool true)∧Below w.heap.size w w':=by
 have:=isOne_any a n cap m w h
 rw [decide_eq_true hm] at this
 exact this
theorem rk_ok_f (a:Option Addr) (n cap m:Nat) (a':Option Addr) (n' cap' m':Nat) (w:World) (hn':0 < n')  (h:Num w a n m) (h':Num w a' n' m') (hg:Nat.gcd m m' = 1) :
  Calls Tryz.prog 29 #[.agg #[.bool false,.slice a n cap,.slice a' n' cap']] w fun e w'=>e = .returned (.int .i64 0)∧Below w.heap.size w w':=by
 have H:=hide h
 have H':=hide h'
 have HG:=hide hg
 clear h h' hg
 go_enter Tryz.func29,Tryz.ntmps29
 go_wp2_with fail
 refine (rno_no a' n' cap' _ hn').mono ?_
 rintro e w1 ⟨rfl,hb1⟩
 have hS:=(Fs.one w _ _).kept hb1
 obtain ⟨⟨ya,yb,yc,-⟩,-⟩:=hS.cells
 go_wp2_with fail
 refine (gcd_any a a' n n' cap cap' m m' _ ((unhide H).kept hS.fr) ((unhide H').kept hS.fr)).mono ?_
 rintro e w2 ⟨⟨A1,N1,C1,rfl,f1⟩,hb2⟩
 replace hS:=hS.kept hb2
 clear ya yb yc
 obtain ⟨⟨yd,ye,yf,-⟩,-⟩:=hS.cells
 have G1:=hide f1.num
 clear f1
 have hltw2_0:w.heap.size < w2.heap.size:=hS.lt 0 rfl
 replace hS:=hS.alloc #[.slice A1 N1 C1] 26
 replace G1:=hide ((unhide G1).alloc (.cells #[.slice A1 N1 C1] 26))
 go_wp2_with fail
 refine (one_yes A1 N1 C1 _ _ (unhide G1) (unhide HG)).mono ?_
 rintro e w3 ⟨rfl,hb3⟩
 replace hS:=hS.kept hb3
 clear yd ye yf
 obtain ⟨⟨yg,-⟩,⟨yh,yi,yj,-⟩,-⟩:=hS.cells
 go_wp2
 go_ret
 exact ⟨rfl,hS.fr⟩
theorem rk_ok_t (a:Option Addr) (n cap m:Nat) (a':Option Addr) (n' cap' m':Nat) (w:World) (hn':0 < n')  (hn:0 < n) (h:Num w a n m) (h':Num w a' n' m') (hg:Nat.gcd m m' = 1) :
  Calls Tryz.prog 29 #[.agg #[.bool true,.slice a n cap,.slice a' n' cap']] w fun e w'=>e = .returned (.int .i64 0)∧Below w.heap.size w w':=by
 have H:=hide h
 have H':=hide h'
 have HG:=hide hg
 clear h h' hg
 go_enter Tryz.func29,Tryz.ntmps29
 go_wp2_with fail
 refine (rno_no a' n' cap' _ hn').mono ?_
 rintro e w1 ⟨rfl,hb1⟩
 have hS:=(Fs.one w _ _).kept hb1
 obtain ⟨⟨ya,yb,yc,-⟩,-⟩:=hS.cells
 go_wp2_with fail
 refine (rno_no a n cap _ hn).mono ?_
 rintro e w2 ⟨rfl,hb2⟩
 replace hS:=hS.kept hb2
 clear ya yb yc
 obtain ⟨⟨yd,ye,yf,-⟩,-⟩:=hS.cells
 go_wp2_with fail
 refine (gcd_any a a' n n' cap cap' m m' _ ((unhide H).kept hS.fr) ((unhide H').kept hS.fr)).mono ?_
 rintro e w3 ⟨⟨A1,N1,C1,rfl,f1⟩,hb3⟩
 replace hS:=hS.kept hb3
 clear yd ye yf
 obtain ⟨⟨yg,yh,yi,-⟩,-⟩:=hS.cells
 have G1:=hide f1.num
 clear f1
 have hltw3_0:w.heap.size < w3.heap.size:=hS.lt 0 rfl
 replace hS:=hS.alloc #[.slice A1 N1 C1] 26
 replace G1:=hide ((unhide G1).alloc (.cells #[.slice A1 N1 C1] 26))
 go_wp2_with fail
 refine (one_yes A1 N1 C1 _ _ (unhide G1) (unhide HG)).mono ?_
 rintro e w4 ⟨rfl,hb4⟩
 replace hS:=hS.kept hb4
 clear yg yh yi
 obtain ⟨⟨yj,-⟩,⟨yk,yl,ym,-⟩,-⟩:=hS.cells
 go_wp2
 go_ret
 exact ⟨rfl,hS.fr⟩
theorem rchk_all (s:Bool) (a b:Option Addr) (n c k l m d:Nat) (hs:s = true→0 < m) (hd:0 < d) (hg:Nat.gcd m d = 1) (W:World) (h1:Num W a n m) (h2:Num W b k d) :
  Calls Tryz.prog 29 #[.agg #[.bool s,.slice a n c,.slice b k l]] W fun e W'=>e = .returned (.int .i64 0)∧Below W.heap.size W W':=by
 have hk:0 < k:=by have:=h2.zero; omega
 cases s
 ·exact rk_ok_f a n c m b k l d W hk h1 h2 hg
 ·exact rk_ok_t a n c m b k l d W hk (by have:=h1.zero; have:=hs rfl; omega) h1 h2 hg
def ordR (x y:Rat):Int:=if x = y then 0 else if x < y then -1 else 1
theorem ordR_eq {x y:Rat} (h:x = y):ordR x y = 0:=by unfold ordR; rw [if_pos h]
theorem ordR_lt {x y:Rat} (h:x.num * y.den < y.num * x.den):ordR x y = -1:=by
 unfold ordR
 have hl:x < y:=(Rat.lt_iff x y).2 h
 rw [if_neg (fun e=>by subst e; omega),if_pos hl]
theorem ordR_gt {x y:Rat} (h:y.num * x.den < x.num * y.den):ordR x y = 1:=by
 unfold ordR
 have hl:¬ x < y:=fun h1=>by have:=(Rat.lt_iff x y).1 h1; omega
 rw [if_neg (fun e=>by subst e; omega),if_neg hl]
theorem rat_ne {x y:Rat} (h:x≠y):x.num * y.den≠y.num * x.den:=fun e=>
 h (by
  have h1:¬ x < y:=fun hl=>by have:=(Rat.lt_iff x y).1 hl; omega
  have h2:¬ y < x:=fun hl=>by have:=(Rat.lt_iff y x).1 hl; omega
  exact Rat.le_antisymm (Rat.not_lt.1 h2) (Rat.not_lt.1 h1))
theorem both_same (s t:Bool) (a1 a2 a3 a4:Option Addr) (n1 n2 n3 n4 c1 c2 c3 c4:Nat) (x y:Rat) (w:World) (hx:Fq w s a1 n1 a2 n2 x) (hy:Fq w t a3 n3 a4 n4 y) :
  Calls Tryz.prog 50 #[.agg #[.bool s,.slice a1 n1 c1,.slice a2 n2 c2,.bool t,.slice a3 n3 c3,.slice a4 n4 c4]] w fun e w'=>e = .returned (.bool (decide (x = y)))∧Below w.heap.size w w':=by
 rw [same_dec hx hy]
 cases he:(s == t && decide (n1 = n3) && decide (n2 = n4))
 ·have hd:((s == t) && decide (x.num.natAbs = y.num.natAbs) && decide (x.den = y.den)) = false:=by
   cases hst:(s == t)
   ·rfl
   ·rw [hst] at he
    by_cases e1:x.num.natAbs = y.num.natAbs
    ·have:=hx.num.same (e1▸hy.num)
     by_cases e2:x.den = y.den
     ·have h2:=hx.den.same (e2▸hy.den)
      rw [decide_eq_true this,decide_eq_true h2] at he
      exact absurd he (by decide)
     ·rw [decide_eq_false e2,Bool.and_false]
    ·rw [decide_eq_false e1]; rfl
  rw [hd]
  exact same_shape s t a1 a2 a3 a4 n1 n2 n3 n4 c1 c2 c3 c4 he w
 ·have he':=he
  simp only [Bool.and_eq_true,decide_eq_true_eq] at he
  obtain ⟨⟨hst,e1⟩,e2⟩:=he
  rw [hst,Bool.true_and]
  subst e1 e2
  have H1:∀ W:World,Below w.heap.size w W→Calls Tryz.prog 91 #[.slice a1 n1 c1,.slice a3 n1 c3] W fun e w'=>e = .returned (.bool (decide (x.num.natAbs = y.num.natAbs)))∧Below W.heap.size W w':=
   fun W hb=>eqS_any a1 a3 n1 c1 c3 _ _ W (hx.num.kept hb) (hy.num.kept hb)
  have H2:∀ W:World,Below w.heap.size w W→Calls Tryz.prog 91 #[.slice a2 n2 c2,.slice a4 n2 c4] W fun e w'=>e = .returned (.bool (decide (x.den = y.den)))∧Below W.heap.size W w':=
   fun W hb=>eqS_any a2 a4 n2 c2 c4 _ _ W (hx.den.kept hb) (hy.den.kept hb)
  cases hd1:decide (x.num.natAbs = y.num.natAbs)
  ·rw [hd1] at H1
   exact same_f s t a1 a2 a3 a4 n1 n2 n1 n2 c1 c2 c3 c4 he' w H1
  ·rw [hd1] at H1
   rw [Bool.true_and]
   cases hd2:decide (x.den = y.den)
   ·rw [hd2] at H2
    exact same_tf s t a1 a2 a3 a4 n1 n2 n1 n2 c1 c2 c3 c4 he' w H1 H2
   ·rw [hd2] at H2
    exact same_tt s t a1 a2 a3 a4 n1 n2 n1 n2 c1 c2 c3 c4 he' w H1 H2
theorem cmpI_pos {m k:Nat}:decide ((0:Int) < cmpI m k) = decide (k < m):=by
 unfold cmpI
 rw [decide_eq_decide]
 by_cases h:m < k
 ·rw [if_pos h]; omega
 ·rw [if_neg h]
  by_cases h2:m = k
  ·rw [if_pos h2]; omega
  ·rw [if_neg h2]; omega
theorem both_farther (s t:Bool) (a1 a2 a3 a4:Option Addr) (n1 n2 n3 n4 c1 c2 c3 c4:Nat) (x y:Rat) (w:World) (hx:Fq w s a1 n1 a2 n2 x) (hy:Fq w t a3 n3 a4 n4 y) (ho:¬ Over (x.num.natAbs * y.den)) (ho2:¬ Over (y.num.natAbs * x.den)) :
  Calls Tryz.prog 52 #[.agg #[.bool s,.slice a1 n1 c1,.slice a2 n2 c2,.bool t,.slice a3 n3 c3,.slice a4 n4 c4]] w fun e w'=>e = .returned (.bool (decide (y.num.natAbs * x.den < x.num.natAbs * y.den)))∧Below w.heap.size w w':=by
 cases hd:decide (y.num.natAbs * x.den < x.num.natAbs * y.den)
 ·exact farther_f s t a1 a2 a3 a4 n1 n2 n3 n4 c1 c2 c3 c4 _ _ _ _ ho ho2 (cmpI_pos.trans hd) w hx.num hx.den hy.num hy.den
 ·exact farther_t s t a1 a2 a3 a4 n1 n2 n3 n4 c1 c2 c3 c4 _ _ _ _ ho ho2 (cmpI_pos.trans hd) w hx.num hx.den hy.num hy.den
theorem abs_of {s:Bool} {x:Rat} (h:s = decide (x.num < 0)):x.num = Rm.sgn s x.num.natAbs:=by
 subst h
 unfold Rm.sgn
 by_cases h:x.num < 0
 ·rw [decide_eq_true h,if_pos rfl]; omega
 ·rw [decide_eq_false h,if_neg (by decide)]; omega
theorem cmp_rat (s t:Bool) (a1 a2 a3 a4:Option Addr) (n1 n2 n3 n4 c1 c2 c3 c4:Nat) (x y:Rat) (w:World) (hx:Fq w s a1 n1 a2 n2 x) (hy:Fq w t a3 n3 a4 n4 y) (ho:¬ Over (x.num.natAbs * y.den)) (ho2:¬ Over (y.num.natAbs * x.den)) :
  Calls Tryz.prog 15 #[.agg #[.bool s,.slice a1 n1 c1,.slice a2 n2 c2],.agg #[.bool t,.slice a3 n3 c3,.slice a4 n4 c4]] w fun e w'=>e = .returned (.tuple #[.int .i64 (ordR x y),.int .i64 0])∧Below w.heap.size w w':=by
 have gs:∀ {s:Bool} {z:Rat},Rm.Q z s z.num.natAbs z.den→s = true→0 < z.num.natAbs:=fun {s z} q e=>Nat.pos_of_ne_zero fun e2=>by have:=q.zero e2; rw [this] at e; cases e
 have HC:=hide (fun (W:World) (hb:Below w.heap.size w W)=>zbck W a1 a2 a3 a4 n1 n2 n3 n4 c1 c2 c3 c4 _ _ _ _ s t (hx.num.kept hb) (hx.den.kept hb) (hy.num.kept hb) (hy.den.kept hb) (hide fun W q r=>rchk_all s a1 a2 n1 c1 n2 c2 _ _ (gs hx.q) hx.q.pos hx.q.co W q r) (hide fun W q r=>rchk_all t a3 a4 n3 c3 n4 c4 _ _ (gs hy.q) hy.q.pos hy.q.co W q r))
 have HS:∀ W:World,Below w.heap.size w W→Calls Tryz.prog 50 #[.agg #[.bool s,.slice a1 n1 c1,.slice a2 n2 c2,.bool t,.slice a3 n3 c3,.slice a4 n4 c4]] W fun e w'=>e = .returned (.bool (decide (x = y)))∧Below W.heap.size W w':=
  fun W hb=>both_same s t a1 a2 a3 a4 n1 n2 n3 n4 c1 c2 c3 c4 x y W (hx.kept hb) (hy.kept hb)
 have HF:∀ W:World,Below w.heap.size w W→Calls Tryz.prog 52 #[.agg #[.bool s,.slice a1 n1 c1,.slice a2 n2 c2,.bool t,.slice a3 n3 c3,.slice a4 n4 c4]] W fun e w'=>e = .returned (.bool (decide (y.num.natAbs * x.den < x.num.natAbs * y.den)))∧Below W.heap.size W w':=
  fun W hb=>both_farther s t a1 a2 a3 a4 n1 n2 n3 n4 c1 c2 c3 c4 x y W (hx.kept hb) (hy.kept hb) ho ho2
 by_cases hxy:x = y
 ·rw [decide_eq_true hxy] at HS
  rw [ordR_eq hxy]
  exact rcmp_same s t a1 a2 a3 a4 n1 n2 n3 n4 c1 c2 c3 c4 w HC (hide HS)
 ·rw [decide_eq_false hxy] at HS
  have hne:=rat_ne hxy
  have ex:=abs_of hx.neg
  have ey:=abs_of hy.neg
  have hz:=hx.q.zero
  have hz':=hy.q.zero
  have px:0 < x.den:=Nat.pos_of_ne_zero x.den_nz
  have py:0 < y.den:=Nat.pos_of_ne_zero y.den_nz
  have hxm:x.num * (y.den:Int) = Rm.sgn s (x.num.natAbs * y.den):=by rw [Rm.sgn_scale,← ex]
  have hym:y.num * (x.den:Int) = Rm.sgn t (y.num.natAbs * x.den):=by rw [Rm.sgn_scale,← ey]
  have gx:s = true→0 < x.num.natAbs * y.den:=fun h=>Nat.mul_pos (Nat.pos_of_ne_zero (fun e=>by rw [hz e] at h; exact absurd h (by decide))) py
  have gy:t = true→0 < y.num.natAbs * x.den:=fun h=>Nat.mul_pos (Nat.pos_of_ne_zero (fun e=>by rw [hz' e] at h; exact absurd h (by decide))) px
  generalize hU:x.num.natAbs * y.den = U at hxm gx HF
  generalize hV:y.num.natAbs * x.den = V at hym gy HF
  rw [hxm,hym] at hne
  cases s <;> cases t
  ·by_cases hd:V < U
   ·rw [decide_eq_true hd] at HF
    rw [ordR_gt (by rw [hxm,hym]; simp only [Rm.sgn]; simp; omega)]
    exact rcmp_fft a1 a2 a3 a4 n1 n2 n3 n4 c1 c2 c3 c4 w HC (hide HS) (hide HF)
   ·rw [decide_eq_false hd] at HF
    rw [ordR_lt (by rw [hxm,hym]; simp only [Rm.sgn] at hne ⊢; simp at hne ⊢; omega)]
    exact rcmp_fff a1 a2 a3 a4 n1 n2 n3 n4 c1 c2 c3 c4 w HC (hide HS) (hide HF)
  ·have:=gy rfl
   rw [ordR_gt (by rw [hxm,hym]; simp only [Rm.sgn]; simp; omega)]
   exact rcmp_ft a1 a2 a3 a4 n1 n2 n3 n4 c1 c2 c3 c4 w HC (hide HS)
  ·have:=gx rfl
   rw [ordR_lt (by rw [hxm,hym]; simp only [Rm.sgn]; simp; omega)]
   exact rcmp_tf a1 a2 a3 a4 n1 n2 n3 n4 c1 c2 c3 c4 w HC (hide HS)
  ·by_cases hd:V < U
   ·rw [decide_eq_true hd] at HF
    rw [ordR_lt (by rw [hxm,hym]; simp only [Rm.sgn]; simp; omega)]
    exact rcmp_ttt a1 a2 a3 a4 n1 n2 n3 n4 c1 c2 c3 c4 w HC (hide HS) (hide HF)
   ·rw [decide_eq_false hd] at HF
    rw [ordR_gt (by rw [hxm,hym]; simp only [Rm.sgn] at hne ⊢; simp at hne ⊢; omega)]
    exact rcmp_ttf a1 a2 a3 a4 n1 n2 n3 n4 c1 c2 c3 c4 w HC (hide HS) (hide HF)
end Go.Proofs.YtpmmapoabbpaiaaGreat
