/- Of what DecExactRow stands on: DxLaw. -/
import Derived.Test.YtpmmapoabbpaiaaGreatPbt
import Derived.Test.YtpmmapoabbpaiaaGreatPbk
import Derived.Test.YtpmmapoabbpaiaaGreatPbw
namespace Go.Proofs.YtpmmapoabbpaiaaGreat
open Go.RowKit
theorem dx_same (f:Bool) (m d:Nat) (W:World) (a:Option Addr) (n c:Nat) (b:Option Addr) (k l:Nat) (a':Option Addr) (n' c':Nat) (b':Option Addr) (k' l':Nat) (h1:Num W a n m) (h2:Num W b k d) (h3:Num W a' n' m) (h4:Num W b' k' d) :
  Calls Tryz.prog 9 #[.agg #[.bool f,.slice a n c,.slice b k l],.agg #[.bool f,.slice a' n' c',.slice b' k' l']] W fun e W'=>e = .returned (.bool true)∧Below W.heap.size W W':=
 dsm_t W f a b a' b' n k n' k' c l c' l' m d h1 h2 h3 h4
  (hide fun W k1 k2=>(same_any a a' n n' c c' m m W k1 k2).mono fun e W' ⟨k3,k4⟩=>⟨by rw [k3,decide_eq_true rfl],k4⟩)
  (hide fun W k1 k2=>(same_any b b' k k' l l' d d W k1 k2).mono fun e W' ⟨k3,k4⟩=>⟨by rw [k3,decide_eq_true rfl],k4⟩)
theorem dx_fq {q:Rat} {f:Bool} {m d:Nat} (h:Rm.Q q f m d) {W:World} {a b:Option Addr} {n k:Nat} (h1:Num W a n m) (h2:Num W b k d):Fq W f a n b k q:=
 ⟨h.neg.symm,by rw [h.abs]; exact h1,by rw [h.den]; exact h2⟩
theorem decExact_any (g:Bool) (s:ByteArray) (x:Int) (g2:Bool) (s2:ByteArray) (x2:Int) (w:World) :
  Calls Tryz.prog 4 #[.agg #[.bool g,.string s,.int .i64 x],.agg #[.bool g2,.string s2,.int .i64 x2]] w fun e w'=>e = .returned (.bool true)∧Below w.heap.size w w':=by
 have HA:=hide dalive_any
 obtain ⟨e,h,h1⟩:=dcheck_full g s x
 rcases h with h|⟨rfl,hm,hd,hx0,hx1,hz,ha,hb⟩
 ·exact dx_n1 w g g2 s s2 x x2 HA (hide fun W=>cl8_e W g s x e h (hide h1))
 by_cases c1:800 < s.size
 ·exact dx_n1 w g g2 s s2 x x2 HA (hide fun W=>cl8_1 W g s x c1 (hide h1))
 by_cases c2:1500 < x
 ·exact dx_n1 w g g2 s s2 x x2 HA (hide fun W=>cl8_2 W g s x (by omega) c2 (hide h1))
 by_cases c3:x < -1500
 ·exact dx_n1 w g g2 s s2 x x2 HA (hide fun W=>cl8_3 W g s x (by omega) (by omega) c3 (hide h1))
 have K1:=hide fun W=>cl8_ok W g s x (by omega) (by omega) (by omega) (hide h1)
 have ok1:DcOk s x:=⟨hm,hd,hx0,hx1,hz,ha,cd_of hd hb⟩
 clear h1 hm hd hx0 hx1 hz ha hb
 obtain ⟨e,h,h1⟩:=dcheck_full g2 s2 x2
 rcases h with h|⟨rfl,hm,hd,hx0,hx1,hz,ha,hb⟩
 ·exact dx_n2 w g g2 s s2 x x2 HA K1 (hide fun W=>cl8_e W g2 s2 x2 e h (hide h1))
 by_cases c4:800 < s2.size
 ·exact dx_n2 w g g2 s s2 x x2 HA K1 (hide fun W=>cl8_1 W g2 s2 x2 c4 (hide h1))
 by_cases c5:1500 < x2
 ·exact dx_n2 w g g2 s s2 x x2 HA K1 (hide fun W=>cl8_2 W g2 s2 x2 (by omega) c5 (hide h1))
 by_cases c6:x2 < -1500
 ·exact dx_n2 w g g2 s s2 x x2 HA K1 (hide fun W=>cl8_3 W g2 s2 x2 (by omega) (by omega) c6 (hide h1))
 have K2:=hide fun W=>cl8_ok W g2 s2 x2 (by omega) (by omega) (by omega) (hide h1)
 have ok2:DcOk s2 x2:=⟨hm,hd,hx0,hx1,hz,ha,cd_of hd hb⟩
 clear h1 hm hd hx0 hx1 hz ha hb
 obtain ⟨K,hK⟩:∃ K,K = 9300:=⟨_,rfl⟩
 obtain ⟨L,hL⟩:∃ L,L = 50000:=⟨_,rfl⟩
 obtain ⟨f1,y1,z1,Q1,l1,m1,R1⟩:=dx_ratio g ok1 (K:=K) (by omega) (by omega)
 obtain ⟨f2,y2,z2,Q2,l2,m2,R2⟩:=dx_ratio g2 ok2 (K:=K) (by omega) (by omega)
 have hS:SmR (2 ^ K) y1 z1 y2 z2:=⟨Nat.le_of_lt l1,Nat.le_of_lt m1,Nat.le_of_lt l2,Nat.le_of_lt m2,Q1.pos,Q2.pos,fun v hv=>by
  refine rb_over (e:=3 * K+4) (Nat.lt_of_le_of_lt hv ?_) (by omega)
  have e1:2 ^ K * 2 ^ K * 2 ^ K = 2 ^ (3 * K):=by rw [← Nat.pow_add,← Nat.pow_add]; congr 1; omega
  have e2:2 ^ (3 * K+4) = 2 ^ (3 * K) * 16:=by rw [Nat.pow_add]
  have e3:1 < 2 ^ (3 * K):=Nat.one_lt_two_pow (by omega)
  rw [e1,e2]; omega⟩
 obtain ⟨f3,y3,z3,Q3,B3⟩:=sum_ok hS Q1.v Q2.v
 obtain ⟨f4,y4,z4,Q4,_,_,B4⟩:=bmul_ok Q1 Q2 l1 m1 l2 m2 (by omega)
 obtain ⟨g3,s3,x3,ok3,e3,q1,q2,AD⟩:=dx_add g g2 ok1 ok2 (by omega) (by omega) (by omega) (by omega)
 obtain ⟨s4,x4,ok4,e4,q3,q4,MU⟩:=dx_mul g g2 ok1 ok2 (by omega) (by omega) (by omega) (by omega)
 obtain ⟨f5,y5,z5,Q5,_,_,R3⟩:=dx_ratio g3 ok3 (K:=L) (by omega) (by omega)
 obtain ⟨f6,y6,z6,Q6,_,_,R4⟩:=dx_ratio (g != g2) ok4 (K:=L) (by omega) (by omega)
 rw [e3] at Q5
 rw [e4] at Q6
 have uq:∀ {q:Rat} {g g':Bool} {a b a' b':Nat},Rm.Q q g a b→Rm.Q q g' a' b'→g = g'∧a = a'∧b = b':=fun k k'=>⟨by rw [← k.neg,← k'.neg],by rw [← k.abs,← k'.abs],by rw [← k.den,← k'.den]⟩
 obtain ⟨u1,u2,u3⟩:=uq Q5 Q3
 obtain ⟨u4,u5,u6⟩:=uq Q6 Q4
 subst u1 u2 u3 u4 u5 u6
 obtain ⟨ex,hex⟩:∃ ex,min x x2 = ex:=⟨_,rfl⟩
 obtain ⟨o1,ho1⟩:∃ o:Nat,x = ex+(o:Int):=⟨(x - ex).toNat,by omega⟩
 obtain ⟨o2,ho2⟩:∃ o:Nat,x2 = ex+(o:Int):=⟨(x2 - ex).toNat,by omega⟩
 have CM:=fun W=>cmp_val g s x g2 s2 x2 ex o1 o2 ok1 ok2 ho1 ho2 (hide fun W=>ok1.two ok2 g g2 W) W
 have hord:=dq_ord g g2 (valS s * 10 ^ o1) (valS s2 * 10 ^ o2) ex
 rw [← dq_up,← dq_up,← ho1,← ho2] at hord
 rw [← hord] at CM
 have hck:∀ {q:Rat} {g:Bool} {a b:Nat},Rm.Q q g a b→∀ (A:Option Addr) (N C:Nat) (A':Option Addr) (N' C':Nat),Hid (∀ W:World,Num W A N a→Num W A' N' b→Calls Tryz.prog 29 #[.agg #[.bool g,.slice A N C,.slice A' N' C']] W fun e W'=>e = .returned (.int .i64 0)∧Below W.heap.size W W'):=fun {q g a b} k A N C A' N' C'=>hide fun W k1 k2=>rchk_all g A A' N C N' C' a b (fun hs=>Nat.pos_of_ne_zero fun e0=>by have:=k.zero e0; rw [hs] at this; cases this) k.pos k.co W k1 k2
 have ho:∀ {a b:Nat},a < 2 ^ K→b < 2 ^ K→¬ Over (a * b):=fun ha hb=>rb_over (rb_mul ha hb) (by omega)
 exact dx_go w g g2 s s2 x x2 g3 (g != g2) f1 f2 f5 f6 s3 s4 x3 x4 _ y1 z1 y2 z2 y5 z5 y6 z6 HA K1 K2 (hide R1) (hide R2) (hide R3) (hide R4) (hide AD) (hide MU) (hide CM)
  (hide fun W a n c b k l a' n' c' b' k' l' k1 k2 k3 k4=>zadd9_is W a b a' b' n k n' k' c l c' l' y1 z1 y2 z2 f1 f2 f5 y5 z5 k1 k2 k3 k4 (hck Q1 a n c b k l) (hck Q2 a' n' c' b' k' l') (hide B3))
  (hide fun W a n c b k l a' n' c' b' k' l' k1 k2 k3 k4=>zmul_is W a b a' b' n k n' k' c l c' l' y1 z1 y2 z2 f1 f2 f6 y6 z6 k1 k2 k3 k4 (hck Q1 a n c b k l) (hck Q2 a' n' c' b' k' l') (hide B4))
  (hide fun W a n c b k l a' n' c' b' k' l' k1 k2 k3 k4=>cmp_rat f1 f2 a b a' b' n k n' k' c l c' l' _ _ W (dx_fq Q1 k1 k2) (dx_fq Q2 k3 k4) (by rw [Q1.abs,Q2.den]; exact ho l1 m2) (by rw [Q2.abs,Q1.den]; exact ho l2 m1))
  (hide (dx_same f5 y5 z5)) (hide (dx_same f6 y6 z6)) rfl
end Go.Proofs.YtpmmapoabbpaiaaGreat
