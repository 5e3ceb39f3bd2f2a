/- Of what DecBackRow stands on: DbNum DxLaw. -/
import Derived.Test.YtpmmapoabbpaiaaGreatPbc
import Derived.Test.YtpmmapoabbpaiaaGreatPbp
import Derived.Test.YtpmmapoabbpaiaaGreatPbs
import Derived.Test.YtpmmapoabbpaiaaGreatPbo
import Derived.Test.YtpmmapoabbpaiaaGreatPbj
namespace Go.Proofs.YtpmmapoabbpaiaaGreat
open Go.RowKit
theorem fac_of {f:Nat} (hf:2≤f):∀ N:Nat,N≠0→∃ u t:Nat,N = u * f ^ t∧u % f≠0∧0 < u:=by
 intro N
 induction N using Nat.strongRecOn with
 | ind N ih=>
  intro h0
  by_cases hm:N % f = 0
  ·have hq:N / f * f = N:=Nat.div_mul_cancel (Nat.dvd_of_mod_eq_zero hm)
   have hlt:N / f < N:=Nat.div_lt_self (by omega) (by omega)
   obtain ⟨u,t,e,r,p⟩:=ih (N / f) hlt (fun e=>by rw [e] at hq; omega)
   exact ⟨u,t+1,by rw [Nat.pow_succ,← Nat.mul_assoc,← e,hq],r,p⟩
  ·exact ⟨N,0,by simp,hm,by omega⟩
theorem pw_lt {u f t m K:Nat} (hf:2≤f) (hu:0 < u) (hm:m = u * f ^ t) (h:m < 2 ^ K):t < K:=by
 have h1:2 ^ t≤f ^ t:=Nat.pow_le_pow_left hf t
 have h2:f ^ t≤u * f ^ t:=Nat.le_mul_of_pos_left _ hu
 rw [← hm] at h2
 exact (Nat.pow_lt_pow_iff_right (by decide)).1 (Nat.lt_of_le_of_lt h1 (Nat.lt_of_le_of_lt h2 h))
structure Den (d l1 l2 l3 t1 t2 t3:Nat):Prop where
 a1:d = l1 * 10 ^ t1
 b1:l1 % 10≠0
 p1:0 < l1
 a2:l1 = l2 * 2 ^ t2
 b2:l2 % 2≠0
 p2:0 < l2
 a3:l2 = l3 * 5 ^ t3
 b3:l3 % 5≠0
 p3:0 < l3
theorem den_ex {d:Nat} (h:0 < d):∃ l1 l2 l3 t1 t2 t3,Den d l1 l2 l3 t1 t2 t3:=by
 obtain ⟨l1,t1,a1,b1,p1⟩:=fac_of (f:=10) (by decide) d (by omega)
 obtain ⟨l2,t2,a2,b2,p2⟩:=fac_of (f:=2) (by decide) l1 (by omega)
 obtain ⟨l3,t3,a3,b3,p3⟩:=fac_of (f:=5) (by decide) l2 (by omega)
 exact ⟨l1,l2,l3,t1,t2,t3,a1,b1,p1,a2,b2,p2,a3,b3,p3⟩
theorem Den.ts {d l1 l2 l3 t1 t2 t3 K:Nat} (h:Den d l1 l2 l3 t1 t2 t3) (hd:d < 2 ^ K):t1 < K∧t2 < K∧t3 < K:=by
 have c1:=pw_lt (by decide) h.p1 h.a1 hd
 have e1:l1 < 2 ^ K:=Nat.lt_of_le_of_lt (by rw [h.a1]; exact Nat.le_mul_of_pos_right _ (Nat.pow_pos (by decide))) hd
 have c2:=pw_lt (by decide) h.p2 h.a2 e1
 have e2:l2 < 2 ^ K:=Nat.lt_of_le_of_lt (by rw [h.a2]; exact Nat.le_mul_of_pos_right _ (Nat.pow_pos (by decide))) e1
 exact ⟨c1,c2,pw_lt (by decide) h.p3 h.a3 e2⟩
theorem db_low (m:Nat):∃ (lo:Nat) (lb:Bool),(lo = 1↔m = 1)∧∀ (W:World) (a:Option Addr) (n c:Nat),Num W a n m→Calls Tryz.prog 22 #[.agg #[.slice a n c]] W fun en W'=>en = .returned (.tuple #[.int .u64 (lo:Int),.bool lb])∧Below W.heap.size W W':=by
 by_cases hm:m < 4294967296 ^ 2
 ·refine ⟨m,true,Iff.rfl,fun W a n c h=>low_small a n c m W h ?_⟩
  obtain ⟨xs,hn,_,hw,hN,hv,_⟩:=h
  have:=(Pl.val_le_len hw hN 2).2 (by rw [hv]; exact hm)
  omega
 ·refine ⟨0,false,⟨fun e=>by omega,fun e=>by subst e; exact absurd (by decide) hm⟩,fun W a n c h=>low_big a n c m W h ?_⟩
  obtain ⟨xs,hn,_,hw,hN,hv,_⟩:=h
  refine Nat.lt_of_not_le fun k=>hm ?_
  rw [← hv]
  exact (Pl.val_le_len hw hN 2).1 (by omega)
theorem db_without {m f k u:Nat} (hf:2≤f) (hu:0 < u) (hm:m = u * f ^ k) (hr:u % f≠0) (W:World) (a:Option Addr) (n c:Nat) (a':Option Addr) (n' c':Nat) (h:Num W a n m) (h':Num W a' n' f) :
  Calls Tryz.prog 30 #[.agg #[.slice a n c],.agg #[.slice a' n' c']] W fun en W'=>(∃ A N C,en = .returned (.tuple #[.agg #[.slice A N C],.int .i64 (k:Int)])∧Num W' A N u)∧Below W.heap.size W W':=
 (without_c m f k u hf hu hm hr W a n c a' n' c' h h').mono fun en W' ⟨k1,k2⟩=>⟨by
  rcases k1 with ⟨hk,k1⟩|⟨_,A,N,C,k1,k3⟩
  ·subst hk
   have e:m = u:=by simpa using hm
   rw [e] at h
   exact ⟨a,n,c,k1,h.kept k2⟩
  ·exact ⟨A,N,C,k1,k3.num⟩,k2⟩
theorem ans_over {w:World} {base:Nat} {e:Ending} {m:Nat} (h:Ans w base e m) (ho:Over m):e = .returned (.tuple #[.agg #[.slice none 0 0],.int .i64 4]):=by
 rcases h with ⟨a,n,c,_,h⟩|⟨h,_⟩
 ·have h1:=h.num.lt
  have h2:=ho.le
  omega
 ·exact h
def OfSays (g:Bool) (p d:Nat) (V:Value):Prop:=∀ (W:World) (a:Option Addr) (n c:Nat) (b:Option Addr) (k l:Nat),Num W a n p→Num W b k d→Calls Tryz.prog 8 #[.agg #[.bool g,.slice a n c,.slice b k l]] W fun e W'=>e = .returned V∧Below W.heap.size W W'
theorem db_zero {g:Bool} {d:Nat} (hs:g = true→0 < 0) (hd:0 < d) (hg:Nat.gcd 0 d = 1):OfSays g 0 d (.tuple #[.agg #[.bool false,.string ⟨#[]⟩,.int .i64 0],.bool true,.int .i64 0]):=fun W a n c b k l h1 h2=>
 dof_0 W g a b n c k l (h1.zero.2 rfl) (hide fun W' hW'=>rchk_all g a b n c k l 0 d hs hd hg W' (h1.kept hW') (h2.kept hW'))
theorem db_no {g:Bool} {p d l1 l2 l3 t1 t2 t3:Nat} (hs:g = true→0 < p) (hd:0 < d) (hg:Nat.gcd p d = 1) (D:Den d l1 l2 l3 t1 t2 t3) (hp:p≠0) (h3:l3≠1):OfSays g p d (.tuple #[.agg #[.bool false,.string ⟨#[]⟩,.int .i64 0],.bool false,.int .i64 0]):=fun W a n c b k l h1 h2=>by
 obtain ⟨lo,lb,hlo,HL⟩:=db_low l3
 exact dof_no W g a b n c k l p d l1 l2 l3 t1 t2 t3 lo lb h1 h2 (fun e=>hp (h1.zero.1 e)) (hide fun W' hW'=>rchk_all g a b n c k l p d hs hd hg W' (h1.kept hW') (h2.kept hW'))
  (hide (db_without (by decide) D.p1 D.a1 D.b1)) (hide (db_without (by decide) D.p2 D.a2 D.b2)) (hide (db_without (by decide) D.p3 D.a3 D.b3)) (hide HL) (fun e=>h3 (hlo.1 e))
theorem five_two (t:Nat):5 ^ t≤2 ^ (3 * t):=by
 rw [Nat.pow_mul]; exact Nat.pow_le_pow_left (by decide) t
theorem db_yes {g:Bool} {p d l1 l2 t1 t2 t3:Nat} (hs:g = true→0 < p) (hd:0 < d) (hg:Nat.gcd p d = 1) (D:Den d l1 l2 1 t1 t2 t3) (hp:p≠0) (hb:t1≤100000∧t2≤100000∧t3≤100000) :
  (OfSays g p d (.tuple #[.agg #[.bool false,.string ⟨#[]⟩,.int .i64 0],.bool false,.int .i64 4])∧(Over (p * 5 ^ t2 * 2 ^ t3)∨tenTop 65536≤p * 5 ^ t2 * 2 ^ t3)) ∨
  ∃ (s3:ByteArray) (x3:Int),OfSays g p d (.tuple #[.agg #[.bool g,.string s3,.int .i64 x3],.bool true,.int .i64 0])∧DcOk s3 x3∧s3.size≠0∧dq g (valS s3) x3 = dq g (p * 5 ^ t2 * 2 ^ t3) (-(t1:Int) - (t2:Int) - (t3:Int)):=by
 obtain ⟨lo,lb,hlo,HL⟩:=db_low 1
 have hl:=hlo.2 rfl
 have HC:∀ {W:World} {a:Option Addr} {n:Nat} {c:Nat} {b:Option Addr} {k:Nat} {l:Nat},Num W a n p→Num W b k d→Hid (∀ W':World,Below W.heap.size W W'→Calls Tryz.prog 29 #[.agg #[.bool g,.slice a n c,.slice b k l]] W' fun e W2=>e = .returned (.int .i64 0)∧Below W'.heap.size W' W2):=fun {W a n c b k l} h1 h2=>hide fun W' hW'=>rchk_all g a b n c k l p d hs hd hg W' (h1.kept hW') (h2.kept hW')
 have w1:=hide (db_without (f:=10) (by decide) D.p1 D.a1 D.b1)
 have w2:=hide (db_without (f:=2) (by decide) D.p2 D.a2 D.b2)
 have w3:=hide (db_without (f:=5) (by decide) D.p3 D.a3 D.b3)
 have h5:¬ Over (5 ^ t2):=rb_over (e:=3 * t2+1) (Nat.lt_of_le_of_lt (five_two t2) (Nat.pow_lt_pow_right (by decide) (by omega))) (by omega)
 have HP:=hide fun W:World=>(pow_any 5 t2 W (by decide) (by omega)).mono fun en W' ⟨k1,k2⟩=>(⟨zans k1 h5,k2⟩:_∧_)
 have hq0:0 < p * 5 ^ t2:=Nat.mul_pos (by omega) (Nat.pow_pos (by decide))
 have hv0:0 < p * 5 ^ t2 * 2 ^ t3:=Nat.mul_pos hq0 (Nat.pow_pos (by decide))
 have hqv:p * 5 ^ t2≤p * 5 ^ t2 * 2 ^ t3:=Nat.le_mul_of_pos_right _ (Nat.pow_pos (by decide))
 generalize hQ5:5 ^ t2 = q5 at *
 generalize hQ:p * q5 = q at *
 by_cases o1:Over q
 ·refine Or.inl ⟨fun W a n c b k l h1 h2=>?_,Or.inl (o1.mono hqv)⟩
  exact dof_m W g a b n c k l p d l1 l2 1 t1 t2 t3 lo lb q5 0 h1 h2 (fun e=>hp (h1.zero.1 e)) (HC h1 h2) w1 w2 w3 (hide HL) hl HP
   (hide fun W a n c a' n' c' k1 k2=>(mul_any a a' n n' c c' _ _ W k1 k2).mono fun en W' ⟨k3,k4⟩=>⟨ans_over k3 (by rw [hQ]; exact o1),k4⟩)
   (hide fun W a n c k1=>(up_any a n c 0 t3 W k1 (by omega)).mono fun en W' ⟨k3,k4⟩=>⟨zans (m:=0) (by rw [Nat.zero_mul] at k3; exact k3) (fun o=>by have:=o.le; have:0 < 4294967296 ^ Pl.top:=Nat.pow_pos (by decide); omega),k4⟩)
 have HM:Hid (∀ (W:World) (a:Option Addr) (n c:Nat) (a':Option Addr) (n' c':Nat),Num W a n p→Num W a' n' q5→Calls Tryz.prog 25 #[.agg #[.slice a n c],.agg #[.slice a' n' c']] W fun en W'=>(∃ A N C,en = .returned (.tuple #[.agg #[.slice A N C],.int .i64 0])∧Mine W' W.heap.size A N C q)∧Below W.heap.size W W'):=
  hide fun W a n c a' n' c' k1 k2=>(mul_any a a' n n' c c' _ _ W k1 k2).mono fun en W' ⟨k3,k4⟩=>⟨zans (by rw [hQ] at k3; exact k3) o1,k4⟩
 generalize hV:q * 2 ^ t3 = v at *
 by_cases o2:Over v
 ·refine Or.inl ⟨fun W a n c b k l h1 h2=>?_,Or.inl o2⟩
  exact dof_u W g a b n c k l p d l1 l2 1 t1 t2 t3 lo lb q5 q h1 h2 (fun e=>hp (h1.zero.1 e)) (HC h1 h2) w1 w2 w3 (hide HL) hl HP HM
   (hide fun W a n c k1=>(up_any a n c q t3 W k1 (by omega)).mono fun en W' ⟨k3,k4⟩=>⟨ans_over k3 (by rw [hV]; exact o2),k4⟩)
 have HU:Hid (∀ (W:World) (a:Option Addr) (n c:Nat),Num W a n q→Calls Tryz.prog 32 #[.agg #[.slice a n c],.int .i64 (t3:Int)] W fun en W'=>(∃ A N C,en = .returned (.tuple #[.agg #[.slice A N C],.int .i64 0])∧Mine W' W.heap.size A N C v)∧Below W.heap.size W W'):=
  hide fun W a n c k1=>(up_any a n c q t3 W k1 (by omega)).mono fun en W' ⟨k3,k4⟩=>⟨zans (by rw [hV] at k3; exact k3) o2,k4⟩
 obtain ⟨u,z,hu,h10⟩:=tens_of v (by omega)
 have hz:z≤524288:=by
  have c1:v < 4294967296 ^ Pl.top:=Nat.lt_of_not_le fun e=>o2 ⟨e⟩
  have c2:(4294967296:Nat) ^ Pl.top = 2 ^ (32 * Pl.top):=by rw [Nat.pow_mul]
  rw [c2] at c1
  have:=pw_lt (by decide) (by omega) hu c1
  have:=Pl.top_eq
  omega
 obtain ⟨Y,hY⟩:∃ Y,Y = -(t1:Int) - (t2:Int) - (t3:Int):=⟨_,rfl⟩
 have hY0:-4000000≤Y:=by omega
 have hY1:Y≤0:=by omega
 have hbb:t1≤1048576∧t2≤1048576∧t3≤1048576:=by omega
 rw [← hY]
 by_cases o3:tenTop 65536≤u
 ·refine Or.inl ⟨fun W a n c b k l h1 h2=>?_,Or.inr (Nat.le_trans o3 (by rw [hu]; exact Nat.le_mul_of_pos_right _ (Nat.pow_pos (by decide))))⟩
  exact dof_b W g a b n c k l p d l1 l2 1 t1 t2 t3 lo lb q5 q v h1 h2 (fun e=>hp (h1.zero.1 e)) (HC h1 h2) w1 w2 w3 (hide HL) hl HP HM HU hbb
   (hide fun W a n c kn=>by rw [← hY]; exact whole_c g v Y z u hu h10 hz (by omega) (by omega) (Or.inr ⟨o3,rfl⟩) W a n c kn)
 obtain ⟨g4,s4,x4,e4,hE⟩:=mkA_ex g u (Y+(z:Int))
 obtain ⟨s3,z2,hVV,hok,hval⟩:=mkA_near hE (by omega) (by omega) (by omega) (by omega)
 rw [hVV] at hE
 refine Or.inr ⟨s3,Y+(z:Int)+(z2:Int),fun W a n c b k l h1 h2=>?_,hok,fun e=>?_,?_⟩
 ·exact dof_ok W g a b n c k l p d l1 l2 1 t1 t2 t3 lo lb q5 q v g s3 _ h1 h2 (fun e=>hp (h1.zero.1 e)) (HC h1 h2) w1 w2 w3 (hide HL) hl HP HM HU hbb
   (hide fun W a n c kn=>by rw [← hY]; exact whole_c g v Y z u hu h10 hz (by omega) (by omega) (Or.inl ⟨by omega,hE⟩) W a n c kn)
 ·rw [dx_empty e,Nat.zero_mul] at hval; omega
 ·rw [dq_up,hval,dq_up,← hu]
theorem dx_same (f:Bool) (m d:Nat) (W:World) (a:Option Addr) (n c:Nat) (b:Option Addr) (k l:Nat) (a':Option Addr) (n' c':Nat) (b':Option Addr) (k' l':Nat) (h1:Num W a n m) (h2:Num W b k d) (h3:Num W a' n' m) (h4:Num W b' k' d) :
  Calls Tryz.prog 9 #[.agg #[.bool f,.slice a n c,.slice b k l],.agg #[.bool f,.slice a' n' c',.slice b' k' l']] W fun e W'=>e = .returned (.bool true)∧Below W.heap.size W W':=
 dsm_t W f a b a' b' n k n' k' c l c' l' m d h1 h2 h3 h4
  (hide fun W k1 k2=>(same_any a a' n n' c c' m m W k1 k2).mono fun e W' ⟨k3,k4⟩=>⟨by rw [k3,decide_eq_true rfl],k4⟩)
  (hide fun W k1 k2=>(same_any b b' k k' l l' d d W k1 k2).mono fun e W' ⟨k3,k4⟩=>⟨by rw [k3,decide_eq_true rfl],k4⟩)
end Go.Proofs.YtpmmapoabbpaiaaGreat
