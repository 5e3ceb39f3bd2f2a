/- Of what DecExactRow stands on: DxNum. -/
import Derived.Test.YtpmmapoabbpaiaaGreatPbd
import Derived.Test.YtpmmapoabbpaiaaGreatPbk
import Derived.Test.YtpmmapoabbpaiaaGreatPbn
import Derived.Test.YtpmmapoabbpaiaaGreatPbs
namespace Go.Proofs.YtpmmapoabbpaiaaGreat
open Go.RowKit
def ptn (e:Int):Rat:=mkRat ((10 ^ e.toNat:Nat):Int) (10 ^ (-e).toNat)
theorem ten_ne (n:Nat):(10:Nat) ^ n≠0:=Nat.ne_of_gt (Nat.pow_pos (by decide))
theorem ptn_mul (x y:Int):ptn (x+y) = ptn x * ptn y:=by
 unfold ptn
 rw [Rat.mkRat_mul_mkRat,Rat.mkRat_eq_iff (ten_ne _) (Nat.mul_ne_zero (ten_ne _) (ten_ne _))]
 have e:10 ^ (x+y).toNat * (10 ^ (-x).toNat * 10 ^ (-y).toNat) = 10 ^ x.toNat * 10 ^ y.toNat * 10 ^ (-(x+y)).toNat:=by
  rw [← Nat.pow_add,← Nat.pow_add,← Nat.pow_add,← Nat.pow_add]
  congr 1; omega
 exact_mod_cast e
theorem ptn_pos (e:Int):0 < ptn e:=by
 unfold ptn
 rw [Rat.mkRat_eq_div,Rat.div_def]
 refine Rat.mul_pos ?_ ?_
 ·have:(0:Nat) < 10 ^ e.toNat:=Nat.pow_pos (by decide)
  exact_mod_cast this
 ·rw [Rat.inv_pos]
  have:(0:Nat) < 10 ^ (-e).toNat:=Nat.pow_pos (by decide)
  exact_mod_cast this
theorem ptn_nat (o:Nat):ptn (o:Int) = ((10 ^ o:Nat):Rat):=by
 unfold ptn
 rw [Int.toNat_natCast,show (-(o:Int)).toNat = 0 by omega,Nat.pow_zero,Rat.mkRat_eq_div]
 have h1:(1:Rat)⁻¹ = 1:=by have:=Rat.mul_inv_cancel (1:Rat) (by decide); rwa [Rat.one_mul] at this
 simp [Rat.div_def,h1]
def dq (g:Bool) (M:Nat) (x:Int):Rat:=((Rm.sgn g M:Int):Rat) * ptn x
theorem dq_up (g:Bool) (M:Nat) (x:Int) (o:Nat):dq g M (x+(o:Int)) = dq g (M * 10 ^ o) x:=by
 unfold dq
 rw [ptn_mul,ptn_nat,Rm.sgn_scale,Rat.intCast_mul,Rat.mul_assoc,Rat.mul_comm (ptn x),← Rat.mul_assoc]
 simp [Rat.mul_assoc]
theorem dq_zero (g:Bool) (x:Int):dq g 0 x = 0:=by
 unfold dq; rw [Rm.sgn_zero]; simp
theorem dq_add {g g2 g3:Bool} {A B C:Nat} (e:Int) (h:Rm.sgn g A+Rm.sgn g2 B = Rm.sgn g3 C):dq g A e+dq g2 B e = dq g3 C e:=by
 unfold dq
 rw [← Rat.add_mul,← Rat.intCast_add,h]
theorem dq_mul (g g2:Bool) (A B:Nat) (x y:Int):dq g A x * dq g2 B y = dq (g != g2) (A * B) (x+y):=by
 unfold dq
 rw [Rm.sgn_mul,ptn_mul,Rat.intCast_mul,Rat.mul_assoc,Rat.mul_assoc,Rat.mul_comm (ptn x),Rat.mul_assoc,Rat.mul_comm (ptn y)]
theorem dvl_sgn (g:Bool) (A:Nat):dvl g A = Rm.sgn g A:=rfl
theorem dq_ord (g g2:Bool) (A B:Nat) (e:Int):ordR (dq g A e) (dq g2 B e) = cmpZ (dvl g A) (dvl g2 B):=by
 have h:dq g A e < dq g2 B e↔dvl g A < dvl g2 B:=by
  unfold dq
  rw [Rat.mul_lt_mul_right (ptn_pos e),Rat.intCast_lt_intCast]; exact Iff.rfl
 have h2:dq g A e = dq g2 B e↔dvl g A = dvl g2 B:=by
  constructor
  ·intro k
   have k1:¬ dvl g A < dvl g2 B:=fun q=>by have:=h.2 q; rw [k] at this; exact Rat.lt_irrefl this
   have k2:¬ dvl g2 B < dvl g A:=fun q=>by
    have:dq g2 B e < dq g A e:=by
     unfold dq
     rw [Rat.mul_lt_mul_right (ptn_pos e),Rat.intCast_lt_intCast]; exact q
    rw [k] at this; exact Rat.lt_irrefl this
   omega
  ·intro k
   unfold dq
   rw [dvl_sgn,dvl_sgn] at k
   rw [k]
 unfold ordR cmpZ
 by_cases k:dq g A e = dq g2 B e
 ·rw [if_pos k,h2.1 k,if_neg (by omega),if_neg (by omega)]
 ·rw [if_neg k]
  have k':¬ dvl g A = dvl g2 B:=fun q=>k (h2.2 q)
  by_cases q:dq g A e < dq g2 B e
  ·rw [if_pos q,if_pos (h.1 q)]
  ·have q':¬ dvl g A < dvl g2 B:=fun r=>q (h.2 r)
   rw [if_neg q,if_neg q',if_pos (by omega)]
theorem dq_mk (g:Bool) (M:Nat) (x:Int):dq g M x = mkRat (Rm.sgn g (M * 10 ^ x.toNat)) (10 ^ (-x).toNat):=by
 unfold dq ptn
 rw [Rat.mkRat_eq_div,Rat.mkRat_eq_div,Rm.sgn_scale,Rat.intCast_mul,Rat.div_def,Rat.div_def,Rat.mul_assoc]
theorem dx_empty {s:ByteArray} (h:s.size = 0):valS s = 0:=by
 have:digs s = []:=by
  have hl:(digs s).length = s.size:=by simp [digs]
  exact List.eq_nil_of_length_eq_zero (by omega)
 unfold valS
 rw [this]
 rfl
theorem dx_low {s:ByteArray} {x:Int} (h:DcOk s x) (h0:s.size≠0):10 ^ (s.size - 1)≤valS s∧valS s % 10≠0:=by
 have hl:(digs s).length = s.size:=by simp [digs]
 have hat:=h.ok.digS.2.2
 constructor
 ·have h0':0 < s.size:=by omega
  have hdl:=hat 0 h0'
  have hne:=h.fst h0'
  unfold valS
  match hds:digs s with
  | []=>rw [hds] at hl; simp at hl; omega
  | d :: r=>
   rw [hds] at hdl hl
   have hd0:d≠0:=fun e=>hne (by simpa [e] using hdl)
   have:=Pl.lead_low (d:=d) (ds:=r) hd0
   rw [show s.size - 1 = r.length by simp at hl; omega]
   exact this
 ·obtain ⟨k,hk⟩:∃ k,k+1 = s.size:=⟨s.size - 1,by omega⟩
  have e:=dval_snoc (digs s) k (by omega)
  rw [List.take_of_length_le (by omega)] at e
  have h1:=hat k (by omega)
  have h2:=h.lst k hk
  have h3:=h.ok.digS.2.1 ((digs s)[k]'(by omega)) (List.getElem_mem _)
  rw [List.getElem?_eq_getElem (by omega),Option.getD_some] at e h1
  unfold valS
  omega
theorem dx_ten (n:Nat):10 ^ n≤2 ^ (4 * n):=by
 rw [Nat.pow_mul]; exact Nat.pow_le_pow_left (by decide) n
theorem dx_lt {s:ByteArray} {x:Int} (h:DcOk s x) (o:Nat):valS s * 10 ^ o < 10 ^ (s.size+o):=valS_lt s o h.ok
theorem dx_number (g:Bool) {s:ByteArray} {x:Int} (h:DcOk s x) (W:World):Calls Tryz.prog 26 #[.agg #[.bool g,.string s,.int .i64 x]] W fun en W'=>(∃ a n c,en = .returned (.agg #[.slice a n c])∧Mine W' W.heap.size a n c (valS s))∧Below W.heap.size W W':=by
 by_cases h0:s.size = 0
 ·rw [dx_empty h0]
  refine (dnum_no W g s x (hide fun W=>(parse_any s W (by omega)).mono fun e W' ⟨h,hb⟩=>⟨by
   rcases h with ⟨h1,_⟩|⟨_,h1⟩|⟨i,hi,_⟩|⟨_,_,_,h1,_⟩
   ·omega
   ·exact h1
   ·omega
   ·omega,hb⟩)).mono fun e W' ⟨h1,h2⟩=>⟨⟨none,0,0,h1,⟨[],rfl,Or.inl ⟨rfl,rfl⟩,Pl.wf_nil,Pl.norm_nil,rfl,by omega⟩⟩,h2⟩
 ·exact dnum_any g s x h.ok h.sz h0 W
theorem dx_ratio (g:Bool) {s:ByteArray} {x:Int} {K:Nat} (h:DcOk s x) (hK:4 * (s.size+x.natAbs)+4≤K) (hK2:K≤100000) :
  ∃ (f:Bool) (R S:Nat),Rm.Q (dq g (valS s) x) f R S∧R < 2 ^ K∧S < 2 ^ K∧∀ W:World,Calls Tryz.prog 7 #[.agg #[.bool g,.string s,.int .i64 x]] W fun en W'=>(∃ A N C A' N' C',en = .returned (.tuple #[.agg #[.bool f,.slice A N C,.slice A' N' C'],.int .i64 0])∧Mine W' W.heap.size A N C R∧Mine W' W.heap.size A' N' C' S)∧Below W.heap.size W W':=by
 have hlo:=h.lo
 have hhi:=h.hi
 obtain ⟨p,hp⟩:∃ p:Nat,x.toNat = p:=⟨_,rfl⟩
 obtain ⟨q,hq⟩:∃ q:Nat,(-x).toNat = q:=⟨_,rfl⟩
 have up:∀ {v n:Nat},v < 10 ^ n→4 * n≤K→v < 2 ^ K:=fun {v n} hv hn=>Nat.lt_of_lt_of_le (Nat.lt_of_lt_of_le hv (dx_ten n)) (Nat.pow_le_pow_right (by decide) hn)
 have b1:valS s * 10 ^ p < 2 ^ K:=up (dx_lt h p) (by omega)
 have b2:10 ^ p < 2 ^ K:=up (n:=p+1) (Nat.pow_lt_pow_right (by decide) (by omega)) (by omega)
 have b3:10 ^ q < 2 ^ K:=up (n:=q+1) (Nat.pow_lt_pow_right (by decide) (by omega)) (by omega)
 have hm:=Rm.Q.made (s:=g) (n:=valS s * 10 ^ p) (d:=10 ^ q) (ten_ne q)
 have e:=dq_mk g (valS s) x
 rw [hp,hq] at e
 rw [← e] at hm
 refine ⟨_,_,_,hm,Nat.lt_of_le_of_lt (Nat.div_le_self _ _) b1,Nat.lt_of_le_of_lt (Nat.div_le_self _ _) b3,fun W=>?_⟩
 exact drat_ok W g s x p q (valS s) (10 ^ p) (10 ^ q) (valS s * 10 ^ p) _ _ _ hlo hhi (by omega) (by omega) (hide fun W=>h.chk g W) (hide fun W=>dx_number g h W)
  (hide fun W=>(pow_any 10 p W (by decide) (by omega)).mono fun en W' ⟨k1,k2⟩=>⟨zans k1 (rb_over b2 (by omega)),k2⟩)
  (hide fun W=>(pow_any 10 q W (by decide) (by omega)).mono fun en W' ⟨k1,k2⟩=>⟨zans k1 (rb_over b3 (by omega)),k2⟩)
  (hide fun W a n c a' n' c' k1 k2=>(mul_any a a' n n' c c' _ _ W k1 k2).mono fun en W' ⟨k3,k4⟩=>⟨zans k3 (rb_over b1 (by omega)),k4⟩)
  (hide fun W a n c a' n' c' k1 k2=>ymake_any g a a' n n' c c' _ _ W k1 k2 (Nat.pow_pos (by decide)))
theorem dx_made (g:Bool) (N:Nat) {x:Int} {n:Nat} (hN:N < 10 ^ n) (hn:n≤65000) (h0:-100000≤x) (h1:x≤100000):∃ (s3:ByteArray) (x3:Int),MkA g N x (.tuple #[.agg #[.bool g,.string s3,.int .i64 x3],.int .i64 0])∧DcOk s3 x3∧dq g (valS s3) x3 = dq g N x∧s3.size≤n∧x3.natAbs≤x.natAbs+n:=by
 have hT:N < tenTop 65536:=Nat.lt_of_lt_of_le hN (le_top (by omega))
 by_cases hz:N = 0
 ·have hE:MkA g N x (.tuple #[.agg #[.bool g,.string ⟨#[]⟩,.int .i64 0],.int .i64 0]):=Or.inl ⟨hz,rfl⟩
  refine ⟨⟨#[]⟩,0,hE,(mkA_num hE hT).2.1,?_,Nat.zero_le _,by omega⟩
  rw [dx_empty rfl,hz,dq_zero,dq_zero]
 ·obtain ⟨g4,s4,x4,e4,hE⟩:=mkA_ex g N x
  obtain ⟨s3,z,hV,hok,hval⟩:=mkA_near hE hz hT (by omega) (by omega)
  rw [hV] at hE
  have hne:s3.size≠0:=fun e=>hz (by rw [← hval,dx_empty e,Nat.zero_mul])
  obtain ⟨a,_⟩:=dx_low hok hne
  have b:10 ^ (s3.size - 1) * 10 ^ z < 10 ^ n:=Nat.lt_of_le_of_lt (by rw [← hval]; exact Nat.mul_le_mul_right _ a) hN
  rw [← Nat.pow_add] at b
  have:=(Nat.pow_lt_pow_iff_right (by decide)).1 b
  refine ⟨s3,_,hE,hok,?_,by omega,by omega⟩
  rw [dq_up,hval]
theorem dx_add (g g2:Bool) {s s2:ByteArray} {x x2:Int} (h:DcOk s x) (h2:DcOk s2 x2) (l1:s.size≤800) (l2:s2.size≤800) (b1:x.natAbs≤1500) (b2:x2.natAbs≤1500) :
  ∃ (g3:Bool) (s3:ByteArray) (x3:Int),DcOk s3 x3∧dq g3 (valS s3) x3 = dq g (valS s) x+dq g2 (valS s2) x2∧s3.size≤4000∧x3.natAbs≤6000∧∀ W:World,Calls Tryz.prog 10 #[.agg #[.bool g,.string s,.int .i64 x],.agg #[.bool g2,.string s2,.int .i64 x2]] W fun e W'=>e = .returned (.tuple #[.agg #[.bool g3,.string s3,.int .i64 x3],.int .i64 0])∧Below W.heap.size W W':=by
 have HC:=hide fun W=>h.two h2 g g2 W
 have z0:DcOk ⟨#[]⟩ 0:=(mkA_num (g:=false) (N:=0) (x:=0) (Or.inl ⟨rfl,rfl⟩) (tenTop_pos _)).2.1
 by_cases ha:s.size = 0
 ·by_cases hb:s2.size = 0
  ·have e:∀ g3,dq g3 (valS ⟨#[]⟩) 0 = dq g (valS s) x+dq g2 (valS s2) x2:=fun g3=>by
    rw [dx_empty rfl,dx_empty ha,dx_empty hb,dq_zero,dq_zero,dq_zero,Rat.add_zero]
   cases g <;> cases g2
   ·exact ⟨false,⟨#[]⟩,0,z0,e _,by decide,by decide,fun W=>dadd_zz_ff W s x s2 x2 ha hb HC⟩
   ·exact ⟨false,⟨#[]⟩,0,z0,e _,by decide,by decide,fun W=>dadd_zz_ft W s x s2 x2 ha hb HC⟩
   ·exact ⟨false,⟨#[]⟩,0,z0,e _,by decide,by decide,fun W=>dadd_zz_tf W s x s2 x2 ha hb HC⟩
   ·exact ⟨true,⟨#[]⟩,0,z0,e _,by decide,by decide,fun W=>dadd_zz_tt W s x s2 x2 ha hb HC⟩
  ·exact ⟨g2,s2,x2,h2,by rw [dx_empty ha,dq_zero,Rat.zero_add],by omega,by omega,fun W=>dadd_z1 W g s x g2 s2 x2 ha hb (by omega) HC⟩
 by_cases hb:s2.size = 0
 ·exact ⟨g,s,x,h,by rw [dx_empty hb,dq_zero,Rat.add_zero],by omega,by omega,fun W=>dadd_z2 W g s x g2 s2 x2 ha hb (by omega) HC⟩
 obtain ⟨ex,hex⟩:∃ ex,min x x2 = ex:=⟨_,rfl⟩
 obtain ⟨o1,ho1⟩:∃ o:Nat,x = ex+(o:Int):=⟨(x - ex).toNat,by omega⟩
 obtain ⟨o2,ho2⟩:∃ o:Nat,x2 = ex+(o:Int):=⟨(x2 - ex).toNat,by omega⟩
 obtain ⟨T,hT⟩:∃ T,s.size+o1 = T:=⟨_,rfl⟩
 obtain ⟨T2,hT2⟩:∃ T,s2.size+o2 = T:=⟨_,rfl⟩
 obtain ⟨n,hn⟩:∃ n:Nat,max (T:Int) (T2:Int) = (n:Int):=⟨max T T2,by omega⟩
 have hM:=dx_lt h o1
 have hN:=dx_lt h2 o2
 have q1:dq g (valS s) x = dq g (valS s * 10 ^ o1) ex:=by rw [ho1,dq_up]
 have q2:dq g2 (valS s2) x2 = dq g2 (valS s2 * 10 ^ o2) ex:=by rw [ho2,dq_up]
 have m1:0 < valS s:=val_pos h.ok ha h.cd
 have m2:0 < valS s2:=val_pos h2.ok hb h2.cd
 have m3:0 < valS s * 10 ^ o1:=Nat.mul_pos m1 (Nat.pow_pos (by decide))
 have m4:0 < valS s2 * 10 ^ o2:=Nat.mul_pos m2 (Nat.pow_pos (by decide))
 have D:=fun W=>dadd_go g s x g2 s2 x2 ex T T2 n (1+n) (1+n - T) o1 (1+n - T2) o2 h.sz h2.sz h.lo h.hi h2.lo h2.hi ha hb (hide h.ok) (hide h2.ok) HC hex (hide (by omega)) (hide (by omega)) hn (by omega) (by omega) hT (by omega) hT2 (by omega) _ _ (hide rfl) (hide rfl) W
 rw [q1,q2]
 obtain ⟨L,hL⟩:∃ L,L = 3900:=⟨_,rfl⟩
 have t1:valS s * 10 ^ o1 < 10 ^ L:=Nat.lt_of_lt_of_le hM (Nat.pow_le_pow_right (by decide) (by omega))
 have t2:valS s2 * 10 ^ o2 < 10 ^ L:=Nat.lt_of_lt_of_le hN (Nat.pow_le_pow_right (by decide) (by omega))
 generalize valS s * 10 ^ o1 = A at *
 generalize valS s2 * 10 ^ o2 = B at *
 have t3:A+B < 10 ^ (L+1):=by rw [Nat.pow_succ]; omega
 have top:∀ {v:Nat},v < 10 ^ (L+1)→v < tenTop 65536:=fun hv=>Nat.lt_of_lt_of_le hv (le_top (by omega))
 by_cases hg:g = g2
 ·subst hg
  obtain ⟨s3,x3,k1,k2,k3,k4,k5⟩:=dx_made g (A+B) (x:=ex) t3 (by omega) (by omega) (by omega)
  refine ⟨g,s3,x3,k2,?_,by omega,by omega,fun W=>(D W).mono fun e W' ⟨V,r1,r2,r3⟩=>⟨?_,r3⟩⟩
  ·rw [k3]; exact (dq_add ex (Rm.sgn_add g A B).symm).symm
  ·rw [r2,r1.uniq (Or.inl ⟨rfl,Or.inl ⟨top t3,k1⟩⟩)]
 ·have hg2:g2 = !g:=by cases g <;> cases g2 <;> first|rfl|exact absurd rfl hg
  subst hg2
  rcases Nat.lt_trichotomy A B with hlt|heq|hgt
  ·obtain ⟨s3,x3,k1,k2,k3,k4,k5⟩:=dx_made (!g) (B - A) (x:=ex) (n:=L+1) (by omega) (by omega) (by omega) (by omega)
   refine ⟨!g,s3,x3,k2,?_,by omega,by omega,fun W=>(D W).mono fun e W' ⟨V,r1,r2,r3⟩=>⟨?_,r3⟩⟩
   ·rw [k3]; exact (dq_add ex (by cases g <;> simp only [Rm.sgn,Bool.not_true,Bool.not_false,Bool.false_eq_true,if_true,if_false] <;> omega)).symm
   ·rw [r2,r1.uniq (Or.inr ⟨hg,Or.inr (Or.inr ⟨hlt,k1⟩)⟩)]
  ·subst heq
   refine ⟨false,⟨#[]⟩,0,z0,?_,by decide,by decide,fun W=>(D W).mono fun e W' ⟨V,r1,r2,r3⟩=>⟨?_,r3⟩⟩
   ·rw [dx_empty rfl,dq_zero]
    have:=dq_add (g:=g) (g2:=!g) (g3:=false) (A:=A) (B:=A) (C:=0) ex (by cases g <;> simp only [Rm.sgn,Bool.not_true,Bool.not_false,Bool.false_eq_true,if_true,if_false] <;> omega)
    rw [this,dq_zero]
   ·rw [r2,r1.uniq (Or.inr ⟨hg,Or.inl ⟨rfl,rfl⟩⟩)]
  ·obtain ⟨s3,x3,k1,k2,k3,k4,k5⟩:=dx_made g (A - B) (x:=ex) (n:=L+1) (by omega) (by omega) (by omega) (by omega)
   refine ⟨g,s3,x3,k2,?_,by omega,by omega,fun W=>(D W).mono fun e W' ⟨V,r1,r2,r3⟩=>⟨?_,r3⟩⟩
   ·rw [k3]; exact (dq_add ex (by cases g <;> simp only [Rm.sgn,Bool.not_true,Bool.not_false,Bool.false_eq_true,if_true,if_false] <;> omega)).symm
   ·rw [r2,r1.uniq (Or.inr ⟨hg,Or.inr (Or.inl ⟨hgt,k1⟩)⟩)]
theorem dx_mul (g g2:Bool) {s s2:ByteArray} {x x2:Int} (h:DcOk s x) (h2:DcOk s2 x2) (l1:s.size≤800) (l2:s2.size≤800) (b1:x.natAbs≤1500) (b2:x2.natAbs≤1500) :
  ∃ (s3:ByteArray) (x3:Int),DcOk s3 x3∧dq (g != g2) (valS s3) x3 = dq g (valS s) x * dq g2 (valS s2) x2∧s3.size≤4000∧x3.natAbs≤8000∧∀ W:World,Calls Tryz.prog 11 #[.agg #[.bool g,.string s,.int .i64 x],.agg #[.bool g2,.string s2,.int .i64 x2]] W fun e W'=>e = .returned (.tuple #[.agg #[.bool (g != g2),.string s3,.int .i64 x3],.int .i64 0])∧Below W.heap.size W W':=by
 have HC:=hide fun W=>h.two h2 g g2 W
 have z0:DcOk ⟨#[]⟩ 0:=(mkA_num (g:=false) (N:=0) (x:=0) (Or.inl ⟨rfl,rfl⟩) (tenTop_pos _)).2.1
 by_cases ha:s.size = 0
 ·exact ⟨⟨#[]⟩,0,z0,by rw [dx_empty rfl,dx_empty ha,dq_zero,dq_zero,Rat.zero_mul],by decide,by decide,fun W=>dmul_z1 W g s x g2 s2 x2 _ rfl ha HC⟩
 by_cases hb:s2.size = 0
 ·exact ⟨⟨#[]⟩,0,z0,by rw [dx_empty rfl,dx_empty hb,dq_zero,dq_zero,Rat.mul_zero],by decide,by decide,fun W=>dmul_z2 W g s x g2 s2 x2 _ rfl ha hb HC⟩
 have m1:0 < valS s:=val_pos h.ok ha h.cd
 have m2:0 < valS s2:=val_pos h2.ok hb h2.cd
 have hM:=dx_lt h 0
 have hN:=dx_lt h2 0
 rw [Nat.pow_zero,Nat.mul_one,Nat.add_zero] at hM hN
 obtain ⟨L,hL⟩:∃ L,s.size+s2.size = L:=⟨_,rfl⟩
 have hQ:valS s * valS s2 < 10 ^ L:=by rw [← hL,Nat.pow_add]; exact Nat.mul_lt_mul'' hM hN
 have hQ2:valS s * valS s2 < 2 ^ (4 * L):=Nat.lt_of_lt_of_le hQ (dx_ten L)
 have H1:=hide fun W=>dx_number g h W
 have H2:=hide fun W=>dx_number g2 h2 W
 have hmul:=dq_mul g g2 (valS s) (valS s2) x x2
 have hQ0:valS s * valS s2≠0:=Nat.ne_of_gt (Nat.mul_pos m1 m2)
 generalize valS s = A at *
 generalize valS s2 = B at *
 obtain ⟨u,z,hu,h10⟩:=tens_of (A * B) hQ0
 have hz:z≤L:=by
  have c1:10 ^ z≤u * 10 ^ z:=Nat.le_mul_of_pos_left _ (by omega)
  exact Nat.le_of_lt ((Nat.pow_lt_pow_iff_right (by decide)).1 (Nat.lt_of_le_of_lt (by rw [← hu] at c1; exact c1) hQ))
 have hul:u < 10 ^ L:=by
  have c1:u≤u * 10 ^ z:=Nat.le_mul_of_pos_right _ (Nat.pow_pos (by decide))
  exact Nat.lt_of_le_of_lt (by rw [← hu] at c1; exact c1) hQ
 obtain ⟨s3,x3,k1,k2,k3,k4,k5⟩:=dx_made (g != g2) u (x:=x+x2+(z:Int)) hul (by omega) (by omega) (by omega)
 refine ⟨s3,x3,k2,?_,by omega,by omega,fun W=>?_⟩
 ·rw [k3,dq_up,← hu]; exact hmul.symm
 ·exact dmul_go W g s x g2 s2 x2 A B (A * B) _ s3 x3 0 _ rfl ha hb h.lo h.hi h2.lo h2.hi HC H1 H2 (hide fun W a n c a' n' c' k1 k2=>(mul_any a a' n n' c c' _ _ W k1 k2).mono fun en W' ⟨k3,k4⟩=>⟨zans k3 (rb_over hQ2 (by omega)),k4⟩)
   (hide fun W a n c kn=>whole_c (g != g2) (A * B) (x+x2) z u hu h10 (by omega) (by omega) (by omega) (Or.inl ⟨Nat.lt_of_lt_of_le hul (le_top (by omega)),k1⟩) W a n c kn)
end Go.Proofs.YtpmmapoabbpaiaaGreat
