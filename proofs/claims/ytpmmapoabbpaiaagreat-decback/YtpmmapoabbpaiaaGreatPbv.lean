/- Of what DecBackRow stands on: DbLaw. -/
import Derived.Test.YtpmmapoabbpaiaaGreatPbt
import Derived.Test.YtpmmapoabbpaiaaGreatPbu
import Derived.Test.YtpmmapoabbpaiaaGreatPas
namespace Go.Proofs.YtpmmapoabbpaiaaGreat
open Go.RowKit
theorem db_chk (s:Bool) (a b:Option Addr) (n c k l:Nat) (xs ys:List Nat) (w:World) (hn:xs.length = n) (hnb:n≤9223372036854775807) (hl:Lim w a xs) (hw:Pl.Wf xs) (hk:ys.length = k) (hkb:k≤9223372036854775807) (hly:Lim w b ys) (hwy:Pl.Wf ys) :
  (∀ W:World,Below w.heap.size w W→Calls Tryz.prog 29 #[.agg #[.bool s,.slice a n c,.slice b k l]] W fun e W'=>e = .returned (.int .i64 20)∧Below W.heap.size W W') ∨
  ∃ p d:Nat,Num w a n p∧Num w b k d∧0 < d∧Nat.gcd p d = 1∧(s = true→0 < p):=by
 rcases Nat.eq_zero_or_pos k with z'|z'
 ·subst z'
  exact Or.inl fun W _=>rk_den s a n c b l W
 by_cases hneg:s = true∧n = 0
 ·obtain ⟨rfl,rfl⟩:=hneg
  exact Or.inl fun W _=>rk_neg a c b k l z' W
 have hs:s = true→0 < n:=fun e=>Nat.pos_of_ne_zero fun e2=>hneg ⟨e,e2⟩
 by_cases hc:chk2 xs ys = 0
 case neg=>
  refine Or.inl fun W hW=>?_
  have hG:∀ W':World,Below W.heap.size W W'→Calls Tryz.prog 72 #[.agg #[.slice a n c],.agg #[.slice b k l]] W' fun e w'=>e = .returned (.tuple #[.agg #[.slice none 0 0],.int .i64 (chk2 xs ys)])∧Below W'.heap.size W' w':=fun W' hW'=>gcd_bad a n c xs b k l ys W' hn hk hnb hkb (hl.below (gr_trans hW hW')) (hly.below (gr_trans hW hW')) hc
  cases s
  ·exact rk_err_f a n c b k l _ W z' (by simpa using hc) (hide hG)
  ·exact rk_err_t a n c b k l _ W z' (hs rfl) (by simpa using hc) (hide hG)
 have c1:chk xs = 0:=by
  unfold chk2 at hc
  by_cases h:chk xs = 0
  ·exact h
  ·rw [if_neg h] at hc; exact absurd hc h
 have c2:chk ys = 0:=by unfold chk2 at hc; rw [if_pos c1] at hc; exact hc
 have gN:=dck_num hn hl hw c1
 have gD:=dck_num hk hly hwy c2
 generalize Pl.val xs = p at *
 generalize Pl.val ys = d at *
 have hD0:0 < d:=by have:=gD.zero; omega
 by_cases hg:Nat.gcd p d = 1
 case neg=>
  refine Or.inl fun W hW=>?_
  cases s
  ·exact rk_big_f a n c p b k l d W z' (gN.kept hW) (gD.kept hW) hg
  ·exact rk_big_t a n c p b k l d W z' (hs rfl) (gN.kept hW) (gD.kept hW) hg
 exact Or.inr ⟨p,d,gN,gD,hD0,hg,fun e=>by have:=hs e; have:=gN.zero; omega⟩
theorem q_mk {g:Bool} {p d:Nat} (hs:g = true→0 < p) (hd:0 < d) (hg:Nat.gcd p d = 1):Rm.Q (mkRat (Rm.sgn g p) d) g p d:=by
 have h:=Rm.Q.made (s:=g) (n:=p) (d:=d) (by omega)
 rw [hg,Nat.div_one,Nat.div_one] at h
 have e:(g && !decide (p = 0)) = g:=by
  cases g
  ·rfl
  ·have:=hs rfl
   rw [decide_eq_false (by omega)]; rfl
 rw [e] at h
 exact h
theorem q_same {q:Rat} {g g':Bool} {a b a' b':Nat} (k:Rm.Q q g a b) (k':Rm.Q q g' a' b'):g = g'∧a = a'∧b = b':=⟨by rw [← k.neg,← k'.neg],by rw [← k.abs,← k'.abs],by rw [← k.den,← k'.den]⟩
theorem dq_den {g:Bool} {p d l1 l2 t1 t2 t3:Nat} (D:Den d l1 l2 1 t1 t2 t3) (hd:0 < d):dq g (p * 5 ^ t2 * 2 ^ t3) (-(t1:Int) - (t2:Int) - (t3:Int)) = mkRat (Rm.sgn g p) d:=by
 rw [dq_mk,show (-(t1:Int) - (t2:Int) - (t3:Int)).toNat = 0 by omega,show (-(-(t1:Int) - (t2:Int) - (t3:Int))).toNat = t1+t2+t3 by omega,Nat.pow_zero,Nat.mul_one]
 rw [Rat.mkRat_eq_iff (ten_ne _) (by omega),← Rm.sgn_scale,← Rm.sgn_scale]
 congr 1
 rw [D.a1,D.a2,D.a3,Nat.one_mul,Nat.pow_add,Nat.pow_add]
 have e2:10 ^ t2 = 2 ^ t2 * 5 ^ t2:=by rw [← Nat.mul_pow]
 have e3:10 ^ t3 = 2 ^ t3 * 5 ^ t3:=by rw [← Nat.mul_pow]
 rw [e2,e3]
 generalize 10 ^ t1 = A
 generalize 2 ^ t2 = B
 generalize 5 ^ t2 = C
 generalize 2 ^ t3 = E
 generalize 5 ^ t3 = F
 grind
theorem dx_ratio2 (g:Bool) {s:ByteArray} {x:Int} (h:DcOk s x) (b1:¬ Over (valS s * 10 ^ x.toNat)) (b2:¬ Over (10 ^ x.toNat)) (b3:¬ Over (10 ^ (-x).toNat)) {f:Bool} {R S:Nat} (hq:Rm.Q (dq g (valS s) x) f R S) (W:World) :
  Calls Tryz.prog 7 #[.agg #[.bool g,.string s,.int .i64 x]] W fun en W'=>(∃ A N C A' N' C',en = .returned (.tuple #[.agg #[.bool f,.slice A N C,.slice A' N' C'],.int .i64 0])∧Mine W' W.heap.size A N C R∧Mine W' W.heap.size A' N' C' S)∧Below W.heap.size W W':=by
 have hlo:=h.lo
 have hhi:=h.hi
 obtain ⟨p,hp⟩:∃ p:Nat,x.toNat = p:=⟨_,rfl⟩
 obtain ⟨q,hq'⟩:∃ q:Nat,(-x).toNat = q:=⟨_,rfl⟩
 rw [hp] at b1 b2
 rw [hq'] at b3
 have hm:=Rm.Q.made (s:=g) (n:=valS s * 10 ^ p) (d:=10 ^ q) (ten_ne q)
 have e:=dq_mk g (valS s) x
 rw [hp,hq'] at e
 rw [← e] at hm
 obtain ⟨u1,u2,u3⟩:=q_same hm hq
 rw [← u1,← u2,← u3]
 exact drat_ok W g s x p q (valS s) (10 ^ p) (10 ^ q) (valS s * 10 ^ p) _ _ _ hlo hhi (by omega) (by omega) (hide fun W=>h.chk g W) (hide fun W=>dx_number g h W)
  (hide fun W=>(pow_any 10 p W (by decide) (by omega)).mono fun en W' ⟨k1,k2⟩=>⟨zans k1 b2,k2⟩)
  (hide fun W=>(pow_any 10 q W (by decide) (by omega)).mono fun en W' ⟨k1,k2⟩=>⟨zans k1 b3,k2⟩)
  (hide fun W a n c a' n' c' k1 k2=>(mul_any a a' n n' c c' _ _ W k1 k2).mono fun en W' ⟨k3,k4⟩=>⟨zans k3 b1,k4⟩)
  (hide fun W a n c a' n' c' k1 k2=>ymake_any g a a' n n' c c' _ _ W k1 k2 (Nat.pow_pos (by decide)))
theorem dk_nil:DcOk ⟨#[]⟩ 0:=(mkA_num (g:=false) (N:=0) (x:=0) (Or.inl ⟨rfl,rfl⟩) (tenTop_pos _)).2.1
theorem db_frac {g:Bool} {p d:Nat} (hs:g = true→0 < p) (hd:0 < d) (hg:Nat.gcd p d = 1) {K:Nat} (hK:d < 2 ^ K) (hK2:K≤1000) (hpo:¬ Over p) :
  (∃ e:Int,OfSays g p d (.tuple #[.agg #[.bool false,.string ⟨#[]⟩,.int .i64 0],.bool false,.int .i64 e])) ∨
  ∃ (s3:ByteArray) (x3:Int),OfSays g p d (.tuple #[.agg #[.bool g,.string s3,.int .i64 x3],.bool true,.int .i64 0])∧∀ W:World,Calls Tryz.prog 7 #[.agg #[.bool g,.string s3,.int .i64 x3]] W fun en W'=>(∃ A N C A' N' C',en = .returned (.tuple #[.agg #[.bool g,.slice A N C,.slice A' N' C'],.int .i64 0])∧Mine W' W.heap.size A N C p∧Mine W' W.heap.size A' N' C' d)∧Below W.heap.size W W':=by
 have hQ:=q_mk hs hd hg
 have one:¬ Over 1:=rb_over (e:=1) (by decide) (by decide)
 by_cases hp:p = 0
 ·subst hp
  have hgf:g = false:=by cases g; rfl; exact absurd (hs rfl) (Nat.lt_irrefl _)
  subst hgf
  have hv:valS ⟨#[]⟩ = 0:=dx_empty rfl
  have e:dq false (valS ⟨#[]⟩) 0 = mkRat (Rm.sgn false 0) d:=by rw [hv,dq_zero,Rm.sgn_zero,Rat.zero_mkRat]
  refine Or.inr ⟨⟨#[]⟩,0,db_zero hs hd hg,fun W=>dx_ratio2 false dk_nil ?_ one one (by rw [e]; exact hQ) W⟩
  rw [hv,Nat.zero_mul]
  exact rb_over (e:=1) (by decide) (by decide)
 obtain ⟨l1,l2,l3,t1,t2,t3,D⟩:=den_ex hd
 by_cases h3:l3 = 1
 case neg=>exact Or.inl ⟨0,db_no hs hd hg D hp h3⟩
 subst h3
 obtain ⟨ht1,ht2,ht3⟩:=D.ts hK
 rcases db_yes hs hd hg D hp (by omega) with ⟨h,_⟩|⟨s3,x3,h,hok,hne,hval⟩
 ·exact Or.inl ⟨4,h⟩
 refine Or.inr ⟨s3,x3,h,fun W=>?_⟩
 rw [dq_den D hd] at hval
 rw [← hval] at hQ
 have hpos:0 < valS s3:=val_pos hok.ok hne hok.cd
 have hlt:=dx_lt hok 0
 rw [Nat.pow_zero,Nat.mul_one,Nat.add_zero] at hlt
 have hsz:=hok.sz
 have hx3:-3000≤x3∨0≤x3:=by
  refine Classical.byContradiction fun hc=>?_
  have h10:=(dx_low hok hne).2
  obtain ⟨o,ho⟩:∃ o:Nat,(-x3).toNat = o:=⟨_,rfl⟩
  have e1:=dq_mk g (valS s3) x3
  rw [ho,show x3.toNat = 0 by omega,Nat.pow_zero,Nat.mul_one,hval,Rat.mkRat_eq_iff (by omega) (ten_ne o),← Rm.sgn_scale,← Rm.sgn_scale] at e1
  have e2:p * 10 ^ o = valS s3 * d:=by
   have:=congrArg Int.natAbs e1
   rwa [Rm.sgn_abs,Rm.sgn_abs] at this
  rw [D.a1,D.a2,D.a3,Nat.one_mul] at e2
  have e4:p * 10 ^ (o - t1 - t2 - t3) * (2 ^ t3 * 5 ^ t2) = valS s3:=by
   have k1:10 ^ o = 10 ^ (o - t1 - t2 - t3) * (10 ^ t1 * 10 ^ t2 * 10 ^ t3):=by rw [← Nat.pow_add,← Nat.pow_add,← Nat.pow_add]; congr 1; omega
   have e2':10 ^ t2 = 2 ^ t2 * 5 ^ t2:=by rw [← Nat.mul_pow]
   have e3':10 ^ t3 = 2 ^ t3 * 5 ^ t3:=by rw [← Nat.mul_pow]
   rw [k1,e2',e3'] at e2
   have c0:0 < 5 ^ t3 * 2 ^ t2 * 10 ^ t1:=Nat.mul_pos (Nat.mul_pos (Nat.pow_pos (by decide)) (Nat.pow_pos (by decide))) (Nat.pow_pos (by decide))
   refine Nat.eq_of_mul_eq_mul_right c0 ?_
   rw [← e2]
   generalize 10 ^ (o - t1 - t2 - t3) = Z
   generalize 10 ^ t1 = A
   generalize 2 ^ t2 = B
   generalize 5 ^ t2 = C
   generalize 2 ^ t3 = E
   generalize 5 ^ t3 = F
   grind
  obtain ⟨j,hj⟩:∃ j,o - t1 - t2 - t3 = j+1:=⟨o - t1 - t2 - t3 - 1,by omega⟩
  rw [hj,Nat.pow_succ] at e4
  apply h10
  rw [← e4,show p * (10 ^ j * 10) * (2 ^ t3 * 5 ^ t2) = p * 10 ^ j * (2 ^ t3 * 5 ^ t2) * 10 by grind]
  exact Nat.mul_mod_left _ _
 by_cases h0:0≤x3
 ·obtain ⟨o,ho⟩:∃ o:Nat,x3.toNat = o:=⟨_,rfl⟩
  have e1:=dq_mk g (valS s3) x3
  rw [ho,show (-x3).toNat = 0 by omega,Nat.pow_zero,hval,Rat.mkRat_eq_iff (by omega) (by decide),← Rm.sgn_scale] at e1
  have e2:p = valS s3 * 10 ^ o * d:=by
   have:=congrArg Int.natAbs e1
   rw [Rm.sgn_abs] at this
   simpa [Int.natAbs_mul,Rm.sgn_abs] using this
  have a1:valS s3 * 10 ^ o≤p:=by rw [e2]; exact Nat.le_mul_of_pos_right _ hd
  have a2:10 ^ o≤valS s3 * 10 ^ o:=Nat.le_mul_of_pos_left _ hpos
  refine dx_ratio2 g hok ?_ ?_ ?_ hQ W
  ·rw [ho]; exact fun q=>hpo (q.mono a1)
  ·rw [ho]; exact fun q=>hpo (q.mono (Nat.le_trans a2 a1))
  ·rw [show (-x3).toNat = 0 by omega]; exact one
 ·refine dx_ratio2 g hok ?_ ?_ ?_ hQ W
  ·rw [show x3.toNat = 0 by omega,Nat.pow_zero,Nat.mul_one]
   exact rb_over (e:=4 * s3.size) (Nat.lt_of_lt_of_le hlt (dx_ten _)) (by omega)
  ·rw [show x3.toNat = 0 by omega]; exact one
  ·obtain ⟨o,ho⟩:∃ o:Nat,(-x3).toNat = o:=⟨_,rfl⟩
   rw [ho]
   exact rb_over (e:=4 * o+1) (Nat.lt_of_le_of_lt (dx_ten o) (Nat.pow_lt_pow_right (by decide) (by omega))) (by omega)
theorem dq_uniq {g:Bool} {s s2:ByteArray} {x x2:Int} (h:DcOk s x) (h2:DcOk s2 x2) (n1:s.size≠0) (n2:s2.size≠0) (e:dq g (valS s) x = dq g (valS s2) x2):s = s2∧x = x2:=by
 obtain ⟨ex,hex⟩:∃ ex,min x x2 = ex:=⟨_,rfl⟩
 obtain ⟨o1,ho1⟩:∃ o:Nat,x = ex+(o:Int):=⟨(x - ex).toNat,by omega⟩
 obtain ⟨o2,ho2⟩:∃ o:Nat,x2 = ex+(o:Int):=⟨(x2 - ex).toNat,by omega⟩
 have k:=dq_ord g g (valS s * 10 ^ o1) (valS s2 * 10 ^ o2) ex
 rw [← dq_up,← dq_up,← ho1,← ho2,ordR_eq e] at k
 have k2:valS s * 10 ^ o1 = valS s2 * 10 ^ o2:=by
  unfold cmpZ dvl at k
  generalize valS s * 10 ^ o1 = A at *
  generalize valS s2 * 10 ^ o2 = B at *
  cases g <;> simp only [Bool.false_eq_true,if_true,if_false] at k <;> split at k <;> (try omega) <;> split at k <;> omega
 obtain ⟨k3,k4⟩:=tens_uniq k2 (dx_low h n1).2 (dx_low h2 n2).2
 obtain ⟨S1,_⟩:=says_self h.ok (by omega) h.fst h.lst
 obtain ⟨S2,_⟩:=says_self h2.ok (by omega) h2.fst h2.lst
 rw [k3] at S1
 exact ⟨says_eq S1 S2,by omega⟩
theorem two_five {l q S:Nat} (h2:l % 2≠0) (h5:l % 5≠0) (h1:l ∣ S) (h:S ∣ 10 ^ q):l = 1:=by
 have c2:Nat.Coprime l 2:=by
  show Nat.gcd l 2 = 1
  rw [Nat.gcd_comm,Nat.gcd_rec,show l % 2 = 1 by omega]; rfl
 have c5:Nat.Coprime l 5:=by
  show Nat.gcd l 5 = 1
  rw [Nat.gcd_comm,Nat.gcd_rec]
  have:l % 5 = 1∨l % 5 = 2∨l % 5 = 3∨l % 5 = 4:=by omega
  rcases this with e|e|e|e <;> rw [e] <;> rfl
 have c10:Nat.Coprime l 10:=Nat.Coprime.mul_right c2 c5
 exact Nat.Coprime.eq_one_of_dvd (Nat.Coprime.pow_right q c10) (Nat.dvd_trans h1 h)
theorem db_dec {f:Bool} {s:ByteArray} {x:Int} (h:DcOk s x) {u:Bool} {R S:Nat} (hq:Rm.Q (dq f (valS s) x) u R S) {K:Nat} (hR:R < 2 ^ K) (hS:S < 2 ^ K) (hK:K≤10000) :
  OfSays u R S (.tuple #[.agg #[.bool u,.string s,.int .i64 x],.bool true,.int .i64 0])∧u = (f && !decide (s.size = 0)):=by
 have hS0:=hq.pos
 have hg:=hq.co
 have hs:u = true→0 < R:=fun e=>Nat.pos_of_ne_zero fun e2=>by rw [hq.zero e2] at e; cases e
 by_cases h0:s.size = 0
 ·have e:s = ⟨#[]⟩:=by
   cases s with
   | mk t=>congr 1; exact Array.eq_empty_of_size_eq_zero h0
  have hx:=h.zero h0
  subst e hx
  rw [dx_empty rfl,dq_zero] at hq
  have hR0:R = 0:=by rw [← hq.abs]; rfl
  have hu:=hq.zero hR0
  subst hR0 hu
  exact ⟨db_zero hs hS0 hg,by cases f <;> rfl⟩
 obtain ⟨p,hp⟩:∃ p:Nat,x.toNat = p:=⟨_,rfl⟩
 obtain ⟨q,hq'⟩:∃ q:Nat,(-x).toNat = q:=⟨_,rfl⟩
 have hpos:0 < valS s:=val_pos h.ok h0 h.cd
 have hm:=Rm.Q.made (s:=f) (n:=valS s * 10 ^ p) (d:=10 ^ q) (ten_ne q)
 have e:=dq_mk f (valS s) x
 rw [hp,hq'] at e
 rw [← e] at hm
 obtain ⟨u1,u2,u3⟩:=q_same hm hq
 have hn0:0 < valS s * 10 ^ p:=Nat.mul_pos hpos (Nat.pow_pos (by decide))
 have hR0:0 < R:=by
  rw [← u2]
  exact Nat.div_pos (Nat.gcd_le_left _ hn0) (Nat.gcd_pos_of_pos_left _ hn0)
 have hu:u = f:=by
  rw [← u1,u2,decide_eq_false (by omega)]; cases f <;> rfl
 have hdv:S ∣ 10 ^ q:=by rw [← u3]; exact Nat.div_dvd_of_dvd (Nat.gcd_dvd_right _ _)
 clear u1 u2 u3 hm e
 subst hu
 obtain ⟨l1,l2,l3,t1,t2,t3,D⟩:=den_ex hS0
 have h3:l3 = 1:=by
  refine two_five (S:=S) (q:=q) (fun e=>D.b2 ?_) D.b3 ?_ hdv
  ·rw [D.a3,Nat.mul_mod,e,Nat.zero_mul]
  ·exact ⟨5 ^ t3 * 2 ^ t2 * 10 ^ t1,by rw [D.a1,D.a2,D.a3]; simp only [Nat.mul_assoc]⟩
 subst h3
 obtain ⟨ht1,ht2,ht3⟩:=D.ts hS
 have hV:R * 5 ^ t2 * 2 ^ t3 < 2 ^ (6 * K+1):=by
  have a1:R * 5 ^ t2 < 2 ^ (K+(3 * t2+1)):=rb_mul hR (Nat.lt_of_le_of_lt (five_two t2) (Nat.pow_lt_pow_right (by decide) (by omega)))
  have a2:=rb_mul (b:=2 ^ t3) (k:=t3+1) a1 (Nat.pow_lt_pow_right (by decide) (by omega))
  exact Nat.lt_of_lt_of_le a2 (Nat.pow_le_pow_right (by decide) (by omega))
 rcases db_yes hs hS0 hg D (by omega) (by omega) with ⟨_,hc⟩|⟨s3,x3,hof,hok,hne,hval⟩
 ·exfalso
  rcases hc with o|o
  ·exact rb_over hV (by omega) o
  ·have b1:2 ^ (6 * K+1)≤10 ^ (6 * K+1):=Nat.pow_le_pow_left (by decide) _
   have b2:10 ^ (6 * K+1)≤tenTop 65536:=le_top (by omega)
   exact absurd (Nat.lt_of_lt_of_le hV (Nat.le_trans b1 (Nat.le_trans b2 o))) (Nat.lt_irrefl _)
 have hQ2:=q_mk hs hS0 hg
 rw [dq_den D hS0] at hval
 rw [← hval] at hQ2
 obtain ⟨r1,r2⟩:=dq_uniq hok h hne h0 (hQ2.uniq hq)
 subst r1 r2
 exact ⟨hof,by rw [decide_eq_false h0]; cases u <;> rfl⟩
theorem not_nil (s:ByteArray):(s.toList != (ByteArray.mk #[]).toList) = !decide (s.size = 0):=by
 rw [ByteArray.toList_eq,ByteArray.toList_eq]
 by_cases h:s.size = 0
 ·have e:s = ⟨#[]⟩:=by
   cases s with
   | mk t=>congr 1; exact Array.eq_empty_of_size_eq_zero h
  subst e; rfl
 ·rw [decide_eq_false h]
  refine bne_iff_ne.2 fun e=>h ?_
  have e2:s.data.toList.length = 0:=congrArg List.length e
  rw [Array.length_toList] at e2
  exact e2
theorem decBack_any (f:Bool) (s:ByteArray) (x:Int) (g:Bool) (a:Option Addr) (n c:Nat) (xs:List Nat) (b:Option Addr) (k l:Nat) (ys:List Nat) (w:World)
  (hn:xs.length = n) (hnb:n≤9223372036854775807) (hl:Lim w a xs) (hw:Pl.Wf xs) (hk:ys.length = k) (hkb:k≤9223372036854775807) (hly:Lim w b ys) (hwy:Pl.Wf ys) :
  Calls Tryz.prog 3 #[.agg #[.bool f,.string s,.int .i64 x],.agg #[.bool g,.slice a n c,.slice b k l]] w fun e w'=>e = .returned (.bool true)∧Below w.heap.size w w':=by
 have HA:=hide dalive_any
 have SUF:20 < k∨(k≤20∧((∃ e1:Int,e1≠0∧Hid (∀ W:World,Below w.heap.size w W→Calls Tryz.prog 8 #[.agg #[.bool g,.slice a n c,.slice b k l]] W fun e W'=>e = .returned (.tuple #[.agg #[.bool false,.string ⟨#[]⟩,.int .i64 0],.bool false,.int .i64 e1])∧Below W.heap.size W W')) ∨
   Hid (∀ W:World,Below w.heap.size w W→Calls Tryz.prog 8 #[.agg #[.bool g,.slice a n c,.slice b k l]] W fun e W'=>e = .returned (.tuple #[.agg #[.bool false,.string ⟨#[]⟩,.int .i64 0],.bool false,.int .i64 0])∧Below W.heap.size W W') ∨
   ∃ (p d:Nat) (s3:ByteArray) (x3:Int),Num w a n p∧Num w b k d∧Hid (∀ W:World,Below w.heap.size w W→Calls Tryz.prog 8 #[.agg #[.bool g,.slice a n c,.slice b k l]] W fun e W'=>e = .returned (.tuple #[.agg #[.bool g,.string s3,.int .i64 x3],.bool true,.int .i64 0])∧Below W.heap.size W W') ∧
    Hid (∀ W:World,Calls Tryz.prog 7 #[.agg #[.bool g,.string s3,.int .i64 x3]] W fun en W'=>(∃ A N C A' N' C',en = .returned (.tuple #[.agg #[.bool g,.slice A N C,.slice A' N' C'],.int .i64 0])∧Mine W' W.heap.size A N C p∧Mine W' W.heap.size A' N' C' d)∧Below W.heap.size W W'))):=by
  by_cases h20:20 < k
  ·exact Or.inl h20
  refine Or.inr ⟨by omega,?_⟩
  rcases db_chk g a b n c k l xs ys w hn hnb hl hw hk hkb hly hwy with h|⟨p,d,gN,gD,hD0,hg,hs⟩
  ·exact Or.inl ⟨20,by decide,hide fun W hW=>dof_e W g a b n c k l 20 (by decide) (hide fun W' hW'=>h W' (gr_trans hW hW'))⟩
  obtain ⟨K,hKe⟩:∃ K,K = 640:=⟨_,rfl⟩
  have hK:d < 2 ^ K:=by
   obtain ⟨zs,hz,_,hwz,_,hv,_⟩:=gD
   have h1:=Pl.val_lt hwz
   rw [hv,hz,show (4294967296:Nat) = 2 ^ 32 from rfl,← Nat.pow_mul] at h1
   exact Nat.lt_of_lt_of_le h1 (Nat.pow_le_pow_right (by decide) (by omega))
  rcases db_frac hs hD0 hg hK (by omega) (fun o=>by have h1:=gN.lt; have h2:=o.le; omega) with ⟨e,h⟩|⟨s3,x3,h,hr⟩
  ·by_cases he:e = 0
   ·subst he
    exact Or.inr (Or.inl (hide fun W hW=>h W a n c b k l (gN.kept hW) (gD.kept hW)))
   ·exact Or.inl ⟨e,he,hide fun W hW=>h W a n c b k l (gN.kept hW) (gD.kept hW)⟩
  ·exact Or.inr (Or.inr ⟨p,d,s3,x3,gN,gD,hide fun W hW=>h W a n c b k l (gN.kept hW) (gD.kept hW),hide hr⟩)
 have S2:∀ p d:Nat,Hid (∀ (W:World) (a:Option Addr) (n c:Nat) (b:Option Addr) (k l:Nat) (a':Option Addr) (n' c':Nat) (b':Option Addr) (k' l':Nat),Num W a n p→Num W b k d→Num W a' n' p→Num W b' k' d→Calls Tryz.prog 9 #[.agg #[.bool g,.slice a n c,.slice b k l],.agg #[.bool g,.slice a' n' c',.slice b' k' l']] W fun e W'=>e = .returned (.bool true)∧Below W.heap.size W W'):=fun p d=>hide (dx_same g p d)
 have NONE:Hid (∀ W:World,Calls Tryz.prog 6 #[.agg #[.bool f,.string s,.int .i64 x],.int .i64 800,.int .i64 1500] W fun e W'=>e = .returned (.bool false)∧Below W.heap.size W W')→Calls Tryz.prog 3 #[.agg #[.bool f,.string s,.int .i64 x],.agg #[.bool g,.slice a n c,.slice b k l]] w fun e w'=>e = .returned (.bool true)∧Below w.heap.size w w':=fun K1=>by
  rcases SUF with h|⟨h,⟨e1,he,h2⟩|h2|⟨p,d,s3,x3,gN,gD,h2,h3⟩⟩
  ·exact dbk_na w f s x g a b n c k l HA K1 h
  ·exact dbk_ne w f s x g a b n c k l e1 HA K1 h he h2
  ·exact dbk_ni w f s x g a b n c k l HA K1 h h2
  ·exact dbk_nc w f s x g a b n c k l p d g s3 x3 HA K1 h gN gD h2 h3 (S2 p d)
 obtain ⟨e,h,h1⟩:=dcheck_full f s x
 rcases h with h|⟨rfl,hm,hd,hx0,hx1,hz,ha,hb⟩
 ·exact NONE (hide fun W=>cl8_e W f s x e h (hide h1))
 by_cases c1:800 < s.size
 ·exact NONE (hide fun W=>cl8_1 W f s x c1 (hide h1))
 by_cases c2:1500 < x
 ·exact NONE (hide fun W=>cl8_2 W f s x (by omega) c2 (hide h1))
 by_cases c3:x < -1500
 ·exact NONE (hide fun W=>cl8_3 W f s x (by omega) (by omega) c3 (hide h1))
 clear NONE
 have K1:=hide fun W=>cl8_ok W f s x (by omega) (by omega) (by omega) (hide h1)
 have ok1:DcOk s x:=⟨hm,hd,hx0,hx1,hz,ha,cd_of hd hb⟩
 clear h1 hm hd hx0 hx1 hz ha hb hn hnb hl hw hk hkb hly hwy
 obtain ⟨K,hK⟩:∃ K,K = 9300:=⟨_,rfl⟩
 obtain ⟨u,ra,rb,Q1,b1,b2,R1⟩:=dx_ratio f ok1 (K:=K) (by omega) (by omega)
 obtain ⟨O1,hu⟩:=db_dec ok1 Q1 b1 b2 (by omega)
 cases f
 ·obtain rfl:u = false:=hu
  rcases SUF with h|⟨h,⟨e1,he,h2⟩|h2|⟨p,d,s3,x3,gN,gD,h2,h3⟩⟩
  ·exact dbk_fa w s x g a b n c k l false ra rb HA K1 (hide R1) (hide O1) h
  ·exact dbk_fe w s x g a b n c k l false ra rb e1 HA K1 (hide R1) (hide O1) h he h2
  ·exact dbk_fi w s x g a b n c k l false ra rb HA K1 (hide R1) (hide O1) h h2
  ·exact dbk_fc w s x g a b n c k l false ra rb p d g s3 x3 HA K1 (hide R1) (hide O1) h gN gD h2 h3 (S2 p d)
 ·have hnz:(s.toList != (ByteArray.mk #[]).toList) = u:=by rw [not_nil,hu]; rfl
  rcases SUF with h|⟨h,⟨e1,he,h2⟩|h2|⟨p,d,s3,x3,gN,gD,h2,h3⟩⟩
  ·exact dbk_ta w s x g a b n c k l u ra rb u HA K1 (hide R1) (hide O1) hnz h
  ·exact dbk_te w s x g a b n c k l u ra rb u e1 HA K1 (hide R1) (hide O1) hnz h he h2
  ·exact dbk_ti w s x g a b n c k l u ra rb u HA K1 (hide R1) (hide O1) hnz h h2
  ·exact dbk_tc w s x g a b n c k l u ra rb u p d g s3 x3 HA K1 (hide R1) (hide O1) hnz h gN gD h2 h3 (S2 p d)
end Go.Proofs.YtpmmapoabbpaiaaGreat
