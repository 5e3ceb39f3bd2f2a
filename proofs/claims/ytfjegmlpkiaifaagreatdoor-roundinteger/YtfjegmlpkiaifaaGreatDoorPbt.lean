/- Of what RoundIntegerRow stands on: RiLaw3. -/
import Derived.Test.YtfjegmlpkiaifaaGreatDoorPbs
namespace Go.Proofs.YtfjegmlpkiaifaaGreatDoor
open Go.RowKit
theorem int_parts {p d q r:Nat} (hq:p / d = q) (hr:p % d = r) (hd:0 < d) (s:Bool):∃ e0 nl nr:Nat,(r = 0→e0 = 0)∧(r≠0→e0 = d - r)∧nl = (if s then e0 else r)∧nr = (if s then r else e0) ∧
  Rm.sgn s p * ((1:Nat):Int) - Rm.sgn s (wmd s q r (d - r) 4) * (d:Int) = (nl:Int)∧Rm.sgn s (wmd s q r (d - r) 3) * (d:Int) - Rm.sgn s p * ((1:Nat):Int) = (nr:Int) ∧
  Rm.sgn s (wmd s q r (d - r) 3) - Rm.sgn s (wmd s q r (d - r) 4) = (if r = 0 then 0 else 1):=by
 have hdm:=Nat.div_add_mod p d
 have hrd:=Nat.mod_lt p hd
 rw [hq,hr] at hdm
 rw [hr] at hrd
 obtain ⟨Q,hQ⟩:∃ Q,d * q = Q:=⟨_,rfl⟩
 rw [hQ] at hdm
 have hQ':q * d = Q:=by rw [Nat.mul_comm]; exact hQ
 have e1:∀ m:Nat,Rm.sgn s m * (d:Int) = Rm.sgn s (m * d):=fun m=>(Rm.sgn_scale s m d).symm
 have e2:Rm.sgn s p * ((1:Nat):Int) = Rm.sgn s p:=by simp
 have q1:(q+1) * d = Q+d:=by rw [Nat.add_mul,hQ',Nat.one_mul]
 by_cases h0:r = 0
 ·subst h0
  refine ⟨0,_,_,fun _=>rfl,fun h=>absurd rfl h,rfl,rfl,?_,?_,?_⟩
  ·rw [e1,e2,wmd_own,hQ']; cases s <;> simp [Rm.sgn] <;> omega
  ·rw [e1,e2,wmd_own,hQ']; cases s <;> simp [Rm.sgn] <;> omega
  ·rw [wmd_own,wmd_own,if_pos rfl]; omega
 ·refine ⟨d - r,_,_,fun h=>absurd h h0,fun _=>rfl,rfl,rfl,?_,?_,?_⟩
  ·rw [e1,e2,wmd_four h0]
   cases s
   ·rw [show q+(if false = true then 1 else 0) = q from rfl,hQ']; simp [Rm.sgn]; omega
   ·rw [show q+(if true = true then 1 else 0) = q+1 from rfl,q1]; simp [Rm.sgn]; omega
  ·rw [e1,e2,wmd_three h0]
   cases s
   ·rw [show q+(if (!false) = true then 1 else 0) = q+1 from rfl,q1]; simp [Rm.sgn]; omega
   ·rw [show q+(if (!true) = true then 1 else 0) = q from rfl,hQ']; simp [Rm.sgn]; omega
  ·rw [wmd_three h0,wmd_four h0,if_neg h0]
   cases s <;> simp [Rm.sgn] <;> omega
theorem int_own {p d q r:Nat} (hq:p / d = q) (hr:p % d = r) (s:Bool) (md:Nat):decide (Rm.sgn (s && !decide (wmd s q r (d - r) md = 0)) (wmd s q r (d - r) md) * (d:Int) = Rm.sgn s p * ((1:Nat):Int)) = decide (r = 0):=by
 rw [sgn_real,← Rm.sgn_scale,show Rm.sgn s p * ((1:Nat):Int) = Rm.sgn s p by simp]
 have hdm:=Nat.div_add_mod p d
 rw [hq,hr] at hdm
 have inj:∀ m n:Nat,Rm.sgn s m = Rm.sgn s n↔m = n:=fun m n=>by cases s <;> simp [Rm.sgn] <;> omega
 refine decide_eq_decide.2 ⟨fun h=>?_,fun h=>?_⟩
 ·have:=(inj _ _).1 h
  rw [← hr,← this,Nat.mul_mod_left]
 ·refine (inj _ _).2 ?_
  subst h
  rw [wmd_own,Nat.mul_comm]; omega
theorem roundInteger_any (s:Bool) (a:Option Addr) (n c:Nat) (xs:List Nat) (b:Option Addr) (k l:Nat) (ys:List Nat) (w:World) (hT:Tb w) (hN:Nb5 w)
  (hn:xs.length = n) (hnb:n≤9223372036854775807) (hl:Lim w a xs) (hw:Pl.Wf xs) (hk:ys.length = k) (hkb:k≤9223372036854775807) (hly:Lim w b ys) (hwy:Pl.Wf ys) :
  Calls Tryz.prog 4 #[.agg #[.bool s,.slice a n c,.slice b k l]] w fun e w'=>e = .returned (.bool true)∧Below w.heap.size w w':=by
 rcases asked_any 5 10 s a b n c k l xs ys w hn hnb hl hw hk hkb hly hwy with h1|⟨-,p,d,gN,gD,hd,hg,hs,bp,bd,-,ok1⟩
 ·exact int_no w s a b n k c l hT hN (hide h1)
 obtain ⟨q,hq⟩:∃ q,p / d = q:=⟨_,rfl⟩
 obtain ⟨r,hr⟩:∃ r,p % d = r:=⟨_,rfl⟩
 have sd:Shorts d:=by
  obtain ⟨K,hK⟩:∃ K,K = 1920:=⟨_,rfl⟩
  rw [← hK] at bd
  exact Nat.lt_of_lt_of_le (blen_lt bd) (Nat.pow_le_pow_right (by omega) (by unfold wqB; omega))
 have hp1:p+1 < 2 ^ wqB∧p+1 < 2 ^ 2000:=by
  obtain ⟨K,hK⟩:∃ K,K = 1920:=⟨_,rfl⟩
  obtain ⟨K2,hK2⟩:∃ K2,K2 = 2000:=⟨_,rfl⟩
  rw [← hK] at bp
  have h1:=blen_lt bp
  have h2:2 ^ (K+1)≤2 ^ wqB:=Nat.pow_le_pow_right (by omega) (by unfold wqB; omega)
  have h3:2 ^ (K+1)≤2 ^ K2:=Nat.pow_le_pow_right (by omega) (by omega)
  rw [← hK2]
  rw [Nat.pow_succ] at h2 h3
  omega
 have sp:Shorts p:=Nat.lt_of_le_of_lt (Nat.le_succ p) hp1.1
 have hqp:q≤p:=by rw [← hq]; exact Nat.div_le_self _ _
 have sm:∀ md,Shorts (wmd s q r (d - r) md):=fun md=>Nat.lt_of_le_of_lt (Nat.le_trans (wmd_le s q r (d - r) md).2 (by omega)) hp1.1
 have s1:Shorts 1:=Nat.lt_of_lt_of_le (show 1 < 2 ^ 1 by decide) (Nat.pow_le_pow_right (by omega) (by decide))
 have hO:¬ Over (q+1):=no_over (K:=2000) (Nat.lt_of_le_of_lt (by omega) hp1.2) (by decide)
 obtain ⟨e0,nl,nr,z0,z1,hnl,hnr,i1,i2,i3⟩:=int_parts hq hr hd s
 have g1:∀ m:Nat,Nat.gcd m 1 = 1:=Nat.gcd_one_right
 have V:=fun md=>rq_v (s && !decide (wmd s q r (d - r) md = 0)) (wmd s q r (d - r) md) 1 (by decide) (g1 _)
 obtain ⟨gl,zl,dl,q1,k1⟩:=rsub_ok (Shorts.sm sp sd (sm 4) s1 hd (by decide)) (rq_v s p d hd hg) (V 4)
 obtain ⟨gr,zr,dr,q2,k2⟩:=rsub_ok (Shorts.sm (sm 3) s1 sp sd (by decide) hd) (V 3) (rq_v s p d hd hg)
 obtain ⟨gg,zg,dg,q3,k3⟩:=rsub_ok (Shorts.sm (sm 3) s1 (sm 4) s1 (by decide) (by decide)) (V 3) (V 4)
 have I1:=dif_eq (rq_v s p d hd hg) (V 4) q1
 have I2:=dif_eq (V 3) (rq_v s p d hd hg) q2
 have I3:=dif_eq (V 3) (V 4) q3
 rw [sgn_real,i1] at I1
 rw [sgn_real,i2] at I2
 rw [sgn_real,sgn_real] at I3
 have gz:∀ {x:Rat} {g:Bool} {z k:Nat},Rm.Q x g z k→g = true→0 < z:=fun {x g z k} q e=>Nat.pos_of_ne_zero fun e2=>by have:=q.zero e2; rw [this] at e; cases e
 obtain rfl:=sign_none (D:=d * 1) (Int.natCast_nonneg nl) (by simpa using I1) (by omega) (gz q1)
 obtain rfl:=sign_none (D:=1 * d) (Int.natCast_nonneg nr) (by simpa using I2) (by omega) (gz q2)
 have J1:nl * dl = zl * d:=by simp [Rm.sgn] at I1; exact_mod_cast I1
 have J2:nr * dr = zr * d:=by simp [Rm.sgn] at I2; exact_mod_cast I2
 obtain ⟨o1,o2,o3⟩:=iord_two hd q1.pos q2.pos J1 J2
 have v1:=dif_over (rq_v s p d hd hg) (V 4) q1 (V 3) (rq_v s p d hd hg) q2 sp sd (sm 4) s1 s1 sd
 have v2:=dif_over (V 3) (rq_v s p d hd hg) q2 (rq_v s p d hd hg) (V 4) q1 (sm 3) s1 sp sd sd s1
 have hc:∃ cc:Int,ordR (rq false zl dl q1.pos q1.co) (rq false zr dr q2.pos q2.co) = cc∧(decide (nr < nl) = true→0 < cc)∧(decide (nr < nl) = false→cc≤0)∧(decide (nl = nr) = true→cc = 0)∧(decide (nl = nr) = false→cc≠0):=by
  rcases Nat.lt_trichotomy nl nr with h|h|h
  ·exact ⟨-1,ord_lt_of (by have:=o1 h; simp only [Rm.sgn,Bool.false_eq_true,if_false]; exact_mod_cast this),by simp; omega,by simp,by simp; omega,by simp⟩
  ·exact ⟨0,ordR_eq (rq_same (by have:=o2 h; simp only [Rm.sgn,Bool.false_eq_true,if_false]; exact_mod_cast this)),by simp; omega,by simp,by simp,by simp [h]⟩
  ·exact ⟨1,ord_gt_of (by have:=o3 h; simp only [Rm.sgn,Bool.false_eq_true,if_false]; exact_mod_cast this),by simp,by simp; omega,by simp; omega,by simp⟩
 obtain ⟨cc,hcc,c1,c2,c3,c4⟩:=hc
 have hone:Rm.sgn gg zg = (if r = 0 then 0 else 1) * (dg:Int):=by
  have:(Rm.sgn s (wmd s q r (d - r) 3) * ((1:Nat):Int) - Rm.sgn s (wmd s q r (d - r) 4) * ((1:Nat):Int)) = (if r = 0 then 0 else 1):=by rw [← i3]; simp
  rw [this] at I3
  rw [I3]; simp
 have hdg:=q3.pos
 have hS1:decide (Rm.sgn gg zg * ((1:Nat):Int) = Rm.sgn false 1 * (dg:Int)) = (!decide (r = 0)):=by
  rw [hone]
  by_cases h:r = 0
  ·rw [if_pos h,decide_eq_true h]; simp [Rm.sgn]; omega
  ·rw [if_neg h,decide_eq_false h]; simp [Rm.sgn]
 have hS0:decide (Rm.sgn gg zg * ((1:Nat):Int) = Rm.sgn false 0 * (dg:Int)) = (!(!decide (r = 0))):=by
  rw [hone]
  by_cases h:r = 0
  ·rw [if_pos h,decide_eq_true h]; simp [Rm.sgn]
  ·rw [if_neg h,decide_eq_false h]; simp [Rm.sgn]; omega
 have W:=fun (md:Nat) (hm:md≤4)=>hide fun (W:World) (hb:Below w.heap.size w W)=>iwhole_any hm s a n c b k l W (gN.kept hb) (gD.kept hb) hd hg hs hq hr rfl hO
 have X:=fun (md:Nat)=>hide fun (W:World) (A:Option Addr) (N C:Nat) (A':Option Addr) (N' C':Nat) (hb:Below w.heap.size w W) (h1:Num W A N (wmd s q r (d - r) md)) (h2:Num W A' N' 1)=>same_nums (by decide) (g1 _) g_pos hd hg hs (decide (r = 0)) (int_own hq hr s md) W A N C A' N' C' a n c b k l h1 h2 (gN.kept hb) (gD.kept hb)
 have ck:=fun (md:Nat) (A:Option Addr) (N C:Nat) (A':Option Addr) (N' C':Nat) (W:World) (y1:Num W A N (wmd s q r (d - r) md)) (y2:Num W A' N' 1)=>rchk_all (s && !decide (wmd s q r (d - r) md = 0)) A A' N C N' C' (wmd s q r (d - r) md) 1 g_pos (by decide) (g1 _) W y1 y2
 have cx:=fun (W:World) (y1:Num W a n p) (y2:Num W b k d)=>rchk_all s a b n c k l p d hs hd hg W y1 y2
 have even:∀ bb,(decide (nr < nl) || (decide (nl = nr) && (decide (wmd s q r (d - r) 4 % 2 = 1) && !decide (r = 0)))) = bb→wmd s q r (d - r) 0 = if bb then wmd s q r (d - r) 3 else wmd s q r (d - r) 4:=fun bb hb=>by
  by_cases h:r = 0
  ·subst h; rw [wmd_own,wmd_own,wmd_own]; split <;> rfl
  ·rw [z1 h] at hnl hnr
   rw [decide_eq_false h] at hb
   exact wmd_even h hnl hnr bb hb
 have away:∀ bb,(decide (nr < nl) || (decide (nl = nr) && !s)) = bb→wmd s q r (d - r) 1 = if bb then wmd s q r (d - r) 3 else wmd s q r (d - r) 4:=fun bb hb=>by
  by_cases h:r = 0
  ·subst h; rw [wmd_own,wmd_own,wmd_own]; split <;> rfl
  ·rw [z1 h] at hnl hnr
   exact wmd_away h hnl hnr bb hb
 have zero:wmd s q r (d - r) 2 = if s then wmd s q r (d - r) 3 else wmd s q r (d - r) 4:=by
  by_cases h:r = 0
  ·subst h; rw [wmd_own,wmd_own,wmd_own]; split <;> rfl
  ·rw [wmd_two h,wmd_three h,wmd_four h]; cases s <;> rfl
 refine int_all w s a b n k c l p d _ _ _ _ _ _ _ _ _ _ (decide (r = 0)) (!decide (r = 0)) gg (decide (wmd s q r (d - r) 4 % 2 = 1)) (decide (wmd s q r (d - r) 4 = 0)) (decide (nr < nl)) (decide (nl = nr)) cc zl dl zr dr zg dg hT hN (hide ok1) gN gD
  (W 0 (by decide)) g_pos (X 0) (W 1 (by decide)) g_pos (X 1) (W 2 (by decide)) g_pos (X 2) (W 3 (by decide)) g_pos (X 3) (W 4 (by decide)) g_pos (X 4)
  (hide fun W A N C A' N' C' hb h1 h2=>k1 W a n c b k l A N C A' N' C' (gN.kept hb) (gD.kept hb) h1 h2 cx (ck 4 A N C A' N' C'))
  (hide fun W A N C A' N' C' hb h1 h2=>k2 W A N C A' N' C' a n c b k l h1 h2 (gN.kept hb) (gD.kept hb) (ck 3 A N C A' N' C') cx)
  (hide fun W A N C A' N' C' A2 N2 C2 A2' N2' C2' hb h1 h2 h3 h4=>k3 W A N C A' N' C' A2 N2 C2 A2' N2' C2' h1 h2 h3 h4 (ck 3 A N C A' N' C') (ck 4 A2 N2 C2 A2' N2' C2'))
  (hide fun W A N C A' N' C' A2 N2 C2 A2' N2' C2' hb h1 h2 h3 h4=>?_)
  (hide fun W=>rwhole_1 W) (hide fun W=>rwhole_0 W)
  (hide fun W A N C A' N' C' A2 N2 C2 A2' N2' C2' hb h1 h2 h3 h4=>same_nums hdg q3.co (gz q3) (by decide) (g1 1) (fun h=>absurd h (by decide)) _ hS1 W A N C A' N' C' A2 N2 C2 A2' N2' C2' h1 h2 h3 h4)
  (hide fun W A N C A' N' C' A2 N2 C2 A2' N2' C2' hb h1 h2 h3 h4=>same_nums hdg q3.co (gz q3) (by decide) (g1 0) (fun h=>absurd h (by decide)) _ hS0 W A N C A' N' C' A2 N2 C2 A2' N2' C2' h1 h2 h3 h4)
  (fun h=>of_decide_eq_true h) (fun h=>Nat.pos_of_ne_zero (of_decide_eq_false h)) rfl
  (hide fun h W A N C A' N' C' A2 N2 C2 A2' N2' C2' hb h1 h2 h3 h4=>same_whole (by rw [zero,if_pos h]) W A N C A' N' C' A2 N2 C2 A2' N2' C2' h1 h2 h3 h4)
  (hide fun h W A N C A' N' C' A2 N2 C2 A2' N2' C2' hb h1 h2 h3 h4=>same_whole (by rw [zero,h]; rfl) W A N C A' N' C' A2 N2 C2 A2' N2' C2' h1 h2 h3 h4)
  c1 c2 c3 c4
  (hide fun h W A N C A' N' C' A2 N2 C2 A2' N2' C2' hb h1 h2 h3 h4=>same_whole (even true h) W A N C A' N' C' A2 N2 C2 A2' N2' C2' h1 h2 h3 h4)
  (hide fun h W A N C A' N' C' A2 N2 C2 A2' N2' C2' hb h1 h2 h3 h4=>same_whole (even false h) W A N C A' N' C' A2 N2 C2 A2' N2' C2' h1 h2 h3 h4)
  (hide fun h W A N C A' N' C' A2 N2 C2 A2' N2' C2' hb h1 h2 h3 h4=>same_whole (away true h) W A N C A' N' C' A2 N2 C2 A2' N2' C2' h1 h2 h3 h4)
  (hide fun h W A N C A' N' C' A2 N2 C2 A2' N2' C2' hb h1 h2 h3 h4=>same_whole (away false h) W A N C A' N' C' A2 N2 C2 A2' N2' C2' h1 h2 h3 h4)
 have:=cmp_nums q1.pos q1.co (gz q1) q2.pos q2.co (gz q2) v1 v2 W A N C A' N' C' A2 N2 C2 A2' N2' C2' h1 h2 h3 h4
 rw [hcc] at this
 exact this
end Go.Proofs.YtfjegmlpkiaifaaGreatDoor
