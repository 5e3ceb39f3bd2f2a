/- Of what DigitsNamesRow stands on: Divide. -/
import Derived.Test.YtplihgoapiiigaaGreatDoorPaj
import Derived.Test.YtplihgoapiiigaaGreatDoorPaf
import Derived.Test.YtplihgoapiiigaaGreatDoorPai
import Derived.Test.YtplihgoapiiigaaGreatDoorPap
namespace Go.Proofs.YtplihgoapiiigaaGreatDoor
open Go.RowKit
set_option maxHeartbeats 2000000
theorem long_math {X Y S Q R:Nat} (hS:0 < S) (hY:0 < Y) (h:X * S = Q * (Y * S)+R) (hR:R < Y * S):Q = X / Y∧R / S = X % Y:=by
 have hD:0 < Y * S:=Nat.mul_pos hY hS
 have h1:X * S / (Y * S) = Q:=by
  rw [h,Nat.mul_comm Q,Nat.mul_add_div hD,Nat.div_eq_of_lt hR,Nat.add_zero]
 have h2:X * S % (Y * S) = R:=by
  rw [h,Nat.mul_comm Q,Nat.mul_add_mod,Nat.mod_eq_of_lt hR]
 rw [Nat.mul_div_mul_right _ _ hS] at h1
 rw [Nat.mul_mod_mul_right] at h2
 exact ⟨h1.symm,by rw [← h2,Nat.mul_div_cancel _ hS]⟩
theorem shifted_len {ys out:List Nat} {n s l:Nat} (hn:ys.length = n) (hp:0 < n) (hw:Pl.Wf ys) (hN:Pl.Norm ys) (hl:l = ys[n - 1]?.getD 0) (hs:s+Lib.bitLen l = 32) (hov:Pl.val out = Pl.val ys * 2 ^ s) (how:Pl.Wf out) (hoN:Pl.Norm out):out.length = n∧Pl.val out < 4294967296 ^ n:=by
 subst hn
 have hb:=(bl_row hw hN hp l hl).1.1
 have hup:Pl.val out < 4294967296 ^ ys.length:=by
  rw [hov,pow32]
  have h1:Pl.val ys * 2 ^ s < 2 ^ (32 * (ys.length - 1)+Lib.bitLen l) * 2 ^ s:=Nat.mul_lt_mul_of_pos_right hb (Nat.pow_pos (by decide))
  rw [← Nat.pow_add] at h1
  rw [show 32 * ys.length = 32 * (ys.length - 1)+Lib.bitLen l+s by omega]
  exact h1
 have hlow:4294967296 ^ (ys.length - 1)≤Pl.val out:=by
  rw [hov]
  have h1:=Pl.norm_lower hN hp
  have h2:Pl.val ys * 1≤Pl.val ys * 2 ^ s:=Nat.mul_le_mul_left _ (Nat.pow_pos (by decide))
  rw [Nat.mul_one] at h2
  exact Nat.le_trans h1 h2
 have a1:=(Pl.val_le_len how hoN ys.length).2 hup
 refine ⟨?_,hup⟩
 by_cases h:out.length≤ys.length - 1
 ·have:=(Pl.val_le_len how hoN (ys.length - 1)).1 h
  exact absurd this (Nat.not_lt.2 hlow)
 ·omega
theorem first_lt {X Y S V B t T D:Nat} (hX:X < Y * T) (hS:0 < S) (hz:V+T * t = X * S) (hD:D = Y * S) (hB:B = T) (hBt:B * t≤X * S):t < D:=by
 subst hB hD
 have h1:X * S < Y * B * S:=Nat.mul_lt_mul_of_pos_right hX hS
 have h2:B * t < B * (Y * S):=by
  rw [← Nat.mul_assoc,Nat.mul_comm B Y]
  exact Nat.lt_of_le_of_lt hBt h1
 exact Nat.lt_of_mul_lt_mul_left h2
theorem lead_nat {l s:Nat} (hs:s+Lib.bitLen l = 32):(32:Int) - (Lib.bitLen l:Int) = (s:Int):=by omega
theorem shiftUp_part (a:Option Addr) (n cap s m:Nat) (w:World) (h:Num w a n m) (hs:s < 32) :
  Calls Tryz.prog 70 #[.slice a n cap,.int .i64 (s:Int)] w
   fun e w'=>∃ (out:List Nat),e = .returned (.slice (some ⟨w.heap.size,0,none⟩) (n+1) (n+1))∧out.length = n+1∧Pl.Wf out∧Pl.val out = m * 2 ^ s∧Row w' w.heap.size out∧Below w.heap.size w w':=by
 obtain ⟨xs,hn,hl,hw,hN,hv,hb⟩:=h
 have:=shiftUp_any a n cap 0 s s xs w hn (by omega) hl hw (by omega) hs (by omega)
 rw [Nat.zero_add,hv] at this
 exact this
theorem divide_long (a:Option Addr) (b' off' nx n t cap cap' m d:Nat) (ys:List Nat) (w:World) (h:Num w a nx m) (h':Num w (some ⟨b',off',none⟩) n d) (hge:d≤m) (hn2:2≤n) (hnt:Hid (nx+1 = n+t))
  (hyl:Hid (ys.length = n)) (hyw:Pl.Wf ys) (hyN:Hid (Pl.Norm ys)) (hyv:Hid (Pl.val ys = d)) (hlt:b' < w.heap.size) (hc:Hid (∀ j,j < n→w.cell? ⟨b',off'+j,none⟩ = some (.int .u32 ((ys[j]?.getD 0:Nat):Int)))) :
  Calls Tryz.prog 102 #[.slice a nx cap,.slice (some ⟨b',off',none⟩) n cap'] w fun e w'=>DivRes w' w.heap.size e (m / d) (m % d)∧Below w.heap.size w w':=by
 have hnd:decide (cmpI m d < 0) = false:=by
  by_cases e:m = d
  ·rw [e,cmpI_eq]; decide
  ·rw [cmpI_gt (by omega)]; decide
 have hnb:=h'.len
 have hxb:=h.len
 have hn1:((n:Int) == 1) = false:=by simp; omega
 obtain ⟨l,hl⟩:∃ l,l = ys[n - 1]?.getD 0:=⟨_,rfl⟩
 have hcl:w.cell? ⟨b',off'+(n - 1),none⟩ = some (.int .u32 (l:Int)):=by rw [hl]; exact unhide hc (n - 1) (by omega)
 have hl32:l < 4294967296:=by rw [hl]; exact Pl.wf_at hyw _
 obtain ⟨s,hs⟩:∃ s,s+Lib.bitLen l = 32:=⟨32 - Lib.bitLen l,by
  have:=Lib.bitLen_le l 32 (by decide) (by omega)
  omega⟩
 have hs32:s < 32:=by
  have hyl':=unhide hyl
  have:=(bl_row hyw (unhide hyN) (by omega) l (by rw [hyl']; exact hl)).2.1
  omega
 have HL:=hide (And.intro hl hs)
 have hsi:=lead_nat hs
 have HSI:=hide hsi
 clear hge hl hs hsi
 go_enter Tryz.func102,Tryz.ntmps102
 go_wp2_with fail
 refine (compare_any _ _ nx n cap cap' m d w h h').mono ?_
 rintro e w1 ⟨rfl,hb1⟩
 have hc1:w1.cell? ⟨b',off'+(n - 1),none⟩ = some (.int .u32 (l:Int)):=(hb1.cell (by exact hlt)).trans hcl
 clear hcl
 go_wp2_with fail
 refine (lead32_any l w1 hl32).mono ?_
 rintro e w1' ⟨rfl,rfl⟩
 rw [unhide HSI]
 clear hc1
 have h1:=h.kept hb1
 have h1':=h'.kept hb1
 have HB1:=hide hb1
 clear h h' hb1
 go_wp2_with fail
 refine (shiftUp_part _ n cap' s d w1 h1' hs32).mono ?_
 rintro e w2 ⟨o1,rfl,hol1,how1,hov1,hr1,hb2⟩
 have h2:=h1.kept hb2
 have HB2:=hide (gr_trans (unhide HB1) hb2)
 have hg1:=(unhide HB1).size
 have HV1:=hide hov1
 clear hb2 h1 h1' hov1
 go_wp2_with fail
 refine (trim_at w1.heap.size 0 (n+1) (n+1) o1 w2 hol1 (Nat.le_refl _) (by omega) (fun j hj=>by rw [Nat.zero_add]; exact hr1.cell j hj)).mono ?_
 rintro e w2' ⟨rfl,k,hk,hz0,hz1,rfl⟩
 obtain ⟨t1,t2,t3,t4,t5⟩:=trim_row hr1 (Nat.le_refl _) (by omega) how1 hk hz0 hz1
 have hv1:Pl.val (o1.take k) = d * 2 ^ s:=t5.trans (unhide HV1)
 obtain ⟨hkn,hDn⟩:=shifted_len (unhide hyl) (by omega) hyw (unhide hyN) (unhide HL).1 (unhide HL).2 (by rw [unhide hyv]; exact hv1) t3 t4
 rw [t1] at hkn
 subst hkn
 have hrD:=hr1.prefix k
 generalize o1.take k = xs at *
 have HX:=hide (And.intro t1 (And.intro hv1 (And.intro hDn t4)))
 have hw2:=hr1.lt
 clear hz0 hz1 t1 t2 t5 hv1 hDn hr1 how1 hol1 hk t4 HV1
 go_wp2_with fail
 refine (shiftUp_part a nx cap s m w2 h2 hs32).mono ?_
 rintro e w3 ⟨zs,rfl,hzl,hzw,hzv,hrz,hb3⟩
 have hrD3:=hrD.kept hb3
 have HB3:=hide (gr_trans (unhide HB2) hb3)
 have HZ:=hide (And.intro hzl hzv)
 have hg2:=(unhide HB2).size
 have hg3:=hb3.size
 clear hb3 hrD hzl hzv
 go_wp2_with fail
 rw [unhide hnt]
 have hknt:=unhide hnt
 have hht:xs[k - 2+1]?.getD 0≠0:=by
  obtain ⟨e1,_,_,e4⟩:=unhide HX
  have:=Pl.norm_last e4 (by omega)
  rwa [e1,show k - 1 = k - 2+1 by omega] at this
 have hfl:Pl.val (zs.drop t) < Pl.val xs:=by
  obtain ⟨e1,e2,_,_⟩:=unhide HX
  obtain ⟨z1,z2⟩:=unhide HZ
  have hsp:=Pl.val_split zs t (by omega)
  rw [z2] at hsp
  refine first_lt (X:=m) (Y:=d) (S:=2 ^ s) (V:=Pl.val (zs.take t)) (B:=4294967296 ^ t) (T:=4294967296 ^ t) ?_ (Nat.pow_pos (by decide)) hsp.symm e2 rfl (by rw [hsp]; exact Nat.le_add_left _ _)
  have hlow:4294967296 ^ (k - 1)≤d:=by
   rw [← unhide hyv]
   have:=Pl.norm_lower (unhide hyN) (by rw [unhide hyl]; omega)
   rwa [unhide hyl] at this
  have hup:m < 4294967296 ^ nx:=by
   obtain ⟨xs',q1,_,q3,_,q5,_⟩:=h2
   have:=Pl.val_lt q3
   rwa [q1,q5] at this
  have h3:4294967296 ^ (k - 1) * 4294967296 ^ t≤d * 4294967296 ^ t:=Nat.mul_le_mul_right _ hlow
  rw [← Nat.pow_add,show k - 1+t = nx by omega] at h3
  exact Nat.lt_of_lt_of_le hup h3
 refine (qdigits_any w2.heap.size w1.heap.size 0 k (k - 2) t (k+t) k zs xs w3 (hide (by omega)) (hide (by rw [(unhide HZ).1]; exact hknt)) (hide (unhide HX).1) (by omega) (by omega) (Nat.le_refl _) (by omega) hzw t3 (hide hht) (hide hfl) (by omega) (by omega) hrz (fun j hj=>by rw [Nat.zero_add]; exact hrD3.cell j (by rw [(unhide HX).1]; exact hj))).mono ?_
 rintro e w4 ⟨rfl,qs,rs,_,hql,hqw,hrl,hrw,hrlt,hval,hQ4,hR4,hbut⟩
 rw [List.drop_zero,(unhide HZ).2,(unhide HX).2.1] at hval
 rw [(unhide HX).2.1] at hrlt
 rw [List.replicate_zero,List.nil_append] at hQ4
 rw [List.take_zero,List.nil_append,Nat.sub_zero] at hR4
 rw [Nat.sub_zero] at hql
 have hd0:0 < d:=Nat.pos_of_ne_zero (fun e=>by rw [e,Nat.zero_mul] at hrlt; omega)
 obtain ⟨hqe,hre⟩:=long_math (Nat.pow_pos (by decide)) hd0 hval hrlt
 have HB4:=hide (hbut.below (unhide HB3) hg2)
 have hws3:w3.heap.size≤w4.heap.size:=hbut.size
 have HQE:=hide (And.intro hqe hre)
 have HLT:=hide (Nat.lt_trans hrlt (by have:=(unhide HX).2.2.1; rwa [(unhide HX).2.1] at this))
 clear hval hrlt hqe hre hbut hht hfl hrD3 hrz h2
 go_wp2_with fail
 refine (trim_at w3.heap.size 0 t t qs w4 hql (Nat.le_refl _) (by omega) (fun j hj=>by rw [Nat.zero_add]; exact hQ4.cell j hj)).mono ?_
 rintro e w4' ⟨rfl,l1,hl1,hz0,hz1,rfl⟩
 obtain ⟨q1,q2,q3,q4,q5⟩:=trim_row hQ4 (Nat.le_trans hg2 hg3) (by omega) hqw hl1 hz0 hz1
 have HM:Hid (Mine w4 w.heap.size (some ⟨w3.heap.size,0,none⟩) l1 l1 (m / d)):=hide ⟨_,q1,q2,q3,q4,q5.trans (unhide HQE).1,by omega⟩
 clear hz0 hz1 q1 q2 q3 q4 q5 hQ4 hl1
 go_wp2_with fail
 refine (trim_at w2.heap.size 0 (k+t) (k+t) (rs ++ List.replicate t 0) w4 (by simp [hrl]) (Nat.le_refl _) (by omega) (fun j hj=>by rw [Nat.zero_add]; exact hR4.cell j hj)).mono ?_
 rintro e w4' ⟨rfl,l2,hl2,hz0,hz1,rfl⟩
 obtain ⟨r1,r2,r3,r4,r5⟩:=trim_row hR4 hg2 (by simp; omega) (Pl.wf_append hrw (Pl.wf_replicate t)) hl2 hz0 hz1
 rw [Pl.val_append,Pl.val_replicate,Nat.mul_zero,Nat.add_zero] at r5
 have hl2k:l2≤k:=by
  have:=(Pl.val_le_len r3 r4 k).2 (by rw [r5]; exact unhide HLT)
  omega
 have HN:Hid (Num w4 (some ⟨w2.heap.size,0,none⟩) l2 (Pl.val rs)):=hide (Mine.num ⟨_,r1,r2,r3,r4,r5,by omega⟩)
 clear hz0 hz1 r1 r2 r3 r4 r5 hR4 hl2
 go_wp2_with fail
 refine (shiftDown_any _ l2 l2 (Pl.val rs) s w4 (unhide HN) (Nat.le_refl _) (by omega) (by omega)).mono ?_
 rintro e w5 ⟨⟨a5,l5,c5,rfl,hm5⟩,hb5⟩
 rw [(unhide HQE).2] at hm5
 have HM5:=hide (hm5.mono (unhide HB4).size)
 clear hm5
 go_wp2
 go_ret2
 exact ⟨⟨_,l1,l1,a5,l5,c5,rfl,(unhide HM).kept hb5,unhide HM5⟩,gr_trans (unhide HB4) hb5⟩
theorem divide_any (a a':Option Addr) (n n' cap cap' m d:Nat) (w:World) (h:Num w a n m) (h':Num w a' n' d) (hd:0 < d) :
  Calls Tryz.prog 102 #[.slice a n cap,.slice a' n' cap'] w fun e w'=>DivRes w' w.heap.size e (m / d) (m % d)∧Below w.heap.size w w':=by
 by_cases hlt:m < d
 ·exact divide_lt a a' n n' cap cap' m d w h h' hlt
 ·by_cases h1:n' = 1
  ·subst h1
   exact divide_short a a' n cap cap' m d w h h'
  ·have hN':=h'
   have hz:=h'.zero
   have hnn:n'≤n:=by
    obtain ⟨zs,kn,_,kw,kN,kv,_⟩:=h
    obtain ⟨ys,kn',_,kw',kN',kv',_⟩:=h'
    have:=(Pl.val_le_len kw' kN' n).2 (by rw [kv']; have:=Pl.val_lt kw; rw [kn,kv] at this; omega)
    omega
   obtain ⟨ys,hyl,hl,hyw,hyN,hyv,hyb⟩:=h'
   rcases hl.parts with hx|⟨hp,b,off,rfl,hltb,hc⟩
   ·rw [hx] at hyl; simp at hyl; omega
   ·exact divide_long a b off n n' (n+1 - n') cap cap' m d ys w h hN' (by omega) (by omega) (hide (by omega)) (hide hyl) hyw (hide hyN) (hide hyv) hltb (hide fun j hj=>hc j (by omega))
theorem div_any (a a':Option Addr) (n n' cap cap' m d:Nat) (w:World) (h:Num w a n m) (h':Num w a' n' d) :
  Calls Tryz.prog 75 #[.agg #[.slice a n cap],.agg #[.slice a' n' cap']] w fun e w'=>DivAns w' w.heap.size e m d∧Below w.heap.size w w':=by
 by_cases hd:d = 0
 ·subst hd
  have hn0:=h'.zero.2 rfl
  subst hn0
  exact div_zero a a' n cap cap' m w h
 ·exact div_of a a' n n' cap cap' m d w h h' (by omega) (hide fun w1 k k'=>divide_any a a' n n' cap cap' m d w1 k k' (by omega))
end Go.Proofs.YtplihgoapiiigaaGreatDoor
