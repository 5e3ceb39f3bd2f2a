/- Of what PowerTensRow stands on: Divide Lessen RefPow. -/
import Derived.Test.YteblliofeaahmaaDoorPal
import Derived.Test.YteblliofeaahmaaDoorPak
import Derived.Test.YteblliofeaahmaaDoorPag
import Derived.Test.YteblliofeaahmaaDoorPap
import Derived.Test.YteblliofeaahmaaDoorPam
import Derived.Test.YteblliofeaahmaaDoorPaf
namespace Go.Proofs.YteblliofeaahmaaDoor
open Go.RowKit
set_option maxHeartbeats 2000000
set_option maxRecDepth 20000
theorem long_math {X Y S Q R:Nat} (hS:0 < S) (hY:0 < Y) (h:X * S = Q * (Y * S)+R) (hR:R < Y * S):Q = X / Y∧R / S = X % Y:=by
 have hD:0 < Y * S:=Nat.mul_pos hY hS
 have h1:X * S / (Y * S) = Q:=by
  rw [h,Nat.mul_comm Q,Nat.mul_add_div hD,Nat.div_eq_of_lt hR,Nat.add_zero]
 have h2:X * S % (Y * S) = R:=by
  rw [h,Nat.mul_comm Q,Nat.mul_add_mod,Nat.mod_eq_of_lt hR]
 rw [Nat.mul_div_mul_right _ _ hS] at h1
 rw [Nat.mul_mod_mul_right] at h2
 exact ⟨h1.symm,by rw [← h2,Nat.mul_div_cancel _ hS]⟩
theorem shifted_len {ys out:List Nat} {n s l:Nat} (hn:ys.length = n) (hp:0 < n) (hw:Pl.Wf ys) (hN:Pl.Norm ys) (hl:l = ys[n - 1]?.getD 0) (hs:s+Lib.bitLen l = 32) (hov:Pl.val out = Pl.val ys * 2 ^ s) (how:Pl.Wf out) (hoN:Pl.Norm out):out.length = n∧Pl.val out < 4294967296 ^ n:=by
 subst hn
 have hb:=(bl_row hw hN hp l hl).1.1
 have hup:Pl.val out < 4294967296 ^ ys.length:=by
  rw [hov,pow32]
  have h1:Pl.val ys * 2 ^ s < 2 ^ (32 * (ys.length - 1)+Lib.bitLen l) * 2 ^ s:=Nat.mul_lt_mul_of_pos_right hb (Nat.pow_pos (by decide))
  rw [← Nat.pow_add] at h1
  rw [show 32 * ys.length = 32 * (ys.length - 1)+Lib.bitLen l+s by omega]
  exact h1
 have hlow:4294967296 ^ (ys.length - 1)≤Pl.val out:=by
  rw [hov]
  have h1:=Pl.norm_lower hN hp
  have h2:Pl.val ys * 1≤Pl.val ys * 2 ^ s:=Nat.mul_le_mul_left _ (Nat.pow_pos (by decide))
  rw [Nat.mul_one] at h2
  exact Nat.le_trans h1 h2
 have a1:=(Pl.val_le_len how hoN ys.length).2 hup
 refine ⟨?_,hup⟩
 by_cases h:out.length≤ys.length - 1
 ·have:=(Pl.val_le_len how hoN (ys.length - 1)).1 h
  exact absurd this (Nat.not_lt.2 hlow)
 ·omega
theorem first_lt {X Y S V B t T D:Nat} (hX:X < Y * T) (hS:0 < S) (hz:V+T * t = X * S) (hD:D = Y * S) (hB:B = T) (hBt:B * t≤X * S):t < D:=by
 subst hB hD
 have h1:X * S < Y * B * S:=Nat.mul_lt_mul_of_pos_right hX hS
 have h2:B * t < B * (Y * S):=by
  rw [← Nat.mul_assoc,Nat.mul_comm B Y]
  exact Nat.lt_of_le_of_lt hBt h1
 exact Nat.lt_of_mul_lt_mul_left h2
theorem lead_nat {l s:Nat} (hs:s+Lib.bitLen l = 32):(32:Int) - (Lib.bitLen l:Int) = (s:Int):=by omega
theorem shiftUp_part (a:Option Addr) (n cap s m:Nat) (w:World) (h:Num w a n m) (hs:s < 32) :
  Calls Tryd.prog 112 #[.slice a n cap,.int .i64 (s:Int)] w
   fun e w'=>∃ (out:List Nat),e = .returned (.slice (some ⟨w.heap.size,0,none⟩) (n+1) (n+1))∧out.length = n+1∧Pl.Wf out∧Pl.val out = m * 2 ^ s∧Row w' w.heap.size out∧Below w.heap.size w w':=by
 obtain ⟨xs,hn,hl,hw,hN,hv,hb⟩:=h
 have:=shiftUp_any a n cap 0 s s xs w hn (by omega) hl hw (by omega) hs (by omega)
 rw [Nat.zero_add,hv] at this
 exact this
theorem divide_long (a:Option Addr) (b' off' nx n t cap cap' m d:Nat) (ys:List Nat) (w:World) (h:Num w a nx m) (h':Num w (some ⟨b',off',none⟩) n d) (hge:d≤m) (hn2:2≤n) (hnt:Hid (nx+1 = n+t))
  (hyl:Hid (ys.length = n)) (hyw:Pl.Wf ys) (hyN:Hid (Pl.Norm ys)) (hyv:Hid (Pl.val ys = d)) (hlt:b' < w.heap.size) (hc:Hid (∀ j,j < n→w.cell? ⟨b',off'+j,none⟩ = some (.int .u32 ((ys[j]?.getD 0:Nat):Int)))) :
  Calls Tryd.prog 115 #[.slice a nx cap,.slice (some ⟨b',off',none⟩) n cap'] w fun e w'=>DivRes w' w.heap.size e (m / d) (m % d)∧Below w.heap.size w w':=by
 have hnd:decide (cmpI m d < 0) = false:=by
  by_cases e:m = d
  ·rw [e,cmpI_eq]; decide
  ·rw [cmpI_gt (by omega)]; decide
 have hnb:=h'.len
 have hxb:=h.len
 have hn1:((n:Int) == 1) = false:=by simp; omega
 obtain ⟨l,hl⟩:∃ l,l = ys[n - 1]?.getD 0:=⟨_,rfl⟩
 have hcl:w.cell? ⟨b',off'+(n - 1),none⟩ = some (.int .u32 (l:Int)):=by rw [hl]; exact unhide hc (n - 1) (by omega)
 have hl32:l < 4294967296:=by rw [hl]; exact Pl.wf_at hyw _
 obtain ⟨s,hs⟩:∃ s,s+Lib.bitLen l = 32:=⟨32 - Lib.bitLen l,by
  have:=Lib.bitLen_le l 32 (by decide) (by omega)
  omega⟩
 have hs32:s < 32:=by
  have hyl':=unhide hyl
  have:=(bl_row hyw (unhide hyN) (by omega) l (by rw [hyl']; exact hl)).2.1
  omega
 have HL:=hide (And.intro hl hs)
 have hsi:=lead_nat hs
 have HSI:=hide hsi
 clear hge hl hs hsi
 go_enter Tryd.func115,Tryd.ntmps115
 go_wp2_with fail
 refine (compare_any _ _ nx n cap cap' m d w h h').mono ?_
 rintro e w1 ⟨rfl,hb1⟩
 have hc1:w1.cell? ⟨b',off'+(n - 1),none⟩ = some (.int .u32 (l:Int)):=(hb1.cell (by exact hlt)).trans hcl
 clear hcl
 go_wp2_with fail
 refine (lead32_any l w1 hl32).mono ?_
 rintro e w1' ⟨rfl,rfl⟩
 rw [unhide HSI]
 clear hc1
 have h1:=h.kept hb1
 have h1':=h'.kept hb1
 have HB1:=hide hb1
 clear h h' hb1
 go_wp2_with fail
 refine (shiftUp_part _ n cap' s d w1 h1' hs32).mono ?_
 rintro e w2 ⟨o1,rfl,hol1,how1,hov1,hr1,hb2⟩
 have h2:=h1.kept hb2
 have HB2:=hide (gr_trans (unhide HB1) hb2)
 have hg1:=(unhide HB1).size
 have HV1:=hide hov1
 clear hb2 h1 h1' hov1
 go_wp2_with fail
 refine (trim_at w1.heap.size 0 (n+1) (n+1) o1 w2 hol1 (Nat.le_refl _) (by omega) (fun j hj=>by rw [Nat.zero_add]; exact hr1.cell j hj)).mono ?_
 rintro e w2' ⟨rfl,k,hk,hz0,hz1,rfl⟩
 obtain ⟨t1,t2,t3,t4,t5⟩:=trim_row hr1 (Nat.le_refl _) (by omega) how1 hk hz0 hz1
 have hv1:Pl.val (o1.take k) = d * 2 ^ s:=t5.trans (unhide HV1)
 obtain ⟨hkn,hDn⟩:=shifted_len (unhide hyl) (by omega) hyw (unhide hyN) (unhide HL).1 (unhide HL).2 (by rw [unhide hyv]; exact hv1) t3 t4
 rw [t1] at hkn
 subst hkn
 have hrD:=hr1.prefix k
 generalize o1.take k = xs at *
 have HX:=hide (And.intro t1 (And.intro hv1 (And.intro hDn t4)))
 have hw2:=hr1.lt
 clear hz0 hz1 t1 t2 t5 hv1 hDn hr1 how1 hol1 hk t4 HV1
 go_wp2_with fail
 refine (shiftUp_part a nx cap s m w2 h2 hs32).mono ?_
 rintro e w3 ⟨zs,rfl,hzl,hzw,hzv,hrz,hb3⟩
 have hrD3:=hrD.kept hb3
 have HB3:=hide (gr_trans (unhide HB2) hb3)
 have HZ:=hide (And.intro hzl hzv)
 have hg2:=(unhide HB2).size
 have hg3:=hb3.size
 clear hb3 hrD hzl hzv
 go_wp2_with fail
 rw [unhide hnt]
 have hknt:=unhide hnt
 have hht:xs[k - 2+1]?.getD 0≠0:=by
  obtain ⟨e1,_,_,e4⟩:=unhide HX
  have:=Pl.norm_last e4 (by omega)
  rwa [e1,show k - 1 = k - 2+1 by omega] at this
 have hfl:Pl.val (zs.drop t) < Pl.val xs:=by
  obtain ⟨e1,e2,_,_⟩:=unhide HX
  obtain ⟨z1,z2⟩:=unhide HZ
  have hsp:=Pl.val_split zs t (by omega)
  rw [z2] at hsp
  refine first_lt (X:=m) (Y:=d) (S:=2 ^ s) (V:=Pl.val (zs.take t)) (B:=4294967296 ^ t) (T:=4294967296 ^ t) ?_ (Nat.pow_pos (by decide)) hsp.symm e2 rfl (by rw [hsp]; exact Nat.le_add_left _ _)
  have hlow:4294967296 ^ (k - 1)≤d:=by
   rw [← unhide hyv]
   have:=Pl.norm_lower (unhide hyN) (by rw [unhide hyl]; omega)
   rwa [unhide hyl] at this
  have hup:m < 4294967296 ^ nx:=by
   obtain ⟨xs',q1,_,q3,_,q5,_⟩:=h2
   have:=Pl.val_lt q3
   rwa [q1,q5] at this
  have h3:4294967296 ^ (k - 1) * 4294967296 ^ t≤d * 4294967296 ^ t:=Nat.mul_le_mul_right _ hlow
  rw [← Nat.pow_add,show k - 1+t = nx by omega] at h3
  exact Nat.lt_of_lt_of_le hup h3
 refine (qdigits_any w2.heap.size w1.heap.size 0 k (k - 2) t (k+t) k zs xs w3 (hide (by omega)) (hide (by rw [(unhide HZ).1]; exact hknt)) (hide (unhide HX).1) (by omega) (by omega) (Nat.le_refl _) (by omega) hzw t3 (hide hht) (hide hfl) (by omega) (by omega) hrz (fun j hj=>by rw [Nat.zero_add]; exact hrD3.cell j (by rw [(unhide HX).1]; exact hj))).mono ?_
 rintro e w4 ⟨rfl,qs,rs,_,hql,hqw,hrl,hrw,hrlt,hval,hQ4,hR4,hbut⟩
 rw [List.drop_zero,(unhide HZ).2,(unhide HX).2.1] at hval
 rw [(unhide HX).2.1] at hrlt
 rw [List.replicate_zero,List.nil_append] at hQ4
 rw [List.take_zero,List.nil_append,Nat.sub_zero] at hR4
 rw [Nat.sub_zero] at hql
 have hd0:0 < d:=Nat.pos_of_ne_zero (fun e=>by rw [e,Nat.zero_mul] at hrlt; omega)
 obtain ⟨hqe,hre⟩:=long_math (Nat.pow_pos (by decide)) hd0 hval hrlt
 have HB4:=hide (hbut.below (unhide HB3) hg2)
 have hws3:w3.heap.size≤w4.heap.size:=hbut.size
 have HQE:=hide (And.intro hqe hre)
 have HLT:=hide (Nat.lt_trans hrlt (by have:=(unhide HX).2.2.1; rwa [(unhide HX).2.1] at this))
 clear hval hrlt hqe hre hbut hht hfl hrD3 hrz h2
 go_wp2_with fail
 refine (trim_at w3.heap.size 0 t t qs w4 hql (Nat.le_refl _) (by omega) (fun j hj=>by rw [Nat.zero_add]; exact hQ4.cell j hj)).mono ?_
 rintro e w4' ⟨rfl,l1,hl1,hz0,hz1,rfl⟩
 obtain ⟨q1,q2,q3,q4,q5⟩:=trim_row hQ4 (Nat.le_trans hg2 hg3) (by omega) hqw hl1 hz0 hz1
 have HM:Hid (Mine w4 w.heap.size (some ⟨w3.heap.size,0,none⟩) l1 l1 (m / d)):=hide ⟨_,q1,q2,q3,q4,q5.trans (unhide HQE).1,by omega⟩
 clear hz0 hz1 q1 q2 q3 q4 q5 hQ4 hl1
 go_wp2_with fail
 refine (trim_at w2.heap.size 0 (k+t) (k+t) (rs ++ List.replicate t 0) w4 (by simp [hrl]) (Nat.le_refl _) (by omega) (fun j hj=>by rw [Nat.zero_add]; exact hR4.cell j hj)).mono ?_
 rintro e w4' ⟨rfl,l2,hl2,hz0,hz1,rfl⟩
 obtain ⟨r1,r2,r3,r4,r5⟩:=trim_row hR4 hg2 (by simp; omega) (Pl.wf_append hrw (Pl.wf_replicate t)) hl2 hz0 hz1
 rw [Pl.val_append,Pl.val_replicate,Nat.mul_zero,Nat.add_zero] at r5
 have hl2k:l2≤k:=by
  have:=(Pl.val_le_len r3 r4 k).2 (by rw [r5]; exact unhide HLT)
  omega
 have HN:Hid (Num w4 (some ⟨w2.heap.size,0,none⟩) l2 (Pl.val rs)):=hide (Mine.num ⟨_,r1,r2,r3,r4,r5,by omega⟩)
 clear hz0 hz1 r1 r2 r3 r4 r5 hR4 hl2
 go_wp2_with fail
 refine (shiftDown_any _ l2 l2 (Pl.val rs) s w4 (unhide HN) (Nat.le_refl _) (by omega) (by omega)).mono ?_
 rintro e w5 ⟨⟨a5,l5,c5,rfl,hm5⟩,hb5⟩
 rw [(unhide HQE).2] at hm5
 have HM5:=hide (hm5.mono (unhide HB4).size)
 clear hm5
 go_wp2
 go_ret2
 exact ⟨⟨_,l1,l1,a5,l5,c5,rfl,(unhide HM).kept hb5,unhide HM5⟩,gr_trans (unhide HB4) hb5⟩
theorem divide_any (a a':Option Addr) (n n' cap cap' m d:Nat) (w:World) (h:Num w a n m) (h':Num w a' n' d) (hd:0 < d) :
  Calls Tryd.prog 115 #[.slice a n cap,.slice a' n' cap'] w fun e w'=>DivRes w' w.heap.size e (m / d) (m % d)∧Below w.heap.size w w':=by
 by_cases hlt:m < d
 ·exact divide_lt a a' n n' cap cap' m d w h h' hlt
 ·by_cases h1:n' = 1
  ·subst h1
   exact divide_short a a' n cap cap' m d w h h'
  ·have hN':=h'
   have hz:=h'.zero
   have hnn:n'≤n:=by
    obtain ⟨zs,kn,_,kw,kN,kv,_⟩:=h
    obtain ⟨ys,kn',_,kw',kN',kv',_⟩:=h'
    have:=(Pl.val_le_len kw' kN' n).2 (by rw [kv']; have:=Pl.val_lt kw; rw [kn,kv] at this; omega)
    omega
   obtain ⟨ys,hyl,hl,hyw,hyN,hyv,hyb⟩:=h'
   rcases hl.parts with hx|⟨hp,b,off,rfl,hltb,hc⟩
   ·rw [hx] at hyl; simp at hyl; omega
   ·exact divide_long a b off n n' (n+1 - n') cap cap' m d ys w h hN' (by omega) (by omega) (hide (by omega)) (hide hyl) hyw (hide hyN) (hide hyv) hltb (hide fun j hj=>hc j (by omega))
theorem div_any (a a':Option Addr) (n n' cap cap' m d:Nat) (w:World) (h:Num w a n m) (h':Num w a' n' d) :
  Calls Tryd.prog 93 #[.agg #[.slice a n cap],.agg #[.slice a' n' cap']] w fun e w'=>DivAns w' w.heap.size e m d∧Below w.heap.size w w':=by
 by_cases hd:d = 0
 ·subst hd
  have hn0:=h'.zero.2 rfl
  subst hn0
  exact div_zero a a' n cap cap' m w h
 ·exact div_of a a' n n' cap cap' m d w h h' (by omega) (hide fun w1 k k'=>divide_any a a' n n' cap cap' m d w1 k k' (by omega))
theorem Mine.row {w:World} {base n c m:Nat} {a:Option Addr} (h:Mine w base a n c m) (hp:0 < n) :
  ∃ g xs,a = some ⟨g,0,none⟩∧base≤g∧g < w.heap.size∧xs.length = n∧Row w g xs∧Pl.Wf xs∧Pl.Norm xs∧Pl.val xs = m∧n≤c∧c≤9223372036854775807∧n≤16384:=by
 have hcap:=h.cap
 obtain ⟨xs,hn,ho,hw,hN,hv,hb⟩:=h
 rcases ho with ⟨e,_⟩|⟨g,cap,cur,e,hg,hh,h1,h2,h3,hc⟩
 ·injection e with e1 e2 e3; omega
 ·injection e with e1 e2 e3
  have hcur:cur = lc xs ++ (cur.toList.drop n).toArray:=by
   apply Array.toList_inj.1
   rw [Array.toList_append]
   simp only [lc]
   have ht:cur.toList.take n = xs.map (fun z:Nat=>Value.int .u32 (z:Int)):=by
    apply List.ext_getElem
    ·simp; omega
    ·intro i h4 h5
     have hi:i < xs.length:=by simpa using h5
     have:=hc i hi
     rw [List.getElem?_eq_getElem hi,Option.getD_some] at this
     rw [List.getElem_take,List.getElem_map]
     have h6:i < cur.size:=by omega
     rw [Array.getElem?_eq_getElem h6] at this
     injection this with this
   rw [← ht,List.take_append_drop]
  have hlt:g < w.heap.size:=by
   by_cases hlt:g < w.heap.size
   ·exact hlt
   ·rw [Array.getElem?_eq_none (by omega)] at hh; cases hh
  exact ⟨g,xs,e1,hg,hlt,hn,⟨_,by rw [← hcur]; exact hh⟩,hw,hN,hv,hcap.1,hcap.2,hb⟩
theorem Mine.block {w:World} {base n c m g:Nat} {a:Option Addr} (h:Mine w base a n c m) (ha:a = some ⟨g,0,none⟩):base≤g:=by
 obtain ⟨xs,hn,ho,_⟩:=h
 rcases ho with ⟨e,_⟩|⟨g',cap,cur,e,hg,_⟩
 ·injection e with e1 e2 e3; rw [ha] at e1; cases e1
 ·injection e with e1 e2 e3
  rw [ha] at e1
  injection e1 with e1
  injection e1 with e1
  omega
theorem TimesTo.mine {base b0 N P:Nat} {e:Ending} {w':World} (h:TimesTo base N P e w') (hb:b0≤base) :
  ∃ n,e = .returned (.slice (some ⟨base,0,none⟩) n N)∧n≤N∧(n≤16384→Mine w' b0 (some ⟨base,0,none⟩) n N P)∧(16384 < n→Over P)∧∃ zs,zs.length = n∧Own w' base (.slice (some ⟨base,0,none⟩) n N) zs∧Pl.Wf zs∧Pl.Norm zs∧Pl.val zs = P:=by
 obtain ⟨n,zs,he,hn,hl,ho,hw,hN,hv⟩:=h
 refine ⟨n,he,hn,fun h16=>⟨zs,hl,ho.mono hb,hw,hN,hv,h16⟩,fun h16=>⟨?_⟩,zs,hl,ho,hw,hN,hv⟩
 have h:=Pl.val_le_len hw hN Pl.top
 rw [hl,hv,Pl.top_eq] at h
 rw [Pl.top_eq]
 omega
theorem rtimes_own (g nx cx N:Nat) (xs:List Nat) (b' ny cy:Nat) (ys:List Nat) (w:World) (hxl:xs.length = nx) (hyl:ys.length = ny) (hx:nx≤40000) (hy:ny≤40000) (wx:Pl.Wf xs) (wy:Pl.Wf ys) (hgx:g < w.heap.size) (hgy:b' < w.heap.size)
  (hcx:∀ j,j < nx→w.cell? ⟨g,0+j,none⟩ = some (.int .u32 ((xs[j]?.getD 0:Nat):Int))) (hcy:∀ j,j < ny→w.cell? ⟨b',0+j,none⟩ = some (.int .u32 ((ys[j]?.getD 0:Nat):Int))) (hN:nx+ny = N) :
  Calls Tryd.prog 50 #[.slice (some ⟨g,0,none⟩) nx cx,.slice (some ⟨b',0,none⟩) ny cy] w
   fun e w'=>TimesTo w.heap.size N (Pl.val xs * Pl.val ys) e w'∧Below w.heap.size w w':=by
 subst hN
 exact rtimes_some g 0 cx b' 0 cy nx ny xs ys w (hide hxl) (hide hyl) hx hy wx wy hgx hgy (hide hcx) (hide hcy)
theorem rpow_short (b n v:Nat) (w:World) (hb:b < 4294967296) (hn:n < 9223372036854775808) (hv:Hid (b ^ n = v)) (hc:(n = 0∧v = 1)∨(n≠0∧b < 2∧v = b)) :
  Calls Tryd.prog 45 #[.int .u32 (b:Int),.int .i64 (n:Int)] w fun e w'=>Ans w' w.heap.size e (b ^ n)∧Below w.heap.size w w':=by
 rw [unhide hv]
 rcases hc with ⟨rfl,rfl⟩|⟨h1,h2,rfl⟩
 ·go_enter Tryd.func45,Tryd.ntmps45
  go_wp2_with fail
  refine (rof_any 1 _ (by omega)).mono ?_
  rintro e w1 ⟨⟨a1,n1,c1,rfl,hm1⟩,hb1⟩
  have hX:=(Box.made w (.slice none 0 0)).kept hb1
  have hcx:=hX.cell
  have hfx:=hX.frozen
  have HM:=hide (hm1.mono (show w.heap.size≤(w.alloc (.cells #[.slice none 0 0] 65)).heap.size by simp))
  have HB:=hide (gr_trans (gr_alloc w (.cells #[.slice none 0 0] 65)) hb1)
  clear hm1 hb1
  go_wp2
  exact bodyPost_ret (v:=.tuple #[.agg #[.slice a1 n1 c1],.int .i64 0]) (by simp [results,Tryd.results45,go_sem,hcx]) rfl ⟨Or.inl ⟨_,_,_,rfl,(unhide HM).setBox hX _⟩,(unhide HB).setCell (Nat.le_refl _) _⟩
 ·have hn0:((n:Int) == 0) = false:=by rw [beq_eq_false_iff_ne]; omega
  have hb2:(v:Int) < 2:=by omega
  clear h1 h2
  go_enter Tryd.func45,Tryd.ntmps45
  go_wp2_with fail
  refine (rof_any v _ (by omega)).mono ?_
  rintro e w1 ⟨⟨a1,n1,c1,rfl,hm1⟩,hb1⟩
  have hX:=(Box.made w (.slice none 0 0)).kept hb1
  have hcx:=hX.cell
  have hfx:=hX.frozen
  have HM:=hide (hm1.mono (show w.heap.size≤(w.alloc (.cells #[.slice none 0 0] 65)).heap.size by simp))
  have HB:=hide (gr_trans (gr_alloc w (.cells #[.slice none 0 0] 65)) hb1)
  clear hm1 hb1
  go_wp2
  exact bodyPost_ret (v:=.tuple #[.agg #[.slice a1 n1 c1],.int .i64 0]) (by simp [results,Tryd.results45,go_sem,hcx]) rfl ⟨Or.inl ⟨_,_,_,rfl,(unhide HM).setBox hX _⟩,(unhide HB).setCell (Nat.le_refl _) _⟩
theorem rpow_over (b n:Nat) (w:World) (hb:b < 4294967296) (hb2:2≤b) (hn:n < 9223372036854775808) (hbig:524288 < n) :
  Calls Tryd.prog 45 #[.int .u32 (b:Int),.int .i64 (n:Int)] w fun e w'=>Ans w' w.heap.size e (b ^ n)∧Below w.heap.size w w':=by
 have HO:=hide (two_pow_over hb2 (Nat.le_of_lt hbig))
 have hn0:((n:Int) == 0) = false:=by rw [beq_eq_false_iff_ne]; omega
 have hb2i:¬ (b:Int) < 2:=by omega
 have hgi:(524288:Int) < (n:Int):=by omega
 clear hbig hb2
 go_enter Tryd.func45,Tryd.ntmps45
 go_wp2
 exact bodyPost_ret (v:=.tuple #[.agg #[.slice none 0 0],.int .i64 4]) (by simp [results,Tryd.results45,go_sem]) rfl ⟨Or.inr ⟨rfl,unhide HO⟩,gr_alloc _ _⟩
theorem rpow_in (b n:Nat) (w:World) (hb:b < 4294967296) (hb2:2≤b) (hn0:n≠0) (hbig:n≤524288) :
  Calls Tryd.prog 45 #[.int .u32 (b:Int),.int .i64 (n:Int)] w fun e w'=>Ans w' w.heap.size e (b ^ n)∧Below w.heap.size w w':=by
 have hn0i:((n:Int) == 0) = false:=by rw [beq_eq_false_iff_ne]; omega
 have hb2i:¬ (b:Int) < 2:=by omega
 have hgi:¬ (524288:Int) < (n:Int):=by omega
 have HQ:=hide (And.intro hb2 (And.intro hn0 hbig))
 clear hn0 hb2 hbig
 go_enter Tryd.func45,Tryd.ntmps45
 go_wp2
 go_loopw [6,7] (fun s6 s7 wr=>∃ (j g l c:Nat),j≤20∧s7 = .int .i64 ((j:Int) - 1)∧s6 = .slice (some ⟨g,0,none⟩) l c∧0 < l∧Hid (Mine wr w.heap.size (some ⟨g,0,none⟩) l c (b ^ (n / 2 ^ j)))∧Box wr w.heap.size (.slice none 0 0)∧Below w.heap.size w wr) (fun _ s7 _=>(intOf s7+1).toNat)
 case atStart=>
  have hz:n / 2 ^ 20 = 0:=Nat.div_eq_of_lt (by have:=(unhide HQ).2.2; omega)
  refine ⟨20,w.heap.size+1,1,1,Nat.le_refl _,rfl,by simp,by omega,hide ?_,(Box.made w (.slice none 0 0)).alloc _,gr_trans (gr_alloc _ _) (gr_alloc _ _)⟩
  rw [hz,Nat.pow_zero]
  refine ⟨[1],rfl,Or.inr ⟨w.heap.size+1,1,#[.int .u32 1],rfl,by omega,by rw [heap_alloc2_new],by simp,by simp,by omega,fun j hj=>?_⟩,Pl.wf_one (by decide),by simp [Pl.Norm],rfl,by omega⟩
  have:j = 0:=by simpa using hj
  subst this
  rfl
 case round=>
  obtain ⟨j,g,l,c,hj,rfl,rfl,hl0,HM,hbx,hbel⟩:=hrel
  have hcx:=hbx.cell
  have hfx:=hbx.frozen
  by_cases hj0:j = 0
  ·subst hj0
   have hm:Mine wr w.heap.size (some ⟨g,0,none⟩) l c (b ^ n):=by have:=unhide HM; rwa [Nat.pow_zero,Nat.div_one] at this
   have HM':=hide hm
   clear HM hm
   go_wp2_with fail
   refine (rnat_any _ _ l c _ rfl).mono ?_
   rintro e w2 ⟨rfl,rfl⟩
   have hbx2:=hbx.alloc (.cells #[.slice (some ⟨g,0,none⟩) l c] 65)
   have hcx2:=hbx2.cell
   have hfx2:=hbx2.frozen
   go_wp2
   exact bodyPost_ret (v:=.tuple #[.agg #[.slice (some ⟨g,0,none⟩) l c],.int .i64 0]) (by simp [results,Tryd.results45,go_sem,hcx2]) rfl ⟨Or.inl ⟨_,_,_,rfl,((unhide HM').alloc _).setBox hbx2 _⟩,((gr_trans hbel (gr_alloc _ _))).setCell (Nat.le_refl _) _⟩
  ·obtain ⟨k,rfl⟩:∃ k,j = k+1:=⟨j - 1,by omega⟩
   obtain ⟨g',xs,e1,hg,hglt,hxl,hrow,hxw,hxN,hxv,hlc,hc9,hl16⟩:=(unhide HM).row hl0
   injection e1 with e1
   injection e1 with e1
   subst e1
   have HT:=hide (rtimes_own g l c (l+l) xs g l c xs wr hxl hxl (by omega) (by omega) hxw hxw hglt hglt (fun i hi=>by rw [Nat.zero_add]; exact hrow.cell i (by omega)) (fun i hi=>by rw [Nat.zero_add]; exact hrow.cell i (by omega)) rfl)
   have HV:=hide hxv
   clear hrow hxv hxw hxN
   go_wp2_with fail
   refine (unhide HT).mono ?_
   rintro e w2 ⟨ht,hb2'⟩
   obtain ⟨n2,rfl,hn2,hmine,hover,zs,hzl,hzo,hzw,hzN,hzv⟩:=ht.mine hbel.size
   have hbx2:=hbx.kept hb2'
   have HB2:=hide (gr_trans hbel hb2')
   have hVp:0 < b ^ (n / 2 ^ (k+1)):=Nat.pow_pos (by have:=(unhide HQ).1; omega)
   rw [unhide HV] at hzv hmine hover
   have hn2p:0 < n2:=Nat.pos_of_ne_zero (fun e=>by
    have h0:zs = []:=List.length_eq_zero_iff.1 (by omega)
    rw [h0] at hzv
    have:0 < b ^ (n / 2 ^ (k+1)) * b ^ (n / 2 ^ (k+1)):=Nat.mul_pos hVp hVp
    rw [← hzv] at this
    exact absurd this (by simp [Pl.val]))
   have hzr:Row w2 wr.heap.size zs:=by
    rcases hzo with ⟨e,_⟩|⟨g',cap',cur,e,hg',hh,h1,h2,h3,hcc⟩
    ·cases e
    ·injection e with e1 e2 e3
     injection e1 with e1
     injection e1 with e1
     subst e1
     refine ⟨(cur.toList.drop n2).toArray,?_⟩
     have hcur:cur = lc zs ++ (cur.toList.drop n2).toArray:=by
      apply Array.toList_inj.1
      rw [Array.toList_append]
      simp only [lc]
      have ht:cur.toList.take n2 = zs.map (fun z:Nat=>Value.int .u32 (z:Int)):=by
       apply List.ext_getElem
       ·simp; omega
       ·intro i h4 h5
        have hi:i < zs.length:=by simpa using h5
        have:=hcc i hi
        rw [List.getElem?_eq_getElem hi,Option.getD_some] at this
        rw [List.getElem_take,List.getElem_map]
        have h6:i < cur.size:=by omega
        rw [Array.getElem?_eq_getElem h6] at this
        injection this with this
      rw [← ht,List.take_append_drop]
     rw [← hcur]; exact hh
   have hw2:wr.heap.size < w2.heap.size:=hzr.lt
   by_cases hpar:n / 2 ^ k % 2 = 0
   ·have hbit:(Go.bits BinOp.and IntKind.i64 ((n:Int) / 2 ^ k) 1 == 1) = false:=by
     have e:(n:Int) / 2 ^ k = ((n / 2 ^ k:Nat):Int):=by simp
     rw [e,and_one_i64 _ (Nat.lt_of_le_of_lt (div_pow_le n k) (by have:=(unhide HQ).2.2; omega)),hpar]; rfl
    have e1:b ^ (n / 2 ^ (k+1)) * b ^ (n / 2 ^ (k+1)) = b ^ (n / 2 ^ k):=by rw [← Nat.pow_add,half_even n k hpar]
    rw [e1] at hmine hover
    clear hpar e1 hzv hzo hzr hzw hzN hb2' ht HT HM
    by_cases h16:n2≤16384
    ·have hm16:=hmine h16
     have h16i:¬ (16384:Int) < (n2:Int):=by omega
     have HMn:=hide hm16
     have HP:=hide hn2p
     clear h16 hm16 hmine hover
     go_wp2
     go_roundw
     case rel=>exact ⟨k,wr.heap.size,n2,l+l,by omega,by go_num,rfl,unhide HP,unhide HMn,hbx2,unhide HB2⟩
     case measure=>simp [intOf]
    ·have hov:=hover (by omega)
     have h16i:(16384:Int) < (n2:Int):=by omega
     have HOv:Hid (Over (b ^ n)):=hide (over_mono (by have:=(unhide HQ).1; omega) (div_pow_le n k) hov)
     have hcx2:=hbx2.cell
     have hfx2:=hbx2.frozen
     clear h16 hov hmine hover
     go_wp2
     exact bodyPost_ret (v:=.tuple #[.agg #[.slice none 0 0],.int .i64 4]) (by simp [results,Tryd.results45,go_sem,hcx2]) rfl ⟨Or.inr ⟨rfl,unhide HOv⟩,(unhide HB2).setCell (Nat.le_refl _) _⟩
   ·have hbit:(Go.bits BinOp.and IntKind.i64 ((n:Int) / 2 ^ k) 1 == 1) = true:=by
     have e:(n:Int) / 2 ^ k = ((n / 2 ^ k:Nat):Int):=by simp
     rw [e,and_one_i64 _ (Nat.lt_of_le_of_lt (div_pow_le n k) (by have:=(unhide HQ).2.2; omega)),show n / 2 ^ k % 2 = 1 by omega]; rfl
    have hbr:Row (w2.alloc (.cells #[.int .u32 (b:Int)] 42)) w2.heap.size [b]:=heap_alloc_lc w2 b
    have hzr':=hzr.kept (gr_alloc w2 (.cells #[.int .u32 (b:Int)] 42))
    have HT2:=hide (rtimes_own wr.heap.size n2 (l+l) (n2+1) zs w2.heap.size 1 1 [b] (w2.alloc (.cells #[.int .u32 (b:Int)] 42)) hzl rfl (by omega) (by omega) hzw (Pl.wf_one hb) (by simp; omega) (by simp) (fun i hi=>by rw [Nat.zero_add]; exact hzr'.cell i (by omega)) (fun i hi=>by rw [Nat.zero_add]; exact hbr.cell i hi) rfl)
    have e1:Pl.val zs * Pl.val [b] = b ^ (n / 2 ^ k):=by rw [hzv,Pl.val_one,pow_odd,half_odd n k hpar]
    rw [e1] at HT2
    clear hpar e1 hzv hzo hzr hzw hzN hb2' ht HT HM hbr hzr' hmine hover
    go_wp2_with fail
    refine (unhide HT2).mono ?_
    rintro e w3 ⟨ht3,hb3⟩
    obtain ⟨n3,rfl,hn3,hmine3,hover3,zs3,hzl3,_,_,_,hzv3⟩:=ht3.mine (Nat.le_trans (unhide HB2).size (gr_alloc w2 _).size)
    simp only [World.size_alloc] at hmine3
    have hn3p:0 < n3:=Nat.pos_of_ne_zero (fun e=>by
     have h0:zs3 = []:=List.length_eq_zero_iff.1 (by omega)
     rw [h0] at hzv3
     have:0 < b ^ (n / 2 ^ k):=Nat.pow_pos (by have:=(unhide HQ).1; omega)
     rw [← hzv3] at this
     exact absurd this (by simp [Pl.val]))
    have hbx3:=(hbx2.alloc (.cells #[.int .u32 (b:Int)] 42)).kept hb3
    have HB3:=hide (gr_trans (gr_trans (unhide HB2) (gr_alloc w2 (.cells #[.int .u32 (b:Int)] 42))) hb3)
    clear hzv3 ht3 hb3 HT2
    by_cases h16:n3≤16384
    ·have hm16:=hmine3 h16
     have h16i:¬ (16384:Int) < (n3:Int):=by omega
     have HMn:=hide hm16
     have HP:=hide hn3p
     clear h16 hm16 hmine3 hover3
     go_wp2
     go_roundw
     case rel=>exact ⟨k,_,n3,n2+1,by omega,by go_num,rfl,unhide HP,unhide HMn,hbx3,unhide HB3⟩
     case measure=>simp [intOf]
    ·have hov:=hover3 (by omega)
     have h16i:(16384:Int) < (n3:Int):=by omega
     have HOv:Hid (Over (b ^ n)):=hide (over_mono (by have:=(unhide HQ).1; omega) (div_pow_le n k) hov)
     have hcx2:=hbx3.cell
     have hfx2:=hbx3.frozen
     clear h16 hov hmine3 hover3
     go_wp2
     exact bodyPost_ret (v:=.tuple #[.agg #[.slice none 0 0],.int .i64 4]) (by simp [results,Tryd.results45,go_sem,hcx2]) rfl ⟨Or.inr ⟨rfl,unhide HOv⟩,(unhide HB3).setCell (Nat.le_refl _) _⟩
theorem rpow_any (b n:Nat) (w:World) (hb:b < 4294967296) (hn:n < 9223372036854775808) :
  Calls Tryd.prog 45 #[.int .u32 (b:Int),.int .i64 (n:Int)] w fun e w'=>Ans w' w.heap.size e (b ^ n)∧Below w.heap.size w w':=by
 by_cases h0:n = 0
 ·subst h0
  exact rpow_short b 0 1 w hb hn (hide (Nat.pow_zero b)) (Or.inl ⟨rfl,rfl⟩)
 ·by_cases hb2:b < 2
  ·refine rpow_short b n b w hb hn (hide ?_) (Or.inr ⟨h0,hb2,rfl⟩)
   have:b = 0∨b = 1:=by omega
   rcases this with rfl|rfl
   ·exact Nat.zero_pow (by omega)
   ·exact Nat.one_pow n
  ·by_cases hbig:n≤524288
   ·exact rpow_in b n w hb (by omega) h0 hbig
   ·exact rpow_over b n w hb (by omega) hn (by omega)
end Go.Proofs.YteblliofeaahmaaDoor
