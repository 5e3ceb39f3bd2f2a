/- Of what SoftFmasRow stands on: SkFmaB SkFmas. -/
import Derived.Test.YtfimakkpdjppfaaGreatDoorPbq
import Derived.Test.YtfimakkpdjppfaaGreatDoorPbs
import Derived.Test.YtfimakkpdjppfaaGreatDoorPbr
import Derived.Test.YtfimakkpdjppfaaGreatDoorPbf
namespace Go.Proofs.YtfimakkpdjppfaaGreatDoor
open Go.RowKit
set_option maxHeartbeats 4000000
theorem kr_nan3 {k0 k1 k2:Kd} {g0 n0 q0 i0 s0 g1 n1 q1 i1 s1 g2 n2 q2 i2 s2:Bool} {m0 m1 m2:Nat} {x0 x1 x2:Int} (h0:Kr k0 g0 n0 q0 i0 s0 m0 x0) (h1:Kr k1 g1 n1 q1 i1 s1 m1 x1) (h2:Kr k2 g2 n2 q2 i2 s2 m2 x2) :
  (k0.isNan || k1.isNan || k2.isNan) = (n0 || n1 || n2)∧((n0 || n1 || n2) = true→∃ fl:Nat,nn3 k0 k1 k2 = (fl:Int)∧((fl:Int) = fl16 ((n0 && !q0) || (n1 && !q1) || (n2 && !q2)))):=by
 have e:∀ {k:Kd} {g n q i s:Bool} {m:Nat} {x:Int},Kr k g n q i s m x→k.isNan = n∧∀ c:Int,(c = 0∨c = 16)→nnS c k = if (n && !q) then 16 else c:=by
  intro k g n q i s m x h
  cases h <;> refine ⟨rfl,fun c hc=>?_⟩ <;> rcases hc with rfl|rfl <;> first|rfl|(show Go.bits .or .u8 _ ((_:Nat):Int) = _; decide)
 obtain ⟨a0,b0⟩:=e h0
 obtain ⟨a1,b1⟩:=e h1
 obtain ⟨a2,b2⟩:=e h2
 refine ⟨by rw [a0,a1,a2],fun _=>?_⟩
 have c0:=b0 0 (Or.inl rfl)
 have c1:=b1 (nnS 0 k0) (by rw [c0]; split <;> simp)
 have c2:=b2 (nnS (nnS 0 k0) k1) (by rw [c1,c0]; split <;> (try split) <;> simp)
 unfold nn3
 rw [c2,c1,c0]
 generalize (n0 && !q0) = u0
 generalize (n1 && !q1) = u1
 generalize (n2 && !q2) = u2
 cases u0 <;> cases u1 <;> cases u2 <;> first|exact ⟨0,by decide,by decide⟩|exact ⟨16,by decide,by decide⟩
theorem fma_both {E F S I a b d md:Nat} (h:Fm E F S I) (ha:a < 2 * S) (hb:b < 2 * S) (hd:d < 2 * S) (hmd:md≤4) :
  ∃ X Y:Int,FmaIs E F a b d md X Y 0∧Tel 6 #[.agg #[.int .i64 E,.int .i64 F],.int .u64 (a:Int),.int .u64 (b:Int),.int .u64 (d:Int),.int .u8 (md:Int)] (.tuple #[.int .u64 X,.int .u8 Y,.int .i64 0]):=by
 obtain ⟨k0,g0,n0,q0,i0,s0,m0,x0,HA,HO0,K0,-,-⟩:=flt_kr h ha
 obtain ⟨k1,g1,n1,q1,i1,s1,m1,x1,HB,HO1,K1,-,-⟩:=flt_kr h hb
 obtain ⟨k2,g2,n2,q2,i2,s2,m2,x2,HD,HO2,K2,-,hi2⟩:=flt_kr h hd
 obtain ⟨nn,N1,N2⟩:=nan_both h
 obtain ⟨B,hB⟩:∃ B,B = 2 ^ (E - 1) - 1:=⟨_,rfl⟩
 have h0:=h.fo
 have R0:Tel 21 #[.agg #[.int .i64 E,.int .i64 F],.int .u64 (a:Int)] (.int .i64 0):=fun W=>rmay_ok E F a h0 (h.bt ha) W
 have Q0:Tel 21 #[.agg #[.int .i64 E,.int .i64 F],.int .u64 (b:Int)] (.int .i64 0):=fun W=>rmay_ok E F b h0 (h.bt hb) W
 have P0:Tel 21 #[.agg #[.int .i64 E,.int .i64 F],.int .u64 (d:Int)] (.int .i64 0):=fun W=>rmay_ok E F d h0 (h.bt hd) W
 obtain ⟨K,hK⟩:∃ K,K = 3100+3100:=⟨_,rfl⟩
 obtain ⟨L,hL⟩:∃ L:Int,L = -4096:=⟨_,rfl⟩
 obtain ⟨r1,v1,z1,RP,o1,hpn,hpz⟩:=rprod_any K0.ok K1.ok hK hL
 have o2:OkD s2 m2 x2∧L≤x2∧m2 * 2 ^ (x2 - L).toNat < 2 ^ K:=wide_ok rfl rfl hL hK K2.ok
 obtain ⟨r,v,y,xs,ys,SU,ok,ly,we,HSm,hpos,hsame,hdiff⟩:=sum_gen h hB hmd L K (by omega) (by omega) (by omega) (by omega) (!g0 == g1) g2 o1 o2
 have ref:∀ X Y:Int,_→Tel 6 #[.agg #[.int .i64 E,.int .i64 F],.int .u64 (a:Int),.int .u64 (b:Int),.int .u64 (d:Int),.int .u8 (md:Int)] (.tuple #[.int .u64 X,.int .u8 Y,.int .i64 0]):=fun X Y hc W=>xFma_ok W E F a b d md g0 n0 q0 i0 s0 g1 n1 q1 i1 s1 g2 n2 q2 i2 s2 m0 m1 m2 x0 x1 x2 nn (infS S I (!g0 == g1):Int) X Y xs ys r1 v1 z1 R0 Q0 P0 (by omega) (hide HO0) (hide HO1) (hide HO2) N2 (xinf_T h _) (hide RP) (hide HSm) hc
 obtain ⟨hn,hfl⟩:=kr_nan3 K0 K1 K2
 by_cases hr:(n0 || n1 || n2) = true
 ·obtain ⟨fl,f1,f2⟩:=hfl hr
  exact ⟨nn,fl,fma_nan h ha hb hd hmd HA HB HD (hn.trans hr) fl f1 nn N1,ref nn fl (Or.inl ⟨hr,rfl,f2⟩)⟩
 replace hr:(n0 || n1 || n2) = false:=by simpa using hr
 rw [hr] at hn
 have hr2:(n0 || n1) = false:=by revert hr; cases n0 <;> cases n1 <;> simp
 have infR:∀ g:Bool,∀ W:World,Calls Tryz.prog 128 #[.agg #[.bool g,.int .u8 0],.agg #[.int .i64 E,.int .i64 F],.int .u8 (md:Int)] W fun e w'=>e = .returned (.tuple #[.int .u64 (infS S I g:Int),.int .u8 0,.int .i64 0])∧Below W.heap.size W w':=fun g W=>infrounded g 0 E F md _ 0 (inf_T h g) W
 have nouR:∀ g:Bool,∀ W:World,Calls Tryz.prog 139 #[.agg #[.bool g,.int .u8 0],.agg #[.int .i64 E,.int .i64 F],.int .u8 (md:Int)] W fun e w'=>e = .returned (.tuple #[.int .u64 (sgS S g),.int .u8 0,.int .i64 0])∧Below W.heap.size W w':=fun g W=>nourounded g 0 E F md _ 0 (nou_T h g) W
 have nanR:∀ W:World,Calls Tryz.prog 118 #[.agg #[.int .u8 16],.agg #[.int .i64 E,.int .i64 F],.int .u8 (md:Int)] W fun e w'=>e = .returned (.tuple #[.int .u64 nn,.int .u8 16,.int .i64 0])∧Below W.heap.size W w':=fun W=>nonerounded 16 E F md nn 0 N1 W
 have numR:0 < v→∀ (W:World) (A:Option Addr) (N C:Nat),Mine W 0 A N C v→Calls Tryz.prog 149 #[.agg #[.bool r,.slice A N C,.int .i64 y,.int .u8 0],.agg #[.int .i64 E,.int .i64 F],.int .u8 (md:Int)] W fun e w'=>e = .returned (.tuple #[.int .u64 xs,.int .u8 ys,.int .i64 0])∧Below W.heap.size W w':=fun hv W A N C g=>by
  obtain ⟨e1,e2⟩:=hpos hv
  have hod:=okd_odd ok hv
  rw [e1,e2]
  exact numrounded r A N C v y 0 E F md _ _ _ W g (hide fun W g=>rdyadic_any h hB hmd r r A N C v (blen v) y W 0 g hod (bl_blen v)) flag_or
 have hm4:((md:Int) == (4:Int)) = decide (md = 4):=by rw [Bool.eq_iff_iff]; simp; omega
 rcases times_kinds K0 K1 hr2 with ⟨HT,hc⟩|⟨HT,hc⟩|⟨HT,e0,e1,hz⟩|⟨HT,e0,e1,p0,p1⟩
 ·refine ⟨nn,16,fma_pp h ha hb hd hmd HA HB HD hn 116 _ _ 118 65 (.agg #[.int .u8 16]) _ _ HT (fun w=>na_none _ w) (fun w=>mt_none _ w) en_pnone (fun W B t2 y2 hT f2=>noneplus 16 md t2 y2 W) en_rnone (fun w=>mr_none _ w) nanR,ref _ _ ?_⟩
  rcases hc with ⟨e0,e1,e2⟩|⟨e0,e1,e2⟩
  ·exact Or.inr ⟨hr,Or.inr (Or.inr (Or.inr (Or.inl ⟨e0,e1,e2,rfl,rfl⟩)))⟩
  ·exact Or.inr ⟨hr,Or.inr (Or.inr (Or.inr (Or.inr (Or.inr (Or.inr (Or.inr (Or.inl ⟨e0,e1,e2,rfl,rfl⟩)))))))⟩
 ·cases K2 with
  | nanq=>simp at hr
  | nanl=>simp at hr
  | inf=>
   by_cases hg:(!g2 == (!g0 == g1)) = true
   ·refine ⟨nn,16,fma_pp h ha hb hd hmd HA HB HD hn 126 _ _ 118 65 (.agg #[.int .u8 16]) _ _ HT (fun w=>na_inf _ w) (fun w=>mt_inf _ w) en_pinf (fun W B t2 y2 hT f2=>?_) en_rnone (fun w=>mr_none _ w) nanR,ref _ _ ?_⟩
    ·obtain ⟨rfl,rfl⟩:=ifc f2
     exact infplus_diff (!g0 == g1) g2 0 0 md (by revert hg; generalize (!g0 == g1) = u; cases u <;> cases g2 <;> simp) W
    ·rcases hc with ⟨e0,e1⟩|⟨e0,e1,e2⟩|⟨e0,e1,e2⟩
     ·exact Or.inr ⟨hr,Or.inl ⟨e0,e1,rfl,hg,rfl,rfl⟩⟩
     ·exact Or.inr ⟨hr,Or.inr (Or.inr (Or.inr (Or.inr (Or.inl ⟨e0,e1,rfl,hg,e2,rfl,rfl⟩))))⟩
     ·exact Or.inr ⟨hr,Or.inr (Or.inr (Or.inr (Or.inr (Or.inr (Or.inr (Or.inr (Or.inr (Or.inl ⟨e0,e1,rfl,hg,e2,rfl,rfl⟩))))))))⟩
   ·replace hg:(!g2 == (!g0 == g1)) = false:=Bool.eq_false_iff.2 hg
    refine ⟨_,0,fma_pp h ha hb hd hmd HA HB HD hn 126 _ _ 128 113 _ _ _ HT (fun w=>na_inf _ w) (fun w=>mt_inf _ w) en_pinf (fun W B t2 y2 hT f2=>?_) en_rinf (fun w=>mr_inf _ w) (infR (!g0 == g1)),ref _ _ ?_⟩
    ·obtain ⟨rfl,rfl⟩:=ifc f2
     exact infplus_same (!g0 == g1) g2 0 0 md (by revert hg; generalize (!g0 == g1) = u; cases u <;> cases g2 <;> simp) W
    ·rcases hc with ⟨e0,e1⟩|⟨e0,e1,e2⟩|⟨e0,e1,e2⟩
     ·exact Or.inr ⟨hr,Or.inr (Or.inl ⟨e0,e1,rfl,hg,rfl,rfl⟩)⟩
     ·exact Or.inr ⟨hr,Or.inr (Or.inr (Or.inr (Or.inr (Or.inr (Or.inl ⟨e0,e1,rfl,hg,e2,rfl,rfl⟩)))))⟩
     ·exact Or.inr ⟨hr,Or.inr (Or.inr (Or.inr (Or.inr (Or.inr (Or.inr (Or.inr (Or.inr (Or.inr (Or.inl ⟨e0,e1,rfl,hg,e2,rfl,rfl⟩)))))))))⟩
  | zero=>
   refine ⟨_,0,fma_pp h ha hb hd hmd HA HB HD hn 126 _ _ 128 113 _ _ _ HT (fun w=>na_inf _ w) (fun w=>mt_inf _ w) en_pinf (fun W B t2 y2 hT f2=>?_) en_rinf (fun w=>mr_inf _ w) (infR (!g0 == g1)),ref _ _ ?_⟩
   ·obtain ⟨rfl,rfl⟩:=ifc f2
    exact infplus_o (!g0 == g1) 0 md _ _ (by decide) W
   ·rcases hc with ⟨e0,e1⟩|⟨e0,e1,e2⟩|⟨e0,e1,e2⟩
    ·exact Or.inr ⟨hr,Or.inr (Or.inr (Or.inl ⟨e0,e1,rfl,rfl,rfl⟩))⟩
    ·exact Or.inr ⟨hr,Or.inr (Or.inr (Or.inr (Or.inr (Or.inr (Or.inr (Or.inl ⟨e0,e1,rfl,e2,rfl,rfl⟩))))))⟩
    ·exact Or.inr ⟨hr,Or.inr (Or.inr (Or.inr (Or.inr (Or.inr (Or.inr (Or.inr (Or.inr (Or.inr (Or.inr (Or.inl ⟨e0,e1,rfl,e2,rfl,rfl⟩))))))))))⟩
  | num _ _ _ hm ho hx hk=>
   clear hk
   refine ⟨_,0,fma_pp h ha hb hd hmd HA HB HD hn 126 _ _ 128 113 _ _ _ HT (fun w=>na_inf _ w) (fun w=>mt_inf _ w) en_pinf (fun W B t2 y2 hT f2=>?_) en_rinf (fun w=>mr_inf _ w) (infR (!g0 == g1)),ref _ _ ?_⟩
   ·obtain ⟨A,N,C,f2,_⟩:=f2
    obtain ⟨rfl,rfl⟩:=ifc f2
    exact infplus_o (!g0 == g1) 0 md _ _ (by decide) W
   ·rcases hc with ⟨e0,e1⟩|⟨e0,e1,e2⟩|⟨e0,e1,e2⟩
    ·exact Or.inr ⟨hr,Or.inr (Or.inr (Or.inl ⟨e0,e1,rfl,rfl,rfl⟩))⟩
    ·exact Or.inr ⟨hr,Or.inr (Or.inr (Or.inr (Or.inr (Or.inr (Or.inr (Or.inl ⟨e0,e1,rfl,e2,rfl,rfl⟩))))))⟩
    ·exact Or.inr ⟨hr,Or.inr (Or.inr (Or.inr (Or.inr (Or.inr (Or.inr (Or.inr (Or.inr (Or.inr (Or.inr (Or.inl ⟨e0,e1,rfl,e2,rfl,rfl⟩))))))))))⟩
 ·obtain rfl:=hpz hz
  rw [Nat.zero_mul,sv_zero,Int.zero_add] at we
  cases K2 with
  | nanq=>simp at hr
  | nanl=>simp at hr
  | inf=>
   have ed:=hi2 rfl
   refine ⟨(infS S I g2:Int),0,?_,ref _ _ (by rcases Nat.eq_zero_or_pos m0 with hz0|hz0; exact Or.inr ⟨hr,Or.inr (Or.inr (Or.inr (Or.inr (Or.inr (Or.inr (Or.inr (Or.inr (Or.inr (Or.inr (Or.inr (Or.inl ⟨e0,e1,rfl,hz0,(by rw [← ed]),rfl⟩)))))))))))⟩; exact Or.inr ⟨hr,Or.inr (Or.inr (Or.inr (Or.inr (Or.inr (Or.inr (Or.inr (Or.inr (Or.inr (Or.inr (Or.inr (Or.inr (Or.inr (Or.inl ⟨e0,e1,rfl,hz0,(by rw [← ed]),rfl⟩)))))))))))))⟩)⟩
   refine fma_pp h ha hb hd hmd HA HB HD hn 137 _ _ 128 113 _ _ _ HT (fun w=>na_nou _ w) (fun w=>mt_nou _ w) en_pnou (fun W B t2 y2 hT f2=>?_) en_rinf (fun w=>mr_inf _ w) (infR g2)
   obtain ⟨rfl,rfl⟩:=ifc f2
   exact nouplus_o (!g0 == g1) 0 md _ _ (by decide) W
  | zero=>
   have hv0:v = 0:=by
    refine Nat.eq_zero_of_not_pos fun hv=>?_
    rw [Nat.zero_mul,sv_zero] at we
    have h2:=Nat.mul_pos hv (pow_pos2 (y - L).toNat)
    unfold sv at we
    split at we <;> omega
   refine ⟨xs,ys,?_,ref _ _ (by rcases Nat.eq_zero_or_pos m0 with hz0|hz0; exact Or.inr ⟨hr,Or.inr (Or.inr (Or.inr (Or.inr (Or.inr (Or.inr (Or.inr (Or.inr (Or.inr (Or.inr (Or.inr (Or.inr (Or.inl ⟨e0,e1,rfl,hz0,rfl,rfl⟩))))))))))))⟩; exact Or.inr ⟨hr,Or.inr (Or.inr (Or.inr (Or.inr (Or.inr (Or.inr (Or.inr (Or.inr (Or.inr (Or.inr (Or.inr (Or.inr (Or.inr (Or.inr (⟨e0,e1,rfl,hz0,rfl,rfl⟩))))))))))))))⟩)⟩
   by_cases hg:(!g0 == g1) = g2
   ·obtain ⟨c1,c2⟩:=hsame hv0 rfl hg
    rw [c1,c2,hg]
    refine fma_pp h ha hb hd hmd HA HB HD hn 137 _ _ 139 114 _ _ _ HT (fun w=>na_nou _ w) (fun w=>mt_nou _ w) en_pnou (fun W B t2 y2 hT f2=>?_) en_rnou (fun w=>mr_nou _ w) (nouR g2)
    obtain ⟨rfl,rfl⟩:=ifc f2
    exact nouplus_same (!g0 == g1) g2 0 0 md (by rw [hg]; simp) W
   ·obtain ⟨c1,c2⟩:=hdiff hv0 (fun c=>hg c.2)
    rw [c1,c2]
    refine fma_pp h ha hb hd hmd HA HB HD hn 137 _ _ 139 114 _ _ _ HT (fun w=>na_nou _ w) (fun w=>mt_nou _ w) en_pnou (fun W B t2 y2 hT f2=>?_) en_rnou (fun w=>mr_nou _ w) (nouR (decide (md = 4)))
    obtain ⟨rfl,rfl⟩:=ifc f2
    exact nouplus_diff (!g0 == g1) g2 0 0 md (by simpa using hg) _ hm4 W
  | num _ _ _ hm ho hx hk=>
   clear hk
   obtain ⟨rfl,rfl,rfl⟩:=OkD.oneM ok ho ly o2.2.1 we
   refine ⟨xs,ys,fma_pn h ha hb hd hmd HA HB HD hn 137 _ _ r v y _ xs ys HT (fun w=>na_nou _ w) (fun w=>mt_nou _ w) en_pnou (fun W B t2 y2 hT f2=>?_) (numR hm),ref _ _ (by rcases Nat.eq_zero_or_pos m0 with hz0|hz0; exact Or.inr ⟨hr,Or.inr (Or.inr (Or.inr (Or.inr (Or.inr (Or.inr (Or.inr (Or.inr (Or.inr (Or.inr (Or.inr (Or.inr (Or.inl ⟨e0,e1,rfl,hz0,rfl,rfl⟩))))))))))))⟩; exact Or.inr ⟨hr,Or.inr (Or.inr (Or.inr (Or.inr (Or.inr (Or.inr (Or.inr (Or.inr (Or.inr (Or.inr (Or.inr (Or.inr (Or.inr (Or.inr (⟨e0,e1,rfl,hz0,rfl,rfl⟩))))))))))))))⟩)⟩
   obtain ⟨A,N,C,f2,hmi⟩:=f2
   obtain ⟨rfl,rfl⟩:=ifc f2
   refine (nouplus_o (!g0 == g1) 0 md _ _ (by decide) W).mono ?_
   rintro e w' ⟨rfl,hbl⟩
   exact ⟨⟨A,N,C,rfl,(hmi.kept hbl).mono (Nat.zero_le _)⟩,hbl⟩
 ·obtain ⟨rfl,rfl,rfl⟩:=hpn ⟨p0,p1⟩
  have hv1:=Nat.mul_pos p0 p1
  cases K2 with
  | nanq=>simp at hr
  | nanl=>simp at hr
  | inf=>
   have ed:=hi2 rfl
   refine ⟨(infS S I g2:Int),0,?_,ref _ _ (by rcases Nat.eq_zero_or_pos m0 with hz0|hz0; exact Or.inr ⟨hr,Or.inr (Or.inr (Or.inr (Or.inr (Or.inr (Or.inr (Or.inr (Or.inr (Or.inr (Or.inr (Or.inr (Or.inl ⟨e0,e1,rfl,hz0,(by rw [← ed]),rfl⟩)))))))))))⟩; exact Or.inr ⟨hr,Or.inr (Or.inr (Or.inr (Or.inr (Or.inr (Or.inr (Or.inr (Or.inr (Or.inr (Or.inr (Or.inr (Or.inr (Or.inr (Or.inl ⟨e0,e1,rfl,hz0,(by rw [← ed]),rfl⟩)))))))))))))⟩)⟩
   refine fma_np h ha hb hd hmd HA HB HD hn (s0 != s1) (m0 * m1) (x0+x1) 128 113 _ _ _ HT (fun W A N C B t2 y2 hT hmi f2=>?_) en_rinf (fun w=>mr_inf _ w) (infR g2)
   obtain ⟨rfl,rfl⟩:=ifc f2
   exact numplus_inf (s0 != s1) A N C (x0+x1) 0 0 md g2 W
  | zero=>
   rw [Nat.zero_mul,sv_zero,Int.add_zero] at we
   obtain ⟨rfl,rfl,rfl⟩:=OkD.oneM ok o1.1 ly o1.2.1 we
   refine ⟨xs,ys,fma_nn h ha hb hd hmd HA HB HD hn (s0 != s1) (m0 * m1) (x0+x1) _ _ _ _ xs ys HT (fun W A N C B t2 y2 hT hmi f2=>?_) (numR hv1),ref _ _ (by rcases Nat.eq_zero_or_pos m0 with hz0|hz0; exact Or.inr ⟨hr,Or.inr (Or.inr (Or.inr (Or.inr (Or.inr (Or.inr (Or.inr (Or.inr (Or.inr (Or.inr (Or.inr (Or.inr (Or.inl ⟨e0,e1,rfl,hz0,rfl,rfl⟩))))))))))))⟩; exact Or.inr ⟨hr,Or.inr (Or.inr (Or.inr (Or.inr (Or.inr (Or.inr (Or.inr (Or.inr (Or.inr (Or.inr (Or.inr (Or.inr (Or.inr (Or.inr (⟨e0,e1,rfl,hz0,rfl,rfl⟩))))))))))))))⟩)⟩
   obtain ⟨rfl,rfl⟩:=ifc f2
   refine (numplus_nou (s0 != s1) A N C (x0+x1) 0 0 md g2 W).mono ?_
   rintro e w' ⟨rfl,hbl⟩
   exact ⟨⟨A,N,C,rfl,(hmi.kept hbl).mono (Nat.zero_le _)⟩,hbl⟩
  | num _ _ _ hm ho hx hk=>
   clear hk
   refine ⟨xs,ys,?_,ref _ _ (by rcases Nat.eq_zero_or_pos m0 with hz0|hz0; exact Or.inr ⟨hr,Or.inr (Or.inr (Or.inr (Or.inr (Or.inr (Or.inr (Or.inr (Or.inr (Or.inr (Or.inr (Or.inr (Or.inr (Or.inl ⟨e0,e1,rfl,hz0,rfl,rfl⟩))))))))))))⟩; exact Or.inr ⟨hr,Or.inr (Or.inr (Or.inr (Or.inr (Or.inr (Or.inr (Or.inr (Or.inr (Or.inr (Or.inr (Or.inr (Or.inr (Or.inr (Or.inr (⟨e0,e1,rfl,hz0,rfl,rfl⟩))))))))))))))⟩)⟩
   rcases Nat.eq_zero_or_pos v with hv|hv
   ·obtain ⟨c1,c2⟩:=hdiff hv (fun c=>by omega)
    rw [c1,c2]
    refine fma_np h ha hb hd hmd HA HB HD hn (s0 != s1) (m0 * m1) (x0+x1) 139 114 _ _ _ HT (fun W A N C B t2 y2 hT hmi f2=>?_) en_rnou (fun w=>mr_nou _ w) (nouR (decide (md = 4)))
    obtain ⟨A1,N1',C1,f2,hmj⟩:=f2
    obtain ⟨rfl,rfl⟩:=ifc f2
    exact numplus_zero (s0 != s1) A N C (m0 * m1) (x0+x1) 0 g2 A1 N1' C1 m2 x2 0 md r v y _ hm4 W hmi.num hmj.num hT (hide SU) hv
   ·refine fma_nn h ha hb hd hmd HA HB HD hn (s0 != s1) (m0 * m1) (x0+x1) r v y _ xs ys HT (fun W A N C B t2 y2 hT hmi f2=>?_) (numR hv)
    obtain ⟨A1,N1',C1,f2,hmj⟩:=f2
    obtain ⟨rfl,rfl⟩:=ifc f2
    refine (numplus_num (s0 != s1) A N C (m0 * m1) (x0+x1) 0 g2 A1 N1' C1 m2 x2 0 md r v y W hmi.num hmj.num hT (hide SU) hv).mono ?_
    rintro e w' ⟨⟨A2,N2',C2,rfl,hm2⟩,hbl⟩
    exact ⟨⟨A2,N2',C2,rfl,hm2.mono (Nat.zero_le _)⟩,hbl⟩
def RFmaIs (E F a b d:Int) (md:Nat) (x y z:Int):Prop:=Tel 6 #[.agg #[.int .i64 E,.int .i64 F],.int .u64 a,.int .u64 b,.int .u64 d,.int .u8 (md:Int)] (.tuple #[.int .u64 x,.int .u8 y,.int .i64 z])
theorem fmas_any (E F:Int) (a b d md:Nat) (ha:a < 18446744073709551616) (hb:b < 18446744073709551616) (hd:d < 18446744073709551616):∃ x y z,FmaIs E F a b d md x y z∧RFmaIs E F a b d md x y z:=by
 by_cases hbad:NoFo E F
 ·have hc:((5:Int) == (0:Int)) = false:=by decide
  exact ⟨0,0,5,fun W _ _=>sFma_is E F a b d md 0 0 5 W (hide fun W' p pm _ hp _=>operate3_err1 E F a b d md _ p pm 5 hc (fits_B hbad a) W' hp),fun W=>xFma_err1 E F a b d md 5 hc (fun W=>rmay_bad E F hbad (a:Int) W) W⟩
 unfold NoFo at hbad
 obtain ⟨E,rfl⟩:∃ n:Nat,E = n:=⟨E.toNat,by omega⟩
 obtain ⟨F,rfl⟩:∃ n:Nat,F = n:=⟨F.toNat,by omega⟩
 have h0:Fo E F:=⟨by omega,by omega,by omega,by omega⟩
 clear hbad
 obtain ⟨S,hS⟩:∃ S,S = 2 ^ (F+E):=⟨_,rfl⟩
 obtain ⟨I,hI⟩:∃ I,I = (2 ^ E - 1) * 2 ^ F:=⟨_,rfl⟩
 have h:Fm E F S I:=⟨h0,hS,hI⟩
 have hc:((6:Int) == (0:Int)) = false:=by decide
 have ok:∀ b:Nat,b < 2 * S→Tel 21 #[.agg #[.int .i64 E,.int .i64 F],.int .u64 (b:Int)] (.int .i64 0):=fun b hb W=>rmay_ok E F b h0 (h.bt hb) W
 have no:∀ b:Nat,b < 18446744073709551616→¬ b < 2 * S→Tel 21 #[.agg #[.int .i64 E,.int .i64 F],.int .u64 (b:Int)] (.int .i64 6):=fun b hb hn W=>rmay_over E F b h0 (h.tb hn) hb W
 by_cases hfa:a < 2 * S
 ·by_cases hfb:b < 2 * S
  ·by_cases hfd:d < 2 * S
   ·by_cases hmd:md≤4
    ·obtain ⟨X,Y,p1,p2⟩:=fma_both h hfa hfb hfd hmd
     exact ⟨X,Y,0,p1,p2⟩
    ·exact ⟨0,0,7,fun W _ _=>sFma_is E F a b d md 0 0 7 W (hide fun W' p pm _ hp _=>operate3_mode E F a b d md _ p pm _ (fits_T h hfa) (fits_T h hfb) (fits_T h hfd) (fun W=>name_bad md (by omega) W) W' hp),fun W=>xFma_mode E F a b d md (ok a hfa) (ok b hfb) (ok d hfd) (by omega) W⟩
   ·exact ⟨0,0,6,fun W _ _=>sFma_is E F a b d md 0 0 6 W (hide fun W' p pm _ hp _=>operate3_err3 E F a b d md _ p pm 6 hc (fits_T h hfa) (fits_T h hfb) (fits_M h hfd) W' hp),fun W=>xFma_err3 E F a b d md 6 hc (ok a hfa) (ok b hfb) (no d hd hfd) W⟩
  ·exact ⟨0,0,6,fun W _ _=>sFma_is E F a b d md 0 0 6 W (hide fun W' p pm _ hp _=>operate3_err2 E F a b d md _ p pm 6 hc (fits_T h hfa) (fits_M h hfb) W' hp),fun W=>xFma_err2 E F a b d md 6 hc (ok a hfa) (no b hb hfb) W⟩
 ·exact ⟨0,0,6,fun W _ _=>sFma_is E F a b d md 0 0 6 W (hide fun W' p pm _ hp _=>operate3_err1 E F a b d md _ p pm 6 hc (fits_M h hfa) W' hp),fun W=>xFma_err1 E F a b d md 6 hc (no a ha hfa) W⟩
theorem softFmas_any (E F:Int) (a b c md:Nat) (w:World) (hT:Tb w) (hN:Nb w) (ha:a < 18446744073709551616) (hb:b < 18446744073709551616) (hd:c < 18446744073709551616) :
  Calls Tryz.prog 3 #[.agg #[.int .i64 E,.int .i64 F,.int .u64 (a:Int),.int .u64 (b:Int),.int .u64 (c:Int),.int .u8 (md:Int)]] w fun e w'=>e = .returned (.bool true)∧Below w.heap.size w w':=by
 obtain ⟨x1,y1,z1,p1,q1⟩:=fmas_any E F a b c md ha hb hd
 obtain ⟨x2,y2,z2,p2,q2⟩:=fmas_any E F b c a md hb hd ha
 exact fmas_law E F a b c md x1 y1 z1 x2 y2 z2 (hide p1) q1 (hide p2) q2 w hT hN
end Go.Proofs.YtfimakkpdjppfaaGreatDoor
