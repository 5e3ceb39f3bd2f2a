/- Of what NearRoundsRow stands on: QDigits. -/
import Derived.Test.YtaidedkpfnidpaaGreatDoorPae
import Derived.Deep.LoopGhost
namespace Go.Proofs.YtaidedkpfnidpaaGreatDoor
open Go.RowKit
set_option maxHeartbeats 1000000
set_option maxRecDepth 100000
structure But(R:Nat)(w w':World):Prop where
 os:w'.os=w.os
 tape:w'.tape=w.tape
 output:w'.output=w.output
 size:w.heap.size≤w'.heap.size
 block:∀k,k<w.heap.size→k≠R→w'.heap[k]? = w.heap[k]?
theorem But.refl(R:Nat)(w:World):But R w w:=⟨rfl,rfl,rfl,Nat.le_refl _,fun _ _ _=>rfl⟩
theorem But.of{R:Nat}{w w':World}(h:Below w.heap.size w w'):But R w w':=⟨h.os,h.tape,h.output,h.size,fun k hk _=>h.block k hk⟩
theorem But.only{R:Nat}{a w w':World}(h:But R a w)(k:Only R w w'):But R a w':=
 ⟨k.os.trans h.os,k.tape.trans h.tape,k.output.trans h.output,by rw [k.size];exact h.size,fun i hi hne=>(k.block i hne).trans (h.block i hi hne)⟩
theorem But.setCell{R:Nat}{a w:World}(h:But R a w){p:Addr}(hp:a.heap.size≤p.block)(u:Value):But R a (w.setCell p u):=
 ⟨h.os,h.tape,h.output,by simp [World.setCell];exact h.size,fun i hi hne=>(heap_setCell_other w p i u (by omega)).trans (h.block i hi hne)⟩
theorem But.cell{R:Nat}{w w':World}(h:But R w w'){p:Addr}(hp:p.block<w.heap.size)(hne:p.block≠R):w'.cell? p=w.cell? p:=World.cell?_of_block (w:=w) (h.block p.block hp hne)
theorem But.below{R:Nat}{a w w':World}(h:Below a.heap.size a w)(k:But R w w')(hR:a.heap.size≤R):Below a.heap.size a w':=
 h.trans ⟨k.os,k.tape,k.output,k.size,fun i hi=>k.block i (Nat.lt_of_lt_of_le hi h.size) (by omega)⟩
theorem x8(c:Nat)(hc:c≤1):(!(c != 0)).toNat=1-c:=by
 rcases Nat.le_one_iff_eq_zero_or_eq_one.1 hc with rfl|rfl<;>rfl
def AY(R n t:Nat)(zs xs:List Nat)(w:World)(k:Nat)(wr:World):Prop:=
 ∃qs rs:List Nat,k≤t∧qs.length=t-k∧Pl.Wf qs∧rs.length=n∧Pl.Wf rs∧Pl.val rs<Pl.val xs∧Pl.val (zs.drop k)=Pl.val qs*Pl.val xs+Pl.val rs ∧
  Row wr w.heap.size (List.replicate k 0++qs)∧Row wr R (zs.take k++rs++List.replicate (t-k) 0)∧But R w wr
def Hy(R Q n j t:Nat)(zs xs d qs:List Nat)(w:World)(g:Nat)(v:Value)(wy:World):Prop:=
 ∃(out:List Nat) (bo:Bool),v = .bool bo∧g<4294967296∧Pl.val d/Pl.val xs≤g∧out.length=n+1∧Pl.Wf out∧Pl.val out+g*Pl.val xs=Pl.val d+4294967296^(n+1)*bo.toNat ∧
  Row wy R (zs.take j++out++List.replicate (t-(j+1)) 0)∧Row wy Q (List.replicate (j+1) 0++qs)∧But R w wy
theorem Row.same{w w':World}{B:Nat}{zs:List Nat}(h:Row w B zs)(k:∀C,Only C w w'):Row w' B zs:=h.only (k (B+1)) (by omega)
theorem IB(j v:Nat)(qs:List Nat):(List.replicate (j+1) 0++qs).set j v=List.replicate j 0++(v::qs):=by
 rw [List.set_append_left _ _ (by simp),List.replicate_succ',List.set_append_right _ _ (by simp)];simp
theorem IU{V g P D:Nat}(h:V+g*D=P)(hV:V<D):V=P%D:=by
 rw [←h,Nat.add_mul_mod_self_right,Nat.mod_eq_of_lt hV]
theorem Gt{V P D Q R q z:Nat}(hP:P=z+4294967296*R)(hV:V=Q*D+R)(hq:q=P/D):z+4294967296*V=(q+4294967296*Q)*D+P%D:=by
 have h:=Nat.div_add_mod P D;rw [←hq,Nat.mul_comm] at h;rw [Nat.add_mul,Nat.mul_assoc,hV,Nat.mul_add];omega
theorem Dm(B p b off n m cap cap' q top next p2 p1 p0:Nat)(w:World)(hn:n=m+2)(hm:n≤20000)(hD:Hid (Dg q top next p2 p1 p0))(ht:top<4294967296)(hnx:next<4294967296)(h2:p2<4294967296)(h1:p1<4294967296)(h0:p0<4294967296)(hpos:0<top)(c2:w.cell? ⟨B,p+(m+2),none⟩=some (.int .u32 (p2:Int)))(c1:w.cell? ⟨B,p+(m+1),none⟩=some (.int .u32 (p1:Int)))(c0:w.cell? ⟨B,p+m,none⟩=some (.int .u32 (p0:Int)))(d1:w.cell? ⟨b,off+(m+1),none⟩=some (.int .u32 (top:Int)))(d0:w.cell? ⟨b,off+m,none⟩=some (.int .u32 (next:Int))) :
  Calls Tryz.prog 156 #[.slice (some ⟨B,p,none⟩) (n+1) cap,.slice (some ⟨b,off,none⟩) n cap'] w
   fun e w'=>∃g:Nat,e = .returned (.int .u32 (g:Int))∧q≤g∧g<4294967296∧∀C,Only C w w':=by
 subst hn;exact yY B p b off m cap cap' q top next p2 p1 p0 w (by omega) hD ht hnx h2 h1 h0 hpos c2 c1 c0 d1 d0
theorem uH(R b off n m t wY cap':Nat)(zs xs:List Nat)(w:World)(hN:Hid (n=m+2))(hz:Hid (zs.length=n+t))(hx:Hid (xs.length=n))(hm:n≤17000)(ht:t≤17000)(hcap:n+t≤wY)(hcap2:wY≤9223372036854775807)(wz:Pl.Wf zs)(wx:Pl.Wf xs)(htop:Hid (xs[m+1]?.getD 0≠0))(hlt:Hid (Pl.val (zs.drop t)<Pl.val xs))(hb:b<w.heap.size)(hne:b≠R)(hrow:Row w R zs)(hc:∀j,j<n→w.cell? ⟨b,off+j,none⟩=some (.int .u32 ((xs[j]?.getD 0:Nat):Int))) :
  Calls Tryz.prog 129 #[.slice (some ⟨R,0,none⟩) (n+t) wY,.slice (some ⟨b,off,none⟩) n cap'] w
   fun e w'=>e = .returned (.slice (some ⟨w.heap.size,0,none⟩) t t)∧AY R n t zs xs w 0 w':=by
 have hmk:=dA ((n:Int)+(t:Int)-(n:Int)) t (by omega) (by omega);go_enter Tryz.func129,Tryz.ntmps129
 go_wp2
 go_step3
 go_wp2
 go_step3
 go_wp2
 clear hmk
 go_loopg [7] t (fun g s7 wr=>s7 = .int .i64 ((g:Int)-1)∧AY R n t zs xs w g wr)
 case atStart=>
  have hzl:=aa hz;have hrl:(zs.drop t).length=n:=by rw [List.length_drop];omega
  refine ⟨rfl,[],zs.drop t,Nat.le_refl _,by simp,Pl.wf_nil,hrl,Pl.wf_drop wz _,aa hlt,by simp [Pl.val],?_,?_,But.of (ah _ _)⟩
  ·rw [List.append_nil];exact Row.made _ _
  ·rw [List.take_append_drop,Nat.sub_self,List.replicate_zero,List.append_nil];exact hrow.kept (ah _ _)
 case round=>
  obtain ⟨rfl,HI⟩:=hrel;cases gk with
  | zero=>
   have HI':=hide HI;clear HI;go_wp2
   try rw [Exit.noGoto_ret]
   go_ret
   exact ⟨rfl,aa HI'⟩
  | succ j=>
   obtain ⟨qs,rs,hjt,hql,hqw,hrl,hrw,hrlt,hval,hQ,hR,hbut⟩:=HI;have hzl:=aa hz;have hxl:=aa hx;have hnm:=aa hN;obtain ⟨z,hzz⟩:∃z,z=zs[j]?.getD 0:=⟨_,rfl⟩;have hz1:z<4294967296:=by rw [hzz];exact Pl.wf_at wz j
   have hpre:(zs.take j).length=j:=by rw [List.length_take];omega
   rw [Pl.take_snoc zs j (by omega),←hzz,List.append_assoc (zs.take j),List.singleton_append] at hR;have hcel:∀i,i<n+1→wr.cell? ⟨R,j+i,none⟩=some (.int .u32 (((z::rs)[i]?.getD 0:Nat):Int)):=fun i hi=>by
    rw [hR.cell (j+i) (by simp;omega),List.append_assoc,List.getElem?_append_right (by omega),hpre,Nat.add_sub_cancel_left,List.getElem?_append_left (by simp;omega)]
   have hG:=Dm R j b off n m (n+1) cap' (Pl.val (z::rs)/Pl.val xs) (xs[m+1]?.getD 0) (xs[m]?.getD 0) ((z::rs)[m+2]?.getD 0) ((z::rs)[m+1]?.getD 0) ((z::rs)[m]?.getD 0) wr hnm (by omega)
    (hide (BC (by omega) (by omega) wx hrw hz1 (aa htop) hrlt)) (Pl.wf_at wx _) (Pl.wf_at wx _) (Pl.wf_at (Pl.wf_cons hz1 hrw) _) (Pl.wf_at (Pl.wf_cons hz1 hrw) _) (Pl.wf_at (Pl.wf_cons hz1 hrw) _) (by have:=aa htop;omega)
    (hcel _ (by omega)) (hcel _ (by omega)) (hcel _ (by omega))
    ((hbut.cell (by exact hb) (by exact hne)).trans (hc _ (by omega))) ((hbut.cell (by exact hb) (by exact hne)).trans (hc _ (by omega)))
   have HG:=hide hG;have HC:=hide hc;have HA:=hide (And.intro hpre (And.intro hzz (And.intro hql (And.intro hrl hval))));clear hG hzz hcel hzl hxl hnm hval hc hpre hql hrl;go_wp2_with fail
   rw [show j+n+1-j=n+1 by omega];refine (aa HG).mono ?_;rintro e w1 ⟨g,rfl,hqg,hg32,ho1⟩;have hR1:=hR.same ho1;have hQ1:=hQ.same ho1;have hbut1:=hbut.only (ho1 R);have HQG:=hide hqg;clear ho1 hR hQ hbut HG hqg;go_wp2_with fail
   refine (qH R j n b off (n+1) cap' g (zs.take j) (z::rs) (List.replicate (t-(j+1)) 0) xs w1 (hide (aa HA).1) (hide (by have:=(aa HA).2.2.2.1;simp [this])) hx (by omega) hne hg32 (Pl.wf_cons hz1 hrw) wx hR1 (fun i hi=>(hbut1.cell (by exact hb) (by exact hne)).trans (aa HC i hi))).mono ?_;rintro e w2 ⟨out,bo,rfl,hol,how,hov,hR2,ho2⟩;have hQR:w.heap.size≠R:=fun e=>by
    have:=hrow.lt;omega
   have hIn:Hy R w.heap.size n j t zs xs (z::rs) qs w g (.bool bo) w2:=⟨out,bo,rfl,hg32,aa HQG,hol,how,hov,hR2,hQ1.only ho2 hQR,hbut1.only ho2⟩;have HIn:=hide hIn;have HQR:=hide hQR;clear hIn hR1 hQ1 hbut1 hov hR2 ho2 hol how HQG hQR;go_wp2
   go_loopg [9,10] g (fun g2 s9 s10 wy=>s9 = .int .u32 (g2:Int)∧Hy R w.heap.size n j t zs xs (z::rs) qs w g2 s10 wy)
   case atStart=>exact ⟨rfl,aa HIn⟩
   case round=>
    clear HIn;obtain ⟨rfl,out,bo,rfl,hg2,hqg,hol,how,hov,hR2,hQ2,hbut2⟩:=hrel;cases bo with
    | false=>
     have HN:Hid (AY R n t zs xs w j (wr.setCell ⟨w.heap.size,j,none⟩ (.int .u32 (gk:Int)))):=by
      obtain ⟨hpre,hzz,hql,hrl,hval⟩:=aa HA;have hzl:=aa hz;have hxl:=aa hx;have hD:0<Pl.val xs:=Nat.lt_of_le_of_lt (Nat.zero_le _) hrlt;rw [Bool.toNat_false,Nat.mul_zero,Nat.add_zero] at hov;obtain ⟨hgq,hvD⟩:=FC hD hov hqg;have hDn:Pl.val xs≤4294967296^n:=by have:=Pl.val_lt wx;rw [hxl] at this;exact Nat.le_of_lt this
      obtain ⟨ho,hov2⟩:=BQ hol hvD hDn;have hV:Pl.val (zs.drop j)=Pl.val (gk::qs)*Pl.val xs+Pl.val (out.take n):=by
       rw [Pl.drop_cons zs j (by omega),←hzz,hov2,IU hov hvD];exact Gt rfl hval hgq
      have hRR:=hR2.only (w':=wr.setCell ⟨w.heap.size,j,none⟩ (.int .u32 (gk:Int))) ((Only.refl _ _).setCell _ _) (Ne.symm (aa HQR));have hQQ:=hQ2.set j gk (by simp;omega);rw [IB] at hQQ;have er:zs.take j++out++List.replicate (t-(j+1)) 0=zs.take j++out.take n++List.replicate (t-j) 0:=by
       rw [show t-j=(t-(j+1))+1 by omega,List.replicate_succ]
       conv=>lhs;rw [ho]
       simp
      rw [er] at hRR;exact hide ⟨gk::qs,out.take n,by omega,by simp [hql];omega,Pl.wf_cons hg2 hqw,by rw [List.length_take];omega,Pl.wf_take how n,by rw [hov2];exact hvD,hV,hQQ,hRR,hbut2.setCell (Nat.le_refl _) _⟩
     have hcq:=hQ2.cell j (by simp;omega);have hfq:=hQ2.frozen j;clear hov hR2 hQ2 hqg hbut2 how;go_wp2
     go_roundg j
     case measure=>omega
     case rel=>exact ⟨by go_num,aa HN⟩
    | true=>
     rw [Bool.toNat_true] at hov;have hlt2:=Pl.val_lt how;rw [hol] at hlt2;have hgt:=Gy hlt2 (by rw [Nat.mul_one] at hov;exact hov);have hg0:0<gk:=Nat.lt_of_le_of_lt (Nat.zero_le _) hgt;obtain ⟨g3,rfl⟩:∃g3,gk=g3+1:=⟨gk-1,by clear hov hlt2 hgt;omega⟩;have hA:=lW R j (n+1) b off n (n+1) cap' (zs.take j) out (List.replicate (t-(j+1)) 0) xs wr (hide (aa HA).1) (hide hol) hx (by omega) (by omega) hne how wx hR2 (fun i hi=>(hbut2.cell (by exact hb) (by exact hne)).trans (aa HC i hi));have HAd:=hide hA;have HOV:=hide hov;have HGT:=hide hgt;clear hA hov hlt2 hgt hR2 hqg;go_wp2_with fail
     refine (aa HAd).mono ?_;rintro e w3 ⟨out2,c,rfl,hol2,how2,hc1,hval2,hR3,ho3⟩;have hIn:Hy R w.heap.size n j t zs xs (z::rs) qs w g3 (.bool (!(c != 0))) w3:=by
      refine ⟨out2,_,rfl,by omega,Nat.le_of_lt_succ (aa HGT),hol2,how2,?_,hR3,hQ2.only ho3 (aa HQR),hbut2.only ho3⟩;rw [x8 c hc1];exact Hz (aa HOV) hval2 hc1
     have HIn:=hide hIn;clear hIn hval2 hR3 ho3 hQ2 hbut2;go_wp2
     go_roundg g3
     case measure=>omega
     case rel=>exact ⟨by go_num,aa HIn⟩
end Go.Proofs.YtaidedkpfnidpaaGreatDoor
