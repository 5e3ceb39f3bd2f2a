/- Of what DecRoundsRow stands on: RefMul RefOver. -/
import Derived.Test.YtmmkefdbdpfpdaaPai
import Derived.Test.YtmmkefdbdpfpdaaPaf
import Derived.Test.YtmmkefdbdpfpdaaPae
import Derived.Deep.LoopGhost
import Derived.BigQuiet
namespace Go.Proofs.Ytmmkefdbdpfpdaa
open Go.RowKit
set_option maxHeartbeats 1000000
set_option maxRecDepth 20000
theorem rtrim_row {w:World} {B base n cap:Nat} {zs:List Nat} (h:Row w B zs) (hB:base≤B) (hz:zs.length≤9223372036854775807) (wz:Pl.Wf zs) (hn:n≤zs.length) (hc:cap≤zs.length) (hnc:n≤cap)
  (h0:∀ j,n≤j→j < zs.length→zs[j]?.getD 0 = 0) (h1:n = 0∨zs[n - 1]?.getD 0≠0) :
  (zs.take n).length = n∧Own w base (.slice (some ⟨B,0,none⟩) n cap) (zs.take n)∧Pl.Wf (zs.take n)∧Pl.Norm (zs.take n)∧Pl.val (zs.take n) = Pl.val zs:=by
 obtain ⟨a1,_,a3,a4,a5⟩:=trim_row h hB hz wz hn h0 h1
 exact ⟨a1,h.own hB n cap hnc hc hz,a3,a4,a5⟩
theorem rnat_any (v:Value) (a:Option Addr) (n c:Nat) (w:World) (hv:v = .slice a n c) :
  Calls Try.prog 83 #[v] w fun e w'=>e = .returned (.agg #[.slice a n c])∧w' = w.alloc (.cells #[.slice a n c] 60):=by
 subst hv
 go_enter Try.func83,Try.ntmps83
 go_wp2
 exact bodyPost_ret (v:=.agg #[.slice a n c]) (by simp [results,Try.results83,go_sem]) rfl ⟨rfl,rfl⟩
theorem rof_any (u:Nat) (w:World) (hu:u < 18446744073709551616) :
  Calls Try.prog 97 #[.int .u64 (u:Int)] w fun e w'=>(∃ a n cap,e = .returned (.agg #[.slice a n cap])∧Mine w' w.heap.size a n cap u)∧Below w.heap.size w w':=by
 have hrow:∀ o:Obj,Row ((w.alloc o).alloc (.cells #[.int .u32 ((u:Int) % 4294967296),.int .u32 ((u:Int) / 4294967296)] 95)) (w.heap.size+1) [u % 4294967296,u / 4294967296]:=by
  intro o
  refine ⟨#[],?_⟩
  rw [heap_alloc2_new]
  simp [lc]
 have HR:=hide hrow
 clear hrow
 have hwf:Pl.Wf [u % 4294967296,u / 4294967296]:=Pl.wf_cons (by omega) (Pl.wf_one (by omega))
 have hval:Pl.val [u % 4294967296,u / 4294967296] = u:=by simp [Pl.val]; omega
 have HV:=hide hval
 clear hval
 go_enter Try.func97,Try.ntmps97
 go_wp2_with fail
 refine (rtrim_at (w.heap.size+1) 0 2 2 [u % 4294967296,u / 4294967296] _ rfl (by omega) (by omega) (fun j hj=>by rw [Nat.zero_add]; exact (unhide HR _).cell j hj)).mono ?_
 rintro e w1 ⟨rfl,n,hn,h0,h1,rfl⟩
 have hn2:n≤2:=hn
 have HT:=hide (fun o:Obj=>rtrim_row (cap:=2) (unhide HR o) (show w.heap.size≤w.heap.size+1 by omega) (by simp) hwf hn (by simp) hn2 h0 h1)
 clear h0 h1 hn
 go_wp2_with fail
 refine (rnat_any _ _ n 2 _ rfl).mono ?_
 rintro e w2 ⟨rfl,rfl⟩
 have hbx:=(((Box.made w (.slice none 0 0)).alloc (.cells #[.int .u32 ((u:Int) % 4294967296),.int .u32 ((u:Int) / 4294967296)] 95)).alloc (.cells #[.slice (some ⟨w.heap.size+1,0,none⟩) n 2] 60))
 have hcx:=hbx.cell
 have hfx:=hbx.frozen
 go_wp2
 obtain ⟨t1,t2,t3,t4,t5⟩:=unhide HT (.cells #[.slice (some ⟨w.heap.size+1,0,none⟩) n 2] 60)
 refine bodyPost_ret (v:=.agg #[.slice (some ⟨w.heap.size+1,0,none⟩) n 2]) (by simp [results,Try.results97,go_sem]) rfl ⟨⟨_,n,2,rfl,_,t1,t2.kept (gr_alloc _ _),t3,t4,t5.trans (unhide HV),by omega⟩,gr_trans (gr_trans (gr_alloc _ _) (gr_alloc _ _)) (gr_alloc _ _)⟩
def TimesTo (base N P:Nat) (e:Ending) (w':World):Prop:=
 ∃ n zs,e = .returned (.slice (some ⟨base,0,none⟩) n N)∧n≤N∧zs.length = n∧Own w' base (.slice (some ⟨base,0,none⟩) n N) zs∧Pl.Wf zs∧Pl.Norm zs∧Pl.val zs = P
theorem rtimes_some (b off cap b' off' cap' nx ny:Nat) (xs ys:List Nat) (w:World) (hxl:Hid (xs.length = nx)) (hyl:Hid (ys.length = ny)) (hx:nx≤40000) (hy:ny≤40000) (wx:Pl.Wf xs) (wy:Pl.Wf ys)
  (hb:b < w.heap.size) (hb':b' < w.heap.size)
  (hc:Hid (∀ j,j < nx→w.cell? ⟨b,off+j,none⟩ = some (.int .u32 ((xs[j]?.getD 0:Nat):Int))))
  (hc':Hid (∀ j,j < ny→w.cell? ⟨b',off'+j,none⟩ = some (.int .u32 ((ys[j]?.getD 0:Nat):Int)))) :
  Calls Try.prog 95 #[.slice (some ⟨b,off,none⟩) nx cap,.slice (some ⟨b',off',none⟩) ny cap'] w
   fun e w'=>TimesTo w.heap.size (nx+ny) (Pl.val xs * Pl.val ys) e w'∧Below w.heap.size w w':=by
 have hmk:=make_limbs ((nx:Int)+(ny:Int)) (nx+ny) (by omega) (by omega)
 go_enter Try.func95,Try.ntmps95
 go_wp2
 clear hmk
 go_loopg [6] nx (fun g s6 wr=>∃ (i:Nat) (lo:List Nat),i+g = nx∧s6 = .int .i64 (i:Int)∧lo.length = i+ny∧Pl.Wf lo∧Hid (Pl.val lo = Pl.val ys * Pl.val (xs.take i))∧Row wr w.heap.size (lo ++ List.replicate (nx - i) 0)∧Below w.heap.size w wr)
 case atStart=>
  refine ⟨0,List.replicate ny 0,by omega,rfl,by simp,Pl.wf_replicate _,hide (by simp [Pl.val_replicate,Pl.val]),?_,gr_alloc _ _⟩
  rw [List.replicate_append_replicate,Nat.sub_zero,Nat.add_comm]; exact Row.made _ _
 case round=>
  obtain ⟨i,lo,hig,rfl,hlo,wlo,HV,hr,hbel⟩:=hrel
  have hxl':=unhide hxl
  by_cases hin:i < nx
  ·obtain ⟨x,hxx⟩:∃ x,x = xs[i]?.getD 0:=⟨_,rfl⟩
   have hx1:x < 4294967296:=by rw [hxx]; exact Pl.wf_at wx i
   have HX:=hide hxx
   have hcx0:=unhide hc i hin
   rw [← hxx] at hcx0
   obtain ⟨pre,hpre⟩:∃ pre,pre = lo.take i:=⟨_,rfl⟩
   obtain ⟨d,hd⟩:∃ d,d = lo.drop i:=⟨_,rfl⟩
   have hpd:lo = pre ++ d:=by rw [hpre,hd,List.take_append_drop]
   have hpl:pre.length = i:=by rw [hpre,List.length_take]; omega
   have hdl:d.length = ny:=by rw [hd,List.length_drop]; omega
   have wd:Pl.Wf d:=by rw [hd]; exact Pl.wf_drop wlo i
   have wp:Pl.Wf pre:=by rw [hpre]; exact Pl.wf_take wlo i
   rw [hpd] at hr
   have HR0:=hide hr
   have HPD:=hide hpd
   have HD:=hide hdl
   have HPL:=hide hpl
   clear hr hpd hpre hd hxx hdl hpl
   go_wp2
   go_loopw [7,8] (fun s7 s8 wr2=>∃ (k c:Nat) (out:List Nat),k≤ny∧s8 = .int .i64 (k:Int)∧s7 = .int .u64 (c:Int)∧c < 4294967296∧out.length = k∧Pl.Wf out∧Hid (Pl.val out+4294967296 ^ k * c = Pl.val (d.take k)+x * Pl.val (ys.take k)) ∧
     Row wr2 w.heap.size (pre ++ (out ++ d.drop k) ++ List.replicate (nx - i) 0)∧Below w.heap.size w wr2) (fun _ s8 _=>ny - (intOf s8).toNat)
   case atStart=>exact ⟨0,0,[],Nat.zero_le _,rfl,rfl,by omega,rfl,Pl.wf_nil,hide (by simp [Pl.val]),by simpa using unhide HR0,hbel⟩
   case round=>
    obtain ⟨k,c,out,hk,rfl,rfl,hcl,hol,how,HE,hr2,hbel2⟩:=hrel
    have hyl':=unhide hyl
    have hdl:=unhide HD
    have hpl:=unhide HPL
    by_cases hkn:k < ny
    ·obtain ⟨y,hyy⟩:∃ y,y = ys[k]?.getD 0:=⟨_,rfl⟩
     have hy1:y < 4294967296:=by rw [hyy]; exact Pl.wf_at wy k
     obtain ⟨z,hzz⟩:∃ z,z = d[k]?.getD 0:=⟨_,rfl⟩
     have hz1:z < 4294967296:=by rw [hzz]; exact Pl.wf_at wd k
     have hcx:wr.cell? ⟨b,off+i,none⟩ = some (.int .u32 (x:Int)):=(hbel2.cell (by exact hb)).trans hcx0
     have hcy:wr.cell? ⟨b',off'+k,none⟩ = some (.int .u32 (y:Int)):=by rw [hyy]; exact (hbel2.cell (by exact hb')).trans (unhide hc' k hkn)
     have hcz:wr.cell? ⟨w.heap.size,i+k,none⟩ = some (.int .u32 (z:Int)):=by
      rw [hr2.cell (i+k) (by simp; omega),← hpl,at_mid _ _ _ _ _ hol (by omega),hzz]
     have hfz:=hr2.frozen (i+k)
     obtain ⟨t,ht⟩:∃ t,t = c+y * x+z:=⟨_,rfl⟩
     have hm0:=mul_lo x y
     have hm1:=mul_hi hx1 hy1
     have hti:(x:Int) * (y:Int)+(z:Int)+(c:Int) = (t:Int):=by rw [ht]; push_cast; rw [Int.mul_comm (y:Int)]; omega
     have ht1:t < 18446744073709551616:=by omega
     have HV2:Hid (Pl.val (out ++ [t % 4294967296])+4294967296 ^ (k+1) * (t / 4294967296) = Pl.val (d.take (k+1))+x * Pl.val (ys.take (k+1))):=by
      rw [Pl.val_append,Pl.val_one,hol,Pl.val_take_any d k,Pl.val_take_any ys k,← hzz,← hyy]
      exact hide (Pl.step_mul _ (Nat.pow_succ ..) (unhide HE) t (t / 4294967296) (t % 4294967296) (by omega) z ht)
     have hset:=hr2.set (i+k) (t % 4294967296) (by simp; omega)
     rw [← hpl,set_mid _ _ _ _ _ _ hol (by omega),hpl] at hset
     have HSet:=hide hset
     clear hset hyy hzz ht HE hyl' hdl hr2
     go_wp2
     go_quiet (fail)
     have hfz':(wr.drewN nq).frozen? ⟨w.heap.size,i+k,none⟩ = false:=hfz
     have hcz':(wr.drewN nq).cell? ⟨w.heap.size,i+k,none⟩ = some (.int .u32 (z:Int)):=hcz
     have hbel3:=below_drewN hbel2 nq
     have HSet2:Hid (Row ((wr.drewN nq).setCell ⟨w.heap.size,i+k,none⟩ (.int .u32 ((t % 4294967296:Nat):Int))) w.heap.size (pre ++ ((out ++ [t % 4294967296]) ++ d.drop (k+1)) ++ List.replicate (nx - i) 0)):=HSet
     clear hfz hcz hbel2 HSet hcx hcy
     generalize wr.drewN nq = wq at *
     go_wp2
     go_roundw
     case rel=>
      have e1:(t:Int) / 4294967296 = ((t / 4294967296:Nat):Int):=by omega
      have e2:(t:Int) % 4294967296 = ((t % 4294967296:Nat):Int):=by omega
      rw [e1,e2]
      exact ⟨k+1,t / 4294967296,out ++ [t % 4294967296],by omega,by go_num,rfl,by omega,by simp [hol],Pl.wf_append how (Pl.wf_one (by omega)),unhide HV2,unhide HSet2,hbel3.setCell (Nat.le_refl _) _⟩
     case measure=>simp [intOf]; omega
    ·have hke:k = ny:=by omega
     subst hke
     have hdt:d.take k = d:=List.take_of_length_le (by omega)
     have hdd:d.drop k = []:=List.drop_eq_nil_of_le (by omega)
     have hyt:ys.take k = ys:=List.take_of_length_le (by omega)
     rw [hdd,List.append_nil] at hr2
     obtain ⟨g',rfl⟩:∃ g',gk = g'+1:=⟨gk - 1,by omega⟩
     have hE:Pl.val out+4294967296 ^ k * c = Pl.val d+x * Pl.val ys:=by
      have:=unhide HE
      rwa [hdt,hyt] at this
     have HN:Hid (Pl.val (pre ++ out ++ [c]) = Pl.val ys * Pl.val (xs.take (i+1))):=by
      rw [Pl.val_take_any xs i,← unhide HX]
      exact hide (mul_step (unhide HV) (unhide HPD) hpl hol hE)
     have e:nx - i = nx - (i+1)+1:=by omega
     rw [e,List.replicate_succ] at hr2
     have hcs:=hr2.cell (i+k) (by simp; omega)
     have hfs:=hr2.frozen (i+k)
     have hset:=hr2.set (i+k) c (by simp; omega)
     rw [List.set_append_right _ _ (by simp; omega),show i+k - (pre ++ out).length = 0 by simp; omega] at hset
     have hset':Row (wr.setCell ⟨w.heap.size,i+k,none⟩ (.int .u32 (c:Int))) w.heap.size ((pre ++ out ++ [c]) ++ List.replicate (nx - (i+1)) 0):=by simpa using hset
     have HSet:=hide hset'
     have HL:Hid ((pre ++ out ++ [c]).length = i+1+k):=hide (by simp; omega)
     have HW:Hid (Pl.Wf (pre ++ out ++ [c])):=hide (Pl.wf_append (Pl.wf_append wp how) (Pl.wf_one hcl))
     have hrl:i+k < nx+k:=by omega
     clear hset hset' hE hdt hdd hyt e HE hr2
     go_wp2
     go_roundg g'
     case measure=>omega
     case rel=>exact ⟨i+1,pre ++ out ++ [c],by omega,by go_num,unhide HL,unhide HW,unhide HN,unhide HSet,hbel2.setCell (Nat.le_refl _) _⟩
  ·have hie:i = nx:=by omega
   subst hie
   have hr':Row wr w.heap.size lo:=by rw [Nat.sub_self] at hr; simpa using hr
   have hxt:xs.take i = xs:=List.take_of_length_le (by omega)
   have HV':Hid (Pl.val lo = Pl.val xs * Pl.val ys):=hide (by have:=unhide HV; rw [hxt] at this; rw [this,Nat.mul_comm])
   clear hr hxt HV
   go_wp2_with fail
   refine (rtrim_at w.heap.size 0 (i+ny) (i+ny) lo wr hlo (Nat.le_refl _) (by omega) (fun j hj=>by rw [Nat.zero_add]; exact hr'.cell j hj)).mono ?_
   rintro e w1 ⟨rfl,n,hn,h0,h1,rfl⟩
   have HT:=hide (rtrim_row (cap:=i+ny) hr' (Nat.le_refl _) (by omega) wlo hn (by omega) (by omega) h0 h1)
   have HN:=hide (show n≤i+ny by omega)
   clear h0 h1 hn
   go_wp2
   go_ret
   obtain ⟨t1,t2,t3,t4,t5⟩:=unhide HT
   exact ⟨⟨n,lo.take n,rfl,unhide HN,t1,t2,t3,t4,t5.trans (unhide HV')⟩,hbel⟩
def OverTo (base n d V:Nat) (e:Ending) (w':World):Prop:=
 ∃ (k:Nat) (qs:List Nat),e = .returned (.tuple #[.slice (some ⟨base,0,none⟩) k n,.int .u64 ((V % d:Nat):Int)])∧k≤n∧qs.length = k∧Own w' base (.slice (some ⟨base,0,none⟩) k n) qs∧Pl.Wf qs∧Pl.Norm qs∧Pl.val qs = V / d
theorem rover_some (b off cap d n:Nat) (xs:List Nat) (w:World) (hn:Hid (xs.length = n)) (hlen:n≤16384) (hd:0 < d) (hd2:d < 4294967296) (hx:Pl.Wf xs) (hlt:b < w.heap.size)
  (hc:∀ j,j < n→w.cell? ⟨b,off+j,none⟩ = some (.int .u32 ((xs[j]?.getD 0:Nat):Int))) :
  Calls Try.prog 86 #[.slice (some ⟨b,off,none⟩) n cap,.int .u64 (d:Int)] w
   fun e w'=>OverTo w.heap.size n d (Pl.val xs) e w'∧Below w.heap.size w w':=by
 have hmk:=make_limbs (n:Int) n rfl (by omega)
 go_enter Try.func86,Try.ntmps86
 go_wp2
 clear hmk
 go_loopw [7,8] (fun r i wr=>∃ (k rr:Nat) (qs:List Nat),k≤n∧i = .int .i64 ((k:Int) - 1)∧r = .int .u64 (rr:Int)∧rr < d∧qs.length = n - k∧Pl.Wf qs∧Pl.val (xs.drop k) = Pl.val qs * d+rr ∧
   Row wr w.heap.size (List.replicate k 0 ++ qs)∧Below w.heap.size w wr) (fun _ i _=>(intOf i+1).toNat)
 case atStart=>
  refine ⟨n,0,[],Nat.le_refl _,rfl,rfl,hd,by simp,Pl.wf_nil,?_,?_,gr_alloc _ _⟩
  ·rw [List.drop_eq_nil_of_le (by rw [unhide hn]; omega)]; simp [Pl.val]
  ·rw [List.append_nil]; exact Row.made _ _
 case round=>
  obtain ⟨k,rr,qs,hk,rfl,rfl,hrd,hql,hqw,hv,hrow,hbel⟩:=hrel
  by_cases hk0:k = 0
  ·subst hk0
   have hv2:=hv
   rw [List.drop_zero] at hv2
   have hr2:Row wr w.heap.size qs:=by simpa using hrow
   have hm:Pl.val xs % d = rr:=by rw [hv2,Nat.mul_comm,Nat.mul_add_mod]; exact Nat.mod_eq_of_lt hrd
   have hq:Pl.val xs / d = Pl.val qs:=by rw [hv2,Nat.mul_comm,Nat.mul_add_div hd,Nat.div_eq_of_lt hrd,Nat.add_zero]
   have HM:=hide hm
   have HQ:=hide hq
   clear hm hq hv hv2 hrow
   go_wp2_with fail
   refine (rtrim_at w.heap.size 0 n n qs wr (by omega) (Nat.le_refl _) (by omega) (fun j hj=>by rw [Nat.zero_add]; exact hr2.cell j hj)).mono ?_
   rintro e w1 ⟨rfl,l,hl,h0,h1,rfl⟩
   have hl2:l≤n:=by omega
   have HT:=hide (rtrim_row (cap:=n) hr2 (Nat.le_refl _) (by omega) hqw hl (by omega) hl2 h0 h1)
   clear h0 h1
   go_wp2
   go_ret2
   obtain ⟨t1,t2,t3,t4,t5⟩:=unhide HT
   refine ⟨⟨l,qs.take l,?_,hl2,t1,t2,t3,t4,by rw [t5,unhide HQ]⟩,hbel⟩
   rw [unhide HM]
   rfl
  ·obtain ⟨j,rfl⟩:∃ j,k = j+1:=⟨k - 1,by omega⟩
   obtain ⟨x,hxx⟩:∃ x,x = xs[j]?.getD 0:=⟨_,rfl⟩
   obtain ⟨t,ht⟩:∃ t,t = rr * 4294967296+x:=⟨_,rfl⟩
   have hx1:x < 4294967296:=by rw [hxx]; exact Pl.wf_at hx j
   have hcx:wr.cell? ⟨b,off+j,none⟩ = some (.int .u32 (x:Int)):=by rw [hxx]; exact (hbel.cell (by exact hlt)).trans (hc j (by omega))
   have hor:Go.bits BinOp.or IntKind.u64 ((rr:Int) * 4294967296) (x:Int) = (t:Int):=by rw [or_limb rr x (by omega) hx1,ht]; omega
   have hcq:=hrow.cell j (by simp; omega)
   have hfq:=hrow.frozen j
   have hq1:t / d < 4294967296:=div_digit hrd hx1 ht
   have hqe:(t:Int) / (d:Int) = ((t / d:Nat):Int):=(Int.natCast_ediv t d).symm
   have hme:(t:Int) % (d:Int) = ((t % d:Nat):Int):=(Int.natCast_emod t d).symm
   have hq1i:(t:Int) / (d:Int) < 4294967296:=by rw [hqe]; omega
   have hq0i:(0:Int)≤(t:Int) / (d:Int):=by rw [hqe]; exact Int.natCast_nonneg _
   have HQE:=hide hqe
   have HME:=hide hme
   have hm1:t % d < d:=Nat.mod_lt _ hd
   have hnl:=unhide hn
   have HV:Hid (Pl.val (xs.drop j) = (t / d+4294967296 * Pl.val qs) * d+t % d):=by
    rw [Pl.drop_cons xs j (by omega),← hxx]; exact div_step hv ht
   have HR:=hide (hrow.set j (t / d) (by simp; omega))
   clear hxx ht hv hrow hnl hc hqe hme
   go_wp2
   go_roundw
   case rel=>
    rw [unhide HQE,unhide HME]
    refine ⟨j,t % d,t / d :: qs,by omega,rfl,rfl,hm1,by simp; omega,Pl.wf_cons hq1 hqw,unhide HV,?_,hbel.setCell (Nat.le_refl _) _⟩
    have h:=unhide HR
    have e:=set_rep j (t / d) qs []
    simp only [List.append_nil] at e
    rwa [e] at h
   case measure=>simp [intOf]
end Go.Proofs.Ytmmkefdbdpfpdaa
