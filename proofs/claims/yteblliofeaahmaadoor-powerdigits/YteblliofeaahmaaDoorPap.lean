/- Of what PowerDigitsRow stands on: RefMul RefOver. -/
import Derived.Test.YteblliofeaahmaaDoorPaf
import Derived.Test.YteblliofeaahmaaDoorPae
import Derived.Deep.LoopGhost
import Derived.BigQuiet
namespace Go.Proofs.YteblliofeaahmaaDoor
open Go.RowKit
set_option maxHeartbeats 400000
theorem rtrim_row {w:World} {B base n cap:Nat} {zs:List Nat} (h:Row w B zs) (hB:base≤B) (hz:zs.length≤9223372036854775807) (wz:Pl.Wf zs) (hn:n≤zs.length) (hc:cap≤zs.length) (hnc:n≤cap)
  (h0:∀ j,n≤j→j < zs.length→zs[j]?.getD 0 = 0) (h1:n = 0∨zs[n - 1]?.getD 0≠0) :
  (zs.take n).length = n∧Own w base (.slice (some ⟨B,0,none⟩) n cap) (zs.take n)∧Pl.Wf (zs.take n)∧Pl.Norm (zs.take n)∧Pl.val (zs.take n) = Pl.val zs:=by
 obtain ⟨a1,_,a3,a4,a5⟩:=trim_row h hB hz wz hn h0 h1
 exact ⟨a1,h.own hB n cap hnc hc hz,a3,a4,a5⟩
theorem rnat_any (v:Value) (a:Option Addr) (n c:Nat) (w:World) (hv:v = .slice a n c) :
  Calls Tryd.prog 51 #[v] w fun e w'=>e = .returned (.agg #[.slice a n c])∧w' = w.alloc (.cells #[.slice a n c] 65):=by
 subst hv
 go_enter Tryd.func51,Tryd.ntmps51
 go_wp2
 exact bodyPost_ret (v:=.agg #[.slice a n c]) (by simp [results,Tryd.results51,go_sem]) rfl ⟨rfl,rfl⟩
theorem rof_any (u:Nat) (w:World) (hu:u < 18446744073709551616) :
  Calls Tryd.prog 27 #[.int .u64 (u:Int)] w fun e w'=>(∃ a n cap,e = .returned (.agg #[.slice a n cap])∧Mine w' w.heap.size a n cap u)∧Below w.heap.size w w':=by
 have hrow:∀ o:Obj,Row ((w.alloc o).alloc (.cells #[.int .u32 ((u:Int) % 4294967296),.int .u32 ((u:Int) / 4294967296)] 42)) (w.heap.size+1) [u % 4294967296,u / 4294967296]:=by
  intro o
  refine ⟨#[],?_⟩
  rw [heap_alloc2_new]
  simp [lc]
 have HR:=hide hrow
 clear hrow
 have hwf:Pl.Wf [u % 4294967296,u / 4294967296]:=Pl.wf_cons (by omega) (Pl.wf_one (by omega))
 have hval:Pl.val [u % 4294967296,u / 4294967296] = u:=by simp [Pl.val]; omega
 have HV:=hide hval
 clear hval
 go_enter Tryd.func27,Tryd.ntmps27
 go_wp2_with fail
 refine (rtrim_at (w.heap.size+1) 0 2 2 [u % 4294967296,u / 4294967296] _ rfl (by omega) (by omega) (fun j hj=>by rw [Nat.zero_add]; exact (unhide HR _).cell j hj)).mono ?_
 rintro e w1 ⟨rfl,n,hn,h0,h1,rfl⟩
 have hn2:n≤2:=hn
 have HT:=hide (fun o:Obj=>rtrim_row (cap:=2) (unhide HR o) (show w.heap.size≤w.heap.size+1 by omega) (by simp) hwf hn (by simp) hn2 h0 h1)
 clear h0 h1 hn
 go_wp2_with fail
 refine (rnat_any _ _ n 2 _ rfl).mono ?_
 rintro e w2 ⟨rfl,rfl⟩
 have hbx:=(((Box.made w (.slice none 0 0)).alloc (.cells #[.int .u32 ((u:Int) % 4294967296),.int .u32 ((u:Int) / 4294967296)] 42)).alloc (.cells #[.slice (some ⟨w.heap.size+1,0,none⟩) n 2] 65))
 have hcx:=hbx.cell
 have hfx:=hbx.frozen
 go_wp2
 obtain ⟨t1,t2,t3,t4,t5⟩:=unhide HT (.cells #[.slice (some ⟨w.heap.size+1,0,none⟩) n 2] 65)
 refine bodyPost_ret (v:=.agg #[.slice (some ⟨w.heap.size+1,0,none⟩) n 2]) (by simp [results,Tryd.results27,go_sem]) rfl ⟨⟨_,n,2,rfl,_,t1,t2.kept (gr_alloc _ _),t3,t4,t5.trans (unhide HV),by omega⟩,gr_trans (gr_trans (gr_alloc _ _) (gr_alloc _ _)) (gr_alloc _ _)⟩
def OverTo (base n d V:Nat) (e:Ending) (w':World):Prop:=
 ∃ (k:Nat) (qs:List Nat),e = .returned (.tuple #[.slice (some ⟨base,0,none⟩) k n,.int .u64 ((V % d:Nat):Int)])∧k≤n∧qs.length = k∧Own w' base (.slice (some ⟨base,0,none⟩) k n) qs∧Pl.Wf qs∧Pl.Norm qs∧Pl.val qs = V / d
theorem rover_some (b off cap d n:Nat) (xs:List Nat) (w:World) (hn:Hid (xs.length = n)) (hlen:n≤16384) (hd:0 < d) (hd2:d < 4294967296) (hx:Pl.Wf xs) (hlt:b < w.heap.size)
  (hc:∀ j,j < n→w.cell? ⟨b,off+j,none⟩ = some (.int .u32 ((xs[j]?.getD 0:Nat):Int))) :
  Calls Tryd.prog 63 #[.slice (some ⟨b,off,none⟩) n cap,.int .u64 (d:Int)] w
   fun e w'=>OverTo w.heap.size n d (Pl.val xs) e w'∧Below w.heap.size w w':=by
 have hmk:=make_limbs (n:Int) n rfl (by omega)
 go_enter Tryd.func63,Tryd.ntmps63
 go_wp2
 clear hmk
 go_loopw [7,8] (fun r i wr=>∃ (k rr:Nat) (qs:List Nat),k≤n∧i = .int .i64 ((k:Int) - 1)∧r = .int .u64 (rr:Int)∧rr < d∧qs.length = n - k∧Pl.Wf qs∧Pl.val (xs.drop k) = Pl.val qs * d+rr ∧
   Row wr w.heap.size (List.replicate k 0 ++ qs)∧Below w.heap.size w wr) (fun _ i _=>(intOf i+1).toNat)
 case atStart=>
  refine ⟨n,0,[],Nat.le_refl _,rfl,rfl,hd,by simp,Pl.wf_nil,?_,?_,gr_alloc _ _⟩
  ·rw [List.drop_eq_nil_of_le (by rw [unhide hn]; omega)]; simp [Pl.val]
  ·rw [List.append_nil]; exact Row.made _ _
 case round=>
  obtain ⟨k,rr,qs,hk,rfl,rfl,hrd,hql,hqw,hv,hrow,hbel⟩:=hrel
  by_cases hk0:k = 0
  ·subst hk0
   have hv2:=hv
   rw [List.drop_zero] at hv2
   have hr2:Row wr w.heap.size qs:=by simpa using hrow
   have hm:Pl.val xs % d = rr:=by rw [hv2,Nat.mul_comm,Nat.mul_add_mod]; exact Nat.mod_eq_of_lt hrd
   have hq:Pl.val xs / d = Pl.val qs:=by rw [hv2,Nat.mul_comm,Nat.mul_add_div hd,Nat.div_eq_of_lt hrd,Nat.add_zero]
   have HM:=hide hm
   have HQ:=hide hq
   clear hm hq hv hv2 hrow
   go_wp2_with fail
   refine (rtrim_at w.heap.size 0 n n qs wr (by omega) (Nat.le_refl _) (by omega) (fun j hj=>by rw [Nat.zero_add]; exact hr2.cell j hj)).mono ?_
   rintro e w1 ⟨rfl,l,hl,h0,h1,rfl⟩
   have hl2:l≤n:=by omega
   have HT:=hide (rtrim_row (cap:=n) hr2 (Nat.le_refl _) (by omega) hqw hl (by omega) hl2 h0 h1)
   clear h0 h1
   go_wp2
   go_ret2
   obtain ⟨t1,t2,t3,t4,t5⟩:=unhide HT
   refine ⟨⟨l,qs.take l,?_,hl2,t1,t2,t3,t4,by rw [t5,unhide HQ]⟩,hbel⟩
   rw [unhide HM]
   rfl
  ·obtain ⟨j,rfl⟩:∃ j,k = j+1:=⟨k - 1,by omega⟩
   obtain ⟨x,hxx⟩:∃ x,x = xs[j]?.getD 0:=⟨_,rfl⟩
   obtain ⟨t,ht⟩:∃ t,t = rr * 4294967296+x:=⟨_,rfl⟩
   have hx1:x < 4294967296:=by rw [hxx]; exact Pl.wf_at hx j
   have hcx:wr.cell? ⟨b,off+j,none⟩ = some (.int .u32 (x:Int)):=by rw [hxx]; exact (hbel.cell (by exact hlt)).trans (hc j (by omega))
   have hor:Go.bits BinOp.or IntKind.u64 ((rr:Int) * 4294967296) (x:Int) = (t:Int):=by rw [or_limb rr x (by omega) hx1,ht]; omega
   have hcq:=hrow.cell j (by simp; omega)
   have hfq:=hrow.frozen j
   have hq1:t / d < 4294967296:=div_digit hrd hx1 ht
   have hqe:(t:Int) / (d:Int) = ((t / d:Nat):Int):=(Int.natCast_ediv t d).symm
   have hme:(t:Int) % (d:Int) = ((t % d:Nat):Int):=(Int.natCast_emod t d).symm
   have hq1i:(t:Int) / (d:Int) < 4294967296:=by rw [hqe]; omega
   have hq0i:(0:Int)≤(t:Int) / (d:Int):=by rw [hqe]; exact Int.natCast_nonneg _
   have HQE:=hide hqe
   have HME:=hide hme
   have hm1:t % d < d:=Nat.mod_lt _ hd
   have hnl:=unhide hn
   have HV:Hid (Pl.val (xs.drop j) = (t / d+4294967296 * Pl.val qs) * d+t % d):=by
    rw [Pl.drop_cons xs j (by omega),← hxx]; exact div_step hv ht
   have HR:=hide (hrow.set j (t / d) (by simp; omega))
   clear hxx ht hv hrow hnl hc hqe hme
   go_wp2
   go_roundw
   case rel=>
    rw [unhide HQE,unhide HME]
    refine ⟨j,t % d,t / d :: qs,by omega,rfl,rfl,hm1,by simp; omega,Pl.wf_cons hq1 hqw,unhide HV,?_,hbel.setCell (Nat.le_refl _) _⟩
    have h:=unhide HR
    have e:=set_rep j (t / d) qs []
    simp only [List.append_nil] at e
    rwa [e] at h
   case measure=>simp [intOf]
end Go.Proofs.YteblliofeaahmaaDoor
