/- Of what DigitsNamesRow stands on: RefMul BgCmp BgMul. -/
import Derived.Test.YtplihgoapiiigaaGreatDoorProg
import Derived.WalkKit
import Derived.WalkSpells
import Derived.WalkLawsBesides
import Derived.Test.YtplihgoapiiigaaGreatDoorPac
import Derived.Test.YtplihgoapiiigaaGreatDoorPai
import Derived.Test.YtplihgoapiiigaaGreatDoorPad
import Derived.Deep.LoopGhost
import Derived.BigQuiet
import Derived.Test.YtplihgoapiiigaaGreatDoorPag
import Derived.Test.YtplihgoapiiigaaGreatDoorPal
namespace Go.Proofs.YtplihgoapiiigaaGreatDoor
open Go.RowKit
set_option maxHeartbeats 1000000
set_option maxRecDepth 20000
def TimesTo (base N P:Nat) (e:Ending) (w':World):Prop:=
 ∃ n zs,e = .returned (.slice (some ⟨base,0,none⟩) n N)∧n≤N∧zs.length = n∧Own w' base (.slice (some ⟨base,0,none⟩) n N) zs∧Pl.Wf zs∧Pl.Norm zs∧Pl.val zs = P
theorem bcmp_some (b off b' off' cap cap' n:Nat) (xs ys:List Nat) (w:World) (hxn:Hid (xs.length = n)) (hyn:Hid (ys.length = n)) (hlt:b < w.heap.size) (hlt':b' < w.heap.size) (hx:Pl.Wf xs) (hy:Pl.Wf ys) (hbig:n≤16384)
  (hc:∀ j,j < n→w.cell? ⟨b,off+j,none⟩ = some (.int .u32 ((xs[j]?.getD 0:Nat):Int)))
  (hc':∀ j,j < n→w.cell? ⟨b',off'+j,none⟩ = some (.int .u32 ((ys[j]?.getD 0:Nat):Int))) :
  Calls Tryz.prog 53 #[.slice (some ⟨b,off,none⟩) n cap,.slice (some ⟨b',off',none⟩) n cap'] w
   fun e w'=>e = .returned (.int .i64 (cmpI (Pl.val xs) (Pl.val ys)))∧Below w.heap.size w w':=by
 go_enter Tryz.func53,Tryz.ntmps53
 go_wp2
 go_loopw [5] (fun t wr=>∃ k:Nat,k≤n∧t = .int .i64 ((k:Int) - 1)∧xs.drop k = ys.drop k∧Below w.heap.size w wr) (fun t _=>(intOf t+1).toNat)
 case atStart=>exact ⟨n,Nat.le_refl _,rfl,by rw [List.drop_eq_nil_of_le (by rw [unhide hxn]; omega),List.drop_eq_nil_of_le (by rw [unhide hyn]; omega)],gr_refl _⟩
 case round=>
  obtain ⟨k,hk,rfl,hd,hbel⟩:=hrel
  by_cases hk0:k = 0
  ·subst hk0
   go_wp2
   go_ret
   rw [List.drop_zero,List.drop_zero] at hd
   exact ⟨ret_int (by rw [hd,cmpI_eq]),hbel⟩
  ·obtain ⟨j,rfl⟩:∃ j,k = j+1:=⟨k - 1,by omega⟩
   obtain ⟨x,hxx⟩:∃ x,x = xs[j]?.getD 0:=⟨_,rfl⟩
   obtain ⟨y,hyy⟩:∃ y,y = ys[j]?.getD 0:=⟨_,rfl⟩
   have hcx:wr.cell? ⟨b,off+j,none⟩ = some (.int .u32 (x:Int)):=by rw [hxx]; exact (hbel.cell (by exact hlt)).trans (hc j (by omega))
   have hcy:wr.cell? ⟨b',off'+j,none⟩ = some (.int .u32 (y:Int)):=by rw [hyy]; exact (hbel.cell (by exact hlt')).trans (hc' j (by omega))
   have hxl:=unhide hxn
   have hyl:=unhide hyn
   have hj1:(0:Int)≤(j:Int):=by omega
   have hj2:(j:Int) < (n:Int):=by omega
   have HL:Hid (x = y→xs.drop j = ys.drop j):=fun e=>by
    rw [Pl.drop_cons xs j (by omega),Pl.drop_cons ys j (by omega),hd,← hxx,← hyy,e]
   have HLT:Hid (x < y→Pl.val xs < Pl.val ys):=fun e=>cmp_at hx j (by omega) (by omega) hd (by rw [← hxx,← hyy]; exact e)
   have HGT:Hid (y < x→Pl.val ys < Pl.val xs):=fun e=>cmp_at hy j (by omega) (by omega) hd.symm (by rw [← hxx,← hyy]; exact e)
   clear hxx hyy hd hxl hyl hc hc'
   go_wp2_with fail
   go_quiet (fail)
   have hbq:=below_drewN hbel nq
   have hcx2:(wr.drewN nq).cell? ⟨b,off+j,none⟩ = some (.int .u32 (x:Int)):=hcx
   have hcy2:(wr.drewN nq).cell? ⟨b',off'+j,none⟩ = some (.int .u32 (y:Int)):=hcy
   clear hcx hcy
   generalize wr.drewN nq = wq at *
   by_cases hlt2:x < y
   ·have hf:decide (x < y) = true:=by simp; omega
    go_wp2
    go_ret
    exact ⟨ret_int (by rw [cmpI_lt (unhide HLT hlt2)]),hbq⟩
   ·have hf:decide (x < y) = false:=by simp; omega
    go_wp2_with fail
    go_quiet (fail)
    by_cases hgt:y < x
    ·have hf2:decide (y < x) = true:=by simp; omega
     go_wp2
     go_ret
     exact ⟨ret_int (by rw [cmpI_gt (unhide HGT hgt)]),below_drewN hbq _⟩
    ·have hf2:decide (y < x) = false:=by simp; omega
     have he:x = y:=by omega
     have HE:=hide he
     clear he
     go_wp2
     go_roundw
     case rel=>exact ⟨j,by omega,by go_num,unhide HL (unhide HE),below_drewN hbq _⟩
     case measure=>simp [intOf]
theorem bcmp_any (a a':Option Addr) (n cap cap' m m':Nat) (w:World) (h:Num w a n m) (h':Num w a' n m') :
  Calls Tryz.prog 53 #[.slice a n cap,.slice a' n cap'] w fun e w'=>e = .returned (.int .i64 (cmpI m m'))∧Below w.heap.size w w':=by
 obtain ⟨xs,hn,hl,hw,hN,hv,hb⟩:=h
 obtain ⟨ys,hn',hl',hw',hN',hv',hb'⟩:=h'
 rcases hl.parts with hx|⟨hp,b,off,rfl,hlt,hc⟩
 ·have hn0:n = 0:=by rw [← hn,hx]; rfl
  have hy:ys = []:=List.length_eq_zero_iff.1 (by omega)
  have hm:m = m':=by rw [← hv,← hv',hx,hy]
  subst hm hn0
  clear hn hn' hv hv'
  go_enter Tryz.func53,Tryz.ntmps53
  go_wp2
  refine wp_loop_rounds 1 ?_
  rw [rounds_succ]
  go_wp2
  go_ret
  exact ⟨ret_int (by rw [cmpI_eq]),gr_refl _⟩
 ·rcases hl'.parts with hy|⟨hp',b',off',rfl,hlt',hc'⟩
  ·rw [hy] at hn'; simp at hn'; omega
  ·rw [← hv,← hv']
   exact bcmp_some b off b' off' cap cap' n xs ys w (hide hn) (hide hn') hlt hlt' hw hw' hb (fun j hj=>hc j (by omega)) (fun j hj=>hc' j (by omega))
theorem bcmp_all (a a':Option Addr) (n n' cap cap' m m':Nat) (w:World) (h:Num w a n m) (h':Num w a' n' m') :
  Calls Tryz.prog 53 #[.slice a n cap,.slice a' n' cap'] w fun e w'=>e = .returned (.int .i64 (cmpI m m'))∧Below w.heap.size w w':=by
 by_cases he:n = n'
 ·subst he
  exact bcmp_any a a' n cap cap' m m' w h h'
 ·obtain ⟨xs,hn,hl,hw,hN,hv,hb⟩:=h
  obtain ⟨ys,hn',hl',hw',hN',hv',hb'⟩:=h'
  have hne:((n:Int) != (n':Int)) = true:=by simp; omega
  have hne2:((n:Int) == (n':Int)) = false:=by simp; omega
  by_cases hlt:n < n'
  ·have hc:cmpI m m' = -1:=by rw [← hv,← hv']; exact cmpI_lt (cmp_len hw hN' (by omega))
   rw [hc]
   clear hc hv hv' hn hn' hl hl' hw hw' hN hN' he
   go_enter Tryz.func53,Tryz.ntmps53
   go_wp2
   go_ret
   exact ⟨rfl,gr_refl _⟩
  ·have hlt2:n' < n:=by omega
   have hc:cmpI m m' = 1:=by rw [← hv,← hv']; exact cmpI_gt (cmp_len hw' hN (by omega))
   rw [hc]
   clear hc hv hv' hn hn' hl hl' hw hw' hN hN' he hlt
   go_enter Tryz.func53,Tryz.ntmps53
   go_wp2
   go_ret
   exact ⟨rfl,gr_refl _⟩
theorem bplain_some (b off cap b' off' cap' nx ny:Nat) (xs ys:List Nat) (w:World) (hxl:Hid (xs.length = nx)) (hyl:Hid (ys.length = ny)) (hx:nx≤40000) (hy:ny≤40000) (wx:Pl.Wf xs) (wy:Pl.Wf ys)
  (hb:b < w.heap.size) (hb':b' < w.heap.size)
  (hc:Hid (∀ j,j < nx→w.cell? ⟨b,off+j,none⟩ = some (.int .u32 ((xs[j]?.getD 0:Nat):Int))))
  (hc':Hid (∀ j,j < ny→w.cell? ⟨b',off'+j,none⟩ = some (.int .u32 ((ys[j]?.getD 0:Nat):Int)))) :
  Calls Tryz.prog 109 #[.slice (some ⟨b,off,none⟩) nx cap,.slice (some ⟨b',off',none⟩) ny cap'] w
   fun e w'=>TimesTo w.heap.size (nx+ny) (Pl.val xs * Pl.val ys) e w'∧Below w.heap.size w w':=by
 have hmk:=make_limbs ((nx:Int)+(ny:Int)) (nx+ny) (by omega) (by omega)
 go_enter Tryz.func109,Tryz.ntmps109
 go_wp2
 clear hmk
 go_loopg [6] nx (fun g s6 wr=>∃ (i:Nat) (lo:List Nat),i+g = nx∧s6 = .int .i64 (i:Int)∧lo.length = i+ny∧Pl.Wf lo∧Hid (Pl.val lo = Pl.val ys * Pl.val (xs.take i))∧Row wr w.heap.size (lo ++ List.replicate (nx - i) 0)∧Below w.heap.size w wr)
 case atStart=>
  refine ⟨0,List.replicate ny 0,by omega,rfl,by simp,Pl.wf_replicate _,hide (by simp [Pl.val_replicate,Pl.val]),?_,gr_alloc _ _⟩
  rw [List.replicate_append_replicate,Nat.sub_zero,Nat.add_comm]; exact Row.made _ _
 case round=>
  obtain ⟨i,lo,hig,rfl,hlo,wlo,HV,hr,hbel⟩:=hrel
  have hxl':=unhide hxl
  by_cases hin:i < nx
  ·obtain ⟨x,hxx⟩:∃ x,x = xs[i]?.getD 0:=⟨_,rfl⟩
   have hx1:x < 4294967296:=by rw [hxx]; exact Pl.wf_at wx i
   have HX:=hide hxx
   have hcx0:=unhide hc i hin
   rw [← hxx] at hcx0
   have hcxo:wr.cell? ⟨b,off+i,none⟩ = some (.int .u32 (x:Int)):=(hbel.cell (by exact hb)).trans hcx0
   obtain ⟨pre,hpre⟩:∃ pre,pre = lo.take i:=⟨_,rfl⟩
   obtain ⟨d,hd⟩:∃ d,d = lo.drop i:=⟨_,rfl⟩
   have hpd:lo = pre ++ d:=by rw [hpre,hd,List.take_append_drop]
   have hpl:pre.length = i:=by rw [hpre,List.length_take]; omega
   have hdl:d.length = ny:=by rw [hd,List.length_drop]; omega
   have wd:Pl.Wf d:=by rw [hd]; exact Pl.wf_drop wlo i
   have wp:Pl.Wf pre:=by rw [hpre]; exact Pl.wf_take wlo i
   rw [hpd] at hr
   have HR0:=hide hr
   have HPD:=hide hpd
   have HD:=hide hdl
   have HPL:=hide hpl
   clear hr hpd hpre hd hxx hdl hpl
   go_wp2
   go_loopw [7,9] (fun s7 s8 wr2=>∃ (k c:Nat) (out:List Nat),k≤ny∧s8 = .int .i64 (k:Int)∧s7 = .int .u64 (c:Int)∧c < 4294967296∧out.length = k∧Pl.Wf out∧Hid (Pl.val out+4294967296 ^ k * c = Pl.val (d.take k)+x * Pl.val (ys.take k)) ∧
     Row wr2 w.heap.size (pre ++ (out ++ d.drop k) ++ List.replicate (nx - i) 0)∧Below w.heap.size w wr2) (fun _ s8 _=>ny - (intOf s8).toNat)
   case atStart=>exact ⟨0,0,[],Nat.zero_le _,rfl,rfl,by omega,rfl,Pl.wf_nil,hide (by simp [Pl.val]),by simpa using unhide HR0,hbel⟩
   case round=>
    obtain ⟨k,c,out,hk,rfl,rfl,hcl,hol,how,HE,hr2,hbel2⟩:=hrel
    have hyl':=unhide hyl
    have hdl:=unhide HD
    have hpl:=unhide HPL
    by_cases hkn:k < ny
    ·obtain ⟨y,hyy⟩:∃ y,y = ys[k]?.getD 0:=⟨_,rfl⟩
     have hy1:y < 4294967296:=by rw [hyy]; exact Pl.wf_at wy k
     obtain ⟨z,hzz⟩:∃ z,z = d[k]?.getD 0:=⟨_,rfl⟩
     have hz1:z < 4294967296:=by rw [hzz]; exact Pl.wf_at wd k
     have hcx:wr.cell? ⟨b,off+i,none⟩ = some (.int .u32 (x:Int)):=(hbel2.cell (by exact hb)).trans hcx0
     have hcy:wr.cell? ⟨b',off'+k,none⟩ = some (.int .u32 (y:Int)):=by rw [hyy]; exact (hbel2.cell (by exact hb')).trans (unhide hc' k hkn)
     have hcz:wr.cell? ⟨w.heap.size,i+k,none⟩ = some (.int .u32 (z:Int)):=by
      rw [hr2.cell (i+k) (by simp; omega),← hpl,at_mid _ _ _ _ _ hol (by omega),hzz]
     have hfz:=hr2.frozen (i+k)
     obtain ⟨t,ht⟩:∃ t,t = c+y * x+z:=⟨_,rfl⟩
     have hm0:=mul_lo x y
     have hm1:=mul_hi hx1 hy1
     have hti:(x:Int) * (y:Int)+(z:Int)+(c:Int) = (t:Int):=by rw [ht]; push_cast; rw [Int.mul_comm (y:Int)]; omega
     have ht1:t < 18446744073709551616:=by omega
     have HV2:Hid (Pl.val (out ++ [t % 4294967296])+4294967296 ^ (k+1) * (t / 4294967296) = Pl.val (d.take (k+1))+x * Pl.val (ys.take (k+1))):=by
      rw [Pl.val_append,Pl.val_one,hol,Pl.val_take_any d k,Pl.val_take_any ys k,← hzz,← hyy]
      exact hide (Pl.step_mul _ (Nat.pow_succ ..) (unhide HE) t (t / 4294967296) (t % 4294967296) (by omega) z ht)
     have hset:=hr2.set (i+k) (t % 4294967296) (by simp; omega)
     rw [← hpl,set_mid _ _ _ _ _ _ hol (by omega),hpl] at hset
     have HSet:=hide hset
     clear hset hyy hzz ht HE hyl' hdl hr2
     go_wp2
     go_quiet (fail)
     have hfz':(wr.drewN nq).frozen? ⟨w.heap.size,i+k,none⟩ = false:=hfz
     have hcz':(wr.drewN nq).cell? ⟨w.heap.size,i+k,none⟩ = some (.int .u32 (z:Int)):=hcz
     have hbel3:=below_drewN hbel2 nq
     have HSet2:Hid (Row ((wr.drewN nq).setCell ⟨w.heap.size,i+k,none⟩ (.int .u32 ((t % 4294967296:Nat):Int))) w.heap.size (pre ++ ((out ++ [t % 4294967296]) ++ d.drop (k+1)) ++ List.replicate (nx - i) 0)):=HSet
     clear hfz hcz hbel2 HSet hcx hcy
     generalize wr.drewN nq = wq at *
     go_wp2
     go_roundw
     case rel=>
      have e1:(t:Int) / 4294967296 = ((t / 4294967296:Nat):Int):=by omega
      have e2:(t:Int) % 4294967296 = ((t % 4294967296:Nat):Int):=by omega
      rw [e1,e2]
      exact ⟨k+1,t / 4294967296,out ++ [t % 4294967296],by omega,by go_num,rfl,by omega,by simp [hol],Pl.wf_append how (Pl.wf_one (by omega)),unhide HV2,unhide HSet2,hbel3.setCell (Nat.le_refl _) _⟩
     case measure=>simp [intOf]; omega
    ·have hke:k = ny:=by omega
     subst hke
     have hdt:d.take k = d:=List.take_of_length_le (by omega)
     have hdd:d.drop k = []:=List.drop_eq_nil_of_le (by omega)
     have hyt:ys.take k = ys:=List.take_of_length_le (by omega)
     rw [hdd,List.append_nil] at hr2
     obtain ⟨g',rfl⟩:∃ g',gk = g'+1:=⟨gk - 1,by omega⟩
     have hE:Pl.val out+4294967296 ^ k * c = Pl.val d+x * Pl.val ys:=by
      have:=unhide HE
      rwa [hdt,hyt] at this
     have HN:Hid (Pl.val (pre ++ out ++ [c]) = Pl.val ys * Pl.val (xs.take (i+1))):=by
      rw [Pl.val_take_any xs i,← unhide HX]
      exact hide (mul_step (unhide HV) (unhide HPD) hpl hol hE)
     have e:nx - i = nx - (i+1)+1:=by omega
     rw [e,List.replicate_succ] at hr2
     have hcs:=hr2.cell (i+k) (by simp; omega)
     have hfs:=hr2.frozen (i+k)
     have hset:=hr2.set (i+k) c (by simp; omega)
     rw [List.set_append_right _ _ (by simp; omega),show i+k - (pre ++ out).length = 0 by simp; omega] at hset
     have hset':Row (wr.setCell ⟨w.heap.size,i+k,none⟩ (.int .u32 (c:Int))) w.heap.size ((pre ++ out ++ [c]) ++ List.replicate (nx - (i+1)) 0):=by simpa using hset
     have HSet:=hide hset'
     have HL:Hid ((pre ++ out ++ [c]).length = i+1+k):=hide (by simp; omega)
     have HW:Hid (Pl.Wf (pre ++ out ++ [c])):=hide (Pl.wf_append (Pl.wf_append wp how) (Pl.wf_one hcl))
     have hrl:i+k < nx+k:=by omega
     clear hset hset' hE hdt hdd hyt e HE hr2
     go_wp2
     go_roundg g'
     case measure=>omega
     case rel=>exact ⟨i+1,pre ++ out ++ [c],by omega,by go_num,unhide HL,unhide HW,unhide HN,unhide HSet,hbel2.setCell (Nat.le_refl _) _⟩
  ·have hie:i = nx:=by omega
   subst hie
   have hr':Row wr w.heap.size lo:=by rw [Nat.sub_self] at hr; simpa using hr
   have hxt:xs.take i = xs:=List.take_of_length_le (by omega)
   have HV':Hid (Pl.val lo = Pl.val xs * Pl.val ys):=hide (by have:=unhide HV; rw [hxt] at this; rw [this,Nat.mul_comm])
   clear hr hxt HV
   go_wp2_with fail
   refine (btrim_at w.heap.size 0 (i+ny) (i+ny) lo wr hlo (Nat.le_refl _) (by omega) (fun j hj=>by rw [Nat.zero_add]; exact hr'.cell j hj)).mono ?_
   rintro e w1 ⟨rfl,n,hn,h0,h1,rfl⟩
   have HT:=hide (btrim_row (cap:=i+ny) hr' (Nat.le_refl _) (by omega) wlo hn (by omega) (by omega) h0 h1)
   have HN:=hide (show n≤i+ny by omega)
   clear h0 h1 hn
   go_wp2
   go_ret
   obtain ⟨t1,t2,t3,t4,t5⟩:=unhide HT
   exact ⟨⟨n,lo.take n,rfl,unhide HN,t1,t2,t3,t4,t5.trans (unhide HV')⟩,hbel⟩
end Go.Proofs.YtplihgoapiiigaaGreatDoor
