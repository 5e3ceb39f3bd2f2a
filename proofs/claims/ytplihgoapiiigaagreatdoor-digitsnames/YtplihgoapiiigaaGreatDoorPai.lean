/- Of what DigitsNamesRow stands on: AddTimes Multiply ShiftUp ShiftDown Low DivLimb Clone TakeTimes SymM Text DcOne SymZ SymEq. -/
import Derived.Test.YtplihgoapiiigaaGreatDoorPad
import Derived.ChangeKeysEq
namespace Go.Proofs.YtplihgoapiiigaaGreatDoor
open Go.RowKit
set_option maxHeartbeats 1000000
theorem addTimes_any (B b off cap cap' f:Nat) (pre d post xs:List Nat) (w:World) (hd:d.length = xs.length) (hlen:xs.length≤1073741824) (hne:b≠B)
  (wd:Pl.Wf d) (wx:Pl.Wf xs) (hf:f < 4294967296) (hrow:Row w B (pre ++ d ++ post))
  (hc:∀ j,j < xs.length→w.cell? ⟨b,off+j,none⟩ = some (.int .u32 ((xs[j]?.getD 0:Nat):Int))) :
  Calls Tryz.prog 96 #[.slice (some ⟨B,pre.length,none⟩) d.length cap,.slice (some ⟨b,off,none⟩) xs.length cap',.int .u32 (f:Int)] w
   fun e w'=>∃ (out:List Nat) (c:Nat),e = .returned (.int .u32 (c:Int))∧out.length = xs.length∧Pl.Wf out∧c < 4294967296∧Pl.val out+4294967296 ^ xs.length * c = Pl.val d+f * Pl.val xs∧Row w' B (pre ++ out ++ post)∧Only B w w':=by
 go_enter Tryz.func96,Tryz.ntmps96
 go_wp2
 go_loopw [7,12] (fun t i wr=>∃ (k c:Nat) (out:List Nat),k≤xs.length∧i = .int .i64 k∧t = .int .u64 (c:Int)∧c < 4294967296∧out.length = k∧Pl.Wf out ∧
   Pl.val out+4294967296 ^ k * c = Pl.val (d.take k)+f * Pl.val (xs.take k)∧Row wr B (pre ++ (out ++ d.drop k) ++ post)∧Only B w wr) (fun _ i _=>xs.length - (intOf i).toNat)
 case atStart=>exact ⟨0,0,[],Nat.zero_le _,rfl,rfl,by omega,rfl,Pl.wf_nil,by simp [Pl.val],by simpa using hrow,Only.refl _ _⟩
 case round=>
  obtain ⟨k,c,out,hk,rfl,rfl,hcl,hol,how,hval,hr,honly⟩:=hrel
  by_cases hlt:k < xs.length
  ·obtain ⟨x,hx⟩:∃ x,x = xs[k]?.getD 0:=⟨_,rfl⟩
   obtain ⟨y,hy⟩:∃ y,y = d[k]?.getD 0:=⟨_,rfl⟩
   have hcx:wr.cell? ⟨b,off+k,none⟩ = some (.int .u32 (x:Int)):=by rw [hx]; exact (honly.cell (by exact hne)).trans (hc k hlt)
   have hcd:wr.cell? ⟨B,pre.length+k,none⟩ = some (.int .u32 (y:Int)):=by
    rw [hr.cell (pre.length+k) (by simp; omega),at_mid _ _ _ _ _ hol (by omega),hy]
   have hfz:wr.frozen? ⟨B,pre.length+k,none⟩ = false:=hr.frozen _
   have hx1:x < 4294967296:=by rw [hx]; exact Pl.wf_at wx k
   have hy1:y < 4294967296:=by rw [hy]; exact Pl.wf_at wd k
   have hm1:=mul_lo x f
   have hm2:=mul_hi hx1 hf
   have HV:Hid (Pl.val out+4294967296 ^ k * c = Pl.val (d.take k)+f * Pl.val (xs.take k)):=hval
   have HX:Hid (x = xs[k]?.getD 0):=hx
   have HY:Hid (y = d[k]?.getD 0):=hy
   clear hval hx hy
   go_wp2
   have e1:((c:Int)+((x:Int) * (f:Int)+(y:Int))) / 4294967296 = (((c+x * f+y) / 4294967296:Nat):Int):=by omega
   have e2:((c:Int)+((x:Int) * (f:Int)+(y:Int))) % 4294967296 = (((c+x * f+y) % 4294967296:Nat):Int):=by omega
   have hb:c+x * f+y < 18446744073709551616:=by have:((x * f:Nat):Int) = (x:Int) * (f:Int):=Int.natCast_mul _ _; omega
   go_roundw
   case rel=>
    rw [e1,e2]
    refine ⟨k+1,(c+x * f+y) / 4294967296,out ++ [(c+x * f+y) % 4294967296],by omega,by go_num,rfl,by omega,by simp [hol],Pl.wf_append how (Pl.wf_one (by omega)),?_,?_,honly.setCell _ _⟩
    ·rw [Pl.val_append,Pl.val_one,hol,Pl.val_take_succ d k (by omega),Pl.val_take_succ xs k hlt,← HX.out,← HY.out]
     exact Pl.step_mul _ (Nat.pow_succ ..) HV.out _ _ _ (by omega) y rfl
    ·have:=hr.set (pre.length+k) ((c+x * f+y) % 4294967296) (by simp; omega)
     rwa [set_mid _ _ _ _ _ _ hol (by omega)] at this
   case measure=>simp [intOf]; omega
  ·have hke:k = xs.length:=by omega
   have HV:Hid (Pl.val out+4294967296 ^ k * c = Pl.val (d.take k)+f * Pl.val (xs.take k)):=hval
   clear hval
   go_wp2
   go_ret
   refine ⟨out,c,ret_int (by omega),by omega,how,hcl,?_,?_,honly⟩
   ·have:=HV.out
    rw [hke,List.take_of_length_le (by omega),List.take_of_length_le (by omega)] at this
    exact this
   ·rw [List.drop_eq_nil_of_le (by omega),List.append_nil] at hr
    exact hr
theorem addTimes_at (B p n b off cap cap' f:Nat) (pre d post xs:List Nat) (w:World) (hp:pre.length = p) (hd:d.length = n) (hx:xs.length = n) (hlen:n≤1073741824) (hne:b≠B)
  (wd:Pl.Wf d) (wx:Pl.Wf xs) (hf:f < 4294967296) (hrow:Row w B (pre ++ d ++ post))
  (hc:∀ j,j < xs.length→w.cell? ⟨b,off+j,none⟩ = some (.int .u32 ((xs[j]?.getD 0:Nat):Int))) :
  Calls Tryz.prog 96 #[.slice (some ⟨B,p,none⟩) n cap,.slice (some ⟨b,off,none⟩) n cap',.int .u32 (f:Int)] w
   fun e w'=>∃ (out:List Nat) (c:Nat),e = .returned (.int .u32 (c:Int))∧out.length = n∧Pl.Wf out∧c < 4294967296∧Pl.val out+4294967296 ^ n * c = Pl.val d+f * Pl.val xs∧Row w' B (pre ++ out ++ post)∧Only B w w':=by
 subst hp
 subst hx
 have h:=addTimes_any B b off cap cap' f pre d post xs w hd hlen hne wd wx hf hrow hc
 rw [hd] at h
 exact h
theorem mul_step {x y:Nat} {lo out pre d:List Nat} {c i l m:Nat} (h:Pl.val lo = x * y) (hl:lo = pre ++ d) (hp:pre.length = i) (ho:out.length = m) (e:Pl.val out+4294967296 ^ m * c = Pl.val d+l * x) :
  Pl.val (pre ++ out ++ [c]) = x * (y+4294967296 ^ i * l):=by
 rw [List.append_assoc,Pl.val_append,Pl.val_append,Pl.val_one,hp,ho,e]
 rw [hl,Pl.val_append,hp] at h
 rw [Nat.mul_add,Nat.mul_add,← Nat.add_assoc,h,Nat.mul_comm l x,Nat.mul_left_comm]
theorem multiply_any (b off cap b' off' cap':Nat) (xs ys:List Nat) (w:World) (hxp:0 < xs.length) (hx:xs.length≤16384) (hy:ys.length≤16384) (wx:Pl.Wf xs) (wy:Pl.Wf ys)
  (hb:b < w.heap.size) (hb':b' < w.heap.size)
  (hc:∀ j,j < xs.length→w.cell? ⟨b,off+j,none⟩ = some (.int .u32 ((xs[j]?.getD 0:Nat):Int)))
  (hc':∀ j,j < ys.length→w.cell? ⟨b',off'+j,none⟩ = some (.int .u32 ((ys[j]?.getD 0:Nat):Int))) :
  Calls Tryz.prog 67 #[.slice (some ⟨b,off,none⟩) xs.length cap,.slice (some ⟨b',off',none⟩) ys.length cap'] w
   fun e w'=>∃ zs:List Nat,e = .returned (.slice (some ⟨w.heap.size,0,none⟩) (xs.length+ys.length) (xs.length+ys.length))∧zs.length = xs.length+ys.length∧Pl.Wf zs∧Pl.val zs = Pl.val xs * Pl.val ys∧Row w' w.heap.size zs∧Below w.heap.size w w':=by
 have hxn:¬ xs = []:=fun h=>by simp [h] at hxp
 have hmk:=make_limbs ((xs.length:Int)+(ys.length:Int)) (xs.length+ys.length) (by omega) (by omega)
 go_enter Tryz.func67,Tryz.ntmps67
 go_wp2
 clear hmk
 go_loopw [17] (fun i wr=>∃ (k:Nat) (lo:List Nat),k≤ys.length∧i = .int .i64 k∧lo.length = k+xs.length∧Pl.Wf lo∧Pl.val lo = Pl.val xs * Pl.val (ys.take k) ∧
   Row wr w.heap.size (lo ++ List.replicate (ys.length - k) 0)∧Below w.heap.size w wr) (fun i _=>ys.length - (intOf i).toNat)
 case atStart=>
  refine ⟨0,List.replicate xs.length 0,Nat.zero_le _,rfl,by simp,Pl.wf_replicate _,by simp [Pl.val_replicate,Pl.val],?_,gr_alloc _ _⟩
  rw [List.replicate_append_replicate]; exact Row.made _ _
 case round=>
  obtain ⟨k,lo,hk,rfl,hlo,wlo,hval,hr,hbel⟩:=hrel
  by_cases hlt:k < ys.length
  ·obtain ⟨y,hyy⟩:∃ y,y = ys[k]?.getD 0:=⟨_,rfl⟩
   have hy1:y < 4294967296:=by rw [hyy]; exact Pl.wf_at wy k
   have hcy:wr.cell? ⟨b',off'+k,none⟩ = some (.int .u32 (y:Int)):=by rw [hyy]; exact (hbel.cell (by exact hb')).trans (hc' k hlt)
   have HC:Hid (∀ j,j < xs.length→wr.cell? ⟨b,off+j,none⟩ = some (.int .u32 ((xs[j]?.getD 0:Nat):Int))):=fun j hj=>(hbel.cell (by exact hb)).trans (hc j hj)
   have HV:Hid (Pl.val lo = Pl.val xs * Pl.val (ys.take k)):=hval
   have HY:Hid (y = ys[k]?.getD 0):=hyy
   clear hval hyy
   by_cases hz:y = 0
   ·subst hz
    go_wp2
    go_roundw
    case rel=>
     refine ⟨k+1,lo ++ [0],by omega,by go_num,by simp; omega,Pl.wf_append wlo (Pl.wf_one (by omega)),?_,?_,hbel⟩
     ·rw [Pl.val_append,Pl.val_one,Nat.mul_zero,Nat.add_zero,Pl.val_take_succ ys k hlt,← HY.out,Nat.mul_zero,Nat.add_zero]; exact HV.out
     ·rw [List.append_assoc]
      have e:ys.length - k = ys.length - (k+1)+1:=by omega
      rw [e,List.replicate_succ] at hr
      exact hr
    case measure=>simp [intOf]; omega
   ·have hzb:((y:Int) == 0) = false:=by simpa using hz
    go_wp2_with fail
    have hpd:lo = lo.take k ++ lo.drop k:=(List.take_append_drop k lo).symm
    have hpl:(lo.take k).length = k:=by rw [List.length_take]; omega
    have hdl:(lo.drop k).length = xs.length:=by rw [List.length_drop]; omega
    have wd:Pl.Wf (lo.drop k):=Pl.wf_drop wlo k
    have wp:Pl.Wf (lo.take k):=Pl.wf_take wlo k
    have hrr:Row wr w.heap.size (lo.take k ++ lo.drop k ++ List.replicate (ys.length - k) 0):=by rw [← hpd]; exact hr
    generalize lo.take k = pre at *
    generalize lo.drop k = d at *
    have HD:Hid (lo = pre ++ d):=hpd
    clear hpd
    refine (addTimes_at w.heap.size k xs.length b off _ _ y pre d (List.replicate (ys.length - k) 0) xs wr hpl hdl rfl (by omega) (by omega) wd wx hy1 hrr HC.out).mono ?_
    rintro e w1 ⟨out,c,rfl,hol,wo,hcl,hev,hr1,ho1⟩
    have hrl:(pre ++ out ++ List.replicate (ys.length - k) 0).length = xs.length+ys.length:=by simp; omega
    have hcs:=hr1.cell (k+xs.length) (by omega)
    have hfs:=hr1.frozen (k+xs.length)
    have HR:=hide hr1
    have HO:=hide ho1
    have HE:=hide hev
    have HW:=hide hr
    clear hr1 ho1 hev hr hrr hrl
    go_wp2
    go_roundw
    case rel=>
     refine ⟨k+1,pre ++ out ++ [c],by omega,by go_num,by simp; omega,Pl.wf_append (Pl.wf_append wp wo) (Pl.wf_one hcl),?_,?_,?_⟩
     ·rw [Pl.val_take_succ ys k hlt,← HY.out]
      exact mul_step HV.out HD.out hpl hol (unhide HE)
     ·have h:=(unhide HR).set (k+xs.length) c (by simp; omega)
      have e:ys.length - k = ys.length - (k+1)+1:=by omega
      rw [e,List.replicate_succ,List.set_append_right _ _ (by simp; omega)] at h
      have e2:k+xs.length - (pre ++ out).length = 0:=by simp; omega
      rw [e2] at h
      simpa using h
     ·exact ((unhide HO).setCell _ _).below hbel (Nat.le_refl _)
    case measure=>simp [intOf]; omega
  ·go_wp2
   have hke:k = ys.length:=by omega
   go_ret
   refine ⟨lo,rfl,by omega,wlo,?_,?_,hbel⟩
   ·rw [hval,hke,List.take_of_length_le (Nat.le_refl _)]
   ·rw [hke,Nat.sub_self] at hr
    simpa using hr
theorem bits_or_u32 (a b:Nat) (ha:a < 4294967296) (hb:b < 4294967296):Go.bits .or .u32 (a:Int) (b:Int) = ((a ||| b:Nat):Int):=by
 have hx:a ||| b < 2 ^ 32:=Nat.or_lt_two_pow (by omega) (by omega)
 have h1:(BitVec.ofInt 32 (a:Int)).toNat = a:=by rw [BitVec.ofInt_natCast,BitVec.toNat_ofNat]; exact Nat.mod_eq_of_lt (by omega)
 have h2:(BitVec.ofInt 32 (b:Int)).toNat = b:=by rw [BitVec.ofInt_natCast,BitVec.toNat_ofNat]; exact Nat.mod_eq_of_lt (by omega)
 show IntKind.u32.wrap ((BitVec.ofInt 32 (a:Int) ||| BitVec.ofInt 32 (b:Int)).toNat:Int) = _
 rw [BitVec.toNat_or,h1,h2,IntKind.wrap_u32]
 omega
theorem pow_lt32 {pt:Nat} (h:pt < 32):2 ^ pt≤2147483648:=Nat.pow_le_pow_right (show 0 < 2 by decide) (show pt≤31 by omega)
theorem mul_lt63 {x pt:Nat} (hx:x < 4294967296) (h:pt < 32):x * 2 ^ pt < 9223372036854775808:=by
 have h1:=pow_lt32 h
 have:x * 2 ^ pt≤4294967295 * 2147483648:=Nat.mul_le_mul (by omega) h1
 omega
theorem sh_wrap {x k pt:Nat} (hx:x < 4294967296) (hk:k % 32 = pt) (h:pt < 32):IntKind.u64.wrap ((x:Int) * 2 ^ (k % 32)) = ((x * 2 ^ pt:Nat):Int):=by
 have:=mul_lt63 hx h
 rw [hk,IntKind.wrap_u64]
 have e:(x:Int) * 2 ^ pt = ((x * 2 ^ pt:Nat):Int):=by push_cast; rfl
 rw [e]
 omega
theorem pow_split {pt:Nat} (h:pt < 32):4294967296 = 2 ^ pt * 2 ^ (32 - pt):=by
 rw [← Nat.pow_add,show pt+(32 - pt) = 32 by omega]
theorem sh_low {x pt:Nat} (h:pt < 32):x * 2 ^ pt % 4294967296 = 2 ^ pt * (x % 2 ^ (32 - pt)):=by
 rw [pow_split h,Nat.mul_comm x,Nat.mul_mod_mul_left]
theorem or_low {c x pt:Nat} (hc:c < 2 ^ pt) (h:pt < 32):Go.bits .or .u32 (c:Int) (((x * 2 ^ pt:Nat):Int) % 4294967296) = ((c+x * 2 ^ pt % 4294967296:Nat):Int):=by
 have h1:=pow_lt32 h
 rw [show (((x * 2 ^ pt:Nat):Int) % 4294967296) = ((x * 2 ^ pt % 4294967296:Nat):Int) by omega,bits_or_u32 _ _ (by omega) (by omega)]
 congr 1
 rw [sh_low h,Nat.or_comm,← Nat.two_pow_add_eq_or_of_lt hc,Nat.add_comm]
theorem or_high {x pt:Nat} (hx:x < 4294967296) (h:pt < 32):Go.bits .or .u32 (0:Int) (((x * 2 ^ pt:Nat):Int) / 4294967296 % 4294967296) = ((x * 2 ^ pt / 4294967296:Nat):Int):=by
 have:=mul_lt63 hx h
 rw [show (((x * 2 ^ pt:Nat):Int) / 4294967296 % 4294967296) = ((x * 2 ^ pt / 4294967296:Nat):Int) by omega]
 have:=bits_or_u32 0 (x * 2 ^ pt / 4294967296) (by omega) (by omega)
 rw [Nat.zero_or] at this
 exact this
theorem high_lt {x pt:Nat} (hx:x < 4294967296):x * 2 ^ pt / 4294967296 < 2 ^ pt:=by
 rw [Nat.div_lt_iff_lt_mul (by decide),Nat.mul_comm]
 exact Nat.mul_lt_mul_of_pos_left hx (Nat.pow_pos (by decide))
theorem low_lt {c x pt:Nat} (hc:c < 2 ^ pt) (h:pt < 32):c+x * 2 ^ pt % 4294967296 < 4294967296:=by
 rw [sh_low h]
 have h2:x % 2 ^ (32 - pt) < 2 ^ (32 - pt):=Nat.mod_lt _ (Nat.pow_pos (by decide))
 have h3:2 ^ pt * (x % 2 ^ (32 - pt)+1)≤2 ^ pt * 2 ^ (32 - pt):=Nat.mul_le_mul_left _ h2
 rw [← pow_split h,Nat.mul_add,Nat.mul_one] at h3
 omega
theorem up_step {o p c x t B B' s lo hi:Nat} (hB:B' = B * 4294967296) (h:o+B * c = p * s) (ht:t = x * s) (e:t = 4294967296 * hi+lo):(o+B * (c+lo))+B' * hi = (p+B * x) * s:=by
 subst hB
 have e1:B * t = B * 4294967296 * hi+B * lo:=by rw [e,Nat.mul_add,Nat.mul_assoc]
 have e2:(p+B * x) * s = p * s+B * t:=by rw [ht,Nat.add_mul,Nat.mul_assoc]
 rw [e2,Nat.mul_add,e1]
 omega
theorem up_set1 (wh m c v:Nat) (os:List Nat):(List.replicate wh 0 ++ (os ++ c :: List.replicate (m+1) 0)).set (wh+os.length) v = List.replicate wh 0 ++ ((os ++ [v]) ++ 0 :: List.replicate m 0):=by
 rw [List.set_append_right _ _ (by simp),List.length_replicate,Nat.add_sub_cancel_left,List.set_append_right _ _ (by omega),Nat.sub_self]
 simp [List.replicate_succ]
theorem up_set2 (wh m v:Nat) (os:List Nat):(List.replicate wh 0 ++ (os ++ 0 :: List.replicate m 0)).set (wh+os.length) v = List.replicate wh 0 ++ (os ++ v :: List.replicate m 0):=by
 rw [List.set_append_right _ _ (by simp),List.length_replicate,Nat.add_sub_cancel_left,List.set_append_right _ _ (by omega),Nat.sub_self]
 simp
theorem up_at1 (wh c:Nat) (os r:List Nat):(List.replicate wh 0 ++ (os ++ c :: r))[wh+os.length]?.getD 0 = c:=by
 rw [List.getElem?_append_right (by simp),List.length_replicate,Nat.add_sub_cancel_left,List.getElem?_append_right (by omega),Nat.sub_self]
 simp
theorem up_at2 (wh c m:Nat) (os:List Nat):(List.replicate wh 0 ++ (os ++ c :: List.replicate (m+1) 0))[wh+os.length+1]?.getD 0 = 0:=by
 rw [List.getElem?_append_right (by simp; omega),List.length_replicate,List.getElem?_append_right (by omega)]
 rw [show wh+os.length+1 - wh - os.length = 0+1 by omega,List.getElem?_cons_succ]
 simp
theorem up_end {v x wh pt k c n:Nat} (hk:k = 32 * wh+pt) (h:v+4294967296 ^ n * c = x * 2 ^ pt):4294967296 ^ wh * (v+4294967296 ^ n * c) = x * 2 ^ k:=by
 rw [h,hk,Nat.pow_add,Nat.pow_mul,Nat.mul_left_comm]
theorem shiftUp_some (b off cap n wh pt k:Nat) (xs:List Nat) (w:World) (hn:Hid (xs.length = n)) (hlen:n≤20000) (hx:Pl.Wf xs) (hlt:b < w.heap.size) (hk:Hid (k = 32 * wh+pt)) (hpt:pt < 32) (hwh:wh≤20000)
  (hc:∀ j,j < n→w.cell? ⟨b,off+j,none⟩ = some (.int .u32 ((xs[j]?.getD 0:Nat):Int))) :
  Calls Tryz.prog 70 #[.slice (some ⟨b,off,none⟩) n cap,.int .i64 (k:Int)] w
   fun e w'=>∃ (out:List Nat),e = .returned (.slice (some ⟨w.heap.size,0,none⟩) (wh+n+1) (wh+n+1))∧out.length = wh+n+1∧Pl.Wf out∧Pl.val out = Pl.val xs * 2 ^ k∧Row w' w.heap.size out∧Below w.heap.size w w':=by
 have hmk:=make_limbs ((wh:Int)+(n:Int)+1) (wh+n+1) (by omega) (by omega)
 have hq:(k:Int) / 32 = (wh:Int):=by have:=unhide hk; omega
 have hr:(k:Int) % 32 = (pt:Int):=by have:=unhide hk; omega
 have HP:Hid (k % 32 = pt):=by have:=unhide hk; exact hide (by omega)
 go_enter Tryz.func70,Tryz.ntmps70
 go_wp2
 clear hmk hq hr
 go_loopw [23] (fun i wr=>∃ (j c:Nat) (os:List Nat),j≤n∧i = .int .i64 (j:Int)∧c < 2 ^ pt∧os.length = j∧Pl.Wf os∧Pl.val os+4294967296 ^ j * c = Pl.val (xs.take j) * 2 ^ pt ∧
   Row wr w.heap.size (List.replicate wh 0 ++ (os ++ c :: List.replicate (n - j) 0))∧Below w.heap.size w wr) (fun i _=>n - (intOf i).toNat)
 case atStart=>
  refine ⟨0,0,[],Nat.zero_le _,rfl,Nat.pow_pos (by decide),rfl,Pl.wf_nil,by simp [Pl.val],?_,gr_alloc _ _⟩
  have e:List.replicate wh 0 ++ ([] ++ 0 :: List.replicate (n - 0) 0) = List.replicate (wh+n+1) 0:=by
   rw [List.nil_append,Nat.sub_zero,← List.replicate_succ,List.replicate_append_replicate,Nat.add_assoc]
  rw [e]
  exact Row.made _ _
 case round=>
  obtain ⟨j,c,os,hj,rfl,hcl,hol,how,hval,hr,hbel⟩:=hrel
  have hxl:=unhide hn
  by_cases hjn:j < n
  ·obtain ⟨x,hxx⟩:∃ x,x = xs[j]?.getD 0:=⟨_,rfl⟩
   obtain ⟨m,hm⟩:∃ m,n - j = m+1:=⟨n - j - 1,by omega⟩
   rw [hm] at hr
   have hx1:x < 4294967296:=by rw [hxx]; exact Pl.wf_at hx j
   have hcx:wr.cell? ⟨b,off+j,none⟩ = some (.int .u32 (x:Int)):=by rw [hxx]; exact (hbel.cell (by exact hlt)).trans (hc j hjn)
   have hc1:=hr.cell (wh+j) (by simp; omega)
   have hc2:=hr.cell (wh+j+1) (by simp; omega)
   rw [← hol,up_at1] at hc1
   rw [← hol,up_at2] at hc2
   rw [hol] at hc1 hc2
   have hf1:=hr.frozen (wh+j)
   have hf2:=hr.frozen (wh+j+1)
   have HR:Hid (∀ v1 v2:Nat,Row ((wr.setCell ⟨w.heap.size,wh+j,none⟩ (.int .u32 (v1:Int))).setCell ⟨w.heap.size,wh+j+1,none⟩ (.int .u32 (v2:Int))) w.heap.size (List.replicate wh 0 ++ ((os ++ [v1]) ++ v2 :: List.replicate m 0))):=fun v1 v2=>by
    have h1:=hr.set (wh+j) v1 (by simp; omega)
    rw [← hol,up_set1] at h1
    have h2:=h1.set (wh+(os ++ [v1]).length) v2 (by simp)
    rw [up_set2] at h2
    rw [← hol]
    simpa [Nat.add_assoc] using h2
   have HV:Hid (∀ lo hi:Nat,x * 2 ^ pt = 4294967296 * hi+lo→Pl.val (os ++ [c+lo])+4294967296 ^ (j+1) * hi = Pl.val (xs.take (j+1)) * 2 ^ pt):=fun lo hi e=>by
    rw [Pl.val_append,Pl.val_one,hol,Pl.val_take_any xs j,← hxx]
    exact up_step (Nat.pow_succ ..) hval rfl e
   have HM:=hide hm
   clear hval hxx hr hxl hc hm
   go_wp2
   go_roundw
   case rel=>
    rw [sh_wrap hx1 (unhide HP) hpt,or_low hcl hpt,or_high hx1 hpt]
    have hm:=unhide HM
    refine ⟨j+1,x * 2 ^ pt / 4294967296,os ++ [c+x * 2 ^ pt % 4294967296],by omega,by go_num,high_lt hx1,by simp [hol],Pl.wf_append how (Pl.wf_one (low_lt hcl hpt)),unhide HV _ _ (Nat.div_add_mod _ _).symm,?_,(hbel.setCell (Nat.le_refl _) _).setCell (Nat.le_refl _) _⟩
    rw [show n - (j+1) = m by omega]
    exact unhide HR _ _
   case measure=>simp [intOf]; omega
  ·have hje:j = n:=by omega
   subst hje
   rw [List.take_of_length_le (by omega)] at hval
   rw [Nat.sub_self] at hr
   have hc32:=pow_lt32 hpt
   have HV:Hid (Pl.val (List.replicate wh 0 ++ (os ++ [c])) = Pl.val xs * 2 ^ k):=by
    rw [Pl.val_append,Pl.val_replicate,List.length_replicate,Nat.zero_add,Pl.val_append,Pl.val_one,hol]
    exact up_end (unhide hk) hval
   have HW:Hid (Pl.Wf (List.replicate wh 0 ++ (os ++ [c]))):=Pl.wf_append (Pl.wf_replicate wh) (Pl.wf_append how (Pl.wf_one (by omega)))
   have HR:=hide hr
   clear hval hr hc hxl
   go_wp2
   go_ret
   exact ⟨List.replicate wh 0 ++ (os ++ [c]),rfl,by simp [hol]; omega,unhide HW,unhide HV,unhide HR,hbel⟩
theorem shiftUp_none (a:Option Addr) (cap wh pt k:Nat) (w:World) (hk:Hid (k = 32 * wh+pt)) (hpt:pt < 32) (hwh:wh≤20000) :
  Calls Tryz.prog 70 #[.slice a 0 cap,.int .i64 (k:Int)] w
   fun e w'=>∃ (out:List Nat),e = .returned (.slice (some ⟨w.heap.size,0,none⟩) (wh+1) (wh+1))∧out.length = wh+1∧Pl.Wf out∧Pl.val out = 0∧Row w' w.heap.size out∧Below w.heap.size w w':=by
 have hmk:=make_limbs ((wh:Int)+1) (wh+1) (by omega) (by omega)
 have hq:(k:Int) / 32 = (wh:Int):=by have:=unhide hk; omega
 have hr:(k:Int) % 32 = (pt:Int):=by have:=unhide hk; omega
 go_enter Tryz.func70,Tryz.ntmps70
 go_wp2
 refine wp_loop_rounds 1 ?_
 rw [rounds_succ]
 go_wp2
 go_ret
 exact ⟨List.replicate (wh+1) 0,rfl,List.length_replicate,Pl.wf_replicate _,Pl.val_replicate _,Row.made _ _,gr_alloc _ _⟩
theorem shiftUp_any (a:Option Addr) (n cap wh pt k:Nat) (xs:List Nat) (w:World) (hn:xs.length = n) (hlen:n≤20000) (hl:Lim w a xs) (hx:Pl.Wf xs) (hk:k = 32 * wh+pt) (hpt:pt < 32) (hwh:wh≤20000) :
  Calls Tryz.prog 70 #[.slice a n cap,.int .i64 (k:Int)] w
   fun e w'=>∃ (out:List Nat),e = .returned (.slice (some ⟨w.heap.size,0,none⟩) (wh+n+1) (wh+n+1))∧out.length = wh+n+1∧Pl.Wf out∧Pl.val out = Pl.val xs * 2 ^ k∧Row w' w.heap.size out∧Below w.heap.size w w':=by
 rcases hl.parts with h0|⟨_,b,off,rfl,hlt,hc⟩
 ·subst h0
  obtain rfl:n = 0:=by rw [← hn]; rfl
  refine (shiftUp_none a cap wh pt k w (hide hk) hpt hwh).mono ?_
  rintro e w' ⟨out,he,h1,h2,h3,h4,h5⟩
  exact ⟨out,he,h1,h2,by rw [h3]; simp [Pl.val],h4,h5⟩
 ·exact shiftUp_some b off cap n wh pt k xs w (hide hn) hlen hx hlt (hide hk) hpt hwh (fun j hj=>hc j (by omega))
theorem or_wrap (A x:Nat) (hx:x < 4294967296):Go.bits .or .u64 (IntKind.u64.wrap ((A:Int) * 4294967296)) (x:Int) = ((A % 4294967296 * 4294967296+x:Nat):Int):=by
 have e:IntKind.u64.wrap ((A:Int) * 4294967296) = ((A % 4294967296:Nat):Int) * 4294967296:=by rw [IntKind.wrap_u64]; omega
 rw [e,or_limb _ _ (by omega) hx]
 omega
theorem down_shr (t k pt:Nat) (h:k % 32 = pt):((t:Int) / 2 ^ (k % 32)) % 4294967296 = ((t / 2 ^ pt % 4294967296:Nat):Int):=by
 rw [h,Int.natCast_emod,Int.natCast_ediv,Int.natCast_pow]
 rfl
theorem down_step {V x h P Q:Nat} (hP:0 < P) (hPQ:4294967296 = P * Q) (hh:h = V % 4294967296) (hx:x < 4294967296):(h * 4294967296+x) / P % 4294967296+4294967296 * (V / P) = (x+4294967296 * V) / P:=by
 have hr:V % P < P:=Nat.mod_lt _ hP
 have hm:h % P = V % P:=by rw [hh,Nat.mod_mod_of_dvd V ⟨Q,hPQ⟩]
 have hv:=Nat.div_add_mod V P
 have hu:=Nat.div_add_mod h P
 rw [hm] at hu
 generalize V % P = r at *
 generalize V / P = v at *
 generalize h / P = u at *
 have hD:(x+4294967296 * r) / P < 4294967296:=by
  rw [Nat.div_lt_iff_lt_mul hP]
  have:4294967296 * (r+1)≤4294967296 * P:=Nat.mul_le_mul_left _ hr
  omega
 have e1:h * 4294967296+x = P * (u * 4294967296)+(x+4294967296 * r):=by
  rw [← hu,Nat.add_mul,Nat.mul_assoc]; omega
 have e2:x+4294967296 * V = P * (4294967296 * v)+(x+4294967296 * r):=by
  rw [← hv,Nat.mul_add,Nat.mul_left_comm]; omega
 rw [e1,e2,Nat.mul_add_div hP,Nat.mul_add_div hP,Nat.mul_comm u,Nat.mul_add_mod,Nat.mod_eq_of_lt hD]
 omega
theorem val_mod (ys:List Nat) (hw:Pl.Wf ys) (j:Nat):ys[j]?.getD 0 = Pl.val (ys.drop j) % 4294967296:=by
 by_cases h:j < ys.length
 ·have:=Pl.wf_at hw j
  rw [Pl.drop_cons ys j h]
  simp only [Pl.val]
  omega
 ·rw [List.drop_eq_nil_of_le (by omega),List.getElem?_eq_none (by omega)]; rfl
theorem set_rep' (j v:Nat) (qs:List Nat):(List.replicate (j+1) 0 ++ qs).set j v = List.replicate j 0 ++ (v :: qs):=by
 rw [List.set_append_left _ _ (by simp),List.replicate_succ',List.set_append_right _ _ (by simp)]
 simp
theorem shiftDown_some (b off cap wh pt k N:Nat) (ys:List Nat) (w:World) (hy:Hid (ys.length = N)) (hN0:0 < N) (hN:N≤40000) (hwh:wh≤40000) (hcap:wh+N≤cap) (hcap2:cap≤9223372036854775807) (hx:Pl.Wf ys) (hlt:b < w.heap.size) (hk:Hid (k = 32 * wh+pt)) (hpt:pt < 32)
  (hc:∀ j,j < N→w.cell? ⟨b,off+wh+j,none⟩ = some (.int .u32 ((ys[j]?.getD 0:Nat):Int))) :
  Calls Tryz.prog 114 #[.slice (some ⟨b,off,none⟩) (wh+N) cap,.int .i64 (k:Int)] w
   fun e w'=>∃ l qs,e = .returned (.slice (some ⟨w.heap.size,0,none⟩) l l)∧l≤N∧Own w' w.heap.size (.slice (some ⟨w.heap.size,0,none⟩) l l) qs∧qs.length = l∧Pl.Wf qs∧Pl.Norm qs∧Pl.val qs = Pl.val ys / 2 ^ pt∧Below w.heap.size w w':=by
 have hmk:=make_limbs ((N:Int)) N rfl (by omega)
 have hq:(k:Int) / 32 = (wh:Int):=by have:=unhide hk; omega
 have hr:(k:Int) % 32 = (pt:Int):=by have:=unhide hk; omega
 have HP:Hid (k % 32 = pt):=by have:=unhide hk; exact hide (by omega)
 go_enter Tryz.func114,Tryz.ntmps114
 go_wp2
 clear hmk hq hr
 go_loopw [9,10] (fun ab i wr=>∃ (j A:Nat) (qs:List Nat),j≤N∧i = .int .i64 ((j:Int) - 1)∧ab = .int .u64 (A:Int)∧A < 18446744073709551616∧A % 4294967296 = ys[j]?.getD 0∧qs.length = N - j∧Pl.Wf qs∧Pl.val qs = Pl.val (ys.drop j) / 2 ^ pt ∧
   Row wr w.heap.size (List.replicate j 0 ++ qs)∧Below w.heap.size w wr) (fun _ i _=>(intOf i+1).toNat)
 case atStart=>
  refine ⟨N,0,[],Nat.le_refl _,rfl,rfl,by omega,?_,by simp,Pl.wf_nil,?_,?_,gr_alloc _ _⟩
  ·rw [List.getElem?_eq_none (by rw [unhide hy]; omega)]; rfl
  ·rw [List.drop_eq_nil_of_le (by rw [unhide hy]; omega)]; simp [Pl.val]
  ·rw [List.append_nil]; exact Row.made _ _
 case round=>
  obtain ⟨j,A,qs,hj,rfl,rfl,hA,hAm,hql,hqw,hv,hrow,hbel⟩:=hrel
  by_cases hj0:j = 0
  ·subst hj0
   have hr2:Row wr w.heap.size qs:=by simpa using hrow
   rw [List.drop_zero] at hv
   have HV:=hide hv
   clear hv hrow hAm hc
   go_wp2_with fail
   refine (trim_at w.heap.size 0 N N qs wr (by omega) (Nat.le_refl _) (by omega) (fun j hj=>by rw [Nat.zero_add]; exact hr2.cell j hj)).mono ?_
   rintro e w1 ⟨rfl,l,hl,h0,h1,rfl⟩
   have HT:=hide (trim_row hr2 (Nat.le_refl _) (by omega) hqw hl h0 h1)
   clear h0 h1
   go_wp2
   go_ret
   obtain ⟨t1,t2,t3,t4,t5⟩:=unhide HT
   exact ⟨l,qs.take l,rfl,by omega,t2,t1,t3,t4,by rw [t5,unhide HV],hbel⟩
  ·obtain ⟨i,rfl⟩:∃ i,j = i+1:=⟨j - 1,by omega⟩
   obtain ⟨x,hxx⟩:∃ x,x = ys[i]?.getD 0:=⟨_,rfl⟩
   have hx1:x < 4294967296:=by rw [hxx]; exact Pl.wf_at hx i
   have hcx:wr.cell? ⟨b,off+wh+i,none⟩ = some (.int .u32 (x:Int)):=by rw [hxx]; exact (hbel.cell (by exact hlt)).trans (hc i (by omega))
   have hcq:=hrow.cell i (by simp; omega)
   have hfq:=hrow.frozen i
   have HV:Hid (Pl.val ((A % 4294967296 * 4294967296+x) / 2 ^ pt % 4294967296 :: qs) = Pl.val (ys.drop i) / 2 ^ pt):=by
    have hyl:=unhide hy
    rw [Pl.drop_cons ys i (by omega),← hxx]
    simp only [Pl.val]
    rw [hv]
    exact down_step (Nat.pow_pos (by decide)) (pow_split hpt) (by rw [hAm]; exact val_mod ys hx (i+1)) hx1
   have HR:=hide (hrow.set i ((A % 4294967296 * 4294967296+x) / 2 ^ pt % 4294967296) (by simp; omega))
   have HX:=hide hxx
   have hA2:A % 4294967296 < 4294967296:=Nat.mod_lt _ (by decide)
   clear hxx hv hrow hc hAm
   go_wp2
   go_roundw
   case rel=>
    rw [or_wrap A x hx1,down_shr _ k pt (unhide HP)]
    refine ⟨i,A % 4294967296 * 4294967296+x,(A % 4294967296 * 4294967296+x) / 2 ^ pt % 4294967296 :: qs,by omega,rfl,rfl,by omega,by rw [← unhide HX]; omega,by simp; omega,Pl.wf_cons (Nat.mod_lt _ (by decide)) hqw,unhide HV,?_,hbel.setCell (Nat.le_refl _) _⟩
    have h:=unhide HR
    rwa [set_rep'] at h
   case measure=>simp [intOf]
theorem shiftDown_nil (a:Option Addr) (n cap wh k:Nat) (w:World) (hk:Hid (wh = k / 32)) (hk2:wh < 9223372036854775808) (hle:n≤wh) :
  Calls Tryz.prog 114 #[.slice a n cap,.int .i64 (k:Int)] w fun e w'=>e = .returned (.slice none 0 0)∧w' = w:=by
 have hq:(k:Int) / 32 = (wh:Int):=by have:=unhide hk; omega
 have hd:(n:Int)≤(wh:Int):=by omega
 clear hle
 go_enter Tryz.func114,Tryz.ntmps114
 go_wp2
 go_ret
 exact ⟨rfl,rfl⟩
theorem shiftDown_any (a:Option Addr) (n cap m k:Nat) (w:World) (h:Num w a n m) (hcap:n≤cap) (hcap2:cap≤9223372036854775807) (hk:k < 9223372036854775808) :
  Calls Tryz.prog 114 #[.slice a n cap,.int .i64 (k:Int)] w fun e w'=>(∃ a' l c,e = .returned (.slice a' l c)∧Mine w' w.heap.size a' l c (m / 2 ^ k))∧Below w.heap.size w w':=by
 obtain ⟨xs,hn,hl,hw,hN,hv,hb⟩:=h
 by_cases hle:n≤k / 32
 ·refine (shiftDown_nil a n cap (k / 32) k w rfl (by omega) hle).mono ?_
  rintro e w' ⟨rfl,rfl⟩
  have h0:m / 2 ^ k = 0:=by
   apply Nat.div_eq_of_lt
   have h1:=Pl.val_lt hw
   rw [hv,hn] at h1
   have h2:(4294967296:Nat) ^ n = 2 ^ (32 * n):=by rw [Nat.pow_mul]
   have h3:=Nat.pow_le_pow_right (show 0 < 2 by decide) (show 32 * n≤k by omega)
   rw [h2] at h1
   exact Nat.lt_of_lt_of_le h1 h3
  rw [h0]
  exact ⟨⟨none,0,0,rfl,[],rfl,Or.inl ⟨rfl,rfl⟩,Pl.wf_nil,Pl.norm_nil,rfl,by omega⟩,gr_refl _⟩
 ·rcases hl.parts with hx|⟨hp,b,off,rfl,hltb,hcx⟩
  ·rw [hx] at hn; simp at hn; omega
  ·obtain ⟨N,rfl⟩:∃ N,n = k / 32+N:=⟨n - k / 32,by omega⟩
   have hyl:(xs.drop (k / 32)).length = N:=by rw [List.length_drop]; omega
   refine (shiftDown_some b off cap (k / 32) (k % 32) k N (xs.drop (k / 32)) w (hide hyl) (by omega) (by omega) (by omega) hcap hcap2 (Pl.wf_drop hw _) hltb (hide (by omega)) (by omega) (fun j hj=>?_)).mono ?_
   ·have:=hcx (k / 32+j) (by omega)
    rw [← Nat.add_assoc] at this
    rw [this,List.getElem?_drop]
   ·rintro e w' ⟨l,qs,rfl,hlN,hO,hql,hqw,hqN,hqv,hb1⟩
    refine ⟨⟨_,l,l,rfl,qs,hql,hO,hqw,hqN,?_,by omega⟩,hb1⟩
    rw [hqv,← hv,Pl.val_split xs (k / 32) (by omega)]
    have e:2 ^ k = 4294967296 ^ (k / 32) * 2 ^ (k % 32):=by
     rw [show (4294967296:Nat) = 2 ^ 32 from rfl,← Nat.pow_mul,← Nat.pow_add]
     congr 1; omega
    have hlo:=Pl.val_lt (Pl.wf_take hw (k / 32))
    rw [List.length_take,Nat.min_eq_left (by omega)] at hlo
    rw [e,← Nat.div_div_eq_div_mul]
    congr 1
    rw [Nat.add_comm,Nat.mul_add_div (Nat.lt_of_le_of_lt (Nat.zero_le _) hlo),Nat.div_eq_of_lt hlo,Nat.add_zero]
theorem word_some (b off cap n:Nat) (xs:List Nat) (w:World) (hn:Hid (xs.length = n)) (hn2:n≤2) (hw:Pl.Wf xs)
  (hc:∀ j,j < n→w.cell? ⟨b,off+j,none⟩ = some (.int .u32 ((xs[j]?.getD 0:Nat):Int))) :
  Calls Tryz.prog 118 #[.slice (some ⟨b,off,none⟩) n cap] w fun e w'=>e = .returned (.int .u64 (Pl.val xs:Int))∧w = w':=by
 go_enter Tryz.func118,Tryz.ntmps118
 go_wp2
 go_loop [3,4] (fun r i=>∃ (k acc:Nat),k≤n∧i = .int .i64 ((k:Int) - 1)∧r = .int .u64 (acc:Int)∧acc = Pl.val (xs.drop k)) (fun _ i=>(intOf i+1).toNat)
 case atStart=>exact ⟨n,0,Nat.le_refl _,rfl,rfl,by rw [List.drop_eq_nil_of_le (by rw [unhide hn]; omega)]; rfl⟩
 case round=>
  obtain ⟨k,acc,hk,rfl,rfl,hv⟩:=hrel
  by_cases hk0:k = 0
  ·subst hk0
   have HV:=hide hv
   clear hv
   go_wp2
   go_ret
   exact ⟨ret_int (by rw [unhide HV,List.drop_zero]),rfl⟩
  ·obtain ⟨j,rfl⟩:∃ j,k = j+1:=⟨k - 1,by omega⟩
   obtain ⟨x,hxx⟩:∃ x,x = xs[j]?.getD 0:=⟨_,rfl⟩
   have hnl:=unhide hn
   have hx1:x < 4294967296:=by rw [hxx]; exact Pl.wf_at hw j
   have hacc:acc < 4294967296:=by
    have h1:=Pl.val_lt (Pl.wf_drop hw (j+1))
    have h2:(xs.drop (j+1)).length≤1:=by rw [List.length_drop]; omega
    have h3:=Pl.pow_le h2
    rw [← hv] at h1
    omega
   have hcx:=hc j (by omega)
   rw [← hxx] at hcx
   obtain ⟨t,ht⟩:∃ t,t = acc * 4294967296+x:=⟨_,rfl⟩
   have hor:Go.bits BinOp.or IntKind.u64 ((acc:Int) * 4294967296) (x:Int) = (t:Int):=by rw [or_limb acc x hacc hx1,ht]; omega
   have HT:Hid (t = Pl.val (xs.drop j)):=by
    rw [Pl.drop_cons xs j (by omega),← hxx]
    show t = x+4294967296 * Pl.val (xs.drop (j+1))
    rw [← hv,ht]; omega
   clear hxx ht hv hnl hc
   go_wp2
   go_round
   case rel=>exact ⟨j,t,by omega,rfl,rfl,unhide HT⟩
   case measure=>simp [intOf]
theorem word_any (a:Option Addr) (n cap m:Nat) (w:World) (h:Num w a n m) (hn2:n≤2) :
  Calls Tryz.prog 118 #[.slice a n cap] w fun e w'=>e = .returned (.int .u64 (m:Int))∧w = w':=by
 obtain ⟨xs,hn,hl,hw,hN,hv,hb⟩:=h
 rcases hl.parts with hx|⟨hp,b,off,rfl,hlt,hc⟩
 ·have hn0:n = 0:=by rw [← hn,hx]; rfl
  have hm0:m = 0:=by rw [← hv,hx]; rfl
  subst hn0 hm0
  clear hn hv hl hw hN hb hx
  go_enter Tryz.func118,Tryz.ntmps118
  go_wp2
  refine wp_loop_rounds 1 ?_
  rw [rounds_succ]
  go_wp2
  go_ret
  exact ⟨rfl,rfl⟩
 ·rw [← hv]
  exact word_some b off cap n xs w (hide hn) hn2 hw (fun j hj=>hc j (by omega))
theorem low_small (a:Option Addr) (n cap m:Nat) (w:World) (h:Num w a n m) (hn2:n≤2) :
  Calls Tryz.prog 99 #[.agg #[.slice a n cap]] w fun e w'=>e = .returned (.tuple #[.int .u64 (m:Int),.bool true])∧Below w.heap.size w w':=by
 have H:=hide h
 obtain ⟨xs,hn,hl,hw,hN,hv,hb⟩:=h
 have hck:=check_any a cap xs (w.alloc (.cells #[.slice a n cap] 42)) (by omega) (hl.alloc _)
 rw [hn,chk_ok (by omega) hN] at hck
 have HK:=hide hck
 clear hck hl hn hv
 go_enter Tryz.func99,Tryz.ntmps99
 go_wp2_with fail
 refine (unhide HK).mono ?_
 rintro e w1 ⟨rfl,hb1⟩
 obtain ⟨hc1,hf1⟩:=bcell hb1
 go_wp2_with fail
 refine (word_any a n cap m w1 (((unhide H).alloc _).kept hb1) hn2).mono ?_
 rintro e w2 ⟨rfl,rfl⟩
 go_wp2
 go_ret2
 exact ⟨rfl,gr_trans (gr_alloc _ _) hb1⟩
theorem div_step {V Q r x d t:Nat} (h:V = Q * d+r) (ht:t = r * 4294967296+x):x+4294967296 * V = (t / d+4294967296 * Q) * d+t % d:=by
 have e:=Nat.div_add_mod t d
 have e2:4294967296 * V = 4294967296 * (Q * d)+r * 4294967296:=by rw [h,Nat.mul_add,Nat.mul_comm r]
 rw [Nat.add_mul,Nat.mul_assoc,e2,Nat.mul_comm (t / d) d]
 omega
theorem div_digit {r x d t:Nat} (hr:r < d) (hx:x < 4294967296) (ht:t = r * 4294967296+x):t / d < 4294967296:=by
 apply Nat.div_lt_of_lt_mul
 have:(r+1) * 4294967296≤d * 4294967296:=Nat.mul_le_mul_right _ hr
 omega
theorem set_rep (j v:Nat) (qs post:List Nat):(List.replicate (j+1) 0 ++ qs ++ post).set j v = List.replicate j 0 ++ (v :: qs) ++ post:=by
 rw [List.append_assoc,List.set_append_left _ _ (by simp),List.replicate_succ',List.set_append_right _ _ (by simp)]
 simp
theorem divideByLimb_any (b off cap d n:Nat) (xs:List Nat) (w:World) (hn:Hid (xs.length = n)) (hlen:n≤16384) (hd:0 < d) (hd2:d < 4294967296) (hx:Pl.Wf xs) (hlt:b < w.heap.size)
  (hc:∀ j,j < n→w.cell? ⟨b,off+j,none⟩ = some (.int .u32 ((xs[j]?.getD 0:Nat):Int))) :
  Calls Tryz.prog 126 #[.slice (some ⟨b,off,none⟩) n cap,.int .u32 (d:Int)] w
   fun e w'=>∃ (k:Nat) (qs:List Nat),e = .returned (.tuple #[.slice (some ⟨w.heap.size,0,none⟩) k k,.int .u32 ((Pl.val xs % d:Nat):Int)])∧k≤n∧qs.length = k∧Own w' w.heap.size (.slice (some ⟨w.heap.size,0,none⟩) k k) qs∧Pl.Wf qs∧Pl.Norm qs∧Pl.val qs = Pl.val xs / d∧Below w.heap.size w w':=by
 have hmk:=make_limbs (n:Int) n rfl (by omega)
 go_enter Tryz.func126,Tryz.ntmps126
 go_wp2
 clear hmk
 go_loopw [6,7] (fun r i wr=>∃ (k rr:Nat) (qs:List Nat),k≤n∧i = .int .i64 ((k:Int) - 1)∧r = .int .u64 (rr:Int)∧rr < d∧qs.length = n - k∧Pl.Wf qs∧Pl.val (xs.drop k) = Pl.val qs * d+rr ∧
   Row wr w.heap.size (List.replicate k 0 ++ qs)∧Below w.heap.size w wr) (fun _ i _=>(intOf i+1).toNat)
 case atStart=>
  refine ⟨n,0,[],Nat.le_refl _,rfl,rfl,hd,by simp,Pl.wf_nil,?_,?_,gr_alloc _ _⟩
  ·rw [List.drop_eq_nil_of_le (by rw [unhide hn]; omega)]; simp [Pl.val]
  ·rw [List.append_nil]; exact Row.made _ _
 case round=>
  obtain ⟨k,rr,qs,hk,rfl,rfl,hrd,hql,hqw,hv,hrow,hbel⟩:=hrel
  by_cases hk0:k = 0
  ·subst hk0
   have hv2:=hv
   rw [List.drop_zero] at hv2
   have hr2:Row wr w.heap.size qs:=by simpa using hrow
   have hm:Pl.val xs % d = rr:=by rw [hv2,Nat.mul_comm,Nat.mul_add_mod]; exact Nat.mod_eq_of_lt hrd
   have hq:Pl.val xs / d = Pl.val qs:=by rw [hv2,Nat.mul_comm,Nat.mul_add_div hd,Nat.div_eq_of_lt hrd,Nat.add_zero]
   have HM:=hide hm
   have HQ:=hide hq
   clear hm hq hv hv2 hrow
   go_wp2_with fail
   refine (trim_at w.heap.size 0 n n qs wr (by omega) (Nat.le_refl _) (by omega) (fun j hj=>by rw [Nat.zero_add]; exact hr2.cell j hj)).mono ?_
   rintro e w1 ⟨rfl,l,hl,h0,h1,rfl⟩
   have HT:=hide (trim_row hr2 (Nat.le_refl _) (by omega) hqw hl h0 h1)
   clear h0 h1
   go_wp2
   go_ret2
   obtain ⟨t1,t2,t3,t4,t5⟩:=unhide HT
   refine ⟨l,qs.take l,?_,by omega,t1,t2,t3,t4,by rw [t5,unhide HQ],hbel⟩
   rw [unhide HM]
   rfl
  ·obtain ⟨j,rfl⟩:∃ j,k = j+1:=⟨k - 1,by omega⟩
   obtain ⟨x,hxx⟩:∃ x,x = xs[j]?.getD 0:=⟨_,rfl⟩
   obtain ⟨t,ht⟩:∃ t,t = rr * 4294967296+x:=⟨_,rfl⟩
   have hx1:x < 4294967296:=by rw [hxx]; exact Pl.wf_at hx j
   have hcx:wr.cell? ⟨b,off+j,none⟩ = some (.int .u32 (x:Int)):=by rw [hxx]; exact (hbel.cell (by exact hlt)).trans (hc j (by omega))
   have hor:Go.bits BinOp.or IntKind.u64 ((rr:Int) * 4294967296) (x:Int) = (t:Int):=by rw [or_limb rr x (by omega) hx1,ht]; omega
   have hcq:=hrow.cell j (by simp; omega)
   have hfq:=hrow.frozen j
   have hq1:t / d < 4294967296:=div_digit hrd hx1 ht
   have hqe:(t:Int) / (d:Int) = ((t / d:Nat):Int):=(Int.natCast_ediv t d).symm
   have hme:(t:Int) % (d:Int) = ((t % d:Nat):Int):=(Int.natCast_emod t d).symm
   have hq1i:(t:Int) / (d:Int) < 4294967296:=by rw [hqe]; omega
   have hq0i:(0:Int)≤(t:Int) / (d:Int):=by rw [hqe]; exact Int.natCast_nonneg _
   have HQE:=hide hqe
   have HME:=hide hme
   have hm1:t % d < d:=Nat.mod_lt _ hd
   have hnl:=unhide hn
   have HV:Hid (Pl.val (xs.drop j) = (t / d+4294967296 * Pl.val qs) * d+t % d):=by
    rw [Pl.drop_cons xs j (by omega),← hxx]; exact div_step hv ht
   have HR:=hide (hrow.set j (t / d) (by simp; omega))
   clear hxx ht hv hrow hnl hc hqe hme
   go_wp2
   go_roundw
   case rel=>
    rw [unhide HQE,unhide HME]
    refine ⟨j,t % d,t / d :: qs,by omega,rfl,rfl,hm1,by simp; omega,Pl.wf_cons hq1 hqw,unhide HV,?_,hbel.setCell (Nat.le_refl _) _⟩
    have h:=unhide HR
    have e:=set_rep j (t / d) qs []
    simp only [List.append_nil] at e
    rwa [e] at h
   case measure=>simp [intOf]
theorem own_parts {w:World} {base n:Nat} {v:Value} {xs:List Nat} (hn:xs.length = n) (hp:0 < n) (h:w.ownsRow base 74 1 v n (xs.map (fun z:Nat=>Value.int .u32 (z:Int)))) :
  ∃ g c,v = .slice (some ⟨g,0,none⟩) n c∧base≤g∧n≤c∧c≤9223372036854775807∧Row w g xs∧Own w base (.slice (some ⟨g,0,none⟩) n c) xs:=by
 obtain ⟨_,h|⟨g,c,cur,hv,hg,hh,h1,h2,h3,h4⟩⟩:=h
 ·omega
 ·have hcur:cur = lc xs ++ (cur.toList.drop n).toArray:=by
   apply Array.toList_inj.1
   rw [Array.toList_append]
   simp only [lc]
   rw [← h4,Nat.mul_one,List.take_append_drop]
  have hrow:Row w g xs:=⟨(cur.toList.drop n).toArray,by rw [← hcur]; exact hh⟩
  have hc:c≤9223372036854775807:=by unfold maxLen at h2; exact h2
  refine ⟨g,c,hv,hg,h1,hc,hrow,Or.inr ⟨g,c,cur,by rw [hn],hg,hh,by omega,by omega,hc,fun j hj=>?_⟩⟩
  rw [hcur]; exact lc_at' xs _ j hj
theorem clone_some (b off cap n:Nat) (xs:List Nat) (w:World) (hn:Hid (xs.length = n)) (hp:0 < n) (hlen:n≤1073741824) (hlt:b < w.heap.size)
  (hc:∀ j,j < n→w.cell? ⟨b,off+j,none⟩ = some (.int .u32 ((xs[j]?.getD 0:Nat):Int))) :
  Calls Tryz.prog 125 #[.slice (some ⟨b,off,none⟩) n cap] w
   fun e w'=>∃ g c:Nat,e = .returned (.slice (some ⟨g,0,none⟩) n c)∧w.heap.size≤g∧n≤c∧c≤9223372036854775807∧Row w' g xs∧Own w' w.heap.size (.slice (some ⟨g,0,none⟩) n c) xs∧Below w.heap.size w w':=by
 have hni:=fun (w:World)=>Lib.run_eql_slice_nil (P:=Tryz.prog) w 40 74 (some ⟨b,off,none⟩) n cap 0 0 Tryz.under_limbs
 obtain ⟨i0,hi,hz0,hz1,hz2⟩:=info_parts Tryz.info_limb
 go_enter Tryz.func125,Tryz.ntmps125
 go_wp2_with (at_builtin; refine wpList_append_own _ rfl (.tmp 5) (.tmp 6) 40 rfl w.heap.size 74 i0 (.int .u32 0) 1 4 Tryz.under_limbs hi hz0 hz1 hz2 rfl (by decide) _ 0 [] rfl (World.ownsRow_made w #[] 0 (Nat.le_refl _) (by decide) rfl) ⟨b,off,none⟩ n cap (xs.map (fun z:Nat=>Value.int .u32 (z:Int))) rfl ?hl ?hnews ?h1 ?h63 ?hbytes ?hbase ?_)
 case hl=>have:=unhide hn; simp; omega
 case hnews=>
  intro j u hj
  have hl:=unhide hn
  have hjn:j < xs.length:=by
   have:=(List.getElem?_eq_some_iff.1 hj).1
   simpa using this
  have hu:u = .int .u32 ((xs[j]?.getD 0:Nat):Int):=by
   rw [List.getElem?_map,List.getElem?_eq_getElem hjn] at hj
   simp at hj
   rw [← hj]
   simp [hjn]
  rw [hu,Addr.add_lit,((gr_alloc w (.cells #[] 74)).cell (by exact hlt))]
  exact hc j (by omega)
 case h1=>
  intro u hu
  obtain ⟨z,_,rfl⟩:=List.mem_map.1 hu
  rfl
 case h63=>unfold maxLen; omega
 case hbytes=>omega
 case hbase=>simp
 intro v' w1 hown hgrow hnil
 obtain ⟨g,c,hv,hg,hnc,hc9,hrow,hO⟩:=own_parts (unhide hn) hp hown
 have hbl:Below w.heap.size w w1:=(gr_alloc w (.cells #[] 74)).grown hgrow (by simp) (fun k hk=>by simp [Value.ownBlock] at hk; omega)
 rw [hv]
 clear hown hgrow hnil hc hni
 go_wp2
 go_ret
 exact ⟨g,c,rfl,hg,hnc,hc9,hrow,hO,hbl⟩
theorem clone_nil (cap:Nat) (w:World) :
  Calls Tryz.prog 125 #[.slice none 0 cap] w fun e w'=>e = .returned (.slice none 0 0)∧w' = w:=by
 have hni:=fun (w:World)=>Lib.run_eql_slice_nil (P:=Tryz.prog) w 40 74 none 0 cap 0 0 Tryz.under_limbs
 go_enter Tryz.func125,Tryz.ntmps125
 go_wp2
 go_ret
 exact ⟨rfl,rfl⟩
theorem clone_empty (p:Addr) (cap:Nat) (w:World) :
  Calls Tryz.prog 125 #[.slice (some p) 0 cap] w fun e w'=>(∃ g c,e = .returned (.slice (some ⟨g,0,none⟩) 0 c)∧Own w' w.heap.size (.slice (some ⟨g,0,none⟩) 0 c) [])∧Below w.heap.size w w':=by
 have hni:=fun (w:World)=>Lib.run_eql_slice_nil (P:=Tryz.prog) w 40 74 (some p) 0 cap 0 0 Tryz.under_limbs
 go_enter Tryz.func125,Tryz.ntmps125
 go_wp2
 go_ret
 exact ⟨⟨w.heap.size,0,rfl,Or.inr ⟨w.heap.size,0,#[],rfl,Nat.le_refl _,heap_alloc_new w _,Nat.le_refl _,Nat.le_refl _,by omega,fun j hj=>by simp at hj⟩⟩,gr_alloc _ _⟩
theorem clone_any (a:Option Addr) (n cap m:Nat) (w:World) (h:Num w a n m) :
  Calls Tryz.prog 125 #[.slice a n cap] w fun e w'=>(∃ a' c,e = .returned (.slice a' n c)∧Mine w' w.heap.size a' n c m)∧Below w.heap.size w w':=by
 obtain ⟨xs,hn,hl,hw,hN,hv,hb⟩:=h
 rcases hl.parts with hx|⟨hp,b,off,rfl,hlt,hc⟩
 ·subst hx
  have hn0:n = 0:=by rw [← hn]; rfl
  subst hn0
  cases a with
  | none=>
   refine (clone_nil cap w).mono ?_
   rintro e w1 ⟨rfl,rfl⟩
   exact ⟨⟨none,0,rfl,[],rfl,Or.inl ⟨rfl,rfl⟩,hw,hN,hv,hb⟩,gr_refl _⟩
  | some p=>
   refine (clone_empty p cap w).mono ?_
   rintro e w1 ⟨⟨g,c,rfl,hO⟩,hb1⟩
   exact ⟨⟨_,c,rfl,[],rfl,hO,hw,hN,hv,hb⟩,hb1⟩
 ·refine (clone_some b off cap n xs w (hide hn) (by omega) (by omega) hlt (fun j hj=>hc j (by omega))).mono ?_
  rintro e w1 ⟨g,c,rfl,_,_,_,_,hO,hb1⟩
  exact ⟨⟨_,c,rfl,xs,hn,hO,hw,hN,hv,hb⟩,hb1⟩
theorem tt_step {o p c d f s B y t hi lo r bo:Nat} (B':Nat) (hB:B' = B * 4294967296) (h:o+f * p = d+B * c) (ht:t = c+s * f) (e:t = 4294967296 * hi+lo) (hr:r+lo = y+4294967296 * bo) :
  (o+B * r)+f * (p+B * s) = (d+B * y)+B' * (hi+bo):=by
 subst hB
 have e1:B * t = B * 4294967296 * hi+B * lo:=by rw [e,Nat.mul_add,Nat.mul_assoc]
 have e2:B * t = B * c+f * (B * s):=by rw [ht,Nat.mul_add]; congr 1; rw [Nat.mul_comm s f,Nat.mul_left_comm]
 have e3:B * (r+lo) = B * (y+4294967296 * bo):=by rw [hr]
 rw [Nat.mul_add,Nat.mul_add,← Nat.mul_assoc] at e3
 rw [Nat.mul_add,Nat.mul_add]
 omega
theorem tt_bound {c f s hi lo:Nat} (hc:c≤f) (hs:s < 4294967296) (e:c+s * f = 4294967296 * hi+lo) (hl:lo < 4294967296):hi≤f∧(hi = f→lo = 0):=by
 have h1:s * f≤4294967295 * f:=Nat.mul_le_mul_right _ (by omega)
 constructor <;> omega
theorem tt_end {o v d c B B' r y bo:Nat} (hB:B' = B * 4294967296) (h:o+v = d+B * c) (e:r+c = y+4294967296 * bo):o+B * r+v = d+B * y+B' * bo:=by
 subst hB
 have e3:B * (r+c) = B * (y+4294967296 * bo):=by rw [e]
 rw [Nat.mul_add,Nat.mul_add,← Nat.mul_assoc] at e3
 omega
def TakeTo (B:Nat) (pre post d xs:List Nat) (f n:Nat) (w:World) (e:Ending) (w':World):Prop:=
 ∃ (out:List Nat) (bo:Bool),e = .returned (.bool bo)∧out.length = n+1∧Pl.Wf out∧Pl.val out+f * Pl.val xs = Pl.val d+4294967296 ^ (n+1) * bo.toNat∧Row w' B (pre ++ out ++ post)∧Only B w w'
theorem tt_e2 (y t:Nat) (hy:y < 4294967296) (h:(y:Int) < (t:Int) % 4294967296):((y:Int) - (t:Int)) % 4294967296 = ((y+4294967296 - t % 4294967296:Nat):Int):=by omega
theorem tt_e3 (y c:Nat) (hc:c < 4294967296) (h:(y:Int) < (c:Int)):((y:Int) - (c:Int)) % 4294967296 = ((y+4294967296 - c:Nat):Int):=by omega
theorem takeTimes_any (B p n b off cap cap' f:Nat) (pre d post xs:List Nat) (w:World) (hp:Hid (pre.length = p)) (hd:Hid (d.length = n+1)) (hx:Hid (xs.length = n)) (hlen:n≤20000) (hne:b≠B) (hf:f < 4294967296)
  (wd:Pl.Wf d) (wx:Pl.Wf xs) (hrow:Row w B (pre ++ d ++ post))
  (hc:∀ j,j < n→w.cell? ⟨b,off+j,none⟩ = some (.int .u32 ((xs[j]?.getD 0:Nat):Int))) :
  Calls Tryz.prog 140 #[.slice (some ⟨B,p,none⟩) (n+1) cap,.slice (some ⟨b,off,none⟩) n cap',.int .u32 (f:Int)] w
   (TakeTo B pre post d xs f n w):=by
 go_enter Tryz.func140,Tryz.ntmps140
 go_wp2
 go_loopw [7,15] (fun t i wr=>∃ (k c:Nat) (out:List Nat),k≤n∧i = .int .i64 k∧t = .int .u64 (c:Int)∧c≤f∧out.length = k∧Pl.Wf out ∧
   Pl.val out+f * Pl.val (xs.take k) = Pl.val (d.take k)+4294967296 ^ k * c∧Row wr B (pre ++ (out ++ d.drop k) ++ post)∧Only B w wr) (fun _ i _=>n - (intOf i).toNat)
 case atStart=>exact ⟨0,0,[],Nat.zero_le _,rfl,rfl,by omega,rfl,Pl.wf_nil,by simp [Pl.val],by simpa using hrow,Only.refl _ _⟩
 case round=>
  obtain ⟨k,c,out,hk,rfl,rfl,hcl,hol,how,hval,hr,honly⟩:=hrel
  have HVal:=hide hval
  clear hval
  have hpl:=unhide hp
  have hdl:=unhide hd
  have hxl:=unhide hx
  obtain ⟨y,hy⟩:∃ y,y = d[k]?.getD 0:=⟨_,rfl⟩
  have hy1:y < 4294967296:=by rw [hy]; exact Pl.wf_at wd k
  have hcd:wr.cell? ⟨B,p+k,none⟩ = some (.int .u32 (y:Int)):=by
   rw [hr.cell (p+k) (by simp; omega),← hpl,at_mid _ _ _ _ _ hol (by omega),hy]
  have hfz:wr.frozen? ⟨B,p+k,none⟩ = false:=hr.frozen _
  have HR:Hid (∀ v,Row (wr.setCell ⟨B,p+k,none⟩ (.int .u32 ((v:Nat):Int))) B (pre ++ ((out ++ [v]) ++ d.drop (k+1)) ++ post)):=fun v=>by
   have:=hr.set (p+k) v (by simp; omega)
   rw [← hpl] at this ⊢
   rwa [set_mid _ _ _ _ _ _ hol (by omega)] at this
  by_cases hlt:k < n
  ·obtain ⟨x,hxx⟩:∃ x,x = xs[k]?.getD 0:=⟨_,rfl⟩
   have hx1:x < 4294967296:=by rw [hxx]; exact Pl.wf_at wx k
   have hcx:wr.cell? ⟨b,off+k,none⟩ = some (.int .u32 (x:Int)):=by rw [hxx]; exact (honly.cell (by exact hne)).trans (hc k hlt)
   obtain ⟨t,ht⟩:∃ t,t = c+x * f:=⟨_,rfl⟩
   have hm0:=mul_lo x f
   have hm1:=mul_hi hx1 hf
   have hti:(c:Int)+(x:Int) * (f:Int) = (t:Int):=by rw [ht]; push_cast; rfl
   have ht1:t < 18446744073709551616:=by omega
   have hb2:=tt_bound hcl hx1 (by rw [← ht]; exact (Nat.div_add_mod t 4294967296).symm) (Nat.mod_lt _ (by decide))
   have HV:Hid (∀ r bo,r+t % 4294967296 = y+4294967296 * bo→Pl.val (out ++ [r])+f * Pl.val (xs.take (k+1)) = Pl.val (d.take (k+1))+4294967296 ^ (k+1) * (t / 4294967296+bo)):=fun r bo e=>by
    rw [Pl.val_append,Pl.val_one,hol,Pl.val_take_any d k,Pl.val_take_any xs k,← hy,← hxx]
    exact tt_step _ (Nat.pow_succ ..) (unhide HVal) ht (Nat.div_add_mod t 4294967296).symm e
   clear HVal hy hxx hr hpl hdl hxl hc ht
   by_cases hbo:y < t % 4294967296
   ·have hbi:(y:Int) < (t:Int) % 4294967296:=by omega
    clear hbo
    go_wp2
    go_roundw
    case rel=>
     have e1:(t:Int) / 4294967296+1 = ((t / 4294967296+1:Nat):Int):=by omega
     have e2:=tt_e2 y t hy1 hbi
     rw [e1,e2]
     exact ⟨k+1,t / 4294967296+1,out ++ [y+4294967296 - t % 4294967296],by omega,by go_num,rfl,by omega,by simp [hol],Pl.wf_append how (Pl.wf_one (by omega)),unhide HV _ 1 (by omega),unhide HR _,honly.setCell _ _⟩
    case measure=>simp [intOf]; omega
   ·have hbi:(t:Int) % 4294967296≤(y:Int):=by omega
    clear hbo
    go_wp2
    go_roundw
    case rel=>
     have e1:(t:Int) / 4294967296 = ((t / 4294967296:Nat):Int):=by omega
     have e2:(y:Int) - (t:Int) % 4294967296 = ((y - t % 4294967296:Nat):Int):=by omega
     rw [e1,e2]
     exact ⟨k+1,t / 4294967296,out ++ [y - t % 4294967296],by omega,by go_num,rfl,hb2.1,by simp [hol],Pl.wf_append how (Pl.wf_one (by omega)),unhide HV _ 0 (by omega),unhide HR _,honly.setCell _ _⟩
    case measure=>simp [intOf]; omega
  ·have hke:k = n:=by omega
   subst hke
   have hxt:xs.take k = xs:=List.take_of_length_le (by omega)
   have hdt:d.take (k+1) = d:=List.take_of_length_le (by omega)
   have HV:Hid (∀ r (bo:Bool),r+c = y+4294967296 * bo.toNat→Pl.val (out ++ [r])+f * Pl.val xs = Pl.val d+4294967296 ^ (k+1) * bo.toNat):=fun r bo e=>by
    have hd2:Pl.val d = Pl.val (d.take k)+4294967296 ^ k * y:=by
     have:=Pl.val_take_any d k
     rw [hdt,← hy] at this
     exact this
    rw [Pl.val_append,Pl.val_one,hol,hd2]
    have hval:=unhide HVal
    rw [hxt] at hval
    exact tt_end (Nat.pow_succ ..) hval e
   have HD:Hid (d.drop (k+1) = []):=List.drop_eq_nil_of_le (by omega)
   clear HVal hy hr hpl hdl hxl hc hxt hdt
   by_cases hbo:y < c
   ·have hbi:(y:Int) < (c:Int):=by omega
    clear hbo
    go_wp2
    go_ret
    have e2:=tt_e3 y c (by omega) hbi
    rw [e2]
    have hR:=unhide HR (y+4294967296 - c)
    rw [unhide HD,List.append_nil] at hR
    exact ⟨out ++ [y+4294967296 - c],true,rfl,by simp [hol],Pl.wf_append how (Pl.wf_one (by omega)),unhide HV _ true (by simp; omega),hR,honly.setCell _ _⟩
   ·have hbi:¬ (y:Int) < (c:Int):=by omega
    clear hbo
    go_wp2
    go_ret
    have e2:(y:Int) - (c:Int) = ((y - c:Nat):Int):=by omega
    rw [e2]
    have hR:=unhide HR (y - c)
    rw [unhide HD,List.append_nil] at hR
    exact ⟨out ++ [y - c],false,rfl,by simp [hol],Pl.wf_append how (Pl.wf_one (by omega)),unhide HV _ false (by simp; omega),hR,honly.setCell _ _⟩
theorem sta_row {cs:Pq→Array Value} {t:TypeId} {g:Pq→World→Prop} (st:∀ q,Sta (g q)) (q:Pq):StaB (some q.M) (fun W=>W.heap[q.M]? = some (.cells (cs q) t (0,0))∧g q W):=
 ⟨fun W W' hb h=>⟨by rw [hb.block _ (block_lt h.1)]; exact h.1,(st q).kept W W' hb h.2⟩,fun W b cs' t' j u h1 h2 h3 h4 h=>⟨by rw [heap_setCell_other W _ q.M u (Ne.symm (h4 _ rfl))]; exact h.1,(st q).put W b cs' t' j u h1 h2 h3 h.2⟩⟩
def cX (cs:Pq→Array Value) (t:TypeId) (g:Pq→World→Prop) (st:∀ q,Sta (g q)):Cf:=⟨fun q=>.pointer (some ⟨q.M,0,none⟩),fun q W=>W.heap[q.M]? = some (.cells (cs q) t (0,0))∧g q W,fun q=>some q.M,sta_row st⟩
def cPt (b:Bool) (t:TypeId) (m:Nat):Cf:=cX (fun q=>#[.bool b,.slice q.A q.N q.C]) t (fun q W=>Mine W 0 q.A q.N q.C m) (fun _=>sta_mine _ _ _ _ _)
theorem okX {P:Program} {ops:Array Oper} {L:Ks} {E:List Bx} {S:List Spo} {G:World→Prop} {w0:Fr0} {base:Nat} {p:Pqs} {i:Nat} {r:List Spo} {s:Option Nat} {cs:Pq→Array Value} {ty:TypeId} {g:Pq→World→Prop} {st:∀ q,Sta (g q)} {fn:FuncId} {args:Array Value}
  (hc:∀ W,Cx ops E S G w0 base p i W→Calls P fn args W fun en W'=>∃ q:Pq,en = .returned (.pointer (some ⟨q.M,0,none⟩))∧Below W.heap.size W W'∧W.heap.size≤q.M∧W'.heap[q.M]? = some (.cells (cs q) ty (0,0))∧g q W') (h:opRun P ops L (puts p 0 S) i 0 [] = some (s,true,some (.enter fn args,[]))) (t:Oks P ops L E S G w0 base p (i+1) r):Oks P ops L E S G w0 base p i (.c s (cX cs ty g st) :: r):=
 ⟨⟨fn,args,h,fun W cx=>(hc W cx).mono fun _ _ ⟨q,h1,h2,h3,h4,h5⟩=>⟨q,h1,h2,⟨h4,h5⟩,fun b hb=>by
  cases hb
  exact ⟨h3,block_lt h4⟩⟩⟩,t⟩
theorem ok_m {P:Program} {ops:Array Oper} {L:Ks} {E:List Bx} {S:List Spo} {G:World→Prop} {w0:Fr0} {base:Nat} {p:Pqs} {i:Nat} {r:List Spo} {s:Option Nat} {b:Bool} {ty:TypeId} {m:Nat} {fn:FuncId} {args:Array Value}
  (hc:∀ W,Cx ops E S G w0 base p i W→Calls P fn args W fun en W'=>∃ q a n c,en = .returned (.pointer (some ⟨q,0,none⟩))∧Below W.heap.size W W'∧W.heap.size≤q∧W'.heap[q]? = some (.cells #[.bool b,.slice a n c] ty (0,0))∧Mine W' 0 a n c m) (h:opRun P ops L (puts p 0 S) i 0 [] = some (s,true,some (.enter fn args,[]))) (t:Oks P ops L E S G w0 base p (i+1) r):Oks P ops L E S G w0 base p i (.c s (cPt b ty m) :: r):=
 okX (fun W cx=>(hc W cx).mono fun _ _ ⟨q,a,n,c,h1,h2,h3,h4,h5⟩=>⟨{ pq0 with M:=q,A:=a,N:=n,C:=c },h1,h2,h3,h4,h5⟩) h t
def Src (S:List Spo) (p:Pqs) (base:Nat) (ks:List Nat) (E1:List Bx):Prop:=∀ x,x∈E1→x.b < base∨(∃ k s cs t,S[k]? = some (.n s cs t)∧x.b = (p k).N)∨∃ k y f,k∈ks∧S[k]? = some y∧y.fac = some f∧f.bk (p k) = some x.b
structure FbM (w0:Fr0) (W:World) (E1:List Bx) (S:List Spo) (p:Pqs) (base:Nat) (ks:List Nat):Prop where
 fb:Fb w0 W E1
 src:Src S p base ks E1
 sz:w0.size≤base
theorem SymF.fm {E:List Bx} {S:List Spo} {G:World→Prop} {w0:Fr0} {W0:World} {p:Pqs} {W:World} (hS:Fb w0 W0 E) (h:SymF E S G w0 W0.heap.size p W) (js:List Nat) (E1:List Bx) (e:finBx E S p js = E1) (nd:nodupB js = true):FbM w0 W E1 S p W0.heap.size []:=by
 refine ⟨SymF.fb hS h js E1 e nd,fun x hx=>?_,w0.sized hS.fr⟩
 subst e
 obtain ⟨j,bx,bo,-,hb,rfl⟩:=finBx_mem hx
 rcases boxOf_cases hb with ⟨q1,q2,q3⟩|⟨q1,s1,cs1,t1,q2,q3,q4⟩
 ·exact Or.inl (block_lt (hS.bx bx (List.mem_of_getElem? q2)))
 ·exact Or.inr (Or.inl ⟨_,_,_,_,q2,by rw [q3]⟩)
theorem FbM.add {E E1:List Bx} {S:List Spo} {G:World→Prop} {w0:Fr0} {base:Nat} {p:Pqs} {W:World} {ks:List Nat} (hM:FbM w0 W E1 S p base ks) (h:SymF E S G w0 base p W) (k:Nat) (s:Option Nat) (f:Cf) (hk:S[k]? = some (.c s f)) (hn:ks.all (· != k) = true) (b:Nat) (cs:Array Value) (t:TypeId) (hf:f.bk (p k) = some b) (hc:W.heap[b]? = some (.cells cs t (0,0))):FbM w0 W (⟨b,cs,t,true⟩ :: E1) S p base (k :: ks):=by
 obtain ⟨a1,a2,a3,a4⟩:=h.nk k _ f b hk rfl trivial hf
 have hap:∀ x,x∈E1→b≠x.b:=fun x hx=>by
  rcases hM.src x hx with h1|⟨k',s',cs',t',h1,h2⟩|⟨k',y,f',h1,h2,h3,h4⟩
  ·omega
  ·rw [h2]; exact Ne.symm (a3 k' s' cs' t' h1 trivial)
  ·have hne:k'≠k:=by
    have:=List.all_eq_true.1 hn k' h1
    simpa using this
   intro e
   exact a4 k' y f' hne h2 h3 trivial (by rw [h4,e])
 refine ⟨⟨fun x hx=>?_,hM.fb.fr,⟨fun _=>w0.new (Nat.le_trans hM.sz a1),hM.fb.low⟩,⟨?_,hM.fb.ne⟩⟩,fun x hx=>?_,hM.sz⟩
 ·rcases List.mem_cons.1 hx with rfl|hx
  ·exact hc
  ·exact hM.fb.bx x hx
 ·revert hap
  generalize E1 = l
  intro hap
  induction l with
  | nil=>trivial
  | cons y l ih=>exact ⟨fun _=>hap y (List.mem_cons_self ..),ih fun z hz=>hap z (List.mem_cons_of_mem _ hz)⟩
 ·rcases List.mem_cons.1 hx with rfl|hx
  ·exact Or.inr (Or.inr ⟨k,_,f,List.mem_cons_self ..,hk,rfl,hf⟩)
  ·rcases hM.src x hx with h1|h1|⟨k',y,f',h1,h2⟩
   ·exact Or.inl h1
   ·exact Or.inr (Or.inl h1)
   ·exact Or.inr (Or.inr ⟨k',y,f',List.mem_cons_of_mem _ h1,h2⟩)
def bc (ds:List Nat):Array Value:=(ds.map (fun z:Nat=>Value.int .u8 (z:Int))).toArray
def BRow (w:World) (B:Nat) (ds:List Nat):Prop:=w.heap[B]? = some (.cells (bc ds) 5 (0,0))
theorem size_bc (zs:List Nat):(bc zs).size = zs.length:=by simp [bc]
theorem bc_at (zs:List Nat) (j:Nat) (h:j < zs.length):(bc zs)[j]? = some (.int .u8 ((zs[j]?.getD 0:Nat):Int)):=by simp [bc,h]
theorem bc_set (zs:List Nat) (j v:Nat):(bc zs).setIfInBounds j (.int .u8 (v:Int)) = bc (zs.set j v):=by
 simp [bc,List.setIfInBounds_toArray,List.map_set]
theorem BRow.cell {w:World} {B:Nat} {zs:List Nat} (h:BRow w B zs) (j:Nat) (hj:j < zs.length):w.cell? ⟨B,j,none⟩ = some (.int .u8 ((zs[j]?.getD 0:Nat):Int)):=by
 rw [cell_of_row w B j _ _ _ h,bc_at zs j hj]
theorem BRow.frozen {w:World} {B:Nat} {zs:List Nat} (h:BRow w B zs) (j:Nat):w.frozen? ⟨B,j,none⟩ = false:=frozen_of_row w B j _ _ h
theorem BRow.set {w:World} {B:Nat} {zs:List Nat} (h:BRow w B zs) (j v:Nat):BRow (w.setCell ⟨B,j,none⟩ (.int .u8 (v:Int))) B (zs.set j v):=by
 unfold BRow; rw [heap_setCell_same w B j _ _ _ h,bc_set]
theorem BRow.lt {w:World} {B:Nat} {zs:List Nat} (h:BRow w B zs):B < w.heap.size:=by
 by_cases hlt:B < w.heap.size
 ·exact hlt
 ·unfold BRow at h; rw [Array.getElem?_eq_none (by omega)] at h; cases h
theorem BRow.only {w w':World} {B C:Nat} {zs:List Nat} (h:BRow w B zs) (k:Only C w w') (hne:B≠C):BRow w' B zs:=by
 unfold BRow; rw [k.block B hne]; exact h
theorem BRow.ne {w:World} {B C:Nat} {zs xs:List Nat} (h:BRow w B zs) (k:Row w C xs):B≠C:=by
 rintro rfl
 obtain ⟨tl,k⟩:=k
 unfold BRow at h
 rw [k] at h
 simp at h
theorem Tryz.info_byte:(Tryz.prog.info? 5).map (fun i=>(i.zero,i.size,i.bytes)) = some (some (.int .u8 0),1,1):=by kernel_rfl
theorem Tryz.under_bytes:Tryz.prog.underlying 86 = some (.slice 5):=by kernel_rfl
theorem made_bc (n:Nat):madeCells #[.int .u8 0] n = bc (List.replicate n 0):=by
 apply Array.toList_inj.1
 rw [toList_madeCells_one]
 simp [bc]
theorem make_bytes (C:Int) (n:Nat) (hC:C = (n:Int)) (hn:n≤1073741824) (w:World) :
  (Instr.makeSlice 86 (.int .i64 C) (.int .i64 C)).run Tryz.prog w = .ok (.slice (some ⟨w.heap.size,0,none⟩) n n) (w.alloc (.cells (bc (List.replicate n 0)) 5)):=by
 obtain ⟨i,hi,hz,hs,hb⟩:=info_parts Tryz.info_byte
 have:=run_make (P:=Tryz.prog) w 86 5 i (.int .u8 0) Tryz.under_bytes hi hz .i64 .i64 C C (by omega) (Int.le_refl _) (by rw [hb]; omega) (by omega)
 rw [this,hC,hs]
 simp only [Int.toNat_natCast,Nat.mul_one,Value.cells,made_bc]
theorem BRow.made (w:World) (zs:List Nat):BRow (w.alloc (.cells (bc zs) 5)) w.heap.size zs:=heap_alloc_new w _
def chars (ds:List Nat):List UInt8:=ds.map (fun d=>UInt8.ofNat (48+d))
def Says (s:ByteArray) (m:Nat):Prop:=∃ ds,s.data.toList = chars ds∧Pl.Dig ds∧Pl.Lead ds∧Pl.dval ds 0 = m
theorem dval_append (xs ys:List Nat):Pl.dval (xs ++ ys) 0 = Pl.dval xs 0 * 10 ^ ys.length+Pl.dval ys 0:=by
 have h:∀ (xs:List Nat) (a:Nat),Pl.dval (xs ++ ys) a = Pl.dval ys (Pl.dval xs a):=by
  intro xs
  induction xs with
  | nil=>intro a; rfl
  | cons x xs ih=>intro a; exact ih _
 rw [h,Pl.dval_eq]
theorem dval_zeros (ds:List Nat) (k:Nat) (hk:k≤ds.length) (h:∀ j,j < k→ds[j]?.getD 0 = 0):Pl.dval (ds.drop k) 0 = Pl.dval ds 0:=by
 induction k with
 | zero=>rfl
 | succ k ih=>
  rw [← ih (by omega) (fun j hj=>h j (by omega)),Pl.drop_cons ds k (by omega),Pl.dval_cons,h k (by omega)]
  simp
theorem Tryz.under_byte:Tryz.prog.underlying 5 = some (.int .u8):=by kernel_rfl
theorem Tryz.under_string:Tryz.prog.underlying 9 = some .string:=by kernel_rfl
theorem text_bytes (w:World) (B at0 k L:Nat) (ds:List Nat) (h:BRow w B (List.replicate at0 0 ++ ds.map (48+·))) (hd:Pl.Dig ds) (hL:at0+ds.length = L) (hk:k≤ds.length) :
  (convert 86 9 (.slice (some ⟨B,at0+k,none⟩) (L - (at0+k)) (L - (at0+k)))).run Tryz.prog w = .ok (.string ⟨(chars (ds.drop k)).toArray⟩) w:=by
 have e:L - (at0+k) = (chars (ds.drop k)).length:=by simp [chars]; omega
 rw [e]
 refine run_convert_bytes_back w 86 9 5 ⟨B,at0+k,none⟩ _ _ Tryz.under_bytes Tryz.under_byte Tryz.under_string ?_
 intro j hj
 have hj2:k+j < ds.length:=by simp [chars] at hj; omega
 have hdl:ds[k+j] < 10:=hd _ (List.getElem_mem _)
 rw [Addr.add_lit,h.cell (at0+k+j) (by simp; omega),List.getElem?_append_right (by simp; omega),List.length_replicate,show at0+k+j - at0 = k+j by omega,List.getElem?_map,List.getElem?_eq_getElem hj2]
 simp [chars]
 omega
theorem says_eq {s t:ByteArray} {m:Nat} (h:Says s m) (k:Says t m):s = t:=by
 obtain ⟨ds,h1,h2,h3,h4⟩:=h
 obtain ⟨es,k1,k2,k3,k4⟩:=k
 have e:=Pl.dval_inj h2 k2 h3 k3 (by omega)
 subst e
 have:s.data = t.data:=Array.toList_inj.1 (by rw [h1,k1])
 cases s; cases t; simpa using this
theorem dval_nines (k:Nat):Pl.dval (List.replicate k 9) 0+1 = 10 ^ k:=by
 induction k with
 | zero=>rfl
 | succ k ih=>
  rw [List.replicate_succ,Pl.dval_cons,List.length_replicate,Nat.pow_succ]
  omega
theorem dval_noughts (k:Nat):Pl.dval (List.replicate k 0) 0 = 0:=by
 induction k with
 | zero=>rfl
 | succ k ih=>rw [List.replicate_succ,Pl.dval_cons,ih]; omega
theorem raise {ds:List Nat} {q:Nat} (hq:q < ds.length) (h9:∀ j,q < j→j < ds.length→ds[j]?.getD 0 = 9):Pl.dval (ds.take q ++ (ds[q]?.getD 0+1) :: List.replicate (ds.length - 1 - q) 0) 0 = Pl.dval ds 0+1:=by
 obtain ⟨k,hk⟩:∃ k,ds.length - 1 - q = k:=⟨_,rfl⟩
 have e:ds = ds.take q ++ (ds[q]?.getD 0) :: List.replicate k 9:=by
  apply List.ext_getElem?
  intro i
  rcases Nat.lt_trichotomy i q with h|h|h
  ·rw [List.getElem?_append_left (by rw [List.length_take]; omega),List.getElem?_take,if_pos h]
  ·subst h
   rw [List.getElem?_append_right (by rw [List.length_take]; omega),List.length_take,Nat.min_eq_left (by omega),Nat.sub_self,List.getElem?_cons_zero,List.getElem?_eq_getElem hq]
   simp
  ·rw [List.getElem?_append_right (by rw [List.length_take]; omega),List.length_take,Nat.min_eq_left (by omega)]
   obtain ⟨j,rfl⟩:∃ j,i = q+1+j:=⟨i - q - 1,by omega⟩
   rw [show q+1+j - q = j+1 from by omega,List.getElem?_cons_succ,List.getElem?_replicate]
   by_cases hl:q+1+j < ds.length
   ·have:=h9 (q+1+j) (by omega) hl
    rw [List.getElem?_eq_getElem hl] at this ⊢
    rw [if_pos (by omega)]
    simpa using this
   ·rw [List.getElem?_eq_none (by omega),if_neg (by omega)]
 rw [hk]
 conv=>rhs; rw [e]
 rw [dval_append,dval_append,Pl.dval_cons,Pl.dval_cons,List.length_cons,List.length_cons,List.length_replicate,List.length_replicate,dval_noughts]
 have:=dval_nines k
 rw [Nat.add_mul]
 omega
def addTo (ds:List Nat) (q:Nat):List Nat:=ds.take (q+1) ++ List.replicate (ds.length - 1 - q) 0
theorem addOne_any (B n:Nat) (ds:List Nat) (w:World) (hn:Hid (ds.length = n)) (h0:0 < n) (hlen:n≤65536) (hd:Hid (Pl.Dig ds)) (hz:Hid (ds[0]?.getD 0 = 0)) (hrow:BRow w B (ds.map (48+·))) :
  Calls Tryz.prog 45 #[.slice (some ⟨B,0,none⟩) n n] w fun e w'=>e = .returned (.tuple #[])∧(∃ es:List Nat,es.length = n∧Pl.Dig es∧Pl.dval es 0 = Pl.dval ds 0+1∧BRow w' B (es.map (48+·)))∧Only B w w':=by
 go_enter Tryz.func45,Tryz.ntmps45
 go_wp2
 go_loopw [2] (fun i wr=>∃ q:Nat,q < n∧i = .int .i64 (q:Int)∧Hid (∀ j,q < j→j < ds.length→ds[j]?.getD 0 = 9)∧BRow wr B ((addTo ds q).map (48+·))∧Only B w wr) (fun i _=>(intOf i).toNat)
 case atStart=>
  have hl:=unhide hn
  refine ⟨n - 1,by omega,by congr 1; omega,hide fun j h1 h2=>absurd h2 (by omega),?_,Only.refl _ _⟩
  unfold addTo
  rw [List.take_of_length_le (by omega),show ds.length - 1 - (n - 1) = 0 from by omega]
  simpa using hrow
 case round=>
  obtain ⟨q,hq,rfl,H9,hR,hO⟩:=hrel
  have hl:=unhide hn
  obtain ⟨x,hx⟩:∃ x,x = ds[q]?.getD 0:=⟨_,rfl⟩
  have hxd:x < 10:=by
   rw [hx,List.getElem?_eq_getElem (by omega)]
   exact unhide hd _ (List.getElem_mem _)
  have hlq:(addTo ds q).length = n:=by unfold addTo; simp; omega
  have hat:((addTo ds q).map (48+·))[q]?.getD 0 = 48+x:=by
   unfold addTo
   rw [List.map_append,List.getElem?_append_left (by simp; omega),List.getElem?_map,List.getElem?_take,if_pos (by omega),hx,List.getElem?_eq_getElem (by omega)]
   simp
  have hc:=hR.cell q (by rw [List.length_map,hlq]; omega)
  rw [hat] at hc
  have hf:=hR.frozen q
  by_cases h9:x = 9
  ·subst h9
   obtain ⟨p,rfl⟩:∃ p,q = p+1:=by
    rcases q with _|p
    ·have:=unhide hz; omega
    ·exact ⟨p,rfl⟩
   have HN:Hid (∀ j,p < j→j < ds.length→ds[j]?.getD 0 = 9):=hide fun j h1 h2=>by
    rcases Nat.lt_or_ge (p+1) j with h|h
    ·exact unhide H9 j h h2
    ·obtain rfl:j = p+1:=by omega
     exact hx.symm
   have HR:=hide (hR.set (p+1) 48)
   have HE:Hid (((addTo ds (p+1)).map (48+·)).set (p+1) 48 = (addTo ds p).map (48+·)):=hide (by
    unfold addTo
    rw [show (48:Nat) = (48+·) 0 from rfl,← List.map_set]
    congr 1
    rw [List.set_append_left _ _ (by simp; omega),show ds.length - 1 - p = (ds.length - 1 - (p+1))+1 from by omega,List.replicate_succ]
    rw [show ds.take (p+1+1) = ds.take (p+1) ++ [ds[p+1]?.getD 0] from by
     rw [List.take_add_one,List.getElem?_eq_getElem (by omega)]; simp]
    rw [List.set_append_right _ _ (by rw [List.length_take]; omega),List.length_take,Nat.min_eq_left (by omega),Nat.sub_self]
    simp)
   have hpi:((p:Int)+1) - 1 = (p:Int):=by omega
   clear hat hx hR hl
   go_wp2
   go_roundw
   case rel=>
    refine ⟨p,by omega,by go_num,unhide HN,?_,hO.setCell _ _⟩
    have:=unhide HR
    rw [unhide HE] at this
    exact this
   case measure=>simp [intOf]
  ·have hb:((48:Int)+(x:Int) == 57) = false:=by rw [beq_eq_false_iff_ne]; omega
   have HR:=hide (hR.set q (49+x))
   have HE:Hid (((addTo ds q).map (48+·)).set q (49+x) = (ds.take q ++ (ds[q]?.getD 0+1) :: List.replicate (ds.length - 1 - q) 0).map (48+·)):=hide (by
    unfold addTo
    rw [show 49+x = (48+·) (x+1) from by show 49+x = 48+(x+1); omega,← List.map_set]
    congr 1
    rw [List.set_append_left _ _ (by simp; omega),show ds.take (q+1) = ds.take q ++ [ds[q]?.getD 0] from by
     rw [List.take_add_one,List.getElem?_eq_getElem (by omega)]; simp]
    rw [List.set_append_right _ _ (by rw [List.length_take]; omega),List.length_take,Nat.min_eq_left (by omega),Nat.sub_self,← hx]
    simp)
   have HV:Hid (Pl.dval (ds.take q ++ (ds[q]?.getD 0+1) :: List.replicate (ds.length - 1 - q) 0) 0 = Pl.dval ds 0+1):=hide (raise (by omega) (unhide H9))
   have HD:Hid (Pl.Dig (ds.take q ++ (ds[q]?.getD 0+1) :: List.replicate (ds.length - 1 - q) 0)):=hide (fun d9 h=>by
    rw [List.mem_append,List.mem_cons] at h
    rcases h with h|h|h
    ·exact unhide hd _ (List.mem_of_mem_take h)
    ·rw [h,← hx]; omega
    ·rw [List.eq_of_mem_replicate h]; omega)
   have HL:Hid ((ds.take q ++ (ds[q]?.getD 0+1) :: List.replicate (ds.length - 1 - q) 0).length = n):=hide (by simp; omega)
   have hw8:(48:Int)+(x:Int)+1 = 49+(x:Int):=by omega
   clear hat hx hR hl h9
   go_wp2
   go_end0
   refine ⟨rfl,⟨_,unhide HL,unhide HD,unhide HV,?_⟩,hO.setCell _ _⟩
   have:=unhide HR
   rw [unhide HE] at this
   exact this
theorem any_symZ {P:Program} {ops:Array Oper} {Q:Exit→Act→World→Prop} {T0:Array Value} {n:Nat} {L:Ks} {G:World→Prop} {w0:Fr0} (S:Pqs→List Spo) {W:World} {E:List Bx} (z:Nat) (hE:∀ x,x∈E→W.heap[x.b]? = some (.cells x.cs x.t (0,0))) (hfr:w0.to W) (hK:Kn T0 n L) (hB:SymB ops n L E S)
  (hlow:∀ x,x∈E→x.my = true→w0.own x.b) (hne:∀ (j k:Nat) (x y:Bx),E[j]? = some x→E[k]? = some y→x.my = true→j≠k→x.b≠y.b)
  (hst:Sta G) (h0:G W) (hz:ops.size = z+1) (hwait:∀ j,j < z→reach ops 8 z j = true)
  (hok:∀ p i x,i < z→(S p)[i]? = some x→OkAt P ops L E (S p) G w0 W.heap.size p i x)
  (hcall:∀ p,∃ s v fn args,(S p)[z]? = some (.v s v)∧opRun P ops L (puts p 0 (S p)) z 0 [] = some (some s,true,some (.enter fn args,[]))∧∀ W',SymF E (S p) G w0 W.heap.size p W'→Calls P fn args W' fun e W''=>e = .returned v∧Q .normal ⟨Puts.lay (puts p 0 (S p)) T0,[]⟩ W'') :
  wpAny P .any ops Q ops.size (Array.replicate ops.size false) ⟨T0,[]⟩ W:=by
 have hs:SymS ops T0 n L E S G w0 W.heap.size:=⟨hB.shape,hB.apart,hB.len,fun p=>by rw [hK.size]; exact hB.within p,hB.back,hB.reads,hK,hB.mem,hB.eb,hlow,hne,fun x hx=>block_lt (hE x hx),w0.sized hfr,hst⟩
 refine wpAny_inv (fun l a w=>(l[z]? = some false∧∃ p t,a = ⟨t,[]⟩∧SymI ops T0 E S G w0 W.heap.size p l t w)∨(Region.ready .any ops l = []∧Q .normal a w)) ?_ ?_ _ _ _ _ ?_ (Or.inl ⟨?_,fun _=>pq0,T0,rfl,?_⟩)
 ·rintro l a w i (⟨hlz,p,t,rfl,hI⟩|⟨hr,-⟩) hi hl
  ·have hD:=hI.det p (Agr.refl l p)
   by_cases hiz:i = z
   ·subst hiz
    obtain ⟨s,v,fn,args,hS,hop,hc⟩:=hcall p
    obtain ⟨o,ho,hd,hw,hr⟩:=opRun_at hs.kn hD (hs.apart p) (hs.reads p) hi hl hop
    have hrun:=script_run P 0 _ _ _ _ w hr trivial
    have hup:∀ k,k < i→l[k]? = some true:=fun k hk=>reach_ready hD (hwait k hk) hi
    have hin:∀ k x,(S p)[k]? = some x→k≠i→l[k]? = some true:=fun k x hk hn=>by
     have:=(List.getElem?_eq_some_iff.1 hk).1
     rw [hB.len p,hz] at this
     exact hup k (by omega)
    have hni:∀ k s' cs t',(S p)[k]? = some (.n s' cs t')→k≠i:=fun k s' cs t' h e=>by rw [e,hS] at h; cases h
    have hF:SymF E (S p) G w0 W.heap.size p w:=by
     refine ⟨hI.fr,hI.bs,fun j bx bo hb=>?_,fun k s cs t hk=>hI.nb k s cs t hk (hin k _ hk (hni _ _ _ _ hk)),fun k s cs t k' s' cs' t' hk hk'=>hI.ne k s cs t k' s' cs' t' hk hk' (hin k _ hk (hni _ _ _ _ hk)) (hin k' _ hk' (hni _ _ _ _ hk')),fun k=>?_,hI.gx,fun k x f b hk hf _ hb=>?_⟩
     ·rw [hI.mem p (Agr.refl l p) j bx bo hb (fun k hk=>?_)]
      ·congr 2
       refine cellsOf_agree _ _ _ (fun k off xs hk=>?_)
       obtain ⟨x9,hx9,hx8⟩:=Option.bind_eq_some_iff.1 hk
       rw [Nat.zero_add]
       refine isUp_iff.2 (hin k _ hx9 fun e=>?_)
       rw [e,hS] at hx9; cases hx9; cases hx8
      ·rcases boxOf_cases hb with ⟨-,-,h⟩|⟨-,s,cs,t,h,-,h2⟩
       ·rw [h] at hk; cases hk
       ·rw [h2] at hk; rw [← Option.some.inj hk]; exact hin _ _ h (hni _ _ _ _ h)
     ·unfold factOf
      split
      ·rename_i s cf hk
       exact hI.fx k _ cf hk rfl (hin k _ hk fun e=>by rw [e,hS] at hk; cases hk)
      ·rename_i cf hk
       exact hI.fx k _ cf hk rfl (hin k _ hk fun e=>by rw [e,hS] at hk; cases hk)
      ·rename_i s' cs ty hk
       intro hnp
       have hb:boxOf E (S p) p (1000+k) = some (⟨(p k).N,cs,ty % 1000000,true⟩,some k):=by
        unfold boxOf
        rw [show Nat.blt (1000+k) 1000 = false from by cases h:Nat.blt (1000+k) 1000 with
         | false=>rfl
         | true=>rw [Nat.blt_eq] at h; omega]
        simp [hk]
       have h1:=hI.mem p (Agr.refl l p) (1000+k) _ (some k) hb (fun k' e=>by cases e; exact hin k _ hk (hni _ _ _ _ hk))
       rw [cellsOf_none] at h1
       ·exact h1
       intro k' off xs hk'
       exact absurd hk' (noPut_no _ hnp _ _ _)
      ·trivial
     ·have hfi:∀ k x f,(S p)[k]? = some x→x.fac = some f→k≠i:=fun k x f h hf e=>by rw [e,hS] at h; cases h; cases hf
      obtain ⟨a1,a2,a3,a4⟩:=hI.nk k x f b hk hf (hin k _ hk (hfi _ _ _ hk hf)) hb
      exact ⟨a1,a2,fun k' s cs t hk' _=>a3 k' s cs t hk' (hin k' _ hk' (hni _ _ _ _ hk')),fun k' x' f' hne hk' hf' _=>a4 k' x' f' hne hk' hf' (hin k' _ hk' (hfi _ _ _ hk' hf'))⟩
    refine wpOp_run ho hw hrun ?_
    rw [Oper.upon_enter]
    refine (hc w hF).mono fun e w' ⟨he,hq⟩=>?_
    subst he
    refine Or.inr ?_
    have hD2:=hD.step (hs.apart p) (hs.within p) hi hl
    rw [puts_i hS] at hD2
    have hall:∀ k,k < ops.size→(l.setIfInBounds i true)[k]? = some true:=fun k hk=>by
     refine (set_up hl).2 ?_
     rcases Nat.lt_or_ge k i with h|h
     ·exact Or.inr (hup k h)
     ·exact Or.inl (by omega)
    constructor
    ·unfold Region.ready
     rw [List.filter_eq_nil_iff]
     intro k hk
     have:=hall k (List.mem_range.1 hk)
     simp [Array.getD_eq_getD_getElem?,this]
    ·have:=hD2.done (hs.apart p) (by rw [puts_len]; exact hs.len p) (hs.within p) hall
     rw [← this] at hq
     rw [hd]
     exact hq
   ·have hlt:i < z:=by
     have:=(Array.getElem?_eq_some_iff.1 hl).1
     rw [hD.len] at this; omega
    refine wpOp_mono (fun a' w' h=>Or.inl ⟨?_,h⟩) (hI.step1 hs (fun p' x hx=>hok p' i x hlt hx) hi hl)
    rw [Array.getElem?_setIfInBounds_ne hiz]; exact hlz
  ·rw [hr] at hi; cases hi
 ·rintro l a w (⟨hlz,p,t,rfl,hI⟩|⟨-,h⟩) hr
  ·have hD:=hI.det p (Agr.refl l p)
   have:=all_up hD.len hB.back hr z (by omega)
   rw [hlz] at this; cases this
  ·exact h
 ·simp
 ·rw [Array.getElem?_replicate,if_pos (by omega)]
 ·have hno:∀ k:Nat,(Array.replicate ops.size false)[k]?≠some true:=fun k h=>by
   rw [Array.getElem?_replicate] at h
   split at h <;> cases h
  have hup:isUp (Array.replicate ops.size false) = fun _=>false:=funext fun k=>isUp_no (hno k)
  refine ⟨fun p' _=>?_,fun p' _ j bx bo hb hal=>?_,hfr,Nat.le_refl _,fun k _ _ _ _ h=>absurd h (hno k),fun k _ _ _ _ _ _ _ _ _ h=>absurd h (hno k),fun k _ _ _ _ h=>absurd h (hno k),h0,fun k _ _ _ _ _ h=>absurd h (hno k)⟩
  ·constructor
   ·simp
   ·rfl
   ·intro k s v _ h; exact absurd h (hno k)
   ·intro s _; rfl
   ·intro k o h; exact absurd h (hno k)
  ·rcases boxOf_cases hb with ⟨-,hj,-⟩|⟨-,s,cs,t,-,-,h2⟩
   ·rw [hup,cellsOf_none _ _ _ (fun _ _ _ _=>rfl)]
    exact hE bx (List.mem_of_getElem? hj)
   ·exact absurd (hal _ h2) (hno _)
theorem wp_symZ {P:Program} {ops:Array Oper} {Q:Exit→Act→World→Prop} {T0:Array Value} {n:Nat} {L:Ks} {w0:Fr0} {gs:List Gf} {id:Nat} {d:Bool} {W:World} {E:List Bx} (hS:Fb w0 W E) (hG:GsAt gs W) (hK:Kn T0 n L) (S:Pqs→List Spo) (L1:Pqs→Ks) (hm:P.follows .mixedOrders = true) (hsh:∀ p p',(S p).map Spo.bare = (S p').map Spo.bare) (hB:∀ p,symB ops n L E (S p) p (L1 p) = true) (hL:∀ p,(L1 p).map (fun x=>slotAt L x.1 (S p).length (puts p 0 (S p))) = (L1 p).map (·.2))
  (z s:Nat) (v:Pqs→Value) (fn:FuncId) (args:Pqs→Array Value) (hz:(Nat.beq ops.size (z+1) && (List.range z).all (fun j=>reach ops 8 z j)) = true) (hSz:∀ p,(S p)[z]? = some (.v s (v p)))
  (hcall:∀ p,opRun P ops L (puts p 0 (S p)) z 0 [] = some (some s,true,some (.enter fn (args p),[])))
  (hok:∀ p,Oks P ops L E (S p) (GsAt gs) w0 W.heap.size p 0 ((S p).take z))
  (hfin:∀ p W',SymF E (S p) (GsAt gs) w0 W.heap.size p W'→Calls P fn (args p) W' fun e W''=>e = .returned (v p)∧∀ T1,Kn T1 n (L1 p)→Q .normal ⟨T1,[]⟩ W'') :
  (Code.region id ops d).wp P Q ⟨T0,[]⟩ W:=by
 have hB':∀ p,_:=fun p=>by
  have:=hB p
  simp only [symB,Bool.and_eq_true] at this
  exact this
 rw [Bool.and_eq_true] at hz
 have hz1:=Nat.eq_of_beq_eq_true hz.1
 have hz2:∀ j,j < z→reach ops 8 z j = true:=fun j hj=>List.all_eq_true.1 hz.2 j (List.mem_range.2 hj)
 have HB:SymB ops n L E S:=⟨hsh,fun p=>(hB' p).1.1.1.1.1.1.1,fun p=>Nat.eq_of_beq_eq_true (hB' p).1.1.1.1.1.1.2,fun p=>(hB' p).1.1.1.1.1.2,(hB' fun _=>pq0).1.1.1.1.2,fun p=>(hB' p).1.1.1.2,fun p=>(hB' p).1.1.2,(hB' fun _=>pq0).1.2⟩
 have hok':∀ p i x,i < z→(S p)[i]? = some x→OkAt P ops L E (S p) (GsAt gs) w0 W.heap.size p i x:=fun p i x hi hx=>by
  have:=Oks.at ((S p).take z) 0 i x (hok p) (by rw [List.getElem?_take,if_pos hi]; exact hx)
  rwa [Nat.zero_add] at this
 have hc:∀ p,∃ s v fn args,(S p)[z]? = some (.v s v)∧opRun P ops L (puts p 0 (S p)) z 0 [] = some (some s,true,some (.enter fn args,[]))∧∀ W',SymF E (S p) (GsAt gs) w0 W.heap.size p W'→Calls P fn args W' fun e W''=>e = .returned v∧Q .normal ⟨Puts.lay (puts p 0 (S p)) T0,[]⟩ W'':=fun p=>
  ⟨s,v p,fn,args p,hSz p,hcall p,fun W' hF=>(hfin p W' hF).mono fun e W'' ⟨he,hq⟩=>⟨he,hq _ (kn_out hK (hB' p).1.1.1.1.1.1.1 (hB' p).1.1.1.1.1.2 _ (by rw [puts_len]; exact (hB' p).2) (by rw [puts_len]; exact hL p))⟩⟩
 cases d with
 | true=>exact wp_region_any hm (any_symZ S (W:=W.drew) z hS.bx (w0.kept hS.fr (Below.refl _ _).drew) hK HB hS.low.of hS.ne.of (gs_sta gs) ((gs_sta gs).kept W _ (Below.refl _ _).drew hG) hz1 hz2 hok' hc)
 | false=>
  refine wp_region ?_
  have:=ops_of_any HB.back ops.size 0 (by omega) _ _ _ (by simp) (fun j hj=>by rw [Array.getElem?_replicate]; simp [hj]) (any_symZ S z hS.bx hS.fr hK HB hS.low.of hS.ne.of (gs_sta gs) hG hz1 hz2 hok' hc)
  rwa [← List.range_eq_range'] at this
theorem body_n {P:Program} {fn:Func} {R:Ending→World→Prop} {a:Act} {w:World} (h:bodyPost P fn R .ret a w):bodyPost P fn R .normal a w:=h
theorem script_split {α β:Type} (P:Program) (r:Nat) (m:Sem α) (k:α→Sem β):∀ y:β,script P r (m >>= k) [] = some (y,[])→∃ x:α,script P r m [] = some (x,[])∧script P r (k x) [] = some (y,[]):=by
 induction m with
 | pure a=>intro y h; exact ⟨a,rfl,h⟩
 | load _ a k' _=>intro y h; simp [script,bind,Sem.bind] at h
 | store _ a v k' _=>
  intro y h
  simp only [script,bind,Sem.bind] at h
  split at h
  ·simp at h
  ·cases h
 | new o k' _=>
  intro y h
  simp only [script,bind,Sem.bind] at h
  split at h
  ·simp at h
  ·cases h
 | program k' ih=>intro y h; exact ih P y h
 | mark _ k' ih=>intro y h; exact ih y h
 | _=>intro y h; simp [script,bind,Sem.bind] at h
theorem script_fields {P:Program} {r d:Nat} {xs ys:Array Value}:∀ (fs:List Field),script P r (Op.eqFields d xs ys fs) [] = some (true,[]) →
  script P r (forIn fs ((none:Option Bool),()) fun f _=>
   if f.name ≠ "_" then do
    let a ← part f.type xs f.offset
    let b ← part f.type ys f.offset
    let e ← Op.equalIn d f.type a b
    if (!e) = true then pure (ForInStep.done (some false,())) else pure (ForInStep.yield (none,()))
   else pure (ForInStep.yield (none,()))) [] = some ((none,()),[])
 | [],_=>rfl
 | f :: fs,h=>by
  rw [List.forIn_cons]
  by_cases hn : f.name ≠ "_"
  ·rw [Op.eqFields,if_pos hn] at h
   obtain ⟨a,ha,h⟩:=script_split P r _ _ _ h
   obtain ⟨b,hb,h⟩:=script_split P r _ _ _ h
   obtain ⟨e,he,h⟩:=script_split P r _ _ _ h
   cases e with
   | false=>simp [script_pure] at h
   | true=>
    rw [if_neg (by simp)] at h
    rw [script_bind P r _ _ [] (ForInStep.yield (none,())) (by
     rw [if_pos hn,script_bind P r _ _ [] _ ha,script_bind P r _ _ [] _ hb,script_bind P r _ _ [] _ he]; rfl)]
    exact script_fields fs h
  ·rw [Op.eqFields,if_neg hn] at h
   rw [script_bind P r _ _ [] (ForInStep.yield (none,())) (by rw [if_neg hn]; rfl)]
   exact script_fields fs h
theorem script_struct {P:Program} {r:Nat} (d:Nat) (t:TypeId) (xs ys:Array Value) (ht:P.underlying t = some (.struct (P.fieldsOf t))) (hp:P.stoodInHeld t = false)
  (h:script P r (Op.eqFields d xs ys (P.fieldsOf t).toList) [] = some (true,[])):script P r (Op.equalIn (d+1) t (.agg xs) (.agg ys)) [] = some (true,[]):=by
 simp only [Op.equalIn]
 rw [script_bind P r _ _ [] _ (script_under ht)]
 simp only []
 rw [script_bind P r program _ [] P rfl,hp,if_neg (by decide),← Array.forIn_toList,script_bind P r _ _ [] _ (script_fields _ h)]
 rfl
theorem script_eqb {P:Program} {r d:Nat} {t:TypeId} (b:Bool) (h:P.underlying t = some .bool):script P r (Op.equalIn (d+1) t (.bool b) (.bool b)) [] = some (true,[]):=by
 simp only [Op.equalIn]
 rw [script_bind P r _ _ [] _ (script_under h)]
 show script P r (pure (b == b)) [] = _
 rw [beq_self_eq_true]; rfl
theorem script_eqs {P:Program} {r d:Nat} {t:TypeId} (b:ByteArray) (h:P.underlying t = some .string):script P r (Op.equalIn (d+1) t (.string b) (.string b)) [] = some (true,[]):=by
 simp only [Op.equalIn]
 rw [script_bind P r _ _ [] _ (script_under h)]
 show script P r (pure (b == b)) [] = _
 rw [beq_toListBytes,beq_self_eq_true]; rfl
theorem script_eqi {P:Program} {r d:Nat} {t:TypeId} {k:IntKind} (b:Int) (h:P.underlying t = some (.int k)):script P r (Op.equalIn (d+1) t (.int k b) (.int k b)) [] = some (true,[]):=by
 simp only [Op.equalIn]
 rw [script_bind P r _ _ [] _ (script_under h)]
 simp only []
 rw [if_pos trivial,beq_self_eq_true]; rfl
end Go.Proofs.YtplihgoapiiigaaGreatDoor
