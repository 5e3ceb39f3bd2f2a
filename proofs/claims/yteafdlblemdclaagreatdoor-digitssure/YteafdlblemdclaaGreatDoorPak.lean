/- Of what DigitsSureRow stands on: Multiply ShiftUp ShiftDown DcOne AddInto Low TakeTimes SymZ ExRatS. -/
import Derived.Test.YteafdlblemdclaaGreatDoorPad
namespace Go.Proofs.YteafdlblemdclaaGreatDoor
open Go.RowKit
set_option maxHeartbeats 2000000
set_option maxRecDepth 20000
theorem mul_step {x y:Nat} {lo out pre d:List Nat} {c i l m:Nat} (h:Pl.val lo = x * y) (hl:lo = pre ++ d) (hp:pre.length = i) (ho:out.length = m) (e:Pl.val out+4294967296 ^ m * c = Pl.val d+l * x) :
  Pl.val (pre ++ out ++ [c]) = x * (y+4294967296 ^ i * l):=by
 rw [List.append_assoc,Pl.val_append,Pl.val_append,Pl.val_one,hp,ho,e]
 rw [hl,Pl.val_append,hp] at h
 rw [Nat.mul_add,Nat.mul_add,← Nat.add_assoc,h,Nat.mul_comm l x,Nat.mul_left_comm]
theorem multiply_any (b off cap b' off' cap':Nat) (xs ys:List Nat) (w:World) (hxp:0 < xs.length) (hx:xs.length≤16384) (hy:ys.length≤16384) (wx:Pl.Wf xs) (wy:Pl.Wf ys)
  (hb:b < w.heap.size) (hb':b' < w.heap.size)
  (hc:∀ j,j < xs.length→w.cell? ⟨b,off+j,none⟩ = some (.int .u32 ((xs[j]?.getD 0:Nat):Int)))
  (hc':∀ j,j < ys.length→w.cell? ⟨b',off'+j,none⟩ = some (.int .u32 ((ys[j]?.getD 0:Nat):Int))) :
  Calls Tryz.prog 69 #[.slice (some ⟨b,off,none⟩) xs.length cap,.slice (some ⟨b',off',none⟩) ys.length cap'] w
   fun e w'=>∃ zs:List Nat,e = .returned (.slice (some ⟨w.heap.size,0,none⟩) (xs.length+ys.length) (xs.length+ys.length))∧zs.length = xs.length+ys.length∧Pl.Wf zs∧Pl.val zs = Pl.val xs * Pl.val ys∧Row w' w.heap.size zs∧Below w.heap.size w w':=by
 have hxn:¬ xs = []:=fun h=>by simp [h] at hxp
 have hmk:=make_limbs ((xs.length:Int)+(ys.length:Int)) (xs.length+ys.length) (by omega) (by omega)
 go_enter Tryz.func69,Tryz.ntmps69
 go_wp2
 clear hmk
 go_loopw [17] (fun i wr=>∃ (k:Nat) (lo:List Nat),k≤ys.length∧i = .int .i64 k∧lo.length = k+xs.length∧Pl.Wf lo∧Pl.val lo = Pl.val xs * Pl.val (ys.take k) ∧
   Row wr w.heap.size (lo ++ List.replicate (ys.length - k) 0)∧Below w.heap.size w wr) (fun i _=>ys.length - (intOf i).toNat)
 case atStart=>
  refine ⟨0,List.replicate xs.length 0,Nat.zero_le _,rfl,by simp,Pl.wf_replicate _,by simp [Pl.val_replicate,Pl.val],?_,gr_alloc _ _⟩
  rw [List.replicate_append_replicate]; exact Row.made _ _
 case round=>
  obtain ⟨k,lo,hk,rfl,hlo,wlo,hval,hr,hbel⟩:=hrel
  by_cases hlt:k < ys.length
  ·obtain ⟨y,hyy⟩:∃ y,y = ys[k]?.getD 0:=⟨_,rfl⟩
   have hy1:y < 4294967296:=by rw [hyy]; exact Pl.wf_at wy k
   have hcy:wr.cell? ⟨b',off'+k,none⟩ = some (.int .u32 (y:Int)):=by rw [hyy]; exact (hbel.cell (by exact hb')).trans (hc' k hlt)
   have HC:Hid (∀ j,j < xs.length→wr.cell? ⟨b,off+j,none⟩ = some (.int .u32 ((xs[j]?.getD 0:Nat):Int))):=fun j hj=>(hbel.cell (by exact hb)).trans (hc j hj)
   have HV:Hid (Pl.val lo = Pl.val xs * Pl.val (ys.take k)):=hval
   have HY:Hid (y = ys[k]?.getD 0):=hyy
   clear hval hyy
   by_cases hz:y = 0
   ·subst hz
    go_wp2
    go_roundw
    case rel=>
     refine ⟨k+1,lo ++ [0],by omega,by go_num,by simp; omega,Pl.wf_append wlo (Pl.wf_one (by omega)),?_,?_,hbel⟩
     ·rw [Pl.val_append,Pl.val_one,Nat.mul_zero,Nat.add_zero,Pl.val_take_succ ys k hlt,← HY.out,Nat.mul_zero,Nat.add_zero]; exact HV.out
     ·rw [List.append_assoc]
      have e:ys.length - k = ys.length - (k+1)+1:=by omega
      rw [e,List.replicate_succ] at hr
      exact hr
    case measure=>simp [intOf]; omega
   ·have hzb:((y:Int) == 0) = false:=by simpa using hz
    go_wp2_with fail
    have hpd:lo = lo.take k ++ lo.drop k:=(List.take_append_drop k lo).symm
    have hpl:(lo.take k).length = k:=by rw [List.length_take]; omega
    have hdl:(lo.drop k).length = xs.length:=by rw [List.length_drop]; omega
    have wd:Pl.Wf (lo.drop k):=Pl.wf_drop wlo k
    have wp:Pl.Wf (lo.take k):=Pl.wf_take wlo k
    have hrr:Row wr w.heap.size (lo.take k ++ lo.drop k ++ List.replicate (ys.length - k) 0):=by rw [← hpd]; exact hr
    generalize lo.take k = pre at *
    generalize lo.drop k = d at *
    have HD:Hid (lo = pre ++ d):=hpd
    clear hpd
    refine (addTimes_at w.heap.size k xs.length b off _ _ y pre d (List.replicate (ys.length - k) 0) xs wr hpl hdl rfl (by omega) (by omega) wd wx hy1 hrr HC.out).mono ?_
    rintro e w1 ⟨out,c,rfl,hol,wo,hcl,hev,hr1,ho1⟩
    have hrl:(pre ++ out ++ List.replicate (ys.length - k) 0).length = xs.length+ys.length:=by simp; omega
    have hcs:=hr1.cell (k+xs.length) (by omega)
    have hfs:=hr1.frozen (k+xs.length)
    have HR:=hide hr1
    have HO:=hide ho1
    have HE:=hide hev
    have HW:=hide hr
    clear hr1 ho1 hev hr hrr hrl
    go_wp2
    go_roundw
    case rel=>
     refine ⟨k+1,pre ++ out ++ [c],by omega,by go_num,by simp; omega,Pl.wf_append (Pl.wf_append wp wo) (Pl.wf_one hcl),?_,?_,?_⟩
     ·rw [Pl.val_take_succ ys k hlt,← HY.out]
      exact mul_step HV.out HD.out hpl hol (unhide HE)
     ·have h:=(unhide HR).set (k+xs.length) c (by simp; omega)
      have e:ys.length - k = ys.length - (k+1)+1:=by omega
      rw [e,List.replicate_succ,List.set_append_right _ _ (by simp; omega)] at h
      have e2:k+xs.length - (pre ++ out).length = 0:=by simp; omega
      rw [e2] at h
      simpa using h
     ·exact ((unhide HO).setCell _ _).below hbel (Nat.le_refl _)
    case measure=>simp [intOf]; omega
  ·go_wp2
   have hke:k = ys.length:=by omega
   go_ret
   refine ⟨lo,rfl,by omega,wlo,?_,?_,hbel⟩
   ·rw [hval,hke,List.take_of_length_le (Nat.le_refl _)]
   ·rw [hke,Nat.sub_self] at hr
    simpa using hr
theorem bits_or_u32 (a b:Nat) (ha:a < 4294967296) (hb:b < 4294967296):Go.bits .or .u32 (a:Int) (b:Int) = ((a ||| b:Nat):Int):=by
 have hx:a ||| b < 2 ^ 32:=Nat.or_lt_two_pow (by omega) (by omega)
 have h1:(BitVec.ofInt 32 (a:Int)).toNat = a:=by rw [BitVec.ofInt_natCast,BitVec.toNat_ofNat]; exact Nat.mod_eq_of_lt (by omega)
 have h2:(BitVec.ofInt 32 (b:Int)).toNat = b:=by rw [BitVec.ofInt_natCast,BitVec.toNat_ofNat]; exact Nat.mod_eq_of_lt (by omega)
 show IntKind.u32.wrap ((BitVec.ofInt 32 (a:Int) ||| BitVec.ofInt 32 (b:Int)).toNat:Int) = _
 rw [BitVec.toNat_or,h1,h2,IntKind.wrap_u32]
 omega
theorem pow_lt32 {pt:Nat} (h:pt < 32):2 ^ pt≤2147483648:=Nat.pow_le_pow_right (show 0 < 2 by decide) (show pt≤31 by omega)
theorem mul_lt63 {x pt:Nat} (hx:x < 4294967296) (h:pt < 32):x * 2 ^ pt < 9223372036854775808:=by
 have h1:=pow_lt32 h
 have:x * 2 ^ pt≤4294967295 * 2147483648:=Nat.mul_le_mul (by omega) h1
 omega
theorem sh_wrap {x k pt:Nat} (hx:x < 4294967296) (hk:k % 32 = pt) (h:pt < 32):IntKind.u64.wrap ((x:Int) * 2 ^ (k % 32)) = ((x * 2 ^ pt:Nat):Int):=by
 have:=mul_lt63 hx h
 rw [hk,IntKind.wrap_u64]
 have e:(x:Int) * 2 ^ pt = ((x * 2 ^ pt:Nat):Int):=by push_cast; rfl
 rw [e]
 omega
theorem pow_split {pt:Nat} (h:pt < 32):4294967296 = 2 ^ pt * 2 ^ (32 - pt):=by
 rw [← Nat.pow_add,show pt+(32 - pt) = 32 by omega]
theorem sh_low {x pt:Nat} (h:pt < 32):x * 2 ^ pt % 4294967296 = 2 ^ pt * (x % 2 ^ (32 - pt)):=by
 rw [pow_split h,Nat.mul_comm x,Nat.mul_mod_mul_left]
theorem or_low {c x pt:Nat} (hc:c < 2 ^ pt) (h:pt < 32):Go.bits .or .u32 (c:Int) (((x * 2 ^ pt:Nat):Int) % 4294967296) = ((c+x * 2 ^ pt % 4294967296:Nat):Int):=by
 have h1:=pow_lt32 h
 rw [show (((x * 2 ^ pt:Nat):Int) % 4294967296) = ((x * 2 ^ pt % 4294967296:Nat):Int) by omega,bits_or_u32 _ _ (by omega) (by omega)]
 congr 1
 rw [sh_low h,Nat.or_comm,← Nat.two_pow_add_eq_or_of_lt hc,Nat.add_comm]
theorem or_high {x pt:Nat} (hx:x < 4294967296) (h:pt < 32):Go.bits .or .u32 (0:Int) (((x * 2 ^ pt:Nat):Int) / 4294967296 % 4294967296) = ((x * 2 ^ pt / 4294967296:Nat):Int):=by
 have:=mul_lt63 hx h
 rw [show (((x * 2 ^ pt:Nat):Int) / 4294967296 % 4294967296) = ((x * 2 ^ pt / 4294967296:Nat):Int) by omega]
 have:=bits_or_u32 0 (x * 2 ^ pt / 4294967296) (by omega) (by omega)
 rw [Nat.zero_or] at this
 exact this
theorem high_lt {x pt:Nat} (hx:x < 4294967296):x * 2 ^ pt / 4294967296 < 2 ^ pt:=by
 rw [Nat.div_lt_iff_lt_mul (by decide),Nat.mul_comm]
 exact Nat.mul_lt_mul_of_pos_left hx (Nat.pow_pos (by decide))
theorem low_lt {c x pt:Nat} (hc:c < 2 ^ pt) (h:pt < 32):c+x * 2 ^ pt % 4294967296 < 4294967296:=by
 rw [sh_low h]
 have h2:x % 2 ^ (32 - pt) < 2 ^ (32 - pt):=Nat.mod_lt _ (Nat.pow_pos (by decide))
 have h3:2 ^ pt * (x % 2 ^ (32 - pt)+1)≤2 ^ pt * 2 ^ (32 - pt):=Nat.mul_le_mul_left _ h2
 rw [← pow_split h,Nat.mul_add,Nat.mul_one] at h3
 omega
theorem up_step {o p c x t B B' s lo hi:Nat} (hB:B' = B * 4294967296) (h:o+B * c = p * s) (ht:t = x * s) (e:t = 4294967296 * hi+lo):(o+B * (c+lo))+B' * hi = (p+B * x) * s:=by
 subst hB
 have e1:B * t = B * 4294967296 * hi+B * lo:=by rw [e,Nat.mul_add,Nat.mul_assoc]
 have e2:(p+B * x) * s = p * s+B * t:=by rw [ht,Nat.add_mul,Nat.mul_assoc]
 rw [e2,Nat.mul_add,e1]
 omega
theorem up_set1 (wh m c v:Nat) (os:List Nat):(List.replicate wh 0 ++ (os ++ c :: List.replicate (m+1) 0)).set (wh+os.length) v = List.replicate wh 0 ++ ((os ++ [v]) ++ 0 :: List.replicate m 0):=by
 rw [List.set_append_right _ _ (by simp),List.length_replicate,Nat.add_sub_cancel_left,List.set_append_right _ _ (by omega),Nat.sub_self]
 simp [List.replicate_succ]
theorem up_set2 (wh m v:Nat) (os:List Nat):(List.replicate wh 0 ++ (os ++ 0 :: List.replicate m 0)).set (wh+os.length) v = List.replicate wh 0 ++ (os ++ v :: List.replicate m 0):=by
 rw [List.set_append_right _ _ (by simp),List.length_replicate,Nat.add_sub_cancel_left,List.set_append_right _ _ (by omega),Nat.sub_self]
 simp
theorem up_at1 (wh c:Nat) (os r:List Nat):(List.replicate wh 0 ++ (os ++ c :: r))[wh+os.length]?.getD 0 = c:=by
 rw [List.getElem?_append_right (by simp),List.length_replicate,Nat.add_sub_cancel_left,List.getElem?_append_right (by omega),Nat.sub_self]
 simp
theorem up_at2 (wh c m:Nat) (os:List Nat):(List.replicate wh 0 ++ (os ++ c :: List.replicate (m+1) 0))[wh+os.length+1]?.getD 0 = 0:=by
 rw [List.getElem?_append_right (by simp; omega),List.length_replicate,List.getElem?_append_right (by omega)]
 rw [show wh+os.length+1 - wh - os.length = 0+1 by omega,List.getElem?_cons_succ]
 simp
theorem up_end {v x wh pt k c n:Nat} (hk:k = 32 * wh+pt) (h:v+4294967296 ^ n * c = x * 2 ^ pt):4294967296 ^ wh * (v+4294967296 ^ n * c) = x * 2 ^ k:=by
 rw [h,hk,Nat.pow_add,Nat.pow_mul,Nat.mul_left_comm]
theorem shiftUp_some (b off cap n wh pt k:Nat) (xs:List Nat) (w:World) (hn:Hid (xs.length = n)) (hlen:n≤20000) (hx:Pl.Wf xs) (hlt:b < w.heap.size) (hk:Hid (k = 32 * wh+pt)) (hpt:pt < 32) (hwh:wh≤20000)
  (hc:∀ j,j < n→w.cell? ⟨b,off+j,none⟩ = some (.int .u32 ((xs[j]?.getD 0:Nat):Int))) :
  Calls Tryz.prog 66 #[.slice (some ⟨b,off,none⟩) n cap,.int .i64 (k:Int)] w
   fun e w'=>∃ (out:List Nat),e = .returned (.slice (some ⟨w.heap.size,0,none⟩) (wh+n+1) (wh+n+1))∧out.length = wh+n+1∧Pl.Wf out∧Pl.val out = Pl.val xs * 2 ^ k∧Row w' w.heap.size out∧Below w.heap.size w w':=by
 have hmk:=make_limbs ((wh:Int)+(n:Int)+1) (wh+n+1) (by omega) (by omega)
 have hq:(k:Int) / 32 = (wh:Int):=by have:=unhide hk; omega
 have hr:(k:Int) % 32 = (pt:Int):=by have:=unhide hk; omega
 have HP:Hid (k % 32 = pt):=by have:=unhide hk; exact hide (by omega)
 go_enter Tryz.func66,Tryz.ntmps66
 go_wp2
 clear hmk hq hr
 go_loopw [23] (fun i wr=>∃ (j c:Nat) (os:List Nat),j≤n∧i = .int .i64 (j:Int)∧c < 2 ^ pt∧os.length = j∧Pl.Wf os∧Pl.val os+4294967296 ^ j * c = Pl.val (xs.take j) * 2 ^ pt ∧
   Row wr w.heap.size (List.replicate wh 0 ++ (os ++ c :: List.replicate (n - j) 0))∧Below w.heap.size w wr) (fun i _=>n - (intOf i).toNat)
 case atStart=>
  refine ⟨0,0,[],Nat.zero_le _,rfl,Nat.pow_pos (by decide),rfl,Pl.wf_nil,by simp [Pl.val],?_,gr_alloc _ _⟩
  have e:List.replicate wh 0 ++ ([] ++ 0 :: List.replicate (n - 0) 0) = List.replicate (wh+n+1) 0:=by
   rw [List.nil_append,Nat.sub_zero,← List.replicate_succ,List.replicate_append_replicate,Nat.add_assoc]
  rw [e]
  exact Row.made _ _
 case round=>
  obtain ⟨j,c,os,hj,rfl,hcl,hol,how,hval,hr,hbel⟩:=hrel
  have hxl:=unhide hn
  by_cases hjn:j < n
  ·obtain ⟨x,hxx⟩:∃ x,x = xs[j]?.getD 0:=⟨_,rfl⟩
   obtain ⟨m,hm⟩:∃ m,n - j = m+1:=⟨n - j - 1,by omega⟩
   rw [hm] at hr
   have hx1:x < 4294967296:=by rw [hxx]; exact Pl.wf_at hx j
   have hcx:wr.cell? ⟨b,off+j,none⟩ = some (.int .u32 (x:Int)):=by rw [hxx]; exact (hbel.cell (by exact hlt)).trans (hc j hjn)
   have hc1:=hr.cell (wh+j) (by simp; omega)
   have hc2:=hr.cell (wh+j+1) (by simp; omega)
   rw [← hol,up_at1] at hc1
   rw [← hol,up_at2] at hc2
   rw [hol] at hc1 hc2
   have hf1:=hr.frozen (wh+j)
   have hf2:=hr.frozen (wh+j+1)
   have HR:Hid (∀ v1 v2:Nat,Row ((wr.setCell ⟨w.heap.size,wh+j,none⟩ (.int .u32 (v1:Int))).setCell ⟨w.heap.size,wh+j+1,none⟩ (.int .u32 (v2:Int))) w.heap.size (List.replicate wh 0 ++ ((os ++ [v1]) ++ v2 :: List.replicate m 0))):=fun v1 v2=>by
    have h1:=hr.set (wh+j) v1 (by simp; omega)
    rw [← hol,up_set1] at h1
    have h2:=h1.set (wh+(os ++ [v1]).length) v2 (by simp)
    rw [up_set2] at h2
    rw [← hol]
    simpa [Nat.add_assoc] using h2
   have HV:Hid (∀ lo hi:Nat,x * 2 ^ pt = 4294967296 * hi+lo→Pl.val (os ++ [c+lo])+4294967296 ^ (j+1) * hi = Pl.val (xs.take (j+1)) * 2 ^ pt):=fun lo hi e=>by
    rw [Pl.val_append,Pl.val_one,hol,Pl.val_take_any xs j,← hxx]
    exact up_step (Nat.pow_succ ..) hval rfl e
   have HM:=hide hm
   clear hval hxx hr hxl hc hm
   go_wp2
   go_roundw
   case rel=>
    rw [sh_wrap hx1 (unhide HP) hpt,or_low hcl hpt,or_high hx1 hpt]
    have hm:=unhide HM
    refine ⟨j+1,x * 2 ^ pt / 4294967296,os ++ [c+x * 2 ^ pt % 4294967296],by omega,by go_num,high_lt hx1,by simp [hol],Pl.wf_append how (Pl.wf_one (low_lt hcl hpt)),unhide HV _ _ (Nat.div_add_mod _ _).symm,?_,(hbel.setCell (Nat.le_refl _) _).setCell (Nat.le_refl _) _⟩
    rw [show n - (j+1) = m by omega]
    exact unhide HR _ _
   case measure=>simp [intOf]; omega
  ·have hje:j = n:=by omega
   subst hje
   rw [List.take_of_length_le (by omega)] at hval
   rw [Nat.sub_self] at hr
   have hc32:=pow_lt32 hpt
   have HV:Hid (Pl.val (List.replicate wh 0 ++ (os ++ [c])) = Pl.val xs * 2 ^ k):=by
    rw [Pl.val_append,Pl.val_replicate,List.length_replicate,Nat.zero_add,Pl.val_append,Pl.val_one,hol]
    exact up_end (unhide hk) hval
   have HW:Hid (Pl.Wf (List.replicate wh 0 ++ (os ++ [c]))):=Pl.wf_append (Pl.wf_replicate wh) (Pl.wf_append how (Pl.wf_one (by omega)))
   have HR:=hide hr
   clear hval hr hc hxl
   go_wp2
   go_ret
   exact ⟨List.replicate wh 0 ++ (os ++ [c]),rfl,by simp [hol]; omega,unhide HW,unhide HV,unhide HR,hbel⟩
theorem shiftUp_none (a:Option Addr) (cap wh pt k:Nat) (w:World) (hk:Hid (k = 32 * wh+pt)) (hpt:pt < 32) (hwh:wh≤20000) :
  Calls Tryz.prog 66 #[.slice a 0 cap,.int .i64 (k:Int)] w
   fun e w'=>∃ (out:List Nat),e = .returned (.slice (some ⟨w.heap.size,0,none⟩) (wh+1) (wh+1))∧out.length = wh+1∧Pl.Wf out∧Pl.val out = 0∧Row w' w.heap.size out∧Below w.heap.size w w':=by
 have hmk:=make_limbs ((wh:Int)+1) (wh+1) (by omega) (by omega)
 have hq:(k:Int) / 32 = (wh:Int):=by have:=unhide hk; omega
 have hr:(k:Int) % 32 = (pt:Int):=by have:=unhide hk; omega
 go_enter Tryz.func66,Tryz.ntmps66
 go_wp2
 refine wp_loop_rounds 1 ?_
 rw [rounds_succ]
 go_wp2
 go_ret
 exact ⟨List.replicate (wh+1) 0,rfl,List.length_replicate,Pl.wf_replicate _,Pl.val_replicate _,Row.made _ _,gr_alloc _ _⟩
theorem shiftUp_any (a:Option Addr) (n cap wh pt k:Nat) (xs:List Nat) (w:World) (hn:xs.length = n) (hlen:n≤20000) (hl:Lim w a xs) (hx:Pl.Wf xs) (hk:k = 32 * wh+pt) (hpt:pt < 32) (hwh:wh≤20000) :
  Calls Tryz.prog 66 #[.slice a n cap,.int .i64 (k:Int)] w
   fun e w'=>∃ (out:List Nat),e = .returned (.slice (some ⟨w.heap.size,0,none⟩) (wh+n+1) (wh+n+1))∧out.length = wh+n+1∧Pl.Wf out∧Pl.val out = Pl.val xs * 2 ^ k∧Row w' w.heap.size out∧Below w.heap.size w w':=by
 rcases hl.parts with h0|⟨_,b,off,rfl,hlt,hc⟩
 ·subst h0
  obtain rfl:n = 0:=by rw [← hn]; rfl
  refine (shiftUp_none a cap wh pt k w (hide hk) hpt hwh).mono ?_
  rintro e w' ⟨out,he,h1,h2,h3,h4,h5⟩
  exact ⟨out,he,h1,h2,by rw [h3]; simp [Pl.val],h4,h5⟩
 ·exact shiftUp_some b off cap n wh pt k xs w (hide hn) hlen hx hlt (hide hk) hpt hwh (fun j hj=>hc j (by omega))
theorem or_wrap (A x:Nat) (hx:x < 4294967296):Go.bits .or .u64 (IntKind.u64.wrap ((A:Int) * 4294967296)) (x:Int) = ((A % 4294967296 * 4294967296+x:Nat):Int):=by
 have e:IntKind.u64.wrap ((A:Int) * 4294967296) = ((A % 4294967296:Nat):Int) * 4294967296:=by rw [IntKind.wrap_u64]; omega
 rw [e,or_limb _ _ (by omega) hx]
 omega
theorem down_shr (t k pt:Nat) (h:k % 32 = pt):((t:Int) / 2 ^ (k % 32)) % 4294967296 = ((t / 2 ^ pt % 4294967296:Nat):Int):=by
 rw [h,Int.natCast_emod,Int.natCast_ediv,Int.natCast_pow]
 rfl
theorem down_step {V x h P Q:Nat} (hP:0 < P) (hPQ:4294967296 = P * Q) (hh:h = V % 4294967296) (hx:x < 4294967296):(h * 4294967296+x) / P % 4294967296+4294967296 * (V / P) = (x+4294967296 * V) / P:=by
 have hr:V % P < P:=Nat.mod_lt _ hP
 have hm:h % P = V % P:=by rw [hh,Nat.mod_mod_of_dvd V ⟨Q,hPQ⟩]
 have hv:=Nat.div_add_mod V P
 have hu:=Nat.div_add_mod h P
 rw [hm] at hu
 generalize V % P = r at *
 generalize V / P = v at *
 generalize h / P = u at *
 have hD:(x+4294967296 * r) / P < 4294967296:=by
  rw [Nat.div_lt_iff_lt_mul hP]
  have:4294967296 * (r+1)≤4294967296 * P:=Nat.mul_le_mul_left _ hr
  omega
 have e1:h * 4294967296+x = P * (u * 4294967296)+(x+4294967296 * r):=by
  rw [← hu,Nat.add_mul,Nat.mul_assoc]; omega
 have e2:x+4294967296 * V = P * (4294967296 * v)+(x+4294967296 * r):=by
  rw [← hv,Nat.mul_add,Nat.mul_left_comm]; omega
 rw [e1,e2,Nat.mul_add_div hP,Nat.mul_add_div hP,Nat.mul_comm u,Nat.mul_add_mod,Nat.mod_eq_of_lt hD]
 omega
theorem val_mod (ys:List Nat) (hw:Pl.Wf ys) (j:Nat):ys[j]?.getD 0 = Pl.val (ys.drop j) % 4294967296:=by
 by_cases h:j < ys.length
 ·have:=Pl.wf_at hw j
  rw [Pl.drop_cons ys j h]
  simp only [Pl.val]
  omega
 ·rw [List.drop_eq_nil_of_le (by omega),List.getElem?_eq_none (by omega)]; rfl
theorem set_rep' (j v:Nat) (qs:List Nat):(List.replicate (j+1) 0 ++ qs).set j v = List.replicate j 0 ++ (v :: qs):=by
 rw [List.set_append_left _ _ (by simp),List.replicate_succ',List.set_append_right _ _ (by simp)]
 simp
theorem shiftDown_some (b off cap wh pt k N:Nat) (ys:List Nat) (w:World) (hy:Hid (ys.length = N)) (hN0:0 < N) (hN:N≤40000) (hwh:wh≤40000) (hcap:wh+N≤cap) (hcap2:cap≤9223372036854775807) (hx:Pl.Wf ys) (hlt:b < w.heap.size) (hk:Hid (k = 32 * wh+pt)) (hpt:pt < 32)
  (hc:∀ j,j < N→w.cell? ⟨b,off+wh+j,none⟩ = some (.int .u32 ((ys[j]?.getD 0:Nat):Int))) :
  Calls Tryz.prog 122 #[.slice (some ⟨b,off,none⟩) (wh+N) cap,.int .i64 (k:Int)] w
   fun e w'=>∃ l qs,e = .returned (.slice (some ⟨w.heap.size,0,none⟩) l l)∧l≤N∧Own w' w.heap.size (.slice (some ⟨w.heap.size,0,none⟩) l l) qs∧qs.length = l∧Pl.Wf qs∧Pl.Norm qs∧Pl.val qs = Pl.val ys / 2 ^ pt∧Below w.heap.size w w':=by
 have hmk:=make_limbs ((N:Int)) N rfl (by omega)
 have hq:(k:Int) / 32 = (wh:Int):=by have:=unhide hk; omega
 have hr:(k:Int) % 32 = (pt:Int):=by have:=unhide hk; omega
 have HP:Hid (k % 32 = pt):=by have:=unhide hk; exact hide (by omega)
 go_enter Tryz.func122,Tryz.ntmps122
 go_wp2
 clear hmk hq hr
 go_loopw [9,10] (fun ab i wr=>∃ (j A:Nat) (qs:List Nat),j≤N∧i = .int .i64 ((j:Int) - 1)∧ab = .int .u64 (A:Int)∧A < 18446744073709551616∧A % 4294967296 = ys[j]?.getD 0∧qs.length = N - j∧Pl.Wf qs∧Pl.val qs = Pl.val (ys.drop j) / 2 ^ pt ∧
   Row wr w.heap.size (List.replicate j 0 ++ qs)∧Below w.heap.size w wr) (fun _ i _=>(intOf i+1).toNat)
 case atStart=>
  refine ⟨N,0,[],Nat.le_refl _,rfl,rfl,by omega,?_,by simp,Pl.wf_nil,?_,?_,gr_alloc _ _⟩
  ·rw [List.getElem?_eq_none (by rw [unhide hy]; omega)]; rfl
  ·rw [List.drop_eq_nil_of_le (by rw [unhide hy]; omega)]; simp [Pl.val]
  ·rw [List.append_nil]; exact Row.made _ _
 case round=>
  obtain ⟨j,A,qs,hj,rfl,rfl,hA,hAm,hql,hqw,hv,hrow,hbel⟩:=hrel
  by_cases hj0:j = 0
  ·subst hj0
   have hr2:Row wr w.heap.size qs:=by simpa using hrow
   rw [List.drop_zero] at hv
   have HV:=hide hv
   clear hv hrow hAm hc
   go_wp2_with fail
   refine (trim_at w.heap.size 0 N N qs wr (by omega) (Nat.le_refl _) (by omega) (fun j hj=>by rw [Nat.zero_add]; exact hr2.cell j hj)).mono ?_
   rintro e w1 ⟨rfl,l,hl,h0,h1,rfl⟩
   have HT:=hide (trim_row hr2 (Nat.le_refl _) (by omega) hqw hl h0 h1)
   clear h0 h1
   go_wp2
   go_ret
   obtain ⟨t1,t2,t3,t4,t5⟩:=unhide HT
   exact ⟨l,qs.take l,rfl,by omega,t2,t1,t3,t4,by rw [t5,unhide HV],hbel⟩
  ·obtain ⟨i,rfl⟩:∃ i,j = i+1:=⟨j - 1,by omega⟩
   obtain ⟨x,hxx⟩:∃ x,x = ys[i]?.getD 0:=⟨_,rfl⟩
   have hx1:x < 4294967296:=by rw [hxx]; exact Pl.wf_at hx i
   have hcx:wr.cell? ⟨b,off+wh+i,none⟩ = some (.int .u32 (x:Int)):=by rw [hxx]; exact (hbel.cell (by exact hlt)).trans (hc i (by omega))
   have hcq:=hrow.cell i (by simp; omega)
   have hfq:=hrow.frozen i
   have HV:Hid (Pl.val ((A % 4294967296 * 4294967296+x) / 2 ^ pt % 4294967296 :: qs) = Pl.val (ys.drop i) / 2 ^ pt):=by
    have hyl:=unhide hy
    rw [Pl.drop_cons ys i (by omega),← hxx]
    simp only [Pl.val]
    rw [hv]
    exact down_step (Nat.pow_pos (by decide)) (pow_split hpt) (by rw [hAm]; exact val_mod ys hx (i+1)) hx1
   have HR:=hide (hrow.set i ((A % 4294967296 * 4294967296+x) / 2 ^ pt % 4294967296) (by simp; omega))
   have HX:=hide hxx
   have hA2:A % 4294967296 < 4294967296:=Nat.mod_lt _ (by decide)
   clear hxx hv hrow hc hAm
   go_wp2
   go_roundw
   case rel=>
    rw [or_wrap A x hx1,down_shr _ k pt (unhide HP)]
    refine ⟨i,A % 4294967296 * 4294967296+x,(A % 4294967296 * 4294967296+x) / 2 ^ pt % 4294967296 :: qs,by omega,rfl,rfl,by omega,by rw [← unhide HX]; omega,by simp; omega,Pl.wf_cons (Nat.mod_lt _ (by decide)) hqw,unhide HV,?_,hbel.setCell (Nat.le_refl _) _⟩
    have h:=unhide HR
    rwa [set_rep'] at h
   case measure=>simp [intOf]
theorem shiftDown_nil (a:Option Addr) (n cap wh k:Nat) (w:World) (hk:Hid (wh = k / 32)) (hk2:wh < 9223372036854775808) (hle:n≤wh) :
  Calls Tryz.prog 122 #[.slice a n cap,.int .i64 (k:Int)] w fun e w'=>e = .returned (.slice none 0 0)∧w' = w:=by
 have hq:(k:Int) / 32 = (wh:Int):=by have:=unhide hk; omega
 have hd:(n:Int)≤(wh:Int):=by omega
 clear hle
 go_enter Tryz.func122,Tryz.ntmps122
 go_wp2
 go_ret
 exact ⟨rfl,rfl⟩
theorem shiftDown_any (a:Option Addr) (n cap m k:Nat) (w:World) (h:Num w a n m) (hcap:n≤cap) (hcap2:cap≤9223372036854775807) (hk:k < 9223372036854775808) :
  Calls Tryz.prog 122 #[.slice a n cap,.int .i64 (k:Int)] w fun e w'=>(∃ a' l c,e = .returned (.slice a' l c)∧Mine w' w.heap.size a' l c (m / 2 ^ k))∧Below w.heap.size w w':=by
 obtain ⟨xs,hn,hl,hw,hN,hv,hb⟩:=h
 by_cases hle:n≤k / 32
 ·refine (shiftDown_nil a n cap (k / 32) k w rfl (by omega) hle).mono ?_
  rintro e w' ⟨rfl,rfl⟩
  have h0:m / 2 ^ k = 0:=by
   apply Nat.div_eq_of_lt
   have h1:=Pl.val_lt hw
   rw [hv,hn] at h1
   have h2:(4294967296:Nat) ^ n = 2 ^ (32 * n):=by rw [Nat.pow_mul]
   have h3:=Nat.pow_le_pow_right (show 0 < 2 by decide) (show 32 * n≤k by omega)
   rw [h2] at h1
   exact Nat.lt_of_lt_of_le h1 h3
  rw [h0]
  exact ⟨⟨none,0,0,rfl,[],rfl,Or.inl ⟨rfl,rfl⟩,Pl.wf_nil,Pl.norm_nil,rfl,by omega⟩,gr_refl _⟩
 ·rcases hl.parts with hx|⟨hp,b,off,rfl,hltb,hcx⟩
  ·rw [hx] at hn; simp at hn; omega
  ·obtain ⟨N,rfl⟩:∃ N,n = k / 32+N:=⟨n - k / 32,by omega⟩
   have hyl:(xs.drop (k / 32)).length = N:=by rw [List.length_drop]; omega
   refine (shiftDown_some b off cap (k / 32) (k % 32) k N (xs.drop (k / 32)) w (hide hyl) (by omega) (by omega) (by omega) hcap hcap2 (Pl.wf_drop hw _) hltb (hide (by omega)) (by omega) (fun j hj=>?_)).mono ?_
   ·have:=hcx (k / 32+j) (by omega)
    rw [← Nat.add_assoc] at this
    rw [this,List.getElem?_drop]
   ·rintro e w' ⟨l,qs,rfl,hlN,hO,hql,hqw,hqN,hqv,hb1⟩
    refine ⟨⟨_,l,l,rfl,qs,hql,hO,hqw,hqN,?_,by omega⟩,hb1⟩
    rw [hqv,← hv,Pl.val_split xs (k / 32) (by omega)]
    have e:2 ^ k = 4294967296 ^ (k / 32) * 2 ^ (k % 32):=by
     rw [show (4294967296:Nat) = 2 ^ 32 from rfl,← Nat.pow_mul,← Nat.pow_add]
     congr 1; omega
    have hlo:=Pl.val_lt (Pl.wf_take hw (k / 32))
    rw [List.length_take,Nat.min_eq_left (by omega)] at hlo
    rw [e,← Nat.div_div_eq_div_mul]
    congr 1
    rw [Nat.add_comm,Nat.mul_add_div (Nat.lt_of_le_of_lt (Nat.zero_le _) hlo),Nat.div_eq_of_lt hlo,Nat.add_zero]
theorem dval_nines (k:Nat):Pl.dval (List.replicate k 9) 0+1 = 10 ^ k:=by
 induction k with
 | zero=>rfl
 | succ k ih=>
  rw [List.replicate_succ,Pl.dval_cons,List.length_replicate,Nat.pow_succ]
  omega
theorem dval_noughts (k:Nat):Pl.dval (List.replicate k 0) 0 = 0:=by
 induction k with
 | zero=>rfl
 | succ k ih=>rw [List.replicate_succ,Pl.dval_cons,ih]; omega
theorem raise {ds:List Nat} {q:Nat} (hq:q < ds.length) (h9:∀ j,q < j→j < ds.length→ds[j]?.getD 0 = 9):Pl.dval (ds.take q ++ (ds[q]?.getD 0+1) :: List.replicate (ds.length - 1 - q) 0) 0 = Pl.dval ds 0+1:=by
 obtain ⟨k,hk⟩:∃ k,ds.length - 1 - q = k:=⟨_,rfl⟩
 have e:ds = ds.take q ++ (ds[q]?.getD 0) :: List.replicate k 9:=by
  apply List.ext_getElem?
  intro i
  rcases Nat.lt_trichotomy i q with h|h|h
  ·rw [List.getElem?_append_left (by rw [List.length_take]; omega),List.getElem?_take,if_pos h]
  ·subst h
   rw [List.getElem?_append_right (by rw [List.length_take]; omega),List.length_take,Nat.min_eq_left (by omega),Nat.sub_self,List.getElem?_cons_zero,List.getElem?_eq_getElem hq]
   simp
  ·rw [List.getElem?_append_right (by rw [List.length_take]; omega),List.length_take,Nat.min_eq_left (by omega)]
   obtain ⟨j,rfl⟩:∃ j,i = q+1+j:=⟨i - q - 1,by omega⟩
   rw [show q+1+j - q = j+1 from by omega,List.getElem?_cons_succ,List.getElem?_replicate]
   by_cases hl:q+1+j < ds.length
   ·have:=h9 (q+1+j) (by omega) hl
    rw [List.getElem?_eq_getElem hl] at this ⊢
    rw [if_pos (by omega)]
    simpa using this
   ·rw [List.getElem?_eq_none (by omega),if_neg (by omega)]
 rw [hk]
 conv=>rhs; rw [e]
 rw [dval_append,dval_append,Pl.dval_cons,Pl.dval_cons,List.length_cons,List.length_cons,List.length_replicate,List.length_replicate,dval_noughts]
 have:=dval_nines k
 rw [Nat.add_mul]
 omega
def addTo (ds:List Nat) (q:Nat):List Nat:=ds.take (q+1) ++ List.replicate (ds.length - 1 - q) 0
theorem addOne_any (B n:Nat) (ds:List Nat) (w:World) (hn:Hid (ds.length = n)) (h0:0 < n) (hlen:n≤65536) (hd:Hid (Pl.Dig ds)) (hz:Hid (ds[0]?.getD 0 = 0)) (hrow:BRow w B (ds.map (48+·))) :
  Calls Tryz.prog 79 #[.slice (some ⟨B,0,none⟩) n n] w fun e w'=>e = .returned (.tuple #[])∧(∃ es:List Nat,es.length = n∧Pl.Dig es∧Pl.dval es 0 = Pl.dval ds 0+1∧BRow w' B (es.map (48+·)))∧Only B w w':=by
 go_enter Tryz.func79,Tryz.ntmps79
 go_wp2
 go_loopw [2] (fun i wr=>∃ q:Nat,q < n∧i = .int .i64 (q:Int)∧Hid (∀ j,q < j→j < ds.length→ds[j]?.getD 0 = 9)∧BRow wr B ((addTo ds q).map (48+·))∧Only B w wr) (fun i _=>(intOf i).toNat)
 case atStart=>
  have hl:=unhide hn
  refine ⟨n - 1,by omega,by congr 1; omega,hide fun j h1 h2=>absurd h2 (by omega),?_,Only.refl _ _⟩
  unfold addTo
  rw [List.take_of_length_le (by omega),show ds.length - 1 - (n - 1) = 0 from by omega]
  simpa using hrow
 case round=>
  obtain ⟨q,hq,rfl,H9,hR,hO⟩:=hrel
  have hl:=unhide hn
  obtain ⟨x,hx⟩:∃ x,x = ds[q]?.getD 0:=⟨_,rfl⟩
  have hxd:x < 10:=by
   rw [hx,List.getElem?_eq_getElem (by omega)]
   exact unhide hd _ (List.getElem_mem _)
  have hlq:(addTo ds q).length = n:=by unfold addTo; simp; omega
  have hat:((addTo ds q).map (48+·))[q]?.getD 0 = 48+x:=by
   unfold addTo
   rw [List.map_append,List.getElem?_append_left (by simp; omega),List.getElem?_map,List.getElem?_take,if_pos (by omega),hx,List.getElem?_eq_getElem (by omega)]
   simp
  have hc:=hR.cell q (by rw [List.length_map,hlq]; omega)
  rw [hat] at hc
  have hf:=hR.frozen q
  by_cases h9:x = 9
  ·subst h9
   obtain ⟨p,rfl⟩:∃ p,q = p+1:=by
    rcases q with _|p
    ·have:=unhide hz; omega
    ·exact ⟨p,rfl⟩
   have HN:Hid (∀ j,p < j→j < ds.length→ds[j]?.getD 0 = 9):=hide fun j h1 h2=>by
    rcases Nat.lt_or_ge (p+1) j with h|h
    ·exact unhide H9 j h h2
    ·obtain rfl:j = p+1:=by omega
     exact hx.symm
   have HR:=hide (hR.set (p+1) 48)
   have HE:Hid (((addTo ds (p+1)).map (48+·)).set (p+1) 48 = (addTo ds p).map (48+·)):=hide (by
    unfold addTo
    rw [show (48:Nat) = (48+·) 0 from rfl,← List.map_set]
    congr 1
    rw [List.set_append_left _ _ (by simp; omega),show ds.length - 1 - p = (ds.length - 1 - (p+1))+1 from by omega,List.replicate_succ]
    rw [show ds.take (p+1+1) = ds.take (p+1) ++ [ds[p+1]?.getD 0] from by
     rw [List.take_add_one,List.getElem?_eq_getElem (by omega)]; simp]
    rw [List.set_append_right _ _ (by rw [List.length_take]; omega),List.length_take,Nat.min_eq_left (by omega),Nat.sub_self]
    simp)
   have hpi:((p:Int)+1) - 1 = (p:Int):=by omega
   clear hat hx hR hl
   go_wp2
   go_roundw
   case rel=>
    refine ⟨p,by omega,by go_num,unhide HN,?_,hO.setCell _ _⟩
    have:=unhide HR
    rw [unhide HE] at this
    exact this
   case measure=>simp [intOf]
  ·have hb:((48:Int)+(x:Int) == 57) = false:=by rw [beq_eq_false_iff_ne]; omega
   have HR:=hide (hR.set q (49+x))
   have HE:Hid (((addTo ds q).map (48+·)).set q (49+x) = (ds.take q ++ (ds[q]?.getD 0+1) :: List.replicate (ds.length - 1 - q) 0).map (48+·)):=hide (by
    unfold addTo
    rw [show 49+x = (48+·) (x+1) from by show 49+x = 48+(x+1); omega,← List.map_set]
    congr 1
    rw [List.set_append_left _ _ (by simp; omega),show ds.take (q+1) = ds.take q ++ [ds[q]?.getD 0] from by
     rw [List.take_add_one,List.getElem?_eq_getElem (by omega)]; simp]
    rw [List.set_append_right _ _ (by rw [List.length_take]; omega),List.length_take,Nat.min_eq_left (by omega),Nat.sub_self,← hx]
    simp)
   have HV:Hid (Pl.dval (ds.take q ++ (ds[q]?.getD 0+1) :: List.replicate (ds.length - 1 - q) 0) 0 = Pl.dval ds 0+1):=hide (raise (by omega) (unhide H9))
   have HD:Hid (Pl.Dig (ds.take q ++ (ds[q]?.getD 0+1) :: List.replicate (ds.length - 1 - q) 0)):=hide (fun d9 h=>by
    rw [List.mem_append,List.mem_cons] at h
    rcases h with h|h|h
    ·exact unhide hd _ (List.mem_of_mem_take h)
    ·rw [h,← hx]; omega
    ·rw [List.eq_of_mem_replicate h]; omega)
   have HL:Hid ((ds.take q ++ (ds[q]?.getD 0+1) :: List.replicate (ds.length - 1 - q) 0).length = n):=hide (by simp; omega)
   have hw8:(48:Int)+(x:Int)+1 = 49+(x:Int):=by omega
   clear hat hx hR hl h9
   go_wp2
   go_end0
   refine ⟨rfl,⟨_,unhide HL,unhide HD,unhide HV,?_⟩,hO.setCell _ _⟩
   have:=unhide HR
   rw [unhide HE] at this
   exact this
theorem bne_cast (c:Nat):((c:Int) != 0) = (c != 0):=by rw [Bool.eq_iff_iff]; simp
theorem addInto_some (B p n b off m cap cap':Nat) (pre d post xs:List Nat) (w:World) (hp:Hid (pre.length = p)) (hd:Hid (d.length = n)) (hx:Hid (xs.length = m)) (hmn:m≤n) (hlen:n≤40000) (hne:b≠B)
  (wd:Pl.Wf d) (wx:Pl.Wf xs) (hrow:Row w B (pre ++ d ++ post))
  (hc:∀ j,j < m→w.cell? ⟨b,off+j,none⟩ = some (.int .u32 ((xs[j]?.getD 0:Nat):Int))) :
  Calls Tryz.prog 182 #[.slice (some ⟨B,p,none⟩) n cap,.slice (some ⟨b,off,none⟩) m cap'] w
   fun e w'=>∃ (out:List Nat) (c:Nat),e = .returned (.bool (c != 0))∧out.length = n∧Pl.Wf out∧c≤1∧Pl.val out+4294967296 ^ n * c = Pl.val d+Pl.val xs∧Row w' B (pre ++ out ++ post)∧Only B w w':=by
 go_enter Tryz.func182,Tryz.ntmps182
 go_wp2
 go_loopw [5,9] (fun t i wr=>∃ (k c:Nat) (out:List Nat),k≤n∧i = .int .i64 k∧t = .int .u64 (c:Int)∧c≤1∧out.length = k∧Pl.Wf out ∧
   Pl.val out+4294967296 ^ k * c = Pl.val (d.take k)+Pl.val (xs.take k)∧Row wr B (pre ++ (out ++ d.drop k) ++ post)∧Only B w wr) (fun _ i _=>n - (intOf i).toNat)
 case atStart=>exact ⟨0,0,[],Nat.zero_le _,rfl,rfl,by omega,rfl,Pl.wf_nil,by simp [Pl.val],by simpa using hrow,Only.refl _ _⟩
 case round=>
  obtain ⟨k,c,out,hk,rfl,rfl,hcl,hol,how,hval,hr,honly⟩:=hrel
  have hpl:=unhide hp
  have hdl:=unhide hd
  have hxl:=unhide hx
  by_cases hlt:k < n
  ·obtain ⟨y,hy⟩:∃ y,y = d[k]?.getD 0:=⟨_,rfl⟩
   obtain ⟨x,hxx⟩:∃ x,x = xs[k]?.getD 0:=⟨_,rfl⟩
   have hx1:x < 4294967296:=by rw [hxx]; exact Pl.wf_at wx k
   have hy1:y < 4294967296:=by rw [hy]; exact Pl.wf_at wd k
   have hcd:wr.cell? ⟨B,p+k,none⟩ = some (.int .u32 (y:Int)):=by
    rw [hr.cell (p+k) (by simp; omega),← hpl,at_mid _ _ _ _ _ hol (by omega),hy]
   have hfz:wr.frozen? ⟨B,p+k,none⟩ = false:=hr.frozen _
   have HV:Hid (∀ q r,c+y+x = q * 4294967296+r→Pl.val (out ++ [r])+4294967296 ^ (k+1) * q = Pl.val (d.take (k+1))+Pl.val (xs.take (k+1))):=fun q r e=>by
    rw [Pl.val_append,Pl.val_one,hol,Pl.val_take_any d k,Pl.val_take_any xs k,← hy,← hxx]
    exact Pl.step_add _ (Nat.pow_succ ..) hval (c+y+x) q r e y rfl
   have HR:Hid (∀ v,Row (wr.setCell ⟨B,p+k,none⟩ (.int .u32 ((v:Nat):Int))) B (pre ++ ((out ++ [v]) ++ d.drop (k+1)) ++ post)):=fun v=>by
    have:=hr.set (p+k) v (by simp; omega)
    rw [← hpl] at this ⊢
    rwa [set_mid _ _ _ _ _ _ hol (by omega)] at this
   by_cases hkm:k < m
   ·have hcx:wr.cell? ⟨b,off+k,none⟩ = some (.int .u32 (x:Int)):=by rw [hxx]; exact (honly.cell (by exact hne)).trans (hc k hkm)
    clear hval hy hxx hr hpl hdl hxl hc
    go_wp2
    go_roundw
    case rel=>
     have e1:((c:Int)+(y:Int)+(x:Int)) / 4294967296 = (((c+y+x) / 4294967296:Nat):Int):=by omega
     have e2:((c:Int)+(y:Int)+(x:Int)) % 4294967296 = (((c+y+x) % 4294967296:Nat):Int):=by omega
     rw [e1,e2]
     exact ⟨k+1,(c+y+x) / 4294967296,out ++ [(c+y+x) % 4294967296],by omega,by go_num,rfl,by omega,by simp [hol],Pl.wf_append how (Pl.wf_one (by omega)),unhide HV _ _ (by omega),unhide HR _,honly.setCell _ _⟩
    case measure=>simp [intOf]; omega
   ·have hx0:x = 0:=by rw [hxx,List.getElem?_eq_none (by omega)]; rfl
    subst hx0
    clear hval hy hxx hr hpl hdl hxl hc
    go_wp2
    go_roundw
    case rel=>
     have e1:((c:Int)+(y:Int)) / 4294967296 = (((c+y+0) / 4294967296:Nat):Int):=by omega
     have e2:((c:Int)+(y:Int)) % 4294967296 = (((c+y+0) % 4294967296:Nat):Int):=by omega
     rw [e1,e2]
     exact ⟨k+1,(c+y+0) / 4294967296,out ++ [(c+y+0) % 4294967296],by omega,by go_num,rfl,by omega,by simp [hol],Pl.wf_append how (Pl.wf_one (by omega)),unhide HV _ _ (by omega),unhide HR _,honly.setCell _ _⟩
    case measure=>simp [intOf]; omega
  ·have hke:k = n:=by omega
   subst hke
   rw [List.take_of_length_le (by omega),List.take_of_length_le (by omega)] at hval
   rw [List.drop_eq_nil_of_le (by omega),List.append_nil] at hr
   have HV:=hide hval
   clear hval hpl hdl hxl
   go_wp2
   go_ret
   exact ⟨out,c,ret_bool (a:=((c:Int) != 0)) (bne_cast c),hol,how,hcl,unhide HV,hr,honly⟩
theorem addInto_nil (B p n cap cap':Nat) (a:Option Addr) (pre d post:List Nat) (w:World) (hp:Hid (pre.length = p)) (hd:Hid (d.length = n)) (hlen:n≤40000)
  (wd:Pl.Wf d) (hrow:Row w B (pre ++ d ++ post)) :
  Calls Tryz.prog 182 #[.slice (some ⟨B,p,none⟩) n cap,.slice a 0 cap'] w
   fun e w'=>∃ (out:List Nat) (c:Nat),e = .returned (.bool (c != 0))∧out.length = n∧Pl.Wf out∧c≤1∧Pl.val out+4294967296 ^ n * c = Pl.val d∧Row w' B (pre ++ out ++ post)∧Only B w w':=by
 go_enter Tryz.func182,Tryz.ntmps182
 go_wp2
 go_loopw [5,9] (fun t i wr=>∃ (k c:Nat) (out:List Nat),k≤n∧i = .int .i64 k∧t = .int .u64 (c:Int)∧c≤1∧out.length = k∧Pl.Wf out ∧
   Pl.val out+4294967296 ^ k * c = Pl.val (d.take k)∧Row wr B (pre ++ (out ++ d.drop k) ++ post)∧Only B w wr) (fun _ i _=>n - (intOf i).toNat)
 case atStart=>exact ⟨0,0,[],Nat.zero_le _,rfl,rfl,by omega,rfl,Pl.wf_nil,by simp [Pl.val],by simpa using hrow,Only.refl _ _⟩
 case round=>
  obtain ⟨k,c,out,hk,rfl,rfl,hcl,hol,how,hval,hr,honly⟩:=hrel
  have hpl:=unhide hp
  have hdl:=unhide hd
  by_cases hlt:k < n
  ·obtain ⟨y,hy⟩:∃ y,y = d[k]?.getD 0:=⟨_,rfl⟩
   have hy1:y < 4294967296:=by rw [hy]; exact Pl.wf_at wd k
   have hcd:wr.cell? ⟨B,p+k,none⟩ = some (.int .u32 (y:Int)):=by
    rw [hr.cell (p+k) (by simp; omega),← hpl,at_mid _ _ _ _ _ hol (by omega),hy]
   have hfz:wr.frozen? ⟨B,p+k,none⟩ = false:=hr.frozen _
   have HV:Hid (∀ q r,c+y = q * 4294967296+r→Pl.val (out ++ [r])+4294967296 ^ (k+1) * q = Pl.val (d.take (k+1))):=fun q r e=>by
    rw [Pl.val_append,Pl.val_one,hol,Pl.val_take_any d k,← hy]
    have h0:Pl.val out+4294967296 ^ k * c = Pl.val (d.take k)+0:=hval
    have h1:=Pl.step_add (s:=0) _ (Nat.pow_succ ..) h0 (c+y) q r e y rfl
    rw [Nat.mul_zero,Nat.add_zero] at h1
    exact h1
   have HR:Hid (∀ v,Row (wr.setCell ⟨B,p+k,none⟩ (.int .u32 ((v:Nat):Int))) B (pre ++ ((out ++ [v]) ++ d.drop (k+1)) ++ post)):=fun v=>by
    have:=hr.set (p+k) v (by simp; omega)
    rw [← hpl] at this ⊢
    rwa [set_mid _ _ _ _ _ _ hol (by omega)] at this
   clear hval hy hr hpl hdl
   go_wp2
   go_roundw
   case rel=>
    have e1:((c:Int)+(y:Int)) / 4294967296 = (((c+y) / 4294967296:Nat):Int):=by omega
    have e2:((c:Int)+(y:Int)) % 4294967296 = (((c+y) % 4294967296:Nat):Int):=by omega
    rw [e1,e2]
    exact ⟨k+1,(c+y) / 4294967296,out ++ [(c+y) % 4294967296],by omega,by go_num,rfl,by omega,by simp [hol],Pl.wf_append how (Pl.wf_one (by omega)),unhide HV _ _ (by omega),unhide HR _,honly.setCell _ _⟩
   case measure=>simp [intOf]; omega
  ·have hke:k = n:=by omega
   subst hke
   rw [List.take_of_length_le (by omega)] at hval
   rw [List.drop_eq_nil_of_le (by omega),List.append_nil] at hr
   have HV:=hide hval
   clear hval hpl hdl
   go_wp2
   go_ret
   exact ⟨out,c,ret_bool (a:=((c:Int) != 0)) (bne_cast c),hol,how,hcl,unhide HV,hr,honly⟩
theorem word_some (b off cap n:Nat) (xs:List Nat) (w:World) (hn:Hid (xs.length = n)) (hn2:n≤2) (hw:Pl.Wf xs)
  (hc:∀ j,j < n→w.cell? ⟨b,off+j,none⟩ = some (.int .u32 ((xs[j]?.getD 0:Nat):Int))) :
  Calls Tryz.prog 134 #[.slice (some ⟨b,off,none⟩) n cap] w fun e w'=>e = .returned (.int .u64 (Pl.val xs:Int))∧w = w':=by
 go_enter Tryz.func134,Tryz.ntmps134
 go_wp2
 go_loop [3,4] (fun r i=>∃ (k acc:Nat),k≤n∧i = .int .i64 ((k:Int) - 1)∧r = .int .u64 (acc:Int)∧acc = Pl.val (xs.drop k)) (fun _ i=>(intOf i+1).toNat)
 case atStart=>exact ⟨n,0,Nat.le_refl _,rfl,rfl,by rw [List.drop_eq_nil_of_le (by rw [unhide hn]; omega)]; rfl⟩
 case round=>
  obtain ⟨k,acc,hk,rfl,rfl,hv⟩:=hrel
  by_cases hk0:k = 0
  ·subst hk0
   have HV:=hide hv
   clear hv
   go_wp2
   go_ret
   exact ⟨ret_int (by rw [unhide HV,List.drop_zero]),rfl⟩
  ·obtain ⟨j,rfl⟩:∃ j,k = j+1:=⟨k - 1,by omega⟩
   obtain ⟨x,hxx⟩:∃ x,x = xs[j]?.getD 0:=⟨_,rfl⟩
   have hnl:=unhide hn
   have hx1:x < 4294967296:=by rw [hxx]; exact Pl.wf_at hw j
   have hacc:acc < 4294967296:=by
    have h1:=Pl.val_lt (Pl.wf_drop hw (j+1))
    have h2:(xs.drop (j+1)).length≤1:=by rw [List.length_drop]; omega
    have h3:=Pl.pow_le h2
    rw [← hv] at h1
    omega
   have hcx:=hc j (by omega)
   rw [← hxx] at hcx
   obtain ⟨t,ht⟩:∃ t,t = acc * 4294967296+x:=⟨_,rfl⟩
   have hor:Go.bits BinOp.or IntKind.u64 ((acc:Int) * 4294967296) (x:Int) = (t:Int):=by rw [or_limb acc x hacc hx1,ht]; omega
   have HT:Hid (t = Pl.val (xs.drop j)):=by
    rw [Pl.drop_cons xs j (by omega),← hxx]
    show t = x+4294967296 * Pl.val (xs.drop (j+1))
    rw [← hv,ht]; omega
   clear hxx ht hv hnl hc
   go_wp2
   go_round
   case rel=>exact ⟨j,t,by omega,rfl,rfl,unhide HT⟩
   case measure=>simp [intOf]
theorem word_any (a:Option Addr) (n cap m:Nat) (w:World) (h:Num w a n m) (hn2:n≤2) :
  Calls Tryz.prog 134 #[.slice a n cap] w fun e w'=>e = .returned (.int .u64 (m:Int))∧w = w':=by
 obtain ⟨xs,hn,hl,hw,hN,hv,hb⟩:=h
 rcases hl.parts with hx|⟨hp,b,off,rfl,hlt,hc⟩
 ·have hn0:n = 0:=by rw [← hn,hx]; rfl
  have hm0:m = 0:=by rw [← hv,hx]; rfl
  subst hn0 hm0
  clear hn hv hl hw hN hb hx
  go_enter Tryz.func134,Tryz.ntmps134
  go_wp2
  refine wp_loop_rounds 1 ?_
  rw [rounds_succ]
  go_wp2
  go_ret
  exact ⟨rfl,rfl⟩
 ·rw [← hv]
  exact word_some b off cap n xs w (hide hn) hn2 hw (fun j hj=>hc j (by omega))
theorem low_small (a:Option Addr) (n cap m:Nat) (w:World) (h:Num w a n m) (hn2:n≤2) :
  Calls Tryz.prog 124 #[.agg #[.slice a n cap]] w fun e w'=>e = .returned (.tuple #[.int .u64 (m:Int),.bool true])∧Below w.heap.size w w':=by
 have H:=hide h
 obtain ⟨xs,hn,hl,hw,hN,hv,hb⟩:=h
 have hck:=check_any a cap xs (w.alloc (.cells #[.slice a n cap] 28)) (by omega) (hl.alloc _)
 rw [hn,chk_ok (by omega) hN] at hck
 have HK:=hide hck
 clear hck hl hn hv
 go_enter Tryz.func124,Tryz.ntmps124
 go_wp2_with fail
 refine (unhide HK).mono ?_
 rintro e w1 ⟨rfl,hb1⟩
 obtain ⟨hc1,hf1⟩:=bcell hb1
 go_wp2_with fail
 refine (word_any a n cap m w1 (((unhide H).alloc _).kept hb1) hn2).mono ?_
 rintro e w2 ⟨rfl,rfl⟩
 go_wp2
 go_ret2
 exact ⟨rfl,gr_trans (gr_alloc _ _) hb1⟩
theorem tt_step {o p c d f s B y t hi lo r bo:Nat} (B':Nat) (hB:B' = B * 4294967296) (h:o+f * p = d+B * c) (ht:t = c+s * f) (e:t = 4294967296 * hi+lo) (hr:r+lo = y+4294967296 * bo) :
  (o+B * r)+f * (p+B * s) = (d+B * y)+B' * (hi+bo):=by
 subst hB
 have e1:B * t = B * 4294967296 * hi+B * lo:=by rw [e,Nat.mul_add,Nat.mul_assoc]
 have e2:B * t = B * c+f * (B * s):=by rw [ht,Nat.mul_add]; congr 1; rw [Nat.mul_comm s f,Nat.mul_left_comm]
 have e3:B * (r+lo) = B * (y+4294967296 * bo):=by rw [hr]
 rw [Nat.mul_add,Nat.mul_add,← Nat.mul_assoc] at e3
 rw [Nat.mul_add,Nat.mul_add]
 omega
theorem tt_bound {c f s hi lo:Nat} (hc:c≤f) (hs:s < 4294967296) (e:c+s * f = 4294967296 * hi+lo) (hl:lo < 4294967296):hi≤f∧(hi = f→lo = 0):=by
 have h1:s * f≤4294967295 * f:=Nat.mul_le_mul_right _ (by omega)
 constructor <;> omega
theorem tt_end {o v d c B B' r y bo:Nat} (hB:B' = B * 4294967296) (h:o+v = d+B * c) (e:r+c = y+4294967296 * bo):o+B * r+v = d+B * y+B' * bo:=by
 subst hB
 have e3:B * (r+c) = B * (y+4294967296 * bo):=by rw [e]
 rw [Nat.mul_add,Nat.mul_add,← Nat.mul_assoc] at e3
 omega
def TakeTo (B:Nat) (pre post d xs:List Nat) (f n:Nat) (w:World) (e:Ending) (w':World):Prop:=
 ∃ (out:List Nat) (bo:Bool),e = .returned (.bool bo)∧out.length = n+1∧Pl.Wf out∧Pl.val out+f * Pl.val xs = Pl.val d+4294967296 ^ (n+1) * bo.toNat∧Row w' B (pre ++ out ++ post)∧Only B w w'
theorem tt_e2 (y t:Nat) (hy:y < 4294967296) (h:(y:Int) < (t:Int) % 4294967296):((y:Int) - (t:Int)) % 4294967296 = ((y+4294967296 - t % 4294967296:Nat):Int):=by omega
theorem tt_e3 (y c:Nat) (hc:c < 4294967296) (h:(y:Int) < (c:Int)):((y:Int) - (c:Int)) % 4294967296 = ((y+4294967296 - c:Nat):Int):=by omega
theorem takeTimes_any (B p n b off cap cap' f:Nat) (pre d post xs:List Nat) (w:World) (hp:Hid (pre.length = p)) (hd:Hid (d.length = n+1)) (hx:Hid (xs.length = n)) (hlen:n≤20000) (hne:b≠B) (hf:f < 4294967296)
  (wd:Pl.Wf d) (wx:Pl.Wf xs) (hrow:Row w B (pre ++ d ++ post))
  (hc:∀ j,j < n→w.cell? ⟨b,off+j,none⟩ = some (.int .u32 ((xs[j]?.getD 0:Nat):Int))) :
  Calls Tryz.prog 181 #[.slice (some ⟨B,p,none⟩) (n+1) cap,.slice (some ⟨b,off,none⟩) n cap',.int .u32 (f:Int)] w
   (TakeTo B pre post d xs f n w):=by
 go_enter Tryz.func181,Tryz.ntmps181
 go_wp2
 go_loopw [7,15] (fun t i wr=>∃ (k c:Nat) (out:List Nat),k≤n∧i = .int .i64 k∧t = .int .u64 (c:Int)∧c≤f∧out.length = k∧Pl.Wf out ∧
   Pl.val out+f * Pl.val (xs.take k) = Pl.val (d.take k)+4294967296 ^ k * c∧Row wr B (pre ++ (out ++ d.drop k) ++ post)∧Only B w wr) (fun _ i _=>n - (intOf i).toNat)
 case atStart=>exact ⟨0,0,[],Nat.zero_le _,rfl,rfl,by omega,rfl,Pl.wf_nil,by simp [Pl.val],by simpa using hrow,Only.refl _ _⟩
 case round=>
  obtain ⟨k,c,out,hk,rfl,rfl,hcl,hol,how,hval,hr,honly⟩:=hrel
  have HVal:=hide hval
  clear hval
  have hpl:=unhide hp
  have hdl:=unhide hd
  have hxl:=unhide hx
  obtain ⟨y,hy⟩:∃ y,y = d[k]?.getD 0:=⟨_,rfl⟩
  have hy1:y < 4294967296:=by rw [hy]; exact Pl.wf_at wd k
  have hcd:wr.cell? ⟨B,p+k,none⟩ = some (.int .u32 (y:Int)):=by
   rw [hr.cell (p+k) (by simp; omega),← hpl,at_mid _ _ _ _ _ hol (by omega),hy]
  have hfz:wr.frozen? ⟨B,p+k,none⟩ = false:=hr.frozen _
  have HR:Hid (∀ v,Row (wr.setCell ⟨B,p+k,none⟩ (.int .u32 ((v:Nat):Int))) B (pre ++ ((out ++ [v]) ++ d.drop (k+1)) ++ post)):=fun v=>by
   have:=hr.set (p+k) v (by simp; omega)
   rw [← hpl] at this ⊢
   rwa [set_mid _ _ _ _ _ _ hol (by omega)] at this
  by_cases hlt:k < n
  ·obtain ⟨x,hxx⟩:∃ x,x = xs[k]?.getD 0:=⟨_,rfl⟩
   have hx1:x < 4294967296:=by rw [hxx]; exact Pl.wf_at wx k
   have hcx:wr.cell? ⟨b,off+k,none⟩ = some (.int .u32 (x:Int)):=by rw [hxx]; exact (honly.cell (by exact hne)).trans (hc k hlt)
   obtain ⟨t,ht⟩:∃ t,t = c+x * f:=⟨_,rfl⟩
   have hm0:=mul_lo x f
   have hm1:=mul_hi hx1 hf
   have hti:(c:Int)+(x:Int) * (f:Int) = (t:Int):=by rw [ht]; push_cast; rfl
   have ht1:t < 18446744073709551616:=by omega
   have hb2:=tt_bound hcl hx1 (by rw [← ht]; exact (Nat.div_add_mod t 4294967296).symm) (Nat.mod_lt _ (by decide))
   have HV:Hid (∀ r bo,r+t % 4294967296 = y+4294967296 * bo→Pl.val (out ++ [r])+f * Pl.val (xs.take (k+1)) = Pl.val (d.take (k+1))+4294967296 ^ (k+1) * (t / 4294967296+bo)):=fun r bo e=>by
    rw [Pl.val_append,Pl.val_one,hol,Pl.val_take_any d k,Pl.val_take_any xs k,← hy,← hxx]
    exact tt_step _ (Nat.pow_succ ..) (unhide HVal) ht (Nat.div_add_mod t 4294967296).symm e
   clear HVal hy hxx hr hpl hdl hxl hc ht
   by_cases hbo:y < t % 4294967296
   ·have hbi:(y:Int) < (t:Int) % 4294967296:=by omega
    clear hbo
    go_wp2
    go_roundw
    case rel=>
     have e1:(t:Int) / 4294967296+1 = ((t / 4294967296+1:Nat):Int):=by omega
     have e2:=tt_e2 y t hy1 hbi
     rw [e1,e2]
     exact ⟨k+1,t / 4294967296+1,out ++ [y+4294967296 - t % 4294967296],by omega,by go_num,rfl,by omega,by simp [hol],Pl.wf_append how (Pl.wf_one (by omega)),unhide HV _ 1 (by omega),unhide HR _,honly.setCell _ _⟩
    case measure=>simp [intOf]; omega
   ·have hbi:(t:Int) % 4294967296≤(y:Int):=by omega
    clear hbo
    go_wp2
    go_roundw
    case rel=>
     have e1:(t:Int) / 4294967296 = ((t / 4294967296:Nat):Int):=by omega
     have e2:(y:Int) - (t:Int) % 4294967296 = ((y - t % 4294967296:Nat):Int):=by omega
     rw [e1,e2]
     exact ⟨k+1,t / 4294967296,out ++ [y - t % 4294967296],by omega,by go_num,rfl,hb2.1,by simp [hol],Pl.wf_append how (Pl.wf_one (by omega)),unhide HV _ 0 (by omega),unhide HR _,honly.setCell _ _⟩
    case measure=>simp [intOf]; omega
  ·have hke:k = n:=by omega
   subst hke
   have hxt:xs.take k = xs:=List.take_of_length_le (by omega)
   have hdt:d.take (k+1) = d:=List.take_of_length_le (by omega)
   have HV:Hid (∀ r (bo:Bool),r+c = y+4294967296 * bo.toNat→Pl.val (out ++ [r])+f * Pl.val xs = Pl.val d+4294967296 ^ (k+1) * bo.toNat):=fun r bo e=>by
    have hd2:Pl.val d = Pl.val (d.take k)+4294967296 ^ k * y:=by
     have:=Pl.val_take_any d k
     rw [hdt,← hy] at this
     exact this
    rw [Pl.val_append,Pl.val_one,hol,hd2]
    have hval:=unhide HVal
    rw [hxt] at hval
    exact tt_end (Nat.pow_succ ..) hval e
   have HD:Hid (d.drop (k+1) = []):=List.drop_eq_nil_of_le (by omega)
   clear HVal hy hr hpl hdl hxl hc hxt hdt
   by_cases hbo:y < c
   ·have hbi:(y:Int) < (c:Int):=by omega
    clear hbo
    go_wp2
    go_ret
    have e2:=tt_e3 y c (by omega) hbi
    rw [e2]
    have hR:=unhide HR (y+4294967296 - c)
    rw [unhide HD,List.append_nil] at hR
    exact ⟨out ++ [y+4294967296 - c],true,rfl,by simp [hol],Pl.wf_append how (Pl.wf_one (by omega)),unhide HV _ true (by simp; omega),hR,honly.setCell _ _⟩
   ·have hbi:¬ (y:Int) < (c:Int):=by omega
    clear hbo
    go_wp2
    go_ret
    have e2:(y:Int) - (c:Int) = ((y - c:Nat):Int):=by omega
    rw [e2]
    have hR:=unhide HR (y - c)
    rw [unhide HD,List.append_nil] at hR
    exact ⟨out ++ [y - c],false,rfl,by simp [hol],Pl.wf_append how (Pl.wf_one (by omega)),unhide HV _ false (by simp; omega),hR,honly.setCell _ _⟩
theorem any_symZ {P:Program} {ops:Array Oper} {Q:Exit→Act→World→Prop} {T0:Array Value} {n:Nat} {L:Ks} {G:World→Prop} {w0:Fr0} (S:Pqs→List Spo) {W:World} {E:List Bx} (z:Nat) (hE:∀ x,x∈E→W.heap[x.b]? = some (.cells x.cs x.t (0,0))) (hfr:w0.to W) (hK:Kn T0 n L) (hB:SymB ops n L E S)
  (hlow:∀ x,x∈E→x.my = true→w0.own x.b) (hne:∀ (j k:Nat) (x y:Bx),E[j]? = some x→E[k]? = some y→x.my = true→j≠k→x.b≠y.b)
  (hst:Sta G) (h0:G W) (hz:ops.size = z+1) (hwait:∀ j,j < z→reach ops 8 z j = true)
  (hok:∀ p i x,i < z→(S p)[i]? = some x→OkAt P ops L E (S p) G w0 W.heap.size p i x)
  (hcall:∀ p,∃ s v fn args,(S p)[z]? = some (.v s v)∧opRun P ops L (puts p 0 (S p)) z 0 [] = some (some s,true,some (.enter fn args,[]))∧∀ W',SymF E (S p) G w0 W.heap.size p W'→Calls P fn args W' fun e W''=>e = .returned v∧Q .normal ⟨Puts.lay (puts p 0 (S p)) T0,[]⟩ W'') :
  wpAny P .any ops Q ops.size (Array.replicate ops.size false) ⟨T0,[]⟩ W:=by
 have hs:SymS ops T0 n L E S G w0 W.heap.size:=⟨hB.shape,hB.apart,hB.len,fun p=>by rw [hK.size]; exact hB.within p,hB.back,hB.reads,hK,hB.mem,hB.eb,hlow,hne,fun x hx=>block_lt (hE x hx),w0.sized hfr,hst⟩
 refine wpAny_inv (fun l a w=>(l[z]? = some false∧∃ p t,a = ⟨t,[]⟩∧SymI ops T0 E S G w0 W.heap.size p l t w)∨(Region.ready .any ops l = []∧Q .normal a w)) ?_ ?_ _ _ _ _ ?_ (Or.inl ⟨?_,fun _=>pq0,T0,rfl,?_⟩)
 ·rintro l a w i (⟨hlz,p,t,rfl,hI⟩|⟨hr,-⟩) hi hl
  ·have hD:=hI.det p (Agr.refl l p)
   by_cases hiz:i = z
   ·subst hiz
    obtain ⟨s,v,fn,args,hS,hop,hc⟩:=hcall p
    obtain ⟨o,ho,hd,hw,hr⟩:=opRun_at hs.kn hD (hs.apart p) (hs.reads p) hi hl hop
    have hrun:=script_run P 0 _ _ _ _ w hr trivial
    have hup:∀ k,k < i→l[k]? = some true:=fun k hk=>reach_ready hD (hwait k hk) hi
    have hin:∀ k x,(S p)[k]? = some x→k≠i→l[k]? = some true:=fun k x hk hn=>by
     have:=(List.getElem?_eq_some_iff.1 hk).1
     rw [hB.len p,hz] at this
     exact hup k (by omega)
    have hni:∀ k s' cs t',(S p)[k]? = some (.n s' cs t')→k≠i:=fun k s' cs t' h e=>by rw [e,hS] at h; cases h
    have hF:SymF E (S p) G w0 W.heap.size p w:=by
     refine ⟨hI.fr,hI.bs,fun j bx bo hb=>?_,fun k s cs t hk=>hI.nb k s cs t hk (hin k _ hk (hni _ _ _ _ hk)),fun k s cs t k' s' cs' t' hk hk'=>hI.ne k s cs t k' s' cs' t' hk hk' (hin k _ hk (hni _ _ _ _ hk)) (hin k' _ hk' (hni _ _ _ _ hk')),fun k=>?_,hI.gx⟩
     ·rw [hI.mem p (Agr.refl l p) j bx bo hb (fun k hk=>?_)]
      ·congr 2
       refine cellsOf_agree _ _ _ (fun k off xs hk=>?_)
       obtain ⟨x9,hx9,hx8⟩:=Option.bind_eq_some_iff.1 hk
       rw [Nat.zero_add]
       refine isUp_iff.2 (hin k _ hx9 fun e=>?_)
       rw [e,hS] at hx9; cases hx9; cases hx8
      ·rcases boxOf_cases hb with ⟨-,-,h⟩|⟨-,s,cs,t,h,-,h2⟩
       ·rw [h] at hk; cases hk
       ·rw [h2] at hk; rw [← Option.some.inj hk]; exact hin _ _ h (hni _ _ _ _ h)
     ·unfold factOf
      split
      ·rename_i s cf hk
       exact hI.fx k _ cf hk rfl (hin k _ hk fun e=>by rw [e,hS] at hk; cases hk)
      ·rename_i cf hk
       exact hI.fx k _ cf hk rfl (hin k _ hk fun e=>by rw [e,hS] at hk; cases hk)
      ·rename_i s' cs ty hk
       intro hnp
       have hb:boxOf E (S p) p (1000+k) = some (⟨(p k).N,cs,ty % 1000000,true⟩,some k):=by
        unfold boxOf
        rw [show Nat.blt (1000+k) 1000 = false from by cases h:Nat.blt (1000+k) 1000 with
         | false=>rfl
         | true=>rw [Nat.blt_eq] at h; omega]
        simp [hk]
       have h1:=hI.mem p (Agr.refl l p) (1000+k) _ (some k) hb (fun k' e=>by cases e; exact hin k _ hk (hni _ _ _ _ hk))
       rw [cellsOf_none] at h1
       ·exact h1
       intro k' off xs hk'
       exact absurd hk' (noPut_no _ hnp _ _ _)
      ·trivial
    refine wpOp_run ho hw hrun ?_
    rw [Oper.upon_enter]
    refine (hc w hF).mono fun e w' ⟨he,hq⟩=>?_
    subst he
    refine Or.inr ?_
    have hD2:=hD.step (hs.apart p) (hs.within p) hi hl
    rw [puts_i hS] at hD2
    have hall:∀ k,k < ops.size→(l.setIfInBounds i true)[k]? = some true:=fun k hk=>by
     refine (set_up hl).2 ?_
     rcases Nat.lt_or_ge k i with h|h
     ·exact Or.inr (hup k h)
     ·exact Or.inl (by omega)
    constructor
    ·unfold Region.ready
     rw [List.filter_eq_nil_iff]
     intro k hk
     have:=hall k (List.mem_range.1 hk)
     simp [Array.getD_eq_getD_getElem?,this]
    ·have:=hD2.done (hs.apart p) (by rw [puts_len]; exact hs.len p) (hs.within p) hall
     rw [← this] at hq
     rw [hd]
     exact hq
   ·have hlt:i < z:=by
     have:=(Array.getElem?_eq_some_iff.1 hl).1
     rw [hD.len] at this; omega
    refine wpOp_mono (fun a' w' h=>Or.inl ⟨?_,h⟩) (hI.step1 hs (fun p' x hx=>hok p' i x hlt hx) hi hl)
    rw [Array.getElem?_setIfInBounds_ne hiz]; exact hlz
  ·rw [hr] at hi; cases hi
 ·rintro l a w (⟨hlz,p,t,rfl,hI⟩|⟨-,h⟩) hr
  ·have hD:=hI.det p (Agr.refl l p)
   have:=all_up hD.len hB.back hr z (by omega)
   rw [hlz] at this; cases this
  ·exact h
 ·simp
 ·rw [Array.getElem?_replicate,if_pos (by omega)]
 ·have hno:∀ k:Nat,(Array.replicate ops.size false)[k]?≠some true:=fun k h=>by
   rw [Array.getElem?_replicate] at h
   split at h <;> cases h
  have hup:isUp (Array.replicate ops.size false) = fun _=>false:=funext fun k=>isUp_no (hno k)
  refine ⟨fun p' _=>?_,fun p' _ j bx bo hb hal=>?_,hfr,Nat.le_refl _,fun k _ _ _ _ h=>absurd h (hno k),fun k _ _ _ _ _ _ _ _ _ h=>absurd h (hno k),fun k _ _ _ _ h=>absurd h (hno k),h0⟩
  ·constructor
   ·simp
   ·rfl
   ·intro k s v _ h; exact absurd h (hno k)
   ·intro s _; rfl
   ·intro k o h; exact absurd h (hno k)
  ·rcases boxOf_cases hb with ⟨-,hj,-⟩|⟨-,s,cs,t,-,-,h2⟩
   ·rw [hup,cellsOf_none _ _ _ (fun _ _ _ _=>rfl)]
    exact hE bx (List.mem_of_getElem? hj)
   ·exact absurd (hal _ h2) (hno _)
theorem wp_symZ {P:Program} {ops:Array Oper} {Q:Exit→Act→World→Prop} {T0:Array Value} {n:Nat} {L:Ks} {w0:Fr0} {gs:List Gf} {id:Nat} {d:Bool} {W:World} {E:List Bx} (hS:Fb w0 W E) (hG:GsAt gs W) (hK:Kn T0 n L) (S:Pqs→List Spo) (L1:Pqs→Ks) (hm:P.follows .mixedOrders = true) (hsh:∀ p p',(S p).map Spo.bare = (S p').map Spo.bare) (hB:∀ p,symB ops n L E (S p) p (L1 p) = true) (hL:∀ p,(L1 p).map (fun x=>slotAt L x.1 (S p).length (puts p 0 (S p))) = (L1 p).map (·.2))
  (z s:Nat) (v:Pqs→Value) (fn:FuncId) (args:Pqs→Array Value) (hz:(Nat.beq ops.size (z+1) && (List.range z).all (fun j=>reach ops 8 z j)) = true) (hSz:∀ p,(S p)[z]? = some (.v s (v p)))
  (hcall:∀ p,opRun P ops L (puts p 0 (S p)) z 0 [] = some (some s,true,some (.enter fn (args p),[])))
  (hok:∀ p,Oks P ops L E (S p) (GsAt gs) w0 W.heap.size p 0 ((S p).take z))
  (hfin:∀ p W',SymF E (S p) (GsAt gs) w0 W.heap.size p W'→Calls P fn (args p) W' fun e W''=>e = .returned (v p)∧∀ T1,Kn T1 n (L1 p)→Q .normal ⟨T1,[]⟩ W'') :
  (Code.region id ops d).wp P Q ⟨T0,[]⟩ W:=by
 have hB':∀ p,_:=fun p=>by
  have:=hB p
  simp only [symB,Bool.and_eq_true] at this
  exact this
 rw [Bool.and_eq_true] at hz
 have hz1:=Nat.eq_of_beq_eq_true hz.1
 have hz2:∀ j,j < z→reach ops 8 z j = true:=fun j hj=>List.all_eq_true.1 hz.2 j (List.mem_range.2 hj)
 have HB:SymB ops n L E S:=⟨hsh,fun p=>(hB' p).1.1.1.1.1.1.1,fun p=>Nat.eq_of_beq_eq_true (hB' p).1.1.1.1.1.1.2,fun p=>(hB' p).1.1.1.1.1.2,(hB' fun _=>pq0).1.1.1.1.2,fun p=>(hB' p).1.1.1.2,fun p=>(hB' p).1.1.2,(hB' fun _=>pq0).1.2⟩
 have hok':∀ p i x,i < z→(S p)[i]? = some x→OkAt P ops L E (S p) (GsAt gs) w0 W.heap.size p i x:=fun p i x hi hx=>by
  have:=Oks.at ((S p).take z) 0 i x (hok p) (by rw [List.getElem?_take,if_pos hi]; exact hx)
  rwa [Nat.zero_add] at this
 have hc:∀ p,∃ s v fn args,(S p)[z]? = some (.v s v)∧opRun P ops L (puts p 0 (S p)) z 0 [] = some (some s,true,some (.enter fn args,[]))∧∀ W',SymF E (S p) (GsAt gs) w0 W.heap.size p W'→Calls P fn args W' fun e W''=>e = .returned v∧Q .normal ⟨Puts.lay (puts p 0 (S p)) T0,[]⟩ W'':=fun p=>
  ⟨s,v p,fn,args p,hSz p,hcall p,fun W' hF=>(hfin p W' hF).mono fun e W'' ⟨he,hq⟩=>⟨he,hq _ (kn_out hK (hB' p).1.1.1.1.1.1.1 (hB' p).1.1.1.1.1.2 _ (by rw [puts_len]; exact (hB' p).2) (by rw [puts_len]; exact hL p))⟩⟩
 cases d with
 | true=>exact wp_region_any hm (any_symZ S (W:=W.drew) z hS.bx (w0.kept hS.fr (Below.refl _ _).drew) hK HB hS.low.of hS.ne.of (gs_sta gs) ((gs_sta gs).kept W _ (Below.refl _ _).drew hG) hz1 hz2 hok' hc)
 | false=>
  refine wp_region ?_
  have:=ops_of_any HB.back ops.size 0 (by omega) _ _ _ (by simp) (fun j hj=>by rw [Array.getElem?_replicate]; simp [hj]) (any_symZ S z hS.bx hS.fr hK HB hS.low.of hS.ne.of (gs_sta gs) hG hz1 hz2 hok' hc)
  rwa [← List.range_eq_range'] at this
theorem body_n {P:Program} {fn:Func} {R:Ending→World→Prop} {a:Act} {w:World} (h:bodyPost P fn R .ret a w):bodyPost P fn R .normal a w:=h
theorem xr_ok2 (w:World) (s:Bool) (a:Option Addr) (n c m:Nat) (z:Int) (i j V M:Nat) (h:Num w a n m) (hx:-1073741824≤z∧z≤1073741824) (hi:max z 0 = (i:Int)) (hj:max (-z) 0 = (j:Int)) (HC:Hid (∀ (W:World) (A:Option Addr) (N C:Nat),Num W A N m→Calls Tryz.prog 30 #[.agg #[.bool s,.slice A N C,.int .i64 z]] W fun e w'=>e = .returned (.int .i64 0)∧Below W.heap.size W w')) (HU:Hid (∀ (W:World) (A:Option Addr) (N C:Nat),Num W A N m→Calls Tryz.prog 31 #[.agg #[.slice A N C],.int .i64 (i:Int)] W fun en W'=>(∃ a n c,en = .returned (.tuple #[.agg #[.slice a n c],.int .i64 0])∧Mine W' W.heap.size a n c V)∧Below W.heap.size W W')) (HD:Hid (∀ (W:World) (A:Option Addr) (N C:Nat),Num W A N 1→Calls Tryz.prog 31 #[.agg #[.slice A N C],.int .i64 (j:Int)] W fun en W'=>(∃ a n c,en = .returned (.tuple #[.agg #[.slice a n c],.int .i64 0])∧Mine W' W.heap.size a n c M)∧Below W.heap.size W W')) :
  Calls Tryz.prog 11 #[.agg #[.bool s,.slice a n c,.int .i64 z]] w fun en w'=>(∃ A N C A' N' C',en = .returned (.tuple #[.agg #[.bool s,.slice A N C,.slice A' N' C'],.int .i64 0])∧Mine w' w.heap.size A N C V∧Mine w' w.heap.size A' N' C' M)∧Below w.heap.size w w':=by
 refine calls_sym Tryz.func11 rfl (by kernel_rfl) fun T hK=>?_
 replace hK:Kn T _ [(0,.agg #[.bool s,.slice a n c,.int .i64 z])]:=hK
 have hS:=Fb.begin w
 have hG:GsAt [gN a n m] w:=⟨h,trivial⟩
 refine wq hS hG hK (fun p1=>[.n 1 #[.bool s,.slice a n c,.int .i64 z] 30,.n 2 #[.bool false,.slice none 0 0,.slice none 0 0] 41,.v 3 (.int .i64 0)]) (fun p1=>[(1,pT (p1 0).N 0),(2,pT (p1 1).N 0),(3,.int .i64 0)]) (fun p1=>?_) (fun p1 W1 T hF hK=>?_)
 ·iterate 2 refine okn ?_
  refine okv ?_
  exact ok_nil
 replace hS:=SymF.fc hS hF [1000,1001] [⟨(p1 0).N,#[.bool s,.slice a n c,.int .i64 z],30,true⟩,⟨(p1 1).N,#[.bool false,.slice none 0 0,.slice none 0 0],41,true⟩]
 replace hG:=hF.gx
 clear hF
 refine wp_seq ?_
 refine wq hS hG hK (fun p2=>[.l 8 (.agg #[.bool s,.slice a n c,.int .i64 z]) 0 0,.c (some 9) (cV (.int .i64 0)),.v 4 (.int .i64 0)]) (fun p2=>[(1,pT (p1 0).N 0),(2,pT (p1 1).N 0),(3,.int .i64 0),(4,.int .i64 0)]) (fun p2=>?_) (fun p2 W2 T hF hK=>?_)
 ·refine okl ?_
  refine okc (fun W cx=>as_v (unhide HC _ _ _ c (cx.G.1))) ?_
  refine okv ?_
  exact ok_nil
 obtain ⟨hS,hG⟩:=SymF.fg hS hF
 clear hF
 refine wq hS hG hK (fun p3=>[.v 10 (.int .i64 0),.v 11 (.bool false)]) (fun p3=>[(1,pT (p1 0).N 0),(2,pT (p1 1).N 0),(3,.int .i64 0),(4,.int .i64 0),(11,.bool false)]) (fun p3=>?_) (fun p3 W3 T hF hK=>?_)
 ·iterate 2 refine okv ?_
  exact ok_nil
 obtain ⟨hS,hG⟩:=SymF.fg hS hF
 clear hF
 have z3:=hS.fr.size
 refine wp_cond_false (hK.ew 11) (wp_skip (then_n ?_))
 refine wq hS hG hK (fun p4=>[.v 15 (pT (p1 0).N 1),.l 16 (.agg #[.slice a n c]) 0 1,.v 17 (pT (p1 0).N 2),.l 18 (.int .i64 z) 0 2,.v 19 (.int .i64 (i:Int)),.c (some 20) (cO W3.heap.size V),.v 14 (.tuple #[.agg #[.slice (p4 5).A (p4 5).N (p4 5).C],.int .i64 0]),.v 21 (.agg #[.slice (p4 5).A (p4 5).N (p4 5).C]),.v 22 (.int .i64 0),.n 5 #[.slice none 0 0] 28,.p 1009 0 [.slice (p4 5).A (p4 5).N (p4 5).C],.v 6 (.int .i64 0)]) (fun p4=>[(1,pT (p1 0).N 0),(2,pT (p1 1).N 0),(3,.int .i64 0),(4,.int .i64 0),(5,pT (p4 9).N 0),(6,.int .i64 0)]) (fun p4=>?_) (fun p4 W4 T hF hK=>?_)
 ·refine okv ?_
  refine okl ?_
  refine okv ?_
  refine okl ?_
  refine okvi ((imax z 0).trans hi) ?_
  refine okc (fun W cx=>as_o cx.hb (unhide HU _ _ _ c (cx.G.1))) ?_
  iterate 3 refine okv ?_
  refine okn ?_
  refine okp ?_
  refine okv ?_
  exact ok_nil
 replace hS:=SymF.fc hS hF [0,1,1009] [⟨(p1 0).N,#[.bool s,.slice a n c,.int .i64 z],30,true⟩,⟨(p1 1).N,#[.bool false,.slice none 0 0,.slice none 0 0],41,true⟩,⟨(p4 9).N,#[.slice (p4 5).A (p4 5).N (p4 5).C],28,true⟩]
 replace hG:GsAt (gM W3.heap.size (p4 5).A (p4 5).N (p4 5).C V :: _) W4:=⟨hF.fx 5,hF.gx⟩
 clear hF
 refine wp_seq ?_
 refine wq hS hG hK (fun p5=>[.v 23 (.int .i64 0),.v 24 (.bool false)]) (fun p5=>[(1,pT (p1 0).N 0),(2,pT (p1 1).N 0),(3,.int .i64 0),(4,.int .i64 0),(5,pT (p4 9).N 0),(6,.int .i64 0),(24,.bool false)]) (fun p5=>?_) (fun p5 W5 T hF hK=>?_)
 ·iterate 2 refine okv ?_
  exact ok_nil
 obtain ⟨hS,hG⟩:=SymF.fg hS hF
 clear hF
 have z5:=hS.fr.size
 refine wp_cond_false (hK.ew 24) (wp_skip (then_n ?_))
 refine wq hS hG hK (fun p6=>[.c (some 28) (cN W5.heap.size 1),.v 29 (pT (p1 0).N 2),.l 30 (.int .i64 z) 0 2,.v 31 (.int .i64 (-z)),.v 32 (.int .i64 (j:Int)),.c (some 33) (cO W5.heap.size M),.v 27 (.tuple #[.agg #[.slice (p6 5).A (p6 5).N (p6 5).C],.int .i64 0]),.v 34 (.agg #[.slice (p6 5).A (p6 5).N (p6 5).C]),.v 35 (.int .i64 0),.n 7 #[.slice none 0 0] 28,.p 1009 0 [.slice (p6 5).A (p6 5).N (p6 5).C],.v 6 (.int .i64 0)]) (fun p6=>[(1,pT (p1 0).N 0),(2,pT (p1 1).N 0),(3,.int .i64 0),(4,.int .i64 0),(5,pT (p4 9).N 0),(6,.int .i64 0),(7,pT (p6 9).N 0)]) (fun p6=>?_) (fun p6 W6 T hF hK=>?_)
 ·refine okc (fun W cx=>as_n cx.hb (of_any 1 _ (by decide))) ?_
  refine okv ?_
  refine okl ?_
  refine okvi ((wr64 (x:=0 - z) (by omega) (by omega)).trans (by omega)) ?_
  refine okvi ((imax (-z) 0).trans hj) ?_
  refine okc (fun W cx=>as_o cx.hb (unhide HD _ _ _ (p6 0).C (Mine.num (cx.F 0 (by kernel_rfl))))) ?_
  iterate 3 refine okv ?_
  refine okn ?_
  refine okp ?_
  refine okv ?_
  exact ok_nil
 replace hS:=SymF.fc hS hF [0,1,2,1009] [⟨(p1 0).N,#[.bool s,.slice a n c,.int .i64 z],30,true⟩,⟨(p1 1).N,#[.bool false,.slice none 0 0,.slice none 0 0],41,true⟩,⟨(p4 9).N,#[.slice (p4 5).A (p4 5).N (p4 5).C],28,true⟩,⟨(p6 9).N,#[.slice (p6 5).A (p6 5).N (p6 5).C],28,true⟩]
 replace hG:GsAt (gM W5.heap.size (p6 0).A (p6 0).N (p6 0).C 1 :: gM W5.heap.size (p6 5).A (p6 5).N (p6 5).C M :: _) W6:=⟨hF.fx 0,hF.fx 5,hF.gx⟩
 clear hF
 refine wp_seq ?_
 refine wq hS hG hK (fun p7=>[.v 36 (.int .i64 0),.v 37 (.bool false)]) (fun p7=>[(1,pT (p1 0).N 0),(2,pT (p1 1).N 0),(3,.int .i64 0),(4,.int .i64 0),(5,pT (p4 9).N 0),(6,.int .i64 0),(7,pT (p6 9).N 0),(37,.bool false)]) (fun p7=>?_) (fun p7 W7 T hF hK=>?_)
 ·iterate 2 refine okv ?_
  exact ok_nil
 obtain ⟨hS,hG⟩:=SymF.fg hS hF
 clear hF
 refine wp_cond_false (hK.ew 37) (wp_skip (then_n ?_))
 refine wq hS hG hK (fun p8=>[.v 40 (pT (p1 0).N 0),.l 41 (.bool s) 0 0,.l 42 (.agg #[.slice (p4 5).A (p4 5).N (p4 5).C]) 2 0,.l 43 (.agg #[.slice (p6 5).A (p6 5).N (p6 5).C]) 3 0,.v 44 (.agg #[.bool s,.slice (p4 5).A (p4 5).N (p4 5).C,.slice (p6 5).A (p6 5).N (p6 5).C]),.p 1 0 [.bool s,.slice (p4 5).A (p4 5).N (p4 5).C,.slice (p6 5).A (p6 5).N (p6 5).C],.v 3 (.int .i64 0)]) (fun p8=>[(2,pT (p1 1).N 0),(3,.int .i64 0),(4,.int .i64 0),(6,.int .i64 0)]) (fun p8=>?_) (fun p8 W8 T hF hK=>?_)
 ·refine okv ?_
  iterate 3 refine okl ?_
  refine okv ?_
  refine okp ?_
  refine okv ?_
  exact ok_nil
 replace hS:=SymF.fc hS hF [1] [⟨(p1 1).N,#[.bool s,.slice (p4 5).A (p4 5).N (p4 5).C,.slice (p6 5).A (p6 5).N (p6 5).C],41,true⟩]
 replace hG:=hF.gx
 clear hF
 refine wp_ret ?_
 exact sym_end hS hK (.tuple #[.agg #[.bool s,.slice (p4 5).A (p4 5).N (p4 5).C,.slice (p6 5).A (p6 5).N (p6 5).C],.int .i64 0]) [(0,0,3)] [.bool s,.slice (p4 5).A (p4 5).N (p4 5).C,.slice (p6 5).A (p6 5).N (p6 5).C] (by kernel_rfl) (by kernel_rfl) ⟨⟨_,_,_,_,_,_,rfl,Mine.mono hG.2.2.1 z3,Mine.mono hG.2.1 z5⟩,hS.fr⟩
end Go.Proofs.YteafdlblemdclaaGreatDoor
