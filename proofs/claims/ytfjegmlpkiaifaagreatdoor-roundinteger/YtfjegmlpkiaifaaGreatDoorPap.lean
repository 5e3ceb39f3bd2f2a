/- Of what RoundIntegerRow stands on: TakeTimes AddInto TakeInto PutNum FmParts FmKnown Pick Sym Sym2 PickV. -/
import Derived.Test.YtfjegmlpkiaifaaGreatDoorPaf
import Derived.Test.YtfjegmlpkiaifaaGreatDoorPae
import Derived.Test.YtfjegmlpkiaifaaGreatDoorPab
namespace Go.Proofs.YtfjegmlpkiaifaaGreatDoor
open Go.RowKit
set_option maxHeartbeats 400000
theorem tt_step {o p c d f s B y t hi lo r bo:Nat} (B':Nat) (hB:B' = B * 4294967296) (h:o+f * p = d+B * c) (ht:t = c+s * f) (e:t = 4294967296 * hi+lo) (hr:r+lo = y+4294967296 * bo) :
  (o+B * r)+f * (p+B * s) = (d+B * y)+B' * (hi+bo):=by
 subst hB
 have e1:B * t = B * 4294967296 * hi+B * lo:=by rw [e,Nat.mul_add,Nat.mul_assoc]
 have e2:B * t = B * c+f * (B * s):=by rw [ht,Nat.mul_add]; congr 1; rw [Nat.mul_comm s f,Nat.mul_left_comm]
 have e3:B * (r+lo) = B * (y+4294967296 * bo):=by rw [hr]
 rw [Nat.mul_add,Nat.mul_add,← Nat.mul_assoc] at e3
 rw [Nat.mul_add,Nat.mul_add]
 omega
theorem tt_bound {c f s hi lo:Nat} (hc:c≤f) (hs:s < 4294967296) (e:c+s * f = 4294967296 * hi+lo) (hl:lo < 4294967296):hi≤f∧(hi = f→lo = 0):=by
 have h1:s * f≤4294967295 * f:=Nat.mul_le_mul_right _ (by omega)
 constructor <;> omega
theorem tt_end {o v d c B B' r y bo:Nat} (hB:B' = B * 4294967296) (h:o+v = d+B * c) (e:r+c = y+4294967296 * bo):o+B * r+v = d+B * y+B' * bo:=by
 subst hB
 have e3:B * (r+c) = B * (y+4294967296 * bo):=by rw [e]
 rw [Nat.mul_add,Nat.mul_add,← Nat.mul_assoc] at e3
 omega
def TakeTo (B:Nat) (pre post d xs:List Nat) (f n:Nat) (w:World) (e:Ending) (w':World):Prop:=
 ∃ (out:List Nat) (bo:Bool),e = .returned (.bool bo)∧out.length = n+1∧Pl.Wf out∧Pl.val out+f * Pl.val xs = Pl.val d+4294967296 ^ (n+1) * bo.toNat∧Row w' B (pre ++ out ++ post)∧Only B w w'
theorem tt_e2 (y t:Nat) (hy:y < 4294967296) (h:(y:Int) < (t:Int) % 4294967296):((y:Int) - (t:Int)) % 4294967296 = ((y+4294967296 - t % 4294967296:Nat):Int):=by omega
theorem tt_e3 (y c:Nat) (hc:c < 4294967296) (h:(y:Int) < (c:Int)):((y:Int) - (c:Int)) % 4294967296 = ((y+4294967296 - c:Nat):Int):=by omega
theorem takeTimes_any (B p n b off cap cap' f:Nat) (pre d post xs:List Nat) (w:World) (hp:Hid (pre.length = p)) (hd:Hid (d.length = n+1)) (hx:Hid (xs.length = n)) (hlen:n≤20000) (hne:b≠B) (hf:f < 4294967296)
  (wd:Pl.Wf d) (wx:Pl.Wf xs) (hrow:Row w B (pre ++ d ++ post))
  (hc:∀ j,j < n→w.cell? ⟨b,off+j,none⟩ = some (.int .u32 ((xs[j]?.getD 0:Nat):Int))) :
  Calls Tryz.prog 138 #[.slice (some ⟨B,p,none⟩) (n+1) cap,.slice (some ⟨b,off,none⟩) n cap',.int .u32 (f:Int)] w
   (TakeTo B pre post d xs f n w):=by
 go_enter Tryz.func138,Tryz.ntmps138
 go_wp2
 go_loopw [7,15] (fun t i wr=>∃ (k c:Nat) (out:List Nat),k≤n∧i = .int .i64 k∧t = .int .u64 (c:Int)∧c≤f∧out.length = k∧Pl.Wf out ∧
   Pl.val out+f * Pl.val (xs.take k) = Pl.val (d.take k)+4294967296 ^ k * c∧Row wr B (pre ++ (out ++ d.drop k) ++ post)∧Only B w wr) (fun _ i _=>n - (intOf i).toNat)
 case atStart=>exact ⟨0,0,[],Nat.zero_le _,rfl,rfl,by omega,rfl,Pl.wf_nil,by simp [Pl.val],by simpa using hrow,Only.refl _ _⟩
 case round=>
  obtain ⟨k,c,out,hk,rfl,rfl,hcl,hol,how,hval,hr,honly⟩:=hrel
  have HVal:=hide hval
  clear hval
  have hpl:=unhide hp
  have hdl:=unhide hd
  have hxl:=unhide hx
  obtain ⟨y,hy⟩:∃ y,y = d[k]?.getD 0:=⟨_,rfl⟩
  have hy1:y < 4294967296:=by rw [hy]; exact Pl.wf_at wd k
  have hcd:wr.cell? ⟨B,p+k,none⟩ = some (.int .u32 (y:Int)):=by
   rw [hr.cell (p+k) (by simp; omega),← hpl,at_mid _ _ _ _ _ hol (by omega),hy]
  have hfz:wr.frozen? ⟨B,p+k,none⟩ = false:=hr.frozen _
  have HR:Hid (∀ v,Row (wr.setCell ⟨B,p+k,none⟩ (.int .u32 ((v:Nat):Int))) B (pre ++ ((out ++ [v]) ++ d.drop (k+1)) ++ post)):=fun v=>by
   have:=hr.set (p+k) v (by simp; omega)
   rw [← hpl] at this ⊢
   rwa [set_mid _ _ _ _ _ _ hol (by omega)] at this
  by_cases hlt:k < n
  ·obtain ⟨x,hxx⟩:∃ x,x = xs[k]?.getD 0:=⟨_,rfl⟩
   have hx1:x < 4294967296:=by rw [hxx]; exact Pl.wf_at wx k
   have hcx:wr.cell? ⟨b,off+k,none⟩ = some (.int .u32 (x:Int)):=by rw [hxx]; exact (honly.cell (by exact hne)).trans (hc k hlt)
   obtain ⟨t,ht⟩:∃ t,t = c+x * f:=⟨_,rfl⟩
   have hm0:=mul_lo x f
   have hm1:=mul_hi hx1 hf
   have hti:(c:Int)+(x:Int) * (f:Int) = (t:Int):=by rw [ht]; push_cast; rfl
   have ht1:t < 18446744073709551616:=by omega
   have hb2:=tt_bound hcl hx1 (by rw [← ht]; exact (Nat.div_add_mod t 4294967296).symm) (Nat.mod_lt _ (by decide))
   have HV:Hid (∀ r bo,r+t % 4294967296 = y+4294967296 * bo→Pl.val (out ++ [r])+f * Pl.val (xs.take (k+1)) = Pl.val (d.take (k+1))+4294967296 ^ (k+1) * (t / 4294967296+bo)):=fun r bo e=>by
    rw [Pl.val_append,Pl.val_one,hol,Pl.val_take_any d k,Pl.val_take_any xs k,← hy,← hxx]
    exact tt_step _ (Nat.pow_succ ..) (unhide HVal) ht (Nat.div_add_mod t 4294967296).symm e
   clear HVal hy hxx hr hpl hdl hxl hc ht
   by_cases hbo:y < t % 4294967296
   ·have hbi:(y:Int) < (t:Int) % 4294967296:=by omega
    clear hbo
    go_wp2
    go_roundw
    case rel=>
     have e1:(t:Int) / 4294967296+1 = ((t / 4294967296+1:Nat):Int):=by omega
     have e2:=tt_e2 y t hy1 hbi
     rw [e1,e2]
     exact ⟨k+1,t / 4294967296+1,out ++ [y+4294967296 - t % 4294967296],by omega,by go_num,rfl,by omega,by simp [hol],Pl.wf_append how (Pl.wf_one (by omega)),unhide HV _ 1 (by omega),unhide HR _,honly.setCell _ _⟩
    case measure=>simp [intOf]; omega
   ·have hbi:(t:Int) % 4294967296≤(y:Int):=by omega
    clear hbo
    go_wp2
    go_roundw
    case rel=>
     have e1:(t:Int) / 4294967296 = ((t / 4294967296:Nat):Int):=by omega
     have e2:(y:Int) - (t:Int) % 4294967296 = ((y - t % 4294967296:Nat):Int):=by omega
     rw [e1,e2]
     exact ⟨k+1,t / 4294967296,out ++ [y - t % 4294967296],by omega,by go_num,rfl,hb2.1,by simp [hol],Pl.wf_append how (Pl.wf_one (by omega)),unhide HV _ 0 (by omega),unhide HR _,honly.setCell _ _⟩
    case measure=>simp [intOf]; omega
  ·have hke:k = n:=by omega
   subst hke
   have hxt:xs.take k = xs:=List.take_of_length_le (by omega)
   have hdt:d.take (k+1) = d:=List.take_of_length_le (by omega)
   have HV:Hid (∀ r (bo:Bool),r+c = y+4294967296 * bo.toNat→Pl.val (out ++ [r])+f * Pl.val xs = Pl.val d+4294967296 ^ (k+1) * bo.toNat):=fun r bo e=>by
    have hd2:Pl.val d = Pl.val (d.take k)+4294967296 ^ k * y:=by
     have:=Pl.val_take_any d k
     rw [hdt,← hy] at this
     exact this
    rw [Pl.val_append,Pl.val_one,hol,hd2]
    have hval:=unhide HVal
    rw [hxt] at hval
    exact tt_end (Nat.pow_succ ..) hval e
   have HD:Hid (d.drop (k+1) = []):=List.drop_eq_nil_of_le (by omega)
   clear HVal hy hr hpl hdl hxl hc hxt hdt
   by_cases hbo:y < c
   ·have hbi:(y:Int) < (c:Int):=by omega
    clear hbo
    go_wp2
    go_ret
    have e2:=tt_e3 y c (by omega) hbi
    rw [e2]
    have hR:=unhide HR (y+4294967296 - c)
    rw [unhide HD,List.append_nil] at hR
    exact ⟨out ++ [y+4294967296 - c],true,rfl,by simp [hol],Pl.wf_append how (Pl.wf_one (by omega)),unhide HV _ true (by simp; omega),hR,honly.setCell _ _⟩
   ·have hbi:¬ (y:Int) < (c:Int):=by omega
    clear hbo
    go_wp2
    go_ret
    have e2:(y:Int) - (c:Int) = ((y - c:Nat):Int):=by omega
    rw [e2]
    have hR:=unhide HR (y - c)
    rw [unhide HD,List.append_nil] at hR
    exact ⟨out ++ [y - c],false,rfl,by simp [hol],Pl.wf_append how (Pl.wf_one (by omega)),unhide HV _ false (by simp; omega),hR,honly.setCell _ _⟩
theorem bne_cast (c:Nat):((c:Int) != 0) = (c != 0):=by rw [Bool.eq_iff_iff]; simp
theorem addInto_some (B p n b off m cap cap':Nat) (pre d post xs:List Nat) (w:World) (hp:Hid (pre.length = p)) (hd:Hid (d.length = n)) (hx:Hid (xs.length = m)) (hmn:m≤n) (hlen:n≤40000) (hne:b≠B)
  (wd:Pl.Wf d) (wx:Pl.Wf xs) (hrow:Row w B (pre ++ d ++ post))
  (hc:∀ j,j < m→w.cell? ⟨b,off+j,none⟩ = some (.int .u32 ((xs[j]?.getD 0:Nat):Int))) :
  Calls Tryz.prog 73 #[.slice (some ⟨B,p,none⟩) n cap,.slice (some ⟨b,off,none⟩) m cap'] w
   fun e w'=>∃ (out:List Nat) (c:Nat),e = .returned (.bool (c != 0))∧out.length = n∧Pl.Wf out∧c≤1∧Pl.val out+4294967296 ^ n * c = Pl.val d+Pl.val xs∧Row w' B (pre ++ out ++ post)∧Only B w w':=by
 go_enter Tryz.func73,Tryz.ntmps73
 go_wp2
 go_loopw [5,9] (fun t i wr=>∃ (k c:Nat) (out:List Nat),k≤n∧i = .int .i64 k∧t = .int .u64 (c:Int)∧c≤1∧out.length = k∧Pl.Wf out ∧
   Pl.val out+4294967296 ^ k * c = Pl.val (d.take k)+Pl.val (xs.take k)∧Row wr B (pre ++ (out ++ d.drop k) ++ post)∧Only B w wr) (fun _ i _=>n - (intOf i).toNat)
 case atStart=>exact ⟨0,0,[],Nat.zero_le _,rfl,rfl,by omega,rfl,Pl.wf_nil,by simp [Pl.val],by simpa using hrow,Only.refl _ _⟩
 case round=>
  obtain ⟨k,c,out,hk,rfl,rfl,hcl,hol,how,hval,hr,honly⟩:=hrel
  have hpl:=unhide hp
  have hdl:=unhide hd
  have hxl:=unhide hx
  by_cases hlt:k < n
  ·obtain ⟨y,hy⟩:∃ y,y = d[k]?.getD 0:=⟨_,rfl⟩
   obtain ⟨x,hxx⟩:∃ x,x = xs[k]?.getD 0:=⟨_,rfl⟩
   have hx1:x < 4294967296:=by rw [hxx]; exact Pl.wf_at wx k
   have hy1:y < 4294967296:=by rw [hy]; exact Pl.wf_at wd k
   have hcd:wr.cell? ⟨B,p+k,none⟩ = some (.int .u32 (y:Int)):=by
    rw [hr.cell (p+k) (by simp; omega),← hpl,at_mid _ _ _ _ _ hol (by omega),hy]
   have hfz:wr.frozen? ⟨B,p+k,none⟩ = false:=hr.frozen _
   have HV:Hid (∀ q r,c+y+x = q * 4294967296+r→Pl.val (out ++ [r])+4294967296 ^ (k+1) * q = Pl.val (d.take (k+1))+Pl.val (xs.take (k+1))):=fun q r e=>by
    rw [Pl.val_append,Pl.val_one,hol,Pl.val_take_any d k,Pl.val_take_any xs k,← hy,← hxx]
    exact Pl.step_add _ (Nat.pow_succ ..) hval (c+y+x) q r e y rfl
   have HR:Hid (∀ v,Row (wr.setCell ⟨B,p+k,none⟩ (.int .u32 ((v:Nat):Int))) B (pre ++ ((out ++ [v]) ++ d.drop (k+1)) ++ post)):=fun v=>by
    have:=hr.set (p+k) v (by simp; omega)
    rw [← hpl] at this ⊢
    rwa [set_mid _ _ _ _ _ _ hol (by omega)] at this
   by_cases hkm:k < m
   ·have hcx:wr.cell? ⟨b,off+k,none⟩ = some (.int .u32 (x:Int)):=by rw [hxx]; exact (honly.cell (by exact hne)).trans (hc k hkm)
    clear hval hy hxx hr hpl hdl hxl hc
    go_wp2
    go_roundw
    case rel=>
     have e1:((c:Int)+(y:Int)+(x:Int)) / 4294967296 = (((c+y+x) / 4294967296:Nat):Int):=by omega
     have e2:((c:Int)+(y:Int)+(x:Int)) % 4294967296 = (((c+y+x) % 4294967296:Nat):Int):=by omega
     rw [e1,e2]
     exact ⟨k+1,(c+y+x) / 4294967296,out ++ [(c+y+x) % 4294967296],by omega,by go_num,rfl,by omega,by simp [hol],Pl.wf_append how (Pl.wf_one (by omega)),unhide HV _ _ (by omega),unhide HR _,honly.setCell _ _⟩
    case measure=>simp [intOf]; omega
   ·have hx0:x = 0:=by rw [hxx,List.getElem?_eq_none (by omega)]; rfl
    subst hx0
    clear hval hy hxx hr hpl hdl hxl hc
    go_wp2
    go_roundw
    case rel=>
     have e1:((c:Int)+(y:Int)) / 4294967296 = (((c+y+0) / 4294967296:Nat):Int):=by omega
     have e2:((c:Int)+(y:Int)) % 4294967296 = (((c+y+0) % 4294967296:Nat):Int):=by omega
     rw [e1,e2]
     exact ⟨k+1,(c+y+0) / 4294967296,out ++ [(c+y+0) % 4294967296],by omega,by go_num,rfl,by omega,by simp [hol],Pl.wf_append how (Pl.wf_one (by omega)),unhide HV _ _ (by omega),unhide HR _,honly.setCell _ _⟩
    case measure=>simp [intOf]; omega
  ·have hke:k = n:=by omega
   subst hke
   rw [List.take_of_length_le (by omega),List.take_of_length_le (by omega)] at hval
   rw [List.drop_eq_nil_of_le (by omega),List.append_nil] at hr
   have HV:=hide hval
   clear hval hpl hdl hxl
   go_wp2
   go_ret
   exact ⟨out,c,ret_bool (a:=((c:Int) != 0)) (bne_cast c),hol,how,hcl,unhide HV,hr,honly⟩
theorem addInto_nil (B p n cap cap':Nat) (a:Option Addr) (pre d post:List Nat) (w:World) (hp:Hid (pre.length = p)) (hd:Hid (d.length = n)) (hlen:n≤40000)
  (wd:Pl.Wf d) (hrow:Row w B (pre ++ d ++ post)) :
  Calls Tryz.prog 73 #[.slice (some ⟨B,p,none⟩) n cap,.slice a 0 cap'] w
   fun e w'=>∃ (out:List Nat) (c:Nat),e = .returned (.bool (c != 0))∧out.length = n∧Pl.Wf out∧c≤1∧Pl.val out+4294967296 ^ n * c = Pl.val d∧Row w' B (pre ++ out ++ post)∧Only B w w':=by
 go_enter Tryz.func73,Tryz.ntmps73
 go_wp2
 go_loopw [5,9] (fun t i wr=>∃ (k c:Nat) (out:List Nat),k≤n∧i = .int .i64 k∧t = .int .u64 (c:Int)∧c≤1∧out.length = k∧Pl.Wf out ∧
   Pl.val out+4294967296 ^ k * c = Pl.val (d.take k)∧Row wr B (pre ++ (out ++ d.drop k) ++ post)∧Only B w wr) (fun _ i _=>n - (intOf i).toNat)
 case atStart=>exact ⟨0,0,[],Nat.zero_le _,rfl,rfl,by omega,rfl,Pl.wf_nil,by simp [Pl.val],by simpa using hrow,Only.refl _ _⟩
 case round=>
  obtain ⟨k,c,out,hk,rfl,rfl,hcl,hol,how,hval,hr,honly⟩:=hrel
  have hpl:=unhide hp
  have hdl:=unhide hd
  by_cases hlt:k < n
  ·obtain ⟨y,hy⟩:∃ y,y = d[k]?.getD 0:=⟨_,rfl⟩
   have hy1:y < 4294967296:=by rw [hy]; exact Pl.wf_at wd k
   have hcd:wr.cell? ⟨B,p+k,none⟩ = some (.int .u32 (y:Int)):=by
    rw [hr.cell (p+k) (by simp; omega),← hpl,at_mid _ _ _ _ _ hol (by omega),hy]
   have hfz:wr.frozen? ⟨B,p+k,none⟩ = false:=hr.frozen _
   have HV:Hid (∀ q r,c+y = q * 4294967296+r→Pl.val (out ++ [r])+4294967296 ^ (k+1) * q = Pl.val (d.take (k+1))):=fun q r e=>by
    rw [Pl.val_append,Pl.val_one,hol,Pl.val_take_any d k,← hy]
    have h0:Pl.val out+4294967296 ^ k * c = Pl.val (d.take k)+0:=hval
    have h1:=Pl.step_add (s:=0) _ (Nat.pow_succ ..) h0 (c+y) q r e y rfl
    rw [Nat.mul_zero,Nat.add_zero] at h1
    exact h1
   have HR:Hid (∀ v,Row (wr.setCell ⟨B,p+k,none⟩ (.int .u32 ((v:Nat):Int))) B (pre ++ ((out ++ [v]) ++ d.drop (k+1)) ++ post)):=fun v=>by
    have:=hr.set (p+k) v (by simp; omega)
    rw [← hpl] at this ⊢
    rwa [set_mid _ _ _ _ _ _ hol (by omega)] at this
   clear hval hy hr hpl hdl
   go_wp2
   go_roundw
   case rel=>
    have e1:((c:Int)+(y:Int)) / 4294967296 = (((c+y) / 4294967296:Nat):Int):=by omega
    have e2:((c:Int)+(y:Int)) % 4294967296 = (((c+y) % 4294967296:Nat):Int):=by omega
    rw [e1,e2]
    exact ⟨k+1,(c+y) / 4294967296,out ++ [(c+y) % 4294967296],by omega,by go_num,rfl,by omega,by simp [hol],Pl.wf_append how (Pl.wf_one (by omega)),unhide HV _ _ (by omega),unhide HR _,honly.setCell _ _⟩
   case measure=>simp [intOf]; omega
  ·have hke:k = n:=by omega
   subst hke
   rw [List.take_of_length_le (by omega)] at hval
   rw [List.drop_eq_nil_of_le (by omega),List.append_nil] at hr
   have HV:=hide hval
   clear hval hpl hdl
   go_wp2
   go_ret
   exact ⟨out,c,ret_bool (a:=((c:Int) != 0)) (bne_cast c),hol,how,hcl,unhide HV,hr,honly⟩
theorem xor_limb (x:Nat) (hx:x < 4294967296):Go.bits .xor .u32 4294967295 (x:Int) = ((4294967295 - x:Nat):Int):=by
 have h1:BitVec.ofInt 32 4294967295 = BitVec.allOnes 32:=by decide
 have h2:(BitVec.ofInt 32 (x:Int)).toNat = x:=by
  rw [BitVec.ofInt_natCast,BitVec.toNat_ofNat]; exact Nat.mod_eq_of_lt (by omega)
 show IntKind.u32.wrap ((BitVec.ofInt 32 4294967295 ^^^ BitVec.ofInt 32 (x:Int)).toNat:Int) = _
 rw [h1,BitVec.allOnes_xor,BitVec.toNat_not,h2,IntKind.wrap_u32]
 omega
theorem Pl.step_take {p o c d B:Nat} (B':Nat) (hB:B' = B * 4294967296) (h:o+B * c+p = d+B) (t q r:Nat) (ht:t = q * 4294967296+r) (x s:Nat) (hs:s < 4294967296) (hx:t = c+x+(4294967295 - s)) :
  (o+B * r)+B' * q+(p+B * s) = (d+B * x)+B':=by
 subst hB
 have e0:t+s+1 = c+x+4294967296:=by omega
 have e1:B * (t+s+1) = B * (c+x+4294967296):=by rw [e0]
 have e2:B * t = B * 4294967296 * q+B * r:=by rw [ht,Nat.mul_add,Nat.mul_assoc,Nat.mul_comm q]
 simp only [Nat.mul_add,Nat.mul_one] at e1
 omega
theorem Pl.take_end {O c B p d:Nat} (h:O+B * c+p = d+B) (hO:O < B) (hp:p≤d) (hc:c≤1):O = d - p:=by
 have hc':c = 1:=by
  cases c with
  | zero=>simp at h; omega
  | succ c=>omega
 subst hc'
 omega
theorem takeInto_some (B n b off m cap cap':Nat) (d xs:List Nat) (w:World) (hd:Hid (d.length = n)) (hx:Hid (xs.length = m)) (hmn:m≤n) (hlen:n≤40000) (hne:b≠B) (hle:Hid (Pl.val xs≤Pl.val d))
  (wd:Pl.Wf d) (wx:Pl.Wf xs) (hrow:Row w B d)
  (hc:∀ j,j < m→w.cell? ⟨b,off+j,none⟩ = some (.int .u32 ((xs[j]?.getD 0:Nat):Int))) :
  Calls Tryz.prog 70 #[.slice (some ⟨B,0,none⟩) n cap,.slice (some ⟨b,off,none⟩) m cap'] w
   fun e w'=>∃ (out:List Nat),e = .returned (.tuple #[])∧out.length = n∧Pl.Wf out∧Pl.val out = Pl.val d - Pl.val xs∧Row w' B out∧Only B w w':=by
 go_enter Tryz.func70,Tryz.ntmps70
 go_wp2
 go_loopw [4,9] (fun t i wr=>∃ (k c:Nat) (out:List Nat),k≤n∧i = .int .i64 k∧t = .int .u64 (c:Int)∧c≤1∧out.length = k∧Pl.Wf out ∧
   Pl.val out+4294967296 ^ k * c+Pl.val (xs.take k) = Pl.val (d.take k)+4294967296 ^ k∧Row wr B (out ++ d.drop k)∧Only B w wr) (fun _ i _=>n - (intOf i).toNat)
 case atStart=>exact ⟨0,1,[],Nat.zero_le _,rfl,rfl,by omega,rfl,Pl.wf_nil,by simp [Pl.val],by simpa using hrow,Only.refl _ _⟩
 case round=>
  obtain ⟨k,c,out,hk,rfl,rfl,hcl,hol,how,hval,hr,honly⟩:=hrel
  have hdl:=unhide hd
  have hxl:=unhide hx
  by_cases hlt:k < n
  ·obtain ⟨y,hy⟩:∃ y,y = d[k]?.getD 0:=⟨_,rfl⟩
   obtain ⟨x,hxx⟩:∃ x,x = xs[k]?.getD 0:=⟨_,rfl⟩
   have hx1:x < 4294967296:=by rw [hxx]; exact Pl.wf_at wx k
   have hy1:y < 4294967296:=by rw [hy]; exact Pl.wf_at wd k
   have hcd:wr.cell? ⟨B,k,none⟩ = some (.int .u32 (y:Int)):=by
    have:=at_mid [] out d [] k hol (by omega)
    simp only [List.nil_append,List.append_nil,List.length_nil,Nat.zero_add] at this
    rw [hr.cell k (by simp; omega),this,hy]
   have hfz:wr.frozen? ⟨B,k,none⟩ = false:=hr.frozen _
   have HV:Hid (∀ q r,c+y+(4294967295 - x) = q * 4294967296+r→Pl.val (out ++ [r])+4294967296 ^ (k+1) * q+Pl.val (xs.take (k+1)) = Pl.val (d.take (k+1))+4294967296 ^ (k+1)):=fun q r e=>by
    rw [Pl.val_append,Pl.val_one,hol,Pl.val_take_any d k,Pl.val_take_any xs k,← hy,← hxx]
    exact Pl.step_take _ (Nat.pow_succ ..) hval (c+y+(4294967295 - x)) q r e y x hx1 rfl
   have HR:Hid (∀ v,Row (wr.setCell ⟨B,k,none⟩ (.int .u32 ((v:Nat):Int))) B ((out ++ [v]) ++ d.drop (k+1))):=fun v=>by
    have:=hr.set k v (by simp; omega)
    have e:=set_mid [] out d [] k v hol (by omega)
    simp only [List.nil_append,List.append_nil,List.length_nil,Nat.zero_add] at e
    rwa [e] at this
   by_cases hkm:k < m
   ·have hcx:wr.cell? ⟨b,off+k,none⟩ = some (.int .u32 (x:Int)):=by rw [hxx]; exact (honly.cell (by exact hne)).trans (hc k hkm)
    have hxo:=xor_limb x hx1
    obtain ⟨x',hx'⟩:∃ x',x' = 4294967295 - x:=⟨_,rfl⟩
    rw [← hx'] at hxo
    have hx2:x' < 4294967296:=by omega
    have HX:=hide hx'
    clear hval hy hxx hr hdl hxl hc hx'
    go_wp2
    go_roundw
    case rel=>
     have e1:((c:Int)+((y:Int)+(x':Int))) / 4294967296 = (((c+y+x') / 4294967296:Nat):Int):=by omega
     have e2:((c:Int)+((y:Int)+(x':Int))) % 4294967296 = (((c+y+x') % 4294967296:Nat):Int):=by omega
     rw [e1,e2]
     have:=unhide HX
     exact ⟨k+1,(c+y+x') / 4294967296,out ++ [(c+y+x') % 4294967296],by omega,by go_num,rfl,by omega,by simp [hol],Pl.wf_append how (Pl.wf_one (by omega)),unhide HV _ _ (by omega),unhide HR _,honly.setCell _ _⟩
    case measure=>simp [intOf]; omega
   ·have hx0:x = 0:=by rw [hxx,List.getElem?_eq_none (by omega)]; rfl
    subst hx0
    clear hval hy hxx hr hdl hxl hc
    go_wp2
    go_roundw
    case rel=>
     have e1:((c:Int)+((y:Int)+4294967295)) / 4294967296 = (((c+y+(4294967295 - 0)) / 4294967296:Nat):Int):=by omega
     have e2:((c:Int)+((y:Int)+4294967295)) % 4294967296 = (((c+y+(4294967295 - 0)) % 4294967296:Nat):Int):=by omega
     rw [e1,e2]
     exact ⟨k+1,(c+y+(4294967295 - 0)) / 4294967296,out ++ [(c+y+(4294967295 - 0)) % 4294967296],by omega,by go_num,rfl,by omega,by simp [hol],Pl.wf_append how (Pl.wf_one (by omega)),unhide HV _ _ (by omega),unhide HR _,honly.setCell _ _⟩
    case measure=>simp [intOf]; omega
  ·have hke:k = n:=by omega
   subst hke
   rw [List.take_of_length_le (by omega),List.take_of_length_le (by omega)] at hval
   rw [List.drop_eq_nil_of_le (by omega),List.append_nil] at hr
   have hve:Pl.val out = Pl.val d - Pl.val xs:=Pl.take_end hval (by have:=Pl.val_lt how; rwa [hol] at this) (unhide hle) hcl
   have HV:=hide hve
   clear hval hdl hxl hve
   go_wp2
   go_end0
   exact ⟨out,rfl,hol,how,unhide HV,hr,honly⟩
theorem takeInto_zero (B n cap cap':Nat) (a:Option Addr) (d:List Nat) (w:World) (hd:Hid (d.length = n)) (hlen:n≤40000)
  (wd:Pl.Wf d) (hrow:Row w B d) :
  Calls Tryz.prog 70 #[.slice (some ⟨B,0,none⟩) n cap,.slice a 0 cap'] w
   fun e w'=>∃ (out:List Nat),e = .returned (.tuple #[])∧out.length = n∧Pl.Wf out∧Pl.val out = Pl.val d∧Row w' B out∧Only B w w':=by
 go_enter Tryz.func70,Tryz.ntmps70
 go_wp2
 go_loopw [4,9] (fun t i wr=>∃ (k c:Nat) (out:List Nat),k≤n∧i = .int .i64 k∧t = .int .u64 (c:Int)∧c≤1∧out.length = k∧Pl.Wf out ∧
   Pl.val out+4294967296 ^ k * c+0 = Pl.val (d.take k)+4294967296 ^ k∧Row wr B (out ++ d.drop k)∧Only B w wr) (fun _ i _=>n - (intOf i).toNat)
 case atStart=>exact ⟨0,1,[],Nat.zero_le _,rfl,rfl,by omega,rfl,Pl.wf_nil,by simp [Pl.val],by simpa using hrow,Only.refl _ _⟩
 case round=>
  obtain ⟨k,c,out,hk,rfl,rfl,hcl,hol,how,hval,hr,honly⟩:=hrel
  have hdl:=unhide hd
  by_cases hlt:k < n
  ·obtain ⟨y,hy⟩:∃ y,y = d[k]?.getD 0:=⟨_,rfl⟩
   have hy1:y < 4294967296:=by rw [hy]; exact Pl.wf_at wd k
   have hcd:wr.cell? ⟨B,k,none⟩ = some (.int .u32 (y:Int)):=by
    have:=at_mid [] out d [] k hol (by omega)
    simp only [List.nil_append,List.append_nil,List.length_nil,Nat.zero_add] at this
    rw [hr.cell k (by simp; omega),this,hy]
   have hfz:wr.frozen? ⟨B,k,none⟩ = false:=hr.frozen _
   have HV:Hid (∀ q r,c+y+4294967295 = q * 4294967296+r→Pl.val (out ++ [r])+4294967296 ^ (k+1) * q+0 = Pl.val (d.take (k+1))+4294967296 ^ (k+1)):=fun q r e=>by
    rw [Pl.val_append,Pl.val_one,hol,Pl.val_take_any d k,← hy]
    have:=Pl.step_take _ (Nat.pow_succ ..) hval (c+y+(4294967295 - 0)) q r e y 0 (by decide) rfl
    rwa [Nat.mul_zero] at this
   have HR:Hid (∀ v,Row (wr.setCell ⟨B,k,none⟩ (.int .u32 ((v:Nat):Int))) B ((out ++ [v]) ++ d.drop (k+1))):=fun v=>by
    have:=hr.set k v (by simp; omega)
    have e:=set_mid [] out d [] k v hol (by omega)
    simp only [List.nil_append,List.append_nil,List.length_nil,Nat.zero_add] at e
    rwa [e] at this
   clear hval hy hr hdl
   go_wp2
   go_roundw
   case rel=>
    have e1:((c:Int)+((y:Int)+4294967295)) / 4294967296 = (((c+y+4294967295) / 4294967296:Nat):Int):=by omega
    have e2:((c:Int)+((y:Int)+4294967295)) % 4294967296 = (((c+y+4294967295) % 4294967296:Nat):Int):=by omega
    rw [e1,e2]
    exact ⟨k+1,(c+y+4294967295) / 4294967296,out ++ [(c+y+4294967295) % 4294967296],by omega,by go_num,rfl,by omega,by simp [hol],Pl.wf_append how (Pl.wf_one (by omega)),unhide HV _ _ (by omega),unhide HR _,honly.setCell _ _⟩
   case measure=>simp [intOf]; omega
  ·have hke:k = n:=by omega
   subst hke
   rw [List.take_of_length_le (by omega)] at hval
   rw [List.drop_eq_nil_of_le (by omega),List.append_nil] at hr
   have hve:Pl.val out = Pl.val d - 0:=Pl.take_end hval (by have:=Pl.val_lt how; rwa [hol] at this) (Nat.zero_le _) hcl
   have HV:=hide hve
   clear hval hdl hve
   go_wp2
   go_end0
   exact ⟨out,rfl,hol,how,unhide HV,hr,honly⟩
theorem takeInto_none (cap:Nat) (a a':Option Addr) (n' cap':Nat) (w:World) :
  Calls Tryz.prog 70 #[.slice a 0 cap,.slice a' n' cap'] w
   fun e w'=>e = .returned (.tuple #[])∧w' = w:=by
 go_enter Tryz.func70,Tryz.ntmps70
 go_wp2
 refine wp_loop_rounds 1 ?_
 rw [rounds_succ]
 go_wp2
 go_end0
 exact ⟨rfl,rfl⟩
def NoLimb (l:List Value):Prop:=∀ v,v∈l→∀ z,v≠.int .u32 z
def noLimb:List Value→Bool
 | []=>true
 | .int .u32 _ :: _=>false
 | _ :: r=>noLimb r
theorem noLimb_of:∀ (l:List Value),noLimb l = true→NoLimb l
 | [],_=>fun _ h=>nomatch h
 | v :: r,h=>by
  have hr:noLimb r = true∧∀ z,v≠.int .u32 z:=by
   unfold noLimb at h
   split at h
   ·rename_i e; cases e
   ·cases h
   ·rename_i x y hx hy
    injection hy with e1 e2
    subst e1; subst e2
    exact ⟨h,fun z e=>hx z e⟩
  intro u hu z
  rcases List.mem_cons.1 hu with rfl|hu
  ·exact hr.2 z
  ·exact noLimb_of r hr.1 u hu z
theorem Lim.put {W:World} {a:Option Addr} {xs:List Nat} (h:Lim W a xs) {b:Nat} {cs:Array Value} {t:TypeId} (hb:W.heap[b]? = some (.cells cs t (0,0))) (hl:NoLimb cs.toList) (j:Nat) (u:Value):Lim (W.setCell ⟨b,j,none⟩ u) a xs:=by
 rcases h.parts with h|⟨hp,g,off,ha,hlt,hc⟩
 ·exact Or.inl h
 ·have hne:g≠b:=by
   rintro rfl
   have h0:=hc 0 hp
   rw [cell_of_row W g (off+0) _ _ _ hb] at h0
   have h1:Value.int .u32 ((xs[0]?.getD 0:Nat):Int)∈cs.toList:=by
    have:=Array.mem_of_getElem? h0
    exact Array.mem_def.1 this
   exact hl _ h1 _ rfl
  refine Or.inr ⟨g,off,ha,fun j' hj=>?_⟩
  rw [World.cell?_of_block (w:=W) (heap_setCell_other W _ g u hne)]
  exact hc j' hj
theorem Num.put {W:World} {a:Option Addr} {n m:Nat} (h:Num W a n m) {b:Nat} {cs:Array Value} {t:TypeId} (hb:W.heap[b]? = some (.cells cs t (0,0))) (hl:NoLimb cs.toList) (j:Nat) (u:Value):Num (W.setCell ⟨b,j,none⟩ u) a n m:=by
 obtain ⟨xs,hn,hl',r⟩:=h
 exact ⟨xs,hn,hl'.put hb hl j u,r⟩
theorem Mine.put {W:World} {base:Nat} {a:Option Addr} {n c m:Nat} (h:Mine W base a n c m) {b:Nat} {cs:Array Value} {t:TypeId} (hb:W.heap[b]? = some (.cells cs t (0,0))) (ht:t≠49) (j:Nat) (u:Value):Mine (W.setCell ⟨b,j,none⟩ u) base a n c m:=by
 obtain ⟨xs,hn,ho,r⟩:=h
 refine ⟨xs,hn,?_,r⟩
 rcases ho with ho|⟨g,cap,cur,e,hg,hh,q⟩
 ·exact Or.inl ho
 ·have hne:g≠b:=by
   rintro rfl
   rw [hh] at hb
   injection hb with hb
   injection hb with _ hb
   exact ht hb.symm
  exact Or.inr ⟨g,cap,cur,e,hg,by rw [heap_setCell_other W _ g u hne]; exact hh,q⟩
theorem infParts_any (E F m1:Nat) (h:Fo E F) (hm:Hid (m1 = 2 ^ E - 1)) (w:World):Calls Tryz.prog 145 #[.agg #[.int .i64 E,.int .i64 F]] w fun e w'=>e = .returned (.agg #[.bool false,.int .i64 m1,.int .u64 0])∧Below w.heap.size w w':=by
 go_enter Tryz.func145,Tryz.ntmps145
 go_wp2_with fail
 refine (lastExp_any _ _ m1 _ h hm).mono ?_
 rintro e w1 ⟨rfl,hb1⟩
 have hS:=(Fs.two w _ _ _ _).kept hb1
 obtain ⟨⟨ya,yb,-⟩,⟨yc,yd,ye,-⟩,-⟩:=hS.cells
 have Q_:=hS.frozen (b:=w.heap.size+1) (cs:=#[.bool false,.int .i64 0,.int .u64 0]) (t:=105) (by simp)
 have fz0:=Q_ 0
 have fz1:=Q_ 1
 have fz2:=Q_ 2
 clear Q_
 go_wp2
 exact bodyPost_ret (v:=.agg #[.bool false,.int .i64 m1,.int .u64 0]) (by simp [results,Tryz.results145,go_sem,yc,yd,ye]) rfl ⟨rfl,((hS.fr.setCell (by simp) _).setCell (by simp) _).setCell (by simp) _⟩
theorem greatestParts_any (E F m1 m0:Nat) (h:Fo E F) (hm:Hid (m1+1 = 2 ^ E - 1)) (HM0:Hid (m0 = 2 ^ F - 1)) (w:World):Calls Tryz.prog 146 #[.agg #[.int .i64 E,.int .i64 F]] w fun e w'=>e = .returned (.agg #[.bool false,.int .i64 m1,.int .u64 m0])∧Below w.heap.size w w':=by
 have hml:m1 < 2048:=by have:=pow_bound h.e11; have:=unhide hm; omega
 go_enter Tryz.func146,Tryz.ntmps146
 go_wp2_with fail
 refine wp_region_any (by kernel_rfl) ?_
 refine wpAny_det [some (3,.agg #[.int .i64 E,.int .i64 F]),some (4,.int .i64 ((m1+1:Nat):Int)),some (5,.int .i64 m1),some (6,.agg #[.int .i64 E,.int .i64 F]),some (7,.int .u64 m0),some (8,.agg #[.bool false,.int .i64 m1,.int .u64 m0]),none]
  (fun l9 W9=>Fs w W9 (pickBs l9 [(6,[⟨w.heap.size,#[.int .i64 E,.int .i64 F],23⟩,⟨w.heap.size+1,#[.bool false,.int .i64 m1,.int .u64 m0],105⟩])] [⟨w.heap.size,#[.int .i64 E,.int .i64 F],23⟩,⟨w.heap.size+1,#[.bool false,.int .i64 0,.int .u64 0],105⟩])) _ _ rfl (by kernel_rfl) rfl rfl ?_ ?_ (Fs.two w _ _ _ _).drew
 ·intro l9 t9 W9 i9 hD hi9 hl9 hM
  obtain ⟨o9,ho9,hd9⟩:=(mem_ready.1 hi9).2
  have hin9:i9 < 7:=by
   by_cases h:i9 < 7
   ·exact h
   ·rw [Array.getElem?_eq_none (by rw [hD.len]; simp; omega)] at hl9; cases hl9
  have hcase:i9 = 0∨i9 = 1∨i9 = 2∨i9 = 3∨i9 = 4∨i9 = 5∨i9 = 6:=by omega
  clear hin9
  rcases hcase with rfl|rfl|rfl|rfl|rfl|rfl|rfl
  ·cases ho9
   have r1:=hD.old 1 _ rfl rfl
   have hM0:Fs w W9 [⟨w.heap.size,#[.int .i64 E,.int .i64 F],23⟩,⟨w.heap.size+1,#[.bool false,.int .i64 0,.int .u64 0],105⟩]:=by
    have hM1:=hM
    simp only [pickBs] at hM1
    rw [if_neg (hD.waits 0 6 _ ⟨0,.phase⟩ hl9 rfl (by simp) rfl rfl)] at hM1
    exact hM1
   have Q_:=hM0.cellAt (b:=w.heap.size) (cs:=#[.int .i64 E,.int .i64 F]) (t:=23) (by simp)
   have c9_0:=Q_ 0 _ rfl
   have c9_1:=Q_ 1 _ rfl
   clear Q_
   clear hM0
   refine wpOp_step rfl fun K hK=>?_
   go_simp
   exact hK _ _ ⟨rfl,(keepM rfl hM)⟩
  ·cases ho9
   have r3:=hD.od hd9 0 3 _ rfl (by simp)
   have hM0:Fs w W9 [⟨w.heap.size,#[.int .i64 E,.int .i64 F],23⟩,⟨w.heap.size+1,#[.bool false,.int .i64 0,.int .u64 0],105⟩]:=by
    have hM1:=hM
    simp only [pickBs] at hM1
    rw [if_neg (hD.waits 1 6 _ ⟨1,.phase⟩ hl9 rfl (by simp) rfl rfl)] at hM1
    exact hM1
   refine wpOp_step rfl fun K hK=>?_
   go_simp
   go_wp2_with fail
   refine (lastExp_any _ _ (m1+1) _ h hm).mono ?_
   rintro en w9 ⟨rfl,hb9⟩
   exact hK _ _ ⟨rfl,keepM rfl (hM.kept hb9)⟩
  ·cases ho9
   have r4:=hD.od hd9 1 4 _ rfl (by simp)
   refine wpOp_step rfl fun K hK=>?_
   go_simp
   exact hK _ _ ⟨act_eq (by (show Value.int _ _ = Value.int _ _; congr 1; (first|rfl|omega|(rw [IntKind.wrap_i64]; omega)|(rw [IntKind.wrap_u64]; omega)))),(keepM rfl hM)⟩
  ·cases ho9
   have r1:=hD.old 1 _ rfl rfl
   have hM0:Fs w W9 [⟨w.heap.size,#[.int .i64 E,.int .i64 F],23⟩,⟨w.heap.size+1,#[.bool false,.int .i64 0,.int .u64 0],105⟩]:=by
    have hM1:=hM
    simp only [pickBs] at hM1
    rw [if_neg (hD.waits 3 6 _ ⟨3,.phase⟩ hl9 rfl (by simp) rfl rfl)] at hM1
    exact hM1
   have Q_:=hM0.cellAt (b:=w.heap.size) (cs:=#[.int .i64 E,.int .i64 F]) (t:=23) (by simp)
   have c9_0:=Q_ 0 _ rfl
   have c9_1:=Q_ 1 _ rfl
   clear Q_
   clear hM0
   refine wpOp_step rfl fun K hK=>?_
   go_simp
   exact hK _ _ ⟨rfl,(keepM rfl hM)⟩
  ·cases ho9
   have r6:=hD.od hd9 3 6 _ rfl (by simp)
   have hM0:Fs w W9 [⟨w.heap.size,#[.int .i64 E,.int .i64 F],23⟩,⟨w.heap.size+1,#[.bool false,.int .i64 0,.int .u64 0],105⟩]:=by
    have hM1:=hM
    simp only [pickBs] at hM1
    rw [if_neg (hD.waits 4 6 _ ⟨4,.chain⟩ hl9 rfl (by simp) rfl rfl)] at hM1
    exact hM1
   refine wpOp_step rfl fun K hK=>?_
   go_simp
   go_wp2_with fail
   refine (full0 _ _ m0 _ h HM0).mono ?_
   rintro en w9 ⟨rfl,hb9⟩
   exact hK _ _ ⟨rfl,keepM rfl (hM.kept hb9)⟩
  ·cases ho9
   have r5:=hD.od hd9 2 5 _ rfl (by simp)
   have r7:=hD.od hd9 4 7 _ rfl (by simp)
   refine wpOp_step rfl fun K hK=>?_
   go_simp
   exact hK _ _ ⟨rfl,(keepM rfl hM)⟩
  ·cases ho9
   have r2:=hD.old 2 _ rfl rfl
   have r8:=hD.od hd9 5 8 _ rfl (by simp)
   have hM0:Fs w W9 [⟨w.heap.size,#[.int .i64 E,.int .i64 F],23⟩,⟨w.heap.size+1,#[.bool false,.int .i64 0,.int .u64 0],105⟩]:=by
    have hM1:=hM
    simp only [pickBs] at hM1
    rw [if_neg (by rw [hl9]; simp)] at hM1
    exact hM1
   have c9_0:=hM0.cellAt (b:=w.heap.size+1) (cs:=#[.bool false,.int .i64 0,.int .u64 0]) (t:=105) (by simp) 0 _ rfl
   have z9_0:=hM0.frozen (b:=w.heap.size+1) (cs:=#[.bool false,.int .i64 0,.int .u64 0]) (t:=105) (by simp) 0
   have c9_1:=hM0.cellAt (b:=w.heap.size+1) (cs:=#[.bool false,.int .i64 0,.int .u64 0]) (t:=105) (by simp) 1 _ rfl
   have z9_1:=hM0.frozen (b:=w.heap.size+1) (cs:=#[.bool false,.int .i64 0,.int .u64 0]) (t:=105) (by simp) 1
   have c9_2:=hM0.cellAt (b:=w.heap.size+1) (cs:=#[.bool false,.int .i64 0,.int .u64 0]) (t:=105) (by simp) 2 _ rfl
   have z9_2:=hM0.frozen (b:=w.heap.size+1) (cs:=#[.bool false,.int .i64 0,.int .u64 0]) (t:=105) (by simp) 2
   refine wpOp_step rfl fun K hK=>?_
   go_simp
   exact hK _ _ ⟨rfl,putM trivial hl9 (((hM0.put (b:=w.heap.size+1) (cs:=#[.bool false,.int .i64 0,.int .u64 0]) (t:=105) (by simp) (by simp) 0 (.bool false) [⟨w.heap.size,#[.int .i64 E,.int .i64 F],23⟩,⟨w.heap.size+1,#[.bool false,.int .i64 0,.int .u64 0],105⟩] (by simp)).put (b:=w.heap.size+1) (cs:=#[.bool false,.int .i64 0,.int .u64 0]) (t:=105) (by simp) (by simp) 1 (.int .i64 m1) [⟨w.heap.size,#[.int .i64 E,.int .i64 F],23⟩,⟨w.heap.size+1,#[.bool false,.int .i64 m1,.int .u64 0],105⟩] (by simp)).put (b:=w.heap.size+1) (cs:=#[.bool false,.int .i64 m1,.int .u64 0]) (t:=105) (by simp) (by simp) 2 (.int .u64 m0) [⟨w.heap.size,#[.int .i64 E,.int .i64 F],23⟩,⟨w.heap.size+1,#[.bool false,.int .i64 m1,.int .u64 m0],105⟩] (by simp))⟩
 ·intro l9 W9 hl9 hM
  simp only [pickBs] at hM
  rw [if_pos (hl9 6 (by decide))] at hM
  have hS:=hM
  clear hM
  simp only [Puts.lay,List.setIfInBounds_toArray,List.set_cons_zero,List.set_cons_succ]
  obtain ⟨⟨ya,yb,-⟩,⟨yc,yd,ye,-⟩,-⟩:=hS.cells
  go_wp2
  exact bodyPost_ret (v:=.agg #[.bool false,.int .i64 m1,.int .u64 m0]) (by simp [results,Tryz.results146,go_sem,yc,yd,ye]) rfl ⟨rfl,hS.fr⟩
theorem known_inf (E F b m1:Nat) (neg:Bool) (h:Fo E F) (hB:Bt E F b neg m1 0) (hm:Hid (m1 = 2 ^ E - 1)) (w:World):Calls Tryz.prog 122 #[.agg #[.int .i64 E,.int .i64 F],.bool neg,.func (Fn.func 145) #[] #[]] w fun e w'=>e = .returned (.tuple #[.int .u64 b,.int .i64 0])∧Below w.heap.size w w':=by
 have HB:=hide hB
 clear hB
 go_enter Tryz.func122,Tryz.ntmps122
 go_wp2_with fail
 refine (check_ok _ _ _ h).mono ?_
 rintro e w1 ⟨rfl,hb1⟩
 have hS:=(Fs.one w _ _).kept hb1
 obtain ⟨⟨ya,yb,-⟩,-⟩:=hS.cells
 go_wp2_with fail
 refine (infParts_any _ _ m1 h hm _).mono ?_
 rintro e w2 ⟨rfl,hb2⟩
 replace hS:=hS.kept hb2
 clear ya yb
 obtain ⟨⟨yc,yd,-⟩,-⟩:=hS.cells
 have hlt:w.heap.size < w2.heap.size:=block_lt (hS.bx ⟨w.heap.size,#[.int .i64 E,.int .i64 F],23⟩ (by simp))
 replace hS:=hS.kept (gr_alloc w2 (.cells #[.bool neg,.int .i64 m1,.int .u64 0] 105))
 go_wp2_with fail
 refine (join_any _ _ b m1 0 neg _ h (unhide HB)).mono ?_
 rintro e w3 ⟨rfl,hb3⟩
 replace hS:=hS.kept hb3
 go_wp2
 go_ret2
 exact ⟨rfl,hS.fr⟩
theorem Inf_ok (E F b m1:Nat) (neg:Bool) (h:Fo E F) (hB:Bt E F b neg m1 0) (hm:Hid (m1 = 2 ^ E - 1)) (w:World):Calls Tryz.prog 126 #[.agg #[.int .i64 E,.int .i64 F],.bool neg] w fun e w'=>e = .returned (.tuple #[.int .u64 b,.int .i64 0])∧Below w.heap.size w w':=by
 have HB:=hide hB
 clear hB
 go_enter Tryz.func126,Tryz.ntmps126
 go_wp2_with fail
 refine (known_inf _ _ b m1 neg h (unhide HB) hm _).mono ?_
 rintro e w1 ⟨rfl,hb1⟩
 have hS:=(Fs.one w _ _).kept hb1
 obtain ⟨⟨ya,yb,-⟩,-⟩:=hS.cells
 go_wp2
 go_ret2
 exact ⟨rfl,hS.fr⟩
theorem known_greatest (E F b m1 m0:Nat) (neg:Bool) (h:Fo E F) (hB:Bt E F b neg m1 m0) (hm:Hid (m1+1 = 2 ^ E - 1)) (hm0:Hid (m0 = 2 ^ F - 1)) (w:World):Calls Tryz.prog 122 #[.agg #[.int .i64 E,.int .i64 F],.bool neg,.func (Fn.func 146) #[] #[]] w fun e w'=>e = .returned (.tuple #[.int .u64 b,.int .i64 0])∧Below w.heap.size w w':=by
 have HB:=hide hB
 clear hB
 go_enter Tryz.func122,Tryz.ntmps122
 go_wp2_with fail
 refine (check_ok _ _ _ h).mono ?_
 rintro e w1 ⟨rfl,hb1⟩
 have hS:=(Fs.one w _ _).kept hb1
 obtain ⟨⟨ya,yb,-⟩,-⟩:=hS.cells
 go_wp2_with fail
 refine (greatestParts_any _ _ m1 m0 h hm hm0 _).mono ?_
 rintro e w2 ⟨rfl,hb2⟩
 replace hS:=hS.kept hb2
 clear ya yb
 obtain ⟨⟨yc,yd,-⟩,-⟩:=hS.cells
 have hlt:w.heap.size < w2.heap.size:=block_lt (hS.bx ⟨w.heap.size,#[.int .i64 E,.int .i64 F],23⟩ (by simp))
 replace hS:=hS.kept (gr_alloc w2 (.cells #[.bool neg,.int .i64 m1,.int .u64 m0] 105))
 go_wp2_with fail
 refine (join_any _ _ b m1 m0 neg _ h (unhide HB)).mono ?_
 rintro e w3 ⟨rfl,hb3⟩
 replace hS:=hS.kept hb3
 go_wp2
 go_ret2
 exact ⟨rfl,hS.fr⟩
theorem Greatest_ok (E F b m1 m0:Nat) (neg:Bool) (h:Fo E F) (hB:Bt E F b neg m1 m0) (hm:Hid (m1+1 = 2 ^ E - 1)) (hm0:Hid (m0 = 2 ^ F - 1)) (w:World):Calls Tryz.prog 127 #[.agg #[.int .i64 E,.int .i64 F],.bool neg] w fun e w'=>e = .returned (.tuple #[.int .u64 b,.int .i64 0])∧Below w.heap.size w w':=by
 have HB:=hide hB
 clear hB
 go_enter Tryz.func127,Tryz.ntmps127
 go_wp2_with fail
 refine (known_greatest _ _ b m1 m0 neg h (unhide HB) hm hm0 _).mono ?_
 rintro e w1 ⟨rfl,hb1⟩
 have hS:=(Fs.one w _ _).kept hb1
 obtain ⟨⟨ya,yb,-⟩,-⟩:=hS.cells
 go_wp2
 go_ret2
 exact ⟨rfl,hS.fr⟩
structure Pk where
 A:Option Addr
 N:Nat
 C:Nat
abbrev Pks:=Nat→Pk
def Pks.set (p:Pks) (c:Nat) (q:Pk):Pks:=fun i=>if i = c then q else p i
theorem Det.step {ops:Array Oper} {ds:Puts} {T0:Array Value} {l:Array Bool} {t:Array Value} {i:Nat} (hD:Det ops ds T0 l t) (ha:Puts.apart ds = true) (hw:Puts.within ds T0.size = true) (hi:i∈Region.ready .any ops l) (hl:l[i]? = some false) :
  Det ops ds T0 (l.setIfInBounds i true) (putD (ds[i]?.getD none) t):=by
 obtain ⟨hlt,-⟩:=Array.getElem?_eq_some_iff.1 hl
 have hset:∀ k,(l.setIfInBounds i true)[k]? = some true↔(k = i∨l[k]? = some true):=by
  intro k
  by_cases hk:k = i
  ·subst hk; simp [hlt]
  ·rw [Array.getElem?_setIfInBounds_ne (Ne.symm hk)]; simp [hk]
 constructor
 ·rw [Array.size_setIfInBounds]; exact hD.len
 ·rw [← hD.size]
  cases hd:ds[i]?.getD none with
  | none=>rfl
  | some d=>obtain ⟨s,v⟩:=d; simp [putD]
 ·intro k s v hk hlk
  rcases (hset k).1 hlk with rfl|hlk9
  ·rw [hk]
   have hs:s < t.size:=by rw [hD.size]; simpa using List.all_eq_true.1 hw _ (List.mem_of_getElem? hk)
   simp [putD,hs]
  ·cases hd:ds[i]?.getD none with
   | none=>exact hD.on k s v hk hlk9
   | some d=>
    obtain ⟨s',v'⟩:=d
    have hd':ds[i]? = some (some (s',v')):=by
     cases hx:ds[i]? with
     | none=>rw [hx] at hd; simp at hd
     | some y=>rw [hx] at hd; simp at hd; rw [hd]
    have hne:s'≠s:=by
     intro e; subst e
     obtain rfl:=Puts.one ha hk hd'
     rw [hl] at hlk9; cases hlk9
    rw [putD,Array.getElem?_setIfInBounds_ne hne]
    exact hD.on k s v hk hlk9
 ·intro s hs
  cases hd:ds[i]?.getD none with
  | none=>exact hD.off s (fun k v hk hlk=>hs k v hk ((hset k).2 (Or.inr hlk)))
  | some d=>
   obtain ⟨s',v'⟩:=d
   have hd':ds[i]? = some (some (s',v')):=by
    cases hx:ds[i]? with
    | none=>rw [hx] at hd; simp at hd
    | some y=>rw [hx] at hd; simp at hd; rw [hd]
   have hne:s'≠s:=by
    intro e; subst e
    exact hs i v' hd' ((hset i).2 (Or.inl rfl))
   rw [putD,Array.getElem?_setIfInBounds_ne hne]
   exact hD.off s (fun k v hk hlk=>hs k v hk ((hset k).2 (Or.inr hlk)))
 ·intro k o hlk ho e he hbe
  rcases (hset k).1 hlk with rfl|hlk
  ·obtain ⟨o',ho',hd'⟩:=(mem_ready.1 hi).2
   rw [ho] at ho'
   cases ho'
   exact true_getD ((hset _).2 (Or.inr (getD_true (hd' e he hbe))))
  ·exact true_getD ((hset _).2 (Or.inr (getD_true (hD.shut k o hlk ho e he hbe))))
theorem Det.turn {ops:Array Oper} {ds ds':Puts} {T0:Array Value} {l:Array Bool} {t:Array Value} (hD:Det ops ds T0 l t) (h:∀ k:Nat,l[k]? = some true→ds'[k]? = ds[k]?):Det ops ds' T0 l t:=
 ⟨hD.len,hD.size,fun k s v hk hl=>hD.on k s v (by rw [← h k hl]; exact hk) hl,fun s hs=>hD.off s (fun k v hk hl=>hs k v (by rw [h k hl]; exact hk) hl),hD.shut⟩
theorem wpAny_pick {P:Program} {ops:Array Oper} {Q:Exit→Act→World→Prop} (D:Pks→Puts) (M:Pks→Array Bool→World→Prop) (T0:Array Value) (w0:World)
  (ha:∀ p,Puts.apart (D p) = true) (hb:backB ops = true) (hlen:∀ p,(D p).length = ops.size) (hw:∀ p,Puts.within (D p) T0.size = true)
  (hstep:∀ p l t w i,Det ops (D p) T0 l t→i∈Region.ready .any ops l→l[i]? = some false→M p l w →
   wpOp P ops Q i (fun a w'=>∃ p',(∀ k:Nat,l[k]? = some true→(D p')[k]? = (D p)[k]?)∧a = ⟨putD ((D p')[i]?.getD none) t,[]⟩∧M p' (l.setIfInBounds i true) w') ⟨t,[]⟩ w)
  (hdone:∀ p l w,l.size = ops.size→(∀ i,i < ops.size→l[i]? = some true)→M p l w→Q .normal ⟨Puts.lay (D p) T0,[]⟩ w)
  (p0:Pks) (hM:M p0 (Array.replicate ops.size false) w0):wpAny P .any ops Q ops.size (Array.replicate ops.size false) ⟨T0,[]⟩ w0:=by
 refine wpAny_inv (fun l a w=>∃ p t,a = ⟨t,[]⟩∧Det ops (D p) T0 l t∧M p l w) ?_ ?_ _ _ _ _ ?_ ⟨p0,T0,rfl,?_,hM⟩
 ·rintro l a w i ⟨p,t,rfl,hD,hm⟩ hi hl
  refine wpOp_mono ?_ (hstep p l t w i hD hi hl hm)
  rintro a' w' ⟨p',hag,rfl,hm'⟩
  exact ⟨p',_,rfl,(hD.turn hag).step (ha p') (hw p') hi hl,hm'⟩
 ·rintro l a w ⟨p,t,rfl,hD,hm⟩ hr
  have hl:=all_up hD.len hb hr
  rw [hD.done (ha p) (hlen p) (hw p) hl]
  exact hdone p l w hD.len hl hm
 ·simp
 ·constructor
  ·simp
  ·rfl
  ·intro k s v _ h
   rw [Array.getElem?_replicate] at h
   split at h <;> cases h
  ·intro s _; rfl
  ·intro k o h
   rw [Array.getElem?_replicate] at h
   split at h <;> cases h
structure St (base:Nat) (f:World→Prop):Prop where
 kept:∀ W W',Below W.heap.size W W'→f W→f W'
 set:∀ W p u,p.block < base→f W→f (W.setCell p u)
structure Pm (w0:World) (base:Nat) (fs:List (Nat×(Pk→World→Prop))) (p:Pks) (l:Array Bool) (W:World) (bs:List En):Prop where
 st:Fs w0 W bs
 bw:base≤W.heap.size
 fx:∀ x,x∈fs→(l[x.1]? = some true∨l.size≤x.1)→x.2 (p x.1) W
theorem Pm.start {w0 W:World} {bs:List En} (h:Fs w0 W bs) (fs:List (Nat×(Pk→World→Prop))) (p:Pks) (n:Nat) (hs:∀ x,x∈fs→∀ q,St W.heap.size (x.2 q)) (h0:∀ x,x∈fs→n≤x.1→x.2 (p x.1) W):Pm w0 W.heap.size fs p (Array.replicate n false) W.drew bs:=
 ⟨h.drew,Nat.le_refl _,fun x hx hl=>by
  rcases hl with hl|hl
  ·rw [Array.getElem?_replicate] at hl; split at hl <;> cases hl
  ·rw [Array.size_replicate] at hl
   exact (hs x hx _).kept _ _ (Below.refl _ _).drew (h0 x hx hl)⟩
theorem Pm.start2 {w0 W:World} {bs:List En} {base:Nat} (h:Fs w0 W bs) (fs:List (Nat×(Pk→World→Prop))) (p:Pks) (n:Nat) (hbase:base≤W.heap.size) (hs:∀ x,x∈fs→∀ q,St base (x.2 q)) (h0:∀ x,x∈fs→n≤x.1→x.2 (p x.1) W):Pm w0 base fs p (Array.replicate n false) W.drew bs:=
 ⟨h.drew,hbase,fun x hx hl=>by
  rcases hl with hl|hl
  ·rw [Array.getElem?_replicate] at hl; split at hl <;> cases hl
  ·rw [Array.size_replicate] at hl
   exact (hs x hx _).kept _ _ (Below.refl _ _).drew (h0 x hx hl)⟩
theorem Pm.val {w0 W:World} {base:Nat} {fs:List (Nat×(Pk→World→Prop))} {p:Pks} {l:Array Bool} {bs:List En} {i:Nat} (h:Pm w0 base fs p l W bs) (hi:(fs.map Prod.fst).all (fun x=>x != i) = true):Pm w0 base fs p (l.setIfInBounds i true) W bs:=
 ⟨h.st,h.bw,fun x hx hl=>h.fx x hx (by
  have:=List.all_eq_true.1 hi x.1 (List.mem_map_of_mem hx)
  rw [Array.getElem?_setIfInBounds_ne (by intro e; subst e; simp at this),Array.size_setIfInBounds] at hl
  exact hl)⟩
theorem Pm.kept {w0 W W':World} {base:Nat} {fs:List (Nat×(Pk→World→Prop))} {p:Pks} {l:Array Bool} {bs:List En} (h:Pm w0 base fs p l W bs) (hs:∀ x,x∈fs→∀ q,St base (x.2 q)) (hb:Below W.heap.size W W'):Pm w0 base fs p l W' bs:=
 ⟨h.st.kept hb,Nat.le_trans h.bw hb.size,fun x hx hl=>(hs x hx _).kept W W' hb (h.fx x hx hl)⟩
theorem Pm.pick {w0 W:World} {base:Nat} {fs:List (Nat×(Pk→World→Prop))} {p:Pks} {l:Array Bool} {bs:List En} {c:Nat} (h:Pm w0 base fs p l W bs) (q:Pk) (hq:∀ x,x∈fs→x.1 = c→x.2 q W):Pm w0 base fs (p.set c q) (l.setIfInBounds c true) W bs:=
 ⟨h.st,h.bw,fun x hx hl=>by
  by_cases e:x.1 = c
  ·have:=hq x hx e
   rw [e]; simpa [Pks.set] using this
  ·rw [Array.getElem?_setIfInBounds_ne (Ne.symm e),Array.size_setIfInBounds] at hl
   have:=h.fx x hx hl
   simpa [Pks.set,e] using this⟩
theorem Pm.put {w0 W:World} {base:Nat} {fs:List (Nat×(Pk→World→Prop))} {p:Pks} {l:Array Bool} {bs bs':List En} (h:Pm w0 base fs p l W bs) (hs:∀ x,x∈fs→∀ q,St base (x.2 q)) (a:Addr) (u:Value) (ha:a.block < base) (h':Fs w0 (W.setCell a u) bs'):Pm w0 base fs p l (W.setCell a u) bs':=
 ⟨h',by have:=h.bw; simpa [World.setCell] using this,fun x hx hl=>(hs x hx _).set W a u ha (h.fx x hx hl)⟩
theorem Pm.into {w0 W:World} {base:Nat} {fs:List (Nat×(Pk→World→Prop))} {p:Pks} {l:Array Bool} {bs bs':List En} (h:Pm w0 base fs p l W bs) (e:bs = bs'):Pm w0 base fs p l W bs':=e▸h
theorem Pm.keepM {w0 W:World} {base:Nat} {fs:List (Nat×(Pk→World→Prop))} {p':Pks} {l:Array Bool} {i:Nat} {sts:List (Nat×List En)} {b:List En} (hi:(sts.map Prod.fst).all (fun x=>x != i) = true) (h:Pm w0 base fs p' (l.setIfInBounds i true) W (pickBs l sts b)):Pm w0 base fs p' (l.setIfInBounds i true) W (pickBs (l.setIfInBounds i true) sts b):=
 h.into (by
  rw [pickBs_set]
  rw [List.all_map] at hi
  exact hi)
theorem Pm.putM {w0 W:World} {base:Nat} {fs:List (Nat×(Pk→World→Prop))} {p:Pks} {l:Array Bool} {i:Nat} {sts:List (Nat×List En)} {b b':List En} (hl:l[i]? = some false) (h:Pm w0 base fs p (l.setIfInBounds i true) W b'):Pm w0 base fs p (l.setIfInBounds i true) W (pickBs (l.setIfInBounds i true) ((i,b') :: sts) b):=
 h.into (pickBs_at hl).symm
inductive Ev where
 | ld (a:Addr) (v:Value)
 | st (a:Addr) (v:Value)
 | nw (o:Obj)
def script {α:Type} (P:Program) (r:Nat):Sem α→List Value→Option (α×List Ev)
 | .pure a,[]=>some (a,[])
 | .load _ a k,v :: vs=>match script P r (k v) vs with
  | some (x,es)=>some (x,.ld a v :: es)
  | none=>none
 | .store _ a v k,vs=>match script P r k vs with
  | some (x,es)=>some (x,.st a v :: es)
  | none=>none
 | .new o k,vs=>match script P r (k r) vs with
  | some (x,es)=>some (x,.nw o :: es)
  | none=>none
 | .program k,vs=>script P r (k P) vs
 | .mark _ k,vs=>script P r k vs
 | _,_=>none
def evs:List Ev→World→World
 | [],W=>W
 | .ld _ _ :: es,W=>evs es W
 | .st a v :: es,W=>evs es (W.setCell a v)
 | .nw o :: es,W=>evs es (W.alloc o)
def EvsOk (r:Nat):List Ev→World→Prop
 | [],_=>True
 | .ld a v :: es,W=>W.cell? a = some v∧EvsOk r es W
 | .st a v :: es,W=>(∃ u,W.cell? a = some u)∧W.frozen? a = false∧v.oneCell' = true∧EvsOk r es (W.setCell a v)
 | .nw o :: es,W=>W.heap.size = r∧EvsOk r es (W.alloc o)
theorem script_run {α:Type} (P:Program) (r:Nat) (s:Sem α):∀ (vs:List Value) (x:α) (es:List Ev) (W:World),script P r s vs = some (x,es)→EvsOk r es W→s.run P W = .ok x (evs es W):=by
 induction s with
 | pure a=>
  intro vs x es W h _
  cases vs with
  | nil=>simp only [script,Option.some.injEq,Prod.mk.injEq] at h; obtain ⟨rfl,rfl⟩:=h; rfl
  | cons=>simp [script] at h
 | load m a k ih=>
  intro vs x es W h hok
  cases vs with
  | nil=>simp [script] at h
  | cons v vs=>
   simp only [script] at h
   split at h
   ·rename_i x' es' h'
    simp only [Option.some.injEq,Prod.mk.injEq] at h
    obtain ⟨rfl,rfl⟩:=h
    have:=ih v vs _ _ W h' hok.2
    simp only [Sem.run,hok.1,evs]
    exact this
   ·cases h
 | store m a v k ih=>
  intro vs x es W h hok
  simp only [script] at h
  split at h
  ·rename_i x' es' h'
   simp only [Option.some.injEq,Prod.mk.injEq] at h
   obtain ⟨rfl,rfl⟩:=h
   obtain ⟨⟨u,hu⟩,hz,ho,hr⟩:=hok
   have:=ih vs _ _ _ h' hr
   cases v <;> first
    | (simp [Value.oneCell'] at ho; done)
    | (simp only [Sem.run,hu,hz,evs]; exact this)
  ·cases h
 | new o k ih=>
  intro vs x es W h hok
  simp only [script] at h
  split at h
  ·rename_i x' es' h'
   simp only [Option.some.injEq,Prod.mk.injEq] at h
   obtain ⟨rfl,rfl⟩:=h
   have:=ih r vs _ _ _ h' hok.2
   simp only [Sem.run,evs]
   rw [hok.1]
   exact this
  ·cases h
 | program k ih=>intro vs x es W h hok; exact ih P vs x es W h hok
 | mark m k ih=>intro vs x es W h hok; exact ih vs x es W h hok
 | _=>intro vs x es W h _; cases vs <;> simp [script] at h
structure Sta (f:World→Prop):Prop where
 kept:∀ W W',Below W.heap.size W W'→f W→f W'
 put:∀ (W:World) (b:Nat) (cs:Array Value) (t:TypeId) (j:Nat) (u:Value),W.heap[b]? = some (.cells cs t (0,0))→t≠49→NoLimb cs.toList→f W→f (W.setCell ⟨b,j,none⟩ u)
structure Pq where
 A:Option Addr
 N:Nat
 C:Nat
 A':Option Addr
 N':Nat
 C':Nat
 B:Bool
 M:Nat
 Z:Int
 A2:Option Addr
 N2:Nat
 C2:Nat
 A3:Option Addr
 N3:Nat
 C3:Nat
 A4:Option Addr
 N4:Nat
 C4:Nat
abbrev Pqs:=Nat→Pq
def Pqs.set (p:Pqs) (c:Nat) (q:Pq):Pqs:=fun i=>if i = c then q else p i
def pq0:Pq:=⟨none,0,0,none,0,0,false,0,0,none,0,0,none,0,0,none,0,0⟩
structure Cf where
 f:Pq→Value
 g:Pq→World→Prop
 st:∀ q,Sta (g q)
inductive Spo where
 | v (s:Nat) (x:Value)
 | l (s:Nat) (x:Value) (j off:Nat)
 | p (j off:Nat) (xs:List Value)
 | n (s:Nat) (cs:Array Value) (t:TypeId)
 | c (s:Option Nat) (f:Cf)
 | u (s:Nat) (x:Value) (h:Array Value→Value)
 | g (s:Nat) (x:Value) (vs:List Value) (es:List Ev)
 | k (s:Option Nat)
def nv (b t:Nat):Value:=match Nat.blt t 1000000 with
 | true=>.pointer (some ⟨b,0,none⟩)
 | false=>.slice (some ⟨b,0,none⟩) (t / 1000000) (t / 1000000)
def Spo.put (p:Pqs) (i:Nat):Spo→Option (Nat×Value)
 | .v s x=>some (s,x)
 | .l s x _ _=>some (s,x)
 | .p _ _ _=>none
 | .n s _ t=>some (s,nv (p i).N t)
 | .c s f=>s.map fun s=>(s,f.f (p i))
 | .u s x _=>some (s,x)
 | .g s x _ _=>some (s,x)
 | .k s=>s.map fun s=>(s,undef)
def puts (p:Pqs):Nat→List Spo→Puts
 | _,[]=>[]
 | i,x :: r=>x.put p i :: puts p (i+1) r
def Spo.bare:Spo→Spo
 | .v s _=>.v s undef
 | .l s _ j off=>.l s undef j off
 | .u s _ h=>.u s undef h
 | .g s _ _ _=>.g s undef [] []
 | .p j off xs=>.p j off (xs.map fun _=>undef)
 | x=>x
theorem puts_len (p:Pqs):∀ (S:List Spo) (i:Nat),(puts p i S).length = S.length
 | [],_=>rfl
 | _ :: r,i=>by simp [puts,puts_len p r (i+1)]
theorem puts_at (p:Pqs):∀ (S:List Spo) (i k:Nat),(puts p i S)[k]? = (S[k]?).map (fun x=>x.put p (i+k))
 | [],_,_=>rfl
 | x :: r,i,0=>rfl
 | x :: r,i,k+1=>by
  have:=puts_at p r (i+1) k
  simp only [puts,List.getElem?_cons_succ,this]
  rw [show i+1+k = i+(k+1) from by omega]
abbrev Ks:=List (Nat×Value)
def lookK:Ks→Nat→Value
 | [],_=>undef
 | (s',v) :: r,s=>match s' == s with
  | true=>v
  | false=>lookK r s
def inK:Ks→Nat→Bool
 | [],_=>false
 | (s',_) :: r,s=>s' == s || inK r s
structure Kn (T:Array Value) (n:Nat) (L:Ks):Prop where
 size:T.size = n
 at_:∀ x,x∈L→T[x.1]? = some x.2
theorem Kn.look {T:Array Value} {n s:Nat}:∀ {L:Ks},Kn T n L→inK L s = true→T[s]? = some (lookK L s)
 | [],_,h=>by simp [inK] at h
 | (s',v) :: r,hK,h=>by
  simp only [inK,Bool.or_eq_true] at h
  cases hb:s' == s with
  | true=>
   simp only [lookK,hb]
   have:=hK.at_ (s',v) (List.mem_cons_self ..)
   rw [beq_iff_eq] at hb
   rw [← hb]; exact this
  | false=>
   rw [hb] at h
   simp only [lookK,hb]
   exact Kn.look ⟨hK.size,fun x hx=>hK.at_ x (List.mem_cons_of_mem _ hx)⟩ (by simpa using h)
def slotAt (L:Ks) (s:Nat):Nat→Puts→Value
 | 0,_=>lookK L s
 | _+1,[]=>lookK L s
 | i+1,some (s',v) :: r=>match s' == s with
  | true=>v
  | false=>slotAt L s i r
 | i+1,none :: r=>slotAt L s i r
def earlyB (s:Nat):Nat→Puts→Bool
 | 0,_=>false
 | _+1,[]=>false
 | i+1,some (s',_) :: r=>s' == s || earlyB s i r
 | i+1,none :: r=>earlyB s i r
theorem early_of {s:Nat}:∀ {ds:Puts} {i:Nat},earlyB s i ds = true→∃ (k:Nat) (v:Value),k < i∧ds[k]? = some (some (s,v))
 | _,0,h=>by simp [earlyB] at h
 | [],_+1,h=>by simp [earlyB] at h
 | none :: r,i+1,h=>by
  obtain ⟨k,v,h1,h2⟩:=early_of (ds:=r) h
  exact ⟨k+1,v,by omega,by simpa using h2⟩
 | some (s',v') :: r,i+1,h=>by
  simp only [earlyB,Bool.or_eq_true,beq_iff_eq] at h
  rcases h with rfl|h
  ·exact ⟨0,v',by omega,rfl⟩
  ·obtain ⟨k,v,h1,h2⟩:=early_of (ds:=r) h
   exact ⟨k+1,v,by omega,by simpa using h2⟩
def envAt (L:Ks) (ds:Puts) (i:Nat):Operand→Value
 | .tmp s=>slotAt L s i ds
 | .const v=>v
 | .global g=>.pointer (some ⟨g,0,none⟩)
 | .func f=>.func (.func f) #[] #[]
def edgeB (o:Oper) (j:Nat):Bool:=o.after.toList.any fun e=>Region.binds .any e && e.on == j
def isSel:Op→Bool
 | .select _ _=>true
 | _=>false
def readOk (ops:Array Oper) (i:Nat) (o:Oper) (s:Nat):Nat→Puts→Bool
 | _,[]=>true
 | j,some (s',_) :: r=>(s' != s || (match Nat.blt j i with
   | true=>edgeB o j
   | false=>(match Nat.beq j i with
    | true=>true
    | false=>(match ops[j]? with
     | some o'=>edgeB o' i
     | none=>false)))) && readOk ops i o s (j+1) r
 | j,none :: r=>readOk ops i o s (j+1) r
def readsOk (ops:Array Oper) (L:Ks) (ds:Puts):Nat→List Oper→Bool
 | _,[]=>true
 | i,o :: r=>(o.looksAt ops).all (fun s=>readOk ops i o s 0 ds && (earlyB s i ds || inK L s)) && !isSel o.op && readsOk ops L ds (i+1) r
theorem edge_of {o:Oper} {j:Nat} (h:edgeB o j = true):∃ e,e∈o.after∧Region.binds .any e = true∧e.on = j:=by
 obtain ⟨e,he,h⟩:=List.any_eq_true.1 h
 simp only [Bool.and_eq_true,beq_iff_eq] at h
 exact ⟨e,by simpa using he,h.1,h.2⟩
theorem readOk_at {ops:Array Oper} {i s:Nat} {o:Oper}:∀ (ds:Puts) (j0 k:Nat) (v:Value),readOk ops i o s j0 ds = true→ds[k]? = some (some (s,v))→(j0+k < i∧edgeB o (j0+k) = true)∨j0+k = i∨(i < j0+k∧∃ o',ops[j0+k]? = some o'∧edgeB o' i = true)
 | [],_,_,_,_,hk=>by simp at hk
 | d :: r,j0,0,v,h,hk=>by
  simp only [List.getElem?_cons_zero,Option.some.injEq] at hk
  subst hk
  simp only [readOk,Bool.and_eq_true,bne_self_eq_false,Bool.false_or] at h
  have h1:=h.1
  rw [Nat.add_zero]
  split at h1
  ·rename_i hb; exact Or.inl ⟨by simpa [Nat.blt_eq] using hb,h1⟩
  ·rename_i hb
   have hb':¬ j0 < i:=by intro hc; rw [show Nat.blt j0 i = true from by simpa [Nat.blt_eq] using hc] at hb; cases hb
   split at h1
   ·rename_i he; exact Or.inr (Or.inl (Nat.eq_of_beq_eq_true he))
   ·rename_i he
    have he':j0≠i:=by rintro rfl; rw [Nat.beq_refl] at he; cases he
    split at h1
    ·rename_i o' ho; exact Or.inr (Or.inr ⟨by omega,o',ho,h1⟩)
    ·cases h1
 | d :: r,j0,k+1,v,h,hk=>by
  have hr:readOk ops i o s (j0+1) r = true:=by
   cases d with
   | none=>exact h
   | some d=>simp only [readOk,Bool.and_eq_true] at h; exact h.2
  have:=readOk_at r (j0+1) k v hr (by simpa using hk)
  rw [show j0+(k+1) = j0+1+k from by omega]
  exact this
theorem readsOk_at {ops:Array Oper} {K:Ks} {ds:Puts}:∀ (L:List Oper) (i0 k:Nat) (o:Oper),readsOk ops K ds i0 L = true→L[k]? = some o→(∀ s,s∈o.looksAt ops→readOk ops (i0+k) o s 0 ds = true∧(earlyB s (i0+k) ds = true∨inK K s = true))∧isSel o.op = false
 | [],_,_,_,_,hk=>by simp at hk
 | o' :: r,i0,0,o,h,hk=>by
  simp only [List.getElem?_cons_zero,Option.some.injEq] at hk
  subst hk
  simp only [readsOk,Bool.and_eq_true,List.all_eq_true,Bool.not_eq_true',Bool.or_eq_true] at h
  exact ⟨fun s hs=>h.1.1 s hs,h.1.2⟩
 | o' :: r,i0,k+1,o,h,hk=>by
  simp only [readsOk,Bool.and_eq_true] at h
  have:=readsOk_at r (i0+1) k o h.2 (by simpa using hk)
  rw [show i0+(k+1) = i0+1+k from by omega]
  exact this
theorem slotAt_on {L:Ks} {s:Nat}:∀ (ds:Puts) (i k:Nat) (v:Value),Puts.apart ds = true→ds[k]? = some (some (s,v))→k < i→slotAt L s i ds = v
 | _,0,_,_,_,_,h=>absurd h (Nat.not_lt_zero _)
 | [],_+1,_,_,_,hk,_=>by simp at hk
 | d :: r,i+1,0,v,_,hk,_=>by
  simp only [List.getElem?_cons_zero,Option.some.injEq] at hk
  subst hk
  simp [slotAt]
 | d :: r,i+1,k+1,v,ha,hk,h=>by
  have hk':r[k]? = some (some (s,v)):=by simpa using hk
  cases d with
  | none=>exact slotAt_on r i k v ha hk' (by omega)
  | some d=>
   obtain ⟨s',v'⟩:=d
   simp only [Puts.apart,Bool.and_eq_true] at ha
   have hne:(s' == s) = false:=by
    have:=Puts.free_of ha.1 hk'
    simp; exact fun e=>this e.symm
   simp only [slotAt,hne]
   exact slotAt_on r i k v ha.2 hk' (by omega)
theorem slotAt_off {L:Ks} {s:Nat}:∀ (ds:Puts) (i:Nat),(∀ (k:Nat) (v:Value),ds[k]? = some (some (s,v))→i≤k)→slotAt L s i ds = lookK L s
 | _,0,_=>by simp [slotAt]
 | [],_+1,_=>rfl
 | none :: r,i+1,h=>slotAt_off r i (fun k v hk=>by have:=h (k+1) v (by simpa using hk); omega)
 | some (s',v') :: r,i+1,h=>by
  have hne:(s' == s) = false:=by
   cases hb:s' == s with
   | false=>rfl
   | true=>have:=h 0 v' (by simp at hb ⊢; exact hb); omega
  simp only [slotAt,hne]
  exact slotAt_off r i (fun k v hk=>by have:=h (k+1) v (by simpa using hk); omega)
theorem det_slot {ops:Array Oper} {L:Ks} {n:Nat} {ds:Puts} {T0:Array Value} {l:Array Bool} {t:Array Value} {i:Nat} {o:Oper} (hK:Kn T0 n L) (hD:Det ops ds T0 l t) (ha:Puts.apart ds = true) (hr:readsOk ops L ds 0 ops.toList = true) (hi:i∈Region.ready .any ops l) (hl:l[i]? = some false) (ho:ops[i]? = some o) (s:Nat) (hs:s∈o.looksAt ops) :
  t[s]? = some (slotAt L s i ds):=by
 obtain ⟨hro,hin⟩:=(readsOk_at ops.toList 0 i o hr (by simpa using ho)).1 s hs
 rw [Nat.zero_add] at hro hin
 by_cases hw:∃ (k:Nat) (v:Value),ds[k]? = some (some (s,v))
 ·obtain ⟨k,v,hk⟩:=hw
  have h3:=readOk_at ds 0 k v hro hk
  rw [Nat.zero_add] at h3
  rcases h3 with ⟨hlt,he⟩|h3
  ·obtain ⟨e,hem,hb,hon⟩:=edge_of he
   obtain ⟨o',ho',hd⟩:=(mem_ready.1 hi).2
   rw [ho] at ho'; cases ho'
   have:=hD.on k s v hk (by have:=getD_true (hd e hem hb); rw [hon] at this; exact this)
   rw [slotAt_on ds i _ v ha hk hlt,this]
  ·have hnd:l[k]?≠some true:=by
    rcases h3 with rfl|⟨hlt,o',ho',he⟩
    ·rw [hl]; simp
    ·obtain ⟨e,he,hb,hon⟩:=edge_of he
     intro hc
     have:=getD_true (hD.shut k o' hc ho' e he hb)
     rw [hon,hl] at this; cases this
   have hle:i≤k:=by rcases h3 with rfl|⟨h,-⟩ <;> omega
   have hnk:inK L s = true:=by
    rcases hin with h|h
    ·obtain ⟨k',v',h1,h2⟩:=early_of h
     obtain rfl:=Puts.one ha h2 hk; omega
    ·exact h
   rw [slotAt_off ds i (fun k' v' hk'=>by obtain rfl:=Puts.one ha hk' hk; exact hle),hD.off s (fun k' v' hk'=>by obtain rfl:=Puts.one ha hk' hk; exact hnd)]
   exact hK.look hnk
 ·have hnk:inK L s = true:=by
   rcases hin with h|h
   ·obtain ⟨k',v',h1,h2⟩:=early_of h
    exact absurd ⟨k',v',h2⟩ hw
   ·exact h
  rw [slotAt_off ds i (fun k v hk=>absurd ⟨k,v,hk⟩ hw),hD.off s (fun k v hk=>absurd ⟨k,v,hk⟩ hw)]
  exact hK.look hnk
def wantAt (ops:Array Oper) (L:Ks) (ds:Puts) (i:Nat) (o:Oper):Bool:=match o.guard with
 | none=>true
 | some (g,b)=>match (ops[g]?).bind (·.dst) with
  | none=>false
  | some s=>match slotAt L s i ds with
   | .bool c=>c == b
   | _=>false
def opRun (P:Program) (ops:Array Oper) (L:Ks) (ds:Puts) (i r:Nat) (vs:List Value):Option (Option Nat×Bool×Option (Next×List Ev)):=match ops[i]? with
 | none=>none
 | some o=>some (o.dst,wantAt ops L ds i o,script P r (execOp (envAt L ds i) o) vs)
theorem opRun_at {P:Program} {ops:Array Oper} {L:Ks} {n:Nat} {ds:Puts} {T0:Array Value} {l:Array Bool} {t:Array Value} {i r:Nat} {vs:List Value} {d:Option Nat} {b:Bool} {x:Option (Next×List Ev)} (hK:Kn T0 n L) (hD:Det ops ds T0 l t) (ha:Puts.apart ds = true) (hr:readsOk ops L ds 0 ops.toList = true) (hi:i∈Region.ready .any ops l) (hl:l[i]? = some false) (h:opRun P ops L ds i r vs = some (d,b,x)) :
  ∃ o,ops[i]? = some o∧o.dst = d∧Region.wanted o (yielded ops t) = b∧script P r (execOp (Act.eval ⟨t,[]⟩) o) vs = x:=by
 unfold opRun at h
 split at h
 ·cases h
 ·rename_i o ho
  simp only [Option.some.injEq,Prod.mk.injEq] at h
  obtain ⟨h1,h2,h3⟩:=h
  have hs:=fun s hsm=>det_slot hK hD ha hr hi hl ho s hsm
  refine ⟨o,ho,h1,?_,?_⟩
  ·rw [← h2]
   unfold Region.wanted wantAt
   cases hg:o.guard with
   | none=>rfl
   | some gb=>
    obtain ⟨g,b'⟩:=gb
    simp only
    unfold yielded
    cases hd:(ops[g]?).bind (·.dst) with
    | none=>simp
    | some s=>
     have:=hs s (by simp [Oper.looksAt,hg,hd])
     simp only [Option.bind_some]
     rw [this]
     cases slotAt L s i ds <;> simp
  ·rw [← h3]
   congr 1
   refine execOp_congr o (fun cs b' e=>?_) (fun x hx=>?_)
   ·have:=(readsOk_at ops.toList 0 i o hr (by simpa using ho)).2
    rw [e] at this; cases this
   ·cases x with
    | tmp s=>
     show t.getD s undef = slotAt L s i ds
     rw [Array.getD_eq_getD_getElem?,hs s (List.mem_append_left _ (List.mem_filterMap.2 ⟨.tmp s,by simpa using hx,rfl⟩))]
     rfl
    | _=>rfl
structure Bx where
 b:Nat
 cs:Array Value
 t:TypeId
 my:Bool
def boxOf (E:List Bx) (S:List Spo) (p:Pqs) (j:Nat):Option (Bx×Option Nat):=match Nat.blt j 1000 with
 | true=>(E[j]?).map fun x=>(x,none)
 | false=>match S[j - 1000]? with
  | some (.n _ cs t)=>some (⟨(p (j - 1000)).N,cs,t % 1000000,true⟩,some (j - 1000))
  | _=>none
def setL:Array Value→Nat→List Value→Array Value
 | cs,_,[]=>cs
 | cs,k,x :: r=>setL (cs.setIfInBounds k x) (k+1) r
def cellsOf (f:Nat→Bool) (j:Nat):Nat→List Spo→Array Value→Array Value
 | _,[],cs=>cs
 | i,.p j' off xs :: r,cs=>cellsOf f j (i+1) r (match f i && Nat.beq j' j with
  | true=>setL cs off xs
  | false=>cs)
 | i,.v _ _ :: r,cs=>cellsOf f j (i+1) r cs
 | i,.l _ _ _ _ :: r,cs=>cellsOf f j (i+1) r cs
 | i,.n _ _ _ :: r,cs=>cellsOf f j (i+1) r cs
 | i,.c _ _ :: r,cs=>cellsOf f j (i+1) r cs
 | i,.u _ _ _ :: r,cs=>cellsOf f j (i+1) r cs
 | i,.g _ _ _ _ :: r,cs=>cellsOf f j (i+1) r cs
 | i,.k _ :: r,cs=>cellsOf f j (i+1) r cs
def reach (ops:Array Oper):Nat→Nat→Nat→Bool
 | 0,_,_=>false
 | f+1,i,j=>match ops[i]? with
  | none=>false
  | some o=>edgeB o j || o.after.toList.any fun e=>Region.binds .any e && reach ops f e.on j
theorem reach_done {ops:Array Oper} {ds:Puts} {T0:Array Value} {l:Array Bool} {t:Array Value} (hD:Det ops ds T0 l t):∀ (f i j:Nat),reach ops f i j = true→l[i]? = some true→l[j]? = some true
 | 0,_,_,h,_=>by simp [reach] at h
 | f+1,i,j,h,hl=>by
  unfold reach at h
  split at h
  ·cases h
  ·rename_i o ho
   rw [Bool.or_eq_true] at h
   rcases h with h|h
   ·obtain ⟨e,he,hb,rfl⟩:=edge_of h
    exact getD_true (hD.shut i o hl ho e he hb)
   ·obtain ⟨e,he,h⟩:=List.any_eq_true.1 h
    simp only [Bool.and_eq_true] at h
    exact reach_done hD f e.on j h.2 (getD_true (hD.shut i o hl ho e (by simpa using he) h.1))
theorem reach_ready {ops:Array Oper} {ds:Puts} {T0:Array Value} {l:Array Bool} {t:Array Value} (hD:Det ops ds T0 l t) {f i j:Nat} (h:reach ops f i j = true) (hi:i∈Region.ready .any ops l):l[j]? = some true:=by
 cases f with
 | zero=>simp [reach] at h
 | succ f=>
  obtain ⟨o,ho,hd⟩:=(mem_ready.1 hi).2
  unfold reach at h
  rw [ho] at h
  simp only [Bool.or_eq_true] at h
  rcases h with h|h
  ·obtain ⟨e,he,hb,rfl⟩:=edge_of h
   exact getD_true (hd e he hb)
  ·obtain ⟨e,he,h⟩:=List.any_eq_true.1 h
   simp only [Bool.and_eq_true] at h
   exact reach_done hD f e.on j h.2 (getD_true (hd e (by simpa using he) h.1))
def touchOk (ops:Array Oper) (i j:Nat):Nat→List Spo→Bool
 | _,[]=>true
 | i',.p j' _ _ :: r=>(j' != j || (match Nat.beq i' i with
   | true=>true
   | false=>(match Nat.blt i' i with
    | true=>reach ops 4 i i'
    | false=>reach ops 4 i' i))) && touchOk ops i j (i'+1) r
 | i',_ :: r=>touchOk ops i j (i'+1) r
def memOk (ops:Array Oper) (E:List Bx) (S0:List Spo):Nat→List Spo→Bool
 | _,[]=>true
 | i,.l _ _ j _ :: r=>touchOk ops i j 0 S0 && (Nat.blt j 1000 || reach ops 4 i (j - 1000)) && memOk ops E S0 (i+1) r
 | i,.p j _ xs :: r=>touchOk ops i j 0 S0 && (match Nat.blt j 1000 with
   | true=>(match E[j]? with
    | some x=>x.my
    | none=>false)
   | false=>reach ops 4 i (j - 1000) && (match S0[j - 1000]? with
    | some (.n _ cs t)=>noLimb cs.toList && t % 1000000 != 49
    | _=>false)) && noLimb xs && xs.all (·.oneCell') && memOk ops E S0 (i+1) r
 | i,_ :: r=>memOk ops E S0 (i+1) r
theorem touchOk_at {ops:Array Oper} {i j:Nat}:∀ (S:List Spo) (i0 k off:Nat) (xs:List Value),touchOk ops i j i0 S = true→S[k]? = some (.p j off xs)→i0+k = i∨(i0+k < i∧reach ops 4 i (i0+k) = true)∨(i < i0+k∧reach ops 4 (i0+k) i = true)
 | [],_,_,_,_,_,hk=>by simp at hk
 | x :: r,i0,0,off,xs,h,hk=>by
  simp only [List.getElem?_cons_zero,Option.some.injEq] at hk
  subst hk
  simp only [touchOk,Bool.and_eq_true,bne_self_eq_false,Bool.false_or] at h
  have h1:=h.1
  rw [Nat.add_zero]
  split at h1
  ·rename_i he; exact Or.inl (Nat.eq_of_beq_eq_true he)
  ·rename_i he
   have he':i0≠i:=by rintro rfl; rw [Nat.beq_refl] at he; cases he
   split at h1
   ·rename_i hb; exact Or.inr (Or.inl ⟨by simpa [Nat.blt_eq] using hb,h1⟩)
   ·rename_i hb
    have hb':¬ i0 < i:=by intro hc; rw [show Nat.blt i0 i = true from by simpa [Nat.blt_eq] using hc] at hb; cases hb
    exact Or.inr (Or.inr ⟨by omega,h1⟩)
 | x :: r,i0,k+1,off,xs,h,hk=>by
  have hr:touchOk ops i j (i0+1) r = true:=by
   cases x <;> first|exact h|(simp only [touchOk,Bool.and_eq_true] at h; exact h.2)
  have:=touchOk_at r (i0+1) k off xs hr (by simpa using hk)
  rw [show i0+(k+1) = i0+1+k from by omega]
  exact this
theorem memOk_at {ops:Array Oper} {E:List Bx} {S0:List Spo}:∀ (S:List Spo) (i0 k:Nat),memOk ops E S0 i0 S = true→memOk ops E S0 (i0+k) (S.drop k) = true
 | [],_,_,_=>by simp [memOk]
 | x :: r,i0,0,h=>h
 | x :: r,i0,k+1,h=>by
  have hr:memOk ops E S0 (i0+1) r = true:=by
   cases x <;> first|exact h|(simp only [memOk,Bool.and_eq_true] at h; exact h.2)
  have:=memOk_at r (i0+1) k hr
  rw [show i0+(k+1) = i0+1+k from by omega]
  exact this
theorem cellsOf_agree {f g:Nat→Bool} {j:Nat}:∀ (S:List Spo) (i0:Nat) (cs:Array Value),(∀ (k off:Nat) (xs:List Value),S[k]? = some (.p j off xs)→f (i0+k) = g (i0+k))→cellsOf f j i0 S cs = cellsOf g j i0 S cs
 | [],_,_,_=>rfl
 | x :: r,i0,cs,h=>by
  have hr:∀ cs,cellsOf f j (i0+1) r cs = cellsOf g j (i0+1) r cs:=fun cs=>cellsOf_agree r (i0+1) cs (fun k off xs hk=>by
   have:=h (k+1) off xs (by simpa using hk)
   rw [show i0+1+k = i0+(k+1) from by omega]; exact this)
  cases x with
  | p j' off xs=>
   simp only [cellsOf]
   cases hb:Nat.beq j' j with
   | true=>
    obtain rfl:=Nat.eq_of_beq_eq_true hb
    have:=h 0 off xs rfl
    rw [Nat.add_zero] at this
    rw [this]; exact hr _
   | false=>simp only [Bool.and_false]; exact hr _
  | _=>exact hr cs
theorem cellsOf_none {f:Nat→Bool} {j:Nat}:∀ (S:List Spo) (i0:Nat) (cs:Array Value),(∀ (k off:Nat) (xs:List Value),S[k]? = some (.p j off xs)→f (i0+k) = false)→cellsOf f j i0 S cs = cs
 | [],_,_,_=>rfl
 | x :: r,i0,cs,h=>by
  have hr:cellsOf f j (i0+1) r cs = cs:=cellsOf_none r (i0+1) cs (fun k off xs hk=>by
   have:=h (k+1) off xs (by simpa using hk)
   rw [show i0+1+k = i0+(k+1) from by omega]; exact this)
  cases x with
  | p j' off xs=>
   simp only [cellsOf]
   cases hb:Nat.beq j' j with
   | true=>
    obtain rfl:=Nat.eq_of_beq_eq_true hb
    have:=h 0 off xs rfl
    rw [Nat.add_zero] at this
    rw [this]; exact hr
   | false=>simp only [Bool.and_false]; exact hr
  | _=>exact hr
theorem cellsOf_put {f:Nat→Bool} {j:Nat}:∀ (S:List Spo) (i0 k:Nat) (off:Nat) (xs:List Value) (cs:Array Value),S[k]? = some (.p j off xs)→f (i0+k) = false→(∀ (k' off':Nat) (xs':List Value),S[k']? = some (.p j off' xs')→k < k'→f (i0+k') = false) →
  cellsOf (fun m=>f m || Nat.beq m (i0+k)) j i0 S cs = setL (cellsOf f j i0 S cs) off xs
 | [],_,_,_,_,_,hk,_,_=>by simp at hk
 | x :: r,i0,0,off,xs,cs,hk,h0,h=>by
  simp only [List.getElem?_cons_zero,Option.some.injEq] at hk
  subst hk
  rw [Nat.add_zero] at h0 ⊢
  simp only [cellsOf,h0,Nat.beq_refl,Bool.false_or,Bool.true_and,Bool.false_and]
  rw [cellsOf_none r (i0+1) (setL cs off xs) (fun k off' xs' hk=>by
    have:=h (k+1) off' xs' (by simpa using hk) (by omega)
    rw [show i0+(k+1) = i0+1+k from by omega] at this
    rw [this,Bool.false_or]
    cases hb:Nat.beq (i0+1+k) i0 with
    | false=>rfl
    | true=>have:=Nat.eq_of_beq_eq_true hb; omega),
   cellsOf_none r (i0+1) cs (fun k off' xs' hk=>by
    have:=h (k+1) off' xs' (by simpa using hk) (by omega)
    rw [show i0+(k+1) = i0+1+k from by omega] at this
    exact this)]
 | x :: r,i0,k+1,off,xs,cs,hk,h0,h=>by
  have hr:∀ cs,cellsOf (fun m=>f m || Nat.beq m (i0+(k+1))) j (i0+1) r cs = setL (cellsOf f j (i0+1) r cs) off xs:=fun cs=>by
   have e:i0+(k+1) = i0+1+k:=by omega
   rw [e] at h0 ⊢
   exact cellsOf_put r (i0+1) k off xs cs (by simpa using hk) h0 (fun k' off' xs' hk' hlt=>by
    have:=h (k'+1) off' xs' (by simpa using hk') (by omega)
    rw [show i0+(k'+1) = i0+1+k' from by omega] at this
    exact this)
  have hb0:Nat.beq i0 (i0+(k+1)) = false:=by
   cases hb:Nat.beq i0 (i0+(k+1)) with
   | false=>rfl
   | true=>have:=Nat.eq_of_beq_eq_true hb; omega
  cases x with
  | p j' off' xs'=>
   simp only [cellsOf,hb0,Bool.or_false]
   exact hr _
  | _=>exact hr cs
end Go.Proofs.YtfjegmlpkiaifaaGreatDoor
