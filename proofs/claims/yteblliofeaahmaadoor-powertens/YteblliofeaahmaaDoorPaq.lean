/- Of what PowerTensRow stands on: RefLess RefDbl RefQuoM RefUpDown. -/
import Derived.Test.YteblliofeaahmaaDoorPao
import Derived.Test.YteblliofeaahmaaDoorPap
import Derived.Test.YteblliofeaahmaaDoorPal
import Derived.Test.YteblliofeaahmaaDoorPam
import Derived.Test.YteblliofeaahmaaDoorPaf
import Derived.BigQuiet
namespace Go.Proofs.YteblliofeaahmaaDoor
open Go.RowKit
set_option maxHeartbeats 2000000
set_option maxRecDepth 20000
theorem less_step {o q p c c' z y x s B:Nat} (h:o+q = p+B * c) (hs:s+y+c = x+4294967296) (hz:z = s % 4294967296) (hc:c'+s / 4294967296 = 1):(o+B * z)+(q+B * y) = (p+B * x)+B * 4294967296 * c':=by
 have e0:z+y+c = x+4294967296 * c':=by omega
 have e1:B * z+B * y+B * c = B * x+B * 4294967296 * c':=by rw [← Nat.mul_add,← Nat.mul_add,e0,Nat.mul_add,Nat.mul_assoc]
 omega
theorem less_end {o q p B c:Nat} (h:o+q = p+B * c) (hc:c≤1) (ho:o < B) (hq:q≤p):o = p - q:=by
 rcases Nat.lt_or_ge 0 c with h0|h0
 ·have:c = 1:=by omega
  subst this
  omega
 ·have:c = 0:=by omega
  subst this
  omega
def LessTo (base N V:Nat) (e:Ending) (w':World):Prop:=
 ∃ a n c zs,e = .returned (.slice a n c)∧n≤N∧zs.length = n∧Own w' base (.slice a n c) zs∧Pl.Wf zs∧Pl.Norm zs∧Pl.val zs = V
theorem rless_list (a a':Option Addr) (n n' cap cap':Nat) (xs ys:List Nat) (w:World) (hn:xs.length = n) (hn':ys.length = n') (hl:Lim w a xs) (hl':Lim w a' ys) (hw:Pl.Wf xs) (hw':Pl.Wf ys) (hnn:n'≤n) (hM:n≤40000) (hle:Hid (Pl.val ys≤Pl.val xs)) :
  Calls Tryd.prog 88 #[.slice a n cap,.slice a' n' cap'] w fun e w'=>LessTo w.heap.size n (Pl.val xs - Pl.val ys) e w'∧Below w.heap.size w w':=by
 have HLX:=hide (fun (i:Nat) (W:World) (h:Lim W a xs) (hi:i < 9223372036854775808)=>rlimb_any a n cap i xs W hn h hw hi)
 have HLY:=hide (fun (i:Nat) (W:World) (h:Lim W a' ys) (hi:i < 9223372036854775808)=>rlimb_any a' n' cap' i ys W hn' h hw' hi)
 have HL:=hide hl
 have HL':=hide hl'
 have HN:=hide hn
 have HN':=hide hn'
 have HNN:=hide hnn
 clear hl hn hl' hn' hnn
 go_enter Tryd.func88,Tryd.ntmps88
 go_wp2
 go_loopw [5,6,7] (fun s3 s4 s5 wr=>∃ (i c:Nat) (zs:List Nat),i≤n∧s5 = .int .i64 (i:Int)∧s4 = .int .u64 (c:Int)∧c≤1∧Hid (Own wr w.heap.size s3 zs∧zs.length = i∧Pl.Wf zs∧Pl.val zs+Pl.val (ys.take i) = Pl.val (xs.take i)+4294967296 ^ i * c∧Below w.heap.size w wr)) (fun _ _ s5 _=>n - (intOf s5).toNat)
 case atStart=>exact ⟨0,0,[],Nat.zero_le _,rfl,rfl,by omega,hide ⟨Or.inl ⟨rfl,rfl⟩,rfl,Pl.wf_nil,by simp [Pl.val],gr_refl _⟩⟩
 case round=>
  obtain ⟨i,c,zs,hi,rfl,rfl,hc,HS⟩:=hrel
  by_cases hin:i < n
  ·obtain ⟨h1,h2,h3,h4,h5⟩:=unhide HS
   obtain ⟨va,vn,vc,rfl⟩:=h1.slice
   have hvn:=h1.len
   obtain ⟨x,hxx⟩:∃ x,x = xs[i]?.getD 0:=⟨_,rfl⟩
   obtain ⟨y,hyy⟩:∃ y,y = ys[i]?.getD 0:=⟨_,rfl⟩
   have hx1:x < 4294967296:=by rw [hxx]; exact Pl.wf_at hw _
   have hy1:y < 4294967296:=by rw [hyy]; exact Pl.wf_at hw' _
   have L1:=unhide HLX i wr ((unhide HL).below h5) (by omega)
   have L2:=unhide HLY i wr ((unhide HL').below h5) (by omega)
   rw [← hxx] at L1
   rw [← hyy] at L2
   have HL1:=hide L1
   have HL2:=hide L2
   obtain ⟨s,hs⟩:∃ s,s+y+c = x+4294967296:=⟨x+4294967296 - y - c,by omega⟩
   have hs1:s < 8589934592:=by omega
   obtain ⟨v',W',hrun,hO,hap,_⟩:=append_own1 wr w.heap.size vn vc (s % 4294967296) va zs h1 h5.size (by omega)
   have hval:Pl.val (zs ++ [s % 4294967296])+Pl.val (ys.take (i+1)) = Pl.val (xs.take (i+1))+4294967296 ^ (i+1) * (1 - s / 4294967296):=by
    rw [Pl.val_append,Pl.val_one,h2,Nat.pow_succ,Pl.val_take_any xs i,Pl.val_take_any ys i,← hxx,← hyy]
    exact less_step h4 hs rfl (by omega)
   have hB':Below w.heap.size w W':=h5.trans ⟨hap.os,hap.tape,hap.output,hap.size,fun q hq=>hap.block q (by have:=h5.size; omega) (fun e=>by have:=h1.lt q e.symm; omega)⟩
   have hsi:(x:Int)+4294967296 - (y:Int) - (c:Int) = (s:Int):=by omega
   have hs2:s / 4294967296≤1:=by omega
   have HS':=hide (show Own W' w.heap.size v' (zs ++ [s % 4294967296])∧(zs ++ [s % 4294967296]).length = i+1∧Pl.Wf (zs ++ [s % 4294967296])∧_∧Below w.heap.size w W' from ⟨hO,by simp [h2],Pl.wf_append h3 (Pl.wf_one (Nat.mod_lt _ (by decide))),hval,hB'⟩)
   have e2:(s:Int) % 4294967296 = ((s % 4294967296:Nat):Int):=by omega
   rw [← e2] at hrun
   have HSI:=hide hsi
   have HRUN:=hide hrun
   clear h1 h2 h3 h4 h5 hxx hyy L1 L2 hO hap hval hB' hs HS hrun hvn e2 hsi
   go_wp2_with fail
   refine (unhide HL1).mono ?_
   rintro e w1 ⟨rfl,rfl⟩
   go_wp2_with fail
   refine (unhide HL2).mono ?_
   rintro e w1 ⟨rfl,rfl⟩
   go_wp2_with (at_builtin; rw [unhide HSI]; refine wpList_append_run rfl (.tmp 25) (.tmp 28) 63 rfl (unhide HRUN) ?_)
   go_roundw
   case rel=>exact ⟨i+1,1 - s / 4294967296,zs ++ [s % 4294967296],by omega,by go_num,by go_num,by omega,HS'⟩
   case measure=>simp [intOf]; omega
  ·obtain ⟨h1,h2,h3,h4,h5⟩:=unhide HS
   obtain ⟨va,vn,vc,rfl⟩:=h1.slice
   obtain rfl:i = n:=by omega
   have hxn:=unhide HN
   have hyn:=unhide HN'
   have hnn:=unhide HNN
   rw [List.take_of_length_le (by omega),List.take_of_length_le (by omega)] at h4
   have hlt:=Pl.val_lt h3
   rw [h2] at hlt
   have hv:=less_end h4 hc hlt (unhide hle)
   have HT:=hide (rtrim_own w.heap.size _ zs wr h1 h3)
   have HV:=hide hv
   have HB:=hide h5
   have HZ:=hide h2
   clear h1 h2 h3 h4 h5 hv hlt hxn hyn hnn HS
   go_wp2_with fail
   refine (unhide HT).mono ?_
   rintro e w1 ⟨rfl,a2,l,c2,ys2,rfl,t1,t2,t3,t4,t5,t6⟩
   have HM:=hide (show LessTo w.heap.size i (Pl.val xs - Pl.val ys) (.returned (.slice a2 l c2)) wr from ⟨a2,l,c2,ys2,rfl,by have:=unhide HZ; omega,t2,t3,t4,t5,t6.trans (unhide HV)⟩)
   clear t1 t2 t3 t4 t5 t6 HT
   go_wp2
   go_ret
   exact ⟨unhide HM,unhide HB⟩
theorem rcmp_all (a a':Option Addr) (n n' cap cap' m m':Nat) (w:World) (h:Num w a n m) (h':Num w a' n' m') :
  Calls Tryd.prog 59 #[.slice a n cap,.slice a' n' cap'] w fun e w'=>e = .returned (.int .i64 (cmpI m m'))∧Below w.heap.size w w':=by
 by_cases he:n = n'
 ·subst he
  exact rcmp_any a a' n cap cap' m m' w h h'
 ·obtain ⟨xs,hn,hl,hw,hN,hv,hb⟩:=h
  obtain ⟨ys,hn',hl',hw',hN',hv',hb'⟩:=h'
  have hne:((n:Int) != (n':Int)) = true:=by simp; omega
  have hne2:((n:Int) == (n':Int)) = false:=by simp; omega
  by_cases hlt:n < n'
  ·have hc:cmpI m m' = -1:=by rw [← hv,← hv']; exact cmpI_lt (cmp_len hw hN' (by omega))
   rw [hc]
   clear hc hv hv' hn hn' hl hl' hw hw' hN hN' he
   go_enter Tryd.func59,Tryd.ntmps59
   go_wp2
   go_ret
   exact ⟨rfl,gr_refl _⟩
  ·have hlt2:n' < n:=by omega
   have hc:cmpI m m' = 1:=by rw [← hv,← hv']; exact cmpI_gt (cmp_len hw' hN (by omega))
   rw [hc]
   clear hc hv hv' hn hn' hl hl' hw hw' hN hN' he hlt
   go_enter Tryd.func59,Tryd.ntmps59
   go_wp2
   go_ret
   exact ⟨rfl,gr_refl _⟩
theorem norm_val {zs:List Nat} (hw:Pl.Wf zs) (h:0 < zs.length→4294967296 ^ (zs.length - 1)≤Pl.val zs):Pl.Norm zs:=by
 rcases Nat.eq_zero_or_pos zs.length with h0|h0
 ·exact Pl.norm_of (Or.inl h0)
 ·refine Pl.norm_of (Or.inr fun hz=>?_)
  have h1:=h h0
  have h2:=Pl.val_take_any zs (zs.length - 1)
  rw [hz,Nat.mul_zero,Nat.add_zero,show zs.length - 1+1 = zs.length by omega,List.take_of_length_le (Nat.le_refl _)] at h2
  have h3:=Pl.val_lt (Pl.wf_take hw (zs.length - 1))
  rw [List.length_take,Nat.min_eq_left (by omega)] at h3
  omega
theorem or_dbl {x c:Nat} (hc:c≤1):Go.bits .or .u32 ((x:Int) * 2 % 4294967296) (c:Int) = ((x * 2 % 4294967296+c:Nat):Int):=by
 have e0:(x:Int) * 2 % 4294967296 = ((x * 2 % 4294967296:Nat):Int):=by omega
 have e1:x * 2 % 4294967296 = 2 ^ 1 * (x % 2147483648):=by omega
 have e2:x * 2 % 4294967296 ||| c = x * 2 % 4294967296+c:=by
  have:=Nat.two_pow_add_eq_or_of_lt (i:=1) (b:=c) (by omega) (x % 2147483648)
  rw [e1]; exact this.symm
 have hy:x * 2 % 4294967296 < 4294967296:=Nat.mod_lt _ (by decide)
 rw [e0]
 clear e0 e1
 generalize x * 2 % 4294967296 = y at *
 have hlt:y ||| c < 2 ^ 32:=Nat.or_lt_two_pow (by omega) (by omega)
 show IntKind.u32.wrap ((BitVec.ofInt 32 (y:Int) ||| BitVec.ofInt 32 (c:Int)).toNat:Int) = _
 rw [BitVec.toNat_or,BitVec.ofInt_natCast,BitVec.ofInt_natCast,BitVec.toNat_ofNat,BitVec.toNat_ofNat,Nat.mod_eq_of_lt (by omega),Nat.mod_eq_of_lt (by omega),e2]
 rw [IntKind.wrap_u32]
 omega
theorem dbl_step {o p x c k b:Nat} (h:o+4294967296 ^ k * c = 2 * p+b):(o+4294967296 ^ k * (x * 2 % 4294967296+c))+4294967296 ^ (k+1) * (x / 2147483648) = 2 * (p+4294967296 ^ k * x)+b:=by
 have e:2 * x = x * 2 % 4294967296+4294967296 * (x / 2147483648):=by omega
 rw [Nat.pow_succ,Nat.mul_add,Nat.mul_assoc,Nat.mul_add 2,Nat.mul_left_comm 2,e,Nat.mul_add]
 omega
def DblTo (base n m:Nat) (e:Ending) (w':World):Prop:=
 ∃ a l c zs,e = .returned (.slice a l c)∧Own w' base (.slice a l c) zs∧l≤n+1∧Pl.Wf zs∧Pl.Norm zs∧Pl.val zs = m
theorem rdouble_any (base:Nat) (a:Option Addr) (n cap bit:Nat) (xs:List Nat) (w:World) (h:Own w base (.slice a n cap) xs) (hw:Pl.Wf xs) (hN:Pl.Norm xs) (hn:n≤20000) (hb:base≤w.heap.size) (hbit:bit≤1) :
  Calls Tryd.prog 107 #[.slice a n cap,.int .u32 (bit:Int)] w fun e w'=>DblTo base n (2 * Pl.val xs+bit) e w'∧Below base w w':=by
 have HX:=hide h.len
 have H0:=hide h
 have HNN:=hide hN
 clear h hN
 go_enter Tryd.func107,Tryd.ntmps107
 go_wp2
 go_loopw [1,5] (fun s1 s5 wr=>∃ (k c:Nat) (out:List Nat),k≤n∧s5 = .int .i64 (k:Int)∧s1 = .int .u32 (c:Int)∧c≤1∧Hid (out.length = k∧Pl.Wf out∧Pl.val out+4294967296 ^ k * c = 2 * Pl.val (xs.take k)+bit∧Own wr base (.slice a n cap) (out ++ xs.drop k)∧Below base w wr)) (fun _ s5 _=>n - (intOf s5).toNat)
 case atStart=>exact ⟨0,bit,[],Nat.zero_le _,rfl,rfl,hbit,hide ⟨rfl,Pl.wf_nil,by simp [Pl.val],unhide H0,Below.refl _ _⟩⟩
 case round=>
  obtain ⟨k,c,out,hk,rfl,rfl,hc,HS⟩:=hrel
  by_cases hkn:k < n
  ·obtain ⟨h1,h2,h3,h4,h5⟩:=unhide HS
   obtain ⟨x,hxx⟩:∃ x,x = xs[k]?.getD 0:=⟨_,rfl⟩
   have hx1:x < 4294967296:=by rw [hxx]; exact Pl.wf_at hw _
   have hlx:=unhide HX
   obtain ⟨b,rfl,hbb,hblt,hcell,hfz⟩:=h4.open (by omega)
   have hcx:wr.cell? ⟨b,k,none⟩ = some (.int .u32 (x:Int)):=by
    rw [hcell k hkn,hxx,List.getElem?_append_right (by omega),h1,Nat.sub_self,List.getElem?_drop,Nat.add_zero]
   have hfzk:=hfz k
   obtain ⟨z,hz⟩:∃ z,z = x * 2 % 4294967296+c:=⟨_,rfl⟩
   have hor:=or_dbl (x:=x) hc
   rw [← hz] at hor
   have hO:=h4.put (k:=k) (z:=z) hkn
   have hset:(out ++ xs.drop k).set k z = (out ++ [z]) ++ xs.drop (k+1):=by
    rw [List.set_append_right k z (by omega),h1,Nat.sub_self,List.append_assoc,Pl.drop_cons xs k (by omega)]; rfl
   rw [hset] at hO
   have hB:=h5.setCell (p:=⟨b,k,none⟩) hbb (.int .u32 (z:Int))
   have hv:Pl.val (out ++ [z])+4294967296 ^ (k+1) * (x / 2147483648) = 2 * Pl.val (xs.take (k+1))+bit:=by
    rw [Pl.val_append,Pl.val_one,h1,Pl.val_take_any xs k,← hxx,hz]
    exact dbl_step h3
   have HS':=hide (show (out ++ [z]).length = k+1∧Pl.Wf (out ++ [z])∧_∧Own (wr.setCell ⟨b,k,none⟩ (.int .u32 (z:Int))) base _ _∧Below base w (wr.setCell ⟨b,k,none⟩ (.int .u32 (z:Int))) from ⟨by simp [h1],Pl.wf_append h2 (Pl.wf_one (by omega)),hv,hO,hB⟩)
   have hd:x / 2147483648≤1:=by omega
   have hdi:(x:Int) / 2147483648 = ((x / 2147483648:Nat):Int):=by omega
   have HD:=hide hd
   have HDI:=hide hdi
   have HBB:=hide hbb
   clear h1 h2 h3 h4 h5 hxx hlx hcell hfz hset hO hB hv hz HS hd hdi hbb hb hc hbit
   go_wp2
   go_roundw
   case rel=>exact ⟨k+1,x / 2147483648,out ++ [z],by omega,by go_num,by rw [unhide HDI],unhide HD,HS'⟩
   case measure=>simp [intOf]; omega
  ·obtain ⟨h1,h2,h3,h4,h5⟩:=unhide HS
   obtain rfl:k = n:=by omega
   have hlx:=unhide HX
   rw [List.drop_eq_nil_of_le (by omega),List.append_nil] at h4
   rw [List.take_of_length_le (by omega)] at h3
   rcases Nat.eq_zero_or_pos c with h0|h0
   ·subst h0
    rw [Nat.mul_zero,Nat.add_zero] at h3
    have hno:Pl.Norm out:=norm_val h2 fun hp=>by
     have:=Pl.norm_lower (unhide HNN) (by omega)
     rw [hlx] at this
     rw [h3,h1]; omega
    have HM:=hide (show DblTo base k (2 * Pl.val xs+bit) (.returned (.slice a k cap)) wr from ⟨a,k,cap,out,rfl,h4,by omega,h2,hno,h3⟩)
    have HB:=hide h5
    clear h1 h2 h3 h4 h5 hlx hno HS hb hbit hc
    go_wp2
    go_ret
    exact ⟨unhide HM,unhide HB⟩
   ·obtain rfl:c = 1:=by omega
    obtain ⟨v',W',hrun,hO,hap,_⟩:=append_own1 wr base k cap 1 a out h4 (Nat.le_trans hb h5.size) (by omega)
    obtain ⟨a2,n2,c2,rfl⟩:=hO.slice
    have hl2:=hO.len
    rw [List.length_append,h1] at hl2
    have hv:Pl.val (out ++ [1]) = 2 * Pl.val xs+bit:=by rw [Pl.val_append,Pl.val_one,h1]; exact h3
    have hno:Pl.Norm (out ++ [1]):=Pl.norm_of (Or.inr (by simp))
    have hB':Below base w W':=h5.trans ⟨hap.os,hap.tape,hap.output,hap.size,fun q hq=>hap.block q (by have:=h5.size; omega) (fun e=>by have:=h4.lt q e.symm; omega)⟩
    have HM:=hide (show DblTo base k (2 * Pl.val xs+bit) (.returned (.slice a2 n2 c2)) W' from ⟨a2,n2,c2,out ++ [1],rfl,hO,by simp at hl2; omega,Pl.wf_append h2 (Pl.wf_one (by decide)),hno,hv⟩)
    have HB:=hide hB'
    have HRUN:=hide hrun
    clear h1 h2 h3 h4 h5 hlx hno HS hb hbit hc hO hap hl2 hv hB' hrun
    go_wp2_with (at_builtin; refine wpList_append_run rfl (.tmp 31) (.tmp 33) 63 rfl (unhide HRUN) ?_)
    go_ret
    exact ⟨unhide HM,unhide HB⟩
theorem qbit {m i X d r:Nat} (h:m / 2 ^ (i+1) = X * d+r):m / 2 ^ i = 2 * X * d+(2 * r+m / 2 ^ i % 2):=by
 have e:m / 2 ^ (i+1) = m / 2 ^ i / 2:=by rw [Nat.pow_succ,Nat.div_div_eq_div_mul]
 rw [e] at h
 have h2:=Nat.div_add_mod (m / 2 ^ i) 2
 rw [h,Nat.mul_add,← Nat.mul_assoc] at h2
 omega
theorem val_put:∀ (xs:List Nat) (k y:Nat),k < xs.length→Pl.val (xs.set k (xs[k]?.getD 0+y)) = Pl.val xs+4294967296 ^ k * y
 | [],k,y,h=>by simp at h
 | x :: r,0,y,_=>by
  show x+y+4294967296 * Pl.val r = x+4294967296 * Pl.val r+_
  rw [Nat.pow_zero,Nat.one_mul]; omega
 | x :: r,k+1,y,h=>by
  have ih:=val_put r k y (by simpa using h)
  show x+4294967296 * Pl.val (r.set k (r[k]?.getD 0+y)) = x+4294967296 * Pl.val r+_
  rw [ih,Nat.mul_add,Nat.pow_succ,Nat.mul_comm (4294967296 ^ k) 4294967296,Nat.mul_assoc]; omega
theorem or_bit {q pt:Nat} (hq:q < 4294967296) (hp:pt < 32) (h:q / 2 ^ pt % 2 = 0):Go.bits .or .u32 (q:Int) ((2 ^ pt:Nat):Int) = ((q+2 ^ pt:Nat):Int)∧q+2 ^ pt < 4294967296:=by
 have h1:=Nat.div_add_mod q (2 ^ (pt+1))
 have e1:q / 2 ^ (pt+1) = q / 2 ^ pt / 2:=by rw [Nat.pow_succ,Nat.div_div_eq_div_mul]
 have h2:=Nat.div_add_mod q (2 ^ pt)
 have hlo:q % 2 ^ pt < 2 ^ pt:=Nat.mod_lt _ (Nat.pow_pos (by decide))
 obtain ⟨hi,hhi⟩:∃ hi,hi = q / 2 ^ pt / 2:=⟨_,rfl⟩
 obtain ⟨lo,hlo2⟩:∃ lo,lo = q % 2 ^ pt:=⟨_,rfl⟩
 have e2:q / 2 ^ pt = 2 * hi:=by omega
 rw [e2,← hlo2] at h2
 rw [← hlo2] at hlo
 have e3:2 ^ (pt+1) = 2 ^ pt * 2:=Nat.pow_succ ..
 have e4:q = 2 ^ (pt+1) * hi+lo:=by rw [e3,Nat.mul_assoc]; exact h2.symm
 have e5:q+2 ^ pt = 2 ^ (pt+1) * hi+(2 ^ pt * 1+lo):=by rw [Nat.mul_one]; omega
 have hlt:q+2 ^ pt < 4294967296:=by
  have e6:4294967296 = 2 ^ (pt+1) * 2 ^ (31 - pt):=by rw [← Nat.pow_add,show pt+1+(31 - pt) = 32 by omega]
  have h6:hi < 2 ^ (31 - pt):=by
   have:2 ^ (pt+1) * hi < 2 ^ (pt+1) * 2 ^ (31 - pt):=by rw [← e6]; omega
   exact Nat.lt_of_mul_lt_mul_left this
  have h7:2 ^ (pt+1) * (hi+1)≤2 ^ (pt+1) * 2 ^ (31 - pt):=Nat.mul_le_mul_left _ h6
  rw [← e6,Nat.mul_add] at h7
  omega
 have e7:q ||| 2 ^ pt = q+2 ^ pt:=by
  have a1:=Nat.two_pow_add_eq_or_of_lt (i:=pt+1) (b:=lo) (by omega) hi
  have a2:=Nat.two_pow_add_eq_or_of_lt (i:=pt) (b:=lo) hlo 1
  have a3:=Nat.two_pow_add_eq_or_of_lt (i:=pt+1) (b:=2 ^ pt * 1+lo) (by omega) hi
  rw [e5,a3,a2,e4,a1,Nat.or_assoc,Nat.mul_one,Nat.or_comm lo]
 have hp2:2 ^ pt < 4294967296:=by omega
 refine ⟨?_,hlt⟩
 show IntKind.u32.wrap ((BitVec.ofInt 32 (q:Int) ||| BitVec.ofInt 32 ((2 ^ pt:Nat):Int)).toNat:Int) = _
 rw [BitVec.toNat_or,BitVec.ofInt_natCast,BitVec.ofInt_natCast,BitVec.toNat_ofNat,BitVec.toNat_ofNat,Nat.mod_eq_of_lt (by omega),Nat.mod_eq_of_lt (by omega),e7,IntKind.wrap_u32]
 omega
theorem wf_put {qs:List Nat} {k z:Nat} (hw:Pl.Wf qs) (hz:z < 4294967296):Pl.Wf (qs.set k z):=fun x hx=>by
 rcases List.mem_or_eq_of_mem_set hx with h|h
 ·exact hw x h
 ·omega
theorem put_bit {qs:List Nat} {X i:Nat} (hw:Pl.Wf qs) (hi:i / 32 < qs.length) (hv:Pl.val qs = 2 * X * 2 ^ i) :
  Go.bits .or .u32 ((qs[i / 32]?.getD 0:Nat):Int) ((2 ^ (i % 32):Nat):Int) = ((qs[i / 32]?.getD 0+2 ^ (i % 32):Nat):Int)∧Pl.Wf (qs.set (i / 32) (qs[i / 32]?.getD 0+2 ^ (i % 32)))∧Pl.val (qs.set (i / 32) (qs[i / 32]?.getD 0+2 ^ (i % 32))) = (2 * X+1) * 2 ^ i:=by
 have hb:=bit_row hw i
 rw [hv,Nat.mul_div_cancel _ (Nat.pow_pos (by decide)),Nat.mul_mod_right] at hb
 obtain ⟨h1,h2⟩:=or_bit (Pl.wf_at hw (i / 32)) (by omega) hb.symm
 refine ⟨h1,wf_put hw h2,?_⟩
 rw [val_put _ _ _ hi,hv,Nat.add_mul,Nat.one_mul]
 congr 1
 rw [show (4294967296:Nat) = 2 ^ 32 from rfl,← Nat.pow_mul,← Nat.pow_add]
 congr 1; omega
theorem rcheck_num (a:Option Addr) (n cap m:Nat) (w:World) (h:Num w a n m) :
  Calls Tryd.prog 53 #[.agg #[.slice a n cap]] w fun e w'=>e = .returned (.int .i64 0)∧Below w.heap.size w w':=by
 obtain ⟨xs,hn,hl,hw,hN,hv,hb⟩:=h
 have:=rcheck_any a cap xs w (by omega) hl
 rw [hn,chk_ok (by omega) hN] at this
 exact this
theorem rdown_any (a:Option Addr) (n cap m k:Nat) (w:World) (h:Num w a n m) (hk:k < 9223372036854775808) :
  Calls Tryd.prog 28 #[.agg #[.slice a n cap],.int .i64 (k:Int)] w fun e w'=>(∃ a' n' c',e = .returned (.tuple #[.agg #[.slice a' n' c'],.int .i64 0])∧Mine w' w.heap.size a' n' c' (m / 2 ^ k))∧Below w.heap.size w w':=by
 have HS:Hid (∀ W,Num W a n m→Calls Tryd.prog 54 #[.slice a n cap,.int .i64 (k:Int)] W fun e w'=>(∃ a' l c,e = .returned (.slice a' l c)∧Mine w' W.heap.size a' l c (m / 2 ^ k))∧Below W.heap.size W w'):=hide (fun W hW=>by
  obtain ⟨xs,hn,hl,hw,hN,hv,hb⟩:=hW
  rw [← hv]
  exact rdown_list a n cap (k / 32) (k % 32) k xs W hn hl hw hb (hide (by omega)) (by omega) hk)
 have HK:=hide (fun (o1 o2:Obj)=>rcheck_num a n cap m ((w.alloc o1).alloc o2) ((h.alloc o1).alloc o2))
 have H:=hide h
 clear h
 go_enter Tryd.func28,Tryd.ntmps28
 go_wp2_with fail
 refine (unhide HK _ _).mono ?_
 rintro e w1 ⟨rfl,hb1⟩
 have hbx:=((Box.made w (.slice a n cap)).alloc (.cells #[.slice none 0 0] 65)).kept hb1
 have hby:=(Box.made (w.alloc (.cells #[.slice a n cap] 65)) (.slice none 0 0)).kept hb1
 simp only [World.size_alloc] at hby
 have hcx:=hbx.cell
 have HB:=hide (gr_trans (gr_trans (gr_alloc w (.cells #[.slice a n cap] 65)) (gr_alloc _ (.cells #[.slice none 0 0] 65))) hb1)
 clear hb1 HK
 go_wp2_with fail
 refine (unhide HS _ ((unhide H).kept (unhide HB))).mono ?_
 rintro e w2 ⟨⟨a2,n2,c2,rfl,hm2⟩,hb2⟩
 have hX2:=hby.kept hb2
 have HM:=hide ((hm2.mono (unhide HB).size).alloc (.cells #[.slice a2 n2 c2] 65))
 have HB2:=hide (gr_trans (gr_trans (unhide HB) hb2) (gr_alloc w2 (.cells #[.slice a2 n2 c2] 65)))
 have hX3:=hX2.alloc (.cells #[.slice a2 n2 c2] 65)
 clear hm2 hb2
 go_wp2_with fail
 refine (rnat_any _ _ n2 c2 _ rfl).mono ?_
 rintro e w3 ⟨rfl,rfl⟩
 have hcx:=hX3.cell
 have hfx:=hX3.frozen
 go_wp2
 exact bodyPost_ret (v:=.tuple #[.agg #[.slice a2 n2 c2],.int .i64 0]) (by simp [results,Tryd.results28,go_sem,hcx]) rfl ⟨⟨_,_,_,rfl,(unhide HM).setBox hX3 _⟩,(unhide HB2).setCell (Nat.le_add_right _ 1) _⟩
theorem rup_zero (a:Option Addr) (cap k:Nat) (w:World) :
  Calls Tryd.prog 29 #[.agg #[.slice a 0 cap],.int .i64 (k:Int)] w fun e w'=>e = .returned (.tuple #[.agg #[.slice none 0 0],.int .i64 0])∧Below w.heap.size w w':=by
 have HK:=hide (fun (o1 o2:Obj)=>rcheck_num a 0 cap 0 ((w.alloc o1).alloc o2) ⟨[],rfl,Or.inl rfl,Pl.wf_nil,Pl.norm_nil,rfl,by omega⟩)
 go_enter Tryd.func29,Tryd.ntmps29
 go_wp2_with fail
 refine (unhide HK _ _).mono ?_
 rintro e w1 ⟨rfl,hb1⟩
 have hbx:=((Box.made w (.slice a 0 cap)).alloc (.cells #[.slice none 0 0] 65)).kept hb1
 have hby:=(Box.made (w.alloc (.cells #[.slice a 0 cap] 65)) (.slice none 0 0)).kept hb1
 simp only [World.size_alloc] at hby
 have hcx:=hbx.cell
 have hcy:=hby.cell
 have hfy:=hby.frozen
 have HB:=hide (gr_trans (gr_trans (gr_alloc w (.cells #[.slice a 0 cap] 65)) (gr_alloc _ (.cells #[.slice none 0 0] 65))) hb1)
 clear hb1 HK
 go_wp2
 exact bodyPost_ret (v:=.tuple #[.agg #[.slice none 0 0],.int .i64 0]) (by simp [results,Tryd.results29,go_sem,hcy]) rfl ⟨rfl,(unhide HB).setCell (by simp) _⟩
theorem rup_num (b off n cap m k j:Nat) (w:World) (h:Num w (some ⟨b,off,none⟩) n m) (hm:0 < m) (hj:Bl m j) (hlt:b < w.heap.size) (hk2:k < 9223372036854775808) :
  Calls Tryd.prog 29 #[.agg #[.slice (some ⟨b,off,none⟩) n cap],.int .i64 (k:Int)] w fun e w'=>Ans w' w.heap.size e (m * 2 ^ k)∧Below w.heap.size w w':=by
 have H:=hide h
 have hz:=h.zero
 have hn0:((n:Int) == 0) = false:=by simp; omega
 have HK:=hide (fun (o1 o2:Obj)=>rcheck_num (some ⟨b,off,none⟩) n cap m ((w.alloc o1).alloc o2) ((h.alloc o1).alloc o2))
 have hnb:=h.len
 have HJ:=hide hj
 clear hj h
 go_enter Tryd.func29,Tryd.ntmps29
 go_wp2_with fail
 refine (unhide HK _ _).mono ?_
 rintro e w1 ⟨rfl,hb1⟩
 have hbx:=((Box.made w (.slice (some ⟨b,off,none⟩) n cap)).alloc (.cells #[.slice none 0 0] 65)).kept hb1
 have hby:=(Box.made (w.alloc (.cells #[.slice (some ⟨b,off,none⟩) n cap] 65)) (.slice none 0 0)).kept hb1
 simp only [World.size_alloc] at hby
 have hcx:=hbx.cell
 have hcy:=hby.cell
 have hfy:=hby.frozen
 have HB:=hide (gr_trans (gr_trans (gr_alloc w (.cells #[.slice (some ⟨b,off,none⟩) n cap] 65)) (gr_alloc _ (.cells #[.slice none 0 0] 65))) hb1)
 clear hb1 HK
 go_wp2_with fail
 refine (rsize_any (some ⟨b,off,none⟩) n cap m w1 ((unhide H).kept (unhide HB))).mono ?_
 rintro e w2 ⟨⟨j2,rfl,hB2,hle⟩,rfl⟩
 obtain rfl:j2 = j:=hB2.uniq (unhide HJ)
 clear hB2
 have hj0:j2≠0:=fun e=>by subst e; have:=(unhide HJ).1; simp at this; omega
 have hlow:=(unhide HJ).2.resolve_left hj0
 by_cases hkj:k+j2≤524288
 ·have hgt:¬ (524288:Int) - (j2:Int) < (k:Int):=by omega
  have hm2:m * 2 ^ k < 2 ^ (k+j2):=by
   rw [Nat.add_comm,Nat.pow_add]
   exact Nat.mul_lt_mul_of_pos_right (unhide HJ).1 (Nat.pow_pos (by decide))
  have hm3:m * 2 ^ k < 4294967296 ^ Pl.top:=by
   rw [pow32]
   exact Nat.lt_of_lt_of_le hm2 (Nat.pow_le_pow_right (by decide) (by rw [Pl.top_eq]; omega))
  have HU:Hid (Calls Tryd.prog 56 #[.slice (some ⟨b,off,none⟩) n cap,.int .i64 (k:Int)] w1 fun e w'=>(∃ a' l c,e = .returned (.slice a' l c)∧Mine w' w1.heap.size a' l c (m * 2 ^ k))∧Below w1.heap.size w1 w'):=hide (by
   obtain ⟨xs,hn,hl,hw,hN,hv,hb⟩:=(unhide H).kept (unhide HB)
   have hc:∀ j,j < n→w1.cell? ⟨b,off+j,none⟩ = some (.int .u32 ((xs[j]?.getD 0:Nat):Int)):=by
    rcases hl with h0|⟨b2,off2,e,hc⟩
    ·rw [h0] at hn; simp at hn; omega
    ·injection e with e
     injection e with e1 e2
     subst e1 e2
     exact fun j hj=>hc j (by omega)
   refine (rup_list b off cap n (k / 32) (k % 32) k xs w1 (hide hn) (by omega) (by omega) hw (by have:=(unhide HB).size; omega) (hide (by omega)) (by omega) (by omega) (hide hc)).mono ?_
   rintro e w' ⟨⟨a',l,c,ys,rfl,h1,h2,h3,h4,h5⟩,h6⟩
   rw [hv] at h5
   refine ⟨⟨a',l,c,rfl,ys,h1,h2,h3,h4,h5,?_⟩,h6⟩
   have:=(Pl.val_le_len h3 h4 Pl.top).2 (by rw [h5]; exact hm3)
   rw [Pl.top_eq] at this
   omega)
  clear hm2 hm3 hkj hlow hj0
  go_wp2_with fail
  refine (unhide HU).mono ?_
  rintro e w3 ⟨⟨a3,n3,c3,rfl,hm3⟩,hb3⟩
  have hX3:=(hby.kept hb3).alloc (.cells #[.slice a3 n3 c3] 65)
  have HM:=hide ((hm3.mono (unhide HB).size).alloc (.cells #[.slice a3 n3 c3] 65))
  have HB3:=hide (gr_trans (gr_trans (unhide HB) hb3) (gr_alloc w3 (.cells #[.slice a3 n3 c3] 65)))
  clear hm3 hb3 hcy hfy
  go_wp2_with fail
  refine (rnat_any _ _ n3 c3 _ rfl).mono ?_
  rintro e w4 ⟨rfl,rfl⟩
  have hcx:=hX3.cell
  have hfx:=hX3.frozen
  go_wp2
  exact bodyPost_ret (v:=.tuple #[.agg #[.slice a3 n3 c3],.int .i64 0]) (by simp [results,Tryd.results29,go_sem,hcx]) rfl ⟨Or.inl ⟨_,_,_,rfl,(unhide HM).setBox hX3 _⟩,(unhide HB3).setCell (Nat.le_add_right _ 1) _⟩
 ·have hgt:(524288:Int) - (j2:Int) < (k:Int):=by omega
  have HO:Hid (Over (m * 2 ^ k)):=hide ⟨by
   rw [pow32]
   have h3:2 ^ (32 * Pl.top)≤2 ^ (j2 - 1+k):=Nat.pow_le_pow_right (by decide) (by rw [Pl.top_eq]; omega)
   rw [Nat.pow_add] at h3
   exact Nat.le_trans h3 (Nat.mul_le_mul_right _ hlow)⟩
  clear hlow hj0 hkj
  go_wp2
  exact bodyPost_ret (v:=.tuple #[.agg #[.slice none 0 0],.int .i64 4]) (by simp [results,Tryd.results29,go_sem,hcy]) rfl ⟨Or.inr ⟨rfl,unhide HO⟩,(unhide HB).setCell (by simp) _⟩
theorem rup_any (a:Option Addr) (n cap m k:Nat) (w:World) (h:Num w a n m) (hk:k < 9223372036854775808) :
  Calls Tryd.prog 29 #[.agg #[.slice a n cap],.int .i64 (k:Int)] w fun e w'=>Ans w' w.heap.size e (m * 2 ^ k)∧Below w.heap.size w w':=by
 by_cases hm:m = 0
 ·subst hm
  obtain rfl:=h.zero.2 rfl
  refine (rup_zero a cap k w).mono ?_
  rintro e w' ⟨rfl,hb⟩
  rw [Nat.zero_mul]
  exact ⟨Or.inl ⟨none,0,0,rfl,[],rfl,Or.inl ⟨rfl,rfl⟩,Pl.wf_nil,Pl.norm_nil,rfl,by omega⟩,hb⟩
 ·obtain ⟨j,hj⟩:=bl_ex m
  have h':=h
  obtain ⟨xs,hn,hl,hw,hN,hv,hb⟩:=h
  rcases hl.parts with h0|⟨_,b,off,rfl,hlt,_⟩
  ·rw [h0] at hv; exact absurd hv.symm hm
  ·exact rup_num b off n cap m k j w h' (by omega) hj hlt hk
end Go.Proofs.YteblliofeaahmaaDoor
