/- Of what DigitsNamesRow stands on: DcRow RChain DcAlive DcRndN DcRes DcRdN. -/
import Derived.Test.YtplihgoapiiigaaGreatDoorPai
import Derived.BigQuiet
import Derived.Lib.BytesEntry
import Derived.Lib.Bytealg
import Derived.Test.YtplihgoapiiigaaGreatDoorPaw
import Derived.Lib.MakeNoZero
import Derived.Laws.CopyRow
import Derived.Shelf.Bits.Mul64
import Derived.Test.YtplihgoapiiigaaGreatDoorPab
import Derived.Test.YtplihgoapiiigaaGreatDoorPbf
import Derived.Test.YtplihgoapiiigaaGreatDoorPba
import Derived.Test.YtplihgoapiiigaaGreatDoorPad
import Derived.Test.YtplihgoapiiigaaGreatDoorPat
import Derived.Test.YtplihgoapiiigaaGreatDoorPau
import Derived.Test.YtplihgoapiiigaaGreatDoorPaq
import Derived.Test.YtplihgoapiiigaaGreatDoorPaf
import Derived.Test.YtplihgoapiiigaaGreatDoorPaj
import Derived.Test.YtplihgoapiiigaaGreatDoorPal
import Derived.Test.YtplihgoapiiigaaGreatDoorPao
import Derived.Test.YtplihgoapiiigaaGreatDoorPag
import Derived.Test.YtplihgoapiiigaaGreatDoorPah
import Derived.Deep.LoopGhost
import Derived.Test.YtplihgoapiiigaaGreatDoorPbg
import Derived.Test.YtplihgoapiiigaaGreatDoorPak
namespace Go.Proofs.YtplihgoapiiigaaGreatDoor
open Go.RowKit
theorem Fs.only {w0 W W':World} {bs:List En} {B:Nat} (h:Fs w0 W bs) (k:Only B W W') (hB:w0.heap.size≤B) (hne:∀ x,x∈bs→x.b≠B):Fs w0 W' bs:=
 ⟨fun x hx=>by rw [k.block _ (hne x hx)]; exact h.bx x hx,Only.below h.fr k hB⟩
theorem Over.mono {a b:Nat} (h:Over a) (hab:a≤b):Over b:=⟨Nat.le_trans h.le hab⟩
theorem ddig_t {s:ByteArray} (hm:s.size≤65536) (hd:AllD s s.size) (W:World):Calls Tryz.prog 38 #[.string s] W fun e W'=>e = .returned (.bool true)∧Below W.heap.size W W':=
 (allDigits_any s W hm).mono fun e W' ⟨h,hb⟩=>⟨by
  rcases h with ⟨h,_⟩|⟨_,h⟩
  ·exact h
  ·exact absurd hd h,hb⟩
theorem chk_good (g:Bool) (s:ByteArray) (x:Int) (hm:s.size≤65536) (h0:s.size≠0) (hd:AllD s s.size) (ha:∀ h:0 < s.size,(s[0]'h).toNat≠48) (hb:∀ k,(h:k+1 = s.size)→(s[k]'(by omega)).toNat≠48) (hx0:-1073741824≤x) (hx1:x≤1073741824) (W:World) :
  Calls Tryz.prog 41 #[.agg #[.bool g,.string s,.int .i64 x]] W fun en W'=>en = .returned (.int .i64 0)∧Below W.heap.size W W':=by
 obtain ⟨f,t,hE,_,hc⟩:=ends_fix s hm
 have hf:f = 0:=by
  by_cases h:f = 0
  ·exact h
  ·exact absurd (hE.lo 0 (by omega) (by omega)) (ha _)
 have ht:s.size≤t:=by
  by_cases h:s.size≤t
  ·exact h
  ·exact absurd (hE.up (s.size - 1) (by omega) (by omega)) (hb (s.size - 1) (by omega))
 exact dck_ok W g s x f t hm h0 (hide hc) hf ht (hide (ddig_t hm hd)) (hide fun W=>bey_in W x hx0 hx1)
structure Lit (s:ByteArray) (n v:Nat):Prop where
 sz:s.size = n
 ok:AllD s s.size
 fst:∀ h:0 < s.size,(s[0]'h).toNat≠48
 lst:∀ k,(h:k+1 = s.size)→(s[k]'(by omega)).toNat≠48
 val:valS s = v
theorem Lit.mk' {s:ByteArray} {n v:Nat} (h1:s.size = n) (h2:∀ b,b∈s.data.toList→48≤b.toNat∧b.toNat≤57) (h3:s.data.toList.head?.map UInt8.toNat≠some 48) (h4:s.data.toList.getLast?.map UInt8.toNat≠some 48) (h5:valS s = v):Lit s n v:=by
 refine ⟨h1,alld_mem.2 h2,fun h e=>h3 ?_,fun k h e=>h4 ?_,h5⟩
 ·rw [List.head?_eq_getElem?,List.getElem?_eq_getElem (by rw [Array.length_toList]; exact h)]
  exact congrArg some e
 ·rw [List.getLast?_eq_getElem?,Array.length_toList,List.getElem?_eq_getElem (by rw [Array.length_toList]; exact Nat.sub_lt (by have:s.data.size = s.size:=rfl; omega) (by decide))]
  have hk:s.data.size - 1 = k:=by have:s.data.size = s.size:=rfl; omega
  subst hk
  exact congrArg some e
theorem Lit.chk {s:ByteArray} {n v:Nat} (h:Lit s n v) (hn:0 < n) (hm:n≤65536) (g:Bool) (x:Int) (hx0:-1073741824≤x) (hx1:x≤1073741824) (W:World) :
  Calls Tryz.prog 41 #[.agg #[.bool g,.string s,.int .i64 x]] W fun en W'=>en = .returned (.int .i64 0)∧Below W.heap.size W W':=
 chk_good g s x (by rw [h.sz]; exact hm) (by rw [h.sz]; omega) h.ok h.fst h.lst hx0 hx1 W
theorem lit_5:Lit ⟨#[53]⟩ 1 5:=Lit.mk' rfl (by decide) (by decide) (by decide) rfl
theorem says_1:Says ⟨#[49]⟩ 1:=⟨[1],rfl,fun d hd=>by simp at hd; omega,⟨by simp,Or.inr rfl⟩,rfl⟩
theorem rd_lit {g:Bool} {N:Nat} {x:Int} {e:Ending} {g2:Bool} {s2:ByteArray} {x2 e2:Int} (h:RdA g N x e) (hA:MkA g N x (.tuple #[.agg #[.bool g2,.string s2,.int .i64 x2],.int .i64 e2])):e = .returned (.tuple #[.agg #[.bool g2,.string s2,.int .i64 x2],.bool false,.int .i64 e2]):=by
 obtain ⟨g3,s3,x3,e3,h1,h2⟩:=h
 have hV:=h1.uniq hA
 simp only [Value.tuple.injEq,Array.mk.injEq,List.cons.injEq,Value.agg.injEq,Value.bool.injEq,Value.string.injEq,Value.int.injEq,true_and,and_true] at hV
 obtain ⟨⟨rfl,rfl,rfl⟩,rfl⟩:=hV
 exact h2
theorem cd_drop {l:List UInt8} (h:Cd l) (k:Nat):Cd (l.drop k):=by
 refine ⟨fun a ha=>h.1 a (List.mem_of_mem_drop ha),fun a ha=>h.2 a ?_⟩
 by_cases hk:k < l.length
 ·rw [← ha,List.getLast?_eq_getElem?,List.getLast?_eq_getElem?,List.getElem?_drop,List.length_drop]
  congr 1
  omega
 ·rw [List.drop_eq_nil_of_le (by omega)] at ha
  cases ha
theorem data_from (s:ByteArray) (k:Nat):(s.extract k s.size).data.toList = s.data.toList.drop k:=by
 rw [ByteArray.data_extract,Array.toList_extract,List.extract_eq_take_drop,List.take_of_length_le (by rw [List.length_drop,Array.length_toList]; exact Nat.le_refl _)]
theorem digs_from (s:ByteArray) (k:Nat):digs (s.extract k s.size) = (digs s).drop k:=by
 unfold digs
 rw [data_from,List.map_drop]
theorem alld_from {s:ByteArray} (h:AllD s s.size) (k:Nat):AllD (s.extract k s.size) (s.extract k s.size).size:=alld_mem.2 fun b hb=>by
 rw [data_from] at hb
 exact alld_mem.1 h b (List.mem_of_mem_drop hb)
theorem five_val:valS ⟨#[53]⟩ = 5:=lit_5.val
theorem five_cd:Cd (⟨#[53]⟩:ByteArray).data.toList:=⟨by decide,fun a ha=>by
 have:a = 53:=by simpa using ha.symm
 subst this
 decide⟩
theorem half_val {s:ByteArray} {c:Nat} (hd:AllD s s.size) (hc:Cd s.data.toList) (hs:s.size = c) (h0:0 < c):cmpS s ⟨#[53]⟩ = cmpZ ((valS s:Nat):Int) ((5 * 10 ^ (c - 1):Nat):Int):=by
 have h:=cmpS_val (o1:=0) (o2:=c - 1) hd lit_5.ok hc five_cd (by rw [lit_5.sz]; omega)
 rw [Nat.pow_zero,Nat.mul_one,five_val] at h
 exact h
structure Rnd (s:ByteArray) (g:Bool) (md c Q R:Nat) (up:Bool):Prop where
 val:valS s = Q * 10 ^ c+R
 pos:0 < R
 lt:R < 10 ^ c
 up:up = gOut md g (decide (Q % 2 = 1)) (cmpZ (R:Int) ((5 * 10 ^ (c - 1):Nat):Int))
theorem rounded_num (g:Bool) (s:ByteArray) (x:Int) (md c:Nat) (h:DcOk s x) (hn:s.size≠0) (hmd:md≤4) (hc0:0 < c) (hc1:c≤2147483648) :
  ∃ (Q R:Nat) (up:Bool),Rnd s g md c Q R up∧(Q < 10 ^ (s.size - c))∧∀ W:World,Calls Tryz.prog 23 #[.agg #[.bool g,.string s,.int .i64 x],.int .i64 (c:Int),.int .u8 (md:Int)] W fun e W'=>RdA g (Q+(if up then 1 else 0)) (x+(c:Int)) e∧Below W.heap.size W W':=by
 by_cases hcs:c < s.size
 ·obtain ⟨k,hk⟩:∃ k,k+c = s.size:=⟨s.size - c,by omega⟩
  have hlen:(digs s).length = s.size:=by simp [digs]
  have hrs:(s.extract k s.size).size = c:=by rw [ByteArray.size_extract]; omega
  have hrd:=alld_from h.ok k
  have hrc:Cd (s.extract k s.size).data.toList:=by rw [data_from]; exact cd_drop h.cd k
  obtain ⟨Q,hQ⟩:∃ Q,Pl.dval ((digs s).take k) 0 = Q:=⟨_,rfl⟩
  obtain ⟨R,hR⟩:∃ R,valS (s.extract k s.size) = R:=⟨_,rfl⟩
  have hDs:Pl.Dig (digs s):=h.ok.digS.2.1
  have hval:valS s = Q * 10 ^ c+R:=by
   rw [← hQ,← hR]
   unfold valS
   rw [digs_from]
   have e:=dval_append ((digs s).take k) ((digs s).drop k)
   rw [List.take_append_drop,List.length_drop,hlen,show s.size - k = c by omega] at e
   exact e
  have hRl:R < 10 ^ c:=by
   have:=valS_lt (s.extract k s.size) 0 hrd
   rw [Nat.pow_zero,Nat.mul_one,hR,hrs] at this
   exact this
  have hRp:0 < R:=by rw [← hR]; exact val_pos hrd (by omega) hrc
  obtain ⟨d,hd⟩:∃ d,(digs s)[k - 1]?.getD 0 = d:=⟨_,rfl⟩
  have hd10:d < 10:=by
   rw [← hd,List.getElem?_eq_getElem (by omega)]
   exact hDs _ (List.getElem_mem _)
  have hdd:∀ h':k - 1 < s.size,(s[k - 1]'h').toNat = 48+d:=fun h'=>by rw [h.ok.digS.2.2 (k - 1) h',hd]
  have hQd:Q % 2 = d % 2:=by
   have e:=dval_snoc (digs s) (k - 1) (by omega)
   rw [show k - 1+1 = k by omega,hQ,hd] at e
   omega
  have hcmp:=half_val hrd hrc hrs hc0
  rw [hR] at hcmp
  have ho:((d:Int) % 2 == 1) = decide (Q % 2 = 1):=by
   rw [hQd,Bool.eq_iff_iff,beq_iff_eq,decide_eq_true_iff]
   omega
  refine ⟨Q,R,gOut md g (decide (Q % 2 = 1)) (cmpZ (R:Int) ((5 * 10 ^ (c - 1):Nat):Int)),⟨hval,hRp,hRl,rfl⟩,?_,fun W=>rounded_A g s x md k c d W hk (by omega) hc0 h.sz hmd (hide h.ok) hdd hd10 (decide (Q % 2 = 1)) ho _ (hide (by rw [hQ,hcmp])) h.lo h.hi⟩
  have:=Pl.dval_lt (ds:=(digs s).take k) (fun a ha=>hDs a (List.mem_of_mem_take ha))
  rw [hQ,List.length_take,hlen,Nat.min_eq_left (by omega)] at this
  rw [show s.size - c = k by omega]
  exact this
 ·have hl:=valS_lt s 0 h.ok
  rw [Nat.pow_zero,Nat.mul_one,Nat.add_zero] at hl
  have hRp:0 < valS s:=val_pos h.ok hn h.cd
  have hRl:valS s < 10 ^ c:=Nat.lt_of_lt_of_le hl (Nat.pow_le_pow_right (by decide) (by omega))
  obtain ⟨c5,hc5⟩:∃ c5:Int,c5 = if s.size < c then -1 else cmpS s ⟨#[53]⟩:=⟨_,rfl⟩
  have hcm:c5 = cmpZ ((valS s:Nat):Int) ((5 * 10 ^ (c - 1):Nat):Int):=by
   rw [hc5]
   split
   ·rw [cmpZ_lt]
    have h1:10 ^ s.size≤10 ^ (c - 1):=Nat.pow_le_pow_right (by decide) (by omega)
    omega
   ·exact half_val h.ok h.cd (by omega) hc0
  have h5:c5 = -1∨c5 = 0∨c5 = 1:=by rw [hcm]; exact cmpZ_in _ _
  have HH:Hid (∀ W:World,Calls Tryz.prog 44 #[.string s,.int .i64 (c:Int)] W fun e w'=>e = .returned (.int .i64 c5)∧w' = W):=hide fun W=>by
   rw [hc5]; split
   ·exact half_less s c (by omega) W
   ·exact half_in s c (by omega) W
  refine ⟨0,valS s,gOut md g (decide (0 % 2 = 1)) (cmpZ ((valS s:Nat):Int) ((5 * 10 ^ (c - 1):Nat):Int)),⟨by omega,hRp,hRl,rfl⟩,Nat.pow_pos (by decide),fun W=>?_⟩
  have:=rounded_B g s x md c W (by omega) hc0 hc1 hmd c5 h5 HH _ (hide rfl) h.lo h.hi
  rw [hcm] at this
  rw [Nat.zero_add]
  exact this
theorem says_ok {t:ByteArray} {n:Nat} {y:Int} (h:Says t n) (h10:n % 10≠0) (hn:n < tenTop 65536) (h1:-1073741824≤y) (h2:y≤1073741824):DcOk t y∧valS t = n∧t.size≠0:=by
 have hl:t.size≤65536:=by
  rcases Nat.lt_or_ge 65536 t.size with q|q
  ·exact absurd (says_long h q) (by omega)
  ·exact q
 obtain ⟨ds,hc,hD,⟨l1,l2⟩,hv⟩:=h
 have ht:t = ⟨(chars ds).toArray⟩:=by
  cases t with
  | mk d=>cases d with
   | mk l=>rw [show l = chars ds from hc]
 have hA:AllD t t.size:=by rw [ht]; exact all_chars hD
 have hg:digs t = ds:=by rw [ht]; exact digs_chars hD
 have hvt:valS t = n:=by unfold valS; rw [hg,hv]
 have hs:t.size = ds.length:=by rw [← hg]; simp [digs]
 have h0:0 < t.size:=by
  rw [hs]; exact List.length_pos_iff.2 l1
 have hat:=hA.digS.2.2
 rw [hg] at hat
 have hlast:∀ k,(h:k+1 = t.size)→(t[k]'(by omega)).toNat≠48:=fun k hk=>by
  have e:=dval_snoc ds k (by omega)
  rw [List.take_of_length_le (by omega),hv] at e
  have:=hat k (by omega)
  omega
 refine ⟨⟨hl,hA,h1,h2,fun e=>by omega,fun hh=>?_,cd_of hA hlast⟩,hvt,by omega⟩
 rcases l2 with l2|l2
 ·have:=hat 0 hh
  omega
 ·exact hlast 0 (by omega)
theorem mkA_num {g:Bool} {N:Nat} {x:Int} {g2:Bool} {s2:ByteArray} {x2:Int} (h:MkA g N x (.tuple #[.agg #[.bool g2,.string s2,.int .i64 x2],.int .i64 0])) (hN:N < tenTop 65536) :
  g2 = g∧DcOk s2 x2∧(N = 0∧s2.size = 0∧x2 = 0∨0 < N∧s2.size≠0∧∃ z:Nat,x2 = x+(z:Int)∧N = valS s2 * 10 ^ z):=by
 rcases h with ⟨h0,hV⟩|⟨t,n,z,h1,h10,hS,⟨_,hV⟩|⟨hr,hV⟩⟩
 ·simp only [Value.tuple.injEq,Array.mk.injEq,List.cons.injEq,Value.agg.injEq,Value.bool.injEq,Value.string.injEq,Value.int.injEq,and_true,true_and] at hV
  obtain ⟨rfl,rfl,rfl⟩:=hV
  exact ⟨rfl,⟨by decide,fun j hj=>absurd hj (Nat.not_lt_zero _),by omega,by omega,fun _=>rfl,fun hj=>absurd hj (Nat.not_lt_zero _),⟨(fun a ha=>nomatch ha),(fun a ha=>nomatch ha)⟩⟩,Or.inl ⟨h0,rfl,rfl⟩⟩
 ·simp at hV
 ·simp only [Value.tuple.injEq,Array.mk.injEq,List.cons.injEq,Value.agg.injEq,Value.bool.injEq,Value.string.injEq,Value.int.injEq,and_true,true_and] at hV
  obtain ⟨rfl,rfl,rfl⟩:=hV
  have hp:0 < 10 ^ z:=Nat.pow_pos (by omega)
  have hle:n≤N:=by rw [h1]; exact Nat.le_mul_of_pos_right _ hp
  obtain ⟨k1,k2,k3⟩:=says_ok hS h10 (Nat.lt_of_le_of_lt hle hN) (y:=x+(z:Int)) (by omega) (by omega)
  exact ⟨rfl,k1,Or.inr ⟨by omega,k3,z,rfl,by rw [k2,h1]⟩⟩
theorem tens_of (N:Nat):N≠0→∃ n z:Nat,N = n * 10 ^ z∧n % 10≠0:=by
 induction N using Nat.strongRecOn with
 | ind N ih=>
  intro h0
  by_cases h:N % 10 = 0
  ·obtain ⟨n,z,h1,h2⟩:=ih (N / 10) (by omega) (by omega)
   refine ⟨n,z+1,?_,h2⟩
   rw [Nat.pow_succ,← Nat.mul_assoc,← h1]
   omega
  ·exact ⟨N,0,by simp,h⟩
theorem mkA_ex (g:Bool) (N:Nat) (x:Int):∃ (g2:Bool) (s2:ByteArray) (x2 e2:Int),MkA g N x (.tuple #[.agg #[.bool g2,.string s2,.int .i64 x2],.int .i64 e2]):=by
 by_cases h0:N = 0
 ·exact ⟨_,_,_,_,Or.inl ⟨h0,rfl⟩⟩
 ·obtain ⟨n,z,h1,h2⟩:=tens_of N h0
  obtain ⟨ds,_,hS,_,_⟩:=says_ex n
  by_cases hr:x+(z:Int) < -1073741824∨1073741824 < x+(z:Int)
  ·exact ⟨_,_,_,_,Or.inr ⟨_,n,z,h1,h2,hS,Or.inl ⟨hr,rfl⟩⟩⟩
  ·exact ⟨_,_,_,_,Or.inr ⟨_,n,z,h1,h2,hS,Or.inr ⟨hr,rfl⟩⟩⟩
theorem rounded_fix (g:Bool) (s:ByteArray) (x:Int) (md c:Nat) (h:DcOk s x) (hn:s.size≠0) (hmd:md≤4) (hc0:0 < c) (hc1:c≤2147483648) :
  ∃ (Q R:Nat) (up:Bool) (g2:Bool) (s2:ByteArray) (x2 e2:Int),Rnd s g md c Q R up∧(Q < 10 ^ (s.size - c))∧MkA g (Q+(if up then 1 else 0)) (x+(c:Int)) (.tuple #[.agg #[.bool g2,.string s2,.int .i64 x2],.int .i64 e2])∧∀ W:World,Calls Tryz.prog 23 #[.agg #[.bool g,.string s,.int .i64 x],.int .i64 (c:Int),.int .u8 (md:Int)] W fun e W'=>e = .returned (.tuple #[.agg #[.bool g2,.string s2,.int .i64 x2],.bool false,.int .i64 e2])∧Below W.heap.size W W':=by
 obtain ⟨Q,R,up,h1,h2,h3⟩:=rounded_num g s x md c h hn hmd hc0 hc1
 obtain ⟨g2,s2,x2,e2,hA⟩:=mkA_ex g (Q+(if up then 1 else 0)) (x+(c:Int))
 exact ⟨Q,R,up,g2,s2,x2,e2,h1,h2,hA,fun W=>(h3 W).mono fun e W' ⟨k1,k2⟩=>⟨rd_lit k1 hA,k2⟩⟩
theorem round_num (g:Bool) (s:ByteArray) (x:Int) (n md:Nat) (h:DcOk s x) (hn1:1≤n) (hn2:n≤2000) (hmd:md≤4) (HC:∀ W:World,Calls Tryz.prog 41 #[.agg #[.bool g,.string s,.int .i64 x]] W fun e W'=>e = .returned (.int .i64 0)∧Below W.heap.size W W') :
  (s.size≤n∧∀ W:World,Calls Tryz.prog 14 #[.agg #[.bool g,.string s,.int .i64 x],.int .i64 (n:Int),.int .u8 (md:Int)] W fun e W'=>e = .returned (.tuple #[.agg #[.bool g,.string s,.int .i64 x],.bool true,.int .i64 0])∧Below W.heap.size W W') ∨
  ∃ (c Q R:Nat) (up:Bool) (g2:Bool) (s2:ByteArray) (x2 e2:Int),n+c = s.size∧0 < c∧Rnd s g md c Q R up∧Q < 10 ^ n∧MkA g (Q+(if up then 1 else 0)) (x+(c:Int)) (.tuple #[.agg #[.bool g2,.string s2,.int .i64 x2],.int .i64 e2])∧∀ W:World,Calls Tryz.prog 14 #[.agg #[.bool g,.string s,.int .i64 x],.int .i64 (n:Int),.int .u8 (md:Int)] W fun e W'=>e = .returned (.tuple #[.agg #[.bool g2,.string s2,.int .i64 x2],.bool false,.int .i64 e2])∧Below W.heap.size W W':=by
 have HK:=hide fun W=>ask_ok W g s x (n:Int) 1 md (by omega) (by omega) hmd (hide HC)
 have hsz:=h.sz
 by_cases h4:s.size≤n
 ·exact Or.inl ⟨h4,fun W=>dround_go W g s x n md ((s.size:Int) - n) _ _ _ _ _ h.sz h.lo h.hi (by omega) (by omega) rfl HK (hide fun W=>rounded_none W g s x _ md (by omega) (by omega))⟩
 ·obtain ⟨c,hc⟩:∃ c,n+c = s.size:=⟨s.size - n,by omega⟩
  obtain ⟨Q,R,up,g2,s2,x2,e2,h1,h2,hA,H⟩:=rounded_fix g s x md c h (by omega) hmd (by omega) (by omega)
  rw [show s.size - c = n by omega] at h2
  exact Or.inr ⟨c,Q,R,up,g2,s2,x2,e2,hc,by omega,h1,h2,hA,fun W=>dround_go W g s x n md (c:Int) g2 s2 x2 false e2 h.sz h.lo h.hi (by omega) (by omega) (by omega) HK (hide H)⟩
theorem places_num (g:Bool) (s:ByteArray) (x:Int) (n md:Nat) (h:DcOk s x) (hn2:n≤2000) (hmd:md≤4) (HC:∀ W:World,Calls Tryz.prog 41 #[.agg #[.bool g,.string s,.int .i64 x]] W fun e W'=>e = .returned (.int .i64 0)∧Below W.heap.size W W') :
  (-(n:Int)≤x∧∀ W:World,Calls Tryz.prog 13 #[.agg #[.bool g,.string s,.int .i64 x],.int .i64 (n:Int),.int .u8 (md:Int)] W fun e W'=>e = .returned (.tuple #[.agg #[.bool g,.string s,.int .i64 x],.bool true,.int .i64 0])∧Below W.heap.size W W') ∨
  ∃ (c Q R:Nat) (up:Bool) (g2:Bool) (s2:ByteArray) (x2 e2:Int),x+(c:Int) = -(n:Int)∧0 < c∧Rnd s g md c Q R up∧Q < 10 ^ (s.size - c)∧MkA g (Q+(if up then 1 else 0)) (x+(c:Int)) (.tuple #[.agg #[.bool g2,.string s2,.int .i64 x2],.int .i64 e2])∧∀ W:World,Calls Tryz.prog 13 #[.agg #[.bool g,.string s,.int .i64 x],.int .i64 (n:Int),.int .u8 (md:Int)] W fun e W'=>e = .returned (.tuple #[.agg #[.bool g2,.string s2,.int .i64 x2],.bool false,.int .i64 e2])∧Below W.heap.size W W':=by
 have HK:=hide fun W=>ask_ok W g s x (n:Int) 0 md (by omega) (by omega) hmd (hide HC)
 have hsz:=h.sz
 have hlo:=h.lo
 by_cases h4:-(n:Int)≤x
 ·exact Or.inl ⟨h4,fun W=>dplaces_go W g s x n md (-x - n) _ _ _ _ _ h.sz h.lo h.hi (by omega) (by omega) rfl HK (hide fun W=>rounded_none W g s x _ md (by omega) (by omega))⟩
 ·obtain ⟨c,hc⟩:∃ c:Nat,x+(c:Int) = -(n:Int):=⟨(-(n:Int) - x).toNat,by omega⟩
  have hz:s.size≠0:=fun e=>by have:=h.zero e; omega
  obtain ⟨Q,R,up,g2,s2,x2,e2,h1,h2,hA,H⟩:=rounded_fix g s x md c h hz hmd (by omega) (by omega)
  exact Or.inr ⟨c,Q,R,up,g2,s2,x2,e2,hc,by omega,h1,h2,hA,fun W=>dplaces_go W g s x n md (c:Int) g2 s2 x2 false e2 h.sz h.lo h.hi (by omega) (by omega) (by omega) HK (hide H)⟩
end Go.Proofs.YtplihgoapiiigaaGreatDoor
