/- Of what DecRoundsRow stands on: DcBoth. -/
import Derived.Test.YtmmkefdbdpfpdaaPau
import Derived.Test.YtmmkefdbdpfpdaaPaw
import Derived.Test.YtmmkefdbdpfpdaaPax
namespace Go.Proofs.Ytmmkefdbdpfpdaa
open Go.RowKit
theorem digits_ex:∀ m:Nat,∃ ds,Pl.Dig ds∧Pl.Lead ds∧Pl.dval ds 0 = m:=by
 intro m
 induction m using Nat.strongRecOn with
 | ind m ih=>
  by_cases h:m < 10
  ·exact ⟨[m],fun d hd=>by simp at hd; omega,⟨by simp,Or.inr rfl⟩,by show 0 * 10+m = m; omega⟩
  ·obtain ⟨ds,h1,h2,h3⟩:=ih (m / 10) (by omega)
   refine ⟨ds ++ [m % 10],fun d hd=>?_,⟨by simp,Or.inl ?_⟩,?_⟩
   ·rw [List.mem_append] at hd
    rcases hd with hd|hd
    ·exact h1 d hd
    ·simp at hd; omega
   ·obtain ⟨h4,h5⟩:=h2
    match ds,h4 with
    | [d],_=>
     have:0 * 10+d = m / 10:=h3
     show d≠0
     omega
    | d :: e :: r,_=>
     rcases h5 with h5|h5
     ·exact h5
     ·simp at h5
   ·rw [dval_append,h3]
    have:Pl.dval [m % 10] 0 = m % 10:=by show 0 * 10+m % 10 = _; omega
    rw [this]; simp; omega
theorem says_ex (m:Nat):∃ ds,Pl.Dig ds∧Says ⟨(chars ds).toArray⟩ m∧Pl.dval ds 0 = m∧Pl.Lead ds:=by
 obtain ⟨ds,h1,h2,h3⟩:=digits_ex m
 exact ⟨ds,h1,⟨ds,rfl,h1,h2,h3⟩,h3,h2⟩
theorem lead_len {ds:List Nat} {n:Nat} (hl:Pl.Lead ds) (hv:Pl.dval ds 0 < 10 ^ n) (hn:0 < n):ds.length≤n:=by
 obtain ⟨h1,h2⟩:=hl
 match ds,h1 with
 | d :: r,_=>
  rcases h2 with h2|h2
  ·have:=Pl.lead_low (d:=d) (ds:=r) h2
   have h3:10 ^ r.length < 10 ^ n:=Nat.lt_of_le_of_lt this hv
   have:=(Nat.pow_lt_pow_iff_right (by decide)).1 h3
   simp; omega
  ·omega
theorem eqS (u v:ByteArray):(u.toList == v.toList) = decide (u.data.toList = v.data.toList):=by
 rw [ByteArray.toList_eq,ByteArray.toList_eq,Bool.eq_iff_iff,beq_iff_eq,decide_eq_true_iff]
theorem head_at {u:ByteArray} {a:UInt8} {r:List UInt8} (h:u.data.toList = a :: r) (h0:0 < u.size):(u[0]'h0) = a:=by
 rw [ByteArray.getElem_eq_getElem_data]
 have:u.data[0]'h0 = u.data.toList[0]'(by rw [h]; simp):=by simp
 rw [this]
 simp [h]
theorem rnumber_any (u:ByteArray) (hd:AllD u u.size) (hm:u.size≤65536) (W:World):Calls Try.prog 51 #[.string u] W fun en W'=>(∃ a n c,en = .returned (.agg #[.slice a n c])∧Mine W' W.heap.size a n c (valS u))∧Below W.heap.size W W':=by
 by_cases h0:u.size = 0
 ·have hs:u = ⟨#[]⟩:=by
   apply ByteArray.ext
   exact Array.eq_empty_of_size_eq_zero h0
  subst hs
  exact rnum_z W
 ·refine rnum_p W u (valS u) ?_ (hide fun W=>(rparse_any u W (by omega)).mono fun e W' ⟨h,hb⟩=>?_)
  ·rw [eqS,decide_eq_false_iff_not]
   intro e
   have:=congrArg List.length e
   simp at this
   exact h0 (by rw [this]; rfl)
  ·rcases h with ⟨h1,_⟩|⟨h1,_⟩|⟨i,hi,_,_,h3,_⟩|⟨a,n,c,_,_,_,h,hM⟩
   ·omega
   ·exact absurd h1 h0
   ·exact absurd (hd i hi hi) h3
   ·exact ⟨⟨a,n,c,h,hM⟩,hb⟩
theorem text_fix (N n:Nat) (hN:N < 10 ^ n) (hn:0 < n) (hn2:n≤65536) (g:Bool) (x:Int) (hx0:-9223372036854775808≤x) (hx1:x < 9223372036854775808) :
  ∃ (t:ByteArray) (g2:Bool) (s2:ByteArray) (x2 e2:Int),MkA g N x (.tuple #[.agg #[.bool g2,.string s2,.int .i64 x2],.int .i64 e2]) ∧
   (∀ (W:World) (a:Option Addr) (k c:Nat),Num W a k N→Calls Try.prog 56 #[.agg #[.slice a k c]] W fun en W'=>en = .returned (.tuple #[.string t,.int .i64 0])∧Below W.heap.size W W') ∧
   ∀ W:World,Calls Try.prog 17 #[.bool g,.string t,.int .i64 x] W fun e W'=>e = .returned (.tuple #[.agg #[.bool g2,.string s2,.int .i64 x2],.int .i64 e2])∧Below W.heap.size W W':=by
 obtain ⟨ds,hD,hS,hv,hL⟩:=says_ex N
 have hl:=lead_len hL (by rw [hv]; exact hN) hn
 have hsz:(⟨(chars ds).toArray⟩:ByteArray).size≤65536:=by rw [size_chars]; omega
 have hvs:valS ⟨(chars ds).toArray⟩ = N:=by unfold valS; rw [digs_chars hD]; exact hv
 obtain ⟨V,hA,_⟩:=dmake_c g ⟨(chars ds).toArray⟩ x hx0 hx1 hsz (all_chars hD)
 rw [hvs] at hA
 obtain ⟨g2,s2,x2,e2,rfl⟩:=hA.parts
 refine ⟨_,g2,s2,x2,e2,hA,fun W a k c h=>(rtext_any a k c N W h).mono fun e W' ⟨t,h1,h2,h3⟩=>⟨by rw [h1,says_eq h2 hS],h3⟩,fun W=>(rmake_c g _ x W hx0 hx1 hsz (all_chars hD)).mono fun e W' ⟨⟨V,h1,h2⟩,hb⟩=>⟨?_,hb⟩⟩
 rw [hvs] at h2
 rw [h1,h2.uniq hA]
theorem not_overD {v n:Nat} (h:v < 2 ^ n) (hn:n≤524288):¬ Over v:=fun o=>by
 have h1:=o.le
 have h2:4294967296 ^ Pl.top = 2 ^ (32 * Pl.top):=by rw [Nat.pow_mul]
 rw [h2] at h1
 have h3:n≤32 * Pl.top:=by have:=Pl.top_eq; omega
 have h4:=Nat.pow_le_pow_right (show 0 < 2 by decide) h3
 exact absurd (Nat.lt_of_lt_of_le h h4) (Nat.not_lt.2 h1)
theorem ten_over {N n:Nat} (h:N < 10 ^ n) (hn:n≤65537):¬ Over N:=by
 obtain ⟨K,hK⟩:∃ K,K = 4 * n:=⟨_,rfl⟩
 refine not_overD (n:=K) (Nat.lt_of_lt_of_le h ?_) (by omega)
 rw [hK,Nat.pow_mul]
 exact Nat.pow_le_pow_left (by decide) n
theorem radd_one {M n:Nat} (h:M+1 < 10 ^ n) (hn:n≤65537) (W:World) (a:Option Addr) (k c:Nat) (a':Option Addr) (k' c':Nat) (h1:Num W a k M) (h2:Num W a' k' 1):Calls Try.prog 54 #[.agg #[.slice a k c],.agg #[.slice a' k' c']] W fun en W'=>(∃ a n c,en = .returned (.tuple #[.agg #[.slice a n c],.int .i64 0])∧Mine W' W.heap.size a n c (M+1))∧Below W.heap.size W W':=by
 refine (radd_any a a' k k' c c' M 1 W h1 h2).mono fun e W' ⟨h3,hb⟩=>⟨?_,hb⟩
 rcases h3 with h3|⟨_,h3⟩
 ·exact h3
 ·exact absurd h3 (ten_over h hn)
theorem both_none (g:Bool) (s:ByteArray) (x pl:Int) (c md:Nat) (hm:s.size≤65536) (h0:0 < s.size) (hc:s.size≤c) (hc2:c≤2147483648) (hmd:md≤4) (hx0:-1073741824≤x) (hx1:x≤1073741824) (hpl:pl = x+(c:Int)) :
  ∃ (g2:Bool) (s2:ByteArray) (x2 e2:Int),(∀ W:World,Calls Try.prog 37 #[.agg #[.bool g,.string s,.int .i64 x],.int .i64 (c:Int),.int .u8 (md:Int)] W fun e W'=>e = .returned (.tuple #[.agg #[.bool g2,.string s2,.int .i64 x2],.bool false,.int .i64 e2])∧Below W.heap.size W W') ∧
   ∀ W:World,Calls Try.prog 61 #[.agg #[.bool g,.string s,.int .i64 x],.int .i64 pl,.int .u8 (md:Int)] W fun e W'=>e = .returned (.tuple #[.agg #[.bool g2,.string s2,.int .i64 x2],.int .i64 e2])∧Below W.heap.size W W':=by
 obtain ⟨a,r,har⟩:∃ a r,s.data.toList = a :: r:=by
  match h:s.data.toList with
  | []=>have:=congrArg List.length h; simp at this; rw [this] at h0; simp [ByteArray.size] at h0
  | a :: r=>exact ⟨a,r,rfl⟩
 obtain ⟨c5,hc5⟩:∃ c5:Int,c5 = if s.size < c then -1 else cmpS s ⟨#[53]⟩:=⟨_,rfl⟩
 have h5:c5 = -1∨c5 = 0∨c5 = 1:=by
  rw [hc5]; split
  ·exact Or.inl rfl
  ·exact cmp5_in _
 have HH:Hid (∀ W:World,Calls Try.prog 67 #[.string s,.int .i64 (c:Int)] W fun e w'=>e = .returned (.int .i64 c5)∧w' = W):=hide fun W=>by
  rw [hc5]; split
  ·exact half_less s c (by omega) W
  ·exact half_in s c (by omega) W
 obtain ⟨N,hN⟩:∃ N,(if gOut md g false c5 then 1 else 0) = N:=⟨_,rfl⟩
 have hN1:N < 10 ^ 1:=by rw [← hN]; split <;> decide
 obtain ⟨t,g2,s2,x2,e2,hA,hT,hM⟩:=text_fix N 1 hN1 (by omega) (by omega) g pl (by omega) (by omega)
 refine ⟨g2,s2,x2,e2,fun W=>(rounded_B g s x md c W hc (by omega) hc2 hmd c5 h5 HH N (hide hN) hx0 hx1).mono fun e W' ⟨⟨g3,s3,x3,e3,h1,h2⟩,hb⟩=>⟨?_,hb⟩,fun W=>?_⟩
 ·rw [← hpl] at h1
  have:=h1.uniq hA
  simp only [Value.tuple.injEq,Array.mk.injEq,List.cons.injEq,Value.agg.injEq,Value.bool.injEq,Value.string.injEq,Value.int.injEq,true_and,and_true] at this
  obtain ⟨⟨rfl,rfl,rfl⟩,rfl⟩:=this
  exact h2
 ·have HG:=higher_any md g false c5 hmd h5
  have H1:Hid (∀ W:World,Calls Try.prog 51 #[.string ⟨#[]⟩] W fun en W'=>(∃ a n c,en = .returned (.agg #[.slice a n c])∧Mine W' W.heap.size a n c 0)∧Below W.heap.size W W'):=hide fun W=>rnum_z W
  have HAd:=hide (radd_one (M:=0) (n:=1) (by decide) (by omega))
  have ha0:∀ h:0 < s.size,(s[0]'h).toNat = a.toNat:=fun h=>by rw [head_at har h]
  have e5:(s.toList == (⟨#[53]⟩:ByteArray).toList) = decide (a.toNat = 53∧r = []):=by
   rw [eqS,har]
   show decide (a :: r = [53]) = _
   refine decide_eq_decide.2 ?_
   rw [List.cons.injEq]
   exact and_congr_left fun _=>⟨fun e=>by rw [e]; rfl,fun e=>UInt8.toNat_inj.1 e⟩
  have hcc:=cmp5 har
  rcases Nat.lt_or_ge s.size c with hlt|hge
  ·rw [if_pos hlt] at hc5
   subst hc5
   cases hu:gOut md g false (-1)
   ·rw [hu] at hN HG
    obtain rfl:0 = N:=hN
    exact rcut_C_lt_n W g s x pl (c:Int) md 0 t g2 s2 x2 e2 ((s.size:Int) - (c:Int)) hm hx0 hx1 (by omega) (by omega) (by omega) rfl (by omega) H1 (hide HG) (hide hT) (hide hM)
   ·rw [hu] at hN HG
    obtain rfl:1 = N:=hN
    exact rcut_C_lt_u W g s x pl (c:Int) md 0 1 t g2 s2 x2 e2 ((s.size:Int) - (c:Int)) hm hx0 hx1 (by omega) (by omega) (by omega) rfl (by omega) H1 (hide HG) HAd (hide hT) (hide hM)
  ·rw [if_neg (by omega)] at hc5
   rw [hcc] at hc5
   by_cases h53:a.toNat < 53
   ·rw [if_pos h53] at hc5
    subst hc5
    cases hu:gOut md g false (-1)
    ·rw [hu] at hN HG
     obtain rfl:0 = N:=hN
     exact rcut_B_lt_n W g s x pl (c:Int) md 0 t g2 s2 x2 e2 a.toNat hm hx0 hx1 (by omega) (by omega) (by omega) (by omega) h0 ha0 h53 H1 (hide HG) (hide hT) (hide hM)
    ·rw [hu] at hN HG
     obtain rfl:1 = N:=hN
     exact rcut_B_lt_u W g s x pl (c:Int) md 0 1 t g2 s2 x2 e2 a.toNat hm hx0 hx1 (by omega) (by omega) (by omega) (by omega) h0 ha0 h53 H1 (hide HG) HAd (hide hT) (hide hM)
   ·rw [if_neg h53] at hc5
    by_cases heq:a.toNat = 53∧r = []
    ·rw [if_pos heq] at hc5
     rw [decide_eq_true heq] at e5
     subst hc5
     cases hu:gOut md g false 0
     ·rw [hu] at hN HG
      obtain rfl:0 = N:=hN
      exact rcut_B_eq_n W g s x pl (c:Int) md 0 t g2 s2 x2 e2 a.toNat hm hx0 hx1 (by omega) (by omega) (by omega) (by omega) h0 ha0 (by omega) e5 H1 (hide HG) (hide hT) (hide hM)
     ·rw [hu] at hN HG
      obtain rfl:1 = N:=hN
      exact rcut_B_eq_u W g s x pl (c:Int) md 0 1 t g2 s2 x2 e2 a.toNat hm hx0 hx1 (by omega) (by omega) (by omega) (by omega) h0 ha0 (by omega) e5 H1 (hide HG) HAd (hide hT) (hide hM)
    ·rw [if_neg heq] at hc5
     rw [decide_eq_false heq] at e5
     subst hc5
     cases hu:gOut md g false 1
     ·rw [hu] at hN HG
      obtain rfl:0 = N:=hN
      exact rcut_B_gt_n W g s x pl (c:Int) md 0 t g2 s2 x2 e2 a.toNat hm hx0 hx1 (by omega) (by omega) (by omega) (by omega) h0 ha0 (by omega) e5 H1 (hide HG) (hide hT) (hide hM)
     ·rw [hu] at hN HG
      obtain rfl:1 = N:=hN
      exact rcut_B_gt_u W g s x pl (c:Int) md 0 1 t g2 s2 x2 e2 a.toNat hm hx0 hx1 (by omega) (by omega) (by omega) (by omega) h0 ha0 (by omega) e5 H1 (hide HG) HAd (hide hT) (hide hM)
theorem data_to (s:ByteArray) (k:Nat):(s.extract 0 k).data.toList = s.data.toList.take k:=by
 rw [ByteArray.data_extract,Array.toList_extract,List.extract_eq_take_drop,List.drop_zero,Nat.sub_zero]
theorem digs_to (s:ByteArray) (k:Nat):digs (s.extract 0 k) = (digs s).take k:=by
 unfold digs
 rw [data_to,List.map_take]
theorem alld_to {s:ByteArray} {k:Nat} (h:AllD s s.size) (hk:k≤s.size):AllD (s.extract 0 k) (s.extract 0 k).size:=by
 intro j hj _
 have hs:(s.extract 0 k).size = k:=by rw [ByteArray.size_extract]; omega
 rw [ByteArray.getElem_extract]
 have:=h (0+j) (by omega) (by omega)
 exact this
theorem both_some (g:Bool) (s:ByteArray) (x pl:Int) (c md k:Nat) (hm:s.size≤65536) (hd:AllD s s.size) (hk:k+c = s.size) (hk1:0 < k) (hc0:0 < c) (hmd:md≤4) (hx0:-1073741824≤x) (hx1:x≤1073741824) (hpl:pl = x+(c:Int)) :
  ∃ (g2:Bool) (s2:ByteArray) (x2 e2:Int),(∀ W:World,Calls Try.prog 37 #[.agg #[.bool g,.string s,.int .i64 x],.int .i64 (c:Int),.int .u8 (md:Int)] W fun e W'=>e = .returned (.tuple #[.agg #[.bool g2,.string s2,.int .i64 x2],.bool false,.int .i64 e2])∧Below W.heap.size W W') ∧
   ∀ W:World,Calls Try.prog 61 #[.agg #[.bool g,.string s,.int .i64 x],.int .i64 pl,.int .u8 (md:Int)] W fun e W'=>e = .returned (.tuple #[.agg #[.bool g2,.string s2,.int .i64 x2],.int .i64 e2])∧Below W.heap.size W W':=by
 have htls:(s.extract k s.size).size = c:=by rw [ByteArray.size_extract]; omega
 obtain ⟨tl,htl⟩:∃ tl,s.extract k s.size = tl:=⟨_,rfl⟩
 rw [htl] at htls
 have hhds:(s.extract 0 k).size = k:=by rw [ByteArray.size_extract]; omega
 have hdg:=alld_to hd (show k≤s.size by omega)
 have hdt:=digs_to s k
 obtain ⟨hd9,hhd⟩:∃ hd9,s.extract 0 k = hd9:=⟨_,rfl⟩
 rw [hhd] at hhds hdg hdt
 obtain ⟨a,r,har⟩:∃ a r,tl.data.toList = a :: r:=by
  match h:tl.data.toList with
  | []=>have:=congrArg List.length h; simp at this; rw [this] at htls; simp [ByteArray.size] at htls; omega
  | a :: r=>exact ⟨a,r,rfl⟩
 obtain ⟨j,rfl⟩:∃ j,k = j+1:=⟨k - 1,by omega⟩
 have hlast:=hd j (by omega) (by omega)
 obtain ⟨d,hdd⟩:∃ d,(s[j]'(by omega)).toNat = 48+d:=⟨(s[j]'(by omega)).toNat - 48,by omega⟩
 have hd10:d < 10:=by omega
 obtain ⟨o,ho⟩:∃ o,((d:Int) % 2 == 1) = o:=⟨_,rfl⟩
 have hb:∀ h:j < hd9.size,(hd9[j]'h).toNat = 48+d:=fun h=>by
  subst hhd
  rw [ByteArray.getElem_extract]
  have e:(s[0+j]'(by omega)).toNat = (s[j]'(by omega)).toNat:=by congr 2; omega
  rw [e]; exact hdd
 have ho2:((((48+d) % 2:Nat):Int) == 1) = o:=by rw [← ho,show (48+d) % 2 = d % 2 from by omega]; rfl
 obtain ⟨c5,hc5⟩:∃ c5:Int,c5 = cmpS tl ⟨#[53]⟩:=⟨_,rfl⟩
 have h5:c5 = -1∨c5 = 0∨c5 = 1:=by rw [hc5]; exact cmp5_in _
 have hMl:valS hd9 < 10 ^ (j+1):=by
  unfold valS
  rw [hdt]
  exact dval_take_lt (hd.digS.2.1) (j+1) (by have:=hd.digS.1; omega)
 have hpow:10 ^ (j+1) * 10 = 10 ^ (j+1+1):=(Nat.pow_succ ..).symm
 have hpp:0 < 10 ^ (j+1):=Nat.pow_pos (by omega)
 obtain ⟨N,hN⟩:∃ N,valS hd9+(if gOut md g o c5 then 1 else 0) = N:=⟨_,rfl⟩
 have hN1:N < 10 ^ (j+1+1):=by rw [← hN]; split <;> omega
 obtain ⟨t,g2,s2,x2,e2,hA,hT,hM⟩:=text_fix N (j+1+1) hN1 (by omega) (by omega) g pl (by omega) (by omega)
 have hNv:Pl.dval ((digs s).take (j+1)) 0+(if gOut md g o (cmpS (s.extract (j+1) s.size) ⟨#[53]⟩) then 1 else 0) = N:=by
  rw [htl,← hc5,← hdt]; exact hN
 refine ⟨g2,s2,x2,e2,fun W=>(rounded_A g s x md (j+1) c d W hk hk1 hc0 hm hmd (hide hd) (fun h=>hdd) hd10 o ho N (hide hNv) hx0 hx1).mono fun e W' ⟨⟨g3,s3,x3,e3,h1,h2⟩,hb⟩=>⟨?_,hb⟩,fun W=>?_⟩
 ·rw [← hpl] at h1
  have:=h1.uniq hA
  simp only [Value.tuple.injEq,Array.mk.injEq,List.cons.injEq,Value.agg.injEq,Value.bool.injEq,Value.string.injEq,Value.int.injEq,true_and,and_true] at this
  obtain ⟨⟨rfl,rfl,rfl⟩,rfl⟩:=this
  exact h2
 ·have HG:=higher_any md g o c5 hmd h5
  have H1:Hid (∀ W:World,Calls Try.prog 51 #[.string hd9] W fun en W'=>(∃ a n c,en = .returned (.agg #[.slice a n c])∧Mine W' W.heap.size a n c (valS hd9))∧Below W.heap.size W W'):=hide fun W=>rnumber_any hd9 hdg (by omega) W
  have HAd:=hide (radd_one (M:=valS hd9) (n:=j+1+1) (by omega) (by omega))
  have h0:0 < tl.size:=by omega
  have ha0:∀ h:0 < tl.size,(tl[0]'h).toNat = a.toNat:=fun h=>by rw [head_at har h]
  have e5:(tl.toList == (⟨#[53]⟩:ByteArray).toList) = decide (a.toNat = 53∧r = []):=by
   rw [eqS,har]
   show decide (a :: r = [53]) = _
   refine decide_eq_decide.2 ?_
   rw [List.cons.injEq]
   exact and_congr_left fun _=>⟨fun e=>by rw [e]; rfl,fun e=>UInt8.toNat_inj.1 e⟩
  rw [cmp5 har] at hc5
  generalize valS hd9 = M at *
  by_cases h53:a.toNat < 53
  ·rw [if_pos h53] at hc5
   subst hc5
   cases hu:gOut md g o (-1)
   ·rw [hu] at hN HG
    obtain rfl:M = N:=hN
    exact rcut_A_lt_n W g s x pl (c:Int) md M t g2 s2 x2 e2 (j+1) j (48+d) hd9 tl o a.toNat hm hx0 hx1 (by omega) (by omega) (by omega) (by omega) hk1 hhd htl (by omega) hb ho2 h0 ha0 h53 H1 (hide HG) (hide hT) (hide hM)
   ·rw [hu] at hN HG
    obtain rfl:M+1 = N:=hN
    exact rcut_A_lt_u W g s x pl (c:Int) md M (M+1) t g2 s2 x2 e2 (j+1) j (48+d) hd9 tl o a.toNat hm hx0 hx1 (by omega) (by omega) (by omega) (by omega) hk1 hhd htl (by omega) hb ho2 h0 ha0 h53 H1 (hide HG) HAd (hide hT) (hide hM)
  ·rw [if_neg h53] at hc5
   by_cases heq:a.toNat = 53∧r = []
   ·rw [if_pos heq] at hc5
    rw [decide_eq_true heq] at e5
    subst hc5
    cases hu:gOut md g o 0
    ·rw [hu] at hN HG
     obtain rfl:M = N:=hN
     exact rcut_A_eq_n W g s x pl (c:Int) md M t g2 s2 x2 e2 (j+1) j (48+d) hd9 tl o a.toNat hm hx0 hx1 (by omega) (by omega) (by omega) (by omega) hk1 hhd htl (by omega) hb ho2 h0 ha0 (by omega) e5 H1 (hide HG) (hide hT) (hide hM)
    ·rw [hu] at hN HG
     obtain rfl:M+1 = N:=hN
     exact rcut_A_eq_u W g s x pl (c:Int) md M (M+1) t g2 s2 x2 e2 (j+1) j (48+d) hd9 tl o a.toNat hm hx0 hx1 (by omega) (by omega) (by omega) (by omega) hk1 hhd htl (by omega) hb ho2 h0 ha0 (by omega) e5 H1 (hide HG) HAd (hide hT) (hide hM)
   ·rw [if_neg heq] at hc5
    rw [decide_eq_false heq] at e5
    subst hc5
    cases hu:gOut md g o 1
    ·rw [hu] at hN HG
     obtain rfl:M = N:=hN
     exact rcut_A_gt_n W g s x pl (c:Int) md M t g2 s2 x2 e2 (j+1) j (48+d) hd9 tl o a.toNat hm hx0 hx1 (by omega) (by omega) (by omega) (by omega) hk1 hhd htl (by omega) hb ho2 h0 ha0 (by omega) e5 H1 (hide HG) (hide hT) (hide hM)
    ·rw [hu] at hN HG
     obtain rfl:M+1 = N:=hN
     exact rcut_A_gt_u W g s x pl (c:Int) md M (M+1) t g2 s2 x2 e2 (j+1) j (48+d) hd9 tl o a.toNat hm hx0 hx1 (by omega) (by omega) (by omega) (by omega) hk1 hhd htl (by omega) hb ho2 h0 ha0 (by omega) e5 H1 (hide HG) HAd (hide hT) (hide hM)
end Go.Proofs.Ytmmkefdbdpfpdaa
