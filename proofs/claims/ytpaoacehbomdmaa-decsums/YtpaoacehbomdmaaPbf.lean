/- Of what DecSumsRow stands on: DcAddBoth DcMulBoth DcSumsLaw. -/
import Derived.Test.YtpaoacehbomdmaaPba
import Derived.Test.YtpaoacehbomdmaaPbc
import Derived.Test.YtpaoacehbomdmaaPam
import Derived.Test.YtpaoacehbomdmaaPbe
import Derived.Test.YtpaoacehbomdmaaPax
namespace Go.Proofs.Ytpaoacehbomdmaa
open Go.RowKit
theorem MkB.uniq {g:Bool} {N:Nat} {x:Int} {V V':Value} (h:MkB g N x V) (h':MkB g N x V'):V = V':=by
 rcases h with ⟨h1,h2⟩|⟨h1,h2⟩ <;> rcases h' with ⟨k1,k2⟩|⟨k1,k2⟩
 ·exact h2.uniq k2
 ·omega
 ·omega
 ·rw [h2,k2]
theorem MkB.low {g:Bool} {N:Nat} {x:Int} {V:Value} (h:MkB g N x V) (hN:N < tenTop 65536):MkA g N x V:=by
 rcases h with ⟨_,h2⟩|⟨h1,_⟩
 ·exact h2
 ·omega
theorem DfA.uniq {g:Bool} {M N:Nat} {x:Int} {V V':Value} (h:DfA g M N x V) (h':DfA g M N x V'):V = V':=by
 rcases h with ⟨h1,h2⟩|⟨h1,h2⟩|⟨h1,h2⟩ <;> rcases h' with ⟨k1,k2⟩|⟨k1,k2⟩|⟨k1,k2⟩ <;> first
  | (exfalso; omega)
  | exact h2.uniq k2
  | rw [h2,k2]
theorem AddA.uniq {g:Bool} {M:Nat} {g2:Bool} {N:Nat} {x:Int} {V V':Value} (h:AddA g M g2 N x V) (h':AddA g M g2 N x V'):V = V':=by
 rcases h with ⟨h1,h2⟩|⟨h1,h2⟩ <;> rcases h' with ⟨k1,k2⟩|⟨k1,k2⟩
 ·exact h2.uniq k2
 ·exact absurd h1 k1
 ·exact absurd k1 h1
 ·exact h2.uniq k2
theorem tenTop_le {k n:Nat} (h:n≤k):tenTop n≤10 ^ k:=Nat.pow_le_pow_right (by omega) h
theorem tenTop_pos (n:Nat):0 < tenTop n:=Nat.pow_pos (by omega)
theorem sum_top {M N n:Nat} (h1:M < tenTop n) (h2:N < tenTop n):M+N < 10 ^ (n+1):=by
 have e:tenTop n = 10 ^ n:=rfl
 rw [Nat.pow_succ]
 omega
theorem make_says (g:Bool) (N:Nat) (x:Int) (hx0:-9223372036854775808≤x) (hx1:x < 9223372036854775808) :
  ∃ (t:ByteArray) (g2:Bool) (s2:ByteArray) (x2 e2:Int),Says t N∧MkB g N x (.tuple #[.agg #[.bool g2,.string s2,.int .i64 x2],.int .i64 e2]) ∧
   (∀ W:World,Calls Try.prog 11 #[.bool g,.string t,.int .i64 x] W fun e W'=>e = .returned (.tuple #[.agg #[.bool g2,.string s2,.int .i64 x2],.int .i64 e2])∧Below W.heap.size W W') ∧
   ∀ W:World,Calls Try.prog 17 #[.bool g,.string t,.int .i64 x] W fun e W'=>e = .returned (.tuple #[.agg #[.bool g2,.string s2,.int .i64 x2],.int .i64 e2])∧Below W.heap.size W W':=by
 obtain ⟨ds,hD,hS,hv,hL⟩:=says_ex N
 by_cases hl:ds.length≤65536
 ·have hsz:(⟨(chars ds).toArray⟩:ByteArray).size≤65536:=by rw [size_chars]; omega
  have hvs:valS ⟨(chars ds).toArray⟩ = N:=by unfold valS; rw [digs_chars hD]; exact hv
  obtain ⟨V,hA,hM⟩:=dmake_c g ⟨(chars ds).toArray⟩ x hx0 hx1 hsz (all_chars hD)
  rw [hvs] at hA
  obtain ⟨g2,s2,x2,e2,rfl⟩:=hA.parts
  have hlt:N < tenTop 65536:=by rw [← hv]; exact Nat.lt_of_lt_of_le (Pl.dval_lt hD) (le_top hl)
  refine ⟨_,g2,s2,x2,e2,hS,Or.inl ⟨hlt,hA⟩,hM,fun W=>(rmake_c g _ x W hx0 hx1 hsz (all_chars hD)).mono fun e W' ⟨⟨V,h1,h2⟩,hb⟩=>⟨?_,hb⟩⟩
  rw [hvs] at h2
  rw [h1,h2.uniq hA]
 ·have hsz:65536 < (⟨(chars ds).toArray⟩:ByteArray).size:=by rw [size_chars]; omega
  have hge:tenTop 65536≤N:=by
   obtain ⟨l1,l2⟩:=hL
   match ds,l1 with
   | d :: r,_=>
    rcases l2 with l2|l2
    ·rw [← hv]
     exact Nat.le_trans (tenTop_le (by simp at hl; omega)) (Pl.lead_low l2)
    ·omega
  exact ⟨_,false,⟨#[]⟩,0,4,hS,Or.inr ⟨hge,rfl⟩,fun W=>make_long W g _ x hsz,fun W=>rmake_long g _ x W hsz⟩
theorem rtext_says {N:Nat} {t:ByteArray} (h:Says t N) (W:World) (a:Option Addr) (k c:Nat) (hn:Num W a k N):Calls Try.prog 56 #[.agg #[.slice a k c]] W fun en W'=>en = .returned (.tuple #[.string t,.int .i64 0])∧Below W.heap.size W W':=
 (rtext_any a k c N W hn).mono fun e W' ⟨t',h1,h2,h3⟩=>⟨by rw [h1,says_eq h2 h],h3⟩
theorem alld_mem {u:ByteArray}:AllD u u.size↔∀ b,b∈u.data.toList→48≤b.toNat∧b.toNat≤57:=by
 constructor
 ·intro h b hb
  obtain ⟨j,hj,rfl⟩:=List.getElem_of_mem hb
  exact h j (by simpa using hj) (by simpa using hj)
 ·intro h j hj _
  exact h _ (List.getElem_mem (l:=u.data.toList) (n:=j) (by simpa using hj))
theorem data_cat (s t:ByteArray):(s ++ t).data.toList = s.data.toList ++ t.data.toList:=by simp
theorem cat_val (s:ByteArray) (z:Nat) (hd:AllD s s.size):AllD (s ++ noS z) (s ++ noS z).size∧(s ++ noS z).size = s.size+z∧valS (s ++ noS z) = valS s * 10 ^ z:=by
 refine ⟨alld_mem.2 fun b hb=>?_,by rw [ByteArray.size_append,size_noS],?_⟩
 ·rw [data_cat,List.mem_append] at hb
  rcases hb with hb|hb
  ·exact alld_mem.1 hd b hb
  ·exact alld_mem.1 (all_chars (dig_noughts z)) b hb
 ·have e:digs (s ++ noS z) = digs s ++ List.replicate z 0:=by
   have e2:digs (noS z) = List.replicate z 0:=digs_chars (dig_noughts z)
   rw [← e2]
   unfold digs
   rw [data_cat,List.map_append]
  have h:=(told_val s 0 z hd).1
  rw [List.replicate_zero,List.nil_append,← e] at h
  exact h
theorem valS_lt (s:ByteArray) (z:Nat) (hd:AllD s s.size):valS s * 10 ^ z < 10 ^ (s.size+z):=(told_val s 0 z hd).2.2.2
theorem add_both (g:Bool) (s:ByteArray) (x:Int) (g2:Bool) (s2:ByteArray) (x2:Int):∃ (g3:Bool) (s3:ByteArray) (x3 e3:Int),
  (∀ W:World,Calls Try.prog 8 #[.agg #[.bool g,.string s,.int .i64 x],.agg #[.bool g2,.string s2,.int .i64 x2]] W fun en W'=>en = .returned (.tuple #[.agg #[.bool g3,.string s3,.int .i64 x3],.int .i64 e3])∧Below W.heap.size W W') ∧
  ∀ W:World,Calls Try.prog 20 #[.agg #[.bool g,.string s,.int .i64 x],.agg #[.bool g2,.string s2,.int .i64 x2]] W fun en W'=>en = .returned (.tuple #[.agg #[.bool g3,.string s3,.int .i64 x3],.int .i64 e3])∧Below W.heap.size W W':=by
 obtain ⟨e,h,h1,h2⟩:=two_both g s x g2 s2 x2
 rcases h with h|⟨rfl,⟨a1,a2,a3,a4,a5,a6⟩,b1,b2,b3,b4,b5,b6⟩
 ·exact ⟨false,⟨#[]⟩,0,e,fun W=>dadd_e W g s x g2 s2 x2 e h (hide h1),fun W=>radd_e W g s x g2 s2 x2 e h (hide h2)⟩
 by_cases ha:s.size = 0
 ·by_cases hb:s2.size = 0
  ·cases g <;> cases g2
   ·exact ⟨false,⟨#[]⟩,0,0,fun W=>dadd_zz_ff W s x s2 x2 ha hb (hide h1),fun W=>radd_zz_ff W s x s2 x2 ha hb (hide h2)⟩
   ·exact ⟨false,⟨#[]⟩,0,0,fun W=>dadd_zz_ft W s x s2 x2 ha hb (hide h1),fun W=>radd_zz_ft W s x s2 x2 ha hb (hide h2)⟩
   ·exact ⟨false,⟨#[]⟩,0,0,fun W=>dadd_zz_tf W s x s2 x2 ha hb (hide h1),fun W=>radd_zz_tf W s x s2 x2 ha hb (hide h2)⟩
   ·exact ⟨true,⟨#[]⟩,0,0,fun W=>dadd_zz_tt W s x s2 x2 ha hb (hide h1),fun W=>radd_zz_tt W s x s2 x2 ha hb (hide h2)⟩
  ·exact ⟨g2,s2,x2,0,fun W=>dadd_z1 W g s x g2 s2 x2 ha hb (by omega) (hide h1),fun W=>radd_z1 W g s x g2 s2 x2 ha hb (hide h2)⟩
 by_cases hb:s2.size = 0
 ·exact ⟨g,s,x,0,fun W=>dadd_z2 W g s x g2 s2 x2 ha hb (by omega) (hide h1),fun W=>radd_z2 W g s x g2 s2 x2 ha hb (hide h2)⟩
 obtain ⟨ex,hex⟩:∃ ex,min x x2 = ex:=⟨_,rfl⟩
 obtain ⟨o1,ho1⟩:∃ o:Nat,x - ex = (o:Int):=⟨(x - ex).toNat,by omega⟩
 obtain ⟨o2,ho2⟩:∃ o:Nat,x2 - ex = (o:Int):=⟨(x2 - ex).toNat,by omega⟩
 obtain ⟨T,hT⟩:∃ T,s.size+o1 = T:=⟨_,rfl⟩
 obtain ⟨T2,hT2⟩:∃ T,s2.size+o2 = T:=⟨_,rfl⟩
 obtain ⟨n,hn⟩:∃ n:Nat,max (T:Int) (T2:Int) = (n:Int):=⟨max T T2,by omega⟩
 by_cases f1:65536 < s.size+o1
 ·exact ⟨false,⟨#[]⟩,0,4,fun W=>dadd_far g s x g2 s2 x2 ex T T2 n a1 b1 a3 a4 b3 b4 ha hb (hide h1) hex (hide (by omega)) (hide (by omega)) hn (by omega) W,fun W=>radd_far1 W g s x g2 s2 x2 ex o1 o2 ha hb a1 b1 a3 a4 b3 b4 hex ho1 ho2 f1 (hide h2)⟩
 by_cases f2:65536 < s2.size+o2
 ·exact ⟨false,⟨#[]⟩,0,4,fun W=>dadd_far g s x g2 s2 x2 ex T T2 n a1 b1 a3 a4 b3 b4 ha hb (hide h1) hex (hide (by omega)) (hide (by omega)) hn (by omega) W,fun W=>radd_far2 W g s x g2 s2 x2 ex o1 o2 ha hb a1 b1 a3 a4 b3 b4 hex ho1 ho2 (by omega) f2 (hide h2)⟩
 obtain ⟨M,hM⟩:∃ M,valS s * 10 ^ o1 = M:=⟨_,rfl⟩
 obtain ⟨N,hN⟩:∃ N,valS s2 * 10 ^ o2 = N:=⟨_,rfl⟩
 have hMl:M < tenTop 65536:=by rw [← hM]; exact Nat.lt_of_lt_of_le (valS_lt s o1 a2) (le_top (by omega))
 have hNl:N < tenTop 65536:=by rw [← hN]; exact Nat.lt_of_lt_of_le (valS_lt s2 o2 b2) (le_top (by omega))
 have D:=fun W=>dadd_go g s x g2 s2 x2 ex T T2 n (1+n) (1+n - T) o1 (1+n - T2) o2 a1 b1 a3 a4 b3 b4 ha hb (hide a2) (hide b2) (hide h1) hex (hide (by omega)) (hide (by omega)) hn (by omega) (by omega) hT (by omega) hT2 (by omega) M N (hide hM) (hide hN) W
 have H1:Hid (∀ W:World,Calls Try.prog 51 #[.string (s ++ noS o1)] W fun en W'=>(∃ a n c,en = .returned (.agg #[.slice a n c])∧Mine W' W.heap.size a n c M)∧Below W.heap.size W W'):=hide fun W=>by
  have h:=cat_val s o1 a2
  rw [← hM,← h.2.2]
  exact rnumber_any _ h.1 (by rw [h.2.1]; omega) W
 have H2:Hid (∀ W:World,Calls Try.prog 51 #[.string (s2 ++ noS o2)] W fun en W'=>(∃ a n c,en = .returned (.agg #[.slice a n c])∧Mine W' W.heap.size a n c N)∧Below W.heap.size W W'):=hide fun W=>by
  have h:=cat_val s2 o2 b2
  rw [← hN,← h.2.2]
  exact rnumber_any _ h.1 (by rw [h.2.1]; omega) W
 have HK:∀ (W:World) (a:Option Addr) (n c:Nat) (a':Option Addr) (n' c':Nat),Num W a n M→Num W a' n' N→Calls Try.prog 53 #[.agg #[.slice a n c],.agg #[.slice a' n' c']] W fun en W'=>en = .returned (.tuple #[.int .i64 (cmpI M N),.int .i64 0])∧Below W.heap.size W W':=fun W a n c a' n' c' k1 k2=>rcmpApi_any a a' n n' c c' M N W k1 k2
 by_cases hg:g = g2
 ·subst hg
  obtain ⟨t,g3,s3,x3,e3,hS,hA,_,hMk⟩:=make_says g (M+N) ex (by omega) (by omega)
  refine ⟨g3,s3,x3,e3,fun W=>(D W).mono fun e W' ⟨V,k1,k2,k3⟩=>⟨by rw [k2,k1.uniq (Or.inl ⟨rfl,hA⟩)],k3⟩,fun W=>radd_same W g s x s2 x2 ex o1 o2 M N t g3 s3 x3 e3 (cmpI M N) ha hb a1 b1 a3 a4 b3 b4 hex ho1 ho2 (by omega) (by omega) (hide h2) H1 H2 (hide HK) (hide fun W a n c a' n' c' k1 k2=>(radd_any a a' n n' c c' M N W k1 k2).mono fun e W' ⟨k3,k4⟩=>⟨?_,k4⟩) (hide (rtext_says hS)) (hide hMk)⟩
  rcases k3 with k3|⟨_,k3⟩
  ·exact k3
  ·exact absurd k3 (ten_over (sum_top hMl hNl) (by omega))
 ·have hgf:(g == g2) = false:=by simpa using hg
  have hg2:g2 = !g:=by cases g <;> cases g2 <;> simp_all
  rcases Nat.lt_trichotomy M N with hlt|heq|hgt
  ·obtain ⟨t,g3,s3,x3,e3,hS,hA,_,hMk⟩:=make_says g2 (N - M) ex (by omega) (by omega)
   have hA2:=hA.low (by omega)
   rw [hg2] at hA2
   refine ⟨g3,s3,x3,e3,fun W=>(D W).mono fun e W' ⟨V,k1,k2,k3⟩=>⟨by rw [k2,k1.uniq (Or.inr ⟨hg,Or.inr (Or.inr ⟨hlt,hA2⟩)⟩)],k3⟩,fun W=>radd_lt W g s x g2 s2 x2 ex o1 o2 M N t g3 s3 x3 e3 ha hb a1 b1 a3 a4 b3 b4 hex ho1 ho2 (by omega) (by omega) hgf (hide h2) H1 H2 (hide ?_) (hide fun W a n c a' n' c' k1 k2=>(rsub_any a a' n n' c c' N M W k1 k2).mono fun e W' ⟨k3,k4⟩=>⟨?_,k4⟩) (hide (rtext_says hS)) (hide hMk)⟩
   ·have:cmpI M N = -1:=by simp [cmpI,hlt]
    rw [this] at HK; exact HK
   ·rcases k3 with ⟨k3,_⟩|⟨_,k3⟩
    ·omega
    ·exact k3
  ·subst heq
   obtain ⟨t,g3,s3,x3,e3,hS,hA,_,hMk⟩:=make_says false 0 ex (by omega) (by omega)
   have hV:=hA.uniq (Or.inl ⟨tenTop_pos _,Or.inl ⟨rfl,rfl⟩⟩)
   refine ⟨g3,s3,x3,e3,fun W=>(D W).mono fun e W' ⟨V,k1,k2,k3⟩=>⟨by rw [k2,k1.uniq (Or.inr ⟨hg,Or.inl ⟨rfl,hV⟩⟩)],k3⟩,fun W=>radd_eq W g s x g2 s2 x2 ex o1 o2 M M t g3 s3 x3 e3 ha hb a1 b1 a3 a4 b3 b4 hex ho1 ho2 (by omega) (by omega) hgf (hide h2) H1 H2 (hide ?_) (hide (rtext_says hS)) (hide hMk)⟩
   rw [cmpI_eq] at HK; exact HK
  ·obtain ⟨t,g3,s3,x3,e3,hS,hA,_,hMk⟩:=make_says g (M - N) ex (by omega) (by omega)
   have hA2:=hA.low (by omega)
   refine ⟨g3,s3,x3,e3,fun W=>(D W).mono fun e W' ⟨V,k1,k2,k3⟩=>⟨by rw [k2,k1.uniq (Or.inr ⟨hg,Or.inr (Or.inl ⟨hgt,hA2⟩)⟩)],k3⟩,fun W=>radd_gt W g s x g2 s2 x2 ex o1 o2 M N t g3 s3 x3 e3 ha hb a1 b1 a3 a4 b3 b4 hex ho1 ho2 (by omega) (by omega) hgf (hide h2) H1 H2 (hide ?_) (hide fun W a n c a' n' c' k1 k2=>(rsub_any a a' n n' c c' M N W k1 k2).mono fun e W' ⟨k3,k4⟩=>⟨?_,k4⟩) (hide (rtext_says hS)) (hide hMk)⟩
   ·have h3:¬ M < N:=by omega
    have h4:¬ M = N:=by omega
    have:cmpI M N = 1:=by simp [cmpI,h3,h4]
    rw [this] at HK; exact HK
   ·rcases k3 with ⟨k3,_⟩|⟨_,k3⟩
    ·omega
    ·exact k3
theorem div_two {m f:Nat} (hf:0 < f) (W:World) (a:Option Addr) (n c:Nat) (a':Option Addr) (n' c':Nat) (h:Num W a n m) (h':Num W a' n' f):Calls Try.prog 122 #[.agg #[.slice a n c],.agg #[.slice a' n' c']] W fun en W'=>(∃ a n c a' n' c',en = .returned (.tuple #[.agg #[.slice a n c],.agg #[.slice a' n' c'],.int .i64 0])∧Mine W' W.heap.size a n c (m / f)∧Mine W' W.heap.size a' n' c' (m % f))∧Below W.heap.size W W':=
 (div_any a a' n n' c c' m f W h h').mono fun e W' ⟨k1,k2⟩=>⟨by
  rcases k1 with ⟨k1,_⟩|⟨_,k1⟩
  ·omega
  ·exact k1,k2⟩
theorem take_no {m f:Nat} (hf:0 < f) (hr:m % f≠0) (W:World) (a:Option Addr) (n c:Nat) (a':Option Addr) (n' c':Nat) (h:Num W a n m) (h':Num W a' n' f):Calls Try.prog 113 #[.agg #[.slice a n c],.agg #[.slice a' n' c']] W fun en W'=>en = .returned (.tuple #[.agg #[.slice a n c],.int .i64 0])∧Below W.heap.size W W':=
 tk_no W a n c m a' n' c' f (m / f) (m % f) h h' hr (hide (div_two hf))
theorem take_yes {m f q:Nat} (hf:0 < f) (hr:m % f = 0) (hq:m / f = q) (W:World) (a:Option Addr) (n c:Nat) (a':Option Addr) (n' c':Nat) (h:Num W a n m) (h':Num W a' n' f):Calls Try.prog 113 #[.agg #[.slice a n c],.agg #[.slice a' n' c']] W fun en W'=>(∃ a n c,en = .returned (.tuple #[.agg #[.slice a n c],.int .i64 1])∧Mine W' W.heap.size a n c q)∧Below W.heap.size W W':=by
 rw [← hq]
 exact tk_yes W a n c m a' n' c' f (m / f) (m % f) h h' hr (hide (div_two hf))
theorem pow_le_num {j f v m:Nat} (hf:2≤f) (hv:0 < v) (hm:m = v * f ^ j) {W:World} {a:Option Addr} {n:Nat} (h:Num W a n m):j≤524288:=by
 have h1:=h.lt
 have h2:4294967296 ^ Pl.top = 2 ^ (32 * Pl.top):=by rw [Nat.pow_mul]
 rw [h2] at h1
 have h3:2 ^ j≤f ^ j:=Nat.pow_le_pow_left hf j
 have h4:1 * f ^ j≤v * f ^ j:=Nat.mul_le_mul_right _ hv
 have h5:2 ^ j < 2 ^ (32 * Pl.top):=by rw [hm] at h1; omega
 have h6:=(Nat.pow_lt_pow_iff_right (by decide)).1 h5
 have:=Pl.top_eq
 omega
def WoA (k u:Nat) (a:Option Addr) (n c:Nat) (W W':World) (en:Ending):Prop:=
 (k = 0∧en = .returned (.tuple #[.agg #[.slice a n c],.int .i64 0]))∨(0 < k∧∃ A N C,en = .returned (.tuple #[.agg #[.slice A N C],.int .i64 (k:Int)])∧Mine W' W.heap.size A N C u)
theorem without_c:∀ (m f k u:Nat),2≤f→0 < u→m = u * f ^ k→u % f≠0→∀ (W:World) (a:Option Addr) (n c:Nat) (a':Option Addr) (n' c':Nat),Num W a n m→Num W a' n' f→Calls Try.prog 91 #[.agg #[.slice a n c],.agg #[.slice a' n' c']] W fun en W'=>WoA k u a n c W W' en∧Below W.heap.size W W':=by
 intro m
 induction m using Nat.strongRecOn with
 | ind m ih=>
  intro f k u hf hu hm hr W a n c a' n' c' h h'
  have hf0:0 < f:=by omega
  cases k with
  | zero=>
   have hm0:m = u:=by simpa using hm
   subst hm0
   exact (wo_0 W a n c m a' n' c' f h h' (hide (take_no hf0 hr))).mono fun e W' ⟨k1,k2⟩=>⟨Or.inl ⟨rfl,k1⟩,k2⟩
  | succ k0=>
   obtain ⟨q,hq⟩:∃ q,q = u * f ^ k0:=⟨_,rfl⟩
   have hmq:m = q * f:=by rw [hm,hq,Nat.pow_succ,Nat.mul_assoc]
   have hqpos:0 < q:=by rw [hq]; exact Nat.mul_pos hu (Nat.pow_pos hf0)
   have hdiv:m / f = q:=by rw [hmq]; exact Nat.mul_div_cancel _ hf0
   have hmod:m % f = 0:=by rw [hmq]; exact Nat.mul_mod_left _ _
   have hlt:q < m:=by rw [hmq]; have:=Nat.mul_le_mul_left q hf; omega
   have H1:=hide (take_yes (m:=m) (f:=f) hf0 hmod hdiv)
   by_cases ho:Over (f * f)
   ·have hk0:k0 = 0:=by
     cases k0 with
     | zero=>rfl
     | succ j=>
      exfalso
      have h1:=h.lt
      have h2:=ho.le
      have h3:f≤q:=by
       rw [hq,Nat.pow_succ,← Nat.mul_assoc]
       have h4:0 < u * f ^ j:=Nat.mul_pos hu (Nat.pow_pos hf0)
       have:=Nat.mul_le_mul_right f h4
       omega
      have h4:=Nat.mul_le_mul_right f h3
      omega
    subst hk0
    have hqu:q = u:=by simpa using hq
    subst hqu
    refine (wo_over W a n c m a' n' c' f q h h' H1 (hide fun W a n c a' n' c' k1 k2=>(mul_any a a' n n' c c' f f W k1 k2).mono fun e W' ⟨k3,k4⟩=>⟨?_,k4⟩) (hide (take_no hf0 hr))).mono fun e W' ⟨k1,k2⟩=>⟨Or.inr ⟨by omega,k1⟩,k2⟩
    rcases k3 with ⟨A,N,C,_,k3⟩|⟨k3,_⟩
    ·have h5:=k3.num.lt
     have h6:=ho.le
     omega
    ·exact k3
   ·obtain ⟨j,r,hj,hr2⟩:∃ j r,k0 = 2 * j+r∧r < 2:=⟨k0 / 2,k0 % 2,by omega,by omega⟩
    obtain ⟨f2,hf2⟩:∃ f2,f2 = f * f:=⟨_,rfl⟩
    obtain ⟨v,hv⟩:∃ v,v = u * f ^ r:=⟨_,rfl⟩
    have hqv:q = v * f2 ^ j:=by
     rw [hq,hv,hj,hf2,Nat.pow_add,Nat.pow_mul,Nat.pow_two,Nat.mul_assoc,Nat.mul_comm (f ^ r)]
    have hvp:0 < v:=by rw [hv]; exact Nat.mul_pos hu (Nat.pow_pos hf0)
    have hf22:2≤f2:=by rw [hf2]; have:=Nat.mul_le_mul hf hf; omega
    have hv2:v % f2≠0:=by
     intro h0
     have hd:=Nat.dvd_of_mod_eq_zero h0
     rw [hf2,hv] at hd
     apply hr
     apply Nat.mod_eq_zero_of_dvd
     rcases (by omega:r = 0∨r = 1) with rfl|rfl
     ·rw [Nat.pow_zero,Nat.mul_one] at hd
      exact Nat.dvd_trans (Nat.dvd_mul_right f f) hd
     ·rw [Nat.pow_one] at hd
      exact Nat.dvd_of_mul_dvd_mul_right hf0 hd
    have HW:=ih q hlt f2 j v hf22 hvp hqv hv2
    have HQ:Hid (∀ (W:World) (a:Option Addr) (n c:Nat) (a':Option Addr) (n' c':Nat),Num W a n f→Num W a' n' f→Calls Try.prog 57 #[.agg #[.slice a n c],.agg #[.slice a' n' c']] W fun en W'=>(∃ a n c,en = .returned (.tuple #[.agg #[.slice a n c],.int .i64 0])∧Mine W' W.heap.size a n c f2)∧Below W.heap.size W W'):=hide fun W a n c a' n' c' k1 k2=>(mul_any a a' n n' c c' f f W k1 k2).mono fun e W' ⟨k3,k4⟩=>⟨by
     rw [hf2]
     rcases k3 with k3|⟨_,k3⟩
     ·exact k3
     ·exact absurd k3 ho,k4⟩
    have hjb:j≤524288:=pow_le_num (j:=k0+1) (f:=f) hf hu hm h |> fun h=>by omega
    have fin:∀ {cnt:Int} {W':World} {e:Ending},cnt = ((k0+1:Nat):Int)→(∃ A N C,e = .returned (.tuple #[.agg #[.slice A N C],.int .i64 cnt])∧Mine W' W.heap.size A N C u)→WoA (k0+1) u a n c W W' e:=fun hc k1=>Or.inr ⟨by omega,by rw [← hc]; exact k1⟩
    have hv0:r = 0→v = u:=fun e=>by rw [hv,e,Nat.pow_zero,Nat.mul_one]
    have hv1:r = 1→v % f = 0∧v / f = u:=fun e=>by rw [hv,e,Nat.pow_one]; exact ⟨Nat.mul_mod_left _ _,Nat.mul_div_cancel _ hf0⟩
    by_cases hj0:j = 0
    ·subst hj0
     have hqv0:q = v:=by simpa using hqv
     subst hqv0
     have HS:Hid (∀ (W:World) (a:Option Addr) (n c:Nat) (a':Option Addr) (n' c':Nat),Num W a n q→Num W a' n' f2→Calls Try.prog 91 #[.agg #[.slice a n c],.agg #[.slice a' n' c']] W fun en W'=>en = .returned (.tuple #[.agg #[.slice a n c],.int .i64 0])∧Below W.heap.size W W'):=hide fun W a n c a' n' c' k1 k2=>(HW W a n c a' n' c' k1 k2).mono fun e W' ⟨k3,k4⟩=>⟨by
      rcases k3 with ⟨_,k3⟩|⟨k3,_⟩
      ·exact k3
      ·omega,k4⟩
     rcases (by omega:r = 0∨r = 1) with rfl|rfl
     ·have hqu:=hv0 rfl
      subst hqu
      exact (wo_00 W a n c m a' n' c' f q f2 h h' H1 HQ HS (hide (take_no hf0 hr))).mono fun e W' ⟨k1,k2⟩=>⟨fin (by omega) k1,k2⟩
     ·exact (wo_01 W a n c m a' n' c' f q f2 u h h' H1 HQ HS (hide (take_yes hf0 (hv1 rfl).1 (hv1 rfl).2))).mono fun e W' ⟨k1,k2⟩=>⟨fin (by omega) k1,k2⟩
    ·have HS:Hid (∀ (W:World) (a:Option Addr) (n c:Nat) (a':Option Addr) (n' c':Nat),Num W a n q→Num W a' n' f2→Calls Try.prog 91 #[.agg #[.slice a n c],.agg #[.slice a' n' c']] W fun en W'=>(∃ a n c,en = .returned (.tuple #[.agg #[.slice a n c],.int .i64 (j:Int)])∧Mine W' W.heap.size a n c v)∧Below W.heap.size W W'):=hide fun W a n c a' n' c' k1 k2=>(HW W a n c a' n' c' k1 k2).mono fun e W' ⟨k3,k4⟩=>⟨by
      rcases k3 with ⟨k3,_⟩|⟨_,k3⟩
      ·omega
      ·exact k3,k4⟩
     rcases (by omega:r = 0∨r = 1) with rfl|rfl
     ·have hqu:=hv0 rfl
      subst hqu
      exact (wo_10 W a n c m a' n' c' f q f2 j v h h' H1 HQ hjb HS (hide (take_no hf0 hr))).mono fun e W' ⟨k1,k2⟩=>⟨fin (by omega) k1,k2⟩
     ·exact (wo_11 W a n c m a' n' c' f q f2 j v u h h' H1 HQ hjb HS (hide (take_yes hf0 (hv1 rfl).1 (hv1 rfl).2))).mono fun e W' ⟨k1,k2⟩=>⟨fin (by omega) k1,k2⟩
theorem ten_two (n:Nat):10 ^ (3 * n+1)≤2 ^ (10 * n+4):=by
 rw [Nat.pow_add,Nat.pow_add,Nat.pow_mul,Nat.pow_mul]
 exact Nat.mul_le_mul (Nat.pow_le_pow_left (by decide) n) (by decide)
theorem top_two {a n k u:Nat} (ha:a = 3 * n+1) (hk:10 * n+4≤k) (h:2 ^ k≤u):tenTop a≤u:=by
 have e:tenTop a = 10 ^ a:=rfl
 rw [e,ha]
 exact Nat.le_trans (ten_two n) (Nat.le_trans (Nat.pow_le_pow_right (by decide) hk) h)
theorem says_long {t:ByteArray} {n:Nat} (h:Says t n) (hl:65536 < t.size):tenTop 65536≤n:=by
 obtain ⟨ds,h1,h2,⟨l1,l2⟩,h4⟩:=h
 have hs:t.size = ds.length:=by
  have:=congrArg List.length h1
  simpa [chars] using this
 match ds,l1 with
 | d :: r,_=>
  rcases l2 with l2|l2
  ·rw [← h4]
   exact Nat.le_trans (tenTop_le (by simp at hs; omega)) (Pl.lead_low l2)
  ·omega
theorem whole_c (g:Bool) (m:Nat) (x:Int) (z u:Nat) (hm:m = u * 10 ^ z) (hr:u % 10≠0) (hz:z≤524288) (hx0:-4294967296≤x) (hx1:x≤4294967296) {g3:Bool} {s3:ByteArray} {x3 e3:Int} (hA:MkB g u (x+(z:Int)) (.tuple #[.agg #[.bool g3,.string s3,.int .i64 x3],.int .i64 e3])) (W:World) (a:Option Addr) (n c:Nat) (h:Num W a n m) :
  Calls Try.prog 59 #[.bool g,.agg #[.slice a n c],.int .i64 x] W fun en W'=>en = .returned (.tuple #[.agg #[.bool g3,.string s3,.int .i64 x3],.int .i64 e3])∧Below W.heap.size W W':=by
 have hu:0 < u:=by omega
 obtain ⟨k,hk⟩:=bl_ex u
 have HB:Hid (∀ (W:World) (a:Option Addr) (n c:Nat),Num W a n u→Calls Try.prog 93 #[.agg #[.slice a n c]] W fun en W'=>en = .returned (.tuple #[.int .i64 (k:Int),.int .i64 0])∧Below W.heap.size W W'):=hide fun W a n c h=>(bits_any a n c u W h).mono fun e W' ⟨⟨k',k1,k2,_⟩,k4⟩=>⟨by rw [k1,k2.uniq hk],k4⟩
 have HW:=without_c m 10 z u (by omega) hu hm hr
 obtain ⟨t,g4,s4,x4,e4,hS,hA4,hMk,_⟩:=make_says g u (x+(z:Int)) (by omega) (by omega)
 have hV:=hA4.uniq hA
 simp only [Value.tuple.injEq,Array.mk.injEq,List.cons.injEq,Value.agg.injEq,Value.bool.injEq,Value.string.injEq,Value.int.injEq,true_and,and_true] at hV
 obtain ⟨⟨rfl,rfl,rfl⟩,rfl⟩:=hV
 have HT:Hid (∀ (W:World) (a:Option Addr) (n c:Nat),Num W a n u→Calls Try.prog 94 #[.agg #[.slice a n c]] W fun en W'=>en = .returned (.tuple #[.string t,.int .i64 0])∧Below W.heap.size W W'):=hide fun W a n c h=>(text_any a n c u W h).mono fun e W' ⟨t',k1,k2,k3⟩=>⟨by rw [k1,says_eq k2 hS],k3⟩
 have hmany:218454 < k→(.tuple #[.agg #[.bool g4,.string s4,.int .i64 x4],.int .i64 e4]:Value) = .tuple #[.agg #[.bool false,.string ⟨#[]⟩,.int .i64 0],.int .i64 4]:=fun hk2=>by
  refine hA.uniq (Or.inr ⟨?_,rfl⟩)
  rcases hk.2 with h0|h0
  ·omega
  ·exact top_two (n:=21845) (by omega) (by omega) h0
 by_cases hz0:z = 0
 ·subst hz0
  have hmu:m = u:=by simpa using hm
  subst hmu
  have HS:Hid (∀ (W:World) (a:Option Addr) (n c:Nat) (a':Option Addr) (n' c':Nat),Num W a n m→Num W a' n' 10→Calls Try.prog 91 #[.agg #[.slice a n c],.agg #[.slice a' n' c']] W fun en W'=>en = .returned (.tuple #[.agg #[.slice a n c],.int .i64 0])∧Below W.heap.size W W'):=hide fun W a n c a' n' c' k1 k2=>(HW W a n c a' n' c' k1 k2).mono fun e W' ⟨k3,k4⟩=>⟨by
   rcases k3 with ⟨_,k3⟩|⟨k3,_⟩
   ·exact k3
   ·omega,k4⟩
  by_cases hk2:218454 < k
  ·rw [hmany hk2]
   exact whole_s_many W g a n c m x k h HS HB hk2
  ·exact whole_s_ok W g a n c m x k t _ g4 s4 x4 e4 h HS HB (by omega) HT rfl (by omega) (by omega) (hide (by simpa using hMk))
 ·have HS:Hid (∀ (W:World) (a:Option Addr) (n c:Nat) (a':Option Addr) (n' c':Nat),Num W a n m→Num W a' n' 10→Calls Try.prog 91 #[.agg #[.slice a n c],.agg #[.slice a' n' c']] W fun en W'=>(∃ a n c,en = .returned (.tuple #[.agg #[.slice a n c],.int .i64 (z:Int)])∧Mine W' W.heap.size a n c u)∧Below W.heap.size W W'):=hide fun W a n c a' n' c' k1 k2=>(HW W a n c a' n' c' k1 k2).mono fun e W' ⟨k3,k4⟩=>⟨by
   rcases k3 with ⟨k3,_⟩|⟨_,k3⟩
   ·omega
   ·exact k3,k4⟩
  by_cases hk2:218454 < k
  ·rw [hmany hk2]
   exact whole_g_many W g a n c m x k z u h HS HB hk2
  ·exact whole_g_ok W g a n c m x k z u t _ g4 s4 x4 e4 h HS HB (by omega) HT rfl (by omega) (by omega) (hide hMk)
theorem dnum_any (g:Bool) (s:ByteArray) (x:Int) (hd:AllD s s.size) (hm:s.size≤65536) (h0:s.size≠0) (W:World):Calls Try.prog 58 #[.agg #[.bool g,.string s,.int .i64 x]] W fun en W'=>(∃ a n c,en = .returned (.agg #[.slice a n c])∧Mine W' W.heap.size a n c (valS s))∧Below W.heap.size W W':=
 dnum_is W g s x (valS s) (hide fun W=>(parse_any s W (by omega)).mono fun e W' ⟨h,hb⟩=>⟨by
  rcases h with ⟨h1,_⟩|⟨h1,_⟩|⟨i,hi,_,_,h3,_⟩|⟨a,n,c,_,_,_,h,hM⟩
  ·omega
  ·exact absurd h1 h0
  ·exact absurd (hd i hi hi) h3
  ·exact ⟨a,n,c,h,hM⟩,hb⟩)
theorem val_pos {s:ByteArray} (hd:AllD s s.size) (h0:s.size≠0) (hc:Cd s.data.toList):0 < valS s:=by
 have hne:¬ ∀ (j:Nat) (hj:j < s.size),(s[j]'hj).toNat = 48:=fun h=>by
  have h1:=h (s.size - 1) (by omega)
  refine hc.2 (s[s.size - 1]'(by omega)) ?_ h1
  rw [List.getLast?_eq_getElem?,Array.length_toList,List.getElem?_eq_getElem (by rw [Array.length_toList]; exact Nat.sub_lt (Nat.pos_of_ne_zero h0) (by decide))]
  rfl
 obtain ⟨f,q,hfq,he⟩:=Ends.ex hne
 obtain ⟨n,z,_,h2,h3,_⟩:=core_of hd he hfq
 rw [h2]
 exact Nat.mul_pos (by omega) (Nat.pow_pos (by decide))
theorem mul_both (g:Bool) (s:ByteArray) (x:Int) (g2:Bool) (s2:ByteArray) (x2:Int):∃ (g3:Bool) (s3:ByteArray) (x3 e3:Int),
  (∀ W:World,Calls Try.prog 21 #[.agg #[.bool g,.string s,.int .i64 x],.agg #[.bool g2,.string s2,.int .i64 x2]] W fun en W'=>en = .returned (.tuple #[.agg #[.bool g3,.string s3,.int .i64 x3],.int .i64 e3])∧Below W.heap.size W W') ∧
  ∀ W:World,Calls Try.prog 22 #[.agg #[.bool g,.string s,.int .i64 x],.agg #[.bool g2,.string s2,.int .i64 x2]] W fun en W'=>en = .returned (.tuple #[.agg #[.bool g3,.string s3,.int .i64 x3],.int .i64 e3])∧Below W.heap.size W W':=by
 obtain ⟨e,h,h1,h2⟩:=two_both g s x g2 s2 x2
 rcases h with h|⟨rfl,⟨a1,a2,a3,a4,a5,a6⟩,b1,b2,b3,b4,b5,b6⟩
 ·exact ⟨false,⟨#[]⟩,0,e,fun W=>dmul_e W g s x g2 s2 x2 e h (hide h1),fun W=>rmul_e W g s x g2 s2 x2 e h (hide h2)⟩
 obtain ⟨ng,hng⟩:∃ ng,(g != g2) = ng:=⟨_,rfl⟩
 by_cases ha:s.size = 0
 ·exact ⟨ng,⟨#[]⟩,0,0,fun W=>dmul_z1 W g s x g2 s2 x2 ng hng ha (hide h1),fun W=>rmul_z1 W g s x g2 s2 x2 ng hng ha (hide h2)⟩
 by_cases hb:s2.size = 0
 ·exact ⟨ng,⟨#[]⟩,0,0,fun W=>dmul_z2 W g s x g2 s2 x2 ng hng ha hb (hide h1),fun W=>rmul_z2 W g s x g2 s2 x2 ng hng ha hb (hide h2)⟩
 obtain ⟨M,hM⟩:∃ M,valS s = M:=⟨_,rfl⟩
 obtain ⟨N,hN⟩:∃ N,valS s2 = N:=⟨_,rfl⟩
 obtain ⟨Q,hQ⟩:∃ Q,M * N = Q:=⟨_,rfl⟩
 have hMp:0 < M:=by rw [← hM]; exact val_pos a2 ha a6
 have hNp:0 < N:=by rw [← hN]; exact val_pos b2 hb b6
 have hQp:0 < Q:=by rw [← hQ]; exact Nat.mul_pos hMp hNp
 have hMl:M < 10 ^ s.size:=by have:=valS_lt s 0 a2; simpa [hM] using this
 have hNl:N < 10 ^ s2.size:=by have:=valS_lt s2 0 b2; simpa [hN] using this
 obtain ⟨L,hL⟩:∃ L,L = s.size+s2.size:=⟨_,rfl⟩
 have hQl:Q < 10 ^ L:=by
  rw [← hQ,hL,Nat.pow_add]
  exact Nat.mul_lt_mul'' hMl hNl
 have hno:¬ Over Q:=by
  obtain ⟨K,hK⟩:∃ K,K = 4 * L:=⟨_,rfl⟩
  refine not_overD (n:=K) (Nat.lt_of_lt_of_le hQl ?_) (by omega)
  rw [hK,Nat.pow_mul]
  exact Nat.pow_le_pow_left (by decide) L
 obtain ⟨ds,hD,hS,hv,hLd⟩:=says_ex Q
 have hlen:=lead_len hLd (by rw [hv]; exact hQl) (by omega)
 obtain ⟨t,ht⟩:∃ t,t = (⟨(chars ds).toArray⟩:ByteArray):=⟨_,rfl⟩
 have htd:AllD t t.size:=by rw [ht]; exact all_chars hD
 have hts:t.size = ds.length:=by rw [ht,size_chars]
 have hvt:valS t = Q:=by rw [ht]; unfold valS; rw [digs_chars hD]; exact hv
 rw [← ht] at hS
 have hne:¬ ∀ (j:Nat) (hj:j < t.size),(t[j]'hj).toNat = 48:=fun h=>by
  have:=val_none h
  omega
 obtain ⟨f,q,hfq,he⟩:=Ends.ex hne
 have hf0:f = 0:=by
  obtain ⟨l1,l2⟩:=hLd
  match ds,l1 with
  | d :: r,_=>
   rcases l2 with l2|l2
   ·by_cases hf:f = 0
    ·exact hf
    ·exfalso
     have hs0:0 < t.size:=by rw [hts]; simp
     have h48:=he.lo 0 hs0 (by omega)
     have hdl:=(AllD.digS htd).2.2 0 hs0
     have hdd:digs t = d :: r:=by rw [ht]; exact digs_chars hD
     rw [hdd,h48] at hdl
     have l3:d≠0:=by simpa using l2
     exact l3 (by simpa using hdl)
   ·have hr:r = []:=List.length_eq_zero_iff.1 (by simpa using l2)
    have h3:=he.le
    have h4:=he.hi
    rw [hts,hr] at h4
    simp at h4
    omega
 subst hf0
 obtain ⟨n,z,hz,hn,hn10,hSn⟩:=core_of htd he (Nat.zero_le _)
 rw [hvt] at hn
 obtain ⟨t',g3,s3,x3,e3,hS',hA,_,hMk⟩:=make_says ng n (x+x2+(z:Int)) (by omega) (by omega)
 obtain rfl:=says_eq hS' hSn
 have hqz:q < t.size:=by omega
 refine ⟨g3,s3,x3,e3,fun W=>dmul_go W g s x g2 s2 x2 M N Q g3 s3 x3 e3 ng hng ha hb a3 a4 b3 b4 (hide h1) (hide fun W=>by rw [← hM]; exact dnum_any g s x a2 a1 ha W) (hide fun W=>by rw [← hN]; exact dnum_any g2 s2 x2 b2 b1 hb W) (hide fun W a n c a' n' c' k1 k2=>(mul_any a a' n n' c c' M N W k1 k2).mono fun e W' ⟨k3,k4⟩=>⟨?_,k4⟩) (hide (whole_c ng Q (x+x2) z n hn hn10 (by omega) (by omega) (by omega) hA)),fun W=>?_⟩
 ·rw [hQ] at k3
  rcases k3 with k3|⟨_,k3⟩
  ·exact k3
  ·exact absurd k3 hno
 have R1:Hid (∀ W:World,Calls Try.prog 51 #[.string s] W fun en W'=>(∃ a n c,en = .returned (.agg #[.slice a n c])∧Mine W' W.heap.size a n c M)∧Below W.heap.size W W'):=hide fun W=>by rw [← hM]; exact rnumber_any s a2 a1 W
 have R2:Hid (∀ W:World,Calls Try.prog 51 #[.string s2] W fun en W'=>(∃ a n c,en = .returned (.agg #[.slice a n c])∧Mine W' W.heap.size a n c N)∧Below W.heap.size W W'):=hide fun W=>by rw [← hN]; exact rnumber_any s2 b2 b1 W
 have R3:Hid (∀ (W:World) (a:Option Addr) (n c:Nat) (a':Option Addr) (n' c':Nat),Num W a n M→Num W a' n' N→Calls Try.prog 60 #[.agg #[.slice a n c],.agg #[.slice a' n' c']] W fun en W'=>(∃ a n c,en = .returned (.tuple #[.agg #[.slice a n c],.int .i64 0])∧Mine W' W.heap.size a n c Q)∧Below W.heap.size W W'):=hide fun W a n c a' n' c' k1 k2=>(rmul_any a a' n n' c c' M N W k1 k2).mono fun e W' ⟨k3,k4⟩=>⟨by
  rw [hQ] at k3
  rcases k3 with k3|⟨_,k3⟩
  ·exact k3
  ·exact absurd k3 hno,k4⟩
 by_cases hq:65536 < q+1
 ·have hge:tenTop 65536≤n:=says_long hSn (by rw [ByteArray.size_extract]; omega)
  rw [hA.uniq (Or.inr ⟨hge,rfl⟩)]
  exact rmul_many W g s x g2 s2 x2 M N Q q z _ t ng hng ha hb a3 a4 b3 b4 (hide h2) R1 R2 R3 (hide (rtext_says hS)) (by omega) (by omega) he.up (fun h=>rfl) (he.two (by omega) hqz) hq
 ·exact rmul_ok W g s x g2 s2 x2 M N Q q z _ t _ _ g3 s3 x3 e3 ng hng ha hb a3 a4 b3 b4 (hide h2) R1 R2 R3 (hide (rtext_says hS)) (by omega) (by omega) he.up (fun h=>rfl) (he.two (by omega) hqz) (by omega) rfl rfl (hide hMk)
theorem decSums_any (g:Bool) (s:ByteArray) (x:Int) (g0:Bool) (s0:ByteArray) (x0:Int) (w:World) :
  Calls Try.prog 5 #[.agg #[.bool g,.string s,.int .i64 x],.agg #[.bool g0,.string s0,.int .i64 x0]] w fun e w'=>e = .returned (.bool true)∧Below w.heap.size w w':=by
 obtain ⟨k9,_,hk1,hk2⟩:=check_full g s x
 obtain ⟨c9,f9,hc1,hc2⟩:=cmp_both g s x g0 s0 x0
 obtain ⟨g1,s1,x1,e1,p1,q1⟩:=add_both g s x g0 s0 x0
 obtain ⟨g2,s2,x2,e2,p2,q2⟩:=add_both g0 s0 x0 g s x
 obtain ⟨g3,s3,x3,e3,p3,q3⟩:=add_both g s x g s x
 obtain ⟨g4,s4,x4,e4,p4,q4⟩:=mul_both g s x g0 s0 x0
 obtain ⟨g5,s5,x5,e5,p5,q5⟩:=mul_both g0 s0 x0 g0 s0 x0
 exact sums_law g s x g0 s0 x0 c9 f9 k9 g1 s1 x1 e1 g2 s2 x2 e2 g3 s3 x3 e3 g4 s4 x4 e4 g5 s5 x5 e5 (hide hc1) (hide hk1) (hide p1) (hide p2) (hide p3) (hide p4) (hide p5) (hide hc2) (hide hk2) (hide q1) (hide q2) (hide q3) (hide q4) (hide q5) w
end Go.Proofs.Ytpaoacehbomdmaa
