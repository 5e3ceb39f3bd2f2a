/- Of what DecBackRow stands on: DcAlive DcRndN DcRes DcRdN DcNearN DcDifN DcTxtL. -/
import Derived.Test.YtpmmapoabbpaiaaGreatPbb
import Derived.Test.YtpmmapoabbpaiaaGreatPbh
import Derived.Test.YtpmmapoabbpaiaaGreatPbi
import Derived.Test.YtpmmapoabbpaiaaGreatPao
import Derived.ChangeKeysEq
namespace Go.Proofs.YtpmmapoabbpaiaaGreat
open Go.RowKit
theorem ddig_t {s:ByteArray} (hm:s.size≤65536) (hd:AllD s s.size) (W:World):Calls Tryz.prog 60 #[.string s] W fun e W'=>e = .returned (.bool true)∧Below W.heap.size W W':=
 (allDigits_any s W hm).mono fun e W' ⟨h,hb⟩=>⟨by
  rcases h with ⟨h,_⟩|⟨_,h⟩
  ·exact h
  ·exact absurd hd h,hb⟩
theorem chk_good (g:Bool) (s:ByteArray) (x:Int) (hm:s.size≤65536) (h0:s.size≠0) (hd:AllD s s.size) (ha:∀ h:0 < s.size,(s[0]'h).toNat≠48) (hb:∀ k,(h:k+1 = s.size)→(s[k]'(by omega)).toNat≠48) (hx0:-1073741824≤x) (hx1:x≤1073741824) (W:World) :
  Calls Tryz.prog 23 #[.agg #[.bool g,.string s,.int .i64 x]] W fun en W'=>en = .returned (.int .i64 0)∧Below W.heap.size W W':=by
 obtain ⟨f,t,hE,_,hc⟩:=ends_fix s hm
 have hf:f = 0:=by
  by_cases h:f = 0
  ·exact h
  ·exact absurd (hE.lo 0 (by omega) (by omega)) (ha _)
 have ht:s.size≤t:=by
  by_cases h:s.size≤t
  ·exact h
  ·exact absurd (hE.up (s.size - 1) (by omega) (by omega)) (hb (s.size - 1) (by omega))
 exact dck_ok W g s x f t hm h0 (hide hc) hf ht (hide (ddig_t hm hd)) (hide fun W=>bey_in W x hx0 hx1)
structure Lit (s:ByteArray) (n v:Nat):Prop where
 sz:s.size = n
 ok:AllD s s.size
 fst:∀ h:0 < s.size,(s[0]'h).toNat≠48
 lst:∀ k,(h:k+1 = s.size)→(s[k]'(by omega)).toNat≠48
 val:valS s = v
theorem Lit.mk' {s:ByteArray} {n v:Nat} (h1:s.size = n) (h2:∀ b,b∈s.data.toList→48≤b.toNat∧b.toNat≤57) (h3:s.data.toList.head?.map UInt8.toNat≠some 48) (h4:s.data.toList.getLast?.map UInt8.toNat≠some 48) (h5:valS s = v):Lit s n v:=by
 refine ⟨h1,alld_mem.2 h2,fun h e=>h3 ?_,fun k h e=>h4 ?_,h5⟩
 ·rw [List.head?_eq_getElem?,List.getElem?_eq_getElem (by rw [Array.length_toList]; exact h)]
  exact congrArg some e
 ·rw [List.getLast?_eq_getElem?,Array.length_toList,List.getElem?_eq_getElem (by rw [Array.length_toList]; exact Nat.sub_lt (by have:s.data.size = s.size:=rfl; omega) (by decide))]
  have hk:s.data.size - 1 = k:=by have:s.data.size = s.size:=rfl; omega
  subst hk
  exact congrArg some e
theorem Lit.chk {s:ByteArray} {n v:Nat} (h:Lit s n v) (hn:0 < n) (hm:n≤65536) (g:Bool) (x:Int) (hx0:-1073741824≤x) (hx1:x≤1073741824) (W:World) :
  Calls Tryz.prog 23 #[.agg #[.bool g,.string s,.int .i64 x]] W fun en W'=>en = .returned (.int .i64 0)∧Below W.heap.size W W':=
 chk_good g s x (by rw [h.sz]; exact hm) (by rw [h.sz]; omega) h.ok h.fst h.lst hx0 hx1 W
theorem lit_1:Lit ⟨#[49]⟩ 1 1:=Lit.mk' rfl (by decide) (by decide) (by decide) rfl
theorem lit_4:Lit ⟨#[52]⟩ 1 4:=Lit.mk' rfl (by decide) (by decide) (by decide) rfl
theorem lit_5:Lit ⟨#[53]⟩ 1 5:=Lit.mk' rfl (by decide) (by decide) (by decide) rfl
theorem lit_25:Lit ⟨#[50,53]⟩ 2 25:=Lit.mk' rfl (by decide) (by decide) (by decide) rfl
theorem lit_95:Lit ⟨#[57,53]⟩ 2 95:=Lit.mk' rfl (by decide) (by decide) (by decide) rfl
theorem lit_125:Lit ⟨#[49,50,53]⟩ 3 125:=Lit.mk' rfl (by decide) (by decide) (by decide) rfl
theorem lit_135:Lit ⟨#[49,51,53]⟩ 3 135:=Lit.mk' rfl (by decide) (by decide) (by decide) rfl
theorem chk_two {s s2:ByteArray} {n v n2 v2:Nat} (h:Lit s n v) (h2:Lit s2 n2 v2) (hn:0 < n) (hm:n≤65536) (hn2:0 < n2) (hm2:n2≤65536) (g:Bool) (x:Int) (g2:Bool) (x2:Int) (hx0:-1073741824≤x) (hx1:x≤1073741824) (hy0:-1073741824≤x2) (hy1:x2≤1073741824) (W:World) :
  Calls Tryz.prog 35 #[.agg #[.bool g,.string s,.int .i64 x],.agg #[.bool g2,.string s2,.int .i64 x2]] W fun en W'=>en = .returned (.int .i64 0)∧Below W.heap.size W W':=
 chk2_o W g s x g2 s2 x2 0 (hide (h.chk hn hm g x hx0 hx1)) (hide (h2.chk hn2 hm2 g2 x2 hy0 hy1))
theorem says_1:Says ⟨#[49]⟩ 1:=⟨[1],rfl,fun d hd=>by simp at hd; omega,⟨by simp,Or.inr rfl⟩,rfl⟩
theorem says_14:Says ⟨#[49,52]⟩ 14:=⟨[1,4],rfl,fun d hd=>by simp at hd; omega,⟨by simp,Or.inl (by decide)⟩,rfl⟩
theorem mk_lit {g:Bool} {N n z:Nat} {x y:Int} {t:ByteArray} (hN:N = n * 10 ^ z) (h10:n % 10≠0) (hS:Says t n) (hy:x+(z:Int) = y) (h1:-1073741824≤y) (h2:y≤1073741824):MkA g N x (.tuple #[.agg #[.bool g,.string t,.int .i64 y],.int .i64 0]):=
 Or.inr ⟨t,n,z,hN,h10,hS,Or.inr ⟨by omega,by rw [hy]⟩⟩
theorem small_top {N:Nat} (h:N < 10 ^ 4):N < tenTop 65536:=Nat.lt_of_lt_of_le h (le_top (by omega))
theorem small_over {N:Nat} (h:N < 10 ^ 4):¬ Over N:=ten_over (n:=4) h (by omega)
theorem rd_lit {g:Bool} {N:Nat} {x:Int} {e:Ending} {g2:Bool} {s2:ByteArray} {x2 e2:Int} (h:RdA g N x e) (hA:MkA g N x (.tuple #[.agg #[.bool g2,.string s2,.int .i64 x2],.int .i64 e2])):e = .returned (.tuple #[.agg #[.bool g2,.string s2,.int .i64 x2],.bool false,.int .i64 e2]):=by
 obtain ⟨g3,s3,x3,e3,h1,h2⟩:=h
 have hV:=h1.uniq hA
 simp only [Value.tuple.injEq,Array.mk.injEq,List.cons.injEq,Value.agg.injEq,Value.bool.injEq,Value.string.injEq,Value.int.injEq,true_and,and_true] at hV
 obtain ⟨⟨rfl,rfl,rfl⟩,rfl⟩:=hV
 exact h2
theorem ans_ok {W:World} {B:Nat} {en:Ending} {m:Nat} (h:Ans W B en m) (hm:¬ Over m):∃ a n c,en = .returned (.tuple #[.agg #[.slice a n c],.int .i64 0])∧Mine W B a n c m:=by
 rcases h with h|⟨_,h⟩
 ·exact h
 ·exact absurd h hm
theorem num_le2 {w:World} {a:Option Addr} {n m:Nat} (h:Num w a n m) (hm:m < 4294967296 ^ 2):n≤2:=by
 obtain ⟨xs,hn,_,hw,hN,hv,_⟩:=h
 rw [← hv] at hm
 have:=(Pl.val_le_len hw hN 2).2 hm
 omega
theorem al_add (W:World):Calls Tryz.prog 10 #[.agg #[.bool false,.string ⟨#[57,53]⟩,.int .i64 (-1)],.agg #[.bool false,.string ⟨#[53]⟩,.int .i64 (-1)]] W fun e W'=>e = .returned (.tuple #[.agg #[.bool false,.string ⟨#[49]⟩,.int .i64 1],.int .i64 0])∧Below W.heap.size W W':=by
 refine (dadd_go false ⟨#[57,53]⟩ (-1) false ⟨#[53]⟩ (-1) (-1) 2 1 2 3 1 0 2 0 (by decide) (by decide) (by decide) (by decide) (by decide) (by decide) (by decide) (by decide) (hide lit_95.ok) (hide lit_5.ok) (hide (chk_two lit_95 lit_5 (by decide) (by decide) (by decide) (by decide) _ _ _ _ (by decide) (by decide) (by decide) (by decide))) (by decide) (hide (by decide)) (hide (by decide)) (by decide) (by decide) (by decide) (by decide) (by decide) (by decide) (by decide) 95 5 (hide (by rw [lit_95.val])) (hide (by rw [lit_5.val])) W).mono ?_
 rintro e W' ⟨V,hV,h,hb⟩
 exact ⟨by rw [h,hV.uniq (Or.inl ⟨rfl,Or.inl ⟨small_top (by decide),mk_lit (n:=1) (z:=2) (y:=1) (by decide) (by decide) says_1 (by decide) (by decide) (by decide)⟩⟩)],hb⟩
theorem al_mul (W:World):Calls Tryz.prog 11 #[.agg #[.bool false,.string ⟨#[50,53]⟩,.int .i64 0],.agg #[.bool true,.string ⟨#[52]⟩,.int .i64 0]] W fun e W'=>e = .returned (.tuple #[.agg #[.bool true,.string ⟨#[49]⟩,.int .i64 2],.int .i64 0])∧Below W.heap.size W W':=
 dmul_go W false ⟨#[50,53]⟩ 0 true ⟨#[52]⟩ 0 25 4 100 true ⟨#[49]⟩ 2 0 true rfl (by decide) (by decide) (by decide) (by decide) (by decide) (by decide) (hide (chk_two lit_25 lit_4 (by decide) (by decide) (by decide) (by decide) _ _ _ _ (by decide) (by decide) (by decide) (by decide)))
  (hide fun W=>by have:=dnum_any false ⟨#[50,53]⟩ 0 lit_25.ok (by decide) (by decide) W; rw [lit_25.val] at this; exact this)
  (hide fun W=>by have:=dnum_any true ⟨#[52]⟩ 0 lit_4.ok (by decide) (by decide) W; rw [lit_4.val] at this; exact this)
  (hide fun W a n c a' n' c' k1 k2=>(mul_any a a' n n' c c' 25 4 W k1 k2).mono fun e W' ⟨k3,k4⟩=>⟨ans_ok k3 (small_over (by decide)),k4⟩)
  (hide (whole_c true 100 (0+0) 2 1 (by decide) (by decide) (by decide) (by decide) (by decide) (Or.inl ⟨small_top (by decide),mk_lit (n:=1) (z:=0) (by decide) (by decide) says_1 (by decide) (by decide) (by decide)⟩)))
theorem cmp_ll (s t:ByteArray):cmpS s t = cmpL s.data.toList t.data.toList:=by unfold cmpS cmpL; rw [ByteArray.toList_eq,ByteArray.toList_eq]
theorem n135:Pl.dval (List.take 2 (digs ⟨#[49,51,53]⟩)) 0+(if gOut 0 false true (cmpS ((⟨#[49,51,53]⟩:ByteArray).extract 2 (⟨#[49,51,53]⟩:ByteArray).size) ⟨#[53]⟩) then 1 else 0) = 14:=by
 have e:(⟨#[49,51,53]⟩:ByteArray).extract 2 (⟨#[49,51,53]⟩:ByteArray).size = ⟨#[53]⟩:=by rfl
 rw [e,cmp_ll]
 rfl
theorem al_round (W:World):Calls Tryz.prog 19 #[.agg #[.bool false,.string ⟨#[49,51,53]⟩,.int .i64 0],.int .i64 2,.int .u8 0] W fun e W'=>e = .returned (.tuple #[.agg #[.bool false,.string ⟨#[49,52]⟩,.int .i64 1],.bool false,.int .i64 0])∧Below W.heap.size W W':=
 dround_go W false ⟨#[49,51,53]⟩ 0 2 0 1 false ⟨#[49,52]⟩ 1 false 0 (by decide) (by decide) (by decide) (by decide) (by decide) (by decide) (hide fun W=>ask_ok W false ⟨#[49,51,53]⟩ 0 2 1 0 (by decide) (by decide) (by decide) (hide (lit_135.chk (by decide) (by decide) _ _ (by decide) (by decide))))
  (hide fun W=>(rounded_A false ⟨#[49,51,53]⟩ 0 0 2 1 3 W (by decide) (by decide) (by decide) (by decide) (by decide) (hide lit_135.ok) (fun _=>rfl) (by decide) true (by decide) 14 (hide n135) (by decide) (by decide)).mono fun e W' ⟨k1,k2⟩=>⟨rd_lit k1 (mk_lit (n:=14) (z:=0) (by decide) (by decide) says_14 (by decide) (by decide) (by decide)),k2⟩)
theorem al_places (W:World):Calls Tryz.prog 20 #[.agg #[.bool true,.string ⟨#[49]⟩,.int .i64 (-9)],.int .i64 3,.int .u8 4] W fun e W'=>e = .returned (.tuple #[.agg #[.bool true,.string ⟨#[49]⟩,.int .i64 (-3)],.bool false,.int .i64 0])∧Below W.heap.size W W':=
 dplaces_go W true ⟨#[49]⟩ (-9) 3 4 6 true ⟨#[49]⟩ (-3) false 0 (by decide) (by decide) (by decide) (by decide) (by decide) (by decide) (hide fun W=>ask_ok W true ⟨#[49]⟩ (-9) 3 0 4 (by decide) (by decide) (by decide) (hide (lit_1.chk (by decide) (by decide) _ _ (by decide) (by decide))))
  (hide fun W=>(rounded_B true ⟨#[49]⟩ (-9) 4 6 W (by decide) (by decide) (by decide) (by decide) (-1) (by decide) (hide fun W=>half_less ⟨#[49]⟩ 6 (by decide) W) 1 (hide (by decide)) (by decide) (by decide)).mono fun e W' ⟨k1,k2⟩=>⟨rd_lit k1 (mk_lit (n:=1) (z:=0) (by decide) (by decide) says_1 (by decide) (by decide) (by decide)),k2⟩)
theorem al_plain (W:World):Calls Tryz.prog 21 #[.agg #[.bool false,.string ⟨#[49,50,53]⟩,.int .i64 (-1)]] W fun e W'=>e = .returned (.tuple #[.string ⟨#[49,50,46,53]⟩,.int .i64 0])∧Below W.heap.size W W':=
 dpl_in false ⟨#[49,50,53]⟩ (-1) ⟨#[]⟩ ⟨#[49,50,53]⟩ 0 4 2 1 ⟨#[49,50]⟩ ⟨#[53]⟩ 2 (by decide) (by decide) (by decide) (by decide) (by decide) (by decide) (by decide) W (by decide) (by decide) (by decide) (by decide) (by decide) (by decide) (by decide) ⟨#[49,50,46,53]⟩ (hide rfl)
  (hide (lit_125.chk (by decide) (by decide) _ _ (by decide) (by decide))) (hide fun W=>sad_df W ⟨#[49,50,53]⟩ (-1) (by decide))
theorem al_ratio (W:World):Calls Tryz.prog 7 #[.agg #[.bool false,.string ⟨#[53]⟩,.int .i64 (-1)]] W fun en W'=>(∃ a n c a' n' c',en = .returned (.tuple #[.agg #[.bool false,.slice a n c,.slice a' n' c'],.int .i64 0])∧Mine W' W.heap.size a n c 1∧Mine W' W.heap.size a' n' c' 2)∧Below W.heap.size W W':=
 drat_ok W false ⟨#[53]⟩ (-1) 0 1 5 1 10 5 1 2 false (by decide) (by decide) (by decide) (by decide) (hide (lit_5.chk (by decide) (by decide) _ _ (by decide) (by decide)))
  (hide fun W=>by have:=dnum_any false ⟨#[53]⟩ (-1) lit_5.ok (by decide) (by decide) W; rw [lit_5.val] at this; exact this)
  (hide fun W=>(pow_any 10 0 W (by decide) (by decide)).mono fun e W' ⟨k3,k4⟩=>⟨ans_ok k3 (small_over (by decide)),k4⟩)
  (hide fun W=>(pow_any 10 1 W (by decide) (by decide)).mono fun e W' ⟨k3,k4⟩=>⟨ans_ok k3 (small_over (by decide)),k4⟩)
  (hide fun W a n c a' n' c' k1 k2=>(mul_any a a' n n' c c' 5 1 W k1 k2).mono fun e W' ⟨k3,k4⟩=>⟨ans_ok k3 (small_over (by decide)),k4⟩)
  (hide fun W a n c a' n' c' k1 k2=>(make_any false a a' n n' c c' 5 10 W k1 k2 (by decide)).mono fun e W' ⟨k3,k4⟩=>⟨by
   rcases k3 with ⟨a,n,c,a',n',c',k3,k5,k6⟩|⟨_,k3|k3⟩
   ·exact ⟨a,n,c,a',n',c',k3,k5,k6⟩
   ·exact absurd k3 (small_over (by decide))
   ·exact absurd k3 (small_over (by decide)),k4⟩)
theorem dalive_any (w:World):Calls Tryz.prog 5 #[] w fun e w'=>e = .returned (.bool true)∧Below w.heap.size w w':=
 alive_law w (hide al_add) (hide al_mul) (hide al_round) (hide al_places) (hide al_plain) (hide al_ratio) (hide fun W a n c k=>low_small a n c 2 W k (num_le2 k (by decide)))
theorem says_ok {t:ByteArray} {n:Nat} {y:Int} (h:Says t n) (h10:n % 10≠0) (hn:n < tenTop 65536) (h1:-1073741824≤y) (h2:y≤1073741824):DcOk t y∧valS t = n∧t.size≠0:=by
 have hl:t.size≤65536:=by
  rcases Nat.lt_or_ge 65536 t.size with q|q
  ·exact absurd (says_long h q) (by omega)
  ·exact q
 obtain ⟨ds,hc,hD,⟨l1,l2⟩,hv⟩:=h
 have ht:t = ⟨(chars ds).toArray⟩:=by
  cases t with
  | mk d=>cases d with
   | mk l=>rw [show l = chars ds from hc]
 have hA:AllD t t.size:=by rw [ht]; exact all_chars hD
 have hg:digs t = ds:=by rw [ht]; exact digs_chars hD
 have hvt:valS t = n:=by unfold valS; rw [hg,hv]
 have hs:t.size = ds.length:=by rw [← hg]; simp [digs]
 have h0:0 < t.size:=by
  rw [hs]; exact List.length_pos_iff.2 l1
 have hat:=hA.digS.2.2
 rw [hg] at hat
 have hlast:∀ k,(h:k+1 = t.size)→(t[k]'(by omega)).toNat≠48:=fun k hk=>by
  have e:=dval_snoc ds k (by omega)
  rw [List.take_of_length_le (by omega),hv] at e
  have:=hat k (by omega)
  omega
 refine ⟨⟨hl,hA,h1,h2,fun e=>by omega,fun hh=>?_,cd_of hA hlast⟩,hvt,by omega⟩
 rcases l2 with l2|l2
 ·have:=hat 0 hh
  omega
 ·exact hlast 0 (by omega)
theorem mkA_num {g:Bool} {N:Nat} {x:Int} {g2:Bool} {s2:ByteArray} {x2:Int} (h:MkA g N x (.tuple #[.agg #[.bool g2,.string s2,.int .i64 x2],.int .i64 0])) (hN:N < tenTop 65536) :
  g2 = g∧DcOk s2 x2∧(N = 0∧s2.size = 0∧x2 = 0∨0 < N∧s2.size≠0∧∃ z:Nat,x2 = x+(z:Int)∧N = valS s2 * 10 ^ z):=by
 rcases h with ⟨h0,hV⟩|⟨t,n,z,h1,h10,hS,⟨_,hV⟩|⟨hr,hV⟩⟩
 ·simp only [Value.tuple.injEq,Array.mk.injEq,List.cons.injEq,Value.agg.injEq,Value.bool.injEq,Value.string.injEq,Value.int.injEq,and_true,true_and] at hV
  obtain ⟨rfl,rfl,rfl⟩:=hV
  exact ⟨rfl,⟨by decide,fun j hj=>absurd hj (Nat.not_lt_zero _),by omega,by omega,fun _=>rfl,fun hj=>absurd hj (Nat.not_lt_zero _),⟨(fun a ha=>nomatch ha),(fun a ha=>nomatch ha)⟩⟩,Or.inl ⟨h0,rfl,rfl⟩⟩
 ·simp at hV
 ·simp only [Value.tuple.injEq,Array.mk.injEq,List.cons.injEq,Value.agg.injEq,Value.bool.injEq,Value.string.injEq,Value.int.injEq,and_true,true_and] at hV
  obtain ⟨rfl,rfl,rfl⟩:=hV
  have hp:0 < 10 ^ z:=Nat.pow_pos (by omega)
  have hle:n≤N:=by rw [h1]; exact Nat.le_mul_of_pos_right _ hp
  obtain ⟨k1,k2,k3⟩:=says_ok hS h10 (Nat.lt_of_le_of_lt hle hN) (y:=x+(z:Int)) (by omega) (by omega)
  exact ⟨rfl,k1,Or.inr ⟨by omega,k3,z,rfl,by rw [k2,h1]⟩⟩
theorem tens_of (N:Nat):N≠0→∃ n z:Nat,N = n * 10 ^ z∧n % 10≠0:=by
 induction N using Nat.strongRecOn with
 | ind N ih=>
  intro h0
  by_cases h:N % 10 = 0
  ·obtain ⟨n,z,h1,h2⟩:=ih (N / 10) (by omega) (by omega)
   refine ⟨n,z+1,?_,h2⟩
   rw [Nat.pow_succ,← Nat.mul_assoc,← h1]
   omega
  ·exact ⟨N,0,by simp,h⟩
theorem mkA_ex (g:Bool) (N:Nat) (x:Int):∃ (g2:Bool) (s2:ByteArray) (x2 e2:Int),MkA g N x (.tuple #[.agg #[.bool g2,.string s2,.int .i64 x2],.int .i64 e2]):=by
 by_cases h0:N = 0
 ·exact ⟨_,_,_,_,Or.inl ⟨h0,rfl⟩⟩
 ·obtain ⟨n,z,h1,h2⟩:=tens_of N h0
  obtain ⟨ds,_,hS,_,_⟩:=says_ex n
  by_cases hr:x+(z:Int) < -1073741824∨1073741824 < x+(z:Int)
  ·exact ⟨_,_,_,_,Or.inr ⟨_,n,z,h1,h2,hS,Or.inl ⟨hr,rfl⟩⟩⟩
  ·exact ⟨_,_,_,_,Or.inr ⟨_,n,z,h1,h2,hS,Or.inr ⟨hr,rfl⟩⟩⟩
theorem DcOk.lst {s:ByteArray} {x:Int} (h:DcOk s x):∀ k,(hk:k+1 = s.size)→(s[k]'(by omega)).toNat≠48:=fun k hk=>by
 refine h.cd.2 _ ?_
 have hz:s.data.size = s.size:=rfl
 rw [List.getLast?_eq_getElem?,Array.length_toList,List.getElem?_eq_getElem (by rw [Array.length_toList]; omega)]
 have hk2:s.data.size - 1 = k:=by omega
 subst hk2
 rfl
theorem DcOk.chk {s:ByteArray} {x:Int} (h:DcOk s x) (g:Bool) (W:World) :
  Calls Tryz.prog 23 #[.agg #[.bool g,.string s,.int .i64 x]] W fun en W'=>en = .returned (.int .i64 0)∧Below W.heap.size W W':=by
 by_cases h0:s.size = 0
 ·exact dck_z0 W g s x h.sz h0 (h.zero h0)
 ·exact chk_good g s x h.sz h0 h.ok h.fst h.lst h.lo h.hi W
theorem DcOk.two {s:ByteArray} {x:Int} (h:DcOk s x) {s2:ByteArray} {x2:Int} (h2:DcOk s2 x2) (g g2:Bool) (W:World) :
  Calls Tryz.prog 35 #[.agg #[.bool g,.string s,.int .i64 x],.agg #[.bool g2,.string s2,.int .i64 x2]] W fun en W'=>en = .returned (.int .i64 0)∧Below W.heap.size W W':=
 chk2_o W g s x g2 s2 x2 0 (hide (h.chk g)) (hide (h2.chk g2))
def apart (M N:Nat):Nat:=if N < M then M - N else N - M
theorem mkA_near {g:Bool} {D:Nat} {x:Int} {V:Value} (h:MkA g D x V) (h0:D≠0) (hD:D < tenTop 65536) (hx0:-1073741824≤x) (hx1:x≤1000000000) :
  ∃ (s3:ByteArray) (z:Nat),V = .tuple #[.agg #[.bool g,.string s3,.int .i64 (x+(z:Int))],.int .i64 0]∧DcOk s3 (x+(z:Int))∧valS s3 * 10 ^ z = D:=by
 rcases h with ⟨e,_⟩|⟨t,n,z,h1,h10,hS,h⟩
 ·exact absurd e h0
 have hz:z < 65536:=by
  rcases Nat.lt_or_ge z 65536 with q|q
  ·exact q
  ·exfalso
   have a1:=tenTop_le q
   have a2:10 ^ z≤n * 10 ^ z:=Nat.le_mul_of_pos_left _ (by omega)
   omega
 have hle:n≤D:=by rw [h1]; exact Nat.le_mul_of_pos_right _ (Nat.pow_pos (by omega))
 rcases h with ⟨hr,_⟩|⟨hr,hV⟩
 ·omega
 ·obtain ⟨k1,k2,_⟩:=says_ok hS h10 (Nat.lt_of_le_of_lt hle hD) (y:=x+(z:Int)) (by omega) (by omega)
  exact ⟨t,z,hV,k1,by rw [k2,h1]⟩
theorem dbe_under:Tryz.prog.underlying 23 = some (.struct (Tryz.prog.fieldsOf 23)):=by kernel_rfl
end Go.Proofs.YtpmmapoabbpaiaaGreat
