/- Of what RatioBackRow stands on: RbTxt RbLaw. -/
import Derived.Test.YtcfccblpcngeaaaGreatPbk
import Derived.Test.YtcfccblpcngeaaaGreatPbh
import Derived.Test.YtcfccblpcngeaaaGreatPbo
import Derived.Test.YtcfccblpcngeaaaGreatPbp
namespace Go.Proofs.YtcfccblpcngeaaaGreat
open Go.RowKit
theorem digits_num (l:List UInt8) (hl:l.all (fun b=>decide (48≤b.toNat) && decide (b.toNat≤57)) = true) (h0:l≠[]) (hs:l.length≤65536) (M:Nat) (hM:Pl.dval (l.map (fun b=>b.toNat - 48)) 0 = M) (base:Nat) (e:Ending) (w:World)
  (h:ParseAns ⟨l.toArray⟩ base e w):∃ a n c,e = .returned (.tuple #[.agg #[.slice a n c],.int .i64 0,.int .i64 0])∧Mine w base a n c M:=by
 have hsz:(⟨l.toArray⟩:ByteArray).size = l.length:=by simp [ByteArray.size]
 rcases h with ⟨h,_⟩|⟨h,_⟩|⟨i,hi,_,_,hn,_⟩|⟨a,n,c,_,_,_,rfl,hm⟩
 ·omega
 ·rw [hsz] at h; exact absurd (List.length_eq_zero_iff.1 h) h0
 ·exfalso
  apply hn
  have hi':i < l.length:=by omega
  have hx:(⟨l.toArray⟩:ByteArray)[i] = l[i]:=by simp [ByteArray.getElem_eq_getElem_data]
  rw [hx]
  have:=List.all_eq_true.1 hl l[i] (List.getElem_mem hi')
  simpa using this
 ·refine ⟨a,n,c,rfl,?_⟩
  have:digs ⟨l.toArray⟩ = l.map (fun b=>b.toNat - 48):=by simp [digs]
  rw [this,hM] at hm
  exact hm
theorem pre_none (l:List UInt8) (hl:l.head?≠some 45) (e:Ending) (h:PreAns ⟨l.toArray⟩ e):e = .returned (.tuple #[.string ⟨l.toArray⟩,.bool false]):=by
 rcases h with ⟨_,h⟩|⟨h,_⟩
 ·exact h
 ·exfalso
  unfold minus at h
  rw [Lib.extract_toList] at h
  match l,hl with
  | [],_=>simp [ByteArray.size] at h
  | b :: r,hl=>
   simp at h hl
   exact hl h.2
theorem pre_minus (l:List UInt8) (e:Ending) (h:PreAns ⟨(45 :: l).toArray⟩ e):e = .returned (.tuple #[.string ⟨l.toArray⟩,.bool true]):=by
 rcases h with ⟨h,_⟩|⟨_,_,h⟩
 ·exfalso
  unfold minus at h
  rw [Lib.extract_toList] at h
  simp [ByteArray.size] at h
 ·rw [h,Lib.extract_eq]
  simp [ByteArray.size]
theorem cut_at (l r:List UInt8) (hl:Lib.indexByte (l ++ 47 :: r) 47 = (l.length:Int)) (e:Ending) (h:CutAns ⟨(l ++ 47 :: r).toArray⟩ e):e = .returned (.tuple #[.string ⟨l.toArray⟩,.string ⟨r.toArray⟩,.bool true]):=by
 rcases h with ⟨h,_⟩|⟨i,h,_,rfl⟩
 ·have:(⟨(l ++ 47 :: r).toArray⟩:ByteArray).data.toList = l ++ 47 :: r:=rfl
  rw [this,hl] at h; omega
 ·have:(⟨(l ++ 47 :: r).toArray⟩:ByteArray).data.toList = l ++ 47 :: r:=rfl
  rw [this,hl] at h
  have hi:l.length = i:=by omega
  subst hi
  rw [Lib.extract_eq,Lib.extract_eq]
  have e1:(⟨(l ++ 47 :: r).toArray⟩:ByteArray).size = l.length+(r.length+1):=by simp [ByteArray.size]
  rw [e1]
  simp [List.drop_append]
  rw [List.drop_eq_nil_of_le (by omega),List.nil_append,List.take_of_length_le (by omega)]
theorem ba_app (l r:List UInt8):(⟨l.toArray⟩:ByteArray) ++ ⟨r.toArray⟩ = ⟨(l ++ r).toArray⟩:=ByteArray.ext (by simp)
theorem ba_size (l:List UInt8):(⟨l.toArray⟩:ByteArray).size = l.length:=by simp [ByteArray.size]
theorem chars_dig {ds:List Nat} (h:Pl.Dig ds) {b:UInt8} (hb:b∈chars ds):48≤b.toNat∧b.toNat≤57:=by
 unfold chars at hb
 obtain ⟨d,hd,rfl⟩:=List.mem_map.1 hb
 have:=h d hd
 have e:(UInt8.ofNat (48+d)).toNat = 48+d:=by rw [UInt8.toNat_ofNat']; omega
 omega
theorem chars_all {ds:List Nat} (h:Pl.Dig ds):(chars ds).all (fun b=>decide (48≤b.toNat) && decide (b.toNat≤57)) = true:=by
 rw [List.all_eq_true]
 intro b hb
 have:=chars_dig h hb
 simp [this.1,this.2]
theorem chars_back {ds:List Nat} (h:Pl.Dig ds):(chars ds).map (fun b=>b.toNat - 48) = ds:=by
 unfold chars
 rw [List.map_map]
 conv=>rhs; rw [← List.map_id ds]
 refine List.map_congr_left fun d hd=>?_
 have:=h d hd
 have e:(UInt8.ofNat (48+d)).toNat = 48+d:=by rw [UInt8.toNat_ofNat']; omega
 simp only [Function.comp,e,id]; omega
theorem chars_len (ds:List Nat):(chars ds).length = ds.length:=by simp [chars]
theorem bpn {ds:List Nat} {m:Nat} (hd:Pl.Dig ds) (h0:ds≠[]) (hv:Pl.dval ds 0 = m) (hl:ds.length≤1000) (W:World):Calls Tryz.prog 22 #[.string ⟨(chars ds).toArray⟩] W fun en W'=>(∃ A N C,en = .returned (.tuple #[.agg #[.slice A N C],.int .i64 0,.int .i64 0])∧Mine W' W.heap.size A N C m)∧Below W.heap.size W W':=
 (parse_any _ W (by rw [ba_size,chars_len]; omega)).mono fun en W' ⟨h,hb⟩=>⟨digits_num (chars ds) (chars_all hd) (fun e=>h0 (List.length_eq_zero_iff.1 (by rw [← chars_len,e]; rfl))) (by rw [chars_len]; omega) m (by rw [chars_back hd]; exact hv) _ en W' h,hb⟩
def trl (s:Bool) (ds es:List Nat) (d:Nat):List UInt8:=(if s then [45] else []) ++ (chars ds ++ (if d = 1 then [] else 47 :: chars es))
theorem btext_ok {s:Bool} {m d:Nat} {ds es:List Nat} (hm:Says ⟨(chars ds).toArray⟩ m) (hd:Says ⟨(chars es).toArray⟩ d) (l1:ds.length≤1000) (l2:es.length≤1000) (hd0:0 < d) (hg:Nat.gcd m d = 1) (hs:s = true→0 < m) (W:World) (a:Option Addr) (n c:Nat) (b:Option Addr) (k l:Nat) (h1:Num W a n m) (h2:Num W b k d) :
  Calls Tryz.prog 6 #[.agg #[.bool s,.slice a n c,.slice b k l]] W fun e W'=>e = .returned (.tuple #[.string ⟨(trl s ds es d).toArray⟩,.int .i64 0])∧Below W.heap.size W W':=by
 have HC:Hid (∀ W:World,Num W a n m→Num W b k d→Calls Tryz.prog 15 #[.agg #[.bool s,.slice a n c,.slice b k l]] W fun e W'=>e = .returned (.int .i64 0)∧Below W.heap.size W W'):=hide fun W h1 h2=>zchk_all s hd0 hg hs W a n c b k l h1 h2
 have T1:Hid (∀ W:World,Num W a n m→Calls Tryz.prog 18 #[.agg #[.slice a n c]] W fun e W'=>e = .returned (.tuple #[.string ⟨(chars ds).toArray⟩,.int .i64 0])∧Below W.heap.size W W'):=hide fun W h=>(text_any a n c m W h).mono fun e W' ⟨u,k1,k2,k3⟩=>⟨by rw [k1,says_eq k2 hm],k3⟩
 have T2:Hid (∀ W:World,Num W b k d→Calls Tryz.prog 18 #[.agg #[.slice b k l]] W fun e W'=>e = .returned (.tuple #[.string ⟨(chars es).toArray⟩,.int .i64 0])∧Below W.heap.size W W'):=hide fun W h=>(text_any b k l d W h).mono fun e W' ⟨u,k1,k2,k3⟩=>⟨by rw [k1,says_eq k2 hd],k3⟩
 have s1:(⟨(chars ds).toArray⟩:ByteArray).size≤4000000000:=by rw [ba_size,chars_len]; omega
 have s2:(⟨(chars es).toArray⟩:ByteArray).size≤4000000000:=by rw [ba_size,chars_len]; omega
 have e45:(⟨#[45]⟩:ByteArray) = ⟨[45].toArray⟩:=rfl
 have e47:(⟨#[47]⟩:ByteArray) = ⟨[47].toArray⟩:=rfl
 unfold trl
 by_cases h9:d = 1
 ·rw [if_pos h9,List.append_nil]
  cases s
  ·have:=ztx_ft W a b n c k l m d _ h1 h2 (decide_eq_true h9) HC T1
   exact this
  ·have:=ztx_tt W a b n c k l m d _ h1 h2 (decide_eq_true h9) HC T1 s1
   rw [e45,ba_app] at this
   exact this
 ·rw [if_neg h9]
  cases s
  ·have:=ztx_ff W a b n c k l m d _ _ h1 h2 (decide_eq_false h9) HC T1 T2 s1 s2
   rw [e47,ba_app,ba_app,List.append_assoc] at this
   exact this
  ·have:=ztx_tf W a b n c k l m d _ _ h1 h2 (decide_eq_false h9) HC T1 T2 s1 s2
   rw [e45,e47,ba_app,ba_app,ba_app,List.append_assoc,List.append_assoc] at this
   exact this
theorem bmake_ok {s:Bool} {m d:Nat} (hd:0 < d) (hg:Nat.gcd m d = 1) (hs:s = true→0 < m) (W:World) (a:Option Addr) (n c:Nat) (b:Option Addr) (k l:Nat) (h1:Num W a n m) (h2:Num W b k d) :
  Calls Tryz.prog 17 #[.bool s,.agg #[.slice a n c],.agg #[.slice b k l]] W fun en W'=>(∃ A N C A' N' C',en = .returned (.tuple #[.agg #[.bool s,.slice A N C,.slice A' N' C'],.int .i64 0])∧Mine W' W.heap.size A N C m∧Mine W' W.heap.size A' N' C' d)∧Below W.heap.size W W':=by
 have h:=ymake_any s a b n k c l m d W h1 h2 hd
 rw [hg,Nat.div_one,Nat.div_one] at h
 have e:(s && !decide (m = 0)) = s:=by
  cases s
  ·rfl
  ·rw [decide_eq_false (by have:=hs rfl; omega)]; rfl
 rw [e] at h; exact h
theorem no47 {ds:List Nat} (h:Pl.Dig ds):∀ b∈chars ds,b≠47:=fun b hb e=>by
 have:=chars_dig h hb
 rw [e] at this
 exact absurd this.1 (by decide)
theorem index_at {l r:List UInt8} (hl:∀ b∈l,b≠47):Lib.indexByte (l ++ 47 :: r) 47 = (l.length:Int):=by
 rcases indexByte_room (l ++ 47 :: r) 47 with h|⟨i,h,hi⟩
 ·exact absurd (by simp:(l ++ 47 :: r)[l.length]? = some 47) (Lib.indexByte_none h l.length)
 ·obtain ⟨k1,k2⟩:=Lib.indexByte_some h
  rw [h]
  rcases Nat.lt_trichotomy i l.length with h3|h3|h3
  ·rw [List.getElem?_append_left h3] at k1
   exact absurd rfl (hl 47 (List.mem_of_getElem? k1))
  ·rw [h3]
  ·exact absurd (by simp:(l ++ 47 :: r)[l.length]? = some 47) (k2 _ h3)
theorem index_no {l:List UInt8} (hl:∀ b∈l,b≠47):Lib.indexByte l 47 = -1:=by
 rcases indexByte_room l 47 with h|⟨i,h,_⟩
 ·exact h
 ·exact absurd rfl (hl 47 (List.mem_of_getElem? (Lib.indexByte_some h).1))
theorem cut_no {l:List UInt8} (hl:∀ b∈l,b≠47) (e:Ending) (h:CutAns ⟨l.toArray⟩ e):e = .returned (.tuple #[.string ⟨l.toArray⟩,.string ⟨#[]⟩,.bool false]):=by
 rcases h with ⟨_,h⟩|⟨i,h,_⟩
 ·exact h
 ·have h2:=index_no hl
  have:(⟨l.toArray⟩:ByteArray).data.toList = l:=by simp
  rw [this,h2] at h
  omega
theorem bcut (s:Bool) {l r:List UInt8} (hr:r.head?≠some 45) (hl:l = (if s then [45] else []) ++ r) (h9:l.length≤60000) (W:World):Calls Tryz.prog 20 #[.string ⟨l.toArray⟩,.string ⟨#[45]⟩] W fun e W'=>e = .returned (.tuple #[.string ⟨r.toArray⟩,.bool s])∧Below W.heap.size W W':=
 (prefix_any _ W (by rw [ba_size]; omega)).mono fun e W' ⟨h,hb⟩=>⟨by
  subst hl
  cases s
  ·exact pre_none r hr e h
  ·exact pre_minus r e h,hb⟩
theorem bcut_at {l r:List UInt8} (hl:∀ b∈l,b≠47) (h9:(l ++ 47 :: r).length≤60000) (W:World):Calls Tryz.prog 21 #[.string ⟨(l ++ 47 :: r).toArray⟩,.string ⟨#[47]⟩] W fun e W'=>e = .returned (.tuple #[.string ⟨l.toArray⟩,.string ⟨r.toArray⟩,.bool true])∧Below W.heap.size W W':=
 (cutS_any _ W (by rw [ba_size]; omega)).mono fun e W' ⟨h,hb⟩=>⟨cut_at l r (index_at hl) e h,hb⟩
theorem bcut_no {l:List UInt8} (hl:∀ b∈l,b≠47) (h9:l.length≤60000) (W:World):Calls Tryz.prog 21 #[.string ⟨l.toArray⟩,.string ⟨#[47]⟩] W fun e W'=>e = .returned (.tuple #[.string ⟨l.toArray⟩,.string ⟨#[]⟩,.bool false])∧Below W.heap.size W W':=
 (cutS_any _ W (by rw [ba_size]; omega)).mono fun e W' ⟨h,hb⟩=>⟨cut_no hl e h,hb⟩
theorem chars_head {ds:List Nat} (hd:Pl.Dig ds) (h0:ds≠[]) (r:List UInt8):(chars ds ++ r).head?≠some 45:=by
 match ds,h0 with
 | x :: t,_=>
  intro e
  have e2:UInt8.ofNat (48+x) = 45:=by simpa [chars] using e
  have:=chars_dig hd (b:=45) (by rw [← e2]; simp [chars])
  exact absurd this.1 (by decide)
theorem bparse_ok {s:Bool} {m d:Nat} {ds es:List Nat} (q1:Pl.Dig ds) (q2:Pl.Dig es) (n1:ds≠[]) (n2:es≠[]) (v1:Pl.dval ds 0 = m) (v2:Pl.dval es 0 = d) (l1:ds.length≤1000) (l2:es.length≤1000) (hd0:0 < d) (hg:Nat.gcd m d = 1) (hs:s = true→0 < m) (W:World) :
  Calls Tryz.prog 7 #[.string ⟨(trl s ds es d).toArray⟩] W fun en W'=>(∃ A N C A' N' C',en = .returned (.tuple #[.agg #[.bool s,.slice A N C,.slice A' N' C'],.int .i64 0,.int .i64 0])∧Mine W' W.heap.size A N C m∧Mine W' W.heap.size A' N' C' d)∧Below W.heap.size W W':=by
 have hlen:(trl s ds es d).length≤3000:=by
  unfold trl
  rw [List.length_append,List.length_append,chars_len]
  have a1:(if s = true then [45] else ([]:List UInt8)).length≤1:=by split <;> simp
  have a2:(if d = 1 then [] else 47 :: chars es).length≤1001:=by
   split
   ·simp
   ·rw [List.length_cons,chars_len]; omega
  omega
 have hsz:(⟨(trl s ds es d).toArray⟩:ByteArray).size≤65536:=by rw [ba_size]; omega
 by_cases h9:d = 1
 ·have e:trl s ds es d = (if s then [45] else []) ++ chars ds:=by unfold trl; rw [if_pos h9,List.append_nil]
  have HM:=fun W a n c b k l=>bmake_ok (s:=s) hd0 hg hs W a n c b k l
  rw [h9] at HM ⊢
  have e1:trl s ds es 1 = (if s then [45] else []) ++ chars ds:=by rw [← h9]; exact e
  rw [h9] at hlen hsz
  have hh:=chars_head q1 n1 []
  rw [List.append_nil] at hh
  exact zpar_f W _ _ _ _ s s m m 1 hsz (hide fun W=>bcut s hh e1 (by omega) W) (hide fun W=>bcut_no (no47 q1) (by rw [chars_len]; omega) W) (hide fun W=>bpn q1 n1 v1 l1 W) (hide HM)
 ·have e:trl s ds es d = (if s then [45] else []) ++ (chars ds ++ 47 :: chars es):=by unfold trl; rw [if_neg h9]
  exact zpar_t W _ _ _ _ s s m d m d hsz (hide fun W=>bcut s (chars_head q1 n1 _) e (by omega) W) (hide fun W=>bcut_at (no47 q1) (by rw [List.length_append,List.length_cons,chars_len,chars_len]; omega) W) (hide fun W=>bpn q1 n1 v1 l1 W) (hide fun W=>bpn q2 n2 v2 l2 W) (hide fun W a n c b k l=>bmake_ok hd0 hg hs W a n c b k l)
theorem balive (W:World):Calls Tryz.prog 4 #[] W fun e W'=>e = .returned (.bool true)∧Below W.heap.size W W':=by
 have nd:∀ l:List Nat,(∀ x∈l,x < 10)→Pl.Dig l:=fun l h=>h
 refine ralive9 W (hide fun W=>?_) (hide fun W=>?_) (hide fun W a n c b k l a' n' c' b' k' l' h1 h2 h3 h4=>?_) (hide fun W a n c b k l h1 h2=>?_) (hide fun W a n c b k l a' n' c' b' k' l' h1 h2 h3 h4=>?_) (hide fun W=>?_) (hide fun W a n c b k l h1 h2=>?_)
 ·exact zpar_t W ⟨#[48,48,54,47,52]⟩ _ _ _ false false 6 4 3 2 (by decide) (hide fun W=>bcut false (l:=[48,48,54,47,52]) (r:=[48,48,54,47,52]) (by decide) rfl (by decide) W) (hide fun W=>bcut_at (l:=[48,48,54]) (r:=[52]) (by decide) (by decide) W) (hide fun W=>bpn (ds:=[0,0,6]) (nd _ (by decide)) (by decide) rfl (by decide) W) (hide fun W=>bpn (ds:=[4]) (nd _ (by decide)) (by decide) rfl (by decide) W) (hide fun W a n c b k l h1 h2=>ymake_any false a b n k c l 6 4 W h1 h2 (by decide))
 ·exact bparse_ok (s:=true) (ds:=[1]) (es:=[2]) (nd _ (by decide)) (nd _ (by decide)) (by decide) (by decide) rfl rfl (by decide) (by decide) (by decide) (by decide) (fun _=>by decide) W
 ·have hS:SmR 10 3 2 1 2:=⟨by decide,by decide,by decide,by decide,by decide,by decide,fun v hv=>rb_over (e:=14) (Nat.lt_of_le_of_lt hv (by decide)) (by decide)⟩
  have hb:BSum 31 false true 3 2 1 2 1 1 false:=fun W a1 n1 c1 a2 n2 c2 a3 n3 c3 a4 n4 c4 h1 h2 h3 h4=>zsum_d W a1 a2 a3 a4 n1 n2 n3 n4 c1 c2 c3 c4 3 2 1 2 false true false 1 1 h1 h2 h3 h4 (fun p=>hide (apa_ok hS (by decide) (by decide) p false true rfl)) rfl
  exact zadd9_is W a b a' b' n k n' k' c l c' l' 3 2 1 2 false true false 1 1 h1 h2 h3 h4 (hide fun W h1 h2=>zchk_all false (by decide) (by decide) (fun h=>nomatch h) W a n c b k l h1 h2) (hide fun W h1 h2=>zchk_all true (by decide) (by decide) (fun _=>by decide) W a' n' c' b' k' l' h1 h2) (hide hb)
 ·exact btext_ok (s:=false) (ds:=[1]) (es:=[1]) ⟨[1],rfl,nd _ (by decide),⟨by simp,Or.inr rfl⟩,rfl⟩ ⟨[1],rfl,nd _ (by decide),⟨by simp,Or.inr rfl⟩,rfl⟩ (by decide) (by decide) (by decide) (by decide) (fun h=>nomatch h) W a n c b k l h1 h2
 ·exact zcmp_sg W a b a' b' n k n' k' c l c' l' 3 2 1 2 h1 h2 h3 h4 (hide fun W h1 h2=>zchk_all false (by decide) (by decide) (fun h=>nomatch h) W a n c b k l h1 h2) (hide fun W h1 h2=>zchk_all true (by decide) (by decide) (fun _=>by decide) W a' n' c' b' k' l' h1 h2)
 ·exact zpar_0 W ⟨#[51,47,48,48]⟩ _ _ _ false 3 2 0 (by decide) (by decide) (by decide) (by decide) (hide fun W=>bcut false (l:=[51,47,48,48]) (r:=[51,47,48,48]) (by decide) rfl (by decide) W) (hide fun W=>bcut_at (l:=[51]) (r:=[48,48]) (by decide) (by decide) W) (hide fun W=>bpn (ds:=[3]) (nd _ (by decide)) (by decide) rfl (by decide) W) (hide fun W=>bpn (ds:=[0,0]) (nd _ (by decide)) (by decide) rfl (by decide) W)
 ·exact zfloor_n W a b n c k l 1 2 0 1 1 h1 h2 (hide fun W h1 h2=>zchk_all true (by decide) (by decide) (fun _=>by decide) W a n c b k l h1 h2) (fun p=>hide (wdiv_ok p 1 (y:=2) (by decide))) (by decide) (fun p=>hide (wadd_ok p (x:=0) (y:=1) (rb_over (e:=2) (by decide) (by decide))))
theorem bmade_ok (s:Bool) (a1 a2:Option Addr) (n1 n2 c1 c2:Nat) (xs ys:List Nat) (w:World) (h1:SArg w a1 n1 c1 xs) (h2:SArg w a2 n2 c2 ys) :
  ∃ (q:Rat) (g:Bool) (z dn:Nat),Rm.Q q g z dn∧z < 2 ^ 160∧dn < 2 ^ 160∧∀ W:World,Below w.heap.size w W→Calls Tryz.prog 5 #[.agg #[.bool s,.slice a1 n1 c1,.slice a2 n2 c2]] W fun en W'=>(∃ A N C A' N' C',en = .returned (.tuple #[.agg #[.bool g,.slice A N C,.slice A' N' C'],.bool true])∧Mine W' W.heap.size A N C z∧Mine W' W.heap.size A' N' C' dn)∧Below W.heap.size W W':=by
 have wf:∀ {a:Option Addr} {n c:Nat} {xs:List Nat},SArg w a n c xs→Pl.Wf xs:=fun h=>by
  rcases h with ⟨_,_,_,rfl⟩|⟨_,_,_,_,_,_,h⟩
  ·exact Pl.wf_nil
  ·exact h
 have hx:Pl.val (xs.take 5) < 2 ^ 160:=five_lt xs (wf h1)
 have hy:Pl.val (ys.take 5) < 2 ^ 160:=five_lt ys (wf h2)
 have hid:∀ {a:Option Addr} {n c:Nat} {xs:List Nat},SArg w a n c xs→Hid (∀ W:World,Below w.heap.size w W→Calls Tryz.prog 16 #[.slice a n c] W fun en W'=>(∃ A N C,en = .returned (.agg #[.slice A N C])∧Mine W' W.heap.size A N C (Pl.val (xs.take 5)))∧Below W.heap.size W W'):=fun {a n c xs} h=>hide fun W hb=>
  (cut5_any a n c xs W (h.kept hb)).mono fun en W' ⟨⟨A,N,C,k1,k2,_⟩,k3⟩=>⟨⟨A,N,C,k1,k2⟩,k3⟩
 have H1:=hid h1
 have H2:=hid h2
 generalize Pl.val (xs.take 5) = x at *
 generalize Pl.val (ys.take 5) = y at *
 have core:∀ y:Nat,0 < y→y < 2 ^ 160→∃ (q:Rat) (g:Bool) (z dn:Nat),Rm.Q q g z dn∧z < 2 ^ 160∧dn < 2 ^ 160∧Hid (∀ (W:World) (a:Option Addr) (n c:Nat) (b:Option Addr) (k l:Nat),Num W a n x→Num W b k y→Calls Tryz.prog 17 #[.bool s,.agg #[.slice a n c],.agg #[.slice b k l]] W fun en W'=>(∃ A N C A' N' C',en = .returned (.tuple #[.agg #[.bool g,.slice A N C,.slice A' N' C'],.int .i64 0])∧Mine W' W.heap.size A N C z∧Mine W' W.heap.size A' N' C' dn)∧Below W.heap.size W W')∧Hid (∀ (W:World) (a:Option Addr) (n c:Nat) (b:Option Addr) (k l:Nat),Num W a n z→Num W b k dn→Calls Tryz.prog 15 #[.agg #[.bool g,.slice a n c,.slice b k l]] W fun en W'=>en = .returned (.int .i64 0)∧Below W.heap.size W W'):=by
  intro y h0 hb
  have hq:=Rm.Q.made (s:=s) (n:=x) (d:=y) (by omega)
  refine ⟨_,_,_,_,hq,Nat.lt_of_le_of_lt (Nat.div_le_self _ _) hx,Nat.lt_of_le_of_lt (Nat.div_le_self _ _) hb,hide fun W a n c b k l k1 k2=>ymake_any s a b n k c l x y W k1 k2 h0,hide fun W a n c b k l k1 k2=>zchk_all _ hq.pos hq.co (fun hs=>Nat.pos_of_ne_zero fun e0=>?_) W a n c b k l k1 k2⟩
  have:=hq.zero e0
  rw [hs] at this; cases this
 by_cases h0:y = 0
 ·obtain ⟨q,g,z,dn,k1,k2,k3,HM,HK⟩:=core 1 (by decide) (by decide)
  exact ⟨q,g,z,dn,k1,k2,k3,fun W hb=>zmade_n W s g a1 a2 n1 n2 c1 c2 x y z dn h0 (hide fun V hv=>unhide H1 V (gr_trans hb hv)) (hide fun V hv=>unhide H2 V (gr_trans hb hv)) HM HK⟩
 ·obtain ⟨q,g,z,dn,k1,k2,k3,HM,HK⟩:=core y (by omega) hy
  exact ⟨q,g,z,dn,k1,k2,k3,fun W hb=>zmade_s W s g a1 a2 n1 n2 c1 c2 x y z dn h0 (hide fun V hv=>unhide H1 V (gr_trans hb hv)) (hide fun V hv=>unhide H2 V (gr_trans hb hv)) HM HK⟩
theorem split47 {l1 l2 r1 r2:List UInt8} (h1:∀ b∈l1,b≠47) (h2:∀ b∈l2,b≠47) (e1:r1 = []∨r1.head? = some 47) (e2:r2 = []∨r2.head? = some 47) (h:l1 ++ r1 = l2 ++ r2):l1 = l2∧r1 = r2:=by
 induction l1 generalizing l2 with
 | nil=>
  match l2 with
  | []=>exact ⟨rfl,h⟩
  | x :: t=>
   have hx:=h2 x (by simp)
   rw [List.nil_append] at h
   rcases e1 with e|e
   ·rw [e] at h; cases h
   ·rw [h] at e; simp at e; exact absurd e hx
 | cons x t ih=>
  match l2 with
  | []=>
   have hx:=h1 x (by simp)
   rw [List.nil_append] at h
   rcases e2 with e|e
   ·rw [e] at h; cases h
   ·rw [← h] at e; simp at e; exact absurd e hx
  | x' :: t'=>
   rw [List.cons_append,List.cons_append] at h
   injection h with ha hb
   obtain ⟨k1,k2⟩:=ih (fun b hb=>h1 b (by simp [hb])) (fun b hb=>h2 b (by simp [hb])) hb
   exact ⟨by rw [ha,k1],k2⟩
theorem chars_inj {ds es:List Nat} (h1:Pl.Dig ds) (h2:Pl.Dig es) (h:chars ds = chars es):ds = es:=by
 rw [← chars_back h1,← chars_back h2,h]
theorem trl_inj {s t:Bool} {ds es ds' es':List Nat} {d d':Nat} (p1:Pl.Dig ds) (p2:Pl.Dig es) (p3:Pl.Dig ds') (p4:Pl.Dig es') (n1:ds≠[]) (n2:ds'≠[]) (v1:Pl.dval es 0 = d) (v2:Pl.dval es' 0 = d') (h:trl s ds es d = trl t ds' es' d'):s = t∧ds = ds'∧d = d':=by
 have hst:s = t∧chars ds ++ (if d = 1 then [] else 47 :: chars es) = chars ds' ++ (if d' = 1 then [] else 47 :: chars es'):=by
  unfold trl at h
  have a1:=chars_head p1 n1 (if d = 1 then [] else 47 :: chars es)
  have a2:=chars_head p3 n2 (if d' = 1 then [] else 47 :: chars es')
  cases s <;> cases t
  ·exact ⟨rfl,h⟩
  ·simp only [Bool.false_eq_true,if_false,List.nil_append,if_true,List.singleton_append] at h
   rw [h] at a1; exact absurd rfl a1
  ·simp only [Bool.false_eq_true,if_false,List.nil_append,if_true,List.singleton_append] at h
   rw [← h] at a2; exact absurd rfl a2
  ·refine ⟨rfl,?_⟩
   simpa using h
 obtain ⟨k1,k2⟩:=split47 (no47 p1) (no47 p3) (by split <;> simp) (by split <;> simp) hst.2
 refine ⟨hst.1,chars_inj p1 p3 k1,?_⟩
 by_cases c1:d = 1
 ·by_cases c2:d' = 1
  ·rw [c1,c2]
  ·rw [if_pos c1,if_neg c2] at k2; cases k2
 ·by_cases c2:d' = 1
  ·rw [if_neg c1,if_pos c2] at k2; cases k2
  ·rw [if_neg c1,if_neg c2] at k2
   injection k2 with _ k3
   rw [← v1,← v2,chars_inj p2 p4 k3]
theorem dig_len {ds:List Nat} {n:Nat} (hl:Pl.Lead ds) (hv:Pl.dval ds 0 < 10 ^ n) (hn:0 < n):ds.length≤n:=by
 obtain ⟨h1,h2⟩:=hl
 match ds,h1 with
 | d :: r,_=>
  rcases h2 with h2|h2
  ·have:=Pl.lead_low (d:=d) (ds:=r) h2
   have h3:10 ^ r.length < 10 ^ n:=Nat.lt_of_le_of_lt this hv
   have:=(Nat.pow_lt_pow_iff_right (by decide)).1 h3
   simp; omega
  ·omega
theorem ratioBack_any (s1 s2:Bool) (a1 a2 a3 a4:Option Addr) (n1 n2 n3 n4 c1 c2 c3 c4:Nat) (xs1 xs2 xs3 xs4:List Nat) (bs:Nat) (pw:Int) (w:World) (h1:SArg w a1 n1 c1 xs1) (h2:SArg w a2 n2 c2 xs2) (h3:SArg w a3 n3 c3 xs3) (h4:SArg w a4 n4 c4 xs4) (hbs:bs < 4294967296) :
  Calls Tryz.prog 3 #[.agg #[.bool s1,.slice a1 n1 c1,.slice a2 n2 c2],.agg #[.bool s2,.slice a3 n3 c3,.slice a4 n4 c4],.int .u32 (bs:Int),.int .i64 pw] w fun e w'=>e = .returned (.bool true)∧Below w.heap.size w w':=by
 obtain ⟨qa,s,x,y,A1,A2,A3,HA⟩:=bmade_ok s1 a1 a2 n1 n2 c1 c2 xs1 xs2 w h1 h2
 obtain ⟨qb,t,u,v,B1,B2,B3,HB⟩:=bmade_ok s2 a3 a4 n3 n4 c3 c4 xs3 xs4 w h3 h4
 have hsx:s = true→0 < x:=fun hs=>Nat.pos_of_ne_zero fun e0=>by have:=A1.zero e0; rw [hs] at this; cases this
 have htu:t = true→0 < u:=fun hs=>Nat.pos_of_ne_zero fun e0=>by have:=B1.zero e0; rw [hs] at this; cases this
 obtain ⟨ds,p1,y1,v1,w1⟩:=says_ex x
 obtain ⟨es,p2,y2,v2,w2⟩:=says_ex y
 obtain ⟨ds',p3,y3,v3,w3⟩:=says_ex u
 obtain ⟨es',p4,y4,v4,w4⟩:=says_ex v
 have len:∀ {z:Nat} {l:List Nat},z < 2 ^ 160→Pl.Lead l→Pl.dval l 0 = z→l.length≤1000:=fun {z l} hz hl hv=>by
  have:=dig_len (n:=49) hl (by rw [hv]; exact Nat.lt_trans hz (by decide)) (by decide)
  omega
 have L1:=len A2 w1 v1
 have L2:=len A3 w2 v2
 have L3:=len B2 w3 v3
 have L4:=len B3 w4 v4
 obtain ⟨be,hbe,b1,b2⟩:∃ be:Nat,bits BinOp.or .u32 (bs:Int) 1 = (be:Int)∧1≤be∧be < 4294967296:=by
  refine ⟨bs ||| 1,bits_or_u32 bs 1 hbs (by decide),Nat.right_le_or,Nat.or_lt_two_pow (n:=32) hbs (by decide)⟩
 have hrm:script Tryz.prog 0 (binOp .rem 3 (.int .i64 pw) (.int .i64 61)) [] = some (.int .i64 (pw.tmod 61),[]):=by
  simp only [binOp,Op.intDiv]
  rw [if_neg (by simp),if_neg (by decide)]
  rfl
 have r0:(pw.tmod 61).natAbs≤60:=by rw [Int.natAbs_tmod]; exact Nat.le_of_lt_succ (Nat.mod_lt _ (by decide))
 have r1:-60≤pw.tmod 61:=by omega
 have r2:pw.tmod 61≤60:=by omega
 generalize pw.tmod 61 = r at *
 obtain ⟨P,P1,P2⟩:∃ P,1920 < P∧P≤2000:=⟨1921,by decide,by decide⟩
 obtain ⟨gu,xu,yu,U1,U2,U3,HU⟩:=bscale_ok P1 P2 A1 b1 b2 r1 r2 A2 A3 (by decide)
 obtain ⟨g2,x2,y2',V1,V2,V3,HV⟩:=bscale_ok P1 P2 U1 b1 b2 (n:=-r) (by omega) (by omega) U2 U3 (by omega)
 rw [sc_back _ b1] at V1
 obtain ⟨gm,xm,ym,M1,M2,M3,HM⟩:=bscale_ok P1 P2 (q_nat 1) b1 b2 r1 r2 (K:=1) (by decide) (by decide) (by decide)
 obtain ⟨g3,x3,y3',N1,_,_,HN⟩:=bmul_ok A1 M1 A2 A3 M2 M3 (by omega)
 rw [show ((1:Nat):Rat) = 1 from rfl,sc_mul] at N1
 have uq:∀ {q:Rat} {g g':Bool} {a b a' b':Nat},Rm.Q q g a b→Rm.Q q g' a' b'→g = g'∧a = a'∧b = b':=fun k k'=>⟨by rw [← k.neg,← k'.neg],by rw [← k.abs,← k'.abs],by rw [← k.den,← k'.den]⟩
 obtain ⟨e1,e2,e3⟩:=uq V1 A1
 obtain ⟨e4,e5,e6⟩:=uq N1 U1
 subst e1 e2 e3 e4 e5 e6
 have hck:∀ {q:Rat} {g:Bool} {a b:Nat},Rm.Q q g a b→∀ (A:Option Addr) (N C:Nat) (A':Option Addr) (N' C':Nat),Hid (∀ W:World,Num W A N a→Num W A' N' b→Calls Tryz.prog 15 #[.agg #[.bool g,.slice A N C,.slice A' N' C']] W fun e W'=>e = .returned (.int .i64 0)∧Below W.heap.size W W'):=fun k A N C A' N' C'=>hide fun W k1 k2=>zchk_all _ k.pos k.co (fun hs=>Nat.pos_of_ne_zero fun e0=>by have:=k.zero e0; rw [hs] at this; cases this) W A N C A' N' C' k1 k2
 exact rback_walk w s1 s2 a1 a2 a3 a4 n1 n2 n3 n4 c1 c2 c3 c4 bs be pw r (-r) g2 t g3 gm (decide (g2 = t∧x2 = u∧y2' = v)) x2 y2' u v x3 y3' xm ym ⟨(trl g2 ds es y2').toArray⟩ ⟨(trl t ds' es' v).toArray⟩
  (hide balive) (hide HA) (hide HB)
  (hide fun W a n c b k l k1 k2=>btext_ok y1 y2 L1 L2 A1.pos A1.co hsx W a n c b k l k1 k2)
  (hide fun W a n c b k l k1 k2=>btext_ok y3 y4 L3 L4 B1.pos B1.co htu W a n c b k l k1 k2)
  (hide fun W=>bparse_ok p1 p2 w1.1 w2.1 v1 v2 L1 L2 A1.pos A1.co hsx W)
  hrm hbe (by rw [IntKind.wrap_i64]; omega)
  (hide HU) (hide HV) (hide HM)
  (hide fun W a n c b k l a' n' c' b' k' l' k1 k2 k3 k4=>zmul_is W a b a' b' n k n' k' c l c' l' x2 y2' xm ym g2 gm g3 x3 y3' k1 k2 k3 k4 (hck A1 a n c b k l) (hck M1 a' n' c' b' k' l') (hide HN))
  (hide fun W a n c b k l a' n' c' b' k' l' k1 k2 k3 k4=>zsame_all g2 g2 x2 y2' x2 y2' W a n c b k l a' n' c' b' k' l' k1 k2 k3 k4 true (decide_eq_true ⟨rfl,rfl,rfl⟩))
  (hide fun W a n c b k l a' n' c' b' k' l' k1 k2 k3 k4=>zsame_all g2 t x2 y2' u v W a n c b k l a' n' c' b' k' l' k1 k2 k3 k4 _ rfl)
  (hide fun W a n c b k l a' n' c' b' k' l' k1 k2 k3 k4=>zsame_all g3 g3 x3 y3' x3 y3' W a n c b k l a' n' c' b' k' l' k1 k2 k3 k4 true (decide_eq_true ⟨rfl,rfl,rfl⟩))
  (by
   rw [Lib.toList_data,Lib.toList_data]
   show (trl g2 ds es y2' == trl t ds' es' v) = _
   by_cases he:trl g2 ds es y2' = trl t ds' es' v
   ·obtain ⟨k1,k2,k3⟩:=trl_inj p1 p2 p3 p4 w1.1 w3.1 v2 v4 he
    rw [decide_eq_true ⟨k1,by rw [← v1,← v3,k2],k3⟩,beq_iff_eq]
    exact he
   ·rw [decide_eq_false,beq_false_of_ne he]
    rintro ⟨k1,k2,k3⟩
    apply he
    subst k1 k2 k3
    rw [Pl.dval_inj p1 p3 w1 w3 (by rw [v1,v3]),Pl.dval_inj p2 p4 w2 w4 (by rw [v2,v4])])
end Go.Proofs.YtcfccblpcngeaaaGreat
