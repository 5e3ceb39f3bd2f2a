/- Of what DecNearRow stands on: DcAlive DcTxtL Sym9 DcRndN DcRes DcRdN DcNearN DcDifN DcMirN. -/
import Derived.Test.YtbblodioaedckaaGreatPbc
import Derived.Test.YtbblodioaedckaaGreatPbg
import Derived.Test.YtbblodioaedckaaGreatPay
import Derived.Test.YtbblodioaedckaaGreatPao
import Derived.ChangeKeysEq
import Derived.Test.YtbblodioaedckaaGreatPai
namespace Go.Proofs.YtbblodioaedckaaGreat
open Go.RowKit
theorem ddig_t {s:ByteArray} (hm:s.size≤65536) (hd:AllD s s.size) (W:World):Calls Tryz.prog 63 #[.string s] W fun e W'=>e = .returned (.bool true)∧Below W.heap.size W W':=
 (allDigits_any s W hm).mono fun e W' ⟨h,hb⟩=>⟨by
  rcases h with ⟨h,_⟩|⟨_,h⟩
  ·exact h
  ·exact absurd hd h,hb⟩
theorem chk_good (g:Bool) (s:ByteArray) (x:Int) (hm:s.size≤65536) (h0:s.size≠0) (hd:AllD s s.size) (ha:∀ h:0 < s.size,(s[0]'h).toNat≠48) (hb:∀ k,(h:k+1 = s.size)→(s[k]'(by omega)).toNat≠48) (hx0:-1073741824≤x) (hx1:x≤1073741824) (W:World) :
  Calls Tryz.prog 25 #[.agg #[.bool g,.string s,.int .i64 x]] W fun en W'=>en = .returned (.int .i64 0)∧Below W.heap.size W W':=by
 obtain ⟨f,t,hE,_,hc⟩:=ends_fix s hm
 have hf:f = 0:=by
  by_cases h:f = 0
  ·exact h
  ·exact absurd (hE.lo 0 (by omega) (by omega)) (ha _)
 have ht:s.size≤t:=by
  by_cases h:s.size≤t
  ·exact h
  ·exact absurd (hE.up (s.size - 1) (by omega) (by omega)) (hb (s.size - 1) (by omega))
 exact dck_ok W g s x f t hm h0 (hide hc) hf ht (hide (ddig_t hm hd)) (hide fun W=>bey_in W x hx0 hx1)
structure Lit (s:ByteArray) (n v:Nat):Prop where
 sz:s.size = n
 ok:AllD s s.size
 fst:∀ h:0 < s.size,(s[0]'h).toNat≠48
 lst:∀ k,(h:k+1 = s.size)→(s[k]'(by omega)).toNat≠48
 val:valS s = v
theorem Lit.mk' {s:ByteArray} {n v:Nat} (h1:s.size = n) (h2:∀ b,b∈s.data.toList→48≤b.toNat∧b.toNat≤57) (h3:s.data.toList.head?.map UInt8.toNat≠some 48) (h4:s.data.toList.getLast?.map UInt8.toNat≠some 48) (h5:valS s = v):Lit s n v:=by
 refine ⟨h1,alld_mem.2 h2,fun h e=>h3 ?_,fun k h e=>h4 ?_,h5⟩
 ·rw [List.head?_eq_getElem?,List.getElem?_eq_getElem (by rw [Array.length_toList]; exact h)]
  exact congrArg some e
 ·rw [List.getLast?_eq_getElem?,Array.length_toList,List.getElem?_eq_getElem (by rw [Array.length_toList]; exact Nat.sub_lt (by have:s.data.size = s.size:=rfl; omega) (by decide))]
  have hk:s.data.size - 1 = k:=by have:s.data.size = s.size:=rfl; omega
  subst hk
  exact congrArg some e
theorem Lit.chk {s:ByteArray} {n v:Nat} (h:Lit s n v) (hn:0 < n) (hm:n≤65536) (g:Bool) (x:Int) (hx0:-1073741824≤x) (hx1:x≤1073741824) (W:World) :
  Calls Tryz.prog 25 #[.agg #[.bool g,.string s,.int .i64 x]] W fun en W'=>en = .returned (.int .i64 0)∧Below W.heap.size W W':=
 chk_good g s x (by rw [h.sz]; exact hm) (by rw [h.sz]; omega) h.ok h.fst h.lst hx0 hx1 W
theorem lit_1:Lit ⟨#[49]⟩ 1 1:=Lit.mk' rfl (by decide) (by decide) (by decide) rfl
theorem lit_4:Lit ⟨#[52]⟩ 1 4:=Lit.mk' rfl (by decide) (by decide) (by decide) rfl
theorem lit_5:Lit ⟨#[53]⟩ 1 5:=Lit.mk' rfl (by decide) (by decide) (by decide) rfl
theorem lit_25:Lit ⟨#[50,53]⟩ 2 25:=Lit.mk' rfl (by decide) (by decide) (by decide) rfl
theorem lit_95:Lit ⟨#[57,53]⟩ 2 95:=Lit.mk' rfl (by decide) (by decide) (by decide) rfl
theorem lit_125:Lit ⟨#[49,50,53]⟩ 3 125:=Lit.mk' rfl (by decide) (by decide) (by decide) rfl
theorem lit_135:Lit ⟨#[49,51,53]⟩ 3 135:=Lit.mk' rfl (by decide) (by decide) (by decide) rfl
theorem chk_two {s s2:ByteArray} {n v n2 v2:Nat} (h:Lit s n v) (h2:Lit s2 n2 v2) (hn:0 < n) (hm:n≤65536) (hn2:0 < n2) (hm2:n2≤65536) (g:Bool) (x:Int) (g2:Bool) (x2:Int) (hx0:-1073741824≤x) (hx1:x≤1073741824) (hy0:-1073741824≤x2) (hy1:x2≤1073741824) (W:World) :
  Calls Tryz.prog 31 #[.agg #[.bool g,.string s,.int .i64 x],.agg #[.bool g2,.string s2,.int .i64 x2]] W fun en W'=>en = .returned (.int .i64 0)∧Below W.heap.size W W':=
 chk2_o W g s x g2 s2 x2 0 (hide (h.chk hn hm g x hx0 hx1)) (hide (h2.chk hn2 hm2 g2 x2 hy0 hy1))
theorem says_1:Says ⟨#[49]⟩ 1:=⟨[1],rfl,fun d hd=>by simp at hd; omega,⟨by simp,Or.inr rfl⟩,rfl⟩
theorem says_14:Says ⟨#[49,52]⟩ 14:=⟨[1,4],rfl,fun d hd=>by simp at hd; omega,⟨by simp,Or.inl (by decide)⟩,rfl⟩
theorem mk_lit {g:Bool} {N n z:Nat} {x y:Int} {t:ByteArray} (hN:N = n * 10 ^ z) (h10:n % 10≠0) (hS:Says t n) (hy:x+(z:Int) = y) (h1:-1073741824≤y) (h2:y≤1073741824):MkA g N x (.tuple #[.agg #[.bool g,.string t,.int .i64 y],.int .i64 0]):=
 Or.inr ⟨t,n,z,hN,h10,hS,Or.inr ⟨by omega,by rw [hy]⟩⟩
theorem small_top {N:Nat} (h:N < 10 ^ 4):N < tenTop 65536:=Nat.lt_of_lt_of_le h (le_top (by omega))
theorem small_over {N:Nat} (h:N < 10 ^ 4):¬ Over N:=ten_over (n:=4) h (by omega)
theorem rd_lit {g:Bool} {N:Nat} {x:Int} {e:Ending} {g2:Bool} {s2:ByteArray} {x2 e2:Int} (h:RdA g N x e) (hA:MkA g N x (.tuple #[.agg #[.bool g2,.string s2,.int .i64 x2],.int .i64 e2])):e = .returned (.tuple #[.agg #[.bool g2,.string s2,.int .i64 x2],.bool false,.int .i64 e2]):=by
 obtain ⟨g3,s3,x3,e3,h1,h2⟩:=h
 have hV:=h1.uniq hA
 simp only [Value.tuple.injEq,Array.mk.injEq,List.cons.injEq,Value.agg.injEq,Value.bool.injEq,Value.string.injEq,Value.int.injEq,true_and,and_true] at hV
 obtain ⟨⟨rfl,rfl,rfl⟩,rfl⟩:=hV
 exact h2
theorem ans_ok {W:World} {B:Nat} {en:Ending} {m:Nat} (h:Ans W B en m) (hm:¬ Over m):∃ a n c,en = .returned (.tuple #[.agg #[.slice a n c],.int .i64 0])∧Mine W B a n c m:=by
 rcases h with h|⟨_,h⟩
 ·exact h
 ·exact absurd h hm
theorem num_le2 {w:World} {a:Option Addr} {n m:Nat} (h:Num w a n m) (hm:m < 4294967296 ^ 2):n≤2:=by
 obtain ⟨xs,hn,_,hw,hN,hv,_⟩:=h
 rw [← hv] at hm
 have:=(Pl.val_le_len hw hN 2).2 hm
 omega
theorem al_add (W:World):Calls Tryz.prog 9 #[.agg #[.bool false,.string ⟨#[57,53]⟩,.int .i64 (-1)],.agg #[.bool false,.string ⟨#[53]⟩,.int .i64 (-1)]] W fun e W'=>e = .returned (.tuple #[.agg #[.bool false,.string ⟨#[49]⟩,.int .i64 1],.int .i64 0])∧Below W.heap.size W W':=by
 refine (dadd_go false ⟨#[57,53]⟩ (-1) false ⟨#[53]⟩ (-1) (-1) 2 1 2 3 1 0 2 0 (by decide) (by decide) (by decide) (by decide) (by decide) (by decide) (by decide) (by decide) (hide lit_95.ok) (hide lit_5.ok) (hide (chk_two lit_95 lit_5 (by decide) (by decide) (by decide) (by decide) _ _ _ _ (by decide) (by decide) (by decide) (by decide))) (by decide) (hide (by decide)) (hide (by decide)) (by decide) (by decide) (by decide) (by decide) (by decide) (by decide) (by decide) 95 5 (hide (by rw [lit_95.val])) (hide (by rw [lit_5.val])) W).mono ?_
 rintro e W' ⟨V,hV,h,hb⟩
 exact ⟨by rw [h,hV.uniq (Or.inl ⟨rfl,Or.inl ⟨small_top (by decide),mk_lit (n:=1) (z:=2) (y:=1) (by decide) (by decide) says_1 (by decide) (by decide) (by decide)⟩⟩)],hb⟩
theorem al_mul (W:World):Calls Tryz.prog 10 #[.agg #[.bool false,.string ⟨#[50,53]⟩,.int .i64 0],.agg #[.bool true,.string ⟨#[52]⟩,.int .i64 0]] W fun e W'=>e = .returned (.tuple #[.agg #[.bool true,.string ⟨#[49]⟩,.int .i64 2],.int .i64 0])∧Below W.heap.size W W':=
 dmul_go W false ⟨#[50,53]⟩ 0 true ⟨#[52]⟩ 0 25 4 100 true ⟨#[49]⟩ 2 0 true rfl (by decide) (by decide) (by decide) (by decide) (by decide) (by decide) (hide (chk_two lit_25 lit_4 (by decide) (by decide) (by decide) (by decide) _ _ _ _ (by decide) (by decide) (by decide) (by decide)))
  (hide fun W=>by have:=dnum_any false ⟨#[50,53]⟩ 0 lit_25.ok (by decide) (by decide) W; rw [lit_25.val] at this; exact this)
  (hide fun W=>by have:=dnum_any true ⟨#[52]⟩ 0 lit_4.ok (by decide) (by decide) W; rw [lit_4.val] at this; exact this)
  (hide fun W a n c a' n' c' k1 k2=>(mul_any a a' n n' c c' 25 4 W k1 k2).mono fun e W' ⟨k3,k4⟩=>⟨ans_ok k3 (small_over (by decide)),k4⟩)
  (hide (whole_c true 100 (0+0) 2 1 (by decide) (by decide) (by decide) (by decide) (by decide) (Or.inl ⟨small_top (by decide),mk_lit (n:=1) (z:=0) (by decide) (by decide) says_1 (by decide) (by decide) (by decide)⟩)))
theorem cmp_ll (s t:ByteArray):cmpS s t = cmpL s.data.toList t.data.toList:=by unfold cmpS cmpL; rw [ByteArray.toList_eq,ByteArray.toList_eq]
theorem n135:Pl.dval (List.take 2 (digs ⟨#[49,51,53]⟩)) 0+(if gOut 0 false true (cmpS ((⟨#[49,51,53]⟩:ByteArray).extract 2 (⟨#[49,51,53]⟩:ByteArray).size) ⟨#[53]⟩) then 1 else 0) = 14:=by
 have e:(⟨#[49,51,53]⟩:ByteArray).extract 2 (⟨#[49,51,53]⟩:ByteArray).size = ⟨#[53]⟩:=by rfl
 rw [e,cmp_ll]
 rfl
theorem al_round (W:World):Calls Tryz.prog 17 #[.agg #[.bool false,.string ⟨#[49,51,53]⟩,.int .i64 0],.int .i64 2,.int .u8 0] W fun e W'=>e = .returned (.tuple #[.agg #[.bool false,.string ⟨#[49,52]⟩,.int .i64 1],.bool false,.int .i64 0])∧Below W.heap.size W W':=
 dround_go W false ⟨#[49,51,53]⟩ 0 2 0 1 false ⟨#[49,52]⟩ 1 false 0 (by decide) (by decide) (by decide) (by decide) (by decide) (by decide) (hide fun W=>ask_ok W false ⟨#[49,51,53]⟩ 0 2 1 0 (by decide) (by decide) (by decide) (hide (lit_135.chk (by decide) (by decide) _ _ (by decide) (by decide))))
  (hide fun W=>(rounded_A false ⟨#[49,51,53]⟩ 0 0 2 1 3 W (by decide) (by decide) (by decide) (by decide) (by decide) (hide lit_135.ok) (fun _=>rfl) (by decide) true (by decide) 14 (hide n135) (by decide) (by decide)).mono fun e W' ⟨k1,k2⟩=>⟨rd_lit k1 (mk_lit (n:=14) (z:=0) (by decide) (by decide) says_14 (by decide) (by decide) (by decide)),k2⟩)
theorem al_places (W:World):Calls Tryz.prog 18 #[.agg #[.bool true,.string ⟨#[49]⟩,.int .i64 (-9)],.int .i64 3,.int .u8 4] W fun e W'=>e = .returned (.tuple #[.agg #[.bool true,.string ⟨#[49]⟩,.int .i64 (-3)],.bool false,.int .i64 0])∧Below W.heap.size W W':=
 dplaces_go W true ⟨#[49]⟩ (-9) 3 4 6 true ⟨#[49]⟩ (-3) false 0 (by decide) (by decide) (by decide) (by decide) (by decide) (by decide) (hide fun W=>ask_ok W true ⟨#[49]⟩ (-9) 3 0 4 (by decide) (by decide) (by decide) (hide (lit_1.chk (by decide) (by decide) _ _ (by decide) (by decide))))
  (hide fun W=>(rounded_B true ⟨#[49]⟩ (-9) 4 6 W (by decide) (by decide) (by decide) (by decide) (-1) (by decide) (hide fun W=>half_less ⟨#[49]⟩ 6 (by decide) W) 1 (hide (by decide)) (by decide) (by decide)).mono fun e W' ⟨k1,k2⟩=>⟨rd_lit k1 (mk_lit (n:=1) (z:=0) (by decide) (by decide) says_1 (by decide) (by decide) (by decide)),k2⟩)
theorem al_plain (W:World):Calls Tryz.prog 23 #[.agg #[.bool false,.string ⟨#[49,50,53]⟩,.int .i64 (-1)]] W fun e W'=>e = .returned (.tuple #[.string ⟨#[49,50,46,53]⟩,.int .i64 0])∧Below W.heap.size W W':=
 dpl_in false ⟨#[49,50,53]⟩ (-1) ⟨#[]⟩ ⟨#[49,50,53]⟩ 0 4 2 1 ⟨#[49,50]⟩ ⟨#[53]⟩ 2 (by decide) (by decide) (by decide) (by decide) (by decide) (by decide) (by decide) W (by decide) (by decide) (by decide) (by decide) (by decide) (by decide) (by decide) ⟨#[49,50,46,53]⟩ (hide rfl)
  (hide (lit_125.chk (by decide) (by decide) _ _ (by decide) (by decide))) (hide fun W=>sad_df W ⟨#[49,50,53]⟩ (-1) (by decide))
theorem al_ratio (W:World):Calls Tryz.prog 8 #[.agg #[.bool false,.string ⟨#[53]⟩,.int .i64 (-1)]] W fun en W'=>(∃ a n c a' n' c',en = .returned (.tuple #[.agg #[.bool false,.slice a n c,.slice a' n' c'],.int .i64 0])∧Mine W' W.heap.size a n c 1∧Mine W' W.heap.size a' n' c' 2)∧Below W.heap.size W W':=
 drat_ok W false ⟨#[53]⟩ (-1) 0 1 5 1 10 5 1 2 false (by decide) (by decide) (by decide) (by decide) (hide (lit_5.chk (by decide) (by decide) _ _ (by decide) (by decide)))
  (hide fun W=>by have:=dnum_any false ⟨#[53]⟩ (-1) lit_5.ok (by decide) (by decide) W; rw [lit_5.val] at this; exact this)
  (hide fun W=>(pow_any 10 0 W (by decide) (by decide)).mono fun e W' ⟨k3,k4⟩=>⟨ans_ok k3 (small_over (by decide)),k4⟩)
  (hide fun W=>(pow_any 10 1 W (by decide) (by decide)).mono fun e W' ⟨k3,k4⟩=>⟨ans_ok k3 (small_over (by decide)),k4⟩)
  (hide fun W a n c a' n' c' k1 k2=>(mul_any a a' n n' c c' 5 1 W k1 k2).mono fun e W' ⟨k3,k4⟩=>⟨ans_ok k3 (small_over (by decide)),k4⟩)
  (hide fun W a n c a' n' c' k1 k2=>(make_any false a a' n n' c c' 5 10 W k1 k2 (by decide)).mono fun e W' ⟨k3,k4⟩=>⟨by
   rcases k3 with ⟨a,n,c,a',n',c',k3,k5,k6⟩|⟨_,k3|k3⟩
   ·exact ⟨a,n,c,a',n',c',k3,k5,k6⟩
   ·exact absurd k3 (small_over (by decide))
   ·exact absurd k3 (small_over (by decide)),k4⟩)
theorem dalive_any (w:World):Calls Tryz.prog 6 #[] w fun e w'=>e = .returned (.bool true)∧Below w.heap.size w w':=
 alive_law w (hide al_add) (hide al_mul) (hide al_round) (hide al_places) (hide al_plain) (hide al_ratio) (hide fun W a n c k=>low_small a n c 2 W k (num_le2 k (by decide)))
theorem dec_under:Tryz.prog.underlying 23 = some (.struct (Tryz.prog.fieldsOf 23)):=by kernel_rfl
theorem eq_dec (g:Bool) (s:ByteArray) (x:Int) (W:World) :
  (Op.equalIn 10000 23 (.agg #[.bool g,.string s,.int .i64 x]) (.agg #[.bool g,.string s,.int .i64 x])).run Tryz.prog W = .ok true W:=by
 have hs:Tryz.prog.stoodInHeld 23 = false:=by kernel_rfl
 rw [show (10000:Nat) = 9999+1 from rfl,run_equalIn_struct W 9999 _ _ _ dec_under hs]
 simp [go_sem,Op.eqFields]
theorem script_split {α β:Type} (P:Program) (r:Nat) (m:Sem α) (k:α→Sem β):∀ y:β,script P r (m >>= k) [] = some (y,[])→∃ x:α,script P r m [] = some (x,[])∧script P r (k x) [] = some (y,[]):=by
 induction m with
 | pure a=>intro y h; exact ⟨a,rfl,h⟩
 | load _ a k' _=>intro y h; simp [script,bind,Sem.bind] at h
 | store _ a v k' _=>
  intro y h
  simp only [script,bind,Sem.bind] at h
  split at h
  ·simp at h
  ·cases h
 | new o k' _=>
  intro y h
  simp only [script,bind,Sem.bind] at h
  split at h
  ·simp at h
  ·cases h
 | program k' ih=>intro y h; exact ih P y h
 | mark _ k' ih=>intro y h; exact ih y h
 | _=>intro y h; simp [script,bind,Sem.bind] at h
theorem script_fields {P:Program} {r d:Nat} {xs ys:Array Value}:∀ (fs:List Field),script P r (Op.eqFields d xs ys fs) [] = some (true,[]) →
  script P r (forIn fs ((none:Option Bool),()) fun f _=>
   if f.name ≠ "_" then do
    let a ← part f.type xs f.offset
    let b ← part f.type ys f.offset
    let e ← Op.equalIn d f.type a b
    if (!e) = true then pure (ForInStep.done (some false,())) else pure (ForInStep.yield (none,()))
   else pure (ForInStep.yield (none,()))) [] = some ((none,()),[])
 | [],_=>rfl
 | f :: fs,h=>by
  rw [List.forIn_cons]
  by_cases hn : f.name ≠ "_"
  ·rw [Op.eqFields,if_pos hn] at h
   obtain ⟨a,ha,h⟩:=script_split P r _ _ _ h
   obtain ⟨b,hb,h⟩:=script_split P r _ _ _ h
   obtain ⟨e,he,h⟩:=script_split P r _ _ _ h
   cases e with
   | false=>simp [script_pure] at h
   | true=>
    rw [if_neg (by simp)] at h
    rw [script_bind P r _ _ [] (ForInStep.yield (none,())) (by
     rw [if_pos hn,script_bind P r _ _ [] _ ha,script_bind P r _ _ [] _ hb,script_bind P r _ _ [] _ he]; rfl)]
    exact script_fields fs h
  ·rw [Op.eqFields,if_neg hn] at h
   rw [script_bind P r _ _ [] (ForInStep.yield (none,())) (by rw [if_neg hn]; rfl)]
   exact script_fields fs h
theorem script_struct {P:Program} {r:Nat} (d:Nat) (t:TypeId) (xs ys:Array Value) (ht:P.underlying t = some (.struct (P.fieldsOf t))) (hp:P.stoodInHeld t = false)
  (h:script P r (Op.eqFields d xs ys (P.fieldsOf t).toList) [] = some (true,[])):script P r (Op.equalIn (d+1) t (.agg xs) (.agg ys)) [] = some (true,[]):=by
 simp only [Op.equalIn]
 rw [script_bind P r _ _ [] _ (script_under ht)]
 simp only []
 rw [script_bind P r program _ [] P rfl,hp,if_neg (by decide),← Array.forIn_toList,script_bind P r _ _ [] _ (script_fields _ h)]
 rfl
theorem script_eqb {P:Program} {r d:Nat} {t:TypeId} (b:Bool) (h:P.underlying t = some .bool):script P r (Op.equalIn (d+1) t (.bool b) (.bool b)) [] = some (true,[]):=by
 simp only [Op.equalIn]
 rw [script_bind P r _ _ [] _ (script_under h)]
 show script P r (pure (b == b)) [] = _
 rw [beq_self_eq_true]; rfl
theorem script_eqs {P:Program} {r d:Nat} {t:TypeId} (b:ByteArray) (h:P.underlying t = some .string):script P r (Op.equalIn (d+1) t (.string b) (.string b)) [] = some (true,[]):=by
 simp only [Op.equalIn]
 rw [script_bind P r _ _ [] _ (script_under h)]
 show script P r (pure (b == b)) [] = _
 rw [beq_toListBytes,beq_self_eq_true]; rfl
theorem script_eqi {P:Program} {r d:Nat} {t:TypeId} {k:IntKind} (b:Int) (h:P.underlying t = some (.int k)):script P r (Op.equalIn (d+1) t (.int k b) (.int k b)) [] = some (true,[]):=by
 simp only [Op.equalIn]
 rw [script_bind P r _ _ [] _ (script_under h)]
 simp only []
 rw [if_pos trivial,beq_self_eq_true]; rfl
theorem wrU8 {x:Int} (h1:0≤x) (h2:x < 256):IntKind.u8.wrap x = x:=by rw [IntKind.wrap_u8]; omega
theorem script_eqdec {r:Nat} (g:Bool) (s:ByteArray) (x:Int):script Tryz.prog r (binOp .eql 23 (.agg #[.bool g,.string s,.int .i64 x]) (.agg #[.bool g,.string s,.int .i64 x])) [] = some (.bool true,[]):=by
 have hE:script Tryz.prog r (Op.equalIn (9999+1) 23 (.agg #[.bool g,.string s,.int .i64 x]) (.agg #[.bool g,.string s,.int .i64 x])) [] = some (true,[]):=by
  refine script_struct 9999 _ _ _ dec_under (by kernel_rfl) ?_
  have n1 : (Tryz.prog.fieldsOf 23).toList.map (fun f => (f.name, f.type, f.offset)) = [("Neg", 4, 0), ("Digits", 9, 1), ("Exp", 3, 2)] := by kernel_rfl
  generalize (Tryz.prog.fieldsOf 23).toList = fs at n1 ⊢
  rcases fs with _|⟨f1,_|⟨f2,_|⟨f3,_|⟨f4,fs⟩⟩⟩⟩ <;> simp only [List.map_cons,List.map_nil,List.cons.injEq,Prod.mk.injEq,and_true,reduceCtorEq,and_false] at n1
  obtain ⟨⟨a1,a2,a3⟩,⟨b1,b2,b3⟩,c1,c2,c3⟩:=n1
  rw [Op.eqFields,if_pos (by rw [a1]; decide),a2,a3,script_bind Tryz.prog r _ _ [] (.bool g) (by kernel_rfl),script_bind Tryz.prog r _ _ [] (.bool g) (by kernel_rfl),script_bind Tryz.prog r _ _ [] _ (script_eqb g (by kernel_rfl)),if_neg (by decide)]
  rw [Op.eqFields,if_pos (by rw [b1]; decide),b2,b3,script_bind Tryz.prog r _ _ [] (.string s) (by kernel_rfl),script_bind Tryz.prog r _ _ [] (.string s) (by kernel_rfl),script_bind Tryz.prog r _ _ [] _ (script_eqs s (by kernel_rfl)),if_neg (by decide)]
  rw [Op.eqFields,if_pos (by rw [c1]; decide),c2,c3,script_bind Tryz.prog r _ _ [] (.int .i64 x) (by kernel_rfl),script_bind Tryz.prog r _ _ [] (.int .i64 x) (by kernel_rfl),script_bind Tryz.prog r _ _ [] _ (script_eqi x (by kernel_rfl)),if_neg (by decide)]
  rfl
 have hE1:script Tryz.prog r (Op.equal 23 (.agg #[.bool g,.string s,.int .i64 x]) (.agg #[.bool g,.string s,.int .i64 x])) [] = some (true,[]):=by
  unfold Op.equal Op.maxDepth
  rw [show (10000:Nat) = 9999+1 from rfl]
  exact hE
 simp only [binOp]
 rw [script_bind Tryz.prog r (Op.equal _ _ _) _ [] true hE1]
 rfl
theorem cd_drop {l:List UInt8} (h:Cd l) (k:Nat):Cd (l.drop k):=by
 refine ⟨fun a ha=>h.1 a (List.mem_of_mem_drop ha),fun a ha=>h.2 a ?_⟩
 by_cases hk:k < l.length
 ·rw [← ha,List.getLast?_eq_getElem?,List.getLast?_eq_getElem?,List.getElem?_drop,List.length_drop]
  congr 1
  omega
 ·rw [List.drop_eq_nil_of_le (by omega)] at ha
  cases ha
theorem data_from (s:ByteArray) (k:Nat):(s.extract k s.size).data.toList = s.data.toList.drop k:=by
 rw [ByteArray.data_extract,Array.toList_extract,List.extract_eq_take_drop,List.take_of_length_le (by rw [List.length_drop,Array.length_toList]; exact Nat.le_refl _)]
theorem digs_from (s:ByteArray) (k:Nat):digs (s.extract k s.size) = (digs s).drop k:=by
 unfold digs
 rw [data_from,List.map_drop]
theorem alld_from {s:ByteArray} (h:AllD s s.size) (k:Nat):AllD (s.extract k s.size) (s.extract k s.size).size:=alld_mem.2 fun b hb=>by
 rw [data_from] at hb
 exact alld_mem.1 h b (List.mem_of_mem_drop hb)
theorem five_val:valS ⟨#[53]⟩ = 5:=lit_5.val
theorem five_cd:Cd (⟨#[53]⟩:ByteArray).data.toList:=⟨by decide,fun a ha=>by
 have:a = 53:=by simpa using ha.symm
 subst this
 decide⟩
theorem half_val {s:ByteArray} {c:Nat} (hd:AllD s s.size) (hc:Cd s.data.toList) (hs:s.size = c) (h0:0 < c):cmpS s ⟨#[53]⟩ = cmpZ ((valS s:Nat):Int) ((5 * 10 ^ (c - 1):Nat):Int):=by
 have h:=cmpS_val (o1:=0) (o2:=c - 1) hd lit_5.ok hc five_cd (by rw [lit_5.sz]; omega)
 rw [Nat.pow_zero,Nat.mul_one,five_val] at h
 exact h
structure Rnd (s:ByteArray) (g:Bool) (md c Q R:Nat) (up:Bool):Prop where
 val:valS s = Q * 10 ^ c+R
 pos:0 < R
 lt:R < 10 ^ c
 up:up = gOut md g (decide (Q % 2 = 1)) (cmpZ (R:Int) ((5 * 10 ^ (c - 1):Nat):Int))
theorem rounded_num (g:Bool) (s:ByteArray) (x:Int) (md c:Nat) (h:DcOk s x) (hn:s.size≠0) (hmd:md≤4) (hc0:0 < c) (hc1:c≤2147483648) :
  ∃ (Q R:Nat) (up:Bool),Rnd s g md c Q R up∧(Q < 10 ^ (s.size - c))∧∀ W:World,Calls Tryz.prog 56 #[.agg #[.bool g,.string s,.int .i64 x],.int .i64 (c:Int),.int .u8 (md:Int)] W fun e W'=>RdA g (Q+(if up then 1 else 0)) (x+(c:Int)) e∧Below W.heap.size W W':=by
 by_cases hcs:c < s.size
 ·obtain ⟨k,hk⟩:∃ k,k+c = s.size:=⟨s.size - c,by omega⟩
  have hlen:(digs s).length = s.size:=by simp [digs]
  have hrs:(s.extract k s.size).size = c:=by rw [ByteArray.size_extract]; omega
  have hrd:=alld_from h.ok k
  have hrc:Cd (s.extract k s.size).data.toList:=by rw [data_from]; exact cd_drop h.cd k
  obtain ⟨Q,hQ⟩:∃ Q,Pl.dval ((digs s).take k) 0 = Q:=⟨_,rfl⟩
  obtain ⟨R,hR⟩:∃ R,valS (s.extract k s.size) = R:=⟨_,rfl⟩
  have hDs:Pl.Dig (digs s):=h.ok.digS.2.1
  have hval:valS s = Q * 10 ^ c+R:=by
   rw [← hQ,← hR]
   unfold valS
   rw [digs_from]
   have e:=dval_append ((digs s).take k) ((digs s).drop k)
   rw [List.take_append_drop,List.length_drop,hlen,show s.size - k = c by omega] at e
   exact e
  have hRl:R < 10 ^ c:=by
   have:=valS_lt (s.extract k s.size) 0 hrd
   rw [Nat.pow_zero,Nat.mul_one,hR,hrs] at this
   exact this
  have hRp:0 < R:=by rw [← hR]; exact val_pos hrd (by omega) hrc
  obtain ⟨d,hd⟩:∃ d,(digs s)[k - 1]?.getD 0 = d:=⟨_,rfl⟩
  have hd10:d < 10:=by
   rw [← hd,List.getElem?_eq_getElem (by omega)]
   exact hDs _ (List.getElem_mem _)
  have hdd:∀ h':k - 1 < s.size,(s[k - 1]'h').toNat = 48+d:=fun h'=>by rw [h.ok.digS.2.2 (k - 1) h',hd]
  have hQd:Q % 2 = d % 2:=by
   have e:=dval_snoc (digs s) (k - 1) (by omega)
   rw [show k - 1+1 = k by omega,hQ,hd] at e
   omega
  have hcmp:=half_val hrd hrc hrs hc0
  rw [hR] at hcmp
  have ho:((d:Int) % 2 == 1) = decide (Q % 2 = 1):=by
   rw [hQd,Bool.eq_iff_iff,beq_iff_eq,decide_eq_true_iff]
   omega
  refine ⟨Q,R,gOut md g (decide (Q % 2 = 1)) (cmpZ (R:Int) ((5 * 10 ^ (c - 1):Nat):Int)),⟨hval,hRp,hRl,rfl⟩,?_,fun W=>rounded_A g s x md k c d W hk (by omega) hc0 h.sz hmd (hide h.ok) hdd hd10 (decide (Q % 2 = 1)) ho _ (hide (by rw [hQ,hcmp])) h.lo h.hi⟩
  have:=Pl.dval_lt (ds:=(digs s).take k) (fun a ha=>hDs a (List.mem_of_mem_take ha))
  rw [hQ,List.length_take,hlen,Nat.min_eq_left (by omega)] at this
  rw [show s.size - c = k by omega]
  exact this
 ·have hl:=valS_lt s 0 h.ok
  rw [Nat.pow_zero,Nat.mul_one,Nat.add_zero] at hl
  have hRp:0 < valS s:=val_pos h.ok hn h.cd
  have hRl:valS s < 10 ^ c:=Nat.lt_of_lt_of_le hl (Nat.pow_le_pow_right (by decide) (by omega))
  obtain ⟨c5,hc5⟩:∃ c5:Int,c5 = if s.size < c then -1 else cmpS s ⟨#[53]⟩:=⟨_,rfl⟩
  have hcm:c5 = cmpZ ((valS s:Nat):Int) ((5 * 10 ^ (c - 1):Nat):Int):=by
   rw [hc5]
   split
   ·rw [cmpZ_lt]
    have h1:10 ^ s.size≤10 ^ (c - 1):=Nat.pow_le_pow_right (by decide) (by omega)
    omega
   ·exact half_val h.ok h.cd (by omega) hc0
  have h5:c5 = -1∨c5 = 0∨c5 = 1:=by rw [hcm]; exact cmpZ_in _ _
  have HH:Hid (∀ W:World,Calls Tryz.prog 98 #[.string s,.int .i64 (c:Int)] W fun e w'=>e = .returned (.int .i64 c5)∧w' = W):=hide fun W=>by
   rw [hc5]; split
   ·exact half_less s c (by omega) W
   ·exact half_in s c (by omega) W
  refine ⟨0,valS s,gOut md g (decide (0 % 2 = 1)) (cmpZ ((valS s:Nat):Int) ((5 * 10 ^ (c - 1):Nat):Int)),⟨by omega,hRp,hRl,rfl⟩,Nat.pow_pos (by decide),fun W=>?_⟩
  have:=rounded_B g s x md c W (by omega) hc0 hc1 hmd c5 h5 HH _ (hide rfl) h.lo h.hi
  rw [hcm] at this
  rw [Nat.zero_add]
  exact this
theorem says_ok {t:ByteArray} {n:Nat} {y:Int} (h:Says t n) (h10:n % 10≠0) (hn:n < tenTop 65536) (h1:-1073741824≤y) (h2:y≤1073741824):DcOk t y∧valS t = n∧t.size≠0:=by
 have hl:t.size≤65536:=by
  rcases Nat.lt_or_ge 65536 t.size with q|q
  ·exact absurd (says_long h q) (by omega)
  ·exact q
 obtain ⟨ds,hc,hD,⟨l1,l2⟩,hv⟩:=h
 have ht:t = ⟨(chars ds).toArray⟩:=by
  cases t with
  | mk d=>cases d with
   | mk l=>rw [show l = chars ds from hc]
 have hA:AllD t t.size:=by rw [ht]; exact all_chars hD
 have hg:digs t = ds:=by rw [ht]; exact digs_chars hD
 have hvt:valS t = n:=by unfold valS; rw [hg,hv]
 have hs:t.size = ds.length:=by rw [← hg]; simp [digs]
 have h0:0 < t.size:=by
  rw [hs]; exact List.length_pos_iff.2 l1
 have hat:=hA.digS.2.2
 rw [hg] at hat
 have hlast:∀ k,(h:k+1 = t.size)→(t[k]'(by omega)).toNat≠48:=fun k hk=>by
  have e:=dval_snoc ds k (by omega)
  rw [List.take_of_length_le (by omega),hv] at e
  have:=hat k (by omega)
  omega
 refine ⟨⟨hl,hA,h1,h2,fun e=>by omega,fun hh=>?_,cd_of hA hlast⟩,hvt,by omega⟩
 rcases l2 with l2|l2
 ·have:=hat 0 hh
  omega
 ·exact hlast 0 (by omega)
theorem mkA_num {g:Bool} {N:Nat} {x:Int} {g2:Bool} {s2:ByteArray} {x2:Int} (h:MkA g N x (.tuple #[.agg #[.bool g2,.string s2,.int .i64 x2],.int .i64 0])) (hN:N < tenTop 65536) :
  g2 = g∧DcOk s2 x2∧(N = 0∧s2.size = 0∧x2 = 0∨0 < N∧s2.size≠0∧∃ z:Nat,x2 = x+(z:Int)∧N = valS s2 * 10 ^ z):=by
 rcases h with ⟨h0,hV⟩|⟨t,n,z,h1,h10,hS,⟨_,hV⟩|⟨hr,hV⟩⟩
 ·simp only [Value.tuple.injEq,Array.mk.injEq,List.cons.injEq,Value.agg.injEq,Value.bool.injEq,Value.string.injEq,Value.int.injEq,and_true,true_and] at hV
  obtain ⟨rfl,rfl,rfl⟩:=hV
  exact ⟨rfl,⟨by decide,fun j hj=>absurd hj (Nat.not_lt_zero _),by omega,by omega,fun _=>rfl,fun hj=>absurd hj (Nat.not_lt_zero _),⟨(fun a ha=>nomatch ha),(fun a ha=>nomatch ha)⟩⟩,Or.inl ⟨h0,rfl,rfl⟩⟩
 ·simp at hV
 ·simp only [Value.tuple.injEq,Array.mk.injEq,List.cons.injEq,Value.agg.injEq,Value.bool.injEq,Value.string.injEq,Value.int.injEq,and_true,true_and] at hV
  obtain ⟨rfl,rfl,rfl⟩:=hV
  have hp:0 < 10 ^ z:=Nat.pow_pos (by omega)
  have hle:n≤N:=by rw [h1]; exact Nat.le_mul_of_pos_right _ hp
  obtain ⟨k1,k2,k3⟩:=says_ok hS h10 (Nat.lt_of_le_of_lt hle hN) (y:=x+(z:Int)) (by omega) (by omega)
  exact ⟨rfl,k1,Or.inr ⟨by omega,k3,z,rfl,by rw [k2,h1]⟩⟩
theorem tens_of (N:Nat):N≠0→∃ n z:Nat,N = n * 10 ^ z∧n % 10≠0:=by
 induction N using Nat.strongRecOn with
 | ind N ih=>
  intro h0
  by_cases h:N % 10 = 0
  ·obtain ⟨n,z,h1,h2⟩:=ih (N / 10) (by omega) (by omega)
   refine ⟨n,z+1,?_,h2⟩
   rw [Nat.pow_succ,← Nat.mul_assoc,← h1]
   omega
  ·exact ⟨N,0,by simp,h⟩
theorem mkA_ex (g:Bool) (N:Nat) (x:Int):∃ (g2:Bool) (s2:ByteArray) (x2 e2:Int),MkA g N x (.tuple #[.agg #[.bool g2,.string s2,.int .i64 x2],.int .i64 e2]):=by
 by_cases h0:N = 0
 ·exact ⟨_,_,_,_,Or.inl ⟨h0,rfl⟩⟩
 ·obtain ⟨n,z,h1,h2⟩:=tens_of N h0
  obtain ⟨ds,_,hS,_,_⟩:=says_ex n
  by_cases hr:x+(z:Int) < -1073741824∨1073741824 < x+(z:Int)
  ·exact ⟨_,_,_,_,Or.inr ⟨_,n,z,h1,h2,hS,Or.inl ⟨hr,rfl⟩⟩⟩
  ·exact ⟨_,_,_,_,Or.inr ⟨_,n,z,h1,h2,hS,Or.inr ⟨hr,rfl⟩⟩⟩
theorem rounded_fix (g:Bool) (s:ByteArray) (x:Int) (md c:Nat) (h:DcOk s x) (hn:s.size≠0) (hmd:md≤4) (hc0:0 < c) (hc1:c≤2147483648) :
  ∃ (Q R:Nat) (up:Bool) (g2:Bool) (s2:ByteArray) (x2 e2:Int),Rnd s g md c Q R up∧(Q < 10 ^ (s.size - c))∧MkA g (Q+(if up then 1 else 0)) (x+(c:Int)) (.tuple #[.agg #[.bool g2,.string s2,.int .i64 x2],.int .i64 e2])∧∀ W:World,Calls Tryz.prog 56 #[.agg #[.bool g,.string s,.int .i64 x],.int .i64 (c:Int),.int .u8 (md:Int)] W fun e W'=>e = .returned (.tuple #[.agg #[.bool g2,.string s2,.int .i64 x2],.bool false,.int .i64 e2])∧Below W.heap.size W W':=by
 obtain ⟨Q,R,up,h1,h2,h3⟩:=rounded_num g s x md c h hn hmd hc0 hc1
 obtain ⟨g2,s2,x2,e2,hA⟩:=mkA_ex g (Q+(if up then 1 else 0)) (x+(c:Int))
 exact ⟨Q,R,up,g2,s2,x2,e2,h1,h2,hA,fun W=>(h3 W).mono fun e W' ⟨k1,k2⟩=>⟨rd_lit k1 hA,k2⟩⟩
theorem round_num (g:Bool) (s:ByteArray) (x:Int) (n md:Nat) (h:DcOk s x) (hn1:1≤n) (hn2:n≤2000) (hmd:md≤4) (HC:∀ W:World,Calls Tryz.prog 25 #[.agg #[.bool g,.string s,.int .i64 x]] W fun e W'=>e = .returned (.int .i64 0)∧Below W.heap.size W W') :
  (s.size≤n∧∀ W:World,Calls Tryz.prog 17 #[.agg #[.bool g,.string s,.int .i64 x],.int .i64 (n:Int),.int .u8 (md:Int)] W fun e W'=>e = .returned (.tuple #[.agg #[.bool g,.string s,.int .i64 x],.bool true,.int .i64 0])∧Below W.heap.size W W') ∨
  ∃ (c Q R:Nat) (up:Bool) (g2:Bool) (s2:ByteArray) (x2 e2:Int),n+c = s.size∧0 < c∧Rnd s g md c Q R up∧Q < 10 ^ n∧MkA g (Q+(if up then 1 else 0)) (x+(c:Int)) (.tuple #[.agg #[.bool g2,.string s2,.int .i64 x2],.int .i64 e2])∧∀ W:World,Calls Tryz.prog 17 #[.agg #[.bool g,.string s,.int .i64 x],.int .i64 (n:Int),.int .u8 (md:Int)] W fun e W'=>e = .returned (.tuple #[.agg #[.bool g2,.string s2,.int .i64 x2],.bool false,.int .i64 e2])∧Below W.heap.size W W':=by
 have HK:=hide fun W=>ask_ok W g s x (n:Int) 1 md (by omega) (by omega) hmd (hide HC)
 have hsz:=h.sz
 by_cases h4:s.size≤n
 ·exact Or.inl ⟨h4,fun W=>dround_go W g s x n md ((s.size:Int) - n) _ _ _ _ _ h.sz h.lo h.hi (by omega) (by omega) rfl HK (hide fun W=>rounded_none W g s x _ md (by omega) (by omega))⟩
 ·obtain ⟨c,hc⟩:∃ c,n+c = s.size:=⟨s.size - n,by omega⟩
  obtain ⟨Q,R,up,g2,s2,x2,e2,h1,h2,hA,H⟩:=rounded_fix g s x md c h (by omega) hmd (by omega) (by omega)
  rw [show s.size - c = n by omega] at h2
  exact Or.inr ⟨c,Q,R,up,g2,s2,x2,e2,hc,by omega,h1,h2,hA,fun W=>dround_go W g s x n md (c:Int) g2 s2 x2 false e2 h.sz h.lo h.hi (by omega) (by omega) (by omega) HK (hide H)⟩
theorem places_num (g:Bool) (s:ByteArray) (x:Int) (n md:Nat) (h:DcOk s x) (hn2:n≤2000) (hmd:md≤4) (HC:∀ W:World,Calls Tryz.prog 25 #[.agg #[.bool g,.string s,.int .i64 x]] W fun e W'=>e = .returned (.int .i64 0)∧Below W.heap.size W W') :
  (-(n:Int)≤x∧∀ W:World,Calls Tryz.prog 18 #[.agg #[.bool g,.string s,.int .i64 x],.int .i64 (n:Int),.int .u8 (md:Int)] W fun e W'=>e = .returned (.tuple #[.agg #[.bool g,.string s,.int .i64 x],.bool true,.int .i64 0])∧Below W.heap.size W W') ∨
  ∃ (c Q R:Nat) (up:Bool) (g2:Bool) (s2:ByteArray) (x2 e2:Int),x+(c:Int) = -(n:Int)∧0 < c∧Rnd s g md c Q R up∧Q < 10 ^ (s.size - c)∧MkA g (Q+(if up then 1 else 0)) (x+(c:Int)) (.tuple #[.agg #[.bool g2,.string s2,.int .i64 x2],.int .i64 e2])∧∀ W:World,Calls Tryz.prog 18 #[.agg #[.bool g,.string s,.int .i64 x],.int .i64 (n:Int),.int .u8 (md:Int)] W fun e W'=>e = .returned (.tuple #[.agg #[.bool g2,.string s2,.int .i64 x2],.bool false,.int .i64 e2])∧Below W.heap.size W W':=by
 have HK:=hide fun W=>ask_ok W g s x (n:Int) 0 md (by omega) (by omega) hmd (hide HC)
 have hsz:=h.sz
 have hlo:=h.lo
 by_cases h4:-(n:Int)≤x
 ·exact Or.inl ⟨h4,fun W=>dplaces_go W g s x n md (-x - n) _ _ _ _ _ h.sz h.lo h.hi (by omega) (by omega) rfl HK (hide fun W=>rounded_none W g s x _ md (by omega) (by omega))⟩
 ·obtain ⟨c,hc⟩:∃ c:Nat,x+(c:Int) = -(n:Int):=⟨(-(n:Int) - x).toNat,by omega⟩
  have hz:s.size≠0:=fun e=>by have:=h.zero e; omega
  obtain ⟨Q,R,up,g2,s2,x2,e2,h1,h2,hA,H⟩:=rounded_fix g s x md c h hz hmd (by omega) (by omega)
  exact Or.inr ⟨c,Q,R,up,g2,s2,x2,e2,hc,by omega,h1,h2,hA,fun W=>dplaces_go W g s x n md (c:Int) g2 s2 x2 false e2 h.sz h.lo h.hi (by omega) (by omega) (by omega) HK (hide H)⟩
def rdist (c R:Nat) (up:Bool):Nat:=if up then 10 ^ c - R else R
theorem ten_half {c:Nat} (h:0 < c):10 ^ c = 2 * (5 * 10 ^ (c - 1)):=by
 obtain ⟨k,rfl⟩:∃ k,c = k+1:=⟨c - 1,by omega⟩
 rw [Nat.pow_succ,Nat.add_sub_cancel]
 omega
theorem Rnd.dist {s:ByteArray} {g:Bool} {md c Q R:Nat} {up:Bool} (h:Rnd s g md c Q R up) (hc:0 < c) (hmd:md≤4) :
  0 < rdist c R up∧rdist c R up < 10 ^ c ∧
  (up = true→(Q+(if up then 1 else 0)) * 10 ^ c = valS s+rdist c R up) ∧
  (up = false→valS s = (Q+(if up then 1 else 0)) * 10 ^ c+rdist c R up) ∧
  (md = 3→up = !g)∧(md = 4→up = g)∧(md = 2→up = false) ∧
  (md≤1→rdist c R up≤5 * 10 ^ (c - 1)):=by
 obtain ⟨hv,hp,hl,hu⟩:=h
 have ht:=ten_half hc
 unfold rdist
 refine ⟨?_,?_,?_,?_,?_,?_,?_,?_⟩
 ·cases up <;> simp <;> omega
 ·cases up <;> simp <;> omega
 ·rintro rfl
  rw [if_pos rfl,if_pos rfl,hv,Nat.add_mul]
  omega
 ·rintro rfl
  rw [if_neg (by decide),if_neg (by decide),hv,Nat.add_zero]
 ·rintro rfl
  exact hu
 ·rintro rfl
  exact hu
 ·rintro rfl
  exact hu
 ·intro h1
  have h01:md = 0∨md = 1:=by omega
  generalize 5 * 10 ^ (c - 1) = H at *
  have hz:(R < H∧cmpZ (R:Int) (H:Int) = -1)∨(H < R∧cmpZ (R:Int) (H:Int) = 1)∨(R = H∧cmpZ (R:Int) (H:Int) = 0):=by
   unfold cmpZ
   rcases Nat.lt_trichotomy R H with q|q|q
   ·exact Or.inl ⟨q,if_pos (by omega)⟩
   ·exact Or.inr (Or.inr ⟨q,by rw [if_neg (by omega),if_neg (by omega)]⟩)
   ·exact Or.inr (Or.inl ⟨q,by rw [if_neg (by omega),if_pos (by omega)]⟩)
  rcases hz with ⟨q,e⟩|⟨q,e⟩|⟨q,e⟩
  ·have:up = false:=by
    rw [hu,e]
    rcases h01 with rfl|rfl <;> simp [gOut]
   subst this
   simp; omega
  ·have:up = true:=by
    rw [hu,e]
    rcases h01 with rfl|rfl <;> simp [gOut]
   subst this
   simp; omega
  ·cases up <;> simp <;> omega
theorem Rnd.side {s:ByteArray} {g:Bool} {md c Q R:Nat} {up:Bool} (h:Rnd s g md c Q R up) (hc:0 < c) (hmd:md≤4) :
  cmpZ (dvl g ((Q+(if up then 1 else 0)) * 10 ^ c)) (dvl g (valS s)) = if up = g then -1 else 1:=by
 obtain ⟨h1,_,h3,h4,_⟩:=h.dist hc hmd
 generalize rdist c R up = D at *
 cases up
 ·have h5:=h4 rfl
  generalize (Q+(if false = true then 1 else 0)) * 10 ^ c = Y at *
  unfold cmpZ dvl
  cases g
  ·simp; omega
  ·simp; omega
 ·have h5:=h3 rfl
  generalize (Q+(if true = true then 1 else 0)) * 10 ^ c = Y at *
  unfold cmpZ dvl
  cases g
  ·simp; omega
  ·simp; omega
theorem DcOk.lst {s:ByteArray} {x:Int} (h:DcOk s x):∀ k,(hk:k+1 = s.size)→(s[k]'(by omega)).toNat≠48:=fun k hk=>by
 refine h.cd.2 _ ?_
 have hz:s.data.size = s.size:=rfl
 rw [List.getLast?_eq_getElem?,Array.length_toList,List.getElem?_eq_getElem (by rw [Array.length_toList]; omega)]
 have hk2:s.data.size - 1 = k:=by omega
 subst hk2
 rfl
theorem DcOk.chk {s:ByteArray} {x:Int} (h:DcOk s x) (g:Bool) (W:World) :
  Calls Tryz.prog 25 #[.agg #[.bool g,.string s,.int .i64 x]] W fun en W'=>en = .returned (.int .i64 0)∧Below W.heap.size W W':=by
 by_cases h0:s.size = 0
 ·exact dck_z0 W g s x h.sz h0 (h.zero h0)
 ·exact chk_good g s x h.sz h0 h.ok h.fst h.lst h.lo h.hi W
theorem DcOk.two {s:ByteArray} {x:Int} (h:DcOk s x) {s2:ByteArray} {x2:Int} (h2:DcOk s2 x2) (g g2:Bool) (W:World) :
  Calls Tryz.prog 31 #[.agg #[.bool g,.string s,.int .i64 x],.agg #[.bool g2,.string s2,.int .i64 x2]] W fun en W'=>en = .returned (.int .i64 0)∧Below W.heap.size W W':=
 chk2_o W g s x g2 s2 x2 0 (hide (h.chk g)) (hide (h2.chk g2))
def apart (M N:Nat):Nat:=if N < M then M - N else N - M
theorem mkA_near {g:Bool} {D:Nat} {x:Int} {V:Value} (h:MkA g D x V) (h0:D≠0) (hD:D < tenTop 65536) (hx0:-1073741824≤x) (hx1:x≤1000000000) :
  ∃ (s3:ByteArray) (z:Nat),V = .tuple #[.agg #[.bool g,.string s3,.int .i64 (x+(z:Int))],.int .i64 0]∧DcOk s3 (x+(z:Int))∧valS s3 * 10 ^ z = D:=by
 rcases h with ⟨e,_⟩|⟨t,n,z,h1,h10,hS,h⟩
 ·exact absurd e h0
 have hz:z < 65536:=by
  rcases Nat.lt_or_ge z 65536 with q|q
  ·exact q
  ·exfalso
   have a1:=tenTop_le q
   have a2:10 ^ z≤n * 10 ^ z:=Nat.le_mul_of_pos_left _ (by omega)
   omega
 have hle:n≤D:=by rw [h1]; exact Nat.le_mul_of_pos_right _ (Nat.pow_pos (by omega))
 rcases h with ⟨hr,_⟩|⟨hr,hV⟩
 ·omega
 ·obtain ⟨k1,k2,_⟩:=says_ok hS h10 (Nat.lt_of_le_of_lt hle hD) (y:=x+(z:Int)) (by omega) (by omega)
  exact ⟨t,z,hV,k1,by rw [k2,h1]⟩
theorem dif_num (g:Bool) (s:ByteArray) (x:Int) (s2:ByteArray) (x2:Int) (o:Nat) (h:DcOk s x) (h2:DcOk s2 x2) (hs:s.size≠0) (he:s2.size≠0→x2 = x+(o:Int)) (ho:s2.size+o≤65536) (hx1:x≤1000000000) (hne:valS s≠valS s2 * 10 ^ o) (hz2:s2.size = 0→valS s2 = 0) :
  ∃ (g3:Bool) (s3:ByteArray) (z:Nat),DcOk s3 (x+(z:Int))∧valS s3 * 10 ^ z = apart (valS s) (valS s2 * 10 ^ o)∧∀ W:World,Calls Tryz.prog 9 #[.agg #[.bool g,.string s,.int .i64 x],.agg #[.bool (!g),.string s2,.int .i64 x2]] W fun e W'=>e = .returned (.tuple #[.agg #[.bool g3,.string s3,.int .i64 (x+(z:Int))],.int .i64 0])∧Below W.heap.size W W':=by
 have HC:=hide fun W=>h.two h2 g (!g) W
 have hm:=h.sz
 have hm2:=h2.sz
 have hlo:=h.lo
 have hhi:=h.hi
 by_cases hb:s2.size = 0
 ·refine ⟨g,s,0,by simpa using h,?_,fun W=>?_⟩
  ·have hp:=val_pos h.ok hs h.cd
   rw [hz2 hb,Nat.zero_mul]
   unfold apart
   rw [if_pos hp]
   simp
  ·have:=dadd_z2 W g s x (!g) s2 x2 hs hb (by omega) HC
   simpa using this
 ·have hx2:=he hb
  obtain ⟨T,hT⟩:∃ T,s2.size+o = T:=⟨_,rfl⟩
  obtain ⟨n,hn⟩:∃ n:Nat,max (s.size:Int) (T:Int) = (n:Int):=⟨max s.size T,by omega⟩
  obtain ⟨M,hM⟩:∃ M,valS s = M:=⟨_,rfl⟩
  obtain ⟨N,hN⟩:∃ N,valS s2 * 10 ^ o = N:=⟨_,rfl⟩
  have hMl:M < tenTop 65536:=by
   have:=valS_lt s 0 h.ok
   rw [Nat.pow_zero,Nat.mul_one,hM] at this
   exact Nat.lt_of_lt_of_le this (le_top (by omega))
  have hNl:N < tenTop 65536:=by rw [← hN]; exact Nat.lt_of_lt_of_le (valS_lt s2 o h2.ok) (le_top (by omega))
  rw [hM,hN] at hne ⊢
  have D:=fun W=>dadd_go g s x (!g) s2 x2 x s.size T n (1+n) (1+n - s.size) 0 (1+n - T) o hm hm2 h.lo h.hi h2.lo h2.hi hs hb (hide h.ok) (hide h2.ok) HC (by omega) (hide (by omega)) (hide (by omega)) hn (by omega) (by omega) (by omega) (by omega) hT (by omega) M N (hide (by rw [Nat.pow_zero,Nat.mul_one,hM])) (hide hN) W
  obtain ⟨g3,hg3⟩:∃ g3,(if N < M then g else !g) = g3:=⟨_,rfl⟩
  have hA:∀ V,AddA g M (!g) N x V→MkA g3 (apart M N) x V:=by
   intro V hV
   rcases hV with ⟨e,_⟩|⟨_,hV⟩
   ·cases g <;> cases e
   ·rcases hV with ⟨e,_⟩|⟨q,hV⟩|⟨q,hV⟩
    ·exact absurd e hne
    ·unfold apart
     rw [if_pos q,← hg3,if_pos q]
     exact hV
    ·unfold apart
     rw [if_neg (by omega),← hg3,if_neg (by omega)]
     exact hV
  have hD0:apart M N≠0:=by unfold apart; split <;> omega
  have hDl:apart M N < tenTop 65536:=by unfold apart; split <;> omega
  obtain ⟨g4,s4,x4,e4,hE⟩:=mkA_ex g3 (apart M N) x
  obtain ⟨s3,z,hV,hok,hval⟩:=mkA_near hE hD0 hDl h.lo hx1
  refine ⟨g3,s3,z,hok,hval,fun W=>(D W).mono fun e W' ⟨V,k1,k2,k3⟩=>⟨?_,k3⟩⟩
  rw [k2,(hA V k1).uniq hE,hV]
def mirM (md:Nat):Nat:=if md < 3 then md else 7 - md
theorem gOut_mir (md:Nat) (g o:Bool) (c:Int) (h:md≤4):gOut (mirM md) (!g) o c = gOut md g o c:=by
 have h5:md = 0∨md = 1∨md = 2∨md = 3∨md = 4:=by omega
 rcases h5 with rfl|rfl|rfl|rfl|rfl <;> simp [mirM,gOut]
theorem mir_le {md:Nat} (h:md≤4):mirM md≤4:=by unfold mirM; split <;> omega
theorem Rnd.mir {s:ByteArray} {g:Bool} {md c Q R Q2 R2:Nat} {up up2:Bool} (h:Rnd s g md c Q R up) (h2:Rnd s (!g) (mirM md) c Q2 R2 up2) (hmd:md≤4):Q2 = Q∧R2 = R∧up2 = up:=by
 have e:=h.val.symm.trans h2.val
 have l1:=h.lt
 have l2:=h2.lt
 have hQ:Q = Q2:=by
  have a:=congrArg (· / 10 ^ c) e
  simp only [Nat.add_comm (_ * _)] at a
  rw [Nat.add_mul_div_right _ _ (by omega),Nat.add_mul_div_right _ _ (by omega),Nat.div_eq_of_lt l1,Nat.div_eq_of_lt l2] at a
  omega
 subst hQ
 have hR:R = R2:=by omega
 subst hR
 exact ⟨rfl,rfl,by rw [h2.up,h.up,gOut_mir md g _ _ hmd]⟩
theorem mkA_turn {g:Bool} {N:Nat} {x:Int} {g2:Bool} {s2:ByteArray} {x2:Int} (h:MkA g N x (.tuple #[.agg #[.bool g2,.string s2,.int .i64 x2],.int .i64 0])):g2 = g∧MkA (!g) N x (.tuple #[.agg #[.bool (!g),.string s2,.int .i64 x2],.int .i64 0]):=by
 rcases h with ⟨h0,hV⟩|⟨t,n,z,h1,h10,hS,⟨_,hV⟩|⟨hr,hV⟩⟩
 ·simp only [Value.tuple.injEq,Array.mk.injEq,List.cons.injEq,Value.agg.injEq,Value.bool.injEq,Value.string.injEq,Value.int.injEq,and_true,true_and] at hV
  obtain ⟨rfl,rfl,rfl⟩:=hV
  exact ⟨rfl,Or.inl ⟨h0,rfl⟩⟩
 ·simp at hV
 ·simp only [Value.tuple.injEq,Array.mk.injEq,List.cons.injEq,Value.agg.injEq,Value.bool.injEq,Value.string.injEq,Value.int.injEq,and_true,true_and] at hV
  obtain ⟨rfl,rfl,rfl⟩:=hV
  exact ⟨rfl,Or.inr ⟨s2,n,z,h1,h10,hS,Or.inr ⟨hr,rfl⟩⟩⟩
theorem DcOk.low {s:ByteArray} {x:Int} (h:DcOk s x) (h0:s.size≠0):10 ^ (s.size - 1)≤valS s∧valS s % 10≠0:=by
 have hl:(digs s).length = s.size:=by simp [digs]
 have hat:=h.ok.digS.2.2
 constructor
 ·have h0':0 < s.size:=by omega
  have hdl:=hat 0 h0'
  have hne:=h.fst h0'
  unfold valS
  match hds:digs s with
  | []=>rw [hds] at hl; simp at hl; omega
  | d :: r=>
   rw [hds] at hdl hl
   have hd0:d≠0:=fun e=>hne (by simpa [e] using hdl)
   have:=Pl.lead_low (d:=d) (ds:=r) hd0
   rw [show s.size - 1 = r.length by simp at hl; omega]
   exact this
 ·obtain ⟨k,hk⟩:∃ k,k+1 = s.size:=⟨s.size - 1,by omega⟩
  have e:=dval_snoc (digs s) k (by omega)
  rw [List.take_of_length_le (by omega)] at e
  have h1:=hat k (by omega)
  have h2:=h.lst k hk
  have h3:=h.ok.digS.2.1 ((digs s)[k]'(by omega)) (List.getElem_mem _)
  rw [List.getElem?_eq_getElem (by omega),Option.getD_some] at e h1
  unfold valS
  omega
theorem DcOk.few {s:ByteArray} {x:Int} {n z N:Nat} (h:DcOk s x) (hn:1≤n) (hN:N = valS s * 10 ^ z) (hl:N≤10 ^ n):s.size≤n:=by
 rcases Nat.lt_or_ge n s.size with q|q
 ·exfalso
  obtain ⟨h1,h2⟩:=h.low (by omega)
  have h3:10 ^ n≤10 ^ (s.size - 1):=Nat.pow_le_pow_right (by omega) (by omega)
  have h4:valS s≤N:=by rw [hN]; exact Nat.le_mul_of_pos_right _ (Nat.pow_pos (by omega))
  have h5:valS s = 10 ^ n:=by omega
  obtain ⟨k,rfl⟩:∃ k,n = k+1:=⟨n - 1,by omega⟩
  rw [h5,Nat.pow_succ] at h2
  omega
 ·exact q
end Go.Proofs.YtbblodioaedckaaGreat
