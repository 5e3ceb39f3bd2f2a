/- Of what DigitsNamesRow stands on: DcRNou DcRAddW DcAdd DcAddBoth DgTw Alive PwLeaf DgTell DgTensW. -/
import Derived.Test.YtplihgoapiiigaaGreatDoorPaw
import Derived.Test.YtplihgoapiiigaaGreatDoorPad
import Derived.Test.YtplihgoapiiigaaGreatDoorPal
import Derived.Test.YtplihgoapiiigaaGreatDoorPao
import Derived.Test.YtplihgoapiiigaaGreatDoorPag
import Derived.Test.YtplihgoapiiigaaGreatDoorPaj
import Derived.Test.YtplihgoapiiigaaGreatDoorPau
import Derived.Test.YtplihgoapiiigaaGreatDoorPai
import Derived.Test.YtplihgoapiiigaaGreatDoorPah
import Derived.Deep.LoopGhost
import Derived.BigQuiet
import Derived.Lib.BytesEntry
import Derived.Lib.Bytealg
import Derived.Lib.MakeNoZero
import Derived.Laws.CopyRow
import Derived.Shelf.Bits.Mul64
import Derived.Test.YtplihgoapiiigaaGreatDoorPax
import Derived.Test.YtplihgoapiiigaaGreatDoorPba
import Derived.Shelf.Strings.BuilderK
import Derived.Shelf.Strings.Repeat
import Derived.Test.YtplihgoapiiigaaGreatDoorPak
import Derived.Test.YtplihgoapiiigaaGreatDoorPaa
import Derived.Test.YtplihgoapiiigaaGreatDoorPar
import Derived.Deep.RegionWith
import Derived.Test.YtplihgoapiiigaaGreatDoorPaq
import Derived.Test.YtplihgoapiiigaaGreatDoorPan
import Derived.Test.YtplihgoapiiigaaGreatDoorPae
namespace Go.Proofs.YtplihgoapiiigaaGreatDoor
open Go.RowKit
open Go.RowKit Go.Sort Go.Shelf
set_option maxHeartbeats 4000000
set_option maxRecDepth 20000
def noS (n:Nat):ByteArray:=⟨(chars (List.replicate n 0)).toArray⟩
theorem size_noS (n:Nat):(noS n).size = n:=by unfold noS; rw [size_chars,List.length_replicate]
theorem dig_noughts (n:Nat):Pl.Dig (List.replicate n 0):=fun d hd=>by
 rw [List.eq_of_mem_replicate hd]; decide
theorem Num.nil (w:World):Num w none 0 0:=⟨[],rfl,Or.inl rfl,Pl.wf_nil,Pl.norm_nil,rfl,by omega⟩
theorem step_callX {ops:Array Oper} {o:Oper} {a:Act} {w:World} {K:Act→World→Prop} {Q:Exit→Act→World→Prop} {E:Prop} {fn:FuncId} {as9:Array Value} {F:Value→World→Prop} (hg:o.guard = none) (hrun:(execOp a.eval o).run Tryz.prog w = .ok (.enter fn as9) w)
  (hc:Calls Tryz.prog fn as9 w fun e w'=>∃ v,e = .returned v∧F v w') (hK:∀ v w',F v w'→K (a.put o.dst v) w'):if Region.wanted o (yielded ops a.tmps) = true then Oper.wp Tryz.prog o a w K Q else E:=by
 rw [if_pos (by simp [Region.wanted,hg])]
 unfold Oper.wp
 rw [hrun,Oper.upon_enter]
 exact hc.mono fun e w' ⟨v,h,hb⟩=>by subst h; exact hK v w' hb
def tenTop (n:Nat):Nat:=10 ^ n
theorem le_top {k n:Nat} (h:k≤n):10 ^ k≤tenTop n:=Nat.pow_le_pow_right (by omega) h
theorem told_val (s:ByteArray) (o z:Nat) (hd:AllD s s.size):Pl.dval (List.replicate o 0 ++ digs s ++ List.replicate z 0) 0 = valS s * 10 ^ z∧Pl.Dig (List.replicate o 0 ++ digs s ++ List.replicate z 0)∧(List.replicate o 0 ++ digs s ++ List.replicate z 0).length = o+s.size+z∧valS s * 10 ^ z < 10 ^ (s.size+z):=by
 have hl:(digs s).length = s.size:=by simp [digs]
 have hD:Pl.Dig (digs s):=hd.digS.2.1
 refine ⟨?_,?_,?_,?_⟩
 ·rw [dval_append,dval_append,dval_noughts,dval_noughts,List.length_replicate,Nat.zero_mul,Nat.zero_add,Nat.add_zero]; rfl
 ·intro d h
  rw [List.mem_append,List.mem_append] at h
  rcases h with (h|h)|h
  ·rw [List.eq_of_mem_replicate h]; omega
  ·exact hD d h
  ·rw [List.eq_of_mem_replicate h]; omega
 ·simp only [List.length_append,List.length_replicate,hl]
 ·have:=Pl.dval_lt hD
  rw [hl] at this
  rw [Nat.pow_add]
  exact Nat.mul_lt_mul_of_pos_right this (Nat.pow_pos (by omega))
theorem tenTop_le {k n:Nat} (h:n≤k):tenTop n≤10 ^ k:=Nat.pow_le_pow_right (by omega) h
theorem alld_mem {u:ByteArray}:AllD u u.size↔∀ b,b∈u.data.toList→48≤b.toNat∧b.toNat≤57:=by
 constructor
 ·intro h b hb
  obtain ⟨j,hj,rfl⟩:=List.getElem_of_mem hb
  exact h j (by simpa using hj) (by simpa using hj)
 ·intro h j hj _
  exact h _ (List.getElem_mem (l:=u.data.toList) (n:=j) (by simpa using hj))
theorem data_cat (s t:ByteArray):(s ++ t).data.toList = s.data.toList ++ t.data.toList:=by simp
theorem valS_lt (s:ByteArray) (z:Nat) (hd:AllD s s.size):valS s * 10 ^ z < 10 ^ (s.size+z):=(told_val s 0 z hd).2.2.2
def dgRen:Go.Shelf.Ren where
 f:=fun k=>match k with
  | 99=>121
  | 105=>101
  | 165=>122
  | 166=>72
  | 169=>78
  | 170=>123
  | 206=>136
  | 212=>120
  | 240=>98
  | 241=>137
  | 263=>134
  | 264=>135
  | 276=>117
  | 277=>149
  | _=>0
 t:=fun k=>match k with
  | 0=>0
  | 3=>3
  | 4=>4
  | 5=>5
  | 9=>9
  | 20=>20
  | 37=>86
  | 46=>59
  | 51=>74
  | 53=>28
  | 70=>109
  | 72=>111
  | 75=>114
  | 76=>115
  | 80=>124
  | 109=>153
  | 127=>147
  | 146=>166
  | 148=>168
  | 164=>150
  | _=>0
 g:=fun k=>match k with
  | _=>0
theorem dg_lays:Lays.n105 Tryz.prog dgRen:=by
 constructor
 all_goals first
  | kernel_rfl
  | (intro w; kernel_rfl)
  | (constructor <;> first|kernel_rfl|(intro w; kernel_rfl))
theorem dg_extra:Builder.Extra Tryz.prog dgRen:=by
 constructor
 all_goals first
  | kernel_rfl
  | (intro w; kernel_rfl)
  | decide
  | (constructor <;> first|kernel_rfl|(intro w; kernel_rfl)|decide)
theorem dg_repeat (z:Nat) (hz:z≤100000) (W:World):Calls Tryz.prog 101 #[.string ⟨#[48]⟩,.int .i64 (z:Int)] W fun e W'=>e = .returned (.string (noS z))∧Below W.heap.size W W':=by
 have h:=Any.strings_Repeat dg_lays dg_extra ⟨#[48]⟩ z W (by omega) (by show 1 * z≤_; omega)
 have e:∀ k,(Lib.repeatL [48] k:List UInt8) = chars (List.replicate k 0):=fun k=>by
  induction k with
  | zero=>rfl
  | succ k ih=>rw [Lib.repeatL,ih,List.replicate_succ]; rfl
 have e2:(⟨(Lib.repeatL (⟨#[48]⟩:ByteArray).data.toList z).toArray⟩:ByteArray) = noS z:=by
  show (⟨(Lib.repeatL [48] z).toArray⟩:ByteArray) = noS z
  rw [e z]; rfl
 rw [e2] at h
 exact h
theorem dg_cat {s t:ByteArray} (hs:AllD s s.size) (ht:AllD t t.size):AllD (s ++ t) (s ++ t).size∧(s ++ t).size = s.size+t.size∧valS (s ++ t) = valS s * 10 ^ t.size+valS t:=by
 refine ⟨alld_mem.2 fun b hb=>?_,by rw [ByteArray.size_append],?_⟩
 ·rw [data_cat,List.mem_append] at hb
  rcases hb with hb|hb
  ·exact alld_mem.1 hs b hb
  ·exact alld_mem.1 ht b hb
 ·have e:digs (s ++ t) = digs s ++ digs t:=by
   unfold digs
   rw [data_cat,List.map_append]
  have hl:(digs t).length = t.size:=by simp [digs]
  unfold valS
  rw [e,dval_append,hl]
theorem dg_noS (z:Nat):AllD (noS z) (noS z).size∧(noS z).size = z∧valS (noS z) = 0:=by
 refine ⟨all_chars (dig_noughts z),size_noS z,?_⟩
 have e2:digs (noS z) = List.replicate z 0:=digs_chars (dig_noughts z)
 unfold valS
 rw [e2]
 refine dval_zero_of fun j hj=>?_
 have hj':j < z:=by simpa using hj
 simp [hj']
theorem dg_low:∀ (k u:Nat),Lib.nDigits u = k+1→10≤u→10 ^ k≤u
 | 0,u,_,h=>by simp; omega
 | k+1,u,h,h10=>by
  rw [Lib.nDigits_big (by omega)] at h
  rcases Nat.lt_or_ge (u / 10) 10 with h9|h9
  ·rw [Lib.nDigits_small h9] at h
   have:k = 0:=by omega
   subst this
   simp; omega
  ·have h1:=dg_low k (u / 10) (by omega) h9
   rw [Nat.pow_succ]
   omega
theorem dg_size {t:ByteArray} {m n:Nat} (ht:t = ⟨(Lib.decDigits m).toArray⟩) (hm:m < 10 ^ n) (hn:1≤n):t.size≤n:=by
 rw [ht]
 show (Lib.decDigits m).toArray.size≤n
 rw [List.size_toArray,Lib.decDigits_length]
 rcases Nat.lt_or_ge n (Lib.nDigits m) with h|h
 ·have h1:=Lib.nDigits_pos m
  obtain ⟨k,hk⟩:∃ k,Lib.nDigits m = k+1:=⟨Lib.nDigits m - 1,by omega⟩
  have h2:10 ^ k≤m:=by
   rcases Nat.lt_or_ge m 10 with h9|h9
   ·rw [Lib.nDigits_small h9] at h; omega
   ·exact dg_low k m hk h9
  have h3:10 ^ n≤10 ^ k:=Nat.pow_le_pow_right (by decide) (by omega)
  omega
 ·exact h
theorem dg_fmt (m n:Nat) (hu:m < 18446744073709551616) (hm:m < 10 ^ n) (hn:1≤n):∃ t:ByteArray,t.size≤n∧AllD t t.size∧valS t = m∧∀ w:World,Tpw w→Calls Tryz.prog 100 #[.int .u64 (m:Int),.int .i64 10] w fun e w'=>e = .returned (.string t)∧Below w.heap.size w w':=by
 obtain ⟨h1,h2⟩:=decd_facts m
 refine ⟨⟨(Lib.decDigits m).toArray⟩,dg_size rfl hm hn,?_,h2,fun w ht=>fmtU m hu w ht⟩
 intro j hj _
 exact h1 _ (List.getElem_mem (l:=Lib.decDigits m) (by simpa [ByteArray.size] using hj))
theorem block_lt' {W:World} {k:Nat} {o:Obj} (h:W.heap[k]? = some o):k < W.heap.size:=(Array.getElem?_eq_some_iff.1 h).1
def Wr (B b:Nat) (W W':World):Prop:=Below B W W'∧Lib.OthersKept 5 (some b) W W'
theorem Wr.trans {B b:Nat} {W W' W2:World} (h:Wr B b W W') (h2:Wr B b W' W2):Wr B b W W2:=⟨h.1.trans h2.1,h.2.trans h2.2⟩
theorem Wr.of {B b:Nat} {W W':World} (h:Below W.heap.size W W') (hB:B≤W.heap.size):Wr B b W W':=⟨h.mono hB,fun k _ hk _ _=>(h.block k (block_lt' hk)).trans hk⟩
structure Tw (B b r f:Nat) (F:Value) (l:List UInt8) (W:World):Prop where
 bld:Lib.IsBuilderF 111 5 B b (Lib.byteCells l) W
 run:W.heap[r]? = some (.cells #[.int .i64 0] 70 (0,0))
 fn:W.heap[f]? = some (.cells #[F] 112 (0,0))
 tp:∀ W',Below B W W'→Tpw W'
 sz:B≤W.heap.size
theorem bldAt_kept {T e:TypeId} {B b:Nat} {p:Value} {bs:List Value} {W W':World} (h:Lib.BuilderAtF T e B b p bs W) (hb:Below W.heap.size W W'):Lib.BuilderAtF T e B b p bs W':=by
 obtain ⟨h1,v,h2,h3,h4⟩:=h
 refine ⟨h1,v,(hb.block _ (block_lt h2)).trans h2,⟨h3.1,?_⟩,h4⟩
 rcases h3.2 with hn|⟨g,cap,cur,fz,rfl,hg,hgg,rest⟩
 ·exact .inl hn
 ·exact .inr ⟨g,cap,cur,fz,rfl,hg,(hb.block _ (block_lt hgg)).trans hgg,rest⟩
theorem bld_kept {T e:TypeId} {B b:Nat} {bs:List Value} {W W':World} (h:Lib.IsBuilderF T e B b bs W) (hb:Below W.heap.size W W'):Lib.IsBuilderF T e B b bs W':=
 h.imp (fun h=>bldAt_kept h hb) (fun h=>bldAt_kept h hb)
theorem Tw.kept {B b r f:Nat} {F:Value} {l:List UInt8} {W W':World} (h:Tw B b r f F l W) (hb:Below W.heap.size W W'):Tw B b r f F l W':=
 ⟨bld_kept h.bld hb,(hb.block _ (block_lt h.run)).trans h.run,(hb.block _ (block_lt h.fn)).trans h.fn,fun W2 h2=>h.tp W2 ((hb.mono h.sz).trans h2),Nat.le_trans h.sz hb.size⟩
theorem Tw.blk {B b r f:Nat} {F:Value} {l:List UInt8} {W:World} (h:Tw B b r f F l W):∃ p v,W.heap[b]? = some (.cells #[p,v] 111 (0,0)):=by
 rcases h.bld with ⟨_,v,h,_⟩|⟨_,v,h,_⟩ <;> exact ⟨_,_,h⟩
theorem Tw.write {B b r f:Nat} {F:Value} {l l':List UInt8} {W W':World} (h:Tw B b r f F l W) (hb:Lib.IsBuilderF 111 5 B b (Lib.byteCells l') W') (hw:Wr B b W W'):Tw B b r f F l' W':=by
 obtain ⟨p,v,hbk⟩:=h.blk
 obtain ⟨h1,h2⟩:=hw
 refine ⟨hb,h2 r _ h.run ?_ ?_,h2 f _ h.fn ?_ ?_,fun W2 h3=>h.tp W2 (h1.trans h3),Nat.le_trans h.sz h1.size⟩
 ·intro e; cases e
  have:=hbk.symm.trans h.run
  injection this with this; injection this with _ this; exact absurd this (by decide)
 ·intro c fz e; injection e with _ e; exact absurd e (by decide)
 ·intro e; cases e
  have:=hbk.symm.trans h.fn
  injection this with this; injection this with _ this; exact absurd this (by decide)
 ·intro c fz e; injection e with _ e; exact absurd e (by decide)
theorem Tw.mine {B b r f:Nat} {F:Value} {l:List UInt8} {W W':World} (h:Tw B b r f F l W) (hw:Wr B b W W') {a:Option Addr} {n c m:Nat} (hm:Mine W 0 a n c m):Mine W' 0 a n c m:=by
 obtain ⟨p,v,hbk⟩:=h.blk
 obtain ⟨-,h2⟩:=hw
 obtain ⟨xs,h3,h4,h5⟩:=hm
 refine ⟨xs,h3,?_,h5⟩
 rcases h4 with h4|⟨g,cap,cur,e,hg,hh,rest⟩
 ·exact Or.inl h4
 ·refine Or.inr ⟨g,cap,cur,e,hg,h2 g _ hh ?_ ?_,rest⟩
  ·intro e; cases e
   have:=hbk.symm.trans hh
   injection this with this; injection this with _ this; exact absurd this (by decide)
  ·intro c fz e; injection e with _ e; exact absurd e (by decide)
theorem Tw.box {B b r f:Nat} {F:Value} {l:List UInt8} {W W':World} (h:Tw B b r f F l W) (hw:Wr B b W W') {k:Nat} {cs:Array Value} {t:TypeId} (hk:W.heap[k]? = some (.cells cs t (0,0))) (h1:t≠111) (h2:t≠5):W'.heap[k]? = some (.cells cs t (0,0)):=by
 obtain ⟨p,v,hbk⟩:=h.blk
 refine hw.2 k _ hk ?_ ?_
 ·intro e; cases e
  have:=hbk.symm.trans hk
  injection this with this; injection this with _ this; exact absurd this.symm h1
 ·intro c fz e; injection e with _ e; exact absurd e h2
theorem dg_write {B b r f:Nat} {F:Value} {l:List UInt8} {W:World} (h:Tw B b r f F l W) (s:ByteArray) (hl:l.length+s.size≤1000000) :
  Calls Tryz.prog 72 #[.pointer (some ⟨b,0,none⟩),.string s] W fun e W'=>e = .returned (.tuple #[.int .i64 (s.size:Int),.nilIface])∧Tw B b r f F (l ++ s.data.toList) W'∧Wr B b W W':=
 (Any.Builder_WriteString_k { dg_lays with } dg_extra B b (Lib.byteCells l) s W h.bld (by rw [Lib.byteCells_length]; omega) h.sz).mono fun _ _ ⟨h1,h2,h3,h4⟩=>
  ⟨h1,h.write (by rw [Lib.byteCells_append,← Lib.strCells_eq]; exact Or.inr h2) ⟨h3,h4⟩,h3,h4⟩
theorem dg_string {B b r f:Nat} {F:Value} {l:List UInt8} {W:World} (h:Tw B b r f F l W) (h0:l≠[]) :
  Calls Tryz.prog 78 #[.pointer (some ⟨b,0,none⟩)] W fun e W'=>e = .returned (.string ⟨l.toArray⟩)∧Tw B b r f F l W'∧Below B W W':=
 (Any.Builder_String_k { dg_lays with } dg_extra B b l W h.bld h0).mono fun _ _ ⟨h1,h2,h3,h4⟩=>⟨h1,h.write h2 ⟨h3,h4⟩,h3⟩
theorem Ans.ok {w:World} {base:Nat} {e:Ending} {m:Nat} (h:Ans w base e m) (hn:¬ Over m):∃ a n cap,e = .returned (.tuple #[.agg #[.slice a n cap],.int .i64 0])∧Mine w base a n cap m:=by
 rcases h with h|⟨_,h⟩
 ·exact h
 ·exact absurd h hn
theorem Num.one {w:World} {a:Option Addr} {n m:Nat} (h:Num w a n m) (h0:0 < m) (h1:m < 4294967296):n = 1:=by
 have hz:=h.zero
 obtain ⟨xs,hn,_,hw,hN,hv,_⟩:=h
 have:=(Pl.val_le_len hw hN 1).2 (by rw [hv]; simpa using h1)
 omega
theorem Num.drew {w:World} {a:Option Addr} {n m:Nat} (h:Num w a n m):Num w.drew a n m:=h
theorem Mine.drew {w:World} {base:Nat} {a:Option Addr} {n cap m:Nat} (h:Mine w base a n cap m):Mine w.drew base a n cap m:=h
theorem Box.drew {w:World} {p:Nat} {v:Value} (h:Box w p v):Box w.drew p v:=h
theorem over_two {v e:Nat} (h:v < 2 ^ e) (he:e≤524288):¬ Over v:=fun o=>by
 have h1:=o.le
 rw [show 4294967296 ^ Pl.top = 2 ^ (32 * Pl.top) by rw [Nat.pow_mul]] at h1
 have h3:e≤32 * Pl.top:=by have:=Pl.top_eq; omega
 exact absurd (Nat.lt_of_lt_of_le h (Nat.pow_le_pow_right (by decide) h3)) (Nat.not_lt.2 h1)
theorem npow_is {b j v e:Nat} (hv:b ^ j = v) (he:v < 2 ^ e) (he2:e≤524288) (hb:b < 4294967296) (hj:j < 9223372036854775808) (W:World) :
  Calls Tryz.prog 33 #[.int .u32 (b:Int),.int .i64 (j:Int)] W fun en W'=>(∃ a n c,en = .returned (.tuple #[.agg #[.slice a n c],.int .i64 0])∧Mine W' W.heap.size a n c v)∧Below W.heap.size W W':=by
 subst hv
 exact (pow_any b j W hb hj).mono fun e W' ⟨h1,h2⟩=>⟨h1.ok (over_two he he2),h2⟩
theorem nbits_is {m k:Nat} (hk:Bl m k) (W:World) (a:Option Addr) (n c:Nat) (h:Num W a n m) :
  Calls Tryz.prog 77 #[.agg #[.slice a n c]] W fun en W'=>en = .returned (.tuple #[.int .i64 (k:Int),.int .i64 0])∧Below W.heap.size W W':=
 (bits_any a n c m W h).mono fun e W' ⟨⟨k',h1,h2,_⟩,hb⟩=>⟨by rw [h1,h2.uniq hk],hb⟩
theorem nup_is {m k v e:Nat} (hv:m * 2 ^ k = v) (he:v < 2 ^ e) (he2:e≤524288) (hk:k < 9223372036854775808) (W:World) (a:Option Addr) (n c:Nat) (h:Num W a n m) :
  Calls Tryz.prog 35 #[.agg #[.slice a n c],.int .i64 (k:Int)] W fun en W'=>(∃ a n c,en = .returned (.tuple #[.agg #[.slice a n c],.int .i64 0])∧Mine W' W.heap.size a n c v)∧Below W.heap.size W W':=by
 subst hv
 exact (up_any a n c m k W h hk).mono fun e W' ⟨h1,h2⟩=>⟨h1.ok (over_two he he2),h2⟩
theorem ndiv_is {m d:Nat} (hd:d≠0) (W:World) (a:Option Addr) (n c:Nat) (a':Option Addr) (n' c':Nat) (h:Num W a n m) (h':Num W a' n' d) :
  Calls Tryz.prog 75 #[.agg #[.slice a n c],.agg #[.slice a' n' c']] W fun en W'=>(∃ a n c a' n' c',en = .returned (.tuple #[.agg #[.slice a n c],.agg #[.slice a' n' c'],.int .i64 0])∧Mine W' W.heap.size a n c (m / d)∧Mine W' W.heap.size a' n' c' (m % d))∧Below W.heap.size W W':=by
 refine (div_any a a' n n' c c' m d W h h').mono fun e W' ⟨h1,h2⟩=>⟨?_,h2⟩
 rcases h1 with ⟨h0,_⟩|⟨_,h3⟩
 ·exact absurd h0 hd
 ·exact h3
theorem dshort_is (w:World) (a:Option Addr) (n c m size z:Nat) (t:ByteArray) (h:Num w a n m) (hn2:n≤2) (ht:Tpw w) (hz:t.size+z = size) (hs:size≤1000) (HF:Hid (∀ W:World,Tpw W→Calls Tryz.prog 100 #[.int .u64 (m:Int),.int .i64 10] W fun e W'=>e = .returned (.string t)∧Below W.heap.size W W')) :
  Calls Tryz.prog 73 #[.agg #[.slice a n c],.int .i64 (size:Int)] w fun en w'=>en = .returned (.string (noS z ++ t))∧Below w.heap.size w w':=by
 refine calls_sym Tryz.func73 rfl (by kernel_rfl) fun T hK=>?_
 replace hK:Kn T _ [(0,.agg #[.slice a n c]),(1,.int .i64 (size:Int))]:=hK
 have hS:=Fb.begin w
 have hG:GsAt [gN a n m] w:=⟨h,trivial⟩
 refine wq hS hG hK (fun p1=>[.n 2 #[.slice a n c] 42,.v 4 (.string { data:=#[] })]) (fun p1=>[(1,.int .i64 (size:Int)),(2,pT (p1 0).N 0),(4,.string { data:=#[] })]) (fun p1=>?_) (fun p1 W1 T hF hK=>?_)
 ·refine okn ?_
  refine okv ?_
  exact ok_nil
 replace hS:=SymF.fc hS hF [1000] [⟨(p1 0).N,#[.slice a n c],42,true⟩]
 replace hG:=hF.gx
 clear hF
 refine wq hS hG hK (fun p2=>[.l 9 (.agg #[.slice a n c]) 0 0,.c (some 10) (cV (.tuple #[.int .u64 (m:Int),.bool true])),.v 8 (.tuple #[.int .u64 (m:Int),.bool true]),.v 11 (.int .u64 (m:Int)),.v 12 (.bool true),.v 5 (.int .u64 (m:Int)),.v 6 (.bool true)]) (fun p2=>[(1,.int .i64 (size:Int)),(4,.string { data:=#[] }),(5,.int .u64 (m:Int))]) (fun p2=>?_) (fun p2 W2 T hF hK=>?_)
 ·refine okl ?_
  refine okc (fun W cx=>as_v (low_small a n c m _ (cx.G.1) hn2)) ?_
  iterate 5 refine okv ?_
  exact ok_nil
 replace hS:=SymF.fc hS hF [] []
 replace hG:=hF.gx
 clear hF
 refine wq hS hG hK (fun p3=>[.v 13 (.int .u64 (m:Int)),.c (some 14) (cV (.string t)),.v 7 (.string t)]) (fun p3=>[(1,.int .i64 (size:Int)),(4,.string { data:=#[] }),(7,.string t)]) (fun p3=>?_) (fun p3 W3 T hF hK=>?_)
 ·refine okv ?_
  refine okc (fun W cx=>as_v (unhide HF _ (ht.kept cx.fr))) ?_
  refine okv ?_
  exact ok_nil
 obtain ⟨hS,hG⟩:=SymF.fg hS hF
 clear hF
 refine wq hS hG hK (fun p4=>[.v 15 (.int .i64 (size:Int)),.v 16 (.string t),.v 17 (.int .i64 (t.size:Int)),.v 18 (.int .i64 (z:Int)),.c (some 19) (cV (.string (noS z))),.v 20 (.string t),.v 21 (.string (noS z ++ t)),.v 4 (.string (noS z ++ t))]) (fun p4=>[(4,.string (noS z ++ t))]) (fun p4=>?_) (fun p4 W4 T hF hK=>?_)
 ·iterate 3 refine okv ?_
  refine okvi ((wr64 (x:=(size:Int) - (t.size:Int)) (by omega) (by omega)).trans (by omega)) ?_
  refine okc (fun W cx=>as_v (dg_repeat z (by omega) _)) ?_
  refine okv ?_
  refine ok_vr (script_cat (by rw [size_noS]; omega)) (by kernel_rfl) ?_
  refine okv ?_
  exact ok_nil
 obtain ⟨hS,hG⟩:=SymF.fg hS hF
 clear hF
 refine wp_ret ?_
 exact sym_end hS hK (.string (noS z ++ t)) [] [] (by kernel_rfl) (by kernel_rfl) ⟨rfl,hS.fr⟩
theorem dtell_short (w:World) (b r f B:Nat) (F:Value) (l:List UInt8) (a:Option Addr) (n c m size:Nat) (t:ByteArray) (hT:Hid (Tw B b r f F l w)) (hl:l.length+t.size≤1000000) (hs:size≤19) (h:Num w a n m) (HS:Hid (∀ (W:World) (a:Option Addr) (n c:Nat),Tpw W→Num W a n m→Calls Tryz.prog 73 #[.agg #[.slice a n c],.int .i64 (size:Int)] W fun e W'=>e = .returned (.string t)∧Below W.heap.size W W')) :
  Calls Tryz.prog 71 #[.agg #[.slice a n c],.int .i64 (size:Int),.pointer (some ⟨b,0,none⟩),.pointer (some ⟨r,0,none⟩),.pointer (some ⟨f,0,none⟩)] w fun en w'=>en = .returned (.tuple #[])∧Tw B b r f F (l ++ t.data.toList) w'∧Wr B b w w':=by
 refine calls_sym Tryz.func71 rfl (by kernel_rfl) fun T hK=>?_
 replace hK:Kn T _ [(0,.agg #[.slice a n c]),(1,.int .i64 (size:Int)),(2,.pointer (some ⟨b,0,none⟩)),(3,.pointer (some ⟨r,0,none⟩)),(4,.pointer (some ⟨f,0,none⟩))]:=hK
 have hS:=Fb.begin w
 have hG:GsAt [gN a n m] w:=⟨h,trivial⟩
 refine wq hS hG hK (fun p1=>[.n 5 #[.slice a n c] 42]) (fun p1=>[(1,.int .i64 (size:Int)),(2,.pointer (some ⟨b,0,none⟩)),(3,.pointer (some ⟨r,0,none⟩)),(4,.pointer (some ⟨f,0,none⟩)),(5,pT (p1 0).N 0)]) (fun p1=>?_) (fun p1 W1 T hF hK=>?_)
 ·refine okn ?_
  exact ok_nil
 replace hS:=SymF.fc hS hF [1000] [⟨(p1 0).N,#[.slice a n c],42,true⟩]
 replace hG:=hF.gx
 clear hF
 refine wp_seq ?_
 refine wq hS hG hK (fun p2=>[.v 10 (.int .i64 (size:Int)),.v 11 (.bool true)]) (fun p2=>[(1,.int .i64 (size:Int)),(2,.pointer (some ⟨b,0,none⟩)),(3,.pointer (some ⟨r,0,none⟩)),(4,.pointer (some ⟨f,0,none⟩)),(5,pT (p1 0).N 0),(11,.bool true)]) (fun p2=>?_) (fun p2 W2 T hF hK=>?_)
 ·refine okv ?_
  refine okvb (decide_eq_true (show (size:Int)≤19 by omega)) ?_
  exact ok_nil
 obtain ⟨hS,hG⟩:=SymF.fg hS hF
 clear hF
 refine wp_cond_true (hK.ew 11) (wp_seq ?_)
 refine wp_symZ hS hG hK (fun p3=>[.l 12 (.agg #[.slice a n c]) 0 0,.v 13 (.int .i64 (size:Int)),.c (some 14) (cV (.string t)),.v 15 (.tuple #[.int .i64 (t.size:Int),.nilIface])]) (fun p3=>[(1,.int .i64 (size:Int)),(3,.pointer (some ⟨r,0,none⟩)),(4,.pointer (some ⟨f,0,none⟩)),(5,pT (p1 0).N 0),(11,.bool true)]) (by kernel_rfl) (fun _ _=>by kernel_rfl) (fun _=>by kernel_rfl) (fun _=>by kernel_rfl) 3 15 (fun _=>.tuple #[.int .i64 (t.size:Int),.nilIface]) 72 (fun p3=>#[.pointer (some ⟨b,0,none⟩),.string t]) (by kernel_rfl) (fun _=>rfl) (fun _=>by kernel_rfl) (fun p3=>?_) (fun p3 W3 hF=>?_)
 ·refine okl ?_
  refine okv ?_
  refine okc (fun W cx=>as_v (unhide HS _ a n c (((unhide hT).kept cx.fr).tp _ (Below.refl _ _)) (cx.G.1))) ?_
  exact ok_nil
 obtain ⟨hS,hG⟩:=SymF.fg hS hF
 clear hF hK
 have hT1:=(unhide hT).kept hS.fr
 have hw1:Wr B b w W3:=Wr.of hS.fr (unhide hT).sz
 refine (dg_write hT1 t hl).mono ?_
 rintro e9 W9 ⟨he,hT2,hw2⟩
 refine ⟨he,fun T hK=>?_⟩
 refine then_n ?_
 have hS:=Fb.begin W9
 refine wp_ret ?_
 refine then_r ?_
 exact sym_end hS hK (.tuple #[]) [] [] (by kernel_rfl) (by kernel_rfl) ⟨rfl,hT2,hw1.trans hw2⟩
theorem dtell_long (w:World) (b r f B:Nat) (l:List UInt8) (a:Option Addr) (n c m size k j p e:Nat) (t1 t2:ByteArray) (hT:Hid (Tw B b r f (.func (.func 71) #[] #[.pointer (some ⟨b,0,none⟩),.pointer (some ⟨r,0,none⟩),.pointer (some ⟨f,0,none⟩)]) l w)) (hl:l.length+(t1.size+t2.size)≤1000000) (hs:19 < size) (hk:size / 2 = k) (hj:k+j = size) (hs2:size≤5000) (hp:10 ^ k = p) (hpe:p < 2 ^ e) (he:e≤40000) (hp0:p≠0) (h:Num w a n m) (H1:Hid (∀ (W:World) (l:List UInt8) (a:Option Addr) (n c:Nat),Tw B b r f (.func (.func 71) #[] #[.pointer (some ⟨b,0,none⟩),.pointer (some ⟨r,0,none⟩),.pointer (some ⟨f,0,none⟩)]) l W→l.length+t1.size≤1000000→Num W a n (m / p)→Calls Tryz.prog 71 #[.agg #[.slice a n c],.int .i64 (j:Int),.pointer (some ⟨b,0,none⟩),.pointer (some ⟨r,0,none⟩),.pointer (some ⟨f,0,none⟩)] W fun en W'=>en = .returned (.tuple #[])∧Tw B b r f (.func (.func 71) #[] #[.pointer (some ⟨b,0,none⟩),.pointer (some ⟨r,0,none⟩),.pointer (some ⟨f,0,none⟩)]) (l ++ t1.data.toList) W'∧Wr B b W W')) (H2:Hid (∀ (W:World) (l:List UInt8) (a:Option Addr) (n c:Nat),Tw B b r f (.func (.func 71) #[] #[.pointer (some ⟨b,0,none⟩),.pointer (some ⟨r,0,none⟩),.pointer (some ⟨f,0,none⟩)]) l W→l.length+t2.size≤1000000→Num W a n (m % p)→Calls Tryz.prog 71 #[.agg #[.slice a n c],.int .i64 (k:Int),.pointer (some ⟨b,0,none⟩),.pointer (some ⟨r,0,none⟩),.pointer (some ⟨f,0,none⟩)] W fun en W'=>en = .returned (.tuple #[])∧Tw B b r f (.func (.func 71) #[] #[.pointer (some ⟨b,0,none⟩),.pointer (some ⟨r,0,none⟩),.pointer (some ⟨f,0,none⟩)]) (l ++ t2.data.toList) W'∧Wr B b W W')) :
  Calls Tryz.prog 71 #[.agg #[.slice a n c],.int .i64 (size:Int),.pointer (some ⟨b,0,none⟩),.pointer (some ⟨r,0,none⟩),.pointer (some ⟨f,0,none⟩)] w fun en w'=>en = .returned (.tuple #[])∧Tw B b r f (.func (.func 71) #[] #[.pointer (some ⟨b,0,none⟩),.pointer (some ⟨r,0,none⟩),.pointer (some ⟨f,0,none⟩)]) (l ++ (t1 ++ t2).data.toList) w'∧Wr B b w w':=by
 have hF0:=(unhide hT).fn
 refine calls_sym Tryz.func71 rfl (by kernel_rfl) fun T hK=>?_
 replace hK:Kn T _ [(0,.agg #[.slice a n c]),(1,.int .i64 (size:Int)),(2,.pointer (some ⟨b,0,none⟩)),(3,.pointer (some ⟨r,0,none⟩)),(4,.pointer (some ⟨f,0,none⟩))]:=hK
 have hS:=Fb.other hF0
 have hG:GsAt [gN a n m] w:=⟨h,trivial⟩
 refine wq hS hG hK (fun p1=>[.n 5 #[.slice a n c] 42]) (fun p1=>[(1,.int .i64 (size:Int)),(2,.pointer (some ⟨b,0,none⟩)),(3,.pointer (some ⟨r,0,none⟩)),(4,.pointer (some ⟨f,0,none⟩)),(5,pT (p1 0).N 0)]) (fun p1=>?_) (fun p1 W1 T hF hK=>?_)
 ·refine okn ?_
  exact ok_nil
 replace hS:=SymF.fc hS hF [0,1000] [⟨f,#[.func (.func 71) #[] #[.pointer (some ⟨b,0,none⟩),.pointer (some ⟨r,0,none⟩),.pointer (some ⟨f,0,none⟩)]],112,false⟩,⟨(p1 0).N,#[.slice a n c],42,true⟩]
 replace hG:=hF.gx
 clear hF
 refine wp_seq ?_
 refine wq hS hG hK (fun p2=>[.v 10 (.int .i64 (size:Int)),.v 11 (.bool false)]) (fun p2=>[(1,.int .i64 (size:Int)),(2,.pointer (some ⟨b,0,none⟩)),(3,.pointer (some ⟨r,0,none⟩)),(4,.pointer (some ⟨f,0,none⟩)),(5,pT (p1 0).N 0),(11,.bool false)]) (fun p2=>?_) (fun p2 W2 T hF hK=>?_)
 ·refine okv ?_
  refine okvb (decide_eq_false (show ¬ (size:Int)≤19 by omega)) ?_
  exact ok_nil
 obtain ⟨hS,hG⟩:=SymF.fg hS hF
 clear hF
 refine wp_cond_false (hK.ew 11) (wp_skip (then_n ?_))
 refine wq hS hG hK (fun p3=>[.v 16 (.int .i64 (size:Int)),.v 17 (.int .i64 (k:Int)),.v 7 (.int .i64 (k:Int))]) (fun p3=>[(1,.int .i64 (size:Int)),(2,.pointer (some ⟨b,0,none⟩)),(3,.pointer (some ⟨r,0,none⟩)),(4,.pointer (some ⟨f,0,none⟩)),(5,pT (p1 0).N 0),(7,.int .i64 (k:Int)),(11,.bool false)]) (fun p3=>?_) (fun p3 W3 T hF hK=>?_)
 ·refine okv ?_
  refine okvi (show IntKind.i64.wrap (Int.tdiv (size:Int) 2) = (k:Int) by rw [Int.tdiv_eq_ediv_of_nonneg (by omega),wr64 (by omega) (by omega)]; omega) ?_
  refine okv ?_
  exact ok_nil
 obtain ⟨hS,hG⟩:=SymF.fg hS hF
 clear hF
 refine wq hS hG hK (fun p4=>[.l 19 (.agg #[.slice a n c]) 1 0,.v 20 (.int .i64 (k:Int)),.c (some 21) (cO W3.heap.size p),.v 22 (.agg #[.slice (p4 2).A (p4 2).N (p4 2).C]),.v 23 (.int .i64 0),.u 24 (.agg #[.slice (p4 2).A (p4 2).N (p4 2).C]) (aG 1),.c (some 25) (cD W3.heap.size (m / p) (m % p)),.v 26 (.agg #[.slice (p4 6).A (p4 6).N (p4 6).C]),.v 27 (.agg #[.slice (p4 6).A' (p4 6).N' (p4 6).C']),.v 28 (.int .i64 0),.u 29 (.tuple #[.agg #[.slice (p4 6).A (p4 6).N (p4 6).C],.agg #[.slice (p4 6).A' (p4 6).N' (p4 6).C']]) (aH 1 2),.v 18 (.tuple #[.agg #[.slice (p4 6).A (p4 6).N (p4 6).C],.agg #[.slice (p4 6).A' (p4 6).N' (p4 6).C']]),.v 30 (.agg #[.slice (p4 6).A (p4 6).N (p4 6).C]),.v 31 (.agg #[.slice (p4 6).A' (p4 6).N' (p4 6).C']),.n 8 #[.slice none 0 0] 42,.n 9 #[.slice none 0 0] 42,.p 1014 0 [.slice (p4 6).A (p4 6).N (p4 6).C],.p 1015 0 [.slice (p4 6).A' (p4 6).N' (p4 6).C']]) (fun p4=>[(1,.int .i64 (size:Int)),(2,.pointer (some ⟨b,0,none⟩)),(4,.pointer (some ⟨f,0,none⟩)),(5,pT (p1 0).N 0),(7,.int .i64 (k:Int)),(8,pT (p4 14).N 0),(9,pT (p4 15).N 0),(11,.bool false)]) (fun p4=>?_) (fun p4 W4 T hF hK=>?_)
 ·refine okl ?_
  refine okv ?_
  refine okc (fun W cx=>as_o cx.hb (npow_is (b:=10) hp hpe (by omega) (by decide) (by omega) _)) ?_
  iterate 2 refine okv ?_
  refine oku (fun W cx=>runNat_z r 0 _ _ _ _ ⟨_,_,((unhide hT).kept cx.fr).run,rfl⟩) ?_
  refine okc (fun W cx=>as_d cx.hb (ndiv_is hp0 _ _ _ c _ _ (p4 2).C (cx.G.1) (Mine.num (cx.F 2 (by kernel_rfl))))) ?_
  iterate 3 refine okv ?_
  refine oku (fun W cx=>runNats_z r 0 _ _ _ _ _ _ _ ⟨_,_,((unhide hT).kept cx.fr).run,rfl⟩) ?_
  iterate 3 refine okv ?_
  iterate 2 refine okn ?_
  iterate 2 refine okp ?_
  exact ok_nil
 replace hS:=SymF.fc hS hF [0,1,1014,1015] [⟨f,#[.func (.func 71) #[] #[.pointer (some ⟨b,0,none⟩),.pointer (some ⟨r,0,none⟩),.pointer (some ⟨f,0,none⟩)]],112,false⟩,⟨(p1 0).N,#[.slice a n c],42,true⟩,⟨(p4 14).N,#[.slice (p4 6).A (p4 6).N (p4 6).C],42,true⟩,⟨(p4 15).N,#[.slice (p4 6).A' (p4 6).N' (p4 6).C'],42,true⟩]
 replace hG:GsAt (gM W3.heap.size (p4 2).A (p4 2).N (p4 2).C p :: gM W3.heap.size (p4 6).A (p4 6).N (p4 6).C (m / p) :: gM W3.heap.size (p4 6).A' (p4 6).N' (p4 6).C' (m % p) :: _) W4:=⟨hF.fx 2,And.left (hF.fx 6),And.right (hF.fx 6),hF.gx⟩
 clear hF
 refine wp_seq ?_
 refine wp_symZ hS hG hK (fun p5=>[.l 32 (.func (.func 71) #[] #[.pointer (some ⟨b,0,none⟩),.pointer (some ⟨r,0,none⟩),.pointer (some ⟨f,0,none⟩)]) 0 0,.l 33 (.agg #[.slice (p4 6).A (p4 6).N (p4 6).C]) 2 0,.v 34 (.int .i64 (size:Int)),.v 35 (.int .i64 (k:Int)),.v 36 (.int .i64 (j:Int)),.v 37 (.tuple #[])]) (fun p5=>[(1,.int .i64 (size:Int)),(2,.pointer (some ⟨b,0,none⟩)),(4,.pointer (some ⟨f,0,none⟩)),(5,pT (p1 0).N 0),(7,.int .i64 (k:Int)),(9,pT (p4 15).N 0),(11,.bool false)]) (by kernel_rfl) (fun _ _=>by kernel_rfl) (fun _=>by kernel_rfl) (fun _=>by kernel_rfl) 5 37 (fun _=>.tuple #[]) 71 (fun p5=>#[.agg #[.slice (p4 6).A (p4 6).N (p4 6).C],.int .i64 (j:Int),.pointer (some ⟨b,0,none⟩),.pointer (some ⟨r,0,none⟩),.pointer (some ⟨f,0,none⟩)]) (by kernel_rfl) (fun _=>rfl) (fun _=>by kernel_rfl) (fun p5=>?_) (fun p5 W5 hF=>?_)
 ·iterate 2 refine okl ?_
  iterate 2 refine okv ?_
  refine okvi ((wr64 (x:=(size:Int) - (k:Int)) (by omega) (by omega)).trans (by omega)) ?_
  exact ok_nil
 replace hS:=SymF.fc hS hF [0,1,3] [⟨f,#[.func (.func 71) #[] #[.pointer (some ⟨b,0,none⟩),.pointer (some ⟨r,0,none⟩),.pointer (some ⟨f,0,none⟩)]],112,false⟩,⟨(p1 0).N,#[.slice a n c],42,true⟩,⟨(p4 15).N,#[.slice (p4 6).A' (p4 6).N' (p4 6).C'],42,true⟩]
 replace hG:=hF.gx
 clear hF hK
 have hT1:=(unhide hT).kept hS.fr
 have hw1:Wr B b w W5:=Wr.of hS.fr (unhide hT).sz
 have hm1:=Mine.num (hG.2.1)
 have hm2:=Mine.mono (hG.2.2.1) (Nat.zero_le _)
 have hv1:W5.heap[(p4 15).N]? = some (.cells #[.slice (p4 6).A' (p4 6).N' (p4 6).C'] 42 (0,0)):=hS.bx ⟨(p4 15).N,#[.slice (p4 6).A' (p4 6).N' (p4 6).C'],42,true⟩ (by simp)
 refine (unhide H1 _ _ _ _ _ hT1 (by omega) hm1).mono ?_
 rintro e9 W8 ⟨he,hT2,hw2⟩
 refine ⟨he,fun T hK=>?_⟩
 refine then_n ?_
 have hv2:=hT1.box hw2 hv1 (by decide) (by decide)
 have hm3:=hT1.mine hw2 hm2
 have hw3:=hw1.trans hw2
 clear hS hG hT1 hw1 hm1 hm2 hv1 hw2
 have hF8:=hT2.fn
 have hS:=(Fb.other hF8).more hv2 ⟨fun h=>absurd h (by simp),trivial⟩
 have hG:GsAt [gM 0 (p4 6).A' (p4 6).N' (p4 6).C' (m % p)] W8:=⟨hm3,trivial⟩
 refine wp_symZ hS hG hK (fun p6=>[.l 38 (.func (.func 71) #[] #[.pointer (some ⟨b,0,none⟩),.pointer (some ⟨r,0,none⟩),.pointer (some ⟨f,0,none⟩)]) 1 0,.l 39 (.agg #[.slice (p4 6).A' (p4 6).N' (p4 6).C']) 0 0,.v 40 (.int .i64 (k:Int)),.v 41 (.tuple #[])]) (fun p6=>[(1,.int .i64 (size:Int)),(2,.pointer (some ⟨b,0,none⟩)),(5,pT (p1 0).N 0),(11,.bool false)]) (by kernel_rfl) (fun _ _=>by kernel_rfl) (fun _=>by kernel_rfl) (fun _=>by kernel_rfl) 3 41 (fun _=>.tuple #[]) 71 (fun p6=>#[.agg #[.slice (p4 6).A' (p4 6).N' (p4 6).C'],.int .i64 (k:Int),.pointer (some ⟨b,0,none⟩),.pointer (some ⟨r,0,none⟩),.pointer (some ⟨f,0,none⟩)]) (by kernel_rfl) (fun _=>rfl) (fun _=>by kernel_rfl) (fun p6=>?_) (fun p6 W6 hF=>?_)
 ·iterate 2 refine okl ?_
  refine okv ?_
  exact ok_nil
 replace hS:=SymF.fc hS hF [0,1] [⟨(p4 15).N,#[.slice (p4 6).A' (p4 6).N' (p4 6).C'],42,false⟩,⟨f,#[.func (.func 71) #[] #[.pointer (some ⟨b,0,none⟩),.pointer (some ⟨r,0,none⟩),.pointer (some ⟨f,0,none⟩)]],112,false⟩]
 replace hG:=hF.gx
 clear hF hK
 have hT3:=hT2.kept hS.fr
 have hw4:Wr B b W8 W6:=Wr.of hS.fr hT2.sz
 have hm4:=Mine.num (hG.1)
 refine (unhide H2 _ _ _ _ _ hT3 (by rw [List.length_append,show t1.data.toList.length = t1.size from by simp]; omega) hm4).mono ?_
 rintro e9 W9 ⟨he,hT4,hw5⟩
 refine ⟨he,fun T hK=>?_⟩
 have hS:=Fb.begin W9
 rw [List.append_assoc,← data_cat] at hT4
 exact body_n (sym_end hS hK (.tuple #[]) [] [] (by kernel_rfl) (by kernel_rfl) ⟨rfl,hT4,(hw3.trans hw4).trans hw5⟩)
theorem dg_frame {T:Array Value} (h:T.size = 21):∃ x0 x1 x2 x3 x4 x5 x6 x7 x8 x9 x10 x11 x12 x13 x14 x15 x16 x17 x18 x19 x20,T = #[x0,x1,x2,x3,x4,x5,x6,x7,x8,x9,x10,x11,x12,x13,x14,x15,x16,x17,x18,x19,x20]:=by
 obtain ⟨l⟩:=T
 simp only [List.size_toArray] at h
 obtain _|⟨x0,l⟩:=l
 ·simp at h
 obtain _|⟨x1,l⟩:=l
 ·simp at h
 obtain _|⟨x2,l⟩:=l
 ·simp at h
 obtain _|⟨x3,l⟩:=l
 ·simp at h
 obtain _|⟨x4,l⟩:=l
 ·simp at h
 obtain _|⟨x5,l⟩:=l
 ·simp at h
 obtain _|⟨x6,l⟩:=l
 ·simp at h
 obtain _|⟨x7,l⟩:=l
 ·simp at h
 obtain _|⟨x8,l⟩:=l
 ·simp at h
 obtain _|⟨x9,l⟩:=l
 ·simp at h
 obtain _|⟨x10,l⟩:=l
 ·simp at h
 obtain _|⟨x11,l⟩:=l
 ·simp at h
 obtain _|⟨x12,l⟩:=l
 ·simp at h
 obtain _|⟨x13,l⟩:=l
 ·simp at h
 obtain _|⟨x14,l⟩:=l
 ·simp at h
 obtain _|⟨x15,l⟩:=l
 ·simp at h
 obtain _|⟨x16,l⟩:=l
 ·simp at h
 obtain _|⟨x17,l⟩:=l
 ·simp at h
 obtain _|⟨x18,l⟩:=l
 ·simp at h
 obtain _|⟨x19,l⟩:=l
 ·simp at h
 obtain _|⟨x20,l⟩:=l
 ·simp at h
 obtain _|⟨x,l⟩:=l
 rotate_left
 ·simp at h
 exact ⟨_,_,_,_,_,_,_,_,_,_,_,_,_,_,_,_,_,_,_,_,_,rfl⟩
theorem dg_eta (t:ByteArray):(⟨t.data.toList.toArray⟩:ByteArray) = t:=by cases t; simp
theorem dg_run {B b r f:Nat} {F:Value} {l:List UInt8} {W:World} (h:Tw B b r f F l W):W.cell? ⟨r,0,none⟩ = some (.int .i64 0):=by
 rw [cell_of_row W r 0 _ _ _ h.run]; rfl
theorem Tw.fresh {B b r f:Nat} {F:Value} {W:World} (hB:B≤b) (hb:W.heap[b]? = some (.cells #[.pointer none,.slice none 0 0] 111 (0,0))) (hr:W.heap[r]? = some (.cells #[.int .i64 0] 70 (0,0))) (hf:W.heap[f]? = some (.cells #[F] 112 (0,0))) (tp:∀ W',Below B W W'→Tpw W') (sz:B≤W.heap.size):Tw B b r f F [] W:=
 ⟨Or.inl ⟨hB,_,hb,World.ownsRowF_nil W B _ 1,by simp [Value.ownBlock]⟩,hr,hf,tp,sz⟩
theorem dtens_is (w:World) (a:Option Addr) (n c m k size:Nat) (t:ByteArray) (h:Num w a n m) (hk:Bl m k) (hk2:k≤100000) (hs:k / 3+1 = size) (ht0:t.size = size) (htp:Tpw w) (HT:Hid (∀ (b r f B:Nat) (W:World) (l:List UInt8) (a:Option Addr) (n c:Nat),Tw B b r f (.func (.func 71) #[] #[.pointer (some ⟨b,0,none⟩),.pointer (some ⟨r,0,none⟩),.pointer (some ⟨f,0,none⟩)]) l W→l.length+t.size≤1000000→Num W a n m→Calls Tryz.prog 71 #[.agg #[.slice a n c],.int .i64 (size:Int),.pointer (some ⟨b,0,none⟩),.pointer (some ⟨r,0,none⟩),.pointer (some ⟨f,0,none⟩)] W fun en W'=>en = .returned (.tuple #[])∧Tw B b r f (.func (.func 71) #[] #[.pointer (some ⟨b,0,none⟩),.pointer (some ⟨r,0,none⟩),.pointer (some ⟨f,0,none⟩)]) (l ++ t.data.toList) W'∧Wr B b W W')) :
  Calls Tryz.prog 36 #[.agg #[.slice a n c]] w fun en w'=>en = .returned (.tuple #[.string t,.int .i64 0])∧Below w.heap.size w w':=by
 refine calls_sym Tryz.func36 rfl (by kernel_rfl) fun T hK=>?_
 replace hK:Kn T _ [(0,.agg #[.slice a n c])]:=hK
 have hS:=Fb.begin w
 have hG:GsAt [gN a n m] w:=⟨h,trivial⟩
 refine wq hS hG hK (fun p1=>[.n 1 #[.slice a n c] 42,.v 2 (.string { data:=#[] }),.v 3 (.int .i64 0)]) (fun p1=>[(1,pT (p1 0).N 0),(2,.string { data:=#[] }),(3,.int .i64 0)]) (fun p1=>?_) (fun p1 W1 T hF hK=>?_)
 ·refine okn ?_
  iterate 2 refine okv ?_
  exact ok_nil
 replace hS:=SymF.fc hS hF [1000] [⟨(p1 0).N,#[.slice a n c],42,true⟩]
 replace hG:=hF.gx
 clear hF
 refine wq hS hG hK (fun p2=>[.n 4 #[.int .i64 0] 70]) (fun p2=>[(1,pT (p1 0).N 0),(2,.string { data:=#[] }),(3,.int .i64 0),(4,pT (p2 0).N 0)]) (fun p2=>?_) (fun p2 W2 T hF hK=>?_)
 ·refine okn ?_
  exact ok_nil
 replace hS:=SymF.fc hS hF [0,1000] [⟨(p1 0).N,#[.slice a n c],42,true⟩,⟨(p2 0).N,#[.int .i64 0],70,true⟩]
 replace hG:=hF.gx
 clear hF
 refine wq hS hG hK (fun p3=>[.n 5 #[.pointer none,.slice none 0 0] 111]) (fun p3=>[(1,pT (p1 0).N 0),(2,.string { data:=#[] }),(3,.int .i64 0),(4,pT (p2 0).N 0),(5,pT (p3 0).N 0)]) (fun p3=>?_) (fun p3 W3 T hF hK=>?_)
 ·refine okn ?_
  exact ok_nil
 replace hS:=SymF.fc hS hF [0,1,1000] [⟨(p1 0).N,#[.slice a n c],42,true⟩,⟨(p2 0).N,#[.int .i64 0],70,true⟩,⟨(p3 0).N,#[.pointer none,.slice none 0 0],111,true⟩]
 replace hG:=hF.gx
 clear hF
 refine wq hS hG hK (fun p4=>[.n 6 #[.nilFunc] 112]) (fun p4=>[(1,pT (p1 0).N 0),(2,.string { data:=#[] }),(3,.int .i64 0),(4,pT (p2 0).N 0),(5,pT (p3 0).N 0),(6,pT (p4 0).N 0)]) (fun p4=>?_) (fun p4 W4 T hF hK=>?_)
 ·refine okn ?_
  exact ok_nil
 replace hS:=SymF.fc hS hF [0,1,2,1000] [⟨(p1 0).N,#[.slice a n c],42,true⟩,⟨(p2 0).N,#[.int .i64 0],70,true⟩,⟨(p3 0).N,#[.pointer none,.slice none 0 0],111,true⟩,⟨(p4 0).N,#[.nilFunc],112,true⟩]
 replace hG:=hF.gx
 clear hF
 refine wq hS hG hK (fun p5=>[.v 7 (.func (.func 71) #[] #[pT (p3 0).N 0,pT (p2 0).N 0,pT (p4 0).N 0]),.p 3 0 [.func (.func 71) #[] #[pT (p3 0).N 0,pT (p2 0).N 0,pT (p4 0).N 0]]]) (fun p5=>[(1,pT (p1 0).N 0),(2,.string { data:=#[] }),(3,.int .i64 0),(4,pT (p2 0).N 0),(5,pT (p3 0).N 0),(6,pT (p4 0).N 0)]) (fun p5=>?_) (fun p5 W5 T hF hK=>?_)
 ·refine okv ?_
  refine okp ?_
  exact ok_nil
 replace hS:=SymF.fc hS hF [0,1,2,3] [⟨(p1 0).N,#[.slice a n c],42,true⟩,⟨(p2 0).N,#[.int .i64 0],70,true⟩,⟨(p3 0).N,#[.pointer none,.slice none 0 0],111,true⟩,⟨(p4 0).N,#[.func (.func 71) #[] #[pT (p3 0).N 0,pT (p2 0).N 0,pT (p4 0).N 0]],112,true⟩]
 replace hG:=hF.gx
 clear hF
 refine wp_seq ?_
 refine wp_symZ hS hG hK (fun p6=>[.l 8 (.func (.func 71) #[] #[pT (p3 0).N 0,pT (p2 0).N 0,pT (p4 0).N 0]) 3 0,.l 9 (.agg #[.slice a n c]) 0 0,.l 10 (.agg #[.slice a n c]) 0 0,.c (some 11) (cV (.tuple #[.int .i64 (k:Int),.int .i64 0])),.v 12 (.int .i64 (k:Int)),.v 13 (.int .i64 0),.c (some 14) (cV (.int .i64 (k:Int))),.v 15 (.int .i64 ((k / 3:Nat):Int)),.v 16 (.int .i64 (size:Int)),.v 17 (.tuple #[])]) (fun p6=>[(2,.string { data:=#[] }),(3,.int .i64 0),(4,pT (p2 0).N 0),(5,pT (p3 0).N 0)]) (by kernel_rfl) (fun _ _=>by kernel_rfl) (fun _=>by kernel_rfl) (fun _=>by kernel_rfl) 9 17 (fun _=>.tuple #[]) 71 (fun p6=>#[.agg #[.slice a n c],.int .i64 (size:Int),pT (p3 0).N 0,pT (p2 0).N 0,pT (p4 0).N 0]) (by kernel_rfl) (fun _=>rfl) (fun _=>by kernel_rfl) (fun p6=>?_) (fun p6 W6 hF=>?_)
 ·iterate 3 refine okl ?_
  refine okc (fun W cx=>as_v (nbits_is hk _ _ _ c (cx.G.1))) ?_
  iterate 2 refine okv ?_
  refine okc (fun W cx=>as_v (runInt_z (p2 0).N 0 _ _ ⟨_,_,cx.B 1 _ rfl (by kernel_rfl) (by kernel_rfl),rfl⟩)) ?_
  refine okvi (show IntKind.i64.wrap (Int.tdiv (k:Int) 3) = ((k / 3:Nat):Int) by rw [Int.tdiv_eq_ediv_of_nonneg (by omega),wr64 (by omega) (by omega)]; omega) ?_
  refine okvi ((wr64 (x:=((k / 3:Nat):Int)+1) (by omega) (by omega)).trans (by omega)) ?_
  exact ok_nil
 obtain ⟨hS,hG⟩:=SymF.fg hS hF
 clear hF hK
 have hv1:W6.heap[(p3 0).N]? = some (.cells #[.pointer none,.slice none 0 0] 111 (0,0)):=hS.bx ⟨(p3 0).N,#[.pointer none,.slice none 0 0],111,true⟩ (by simp)
 have hv2:W6.heap[(p2 0).N]? = some (.cells #[.int .i64 0] 70 (0,0)):=hS.bx ⟨(p2 0).N,#[.int .i64 0],70,true⟩ (by simp)
 have hv3:W6.heap[(p4 0).N]? = some (.cells #[.func (.func 71) #[] #[pT (p3 0).N 0,pT (p2 0).N 0,pT (p4 0).N 0]] 112 (0,0)):=hS.bx ⟨(p4 0).N,#[.func (.func 71) #[] #[pT (p3 0).N 0,pT (p2 0).N 0,pT (p4 0).N 0]],112,true⟩ (by simp)
 have hB:w.heap.size≤(p3 0).N:=hS.low.of ⟨(p3 0).N,#[.pointer none,.slice none 0 0],111,true⟩ (by simp) rfl
 have hT1:=Tw.fresh hB hv1 hv2 hv3 (fun W h=>htp.kept (hS.fr.trans h)) hS.fr.size
 refine (unhide HT _ _ _ _ _ _ _ _ _ hT1 (by simp; omega) (hG.1)).mono ?_
 rintro e9 W8 ⟨he,hT2,hw2⟩
 refine ⟨he,fun T hK=>?_⟩
 refine then_n ?_
 rw [List.nil_append] at hT2
 have hb8:=hS.fr.trans hw2.1
 clear hS hG hT1 hw2 hv1 hv2 hv3 HT hB
 obtain ⟨x0,x1,x2,x3,x4,x5,x6,x7,x8,x9,x10,x11,x12,x13,x14,x15,x16,x17,x18,x19,x20,rfl⟩:=dg_frame hK.size
 have hx4:=hK.at_ (4,pT (p2 0).N 0) (by simp)
 have hx5:=hK.at_ (5,pT (p3 0).N 0) (by simp)
 simp only [List.getElem?_toArray,List.getElem?_cons_succ,List.getElem?_cons_zero,Option.some.injEq] at hx4 hx5
 subst hx4 hx5
 clear hK
 replace hT2:=hT2.kept (Below.refl _ _).drew
 replace hb8:=hb8.drew
 have hc8:=dg_run hT2
 have hne:t.data.toList≠[]:=by
  intro e
  have e1:t.data.toList.length = t.size:=by simp
  rw [e] at e1
  have e2:(0:Nat) = t.size:=e1
  omega
 have hf8:=dg_string hT2 hne
 rw [dg_eta] at hf8
 clear hT2 hne
 generalize (p2 0).N = rr at *
 generalize (p3 0).N = bb at *
 go_wp2_with fail
 go_region_law (
  refine step_callX (F:=fun v W9=>v = .string t∧W9.cell? ⟨rr,0,none⟩ = some (.int .i64 0)∧Below w.heap.size w W9) rfl (by go_simp) (hf8.mono fun e W9 ⟨h1,h2,h3⟩=>⟨_,h1,rfl,dg_run h2,hb8.trans h3⟩) ?_
  rintro v9 W9 ⟨rfl,hc9,hb9⟩)
 all_goals go_wp2
 all_goals exact bodyPost_ret (v:=.tuple #[.string t,.int .i64 0]) (by simp [results,Tryz.results36,go_sem]) rfl ⟨rfl,by assumption⟩
end Go.Proofs.YtplihgoapiiigaaGreatDoor
