/- Of what DigitsWorthRow stands on: DcMulBoth DcRow RReg0 RChain RRat DcAlive DcCmpV DcRes. -/
import Derived.Test.YteafdlblemdclaaGreatDoorPbd
import Derived.Test.YteafdlblemdclaaGreatDoorPax
import Derived.Test.YteafdlblemdclaaGreatDoorPan
import Derived.BigQuiet
import Derived.Lib.BytesEntry
import Derived.Lib.Bytealg
import Derived.Lib.MakeNoZero
import Derived.Laws.CopyRow
import Derived.Shelf.Bits.Mul64
import Derived.Test.YteafdlblemdclaaGreatDoorPab
import Derived.Test.YteafdlblemdclaaGreatDoorPav
import Derived.Test.YteafdlblemdclaaGreatDoorPaa
import Derived.Test.YteafdlblemdclaaGreatDoorPbe
import Derived.Test.YteafdlblemdclaaGreatDoorPaf
import Derived.Test.YteafdlblemdclaaGreatDoorPal
namespace Go.Proofs.YteafdlblemdclaaGreatDoor
open Go.RowKit
theorem says_long {t:ByteArray} {n:Nat} (h:Says t n) (hl:65536 < t.size):tenTop 65536≤n:=by
 obtain ⟨ds,h1,h2,⟨l1,l2⟩,h4⟩:=h
 have hs:t.size = ds.length:=by
  have:=congrArg List.length h1
  simpa [chars] using this
 match ds,l1 with
 | d :: r,_=>
  rcases l2 with l2|l2
  ·rw [← h4]
   exact Nat.le_trans (tenTop_le (by simp at hs; omega)) (Pl.lead_low l2)
  ·omega
theorem dnum_any (g:Bool) (s:ByteArray) (x:Int) (hd:AllD s s.size) (hm:s.size≤65536) (h0:s.size≠0) (W:World):Calls Tryz.prog 35 #[.agg #[.bool g,.string s,.int .i64 x]] W fun en W'=>(∃ a n c,en = .returned (.agg #[.slice a n c])∧Mine W' W.heap.size a n c (valS s))∧Below W.heap.size W W':=
 dnum_is W g s x (valS s) (hide fun W=>(parse_any s W (by omega)).mono fun e W' ⟨h,hb⟩=>⟨by
  rcases h with ⟨h1,_⟩|⟨h1,_⟩|⟨i,hi,_,_,h3,_⟩|⟨a,n,c,_,_,_,h,hM⟩
  ·omega
  ·exact absurd h1 h0
  ·exact absurd (hd i hi hi) h3
  ·exact ⟨a,n,c,h,hM⟩,hb⟩)
theorem Fs.only {w0 W W':World} {bs:List En} {B:Nat} (h:Fs w0 W bs) (k:Only B W W') (hB:w0.heap.size≤B) (hne:∀ x,x∈bs→x.b≠B):Fs w0 W' bs:=
 ⟨fun x hx=>by rw [k.block _ (hne x hx)]; exact h.bx x hx,Only.below h.fr k hB⟩
abbrev Ms:=List (Option Addr×Nat×Nat)
abbrev Os:=List (Option Addr×Nat×Nat×Nat)
theorem Rs.sub {w0 W:World} {k:Option (Nat×Int)} {bs bs':List En} {ms ms':Ms} {os os':Os} (h:Rs w0 W k bs ms os) (hb:∀ x,x∈bs'→x∈bs) (hm:∀ x,x∈ms'→x∈ms) (ho:∀ x,x∈os'→x∈os):Rs w0 W k bs' ms' os':=
 ⟨h.wk,fun x hx=>h.bx x (hb x hx),fun x hx=>h.nm x (hm x hx),fun x hx=>h.ow x (ho x hx),h.fr⟩
theorem Rs.cellAt {w0 W:World} {k:Option (Nat×Int)} {bs:List En} {ms:Ms} {os:Os} (h:Rs w0 W k bs ms os) {x:En} (hx:x∈bs) (j:Nat) (v:Value) (hv:x.cs[j]? = some v):W.cell? ⟨x.b,j,none⟩ = some v:=by
 rw [cell_of_row W x.b j _ _ _ (h.bx x hx).1]; exact hv
theorem Rs.more {w0 W W':World} {p n c M:Nat} {e r:Int} {a:Option Addr} {bs:List En} {ms:Ms} {os:Os} (hS:Rs w0 W (some (p,e)) bs ms os) (hm:Mine W' W.heap.size a n c M) (hk:Wk W' p r) (hb:But p W W'):Rs w0 W' (some (p,r)) bs ms ((a,n,c,M) :: os):=
 (hS.call hb hk).own hm hS.size
theorem Over.mono {a b:Nat} (h:Over a) (hab:a≤b):Over b:=⟨Nat.le_trans h.le hab⟩
structure Fq (w:World) (s:Bool) (a:Option Addr) (n:Nat) (a':Option Addr) (n':Nat) (x:Rat):Prop where
 neg:s = decide (x.num < 0)
 num:Num w a n x.num.natAbs
 den:Num w a' n' x.den
theorem Fq.q {w:World} {s:Bool} {a a':Option Addr} {n n':Nat} {x:Rat} (h:Fq w s a n a' n' x):Rm.Q x s x.num.natAbs x.den:=by rw [h.neg]; exact Rm.Q.self x
theorem Fq.kept {w w':World} {s:Bool} {a a':Option Addr} {n n':Nat} {x:Rat} (h:Fq w s a n a' n' x) (hb:Below w.heap.size w w'):Fq w' s a n a' n' x:=⟨h.neg,h.num.kept hb,h.den.kept hb⟩
theorem Fq.alloc {w:World} {s:Bool} {a a':Option Addr} {n n':Nat} {x:Rat} (h:Fq w s a n a' n' x) (o:Obj):Fq (w.alloc o) s a n a' n' x:=h.kept (gr_alloc _ _)
theorem ddig_t {s:ByteArray} (hm:s.size≤65536) (hd:AllD s s.size) (W:World):Calls Tryz.prog 41 #[.string s] W fun e W'=>e = .returned (.bool true)∧Below W.heap.size W W':=
 (allDigits_any s W hm).mono fun e W' ⟨h,hb⟩=>⟨by
  rcases h with ⟨h,_⟩|⟨_,h⟩
  ·exact h
  ·exact absurd hd h,hb⟩
theorem chk_good (g:Bool) (s:ByteArray) (x:Int) (hm:s.size≤65536) (h0:s.size≠0) (hd:AllD s s.size) (ha:∀ h:0 < s.size,(s[0]'h).toNat≠48) (hb:∀ k,(h:k+1 = s.size)→(s[k]'(by omega)).toNat≠48) (hx0:-1073741824≤x) (hx1:x≤1073741824) (W:World) :
  Calls Tryz.prog 14 #[.agg #[.bool g,.string s,.int .i64 x]] W fun en W'=>en = .returned (.int .i64 0)∧Below W.heap.size W W':=by
 obtain ⟨f,t,hE,_,hc⟩:=ends_fix s hm
 have hf:f = 0:=by
  by_cases h:f = 0
  ·exact h
  ·exact absurd (hE.lo 0 (by omega) (by omega)) (ha _)
 have ht:s.size≤t:=by
  by_cases h:s.size≤t
  ·exact h
  ·exact absurd (hE.up (s.size - 1) (by omega) (by omega)) (hb (s.size - 1) (by omega))
 exact dck_ok W g s x f t hm h0 (hide hc) hf ht (hide (ddig_t hm hd)) (hide fun W=>bey_in W x hx0 hx1)
structure Lit (s:ByteArray) (n v:Nat):Prop where
 sz:s.size = n
 ok:AllD s s.size
 fst:∀ h:0 < s.size,(s[0]'h).toNat≠48
 lst:∀ k,(h:k+1 = s.size)→(s[k]'(by omega)).toNat≠48
 val:valS s = v
theorem Lit.mk' {s:ByteArray} {n v:Nat} (h1:s.size = n) (h2:∀ b,b∈s.data.toList→48≤b.toNat∧b.toNat≤57) (h3:s.data.toList.head?.map UInt8.toNat≠some 48) (h4:s.data.toList.getLast?.map UInt8.toNat≠some 48) (h5:valS s = v):Lit s n v:=by
 refine ⟨h1,alld_mem.2 h2,fun h e=>h3 ?_,fun k h e=>h4 ?_,h5⟩
 ·rw [List.head?_eq_getElem?,List.getElem?_eq_getElem (by rw [Array.length_toList]; exact h)]
  exact congrArg some e
 ·rw [List.getLast?_eq_getElem?,Array.length_toList,List.getElem?_eq_getElem (by rw [Array.length_toList]; exact Nat.sub_lt (by have:s.data.size = s.size:=rfl; omega) (by decide))]
  have hk:s.data.size - 1 = k:=by have:s.data.size = s.size:=rfl; omega
  subst hk
  exact congrArg some e
theorem Lit.chk {s:ByteArray} {n v:Nat} (h:Lit s n v) (hn:0 < n) (hm:n≤65536) (g:Bool) (x:Int) (hx0:-1073741824≤x) (hx1:x≤1073741824) (W:World) :
  Calls Tryz.prog 14 #[.agg #[.bool g,.string s,.int .i64 x]] W fun en W'=>en = .returned (.int .i64 0)∧Below W.heap.size W W':=
 chk_good g s x (by rw [h.sz]; exact hm) (by rw [h.sz]; omega) h.ok h.fst h.lst hx0 hx1 W
structure DcOk (s:ByteArray) (x:Int):Prop where
 sz:s.size≤65536
 ok:AllD s s.size
 lo:-1073741824≤x
 hi:x≤1073741824
 zero:s.size = 0→x = 0
 fst:∀ h:0 < s.size,(s[0]'h).toNat≠48
 cd:Cd s.data.toList
def dvl (g:Bool) (A:Nat):Int:=if g then -(A:Int) else (A:Int)
theorem says_ok {t:ByteArray} {n:Nat} {y:Int} (h:Says t n) (h10:n % 10≠0) (hn:n < tenTop 65536) (h1:-1073741824≤y) (h2:y≤1073741824):DcOk t y∧valS t = n∧t.size≠0:=by
 have hl:t.size≤65536:=by
  rcases Nat.lt_or_ge 65536 t.size with q|q
  ·exact absurd (says_long h q) (by omega)
  ·exact q
 obtain ⟨ds,hc,hD,⟨l1,l2⟩,hv⟩:=h
 have ht:t = ⟨(chars ds).toArray⟩:=by
  cases t with
  | mk d=>cases d with
   | mk l=>rw [show l = chars ds from hc]
 have hA:AllD t t.size:=by rw [ht]; exact all_chars hD
 have hg:digs t = ds:=by rw [ht]; exact digs_chars hD
 have hvt:valS t = n:=by unfold valS; rw [hg,hv]
 have hs:t.size = ds.length:=by rw [← hg]; simp [digs]
 have h0:0 < t.size:=by
  rw [hs]; exact List.length_pos_iff.2 l1
 have hat:=hA.digS.2.2
 rw [hg] at hat
 have hlast:∀ k,(h:k+1 = t.size)→(t[k]'(by omega)).toNat≠48:=fun k hk=>by
  have e:=dval_snoc ds k (by omega)
  rw [List.take_of_length_le (by omega),hv] at e
  have:=hat k (by omega)
  omega
 refine ⟨⟨hl,hA,h1,h2,fun e=>by omega,fun hh=>?_,cd_of hA hlast⟩,hvt,by omega⟩
 rcases l2 with l2|l2
 ·have:=hat 0 hh
  omega
 ·exact hlast 0 (by omega)
theorem mkA_num {g:Bool} {N:Nat} {x:Int} {g2:Bool} {s2:ByteArray} {x2:Int} (h:MkA g N x (.tuple #[.agg #[.bool g2,.string s2,.int .i64 x2],.int .i64 0])) (hN:N < tenTop 65536) :
  g2 = g∧DcOk s2 x2∧(N = 0∧s2.size = 0∧x2 = 0∨0 < N∧s2.size≠0∧∃ z:Nat,x2 = x+(z:Int)∧N = valS s2 * 10 ^ z):=by
 rcases h with ⟨h0,hV⟩|⟨t,n,z,h1,h10,hS,⟨_,hV⟩|⟨hr,hV⟩⟩
 ·simp only [Value.tuple.injEq,Array.mk.injEq,List.cons.injEq,Value.agg.injEq,Value.bool.injEq,Value.string.injEq,Value.int.injEq,and_true,true_and] at hV
  obtain ⟨rfl,rfl,rfl⟩:=hV
  exact ⟨rfl,⟨by decide,fun j hj=>absurd hj (Nat.not_lt_zero _),by omega,by omega,fun _=>rfl,fun hj=>absurd hj (Nat.not_lt_zero _),⟨(fun a ha=>nomatch ha),(fun a ha=>nomatch ha)⟩⟩,Or.inl ⟨h0,rfl,rfl⟩⟩
 ·simp at hV
 ·simp only [Value.tuple.injEq,Array.mk.injEq,List.cons.injEq,Value.agg.injEq,Value.bool.injEq,Value.string.injEq,Value.int.injEq,and_true,true_and] at hV
  obtain ⟨rfl,rfl,rfl⟩:=hV
  have hp:0 < 10 ^ z:=Nat.pow_pos (by omega)
  have hle:n≤N:=by rw [h1]; exact Nat.le_mul_of_pos_right _ hp
  obtain ⟨k1,k2,k3⟩:=says_ok hS h10 (Nat.lt_of_le_of_lt hle hN) (y:=x+(z:Int)) (by omega) (by omega)
  exact ⟨rfl,k1,Or.inr ⟨by omega,k3,z,rfl,by rw [k2,h1]⟩⟩
end Go.Proofs.YteafdlblemdclaaGreatDoor
