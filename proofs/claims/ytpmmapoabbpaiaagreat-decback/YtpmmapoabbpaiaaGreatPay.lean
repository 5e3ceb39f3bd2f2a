/- Of what DecBackRow stands on: RWork RState RReg0 RWk ROver RReg RFrac RChain RProd RRat Rc8Eq RSame. -/
import Derived.Test.YtpmmapoabbpaiaaGreatPav
import Derived.Test.YtpmmapoabbpaiaaGreatPal
import Derived.Test.YtpmmapoabbpaiaaGreatPau
import Derived.Test.YtpmmapoabbpaiaaGreatPaw
import Derived.Test.YtpmmapoabbpaiaaGreatPao
import Derived.Test.YtpmmapoabbpaiaaGreatPax
import Derived.Test.YtpmmapoabbpaiaaGreatPaf
import Derived.Test.YtpmmapoabbpaiaaGreatPaa
import Derived.Test.YtpmmapoabbpaiaaGreatPab
import Derived.BigQuiet
import Derived.Laws.StructEq
namespace Go.Proofs.YtpmmapoabbpaiaaGreat
open Go.RowKit
set_option maxHeartbeats 4000000
set_option maxRecDepth 20000
theorem But.trans {p:Nat} {a b c:World} (h:But p a b) (k:But p b c):But p a c:=
 ⟨k.os.trans h.os,k.tape.trans h.tape,k.output.trans h.output,Nat.le_trans h.size k.size,fun i hi hp=>(k.block i (Nat.lt_of_lt_of_le hi h.size) hp).trans (h.block i hi hp)⟩
theorem But.set {p:Nat} {w w':World} (h:But p w w') (j:Nat) (u:Value):But p w (w'.setCell ⟨p,j,none⟩ u):=
 ⟨h.os,h.tape,h.output,by simpa [World.setCell] using h.size,fun k hk hp=>(heap_setCell_other w' _ k u hp).trans (h.block k hk hp)⟩
theorem But.drew {p:Nat} {w w':World} (h:But p w w'):But p w w'.drew:=⟨h.os,h.tape,h.output,h.size,h.block⟩
theorem But.gr {p B:Nat} {a w w':World} (h:Below B a w) (k:But p w w') (hp:B≤p) (hB:B≤w.heap.size):Below B a w':=
 h.trans ⟨k.os,k.tape,k.output,k.size,fun i hi=>k.block i (by omega) (by omega)⟩
def Wk (w:World) (p:Nat) (e:Int):Prop:=∃ t,t≠64∧w.heap[p]? = some (.cells #[.int .i64 e] t (0,0))
theorem Wk.lt {w:World} {p:Nat} {e:Int} (h:Wk w p e):p < w.heap.size:=by
 obtain ⟨t,_,h⟩:=h
 by_cases hlt:p < w.heap.size
 ·exact hlt
 ·rw [Array.getElem?_eq_none (by omega)] at h; cases h
theorem Wk.cell {w:World} {p:Nat} {e:Int} (h:Wk w p e):w.cell? ⟨p,0,none⟩ = some (.int .i64 e):=by
 obtain ⟨t,_,h⟩:=h
 rw [cell_of_row w p 0 _ _ _ h]; rfl
theorem Wk.frozen {w:World} {p:Nat} {e:Int} (h:Wk w p e):w.frozen? ⟨p,0,none⟩ = false:=by
 obtain ⟨t,_,h⟩:=h
 exact frozen_of_row w p 0 _ _ h
theorem Wk.kept {w w':World} {p:Nat} {e:Int} (h:Wk w p e) (hb:Below w.heap.size w w'):Wk w' p e:=by
 have hl:=h.lt
 obtain ⟨t,ht,h⟩:=h
 exact ⟨t,ht,by rw [hb.block p hl]; exact h⟩
theorem Wk.alloc {w:World} {p:Nat} {e:Int} (h:Wk w p e) (o:Obj):Wk (w.alloc o) p e:=h.kept (gr_alloc _ _)
theorem Wk.set {w:World} {p:Nat} {e:Int} (h:Wk w p e) (u:Int):Wk (w.setCell ⟨p,0,none⟩ (.int .i64 u)) p u:=by
 obtain ⟨t,ht,h⟩:=h
 exact ⟨t,ht,by rw [heap_setCell_same w p 0 _ _ _ h]; rfl⟩
theorem Wk.other {w:World} {p:Nat} {e:Int} (h:Wk w p e) {q:Addr} (hne:p≠q.block) (u:Value):Wk (w.setCell q u) p e:=by
 obtain ⟨t,ht,h⟩:=h
 exact ⟨t,ht,by rw [heap_setCell_other w q p u hne]; exact h⟩
theorem Wk.made (w:World) (e:Int) (t:TypeId) (ht:t≠64:=by decide):Wk (w.alloc (.cells #[.int .i64 e] t)) w.heap.size e:=⟨t,ht,heap_alloc_new w _⟩
theorem Wk.drew {w:World} {p:Nat} {e:Int} (h:Wk w p e):Wk w.drew p e:=h
theorem Lim.but {w w':World} {p:Nat} {e:Int} {a:Option Addr} {xs:List Nat} (h:Lim w a xs) (hk:Wk w p e) (hb:But p w w'):Lim w' a xs:=by
 rcases h.parts with h|⟨hp,b,off,ha,hlt,hc⟩
 ·exact Or.inl h
 ·have hne:b≠p:=by
   rintro rfl
   have h0:=hc 0 hp
   obtain ⟨t,_,hk⟩:=hk
   rw [cell_of_row w b (off+0) _ _ _ hk] at h0
   by_cases hz:off+0 = 0
   ·rw [hz] at h0; simp at h0
   ·rw [Array.getElem?_eq_none (by simp; omega)] at h0; cases h0
  refine Or.inr ⟨b,off,ha,fun j hj=>?_⟩
  rw [World.cell?_of_block (w:=w) (hb.block b hlt hne)]
  exact hc j hj
theorem Num.but {w w':World} {p:Nat} {e:Int} {a:Option Addr} {n m:Nat} (h:Num w a n m) (hk:Wk w p e) (hb:But p w w'):Num w' a n m:=by
 obtain ⟨xs,hn,hl,r⟩:=h
 exact ⟨xs,hn,hl.but hk hb,r⟩
theorem Own.but {w w':World} {base p:Nat} {e:Int} {v:Value} {xs:List Nat} (h:Own w base v xs) (hk:Wk w p e) (hb:But p w w'):Own w' base v xs:=by
 rcases h with h|⟨g,cap,cur,rfl,hg,hh,r⟩
 ·exact Or.inl h
 ·have hlt:g < w.heap.size:=by
   by_cases hlt:g < w.heap.size
   ·exact hlt
   ·rw [Array.getElem?_eq_none (by omega)] at hh; cases hh
  have hne:g≠p:=by
   rintro rfl
   obtain ⟨t,ht,hk⟩:=hk
   rw [hh] at hk
   injection hk with hk
   injection hk with _ hk
   exact ht hk.symm
  exact Or.inr ⟨g,cap,cur,rfl,hg,by rw [hb.block g hlt hne]; exact hh,r⟩
theorem Mine.but {w w':World} {base p:Nat} {e:Int} {a:Option Addr} {n cap m:Nat} (h:Mine w base a n cap m) (hk:Wk w p e) (hb:But p w w'):Mine w' base a n cap m:=by
 obtain ⟨xs,hn,ho,r⟩:=h
 exact ⟨xs,hn,ho.but hk hb,r⟩
def Kp (e0 e:Int):Int:=if e0 = 0 then e else e0
theorem Kp.ok {e0 e:Int} (h:Kp e0 e = 0):e0 = 0∧e = 0:=by
 unfold Kp at h; split at h
 ·exact ⟨‹_›,h⟩
 ·exact absurd h ‹_›
theorem Kp.zero (e:Int):Kp 0 e = e:=by simp [Kp]
theorem Kp.same (e0:Int):Kp e0 0 = e0:=by unfold Kp; split <;> simp_all
theorem keep_any (p:Nat) (e0 e:Int) (w:World) (hk:Wk w p e0) :
  Calls Tryz.prog 62 #[.pointer (some ⟨p,0,none⟩),.int .i64 e] w fun en w'=>en = .returned (.tuple #[])∧Wk w' p (Kp e0 e)∧But p w w':=by
 have hc:=hk.cell
 have hf:=hk.frozen
 by_cases h0:e0 = 0
 ·subst h0
  go_enter Tryz.func62,Tryz.ntmps62
  go_wp2
  go_end0
  exact ⟨rfl,by rw [Kp.zero]; exact hk.set e,(But.refl p w).set 0 _⟩
 ·have hb0:(e0 == 0) = false:=by simp [h0]
  have H0:=hide h0
  clear h0
  go_enter Tryz.func62,Tryz.ntmps62
  go_wp2
  go_end0
  exact ⟨rfl,by rw [Kp,if_neg (unhide H0)]; exact hk,But.refl p w⟩
def WAns (p:Nat) (e0:Int) (w:World) (R:Int→Nat→Prop) (en:Ending) (w':World):Prop:=
 ∃ a n c M e,en = .returned (.agg #[.slice a n c])∧Mine w' w.heap.size a n c M∧R e M∧Wk w' p (Kp e0 e)∧But p w w'
def DStp (e:Int) (Q R m d:Nat):Prop:=(d = 0∧e = 11∧Q = 0∧R = 0)∨(0 < d∧e = 0∧Q = m / d∧R = m % d)
def WAns2 (p:Nat) (e0:Int) (w:World) (R:Int→Nat→Nat→Prop) (en:Ending) (w':World):Prop:=
 ∃ a n c a' n' c' M M' e,en = .returned (.tuple #[.agg #[.slice a n c],.agg #[.slice a' n' c']])∧Mine w' w.heap.size a n c M∧Mine w' w.heap.size a' n' c' M'∧R e M M'∧Wk w' p (Kp e0 e)∧But p w w'
def FrO (k:Option (Nat×Int)) (w W:World):Prop:=match k with
 | none=>Below w.heap.size w W
 | some (p,_)=>But p w W
def WkO (k:Option (Nat×Int)) (W:World):Prop:=match k with
 | none=>True
 | some (p,e)=>Wk W p e
def NeO (k:Option (Nat×Int)) (b:Nat):Prop:=match k with
 | none=>True
 | some (p,_)=>b≠p
structure Rs (w0 W:World) (k:Option (Nat×Int)) (bs:List En) (ms:List (Option Addr×Nat×Nat)) (os:List (Option Addr×Nat×Nat×Nat)):Prop where
 wk:WkO k W
 bx:∀ x,x∈bs→W.heap[x.b]? = some (.cells x.cs x.t (0,0))∧NeO k x.b∧x.t≠64∧NoLimb x.cs.toList
 nm:∀ x,x∈ms→Num W x.1 x.2.1 x.2.2
 ow:∀ x,x∈os→Mine W w0.heap.size x.1 x.2.1 x.2.2.1 x.2.2.2
 fr:FrO k w0 W
theorem Rs.size {w0 W:World} {k:Option (Nat×Int)} {bs:List En} {ms:List (Option Addr×Nat×Nat)} {os:List (Option Addr×Nat×Nat×Nat)} (h:Rs w0 W k bs ms os):w0.heap.size≤W.heap.size:=by
 have:=h.fr
 match k,this with
 | none,h=>exact h.size
 | some (_,_),h=>exact h.size
theorem Rs.begin (w:World):Rs w w none [] [] []:=⟨trivial,(fun _ h=>nomatch h),(fun _ h=>nomatch h),(fun _ h=>nomatch h),Below.refl _ _⟩
theorem Rs.begin_work {w:World} {p:Nat} {e:Int} (h:Wk w p e):Rs w w (some (p,e)) [] [] []:=⟨h,(fun _ h=>nomatch h),(fun _ h=>nomatch h),(fun _ h=>nomatch h),But.refl _ _⟩
theorem Rs.kept {w0 W W':World} {k:Option (Nat×Int)} {bs:List En} {ms:List (Option Addr×Nat×Nat)} {os:List (Option Addr×Nat×Nat×Nat)} (h:Rs w0 W k bs ms os) (hb:Below W.heap.size W W'):Rs w0 W' k bs ms os:=by
 have hs:=h.size
 refine ⟨?_,fun x hx=>?_,fun x hx=>(h.nm x hx).kept hb,fun x hx=>(h.ow x hx).kept hb,?_⟩
 ·have:=h.wk
  match k,this with
  | none,_=>trivial
  | some (_,_),h=>exact Wk.kept h hb
 ·obtain ⟨h1,h2⟩:=h.bx x hx
  exact ⟨by rw [hb.block _ (block_lt h1)]; exact h1,h2⟩
 ·have:=h.fr
  match k,this with
  | none,h=>exact gr_trans h hb
  | some (_,_),h=>exact But.trans h (But.of hb)
theorem Rs.call {w0 W W':World} {p:Nat} {e e':Int} {bs:List En} {ms:List (Option Addr×Nat×Nat)} {os:List (Option Addr×Nat×Nat×Nat)} (h:Rs w0 W (some (p,e)) bs ms os) (hb:But p W W') (hk:Wk W' p e'):Rs w0 W' (some (p,e')) bs ms os:=by
 have hk0:Wk W p e:=h.wk
 refine ⟨hk,fun x hx=>?_,fun x hx=>(h.nm x hx).but hk0 hb,fun x hx=>(h.ow x hx).but hk0 hb,But.trans h.fr hb⟩
 obtain ⟨h1,h2,h3⟩:=h.bx x hx
 exact ⟨by rw [hb.block _ (block_lt h1) h2]; exact h1,h2,h3⟩
theorem Rs.alloc {w0 W:World} {k:Option (Nat×Int)} {bs:List En} {ms:List (Option Addr×Nat×Nat)} {os:List (Option Addr×Nat×Nat×Nat)} (h:Rs w0 W k bs ms os) (cs:Array Value) (t:TypeId) (ht:t≠64:=by decide) (hl:noLimb cs.toList = true:=by rfl):Rs w0 (W.alloc (.cells cs t)) k (⟨W.heap.size,cs,t⟩ :: bs) ms os:=by
 have h':=h.kept (gr_alloc W (.cells cs t))
 refine ⟨h'.wk,fun x hx=>?_,h'.nm,h'.ow,h'.fr⟩
 rcases List.mem_cons.1 hx with rfl|hx
 ·refine ⟨heap_alloc_new W _,?_,ht,noLimb_of _ hl⟩
  have:=h.wk
  match k,this with
  | none,_=>trivial
  | some (p,_),hk=>exact fun e=>by have:=Wk.lt hk; simp only at e; omega
 ·exact h'.bx x hx
theorem Rs.work {w0 W:World} {bs:List En} {ms:List (Option Addr×Nat×Nat)} {os:List (Option Addr×Nat×Nat×Nat)} (h:Rs w0 W none bs ms os):Rs w0 (W.alloc (.cells #[.int .i64 0] 110)) (some (W.heap.size,0)) bs ms os:=by
 have h':=h.kept (gr_alloc W (.cells #[.int .i64 0] 110))
 refine ⟨Wk.made W 0 _,fun x hx=>?_,h'.nm,h'.ow,But.of h'.fr⟩
 obtain ⟨h1,h2,h3⟩:=h'.bx x hx
 have:=block_lt (h.bx x hx).1
 exact ⟨h1,show x.b≠W.heap.size by omega,h3⟩
theorem Rs.num {w0 W:World} {k:Option (Nat×Int)} {bs:List En} {ms:List (Option Addr×Nat×Nat)} {os:List (Option Addr×Nat×Nat×Nat)} (h:Rs w0 W k bs ms os) {a:Option Addr} {n m:Nat} (hn:Num W a n m):Rs w0 W k bs ((a,n,m) :: ms) os:=
 ⟨h.wk,h.bx,fun x hx=>by rcases List.mem_cons.1 hx with rfl|hx; exact hn; exact h.nm x hx,h.ow,h.fr⟩
theorem Rs.own {w0 W:World} {k:Option (Nat×Int)} {bs:List En} {ms:List (Option Addr×Nat×Nat)} {os:List (Option Addr×Nat×Nat×Nat)} (h:Rs w0 W k bs ms os) {a:Option Addr} {n c m base:Nat} (hn:Mine W base a n c m) (hb:w0.heap.size≤base):Rs w0 W k bs ms ((a,n,c,m) :: os):=
 ⟨h.wk,h.bx,h.nm,fun x hx=>by rcases List.mem_cons.1 hx with rfl|hx; exact hn.mono hb; exact h.ow x hx,h.fr⟩
theorem Rs.drew {w0 W:World} {k:Option (Nat×Int)} {bs:List En} {ms:List (Option Addr×Nat×Nat)} {os:List (Option Addr×Nat×Nat×Nat)} (h:Rs w0 W k bs ms os):Rs w0 W.drew k bs ms os:=by
 refine ⟨?_,h.bx,h.nm,h.ow,?_⟩
 ·have:=h.wk
  match k,this with
  | none,_=>trivial
  | some (_,_),h=>exact h
 ·have:=h.fr
  match k,this with
  | none,h=>exact Below.drew h
  | some (_,_),h=>exact But.drew h
theorem Rs.cells {w0 W:World} {k:Option (Nat×Int)} {bs:List En} {ms:List (Option Addr×Nat×Nat)} {os:List (Option Addr×Nat×Nat×Nat)} (h:Rs w0 W k bs ms os):Cel W bs:=cel_of bs (fun x hx=>(h.bx x hx).1)
theorem Rs.frozen {w0 W:World} {k:Option (Nat×Int)} {bs:List En} {ms:List (Option Addr×Nat×Nat)} {os:List (Option Addr×Nat×Nat×Nat)} (h:Rs w0 W k bs ms os) {x:En} (hx:x∈bs) (j:Nat):W.frozen? ⟨x.b,j,none⟩ = false:=frozen_of_row W x.b j _ _ (h.bx x hx).1
theorem Rs.cz {w0 W:World} {k:Option (Nat×Int)} {bs:List En} {ms:List (Option Addr×Nat×Nat)} {os:List (Option Addr×Nat×Nat×Nat)} (h:Rs w0 W k bs ms os) (x:En) (hx:x∈bs):CelL W x.b 0 x.cs.toList∧∀ j,W.frozen? ⟨x.b,j,none⟩ = false:=⟨celL_of (h.bx x hx).1 _ 0 rfl,fun j=>h.frozen hx j⟩
theorem nb {p:Prop} (h:false = true):p:=Bool.noConfusion h
theorem Rs.put {w0 W:World} {k:Option (Nat×Int)} {bs:List En} {ms:List (Option Addr×Nat×Nat)} {os:List (Option Addr×Nat×Nat×Nat)} (h:Rs w0 W k bs ms os) {x:En} (hx:x∈bs) (hw:w0.heap.size≤x.b) (j:Nat) (u:Value) (hu:∀ z,u≠.int .u32 z) (bs':List En)
  (hbs:∀ y,y∈bs'→y = ⟨x.b,x.cs.setIfInBounds j u,x.t⟩∨(y∈bs∧y.b≠x.b)):Rs w0 (W.setCell ⟨x.b,j,none⟩ u) k bs' ms os:=by
 obtain ⟨h1,h2,h3,h4⟩:=h.bx x hx
 refine ⟨?_,fun y hy=>?_,fun y hy=>(h.nm y hy).put h1 h4 j u,fun y hy=>(h.ow y hy).put h1 h3 j u,?_⟩
 ·have:=h.wk
  match k,this,h2 with
  | none,_,_=>trivial
  | some (q,_),hk,h2=>exact Wk.other hk (show q≠x.b from Ne.symm (show x.b≠q from h2)) u
 ·rcases hbs y hy with rfl|⟨hy,hne⟩
  ·refine ⟨heap_setCell_same W x.b j _ _ _ h1,h2,h3,?_⟩
   intro v hv z
   simp only [Array.toList_setIfInBounds] at hv
   rcases List.mem_or_eq_of_mem_set hv with hv|rfl
   ·exact h4 v hv z
   ·exact hu z
  ·obtain ⟨q1,q2⟩:=h.bx y hy
   exact ⟨by rw [heap_setCell_other W _ y.b u hne]; exact q1,q2⟩
 ·have:=h.fr
  match k,this with
  | none,h=>exact Below.setCell h hw u
  | some (_,_),h=>exact But.setCell h hw u
abbrev Ms:=List (Option Addr×Nat×Nat)
abbrev Os:=List (Option Addr×Nat×Nat×Nat)
theorem Rs.sub {w0 W:World} {k:Option (Nat×Int)} {bs bs':List En} {ms ms':Ms} {os os':Os} (h:Rs w0 W k bs ms os) (hb:∀ x,x∈bs'→x∈bs) (hm:∀ x,x∈ms'→x∈ms) (ho:∀ x,x∈os'→x∈os):Rs w0 W k bs' ms' os':=
 ⟨h.wk,fun x hx=>h.bx x (hb x hx),fun x hx=>h.nm x (hm x hx),fun x hx=>h.ow x (ho x hx),h.fr⟩
structure Rc (w0:World) (S0:Nat) (bs:List En) (ms:Ms) (os:Os) (k:Option (Nat×Int)) (bs':List En) (os':Os) (w':World):Prop where
 st:Rs w0 w' k bs' ms os'
 sz:S0≤w'.heap.size
 old:∀ x,x∈bs→x∈bs'∧x.b < S0
 oso:∀ y,y∈os→y∈os'
 w0s:w0.heap.size≤S0
theorem Rc.start {w0 W:World} {k:Option (Nat×Int)} {bs bs1:List En} {ms:Ms} {os:Os} (h:Rs w0 W k bs1 ms os) (hb:∀ x,x∈bs→x∈bs1):Rc w0 W.heap.size bs ms os k bs1 os W:=
 ⟨h,Nat.le_refl _,fun x hx=>⟨hb x hx,block_lt (h.bx x (hb x hx)).1⟩,fun _ h=>h,h.size⟩
theorem Rs.cellAt {w0 W:World} {k:Option (Nat×Int)} {bs:List En} {ms:Ms} {os:Os} (h:Rs w0 W k bs ms os) {x:En} (hx:x∈bs) (j:Nat) (v:Value) (hv:x.cs[j]? = some v):W.cell? ⟨x.b,j,none⟩ = some v:=by
 rw [cell_of_row W x.b j _ _ _ (h.bx x hx).1]; exact hv
theorem Rc.alloc {w0:World} {S0:Nat} {bs:List En} {ms:Ms} {os:Os} {k:Option (Nat×Int)} {bs':List En} {os':Os} {w':World} (h:Rc w0 S0 bs ms os k bs' os' w') (cs:Array Value) (t:TypeId) (ht:t≠64:=by decide) (hl:noLimb cs.toList = true:=by rfl) :
  Rc w0 S0 bs ms os k (⟨w'.heap.size,cs,t⟩ :: bs') os' (w'.alloc (.cells cs t)):=
 ⟨h.st.alloc cs t ht hl,by have:=h.sz; simp only [World.size_alloc]; omega,fun x hx=>⟨List.mem_cons_of_mem _ (h.old x hx).1,(h.old x hx).2⟩,h.oso,h.w0s⟩
theorem Rc.call {w0:World} {S0:Nat} {bs:List En} {ms:Ms} {os:Os} {k k2:Option (Nat×Int)} {bs':List En} {os' os2:Os} {w' W:World} (h:Rc w0 S0 bs ms os k bs' os' w') (hs:Rs w0 W k2 bs' ms os2) (hz:w'.heap.size≤W.heap.size) (ho:∀ y,y∈os'→y∈os2):Rc w0 S0 bs ms os k2 bs' os2 W:=
 ⟨hs,Nat.le_trans h.sz hz,h.old,fun y hy=>ho y (h.oso y hy),h.w0s⟩
theorem Rc.store {w0:World} {S0:Nat} {bs:List En} {ms:Ms} {os:Os} {k:Option (Nat×Int)} {bs':List En} {os':Os} {w':World} (h:Rc w0 S0 bs ms os k bs' os' w') {g:Nat} {cs:Array Value} {t:TypeId} (hx:(⟨g,cs,t⟩:En)∈bs') (hw:w0.heap.size≤g) (hg:∀ x,x∈bs→x.b≠g) (j:Nat) (u:Value) (hu:∀ z,u≠.int .u32 z) :
  Rc w0 S0 bs ms os k (⟨g,cs.setIfInBounds j u,t⟩ :: bs'.filter (fun y=>y.b≠g)) os' (w'.setCell ⟨g,j,none⟩ u):=by
 refine ⟨h.st.put hx hw j u hu _ (fun y hy=>?_),by have:=h.sz; simpa [World.setCell] using this,fun x hx'=>⟨List.mem_cons_of_mem _ (List.mem_filter.2 ⟨(h.old x hx').1,by simpa using hg x hx'⟩),(h.old x hx').2⟩,h.oso,h.w0s⟩
 rcases List.mem_cons.1 hy with rfl|hy
 ·exact Or.inl rfl
 ·have:=List.mem_filter.1 hy
  exact Or.inr ⟨this.1,by simpa using this.2⟩
def upward (ops:Array Oper):Bool:=(List.range ops.size).all fun i=>match ops[i]? with
 | none=>true
 | some o=>o.after.all fun e=>!(Region.binds .any e) || decide (e.on < i)
theorem all_done {ops:Array Oper} {l:Array Bool} (hr:Region.ready .any ops l = []) (hu:upward ops = true) (hl:l.size = ops.size):∀ i,i < ops.size→l.getD i true = true:=by
 intro i
 induction i using Nat.strongRecOn with
 | ind i ih=>
  intro hi
  refine ready_nil (i:=i) (o:=ops[i]) hr (Array.getElem?_eq_getElem hi) (fun e he hb=>?_)
  have h:=List.all_eq_true.1 hu i (List.mem_range.2 hi)
  rw [Array.getElem?_eq_getElem hi] at h
  have h2:=Array.all_eq_true'.1 h e he
  rw [hb] at h2
  have h3:e.on < i:=by simpa using h2
  have h4:=ih e.on h3 (by omega)
  have hs:e.on < l.size:=by omega
  rw [Array.getD_eq_getD_getElem?] at h4 ⊢
  rw [Array.getElem?_eq_getElem hs] at h4 ⊢
  exact h4
structure Wz (e e':Int) (M X:Nat) (O:Prop):Prop where
 ok:e' = 0→e = 0∧M = X
 many:e = 0→e'≠0→e' = 4∧O
 stay:e≠0→e' = e
theorem Wz.of_ok {e r:Int} {M X:Nat} (h:r = 0∧M = X):Wz e (Kp e r) M X False:=by
 obtain ⟨rfl,rfl⟩:=h
 rw [Kp.same]
 exact ⟨fun h=>⟨h,rfl⟩,fun h0 h1=>absurd h0 h1,fun _=>rfl⟩
theorem Rs.more {w0 W W':World} {p n c M:Nat} {e r:Int} {a:Option Addr} {bs:List En} {ms:Ms} {os:Os} (hS:Rs w0 W (some (p,e)) bs ms os) (hm:Mine W' W.heap.size a n c M) (hk:Wk W' p r) (hb:But p W W'):Rs w0 W' (some (p,r)) bs ms ((a,n,c,M) :: os):=
 (hS.call hb hk).own hm hS.size
def One (w0 W:World) (p:Nat) (e:Int) (bs:List En) (ms:Ms) (os:Os) (X:Nat) (O:Prop) (en:Ending) (W':World):Prop:=
 ∃ a n c M e',en = .returned (.agg #[.slice a n c])∧Rs w0 W' (some (p,e')) bs ms ((a,n,c,M) :: os)∧Wz e e' M X O∧W.heap.size≤W'.heap.size
structure Wd (e e':Int) (Q R m d:Nat):Prop where
 ok:e' = 0→e = 0∧Q = m / d∧R = m % d∧0 < d
 zero:e = 0→e'≠0→d = 0
 stay:e≠0→e' = e
theorem Wd.of {e r:Int} {Q R m d:Nat} (h:DStp r Q R m d):Wd e (Kp e r) Q R m d:=by
 refine ⟨fun h0=>?_,fun h0 h1=>?_,fun h0=>by rw [Kp,if_neg h0]⟩
 ·obtain ⟨e1,e2⟩:=Kp.ok h0
  rcases h with ⟨_,h,_⟩|⟨h0,_,h1,h2⟩
  ·omega
  ·exact ⟨e1,h1,h2,h0⟩
 ·subst h0
  rw [Kp.zero] at h1
  rcases h with ⟨h,_⟩|⟨_,h,_⟩
  ·exact h
  ·exact absurd h h1
def OneD (w0 W:World) (p:Nat) (e:Int) (bs:List En) (ms:Ms) (os:Os) (m d:Nat) (en:Ending) (W':World):Prop:=
 ∃ a n c M e',en = .returned (.agg #[.slice a n c])∧Rs w0 W' (some (p,e')) bs ms ((a,n,c,M) :: os)∧(∃ R,Wd e e' M R m d)∧W.heap.size≤W'.heap.size
def Two (w0 W:World) (p:Nat) (_e:Int) (bs:List En) (ms:Ms) (os:Os) (P:Int→Nat→Nat→Prop) (en:Ending) (W':World):Prop:=
 ∃ a n c M a' n' c' M' e',en = .returned (.tuple #[.agg #[.slice a n c],.agg #[.slice a' n' c']])∧Rs w0 W' (some (p,e')) bs ms ((a',n',c',M') :: (a,n,c,M) :: os)∧P e' M M'∧W.heap.size≤W'.heap.size
def RunAns (p:Nat) (e0 er:Int) (v:Value) (w:World) (en:Ending) (w':World):Prop:=en = .returned v∧Wk w' p (Kp e0 er)∧But p w w'
theorem runNat_any (p:Nat) (e0 er:Int) (a:Option Addr) (n c:Nat) (w:World) (hk:Wk w p e0) :
  Calls Tryz.prog 24 #[.pointer (some ⟨p,0,none⟩),.agg #[.slice a n c],.int .i64 er] w (RunAns p e0 er (.agg #[.slice a n c]) w):=by
 have hS:=((Rs.begin_work hk).alloc #[.slice a n c] 26).alloc #[.slice none 0 0] 26
 simp only [World.size_alloc] at hS
 go_enter Tryz.func24,Tryz.ntmps24
 go_wp2_with fail
 refine (keep_any p e0 er _ hS.wk).mono ?_
 rintro en w1 ⟨rfl,hk1,hb1⟩
 have hS1:=hS.call hb1 hk1
 clear hb1 hk1 hS hk
 obtain ⟨⟨c0,-⟩,⟨c1,-⟩,-⟩:=hS1.cells
 have f1:=hS1.frozen (x:=⟨w.heap.size+1,#[.slice none 0 0],26⟩) (by simp) 0
 go_wp2
 have hS2:=hS1.put (x:=⟨w.heap.size+1,#[.slice none 0 0],26⟩) (by simp) (by simp only []; omega) 0 (.slice a n c) (by simp) [] (by simp)
 exact bodyPost_ret (v:=.agg #[.slice a n c]) (by simp [results,Tryz.results24,go_sem,c0]) rfl ⟨rfl,hS2.wk,hS2.fr⟩
theorem runNats_any (p:Nat) (e0 er:Int) (a a':Option Addr) (n n' c c':Nat) (w:World) (hk:Wk w p e0) :
  Calls Tryz.prog 124 #[.pointer (some ⟨p,0,none⟩),.agg #[.slice a n c],.agg #[.slice a' n' c'],.int .i64 er] w (RunAns p e0 er (.tuple #[.agg #[.slice a n c],.agg #[.slice a' n' c']]) w):=by
 have hS:=(((Rs.begin_work hk).alloc #[.slice a n c] 26).alloc #[.slice a' n' c'] 26).alloc #[.slice none 0 0] 26 |>.alloc #[.slice none 0 0] 26
 simp only [World.size_alloc] at hS
 go_enter Tryz.func124,Tryz.ntmps124
 go_wp2_with fail
 refine (keep_any p e0 er _ hS.wk).mono ?_
 rintro en w1 ⟨rfl,hk1,hb1⟩
 have hS1:=hS.call hb1 hk1
 clear hb1 hk1 hS hk
 obtain ⟨⟨c0,-⟩,⟨c1,-⟩,⟨c2,-⟩,⟨c3,-⟩,-⟩:=hS1.cells
 have f1:=hS1.frozen (x:=⟨w.heap.size+1+1,#[.slice none 0 0],26⟩) (by simp) 0
 have f2:=hS1.frozen (x:=⟨w.heap.size+1+1+1,#[.slice none 0 0],26⟩) (by simp) 0
 go_wp2
 go_region
 go_wp2
 have hS4:=((hS1.put (x:=⟨w.heap.size+1+1,#[.slice none 0 0],26⟩) (by simp) (by simp only []; omega) 0 (.slice a n c) (by simp) [⟨w.heap.size+1+1+1,#[.slice none 0 0],26⟩] (by simp)).put (x:=⟨w.heap.size+1+1+1,#[.slice none 0 0],26⟩) (by simp) (by simp only []; omega) 0 (.slice a' n' c') (by simp) [] (by simp)).drew
 exact bodyPost_ret (v:=.tuple #[.agg #[.slice a n c],.agg #[.slice a' n' c']]) (by simp [results,Tryz.results124,go_sem,c0,c1]) rfl ⟨rfl,hS4.wk,hS4.fr⟩
theorem W_rNat {w0 W:World} {p:Nat} {e er:Int} {bs:List En} {ms:Ms} {os:Os} (hS:Rs w0 W (some (p,e)) bs ms os) {a:Option Addr} {n m:Nat} (c:Nat) (h:Mine W w0.heap.size a n c m) :
  Calls Tryz.prog 24 #[.pointer (some ⟨p,0,none⟩),.agg #[.slice a n c],.int .i64 er] W (fun en W'=>∃ a n c M e',en = .returned (.agg #[.slice a n c])∧Rs w0 W' (some (p,e')) bs ms ((a,n,c,M) :: os)∧(M = m∧e' = Kp e er)∧W.heap.size≤W'.heap.size):=by
 refine (runNat_any p e er a n c W hS.wk).mono ?_
 rintro en W' ⟨rfl,hk,hb⟩
 exact ⟨a,n,c,m,_,rfl,(hS.call hb hk).own (h.but hS.wk hb) (Nat.le_refl _),⟨rfl,rfl⟩,hb.size⟩
theorem W_rNats {w0 W:World} {p:Nat} {e er:Int} {bs:List En} {ms:Ms} {os:Os} (hS:Rs w0 W (some (p,e)) bs ms os) {a a':Option Addr} {n n' m m':Nat} (c c':Nat) (h:Mine W w0.heap.size a n c m) (h':Mine W w0.heap.size a' n' c' m') :
  Calls Tryz.prog 124 #[.pointer (some ⟨p,0,none⟩),.agg #[.slice a n c],.agg #[.slice a' n' c'],.int .i64 er] W (Two w0 W p e bs ms os (fun e' Q R=>Q = m∧R = m'∧e' = Kp e er)):=by
 refine (runNats_any p e er a a' n n' c c' W hS.wk).mono ?_
 rintro en W' ⟨rfl,hk,hb⟩
 exact ⟨a,n,c,m,a',n',c',m',_,rfl,((hS.call hb hk).own (h.but hS.wk hb) (Nat.le_refl _)).own (h'.but hS.wk hb) (Nat.le_refl _),⟨rfl,rfl,rfl⟩,hb.size⟩
theorem W_oft {w0 W:World} {k:Option (Nat×Int)} {bs:List En} {ms:Ms} {os:Os} (hS:Rs w0 W k bs ms os) {f:Nat} {vs:Array Value} {M:Nat} {T:Option Addr→Nat→Nat→Value}
  (h:Calls Tryz.prog f vs W fun en W'=>(∃ a n c,en = .returned (T a n c)∧Mine W' W.heap.size a n c M)∧Below W.heap.size W W') :
  Calls Tryz.prog f vs W (fun en W'=>∃ a n c,en = .returned (T a n c)∧Rs w0 W' k bs ms ((a,n,c,M) :: os)∧W.heap.size≤W'.heap.size):=by
 refine h.mono ?_
 rintro en W' ⟨⟨a,n,c,rfl,hm⟩,hb⟩
 exact ⟨a,n,c,rfl,(hS.kept hb).own hm hS.size,hb.size⟩
theorem W_oft2 {w0 W:World} {k:Option (Nat×Int)} {bs:List En} {ms:Ms} {os:Os} (hS:Rs w0 W k bs ms os) {f:Nat} {vs:Array Value} {M M':Nat} {T:Option Addr→Nat→Nat→Option Addr→Nat→Nat→Value}
  (h:Calls Tryz.prog f vs W fun en W'=>(∃ a n c a' n' c',en = .returned (T a n c a' n' c')∧Mine W' W.heap.size a n c M∧Mine W' W.heap.size a' n' c' M')∧Below W.heap.size W W') :
  Calls Tryz.prog f vs W (fun en W'=>∃ a n c a' n' c',en = .returned (T a n c a' n' c')∧Rs w0 W' k bs ms ((a',n',c',M') :: (a,n,c,M) :: os)∧W.heap.size≤W'.heap.size):=by
 refine h.mono ?_
 rintro en W' ⟨⟨a,n,c,a',n',c',rfl,hm,hm'⟩,hb⟩
 exact ⟨a,n,c,a',n',c',rfl,((hS.kept hb).own hm hS.size).own hm' hS.size,hb.size⟩
structure Wgcd1S where
 (b0 b1 b2 b3 b4 b5 b6 b7 b8 b9:Bool)
 (v0 v1 v2 v3 v4 v5 v6 v7 v8:Value)
 (A5:Option Addr)
 (N5 C5:Nat)
 (A8:Option Addr)
 (N8 C8:Nat)
 (M8:Nat)
 (E8:Int)
 bs9:List En
 os9:Os
structure Wgcd1R (w:World) (p:Nat) (e0:Int) (a a':Option Addr) (n n' cap cap' m m':Nat) (M:Nat) (er:Int) (S9:Nat) (b0 b1 b2 b3 b4 b5 b6 b7 b8 b9:Bool) (v0 v1 v2 v3 v4 v5 v6 v7 v8:Value) (A5:Option Addr) (N5 C5:Nat) (A8:Option Addr) (N8 C8:Nat) (M8:Nat) (E8:Int) (bs9:List En) (os9:Os) (w':World):Prop where
 hc:Rc w S9 [⟨w.heap.size+1,#[.slice a' n' cap'],26⟩,⟨w.heap.size,#[.slice a n cap],26⟩] [(a',n',m'),(a,n,m)] [] (some ((p),(cond b8 E8 e0))) bs9 os9 w'
 f0:b0 = true→v0 = .pointer (some ⟨p,0,none⟩)
 f1:b1 = true→v1 = .pointer (some ⟨p,0,none⟩)
 f2:b2 = true→v2 = .pointer (some ⟨p,0,none⟩)
 f3:b3 = true→v3 = .agg #[.slice a n cap]
 f4:b4 = true→v4 = .agg #[.slice a' n' cap']
 f5:b5 = true→v5 = .tuple #[.agg #[.slice A5 N5 C5],.int .i64 er]∧(A5,N5,C5,M)∈os9
 f6:b6 = true→v6 = .agg #[.slice A5 N5 C5]
 f7:b7 = true→v7 = .int .i64 er
 f8:b8 = true→v8 = .agg #[.slice A8 N8 C8]∧(A8,N8,C8,M8)∈os9∧(M8 = M∧E8 = Kp e0 er)
 o0_0:b9 = false→⟨w.heap.size+1+1,#[.slice none 0 0],26⟩∈bs9
 o0_1:b9 = true→⟨w.heap.size+1+1,#[.slice A8 N8 C8],26⟩∈bs9
 g6_5:b6 = true→b5 = true
 g7_5:b7 = true→b5 = true
 g8_5:b8 = true→b5 = true
 g9_8:b9 = true→b8 = true
 g9_5:b9 = true→b5 = true
def Wgcd1I (w:World) (p:Nat) (e0:Int) (a a':Option Addr) (n n' cap cap' m m':Nat) (M:Nat) (er:Int) (S9:Nat) (l:Array Bool) (act:Act) (w':World):Wgcd1S→Prop
 | ⟨b0,b1,b2,b3,b4,b5,b6,b7,b8,b9,v0,v1,v2,v3,v4,v5,v6,v7,v8,A5,N5,C5,A8,N8,C8,M8,E8,bs9,os9⟩=>l = #[b0,b1,b2,b3,b4,b5,b6,b7,b8,b9]∧act = { tmps:=#[.pointer (some ⟨p,0,none⟩),.agg #[.slice a n cap],.agg #[.slice a' n' cap'],undef,.pointer (some ⟨w.heap.size,0,none⟩),.pointer (some ⟨w.heap.size+1,0,none⟩),.pointer (some ⟨w.heap.size+1+1,0,none⟩),v0,v1,v2,v3,v4,v5,v6,v7,v8],defers:=[] }∧Wgcd1R w p e0 a a' n n' cap cap' m m' M er S9 b0 b1 b2 b3 b4 b5 b6 b7 b8 b9 v0 v1 v2 v3 v4 v5 v6 v7 v8 A5 N5 C5 A8 N8 C8 M8 E8 bs9 os9 w'
theorem wgcd_w (w:World) (p:Nat) (e0:Int) (a a':Option Addr) (n n' cap cap' m m':Nat) (M:Nat) (er:Int) (hk:Wk w p e0) (h:Num w a n m) (h':Num w a' n' m') (HC:Hid (∀ (W:World) (a:Option Addr) (n c:Nat) (a':Option Addr) (n' c':Nat),Num W a n m→Num W a' n' m'→Calls Tryz.prog 72 #[.agg #[.slice a n c],.agg #[.slice a' n' c']] W fun en W'=>(∃ a n c,en = .returned (.tuple #[.agg #[.slice a n c],.int .i64 er])∧Mine W' W.heap.size a n c M)∧Below W.heap.size W W')) :
  Calls Tryz.prog 69 #[.pointer (some ⟨p,0,none⟩),.agg #[.slice a n cap],.agg #[.slice a' n' cap']] w fun en w'=>∃ a n c,en = .returned (.agg #[.slice a n c])∧Mine w' w.heap.size a n c M∧Wk w' p (Kp e0 er)∧But p w w':=by
 have hS:=Rs.begin_work hk
 replace hS:=hS.num h
 replace hS:=hS.num h'
 replace hS:=hS.alloc #[.slice a n cap] 26
 try simp only [World.size_alloc] at hS
 replace hS:=hS.alloc #[.slice a' n' cap'] 26
 try simp only [World.size_alloc] at hS
 replace hS:=hS.alloc #[.slice none 0 0] 26
 try simp only [World.size_alloc] at hS
 go_enter Tryz.func69,Tryz.ntmps69
 go_wp2_with fail
 refine wp_region_any (by kernel_rfl) ?_
 change wpAny _ _ _ _ _ _ _ (World.drew _)
 have hS9:=hS.drew
 have hsW9:(World.drew (((w.alloc (.cells #[.slice a n cap] 26)).alloc (.cells #[.slice a' n' cap'] 26)).alloc (.cells #[.slice none 0 0] 26))).heap.size = w.heap.size+1+1+1:=by first|rfl|simp
 generalize World.drew (((w.alloc (.cells #[.slice a n cap] 26)).alloc (.cells #[.slice a' n' cap'] 26)).alloc (.cells #[.slice none 0 0] 26)) = Wd at hS9 hsW9 ⊢
 obtain ⟨S9,hS9z⟩:∃ x,x = Wd.heap.size:=⟨_,rfl⟩
 have hC9:=Rc.start (bs:=[⟨w.heap.size+1,#[.slice a' n' cap'],26⟩,⟨w.heap.size,#[.slice a n cap],26⟩]) hS9 (by simp)
 rw [← hS9z] at hC9
 have hP9_0:=hS9.bx ⟨w.heap.size+1+1,#[.slice none 0 0],26⟩ (by simp)
 have hP9_0:=block_lt hP9_0.1
 rw [← hS9z] at hP9_0
 simp only [] at hP9_0
 refine wpAny_inv (fun l act w'=>∃ σ,Wgcd1I w p e0 a a' n n' cap cap' m m' M er S9 l act w' σ) ?_ ?_ _ _ _ _ ?_ ?_
 ·intro l act w' i9 hI9 hi9 hl9
  have hin9:i9 < 10:=by
   by_cases h:i9 < 10
   ·exact h
   ·obtain ⟨⟨⟩,rfl,_⟩:=hI9
    rw [Array.getElem?_eq_none (by simp; omega)] at hl9; cases hl9
  have hcase:i9 = 0∨i9 = 1∨i9 = 2∨i9 = 3∨i9 = 4∨i9 = 5∨i9 = 6∨i9 = 7∨i9 = 8∨i9 = 9:=by omega
  clear hin9
  obtain ⟨⟨b0,b1,b2,b3,b4,b5,b6,b7,b8,b9,v0,v1,v2,v3,v4,v5,v6,v7,v8,A5,N5,C5,A8,N8,C8,M8,E8,bs9,os9⟩,rfl,rfl,hR⟩:=hI9
  rcases hcase with rfl|rfl|rfl|rfl|rfl|rfl|rfl|rfl|rfl|rfl
  ·obtain rfl:b0 = false:=by simpa using hl9
   have hc:=hR.hc
   refine wpOp_step rfl fun K hK=>?_
   go_simp
   exact hK _ _ ⟨⟨_,_,_,_,_,_,_,_,_,_,_,_,_,_,_,_,_,_,_,A5,N5,C5,A8,N8,C8,M8,E8,_,_⟩,rfl,rfl,{ hR with hc:=hc,f0:=(fun _=>rfl) }⟩
  ·obtain rfl:b1 = false:=by simpa using hl9
   obtain ⟨o9,ho9,hd9⟩:=(mem_ready.1 hi9).2
   cases ho9
   have e0:b0 = true:=hd9 ⟨0,.data⟩ (by simp) rfl
   subst e0
   have h9:=hR.f0 rfl
   subst h9
   have hc:=hR.hc
   refine wpOp_step rfl fun K hK=>?_
   go_simp
   exact hK _ _ ⟨⟨_,_,_,_,_,_,_,_,_,_,_,_,_,_,_,_,_,_,_,A5,N5,C5,A8,N8,C8,M8,E8,_,_⟩,rfl,rfl,{ hR with hc:=hc,f1:=(fun _=>rfl) }⟩
  ·obtain rfl:b2 = false:=by simpa using hl9
   obtain ⟨o9,ho9,hd9⟩:=(mem_ready.1 hi9).2
   cases ho9
   have e1:b1 = true:=hd9 ⟨1,.data⟩ (by simp) rfl
   subst e1
   have h9:=hR.f1 rfl
   subst h9
   have hc:=hR.hc
   refine wpOp_step rfl fun K hK=>?_
   go_simp
   exact hK _ _ ⟨⟨_,_,_,_,_,_,_,_,_,_,_,_,_,_,_,_,_,_,_,A5,N5,C5,A8,N8,C8,M8,E8,_,_⟩,rfl,rfl,{ hR with hc:=hc,f2:=(fun _=>rfl) }⟩
  ·obtain rfl:b3 = false:=by simpa using hl9
   have hc:=hR.hc
   have c9_0:=hc.st.cellAt (hc.old ⟨w.heap.size,#[.slice a n cap],26⟩ (by simp)).1 0 (.slice a n cap) rfl
   simp only [] at c9_0
   refine wpOp_step rfl fun K hK=>?_
   go_simp
   exact hK _ _ ⟨⟨_,_,_,_,_,_,_,_,_,_,_,_,_,_,_,_,_,_,_,A5,N5,C5,A8,N8,C8,M8,E8,_,_⟩,rfl,rfl,{ hR with hc:=hc,f3:=(fun _=>rfl) }⟩
  ·obtain rfl:b4 = false:=by simpa using hl9
   have hc:=hR.hc
   have c9_0:=hc.st.cellAt (hc.old ⟨w.heap.size+1,#[.slice a' n' cap'],26⟩ (by simp)).1 0 (.slice a' n' cap') rfl
   simp only [] at c9_0
   refine wpOp_step rfl fun K hK=>?_
   go_simp
   exact hK _ _ ⟨⟨_,_,_,_,_,_,_,_,_,_,_,_,_,_,_,_,_,_,_,A5,N5,C5,A8,N8,C8,M8,E8,_,_⟩,rfl,rfl,{ hR with hc:=hc,f4:=(fun _=>rfl) }⟩
  ·obtain rfl:b5 = false:=by simpa using hl9
   obtain ⟨o9,ho9,hd9⟩:=(mem_ready.1 hi9).2
   cases ho9
   have e3:b3 = true:=hd9 ⟨3,.data⟩ (by simp) rfl
   have e4:b4 = true:=hd9 ⟨4,.data⟩ (by simp) rfl
   subst e3 e4
   have h9:=hR.f3 rfl
   subst h9
   have h9:=hR.f4 rfl
   subst h9
   have hc:=hR.hc
   have HR:=hide hR
   clear hR
   refine wpOp_step rfl fun K hK=>?_
   go_simp
   go_wp2_with fail
   refine (W_oft hc.st (unhide HC _ _ _ _ _ _ _ (hc.st.nm (a,n,m) (by simp)) (hc.st.nm (a',n',m') (by simp)))).mono ?_
   rintro en w9 ⟨a9,n9,c9,rfl,hs9,hz9⟩
   have hR:=unhide HR
   exact hK _ _ ⟨⟨_,_,_,_,_,_,_,_,_,_,_,_,_,_,_,_,_,_,_,_,_,_,A8,N8,C8,M8,E8,_,_⟩,rfl,rfl,{ hR with hc:=(hc.call hs9 hz9 (fun y hy=>List.mem_cons_of_mem _ hy)),f5:=(fun _=>⟨rfl,List.mem_cons_self ..⟩),f6:=(fun h=>Bool.noConfusion (hR.g6_5 h)),f7:=(fun h=>Bool.noConfusion (hR.g7_5 h)),f8:=(fun h=>Bool.noConfusion (hR.g8_5 h)),o0_1:=(fun h=>Bool.noConfusion (hR.g9_5 h)),g6_5:=(fun _=>rfl),g7_5:=(fun _=>rfl),g8_5:=(fun _=>rfl),g9_5:=(fun _=>rfl) }⟩
  ·obtain rfl:b6 = false:=by simpa using hl9
   obtain ⟨o9,ho9,hd9⟩:=(mem_ready.1 hi9).2
   cases ho9
   have e5:b5 = true:=hd9 ⟨5,.data⟩ (by simp) rfl
   subst e5
   have q5:=hR.f5 rfl
   obtain ⟨h9,q5m⟩:=q5
   subst h9
   have hc:=hR.hc
   refine wpOp_step rfl fun K hK=>?_
   go_simp
   exact hK _ _ ⟨⟨_,_,_,_,_,_,_,_,_,_,_,_,_,_,_,_,_,_,_,A5,N5,C5,A8,N8,C8,M8,E8,_,_⟩,rfl,rfl,{ hR with hc:=hc,f6:=(fun _=>rfl),g6_5:=(fun _=>rfl) }⟩
  ·obtain rfl:b7 = false:=by simpa using hl9
   obtain ⟨o9,ho9,hd9⟩:=(mem_ready.1 hi9).2
   cases ho9
   have e5:b5 = true:=hd9 ⟨5,.data⟩ (by simp) rfl
   subst e5
   have q5:=hR.f5 rfl
   obtain ⟨h9,q5m⟩:=q5
   subst h9
   have hc:=hR.hc
   refine wpOp_step rfl fun K hK=>?_
   go_simp
   exact hK _ _ ⟨⟨_,_,_,_,_,_,_,_,_,_,_,_,_,_,_,_,_,_,_,A5,N5,C5,A8,N8,C8,M8,E8,_,_⟩,rfl,rfl,{ hR with hc:=hc,f7:=(fun _=>rfl),g7_5:=(fun _=>rfl) }⟩
  ·obtain rfl:b8 = false:=by simpa using hl9
   obtain ⟨o9,ho9,hd9⟩:=(mem_ready.1 hi9).2
   cases ho9
   have e2:b2 = true:=hd9 ⟨2,.data⟩ (by simp) rfl
   have e6:b6 = true:=hd9 ⟨6,.data⟩ (by simp) rfl
   have e7:b7 = true:=hd9 ⟨7,.data⟩ (by simp) rfl
   subst e2 e6 e7
   have h9:=hR.f2 rfl
   subst h9
   obtain rfl:b5 = true:=hR.g6_5 rfl
   have q5:=hR.f5 rfl
   obtain ⟨h9,q5m⟩:=q5
   subst h9
   have h9:=hR.f6 rfl
   subst h9
   have h9:=hR.f7 rfl
   subst h9
   have hc:=hR.hc
   simp only [cond_false] at hc
   have HR:=hide hR
   clear hR
   refine wpOp_step rfl fun K hK=>?_
   go_simp
   go_wp2_with fail
   refine (W_rNat hc.st C5 (hc.st.ow _ q5m)).mono ?_
   rintro en w9 ⟨a9,n9,c9,m9,e9,rfl,hs9,hz,hz9⟩
   have hR:=unhide HR
   exact hK _ _ ⟨⟨_,_,_,_,_,_,_,_,_,_,_,_,_,_,_,_,_,_,_,A5,N5,C5,_,_,_,_,_,_,_⟩,rfl,rfl,{ hR with hc:=(hc.call hs9 hz9 (fun y hy=>List.mem_cons_of_mem _ hy)),f5:=(fun h=>⟨(hR.f5 h).1,List.mem_cons_of_mem _ (hR.f5 h).2⟩),f8:=(fun _=>⟨rfl,List.mem_cons_self ..,hz⟩),o0_1:=(fun h=>Bool.noConfusion (hR.g9_8 h)),g8_5:=(fun _=>rfl),g9_8:=(fun _=>rfl) }⟩
  ·obtain rfl:b9 = false:=by simpa using hl9
   obtain ⟨o9,ho9,hd9⟩:=(mem_ready.1 hi9).2
   cases ho9
   have e8:b8 = true:=hd9 ⟨8,.data⟩ (by simp) rfl
   subst e8
   have q8:=hR.f8 rfl
   obtain ⟨h9,q8m,q8z⟩:=q8
   subst h9
   have hc:=hR.hc
   have hm9:=hR.o0_0 rfl
   have fz9_0:=hc.st.frozen hm9 0
   have cz9_0:=hc.st.cellAt hm9 0 (.slice none 0 0) rfl
   simp only [] at fz9_0 cz9_0
   have hn9:∀ x,x∈([⟨w.heap.size+1,#[.slice a' n' cap'],26⟩,⟨w.heap.size,#[.slice a n cap],26⟩]:List En)→x.b≠w.heap.size+1+1:=by intro x hx; rcases List.mem_cons.1 hx with rfl|hx; (simp only []; omega); rcases List.mem_cons.1 hx with rfl|hx; (simp only []; omega);  exact absurd hx List.not_mem_nil
   have hw9:w.heap.size≤w.heap.size+1+1:=by omega
   refine wpOp_step rfl fun K hK=>?_
   go_simp
   exact hK _ _ ⟨⟨_,_,_,_,_,_,_,_,_,_,_,_,_,_,_,_,_,_,_,A5,N5,C5,A8,N8,C8,M8,E8,_,_⟩,rfl,rfl,{ hR with hc:=(hc.store hm9 hw9 hn9 0 (.slice A8 N8 C8) (by simp)),o0_0:=(fun h=>Bool.noConfusion h),o0_1:=(fun _=>List.mem_cons_self ..),g9_8:=(fun _=>rfl),g9_5:=(fun _=>hR.g8_5 rfl) }⟩
 ·rintro l act Wq1 ⟨⟨b0,b1,b2,b3,b4,b5,b6,b7,b8,b9,v0,v1,v2,v3,v4,v5,v6,v7,v8,x1_A5,x1_N5,x1_C5,x1_A8,x1_N8,x1_C8,x1_M8,x1_E8,bs9,os9⟩,rfl,rfl,hR⟩ hr9
  obtain ⟨hc,f0,f1,f2,f3,f4,f5,f6,f7,f8,o0_0,o0_1,g6_5,g7_5,g8_5,g9_8,g9_5⟩:=hR
  have eall:=all_done hr9 (by kernel_rfl) rfl
  obtain rfl:b0 = true:=eall 0 (by decide)
  obtain rfl:b1 = true:=eall 1 (by decide)
  obtain rfl:b2 = true:=eall 2 (by decide)
  obtain rfl:b3 = true:=eall 3 (by decide)
  obtain rfl:b4 = true:=eall 4 (by decide)
  obtain rfl:b5 = true:=eall 5 (by decide)
  obtain rfl:b6 = true:=eall 6 (by decide)
  obtain rfl:b7 = true:=eall 7 (by decide)
  obtain rfl:b8 = true:=eall 8 (by decide)
  obtain rfl:b9 = true:=eall 9 (by decide)
  clear hr9 eall
  have h9:=f0 rfl
  subst h9
  have h9:=f1 rfl
  subst h9
  have h9:=f2 rfl
  subst h9
  have h9:=f3 rfl
  subst h9
  have h9:=f4 rfl
  subst h9
  obtain ⟨h9,q5m⟩:=f5 rfl
  subst h9
  have h9:=f6 rfl
  subst h9
  have h9:=f7 rfl
  subst h9
  obtain ⟨h9,q8m,qx1_8⟩:=f8 rfl
  subst h9
  simp only [cond_true] at hc
  have hbs9:∀ x,x∈([⟨w.heap.size+1+1,#[.slice x1_A8 x1_N8 x1_C8],26⟩,⟨w.heap.size+1,#[.slice a' n' cap'],26⟩,⟨w.heap.size,#[.slice a n cap],26⟩]:List En)→x∈bs9:=by
   intro x hx
   rcases List.mem_cons.1 hx with rfl|hx
   ·exact (o0_1 rfl)
   rcases List.mem_cons.1 hx with rfl|hx
   ·exact (hc.old _ (by simp)).1
   rcases List.mem_cons.1 hx with rfl|hx
   ·exact (hc.old _ (by simp)).1
   exact absurd hx List.not_mem_nil
  have hos9:∀ x,x∈([(x1_A5,x1_N5,x1_C5,M),(x1_A8,x1_N8,x1_C8,x1_M8)]:Os)→x∈os9:=by
   intro x hx
   rcases List.mem_cons.1 hx with rfl|hx
   ·exact q5m
   rcases List.mem_cons.1 hx with rfl|hx
   ·exact q8m
   exact absurd hx List.not_mem_nil
  have hS:=hc.st.sub hbs9 (fun x hx=>hx) hos9
  have hsz9:=hc.sz
  rw [hS9z,hsW9] at hsz9
  clear hbs9 hos9 hc f0 f1 f2 f3 f4 f5 f6 f7 f8 o0_0 o0_1 g6_5 g7_5 g8_5 g9_8 g9_5
  clear q5m q8m
  have hz1:=hsz9
  clear hsz9 hS9z hS9 hC9 hsW9
  have Qx1_8:=hide qx1_8
  clear qx1_8
  obtain ⟨⟨k0_0,-⟩,z0⟩:=hS.cz ⟨w.heap.size+1+1,#[.slice x1_A8 x1_N8 x1_C8],26⟩ (by simp)
  have z0_0:=z0 0
  clear z0
  simp only [] at k0_0 z0_0
  go_wp2
  obtain ⟨rfl,rfl⟩:=unhide Qx1_8
  exact bodyPost_ret (v:=.agg #[.slice x1_A8 x1_N8 x1_C8]) (by simp [results,Tryz.results69,go_sem,k0_0]) rfl ⟨_,_,_,rfl,hS.ow (x1_A8,x1_N8,x1_C8,_) (by simp),hS.wk,hS.fr⟩
 ·simp
 ·exact ⟨⟨false,false,false,false,false,false,false,false,false,false,undef,undef,undef,undef,undef,undef,undef,undef,undef,none,0,0,none,0,0,0,0,_,_⟩,rfl,rfl,⟨hC9,nb,nb,nb,nb,nb,nb,nb,nb,nb,(fun _=>by simp),nb,nb,nb,nb,nb,nb⟩⟩
structure Wdiv1S where
 (b0 b1 b2 b3 b4 b5 b6 b7 b8 b9 b10 b11 b12 b13:Bool)
 (v0 v1 v2 v3 v4 v5 v6 v7 v8 v9 v10 v11:Value)
 (A5:Option Addr)
 (N5 C5:Nat)
 (P5:Option Addr) (Q5 R5:Nat)
 (A9:Option Addr)
 (N9 C9:Nat)
 (M9:Nat)
 (P9:Option Addr) (Q9 R9 L9:Nat)
 (E9:Int)
 bs9:List En
 os9:Os
structure Wdiv1R (w:World) (p:Nat) (e0:Int) (a a':Option Addr) (n n' cap cap' m m':Nat) (M L:Nat) (er:Int) (S9:Nat) (b0 b1 b2 b3 b4 b5 b6 b7 b8 b9 b10 b11 b12 b13:Bool) (v0 v1 v2 v3 v4 v5 v6 v7 v8 v9 v10 v11:Value) (A5:Option Addr) (N5 C5:Nat) (P5:Option Addr) (Q5 R5:Nat) (A9:Option Addr) (N9 C9:Nat) (M9:Nat) (P9:Option Addr) (Q9 R9 L9:Nat) (E9:Int) (bs9:List En) (os9:Os) (w':World):Prop where
 hc:Rc w S9 [⟨w.heap.size+1,#[.slice a' n' cap'],26⟩,⟨w.heap.size,#[.slice a n cap],26⟩] [(a',n',m'),(a,n,m)] [] (some ((p),(cond b9 E9 e0))) bs9 os9 w'
 f0:b0 = true→v0 = .pointer (some ⟨p,0,none⟩)
 f1:b1 = true→v1 = .pointer (some ⟨p,0,none⟩)
 f2:b2 = true→v2 = .pointer (some ⟨p,0,none⟩)
 f3:b3 = true→v3 = .agg #[.slice a n cap]
 f4:b4 = true→v4 = .agg #[.slice a' n' cap']
 f5:b5 = true→v5 = .tuple #[.agg #[.slice A5 N5 C5],.agg #[.slice P5 Q5 R5],.int .i64 er]∧(A5,N5,C5,M)∈os9∧(P5,Q5,R5,L)∈os9
 f6:b6 = true→v6 = .agg #[.slice A5 N5 C5]
 f7:b7 = true→v7 = .agg #[.slice P5 Q5 R5]
 f8:b8 = true→v8 = .int .i64 er
 f9:b9 = true→v9 = .tuple #[.agg #[.slice A9 N9 C9],.agg #[.slice P9 Q9 R9]]∧((A9,N9,C9,M9)∈os9∧(P9,Q9,R9,L9)∈os9)∧(M9 = M∧L9 = L∧E9 = Kp e0 er)
 f10:b10 = true→v10 = .agg #[.slice A9 N9 C9]
 f11:b11 = true→v11 = .agg #[.slice P9 Q9 R9]
 o0_0:b12 = false→⟨w.heap.size+1+1,#[.slice none 0 0],26⟩∈bs9
 o0_1:b12 = true→⟨w.heap.size+1+1,#[.slice A9 N9 C9],26⟩∈bs9
 o1_0:b13 = false→⟨w.heap.size+1+1+1,#[.slice none 0 0],26⟩∈bs9
 o1_1:b13 = true→⟨w.heap.size+1+1+1,#[.slice P9 Q9 R9],26⟩∈bs9
 g6_5:b6 = true→b5 = true
 g7_5:b7 = true→b5 = true
 g8_5:b8 = true→b5 = true
 g9_5:b9 = true→b5 = true
 g10_9:b10 = true→b9 = true
 g10_5:b10 = true→b5 = true
 g11_9:b11 = true→b9 = true
 g11_5:b11 = true→b5 = true
 g12_10:b12 = true→b10 = true
 g12_9:b12 = true→b9 = true
 g12_5:b12 = true→b5 = true
 g13_11:b13 = true→b11 = true
 g13_9:b13 = true→b9 = true
 g13_5:b13 = true→b5 = true
 g13_12:b13 = true→b12 = true
def Wdiv1I (w:World) (p:Nat) (e0:Int) (a a':Option Addr) (n n' cap cap' m m':Nat) (M L:Nat) (er:Int) (S9:Nat) (l:Array Bool) (act:Act) (w':World):Wdiv1S→Prop
 | ⟨b0,b1,b2,b3,b4,b5,b6,b7,b8,b9,b10,b11,b12,b13,v0,v1,v2,v3,v4,v5,v6,v7,v8,v9,v10,v11,A5,N5,C5,P5,Q5,R5,A9,N9,C9,M9,P9,Q9,R9,L9,E9,bs9,os9⟩=>l = #[b0,b1,b2,b3,b4,b5,b6,b7,b8,b9,b10,b11,b12,b13]∧act = { tmps:=#[.pointer (some ⟨p,0,none⟩),.agg #[.slice a n cap],.agg #[.slice a' n' cap'],undef,.pointer (some ⟨w.heap.size,0,none⟩),.pointer (some ⟨w.heap.size+1,0,none⟩),.pointer (some ⟨w.heap.size+1+1,0,none⟩),.pointer (some ⟨w.heap.size+1+1+1,0,none⟩),v0,v1,v2,v3,v4,v5,v6,v7,v8,v9,v10,v11],defers:=[] }∧Wdiv1R w p e0 a a' n n' cap cap' m m' M L er S9 b0 b1 b2 b3 b4 b5 b6 b7 b8 b9 b10 b11 b12 b13 v0 v1 v2 v3 v4 v5 v6 v7 v8 v9 v10 v11 A5 N5 C5 P5 Q5 R5 A9 N9 C9 M9 P9 Q9 R9 L9 E9 bs9 os9 w'
theorem wdiv_w (w:World) (p:Nat) (e0:Int) (a a':Option Addr) (n n' cap cap' m m':Nat) (M L:Nat) (er:Int) (hk:Wk w p e0) (h:Num w a n m) (h':Num w a' n' m') (HC:Hid (∀ (W:World) (a:Option Addr) (n c:Nat) (a':Option Addr) (n' c':Nat),Num W a n m→Num W a' n' m'→Calls Tryz.prog 107 #[.agg #[.slice a n c],.agg #[.slice a' n' c']] W fun en W'=>(∃ a n c a' n' c',en = .returned (.tuple #[.agg #[.slice a n c],.agg #[.slice a' n' c'],.int .i64 er])∧Mine W' W.heap.size a n c M∧Mine W' W.heap.size a' n' c' L)∧Below W.heap.size W W')) :
  Calls Tryz.prog 101 #[.pointer (some ⟨p,0,none⟩),.agg #[.slice a n cap],.agg #[.slice a' n' cap']] w fun en w'=>∃ a n c a' n' c',en = .returned (.tuple #[.agg #[.slice a n c],.agg #[.slice a' n' c']])∧Mine w' w.heap.size a n c M∧Mine w' w.heap.size a' n' c' L∧Wk w' p (Kp e0 er)∧But p w w':=by
 have hS:=Rs.begin_work hk
 replace hS:=hS.num h
 replace hS:=hS.num h'
 replace hS:=hS.alloc #[.slice a n cap] 26
 try simp only [World.size_alloc] at hS
 replace hS:=hS.alloc #[.slice a' n' cap'] 26
 try simp only [World.size_alloc] at hS
 replace hS:=hS.alloc #[.slice none 0 0] 26
 try simp only [World.size_alloc] at hS
 replace hS:=hS.alloc #[.slice none 0 0] 26
 try simp only [World.size_alloc] at hS
 go_enter Tryz.func101,Tryz.ntmps101
 go_wp2_with fail
 refine wp_region_any (by kernel_rfl) ?_
 change wpAny _ _ _ _ _ _ _ (World.drew _)
 have hS9:=hS.drew
 have hsW9:(World.drew ((((w.alloc (.cells #[.slice a n cap] 26)).alloc (.cells #[.slice a' n' cap'] 26)).alloc (.cells #[.slice none 0 0] 26)).alloc (.cells #[.slice none 0 0] 26))).heap.size = w.heap.size+1+1+1+1:=by first|rfl|simp
 generalize World.drew ((((w.alloc (.cells #[.slice a n cap] 26)).alloc (.cells #[.slice a' n' cap'] 26)).alloc (.cells #[.slice none 0 0] 26)).alloc (.cells #[.slice none 0 0] 26)) = Wd at hS9 hsW9 ⊢
 obtain ⟨S9,hS9z⟩:∃ x,x = Wd.heap.size:=⟨_,rfl⟩
 have hC9:=Rc.start (bs:=[⟨w.heap.size+1,#[.slice a' n' cap'],26⟩,⟨w.heap.size,#[.slice a n cap],26⟩]) hS9 (by simp)
 rw [← hS9z] at hC9
 have hP9_0:=hS9.bx ⟨w.heap.size+1+1,#[.slice none 0 0],26⟩ (by simp)
 have hP9_0:=block_lt hP9_0.1
 rw [← hS9z] at hP9_0
 simp only [] at hP9_0
 have hP9_1:=hS9.bx ⟨w.heap.size+1+1+1,#[.slice none 0 0],26⟩ (by simp)
 have hP9_1:=block_lt hP9_1.1
 rw [← hS9z] at hP9_1
 simp only [] at hP9_1
 refine wpAny_inv (fun l act w'=>∃ σ,Wdiv1I w p e0 a a' n n' cap cap' m m' M L er S9 l act w' σ) ?_ ?_ _ _ _ _ ?_ ?_
 ·intro l act w' i9 hI9 hi9 hl9
  have hin9:i9 < 14:=by
   by_cases h:i9 < 14
   ·exact h
   ·obtain ⟨⟨⟩,rfl,_⟩:=hI9
    rw [Array.getElem?_eq_none (by simp; omega)] at hl9; cases hl9
  have hcase:i9 = 0∨i9 = 1∨i9 = 2∨i9 = 3∨i9 = 4∨i9 = 5∨i9 = 6∨i9 = 7∨i9 = 8∨i9 = 9∨i9 = 10∨i9 = 11∨i9 = 12∨i9 = 13:=by omega
  clear hin9
  obtain ⟨⟨b0,b1,b2,b3,b4,b5,b6,b7,b8,b9,b10,b11,b12,b13,v0,v1,v2,v3,v4,v5,v6,v7,v8,v9,v10,v11,A5,N5,C5,P5,Q5,R5,A9,N9,C9,M9,P9,Q9,R9,L9,E9,bs9,os9⟩,rfl,rfl,hR⟩:=hI9
  rcases hcase with rfl|rfl|rfl|rfl|rfl|rfl|rfl|rfl|rfl|rfl|rfl|rfl|rfl|rfl
  ·obtain rfl:b0 = false:=by simpa using hl9
   have hc:=hR.hc
   refine wpOp_step rfl fun K hK=>?_
   go_simp
   exact hK _ _ ⟨⟨_,_,_,_,_,_,_,_,_,_,_,_,_,_,_,_,_,_,_,_,_,_,_,_,_,_,A5,N5,C5,P5,Q5,R5,A9,N9,C9,M9,P9,Q9,R9,L9,E9,_,_⟩,rfl,rfl,{ hR with hc:=hc,f0:=(fun _=>rfl) }⟩
  ·obtain rfl:b1 = false:=by simpa using hl9
   obtain ⟨o9,ho9,hd9⟩:=(mem_ready.1 hi9).2
   cases ho9
   have e0:b0 = true:=hd9 ⟨0,.data⟩ (by simp) rfl
   subst e0
   have h9:=hR.f0 rfl
   subst h9
   have hc:=hR.hc
   refine wpOp_step rfl fun K hK=>?_
   go_simp
   exact hK _ _ ⟨⟨_,_,_,_,_,_,_,_,_,_,_,_,_,_,_,_,_,_,_,_,_,_,_,_,_,_,A5,N5,C5,P5,Q5,R5,A9,N9,C9,M9,P9,Q9,R9,L9,E9,_,_⟩,rfl,rfl,{ hR with hc:=hc,f1:=(fun _=>rfl) }⟩
  ·obtain rfl:b2 = false:=by simpa using hl9
   obtain ⟨o9,ho9,hd9⟩:=(mem_ready.1 hi9).2
   cases ho9
   have e1:b1 = true:=hd9 ⟨1,.data⟩ (by simp) rfl
   subst e1
   have h9:=hR.f1 rfl
   subst h9
   have hc:=hR.hc
   refine wpOp_step rfl fun K hK=>?_
   go_simp
   exact hK _ _ ⟨⟨_,_,_,_,_,_,_,_,_,_,_,_,_,_,_,_,_,_,_,_,_,_,_,_,_,_,A5,N5,C5,P5,Q5,R5,A9,N9,C9,M9,P9,Q9,R9,L9,E9,_,_⟩,rfl,rfl,{ hR with hc:=hc,f2:=(fun _=>rfl) }⟩
  ·obtain rfl:b3 = false:=by simpa using hl9
   have hc:=hR.hc
   have c9_0:=hc.st.cellAt (hc.old ⟨w.heap.size,#[.slice a n cap],26⟩ (by simp)).1 0 (.slice a n cap) rfl
   simp only [] at c9_0
   refine wpOp_step rfl fun K hK=>?_
   go_simp
   exact hK _ _ ⟨⟨_,_,_,_,_,_,_,_,_,_,_,_,_,_,_,_,_,_,_,_,_,_,_,_,_,_,A5,N5,C5,P5,Q5,R5,A9,N9,C9,M9,P9,Q9,R9,L9,E9,_,_⟩,rfl,rfl,{ hR with hc:=hc,f3:=(fun _=>rfl) }⟩
  ·obtain rfl:b4 = false:=by simpa using hl9
   have hc:=hR.hc
   have c9_0:=hc.st.cellAt (hc.old ⟨w.heap.size+1,#[.slice a' n' cap'],26⟩ (by simp)).1 0 (.slice a' n' cap') rfl
   simp only [] at c9_0
   refine wpOp_step rfl fun K hK=>?_
   go_simp
   exact hK _ _ ⟨⟨_,_,_,_,_,_,_,_,_,_,_,_,_,_,_,_,_,_,_,_,_,_,_,_,_,_,A5,N5,C5,P5,Q5,R5,A9,N9,C9,M9,P9,Q9,R9,L9,E9,_,_⟩,rfl,rfl,{ hR with hc:=hc,f4:=(fun _=>rfl) }⟩
  ·obtain rfl:b5 = false:=by simpa using hl9
   obtain ⟨o9,ho9,hd9⟩:=(mem_ready.1 hi9).2
   cases ho9
   have e3:b3 = true:=hd9 ⟨3,.data⟩ (by simp) rfl
   have e4:b4 = true:=hd9 ⟨4,.data⟩ (by simp) rfl
   subst e3 e4
   have h9:=hR.f3 rfl
   subst h9
   have h9:=hR.f4 rfl
   subst h9
   have hc:=hR.hc
   have HR:=hide hR
   clear hR
   refine wpOp_step rfl fun K hK=>?_
   go_simp
   go_wp2_with fail
   refine (W_oft2 hc.st (unhide HC _ _ _ _ _ _ _ (hc.st.nm (a,n,m) (by simp)) (hc.st.nm (a',n',m') (by simp)))).mono ?_
   rintro en w9 ⟨a9,n9,c9,a8,n8,c8,rfl,hs9,hz9⟩
   have hR:=unhide HR
   exact hK _ _ ⟨⟨_,_,_,_,_,_,_,_,_,_,_,_,_,_,_,_,_,_,_,_,_,_,_,_,_,_,_,_,_,_,_,_,A9,N9,C9,M9,P9,Q9,R9,L9,E9,_,_⟩,rfl,rfl,{ hR with hc:=(hc.call hs9 hz9 (fun y hy=>List.mem_cons_of_mem _ (List.mem_cons_of_mem _ hy))),f5:=(fun _=>⟨rfl,List.mem_cons_of_mem _ (List.mem_cons_self ..),List.mem_cons_self ..⟩),f6:=(fun h=>Bool.noConfusion (hR.g6_5 h)),f7:=(fun h=>Bool.noConfusion (hR.g7_5 h)),f8:=(fun h=>Bool.noConfusion (hR.g8_5 h)),f9:=(fun h=>Bool.noConfusion (hR.g9_5 h)),f10:=(fun h=>Bool.noConfusion (hR.g10_5 h)),f11:=(fun h=>Bool.noConfusion (hR.g11_5 h)),o0_1:=(fun h=>Bool.noConfusion (hR.g12_5 h)),o1_1:=(fun h=>Bool.noConfusion (hR.g13_5 h)),g6_5:=(fun _=>rfl),g7_5:=(fun _=>rfl),g8_5:=(fun _=>rfl),g9_5:=(fun _=>rfl),g10_5:=(fun _=>rfl),g11_5:=(fun _=>rfl),g12_5:=(fun _=>rfl),g13_5:=(fun _=>rfl) }⟩
  ·obtain rfl:b6 = false:=by simpa using hl9
   obtain ⟨o9,ho9,hd9⟩:=(mem_ready.1 hi9).2
   cases ho9
   have e5:b5 = true:=hd9 ⟨5,.data⟩ (by simp) rfl
   subst e5
   have q5:=hR.f5 rfl
   obtain ⟨h9,q5m⟩:=q5
   subst h9
   have hc:=hR.hc
   refine wpOp_step rfl fun K hK=>?_
   go_simp
   exact hK _ _ ⟨⟨_,_,_,_,_,_,_,_,_,_,_,_,_,_,_,_,_,_,_,_,_,_,_,_,_,_,A5,N5,C5,P5,Q5,R5,A9,N9,C9,M9,P9,Q9,R9,L9,E9,_,_⟩,rfl,rfl,{ hR with hc:=hc,f6:=(fun _=>rfl),g6_5:=(fun _=>rfl) }⟩
  ·obtain rfl:b7 = false:=by simpa using hl9
   obtain ⟨o9,ho9,hd9⟩:=(mem_ready.1 hi9).2
   cases ho9
   have e5:b5 = true:=hd9 ⟨5,.data⟩ (by simp) rfl
   subst e5
   have q5:=hR.f5 rfl
   obtain ⟨h9,q5m⟩:=q5
   subst h9
   have hc:=hR.hc
   refine wpOp_step rfl fun K hK=>?_
   go_simp
   exact hK _ _ ⟨⟨_,_,_,_,_,_,_,_,_,_,_,_,_,_,_,_,_,_,_,_,_,_,_,_,_,_,A5,N5,C5,P5,Q5,R5,A9,N9,C9,M9,P9,Q9,R9,L9,E9,_,_⟩,rfl,rfl,{ hR with hc:=hc,f7:=(fun _=>rfl),g7_5:=(fun _=>rfl) }⟩
  ·obtain rfl:b8 = false:=by simpa using hl9
   obtain ⟨o9,ho9,hd9⟩:=(mem_ready.1 hi9).2
   cases ho9
   have e5:b5 = true:=hd9 ⟨5,.data⟩ (by simp) rfl
   subst e5
   have q5:=hR.f5 rfl
   obtain ⟨h9,q5m⟩:=q5
   subst h9
   have hc:=hR.hc
   refine wpOp_step rfl fun K hK=>?_
   go_simp
   exact hK _ _ ⟨⟨_,_,_,_,_,_,_,_,_,_,_,_,_,_,_,_,_,_,_,_,_,_,_,_,_,_,A5,N5,C5,P5,Q5,R5,A9,N9,C9,M9,P9,Q9,R9,L9,E9,_,_⟩,rfl,rfl,{ hR with hc:=hc,f8:=(fun _=>rfl),g8_5:=(fun _=>rfl) }⟩
  ·obtain rfl:b9 = false:=by simpa using hl9
   obtain ⟨o9,ho9,hd9⟩:=(mem_ready.1 hi9).2
   cases ho9
   have e2:b2 = true:=hd9 ⟨2,.data⟩ (by simp) rfl
   have e6:b6 = true:=hd9 ⟨6,.data⟩ (by simp) rfl
   have e7:b7 = true:=hd9 ⟨7,.data⟩ (by simp) rfl
   have e8:b8 = true:=hd9 ⟨8,.data⟩ (by simp) rfl
   subst e2 e6 e7 e8
   have h9:=hR.f2 rfl
   subst h9
   obtain rfl:b5 = true:=hR.g6_5 rfl
   have q5:=hR.f5 rfl
   obtain ⟨h9,q5m⟩:=q5
   subst h9
   have h9:=hR.f6 rfl
   subst h9
   have h9:=hR.f7 rfl
   subst h9
   have h9:=hR.f8 rfl
   subst h9
   have hc:=hR.hc
   simp only [cond_false] at hc
   have HR:=hide hR
   clear hR
   refine wpOp_step rfl fun K hK=>?_
   go_simp
   go_wp2_with fail
   refine (W_rNats hc.st C5 R5 (hc.st.ow _ q5m.1) (hc.st.ow _ q5m.2)).mono ?_
   rintro en w9 ⟨a9,n9,c9,m9,a8,n8,c8,m8,e9,rfl,hs9,hz,hz9⟩
   have hR:=unhide HR
   exact hK _ _ ⟨⟨_,_,_,_,_,_,_,_,_,_,_,_,_,_,_,_,_,_,_,_,_,_,_,_,_,_,A5,N5,C5,P5,Q5,R5,_,_,_,_,_,_,_,_,_,_,_⟩,rfl,rfl,{ hR with hc:=(hc.call hs9 hz9 (fun y hy=>List.mem_cons_of_mem _ (List.mem_cons_of_mem _ hy))),f5:=(fun h=>⟨(hR.f5 h).1,List.mem_cons_of_mem _ (List.mem_cons_of_mem _ (hR.f5 h).2.1),List.mem_cons_of_mem _ (List.mem_cons_of_mem _ (hR.f5 h).2.2)⟩),f9:=(fun _=>⟨rfl,⟨List.mem_cons_of_mem _ (List.mem_cons_self ..),List.mem_cons_self ..⟩,hz⟩),f10:=(fun h=>Bool.noConfusion (hR.g10_9 h)),f11:=(fun h=>Bool.noConfusion (hR.g11_9 h)),o0_1:=(fun h=>Bool.noConfusion (hR.g12_9 h)),o1_1:=(fun h=>Bool.noConfusion (hR.g13_9 h)),g9_5:=(fun _=>rfl),g10_9:=(fun _=>rfl),g11_9:=(fun _=>rfl),g12_9:=(fun _=>rfl),g13_9:=(fun _=>rfl) }⟩
  ·obtain rfl:b10 = false:=by simpa using hl9
   obtain ⟨o9,ho9,hd9⟩:=(mem_ready.1 hi9).2
   cases ho9
   have e9:b9 = true:=hd9 ⟨9,.data⟩ (by simp) rfl
   subst e9
   have q9:=hR.f9 rfl
   obtain ⟨h9,q9m,q9z⟩:=q9
   subst h9
   have hc:=hR.hc
   refine wpOp_step rfl fun K hK=>?_
   go_simp
   exact hK _ _ ⟨⟨_,_,_,_,_,_,_,_,_,_,_,_,_,_,_,_,_,_,_,_,_,_,_,_,_,_,A5,N5,C5,P5,Q5,R5,A9,N9,C9,M9,P9,Q9,R9,L9,E9,_,_⟩,rfl,rfl,{ hR with hc:=hc,f10:=(fun _=>rfl),o0_1:=(fun h=>Bool.noConfusion (hR.g12_10 h)),g10_9:=(fun _=>rfl),g10_5:=(fun _=>hR.g9_5 rfl),g12_10:=(fun _=>rfl) }⟩
  ·obtain rfl:b11 = false:=by simpa using hl9
   obtain ⟨o9,ho9,hd9⟩:=(mem_ready.1 hi9).2
   cases ho9
   have e9:b9 = true:=hd9 ⟨9,.data⟩ (by simp) rfl
   subst e9
   have q9:=hR.f9 rfl
   obtain ⟨h9,q9m,q9z⟩:=q9
   subst h9
   have hc:=hR.hc
   refine wpOp_step rfl fun K hK=>?_
   go_simp
   exact hK _ _ ⟨⟨_,_,_,_,_,_,_,_,_,_,_,_,_,_,_,_,_,_,_,_,_,_,_,_,_,_,A5,N5,C5,P5,Q5,R5,A9,N9,C9,M9,P9,Q9,R9,L9,E9,_,_⟩,rfl,rfl,{ hR with hc:=hc,f11:=(fun _=>rfl),o1_1:=(fun h=>Bool.noConfusion (hR.g13_11 h)),g11_9:=(fun _=>rfl),g11_5:=(fun _=>hR.g9_5 rfl),g13_11:=(fun _=>rfl) }⟩
  ·obtain rfl:b12 = false:=by simpa using hl9
   obtain ⟨o9,ho9,hd9⟩:=(mem_ready.1 hi9).2
   cases ho9
   have e10:b10 = true:=hd9 ⟨10,.data⟩ (by simp) rfl
   subst e10
   obtain rfl:b9 = true:=hR.g10_9 rfl
   have q9:=hR.f9 rfl
   obtain ⟨h9,q9m,q9z⟩:=q9
   subst h9
   obtain rfl:b5 = true:=hR.g10_5 rfl
   have q5:=hR.f5 rfl
   obtain ⟨h9,q5m⟩:=q5
   subst h9
   have h9:=hR.f10 rfl
   subst h9
   have hc:=hR.hc
   have hm9:=hR.o0_0 rfl
   have fz9_0:=hc.st.frozen hm9 0
   have cz9_0:=hc.st.cellAt hm9 0 (.slice none 0 0) rfl
   simp only [] at fz9_0 cz9_0
   have hn9:∀ x,x∈([⟨w.heap.size+1,#[.slice a' n' cap'],26⟩,⟨w.heap.size,#[.slice a n cap],26⟩]:List En)→x.b≠w.heap.size+1+1:=by intro x hx; rcases List.mem_cons.1 hx with rfl|hx; (simp only []; omega); rcases List.mem_cons.1 hx with rfl|hx; (simp only []; omega);  exact absurd hx List.not_mem_nil
   have hw9:w.heap.size≤w.heap.size+1+1:=by omega
   refine wpOp_step rfl fun K hK=>?_
   go_simp
   exact hK _ _ ⟨⟨_,_,_,_,_,_,_,_,_,_,_,_,_,_,_,_,_,_,_,_,_,_,_,_,_,_,A5,N5,C5,P5,Q5,R5,A9,N9,C9,M9,P9,Q9,R9,L9,E9,_,_⟩,rfl,rfl,{ hR with hc:=(hc.store hm9 hw9 hn9 0 (.slice A9 N9 C9) (by simp)),o0_0:=(fun h=>Bool.noConfusion h),o0_1:=(fun _=>List.mem_cons_self ..),o1_0:=(fun h0=>(List.mem_cons_of_mem _ (List.mem_filter.2 ⟨(hR.o1_0 h0),by simp only [ne_eq,decide_not,Bool.not_eq_eq_eq_not,Bool.not_true,decide_eq_false_iff_not]; omega⟩))),o1_1:=(fun h0=>(List.mem_cons_of_mem _ (List.mem_filter.2 ⟨(hR.o1_1 h0),by simp only [ne_eq,decide_not,Bool.not_eq_eq_eq_not,Bool.not_true,decide_eq_false_iff_not]; omega⟩))),g12_10:=(fun _=>rfl),g12_9:=(fun _=>rfl),g12_5:=(fun _=>rfl),g13_12:=(fun _=>rfl) }⟩
  ·obtain rfl:b13 = false:=by simpa using hl9
   obtain ⟨o9,ho9,hd9⟩:=(mem_ready.1 hi9).2
   cases ho9
   have e11:b11 = true:=hd9 ⟨11,.data⟩ (by simp) rfl
   have e12:b12 = true:=hd9 ⟨12,.chain⟩ (by simp) rfl
   subst e11 e12
   obtain rfl:b9 = true:=hR.g11_9 rfl
   have q9:=hR.f9 rfl
   obtain ⟨h9,q9m,q9z⟩:=q9
   subst h9
   obtain rfl:b5 = true:=hR.g11_5 rfl
   have q5:=hR.f5 rfl
   obtain ⟨h9,q5m⟩:=q5
   subst h9
   have h9:=hR.f11 rfl
   subst h9
   have hc:=hR.hc
   have hm9:=hR.o1_0 rfl
   have fz9_0:=hc.st.frozen hm9 0
   have cz9_0:=hc.st.cellAt hm9 0 (.slice none 0 0) rfl
   simp only [] at fz9_0 cz9_0
   have hn9:∀ x,x∈([⟨w.heap.size+1,#[.slice a' n' cap'],26⟩,⟨w.heap.size,#[.slice a n cap],26⟩]:List En)→x.b≠w.heap.size+1+1+1:=by intro x hx; rcases List.mem_cons.1 hx with rfl|hx; (simp only []; omega); rcases List.mem_cons.1 hx with rfl|hx; (simp only []; omega);  exact absurd hx List.not_mem_nil
   have hw9:w.heap.size≤w.heap.size+1+1+1:=by omega
   refine wpOp_step rfl fun K hK=>?_
   go_simp
   exact hK _ _ ⟨⟨_,_,_,_,_,_,_,_,_,_,_,_,_,_,_,_,_,_,_,_,_,_,_,_,_,_,A5,N5,C5,P5,Q5,R5,A9,N9,C9,M9,P9,Q9,R9,L9,E9,_,_⟩,rfl,rfl,{ hR with hc:=(hc.store hm9 hw9 hn9 0 (.slice P9 Q9 R9) (by simp)),o0_0:=(fun h0=>(List.mem_cons_of_mem _ (List.mem_filter.2 ⟨(hR.o0_0 h0),by simp only [ne_eq,decide_not,Bool.not_eq_eq_eq_not,Bool.not_true,decide_eq_false_iff_not]; omega⟩))),o0_1:=(fun h0=>(List.mem_cons_of_mem _ (List.mem_filter.2 ⟨(hR.o0_1 h0),by simp only [ne_eq,decide_not,Bool.not_eq_eq_eq_not,Bool.not_true,decide_eq_false_iff_not]; omega⟩))),o1_0:=(fun h=>Bool.noConfusion h),o1_1:=(fun _=>List.mem_cons_self ..),g13_11:=(fun _=>rfl),g13_9:=(fun _=>rfl),g13_5:=(fun _=>rfl),g13_12:=(fun _=>rfl) }⟩
 ·rintro l act Wq1 ⟨⟨b0,b1,b2,b3,b4,b5,b6,b7,b8,b9,b10,b11,b12,b13,v0,v1,v2,v3,v4,v5,v6,v7,v8,v9,v10,v11,x1_A5,x1_N5,x1_C5,x1_P5,x1_Q5,x1_R5,x1_A9,x1_N9,x1_C9,x1_M9,x1_P9,x1_Q9,x1_R9,x1_L9,x1_E9,bs9,os9⟩,rfl,rfl,hR⟩ hr9
  obtain ⟨hc,f0,f1,f2,f3,f4,f5,f6,f7,f8,f9,f10,f11,o0_0,o0_1,o1_0,o1_1,g6_5,g7_5,g8_5,g9_5,g10_9,g10_5,g11_9,g11_5,g12_10,g12_9,g12_5,g13_11,g13_9,g13_5,g13_12⟩:=hR
  have eall:=all_done hr9 (by kernel_rfl) rfl
  obtain rfl:b0 = true:=eall 0 (by decide)
  obtain rfl:b1 = true:=eall 1 (by decide)
  obtain rfl:b2 = true:=eall 2 (by decide)
  obtain rfl:b3 = true:=eall 3 (by decide)
  obtain rfl:b4 = true:=eall 4 (by decide)
  obtain rfl:b5 = true:=eall 5 (by decide)
  obtain rfl:b6 = true:=eall 6 (by decide)
  obtain rfl:b7 = true:=eall 7 (by decide)
  obtain rfl:b8 = true:=eall 8 (by decide)
  obtain rfl:b9 = true:=eall 9 (by decide)
  obtain rfl:b10 = true:=eall 10 (by decide)
  obtain rfl:b11 = true:=eall 11 (by decide)
  obtain rfl:b12 = true:=eall 12 (by decide)
  obtain rfl:b13 = true:=eall 13 (by decide)
  clear hr9 eall
  have h9:=f0 rfl
  subst h9
  have h9:=f1 rfl
  subst h9
  have h9:=f2 rfl
  subst h9
  have h9:=f3 rfl
  subst h9
  have h9:=f4 rfl
  subst h9
  obtain ⟨h9,q5m,q5m2⟩:=f5 rfl
  subst h9
  have h9:=f6 rfl
  subst h9
  have h9:=f7 rfl
  subst h9
  have h9:=f8 rfl
  subst h9
  obtain ⟨h9,⟨q9m,q9m2⟩,qx1_9⟩:=f9 rfl
  subst h9
  have h9:=f10 rfl
  subst h9
  have h9:=f11 rfl
  subst h9
  simp only [cond_true] at hc
  have hbs9:∀ x,x∈([⟨w.heap.size+1+1+1,#[.slice x1_P9 x1_Q9 x1_R9],26⟩,⟨w.heap.size+1+1,#[.slice x1_A9 x1_N9 x1_C9],26⟩,⟨w.heap.size+1,#[.slice a' n' cap'],26⟩,⟨w.heap.size,#[.slice a n cap],26⟩]:List En)→x∈bs9:=by
   intro x hx
   rcases List.mem_cons.1 hx with rfl|hx
   ·exact (o1_1 rfl)
   rcases List.mem_cons.1 hx with rfl|hx
   ·exact (o0_1 rfl)
   rcases List.mem_cons.1 hx with rfl|hx
   ·exact (hc.old _ (by simp)).1
   rcases List.mem_cons.1 hx with rfl|hx
   ·exact (hc.old _ (by simp)).1
   exact absurd hx List.not_mem_nil
  have hos9:∀ x,x∈([(x1_A5,x1_N5,x1_C5,M),(x1_P5,x1_Q5,x1_R5,L),(x1_A9,x1_N9,x1_C9,x1_M9),(x1_P9,x1_Q9,x1_R9,x1_L9)]:Os)→x∈os9:=by
   intro x hx
   rcases List.mem_cons.1 hx with rfl|hx
   ·exact q5m
   rcases List.mem_cons.1 hx with rfl|hx
   ·exact q5m2
   rcases List.mem_cons.1 hx with rfl|hx
   ·exact q9m
   rcases List.mem_cons.1 hx with rfl|hx
   ·exact q9m2
   exact absurd hx List.not_mem_nil
  have hS:=hc.st.sub hbs9 (fun x hx=>hx) hos9
  have hsz9:=hc.sz
  rw [hS9z,hsW9] at hsz9
  clear hbs9 hos9 hc f0 f1 f2 f3 f4 f5 f6 f7 f8 f9 f10 f11 o0_0 o0_1 o1_0 o1_1 g6_5 g7_5 g8_5 g9_5 g10_9 g10_5 g11_9 g11_5 g12_10 g12_9 g12_5 g13_11 g13_9 g13_5 g13_12
  clear q5m q5m2 q9m q9m2
  have hz1:=hsz9
  clear hsz9 hS9z hS9 hC9 hsW9
  have Qx1_9:=hide qx1_9
  clear qx1_9
  obtain ⟨⟨k0_0,-⟩,z0⟩:=hS.cz ⟨w.heap.size+1+1+1,#[.slice x1_P9 x1_Q9 x1_R9],26⟩ (by simp)
  have z0_0:=z0 0
  clear z0
  obtain ⟨⟨k1_0,-⟩,z1⟩:=hS.cz ⟨w.heap.size+1+1,#[.slice x1_A9 x1_N9 x1_C9],26⟩ (by simp)
  have z1_0:=z1 0
  clear z1
  simp only [] at k0_0 z0_0 k1_0 z1_0
  go_wp2
  obtain ⟨rfl,rfl,rfl⟩:=unhide Qx1_9
  exact bodyPost_ret (v:=.tuple #[.agg #[.slice x1_A9 x1_N9 x1_C9],.agg #[.slice x1_P9 x1_Q9 x1_R9]]) (by simp [results,Tryz.results101,go_sem,k0_0,k1_0]) rfl ⟨_,_,_,_,_,_,rfl,hS.ow (x1_A9,x1_N9,x1_C9,_) (by simp),hS.ow (x1_P9,x1_Q9,x1_R9,_) (by simp),hS.wk,hS.fr⟩
 ·simp
 ·exact ⟨⟨false,false,false,false,false,false,false,false,false,false,false,false,false,false,undef,undef,undef,undef,undef,undef,undef,undef,undef,undef,undef,undef,none,0,0,none,0,0,none,0,0,0,none,0,0,0,0,_,_⟩,rfl,rfl,⟨hC9,nb,nb,nb,nb,nb,nb,nb,nb,nb,nb,nb,nb,(fun _=>by simp),nb,(fun _=>by simp),nb,nb,nb,nb,nb,nb,nb,nb,nb,nb,nb,nb,nb,nb,nb,nb⟩⟩
theorem wgcd_any (p:Nat) (e0:Int) (a a':Option Addr) (n n' cap cap' m m':Nat) (w:World) (hk:Wk w p e0) (h:Num w a n m) (h':Num w a' n' m') :
  Calls Tryz.prog 69 #[.pointer (some ⟨p,0,none⟩),.agg #[.slice a n cap],.agg #[.slice a' n' cap']] w (WAns p e0 w fun e M=>e = 0∧M = Nat.gcd m m'):=by
 refine (wgcd_w w p e0 a a' n n' cap cap' m m' (Nat.gcd m m') 0 hk h h' (hide fun W a n c a' n' c' g g'=>gcd_any a a' n n' c c' m m' W g g')).mono ?_
 rintro en w' ⟨a,n,c,rfl,h1,h2,h3⟩
 exact ⟨a,n,c,_,0,rfl,h1,⟨rfl,rfl⟩,h2,h3⟩
theorem wdiv_any (p:Nat) (e0:Int) (a a':Option Addr) (n n' cap cap' m m':Nat) (w:World) (hk:Wk w p e0) (h:Num w a n m) (h':Num w a' n' m') :
  Calls Tryz.prog 101 #[.pointer (some ⟨p,0,none⟩),.agg #[.slice a n cap],.agg #[.slice a' n' cap']] w (WAns2 p e0 w fun e Q R=>DStp e Q R m m'):=by
 rcases Nat.eq_zero_or_pos m' with h0|h0
 ·refine (wdiv_w w p e0 a a' n n' cap cap' m m' 0 0 11 hk h h' (hide fun W a n c a' n' c' g g'=>(div_any a a' n n' c c' m m' W g g').mono ?_)).mono ?_
  ·rintro en W' ⟨h1,hb⟩
   rcases h1 with ⟨_,rfl⟩|⟨hd,_⟩
   ·exact ⟨⟨none,0,0,none,0,0,rfl,mine_nil _ _,mine_nil _ _⟩,hb⟩
   ·omega
  ·rintro en w' ⟨a,n,c,a',n',c',rfl,h1,h2,h3,h4⟩
   exact ⟨a,n,c,a',n',c',0,0,11,rfl,h1,h2,Or.inl ⟨h0,rfl,rfl,rfl⟩,h3,h4⟩
 ·refine (wdiv_w w p e0 a a' n n' cap cap' m m' (m / m') (m % m') 0 hk h h' (hide fun W a n c a' n' c' g g'=>(div_any a a' n n' c c' m m' W g g').mono ?_)).mono ?_
  ·rintro en W' ⟨h1,hb⟩
   rcases h1 with ⟨hd,rfl⟩|⟨_,aq,nq,cq,ar,nr,cr,rfl,h1,h2⟩
   ·omega
   ·exact ⟨⟨aq,nq,cq,ar,nr,cr,rfl,h1,h2⟩,hb⟩
  ·rintro en w' ⟨a,n,c,a',n',c',rfl,h1,h2,h3,h4⟩
   exact ⟨a,n,c,a',n',c',_,_,0,rfl,h1,h2,Or.inr ⟨h0,rfl,rfl,rfl⟩,h3,h4⟩
theorem wover_any (p:Nat) (e0:Int) (a a':Option Addr) (n n' cap cap' m m':Nat) (w:World) (hk:Wk w p e0) (h:Num w a n m) (h':Num w a' n' m') :
  Calls Tryz.prog 71 #[.pointer (some ⟨p,0,none⟩),.agg #[.slice a n cap],.agg #[.slice a' n' cap']] w (WAns p e0 w fun e Q=>∃ R,DStp e Q R m m'):=by
 have hS:=(((((Rs.begin_work hk).num h).num h').alloc #[.slice a n cap] 26).alloc #[.slice a' n' cap'] 26).alloc #[.slice none 0 0] 26
 simp only [World.size_alloc] at hS
 go_enter Tryz.func71,Tryz.ntmps71
 go_wp2_with fail
 refine (wdiv_any p e0 a a' n n' cap cap' m m' _ hS.wk (hS.nm (a,n,m) (by simp)) (hS.nm (a',n',m') (by simp))).mono ?_
 rintro en w1 ⟨aq,nq,cq,ar,nr,cr,Q,R,er,rfl,hq,hr,hst,hk1,hb1⟩
 have HST:=hide hst
 have hS1:=((((hS.call hb1 hk1).own hq hS.size).own hr hS.size).alloc #[.slice aq nq cq] 26).alloc #[.slice ar nr cr] 26
 clear hst hb1 hq hr hS hk h h'
 obtain ⟨⟨c0,-⟩,⟨c1,-⟩,⟨c2,-⟩,-⟩:=hS1.cells
 have f1:=hS1.frozen (x:=⟨w.heap.size+1+1,#[.slice none 0 0],26⟩) (by simp) 0
 go_wp2
 have hS2:=(hS1.put (x:=⟨w.heap.size+1+1,#[.slice none 0 0],26⟩) (by simp) (by simp only []; omega) 0 (.slice aq nq cq) (by simp) [] (by simp))
 exact bodyPost_ret (v:=.agg #[.slice aq nq cq]) (by simp [results,Tryz.results71,go_sem,c2]) rfl ⟨aq,nq,cq,Q,er,rfl,hS2.ow (aq,nq,cq,Q) (by simp),⟨R,unhide HST⟩,hS2.wk,hS2.fr⟩
theorem W_gcd {w0 W:World} {p:Nat} {e:Int} {bs:List En} {ms:Ms} {os:Os} (hS:Rs w0 W (some (p,e)) bs ms os) {a a':Option Addr} {n n' m m':Nat} (c c':Nat) (h:Num W a n m) (h':Num W a' n' m') :
  Calls Tryz.prog 69 #[.pointer (some ⟨p,0,none⟩),.agg #[.slice a n c],.agg #[.slice a' n' c']] W (One w0 W p e bs ms os (Nat.gcd m m') False):=by
 refine (wgcd_any p e a a' n n' c c' m m' W hS.wk h h').mono ?_
 rintro en W' ⟨a1,n1,c1,M,r,rfl,hm,hst,hk,hb⟩
 exact ⟨a1,n1,c1,M,_,rfl,hS.more hm hk hb,Wz.of_ok hst,hb.size⟩
theorem W_over {w0 W:World} {p:Nat} {e:Int} {bs:List En} {ms:Ms} {os:Os} (hS:Rs w0 W (some (p,e)) bs ms os) {a a':Option Addr} {n n' m m':Nat} (c c':Nat) (h:Num W a n m) (h':Num W a' n' m') :
  Calls Tryz.prog 71 #[.pointer (some ⟨p,0,none⟩),.agg #[.slice a n c],.agg #[.slice a' n' c']] W (OneD w0 W p e bs ms os m m'):=by
 refine (wover_any p e a a' n n' c c' m m' W hS.wk h h').mono ?_
 rintro en W' ⟨a1,n1,c1,M,r,rfl,hm,⟨R,hst⟩,hk,hb⟩
 exact ⟨a1,n1,c1,M,_,rfl,hS.more hm hk hb,⟨R,Wd.of hst⟩,hb.size⟩
theorem nought_any (a:Option Addr) (n cap:Nat) (w:World) :
  Calls Tryz.prog 68 #[.agg #[.slice a n cap]] w fun en w'=>en = .returned (.bool (decide (n = 0)))∧Below w.heap.size w w':=by
 go_enter Tryz.func68,Tryz.ntmps68
 go_wp2
 go_ret
 refine ⟨ret_bool ?_,gr_alloc _ _⟩
 by_cases h:n = 0 <;> simp [h] <;> omega
theorem isOne_any (a:Option Addr) (n cap m:Nat) (w:World) (h:Num w a n m) :
  Calls Tryz.prog 73 #[.agg #[.slice a n cap]] w fun en w'=>en = .returned (.bool (decide (m = 1)))∧Below w.heap.size w w':=by
 have hS:=((Rs.begin w).num h).alloc #[.slice a n cap] 26
 by_cases h2:n≤2
 ·go_enter Tryz.func73,Tryz.ntmps73
  go_wp2_with fail
  refine (low_small a n cap m _ (hS.nm (a,n,m) (by simp)) h2).mono ?_
  rintro en w1 ⟨rfl,hb1⟩
  go_wp2
  go_ret
  refine ⟨ret_bool ?_,(hS.kept hb1).fr⟩
  by_cases h:m = 1 <;> simp [h] <;> omega
 ·go_enter Tryz.func73,Tryz.ntmps73
  go_wp2_with fail
  refine (low_big a n cap m _ (hS.nm (a,n,m) (by simp)) (by omega)).mono ?_
  rintro en w1 ⟨rfl,hb1⟩
  go_wp2
  go_ret
  refine ⟨ret_bool ?_,(hS.kept hb1).fr⟩
  have:m≠1:=by
   rintro rfl
   obtain ⟨xs,hn,_,hw,hN,hv,hb⟩:=h
   have:=Pl.val_le_len hw hN 1
   omega
  simp [this]
def RatV (s:Bool) (a:Option Addr) (n c:Nat) (a':Option Addr) (n' c':Nat):Value:=.agg #[.bool s,.slice a n c,.slice a' n' c']
structure Fra1S where
 (b0 b1 b2 b3 b4 b5 b6 b7 b8 b9 b10:Bool)
 (v0 v1 v2 v3 v4 v5 v6 v7 v8 v10:Value)
 bs9:List En
 os9:Os
structure Fra1R (w:World) (p:Nat) (a a':Option Addr) (n n' cap cap':Nat) (S9:Nat) (b0 b1 b2 b3 b4 b5 b6 b7 b8 b9 b10:Bool) (v0 v1 v2 v3 v4 v5 v6 v7 v8 v10:Value)  (bs9:List En) (os9:Os) (w':World):Prop where
 hc:Rc w S9 [⟨w.heap.size+1,#[.slice a' n' cap'],26⟩,⟨w.heap.size,#[.slice a n cap],26⟩] [] [] (some ((p),0)) bs9 os9 w'
 f0:b0 = true→v0 = .bool true
 f1:b1 = true→v1 = .bool true
 f2:b2 = true→v2 = .agg #[.slice a n cap]
 f3:b3 = true→v3 = .bool (decide (n = 0))
 f4:b4 = true→v4 = .bool (!(decide (n = 0)))
 f5:b5 = true→v5 = .bool (!(decide (n = 0)))
 f6:b6 = true→v6 = .agg #[.slice a n cap]
 f7:b7 = true→v7 = .agg #[.slice a' n' cap']
 f8:b8 = true→v8 = .agg #[.bool (!(decide (n = 0))),.slice a n cap,.slice a' n' cap']
 f10:b10 = true→v10 = .int .i64 0
 o0_0:b9 = false→⟨w.heap.size+1+1,#[.bool false,.slice none 0 0,.slice none 0 0],28⟩∈bs9
 o0_1:b9 = true→⟨w.heap.size+1+1,#[.bool (!(decide (n = 0))),.slice a n cap,.slice a' n' cap'],28⟩∈bs9
 g9_8:b9 = true→b8 = true
def Fra1I (w:World) (p:Nat) (a a':Option Addr) (n n' cap cap':Nat) (S9:Nat) (l:Array Bool) (act:Act) (w':World):Fra1S→Prop
 | ⟨b0,b1,b2,b3,b4,b5,b6,b7,b8,b9,b10,v0,v1,v2,v3,v4,v5,v6,v7,v8,v10,bs9,os9⟩=>l = #[b0,b1,b2,b3,b4,b5,b6,b7,b8,b9,b10]∧act = { tmps:=#[.pointer (some ⟨p,0,none⟩),.bool true,.agg #[.slice a n cap],.agg #[.slice a' n' cap'],undef,undef,.pointer (some ⟨w.heap.size,0,none⟩),.pointer (some ⟨w.heap.size+1,0,none⟩),.pointer (some ⟨w.heap.size+1+1,0,none⟩),v10,.pointer (some ⟨p,0,none⟩),.pointer (some ⟨p,0,none⟩),.pointer (some ⟨p,0,none⟩),.pointer (some ⟨p,0,none⟩),.int .i64 0,.bool false,undef,undef,undef,undef,undef,undef,v0,v1,v2,v3,v4,v5,v6,v7,v8],defers:=[] }∧Fra1R w p a a' n n' cap cap' S9 b0 b1 b2 b3 b4 b5 b6 b7 b8 b9 b10 v0 v1 v2 v3 v4 v5 v6 v7 v8 v10 bs9 os9 w'
theorem wfrac_true (p:Nat) (a a':Option Addr) (n n' cap cap':Nat) (w:World) (hk:Wk w p 0) :
  Calls Tryz.prog 70 #[.pointer (some ⟨p,0,none⟩),.bool true,.agg #[.slice a n cap],.agg #[.slice a' n' cap']] w fun en w'=>Wk w' p 0∧But p w w'∧en = .returned (.tuple #[RatV (!decide (n = 0)) a n cap a' n' cap',.int .i64 0]):=by
 have hS:=Rs.begin_work hk
 replace hS:=hS.alloc #[.slice a n cap] 26
 try simp only [World.size_alloc] at hS
 replace hS:=hS.alloc #[.slice a' n' cap'] 26
 try simp only [World.size_alloc] at hS
 replace hS:=hS.alloc #[.bool false,.slice none 0 0,.slice none 0 0] 28
 try simp only [World.size_alloc] at hS
 have hcw:=Wk.cell hS.wk
 go_enter Tryz.func70,Tryz.ntmps70
 go_wp2_with fail
 clear hcw
 refine wp_region_any (by kernel_rfl) ?_
 change wpAny _ _ _ _ _ _ _ (World.drew _)
 have hS9:=hS.drew
 have hsW9:(World.drew (((w.alloc (.cells #[.slice a n cap] 26)).alloc (.cells #[.slice a' n' cap'] 26)).alloc (.cells #[.bool false,.slice none 0 0,.slice none 0 0] 28))).heap.size = w.heap.size+1+1+1:=by first|rfl|simp
 generalize World.drew (((w.alloc (.cells #[.slice a n cap] 26)).alloc (.cells #[.slice a' n' cap'] 26)).alloc (.cells #[.bool false,.slice none 0 0,.slice none 0 0] 28)) = Wd at hS9 hsW9 ⊢
 obtain ⟨S9,hS9z⟩:∃ x,x = Wd.heap.size:=⟨_,rfl⟩
 have hC9:=Rc.start (bs:=[⟨w.heap.size+1,#[.slice a' n' cap'],26⟩,⟨w.heap.size,#[.slice a n cap],26⟩]) hS9 (by simp)
 rw [← hS9z] at hC9
 have hP9_0:=hS9.bx ⟨w.heap.size+1+1,#[.bool false,.slice none 0 0,.slice none 0 0],28⟩ (by simp)
 have hP9_0:=block_lt hP9_0.1
 rw [← hS9z] at hP9_0
 simp only [] at hP9_0
 refine wpAny_inv (fun l act w'=>∃ σ,Fra1I w p a a' n n' cap cap' S9 l act w' σ) ?_ ?_ _ _ _ _ ?_ ?_
 ·intro l act w' i9 hI9 hi9 hl9
  have hin9:i9 < 11:=by
   by_cases h:i9 < 11
   ·exact h
   ·obtain ⟨⟨⟩,rfl,_⟩:=hI9
    rw [Array.getElem?_eq_none (by simp; omega)] at hl9; cases hl9
  have hcase:i9 = 0∨i9 = 1∨i9 = 2∨i9 = 3∨i9 = 4∨i9 = 5∨i9 = 6∨i9 = 7∨i9 = 8∨i9 = 9∨i9 = 10:=by omega
  clear hin9
  obtain ⟨⟨b0,b1,b2,b3,b4,b5,b6,b7,b8,b9,b10,v0,v1,v2,v3,v4,v5,v6,v7,v8,v10,bs9,os9⟩,rfl,rfl,hR⟩:=hI9
  rcases hcase with rfl|rfl|rfl|rfl|rfl|rfl|rfl|rfl|rfl|rfl|rfl
  ·obtain rfl:b0 = false:=by simpa using hl9
   have hc:=hR.hc
   refine wpOp_step rfl fun K hK=>?_
   go_simp
   exact hK _ _ ⟨⟨_,_,_,_,_,_,_,_,_,_,_,_,_,_,_,_,_,_,_,_,_,_,_⟩,rfl,rfl,{ hR with hc:=hc,f0:=(fun _=>rfl) }⟩
  ·obtain rfl:b1 = false:=by simpa using hl9
   obtain ⟨o9,ho9,hd9⟩:=(mem_ready.1 hi9).2
   cases ho9
   have e0:b0 = true:=hd9 ⟨0,.data⟩ (by simp) rfl
   subst e0
   have h9:=hR.f0 rfl
   subst h9
   have hc:=hR.hc
   refine wpOp_step rfl fun K hK=>?_
   go_simp
   exact hK _ _ ⟨⟨_,_,_,_,_,_,_,_,_,_,_,_,_,_,_,_,_,_,_,_,_,_,_⟩,rfl,rfl,{ hR with hc:=hc,f1:=(fun _=>rfl) }⟩
  ·obtain rfl:b2 = false:=by simpa using hl9
   obtain ⟨o9,ho9,hd9⟩:=(mem_ready.1 hi9).2
   cases ho9
   have e1:b1 = true:=hd9 ⟨1,.guard⟩ (by simp) rfl
   subst e1
   have h9:=hR.f1 rfl
   subst h9
   have hc:=hR.hc
   have c9_0:=hc.st.cellAt (hc.old ⟨w.heap.size,#[.slice a n cap],26⟩ (by simp)).1 0 (.slice a n cap) rfl
   simp only [] at c9_0
   refine wpOp_step rfl fun K hK=>?_
   go_simp
   exact hK _ _ ⟨⟨_,_,_,_,_,_,_,_,_,_,_,_,_,_,_,_,_,_,_,_,_,_,_⟩,rfl,rfl,{ hR with hc:=hc,f2:=(fun _=>rfl) }⟩
  ·obtain rfl:b3 = false:=by simpa using hl9
   obtain ⟨o9,ho9,hd9⟩:=(mem_ready.1 hi9).2
   cases ho9
   have e1:b1 = true:=hd9 ⟨1,.chain⟩ (by simp) rfl
   have e2:b2 = true:=hd9 ⟨2,.data⟩ (by simp) rfl
   subst e1 e2
   have h9:=hR.f1 rfl
   subst h9
   have h9:=hR.f2 rfl
   subst h9
   have hc:=hR.hc
   have HR:=hide hR
   clear hR
   refine wpOp_step rfl fun K hK=>?_
   go_simp
   go_wp2_with fail
   refine (nought_any a n cap _).mono ?_
   rintro en w9 ⟨rfl,hb9⟩
   have hR:=unhide HR
   exact hK _ _ ⟨⟨_,_,_,_,_,_,_,_,_,_,_,_,_,_,_,_,_,_,_,_,_,_,_⟩,rfl,rfl,{ hR with hc:=(hc.call (hc.st.kept hb9) hb9.size (fun y hy=>hy)),f3:=(fun _=>rfl) }⟩
  ·obtain rfl:b4 = false:=by simpa using hl9
   obtain ⟨o9,ho9,hd9⟩:=(mem_ready.1 hi9).2
   cases ho9
   have e1:b1 = true:=hd9 ⟨1,.guard⟩ (by simp) rfl
   have e3:b3 = true:=hd9 ⟨3,.data⟩ (by simp) rfl
   subst e1 e3
   have h9:=hR.f1 rfl
   subst h9
   have h9:=hR.f3 rfl
   subst h9
   have hc:=hR.hc
   refine wpOp_step rfl fun K hK=>?_
   go_simp
   exact hK _ _ ⟨⟨_,_,_,_,_,_,_,_,_,_,_,_,_,_,_,_,_,_,_,_,_,_,_⟩,rfl,rfl,{ hR with hc:=hc,f4:=(fun _=>by first|rfl|simp) }⟩
  ·obtain rfl:b5 = false:=by simpa using hl9
   obtain ⟨o9,ho9,hd9⟩:=(mem_ready.1 hi9).2
   cases ho9
   have e1:b1 = true:=hd9 ⟨1,.data⟩ (by simp) rfl
   have e4:b4 = true:=hd9 ⟨4,.data⟩ (by simp) rfl
   subst e1 e4
   have h9:=hR.f1 rfl
   subst h9
   have h9:=hR.f4 rfl
   subst h9
   have hc:=hR.hc
   refine wpOp_step rfl fun K hK=>?_
   go_simp
   exact hK _ _ ⟨⟨_,_,_,_,_,_,_,_,_,_,_,_,_,_,_,_,_,_,_,_,_,_,_⟩,rfl,rfl,{ hR with hc:=hc,f5:=(fun _=>by first|rfl|simp) }⟩
  ·obtain rfl:b6 = false:=by simpa using hl9
   have hc:=hR.hc
   have c9_0:=hc.st.cellAt (hc.old ⟨w.heap.size,#[.slice a n cap],26⟩ (by simp)).1 0 (.slice a n cap) rfl
   simp only [] at c9_0
   refine wpOp_step rfl fun K hK=>?_
   go_simp
   exact hK _ _ ⟨⟨_,_,_,_,_,_,_,_,_,_,_,_,_,_,_,_,_,_,_,_,_,_,_⟩,rfl,rfl,{ hR with hc:=hc,f6:=(fun _=>rfl) }⟩
  ·obtain rfl:b7 = false:=by simpa using hl9
   have hc:=hR.hc
   have c9_0:=hc.st.cellAt (hc.old ⟨w.heap.size+1,#[.slice a' n' cap'],26⟩ (by simp)).1 0 (.slice a' n' cap') rfl
   simp only [] at c9_0
   refine wpOp_step rfl fun K hK=>?_
   go_simp
   exact hK _ _ ⟨⟨_,_,_,_,_,_,_,_,_,_,_,_,_,_,_,_,_,_,_,_,_,_,_⟩,rfl,rfl,{ hR with hc:=hc,f7:=(fun _=>rfl) }⟩
  ·obtain rfl:b8 = false:=by simpa using hl9
   obtain ⟨o9,ho9,hd9⟩:=(mem_ready.1 hi9).2
   cases ho9
   have e5:b5 = true:=hd9 ⟨5,.data⟩ (by simp) rfl
   have e6:b6 = true:=hd9 ⟨6,.data⟩ (by simp) rfl
   have e7:b7 = true:=hd9 ⟨7,.data⟩ (by simp) rfl
   subst e5 e6 e7
   have h9:=hR.f5 rfl
   subst h9
   have h9:=hR.f6 rfl
   subst h9
   have h9:=hR.f7 rfl
   subst h9
   have hc:=hR.hc
   refine wpOp_step rfl fun K hK=>?_
   go_simp
   exact hK _ _ ⟨⟨_,_,_,_,_,_,_,_,_,_,_,_,_,_,_,_,_,_,_,_,_,_,_⟩,rfl,rfl,{ hR with hc:=hc,f8:=(fun _=>by first|rfl|simp),o0_1:=(fun h=>Bool.noConfusion (hR.g9_8 h)),g9_8:=(fun _=>rfl) }⟩
  ·obtain rfl:b9 = false:=by simpa using hl9
   obtain ⟨o9,ho9,hd9⟩:=(mem_ready.1 hi9).2
   cases ho9
   have e8:b8 = true:=hd9 ⟨8,.data⟩ (by simp) rfl
   subst e8
   have h9:=hR.f8 rfl
   subst h9
   have hc:=hR.hc
   have hm9:=hR.o0_0 rfl
   have fz9_0:=hc.st.frozen hm9 0
   have cz9_0:=hc.st.cellAt hm9 0 (.bool false) rfl
   simp only [] at fz9_0 cz9_0
   have fz9_1:=hc.st.frozen hm9 1
   have cz9_1:=hc.st.cellAt hm9 1 (.slice none 0 0) rfl
   simp only [] at fz9_1 cz9_1
   have fz9_2:=hc.st.frozen hm9 2
   have cz9_2:=hc.st.cellAt hm9 2 (.slice none 0 0) rfl
   simp only [] at fz9_2 cz9_2
   have hn9:∀ x,x∈([⟨w.heap.size+1,#[.slice a' n' cap'],26⟩,⟨w.heap.size,#[.slice a n cap],26⟩]:List En)→x.b≠w.heap.size+1+1:=by intro x hx; rcases List.mem_cons.1 hx with rfl|hx; (simp only []; omega); rcases List.mem_cons.1 hx with rfl|hx; (simp only []; omega);  exact absurd hx List.not_mem_nil
   have hw9:w.heap.size≤w.heap.size+1+1:=by omega
   refine wpOp_step rfl fun K hK=>?_
   go_simp
   exact hK _ _ ⟨⟨_,_,_,_,_,_,_,_,_,_,_,_,_,_,_,_,_,_,_,_,_,_,_⟩,rfl,rfl,{ hR with hc:=(((hc.store hm9 hw9 hn9 0 (.bool (!(decide (n = 0)))) (by simp)).store (List.mem_cons_self ..) hw9 hn9 1 (.slice a n cap) (by simp)).store (List.mem_cons_self ..) hw9 hn9 2 (.slice a' n' cap') (by simp)),o0_0:=(fun h=>Bool.noConfusion h),o0_1:=(fun _=>List.mem_cons_self ..),g9_8:=(fun _=>rfl) }⟩
  ·obtain rfl:b10 = false:=by simpa using hl9
   have hc:=hR.hc
   refine wpOp_step rfl fun K hK=>?_
   go_simp
   exact hK _ _ ⟨⟨_,_,_,_,_,_,_,_,_,_,_,_,_,_,_,_,_,_,_,_,_,_,_⟩,rfl,rfl,{ hR with hc:=hc,f10:=(fun _=>rfl) }⟩
 ·rintro l act Wq1 ⟨⟨b0,b1,b2,b3,b4,b5,b6,b7,b8,b9,b10,v0,v1,v2,v3,v4,v5,v6,v7,v8,v10,bs9,os9⟩,rfl,rfl,hR⟩ hr9
  obtain ⟨hc,f0,f1,f2,f3,f4,f5,f6,f7,f8,f10,o0_0,o0_1,g9_8⟩:=hR
  have eall:=all_done hr9 (by kernel_rfl) rfl
  obtain rfl:b0 = true:=eall 0 (by decide)
  obtain rfl:b1 = true:=eall 1 (by decide)
  obtain rfl:b2 = true:=eall 2 (by decide)
  obtain rfl:b3 = true:=eall 3 (by decide)
  obtain rfl:b4 = true:=eall 4 (by decide)
  obtain rfl:b5 = true:=eall 5 (by decide)
  obtain rfl:b6 = true:=eall 6 (by decide)
  obtain rfl:b7 = true:=eall 7 (by decide)
  obtain rfl:b8 = true:=eall 8 (by decide)
  obtain rfl:b9 = true:=eall 9 (by decide)
  obtain rfl:b10 = true:=eall 10 (by decide)
  clear hr9 eall
  have h9:=f0 rfl
  subst h9
  have h9:=f1 rfl
  subst h9
  have h9:=f2 rfl
  subst h9
  have h9:=f3 rfl
  subst h9
  have h9:=f4 rfl
  subst h9
  have h9:=f5 rfl
  subst h9
  have h9:=f6 rfl
  subst h9
  have h9:=f7 rfl
  subst h9
  have h9:=f8 rfl
  subst h9
  have h9:=f10 rfl
  subst h9
  have hbs9:∀ x,x∈([⟨w.heap.size+1+1,#[.bool (!(decide (n = 0))),.slice a n cap,.slice a' n' cap'],28⟩,⟨w.heap.size+1,#[.slice a' n' cap'],26⟩,⟨w.heap.size,#[.slice a n cap],26⟩]:List En)→x∈bs9:=by
   intro x hx
   rcases List.mem_cons.1 hx with rfl|hx
   ·exact (o0_1 rfl)
   rcases List.mem_cons.1 hx with rfl|hx
   ·exact (hc.old _ (by simp)).1
   rcases List.mem_cons.1 hx with rfl|hx
   ·exact (hc.old _ (by simp)).1
   exact absurd hx List.not_mem_nil
  have hos9:∀ x,x∈([]:Os)→x∈os9:=by
   intro x hx
   exact absurd hx List.not_mem_nil
  have hS:=hc.st.sub hbs9 (fun x hx=>hx) hos9
  have hsz9:=hc.sz
  rw [hS9z,hsW9] at hsz9
  clear hbs9 hos9 hc f0 f1 f2 f3 f4 f5 f6 f7 f8 f10 o0_0 o0_1 g9_8
  have hz1:=hsz9
  clear hsz9 hS9z hS9 hC9 hsW9
  obtain ⟨⟨k0_0,k0_1,k0_2,-⟩,z0⟩:=hS.cz ⟨w.heap.size+1+1,#[.bool (!(decide (n = 0))),.slice a n cap,.slice a' n' cap'],28⟩ (by simp)
  have z0_0:=z0 0
  have z0_1:=z0 1
  have z0_2:=z0 2
  clear z0
  simp only [] at k0_0 z0_0 k0_1 z0_1 k0_2 z0_2
  go_wp2
  exact bodyPost_ret (v:=.tuple #[RatV (!decide (n = 0)) a n cap a' n' cap',.int .i64 0]) (by simp [results,Tryz.results70,go_sem,RatV,k0_0,k0_1,k0_2]) rfl ⟨hS.wk,hS.fr,rfl⟩
 ·simp
 ·exact ⟨⟨false,false,false,false,false,false,false,false,false,false,false,undef,undef,undef,undef,undef,undef,undef,undef,undef,.int .i64 0,_,_⟩,rfl,rfl,⟨hC9,nb,nb,nb,nb,nb,nb,nb,nb,nb,nb,(fun _=>by simp),nb,nb⟩⟩
theorem wfrac_any (p:Nat) (e0:Int) (s:Bool) (a a':Option Addr) (n n' cap cap':Nat) (w:World) (hk:Wk w p e0) :
  Calls Tryz.prog 70 #[.pointer (some ⟨p,0,none⟩),.bool s,.agg #[.slice a n cap],.agg #[.slice a' n' cap']] w fun en w'=>Wk w' p e0∧But p w w' ∧
   en = .returned (if e0 = 0 then .tuple #[RatV (s && !decide (n = 0)) a n cap a' n' cap',.int .i64 0] else .tuple #[RatV false none 0 0 none 0 0,.int .i64 e0]):=by
 by_cases h0:e0 = 0
 ·subst h0
  cases s
  ·have hS:=(((Rs.begin_work hk).alloc #[.slice a n cap] 26).alloc #[.slice a' n' cap'] 26).alloc #[.bool false,.slice a n cap,.slice a' n' cap'] 28
   have hcw:=Wk.cell ((((hk.alloc (.cells #[.slice a n cap] 26)).alloc (.cells #[.slice a' n' cap'] 26)).alloc (.cells #[.bool false,.slice none 0 0,.slice none 0 0] 28)))
   go_enter Tryz.func70,Tryz.ntmps70
   go_wp2_with fail
   go_region
   go_wp2
   exact bodyPost_ret (v:=.tuple #[RatV false a n cap a' n' cap',.int .i64 0]) (by simp [results,Tryz.results70,go_sem,RatV]) rfl ⟨hS.drew.wk,hS.drew.fr,by simp⟩
  ·exact (wfrac_true p a a' n n' cap cap' w hk).mono fun en w' ⟨h1,h2,h3⟩=>⟨h1,h2,by rw [h3]; simp⟩
 ·have hS:=(((Rs.begin_work hk).alloc #[.slice a n cap] 26).alloc #[.slice a' n' cap'] 26).alloc #[.bool false,.slice none 0 0,.slice none 0 0] 28
  have hcw:=Wk.cell hS.wk
  have hb0:(e0 != 0) = true:=by simp [h0]
  have H0:=hide h0
  clear h0
  go_enter Tryz.func70,Tryz.ntmps70
  go_wp2_with fail
  go_region
  go_wp2
  exact bodyPost_ret (v:=.tuple #[RatV false none 0 0 none 0 0,.int .i64 e0]) (by simp [results,Tryz.results70,go_sem,RatV]) rfl ⟨hS.drew.wk,hS.drew.fr,by first|rfl|rw [if_neg (unhide H0)]⟩
def RAns (w:World) (base:Nat) (en:Ending) (s:Bool) (num den:Nat):Prop:=
 (∃ a n c a' n' c',en = .returned (.tuple #[RatV (s && !decide (num = 0)) a n c a' n' c',.int .i64 0])∧Mine w base a n c num∧Mine w base a' n' c' den) ∨
 (en = .returned (.tuple #[RatV false none 0 0 none 0 0,.int .i64 4])∧(Over num∨Over den))
theorem W_frac {w0 W:World} {p:Nat} {e:Int} {bs:List En} {ms:Ms} {os:Os} (hS:Rs w0 W (some (p,e)) bs ms os) (s:Bool) (a a':Option Addr) (n n' c c':Nat) :
  Calls Tryz.prog 70 #[.pointer (some ⟨p,0,none⟩),.bool s,.agg #[.slice a n c],.agg #[.slice a' n' c']] W fun en W'=>(∃ s' b k l b' k' l' r,en = .returned (.tuple #[.agg #[.bool s',.slice b k l,.slice b' k' l'],.int .i64 r]) ∧
   ((e = 0∧r = 0∧s' = (s && !decide (n = 0))∧b = a∧k = n∧l = c∧b' = a'∧k' = n'∧l' = c')∨(e≠0∧r = e∧s' = false∧b = none∧k = 0∧l = 0∧b' = none∧k' = 0∧l' = 0)))∧Rs w0 W' (some (p,e)) bs ms os∧W.heap.size≤W'.heap.size:=by
 refine (wfrac_any p e s a a' n n' c c' W hS.wk).mono ?_
 rintro en W' ⟨h1,h2,rfl⟩
 refine ⟨?_,hS.call h2 h1,h2.size⟩
 by_cases h0:e = 0
 ·rw [if_pos h0]
  exact ⟨_,_,_,_,_,_,_,_,rfl,Or.inl ⟨h0,rfl,rfl,rfl,rfl,rfl,rfl,rfl,rfl⟩⟩
 ·rw [if_neg h0]
  exact ⟨_,_,_,_,_,_,_,_,rfl,Or.inr ⟨h0,rfl,rfl,rfl,rfl,rfl,rfl,rfl,rfl⟩⟩
def Sf (e:Int) (B:Prop):Prop:=e = 0∨(e = 4∧B)
theorem Wz.next {e e':Int} {M X:Nat} {O B:Prop} (q:Wz e e' M X O) (h:Sf e B) (hO:e = 0→O→B):Sf e' B:=by
 rcases h with h|⟨h,hB⟩
 ·by_cases h':e' = 0
  ·exact Or.inl h'
  ·obtain ⟨h4,o⟩:=q.many h h'
   exact Or.inr ⟨h4,hO h o⟩
 ·have:=q.stay (by omega)
  exact Or.inr ⟨by omega,hB⟩
theorem Wd.next {e e':Int} {Q R m d:Nat} {B:Prop} (q:Wd e e' Q R m d) (h:Sf e B) (hd:e = 0→0 < d):Sf e' B:=by
 rcases h with h|⟨h,hB⟩
 ·by_cases h':e' = 0
  ·exact Or.inl h'
  ·have:=q.zero h h'
   have:=hd h
   omega
 ·have:=q.stay (by omega)
  exact Or.inr ⟨by omega,hB⟩
theorem Over.mono {a b:Nat} (h:Over a) (hab:a≤b):Over b:=⟨Nat.le_trans h.le hab⟩
def RIs (w:World) (base:Nat) (s:Bool) (a:Option Addr) (n c:Nat) (a':Option Addr) (n' c':Nat) (r:Int) (z:Rat):Prop:=
 (r = 0∧s = decide (z.num < 0)∧Mine w base a n c z.num.natAbs∧Mine w base a' n' c' z.den) ∨
 (r = 4∧(s = false∧a = none∧n = 0∧c = 0∧a' = none∧n' = 0∧c' = 0)∧(Over z.num.natAbs∨Over z.den))
def ROk (w:World) (base:Nat) (en:Ending) (z:Rat):Prop:=
 ∃ s a n c a' n' c' r,en = .returned (.tuple #[.agg #[.bool s,.slice a n c,.slice a' n' c'],.int .i64 r])∧RIs w base s a n c a' n' c' r z
theorem RAns.ok {w:World} {base:Nat} {en:Ending} {s:Bool} {num den:Nat} {z:Rat} (h:RAns w base en s num den) (q:Rm.Q z (s && !decide (num = 0)) num den):ROk w base en z:=by
 rcases h with ⟨a,n,c,a',n',c',rfl,h1,h2⟩|⟨rfl,h⟩
 ·exact ⟨_,a,n,c,a',n',c',0,rfl,Or.inl ⟨rfl,q.neg.symm,by rw [q.abs]; exact h1,by rw [q.den]; exact h2⟩⟩
 ·exact ⟨false,none,0,0,none,0,0,4,rfl,Or.inr ⟨rfl,⟨rfl,rfl,rfl,rfl,rfl,rfl,rfl⟩,by rw [q.abs,q.den]; exact h⟩⟩
theorem RIs.kept {w w':World} {base base':Nat} {s:Bool} {a a':Option Addr} {n c n' c':Nat} {r:Int} {z:Rat} (h:RIs w base s a n c a' n' c' r z) (hb:Below w.heap.size w w') (hB:base'≤base):RIs w' base' s a n c a' n' c' r z:=by
 rcases h with ⟨h0,h1,h2,h3⟩|h
 ·exact Or.inl ⟨h0,h1,(h2.kept hb).mono hB,(h3.kept hb).mono hB⟩
 ·exact Or.inr h
theorem RIs.mono {w:World} {base base':Nat} {s:Bool} {a a':Option Addr} {n c n' c':Nat} {r:Int} {z:Rat} (h:RIs w base s a n c a' n' c' r z) (hB:base'≤base):RIs w base' s a n c a' n' c' r z:=h.kept (gr_refl _) hB
theorem RIs.put {w:World} {base:Nat} {s:Bool} {a a':Option Addr} {n c n' c':Nat} {r:Int} {z:Rat} (h:RIs w base s a n c a' n' c' r z) {b:Nat} {cs:Array Value} {t:TypeId} (hb:w.heap[b]? = some (.cells cs t (0,0))) (ht:t≠64) (j:Nat) (u:Value):RIs (w.setCell ⟨b,j,none⟩ u) base s a n c a' n' c' r z:=by
 rcases h with ⟨h0,h1,h2,h3⟩|h
 ·exact Or.inl ⟨h0,h1,h2.put hb ht j u,h3.put hb ht j u⟩
 ·exact Or.inr h
end Go.Proofs.YtpmmapoabbpaiaaGreat
