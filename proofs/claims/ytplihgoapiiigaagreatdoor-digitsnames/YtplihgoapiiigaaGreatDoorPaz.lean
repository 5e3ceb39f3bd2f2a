/- Of what DigitsNamesRow stands on: Gcd RWork RState. -/
import Derived.Test.YtplihgoapiiigaaGreatDoorPar
import Derived.Test.YtplihgoapiiigaaGreatDoorPaw
import Derived.Test.YtplihgoapiiigaaGreatDoorPas
import Derived.Test.YtplihgoapiiigaaGreatDoorPaa
import Derived.Deep.RegionWith
import Derived.Test.YtplihgoapiiigaaGreatDoorPaj
import Derived.Test.YtplihgoapiiigaaGreatDoorPaq
import Derived.Test.YtplihgoapiiigaaGreatDoorPal
import Derived.Test.YtplihgoapiiigaaGreatDoorPag
import Derived.Test.YtplihgoapiiigaaGreatDoorPak
import Derived.Test.YtplihgoapiiigaaGreatDoorPai
import Derived.Test.YtplihgoapiiigaaGreatDoorPay
import Derived.Test.YtplihgoapiiigaaGreatDoorPad
namespace Go.Proofs.YtplihgoapiiigaaGreatDoor
open Go.RowKit
theorem Mine.blt {w:World} {base n c m g:Nat} {a:Option Addr} (h:Mine w base a n c m) (ha:a = some ⟨g,0,none⟩):g < w.heap.size:=by
 obtain ⟨xs,hn,ho,_⟩:=h
 rcases ho with ⟨e,_⟩|⟨g',cap,cur,e,hg,hh,_⟩
 ·injection e with e1 e2 e3; rw [ha] at e1; cases e1
 ·injection e with e1 e2 e3
  rw [ha] at e1
  injection e1 with e1
  injection e1 with e1
  subst e1
  by_cases hlt:g < w.heap.size
  ·exact hlt
  ·rw [Array.getElem?_eq_none (by omega)] at hh; cases hh
theorem But.trans {p:Nat} {a b c:World} (h:But p a b) (k:But p b c):But p a c:=
 ⟨k.os.trans h.os,k.tape.trans h.tape,k.output.trans h.output,Nat.le_trans h.size k.size,fun i hi hp=>(k.block i (Nat.lt_of_lt_of_le hi h.size) hp).trans (h.block i hi hp)⟩
theorem But.set {p:Nat} {w w':World} (h:But p w w') (j:Nat) (u:Value):But p w (w'.setCell ⟨p,j,none⟩ u):=
 ⟨h.os,h.tape,h.output,by simpa [World.setCell] using h.size,fun k hk hp=>(heap_setCell_other w' _ k u hp).trans (h.block k hk hp)⟩
theorem But.drew {p:Nat} {w w':World} (h:But p w w'):But p w w'.drew:=⟨h.os,h.tape,h.output,h.size,h.block⟩
def Wk (w:World) (p:Nat) (e:Int):Prop:=∃ t,t≠74∧w.heap[p]? = some (.cells #[.int .i64 e] t (0,0))
theorem Wk.lt {w:World} {p:Nat} {e:Int} (h:Wk w p e):p < w.heap.size:=by
 obtain ⟨t,_,h⟩:=h
 by_cases hlt:p < w.heap.size
 ·exact hlt
 ·rw [Array.getElem?_eq_none (by omega)] at h; cases h
theorem Wk.cell {w:World} {p:Nat} {e:Int} (h:Wk w p e):w.cell? ⟨p,0,none⟩ = some (.int .i64 e):=by
 obtain ⟨t,_,h⟩:=h
 rw [cell_of_row w p 0 _ _ _ h]; rfl
theorem Wk.frozen {w:World} {p:Nat} {e:Int} (h:Wk w p e):w.frozen? ⟨p,0,none⟩ = false:=by
 obtain ⟨t,_,h⟩:=h
 exact frozen_of_row w p 0 _ _ h
theorem Wk.kept {w w':World} {p:Nat} {e:Int} (h:Wk w p e) (hb:Below w.heap.size w w'):Wk w' p e:=by
 have hl:=h.lt
 obtain ⟨t,ht,h⟩:=h
 exact ⟨t,ht,by rw [hb.block p hl]; exact h⟩
theorem Wk.alloc {w:World} {p:Nat} {e:Int} (h:Wk w p e) (o:Obj):Wk (w.alloc o) p e:=h.kept (gr_alloc _ _)
theorem Wk.set {w:World} {p:Nat} {e:Int} (h:Wk w p e) (u:Int):Wk (w.setCell ⟨p,0,none⟩ (.int .i64 u)) p u:=by
 obtain ⟨t,ht,h⟩:=h
 exact ⟨t,ht,by rw [heap_setCell_same w p 0 _ _ _ h]; rfl⟩
theorem Wk.other {w:World} {p:Nat} {e:Int} (h:Wk w p e) {q:Addr} (hne:p≠q.block) (u:Value):Wk (w.setCell q u) p e:=by
 obtain ⟨t,ht,h⟩:=h
 exact ⟨t,ht,by rw [heap_setCell_other w q p u hne]; exact h⟩
theorem Wk.made (w:World) (e:Int) (t:TypeId) (ht:t≠74:=by decide):Wk (w.alloc (.cells #[.int .i64 e] t)) w.heap.size e:=⟨t,ht,heap_alloc_new w _⟩
theorem Wk.drew {w:World} {p:Nat} {e:Int} (h:Wk w p e):Wk w.drew p e:=h
theorem Lim.but {w w':World} {p:Nat} {e:Int} {a:Option Addr} {xs:List Nat} (h:Lim w a xs) (hk:Wk w p e) (hb:But p w w'):Lim w' a xs:=by
 rcases h.parts with h|⟨hp,b,off,ha,hlt,hc⟩
 ·exact Or.inl h
 ·have hne:b≠p:=by
   rintro rfl
   have h0:=hc 0 hp
   obtain ⟨t,_,hk⟩:=hk
   rw [cell_of_row w b (off+0) _ _ _ hk] at h0
   by_cases hz:off+0 = 0
   ·rw [hz] at h0; simp at h0
   ·rw [Array.getElem?_eq_none (by simp; omega)] at h0; cases h0
  refine Or.inr ⟨b,off,ha,fun j hj=>?_⟩
  rw [World.cell?_of_block (w:=w) (hb.block b hlt hne)]
  exact hc j hj
theorem Num.but {w w':World} {p:Nat} {e:Int} {a:Option Addr} {n m:Nat} (h:Num w a n m) (hk:Wk w p e) (hb:But p w w'):Num w' a n m:=by
 obtain ⟨xs,hn,hl,r⟩:=h
 exact ⟨xs,hn,hl.but hk hb,r⟩
theorem Own.but {w w':World} {base p:Nat} {e:Int} {v:Value} {xs:List Nat} (h:Own w base v xs) (hk:Wk w p e) (hb:But p w w'):Own w' base v xs:=by
 rcases h with h|⟨g,cap,cur,rfl,hg,hh,r⟩
 ·exact Or.inl h
 ·have hlt:g < w.heap.size:=by
   by_cases hlt:g < w.heap.size
   ·exact hlt
   ·rw [Array.getElem?_eq_none (by omega)] at hh; cases hh
  have hne:g≠p:=by
   rintro rfl
   obtain ⟨t,ht,hk⟩:=hk
   rw [hh] at hk
   injection hk with hk
   injection hk with _ hk
   exact ht hk.symm
  exact Or.inr ⟨g,cap,cur,rfl,hg,by rw [hb.block g hlt hne]; exact hh,r⟩
theorem Mine.but {w w':World} {base p:Nat} {e:Int} {a:Option Addr} {n cap m:Nat} (h:Mine w base a n cap m) (hk:Wk w p e) (hb:But p w w'):Mine w' base a n cap m:=by
 obtain ⟨xs,hn,ho,r⟩:=h
 exact ⟨xs,hn,ho.but hk hb,r⟩
def FrO (k:Option (Nat×Int)) (w W:World):Prop:=match k with
 | none=>Below w.heap.size w W
 | some (p,_)=>But p w W
def WkO (k:Option (Nat×Int)) (W:World):Prop:=match k with
 | none=>True
 | some (p,e)=>Wk W p e
def NeO (k:Option (Nat×Int)) (b:Nat):Prop:=match k with
 | none=>True
 | some (p,_)=>b≠p
structure Rs (w0 W:World) (k:Option (Nat×Int)) (bs:List En) (ms:List (Option Addr×Nat×Nat)) (os:List (Option Addr×Nat×Nat×Nat)):Prop where
 wk:WkO k W
 bx:∀ x,x∈bs→W.heap[x.b]? = some (.cells x.cs x.t (0,0))∧NeO k x.b∧x.t≠74∧NoLimb x.cs.toList
 nm:∀ x,x∈ms→Num W x.1 x.2.1 x.2.2
 ow:∀ x,x∈os→Mine W w0.heap.size x.1 x.2.1 x.2.2.1 x.2.2.2
 fr:FrO k w0 W
theorem Rs.size {w0 W:World} {k:Option (Nat×Int)} {bs:List En} {ms:List (Option Addr×Nat×Nat)} {os:List (Option Addr×Nat×Nat×Nat)} (h:Rs w0 W k bs ms os):w0.heap.size≤W.heap.size:=by
 have:=h.fr
 match k,this with
 | none,h=>exact h.size
 | some (_,_),h=>exact h.size
theorem Rs.begin (w:World):Rs w w none [] [] []:=⟨trivial,(fun _ h=>nomatch h),(fun _ h=>nomatch h),(fun _ h=>nomatch h),Below.refl _ _⟩
theorem Rs.kept {w0 W W':World} {k:Option (Nat×Int)} {bs:List En} {ms:List (Option Addr×Nat×Nat)} {os:List (Option Addr×Nat×Nat×Nat)} (h:Rs w0 W k bs ms os) (hb:Below W.heap.size W W'):Rs w0 W' k bs ms os:=by
 have hs:=h.size
 refine ⟨?_,fun x hx=>?_,fun x hx=>(h.nm x hx).kept hb,fun x hx=>(h.ow x hx).kept hb,?_⟩
 ·have:=h.wk
  match k,this with
  | none,_=>trivial
  | some (_,_),h=>exact Wk.kept h hb
 ·obtain ⟨h1,h2⟩:=h.bx x hx
  exact ⟨by rw [hb.block _ (block_lt h1)]; exact h1,h2⟩
 ·have:=h.fr
  match k,this with
  | none,h=>exact gr_trans h hb
  | some (_,_),h=>exact But.trans h (But.of hb)
theorem Rs.call {w0 W W':World} {p:Nat} {e e':Int} {bs:List En} {ms:List (Option Addr×Nat×Nat)} {os:List (Option Addr×Nat×Nat×Nat)} (h:Rs w0 W (some (p,e)) bs ms os) (hb:But p W W') (hk:Wk W' p e'):Rs w0 W' (some (p,e')) bs ms os:=by
 have hk0:Wk W p e:=h.wk
 refine ⟨hk,fun x hx=>?_,fun x hx=>(h.nm x hx).but hk0 hb,fun x hx=>(h.ow x hx).but hk0 hb,But.trans h.fr hb⟩
 obtain ⟨h1,h2,h3⟩:=h.bx x hx
 exact ⟨by rw [hb.block _ (block_lt h1) h2]; exact h1,h2,h3⟩
theorem Rs.alloc {w0 W:World} {k:Option (Nat×Int)} {bs:List En} {ms:List (Option Addr×Nat×Nat)} {os:List (Option Addr×Nat×Nat×Nat)} (h:Rs w0 W k bs ms os) (cs:Array Value) (t:TypeId) (ht:t≠74:=by decide) (hl:noLimb cs.toList = true:=by rfl):Rs w0 (W.alloc (.cells cs t)) k (⟨W.heap.size,cs,t⟩ :: bs) ms os:=by
 have h':=h.kept (gr_alloc W (.cells cs t))
 refine ⟨h'.wk,fun x hx=>?_,h'.nm,h'.ow,h'.fr⟩
 rcases List.mem_cons.1 hx with rfl|hx
 ·refine ⟨heap_alloc_new W _,?_,ht,noLimb_of _ hl⟩
  have:=h.wk
  match k,this with
  | none,_=>trivial
  | some (p,_),hk=>exact fun e=>by have:=Wk.lt hk; simp only at e; omega
 ·exact h'.bx x hx
theorem Rs.num {w0 W:World} {k:Option (Nat×Int)} {bs:List En} {ms:List (Option Addr×Nat×Nat)} {os:List (Option Addr×Nat×Nat×Nat)} (h:Rs w0 W k bs ms os) {a:Option Addr} {n m:Nat} (hn:Num W a n m):Rs w0 W k bs ((a,n,m) :: ms) os:=
 ⟨h.wk,h.bx,fun x hx=>by rcases List.mem_cons.1 hx with rfl|hx; exact hn; exact h.nm x hx,h.ow,h.fr⟩
theorem Rs.own {w0 W:World} {k:Option (Nat×Int)} {bs:List En} {ms:List (Option Addr×Nat×Nat)} {os:List (Option Addr×Nat×Nat×Nat)} (h:Rs w0 W k bs ms os) {a:Option Addr} {n c m base:Nat} (hn:Mine W base a n c m) (hb:w0.heap.size≤base):Rs w0 W k bs ms ((a,n,c,m) :: os):=
 ⟨h.wk,h.bx,h.nm,fun x hx=>by rcases List.mem_cons.1 hx with rfl|hx; exact hn.mono hb; exact h.ow x hx,h.fr⟩
theorem Rs.drew {w0 W:World} {k:Option (Nat×Int)} {bs:List En} {ms:List (Option Addr×Nat×Nat)} {os:List (Option Addr×Nat×Nat×Nat)} (h:Rs w0 W k bs ms os):Rs w0 W.drew k bs ms os:=by
 refine ⟨?_,h.bx,h.nm,h.ow,?_⟩
 ·have:=h.wk
  match k,this with
  | none,_=>trivial
  | some (_,_),h=>exact h
 ·have:=h.fr
  match k,this with
  | none,h=>exact Below.drew h
  | some (_,_),h=>exact But.drew h
theorem Rs.cells {w0 W:World} {k:Option (Nat×Int)} {bs:List En} {ms:List (Option Addr×Nat×Nat)} {os:List (Option Addr×Nat×Nat×Nat)} (h:Rs w0 W k bs ms os):Cel W bs:=cel_of bs (fun x hx=>(h.bx x hx).1)
theorem Rs.frozen {w0 W:World} {k:Option (Nat×Int)} {bs:List En} {ms:List (Option Addr×Nat×Nat)} {os:List (Option Addr×Nat×Nat×Nat)} (h:Rs w0 W k bs ms os) {x:En} (hx:x∈bs) (j:Nat):W.frozen? ⟨x.b,j,none⟩ = false:=frozen_of_row W x.b j _ _ (h.bx x hx).1
theorem Rs.cz {w0 W:World} {k:Option (Nat×Int)} {bs:List En} {ms:List (Option Addr×Nat×Nat)} {os:List (Option Addr×Nat×Nat×Nat)} (h:Rs w0 W k bs ms os) (x:En) (hx:x∈bs):CelL W x.b 0 x.cs.toList∧∀ j,W.frozen? ⟨x.b,j,none⟩ = false:=⟨celL_of (h.bx x hx).1 _ 0 rfl,fun j=>h.frozen hx j⟩
theorem nb {p:Prop} (h:false = true):p:=Bool.noConfusion h
theorem Rs.put {w0 W:World} {k:Option (Nat×Int)} {bs:List En} {ms:List (Option Addr×Nat×Nat)} {os:List (Option Addr×Nat×Nat×Nat)} (h:Rs w0 W k bs ms os) {x:En} (hx:x∈bs) (hw:w0.heap.size≤x.b) (j:Nat) (u:Value) (hu:∀ z,u≠.int .u32 z) (bs':List En)
  (hbs:∀ y,y∈bs'→y = ⟨x.b,x.cs.setIfInBounds j u,x.t⟩∨(y∈bs∧y.b≠x.b)):Rs w0 (W.setCell ⟨x.b,j,none⟩ u) k bs' ms os:=by
 obtain ⟨h1,h2,h3,h4⟩:=h.bx x hx
 refine ⟨?_,fun y hy=>?_,fun y hy=>(h.nm y hy).put h1 h4 j u,fun y hy=>(h.ow y hy).put h1 h3 j u,?_⟩
 ·have:=h.wk
  match k,this,h2 with
  | none,_,_=>trivial
  | some (q,_),hk,h2=>exact Wk.other hk (show q≠x.b from Ne.symm (show x.b≠q from h2)) u
 ·rcases hbs y hy with rfl|⟨hy,hne⟩
  ·refine ⟨heap_setCell_same W x.b j _ _ _ h1,h2,h3,?_⟩
   intro v hv z
   simp only [Array.toList_setIfInBounds] at hv
   rcases List.mem_or_eq_of_mem_set hv with hv|rfl
   ·exact h4 v hv z
   ·exact hu z
  ·obtain ⟨q1,q2⟩:=h.bx y hy
   exact ⟨by rw [heap_setCell_other W _ y.b u hne]; exact q1,q2⟩
 ·have:=h.fr
  match k,this with
  | none,h=>exact Below.setCell h hw u
  | some (_,_),h=>exact But.setCell h hw u
end Go.Proofs.YtplihgoapiiigaaGreatDoor
