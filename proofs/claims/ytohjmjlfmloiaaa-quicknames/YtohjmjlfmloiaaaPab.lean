/- Of what QuickNamesRow stands on: Room FmBase. -/
import Derived.Test.YtohjmjlfmloiaaaProg
import Derived.WalkKit
import Derived.WalkSpells
import Derived.WalkLawsBesides
import Derived.Test.YtohjmjlfmloiaaaPaa
namespace Go.Proofs.Ytohjmjlfmloiaaa
open Go.RowKit
theorem gr_alloc (w:World) (o:Obj):Below w.heap.size w (w.alloc o):=(Below.refl _ _).alloc (Nat.le_refl _) o
theorem gr_trans {a b c:World} (h:Below a.heap.size a b) (k:Below b.heap.size b c):Below a.heap.size a c:=h.trans (k.mono h.size)
theorem block_lt {W:World} {b:Nat} {o:Obj} (h:W.heap[b]? = some o):b < W.heap.size:=by
 by_cases hlt:b < W.heap.size
 ·exact hlt
 ·rw [Array.getElem?_eq_none (by omega)] at h; cases h
structure En where
 b:Nat
 cs:Array Value
 t:TypeId
def CelL (W:World) (b:Nat):Nat→List Value→Prop
 | _,[]=>True
 | k,v :: r=>W.cell? ⟨b,k,none⟩ = some v∧CelL W b (k+1) r
def Cel (W:World):List En→Prop
 | []=>True
 | x :: r=>CelL W x.b 0 x.cs.toList∧Cel W r
theorem celL_of {W:World} {b:Nat} {cs:Array Value} {t:TypeId} (h:W.heap[b]? = some (.cells cs t (0,0))):∀ (l:List Value) (k:Nat),cs.toList.drop k = l→CelL W b k l
 | [],_,_=>trivial
 | v :: r,k,e=>by
  refine ⟨?_,celL_of h r (k+1) ?_⟩
  ·rw [cell_of_row W b k _ _ _ h]
   have:cs.toList[k]? = some v:=by
    have:=congrArg (fun l=>l[0]?) e
    simpa using this
   simpa using this
  ·have:=congrArg List.tail e
   simpa using this
theorem cel_of {W:World}:∀ (bs:List En),(∀ x,x∈bs→W.heap[x.b]? = some (.cells x.cs x.t (0,0)))→Cel W bs
 | [],_=>trivial
 | x :: r,h=>⟨celL_of (h x (List.mem_cons_self ..)) _ 0 rfl,cel_of r (fun y hy=>h y (List.mem_cons_of_mem _ hy))⟩
structure Fs (w0 W:World) (bs:List En):Prop where
 bx:∀ x,x∈bs→W.heap[x.b]? = some (.cells x.cs x.t (0,0))
 fr:Below w0.heap.size w0 W
theorem Fs.size {w0 W:World} {bs:List En} (h:Fs w0 W bs):w0.heap.size≤W.heap.size:=h.fr.size
theorem Fs.begin (w:World):Fs w w []:=⟨(fun _ h=>nomatch h),Below.refl _ _⟩
theorem Fs.kept {w0 W W':World} {bs:List En} (h:Fs w0 W bs) (hb:Below W.heap.size W W'):Fs w0 W' bs:=
 ⟨fun x hx=>by rw [hb.block _ (block_lt (h.bx x hx))]; exact h.bx x hx,gr_trans h.fr hb⟩
theorem Fs.lt {w0 W:World} {bs:List En} (h:Fs w0 W bs) (i:Nat) {x:En} (e:bs[i]? = some x):x.b < W.heap.size:=block_lt (h.bx x (List.mem_of_getElem? e))
theorem Fs.alloc {w0 W:World} {bs:List En} (h:Fs w0 W bs) (cs:Array Value) (t:TypeId):Fs w0 (W.alloc (.cells cs t)) (⟨W.heap.size,cs,t⟩ :: bs):=by
 have h':=h.kept (gr_alloc W (.cells cs t))
 refine ⟨fun x hx=>?_,h'.fr⟩
 rcases List.mem_cons.1 hx with rfl|hx
 ·exact heap_alloc_new W _
 ·exact h'.bx x hx
theorem Fs.drew {w0 W:World} {bs:List En} (h:Fs w0 W bs):Fs w0 W.drew bs:=⟨h.bx,h.fr.drew⟩
theorem Fs.sub {w0 W:World} {bs bs':List En} (h:Fs w0 W bs) (hs:∀ x,x∈bs'→x∈bs):Fs w0 W bs':=⟨fun x hx=>h.bx x (hs x hx),h.fr⟩
theorem Fs.frozen {w0 W:World} {bs:List En} (h:Fs w0 W bs) {b:Nat} {cs:Array Value} {t:TypeId} (hx:(⟨b,cs,t⟩:En)∈bs) (j:Nat):W.frozen? ⟨b,j,none⟩ = false:=frozen_of_row W b j _ _ (h.bx _ hx)
theorem Fs.put {w0 W:World} {bs:List En} (h:Fs w0 W bs) {b:Nat} {cs:Array Value} {t:TypeId} (hx:(⟨b,cs,t⟩:En)∈bs) (hw:w0.heap.size≤b) (j:Nat) (u:Value) (bs':List En)
  (hbs:∀ y,y∈bs'→y = ⟨b,cs.setIfInBounds j u,t⟩∨(y∈bs∧y.b≠b)):Fs w0 (W.setCell ⟨b,j,none⟩ u) bs':=by
 refine ⟨fun y hy=>?_,h.fr.setCell hw u⟩
 rcases hbs y hy with rfl|⟨hy,hne⟩
 ·exact heap_setCell_same W b j _ _ _ (h.bx _ hx)
 ·rw [heap_setCell_other W _ y.b u hne]; exact h.bx y hy
theorem Fs.one (w:World) (cs:Array Value) (t:TypeId):Fs w (w.alloc (.cells cs t)) [⟨w.heap.size,cs,t⟩]:=(Fs.begin w).alloc cs t
theorem Fs.two (w:World) (cs:Array Value) (t:TypeId) (ds:Array Value) (u:TypeId):Fs w ((w.alloc (.cells cs t)).alloc (.cells ds u)) [⟨w.heap.size,cs,t⟩,⟨w.heap.size+1,ds,u⟩]:=by
 have h:=((Fs.begin w).alloc cs t).alloc ds u
 rw [World.size_alloc] at h
 exact h.sub (by simp)
theorem Fs.cells {w0 W:World} {bs:List En} (h:Fs w0 W bs):Cel W bs:=cel_of bs h.bx
end Go.Proofs.Ytohjmjlfmloiaaa
