/- Of what LexDigitsRow stands on: Room. -/
import Derived.Test.YtkcpkbnhlcdacaaGreatDoorProg
import Derived.WalkKit
import Derived.WalkSpells
import Derived.WalkLawsBesides
namespace Go.Proofs.YtkcpkbnhlcdacaaGreatDoor
open Go.RowKit
theorem hide {p:Prop} (h:p):Hid p:=h
theorem unhide {p:Prop} (h:Hid p):p:=h
theorem gr_refl (w:World):Below w.heap.size w w:=Below.refl _ _
theorem gr_alloc (w:World) (o:Obj):Below w.heap.size w (w.alloc o):=(Below.refl _ _).alloc (Nat.le_refl _) o
theorem gr_trans {a b c:World} (h:Below a.heap.size a b) (k:Below b.heap.size b c):Below a.heap.size a c:=h.trans (k.mono h.size)
theorem block_lt {W:World} {b:Nat} {o:Obj} (h:W.heap[b]? = some o):b < W.heap.size:=by
 by_cases hlt:b < W.heap.size
 ·exact hlt
 ·rw [Array.getElem?_eq_none (by omega)] at h; cases h
structure En where
 b:Nat
 cs:Array Value
 t:TypeId
def CelL (W:World) (b:Nat):Nat→List Value→Prop
 | _,[]=>True
 | k,v :: r=>W.cell? ⟨b,k,none⟩ = some v∧CelL W b (k+1) r
def Cel (W:World):List En→Prop
 | []=>True
 | x :: r=>CelL W x.b 0 x.cs.toList∧Cel W r
theorem celL_of {W:World} {b:Nat} {cs:Array Value} {t:TypeId} (h:W.heap[b]? = some (.cells cs t (0,0))):∀ (l:List Value) (k:Nat),cs.toList.drop k = l→CelL W b k l
 | [],_,_=>trivial
 | v :: r,k,e=>by
  refine ⟨?_,celL_of h r (k+1) ?_⟩
  ·rw [cell_of_row W b k _ _ _ h]
   have:cs.toList[k]? = some v:=by
    have:=congrArg (fun l=>l[0]?) e
    simpa using this
   simpa using this
  ·have:=congrArg List.tail e
   simpa using this
theorem cel_of {W:World}:∀ (bs:List En),(∀ x,x∈bs→W.heap[x.b]? = some (.cells x.cs x.t (0,0)))→Cel W bs
 | [],_=>trivial
 | x :: r,h=>⟨celL_of (h x (List.mem_cons_self ..)) _ 0 rfl,cel_of r (fun y hy=>h y (List.mem_cons_of_mem _ hy))⟩
end Go.Proofs.YtkcpkbnhlcdacaaGreatDoor
