/- Of what DecBackRow stands on: Room FmBase Pick FmMath FmLeaf FmTake FmSplit FmFits FmCall FmJoin PickV. -/
import Derived.Test.YtpmmapoabbpaiaaGreatProg
import Derived.WalkKit
import Derived.WalkSpells
import Derived.WalkLawsBesides
import Derived.Test.YtpmmapoabbpaiaaGreatPaa
import Derived.OwnWalk
namespace Go.Proofs.YtpmmapoabbpaiaaGreat
open Go.RowKit
theorem hide {p:Prop} (h:p):Hid p:=h
theorem unhide {p:Prop} (h:Hid p):p:=h
theorem gr_refl (w:World):Below w.heap.size w w:=Below.refl _ _
theorem gr_alloc (w:World) (o:Obj):Below w.heap.size w (w.alloc o):=(Below.refl _ _).alloc (Nat.le_refl _) o
theorem gr_trans {a b c:World} (h:Below a.heap.size a b) (k:Below b.heap.size b c):Below a.heap.size a c:=h.trans (k.mono h.size)
theorem bcell {W w1:World} (hb:Below W.heap.size W w1):(∀ b o,b < W.heap.size→w1.cell? ⟨b,o,none⟩ = W.cell? ⟨b,o,none⟩)∧(∀ b o,b < W.heap.size→w1.frozen? ⟨b,o,none⟩ = W.frozen? ⟨b,o,none⟩):=
 ⟨fun b o h=>hb.cell (p:=⟨b,o,none⟩) h,fun b o h=>hb.frozen (p:=⟨b,o,none⟩) h⟩
theorem block_lt {W:World} {b:Nat} {o:Obj} (h:W.heap[b]? = some o):b < W.heap.size:=by
 by_cases hlt:b < W.heap.size
 ·exact hlt
 ·rw [Array.getElem?_eq_none (by omega)] at h; cases h
structure En where
 b:Nat
 cs:Array Value
 t:TypeId
def CelL (W:World) (b:Nat):Nat→List Value→Prop
 | _,[]=>True
 | k,v :: r=>W.cell? ⟨b,k,none⟩ = some v∧CelL W b (k+1) r
def Cel (W:World):List En→Prop
 | []=>True
 | x :: r=>CelL W x.b 0 x.cs.toList∧Cel W r
theorem celL_of {W:World} {b:Nat} {cs:Array Value} {t:TypeId} (h:W.heap[b]? = some (.cells cs t (0,0))):∀ (l:List Value) (k:Nat),cs.toList.drop k = l→CelL W b k l
 | [],_,_=>trivial
 | v :: r,k,e=>by
  refine ⟨?_,celL_of h r (k+1) ?_⟩
  ·rw [cell_of_row W b k _ _ _ h]
   have:cs.toList[k]? = some v:=by
    have:=congrArg (fun l=>l[0]?) e
    simpa using this
   simpa using this
  ·have:=congrArg List.tail e
   simpa using this
theorem cel_of {W:World}:∀ (bs:List En),(∀ x,x∈bs→W.heap[x.b]? = some (.cells x.cs x.t (0,0)))→Cel W bs
 | [],_=>trivial
 | x :: r,h=>⟨celL_of (h x (List.mem_cons_self ..)) _ 0 rfl,cel_of r (fun y hy=>h y (List.mem_cons_of_mem _ hy))⟩
structure Fs (w0 W:World) (bs:List En):Prop where
 bx:∀ x,x∈bs→W.heap[x.b]? = some (.cells x.cs x.t (0,0))
 fr:Below w0.heap.size w0 W
theorem Fs.size {w0 W:World} {bs:List En} (h:Fs w0 W bs):w0.heap.size≤W.heap.size:=h.fr.size
theorem Fs.begin (w:World):Fs w w []:=⟨(fun _ h=>nomatch h),Below.refl _ _⟩
theorem Fs.kept {w0 W W':World} {bs:List En} (h:Fs w0 W bs) (hb:Below W.heap.size W W'):Fs w0 W' bs:=
 ⟨fun x hx=>by rw [hb.block _ (block_lt (h.bx x hx))]; exact h.bx x hx,gr_trans h.fr hb⟩
theorem Fs.lt {w0 W:World} {bs:List En} (h:Fs w0 W bs) (i:Nat) {x:En} (e:bs[i]? = some x):x.b < W.heap.size:=block_lt (h.bx x (List.mem_of_getElem? e))
theorem Fs.alloc {w0 W:World} {bs:List En} (h:Fs w0 W bs) (cs:Array Value) (t:TypeId):Fs w0 (W.alloc (.cells cs t)) (⟨W.heap.size,cs,t⟩ :: bs):=by
 have h':=h.kept (gr_alloc W (.cells cs t))
 refine ⟨fun x hx=>?_,h'.fr⟩
 rcases List.mem_cons.1 hx with rfl|hx
 ·exact heap_alloc_new W _
 ·exact h'.bx x hx
theorem Fs.drew {w0 W:World} {bs:List En} (h:Fs w0 W bs):Fs w0 W.drew bs:=⟨h.bx,h.fr.drew⟩
theorem Fs.sub {w0 W:World} {bs bs':List En} (h:Fs w0 W bs) (hs:∀ x,x∈bs'→x∈bs):Fs w0 W bs':=⟨fun x hx=>h.bx x (hs x hx),h.fr⟩
theorem Fs.cellAt {w0 W:World} {bs:List En} (h:Fs w0 W bs) {b:Nat} {cs:Array Value} {t:TypeId} (hx:(⟨b,cs,t⟩:En)∈bs) (j:Nat) (v:Value) (hv:cs[j]? = some v):W.cell? ⟨b,j,none⟩ = some v:=by
 rw [cell_of_row W b j _ _ _ (h.bx _ hx)]; exact hv
theorem Fs.frozen {w0 W:World} {bs:List En} (h:Fs w0 W bs) {b:Nat} {cs:Array Value} {t:TypeId} (hx:(⟨b,cs,t⟩:En)∈bs) (j:Nat):W.frozen? ⟨b,j,none⟩ = false:=frozen_of_row W b j _ _ (h.bx _ hx)
theorem Fs.put {w0 W:World} {bs:List En} (h:Fs w0 W bs) {b:Nat} {cs:Array Value} {t:TypeId} (hx:(⟨b,cs,t⟩:En)∈bs) (hw:w0.heap.size≤b) (j:Nat) (u:Value) (bs':List En)
  (hbs:∀ y,y∈bs'→y = ⟨b,cs.setIfInBounds j u,t⟩∨(y∈bs∧y.b≠b)):Fs w0 (W.setCell ⟨b,j,none⟩ u) bs':=by
 refine ⟨fun y hy=>?_,h.fr.setCell hw u⟩
 rcases hbs y hy with rfl|⟨hy,hne⟩
 ·exact heap_setCell_same W b j _ _ _ (h.bx _ hx)
 ·rw [heap_setCell_other W _ y.b u hne]; exact h.bx y hy
theorem Fs.one (w:World) (cs:Array Value) (t:TypeId):Fs w (w.alloc (.cells cs t)) [⟨w.heap.size,cs,t⟩]:=(Fs.begin w).alloc cs t
theorem Fs.two (w:World) (cs:Array Value) (t:TypeId) (ds:Array Value) (u:TypeId):Fs w ((w.alloc (.cells cs t)).alloc (.cells ds u)) [⟨w.heap.size,cs,t⟩,⟨w.heap.size+1,ds,u⟩]:=by
 have h:=((Fs.begin w).alloc cs t).alloc ds u
 rw [World.size_alloc] at h
 exact h.sub (by simp)
theorem Fs.cells {w0 W:World} {bs:List En} (h:Fs w0 W bs):Cel W bs:=cel_of bs h.bx
theorem act_eq {t:Array Value} {s:Nat} {u v:Value} (h:u = v):({ tmps:=t.setIfInBounds s u,defers:=[] }:Act) = ⟨putD (some (s,v)) t,[]⟩:=by rw [h]; rfl
theorem Det.step {ops:Array Oper} {ds:Puts} {T0:Array Value} {l:Array Bool} {t:Array Value} {i:Nat} (hD:Det ops ds T0 l t) (ha:Puts.apart ds = true) (hw:Puts.within ds T0.size = true) (hi:i∈Region.ready .any ops l) (hl:l[i]? = some false) :
  Det ops ds T0 (l.setIfInBounds i true) (putD (ds[i]?.getD none) t):=by
 obtain ⟨hlt,-⟩:=Array.getElem?_eq_some_iff.1 hl
 have hset:∀ k,(l.setIfInBounds i true)[k]? = some true↔(k = i∨l[k]? = some true):=by
  intro k
  by_cases hk:k = i
  ·subst hk; simp [hlt]
  ·rw [Array.getElem?_setIfInBounds_ne (Ne.symm hk)]; simp [hk]
 constructor
 ·rw [Array.size_setIfInBounds]; exact hD.len
 ·rw [← hD.size]
  cases hd:ds[i]?.getD none with
  | none=>rfl
  | some d=>obtain ⟨s,v⟩:=d; simp [putD]
 ·intro k s v hk hlk
  rcases (hset k).1 hlk with rfl|hlk9
  ·rw [hk]
   have hs:s < t.size:=by rw [hD.size]; simpa using List.all_eq_true.1 hw _ (List.mem_of_getElem? hk)
   simp [putD,hs]
  ·cases hd:ds[i]?.getD none with
   | none=>exact hD.on k s v hk hlk9
   | some d=>
    obtain ⟨s',v'⟩:=d
    have hd':ds[i]? = some (some (s',v')):=by
     cases hx:ds[i]? with
     | none=>rw [hx] at hd; simp at hd
     | some y=>rw [hx] at hd; simp at hd; rw [hd]
    have hne:s'≠s:=by
     intro e; subst e
     obtain rfl:=Puts.one ha hk hd'
     rw [hl] at hlk9; cases hlk9
    rw [putD,Array.getElem?_setIfInBounds_ne hne]
    exact hD.on k s v hk hlk9
 ·intro s hs
  cases hd:ds[i]?.getD none with
  | none=>exact hD.off s (fun k v hk hlk=>hs k v hk ((hset k).2 (Or.inr hlk)))
  | some d=>
   obtain ⟨s',v'⟩:=d
   have hd':ds[i]? = some (some (s',v')):=by
    cases hx:ds[i]? with
    | none=>rw [hx] at hd; simp at hd
    | some y=>rw [hx] at hd; simp at hd; rw [hd]
   have hne:s'≠s:=by
    intro e; subst e
    exact hs i v' hd' ((hset i).2 (Or.inl rfl))
   rw [putD,Array.getElem?_setIfInBounds_ne hne]
   exact hD.off s (fun k v hk hlk=>hs k v hk ((hset k).2 (Or.inr hlk)))
 ·intro k o hlk ho e he hbe
  rcases (hset k).1 hlk with rfl|hlk
  ·obtain ⟨o',ho',hd'⟩:=(mem_ready.1 hi).2
   rw [ho] at ho'
   cases ho'
   exact true_getD ((hset _).2 (Or.inr (getD_true (hd' e he hbe))))
  ·exact true_getD ((hset _).2 (Or.inr (getD_true (hD.shut k o hlk ho e he hbe))))
end Go.Proofs.YtpmmapoabbpaiaaGreat
