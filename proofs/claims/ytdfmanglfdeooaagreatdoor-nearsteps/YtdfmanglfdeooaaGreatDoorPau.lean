/- Of what NearStepsRow stands on: RWork RState RReg0 RWk ROver RReg RFrac NrAl NrCmp NrEnd. -/
import Derived.Test.YtdfmanglfdeooaaGreatDoorPar
import Derived.Test.YtdfmanglfdeooaaGreatDoorPag
import Derived.Test.YtdfmanglfdeooaaGreatDoorPap
import Derived.Test.YtdfmanglfdeooaaGreatDoorPas
import Derived.Test.YtdfmanglfdeooaaGreatDoorPaj
import Derived.Test.YtdfmanglfdeooaaGreatDoorPat
import Derived.Test.YtdfmanglfdeooaaGreatDoorPaf
import Derived.Test.YtdfmanglfdeooaaGreatDoorPaa
namespace Go.Proofs.YtdfmanglfdeooaaGreatDoor
open Go.RowKit
theorem But.trans {p : Nat} {a b c : World} (h : But p a b) (k : But p b c) : But p a c :=
 ⟨k.os.trans h.os,k.tape.trans h.tape,k.output.trans h.output,Nat.le_trans h.size k.size,fun i hi hp => (k.block i (Nat.lt_of_lt_of_le hi h.size) hp).trans (h.block i hi hp)⟩
theorem But.set {p : Nat} {w w' : World} (h : But p w w') (j : Nat) (u : Value) : But p w (w'.setCell ⟨p,j,none⟩ u) :=
 ⟨h.os,h.tape,h.output,by simpa [World.setCell] using h.size,fun k hk hp => (heap_setCell_other w' _ k u hp).trans (h.block k hk hp)⟩
theorem But.drew {p : Nat} {w w' : World} (h : But p w w') : But p w w'.drew := ⟨h.os,h.tape,h.output,h.size,h.block⟩
def Wk (w : World) (p : Nat) (e : Int) : Prop := ∃ t,t ≠ 55 ∧ w.heap[p]? = some (.cells #[.int .i64 e] t (0,0))
theorem Wk.lt {w : World} {p : Nat} {e : Int} (h : Wk w p e) : p < w.heap.size := by
 obtain ⟨t,_,h⟩ := h
 by_cases hlt : p < w.heap.size
 ·exact hlt
 ·rw [Array.getElem?_eq_none (by omega)] at h; cases h
theorem Wk.cell {w : World} {p : Nat} {e : Int} (h : Wk w p e) : w.cell? ⟨p,0,none⟩ = some (.int .i64 e) := by
 obtain ⟨t,_,h⟩ := h
 rw [cell_of_row w p 0 _ _ _ h]; rfl
theorem Wk.frozen {w : World} {p : Nat} {e : Int} (h : Wk w p e) : w.frozen? ⟨p,0,none⟩ = false := by
 obtain ⟨t,_,h⟩ := h
 exact frozen_of_row w p 0 _ _ h
theorem Wk.kept {w w' : World} {p : Nat} {e : Int} (h : Wk w p e) (hb : Below w.heap.size w w') : Wk w' p e := by
 have hl := h.lt
 obtain ⟨t,ht,h⟩ := h
 exact ⟨t,ht,by rw [hb.block p hl]; exact h⟩
theorem Wk.alloc {w : World} {p : Nat} {e : Int} (h : Wk w p e) (o : Obj) : Wk (w.alloc o) p e := h.kept (gr_alloc _ _)
theorem Wk.set {w : World} {p : Nat} {e : Int} (h : Wk w p e) (u : Int) : Wk (w.setCell ⟨p,0,none⟩ (.int .i64 u)) p u := by
 obtain ⟨t,ht,h⟩ := h
 exact ⟨t,ht,by rw [heap_setCell_same w p 0 _ _ _ h]; rfl⟩
theorem Wk.other {w : World} {p : Nat} {e : Int} (h : Wk w p e) {q : Addr} (hne : p ≠ q.block) (u : Value) : Wk (w.setCell q u) p e := by
 obtain ⟨t,ht,h⟩ := h
 exact ⟨t,ht,by rw [heap_setCell_other w q p u hne]; exact h⟩
theorem Wk.made (w : World) (e : Int) (t : TypeId) (ht : t ≠ 55 := by decide) : Wk (w.alloc (.cells #[.int .i64 e] t)) w.heap.size e := ⟨t,ht,heap_alloc_new w _⟩
theorem Wk.drew {w : World} {p : Nat} {e : Int} (h : Wk w p e) : Wk w.drew p e := h
theorem Lim.but {w w' : World} {p : Nat} {e : Int} {a : Option Addr} {xs : List Nat} (h : Lim w a xs) (hk : Wk w p e) (hb : But p w w') : Lim w' a xs := by
 rcases h.parts with h | ⟨hp,b,off,ha,hlt,hc⟩
 ·exact Or.inl h
 ·have hne : b ≠ p := by
   rintro rfl
   have h0 := hc 0 hp
   obtain ⟨t,_,hk⟩ := hk
   rw [cell_of_row w b (off + 0) _ _ _ hk] at h0
   by_cases hz : off + 0 = 0
   ·rw [hz] at h0; simp at h0
   ·rw [Array.getElem?_eq_none (by simp; omega)] at h0; cases h0
  refine Or.inr ⟨b,off,ha,fun j hj => ?_⟩
  rw [World.cell?_of_block (w := w) (hb.block b hlt hne)]
  exact hc j hj
theorem Num.but {w w' : World} {p : Nat} {e : Int} {a : Option Addr} {n m : Nat} (h : Num w a n m) (hk : Wk w p e) (hb : But p w w') : Num w' a n m := by
 obtain ⟨xs,hn,hl,r⟩ := h
 exact ⟨xs,hn,hl.but hk hb,r⟩
theorem Own.but {w w' : World} {base p : Nat} {e : Int} {v : Value} {xs : List Nat} (h : Own w base v xs) (hk : Wk w p e) (hb : But p w w') : Own w' base v xs := by
 rcases h with h | ⟨g,cap,cur,rfl,hg,hh,r⟩
 ·exact Or.inl h
 ·have hlt : g < w.heap.size := by
   by_cases hlt : g < w.heap.size
   ·exact hlt
   ·rw [Array.getElem?_eq_none (by omega)] at hh; cases hh
  have hne : g ≠ p := by
   rintro rfl
   obtain ⟨t,ht,hk⟩ := hk
   rw [hh] at hk
   injection hk with hk
   injection hk with _ hk
   exact ht hk.symm
  exact Or.inr ⟨g,cap,cur,rfl,hg,by rw [hb.block g hlt hne]; exact hh,r⟩
theorem Mine.but {w w' : World} {base p : Nat} {e : Int} {a : Option Addr} {n cap m : Nat} (h : Mine w base a n cap m) (hk : Wk w p e) (hb : But p w w') : Mine w' base a n cap m := by
 obtain ⟨xs,hn,ho,r⟩ := h
 exact ⟨xs,hn,ho.but hk hb,r⟩
def Kp (e0 e : Int) : Int := if e0 = 0 then e else e0
theorem Kp.ok {e0 e : Int} (h : Kp e0 e = 0) : e0 = 0 ∧ e = 0 := by
 unfold Kp at h; split at h
 ·exact ⟨‹_›,h⟩
 ·exact absurd h ‹_›
theorem Kp.zero (e : Int) : Kp 0 e = e := by simp [Kp]
theorem Kp.same (e0 : Int) : Kp e0 0 = e0 := by unfold Kp; split <;> simp_all
def DStp (e : Int) (Q R m d : Nat) : Prop := (d = 0 ∧ e = 11 ∧ Q = 0 ∧ R = 0) ∨ (0 < d ∧ e = 0 ∧ Q = m / d ∧ R = m % d)
end Go.Proofs.YtdfmanglfdeooaaGreatDoor
namespace Go.Proofs.YtdfmanglfdeooaaGreatDoor
open Go.RowKit
def FrO (k : Option (Nat × Int)) (w W : World) : Prop := match k with
 | none => Below w.heap.size w W
 | some (p,_) => But p w W
def WkO (k : Option (Nat × Int)) (W : World) : Prop := match k with
 | none => True
 | some (p,e) => Wk W p e
def NeO (k : Option (Nat × Int)) (b : Nat) : Prop := match k with
 | none => True
 | some (p,_) => b ≠ p
structure Rs (w0 W : World) (k : Option (Nat × Int)) (bs : List En) (ms : List (Option Addr × Nat × Nat)) (os : List (Option Addr × Nat × Nat × Nat)) : Prop where
 wk : WkO k W
 bx : ∀ x,x ∈ bs → W.heap[x.b]? = some (.cells x.cs x.t (0,0)) ∧ NeO k x.b ∧ x.t ≠ 55 ∧ NoLimb x.cs.toList
 nm : ∀ x,x ∈ ms → Num W x.1 x.2.1 x.2.2
 ow : ∀ x,x ∈ os → Mine W w0.heap.size x.1 x.2.1 x.2.2.1 x.2.2.2
 fr : FrO k w0 W
theorem Rs.size {w0 W : World} {k : Option (Nat × Int)} {bs : List En} {ms : List (Option Addr × Nat × Nat)} {os : List (Option Addr × Nat × Nat × Nat)} (h : Rs w0 W k bs ms os) : w0.heap.size ≤ W.heap.size := by
 have := h.fr
 match k,this with
 | none,h => exact h.size
 | some (_,_),h => exact h.size
theorem Rs.begin (w : World) : Rs w w none [] [] [] := ⟨trivial,(fun _ h => nomatch h),(fun _ h => nomatch h),(fun _ h => nomatch h),Below.refl _ _⟩
theorem Rs.kept {w0 W W' : World} {k : Option (Nat × Int)} {bs : List En} {ms : List (Option Addr × Nat × Nat)} {os : List (Option Addr × Nat × Nat × Nat)} (h : Rs w0 W k bs ms os) (hb : Below W.heap.size W W') : Rs w0 W' k bs ms os := by
 have hs := h.size
 refine ⟨?_,fun x hx => ?_,fun x hx => (h.nm x hx).kept hb,fun x hx => (h.ow x hx).kept hb,?_⟩
 ·have := h.wk
  match k,this with
  | none,_ => trivial
  | some (_,_),h => exact Wk.kept h hb
 ·obtain ⟨h1,h2⟩ := h.bx x hx
  exact ⟨by rw [hb.block _ (block_lt h1)]; exact h1,h2⟩
 ·have := h.fr
  match k,this with
  | none,h => exact gr_trans h hb
  | some (_,_),h => exact But.trans h (But.of hb)
theorem Rs.call {w0 W W' : World} {p : Nat} {e e' : Int} {bs : List En} {ms : List (Option Addr × Nat × Nat)} {os : List (Option Addr × Nat × Nat × Nat)} (h : Rs w0 W (some (p,e)) bs ms os) (hb : But p W W') (hk : Wk W' p e') : Rs w0 W' (some (p,e')) bs ms os := by
 have hk0 : Wk W p e := h.wk
 refine ⟨hk,fun x hx => ?_,fun x hx => (h.nm x hx).but hk0 hb,fun x hx => (h.ow x hx).but hk0 hb,But.trans h.fr hb⟩
 obtain ⟨h1,h2,h3⟩ := h.bx x hx
 exact ⟨by rw [hb.block _ (block_lt h1) h2]; exact h1,h2,h3⟩
theorem Rs.alloc {w0 W : World} {k : Option (Nat × Int)} {bs : List En} {ms : List (Option Addr × Nat × Nat)} {os : List (Option Addr × Nat × Nat × Nat)} (h : Rs w0 W k bs ms os) (cs : Array Value) (t : TypeId) (ht : t ≠ 55 := by decide) (hl : noLimb cs.toList = true := by rfl) : Rs w0 (W.alloc (.cells cs t)) k (⟨W.heap.size,cs,t⟩ :: bs) ms os := by
 have h' := h.kept (gr_alloc W (.cells cs t))
 refine ⟨h'.wk,fun x hx => ?_,h'.nm,h'.ow,h'.fr⟩
 rcases List.mem_cons.1 hx with rfl | hx
 ·refine ⟨heap_alloc_new W _,?_,ht,noLimb_of _ hl⟩
  have := h.wk
  match k,this with
  | none,_ => trivial
  | some (p,_),hk => exact fun e => by have := Wk.lt hk; simp only at e; omega
 ·exact h'.bx x hx
theorem Rs.num {w0 W : World} {k : Option (Nat × Int)} {bs : List En} {ms : List (Option Addr × Nat × Nat)} {os : List (Option Addr × Nat × Nat × Nat)} (h : Rs w0 W k bs ms os) {a : Option Addr} {n m : Nat} (hn : Num W a n m) : Rs w0 W k bs ((a,n,m) :: ms) os :=
 ⟨h.wk,h.bx,fun x hx => by rcases List.mem_cons.1 hx with rfl | hx; exact hn; exact h.nm x hx,h.ow,h.fr⟩
theorem Rs.own {w0 W : World} {k : Option (Nat × Int)} {bs : List En} {ms : List (Option Addr × Nat × Nat)} {os : List (Option Addr × Nat × Nat × Nat)} (h : Rs w0 W k bs ms os) {a : Option Addr} {n c m base : Nat} (hn : Mine W base a n c m) (hb : w0.heap.size ≤ base) : Rs w0 W k bs ms ((a,n,c,m) :: os) :=
 ⟨h.wk,h.bx,h.nm,fun x hx => by rcases List.mem_cons.1 hx with rfl | hx; exact hn.mono hb; exact h.ow x hx,h.fr⟩
theorem Rs.drew {w0 W : World} {k : Option (Nat × Int)} {bs : List En} {ms : List (Option Addr × Nat × Nat)} {os : List (Option Addr × Nat × Nat × Nat)} (h : Rs w0 W k bs ms os) : Rs w0 W.drew k bs ms os := by
 refine ⟨?_,h.bx,h.nm,h.ow,?_⟩
 ·have := h.wk
  match k,this with
  | none,_ => trivial
  | some (_,_),h => exact h
 ·have := h.fr
  match k,this with
  | none,h => exact Below.drew h
  | some (_,_),h => exact But.drew h
theorem Rs.cells {w0 W : World} {k : Option (Nat × Int)} {bs : List En} {ms : List (Option Addr × Nat × Nat)} {os : List (Option Addr × Nat × Nat × Nat)} (h : Rs w0 W k bs ms os) : Cel W bs := cel_of bs (fun x hx => (h.bx x hx).1)
theorem Rs.frozen {w0 W : World} {k : Option (Nat × Int)} {bs : List En} {ms : List (Option Addr × Nat × Nat)} {os : List (Option Addr × Nat × Nat × Nat)} (h : Rs w0 W k bs ms os) {x : En} (hx : x ∈ bs) (j : Nat) : W.frozen? ⟨x.b,j,none⟩ = false := frozen_of_row W x.b j _ _ (h.bx x hx).1
theorem Rs.cz {w0 W : World} {k : Option (Nat × Int)} {bs : List En} {ms : List (Option Addr × Nat × Nat)} {os : List (Option Addr × Nat × Nat × Nat)} (h : Rs w0 W k bs ms os) (x : En) (hx : x ∈ bs) : CelL W x.b 0 x.cs.toList ∧ ∀ j,W.frozen? ⟨x.b,j,none⟩ = false := ⟨celL_of (h.bx x hx).1 _ 0 rfl,fun j => h.frozen hx j⟩
theorem nb {p : Prop} (h : false = true) : p := Bool.noConfusion h
theorem Rs.put {w0 W : World} {k : Option (Nat × Int)} {bs : List En} {ms : List (Option Addr × Nat × Nat)} {os : List (Option Addr × Nat × Nat × Nat)} (h : Rs w0 W k bs ms os) {x : En} (hx : x ∈ bs) (hw : w0.heap.size ≤ x.b) (j : Nat) (u : Value) (hu : ∀ z,u ≠ .int .u32 z) (bs' : List En)
  (hbs : ∀ y,y ∈ bs' → y = ⟨x.b,x.cs.setIfInBounds j u,x.t⟩ ∨ (y ∈ bs ∧ y.b ≠ x.b)) : Rs w0 (W.setCell ⟨x.b,j,none⟩ u) k bs' ms os := by
 obtain ⟨h1,h2,h3,h4⟩ := h.bx x hx
 refine ⟨?_,fun y hy => ?_,fun y hy => (h.nm y hy).put h1 h4 j u,fun y hy => (h.ow y hy).put h1 h3 j u,?_⟩
 ·have := h.wk
  match k,this,h2 with
  | none,_,_ => trivial
  | some (q,_),hk,h2 => exact Wk.other hk (show q ≠ x.b from Ne.symm (show x.b ≠ q from h2)) u
 ·rcases hbs y hy with rfl | ⟨hy,hne⟩
  ·refine ⟨heap_setCell_same W x.b j _ _ _ h1,h2,h3,?_⟩
   intro v hv z
   simp only [Array.toList_setIfInBounds] at hv
   rcases List.mem_or_eq_of_mem_set hv with hv | rfl
   ·exact h4 v hv z
   ·exact hu z
  ·obtain ⟨q1,q2⟩ := h.bx y hy
   exact ⟨by rw [heap_setCell_other W _ y.b u hne]; exact q1,q2⟩
 ·have := h.fr
  match k,this with
  | none,h => exact Below.setCell h hw u
  | some (_,_),h => exact But.setCell h hw u
end Go.Proofs.YtdfmanglfdeooaaGreatDoor
namespace Go.Proofs.YtdfmanglfdeooaaGreatDoor
open Go.RowKit
abbrev Ms := List (Option Addr × Nat × Nat)
abbrev Os := List (Option Addr × Nat × Nat × Nat)
theorem Rs.sub {w0 W : World} {k : Option (Nat × Int)} {bs bs' : List En} {ms ms' : Ms} {os os' : Os} (h : Rs w0 W k bs ms os) (hb : ∀ x,x ∈ bs' → x ∈ bs) (hm : ∀ x,x ∈ ms' → x ∈ ms) (ho : ∀ x,x ∈ os' → x ∈ os) : Rs w0 W k bs' ms' os' :=
 ⟨h.wk,fun x hx => h.bx x (hb x hx),fun x hx => h.nm x (hm x hx),fun x hx => h.ow x (ho x hx),h.fr⟩
structure Rc (w0 : World) (S0 : Nat) (bs : List En) (ms : Ms) (os : Os) (k : Option (Nat × Int)) (bs' : List En) (os' : Os) (w' : World) : Prop where
 st : Rs w0 w' k bs' ms os'
 sz : S0 ≤ w'.heap.size
 old : ∀ x,x ∈ bs → x ∈ bs' ∧ x.b < S0
 oso : ∀ y,y ∈ os → y ∈ os'
 w0s : w0.heap.size ≤ S0
theorem Rc.start {w0 W : World} {k : Option (Nat × Int)} {bs bs1 : List En} {ms : Ms} {os : Os} (h : Rs w0 W k bs1 ms os) (hb : ∀ x,x ∈ bs → x ∈ bs1) : Rc w0 W.heap.size bs ms os k bs1 os W :=
 ⟨h,Nat.le_refl _,fun x hx => ⟨hb x hx,block_lt (h.bx x (hb x hx)).1⟩,fun _ h => h,h.size⟩
theorem Rs.cellAt {w0 W : World} {k : Option (Nat × Int)} {bs : List En} {ms : Ms} {os : Os} (h : Rs w0 W k bs ms os) {x : En} (hx : x ∈ bs) (j : Nat) (v : Value) (hv : x.cs[j]? = some v) : W.cell? ⟨x.b,j,none⟩ = some v := by
 rw [cell_of_row W x.b j _ _ _ (h.bx x hx).1]; exact hv
theorem Rc.alloc {w0 : World} {S0 : Nat} {bs : List En} {ms : Ms} {os : Os} {k : Option (Nat × Int)} {bs' : List En} {os' : Os} {w' : World} (h : Rc w0 S0 bs ms os k bs' os' w') (cs : Array Value) (t : TypeId) (ht : t ≠ 55 := by decide) (hl : noLimb cs.toList = true := by rfl) :
  Rc w0 S0 bs ms os k (⟨w'.heap.size,cs,t⟩ :: bs') os' (w'.alloc (.cells cs t)) :=
 ⟨h.st.alloc cs t ht hl,by have := h.sz; simp only [World.size_alloc]; omega,fun x hx => ⟨List.mem_cons_of_mem _ (h.old x hx).1,(h.old x hx).2⟩,h.oso,h.w0s⟩
theorem Rc.call {w0 : World} {S0 : Nat} {bs : List En} {ms : Ms} {os : Os} {k k2 : Option (Nat × Int)} {bs' : List En} {os' os2 : Os} {w' W : World} (h : Rc w0 S0 bs ms os k bs' os' w') (hs : Rs w0 W k2 bs' ms os2) (hz : w'.heap.size ≤ W.heap.size) (ho : ∀ y,y ∈ os' → y ∈ os2) : Rc w0 S0 bs ms os k2 bs' os2 W :=
 ⟨hs,Nat.le_trans h.sz hz,h.old,fun y hy => ho y (h.oso y hy),h.w0s⟩
theorem Rc.store {w0 : World} {S0 : Nat} {bs : List En} {ms : Ms} {os : Os} {k : Option (Nat × Int)} {bs' : List En} {os' : Os} {w' : World} (h : Rc w0 S0 bs ms os k bs' os' w') {g : Nat} {cs : Array Value} {t : TypeId} (hx : (⟨g,cs,t⟩ : En) ∈ bs') (hw : w0.heap.size ≤ g) (hg : ∀ x,x ∈ bs → x.b ≠ g) (j : Nat) (u : Value) (hu : ∀ z,u ≠ .int .u32 z) :
  Rc w0 S0 bs ms os k (⟨g,cs.setIfInBounds j u,t⟩ :: bs'.filter (fun y => y.b ≠ g)) os' (w'.setCell ⟨g,j,none⟩ u) := by
 refine ⟨h.st.put hx hw j u hu _ (fun y hy => ?_),by have := h.sz; simpa [World.setCell] using this,fun x hx' => ⟨List.mem_cons_of_mem _ (List.mem_filter.2 ⟨(h.old x hx').1,by simpa using hg x hx'⟩),(h.old x hx').2⟩,h.oso,h.w0s⟩
 rcases List.mem_cons.1 hy with rfl | hy
 ·exact Or.inl rfl
 ·have := List.mem_filter.1 hy
  exact Or.inr ⟨this.1,by simpa using this.2⟩
def upward (ops : Array Oper) : Bool := (List.range ops.size).all fun i => match ops[i]? with
 | none => true
 | some o => o.after.all fun e => !(Region.binds .any e) || decide (e.on < i)
theorem all_done {ops : Array Oper} {l : Array Bool} (hr : Region.ready .any ops l = []) (hu : upward ops = true) (hl : l.size = ops.size) : ∀ i,i < ops.size → l.getD i true = true := by
 intro i
 induction i using Nat.strongRecOn with
 | ind i ih =>
  intro hi
  refine ready_nil (i := i) (o := ops[i]) hr (Array.getElem?_eq_getElem hi) (fun e he hb => ?_)
  have h := List.all_eq_true.1 hu i (List.mem_range.2 hi)
  rw [Array.getElem?_eq_getElem hi] at h
  have h2 := Array.all_eq_true'.1 h e he
  rw [hb] at h2
  have h3 : e.on < i := by simpa using h2
  have h4 := ih e.on h3 (by omega)
  have hs : e.on < l.size := by omega
  rw [Array.getD_eq_getD_getElem?] at h4 ⊢
  rw [Array.getElem?_eq_getElem hs] at h4 ⊢
  exact h4
def AlV (bs' : List En) (S0 : Nat) (v : Value) (t : TypeId) : Prop := ∃ g s,v = .pointer (some ⟨g,0,none⟩) ∧ S0 ≤ g ∧ (⟨g,#[s],t⟩ : En) ∈ bs'
def StV (bs' : List En) (S0 : Nat) (v x : Value) (t : TypeId) : Prop := ∃ g s,v = .pointer (some ⟨g,0,none⟩) ∧ S0 ≤ g ∧ x = .agg #[s] ∧ (⟨g,#[s],t⟩ : En) ∈ bs'
theorem AlV.cons {bs' : List En} {S0 : Nat} {v : Value} {t : TypeId} (h : AlV bs' S0 v t) (y : En) : AlV (y :: bs') S0 v t := by
 obtain ⟨g,s,h1,h2,h3⟩ := h
 exact ⟨g,s,h1,h2,List.mem_cons_of_mem _ h3⟩
theorem StV.cons {bs' : List En} {S0 : Nat} {v x : Value} {t : TypeId} (h : StV bs' S0 v x t) (y : En) : StV (y :: bs') S0 v x t := by
 obtain ⟨g,s,h1,h2,h3,h4⟩ := h
 exact ⟨g,s,h1,h2,h3,List.mem_cons_of_mem _ h4⟩
theorem AlV.but {bs' : List En} {S0 : Nat} {v : Value} {t : TypeId} (h : AlV bs' S0 v t) {g : Nat} (hne : v ≠ .pointer (some ⟨g,0,none⟩)) (y : En) : AlV (y :: bs'.filter (fun y => y.b ≠ g)) S0 v t := by
 obtain ⟨g',s,h1,h2,h3⟩ := h
 exact ⟨g',s,h1,h2,List.mem_cons_of_mem _ (List.mem_filter.2 ⟨h3,by simp only [ne_eq,decide_not,Bool.not_eq_eq_eq_not,Bool.not_true,decide_eq_false_iff_not]; intro e; exact hne (by rw [h1,e])⟩)⟩
theorem AlV.self {bs' : List En} {S0 g : Nat} {v s : Value} {t : TypeId} (h : v = .pointer (some ⟨g,0,none⟩)) (hg : S0 ≤ g) : AlV ((⟨g,#[s],t⟩ : En) :: bs') S0 v t := ⟨g,s,h,hg,List.mem_cons_self ..⟩
theorem StV.but {bs' : List En} {S0 : Nat} {v x : Value} {t : TypeId} (h : StV bs' S0 v x t) {g : Nat} (hne : v ≠ .pointer (some ⟨g,0,none⟩)) (y : En) : StV (y :: bs'.filter (fun y => y.b ≠ g)) S0 v x t := by
 obtain ⟨g',s,h1,h2,h3,h4⟩ := h
 exact ⟨g',s,h1,h2,h3,List.mem_cons_of_mem _ (List.mem_filter.2 ⟨h4,by simp only [ne_eq,decide_not,Bool.not_eq_eq_eq_not,Bool.not_true,decide_eq_false_iff_not]; intro e; exact hne (by rw [h1,e])⟩)⟩
theorem AlV.ne {W w0 : World} {k : Option (Nat × Int)} {ms : Ms} {os : Os} {bs' : List En} {S0 : Nat} {v : Value} {t : TypeId} (h : AlV bs' S0 v t) (hs : Rs w0 W k bs' ms os) : v ≠ .pointer (some ⟨W.heap.size,0,none⟩) := by
 obtain ⟨g,s,h1,h2,h3⟩ := h
 have := block_lt (hs.bx _ h3).1
 rw [h1]
 intro e
 injection e with e
 injection e with e
 injection e with e
 simp only at this
 omega
def AlN (bs' : List En) (S0 : Nat) (v : Value) (t : TypeId) (n : Nat) : Prop := ∃ g cs,v = .pointer (some ⟨g,0,none⟩) ∧ S0 ≤ g ∧ cs.size = n ∧ (⟨g,cs,t⟩ : En) ∈ bs'
def StN (bs' : List En) (S0 : Nat) (v : Value) (cs : Array Value) (t : TypeId) : Prop := ∃ g,v = .pointer (some ⟨g,0,none⟩) ∧ S0 ≤ g ∧ (⟨g,cs,t⟩ : En) ∈ bs'
theorem AlN.self {bs' : List En} {S0 g n : Nat} {v : Value} {cs : Array Value} {t : TypeId} (h : v = .pointer (some ⟨g,0,none⟩)) (hg : S0 ≤ g) (hn : cs.size = n) : AlN ((⟨g,cs,t⟩ : En) :: bs') S0 v t n := ⟨g,cs,h,hg,hn,List.mem_cons_self ..⟩
theorem AlN.cons {bs' : List En} {S0 n : Nat} {v : Value} {t : TypeId} (h : AlN bs' S0 v t n) (y : En) : AlN (y :: bs') S0 v t n := by
 obtain ⟨g,cs,h1,h2,h3,h4⟩ := h
 exact ⟨g,cs,h1,h2,h3,List.mem_cons_of_mem _ h4⟩
structure Wd (e e' : Int) (Q R m d : Nat) : Prop where
 ok : e' = 0 → e = 0 ∧ Q = m / d ∧ R = m % d ∧ 0 < d
 zero : e = 0 → e' ≠ 0 → d = 0
 stay : e ≠ 0 → e' = e
theorem Wd.of {e r : Int} {Q R m d : Nat} (h : DStp r Q R m d) : Wd e (Kp e r) Q R m d := by
 refine ⟨fun h0 => ?_,fun h0 h1 => ?_,fun h0 => by rw [Kp,if_neg h0]⟩
 ·obtain ⟨e1,e2⟩ := Kp.ok h0
  rcases h with ⟨_,h,_⟩ | ⟨h0,_,h1,h2⟩
  ·omega
  ·exact ⟨e1,h1,h2,h0⟩
 ·subst h0
  rw [Kp.zero] at h1
  rcases h with ⟨h,_⟩ | ⟨_,h,_⟩
  ·exact h
  ·exact absurd h h1
theorem W_of {w0 W : World} {k : Option (Nat × Int)} {bs : List En} {ms : Ms} {os : Os} (hS : Rs w0 W k bs ms os) (u : Nat) (hu : u < 18446744073709551616) :
  Calls Tryz.prog 55 #[.int .u64 (u : Int)] W (fun en W' => ∃ a n c,en = .returned (.agg #[.slice a n c]) ∧ Rs w0 W' k bs ms ((a,n,c,u) :: os) ∧ W.heap.size ≤ W'.heap.size) := by
 refine (of_any u W hu).mono ?_
 rintro en W' ⟨⟨a,n,c,rfl,hm⟩,hb⟩
 exact ⟨a,n,c,rfl,(hS.kept hb).own hm hS.size,hb.size⟩
theorem W_oft {w0 W : World} {k : Option (Nat × Int)} {bs : List En} {ms : Ms} {os : Os} (hS : Rs w0 W k bs ms os) {f : Nat} {vs : Array Value} {M : Nat} {T : Option Addr → Nat → Nat → Value}
  (h : Calls Tryz.prog f vs W fun en W' => (∃ a n c,en = .returned (T a n c) ∧ Mine W' W.heap.size a n c M) ∧ Below W.heap.size W W') :
  Calls Tryz.prog f vs W (fun en W' => ∃ a n c,en = .returned (T a n c) ∧ Rs w0 W' k bs ms ((a,n,c,M) :: os) ∧ W.heap.size ≤ W'.heap.size) := by
 refine h.mono ?_
 rintro en W' ⟨⟨a,n,c,rfl,hm⟩,hb⟩
 exact ⟨a,n,c,rfl,(hS.kept hb).own hm hS.size,hb.size⟩
theorem W_oft2 {w0 W : World} {k : Option (Nat × Int)} {bs : List En} {ms : Ms} {os : Os} (hS : Rs w0 W k bs ms os) {f : Nat} {vs : Array Value} {M M' : Nat} {T : Option Addr → Nat → Nat → Option Addr → Nat → Nat → Value}
  (h : Calls Tryz.prog f vs W fun en W' => (∃ a n c a' n' c',en = .returned (T a n c a' n' c') ∧ Mine W' W.heap.size a n c M ∧ Mine W' W.heap.size a' n' c' M') ∧ Below W.heap.size W W') :
  Calls Tryz.prog f vs W (fun en W' => ∃ a n c a' n' c',en = .returned (T a n c a' n' c') ∧ Rs w0 W' k bs ms ((a',n',c',M') :: (a,n,c,M) :: os) ∧ W.heap.size ≤ W'.heap.size) := by
 refine h.mono ?_
 rintro en W' ⟨⟨a,n,c,a',n',c',rfl,hm,hm'⟩,hb⟩
 exact ⟨a,n,c,a',n',c',rfl,((hS.kept hb).own hm hS.size).own hm' hS.size,hb.size⟩
end Go.Proofs.YtdfmanglfdeooaaGreatDoor
namespace Go.Proofs.YtdfmanglfdeooaaGreatDoor
open Go.RowKit
end Go.Proofs.YtdfmanglfdeooaaGreatDoor
namespace Go.Proofs.YtdfmanglfdeooaaGreatDoor
open Go.RowKit
end Go.Proofs.YtdfmanglfdeooaaGreatDoor
namespace Go.Proofs.YtdfmanglfdeooaaGreatDoor
open Go.RowKit
end Go.Proofs.YtdfmanglfdeooaaGreatDoor
namespace Go.Proofs.YtdfmanglfdeooaaGreatDoor
open Go.RowKit
end Go.Proofs.YtdfmanglfdeooaaGreatDoor
namespace Go.Proofs.YtdfmanglfdeooaaGreatDoor
open Go.RowKit
theorem AlN.but {bs' : List En} {S0 n : Nat} {v : Value} {t : TypeId} (h : AlN bs' S0 v t n) {g : Nat} (hne : v ≠ .pointer (some ⟨g,0,none⟩)) (y : En) : AlN (y :: bs'.filter (fun y => y.b ≠ g)) S0 v t n := by
 obtain ⟨g',cs,h1,h2,h3,h4⟩ := h
 exact ⟨g',cs,h1,h2,h3,List.mem_cons_of_mem _ (List.mem_filter.2 ⟨h4,by simp only [ne_eq,decide_not,Bool.not_eq_eq_eq_not,Bool.not_true,decide_eq_false_iff_not]; intro e; exact hne (by rw [h1,e])⟩)⟩
theorem StN.but {bs' : List En} {S0 : Nat} {v : Value} {cs : Array Value} {t : TypeId} (h : StN bs' S0 v cs t) {g : Nat} (hne : v ≠ .pointer (some ⟨g,0,none⟩)) (y : En) : StN (y :: bs'.filter (fun y => y.b ≠ g)) S0 v cs t := by
 obtain ⟨g',h1,h2,h4⟩ := h
 exact ⟨g',h1,h2,List.mem_cons_of_mem _ (List.mem_filter.2 ⟨h4,by simp only [ne_eq,decide_not,Bool.not_eq_eq_eq_not,Bool.not_true,decide_eq_false_iff_not]; intro e; exact hne (by rw [h1,e])⟩)⟩
theorem StN.cons {bs' : List En} {S0 : Nat} {v : Value} {cs : Array Value} {t : TypeId} (h : StN bs' S0 v cs t) (y : En) : StN (y :: bs') S0 v cs t := by
 obtain ⟨g,h1,h2,h4⟩ := h
 exact ⟨g,h1,h2,List.mem_cons_of_mem _ h4⟩
theorem AlN.ne {W w0 : World} {k : Option (Nat × Int)} {ms : Ms} {os : Os} {bs' : List En} {S0 n : Nat} {v : Value} {t : TypeId} (h : AlN bs' S0 v t n) (hs : Rs w0 W k bs' ms os) : v ≠ .pointer (some ⟨W.heap.size,0,none⟩) := by
 obtain ⟨g,s,h1,h2,h3,h4⟩ := h
 have := block_lt (hs.bx _ h4).1
 rw [h1]
 intro e
 injection e with e
 injection e with e
 injection e with e
 simp only at this
 omega
end Go.Proofs.YtdfmanglfdeooaaGreatDoor
namespace Go.Proofs.YtdfmanglfdeooaaGreatDoor
open Go.RowKit
structure Ncmeq3S where
 (b0 b1 b2 b3 b4 b5 b6 b7 b8 b9 : Bool)
 (v0 v1 v2 v3 v4 v5 v6 v7 : Value)
 bs9 : List En
 os9 : Os
structure Ncmeq3R (w : World) (E F a b qa ra qb rb : Int) (w1 : World) (S9 : Nat) (b0 b1 b2 b3 b4 b5 b6 b7 b8 b9 : Bool) (v0 v1 v2 v3 v4 v5 v6 v7 : Value)  (bs9 : List En) (os9 : Os) (w' : World) : Prop where
 hc : Rc w S9 [⟨w.heap.size,#[.int .i64 E,.int .i64 F],23⟩] [] [] none bs9 os9 w'
 f0 : b0 = true → v0 = .agg #[.int .i64 E,.int .i64 F]
 f1 : b1 = true → v1 = .int .u64 a
 f2 : b2 = true → v2 = .agg #[.int .u64 qa,.int .u64 ra]
 f3 : b3 = true → v3 = .agg #[.int .i64 E,.int .i64 F]
 f4 : b4 = true → v4 = .int .u64 b
 f5 : b5 = true → v5 = .agg #[.int .u64 qb,.int .u64 rb]
 f6 : b6 = true → AlN bs9 S9 v6 59 2
 f7 : b7 = true → AlN bs9 S9 v7 59 2
 f8 : b8 = true → StN bs9 S9 v6 #[.int .u64 qa,.int .u64 ra] 59
 f9 : b9 = true → StN bs9 S9 v7 #[.int .u64 qb,.int .u64 rb] 59
 d6_7 : b6 = true → b7 = true → v6 ≠ v7
 g8_6 : b8 = true → b6 = true
 g8_2 : b8 = true → b2 = true
 g9_7 : b9 = true → b7 = true
 g9_5 : b9 = true → b5 = true
def Ncmeq3I (w : World) (E F a b qa ra qb rb : Int) (w1 : World) (S9 : Nat) (l : Array Bool) (act : Act) (w' : World) : Ncmeq3S → Prop
 | ⟨b0,b1,b2,b3,b4,b5,b6,b7,b8,b9,v0,v1,v2,v3,v4,v5,v6,v7,bs9,os9⟩ => l = #[b0,b1,b2,b3,b4,b5,b6,b7,b8,b9] ∧ act = { tmps := #[.agg #[.int .i64 E,.int .i64 F],.int .u64 a,.int .u64 b,.pointer (some ⟨w.heap.size,0,none⟩),undef,undef,.int .i64 0,.bool false,.int .i64 0,.int .i64 0,v6,v7,.agg #[.int .i64 E,.int .i64 F],.int .u64 a,.int .u64 b,.slice (some ⟨w.heap.size + 1,0,none⟩) 2 2,.int .i64 0,.int .i64 0,.bool false,undef,.agg #[.int .i64 E,.int .i64 F],.int .u64 a,.int .u64 b,.slice (some ⟨w1.heap.size,0,none⟩) 2 2,.bool true,.bool false,v0,v1,v2,v3,v4,v5,undef,undef,undef,undef,undef,undef,undef,undef,undef,undef],defers := [] } ∧ Ncmeq3R w E F a b qa ra qb rb w1 S9 b0 b1 b2 b3 b4 b5 b6 b7 b8 b9 v0 v1 v2 v3 v4 v5 v6 v7 bs9 os9 w'
set_option maxRecDepth 20000 in
set_option maxHeartbeats 4000000 in
theorem Cmp_eq (w : World) (E F a b qa ra qb rb : Int) (c1 c2 : Int) (h1 : (c1 == (5 : Int)) = false) (h2 : (c2 == (5 : Int)) = false) (H0 : Tel 42 #[.agg #[.int .i64 E,.int .i64 F],.int .u64 a] (.int .i64 0)) (H1 : Tel 42 #[.agg #[.int .i64 E,.int .i64 F],.int .u64 b] (.int .i64 0)) (HC : Tel 43 #[.agg #[.int .i64 E,.int .i64 F],.int .u64 a] (.tuple #[.int .u8 c1,.int .i64 0])) (HD : Tel 43 #[.agg #[.int .i64 E,.int .i64 F],.int .u64 b] (.tuple #[.int .u8 c2,.int .i64 0])) (HP : Tel 22 #[.agg #[.int .i64 E,.int .i64 F],.int .u64 a] (.agg #[.int .u64 qa,.int .u64 ra])) (HQ : Tel 22 #[.agg #[.int .i64 E,.int .i64 F],.int .u64 b] (.agg #[.int .u64 qb,.int .u64 rb])) (hne : (qa == qb && ra == rb) = true) :
  Calls Tryz.prog 9 #[.agg #[.int .i64 E,.int .i64 F],.int .u64 a,.int .u64 b] w fun e w' => e = .returned (.tuple #[.int .i64 0,.bool true,.int .i64 0]) ∧ Below w.heap.size w w' := by
 have hS := Rs.begin w
 replace hS := hS.alloc #[.int .i64 E,.int .i64 F] 23
 try simp only [World.size_alloc] at hS
 go_enter Tryz.func9,Tryz.ntmps9
 go_wp2_with fail
 refine (check2_ok E F _ a b H0 H1 _ (by have := heap_alloc_new (w.alloc (.cells #[.int .i64 E,.int .i64 F] 23)) (.cells #[.int .u64 a,.int .u64 b] 24); simpa only [World.size_alloc] using this)).mono ?_
 rintro en w1 ⟨rfl,hb1⟩
 replace hS := (hS.alloc #[.int .u64 a,.int .u64 b] 24).kept hb1
 replace hS := hS.sub (bs' := [⟨w.heap.size,#[.int .i64 E,.int .i64 F],23⟩]) (ms' := []) (os' := []) (by intro x hx; exact List.mem_cons_of_mem _ hx) (fun _ h => h) (fun _ h => h)
 clear hb1
 obtain ⟨⟨k0_0,k0_1,-⟩,-⟩ := hS.cz ⟨w.heap.size,#[.int .i64 E,.int .i64 F],23⟩ (by simp)
 simp only [] at k0_0 k0_1
 go_wp2_with fail
 refine (numbers2_yes E F c1 h1 c2 h2 _ a b HC HD _ (by have := heap_alloc_new w1 (.cells #[.int .u64 a,.int .u64 b] 24); simpa only [World.size_alloc] using this)).mono ?_
 rintro en w2 ⟨rfl,hb2⟩
 replace hS := (hS.alloc #[.int .u64 a,.int .u64 b] 24).kept hb2
 replace hS := hS.sub (bs' := [⟨w.heap.size,#[.int .i64 E,.int .i64 F],23⟩]) (ms' := []) (os' := []) (by intro x hx; exact List.mem_cons_of_mem _ hx) (fun _ h => h) (fun _ h => h)
 clear k0_0 k0_1
 clear hb2
 obtain ⟨⟨k0_0,k0_1,-⟩,-⟩ := hS.cz ⟨w.heap.size,#[.int .i64 E,.int .i64 F],23⟩ (by simp)
 simp only [] at k0_0 k0_1
 go_wp2_with fail
 clear k0_0 k0_1
 refine wp_region_any (by kernel_rfl) ?_
 change wpAny _ _ _ _ _ _ _ (World.drew _)
 have hS9 := hS.drew
 have hsW9 : (World.drew w2).heap.size = w2.heap.size := by first | rfl | simp
 generalize World.drew w2 = Wd at hS9 hsW9 ⊢
 obtain ⟨S9,hS9z⟩ : ∃ x,x = Wd.heap.size := ⟨_,rfl⟩
 have hC9 := Rc.start (bs := [⟨w.heap.size,#[.int .i64 E,.int .i64 F],23⟩]) hS9 (by simp)
 rw [← hS9z] at hC9
 refine wpAny_inv (fun l act w' => ∃ σ,Ncmeq3I w E F a b qa ra qb rb w1 S9 l act w' σ) ?_ ?_ _ _ _ _ ?_ ?_
 ·intro l act w' i9 hI9 hi9 hl9
  have hin9 : i9 < 10 := by
   by_cases h : i9 < 10
   ·exact h
   ·obtain ⟨⟨⟩,rfl,_⟩ := hI9
    rw [Array.getElem?_eq_none (by simp; omega)] at hl9; cases hl9
  have hcase : i9 = 0 ∨ i9 = 1 ∨ i9 = 2 ∨ i9 = 3 ∨ i9 = 4 ∨ i9 = 5 ∨ i9 = 6 ∨ i9 = 7 ∨ i9 = 8 ∨ i9 = 9 := by omega
  clear hin9
  obtain ⟨⟨b0,b1,b2,b3,b4,b5,b6,b7,b8,b9,v0,v1,v2,v3,v4,v5,v6,v7,bs9,os9⟩,rfl,rfl,hR⟩ := hI9
  rcases hcase with rfl | rfl | rfl | rfl | rfl | rfl | rfl | rfl | rfl | rfl
  ·obtain rfl : b0 = false := by simpa using hl9
   clear hl9
   clear hi9
   have hc := hR.hc
   have c9_0 := hc.st.cellAt (hc.old ⟨w.heap.size,#[.int .i64 E,.int .i64 F],23⟩ (by simp)).1 0 (.int .i64 E) rfl
   have c9_1 := hc.st.cellAt (hc.old ⟨w.heap.size,#[.int .i64 E,.int .i64 F],23⟩ (by simp)).1 1 (.int .i64 F) rfl
   simp only [] at c9_0 c9_1
   refine wpOp_step rfl (fun K hK => ?_)
   go_simp
   exact hK _ _ ⟨⟨_,_,_,_,_,_,_,_,_,_,_,_,_,_,_,_,_,_,_,_⟩,rfl,rfl,{ hR with hc := hc,f0 := (fun _ => rfl) }⟩
  ·obtain rfl : b1 = false := by simpa using hl9
   clear hl9
   clear hi9
   have hc := hR.hc
   refine wpOp_step rfl (fun K hK => ?_)
   go_simp
   exact hK _ _ ⟨⟨_,_,_,_,_,_,_,_,_,_,_,_,_,_,_,_,_,_,_,_⟩,rfl,rfl,{ hR with hc := hc,f1 := (fun _ => rfl) }⟩
  ·obtain rfl : b2 = false := by simpa using hl9
   clear hl9
   obtain ⟨o9,ho9,hd9⟩ := (mem_ready.1 hi9).2
   cases ho9
   have e0 : b0 = true := hd9 ⟨0,.data⟩ (by simp) rfl
   have e1 : b1 = true := hd9 ⟨1,.data⟩ (by simp) rfl
   clear hd9
   subst e0 e1
   clear hi9
   have h9 := hR.f0 rfl
   subst h9
   have h9 := hR.f1 rfl
   subst h9
   have hc := hR.hc
   have HR := hide hR
   clear hR
   refine wpOp_step rfl (fun K hK => ?_)
   go_simp
   go_wp2_with fail
   refine (HP _).mono ?_
   rintro en w9 ⟨rfl,hb9⟩
   have hR := unhide HR
   exact hK _ _ ⟨⟨_,_,_,_,_,_,_,_,_,_,_,_,_,_,_,_,_,_,_,_⟩,rfl,rfl,{ hR with hc := (hc.call (hc.st.kept hb9) hb9.size (fun y hy => hy)),f2 := (fun _ => rfl),f8 := (fun h => Bool.noConfusion (hR.g8_2 h)),g8_2 := (fun _ => rfl) }⟩
  ·obtain rfl : b3 = false := by simpa using hl9
   clear hl9
   clear hi9
   have hc := hR.hc
   have c9_0 := hc.st.cellAt (hc.old ⟨w.heap.size,#[.int .i64 E,.int .i64 F],23⟩ (by simp)).1 0 (.int .i64 E) rfl
   have c9_1 := hc.st.cellAt (hc.old ⟨w.heap.size,#[.int .i64 E,.int .i64 F],23⟩ (by simp)).1 1 (.int .i64 F) rfl
   simp only [] at c9_0 c9_1
   refine wpOp_step rfl (fun K hK => ?_)
   go_simp
   exact hK _ _ ⟨⟨_,_,_,_,_,_,_,_,_,_,_,_,_,_,_,_,_,_,_,_⟩,rfl,rfl,{ hR with hc := hc,f3 := (fun _ => rfl) }⟩
  ·obtain rfl : b4 = false := by simpa using hl9
   clear hl9
   clear hi9
   have hc := hR.hc
   refine wpOp_step rfl (fun K hK => ?_)
   go_simp
   exact hK _ _ ⟨⟨_,_,_,_,_,_,_,_,_,_,_,_,_,_,_,_,_,_,_,_⟩,rfl,rfl,{ hR with hc := hc,f4 := (fun _ => rfl) }⟩
  ·obtain rfl : b5 = false := by simpa using hl9
   clear hl9
   obtain ⟨o9,ho9,hd9⟩ := (mem_ready.1 hi9).2
   cases ho9
   have e3 : b3 = true := hd9 ⟨3,.data⟩ (by simp) rfl
   have e4 : b4 = true := hd9 ⟨4,.data⟩ (by simp) rfl
   clear hd9
   subst e3 e4
   clear hi9
   have h9 := hR.f3 rfl
   subst h9
   have h9 := hR.f4 rfl
   subst h9
   have hc := hR.hc
   have HR := hide hR
   clear hR
   refine wpOp_step rfl (fun K hK => ?_)
   go_simp
   go_wp2_with fail
   refine (HQ _).mono ?_
   rintro en w9 ⟨rfl,hb9⟩
   have hR := unhide HR
   exact hK _ _ ⟨⟨_,_,_,_,_,_,_,_,_,_,_,_,_,_,_,_,_,_,_,_⟩,rfl,rfl,{ hR with hc := (hc.call (hc.st.kept hb9) hb9.size (fun y hy => hy)),f5 := (fun _ => rfl),f9 := (fun h => Bool.noConfusion (hR.g9_5 h)),g9_5 := (fun _ => rfl) }⟩
  ·obtain rfl : b6 = false := by simpa using hl9
   clear hl9
   clear hi9
   have hc := hR.hc
   refine wpOp_step rfl (fun K hK => ?_)
   go_simp
   exact hK _ _ ⟨⟨_,_,_,_,_,_,_,_,_,_,_,_,_,_,_,_,_,_,_,_⟩,rfl,rfl,{ hR with hc := (hc.alloc #[.int .u64 0,.int .u64 0] 59),f6 := (fun _ => AlN.self rfl hc.sz rfl),f7 := (fun h => (hR.f7 h).cons _),f8 := (fun h => Bool.noConfusion (hR.g8_6 h)),f9 := (fun h => (hR.f9 h).cons _),d6_7 := (fun _ h => Ne.symm ((hR.f7 h).ne hc.st)),g8_6 := (fun _ => rfl) }⟩
  ·obtain rfl : b7 = false := by simpa using hl9
   clear hl9
   clear hi9
   have hc := hR.hc
   refine wpOp_step rfl (fun K hK => ?_)
   go_simp
   exact hK _ _ ⟨⟨_,_,_,_,_,_,_,_,_,_,_,_,_,_,_,_,_,_,_,_⟩,rfl,rfl,{ hR with hc := (hc.alloc #[.int .u64 0,.int .u64 0] 59),f6 := (fun h => (hR.f6 h).cons _),f7 := (fun _ => AlN.self rfl hc.sz rfl),f8 := (fun h => (hR.f8 h).cons _),f9 := (fun h => Bool.noConfusion (hR.g9_7 h)),d6_7 := (fun h _ => (hR.f6 h).ne hc.st),g9_7 := (fun _ => rfl) }⟩
  ·obtain rfl : b8 = false := by simpa using hl9
   clear hl9
   obtain ⟨o9,ho9,hd9⟩ := (mem_ready.1 hi9).2
   cases ho9
   have e2 : b2 = true := hd9 ⟨2,.data⟩ (by simp) rfl
   have e6 : b6 = true := hd9 ⟨6,.data⟩ (by simp) rfl
   clear hd9
   subst e2 e6
   clear hi9
   have h9 := hR.f2 rfl
   subst h9
   have hc := hR.hc
   obtain ⟨g9,cs9,h9,hg9,hz9,hm9⟩ := hR.f6 rfl
   subst h9
   obtain ⟨y9_0,y9_1,rfl⟩ : ∃ y9_0 y9_1,cs9 = #[y9_0,y9_1] := by
    match cs9,hz9 with
    | ⟨[y9_0,y9_1]⟩,_ => exact ⟨y9_0,y9_1,rfl⟩
   clear hz9
   have fz9_0 := hc.st.frozen hm9 0
   have cz9_0 := hc.st.cellAt hm9 0 y9_0 rfl
   simp only [] at fz9_0 cz9_0
   have fz9_1 := hc.st.frozen hm9 1
   have cz9_1 := hc.st.cellAt hm9 1 y9_1 rfl
   simp only [] at fz9_1 cz9_1
   have hn9 : ∀ x,x ∈ ([⟨w.heap.size,#[.int .i64 E,.int .i64 F],23⟩] : List En) → x.b ≠ g9 := fun x hx => by have := (hc.old x hx).2; omega
   refine wpOp_step rfl (fun K hK => ?_)
   go_simp
   exact hK _ _ ⟨⟨_,_,_,_,_,_,_,_,_,_,_,_,_,_,_,_,_,_,_,_⟩,rfl,rfl,{ hR with hc := ((hc.store hm9 (by have := hc.w0s; omega) hn9 0 (.int .u64 qa) (by simp)).store (List.mem_cons_self ..) (by have := hc.w0s; omega) hn9 1 (.int .u64 ra) (by simp)),f6 := (fun _ => ⟨g9,_,rfl,hg9,by simp,List.mem_cons_self ..⟩),f7 := (fun h => (((hR.f7 h).but (fun e => hR.d6_7 rfl h e.symm) _).but (fun e => hR.d6_7 rfl h e.symm) _)),f8 := (fun _ => ⟨g9,rfl,hg9,List.mem_cons_self ..⟩),f9 := (fun h => (((hR.f9 h).but (fun e => hR.d6_7 rfl (hR.g9_7 h) e.symm) _).but (fun e => hR.d6_7 rfl (hR.g9_7 h) e.symm) _)),g8_6 := (fun _ => rfl),g8_2 := (fun _ => rfl) }⟩
  ·obtain rfl : b9 = false := by simpa using hl9
   clear hl9
   obtain ⟨o9,ho9,hd9⟩ := (mem_ready.1 hi9).2
   cases ho9
   have e5 : b5 = true := hd9 ⟨5,.data⟩ (by simp) rfl
   have e7 : b7 = true := hd9 ⟨7,.data⟩ (by simp) rfl
   clear hd9
   subst e5 e7
   clear hi9
   have h9 := hR.f5 rfl
   subst h9
   have hc := hR.hc
   obtain ⟨g9,cs9,h9,hg9,hz9,hm9⟩ := hR.f7 rfl
   subst h9
   obtain ⟨y9_0,y9_1,rfl⟩ : ∃ y9_0 y9_1,cs9 = #[y9_0,y9_1] := by
    match cs9,hz9 with
    | ⟨[y9_0,y9_1]⟩,_ => exact ⟨y9_0,y9_1,rfl⟩
   clear hz9
   have fz9_0 := hc.st.frozen hm9 0
   have cz9_0 := hc.st.cellAt hm9 0 y9_0 rfl
   simp only [] at fz9_0 cz9_0
   have fz9_1 := hc.st.frozen hm9 1
   have cz9_1 := hc.st.cellAt hm9 1 y9_1 rfl
   simp only [] at fz9_1 cz9_1
   have hn9 : ∀ x,x ∈ ([⟨w.heap.size,#[.int .i64 E,.int .i64 F],23⟩] : List En) → x.b ≠ g9 := fun x hx => by have := (hc.old x hx).2; omega
   refine wpOp_step rfl (fun K hK => ?_)
   go_simp
   exact hK _ _ ⟨⟨_,_,_,_,_,_,_,_,_,_,_,_,_,_,_,_,_,_,_,_⟩,rfl,rfl,{ hR with hc := ((hc.store hm9 (by have := hc.w0s; omega) hn9 0 (.int .u64 qb) (by simp)).store (List.mem_cons_self ..) (by have := hc.w0s; omega) hn9 1 (.int .u64 rb) (by simp)),f6 := (fun h => (((hR.f6 h).but (fun e => hR.d6_7 h rfl e) _).but (fun e => hR.d6_7 h rfl e) _)),f7 := (fun _ => ⟨g9,_,rfl,hg9,by simp,List.mem_cons_self ..⟩),f8 := (fun h => (((hR.f8 h).but (fun e => hR.d6_7 (hR.g8_6 h) rfl e) _).but (fun e => hR.d6_7 (hR.g8_6 h) rfl e) _)),f9 := (fun _ => ⟨g9,rfl,hg9,List.mem_cons_self ..⟩),g9_7 := (fun _ => rfl),g9_5 := (fun _ => rfl) }⟩
 ·rintro l act Wq3 ⟨⟨b0,b1,b2,b3,b4,b5,b6,b7,b8,b9,v0,v1,v2,v3,v4,v5,v6,v7,bs9,os9⟩,rfl,rfl,hR⟩ hr9
  obtain ⟨hc,f0,f1,f2,f3,f4,f5,f6,f7,f8,f9,d6_7,g8_6,g8_2,g9_7,g9_5⟩ := hR
  have eall := all_done hr9 (by kernel_rfl) rfl
  obtain rfl : b0 = true := eall 0 (by decide)
  obtain rfl : b1 = true := eall 1 (by decide)
  obtain rfl : b2 = true := eall 2 (by decide)
  obtain rfl : b3 = true := eall 3 (by decide)
  obtain rfl : b4 = true := eall 4 (by decide)
  obtain rfl : b5 = true := eall 5 (by decide)
  obtain rfl : b6 = true := eall 6 (by decide)
  obtain rfl : b7 = true := eall 7 (by decide)
  obtain rfl : b8 = true := eall 8 (by decide)
  obtain rfl : b9 = true := eall 9 (by decide)
  clear hr9 eall
  have h9 := f0 rfl
  subst h9
  have h9 := f1 rfl
  subst h9
  have h9 := f2 rfl
  subst h9
  have h9 := f3 rfl
  subst h9
  have h9 := f4 rfl
  subst h9
  have h9 := f5 rfl
  subst h9
  obtain ⟨x3_g6,h9,hg6,hm6⟩ := f8 rfl
  subst h9
  obtain ⟨x3_g7,h9,hg7,hm7⟩ := f9 rfl
  subst h9
  have hbs9 : ∀ x,x ∈ ([⟨x3_g7,#[.int .u64 qb,.int .u64 rb],59⟩,⟨x3_g6,#[.int .u64 qa,.int .u64 ra],59⟩,⟨w.heap.size,#[.int .i64 E,.int .i64 F],23⟩] : List En) → x ∈ bs9 := by
   intro x hx
   rcases List.mem_cons.1 hx with rfl | hx
   ·exact hm7
   rcases List.mem_cons.1 hx with rfl | hx
   ·exact hm6
   rcases List.mem_cons.1 hx with rfl | hx
   ·exact (hc.old _ (by simp)).1
   exact absurd hx List.not_mem_nil
  have hos9 : ∀ x,x ∈ ([] : Os) → x ∈ os9 := by
   intro x hx
   exact absurd hx List.not_mem_nil
  have hS := hc.st.sub hbs9 (fun x hx => hx) hos9
  have hsz9 := hc.sz
  rw [hS9z,hsW9] at hsz9
  have hlx3_g6 := hg6
  rw [hS9z,hsW9] at hlx3_g6
  have hux3_g6 := block_lt (hc.st.bx _ hm6).1
  simp only [] at hux3_g6
  have hlx3_g7 := hg7
  rw [hS9z,hsW9] at hlx3_g7
  have hux3_g7 := block_lt (hc.st.bx _ hm7).1
  simp only [] at hux3_g7
  have hnx3_6_7 : x3_g6 ≠ x3_g7 := fun e9 => d6_7 rfl rfl (by rw [e9])
  clear hbs9 hos9 hc f0 f1 f2 f3 f4 f5 f6 f7 f8 f9 d6_7 g8_6 g8_2 g9_7 g9_5
  clear hm6 hm7 hg6 hg7
  have hz3 := hsz9
  clear hsz9 hS9z hS9 hC9 hsW9
  obtain ⟨⟨k0_0,k0_1,-⟩,-⟩ := hS.cz ⟨x3_g7,#[.int .u64 qb,.int .u64 rb],59⟩ (by simp)
  obtain ⟨⟨k1_0,k1_1,-⟩,-⟩ := hS.cz ⟨x3_g6,#[.int .u64 qa,.int .u64 ra],59⟩ (by simp)
  simp only [] at k0_0 k0_1 k1_0 k1_1
  have hEq := eq_spot qa ra qb rb
  go_wp2
  go_ret3
  exact ⟨rfl,hS.fr⟩
 ·simp
 ·exact ⟨⟨false,false,false,false,false,false,false,false,false,false,undef,undef,undef,undef,undef,undef,undef,undef,_,_⟩,rfl,rfl,⟨hC9,nb,nb,nb,nb,nb,nb,nb,nb,nb,nb,nb,nb,nb,nb,nb⟩⟩
structure Ncmlt4S where
 (b0 b1 b2 b3 b4 b5 : Bool)
 (v0 v1 v2 v3 v4 v5 : Value)
 bs9 : List En
 os9 : Os
structure Ncmlt4R (w : World) (E F a b qa ra qb rb x y : Int) (w1 : World) (x3_g6 : Nat) (x3_g7 : Nat) (S9 : Nat) (b0 b1 b2 b3 b4 b5 : Bool) (v0 v1 v2 v3 v4 v5 : Value)  (bs9 : List En) (os9 : Os) (w' : World) : Prop where
 hc : Rc w S9 [⟨x3_g7,#[.int .u64 qb,.int .u64 rb],59⟩,⟨x3_g6,#[.int .u64 qa,.int .u64 ra],59⟩] [] [] none bs9 os9 w'
 f0 : b0 = true → v0 = .agg #[.int .u64 qa,.int .u64 ra]
 f1 : b1 = true → v1 = .int .i64 x
 f2 : b2 = true → v2 = .agg #[.int .u64 qb,.int .u64 rb]
 f3 : b3 = true → v3 = .int .i64 y
 f4 : b4 = true → v4 = .bool true
 f5 : b5 = true → v5 = .bool true
def Ncmlt4I (w : World) (E F a b qa ra qb rb x y : Int) (w1 : World) (x3_g6 : Nat) (x3_g7 : Nat) (S9 : Nat) (l : Array Bool) (act : Act) (w' : World) : Ncmlt4S → Prop
 | ⟨b0,b1,b2,b3,b4,b5,v0,v1,v2,v3,v4,v5,bs9,os9⟩ => l = #[b0,b1,b2,b3,b4,b5] ∧ act = { tmps := #[.agg #[.int .i64 E,.int .i64 F],.int .u64 a,.int .u64 b,.pointer (some ⟨w.heap.size,0,none⟩),undef,undef,.int .i64 0,.bool false,.int .i64 0,.int .i64 0,.pointer (some ⟨x3_g6,0,none⟩),.pointer (some ⟨x3_g7,0,none⟩),.agg #[.int .i64 E,.int .i64 F],.int .u64 a,.int .u64 b,.slice (some ⟨w.heap.size + 1,0,none⟩) 2 2,.int .i64 0,.int .i64 0,.bool false,undef,.agg #[.int .i64 E,.int .i64 F],.int .u64 a,.int .u64 b,.slice (some ⟨w1.heap.size,0,none⟩) 2 2,.bool true,.bool false,.agg #[.int .i64 E,.int .i64 F],.int .u64 a,.agg #[.int .u64 qa,.int .u64 ra],.agg #[.int .i64 E,.int .i64 F],.int .u64 b,.agg #[.int .u64 qb,.int .u64 rb],.bool false,.agg #[.int .u64 qa,.int .u64 ra],.agg #[.int .u64 qb,.int .u64 rb],.bool false,v5,v0,v1,v2,v3,v4],defers := [] } ∧ Ncmlt4R w E F a b qa ra qb rb x y w1 x3_g6 x3_g7 S9 b0 b1 b2 b3 b4 b5 v0 v1 v2 v3 v4 v5 bs9 os9 w'
structure Ncmlt3S where
 (b0 b1 b2 b3 b4 b5 b6 b7 b8 b9 : Bool)
 (v0 v1 v2 v3 v4 v5 v6 v7 : Value)
 bs9 : List En
 os9 : Os
structure Ncmlt3R (w : World) (E F a b qa ra qb rb : Int) (w1 : World) (S9 : Nat) (b0 b1 b2 b3 b4 b5 b6 b7 b8 b9 : Bool) (v0 v1 v2 v3 v4 v5 v6 v7 : Value)  (bs9 : List En) (os9 : Os) (w' : World) : Prop where
 hc : Rc w S9 [⟨w.heap.size,#[.int .i64 E,.int .i64 F],23⟩] [] [] none bs9 os9 w'
 f0 : b0 = true → v0 = .agg #[.int .i64 E,.int .i64 F]
 f1 : b1 = true → v1 = .int .u64 a
 f2 : b2 = true → v2 = .agg #[.int .u64 qa,.int .u64 ra]
 f3 : b3 = true → v3 = .agg #[.int .i64 E,.int .i64 F]
 f4 : b4 = true → v4 = .int .u64 b
 f5 : b5 = true → v5 = .agg #[.int .u64 qb,.int .u64 rb]
 f6 : b6 = true → AlN bs9 S9 v6 59 2
 f7 : b7 = true → AlN bs9 S9 v7 59 2
 f8 : b8 = true → StN bs9 S9 v6 #[.int .u64 qa,.int .u64 ra] 59
 f9 : b9 = true → StN bs9 S9 v7 #[.int .u64 qb,.int .u64 rb] 59
 d6_7 : b6 = true → b7 = true → v6 ≠ v7
 g8_6 : b8 = true → b6 = true
 g8_2 : b8 = true → b2 = true
 g9_7 : b9 = true → b7 = true
 g9_5 : b9 = true → b5 = true
def Ncmlt3I (w : World) (E F a b qa ra qb rb : Int) (w1 : World) (S9 : Nat) (l : Array Bool) (act : Act) (w' : World) : Ncmlt3S → Prop
 | ⟨b0,b1,b2,b3,b4,b5,b6,b7,b8,b9,v0,v1,v2,v3,v4,v5,v6,v7,bs9,os9⟩ => l = #[b0,b1,b2,b3,b4,b5,b6,b7,b8,b9] ∧ act = { tmps := #[.agg #[.int .i64 E,.int .i64 F],.int .u64 a,.int .u64 b,.pointer (some ⟨w.heap.size,0,none⟩),undef,undef,.int .i64 0,.bool false,.int .i64 0,.int .i64 0,v6,v7,.agg #[.int .i64 E,.int .i64 F],.int .u64 a,.int .u64 b,.slice (some ⟨w.heap.size + 1,0,none⟩) 2 2,.int .i64 0,.int .i64 0,.bool false,undef,.agg #[.int .i64 E,.int .i64 F],.int .u64 a,.int .u64 b,.slice (some ⟨w1.heap.size,0,none⟩) 2 2,.bool true,.bool false,v0,v1,v2,v3,v4,v5,undef,undef,undef,undef,undef,undef,undef,undef,undef,undef],defers := [] } ∧ Ncmlt3R w E F a b qa ra qb rb w1 S9 b0 b1 b2 b3 b4 b5 b6 b7 b8 b9 v0 v1 v2 v3 v4 v5 v6 v7 bs9 os9 w'
set_option maxRecDepth 20000 in
set_option maxHeartbeats 4000000 in
theorem Cmp_lt (w : World) (E F a b qa ra qb rb x y : Int) (c1 c2 : Int) (h1 : (c1 == (5 : Int)) = false) (h2 : (c2 == (5 : Int)) = false) (H0 : Tel 42 #[.agg #[.int .i64 E,.int .i64 F],.int .u64 a] (.int .i64 0)) (H1 : Tel 42 #[.agg #[.int .i64 E,.int .i64 F],.int .u64 b] (.int .i64 0)) (HC : Tel 43 #[.agg #[.int .i64 E,.int .i64 F],.int .u64 a] (.tuple #[.int .u8 c1,.int .i64 0])) (HD : Tel 43 #[.agg #[.int .i64 E,.int .i64 F],.int .u64 b] (.tuple #[.int .u8 c2,.int .i64 0])) (HP : Tel 22 #[.agg #[.int .i64 E,.int .i64 F],.int .u64 a] (.agg #[.int .u64 qa,.int .u64 ra])) (HQ : Tel 22 #[.agg #[.int .i64 E,.int .i64 F],.int .u64 b] (.agg #[.int .u64 qb,.int .u64 rb])) (HX : Tel 23 #[.agg #[.int .u64 qa,.int .u64 ra]] (.int .i64 x)) (HY : Tel 23 #[.agg #[.int .u64 qb,.int .u64 rb]] (.int .i64 y)) (hne : (qa == qb && ra == rb) = false) (h : x < y) :
  Calls Tryz.prog 9 #[.agg #[.int .i64 E,.int .i64 F],.int .u64 a,.int .u64 b] w fun e w' => e = .returned (.tuple #[.int .i64 (-1),.bool true,.int .i64 0]) ∧ Below w.heap.size w w' := by
 have hS := Rs.begin w
 replace hS := hS.alloc #[.int .i64 E,.int .i64 F] 23
 try simp only [World.size_alloc] at hS
 go_enter Tryz.func9,Tryz.ntmps9
 go_wp2_with fail
 refine (check2_ok E F _ a b H0 H1 _ (by have := heap_alloc_new (w.alloc (.cells #[.int .i64 E,.int .i64 F] 23)) (.cells #[.int .u64 a,.int .u64 b] 24); simpa only [World.size_alloc] using this)).mono ?_
 rintro en w1 ⟨rfl,hb1⟩
 replace hS := (hS.alloc #[.int .u64 a,.int .u64 b] 24).kept hb1
 replace hS := hS.sub (bs' := [⟨w.heap.size,#[.int .i64 E,.int .i64 F],23⟩]) (ms' := []) (os' := []) (by intro x hx; exact List.mem_cons_of_mem _ hx) (fun _ h => h) (fun _ h => h)
 clear hb1
 obtain ⟨⟨k0_0,k0_1,-⟩,-⟩ := hS.cz ⟨w.heap.size,#[.int .i64 E,.int .i64 F],23⟩ (by simp)
 simp only [] at k0_0 k0_1
 go_wp2_with fail
 refine (numbers2_yes E F c1 h1 c2 h2 _ a b HC HD _ (by have := heap_alloc_new w1 (.cells #[.int .u64 a,.int .u64 b] 24); simpa only [World.size_alloc] using this)).mono ?_
 rintro en w2 ⟨rfl,hb2⟩
 replace hS := (hS.alloc #[.int .u64 a,.int .u64 b] 24).kept hb2
 replace hS := hS.sub (bs' := [⟨w.heap.size,#[.int .i64 E,.int .i64 F],23⟩]) (ms' := []) (os' := []) (by intro x hx; exact List.mem_cons_of_mem _ hx) (fun _ h => h) (fun _ h => h)
 clear k0_0 k0_1
 clear hb2
 obtain ⟨⟨k0_0,k0_1,-⟩,-⟩ := hS.cz ⟨w.heap.size,#[.int .i64 E,.int .i64 F],23⟩ (by simp)
 simp only [] at k0_0 k0_1
 go_wp2_with fail
 clear k0_0 k0_1
 refine wp_region_any (by kernel_rfl) ?_
 change wpAny _ _ _ _ _ _ _ (World.drew _)
 have hS9 := hS.drew
 have hsW9 : (World.drew w2).heap.size = w2.heap.size := by first | rfl | simp
 generalize World.drew w2 = Wd at hS9 hsW9 ⊢
 obtain ⟨S9,hS9z⟩ : ∃ x,x = Wd.heap.size := ⟨_,rfl⟩
 have hC9 := Rc.start (bs := [⟨w.heap.size,#[.int .i64 E,.int .i64 F],23⟩]) hS9 (by simp)
 rw [← hS9z] at hC9
 refine wpAny_inv (fun l act w' => ∃ σ,Ncmlt3I w E F a b qa ra qb rb w1 S9 l act w' σ) ?_ ?_ _ _ _ _ ?_ ?_
 ·intro l act w' i9 hI9 hi9 hl9
  have hin9 : i9 < 10 := by
   by_cases h : i9 < 10
   ·exact h
   ·obtain ⟨⟨⟩,rfl,_⟩ := hI9
    rw [Array.getElem?_eq_none (by simp; omega)] at hl9; cases hl9
  have hcase : i9 = 0 ∨ i9 = 1 ∨ i9 = 2 ∨ i9 = 3 ∨ i9 = 4 ∨ i9 = 5 ∨ i9 = 6 ∨ i9 = 7 ∨ i9 = 8 ∨ i9 = 9 := by omega
  clear hin9
  obtain ⟨⟨b0,b1,b2,b3,b4,b5,b6,b7,b8,b9,v0,v1,v2,v3,v4,v5,v6,v7,bs9,os9⟩,rfl,rfl,hR⟩ := hI9
  rcases hcase with rfl | rfl | rfl | rfl | rfl | rfl | rfl | rfl | rfl | rfl
  ·obtain rfl : b0 = false := by simpa using hl9
   clear hl9
   clear hi9
   have hc := hR.hc
   have c9_0 := hc.st.cellAt (hc.old ⟨w.heap.size,#[.int .i64 E,.int .i64 F],23⟩ (by simp)).1 0 (.int .i64 E) rfl
   have c9_1 := hc.st.cellAt (hc.old ⟨w.heap.size,#[.int .i64 E,.int .i64 F],23⟩ (by simp)).1 1 (.int .i64 F) rfl
   simp only [] at c9_0 c9_1
   refine wpOp_step rfl (fun K hK => ?_)
   go_simp
   exact hK _ _ ⟨⟨_,_,_,_,_,_,_,_,_,_,_,_,_,_,_,_,_,_,_,_⟩,rfl,rfl,{ hR with hc := hc,f0 := (fun _ => rfl) }⟩
  ·obtain rfl : b1 = false := by simpa using hl9
   clear hl9
   clear hi9
   have hc := hR.hc
   refine wpOp_step rfl (fun K hK => ?_)
   go_simp
   exact hK _ _ ⟨⟨_,_,_,_,_,_,_,_,_,_,_,_,_,_,_,_,_,_,_,_⟩,rfl,rfl,{ hR with hc := hc,f1 := (fun _ => rfl) }⟩
  ·obtain rfl : b2 = false := by simpa using hl9
   clear hl9
   obtain ⟨o9,ho9,hd9⟩ := (mem_ready.1 hi9).2
   cases ho9
   have e0 : b0 = true := hd9 ⟨0,.data⟩ (by simp) rfl
   have e1 : b1 = true := hd9 ⟨1,.data⟩ (by simp) rfl
   clear hd9
   subst e0 e1
   clear hi9
   have h9 := hR.f0 rfl
   subst h9
   have h9 := hR.f1 rfl
   subst h9
   have hc := hR.hc
   have HR := hide hR
   clear hR
   refine wpOp_step rfl (fun K hK => ?_)
   go_simp
   go_wp2_with fail
   refine (HP _).mono ?_
   rintro en w9 ⟨rfl,hb9⟩
   have hR := unhide HR
   exact hK _ _ ⟨⟨_,_,_,_,_,_,_,_,_,_,_,_,_,_,_,_,_,_,_,_⟩,rfl,rfl,{ hR with hc := (hc.call (hc.st.kept hb9) hb9.size (fun y hy => hy)),f2 := (fun _ => rfl),f8 := (fun h => Bool.noConfusion (hR.g8_2 h)),g8_2 := (fun _ => rfl) }⟩
  ·obtain rfl : b3 = false := by simpa using hl9
   clear hl9
   clear hi9
   have hc := hR.hc
   have c9_0 := hc.st.cellAt (hc.old ⟨w.heap.size,#[.int .i64 E,.int .i64 F],23⟩ (by simp)).1 0 (.int .i64 E) rfl
   have c9_1 := hc.st.cellAt (hc.old ⟨w.heap.size,#[.int .i64 E,.int .i64 F],23⟩ (by simp)).1 1 (.int .i64 F) rfl
   simp only [] at c9_0 c9_1
   refine wpOp_step rfl (fun K hK => ?_)
   go_simp
   exact hK _ _ ⟨⟨_,_,_,_,_,_,_,_,_,_,_,_,_,_,_,_,_,_,_,_⟩,rfl,rfl,{ hR with hc := hc,f3 := (fun _ => rfl) }⟩
  ·obtain rfl : b4 = false := by simpa using hl9
   clear hl9
   clear hi9
   have hc := hR.hc
   refine wpOp_step rfl (fun K hK => ?_)
   go_simp
   exact hK _ _ ⟨⟨_,_,_,_,_,_,_,_,_,_,_,_,_,_,_,_,_,_,_,_⟩,rfl,rfl,{ hR with hc := hc,f4 := (fun _ => rfl) }⟩
  ·obtain rfl : b5 = false := by simpa using hl9
   clear hl9
   obtain ⟨o9,ho9,hd9⟩ := (mem_ready.1 hi9).2
   cases ho9
   have e3 : b3 = true := hd9 ⟨3,.data⟩ (by simp) rfl
   have e4 : b4 = true := hd9 ⟨4,.data⟩ (by simp) rfl
   clear hd9
   subst e3 e4
   clear hi9
   have h9 := hR.f3 rfl
   subst h9
   have h9 := hR.f4 rfl
   subst h9
   have hc := hR.hc
   have HR := hide hR
   clear hR
   refine wpOp_step rfl (fun K hK => ?_)
   go_simp
   go_wp2_with fail
   refine (HQ _).mono ?_
   rintro en w9 ⟨rfl,hb9⟩
   have hR := unhide HR
   exact hK _ _ ⟨⟨_,_,_,_,_,_,_,_,_,_,_,_,_,_,_,_,_,_,_,_⟩,rfl,rfl,{ hR with hc := (hc.call (hc.st.kept hb9) hb9.size (fun y hy => hy)),f5 := (fun _ => rfl),f9 := (fun h => Bool.noConfusion (hR.g9_5 h)),g9_5 := (fun _ => rfl) }⟩
  ·obtain rfl : b6 = false := by simpa using hl9
   clear hl9
   clear hi9
   have hc := hR.hc
   refine wpOp_step rfl (fun K hK => ?_)
   go_simp
   exact hK _ _ ⟨⟨_,_,_,_,_,_,_,_,_,_,_,_,_,_,_,_,_,_,_,_⟩,rfl,rfl,{ hR with hc := (hc.alloc #[.int .u64 0,.int .u64 0] 59),f6 := (fun _ => AlN.self rfl hc.sz rfl),f7 := (fun h => (hR.f7 h).cons _),f8 := (fun h => Bool.noConfusion (hR.g8_6 h)),f9 := (fun h => (hR.f9 h).cons _),d6_7 := (fun _ h => Ne.symm ((hR.f7 h).ne hc.st)),g8_6 := (fun _ => rfl) }⟩
  ·obtain rfl : b7 = false := by simpa using hl9
   clear hl9
   clear hi9
   have hc := hR.hc
   refine wpOp_step rfl (fun K hK => ?_)
   go_simp
   exact hK _ _ ⟨⟨_,_,_,_,_,_,_,_,_,_,_,_,_,_,_,_,_,_,_,_⟩,rfl,rfl,{ hR with hc := (hc.alloc #[.int .u64 0,.int .u64 0] 59),f6 := (fun h => (hR.f6 h).cons _),f7 := (fun _ => AlN.self rfl hc.sz rfl),f8 := (fun h => (hR.f8 h).cons _),f9 := (fun h => Bool.noConfusion (hR.g9_7 h)),d6_7 := (fun h _ => (hR.f6 h).ne hc.st),g9_7 := (fun _ => rfl) }⟩
  ·obtain rfl : b8 = false := by simpa using hl9
   clear hl9
   obtain ⟨o9,ho9,hd9⟩ := (mem_ready.1 hi9).2
   cases ho9
   have e2 : b2 = true := hd9 ⟨2,.data⟩ (by simp) rfl
   have e6 : b6 = true := hd9 ⟨6,.data⟩ (by simp) rfl
   clear hd9
   subst e2 e6
   clear hi9
   have h9 := hR.f2 rfl
   subst h9
   have hc := hR.hc
   obtain ⟨g9,cs9,h9,hg9,hz9,hm9⟩ := hR.f6 rfl
   subst h9
   obtain ⟨y9_0,y9_1,rfl⟩ : ∃ y9_0 y9_1,cs9 = #[y9_0,y9_1] := by
    match cs9,hz9 with
    | ⟨[y9_0,y9_1]⟩,_ => exact ⟨y9_0,y9_1,rfl⟩
   clear hz9
   have fz9_0 := hc.st.frozen hm9 0
   have cz9_0 := hc.st.cellAt hm9 0 y9_0 rfl
   simp only [] at fz9_0 cz9_0
   have fz9_1 := hc.st.frozen hm9 1
   have cz9_1 := hc.st.cellAt hm9 1 y9_1 rfl
   simp only [] at fz9_1 cz9_1
   have hn9 : ∀ x,x ∈ ([⟨w.heap.size,#[.int .i64 E,.int .i64 F],23⟩] : List En) → x.b ≠ g9 := fun x hx => by have := (hc.old x hx).2; omega
   refine wpOp_step rfl (fun K hK => ?_)
   go_simp
   exact hK _ _ ⟨⟨_,_,_,_,_,_,_,_,_,_,_,_,_,_,_,_,_,_,_,_⟩,rfl,rfl,{ hR with hc := ((hc.store hm9 (by have := hc.w0s; omega) hn9 0 (.int .u64 qa) (by simp)).store (List.mem_cons_self ..) (by have := hc.w0s; omega) hn9 1 (.int .u64 ra) (by simp)),f6 := (fun _ => ⟨g9,_,rfl,hg9,by simp,List.mem_cons_self ..⟩),f7 := (fun h => (((hR.f7 h).but (fun e => hR.d6_7 rfl h e.symm) _).but (fun e => hR.d6_7 rfl h e.symm) _)),f8 := (fun _ => ⟨g9,rfl,hg9,List.mem_cons_self ..⟩),f9 := (fun h => (((hR.f9 h).but (fun e => hR.d6_7 rfl (hR.g9_7 h) e.symm) _).but (fun e => hR.d6_7 rfl (hR.g9_7 h) e.symm) _)),g8_6 := (fun _ => rfl),g8_2 := (fun _ => rfl) }⟩
  ·obtain rfl : b9 = false := by simpa using hl9
   clear hl9
   obtain ⟨o9,ho9,hd9⟩ := (mem_ready.1 hi9).2
   cases ho9
   have e5 : b5 = true := hd9 ⟨5,.data⟩ (by simp) rfl
   have e7 : b7 = true := hd9 ⟨7,.data⟩ (by simp) rfl
   clear hd9
   subst e5 e7
   clear hi9
   have h9 := hR.f5 rfl
   subst h9
   have hc := hR.hc
   obtain ⟨g9,cs9,h9,hg9,hz9,hm9⟩ := hR.f7 rfl
   subst h9
   obtain ⟨y9_0,y9_1,rfl⟩ : ∃ y9_0 y9_1,cs9 = #[y9_0,y9_1] := by
    match cs9,hz9 with
    | ⟨[y9_0,y9_1]⟩,_ => exact ⟨y9_0,y9_1,rfl⟩
   clear hz9
   have fz9_0 := hc.st.frozen hm9 0
   have cz9_0 := hc.st.cellAt hm9 0 y9_0 rfl
   simp only [] at fz9_0 cz9_0
   have fz9_1 := hc.st.frozen hm9 1
   have cz9_1 := hc.st.cellAt hm9 1 y9_1 rfl
   simp only [] at fz9_1 cz9_1
   have hn9 : ∀ x,x ∈ ([⟨w.heap.size,#[.int .i64 E,.int .i64 F],23⟩] : List En) → x.b ≠ g9 := fun x hx => by have := (hc.old x hx).2; omega
   refine wpOp_step rfl (fun K hK => ?_)
   go_simp
   exact hK _ _ ⟨⟨_,_,_,_,_,_,_,_,_,_,_,_,_,_,_,_,_,_,_,_⟩,rfl,rfl,{ hR with hc := ((hc.store hm9 (by have := hc.w0s; omega) hn9 0 (.int .u64 qb) (by simp)).store (List.mem_cons_self ..) (by have := hc.w0s; omega) hn9 1 (.int .u64 rb) (by simp)),f6 := (fun h => (((hR.f6 h).but (fun e => hR.d6_7 h rfl e) _).but (fun e => hR.d6_7 h rfl e) _)),f7 := (fun _ => ⟨g9,_,rfl,hg9,by simp,List.mem_cons_self ..⟩),f8 := (fun h => (((hR.f8 h).but (fun e => hR.d6_7 (hR.g8_6 h) rfl e) _).but (fun e => hR.d6_7 (hR.g8_6 h) rfl e) _)),f9 := (fun _ => ⟨g9,rfl,hg9,List.mem_cons_self ..⟩),g9_7 := (fun _ => rfl),g9_5 := (fun _ => rfl) }⟩
 ·rintro l act Wq3 ⟨⟨b0,b1,b2,b3,b4,b5,b6,b7,b8,b9,v0,v1,v2,v3,v4,v5,v6,v7,bs9,os9⟩,rfl,rfl,hR⟩ hr9
  obtain ⟨hc,f0,f1,f2,f3,f4,f5,f6,f7,f8,f9,d6_7,g8_6,g8_2,g9_7,g9_5⟩ := hR
  have eall := all_done hr9 (by kernel_rfl) rfl
  obtain rfl : b0 = true := eall 0 (by decide)
  obtain rfl : b1 = true := eall 1 (by decide)
  obtain rfl : b2 = true := eall 2 (by decide)
  obtain rfl : b3 = true := eall 3 (by decide)
  obtain rfl : b4 = true := eall 4 (by decide)
  obtain rfl : b5 = true := eall 5 (by decide)
  obtain rfl : b6 = true := eall 6 (by decide)
  obtain rfl : b7 = true := eall 7 (by decide)
  obtain rfl : b8 = true := eall 8 (by decide)
  obtain rfl : b9 = true := eall 9 (by decide)
  clear hr9 eall
  have h9 := f0 rfl
  subst h9
  have h9 := f1 rfl
  subst h9
  have h9 := f2 rfl
  subst h9
  have h9 := f3 rfl
  subst h9
  have h9 := f4 rfl
  subst h9
  have h9 := f5 rfl
  subst h9
  obtain ⟨x3_g6,h9,hg6,hm6⟩ := f8 rfl
  subst h9
  obtain ⟨x3_g7,h9,hg7,hm7⟩ := f9 rfl
  subst h9
  have hbs9 : ∀ x,x ∈ ([⟨x3_g7,#[.int .u64 qb,.int .u64 rb],59⟩,⟨x3_g6,#[.int .u64 qa,.int .u64 ra],59⟩,⟨w.heap.size,#[.int .i64 E,.int .i64 F],23⟩] : List En) → x ∈ bs9 := by
   intro x hx
   rcases List.mem_cons.1 hx with rfl | hx
   ·exact hm7
   rcases List.mem_cons.1 hx with rfl | hx
   ·exact hm6
   rcases List.mem_cons.1 hx with rfl | hx
   ·exact (hc.old _ (by simp)).1
   exact absurd hx List.not_mem_nil
  have hos9 : ∀ x,x ∈ ([] : Os) → x ∈ os9 := by
   intro x hx
   exact absurd hx List.not_mem_nil
  have hS := hc.st.sub hbs9 (fun x hx => hx) hos9
  have hsz9 := hc.sz
  rw [hS9z,hsW9] at hsz9
  have hlx3_g6 := hg6
  rw [hS9z,hsW9] at hlx3_g6
  have hux3_g6 := block_lt (hc.st.bx _ hm6).1
  simp only [] at hux3_g6
  have hlx3_g7 := hg7
  rw [hS9z,hsW9] at hlx3_g7
  have hux3_g7 := block_lt (hc.st.bx _ hm7).1
  simp only [] at hux3_g7
  have hnx3_6_7 : x3_g6 ≠ x3_g7 := fun e9 => d6_7 rfl rfl (by rw [e9])
  clear hbs9 hos9 hc f0 f1 f2 f3 f4 f5 f6 f7 f8 f9 d6_7 g8_6 g8_2 g9_7 g9_5
  clear hm6 hm7 hg6 hg7
  have hz3 := hsz9
  clear hsz9 hS9z hS9 hC9 hsW9
  obtain ⟨⟨k0_0,k0_1,-⟩,-⟩ := hS.cz ⟨x3_g7,#[.int .u64 qb,.int .u64 rb],59⟩ (by simp)
  obtain ⟨⟨k1_0,k1_1,-⟩,-⟩ := hS.cz ⟨x3_g6,#[.int .u64 qa,.int .u64 ra],59⟩ (by simp)
  simp only [] at k0_0 k0_1 k1_0 k1_1
  have hEq := eq_spot qa ra qb rb
  go_wp2_with fail
  clear hEq
  clear k0_0 k0_1 k1_0 k1_1
  replace hS := hS.sub (bs' := [⟨x3_g7,#[.int .u64 qb,.int .u64 rb],59⟩,⟨x3_g6,#[.int .u64 qa,.int .u64 ra],59⟩]) (ms' := []) (os' := []) (by intro x hx; rcases List.mem_cons.1 hx with rfl | hx; (simp); rcases List.mem_cons.1 hx with rfl | hx; (simp); exact absurd hx List.not_mem_nil) (by intro x hx; exact absurd hx List.not_mem_nil) (by intro x hx; exact absurd hx List.not_mem_nil)
  refine wp_region_any (by kernel_rfl) ?_
  change wpAny _ _ _ _ _ _ _ (World.drew _)
  have hS9 := hS.drew
  have hsW9 : (World.drew Wq3).heap.size = Wq3.heap.size := by first | rfl | simp
  generalize World.drew Wq3 = Wd at hS9 hsW9 ⊢
  obtain ⟨S9,hS9z⟩ : ∃ x,x = Wd.heap.size := ⟨_,rfl⟩
  have hC9 := Rc.start (bs := [⟨x3_g7,#[.int .u64 qb,.int .u64 rb],59⟩,⟨x3_g6,#[.int .u64 qa,.int .u64 ra],59⟩]) hS9 (by simp)
  rw [← hS9z] at hC9
  refine wpAny_inv (fun l act w' => ∃ σ,Ncmlt4I w E F a b qa ra qb rb x y w1 x3_g6 x3_g7 S9 l act w' σ) ?_ ?_ _ _ _ _ ?_ ?_
  ·intro l act w' i9 hI9 hi9 hl9
   have hin9 : i9 < 6 := by
    by_cases h : i9 < 6
    ·exact h
    ·obtain ⟨⟨⟩,rfl,_⟩ := hI9
     rw [Array.getElem?_eq_none (by simp; omega)] at hl9; cases hl9
   have hcase : i9 = 0 ∨ i9 = 1 ∨ i9 = 2 ∨ i9 = 3 ∨ i9 = 4 ∨ i9 = 5 := by omega
   clear hin9
   obtain ⟨⟨b0,b1,b2,b3,b4,b5,v0,v1,v2,v3,v4,v5,bs9,os9⟩,rfl,rfl,hR⟩ := hI9
   rcases hcase with rfl | rfl | rfl | rfl | rfl | rfl
   ·obtain rfl : b0 = false := by simpa using hl9
    clear hl9
    clear hi9
    have hc := hR.hc
    have c9_0 := hc.st.cellAt (hc.old ⟨x3_g6,#[.int .u64 qa,.int .u64 ra],59⟩ (by simp)).1 0 (.int .u64 qa) rfl
    have c9_1 := hc.st.cellAt (hc.old ⟨x3_g6,#[.int .u64 qa,.int .u64 ra],59⟩ (by simp)).1 1 (.int .u64 ra) rfl
    simp only [] at c9_0 c9_1
    refine wpOp_step rfl (fun K hK => ?_)
    go_simp
    exact hK _ _ ⟨⟨_,_,_,_,_,_,_,_,_,_,_,_,_,_⟩,rfl,rfl,{ hR with hc := hc,f0 := (fun _ => rfl) }⟩
   ·obtain rfl : b1 = false := by simpa using hl9
    clear hl9
    obtain ⟨o9,ho9,hd9⟩ := (mem_ready.1 hi9).2
    cases ho9
    have e0 : b0 = true := hd9 ⟨0,.data⟩ (by simp) rfl
    clear hd9
    subst e0
    clear hi9
    have h9 := hR.f0 rfl
    subst h9
    have hc := hR.hc
    have HR := hide hR
    clear hR
    refine wpOp_step rfl (fun K hK => ?_)
    go_simp
    go_wp2_with fail
    refine (HX _).mono ?_
    rintro en w9 ⟨rfl,hb9⟩
    have hR := unhide HR
    exact hK _ _ ⟨⟨_,_,_,_,_,_,_,_,_,_,_,_,_,_⟩,rfl,rfl,{ hR with hc := (hc.call (hc.st.kept hb9) hb9.size (fun y hy => hy)),f1 := (fun _ => rfl) }⟩
   ·obtain rfl : b2 = false := by simpa using hl9
    clear hl9
    clear hi9
    have hc := hR.hc
    have c9_0 := hc.st.cellAt (hc.old ⟨x3_g7,#[.int .u64 qb,.int .u64 rb],59⟩ (by simp)).1 0 (.int .u64 qb) rfl
    have c9_1 := hc.st.cellAt (hc.old ⟨x3_g7,#[.int .u64 qb,.int .u64 rb],59⟩ (by simp)).1 1 (.int .u64 rb) rfl
    simp only [] at c9_0 c9_1
    refine wpOp_step rfl (fun K hK => ?_)
    go_simp
    exact hK _ _ ⟨⟨_,_,_,_,_,_,_,_,_,_,_,_,_,_⟩,rfl,rfl,{ hR with hc := hc,f2 := (fun _ => rfl) }⟩
   ·obtain rfl : b3 = false := by simpa using hl9
    clear hl9
    obtain ⟨o9,ho9,hd9⟩ := (mem_ready.1 hi9).2
    cases ho9
    have e2 : b2 = true := hd9 ⟨2,.data⟩ (by simp) rfl
    clear hd9
    subst e2
    clear hi9
    have h9 := hR.f2 rfl
    subst h9
    have hc := hR.hc
    have HR := hide hR
    clear hR
    refine wpOp_step rfl (fun K hK => ?_)
    go_simp
    go_wp2_with fail
    refine (HY _).mono ?_
    rintro en w9 ⟨rfl,hb9⟩
    have hR := unhide HR
    exact hK _ _ ⟨⟨_,_,_,_,_,_,_,_,_,_,_,_,_,_⟩,rfl,rfl,{ hR with hc := (hc.call (hc.st.kept hb9) hb9.size (fun y hy => hy)),f3 := (fun _ => rfl) }⟩
   ·obtain rfl : b4 = false := by simpa using hl9
    clear hl9
    obtain ⟨o9,ho9,hd9⟩ := (mem_ready.1 hi9).2
    cases ho9
    have e1 : b1 = true := hd9 ⟨1,.data⟩ (by simp) rfl
    have e3 : b3 = true := hd9 ⟨3,.data⟩ (by simp) rfl
    clear hd9
    subst e1 e3
    clear hi9
    have h9 := hR.f1 rfl
    subst h9
    have h9 := hR.f3 rfl
    subst h9
    have hc := hR.hc
    refine wpOp_step rfl (fun K hK => ?_)
    go_simp
    exact hK _ _ ⟨⟨_,_,_,_,_,_,_,_,_,_,_,_,_,_⟩,rfl,rfl,{ hR with hc := hc,f4 := (fun _ => by first | rfl | simp [h]) }⟩
   ·obtain rfl : b5 = false := by simpa using hl9
    clear hl9
    obtain ⟨o9,ho9,hd9⟩ := (mem_ready.1 hi9).2
    cases ho9
    have e4 : b4 = true := hd9 ⟨4,.data⟩ (by simp) rfl
    clear hd9
    subst e4
    clear hi9
    have h9 := hR.f4 rfl
    subst h9
    have hc := hR.hc
    refine wpOp_step rfl (fun K hK => ?_)
    go_simp
    exact hK _ _ ⟨⟨_,_,_,_,_,_,_,_,_,_,_,_,_,_⟩,rfl,rfl,{ hR with hc := hc,f5 := (fun _ => rfl) }⟩
  ·rintro l act Wq4 ⟨⟨b0,b1,b2,b3,b4,b5,v0,v1,v2,v3,v4,v5,bs9,os9⟩,rfl,rfl,hR⟩ hr9
   obtain ⟨hc,f0,f1,f2,f3,f4,f5⟩ := hR
   have eall := all_done hr9 (by kernel_rfl) rfl
   obtain rfl : b0 = true := eall 0 (by decide)
   obtain rfl : b1 = true := eall 1 (by decide)
   obtain rfl : b2 = true := eall 2 (by decide)
   obtain rfl : b3 = true := eall 3 (by decide)
   obtain rfl : b4 = true := eall 4 (by decide)
   obtain rfl : b5 = true := eall 5 (by decide)
   clear hr9 eall
   have h9 := f0 rfl
   subst h9
   have h9 := f1 rfl
   subst h9
   have h9 := f2 rfl
   subst h9
   have h9 := f3 rfl
   subst h9
   have h9 := f4 rfl
   subst h9
   have h9 := f5 rfl
   subst h9
   have hbs9 : ∀ x,x ∈ ([⟨x3_g7,#[.int .u64 qb,.int .u64 rb],59⟩,⟨x3_g6,#[.int .u64 qa,.int .u64 ra],59⟩] : List En) → x ∈ bs9 := by
    intro x hx
    rcases List.mem_cons.1 hx with rfl | hx
    ·exact (hc.old _ (by simp)).1
    rcases List.mem_cons.1 hx with rfl | hx
    ·exact (hc.old _ (by simp)).1
    exact absurd hx List.not_mem_nil
   have hos9 : ∀ x,x ∈ ([] : Os) → x ∈ os9 := by
    intro x hx
    exact absurd hx List.not_mem_nil
   have hS := hc.st.sub hbs9 (fun x hx => hx) hos9
   have hsz9 := hc.sz
   rw [hS9z,hsW9] at hsz9
   clear hbs9 hos9 hc f0 f1 f2 f3 f4 f5
   have hz4 := hsz9
   clear hsz9 hS9z hS9 hC9 hsW9
   go_wp2
   go_ret3
   exact ⟨rfl,hS.fr⟩
  ·simp
  ·exact ⟨⟨false,false,false,false,false,false,undef,undef,undef,undef,undef,undef,_,_⟩,rfl,rfl,⟨hC9,nb,nb,nb,nb,nb,nb⟩⟩
 ·simp
 ·exact ⟨⟨false,false,false,false,false,false,false,false,false,false,undef,undef,undef,undef,undef,undef,undef,undef,_,_⟩,rfl,rfl,⟨hC9,nb,nb,nb,nb,nb,nb,nb,nb,nb,nb,nb,nb,nb,nb,nb⟩⟩
structure Ncmgt4S where
 (b0 b1 b2 b3 b4 b5 : Bool)
 (v0 v1 v2 v3 v4 v5 : Value)
 bs9 : List En
 os9 : Os
structure Ncmgt4R (w : World) (E F a b qa ra qb rb x y : Int) (w1 : World) (x3_g6 : Nat) (x3_g7 : Nat) (S9 : Nat) (b0 b1 b2 b3 b4 b5 : Bool) (v0 v1 v2 v3 v4 v5 : Value)  (bs9 : List En) (os9 : Os) (w' : World) : Prop where
 hc : Rc w S9 [⟨x3_g7,#[.int .u64 qb,.int .u64 rb],59⟩,⟨x3_g6,#[.int .u64 qa,.int .u64 ra],59⟩] [] [] none bs9 os9 w'
 f0 : b0 = true → v0 = .agg #[.int .u64 qa,.int .u64 ra]
 f1 : b1 = true → v1 = .int .i64 x
 f2 : b2 = true → v2 = .agg #[.int .u64 qb,.int .u64 rb]
 f3 : b3 = true → v3 = .int .i64 y
 f4 : b4 = true → v4 = .bool false
 f5 : b5 = true → v5 = .bool false
def Ncmgt4I (w : World) (E F a b qa ra qb rb x y : Int) (w1 : World) (x3_g6 : Nat) (x3_g7 : Nat) (S9 : Nat) (l : Array Bool) (act : Act) (w' : World) : Ncmgt4S → Prop
 | ⟨b0,b1,b2,b3,b4,b5,v0,v1,v2,v3,v4,v5,bs9,os9⟩ => l = #[b0,b1,b2,b3,b4,b5] ∧ act = { tmps := #[.agg #[.int .i64 E,.int .i64 F],.int .u64 a,.int .u64 b,.pointer (some ⟨w.heap.size,0,none⟩),undef,undef,.int .i64 0,.bool false,.int .i64 0,.int .i64 0,.pointer (some ⟨x3_g6,0,none⟩),.pointer (some ⟨x3_g7,0,none⟩),.agg #[.int .i64 E,.int .i64 F],.int .u64 a,.int .u64 b,.slice (some ⟨w.heap.size + 1,0,none⟩) 2 2,.int .i64 0,.int .i64 0,.bool false,undef,.agg #[.int .i64 E,.int .i64 F],.int .u64 a,.int .u64 b,.slice (some ⟨w1.heap.size,0,none⟩) 2 2,.bool true,.bool false,.agg #[.int .i64 E,.int .i64 F],.int .u64 a,.agg #[.int .u64 qa,.int .u64 ra],.agg #[.int .i64 E,.int .i64 F],.int .u64 b,.agg #[.int .u64 qb,.int .u64 rb],.bool false,.agg #[.int .u64 qa,.int .u64 ra],.agg #[.int .u64 qb,.int .u64 rb],.bool false,v5,v0,v1,v2,v3,v4],defers := [] } ∧ Ncmgt4R w E F a b qa ra qb rb x y w1 x3_g6 x3_g7 S9 b0 b1 b2 b3 b4 b5 v0 v1 v2 v3 v4 v5 bs9 os9 w'
structure Ncmgt3S where
 (b0 b1 b2 b3 b4 b5 b6 b7 b8 b9 : Bool)
 (v0 v1 v2 v3 v4 v5 v6 v7 : Value)
 bs9 : List En
 os9 : Os
structure Ncmgt3R (w : World) (E F a b qa ra qb rb : Int) (w1 : World) (S9 : Nat) (b0 b1 b2 b3 b4 b5 b6 b7 b8 b9 : Bool) (v0 v1 v2 v3 v4 v5 v6 v7 : Value)  (bs9 : List En) (os9 : Os) (w' : World) : Prop where
 hc : Rc w S9 [⟨w.heap.size,#[.int .i64 E,.int .i64 F],23⟩] [] [] none bs9 os9 w'
 f0 : b0 = true → v0 = .agg #[.int .i64 E,.int .i64 F]
 f1 : b1 = true → v1 = .int .u64 a
 f2 : b2 = true → v2 = .agg #[.int .u64 qa,.int .u64 ra]
 f3 : b3 = true → v3 = .agg #[.int .i64 E,.int .i64 F]
 f4 : b4 = true → v4 = .int .u64 b
 f5 : b5 = true → v5 = .agg #[.int .u64 qb,.int .u64 rb]
 f6 : b6 = true → AlN bs9 S9 v6 59 2
 f7 : b7 = true → AlN bs9 S9 v7 59 2
 f8 : b8 = true → StN bs9 S9 v6 #[.int .u64 qa,.int .u64 ra] 59
 f9 : b9 = true → StN bs9 S9 v7 #[.int .u64 qb,.int .u64 rb] 59
 d6_7 : b6 = true → b7 = true → v6 ≠ v7
 g8_6 : b8 = true → b6 = true
 g8_2 : b8 = true → b2 = true
 g9_7 : b9 = true → b7 = true
 g9_5 : b9 = true → b5 = true
def Ncmgt3I (w : World) (E F a b qa ra qb rb : Int) (w1 : World) (S9 : Nat) (l : Array Bool) (act : Act) (w' : World) : Ncmgt3S → Prop
 | ⟨b0,b1,b2,b3,b4,b5,b6,b7,b8,b9,v0,v1,v2,v3,v4,v5,v6,v7,bs9,os9⟩ => l = #[b0,b1,b2,b3,b4,b5,b6,b7,b8,b9] ∧ act = { tmps := #[.agg #[.int .i64 E,.int .i64 F],.int .u64 a,.int .u64 b,.pointer (some ⟨w.heap.size,0,none⟩),undef,undef,.int .i64 0,.bool false,.int .i64 0,.int .i64 0,v6,v7,.agg #[.int .i64 E,.int .i64 F],.int .u64 a,.int .u64 b,.slice (some ⟨w.heap.size + 1,0,none⟩) 2 2,.int .i64 0,.int .i64 0,.bool false,undef,.agg #[.int .i64 E,.int .i64 F],.int .u64 a,.int .u64 b,.slice (some ⟨w1.heap.size,0,none⟩) 2 2,.bool true,.bool false,v0,v1,v2,v3,v4,v5,undef,undef,undef,undef,undef,undef,undef,undef,undef,undef],defers := [] } ∧ Ncmgt3R w E F a b qa ra qb rb w1 S9 b0 b1 b2 b3 b4 b5 b6 b7 b8 b9 v0 v1 v2 v3 v4 v5 v6 v7 bs9 os9 w'
set_option maxRecDepth 20000 in
set_option maxHeartbeats 4000000 in
theorem Cmp_gt (w : World) (E F a b qa ra qb rb x y : Int) (c1 c2 : Int) (h1 : (c1 == (5 : Int)) = false) (h2 : (c2 == (5 : Int)) = false) (H0 : Tel 42 #[.agg #[.int .i64 E,.int .i64 F],.int .u64 a] (.int .i64 0)) (H1 : Tel 42 #[.agg #[.int .i64 E,.int .i64 F],.int .u64 b] (.int .i64 0)) (HC : Tel 43 #[.agg #[.int .i64 E,.int .i64 F],.int .u64 a] (.tuple #[.int .u8 c1,.int .i64 0])) (HD : Tel 43 #[.agg #[.int .i64 E,.int .i64 F],.int .u64 b] (.tuple #[.int .u8 c2,.int .i64 0])) (HP : Tel 22 #[.agg #[.int .i64 E,.int .i64 F],.int .u64 a] (.agg #[.int .u64 qa,.int .u64 ra])) (HQ : Tel 22 #[.agg #[.int .i64 E,.int .i64 F],.int .u64 b] (.agg #[.int .u64 qb,.int .u64 rb])) (HX : Tel 23 #[.agg #[.int .u64 qa,.int .u64 ra]] (.int .i64 x)) (HY : Tel 23 #[.agg #[.int .u64 qb,.int .u64 rb]] (.int .i64 y)) (hne : (qa == qb && ra == rb) = false) (h : ¬ x < y) :
  Calls Tryz.prog 9 #[.agg #[.int .i64 E,.int .i64 F],.int .u64 a,.int .u64 b] w fun e w' => e = .returned (.tuple #[.int .i64 1,.bool true,.int .i64 0]) ∧ Below w.heap.size w w' := by
 have hS := Rs.begin w
 replace hS := hS.alloc #[.int .i64 E,.int .i64 F] 23
 try simp only [World.size_alloc] at hS
 go_enter Tryz.func9,Tryz.ntmps9
 go_wp2_with fail
 refine (check2_ok E F _ a b H0 H1 _ (by have := heap_alloc_new (w.alloc (.cells #[.int .i64 E,.int .i64 F] 23)) (.cells #[.int .u64 a,.int .u64 b] 24); simpa only [World.size_alloc] using this)).mono ?_
 rintro en w1 ⟨rfl,hb1⟩
 replace hS := (hS.alloc #[.int .u64 a,.int .u64 b] 24).kept hb1
 replace hS := hS.sub (bs' := [⟨w.heap.size,#[.int .i64 E,.int .i64 F],23⟩]) (ms' := []) (os' := []) (by intro x hx; exact List.mem_cons_of_mem _ hx) (fun _ h => h) (fun _ h => h)
 clear hb1
 obtain ⟨⟨k0_0,k0_1,-⟩,-⟩ := hS.cz ⟨w.heap.size,#[.int .i64 E,.int .i64 F],23⟩ (by simp)
 simp only [] at k0_0 k0_1
 go_wp2_with fail
 refine (numbers2_yes E F c1 h1 c2 h2 _ a b HC HD _ (by have := heap_alloc_new w1 (.cells #[.int .u64 a,.int .u64 b] 24); simpa only [World.size_alloc] using this)).mono ?_
 rintro en w2 ⟨rfl,hb2⟩
 replace hS := (hS.alloc #[.int .u64 a,.int .u64 b] 24).kept hb2
 replace hS := hS.sub (bs' := [⟨w.heap.size,#[.int .i64 E,.int .i64 F],23⟩]) (ms' := []) (os' := []) (by intro x hx; exact List.mem_cons_of_mem _ hx) (fun _ h => h) (fun _ h => h)
 clear k0_0 k0_1
 clear hb2
 obtain ⟨⟨k0_0,k0_1,-⟩,-⟩ := hS.cz ⟨w.heap.size,#[.int .i64 E,.int .i64 F],23⟩ (by simp)
 simp only [] at k0_0 k0_1
 go_wp2_with fail
 clear k0_0 k0_1
 refine wp_region_any (by kernel_rfl) ?_
 change wpAny _ _ _ _ _ _ _ (World.drew _)
 have hS9 := hS.drew
 have hsW9 : (World.drew w2).heap.size = w2.heap.size := by first | rfl | simp
 generalize World.drew w2 = Wd at hS9 hsW9 ⊢
 obtain ⟨S9,hS9z⟩ : ∃ x,x = Wd.heap.size := ⟨_,rfl⟩
 have hC9 := Rc.start (bs := [⟨w.heap.size,#[.int .i64 E,.int .i64 F],23⟩]) hS9 (by simp)
 rw [← hS9z] at hC9
 refine wpAny_inv (fun l act w' => ∃ σ,Ncmgt3I w E F a b qa ra qb rb w1 S9 l act w' σ) ?_ ?_ _ _ _ _ ?_ ?_
 ·intro l act w' i9 hI9 hi9 hl9
  have hin9 : i9 < 10 := by
   by_cases h : i9 < 10
   ·exact h
   ·obtain ⟨⟨⟩,rfl,_⟩ := hI9
    rw [Array.getElem?_eq_none (by simp; omega)] at hl9; cases hl9
  have hcase : i9 = 0 ∨ i9 = 1 ∨ i9 = 2 ∨ i9 = 3 ∨ i9 = 4 ∨ i9 = 5 ∨ i9 = 6 ∨ i9 = 7 ∨ i9 = 8 ∨ i9 = 9 := by omega
  clear hin9
  obtain ⟨⟨b0,b1,b2,b3,b4,b5,b6,b7,b8,b9,v0,v1,v2,v3,v4,v5,v6,v7,bs9,os9⟩,rfl,rfl,hR⟩ := hI9
  rcases hcase with rfl | rfl | rfl | rfl | rfl | rfl | rfl | rfl | rfl | rfl
  ·obtain rfl : b0 = false := by simpa using hl9
   clear hl9
   clear hi9
   have hc := hR.hc
   have c9_0 := hc.st.cellAt (hc.old ⟨w.heap.size,#[.int .i64 E,.int .i64 F],23⟩ (by simp)).1 0 (.int .i64 E) rfl
   have c9_1 := hc.st.cellAt (hc.old ⟨w.heap.size,#[.int .i64 E,.int .i64 F],23⟩ (by simp)).1 1 (.int .i64 F) rfl
   simp only [] at c9_0 c9_1
   refine wpOp_step rfl (fun K hK => ?_)
   go_simp
   exact hK _ _ ⟨⟨_,_,_,_,_,_,_,_,_,_,_,_,_,_,_,_,_,_,_,_⟩,rfl,rfl,{ hR with hc := hc,f0 := (fun _ => rfl) }⟩
  ·obtain rfl : b1 = false := by simpa using hl9
   clear hl9
   clear hi9
   have hc := hR.hc
   refine wpOp_step rfl (fun K hK => ?_)
   go_simp
   exact hK _ _ ⟨⟨_,_,_,_,_,_,_,_,_,_,_,_,_,_,_,_,_,_,_,_⟩,rfl,rfl,{ hR with hc := hc,f1 := (fun _ => rfl) }⟩
  ·obtain rfl : b2 = false := by simpa using hl9
   clear hl9
   obtain ⟨o9,ho9,hd9⟩ := (mem_ready.1 hi9).2
   cases ho9
   have e0 : b0 = true := hd9 ⟨0,.data⟩ (by simp) rfl
   have e1 : b1 = true := hd9 ⟨1,.data⟩ (by simp) rfl
   clear hd9
   subst e0 e1
   clear hi9
   have h9 := hR.f0 rfl
   subst h9
   have h9 := hR.f1 rfl
   subst h9
   have hc := hR.hc
   have HR := hide hR
   clear hR
   refine wpOp_step rfl (fun K hK => ?_)
   go_simp
   go_wp2_with fail
   refine (HP _).mono ?_
   rintro en w9 ⟨rfl,hb9⟩
   have hR := unhide HR
   exact hK _ _ ⟨⟨_,_,_,_,_,_,_,_,_,_,_,_,_,_,_,_,_,_,_,_⟩,rfl,rfl,{ hR with hc := (hc.call (hc.st.kept hb9) hb9.size (fun y hy => hy)),f2 := (fun _ => rfl),f8 := (fun h => Bool.noConfusion (hR.g8_2 h)),g8_2 := (fun _ => rfl) }⟩
  ·obtain rfl : b3 = false := by simpa using hl9
   clear hl9
   clear hi9
   have hc := hR.hc
   have c9_0 := hc.st.cellAt (hc.old ⟨w.heap.size,#[.int .i64 E,.int .i64 F],23⟩ (by simp)).1 0 (.int .i64 E) rfl
   have c9_1 := hc.st.cellAt (hc.old ⟨w.heap.size,#[.int .i64 E,.int .i64 F],23⟩ (by simp)).1 1 (.int .i64 F) rfl
   simp only [] at c9_0 c9_1
   refine wpOp_step rfl (fun K hK => ?_)
   go_simp
   exact hK _ _ ⟨⟨_,_,_,_,_,_,_,_,_,_,_,_,_,_,_,_,_,_,_,_⟩,rfl,rfl,{ hR with hc := hc,f3 := (fun _ => rfl) }⟩
  ·obtain rfl : b4 = false := by simpa using hl9
   clear hl9
   clear hi9
   have hc := hR.hc
   refine wpOp_step rfl (fun K hK => ?_)
   go_simp
   exact hK _ _ ⟨⟨_,_,_,_,_,_,_,_,_,_,_,_,_,_,_,_,_,_,_,_⟩,rfl,rfl,{ hR with hc := hc,f4 := (fun _ => rfl) }⟩
  ·obtain rfl : b5 = false := by simpa using hl9
   clear hl9
   obtain ⟨o9,ho9,hd9⟩ := (mem_ready.1 hi9).2
   cases ho9
   have e3 : b3 = true := hd9 ⟨3,.data⟩ (by simp) rfl
   have e4 : b4 = true := hd9 ⟨4,.data⟩ (by simp) rfl
   clear hd9
   subst e3 e4
   clear hi9
   have h9 := hR.f3 rfl
   subst h9
   have h9 := hR.f4 rfl
   subst h9
   have hc := hR.hc
   have HR := hide hR
   clear hR
   refine wpOp_step rfl (fun K hK => ?_)
   go_simp
   go_wp2_with fail
   refine (HQ _).mono ?_
   rintro en w9 ⟨rfl,hb9⟩
   have hR := unhide HR
   exact hK _ _ ⟨⟨_,_,_,_,_,_,_,_,_,_,_,_,_,_,_,_,_,_,_,_⟩,rfl,rfl,{ hR with hc := (hc.call (hc.st.kept hb9) hb9.size (fun y hy => hy)),f5 := (fun _ => rfl),f9 := (fun h => Bool.noConfusion (hR.g9_5 h)),g9_5 := (fun _ => rfl) }⟩
  ·obtain rfl : b6 = false := by simpa using hl9
   clear hl9
   clear hi9
   have hc := hR.hc
   refine wpOp_step rfl (fun K hK => ?_)
   go_simp
   exact hK _ _ ⟨⟨_,_,_,_,_,_,_,_,_,_,_,_,_,_,_,_,_,_,_,_⟩,rfl,rfl,{ hR with hc := (hc.alloc #[.int .u64 0,.int .u64 0] 59),f6 := (fun _ => AlN.self rfl hc.sz rfl),f7 := (fun h => (hR.f7 h).cons _),f8 := (fun h => Bool.noConfusion (hR.g8_6 h)),f9 := (fun h => (hR.f9 h).cons _),d6_7 := (fun _ h => Ne.symm ((hR.f7 h).ne hc.st)),g8_6 := (fun _ => rfl) }⟩
  ·obtain rfl : b7 = false := by simpa using hl9
   clear hl9
   clear hi9
   have hc := hR.hc
   refine wpOp_step rfl (fun K hK => ?_)
   go_simp
   exact hK _ _ ⟨⟨_,_,_,_,_,_,_,_,_,_,_,_,_,_,_,_,_,_,_,_⟩,rfl,rfl,{ hR with hc := (hc.alloc #[.int .u64 0,.int .u64 0] 59),f6 := (fun h => (hR.f6 h).cons _),f7 := (fun _ => AlN.self rfl hc.sz rfl),f8 := (fun h => (hR.f8 h).cons _),f9 := (fun h => Bool.noConfusion (hR.g9_7 h)),d6_7 := (fun h _ => (hR.f6 h).ne hc.st),g9_7 := (fun _ => rfl) }⟩
  ·obtain rfl : b8 = false := by simpa using hl9
   clear hl9
   obtain ⟨o9,ho9,hd9⟩ := (mem_ready.1 hi9).2
   cases ho9
   have e2 : b2 = true := hd9 ⟨2,.data⟩ (by simp) rfl
   have e6 : b6 = true := hd9 ⟨6,.data⟩ (by simp) rfl
   clear hd9
   subst e2 e6
   clear hi9
   have h9 := hR.f2 rfl
   subst h9
   have hc := hR.hc
   obtain ⟨g9,cs9,h9,hg9,hz9,hm9⟩ := hR.f6 rfl
   subst h9
   obtain ⟨y9_0,y9_1,rfl⟩ : ∃ y9_0 y9_1,cs9 = #[y9_0,y9_1] := by
    match cs9,hz9 with
    | ⟨[y9_0,y9_1]⟩,_ => exact ⟨y9_0,y9_1,rfl⟩
   clear hz9
   have fz9_0 := hc.st.frozen hm9 0
   have cz9_0 := hc.st.cellAt hm9 0 y9_0 rfl
   simp only [] at fz9_0 cz9_0
   have fz9_1 := hc.st.frozen hm9 1
   have cz9_1 := hc.st.cellAt hm9 1 y9_1 rfl
   simp only [] at fz9_1 cz9_1
   have hn9 : ∀ x,x ∈ ([⟨w.heap.size,#[.int .i64 E,.int .i64 F],23⟩] : List En) → x.b ≠ g9 := fun x hx => by have := (hc.old x hx).2; omega
   refine wpOp_step rfl (fun K hK => ?_)
   go_simp
   exact hK _ _ ⟨⟨_,_,_,_,_,_,_,_,_,_,_,_,_,_,_,_,_,_,_,_⟩,rfl,rfl,{ hR with hc := ((hc.store hm9 (by have := hc.w0s; omega) hn9 0 (.int .u64 qa) (by simp)).store (List.mem_cons_self ..) (by have := hc.w0s; omega) hn9 1 (.int .u64 ra) (by simp)),f6 := (fun _ => ⟨g9,_,rfl,hg9,by simp,List.mem_cons_self ..⟩),f7 := (fun h => (((hR.f7 h).but (fun e => hR.d6_7 rfl h e.symm) _).but (fun e => hR.d6_7 rfl h e.symm) _)),f8 := (fun _ => ⟨g9,rfl,hg9,List.mem_cons_self ..⟩),f9 := (fun h => (((hR.f9 h).but (fun e => hR.d6_7 rfl (hR.g9_7 h) e.symm) _).but (fun e => hR.d6_7 rfl (hR.g9_7 h) e.symm) _)),g8_6 := (fun _ => rfl),g8_2 := (fun _ => rfl) }⟩
  ·obtain rfl : b9 = false := by simpa using hl9
   clear hl9
   obtain ⟨o9,ho9,hd9⟩ := (mem_ready.1 hi9).2
   cases ho9
   have e5 : b5 = true := hd9 ⟨5,.data⟩ (by simp) rfl
   have e7 : b7 = true := hd9 ⟨7,.data⟩ (by simp) rfl
   clear hd9
   subst e5 e7
   clear hi9
   have h9 := hR.f5 rfl
   subst h9
   have hc := hR.hc
   obtain ⟨g9,cs9,h9,hg9,hz9,hm9⟩ := hR.f7 rfl
   subst h9
   obtain ⟨y9_0,y9_1,rfl⟩ : ∃ y9_0 y9_1,cs9 = #[y9_0,y9_1] := by
    match cs9,hz9 with
    | ⟨[y9_0,y9_1]⟩,_ => exact ⟨y9_0,y9_1,rfl⟩
   clear hz9
   have fz9_0 := hc.st.frozen hm9 0
   have cz9_0 := hc.st.cellAt hm9 0 y9_0 rfl
   simp only [] at fz9_0 cz9_0
   have fz9_1 := hc.st.frozen hm9 1
   have cz9_1 := hc.st.cellAt hm9 1 y9_1 rfl
   simp only [] at fz9_1 cz9_1
   have hn9 : ∀ x,x ∈ ([⟨w.heap.size,#[.int .i64 E,.int .i64 F],23⟩] : List En) → x.b ≠ g9 := fun x hx => by have := (hc.old x hx).2; omega
   refine wpOp_step rfl (fun K hK => ?_)
   go_simp
   exact hK _ _ ⟨⟨_,_,_,_,_,_,_,_,_,_,_,_,_,_,_,_,_,_,_,_⟩,rfl,rfl,{ hR with hc := ((hc.store hm9 (by have := hc.w0s; omega) hn9 0 (.int .u64 qb) (by simp)).store (List.mem_cons_self ..) (by have := hc.w0s; omega) hn9 1 (.int .u64 rb) (by simp)),f6 := (fun h => (((hR.f6 h).but (fun e => hR.d6_7 h rfl e) _).but (fun e => hR.d6_7 h rfl e) _)),f7 := (fun _ => ⟨g9,_,rfl,hg9,by simp,List.mem_cons_self ..⟩),f8 := (fun h => (((hR.f8 h).but (fun e => hR.d6_7 (hR.g8_6 h) rfl e) _).but (fun e => hR.d6_7 (hR.g8_6 h) rfl e) _)),f9 := (fun _ => ⟨g9,rfl,hg9,List.mem_cons_self ..⟩),g9_7 := (fun _ => rfl),g9_5 := (fun _ => rfl) }⟩
 ·rintro l act Wq3 ⟨⟨b0,b1,b2,b3,b4,b5,b6,b7,b8,b9,v0,v1,v2,v3,v4,v5,v6,v7,bs9,os9⟩,rfl,rfl,hR⟩ hr9
  obtain ⟨hc,f0,f1,f2,f3,f4,f5,f6,f7,f8,f9,d6_7,g8_6,g8_2,g9_7,g9_5⟩ := hR
  have eall := all_done hr9 (by kernel_rfl) rfl
  obtain rfl : b0 = true := eall 0 (by decide)
  obtain rfl : b1 = true := eall 1 (by decide)
  obtain rfl : b2 = true := eall 2 (by decide)
  obtain rfl : b3 = true := eall 3 (by decide)
  obtain rfl : b4 = true := eall 4 (by decide)
  obtain rfl : b5 = true := eall 5 (by decide)
  obtain rfl : b6 = true := eall 6 (by decide)
  obtain rfl : b7 = true := eall 7 (by decide)
  obtain rfl : b8 = true := eall 8 (by decide)
  obtain rfl : b9 = true := eall 9 (by decide)
  clear hr9 eall
  have h9 := f0 rfl
  subst h9
  have h9 := f1 rfl
  subst h9
  have h9 := f2 rfl
  subst h9
  have h9 := f3 rfl
  subst h9
  have h9 := f4 rfl
  subst h9
  have h9 := f5 rfl
  subst h9
  obtain ⟨x3_g6,h9,hg6,hm6⟩ := f8 rfl
  subst h9
  obtain ⟨x3_g7,h9,hg7,hm7⟩ := f9 rfl
  subst h9
  have hbs9 : ∀ x,x ∈ ([⟨x3_g7,#[.int .u64 qb,.int .u64 rb],59⟩,⟨x3_g6,#[.int .u64 qa,.int .u64 ra],59⟩,⟨w.heap.size,#[.int .i64 E,.int .i64 F],23⟩] : List En) → x ∈ bs9 := by
   intro x hx
   rcases List.mem_cons.1 hx with rfl | hx
   ·exact hm7
   rcases List.mem_cons.1 hx with rfl | hx
   ·exact hm6
   rcases List.mem_cons.1 hx with rfl | hx
   ·exact (hc.old _ (by simp)).1
   exact absurd hx List.not_mem_nil
  have hos9 : ∀ x,x ∈ ([] : Os) → x ∈ os9 := by
   intro x hx
   exact absurd hx List.not_mem_nil
  have hS := hc.st.sub hbs9 (fun x hx => hx) hos9
  have hsz9 := hc.sz
  rw [hS9z,hsW9] at hsz9
  have hlx3_g6 := hg6
  rw [hS9z,hsW9] at hlx3_g6
  have hux3_g6 := block_lt (hc.st.bx _ hm6).1
  simp only [] at hux3_g6
  have hlx3_g7 := hg7
  rw [hS9z,hsW9] at hlx3_g7
  have hux3_g7 := block_lt (hc.st.bx _ hm7).1
  simp only [] at hux3_g7
  have hnx3_6_7 : x3_g6 ≠ x3_g7 := fun e9 => d6_7 rfl rfl (by rw [e9])
  clear hbs9 hos9 hc f0 f1 f2 f3 f4 f5 f6 f7 f8 f9 d6_7 g8_6 g8_2 g9_7 g9_5
  clear hm6 hm7 hg6 hg7
  have hz3 := hsz9
  clear hsz9 hS9z hS9 hC9 hsW9
  obtain ⟨⟨k0_0,k0_1,-⟩,-⟩ := hS.cz ⟨x3_g7,#[.int .u64 qb,.int .u64 rb],59⟩ (by simp)
  obtain ⟨⟨k1_0,k1_1,-⟩,-⟩ := hS.cz ⟨x3_g6,#[.int .u64 qa,.int .u64 ra],59⟩ (by simp)
  simp only [] at k0_0 k0_1 k1_0 k1_1
  have hEq := eq_spot qa ra qb rb
  go_wp2_with fail
  clear hEq
  clear k0_0 k0_1 k1_0 k1_1
  replace hS := hS.sub (bs' := [⟨x3_g7,#[.int .u64 qb,.int .u64 rb],59⟩,⟨x3_g6,#[.int .u64 qa,.int .u64 ra],59⟩]) (ms' := []) (os' := []) (by intro x hx; rcases List.mem_cons.1 hx with rfl | hx; (simp); rcases List.mem_cons.1 hx with rfl | hx; (simp); exact absurd hx List.not_mem_nil) (by intro x hx; exact absurd hx List.not_mem_nil) (by intro x hx; exact absurd hx List.not_mem_nil)
  refine wp_region_any (by kernel_rfl) ?_
  change wpAny _ _ _ _ _ _ _ (World.drew _)
  have hS9 := hS.drew
  have hsW9 : (World.drew Wq3).heap.size = Wq3.heap.size := by first | rfl | simp
  generalize World.drew Wq3 = Wd at hS9 hsW9 ⊢
  obtain ⟨S9,hS9z⟩ : ∃ x,x = Wd.heap.size := ⟨_,rfl⟩
  have hC9 := Rc.start (bs := [⟨x3_g7,#[.int .u64 qb,.int .u64 rb],59⟩,⟨x3_g6,#[.int .u64 qa,.int .u64 ra],59⟩]) hS9 (by simp)
  rw [← hS9z] at hC9
  refine wpAny_inv (fun l act w' => ∃ σ,Ncmgt4I w E F a b qa ra qb rb x y w1 x3_g6 x3_g7 S9 l act w' σ) ?_ ?_ _ _ _ _ ?_ ?_
  ·intro l act w' i9 hI9 hi9 hl9
   have hin9 : i9 < 6 := by
    by_cases h : i9 < 6
    ·exact h
    ·obtain ⟨⟨⟩,rfl,_⟩ := hI9
     rw [Array.getElem?_eq_none (by simp; omega)] at hl9; cases hl9
   have hcase : i9 = 0 ∨ i9 = 1 ∨ i9 = 2 ∨ i9 = 3 ∨ i9 = 4 ∨ i9 = 5 := by omega
   clear hin9
   obtain ⟨⟨b0,b1,b2,b3,b4,b5,v0,v1,v2,v3,v4,v5,bs9,os9⟩,rfl,rfl,hR⟩ := hI9
   rcases hcase with rfl | rfl | rfl | rfl | rfl | rfl
   ·obtain rfl : b0 = false := by simpa using hl9
    clear hl9
    clear hi9
    have hc := hR.hc
    have c9_0 := hc.st.cellAt (hc.old ⟨x3_g6,#[.int .u64 qa,.int .u64 ra],59⟩ (by simp)).1 0 (.int .u64 qa) rfl
    have c9_1 := hc.st.cellAt (hc.old ⟨x3_g6,#[.int .u64 qa,.int .u64 ra],59⟩ (by simp)).1 1 (.int .u64 ra) rfl
    simp only [] at c9_0 c9_1
    refine wpOp_step rfl (fun K hK => ?_)
    go_simp
    exact hK _ _ ⟨⟨_,_,_,_,_,_,_,_,_,_,_,_,_,_⟩,rfl,rfl,{ hR with hc := hc,f0 := (fun _ => rfl) }⟩
   ·obtain rfl : b1 = false := by simpa using hl9
    clear hl9
    obtain ⟨o9,ho9,hd9⟩ := (mem_ready.1 hi9).2
    cases ho9
    have e0 : b0 = true := hd9 ⟨0,.data⟩ (by simp) rfl
    clear hd9
    subst e0
    clear hi9
    have h9 := hR.f0 rfl
    subst h9
    have hc := hR.hc
    have HR := hide hR
    clear hR
    refine wpOp_step rfl (fun K hK => ?_)
    go_simp
    go_wp2_with fail
    refine (HX _).mono ?_
    rintro en w9 ⟨rfl,hb9⟩
    have hR := unhide HR
    exact hK _ _ ⟨⟨_,_,_,_,_,_,_,_,_,_,_,_,_,_⟩,rfl,rfl,{ hR with hc := (hc.call (hc.st.kept hb9) hb9.size (fun y hy => hy)),f1 := (fun _ => rfl) }⟩
   ·obtain rfl : b2 = false := by simpa using hl9
    clear hl9
    clear hi9
    have hc := hR.hc
    have c9_0 := hc.st.cellAt (hc.old ⟨x3_g7,#[.int .u64 qb,.int .u64 rb],59⟩ (by simp)).1 0 (.int .u64 qb) rfl
    have c9_1 := hc.st.cellAt (hc.old ⟨x3_g7,#[.int .u64 qb,.int .u64 rb],59⟩ (by simp)).1 1 (.int .u64 rb) rfl
    simp only [] at c9_0 c9_1
    refine wpOp_step rfl (fun K hK => ?_)
    go_simp
    exact hK _ _ ⟨⟨_,_,_,_,_,_,_,_,_,_,_,_,_,_⟩,rfl,rfl,{ hR with hc := hc,f2 := (fun _ => rfl) }⟩
   ·obtain rfl : b3 = false := by simpa using hl9
    clear hl9
    obtain ⟨o9,ho9,hd9⟩ := (mem_ready.1 hi9).2
    cases ho9
    have e2 : b2 = true := hd9 ⟨2,.data⟩ (by simp) rfl
    clear hd9
    subst e2
    clear hi9
    have h9 := hR.f2 rfl
    subst h9
    have hc := hR.hc
    have HR := hide hR
    clear hR
    refine wpOp_step rfl (fun K hK => ?_)
    go_simp
    go_wp2_with fail
    refine (HY _).mono ?_
    rintro en w9 ⟨rfl,hb9⟩
    have hR := unhide HR
    exact hK _ _ ⟨⟨_,_,_,_,_,_,_,_,_,_,_,_,_,_⟩,rfl,rfl,{ hR with hc := (hc.call (hc.st.kept hb9) hb9.size (fun y hy => hy)),f3 := (fun _ => rfl) }⟩
   ·obtain rfl : b4 = false := by simpa using hl9
    clear hl9
    obtain ⟨o9,ho9,hd9⟩ := (mem_ready.1 hi9).2
    cases ho9
    have e1 : b1 = true := hd9 ⟨1,.data⟩ (by simp) rfl
    have e3 : b3 = true := hd9 ⟨3,.data⟩ (by simp) rfl
    clear hd9
    subst e1 e3
    clear hi9
    have h9 := hR.f1 rfl
    subst h9
    have h9 := hR.f3 rfl
    subst h9
    have hc := hR.hc
    refine wpOp_step rfl (fun K hK => ?_)
    go_simp
    exact hK _ _ ⟨⟨_,_,_,_,_,_,_,_,_,_,_,_,_,_⟩,rfl,rfl,{ hR with hc := hc,f4 := (fun _ => by first | rfl | simp [h]) }⟩
   ·obtain rfl : b5 = false := by simpa using hl9
    clear hl9
    obtain ⟨o9,ho9,hd9⟩ := (mem_ready.1 hi9).2
    cases ho9
    have e4 : b4 = true := hd9 ⟨4,.data⟩ (by simp) rfl
    clear hd9
    subst e4
    clear hi9
    have h9 := hR.f4 rfl
    subst h9
    have hc := hR.hc
    refine wpOp_step rfl (fun K hK => ?_)
    go_simp
    exact hK _ _ ⟨⟨_,_,_,_,_,_,_,_,_,_,_,_,_,_⟩,rfl,rfl,{ hR with hc := hc,f5 := (fun _ => rfl) }⟩
  ·rintro l act Wq4 ⟨⟨b0,b1,b2,b3,b4,b5,v0,v1,v2,v3,v4,v5,bs9,os9⟩,rfl,rfl,hR⟩ hr9
   obtain ⟨hc,f0,f1,f2,f3,f4,f5⟩ := hR
   have eall := all_done hr9 (by kernel_rfl) rfl
   obtain rfl : b0 = true := eall 0 (by decide)
   obtain rfl : b1 = true := eall 1 (by decide)
   obtain rfl : b2 = true := eall 2 (by decide)
   obtain rfl : b3 = true := eall 3 (by decide)
   obtain rfl : b4 = true := eall 4 (by decide)
   obtain rfl : b5 = true := eall 5 (by decide)
   clear hr9 eall
   have h9 := f0 rfl
   subst h9
   have h9 := f1 rfl
   subst h9
   have h9 := f2 rfl
   subst h9
   have h9 := f3 rfl
   subst h9
   have h9 := f4 rfl
   subst h9
   have h9 := f5 rfl
   subst h9
   have hbs9 : ∀ x,x ∈ ([⟨x3_g7,#[.int .u64 qb,.int .u64 rb],59⟩,⟨x3_g6,#[.int .u64 qa,.int .u64 ra],59⟩] : List En) → x ∈ bs9 := by
    intro x hx
    rcases List.mem_cons.1 hx with rfl | hx
    ·exact (hc.old _ (by simp)).1
    rcases List.mem_cons.1 hx with rfl | hx
    ·exact (hc.old _ (by simp)).1
    exact absurd hx List.not_mem_nil
   have hos9 : ∀ x,x ∈ ([] : Os) → x ∈ os9 := by
    intro x hx
    exact absurd hx List.not_mem_nil
   have hS := hc.st.sub hbs9 (fun x hx => hx) hos9
   have hsz9 := hc.sz
   rw [hS9z,hsW9] at hsz9
   clear hbs9 hos9 hc f0 f1 f2 f3 f4 f5
   have hz4 := hsz9
   clear hsz9 hS9z hS9 hC9 hsW9
   go_wp2
   go_ret3
   exact ⟨rfl,hS.fr⟩
  ·simp
  ·exact ⟨⟨false,false,false,false,false,false,undef,undef,undef,undef,undef,undef,_,_⟩,rfl,rfl,⟨hC9,nb,nb,nb,nb,nb,nb⟩⟩
 ·simp
 ·exact ⟨⟨false,false,false,false,false,false,false,false,false,false,undef,undef,undef,undef,undef,undef,undef,undef,_,_⟩,rfl,rfl,⟨hC9,nb,nb,nb,nb,nb,nb,nb,nb,nb,nb,nb,nb,nb,nb,nb⟩⟩
end Go.Proofs.YtdfmanglfdeooaaGreatDoor
namespace Go.Proofs.YtdfmanglfdeooaaGreatDoor
open Go.RowKit
theorem W_ofd {w0 W : World} {k : Option (Nat × Int)} {bs : List En} {ms : Ms} {os : Os} (hS : Rs w0 W k bs ms os) {f : Nat} {vs : Array Value} {M : Nat} {T : Option Addr → Nat → Nat → Value}
  (h : Calls Tryz.prog f vs W fun en W' => (∃ a n c,en = .returned (T a n c) ∧ Mine W' w0.heap.size a n c M) ∧ Below W.heap.size W W') :
  Calls Tryz.prog f vs W (fun en W' => ∃ a n c,en = .returned (T a n c) ∧ Rs w0 W' k bs ms ((a,n,c,M) :: os) ∧ W.heap.size ≤ W'.heap.size) := by
 refine h.mono ?_
 rintro en W' ⟨⟨a,n,c,rfl,hm⟩,hb⟩
 exact ⟨a,n,c,rfl,(hS.kept hb).own hm (Nat.le_refl _),hb.size⟩
end Go.Proofs.YtdfmanglfdeooaaGreatDoor
