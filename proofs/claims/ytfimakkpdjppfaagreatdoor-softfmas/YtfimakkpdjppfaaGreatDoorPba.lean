/- Of what SoftFmasRow stands on: Pick. -/
import Derived.Test.YtfimakkpdjppfaaGreatDoorPab
namespace Go.Proofs.YtfimakkpdjppfaaGreatDoor
open Go.RowKit
structure Pk where
 A:Option Addr
 N:Nat
 C:Nat
abbrev Pks:=Nat→Pk
def Pks.set (p:Pks) (c:Nat) (q:Pk):Pks:=fun i=>if i = c then q else p i
def downB (ops:Array Oper) (c:Nat):Nat→Nat→Bool
 | 0,_=>false
 | f+1,k=>match ops[k]? with
  | some o=>o.after.any fun e=>Region.binds .any e && (e.on == c || downB ops c f e.on)
  | none=>false
theorem Det.step {ops:Array Oper} {ds:Puts} {T0:Array Value} {l:Array Bool} {t:Array Value} {i:Nat} (hD:Det ops ds T0 l t) (ha:Puts.apart ds = true) (hw:Puts.within ds T0.size = true) (hi:i∈Region.ready .any ops l) (hl:l[i]? = some false) :
  Det ops ds T0 (l.setIfInBounds i true) (putD (ds[i]?.getD none) t):=by
 obtain ⟨hlt,-⟩:=Array.getElem?_eq_some_iff.1 hl
 have hset:∀ k,(l.setIfInBounds i true)[k]? = some true↔(k = i∨l[k]? = some true):=by
  intro k
  by_cases hk:k = i
  ·subst hk; simp [hlt]
  ·rw [Array.getElem?_setIfInBounds_ne (Ne.symm hk)]; simp [hk]
 constructor
 ·rw [Array.size_setIfInBounds]; exact hD.len
 ·rw [← hD.size]
  cases hd:ds[i]?.getD none with
  | none=>rfl
  | some d=>obtain ⟨s,v⟩:=d; simp [putD]
 ·intro k s v hk hlk
  rcases (hset k).1 hlk with rfl|hlk9
  ·rw [hk]
   have hs:s < t.size:=by rw [hD.size]; simpa using List.all_eq_true.1 hw _ (List.mem_of_getElem? hk)
   simp [putD,hs]
  ·cases hd:ds[i]?.getD none with
   | none=>exact hD.on k s v hk hlk9
   | some d=>
    obtain ⟨s',v'⟩:=d
    have hd':ds[i]? = some (some (s',v')):=by
     cases hx:ds[i]? with
     | none=>rw [hx] at hd; simp at hd
     | some y=>rw [hx] at hd; simp at hd; rw [hd]
    have hne:s'≠s:=by
     intro e; subst e
     obtain rfl:=Puts.one ha hk hd'
     rw [hl] at hlk9; cases hlk9
    rw [putD,Array.getElem?_setIfInBounds_ne hne]
    exact hD.on k s v hk hlk9
 ·intro s hs
  cases hd:ds[i]?.getD none with
  | none=>exact hD.off s (fun k v hk hlk=>hs k v hk ((hset k).2 (Or.inr hlk)))
  | some d=>
   obtain ⟨s',v'⟩:=d
   have hd':ds[i]? = some (some (s',v')):=by
    cases hx:ds[i]? with
    | none=>rw [hx] at hd; simp at hd
    | some y=>rw [hx] at hd; simp at hd; rw [hd]
   have hne:s'≠s:=by
    intro e; subst e
    exact hs i v' hd' ((hset i).2 (Or.inl rfl))
   rw [putD,Array.getElem?_setIfInBounds_ne hne]
   exact hD.off s (fun k v hk hlk=>hs k v hk ((hset k).2 (Or.inr hlk)))
 ·intro k o hlk ho e he hbe
  rcases (hset k).1 hlk with rfl|hlk
  ·obtain ⟨o',ho',hd'⟩:=(mem_ready.1 hi).2
   rw [ho] at ho'
   cases ho'
   exact true_getD ((hset _).2 (Or.inr (getD_true (hd' e he hbe))))
  ·exact true_getD ((hset _).2 (Or.inr (getD_true (hD.shut k o hlk ho e he hbe))))
theorem Det.turn {ops:Array Oper} {ds ds':Puts} {T0:Array Value} {l:Array Bool} {t:Array Value} (hD:Det ops ds T0 l t) (h:∀ k:Nat,l[k]? = some true→ds'[k]? = ds[k]?):Det ops ds' T0 l t:=
 ⟨hD.len,hD.size,fun k s v hk hl=>hD.on k s v (by rw [← h k hl]; exact hk) hl,fun s hs=>hD.off s (fun k v hk hl=>hs k v (by rw [h k hl]; exact hk) hl),hD.shut⟩
theorem Det.down {ops:Array Oper} {ds:Puts} {T0:Array Value} {l:Array Bool} {t:Array Value} (hD:Det ops ds T0 l t) {c:Nat} (hc:l[c]? = some false):∀ (f k:Nat),downB ops c f k = true→l[k]?≠some true
 | 0,_,h=>by simp [downB] at h
 | f+1,k,h=>by
  intro hl
  unfold downB at h
  cases ho:ops[k]? with
  | none=>rw [ho] at h; simp at h
  | some o=>
   rw [ho] at h
   simp only [Array.any_eq_true',Bool.and_eq_true,Bool.or_eq_true,beq_iff_eq] at h
   obtain ⟨e,he,hb,h⟩:=h
   have h1:=getD_true (hD.shut k o hl ho e he hb)
   rcases h with h|h
   ·rw [h,hc] at h1; cases h1
   ·exact Det.down hD hc f e.on h h1
theorem Det.agree {ops:Array Oper} {ds ds':Puts} {T0:Array Value} {l:Array Bool} {t:Array Value} (hD:Det ops ds T0 l t) {c:Nat} (hc:l[c]? = some false) (h:∀ k:Nat,k≠c→downB ops c ops.size k = false→ds'[k]? = ds[k]?):∀ k:Nat,l[k]? = some true→ds'[k]? = ds[k]?:=fun k hk=>by
 refine h k (fun e=>by rw [e,hc] at hk; cases hk) ?_
 cases hd:downB ops c ops.size k with
 | false=>rfl
 | true=>exact absurd hk (hD.down hc _ k hd)
theorem wpAny_pick {P:Program} {ops:Array Oper} {Q:Exit→Act→World→Prop} (D:Pks→Puts) (M:Pks→Array Bool→World→Prop) (T0:Array Value) (w0:World)
  (ha:∀ p,Puts.apart (D p) = true) (hb:backB ops = true) (hlen:∀ p,(D p).length = ops.size) (hw:∀ p,Puts.within (D p) T0.size = true)
  (hstep:∀ p l t w i,Det ops (D p) T0 l t→i∈Region.ready .any ops l→l[i]? = some false→M p l w →
   wpOp P ops Q i (fun a w'=>∃ p',(∀ k:Nat,l[k]? = some true→(D p')[k]? = (D p)[k]?)∧a = ⟨putD ((D p')[i]?.getD none) t,[]⟩∧M p' (l.setIfInBounds i true) w') ⟨t,[]⟩ w)
  (hdone:∀ p l w,l.size = ops.size→(∀ i,i < ops.size→l[i]? = some true)→M p l w→Q .normal ⟨Puts.lay (D p) T0,[]⟩ w)
  (p0:Pks) (hM:M p0 (Array.replicate ops.size false) w0):wpAny P .any ops Q ops.size (Array.replicate ops.size false) ⟨T0,[]⟩ w0:=by
 refine wpAny_inv (fun l a w=>∃ p t,a = ⟨t,[]⟩∧Det ops (D p) T0 l t∧M p l w) ?_ ?_ _ _ _ _ ?_ ⟨p0,T0,rfl,?_,hM⟩
 ·rintro l a w i ⟨p,t,rfl,hD,hm⟩ hi hl
  refine wpOp_mono ?_ (hstep p l t w i hD hi hl hm)
  rintro a' w' ⟨p',hag,rfl,hm'⟩
  exact ⟨p',_,rfl,(hD.turn hag).step (ha p') (hw p') hi hl,hm'⟩
 ·rintro l a w ⟨p,t,rfl,hD,hm⟩ hr
  have hl:=all_up hD.len hb hr
  rw [hD.done (ha p) (hlen p) (hw p) hl]
  exact hdone p l w hD.len hl hm
 ·simp
 ·constructor
  ·simp
  ·rfl
  ·intro k s v _ h
   rw [Array.getElem?_replicate] at h
   split at h <;> cases h
  ·intro s _; rfl
  ·intro k o h
   rw [Array.getElem?_replicate] at h
   split at h <;> cases h
structure St (base:Nat) (f:World→Prop):Prop where
 kept:∀ W W',Below W.heap.size W W'→f W→f W'
 set:∀ W p u,p.block < base→f W→f (W.setCell p u)
structure Pm (w0:World) (base:Nat) (fs:List (Nat×(Pk→World→Prop))) (p:Pks) (l:Array Bool) (W:World) (bs:List En):Prop where
 st:Fs w0 W bs
 bw:base≤W.heap.size
 fx:∀ x,x∈fs→(l[x.1]? = some true∨l.size≤x.1)→x.2 (p x.1) W
theorem Pm.start {w0 W:World} {bs:List En} (h:Fs w0 W bs) (fs:List (Nat×(Pk→World→Prop))) (p:Pks) (n:Nat) (hs:∀ x,x∈fs→∀ q,St W.heap.size (x.2 q)) (h0:∀ x,x∈fs→n≤x.1→x.2 (p x.1) W):Pm w0 W.heap.size fs p (Array.replicate n false) W.drew bs:=
 ⟨h.drew,Nat.le_refl _,fun x hx hl=>by
  rcases hl with hl|hl
  ·rw [Array.getElem?_replicate] at hl; split at hl <;> cases hl
  ·rw [Array.size_replicate] at hl
   exact (hs x hx _).kept _ _ (Below.refl _ _).drew (h0 x hx hl)⟩
theorem Pm.start2 {w0 W:World} {bs:List En} {base:Nat} (h:Fs w0 W bs) (fs:List (Nat×(Pk→World→Prop))) (p:Pks) (n:Nat) (hbase:base≤W.heap.size) (hs:∀ x,x∈fs→∀ q,St base (x.2 q)) (h0:∀ x,x∈fs→n≤x.1→x.2 (p x.1) W):Pm w0 base fs p (Array.replicate n false) W.drew bs:=
 ⟨h.drew,hbase,fun x hx hl=>by
  rcases hl with hl|hl
  ·rw [Array.getElem?_replicate] at hl; split at hl <;> cases hl
  ·rw [Array.size_replicate] at hl
   exact (hs x hx _).kept _ _ (Below.refl _ _).drew (h0 x hx hl)⟩
theorem Pm.val {w0 W:World} {base:Nat} {fs:List (Nat×(Pk→World→Prop))} {p:Pks} {l:Array Bool} {bs:List En} {i:Nat} (h:Pm w0 base fs p l W bs) (hi:(fs.map Prod.fst).all (fun x=>x != i) = true):Pm w0 base fs p (l.setIfInBounds i true) W bs:=
 ⟨h.st,h.bw,fun x hx hl=>h.fx x hx (by
  have:=List.all_eq_true.1 hi x.1 (List.mem_map_of_mem hx)
  rw [Array.getElem?_setIfInBounds_ne (by intro e; subst e; simp at this),Array.size_setIfInBounds] at hl
  exact hl)⟩
theorem Pm.kept {w0 W W':World} {base:Nat} {fs:List (Nat×(Pk→World→Prop))} {p:Pks} {l:Array Bool} {bs:List En} (h:Pm w0 base fs p l W bs) (hs:∀ x,x∈fs→∀ q,St base (x.2 q)) (hb:Below W.heap.size W W'):Pm w0 base fs p l W' bs:=
 ⟨h.st.kept hb,Nat.le_trans h.bw hb.size,fun x hx hl=>(hs x hx _).kept W W' hb (h.fx x hx hl)⟩
theorem Pm.pick {w0 W:World} {base:Nat} {fs:List (Nat×(Pk→World→Prop))} {p:Pks} {l:Array Bool} {bs:List En} {c:Nat} (h:Pm w0 base fs p l W bs) (q:Pk) (hq:∀ x,x∈fs→x.1 = c→x.2 q W):Pm w0 base fs (p.set c q) (l.setIfInBounds c true) W bs:=
 ⟨h.st,h.bw,fun x hx hl=>by
  by_cases e:x.1 = c
  ·have:=hq x hx e
   rw [e]; simpa [Pks.set] using this
  ·rw [Array.getElem?_setIfInBounds_ne (Ne.symm e),Array.size_setIfInBounds] at hl
   have:=h.fx x hx hl
   simpa [Pks.set,e] using this⟩
theorem Pm.put {w0 W:World} {base:Nat} {fs:List (Nat×(Pk→World→Prop))} {p:Pks} {l:Array Bool} {bs bs':List En} (h:Pm w0 base fs p l W bs) (hs:∀ x,x∈fs→∀ q,St base (x.2 q)) (a:Addr) (u:Value) (ha:a.block < base) (h':Fs w0 (W.setCell a u) bs'):Pm w0 base fs p l (W.setCell a u) bs':=
 ⟨h',by have:=h.bw; simpa [World.setCell] using this,fun x hx hl=>(hs x hx _).set W a u ha (h.fx x hx hl)⟩
theorem Pm.into {w0 W:World} {base:Nat} {fs:List (Nat×(Pk→World→Prop))} {p:Pks} {l:Array Bool} {bs bs':List En} (h:Pm w0 base fs p l W bs) (e:bs = bs'):Pm w0 base fs p l W bs':=e▸h
theorem Pm.keepM {w0 W:World} {base:Nat} {fs:List (Nat×(Pk→World→Prop))} {p':Pks} {l:Array Bool} {i:Nat} {sts:List (Nat×List En)} {b:List En} (hi:(sts.map Prod.fst).all (fun x=>x != i) = true) (h:Pm w0 base fs p' (l.setIfInBounds i true) W (pickBs l sts b)):Pm w0 base fs p' (l.setIfInBounds i true) W (pickBs (l.setIfInBounds i true) sts b):=
 h.into (by
  rw [pickBs_set]
  rw [List.all_map] at hi
  exact hi)
theorem Pm.putM {w0 W:World} {base:Nat} {fs:List (Nat×(Pk→World→Prop))} {p:Pks} {l:Array Bool} {i:Nat} {sts:List (Nat×List En)} {b b':List En} (hl:l[i]? = some false) (h:Pm w0 base fs p (l.setIfInBounds i true) W b'):Pm w0 base fs p (l.setIfInBounds i true) W (pickBs (l.setIfInBounds i true) ((i,b') :: sts) b):=
 h.into (pickBs_at hl).symm
def PutOk (f:World→Prop):Prop:=∀ (W:World) (b:Nat) (cs:Array Value) (t:TypeId) (j:Nat) (u:Value),W.heap[b]? = some (.cells cs t (0,0))→t≠119→f W→f (W.setCell ⟨b,j,none⟩ u)
def Va (n:Nat) (t:TypeId) (base b:Nat) (W:World):Prop:=base≤b∧∃ cs:Array Value,cs.size = n∧W.heap[b]? = some (.cells cs t (0,0))
theorem st_zero {f:World→Prop} (h:∀ W W',Below W.heap.size W W'→f W→f W'):St 0 f:=⟨h,fun _ _ _ hp=>absurd hp (Nat.not_lt_zero _)⟩
theorem Va.made (W:World) (cs:Array Value) (t:TypeId) (base:Nat) (hb:base≤W.heap.size):Va cs.size t base W.heap.size (W.alloc (.cells cs t)):=⟨hb,cs,rfl,heap_alloc_new W _⟩
theorem Pm.putO {w0 W:World} {base:Nat} {fs:List (Nat×(Pk→World→Prop))} {p:Pks} {l:Array Bool} {bs bs':List En} (h:Pm w0 base fs p l W bs) (hv:∀ x,x∈fs→∀ q,PutOk (x.2 q)) {b:Nat} {cs:Array Value} {t:TypeId} (hh:W.heap[b]? = some (.cells cs t (0,0))) (ht:t≠119) (j:Nat) (u:Value) (h':Fs w0 (W.setCell ⟨b,j,none⟩ u) bs'):Pm w0 base fs p l (W.setCell ⟨b,j,none⟩ u) bs':=
 ⟨h',by have:=h.bw; simpa [World.setCell] using this,fun x hx hl=>hv x hx _ W b cs t j u hh ht (h.fx x hx hl)⟩
end Go.Proofs.YtfimakkpdjppfaaGreatDoor
