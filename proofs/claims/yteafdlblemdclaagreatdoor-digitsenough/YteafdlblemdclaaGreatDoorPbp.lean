/- Of what DigitsEnoughRow stands on: CloA CloB CloP CloQ. -/
import Derived.Test.YteafdlblemdclaaGreatDoorPaa
import Derived.Below
import Derived.LoopN
import Derived.Scope
import Derived.Laws.AppendOwn
namespace Go.Proofs.YteafdlblemdclaaGreatDoor
open Go.RowKit
inductive Or where
 | ix (k:Nat)
 | reg (n:Nat) (l:List (Nat×List (Nat×Bool)×List Or))
 | ap (c j x m:Nat)
 | sl (j c:Nat)
structure Hp where
 own:List (Option Obj)
 gl:List (Nat×Obj)
structure CSt where
 H:Hp
 n:Nat
 tr:List Or
 em:List (Nat×Nat×Bool)
abbrev CPk:=Nat→Nat×List Value
def nth {α:Type}:List α→Nat→Option α
 | [],_=>none
 | x :: _,0=>some x
 | _ :: r,k+1=>nth r k
theorem nth_eq {α:Type}:∀ (l:List α) (k:Nat),nth l k = l[k]?
 | [],_=>by simp [nth]
 | _ :: _,0=>rfl
 | _ :: r,k+1=>by simp [nth,nth_eq r k]
def setF {α β:Type}:List α→Nat→α→(List α→β)→β
 | [],_,_,k=>k []
 | _ :: r,0,v,k=>k (v :: r)
 | x :: r,i+1,v,k=>setF r i v fun r'=>k (x :: r')
theorem setF_eq {α β:Type}:∀ (l:List α) (i:Nat) (v:α) (k:List α→β),setF l i v k = k (l.set i v)
 | [],_,_,_=>rfl
 | _ :: _,0,_,_=>rfl
 | x :: r,i+1,v,k=>by simp [setF,setF_eq r i v]
def layL {α:Type} (d:α):List α→Nat→α→List α
 | [],0,v=>[v]
 | [],i+1,v=>d :: layL d [] i v
 | _ :: r,0,v=>v :: r
 | x :: r,i+1,v=>x :: layL d r i v
def layF {α β:Type} (d:α):List α→Nat→α→(List α→β)→β
 | [],0,v,k=>k [v]
 | [],i+1,v,k=>layF d [] i v fun r=>k (d :: r)
 | _ :: r,0,v,k=>k (v :: r)
 | x :: r,i+1,v,k=>layF d r i v fun r'=>k (x :: r')
theorem layF_eq {α β:Type} (d:α):∀ (l:List α) (i:Nat) (v:α) (k:List α→β),layF d l i v k = k (layL d l i v)
 | [],0,_,_=>rfl
 | [],i+1,v,k=>by simp [layF,layL,layF_eq d [] i v]
 | _ :: _,0,_,_=>rfl
 | x :: r,i+1,v,k=>by simp [layF,layL,layF_eq d r i v]
def lookL (H:List (Option Obj)) (k:Nat):Option Obj:=match nth H k with
 | some (some o)=>some o
 | _=>none
theorem lookL_set {H:List (Option Obj)} {j:Nat} {o:Obj} (v:Option Obj) (h:lookL H j = some o) (k:Nat):lookL (H.set j v) k = if k = j then v else lookL H k:=by
 unfold lookL at h ⊢
 rw [nth_eq] at h
 have hj:j < H.length:=by
  cases hx:H[j]? with
  | none=>rw [hx] at h; cases h
  | some y=>exact (List.getElem?_eq_some_iff.1 hx).1
 rw [nth_eq,nth_eq,List.getElem?_set]
 by_cases e:k = j
 ·subst e
  simp only [if_true,hj]
  cases v <;> rfl
 ·rw [if_neg (fun h=>e h.symm),if_neg e]
theorem lookL_lay:∀ (H:List (Option Obj)) (j:Nat) (v:Option Obj) (k:Nat),lookL (layL none H j v) k = if k = j then v else lookL H k
 | [],0,v,0=>by cases v <;> rfl
 | [],0,v,k+1=>rfl
 | [],j+1,v,0=>rfl
 | [],j+1,v,k+1=>by
  have:=lookL_lay [] j v k
  simp only [lookL,layL,nth,Nat.add_right_cancel_iff] at this ⊢
  exact this
 | _ :: r,0,v,0=>by cases v <;> rfl
 | _ :: r,0,v,k+1=>rfl
 | x :: r,j+1,v,0=>rfl
 | x :: r,j+1,v,k+1=>by
  have:=lookL_lay r j v k
  simp only [lookL,layL,nth,Nat.add_right_cancel_iff] at this ⊢
  exact this
def lookG:List (Nat×Obj)→Nat→Option Obj
 | [],_=>none
 | (g,o) :: r,k=>match Nat.beq g k with
  | true=>some o
  | false=>lookG r k
def lookH (H:Hp) (k:Nat):Option Obj:=match Nat.ble 4294967296 k,H with
 | true,⟨_,gl⟩=>match Nat.ble 8589934592 k with
  | true=>none
  | false=>lookG gl (k - 4294967296)
 | false,⟨own,_⟩=>lookL own k
def Hp.set (H:Hp) (j:Nat) (v:Option Obj):Hp:=⟨H.own.set j v,H.gl⟩
def Hp.lay (H:Hp) (j:Nat) (v:Option Obj):Hp:=⟨layL none H.own j v,H.gl⟩
theorem ble_no {k:Nat} (h:k < 4294967296):Nat.ble 4294967296 k = false:=by
 cases hb:Nat.ble 4294967296 k with
 | false=>rfl
 | true=>rw [Nat.ble_eq] at hb; omega
theorem ble_yes {k:Nat} (h:4294967296≤k):Nat.ble 4294967296 k = true:=by rw [Nat.ble_eq]; exact h
theorem look_set {H:Hp} {j:Nat} {o:Obj} (v:Option Obj) (hj:j < 4294967296) (h:lookH H j = some o) (k:Nat):lookH (H.set j v) k = if k = j then v else lookH H k:=by
 unfold lookH at h
 rw [ble_no hj] at h
 by_cases hk:k < 4294967296
 ·unfold lookH
  rw [ble_no hk]
  exact lookL_set v h k
 ·rw [if_neg (by omega)]
  unfold lookH
  rw [ble_yes (by omega)]
  rfl
theorem look_lay (H:Hp) (j:Nat) (hj:j < 4294967296) (v:Option Obj) (k:Nat):lookH (H.lay j v) k = if k = j then v else lookH H k:=by
 by_cases hk:k < 4294967296
 ·unfold lookH
  rw [ble_no hk]
  exact lookL_lay H.own j v k
 ·rw [if_neg (by omega)]
  unfold lookH
  rw [ble_yes (by omega)]
  rfl
def lenL {α:Type}:List α→Nat
 | []=>0
 | _ :: r=>Nat.succ (lenL r)
theorem lenL_eq {α:Type}:∀ l:List α,lenL l = l.length
 | []=>rfl
 | _ :: r=>by simp [lenL,lenL_eq r]
def loc (pk:CPk) (j:Nat):Nat:=match Nat.ble 4294967296 j with
 | true=>match Nat.ble 8589934592 j with
  | true=>Nat.add (lenL (pk ((j - 8589934592) / 1048576)).2) ((j - 8589934592) % 1048576)
  | false=>j - 4294967296
 | false=>(pk j).1
theorem ble_far {k:Nat} (h:k < 8589934592):Nat.ble 8589934592 k = false:=by
 cases hb:Nat.ble 8589934592 k with
 | false=>rfl
 | true=>rw [Nat.ble_eq] at hb; omega
theorem loc_own {pk:CPk} {j:Nat} (h:j < 4294967296):loc pk j = (pk j).1:=by
 unfold loc
 cases hb:Nat.ble 4294967296 j with
 | true=>rw [Nat.ble_eq] at hb; omega
 | false=>rfl
theorem loc_glob {pk:CPk} {j:Nat} (h:4294967296≤j) (h2:j < 8589934592):loc pk j = j - 4294967296:=by
 unfold loc
 rw [show Nat.ble 4294967296 j = true from by rw [Nat.ble_eq]; exact h,ble_far h2]
theorem look_far {H:Hp} {k:Nat} {o:Obj} (h:lookH H k = some o):k < 8589934592:=by
 by_cases hk:k < 8589934592
 ·exact hk
 ·unfold lookH at h
  rw [show Nat.ble 4294967296 k = true from by rw [Nat.ble_eq]; omega,show Nat.ble 8589934592 k = true from by rw [Nat.ble_eq]; omega] at h
  cases h
def andO {α β:Type} (m:Option (α×CSt)) (f:α→CSt→Option (β×CSt)):Option (β×CSt):=match m with
 | some (x,s)=>f x s
 | none=>none
def rdP {α:Type} (g:Bool) (b:Nat) (f:Obj→Option α) (_:CPk):CSt→Option (α×CSt)
 | ⟨H,n,.ix j :: tr,em⟩=>match g || Nat.blt j 4294967296 with
  | true=>match lookH H j with
   | some o=>match f o with
    | some x=>some (x,⟨H,n,tr,(b,j,false) :: em⟩)
    | none=>none
   | none=>none
  | false=>none
 | _=>none
def wrP (b:Nat) (f:Obj→Option Obj) (_:CPk):CSt→Option (Unit×CSt)
 | ⟨⟨H,gl⟩,n,.ix j :: tr,em⟩=>match Nat.blt j 4294967296 with
  | false=>none
  | true=>match lookH ⟨H,gl⟩ j with
   | some o=>match f o with
    | some o'=>setF H j (some o') fun H=>some ((),⟨⟨H,gl⟩,n,tr,(b,j,true) :: em⟩)
    | none=>none
   | none=>none
 | _=>none
def nwP (o:Option Obj) (pk:CPk):CSt→Option (Nat×CSt)
 | ⟨⟨H,gl⟩,n,tr,em⟩=>match Nat.blt n 4294967296 with
  | true=>layF none H n o fun H=>some ((pk n).1,⟨⟨H,gl⟩,Nat.succ n,tr,em⟩)
  | false=>none
def ldO (a:Addr):Obj→Option Value
 | .cells cs _ _=>match a.spot with
  | none=>nth cs.toList a.off
  | some _=>none
 | _=>none
def frz (f:Nat×Nat) (off:Nat):Bool:=Nat.ble f.1 off && Nat.blt off f.2
def stO (a:Addr) (v:Value):Obj→Option Obj
 | .cells cs t f=>match a.spot with
  | none=>match nth cs.toList a.off with
   | some _=>match v.oneCell' && !frz f a.off with
    | true=>setF cs.toList a.off v fun l=>some (.cells l.toArray t f)
    | false=>none
   | none=>none
  | some _=>none
 | _=>none
def fzO (a:Addr) (n:Nat):Obj→Option Obj
 | .cells c e (lo,hi)=>some (.cells c e (if lo == hi then (a.off,a.off+n) else (min lo a.off,max hi (a.off+n))))
 | _=>none
def shO:Obj→Option (Option (TypeId×Nat))
 | .cells c e _=>some (some (e,c.size))
 | _=>none
def frO (off:Nat):Obj→Option Bool
 | .cells _ _ f=>some (frz f off)
 | _=>none
def goO:Obj→Option Obj
 | .stringIter t p=>some (.stringIter t p)
 | _=>none
def soO (o:Obj):Obj→Option Obj
 | .stringIter _ _=>some o
 | _=>none
def sev {α:Type} (P:Program) (pk:CPk) (ro:Bool):Sem α→CSt→Option (α×CSt)
 | .pure a,s=>some (a,s)
 | .load _ a k,s=>andO (rdP true a.block (ldO a) pk s) fun v s=>sev P pk ro (k v) s
 | .store _ a v k,s=>match ro with
  | true=>none
  | false=>andO (wrP a.block (stO a v) pk s) fun _ s=>sev P pk false k s
 | .new o k,s=>match ro with
  | true=>none
  | false=>andO (nwP (some o) pk s) fun r s=>sev P pk false (k r) s
 | .shape r k,s=>andO (rdP false r shO pk s) fun x s=>sev P pk ro (k x) s
 | .frozen a k,s=>andO (rdP false a.block (frO a.off) pk s) fun x s=>sev P pk ro (k x) s
 | .getObj r k,s=>andO (rdP false r goO pk s) fun x s=>sev P pk ro (k x) s
 | .setObj r o k,s=>match ro with
  | true=>none
  | false=>andO (wrP r (soO o) pk s) fun _ s=>sev P pk false k s
 | .choose q k,s=>match q.forced with
  | true=>sev P pk ro (k 0) s
  | false=>match ro with
   | true=>none
   | false=>andO (nwP none pk s) fun t s=>sev P pk false (k (q.cut t)) s
 | .freeze a n k,s=>match ro with
  | true=>none
  | false=>match Nat.beq n 0 with
   | true=>sev P pk false k s
   | false=>andO (wrP a.block (fzO a n) pk s) fun _ s=>sev P pk false k s
 | .program k,s=>sev P pk ro (k P) s
 | .mark _ k,s=>sev P pk ro k s
 | _,_=>none
structure Tame {α:Type} (m:CPk→CSt→Option (α×CSt)):Prop where
 go:∀ (pk:CPk) (s:CSt) (x:α) (s':CSt),m pk s = some (x,s')→∃ d:List (Nat×Nat×Bool),s'.em = d ++ s.em∧s.n≤s'.n ∧
  (∀ k,(∀ b,(b,k,true) ∉ d)→(k < s.n∨s'.n≤k)→lookH s'.H k = lookH s.H k) ∧
  (∀ (pk':CPk) (G:Hp) (em:List (Nat×Nat×Bool)),(∀ i,s.n≤i→i < s'.n→pk' i = pk i∧lookH G i = lookH s.H i)→(∀ b k w,(b,k,w)∈d→lookH G k = lookH s.H k) →
   ∃ G',m pk' ⟨G,s.n,s.tr,em⟩ = some (x,⟨G',s'.n,s'.tr,d ++ em⟩)∧∀ k,((∃ b,(b,k,true)∈d)∨(s.n≤k∧k < s'.n))→lookH G' k = lookH s'.H k)
 same:∀ (pk:CPk) (s:CSt) (x:α) (s':CSt),m pk s = some (x,s')→∀ pk':CPk,(∀ i,s.n≤i→i < s'.n→pk' i = pk i)→m pk' s = some (x,s')
theorem Tame.pure {α:Type} (x:α):Tame fun _ s=>some (x,s):=⟨fun pk s y s' h=>by
 simp only [Option.some.injEq,Prod.mk.injEq] at h
 obtain ⟨rfl,rfl⟩:=h
 exact ⟨[],rfl,Nat.le_refl _,fun _ _ _=>rfl,fun pk' G em _ _=>⟨G,rfl,fun k h=>by rcases h with ⟨_,h⟩|h; cases h; omega⟩⟩,fun _ _ _ _ h _ _=>h⟩
theorem Tame.fail {α:Type}:Tame fun _ _=>(none:Option (α×CSt)):=⟨fun _ _ _ _ h=>(by cases h),fun _ _ _ _ h _ _=>h⟩
theorem Tame.bind {α β:Type} {m:CPk→CSt→Option (α×CSt)} {f:α→CPk→CSt→Option (β×CSt)} (hm:Tame m) (hf:∀ x,Tame (f x)):Tame fun pk s=>andO (m pk s) fun x s'=>f x pk s':=⟨fun pk s y s' h=>by
 cases h1:m pk s with
 | none=>simp only [h1,andO] at h; cases h
 | some z=>
  obtain ⟨x,s1⟩:=z
  simp only [h1,andO] at h
  obtain ⟨d1,e1,n1,f1,l1⟩:=hm.go pk s x s1 h1
  obtain ⟨d2,e2,n2,f2,l2⟩:=(hf x).go pk s1 y s' h
  refine ⟨d2 ++ d1,by rw [e2,e1,List.append_assoc],Nat.le_trans n1 n2,fun k hk ho=>?_,fun pk' G em hp hG=>?_⟩
  ·rw [f2 k (fun b hb=>hk b (List.mem_append_left _ hb)) (by omega),f1 k (fun b hb=>hk b (List.mem_append_right _ hb)) (by omega)]
  ·obtain ⟨G1,g1,w1⟩:=l1 pk' G em (fun i a b=>hp i a (by omega)) (fun b k w hb=>hG b k w (List.mem_append_right _ hb))
   have fG:∀ k,(∀ b,(b,k,true) ∉ d1)→(k < s.n∨s1.n≤k)→lookH G1 k = lookH G k:=by
    obtain ⟨d',ed,_,fr,_⟩:=hm.go pk' _ _ _ g1
    have:d' = d1:=by simpa using ed.symm
    subst this
    exact fr
   have hag:∀ k,lookH G k = lookH s.H k→lookH G1 k = lookH s1.H k:=fun k hk=>by
    by_cases hw:∃ b,(b,k,true)∈d1
    ·exact w1 k (Or.inl hw)
    ·by_cases hr:s.n≤k∧k < s1.n
     ·exact w1 k (Or.inr hr)
     ·rw [fG k (fun b hb=>hw ⟨b,hb⟩) (by omega),f1 k (fun b hb=>hw ⟨b,hb⟩) (by omega)]
      exact hk
   obtain ⟨G2,g2,w2⟩:=l2 pk' G1 (d1 ++ em) (fun i a b=>⟨(hp i (by omega) b).1,hag i (hp i (by omega) b).2⟩) (fun b k w hb=>hag k (hG b k w (List.mem_append_left _ hb)))
   have f2G:∀ k,(∀ b,(b,k,true) ∉ d2)→(k < s1.n∨s'.n≤k)→lookH G2 k = lookH G1 k:=by
    obtain ⟨d',ed,_,fr,_⟩:=(hf x).go pk' _ _ _ g2
    have:d' = d2:=by simpa using ed.symm
    subst this
    exact fr
   refine ⟨G2,by simp only [g1,g2,andO,List.append_assoc],fun k hk=>?_⟩
   by_cases hw:∃ b,(b,k,true)∈d2
   ·exact w2 k (Or.inl hw)
   ·by_cases hr:s1.n≤k∧k < s'.n
    ·exact w2 k (Or.inr hr)
    ·rw [f2G k (fun b hb=>hw ⟨b,hb⟩) (by omega),f2 k (fun b hb=>hw ⟨b,hb⟩) (by omega)]
     refine w1 k ?_
     rcases hk with ⟨b,hb⟩|hk
     ·rcases List.mem_append.1 hb with hb|hb
      ·exact absurd ⟨b,hb⟩ hw
      ·exact Or.inl ⟨b,hb⟩
     ·exact Or.inr (by omega),
 fun pk s y s' h pk' hp=>by
  cases h1:m pk s with
  | none=>simp only [h1,andO] at h; cases h
  | some z=>
   obtain ⟨x,s1⟩:=z
   simp only [h1,andO] at h
   obtain ⟨_,_,n1,_⟩:=hm.go pk s x s1 h1
   obtain ⟨_,_,n2,_⟩:=(hf x).go pk s1 y s' h
   have a:=hm.same pk s x s1 h1 pk' (fun i a b=>hp i a (by omega))
   have b:=(hf x).same pk s1 y s' h pk' (fun i a b=>hp i (by omega) b)
   simp only [a,andO,b]⟩
theorem rdP_eq {α:Type} {g:Bool} {b:Nat} {f:Obj→Option α} {pk:CPk} {s s':CSt} {x:α} (h:rdP g b f pk s = some (x,s')):∃ (j:Nat) (tr:List Or) (o:Obj),s.tr = .ix j :: tr∧lookH s.H j = some o∧f o = some x∧s' = ⟨s.H,s.n,tr,(b,j,false) :: s.em⟩∧(g || Nat.blt j 4294967296) = true:=by
 unfold rdP at h
 split at h
 ·rename_i H n j tr em
  split at h
  ·rename_i hg
   split at h
   ·rename_i o ho
    split at h
    ·rename_i y hy
     simp only [Option.some.injEq,Prod.mk.injEq] at h
     obtain ⟨rfl,rfl⟩:=h
     exact ⟨j,tr,o,rfl,ho,hy,rfl,hg⟩
    ·cases h
   ·cases h
  ·cases h
 ·cases h
theorem wrP_eq {b:Nat} {f:Obj→Option Obj} {pk:CPk} {s s':CSt} {x:Unit} (h:wrP b f pk s = some (x,s')):∃ (j:Nat) (tr:List Or) (o o':Obj),s.tr = .ix j :: tr∧j < 4294967296∧lookH s.H j = some o∧f o = some o'∧s' = ⟨s.H.set j (some o'),s.n,tr,(b,j,true) :: s.em⟩:=by
 unfold wrP at h
 split at h
 ·rename_i H gl n j tr em
  split at h
  ·cases h
  ·rename_i hj
   split at h
   ·rename_i o ho
    split at h
    ·rename_i y hy
     rw [setF_eq] at h
     simp only [Option.some.injEq,Prod.mk.injEq] at h
     obtain ⟨_,rfl⟩:=h
     exact ⟨j,tr,o,y,rfl,by simpa [Nat.blt_eq] using hj,ho,hy,rfl⟩
    ·cases h
   ·cases h
 ·cases h
theorem nwP_eq {o:Option Obj} {pk:CPk} {s s':CSt} {x:Nat} (h:nwP o pk s = some (x,s')):s.n < 4294967296∧x = (pk s.n).1∧s' = ⟨s.H.lay s.n o,s.n+1,s.tr,s.em⟩:=by
 obtain ⟨⟨H,gl⟩,n,tr,em⟩:=s
 unfold nwP at h
 simp only at h
 split at h
 ·rename_i hb
  rw [layF_eq] at h
  simp only [Option.some.injEq,Prod.mk.injEq] at h
  obtain ⟨rfl,rfl⟩:=h
  exact ⟨by simpa [Nat.blt_eq] using hb,rfl,rfl⟩
 ·cases h
theorem rdP_tame {α:Type} (g:Bool) (b:Nat) (f:Obj→Option α):Tame (rdP g b f):=⟨fun pk s x s' h=>by
 obtain ⟨j,tr,o,ht,ho,hf,rfl,hg⟩:=rdP_eq h
 refine ⟨[(b,j,false)],rfl,Nat.le_refl _,fun _ _ _=>rfl,fun pk' G em _ hG=>⟨G,?_,fun k hk=>?_⟩⟩
 ·have:=hG b j false (List.mem_singleton.2 rfl)
  simp only [ht,rdP,hg,this,ho,hf]; rfl
 ·rcases hk with ⟨b',hb⟩|hk
  ·simp at hb
  ·exact absurd hk.1 (by have:=hk.2; simp only at this; omega),fun _ _ _ _ h _ _=>h⟩
theorem wrP_tame (b:Nat) (f:Obj→Option Obj):Tame (wrP b f):=⟨fun pk s x s' h=>by
 obtain ⟨j,tr,o,o',ht,hj,ho,hf,rfl⟩:=wrP_eq h
 refine ⟨[(b,j,true)],rfl,Nat.le_refl _,fun k hk _=>?_,fun pk' G em _ hG=>⟨G.set j (some o'),?_,fun k hk=>?_⟩⟩
 ·simp only
  rw [look_set _ hj ho,if_neg]
  rintro rfl
  exact hk b (List.mem_singleton.2 rfl)
 ·have hg:=hG b j true (List.mem_singleton.2 rfl)
  have hb:Nat.blt j 4294967296 = true:=by simpa [Nat.blt_eq] using hj
  obtain ⟨G,gl⟩:=G
  simp only [ht,wrP,hb,hg,ho,hf,setF_eq]; rfl
 ·rcases hk with ⟨b',hb⟩|hk
  ·simp only [List.mem_singleton,Prod.mk.injEq] at hb
   obtain ⟨_,rfl,_⟩:=hb
   have hg:=hG b k true (List.mem_singleton.2 rfl)
   simp only
   rw [look_set _ hj ho,look_set _ hj (hg.trans ho),if_pos rfl,if_pos rfl]
  ·exact absurd hk.1 (by have:=hk.2; simp only at this; omega),fun _ _ _ _ h _ _=>h⟩
theorem nwP_tame (o:Option Obj):Tame (nwP o):=⟨fun pk s x s' h=>by
 obtain ⟨hn,rfl,rfl⟩:=nwP_eq h
 refine ⟨[],rfl,Nat.le_succ _,fun k _ hk=>?_,fun pk' G em hp _=>⟨G.lay s.n o,?_,fun k hk=>?_⟩⟩
 ·simp only at hk ⊢
  rw [look_lay _ _ hn,if_neg (by omega)]
 ·have hb:Nat.blt s.n 4294967296 = true:=by simpa [Nat.blt_eq] using hn
  obtain ⟨G,gl⟩:=G
  simp only [nwP,hb,layF_eq,(hp s.n (Nat.le_refl _) (Nat.lt_succ_self _)).1]; rfl
 ·rcases hk with ⟨b,hb⟩|hk
  ·cases hb
  ·simp only at hk ⊢
   rw [look_lay _ _ hn,look_lay _ _ hn,if_pos (by omega),if_pos (by omega)],
 fun pk s x s' h pk' hp=>by
  obtain ⟨hn,rfl,rfl⟩:=nwP_eq h
  have hb:Nat.blt s.n 4294967296 = true:=by simpa [Nat.blt_eq] using hn
  have hp':=hp s.n (Nat.le_refl _) (Nat.lt_succ_self _)
  obtain ⟨⟨H,gl⟩,n,tr,em⟩:=s
  simp only at hb hp'
  simp only [nwP,hb,layF_eq,hp']; rfl⟩
theorem sev_tame {α:Type} (P:Program) (m:Sem α):∀ ro,Tame fun pk s=>sev P pk ro m s:=by
 induction m with
 | pure a=>intro ro; exact Tame.pure a
 | load _ a k ih=>intro ro; exact Tame.bind (rdP_tame _ _ _) (fun v=>ih v ro)
 | store _ a v k ih=>
  intro ro
  cases ro
  ·exact Tame.bind (wrP_tame _ _) (fun _=>ih false)
  ·exact Tame.fail
 | new o k ih=>
  intro ro
  cases ro
  ·exact Tame.bind (nwP_tame _) (fun r=>ih r false)
  ·exact Tame.fail
 | shape r k ih=>intro ro; exact Tame.bind (rdP_tame _ _ _) (fun v=>ih v ro)
 | frozen a k ih=>intro ro; exact Tame.bind (rdP_tame _ _ _) (fun v=>ih v ro)
 | getObj r k ih=>intro ro; exact Tame.bind (rdP_tame _ _ _) (fun v=>ih v ro)
 | setObj r o k ih=>
  intro ro
  cases ro
  ·exact Tame.bind (wrP_tame _ _) (fun _=>ih false)
  ·exact Tame.fail
 | choose q k ih=>
  intro ro
  cases hq:q.forced
  ·cases ro
   ·rw [show (fun pk s=>sev P pk false (.choose q k) s) = fun pk s=>andO (nwP none pk s) fun t s=>sev P pk false (k (q.cut t)) s from by funext pk s; simp only [sev,hq]]
    exact Tame.bind (nwP_tame _) (fun r=>ih _ false)
   ·rw [show (fun pk s=>sev P pk true (.choose q k) s) = fun _ _=>none from by funext pk s; simp only [sev,hq]]
    exact Tame.fail
  ·rw [show (fun pk s=>sev P pk ro (.choose q k) s) = fun pk s=>sev P pk ro (k 0) s from by funext pk s; cases ro <;> simp only [sev,hq]]
   exact ih 0 ro
 | freeze a n k ih=>
  intro ro
  cases ro
  ·cases hn:Nat.beq n 0
   ·rw [show (fun pk s=>sev P pk false (.freeze a n k) s) = fun pk s=>andO (wrP a.block (fzO a n) pk s) fun _ s=>sev P pk false k s from by funext pk s; simp only [sev,hn]]
    exact Tame.bind (wrP_tame _ _) (fun _=>ih false)
   ·rw [show (fun pk s=>sev P pk false (.freeze a n k) s) = fun pk s=>sev P pk false k s from by funext pk s; simp only [sev,hn]]
    exact ih false
  ·exact Tame.fail
 | program k ih=>intro ro; exact ih P ro
 | mark _ k ih=>intro ro; exact ih ro
 | _=>intro ro; exact Tame.fail
structure Rel (pk:CPk) (D:Nat→Prop) (H:Hp) (w0 W:World):Prop where
 below:Below w0.heap.size w0 W
 live:∀ k o,lookH H k = some o→k < 4294967296→W.heap[(pk k).1]? = some o
 own:∀ k o,lookH H k = some o→k < 4294967296→w0.heap.size≤(pk k).1∧D k
 glob:∀ k o,lookH H k = some o→4294967296≤k→∃ o',w0.heap[k - 4294967296]? = some o'∧∀ a x,ldO a o = some x→ldO a o' = some x
 inj:∀ j k o o',j < 4294967296→k < 4294967296→lookH H j = some o→lookH H k = some o'→(pk j).1 = (pk k).1→j = k
def CAgr (D:Nat→Prop) (pk pk':CPk):Prop:=∀ k,D k→pk' k = pk k
def Dn (D:Nat→Prop) (a b:Nat):Nat→Prop:=fun k=>D k∨(a≤k∧k < b)
def Good (pk:CPk) (em:List (Nat×Nat×Bool)):Prop:=∀ b k w,(b,k,w)∈em→b = loc pk k
def Gd {α:Type} (m:CPk→CSt→Option (α×CSt)) (pk:CPk) (D:Nat→Prop) (N:Nat) (s:CSt):Prop:=∀ pk',CAgr D pk pk'→∃ x s',m pk' s = some (x,s')∧Good pk' s'.em∧s'.n≤N
theorem CAgr.refl (D:Nat→Prop) (pk:CPk):CAgr D pk pk:=fun _ _=>rfl
theorem CAgr.trans {D D':Nat→Prop} {a b c:CPk} (h:CAgr D a b) (h':CAgr D' b c) (hs:∀ k,D k→D' k):CAgr D a c:=fun k hk=>(h' k (hs k hk)).trans (h k hk)
theorem Rel.mono {pk:CPk} {D D':Nat→Prop} {H:Hp} {w0 W:World} (h:Rel pk D H w0 W) (hs:∀ k,D k→D' k):Rel pk D' H w0 W:=⟨h.below,h.live,fun k o a b=>⟨(h.own k o a b).1,hs k (h.own k o a b).2⟩,h.glob,h.inj⟩
theorem Rel.lt {pk:CPk} {D:Nat→Prop} {H:Hp} {w0 W:World} (h:Rel pk D H w0 W) {k:Nat} {o:Obj} (hk:lookH H k = some o) (hg:k < 4294967296):(pk k).1 < W.heap.size:=by
 have:=h.live k o hk hg
 exact (Array.getElem?_eq_some_iff.1 this).1
theorem Rel.drew {pk:CPk} {D:Nat→Prop} {H:Hp} {w0 W:World} (h:Rel pk D H w0 W):Rel pk D H w0 { W with drawn:=W.drawn+1 }:=⟨⟨h.below.os,h.below.tape,h.below.output,h.below.size,h.below.block⟩,h.live,h.own,h.glob,h.inj⟩
theorem Gd.next {α β:Type} {m:CPk→CSt→Option (α×CSt)} {f:α→CPk→CSt→Option (β×CSt)} {pk pk1:CPk} {D:Nat→Prop} {N:Nat} {s s1:CSt} {x:α} (hm:Tame m) (h:Gd (fun pk s=>andO (m pk s) fun x s=>f x pk s) pk D N s) (ha:CAgr D pk pk1) (h1:m pk1 s = some (x,s1)):Gd (f x) pk1 (Dn D s.n s1.n) N s1:=fun pk' hp=>by
 obtain ⟨y,s',hy,hg,hn⟩:=h pk' (fun k hk=>(hp k (Or.inl hk)).trans (ha k hk))
 have h2:=hm.same pk1 s x s1 h1 pk' (fun i a b=>hp i (Or.inr ⟨a,b⟩))
 simp only [h2,andO] at hy
 exact ⟨y,s',hy,hg,hn⟩
def Does {α:Type} (P:Program) (w0:World) (m:Sem α) (ro:Bool):Prop:=∀ (pk:CPk) (D:Nat→Prop) (N:Nat) (s:CSt) (W:World),Rel pk D s.H w0 W→(∀ k,s.n≤k→k < N→¬ D k)→Gd (fun pk s=>sev P pk ro m s) pk D N s →
 ∃ pk' x s' W',CAgr D pk pk'∧sev P pk' ro m s = some (x,s')∧m.run P W = .ok x W'∧(ro = true→W' = W)∧Rel pk' (Dn D s.n s'.n) s'.H w0 W'
theorem Dn.self {D:Nat→Prop} {a b:Nat} (k:Nat) (h:D k):Dn D a b k:=Or.inl h
theorem Dn.join {D:Nat→Prop} {a b c:Nat} (h1:a≤b) (h2:b≤c) (k:Nat) (h:Dn (Dn D a b) b c k):Dn D a c k:=by
 rcases h with (h|h)|h
 ·exact Or.inl h
 ·exact Or.inr (by omega)
 ·exact Or.inr (by omega)
theorem does_read {α β:Type} {P:Program} {w0:World} {ro g:Bool} {m:Sem β} {b:Nat} {f:Obj→Option α} {k:α→Sem β} (hfg:g = true→∀ o o' x,(∀ a y,ldO a o = some y→ldO a o' = some y)→f o = some x→f o' = some x) (hs:∀ pk s,sev P pk ro m s = andO (rdP g b f pk s) fun x s=>sev P pk ro (k x) s)
  (hr:∀ (W:World) (o:Obj) (x:α),W.heap[b]? = some o→f o = some x→m.run P W = (k x).run P W) (ih:∀ x,Does P w0 (k x) ro):Does P w0 m ro:=fun pk D N s W hR hD hG=>by
 have hG':Gd (fun pk s=>andO (rdP g b f pk s) fun x s=>sev P pk ro (k x) s) pk D N s:=fun pk' hp=>by
  obtain ⟨x,s',h,r⟩:=hG pk' hp
  exact ⟨x,s',(hs pk' s).symm.trans h,r⟩
 obtain ⟨y,s',h,hg,hn⟩:=hG' pk (CAgr.refl _ _)
 cases h1:rdP g b f pk s with
 | none=>simp only [h1,andO] at h; cases h
 | some z=>
  obtain ⟨x,s1⟩:=z
  have hN:=hG'.next (rdP_tame g b f) (CAgr.refl _ _) h1
  obtain ⟨j,tr,o,ht,ho,hf,rfl,hgj⟩:=rdP_eq h1
  simp only [h1,andO] at h
  have hb:b = loc pk j:=by
   obtain ⟨d,hd,_⟩:=(sev_tame P (k x) ro).go pk _ _ _ h
   exact hg b j false (by rw [hd]; exact List.mem_append_right _ (List.mem_cons_self ..))
  obtain ⟨o2,hW,hf2⟩:∃ o2,W.heap[b]? = some o2∧f o2 = some x:=by
   by_cases hj:j < 4294967296
   ·rw [loc_own hj] at hb
    exact ⟨o,by rw [hb]; exact hR.live j o ho hj,hf⟩
   ·rw [loc_glob (by omega) (look_far ho)] at hb
    obtain ⟨o2,q1,q2⟩:=hR.glob j o ho (by omega)
    have hg:g = true:=by
     cases g with
     | true=>rfl
     | false=>
      rw [Bool.false_or,Nat.blt_eq] at hgj
      omega
    refine ⟨o2,?_,hfg hg o o2 x q2 hf⟩
    rw [hb,hR.below.block _ (Array.getElem?_eq_some_iff.1 q1).1]
    exact q1
  obtain ⟨pk',y',s'',W',a1,a2,a3,a4,a5⟩:=ih x pk (Dn D s.n s.n) N ⟨s.H,s.n,tr,(b,j,false) :: s.em⟩ W (hR.mono Dn.self) (fun k h1 h2 h3=>by
   rcases h3 with h3|h3
   ·exact hD k h1 h2 h3
   ·omega) hN
  obtain ⟨_,_,hle,_⟩:=(sev_tame P (k x) ro).go pk' _ _ _ a2
  refine ⟨pk',y',s'',W',fun k hk=>a1 k (Dn.self k hk),?_,?_,a4,a5.mono (fun k=>Dn.join (Nat.le_refl _) hle k)⟩
  ·rw [hs]
   have:rdP g b f pk' s = some (x,⟨s.H,s.n,tr,(b,j,false) :: s.em⟩):=h1
   simp only [this,andO]; exact a2
  ·rw [hr W o2 x hW hf2]; exact a3
theorem does_write {β:Type} {P:Program} {w0:World} {m:Sem β} {b:Nat} {f:Obj→Option Obj} {k:Sem β} (g:World→World) (hs:∀ pk s,sev P pk false m s = andO (wrP b f pk s) fun _ s=>sev P pk false k s)
  (hr:∀ (W:World) (o o':Obj),W.heap[b]? = some o→f o = some o'→m.run P W = k.run P (g W)∧(g W).heap[b]? = some o'∧(g W).heap.size = W.heap.size∧(∀ c,c≠b→(g W).heap[c]? = W.heap[c]?)∧(g W).os = W.os∧(g W).tape = W.tape∧(g W).output = W.output) (ih:Does P w0 k false):Does P w0 m false:=fun pk D N s W hR hD hG=>by
 have hG':Gd (fun pk s=>andO (wrP b f pk s) fun _ s=>sev P pk false k s) pk D N s:=fun pk' hp=>by
  obtain ⟨x,s',h,r⟩:=hG pk' hp
  exact ⟨x,s',(hs pk' s).symm.trans h,r⟩
 obtain ⟨y,s',h,hg,hn⟩:=hG' pk (CAgr.refl _ _)
 cases h1:wrP b f pk s with
 | none=>simp only [h1,andO] at h; cases h
 | some z=>
  obtain ⟨x,s1⟩:=z
  have hN:=hG'.next (f:=fun _ pk s=>sev P pk false k s) (wrP_tame b f) (CAgr.refl _ _) h1
  obtain ⟨j,tr,o,o',ht,hj,ho,hf,rfl⟩:=wrP_eq h1
  simp only [h1,andO] at h
  have hb:b = loc pk j:=by
   obtain ⟨d,hd,_⟩:=(sev_tame P k false).go pk _ _ _ h
   exact hg b j true (by rw [hd]; exact List.mem_append_right _ (List.mem_cons_self ..))
  have hbj:b = (pk j).1:=by rw [hb,loc_own hj]
  have hW:=hR.live j o ho hj
  rw [← hbj] at hW
  obtain ⟨r1,r2,r3,r4,r5,r6,r7⟩:=hr W o o' hW hf
  have hw0:=(hR.own j o ho hj).1
  have hR1:Rel pk D (s.H.set j (some o')) w0 (g W):=by
   refine ⟨⟨r5.trans hR.below.os,r6.trans hR.below.tape,r7.trans hR.below.output,by rw [r3]; exact hR.below.size,fun c hc=>by rw [r4 c (by omega)]; exact hR.below.block c hc⟩,fun k u hk hkg=>?_,fun k u hk h9=>?_,fun k u hk h9=>?_,fun i k u u' hi hk h8 h9 he=>?_⟩
   ·rw [look_set _ hj ho] at hk
    by_cases e:k = j
    ·subst e
     rw [if_pos rfl] at hk
     rw [← hbj,r2,hk]
    ·rw [if_neg e] at hk
     rw [r4 _ ?_]
     ·exact hR.live k u hk hkg
     ·rw [hbj]
      intro e2
      exact e (hR.inj k j u o hkg hj hk ho e2)
   ·rw [look_set _ hj ho] at hk
    by_cases e:k = j
    ·subst e; exact hR.own k o ho h9
    ·rw [if_neg e] at hk; exact hR.own k u hk h9
   ·rw [look_set _ hj ho] at hk
    by_cases e:k = j
    ·omega
    ·rw [if_neg e] at hk; exact hR.glob k u hk h9
   ·rw [look_set _ hj ho] at h8 h9
    have a:∃ v,lookH s.H i = some v:=by
     by_cases e:i = j
     ·subst e; exact ⟨o,ho⟩
     ·rw [if_neg e] at h8; exact ⟨u,h8⟩
    have b:∃ v,lookH s.H k = some v:=by
     by_cases e:k = j
     ·subst e; exact ⟨o,ho⟩
     ·rw [if_neg e] at h9; exact ⟨u',h9⟩
    obtain ⟨v,hv⟩:=a
    obtain ⟨v',hv'⟩:=b
    exact hR.inj i k v v' hi hk hv hv' he
  obtain ⟨pk',y',s'',W',a1,a2,a3,a4,a5⟩:=ih pk (Dn D s.n s.n) N ⟨s.H.set j (some o'),s.n,tr,(b,j,true) :: s.em⟩ (g W) (hR1.mono Dn.self) (fun k h1 h2 h3=>by
   rcases h3 with h3|h3
   ·exact hD k h1 h2 h3
   ·omega) hN
  obtain ⟨_,_,hle,_⟩:=(sev_tame P k false).go pk' _ _ _ a2
  refine ⟨pk',y',s'',W',fun k hk=>a1 k (Dn.self k hk),?_,?_,(fun h=>by cases h),a5.mono (fun k=>Dn.join (Nat.le_refl _) hle k)⟩
  ·rw [hs]
   have:wrP b f pk' s = some (x,⟨s.H.set j (some o'),s.n,tr,(b,j,true) :: s.em⟩):=h1
   simp only [this,andO]; exact a2
  ·rw [r1]; exact a3
theorem does_new {β:Type} {P:Program} {w0:World} {m:Sem β} {o:Option Obj} {k:Nat→Sem β} (r:World→Nat) (g:World→World) (hs:∀ pk s,sev P pk false m s = andO (nwP o pk s) fun x s=>sev P pk false (k x) s)
  (hr:∀ W:World,m.run P W = (k (r W)).run P (g W)∧(∀ u,o = some u→r W = W.heap.size∧(g W).heap[W.heap.size]? = some u)∧W.heap.size≤(g W).heap.size∧(∀ c,c < W.heap.size→(g W).heap[c]? = W.heap[c]?)∧(g W).os = W.os∧(g W).tape = W.tape∧(g W).output = W.output) (ih:∀ x,Does P w0 (k x) false):Does P w0 m false:=fun pk D N s W hR hD hG=>by
 obtain ⟨r1,r2,r3,r4,r5,r6,r7⟩:=hr W
 have hG':Gd (fun pk s=>andO (nwP o pk s) fun x s=>sev P pk false (k x) s) pk D N s:=fun pk' hp=>by
  obtain ⟨x,s',h,r⟩:=hG pk' hp
  exact ⟨x,s',(hs pk' s).symm.trans h,r⟩
 have hlt:s.n < N∧s.n < 4294967296:=by
  obtain ⟨y,s',h,hg,hn⟩:=hG' pk (CAgr.refl _ _)
  cases h1:nwP o pk s with
  | none=>simp only [h1,andO] at h; cases h
  | some z=>
   obtain ⟨x,s1⟩:=z
   obtain ⟨a,b,rfl⟩:=nwP_eq h1
   simp only [h1,andO] at h
   obtain ⟨_,_,hle,_⟩:=(sev_tame P (k x) false).go pk _ _ _ h
   simp only at hle
   omega
 obtain ⟨pk1,hpk1⟩:∃ pk1:CPk,pk1 = fun i=>if i = s.n then (r W,[]) else pk i:=⟨_,rfl⟩
 have hnD:¬ D s.n:=hD s.n (Nat.le_refl _) hlt.1
 have hag:CAgr D pk pk1:=fun i hi=>by
  rw [hpk1]
  simp only
  rw [if_neg]
  rintro rfl
  exact hnD hi
 have hpn:(pk1 s.n).1 = r W:=by rw [hpk1]; simp
 have h1:nwP o pk1 s = some (r W,⟨s.H.lay s.n o,s.n+1,s.tr,s.em⟩):=by
  have hb:Nat.blt s.n 4294967296 = true:=by simpa [Nat.blt_eq] using hlt.2
  obtain ⟨⟨H,gl⟩,n,tr,em⟩:=s
  simp only at hb hpn
  simp only [nwP,hb,layF_eq,hpn]; rfl
 have hN:=hG'.next (f:=fun x pk s=>sev P pk false (k x) s) (nwP_tame o) hag h1
 have old:∀ k,k≠s.n→pk1 k = pk k:=fun k hne=>by
  rw [hpk1]
  simp only
  rw [if_neg hne]
 have hR1:Rel pk1 (Dn D s.n (s.n+1)) (s.H.lay s.n o) w0 (g W):=by
  refine ⟨⟨r5.trans hR.below.os,r6.trans hR.below.tape,r7.trans hR.below.output,Nat.le_trans hR.below.size r3,fun c hc=>by rw [r4 c (Nat.lt_of_lt_of_le hc hR.below.size)]; exact hR.below.block c hc⟩,fun k u hk hkg=>?_,fun k u hk h9=>?_,fun k u hk h9=>?_,fun i k u u' hi hk h8 h9 he=>?_⟩
  ·rw [look_lay _ _ hlt.2] at hk
   by_cases e:k = s.n
   ·subst e
    rw [if_pos rfl] at hk
    obtain ⟨q1,q2⟩:=r2 u hk
    rw [hpn,q1]; exact q2
   ·rw [if_neg e] at hk
    rw [old k e,r4 _ (hR.lt hk hkg)]
    exact hR.live k u hk hkg
  ·rw [look_lay _ _ hlt.2] at hk
   by_cases e:k = s.n
   ·subst e
    rw [if_pos rfl] at hk
    obtain ⟨q1,q2⟩:=r2 u hk
    rw [hpn,q1]
    exact ⟨hR.below.size,Or.inr (by omega)⟩
   ·rw [if_neg e] at hk
    obtain ⟨q1,q2⟩:=hR.own k u hk h9
    rw [old k e]
    exact ⟨q1,Or.inl q2⟩
  ·rw [look_lay _ _ hlt.2] at hk
   by_cases e:k = s.n
   ·omega
   ·rw [if_neg e] at hk; exact hR.glob k u hk h9
  ·rw [look_lay _ _ hlt.2] at h8 h9
   have nw:∀ (a:Nat) (v:Obj),a < 4294967296→lookH s.H a = some v→a≠s.n→(pk1 a).1≠(pk1 s.n).1∨o = none:=fun a v ha hv hne=>by
    cases o with
    | none=>exact Or.inr rfl
    | some z=>
     refine Or.inl ?_
     rw [hpn,(r2 z rfl).1]
     rw [old a hne]
     have:=hR.lt hv ha
     omega
   by_cases e1:i = s.n
   ·by_cases e2:k = s.n
    ·omega
    ·rw [if_pos e1] at h8
     rw [if_neg e2] at h9
     rcases nw k u' hk h9 e2 with h|h
     ·subst e1; exact absurd he.symm h
     ·rw [h] at h8; cases h8
   ·rw [if_neg e1] at h8
    by_cases e2:k = s.n
    ·rw [if_pos e2] at h9
     rcases nw i u hi h8 e1 with h|h
     ·subst e2; exact absurd he h
     ·rw [h] at h9; cases h9
    ·rw [if_neg e2] at h9
     rw [old i e1,old k e2] at he
     exact hR.inj i k u u' hi hk h8 h9 he
 obtain ⟨pk',y',s'',W',a1,a2,a3,a4,a5⟩:=ih (r W) pk1 (Dn D s.n (s.n+1)) N ⟨s.H.lay s.n o,s.n+1,s.tr,s.em⟩ (g W) hR1 (fun k h1 h2 h3=>by
  simp only at h1
  rcases h3 with h3|h3
  ·exact hD k (by omega) h2 h3
  ·omega) hN
 obtain ⟨_,_,hle,_⟩:=(sev_tame P (k (r W)) false).go pk' _ _ _ a2
 refine ⟨pk',y',s'',W',hag.trans a1 Dn.self,?_,?_,(fun h=>by cases h),a5.mono (fun k=>Dn.join (Nat.le_succ _) hle k)⟩
 ·rw [hs]
  have:=(nwP_tame o).same pk1 s _ _ h1 pk' (fun i b1 b2=>a1 i (Or.inr ⟨b1,b2⟩))
  simp only [this,andO]; exact a2
 ·rw [r1]; exact a3
theorem cell_at {W:World} {a:Addr} {o:Obj} {v:Value} (hW:W.heap[a.block]? = some o) (h:ldO a o = some v):W.cell? a = some v:=by
 cases o with
 | cells cs t f=>
  unfold ldO at h
  cases hsp:a.spot with
  | none=>
   simp only [hsp] at h
   rw [nth_eq] at h
   unfold World.cell?
   rw [hW]
   simp only [hsp,Option.isSome_none,Bool.false_eq_true,if_false]
   rw [← Array.getElem?_toList]; exact h
  | some z=>simp only [hsp] at h; cases h
 | _=>simp [ldO] at h
theorem frz_eq (f:Nat×Nat) (off:Nat):frz f off = (decide (f.1≤off) && decide (off < f.2)):=by
 unfold frz
 congr 1
 ·rw [Bool.eq_iff_iff]; simp
 ·rw [Bool.eq_iff_iff]; simp [Nat.blt_eq]
theorem stO_eq {a:Addr} {v:Value} {o o':Obj} (h:stO a v o = some o'):∃ (cs:Array Value) (t:TypeId) (f:Nat×Nat) (u:Value),o = .cells cs t f∧a.spot = none∧cs[a.off]? = some u∧v.oneCell' = true∧frz f a.off = false∧o' = .cells (cs.setIfInBounds a.off v) t f:=by
 unfold stO at h
 split at h
 ·rename_i cs t f
  split at h
  ·rename_i hsp
   split at h
   ·rename_i u hu
    split at h
    ·rename_i hv
     rw [setF_eq] at h
     simp only [Option.some.injEq] at h
     rw [nth_eq] at hu
     simp only [Bool.and_eq_true,Bool.not_eq_true'] at hv
     refine ⟨cs,t,f,u,rfl,hsp,by rw [← Array.getElem?_toList]; exact hu,hv.1,hv.2,?_⟩
     rw [← h,← Array.toList_setIfInBounds]
    ·cases h
   ·cases h
  ·cases h
 ·cases h
theorem sev_does {α:Type} (P:Program) (w0:World) (m:Sem α):∀ ro,Does P w0 m ro:=by
 induction m with
 | pure a=>
  intro ro pk D N s W hR _ _
  exact ⟨pk,a,s,W,CAgr.refl _ _,rfl,rfl,fun _=>rfl,hR.mono Dn.self⟩
 | load md a k ih=>
  intro ro
  refine does_read (g:=true) (b:=a.block) (f:=ldO a) (k:=k) (fun _ o o' x h1 h2=>h1 a x h2) (fun _ _=>rfl) (fun W o x hW hf=>?_) (fun x=>ih x ro)
  simp only [Sem.run,cell_at hW hf]
 | store md a v k ih=>
  intro ro
  cases ro with
  | true=>intro pk D N s W _ _ hG; obtain ⟨_,_,h,_⟩:=hG pk (CAgr.refl _ _); simp [sev] at h
  | false=>
   refine does_write (b:=a.block) (f:=stO a v) (k:=k) (fun W=>W.setCell a v) (fun _ _=>rfl) (fun W o o' hW hf=>?_) (ih false)
   obtain ⟨cs,t,f,u,rfl,hsp,hu,hv,hfr,rfl⟩:=stO_eq hf
   have hc:W.cell? a = some u:=by
    unfold World.cell?
    rw [hW]
    simp [hsp,hu]
   have hz:W.frozen? a = false:=by
    unfold World.frozen?
    rw [hW]
    rw [frz_eq] at hfr
    exact hfr
   refine ⟨?_,?_,by simp [World.setCell],fun c hc=>Below.heap_setCell _ _ _ _ hc,rfl,rfl,rfl⟩
   ·cases v <;> first
     | (simp [Value.oneCell'] at hv; done)
     | (simp only [Sem.run,hc,hz]; rfl)
   ·simp only [World.setCell,Array.getElem?_modify,hW,if_true,Option.map_some,hsp,Option.isSome_none,Bool.false_eq_true,if_false]
 | new o k ih=>
  intro ro
  cases ro with
  | true=>intro pk D N s W _ _ hG; obtain ⟨_,_,h,_⟩:=hG pk (CAgr.refl _ _); simp [sev] at h
  | false=>
   refine does_new (o:=some o) (k:=k) (fun W=>W.heap.size) (fun W=>W.alloc o) (fun _ _=>rfl) (fun W=>⟨rfl,fun u hu=>⟨rfl,?_⟩,by simp,fun c hc=>Below.heap_alloc _ _ _ hc,rfl,rfl,rfl⟩) (fun x=>ih x false)
   cases hu
   show (W.heap.push o)[W.heap.size]? = _
   simp
 | shape r k ih=>
  intro ro
  refine does_read (g:=false) (b:=r) (f:=shO) (k:=k) (fun h=>by cases h) (fun _ _=>rfl) (fun W o x hW hf=>?_) (fun x=>ih x ro)
  cases o <;> simp only [shO,Option.some.injEq,reduceCtorEq] at hf
  subst hf
  simp only [Sem.run,World.shape?,hW]
 | frozen a k ih=>
  intro ro
  refine does_read (g:=false) (b:=a.block) (f:=frO a.off) (k:=k) (fun h=>by cases h) (fun _ _=>rfl) (fun W o x hW hf=>?_) (fun x=>ih x ro)
  unfold frO at hf
  split at hf
  ·rename_i f
   simp only [Option.some.injEq] at hf
   subst hf
   rw [frz_eq]
   simp only [Sem.run,World.frozen?,hW]
  ·cases hf
 | freeze a n k ih=>
  intro ro
  cases ro with
  | true=>intro pk D N s W _ _ hG; obtain ⟨_,_,h,_⟩:=hG pk (CAgr.refl _ _); simp [sev] at h
  | false=>
   cases hn:Nat.beq n 0 with
   | true=>
    intro pk D N s W hR hD hG
    have e:∀ pk s,sev P pk false (.freeze a n k) s = sev P pk false k s:=fun pk s=>by simp only [sev,hn]
    obtain ⟨pk',x,s',W',a1,a2,a3,a4,a5⟩:=ih false pk D N s W hR hD (fun pk' hp=>by
     obtain ⟨x,s',h,r⟩:=hG pk' hp
     exact ⟨x,s',(e pk' s).symm.trans h,r⟩)
    refine ⟨pk',x,s',W',a1,(e pk' s).trans a2,?_,a4,a5⟩
    obtain rfl:=Nat.eq_of_beq_eq_true hn
    simp only [Sem.run,World.freeze,if_true]; exact a3
   | false=>
    have hn0:n≠0:=by rintro rfl; simp at hn
    refine does_write (b:=a.block) (f:=fzO a n) (k:=k) (fun W=>W.freeze a n) (fun pk s=>by simp only [sev,hn]) (fun W o o' hW hf=>?_) (ih false)
    cases o <;> simp only [fzO,Option.some.injEq,reduceCtorEq] at hf
    subst hf
    refine ⟨rfl,?_,?_,fun c hc=>?_,?_,?_,?_⟩
    ·simp only [World.freeze,if_neg hn0,Array.getElem?_modify,hW,if_true,Option.map_some]
    ·simp [World.freeze,if_neg hn0]
    ·simp only [World.freeze,if_neg hn0,Array.getElem?_modify]
     rw [if_neg (Ne.symm hc)]
    ·simp [World.freeze,if_neg hn0]
    ·simp [World.freeze,if_neg hn0]
    ·simp [World.freeze,if_neg hn0]
 | getObj r k ih=>
  intro ro
  refine does_read (g:=false) (b:=r) (f:=goO) (k:=k) (fun h=>by cases h) (fun _ _=>rfl) (fun W o x hW hf=>?_) (fun x=>ih x ro)
  cases o <;> simp only [goO,Option.some.injEq,reduceCtorEq] at hf
  subst hf
  simp only [Sem.run,hW]
 | setObj r o k ih=>
  intro ro
  cases ro with
  | true=>intro pk D N s W _ _ hG; obtain ⟨_,_,h,_⟩:=hG pk (CAgr.refl _ _); simp [sev] at h
  | false=>
   refine does_write (b:=r) (f:=soO o) (k:=k) (fun W=>{ W with heap:=W.heap.setIfInBounds r o }) (fun _ _=>rfl) (fun W u o' hW hf=>?_) (ih false)
   have hlt:=(Array.getElem?_eq_some_iff.1 hW).1
   cases u <;> simp only [soO,Option.some.injEq,reduceCtorEq] at hf
   subst hf
   refine ⟨by simp only [Sem.run,hW],by simp [hlt],by simp,fun c hc=>?_,rfl,rfl,rfl⟩
   show (W.heap.setIfInBounds r o)[c]? = _
   rw [Array.getElem?_setIfInBounds_ne (Ne.symm hc)]
 | choose q k ih=>
  intro ro
  cases hq:q.forced with
  | true=>
   intro pk D N s W hR hD hG
   have e:∀ pk s,sev P pk ro (.choose q k) s = sev P pk ro (k 0) s:=fun pk s=>by cases ro <;> simp only [sev,hq]
   obtain ⟨pk',x,s',W',a1,a2,a3,a4,a5⟩:=ih 0 ro pk D N s W hR hD (fun pk' hp=>by
    obtain ⟨x,s',h,r⟩:=hG pk' hp
    exact ⟨x,s',(e pk' s).symm.trans h,r⟩)
   exact ⟨pk',x,s',W',a1,(e pk' s).trans a2,by simp only [Sem.run,hq,if_true]; exact a3,a4,a5⟩
  | false=>
   cases ro with
   | true=>intro pk D N s W _ _ hG; obtain ⟨_,_,h,_⟩:=hG pk (CAgr.refl _ _); simp [sev,hq] at h
   | false=>
    refine does_new (o:=none) (k:=fun t=>k (q.cut t)) (fun W=>W.tape W.drawn q) (fun W=>{ W with drawn:=W.drawn+1 }) (fun pk s=>by simp only [sev,hq]) (fun W=>⟨?_,(fun u hu=>by cases hu),Nat.le_refl _,fun _ _=>rfl,rfl,rfl,rfl⟩) (fun x=>ih _ false)
    simp [Sem.run,hq]
 | program k ih=>intro ro; exact ih P ro
 | mark _ k ih=>intro ro; exact ih ro
 | _=>intro ro pk D N s W _ _ hG; obtain ⟨_,_,h,_⟩:=hG pk (CAgr.refl _ _); simp [sev] at h
def takeN {α:Type}:Nat→List α→Option (List α)
 | 0,_=>some []
 | n+1,l=>match l with
  | []=>none
  | x :: r=>match takeN n r with
   | some l=>some (x :: l)
   | none=>none
def takeE {α:Type} (l:List α) (n:Nat):Option (List α):=takeN n l
def dropN {α:Type}:Nat→List α→List α
 | 0,l=>l
 | n+1,l=>match l with
  | []=>[]
  | _ :: r=>dropN n r
def dropE {α:Type} (l:List α) (n:Nat):List α:=dropN n l
theorem dropE_eq {α:Type} (l:List α) (n:Nat):dropE l n = l.drop n:=by
 unfold dropE
 induction n generalizing l with
 | zero=>rfl
 | succ n ih=>cases l with
  | nil=>rfl
  | cons x r=>exact ih r
theorem takeE_eq {α:Type} {l:List α} {n:Nat} {t:List α} (h:takeE l n = some t):t.length = n∧t = l.take n∧n≤l.length:=by
 unfold takeE at h
 induction n generalizing l t with
 | zero=>simp only [takeN,Option.some.injEq] at h; subst h; simp
 | succ n ih=>cases l with
  | nil=>simp [takeN] at h
  | cons x r=>
   simp only [takeN] at h
   split at h
   ·rename_i u hu
    simp only [Option.some.injEq] at h
    obtain ⟨h1,h2,h3⟩:=ih hu
    subst h
    refine ⟨by simp [h1],by simp [h2],by simp; omega⟩
   ·cases h
def rowO (a:Addr) (n:Nat):Obj→Option (List Value)
 | .cells cs _ _=>match a.spot with
  | none=>takeE (dropE cs.toList a.off) n
  | some _=>none
 | _=>none
theorem rowO_at {W:World} {a:Addr} {n:Nat} {o:Obj} {l:List Value} (hW:W.heap[a.block]? = some o) (h:rowO a n o = some l):l.length = n∧∀ j u,l[j]? = some u→W.cell? (a.add j) = some u:=by
 cases o with
 | cells cs t f=>
  unfold rowO at h
  cases hsp:a.spot with
  | some z=>simp only [hsp] at h; cases h
  | none=>
   simp only [hsp] at h
   rw [dropE_eq] at h
   obtain ⟨h1,h2,_⟩:=takeE_eq h
   refine ⟨h1,fun j u hu=>?_⟩
   have hj:j < n:=by
    rw [← h1]
    exact (List.getElem?_eq_some_iff.1 hu).1
   rw [h2,List.getElem?_take,if_pos hj,List.getElem?_drop] at hu
   have hadd:a.add j = ⟨a.block,a.off+j,none⟩:=by
    obtain ⟨b,o,sp⟩:=a
    simp only at hsp
    subst hsp
    unfold Addr.add
    split
    ·simp_all
    ·rfl
   rw [hadd]
   unfold World.cell?
   simp only [hW,Option.isSome_none,Bool.false_eq_true,if_false]
   rw [← Array.getElem?_toList]; exact hu
 | _=>simp [rowO] at h
def rdJ {α:Type} (j b:Nat) (f:Obj→Option α) (_:CPk):CSt→Option (α×CSt)
 | ⟨H,n,tr,em⟩=>match Nat.blt j 4294967296 with
  | true=>match lookH H j with
   | some o=>match f o with
    | some x=>some (x,⟨H,n,tr,(b,j,false) :: em⟩)
    | none=>none
   | none=>none
  | false=>none
theorem rdJ_eq {α:Type} {j b:Nat} {f:Obj→Option α} {pk:CPk} {s s':CSt} {x:α} (h:rdJ j b f pk s = some (x,s')):∃ o:Obj,j < 4294967296∧lookH s.H j = some o∧f o = some x∧s' = ⟨s.H,s.n,s.tr,(b,j,false) :: s.em⟩:=by
 obtain ⟨H,n,tr,em⟩:=s
 unfold rdJ at h
 simp only at h
 split at h
 ·rename_i hj
  split at h
  ·rename_i o ho
   split at h
   ·rename_i y hy
    simp only [Option.some.injEq,Prod.mk.injEq] at h
    obtain ⟨rfl,rfl⟩:=h
    exact ⟨o,by simpa [Nat.blt_eq] using hj,ho,hy,rfl⟩
   ·cases h
  ·cases h
 ·cases h
theorem rdJ_tame {α:Type} (j b:Nat) (f:Obj→Option α):Tame (rdJ j b f):=⟨fun pk s x s' h=>by
 obtain ⟨o,hj,ho,hf,rfl⟩:=rdJ_eq h
 have hb:Nat.blt j 4294967296 = true:=by simpa [Nat.blt_eq] using hj
 refine ⟨[(b,j,false)],rfl,Nat.le_refl _,fun _ _ _=>rfl,fun pk' G em _ hG=>⟨G,?_,fun k hk=>?_⟩⟩
 ·have:=hG b j false (List.mem_singleton.2 rfl)
  simp only [rdJ,hb,this,ho,hf]; rfl
 ·rcases hk with ⟨b',hb'⟩|hk
  ·simp at hb'
  ·exact absurd hk.1 (by have:=hk.2; simp only at this; omega),fun _ _ _ _ h _ _=>h⟩
theorem lenL_append {α:Type} (l t:List α):lenL (l ++ t) = Nat.add (lenL t) (lenL l):=by
 rw [lenL_eq,lenL_eq,lenL_eq,List.length_append]
 exact Nat.add_comm _ _
def nwA (e:TypeId) (l:List Value) (pk:CPk):CSt→Option (Value×CSt)
 | ⟨⟨H,gl⟩,n,tr,em⟩=>match Nat.blt n 4294967296 with
  | true=>layF none H n (some (.cells (l ++ (pk n).2).toArray e (0,0))) fun H=>some (.slice (some ⟨(pk n).1,0,none⟩) (lenL l) (lenL (l ++ (pk n).2)),⟨⟨H,gl⟩,Nat.succ n,tr,em⟩)
  | false=>none
theorem nwA_eq {e:TypeId} {l:List Value} {pk:CPk} {s s':CSt} {v:Value} (h:nwA e l pk s = some (v,s')):s.n < 4294967296∧v = .slice (some ⟨(pk s.n).1,0,none⟩) (lenL l) (Nat.add (lenL (pk s.n).2) (lenL l))∧s' = ⟨s.H.lay s.n (some (.cells (l ++ (pk s.n).2).toArray e (0,0))),s.n+1,s.tr,s.em⟩:=by
 obtain ⟨⟨H,gl⟩,n,tr,em⟩:=s
 unfold nwA at h
 simp only at h
 split at h
 ·rename_i hb
  rw [layF_eq] at h
  simp only [Option.some.injEq,Prod.mk.injEq] at h
  obtain ⟨rfl,rfl⟩:=h
  rw [lenL_append]
  exact ⟨by simpa [Nat.blt_eq] using hb,rfl,rfl⟩
 ·cases h
theorem nwA_mk {e:TypeId} {l:List Value} (pk:CPk) {s:CSt} (h:s.n < 4294967296):nwA e l pk s = some (.slice (some ⟨(pk s.n).1,0,none⟩) (lenL l) (Nat.add (lenL (pk s.n).2) (lenL l)),⟨s.H.lay s.n (some (.cells (l ++ (pk s.n).2).toArray e (0,0))),s.n+1,s.tr,s.em⟩):=by
 have hb:Nat.blt s.n 4294967296 = true:=by simpa [Nat.blt_eq] using h
 obtain ⟨⟨H,gl⟩,n,tr,em⟩:=s
 simp only at hb
 simp only [nwA,hb,layF_eq,lenL_append]; rfl
theorem nwA_tame (e:TypeId) (l:List Value):Tame (nwA e l):=⟨fun pk s x s' h=>by
 obtain ⟨hn,rfl,rfl⟩:=nwA_eq h
 refine ⟨[],rfl,Nat.le_succ _,fun k _ hk=>?_,fun pk' G em hp _=>⟨G.lay s.n (some (.cells (l ++ (pk s.n).2).toArray e (0,0))),?_,fun k hk=>?_⟩⟩
 ·simp only at hk ⊢
  rw [look_lay _ _ hn,if_neg (by omega)]
 ·rw [nwA_mk (s:=⟨G,s.n,s.tr,em⟩) pk' hn]
  simp only [(hp s.n (Nat.le_refl _) (Nat.lt_succ_self _)).1]; rfl
 ·rcases hk with ⟨b,hb⟩|hk
  ·cases hb
  ·simp only at hk ⊢
   rw [look_lay _ _ hn,look_lay _ _ hn,if_pos (by omega),if_pos (by omega)],
 fun pk s x s' h pk' hp=>by
  obtain ⟨hn,rfl,rfl⟩:=nwA_eq h
  rw [nwA_mk pk' hn,hp s.n (Nat.le_refl _) (Nat.lt_succ_self _)]⟩
def klP (j m:Nat) (e:TypeId) (b len cap:Nat) (_:CPk):CSt→Option (List Value×CSt)
 | ⟨⟨H,gl⟩,n,tr,em⟩=>match Nat.blt j 4294967296 with
  | true=>match lookH ⟨H,gl⟩ j with
   | some (.cells cs e' (0,0))=>match Nat.beq e e' with
    | true=>match takeE cs.toList len with
     | some l=>setF H j none fun H=>some (l,⟨⟨H,gl⟩,n,tr,(b,j,true) :: (cap,8589934592+j * 1048576+m,false) :: (lenL cs.toList,8589934592+j * 1048576+m,false) :: em⟩)
     | none=>none
    | false=>none
   | _=>none
  | false=>none
theorem klP_eq {j m:Nat} {e:TypeId} {b len cap:Nat} {pk:CPk} {s s':CSt} {l:List Value} (h:klP j m e b len cap pk s = some (l,s')):∃ cs:Array Value,j < 4294967296∧lookH s.H j = some (.cells cs e (0,0))∧takeE cs.toList len = some l∧s' = ⟨s.H.set j none,s.n,s.tr,(b,j,true) :: (cap,8589934592+j * 1048576+m,false) :: (lenL cs.toList,8589934592+j * 1048576+m,false) :: s.em⟩:=by
 obtain ⟨⟨H,gl⟩,n,tr,em⟩:=s
 unfold klP at h
 simp only at h
 split at h
 ·rename_i hj
  split at h
  ·rename_i cs e' ho
   split at h
   ·rename_i he
    obtain rfl:=Nat.eq_of_beq_eq_true he
    split at h
    ·rename_i l' hl
     rw [setF_eq] at h
     simp only [Option.some.injEq,Prod.mk.injEq] at h
     obtain ⟨rfl,rfl⟩:=h
     exact ⟨cs,by simpa [Nat.blt_eq] using hj,ho,hl,rfl⟩
    ·cases h
   ·cases h
  ·cases h
 ·cases h
theorem klP_tame (j m:Nat) (e:TypeId) (b len cap:Nat):Tame (klP j m e b len cap):=⟨fun pk s x s' h=>by
 obtain ⟨cs,hj,ho,hl,rfl⟩:=klP_eq h
 have hb:Nat.blt j 4294967296 = true:=by simpa [Nat.blt_eq] using hj
 refine ⟨[(b,j,true),(cap,8589934592+j * 1048576+m,false),(lenL cs.toList,8589934592+j * 1048576+m,false)],rfl,Nat.le_refl _,fun k hk _=>?_,fun pk' G em _ hG=>⟨G.set j none,?_,fun k hk=>?_⟩⟩
 ·simp only
  rw [look_set _ hj ho,if_neg]
  rintro rfl
  exact hk b (List.mem_cons_self ..)
 ·have hg:=hG b j true (List.mem_cons_self ..)
  rw [ho] at hg
  obtain ⟨G,gl⟩:=G
  simp only [klP,hb,hg,Nat.beq_refl,hl,setF_eq]; rfl
 ·rcases hk with ⟨b',hb'⟩|hk
  ·simp only [List.mem_cons,Prod.mk.injEq,Bool.true_eq_false,and_false,List.not_mem_nil,or_false,and_true] at hb'
   obtain ⟨_,rfl⟩:=hb'
   have hg:=hG b k true (List.mem_cons_self ..)
   simp only
   rw [look_set _ hj ho,look_set _ hj (hg.trans ho),if_pos rfl,if_pos rfl]
  ·exact absurd hk.1 (by have:=hk.2; simp only at this; omega),fun _ _ _ _ h _ _=>h⟩
def apv (e:TypeId) (bytes c j x m:Nat) (v xv:Value) (pk:CPk) (s:CSt):Option (Value×CSt):=match xv with
 | .slice (some a) n _=>andO (rdJ x a.block (rowO a n) pk s) fun l s=>match l.all (·.oneCell') with
  | false=>none
  | true=>match c with
   | 0=>match v with
    | .slice none 0 0=>match Nat.blt 0 n && Nat.ble (n * bytes) 140737488355328 && Nat.ble n 4294967296 with
     | true=>nwA e l pk s
     | false=>none
    | _=>none
   | 1=>match v with
    | .slice (some b) len cap=>match Nat.blt cap (len+n) && Nat.ble ((len+n) * bytes) 140737488355328 && Nat.ble (len+n) 4294967296 with
     | true=>andO (rdJ j b.block (rowO b len) pk s) fun o s=>nwA e (o ++ l) pk s
     | false=>none
    | _=>none
   | _+2=>match v with
    | .slice (some ⟨b,0,none⟩) len cap=>match !Nat.beq j x && Nat.ble ((len+n) * bytes) 140737488355328 && Nat.ble (len+n) 4294967296 with
     | true=>andO (klP j m e b len cap pk s) fun o s=>nwA e (o ++ l) pk s
     | false=>none
    | _=>none
 | _=>none
theorem apv_tame (e:TypeId) (bytes c j x m:Nat) (v xv:Value):Tame (apv e bytes c j x m v xv):=by
 cases xv with
 | slice a n q=>
  cases a with
  | none=>exact Tame.fail
  | some a=>
   refine Tame.bind (rdJ_tame x a.block (rowO a n)) (fun l=>?_)
   cases l.all (·.oneCell') with
   | false=>exact Tame.fail
   | true=>
    simp only
    match c with
    | 0=>
     simp only
     split
     ·split
      ·exact nwA_tame e l
      ·exact Tame.fail
     ·exact Tame.fail
    | 1=>
     simp only
     split
     ·split
      ·exact Tame.bind (rdJ_tame j _ _) (fun o=>nwA_tame e _)
      ·exact Tame.fail
     ·exact Tame.fail
    | c+2=>
     simp only
     split
     ·split
      ·exact Tame.bind (klP_tame j m e _ _ _) (fun o=>nwA_tame e _)
      ·exact Tame.fail
     ·exact Tame.fail
 | _=>exact Tame.fail
theorem rel_row {pk:CPk} {D:Nat→Prop} {H:Hp} {n b:Nat} {w0 W W':World} {l tail:List Value} {e:TypeId} (hR:Rel pk D H w0 W) (hn:n < 4294967296) (hB:Below w0.heap.size w0 W') (hb:w0.heap.size≤b) (hrow:W'.heap[b]? = some (.cells (l ++ tail).toArray e (0,0))) (hold:∀ k o,lookH H k = some o→k < 4294967296→(pk k).1≠b∧W'.heap[(pk k).1]? = some o) :
  Rel (fun i=>if i = n then (b,tail) else pk i) (Dn D n (n+1)) (H.lay n (some (.cells (l ++ tail).toArray e (0,0)))) w0 W':=by
 refine ⟨hB,fun k u hk hkg=>?_,fun k u hk h9=>?_,fun k u hk h9=>?_,fun i k u u' hi hk h8 h9 he=>?_⟩
 ·rw [look_lay _ _ hn] at hk
  by_cases e':k = n
  ·subst e'
   rw [if_pos rfl] at hk
   cases hk
   simp only [if_true]; exact hrow
  ·rw [if_neg e'] at hk
   simp only [if_neg e']
   exact (hold k u hk hkg).2
 ·rw [look_lay _ _ hn] at hk
  by_cases e':k = n
  ·subst e'
   simp only [if_true]
   exact ⟨hb,Or.inr (by omega)⟩
  ·rw [if_neg e'] at hk
   simp only [if_neg e']
   obtain ⟨q1,q2⟩:=hR.own k u hk h9
   exact ⟨q1,Or.inl q2⟩
 ·rw [look_lay _ _ hn] at hk
  by_cases e':k = n
  ·omega
  ·rw [if_neg e'] at hk; exact hR.glob k u hk h9
 ·rw [look_lay _ _ hn] at h8 h9
  by_cases e1:i = n
  ·by_cases e2:k = n
   ·omega
   ·rw [if_neg e2] at h9
    simp only [e1,if_true,if_neg e2] at he
    exact absurd he.symm (hold k u' h9 hk).1
  ·rw [if_neg e1] at h8
   by_cases e2:k = n
   ·simp only [e2,if_true,if_neg e1] at he
    exact absurd he (hold i u h8 hi).1
   ·rw [if_neg e2] at h9
    simp only [if_neg e1,if_neg e2] at he
    exact hR.inj i k u u' hi hk h8 h9 he
theorem zero_list (z:Array Value) (k:Nat) (hz:z.size = 1):(Builtin.zeroCells z k).toList.length = k:=by
 rw [Array.length_toList,size_zeroCells,hz,Nat.mul_one]
theorem grow_rel {pk:CPk} {D:Nat→Prop} {H:Hp} {n:Nat} {w0 W:World} {l tail:List Value} {e:TypeId} (hR:Rel pk D H w0 W) (hn:n < 4294967296):Rel (fun i=>if i = n then (W.heap.size,tail) else pk i) (Dn D n (n+1)) (H.lay n (some (.cells (l ++ tail).toArray e (0,0)))) w0 (W.drew.alloc (.cells (l ++ tail).toArray e (0,0))):=by
 refine rel_row hR hn (hR.below.drew.alloc hR.below.size _) hR.below.size ?_ (fun k o hk hkg=>?_)
 ·show (W.heap.push _)[W.heap.size]? = _
  simp
 ·have:=hR.lt hk hkg
  refine ⟨by omega,?_⟩
  rw [Below.heap_alloc W.drew _ _ this]
  exact hR.live k o hk hkg
theorem apv_does {P:Program} {w0:World} {t ty e:TypeId} {i:TypeInfo} {z:Value} (ht:P.underlying t = some (.slice e)) (hi:P.info? e = some i) (hz:i.zero = some z) (hs:i.size = 1) (hzc:z.cells.size = 1) (c j x m:Nat) (v xv:Value) (pk:CPk) (D:Nat→Prop) (N:Nat) (s:CSt) (W:World) (hR:Rel pk D s.H w0 W) (hD:∀ k,s.n≤k→k < N→¬ D k) (hG:Gd (apv e i.bytes c j x m v xv) pk D N s) :
  ∃ pk' v' s' W',CAgr D pk pk'∧apv e i.bytes c j x m v xv pk' s = some (v',s')∧(Builtin.append_ #[t,t] ty #[v,xv]).run P W = .ok v' W'∧Rel pk' (Dn D s.n s'.n) s'.H w0 W':=by
 obtain ⟨v0,s0,h0,hg0,hn0⟩:=hG pk (CAgr.refl _ _)
 obtain ⟨a,n,q,rfl⟩:∃ a n q,xv = .slice (some a) n q:=by
  cases xv with
  | slice a n q=>cases a with
   | none=>simp [apv] at h0
   | some a=>exact ⟨a,n,q,rfl⟩
  | _=>simp [apv] at h0
 have step:∀ pk' s,apv e i.bytes c j x m v (.slice (some a) n q) pk' s = andO (rdJ x a.block (rowO a n) pk' s) fun l s=>_:=fun _ _=>rfl
 cases h1:rdJ x a.block (rowO a n) pk s with
 | none=>rw [step,h1] at h0; cases h0
 | some y=>
  obtain ⟨l,s1⟩:=y
  obtain ⟨ox,hx,hox,hrow,rfl⟩:=rdJ_eq h1
  have h1':∀ pk',rdJ x a.block (rowO a n) pk' s = some (l,⟨s.H,s.n,s.tr,(a.block,x,false) :: s.em⟩):=fun _=>h1
  rw [step,h1] at h0
  simp only [andO] at h0
  cases hall:l.all (·.oneCell') with
  | false=>simp only [hall] at h0; cases h0
  | true=>
   have one:∀ u∈l,u.oneCell' = true:=fun u hu=>List.all_eq_true.1 hall u hu
   simp only [hall] at h0
   have inEm:∀ {f:CPk→CSt→Option (Value×CSt)} {s2:CSt},Tame f→f pk s2 = some (v0,s0)→∀ y∈s2.em,y∈s0.em:=fun hf h y hy=>by
    obtain ⟨d,hd,_⟩:=hf.go pk _ _ _ h
    rw [hd]; exact List.mem_append_right _ hy
   have news:∀ (_:(a.block,x,false)∈s0.em),l.length = n∧∀ k u,l[k]? = some u→W.cell? (a.add k) = some u:=fun hm=>by
    have hb:=hg0 _ _ _ hm
    rw [loc_own hx] at hb
    have hW:=hR.live x ox hox hx
    rw [← hb] at hW
    exact rowO_at hW hrow
   have fin:∀ (H:Hp) (em:List (Nat×Nat×Bool)) (W1:World) (L:List Value) (k:Nat) (W':World) (b:Nat) (tail:List Value),s.n < 4294967296→s.n < N→Rel (fun i=>if i = s.n then (b,tail) else pk i) (Dn D s.n (s.n+1)) (H.lay s.n (some (.cells (L ++ tail).toArray e (0,0)))) w0 W' →
     (∀ pk',apv e i.bytes c j x m v (.slice (some a) n q) pk' s = nwA e L pk' ⟨H,s.n,s.tr,em⟩)→L.length = k→(Builtin.append_ #[t,t] ty #[v,.slice (some a) n q]).run P W = .ok (.slice (some ⟨b,0,none⟩) k (tail.length+k)) W' →
     ∃ pk' v' s' W',CAgr D pk pk'∧apv e i.bytes c j x m v (.slice (some a) n q) pk' s = some (v',s')∧(Builtin.append_ #[t,t] ty #[v,.slice (some a) n q]).run P W = .ok v' W'∧Rel pk' (Dn D s.n s'.n) s'.H w0 W':=fun H em W1 L k W' b tail hn hnN hrel hap hlen hrun=>by
    refine ⟨fun i=>if i = s.n then (b,tail) else pk i,_,_,W',fun y hy=>?_,by rw [hap,nwA_mk (s:=⟨H,s.n,s.tr,em⟩) _ hn],?_,?_⟩
    ·simp only
     rw [if_neg]
     rintro rfl
     exact hD s.n (Nat.le_refl _) hnN hy
    ·rw [hrun]
     simp only [if_true,lenL_eq,hlen]
     rfl
    ·simp only [if_true]
     exact hrel
   match c with
   | 0=>
    simp only at h0
    split at h0
    ·split at h0
     ·rename_i hc
      simp only [Bool.and_eq_true,Nat.blt_eq,Nat.ble_eq] at hc
      obtain ⟨hn,_,hs0⟩:=nwA_eq h0
      obtain ⟨hl,hn2⟩:=news (inEm (nwA_tame e l) h0 _ (List.mem_cons_self ..))
      have hr:=run_append_nil (P:=P) W t ty e i z ht hi hz a n q l (by rw [hl,hs,Nat.mul_one]) hn2 hc.1.1 (by omega) (by omega)
      have hge:=grownCap_ge W n 0 e
      have hzl:=zero_list z.cells (grownCap W n 0 e - n) hzc
      have hrel:=grow_rel (l:=l) (tail:=(Builtin.zeroCells z.cells (grownCap W n 0 e - n)).toList) (e:=e) hR hn
      have hobj:(l ++ (Builtin.zeroCells z.cells (grownCap W n 0 e - n)).toList).toArray = l.toArray ++ Builtin.zeroCells z.cells (grownCap W n 0 e - n):=by
       apply Array.ext'; simp
      refine fin s.H ((a.block,x,false) :: s.em) W l n _ W.heap.size (Builtin.zeroCells z.cells (grownCap W n 0 e - n)).toList hn (by rw [hs0] at hn0; exact hn0) hrel (fun pk'=>?_) hl ?_
      ·rw [step,h1']
       simp only [andO,hall]
       rw [show (Nat.blt 0 n && Nat.ble (n * i.bytes) 140737488355328 && Nat.ble n 4294967296) = true from by simp only [Bool.and_eq_true,Nat.blt_eq,Nat.ble_eq]; exact hc]
      ·rw [hr,hobj,hzl]
       congr 3
       omega
     ·cases h0
    ·cases h0
   | 1=>
    simp only at h0
    split at h0
    ·rename_i b len cap
     split at h0
     ·rename_i hc
      simp only [Bool.and_eq_true,Nat.blt_eq,Nat.ble_eq] at hc
      cases h2:rdJ j b.block (rowO b len) pk ⟨s.H,s.n,s.tr,(a.block,x,false) :: s.em⟩ with
      | none=>rw [h2] at h0; cases h0
      | some y2=>
       obtain ⟨ol,s2⟩:=y2
       obtain ⟨ob,hj,hob,hrow2,rfl⟩:=rdJ_eq h2
       rw [h2] at h0
       simp only at h0
       obtain ⟨hn,_,hs0⟩:=nwA_eq h0
       have hem:=inEm (nwA_tame e (ol ++ l)) h0
       obtain ⟨hl,hn2⟩:=news (hem _ (List.mem_cons_of_mem _ (List.mem_cons_self ..)))
       have hb:=hg0 _ _ _ (hem (b.block,j,false) (List.mem_cons_self ..))
       rw [loc_own hj] at hb
       have hWb:=hR.live j ob hob hj
       rw [← hb] at hWb
       obtain ⟨hol,holds⟩:=rowO_at hWb hrow2
       have hr:=run_append_grow (P:=P) W t ty e i z ht hi hz b len cap ol (by rw [hol,hs,Nat.mul_one]) holds a n q l (by rw [hl,hs,Nat.mul_one]) hn2 hc.1.1 (by omega) (growslice_fits hc.1.1 hc.1.2)
       have hge:=grownCap_ge W (len+n) cap e
       have hzl:=zero_list z.cells (grownCap W (len+n) cap e - (len+n)) hzc
       have hrel:=grow_rel (l:=ol ++ l) (tail:=(Builtin.zeroCells z.cells (grownCap W (len+n) cap e - (len+n))).toList) (e:=e) hR hn
       have hobj:(ol ++ l ++ (Builtin.zeroCells z.cells (grownCap W (len+n) cap e - (len+n))).toList).toArray = ol.toArray ++ l.toArray ++ Builtin.zeroCells z.cells (grownCap W (len+n) cap e - (len+n)):=by
        apply Array.ext'; simp
       refine fin s.H ((b.block,j,false) :: (a.block,x,false) :: s.em) W (ol ++ l) (len+n) _ W.heap.size (Builtin.zeroCells z.cells (grownCap W (len+n) cap e - (len+n))).toList hn (by rw [hs0] at hn0; exact hn0) hrel (fun pk'=>?_) (by rw [List.length_append,hol,hl]) ?_
       ·rw [step,h1']
        simp only [andO,hall]
        rw [show (Nat.blt cap (len+n) && Nat.ble ((len+n) * i.bytes) 140737488355328 && Nat.ble (len+n) 4294967296) = true from by simp only [Bool.and_eq_true,Nat.blt_eq,Nat.ble_eq]; exact hc]
        simp only
        rw [show rdJ j b.block (rowO b len) pk' ⟨s.H,s.n,s.tr,(a.block,x,false) :: s.em⟩ = _ from h2]
       ·rw [hr,hobj,hzl]
        congr 3
        omega
     ·cases h0
    ·cases h0
   | c+2=>
    simp only at h0
    split at h0
    ·rename_i b len cap
     split at h0
     ·rename_i hc
      simp only [Bool.and_eq_true,Nat.ble_eq,Bool.not_eq_true'] at hc
      have hjx:j≠x:=by rintro rfl; rw [Nat.beq_refl] at hc; simp at hc
      cases h2:klP j m e b len cap pk ⟨s.H,s.n,s.tr,(a.block,x,false) :: s.em⟩ with
      | none=>rw [h2] at h0; cases h0
      | some y2=>
       obtain ⟨ol,s2⟩:=y2
       obtain ⟨cs,hj,hob,htk,rfl⟩:=klP_eq h2
       rw [h2] at h0
       simp only at h0
       simp only at hob
       obtain ⟨hn,_,hs0⟩:=nwA_eq h0
       simp only at hn hs0
       have hem:=inEm (nwA_tame e (ol ++ l)) h0
       simp only at hem
       obtain ⟨hl,hn2⟩:=news (hem _ (by simp))
       have hb:=hg0 b j true (hem _ (by simp))
       have hcap:=hg0 cap (8589934592+j * 1048576+m) false (hem _ (by simp))
       have hlen:=hg0 (lenL cs.toList) (8589934592+j * 1048576+m) false (hem _ (by simp))
       rw [← hcap,lenL_eq,Array.length_toList] at hlen
       rw [loc_own hj] at hb
       have hWb:=hR.live j _ hob hj
       rw [← hb] at hWb
       obtain ⟨hol,hol2,hle⟩:=takeE_eq htk
       rw [Array.length_toList] at hle
       have ap:∀ pk',apv e i.bytes (c+2) j x m (.slice (some ⟨b,0,none⟩) len cap) (.slice (some a) n q) pk' s = nwA e (ol ++ l) pk' ⟨s.H.set j none,s.n,s.tr,(b,j,true) :: (cap,8589934592+j * 1048576+m,false) :: (lenL cs.toList,8589934592+j * 1048576+m,false) :: (a.block,x,false) :: s.em⟩:=fun pk'=>by
        rw [step,h1']
        simp only [andO,hall]
        rw [show (!Nat.beq j x && Nat.ble ((len+n) * i.bytes) 140737488355328 && Nat.ble (len+n) 4294967296) = true from by simp only [Bool.and_eq_true,Nat.ble_eq,Bool.not_eq_true']; exact hc]
        simp only
        rw [show klP j m e b len cap pk' ⟨s.H,s.n,s.tr,(a.block,x,false) :: s.em⟩ = _ from h2]
       have hRk:Rel pk D (s.H.set j none) w0 W:=by
        have sub:∀ k o,lookH (s.H.set j none) k = some o→lookH s.H k = some o∧k≠j:=fun k o hk=>by
         rw [look_set _ hj hob] at hk
         by_cases e':k = j
         ·rw [if_pos e'] at hk; cases hk
         ·rw [if_neg e'] at hk; exact ⟨hk,e'⟩
        exact ⟨hR.below,fun k o hk=>hR.live k o (sub k o hk).1,fun k o hk=>hR.own k o (sub k o hk).1,fun k o hk=>hR.glob k o (sub k o hk).1,fun i k o o' a b c d=>hR.inj i k o o' a b (sub i o c).1 (sub k o' d).1⟩
       have hnN:s.n < N:=by rw [hs0] at hn0; exact hn0
       by_cases hroom:len+n≤cap
       ·have hr:=run_append_room (P:=P) W t ty e i ht hi b len cap cs hWb a n q l (by rw [hl,hs,Nat.mul_one]) hn2 one hroom (by rw [hs,Nat.mul_one,hl]; omega)
        rw [hs,Nat.mul_one,← hol2,hl] at hr
        have hrel:Rel (fun i=>if i = s.n then (b,cs.toList.drop (len+n)) else pk i) (Dn D s.n (s.n+1)) ((s.H.set j none).lay s.n (some (.cells (ol ++ l ++ cs.toList.drop (len+n)).toArray e (0,0)))) w0 (W.setRow b (ol ++ l ++ cs.toList.drop (len+n)).toArray):=by
         have hwb:=(hR.own j _ hob hj).1
         rw [← hb] at hwb
         refine rel_row hRk hn ?_ hwb (setRow_heap W b cs _ e _ hWb) (fun k o hk hkg=>?_)
         ·exact hR.below.trans ⟨rfl,rfl,rfl,by simp,fun k hk=>setRow_other W b k _ (by omega)⟩
         ·have hk2:lookH s.H k = some o∧k≠j:=by
           rw [look_set _ hj hob] at hk
           by_cases e':k = j
           ·rw [if_pos e'] at hk; cases hk
           ·rw [if_neg e'] at hk; exact ⟨hk,e'⟩
          have hne:(pk k).1≠b:=fun h9=>hk2.2 (hR.inj k j o _ hkg hj hk2.1 hob (by rw [h9,hb]))
          exact ⟨hne,by rw [setRow_other W b _ _ hne]; exact hR.live k o hk2.1 hkg⟩
        refine fin _ _ W (ol ++ l) (len+n) _ b (cs.toList.drop (len+n)) hn hnN hrel ap (by rw [List.length_append,hol,hl]) ?_
        rw [hr]
        congr 2
        rw [List.length_drop,Array.length_toList]
        omega
       ·have holds:∀ k u,ol[k]? = some u→W.cell? ((⟨b,0,none⟩:Addr).add k) = some u:=(rowO_at (a:=⟨b,0,none⟩) (n:=len) (l:=ol) hWb (by simp only [rowO,dropE_eq,List.drop_zero]; exact htk)).2
        have hr:=run_append_grow (P:=P) W t ty e i z ht hi hz ⟨b,0,none⟩ len cap ol (by rw [hol,hs,Nat.mul_one]) holds a n q l (by rw [hl,hs,Nat.mul_one]) hn2 (by omega) (by omega) (growslice_fits (by omega) hc.1.2)
        have hge:=grownCap_ge W (len+n) cap e
        have hzl:=zero_list z.cells (grownCap W (len+n) cap e - (len+n)) hzc
        have hrel:=grow_rel (l:=ol ++ l) (tail:=(Builtin.zeroCells z.cells (grownCap W (len+n) cap e - (len+n))).toList) (e:=e) hRk hn
        have hobj:(ol ++ l ++ (Builtin.zeroCells z.cells (grownCap W (len+n) cap e - (len+n))).toList).toArray = ol.toArray ++ l.toArray ++ Builtin.zeroCells z.cells (grownCap W (len+n) cap e - (len+n)):=by
         apply Array.ext'; simp
        refine fin _ _ W (ol ++ l) (len+n) _ W.heap.size (Builtin.zeroCells z.cells (grownCap W (len+n) cap e - (len+n))).toList hn hnN hrel ap (by rw [List.length_append,hol,hl]) ?_
        rw [hr,hobj,hzl]
        congr 3
        omega
     ·cases h0
    ·cases h0
end Go.Proofs.YteafdlblemdclaaGreatDoor
