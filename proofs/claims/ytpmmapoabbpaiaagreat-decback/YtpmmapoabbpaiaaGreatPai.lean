/- Of what DecBackRow stands on: Sym3 Sym4 Sym5 AddTimes Multiply ShiftUp Low DgEx. -/
import Derived.Test.YtpmmapoabbpaiaaGreatPaf
import Derived.Test.YtpmmapoabbpaiaaGreatPae
namespace Go.Proofs.YtpmmapoabbpaiaaGreat
open Go.RowKit
set_option maxHeartbeats 400000
def isUp (l:Array Bool) (k:Nat):Bool:=l.getD k false
theorem isUp_iff {l:Array Bool} {k:Nat}:isUp l k = true↔l[k]? = some true:=⟨getD_true,true_getD⟩
theorem isUp_no {l:Array Bool} {k:Nat} (h:l[k]?≠some true):isUp l k = false:=by
 cases hb:isUp l k with
 | false=>rfl
 | true=>exact absurd (isUp_iff.1 hb) h
theorem set_up {l:Array Bool} {i k:Nat} (hl:l[i]? = some false):(l.setIfInBounds i true)[k]? = some true↔k = i∨l[k]? = some true:=by
 obtain ⟨hlt,-⟩:=Array.getElem?_eq_some_iff.1 hl
 by_cases hk:k = i
 ·subst hk; simp [hlt]
 ·rw [Array.getElem?_setIfInBounds_ne (Ne.symm hk)]; simp [hk]
theorem isUp_set {l:Array Bool} {i:Nat} (hl:l[i]? = some false):isUp (l.setIfInBounds i true) = fun m=>isUp l m || Nat.beq m i:=by
 funext m
 cases hb:Nat.beq m i with
 | true=>
  obtain rfl:=Nat.eq_of_beq_eq_true hb
  rw [Bool.or_true]; exact isUp_iff.2 ((set_up hl).2 (Or.inl rfl))
 | false=>
  have hne:m≠i:=by rintro rfl; rw [Nat.beq_refl] at hb; cases hb
  rw [Bool.or_false]
  unfold isUp
  rw [Array.getD_eq_getD_getElem?,Array.getElem?_setIfInBounds_ne (Ne.symm hne),← Array.getD_eq_getD_getElem?]
theorem sta_mine (base:Nat) (a:Option Addr) (n c m:Nat):Sta (fun W=>Mine W base a n c m):=⟨fun _ _ hb h=>h.kept hb,fun _ _ _ _ j u hb ht _ h=>h.put hb ht j u⟩
theorem sta_num (a:Option Addr) (n m:Nat):Sta (fun W=>Num W a n m):=⟨fun _ _ hb h=>h.kept hb,fun _ _ _ _ j u hb _ hl h=>h.put hb hl j u⟩
def Agr (l:Array Bool) (p p':Pqs):Prop:=∀ k,l[k]? = some true→p' k = p k
theorem Agr.refl (l:Array Bool) (p:Pqs):Agr l p p:=fun _ _=>rfl
theorem Agr.back {l:Array Bool} {p p':Pqs} {i:Nat} (hl:l[i]? = some false) (h:Agr (l.setIfInBounds i true) p p'):Agr l p p':=fun k hk=>h k ((set_up hl).2 (Or.inr hk))
theorem Agr.backS {l:Array Bool} {p p':Pqs} {i:Nat} {q:Pq} (hl:l[i]? = some false) (h:Agr (l.setIfInBounds i true) (p.set i q) p'):Agr l p p'∧p' i = q:=by
 refine ⟨fun k hk=>?_,?_⟩
 ·have:=h k ((set_up hl).2 (Or.inr hk))
  rw [this]
  have hne:k≠i:=by rintro rfl; rw [hl] at hk; cases hk
  simp [Pqs.set,hne]
 ·have:=h i ((set_up hl).2 (Or.inl rfl))
  rw [this]; simp [Pqs.set]
def lds (b:Nat):Nat→List Value→List Ev
 | _,[]=>[]
 | o,v :: r=>.ld ⟨b,o,none⟩ v :: lds b (o+1) r
def sts (b:Nat):Nat→List Value→List Ev
 | _,[]=>[]
 | o,v :: r=>.st ⟨b,o,none⟩ v :: sts b (o+1) r
def noPutB (j:Nat):List Spo→Bool
 | []=>true
 | x :: r=>(match x.sto with
  | some (j',_,_)=>j' != j
  | none=>true) && noPutB j r
def Spo.fac:Spo→Option Cf
 | .c _ f=>some f
 | .w _ _ _ _ _ f=>some f
 | _=>none
def factOf (S:List Spo) (p:Pqs) (k:Nat) (W:World):Prop:=match S[k]? with
 | some (.c _ cf)=>cf.g (p k) W
 | some (.w _ _ _ _ _ cf)=>cf.g (p k) W
 | some (.n _ cs t)=>noPutB (1000+k) S = true→W.heap[(p k).N]? = some (.cells cs (t % 1000000) (0,0))
 | _=>True
def FactsAt (ops:Array Oper) (S:List Spo) (p:Pqs) (i:Nat) (W:World):Prop:=∀ k,reach ops 8 i k = true→factOf S p k W
def BoxesAt (E:List Bx) (S:List Spo) (W:World):Prop:=∀ (j:Nat) (x:Bx),E[j]? = some x→noPutB j S = true→Nat.blt j 1000 = true→W.heap[x.b]? = some (.cells x.cs x.t (0,0))
structure Cx (ops:Array Oper) (E:List Bx) (S:List Spo) (G:World→Prop) (w0:World) (base:Nat) (p:Pqs) (i:Nat) (W:World):Prop where
 hb:base≤W.heap.size
 fr:Below w0.heap.size w0 W
 F:FactsAt ops S p i W
 G:G W
 B:BoxesAt E S W
def OkAt (P:Program) (ops:Array Oper) (L:Ks) (E:List Bx) (S:List Spo) (G:World→Prop) (w0:World) (base:Nat) (p:Pqs) (i:Nat):Spo→Prop
 | .v s x=>opRun P ops L (puts p 0 S) i 0 [] = some (some s,true,some (.value x,[]))
 | .l s x j off=>∃ bx bo,boxOf E S p j = some (bx,bo)∧opRun P ops L (puts p 0 S) i 0 x.cells.toList = some (some s,true,some (.value x,lds bx.b off x.cells.toList))∧((cellsOf (fun k=>Nat.blt k i) j 0 S bx.cs).toList.drop off).take x.cells.size = x.cells.toList
 | .p j off xs=>∃ bx bo,boxOf E S p j = some (bx,bo)∧opRun P ops L (puts p 0 S) i 0 [] = some (none,true,some (.skip,sts bx.b off xs))∧Nat.ble (off+xs.length) bx.cs.size = true
 | .n s cs t=>∀ r,opRun P ops L (puts p 0 S) i r [] = some (some s,true,some (.value (nv r t),[.nw (.cells cs (t % 1000000))]))
 | .c s f=>∃ fn args,opRun P ops L (puts p 0 S) i 0 [] = some (s,true,some (.enter fn args,[]))∧∀ W,Cx ops E S G w0 base p i W→Calls P fn args W fun en W'=>∃ q,en = .returned (f.f q)∧Below W.heap.size W W'∧f.g q W'
 | .u s x h=>∃ fn args,opRun P ops L (puts p 0 S) i 0 [] = some (some s,true,some (.enter fn args,[]))∧h args = x∧∀ W,Cx ops E S G w0 base p i W→Calls P fn args W fun en W'=>en = .returned x∧Below W.heap.size W W'
 | .g s x vs es=>opRun P ops L (puts p 0 S) i 0 vs = some (some s,true,some (.value x,es))∧∀ W,Cx ops E S G w0 base p i W→EvsOk 0 es W∧evs es W = W
 | .k s=>∃ x,opRun P ops L (puts p 0 S) i 0 [] = some (s,false,x)
 | .w s j off xs h f=>h (p i) = xs∧∃ bx bo,boxOf E S p j = some (bx,bo)∧Nat.ble (off+xs.length) bx.cs.size = true∧∃ fn args,opRun P ops L (puts p 0 S) i 0 [] = some (s,true,some (.enter fn args,[]))∧∀ W,Cx ops E S G w0 base p i W→W.heap[bx.b]? = some (.cells (cellsOf (fun k=>Nat.blt k i) j 0 S bx.cs) bx.t (0,0))→Calls P fn args W fun en W'=>∃ q,en = .returned (f.f q)∧(h q).length = xs.length∧Below W.heap.size (evs (sts bx.b off (h q)) W) W'∧f.g q W'
def Oks (P:Program) (ops:Array Oper) (L:Ks) (E:List Bx) (S:List Spo) (G:World→Prop) (w0:World) (base:Nat) (p:Pqs):Nat→List Spo→Prop
 | _,[]=>True
 | i,x :: r=>OkAt P ops L E S G w0 base p i x∧Oks P ops L E S G w0 base p (i+1) r
theorem Oks.at {P:Program} {ops:Array Oper} {K:Ks} {E:List Bx} {S:List Spo} {G:World→Prop} {w0:World} {base:Nat} {p:Pqs}:∀ (L:List Spo) (i0 k:Nat) (x:Spo),Oks P ops K E S G w0 base p i0 L→L[k]? = some x→OkAt P ops K E S G w0 base p (i0+k) x
 | [],_,_,_,_,hk=>by simp at hk
 | y :: r,i0,0,x,h,hk=>by
  simp only [List.getElem?_cons_zero,Option.some.injEq] at hk
  subst hk; exact h.1
 | y :: r,i0,k+1,x,h,hk=>by
  have:=Oks.at r (i0+1) k x h.2 (by simpa using hk)
  rw [show i0+(k+1) = i0+1+k from by omega]; exact this
structure SymS (ops:Array Oper) (T0:Array Value) (n:Nat) (L:Ks) (E:List Bx) (S:Pqs→List Spo) (G:World→Prop) (w0:World) (base:Nat):Prop where
 shape:∀ p p',(S p).map Spo.bare = (S p').map Spo.bare
 apart:∀ p,Puts.apart (puts p 0 (S p)) = true
 len:∀ p,(S p).length = ops.size
 within:∀ p,Puts.within (puts p 0 (S p)) T0.size = true
 back:backB ops = true
 reads:∀ p,readsOk ops L (puts p 0 (S p)) 0 ops.toList = true
 kn:Kn T0 n L
 mem:∀ p,memOk ops E (S p) 0 (S p) = true
 eb:E.all (fun x=>!x.my || noLimb x.cs.toList && x.t != 64) = true
 low:∀ x,x∈E→x.my = true→w0.heap.size≤x.b
 ne:∀ (j k:Nat) (x y:Bx),E[j]? = some x→E[k]? = some y→x.my = true→j≠k→x.b≠y.b
 lt:∀ x,x∈E→x.b < base
 w0b:w0.heap.size≤base
 sta:Sta G
structure SymI (ops:Array Oper) (T0:Array Value) (E:List Bx) (S:Pqs→List Spo) (G:World→Prop) (w0:World) (base:Nat) (p:Pqs) (l:Array Bool) (t:Array Value) (W:World):Prop where
 det:∀ p',Agr l p p'→Det ops (puts p' 0 (S p')) T0 l t
 mem:∀ p',Agr l p p'→∀ (j:Nat) (bx:Bx) (bo:Option Nat),boxOf E (S p') p' j = some (bx,bo)→(∀ k,bo = some k→l[k]? = some true)→W.heap[bx.b]? = some (.cells (cellsOf (isUp l) j 0 (S p') bx.cs) bx.t (0,0))
 fr:Below w0.heap.size w0 W
 bs:base≤W.heap.size
 nb:∀ (k s:Nat) (cs:Array Value) (t:TypeId),(S p)[k]? = some (.n s cs t)→l[k]? = some true→base≤(p k).N
 ne:∀ (k s:Nat) (cs:Array Value) (t:TypeId) (k' s':Nat) (cs':Array Value) (t':TypeId),(S p)[k]? = some (.n s cs t)→(S p)[k']? = some (.n s' cs' t')→l[k]? = some true→l[k']? = some true→k≠k'→(p k).N≠(p k').N
 fx:∀ (k:Nat) (x:Spo) (f:Cf),(S p)[k]? = some x→x.fac = some f→l[k]? = some true→f.g (p k) W
 gx:G W
theorem SymS.bare {ops:Array Oper} {T0:Array Value} {n:Nat} {L:Ks} {E:List Bx} {S:Pqs→List Spo} {G:World→Prop} {w0:World} {base:Nat} (h:SymS ops T0 n L E S G w0 base) (p p':Pqs) (i:Nat):((S p)[i]?).map Spo.bare = ((S p')[i]?).map Spo.bare:=by
 have:=congrArg (fun l=>l[i]?) (h.shape p p')
 simpa using this
theorem SymS.at_n {ops:Array Oper} {T0:Array Value} {n:Nat} {L:Ks} {E:List Bx} {S:Pqs→List Spo} {G:World→Prop} {w0:World} {base:Nat} (h:SymS ops T0 n L E S G w0 base) {p:Pqs} (p':Pqs) {i s:Nat} {cs:Array Value} {t:TypeId} (hi:(S p)[i]? = some (.n s cs t)):(S p')[i]? = some (.n s cs t):=by
 have:=h.bare p p' i
 rw [hi] at this
 cases hx:(S p')[i]? with
 | none=>rw [hx] at this; simp at this
 | some x=>rw [hx] at this; cases x <;> simp [Spo.bare] at this; obtain ⟨rfl,rfl,rfl⟩:=this; rfl
theorem SymS.at_c {ops:Array Oper} {T0:Array Value} {n:Nat} {L:Ks} {E:List Bx} {S:Pqs→List Spo} {G:World→Prop} {w0:World} {base:Nat} (h:SymS ops T0 n L E S G w0 base) {p:Pqs} (p':Pqs) {i:Nat} {s:Option Nat} {f:Cf} (hi:(S p)[i]? = some (.c s f)):(S p')[i]? = some (.c s f):=by
 have:=h.bare p p' i
 rw [hi] at this
 cases hx:(S p')[i]? with
 | none=>rw [hx] at this; simp at this
 | some x=>rw [hx] at this; cases x <;> simp [Spo.bare] at this; obtain ⟨rfl,rfl⟩:=this; rfl
theorem SymS.at_k {ops:Array Oper} {T0:Array Value} {n:Nat} {L:Ks} {E:List Bx} {S:Pqs→List Spo} {G:World→Prop} {w0:World} {base:Nat} (h:SymS ops T0 n L E S G w0 base) {p:Pqs} (p':Pqs) {i:Nat} {s:Option Nat} (hi:(S p)[i]? = some (.k s)):(S p')[i]? = some (.k s):=by
 have:=h.bare p p' i
 rw [hi] at this
 cases hx:(S p')[i]? with
 | none=>rw [hx] at this; simp at this
 | some x=>rw [hx] at this; cases x <;> simp [Spo.bare] at this; obtain rfl:=this; rfl
theorem SymS.at_v {ops:Array Oper} {T0:Array Value} {n:Nat} {L:Ks} {E:List Bx} {S:Pqs→List Spo} {G:World→Prop} {w0:World} {base:Nat} (h:SymS ops T0 n L E S G w0 base) {p:Pqs} (p':Pqs) {i s:Nat} {x:Value} (hi:(S p)[i]? = some (.v s x)):∃ x',(S p')[i]? = some (.v s x'):=by
 have:=h.bare p p' i
 rw [hi] at this
 cases hx:(S p')[i]? with
 | none=>rw [hx] at this; simp at this
 | some y=>rw [hx] at this; cases y <;> simp [Spo.bare] at this; obtain rfl:=this; exact ⟨_,rfl⟩
theorem SymS.at_u {ops:Array Oper} {T0:Array Value} {n:Nat} {L:Ks} {E:List Bx} {S:Pqs→List Spo} {G:World→Prop} {w0:World} {base:Nat} (h:SymS ops T0 n L E S G w0 base) {p:Pqs} (p':Pqs) {i s:Nat} {x:Value} {g:Array Value→Value} (hi:(S p)[i]? = some (.u s x g)):∃ x',(S p')[i]? = some (.u s x' g):=by
 have:=h.bare p p' i
 rw [hi] at this
 cases hx:(S p')[i]? with
 | none=>rw [hx] at this; simp at this
 | some y=>rw [hx] at this; cases y <;> simp [Spo.bare] at this; obtain ⟨rfl,rfl⟩:=this; exact ⟨_,rfl⟩
theorem SymS.at_g {ops:Array Oper} {T0:Array Value} {n:Nat} {L:Ks} {E:List Bx} {S:Pqs→List Spo} {G:World→Prop} {w0:World} {base:Nat} (h:SymS ops T0 n L E S G w0 base) {p:Pqs} (p':Pqs) {i s:Nat} {x:Value} {vs:List Value} {es:List Ev} (hi:(S p)[i]? = some (.g s x vs es)):∃ x' vs' es',(S p')[i]? = some (.g s x' vs' es'):=by
 have:=h.bare p p' i
 rw [hi] at this
 cases hx:(S p')[i]? with
 | none=>rw [hx] at this; simp at this
 | some y=>rw [hx] at this; cases y <;> simp [Spo.bare] at this; obtain rfl:=this; exact ⟨_,_,_,rfl⟩
theorem SymS.at_l {ops:Array Oper} {T0:Array Value} {n:Nat} {L:Ks} {E:List Bx} {S:Pqs→List Spo} {G:World→Prop} {w0:World} {base:Nat} (h:SymS ops T0 n L E S G w0 base) {p:Pqs} (p':Pqs) {i s j off:Nat} {x:Value} (hi:(S p)[i]? = some (.l s x j off)):∃ x',(S p')[i]? = some (.l s x' j off):=by
 have:=h.bare p p' i
 rw [hi] at this
 cases hx:(S p')[i]? with
 | none=>rw [hx] at this; simp at this
 | some y=>rw [hx] at this; cases y <;> simp [Spo.bare] at this; obtain ⟨rfl,rfl,rfl⟩:=this; exact ⟨_,rfl⟩
theorem SymS.at_p {ops:Array Oper} {T0:Array Value} {n:Nat} {L:Ks} {E:List Bx} {S:Pqs→List Spo} {G:World→Prop} {w0:World} {base:Nat} (h:SymS ops T0 n L E S G w0 base) {p:Pqs} (p':Pqs) {i j off:Nat} {xs:List Value} (hi:(S p)[i]? = some (.p j off xs)):∃ xs',(S p')[i]? = some (.p j off xs'):=by
 have:=h.bare p p' i
 rw [hi] at this
 cases hx:(S p')[i]? with
 | none=>rw [hx] at this; simp at this
 | some y=>rw [hx] at this; cases y <;> simp [Spo.bare] at this; obtain ⟨rfl,rfl,-⟩:=this; exact ⟨_,rfl⟩
theorem SymS.at_w {ops:Array Oper} {T0:Array Value} {n:Nat} {L:Ks} {E:List Bx} {S:Pqs→List Spo} {G:World→Prop} {w0:World} {base:Nat} (h:SymS ops T0 n L E S G w0 base) {p:Pqs} (p':Pqs) {i j off:Nat} {s:Option Nat} {xs:List Value} {g:Pq→List Value} {f:Cf} (hi:(S p)[i]? = some (.w s j off xs g f)):∃ xs',(S p')[i]? = some (.w s j off xs' g f):=by
 have:=h.bare p p' i
 rw [hi] at this
 cases hx:(S p')[i]? with
 | none=>rw [hx] at this; simp at this
 | some x=>rw [hx] at this; cases x <;> simp [Spo.bare] at this; obtain ⟨rfl,rfl,rfl,-,rfl,rfl⟩:=this; exact ⟨_,rfl⟩
theorem SymS.at_fac {ops:Array Oper} {T0:Array Value} {n:Nat} {L:Ks} {E:List Bx} {S:Pqs→List Spo} {G:World→Prop} {w0:World} {base:Nat} (h:SymS ops T0 n L E S G w0 base) {p:Pqs} (p':Pqs) {i:Nat} {x:Spo} {f:Cf} (hi:(S p)[i]? = some x) (hf:x.fac = some f):∃ x',(S p')[i]? = some x'∧x'.fac = some f:=by
 cases x <;> simp only [Spo.fac,Option.some.injEq,reduceCtorEq] at hf
 ·subst hf; exact ⟨_,h.at_c p' hi,rfl⟩
 ·subst hf; obtain ⟨xs',h'⟩:=h.at_w p' hi; exact ⟨_,h',rfl⟩
theorem SymS.mem_at {ops:Array Oper} {T0:Array Value} {n:Nat} {L:Ks} {E:List Bx} {S:Pqs→List Spo} {G:World→Prop} {w0:World} {base:Nat} (h:SymS ops T0 n L E S G w0 base) (p:Pqs) {i:Nat} {x:Spo} (hi:(S p)[i]? = some x):∃ r,memOk ops E (S p) i (x :: r) = true:=by
 have:=memOk_at (S p) 0 i (h.mem p)
 rw [Nat.zero_add] at this
 obtain ⟨hlt,he⟩:=List.getElem?_eq_some_iff.1 hi
 rw [List.drop_eq_getElem_cons hlt,he] at this
 exact ⟨_,this⟩
theorem SymI.cells {ops:Array Oper} {T0:Array Value} {E:List Bx} {S:Pqs→List Spo} {G:World→Prop} {w0:World} {base:Nat} {p:Pqs} {l:Array Bool} {t:Array Value} {W:World} {i:Nat} (hI:SymI ops T0 E S G w0 base p l t W) (hi:i∈Region.ready .any ops l) (hl:l[i]? = some false) {p':Pqs} (ha:Agr l p p') {j:Nat} {bx:Bx} {bo:Option Nat} (hb:boxOf E (S p') p' j = some (bx,bo)) (ht:touchOk ops i j 0 (S p') = true) (hr:Nat.blt j 1000 = true∨reach ops 4 i (j - 1000) = true) :
  W.heap[bx.b]? = some (.cells (cellsOf (isUp l) j 0 (S p') bx.cs) bx.t (0,0))∧cellsOf (isUp l) j 0 (S p') bx.cs = cellsOf (fun k=>Nat.blt k i) j 0 (S p') bx.cs∧(∀ k,bo = some k→l[k]? = some true):=by
 have hD:=hI.det p' ha
 have hal:∀ k,bo = some k→l[k]? = some true:=by
  intro k hk
  subst hk
  unfold boxOf at hb
  rcases hr with hr|hr
  ·rw [hr] at hb; simp at hb
  ·split at hb
   ·simp at hb
   ·split at hb
    ·simp only [Option.some.injEq,Prod.mk.injEq] at hb
     obtain ⟨-,rfl⟩:=hb
     exact reach_ready hD hr hi
    ·cases hb
 refine ⟨hI.mem p' ha j bx bo hb hal,cellsOf_agree _ _ _ (fun k off xs hk=>?_),hal⟩
 have:=touchOk_at (S p') 0 k off xs ht hk
 rw [Nat.zero_add] at this ⊢
 rcases this with rfl|⟨h1,h2⟩|⟨h1,h2⟩
 ·rw [isUp_no (by rw [hl]; simp)]
  symm
  cases hb9:Nat.blt k k with
  | false=>rfl
  | true=>rw [Nat.blt_eq] at hb9; omega
 ·rw [isUp_iff.2 (reach_ready hD h2 hi)]; symm; simpa [Nat.blt_eq] using h1
 ·rw [isUp_no (fun hc=>by have:=reach_done hD _ _ _ h2 hc; rw [hl] at this; cases this)]
  symm
  cases hb9:Nat.blt k i with
  | false=>rfl
  | true=>rw [Nat.blt_eq] at hb9; omega
theorem SymI.kept {ops:Array Oper} {T0:Array Value} {n:Nat} {L:Ks} {E:List Bx} {S:Pqs→List Spo} {G:World→Prop} {w0:World} {base:Nat} {p:Pqs} {l:Array Bool} {t:Array Value} {W W':World} (hs:SymS ops T0 n L E S G w0 base) (hI:SymI ops T0 E S G w0 base p l t W) (hb:Below W.heap.size W W'):SymI ops T0 E S G w0 base p l t W':=
 ⟨hI.det,fun p' ha j bx bo h1 h2=>by have:=hI.mem p' ha j bx bo h1 h2; rw [hb.block _ (block_lt this)]; exact this,gr_trans hI.fr hb,Nat.le_trans hI.bs hb.size,hI.nb,hI.ne,fun k x f hk hf hl=>(f.st _).kept W W' hb (hI.fx k x f hk hf hl),hs.sta.kept W W' hb hI.gx⟩
theorem wpOp_run {P:Program} {ops:Array Oper} {Q:Exit→Act→World→Prop} {o:Oper} {i:Nat} {a:Act} {W W':World} {nx:Next} {K:Act→World→Prop} (ho:ops[i]? = some o) (hw:Region.wanted o (yielded ops a.tmps) = true) (hr:(execOp a.eval o).run P W = .ok nx W') (h:o.upon P a K Q (.ok nx W')):wpOp P ops Q i K a W:=by
 unfold wpOp
 rw [ho]
 simp only [hw,if_true]
 left
 unfold Oper.wp
 rw [hr]; exact h
theorem SymI.step_val {ops:Array Oper} {T0:Array Value} {n:Nat} {L:Ks} {E:List Bx} {S:Pqs→List Spo} {G:World→Prop} {w0:World} {base:Nat} {p:Pqs} {l:Array Bool} {t:Array Value} {W:World} {i s:Nat} {x:Value} (hs:SymS ops T0 n L E S G w0 base) (hI:SymI ops T0 E S G w0 base p l t W) (hi:i∈Region.ready .any ops l) (hl:l[i]? = some false)
  (hk:∀ p',((S p')[i]?).bind Spo.sto = none) (hn:∀ p',∀ s cs t,(S p')[i]?≠some (.n s cs t)) (hc:((S p)[i]?).bind Spo.fac = none) (hv:∀ p',Agr l p p'→(puts p' 0 (S p'))[i]?.getD none = some (s,x)) :
  SymI ops T0 E S G w0 base p (l.setIfInBounds i true) (t.setIfInBounds s x) W:=by
 refine ⟨fun p' ha=>?_,fun p' ha j bx bo hb hal=>?_,hI.fr,hI.bs,fun k s' cs t' hk' hl'=>?_,fun k s' cs t' k' s'' cs'' t'' h1 h2 h3 h4 h5=>?_,fun k x' f hk' hf' hl'=>?_,hI.gx⟩
 ·have ha':=ha.back hl
  have:=(hI.det p' ha').step (hs.apart p') (hs.within p') hi hl
  rw [hv p' ha'] at this
  exact this
 ·have ha':=ha.back hl
  have hal':∀ k,bo = some k→l[k]? = some true:=fun k hk'=>by
   rcases (set_up hl).1 (hal k hk') with rfl|h
   ·subst hk'
    unfold boxOf at hb
    split at hb
    ·cases he:E[j]? <;> rw [he] at hb <;> simp at hb
    ·split at hb
     ·rename_i hS9
      simp only [Option.some.injEq,Prod.mk.injEq] at hb
      rw [hb.2] at hS9
      exact absurd hS9 (hn p' _ _ _)
     ·cases hb
   ·exact h
  rw [hI.mem p' ha' j bx bo hb hal']
  congr 2
  refine cellsOf_agree _ _ _ (fun k off xs hk'=>?_)
  rw [isUp_set hl,Nat.zero_add]
  have hne:Nat.beq k i = false:=by
   cases hb9:Nat.beq k i with
   | false=>rfl
   | true=>obtain rfl:=Nat.eq_of_beq_eq_true hb9; rw [hk p'] at hk'; cases hk'
  simp only [hne,Bool.or_false]
 ·rcases (set_up hl).1 hl' with rfl|h
  ·exact absurd hk' (hn p _ _ _)
  ·exact hI.nb k s' cs t' hk' h
 ·have g1:l[k]? = some true:=by
   rcases (set_up hl).1 h3 with rfl|h
   ·exact absurd h1 (hn p _ _ _)
   ·exact h
  have g2:l[k']? = some true:=by
   rcases (set_up hl).1 h4 with rfl|h
   ·exact absurd h2 (hn p _ _ _)
   ·exact h
  exact hI.ne k s' cs t' k' s'' cs'' t'' h1 h2 g1 g2 h5
 ·rcases (set_up hl).1 hl' with rfl|h
  ·rw [hk'] at hc; simp only [Option.bind_some] at hc; rw [hf'] at hc; cases hc
  ·exact hI.fx k x' f hk' hf' h
theorem lds_ok {W:World} {b:Nat} {cs:Array Value} {t:TypeId} (h:W.heap[b]? = some (.cells cs t (0,0))):∀ (vs:List Value) (off:Nat),(cs.toList.drop off).take vs.length = vs→EvsOk 0 (lds b off vs) W∧evs (lds b off vs) W = W
 | [],_,_=>⟨trivial,rfl⟩
 | v :: r,off,e=>by
  have hv:cs.toList[off]? = some v:=by
   have:=congrArg (fun L=>L[0]?) e
   simpa using this
  obtain ⟨hlt,-⟩:=List.getElem?_eq_some_iff.1 hv
  have hr:(cs.toList.drop (off+1)).take r.length = r:=by
   rw [List.drop_eq_getElem_cons hlt,List.length_cons,List.take_succ_cons] at e
   exact (List.cons.inj e).2
  obtain ⟨h1,h2⟩:=lds_ok h r (off+1) hr
  exact ⟨⟨by rw [cell_of_row W b off _ _ _ h]; simpa using hv,h1⟩,h2⟩
theorem noLimb_set {cs:Array Value} {k:Nat} {u:Value} (h:NoLimb cs.toList) (hu:∀ z,u≠.int .u32 z):NoLimb (cs.setIfInBounds k u).toList:=by
 intro v hv z
 rw [Array.toList_setIfInBounds] at hv
 rcases List.mem_or_eq_of_mem_set hv with hv|rfl
 ·exact h v hv z
 ·exact hu z
theorem noLimb_setL:∀ (xs:List Value) (k:Nat) (cs:Array Value),NoLimb cs.toList→NoLimb xs→NoLimb (setL cs k xs).toList
 | [],_,_,h,_=>h
 | x :: r,k,_,h,hx=>noLimb_setL r (k+1) _ (noLimb_set h (fun z=>hx x (List.mem_cons_self ..) z)) (fun v hv=>hx v (List.mem_cons_of_mem _ hv))
theorem setL_size:∀ (xs:List Value) (k:Nat) (cs:Array Value),(setL cs k xs).size = cs.size
 | [],_,_=>rfl
 | _ :: r,_,_=>by rw [setL,setL_size r]; simp
theorem cellsOf_size {f:Nat→Bool} {j:Nat}:∀ (S:List Spo) (i:Nat) (cs:Array Value),(cellsOf f j i S cs).size = cs.size
 | [],_,_=>rfl
 | x :: r,i,cs=>by
  simp only [cellsOf]
  rw [cellsOf_size r]
  cases x.sto with
  | none=>rfl
  | some q=>
   simp only
   split
   ·exact setL_size _ _ _
   ·rfl
theorem cellsOf_limb {ops:Array Oper} {E:List Bx} {S0:List Spo} {f:Nat→Bool} {j:Nat}:∀ (S:List Spo) (i:Nat) (cs:Array Value),memOk ops E S0 i S = true→NoLimb cs.toList→NoLimb (cellsOf f j i S cs).toList
 | [],_,_,_,h=>h
 | x :: r,i,cs,hm,h=>by
  have hr:memOk ops E S0 (i+1) r = true:=by
   cases x <;> first|exact hm|(simp only [memOk,Bool.and_eq_true] at hm; exact hm.2)
  cases hx:x.sto with
  | none=>simp only [cellsOf,hx]; exact cellsOf_limb r (i+1) cs hr h
  | some q=>
   obtain ⟨j',off,xs⟩:=q
   have hs:=memOk_sto hm hx
   simp only [stoOk,Bool.and_eq_true] at hs
   simp only [cellsOf,hx]
   refine cellsOf_limb r (i+1) _ hr ?_
   split
   ·exact noLimb_setL _ _ _ h (noLimb_of _ hs.1.2)
   ·exact h
theorem sts_ok {w0:World} {b:Nat} {t:TypeId} (ht:t≠64) (hw:w0.heap.size≤b):∀ (xs:List Value) (off:Nat) (cs:Array Value) (W:World),W.heap[b]? = some (.cells cs t (0,0))→off+xs.length≤cs.size→NoLimb cs.toList→NoLimb xs→xs.all (·.oneCell') = true→Below w0.heap.size w0 W →
  EvsOk 0 (sts b off xs) W∧(evs (sts b off xs) W).heap[b]? = some (.cells (setL cs off xs) t (0,0))∧(∀ k,k≠b→(evs (sts b off xs) W).heap[k]? = W.heap[k]?)∧Below w0.heap.size w0 (evs (sts b off xs) W)∧(evs (sts b off xs) W).heap.size = W.heap.size∧(∀ f:World→Prop,Sta f→f W→f (evs (sts b off xs) W))
 | [],_,_,_,h,_,_,_,_,hb=>⟨trivial,h,fun _ _=>rfl,hb,rfl,fun _ _ hf=>hf⟩
 | x :: r,off,cs,W,h,hn,hc,hx,h1,hb=>by
  simp only [List.length_cons] at hn
  simp only [List.all_cons,Bool.and_eq_true] at h1
  have hlt:off < cs.size:=by omega
  have hset:(W.setCell ⟨b,off,none⟩ x).heap[b]? = some (.cells (cs.setIfInBounds off x) t (0,0)):=heap_setCell_same W b off _ _ _ h
  obtain ⟨g1,g2,g3,g4,g5,g6⟩:=sts_ok (w0:=w0) ht hw r (off+1) (cs.setIfInBounds off x) (W.setCell ⟨b,off,none⟩ x) hset (by simp; omega) (noLimb_set hc (fun z=>hx x (List.mem_cons_self ..) z)) (fun v hv=>hx v (List.mem_cons_of_mem _ hv)) h1.2 (hb.setCell hw x)
  refine ⟨⟨⟨cs[off],by rw [cell_of_row W b off _ _ _ h]; simp [hlt]⟩,frozen_of_row W b off _ _ h,h1.1,g1⟩,g2,fun k hk=>?_,g4,?_,fun f hf hW=>?_⟩
  ·rw [show evs (sts b off (x :: r)) W = evs (sts b (off+1) r) (W.setCell ⟨b,off,none⟩ x) from rfl,g3 k hk]
   exact heap_setCell_other W _ k x hk
  ·rw [show evs (sts b off (x :: r)) W = evs (sts b (off+1) r) (W.setCell ⟨b,off,none⟩ x) from rfl,g5]; simp
  ·exact g6 f hf (hf.put W b cs t off x h ht hc hW)
theorem puts_i {S:Pqs→List Spo} {p:Pqs} {i:Nat} {x:Spo} (h:(S p)[i]? = some x):(puts p 0 (S p))[i]?.getD none = x.put p i:=by
 rw [puts_at,h,Nat.zero_add]; rfl
theorem boxOf_cases {E:List Bx} {Z:List Spo} {p:Pqs} {j:Nat} {bx:Bx} {bo:Option Nat} (h:boxOf E Z p j = some (bx,bo)):(Nat.blt j 1000 = true∧E[j]? = some bx∧bo = none)∨(Nat.blt j 1000 = false∧∃ s cs t,Z[j - 1000]? = some (.n s cs t)∧bx = ⟨(p (j - 1000)).N,cs,t % 1000000,true⟩∧bo = some (j - 1000)):=by
 unfold boxOf at h
 split at h
 ·rename_i hb
  refine Or.inl ⟨hb,?_⟩
  cases he:E[j]? with
  | none=>rw [he] at h; simp at h
  | some x=>rw [he] at h; simp at h; exact ⟨by rw [h.1],h.2.symm⟩
 ·rename_i hb
  split at h
  ·rename_i s cs t hS
   simp only [Option.some.injEq,Prod.mk.injEq] at h
   exact Or.inr ⟨hb,s,cs,t,hS,h.1.symm,h.2.symm⟩
  ·cases h
theorem noPut_no {j:Nat}:∀ (L:List Spo),noPutB j L = true→∀ (k off:Nat) (xs:List Value),(L[k]?).bind Spo.sto≠some (j,off,xs):=by
 intro L
 induction L with
 | nil=>intro _ k off xs h; simp at h
 | cons y r ih=>
  intro hL k off xs h
  cases k with
  | zero=>
   simp only [List.getElem?_cons_zero,Option.bind_some] at h
   simp [noPutB,h] at hL
  | succ k=>
   have hr:noPutB j r = true:=by unfold noPutB at hL; exact (Bool.and_eq_true_iff.1 hL).2
   exact ih hr k off xs (by simpa using h)
theorem SymI.boxes {ops:Array Oper} {T0:Array Value} {E:List Bx} {S:Pqs→List Spo} {G:World→Prop} {w0:World} {base:Nat} {p:Pqs} {l:Array Bool} {t:Array Value} {W:World} (hI:SymI ops T0 E S G w0 base p l t W):BoxesAt E (S p) W:=fun j x hj hnpj hj1=>by
 have hb:boxOf E (S p) p j = some (x,none):=by unfold boxOf; rw [hj1,hj]; rfl
 have:=hI.mem p (Agr.refl l p) j x none hb (fun k hk=>by cases hk)
 rw [this,cellsOf_none]
 intro k off xs hk
 exact absurd hk (noPut_no _ hnpj k off xs)
theorem SymI.facts {ops:Array Oper} {T0:Array Value} {E:List Bx} {S:Pqs→List Spo} {G:World→Prop} {w0:World} {base:Nat} {p:Pqs} {l:Array Bool} {t:Array Value} {W:World} {i:Nat} (hI:SymI ops T0 E S G w0 base p l t W) (hi:i∈Region.ready .any ops l):FactsAt ops (S p) p i W:=fun k hre=>by
 unfold factOf
 split
 ·rename_i s' cf hk
  exact hI.fx k _ cf hk rfl (reach_ready (hI.det p (Agr.refl l p)) hre hi)
 ·rename_i cf hk
  exact hI.fx k _ cf hk rfl (reach_ready (hI.det p (Agr.refl l p)) hre hi)
 ·rename_i s' cs ty hk
  intro hnp
  have hb:boxOf E (S p) p (1000+k) = some (⟨(p k).N,cs,ty % 1000000,true⟩,some k):=by
   unfold boxOf
   rw [show Nat.blt (1000+k) 1000 = false from by cases h:Nat.blt (1000+k) 1000 with
    | false=>rfl
    | true=>rw [Nat.blt_eq] at h; omega]
   simp [hk]
  have h1:=hI.mem p (Agr.refl l p) (1000+k) _ (some k) hb (fun k' e=>by cases e; exact reach_ready (hI.det p (Agr.refl l p)) hre hi)
  rw [cellsOf_none] at h1
  ·exact h1
  intro k' off xs hk'
  exact absurd hk' (noPut_no _ hnp _ _ _)
 ·trivial
theorem SymI.step {P:Program} {ops:Array Oper} {Q:Exit→Act→World→Prop} {T0:Array Value} {n:Nat} {L:Ks} {E:List Bx} {S:Pqs→List Spo} {G:World→Prop} {w0:World} {base:Nat} {p:Pqs} {l:Array Bool} {t:Array Value} {W:World} {i:Nat} (hs:SymS ops T0 n L E S G w0 base) (hok:∀ p,Oks P ops L E (S p) G w0 base p 0 (S p)) (hI:SymI ops T0 E S G w0 base p l t W) (hi:i∈Region.ready .any ops l) (hl:l[i]? = some false) :
  wpOp P ops Q i (fun a W'=>∃ p' t',a = ⟨t',[]⟩∧SymI ops T0 E S G w0 base p' (l.setIfInBounds i true) t' W') ⟨t,[]⟩ W:=by
 have hD:=hI.det p (Agr.refl l p)
 have hil:i < ops.size:=by rw [← hD.len]; exact (Array.getElem?_eq_some_iff.1 hl).1
 obtain ⟨sp,hsp⟩:∃ sp,(S p)[i]? = some sp:=⟨(S p)[i]'(by rw [hs.len]; exact hil),List.getElem?_eq_getElem _⟩
 have hokp:∀ p' x,(S p')[i]? = some x→OkAt P ops L E (S p') G w0 base p' i x:=fun p' x hx=>by
  have:=Oks.at (S p') 0 i x (hok p') hx
  rw [Nat.zero_add] at this; exact this
 have hat:=fun p' (ha:Agr l p p') {r:Nat} {vs:List Value} {d:Option Nat} {b:Bool} {x:Option (Next×List Ev)} (h:opRun P ops L (puts p' 0 (S p')) i r vs = some (d,b,x))=>opRun_at hs.kn (hI.det p' ha) (hs.apart p') (hs.reads p') hi hl h
 cases sp with
 | v s x=>
  have h0:=hokp p _ hsp
  obtain ⟨o,ho,hd,hw,hr⟩:=hat p (Agr.refl l p) h0
  have hrun:=script_run P 0 _ _ _ _ W hr trivial
  refine wpOp_run ho hw hrun ?_
  show ∃ p' t',_
  rw [hd]
  refine ⟨p,_,rfl,hI.step_val hs hi hl (fun p'=>?_) (fun p' s' cs t' h=>?_) ?_ (fun p' ha=>?_)⟩
  ·obtain ⟨x',hx'⟩:=hs.at_v p' hsp; rw [hx']; rfl
  ·obtain ⟨x',hx'⟩:=hs.at_v p' hsp; rw [h] at hx'; cases hx'
  ·rw [hsp]; rfl
  ·obtain ⟨x',hx'⟩:=hs.at_v p' hsp
   rw [puts_i hx']
   obtain ⟨o',ho',-,-,hr'⟩:=hat p' ha (hokp p' _ hx')
   rw [ho] at ho'; cases ho'
   have hrun':=script_run P 0 _ _ _ _ W hr' trivial
   rw [hrun] at hrun'
   cases hrun'; rfl
 | l s x j off=>
  have hrn:∀ p',Agr l p p'→∀ x',(S p')[i]? = some (.l s x' j off)→∃ o,ops[i]? = some o∧o.dst = some s∧Region.wanted o (yielded ops t) = true∧(execOp (Act.eval ⟨t,[]⟩) o).run P W = .ok (.value x') W:=fun p' ha x' hx'=>by
   obtain ⟨bx,bo,hb,h0,he⟩:=hokp p' _ hx'
   obtain ⟨o,ho,hd,hw,hr⟩:=hat p' ha h0
   obtain ⟨rr,hm⟩:=hs.mem_at p' hx'
   simp only [memOk,Bool.and_eq_true,Bool.or_eq_true] at hm
   obtain ⟨c1,c2,-⟩:=hI.cells hi hl ha hb hm.1.1 hm.1.2
   rw [← c2,← Array.length_toList] at he
   obtain ⟨g1,g2⟩:=lds_ok c1 _ _ he
   have hrun:=script_run P 0 _ _ _ _ W hr g1
   rw [g2] at hrun
   exact ⟨o,ho,hd,hw,hrun⟩
  obtain ⟨o,ho,hd,hw,hrun⟩:=hrn p (Agr.refl l p) x hsp
  refine wpOp_run ho hw hrun ?_
  show ∃ p' t',_
  rw [hd]
  refine ⟨p,_,rfl,hI.step_val hs hi hl (fun p'=>?_) (fun p' s' cs t' h=>?_) ?_ (fun p' ha=>?_)⟩
  ·obtain ⟨x',hx'⟩:=hs.at_l p' hsp; rw [hx']; rfl
  ·obtain ⟨x',hx'⟩:=hs.at_l p' hsp; rw [h] at hx'; cases hx'
  ·rw [hsp]; rfl
  ·obtain ⟨x',hx'⟩:=hs.at_l p' hsp
   rw [puts_i hx']
   obtain ⟨o',ho',-,-,hrun'⟩:=hrn p' ha x' hx'
   rw [ho] at ho'; cases ho'
   rw [hrun] at hrun'
   cases hrun'; rfl
 | g s x vs es=>
  have hrn:∀ p',Agr l p p'→SymI ops T0 E S G w0 base p' l t W→∀ x' vs' es',(S p')[i]? = some (.g s x' vs' es')→∃ o,ops[i]? = some o∧o.dst = some s∧Region.wanted o (yielded ops t) = true∧(execOp (Act.eval ⟨t,[]⟩) o).run P W = .ok (.value x') W:=fun p' ha hI' x' vs' es' hx'=>by
   obtain ⟨h0,he⟩:=hokp p' _ hx'
   obtain ⟨o,ho,hd,hw,hr⟩:=hat p' ha h0
   obtain ⟨g1,g2⟩:=he W ⟨hI'.bs,hI'.fr,hI'.facts hi,hI'.gx,hI'.boxes⟩
   have hrun:=script_run P 0 _ _ _ _ W hr g1
   rw [g2] at hrun
   exact ⟨o,ho,hd,hw,hrun⟩
  have hto:∀ p',Agr l p p'→SymI ops T0 E S G w0 base p' l t W:=fun p' ha=>
   ⟨fun p'' h=>hI.det p'' (fun k hk=>(h k hk).trans (ha k hk)),fun p'' h=>hI.mem p'' (fun k hk=>(h k hk).trans (ha k hk)),hI.fr,hI.bs,fun k s' cs t' hk hl'=>by rw [ha k hl']; exact hI.nb k s' cs t' (hs.at_n p hk) hl',fun k s' cs t' k' s'' cs'' t'' h1 h2 h3 h4 h5=>by rw [ha k h3,ha k' h4]; exact hI.ne k s' cs t' k' s'' cs'' t'' (hs.at_n p h1) (hs.at_n p h2) h3 h4 h5,fun k x f hk hf hl'=>by rw [ha k hl']; obtain ⟨x2,h2,h3⟩:=hs.at_fac p hk hf; exact hI.fx k x2 f h2 h3 hl',hI.gx⟩
  obtain ⟨o,ho,hd,hw,hrun⟩:=hrn p (Agr.refl l p) hI x vs es hsp
  refine wpOp_run ho hw hrun ?_
  show ∃ p' t',_
  rw [hd]
  refine ⟨p,_,rfl,hI.step_val hs hi hl (fun p'=>?_) (fun p' s' cs t' h=>?_) ?_ (fun p' ha=>?_)⟩
  ·obtain ⟨x',vs',es',hx'⟩:=hs.at_g p' hsp; rw [hx']; rfl
  ·obtain ⟨x',vs',es',hx'⟩:=hs.at_g p' hsp; rw [h] at hx'; cases hx'
  ·rw [hsp]; rfl
  ·obtain ⟨x',vs',es',hx'⟩:=hs.at_g p' hsp
   rw [puts_i hx']
   obtain ⟨o',ho',-,-,hrun'⟩:=hrn p' ha (hto p' ha) x' vs' es' hx'
   rw [ho] at ho'; cases ho'
   rw [hrun] at hrun'
   cases hrun'; rfl
 | k s=>
  obtain ⟨x,h0⟩:=hokp p _ hsp
  obtain ⟨o,ho,hd,hw,hr⟩:=hat p (Agr.refl l p) h0
  have hnp:∀ p',((S p')[i]?).bind Spo.sto = none:=fun p'=>by rw [hs.at_k p' hsp]; rfl
  have hnn:∀ p' s' cs t',(S p')[i]?≠some (.n s' cs t'):=fun p' s' cs t' h=>by have:=hs.at_k p' hsp; rw [h] at this; cases this
  have hc:((S p)[i]?).bind Spo.fac = none:=by rw [hsp]; rfl
  unfold wpOp
  rw [ho]
  simp only [hw,Bool.false_eq_true,if_false]
  rw [hd]
  cases s with
  | some s=>
   exact ⟨p,_,rfl,hI.step_val hs hi hl hnp hnn hc (fun p' ha=>by rw [puts_i (hs.at_k p' hsp)]; rfl)⟩
  | none=>
   refine ⟨p,t,rfl,?_⟩
   refine ⟨fun p' ha=>?_,fun p' ha j bx bo hb hal=>?_,hI.fr,hI.bs,fun k s' cs t' hk' hl'=>?_,fun k s' cs t' k' s'' cs'' t'' h1 h2 h3 h4 h5=>?_,fun k x' f hk' hf' hl'=>?_,hI.gx⟩
   ·have ha':=ha.back hl
    have:=(hI.det p' ha').step (hs.apart p') (hs.within p') hi hl
    rw [puts_i (hs.at_k p' hsp)] at this
    exact this
   ·have ha':=ha.back hl
    have hal':∀ k,bo = some k→l[k]? = some true:=fun k hk'=>by
     rcases (set_up hl).1 (hal k hk') with rfl|h
     ·rcases boxOf_cases hb with ⟨-,-,h⟩|⟨-,s',cs,t',h,-,h2⟩
      ·rw [h] at hk'; cases hk'
      ·rw [h2] at hk'; have hk':=Option.some.inj hk'; rw [hk'] at h; exact absurd h (hnn p' _ _ _)
     ·exact h
    rw [hI.mem p' ha' j bx bo hb hal']
    congr 2
    refine cellsOf_agree _ _ _ (fun k off xs hk'=>?_)
    rw [isUp_set hl,Nat.zero_add]
    have hne:Nat.beq k i = false:=by
     cases hb9:Nat.beq k i with
     | false=>rfl
     | true=>obtain rfl:=Nat.eq_of_beq_eq_true hb9; rw [hnp p'] at hk'; cases hk'
    simp only [hne,Bool.or_false]
   ·rcases (set_up hl).1 hl' with rfl|h
    ·exact absurd hk' (hnn p _ _ _)
    ·exact hI.nb k s' cs t' hk' h
   ·have g1:l[k]? = some true:=by
     rcases (set_up hl).1 h3 with rfl|h
     ·exact absurd h1 (hnn p _ _ _)
     ·exact h
    have g2:l[k']? = some true:=by
     rcases (set_up hl).1 h4 with rfl|h
     ·exact absurd h2 (hnn p _ _ _)
     ·exact h
    exact hI.ne k s' cs t' k' s'' cs'' t'' h1 h2 g1 g2 h5
   ·rcases (set_up hl).1 hl' with rfl|h
    ·rw [hk'] at hc; simp only [Option.bind_some] at hc; rw [hf'] at hc; cases hc
    ·exact hI.fx k x' f hk' hf' h
 | p j off xs=>
  have hc:((S p)[i]?).bind Spo.fac = none:=by rw [hsp]; rfl
  have hnn:∀ p' s' cs t',(S p')[i]?≠some (.n s' cs t'):=fun p' s' cs t' h=>by obtain ⟨x',this⟩:=hs.at_p p' hsp; rw [h] at this; cases this
  have hrn:∀ p',Agr l p p'→∀ xs',(S p')[i]? = some (.p j off xs')→∃ o bx bo W',ops[i]? = some o∧o.dst = none∧Region.wanted o (yielded ops t) = true∧(execOp (Act.eval ⟨t,[]⟩) o).run P W = .ok .skip W'∧boxOf E (S p') p' j = some (bx,bo)∧(∀ k,bo = some k→l[k]? = some true)∧bx.my = true∧W'.heap[bx.b]? = some (.cells (setL (cellsOf (isUp l) j 0 (S p') bx.cs) off xs') bx.t (0,0))∧(∀ k,k≠bx.b→W'.heap[k]? = W.heap[k]?)∧Below w0.heap.size w0 W'∧W'.heap.size = W.heap.size∧(∀ f:World→Prop,Sta f→f W→f W'):=fun p' ha xs' hx'=>by
   obtain ⟨bx,bo,hb,h0,he⟩:=hokp p' _ hx'
   obtain ⟨o,ho,hd,hw,hr⟩:=hat p' ha h0
   obtain ⟨rr,hm⟩:=hs.mem_at p' hx'
   have hm0:=hm
   simp only [memOk,stoOk,Bool.and_eq_true] at hm
   have hmy:bx.my = true∧w0.heap.size≤bx.b∧(NoLimb bx.cs.toList∧bx.t≠64)∧(Nat.blt j 1000 = true∨reach ops 4 i (j - 1000) = true):=by
    have h2:=hm.1.1.1.2
    rcases boxOf_cases hb with ⟨hj,hE,-⟩|⟨hj,s',cs,t',hS,rfl,rfl⟩
    ·rw [hj,hE] at h2
     have h3:=List.all_eq_true.1 hs.eb bx (List.mem_of_getElem? hE)
     simp only at h2
     rw [h2] at h3
     simp only [Bool.not_true,Bool.false_or,Bool.and_eq_true,bne_iff_ne] at h3
     exact ⟨h2,hs.low bx (List.mem_of_getElem? hE) h2,⟨noLimb_of _ h3.1,h3.2⟩,Or.inl hj⟩
    ·rw [hj] at h2
     simp only [hS,Bool.and_eq_true,bne_iff_ne] at h2
     have hdn:=reach_ready (hI.det p' ha) h2.1 hi
     have hSp:(S p)[j - 1000]? = some (.n s' cs t'):=hs.at_n p hS
     have hN:=ha _ hdn
     refine ⟨rfl,?_,⟨noLimb_of _ h2.2.1,h2.2.2⟩,Or.inr h2.1⟩
     show w0.heap.size≤(p' (j - 1000)).N
     rw [hN]
     exact Nat.le_trans hs.w0b (hI.nb _ _ _ _ hSp hdn)
   obtain ⟨hmy,hlow,⟨hlim,hty⟩,hre⟩:=hmy
   obtain ⟨c1,c2,c3⟩:=hI.cells hi hl ha hb hm.1.1.1.1 hre
   obtain ⟨g1,g2,g3,g4,g5,g6⟩:=sts_ok (w0:=w0) hty hlow xs' off _ W c1 (by rw [cellsOf_size]; exact Nat.le_of_ble_eq_true he) (cellsOf_limb _ _ _ (hs.mem p') hlim) (noLimb_of _ hm.1.1.2) hm.1.2 hI.fr
   exact ⟨o,bx,bo,_,ho,hd,hw,script_run P 0 _ _ _ _ W hr g1,hb,c3,hmy,g2,g3,g4,g5,g6⟩
  obtain ⟨o,bx,bo,W',ho,hd,hw,hrun,hb,hbo,hmy,k2,k3,k4,k5,k6⟩:=hrn p (Agr.refl l p) xs hsp
  refine wpOp_run ho hw hrun ?_
  show ∃ p' t',_
  rw [hd]
  refine ⟨p,t,rfl,?_⟩
  refine ⟨fun p' ha=>?_,fun p' ha j2 bx2 bo2 hb2 hal=>?_,k4,by rw [k5]; exact hI.bs,fun k s' cs t' hk' hl'=>?_,fun k s' cs t' k' s'' cs'' t'' h1 h2 h3 h4 h5=>?_,fun k x' f hk' hf' hl'=>?_,k6 _ hs.sta hI.gx⟩
  ·have ha':=ha.back hl
   obtain ⟨xs',hx'⟩:=hs.at_p p' hsp
   have:=(hI.det p' ha').step (hs.apart p') (hs.within p') hi hl
   rw [puts_i hx'] at this
   exact this
  ·have ha':=ha.back hl
   obtain ⟨xs',hx'⟩:=hs.at_p p' hsp
   obtain ⟨o',bx',bo',W'',ho',-,-,hrun',hb',hbo',hmy',e2,e3,-,-,-⟩:=hrn p' ha' xs' hx'
   rw [ho] at ho'; cases ho'
   rw [hrun] at hrun'
   cases hrun'
   have hal':∀ k,bo2 = some k→l[k]? = some true:=fun k hk'=>by
    rcases (set_up hl).1 (hal k hk') with rfl|h
    ·rcases boxOf_cases hb2 with ⟨-,-,h⟩|⟨-,s',cs,t',h,-,h2⟩
     ·rw [h] at hk'; cases hk'
     ·rw [h2] at hk'; have hk':=Option.some.inj hk'; rw [hk'] at h; exact absurd h (hnn p' _ _ _)
    ·exact h
   rw [isUp_set hl]
   by_cases hj:j2 = j
   ·subst hj
    rw [hb'] at hb2
    cases hb2
    have hmm:=hs.mem_at p' hx'
    obtain ⟨rr,hm⟩:=hmm
    simp only [memOk,stoOk,Bool.and_eq_true] at hm
    have:=cellsOf_put (f:=isUp l) (S p') 0 i off xs' bx2.cs (by rw [hx']; rfl) (by rw [Nat.zero_add]; exact isUp_no (by rw [hl]; simp)) (fun k' off' xs'' hk' hlt=>by
     have ht:=touchOk_at (S p') 0 k' off' xs'' hm.1.1.1.1 hk'
     rw [Nat.zero_add] at ht ⊢
     refine isUp_no (fun hup=>?_)
     rcases ht with h|h|h
     ·omega
     ·omega
     ·have:=reach_done (hI.det p' ha') _ _ _ h.2 hup; rw [hl] at this; cases this)
    rw [Nat.zero_add] at this
    rw [this]; exact e2
   ·have hne:bx2.b≠bx'.b:=by
     rcases boxOf_cases hb2 with ⟨q1,q2,q3⟩|⟨q1,s1,cs1,t1,q2,q3,q4⟩
     ·rcases boxOf_cases hb' with ⟨r1,r2,r3⟩|⟨r1,s2,cs2,t2,r2,r3,r4⟩
      ·exact Ne.symm (hs.ne j j2 bx' bx2 r2 q2 hmy' (Ne.symm hj))
      ·have h1:=hs.lt bx2 (List.mem_of_getElem? q2)
       have hdn:=hbo' _ r4
       have h2:=hI.nb _ _ _ _ (hs.at_n p r2) hdn
       rw [r3]
       show bx2.b≠(p' (j - 1000)).N
       rw [ha' _ hdn]; omega
     ·have hdn1:=hal' _ q4
      rcases boxOf_cases hb' with ⟨r1,r2,r3⟩|⟨r1,s2,cs2,t2,r2,r3,r4⟩
      ·have h1:=hs.lt bx' (List.mem_of_getElem? r2)
       have h2:=hI.nb _ _ _ _ (hs.at_n p q2) hdn1
       rw [q3]
       show (p' (j2 - 1000)).N≠bx'.b
       rw [ha' _ hdn1]; omega
      ·have hdn2:=hbo' _ r4
       rw [q3,r3]
       show (p' (j2 - 1000)).N≠(p' (j - 1000)).N
       rw [ha' _ hdn1,ha' _ hdn2]
       refine hI.ne _ _ _ _ _ _ _ _ (hs.at_n p q2) (hs.at_n p r2) hdn1 hdn2 (fun e=>hj ?_)
       have a1:¬ j < 1000:=fun hc=>by rw [show Nat.blt j 1000 = true from by rw [Nat.blt_eq]; exact hc] at r1; cases r1
       have a2:¬ j2 < 1000:=fun hc=>by rw [show Nat.blt j2 1000 = true from by rw [Nat.blt_eq]; exact hc] at q1; cases q1
       omega
    rw [e3 _ hne,hI.mem p' ha' j2 bx2 bo2 hb2 hal']
    congr 2
    refine cellsOf_agree _ _ _ (fun k off' xs'' hk'=>?_)
    rw [Nat.zero_add]
    have hki:Nat.beq k i = false:=by
     cases hb9:Nat.beq k i with
     | false=>rfl
     | true=>
      obtain rfl:=Nat.eq_of_beq_eq_true hb9
      rw [hx'] at hk'
      change some (j,off,xs') = some _ at hk'
      cases hk'
      exact absurd rfl hj
    simp only [hki,Bool.or_false]
  ·rcases (set_up hl).1 hl' with rfl|h
   ·exact absurd hk' (hnn p _ _ _)
   ·exact hI.nb k s' cs t' hk' h
  ·have g1:l[k]? = some true:=by
    rcases (set_up hl).1 h3 with rfl|h
    ·exact absurd h1 (hnn p _ _ _)
    ·exact h
   have g2:l[k']? = some true:=by
    rcases (set_up hl).1 h4 with rfl|h
    ·exact absurd h2 (hnn p _ _ _)
    ·exact h
   exact hI.ne k s' cs t' k' s'' cs'' t'' h1 h2 g1 g2 h5
  ·rcases (set_up hl).1 hl' with rfl|h
   ·rw [hk'] at hc; simp only [Option.bind_some] at hc; rw [hf'] at hc; cases hc
   ·exact k6 _ (f.st _) (hI.fx k x' f hk' hf' h)
 | n s cs t0=>
  have hc:((S p)[i]?).bind Spo.fac = none:=by rw [hsp]; rfl
  have h0:=hokp p _ hsp W.heap.size
  obtain ⟨o,ho,hd,hw,hr⟩:=hat p (Agr.refl l p) h0
  have hrun:=script_run P W.heap.size _ _ _ _ W hr ⟨rfl,trivial⟩
  refine wpOp_run ho hw hrun ?_
  show ∃ p' t',_
  rw [hd]
  have hbl:=gr_alloc W (.cells cs (t0 % 1000000))
  refine ⟨p.set i { pq0 with N:=W.heap.size },_,rfl,?_⟩
  refine ⟨fun p' ha=>?_,fun p' ha j bx bo hb hal=>?_,gr_trans hI.fr hbl,Nat.le_trans hI.bs hbl.size,fun k s' cs' t' hk' hl'=>?_,fun k s' cs' t' k' s'' cs'' t'' h1 h2 h3 h4 h5=>?_,fun k x' f' hk' hf' hl'=>?_,hs.sta.kept W _ hbl hI.gx⟩
  ·obtain ⟨ha',hq⟩:=ha.backS hl
   have:=(hI.det p' ha').step (hs.apart p') (hs.within p') hi hl
   rw [puts_i (hs.at_n p' hsp)] at this
   simp only [Spo.put,hq] at this
   exact this
  ·obtain ⟨ha',hq⟩:=ha.backS hl
   have hnp:((S p')[i]?).bind Spo.sto = none:=by rw [hs.at_n p' hsp]; rfl
   have hcell:∀ cs',cellsOf (isUp (l.setIfInBounds i true)) j 0 (S p') cs' = cellsOf (isUp l) j 0 (S p') cs':=fun cs'=>by
    refine cellsOf_agree _ _ _ (fun k off xs hk'=>?_)
    rw [isUp_set hl,Nat.zero_add]
    have hne:Nat.beq k i = false:=by
     cases hb9:Nat.beq k i with
     | false=>rfl
     | true=>obtain rfl:=Nat.eq_of_beq_eq_true hb9; rw [hnp] at hk'; cases hk'
    simp only [hne,Bool.or_false]
   by_cases hbi:bo = some i
   ·rcases boxOf_cases hb with ⟨q1,q2,q3⟩|⟨q1,s1,cs1,t1,q2,q3,q4⟩
    ·rw [q3] at hbi; cases hbi
    ·rw [q4] at hbi
     have hji:=Option.some.inj hbi
     rw [hji,hs.at_n p' hsp] at q2
     cases q2
     rw [q3,hji,hq,hcell,cellsOf_none]
     ·exact heap_alloc_new W _
     ·intro k off xs hk'
      rw [Nat.zero_add]
      obtain ⟨x9,hx9,hs9⟩:=Option.bind_eq_some_iff.1 hk'
      obtain ⟨rr,hm⟩:=hs.mem_at p' hx9
      have hm:=memOk_sto hm hs9
      simp only [stoOk,Bool.and_eq_true,q1,hji] at hm
      exact isUp_no (fun hup=>by have:=reach_done (hI.det p' ha') _ _ _ hm.1.1.2.1 hup; rw [hl] at this; cases this)
   ·have hal':∀ k,bo = some k→l[k]? = some true:=fun k hk'=>by
     rcases (set_up hl).1 (hal k hk') with rfl|h
     ·exact absurd hk' hbi
     ·exact h
    have:=hI.mem p' ha' j bx bo hb hal'
    show (W.alloc _).heap[bx.b]? = _
    rw [hcell,hbl.block _ (block_lt this)]; exact this
  ·rcases (set_up hl).1 hl' with rfl|h
   ·simp only [Pqs.set,if_true]; exact hI.bs
   ·have hne:k≠i:=by rintro rfl; rw [hl] at h; cases h
    simp only [Pqs.set,hne,if_false]
    exact hI.nb k s' cs' t' (hs.at_n p hk') h
  ·have hlt:∀ k s cs t,(S p)[k]? = some (.n s cs t)→l[k]? = some true→(p k).N < W.heap.size:=fun k s cs t hk hlk=>by
    have hb:boxOf E (S p) p (k+1000) = some (⟨(p k).N,cs,t % 1000000,true⟩,some k):=by
     unfold boxOf
     have:Nat.blt (k+1000) 1000 = false:=by
      cases hb9:Nat.blt (k+1000) 1000 with
      | false=>rfl
      | true=>rw [Nat.blt_eq] at hb9; omega
     rw [this,show k+1000 - 1000 = k from by omega,hk]
    exact block_lt (hI.mem p (Agr.refl l p) _ _ _ hb (fun k' hk'=>by rw [← Option.some.inj hk']; exact hlk))
   rcases (set_up hl).1 h3 with rfl|g1
   ·rcases (set_up hl).1 h4 with rfl|g2
    ·exact absurd rfl h5
    ·have:=hlt k' _ _ _ (hs.at_n p h2) g2
     have hne:k'≠k:=Ne.symm h5
     simp only [Pqs.set,hne,if_true,if_false]; omega
   ·have hne:k≠i:=by rintro rfl; rw [hl] at g1; cases g1
    rcases (set_up hl).1 h4 with rfl|g2
    ·have:=hlt k _ _ _ (hs.at_n p h1) g1
     simp only [Pqs.set,hne,if_true,if_false]; omega
    ·have hne':k'≠i:=by rintro rfl; rw [hl] at g2; cases g2
     simp only [Pqs.set,hne,hne',if_false]
     exact hI.ne k s' cs' t' k' s'' cs'' t'' (hs.at_n p h1) (hs.at_n p h2) g1 g2 h5
  ·obtain ⟨x2,h2,h3⟩:=hs.at_fac p hk' hf'
   rcases (set_up hl).1 hl' with rfl|h
   ·rw [h2] at hc; simp only [Option.bind_some] at hc; rw [h3] at hc; cases hc
   ·have hne:k≠i:=by rintro rfl; rw [hl] at h; cases h
    simp only [Pqs.set,hne,if_false]
    exact (f'.st _).kept W _ hbl (hI.fx k x2 f' h2 h3 h)
 | u s x g=>
  obtain ⟨fn,args,h0,hx,hcall⟩:=hokp p _ hsp
  obtain ⟨o,ho,hd,hw,hr⟩:=hat p (Agr.refl l p) h0
  have hrun:=script_run P 0 _ _ _ _ W hr trivial
  refine wpOp_run ho hw hrun ?_
  show Calls P fn args W _
  refine (hcall W ⟨hI.bs,hI.fr,hI.facts hi,hI.gx,hI.boxes⟩).mono ?_
  rintro en W' ⟨rfl,hbl⟩
  show ∃ p' t',_
  rw [hd]
  refine ⟨p,_,rfl,(hI.kept hs hbl).step_val hs hi hl (fun p'=>?_) (fun p' s' cs t' h=>?_) ?_ (fun p' ha=>?_)⟩
  ·obtain ⟨x',hx'⟩:=hs.at_u p' hsp; rw [hx']; rfl
  ·obtain ⟨x',hx'⟩:=hs.at_u p' hsp; rw [h] at hx'; cases hx'
  ·rw [hsp]; rfl
  ·obtain ⟨x',hx'⟩:=hs.at_u p' hsp
   rw [puts_i hx']
   obtain ⟨fn',args',h0',hxx,-⟩:=hokp p' _ hx'
   obtain ⟨o',ho',-,-,hr'⟩:=hat p' ha h0'
   rw [ho] at ho'; cases ho'
   rw [hr] at hr'
   cases hr'
   rw [hx] at hxx
   subst hxx; rfl
 | c s f=>
  obtain ⟨fn,args,h0,hcall⟩:=hokp p _ hsp
  obtain ⟨o,ho,hd,hw,hr⟩:=hat p (Agr.refl l p) h0
  have hrun:=script_run P 0 _ _ _ _ W hr trivial
  refine wpOp_run ho hw hrun ?_
  have hnp:∀ p',((S p')[i]?).bind Spo.sto = none:=fun p'=>by rw [hs.at_c p' hsp]; rfl
  have hnn:∀ p' s' cs t',(S p')[i]?≠some (.n s' cs t'):=fun p' s' cs t' h=>by have:=hs.at_c p' hsp; rw [h] at this; cases this
  show Calls P fn args W _
  refine (hcall W ⟨hI.bs,hI.fr,hI.facts hi,hI.gx,hI.boxes⟩).mono ?_
  rintro en W' ⟨q,rfl,hbl,hfq⟩
  show ∃ p' t',_
  rw [hd]
  refine ⟨p.set i q,putD (s.map fun s=>(s,f.f q)) t,by cases s <;> rfl,?_⟩
  refine ⟨fun p' ha=>?_,fun p' ha j bx bo hb hal=>?_,gr_trans hI.fr hbl,Nat.le_trans hI.bs hbl.size,fun k s' cs' t' hk' hl'=>?_,fun k s' cs' t' k' s'' cs'' t'' h1 h2 h3 h4 h5=>?_,fun k x' f' hk' hf' hl'=>?_,hs.sta.kept W _ hbl hI.gx⟩
  ·obtain ⟨ha',hq⟩:=ha.backS hl
   have:=(hI.det p' ha').step (hs.apart p') (hs.within p') hi hl
   rw [puts_i (hs.at_c p' hsp)] at this
   simp only [Spo.put,hq] at this
   exact this
  ·obtain ⟨ha',hq⟩:=ha.backS hl
   have hal':∀ k,bo = some k→l[k]? = some true:=fun k hk'=>by
    rcases (set_up hl).1 (hal k hk') with rfl|h
    ·rcases boxOf_cases hb with ⟨-,-,h⟩|⟨-,s',cs,t',h,-,h2⟩
     ·rw [h] at hk'; cases hk'
     ·rw [h2] at hk'; have hk':=Option.some.inj hk'; rw [hk'] at h; exact absurd h (hnn p' _ _ _)
    ·exact h
   have:=hI.mem p' ha' j bx bo hb hal'
   rw [hbl.block _ (block_lt this),this]
   congr 2
   refine cellsOf_agree _ _ _ (fun k off xs hk'=>?_)
   rw [isUp_set hl,Nat.zero_add]
   have hne:Nat.beq k i = false:=by
    cases hb9:Nat.beq k i with
    | false=>rfl
    | true=>obtain rfl:=Nat.eq_of_beq_eq_true hb9; rw [hnp p'] at hk'; cases hk'
   simp only [hne,Bool.or_false]
  ·rcases (set_up hl).1 hl' with rfl|h
   ·exact absurd hk' (hnn _ _ _ _)
   ·have hne:k≠i:=by rintro rfl; rw [hl] at h; cases h
    simp only [Pqs.set,hne,if_false]
    exact hI.nb k s' cs' t' (hs.at_n p hk') h
  ·have g1:l[k]? = some true:=by
    rcases (set_up hl).1 h3 with rfl|h
    ·exact absurd h1 (hnn _ _ _ _)
    ·exact h
   have g2:l[k']? = some true:=by
    rcases (set_up hl).1 h4 with rfl|h
    ·exact absurd h2 (hnn _ _ _ _)
    ·exact h
   have hne:k≠i:=by rintro rfl; rw [hl] at g1; cases g1
   have hne':k'≠i:=by rintro rfl; rw [hl] at g2; cases g2
   simp only [Pqs.set,hne,hne',if_false]
   exact hI.ne k s' cs' t' k' s'' cs'' t'' (hs.at_n p h1) (hs.at_n p h2) g1 g2 h5
  ·rcases (set_up hl).1 hl' with rfl|h
   ·rw [hs.at_c (p.set k q) hsp] at hk'
    cases hk'
    cases hf'
    simp only [Pqs.set,if_true]; exact hfq
   ·have hne:k≠i:=by rintro rfl; rw [hl] at h; cases h
    simp only [Pqs.set,hne,if_false]
    obtain ⟨x2,h2,h3⟩:=hs.at_fac p hk' hf'
    exact (f'.st _).kept W _ hbl (hI.fx k x2 f' h2 h3 h)
 | w s j off xs g f=>
  have hnn:∀ p' s' cs t',(S p')[i]?≠some (.n s' cs t'):=fun p' s' cs t' h=>by obtain ⟨x',this⟩:=hs.at_w p' hsp; rw [h] at this; cases this
  have hmy:∀ p',Agr l p p'→∀ xs',(S p')[i]? = some (.w s j off xs' g f)→∀ bx bo,boxOf E (S p') p' j = some (bx,bo)→bx.my = true∧w0.heap.size≤bx.b∧(NoLimb bx.cs.toList∧bx.t≠64)∧(Nat.blt j 1000 = true∨reach ops 4 i (j - 1000) = true)∧touchOk ops i j 0 (S p') = true∧NoLimb xs'∧xs'.all (·.oneCell') = true∧(∀ k,bo = some k→l[k]? = some true):=fun p' ha xs' hx' bx bo hb=>by
   obtain ⟨rr,hm⟩:=hs.mem_at p' hx'
   simp only [memOk,stoOk,Bool.and_eq_true] at hm
   have h2:=hm.1.1.1.2
   rcases boxOf_cases hb with ⟨hj,hE,hbo⟩|⟨hj,s',cs,t',hS,rfl,rfl⟩
   ·rw [hj,hE] at h2
    have h3:=List.all_eq_true.1 hs.eb bx (List.mem_of_getElem? hE)
    simp only at h2
    rw [h2] at h3
    simp only [Bool.not_true,Bool.false_or,Bool.and_eq_true,bne_iff_ne] at h3
    exact ⟨h2,hs.low bx (List.mem_of_getElem? hE) h2,⟨noLimb_of _ h3.1,h3.2⟩,Or.inl hj,hm.1.1.1.1,noLimb_of _ hm.1.1.2,hm.1.2,fun k hk=>by rw [hbo] at hk; cases hk⟩
   ·rw [hj] at h2
    simp only [hS,Bool.and_eq_true,bne_iff_ne] at h2
    have hdn:=reach_ready (hI.det p' ha) h2.1 hi
    have hSp:(S p)[j - 1000]? = some (.n s' cs t'):=hs.at_n p hS
    have hN:=ha _ hdn
    refine ⟨rfl,?_,⟨noLimb_of _ h2.2.1,h2.2.2⟩,Or.inr h2.1,hm.1.1.1.1,noLimb_of _ hm.1.1.2,hm.1.2,fun k hk=>by rw [← Option.some.inj hk]; exact hdn⟩
    show w0.heap.size≤(p' (j - 1000)).N
    rw [hN]
    exact Nat.le_trans hs.w0b (hI.nb _ _ _ _ hSp hdn)
  have hag:∀ q,Agr l p (p.set i q):=fun q k hk=>by
   have hne:k≠i:=by rintro rfl; rw [hl] at hk; cases hk
   simp [Pqs.set,hne]
  obtain ⟨-,bx,bo,hb,he,fn,args,h0,hcall⟩:=hokp p _ hsp
  obtain ⟨o,ho,hd,hw,hr⟩:=hat p (Agr.refl l p) h0
  have hrun:=script_run P 0 _ _ _ _ W hr trivial
  refine wpOp_run ho hw hrun ?_
  show Calls P fn args W _
  obtain ⟨hmy0,hlow,⟨hlim,hty⟩,hre,hto,-,-,hbo⟩:=hmy p (Agr.refl l p) xs hsp bx bo hb
  obtain ⟨c1,c2,c3⟩:=hI.cells hi hl (Agr.refl l p) hb hto hre
  refine (hcall W ⟨hI.bs,hI.fr,hI.facts hi,hI.gx,hI.boxes⟩ (by rw [← c2]; exact c1)).mono ?_
  rintro en W' ⟨q,rfl,hln,hbl,hfq⟩
  obtain ⟨xq,hxq⟩:=hs.at_w (p.set i q) hsp
  obtain ⟨hgq,bxq,boq,hbq,-⟩:=hokp (p.set i q) _ hxq
  have hgq':g q = xq:=by rw [← hgq]; simp [Pqs.set]
  obtain ⟨-,-,-,-,-,nlq,ocq,-⟩:=hmy _ (hag q) xq hxq bxq boq hbq
  obtain ⟨-,g2,g3,g4,g5,g6⟩:=sts_ok (w0:=w0) hty hlow (g q) off _ W c1 (by rw [cellsOf_size,hln]; exact Nat.le_of_ble_eq_true he) (cellsOf_limb _ _ _ (hs.mem p) hlim) (by rw [hgq']; exact nlq) (by rw [hgq']; exact ocq) hI.fr
  rw [← g5] at hbl
  show ∃ p' t',_
  rw [hd]
  refine ⟨p.set i q,putD (s.map fun s=>(s,f.f q)) t,by cases s <;> rfl,?_⟩
  refine ⟨fun p' ha=>?_,fun p' ha j2 bx2 bo2 hb2 hal=>?_,gr_trans g4 hbl,Nat.le_trans hI.bs (by rw [← g5]; exact hbl.size),fun k s' cs' t' hk' hl'=>?_,fun k s' cs' t' k' s'' cs'' t'' h1 h2 h3 h4 h5=>?_,fun k x' f' hk' hf' hl'=>?_,hs.sta.kept _ _ hbl (g6 _ hs.sta hI.gx)⟩
  ·obtain ⟨ha',hq⟩:=ha.backS hl
   obtain ⟨xs',hx'⟩:=hs.at_w p' hsp
   have:=(hI.det p' ha').step (hs.apart p') (hs.within p') hi hl
   rw [puts_i hx'] at this
   simp only [Spo.put,hq] at this
   exact this
  ·obtain ⟨ha',hq⟩:=ha.backS hl
   obtain ⟨xs',hx'⟩:=hs.at_w p' hsp
   obtain ⟨hxs,bx',bo',hb',-⟩:=hokp p' _ hx'
   rw [hq] at hxs
   obtain ⟨hmy',-,-,-,hto',-,-,hbo'⟩:=hmy p' ha' xs' hx' bx' bo' hb'
   have hbb:bx'.b = bx.b:=by
    rcases boxOf_cases hb' with ⟨r1,r2,r3⟩|⟨r1,s2,cs2,t2,r2,r3,r4⟩
    ·rcases boxOf_cases hb with ⟨q1,q2,q3⟩|⟨q1,s1,cs1,t1,q2,q3,q4⟩
     ·rw [r2] at q2; cases q2; rfl
     ·rw [r1] at q1; cases q1
    ·rcases boxOf_cases hb with ⟨q1,q2,q3⟩|⟨q1,s1,cs1,t1,q2,q3,q4⟩
     ·rw [r1] at q1; cases q1
     ·rw [r3,q3]
      show (p' (j - 1000)).N = (p (j - 1000)).N
      rw [ha' _ (hbo' _ r4)]
   have hcc:=hI.mem p' ha' j bx' bo' hb' hbo'
   rw [hbb,c1] at hcc
   have hal':∀ k,bo2 = some k→l[k]? = some true:=fun k hk'=>by
    rcases (set_up hl).1 (hal k hk') with rfl|h
    ·rcases boxOf_cases hb2 with ⟨-,-,h⟩|⟨-,s',cs,t',h,-,h2⟩
     ·rw [h] at hk'; cases hk'
     ·rw [h2] at hk'; have hk':=Option.some.inj hk'; rw [hk'] at h; exact absurd h (hnn p' _ _ _)
    ·exact h
   rw [isUp_set hl]
   by_cases hj:j2 = j
   ·subst hj
    rw [hb'] at hb2
    cases hb2
    have:=cellsOf_put (f:=isUp l) (S p') 0 i off xs' bx2.cs (by rw [hx']; rfl) (by rw [Nat.zero_add]; exact isUp_no (by rw [hl]; simp)) (fun k' off' xs'' hk' hlt=>by
     have ht:=touchOk_at (S p') 0 k' off' xs'' hto' hk'
     rw [Nat.zero_add] at ht ⊢
     refine isUp_no (fun hup=>?_)
     rcases ht with h|h|h
     ·omega
     ·omega
     ·have:=reach_done (hI.det p' ha') _ _ _ h.2 hup; rw [hl] at this; cases this)
    rw [Nat.zero_add] at this
    rw [this,hbb,hbl.block _ (block_lt g2),g2,hxs]
    simp only [Option.some.injEq,Obj.cells.injEq,and_true] at hcc
    rw [hcc.1,hcc.2]
   ·have hne:bx2.b≠bx'.b:=by
     rcases boxOf_cases hb2 with ⟨q1,q2,q3⟩|⟨q1,s1,cs1,t1,q2,q3,q4⟩
     ·rcases boxOf_cases hb' with ⟨r1,r2,r3⟩|⟨r1,s2,cs2,t2,r2,r3,r4⟩
      ·exact Ne.symm (hs.ne j j2 bx' bx2 r2 q2 hmy' (Ne.symm hj))
      ·have h1:=hs.lt bx2 (List.mem_of_getElem? q2)
       have hdn:=hbo' _ r4
       have h2:=hI.nb _ _ _ _ (hs.at_n p r2) hdn
       rw [r3]
       show bx2.b≠(p' (j - 1000)).N
       rw [ha' _ hdn]; omega
     ·have hdn1:=hal' _ q4
      rcases boxOf_cases hb' with ⟨r1,r2,r3⟩|⟨r1,s2,cs2,t2,r2,r3,r4⟩
      ·have h1:=hs.lt bx' (List.mem_of_getElem? r2)
       have h2:=hI.nb _ _ _ _ (hs.at_n p q2) hdn1
       rw [q3]
       show (p' (j2 - 1000)).N≠bx'.b
       rw [ha' _ hdn1]; omega
      ·have hdn2:=hbo' _ r4
       rw [q3,r3]
       show (p' (j2 - 1000)).N≠(p' (j - 1000)).N
       rw [ha' _ hdn1,ha' _ hdn2]
       refine hI.ne _ _ _ _ _ _ _ _ (hs.at_n p q2) (hs.at_n p r2) hdn1 hdn2 (fun e=>hj ?_)
       have a1:¬ j < 1000:=fun hc=>by rw [show Nat.blt j 1000 = true from by rw [Nat.blt_eq]; exact hc] at r1; cases r1
       have a2:¬ j2 < 1000:=fun hc=>by rw [show Nat.blt j2 1000 = true from by rw [Nat.blt_eq]; exact hc] at q1; cases q1
       omega
    rw [hbb] at hne
    have h9:=hI.mem p' ha' j2 bx2 bo2 hb2 hal'
    rw [← g3 _ hne] at h9
    rw [hbl.block _ (block_lt h9),h9]
    congr 2
    refine cellsOf_agree _ _ _ (fun k off' xs'' hk'=>?_)
    rw [Nat.zero_add]
    have hki:Nat.beq k i = false:=by
     cases hb9:Nat.beq k i with
     | false=>rfl
     | true=>
      obtain rfl:=Nat.eq_of_beq_eq_true hb9
      rw [hx'] at hk'
      change some (j,off,xs') = some _ at hk'
      cases hk'
      exact absurd rfl hj
    simp only [hki,Bool.or_false]
  ·rcases (set_up hl).1 hl' with rfl|h
   ·exact absurd hk' (hnn _ _ _ _)
   ·have hne:k≠i:=by rintro rfl; rw [hl] at h; cases h
    simp only [Pqs.set,hne,if_false]
    exact hI.nb k s' cs' t' (hs.at_n p hk') h
  ·have g1:l[k]? = some true:=by
    rcases (set_up hl).1 h3 with rfl|h
    ·exact absurd h1 (hnn _ _ _ _)
    ·exact h
   have g2:l[k']? = some true:=by
    rcases (set_up hl).1 h4 with rfl|h
    ·exact absurd h2 (hnn _ _ _ _)
    ·exact h
   have hne:k≠i:=by rintro rfl; rw [hl] at g1; cases g1
   have hne':k'≠i:=by rintro rfl; rw [hl] at g2; cases g2
   simp only [Pqs.set,hne,hne',if_false]
   exact hI.ne k s' cs' t' k' s'' cs'' t'' (hs.at_n p h1) (hs.at_n p h2) g1 g2 h5
  ·rcases (set_up hl).1 hl' with rfl|h
   ·rw [hxq] at hk'
    cases hk'
    cases hf'
    simp only [Pqs.set,if_true]; exact hfq
   ·have hne:k≠i:=by rintro rfl; rw [hl] at h; cases h
    simp only [Pqs.set,hne,if_false]
    obtain ⟨x2,h2,h3⟩:=hs.at_fac p hk' hf'
    exact (f'.st _).kept _ _ hbl (g6 _ (f'.st _) (hI.fx k x2 f' h2 h3 h))
structure SymF (E:List Bx) (S:List Spo) (G:World→Prop) (w0:World) (base:Nat) (p:Pqs) (W:World):Prop where
 fr:Below w0.heap.size w0 W
 bs:base≤W.heap.size
 mem:∀ (j:Nat) (bx:Bx) (bo:Option Nat),boxOf E S p j = some (bx,bo)→W.heap[bx.b]? = some (.cells (cellsOf (fun _=>true) j 0 S bx.cs) bx.t (0,0))
 nb:∀ (k s:Nat) (cs:Array Value) (t:TypeId),S[k]? = some (.n s cs t)→base≤(p k).N
 ne:∀ (k s:Nat) (cs:Array Value) (t:TypeId) (k' s':Nat) (cs':Array Value) (t':TypeId),S[k]? = some (.n s cs t)→S[k']? = some (.n s' cs' t')→k≠k'→(p k).N≠(p k').N
 fx:∀ k,factOf S p k W
 gx:G W
structure SymB (ops:Array Oper) (n:Nat) (L:Ks) (E:List Bx) (S:Pqs→List Spo):Prop where
 shape:∀ p p',(S p).map Spo.bare = (S p').map Spo.bare
 apart:∀ p,Puts.apart (puts p 0 (S p)) = true
 len:∀ p,(S p).length = ops.size
 within:∀ p,Puts.within (puts p 0 (S p)) n = true
 back:backB ops = true
 reads:∀ p,readsOk ops L (puts p 0 (S p)) 0 ops.toList = true
 mem:∀ p,memOk ops E (S p) 0 (S p) = true
 eb:E.all (fun x=>!x.my || noLimb x.cs.toList && x.t != 64) = true
theorem any_sym {P:Program} {ops:Array Oper} {Q:Exit→Act→World→Prop} {T0:Array Value} {n:Nat} {L:Ks} {G:World→Prop} {w0:World} (S:Pqs→List Spo) {W:World} {E:List Bx} (hE:∀ x,x∈E→W.heap[x.b]? = some (.cells x.cs x.t (0,0))) (hfr:Below w0.heap.size w0 W) (hK:Kn T0 n L) (hB:SymB ops n L E S)
  (hlow:∀ x,x∈E→x.my = true→w0.heap.size≤x.b) (hne:∀ (j k:Nat) (x y:Bx),E[j]? = some x→E[k]? = some y→x.my = true→j≠k→x.b≠y.b)
  (hst:Sta G) (h0:G W)
  (hok:∀ p,Oks P ops L E (S p) G w0 W.heap.size p 0 (S p))
  (hfin:∀ p W',SymF E (S p) G w0 W.heap.size p W'→Q .normal ⟨Puts.lay (puts p 0 (S p)) T0,[]⟩ W') :
  wpAny P .any ops Q ops.size (Array.replicate ops.size false) ⟨T0,[]⟩ W:=by
 have hs:SymS ops T0 n L E S G w0 W.heap.size:=⟨hB.shape,hB.apart,hB.len,fun p=>by rw [hK.size]; exact hB.within p,hB.back,hB.reads,hK,hB.mem,hB.eb,hlow,hne,fun x hx=>block_lt (hE x hx),hfr.size,hst⟩
 refine wpAny_inv (fun l a w=>∃ p t,a = ⟨t,[]⟩∧SymI ops T0 E S G w0 W.heap.size p l t w) ?_ ?_ _ _ _ _ ?_ ⟨fun _=>pq0,T0,rfl,?_⟩
 ·rintro l a w i ⟨p,t,rfl,hI⟩ hi hl
  exact hI.step hs hok hi hl
 ·rintro l a w ⟨p,t,rfl,hI⟩ hr
  have hD:=hI.det p (Agr.refl l p)
  have hl:=all_up hD.len hB.back hr
  rw [hD.done (hB.apart p) (by rw [puts_len]; exact hB.len p) (by rw [hK.size]; exact hB.within p) hl]
  have hin:∀ k x,(S p)[k]? = some x→l[k]? = some true:=fun k x hk=>hl k (by
   rw [← hB.len p]; exact (List.getElem?_eq_some_iff.1 hk).1)
  refine hfin p w ⟨hI.fr,hI.bs,fun j bx bo hb=>?_,fun k s cs t hk=>hI.nb k s cs t hk (hin k _ hk),fun k s cs t k' s' cs' t' hk hk'=>hI.ne k s cs t k' s' cs' t' hk hk' (hin k _ hk) (hin k' _ hk'),fun k=>?_,hI.gx⟩
  ·rw [hI.mem p (Agr.refl l p) j bx bo hb (fun k hk=>?_)]
   ·congr 2
    refine cellsOf_agree _ _ _ (fun k off xs hk=>?_)
    obtain ⟨x9,hx9,-⟩:=Option.bind_eq_some_iff.1 hk
    rw [Nat.zero_add]; exact isUp_iff.2 (hin k _ hx9)
   ·rcases boxOf_cases hb with ⟨-,-,h⟩|⟨-,s,cs,t,h,-,h2⟩
    ·rw [h] at hk; cases hk
    ·rw [h2] at hk; rw [← Option.some.inj hk]; exact hin _ _ h
  ·unfold factOf
   split
   ·rename_i s cf hk
    exact hI.fx k _ cf hk rfl (hin k _ hk)
   ·rename_i cf hk
    exact hI.fx k _ cf hk rfl (hin k _ hk)
   ·rename_i s' cs ty hk
    intro hnp
    have hb:boxOf E (S p) p (1000+k) = some (⟨(p k).N,cs,ty % 1000000,true⟩,some k):=by
     unfold boxOf
     rw [show Nat.blt (1000+k) 1000 = false from by cases h:Nat.blt (1000+k) 1000 with
      | false=>rfl
      | true=>rw [Nat.blt_eq] at h; omega]
     simp [hk]
    have h1:=hI.mem p (Agr.refl l p) (1000+k) _ (some k) hb (fun k' e=>by cases e; exact hin k _ hk)
    rw [cellsOf_none] at h1
    ·exact h1
    intro k' off xs hk'
    exact absurd hk' (noPut_no _ hnp _ _ _)
   ·trivial
 ·simp
 ·have hno:∀ k:Nat,(Array.replicate ops.size false)[k]?≠some true:=fun k h=>by
   rw [Array.getElem?_replicate] at h
   split at h <;> cases h
  have hup:isUp (Array.replicate ops.size false) = fun _=>false:=funext fun k=>isUp_no (hno k)
  refine ⟨fun p' _=>?_,fun p' _ j bx bo hb hal=>?_,hfr,Nat.le_refl _,fun k _ _ _ _ h=>absurd h (hno k),fun k _ _ _ _ _ _ _ _ _ h=>absurd h (hno k),fun k _ _ _ _ h=>absurd h (hno k),h0⟩
  ·constructor
   ·simp
   ·rfl
   ·intro k s v _ h; exact absurd h (hno k)
   ·intro s _; rfl
   ·intro k o h; exact absurd h (hno k)
  ·rcases boxOf_cases hb with ⟨-,hj,-⟩|⟨-,s,cs,t,-,-,h2⟩
   ·rw [hup,cellsOf_none _ _ _ (fun _ _ _ _=>rfl)]
    exact hE bx (List.mem_of_getElem? hj)
   ·exact absurd (hal _ h2) (hno _)
theorem ops_of_any {P:Program} {ops:Array Oper} {Q:Exit→Act→World→Prop} (hb:backB ops = true):∀ (k i:Nat),i+k = ops.size→∀ (l:Array Bool) (a:Act) (w:World),l.size = ops.size→(∀ j,j < ops.size→l[j]? = some (decide (j < i)))→wpAny P .any ops Q k l a w→wpOps P ops Q (List.range' i k) a w
 | 0,_,_,_,_,_,_,_,h=>by simpa [wpOps] using h.2
 | k+1,i,hn,l,a,w,hl,hd,h=>by
  rw [List.range'_succ,wpOps_cons]
  have hi:i < ops.size:=by omega
  obtain ⟨o,ho⟩:∃ o,ops[i]? = some o:=⟨ops[i],by simp [hi]⟩
  have hb':=List.all_eq_true.1 hb i (List.mem_range.2 hi)
  rw [ho] at hb'
  have hr:i∈Region.ready .any ops l:=mem_ready.2 ⟨by rw [Array.getD_eq_getD_getElem?,hd i hi]; simp,o,ho,fun e he hbe=>by
   have h1:=Array.all_eq_true'.1 hb' e he
   simp [hbe] at h1
   rw [Array.getD_eq_getD_getElem?,hd e.on (by omega)]; simp [h1]⟩
  refine wpOp_mono (fun a' w' h'=>ops_of_any hb k (i+1) (by omega) _ a' w' (by simpa using hl) (fun j hj=>?_) h') (h.2 i hr)
  by_cases hji:j = i
  ·subst hji
   rw [Array.getElem?_setIfInBounds_self_of_lt (by omega)]; simp
  ·rw [Array.getElem?_setIfInBounds_ne (Ne.symm hji),hd j hj]
   congr 1
   simp only [decide_eq_decide]; omega
theorem wp_sym {P:Program} {ops:Array Oper} {Q:Exit→Act→World→Prop} {T0:Array Value} {n:Nat} {L:Ks} {G:World→Prop} {w0:World} (S:Pqs→List Spo) {id:Nat} {d:Bool} {W:World} {E:List Bx} (hE:∀ x,x∈E→W.heap[x.b]? = some (.cells x.cs x.t (0,0))) (hfr:Below w0.heap.size w0 W) (hm:P.follows .mixedOrders = true) (hK:Kn T0 n L) (hB:SymB ops n L E S)
  (hlow:∀ x,x∈E→x.my = true→w0.heap.size≤x.b) (hne:∀ (j k:Nat) (x y:Bx),E[j]? = some x→E[k]? = some y→x.my = true→j≠k→x.b≠y.b)
  (hst:Sta G) (h0:G W)
  (hok:∀ p,Oks P ops L E (S p) G w0 W.heap.size p 0 (S p))
  (hfin:∀ p W',SymF E (S p) G w0 W.heap.size p W'→Q .normal ⟨Puts.lay (puts p 0 (S p)) T0,[]⟩ W') :
  (Code.region id ops d).wp P Q ⟨T0,[]⟩ W:=by
 cases d with
 | true=>exact wp_region_any hm (any_sym S (W:=W.drew) hE hfr.drew hK hB hlow hne hst (hst.kept W _ (Below.refl _ _).drew h0) hok hfin)
 | false=>
  refine wp_region ?_
  have:=ops_of_any hB.back ops.size 0 (by omega) _ _ _ (by simp) (fun j hj=>by rw [Array.getElem?_replicate]; simp [hj]) (any_sym S hE hfr hK hB hlow hne hst h0 hok hfin)
  rwa [← List.range_eq_range'] at this
theorem ok_nil {P:Program} {ops:Array Oper} {L:Ks} {E:List Bx} {S:List Spo} {G:World→Prop} {w0:World} {base:Nat} {p:Pqs} {i:Nat}:Oks P ops L E S G w0 base p i []:=trivial
theorem ok_v {P:Program} {ops:Array Oper} {L:Ks} {E:List Bx} {S:List Spo} {G:World→Prop} {w0:World} {base:Nat} {p:Pqs} {i:Nat} {r:List Spo} {s:Nat} {x:Value} (h:opRun P ops L (puts p 0 S) i 0 [] = some (some s,true,some (.value x,[]))) (t:Oks P ops L E S G w0 base p (i+1) r):Oks P ops L E S G w0 base p i (.v s x :: r):=⟨h,t⟩
theorem ok_vi {P:Program} {ops:Array Oper} {L:Ks} {E:List Bx} {S:List Spo} {G:World→Prop} {w0:World} {base:Nat} {p:Pqs} {i:Nat} {r:List Spo} {s:Nat} {k:IntKind} {x y:Int} (e:x = y) (h:opRun P ops L (puts p 0 S) i 0 [] = some (some s,true,some (.value (.int k x),[]))) (t:Oks P ops L E S G w0 base p (i+1) r):Oks P ops L E S G w0 base p i (.v s (.int k y) :: r):=⟨e▸h,t⟩
theorem ok_vb {P:Program} {ops:Array Oper} {L:Ks} {E:List Bx} {S:List Spo} {G:World→Prop} {w0:World} {base:Nat} {p:Pqs} {i:Nat} {r:List Spo} {s:Nat} {x y:Bool} (e:x = y) (h:opRun P ops L (puts p 0 S) i 0 [] = some (some s,true,some (.value (.bool x),[]))) (t:Oks P ops L E S G w0 base p (i+1) r):Oks P ops L E S G w0 base p i (.v s (.bool y) :: r):=⟨e▸h,t⟩
theorem ok_l {P:Program} {ops:Array Oper} {L:Ks} {E:List Bx} {S:List Spo} {G:World→Prop} {w0:World} {base:Nat} {p:Pqs} {i:Nat} {r:List Spo} {s j off:Nat} {x:Value} (bx:Bx) (bo:Option Nat) (hb:boxOf E S p j = some (bx,bo)) (h:opRun P ops L (puts p 0 S) i 0 x.cells.toList = some (some s,true,some (.value x,lds bx.b off x.cells.toList))) (hc:((cellsOf (fun k=>Nat.blt k i) j 0 S bx.cs).toList.drop off).take x.cells.size = x.cells.toList) (t:Oks P ops L E S G w0 base p (i+1) r):Oks P ops L E S G w0 base p i (.l s x j off :: r):=⟨⟨bx,bo,hb,h,hc⟩,t⟩
theorem ok_p {P:Program} {ops:Array Oper} {L:Ks} {E:List Bx} {S:List Spo} {G:World→Prop} {w0:World} {base:Nat} {p:Pqs} {i:Nat} {r:List Spo} {j off:Nat} {xs:List Value} (bx:Bx) (bo:Option Nat) (hb:boxOf E S p j = some (bx,bo)) (h:opRun P ops L (puts p 0 S) i 0 [] = some (none,true,some (.skip,sts bx.b off xs))) (hc:Nat.ble (off+xs.length) bx.cs.size = true) (t:Oks P ops L E S G w0 base p (i+1) r):Oks P ops L E S G w0 base p i (.p j off xs :: r):=⟨⟨bx,bo,hb,h,hc⟩,t⟩
theorem ok_n {P:Program} {ops:Array Oper} {L:Ks} {E:List Bx} {S:List Spo} {G:World→Prop} {w0:World} {base:Nat} {p:Pqs} {i:Nat} {r:List Spo} {s:Nat} {cs:Array Value} {ty:TypeId} (h:∀ q,opRun P ops L (puts p 0 S) i q [] = some (some s,true,some (.value (nv q ty),[.nw (.cells cs (ty % 1000000))]))) (t:Oks P ops L E S G w0 base p (i+1) r):Oks P ops L E S G w0 base p i (.n s cs ty :: r):=⟨h,t⟩
theorem ok_k {P:Program} {ops:Array Oper} {L:Ks} {E:List Bx} {S:List Spo} {G:World→Prop} {w0:World} {base:Nat} {p:Pqs} {i:Nat} {r:List Spo} {s:Option Nat} (x:Option (Next×List Ev)) (h:opRun P ops L (puts p 0 S) i 0 [] = some (s,false,x)) (t:Oks P ops L E S G w0 base p (i+1) r):Oks P ops L E S G w0 base p i (.k s :: r):=⟨⟨x,h⟩,t⟩
theorem ok_u {P:Program} {ops:Array Oper} {L:Ks} {E:List Bx} {S:List Spo} {G:World→Prop} {w0:World} {base:Nat} {p:Pqs} {i:Nat} {r:List Spo} {s:Nat} {x:Value} {g:Array Value→Value} {fn:FuncId} {args:Array Value} (hc:∀ W,Cx ops E S G w0 base p i W→Calls P fn args W fun en W'=>en = .returned x∧Below W.heap.size W W') (h:opRun P ops L (puts p 0 S) i 0 [] = some (some s,true,some (.enter fn args,[]))) (hx:g args = x) (t:Oks P ops L E S G w0 base p (i+1) r):Oks P ops L E S G w0 base p i (.u s x g :: r):=⟨⟨fn,args,h,hx,hc⟩,t⟩
theorem ok_g {P:Program} {ops:Array Oper} {L:Ks} {E:List Bx} {S:List Spo} {G:World→Prop} {w0:World} {base:Nat} {p:Pqs} {i:Nat} {r:List Spo} {s:Nat} {x:Value} {vs:List Value} {es:List Ev} (hc:∀ W,Cx ops E S G w0 base p i W→EvsOk 0 es W∧evs es W = W) (h:opRun P ops L (puts p 0 S) i 0 vs = some (some s,true,some (.value x,es))) (t:Oks P ops L E S G w0 base p (i+1) r):Oks P ops L E S G w0 base p i (.g s x vs es :: r):=⟨⟨h,hc⟩,t⟩
theorem ok_c {P:Program} {ops:Array Oper} {L:Ks} {E:List Bx} {S:List Spo} {G:World→Prop} {w0:World} {base:Nat} {p:Pqs} {i:Nat} {r:List Spo} {s:Option Nat} {f:Cf} {fn:FuncId} {args:Array Value} (hc:∀ W,Cx ops E S G w0 base p i W→Calls P fn args W fun en W'=>∃ q,en = .returned (f.f q)∧Below W.heap.size W W'∧f.g q W') (h:opRun P ops L (puts p 0 S) i 0 [] = some (s,true,some (.enter fn args,[]))) (t:Oks P ops L E S G w0 base p (i+1) r):Oks P ops L E S G w0 base p i (.c s f :: r):=⟨⟨fn,args,h,hc⟩,t⟩
theorem ok_w {P:Program} {ops:Array Oper} {L:Ks} {E:List Bx} {S:List Spo} {G:World→Prop} {w0:World} {base:Nat} {p:Pqs} {i:Nat} {r:List Spo} {s:Option Nat} {j off:Nat} {xs:List Value} {g:Pq→List Value} {f:Cf} {fn:FuncId} {args:Array Value} {bx:Bx} {bo:Option Nat} (hb:boxOf E S p j = some (bx,bo)) (hc:∀ W,Cx ops E S G w0 base p i W→W.heap[bx.b]? = some (.cells (cellsOf (fun k=>Nat.blt k i) j 0 S bx.cs) bx.t (0,0))→Calls P fn args W fun en W'=>∃ q,en = .returned (f.f q)∧(g q).length = xs.length∧Below W.heap.size (evs (sts bx.b off (g q)) W) W'∧f.g q W') (h:opRun P ops L (puts p 0 S) i 0 [] = some (s,true,some (.enter fn args,[]))) (hg:g (p i) = xs) (hn:Nat.ble (off+xs.length) bx.cs.size = true) (t:Oks P ops L E S G w0 base p (i+1) r):Oks P ops L E S G w0 base p i (.w s j off xs g f :: r):=⟨⟨hg,bx,bo,hb,hn,fn,args,h,hc⟩,t⟩
theorem addTimes_any (B b off cap cap' f:Nat) (pre d post xs:List Nat) (w:World) (hd:d.length = xs.length) (hlen:xs.length≤1073741824) (hne:b≠B)
  (wd:Pl.Wf d) (wx:Pl.Wf xs) (hf:f < 4294967296) (hrow:Row w B (pre ++ d ++ post))
  (hc:∀ j,j < xs.length→w.cell? ⟨b,off+j,none⟩ = some (.int .u32 ((xs[j]?.getD 0:Nat):Int))) :
  Calls Tryz.prog 98 #[.slice (some ⟨B,pre.length,none⟩) d.length cap,.slice (some ⟨b,off,none⟩) xs.length cap',.int .u32 (f:Int)] w
   fun e w'=>∃ (out:List Nat) (c:Nat),e = .returned (.int .u32 (c:Int))∧out.length = xs.length∧Pl.Wf out∧c < 4294967296∧Pl.val out+4294967296 ^ xs.length * c = Pl.val d+f * Pl.val xs∧Row w' B (pre ++ out ++ post)∧Only B w w':=by
 go_enter Tryz.func98,Tryz.ntmps98
 go_wp2
 go_loopw [7,12] (fun t i wr=>∃ (k c:Nat) (out:List Nat),k≤xs.length∧i = .int .i64 k∧t = .int .u64 (c:Int)∧c < 4294967296∧out.length = k∧Pl.Wf out ∧
   Pl.val out+4294967296 ^ k * c = Pl.val (d.take k)+f * Pl.val (xs.take k)∧Row wr B (pre ++ (out ++ d.drop k) ++ post)∧Only B w wr) (fun _ i _=>xs.length - (intOf i).toNat)
 case atStart=>exact ⟨0,0,[],Nat.zero_le _,rfl,rfl,by omega,rfl,Pl.wf_nil,by simp [Pl.val],by simpa using hrow,Only.refl _ _⟩
 case round=>
  obtain ⟨k,c,out,hk,rfl,rfl,hcl,hol,how,hval,hr,honly⟩:=hrel
  by_cases hlt:k < xs.length
  ·obtain ⟨x,hx⟩:∃ x,x = xs[k]?.getD 0:=⟨_,rfl⟩
   obtain ⟨y,hy⟩:∃ y,y = d[k]?.getD 0:=⟨_,rfl⟩
   have hcx:wr.cell? ⟨b,off+k,none⟩ = some (.int .u32 (x:Int)):=by rw [hx]; exact (honly.cell (by exact hne)).trans (hc k hlt)
   have hcd:wr.cell? ⟨B,pre.length+k,none⟩ = some (.int .u32 (y:Int)):=by
    rw [hr.cell (pre.length+k) (by simp; omega),at_mid _ _ _ _ _ hol (by omega),hy]
   have hfz:wr.frozen? ⟨B,pre.length+k,none⟩ = false:=hr.frozen _
   have hx1:x < 4294967296:=by rw [hx]; exact Pl.wf_at wx k
   have hy1:y < 4294967296:=by rw [hy]; exact Pl.wf_at wd k
   have hm1:=mul_lo x f
   have hm2:=mul_hi hx1 hf
   have HV:Hid (Pl.val out+4294967296 ^ k * c = Pl.val (d.take k)+f * Pl.val (xs.take k)):=hval
   have HX:Hid (x = xs[k]?.getD 0):=hx
   have HY:Hid (y = d[k]?.getD 0):=hy
   clear hval hx hy
   go_wp2
   have e1:((c:Int)+((x:Int) * (f:Int)+(y:Int))) / 4294967296 = (((c+x * f+y) / 4294967296:Nat):Int):=by omega
   have e2:((c:Int)+((x:Int) * (f:Int)+(y:Int))) % 4294967296 = (((c+x * f+y) % 4294967296:Nat):Int):=by omega
   have hb:c+x * f+y < 18446744073709551616:=by have:((x * f:Nat):Int) = (x:Int) * (f:Int):=Int.natCast_mul _ _; omega
   go_roundw
   case rel=>
    rw [e1,e2]
    refine ⟨k+1,(c+x * f+y) / 4294967296,out ++ [(c+x * f+y) % 4294967296],by omega,by go_num,rfl,by omega,by simp [hol],Pl.wf_append how (Pl.wf_one (by omega)),?_,?_,honly.setCell _ _⟩
    ·rw [Pl.val_append,Pl.val_one,hol,Pl.val_take_succ d k (by omega),Pl.val_take_succ xs k hlt,← HX.out,← HY.out]
     exact Pl.step_mul _ (Nat.pow_succ ..) HV.out _ _ _ (by omega) y rfl
    ·have:=hr.set (pre.length+k) ((c+x * f+y) % 4294967296) (by simp; omega)
     rwa [set_mid _ _ _ _ _ _ hol (by omega)] at this
   case measure=>simp [intOf]; omega
  ·have hke:k = xs.length:=by omega
   have HV:Hid (Pl.val out+4294967296 ^ k * c = Pl.val (d.take k)+f * Pl.val (xs.take k)):=hval
   clear hval
   go_wp2
   go_ret
   refine ⟨out,c,ret_int (by omega),by omega,how,hcl,?_,?_,honly⟩
   ·have:=HV.out
    rw [hke,List.take_of_length_le (by omega),List.take_of_length_le (by omega)] at this
    exact this
   ·rw [List.drop_eq_nil_of_le (by omega),List.append_nil] at hr
    exact hr
theorem addTimes_at (B p n b off cap cap' f:Nat) (pre d post xs:List Nat) (w:World) (hp:pre.length = p) (hd:d.length = n) (hx:xs.length = n) (hlen:n≤1073741824) (hne:b≠B)
  (wd:Pl.Wf d) (wx:Pl.Wf xs) (hf:f < 4294967296) (hrow:Row w B (pre ++ d ++ post))
  (hc:∀ j,j < xs.length→w.cell? ⟨b,off+j,none⟩ = some (.int .u32 ((xs[j]?.getD 0:Nat):Int))) :
  Calls Tryz.prog 98 #[.slice (some ⟨B,p,none⟩) n cap,.slice (some ⟨b,off,none⟩) n cap',.int .u32 (f:Int)] w
   fun e w'=>∃ (out:List Nat) (c:Nat),e = .returned (.int .u32 (c:Int))∧out.length = n∧Pl.Wf out∧c < 4294967296∧Pl.val out+4294967296 ^ n * c = Pl.val d+f * Pl.val xs∧Row w' B (pre ++ out ++ post)∧Only B w w':=by
 subst hp
 subst hx
 have h:=addTimes_any B b off cap cap' f pre d post xs w hd hlen hne wd wx hf hrow hc
 rw [hd] at h
 exact h
theorem mul_step {x y:Nat} {lo out pre d:List Nat} {c i l m:Nat} (h:Pl.val lo = x * y) (hl:lo = pre ++ d) (hp:pre.length = i) (ho:out.length = m) (e:Pl.val out+4294967296 ^ m * c = Pl.val d+l * x) :
  Pl.val (pre ++ out ++ [c]) = x * (y+4294967296 ^ i * l):=by
 rw [List.append_assoc,Pl.val_append,Pl.val_append,Pl.val_one,hp,ho,e]
 rw [hl,Pl.val_append,hp] at h
 rw [Nat.mul_add,Nat.mul_add,← Nat.add_assoc,h,Nat.mul_comm l x,Nat.mul_left_comm]
theorem multiply_any (b off cap b' off' cap':Nat) (xs ys:List Nat) (w:World) (hxp:0 < xs.length) (hx:xs.length≤16384) (hy:ys.length≤16384) (wx:Pl.Wf xs) (wy:Pl.Wf ys)
  (hb:b < w.heap.size) (hb':b' < w.heap.size)
  (hc:∀ j,j < xs.length→w.cell? ⟨b,off+j,none⟩ = some (.int .u32 ((xs[j]?.getD 0:Nat):Int)))
  (hc':∀ j,j < ys.length→w.cell? ⟨b',off'+j,none⟩ = some (.int .u32 ((ys[j]?.getD 0:Nat):Int))) :
  Calls Tryz.prog 65 #[.slice (some ⟨b,off,none⟩) xs.length cap,.slice (some ⟨b',off',none⟩) ys.length cap'] w
   fun e w'=>∃ zs:List Nat,e = .returned (.slice (some ⟨w.heap.size,0,none⟩) (xs.length+ys.length) (xs.length+ys.length))∧zs.length = xs.length+ys.length∧Pl.Wf zs∧Pl.val zs = Pl.val xs * Pl.val ys∧Row w' w.heap.size zs∧Below w.heap.size w w':=by
 have hxn:¬ xs = []:=fun h=>by simp [h] at hxp
 have hmk:=make_limbs ((xs.length:Int)+(ys.length:Int)) (xs.length+ys.length) (by omega) (by omega)
 go_enter Tryz.func65,Tryz.ntmps65
 go_wp2
 clear hmk
 go_loopw [17] (fun i wr=>∃ (k:Nat) (lo:List Nat),k≤ys.length∧i = .int .i64 k∧lo.length = k+xs.length∧Pl.Wf lo∧Pl.val lo = Pl.val xs * Pl.val (ys.take k) ∧
   Row wr w.heap.size (lo ++ List.replicate (ys.length - k) 0)∧Below w.heap.size w wr) (fun i _=>ys.length - (intOf i).toNat)
 case atStart=>
  refine ⟨0,List.replicate xs.length 0,Nat.zero_le _,rfl,by simp,Pl.wf_replicate _,by simp [Pl.val_replicate,Pl.val],?_,gr_alloc _ _⟩
  rw [List.replicate_append_replicate]; exact Row.made _ _
 case round=>
  obtain ⟨k,lo,hk,rfl,hlo,wlo,hval,hr,hbel⟩:=hrel
  by_cases hlt:k < ys.length
  ·obtain ⟨y,hyy⟩:∃ y,y = ys[k]?.getD 0:=⟨_,rfl⟩
   have hy1:y < 4294967296:=by rw [hyy]; exact Pl.wf_at wy k
   have hcy:wr.cell? ⟨b',off'+k,none⟩ = some (.int .u32 (y:Int)):=by rw [hyy]; exact (hbel.cell (by exact hb')).trans (hc' k hlt)
   have HC:Hid (∀ j,j < xs.length→wr.cell? ⟨b,off+j,none⟩ = some (.int .u32 ((xs[j]?.getD 0:Nat):Int))):=fun j hj=>(hbel.cell (by exact hb)).trans (hc j hj)
   have HV:Hid (Pl.val lo = Pl.val xs * Pl.val (ys.take k)):=hval
   have HY:Hid (y = ys[k]?.getD 0):=hyy
   clear hval hyy
   by_cases hz:y = 0
   ·subst hz
    go_wp2
    go_roundw
    case rel=>
     refine ⟨k+1,lo ++ [0],by omega,by go_num,by simp; omega,Pl.wf_append wlo (Pl.wf_one (by omega)),?_,?_,hbel⟩
     ·rw [Pl.val_append,Pl.val_one,Nat.mul_zero,Nat.add_zero,Pl.val_take_succ ys k hlt,← HY.out,Nat.mul_zero,Nat.add_zero]; exact HV.out
     ·rw [List.append_assoc]
      have e:ys.length - k = ys.length - (k+1)+1:=by omega
      rw [e,List.replicate_succ] at hr
      exact hr
    case measure=>simp [intOf]; omega
   ·have hzb:((y:Int) == 0) = false:=by simpa using hz
    go_wp2_with fail
    have hpd:lo = lo.take k ++ lo.drop k:=(List.take_append_drop k lo).symm
    have hpl:(lo.take k).length = k:=by rw [List.length_take]; omega
    have hdl:(lo.drop k).length = xs.length:=by rw [List.length_drop]; omega
    have wd:Pl.Wf (lo.drop k):=Pl.wf_drop wlo k
    have wp:Pl.Wf (lo.take k):=Pl.wf_take wlo k
    have hrr:Row wr w.heap.size (lo.take k ++ lo.drop k ++ List.replicate (ys.length - k) 0):=by rw [← hpd]; exact hr
    generalize lo.take k = pre at *
    generalize lo.drop k = d at *
    have HD:Hid (lo = pre ++ d):=hpd
    clear hpd
    refine (addTimes_at w.heap.size k xs.length b off _ _ y pre d (List.replicate (ys.length - k) 0) xs wr hpl hdl rfl (by omega) (by omega) wd wx hy1 hrr HC.out).mono ?_
    rintro e w1 ⟨out,c,rfl,hol,wo,hcl,hev,hr1,ho1⟩
    have hrl:(pre ++ out ++ List.replicate (ys.length - k) 0).length = xs.length+ys.length:=by simp; omega
    have hcs:=hr1.cell (k+xs.length) (by omega)
    have hfs:=hr1.frozen (k+xs.length)
    have HR:=hide hr1
    have HO:=hide ho1
    have HE:=hide hev
    have HW:=hide hr
    clear hr1 ho1 hev hr hrr hrl
    go_wp2
    go_roundw
    case rel=>
     refine ⟨k+1,pre ++ out ++ [c],by omega,by go_num,by simp; omega,Pl.wf_append (Pl.wf_append wp wo) (Pl.wf_one hcl),?_,?_,?_⟩
     ·rw [Pl.val_take_succ ys k hlt,← HY.out]
      exact mul_step HV.out HD.out hpl hol (unhide HE)
     ·have h:=(unhide HR).set (k+xs.length) c (by simp; omega)
      have e:ys.length - k = ys.length - (k+1)+1:=by omega
      rw [e,List.replicate_succ,List.set_append_right _ _ (by simp; omega)] at h
      have e2:k+xs.length - (pre ++ out).length = 0:=by simp; omega
      rw [e2] at h
      simpa using h
     ·exact ((unhide HO).setCell _ _).below hbel (Nat.le_refl _)
    case measure=>simp [intOf]; omega
  ·go_wp2
   have hke:k = ys.length:=by omega
   go_ret
   refine ⟨lo,rfl,by omega,wlo,?_,?_,hbel⟩
   ·rw [hval,hke,List.take_of_length_le (Nat.le_refl _)]
   ·rw [hke,Nat.sub_self] at hr
    simpa using hr
theorem bits_or_u32 (a b:Nat) (ha:a < 4294967296) (hb:b < 4294967296):Go.bits .or .u32 (a:Int) (b:Int) = ((a ||| b:Nat):Int):=by
 have hx:a ||| b < 2 ^ 32:=Nat.or_lt_two_pow (by omega) (by omega)
 have h1:(BitVec.ofInt 32 (a:Int)).toNat = a:=by rw [BitVec.ofInt_natCast,BitVec.toNat_ofNat]; exact Nat.mod_eq_of_lt (by omega)
 have h2:(BitVec.ofInt 32 (b:Int)).toNat = b:=by rw [BitVec.ofInt_natCast,BitVec.toNat_ofNat]; exact Nat.mod_eq_of_lt (by omega)
 show IntKind.u32.wrap ((BitVec.ofInt 32 (a:Int) ||| BitVec.ofInt 32 (b:Int)).toNat:Int) = _
 rw [BitVec.toNat_or,h1,h2,IntKind.wrap_u32]
 omega
theorem pow_lt32 {pt:Nat} (h:pt < 32):2 ^ pt≤2147483648:=Nat.pow_le_pow_right (show 0 < 2 by decide) (show pt≤31 by omega)
theorem mul_lt63 {x pt:Nat} (hx:x < 4294967296) (h:pt < 32):x * 2 ^ pt < 9223372036854775808:=by
 have h1:=pow_lt32 h
 have:x * 2 ^ pt≤4294967295 * 2147483648:=Nat.mul_le_mul (by omega) h1
 omega
theorem sh_wrap {x k pt:Nat} (hx:x < 4294967296) (hk:k % 32 = pt) (h:pt < 32):IntKind.u64.wrap ((x:Int) * 2 ^ (k % 32)) = ((x * 2 ^ pt:Nat):Int):=by
 have:=mul_lt63 hx h
 rw [hk,IntKind.wrap_u64]
 have e:(x:Int) * 2 ^ pt = ((x * 2 ^ pt:Nat):Int):=by push_cast; rfl
 rw [e]
 omega
theorem pow_split {pt:Nat} (h:pt < 32):4294967296 = 2 ^ pt * 2 ^ (32 - pt):=by
 rw [← Nat.pow_add,show pt+(32 - pt) = 32 by omega]
theorem sh_low {x pt:Nat} (h:pt < 32):x * 2 ^ pt % 4294967296 = 2 ^ pt * (x % 2 ^ (32 - pt)):=by
 rw [pow_split h,Nat.mul_comm x,Nat.mul_mod_mul_left]
theorem or_low {c x pt:Nat} (hc:c < 2 ^ pt) (h:pt < 32):Go.bits .or .u32 (c:Int) (((x * 2 ^ pt:Nat):Int) % 4294967296) = ((c+x * 2 ^ pt % 4294967296:Nat):Int):=by
 have h1:=pow_lt32 h
 rw [show (((x * 2 ^ pt:Nat):Int) % 4294967296) = ((x * 2 ^ pt % 4294967296:Nat):Int) by omega,bits_or_u32 _ _ (by omega) (by omega)]
 congr 1
 rw [sh_low h,Nat.or_comm,← Nat.two_pow_add_eq_or_of_lt hc,Nat.add_comm]
theorem or_high {x pt:Nat} (hx:x < 4294967296) (h:pt < 32):Go.bits .or .u32 (0:Int) (((x * 2 ^ pt:Nat):Int) / 4294967296 % 4294967296) = ((x * 2 ^ pt / 4294967296:Nat):Int):=by
 have:=mul_lt63 hx h
 rw [show (((x * 2 ^ pt:Nat):Int) / 4294967296 % 4294967296) = ((x * 2 ^ pt / 4294967296:Nat):Int) by omega]
 have:=bits_or_u32 0 (x * 2 ^ pt / 4294967296) (by omega) (by omega)
 rw [Nat.zero_or] at this
 exact this
theorem high_lt {x pt:Nat} (hx:x < 4294967296):x * 2 ^ pt / 4294967296 < 2 ^ pt:=by
 rw [Nat.div_lt_iff_lt_mul (by decide),Nat.mul_comm]
 exact Nat.mul_lt_mul_of_pos_left hx (Nat.pow_pos (by decide))
theorem low_lt {c x pt:Nat} (hc:c < 2 ^ pt) (h:pt < 32):c+x * 2 ^ pt % 4294967296 < 4294967296:=by
 rw [sh_low h]
 have h2:x % 2 ^ (32 - pt) < 2 ^ (32 - pt):=Nat.mod_lt _ (Nat.pow_pos (by decide))
 have h3:2 ^ pt * (x % 2 ^ (32 - pt)+1)≤2 ^ pt * 2 ^ (32 - pt):=Nat.mul_le_mul_left _ h2
 rw [← pow_split h,Nat.mul_add,Nat.mul_one] at h3
 omega
theorem up_step {o p c x t B B' s lo hi:Nat} (hB:B' = B * 4294967296) (h:o+B * c = p * s) (ht:t = x * s) (e:t = 4294967296 * hi+lo):(o+B * (c+lo))+B' * hi = (p+B * x) * s:=by
 subst hB
 have e1:B * t = B * 4294967296 * hi+B * lo:=by rw [e,Nat.mul_add,Nat.mul_assoc]
 have e2:(p+B * x) * s = p * s+B * t:=by rw [ht,Nat.add_mul,Nat.mul_assoc]
 rw [e2,Nat.mul_add,e1]
 omega
theorem up_set1 (wh m c v:Nat) (os:List Nat):(List.replicate wh 0 ++ (os ++ c :: List.replicate (m+1) 0)).set (wh+os.length) v = List.replicate wh 0 ++ ((os ++ [v]) ++ 0 :: List.replicate m 0):=by
 rw [List.set_append_right _ _ (by simp),List.length_replicate,Nat.add_sub_cancel_left,List.set_append_right _ _ (by omega),Nat.sub_self]
 simp [List.replicate_succ]
theorem up_set2 (wh m v:Nat) (os:List Nat):(List.replicate wh 0 ++ (os ++ 0 :: List.replicate m 0)).set (wh+os.length) v = List.replicate wh 0 ++ (os ++ v :: List.replicate m 0):=by
 rw [List.set_append_right _ _ (by simp),List.length_replicate,Nat.add_sub_cancel_left,List.set_append_right _ _ (by omega),Nat.sub_self]
 simp
theorem up_at1 (wh c:Nat) (os r:List Nat):(List.replicate wh 0 ++ (os ++ c :: r))[wh+os.length]?.getD 0 = c:=by
 rw [List.getElem?_append_right (by simp),List.length_replicate,Nat.add_sub_cancel_left,List.getElem?_append_right (by omega),Nat.sub_self]
 simp
theorem up_at2 (wh c m:Nat) (os:List Nat):(List.replicate wh 0 ++ (os ++ c :: List.replicate (m+1) 0))[wh+os.length+1]?.getD 0 = 0:=by
 rw [List.getElem?_append_right (by simp; omega),List.length_replicate,List.getElem?_append_right (by omega)]
 rw [show wh+os.length+1 - wh - os.length = 0+1 by omega,List.getElem?_cons_succ]
 simp
theorem up_end {v x wh pt k c n:Nat} (hk:k = 32 * wh+pt) (h:v+4294967296 ^ n * c = x * 2 ^ pt):4294967296 ^ wh * (v+4294967296 ^ n * c) = x * 2 ^ k:=by
 rw [h,hk,Nat.pow_add,Nat.pow_mul,Nat.mul_left_comm]
theorem shiftUp_some (b off cap n wh pt k:Nat) (xs:List Nat) (w:World) (hn:Hid (xs.length = n)) (hlen:n≤20000) (hx:Pl.Wf xs) (hlt:b < w.heap.size) (hk:Hid (k = 32 * wh+pt)) (hpt:pt < 32) (hwh:wh≤20000)
  (hc:∀ j,j < n→w.cell? ⟨b,off+j,none⟩ = some (.int .u32 ((xs[j]?.getD 0:Nat):Int))) :
  Calls Tryz.prog 77 #[.slice (some ⟨b,off,none⟩) n cap,.int .i64 (k:Int)] w
   fun e w'=>∃ (out:List Nat),e = .returned (.slice (some ⟨w.heap.size,0,none⟩) (wh+n+1) (wh+n+1))∧out.length = wh+n+1∧Pl.Wf out∧Pl.val out = Pl.val xs * 2 ^ k∧Row w' w.heap.size out∧Below w.heap.size w w':=by
 have hmk:=make_limbs ((wh:Int)+(n:Int)+1) (wh+n+1) (by omega) (by omega)
 have hq:(k:Int) / 32 = (wh:Int):=by have:=unhide hk; omega
 have hr:(k:Int) % 32 = (pt:Int):=by have:=unhide hk; omega
 have HP:Hid (k % 32 = pt):=by have:=unhide hk; exact hide (by omega)
 go_enter Tryz.func77,Tryz.ntmps77
 go_wp2
 clear hmk hq hr
 go_loopw [23] (fun i wr=>∃ (j c:Nat) (os:List Nat),j≤n∧i = .int .i64 (j:Int)∧c < 2 ^ pt∧os.length = j∧Pl.Wf os∧Pl.val os+4294967296 ^ j * c = Pl.val (xs.take j) * 2 ^ pt ∧
   Row wr w.heap.size (List.replicate wh 0 ++ (os ++ c :: List.replicate (n - j) 0))∧Below w.heap.size w wr) (fun i _=>n - (intOf i).toNat)
 case atStart=>
  refine ⟨0,0,[],Nat.zero_le _,rfl,Nat.pow_pos (by decide),rfl,Pl.wf_nil,by simp [Pl.val],?_,gr_alloc _ _⟩
  have e:List.replicate wh 0 ++ ([] ++ 0 :: List.replicate (n - 0) 0) = List.replicate (wh+n+1) 0:=by
   rw [List.nil_append,Nat.sub_zero,← List.replicate_succ,List.replicate_append_replicate,Nat.add_assoc]
  rw [e]
  exact Row.made _ _
 case round=>
  obtain ⟨j,c,os,hj,rfl,hcl,hol,how,hval,hr,hbel⟩:=hrel
  have hxl:=unhide hn
  by_cases hjn:j < n
  ·obtain ⟨x,hxx⟩:∃ x,x = xs[j]?.getD 0:=⟨_,rfl⟩
   obtain ⟨m,hm⟩:∃ m,n - j = m+1:=⟨n - j - 1,by omega⟩
   rw [hm] at hr
   have hx1:x < 4294967296:=by rw [hxx]; exact Pl.wf_at hx j
   have hcx:wr.cell? ⟨b,off+j,none⟩ = some (.int .u32 (x:Int)):=by rw [hxx]; exact (hbel.cell (by exact hlt)).trans (hc j hjn)
   have hc1:=hr.cell (wh+j) (by simp; omega)
   have hc2:=hr.cell (wh+j+1) (by simp; omega)
   rw [← hol,up_at1] at hc1
   rw [← hol,up_at2] at hc2
   rw [hol] at hc1 hc2
   have hf1:=hr.frozen (wh+j)
   have hf2:=hr.frozen (wh+j+1)
   have HR:Hid (∀ v1 v2:Nat,Row ((wr.setCell ⟨w.heap.size,wh+j,none⟩ (.int .u32 (v1:Int))).setCell ⟨w.heap.size,wh+j+1,none⟩ (.int .u32 (v2:Int))) w.heap.size (List.replicate wh 0 ++ ((os ++ [v1]) ++ v2 :: List.replicate m 0))):=fun v1 v2=>by
    have h1:=hr.set (wh+j) v1 (by simp; omega)
    rw [← hol,up_set1] at h1
    have h2:=h1.set (wh+(os ++ [v1]).length) v2 (by simp)
    rw [up_set2] at h2
    rw [← hol]
    simpa [Nat.add_assoc] using h2
   have HV:Hid (∀ lo hi:Nat,x * 2 ^ pt = 4294967296 * hi+lo→Pl.val (os ++ [c+lo])+4294967296 ^ (j+1) * hi = Pl.val (xs.take (j+1)) * 2 ^ pt):=fun lo hi e=>by
    rw [Pl.val_append,Pl.val_one,hol,Pl.val_take_any xs j,← hxx]
    exact up_step (Nat.pow_succ ..) hval rfl e
   have HM:=hide hm
   clear hval hxx hr hxl hc hm
   go_wp2
   go_roundw
   case rel=>
    rw [sh_wrap hx1 (unhide HP) hpt,or_low hcl hpt,or_high hx1 hpt]
    have hm:=unhide HM
    refine ⟨j+1,x * 2 ^ pt / 4294967296,os ++ [c+x * 2 ^ pt % 4294967296],by omega,by go_num,high_lt hx1,by simp [hol],Pl.wf_append how (Pl.wf_one (low_lt hcl hpt)),unhide HV _ _ (Nat.div_add_mod _ _).symm,?_,(hbel.setCell (Nat.le_refl _) _).setCell (Nat.le_refl _) _⟩
    rw [show n - (j+1) = m by omega]
    exact unhide HR _ _
   case measure=>simp [intOf]; omega
  ·have hje:j = n:=by omega
   subst hje
   rw [List.take_of_length_le (by omega)] at hval
   rw [Nat.sub_self] at hr
   have hc32:=pow_lt32 hpt
   have HV:Hid (Pl.val (List.replicate wh 0 ++ (os ++ [c])) = Pl.val xs * 2 ^ k):=by
    rw [Pl.val_append,Pl.val_replicate,List.length_replicate,Nat.zero_add,Pl.val_append,Pl.val_one,hol]
    exact up_end (unhide hk) hval
   have HW:Hid (Pl.Wf (List.replicate wh 0 ++ (os ++ [c]))):=Pl.wf_append (Pl.wf_replicate wh) (Pl.wf_append how (Pl.wf_one (by omega)))
   have HR:=hide hr
   clear hval hr hc hxl
   go_wp2
   go_ret
   exact ⟨List.replicate wh 0 ++ (os ++ [c]),rfl,by simp [hol]; omega,unhide HW,unhide HV,unhide HR,hbel⟩
theorem shiftUp_none (a:Option Addr) (cap wh pt k:Nat) (w:World) (hk:Hid (k = 32 * wh+pt)) (hpt:pt < 32) (hwh:wh≤20000) :
  Calls Tryz.prog 77 #[.slice a 0 cap,.int .i64 (k:Int)] w
   fun e w'=>∃ (out:List Nat),e = .returned (.slice (some ⟨w.heap.size,0,none⟩) (wh+1) (wh+1))∧out.length = wh+1∧Pl.Wf out∧Pl.val out = 0∧Row w' w.heap.size out∧Below w.heap.size w w':=by
 have hmk:=make_limbs ((wh:Int)+1) (wh+1) (by omega) (by omega)
 have hq:(k:Int) / 32 = (wh:Int):=by have:=unhide hk; omega
 have hr:(k:Int) % 32 = (pt:Int):=by have:=unhide hk; omega
 go_enter Tryz.func77,Tryz.ntmps77
 go_wp2
 refine wp_loop_rounds 1 ?_
 rw [rounds_succ]
 go_wp2
 go_ret
 exact ⟨List.replicate (wh+1) 0,rfl,List.length_replicate,Pl.wf_replicate _,Pl.val_replicate _,Row.made _ _,gr_alloc _ _⟩
theorem shiftUp_any (a:Option Addr) (n cap wh pt k:Nat) (xs:List Nat) (w:World) (hn:xs.length = n) (hlen:n≤20000) (hl:Lim w a xs) (hx:Pl.Wf xs) (hk:k = 32 * wh+pt) (hpt:pt < 32) (hwh:wh≤20000) :
  Calls Tryz.prog 77 #[.slice a n cap,.int .i64 (k:Int)] w
   fun e w'=>∃ (out:List Nat),e = .returned (.slice (some ⟨w.heap.size,0,none⟩) (wh+n+1) (wh+n+1))∧out.length = wh+n+1∧Pl.Wf out∧Pl.val out = Pl.val xs * 2 ^ k∧Row w' w.heap.size out∧Below w.heap.size w w':=by
 rcases hl.parts with h0|⟨_,b,off,rfl,hlt,hc⟩
 ·subst h0
  obtain rfl:n = 0:=by rw [← hn]; rfl
  refine (shiftUp_none a cap wh pt k w (hide hk) hpt hwh).mono ?_
  rintro e w' ⟨out,he,h1,h2,h3,h4,h5⟩
  exact ⟨out,he,h1,h2,by rw [h3]; simp [Pl.val],h4,h5⟩
 ·exact shiftUp_some b off cap n wh pt k xs w (hide hn) hlen hx hlt (hide hk) hpt hwh (fun j hj=>hc j (by omega))
theorem word_some (b off cap n:Nat) (xs:List Nat) (w:World) (hn:Hid (xs.length = n)) (hn2:n≤2) (hw:Pl.Wf xs)
  (hc:∀ j,j < n→w.cell? ⟨b,off+j,none⟩ = some (.int .u32 ((xs[j]?.getD 0:Nat):Int))) :
  Calls Tryz.prog 58 #[.slice (some ⟨b,off,none⟩) n cap] w fun e w'=>e = .returned (.int .u64 (Pl.val xs:Int))∧w = w':=by
 go_enter Tryz.func58,Tryz.ntmps58
 go_wp2
 go_loop [3,4] (fun r i=>∃ (k acc:Nat),k≤n∧i = .int .i64 ((k:Int) - 1)∧r = .int .u64 (acc:Int)∧acc = Pl.val (xs.drop k)) (fun _ i=>(intOf i+1).toNat)
 case atStart=>exact ⟨n,0,Nat.le_refl _,rfl,rfl,by rw [List.drop_eq_nil_of_le (by rw [unhide hn]; omega)]; rfl⟩
 case round=>
  obtain ⟨k,acc,hk,rfl,rfl,hv⟩:=hrel
  by_cases hk0:k = 0
  ·subst hk0
   have HV:=hide hv
   clear hv
   go_wp2
   go_ret
   exact ⟨ret_int (by rw [unhide HV,List.drop_zero]),rfl⟩
  ·obtain ⟨j,rfl⟩:∃ j,k = j+1:=⟨k - 1,by omega⟩
   obtain ⟨x,hxx⟩:∃ x,x = xs[j]?.getD 0:=⟨_,rfl⟩
   have hnl:=unhide hn
   have hx1:x < 4294967296:=by rw [hxx]; exact Pl.wf_at hw j
   have hacc:acc < 4294967296:=by
    have h1:=Pl.val_lt (Pl.wf_drop hw (j+1))
    have h2:(xs.drop (j+1)).length≤1:=by rw [List.length_drop]; omega
    have h3:=Pl.pow_le h2
    rw [← hv] at h1
    omega
   have hcx:=hc j (by omega)
   rw [← hxx] at hcx
   obtain ⟨t,ht⟩:∃ t,t = acc * 4294967296+x:=⟨_,rfl⟩
   have hor:Go.bits BinOp.or IntKind.u64 ((acc:Int) * 4294967296) (x:Int) = (t:Int):=by rw [or_limb acc x hacc hx1,ht]; omega
   have HT:Hid (t = Pl.val (xs.drop j)):=by
    rw [Pl.drop_cons xs j (by omega),← hxx]
    show t = x+4294967296 * Pl.val (xs.drop (j+1))
    rw [← hv,ht]; omega
   clear hxx ht hv hnl hc
   go_wp2
   go_round
   case rel=>exact ⟨j,t,by omega,rfl,rfl,unhide HT⟩
   case measure=>simp [intOf]
theorem word_any (a:Option Addr) (n cap m:Nat) (w:World) (h:Num w a n m) (hn2:n≤2) :
  Calls Tryz.prog 58 #[.slice a n cap] w fun e w'=>e = .returned (.int .u64 (m:Int))∧w = w':=by
 obtain ⟨xs,hn,hl,hw,hN,hv,hb⟩:=h
 rcases hl.parts with hx|⟨hp,b,off,rfl,hlt,hc⟩
 ·have hn0:n = 0:=by rw [← hn,hx]; rfl
  have hm0:m = 0:=by rw [← hv,hx]; rfl
  subst hn0 hm0
  clear hn hv hl hw hN hb hx
  go_enter Tryz.func58,Tryz.ntmps58
  go_wp2
  refine wp_loop_rounds 1 ?_
  rw [rounds_succ]
  go_wp2
  go_ret
  exact ⟨rfl,rfl⟩
 ·rw [← hv]
  exact word_some b off cap n xs w (hide hn) hn2 hw (fun j hj=>hc j (by omega))
theorem low_small (a:Option Addr) (n cap m:Nat) (w:World) (h:Num w a n m) (hn2:n≤2) :
  Calls Tryz.prog 22 #[.agg #[.slice a n cap]] w fun e w'=>e = .returned (.tuple #[.int .u64 (m:Int),.bool true])∧Below w.heap.size w w':=by
 have H:=hide h
 obtain ⟨xs,hn,hl,hw,hN,hv,hb⟩:=h
 have hck:=check_any a cap xs (w.alloc (.cells #[.slice a n cap] 26)) (by omega) (hl.alloc _)
 rw [hn,chk_ok (by omega) hN] at hck
 have HK:=hide hck
 clear hck hl hn hv
 go_enter Tryz.func22,Tryz.ntmps22
 go_wp2_with fail
 refine (unhide HK).mono ?_
 rintro e w1 ⟨rfl,hb1⟩
 obtain ⟨hc1,hf1⟩:=bcell hb1
 go_wp2_with fail
 refine (word_any a n cap m w1 (((unhide H).alloc _).kept hb1) hn2).mono ?_
 rintro e w2 ⟨rfl,rfl⟩
 go_wp2
 go_ret2
 exact ⟨rfl,gr_trans (gr_alloc _ _) hb1⟩
theorem digits_ex:∀ m:Nat,∃ ds,Pl.Dig ds∧Pl.Lead ds∧Pl.dval ds 0 = m:=by
 intro m
 induction m using Nat.strongRecOn with
 | ind m ih=>
  by_cases h:m < 10
  ·exact ⟨[m],fun d hd=>by simp at hd; omega,⟨by simp,Or.inr rfl⟩,by show 0 * 10+m = m; omega⟩
  ·obtain ⟨ds,h1,h2,h3⟩:=ih (m / 10) (by omega)
   refine ⟨ds ++ [m % 10],fun d hd=>?_,⟨by simp,Or.inl ?_⟩,?_⟩
   ·rw [List.mem_append] at hd
    rcases hd with hd|hd
    ·exact h1 d hd
    ·simp at hd; omega
   ·obtain ⟨h4,h5⟩:=h2
    match ds,h4 with
    | [d],_=>
     have:0 * 10+d = m / 10:=h3
     show d≠0
     omega
    | d :: e :: r,_=>
     rcases h5 with h5|h5
     ·exact h5
     ·simp at h5
   ·rw [dval_append,h3]
    have:Pl.dval [m % 10] 0 = m % 10:=by show 0 * 10+m % 10 = _; omega
    rw [this]; simp; omega
theorem says_ex (m:Nat):∃ ds,Pl.Dig ds∧Says ⟨(chars ds).toArray⟩ m∧Pl.dval ds 0 = m∧Pl.Lead ds:=by
 obtain ⟨ds,h1,h2,h3⟩:=digits_ex m
 exact ⟨ds,h1,⟨ds,rfl,h1,h2,h3⟩,h3,h2⟩
end Go.Proofs.YtpmmapoabbpaiaaGreat
