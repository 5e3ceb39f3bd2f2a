/- Of what DecExactRow stands on: Sym3 Sym4 Sym5 Sym6 Sym7 Low Sym8 SymJ. -/
import Derived.Test.YtpmmapoabbpaiaaGreatPaf
import Derived.LoopN
namespace Go.Proofs.YtpmmapoabbpaiaaGreat
open Go.RowKit
set_option maxHeartbeats 400000
def isUp (l:Array Bool) (k:Nat):Bool:=l.getD k false
theorem isUp_iff {l:Array Bool} {k:Nat}:isUp l k = true↔l[k]? = some true:=⟨getD_true,true_getD⟩
theorem isUp_no {l:Array Bool} {k:Nat} (h:l[k]?≠some true):isUp l k = false:=by
 cases hb:isUp l k with
 | false=>rfl
 | true=>exact absurd (isUp_iff.1 hb) h
theorem set_up {l:Array Bool} {i k:Nat} (hl:l[i]? = some false):(l.setIfInBounds i true)[k]? = some true↔k = i∨l[k]? = some true:=by
 obtain ⟨hlt,-⟩:=Array.getElem?_eq_some_iff.1 hl
 by_cases hk:k = i
 ·subst hk; simp [hlt]
 ·rw [Array.getElem?_setIfInBounds_ne (Ne.symm hk)]; simp [hk]
theorem isUp_set {l:Array Bool} {i:Nat} (hl:l[i]? = some false):isUp (l.setIfInBounds i true) = fun m=>isUp l m || Nat.beq m i:=by
 funext m
 cases hb:Nat.beq m i with
 | true=>
  obtain rfl:=Nat.eq_of_beq_eq_true hb
  rw [Bool.or_true]; exact isUp_iff.2 ((set_up hl).2 (Or.inl rfl))
 | false=>
  have hne:m≠i:=by rintro rfl; rw [Nat.beq_refl] at hb; cases hb
  rw [Bool.or_false]
  unfold isUp
  rw [Array.getD_eq_getD_getElem?,Array.getElem?_setIfInBounds_ne (Ne.symm hne),← Array.getD_eq_getD_getElem?]
theorem sta_mine (base:Nat) (a:Option Addr) (n c m:Nat):Sta (fun W=>Mine W base a n c m):=⟨fun _ _ hb h=>h.kept hb,fun _ _ _ _ j u hb ht _ h=>h.put hb ht j u⟩
theorem sta_num (a:Option Addr) (n m:Nat):Sta (fun W=>Num W a n m):=⟨fun _ _ hb h=>h.kept hb,fun _ _ _ _ j u hb _ hl h=>h.put hb hl j u⟩
def Agr (l:Array Bool) (p p':Pqs):Prop:=∀ k,l[k]? = some true→p' k = p k
theorem Agr.refl (l:Array Bool) (p:Pqs):Agr l p p:=fun _ _=>rfl
theorem Agr.back {l:Array Bool} {p p':Pqs} {i:Nat} (hl:l[i]? = some false) (h:Agr (l.setIfInBounds i true) p p'):Agr l p p':=fun k hk=>h k ((set_up hl).2 (Or.inr hk))
theorem Agr.backS {l:Array Bool} {p p':Pqs} {i:Nat} {q:Pq} (hl:l[i]? = some false) (h:Agr (l.setIfInBounds i true) (p.set i q) p'):Agr l p p'∧p' i = q:=by
 refine ⟨fun k hk=>?_,?_⟩
 ·have:=h k ((set_up hl).2 (Or.inr hk))
  rw [this]
  have hne:k≠i:=by rintro rfl; rw [hl] at hk; cases hk
  simp [Pqs.set,hne]
 ·have:=h i ((set_up hl).2 (Or.inl rfl))
  rw [this]; simp [Pqs.set]
def lds (b:Nat):Nat→List Value→List Ev
 | _,[]=>[]
 | o,v :: r=>.ld ⟨b,o,none⟩ v :: lds b (o+1) r
def sts (b:Nat):Nat→List Value→List Ev
 | _,[]=>[]
 | o,v :: r=>.st ⟨b,o,none⟩ v :: sts b (o+1) r
def noPutB (j:Nat):List Spo→Bool
 | []=>true
 | .p j' _ _ :: r=>j' != j && noPutB j r
 | _ :: r=>noPutB j r
def factOf (S:List Spo) (p:Pqs) (k:Nat) (W:World):Prop:=match S[k]? with
 | some (.c _ cf)=>cf.g (p k) W
 | some (.n _ cs t)=>noPutB (1000+k) S = true→W.heap[(p k).N]? = some (.cells cs (t % 1000000) (0,0))
 | _=>True
def FactsAt (ops:Array Oper) (S:List Spo) (p:Pqs) (i:Nat) (W:World):Prop:=∀ k,reach ops 8 i k = true→factOf S p k W
def BoxesAt (E:List Bx) (S:List Spo) (W:World):Prop:=∀ (j:Nat) (x:Bx),E[j]? = some x→noPutB j S = true→Nat.blt j 1000 = true→W.heap[x.b]? = some (.cells x.cs x.t (0,0))
structure Cx (ops:Array Oper) (E:List Bx) (S:List Spo) (G:World→Prop) (w0:World) (base:Nat) (p:Pqs) (i:Nat) (W:World):Prop where
 hb:base≤W.heap.size
 fr:Below w0.heap.size w0 W
 F:FactsAt ops S p i W
 G:G W
 B:BoxesAt E S W
def OkAt (P:Program) (ops:Array Oper) (L:Ks) (E:List Bx) (S:List Spo) (G:World→Prop) (w0:World) (base:Nat) (p:Pqs) (i:Nat):Spo→Prop
 | .v s x=>opRun P ops L (puts p 0 S) i 0 [] = some (some s,true,some (.value x,[]))
 | .l s x j off=>∃ bx bo,boxOf E S p j = some (bx,bo)∧opRun P ops L (puts p 0 S) i 0 x.cells.toList = some (some s,true,some (.value x,lds bx.b off x.cells.toList))∧((cellsOf (fun k=>Nat.blt k i) j 0 S bx.cs).toList.drop off).take x.cells.size = x.cells.toList
 | .p j off xs=>∃ bx bo,boxOf E S p j = some (bx,bo)∧opRun P ops L (puts p 0 S) i 0 [] = some (none,true,some (.skip,sts bx.b off xs))∧Nat.ble (off+xs.length) bx.cs.size = true
 | .n s cs t=>∀ r,opRun P ops L (puts p 0 S) i r [] = some (some s,true,some (.value (nv r t),[.nw (.cells cs (t % 1000000))]))
 | .c s f=>∃ fn args,opRun P ops L (puts p 0 S) i 0 [] = some (s,true,some (.enter fn args,[]))∧∀ W,Cx ops E S G w0 base p i W→Calls P fn args W fun en W'=>∃ q,en = .returned (f.f q)∧Below W.heap.size W W'∧f.g q W'
 | .u s x h=>∃ fn args,opRun P ops L (puts p 0 S) i 0 [] = some (some s,true,some (.enter fn args,[]))∧h args = x∧∀ W,Cx ops E S G w0 base p i W→Calls P fn args W fun en W'=>en = .returned x∧Below W.heap.size W W'
 | .g s x vs es=>opRun P ops L (puts p 0 S) i 0 vs = some (some s,true,some (.value x,es))∧∀ W,Cx ops E S G w0 base p i W→EvsOk 0 es W∧evs es W = W
 | .k s=>∃ x,opRun P ops L (puts p 0 S) i 0 [] = some (s,false,x)
def Oks (P:Program) (ops:Array Oper) (L:Ks) (E:List Bx) (S:List Spo) (G:World→Prop) (w0:World) (base:Nat) (p:Pqs):Nat→List Spo→Prop
 | _,[]=>True
 | i,x :: r=>OkAt P ops L E S G w0 base p i x∧Oks P ops L E S G w0 base p (i+1) r
theorem Oks.at {P:Program} {ops:Array Oper} {K:Ks} {E:List Bx} {S:List Spo} {G:World→Prop} {w0:World} {base:Nat} {p:Pqs}:∀ (L:List Spo) (i0 k:Nat) (x:Spo),Oks P ops K E S G w0 base p i0 L→L[k]? = some x→OkAt P ops K E S G w0 base p (i0+k) x
 | [],_,_,_,_,hk=>by simp at hk
 | y :: r,i0,0,x,h,hk=>by
  simp only [List.getElem?_cons_zero,Option.some.injEq] at hk
  subst hk; exact h.1
 | y :: r,i0,k+1,x,h,hk=>by
  have:=Oks.at r (i0+1) k x h.2 (by simpa using hk)
  rw [show i0+(k+1) = i0+1+k from by omega]; exact this
structure SymS (ops:Array Oper) (T0:Array Value) (n:Nat) (L:Ks) (E:List Bx) (S:Pqs→List Spo) (G:World→Prop) (w0:World) (base:Nat):Prop where
 shape:∀ p p',(S p).map Spo.bare = (S p').map Spo.bare
 apart:∀ p,Puts.apart (puts p 0 (S p)) = true
 len:∀ p,(S p).length = ops.size
 within:∀ p,Puts.within (puts p 0 (S p)) T0.size = true
 back:backB ops = true
 reads:∀ p,readsOk ops L (puts p 0 (S p)) 0 ops.toList = true
 kn:Kn T0 n L
 mem:∀ p,memOk ops E (S p) 0 (S p) = true
 eb:E.all (fun x=>!x.my || noLimb x.cs.toList && x.t != 64) = true
 low:∀ x,x∈E→x.my = true→w0.heap.size≤x.b
 ne:∀ (j k:Nat) (x y:Bx),E[j]? = some x→E[k]? = some y→x.my = true→j≠k→x.b≠y.b
 lt:∀ x,x∈E→x.b < base
 w0b:w0.heap.size≤base
 sta:Sta G
structure SymI (ops:Array Oper) (T0:Array Value) (E:List Bx) (S:Pqs→List Spo) (G:World→Prop) (w0:World) (base:Nat) (p:Pqs) (l:Array Bool) (t:Array Value) (W:World):Prop where
 det:∀ p',Agr l p p'→Det ops (puts p' 0 (S p')) T0 l t
 mem:∀ p',Agr l p p'→∀ (j:Nat) (bx:Bx) (bo:Option Nat),boxOf E (S p') p' j = some (bx,bo)→(∀ k,bo = some k→l[k]? = some true)→W.heap[bx.b]? = some (.cells (cellsOf (isUp l) j 0 (S p') bx.cs) bx.t (0,0))
 fr:Below w0.heap.size w0 W
 bs:base≤W.heap.size
 nb:∀ (k s:Nat) (cs:Array Value) (t:TypeId),(S p)[k]? = some (.n s cs t)→l[k]? = some true→base≤(p k).N
 ne:∀ (k s:Nat) (cs:Array Value) (t:TypeId) (k' s':Nat) (cs':Array Value) (t':TypeId),(S p)[k]? = some (.n s cs t)→(S p)[k']? = some (.n s' cs' t')→l[k]? = some true→l[k']? = some true→k≠k'→(p k).N≠(p k').N
 fx:∀ (k:Nat) (s:Option Nat) (f:Cf),(S p)[k]? = some (.c s f)→l[k]? = some true→f.g (p k) W
 gx:G W
theorem SymS.bare {ops:Array Oper} {T0:Array Value} {n:Nat} {L:Ks} {E:List Bx} {S:Pqs→List Spo} {G:World→Prop} {w0:World} {base:Nat} (h:SymS ops T0 n L E S G w0 base) (p p':Pqs) (i:Nat):((S p)[i]?).map Spo.bare = ((S p')[i]?).map Spo.bare:=by
 have:=congrArg (fun l=>l[i]?) (h.shape p p')
 simpa using this
theorem SymS.at_n {ops:Array Oper} {T0:Array Value} {n:Nat} {L:Ks} {E:List Bx} {S:Pqs→List Spo} {G:World→Prop} {w0:World} {base:Nat} (h:SymS ops T0 n L E S G w0 base) {p:Pqs} (p':Pqs) {i s:Nat} {cs:Array Value} {t:TypeId} (hi:(S p)[i]? = some (.n s cs t)):(S p')[i]? = some (.n s cs t):=by
 have:=h.bare p p' i
 rw [hi] at this
 cases hx:(S p')[i]? with
 | none=>rw [hx] at this; simp at this
 | some x=>rw [hx] at this; cases x <;> simp [Spo.bare] at this; obtain ⟨rfl,rfl,rfl⟩:=this; rfl
theorem SymS.at_c {ops:Array Oper} {T0:Array Value} {n:Nat} {L:Ks} {E:List Bx} {S:Pqs→List Spo} {G:World→Prop} {w0:World} {base:Nat} (h:SymS ops T0 n L E S G w0 base) {p:Pqs} (p':Pqs) {i:Nat} {s:Option Nat} {f:Cf} (hi:(S p)[i]? = some (.c s f)):(S p')[i]? = some (.c s f):=by
 have:=h.bare p p' i
 rw [hi] at this
 cases hx:(S p')[i]? with
 | none=>rw [hx] at this; simp at this
 | some x=>rw [hx] at this; cases x <;> simp [Spo.bare] at this; obtain ⟨rfl,rfl⟩:=this; rfl
theorem SymS.at_k {ops:Array Oper} {T0:Array Value} {n:Nat} {L:Ks} {E:List Bx} {S:Pqs→List Spo} {G:World→Prop} {w0:World} {base:Nat} (h:SymS ops T0 n L E S G w0 base) {p:Pqs} (p':Pqs) {i:Nat} {s:Option Nat} (hi:(S p)[i]? = some (.k s)):(S p')[i]? = some (.k s):=by
 have:=h.bare p p' i
 rw [hi] at this
 cases hx:(S p')[i]? with
 | none=>rw [hx] at this; simp at this
 | some x=>rw [hx] at this; cases x <;> simp [Spo.bare] at this; obtain rfl:=this; rfl
theorem SymS.at_v {ops:Array Oper} {T0:Array Value} {n:Nat} {L:Ks} {E:List Bx} {S:Pqs→List Spo} {G:World→Prop} {w0:World} {base:Nat} (h:SymS ops T0 n L E S G w0 base) {p:Pqs} (p':Pqs) {i s:Nat} {x:Value} (hi:(S p)[i]? = some (.v s x)):∃ x',(S p')[i]? = some (.v s x'):=by
 have:=h.bare p p' i
 rw [hi] at this
 cases hx:(S p')[i]? with
 | none=>rw [hx] at this; simp at this
 | some y=>rw [hx] at this; cases y <;> simp [Spo.bare] at this; obtain rfl:=this; exact ⟨_,rfl⟩
theorem SymS.at_u {ops:Array Oper} {T0:Array Value} {n:Nat} {L:Ks} {E:List Bx} {S:Pqs→List Spo} {G:World→Prop} {w0:World} {base:Nat} (h:SymS ops T0 n L E S G w0 base) {p:Pqs} (p':Pqs) {i s:Nat} {x:Value} {g:Array Value→Value} (hi:(S p)[i]? = some (.u s x g)):∃ x',(S p')[i]? = some (.u s x' g):=by
 have:=h.bare p p' i
 rw [hi] at this
 cases hx:(S p')[i]? with
 | none=>rw [hx] at this; simp at this
 | some y=>rw [hx] at this; cases y <;> simp [Spo.bare] at this; obtain ⟨rfl,rfl⟩:=this; exact ⟨_,rfl⟩
theorem SymS.at_g {ops:Array Oper} {T0:Array Value} {n:Nat} {L:Ks} {E:List Bx} {S:Pqs→List Spo} {G:World→Prop} {w0:World} {base:Nat} (h:SymS ops T0 n L E S G w0 base) {p:Pqs} (p':Pqs) {i s:Nat} {x:Value} {vs:List Value} {es:List Ev} (hi:(S p)[i]? = some (.g s x vs es)):∃ x' vs' es',(S p')[i]? = some (.g s x' vs' es'):=by
 have:=h.bare p p' i
 rw [hi] at this
 cases hx:(S p')[i]? with
 | none=>rw [hx] at this; simp at this
 | some y=>rw [hx] at this; cases y <;> simp [Spo.bare] at this; obtain rfl:=this; exact ⟨_,_,_,rfl⟩
theorem SymS.at_l {ops:Array Oper} {T0:Array Value} {n:Nat} {L:Ks} {E:List Bx} {S:Pqs→List Spo} {G:World→Prop} {w0:World} {base:Nat} (h:SymS ops T0 n L E S G w0 base) {p:Pqs} (p':Pqs) {i s j off:Nat} {x:Value} (hi:(S p)[i]? = some (.l s x j off)):∃ x',(S p')[i]? = some (.l s x' j off):=by
 have:=h.bare p p' i
 rw [hi] at this
 cases hx:(S p')[i]? with
 | none=>rw [hx] at this; simp at this
 | some y=>rw [hx] at this; cases y <;> simp [Spo.bare] at this; obtain ⟨rfl,rfl,rfl⟩:=this; exact ⟨_,rfl⟩
theorem SymS.at_p {ops:Array Oper} {T0:Array Value} {n:Nat} {L:Ks} {E:List Bx} {S:Pqs→List Spo} {G:World→Prop} {w0:World} {base:Nat} (h:SymS ops T0 n L E S G w0 base) {p:Pqs} (p':Pqs) {i j off:Nat} {xs:List Value} (hi:(S p)[i]? = some (.p j off xs)):∃ xs',(S p')[i]? = some (.p j off xs'):=by
 have:=h.bare p p' i
 rw [hi] at this
 cases hx:(S p')[i]? with
 | none=>rw [hx] at this; simp at this
 | some y=>rw [hx] at this; cases y <;> simp [Spo.bare] at this; obtain ⟨rfl,rfl,-⟩:=this; exact ⟨_,rfl⟩
theorem SymS.mem_at {ops:Array Oper} {T0:Array Value} {n:Nat} {L:Ks} {E:List Bx} {S:Pqs→List Spo} {G:World→Prop} {w0:World} {base:Nat} (h:SymS ops T0 n L E S G w0 base) (p:Pqs) {i:Nat} {x:Spo} (hi:(S p)[i]? = some x):∃ r,memOk ops E (S p) i (x :: r) = true:=by
 have:=memOk_at (S p) 0 i (h.mem p)
 rw [Nat.zero_add] at this
 obtain ⟨hlt,he⟩:=List.getElem?_eq_some_iff.1 hi
 rw [List.drop_eq_getElem_cons hlt,he] at this
 exact ⟨_,this⟩
theorem SymI.cells {ops:Array Oper} {T0:Array Value} {E:List Bx} {S:Pqs→List Spo} {G:World→Prop} {w0:World} {base:Nat} {p:Pqs} {l:Array Bool} {t:Array Value} {W:World} {i:Nat} (hI:SymI ops T0 E S G w0 base p l t W) (hi:i∈Region.ready .any ops l) (hl:l[i]? = some false) {p':Pqs} (ha:Agr l p p') {j:Nat} {bx:Bx} {bo:Option Nat} (hb:boxOf E (S p') p' j = some (bx,bo)) (ht:touchOk ops i j 0 (S p') = true) (hr:Nat.blt j 1000 = true∨reach ops 4 i (j - 1000) = true) :
  W.heap[bx.b]? = some (.cells (cellsOf (isUp l) j 0 (S p') bx.cs) bx.t (0,0))∧cellsOf (isUp l) j 0 (S p') bx.cs = cellsOf (fun k=>Nat.blt k i) j 0 (S p') bx.cs∧(∀ k,bo = some k→l[k]? = some true):=by
 have hD:=hI.det p' ha
 have hal:∀ k,bo = some k→l[k]? = some true:=by
  intro k hk
  subst hk
  unfold boxOf at hb
  rcases hr with hr|hr
  ·rw [hr] at hb; simp at hb
  ·split at hb
   ·simp at hb
   ·split at hb
    ·simp only [Option.some.injEq,Prod.mk.injEq] at hb
     obtain ⟨-,rfl⟩:=hb
     exact reach_ready hD hr hi
    ·cases hb
 refine ⟨hI.mem p' ha j bx bo hb hal,cellsOf_agree _ _ _ (fun k off xs hk=>?_),hal⟩
 have:=touchOk_at (S p') 0 k off xs ht hk
 rw [Nat.zero_add] at this ⊢
 rcases this with rfl|⟨h1,h2⟩|⟨h1,h2⟩
 ·rw [isUp_no (by rw [hl]; simp)]
  symm
  cases hb9:Nat.blt k k with
  | false=>rfl
  | true=>rw [Nat.blt_eq] at hb9; omega
 ·rw [isUp_iff.2 (reach_ready hD h2 hi)]; symm; simpa [Nat.blt_eq] using h1
 ·rw [isUp_no (fun hc=>by have:=reach_done hD _ _ _ h2 hc; rw [hl] at this; cases this)]
  symm
  cases hb9:Nat.blt k i with
  | false=>rfl
  | true=>rw [Nat.blt_eq] at hb9; omega
theorem SymI.kept {ops:Array Oper} {T0:Array Value} {n:Nat} {L:Ks} {E:List Bx} {S:Pqs→List Spo} {G:World→Prop} {w0:World} {base:Nat} {p:Pqs} {l:Array Bool} {t:Array Value} {W W':World} (hs:SymS ops T0 n L E S G w0 base) (hI:SymI ops T0 E S G w0 base p l t W) (hb:Below W.heap.size W W'):SymI ops T0 E S G w0 base p l t W':=
 ⟨hI.det,fun p' ha j bx bo h1 h2=>by have:=hI.mem p' ha j bx bo h1 h2; rw [hb.block _ (block_lt this)]; exact this,gr_trans hI.fr hb,Nat.le_trans hI.bs hb.size,hI.nb,hI.ne,fun k s f hk hl=>(f.st _).kept W W' hb (hI.fx k s f hk hl),hs.sta.kept W W' hb hI.gx⟩
theorem wpOp_run {P:Program} {ops:Array Oper} {Q:Exit→Act→World→Prop} {o:Oper} {i:Nat} {a:Act} {W W':World} {nx:Next} {K:Act→World→Prop} (ho:ops[i]? = some o) (hw:Region.wanted o (yielded ops a.tmps) = true) (hr:(execOp a.eval o).run P W = .ok nx W') (h:o.upon P a K Q (.ok nx W')):wpOp P ops Q i K a W:=by
 unfold wpOp
 rw [ho]
 simp only [hw,if_true]
 left
 unfold Oper.wp
 rw [hr]; exact h
theorem SymI.step_val {ops:Array Oper} {T0:Array Value} {n:Nat} {L:Ks} {E:List Bx} {S:Pqs→List Spo} {G:World→Prop} {w0:World} {base:Nat} {p:Pqs} {l:Array Bool} {t:Array Value} {W:World} {i s:Nat} {x:Value} (hs:SymS ops T0 n L E S G w0 base) (hI:SymI ops T0 E S G w0 base p l t W) (hi:i∈Region.ready .any ops l) (hl:l[i]? = some false)
  (hk:∀ p',∀ j off xs,(S p')[i]?≠some (.p j off xs)) (hn:∀ p',∀ s cs t,(S p')[i]?≠some (.n s cs t)) (hc:∀ s f,(S p)[i]?≠some (.c s f)) (hv:∀ p',Agr l p p'→(puts p' 0 (S p'))[i]?.getD none = some (s,x)) :
  SymI ops T0 E S G w0 base p (l.setIfInBounds i true) (t.setIfInBounds s x) W:=by
 refine ⟨fun p' ha=>?_,fun p' ha j bx bo hb hal=>?_,hI.fr,hI.bs,fun k s' cs t' hk' hl'=>?_,fun k s' cs t' k' s'' cs'' t'' h1 h2 h3 h4 h5=>?_,fun k s' f hk' hl'=>?_,hI.gx⟩
 ·have ha':=ha.back hl
  have:=(hI.det p' ha').step (hs.apart p') (hs.within p') hi hl
  rw [hv p' ha'] at this
  exact this
 ·have ha':=ha.back hl
  have hal':∀ k,bo = some k→l[k]? = some true:=fun k hk'=>by
   rcases (set_up hl).1 (hal k hk') with rfl|h
   ·subst hk'
    unfold boxOf at hb
    split at hb
    ·cases he:E[j]? <;> rw [he] at hb <;> simp at hb
    ·split at hb
     ·rename_i hS9
      simp only [Option.some.injEq,Prod.mk.injEq] at hb
      rw [hb.2] at hS9
      exact absurd hS9 (hn p' _ _ _)
     ·cases hb
   ·exact h
  rw [hI.mem p' ha' j bx bo hb hal']
  congr 2
  refine cellsOf_agree _ _ _ (fun k off xs hk'=>?_)
  rw [isUp_set hl,Nat.zero_add]
  have hne:Nat.beq k i = false:=by
   cases hb9:Nat.beq k i with
   | false=>rfl
   | true=>obtain rfl:=Nat.eq_of_beq_eq_true hb9; exact absurd hk' (hk p' _ _ _)
  simp only [hne,Bool.or_false]
 ·rcases (set_up hl).1 hl' with rfl|h
  ·exact absurd hk' (hn p _ _ _)
  ·exact hI.nb k s' cs t' hk' h
 ·have g1:l[k]? = some true:=by
   rcases (set_up hl).1 h3 with rfl|h
   ·exact absurd h1 (hn p _ _ _)
   ·exact h
  have g2:l[k']? = some true:=by
   rcases (set_up hl).1 h4 with rfl|h
   ·exact absurd h2 (hn p _ _ _)
   ·exact h
  exact hI.ne k s' cs t' k' s'' cs'' t'' h1 h2 g1 g2 h5
 ·rcases (set_up hl).1 hl' with rfl|h
  ·exact absurd hk' (hc _ _)
  ·exact hI.fx k s' f hk' h
theorem lds_ok {W:World} {b:Nat} {cs:Array Value} {t:TypeId} (h:W.heap[b]? = some (.cells cs t (0,0))):∀ (vs:List Value) (off:Nat),(cs.toList.drop off).take vs.length = vs→EvsOk 0 (lds b off vs) W∧evs (lds b off vs) W = W
 | [],_,_=>⟨trivial,rfl⟩
 | v :: r,off,e=>by
  have hv:cs.toList[off]? = some v:=by
   have:=congrArg (fun L=>L[0]?) e
   simpa using this
  obtain ⟨hlt,-⟩:=List.getElem?_eq_some_iff.1 hv
  have hr:(cs.toList.drop (off+1)).take r.length = r:=by
   rw [List.drop_eq_getElem_cons hlt,List.length_cons,List.take_succ_cons] at e
   exact (List.cons.inj e).2
  obtain ⟨h1,h2⟩:=lds_ok h r (off+1) hr
  exact ⟨⟨by rw [cell_of_row W b off _ _ _ h]; simpa using hv,h1⟩,h2⟩
theorem noLimb_set {cs:Array Value} {k:Nat} {u:Value} (h:NoLimb cs.toList) (hu:∀ z,u≠.int .u32 z):NoLimb (cs.setIfInBounds k u).toList:=by
 intro v hv z
 rw [Array.toList_setIfInBounds] at hv
 rcases List.mem_or_eq_of_mem_set hv with hv|rfl
 ·exact h v hv z
 ·exact hu z
theorem noLimb_setL:∀ (xs:List Value) (k:Nat) (cs:Array Value),NoLimb cs.toList→NoLimb xs→NoLimb (setL cs k xs).toList
 | [],_,_,h,_=>h
 | x :: r,k,_,h,hx=>noLimb_setL r (k+1) _ (noLimb_set h (fun z=>hx x (List.mem_cons_self ..) z)) (fun v hv=>hx v (List.mem_cons_of_mem _ hv))
theorem setL_size:∀ (xs:List Value) (k:Nat) (cs:Array Value),(setL cs k xs).size = cs.size
 | [],_,_=>rfl
 | _ :: r,_,_=>by rw [setL,setL_size r]; simp
theorem cellsOf_size {f:Nat→Bool} {j:Nat}:∀ (S:List Spo) (i:Nat) (cs:Array Value),(cellsOf f j i S cs).size = cs.size
 | [],_,_=>rfl
 | x :: r,i,cs=>by
  cases x with
  | p j' off xs=>
   simp only [cellsOf]
   rw [cellsOf_size r]
   split
   ·exact setL_size _ _ _
   ·rfl
  | _=>exact cellsOf_size r (i+1) cs
theorem cellsOf_limb {ops:Array Oper} {E:List Bx} {S0:List Spo} {f:Nat→Bool} {j:Nat}:∀ (S:List Spo) (i:Nat) (cs:Array Value),memOk ops E S0 i S = true→NoLimb cs.toList→NoLimb (cellsOf f j i S cs).toList
 | [],_,_,_,h=>h
 | x :: r,i,cs,hm,h=>by
  cases x with
  | p j' off xs=>
   simp only [memOk,Bool.and_eq_true] at hm
   simp only [cellsOf]
   refine cellsOf_limb r (i+1) _ hm.2 ?_
   split
   ·exact noLimb_setL _ _ _ h (noLimb_of _ hm.1.1.2)
   ·exact h
  | v s x=>exact cellsOf_limb r (i+1) cs hm h
  | c s x=>exact cellsOf_limb r (i+1) cs hm h
  | u s x g=>exact cellsOf_limb r (i+1) cs hm h
  | g s x vs es=>exact cellsOf_limb r (i+1) cs hm h
  | k s=>exact cellsOf_limb r (i+1) cs hm h
  | l s x j' off=>simp only [memOk,Bool.and_eq_true] at hm; exact cellsOf_limb r (i+1) cs hm.2 h
  | n s x t=>exact cellsOf_limb r (i+1) cs hm h
theorem sts_ok {w0:World} {b:Nat} {t:TypeId} (ht:t≠64) (hw:w0.heap.size≤b):∀ (xs:List Value) (off:Nat) (cs:Array Value) (W:World),W.heap[b]? = some (.cells cs t (0,0))→off+xs.length≤cs.size→NoLimb cs.toList→NoLimb xs→xs.all (·.oneCell') = true→Below w0.heap.size w0 W →
  EvsOk 0 (sts b off xs) W∧(evs (sts b off xs) W).heap[b]? = some (.cells (setL cs off xs) t (0,0))∧(∀ k,k≠b→(evs (sts b off xs) W).heap[k]? = W.heap[k]?)∧Below w0.heap.size w0 (evs (sts b off xs) W)∧(evs (sts b off xs) W).heap.size = W.heap.size∧(∀ f:World→Prop,Sta f→f W→f (evs (sts b off xs) W))
 | [],_,_,_,h,_,_,_,_,hb=>⟨trivial,h,fun _ _=>rfl,hb,rfl,fun _ _ hf=>hf⟩
 | x :: r,off,cs,W,h,hn,hc,hx,h1,hb=>by
  simp only [List.length_cons] at hn
  simp only [List.all_cons,Bool.and_eq_true] at h1
  have hlt:off < cs.size:=by omega
  have hset:(W.setCell ⟨b,off,none⟩ x).heap[b]? = some (.cells (cs.setIfInBounds off x) t (0,0)):=heap_setCell_same W b off _ _ _ h
  obtain ⟨g1,g2,g3,g4,g5,g6⟩:=sts_ok (w0:=w0) ht hw r (off+1) (cs.setIfInBounds off x) (W.setCell ⟨b,off,none⟩ x) hset (by simp; omega) (noLimb_set hc (fun z=>hx x (List.mem_cons_self ..) z)) (fun v hv=>hx v (List.mem_cons_of_mem _ hv)) h1.2 (hb.setCell hw x)
  refine ⟨⟨⟨cs[off],by rw [cell_of_row W b off _ _ _ h]; simp [hlt]⟩,frozen_of_row W b off _ _ h,h1.1,g1⟩,g2,fun k hk=>?_,g4,?_,fun f hf hW=>?_⟩
  ·rw [show evs (sts b off (x :: r)) W = evs (sts b (off+1) r) (W.setCell ⟨b,off,none⟩ x) from rfl,g3 k hk]
   exact heap_setCell_other W _ k x hk
  ·rw [show evs (sts b off (x :: r)) W = evs (sts b (off+1) r) (W.setCell ⟨b,off,none⟩ x) from rfl,g5]; simp
  ·exact g6 f hf (hf.put W b cs t off x h ht hc hW)
theorem puts_i {S:Pqs→List Spo} {p:Pqs} {i:Nat} {x:Spo} (h:(S p)[i]? = some x):(puts p 0 (S p))[i]?.getD none = x.put p i:=by
 rw [puts_at,h,Nat.zero_add]; rfl
theorem boxOf_cases {E:List Bx} {Z:List Spo} {p:Pqs} {j:Nat} {bx:Bx} {bo:Option Nat} (h:boxOf E Z p j = some (bx,bo)):(Nat.blt j 1000 = true∧E[j]? = some bx∧bo = none)∨(Nat.blt j 1000 = false∧∃ s cs t,Z[j - 1000]? = some (.n s cs t)∧bx = ⟨(p (j - 1000)).N,cs,t % 1000000,true⟩∧bo = some (j - 1000)):=by
 unfold boxOf at h
 split at h
 ·rename_i hb
  refine Or.inl ⟨hb,?_⟩
  cases he:E[j]? with
  | none=>rw [he] at h; simp at h
  | some x=>rw [he] at h; simp at h; exact ⟨by rw [h.1],h.2.symm⟩
 ·rename_i hb
  split at h
  ·rename_i s cs t hS
   simp only [Option.some.injEq,Prod.mk.injEq] at h
   exact Or.inr ⟨hb,s,cs,t,hS,h.1.symm,h.2.symm⟩
  ·cases h
theorem noPut_no {j:Nat}:∀ (L:List Spo),noPutB j L = true→∀ (k off:Nat) (xs:List Value),L[k]?≠some (.p j off xs):=by
 intro L
 induction L with
 | nil=>intro _ k off xs h; simp at h
 | cons y r ih=>
  intro hL k off xs h
  cases k with
  | zero=>
   simp only [List.getElem?_cons_zero,Option.some.injEq] at h
   subst h
   simp [noPutB] at hL
  | succ k=>
   have hr:noPutB j r = true:=by
    cases y <;> simp_all [noPutB]
   exact ih hr k off xs (by simpa using h)
theorem SymI.boxes {ops:Array Oper} {T0:Array Value} {E:List Bx} {S:Pqs→List Spo} {G:World→Prop} {w0:World} {base:Nat} {p:Pqs} {l:Array Bool} {t:Array Value} {W:World} (hI:SymI ops T0 E S G w0 base p l t W):BoxesAt E (S p) W:=fun j x hj hnpj hj1=>by
 have hb:boxOf E (S p) p j = some (x,none):=by unfold boxOf; rw [hj1,hj]; rfl
 have:=hI.mem p (Agr.refl l p) j x none hb (fun k hk=>by cases hk)
 rw [this,cellsOf_none]
 intro k off xs hk
 exfalso
 have:∀ (L:List Spo),noPutB j L = true→∀ (k:Nat) off xs,L[k]?≠some (.p j off xs):=by
  intro L
  induction L with
  | nil=>intro _ k off xs h; simp at h
  | cons y r ih=>
   intro hL k off xs h
   cases k with
   | zero=>
    simp only [List.getElem?_cons_zero,Option.some.injEq] at h
    subst h
    simp [noPutB] at hL
   | succ k=>
    have hr:noPutB j r = true:=by
     cases y <;> first|exact hL|(simp only [noPutB,Bool.and_eq_true] at hL; exact hL.2)
    exact ih hr k off xs (by simpa using h)
 exact this _ hnpj k off xs hk
theorem SymI.facts {ops:Array Oper} {T0:Array Value} {E:List Bx} {S:Pqs→List Spo} {G:World→Prop} {w0:World} {base:Nat} {p:Pqs} {l:Array Bool} {t:Array Value} {W:World} {i:Nat} (hI:SymI ops T0 E S G w0 base p l t W) (hi:i∈Region.ready .any ops l):FactsAt ops (S p) p i W:=fun k hre=>by
 unfold factOf
 split
 ·rename_i s' cf hk
  exact hI.fx k s' cf hk (reach_ready (hI.det p (Agr.refl l p)) hre hi)
 ·rename_i s' cs ty hk
  intro hnp
  have hb:boxOf E (S p) p (1000+k) = some (⟨(p k).N,cs,ty % 1000000,true⟩,some k):=by
   unfold boxOf
   rw [show Nat.blt (1000+k) 1000 = false from by cases h:Nat.blt (1000+k) 1000 with
    | false=>rfl
    | true=>rw [Nat.blt_eq] at h; omega]
   simp [hk]
  have h1:=hI.mem p (Agr.refl l p) (1000+k) _ (some k) hb (fun k' e=>by cases e; exact reach_ready (hI.det p (Agr.refl l p)) hre hi)
  rw [cellsOf_none] at h1
  ·exact h1
  intro k' off xs hk'
  exact absurd hk' (noPut_no _ hnp _ _ _)
 ·trivial
theorem SymI.step {P:Program} {ops:Array Oper} {Q:Exit→Act→World→Prop} {T0:Array Value} {n:Nat} {L:Ks} {E:List Bx} {S:Pqs→List Spo} {G:World→Prop} {w0:World} {base:Nat} {p:Pqs} {l:Array Bool} {t:Array Value} {W:World} {i:Nat} (hs:SymS ops T0 n L E S G w0 base) (hok:∀ p,Oks P ops L E (S p) G w0 base p 0 (S p)) (hI:SymI ops T0 E S G w0 base p l t W) (hi:i∈Region.ready .any ops l) (hl:l[i]? = some false) :
  wpOp P ops Q i (fun a W'=>∃ p' t',a = ⟨t',[]⟩∧SymI ops T0 E S G w0 base p' (l.setIfInBounds i true) t' W') ⟨t,[]⟩ W:=by
 have hD:=hI.det p (Agr.refl l p)
 have hil:i < ops.size:=by rw [← hD.len]; exact (Array.getElem?_eq_some_iff.1 hl).1
 obtain ⟨sp,hsp⟩:∃ sp,(S p)[i]? = some sp:=⟨(S p)[i]'(by rw [hs.len]; exact hil),List.getElem?_eq_getElem _⟩
 have hokp:∀ p' x,(S p')[i]? = some x→OkAt P ops L E (S p') G w0 base p' i x:=fun p' x hx=>by
  have:=Oks.at (S p') 0 i x (hok p') hx
  rw [Nat.zero_add] at this; exact this
 have hat:=fun p' (ha:Agr l p p') {r:Nat} {vs:List Value} {d:Option Nat} {b:Bool} {x:Option (Next×List Ev)} (h:opRun P ops L (puts p' 0 (S p')) i r vs = some (d,b,x))=>opRun_at hs.kn (hI.det p' ha) (hs.apart p') (hs.reads p') hi hl h
 cases sp with
 | v s x=>
  have h0:=hokp p _ hsp
  obtain ⟨o,ho,hd,hw,hr⟩:=hat p (Agr.refl l p) h0
  have hrun:=script_run P 0 _ _ _ _ W hr trivial
  refine wpOp_run ho hw hrun ?_
  show ∃ p' t',_
  rw [hd]
  refine ⟨p,_,rfl,hI.step_val hs hi hl (fun p' j off xs h=>?_) (fun p' s' cs t' h=>?_) ?_ (fun p' ha=>?_)⟩
  ·obtain ⟨x',hx'⟩:=hs.at_v p' hsp; rw [h] at hx'; cases hx'
  ·obtain ⟨x',hx'⟩:=hs.at_v p' hsp; rw [h] at hx'; cases hx'
  ·intro s f h; rw [hsp] at h; cases h
  ·obtain ⟨x',hx'⟩:=hs.at_v p' hsp
   rw [puts_i hx']
   obtain ⟨o',ho',-,-,hr'⟩:=hat p' ha (hokp p' _ hx')
   rw [ho] at ho'; cases ho'
   have hrun':=script_run P 0 _ _ _ _ W hr' trivial
   rw [hrun] at hrun'
   cases hrun'; rfl
 | l s x j off=>
  have hrn:∀ p',Agr l p p'→∀ x',(S p')[i]? = some (.l s x' j off)→∃ o,ops[i]? = some o∧o.dst = some s∧Region.wanted o (yielded ops t) = true∧(execOp (Act.eval ⟨t,[]⟩) o).run P W = .ok (.value x') W:=fun p' ha x' hx'=>by
   obtain ⟨bx,bo,hb,h0,he⟩:=hokp p' _ hx'
   obtain ⟨o,ho,hd,hw,hr⟩:=hat p' ha h0
   obtain ⟨rr,hm⟩:=hs.mem_at p' hx'
   simp only [memOk,Bool.and_eq_true,Bool.or_eq_true] at hm
   obtain ⟨c1,c2,-⟩:=hI.cells hi hl ha hb hm.1.1 hm.1.2
   rw [← c2,← Array.length_toList] at he
   obtain ⟨g1,g2⟩:=lds_ok c1 _ _ he
   have hrun:=script_run P 0 _ _ _ _ W hr g1
   rw [g2] at hrun
   exact ⟨o,ho,hd,hw,hrun⟩
  obtain ⟨o,ho,hd,hw,hrun⟩:=hrn p (Agr.refl l p) x hsp
  refine wpOp_run ho hw hrun ?_
  show ∃ p' t',_
  rw [hd]
  refine ⟨p,_,rfl,hI.step_val hs hi hl (fun p' j off xs h=>?_) (fun p' s' cs t' h=>?_) ?_ (fun p' ha=>?_)⟩
  ·obtain ⟨x',hx'⟩:=hs.at_l p' hsp; rw [h] at hx'; cases hx'
  ·obtain ⟨x',hx'⟩:=hs.at_l p' hsp; rw [h] at hx'; cases hx'
  ·intro s f h; rw [hsp] at h; cases h
  ·obtain ⟨x',hx'⟩:=hs.at_l p' hsp
   rw [puts_i hx']
   obtain ⟨o',ho',-,-,hrun'⟩:=hrn p' ha x' hx'
   rw [ho] at ho'; cases ho'
   rw [hrun] at hrun'
   cases hrun'; rfl
 | g s x vs es=>
  have hrn:∀ p',Agr l p p'→SymI ops T0 E S G w0 base p' l t W→∀ x' vs' es',(S p')[i]? = some (.g s x' vs' es')→∃ o,ops[i]? = some o∧o.dst = some s∧Region.wanted o (yielded ops t) = true∧(execOp (Act.eval ⟨t,[]⟩) o).run P W = .ok (.value x') W:=fun p' ha hI' x' vs' es' hx'=>by
   obtain ⟨h0,he⟩:=hokp p' _ hx'
   obtain ⟨o,ho,hd,hw,hr⟩:=hat p' ha h0
   obtain ⟨g1,g2⟩:=he W ⟨hI'.bs,hI'.fr,hI'.facts hi,hI'.gx,hI'.boxes⟩
   have hrun:=script_run P 0 _ _ _ _ W hr g1
   rw [g2] at hrun
   exact ⟨o,ho,hd,hw,hrun⟩
  have hto:∀ p',Agr l p p'→SymI ops T0 E S G w0 base p' l t W:=fun p' ha=>
   ⟨fun p'' h=>hI.det p'' (fun k hk=>(h k hk).trans (ha k hk)),fun p'' h=>hI.mem p'' (fun k hk=>(h k hk).trans (ha k hk)),hI.fr,hI.bs,fun k s' cs t' hk hl'=>by rw [ha k hl']; exact hI.nb k s' cs t' (hs.at_n p hk) hl',fun k s' cs t' k' s'' cs'' t'' h1 h2 h3 h4 h5=>by rw [ha k h3,ha k' h4]; exact hI.ne k s' cs t' k' s'' cs'' t'' (hs.at_n p h1) (hs.at_n p h2) h3 h4 h5,fun k s' f hk hl'=>by rw [ha k hl']; exact hI.fx k s' f (hs.at_c p hk) hl',hI.gx⟩
  obtain ⟨o,ho,hd,hw,hrun⟩:=hrn p (Agr.refl l p) hI x vs es hsp
  refine wpOp_run ho hw hrun ?_
  show ∃ p' t',_
  rw [hd]
  refine ⟨p,_,rfl,hI.step_val hs hi hl (fun p' j off xs h=>?_) (fun p' s' cs t' h=>?_) ?_ (fun p' ha=>?_)⟩
  ·obtain ⟨x',vs',es',hx'⟩:=hs.at_g p' hsp; rw [h] at hx'; cases hx'
  ·obtain ⟨x',vs',es',hx'⟩:=hs.at_g p' hsp; rw [h] at hx'; cases hx'
  ·intro s f h; rw [hsp] at h; cases h
  ·obtain ⟨x',vs',es',hx'⟩:=hs.at_g p' hsp
   rw [puts_i hx']
   obtain ⟨o',ho',-,-,hrun'⟩:=hrn p' ha (hto p' ha) x' vs' es' hx'
   rw [ho] at ho'; cases ho'
   rw [hrun] at hrun'
   cases hrun'; rfl
 | k s=>
  obtain ⟨x,h0⟩:=hokp p _ hsp
  obtain ⟨o,ho,hd,hw,hr⟩:=hat p (Agr.refl l p) h0
  have hnp:∀ p' j off xs,(S p')[i]?≠some (.p j off xs):=fun p' j off xs h=>by have:=hs.at_k p' hsp; rw [h] at this; cases this
  have hnn:∀ p' s' cs t',(S p')[i]?≠some (.n s' cs t'):=fun p' s' cs t' h=>by have:=hs.at_k p' hsp; rw [h] at this; cases this
  have hc:∀ s f,(S p)[i]?≠some (.c s f):=fun s f h=>by rw [hsp] at h; cases h
  unfold wpOp
  rw [ho]
  simp only [hw,Bool.false_eq_true,if_false]
  rw [hd]
  cases s with
  | some s=>
   exact ⟨p,_,rfl,hI.step_val hs hi hl hnp hnn hc (fun p' ha=>by rw [puts_i (hs.at_k p' hsp)]; rfl)⟩
  | none=>
   refine ⟨p,t,rfl,?_⟩
   refine ⟨fun p' ha=>?_,fun p' ha j bx bo hb hal=>?_,hI.fr,hI.bs,fun k s' cs t' hk' hl'=>?_,fun k s' cs t' k' s'' cs'' t'' h1 h2 h3 h4 h5=>?_,fun k s' f hk' hl'=>?_,hI.gx⟩
   ·have ha':=ha.back hl
    have:=(hI.det p' ha').step (hs.apart p') (hs.within p') hi hl
    rw [puts_i (hs.at_k p' hsp)] at this
    exact this
   ·have ha':=ha.back hl
    have hal':∀ k,bo = some k→l[k]? = some true:=fun k hk'=>by
     rcases (set_up hl).1 (hal k hk') with rfl|h
     ·rcases boxOf_cases hb with ⟨-,-,h⟩|⟨-,s',cs,t',h,-,h2⟩
      ·rw [h] at hk'; cases hk'
      ·rw [h2] at hk'; have hk':=Option.some.inj hk'; rw [hk'] at h; exact absurd h (hnn p' _ _ _)
     ·exact h
    rw [hI.mem p' ha' j bx bo hb hal']
    congr 2
    refine cellsOf_agree _ _ _ (fun k off xs hk'=>?_)
    rw [isUp_set hl,Nat.zero_add]
    have hne:Nat.beq k i = false:=by
     cases hb9:Nat.beq k i with
     | false=>rfl
     | true=>obtain rfl:=Nat.eq_of_beq_eq_true hb9; exact absurd hk' (hnp p' _ _ _)
    simp only [hne,Bool.or_false]
   ·rcases (set_up hl).1 hl' with rfl|h
    ·exact absurd hk' (hnn p _ _ _)
    ·exact hI.nb k s' cs t' hk' h
   ·have g1:l[k]? = some true:=by
     rcases (set_up hl).1 h3 with rfl|h
     ·exact absurd h1 (hnn p _ _ _)
     ·exact h
    have g2:l[k']? = some true:=by
     rcases (set_up hl).1 h4 with rfl|h
     ·exact absurd h2 (hnn p _ _ _)
     ·exact h
    exact hI.ne k s' cs t' k' s'' cs'' t'' h1 h2 g1 g2 h5
   ·rcases (set_up hl).1 hl' with rfl|h
    ·exact absurd hk' (hc _ _)
    ·exact hI.fx k s' f hk' h
 | p j off xs=>
  have hc:∀ s f,(S p)[i]?≠some (.c s f):=fun s f h=>by rw [hsp] at h; cases h
  have hnn:∀ p' s' cs t',(S p')[i]?≠some (.n s' cs t'):=fun p' s' cs t' h=>by obtain ⟨x',this⟩:=hs.at_p p' hsp; rw [h] at this; cases this
  have hrn:∀ p',Agr l p p'→∀ xs',(S p')[i]? = some (.p j off xs')→∃ o bx bo W',ops[i]? = some o∧o.dst = none∧Region.wanted o (yielded ops t) = true∧(execOp (Act.eval ⟨t,[]⟩) o).run P W = .ok .skip W'∧boxOf E (S p') p' j = some (bx,bo)∧(∀ k,bo = some k→l[k]? = some true)∧bx.my = true∧W'.heap[bx.b]? = some (.cells (setL (cellsOf (isUp l) j 0 (S p') bx.cs) off xs') bx.t (0,0))∧(∀ k,k≠bx.b→W'.heap[k]? = W.heap[k]?)∧Below w0.heap.size w0 W'∧W'.heap.size = W.heap.size∧(∀ f:World→Prop,Sta f→f W→f W'):=fun p' ha xs' hx'=>by
   obtain ⟨bx,bo,hb,h0,he⟩:=hokp p' _ hx'
   obtain ⟨o,ho,hd,hw,hr⟩:=hat p' ha h0
   obtain ⟨rr,hm⟩:=hs.mem_at p' hx'
   have hm0:=hm
   simp only [memOk,Bool.and_eq_true] at hm
   have hmy:bx.my = true∧w0.heap.size≤bx.b∧(NoLimb bx.cs.toList∧bx.t≠64)∧(Nat.blt j 1000 = true∨reach ops 4 i (j - 1000) = true):=by
    have h2:=hm.1.1.1.2
    rcases boxOf_cases hb with ⟨hj,hE,-⟩|⟨hj,s',cs,t',hS,rfl,rfl⟩
    ·rw [hj,hE] at h2
     have h3:=List.all_eq_true.1 hs.eb bx (List.mem_of_getElem? hE)
     simp only at h2
     rw [h2] at h3
     simp only [Bool.not_true,Bool.false_or,Bool.and_eq_true,bne_iff_ne] at h3
     exact ⟨h2,hs.low bx (List.mem_of_getElem? hE) h2,⟨noLimb_of _ h3.1,h3.2⟩,Or.inl hj⟩
    ·rw [hj] at h2
     simp only [hS,Bool.and_eq_true,bne_iff_ne] at h2
     have hdn:=reach_ready (hI.det p' ha) h2.1 hi
     have hSp:(S p)[j - 1000]? = some (.n s' cs t'):=hs.at_n p hS
     have hN:=ha _ hdn
     refine ⟨rfl,?_,⟨noLimb_of _ h2.2.1,h2.2.2⟩,Or.inr h2.1⟩
     show w0.heap.size≤(p' (j - 1000)).N
     rw [hN]
     exact Nat.le_trans hs.w0b (hI.nb _ _ _ _ hSp hdn)
   obtain ⟨hmy,hlow,⟨hlim,hty⟩,hre⟩:=hmy
   obtain ⟨c1,c2,c3⟩:=hI.cells hi hl ha hb hm.1.1.1.1 hre
   obtain ⟨g1,g2,g3,g4,g5,g6⟩:=sts_ok (w0:=w0) hty hlow xs' off _ W c1 (by rw [cellsOf_size]; exact Nat.le_of_ble_eq_true he) (cellsOf_limb _ _ _ (hs.mem p') hlim) (noLimb_of _ hm.1.1.2) hm.1.2 hI.fr
   exact ⟨o,bx,bo,_,ho,hd,hw,script_run P 0 _ _ _ _ W hr g1,hb,c3,hmy,g2,g3,g4,g5,g6⟩
  obtain ⟨o,bx,bo,W',ho,hd,hw,hrun,hb,hbo,hmy,k2,k3,k4,k5,k6⟩:=hrn p (Agr.refl l p) xs hsp
  refine wpOp_run ho hw hrun ?_
  show ∃ p' t',_
  rw [hd]
  refine ⟨p,t,rfl,?_⟩
  refine ⟨fun p' ha=>?_,fun p' ha j2 bx2 bo2 hb2 hal=>?_,k4,by rw [k5]; exact hI.bs,fun k s' cs t' hk' hl'=>?_,fun k s' cs t' k' s'' cs'' t'' h1 h2 h3 h4 h5=>?_,fun k s' f hk' hl'=>?_,k6 _ hs.sta hI.gx⟩
  ·have ha':=ha.back hl
   obtain ⟨xs',hx'⟩:=hs.at_p p' hsp
   have:=(hI.det p' ha').step (hs.apart p') (hs.within p') hi hl
   rw [puts_i hx'] at this
   exact this
  ·have ha':=ha.back hl
   obtain ⟨xs',hx'⟩:=hs.at_p p' hsp
   obtain ⟨o',bx',bo',W'',ho',-,-,hrun',hb',hbo',hmy',e2,e3,-,-,-⟩:=hrn p' ha' xs' hx'
   rw [ho] at ho'; cases ho'
   rw [hrun] at hrun'
   cases hrun'
   have hal':∀ k,bo2 = some k→l[k]? = some true:=fun k hk'=>by
    rcases (set_up hl).1 (hal k hk') with rfl|h
    ·rcases boxOf_cases hb2 with ⟨-,-,h⟩|⟨-,s',cs,t',h,-,h2⟩
     ·rw [h] at hk'; cases hk'
     ·rw [h2] at hk'; have hk':=Option.some.inj hk'; rw [hk'] at h; exact absurd h (hnn p' _ _ _)
    ·exact h
   rw [isUp_set hl]
   by_cases hj:j2 = j
   ·subst hj
    rw [hb'] at hb2
    cases hb2
    have hmm:=hs.mem_at p' hx'
    obtain ⟨rr,hm⟩:=hmm
    simp only [memOk,Bool.and_eq_true] at hm
    have:=cellsOf_put (f:=isUp l) (S p') 0 i off xs' bx2.cs hx' (by rw [Nat.zero_add]; exact isUp_no (by rw [hl]; simp)) (fun k' off' xs'' hk' hlt=>by
     have ht:=touchOk_at (S p') 0 k' off' xs'' hm.1.1.1.1 hk'
     rw [Nat.zero_add] at ht ⊢
     refine isUp_no (fun hup=>?_)
     rcases ht with h|h|h
     ·omega
     ·omega
     ·have:=reach_done (hI.det p' ha') _ _ _ h.2 hup; rw [hl] at this; cases this)
    rw [Nat.zero_add] at this
    rw [this]; exact e2
   ·have hne:bx2.b≠bx'.b:=by
     rcases boxOf_cases hb2 with ⟨q1,q2,q3⟩|⟨q1,s1,cs1,t1,q2,q3,q4⟩
     ·rcases boxOf_cases hb' with ⟨r1,r2,r3⟩|⟨r1,s2,cs2,t2,r2,r3,r4⟩
      ·exact Ne.symm (hs.ne j j2 bx' bx2 r2 q2 hmy' (Ne.symm hj))
      ·have h1:=hs.lt bx2 (List.mem_of_getElem? q2)
       have hdn:=hbo' _ r4
       have h2:=hI.nb _ _ _ _ (hs.at_n p r2) hdn
       rw [r3]
       show bx2.b≠(p' (j - 1000)).N
       rw [ha' _ hdn]; omega
     ·have hdn1:=hal' _ q4
      rcases boxOf_cases hb' with ⟨r1,r2,r3⟩|⟨r1,s2,cs2,t2,r2,r3,r4⟩
      ·have h1:=hs.lt bx' (List.mem_of_getElem? r2)
       have h2:=hI.nb _ _ _ _ (hs.at_n p q2) hdn1
       rw [q3]
       show (p' (j2 - 1000)).N≠bx'.b
       rw [ha' _ hdn1]; omega
      ·have hdn2:=hbo' _ r4
       rw [q3,r3]
       show (p' (j2 - 1000)).N≠(p' (j - 1000)).N
       rw [ha' _ hdn1,ha' _ hdn2]
       refine hI.ne _ _ _ _ _ _ _ _ (hs.at_n p q2) (hs.at_n p r2) hdn1 hdn2 (fun e=>hj ?_)
       have a1:¬ j < 1000:=fun hc=>by rw [show Nat.blt j 1000 = true from by rw [Nat.blt_eq]; exact hc] at r1; cases r1
       have a2:¬ j2 < 1000:=fun hc=>by rw [show Nat.blt j2 1000 = true from by rw [Nat.blt_eq]; exact hc] at q1; cases q1
       omega
    rw [e3 _ hne,hI.mem p' ha' j2 bx2 bo2 hb2 hal']
    congr 2
    refine cellsOf_agree _ _ _ (fun k off' xs'' hk'=>?_)
    rw [Nat.zero_add]
    have hki:Nat.beq k i = false:=by
     cases hb9:Nat.beq k i with
     | false=>rfl
     | true=>
      obtain rfl:=Nat.eq_of_beq_eq_true hb9
      rw [hx'] at hk'
      cases hk'
      exact absurd rfl hj
    simp only [hki,Bool.or_false]
  ·rcases (set_up hl).1 hl' with rfl|h
   ·exact absurd hk' (hnn p _ _ _)
   ·exact hI.nb k s' cs t' hk' h
  ·have g1:l[k]? = some true:=by
    rcases (set_up hl).1 h3 with rfl|h
    ·exact absurd h1 (hnn p _ _ _)
    ·exact h
   have g2:l[k']? = some true:=by
    rcases (set_up hl).1 h4 with rfl|h
    ·exact absurd h2 (hnn p _ _ _)
    ·exact h
   exact hI.ne k s' cs t' k' s'' cs'' t'' h1 h2 g1 g2 h5
  ·rcases (set_up hl).1 hl' with rfl|h
   ·exact absurd hk' (hc _ _)
   ·exact k6 _ (f.st _) (hI.fx k s' f hk' h)
 | n s cs t0=>
  have hc:∀ s f,(S p)[i]?≠some (.c s f):=fun s f h=>by rw [hsp] at h; cases h
  have h0:=hokp p _ hsp W.heap.size
  obtain ⟨o,ho,hd,hw,hr⟩:=hat p (Agr.refl l p) h0
  have hrun:=script_run P W.heap.size _ _ _ _ W hr ⟨rfl,trivial⟩
  refine wpOp_run ho hw hrun ?_
  show ∃ p' t',_
  rw [hd]
  have hbl:=gr_alloc W (.cells cs (t0 % 1000000))
  refine ⟨p.set i { pq0 with N:=W.heap.size },_,rfl,?_⟩
  refine ⟨fun p' ha=>?_,fun p' ha j bx bo hb hal=>?_,gr_trans hI.fr hbl,Nat.le_trans hI.bs hbl.size,fun k s' cs' t' hk' hl'=>?_,fun k s' cs' t' k' s'' cs'' t'' h1 h2 h3 h4 h5=>?_,fun k s' f' hk' hl'=>?_,hs.sta.kept W _ hbl hI.gx⟩
  ·obtain ⟨ha',hq⟩:=ha.backS hl
   have:=(hI.det p' ha').step (hs.apart p') (hs.within p') hi hl
   rw [puts_i (hs.at_n p' hsp)] at this
   simp only [Spo.put,hq] at this
   exact this
  ·obtain ⟨ha',hq⟩:=ha.backS hl
   have hnp:∀ j off xs,(S p')[i]?≠some (.p j off xs):=fun j off xs h=>by have:=hs.at_n p' hsp; rw [h] at this; cases this
   have hcell:∀ cs',cellsOf (isUp (l.setIfInBounds i true)) j 0 (S p') cs' = cellsOf (isUp l) j 0 (S p') cs':=fun cs'=>by
    refine cellsOf_agree _ _ _ (fun k off xs hk'=>?_)
    rw [isUp_set hl,Nat.zero_add]
    have hne:Nat.beq k i = false:=by
     cases hb9:Nat.beq k i with
     | false=>rfl
     | true=>obtain rfl:=Nat.eq_of_beq_eq_true hb9; exact absurd hk' (hnp _ _ _)
    simp only [hne,Bool.or_false]
   by_cases hbi:bo = some i
   ·rcases boxOf_cases hb with ⟨q1,q2,q3⟩|⟨q1,s1,cs1,t1,q2,q3,q4⟩
    ·rw [q3] at hbi; cases hbi
    ·rw [q4] at hbi
     have hji:=Option.some.inj hbi
     rw [hji,hs.at_n p' hsp] at q2
     cases q2
     rw [q3,hji,hq,hcell,cellsOf_none]
     ·exact heap_alloc_new W _
     ·intro k off xs hk'
      rw [Nat.zero_add]
      obtain ⟨rr,hm⟩:=hs.mem_at p' hk'
      simp only [memOk,Bool.and_eq_true,q1,hji] at hm
      exact isUp_no (fun hup=>by have:=reach_done (hI.det p' ha') _ _ _ hm.1.1.1.2.1 hup; rw [hl] at this; cases this)
   ·have hal':∀ k,bo = some k→l[k]? = some true:=fun k hk'=>by
     rcases (set_up hl).1 (hal k hk') with rfl|h
     ·exact absurd hk' hbi
     ·exact h
    have:=hI.mem p' ha' j bx bo hb hal'
    show (W.alloc _).heap[bx.b]? = _
    rw [hcell,hbl.block _ (block_lt this)]; exact this
  ·rcases (set_up hl).1 hl' with rfl|h
   ·simp only [Pqs.set,if_true]; exact hI.bs
   ·have hne:k≠i:=by rintro rfl; rw [hl] at h; cases h
    simp only [Pqs.set,hne,if_false]
    exact hI.nb k s' cs' t' (hs.at_n p hk') h
  ·have hlt:∀ k s cs t,(S p)[k]? = some (.n s cs t)→l[k]? = some true→(p k).N < W.heap.size:=fun k s cs t hk hlk=>by
    have hb:boxOf E (S p) p (k+1000) = some (⟨(p k).N,cs,t % 1000000,true⟩,some k):=by
     unfold boxOf
     have:Nat.blt (k+1000) 1000 = false:=by
      cases hb9:Nat.blt (k+1000) 1000 with
      | false=>rfl
      | true=>rw [Nat.blt_eq] at hb9; omega
     rw [this,show k+1000 - 1000 = k from by omega,hk]
    exact block_lt (hI.mem p (Agr.refl l p) _ _ _ hb (fun k' hk'=>by rw [← Option.some.inj hk']; exact hlk))
   rcases (set_up hl).1 h3 with rfl|g1
   ·rcases (set_up hl).1 h4 with rfl|g2
    ·exact absurd rfl h5
    ·have:=hlt k' _ _ _ (hs.at_n p h2) g2
     have hne:k'≠k:=Ne.symm h5
     simp only [Pqs.set,hne,if_true,if_false]; omega
   ·have hne:k≠i:=by rintro rfl; rw [hl] at g1; cases g1
    rcases (set_up hl).1 h4 with rfl|g2
    ·have:=hlt k _ _ _ (hs.at_n p h1) g1
     simp only [Pqs.set,hne,if_true,if_false]; omega
    ·have hne':k'≠i:=by rintro rfl; rw [hl] at g2; cases g2
     simp only [Pqs.set,hne,hne',if_false]
     exact hI.ne k s' cs' t' k' s'' cs'' t'' (hs.at_n p h1) (hs.at_n p h2) g1 g2 h5
  ·rcases (set_up hl).1 hl' with rfl|h
   ·exact absurd (hs.at_c p hk') (hc _ _)
   ·have hne:k≠i:=by rintro rfl; rw [hl] at h; cases h
    simp only [Pqs.set,hne,if_false]
    exact (f'.st _).kept W _ hbl (hI.fx k s' f' (hs.at_c p hk') h)
 | u s x g=>
  obtain ⟨fn,args,h0,hx,hcall⟩:=hokp p _ hsp
  obtain ⟨o,ho,hd,hw,hr⟩:=hat p (Agr.refl l p) h0
  have hrun:=script_run P 0 _ _ _ _ W hr trivial
  refine wpOp_run ho hw hrun ?_
  show Calls P fn args W _
  refine (hcall W ⟨hI.bs,hI.fr,hI.facts hi,hI.gx,hI.boxes⟩).mono ?_
  rintro en W' ⟨rfl,hbl⟩
  show ∃ p' t',_
  rw [hd]
  refine ⟨p,_,rfl,(hI.kept hs hbl).step_val hs hi hl (fun p' j off xs h=>?_) (fun p' s' cs t' h=>?_) ?_ (fun p' ha=>?_)⟩
  ·obtain ⟨x',hx'⟩:=hs.at_u p' hsp; rw [h] at hx'; cases hx'
  ·obtain ⟨x',hx'⟩:=hs.at_u p' hsp; rw [h] at hx'; cases hx'
  ·intro s f h; rw [hsp] at h; cases h
  ·obtain ⟨x',hx'⟩:=hs.at_u p' hsp
   rw [puts_i hx']
   obtain ⟨fn',args',h0',hxx,-⟩:=hokp p' _ hx'
   obtain ⟨o',ho',-,-,hr'⟩:=hat p' ha h0'
   rw [ho] at ho'; cases ho'
   rw [hr] at hr'
   cases hr'
   rw [hx] at hxx
   subst hxx; rfl
 | c s f=>
  obtain ⟨fn,args,h0,hcall⟩:=hokp p _ hsp
  obtain ⟨o,ho,hd,hw,hr⟩:=hat p (Agr.refl l p) h0
  have hrun:=script_run P 0 _ _ _ _ W hr trivial
  refine wpOp_run ho hw hrun ?_
  have hnp:∀ p' j off xs,(S p')[i]?≠some (.p j off xs):=fun p' j off xs h=>by have:=hs.at_c p' hsp; rw [h] at this; cases this
  have hnn:∀ p' s' cs t',(S p')[i]?≠some (.n s' cs t'):=fun p' s' cs t' h=>by have:=hs.at_c p' hsp; rw [h] at this; cases this
  show Calls P fn args W _
  refine (hcall W ⟨hI.bs,hI.fr,hI.facts hi,hI.gx,hI.boxes⟩).mono ?_
  rintro en W' ⟨q,rfl,hbl,hfq⟩
  show ∃ p' t',_
  rw [hd]
  refine ⟨p.set i q,putD (s.map fun s=>(s,f.f q)) t,by cases s <;> rfl,?_⟩
  refine ⟨fun p' ha=>?_,fun p' ha j bx bo hb hal=>?_,gr_trans hI.fr hbl,Nat.le_trans hI.bs hbl.size,fun k s' cs' t' hk' hl'=>?_,fun k s' cs' t' k' s'' cs'' t'' h1 h2 h3 h4 h5=>?_,fun k s' f' hk' hl'=>?_,hs.sta.kept W _ hbl hI.gx⟩
  ·obtain ⟨ha',hq⟩:=ha.backS hl
   have:=(hI.det p' ha').step (hs.apart p') (hs.within p') hi hl
   rw [puts_i (hs.at_c p' hsp)] at this
   simp only [Spo.put,hq] at this
   exact this
  ·obtain ⟨ha',hq⟩:=ha.backS hl
   have hal':∀ k,bo = some k→l[k]? = some true:=fun k hk'=>by
    rcases (set_up hl).1 (hal k hk') with rfl|h
    ·rcases boxOf_cases hb with ⟨-,-,h⟩|⟨-,s',cs,t',h,-,h2⟩
     ·rw [h] at hk'; cases hk'
     ·rw [h2] at hk'; have hk':=Option.some.inj hk'; rw [hk'] at h; exact absurd h (hnn p' _ _ _)
    ·exact h
   have:=hI.mem p' ha' j bx bo hb hal'
   rw [hbl.block _ (block_lt this),this]
   congr 2
   refine cellsOf_agree _ _ _ (fun k off xs hk'=>?_)
   rw [isUp_set hl,Nat.zero_add]
   have hne:Nat.beq k i = false:=by
    cases hb9:Nat.beq k i with
    | false=>rfl
    | true=>obtain rfl:=Nat.eq_of_beq_eq_true hb9; exact absurd hk' (hnp p' _ _ _)
   simp only [hne,Bool.or_false]
  ·rcases (set_up hl).1 hl' with rfl|h
   ·exact absurd hk' (hnn _ _ _ _)
   ·have hne:k≠i:=by rintro rfl; rw [hl] at h; cases h
    simp only [Pqs.set,hne,if_false]
    exact hI.nb k s' cs' t' (hs.at_n p hk') h
  ·have g1:l[k]? = some true:=by
    rcases (set_up hl).1 h3 with rfl|h
    ·exact absurd h1 (hnn _ _ _ _)
    ·exact h
   have g2:l[k']? = some true:=by
    rcases (set_up hl).1 h4 with rfl|h
    ·exact absurd h2 (hnn _ _ _ _)
    ·exact h
   have hne:k≠i:=by rintro rfl; rw [hl] at g1; cases g1
   have hne':k'≠i:=by rintro rfl; rw [hl] at g2; cases g2
   simp only [Pqs.set,hne,hne',if_false]
   exact hI.ne k s' cs' t' k' s'' cs'' t'' (hs.at_n p h1) (hs.at_n p h2) g1 g2 h5
  ·rcases (set_up hl).1 hl' with rfl|h
   ·rw [hs.at_c (p.set k q) hsp] at hk'
    cases hk'
    simp only [Pqs.set,if_true]; exact hfq
   ·have hne:k≠i:=by rintro rfl; rw [hl] at h; cases h
    simp only [Pqs.set,hne,if_false]
    exact (f'.st _).kept W _ hbl (hI.fx k s' f' (hs.at_c p hk') h)
structure SymF (E:List Bx) (S:List Spo) (G:World→Prop) (w0:World) (base:Nat) (p:Pqs) (W:World):Prop where
 fr:Below w0.heap.size w0 W
 bs:base≤W.heap.size
 mem:∀ (j:Nat) (bx:Bx) (bo:Option Nat),boxOf E S p j = some (bx,bo)→W.heap[bx.b]? = some (.cells (cellsOf (fun _=>true) j 0 S bx.cs) bx.t (0,0))
 nb:∀ (k s:Nat) (cs:Array Value) (t:TypeId),S[k]? = some (.n s cs t)→base≤(p k).N
 ne:∀ (k s:Nat) (cs:Array Value) (t:TypeId) (k' s':Nat) (cs':Array Value) (t':TypeId),S[k]? = some (.n s cs t)→S[k']? = some (.n s' cs' t')→k≠k'→(p k).N≠(p k').N
 fx:∀ k,factOf S p k W
 gx:G W
structure SymB (ops:Array Oper) (n:Nat) (L:Ks) (E:List Bx) (S:Pqs→List Spo):Prop where
 shape:∀ p p',(S p).map Spo.bare = (S p').map Spo.bare
 apart:∀ p,Puts.apart (puts p 0 (S p)) = true
 len:∀ p,(S p).length = ops.size
 within:∀ p,Puts.within (puts p 0 (S p)) n = true
 back:backB ops = true
 reads:∀ p,readsOk ops L (puts p 0 (S p)) 0 ops.toList = true
 mem:∀ p,memOk ops E (S p) 0 (S p) = true
 eb:E.all (fun x=>!x.my || noLimb x.cs.toList && x.t != 64) = true
theorem any_sym {P:Program} {ops:Array Oper} {Q:Exit→Act→World→Prop} {T0:Array Value} {n:Nat} {L:Ks} {G:World→Prop} {w0:World} (S:Pqs→List Spo) {W:World} {E:List Bx} (hE:∀ x,x∈E→W.heap[x.b]? = some (.cells x.cs x.t (0,0))) (hfr:Below w0.heap.size w0 W) (hK:Kn T0 n L) (hB:SymB ops n L E S)
  (hlow:∀ x,x∈E→x.my = true→w0.heap.size≤x.b) (hne:∀ (j k:Nat) (x y:Bx),E[j]? = some x→E[k]? = some y→x.my = true→j≠k→x.b≠y.b)
  (hst:Sta G) (h0:G W)
  (hok:∀ p,Oks P ops L E (S p) G w0 W.heap.size p 0 (S p))
  (hfin:∀ p W',SymF E (S p) G w0 W.heap.size p W'→Q .normal ⟨Puts.lay (puts p 0 (S p)) T0,[]⟩ W') :
  wpAny P .any ops Q ops.size (Array.replicate ops.size false) ⟨T0,[]⟩ W:=by
 have hs:SymS ops T0 n L E S G w0 W.heap.size:=⟨hB.shape,hB.apart,hB.len,fun p=>by rw [hK.size]; exact hB.within p,hB.back,hB.reads,hK,hB.mem,hB.eb,hlow,hne,fun x hx=>block_lt (hE x hx),hfr.size,hst⟩
 refine wpAny_inv (fun l a w=>∃ p t,a = ⟨t,[]⟩∧SymI ops T0 E S G w0 W.heap.size p l t w) ?_ ?_ _ _ _ _ ?_ ⟨fun _=>pq0,T0,rfl,?_⟩
 ·rintro l a w i ⟨p,t,rfl,hI⟩ hi hl
  exact hI.step hs hok hi hl
 ·rintro l a w ⟨p,t,rfl,hI⟩ hr
  have hD:=hI.det p (Agr.refl l p)
  have hl:=all_up hD.len hB.back hr
  rw [hD.done (hB.apart p) (by rw [puts_len]; exact hB.len p) (by rw [hK.size]; exact hB.within p) hl]
  have hin:∀ k x,(S p)[k]? = some x→l[k]? = some true:=fun k x hk=>hl k (by
   rw [← hB.len p]; exact (List.getElem?_eq_some_iff.1 hk).1)
  refine hfin p w ⟨hI.fr,hI.bs,fun j bx bo hb=>?_,fun k s cs t hk=>hI.nb k s cs t hk (hin k _ hk),fun k s cs t k' s' cs' t' hk hk'=>hI.ne k s cs t k' s' cs' t' hk hk' (hin k _ hk) (hin k' _ hk'),fun k=>?_,hI.gx⟩
  ·rw [hI.mem p (Agr.refl l p) j bx bo hb (fun k hk=>?_)]
   ·congr 2
    refine cellsOf_agree _ _ _ (fun k off xs hk=>?_)
    rw [Nat.zero_add]; exact isUp_iff.2 (hin k _ hk)
   ·rcases boxOf_cases hb with ⟨-,-,h⟩|⟨-,s,cs,t,h,-,h2⟩
    ·rw [h] at hk; cases hk
    ·rw [h2] at hk; rw [← Option.some.inj hk]; exact hin _ _ h
  ·unfold factOf
   split
   ·rename_i s cf hk
    exact hI.fx k s cf hk (hin k _ hk)
   ·rename_i s' cs ty hk
    intro hnp
    have hb:boxOf E (S p) p (1000+k) = some (⟨(p k).N,cs,ty % 1000000,true⟩,some k):=by
     unfold boxOf
     rw [show Nat.blt (1000+k) 1000 = false from by cases h:Nat.blt (1000+k) 1000 with
      | false=>rfl
      | true=>rw [Nat.blt_eq] at h; omega]
     simp [hk]
    have h1:=hI.mem p (Agr.refl l p) (1000+k) _ (some k) hb (fun k' e=>by cases e; exact hin k _ hk)
    rw [cellsOf_none] at h1
    ·exact h1
    intro k' off xs hk'
    exact absurd hk' (noPut_no _ hnp _ _ _)
   ·trivial
 ·simp
 ·have hno:∀ k:Nat,(Array.replicate ops.size false)[k]?≠some true:=fun k h=>by
   rw [Array.getElem?_replicate] at h
   split at h <;> cases h
  have hup:isUp (Array.replicate ops.size false) = fun _=>false:=funext fun k=>isUp_no (hno k)
  refine ⟨fun p' _=>?_,fun p' _ j bx bo hb hal=>?_,hfr,Nat.le_refl _,fun k _ _ _ _ h=>absurd h (hno k),fun k _ _ _ _ _ _ _ _ _ h=>absurd h (hno k),fun k _ _ _ h=>absurd h (hno k),h0⟩
  ·constructor
   ·simp
   ·rfl
   ·intro k s v _ h; exact absurd h (hno k)
   ·intro s _; rfl
   ·intro k o h; exact absurd h (hno k)
  ·rcases boxOf_cases hb with ⟨-,hj,-⟩|⟨-,s,cs,t,-,-,h2⟩
   ·rw [hup,cellsOf_none _ _ _ (fun _ _ _ _=>rfl)]
    exact hE bx (List.mem_of_getElem? hj)
   ·exact absurd (hal _ h2) (hno _)
theorem ops_of_any {P:Program} {ops:Array Oper} {Q:Exit→Act→World→Prop} (hb:backB ops = true):∀ (k i:Nat),i+k = ops.size→∀ (l:Array Bool) (a:Act) (w:World),l.size = ops.size→(∀ j,j < ops.size→l[j]? = some (decide (j < i)))→wpAny P .any ops Q k l a w→wpOps P ops Q (List.range' i k) a w
 | 0,_,_,_,_,_,_,_,h=>by simpa [wpOps] using h.2
 | k+1,i,hn,l,a,w,hl,hd,h=>by
  rw [List.range'_succ,wpOps_cons]
  have hi:i < ops.size:=by omega
  obtain ⟨o,ho⟩:∃ o,ops[i]? = some o:=⟨ops[i],by simp [hi]⟩
  have hb':=List.all_eq_true.1 hb i (List.mem_range.2 hi)
  rw [ho] at hb'
  have hr:i∈Region.ready .any ops l:=mem_ready.2 ⟨by rw [Array.getD_eq_getD_getElem?,hd i hi]; simp,o,ho,fun e he hbe=>by
   have h1:=Array.all_eq_true'.1 hb' e he
   simp [hbe] at h1
   rw [Array.getD_eq_getD_getElem?,hd e.on (by omega)]; simp [h1]⟩
  refine wpOp_mono (fun a' w' h'=>ops_of_any hb k (i+1) (by omega) _ a' w' (by simpa using hl) (fun j hj=>?_) h') (h.2 i hr)
  by_cases hji:j = i
  ·subst hji
   rw [Array.getElem?_setIfInBounds_self_of_lt (by omega)]; simp
  ·rw [Array.getElem?_setIfInBounds_ne (Ne.symm hji),hd j hj]
   congr 1
   simp only [decide_eq_decide]; omega
theorem wp_sym {P:Program} {ops:Array Oper} {Q:Exit→Act→World→Prop} {T0:Array Value} {n:Nat} {L:Ks} {G:World→Prop} {w0:World} (S:Pqs→List Spo) {id:Nat} {d:Bool} {W:World} {E:List Bx} (hE:∀ x,x∈E→W.heap[x.b]? = some (.cells x.cs x.t (0,0))) (hfr:Below w0.heap.size w0 W) (hm:P.follows .mixedOrders = true) (hK:Kn T0 n L) (hB:SymB ops n L E S)
  (hlow:∀ x,x∈E→x.my = true→w0.heap.size≤x.b) (hne:∀ (j k:Nat) (x y:Bx),E[j]? = some x→E[k]? = some y→x.my = true→j≠k→x.b≠y.b)
  (hst:Sta G) (h0:G W)
  (hok:∀ p,Oks P ops L E (S p) G w0 W.heap.size p 0 (S p))
  (hfin:∀ p W',SymF E (S p) G w0 W.heap.size p W'→Q .normal ⟨Puts.lay (puts p 0 (S p)) T0,[]⟩ W') :
  (Code.region id ops d).wp P Q ⟨T0,[]⟩ W:=by
 cases d with
 | true=>exact wp_region_any hm (any_sym S (W:=W.drew) hE hfr.drew hK hB hlow hne hst (hst.kept W _ (Below.refl _ _).drew h0) hok hfin)
 | false=>
  refine wp_region ?_
  have:=ops_of_any hB.back ops.size 0 (by omega) _ _ _ (by simp) (fun j hj=>by rw [Array.getElem?_replicate]; simp [hj]) (any_sym S hE hfr hK hB hlow hne hst h0 hok hfin)
  rwa [← List.range_eq_range'] at this
theorem ok_nil {P:Program} {ops:Array Oper} {L:Ks} {E:List Bx} {S:List Spo} {G:World→Prop} {w0:World} {base:Nat} {p:Pqs} {i:Nat}:Oks P ops L E S G w0 base p i []:=trivial
theorem ok_v {P:Program} {ops:Array Oper} {L:Ks} {E:List Bx} {S:List Spo} {G:World→Prop} {w0:World} {base:Nat} {p:Pqs} {i:Nat} {r:List Spo} {s:Nat} {x:Value} (h:opRun P ops L (puts p 0 S) i 0 [] = some (some s,true,some (.value x,[]))) (t:Oks P ops L E S G w0 base p (i+1) r):Oks P ops L E S G w0 base p i (.v s x :: r):=⟨h,t⟩
theorem ok_vi {P:Program} {ops:Array Oper} {L:Ks} {E:List Bx} {S:List Spo} {G:World→Prop} {w0:World} {base:Nat} {p:Pqs} {i:Nat} {r:List Spo} {s:Nat} {k:IntKind} {x y:Int} (e:x = y) (h:opRun P ops L (puts p 0 S) i 0 [] = some (some s,true,some (.value (.int k x),[]))) (t:Oks P ops L E S G w0 base p (i+1) r):Oks P ops L E S G w0 base p i (.v s (.int k y) :: r):=⟨e▸h,t⟩
theorem ok_vb {P:Program} {ops:Array Oper} {L:Ks} {E:List Bx} {S:List Spo} {G:World→Prop} {w0:World} {base:Nat} {p:Pqs} {i:Nat} {r:List Spo} {s:Nat} {x y:Bool} (e:x = y) (h:opRun P ops L (puts p 0 S) i 0 [] = some (some s,true,some (.value (.bool x),[]))) (t:Oks P ops L E S G w0 base p (i+1) r):Oks P ops L E S G w0 base p i (.v s (.bool y) :: r):=⟨e▸h,t⟩
theorem ok_l {P:Program} {ops:Array Oper} {L:Ks} {E:List Bx} {S:List Spo} {G:World→Prop} {w0:World} {base:Nat} {p:Pqs} {i:Nat} {r:List Spo} {s j off:Nat} {x:Value} (bx:Bx) (bo:Option Nat) (hb:boxOf E S p j = some (bx,bo)) (h:opRun P ops L (puts p 0 S) i 0 x.cells.toList = some (some s,true,some (.value x,lds bx.b off x.cells.toList))) (hc:((cellsOf (fun k=>Nat.blt k i) j 0 S bx.cs).toList.drop off).take x.cells.size = x.cells.toList) (t:Oks P ops L E S G w0 base p (i+1) r):Oks P ops L E S G w0 base p i (.l s x j off :: r):=⟨⟨bx,bo,hb,h,hc⟩,t⟩
theorem ok_p {P:Program} {ops:Array Oper} {L:Ks} {E:List Bx} {S:List Spo} {G:World→Prop} {w0:World} {base:Nat} {p:Pqs} {i:Nat} {r:List Spo} {j off:Nat} {xs:List Value} (bx:Bx) (bo:Option Nat) (hb:boxOf E S p j = some (bx,bo)) (h:opRun P ops L (puts p 0 S) i 0 [] = some (none,true,some (.skip,sts bx.b off xs))) (hc:Nat.ble (off+xs.length) bx.cs.size = true) (t:Oks P ops L E S G w0 base p (i+1) r):Oks P ops L E S G w0 base p i (.p j off xs :: r):=⟨⟨bx,bo,hb,h,hc⟩,t⟩
theorem ok_n {P:Program} {ops:Array Oper} {L:Ks} {E:List Bx} {S:List Spo} {G:World→Prop} {w0:World} {base:Nat} {p:Pqs} {i:Nat} {r:List Spo} {s:Nat} {cs:Array Value} {ty:TypeId} (h:∀ q,opRun P ops L (puts p 0 S) i q [] = some (some s,true,some (.value (nv q ty),[.nw (.cells cs (ty % 1000000))]))) (t:Oks P ops L E S G w0 base p (i+1) r):Oks P ops L E S G w0 base p i (.n s cs ty :: r):=⟨h,t⟩
theorem ok_k {P:Program} {ops:Array Oper} {L:Ks} {E:List Bx} {S:List Spo} {G:World→Prop} {w0:World} {base:Nat} {p:Pqs} {i:Nat} {r:List Spo} {s:Option Nat} (x:Option (Next×List Ev)) (h:opRun P ops L (puts p 0 S) i 0 [] = some (s,false,x)) (t:Oks P ops L E S G w0 base p (i+1) r):Oks P ops L E S G w0 base p i (.k s :: r):=⟨⟨x,h⟩,t⟩
theorem ok_u {P:Program} {ops:Array Oper} {L:Ks} {E:List Bx} {S:List Spo} {G:World→Prop} {w0:World} {base:Nat} {p:Pqs} {i:Nat} {r:List Spo} {s:Nat} {x:Value} {g:Array Value→Value} {fn:FuncId} {args:Array Value} (hc:∀ W,Cx ops E S G w0 base p i W→Calls P fn args W fun en W'=>en = .returned x∧Below W.heap.size W W') (h:opRun P ops L (puts p 0 S) i 0 [] = some (some s,true,some (.enter fn args,[]))) (hx:g args = x) (t:Oks P ops L E S G w0 base p (i+1) r):Oks P ops L E S G w0 base p i (.u s x g :: r):=⟨⟨fn,args,h,hx,hc⟩,t⟩
theorem ok_g {P:Program} {ops:Array Oper} {L:Ks} {E:List Bx} {S:List Spo} {G:World→Prop} {w0:World} {base:Nat} {p:Pqs} {i:Nat} {r:List Spo} {s:Nat} {x:Value} {vs:List Value} {es:List Ev} (hc:∀ W,Cx ops E S G w0 base p i W→EvsOk 0 es W∧evs es W = W) (h:opRun P ops L (puts p 0 S) i 0 vs = some (some s,true,some (.value x,es))) (t:Oks P ops L E S G w0 base p (i+1) r):Oks P ops L E S G w0 base p i (.g s x vs es :: r):=⟨⟨h,hc⟩,t⟩
theorem ok_c {P:Program} {ops:Array Oper} {L:Ks} {E:List Bx} {S:List Spo} {G:World→Prop} {w0:World} {base:Nat} {p:Pqs} {i:Nat} {r:List Spo} {s:Option Nat} {f:Cf} {fn:FuncId} {args:Array Value} (hc:∀ W,Cx ops E S G w0 base p i W→Calls P fn args W fun en W'=>∃ q,en = .returned (f.f q)∧Below W.heap.size W W'∧f.g q W') (h:opRun P ops L (puts p 0 S) i 0 [] = some (s,true,some (.enter fn args,[]))) (t:Oks P ops L E S G w0 base p (i+1) r):Oks P ops L E S G w0 base p i (.c s f :: r):=⟨⟨fn,args,h,hc⟩,t⟩
theorem sta_true:Sta (fun _=>True):=⟨fun _ _ _ h=>h,fun _ _ _ _ _ _ _ _ _ h=>h⟩
theorem sta_and {f g:World→Prop} (hf:Sta f) (hg:Sta g):Sta (fun W=>f W∧g W):=⟨fun W W' hb h=>⟨hf.kept W W' hb h.1,hg.kept W W' hb h.2⟩,fun W b cs t j u h1 h2 h3 h=>⟨hf.put W b cs t j u h1 h2 h3 h.1,hg.put W b cs t j u h1 h2 h3 h.2⟩⟩
def cV (v:Value):Cf:=⟨fun _=>v,fun _ _=>True,fun _=>sta_true⟩
def cO (B m:Nat):Cf:=⟨fun q=>.tuple #[.agg #[.slice q.A q.N q.C],.int .i64 0],fun q W=>Mine W B q.A q.N q.C m,fun _=>sta_mine _ _ _ _ _⟩
def cN (B m:Nat):Cf:=⟨fun q=>.agg #[.slice q.A q.N q.C],fun q W=>Mine W B q.A q.N q.C m,fun _=>sta_mine _ _ _ _ _⟩
def cD (B m m':Nat):Cf:=⟨fun q=>.tuple #[.agg #[.slice q.A q.N q.C],.agg #[.slice q.A' q.N' q.C'],.int .i64 0],fun q W=>Mine W B q.A q.N q.C m∧Mine W B q.A' q.N' q.C' m',fun _=>sta_and (sta_mine _ _ _ _ _) (sta_mine _ _ _ _ _)⟩
theorem as_v {P:Program} {fn:FuncId} {args:Array Value} {W:World} {v:Value} (h:Calls P fn args W fun en W'=>en = .returned v∧Below W.heap.size W W'):Calls P fn args W fun en W'=>∃ q,en = .returned ((cV v).f q)∧Below W.heap.size W W'∧(cV v).g q W':=
 h.mono fun _ _ ⟨h1,h2⟩=>⟨pq0,h1,h2,trivial⟩
theorem as_o {P:Program} {fn:FuncId} {args:Array Value} {W:World} {B:Nat} {m:Nat} (hb:B≤W.heap.size) (h:Calls P fn args W fun en W'=>(∃ a n c,en = .returned (.tuple #[.agg #[.slice a n c],.int .i64 0])∧Mine W' W.heap.size a n c m)∧Below W.heap.size W W'):Calls P fn args W fun en W'=>∃ q,en = .returned ((cO B m).f q)∧Below W.heap.size W W'∧(cO B m).g q W':=
 h.mono fun _ _ ⟨⟨a,n,c,h1,h3⟩,h2⟩=>⟨{ pq0 with A:=a,N:=n,C:=c },h1,h2,h3.mono hb⟩
theorem as_n {P:Program} {fn:FuncId} {args:Array Value} {W:World} {B:Nat} {m:Nat} (hb:B≤W.heap.size) (h:Calls P fn args W fun en W'=>(∃ a n c,en = .returned (.agg #[.slice a n c])∧Mine W' W.heap.size a n c m)∧Below W.heap.size W W'):Calls P fn args W fun en W'=>∃ q,en = .returned ((cN B m).f q)∧Below W.heap.size W W'∧(cN B m).g q W':=
 h.mono fun _ _ ⟨⟨a,n,c,h1,h3⟩,h2⟩=>⟨{ pq0 with A:=a,N:=n,C:=c },h1,h2,h3.mono hb⟩
theorem as_d {P:Program} {fn:FuncId} {args:Array Value} {W:World} {B:Nat} {m:Nat} {m':Nat} (hb:B≤W.heap.size) (h:Calls P fn args W fun en W'=>(∃ a n c a' n' c',en = .returned (.tuple #[.agg #[.slice a n c],.agg #[.slice a' n' c'],.int .i64 0])∧Mine W' W.heap.size a n c m∧Mine W' W.heap.size a' n' c' m')∧Below W.heap.size W W'):Calls P fn args W fun en W'=>∃ q,en = .returned ((cD B m m').f q)∧Below W.heap.size W W'∧(cD B m m').g q W':=
 h.mono fun _ _ ⟨⟨a,n,c,a',n',c',h1,h3,h4⟩,h2⟩=>⟨{ pq0 with A:=a,N:=n,C:=c,A':=a',N':=n',C':=c' },h1,h2,h3.mono hb,h4.mono hb⟩
def cG (B m:Nat) (f:Value→Value):Cf:=⟨fun q=>f (.slice q.A q.N q.C),fun q W=>Mine W B q.A q.N q.C m,fun _=>sta_mine _ _ _ _ _⟩
def cH (B m m':Nat) (f:Value→Value→Value):Cf:=⟨fun q=>f (.slice q.A q.N q.C) (.slice q.A' q.N' q.C'),fun q W=>Mine W B q.A q.N q.C m∧Mine W B q.A' q.N' q.C' m',fun _=>sta_and (sta_mine _ _ _ _ _) (sta_mine _ _ _ _ _)⟩
theorem as_g {P:Program} {fn:FuncId} {args:Array Value} {W:World} {B m:Nat} {f:Value→Value} (hb:B≤W.heap.size) (h:Calls P fn args W fun en W'=>(∃ a n c,en = .returned (f (.slice a n c))∧Mine W' W.heap.size a n c m)∧Below W.heap.size W W'):Calls P fn args W fun en W'=>∃ q,en = .returned ((cG B m f).f q)∧Below W.heap.size W W'∧(cG B m f).g q W':=
 h.mono fun _ _ ⟨⟨a,n,c,h1,h3⟩,h2⟩=>⟨{ pq0 with A:=a,N:=n,C:=c },h1,h2,h3.mono hb⟩
theorem as_h {P:Program} {fn:FuncId} {args:Array Value} {W:World} {B m m':Nat} {f:Value→Value→Value} (hb:B≤W.heap.size) (h:Calls P fn args W fun en W'=>(∃ a n c a' n' c',en = .returned (f (.slice a n c) (.slice a' n' c'))∧Mine W' W.heap.size a n c m∧Mine W' W.heap.size a' n' c' m')∧Below W.heap.size W W'):Calls P fn args W fun en W'=>∃ q,en = .returned ((cH B m m' f).f q)∧Below W.heap.size W W'∧(cH B m m' f).g q W':=
 h.mono fun _ _ ⟨⟨a,n,c,a',n',c',h1,h3,h4⟩,h2⟩=>⟨{ pq0 with A:=a,N:=n,C:=c,A':=a',N':=n',C':=c' },h1,h2,h3.mono hb,h4.mono hb⟩
structure Gf where
 f:World→Prop
 st:Sta f
def GsAt:List Gf→World→Prop
 | [],_=>True
 | g :: r,W=>g.f W∧GsAt r W
theorem gs_sta:∀ (gs:List Gf),Sta (GsAt gs)
 | []=>sta_true
 | g :: r=>sta_and g.st (gs_sta r)
def gN (a:Option Addr) (n m:Nat):Gf:=⟨fun W=>Num W a n m,sta_num a n m⟩
def gM (B:Nat) (a:Option Addr) (n c m:Nat):Gf:=⟨fun W=>Mine W B a n c m,sta_mine B a n c m⟩
def NeX (x:Bx):List Bx→Prop
 | []=>True
 | y :: r=>((x.my || y.my) = true→x.b≠y.b)∧NeX x r
def NeL:List Bx→Prop
 | []=>True
 | x :: r=>NeX x r∧NeL r
def LowL (w0:World):List Bx→Prop
 | []=>True
 | x :: r=>(x.my = true→w0.heap.size≤x.b)∧LowL w0 r
theorem LowL.of {w0:World}:∀ {E:List Bx},LowL w0 E→∀ x,x∈E→x.my = true→w0.heap.size≤x.b
 | [],_,_,h,_=>by simp at h
 | y :: r,h,x,hx,hm=>by
  rcases List.mem_cons.1 hx with rfl|hx
  ·exact h.1 hm
  ·exact LowL.of h.2 x hx hm
theorem NeX.of {x:Bx}:∀ {E:List Bx},NeX x E→∀ y,y∈E→(x.my = true∨y.my = true)→x.b≠y.b
 | [],_,_,h,_=>by simp at h
 | z :: r,h,y,hy,hm=>by
  rcases List.mem_cons.1 hy with rfl|hy
  ·exact h.1 (by simpa using hm)
  ·exact NeX.of h.2 y hy hm
theorem NeL.of:∀ {E:List Bx},NeL E→∀ (j k:Nat) (x y:Bx),E[j]? = some x→E[k]? = some y→x.my = true→j≠k→x.b≠y.b
 | [],_,_,_,_,_,h,_,_,_=>by simp at h
 | z :: r,h,0,0,x,y,hx,hy,hm,hne=>absurd rfl hne
 | z :: r,h,0,k+1,x,y,hx,hy,hm,hne=>by
  simp only [List.getElem?_cons_zero,Option.some.injEq] at hx
  subst hx
  exact h.1.of y (List.mem_of_getElem? (by simpa using hy)) (Or.inl hm)
 | z :: r,h,j+1,0,x,y,hx,hy,hm,hne=>by
  simp only [List.getElem?_cons_zero,Option.some.injEq] at hy
  subst hy
  exact Ne.symm (h.1.of x (List.mem_of_getElem? (by simpa using hx)) (Or.inr hm))
 | z :: r,h,j+1,k+1,x,y,hx,hy,hm,hne=>NeL.of h.2 j k x y (by simpa using hx) (by simpa using hy) hm (by omega)
structure Fb (w0 W:World) (E:List Bx):Prop where
 bx:∀ x,x∈E→W.heap[x.b]? = some (.cells x.cs x.t (0,0))
 fr:Below w0.heap.size w0 W
 low:LowL w0 E
 ne:NeL E
theorem Fb.begin (w:World):Fb w w []:=⟨(fun _ h=>nomatch h),Below.refl _ _,trivial,trivial⟩
theorem Fb.other {w:World} {b:Nat} {cs:Array Value} {t:TypeId} (h:w.heap[b]? = some (.cells cs t (0,0))):Fb w w [⟨b,cs,t,false⟩]:=⟨fun x hx=>by rw [List.mem_singleton.1 hx]; exact h,Below.refl _ _,⟨(fun h=>absurd h (by simp)),trivial⟩,⟨trivial,trivial⟩⟩
theorem Fb.kept {w0 W W':World} {E:List Bx} (h:Fb w0 W E) (hb:Below W.heap.size W W'):Fb w0 W' E:=⟨fun x hx=>by rw [hb.block _ (block_lt (h.bx x hx))]; exact h.bx x hx,gr_trans h.fr hb,h.low,h.ne⟩
theorem NeL.sym {E:List Bx} (h:NeL E) (j k:Nat) (x y:Bx) (hx:E[j]? = some x) (hy:E[k]? = some y) (hm:x.my = true∨y.my = true) (hne:j≠k):x.b≠y.b:=by
 rcases hm with hm|hm
 ·exact h.of j k x y hx hy hm hne
 ·exact Ne.symm (h.of k j y x hy hx hm (Ne.symm hne))
def finBx (E:List Bx) (S:List Spo) (p:Pqs):List Nat→List Bx
 | []=>[]
 | j :: r=>match boxOf E S p j with
  | some (bx,_)=>⟨bx.b,cellsOf (fun _=>true) j 0 S bx.cs,bx.t,bx.my⟩ :: finBx E S p r
  | none=>finBx E S p r
def nodupB:List Nat→Bool
 | []=>true
 | j :: r=>r.all (· != j) && nodupB r
theorem finBx_mem {E:List Bx} {S:List Spo} {p:Pqs}:∀ {js:List Nat} {x:Bx},x∈finBx E S p js→∃ j bx bo,j∈js∧boxOf E S p j = some (bx,bo)∧x = ⟨bx.b,cellsOf (fun _=>true) j 0 S bx.cs,bx.t,bx.my⟩
 | [],_,h=>by simp [finBx] at h
 | j :: r,x,h=>by
  unfold finBx at h
  split at h
  ·rename_i bx bo hb
   rcases List.mem_cons.1 h with rfl|h
   ·exact ⟨j,bx,bo,List.mem_cons_self ..,hb,rfl⟩
   ·obtain ⟨j',bx',bo',h1,h2⟩:=finBx_mem h
    exact ⟨j',bx',bo',List.mem_cons_of_mem _ h1,h2⟩
  ·obtain ⟨j',bx',bo',h1,h2⟩:=finBx_mem h
   exact ⟨j',bx',bo',List.mem_cons_of_mem _ h1,h2⟩
theorem SymF.fb {E:List Bx} {S:List Spo} {G:World→Prop} {w0 W0:World} {p:Pqs} {W:World} (hS:Fb w0 W0 E) (h:SymF E S G w0 W0.heap.size p W) (js:List Nat) (E1:List Bx) (e:finBx E S p js = E1) (nd:nodupB js = true):Fb w0 W E1:=by
 subst e
 have hap:∀ j bx bo j' bx' bo',boxOf E S p j = some (bx,bo)→boxOf E S p j' = some (bx',bo')→j≠j'→(bx.my = true∨bx'.my = true)→bx.b≠bx'.b:=fun j bx bo j' bx' bo' hb hb' hne hm=>by
  rcases boxOf_cases hb with ⟨q1,q2,q3⟩|⟨q1,s1,cs1,t1,q2,q3,q4⟩
  ·rcases boxOf_cases hb' with ⟨r1,r2,r3⟩|⟨r1,s2,cs2,t2,r2,r3,r4⟩
   ·exact hS.ne.sym j j' bx bx' q2 r2 hm hne
   ·have h1:=block_lt (hS.bx bx (List.mem_of_getElem? q2))
    have h2:=h.nb _ _ _ _ r2
    rw [r3]; show bx.b≠(p (j' - 1000)).N; omega
  ·rcases boxOf_cases hb' with ⟨r1,r2,r3⟩|⟨r1,s2,cs2,t2,r2,r3,r4⟩
   ·have h1:=block_lt (hS.bx bx' (List.mem_of_getElem? r2))
    have h2:=h.nb _ _ _ _ q2
    rw [q3]; show (p (j - 1000)).N≠bx'.b; omega
   ·rw [q3,r3]
    refine h.ne _ _ _ _ _ _ _ _ q2 r2 (fun e=>hne ?_)
    have a1:¬ j < 1000:=fun hc=>by rw [show Nat.blt j 1000 = true from by rw [Nat.blt_eq]; exact hc] at q1; cases q1
    have a2:¬ j' < 1000:=fun hc=>by rw [show Nat.blt j' 1000 = true from by rw [Nat.blt_eq]; exact hc] at r1; cases r1
    omega
 refine ⟨fun x hx=>?_,h.fr,?_,?_⟩
 ·obtain ⟨j,bx,bo,-,hb,rfl⟩:=finBx_mem hx
  exact h.mem j bx bo hb
 ·clear nd
  induction js with
  | nil=>trivial
  | cons j r ih=>
   unfold finBx
   split
   ·rename_i bx bo hb
    refine ⟨fun hm=>?_,ih⟩
    show w0.heap.size≤bx.b
    rcases boxOf_cases hb with ⟨q1,q2,q3⟩|⟨q1,s1,cs1,t1,q2,q3,q4⟩
    ·exact hS.low.of bx (List.mem_of_getElem? q2) hm
    ·rw [q3]; exact Nat.le_trans hS.fr.size (h.nb _ _ _ _ q2)
   ·exact ih
 ·induction js with
  | nil=>trivial
  | cons j r ih=>
   simp only [nodupB,Bool.and_eq_true] at nd
   unfold finBx
   split
   ·rename_i bx bo hb
    refine ⟨?_,ih nd.2⟩
    have hall:∀ y,y∈finBx E S p r→(bx.my = true∨y.my = true)→bx.b≠y.b:=fun y hy hm=>by
     obtain ⟨j',bx',bo',hj',hb',rfl⟩:=finBx_mem hy
     refine hap j bx bo j' bx' bo' hb hb' ?_ hm
     have:=List.all_eq_true.1 nd.1 j' hj'
     simp only [bne_iff_ne] at this
     exact Ne.symm this
    revert hall
    generalize finBx E S p r = l
    intro hall
    induction l with
    | nil=>trivial
    | cons y l ih2=>exact ⟨fun hm=>hall y (List.mem_cons_self ..) (by simpa using hm),ih2 fun z hz=>hall z (List.mem_cons_of_mem _ hz)⟩
   ·exact ih nd.2
def symB (ops:Array Oper) (n:Nat) (L:Ks) (E:List Bx) (S:List Spo) (p:Pqs) (L1:Ks):Bool:=
 Puts.apart (puts p 0 S) && Nat.beq S.length ops.size && Puts.within (puts p 0 S) n && backB ops && readsOk ops L (puts p 0 S) 0 ops.toList && memOk ops E S 0 S && E.all (fun x=>!x.my || noLimb x.cs.toList && x.t != 64) && L1.all (fun x=>earlyB x.1 S.length (puts p 0 S) || inK L x.1)
theorem kn_out {T0:Array Value} {n:Nat} {L:Ks} {ds:Puts} (hK:Kn T0 n L) (ha:Puts.apart ds = true) (hw:Puts.within ds n = true) (L1:Ks) (hin:L1.all (fun x=>earlyB x.1 ds.length ds || inK L x.1) = true) (he:L1.map (fun x=>slotAt L x.1 ds.length ds) = L1.map (·.2)):Kn (Puts.lay ds T0) n L1:=by
 refine ⟨by rw [Puts.lay_size]; exact hK.size,fun x hx=>?_⟩
 have h1:=List.all_eq_true.1 hin x hx
 have h2:slotAt L x.1 ds.length ds = x.2:=by
  obtain ⟨k,hk,he2⟩:=List.getElem_of_mem hx
  have:=congrArg (fun l=>l[k]?) he
  simp only [List.getElem?_map,List.getElem?_eq_getElem hk,he2,Option.map_some,Option.some.injEq] at this
  exact this
 rw [← h2]
 by_cases hw9:∃ (k:Nat) (v:Value),ds[k]? = some (some (x.1,v))
 ·obtain ⟨k,v,hk⟩:=hw9
  have hlt:k < ds.length:=(List.getElem?_eq_some_iff.1 hk).1
  rw [slotAt_on ds _ k v ha hk hlt]
  exact Puts.lay_at ds ha T0 k x.1 v hk (by rw [hK.size]; simpa using List.all_eq_true.1 hw _ (List.mem_of_getElem? hk))
 ·rw [slotAt_off ds _ (fun k v hk=>absurd ⟨k,v,hk⟩ hw9)]
  have hf:Puts.free ds x.1 = true:=by
   unfold Puts.free
   rw [List.all_eq_true]
   intro d hd
   obtain ⟨k,hk⟩:=List.getElem?_of_mem hd
   cases d with
   | none=>rfl
   | some d=>
    obtain ⟨s,v⟩:=d
    simp only [bne_iff_ne]
    rintro rfl
    exact hw9 ⟨k,v,hk⟩
  rw [Puts.lay_free ds x.1 hf]
  refine hK.look ?_
  simp only [Bool.or_eq_true] at h1
  rcases h1 with h|h
  ·obtain ⟨k,v,-,hk⟩:=early_of h
   exact absurd ⟨k,v,hk⟩ hw9
  ·exact h
theorem wp_symG {P:Program} {ops:Array Oper} {Q:Exit→Act→World→Prop} {T0:Array Value} {n:Nat} {L:Ks} {w0:World} {gs:List Gf} {id:Nat} {d:Bool} {W:World} {E:List Bx} (hS:Fb w0 W E) (hG:GsAt gs W) (hK:Kn T0 n L) (S:Pqs→List Spo) (L1:Pqs→Ks) (hm:P.follows .mixedOrders = true) (hsh:∀ p p',(S p).map Spo.bare = (S p').map Spo.bare) (hB:∀ p,symB ops n L E (S p) p (L1 p) = true) (hL:∀ p,(L1 p).map (fun x=>slotAt L x.1 (S p).length (puts p 0 (S p))) = (L1 p).map (·.2))
  (hok:∀ p,Oks P ops L E (S p) (GsAt gs) w0 W.heap.size p 0 (S p))
  (hfin:∀ p W' T1,SymF E (S p) (GsAt gs) w0 W.heap.size p W'→Kn T1 n (L1 p)→Q .normal ⟨T1,[]⟩ W') :
  (Code.region id ops d).wp P Q ⟨T0,[]⟩ W:=by
 have hB':∀ p,_:=fun p=>by
  have:=hB p
  simp only [symB,Bool.and_eq_true] at this
  exact this
 refine wp_sym S hS.bx hS.fr hm hK ⟨hsh,fun p=>(hB' p).1.1.1.1.1.1.1,fun p=>Nat.eq_of_beq_eq_true (hB' p).1.1.1.1.1.1.2,fun p=>(hB' p).1.1.1.1.1.2,(hB' fun _=>pq0).1.1.1.1.2,fun p=>(hB' p).1.1.1.2,fun p=>(hB' p).1.1.2,(hB' fun _=>pq0).1.2⟩ hS.low.of hS.ne.of (gs_sta gs) hG hok (fun p W' hF=>hfin p W' _ hF ?_)
 exact kn_out hK (hB' p).1.1.1.1.1.1.1 (hB' p).1.1.1.1.1.2 _ (by rw [puts_len]; exact (hB' p).2) (by rw [puts_len]; exact hL p)
def argK:Nat→List Value→Ks
 | _,[]=>[]
 | i,v :: r=>(i,v) :: argK (i+1) r
theorem argK_at:∀ (vs:List Value) (i:Nat) (x:Nat×Value),x∈argK i vs→∃ k,x.1 = i+k∧vs[k]? = some x.2
 | [],_,_,h=>by simp [argK] at h
 | v :: r,i,x,h=>by
  rcases List.mem_cons.1 h with rfl|h
  ·exact ⟨0,rfl,rfl⟩
  ·obtain ⟨k,h1,h2⟩:=argK_at r (i+1) x h
   exact ⟨k+1,by omega,by simpa using h2⟩
theorem calls_sym {P:Program} {f:FuncId} {fn:Func} {c:Code} {args:Array Value} {w:World} {R:Ending→World→Prop} (hf:P.funcs[f]? = some fn) (hb:fn.body = some c) (hn:Nat.ble args.size fn.ntmps = true)
  (h:∀ T,Kn T fn.ntmps (argK 0 args.toList)→c.wp P (bodyPost P fn R) ⟨T,[]⟩ w):Calls P f args w R:=by
 refine calls_of_wp hf hb (h _ ⟨?_,fun x hx=>?_⟩)
 ·have:=Nat.le_of_ble_eq_true hn
  simp; omega
 ·obtain ⟨k,h1,h2⟩:=argK_at _ _ x hx
  rw [Nat.zero_add] at h1
  rw [h1]
  have h3:args[k]? = some x.2:=by simpa using h2
  obtain ⟨hlt,-⟩:=Array.getElem?_eq_some_iff.1 h3
  rw [Array.getElem?_append_left hlt]; exact h3
theorem Kn.ev {T:Array Value} {n:Nat} {L:Ks} (h:Kn T n L) (s:Nat) (hi:inK L s = true) (v:Value) (hv:lookK L s = v):Act.eval ⟨T,[]⟩ (.tmp s) = v:=by
 show T.getD s undef = v
 rw [Array.getD_eq_getD_getElem?,h.look hi,hv]; rfl
def resK (fn:Func) (L:Ks):Sem Value:=do
 let vs ← fn.results.mapM fun
  | .tmp t=>pure (lookK L t)
  | .cell a t=>do loadVar t (← asAddr (lookK L a))
 pure (if h:vs.size = 1 then vs[0] else .tuple vs)
def resSlot:ResultVar→Nat
 | .tmp t=>t
 | .cell a _=>a
def rdEv (bs:List Bx):List (Nat×Nat×Nat)→List Ev
 | []=>[]
 | (j,off,k) :: r=>(match bs[j]? with
  | some x=>lds x.b off ((x.cs.toList.drop off).take k)
  | none=>[]) ++ rdEv bs r
theorem evs_app:∀ (es fs:List Ev) (W:World),EvsOk 0 es W→evs es W = W→EvsOk 0 fs W→evs fs W = W→EvsOk 0 (es ++ fs) W∧evs (es ++ fs) W = W:=by
 intro es fs W h1 h2 h3 h4
 have h5:∀ (es:List Ev) (V:World),EvsOk 0 es V→(EvsOk 0 (es ++ fs) V↔EvsOk 0 fs (evs es V))∧evs (es ++ fs) V = evs fs (evs es V):=by
  intro es
  induction es with
  | nil=>intro V _; exact ⟨Iff.rfl,rfl⟩
  | cons e r ih=>
   intro V h
   cases e with
   | ld a v=>obtain ⟨g1,g2⟩:=ih V h.2; exact ⟨⟨fun q=>g1.1 q.2,fun q=>⟨h.1,g1.2 q⟩⟩,g2⟩
   | st a v=>obtain ⟨g1,g2⟩:=ih _ h.2.2.2; exact ⟨⟨fun q=>g1.1 q.2.2.2,fun q=>⟨h.1,h.2.1,h.2.2.1,g1.2 q⟩⟩,g2⟩
   | nw o=>obtain ⟨g1,g2⟩:=ih _ h.2; exact ⟨⟨fun q=>g1.1 q.2,fun q=>⟨h.1,g1.2 q⟩⟩,g2⟩
 obtain ⟨g1,g2⟩:=h5 es W h1
 rw [h2] at g1 g2
 exact ⟨g1.2 h3,by rw [g2]; exact h4⟩
theorem rd_ok {w0 W:World} {bs:List Bx} (hS:Fb w0 W bs):∀ (js:List (Nat×Nat×Nat)),EvsOk 0 (rdEv bs js) W∧evs (rdEv bs js) W = W
 | []=>⟨trivial,rfl⟩
 | (j,off,k) :: r=>by
  obtain ⟨h1,h2⟩:=rd_ok hS r
  unfold rdEv
  cases hj:bs[j]? with
  | none=>exact ⟨h1,h2⟩
  | some x=>
   obtain ⟨g1,g2⟩:=lds_ok (hS.bx x (List.mem_of_getElem? hj)) ((x.cs.toList.drop off).take k) off (by
    rw [List.length_take,List.take_eq_take_iff]; simp)
   exact evs_app _ _ W g1 g2 h1 h2
theorem res_eq {fn:Func} {T:Array Value} {n:Nat} {L:Ks} (hK:Kn T n L) (hin:fn.results.toList.all (fun r=>inK L (resSlot r)) = true):results fn T = resK fn L:=by
 have:∀ r,r∈fn.results→T.getD (resSlot r) undef = lookK L (resSlot r):=fun r hr=>by
  have:=List.all_eq_true.1 hin r (by simpa using hr)
  rw [Array.getD_eq_getD_getElem?,hK.look this]; rfl
 have hc:∀ (f g:ResultVar→Sem Value) (l:List ResultVar),(∀ r,r∈l→f r = g r)→l.mapM f = l.mapM g:=by
  intro f g l
  induction l with
  | nil=>intro _; rfl
  | cons r l ih=>intro h; rw [List.mapM_cons,List.mapM_cons,h r (List.mem_cons_self ..),ih fun r' hr'=>h r' (List.mem_cons_of_mem _ hr')]
 unfold results resK
 rw [Array.mapM_eq_mapM_toList,Array.mapM_eq_mapM_toList]
 congr 2
 refine hc _ _ _ fun r hr=>?_
 have h:=this r (by simpa using hr)
 cases r with
 | tmp t=>simp only [resSlot] at h; simp only [h]
 | cell a t=>simp only [resSlot] at h; simp only [h]
theorem sym_end {P:Program} {fn:Func} {R:Ending→World→Prop} {T:Array Value} {n:Nat} {L:Ks} {w0 W:World} {bs:List Bx} (hS:Fb w0 W bs) (hK:Kn T n L) (v:Value) (js:List (Nat×Nat×Nat)) (vs:List Value) (hin:fn.results.toList.all (fun r=>inK L (resSlot r)) = true) (hr:script P 0 (resK fn L) vs = some (v,rdEv bs js)) (h:R (.returned v) W):bodyPost P fn R .ret ⟨T,[]⟩ W:=by
 refine bodyPost_ret (v:=v) ?_ rfl h
 show (results fn T).run P W = _
 rw [res_eq hK hin]
 obtain ⟨h1,h2⟩:=rd_ok hS js
 have:=script_run P 0 _ _ _ _ W hr h1
 rw [h2] at this; exact this
def blkOf (E:List Bx) (S:List Spo) (p:Pqs) (j:Nat):Nat:=match boxOf E S p j with
 | some (bx,_)=>bx.b
 | none=>0
def csOf (E:List Bx) (S:List Spo) (p:Pqs) (j:Nat):Array Value:=match boxOf E S p j with
 | some (bx,_)=>bx.cs
 | none=>#[]
theorem ok_L {P:Program} {ops:Array Oper} {L:Ks} {E:List Bx} {S:List Spo} {G:World→Prop} {w0:World} {base:Nat} {p:Pqs} {i:Nat} {r:List Spo} {s j off:Nat} {x:Value} (hb:(boxOf E S p j).isSome = true) (h:opRun P ops L (puts p 0 S) i 0 x.cells.toList = some (some s,true,some (.value x,lds (blkOf E S p j) off x.cells.toList))) (hc:((cellsOf (fun k=>Nat.blt k i) j 0 S (csOf E S p j)).toList.drop off).take x.cells.size = x.cells.toList) (t:Oks P ops L E S G w0 base p (i+1) r):Oks P ops L E S G w0 base p i (.l s x j off :: r):=by
 obtain ⟨⟨bx,bo⟩,hbx⟩:=Option.isSome_iff_exists.1 hb
 unfold blkOf at h; unfold csOf at hc
 rw [hbx] at h hc
 exact ok_l bx bo hbx h hc t
theorem ok_P {P:Program} {ops:Array Oper} {L:Ks} {E:List Bx} {S:List Spo} {G:World→Prop} {w0:World} {base:Nat} {p:Pqs} {i:Nat} {r:List Spo} {j off:Nat} {xs:List Value} (hb:(boxOf E S p j).isSome = true) (h:opRun P ops L (puts p 0 S) i 0 [] = some (none,true,some (.skip,sts (blkOf E S p j) off xs))) (hc:Nat.ble (off+xs.length) (csOf E S p j).size = true) (t:Oks P ops L E S G w0 base p (i+1) r):Oks P ops L E S G w0 base p i (.p j off xs :: r):=by
 obtain ⟨⟨bx,bo⟩,hbx⟩:=Option.isSome_iff_exists.1 hb
 unfold blkOf at h; unfold csOf at hc
 rw [hbx] at h hc
 exact ok_p bx bo hbx h hc t
theorem wr64 {x:Int} (h1:-9223372036854775808≤x) (h2:x < 9223372036854775808):IntKind.i64.wrap x = x:=by rw [IntKind.wrap_i64]; omega
theorem ok_K {P:Program} {ops:Array Oper} {L:Ks} {E:List Bx} {S:List Spo} {G:World→Prop} {w0:World} {base:Nat} {p:Pqs} {i:Nat} {r:List Spo} {s:Option Nat} (h:(match opRun P ops L (puts p 0 S) i 0 [] with
  | some (a,b,_)=>some (a,b)
  | none=>none) = some (s,false)) (t:Oks P ops L E S G w0 base p (i+1) r):Oks P ops L E S G w0 base p i (.k s :: r):=by
 split at h
 ·rename_i a b c hx
  simp only [Option.some.injEq,Prod.mk.injEq] at h
  obtain ⟨rfl,rfl⟩:=h
  exact ok_k c hx t
 ·cases h
def aG (k:Nat) (a:Array Value):Value:=a.getD k undef
def aH (j k:Nat) (a:Array Value):Value:=.tuple #[a.getD j undef,a.getD k undef]
theorem imax (x y:Int):(if y > x then y else x) = max x y:=by omega
theorem then_n {next:Act→World→Prop} {Q:Exit→Act→World→Prop} {a:Act} {w:World} (h:next a w):Exit.then next Q .normal a w:=h
theorem then_r {next:Act→World→Prop} {Q:Exit→Act→World→Prop} {a:Act} {w:World} (h:Q .ret a w):Exit.then next Q .ret a w:=h
theorem inb_r {Q:Exit→Act→World→Prop} {id:Nat} {a:Act} {w:World} (h:Q .ret a w):Exit.inBlock id Q .ret a w:=h
theorem inb_n {Q:Exit→Act→World→Prop} {id:Nat} {a:Act} {w:World} (h:Q .normal a w):Exit.inBlock id Q .normal a w:=h
theorem wp_symQ {P:Program} {ops:Array Oper} {y:Code} {Q:Exit→Act→World→Prop} {T0:Array Value} {n:Nat} {L:Ks} {w0:World} {gs:List Gf} {id:Nat} {d:Bool} {W:World} {E:List Bx} (hS:Fb w0 W E) (hG:GsAt gs W) (hK:Kn T0 n L) (S:Pqs→List Spo) (L1:Pqs→Ks) (hm:P.follows .mixedOrders = true) (hsh:∀ p p',(S p).map Spo.bare = (S p').map Spo.bare) (hB:∀ p,symB ops n L E (S p) p (L1 p) = true) (hL:∀ p,(L1 p).map (fun x=>slotAt L x.1 (S p).length (puts p 0 (S p))) = (L1 p).map (·.2))
  (hok:∀ p,Oks P ops L E (S p) (GsAt gs) w0 W.heap.size p 0 (S p))
  (hfin:∀ p W' T1,SymF E (S p) (GsAt gs) w0 W.heap.size p W'→Kn T1 n (L1 p)→y.wp P Q ⟨T1,[]⟩ W') :
  (Code.seq (Code.region id ops d) y).wp P Q ⟨T0,[]⟩ W:=wp_seq (wp_symG hS hG hK S L1 hm hsh hB hL hok hfin)
def allBx:Nat→List Bx→List Nat
 | _,[]=>[]
 | i,_ :: r=>i :: allBx (i+1) r
@[reducible] def pT (b k:Nat):Value:=.pointer (some ⟨b,k,none⟩)
theorem wq {P:Program} {ops:Array Oper} {Q:Exit→Act→World→Prop} {T0:Array Value} {n:Nat} {L:Ks} {w0:World} {gs:List Gf} {id:Nat} {d:Bool} {W:World} {E:List Bx} {y:Code} (hS:Fb w0 W E) (hG:GsAt gs W) (hK:Kn T0 n L) (S:Pqs→List Spo) (L1:Pqs→Ks) (hok:∀ p,Oks P ops L E (S p) (GsAt gs) w0 W.heap.size p 0 (S p)) (hfin:∀ p W' T1,SymF E (S p) (GsAt gs) w0 W.heap.size p W'→Kn T1 n (L1 p)→y.wp P Q ⟨T1,[]⟩ W') (hm:P.follows .mixedOrders = true:=by kernel_rfl) (hsh:∀ p p',(S p).map Spo.bare = (S p').map Spo.bare:=by intro _ _; kernel_rfl) (hB:∀ p,symB ops n L E (S p) p (L1 p) = true:=by intro _; kernel_rfl) (hL:∀ p,(L1 p).map (fun x=>slotAt L x.1 (S p).length (puts p 0 (S p))) = (L1 p).map (·.2):=by intro _; kernel_rfl):(Code.seq (Code.region id ops d) y).wp P Q ⟨T0,[]⟩ W:=wp_symQ hS hG hK S L1 hm hsh hB hL hok hfin
theorem wg {P:Program} {ops:Array Oper} {Q:Exit→Act→World→Prop} {T0:Array Value} {n:Nat} {L:Ks} {w0:World} {gs:List Gf} {id:Nat} {d:Bool} {W:World} {E:List Bx} (hS:Fb w0 W E) (hG:GsAt gs W) (hK:Kn T0 n L) (S:Pqs→List Spo) (L1:Pqs→Ks) (hok:∀ p,Oks P ops L E (S p) (GsAt gs) w0 W.heap.size p 0 (S p)) (hfin:∀ p W' T1,SymF E (S p) (GsAt gs) w0 W.heap.size p W'→Kn T1 n (L1 p)→Q .normal ⟨T1,[]⟩ W') (hm:P.follows .mixedOrders = true:=by kernel_rfl) (hsh:∀ p p',(S p).map Spo.bare = (S p').map Spo.bare:=by intro _ _; kernel_rfl) (hB:∀ p,symB ops n L E (S p) p (L1 p) = true:=by intro _; kernel_rfl) (hL:∀ p,(L1 p).map (fun x=>slotAt L x.1 (S p).length (puts p 0 (S p))) = (L1 p).map (·.2):=by intro _; kernel_rfl):(Code.region id ops d).wp P Q ⟨T0,[]⟩ W:=wp_symG hS hG hK S L1 hm hsh hB hL hok hfin
theorem okv {P:Program} {ops:Array Oper} {L:Ks} {E:List Bx} {S:List Spo} {G:World→Prop} {w0:World} {base:Nat} {p:Pqs} {i:Nat} {r:List Spo} {s:Nat} {x:Value} (t:Oks P ops L E S G w0 base p (i+1) r) (h:opRun P ops L (puts p 0 S) i 0 [] = some (some s,true,some (.value x,[])):=by kernel_rfl):Oks P ops L E S G w0 base p i (.v s x :: r):=ok_v h t
theorem okvi {P:Program} {ops:Array Oper} {L:Ks} {E:List Bx} {S:List Spo} {G:World→Prop} {w0:World} {base:Nat} {p:Pqs} {i:Nat} {r:List Spo} {s:Nat} {k:IntKind} {x y:Int} (e:x = y) (t:Oks P ops L E S G w0 base p (i+1) r) (h:opRun P ops L (puts p 0 S) i 0 [] = some (some s,true,some (.value (.int k x),[])):=by kernel_rfl):Oks P ops L E S G w0 base p i (.v s (.int k y) :: r):=ok_vi e h t
theorem okvb {P:Program} {ops:Array Oper} {L:Ks} {E:List Bx} {S:List Spo} {G:World→Prop} {w0:World} {base:Nat} {p:Pqs} {i:Nat} {r:List Spo} {s:Nat} {x y:Bool} (e:x = y) (t:Oks P ops L E S G w0 base p (i+1) r) (h:opRun P ops L (puts p 0 S) i 0 [] = some (some s,true,some (.value (.bool x),[])):=by kernel_rfl):Oks P ops L E S G w0 base p i (.v s (.bool y) :: r):=ok_vb e h t
theorem okn {P:Program} {ops:Array Oper} {L:Ks} {E:List Bx} {S:List Spo} {G:World→Prop} {w0:World} {base:Nat} {p:Pqs} {i:Nat} {r:List Spo} {s:Nat} {cs:Array Value} {ty:TypeId} (t:Oks P ops L E S G w0 base p (i+1) r) (h:∀ q,opRun P ops L (puts p 0 S) i q [] = some (some s,true,some (.value (nv q ty),[.nw (.cells cs (ty % 1000000))])):=by intro _; kernel_rfl):Oks P ops L E S G w0 base p i (.n s cs ty :: r):=ok_n h t
theorem okc {P:Program} {ops:Array Oper} {L:Ks} {E:List Bx} {S:List Spo} {G:World→Prop} {w0:World} {base:Nat} {p:Pqs} {i:Nat} {r:List Spo} {s:Option Nat} {f:Cf} {fn:FuncId} {args:Array Value} (hc:∀ W,Cx ops E S G w0 base p i W→Calls P fn args W fun en W'=>∃ q,en = .returned (f.f q)∧Below W.heap.size W W'∧f.g q W') (t:Oks P ops L E S G w0 base p (i+1) r) (h:opRun P ops L (puts p 0 S) i 0 [] = some (s,true,some (.enter fn args,[])):=by kernel_rfl):Oks P ops L E S G w0 base p i (.c s f :: r):=ok_c hc h t
theorem oku {P:Program} {ops:Array Oper} {L:Ks} {E:List Bx} {S:List Spo} {G:World→Prop} {w0:World} {base:Nat} {p:Pqs} {i:Nat} {r:List Spo} {s:Nat} {x:Value} {g:Array Value→Value} {fn:FuncId} {args:Array Value} (hc:∀ W,Cx ops E S G w0 base p i W→Calls P fn args W fun en W'=>en = .returned x∧Below W.heap.size W W') (t:Oks P ops L E S G w0 base p (i+1) r) (h:opRun P ops L (puts p 0 S) i 0 [] = some (some s,true,some (.enter fn args,[])):=by kernel_rfl) (hx:g args = x:=by kernel_rfl):Oks P ops L E S G w0 base p i (.u s x g :: r):=ok_u hc h hx t
theorem okl {P:Program} {ops:Array Oper} {L:Ks} {E:List Bx} {S:List Spo} {G:World→Prop} {w0:World} {base:Nat} {p:Pqs} {i:Nat} {r:List Spo} {s j off:Nat} {x:Value} (t:Oks P ops L E S G w0 base p (i+1) r) (hb:(boxOf E S p j).isSome = true:=by kernel_rfl) (h:opRun P ops L (puts p 0 S) i 0 x.cells.toList = some (some s,true,some (.value x,lds (blkOf E S p j) off x.cells.toList)):=by kernel_rfl) (hc:((cellsOf (fun k=>Nat.blt k i) j 0 S (csOf E S p j)).toList.drop off).take x.cells.size = x.cells.toList:=by kernel_rfl):Oks P ops L E S G w0 base p i (.l s x j off :: r):=ok_L hb h hc t
theorem okp {P:Program} {ops:Array Oper} {L:Ks} {E:List Bx} {S:List Spo} {G:World→Prop} {w0:World} {base:Nat} {p:Pqs} {i:Nat} {r:List Spo} {j off:Nat} {xs:List Value} (t:Oks P ops L E S G w0 base p (i+1) r) (hb:(boxOf E S p j).isSome = true:=by kernel_rfl) (h:opRun P ops L (puts p 0 S) i 0 [] = some (none,true,some (.skip,sts (blkOf E S p j) off xs)):=by kernel_rfl) (hc:Nat.ble (off+xs.length) (csOf E S p j).size = true:=by kernel_rfl):Oks P ops L E S G w0 base p i (.p j off xs :: r):=ok_P hb h hc t
theorem okk {P:Program} {ops:Array Oper} {L:Ks} {E:List Bx} {S:List Spo} {G:World→Prop} {w0:World} {base:Nat} {p:Pqs} {i:Nat} {r:List Spo} {s:Option Nat} (t:Oks P ops L E S G w0 base p (i+1) r) (h:(match opRun P ops L (puts p 0 S) i 0 [] with|some (a,b,_)=>some (a,b)|none=>none) = some (s,false):=by kernel_rfl):Oks P ops L E S G w0 base p i (.k s :: r):=ok_K h t
theorem SymF.fc {E:List Bx} {S:List Spo} {G:World→Prop} {w0 W0:World} {p:Pqs} {W:World} (hS:Fb w0 W0 E) (h:SymF E S G w0 W0.heap.size p W) (js:List Nat) (E1:List Bx) (e:finBx E S p js = E1:=by kernel_rfl) (nd:nodupB js = true:=by kernel_rfl):Fb w0 W E1:=SymF.fb hS h js E1 e nd
theorem SymF.fd {E:List Bx} {S:List Spo} {G:World→Prop} {w0 W0:World} {p:Pqs} {W:World} (hS:Fb w0 W0 E) (h:SymF E S G w0 W0.heap.size p W) (e:finBx E S p (allBx 0 E) = E:=by kernel_rfl) (nd:nodupB (allBx 0 E) = true:=by kernel_rfl):Fb w0 W E:=SymF.fb hS h _ E e nd
theorem SymF.fg {E:List Bx} {S:List Spo} {G:World→Prop} {w0 W0:World} {p:Pqs} {W:World} (hS:Fb w0 W0 E) (h:SymF E S G w0 W0.heap.size p W) (e:finBx E S p (allBx 0 E) = E:=by kernel_rfl) (nd:nodupB (allBx 0 E) = true:=by kernel_rfl):Fb w0 W E∧G W:=⟨SymF.fb hS h _ E e nd,h.gx⟩
theorem Kn.ew {T:Array Value} {n:Nat} {L:Ks} (h:Kn T n L) (s:Nat) {v:Value} (hi:inK L s = true:=by kernel_rfl) (hv:lookK L s = v:=by kernel_rfl):Act.eval ⟨T,[]⟩ (.tmp s) = v:=h.ev s hi v hv
theorem script_bind {α β:Type} (P:Program) (r:Nat) (m:Sem α) (k:α→Sem β) (vs:List Value):∀ x:α,script P r m [] = some (x,[])→script P r (m >>= k) vs = script P r (k x) vs:=by
 induction m with
 | pure a=>
  intro x h
  simp only [script,Option.some.injEq,Prod.mk.injEq] at h
  rw [← h.1]; rfl
 | load _ a k' _=>intro x h; simp [script] at h
 | store _ a v k' _=>
  intro x h
  simp only [script] at h
  split at h
  ·simp at h
  ·cases h
 | new o k' _=>
  intro x h
  simp only [script] at h
  split at h
  ·simp at h
  ·cases h
 | program k' ih=>intro x h; exact ih P x h
 | mark _ k' ih=>intro x h; exact ih x h
 | _=>intro x h; simp [script] at h
theorem script_under {P:Program} {r:Nat} {t:TypeId} {d:TypeDesc} (h:P.underlying t = some d):script P r (underlying t) [] = some (d,[]):=by
 show script P r (match P.underlying t with|some d=>pure d|none=>_) [] = _
 rw [h]; rfl
theorem ok_vr {P:Program} {ops:Array Oper} {L:Ks} {E:List Bx} {S:List Spo} {G:World→Prop} {w0:World} {base:Nat} {p:Pqs} {i:Nat} {r:List Spo} {s:Nat} {x:Value} {m:Sem Value} (e:script P 0 m [] = some (x,[])) (h:opRun P ops L (puts p 0 S) i 0 [] = some (some s,true,script P 0 (do pure (Next.value (← m))) [])) (t:Oks P ops L E S G w0 base p (i+1) r):Oks P ops L E S G w0 base p i (.v s x :: r):=
 ⟨(show opRun P ops L (puts p 0 S) i 0 [] = some (some s,true,some (.value x,[])) by rw [h,script_bind P 0 m _ [] x e]; rfl),t⟩
theorem script_bound {P:Program} {r:Nat} {k:IntKind} {i:Int} {y:Nat} {c:BoundsCode} (h0:0≤i) (h1:i≤(y:Int)):script P r (Instr.sliceBound (.int k i) y c) [] = some (i.toNat,[]):=by
 show script P r (if 0≤i∧i≤(y:Int) then pure i.toNat else boundsPanic k i y c) [] = _
 rw [if_pos ⟨h0,h1⟩]; rfl
theorem script_slice {P:Program} {r:Nat} {t:TypeId} {s:ByteArray} {l h:Int} (hu:P.underlying t = some .string) (h0:0≤l) (h1:l≤h) (h2:h≤(s.size:Int)):script P r (Instr.sliceAt t (.string s) (some (.int .i64 l)) (some (.int .i64 h)) none) [] = some (.string (s.extract l.toNat h.toNat),[]):=by
 unfold Instr.sliceAt
 rw [script_bind P r _ _ [] _ (script_under hu)]
 show script P r (Instr.slice t (.string s) (some (.int .i64 l)) (some (.int .i64 h)) none) [] = _
 unfold Instr.slice
 rw [script_bind P r _ _ [] _ (script_under hu)]
 have hb:script P r (Instr.sliceBounds false s.size s.size (some (.int .i64 l)) (some (.int .i64 h)) none) [] = some ((l.toNat,h.toNat,s.size),[]):=by
  show script P r (do let h ← Instr.sliceBound (.int .i64 h) s.size .sliceAlen; let l ← Instr.sliceBound (.int .i64 l) h .sliceB; pure (l,h,s.size)) [] = _
  rw [script_bind P r _ _ [] _ (script_bound (by omega) h2),script_bind P r _ _ [] _ (script_bound h0 (by omega))]; rfl
 show script P r (do let (l,h,_) ← Instr.sliceBounds false s.size s.size (some (.int .i64 l)) (some (.int .i64 h)) none; (pure (Value.string (s.extract l h)):Sem Value)) [] = _
 rw [script_bind P r _ _ [] _ hb]; rfl
theorem word_some (b off cap n:Nat) (xs:List Nat) (w:World) (hn:Hid (xs.length = n)) (hn2:n≤2) (hw:Pl.Wf xs)
  (hc:∀ j,j < n→w.cell? ⟨b,off+j,none⟩ = some (.int .u32 ((xs[j]?.getD 0:Nat):Int))) :
  Calls Tryz.prog 58 #[.slice (some ⟨b,off,none⟩) n cap] w fun e w'=>e = .returned (.int .u64 (Pl.val xs:Int))∧w = w':=by
 go_enter Tryz.func58,Tryz.ntmps58
 go_wp2
 go_loop [3,4] (fun r i=>∃ (k acc:Nat),k≤n∧i = .int .i64 ((k:Int) - 1)∧r = .int .u64 (acc:Int)∧acc = Pl.val (xs.drop k)) (fun _ i=>(intOf i+1).toNat)
 case atStart=>exact ⟨n,0,Nat.le_refl _,rfl,rfl,by rw [List.drop_eq_nil_of_le (by rw [unhide hn]; omega)]; rfl⟩
 case round=>
  obtain ⟨k,acc,hk,rfl,rfl,hv⟩:=hrel
  by_cases hk0:k = 0
  ·subst hk0
   have HV:=hide hv
   clear hv
   go_wp2
   go_ret
   exact ⟨ret_int (by rw [unhide HV,List.drop_zero]),rfl⟩
  ·obtain ⟨j,rfl⟩:∃ j,k = j+1:=⟨k - 1,by omega⟩
   obtain ⟨x,hxx⟩:∃ x,x = xs[j]?.getD 0:=⟨_,rfl⟩
   have hnl:=unhide hn
   have hx1:x < 4294967296:=by rw [hxx]; exact Pl.wf_at hw j
   have hacc:acc < 4294967296:=by
    have h1:=Pl.val_lt (Pl.wf_drop hw (j+1))
    have h2:(xs.drop (j+1)).length≤1:=by rw [List.length_drop]; omega
    have h3:=Pl.pow_le h2
    rw [← hv] at h1
    omega
   have hcx:=hc j (by omega)
   rw [← hxx] at hcx
   obtain ⟨t,ht⟩:∃ t,t = acc * 4294967296+x:=⟨_,rfl⟩
   have hor:Go.bits BinOp.or IntKind.u64 ((acc:Int) * 4294967296) (x:Int) = (t:Int):=by rw [or_limb acc x hacc hx1,ht]; omega
   have HT:Hid (t = Pl.val (xs.drop j)):=by
    rw [Pl.drop_cons xs j (by omega),← hxx]
    show t = x+4294967296 * Pl.val (xs.drop (j+1))
    rw [← hv,ht]; omega
   clear hxx ht hv hnl hc
   go_wp2
   go_round
   case rel=>exact ⟨j,t,by omega,rfl,rfl,unhide HT⟩
   case measure=>simp [intOf]
theorem word_any (a:Option Addr) (n cap m:Nat) (w:World) (h:Num w a n m) (hn2:n≤2) :
  Calls Tryz.prog 58 #[.slice a n cap] w fun e w'=>e = .returned (.int .u64 (m:Int))∧w = w':=by
 obtain ⟨xs,hn,hl,hw,hN,hv,hb⟩:=h
 rcases hl.parts with hx|⟨hp,b,off,rfl,hlt,hc⟩
 ·have hn0:n = 0:=by rw [← hn,hx]; rfl
  have hm0:m = 0:=by rw [← hv,hx]; rfl
  subst hn0 hm0
  clear hn hv hl hw hN hb hx
  go_enter Tryz.func58,Tryz.ntmps58
  go_wp2
  refine wp_loop_rounds 1 ?_
  rw [rounds_succ]
  go_wp2
  go_ret
  exact ⟨rfl,rfl⟩
 ·rw [← hv]
  exact word_some b off cap n xs w (hide hn) hn2 hw (fun j hj=>hc j (by omega))
theorem low_small (a:Option Addr) (n cap m:Nat) (w:World) (h:Num w a n m) (hn2:n≤2) :
  Calls Tryz.prog 22 #[.agg #[.slice a n cap]] w fun e w'=>e = .returned (.tuple #[.int .u64 (m:Int),.bool true])∧Below w.heap.size w w':=by
 have H:=hide h
 obtain ⟨xs,hn,hl,hw,hN,hv,hb⟩:=h
 have hck:=check_any a cap xs (w.alloc (.cells #[.slice a n cap] 26)) (by omega) (hl.alloc _)
 rw [hn,chk_ok (by omega) hN] at hck
 have HK:=hide hck
 clear hck hl hn hv
 go_enter Tryz.func22,Tryz.ntmps22
 go_wp2_with fail
 refine (unhide HK).mono ?_
 rintro e w1 ⟨rfl,hb1⟩
 obtain ⟨hc1,hf1⟩:=bcell hb1
 go_wp2_with fail
 refine (word_any a n cap m w1 (((unhide H).alloc _).kept hb1) hn2).mono ?_
 rintro e w2 ⟨rfl,rfl⟩
 go_wp2
 go_ret2
 exact ⟨rfl,gr_trans (gr_alloc _ _) hb1⟩
end Go.Proofs.YtpmmapoabbpaiaaGreat
