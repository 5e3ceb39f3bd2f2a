/- Of what RatioBackRow stands on: Sym3 Sym4. -/
import Derived.Test.YtcfccblpcngeaaaGreatPas
namespace Go.Proofs.YtcfccblpcngeaaaGreat
open Go.RowKit
def isUp (l:Array Bool) (k:Nat):Bool:=l.getD k false
theorem isUp_iff {l:Array Bool} {k:Nat}:isUp l k = true↔l[k]? = some true:=⟨getD_true,true_getD⟩
theorem isUp_no {l:Array Bool} {k:Nat} (h:l[k]?≠some true):isUp l k = false:=by
 cases hb:isUp l k with
 | false=>rfl
 | true=>exact absurd (isUp_iff.1 hb) h
theorem set_up {l:Array Bool} {i k:Nat} (hl:l[i]? = some false):(l.setIfInBounds i true)[k]? = some true↔k = i∨l[k]? = some true:=by
 obtain ⟨hlt,-⟩:=Array.getElem?_eq_some_iff.1 hl
 by_cases hk:k = i
 ·subst hk; simp [hlt]
 ·rw [Array.getElem?_setIfInBounds_ne (Ne.symm hk)]; simp [hk]
theorem isUp_set {l:Array Bool} {i:Nat} (hl:l[i]? = some false):isUp (l.setIfInBounds i true) = fun m=>isUp l m || Nat.beq m i:=by
 funext m
 cases hb:Nat.beq m i with
 | true=>
  obtain rfl:=Nat.eq_of_beq_eq_true hb
  rw [Bool.or_true]; exact isUp_iff.2 ((set_up hl).2 (Or.inl rfl))
 | false=>
  have hne:m≠i:=by rintro rfl; rw [Nat.beq_refl] at hb; cases hb
  rw [Bool.or_false]
  unfold isUp
  rw [Array.getD_eq_getD_getElem?,Array.getElem?_setIfInBounds_ne (Ne.symm hne),← Array.getD_eq_getD_getElem?]
theorem sta_mine (base:Nat) (a:Option Addr) (n c m:Nat):Sta (fun W=>Mine W base a n c m):=⟨fun _ _ hb h=>h.kept hb,fun _ _ _ _ j u hb ht _ h=>h.put hb ht j u⟩
theorem sta_num (a:Option Addr) (n m:Nat):Sta (fun W=>Num W a n m):=⟨fun _ _ hb h=>h.kept hb,fun _ _ _ _ j u hb _ hl h=>h.put hb hl j u⟩
def Agr (l:Array Bool) (p p':Pqs):Prop:=∀ k,l[k]? = some true→p' k = p k
theorem Agr.refl (l:Array Bool) (p:Pqs):Agr l p p:=fun _ _=>rfl
theorem Agr.back {l:Array Bool} {p p':Pqs} {i:Nat} (hl:l[i]? = some false) (h:Agr (l.setIfInBounds i true) p p'):Agr l p p':=fun k hk=>h k ((set_up hl).2 (Or.inr hk))
theorem Agr.backS {l:Array Bool} {p p':Pqs} {i:Nat} {q:Pq} (hl:l[i]? = some false) (h:Agr (l.setIfInBounds i true) (p.set i q) p'):Agr l p p'∧p' i = q:=by
 refine ⟨fun k hk=>?_,?_⟩
 ·have:=h k ((set_up hl).2 (Or.inr hk))
  rw [this]
  have hne:k≠i:=by rintro rfl; rw [hl] at hk; cases hk
  simp [Pqs.set,hne]
 ·have:=h i ((set_up hl).2 (Or.inl rfl))
  rw [this]; simp [Pqs.set]
def lds (b:Nat):Nat→List Value→List Ev
 | _,[]=>[]
 | o,v :: r=>.ld ⟨b,o,none⟩ v :: lds b (o+1) r
def sts (b:Nat):Nat→List Value→List Ev
 | _,[]=>[]
 | o,v :: r=>.st ⟨b,o,none⟩ v :: sts b (o+1) r
def noPutB (j:Nat):List Spo→Bool
 | []=>true
 | .p j' _ _ :: r=>j' != j && noPutB j r
 | _ :: r=>noPutB j r
def factOf (S:List Spo) (p:Pqs) (k:Nat) (W:World):Prop:=match S[k]? with
 | some (.c _ cf)=>cf.g (p k) W
 | some (.n _ cs t)=>noPutB (1000+k) S = true→W.heap[(p k).N]? = some (.cells cs (t % 1000000) (0,0))
 | _=>True
def FactsAt (ops:Array Oper) (S:List Spo) (p:Pqs) (i:Nat) (W:World):Prop:=∀ k,reach ops 8 i k = true→factOf S p k W
def BoxesAt (E:List Bx) (S:List Spo) (W:World):Prop:=∀ (j:Nat) (x:Bx),E[j]? = some x→noPutB j S = true→Nat.blt j 1000 = true→W.heap[x.b]? = some (.cells x.cs x.t (0,0))
structure Cx (ops:Array Oper) (E:List Bx) (S:List Spo) (G:World→Prop) (w0:World) (base:Nat) (p:Pqs) (i:Nat) (W:World):Prop where
 hb:base≤W.heap.size
 fr:Below w0.heap.size w0 W
 F:FactsAt ops S p i W
 G:G W
 B:BoxesAt E S W
def OkAt (P:Program) (ops:Array Oper) (L:Ks) (E:List Bx) (S:List Spo) (G:World→Prop) (w0:World) (base:Nat) (p:Pqs) (i:Nat):Spo→Prop
 | .v s x=>opRun P ops L (puts p 0 S) i 0 [] = some (some s,true,some (.value x,[]))
 | .l s x j off=>∃ bx bo,boxOf E S p j = some (bx,bo)∧opRun P ops L (puts p 0 S) i 0 x.cells.toList = some (some s,true,some (.value x,lds bx.b off x.cells.toList))∧((cellsOf (fun k=>Nat.blt k i) j 0 S bx.cs).toList.drop off).take x.cells.size = x.cells.toList
 | .p j off xs=>∃ bx bo,boxOf E S p j = some (bx,bo)∧opRun P ops L (puts p 0 S) i 0 [] = some (none,true,some (.skip,sts bx.b off xs))∧Nat.ble (off+xs.length) bx.cs.size = true
 | .n s cs t=>∀ r,opRun P ops L (puts p 0 S) i r [] = some (some s,true,some (.value (nv r t),[.nw (.cells cs (t % 1000000))]))
 | .c s f=>∃ fn args,opRun P ops L (puts p 0 S) i 0 [] = some (s,true,some (.enter fn args,[]))∧∀ W,Cx ops E S G w0 base p i W→Calls P fn args W fun en W'=>∃ q,en = .returned (f.f q)∧Below W.heap.size W W'∧f.g q W'
 | .u s x h=>∃ fn args,opRun P ops L (puts p 0 S) i 0 [] = some (some s,true,some (.enter fn args,[]))∧h args = x∧∀ W,Cx ops E S G w0 base p i W→Calls P fn args W fun en W'=>en = .returned x∧Below W.heap.size W W'
 | .g s x vs es=>opRun P ops L (puts p 0 S) i 0 vs = some (some s,true,some (.value x,es))∧∀ W,Cx ops E S G w0 base p i W→EvsOk 0 es W∧evs es W = W
 | .k s=>∃ x,opRun P ops L (puts p 0 S) i 0 [] = some (s,false,x)
def Oks (P:Program) (ops:Array Oper) (L:Ks) (E:List Bx) (S:List Spo) (G:World→Prop) (w0:World) (base:Nat) (p:Pqs):Nat→List Spo→Prop
 | _,[]=>True
 | i,x :: r=>OkAt P ops L E S G w0 base p i x∧Oks P ops L E S G w0 base p (i+1) r
theorem Oks.at {P:Program} {ops:Array Oper} {K:Ks} {E:List Bx} {S:List Spo} {G:World→Prop} {w0:World} {base:Nat} {p:Pqs}:∀ (L:List Spo) (i0 k:Nat) (x:Spo),Oks P ops K E S G w0 base p i0 L→L[k]? = some x→OkAt P ops K E S G w0 base p (i0+k) x
 | [],_,_,_,_,hk=>by simp at hk
 | y :: r,i0,0,x,h,hk=>by
  simp only [List.getElem?_cons_zero,Option.some.injEq] at hk
  subst hk; exact h.1
 | y :: r,i0,k+1,x,h,hk=>by
  have:=Oks.at r (i0+1) k x h.2 (by simpa using hk)
  rw [show i0+(k+1) = i0+1+k from by omega]; exact this
structure SymS (ops:Array Oper) (T0:Array Value) (n:Nat) (L:Ks) (E:List Bx) (S:Pqs→List Spo) (G:World→Prop) (w0:World) (base:Nat):Prop where
 shape:∀ p p',(S p).map Spo.bare = (S p').map Spo.bare
 apart:∀ p,Puts.apart (puts p 0 (S p)) = true
 len:∀ p,(S p).length = ops.size
 within:∀ p,Puts.within (puts p 0 (S p)) T0.size = true
 back:backB ops = true
 reads:∀ p,readsOk ops L (puts p 0 (S p)) 0 ops.toList = true
 kn:Kn T0 n L
 mem:∀ p,memOk ops E (S p) 0 (S p) = true
 eb:E.all (fun x=>!x.my || noLimb x.cs.toList && x.t != 25) = true
 low:∀ x,x∈E→x.my = true→w0.heap.size≤x.b
 ne:∀ (j k:Nat) (x y:Bx),E[j]? = some x→E[k]? = some y→x.my = true→j≠k→x.b≠y.b
 lt:∀ x,x∈E→x.b < base
 w0b:w0.heap.size≤base
 sta:Sta G
structure SymI (ops:Array Oper) (T0:Array Value) (E:List Bx) (S:Pqs→List Spo) (G:World→Prop) (w0:World) (base:Nat) (p:Pqs) (l:Array Bool) (t:Array Value) (W:World):Prop where
 det:∀ p',Agr l p p'→Det ops (puts p' 0 (S p')) T0 l t
 mem:∀ p',Agr l p p'→∀ (j:Nat) (bx:Bx) (bo:Option Nat),boxOf E (S p') p' j = some (bx,bo)→(∀ k,bo = some k→l[k]? = some true)→W.heap[bx.b]? = some (.cells (cellsOf (isUp l) j 0 (S p') bx.cs) bx.t (0,0))
 fr:Below w0.heap.size w0 W
 bs:base≤W.heap.size
 nb:∀ (k s:Nat) (cs:Array Value) (t:TypeId),(S p)[k]? = some (.n s cs t)→l[k]? = some true→base≤(p k).N
 ne:∀ (k s:Nat) (cs:Array Value) (t:TypeId) (k' s':Nat) (cs':Array Value) (t':TypeId),(S p)[k]? = some (.n s cs t)→(S p)[k']? = some (.n s' cs' t')→l[k]? = some true→l[k']? = some true→k≠k'→(p k).N≠(p k').N
 fx:∀ (k:Nat) (s:Option Nat) (f:Cf),(S p)[k]? = some (.c s f)→l[k]? = some true→f.g (p k) W
 gx:G W
theorem SymS.bare {ops:Array Oper} {T0:Array Value} {n:Nat} {L:Ks} {E:List Bx} {S:Pqs→List Spo} {G:World→Prop} {w0:World} {base:Nat} (h:SymS ops T0 n L E S G w0 base) (p p':Pqs) (i:Nat):((S p)[i]?).map Spo.bare = ((S p')[i]?).map Spo.bare:=by
 have:=congrArg (fun l=>l[i]?) (h.shape p p')
 simpa using this
theorem SymS.at_n {ops:Array Oper} {T0:Array Value} {n:Nat} {L:Ks} {E:List Bx} {S:Pqs→List Spo} {G:World→Prop} {w0:World} {base:Nat} (h:SymS ops T0 n L E S G w0 base) {p:Pqs} (p':Pqs) {i s:Nat} {cs:Array Value} {t:TypeId} (hi:(S p)[i]? = some (.n s cs t)):(S p')[i]? = some (.n s cs t):=by
 have:=h.bare p p' i
 rw [hi] at this
 cases hx:(S p')[i]? with
 | none=>rw [hx] at this; simp at this
 | some x=>rw [hx] at this; cases x <;> simp [Spo.bare] at this; obtain ⟨rfl,rfl,rfl⟩:=this; rfl
theorem SymS.at_c {ops:Array Oper} {T0:Array Value} {n:Nat} {L:Ks} {E:List Bx} {S:Pqs→List Spo} {G:World→Prop} {w0:World} {base:Nat} (h:SymS ops T0 n L E S G w0 base) {p:Pqs} (p':Pqs) {i:Nat} {s:Option Nat} {f:Cf} (hi:(S p)[i]? = some (.c s f)):(S p')[i]? = some (.c s f):=by
 have:=h.bare p p' i
 rw [hi] at this
 cases hx:(S p')[i]? with
 | none=>rw [hx] at this; simp at this
 | some x=>rw [hx] at this; cases x <;> simp [Spo.bare] at this; obtain ⟨rfl,rfl⟩:=this; rfl
theorem SymS.at_k {ops:Array Oper} {T0:Array Value} {n:Nat} {L:Ks} {E:List Bx} {S:Pqs→List Spo} {G:World→Prop} {w0:World} {base:Nat} (h:SymS ops T0 n L E S G w0 base) {p:Pqs} (p':Pqs) {i:Nat} {s:Option Nat} (hi:(S p)[i]? = some (.k s)):(S p')[i]? = some (.k s):=by
 have:=h.bare p p' i
 rw [hi] at this
 cases hx:(S p')[i]? with
 | none=>rw [hx] at this; simp at this
 | some x=>rw [hx] at this; cases x <;> simp [Spo.bare] at this; obtain rfl:=this; rfl
theorem SymS.at_v {ops:Array Oper} {T0:Array Value} {n:Nat} {L:Ks} {E:List Bx} {S:Pqs→List Spo} {G:World→Prop} {w0:World} {base:Nat} (h:SymS ops T0 n L E S G w0 base) {p:Pqs} (p':Pqs) {i s:Nat} {x:Value} (hi:(S p)[i]? = some (.v s x)):∃ x',(S p')[i]? = some (.v s x'):=by
 have:=h.bare p p' i
 rw [hi] at this
 cases hx:(S p')[i]? with
 | none=>rw [hx] at this; simp at this
 | some y=>rw [hx] at this; cases y <;> simp [Spo.bare] at this; obtain rfl:=this; exact ⟨_,rfl⟩
theorem SymS.at_u {ops:Array Oper} {T0:Array Value} {n:Nat} {L:Ks} {E:List Bx} {S:Pqs→List Spo} {G:World→Prop} {w0:World} {base:Nat} (h:SymS ops T0 n L E S G w0 base) {p:Pqs} (p':Pqs) {i s:Nat} {x:Value} {g:Array Value→Value} (hi:(S p)[i]? = some (.u s x g)):∃ x',(S p')[i]? = some (.u s x' g):=by
 have:=h.bare p p' i
 rw [hi] at this
 cases hx:(S p')[i]? with
 | none=>rw [hx] at this; simp at this
 | some y=>rw [hx] at this; cases y <;> simp [Spo.bare] at this; obtain ⟨rfl,rfl⟩:=this; exact ⟨_,rfl⟩
theorem SymS.at_g {ops:Array Oper} {T0:Array Value} {n:Nat} {L:Ks} {E:List Bx} {S:Pqs→List Spo} {G:World→Prop} {w0:World} {base:Nat} (h:SymS ops T0 n L E S G w0 base) {p:Pqs} (p':Pqs) {i s:Nat} {x:Value} {vs:List Value} {es:List Ev} (hi:(S p)[i]? = some (.g s x vs es)):∃ x' vs' es',(S p')[i]? = some (.g s x' vs' es'):=by
 have:=h.bare p p' i
 rw [hi] at this
 cases hx:(S p')[i]? with
 | none=>rw [hx] at this; simp at this
 | some y=>rw [hx] at this; cases y <;> simp [Spo.bare] at this; obtain rfl:=this; exact ⟨_,_,_,rfl⟩
theorem SymS.at_l {ops:Array Oper} {T0:Array Value} {n:Nat} {L:Ks} {E:List Bx} {S:Pqs→List Spo} {G:World→Prop} {w0:World} {base:Nat} (h:SymS ops T0 n L E S G w0 base) {p:Pqs} (p':Pqs) {i s j off:Nat} {x:Value} (hi:(S p)[i]? = some (.l s x j off)):∃ x',(S p')[i]? = some (.l s x' j off):=by
 have:=h.bare p p' i
 rw [hi] at this
 cases hx:(S p')[i]? with
 | none=>rw [hx] at this; simp at this
 | some y=>rw [hx] at this; cases y <;> simp [Spo.bare] at this; obtain ⟨rfl,rfl,rfl⟩:=this; exact ⟨_,rfl⟩
theorem SymS.at_p {ops:Array Oper} {T0:Array Value} {n:Nat} {L:Ks} {E:List Bx} {S:Pqs→List Spo} {G:World→Prop} {w0:World} {base:Nat} (h:SymS ops T0 n L E S G w0 base) {p:Pqs} (p':Pqs) {i j off:Nat} {xs:List Value} (hi:(S p)[i]? = some (.p j off xs)):∃ xs',(S p')[i]? = some (.p j off xs'):=by
 have:=h.bare p p' i
 rw [hi] at this
 cases hx:(S p')[i]? with
 | none=>rw [hx] at this; simp at this
 | some y=>rw [hx] at this; cases y <;> simp [Spo.bare] at this; obtain ⟨rfl,rfl,-⟩:=this; exact ⟨_,rfl⟩
theorem SymS.mem_at {ops:Array Oper} {T0:Array Value} {n:Nat} {L:Ks} {E:List Bx} {S:Pqs→List Spo} {G:World→Prop} {w0:World} {base:Nat} (h:SymS ops T0 n L E S G w0 base) (p:Pqs) {i:Nat} {x:Spo} (hi:(S p)[i]? = some x):∃ r,memOk ops E (S p) i (x :: r) = true:=by
 have:=memOk_at (S p) 0 i (h.mem p)
 rw [Nat.zero_add] at this
 obtain ⟨hlt,he⟩:=List.getElem?_eq_some_iff.1 hi
 rw [List.drop_eq_getElem_cons hlt,he] at this
 exact ⟨_,this⟩
theorem SymI.cells {ops:Array Oper} {T0:Array Value} {E:List Bx} {S:Pqs→List Spo} {G:World→Prop} {w0:World} {base:Nat} {p:Pqs} {l:Array Bool} {t:Array Value} {W:World} {i:Nat} (hI:SymI ops T0 E S G w0 base p l t W) (hi:i∈Region.ready .any ops l) (hl:l[i]? = some false) {p':Pqs} (ha:Agr l p p') {j:Nat} {bx:Bx} {bo:Option Nat} (hb:boxOf E (S p') p' j = some (bx,bo)) (ht:touchOk ops i j 0 (S p') = true) (hr:Nat.blt j 1000 = true∨reach ops 4 i (j - 1000) = true) :
  W.heap[bx.b]? = some (.cells (cellsOf (isUp l) j 0 (S p') bx.cs) bx.t (0,0))∧cellsOf (isUp l) j 0 (S p') bx.cs = cellsOf (fun k=>Nat.blt k i) j 0 (S p') bx.cs∧(∀ k,bo = some k→l[k]? = some true):=by
 have hD:=hI.det p' ha
 have hal:∀ k,bo = some k→l[k]? = some true:=by
  intro k hk
  subst hk
  unfold boxOf at hb
  rcases hr with hr|hr
  ·rw [hr] at hb; simp at hb
  ·split at hb
   ·simp at hb
   ·split at hb
    ·simp only [Option.some.injEq,Prod.mk.injEq] at hb
     obtain ⟨-,rfl⟩:=hb
     exact reach_ready hD hr hi
    ·cases hb
 refine ⟨hI.mem p' ha j bx bo hb hal,cellsOf_agree _ _ _ (fun k off xs hk=>?_),hal⟩
 have:=touchOk_at (S p') 0 k off xs ht hk
 rw [Nat.zero_add] at this ⊢
 rcases this with rfl|⟨h1,h2⟩|⟨h1,h2⟩
 ·rw [isUp_no (by rw [hl]; simp)]
  symm
  cases hb9:Nat.blt k k with
  | false=>rfl
  | true=>rw [Nat.blt_eq] at hb9; omega
 ·rw [isUp_iff.2 (reach_ready hD h2 hi)]; symm; simpa [Nat.blt_eq] using h1
 ·rw [isUp_no (fun hc=>by have:=reach_done hD _ _ _ h2 hc; rw [hl] at this; cases this)]
  symm
  cases hb9:Nat.blt k i with
  | false=>rfl
  | true=>rw [Nat.blt_eq] at hb9; omega
theorem SymI.kept {ops:Array Oper} {T0:Array Value} {n:Nat} {L:Ks} {E:List Bx} {S:Pqs→List Spo} {G:World→Prop} {w0:World} {base:Nat} {p:Pqs} {l:Array Bool} {t:Array Value} {W W':World} (hs:SymS ops T0 n L E S G w0 base) (hI:SymI ops T0 E S G w0 base p l t W) (hb:Below W.heap.size W W'):SymI ops T0 E S G w0 base p l t W':=
 ⟨hI.det,fun p' ha j bx bo h1 h2=>by have:=hI.mem p' ha j bx bo h1 h2; rw [hb.block _ (block_lt this)]; exact this,gr_trans hI.fr hb,Nat.le_trans hI.bs hb.size,hI.nb,hI.ne,fun k s f hk hl=>(f.st _).kept W W' hb (hI.fx k s f hk hl),hs.sta.kept W W' hb hI.gx⟩
theorem wpOp_run {P:Program} {ops:Array Oper} {Q:Exit→Act→World→Prop} {o:Oper} {i:Nat} {a:Act} {W W':World} {nx:Next} {K:Act→World→Prop} (ho:ops[i]? = some o) (hw:Region.wanted o (yielded ops a.tmps) = true) (hr:(execOp a.eval o).run P W = .ok nx W') (h:o.upon P a K Q (.ok nx W')):wpOp P ops Q i K a W:=by
 unfold wpOp
 rw [ho]
 simp only [hw,if_true]
 left
 unfold Oper.wp
 rw [hr]; exact h
theorem SymI.step_val {ops:Array Oper} {T0:Array Value} {n:Nat} {L:Ks} {E:List Bx} {S:Pqs→List Spo} {G:World→Prop} {w0:World} {base:Nat} {p:Pqs} {l:Array Bool} {t:Array Value} {W:World} {i s:Nat} {x:Value} (hs:SymS ops T0 n L E S G w0 base) (hI:SymI ops T0 E S G w0 base p l t W) (hi:i∈Region.ready .any ops l) (hl:l[i]? = some false)
  (hk:∀ p',∀ j off xs,(S p')[i]?≠some (.p j off xs)) (hn:∀ p',∀ s cs t,(S p')[i]?≠some (.n s cs t)) (hc:∀ s f,(S p)[i]?≠some (.c s f)) (hv:∀ p',Agr l p p'→(puts p' 0 (S p'))[i]?.getD none = some (s,x)) :
  SymI ops T0 E S G w0 base p (l.setIfInBounds i true) (t.setIfInBounds s x) W:=by
 refine ⟨fun p' ha=>?_,fun p' ha j bx bo hb hal=>?_,hI.fr,hI.bs,fun k s' cs t' hk' hl'=>?_,fun k s' cs t' k' s'' cs'' t'' h1 h2 h3 h4 h5=>?_,fun k s' f hk' hl'=>?_,hI.gx⟩
 ·have ha':=ha.back hl
  have:=(hI.det p' ha').step (hs.apart p') (hs.within p') hi hl
  rw [hv p' ha'] at this
  exact this
 ·have ha':=ha.back hl
  have hal':∀ k,bo = some k→l[k]? = some true:=fun k hk'=>by
   rcases (set_up hl).1 (hal k hk') with rfl|h
   ·subst hk'
    unfold boxOf at hb
    split at hb
    ·cases he:E[j]? <;> rw [he] at hb <;> simp at hb
    ·split at hb
     ·rename_i hS9
      simp only [Option.some.injEq,Prod.mk.injEq] at hb
      rw [hb.2] at hS9
      exact absurd hS9 (hn p' _ _ _)
     ·cases hb
   ·exact h
  rw [hI.mem p' ha' j bx bo hb hal']
  congr 2
  refine cellsOf_agree _ _ _ (fun k off xs hk'=>?_)
  rw [isUp_set hl,Nat.zero_add]
  have hne:Nat.beq k i = false:=by
   cases hb9:Nat.beq k i with
   | false=>rfl
   | true=>obtain rfl:=Nat.eq_of_beq_eq_true hb9; exact absurd hk' (hk p' _ _ _)
  simp only [hne,Bool.or_false]
 ·rcases (set_up hl).1 hl' with rfl|h
  ·exact absurd hk' (hn p _ _ _)
  ·exact hI.nb k s' cs t' hk' h
 ·have g1:l[k]? = some true:=by
   rcases (set_up hl).1 h3 with rfl|h
   ·exact absurd h1 (hn p _ _ _)
   ·exact h
  have g2:l[k']? = some true:=by
   rcases (set_up hl).1 h4 with rfl|h
   ·exact absurd h2 (hn p _ _ _)
   ·exact h
  exact hI.ne k s' cs t' k' s'' cs'' t'' h1 h2 g1 g2 h5
 ·rcases (set_up hl).1 hl' with rfl|h
  ·exact absurd hk' (hc _ _)
  ·exact hI.fx k s' f hk' h
theorem lds_ok {W:World} {b:Nat} {cs:Array Value} {t:TypeId} (h:W.heap[b]? = some (.cells cs t (0,0))):∀ (vs:List Value) (off:Nat),(cs.toList.drop off).take vs.length = vs→EvsOk 0 (lds b off vs) W∧evs (lds b off vs) W = W
 | [],_,_=>⟨trivial,rfl⟩
 | v :: r,off,e=>by
  have hv:cs.toList[off]? = some v:=by
   have:=congrArg (fun L=>L[0]?) e
   simpa using this
  obtain ⟨hlt,-⟩:=List.getElem?_eq_some_iff.1 hv
  have hr:(cs.toList.drop (off+1)).take r.length = r:=by
   rw [List.drop_eq_getElem_cons hlt,List.length_cons,List.take_succ_cons] at e
   exact (List.cons.inj e).2
  obtain ⟨h1,h2⟩:=lds_ok h r (off+1) hr
  exact ⟨⟨by rw [cell_of_row W b off _ _ _ h]; simpa using hv,h1⟩,h2⟩
theorem noLimb_set {cs:Array Value} {k:Nat} {u:Value} (h:NoLimb cs.toList) (hu:∀ z,u≠.int .u32 z):NoLimb (cs.setIfInBounds k u).toList:=by
 intro v hv z
 rw [Array.toList_setIfInBounds] at hv
 rcases List.mem_or_eq_of_mem_set hv with hv|rfl
 ·exact h v hv z
 ·exact hu z
theorem noLimb_setL:∀ (xs:List Value) (k:Nat) (cs:Array Value),NoLimb cs.toList→NoLimb xs→NoLimb (setL cs k xs).toList
 | [],_,_,h,_=>h
 | x :: r,k,_,h,hx=>noLimb_setL r (k+1) _ (noLimb_set h (fun z=>hx x (List.mem_cons_self ..) z)) (fun v hv=>hx v (List.mem_cons_of_mem _ hv))
theorem setL_size:∀ (xs:List Value) (k:Nat) (cs:Array Value),(setL cs k xs).size = cs.size
 | [],_,_=>rfl
 | _ :: r,_,_=>by rw [setL,setL_size r]; simp
theorem cellsOf_size {f:Nat→Bool} {j:Nat}:∀ (S:List Spo) (i:Nat) (cs:Array Value),(cellsOf f j i S cs).size = cs.size
 | [],_,_=>rfl
 | x :: r,i,cs=>by
  cases x with
  | p j' off xs=>
   simp only [cellsOf]
   rw [cellsOf_size r]
   split
   ·exact setL_size _ _ _
   ·rfl
  | _=>exact cellsOf_size r (i+1) cs
theorem cellsOf_limb {ops:Array Oper} {E:List Bx} {S0:List Spo} {f:Nat→Bool} {j:Nat}:∀ (S:List Spo) (i:Nat) (cs:Array Value),memOk ops E S0 i S = true→NoLimb cs.toList→NoLimb (cellsOf f j i S cs).toList
 | [],_,_,_,h=>h
 | x :: r,i,cs,hm,h=>by
  cases x with
  | p j' off xs=>
   simp only [memOk,Bool.and_eq_true] at hm
   simp only [cellsOf]
   refine cellsOf_limb r (i+1) _ hm.2 ?_
   split
   ·exact noLimb_setL _ _ _ h (noLimb_of _ hm.1.1.2)
   ·exact h
  | v s x=>exact cellsOf_limb r (i+1) cs hm h
  | c s x=>exact cellsOf_limb r (i+1) cs hm h
  | u s x g=>exact cellsOf_limb r (i+1) cs hm h
  | g s x vs es=>exact cellsOf_limb r (i+1) cs hm h
  | k s=>exact cellsOf_limb r (i+1) cs hm h
  | l s x j' off=>simp only [memOk,Bool.and_eq_true] at hm; exact cellsOf_limb r (i+1) cs hm.2 h
  | n s x t=>exact cellsOf_limb r (i+1) cs hm h
theorem sts_ok {w0:World} {b:Nat} {t:TypeId} (ht:t≠25) (hw:w0.heap.size≤b):∀ (xs:List Value) (off:Nat) (cs:Array Value) (W:World),W.heap[b]? = some (.cells cs t (0,0))→off+xs.length≤cs.size→NoLimb cs.toList→NoLimb xs→xs.all (·.oneCell') = true→Below w0.heap.size w0 W →
  EvsOk 0 (sts b off xs) W∧(evs (sts b off xs) W).heap[b]? = some (.cells (setL cs off xs) t (0,0))∧(∀ k,k≠b→(evs (sts b off xs) W).heap[k]? = W.heap[k]?)∧Below w0.heap.size w0 (evs (sts b off xs) W)∧(evs (sts b off xs) W).heap.size = W.heap.size∧(∀ f:World→Prop,Sta f→f W→f (evs (sts b off xs) W))
 | [],_,_,_,h,_,_,_,_,hb=>⟨trivial,h,fun _ _=>rfl,hb,rfl,fun _ _ hf=>hf⟩
 | x :: r,off,cs,W,h,hn,hc,hx,h1,hb=>by
  simp only [List.length_cons] at hn
  simp only [List.all_cons,Bool.and_eq_true] at h1
  have hlt:off < cs.size:=by omega
  have hset:(W.setCell ⟨b,off,none⟩ x).heap[b]? = some (.cells (cs.setIfInBounds off x) t (0,0)):=heap_setCell_same W b off _ _ _ h
  obtain ⟨g1,g2,g3,g4,g5,g6⟩:=sts_ok (w0:=w0) ht hw r (off+1) (cs.setIfInBounds off x) (W.setCell ⟨b,off,none⟩ x) hset (by simp; omega) (noLimb_set hc (fun z=>hx x (List.mem_cons_self ..) z)) (fun v hv=>hx v (List.mem_cons_of_mem _ hv)) h1.2 (hb.setCell hw x)
  refine ⟨⟨⟨cs[off],by rw [cell_of_row W b off _ _ _ h]; simp [hlt]⟩,frozen_of_row W b off _ _ h,h1.1,g1⟩,g2,fun k hk=>?_,g4,?_,fun f hf hW=>?_⟩
  ·rw [show evs (sts b off (x :: r)) W = evs (sts b (off+1) r) (W.setCell ⟨b,off,none⟩ x) from rfl,g3 k hk]
   exact heap_setCell_other W _ k x hk
  ·rw [show evs (sts b off (x :: r)) W = evs (sts b (off+1) r) (W.setCell ⟨b,off,none⟩ x) from rfl,g5]; simp
  ·exact g6 f hf (hf.put W b cs t off x h ht hc hW)
theorem puts_i {S:Pqs→List Spo} {p:Pqs} {i:Nat} {x:Spo} (h:(S p)[i]? = some x):(puts p 0 (S p))[i]?.getD none = x.put p i:=by
 rw [puts_at,h,Nat.zero_add]; rfl
theorem boxOf_cases {E:List Bx} {Z:List Spo} {p:Pqs} {j:Nat} {bx:Bx} {bo:Option Nat} (h:boxOf E Z p j = some (bx,bo)):(Nat.blt j 1000 = true∧E[j]? = some bx∧bo = none)∨(Nat.blt j 1000 = false∧∃ s cs t,Z[j - 1000]? = some (.n s cs t)∧bx = ⟨(p (j - 1000)).N,cs,t % 1000000,true⟩∧bo = some (j - 1000)):=by
 unfold boxOf at h
 split at h
 ·rename_i hb
  refine Or.inl ⟨hb,?_⟩
  cases he:E[j]? with
  | none=>rw [he] at h; simp at h
  | some x=>rw [he] at h; simp at h; exact ⟨by rw [h.1],h.2.symm⟩
 ·rename_i hb
  split at h
  ·rename_i s cs t hS
   simp only [Option.some.injEq,Prod.mk.injEq] at h
   exact Or.inr ⟨hb,s,cs,t,hS,h.1.symm,h.2.symm⟩
  ·cases h
theorem noPut_no {j:Nat}:∀ (L:List Spo),noPutB j L = true→∀ (k off:Nat) (xs:List Value),L[k]?≠some (.p j off xs):=by
 intro L
 induction L with
 | nil=>intro _ k off xs h; simp at h
 | cons y r ih=>
  intro hL k off xs h
  cases k with
  | zero=>
   simp only [List.getElem?_cons_zero,Option.some.injEq] at h
   subst h
   simp [noPutB] at hL
  | succ k=>
   have hr:noPutB j r = true:=by
    cases y <;> simp_all [noPutB]
   exact ih hr k off xs (by simpa using h)
theorem SymI.boxes {ops:Array Oper} {T0:Array Value} {E:List Bx} {S:Pqs→List Spo} {G:World→Prop} {w0:World} {base:Nat} {p:Pqs} {l:Array Bool} {t:Array Value} {W:World} (hI:SymI ops T0 E S G w0 base p l t W):BoxesAt E (S p) W:=fun j x hj hnpj hj1=>by
 have hb:boxOf E (S p) p j = some (x,none):=by unfold boxOf; rw [hj1,hj]; rfl
 have:=hI.mem p (Agr.refl l p) j x none hb (fun k hk=>by cases hk)
 rw [this,cellsOf_none]
 intro k off xs hk
 exfalso
 have:∀ (L:List Spo),noPutB j L = true→∀ (k:Nat) off xs,L[k]?≠some (.p j off xs):=by
  intro L
  induction L with
  | nil=>intro _ k off xs h; simp at h
  | cons y r ih=>
   intro hL k off xs h
   cases k with
   | zero=>
    simp only [List.getElem?_cons_zero,Option.some.injEq] at h
    subst h
    simp [noPutB] at hL
   | succ k=>
    have hr:noPutB j r = true:=by
     cases y <;> first|exact hL|(simp only [noPutB,Bool.and_eq_true] at hL; exact hL.2)
    exact ih hr k off xs (by simpa using h)
 exact this _ hnpj k off xs hk
theorem SymI.facts {ops:Array Oper} {T0:Array Value} {E:List Bx} {S:Pqs→List Spo} {G:World→Prop} {w0:World} {base:Nat} {p:Pqs} {l:Array Bool} {t:Array Value} {W:World} {i:Nat} (hI:SymI ops T0 E S G w0 base p l t W) (hi:i∈Region.ready .any ops l):FactsAt ops (S p) p i W:=fun k hre=>by
 unfold factOf
 split
 ·rename_i s' cf hk
  exact hI.fx k s' cf hk (reach_ready (hI.det p (Agr.refl l p)) hre hi)
 ·rename_i s' cs ty hk
  intro hnp
  have hb:boxOf E (S p) p (1000+k) = some (⟨(p k).N,cs,ty % 1000000,true⟩,some k):=by
   unfold boxOf
   rw [show Nat.blt (1000+k) 1000 = false from by cases h:Nat.blt (1000+k) 1000 with
    | false=>rfl
    | true=>rw [Nat.blt_eq] at h; omega]
   simp [hk]
  have h1:=hI.mem p (Agr.refl l p) (1000+k) _ (some k) hb (fun k' e=>by cases e; exact reach_ready (hI.det p (Agr.refl l p)) hre hi)
  rw [cellsOf_none] at h1
  ·exact h1
  intro k' off xs hk'
  exact absurd hk' (noPut_no _ hnp _ _ _)
 ·trivial
theorem SymI.step {P:Program} {ops:Array Oper} {Q:Exit→Act→World→Prop} {T0:Array Value} {n:Nat} {L:Ks} {E:List Bx} {S:Pqs→List Spo} {G:World→Prop} {w0:World} {base:Nat} {p:Pqs} {l:Array Bool} {t:Array Value} {W:World} {i:Nat} (hs:SymS ops T0 n L E S G w0 base) (hok:∀ p,Oks P ops L E (S p) G w0 base p 0 (S p)) (hI:SymI ops T0 E S G w0 base p l t W) (hi:i∈Region.ready .any ops l) (hl:l[i]? = some false) :
  wpOp P ops Q i (fun a W'=>∃ p' t',a = ⟨t',[]⟩∧SymI ops T0 E S G w0 base p' (l.setIfInBounds i true) t' W') ⟨t,[]⟩ W:=by
 have hD:=hI.det p (Agr.refl l p)
 have hil:i < ops.size:=by rw [← hD.len]; exact (Array.getElem?_eq_some_iff.1 hl).1
 obtain ⟨sp,hsp⟩:∃ sp,(S p)[i]? = some sp:=⟨(S p)[i]'(by rw [hs.len]; exact hil),List.getElem?_eq_getElem _⟩
 have hokp:∀ p' x,(S p')[i]? = some x→OkAt P ops L E (S p') G w0 base p' i x:=fun p' x hx=>by
  have:=Oks.at (S p') 0 i x (hok p') hx
  rw [Nat.zero_add] at this; exact this
 have hat:=fun p' (ha:Agr l p p') {r:Nat} {vs:List Value} {d:Option Nat} {b:Bool} {x:Option (Next×List Ev)} (h:opRun P ops L (puts p' 0 (S p')) i r vs = some (d,b,x))=>opRun_at hs.kn (hI.det p' ha) (hs.apart p') (hs.reads p') hi hl h
 cases sp with
 | v s x=>
  have h0:=hokp p _ hsp
  obtain ⟨o,ho,hd,hw,hr⟩:=hat p (Agr.refl l p) h0
  have hrun:=script_run P 0 _ _ _ _ W hr trivial
  refine wpOp_run ho hw hrun ?_
  show ∃ p' t',_
  rw [hd]
  refine ⟨p,_,rfl,hI.step_val hs hi hl (fun p' j off xs h=>?_) (fun p' s' cs t' h=>?_) ?_ (fun p' ha=>?_)⟩
  ·obtain ⟨x',hx'⟩:=hs.at_v p' hsp; rw [h] at hx'; cases hx'
  ·obtain ⟨x',hx'⟩:=hs.at_v p' hsp; rw [h] at hx'; cases hx'
  ·intro s f h; rw [hsp] at h; cases h
  ·obtain ⟨x',hx'⟩:=hs.at_v p' hsp
   rw [puts_i hx']
   obtain ⟨o',ho',-,-,hr'⟩:=hat p' ha (hokp p' _ hx')
   rw [ho] at ho'; cases ho'
   have hrun':=script_run P 0 _ _ _ _ W hr' trivial
   rw [hrun] at hrun'
   cases hrun'; rfl
 | l s x j off=>
  have hrn:∀ p',Agr l p p'→∀ x',(S p')[i]? = some (.l s x' j off)→∃ o,ops[i]? = some o∧o.dst = some s∧Region.wanted o (yielded ops t) = true∧(execOp (Act.eval ⟨t,[]⟩) o).run P W = .ok (.value x') W:=fun p' ha x' hx'=>by
   obtain ⟨bx,bo,hb,h0,he⟩:=hokp p' _ hx'
   obtain ⟨o,ho,hd,hw,hr⟩:=hat p' ha h0
   obtain ⟨rr,hm⟩:=hs.mem_at p' hx'
   simp only [memOk,Bool.and_eq_true,Bool.or_eq_true] at hm
   obtain ⟨c1,c2,-⟩:=hI.cells hi hl ha hb hm.1.1 hm.1.2
   rw [← c2,← Array.length_toList] at he
   obtain ⟨g1,g2⟩:=lds_ok c1 _ _ he
   have hrun:=script_run P 0 _ _ _ _ W hr g1
   rw [g2] at hrun
   exact ⟨o,ho,hd,hw,hrun⟩
  obtain ⟨o,ho,hd,hw,hrun⟩:=hrn p (Agr.refl l p) x hsp
  refine wpOp_run ho hw hrun ?_
  show ∃ p' t',_
  rw [hd]
  refine ⟨p,_,rfl,hI.step_val hs hi hl (fun p' j off xs h=>?_) (fun p' s' cs t' h=>?_) ?_ (fun p' ha=>?_)⟩
  ·obtain ⟨x',hx'⟩:=hs.at_l p' hsp; rw [h] at hx'; cases hx'
  ·obtain ⟨x',hx'⟩:=hs.at_l p' hsp; rw [h] at hx'; cases hx'
  ·intro s f h; rw [hsp] at h; cases h
  ·obtain ⟨x',hx'⟩:=hs.at_l p' hsp
   rw [puts_i hx']
   obtain ⟨o',ho',-,-,hrun'⟩:=hrn p' ha x' hx'
   rw [ho] at ho'; cases ho'
   rw [hrun] at hrun'
   cases hrun'; rfl
 | g s x vs es=>
  have hrn:∀ p',Agr l p p'→SymI ops T0 E S G w0 base p' l t W→∀ x' vs' es',(S p')[i]? = some (.g s x' vs' es')→∃ o,ops[i]? = some o∧o.dst = some s∧Region.wanted o (yielded ops t) = true∧(execOp (Act.eval ⟨t,[]⟩) o).run P W = .ok (.value x') W:=fun p' ha hI' x' vs' es' hx'=>by
   obtain ⟨h0,he⟩:=hokp p' _ hx'
   obtain ⟨o,ho,hd,hw,hr⟩:=hat p' ha h0
   obtain ⟨g1,g2⟩:=he W ⟨hI'.bs,hI'.fr,hI'.facts hi,hI'.gx,hI'.boxes⟩
   have hrun:=script_run P 0 _ _ _ _ W hr g1
   rw [g2] at hrun
   exact ⟨o,ho,hd,hw,hrun⟩
  have hto:∀ p',Agr l p p'→SymI ops T0 E S G w0 base p' l t W:=fun p' ha=>
   ⟨fun p'' h=>hI.det p'' (fun k hk=>(h k hk).trans (ha k hk)),fun p'' h=>hI.mem p'' (fun k hk=>(h k hk).trans (ha k hk)),hI.fr,hI.bs,fun k s' cs t' hk hl'=>by rw [ha k hl']; exact hI.nb k s' cs t' (hs.at_n p hk) hl',fun k s' cs t' k' s'' cs'' t'' h1 h2 h3 h4 h5=>by rw [ha k h3,ha k' h4]; exact hI.ne k s' cs t' k' s'' cs'' t'' (hs.at_n p h1) (hs.at_n p h2) h3 h4 h5,fun k s' f hk hl'=>by rw [ha k hl']; exact hI.fx k s' f (hs.at_c p hk) hl',hI.gx⟩
  obtain ⟨o,ho,hd,hw,hrun⟩:=hrn p (Agr.refl l p) hI x vs es hsp
  refine wpOp_run ho hw hrun ?_
  show ∃ p' t',_
  rw [hd]
  refine ⟨p,_,rfl,hI.step_val hs hi hl (fun p' j off xs h=>?_) (fun p' s' cs t' h=>?_) ?_ (fun p' ha=>?_)⟩
  ·obtain ⟨x',vs',es',hx'⟩:=hs.at_g p' hsp; rw [h] at hx'; cases hx'
  ·obtain ⟨x',vs',es',hx'⟩:=hs.at_g p' hsp; rw [h] at hx'; cases hx'
  ·intro s f h; rw [hsp] at h; cases h
  ·obtain ⟨x',vs',es',hx'⟩:=hs.at_g p' hsp
   rw [puts_i hx']
   obtain ⟨o',ho',-,-,hrun'⟩:=hrn p' ha (hto p' ha) x' vs' es' hx'
   rw [ho] at ho'; cases ho'
   rw [hrun] at hrun'
   cases hrun'; rfl
 | k s=>
  obtain ⟨x,h0⟩:=hokp p _ hsp
  obtain ⟨o,ho,hd,hw,hr⟩:=hat p (Agr.refl l p) h0
  have hnp:∀ p' j off xs,(S p')[i]?≠some (.p j off xs):=fun p' j off xs h=>by have:=hs.at_k p' hsp; rw [h] at this; cases this
  have hnn:∀ p' s' cs t',(S p')[i]?≠some (.n s' cs t'):=fun p' s' cs t' h=>by have:=hs.at_k p' hsp; rw [h] at this; cases this
  have hc:∀ s f,(S p)[i]?≠some (.c s f):=fun s f h=>by rw [hsp] at h; cases h
  unfold wpOp
  rw [ho]
  simp only [hw,Bool.false_eq_true,if_false]
  rw [hd]
  cases s with
  | some s=>
   exact ⟨p,_,rfl,hI.step_val hs hi hl hnp hnn hc (fun p' ha=>by rw [puts_i (hs.at_k p' hsp)]; rfl)⟩
  | none=>
   refine ⟨p,t,rfl,?_⟩
   refine ⟨fun p' ha=>?_,fun p' ha j bx bo hb hal=>?_,hI.fr,hI.bs,fun k s' cs t' hk' hl'=>?_,fun k s' cs t' k' s'' cs'' t'' h1 h2 h3 h4 h5=>?_,fun k s' f hk' hl'=>?_,hI.gx⟩
   ·have ha':=ha.back hl
    have:=(hI.det p' ha').step (hs.apart p') (hs.within p') hi hl
    rw [puts_i (hs.at_k p' hsp)] at this
    exact this
   ·have ha':=ha.back hl
    have hal':∀ k,bo = some k→l[k]? = some true:=fun k hk'=>by
     rcases (set_up hl).1 (hal k hk') with rfl|h
     ·rcases boxOf_cases hb with ⟨-,-,h⟩|⟨-,s',cs,t',h,-,h2⟩
      ·rw [h] at hk'; cases hk'
      ·rw [h2] at hk'; have hk':=Option.some.inj hk'; rw [hk'] at h; exact absurd h (hnn p' _ _ _)
     ·exact h
    rw [hI.mem p' ha' j bx bo hb hal']
    congr 2
    refine cellsOf_agree _ _ _ (fun k off xs hk'=>?_)
    rw [isUp_set hl,Nat.zero_add]
    have hne:Nat.beq k i = false:=by
     cases hb9:Nat.beq k i with
     | false=>rfl
     | true=>obtain rfl:=Nat.eq_of_beq_eq_true hb9; exact absurd hk' (hnp p' _ _ _)
    simp only [hne,Bool.or_false]
   ·rcases (set_up hl).1 hl' with rfl|h
    ·exact absurd hk' (hnn p _ _ _)
    ·exact hI.nb k s' cs t' hk' h
   ·have g1:l[k]? = some true:=by
     rcases (set_up hl).1 h3 with rfl|h
     ·exact absurd h1 (hnn p _ _ _)
     ·exact h
    have g2:l[k']? = some true:=by
     rcases (set_up hl).1 h4 with rfl|h
     ·exact absurd h2 (hnn p _ _ _)
     ·exact h
    exact hI.ne k s' cs t' k' s'' cs'' t'' h1 h2 g1 g2 h5
   ·rcases (set_up hl).1 hl' with rfl|h
    ·exact absurd hk' (hc _ _)
    ·exact hI.fx k s' f hk' h
 | p j off xs=>
  have hc:∀ s f,(S p)[i]?≠some (.c s f):=fun s f h=>by rw [hsp] at h; cases h
  have hnn:∀ p' s' cs t',(S p')[i]?≠some (.n s' cs t'):=fun p' s' cs t' h=>by obtain ⟨x',this⟩:=hs.at_p p' hsp; rw [h] at this; cases this
  have hrn:∀ p',Agr l p p'→∀ xs',(S p')[i]? = some (.p j off xs')→∃ o bx bo W',ops[i]? = some o∧o.dst = none∧Region.wanted o (yielded ops t) = true∧(execOp (Act.eval ⟨t,[]⟩) o).run P W = .ok .skip W'∧boxOf E (S p') p' j = some (bx,bo)∧(∀ k,bo = some k→l[k]? = some true)∧bx.my = true∧W'.heap[bx.b]? = some (.cells (setL (cellsOf (isUp l) j 0 (S p') bx.cs) off xs') bx.t (0,0))∧(∀ k,k≠bx.b→W'.heap[k]? = W.heap[k]?)∧Below w0.heap.size w0 W'∧W'.heap.size = W.heap.size∧(∀ f:World→Prop,Sta f→f W→f W'):=fun p' ha xs' hx'=>by
   obtain ⟨bx,bo,hb,h0,he⟩:=hokp p' _ hx'
   obtain ⟨o,ho,hd,hw,hr⟩:=hat p' ha h0
   obtain ⟨rr,hm⟩:=hs.mem_at p' hx'
   have hm0:=hm
   simp only [memOk,Bool.and_eq_true] at hm
   have hmy:bx.my = true∧w0.heap.size≤bx.b∧(NoLimb bx.cs.toList∧bx.t≠25)∧(Nat.blt j 1000 = true∨reach ops 4 i (j - 1000) = true):=by
    have h2:=hm.1.1.1.2
    rcases boxOf_cases hb with ⟨hj,hE,-⟩|⟨hj,s',cs,t',hS,rfl,rfl⟩
    ·rw [hj,hE] at h2
     have h3:=List.all_eq_true.1 hs.eb bx (List.mem_of_getElem? hE)
     simp only at h2
     rw [h2] at h3
     simp only [Bool.not_true,Bool.false_or,Bool.and_eq_true,bne_iff_ne] at h3
     exact ⟨h2,hs.low bx (List.mem_of_getElem? hE) h2,⟨noLimb_of _ h3.1,h3.2⟩,Or.inl hj⟩
    ·rw [hj] at h2
     simp only [hS,Bool.and_eq_true,bne_iff_ne] at h2
     have hdn:=reach_ready (hI.det p' ha) h2.1 hi
     have hSp:(S p)[j - 1000]? = some (.n s' cs t'):=hs.at_n p hS
     have hN:=ha _ hdn
     refine ⟨rfl,?_,⟨noLimb_of _ h2.2.1,h2.2.2⟩,Or.inr h2.1⟩
     show w0.heap.size≤(p' (j - 1000)).N
     rw [hN]
     exact Nat.le_trans hs.w0b (hI.nb _ _ _ _ hSp hdn)
   obtain ⟨hmy,hlow,⟨hlim,hty⟩,hre⟩:=hmy
   obtain ⟨c1,c2,c3⟩:=hI.cells hi hl ha hb hm.1.1.1.1 hre
   obtain ⟨g1,g2,g3,g4,g5,g6⟩:=sts_ok (w0:=w0) hty hlow xs' off _ W c1 (by rw [cellsOf_size]; exact Nat.le_of_ble_eq_true he) (cellsOf_limb _ _ _ (hs.mem p') hlim) (noLimb_of _ hm.1.1.2) hm.1.2 hI.fr
   exact ⟨o,bx,bo,_,ho,hd,hw,script_run P 0 _ _ _ _ W hr g1,hb,c3,hmy,g2,g3,g4,g5,g6⟩
  obtain ⟨o,bx,bo,W',ho,hd,hw,hrun,hb,hbo,hmy,k2,k3,k4,k5,k6⟩:=hrn p (Agr.refl l p) xs hsp
  refine wpOp_run ho hw hrun ?_
  show ∃ p' t',_
  rw [hd]
  refine ⟨p,t,rfl,?_⟩
  refine ⟨fun p' ha=>?_,fun p' ha j2 bx2 bo2 hb2 hal=>?_,k4,by rw [k5]; exact hI.bs,fun k s' cs t' hk' hl'=>?_,fun k s' cs t' k' s'' cs'' t'' h1 h2 h3 h4 h5=>?_,fun k s' f hk' hl'=>?_,k6 _ hs.sta hI.gx⟩
  ·have ha':=ha.back hl
   obtain ⟨xs',hx'⟩:=hs.at_p p' hsp
   have:=(hI.det p' ha').step (hs.apart p') (hs.within p') hi hl
   rw [puts_i hx'] at this
   exact this
  ·have ha':=ha.back hl
   obtain ⟨xs',hx'⟩:=hs.at_p p' hsp
   obtain ⟨o',bx',bo',W'',ho',-,-,hrun',hb',hbo',hmy',e2,e3,-,-,-⟩:=hrn p' ha' xs' hx'
   rw [ho] at ho'; cases ho'
   rw [hrun] at hrun'
   cases hrun'
   have hal':∀ k,bo2 = some k→l[k]? = some true:=fun k hk'=>by
    rcases (set_up hl).1 (hal k hk') with rfl|h
    ·rcases boxOf_cases hb2 with ⟨-,-,h⟩|⟨-,s',cs,t',h,-,h2⟩
     ·rw [h] at hk'; cases hk'
     ·rw [h2] at hk'; have hk':=Option.some.inj hk'; rw [hk'] at h; exact absurd h (hnn p' _ _ _)
    ·exact h
   rw [isUp_set hl]
   by_cases hj:j2 = j
   ·subst hj
    rw [hb'] at hb2
    cases hb2
    have hmm:=hs.mem_at p' hx'
    obtain ⟨rr,hm⟩:=hmm
    simp only [memOk,Bool.and_eq_true] at hm
    have:=cellsOf_put (f:=isUp l) (S p') 0 i off xs' bx2.cs hx' (by rw [Nat.zero_add]; exact isUp_no (by rw [hl]; simp)) (fun k' off' xs'' hk' hlt=>by
     have ht:=touchOk_at (S p') 0 k' off' xs'' hm.1.1.1.1 hk'
     rw [Nat.zero_add] at ht ⊢
     refine isUp_no (fun hup=>?_)
     rcases ht with h|h|h
     ·omega
     ·omega
     ·have:=reach_done (hI.det p' ha') _ _ _ h.2 hup; rw [hl] at this; cases this)
    rw [Nat.zero_add] at this
    rw [this]; exact e2
   ·have hne:bx2.b≠bx'.b:=by
     rcases boxOf_cases hb2 with ⟨q1,q2,q3⟩|⟨q1,s1,cs1,t1,q2,q3,q4⟩
     ·rcases boxOf_cases hb' with ⟨r1,r2,r3⟩|⟨r1,s2,cs2,t2,r2,r3,r4⟩
      ·exact Ne.symm (hs.ne j j2 bx' bx2 r2 q2 hmy' (Ne.symm hj))
      ·have h1:=hs.lt bx2 (List.mem_of_getElem? q2)
       have hdn:=hbo' _ r4
       have h2:=hI.nb _ _ _ _ (hs.at_n p r2) hdn
       rw [r3]
       show bx2.b≠(p' (j - 1000)).N
       rw [ha' _ hdn]; omega
     ·have hdn1:=hal' _ q4
      rcases boxOf_cases hb' with ⟨r1,r2,r3⟩|⟨r1,s2,cs2,t2,r2,r3,r4⟩
      ·have h1:=hs.lt bx' (List.mem_of_getElem? r2)
       have h2:=hI.nb _ _ _ _ (hs.at_n p q2) hdn1
       rw [q3]
       show (p' (j2 - 1000)).N≠bx'.b
       rw [ha' _ hdn1]; omega
      ·have hdn2:=hbo' _ r4
       rw [q3,r3]
       show (p' (j2 - 1000)).N≠(p' (j - 1000)).N
       rw [ha' _ hdn1,ha' _ hdn2]
       refine hI.ne _ _ _ _ _ _ _ _ (hs.at_n p q2) (hs.at_n p r2) hdn1 hdn2 (fun e=>hj ?_)
       have a1:¬ j < 1000:=fun hc=>by rw [show Nat.blt j 1000 = true from by rw [Nat.blt_eq]; exact hc] at r1; cases r1
       have a2:¬ j2 < 1000:=fun hc=>by rw [show Nat.blt j2 1000 = true from by rw [Nat.blt_eq]; exact hc] at q1; cases q1
       omega
    rw [e3 _ hne,hI.mem p' ha' j2 bx2 bo2 hb2 hal']
    congr 2
    refine cellsOf_agree _ _ _ (fun k off' xs'' hk'=>?_)
    rw [Nat.zero_add]
    have hki:Nat.beq k i = false:=by
     cases hb9:Nat.beq k i with
     | false=>rfl
     | true=>
      obtain rfl:=Nat.eq_of_beq_eq_true hb9
      rw [hx'] at hk'
      cases hk'
      exact absurd rfl hj
    simp only [hki,Bool.or_false]
  ·rcases (set_up hl).1 hl' with rfl|h
   ·exact absurd hk' (hnn p _ _ _)
   ·exact hI.nb k s' cs t' hk' h
  ·have g1:l[k]? = some true:=by
    rcases (set_up hl).1 h3 with rfl|h
    ·exact absurd h1 (hnn p _ _ _)
    ·exact h
   have g2:l[k']? = some true:=by
    rcases (set_up hl).1 h4 with rfl|h
    ·exact absurd h2 (hnn p _ _ _)
    ·exact h
   exact hI.ne k s' cs t' k' s'' cs'' t'' h1 h2 g1 g2 h5
  ·rcases (set_up hl).1 hl' with rfl|h
   ·exact absurd hk' (hc _ _)
   ·exact k6 _ (f.st _) (hI.fx k s' f hk' h)
 | n s cs t0=>
  have hc:∀ s f,(S p)[i]?≠some (.c s f):=fun s f h=>by rw [hsp] at h; cases h
  have h0:=hokp p _ hsp W.heap.size
  obtain ⟨o,ho,hd,hw,hr⟩:=hat p (Agr.refl l p) h0
  have hrun:=script_run P W.heap.size _ _ _ _ W hr ⟨rfl,trivial⟩
  refine wpOp_run ho hw hrun ?_
  show ∃ p' t',_
  rw [hd]
  have hbl:=gr_alloc W (.cells cs (t0 % 1000000))
  refine ⟨p.set i { pq0 with N:=W.heap.size },_,rfl,?_⟩
  refine ⟨fun p' ha=>?_,fun p' ha j bx bo hb hal=>?_,gr_trans hI.fr hbl,Nat.le_trans hI.bs hbl.size,fun k s' cs' t' hk' hl'=>?_,fun k s' cs' t' k' s'' cs'' t'' h1 h2 h3 h4 h5=>?_,fun k s' f' hk' hl'=>?_,hs.sta.kept W _ hbl hI.gx⟩
  ·obtain ⟨ha',hq⟩:=ha.backS hl
   have:=(hI.det p' ha').step (hs.apart p') (hs.within p') hi hl
   rw [puts_i (hs.at_n p' hsp)] at this
   simp only [Spo.put,hq] at this
   exact this
  ·obtain ⟨ha',hq⟩:=ha.backS hl
   have hnp:∀ j off xs,(S p')[i]?≠some (.p j off xs):=fun j off xs h=>by have:=hs.at_n p' hsp; rw [h] at this; cases this
   have hcell:∀ cs',cellsOf (isUp (l.setIfInBounds i true)) j 0 (S p') cs' = cellsOf (isUp l) j 0 (S p') cs':=fun cs'=>by
    refine cellsOf_agree _ _ _ (fun k off xs hk'=>?_)
    rw [isUp_set hl,Nat.zero_add]
    have hne:Nat.beq k i = false:=by
     cases hb9:Nat.beq k i with
     | false=>rfl
     | true=>obtain rfl:=Nat.eq_of_beq_eq_true hb9; exact absurd hk' (hnp _ _ _)
    simp only [hne,Bool.or_false]
   by_cases hbi:bo = some i
   ·rcases boxOf_cases hb with ⟨q1,q2,q3⟩|⟨q1,s1,cs1,t1,q2,q3,q4⟩
    ·rw [q3] at hbi; cases hbi
    ·rw [q4] at hbi
     have hji:=Option.some.inj hbi
     rw [hji,hs.at_n p' hsp] at q2
     cases q2
     rw [q3,hji,hq,hcell,cellsOf_none]
     ·exact heap_alloc_new W _
     ·intro k off xs hk'
      rw [Nat.zero_add]
      obtain ⟨rr,hm⟩:=hs.mem_at p' hk'
      simp only [memOk,Bool.and_eq_true,q1,hji] at hm
      exact isUp_no (fun hup=>by have:=reach_done (hI.det p' ha') _ _ _ hm.1.1.1.2.1 hup; rw [hl] at this; cases this)
   ·have hal':∀ k,bo = some k→l[k]? = some true:=fun k hk'=>by
     rcases (set_up hl).1 (hal k hk') with rfl|h
     ·exact absurd hk' hbi
     ·exact h
    have:=hI.mem p' ha' j bx bo hb hal'
    show (W.alloc _).heap[bx.b]? = _
    rw [hcell,hbl.block _ (block_lt this)]; exact this
  ·rcases (set_up hl).1 hl' with rfl|h
   ·simp only [Pqs.set,if_true]; exact hI.bs
   ·have hne:k≠i:=by rintro rfl; rw [hl] at h; cases h
    simp only [Pqs.set,hne,if_false]
    exact hI.nb k s' cs' t' (hs.at_n p hk') h
  ·have hlt:∀ k s cs t,(S p)[k]? = some (.n s cs t)→l[k]? = some true→(p k).N < W.heap.size:=fun k s cs t hk hlk=>by
    have hb:boxOf E (S p) p (k+1000) = some (⟨(p k).N,cs,t % 1000000,true⟩,some k):=by
     unfold boxOf
     have:Nat.blt (k+1000) 1000 = false:=by
      cases hb9:Nat.blt (k+1000) 1000 with
      | false=>rfl
      | true=>rw [Nat.blt_eq] at hb9; omega
     rw [this,show k+1000 - 1000 = k from by omega,hk]
    exact block_lt (hI.mem p (Agr.refl l p) _ _ _ hb (fun k' hk'=>by rw [← Option.some.inj hk']; exact hlk))
   rcases (set_up hl).1 h3 with rfl|g1
   ·rcases (set_up hl).1 h4 with rfl|g2
    ·exact absurd rfl h5
    ·have:=hlt k' _ _ _ (hs.at_n p h2) g2
     have hne:k'≠k:=Ne.symm h5
     simp only [Pqs.set,hne,if_true,if_false]; omega
   ·have hne:k≠i:=by rintro rfl; rw [hl] at g1; cases g1
    rcases (set_up hl).1 h4 with rfl|g2
    ·have:=hlt k _ _ _ (hs.at_n p h1) g1
     simp only [Pqs.set,hne,if_true,if_false]; omega
    ·have hne':k'≠i:=by rintro rfl; rw [hl] at g2; cases g2
     simp only [Pqs.set,hne,hne',if_false]
     exact hI.ne k s' cs' t' k' s'' cs'' t'' (hs.at_n p h1) (hs.at_n p h2) g1 g2 h5
  ·rcases (set_up hl).1 hl' with rfl|h
   ·exact absurd (hs.at_c p hk') (hc _ _)
   ·have hne:k≠i:=by rintro rfl; rw [hl] at h; cases h
    simp only [Pqs.set,hne,if_false]
    exact (f'.st _).kept W _ hbl (hI.fx k s' f' (hs.at_c p hk') h)
 | u s x g=>
  obtain ⟨fn,args,h0,hx,hcall⟩:=hokp p _ hsp
  obtain ⟨o,ho,hd,hw,hr⟩:=hat p (Agr.refl l p) h0
  have hrun:=script_run P 0 _ _ _ _ W hr trivial
  refine wpOp_run ho hw hrun ?_
  show Calls P fn args W _
  refine (hcall W ⟨hI.bs,hI.fr,hI.facts hi,hI.gx,hI.boxes⟩).mono ?_
  rintro en W' ⟨rfl,hbl⟩
  show ∃ p' t',_
  rw [hd]
  refine ⟨p,_,rfl,(hI.kept hs hbl).step_val hs hi hl (fun p' j off xs h=>?_) (fun p' s' cs t' h=>?_) ?_ (fun p' ha=>?_)⟩
  ·obtain ⟨x',hx'⟩:=hs.at_u p' hsp; rw [h] at hx'; cases hx'
  ·obtain ⟨x',hx'⟩:=hs.at_u p' hsp; rw [h] at hx'; cases hx'
  ·intro s f h; rw [hsp] at h; cases h
  ·obtain ⟨x',hx'⟩:=hs.at_u p' hsp
   rw [puts_i hx']
   obtain ⟨fn',args',h0',hxx,-⟩:=hokp p' _ hx'
   obtain ⟨o',ho',-,-,hr'⟩:=hat p' ha h0'
   rw [ho] at ho'; cases ho'
   rw [hr] at hr'
   cases hr'
   rw [hx] at hxx
   subst hxx; rfl
 | c s f=>
  obtain ⟨fn,args,h0,hcall⟩:=hokp p _ hsp
  obtain ⟨o,ho,hd,hw,hr⟩:=hat p (Agr.refl l p) h0
  have hrun:=script_run P 0 _ _ _ _ W hr trivial
  refine wpOp_run ho hw hrun ?_
  have hnp:∀ p' j off xs,(S p')[i]?≠some (.p j off xs):=fun p' j off xs h=>by have:=hs.at_c p' hsp; rw [h] at this; cases this
  have hnn:∀ p' s' cs t',(S p')[i]?≠some (.n s' cs t'):=fun p' s' cs t' h=>by have:=hs.at_c p' hsp; rw [h] at this; cases this
  show Calls P fn args W _
  refine (hcall W ⟨hI.bs,hI.fr,hI.facts hi,hI.gx,hI.boxes⟩).mono ?_
  rintro en W' ⟨q,rfl,hbl,hfq⟩
  show ∃ p' t',_
  rw [hd]
  refine ⟨p.set i q,putD (s.map fun s=>(s,f.f q)) t,by cases s <;> rfl,?_⟩
  refine ⟨fun p' ha=>?_,fun p' ha j bx bo hb hal=>?_,gr_trans hI.fr hbl,Nat.le_trans hI.bs hbl.size,fun k s' cs' t' hk' hl'=>?_,fun k s' cs' t' k' s'' cs'' t'' h1 h2 h3 h4 h5=>?_,fun k s' f' hk' hl'=>?_,hs.sta.kept W _ hbl hI.gx⟩
  ·obtain ⟨ha',hq⟩:=ha.backS hl
   have:=(hI.det p' ha').step (hs.apart p') (hs.within p') hi hl
   rw [puts_i (hs.at_c p' hsp)] at this
   simp only [Spo.put,hq] at this
   exact this
  ·obtain ⟨ha',hq⟩:=ha.backS hl
   have hal':∀ k,bo = some k→l[k]? = some true:=fun k hk'=>by
    rcases (set_up hl).1 (hal k hk') with rfl|h
    ·rcases boxOf_cases hb with ⟨-,-,h⟩|⟨-,s',cs,t',h,-,h2⟩
     ·rw [h] at hk'; cases hk'
     ·rw [h2] at hk'; have hk':=Option.some.inj hk'; rw [hk'] at h; exact absurd h (hnn p' _ _ _)
    ·exact h
   have:=hI.mem p' ha' j bx bo hb hal'
   rw [hbl.block _ (block_lt this),this]
   congr 2
   refine cellsOf_agree _ _ _ (fun k off xs hk'=>?_)
   rw [isUp_set hl,Nat.zero_add]
   have hne:Nat.beq k i = false:=by
    cases hb9:Nat.beq k i with
    | false=>rfl
    | true=>obtain rfl:=Nat.eq_of_beq_eq_true hb9; exact absurd hk' (hnp p' _ _ _)
   simp only [hne,Bool.or_false]
  ·rcases (set_up hl).1 hl' with rfl|h
   ·exact absurd hk' (hnn _ _ _ _)
   ·have hne:k≠i:=by rintro rfl; rw [hl] at h; cases h
    simp only [Pqs.set,hne,if_false]
    exact hI.nb k s' cs' t' (hs.at_n p hk') h
  ·have g1:l[k]? = some true:=by
    rcases (set_up hl).1 h3 with rfl|h
    ·exact absurd h1 (hnn _ _ _ _)
    ·exact h
   have g2:l[k']? = some true:=by
    rcases (set_up hl).1 h4 with rfl|h
    ·exact absurd h2 (hnn _ _ _ _)
    ·exact h
   have hne:k≠i:=by rintro rfl; rw [hl] at g1; cases g1
   have hne':k'≠i:=by rintro rfl; rw [hl] at g2; cases g2
   simp only [Pqs.set,hne,hne',if_false]
   exact hI.ne k s' cs' t' k' s'' cs'' t'' (hs.at_n p h1) (hs.at_n p h2) g1 g2 h5
  ·rcases (set_up hl).1 hl' with rfl|h
   ·rw [hs.at_c (p.set k q) hsp] at hk'
    cases hk'
    simp only [Pqs.set,if_true]; exact hfq
   ·have hne:k≠i:=by rintro rfl; rw [hl] at h; cases h
    simp only [Pqs.set,hne,if_false]
    exact (f'.st _).kept W _ hbl (hI.fx k s' f' (hs.at_c p hk') h)
end Go.Proofs.YtcfccblpcngeaaaGreat
