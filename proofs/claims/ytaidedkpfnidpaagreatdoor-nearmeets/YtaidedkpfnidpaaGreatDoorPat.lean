/- Of what NearMeetsRow stands on: Sym Sym2 Sym3 Sym4 Sym5 Sym6 ExRatS SymW. -/
import Derived.Test.YtaidedkpfnidpaaGreatDoorPab
import Derived.Test.YtaidedkpfnidpaaGreatDoorPaq
import Derived.LoopN
import Derived.Test.YtaidedkpfnidpaaGreatDoorPad
namespace Go.Proofs.YtaidedkpfnidpaaGreatDoor
open Go.RowKit
set_option maxHeartbeats 2000000
set_option maxRecDepth 20000
inductive Ev where
 | ld (a:Addr) (v:Value)
 | st (a:Addr) (v:Value)
 | nw (o:Obj)
def script {α:Type} (P:Program) (r:Nat):Sem α→List Value→Option (α×List Ev)
 | .pure a,[]=>some (a,[])
 | .load _ a k,v :: vs=>match script P r (k v) vs with
  | some (x,es)=>some (x,.ld a v :: es)
  | none=>none
 | .store _ a v k,vs=>match script P r k vs with
  | some (x,es)=>some (x,.st a v :: es)
  | none=>none
 | .new o k,vs=>match script P r (k r) vs with
  | some (x,es)=>some (x,.nw o :: es)
  | none=>none
 | .program k,vs=>script P r (k P) vs
 | .mark _ k,vs=>script P r k vs
 | _,_=>none
def evs:List Ev→World→World
 | [],W=>W
 | .ld _ _ :: es,W=>evs es W
 | .st a v :: es,W=>evs es (W.setCell a v)
 | .nw o :: es,W=>evs es (W.alloc o)
def EvsOk (r:Nat):List Ev→World→Prop
 | [],_=>True
 | .ld a v :: es,W=>W.cell? a = some v∧EvsOk r es W
 | .st a v :: es,W=>(∃ u,W.cell? a = some u)∧W.frozen? a = false∧v.oneCell' = true∧EvsOk r es (W.setCell a v)
 | .nw o :: es,W=>W.heap.size = r∧EvsOk r es (W.alloc o)
theorem script_run {α:Type} (P:Program) (r:Nat) (s:Sem α):∀ (vs:List Value) (x:α) (es:List Ev) (W:World),script P r s vs = some (x,es)→EvsOk r es W→s.run P W = .ok x (evs es W):=by
 induction s with
 | pure a=>
  intro vs x es W h _
  cases vs with
  | nil=>simp only [script,Option.some.injEq,Prod.mk.injEq] at h; obtain ⟨rfl,rfl⟩:=h; rfl
  | cons=>simp [script] at h
 | load m a k ih=>
  intro vs x es W h hok
  cases vs with
  | nil=>simp [script] at h
  | cons v vs=>
   simp only [script] at h
   split at h
   ·rename_i x' es' h'
    simp only [Option.some.injEq,Prod.mk.injEq] at h
    obtain ⟨rfl,rfl⟩:=h
    have:=ih v vs _ _ W h' hok.2
    simp only [Sem.run,hok.1,evs]
    exact this
   ·cases h
 | store m a v k ih=>
  intro vs x es W h hok
  simp only [script] at h
  split at h
  ·rename_i x' es' h'
   simp only [Option.some.injEq,Prod.mk.injEq] at h
   obtain ⟨rfl,rfl⟩:=h
   obtain ⟨⟨u,hu⟩,hz,ho,hr⟩:=hok
   have:=ih vs _ _ _ h' hr
   cases v <;> first
    | (simp [Value.oneCell'] at ho; done)
    | (simp only [Sem.run,hu,hz,evs]; exact this)
  ·cases h
 | new o k ih=>
  intro vs x es W h hok
  simp only [script] at h
  split at h
  ·rename_i x' es' h'
   simp only [Option.some.injEq,Prod.mk.injEq] at h
   obtain ⟨rfl,rfl⟩:=h
   have:=ih r vs _ _ _ h' hok.2
   simp only [Sem.run,evs]
   rw [hok.1]
   exact this
  ·cases h
 | program k ih=>intro vs x es W h hok; exact ih P vs x es W h hok
 | mark m k ih=>intro vs x es W h hok; exact ih vs x es W h hok
 | _=>intro vs x es W h _; cases vs <;> simp [script] at h
structure Sta (f:World→Prop):Prop where
 kept:∀ W W',Below W.heap.size W W'→f W→f W'
 put:∀ (W:World) (b:Nat) (cs:Array Value) (t:TypeId) (j:Nat) (u:Value),W.heap[b]? = some (.cells cs t (0,0))→t≠42→NoLimb cs.toList→f W→f (W.setCell ⟨b,j,none⟩ u)
structure StaB (b0:Option Nat) (f:World→Prop):Prop where
 kept:∀ W W',Below W.heap.size W W'→f W→f W'
 put:∀ (W:World) (b:Nat) (cs:Array Value) (t:TypeId) (j:Nat) (u:Value),W.heap[b]? = some (.cells cs t (0,0))→t≠42→NoLimb cs.toList→(∀ c,b0 = some c→b≠c)→f W→f (W.setCell ⟨b,j,none⟩ u)
theorem Sta.b {f:World→Prop} (h:Sta f) (b0:Option Nat):StaB b0 f:=⟨h.kept,fun W b cs t j u h1 h2 h3 _ h4=>h.put W b cs t j u h1 h2 h3 h4⟩
structure Pq where
 A:Option Addr
 N:Nat
 C:Nat
 A':Option Addr
 N':Nat
 C':Nat
 B:Bool
 M:Nat
 Z:Int
 A2:Option Addr
 N2:Nat
 C2:Nat
 A3:Option Addr
 N3:Nat
 C3:Nat
 A4:Option Addr
 N4:Nat
 C4:Nat
abbrev Pqs:=Nat→Pq
def Pqs.set (p:Pqs) (c:Nat) (q:Pq):Pqs:=fun i=>if i = c then q else p i
def pq0:Pq:=⟨none,0,0,none,0,0,false,0,0,none,0,0,none,0,0,none,0,0⟩
structure Cf where
 f:Pq→Value
 g:Pq→World→Prop
 bk:Pq→Option Nat
 st:∀ q,StaB (bk q) (g q)
def Cf.pl (f:Pq→Value) (g:Pq→World→Prop) (st:∀ q,Sta (g q)):Cf:=⟨f,g,fun _=>none,fun q=>(st q).b none⟩
inductive Spo where
 | v (s:Nat) (x:Value)
 | l (s:Nat) (x:Value) (j off:Nat)
 | p (j off:Nat) (xs:List Value)
 | n (s:Nat) (cs:Array Value) (t:TypeId)
 | c (s:Option Nat) (f:Cf)
 | u (s:Nat) (x:Value) (h:Array Value→Value)
 | g (s:Nat) (x:Value) (vs:List Value) (es:List Ev)
 | k (s:Option Nat)
 | w (s:Option Nat) (j off:Nat) (xs:List Value) (h:Pq→List Value) (f:Cf) (x:Option (Value×(Array Value→Value)):=none)
def wval (f:Cf) (q:Pq):Option (Value×(Array Value→Value))→Value
 | none=>f.f q
 | some y=>y.1
def nv (b t:Nat):Value:=match Nat.blt t 1000000 with
 | true=>.pointer (some ⟨b,0,none⟩)
 | false=>.slice (some ⟨b,0,none⟩) (t / 1000000) (t / 1000000)
def Spo.put (p:Pqs) (i:Nat):Spo→Option (Nat×Value)
 | .v s x=>some (s,x)
 | .l s x _ _=>some (s,x)
 | .p _ _ _=>none
 | .n s _ t=>some (s,nv (p i).N t)
 | .c s f=>s.map fun s=>(s,f.f (p i))
 | .u s x _=>some (s,x)
 | .g s x _ _=>some (s,x)
 | .k s=>s.map fun s=>(s,undef)
 | .w s _ _ _ _ f x=>s.map fun s=>(s,wval f (p i) x)
def puts (p:Pqs):Nat→List Spo→Puts
 | _,[]=>[]
 | i,x :: r=>x.put p i :: puts p (i+1) r
def Spo.bare:Spo→Spo
 | .v s _=>.v s undef
 | .l s _ j off=>.l s undef j off
 | .u s _ h=>.u s undef h
 | .g s _ _ _=>.g s undef [] []
 | .p j off xs=>.p j off (xs.map fun _=>undef)
 | .w s j off xs h f x=>.w s j off (xs.map fun _=>undef) h f (x.map fun y=>(undef,y.2))
 | x=>x
theorem puts_len (p:Pqs):∀ (S:List Spo) (i:Nat),(puts p i S).length = S.length
 | [],_=>rfl
 | _ :: r,i=>by simp [puts,puts_len p r (i+1)]
theorem puts_at (p:Pqs):∀ (S:List Spo) (i k:Nat),(puts p i S)[k]? = (S[k]?).map (fun x=>x.put p (i+k))
 | [],_,_=>rfl
 | x :: r,i,0=>rfl
 | x :: r,i,k+1=>by
  have:=puts_at p r (i+1) k
  simp only [puts,List.getElem?_cons_succ,this]
  rw [show i+1+k = i+(k+1) from by omega]
abbrev Ks:=List (Nat×Value)
def lookK:Ks→Nat→Value
 | [],_=>undef
 | (s',v) :: r,s=>match s' == s with
  | true=>v
  | false=>lookK r s
def inK:Ks→Nat→Bool
 | [],_=>false
 | (s',_) :: r,s=>s' == s || inK r s
structure Kn (T:Array Value) (n:Nat) (L:Ks):Prop where
 size:T.size = n
 at_:∀ x,x∈L→T[x.1]? = some x.2
theorem Kn.look {T:Array Value} {n s:Nat}:∀ {L:Ks},Kn T n L→inK L s = true→T[s]? = some (lookK L s)
 | [],_,h=>by simp [inK] at h
 | (s',v) :: r,hK,h=>by
  simp only [inK,Bool.or_eq_true] at h
  cases hb:s' == s with
  | true=>
   simp only [lookK,hb]
   have:=hK.at_ (s',v) (List.mem_cons_self ..)
   rw [beq_iff_eq] at hb
   rw [← hb]; exact this
  | false=>
   rw [hb] at h
   simp only [lookK,hb]
   exact Kn.look ⟨hK.size,fun x hx=>hK.at_ x (List.mem_cons_of_mem _ hx)⟩ (by simpa using h)
def slotAt (L:Ks) (s:Nat):Nat→Puts→Value
 | 0,_=>lookK L s
 | _+1,[]=>lookK L s
 | i+1,some (s',v) :: r=>match s' == s with
  | true=>v
  | false=>slotAt L s i r
 | i+1,none :: r=>slotAt L s i r
def earlyB (s:Nat):Nat→Puts→Bool
 | 0,_=>false
 | _+1,[]=>false
 | i+1,some (s',_) :: r=>s' == s || earlyB s i r
 | i+1,none :: r=>earlyB s i r
theorem early_of {s:Nat}:∀ {ds:Puts} {i:Nat},earlyB s i ds = true→∃ (k:Nat) (v:Value),k < i∧ds[k]? = some (some (s,v))
 | _,0,h=>by simp [earlyB] at h
 | [],_+1,h=>by simp [earlyB] at h
 | none :: r,i+1,h=>by
  obtain ⟨k,v,h1,h2⟩:=early_of (ds:=r) h
  exact ⟨k+1,v,by omega,by simpa using h2⟩
 | some (s',v') :: r,i+1,h=>by
  simp only [earlyB,Bool.or_eq_true,beq_iff_eq] at h
  rcases h with rfl|h
  ·exact ⟨0,v',by omega,rfl⟩
  ·obtain ⟨k,v,h1,h2⟩:=early_of (ds:=r) h
   exact ⟨k+1,v,by omega,by simpa using h2⟩
def envAt (L:Ks) (ds:Puts) (i:Nat):Operand→Value
 | .tmp s=>slotAt L s i ds
 | .const v=>v
 | .global g=>.pointer (some ⟨g,0,none⟩)
 | .func f=>.func (.func f) #[] #[]
def edgeB (o:Oper) (j:Nat):Bool:=o.after.toList.any fun e=>Region.binds .any e && e.on == j
def isSel:Op→Bool
 | .select _ _=>true
 | _=>false
def readOk (ops:Array Oper) (i:Nat) (o:Oper) (s:Nat):Nat→Puts→Bool
 | _,[]=>true
 | j,some (s',_) :: r=>(s' != s || (match Nat.blt j i with
   | true=>edgeB o j
   | false=>(match Nat.beq j i with
    | true=>true
    | false=>(match ops[j]? with
     | some o'=>edgeB o' i
     | none=>false)))) && readOk ops i o s (j+1) r
 | j,none :: r=>readOk ops i o s (j+1) r
def readsOk (ops:Array Oper) (L:Ks) (ds:Puts):Nat→List Oper→Bool
 | _,[]=>true
 | i,o :: r=>(o.looksAt ops).all (fun s=>readOk ops i o s 0 ds && (earlyB s i ds || inK L s)) && !isSel o.op && readsOk ops L ds (i+1) r
theorem edge_of {o:Oper} {j:Nat} (h:edgeB o j = true):∃ e,e∈o.after∧Region.binds .any e = true∧e.on = j:=by
 obtain ⟨e,he,h⟩:=List.any_eq_true.1 h
 simp only [Bool.and_eq_true,beq_iff_eq] at h
 exact ⟨e,by simpa using he,h.1,h.2⟩
theorem readOk_at {ops:Array Oper} {i s:Nat} {o:Oper}:∀ (ds:Puts) (j0 k:Nat) (v:Value),readOk ops i o s j0 ds = true→ds[k]? = some (some (s,v))→(j0+k < i∧edgeB o (j0+k) = true)∨j0+k = i∨(i < j0+k∧∃ o',ops[j0+k]? = some o'∧edgeB o' i = true)
 | [],_,_,_,_,hk=>by simp at hk
 | d :: r,j0,0,v,h,hk=>by
  simp only [List.getElem?_cons_zero,Option.some.injEq] at hk
  subst hk
  simp only [readOk,Bool.and_eq_true,bne_self_eq_false,Bool.false_or] at h
  have h1:=h.1
  rw [Nat.add_zero]
  split at h1
  ·rename_i hb; exact Or.inl ⟨by simpa [Nat.blt_eq] using hb,h1⟩
  ·rename_i hb
   have hb':¬ j0 < i:=by intro hc; rw [show Nat.blt j0 i = true from by simpa [Nat.blt_eq] using hc] at hb; cases hb
   split at h1
   ·rename_i he; exact Or.inr (Or.inl (Nat.eq_of_beq_eq_true he))
   ·rename_i he
    have he':j0≠i:=by rintro rfl; rw [Nat.beq_refl] at he; cases he
    split at h1
    ·rename_i o' ho; exact Or.inr (Or.inr ⟨by omega,o',ho,h1⟩)
    ·cases h1
 | d :: r,j0,k+1,v,h,hk=>by
  have hr:readOk ops i o s (j0+1) r = true:=by
   cases d with
   | none=>exact h
   | some d=>simp only [readOk,Bool.and_eq_true] at h; exact h.2
  have:=readOk_at r (j0+1) k v hr (by simpa using hk)
  rw [show j0+(k+1) = j0+1+k from by omega]
  exact this
theorem readsOk_at {ops:Array Oper} {K:Ks} {ds:Puts}:∀ (L:List Oper) (i0 k:Nat) (o:Oper),readsOk ops K ds i0 L = true→L[k]? = some o→(∀ s,s∈o.looksAt ops→readOk ops (i0+k) o s 0 ds = true∧(earlyB s (i0+k) ds = true∨inK K s = true))∧isSel o.op = false
 | [],_,_,_,_,hk=>by simp at hk
 | o' :: r,i0,0,o,h,hk=>by
  simp only [List.getElem?_cons_zero,Option.some.injEq] at hk
  subst hk
  simp only [readsOk,Bool.and_eq_true,List.all_eq_true,Bool.not_eq_true',Bool.or_eq_true] at h
  exact ⟨fun s hs=>h.1.1 s hs,h.1.2⟩
 | o' :: r,i0,k+1,o,h,hk=>by
  simp only [readsOk,Bool.and_eq_true] at h
  have:=readsOk_at r (i0+1) k o h.2 (by simpa using hk)
  rw [show i0+(k+1) = i0+1+k from by omega]
  exact this
theorem slotAt_on {L:Ks} {s:Nat}:∀ (ds:Puts) (i k:Nat) (v:Value),Puts.apart ds = true→ds[k]? = some (some (s,v))→k < i→slotAt L s i ds = v
 | _,0,_,_,_,_,h=>absurd h (Nat.not_lt_zero _)
 | [],_+1,_,_,_,hk,_=>by simp at hk
 | d :: r,i+1,0,v,_,hk,_=>by
  simp only [List.getElem?_cons_zero,Option.some.injEq] at hk
  subst hk
  simp [slotAt]
 | d :: r,i+1,k+1,v,ha,hk,h=>by
  have hk':r[k]? = some (some (s,v)):=by simpa using hk
  cases d with
  | none=>exact slotAt_on r i k v ha hk' (by omega)
  | some d=>
   obtain ⟨s',v'⟩:=d
   simp only [Puts.apart,Bool.and_eq_true] at ha
   have hne:(s' == s) = false:=by
    have:=Puts.free_of ha.1 hk'
    simp; exact fun e=>this e.symm
   simp only [slotAt,hne]
   exact slotAt_on r i k v ha.2 hk' (by omega)
theorem slotAt_off {L:Ks} {s:Nat}:∀ (ds:Puts) (i:Nat),(∀ (k:Nat) (v:Value),ds[k]? = some (some (s,v))→i≤k)→slotAt L s i ds = lookK L s
 | _,0,_=>by simp [slotAt]
 | [],_+1,_=>rfl
 | none :: r,i+1,h=>slotAt_off r i (fun k v hk=>by have:=h (k+1) v (by simpa using hk); omega)
 | some (s',v') :: r,i+1,h=>by
  have hne:(s' == s) = false:=by
   cases hb:s' == s with
   | false=>rfl
   | true=>have:=h 0 v' (by simp at hb ⊢; exact hb); omega
  simp only [slotAt,hne]
  exact slotAt_off r i (fun k v hk=>by have:=h (k+1) v (by simpa using hk); omega)
theorem det_slot {ops:Array Oper} {L:Ks} {n:Nat} {ds:Puts} {T0:Array Value} {l:Array Bool} {t:Array Value} {i:Nat} {o:Oper} (hK:Kn T0 n L) (hD:Det ops ds T0 l t) (ha:Puts.apart ds = true) (hr:readsOk ops L ds 0 ops.toList = true) (hi:i∈Region.ready .any ops l) (hl:l[i]? = some false) (ho:ops[i]? = some o) (s:Nat) (hs:s∈o.looksAt ops) :
  t[s]? = some (slotAt L s i ds):=by
 obtain ⟨hro,hin⟩:=(readsOk_at ops.toList 0 i o hr (by simpa using ho)).1 s hs
 rw [Nat.zero_add] at hro hin
 by_cases hw:∃ (k:Nat) (v:Value),ds[k]? = some (some (s,v))
 ·obtain ⟨k,v,hk⟩:=hw
  have h3:=readOk_at ds 0 k v hro hk
  rw [Nat.zero_add] at h3
  rcases h3 with ⟨hlt,he⟩|h3
  ·obtain ⟨e,hem,hb,hon⟩:=edge_of he
   obtain ⟨o',ho',hd⟩:=(mem_ready.1 hi).2
   rw [ho] at ho'; cases ho'
   have:=hD.on k s v hk (by have:=getD_true (hd e hem hb); rw [hon] at this; exact this)
   rw [slotAt_on ds i _ v ha hk hlt,this]
  ·have hnd:l[k]?≠some true:=by
    rcases h3 with rfl|⟨hlt,o',ho',he⟩
    ·rw [hl]; simp
    ·obtain ⟨e,he,hb,hon⟩:=edge_of he
     intro hc
     have:=getD_true (hD.shut k o' hc ho' e he hb)
     rw [hon,hl] at this; cases this
   have hle:i≤k:=by rcases h3 with rfl|⟨h,-⟩ <;> omega
   have hnk:inK L s = true:=by
    rcases hin with h|h
    ·obtain ⟨k',v',h1,h2⟩:=early_of h
     obtain rfl:=Puts.one ha h2 hk; omega
    ·exact h
   rw [slotAt_off ds i (fun k' v' hk'=>by obtain rfl:=Puts.one ha hk' hk; exact hle),hD.off s (fun k' v' hk'=>by obtain rfl:=Puts.one ha hk' hk; exact hnd)]
   exact hK.look hnk
 ·have hnk:inK L s = true:=by
   rcases hin with h|h
   ·obtain ⟨k',v',h1,h2⟩:=early_of h
    exact absurd ⟨k',v',h2⟩ hw
   ·exact h
  rw [slotAt_off ds i (fun k v hk=>absurd ⟨k,v,hk⟩ hw),hD.off s (fun k v hk=>absurd ⟨k,v,hk⟩ hw)]
  exact hK.look hnk
def wantAt (ops:Array Oper) (L:Ks) (ds:Puts) (i:Nat) (o:Oper):Bool:=match o.guard with
 | none=>true
 | some (g,b)=>match (ops[g]?).bind (·.dst) with
  | none=>false
  | some s=>match slotAt L s i ds with
   | .bool c=>c == b
   | _=>false
def opRun (P:Program) (ops:Array Oper) (L:Ks) (ds:Puts) (i r:Nat) (vs:List Value):Option (Option Nat×Bool×Option (Next×List Ev)):=match ops[i]? with
 | none=>none
 | some o=>some (o.dst,wantAt ops L ds i o,script P r (execOp (envAt L ds i) o) vs)
theorem opRun_at {P:Program} {ops:Array Oper} {L:Ks} {n:Nat} {ds:Puts} {T0:Array Value} {l:Array Bool} {t:Array Value} {i r:Nat} {vs:List Value} {d:Option Nat} {b:Bool} {x:Option (Next×List Ev)} (hK:Kn T0 n L) (hD:Det ops ds T0 l t) (ha:Puts.apart ds = true) (hr:readsOk ops L ds 0 ops.toList = true) (hi:i∈Region.ready .any ops l) (hl:l[i]? = some false) (h:opRun P ops L ds i r vs = some (d,b,x)) :
  ∃ o,ops[i]? = some o∧o.dst = d∧Region.wanted o (yielded ops t) = b∧script P r (execOp (Act.eval ⟨t,[]⟩) o) vs = x:=by
 unfold opRun at h
 split at h
 ·cases h
 ·rename_i o ho
  simp only [Option.some.injEq,Prod.mk.injEq] at h
  obtain ⟨h1,h2,h3⟩:=h
  have hs:=fun s hsm=>det_slot hK hD ha hr hi hl ho s hsm
  refine ⟨o,ho,h1,?_,?_⟩
  ·rw [← h2]
   unfold Region.wanted wantAt
   cases hg:o.guard with
   | none=>rfl
   | some gb=>
    obtain ⟨g,b'⟩:=gb
    simp only
    unfold yielded
    cases hd:(ops[g]?).bind (·.dst) with
    | none=>simp
    | some s=>
     have:=hs s (by simp [Oper.looksAt,hg,hd])
     simp only [Option.bind_some]
     rw [this]
     cases slotAt L s i ds <;> simp
  ·rw [← h3]
   congr 1
   refine execOp_congr o (fun cs b' e=>?_) (fun x hx=>?_)
   ·have:=(readsOk_at ops.toList 0 i o hr (by simpa using ho)).2
    rw [e] at this; cases this
   ·cases x with
    | tmp s=>
     show t.getD s undef = slotAt L s i ds
     rw [Array.getD_eq_getD_getElem?,hs s (List.mem_append_left _ (List.mem_filterMap.2 ⟨.tmp s,by simpa using hx,rfl⟩))]
     rfl
    | _=>rfl
structure Bx where
 b:Nat
 cs:Array Value
 t:TypeId
 my:Bool
def boxOf (E:List Bx) (S:List Spo) (p:Pqs) (j:Nat):Option (Bx×Option Nat):=match Nat.blt j 1000 with
 | true=>(E[j]?).map fun x=>(x,none)
 | false=>match S[j - 1000]? with
  | some (.n _ cs t)=>some (⟨(p (j - 1000)).N,cs,t % 1000000,true⟩,some (j - 1000))
  | _=>none
def setL:Array Value→Nat→List Value→Array Value
 | cs,_,[]=>cs
 | cs,k,x :: r=>setL (cs.setIfInBounds k x) (k+1) r
def Spo.sto:Spo→Option (Nat×Nat×List Value)
 | .p j off xs=>some (j,off,xs)
 | .w _ j off xs _ _ _=>some (j,off,xs)
 | _=>none
def cellsOf (f:Nat→Bool) (j:Nat):Nat→List Spo→Array Value→Array Value
 | _,[],cs=>cs
 | i,x :: r,cs=>cellsOf f j (i+1) r (match x.sto with
  | some (j',off,xs)=>(match f i && Nat.beq j' j with
   | true=>setL cs off xs
   | false=>cs)
  | none=>cs)
def reach (ops:Array Oper):Nat→Nat→Nat→Bool
 | 0,_,_=>false
 | f+1,i,j=>match ops[i]? with
  | none=>false
  | some o=>edgeB o j || o.after.toList.any fun e=>Region.binds .any e && reach ops f e.on j
theorem reach_done {ops:Array Oper} {ds:Puts} {T0:Array Value} {l:Array Bool} {t:Array Value} (hD:Det ops ds T0 l t):∀ (f i j:Nat),reach ops f i j = true→l[i]? = some true→l[j]? = some true
 | 0,_,_,h,_=>by simp [reach] at h
 | f+1,i,j,h,hl=>by
  unfold reach at h
  split at h
  ·cases h
  ·rename_i o ho
   rw [Bool.or_eq_true] at h
   rcases h with h|h
   ·obtain ⟨e,he,hb,rfl⟩:=edge_of h
    exact getD_true (hD.shut i o hl ho e he hb)
   ·obtain ⟨e,he,h⟩:=List.any_eq_true.1 h
    simp only [Bool.and_eq_true] at h
    exact reach_done hD f e.on j h.2 (getD_true (hD.shut i o hl ho e (by simpa using he) h.1))
theorem reach_ready {ops:Array Oper} {ds:Puts} {T0:Array Value} {l:Array Bool} {t:Array Value} (hD:Det ops ds T0 l t) {f i j:Nat} (h:reach ops f i j = true) (hi:i∈Region.ready .any ops l):l[j]? = some true:=by
 cases f with
 | zero=>simp [reach] at h
 | succ f=>
  obtain ⟨o,ho,hd⟩:=(mem_ready.1 hi).2
  unfold reach at h
  rw [ho] at h
  simp only [Bool.or_eq_true] at h
  rcases h with h|h
  ·obtain ⟨e,he,hb,rfl⟩:=edge_of h
   exact getD_true (hd e he hb)
  ·obtain ⟨e,he,h⟩:=List.any_eq_true.1 h
   simp only [Bool.and_eq_true] at h
   exact reach_done hD f e.on j h.2 (getD_true (hd e (by simpa using he) h.1))
def touchOk (ops:Array Oper) (i j:Nat):Nat→List Spo→Bool
 | _,[]=>true
 | i',x :: r=>(match x.sto with
   | some (j',_,_)=>(j' != j || (match Nat.beq i' i with
    | true=>true
    | false=>(match Nat.blt i' i with
     | true=>reach ops 4 i i'
     | false=>reach ops 4 i' i)))
   | none=>true) && touchOk ops i j (i'+1) r
def stoOk (ops:Array Oper) (E:List Bx) (S0:List Spo) (i j:Nat) (xs:List Value):Bool:=touchOk ops i j 0 S0 && (match Nat.blt j 1000 with
   | true=>(match E[j]? with
    | some x=>x.my
    | none=>false)
   | false=>reach ops 4 i (j - 1000) && (match S0[j - 1000]? with
    | some (.n _ cs t)=>noLimb cs.toList && t % 1000000 != 42
    | _=>false)) && noLimb xs && xs.all (·.oneCell')
def memOk (ops:Array Oper) (E:List Bx) (S0:List Spo):Nat→List Spo→Bool
 | _,[]=>true
 | i,.l _ _ j _ :: r=>touchOk ops i j 0 S0 && (Nat.blt j 1000 || reach ops 4 i (j - 1000)) && memOk ops E S0 (i+1) r
 | i,.p j _ xs :: r=>stoOk ops E S0 i j xs && memOk ops E S0 (i+1) r
 | i,.w _ j _ xs _ _ _ :: r=>stoOk ops E S0 i j xs && memOk ops E S0 (i+1) r
 | i,_ :: r=>memOk ops E S0 (i+1) r
theorem touchOk_at {ops:Array Oper} {i j:Nat}:∀ (S:List Spo) (i0 k off:Nat) (xs:List Value),touchOk ops i j i0 S = true→(S[k]?).bind Spo.sto = some (j,off,xs)→i0+k = i∨(i0+k < i∧reach ops 4 i (i0+k) = true)∨(i < i0+k∧reach ops 4 (i0+k) i = true)
 | [],_,_,_,_,_,hk=>by simp at hk
 | x :: r,i0,0,off,xs,h,hk=>by
  simp only [List.getElem?_cons_zero,Option.bind_some] at hk
  simp only [touchOk,hk,Bool.and_eq_true,bne_self_eq_false,Bool.false_or] at h
  have h1:=h.1
  rw [Nat.add_zero]
  split at h1
  ·rename_i he; exact Or.inl (Nat.eq_of_beq_eq_true he)
  ·rename_i he
   have he':i0≠i:=by rintro rfl; rw [Nat.beq_refl] at he; cases he
   split at h1
   ·rename_i hb; exact Or.inr (Or.inl ⟨by simpa [Nat.blt_eq] using hb,h1⟩)
   ·rename_i hb
    have hb':¬ i0 < i:=by intro hc; rw [show Nat.blt i0 i = true from by simpa [Nat.blt_eq] using hc] at hb; cases hb
    exact Or.inr (Or.inr ⟨by omega,h1⟩)
 | x :: r,i0,k+1,off,xs,h,hk=>by
  have hr:touchOk ops i j (i0+1) r = true:=by
   unfold touchOk at h; exact (Bool.and_eq_true_iff.1 h).2
  have:=touchOk_at r (i0+1) k off xs hr (by simpa using hk)
  rw [show i0+(k+1) = i0+1+k from by omega]
  exact this
theorem memOk_at {ops:Array Oper} {E:List Bx} {S0:List Spo}:∀ (S:List Spo) (i0 k:Nat),memOk ops E S0 i0 S = true→memOk ops E S0 (i0+k) (S.drop k) = true
 | [],_,_,_=>by simp [memOk]
 | x :: r,i0,0,h=>h
 | x :: r,i0,k+1,h=>by
  have hr:memOk ops E S0 (i0+1) r = true:=by
   cases x <;> first|exact h|(simp only [memOk,Bool.and_eq_true] at h; exact h.2)
  have:=memOk_at r (i0+1) k hr
  rw [show i0+(k+1) = i0+1+k from by omega]
  exact this
theorem memOk_sto {ops:Array Oper} {E:List Bx} {S0:List Spo} {i j off:Nat} {x:Spo} {r:List Spo} {xs:List Value} (h:memOk ops E S0 i (x :: r) = true) (hx:x.sto = some (j,off,xs)):stoOk ops E S0 i j xs = true:=by
 cases x <;> simp only [Spo.sto,Option.some.injEq,Prod.mk.injEq,reduceCtorEq] at hx
 ·obtain ⟨rfl,rfl,rfl⟩:=hx
  simp only [memOk,Bool.and_eq_true] at h; exact h.1
 ·obtain ⟨rfl,rfl,rfl⟩:=hx
  simp only [memOk,Bool.and_eq_true] at h; exact h.1
theorem cellsOf_agree {f g:Nat→Bool} {j:Nat}:∀ (S:List Spo) (i0:Nat) (cs:Array Value),(∀ (k off:Nat) (xs:List Value),(S[k]?).bind Spo.sto = some (j,off,xs)→f (i0+k) = g (i0+k))→cellsOf f j i0 S cs = cellsOf g j i0 S cs
 | [],_,_,_=>rfl
 | x :: r,i0,cs,h=>by
  have hr:∀ cs,cellsOf f j (i0+1) r cs = cellsOf g j (i0+1) r cs:=fun cs=>cellsOf_agree r (i0+1) cs (fun k off xs hk=>by
   have:=h (k+1) off xs (by simpa using hk)
   rw [show i0+1+k = i0+(k+1) from by omega]; exact this)
  cases hx:x.sto with
  | none=>simp only [cellsOf,hx]; exact hr _
  | some q=>
   obtain ⟨j',off,xs⟩:=q
   simp only [cellsOf,hx]
   cases hb:Nat.beq j' j with
   | true=>
    obtain rfl:=Nat.eq_of_beq_eq_true hb
    have:=h 0 off xs (by simpa using hx)
    rw [Nat.add_zero] at this
    rw [this]; exact hr _
   | false=>simp only [Bool.and_false]; exact hr _
theorem cellsOf_none {f:Nat→Bool} {j:Nat}:∀ (S:List Spo) (i0:Nat) (cs:Array Value),(∀ (k off:Nat) (xs:List Value),(S[k]?).bind Spo.sto = some (j,off,xs)→f (i0+k) = false)→cellsOf f j i0 S cs = cs
 | [],_,_,_=>rfl
 | x :: r,i0,cs,h=>by
  have hr:cellsOf f j (i0+1) r cs = cs:=cellsOf_none r (i0+1) cs (fun k off xs hk=>by
   have:=h (k+1) off xs (by simpa using hk)
   rw [show i0+1+k = i0+(k+1) from by omega]; exact this)
  cases hx:x.sto with
  | none=>simp only [cellsOf,hx]; exact hr
  | some q=>
   obtain ⟨j',off,xs⟩:=q
   simp only [cellsOf,hx]
   cases hb:Nat.beq j' j with
   | true=>
    obtain rfl:=Nat.eq_of_beq_eq_true hb
    have:=h 0 off xs (by simpa using hx)
    rw [Nat.add_zero] at this
    rw [this]; exact hr
   | false=>simp only [Bool.and_false]; exact hr
theorem cellsOf_put {f:Nat→Bool} {j:Nat}:∀ (S:List Spo) (i0 k:Nat) (off:Nat) (xs:List Value) (cs:Array Value),(S[k]?).bind Spo.sto = some (j,off,xs)→f (i0+k) = false→(∀ (k' off':Nat) (xs':List Value),(S[k']?).bind Spo.sto = some (j,off',xs')→k < k'→f (i0+k') = false) →
  cellsOf (fun m=>f m || Nat.beq m (i0+k)) j i0 S cs = setL (cellsOf f j i0 S cs) off xs
 | [],_,_,_,_,_,hk,_,_=>by simp at hk
 | x :: r,i0,0,off,xs,cs,hk,h0,h=>by
  simp only [List.getElem?_cons_zero,Option.bind_some] at hk
  rw [Nat.add_zero] at h0 ⊢
  simp only [cellsOf,hk,h0,Nat.beq_refl,Bool.false_or,Bool.true_and,Bool.false_and]
  rw [cellsOf_none r (i0+1) (setL cs off xs) (fun k off' xs' hk=>by
    have:=h (k+1) off' xs' (by simpa using hk) (by omega)
    rw [show i0+(k+1) = i0+1+k from by omega] at this
    rw [this,Bool.false_or]
    cases hb:Nat.beq (i0+1+k) i0 with
    | false=>rfl
    | true=>have:=Nat.eq_of_beq_eq_true hb; omega),
   cellsOf_none r (i0+1) cs (fun k off' xs' hk=>by
    have:=h (k+1) off' xs' (by simpa using hk) (by omega)
    rw [show i0+(k+1) = i0+1+k from by omega] at this
    exact this)]
 | x :: r,i0,k+1,off,xs,cs,hk,h0,h=>by
  have hr:∀ cs,cellsOf (fun m=>f m || Nat.beq m (i0+(k+1))) j (i0+1) r cs = setL (cellsOf f j (i0+1) r cs) off xs:=fun cs=>by
   have e:i0+(k+1) = i0+1+k:=by omega
   rw [e] at h0 ⊢
   exact cellsOf_put r (i0+1) k off xs cs (by simpa using hk) h0 (fun k' off' xs' hk' hlt=>by
    have:=h (k'+1) off' xs' (by simpa using hk') (by omega)
    rw [show i0+(k'+1) = i0+1+k' from by omega] at this
    exact this)
  have hb0:Nat.beq i0 (i0+(k+1)) = false:=by
   cases hb:Nat.beq i0 (i0+(k+1)) with
   | false=>rfl
   | true=>have:=Nat.eq_of_beq_eq_true hb; omega
  simp only [cellsOf,hb0,Bool.or_false]
  exact hr _
def isUp (l:Array Bool) (k:Nat):Bool:=l.getD k false
theorem isUp_iff {l:Array Bool} {k:Nat}:isUp l k = true↔l[k]? = some true:=⟨getD_true,true_getD⟩
theorem isUp_no {l:Array Bool} {k:Nat} (h:l[k]?≠some true):isUp l k = false:=by
 cases hb:isUp l k with
 | false=>rfl
 | true=>exact absurd (isUp_iff.1 hb) h
theorem set_up {l:Array Bool} {i k:Nat} (hl:l[i]? = some false):(l.setIfInBounds i true)[k]? = some true↔k = i∨l[k]? = some true:=by
 obtain ⟨hlt,-⟩:=Array.getElem?_eq_some_iff.1 hl
 by_cases hk:k = i
 ·subst hk; simp [hlt]
 ·rw [Array.getElem?_setIfInBounds_ne (Ne.symm hk)]; simp [hk]
theorem isUp_set {l:Array Bool} {i:Nat} (hl:l[i]? = some false):isUp (l.setIfInBounds i true) = fun m=>isUp l m || Nat.beq m i:=by
 funext m
 cases hb:Nat.beq m i with
 | true=>
  obtain rfl:=Nat.eq_of_beq_eq_true hb
  rw [Bool.or_true]; exact isUp_iff.2 ((set_up hl).2 (Or.inl rfl))
 | false=>
  have hne:m≠i:=by rintro rfl; rw [Nat.beq_refl] at hb; cases hb
  rw [Bool.or_false]
  unfold isUp
  rw [Array.getD_eq_getD_getElem?,Array.getElem?_setIfInBounds_ne (Ne.symm hne),← Array.getD_eq_getD_getElem?]
theorem sta_mine (base:Nat) (a:Option Addr) (n c m:Nat):Sta (fun W=>Mine W base a n c m):=⟨fun _ _ hb h=>h.kept hb,fun _ _ _ _ j u hb ht _ h=>h.put hb ht j u⟩
theorem sta_num (a:Option Addr) (n m:Nat):Sta (fun W=>Num W a n m):=⟨fun _ _ hb h=>h.kept hb,fun _ _ _ _ j u hb _ hl h=>h.put hb hl j u⟩
def Agr (l:Array Bool) (p p':Pqs):Prop:=∀ k,l[k]? = some true→p' k = p k
theorem Agr.refl (l:Array Bool) (p:Pqs):Agr l p p:=fun _ _=>rfl
theorem Agr.back {l:Array Bool} {p p':Pqs} {i:Nat} (hl:l[i]? = some false) (h:Agr (l.setIfInBounds i true) p p'):Agr l p p':=fun k hk=>h k ((set_up hl).2 (Or.inr hk))
theorem Agr.backS {l:Array Bool} {p p':Pqs} {i:Nat} {q:Pq} (hl:l[i]? = some false) (h:Agr (l.setIfInBounds i true) (p.set i q) p'):Agr l p p'∧p' i = q:=by
 refine ⟨fun k hk=>?_,?_⟩
 ·have:=h k ((set_up hl).2 (Or.inr hk))
  rw [this]
  have hne:k≠i:=by rintro rfl; rw [hl] at hk; cases hk
  simp [Pqs.set,hne]
 ·have:=h i ((set_up hl).2 (Or.inl rfl))
  rw [this]; simp [Pqs.set]
def lds (b:Nat):Nat→List Value→List Ev
 | _,[]=>[]
 | o,v :: r=>.ld ⟨b,o,none⟩ v :: lds b (o+1) r
def sts (b:Nat):Nat→List Value→List Ev
 | _,[]=>[]
 | o,v :: r=>.st ⟨b,o,none⟩ v :: sts b (o+1) r
def noPutB (j:Nat):List Spo→Bool
 | []=>true
 | x :: r=>(match x.sto with
  | some (j',_,_)=>j' != j
  | none=>true) && noPutB j r
def Spo.fac:Spo→Option Cf
 | .c _ f=>some f
 | .w _ _ _ _ _ f _=>some f
 | _=>none
def factOf (S:List Spo) (p:Pqs) (k:Nat) (W:World):Prop:=match S[k]? with
 | some (.c _ cf)=>cf.g (p k) W
 | some (.w _ _ _ _ _ cf _)=>cf.g (p k) W
 | some (.n _ cs t)=>noPutB (1000+k) S = true→W.heap[(p k).N]? = some (.cells cs (t % 1000000) (0,0))
 | _=>True
def FactsAt (ops:Array Oper) (S:List Spo) (p:Pqs) (i:Nat) (W:World):Prop:=∀ k,reach ops 8 i k = true→factOf S p k W
def BoxesAt (E:List Bx) (S:List Spo) (W:World):Prop:=∀ (j:Nat) (x:Bx),E[j]? = some x→noPutB j S = true→Nat.blt j 1000 = true→W.heap[x.b]? = some (.cells x.cs x.t (0,0))
structure Fr0 where
 to:World→Prop
 own:Nat→Prop
 size:Nat
 sized:∀ {W:World},to W→size≤W.heap.size
 kept:∀ {W W':World},to W→Below W.heap.size W W'→to W'
 put:∀ {W:World} {b:Nat} {cs:Array Value} {t:TypeId} (j:Nat) (u:Value),to W→own b→W.heap[b]? = some (.cells cs t (0,0))→to (W.setCell ⟨b,j,none⟩ u)
 new:∀ {b:Nat},size≤b→own b
@[reducible] def Fr0.all (w:World):Fr0:=⟨Below w.heap.size w,fun b=>w.heap.size≤b,w.heap.size,fun h=>h.size,fun h k=>gr_trans h k,fun _ u h ho _=>h.setCell ho u,fun h=>h⟩
theorem Fr0.to.size {w W:World} (h:(Fr0.all w).to W):w.heap.size≤W.heap.size:=Below.size h
structure OneBut (p:Nat) (w W:World):Prop where
 os:W.os = w.os
 tape:W.tape = w.tape
 output:W.output = w.output
 size:w.heap.size≤W.heap.size
 block:∀ k,k < w.heap.size→k≠p→W.heap[k]? = w.heap[k]?
theorem OneBut.kept {p:Nat} {w W W':World} (h:OneBut p w W) (k:Below W.heap.size W W'):OneBut p w W':=
 ⟨k.os.trans h.os,k.tape.trans h.tape,k.output.trans h.output,Nat.le_trans h.size k.size,fun i hi hp=>(k.block i (Nat.lt_of_lt_of_le hi h.size)).trans (h.block i hi hp)⟩
theorem OneBut.put {p:Nat} {w W:World} {b:Nat} (j:Nat) (u:Value) (h:OneBut p w W) (ho:b = p∨w.heap.size≤b):OneBut p w (W.setCell ⟨b,j,none⟩ u):=by
 refine ⟨h.os,h.tape,h.output,by simpa using h.size,fun i hi hp=>?_⟩
 rw [← h.block i hi hp]
 unfold World.setCell
 simp only [Array.getElem?_modify]
 rw [if_neg (by omega)]
def Fr0.but (p:Nat) (w:World):Fr0:=⟨OneBut p w,fun b=>b = p∨w.heap.size≤b,w.heap.size,fun h=>h.size,fun h k=>h.kept k,fun j u h ho _=>h.put j u ho,fun h=>Or.inr h⟩
def Nk (S:List Spo) (p:Pqs) (up:Nat→Prop) (base size:Nat):Prop:=∀ (k:Nat) (x:Spo) (f:Cf) (b:Nat),S[k]? = some x→x.fac = some f→up k→f.bk (p k) = some b→base≤b∧b < size∧(∀ (k' s:Nat) (cs:Array Value) (t:TypeId),S[k']? = some (.n s cs t)→up k'→(p k').N≠b)∧∀ (k':Nat) (x':Spo) (f':Cf),k'≠k→S[k']? = some x'→x'.fac = some f'→up k'→f'.bk (p k')≠some b
structure Apt (ops:Array Oper) (E:List Bx) (S:List Spo) (base:Nat) (p:Pqs) (i size:Nat):Prop where
 lt:∀ x,x∈E→x.b < base
 nb:∀ (k s:Nat) (cs:Array Value) (t:TypeId),S[k]? = some (.n s cs t)→reach ops 8 i k = true→base≤(p k).N
 ne:∀ (k s:Nat) (cs:Array Value) (t:TypeId) (k' s':Nat) (cs':Array Value) (t':TypeId),S[k]? = some (.n s cs t)→S[k']? = some (.n s' cs' t')→reach ops 8 i k = true→reach ops 8 i k' = true→k≠k'→(p k).N≠(p k').N
 nk:Nk S p (fun k=>reach ops 8 i k = true) base size
structure Cx (ops:Array Oper) (E:List Bx) (S:List Spo) (G:World→Prop) (w0:Fr0) (base:Nat) (p:Pqs) (i:Nat) (W:World):Prop where
 hb:base≤W.heap.size
 fr:w0.to W
 F:FactsAt ops S p i W
 G:G W
 B:BoxesAt E S W
 ap:Apt ops E S base p i W.heap.size
 cl:∀ (j:Nat) (bx:Bx) (bo:Option Nat),boxOf E S p j = some (bx,bo)→touchOk ops i j 0 S = true→(Nat.blt j 1000 = true∨reach ops 4 i (j - 1000) = true)→W.heap[bx.b]? = some (.cells (cellsOf (fun k=>Nat.blt k i) j 0 S bx.cs) bx.t (0,0))
def OkAt (P:Program) (ops:Array Oper) (L:Ks) (E:List Bx) (S:List Spo) (G:World→Prop) (w0:Fr0) (base:Nat) (p:Pqs) (i:Nat):Spo→Prop
 | .v s x=>opRun P ops L (puts p 0 S) i 0 [] = some (some s,true,some (.value x,[]))
 | .l s x j off=>∃ bx bo,boxOf E S p j = some (bx,bo)∧opRun P ops L (puts p 0 S) i 0 x.cells.toList = some (some s,true,some (.value x,lds bx.b off x.cells.toList))∧((cellsOf (fun k=>Nat.blt k i) j 0 S bx.cs).toList.drop off).take x.cells.size = x.cells.toList
 | .p j off xs=>∃ bx bo,boxOf E S p j = some (bx,bo)∧opRun P ops L (puts p 0 S) i 0 [] = some (none,true,some (.skip,sts bx.b off xs))∧Nat.ble (off+xs.length) bx.cs.size = true
 | .n s cs t=>∀ r,opRun P ops L (puts p 0 S) i r [] = some (some s,true,some (.value (nv r t),[.nw (.cells cs (t % 1000000))]))
 | .c s f=>∃ fn args,opRun P ops L (puts p 0 S) i 0 [] = some (s,true,some (.enter fn args,[]))∧∀ W,Cx ops E S G w0 base p i W→Calls P fn args W fun en W'=>∃ q,en = .returned (f.f q)∧Below W.heap.size W W'∧f.g q W'∧∀ b,f.bk q = some b→W.heap.size≤b∧b < W'.heap.size
 | .u s x h=>∃ fn args,opRun P ops L (puts p 0 S) i 0 [] = some (some s,true,some (.enter fn args,[]))∧h args = x∧∀ W,Cx ops E S G w0 base p i W→Calls P fn args W fun en W'=>en = .returned x∧Below W.heap.size W W'
 | .g s x vs es=>opRun P ops L (puts p 0 S) i 0 vs = some (some s,true,some (.value x,es))∧∀ W,Cx ops E S G w0 base p i W→EvsOk 0 es W∧evs es W = W
 | .k s=>∃ x,opRun P ops L (puts p 0 S) i 0 [] = some (s,false,x)
 | .w s j off xs h f x=>h (p i) = xs∧(∀ q,f.bk q = none)∧∃ bx bo,boxOf E S p j = some (bx,bo)∧Nat.ble (off+xs.length) bx.cs.size = true∧∃ fn args,opRun P ops L (puts p 0 S) i 0 [] = some (s,true,some (.enter fn args,[]))∧(∀ y,x = some y→y.2 args = y.1)∧∀ W,Cx ops E S G w0 base p i W→W.heap[bx.b]? = some (.cells (cellsOf (fun k=>Nat.blt k i) j 0 S bx.cs) bx.t (0,0))→Calls P fn args W fun en W'=>∃ q,en = .returned (wval f q x)∧(h q).length = xs.length∧Below W.heap.size (evs (sts bx.b off (h q)) W) W'∧f.g q W'
def Oks (P:Program) (ops:Array Oper) (L:Ks) (E:List Bx) (S:List Spo) (G:World→Prop) (w0:Fr0) (base:Nat) (p:Pqs):Nat→List Spo→Prop
 | _,[]=>True
 | i,x :: r=>OkAt P ops L E S G w0 base p i x∧Oks P ops L E S G w0 base p (i+1) r
theorem Oks.at {P:Program} {ops:Array Oper} {K:Ks} {E:List Bx} {S:List Spo} {G:World→Prop} {w0:Fr0} {base:Nat} {p:Pqs}:∀ (L:List Spo) (i0 k:Nat) (x:Spo),Oks P ops K E S G w0 base p i0 L→L[k]? = some x→OkAt P ops K E S G w0 base p (i0+k) x
 | [],_,_,_,_,hk=>by simp at hk
 | y :: r,i0,0,x,h,hk=>by
  simp only [List.getElem?_cons_zero,Option.some.injEq] at hk
  subst hk; exact h.1
 | y :: r,i0,k+1,x,h,hk=>by
  have:=Oks.at r (i0+1) k x h.2 (by simpa using hk)
  rw [show i0+(k+1) = i0+1+k from by omega]; exact this
structure SymS (ops:Array Oper) (T0:Array Value) (n:Nat) (L:Ks) (E:List Bx) (S:Pqs→List Spo) (G:World→Prop) (w0:Fr0) (base:Nat):Prop where
 shape:∀ p p',(S p).map Spo.bare = (S p').map Spo.bare
 apart:∀ p,Puts.apart (puts p 0 (S p)) = true
 len:∀ p,(S p).length = ops.size
 within:∀ p,Puts.within (puts p 0 (S p)) T0.size = true
 back:backB ops = true
 reads:∀ p,readsOk ops L (puts p 0 (S p)) 0 ops.toList = true
 kn:Kn T0 n L
 mem:∀ p,memOk ops E (S p) 0 (S p) = true
 eb:E.all (fun x=>!x.my || noLimb x.cs.toList && x.t != 42) = true
 low:∀ x,x∈E→x.my = true→w0.own x.b
 ne:∀ (j k:Nat) (x y:Bx),E[j]? = some x→E[k]? = some y→x.my = true→j≠k→x.b≠y.b
 lt:∀ x,x∈E→x.b < base
 w0b:w0.size≤base
 sta:Sta G
structure SymI (ops:Array Oper) (T0:Array Value) (E:List Bx) (S:Pqs→List Spo) (G:World→Prop) (w0:Fr0) (base:Nat) (p:Pqs) (l:Array Bool) (t:Array Value) (W:World):Prop where
 det:∀ p',Agr l p p'→Det ops (puts p' 0 (S p')) T0 l t
 mem:∀ p',Agr l p p'→∀ (j:Nat) (bx:Bx) (bo:Option Nat),boxOf E (S p') p' j = some (bx,bo)→(∀ k,bo = some k→l[k]? = some true)→W.heap[bx.b]? = some (.cells (cellsOf (isUp l) j 0 (S p') bx.cs) bx.t (0,0))
 fr:w0.to W
 bs:base≤W.heap.size
 nb:∀ (k s:Nat) (cs:Array Value) (t:TypeId),(S p)[k]? = some (.n s cs t)→l[k]? = some true→base≤(p k).N
 ne:∀ (k s:Nat) (cs:Array Value) (t:TypeId) (k' s':Nat) (cs':Array Value) (t':TypeId),(S p)[k]? = some (.n s cs t)→(S p)[k']? = some (.n s' cs' t')→l[k]? = some true→l[k']? = some true→k≠k'→(p k).N≠(p k').N
 fx:∀ (k:Nat) (x:Spo) (f:Cf),(S p)[k]? = some x→x.fac = some f→l[k]? = some true→f.g (p k) W
 gx:G W
 nk:Nk (S p) p (fun k=>l[k]? = some true) base W.heap.size
theorem SymS.bare {ops:Array Oper} {T0:Array Value} {n:Nat} {L:Ks} {E:List Bx} {S:Pqs→List Spo} {G:World→Prop} {w0:Fr0} {base:Nat} (h:SymS ops T0 n L E S G w0 base) (p p':Pqs) (i:Nat):((S p)[i]?).map Spo.bare = ((S p')[i]?).map Spo.bare:=by
 have:=congrArg (fun l=>l[i]?) (h.shape p p')
 simpa using this
theorem SymS.at_n {ops:Array Oper} {T0:Array Value} {n:Nat} {L:Ks} {E:List Bx} {S:Pqs→List Spo} {G:World→Prop} {w0:Fr0} {base:Nat} (h:SymS ops T0 n L E S G w0 base) {p:Pqs} (p':Pqs) {i s:Nat} {cs:Array Value} {t:TypeId} (hi:(S p)[i]? = some (.n s cs t)):(S p')[i]? = some (.n s cs t):=by
 have:=h.bare p p' i
 rw [hi] at this
 cases hx:(S p')[i]? with
 | none=>rw [hx] at this; simp at this
 | some x=>rw [hx] at this; cases x <;> simp [Spo.bare] at this; obtain ⟨rfl,rfl,rfl⟩:=this; rfl
theorem SymS.at_c {ops:Array Oper} {T0:Array Value} {n:Nat} {L:Ks} {E:List Bx} {S:Pqs→List Spo} {G:World→Prop} {w0:Fr0} {base:Nat} (h:SymS ops T0 n L E S G w0 base) {p:Pqs} (p':Pqs) {i:Nat} {s:Option Nat} {f:Cf} (hi:(S p)[i]? = some (.c s f)):(S p')[i]? = some (.c s f):=by
 have:=h.bare p p' i
 rw [hi] at this
 cases hx:(S p')[i]? with
 | none=>rw [hx] at this; simp at this
 | some x=>rw [hx] at this; cases x <;> simp [Spo.bare] at this; obtain ⟨rfl,rfl⟩:=this; rfl
theorem SymS.at_k {ops:Array Oper} {T0:Array Value} {n:Nat} {L:Ks} {E:List Bx} {S:Pqs→List Spo} {G:World→Prop} {w0:Fr0} {base:Nat} (h:SymS ops T0 n L E S G w0 base) {p:Pqs} (p':Pqs) {i:Nat} {s:Option Nat} (hi:(S p)[i]? = some (.k s)):(S p')[i]? = some (.k s):=by
 have:=h.bare p p' i
 rw [hi] at this
 cases hx:(S p')[i]? with
 | none=>rw [hx] at this; simp at this
 | some x=>rw [hx] at this; cases x <;> simp [Spo.bare] at this; obtain rfl:=this; rfl
theorem SymS.at_v {ops:Array Oper} {T0:Array Value} {n:Nat} {L:Ks} {E:List Bx} {S:Pqs→List Spo} {G:World→Prop} {w0:Fr0} {base:Nat} (h:SymS ops T0 n L E S G w0 base) {p:Pqs} (p':Pqs) {i s:Nat} {x:Value} (hi:(S p)[i]? = some (.v s x)):∃ x',(S p')[i]? = some (.v s x'):=by
 have:=h.bare p p' i
 rw [hi] at this
 cases hx:(S p')[i]? with
 | none=>rw [hx] at this; simp at this
 | some y=>rw [hx] at this; cases y <;> simp [Spo.bare] at this; obtain rfl:=this; exact ⟨_,rfl⟩
theorem SymS.at_u {ops:Array Oper} {T0:Array Value} {n:Nat} {L:Ks} {E:List Bx} {S:Pqs→List Spo} {G:World→Prop} {w0:Fr0} {base:Nat} (h:SymS ops T0 n L E S G w0 base) {p:Pqs} (p':Pqs) {i s:Nat} {x:Value} {g:Array Value→Value} (hi:(S p)[i]? = some (.u s x g)):∃ x',(S p')[i]? = some (.u s x' g):=by
 have:=h.bare p p' i
 rw [hi] at this
 cases hx:(S p')[i]? with
 | none=>rw [hx] at this; simp at this
 | some y=>rw [hx] at this; cases y <;> simp [Spo.bare] at this; obtain ⟨rfl,rfl⟩:=this; exact ⟨_,rfl⟩
theorem SymS.at_g {ops:Array Oper} {T0:Array Value} {n:Nat} {L:Ks} {E:List Bx} {S:Pqs→List Spo} {G:World→Prop} {w0:Fr0} {base:Nat} (h:SymS ops T0 n L E S G w0 base) {p:Pqs} (p':Pqs) {i s:Nat} {x:Value} {vs:List Value} {es:List Ev} (hi:(S p)[i]? = some (.g s x vs es)):∃ x' vs' es',(S p')[i]? = some (.g s x' vs' es'):=by
 have:=h.bare p p' i
 rw [hi] at this
 cases hx:(S p')[i]? with
 | none=>rw [hx] at this; simp at this
 | some y=>rw [hx] at this; cases y <;> simp [Spo.bare] at this; obtain rfl:=this; exact ⟨_,_,_,rfl⟩
theorem SymS.at_l {ops:Array Oper} {T0:Array Value} {n:Nat} {L:Ks} {E:List Bx} {S:Pqs→List Spo} {G:World→Prop} {w0:Fr0} {base:Nat} (h:SymS ops T0 n L E S G w0 base) {p:Pqs} (p':Pqs) {i s j off:Nat} {x:Value} (hi:(S p)[i]? = some (.l s x j off)):∃ x',(S p')[i]? = some (.l s x' j off):=by
 have:=h.bare p p' i
 rw [hi] at this
 cases hx:(S p')[i]? with
 | none=>rw [hx] at this; simp at this
 | some y=>rw [hx] at this; cases y <;> simp [Spo.bare] at this; obtain ⟨rfl,rfl,rfl⟩:=this; exact ⟨_,rfl⟩
theorem SymS.at_p {ops:Array Oper} {T0:Array Value} {n:Nat} {L:Ks} {E:List Bx} {S:Pqs→List Spo} {G:World→Prop} {w0:Fr0} {base:Nat} (h:SymS ops T0 n L E S G w0 base) {p:Pqs} (p':Pqs) {i j off:Nat} {xs:List Value} (hi:(S p)[i]? = some (.p j off xs)):∃ xs',(S p')[i]? = some (.p j off xs'):=by
 have:=h.bare p p' i
 rw [hi] at this
 cases hx:(S p')[i]? with
 | none=>rw [hx] at this; simp at this
 | some y=>rw [hx] at this; cases y <;> simp [Spo.bare] at this; obtain ⟨rfl,rfl,-⟩:=this; exact ⟨_,rfl⟩
theorem SymS.at_w {ops:Array Oper} {T0:Array Value} {n:Nat} {L:Ks} {E:List Bx} {S:Pqs→List Spo} {G:World→Prop} {w0:Fr0} {base:Nat} (h:SymS ops T0 n L E S G w0 base) {p:Pqs} (p':Pqs) {i j off:Nat} {s:Option Nat} {xs:List Value} {g:Pq→List Value} {f:Cf} {x:Option (Value×(Array Value→Value))} (hi:(S p)[i]? = some (.w s j off xs g f x)):∃ xs' x',(S p')[i]? = some (.w s j off xs' g f x')∧(x.map fun y=>y.2) = (x'.map fun y=>y.2):=by
 have:=h.bare p p' i
 rw [hi] at this
 cases hx:(S p')[i]? with
 | none=>rw [hx] at this; simp at this
 | some y=>
  rw [hx] at this
  cases y <;> simp [Spo.bare] at this
  obtain ⟨rfl,rfl,rfl,-,rfl,rfl,h9⟩:=this
  refine ⟨_,_,rfl,?_⟩
  rename_i x'
  cases x <;> cases x' <;> simp at h9 ⊢
  exact h9
theorem SymS.at_fac {ops:Array Oper} {T0:Array Value} {n:Nat} {L:Ks} {E:List Bx} {S:Pqs→List Spo} {G:World→Prop} {w0:Fr0} {base:Nat} (h:SymS ops T0 n L E S G w0 base) {p:Pqs} (p':Pqs) {i:Nat} {x:Spo} {f:Cf} (hi:(S p)[i]? = some x) (hf:x.fac = some f):∃ x',(S p')[i]? = some x'∧x'.fac = some f:=by
 cases x <;> simp only [Spo.fac,Option.some.injEq,reduceCtorEq] at hf
 ·subst hf; exact ⟨_,h.at_c p' hi,rfl⟩
 ·subst hf; obtain ⟨xs',x',h',-⟩:=h.at_w p' hi; exact ⟨_,h',rfl⟩
theorem SymS.mem_at {ops:Array Oper} {T0:Array Value} {n:Nat} {L:Ks} {E:List Bx} {S:Pqs→List Spo} {G:World→Prop} {w0:Fr0} {base:Nat} (h:SymS ops T0 n L E S G w0 base) (p:Pqs) {i:Nat} {x:Spo} (hi:(S p)[i]? = some x):∃ r,memOk ops E (S p) i (x :: r) = true:=by
 have:=memOk_at (S p) 0 i (h.mem p)
 rw [Nat.zero_add] at this
 obtain ⟨hlt,he⟩:=List.getElem?_eq_some_iff.1 hi
 rw [List.drop_eq_getElem_cons hlt,he] at this
 exact ⟨_,this⟩
theorem SymI.cells {ops:Array Oper} {T0:Array Value} {E:List Bx} {S:Pqs→List Spo} {G:World→Prop} {w0:Fr0} {base:Nat} {p:Pqs} {l:Array Bool} {t:Array Value} {W:World} {i:Nat} (hI:SymI ops T0 E S G w0 base p l t W) (hi:i∈Region.ready .any ops l) (hl:l[i]? = some false) {p':Pqs} (ha:Agr l p p') {j:Nat} {bx:Bx} {bo:Option Nat} (hb:boxOf E (S p') p' j = some (bx,bo)) (ht:touchOk ops i j 0 (S p') = true) (hr:Nat.blt j 1000 = true∨reach ops 4 i (j - 1000) = true) :
  W.heap[bx.b]? = some (.cells (cellsOf (isUp l) j 0 (S p') bx.cs) bx.t (0,0))∧cellsOf (isUp l) j 0 (S p') bx.cs = cellsOf (fun k=>Nat.blt k i) j 0 (S p') bx.cs∧(∀ k,bo = some k→l[k]? = some true):=by
 have hD:=hI.det p' ha
 have hal:∀ k,bo = some k→l[k]? = some true:=by
  intro k hk
  subst hk
  unfold boxOf at hb
  rcases hr with hr|hr
  ·rw [hr] at hb; simp at hb
  ·split at hb
   ·simp at hb
   ·split at hb
    ·simp only [Option.some.injEq,Prod.mk.injEq] at hb
     obtain ⟨-,rfl⟩:=hb
     exact reach_ready hD hr hi
    ·cases hb
 refine ⟨hI.mem p' ha j bx bo hb hal,cellsOf_agree _ _ _ (fun k off xs hk=>?_),hal⟩
 have:=touchOk_at (S p') 0 k off xs ht hk
 rw [Nat.zero_add] at this ⊢
 rcases this with rfl|⟨h1,h2⟩|⟨h1,h2⟩
 ·rw [isUp_no (by rw [hl]; simp)]
  symm
  cases hb9:Nat.blt k k with
  | false=>rfl
  | true=>rw [Nat.blt_eq] at hb9; omega
 ·rw [isUp_iff.2 (reach_ready hD h2 hi)]; symm; simpa [Nat.blt_eq] using h1
 ·rw [isUp_no (fun hc=>by have:=reach_done hD _ _ _ h2 hc; rw [hl] at this; cases this)]
  symm
  cases hb9:Nat.blt k i with
  | false=>rfl
  | true=>rw [Nat.blt_eq] at hb9; omega
theorem SymI.kept {ops:Array Oper} {T0:Array Value} {n:Nat} {L:Ks} {E:List Bx} {S:Pqs→List Spo} {G:World→Prop} {w0:Fr0} {base:Nat} {p:Pqs} {l:Array Bool} {t:Array Value} {W W':World} (hs:SymS ops T0 n L E S G w0 base) (hI:SymI ops T0 E S G w0 base p l t W) (hb:Below W.heap.size W W'):SymI ops T0 E S G w0 base p l t W':=
 ⟨hI.det,fun p' ha j bx bo h1 h2=>by have:=hI.mem p' ha j bx bo h1 h2; rw [hb.block _ (block_lt this)]; exact this,w0.kept hI.fr hb,Nat.le_trans hI.bs hb.size,hI.nb,hI.ne,fun k x f hk hf hl=>(f.st _).kept W W' hb (hI.fx k x f hk hf hl),hs.sta.kept W W' hb hI.gx,fun k x f b hk hf hu hc=>by obtain ⟨a1,a2,a3⟩:=hI.nk k x f b hk hf hu hc; exact ⟨a1,Nat.lt_of_lt_of_le a2 hb.size,a3⟩⟩
theorem wpOp_run {P:Program} {ops:Array Oper} {Q:Exit→Act→World→Prop} {o:Oper} {i:Nat} {a:Act} {W W':World} {nx:Next} {K:Act→World→Prop} (ho:ops[i]? = some o) (hw:Region.wanted o (yielded ops a.tmps) = true) (hr:(execOp a.eval o).run P W = .ok nx W') (h:o.upon P a K Q (.ok nx W')):wpOp P ops Q i K a W:=by
 unfold wpOp
 rw [ho]
 simp only [hw,if_true]
 left
 unfold Oper.wp
 rw [hr]; exact h
theorem Nk.up1 {S:List Spo} {p:Pqs} {l:Array Bool} {base size size' i:Nat} (h:Nk S p (fun k=>l[k]? = some true) base size) (hl:l[i]? = some false) (hn:∀ s cs t,S[i]?≠some (.n s cs t)) (hc:(S[i]?).bind Spo.fac = none) (hs:size≤size'):Nk S p (fun k=>(l.setIfInBounds i true)[k]? = some true) base size':=by
 have no:∀ (k:Nat) (x:Spo) (f:Cf),S[k]? = some x→x.fac = some f→(l.setIfInBounds i true)[k]? = some true→l[k]? = some true:=fun k x f hk hf hu=>by
  rcases (set_up hl).1 hu with rfl|hu
  ·rw [hk] at hc; simp only [Option.bind_some] at hc; rw [hf] at hc; cases hc
  ·exact hu
 intro k x f b hk hf hu hb
 obtain ⟨a1,a2,a3,a4⟩:=h k x f b hk hf (no k x f hk hf hu) hb
 refine ⟨a1,Nat.lt_of_lt_of_le a2 hs,fun k' s cs t hk' hu'=>?_,fun k' x' f' hne hk' hf' hu'=>a4 k' x' f' hne hk' hf' (no k' x' f' hk' hf' hu')⟩
 rcases (set_up hl).1 hu' with rfl|hu'
 ·exact absurd hk' (hn s cs t)
 ·exact a3 k' s cs t hk' hu'
theorem Nk.set {ops:Array Oper} {T0:Array Value} {n:Nat} {L:Ks} {E:List Bx} {S:Pqs→List Spo} {G:World→Prop} {w0:Fr0} {base:Nat} {p:Pqs} {l:Array Bool} {i size size':Nat} (hs:SymS ops T0 n L E S G w0 base) (h:Nk (S p) p (fun k=>l[k]? = some true) base size) (hl:l[i]? = some false) (q:Pq) (hz:size≤size') (hb0:base≤size)
  (h1:∀ s cs t,(S p)[i]? = some (.n s cs t)→size≤q.N) (h2:∀ x f b,(S p)[i]? = some x→x.fac = some f→f.bk q = some b→size≤b∧b < size') (hlt:∀ k s cs t,(S p)[k]? = some (.n s cs t)→l[k]? = some true→(p k).N < size) :
  Nk (S (p.set i q)) (p.set i q) (fun k=>(l.setIfInBounds i true)[k]? = some true) base size':=by
 have at':∀ k,k≠i→(p.set i q) k = p k:=fun k hk=>by simp [Pqs.set,hk]
 have ati:(p.set i q) i = q:=by simp [Pqs.set]
 intro k x f b hk hf hu hb
 obtain ⟨x2,g1,g2⟩:=hs.at_fac p hk hf
 rcases (set_up hl).1 hu with hki|hv
 ·subst hki
  rw [ati] at hb
  obtain ⟨b1,b2⟩:=h2 x2 f b g1 g2 hb
  refine ⟨Nat.le_trans hb0 b1,b2,fun k' s cs t hk' hu'=>?_,fun k' x' f' hne hk' hf' hu'=>?_⟩
  ·have g3:=hs.at_n p hk'
   rcases (set_up hl).1 hu' with hkj|hv
   ·subst hkj; rw [g1] at g3; cases g3; cases g2
   ·have hne:k'≠k:=by rintro rfl; rw [hl] at hv; cases hv
    rw [at' k' hne]
    have:=hlt k' s cs t g3 hv
    omega
  ·obtain ⟨x3,g3,g4⟩:=hs.at_fac p hk' hf'
   rcases (set_up hl).1 hu' with hkj|hv
   ·exact absurd hkj hne
   ·rw [at' k' hne]
    intro hb'
    have:=(h k' x3 f' b g3 g4 hv hb').2.1
    omega
 ·have hne:k≠i:=by rintro rfl; rw [hl] at hv; cases hv
  rw [at' k hne] at hb
  obtain ⟨a1,a2,a3,a4⟩:=h k x2 f b g1 g2 hv hb
  refine ⟨a1,Nat.lt_of_lt_of_le a2 hz,fun k' s cs t hk' hu'=>?_,fun k' x' f' hne' hk' hf' hu'=>?_⟩
  ·have g3:=hs.at_n p hk'
   rcases (set_up hl).1 hu' with hki|hv
   ·subst hki
    rw [ati]
    have:=h1 s cs t g3
    omega
   ·have hni:k'≠i:=by rintro rfl; rw [hl] at hv; cases hv
    rw [at' k' hni]; exact a3 k' s cs t g3 hv
  ·obtain ⟨x3,g3,g4⟩:=hs.at_fac p hk' hf'
   rcases (set_up hl).1 hu' with hki|hv
   ·subst hki
    rw [ati]
    intro hb'
    have:=(h2 x3 f' b g3 g4 hb').1
    omega
   ·have hni:k'≠i:=by rintro rfl; rw [hl] at hv; cases hv
    rw [at' k' hni]; exact a4 k' x3 f' hne' g3 g4 hv
theorem SymI.step_val {ops:Array Oper} {T0:Array Value} {n:Nat} {L:Ks} {E:List Bx} {S:Pqs→List Spo} {G:World→Prop} {w0:Fr0} {base:Nat} {p:Pqs} {l:Array Bool} {t:Array Value} {W:World} {i s:Nat} {x:Value} (hs:SymS ops T0 n L E S G w0 base) (hI:SymI ops T0 E S G w0 base p l t W) (hi:i∈Region.ready .any ops l) (hl:l[i]? = some false)
  (hk:∀ p',((S p')[i]?).bind Spo.sto = none) (hn:∀ p',∀ s cs t,(S p')[i]?≠some (.n s cs t)) (hc:((S p)[i]?).bind Spo.fac = none) (hv:∀ p',Agr l p p'→(puts p' 0 (S p'))[i]?.getD none = some (s,x)) :
  SymI ops T0 E S G w0 base p (l.setIfInBounds i true) (t.setIfInBounds s x) W:=by
 refine ⟨fun p' ha=>?_,fun p' ha j bx bo hb hal=>?_,hI.fr,hI.bs,fun k s' cs t' hk' hl'=>?_,fun k s' cs t' k' s'' cs'' t'' h1 h2 h3 h4 h5=>?_,fun k x' f hk' hf' hl'=>?_,hI.gx,hI.nk.up1 hl (hn p) hc (Nat.le_refl _)⟩
 ·have ha':=ha.back hl
  have:=(hI.det p' ha').step (hs.apart p') (hs.within p') hi hl
  rw [hv p' ha'] at this
  exact this
 ·have ha':=ha.back hl
  have hal':∀ k,bo = some k→l[k]? = some true:=fun k hk'=>by
   rcases (set_up hl).1 (hal k hk') with rfl|h
   ·subst hk'
    unfold boxOf at hb
    split at hb
    ·cases he:E[j]? <;> rw [he] at hb <;> simp at hb
    ·split at hb
     ·rename_i hS9
      simp only [Option.some.injEq,Prod.mk.injEq] at hb
      rw [hb.2] at hS9
      exact absurd hS9 (hn p' _ _ _)
     ·cases hb
   ·exact h
  rw [hI.mem p' ha' j bx bo hb hal']
  congr 2
  refine cellsOf_agree _ _ _ (fun k off xs hk'=>?_)
  rw [isUp_set hl,Nat.zero_add]
  have hne:Nat.beq k i = false:=by
   cases hb9:Nat.beq k i with
   | false=>rfl
   | true=>obtain rfl:=Nat.eq_of_beq_eq_true hb9; rw [hk p'] at hk'; cases hk'
  simp only [hne,Bool.or_false]
 ·rcases (set_up hl).1 hl' with rfl|h
  ·exact absurd hk' (hn p _ _ _)
  ·exact hI.nb k s' cs t' hk' h
 ·have g1:l[k]? = some true:=by
   rcases (set_up hl).1 h3 with rfl|h
   ·exact absurd h1 (hn p _ _ _)
   ·exact h
  have g2:l[k']? = some true:=by
   rcases (set_up hl).1 h4 with rfl|h
   ·exact absurd h2 (hn p _ _ _)
   ·exact h
  exact hI.ne k s' cs t' k' s'' cs'' t'' h1 h2 g1 g2 h5
 ·rcases (set_up hl).1 hl' with rfl|h
  ·rw [hk'] at hc; simp only [Option.bind_some] at hc; rw [hf'] at hc; cases hc
  ·exact hI.fx k x' f hk' hf' h
theorem lds_ok {W:World} {b:Nat} {cs:Array Value} {t:TypeId} (h:W.heap[b]? = some (.cells cs t (0,0))):∀ (vs:List Value) (off:Nat),(cs.toList.drop off).take vs.length = vs→EvsOk 0 (lds b off vs) W∧evs (lds b off vs) W = W
 | [],_,_=>⟨trivial,rfl⟩
 | v :: r,off,e=>by
  have hv:cs.toList[off]? = some v:=by
   have:=congrArg (fun L=>L[0]?) e
   simpa using this
  obtain ⟨hlt,-⟩:=List.getElem?_eq_some_iff.1 hv
  have hr:(cs.toList.drop (off+1)).take r.length = r:=by
   rw [List.drop_eq_getElem_cons hlt,List.length_cons,List.take_succ_cons] at e
   exact (List.cons.inj e).2
  obtain ⟨h1,h2⟩:=lds_ok h r (off+1) hr
  exact ⟨⟨by rw [cell_of_row W b off _ _ _ h]; simpa using hv,h1⟩,h2⟩
theorem noLimb_set {cs:Array Value} {k:Nat} {u:Value} (h:NoLimb cs.toList) (hu:∀ z,u≠.int .u32 z):NoLimb (cs.setIfInBounds k u).toList:=by
 intro v hv z
 rw [Array.toList_setIfInBounds] at hv
 rcases List.mem_or_eq_of_mem_set hv with hv|rfl
 ·exact h v hv z
 ·exact hu z
theorem noLimb_setL:∀ (xs:List Value) (k:Nat) (cs:Array Value),NoLimb cs.toList→NoLimb xs→NoLimb (setL cs k xs).toList
 | [],_,_,h,_=>h
 | x :: r,k,_,h,hx=>noLimb_setL r (k+1) _ (noLimb_set h (fun z=>hx x (List.mem_cons_self ..) z)) (fun v hv=>hx v (List.mem_cons_of_mem _ hv))
theorem setL_size:∀ (xs:List Value) (k:Nat) (cs:Array Value),(setL cs k xs).size = cs.size
 | [],_,_=>rfl
 | _ :: r,_,_=>by rw [setL,setL_size r]; simp
theorem cellsOf_size {f:Nat→Bool} {j:Nat}:∀ (S:List Spo) (i:Nat) (cs:Array Value),(cellsOf f j i S cs).size = cs.size
 | [],_,_=>rfl
 | x :: r,i,cs=>by
  simp only [cellsOf]
  rw [cellsOf_size r]
  cases x.sto with
  | none=>rfl
  | some q=>
   simp only
   split
   ·exact setL_size _ _ _
   ·rfl
theorem cellsOf_limb {ops:Array Oper} {E:List Bx} {S0:List Spo} {f:Nat→Bool} {j:Nat}:∀ (S:List Spo) (i:Nat) (cs:Array Value),memOk ops E S0 i S = true→NoLimb cs.toList→NoLimb (cellsOf f j i S cs).toList
 | [],_,_,_,h=>h
 | x :: r,i,cs,hm,h=>by
  have hr:memOk ops E S0 (i+1) r = true:=by
   cases x <;> first|exact hm|(simp only [memOk,Bool.and_eq_true] at hm; exact hm.2)
  cases hx:x.sto with
  | none=>simp only [cellsOf,hx]; exact cellsOf_limb r (i+1) cs hr h
  | some q=>
   obtain ⟨j',off,xs⟩:=q
   have hs:=memOk_sto hm hx
   simp only [stoOk,Bool.and_eq_true] at hs
   simp only [cellsOf,hx]
   refine cellsOf_limb r (i+1) _ hr ?_
   split
   ·exact noLimb_setL _ _ _ h (noLimb_of _ hs.1.2)
   ·exact h
theorem sts_ok {w0:Fr0} {b:Nat} {t:TypeId} (ht:t≠42) (hw:w0.own b):∀ (xs:List Value) (off:Nat) (cs:Array Value) (W:World),W.heap[b]? = some (.cells cs t (0,0))→off+xs.length≤cs.size→NoLimb cs.toList→NoLimb xs→xs.all (·.oneCell') = true→w0.to W →
  EvsOk 0 (sts b off xs) W∧(evs (sts b off xs) W).heap[b]? = some (.cells (setL cs off xs) t (0,0))∧(∀ k,k≠b→(evs (sts b off xs) W).heap[k]? = W.heap[k]?)∧w0.to (evs (sts b off xs) W)∧(evs (sts b off xs) W).heap.size = W.heap.size∧(∀ (b0:Option Nat) (f:World→Prop),StaB b0 f→(∀ c,b0 = some c→b≠c)→f W→f (evs (sts b off xs) W))
 | [],_,_,_,h,_,_,_,_,hb=>⟨trivial,h,fun _ _=>rfl,hb,rfl,fun _ _ _ _ hf=>hf⟩
 | x :: r,off,cs,W,h,hn,hc,hx,h1,hb=>by
  simp only [List.length_cons] at hn
  simp only [List.all_cons,Bool.and_eq_true] at h1
  have hlt:off < cs.size:=by omega
  have hset:(W.setCell ⟨b,off,none⟩ x).heap[b]? = some (.cells (cs.setIfInBounds off x) t (0,0)):=heap_setCell_same W b off _ _ _ h
  obtain ⟨g1,g2,g3,g4,g5,g6⟩:=sts_ok (w0:=w0) ht hw r (off+1) (cs.setIfInBounds off x) (W.setCell ⟨b,off,none⟩ x) hset (by simp; omega) (noLimb_set hc (fun z=>hx x (List.mem_cons_self ..) z)) (fun v hv=>hx v (List.mem_cons_of_mem _ hv)) h1.2 (w0.put off x hb hw h)
  refine ⟨⟨⟨cs[off],by rw [cell_of_row W b off _ _ _ h]; simp [hlt]⟩,frozen_of_row W b off _ _ h,h1.1,g1⟩,g2,fun k hk=>?_,g4,?_,fun b0 f hf hb0 hW=>?_⟩
  ·rw [show evs (sts b off (x :: r)) W = evs (sts b (off+1) r) (W.setCell ⟨b,off,none⟩ x) from rfl,g3 k hk]
   exact heap_setCell_other W _ k x hk
  ·rw [show evs (sts b off (x :: r)) W = evs (sts b (off+1) r) (W.setCell ⟨b,off,none⟩ x) from rfl,g5]; simp
  ·exact g6 b0 f hf hb0 (hf.put W b cs t off x h ht hc hb0 hW)
theorem puts_i {S:Pqs→List Spo} {p:Pqs} {i:Nat} {x:Spo} (h:(S p)[i]? = some x):(puts p 0 (S p))[i]?.getD none = x.put p i:=by
 rw [puts_at,h,Nat.zero_add]; rfl
theorem boxOf_cases {E:List Bx} {Z:List Spo} {p:Pqs} {j:Nat} {bx:Bx} {bo:Option Nat} (h:boxOf E Z p j = some (bx,bo)):(Nat.blt j 1000 = true∧E[j]? = some bx∧bo = none)∨(Nat.blt j 1000 = false∧∃ s cs t,Z[j - 1000]? = some (.n s cs t)∧bx = ⟨(p (j - 1000)).N,cs,t % 1000000,true⟩∧bo = some (j - 1000)):=by
 unfold boxOf at h
 split at h
 ·rename_i hb
  refine Or.inl ⟨hb,?_⟩
  cases he:E[j]? with
  | none=>rw [he] at h; simp at h
  | some x=>rw [he] at h; simp at h; exact ⟨by rw [h.1],h.2.symm⟩
 ·rename_i hb
  split at h
  ·rename_i s cs t hS
   simp only [Option.some.injEq,Prod.mk.injEq] at h
   exact Or.inr ⟨hb,s,cs,t,hS,h.1.symm,h.2.symm⟩
  ·cases h
theorem noPut_no {j:Nat}:∀ (L:List Spo),noPutB j L = true→∀ (k off:Nat) (xs:List Value),(L[k]?).bind Spo.sto≠some (j,off,xs):=by
 intro L
 induction L with
 | nil=>intro _ k off xs h; simp at h
 | cons y r ih=>
  intro hL k off xs h
  cases k with
  | zero=>
   simp only [List.getElem?_cons_zero,Option.bind_some] at h
   simp [noPutB,h] at hL
  | succ k=>
   have hr:noPutB j r = true:=by unfold noPutB at hL; exact (Bool.and_eq_true_iff.1 hL).2
   exact ih hr k off xs (by simpa using h)
theorem SymI.boxes {ops:Array Oper} {T0:Array Value} {E:List Bx} {S:Pqs→List Spo} {G:World→Prop} {w0:Fr0} {base:Nat} {p:Pqs} {l:Array Bool} {t:Array Value} {W:World} (hI:SymI ops T0 E S G w0 base p l t W):BoxesAt E (S p) W:=fun j x hj hnpj hj1=>by
 have hb:boxOf E (S p) p j = some (x,none):=by unfold boxOf; rw [hj1,hj]; rfl
 have:=hI.mem p (Agr.refl l p) j x none hb (fun k hk=>by cases hk)
 rw [this,cellsOf_none]
 intro k off xs hk
 exact absurd hk (noPut_no _ hnpj k off xs)
theorem SymI.cl {ops:Array Oper} {T0:Array Value} {E:List Bx} {S:Pqs→List Spo} {G:World→Prop} {w0:Fr0} {base:Nat} {p:Pqs} {l:Array Bool} {t:Array Value} {W:World} {i:Nat} (hI:SymI ops T0 E S G w0 base p l t W) (hi:i∈Region.ready .any ops l) (hl:l[i]? = some false):∀ (j:Nat) (bx:Bx) (bo:Option Nat),boxOf E (S p) p j = some (bx,bo)→touchOk ops i j 0 (S p) = true→(Nat.blt j 1000 = true∨reach ops 4 i (j - 1000) = true)→W.heap[bx.b]? = some (.cells (cellsOf (fun k=>Nat.blt k i) j 0 (S p) bx.cs) bx.t (0,0)):=fun j bx bo hb ht hr=>by
 obtain ⟨c1,c2,-⟩:=hI.cells hi hl (Agr.refl l p) hb ht hr
 rw [c1,c2]
theorem SymI.ap {ops:Array Oper} {T0:Array Value} {n:Nat} {L:Ks} {E:List Bx} {S:Pqs→List Spo} {G:World→Prop} {w0:Fr0} {base:Nat} {p:Pqs} {l:Array Bool} {t:Array Value} {W:World} {i:Nat} (hI:SymI ops T0 E S G w0 base p l t W) (hs:SymS ops T0 n L E S G w0 base) (hi:i∈Region.ready .any ops l):Apt ops E (S p) base p i W.heap.size:=by
 have up:∀ k,reach ops 8 i k = true→l[k]? = some true:=fun k h=>reach_ready (hI.det p (Agr.refl l p)) h hi
 refine ⟨hs.lt,fun k s cs t hk hr=>hI.nb k s cs t hk (up k hr),fun k s cs t k' s' cs' t' hk hk' hr hr' hne=>hI.ne k s cs t k' s' cs' t' hk hk' (up k hr) (up k' hr') hne,fun k x f b hk hf hr hb=>?_⟩
 obtain ⟨a1,a2,a3,a4⟩:=hI.nk k x f b hk hf (up k hr) hb
 exact ⟨a1,a2,fun k' s cs t hk' hr'=>a3 k' s cs t hk' (up k' hr'),fun k' x' f' hne hk' hf' hr'=>a4 k' x' f' hne hk' hf' (up k' hr')⟩
theorem SymI.facts {ops:Array Oper} {T0:Array Value} {E:List Bx} {S:Pqs→List Spo} {G:World→Prop} {w0:Fr0} {base:Nat} {p:Pqs} {l:Array Bool} {t:Array Value} {W:World} {i:Nat} (hI:SymI ops T0 E S G w0 base p l t W) (hi:i∈Region.ready .any ops l):FactsAt ops (S p) p i W:=fun k hre=>by
 unfold factOf
 split
 ·rename_i s' cf hk
  exact hI.fx k _ cf hk rfl (reach_ready (hI.det p (Agr.refl l p)) hre hi)
 ·rename_i cf _ hk
  exact hI.fx k _ cf hk rfl (reach_ready (hI.det p (Agr.refl l p)) hre hi)
 ·rename_i s' cs ty hk
  intro hnp
  have hb:boxOf E (S p) p (1000+k) = some (⟨(p k).N,cs,ty % 1000000,true⟩,some k):=by
   unfold boxOf
   rw [show Nat.blt (1000+k) 1000 = false from by cases h:Nat.blt (1000+k) 1000 with
    | false=>rfl
    | true=>rw [Nat.blt_eq] at h; omega]
   simp [hk]
  have h1:=hI.mem p (Agr.refl l p) (1000+k) _ (some k) hb (fun k' e=>by cases e; exact reach_ready (hI.det p (Agr.refl l p)) hre hi)
  rw [cellsOf_none] at h1
  ·exact h1
  intro k' off xs hk'
  exact absurd hk' (noPut_no _ hnp _ _ _)
 ·trivial
theorem SymI.apart {ops:Array Oper} {T0:Array Value} {n:Nat} {L:Ks} {E:List Bx} {S:Pqs→List Spo} {G:World→Prop} {w0:Fr0} {base:Nat} {p:Pqs} {l:Array Bool} {t:Array Value} {W:World} (hs:SymS ops T0 n L E S G w0 base) (hI:SymI ops T0 E S G w0 base p l t W) {j:Nat} {bx:Bx} {bo:Option Nat} (hb:boxOf E (S p) p j = some (bx,bo)) (hbo:∀ k,bo = some k→l[k]? = some true) {k:Nat} {x:Spo} {f:Cf} (hk:(S p)[k]? = some x) (hf:x.fac = some f) (hl:l[k]? = some true):∀ c,f.bk (p k) = some c→bx.b≠c:=by
 intro c hc
 obtain ⟨a1,-,a3,-⟩:=hI.nk k x f c hk hf hl hc
 rcases boxOf_cases hb with ⟨-,r2,-⟩|⟨-,s',cs',t',r2,r3,r4⟩
 ·have:=hs.lt bx (List.mem_of_getElem? r2)
  omega
 ·rw [r3]; exact a3 _ _ _ _ r2 (hbo _ r4)
theorem SymI.nlt {ops:Array Oper} {T0:Array Value} {E:List Bx} {S:Pqs→List Spo} {G:World→Prop} {w0:Fr0} {base:Nat} {p:Pqs} {l:Array Bool} {t:Array Value} {W:World} (hI:SymI ops T0 E S G w0 base p l t W):∀ k s cs t,(S p)[k]? = some (.n s cs t)→l[k]? = some true→(p k).N < W.heap.size:=fun k s cs t hk hlk=>by
 have hb:boxOf E (S p) p (k+1000) = some (⟨(p k).N,cs,t % 1000000,true⟩,some k):=by
  unfold boxOf
  have:Nat.blt (k+1000) 1000 = false:=by
   cases hb9:Nat.blt (k+1000) 1000 with
   | false=>rfl
   | true=>rw [Nat.blt_eq] at hb9; omega
  rw [this,show k+1000 - 1000 = k from by omega,hk]
 exact block_lt (hI.mem p (Agr.refl l p) _ _ _ hb (fun k' hk'=>by rw [← Option.some.inj hk']; exact hlk))
theorem SymI.step1 {P:Program} {ops:Array Oper} {Q:Exit→Act→World→Prop} {T0:Array Value} {n:Nat} {L:Ks} {E:List Bx} {S:Pqs→List Spo} {G:World→Prop} {w0:Fr0} {base:Nat} {p:Pqs} {l:Array Bool} {t:Array Value} {W:World} {i:Nat} (hs:SymS ops T0 n L E S G w0 base) (hokp:∀ p' x,(S p')[i]? = some x→OkAt P ops L E (S p') G w0 base p' i x) (hI:SymI ops T0 E S G w0 base p l t W) (hi:i∈Region.ready .any ops l) (hl:l[i]? = some false) :
  wpOp P ops Q i (fun a W'=>∃ p' t',a = ⟨t',[]⟩∧SymI ops T0 E S G w0 base p' (l.setIfInBounds i true) t' W') ⟨t,[]⟩ W:=by
 have hD:=hI.det p (Agr.refl l p)
 have hil:i < ops.size:=by rw [← hD.len]; exact (Array.getElem?_eq_some_iff.1 hl).1
 obtain ⟨sp,hsp⟩:∃ sp,(S p)[i]? = some sp:=⟨(S p)[i]'(by rw [hs.len]; exact hil),List.getElem?_eq_getElem _⟩
 have hat:=fun p' (ha:Agr l p p') {r:Nat} {vs:List Value} {d:Option Nat} {b:Bool} {x:Option (Next×List Ev)} (h:opRun P ops L (puts p' 0 (S p')) i r vs = some (d,b,x))=>opRun_at hs.kn (hI.det p' ha) (hs.apart p') (hs.reads p') hi hl h
 cases sp with
 | v s x=>
  have h0:=hokp p _ hsp
  obtain ⟨o,ho,hd,hw,hr⟩:=hat p (Agr.refl l p) h0
  have hrun:=script_run P 0 _ _ _ _ W hr trivial
  refine wpOp_run ho hw hrun ?_
  show ∃ p' t',_
  rw [hd]
  refine ⟨p,_,rfl,hI.step_val hs hi hl (fun p'=>?_) (fun p' s' cs t' h=>?_) ?_ (fun p' ha=>?_)⟩
  ·obtain ⟨x',hx'⟩:=hs.at_v p' hsp; rw [hx']; rfl
  ·obtain ⟨x',hx'⟩:=hs.at_v p' hsp; rw [h] at hx'; cases hx'
  ·rw [hsp]; rfl
  ·obtain ⟨x',hx'⟩:=hs.at_v p' hsp
   rw [puts_i hx']
   obtain ⟨o',ho',-,-,hr'⟩:=hat p' ha (hokp p' _ hx')
   rw [ho] at ho'; cases ho'
   have hrun':=script_run P 0 _ _ _ _ W hr' trivial
   rw [hrun] at hrun'
   cases hrun'; rfl
 | l s x j off=>
  have hrn:∀ p',Agr l p p'→∀ x',(S p')[i]? = some (.l s x' j off)→∃ o,ops[i]? = some o∧o.dst = some s∧Region.wanted o (yielded ops t) = true∧(execOp (Act.eval ⟨t,[]⟩) o).run P W = .ok (.value x') W:=fun p' ha x' hx'=>by
   obtain ⟨bx,bo,hb,h0,he⟩:=hokp p' _ hx'
   obtain ⟨o,ho,hd,hw,hr⟩:=hat p' ha h0
   obtain ⟨rr,hm⟩:=hs.mem_at p' hx'
   simp only [memOk,Bool.and_eq_true,Bool.or_eq_true] at hm
   obtain ⟨c1,c2,-⟩:=hI.cells hi hl ha hb hm.1.1 hm.1.2
   rw [← c2,← Array.length_toList] at he
   obtain ⟨g1,g2⟩:=lds_ok c1 _ _ he
   have hrun:=script_run P 0 _ _ _ _ W hr g1
   rw [g2] at hrun
   exact ⟨o,ho,hd,hw,hrun⟩
  obtain ⟨o,ho,hd,hw,hrun⟩:=hrn p (Agr.refl l p) x hsp
  refine wpOp_run ho hw hrun ?_
  show ∃ p' t',_
  rw [hd]
  refine ⟨p,_,rfl,hI.step_val hs hi hl (fun p'=>?_) (fun p' s' cs t' h=>?_) ?_ (fun p' ha=>?_)⟩
  ·obtain ⟨x',hx'⟩:=hs.at_l p' hsp; rw [hx']; rfl
  ·obtain ⟨x',hx'⟩:=hs.at_l p' hsp; rw [h] at hx'; cases hx'
  ·rw [hsp]; rfl
  ·obtain ⟨x',hx'⟩:=hs.at_l p' hsp
   rw [puts_i hx']
   obtain ⟨o',ho',-,-,hrun'⟩:=hrn p' ha x' hx'
   rw [ho] at ho'; cases ho'
   rw [hrun] at hrun'
   cases hrun'; rfl
 | g s x vs es=>
  have hrn:∀ p',Agr l p p'→SymI ops T0 E S G w0 base p' l t W→∀ x' vs' es',(S p')[i]? = some (.g s x' vs' es')→∃ o,ops[i]? = some o∧o.dst = some s∧Region.wanted o (yielded ops t) = true∧(execOp (Act.eval ⟨t,[]⟩) o).run P W = .ok (.value x') W:=fun p' ha hI' x' vs' es' hx'=>by
   obtain ⟨h0,he⟩:=hokp p' _ hx'
   obtain ⟨o,ho,hd,hw,hr⟩:=hat p' ha h0
   obtain ⟨g1,g2⟩:=he W ⟨hI'.bs,hI'.fr,hI'.facts hi,hI'.gx,hI'.boxes,hI'.ap hs hi,hI'.cl hi hl⟩
   have hrun:=script_run P 0 _ _ _ _ W hr g1
   rw [g2] at hrun
   exact ⟨o,ho,hd,hw,hrun⟩
  have hto:∀ p',Agr l p p'→SymI ops T0 E S G w0 base p' l t W:=fun p' ha=>
   ⟨fun p'' h=>hI.det p'' (fun k hk=>(h k hk).trans (ha k hk)),fun p'' h=>hI.mem p'' (fun k hk=>(h k hk).trans (ha k hk)),hI.fr,hI.bs,fun k s' cs t' hk hl'=>by rw [ha k hl']; exact hI.nb k s' cs t' (hs.at_n p hk) hl',fun k s' cs t' k' s'' cs'' t'' h1 h2 h3 h4 h5=>by rw [ha k h3,ha k' h4]; exact hI.ne k s' cs t' k' s'' cs'' t'' (hs.at_n p h1) (hs.at_n p h2) h3 h4 h5,fun k x f hk hf hl'=>by rw [ha k hl']; obtain ⟨x2,h2,h3⟩:=hs.at_fac p hk hf; exact hI.fx k x2 f h2 h3 hl',hI.gx,fun k x f b hk hf hu hb=>by
    obtain ⟨x2,h2,h3⟩:=hs.at_fac p hk hf
    rw [ha k hu] at hb
    obtain ⟨a1,a2,a3,a4⟩:=hI.nk k x2 f b h2 h3 hu hb
    exact ⟨a1,a2,fun k' s cs t hk' hu'=>by rw [ha k' hu']; exact a3 k' s cs t (hs.at_n p hk') hu',fun k' x' f' hne hk' hf' hu'=>by obtain ⟨x3,g3,g4⟩:=hs.at_fac p hk' hf'; rw [ha k' hu']; exact a4 k' x3 f' hne g3 g4 hu'⟩⟩
  obtain ⟨o,ho,hd,hw,hrun⟩:=hrn p (Agr.refl l p) hI x vs es hsp
  refine wpOp_run ho hw hrun ?_
  show ∃ p' t',_
  rw [hd]
  refine ⟨p,_,rfl,hI.step_val hs hi hl (fun p'=>?_) (fun p' s' cs t' h=>?_) ?_ (fun p' ha=>?_)⟩
  ·obtain ⟨x',vs',es',hx'⟩:=hs.at_g p' hsp; rw [hx']; rfl
  ·obtain ⟨x',vs',es',hx'⟩:=hs.at_g p' hsp; rw [h] at hx'; cases hx'
  ·rw [hsp]; rfl
  ·obtain ⟨x',vs',es',hx'⟩:=hs.at_g p' hsp
   rw [puts_i hx']
   obtain ⟨o',ho',-,-,hrun'⟩:=hrn p' ha (hto p' ha) x' vs' es' hx'
   rw [ho] at ho'; cases ho'
   rw [hrun] at hrun'
   cases hrun'; rfl
 | k s=>
  obtain ⟨x,h0⟩:=hokp p _ hsp
  obtain ⟨o,ho,hd,hw,hr⟩:=hat p (Agr.refl l p) h0
  have hnp:∀ p',((S p')[i]?).bind Spo.sto = none:=fun p'=>by rw [hs.at_k p' hsp]; rfl
  have hnn:∀ p' s' cs t',(S p')[i]?≠some (.n s' cs t'):=fun p' s' cs t' h=>by have:=hs.at_k p' hsp; rw [h] at this; cases this
  have hc:((S p)[i]?).bind Spo.fac = none:=by rw [hsp]; rfl
  unfold wpOp
  rw [ho]
  simp only [hw,Bool.false_eq_true,if_false]
  rw [hd]
  cases s with
  | some s=>
   exact ⟨p,_,rfl,hI.step_val hs hi hl hnp hnn hc (fun p' ha=>by rw [puts_i (hs.at_k p' hsp)]; rfl)⟩
  | none=>
   refine ⟨p,t,rfl,?_⟩
   refine ⟨fun p' ha=>?_,fun p' ha j bx bo hb hal=>?_,hI.fr,hI.bs,fun k s' cs t' hk' hl'=>?_,fun k s' cs t' k' s'' cs'' t'' h1 h2 h3 h4 h5=>?_,fun k x' f hk' hf' hl'=>?_,hI.gx,hI.nk.up1 hl (hnn p) hc (Nat.le_refl _)⟩
   ·have ha':=ha.back hl
    have:=(hI.det p' ha').step (hs.apart p') (hs.within p') hi hl
    rw [puts_i (hs.at_k p' hsp)] at this
    exact this
   ·have ha':=ha.back hl
    have hal':∀ k,bo = some k→l[k]? = some true:=fun k hk'=>by
     rcases (set_up hl).1 (hal k hk') with rfl|h
     ·rcases boxOf_cases hb with ⟨-,-,h⟩|⟨-,s',cs,t',h,-,h2⟩
      ·rw [h] at hk'; cases hk'
      ·rw [h2] at hk'; have hk':=Option.some.inj hk'; rw [hk'] at h; exact absurd h (hnn p' _ _ _)
     ·exact h
    rw [hI.mem p' ha' j bx bo hb hal']
    congr 2
    refine cellsOf_agree _ _ _ (fun k off xs hk'=>?_)
    rw [isUp_set hl,Nat.zero_add]
    have hne:Nat.beq k i = false:=by
     cases hb9:Nat.beq k i with
     | false=>rfl
     | true=>obtain rfl:=Nat.eq_of_beq_eq_true hb9; rw [hnp p'] at hk'; cases hk'
    simp only [hne,Bool.or_false]
   ·rcases (set_up hl).1 hl' with rfl|h
    ·exact absurd hk' (hnn p _ _ _)
    ·exact hI.nb k s' cs t' hk' h
   ·have g1:l[k]? = some true:=by
     rcases (set_up hl).1 h3 with rfl|h
     ·exact absurd h1 (hnn p _ _ _)
     ·exact h
    have g2:l[k']? = some true:=by
     rcases (set_up hl).1 h4 with rfl|h
     ·exact absurd h2 (hnn p _ _ _)
     ·exact h
    exact hI.ne k s' cs t' k' s'' cs'' t'' h1 h2 g1 g2 h5
   ·rcases (set_up hl).1 hl' with rfl|h
    ·rw [hk'] at hc; simp only [Option.bind_some] at hc; rw [hf'] at hc; cases hc
    ·exact hI.fx k x' f hk' hf' h
 | p j off xs=>
  have hc:((S p)[i]?).bind Spo.fac = none:=by rw [hsp]; rfl
  have hnn:∀ p' s' cs t',(S p')[i]?≠some (.n s' cs t'):=fun p' s' cs t' h=>by obtain ⟨x',this⟩:=hs.at_p p' hsp; rw [h] at this; cases this
  have hrn:∀ p',Agr l p p'→∀ xs',(S p')[i]? = some (.p j off xs')→∃ o bx bo W',ops[i]? = some o∧o.dst = none∧Region.wanted o (yielded ops t) = true∧(execOp (Act.eval ⟨t,[]⟩) o).run P W = .ok .skip W'∧boxOf E (S p') p' j = some (bx,bo)∧(∀ k,bo = some k→l[k]? = some true)∧bx.my = true∧W'.heap[bx.b]? = some (.cells (setL (cellsOf (isUp l) j 0 (S p') bx.cs) off xs') bx.t (0,0))∧(∀ k,k≠bx.b→W'.heap[k]? = W.heap[k]?)∧w0.to W'∧W'.heap.size = W.heap.size∧(∀ (b0:Option Nat) (f:World→Prop),StaB b0 f→(∀ c,b0 = some c→bx.b≠c)→f W→f W'):=fun p' ha xs' hx'=>by
   obtain ⟨bx,bo,hb,h0,he⟩:=hokp p' _ hx'
   obtain ⟨o,ho,hd,hw,hr⟩:=hat p' ha h0
   obtain ⟨rr,hm⟩:=hs.mem_at p' hx'
   have hm0:=hm
   simp only [memOk,stoOk,Bool.and_eq_true] at hm
   have hmy:bx.my = true∧w0.own bx.b∧(NoLimb bx.cs.toList∧bx.t≠42)∧(Nat.blt j 1000 = true∨reach ops 4 i (j - 1000) = true):=by
    have h2:=hm.1.1.1.2
    rcases boxOf_cases hb with ⟨hj,hE,-⟩|⟨hj,s',cs,t',hS,rfl,rfl⟩
    ·rw [hj,hE] at h2
     have h3:=List.all_eq_true.1 hs.eb bx (List.mem_of_getElem? hE)
     simp only at h2
     rw [h2] at h3
     simp only [Bool.not_true,Bool.false_or,Bool.and_eq_true,bne_iff_ne] at h3
     exact ⟨h2,hs.low bx (List.mem_of_getElem? hE) h2,⟨noLimb_of _ h3.1,h3.2⟩,Or.inl hj⟩
    ·rw [hj] at h2
     simp only [hS,Bool.and_eq_true,bne_iff_ne] at h2
     have hdn:=reach_ready (hI.det p' ha) h2.1 hi
     have hSp:(S p)[j - 1000]? = some (.n s' cs t'):=hs.at_n p hS
     have hN:=ha _ hdn
     refine ⟨rfl,?_,⟨noLimb_of _ h2.2.1,h2.2.2⟩,Or.inr h2.1⟩
     show w0.own (p' (j - 1000)).N
     rw [hN]
     exact w0.new (Nat.le_trans hs.w0b (hI.nb _ _ _ _ hSp hdn))
   obtain ⟨hmy,hlow,⟨hlim,hty⟩,hre⟩:=hmy
   obtain ⟨c1,c2,c3⟩:=hI.cells hi hl ha hb hm.1.1.1.1 hre
   obtain ⟨g1,g2,g3,g4,g5,g6⟩:=sts_ok (w0:=w0) hty hlow xs' off _ W c1 (by rw [cellsOf_size]; exact Nat.le_of_ble_eq_true he) (cellsOf_limb _ _ _ (hs.mem p') hlim) (noLimb_of _ hm.1.1.2) hm.1.2 hI.fr
   exact ⟨o,bx,bo,_,ho,hd,hw,script_run P 0 _ _ _ _ W hr g1,hb,c3,hmy,g2,g3,g4,g5,g6⟩
  obtain ⟨o,bx,bo,W',ho,hd,hw,hrun,hb,hbo,hmy,k2,k3,k4,k5,k6⟩:=hrn p (Agr.refl l p) xs hsp
  refine wpOp_run ho hw hrun ?_
  show ∃ p' t',_
  rw [hd]
  refine ⟨p,t,rfl,?_⟩
  refine ⟨fun p' ha=>?_,fun p' ha j2 bx2 bo2 hb2 hal=>?_,k4,by rw [k5]; exact hI.bs,fun k s' cs t' hk' hl'=>?_,fun k s' cs t' k' s'' cs'' t'' h1 h2 h3 h4 h5=>?_,fun k x' f hk' hf' hl'=>?_,k6 none _ (hs.sta.b none) (fun _ h=>nomatch h) hI.gx,hI.nk.up1 hl (hnn p) hc (by rw [k5]; exact Nat.le_refl _)⟩
  ·have ha':=ha.back hl
   obtain ⟨xs',hx'⟩:=hs.at_p p' hsp
   have:=(hI.det p' ha').step (hs.apart p') (hs.within p') hi hl
   rw [puts_i hx'] at this
   exact this
  ·have ha':=ha.back hl
   obtain ⟨xs',hx'⟩:=hs.at_p p' hsp
   obtain ⟨o',bx',bo',W'',ho',-,-,hrun',hb',hbo',hmy',e2,e3,-,-,-⟩:=hrn p' ha' xs' hx'
   rw [ho] at ho'; cases ho'
   rw [hrun] at hrun'
   cases hrun'
   have hal':∀ k,bo2 = some k→l[k]? = some true:=fun k hk'=>by
    rcases (set_up hl).1 (hal k hk') with rfl|h
    ·rcases boxOf_cases hb2 with ⟨-,-,h⟩|⟨-,s',cs,t',h,-,h2⟩
     ·rw [h] at hk'; cases hk'
     ·rw [h2] at hk'; have hk':=Option.some.inj hk'; rw [hk'] at h; exact absurd h (hnn p' _ _ _)
    ·exact h
   rw [isUp_set hl]
   by_cases hj:j2 = j
   ·subst hj
    rw [hb'] at hb2
    cases hb2
    have hmm:=hs.mem_at p' hx'
    obtain ⟨rr,hm⟩:=hmm
    simp only [memOk,stoOk,Bool.and_eq_true] at hm
    have:=cellsOf_put (f:=isUp l) (S p') 0 i off xs' bx2.cs (by rw [hx']; rfl) (by rw [Nat.zero_add]; exact isUp_no (by rw [hl]; simp)) (fun k' off' xs'' hk' hlt=>by
     have ht:=touchOk_at (S p') 0 k' off' xs'' hm.1.1.1.1 hk'
     rw [Nat.zero_add] at ht ⊢
     refine isUp_no (fun hup=>?_)
     rcases ht with h|h|h
     ·omega
     ·omega
     ·have:=reach_done (hI.det p' ha') _ _ _ h.2 hup; rw [hl] at this; cases this)
    rw [Nat.zero_add] at this
    rw [this]; exact e2
   ·have hne:bx2.b≠bx'.b:=by
     rcases boxOf_cases hb2 with ⟨q1,q2,q3⟩|⟨q1,s1,cs1,t1,q2,q3,q4⟩
     ·rcases boxOf_cases hb' with ⟨r1,r2,r3⟩|⟨r1,s2,cs2,t2,r2,r3,r4⟩
      ·exact Ne.symm (hs.ne j j2 bx' bx2 r2 q2 hmy' (Ne.symm hj))
      ·have h1:=hs.lt bx2 (List.mem_of_getElem? q2)
       have hdn:=hbo' _ r4
       have h2:=hI.nb _ _ _ _ (hs.at_n p r2) hdn
       rw [r3]
       show bx2.b≠(p' (j - 1000)).N
       rw [ha' _ hdn]; omega
     ·have hdn1:=hal' _ q4
      rcases boxOf_cases hb' with ⟨r1,r2,r3⟩|⟨r1,s2,cs2,t2,r2,r3,r4⟩
      ·have h1:=hs.lt bx' (List.mem_of_getElem? r2)
       have h2:=hI.nb _ _ _ _ (hs.at_n p q2) hdn1
       rw [q3]
       show (p' (j2 - 1000)).N≠bx'.b
       rw [ha' _ hdn1]; omega
      ·have hdn2:=hbo' _ r4
       rw [q3,r3]
       show (p' (j2 - 1000)).N≠(p' (j - 1000)).N
       rw [ha' _ hdn1,ha' _ hdn2]
       refine hI.ne _ _ _ _ _ _ _ _ (hs.at_n p q2) (hs.at_n p r2) hdn1 hdn2 (fun e=>hj ?_)
       have a1:¬ j < 1000:=fun hc=>by rw [show Nat.blt j 1000 = true from by rw [Nat.blt_eq]; exact hc] at r1; cases r1
       have a2:¬ j2 < 1000:=fun hc=>by rw [show Nat.blt j2 1000 = true from by rw [Nat.blt_eq]; exact hc] at q1; cases q1
       omega
    rw [e3 _ hne,hI.mem p' ha' j2 bx2 bo2 hb2 hal']
    congr 2
    refine cellsOf_agree _ _ _ (fun k off' xs'' hk'=>?_)
    rw [Nat.zero_add]
    have hki:Nat.beq k i = false:=by
     cases hb9:Nat.beq k i with
     | false=>rfl
     | true=>
      obtain rfl:=Nat.eq_of_beq_eq_true hb9
      rw [hx'] at hk'
      change some (j,off,xs') = some _ at hk'
      cases hk'
      exact absurd rfl hj
    simp only [hki,Bool.or_false]
  ·rcases (set_up hl).1 hl' with rfl|h
   ·exact absurd hk' (hnn p _ _ _)
   ·exact hI.nb k s' cs t' hk' h
  ·have g1:l[k]? = some true:=by
    rcases (set_up hl).1 h3 with rfl|h
    ·exact absurd h1 (hnn p _ _ _)
    ·exact h
   have g2:l[k']? = some true:=by
    rcases (set_up hl).1 h4 with rfl|h
    ·exact absurd h2 (hnn p _ _ _)
    ·exact h
   exact hI.ne k s' cs t' k' s'' cs'' t'' h1 h2 g1 g2 h5
  ·rcases (set_up hl).1 hl' with rfl|h
   ·rw [hk'] at hc; simp only [Option.bind_some] at hc; rw [hf'] at hc; cases hc
   ·exact k6 _ _ (f.st _) (hI.apart hs hb hbo hk' hf' h) (hI.fx k x' f hk' hf' h)
 | n s cs t0=>
  have hc:((S p)[i]?).bind Spo.fac = none:=by rw [hsp]; rfl
  have h0:=hokp p _ hsp W.heap.size
  obtain ⟨o,ho,hd,hw,hr⟩:=hat p (Agr.refl l p) h0
  have hrun:=script_run P W.heap.size _ _ _ _ W hr ⟨rfl,trivial⟩
  refine wpOp_run ho hw hrun ?_
  show ∃ p' t',_
  rw [hd]
  have hbl:=gr_alloc W (.cells cs (t0 % 1000000))
  refine ⟨p.set i { pq0 with N:=W.heap.size },_,rfl,?_⟩
  refine ⟨fun p' ha=>?_,fun p' ha j bx bo hb hal=>?_,w0.kept hI.fr hbl,Nat.le_trans hI.bs hbl.size,fun k s' cs' t' hk' hl'=>?_,fun k s' cs' t' k' s'' cs'' t'' h1 h2 h3 h4 h5=>?_,fun k x' f' hk' hf' hl'=>?_,hs.sta.kept W _ hbl hI.gx,Nk.set hs hI.nk hl _ hbl.size hI.bs (fun _ _ _ _=>Nat.le_refl _) (fun x f b hk hf _=>by rw [hsp] at hk; cases hk; cases hf) hI.nlt⟩
  ·obtain ⟨ha',hq⟩:=ha.backS hl
   have:=(hI.det p' ha').step (hs.apart p') (hs.within p') hi hl
   rw [puts_i (hs.at_n p' hsp)] at this
   simp only [Spo.put,hq] at this
   exact this
  ·obtain ⟨ha',hq⟩:=ha.backS hl
   have hnp:((S p')[i]?).bind Spo.sto = none:=by rw [hs.at_n p' hsp]; rfl
   have hcell:∀ cs',cellsOf (isUp (l.setIfInBounds i true)) j 0 (S p') cs' = cellsOf (isUp l) j 0 (S p') cs':=fun cs'=>by
    refine cellsOf_agree _ _ _ (fun k off xs hk'=>?_)
    rw [isUp_set hl,Nat.zero_add]
    have hne:Nat.beq k i = false:=by
     cases hb9:Nat.beq k i with
     | false=>rfl
     | true=>obtain rfl:=Nat.eq_of_beq_eq_true hb9; rw [hnp] at hk'; cases hk'
    simp only [hne,Bool.or_false]
   by_cases hbi:bo = some i
   ·rcases boxOf_cases hb with ⟨q1,q2,q3⟩|⟨q1,s1,cs1,t1,q2,q3,q4⟩
    ·rw [q3] at hbi; cases hbi
    ·rw [q4] at hbi
     have hji:=Option.some.inj hbi
     rw [hji,hs.at_n p' hsp] at q2
     cases q2
     rw [q3,hji,hq,hcell,cellsOf_none]
     ·exact heap_alloc_new W _
     ·intro k off xs hk'
      rw [Nat.zero_add]
      obtain ⟨x9,hx9,hs9⟩:=Option.bind_eq_some_iff.1 hk'
      obtain ⟨rr,hm⟩:=hs.mem_at p' hx9
      have hm:=memOk_sto hm hs9
      simp only [stoOk,Bool.and_eq_true,q1,hji] at hm
      exact isUp_no (fun hup=>by have:=reach_done (hI.det p' ha') _ _ _ hm.1.1.2.1 hup; rw [hl] at this; cases this)
   ·have hal':∀ k,bo = some k→l[k]? = some true:=fun k hk'=>by
     rcases (set_up hl).1 (hal k hk') with rfl|h
     ·exact absurd hk' hbi
     ·exact h
    have:=hI.mem p' ha' j bx bo hb hal'
    show (W.alloc _).heap[bx.b]? = _
    rw [hcell,hbl.block _ (block_lt this)]; exact this
  ·rcases (set_up hl).1 hl' with rfl|h
   ·simp only [Pqs.set,if_true]; exact hI.bs
   ·have hne:k≠i:=by rintro rfl; rw [hl] at h; cases h
    simp only [Pqs.set,hne,if_false]
    exact hI.nb k s' cs' t' (hs.at_n p hk') h
  ·have hlt:∀ k s cs t,(S p)[k]? = some (.n s cs t)→l[k]? = some true→(p k).N < W.heap.size:=fun k s cs t hk hlk=>by
    have hb:boxOf E (S p) p (k+1000) = some (⟨(p k).N,cs,t % 1000000,true⟩,some k):=by
     unfold boxOf
     have:Nat.blt (k+1000) 1000 = false:=by
      cases hb9:Nat.blt (k+1000) 1000 with
      | false=>rfl
      | true=>rw [Nat.blt_eq] at hb9; omega
     rw [this,show k+1000 - 1000 = k from by omega,hk]
    exact block_lt (hI.mem p (Agr.refl l p) _ _ _ hb (fun k' hk'=>by rw [← Option.some.inj hk']; exact hlk))
   rcases (set_up hl).1 h3 with rfl|g1
   ·rcases (set_up hl).1 h4 with rfl|g2
    ·exact absurd rfl h5
    ·have:=hlt k' _ _ _ (hs.at_n p h2) g2
     have hne:k'≠k:=Ne.symm h5
     simp only [Pqs.set,hne,if_true,if_false]; omega
   ·have hne:k≠i:=by rintro rfl; rw [hl] at g1; cases g1
    rcases (set_up hl).1 h4 with rfl|g2
    ·have:=hlt k _ _ _ (hs.at_n p h1) g1
     simp only [Pqs.set,hne,if_true,if_false]; omega
    ·have hne':k'≠i:=by rintro rfl; rw [hl] at g2; cases g2
     simp only [Pqs.set,hne,hne',if_false]
     exact hI.ne k s' cs' t' k' s'' cs'' t'' (hs.at_n p h1) (hs.at_n p h2) g1 g2 h5
  ·obtain ⟨x2,h2,h3⟩:=hs.at_fac p hk' hf'
   rcases (set_up hl).1 hl' with rfl|h
   ·rw [h2] at hc; simp only [Option.bind_some] at hc; rw [h3] at hc; cases hc
   ·have hne:k≠i:=by rintro rfl; rw [hl] at h; cases h
    simp only [Pqs.set,hne,if_false]
    exact (f'.st _).kept W _ hbl (hI.fx k x2 f' h2 h3 h)
 | u s x g=>
  obtain ⟨fn,args,h0,hx,hcall⟩:=hokp p _ hsp
  obtain ⟨o,ho,hd,hw,hr⟩:=hat p (Agr.refl l p) h0
  have hrun:=script_run P 0 _ _ _ _ W hr trivial
  refine wpOp_run ho hw hrun ?_
  show Calls P fn args W _
  refine (hcall W ⟨hI.bs,hI.fr,hI.facts hi,hI.gx,hI.boxes,hI.ap hs hi,hI.cl hi hl⟩).mono ?_
  rintro en W' ⟨rfl,hbl⟩
  show ∃ p' t',_
  rw [hd]
  refine ⟨p,_,rfl,(hI.kept hs hbl).step_val hs hi hl (fun p'=>?_) (fun p' s' cs t' h=>?_) ?_ (fun p' ha=>?_)⟩
  ·obtain ⟨x',hx'⟩:=hs.at_u p' hsp; rw [hx']; rfl
  ·obtain ⟨x',hx'⟩:=hs.at_u p' hsp; rw [h] at hx'; cases hx'
  ·rw [hsp]; rfl
  ·obtain ⟨x',hx'⟩:=hs.at_u p' hsp
   rw [puts_i hx']
   obtain ⟨fn',args',h0',hxx,-⟩:=hokp p' _ hx'
   obtain ⟨o',ho',-,-,hr'⟩:=hat p' ha h0'
   rw [ho] at ho'; cases ho'
   rw [hr] at hr'
   cases hr'
   rw [hx] at hxx
   subst hxx; rfl
 | c s f=>
  obtain ⟨fn,args,h0,hcall⟩:=hokp p _ hsp
  obtain ⟨o,ho,hd,hw,hr⟩:=hat p (Agr.refl l p) h0
  have hrun:=script_run P 0 _ _ _ _ W hr trivial
  refine wpOp_run ho hw hrun ?_
  have hnp:∀ p',((S p')[i]?).bind Spo.sto = none:=fun p'=>by rw [hs.at_c p' hsp]; rfl
  have hnn:∀ p' s' cs t',(S p')[i]?≠some (.n s' cs t'):=fun p' s' cs t' h=>by have:=hs.at_c p' hsp; rw [h] at this; cases this
  show Calls P fn args W _
  refine (hcall W ⟨hI.bs,hI.fr,hI.facts hi,hI.gx,hI.boxes,hI.ap hs hi,hI.cl hi hl⟩).mono ?_
  rintro en W' ⟨q,rfl,hbl,hfq,hnk⟩
  show ∃ p' t',_
  rw [hd]
  refine ⟨p.set i q,putD (s.map fun s=>(s,f.f q)) t,by cases s <;> rfl,?_⟩
  refine ⟨fun p' ha=>?_,fun p' ha j bx bo hb hal=>?_,w0.kept hI.fr hbl,Nat.le_trans hI.bs hbl.size,fun k s' cs' t' hk' hl'=>?_,fun k s' cs' t' k' s'' cs'' t'' h1 h2 h3 h4 h5=>?_,fun k x' f' hk' hf' hl'=>?_,hs.sta.kept W _ hbl hI.gx,Nk.set hs hI.nk hl q hbl.size hI.bs (fun s' cs' t' h=>absurd h (hnn p s' cs' t')) (fun x f' b hk hf hb=>by rw [hsp] at hk; cases hk; cases hf; exact hnk b hb) hI.nlt⟩
  ·obtain ⟨ha',hq⟩:=ha.backS hl
   have:=(hI.det p' ha').step (hs.apart p') (hs.within p') hi hl
   rw [puts_i (hs.at_c p' hsp)] at this
   simp only [Spo.put,hq] at this
   exact this
  ·obtain ⟨ha',hq⟩:=ha.backS hl
   have hal':∀ k,bo = some k→l[k]? = some true:=fun k hk'=>by
    rcases (set_up hl).1 (hal k hk') with rfl|h
    ·rcases boxOf_cases hb with ⟨-,-,h⟩|⟨-,s',cs,t',h,-,h2⟩
     ·rw [h] at hk'; cases hk'
     ·rw [h2] at hk'; have hk':=Option.some.inj hk'; rw [hk'] at h; exact absurd h (hnn p' _ _ _)
    ·exact h
   have:=hI.mem p' ha' j bx bo hb hal'
   rw [hbl.block _ (block_lt this),this]
   congr 2
   refine cellsOf_agree _ _ _ (fun k off xs hk'=>?_)
   rw [isUp_set hl,Nat.zero_add]
   have hne:Nat.beq k i = false:=by
    cases hb9:Nat.beq k i with
    | false=>rfl
    | true=>obtain rfl:=Nat.eq_of_beq_eq_true hb9; rw [hnp p'] at hk'; cases hk'
   simp only [hne,Bool.or_false]
  ·rcases (set_up hl).1 hl' with rfl|h
   ·exact absurd hk' (hnn _ _ _ _)
   ·have hne:k≠i:=by rintro rfl; rw [hl] at h; cases h
    simp only [Pqs.set,hne,if_false]
    exact hI.nb k s' cs' t' (hs.at_n p hk') h
  ·have g1:l[k]? = some true:=by
    rcases (set_up hl).1 h3 with rfl|h
    ·exact absurd h1 (hnn _ _ _ _)
    ·exact h
   have g2:l[k']? = some true:=by
    rcases (set_up hl).1 h4 with rfl|h
    ·exact absurd h2 (hnn _ _ _ _)
    ·exact h
   have hne:k≠i:=by rintro rfl; rw [hl] at g1; cases g1
   have hne':k'≠i:=by rintro rfl; rw [hl] at g2; cases g2
   simp only [Pqs.set,hne,hne',if_false]
   exact hI.ne k s' cs' t' k' s'' cs'' t'' (hs.at_n p h1) (hs.at_n p h2) g1 g2 h5
  ·rcases (set_up hl).1 hl' with rfl|h
   ·rw [hs.at_c (p.set k q) hsp] at hk'
    cases hk'
    cases hf'
    simp only [Pqs.set,if_true]; exact hfq
   ·have hne:k≠i:=by rintro rfl; rw [hl] at h; cases h
    simp only [Pqs.set,hne,if_false]
    obtain ⟨x2,h2,h3⟩:=hs.at_fac p hk' hf'
    exact (f'.st _).kept W _ hbl (hI.fx k x2 f' h2 h3 h)
 | w s j off xs g f x=>
  have hnn:∀ p' s' cs t',(S p')[i]?≠some (.n s' cs t'):=fun p' s' cs t' h=>by obtain ⟨x',y',this,-⟩:=hs.at_w p' hsp; rw [h] at this; cases this
  have hmy:∀ p',Agr l p p'→∀ xs' x',(S p')[i]? = some (.w s j off xs' g f x')→∀ bx bo,boxOf E (S p') p' j = some (bx,bo)→bx.my = true∧w0.own bx.b∧(NoLimb bx.cs.toList∧bx.t≠42)∧(Nat.blt j 1000 = true∨reach ops 4 i (j - 1000) = true)∧touchOk ops i j 0 (S p') = true∧NoLimb xs'∧xs'.all (·.oneCell') = true∧(∀ k,bo = some k→l[k]? = some true):=fun p' ha xs' x' hx' bx bo hb=>by
   obtain ⟨rr,hm⟩:=hs.mem_at p' hx'
   simp only [memOk,stoOk,Bool.and_eq_true] at hm
   have h2:=hm.1.1.1.2
   rcases boxOf_cases hb with ⟨hj,hE,hbo⟩|⟨hj,s',cs,t',hS,rfl,rfl⟩
   ·rw [hj,hE] at h2
    have h3:=List.all_eq_true.1 hs.eb bx (List.mem_of_getElem? hE)
    simp only at h2
    rw [h2] at h3
    simp only [Bool.not_true,Bool.false_or,Bool.and_eq_true,bne_iff_ne] at h3
    exact ⟨h2,hs.low bx (List.mem_of_getElem? hE) h2,⟨noLimb_of _ h3.1,h3.2⟩,Or.inl hj,hm.1.1.1.1,noLimb_of _ hm.1.1.2,hm.1.2,fun k hk=>by rw [hbo] at hk; cases hk⟩
   ·rw [hj] at h2
    simp only [hS,Bool.and_eq_true,bne_iff_ne] at h2
    have hdn:=reach_ready (hI.det p' ha) h2.1 hi
    have hSp:(S p)[j - 1000]? = some (.n s' cs t'):=hs.at_n p hS
    have hN:=ha _ hdn
    refine ⟨rfl,?_,⟨noLimb_of _ h2.2.1,h2.2.2⟩,Or.inr h2.1,hm.1.1.1.1,noLimb_of _ hm.1.1.2,hm.1.2,fun k hk=>by rw [← Option.some.inj hk]; exact hdn⟩
    show w0.own (p' (j - 1000)).N
    rw [hN]
    exact w0.new (Nat.le_trans hs.w0b (hI.nb _ _ _ _ hSp hdn))
  have hag:∀ q,Agr l p (p.set i q):=fun q k hk=>by
   have hne:k≠i:=by rintro rfl; rw [hl] at hk; cases hk
   simp [Pqs.set,hne]
  obtain ⟨-,hbk,bx,bo,hb,he,fn,args,h0,hxa,hcall⟩:=hokp p _ hsp
  obtain ⟨o,ho,hd,hw,hr⟩:=hat p (Agr.refl l p) h0
  have hrun:=script_run P 0 _ _ _ _ W hr trivial
  refine wpOp_run ho hw hrun ?_
  show Calls P fn args W _
  obtain ⟨hmy0,hlow,⟨hlim,hty⟩,hre,hto,-,-,hbo⟩:=hmy p (Agr.refl l p) xs x hsp bx bo hb
  obtain ⟨c1,c2,c3⟩:=hI.cells hi hl (Agr.refl l p) hb hto hre
  refine (hcall W ⟨hI.bs,hI.fr,hI.facts hi,hI.gx,hI.boxes,hI.ap hs hi,hI.cl hi hl⟩ (by rw [← c2]; exact c1)).mono ?_
  rintro en W' ⟨q,rfl,hln,hbl,hfq⟩
  obtain ⟨xq,yq,hxq,-⟩:=hs.at_w (p.set i q) hsp
  obtain ⟨hgq,-,bxq,boq,hbq,-⟩:=hokp (p.set i q) _ hxq
  have hgq':g q = xq:=by rw [← hgq]; simp [Pqs.set]
  obtain ⟨-,-,-,-,-,nlq,ocq,-⟩:=hmy _ (hag q) xq yq hxq bxq boq hbq
  obtain ⟨-,g2,g3,g4,g5,g6⟩:=sts_ok (w0:=w0) hty hlow (g q) off _ W c1 (by rw [cellsOf_size,hln]; exact Nat.le_of_ble_eq_true he) (cellsOf_limb _ _ _ (hs.mem p) hlim) (by rw [hgq']; exact nlq) (by rw [hgq']; exact ocq) hI.fr
  rw [← g5] at hbl
  show ∃ p' t',_
  rw [hd]
  refine ⟨p.set i q,putD (s.map fun s=>(s,wval f q x)) t,by cases s <;> rfl,?_⟩
  refine ⟨fun p' ha=>?_,fun p' ha j2 bx2 bo2 hb2 hal=>?_,w0.kept g4 hbl,Nat.le_trans hI.bs (by rw [← g5]; exact hbl.size),fun k s' cs' t' hk' hl'=>?_,fun k s' cs' t' k' s'' cs'' t'' h1 h2 h3 h4 h5=>?_,fun k x' f' hk' hf' hl'=>?_,hs.sta.kept _ _ hbl (g6 none _ (hs.sta.b none) (fun _ h=>nomatch h) hI.gx),Nk.set hs hI.nk hl q (by rw [← g5]; exact hbl.size) hI.bs (fun s' cs' t' h=>absurd h (hnn p s' cs' t')) (fun x f' b hk hf hb=>by rw [hsp] at hk; cases hk; cases hf; rw [hbk] at hb; cases hb) hI.nlt⟩
  ·obtain ⟨ha',hq⟩:=ha.backS hl
   obtain ⟨xs',x',hx',hxx⟩:=hs.at_w p' hsp
   have:=(hI.det p' ha').step (hs.apart p') (hs.within p') hi hl
   rw [puts_i hx'] at this
   simp only [Spo.put,hq] at this
   have hv:wval f q x' = wval f q x:=by
    obtain ⟨-,-,bx9,bo9,-,-,fn',args',h0',hxa',-⟩:=hokp p' _ hx'
    obtain ⟨o',ho',-,-,hr'⟩:=hat p' ha' h0'
    rw [ho] at ho'; cases ho'
    rw [hr] at hr'
    cases hr'
    cases x with
    | none=>cases x' with
     | none=>rfl
     | some y=>simp at hxx
    | some y=>cases x' with
     | none=>simp at hxx
     | some y'=>
      have e1:=hxa y rfl
      have e2:=hxa' y' rfl
      simp only [Option.map_some,Option.some.injEq] at hxx
      rw [← hxx,e1] at e2
      exact e2.symm
   rw [hv] at this
   exact this
  ·obtain ⟨ha',hq⟩:=ha.backS hl
   obtain ⟨xs',x',hx',-⟩:=hs.at_w p' hsp
   obtain ⟨hxs,-,bx',bo',hb',-⟩:=hokp p' _ hx'
   rw [hq] at hxs
   obtain ⟨hmy',-,-,-,hto',-,-,hbo'⟩:=hmy p' ha' xs' x' hx' bx' bo' hb'
   have hbb:bx'.b = bx.b:=by
    rcases boxOf_cases hb' with ⟨r1,r2,r3⟩|⟨r1,s2,cs2,t2,r2,r3,r4⟩
    ·rcases boxOf_cases hb with ⟨q1,q2,q3⟩|⟨q1,s1,cs1,t1,q2,q3,q4⟩
     ·rw [r2] at q2; cases q2; rfl
     ·rw [r1] at q1; cases q1
    ·rcases boxOf_cases hb with ⟨q1,q2,q3⟩|⟨q1,s1,cs1,t1,q2,q3,q4⟩
     ·rw [r1] at q1; cases q1
     ·rw [r3,q3]
      show (p' (j - 1000)).N = (p (j - 1000)).N
      rw [ha' _ (hbo' _ r4)]
   have hcc:=hI.mem p' ha' j bx' bo' hb' hbo'
   rw [hbb,c1] at hcc
   have hal':∀ k,bo2 = some k→l[k]? = some true:=fun k hk'=>by
    rcases (set_up hl).1 (hal k hk') with rfl|h
    ·rcases boxOf_cases hb2 with ⟨-,-,h⟩|⟨-,s',cs,t',h,-,h2⟩
     ·rw [h] at hk'; cases hk'
     ·rw [h2] at hk'; have hk':=Option.some.inj hk'; rw [hk'] at h; exact absurd h (hnn p' _ _ _)
    ·exact h
   rw [isUp_set hl]
   by_cases hj:j2 = j
   ·subst hj
    rw [hb'] at hb2
    cases hb2
    have:=cellsOf_put (f:=isUp l) (S p') 0 i off xs' bx2.cs (by rw [hx']; rfl) (by rw [Nat.zero_add]; exact isUp_no (by rw [hl]; simp)) (fun k' off' xs'' hk' hlt=>by
     have ht:=touchOk_at (S p') 0 k' off' xs'' hto' hk'
     rw [Nat.zero_add] at ht ⊢
     refine isUp_no (fun hup=>?_)
     rcases ht with h|h|h
     ·omega
     ·omega
     ·have:=reach_done (hI.det p' ha') _ _ _ h.2 hup; rw [hl] at this; cases this)
    rw [Nat.zero_add] at this
    rw [this,hbb,hbl.block _ (block_lt g2),g2,hxs]
    simp only [Option.some.injEq,Obj.cells.injEq,and_true] at hcc
    rw [hcc.1,hcc.2]
   ·have hne:bx2.b≠bx'.b:=by
     rcases boxOf_cases hb2 with ⟨q1,q2,q3⟩|⟨q1,s1,cs1,t1,q2,q3,q4⟩
     ·rcases boxOf_cases hb' with ⟨r1,r2,r3⟩|⟨r1,s2,cs2,t2,r2,r3,r4⟩
      ·exact Ne.symm (hs.ne j j2 bx' bx2 r2 q2 hmy' (Ne.symm hj))
      ·have h1:=hs.lt bx2 (List.mem_of_getElem? q2)
       have hdn:=hbo' _ r4
       have h2:=hI.nb _ _ _ _ (hs.at_n p r2) hdn
       rw [r3]
       show bx2.b≠(p' (j - 1000)).N
       rw [ha' _ hdn]; omega
     ·have hdn1:=hal' _ q4
      rcases boxOf_cases hb' with ⟨r1,r2,r3⟩|⟨r1,s2,cs2,t2,r2,r3,r4⟩
      ·have h1:=hs.lt bx' (List.mem_of_getElem? r2)
       have h2:=hI.nb _ _ _ _ (hs.at_n p q2) hdn1
       rw [q3]
       show (p' (j2 - 1000)).N≠bx'.b
       rw [ha' _ hdn1]; omega
      ·have hdn2:=hbo' _ r4
       rw [q3,r3]
       show (p' (j2 - 1000)).N≠(p' (j - 1000)).N
       rw [ha' _ hdn1,ha' _ hdn2]
       refine hI.ne _ _ _ _ _ _ _ _ (hs.at_n p q2) (hs.at_n p r2) hdn1 hdn2 (fun e=>hj ?_)
       have a1:¬ j < 1000:=fun hc=>by rw [show Nat.blt j 1000 = true from by rw [Nat.blt_eq]; exact hc] at r1; cases r1
       have a2:¬ j2 < 1000:=fun hc=>by rw [show Nat.blt j2 1000 = true from by rw [Nat.blt_eq]; exact hc] at q1; cases q1
       omega
    rw [hbb] at hne
    have h9:=hI.mem p' ha' j2 bx2 bo2 hb2 hal'
    rw [← g3 _ hne] at h9
    rw [hbl.block _ (block_lt h9),h9]
    congr 2
    refine cellsOf_agree _ _ _ (fun k off' xs'' hk'=>?_)
    rw [Nat.zero_add]
    have hki:Nat.beq k i = false:=by
     cases hb9:Nat.beq k i with
     | false=>rfl
     | true=>
      obtain rfl:=Nat.eq_of_beq_eq_true hb9
      rw [hx'] at hk'
      change some (j,off,xs') = some _ at hk'
      cases hk'
      exact absurd rfl hj
    simp only [hki,Bool.or_false]
  ·rcases (set_up hl).1 hl' with rfl|h
   ·exact absurd hk' (hnn _ _ _ _)
   ·have hne:k≠i:=by rintro rfl; rw [hl] at h; cases h
    simp only [Pqs.set,hne,if_false]
    exact hI.nb k s' cs' t' (hs.at_n p hk') h
  ·have g1:l[k]? = some true:=by
    rcases (set_up hl).1 h3 with rfl|h
    ·exact absurd h1 (hnn _ _ _ _)
    ·exact h
   have g2:l[k']? = some true:=by
    rcases (set_up hl).1 h4 with rfl|h
    ·exact absurd h2 (hnn _ _ _ _)
    ·exact h
   have hne:k≠i:=by rintro rfl; rw [hl] at g1; cases g1
   have hne':k'≠i:=by rintro rfl; rw [hl] at g2; cases g2
   simp only [Pqs.set,hne,hne',if_false]
   exact hI.ne k s' cs' t' k' s'' cs'' t'' (hs.at_n p h1) (hs.at_n p h2) g1 g2 h5
  ·rcases (set_up hl).1 hl' with rfl|h
   ·rw [hxq] at hk'
    cases hk'
    cases hf'
    simp only [Pqs.set,if_true]; exact hfq
   ·have hne:k≠i:=by rintro rfl; rw [hl] at h; cases h
    simp only [Pqs.set,hne,if_false]
    obtain ⟨x2,h2,h3⟩:=hs.at_fac p hk' hf'
    exact (f'.st _).kept _ _ hbl (g6 _ _ (f'.st _) (hI.apart hs hb hbo h2 h3 h) (hI.fx k x2 f' h2 h3 h))
theorem SymI.step {P:Program} {ops:Array Oper} {Q:Exit→Act→World→Prop} {T0:Array Value} {n:Nat} {L:Ks} {E:List Bx} {S:Pqs→List Spo} {G:World→Prop} {w0:Fr0} {base:Nat} {p:Pqs} {l:Array Bool} {t:Array Value} {W:World} {i:Nat} (hs:SymS ops T0 n L E S G w0 base) (hok:∀ p,Oks P ops L E (S p) G w0 base p 0 (S p)) (hI:SymI ops T0 E S G w0 base p l t W) (hi:i∈Region.ready .any ops l) (hl:l[i]? = some false) :
  wpOp P ops Q i (fun a W'=>∃ p' t',a = ⟨t',[]⟩∧SymI ops T0 E S G w0 base p' (l.setIfInBounds i true) t' W') ⟨t,[]⟩ W:=
 hI.step1 hs (fun p' x hx=>by
  have:=Oks.at (S p') 0 i x (hok p') hx
  rw [Nat.zero_add] at this; exact this) hi hl
structure SymF (E:List Bx) (S:List Spo) (G:World→Prop) (w0:Fr0) (base:Nat) (p:Pqs) (W:World):Prop where
 fr:w0.to W
 bs:base≤W.heap.size
 mem:∀ (j:Nat) (bx:Bx) (bo:Option Nat),boxOf E S p j = some (bx,bo)→W.heap[bx.b]? = some (.cells (cellsOf (fun _=>true) j 0 S bx.cs) bx.t (0,0))
 nb:∀ (k s:Nat) (cs:Array Value) (t:TypeId),S[k]? = some (.n s cs t)→base≤(p k).N
 ne:∀ (k s:Nat) (cs:Array Value) (t:TypeId) (k' s':Nat) (cs':Array Value) (t':TypeId),S[k]? = some (.n s cs t)→S[k']? = some (.n s' cs' t')→k≠k'→(p k).N≠(p k').N
 fx:∀ k,factOf S p k W
 gx:G W
 nk:Nk S p (fun _=>True) base W.heap.size
structure SymB (ops:Array Oper) (n:Nat) (L:Ks) (E:List Bx) (S:Pqs→List Spo):Prop where
 shape:∀ p p',(S p).map Spo.bare = (S p').map Spo.bare
 apart:∀ p,Puts.apart (puts p 0 (S p)) = true
 len:∀ p,(S p).length = ops.size
 within:∀ p,Puts.within (puts p 0 (S p)) n = true
 back:backB ops = true
 reads:∀ p,readsOk ops L (puts p 0 (S p)) 0 ops.toList = true
 mem:∀ p,memOk ops E (S p) 0 (S p) = true
 eb:E.all (fun x=>!x.my || noLimb x.cs.toList && x.t != 42) = true
theorem any_sym {P:Program} {ops:Array Oper} {Q:Exit→Act→World→Prop} {T0:Array Value} {n:Nat} {L:Ks} {G:World→Prop} {w0:Fr0} (S:Pqs→List Spo) {W:World} {E:List Bx} (hE:∀ x,x∈E→W.heap[x.b]? = some (.cells x.cs x.t (0,0))) (hfr:w0.to W) (hK:Kn T0 n L) (hB:SymB ops n L E S)
  (hlow:∀ x,x∈E→x.my = true→w0.own x.b) (hne:∀ (j k:Nat) (x y:Bx),E[j]? = some x→E[k]? = some y→x.my = true→j≠k→x.b≠y.b)
  (hst:Sta G) (h0:G W)
  (hok:∀ p,Oks P ops L E (S p) G w0 W.heap.size p 0 (S p))
  (hfin:∀ p W',SymF E (S p) G w0 W.heap.size p W'→Q .normal ⟨Puts.lay (puts p 0 (S p)) T0,[]⟩ W') :
  wpAny P .any ops Q ops.size (Array.replicate ops.size false) ⟨T0,[]⟩ W:=by
 have hs:SymS ops T0 n L E S G w0 W.heap.size:=⟨hB.shape,hB.apart,hB.len,fun p=>by rw [hK.size]; exact hB.within p,hB.back,hB.reads,hK,hB.mem,hB.eb,hlow,hne,fun x hx=>block_lt (hE x hx),w0.sized hfr,hst⟩
 refine wpAny_inv (fun l a w=>∃ p t,a = ⟨t,[]⟩∧SymI ops T0 E S G w0 W.heap.size p l t w) ?_ ?_ _ _ _ _ ?_ ⟨fun _=>pq0,T0,rfl,?_⟩
 ·rintro l a w i ⟨p,t,rfl,hI⟩ hi hl
  exact hI.step hs hok hi hl
 ·rintro l a w ⟨p,t,rfl,hI⟩ hr
  have hD:=hI.det p (Agr.refl l p)
  have hl:=all_up hD.len hB.back hr
  rw [hD.done (hB.apart p) (by rw [puts_len]; exact hB.len p) (by rw [hK.size]; exact hB.within p) hl]
  have hin:∀ k x,(S p)[k]? = some x→l[k]? = some true:=fun k x hk=>hl k (by
   rw [← hB.len p]; exact (List.getElem?_eq_some_iff.1 hk).1)
  refine hfin p w ⟨hI.fr,hI.bs,fun j bx bo hb=>?_,fun k s cs t hk=>hI.nb k s cs t hk (hin k _ hk),fun k s cs t k' s' cs' t' hk hk'=>hI.ne k s cs t k' s' cs' t' hk hk' (hin k _ hk) (hin k' _ hk'),fun k=>?_,hI.gx,fun k x f b hk hf _ hb=>by
   obtain ⟨a1,a2,a3,a4⟩:=hI.nk k x f b hk hf (hin k _ hk) hb
   exact ⟨a1,a2,fun k' s cs t hk' _=>a3 k' s cs t hk' (hin k' _ hk'),fun k' x' f' hne hk' hf' _=>a4 k' x' f' hne hk' hf' (hin k' _ hk')⟩⟩
  ·rw [hI.mem p (Agr.refl l p) j bx bo hb (fun k hk=>?_)]
   ·congr 2
    refine cellsOf_agree _ _ _ (fun k off xs hk=>?_)
    obtain ⟨x9,hx9,-⟩:=Option.bind_eq_some_iff.1 hk
    rw [Nat.zero_add]; exact isUp_iff.2 (hin k _ hx9)
   ·rcases boxOf_cases hb with ⟨-,-,h⟩|⟨-,s,cs,t,h,-,h2⟩
    ·rw [h] at hk; cases hk
    ·rw [h2] at hk; rw [← Option.some.inj hk]; exact hin _ _ h
  ·unfold factOf
   split
   ·rename_i s cf hk
    exact hI.fx k _ cf hk rfl (hin k _ hk)
   ·rename_i cf _ hk
    exact hI.fx k _ cf hk rfl (hin k _ hk)
   ·rename_i s' cs ty hk
    intro hnp
    have hb:boxOf E (S p) p (1000+k) = some (⟨(p k).N,cs,ty % 1000000,true⟩,some k):=by
     unfold boxOf
     rw [show Nat.blt (1000+k) 1000 = false from by cases h:Nat.blt (1000+k) 1000 with
      | false=>rfl
      | true=>rw [Nat.blt_eq] at h; omega]
     simp [hk]
    have h1:=hI.mem p (Agr.refl l p) (1000+k) _ (some k) hb (fun k' e=>by cases e; exact hin k _ hk)
    rw [cellsOf_none] at h1
    ·exact h1
    intro k' off xs hk'
    exact absurd hk' (noPut_no _ hnp _ _ _)
   ·trivial
 ·simp
 ·have hno:∀ k:Nat,(Array.replicate ops.size false)[k]?≠some true:=fun k h=>by
   rw [Array.getElem?_replicate] at h
   split at h <;> cases h
  have hup:isUp (Array.replicate ops.size false) = fun _=>false:=funext fun k=>isUp_no (hno k)
  refine ⟨fun p' _=>?_,fun p' _ j bx bo hb hal=>?_,hfr,Nat.le_refl _,fun k _ _ _ _ h=>absurd h (hno k),fun k _ _ _ _ _ _ _ _ _ h=>absurd h (hno k),fun k _ _ _ _ h=>absurd h (hno k),h0,fun k _ _ _ _ _ h=>absurd h (hno k)⟩
  ·constructor
   ·simp
   ·rfl
   ·intro k s v _ h; exact absurd h (hno k)
   ·intro s _; rfl
   ·intro k o h; exact absurd h (hno k)
  ·rcases boxOf_cases hb with ⟨-,hj,-⟩|⟨-,s,cs,t,-,-,h2⟩
   ·rw [hup,cellsOf_none _ _ _ (fun _ _ _ _=>rfl)]
    exact hE bx (List.mem_of_getElem? hj)
   ·exact absurd (hal _ h2) (hno _)
theorem ops_of_any {P:Program} {ops:Array Oper} {Q:Exit→Act→World→Prop} (hb:backB ops = true):∀ (k i:Nat),i+k = ops.size→∀ (l:Array Bool) (a:Act) (w:World),l.size = ops.size→(∀ j,j < ops.size→l[j]? = some (decide (j < i)))→wpAny P .any ops Q k l a w→wpOps P ops Q (List.range' i k) a w
 | 0,_,_,_,_,_,_,_,h=>by simpa [wpOps] using h.2
 | k+1,i,hn,l,a,w,hl,hd,h=>by
  rw [List.range'_succ,wpOps_cons]
  have hi:i < ops.size:=by omega
  obtain ⟨o,ho⟩:∃ o,ops[i]? = some o:=⟨ops[i],by simp [hi]⟩
  have hb':=List.all_eq_true.1 hb i (List.mem_range.2 hi)
  rw [ho] at hb'
  have hr:i∈Region.ready .any ops l:=mem_ready.2 ⟨by rw [Array.getD_eq_getD_getElem?,hd i hi]; simp,o,ho,fun e he hbe=>by
   have h1:=Array.all_eq_true'.1 hb' e he
   simp [hbe] at h1
   rw [Array.getD_eq_getD_getElem?,hd e.on (by omega)]; simp [h1]⟩
  refine wpOp_mono (fun a' w' h'=>ops_of_any hb k (i+1) (by omega) _ a' w' (by simpa using hl) (fun j hj=>?_) h') (h.2 i hr)
  by_cases hji:j = i
  ·subst hji
   rw [Array.getElem?_setIfInBounds_self_of_lt (by omega)]; simp
  ·rw [Array.getElem?_setIfInBounds_ne (Ne.symm hji),hd j hj]
   congr 1
   simp only [decide_eq_decide]; omega
theorem wp_sym {P:Program} {ops:Array Oper} {Q:Exit→Act→World→Prop} {T0:Array Value} {n:Nat} {L:Ks} {G:World→Prop} {w0:Fr0} (S:Pqs→List Spo) {id:Nat} {d:Bool} {W:World} {E:List Bx} (hE:∀ x,x∈E→W.heap[x.b]? = some (.cells x.cs x.t (0,0))) (hfr:w0.to W) (hm:P.follows .mixedOrders = true) (hK:Kn T0 n L) (hB:SymB ops n L E S)
  (hlow:∀ x,x∈E→x.my = true→w0.own x.b) (hne:∀ (j k:Nat) (x y:Bx),E[j]? = some x→E[k]? = some y→x.my = true→j≠k→x.b≠y.b)
  (hst:Sta G) (h0:G W)
  (hok:∀ p,Oks P ops L E (S p) G w0 W.heap.size p 0 (S p))
  (hfin:∀ p W',SymF E (S p) G w0 W.heap.size p W'→Q .normal ⟨Puts.lay (puts p 0 (S p)) T0,[]⟩ W') :
  (Code.region id ops d).wp P Q ⟨T0,[]⟩ W:=by
 cases d with
 | true=>exact wp_region_any hm (any_sym S (W:=W.drew) hE (w0.kept hfr (Below.refl _ _).drew) hK hB hlow hne hst (hst.kept W _ (Below.refl _ _).drew h0) hok hfin)
 | false=>
  refine wp_region ?_
  have:=ops_of_any hB.back ops.size 0 (by omega) _ _ _ (by simp) (fun j hj=>by rw [Array.getElem?_replicate]; simp [hj]) (any_sym S hE hfr hK hB hlow hne hst h0 hok hfin)
  rwa [← List.range_eq_range'] at this
theorem ok_nil {P:Program} {ops:Array Oper} {L:Ks} {E:List Bx} {S:List Spo} {G:World→Prop} {w0:Fr0} {base:Nat} {p:Pqs} {i:Nat}:Oks P ops L E S G w0 base p i []:=trivial
theorem ok_v {P:Program} {ops:Array Oper} {L:Ks} {E:List Bx} {S:List Spo} {G:World→Prop} {w0:Fr0} {base:Nat} {p:Pqs} {i:Nat} {r:List Spo} {s:Nat} {x:Value} (h:opRun P ops L (puts p 0 S) i 0 [] = some (some s,true,some (.value x,[]))) (t:Oks P ops L E S G w0 base p (i+1) r):Oks P ops L E S G w0 base p i (.v s x :: r):=⟨h,t⟩
theorem ok_vi {P:Program} {ops:Array Oper} {L:Ks} {E:List Bx} {S:List Spo} {G:World→Prop} {w0:Fr0} {base:Nat} {p:Pqs} {i:Nat} {r:List Spo} {s:Nat} {k:IntKind} {x y:Int} (e:x = y) (h:opRun P ops L (puts p 0 S) i 0 [] = some (some s,true,some (.value (.int k x),[]))) (t:Oks P ops L E S G w0 base p (i+1) r):Oks P ops L E S G w0 base p i (.v s (.int k y) :: r):=⟨e▸h,t⟩
theorem ok_vb {P:Program} {ops:Array Oper} {L:Ks} {E:List Bx} {S:List Spo} {G:World→Prop} {w0:Fr0} {base:Nat} {p:Pqs} {i:Nat} {r:List Spo} {s:Nat} {x y:Bool} (e:x = y) (h:opRun P ops L (puts p 0 S) i 0 [] = some (some s,true,some (.value (.bool x),[]))) (t:Oks P ops L E S G w0 base p (i+1) r):Oks P ops L E S G w0 base p i (.v s (.bool y) :: r):=⟨e▸h,t⟩
theorem ok_l {P:Program} {ops:Array Oper} {L:Ks} {E:List Bx} {S:List Spo} {G:World→Prop} {w0:Fr0} {base:Nat} {p:Pqs} {i:Nat} {r:List Spo} {s j off:Nat} {x:Value} (bx:Bx) (bo:Option Nat) (hb:boxOf E S p j = some (bx,bo)) (h:opRun P ops L (puts p 0 S) i 0 x.cells.toList = some (some s,true,some (.value x,lds bx.b off x.cells.toList))) (hc:((cellsOf (fun k=>Nat.blt k i) j 0 S bx.cs).toList.drop off).take x.cells.size = x.cells.toList) (t:Oks P ops L E S G w0 base p (i+1) r):Oks P ops L E S G w0 base p i (.l s x j off :: r):=⟨⟨bx,bo,hb,h,hc⟩,t⟩
theorem ok_p {P:Program} {ops:Array Oper} {L:Ks} {E:List Bx} {S:List Spo} {G:World→Prop} {w0:Fr0} {base:Nat} {p:Pqs} {i:Nat} {r:List Spo} {j off:Nat} {xs:List Value} (bx:Bx) (bo:Option Nat) (hb:boxOf E S p j = some (bx,bo)) (h:opRun P ops L (puts p 0 S) i 0 [] = some (none,true,some (.skip,sts bx.b off xs))) (hc:Nat.ble (off+xs.length) bx.cs.size = true) (t:Oks P ops L E S G w0 base p (i+1) r):Oks P ops L E S G w0 base p i (.p j off xs :: r):=⟨⟨bx,bo,hb,h,hc⟩,t⟩
theorem ok_n {P:Program} {ops:Array Oper} {L:Ks} {E:List Bx} {S:List Spo} {G:World→Prop} {w0:Fr0} {base:Nat} {p:Pqs} {i:Nat} {r:List Spo} {s:Nat} {cs:Array Value} {ty:TypeId} (h:∀ q,opRun P ops L (puts p 0 S) i q [] = some (some s,true,some (.value (nv q ty),[.nw (.cells cs (ty % 1000000))]))) (t:Oks P ops L E S G w0 base p (i+1) r):Oks P ops L E S G w0 base p i (.n s cs ty :: r):=⟨h,t⟩
theorem ok_k {P:Program} {ops:Array Oper} {L:Ks} {E:List Bx} {S:List Spo} {G:World→Prop} {w0:Fr0} {base:Nat} {p:Pqs} {i:Nat} {r:List Spo} {s:Option Nat} (x:Option (Next×List Ev)) (h:opRun P ops L (puts p 0 S) i 0 [] = some (s,false,x)) (t:Oks P ops L E S G w0 base p (i+1) r):Oks P ops L E S G w0 base p i (.k s :: r):=⟨⟨x,h⟩,t⟩
theorem ok_u {P:Program} {ops:Array Oper} {L:Ks} {E:List Bx} {S:List Spo} {G:World→Prop} {w0:Fr0} {base:Nat} {p:Pqs} {i:Nat} {r:List Spo} {s:Nat} {x:Value} {g:Array Value→Value} {fn:FuncId} {args:Array Value} (hc:∀ W,Cx ops E S G w0 base p i W→Calls P fn args W fun en W'=>en = .returned x∧Below W.heap.size W W') (h:opRun P ops L (puts p 0 S) i 0 [] = some (some s,true,some (.enter fn args,[]))) (hx:g args = x) (t:Oks P ops L E S G w0 base p (i+1) r):Oks P ops L E S G w0 base p i (.u s x g :: r):=⟨⟨fn,args,h,hx,hc⟩,t⟩
theorem ok_c {P:Program} {ops:Array Oper} {L:Ks} {E:List Bx} {S:List Spo} {G:World→Prop} {w0:Fr0} {base:Nat} {p:Pqs} {i:Nat} {r:List Spo} {s:Option Nat} {f:Cf} {fn:FuncId} {args:Array Value} (hc:∀ W,Cx ops E S G w0 base p i W→Calls P fn args W fun en W'=>∃ q,en = .returned (f.f q)∧Below W.heap.size W W'∧f.g q W') (h:opRun P ops L (puts p 0 S) i 0 [] = some (s,true,some (.enter fn args,[]))) (t:Oks P ops L E S G w0 base p (i+1) r) (hn:∀ q,f.bk q = none:=by intro _; rfl):Oks P ops L E S G w0 base p i (.c s f :: r):=⟨⟨fn,args,h,fun W cx=>(hc W cx).mono fun _ _ ⟨q,h1,h2,h3⟩=>⟨q,h1,h2,h3,fun b hb=>by rw [hn] at hb; cases hb⟩⟩,t⟩
theorem ok_w {P:Program} {ops:Array Oper} {L:Ks} {E:List Bx} {S:List Spo} {G:World→Prop} {w0:Fr0} {base:Nat} {p:Pqs} {i:Nat} {r:List Spo} {s:Option Nat} {j off:Nat} {xs:List Value} {g:Pq→List Value} {f:Cf} {fn:FuncId} {args:Array Value} {bx:Bx} {bo:Option Nat} (hb:boxOf E S p j = some (bx,bo)) (hc:∀ W,Cx ops E S G w0 base p i W→W.heap[bx.b]? = some (.cells (cellsOf (fun k=>Nat.blt k i) j 0 S bx.cs) bx.t (0,0))→Calls P fn args W fun en W'=>∃ q,en = .returned (f.f q)∧(g q).length = xs.length∧Below W.heap.size (evs (sts bx.b off (g q)) W) W'∧f.g q W') (h:opRun P ops L (puts p 0 S) i 0 [] = some (s,true,some (.enter fn args,[]))) (hg:g (p i) = xs) (hn:Nat.ble (off+xs.length) bx.cs.size = true) (t:Oks P ops L E S G w0 base p (i+1) r) (hk:∀ q,f.bk q = none:=by intro _; rfl):Oks P ops L E S G w0 base p i (.w s j off xs g f :: r):=⟨⟨hg,hk,bx,bo,hb,hn,fn,args,h,(fun _ h9=>by cases h9),hc⟩,t⟩
theorem sta_true:Sta (fun _=>True):=⟨fun _ _ _ h=>h,fun _ _ _ _ _ _ _ _ _ h=>h⟩
theorem sta_and {f g:World→Prop} (hf:Sta f) (hg:Sta g):Sta (fun W=>f W∧g W):=⟨fun W W' hb h=>⟨hf.kept W W' hb h.1,hg.kept W W' hb h.2⟩,fun W b cs t j u h1 h2 h3 h=>⟨hf.put W b cs t j u h1 h2 h3 h.1,hg.put W b cs t j u h1 h2 h3 h.2⟩⟩
def cV (v:Value):Cf:=.pl (fun _=>v) (fun _ _=>True) (fun _=>sta_true)
def cO (B m:Nat):Cf:=.pl (fun q=>.tuple #[.agg #[.slice q.A q.N q.C],.int .i64 0]) (fun q W=>Mine W B q.A q.N q.C m) (fun _=>sta_mine _ _ _ _ _)
def cN (B m:Nat):Cf:=.pl (fun q=>.agg #[.slice q.A q.N q.C]) (fun q W=>Mine W B q.A q.N q.C m) (fun _=>sta_mine _ _ _ _ _)
theorem as_v {P:Program} {fn:FuncId} {args:Array Value} {W:World} {v:Value} (h:Calls P fn args W fun en W'=>en = .returned v∧Below W.heap.size W W'):Calls P fn args W fun en W'=>∃ q,en = .returned ((cV v).f q)∧Below W.heap.size W W'∧(cV v).g q W':=
 h.mono fun _ _ ⟨h1,h2⟩=>⟨pq0,h1,h2,trivial⟩
theorem as_o {P:Program} {fn:FuncId} {args:Array Value} {W:World} {B:Nat} {m:Nat} (hb:B≤W.heap.size) (h:Calls P fn args W fun en W'=>(∃ a n c,en = .returned (.tuple #[.agg #[.slice a n c],.int .i64 0])∧Mine W' W.heap.size a n c m)∧Below W.heap.size W W'):Calls P fn args W fun en W'=>∃ q,en = .returned ((cO B m).f q)∧Below W.heap.size W W'∧(cO B m).g q W':=
 h.mono fun _ _ ⟨⟨a,n,c,h1,h3⟩,h2⟩=>⟨{ pq0 with A:=a,N:=n,C:=c },h1,h2,h3.mono hb⟩
theorem as_n {P:Program} {fn:FuncId} {args:Array Value} {W:World} {B:Nat} {m:Nat} (hb:B≤W.heap.size) (h:Calls P fn args W fun en W'=>(∃ a n c,en = .returned (.agg #[.slice a n c])∧Mine W' W.heap.size a n c m)∧Below W.heap.size W W'):Calls P fn args W fun en W'=>∃ q,en = .returned ((cN B m).f q)∧Below W.heap.size W W'∧(cN B m).g q W':=
 h.mono fun _ _ ⟨⟨a,n,c,h1,h3⟩,h2⟩=>⟨{ pq0 with A:=a,N:=n,C:=c },h1,h2,h3.mono hb⟩
def cG (B m:Nat) (f:Value→Value):Cf:=.pl (fun q=>f (.slice q.A q.N q.C)) (fun q W=>Mine W B q.A q.N q.C m) (fun _=>sta_mine _ _ _ _ _)
def cH (B m m':Nat) (f:Value→Value→Value):Cf:=.pl (fun q=>f (.slice q.A q.N q.C) (.slice q.A' q.N' q.C')) (fun q W=>Mine W B q.A q.N q.C m∧Mine W B q.A' q.N' q.C' m') (fun _=>sta_and (sta_mine _ _ _ _ _) (sta_mine _ _ _ _ _))
theorem as_g {P:Program} {fn:FuncId} {args:Array Value} {W:World} {B m:Nat} {f:Value→Value} (hb:B≤W.heap.size) (h:Calls P fn args W fun en W'=>(∃ a n c,en = .returned (f (.slice a n c))∧Mine W' W.heap.size a n c m)∧Below W.heap.size W W'):Calls P fn args W fun en W'=>∃ q,en = .returned ((cG B m f).f q)∧Below W.heap.size W W'∧(cG B m f).g q W':=
 h.mono fun _ _ ⟨⟨a,n,c,h1,h3⟩,h2⟩=>⟨{ pq0 with A:=a,N:=n,C:=c },h1,h2,h3.mono hb⟩
theorem as_h {P:Program} {fn:FuncId} {args:Array Value} {W:World} {B m m':Nat} {f:Value→Value→Value} (hb:B≤W.heap.size) (h:Calls P fn args W fun en W'=>(∃ a n c a' n' c',en = .returned (f (.slice a n c) (.slice a' n' c'))∧Mine W' W.heap.size a n c m∧Mine W' W.heap.size a' n' c' m')∧Below W.heap.size W W'):Calls P fn args W fun en W'=>∃ q,en = .returned ((cH B m m' f).f q)∧Below W.heap.size W W'∧(cH B m m' f).g q W':=
 h.mono fun _ _ ⟨⟨a,n,c,a',n',c',h1,h3,h4⟩,h2⟩=>⟨{ pq0 with A:=a,N:=n,C:=c,A':=a',N':=n',C':=c' },h1,h2,h3.mono hb,h4.mono hb⟩
structure Gf where
 f:World→Prop
 st:Sta f
def GsAt:List Gf→World→Prop
 | [],_=>True
 | g :: r,W=>g.f W∧GsAt r W
theorem gs_sta:∀ (gs:List Gf),Sta (GsAt gs)
 | []=>sta_true
 | g :: r=>sta_and g.st (gs_sta r)
def gN (a:Option Addr) (n m:Nat):Gf:=⟨fun W=>Num W a n m,sta_num a n m⟩
def gM (B:Nat) (a:Option Addr) (n c m:Nat):Gf:=⟨fun W=>Mine W B a n c m,sta_mine B a n c m⟩
def NeX (x:Bx):List Bx→Prop
 | []=>True
 | y :: r=>((x.my || y.my) = true→x.b≠y.b)∧NeX x r
def NeL:List Bx→Prop
 | []=>True
 | x :: r=>NeX x r∧NeL r
def LowL (w0:Fr0):List Bx→Prop
 | []=>True
 | x :: r=>(x.my = true→w0.own x.b)∧LowL w0 r
theorem LowL.of {w0:Fr0}:∀ {E:List Bx},LowL w0 E→∀ x,x∈E→x.my = true→w0.own x.b
 | [],_,_,h,_=>by simp at h
 | y :: r,h,x,hx,hm=>by
  rcases List.mem_cons.1 hx with rfl|hx
  ·exact h.1 hm
  ·exact LowL.of h.2 x hx hm
theorem NeX.of {x:Bx}:∀ {E:List Bx},NeX x E→∀ y,y∈E→(x.my = true∨y.my = true)→x.b≠y.b
 | [],_,_,h,_=>by simp at h
 | z :: r,h,y,hy,hm=>by
  rcases List.mem_cons.1 hy with rfl|hy
  ·exact h.1 (by simpa using hm)
  ·exact NeX.of h.2 y hy hm
theorem NeL.of:∀ {E:List Bx},NeL E→∀ (j k:Nat) (x y:Bx),E[j]? = some x→E[k]? = some y→x.my = true→j≠k→x.b≠y.b
 | [],_,_,_,_,_,h,_,_,_=>by simp at h
 | z :: r,h,0,0,x,y,hx,hy,hm,hne=>absurd rfl hne
 | z :: r,h,0,k+1,x,y,hx,hy,hm,hne=>by
  simp only [List.getElem?_cons_zero,Option.some.injEq] at hx
  subst hx
  exact h.1.of y (List.mem_of_getElem? (by simpa using hy)) (Or.inl hm)
 | z :: r,h,j+1,0,x,y,hx,hy,hm,hne=>by
  simp only [List.getElem?_cons_zero,Option.some.injEq] at hy
  subst hy
  exact Ne.symm (h.1.of x (List.mem_of_getElem? (by simpa using hx)) (Or.inr hm))
 | z :: r,h,j+1,k+1,x,y,hx,hy,hm,hne=>NeL.of h.2 j k x y (by simpa using hx) (by simpa using hy) hm (by omega)
structure Fb (w0:Fr0) (W:World) (E:List Bx):Prop where
 bx:∀ x,x∈E→W.heap[x.b]? = some (.cells x.cs x.t (0,0))
 fr:w0.to W
 low:LowL w0 E
 ne:NeL E
theorem Fb.begin (w:World):Fb (Fr0.all w) w []:=⟨(fun _ h=>nomatch h),Below.refl _ _,trivial,trivial⟩
theorem Fb.other {w:World} {b:Nat} {cs:Array Value} {t:TypeId} (h:w.heap[b]? = some (.cells cs t (0,0))):Fb (Fr0.all w) w [⟨b,cs,t,false⟩]:=⟨fun x hx=>by rw [List.mem_singleton.1 hx]; exact h,Below.refl _ _,⟨(fun h=>absurd h (by simp)),trivial⟩,⟨trivial,trivial⟩⟩
theorem Fb.rcv {w:World} {b:Nat} {cs:Array Value} {t:TypeId} (h:w.heap[b]? = some (.cells cs t (0,0))):Fb (Fr0.but b w) w [⟨b,cs,t,true⟩]:=⟨fun x hx=>by rw [List.mem_singleton.1 hx]; exact h,⟨rfl,rfl,rfl,Nat.le_refl _,fun _ _ _=>rfl⟩,⟨fun _=>Or.inl rfl,trivial⟩,⟨trivial,trivial⟩⟩
theorem Fb.more {w0:Fr0} {W:World} {E:List Bx} {b:Nat} {cs:Array Value} {t:TypeId} (hS:Fb w0 W E) (h:W.heap[b]? = some (.cells cs t (0,0))) (hn:NeX ⟨b,cs,t,false⟩ E):Fb w0 W (⟨b,cs,t,false⟩ :: E):=
 ⟨fun x hx=>by
  rcases List.mem_cons.1 hx with rfl|hx
  ·exact h
  ·exact hS.bx x hx,hS.fr,⟨fun hm=>absurd hm (by simp),hS.low⟩,⟨hn,hS.ne⟩⟩
theorem Fb.kept {w0:Fr0} {W W':World} {E:List Bx} (h:Fb w0 W E) (hb:Below W.heap.size W W'):Fb w0 W' E:=⟨fun x hx=>by rw [hb.block _ (block_lt (h.bx x hx))]; exact h.bx x hx,w0.kept h.fr hb,h.low,h.ne⟩
theorem NeL.sym {E:List Bx} (h:NeL E) (j k:Nat) (x y:Bx) (hx:E[j]? = some x) (hy:E[k]? = some y) (hm:x.my = true∨y.my = true) (hne:j≠k):x.b≠y.b:=by
 rcases hm with hm|hm
 ·exact h.of j k x y hx hy hm hne
 ·exact Ne.symm (h.of k j y x hy hx hm (Ne.symm hne))
def finBx (E:List Bx) (S:List Spo) (p:Pqs):List Nat→List Bx
 | []=>[]
 | j :: r=>match boxOf E S p j with
  | some (bx,_)=>⟨bx.b,cellsOf (fun _=>true) j 0 S bx.cs,bx.t,bx.my⟩ :: finBx E S p r
  | none=>finBx E S p r
def nodupB:List Nat→Bool
 | []=>true
 | j :: r=>r.all (· != j) && nodupB r
theorem finBx_mem {E:List Bx} {S:List Spo} {p:Pqs}:∀ {js:List Nat} {x:Bx},x∈finBx E S p js→∃ j bx bo,j∈js∧boxOf E S p j = some (bx,bo)∧x = ⟨bx.b,cellsOf (fun _=>true) j 0 S bx.cs,bx.t,bx.my⟩
 | [],_,h=>by simp [finBx] at h
 | j :: r,x,h=>by
  unfold finBx at h
  split at h
  ·rename_i bx bo hb
   rcases List.mem_cons.1 h with rfl|h
   ·exact ⟨j,bx,bo,List.mem_cons_self ..,hb,rfl⟩
   ·obtain ⟨j',bx',bo',h1,h2⟩:=finBx_mem h
    exact ⟨j',bx',bo',List.mem_cons_of_mem _ h1,h2⟩
  ·obtain ⟨j',bx',bo',h1,h2⟩:=finBx_mem h
   exact ⟨j',bx',bo',List.mem_cons_of_mem _ h1,h2⟩
theorem SymF.fb {E:List Bx} {S:List Spo} {G:World→Prop} {w0:Fr0} {W0:World} {p:Pqs} {W:World} (hS:Fb w0 W0 E) (h:SymF E S G w0 W0.heap.size p W) (js:List Nat) (E1:List Bx) (e:finBx E S p js = E1) (nd:nodupB js = true):Fb w0 W E1:=by
 subst e
 have hap:∀ j bx bo j' bx' bo',boxOf E S p j = some (bx,bo)→boxOf E S p j' = some (bx',bo')→j≠j'→(bx.my = true∨bx'.my = true)→bx.b≠bx'.b:=fun j bx bo j' bx' bo' hb hb' hne hm=>by
  rcases boxOf_cases hb with ⟨q1,q2,q3⟩|⟨q1,s1,cs1,t1,q2,q3,q4⟩
  ·rcases boxOf_cases hb' with ⟨r1,r2,r3⟩|⟨r1,s2,cs2,t2,r2,r3,r4⟩
   ·exact hS.ne.sym j j' bx bx' q2 r2 hm hne
   ·have h1:=block_lt (hS.bx bx (List.mem_of_getElem? q2))
    have h2:=h.nb _ _ _ _ r2
    rw [r3]; show bx.b≠(p (j' - 1000)).N; omega
  ·rcases boxOf_cases hb' with ⟨r1,r2,r3⟩|⟨r1,s2,cs2,t2,r2,r3,r4⟩
   ·have h1:=block_lt (hS.bx bx' (List.mem_of_getElem? r2))
    have h2:=h.nb _ _ _ _ q2
    rw [q3]; show (p (j - 1000)).N≠bx'.b; omega
   ·rw [q3,r3]
    refine h.ne _ _ _ _ _ _ _ _ q2 r2 (fun e=>hne ?_)
    have a1:¬ j < 1000:=fun hc=>by rw [show Nat.blt j 1000 = true from by rw [Nat.blt_eq]; exact hc] at q1; cases q1
    have a2:¬ j' < 1000:=fun hc=>by rw [show Nat.blt j' 1000 = true from by rw [Nat.blt_eq]; exact hc] at r1; cases r1
    omega
 refine ⟨fun x hx=>?_,h.fr,?_,?_⟩
 ·obtain ⟨j,bx,bo,-,hb,rfl⟩:=finBx_mem hx
  exact h.mem j bx bo hb
 ·clear nd
  induction js with
  | nil=>trivial
  | cons j r ih=>
   unfold finBx
   split
   ·rename_i bx bo hb
    refine ⟨fun hm=>?_,ih⟩
    show w0.own bx.b
    rcases boxOf_cases hb with ⟨q1,q2,q3⟩|⟨q1,s1,cs1,t1,q2,q3,q4⟩
    ·exact hS.low.of bx (List.mem_of_getElem? q2) hm
    ·rw [q3]; exact w0.new (Nat.le_trans (w0.sized hS.fr) (h.nb _ _ _ _ q2))
   ·exact ih
 ·induction js with
  | nil=>trivial
  | cons j r ih=>
   simp only [nodupB,Bool.and_eq_true] at nd
   unfold finBx
   split
   ·rename_i bx bo hb
    refine ⟨?_,ih nd.2⟩
    have hall:∀ y,y∈finBx E S p r→(bx.my = true∨y.my = true)→bx.b≠y.b:=fun y hy hm=>by
     obtain ⟨j',bx',bo',hj',hb',rfl⟩:=finBx_mem hy
     refine hap j bx bo j' bx' bo' hb hb' ?_ hm
     have:=List.all_eq_true.1 nd.1 j' hj'
     simp only [bne_iff_ne] at this
     exact Ne.symm this
    revert hall
    generalize finBx E S p r = l
    intro hall
    induction l with
    | nil=>trivial
    | cons y l ih2=>exact ⟨fun hm=>hall y (List.mem_cons_self ..) (by simpa using hm),ih2 fun z hz=>hall z (List.mem_cons_of_mem _ hz)⟩
   ·exact ih nd.2
def symB (ops:Array Oper) (n:Nat) (L:Ks) (E:List Bx) (S:List Spo) (p:Pqs) (L1:Ks):Bool:=
 Puts.apart (puts p 0 S) && Nat.beq S.length ops.size && Puts.within (puts p 0 S) n && backB ops && readsOk ops L (puts p 0 S) 0 ops.toList && memOk ops E S 0 S && E.all (fun x=>!x.my || noLimb x.cs.toList && x.t != 42) && L1.all (fun x=>earlyB x.1 S.length (puts p 0 S) || inK L x.1)
theorem kn_out {T0:Array Value} {n:Nat} {L:Ks} {ds:Puts} (hK:Kn T0 n L) (ha:Puts.apart ds = true) (hw:Puts.within ds n = true) (L1:Ks) (hin:L1.all (fun x=>earlyB x.1 ds.length ds || inK L x.1) = true) (he:L1.map (fun x=>slotAt L x.1 ds.length ds) = L1.map (·.2)):Kn (Puts.lay ds T0) n L1:=by
 refine ⟨by rw [Puts.lay_size]; exact hK.size,fun x hx=>?_⟩
 have h1:=List.all_eq_true.1 hin x hx
 have h2:slotAt L x.1 ds.length ds = x.2:=by
  obtain ⟨k,hk,he2⟩:=List.getElem_of_mem hx
  have:=congrArg (fun l=>l[k]?) he
  simp only [List.getElem?_map,List.getElem?_eq_getElem hk,he2,Option.map_some,Option.some.injEq] at this
  exact this
 rw [← h2]
 by_cases hw9:∃ (k:Nat) (v:Value),ds[k]? = some (some (x.1,v))
 ·obtain ⟨k,v,hk⟩:=hw9
  have hlt:k < ds.length:=(List.getElem?_eq_some_iff.1 hk).1
  rw [slotAt_on ds _ k v ha hk hlt]
  exact Puts.lay_at ds ha T0 k x.1 v hk (by rw [hK.size]; simpa using List.all_eq_true.1 hw _ (List.mem_of_getElem? hk))
 ·rw [slotAt_off ds _ (fun k v hk=>absurd ⟨k,v,hk⟩ hw9)]
  have hf:Puts.free ds x.1 = true:=by
   unfold Puts.free
   rw [List.all_eq_true]
   intro d hd
   obtain ⟨k,hk⟩:=List.getElem?_of_mem hd
   cases d with
   | none=>rfl
   | some d=>
    obtain ⟨s,v⟩:=d
    simp only [bne_iff_ne]
    rintro rfl
    exact hw9 ⟨k,v,hk⟩
  rw [Puts.lay_free ds x.1 hf]
  refine hK.look ?_
  simp only [Bool.or_eq_true] at h1
  rcases h1 with h|h
  ·obtain ⟨k,v,-,hk⟩:=early_of h
   exact absurd ⟨k,v,hk⟩ hw9
  ·exact h
theorem wp_symG {P:Program} {ops:Array Oper} {Q:Exit→Act→World→Prop} {T0:Array Value} {n:Nat} {L:Ks} {w0:Fr0} {gs:List Gf} {id:Nat} {d:Bool} {W:World} {E:List Bx} (hS:Fb w0 W E) (hG:GsAt gs W) (hK:Kn T0 n L) (S:Pqs→List Spo) (L1:Pqs→Ks) (hm:P.follows .mixedOrders = true) (hsh:∀ p p',(S p).map Spo.bare = (S p').map Spo.bare) (hB:∀ p,symB ops n L E (S p) p (L1 p) = true) (hL:∀ p,(L1 p).map (fun x=>slotAt L x.1 (S p).length (puts p 0 (S p))) = (L1 p).map (·.2))
  (hok:∀ p,Oks P ops L E (S p) (GsAt gs) w0 W.heap.size p 0 (S p))
  (hfin:∀ p W' T1,SymF E (S p) (GsAt gs) w0 W.heap.size p W'→Kn T1 n (L1 p)→Q .normal ⟨T1,[]⟩ W') :
  (Code.region id ops d).wp P Q ⟨T0,[]⟩ W:=by
 have hB':∀ p,_:=fun p=>by
  have:=hB p
  simp only [symB,Bool.and_eq_true] at this
  exact this
 refine wp_sym S hS.bx hS.fr hm hK ⟨hsh,fun p=>(hB' p).1.1.1.1.1.1.1,fun p=>Nat.eq_of_beq_eq_true (hB' p).1.1.1.1.1.1.2,fun p=>(hB' p).1.1.1.1.1.2,(hB' fun _=>pq0).1.1.1.1.2,fun p=>(hB' p).1.1.1.2,fun p=>(hB' p).1.1.2,(hB' fun _=>pq0).1.2⟩ hS.low.of hS.ne.of (gs_sta gs) hG hok (fun p W' hF=>hfin p W' _ hF ?_)
 exact kn_out hK (hB' p).1.1.1.1.1.1.1 (hB' p).1.1.1.1.1.2 _ (by rw [puts_len]; exact (hB' p).2) (by rw [puts_len]; exact hL p)
def argK:Nat→List Value→Ks
 | _,[]=>[]
 | i,v :: r=>(i,v) :: argK (i+1) r
theorem argK_at:∀ (vs:List Value) (i:Nat) (x:Nat×Value),x∈argK i vs→∃ k,x.1 = i+k∧vs[k]? = some x.2
 | [],_,_,h=>by simp [argK] at h
 | v :: r,i,x,h=>by
  rcases List.mem_cons.1 h with rfl|h
  ·exact ⟨0,rfl,rfl⟩
  ·obtain ⟨k,h1,h2⟩:=argK_at r (i+1) x h
   exact ⟨k+1,by omega,by simpa using h2⟩
theorem calls_sym {P:Program} {f:FuncId} {fn:Func} {c:Code} {args:Array Value} {w:World} {R:Ending→World→Prop} (hf:P.funcs[f]? = some fn) (hb:fn.body = some c) (hn:Nat.ble args.size fn.ntmps = true)
  (h:∀ T,Kn T fn.ntmps (argK 0 args.toList)→c.wp P (bodyPost P fn R) ⟨T,[]⟩ w):Calls P f args w R:=by
 refine calls_of_wp hf hb (h _ ⟨?_,fun x hx=>?_⟩)
 ·have:=Nat.le_of_ble_eq_true hn
  simp; omega
 ·obtain ⟨k,h1,h2⟩:=argK_at _ _ x hx
  rw [Nat.zero_add] at h1
  rw [h1]
  have h3:args[k]? = some x.2:=by simpa using h2
  obtain ⟨hlt,-⟩:=Array.getElem?_eq_some_iff.1 h3
  rw [Array.getElem?_append_left hlt]; exact h3
theorem Kn.ev {T:Array Value} {n:Nat} {L:Ks} (h:Kn T n L) (s:Nat) (hi:inK L s = true) (v:Value) (hv:lookK L s = v):Act.eval ⟨T,[]⟩ (.tmp s) = v:=by
 show T.getD s undef = v
 rw [Array.getD_eq_getD_getElem?,h.look hi,hv]; rfl
def resK (fn:Func) (L:Ks):Sem Value:=do
 let vs ← fn.results.mapM fun
  | .tmp t=>pure (lookK L t)
  | .cell a t=>do loadVar t (← asAddr (lookK L a))
 pure (if h:vs.size = 1 then vs[0] else .tuple vs)
def resSlot:ResultVar→Nat
 | .tmp t=>t
 | .cell a _=>a
def rdEv (bs:List Bx):List (Nat×Nat×Nat)→List Ev
 | []=>[]
 | (j,off,k) :: r=>(match bs[j]? with
  | some x=>lds x.b off ((x.cs.toList.drop off).take k)
  | none=>[]) ++ rdEv bs r
theorem evs_app:∀ (es fs:List Ev) (W:World),EvsOk 0 es W→evs es W = W→EvsOk 0 fs W→evs fs W = W→EvsOk 0 (es ++ fs) W∧evs (es ++ fs) W = W:=by
 intro es fs W h1 h2 h3 h4
 have h5:∀ (es:List Ev) (V:World),EvsOk 0 es V→(EvsOk 0 (es ++ fs) V↔EvsOk 0 fs (evs es V))∧evs (es ++ fs) V = evs fs (evs es V):=by
  intro es
  induction es with
  | nil=>intro V _; exact ⟨Iff.rfl,rfl⟩
  | cons e r ih=>
   intro V h
   cases e with
   | ld a v=>obtain ⟨g1,g2⟩:=ih V h.2; exact ⟨⟨fun q=>g1.1 q.2,fun q=>⟨h.1,g1.2 q⟩⟩,g2⟩
   | st a v=>obtain ⟨g1,g2⟩:=ih _ h.2.2.2; exact ⟨⟨fun q=>g1.1 q.2.2.2,fun q=>⟨h.1,h.2.1,h.2.2.1,g1.2 q⟩⟩,g2⟩
   | nw o=>obtain ⟨g1,g2⟩:=ih _ h.2; exact ⟨⟨fun q=>g1.1 q.2,fun q=>⟨h.1,g1.2 q⟩⟩,g2⟩
 obtain ⟨g1,g2⟩:=h5 es W h1
 rw [h2] at g1 g2
 exact ⟨g1.2 h3,by rw [g2]; exact h4⟩
theorem rd_ok {w0:Fr0} {W:World} {bs:List Bx} (hS:Fb w0 W bs):∀ (js:List (Nat×Nat×Nat)),EvsOk 0 (rdEv bs js) W∧evs (rdEv bs js) W = W
 | []=>⟨trivial,rfl⟩
 | (j,off,k) :: r=>by
  obtain ⟨h1,h2⟩:=rd_ok hS r
  unfold rdEv
  cases hj:bs[j]? with
  | none=>exact ⟨h1,h2⟩
  | some x=>
   obtain ⟨g1,g2⟩:=lds_ok (hS.bx x (List.mem_of_getElem? hj)) ((x.cs.toList.drop off).take k) off (by
    rw [List.length_take,List.take_eq_take_iff]; simp)
   exact evs_app _ _ W g1 g2 h1 h2
theorem res_eq {fn:Func} {T:Array Value} {n:Nat} {L:Ks} (hK:Kn T n L) (hin:fn.results.toList.all (fun r=>inK L (resSlot r)) = true):results fn T = resK fn L:=by
 have:∀ r,r∈fn.results→T.getD (resSlot r) undef = lookK L (resSlot r):=fun r hr=>by
  have:=List.all_eq_true.1 hin r (by simpa using hr)
  rw [Array.getD_eq_getD_getElem?,hK.look this]; rfl
 have hc:∀ (f g:ResultVar→Sem Value) (l:List ResultVar),(∀ r,r∈l→f r = g r)→l.mapM f = l.mapM g:=by
  intro f g l
  induction l with
  | nil=>intro _; rfl
  | cons r l ih=>intro h; rw [List.mapM_cons,List.mapM_cons,h r (List.mem_cons_self ..),ih fun r' hr'=>h r' (List.mem_cons_of_mem _ hr')]
 unfold results resK
 rw [Array.mapM_eq_mapM_toList,Array.mapM_eq_mapM_toList]
 congr 2
 refine hc _ _ _ fun r hr=>?_
 have h:=this r (by simpa using hr)
 cases r with
 | tmp t=>simp only [resSlot] at h; simp only [h]
 | cell a t=>simp only [resSlot] at h; simp only [h]
theorem sym_end {P:Program} {fn:Func} {R:Ending→World→Prop} {T:Array Value} {n:Nat} {L:Ks} {w0:Fr0} {W:World} {bs:List Bx} (hS:Fb w0 W bs) (hK:Kn T n L) (v:Value) (js:List (Nat×Nat×Nat)) (vs:List Value) (hin:fn.results.toList.all (fun r=>inK L (resSlot r)) = true) (hr:script P 0 (resK fn L) vs = some (v,rdEv bs js)) (h:R (.returned v) W):bodyPost P fn R .ret ⟨T,[]⟩ W:=by
 refine bodyPost_ret (v:=v) ?_ rfl h
 show (results fn T).run P W = _
 rw [res_eq hK hin]
 obtain ⟨h1,h2⟩:=rd_ok hS js
 have:=script_run P 0 _ _ _ _ W hr h1
 rw [h2] at this; exact this
def blkOf (E:List Bx) (S:List Spo) (p:Pqs) (j:Nat):Nat:=match boxOf E S p j with
 | some (bx,_)=>bx.b
 | none=>0
def csOf (E:List Bx) (S:List Spo) (p:Pqs) (j:Nat):Array Value:=match boxOf E S p j with
 | some (bx,_)=>bx.cs
 | none=>#[]
theorem ok_L {P:Program} {ops:Array Oper} {L:Ks} {E:List Bx} {S:List Spo} {G:World→Prop} {w0:Fr0} {base:Nat} {p:Pqs} {i:Nat} {r:List Spo} {s j off:Nat} {x:Value} (hb:(boxOf E S p j).isSome = true) (h:opRun P ops L (puts p 0 S) i 0 x.cells.toList = some (some s,true,some (.value x,lds (blkOf E S p j) off x.cells.toList))) (hc:((cellsOf (fun k=>Nat.blt k i) j 0 S (csOf E S p j)).toList.drop off).take x.cells.size = x.cells.toList) (t:Oks P ops L E S G w0 base p (i+1) r):Oks P ops L E S G w0 base p i (.l s x j off :: r):=by
 obtain ⟨⟨bx,bo⟩,hbx⟩:=Option.isSome_iff_exists.1 hb
 unfold blkOf at h; unfold csOf at hc
 rw [hbx] at h hc
 exact ok_l bx bo hbx h hc t
theorem ok_P {P:Program} {ops:Array Oper} {L:Ks} {E:List Bx} {S:List Spo} {G:World→Prop} {w0:Fr0} {base:Nat} {p:Pqs} {i:Nat} {r:List Spo} {j off:Nat} {xs:List Value} (hb:(boxOf E S p j).isSome = true) (h:opRun P ops L (puts p 0 S) i 0 [] = some (none,true,some (.skip,sts (blkOf E S p j) off xs))) (hc:Nat.ble (off+xs.length) (csOf E S p j).size = true) (t:Oks P ops L E S G w0 base p (i+1) r):Oks P ops L E S G w0 base p i (.p j off xs :: r):=by
 obtain ⟨⟨bx,bo⟩,hbx⟩:=Option.isSome_iff_exists.1 hb
 unfold blkOf at h; unfold csOf at hc
 rw [hbx] at h hc
 exact ok_p bx bo hbx h hc t
theorem wr64 {x:Int} (h1:-9223372036854775808≤x) (h2:x < 9223372036854775808):IntKind.i64.wrap x = x:=by rw [IntKind.wrap_i64]; omega
theorem ok_K {P:Program} {ops:Array Oper} {L:Ks} {E:List Bx} {S:List Spo} {G:World→Prop} {w0:Fr0} {base:Nat} {p:Pqs} {i:Nat} {r:List Spo} {s:Option Nat} (h:(match opRun P ops L (puts p 0 S) i 0 [] with
  | some (a,b,_)=>some (a,b)
  | none=>none) = some (s,false)) (t:Oks P ops L E S G w0 base p (i+1) r):Oks P ops L E S G w0 base p i (.k s :: r):=by
 split at h
 ·rename_i a b c hx
  simp only [Option.some.injEq,Prod.mk.injEq] at h
  obtain ⟨rfl,rfl⟩:=h
  exact ok_k c hx t
 ·cases h
def aG (k:Nat) (a:Array Value):Value:=a.getD k undef
theorem imax (x y:Int):(if y > x then y else x) = max x y:=by omega
theorem then_n {next:Act→World→Prop} {Q:Exit→Act→World→Prop} {a:Act} {w:World} (h:next a w):Exit.then next Q .normal a w:=h
theorem then_r {next:Act→World→Prop} {Q:Exit→Act→World→Prop} {a:Act} {w:World} (h:Q .ret a w):Exit.then next Q .ret a w:=h
theorem inb_r {Q:Exit→Act→World→Prop} {id:Nat} {a:Act} {w:World} (h:Q .ret a w):Exit.inBlock id Q .ret a w:=h
theorem inb_n {Q:Exit→Act→World→Prop} {id:Nat} {a:Act} {w:World} (h:Q .normal a w):Exit.inBlock id Q .normal a w:=h
theorem wp_symQ {P:Program} {ops:Array Oper} {y:Code} {Q:Exit→Act→World→Prop} {T0:Array Value} {n:Nat} {L:Ks} {w0:Fr0} {gs:List Gf} {id:Nat} {d:Bool} {W:World} {E:List Bx} (hS:Fb w0 W E) (hG:GsAt gs W) (hK:Kn T0 n L) (S:Pqs→List Spo) (L1:Pqs→Ks) (hm:P.follows .mixedOrders = true) (hsh:∀ p p',(S p).map Spo.bare = (S p').map Spo.bare) (hB:∀ p,symB ops n L E (S p) p (L1 p) = true) (hL:∀ p,(L1 p).map (fun x=>slotAt L x.1 (S p).length (puts p 0 (S p))) = (L1 p).map (·.2))
  (hok:∀ p,Oks P ops L E (S p) (GsAt gs) w0 W.heap.size p 0 (S p))
  (hfin:∀ p W' T1,SymF E (S p) (GsAt gs) w0 W.heap.size p W'→Kn T1 n (L1 p)→y.wp P Q ⟨T1,[]⟩ W') :
  (Code.seq (Code.region id ops d) y).wp P Q ⟨T0,[]⟩ W:=wp_seq (wp_symG hS hG hK S L1 hm hsh hB hL hok hfin)
def allBx:Nat→List Bx→List Nat
 | _,[]=>[]
 | i,_ :: r=>i :: allBx (i+1) r
@[reducible] def pT (b k:Nat):Value:=.pointer (some ⟨b,k,none⟩)
theorem wq {P:Program} {ops:Array Oper} {Q:Exit→Act→World→Prop} {T0:Array Value} {n:Nat} {L:Ks} {w0:Fr0} {gs:List Gf} {id:Nat} {d:Bool} {W:World} {E:List Bx} {y:Code} (hS:Fb w0 W E) (hG:GsAt gs W) (hK:Kn T0 n L) (S:Pqs→List Spo) (L1:Pqs→Ks) (hok:∀ p,Oks P ops L E (S p) (GsAt gs) w0 W.heap.size p 0 (S p)) (hfin:∀ p W' T1,SymF E (S p) (GsAt gs) w0 W.heap.size p W'→Kn T1 n (L1 p)→y.wp P Q ⟨T1,[]⟩ W') (hm:P.follows .mixedOrders = true:=by kernel_rfl) (hsh:∀ p p',(S p).map Spo.bare = (S p').map Spo.bare:=by intro _ _; kernel_rfl) (hB:∀ p,symB ops n L E (S p) p (L1 p) = true:=by intro _; kernel_rfl) (hL:∀ p,(L1 p).map (fun x=>slotAt L x.1 (S p).length (puts p 0 (S p))) = (L1 p).map (·.2):=by intro _; kernel_rfl):(Code.seq (Code.region id ops d) y).wp P Q ⟨T0,[]⟩ W:=wp_symQ hS hG hK S L1 hm hsh hB hL hok hfin
theorem wg {P:Program} {ops:Array Oper} {Q:Exit→Act→World→Prop} {T0:Array Value} {n:Nat} {L:Ks} {w0:Fr0} {gs:List Gf} {id:Nat} {d:Bool} {W:World} {E:List Bx} (hS:Fb w0 W E) (hG:GsAt gs W) (hK:Kn T0 n L) (S:Pqs→List Spo) (L1:Pqs→Ks) (hok:∀ p,Oks P ops L E (S p) (GsAt gs) w0 W.heap.size p 0 (S p)) (hfin:∀ p W' T1,SymF E (S p) (GsAt gs) w0 W.heap.size p W'→Kn T1 n (L1 p)→Q .normal ⟨T1,[]⟩ W') (hm:P.follows .mixedOrders = true:=by kernel_rfl) (hsh:∀ p p',(S p).map Spo.bare = (S p').map Spo.bare:=by intro _ _; kernel_rfl) (hB:∀ p,symB ops n L E (S p) p (L1 p) = true:=by intro _; kernel_rfl) (hL:∀ p,(L1 p).map (fun x=>slotAt L x.1 (S p).length (puts p 0 (S p))) = (L1 p).map (·.2):=by intro _; kernel_rfl):(Code.region id ops d).wp P Q ⟨T0,[]⟩ W:=wp_symG hS hG hK S L1 hm hsh hB hL hok hfin
theorem okv {P:Program} {ops:Array Oper} {L:Ks} {E:List Bx} {S:List Spo} {G:World→Prop} {w0:Fr0} {base:Nat} {p:Pqs} {i:Nat} {r:List Spo} {s:Nat} {x:Value} (t:Oks P ops L E S G w0 base p (i+1) r) (h:opRun P ops L (puts p 0 S) i 0 [] = some (some s,true,some (.value x,[])):=by kernel_rfl):Oks P ops L E S G w0 base p i (.v s x :: r):=ok_v h t
theorem okvi {P:Program} {ops:Array Oper} {L:Ks} {E:List Bx} {S:List Spo} {G:World→Prop} {w0:Fr0} {base:Nat} {p:Pqs} {i:Nat} {r:List Spo} {s:Nat} {k:IntKind} {x y:Int} (e:x = y) (t:Oks P ops L E S G w0 base p (i+1) r) (h:opRun P ops L (puts p 0 S) i 0 [] = some (some s,true,some (.value (.int k x),[])):=by kernel_rfl):Oks P ops L E S G w0 base p i (.v s (.int k y) :: r):=ok_vi e h t
theorem okvb {P:Program} {ops:Array Oper} {L:Ks} {E:List Bx} {S:List Spo} {G:World→Prop} {w0:Fr0} {base:Nat} {p:Pqs} {i:Nat} {r:List Spo} {s:Nat} {x y:Bool} (e:x = y) (t:Oks P ops L E S G w0 base p (i+1) r) (h:opRun P ops L (puts p 0 S) i 0 [] = some (some s,true,some (.value (.bool x),[])):=by kernel_rfl):Oks P ops L E S G w0 base p i (.v s (.bool y) :: r):=ok_vb e h t
theorem okn {P:Program} {ops:Array Oper} {L:Ks} {E:List Bx} {S:List Spo} {G:World→Prop} {w0:Fr0} {base:Nat} {p:Pqs} {i:Nat} {r:List Spo} {s:Nat} {cs:Array Value} {ty:TypeId} (t:Oks P ops L E S G w0 base p (i+1) r) (h:∀ q,opRun P ops L (puts p 0 S) i q [] = some (some s,true,some (.value (nv q ty),[.nw (.cells cs (ty % 1000000))])):=by intro _; kernel_rfl):Oks P ops L E S G w0 base p i (.n s cs ty :: r):=ok_n h t
theorem okc {P:Program} {ops:Array Oper} {L:Ks} {E:List Bx} {S:List Spo} {G:World→Prop} {w0:Fr0} {base:Nat} {p:Pqs} {i:Nat} {r:List Spo} {s:Option Nat} {f:Cf} {fn:FuncId} {args:Array Value} (hc:∀ W,Cx ops E S G w0 base p i W→Calls P fn args W fun en W'=>∃ q,en = .returned (f.f q)∧Below W.heap.size W W'∧f.g q W') (t:Oks P ops L E S G w0 base p (i+1) r) (h:opRun P ops L (puts p 0 S) i 0 [] = some (s,true,some (.enter fn args,[])):=by kernel_rfl) (hn:∀ q,f.bk q = none:=by intro _; rfl):Oks P ops L E S G w0 base p i (.c s f :: r):=ok_c hc h t hn
theorem oku {P:Program} {ops:Array Oper} {L:Ks} {E:List Bx} {S:List Spo} {G:World→Prop} {w0:Fr0} {base:Nat} {p:Pqs} {i:Nat} {r:List Spo} {s:Nat} {x:Value} {g:Array Value→Value} {fn:FuncId} {args:Array Value} (hc:∀ W,Cx ops E S G w0 base p i W→Calls P fn args W fun en W'=>en = .returned x∧Below W.heap.size W W') (t:Oks P ops L E S G w0 base p (i+1) r) (h:opRun P ops L (puts p 0 S) i 0 [] = some (some s,true,some (.enter fn args,[])):=by kernel_rfl) (hx:g args = x:=by kernel_rfl):Oks P ops L E S G w0 base p i (.u s x g :: r):=ok_u hc h hx t
theorem okl {P:Program} {ops:Array Oper} {L:Ks} {E:List Bx} {S:List Spo} {G:World→Prop} {w0:Fr0} {base:Nat} {p:Pqs} {i:Nat} {r:List Spo} {s j off:Nat} {x:Value} (t:Oks P ops L E S G w0 base p (i+1) r) (hb:(boxOf E S p j).isSome = true:=by kernel_rfl) (h:opRun P ops L (puts p 0 S) i 0 x.cells.toList = some (some s,true,some (.value x,lds (blkOf E S p j) off x.cells.toList)):=by kernel_rfl) (hc:((cellsOf (fun k=>Nat.blt k i) j 0 S (csOf E S p j)).toList.drop off).take x.cells.size = x.cells.toList:=by kernel_rfl):Oks P ops L E S G w0 base p i (.l s x j off :: r):=ok_L hb h hc t
theorem okp {P:Program} {ops:Array Oper} {L:Ks} {E:List Bx} {S:List Spo} {G:World→Prop} {w0:Fr0} {base:Nat} {p:Pqs} {i:Nat} {r:List Spo} {j off:Nat} {xs:List Value} (t:Oks P ops L E S G w0 base p (i+1) r) (hb:(boxOf E S p j).isSome = true:=by kernel_rfl) (h:opRun P ops L (puts p 0 S) i 0 [] = some (none,true,some (.skip,sts (blkOf E S p j) off xs)):=by kernel_rfl) (hc:Nat.ble (off+xs.length) (csOf E S p j).size = true:=by kernel_rfl):Oks P ops L E S G w0 base p i (.p j off xs :: r):=ok_P hb h hc t
theorem okk {P:Program} {ops:Array Oper} {L:Ks} {E:List Bx} {S:List Spo} {G:World→Prop} {w0:Fr0} {base:Nat} {p:Pqs} {i:Nat} {r:List Spo} {s:Option Nat} (t:Oks P ops L E S G w0 base p (i+1) r) (h:(match opRun P ops L (puts p 0 S) i 0 [] with|some (a,b,_)=>some (a,b)|none=>none) = some (s,false):=by kernel_rfl):Oks P ops L E S G w0 base p i (.k s :: r):=ok_K h t
theorem SymF.fc {E:List Bx} {S:List Spo} {G:World→Prop} {w0:Fr0} {W0:World} {p:Pqs} {W:World} (hS:Fb w0 W0 E) (h:SymF E S G w0 W0.heap.size p W) (js:List Nat) (E1:List Bx) (e:finBx E S p js = E1:=by kernel_rfl) (nd:nodupB js = true:=by kernel_rfl):Fb w0 W E1:=SymF.fb hS h js E1 e nd
theorem SymF.fg {E:List Bx} {S:List Spo} {G:World→Prop} {w0:Fr0} {W0:World} {p:Pqs} {W:World} (hS:Fb w0 W0 E) (h:SymF E S G w0 W0.heap.size p W) (e:finBx E S p (allBx 0 E) = E:=by kernel_rfl) (nd:nodupB (allBx 0 E) = true:=by kernel_rfl):Fb w0 W E∧G W:=⟨SymF.fb hS h _ E e nd,h.gx⟩
theorem Kn.ew {T:Array Value} {n:Nat} {L:Ks} (h:Kn T n L) (s:Nat) {v:Value} (hi:inK L s = true:=by kernel_rfl) (hv:lookK L s = v:=by kernel_rfl):Act.eval ⟨T,[]⟩ (.tmp s) = v:=h.ev s hi v hv
theorem xr_ok2 (w:World) (s:Bool) (a:Option Addr) (n c m:Nat) (z:Int) (i j V M:Nat) (h:Num w a n m) (hx:-1073741824≤z∧z≤1073741824) (hi:max z 0 = (i:Int)) (hj:max (-z) 0 = (j:Int)) (HC:Hid (∀ (W:World) (A:Option Addr) (N C:Nat),Num W A N m→Calls Tryz.prog 62 #[.agg #[.bool s,.slice A N C,.int .i64 z]] W fun e w'=>e = .returned (.int .i64 0)∧Below W.heap.size W w')) (HU:Hid (∀ (W:World) (A:Option Addr) (N C:Nat),Num W A N m→Calls Tryz.prog 63 #[.agg #[.slice A N C],.int .i64 (i:Int)] W fun en W'=>(∃ a n c,en = .returned (.tuple #[.agg #[.slice a n c],.int .i64 0])∧Mine W' W.heap.size a n c V)∧Below W.heap.size W W')) (HD:Hid (∀ (W:World) (A:Option Addr) (N C:Nat),Num W A N 1→Calls Tryz.prog 63 #[.agg #[.slice A N C],.int .i64 (j:Int)] W fun en W'=>(∃ a n c,en = .returned (.tuple #[.agg #[.slice a n c],.int .i64 0])∧Mine W' W.heap.size a n c M)∧Below W.heap.size W W')) :
  Calls Tryz.prog 24 #[.agg #[.bool s,.slice a n c,.int .i64 z]] w fun en w'=>(∃ A N C A' N' C',en = .returned (.tuple #[.agg #[.bool s,.slice A N C,.slice A' N' C'],.int .i64 0])∧Mine w' w.heap.size A N C V∧Mine w' w.heap.size A' N' C' M)∧Below w.heap.size w w':=by
 refine calls_sym Tryz.func24 rfl (by kernel_rfl) fun T hK=>?_
 replace hK:Kn T _ [(0,.agg #[.bool s,.slice a n c,.int .i64 z])]:=hK
 have hS:=Fb.begin w
 have hG:GsAt [gN a n m] w:=⟨h,trivial⟩
 refine wq hS hG hK (fun p1=>[.n 1 #[.bool s,.slice a n c,.int .i64 z] 58,.n 2 #[.bool false,.slice none 0 0,.slice none 0 0] 29,.v 3 (.int .i64 0)]) (fun p1=>[(1,pT (p1 0).N 0),(2,pT (p1 1).N 0),(3,.int .i64 0)]) (fun p1=>?_) (fun p1 W1 T hF hK=>?_)
 ·iterate 2 refine okn ?_
  refine okv ?_
  exact ok_nil
 replace hS:=SymF.fc hS hF [1000,1001] [⟨(p1 0).N,#[.bool s,.slice a n c,.int .i64 z],58,true⟩,⟨(p1 1).N,#[.bool false,.slice none 0 0,.slice none 0 0],29,true⟩]
 replace hG:=hF.gx
 clear hF
 refine wp_seq ?_
 refine wq hS hG hK (fun p2=>[.l 8 (.agg #[.bool s,.slice a n c,.int .i64 z]) 0 0,.c (some 9) (cV (.int .i64 0)),.v 4 (.int .i64 0)]) (fun p2=>[(1,pT (p1 0).N 0),(2,pT (p1 1).N 0),(3,.int .i64 0),(4,.int .i64 0)]) (fun p2=>?_) (fun p2 W2 T hF hK=>?_)
 ·refine okl ?_
  refine okc (fun W cx=>as_v (unhide HC _ _ _ c (cx.G.1))) ?_
  refine okv ?_
  exact ok_nil
 obtain ⟨hS,hG⟩:=SymF.fg hS hF
 clear hF
 refine wq hS hG hK (fun p3=>[.v 10 (.int .i64 0),.v 11 (.bool false)]) (fun p3=>[(1,pT (p1 0).N 0),(2,pT (p1 1).N 0),(3,.int .i64 0),(4,.int .i64 0),(11,.bool false)]) (fun p3=>?_) (fun p3 W3 T hF hK=>?_)
 ·iterate 2 refine okv ?_
  exact ok_nil
 obtain ⟨hS,hG⟩:=SymF.fg hS hF
 clear hF
 have z3:=hS.fr.size
 refine wp_cond_false (hK.ew 11) (wp_skip (then_n ?_))
 refine wq hS hG hK (fun p4=>[.v 15 (pT (p1 0).N 1),.l 16 (.agg #[.slice a n c]) 0 1,.v 17 (pT (p1 0).N 2),.l 18 (.int .i64 z) 0 2,.v 19 (.int .i64 (i:Int)),.c (some 20) (cO W3.heap.size V),.v 14 (.tuple #[.agg #[.slice (p4 5).A (p4 5).N (p4 5).C],.int .i64 0]),.v 21 (.agg #[.slice (p4 5).A (p4 5).N (p4 5).C]),.v 22 (.int .i64 0),.n 5 #[.slice none 0 0] 27,.p 1009 0 [.slice (p4 5).A (p4 5).N (p4 5).C],.v 6 (.int .i64 0)]) (fun p4=>[(1,pT (p1 0).N 0),(2,pT (p1 1).N 0),(3,.int .i64 0),(4,.int .i64 0),(5,pT (p4 9).N 0),(6,.int .i64 0)]) (fun p4=>?_) (fun p4 W4 T hF hK=>?_)
 ·refine okv ?_
  refine okl ?_
  refine okv ?_
  refine okl ?_
  refine okvi ((imax z 0).trans hi) ?_
  refine okc (fun W cx=>as_o cx.hb (unhide HU _ _ _ c (cx.G.1))) ?_
  iterate 3 refine okv ?_
  refine okn ?_
  refine okp ?_
  refine okv ?_
  exact ok_nil
 replace hS:=SymF.fc hS hF [0,1,1009] [⟨(p1 0).N,#[.bool s,.slice a n c,.int .i64 z],58,true⟩,⟨(p1 1).N,#[.bool false,.slice none 0 0,.slice none 0 0],29,true⟩,⟨(p4 9).N,#[.slice (p4 5).A (p4 5).N (p4 5).C],27,true⟩]
 replace hG:GsAt (gM W3.heap.size (p4 5).A (p4 5).N (p4 5).C V :: _) W4:=⟨hF.fx 5,hF.gx⟩
 clear hF
 refine wp_seq ?_
 refine wq hS hG hK (fun p5=>[.v 23 (.int .i64 0),.v 24 (.bool false)]) (fun p5=>[(1,pT (p1 0).N 0),(2,pT (p1 1).N 0),(3,.int .i64 0),(4,.int .i64 0),(5,pT (p4 9).N 0),(6,.int .i64 0),(24,.bool false)]) (fun p5=>?_) (fun p5 W5 T hF hK=>?_)
 ·iterate 2 refine okv ?_
  exact ok_nil
 obtain ⟨hS,hG⟩:=SymF.fg hS hF
 clear hF
 have z5:=hS.fr.size
 refine wp_cond_false (hK.ew 24) (wp_skip (then_n ?_))
 refine wq hS hG hK (fun p6=>[.c (some 28) (cN W5.heap.size 1),.v 29 (pT (p1 0).N 2),.l 30 (.int .i64 z) 0 2,.v 31 (.int .i64 (-z)),.v 32 (.int .i64 (j:Int)),.c (some 33) (cO W5.heap.size M),.v 27 (.tuple #[.agg #[.slice (p6 5).A (p6 5).N (p6 5).C],.int .i64 0]),.v 34 (.agg #[.slice (p6 5).A (p6 5).N (p6 5).C]),.v 35 (.int .i64 0),.n 7 #[.slice none 0 0] 27,.p 1009 0 [.slice (p6 5).A (p6 5).N (p6 5).C],.v 6 (.int .i64 0)]) (fun p6=>[(1,pT (p1 0).N 0),(2,pT (p1 1).N 0),(3,.int .i64 0),(4,.int .i64 0),(5,pT (p4 9).N 0),(6,.int .i64 0),(7,pT (p6 9).N 0)]) (fun p6=>?_) (fun p6 W6 T hF hK=>?_)
 ·refine okc (fun W cx=>as_n cx.hb (of_any 1 _ (by decide))) ?_
  refine okv ?_
  refine okl ?_
  refine okvi ((wr64 (x:=0 - z) (by omega) (by omega)).trans (by omega)) ?_
  refine okvi ((imax (-z) 0).trans hj) ?_
  refine okc (fun W cx=>as_o cx.hb (unhide HD _ _ _ (p6 0).C (Mine.num (cx.F 0 (by kernel_rfl))))) ?_
  iterate 3 refine okv ?_
  refine okn ?_
  refine okp ?_
  refine okv ?_
  exact ok_nil
 replace hS:=SymF.fc hS hF [0,1,2,1009] [⟨(p1 0).N,#[.bool s,.slice a n c,.int .i64 z],58,true⟩,⟨(p1 1).N,#[.bool false,.slice none 0 0,.slice none 0 0],29,true⟩,⟨(p4 9).N,#[.slice (p4 5).A (p4 5).N (p4 5).C],27,true⟩,⟨(p6 9).N,#[.slice (p6 5).A (p6 5).N (p6 5).C],27,true⟩]
 replace hG:GsAt (gM W5.heap.size (p6 0).A (p6 0).N (p6 0).C 1 :: gM W5.heap.size (p6 5).A (p6 5).N (p6 5).C M :: _) W6:=⟨hF.fx 0,hF.fx 5,hF.gx⟩
 clear hF
 refine wp_seq ?_
 refine wq hS hG hK (fun p7=>[.v 36 (.int .i64 0),.v 37 (.bool false)]) (fun p7=>[(1,pT (p1 0).N 0),(2,pT (p1 1).N 0),(3,.int .i64 0),(4,.int .i64 0),(5,pT (p4 9).N 0),(6,.int .i64 0),(7,pT (p6 9).N 0),(37,.bool false)]) (fun p7=>?_) (fun p7 W7 T hF hK=>?_)
 ·iterate 2 refine okv ?_
  exact ok_nil
 obtain ⟨hS,hG⟩:=SymF.fg hS hF
 clear hF
 refine wp_cond_false (hK.ew 37) (wp_skip (then_n ?_))
 refine wq hS hG hK (fun p8=>[.v 40 (pT (p1 0).N 0),.l 41 (.bool s) 0 0,.l 42 (.agg #[.slice (p4 5).A (p4 5).N (p4 5).C]) 2 0,.l 43 (.agg #[.slice (p6 5).A (p6 5).N (p6 5).C]) 3 0,.v 44 (.agg #[.bool s,.slice (p4 5).A (p4 5).N (p4 5).C,.slice (p6 5).A (p6 5).N (p6 5).C]),.p 1 0 [.bool s,.slice (p4 5).A (p4 5).N (p4 5).C,.slice (p6 5).A (p6 5).N (p6 5).C],.v 3 (.int .i64 0)]) (fun p8=>[(2,pT (p1 1).N 0),(3,.int .i64 0),(4,.int .i64 0),(6,.int .i64 0)]) (fun p8=>?_) (fun p8 W8 T hF hK=>?_)
 ·refine okv ?_
  iterate 3 refine okl ?_
  refine okv ?_
  refine okp ?_
  refine okv ?_
  exact ok_nil
 replace hS:=SymF.fc hS hF [1] [⟨(p1 1).N,#[.bool s,.slice (p4 5).A (p4 5).N (p4 5).C,.slice (p6 5).A (p6 5).N (p6 5).C],29,true⟩]
 replace hG:=hF.gx
 clear hF
 refine wp_ret ?_
 exact sym_end hS hK (.tuple #[.agg #[.bool s,.slice (p4 5).A (p4 5).N (p4 5).C,.slice (p6 5).A (p6 5).N (p6 5).C],.int .i64 0]) [(0,0,3)] [.bool s,.slice (p4 5).A (p4 5).N (p4 5).C,.slice (p6 5).A (p6 5).N (p6 5).C] (by kernel_rfl) (by kernel_rfl) ⟨⟨_,_,_,_,_,_,rfl,Mine.mono hG.2.2.1 z3,Mine.mono hG.2.1 z5⟩,hS.fr⟩
def tyOf (E:List Bx) (S:List Spo) (p:Pqs) (j:Nat):TypeId:=match boxOf E S p j with
 | some (bx,_)=>bx.t
 | none=>0
theorem Cx.at_ {ops:Array Oper} {E:List Bx} {S:List Spo} {G:World→Prop} {w0:Fr0} {base:Nat} {p:Pqs} {i:Nat} {W:World} (cx:Cx ops E S G w0 base p i W) (j:Nat) (b0:Nat) (cs0:Array Value) (t0:TypeId) (hb:(boxOf E S p j).isSome = true) (e1:blkOf E S p j = b0) (e2:cellsOf (fun k=>Nat.blt k i) j 0 S (csOf E S p j) = cs0) (e3:tyOf E S p j = t0) (ht:touchOk ops i j 0 S = true) (hr:(Nat.blt j 1000 || reach ops 4 i (j - 1000)) = true):W.heap[b0]? = some (.cells cs0 t0 (0,0)):=by
 obtain ⟨⟨bx,bo⟩,hbx⟩:=Option.isSome_iff_exists.1 hb
 unfold blkOf at e1; unfold csOf at e2; unfold tyOf at e3
 rw [hbx] at e1 e2 e3
 subst e1 e2 e3
 exact cx.cl j bx bo hbx ht (by simpa using hr)
theorem ok_W {P:Program} {ops:Array Oper} {L:Ks} {E:List Bx} {S:List Spo} {G:World→Prop} {w0:Fr0} {base:Nat} {p:Pqs} {i:Nat} {r:List Spo} {s:Option Nat} {j off:Nat} {xs:List Value} {g:Pq→List Value} {f:Cf} {fn:FuncId} {args:Array Value} (b0:Nat) (cs0:Array Value) (t0:TypeId)
  (hc:∀ W,Cx ops E S G w0 base p i W→W.heap[b0]? = some (.cells cs0 t0 (0,0))→Calls P fn args W fun en W'=>∃ q,en = .returned (f.f q)∧(g q).length = xs.length∧Below W.heap.size (evs (sts b0 off (g q)) W) W'∧f.g q W')
  (h:opRun P ops L (puts p 0 S) i 0 [] = some (s,true,some (.enter fn args,[]))) (hb:(boxOf E S p j).isSome = true) (e1:blkOf E S p j = b0) (e2:cellsOf (fun k=>Nat.blt k i) j 0 S (csOf E S p j) = cs0) (e3:tyOf E S p j = t0) (hg:g (p i) = xs) (hn:Nat.ble (off+xs.length) (csOf E S p j).size = true) (t:Oks P ops L E S G w0 base p (i+1) r) (hk:∀ q,f.bk q = none:=by intro _; rfl):Oks P ops L E S G w0 base p i (.w s j off xs g f :: r):=by
 obtain ⟨⟨bx,bo⟩,hbx⟩:=Option.isSome_iff_exists.1 hb
 unfold blkOf at e1; unfold csOf at e2 hn; unfold tyOf at e3
 rw [hbx] at e1 e2 e3 hn
 subst e1 e2 e3
 exact ok_w hbx hc h hg hn t hk
theorem as_w {P:Program} {fn:FuncId} {args:Array Value} {W:World} {b off:Nat} {v:Value} {xs:List Value} (h:Calls P fn args W fun en W'=>en = .returned v∧Below W.heap.size (evs (sts b off xs) W) W'):Calls P fn args W fun en W'=>∃ q,en = .returned ((cV v).f q)∧((fun _:Pq=>xs) q).length = xs.length∧Below W.heap.size (evs (sts b off ((fun _:Pq=>xs) q)) W) W'∧(cV v).g q W':=
 h.mono fun _ _ ⟨h1,h2⟩=>⟨pq0,h1,rfl,h2,trivial⟩
def cM0 (m:Nat) (f:Value→Value):Cf:=.pl (fun q=>f (.slice q.A q.N q.C)) (fun q W=>Mine W 0 q.A q.N q.C m) (fun _=>sta_mine _ _ _ _ _)
theorem as_0 {P:Program} {fn:FuncId} {args:Array Value} {W:World} {m:Nat} {f:Value→Value} (h:Calls P fn args W fun en W'=>(∃ a n c,en = .returned (f (.slice a n c))∧Mine W' 0 a n c m)∧Below W.heap.size W W'):Calls P fn args W fun en W'=>∃ q,en = .returned ((cM0 m f).f q)∧Below W.heap.size W W'∧(cM0 m f).g q W':=
 h.mono fun _ _ ⟨⟨a,n,c,h1,h3⟩,h2⟩=>⟨{ pq0 with A:=a,N:=n,C:=c },h1,h2,h3⟩
theorem OneBut.below {p off:Nat} {w W':World} {cs:Array Value} {t:TypeId} {xs:List Value} (ht:t≠42) (hc:NoLimb cs.toList) (hx:NoLimb xs) (h1:xs.all (·.oneCell') = true) (hn:off+xs.length≤cs.size) (h0:w.heap[p]? = some (.cells cs t (0,0))) (h:OneBut p w W') (hp:W'.heap[p]? = some (.cells (setL cs off xs) t (0,0))):Below w.heap.size (evs (sts p off xs) w) W':=by
 obtain ⟨-,g2,g3,g4,g5,-⟩:=sts_ok (w0:=Fr0.but p w) ht (Or.inl rfl) xs off cs w h0 hn hc hx h1 ⟨rfl,rfl,rfl,Nat.le_refl _,fun _ _ _=>rfl⟩
 have g4':OneBut p w (evs (sts p off xs) w):=g4
 refine ⟨h.os.trans g4'.os.symm,h.tape.trans g4'.tape.symm,h.output.trans g4'.output.symm,by rw [g5]; exact h.size,fun k hk=>?_⟩
 by_cases hkp:k = p
 ·subst hkp; rw [hp,g2]
 ·rw [h.block k hk hkp,g3 k hkp]
end Go.Proofs.YtaidedkpfnidpaaGreatDoor
