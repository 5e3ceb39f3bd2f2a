/- Of what NearRoundsRow stands on: Sym Sym2 Sym3 Sym4 Sym5 NrLeaf. -/
import Derived.Test.YtaidedkpfnidpaaGreatDoorPaq
namespace Go.Proofs.YtaidedkpfnidpaaGreatDoor
open Go.RowKit
set_option maxHeartbeats 400000
inductive Ev where
 | ld (a:Addr) (v:Value)
 | st (a:Addr) (v:Value)
 | nw (o:Obj)
def script{α:Type}(P:Program)(r:Nat):Sem α→List Value→Option (α×List Ev)
 | .pure a,[]=>some (a,[])
 | .load _ a k,v::vs=>match script P r (k v) vs with
  | some (x,es)=>some (x,.ld a v::es)
  | none=>none
 | .store _ a v k,vs=>match script P r k vs with
  | some (x,es)=>some (x,.st a v::es)
  | none=>none
 | .new o k,vs=>match script P r (k r) vs with
  | some (x,es)=>some (x,.nw o::es)
  | none=>none
 | .program k,vs=>script P r (k P) vs
 | .mark _ k,vs=>script P r k vs
 | _,_=>none
def evs:List Ev→World→World
 | [],W=>W
 | .ld _ _::es,W=>evs es W
 | .st a v::es,W=>evs es (W.setCell a v)
 | .nw o::es,W=>evs es (W.alloc o)
def dY(r:Nat):List Ev→World→Prop
 | [],_=>True
 | .ld a v::es,W=>W.cell? a=some v∧dY r es W
 | .st a v::es,W=>(∃u,W.cell? a=some u)∧W.frozen? a=false∧v.oneCell'=true∧dY r es (W.setCell a v)
 | .nw o::es,W=>W.heap.size=r∧dY r es (W.alloc o)
theorem cB{α:Type}(P:Program)(r:Nat)(s:Sem α):∀(vs:List Value)(x:α)(es:List Ev)(W:World),script P r s vs=some (x,es)→dY r es W→s.run P W = .ok x (evs es W):=by
 induction s with
 | pure a=>
  intro vs x es W h _;cases vs with
  | nil=>simp only [script,Option.some.injEq,Prod.mk.injEq] at h;obtain ⟨rfl,rfl⟩:=h;rfl
  | cons=>simp [script] at h
 | load m a k ih=>
  intro vs x es W h hok;cases vs with
  | nil=>simp [script] at h
  | cons v vs=>
   simp only [script] at h
   split at h
   ·rename_i x' es' h'
    simp only [Option.some.injEq,Prod.mk.injEq] at h;obtain ⟨rfl,rfl⟩:=h;have:=ih v vs _ _ W h' hok.2;simp only [Sem.run,hok.1,evs];exact this
   ·cases h
 | store m a v k ih=>
  intro vs x es W h hok;simp only [script] at h
  split at h
  ·rename_i x' es' h'
   simp only [Option.some.injEq,Prod.mk.injEq] at h;obtain ⟨rfl,rfl⟩:=h;obtain ⟨⟨u,hu⟩,hz,ho,hr⟩:=hok;have:=ih vs _ _ _ h' hr;cases v<;>first
    | (simp [Value.oneCell'] at ho;done)
    | (simp only [Sem.run,hu,hz,evs];exact this)
  ·cases h
 | new o k ih=>
  intro vs x es W h hok;simp only [script] at h
  split at h
  ·rename_i x' es' h'
   simp only [Option.some.injEq,Prod.mk.injEq] at h;obtain ⟨rfl,rfl⟩:=h;have:=ih r vs _ _ _ h' hok.2;simp only [Sem.run,evs];rw [hok.1];exact this
  ·cases h
 | program k ih=>intro vs x es W h hok;exact ih P vs x es W h hok
 | mark m k ih=>intro vs x es W h hok;exact ih vs x es W h hok
 | _=>intro vs x es W h _;cases vs<;>simp [script] at h
structure jR(f:World→Prop):Prop where
 kept:∀W W',Below W.heap.size W W'→f W→f W'
 put:∀(W:World)(b:Nat)(cs:Array Value)(t:TypeId)(j:Nat)(u:Value),W.heap[b]? = some (.cells cs t (0,0))→t≠42→bM cs.toList→f W→f (W.setCell ⟨b,j,none⟩ u)
structure xJ(b0:Option Nat)(f:World→Prop):Prop where
 kept:∀W W',Below W.heap.size W W'→f W→f W'
 put:∀(W:World)(b:Nat)(cs:Array Value)(t:TypeId)(j:Nat)(u:Value),W.heap[b]? = some (.cells cs t (0,0))→t≠42→bM cs.toList→(∀c,b0=some c→b≠c)→f W→f (W.setCell ⟨b,j,none⟩ u)
theorem jR.b{f:World→Prop}(h:jR f)(b0:Option Nat):xJ b0 f:=⟨h.kept,fun W b cs t j u h1 h2 h3 _ h4=>h.put W b cs t j u h1 h2 h3 h4⟩
structure Pq where
 A:Option Addr
 N:Nat
 C:Nat
 A':Option Addr
 N':Nat
 C':Nat
 B:Bool
 M:Nat
 Z:Int
 A2:Option Addr
 N2:Nat
 C2:Nat
 A3:Option Addr
 N3:Nat
 C3:Nat
 A4:Option Addr
 N4:Nat
 C4:Nat
abbrev aC:=Nat→Pq
def aC.set(p:aC)(c:Nat)(q:Pq):aC:=fun i=>if i=c then q else p i
def iH:Pq:=⟨none,0,0,none,0,0,false,0,0,none,0,0,none,0,0,none,0,0⟩
structure Cf where
 f:Pq→Value
 g:Pq→World→Prop
 bk:Pq→Option Nat
 st:∀q,xJ (bk q) (g q)
def Cf.pl(f:Pq→Value)(g:Pq→World→Prop)(st:∀q,jR (g q)):Cf:=⟨f,g,fun _=>none,fun q=>(st q).b none⟩
inductive az where
 | v (s:Nat) (x:Value)
 | l (s:Nat) (x:Value) (j off:Nat)
 | p (j off:Nat) (xs:List Value)
 | n (s:Nat) (cs:Array Value) (t:TypeId)
 | c (s:Option Nat) (f:Cf)
 | u (s:Nat) (x:Value) (h:Array Value→Value)
 | g (s:Nat) (x:Value) (vs:List Value) (es:List Ev)
 | k (s:Option Nat)
 | w (s:Option Nat) (j off:Nat) (xs:List Value) (h:Pq→List Value) (f:Cf) (x:Option (Value×(Array Value→Value)):=none)
def tQ(f:Cf)(q:Pq):Option (Value×(Array Value→Value))→Value
 | none=>f.f q
 | some y=>y.1
def nv(b t:Nat):Value:=match Nat.blt t 1000000 with
 | true=>.pointer (some ⟨b,0,none⟩)
 | false=>.slice (some ⟨b,0,none⟩) (t/1000000) (t/1000000)
def az.put(p:aC)(i:Nat):az→Option (Nat×Value)
 | .v s x=>some (s,x)
 | .l s x _ _=>some (s,x)
 | .p _ _ _=>none
 | .n s _ t=>some (s,nv (p i).N t)
 | .c s f=>s.map fun s=>(s,f.f (p i))
 | .u s x _=>some (s,x)
 | .g s x _ _=>some (s,x)
 | .k s=>s.map fun s=>(s,undef)
 | .w s _ _ _ _ f x=>s.map fun s=>(s,tQ f (p i) x)
def puts(p:aC):Nat→List az→ay
 | _,[]=>[]
 | i,x::r=>x.put p i::puts p (i+1) r
def az.bare:az→az
 | .v s _=>.v s undef
 | .l s _ j off=>.l s undef j off
 | .u s _ h=>.u s undef h
 | .g s _ _ _=>.g s undef [] []
 | .p j off xs=>.p j off (xs.map fun _=>undef)
 | .w s j off xs h f x=>.w s j off (xs.map fun _=>undef) h f (x.map fun y=>(undef,y.2))
 | x=>x
theorem kM(p:aC):∀(S:List az)(i:Nat),(puts p i S).length=S.length
 | [],_=>rfl
 | _::r,i=>by simp [puts,kM p r (i+1)]
theorem wE(p:aC):∀(S:List az)(i k:Nat),(puts p i S)[k]? = (S[k]?).map (fun x=>x.put p (i+k))
 | [],_,_=>rfl
 | x::r,i,0=>rfl
 | x::r,i,k+1=>by
  have:=wE p r (i+1) k;simp only [puts,List.getElem?_cons_succ,this];rw [show i+1+k=i+(k+1) from by omega]
abbrev Ks:=List (Nat×Value)
def fJ:Ks→Nat→Value
 | [],_=>undef
 | (s',v)::r,s=>match s'==s with
  | true=>v
  | false=>fJ r s
def jJ:Ks→Nat→Bool
 | [],_=>false
 | (s',_)::r,s=>s'==s||jJ r s
structure Kn(T:Array Value)(n:Nat)(L:Ks):Prop where
 size:T.size=n
 at_:∀x,x∈L→T[x.1]? = some x.2
theorem Kn.look{T:Array Value}{n s:Nat}:∀{L:Ks},Kn T n L→jJ L s=true→T[s]? = some (fJ L s)
 | [],_,h=>by simp [jJ] at h
 | (s',v)::r,hK,h=>by
  simp only [jJ,Bool.or_eq_true] at h;cases hb:s'==s with
  | true=>
   simp only [fJ,hb];have:=hK.at_ (s',v) (List.mem_cons_self ..);rw [beq_iff_eq] at hb;rw [←hb];exact this
  | false=>
   rw [hb] at h;simp only [fJ,hb];exact Kn.look ⟨hK.size,fun x hx=>hK.at_ x (List.mem_cons_of_mem _ hx)⟩ (by simpa using h)
def bQ(L:Ks)(s:Nat):Nat→ay→Value
 | 0,_=>fJ L s
 | _+1,[]=>fJ L s
 | i+1,some (s',v)::r=>match s'==s with
  | true=>v
  | false=>bQ L s i r
 | i+1,none::r=>bQ L s i r
def fG(s:Nat):Nat→ay→Bool
 | 0,_=>false
 | _+1,[]=>false
 | i+1,some (s',_)::r=>s'==s||fG s i r
 | i+1,none::r=>fG s i r
theorem jv{s:Nat}:∀{ds:ay}{i:Nat},fG s i ds=true→∃(k:Nat) (v:Value),k<i∧ds[k]? = some (some (s,v))
 | _,0,h=>by simp [fG] at h
 | [],_+1,h=>by simp [fG] at h
 | none::r,i+1,h=>by
  obtain ⟨k,v,h1,h2⟩:=jv (ds:=r) h;exact ⟨k+1,v,by omega,by simpa using h2⟩
 | some (s',v')::r,i+1,h=>by
  simp only [fG,Bool.or_eq_true,beq_iff_eq] at h;rcases h with rfl|h
  ·exact ⟨0,v',by omega,rfl⟩
  ·obtain ⟨k,v,h1,h2⟩:=jv (ds:=r) h;exact ⟨k+1,v,by omega,by simpa using h2⟩
def IR(L:Ks)(ds:ay)(i:Nat):Operand→Value
 | .tmp s=>bQ L s i ds
 | .const v=>v
 | .global g=>.pointer (some ⟨g,0,none⟩)
 | .func f=>.func (.func f) #[] #[]
def mg(o:Oper)(j:Nat):Bool:=o.after.toList.any fun e=>Region.binds .any e&&e.on==j
def Dh:Op→Bool
 | .select _ _=>true
 | _=>false
def iJ(ops:Array Oper)(i:Nat)(o:Oper)(s:Nat):Nat→ay→Bool
 | _,[]=>true
 | j,some (s',_)::r=>(s' != s||(match Nat.blt j i with
   | true=>mg o j
   | false=>(match Nat.beq j i with
    | true=>true
    | false=>(match ops[j]? with
     | some o'=>mg o' i
     | none=>false))))&&iJ ops i o s (j+1) r
 | j,none::r=>iJ ops i o s (j+1) r
def fq(ops:Array Oper)(L:Ks)(ds:ay):Nat→List Oper→Bool
 | _,[]=>true
 | i,o::r=>(o.looksAt ops).all (fun s=>iJ ops i o s 0 ds&&(fG s i ds||jJ L s)) && !Dh o.op&&fq ops L ds (i+1) r
theorem lZ{o:Oper}{j:Nat}(h:mg o j=true):∃e,e∈o.after∧Region.binds .any e=true∧e.on=j:=by
 obtain ⟨e,he,h⟩:=List.any_eq_true.1 h;simp only [Bool.and_eq_true,beq_iff_eq] at h;exact ⟨e,by simpa using he,h.1,h.2⟩
theorem qy{ops:Array Oper}{i s:Nat}{o:Oper}:∀(ds:ay)(j0 k:Nat)(v:Value),iJ ops i o s j0 ds=true→ds[k]? = some (some (s,v))→(j0+k<i∧mg o (j0+k)=true)∨j0+k=i∨(i<j0+k∧∃o',ops[j0+k]? = some o'∧mg o' i=true)
 | [],_,_,_,_,hk=>by simp at hk
 | d::r,j0,0,v,h,hk=>by
  simp only [List.getElem?_cons_zero,Option.some.injEq] at hk;subst hk;simp only [iJ,Bool.and_eq_true,bne_self_eq_false,Bool.false_or] at h;have h1:=h.1;rw [Nat.add_zero]
  split at h1
  ·rename_i hb;exact Or.inl ⟨by simpa [Nat.blt_eq] using hb,h1⟩
  ·rename_i hb
   have hb':¬j0<i:=by intro hc;rw [show Nat.blt j0 i=true from by simpa [Nat.blt_eq] using hc] at hb;cases hb
   split at h1
   ·rename_i he;exact Or.inr (Or.inl (Nat.eq_of_beq_eq_true he))
   ·rename_i he
    have he':j0≠i:=by rintro rfl;rw [Nat.beq_refl] at he;cases he
    split at h1
    ·rename_i o' ho;exact Or.inr (Or.inr ⟨by omega,o',ho,h1⟩)
    ·cases h1
 | d::r,j0,k+1,v,h,hk=>by
  have hr:iJ ops i o s (j0+1) r=true:=by
   cases d with
   | none=>exact h
   | some d=>simp only [iJ,Bool.and_eq_true] at h;exact h.2
  have:=qy r (j0+1) k v hr (by simpa using hk);rw [show j0+(k+1)=j0+1+k from by omega];exact this
theorem lg{ops:Array Oper}{K:Ks}{ds:ay}:∀(L:List Oper)(i0 k:Nat)(o:Oper),fq ops K ds i0 L=true→L[k]? = some o→(∀s,s∈o.looksAt ops→iJ ops (i0+k) o s 0 ds=true∧(fG s (i0+k) ds=true∨jJ K s=true))∧Dh o.op=false
 | [],_,_,_,_,hk=>by simp at hk
 | o'::r,i0,0,o,h,hk=>by
  simp only [List.getElem?_cons_zero,Option.some.injEq] at hk;subst hk;simp only [fq,Bool.and_eq_true,List.all_eq_true,Bool.not_eq_true',Bool.or_eq_true] at h;exact ⟨fun s hs=>h.1.1 s hs,h.1.2⟩
 | o'::r,i0,k+1,o,h,hk=>by
  simp only [fq,Bool.and_eq_true] at h;have:=lg r (i0+1) k o h.2 (by simpa using hk);rw [show i0+(k+1)=i0+1+k from by omega];exact this
theorem jL{L:Ks}{s:Nat}:∀(ds:ay)(i k:Nat)(v:Value),ay.apart ds=true→ds[k]? = some (some (s,v))→k<i→bQ L s i ds=v
 | _,0,_,_,_,_,h=>absurd h (Nat.not_lt_zero _)
 | [],_+1,_,_,_,hk,_=>by simp at hk
 | d::r,i+1,0,v,_,hk,_=>by
  simp only [List.getElem?_cons_zero,Option.some.injEq] at hk;subst hk;simp [bQ]
 | d::r,i+1,k+1,v,ha,hk,h=>by
  have hk':r[k]? = some (some (s,v)):=by simpa using hk
  cases d with
  | none=>exact jL r i k v ha hk' (by omega)
  | some d=>
   obtain ⟨s',v'⟩:=d;simp only [ay.apart,Bool.and_eq_true] at ha;have hne:(s'==s)=false:=by
    have:=ay.free_of ha.1 hk';simp;exact fun e=>this e.symm
   simp only [bQ,hne];exact jL r i k v ha.2 hk' (by omega)
theorem gV{L:Ks}{s:Nat}:∀(ds:ay)(i:Nat),(∀(k:Nat)(v:Value),ds[k]? = some (some (s,v))→i≤k)→bQ L s i ds=fJ L s
 | _,0,_=>by simp [bQ]
 | [],_+1,_=>rfl
 | none::r,i+1,h=>gV r i (fun k v hk=>by have:=h (k+1) v (by simpa using hk);omega)
 | some (s',v')::r,i+1,h=>by
  have hne:(s'==s)=false:=by
   cases hb:s'==s with
   | false=>rfl
   | true=>have:=h 0 v' (by simp at hb ⊢;exact hb);omega
  simp only [bQ,hne];exact gV r i (fun k v hk=>by have:=h (k+1) v (by simpa using hk);omega)
theorem AB{ops:Array Oper}{L:Ks}{n:Nat}{ds:ay}{T0:Array Value}{l:Array Bool}{t:Array Value}{i:Nat}{o:Oper}(hK:Kn T0 n L)(hD:dM ops ds T0 l t)(ha:ay.apart ds=true)(hr:fq ops L ds 0 ops.toList=true)(hi:i∈Region.ready .any ops l)(hl:l[i]? = some false)(ho:ops[i]? = some o)(s:Nat)(hs:s∈o.looksAt ops) :
  t[s]? = some (bQ L s i ds):=by
 obtain ⟨hro,hin⟩:=(lg ops.toList 0 i o hr (by simpa using ho)).1 s hs;rw [Nat.zero_add] at hro hin;by_cases hw:∃(k:Nat) (v:Value),ds[k]? = some (some (s,v))
 ·obtain ⟨k,v,hk⟩:=hw;have h3:=qy ds 0 k v hro hk;rw [Nat.zero_add] at h3;rcases h3 with ⟨hlt,he⟩|h3
  ·obtain ⟨e,hem,hb,hon⟩:=lZ he;obtain ⟨o',ho',hd⟩:=(mem_ready.1 hi).2;rw [ho] at ho';cases ho';have:=hD.on k s v hk (by have:=ak (hd e hem hb);rw [hon] at this;exact this);rw [jL ds i _ v ha hk hlt,this]
  ·have hnd:l[k]?≠some true:=by
    rcases h3 with rfl|⟨hlt,o',ho',he⟩
    ·rw [hl];simp
    ·obtain ⟨e,he,hb,hon⟩:=lZ he;intro hc;have:=ak (hD.shut k o' hc ho' e he hb);rw [hon,hl] at this;cases this
   have hle:i≤k:=by rcases h3 with rfl|⟨h,-⟩<;>omega
   have hnk:jJ L s=true:=by
    rcases hin with h|h
    ·obtain ⟨k',v',h1,h2⟩:=jv h;obtain rfl:=ay.one ha h2 hk;omega
    ·exact h
   rw [gV ds i (fun k' v' hk'=>by obtain rfl:=ay.one ha hk' hk;exact hle),hD.off s (fun k' v' hk'=>by obtain rfl:=ay.one ha hk' hk;exact hnd)];exact hK.look hnk
 ·have hnk:jJ L s=true:=by
   rcases hin with h|h
   ·obtain ⟨k',v',h1,h2⟩:=jv h;exact absurd ⟨k',v',h2⟩ hw
   ·exact h
  rw [gV ds i (fun k v hk=>absurd ⟨k,v,hk⟩ hw),hD.off s (fun k v hk=>absurd ⟨k,v,hk⟩ hw)];exact hK.look hnk
def xY(ops:Array Oper)(L:Ks)(ds:ay)(i:Nat)(o:Oper):Bool:=match o.guard with
 | none=>true
 | some (g,b)=>match (ops[g]?).bind (·.dst) with
  | none=>false
  | some s=>match bQ L s i ds with
   | .bool c=>c==b
   | _=>false
def aX(P:Program)(ops:Array Oper)(L:Ks)(ds:ay)(i r:Nat)(vs:List Value):Option (Option Nat×Bool×Option (Next×List Ev)):=match ops[i]? with
 | none=>none
 | some o=>some (o.dst,xY ops L ds i o,script P r (execOp (IR L ds i) o) vs)
theorem Bo{P:Program}{ops:Array Oper}{L:Ks}{n:Nat}{ds:ay}{T0:Array Value}{l:Array Bool}{t:Array Value}{i r:Nat}{vs:List Value}{d:Option Nat}{b:Bool}{x:Option (Next×List Ev)}(hK:Kn T0 n L)(hD:dM ops ds T0 l t)(ha:ay.apart ds=true)(hr:fq ops L ds 0 ops.toList=true)(hi:i∈Region.ready .any ops l)(hl:l[i]? = some false)(h:aX P ops L ds i r vs=some (d,b,x)) :
  ∃o,ops[i]? = some o∧o.dst=d∧Region.wanted o (yielded ops t)=b∧script P r (execOp (Act.eval ⟨t,[]⟩) o) vs=x:=by
 unfold aX at h
 split at h
 ·cases h
 ·rename_i o ho
  simp only [Option.some.injEq,Prod.mk.injEq] at h;obtain ⟨h1,h2,h3⟩:=h;have hs:=fun s hsm=>AB hK hD ha hr hi hl ho s hsm;refine ⟨o,ho,h1,?_,?_⟩
  ·rw [←h2];unfold Region.wanted xY;cases hg:o.guard with
   | none=>rfl
   | some gb=>
    obtain ⟨g,b'⟩:=gb;simp only;unfold yielded;cases hd:(ops[g]?).bind (·.dst) with
    | none=>simp
    | some s=>
     have:=hs s (by simp [Oper.looksAt,hg,hd]);simp only [Option.bind_some];rw [this];cases bQ L s i ds<;>simp
  ·rw [←h3]
   congr 1
   refine execOp_congr o (fun cs b' e=>?_) (fun x hx=>?_)
   ·have:=(lg ops.toList 0 i o hr (by simpa using ho)).2;rw [e] at this;cases this
   ·cases x with
    | tmp s=>
     show t.getD s undef=bQ L s i ds
     rw [Array.getD_eq_getD_getElem?,hs s (List.mem_append_left _ (List.mem_filterMap.2 ⟨.tmp s,by simpa using hx,rfl⟩))];rfl
    | _=>rfl
structure Bx where
 b:Nat
 cs:Array Value
 t:TypeId
 my:Bool
def aV(E:List Bx)(S:List az)(p:aC)(j:Nat):Option (Bx×Option Nat):=match Nat.blt j 1000 with
 | true=>(E[j]?).map fun x=>(x,none)
 | false=>match S[j-1000]? with
  | some (.n _ cs t)=>some (⟨(p (j-1000)).N,cs,t%1000000,true⟩,some (j-1000))
  | _=>none
def jB:Array Value→Nat→List Value→Array Value
 | cs,_,[]=>cs
 | cs,k,x::r=>jB (cs.setIfInBounds k x) (k+1) r
def az.sto:az→Option (Nat×Nat×List Value)
 | .p j off xs=>some (j,off,xs)
 | .w _ j off xs _ _ _=>some (j,off,xs)
 | _=>none
def cellsOf(f:Nat→Bool)(j:Nat):Nat→List az→Array Value→Array Value
 | _,[],cs=>cs
 | i,x::r,cs=>cellsOf f j (i+1) r (match x.sto with
  | some (j',off,xs)=>(match f i&&Nat.beq j' j with
   | true=>jB cs off xs
   | false=>cs)
  | none=>cs)
def reach(ops:Array Oper):Nat→Nat→Nat→Bool
 | 0,_,_=>false
 | f+1,i,j=>match ops[i]? with
  | none=>false
  | some o=>mg o j||o.after.toList.any fun e=>Region.binds .any e&&reach ops f e.on j
theorem fC{ops:Array Oper}{ds:ay}{T0:Array Value}{l:Array Bool}{t:Array Value}(hD:dM ops ds T0 l t):∀(f i j:Nat),reach ops f i j=true→l[i]? = some true→l[j]? = some true
 | 0,_,_,h,_=>by simp [reach] at h
 | f+1,i,j,h,hl=>by
  unfold reach at h
  split at h
  ·cases h
  ·rename_i o ho
   rw [Bool.or_eq_true] at h;rcases h with h|h
   ·obtain ⟨e,he,hb,rfl⟩:=lZ h;exact ak (hD.shut i o hl ho e he hb)
   ·obtain ⟨e,he,h⟩:=List.any_eq_true.1 h;simp only [Bool.and_eq_true] at h;exact fC hD f e.on j h.2 (ak (hD.shut i o hl ho e (by simpa using he) h.1))
theorem dB{ops:Array Oper}{ds:ay}{T0:Array Value}{l:Array Bool}{t:Array Value}(hD:dM ops ds T0 l t){f i j:Nat}(h:reach ops f i j=true)(hi:i∈Region.ready .any ops l):l[j]? = some true:=by
 cases f with
 | zero=>simp [reach] at h
 | succ f=>
  obtain ⟨o,ho,hd⟩:=(mem_ready.1 hi).2;unfold reach at h;rw [ho] at h;simp only [Bool.or_eq_true] at h;rcases h with h|h
  ·obtain ⟨e,he,hb,rfl⟩:=lZ h;exact ak (hd e he hb)
  ·obtain ⟨e,he,h⟩:=List.any_eq_true.1 h;simp only [Bool.and_eq_true] at h;exact fC hD f e.on j h.2 (ak (hd e (by simpa using he) h.1))
def dI(ops:Array Oper)(i j:Nat):Nat→List az→Bool
 | _,[]=>true
 | i',x::r=>(match x.sto with
   | some (j',_,_)=>(j' != j||(match Nat.beq i' i with
    | true=>true
    | false=>(match Nat.blt i' i with
     | true=>reach ops 4 i i'
     | false=>reach ops 4 i' i)))
   | none=>true)&&dI ops i j (i'+1) r
def jK(ops:Array Oper)(E:List Bx)(S0:List az)(i j:Nat)(xs:List Value):Bool:=dI ops i j 0 S0&&(match Nat.blt j 1000 with
   | true=>(match E[j]? with
    | some x=>x.my
    | none=>false)
   | false=>reach ops 4 i (j-1000)&&(match S0[j-1000]? with
    | some (.n _ cs t)=>eQ cs.toList&&t%1000000 != 42
    | _=>false))&&eQ xs&&xs.all (·.oneCell')
def bT(ops:Array Oper)(E:List Bx)(S0:List az):Nat→List az→Bool
 | _,[]=>true
 | i,.l _ _ j _::r=>dI ops i j 0 S0&&(Nat.blt j 1000||reach ops 4 i (j-1000))&&bT ops E S0 (i+1) r
 | i,.p j _ xs::r=>jK ops E S0 i j xs&&bT ops E S0 (i+1) r
 | i,.w _ j _ xs _ _ _::r=>jK ops E S0 i j xs&&bT ops E S0 (i+1) r
 | i,_::r=>bT ops E S0 (i+1) r
theorem iZ{ops:Array Oper}{i j:Nat}:∀(S:List az)(i0 k off:Nat)(xs:List Value),dI ops i j i0 S=true→(S[k]?).bind az.sto=some (j,off,xs)→i0+k=i∨(i0+k<i∧reach ops 4 i (i0+k)=true)∨(i<i0+k∧reach ops 4 (i0+k) i=true)
 | [],_,_,_,_,_,hk=>by simp at hk
 | x::r,i0,0,off,xs,h,hk=>by
  simp only [List.getElem?_cons_zero,Option.bind_some] at hk;simp only [dI,hk,Bool.and_eq_true,bne_self_eq_false,Bool.false_or] at h;have h1:=h.1;rw [Nat.add_zero]
  split at h1
  ·rename_i he;exact Or.inl (Nat.eq_of_beq_eq_true he)
  ·rename_i he
   have he':i0≠i:=by rintro rfl;rw [Nat.beq_refl] at he;cases he
   split at h1
   ·rename_i hb;exact Or.inr (Or.inl ⟨by simpa [Nat.blt_eq] using hb,h1⟩)
   ·rename_i hb
    have hb':¬i0<i:=by intro hc;rw [show Nat.blt i0 i=true from by simpa [Nat.blt_eq] using hc] at hb;cases hb
    exact Or.inr (Or.inr ⟨by omega,h1⟩)
 | x::r,i0,k+1,off,xs,h,hk=>by
  have hr:dI ops i j (i0+1) r=true:=by
   unfold dI at h;exact (Bool.and_eq_true_iff.1 h).2
  have:=iZ r (i0+1) k off xs hr (by simpa using hk);rw [show i0+(k+1)=i0+1+k from by omega];exact this
theorem sW{ops:Array Oper}{E:List Bx}{S0:List az}:∀(S:List az)(i0 k:Nat),bT ops E S0 i0 S=true→bT ops E S0 (i0+k) (S.drop k)=true
 | [],_,_,_=>by simp [bT]
 | x::r,i0,0,h=>h
 | x::r,i0,k+1,h=>by
  have hr:bT ops E S0 (i0+1) r=true:=by
   cases x<;>first|exact h|(simp only [bT,Bool.and_eq_true] at h;exact h.2)
  have:=sW r (i0+1) k hr;rw [show i0+(k+1)=i0+1+k from by omega];exact this
theorem qD{ops:Array Oper}{E:List Bx}{S0:List az}{i j off:Nat}{x:az}{r:List az}{xs:List Value}(h:bT ops E S0 i (x::r)=true)(hx:x.sto=some (j,off,xs)):jK ops E S0 i j xs=true:=by
 cases x<;>simp only [az.sto,Option.some.injEq,Prod.mk.injEq,reduceCtorEq] at hx
 ·obtain ⟨rfl,rfl,rfl⟩:=hx;simp only [bT,Bool.and_eq_true] at h;exact h.1
 ·obtain ⟨rfl,rfl,rfl⟩:=hx;simp only [bT,Bool.and_eq_true] at h;exact h.1
theorem bK{f g:Nat→Bool}{j:Nat}:∀(S:List az)(i0:Nat)(cs:Array Value),(∀(k off:Nat)(xs:List Value),(S[k]?).bind az.sto=some (j,off,xs)→f (i0+k)=g (i0+k))→cellsOf f j i0 S cs=cellsOf g j i0 S cs
 | [],_,_,_=>rfl
 | x::r,i0,cs,h=>by
  have hr:∀cs,cellsOf f j (i0+1) r cs=cellsOf g j (i0+1) r cs:=fun cs=>bK r (i0+1) cs (fun k off xs hk=>by
   have:=h (k+1) off xs (by simpa using hk);rw [show i0+1+k=i0+(k+1) from by omega];exact this)
  cases hx:x.sto with
  | none=>simp only [cellsOf,hx];exact hr _
  | some q=>
   obtain ⟨j',off,xs⟩:=q;simp only [cellsOf,hx];cases hb:Nat.beq j' j with
   | true=>
    obtain rfl:=Nat.eq_of_beq_eq_true hb;have:=h 0 off xs (by simpa using hx);rw [Nat.add_zero] at this;rw [this];exact hr _
   | false=>simp only [Bool.and_false];exact hr _
theorem df{f:Nat→Bool}{j:Nat}:∀(S:List az)(i0:Nat)(cs:Array Value),(∀(k off:Nat)(xs:List Value),(S[k]?).bind az.sto=some (j,off,xs)→f (i0+k)=false)→cellsOf f j i0 S cs=cs
 | [],_,_,_=>rfl
 | x::r,i0,cs,h=>by
  have hr:cellsOf f j (i0+1) r cs=cs:=df r (i0+1) cs (fun k off xs hk=>by
   have:=h (k+1) off xs (by simpa using hk);rw [show i0+1+k=i0+(k+1) from by omega];exact this)
  cases hx:x.sto with
  | none=>simp only [cellsOf,hx];exact hr
  | some q=>
   obtain ⟨j',off,xs⟩:=q;simp only [cellsOf,hx];cases hb:Nat.beq j' j with
   | true=>
    obtain rfl:=Nat.eq_of_beq_eq_true hb;have:=h 0 off xs (by simpa using hx);rw [Nat.add_zero] at this;rw [this];exact hr
   | false=>simp only [Bool.and_false];exact hr
theorem jY{f:Nat→Bool}{j:Nat}:∀(S:List az)(i0 k:Nat)(off:Nat)(xs:List Value)(cs:Array Value),(S[k]?).bind az.sto=some (j,off,xs)→f (i0+k)=false→(∀(k' off':Nat)(xs':List Value),(S[k']?).bind az.sto=some (j,off',xs')→k<k'→f (i0+k')=false) →
  cellsOf (fun m=>f m||Nat.beq m (i0+k)) j i0 S cs=jB (cellsOf f j i0 S cs) off xs
 | [],_,_,_,_,_,hk,_,_=>by simp at hk
 | x::r,i0,0,off,xs,cs,hk,h0,h=>by
  simp only [List.getElem?_cons_zero,Option.bind_some] at hk;rw [Nat.add_zero] at h0 ⊢;simp only [cellsOf,hk,h0,Nat.beq_refl,Bool.false_or,Bool.true_and,Bool.false_and];rw [df r (i0+1) (jB cs off xs) (fun k off' xs' hk=>by
    have:=h (k+1) off' xs' (by simpa using hk) (by omega);rw [show i0+(k+1)=i0+1+k from by omega] at this;rw [this,Bool.false_or];cases hb:Nat.beq (i0+1+k) i0 with
    | false=>rfl
    | true=>have:=Nat.eq_of_beq_eq_true hb;omega),
   df r (i0+1) cs (fun k off' xs' hk=>by
    have:=h (k+1) off' xs' (by simpa using hk) (by omega);rw [show i0+(k+1)=i0+1+k from by omega] at this;exact this)]
 | x::r,i0,k+1,off,xs,cs,hk,h0,h=>by
  have hr:∀cs,cellsOf (fun m=>f m||Nat.beq m (i0+(k+1))) j (i0+1) r cs=jB (cellsOf f j (i0+1) r cs) off xs:=fun cs=>by
   have e:i0+(k+1)=i0+1+k:=by omega
   rw [e] at h0 ⊢;exact jY r (i0+1) k off xs cs (by simpa using hk) h0 (fun k' off' xs' hk' hlt=>by
    have:=h (k'+1) off' xs' (by simpa using hk') (by omega);rw [show i0+(k'+1)=i0+1+k' from by omega] at this;exact this)
  have hb0:Nat.beq i0 (i0+(k+1))=false:=by
   cases hb:Nat.beq i0 (i0+(k+1)) with
   | false=>rfl
   | true=>have:=Nat.eq_of_beq_eq_true hb;omega
  simp only [cellsOf,hb0,Bool.or_false];exact hr _
def fP(l:Array Bool)(k:Nat):Bool:=l.getD k false
theorem kY{l:Array Bool}{k:Nat}:fP l k=true↔l[k]? = some true:=⟨ak,gF⟩
theorem gu{l:Array Bool}{k:Nat}(h:l[k]?≠some true):fP l k=false:=by
 cases hb:fP l k with
 | false=>rfl
 | true=>exact absurd (kY.1 hb) h
theorem aR{l:Array Bool}{i k:Nat}(hl:l[i]? = some false):(l.setIfInBounds i true)[k]? = some true↔k=i∨l[k]? = some true:=by
 obtain ⟨hlt,-⟩:=Array.getElem?_eq_some_iff.1 hl;by_cases hk:k=i
 ·subst hk;simp [hlt]
 ·rw [Array.getElem?_setIfInBounds_ne (Ne.symm hk)];simp [hk]
theorem ik{l:Array Bool}{i:Nat}(hl:l[i]? = some false):fP (l.setIfInBounds i true)=fun m=>fP l m||Nat.beq m i:=by
 funext m
 cases hb:Nat.beq m i with
 | true=>
  obtain rfl:=Nat.eq_of_beq_eq_true hb;rw [Bool.or_true];exact kY.2 ((aR hl).2 (Or.inl rfl))
 | false=>
  have hne:m≠i:=by rintro rfl;rw [Nat.beq_refl] at hb;cases hb
  rw [Bool.or_false];unfold fP;rw [Array.getD_eq_getD_getElem?,Array.getElem?_setIfInBounds_ne (Ne.symm hne),←Array.getD_eq_getD_getElem?]
theorem bL(base:Nat)(a:Option Addr)(n c m:Nat):jR (fun W=>Mine W base a n c m):=⟨fun _ _ hb h=>h.kept hb,fun _ _ _ _ j u hb ht _ h=>h.put hb ht j u⟩
theorem kz(a:Option Addr)(n m:Nat):jR (fun W=>Num W a n m):=⟨fun _ _ hb h=>h.kept hb,fun _ _ _ _ j u hb _ hl h=>h.put hb hl j u⟩
def bH(l:Array Bool)(p p':aC):Prop:=∀k,l[k]? = some true→p' k=p k
theorem bH.refl(l:Array Bool)(p:aC):bH l p p:=fun _ _=>rfl
theorem bH.back{l:Array Bool}{p p':aC}{i:Nat}(hl:l[i]? = some false)(h:bH (l.setIfInBounds i true) p p'):bH l p p':=fun k hk=>h k ((aR hl).2 (Or.inr hk))
theorem bH.backS{l:Array Bool}{p p':aC}{i:Nat}{q:Pq}(hl:l[i]? = some false)(h:bH (l.setIfInBounds i true) (p.set i q) p'):bH l p p'∧p' i=q:=by
 refine ⟨fun k hk=>?_,?_⟩
 ·have:=h k ((aR hl).2 (Or.inr hk));rw [this];have hne:k≠i:=by rintro rfl;rw [hl] at hk;cases hk
  simp [aC.set,hne]
 ·have:=h i ((aR hl).2 (Or.inl rfl));rw [this];simp [aC.set]
def qE(b:Nat):Nat→List Value→List Ev
 | _,[]=>[]
 | o,v::r=>.ld ⟨b,o,none⟩ v::qE b (o+1) r
def bG(b:Nat):Nat→List Value→List Ev
 | _,[]=>[]
 | o,v::r=>.st ⟨b,o,none⟩ v::bG b (o+1) r
def jw(j:Nat):List az→Bool
 | []=>true
 | x::r=>(match x.sto with
  | some (j',_,_)=>j' != j
  | none=>true)&&jw j r
def az.fac:az→Option Cf
 | .c _ f=>some f
 | .w _ _ _ _ _ f _=>some f
 | _=>none
def oO(S:List az)(p:aC)(k:Nat)(W:World):Prop:=match S[k]? with
 | some (.c _ cf)=>cf.g (p k) W
 | some (.w _ _ _ _ _ cf _)=>cf.g (p k) W
 | some (.n _ cs t)=>jw (1000+k) S=true→W.heap[(p k).N]? = some (.cells cs (t%1000000) (0,0))
 | _=>True
def vP(ops:Array Oper)(S:List az)(p:aC)(i:Nat)(W:World):Prop:=∀k,reach ops 8 i k=true→oO S p k W
def wD(E:List Bx)(S:List az)(W:World):Prop:=∀(j:Nat)(x:Bx),E[j]? = some x→jw j S=true→Nat.blt j 1000=true→W.heap[x.b]? = some (.cells x.cs x.t (0,0))
structure aN where
 to:World→Prop
 own:Nat→Prop
 size:Nat
 sized:∀{W:World},to W→size≤W.heap.size
 kept:∀{W W':World},to W→Below W.heap.size W W'→to W'
 put:∀{W:World}{b:Nat}{cs:Array Value}{t:TypeId}(j:Nat)(u:Value),to W→own b→W.heap[b]? = some (.cells cs t (0,0))→to (W.setCell ⟨b,j,none⟩ u)
 new:∀{b:Nat},size≤b→own b
@[reducible] def aN.all(w:World):aN:=⟨Below w.heap.size w,fun b=>w.heap.size≤b,w.heap.size,fun h=>h.size,fun h k=>ai h k,fun _ u h ho _=>h.setCell ho u,fun h=>h⟩
theorem aN.to.size{w W:World}(h:(aN.all w).to W):w.heap.size≤W.heap.size:=Below.size h
structure bJ(p:Nat)(w W:World):Prop where
 os:W.os=w.os
 tape:W.tape=w.tape
 output:W.output=w.output
 size:w.heap.size≤W.heap.size
 block:∀k,k<w.heap.size→k≠p→W.heap[k]? = w.heap[k]?
theorem bJ.kept{p:Nat}{w W W':World}(h:bJ p w W)(k:Below W.heap.size W W'):bJ p w W':=
 ⟨k.os.trans h.os,k.tape.trans h.tape,k.output.trans h.output,Nat.le_trans h.size k.size,fun i hi hp=>(k.block i (Nat.lt_of_lt_of_le hi h.size)).trans (h.block i hi hp)⟩
theorem bJ.put{p:Nat}{w W:World}{b:Nat}(j:Nat)(u:Value)(h:bJ p w W)(ho:b=p∨w.heap.size≤b):bJ p w (W.setCell ⟨b,j,none⟩ u):=by
 refine ⟨h.os,h.tape,h.output,by simpa using h.size,fun i hi hp=>?_⟩;rw [←h.block i hi hp];unfold World.setCell;simp only [Array.getElem?_modify];rw [if_neg (by omega)]
def aN.but(p:Nat)(w:World):aN:=⟨bJ p w,fun b=>b=p∨w.heap.size≤b,w.heap.size,fun h=>h.size,fun h k=>h.kept k,fun j u h ho _=>h.put j u ho,fun h=>Or.inr h⟩
def Nk(S:List az)(p:aC)(up:Nat→Prop)(base size:Nat):Prop:=∀(k:Nat)(x:az)(f:Cf)(b:Nat),S[k]? = some x→x.fac=some f→up k→f.bk (p k)=some b→base≤b∧b<size∧(∀(k' s:Nat)(cs:Array Value)(t:TypeId),S[k']? = some (.n s cs t)→up k'→(p k').N≠b)∧∀(k':Nat)(x':az)(f':Cf),k'≠k→S[k']? = some x'→x'.fac=some f'→up k'→f'.bk (p k')≠some b
structure Jk(ops:Array Oper)(E:List Bx)(S:List az)(base:Nat)(p:aC)(i size:Nat):Prop where
 lt:∀x,x∈E→x.b<base
 nb:∀(k s:Nat)(cs:Array Value)(t:TypeId),S[k]? = some (.n s cs t)→reach ops 8 i k=true→base≤(p k).N
 ne:∀(k s:Nat)(cs:Array Value)(t:TypeId)(k' s':Nat)(cs':Array Value)(t':TypeId),S[k]? = some (.n s cs t)→S[k']? = some (.n s' cs' t')→reach ops 8 i k=true→reach ops 8 i k'=true→k≠k'→(p k).N≠(p k').N
 nk:Nk S p (fun k=>reach ops 8 i k=true) base size
structure Cx(ops:Array Oper)(E:List Bx)(S:List az)(G:World→Prop)(w0:aN)(base:Nat)(p:aC)(i:Nat)(W:World):Prop where
 hb:base≤W.heap.size
 fr:w0.to W
 F:vP ops S p i W
 G:G W
 B:wD E S W
 ap:Jk ops E S base p i W.heap.size
 cl:∀(j:Nat)(bx:Bx)(bo:Option Nat),aV E S p j=some (bx,bo)→dI ops i j 0 S=true→(Nat.blt j 1000=true∨reach ops 4 i (j-1000)=true)→W.heap[bx.b]? = some (.cells (cellsOf (fun k=>Nat.blt k i) j 0 S bx.cs) bx.t (0,0))
def AR(P:Program)(ops:Array Oper)(L:Ks)(E:List Bx)(S:List az)(G:World→Prop)(w0:aN)(base:Nat)(p:aC)(i:Nat):az→Prop
 | .v s x=>aX P ops L (puts p 0 S) i 0 []=some (some s,true,some (.value x,[]))
 | .l s x j off=>∃bx bo,aV E S p j=some (bx,bo)∧aX P ops L (puts p 0 S) i 0 x.cells.toList=some (some s,true,some (.value x,qE bx.b off x.cells.toList))∧((cellsOf (fun k=>Nat.blt k i) j 0 S bx.cs).toList.drop off).take x.cells.size=x.cells.toList
 | .p j off xs=>∃bx bo,aV E S p j=some (bx,bo)∧aX P ops L (puts p 0 S) i 0 []=some (none,true,some (.skip,bG bx.b off xs))∧Nat.ble (off+xs.length) bx.cs.size=true
 | .n s cs t=>∀r,aX P ops L (puts p 0 S) i r []=some (some s,true,some (.value (nv r t),[.nw (.cells cs (t%1000000))]))
 | .c s f=>∃fn args,aX P ops L (puts p 0 S) i 0 []=some (s,true,some (.enter fn args,[]))∧∀W,Cx ops E S G w0 base p i W→Calls P fn args W fun en W'=>∃q,en = .returned (f.f q)∧Below W.heap.size W W'∧f.g q W'∧∀b,f.bk q=some b→W.heap.size≤b∧b<W'.heap.size
 | .u s x h=>∃fn args,aX P ops L (puts p 0 S) i 0 []=some (some s,true,some (.enter fn args,[]))∧h args=x∧∀W,Cx ops E S G w0 base p i W→Calls P fn args W fun en W'=>en = .returned x∧Below W.heap.size W W'
 | .g s x vs es=>aX P ops L (puts p 0 S) i 0 vs=some (some s,true,some (.value x,es))∧∀W,Cx ops E S G w0 base p i W→dY 0 es W∧evs es W=W
 | .k s=>∃x,aX P ops L (puts p 0 S) i 0 []=some (s,false,x)
 | .w s j off xs h f x=>h (p i)=xs∧(∀q,f.bk q=none)∧∃bx bo,aV E S p j=some (bx,bo)∧Nat.ble (off+xs.length) bx.cs.size=true∧∃fn args,aX P ops L (puts p 0 S) i 0 []=some (s,true,some (.enter fn args,[]))∧(∀y,x=some y→y.2 args=y.1)∧∀W,Cx ops E S G w0 base p i W→W.heap[bx.b]? = some (.cells (cellsOf (fun k=>Nat.blt k i) j 0 S bx.cs) bx.t (0,0))→Calls P fn args W fun en W'=>∃q,en = .returned (tQ f q x)∧(h q).length=xs.length∧Below W.heap.size (evs (bG bx.b off (h q)) W) W'∧f.g q W'
def aZ(P:Program)(ops:Array Oper)(L:Ks)(E:List Bx)(S:List az)(G:World→Prop)(w0:aN)(base:Nat)(p:aC):Nat→List az→Prop
 | _,[]=>True
 | i,x::r=>AR P ops L E S G w0 base p i x∧aZ P ops L E S G w0 base p (i+1) r
theorem aZ.at{P:Program}{ops:Array Oper}{K:Ks}{E:List Bx}{S:List az}{G:World→Prop}{w0:aN}{base:Nat}{p:aC}:∀(L:List az)(i0 k:Nat)(x:az),aZ P ops K E S G w0 base p i0 L→L[k]? = some x→AR P ops K E S G w0 base p (i0+k) x
 | [],_,_,_,_,hk=>by simp at hk
 | y::r,i0,0,x,h,hk=>by
  simp only [List.getElem?_cons_zero,Option.some.injEq] at hk;subst hk;exact h.1
 | y::r,i0,k+1,x,h,hk=>by
  have:=aZ.at r (i0+1) k x h.2 (by simpa using hk);rw [show i0+(k+1)=i0+1+k from by omega];exact this
structure bI(ops:Array Oper)(T0:Array Value)(n:Nat)(L:Ks)(E:List Bx)(S:aC→List az)(G:World→Prop)(w0:aN)(base:Nat):Prop where
 shape:∀p p',(S p).map az.bare=(S p').map az.bare
 apart:∀p,ay.apart (puts p 0 (S p))=true
 len:∀p,(S p).length=ops.size
 within:∀p,ay.within (puts p 0 (S p)) T0.size=true
 back:kX ops=true
 reads:∀p,fq ops L (puts p 0 (S p)) 0 ops.toList=true
 kn:Kn T0 n L
 mem:∀p,bT ops E (S p) 0 (S p)=true
 eb:E.all (fun x=>!x.my||eQ x.cs.toList&&x.t != 42)=true
 low:∀x,x∈E→x.my=true→w0.own x.b
 ne:∀(j k:Nat)(x y:Bx),E[j]? = some x→E[k]? = some y→x.my=true→j≠k→x.b≠y.b
 lt:∀x,x∈E→x.b<base
 w0b:w0.size≤base
 sta:jR G
structure bV(ops:Array Oper)(T0:Array Value)(E:List Bx)(S:aC→List az)(G:World→Prop)(w0:aN)(base:Nat)(p:aC)(l:Array Bool)(t:Array Value)(W:World):Prop where
 det:∀p',bH l p p'→dM ops (puts p' 0 (S p')) T0 l t
 mem:∀p',bH l p p'→∀(j:Nat)(bx:Bx)(bo:Option Nat),aV E (S p') p' j=some (bx,bo)→(∀k,bo=some k→l[k]? = some true)→W.heap[bx.b]? = some (.cells (cellsOf (fP l) j 0 (S p') bx.cs) bx.t (0,0))
 fr:w0.to W
 bs:base≤W.heap.size
 nb:∀(k s:Nat)(cs:Array Value)(t:TypeId),(S p)[k]? = some (.n s cs t)→l[k]? = some true→base≤(p k).N
 ne:∀(k s:Nat)(cs:Array Value)(t:TypeId)(k' s':Nat)(cs':Array Value)(t':TypeId),(S p)[k]? = some (.n s cs t)→(S p)[k']? = some (.n s' cs' t')→l[k]? = some true→l[k']? = some true→k≠k'→(p k).N≠(p k').N
 fx:∀(k:Nat)(x:az)(f:Cf),(S p)[k]? = some x→x.fac=some f→l[k]? = some true→f.g (p k) W
 gx:G W
 nk:Nk (S p) p (fun k=>l[k]? = some true) base W.heap.size
theorem bI.bare{ops:Array Oper}{T0:Array Value}{n:Nat}{L:Ks}{E:List Bx}{S:aC→List az}{G:World→Prop}{w0:aN}{base:Nat}(h:bI ops T0 n L E S G w0 base)(p p':aC)(i:Nat):((S p)[i]?).map az.bare=((S p')[i]?).map az.bare:=by
 have:=congrArg (fun l=>l[i]?) (h.shape p p');simpa using this
theorem bI.at_n{ops:Array Oper}{T0:Array Value}{n:Nat}{L:Ks}{E:List Bx}{S:aC→List az}{G:World→Prop}{w0:aN}{base:Nat}(h:bI ops T0 n L E S G w0 base){p:aC}(p':aC){i s:Nat}{cs:Array Value}{t:TypeId}(hi:(S p)[i]? = some (.n s cs t)):(S p')[i]? = some (.n s cs t):=by
 have:=h.bare p p' i;rw [hi] at this;cases hx:(S p')[i]? with
 | none=>rw [hx] at this;simp at this
 | some x=>rw [hx] at this;cases x<;>simp [az.bare] at this;obtain ⟨rfl,rfl,rfl⟩:=this;rfl
theorem bI.at_c{ops:Array Oper}{T0:Array Value}{n:Nat}{L:Ks}{E:List Bx}{S:aC→List az}{G:World→Prop}{w0:aN}{base:Nat}(h:bI ops T0 n L E S G w0 base){p:aC}(p':aC){i:Nat}{s:Option Nat}{f:Cf}(hi:(S p)[i]? = some (.c s f)):(S p')[i]? = some (.c s f):=by
 have:=h.bare p p' i;rw [hi] at this;cases hx:(S p')[i]? with
 | none=>rw [hx] at this;simp at this
 | some x=>rw [hx] at this;cases x<;>simp [az.bare] at this;obtain ⟨rfl,rfl⟩:=this;rfl
theorem bI.at_k{ops:Array Oper}{T0:Array Value}{n:Nat}{L:Ks}{E:List Bx}{S:aC→List az}{G:World→Prop}{w0:aN}{base:Nat}(h:bI ops T0 n L E S G w0 base){p:aC}(p':aC){i:Nat}{s:Option Nat}(hi:(S p)[i]? = some (.k s)):(S p')[i]? = some (.k s):=by
 have:=h.bare p p' i;rw [hi] at this;cases hx:(S p')[i]? with
 | none=>rw [hx] at this;simp at this
 | some x=>rw [hx] at this;cases x<;>simp [az.bare] at this;obtain rfl:=this;rfl
theorem bI.at_v{ops:Array Oper}{T0:Array Value}{n:Nat}{L:Ks}{E:List Bx}{S:aC→List az}{G:World→Prop}{w0:aN}{base:Nat}(h:bI ops T0 n L E S G w0 base){p:aC}(p':aC){i s:Nat}{x:Value}(hi:(S p)[i]? = some (.v s x)):∃x',(S p')[i]? = some (.v s x'):=by
 have:=h.bare p p' i;rw [hi] at this;cases hx:(S p')[i]? with
 | none=>rw [hx] at this;simp at this
 | some y=>rw [hx] at this;cases y<;>simp [az.bare] at this;obtain rfl:=this;exact ⟨_,rfl⟩
theorem bI.at_u{ops:Array Oper}{T0:Array Value}{n:Nat}{L:Ks}{E:List Bx}{S:aC→List az}{G:World→Prop}{w0:aN}{base:Nat}(h:bI ops T0 n L E S G w0 base){p:aC}(p':aC){i s:Nat}{x:Value}{g:Array Value→Value}(hi:(S p)[i]? = some (.u s x g)):∃x',(S p')[i]? = some (.u s x' g):=by
 have:=h.bare p p' i;rw [hi] at this;cases hx:(S p')[i]? with
 | none=>rw [hx] at this;simp at this
 | some y=>rw [hx] at this;cases y<;>simp [az.bare] at this;obtain ⟨rfl,rfl⟩:=this;exact ⟨_,rfl⟩
theorem bI.at_g{ops:Array Oper}{T0:Array Value}{n:Nat}{L:Ks}{E:List Bx}{S:aC→List az}{G:World→Prop}{w0:aN}{base:Nat}(h:bI ops T0 n L E S G w0 base){p:aC}(p':aC){i s:Nat}{x:Value}{vs:List Value}{es:List Ev}(hi:(S p)[i]? = some (.g s x vs es)):∃x' vs' es',(S p')[i]? = some (.g s x' vs' es'):=by
 have:=h.bare p p' i;rw [hi] at this;cases hx:(S p')[i]? with
 | none=>rw [hx] at this;simp at this
 | some y=>rw [hx] at this;cases y<;>simp [az.bare] at this;obtain rfl:=this;exact ⟨_,_,_,rfl⟩
theorem bI.at_l{ops:Array Oper}{T0:Array Value}{n:Nat}{L:Ks}{E:List Bx}{S:aC→List az}{G:World→Prop}{w0:aN}{base:Nat}(h:bI ops T0 n L E S G w0 base){p:aC}(p':aC){i s j off:Nat}{x:Value}(hi:(S p)[i]? = some (.l s x j off)):∃x',(S p')[i]? = some (.l s x' j off):=by
 have:=h.bare p p' i;rw [hi] at this;cases hx:(S p')[i]? with
 | none=>rw [hx] at this;simp at this
 | some y=>rw [hx] at this;cases y<;>simp [az.bare] at this;obtain ⟨rfl,rfl,rfl⟩:=this;exact ⟨_,rfl⟩
theorem bI.at_p{ops:Array Oper}{T0:Array Value}{n:Nat}{L:Ks}{E:List Bx}{S:aC→List az}{G:World→Prop}{w0:aN}{base:Nat}(h:bI ops T0 n L E S G w0 base){p:aC}(p':aC){i j off:Nat}{xs:List Value}(hi:(S p)[i]? = some (.p j off xs)):∃xs',(S p')[i]? = some (.p j off xs'):=by
 have:=h.bare p p' i;rw [hi] at this;cases hx:(S p')[i]? with
 | none=>rw [hx] at this;simp at this
 | some y=>rw [hx] at this;cases y<;>simp [az.bare] at this;obtain ⟨rfl,rfl,-⟩:=this;exact ⟨_,rfl⟩
theorem bI.at_w{ops:Array Oper}{T0:Array Value}{n:Nat}{L:Ks}{E:List Bx}{S:aC→List az}{G:World→Prop}{w0:aN}{base:Nat}(h:bI ops T0 n L E S G w0 base){p:aC}(p':aC){i j off:Nat}{s:Option Nat}{xs:List Value}{g:Pq→List Value}{f:Cf}{x:Option (Value×(Array Value→Value))}(hi:(S p)[i]? = some (.w s j off xs g f x)):∃xs' x',(S p')[i]? = some (.w s j off xs' g f x')∧(x.map fun y=>y.2)=(x'.map fun y=>y.2):=by
 have:=h.bare p p' i;rw [hi] at this;cases hx:(S p')[i]? with
 | none=>rw [hx] at this;simp at this
 | some y=>
  rw [hx] at this;cases y<;>simp [az.bare] at this
  obtain ⟨rfl,rfl,rfl,-,rfl,rfl,h9⟩:=this;refine ⟨_,_,rfl,?_⟩
  rename_i x'
  cases x<;>cases x'<;>simp at h9 ⊢
  exact h9
theorem bI.at_fac{ops:Array Oper}{T0:Array Value}{n:Nat}{L:Ks}{E:List Bx}{S:aC→List az}{G:World→Prop}{w0:aN}{base:Nat}(h:bI ops T0 n L E S G w0 base){p:aC}(p':aC){i:Nat}{x:az}{f:Cf}(hi:(S p)[i]? = some x)(hf:x.fac=some f):∃x',(S p')[i]? = some x'∧x'.fac=some f:=by
 cases x<;>simp only [az.fac,Option.some.injEq,reduceCtorEq] at hf
 ·subst hf;exact ⟨_,h.at_c p' hi,rfl⟩
 ·subst hf;obtain ⟨xs',x',h',-⟩:=h.at_w p' hi;exact ⟨_,h',rfl⟩
theorem bI.mem_at{ops:Array Oper}{T0:Array Value}{n:Nat}{L:Ks}{E:List Bx}{S:aC→List az}{G:World→Prop}{w0:aN}{base:Nat}(h:bI ops T0 n L E S G w0 base)(p:aC){i:Nat}{x:az}(hi:(S p)[i]? = some x):∃r,bT ops E (S p) i (x::r)=true:=by
 have:=sW (S p) 0 i (h.mem p);rw [Nat.zero_add] at this;obtain ⟨hlt,he⟩:=List.getElem?_eq_some_iff.1 hi;rw [List.drop_eq_getElem_cons hlt,he] at this;exact ⟨_,this⟩
theorem bV.cells{ops:Array Oper}{T0:Array Value}{E:List Bx}{S:aC→List az}{G:World→Prop}{w0:aN}{base:Nat}{p:aC}{l:Array Bool}{t:Array Value}{W:World}{i:Nat}(hI:bV ops T0 E S G w0 base p l t W)(hi:i∈Region.ready .any ops l)(hl:l[i]? = some false){p':aC}(ha:bH l p p'){j:Nat}{bx:Bx}{bo:Option Nat}(hb:aV E (S p') p' j=some (bx,bo))(ht:dI ops i j 0 (S p')=true)(hr:Nat.blt j 1000=true∨reach ops 4 i (j-1000)=true) :
  W.heap[bx.b]? = some (.cells (cellsOf (fP l) j 0 (S p') bx.cs) bx.t (0,0))∧cellsOf (fP l) j 0 (S p') bx.cs=cellsOf (fun k=>Nat.blt k i) j 0 (S p') bx.cs∧(∀k,bo=some k→l[k]? = some true):=by
 have hD:=hI.det p' ha;have hal:∀k,bo=some k→l[k]? = some true:=by
  intro k hk;subst hk;unfold aV at hb;rcases hr with hr|hr
  ·rw [hr] at hb;simp at hb
  ·split at hb
   ·simp at hb
   ·split at hb
    ·simp only [Option.some.injEq,Prod.mk.injEq] at hb;obtain ⟨-,rfl⟩:=hb;exact dB hD hr hi
    ·cases hb
 refine ⟨hI.mem p' ha j bx bo hb hal,bK _ _ _ (fun k off xs hk=>?_),hal⟩;have:=iZ (S p') 0 k off xs ht hk;rw [Nat.zero_add] at this ⊢;rcases this with rfl|⟨h1,h2⟩|⟨h1,h2⟩
 ·rw [gu (by rw [hl];simp)]
  symm
  cases hb9:Nat.blt k k with
  | false=>rfl
  | true=>rw [Nat.blt_eq] at hb9;omega
 ·rw [kY.2 (dB hD h2 hi)];symm;simpa [Nat.blt_eq] using h1
 ·rw [gu (fun hc=>by have:=fC hD _ _ _ h2 hc;rw [hl] at this;cases this)]
  symm
  cases hb9:Nat.blt k i with
  | false=>rfl
  | true=>rw [Nat.blt_eq] at hb9;omega
theorem bV.kept{ops:Array Oper}{T0:Array Value}{n:Nat}{L:Ks}{E:List Bx}{S:aC→List az}{G:World→Prop}{w0:aN}{base:Nat}{p:aC}{l:Array Bool}{t:Array Value}{W W':World}(hs:bI ops T0 n L E S G w0 base)(hI:bV ops T0 E S G w0 base p l t W)(hb:Below W.heap.size W W'):bV ops T0 E S G w0 base p l t W':=
 ⟨hI.det,fun p' ha j bx bo h1 h2=>by have:=hI.mem p' ha j bx bo h1 h2;rw [hb.block _ (block_lt this)];exact this,w0.kept hI.fr hb,Nat.le_trans hI.bs hb.size,hI.nb,hI.ne,fun k x f hk hf hl=>(f.st _).kept W W' hb (hI.fx k x f hk hf hl),hs.sta.kept W W' hb hI.gx,fun k x f b hk hf hu hc=>by obtain ⟨a1,a2,a3⟩:=hI.nk k x f b hk hf hu hc;exact ⟨a1,Nat.lt_of_lt_of_le a2 hb.size,a3⟩⟩
theorem eP{P:Program}{ops:Array Oper}{Q:Exit→Act→World→Prop}{o:Oper}{i:Nat}{a:Act}{W W':World}{nx:Next}{K:Act→World→Prop}(ho:ops[i]? = some o)(hw:Region.wanted o (yielded ops a.tmps)=true)(hr:(execOp a.eval o).run P W = .ok nx W')(h:o.upon P a K Q (.ok nx W')):wpOp P ops Q i K a W:=by
 unfold wpOp;rw [ho];simp only [hw,if_true];left;unfold Oper.wp;rw [hr];exact h
theorem Nk.up1{S:List az}{p:aC}{l:Array Bool}{base size size' i:Nat}(h:Nk S p (fun k=>l[k]? = some true) base size)(hl:l[i]? = some false)(hn:∀s cs t,S[i]?≠some (.n s cs t))(hc:(S[i]?).bind az.fac=none)(hs:size≤size'):Nk S p (fun k=>(l.setIfInBounds i true)[k]? = some true) base size':=by
 have no:∀(k:Nat)(x:az)(f:Cf),S[k]? = some x→x.fac=some f→(l.setIfInBounds i true)[k]? = some true→l[k]? = some true:=fun k x f hk hf hu=>by
  rcases (aR hl).1 hu with rfl|hu
  ·rw [hk] at hc;simp only [Option.bind_some] at hc;rw [hf] at hc;cases hc
  ·exact hu
 intro k x f b hk hf hu hb;obtain ⟨a1,a2,a3,a4⟩:=h k x f b hk hf (no k x f hk hf hu) hb;refine ⟨a1,Nat.lt_of_lt_of_le a2 hs,fun k' s cs t hk' hu'=>?_,fun k' x' f' hne hk' hf' hu'=>a4 k' x' f' hne hk' hf' (no k' x' f' hk' hf' hu')⟩;rcases (aR hl).1 hu' with rfl|hu'
 ·exact absurd hk' (hn s cs t)
 ·exact a3 k' s cs t hk' hu'
theorem Nk.set{ops:Array Oper}{T0:Array Value}{n:Nat}{L:Ks}{E:List Bx}{S:aC→List az}{G:World→Prop}{w0:aN}{base:Nat}{p:aC}{l:Array Bool}{i size size':Nat}(hs:bI ops T0 n L E S G w0 base)(h:Nk (S p) p (fun k=>l[k]? = some true) base size)(hl:l[i]? = some false)(q:Pq)(hz:size≤size')(hb0:base≤size)(h1:∀s cs t,(S p)[i]? = some (.n s cs t)→size≤q.N)(h2:∀x f b,(S p)[i]? = some x→x.fac=some f→f.bk q=some b→size≤b∧b<size')(hlt:∀k s cs t,(S p)[k]? = some (.n s cs t)→l[k]? = some true→(p k).N<size) :
  Nk (S (p.set i q)) (p.set i q) (fun k=>(l.setIfInBounds i true)[k]? = some true) base size':=by
 have at':∀k,k≠i→(p.set i q) k=p k:=fun k hk=>by simp [aC.set,hk]
 have ati:(p.set i q) i=q:=by simp [aC.set]
 intro k x f b hk hf hu hb;obtain ⟨x2,g1,g2⟩:=hs.at_fac p hk hf;rcases (aR hl).1 hu with hki|hv
 ·subst hki;rw [ati] at hb;obtain ⟨b1,b2⟩:=h2 x2 f b g1 g2 hb;refine ⟨Nat.le_trans hb0 b1,b2,fun k' s cs t hk' hu'=>?_,fun k' x' f' hne hk' hf' hu'=>?_⟩
  ·have g3:=hs.at_n p hk';rcases (aR hl).1 hu' with hkj|hv
   ·subst hkj;rw [g1] at g3;cases g3;cases g2
   ·have hne:k'≠k:=by rintro rfl;rw [hl] at hv;cases hv
    rw [at' k' hne];have:=hlt k' s cs t g3 hv;omega
  ·obtain ⟨x3,g3,g4⟩:=hs.at_fac p hk' hf';rcases (aR hl).1 hu' with hkj|hv
   ·exact absurd hkj hne
   ·rw [at' k' hne];intro hb';have:=(h k' x3 f' b g3 g4 hv hb').2.1;omega
 ·have hne:k≠i:=by rintro rfl;rw [hl] at hv;cases hv
  rw [at' k hne] at hb;obtain ⟨a1,a2,a3,a4⟩:=h k x2 f b g1 g2 hv hb;refine ⟨a1,Nat.lt_of_lt_of_le a2 hz,fun k' s cs t hk' hu'=>?_,fun k' x' f' hne' hk' hf' hu'=>?_⟩
  ·have g3:=hs.at_n p hk';rcases (aR hl).1 hu' with hki|hv
   ·subst hki;rw [ati];have:=h1 s cs t g3;omega
   ·have hni:k'≠i:=by rintro rfl;rw [hl] at hv;cases hv
    rw [at' k' hni];exact a3 k' s cs t g3 hv
  ·obtain ⟨x3,g3,g4⟩:=hs.at_fac p hk' hf';rcases (aR hl).1 hu' with hki|hv
   ·subst hki;rw [ati];intro hb';have:=(h2 x3 f' b g3 g4 hb').1;omega
   ·have hni:k'≠i:=by rintro rfl;rw [hl] at hv;cases hv
    rw [at' k' hni];exact a4 k' x3 f' hne' g3 g4 hv
theorem bV.step_val{ops:Array Oper}{T0:Array Value}{n:Nat}{L:Ks}{E:List Bx}{S:aC→List az}{G:World→Prop}{w0:aN}{base:Nat}{p:aC}{l:Array Bool}{t:Array Value}{W:World}{i s:Nat}{x:Value}(hs:bI ops T0 n L E S G w0 base)(hI:bV ops T0 E S G w0 base p l t W)(hi:i∈Region.ready .any ops l)(hl:l[i]? = some false)(hk:∀p',((S p')[i]?).bind az.sto=none)(hn:∀p',∀s cs t,(S p')[i]?≠some (.n s cs t))(hc:((S p)[i]?).bind az.fac=none)(hv:∀p',bH l p p'→(puts p' 0 (S p'))[i]?.getD none=some (s,x)) :
  bV ops T0 E S G w0 base p (l.setIfInBounds i true) (t.setIfInBounds s x) W:=by
 refine ⟨fun p' ha=>?_,fun p' ha j bx bo hb hal=>?_,hI.fr,hI.bs,fun k s' cs t' hk' hl'=>?_,fun k s' cs t' k' s'' cs'' t'' h1 h2 h3 h4 h5=>?_,fun k x' f hk' hf' hl'=>?_,hI.gx,hI.nk.up1 hl (hn p) hc (Nat.le_refl _)⟩
 ·have ha':=ha.back hl;have:=(hI.det p' ha').step (hs.apart p') (hs.within p') hi hl;rw [hv p' ha'] at this;exact this
 ·have ha':=ha.back hl;have hal':∀k,bo=some k→l[k]? = some true:=fun k hk'=>by
   rcases (aR hl).1 (hal k hk') with rfl|h
   ·subst hk';unfold aV at hb
    split at hb
    ·cases he:E[j]? <;>rw [he] at hb<;>simp at hb
    ·split at hb
     ·rename_i hS9
      simp only [Option.some.injEq,Prod.mk.injEq] at hb;rw [hb.2] at hS9;exact absurd hS9 (hn p' _ _ _)
     ·cases hb
   ·exact h
  rw [hI.mem p' ha' j bx bo hb hal']
  congr 2
  refine bK _ _ _ (fun k off xs hk'=>?_);rw [ik hl,Nat.zero_add];have hne:Nat.beq k i=false:=by
   cases hb9:Nat.beq k i with
   | false=>rfl
   | true=>obtain rfl:=Nat.eq_of_beq_eq_true hb9;rw [hk p'] at hk';cases hk'
  simp only [hne,Bool.or_false]
 ·rcases (aR hl).1 hl' with rfl|h
  ·exact absurd hk' (hn p _ _ _)
  ·exact hI.nb k s' cs t' hk' h
 ·have g1:l[k]? = some true:=by
   rcases (aR hl).1 h3 with rfl|h
   ·exact absurd h1 (hn p _ _ _)
   ·exact h
  have g2:l[k']? = some true:=by
   rcases (aR hl).1 h4 with rfl|h
   ·exact absurd h2 (hn p _ _ _)
   ·exact h
  exact hI.ne k s' cs t' k' s'' cs'' t'' h1 h2 g1 g2 h5
 ·rcases (aR hl).1 hl' with rfl|h
  ·rw [hk'] at hc;simp only [Option.bind_some] at hc;rw [hf'] at hc;cases hc
  ·exact hI.fx k x' f hk' hf' h
theorem rz{W:World}{b:Nat}{cs:Array Value}{t:TypeId}(h:W.heap[b]? = some (.cells cs t (0,0))):∀(vs:List Value)(off:Nat),(cs.toList.drop off).take vs.length=vs→dY 0 (qE b off vs) W∧evs (qE b off vs) W=W
 | [],_,_=>⟨trivial,rfl⟩
 | v::r,off,e=>by
  have hv:cs.toList[off]? = some v:=by
   have:=congrArg (fun L=>L[0]?) e;simpa using this
  obtain ⟨hlt,-⟩:=List.getElem?_eq_some_iff.1 hv;have hr:(cs.toList.drop (off+1)).take r.length=r:=by
   rw [List.drop_eq_getElem_cons hlt,List.length_cons,List.take_succ_cons] at e;exact (List.cons.inj e).2
  obtain ⟨h1,h2⟩:=rz h r (off+1) hr;exact ⟨⟨by rw [cell_of_row W b off _ _ _ h];simpa using hv,h1⟩,h2⟩
theorem og{cs:Array Value}{k:Nat}{u:Value}(h:bM cs.toList)(hu:∀z,u≠.int .u32 z):bM (cs.setIfInBounds k u).toList:=by
 intro v hv z;rw [Array.toList_setIfInBounds] at hv;rcases List.mem_or_eq_of_mem_set hv with hv|rfl
 ·exact h v hv z
 ·exact hu z
theorem mV:∀(xs:List Value)(k:Nat)(cs:Array Value),bM cs.toList→bM xs→bM (jB cs k xs).toList
 | [],_,_,h,_=>h
 | x::r,k,_,h,hx=>mV r (k+1) _ (og h (fun z=>hx x (List.mem_cons_self ..) z)) (fun v hv=>hx v (List.mem_cons_of_mem _ hv))
theorem qi:∀(xs:List Value)(k:Nat)(cs:Array Value),(jB cs k xs).size=cs.size
 | [],_,_=>rfl
 | _::r,_,_=>by rw [jB,qi r];simp
theorem cellsOf_size{f:Nat→Bool}{j:Nat}:∀(S:List az)(i:Nat)(cs:Array Value),(cellsOf f j i S cs).size=cs.size
 | [],_,_=>rfl
 | x::r,i,cs=>by
  simp only [cellsOf];rw [cellsOf_size r];cases x.sto with
  | none=>rfl
  | some q=>
   simp only
   split
   ·exact qi _ _ _
   ·rfl
theorem gU{ops:Array Oper}{E:List Bx}{S0:List az}{f:Nat→Bool}{j:Nat}:∀(S:List az)(i:Nat)(cs:Array Value),bT ops E S0 i S=true→bM cs.toList→bM (cellsOf f j i S cs).toList
 | [],_,_,_,h=>h
 | x::r,i,cs,hm,h=>by
  have hr:bT ops E S0 (i+1) r=true:=by
   cases x<;>first|exact hm|(simp only [bT,Bool.and_eq_true] at hm;exact hm.2)
  cases hx:x.sto with
  | none=>simp only [cellsOf,hx];exact gU r (i+1) cs hr h
  | some q=>
   obtain ⟨j',off,xs⟩:=q;have hs:=qD hm hx;simp only [jK,Bool.and_eq_true] at hs;simp only [cellsOf,hx];refine gU r (i+1) _ hr ?_
   split
   ·exact mV _ _ _ h (bD _ hs.1.2)
   ·exact h
theorem oq{w0:aN}{b:Nat}{t:TypeId}(ht:t≠42)(hw:w0.own b):∀(xs:List Value)(off:Nat)(cs:Array Value)(W:World),W.heap[b]? = some (.cells cs t (0,0))→off+xs.length≤cs.size→bM cs.toList→bM xs→xs.all (·.oneCell')=true→w0.to W →
  dY 0 (bG b off xs) W∧(evs (bG b off xs) W).heap[b]? = some (.cells (jB cs off xs) t (0,0))∧(∀k,k≠b→(evs (bG b off xs) W).heap[k]? = W.heap[k]?)∧w0.to (evs (bG b off xs) W)∧(evs (bG b off xs) W).heap.size=W.heap.size∧(∀(b0:Option Nat)(f:World→Prop),xJ b0 f→(∀c,b0=some c→b≠c)→f W→f (evs (bG b off xs) W))
 | [],_,_,_,h,_,_,_,_,hb=>⟨trivial,h,fun _ _=>rfl,hb,rfl,fun _ _ _ _ hf=>hf⟩
 | x::r,off,cs,W,h,hn,hc,hx,h1,hb=>by
  simp only [List.length_cons] at hn;simp only [List.all_cons,Bool.and_eq_true] at h1;have hlt:off<cs.size:=by omega
  have hset:(W.setCell ⟨b,off,none⟩ x).heap[b]? = some (.cells (cs.setIfInBounds off x) t (0,0)):=heap_setCell_same W b off _ _ _ h;obtain ⟨g1,g2,g3,g4,g5,g6⟩:=oq (w0:=w0) ht hw r (off+1) (cs.setIfInBounds off x) (W.setCell ⟨b,off,none⟩ x) hset (by simp;omega) (og hc (fun z=>hx x (List.mem_cons_self ..) z)) (fun v hv=>hx v (List.mem_cons_of_mem _ hv)) h1.2 (w0.put off x hb hw h);refine ⟨⟨⟨cs[off],by rw [cell_of_row W b off _ _ _ h];simp [hlt]⟩,frozen_of_row W b off _ _ h,h1.1,g1⟩,g2,fun k hk=>?_,g4,?_,fun b0 f hf hb0 hW=>?_⟩
  ·rw [show evs (bG b off (x::r)) W=evs (bG b (off+1) r) (W.setCell ⟨b,off,none⟩ x) from rfl,g3 k hk];exact heap_setCell_other W _ k x hk
  ·rw [show evs (bG b off (x::r)) W=evs (bG b (off+1) r) (W.setCell ⟨b,off,none⟩ x) from rfl,g5];simp
  ·exact g6 b0 f hf hb0 (hf.put W b cs t off x h ht hc hb0 hW)
theorem fF{S:aC→List az}{p:aC}{i:Nat}{x:az}(h:(S p)[i]? = some x):(puts p 0 (S p))[i]?.getD none=x.put p i:=by
 rw [wE,h,Nat.zero_add];rfl
theorem aP{E:List Bx}{Z:List az}{p:aC}{j:Nat}{bx:Bx}{bo:Option Nat}(h:aV E Z p j=some (bx,bo)):(Nat.blt j 1000=true∧E[j]? = some bx∧bo=none)∨(Nat.blt j 1000=false∧∃s cs t,Z[j-1000]? = some (.n s cs t)∧bx=⟨(p (j-1000)).N,cs,t%1000000,true⟩∧bo=some (j-1000)):=by
 unfold aV at h
 split at h
 ·rename_i hb
  refine Or.inl ⟨hb,?_⟩;cases he:E[j]? with
  | none=>rw [he] at h;simp at h
  | some x=>rw [he] at h;simp at h;exact ⟨by rw [h.1],h.2.symm⟩
 ·rename_i hb
  split at h
  ·rename_i s cs t hS
   simp only [Option.some.injEq,Prod.mk.injEq] at h;exact Or.inr ⟨hb,s,cs,t,hS,h.1.symm,h.2.symm⟩
  ·cases h
theorem nN{j:Nat}:∀(L:List az),jw j L=true→∀(k off:Nat)(xs:List Value),(L[k]?).bind az.sto≠some (j,off,xs):=by
 intro L;induction L with
 | nil=>intro _ k off xs h;simp at h
 | cons y r ih=>
  intro hL k off xs h;cases k with
  | zero=>
   simp only [List.getElem?_cons_zero,Option.bind_some] at h;simp [jw,h] at hL
  | succ k=>
   have hr:jw j r=true:=by unfold jw at hL;exact (Bool.and_eq_true_iff.1 hL).2
   exact ih hr k off xs (by simpa using h)
theorem bV.boxes{ops:Array Oper}{T0:Array Value}{E:List Bx}{S:aC→List az}{G:World→Prop}{w0:aN}{base:Nat}{p:aC}{l:Array Bool}{t:Array Value}{W:World}(hI:bV ops T0 E S G w0 base p l t W):wD E (S p) W:=fun j x hj hnpj hj1=>by
 have hb:aV E (S p) p j=some (x,none):=by unfold aV;rw [hj1,hj];rfl
 have:=hI.mem p (bH.refl l p) j x none hb (fun k hk=>by cases hk);rw [this,df];intro k off xs hk;exact absurd hk (nN _ hnpj k off xs)
theorem bV.cl{ops:Array Oper}{T0:Array Value}{E:List Bx}{S:aC→List az}{G:World→Prop}{w0:aN}{base:Nat}{p:aC}{l:Array Bool}{t:Array Value}{W:World}{i:Nat}(hI:bV ops T0 E S G w0 base p l t W)(hi:i∈Region.ready .any ops l)(hl:l[i]? = some false):∀(j:Nat)(bx:Bx)(bo:Option Nat),aV E (S p) p j=some (bx,bo)→dI ops i j 0 (S p)=true→(Nat.blt j 1000=true∨reach ops 4 i (j-1000)=true)→W.heap[bx.b]? = some (.cells (cellsOf (fun k=>Nat.blt k i) j 0 (S p) bx.cs) bx.t (0,0)):=fun j bx bo hb ht hr=>by
 obtain ⟨c1,c2,-⟩:=hI.cells hi hl (bH.refl l p) hb ht hr;rw [c1,c2]
theorem bV.ap{ops:Array Oper}{T0:Array Value}{n:Nat}{L:Ks}{E:List Bx}{S:aC→List az}{G:World→Prop}{w0:aN}{base:Nat}{p:aC}{l:Array Bool}{t:Array Value}{W:World}{i:Nat}(hI:bV ops T0 E S G w0 base p l t W)(hs:bI ops T0 n L E S G w0 base)(hi:i∈Region.ready .any ops l):Jk ops E (S p) base p i W.heap.size:=by
 have up:∀k,reach ops 8 i k=true→l[k]? = some true:=fun k h=>dB (hI.det p (bH.refl l p)) h hi;refine ⟨hs.lt,fun k s cs t hk hr=>hI.nb k s cs t hk (up k hr),fun k s cs t k' s' cs' t' hk hk' hr hr' hne=>hI.ne k s cs t k' s' cs' t' hk hk' (up k hr) (up k' hr') hne,fun k x f b hk hf hr hb=>?_⟩;obtain ⟨a1,a2,a3,a4⟩:=hI.nk k x f b hk hf (up k hr) hb;exact ⟨a1,a2,fun k' s cs t hk' hr'=>a3 k' s cs t hk' (up k' hr'),fun k' x' f' hne hk' hf' hr'=>a4 k' x' f' hne hk' hf' (up k' hr')⟩
theorem bV.facts{ops:Array Oper}{T0:Array Value}{E:List Bx}{S:aC→List az}{G:World→Prop}{w0:aN}{base:Nat}{p:aC}{l:Array Bool}{t:Array Value}{W:World}{i:Nat}(hI:bV ops T0 E S G w0 base p l t W)(hi:i∈Region.ready .any ops l):vP ops (S p) p i W:=fun k hre=>by
 unfold oO
 split
 ·rename_i s' cf hk
  exact hI.fx k _ cf hk rfl (dB (hI.det p (bH.refl l p)) hre hi)
 ·rename_i cf _ hk
  exact hI.fx k _ cf hk rfl (dB (hI.det p (bH.refl l p)) hre hi)
 ·rename_i s' cs ty hk
  intro hnp;have hb:aV E (S p) p (1000+k)=some (⟨(p k).N,cs,ty%1000000,true⟩,some k):=by
   unfold aV;rw [show Nat.blt (1000+k) 1000=false from by cases h:Nat.blt (1000+k) 1000 with
    | false=>rfl
    | true=>rw [Nat.blt_eq] at h;omega]
   simp [hk]
  have h1:=hI.mem p (bH.refl l p) (1000+k) _ (some k) hb (fun k' e=>by cases e;exact dB (hI.det p (bH.refl l p)) hre hi);rw [df] at h1
  ·exact h1
  intro k' off xs hk';exact absurd hk' (nN _ hnp _ _ _)
 ·trivial
theorem bV.apart{ops:Array Oper}{T0:Array Value}{n:Nat}{L:Ks}{E:List Bx}{S:aC→List az}{G:World→Prop}{w0:aN}{base:Nat}{p:aC}{l:Array Bool}{t:Array Value}{W:World}(hs:bI ops T0 n L E S G w0 base)(hI:bV ops T0 E S G w0 base p l t W){j:Nat}{bx:Bx}{bo:Option Nat}(hb:aV E (S p) p j=some (bx,bo))(hbo:∀k,bo=some k→l[k]? = some true){k:Nat}{x:az}{f:Cf}(hk:(S p)[k]? = some x)(hf:x.fac=some f)(hl:l[k]? = some true):∀c,f.bk (p k)=some c→bx.b≠c:=by
 intro c hc;obtain ⟨a1,-,a3,-⟩:=hI.nk k x f c hk hf hl hc;rcases aP hb with ⟨-,r2,-⟩|⟨-,s',cs',t',r2,r3,r4⟩
 ·have:=hs.lt bx (List.mem_of_getElem? r2);omega
 ·rw [r3];exact a3 _ _ _ _ r2 (hbo _ r4)
theorem bV.nlt{ops:Array Oper}{T0:Array Value}{E:List Bx}{S:aC→List az}{G:World→Prop}{w0:aN}{base:Nat}{p:aC}{l:Array Bool}{t:Array Value}{W:World}(hI:bV ops T0 E S G w0 base p l t W):∀k s cs t,(S p)[k]? = some (.n s cs t)→l[k]? = some true→(p k).N<W.heap.size:=fun k s cs t hk hlk=>by
 have hb:aV E (S p) p (k+1000)=some (⟨(p k).N,cs,t%1000000,true⟩,some k):=by
  unfold aV;have:Nat.blt (k+1000) 1000=false:=by
   cases hb9:Nat.blt (k+1000) 1000 with
   | false=>rfl
   | true=>rw [Nat.blt_eq] at hb9;omega
  rw [this,show k+1000-1000=k from by omega,hk]
 exact block_lt (hI.mem p (bH.refl l p) _ _ _ hb (fun k' hk'=>by rw [←Option.some.inj hk'];exact hlk))
theorem bV.step1{P:Program}{ops:Array Oper}{Q:Exit→Act→World→Prop}{T0:Array Value}{n:Nat}{L:Ks}{E:List Bx}{S:aC→List az}{G:World→Prop}{w0:aN}{base:Nat}{p:aC}{l:Array Bool}{t:Array Value}{W:World}{i:Nat}(hs:bI ops T0 n L E S G w0 base)(hokp:∀p' x,(S p')[i]? = some x→AR P ops L E (S p') G w0 base p' i x)(hI:bV ops T0 E S G w0 base p l t W)(hi:i∈Region.ready .any ops l)(hl:l[i]? = some false) :
  wpOp P ops Q i (fun a W'=>∃p' t',a=⟨t',[]⟩∧bV ops T0 E S G w0 base p' (l.setIfInBounds i true) t' W') ⟨t,[]⟩ W:=by
 have hD:=hI.det p (bH.refl l p);have hil:i<ops.size:=by rw [←hD.len];exact (Array.getElem?_eq_some_iff.1 hl).1
 obtain ⟨sp,hsp⟩:∃sp,(S p)[i]? = some sp:=⟨(S p)[i]'(by rw [hs.len];exact hil),List.getElem?_eq_getElem _⟩;have hat:=fun p' (ha:bH l p p') {r:Nat} {vs:List Value} {d:Option Nat} {b:Bool} {x:Option (Next×List Ev)} (h:aX P ops L (puts p' 0 (S p')) i r vs=some (d,b,x))=>Bo hs.kn (hI.det p' ha) (hs.apart p') (hs.reads p') hi hl h;cases sp with
 | v s x=>
  have h0:=hokp p _ hsp;obtain ⟨o,ho,hd,hw,hr⟩:=hat p (bH.refl l p) h0;have hrun:=cB P 0 _ _ _ _ W hr trivial;refine eP ho hw hrun ?_
  show ∃p' t',_
  rw [hd];refine ⟨p,_,rfl,hI.step_val hs hi hl (fun p'=>?_) (fun p' s' cs t' h=>?_) ?_ (fun p' ha=>?_)⟩
  ·obtain ⟨x',hx'⟩:=hs.at_v p' hsp;rw [hx'];rfl
  ·obtain ⟨x',hx'⟩:=hs.at_v p' hsp;rw [h] at hx';cases hx'
  ·rw [hsp];rfl
  ·obtain ⟨x',hx'⟩:=hs.at_v p' hsp;rw [fF hx'];obtain ⟨o',ho',-,-,hr'⟩:=hat p' ha (hokp p' _ hx');rw [ho] at ho';cases ho';have hrun':=cB P 0 _ _ _ _ W hr' trivial;rw [hrun] at hrun';cases hrun';rfl
 | l s x j off=>
  have hrn:∀p',bH l p p'→∀x',(S p')[i]? = some (.l s x' j off)→∃o,ops[i]? = some o∧o.dst=some s∧Region.wanted o (yielded ops t)=true∧(execOp (Act.eval ⟨t,[]⟩) o).run P W = .ok (.value x') W:=fun p' ha x' hx'=>by
   obtain ⟨bx,bo,hb,h0,he⟩:=hokp p' _ hx';obtain ⟨o,ho,hd,hw,hr⟩:=hat p' ha h0;obtain ⟨rr,hm⟩:=hs.mem_at p' hx';simp only [bT,Bool.and_eq_true,Bool.or_eq_true] at hm;obtain ⟨c1,c2,-⟩:=hI.cells hi hl ha hb hm.1.1 hm.1.2;rw [←c2,←Array.length_toList] at he;obtain ⟨g1,g2⟩:=rz c1 _ _ he;have hrun:=cB P 0 _ _ _ _ W hr g1;rw [g2] at hrun;exact ⟨o,ho,hd,hw,hrun⟩
  obtain ⟨o,ho,hd,hw,hrun⟩:=hrn p (bH.refl l p) x hsp;refine eP ho hw hrun ?_
  show ∃p' t',_
  rw [hd];refine ⟨p,_,rfl,hI.step_val hs hi hl (fun p'=>?_) (fun p' s' cs t' h=>?_) ?_ (fun p' ha=>?_)⟩
  ·obtain ⟨x',hx'⟩:=hs.at_l p' hsp;rw [hx'];rfl
  ·obtain ⟨x',hx'⟩:=hs.at_l p' hsp;rw [h] at hx';cases hx'
  ·rw [hsp];rfl
  ·obtain ⟨x',hx'⟩:=hs.at_l p' hsp;rw [fF hx'];obtain ⟨o',ho',-,-,hrun'⟩:=hrn p' ha x' hx';rw [ho] at ho';cases ho';rw [hrun] at hrun';cases hrun';rfl
 | g s x vs es=>
  have hrn:∀p',bH l p p'→bV ops T0 E S G w0 base p' l t W→∀x' vs' es',(S p')[i]? = some (.g s x' vs' es')→∃o,ops[i]? = some o∧o.dst=some s∧Region.wanted o (yielded ops t)=true∧(execOp (Act.eval ⟨t,[]⟩) o).run P W = .ok (.value x') W:=fun p' ha hI' x' vs' es' hx'=>by
   obtain ⟨h0,he⟩:=hokp p' _ hx';obtain ⟨o,ho,hd,hw,hr⟩:=hat p' ha h0;obtain ⟨g1,g2⟩:=he W ⟨hI'.bs,hI'.fr,hI'.facts hi,hI'.gx,hI'.boxes,hI'.ap hs hi,hI'.cl hi hl⟩;have hrun:=cB P 0 _ _ _ _ W hr g1;rw [g2] at hrun;exact ⟨o,ho,hd,hw,hrun⟩
  have hto:∀p',bH l p p'→bV ops T0 E S G w0 base p' l t W:=fun p' ha=>
   ⟨fun p'' h=>hI.det p'' (fun k hk=>(h k hk).trans (ha k hk)),fun p'' h=>hI.mem p'' (fun k hk=>(h k hk).trans (ha k hk)),hI.fr,hI.bs,fun k s' cs t' hk hl'=>by rw [ha k hl'];exact hI.nb k s' cs t' (hs.at_n p hk) hl',fun k s' cs t' k' s'' cs'' t'' h1 h2 h3 h4 h5=>by rw [ha k h3,ha k' h4];exact hI.ne k s' cs t' k' s'' cs'' t'' (hs.at_n p h1) (hs.at_n p h2) h3 h4 h5,fun k x f hk hf hl'=>by rw [ha k hl'];obtain ⟨x2,h2,h3⟩:=hs.at_fac p hk hf;exact hI.fx k x2 f h2 h3 hl',hI.gx,fun k x f b hk hf hu hb=>by
    obtain ⟨x2,h2,h3⟩:=hs.at_fac p hk hf;rw [ha k hu] at hb;obtain ⟨a1,a2,a3,a4⟩:=hI.nk k x2 f b h2 h3 hu hb;exact ⟨a1,a2,fun k' s cs t hk' hu'=>by rw [ha k' hu'];exact a3 k' s cs t (hs.at_n p hk') hu',fun k' x' f' hne hk' hf' hu'=>by obtain ⟨x3,g3,g4⟩:=hs.at_fac p hk' hf';rw [ha k' hu'];exact a4 k' x3 f' hne g3 g4 hu'⟩⟩
  obtain ⟨o,ho,hd,hw,hrun⟩:=hrn p (bH.refl l p) hI x vs es hsp;refine eP ho hw hrun ?_
  show ∃p' t',_
  rw [hd];refine ⟨p,_,rfl,hI.step_val hs hi hl (fun p'=>?_) (fun p' s' cs t' h=>?_) ?_ (fun p' ha=>?_)⟩
  ·obtain ⟨x',vs',es',hx'⟩:=hs.at_g p' hsp;rw [hx'];rfl
  ·obtain ⟨x',vs',es',hx'⟩:=hs.at_g p' hsp;rw [h] at hx';cases hx'
  ·rw [hsp];rfl
  ·obtain ⟨x',vs',es',hx'⟩:=hs.at_g p' hsp;rw [fF hx'];obtain ⟨o',ho',-,-,hrun'⟩:=hrn p' ha (hto p' ha) x' vs' es' hx';rw [ho] at ho';cases ho';rw [hrun] at hrun';cases hrun';rfl
 | k s=>
  obtain ⟨x,h0⟩:=hokp p _ hsp;obtain ⟨o,ho,hd,hw,hr⟩:=hat p (bH.refl l p) h0;have hnp:∀p',((S p')[i]?).bind az.sto=none:=fun p'=>by rw [hs.at_k p' hsp];rfl
  have hnn:∀p' s' cs t',(S p')[i]?≠some (.n s' cs t'):=fun p' s' cs t' h=>by have:=hs.at_k p' hsp;rw [h] at this;cases this
  have hc:((S p)[i]?).bind az.fac=none:=by rw [hsp];rfl
  unfold wpOp;rw [ho];simp only [hw,Bool.false_eq_true,if_false];rw [hd];cases s with
  | some s=>
   exact ⟨p,_,rfl,hI.step_val hs hi hl hnp hnn hc (fun p' ha=>by rw [fF (hs.at_k p' hsp)];rfl)⟩
  | none=>
   refine ⟨p,t,rfl,?_⟩;refine ⟨fun p' ha=>?_,fun p' ha j bx bo hb hal=>?_,hI.fr,hI.bs,fun k s' cs t' hk' hl'=>?_,fun k s' cs t' k' s'' cs'' t'' h1 h2 h3 h4 h5=>?_,fun k x' f hk' hf' hl'=>?_,hI.gx,hI.nk.up1 hl (hnn p) hc (Nat.le_refl _)⟩
   ·have ha':=ha.back hl;have:=(hI.det p' ha').step (hs.apart p') (hs.within p') hi hl;rw [fF (hs.at_k p' hsp)] at this;exact this
   ·have ha':=ha.back hl;have hal':∀k,bo=some k→l[k]? = some true:=fun k hk'=>by
     rcases (aR hl).1 (hal k hk') with rfl|h
     ·rcases aP hb with ⟨-,-,h⟩|⟨-,s',cs,t',h,-,h2⟩
      ·rw [h] at hk';cases hk'
      ·rw [h2] at hk';have hk':=Option.some.inj hk';rw [hk'] at h;exact absurd h (hnn p' _ _ _)
     ·exact h
    rw [hI.mem p' ha' j bx bo hb hal']
    congr 2
    refine bK _ _ _ (fun k off xs hk'=>?_);rw [ik hl,Nat.zero_add];have hne:Nat.beq k i=false:=by
     cases hb9:Nat.beq k i with
     | false=>rfl
     | true=>obtain rfl:=Nat.eq_of_beq_eq_true hb9;rw [hnp p'] at hk';cases hk'
    simp only [hne,Bool.or_false]
   ·rcases (aR hl).1 hl' with rfl|h
    ·exact absurd hk' (hnn p _ _ _)
    ·exact hI.nb k s' cs t' hk' h
   ·have g1:l[k]? = some true:=by
     rcases (aR hl).1 h3 with rfl|h
     ·exact absurd h1 (hnn p _ _ _)
     ·exact h
    have g2:l[k']? = some true:=by
     rcases (aR hl).1 h4 with rfl|h
     ·exact absurd h2 (hnn p _ _ _)
     ·exact h
    exact hI.ne k s' cs t' k' s'' cs'' t'' h1 h2 g1 g2 h5
   ·rcases (aR hl).1 hl' with rfl|h
    ·rw [hk'] at hc;simp only [Option.bind_some] at hc;rw [hf'] at hc;cases hc
    ·exact hI.fx k x' f hk' hf' h
 | p j off xs=>
  have hc:((S p)[i]?).bind az.fac=none:=by rw [hsp];rfl
  have hnn:∀p' s' cs t',(S p')[i]?≠some (.n s' cs t'):=fun p' s' cs t' h=>by obtain ⟨x',this⟩:=hs.at_p p' hsp;rw [h] at this;cases this
  have hrn:∀p',bH l p p'→∀xs',(S p')[i]? = some (.p j off xs')→∃o bx bo W',ops[i]? = some o∧o.dst=none∧Region.wanted o (yielded ops t)=true∧(execOp (Act.eval ⟨t,[]⟩) o).run P W = .ok .skip W'∧aV E (S p') p' j=some (bx,bo)∧(∀k,bo=some k→l[k]? = some true)∧bx.my=true∧W'.heap[bx.b]? = some (.cells (jB (cellsOf (fP l) j 0 (S p') bx.cs) off xs') bx.t (0,0))∧(∀k,k≠bx.b→W'.heap[k]? = W.heap[k]?)∧w0.to W'∧W'.heap.size=W.heap.size∧(∀(b0:Option Nat)(f:World→Prop),xJ b0 f→(∀c,b0=some c→bx.b≠c)→f W→f W'):=fun p' ha xs' hx'=>by
   obtain ⟨bx,bo,hb,h0,he⟩:=hokp p' _ hx';obtain ⟨o,ho,hd,hw,hr⟩:=hat p' ha h0;obtain ⟨rr,hm⟩:=hs.mem_at p' hx';have hm0:=hm;simp only [bT,jK,Bool.and_eq_true] at hm;have hmy:bx.my=true∧w0.own bx.b∧(bM bx.cs.toList∧bx.t≠42)∧(Nat.blt j 1000=true∨reach ops 4 i (j-1000)=true):=by
    have h2:=hm.1.1.1.2;rcases aP hb with ⟨hj,hE,-⟩|⟨hj,s',cs,t',hS,rfl,rfl⟩
    ·rw [hj,hE] at h2;have h3:=List.all_eq_true.1 hs.eb bx (List.mem_of_getElem? hE);simp only at h2;rw [h2] at h3;simp only [Bool.not_true,Bool.false_or,Bool.and_eq_true,bne_iff_ne] at h3;exact ⟨h2,hs.low bx (List.mem_of_getElem? hE) h2,⟨bD _ h3.1,h3.2⟩,Or.inl hj⟩
    ·rw [hj] at h2;simp only [hS,Bool.and_eq_true,bne_iff_ne] at h2;have hdn:=dB (hI.det p' ha) h2.1 hi;have hSp:(S p)[j-1000]? = some (.n s' cs t'):=hs.at_n p hS;have hN:=ha _ hdn;refine ⟨rfl,?_,⟨bD _ h2.2.1,h2.2.2⟩,Or.inr h2.1⟩
     show w0.own (p' (j-1000)).N
     rw [hN];exact w0.new (Nat.le_trans hs.w0b (hI.nb _ _ _ _ hSp hdn))
   obtain ⟨hmy,hlow,⟨hlim,hty⟩,hre⟩:=hmy;obtain ⟨c1,c2,c3⟩:=hI.cells hi hl ha hb hm.1.1.1.1 hre;obtain ⟨g1,g2,g3,g4,g5,g6⟩:=oq (w0:=w0) hty hlow xs' off _ W c1 (by rw [cellsOf_size];exact Nat.le_of_ble_eq_true he) (gU _ _ _ (hs.mem p') hlim) (bD _ hm.1.1.2) hm.1.2 hI.fr;exact ⟨o,bx,bo,_,ho,hd,hw,cB P 0 _ _ _ _ W hr g1,hb,c3,hmy,g2,g3,g4,g5,g6⟩
  obtain ⟨o,bx,bo,W',ho,hd,hw,hrun,hb,hbo,hmy,k2,k3,k4,k5,k6⟩:=hrn p (bH.refl l p) xs hsp;refine eP ho hw hrun ?_
  show ∃p' t',_
  rw [hd];refine ⟨p,t,rfl,?_⟩;refine ⟨fun p' ha=>?_,fun p' ha j2 bx2 bo2 hb2 hal=>?_,k4,by rw [k5];exact hI.bs,fun k s' cs t' hk' hl'=>?_,fun k s' cs t' k' s'' cs'' t'' h1 h2 h3 h4 h5=>?_,fun k x' f hk' hf' hl'=>?_,k6 none _ (hs.sta.b none) (fun _ h=>nomatch h) hI.gx,hI.nk.up1 hl (hnn p) hc (by rw [k5];exact Nat.le_refl _)⟩
  ·have ha':=ha.back hl;obtain ⟨xs',hx'⟩:=hs.at_p p' hsp;have:=(hI.det p' ha').step (hs.apart p') (hs.within p') hi hl;rw [fF hx'] at this;exact this
  ·have ha':=ha.back hl;obtain ⟨xs',hx'⟩:=hs.at_p p' hsp;obtain ⟨o',bx',bo',W'',ho',-,-,hrun',hb',hbo',hmy',e2,e3,-,-,-⟩:=hrn p' ha' xs' hx';rw [ho] at ho';cases ho';rw [hrun] at hrun';cases hrun';have hal':∀k,bo2=some k→l[k]? = some true:=fun k hk'=>by
    rcases (aR hl).1 (hal k hk') with rfl|h
    ·rcases aP hb2 with ⟨-,-,h⟩|⟨-,s',cs,t',h,-,h2⟩
     ·rw [h] at hk';cases hk'
     ·rw [h2] at hk';have hk':=Option.some.inj hk';rw [hk'] at h;exact absurd h (hnn p' _ _ _)
    ·exact h
   rw [ik hl];by_cases hj:j2=j
   ·subst hj;rw [hb'] at hb2;cases hb2;have hmm:=hs.mem_at p' hx';obtain ⟨rr,hm⟩:=hmm;simp only [bT,jK,Bool.and_eq_true] at hm;have:=jY (f:=fP l) (S p') 0 i off xs' bx2.cs (by rw [hx'];rfl) (by rw [Nat.zero_add];exact gu (by rw [hl];simp)) (fun k' off' xs'' hk' hlt=>by
     have ht:=iZ (S p') 0 k' off' xs'' hm.1.1.1.1 hk';rw [Nat.zero_add] at ht ⊢;refine gu (fun hup=>?_);rcases ht with h|h|h
     ·omega
     ·omega
     ·have:=fC (hI.det p' ha') _ _ _ h.2 hup;rw [hl] at this;cases this)
    rw [Nat.zero_add] at this;rw [this];exact e2
   ·have hne:bx2.b≠bx'.b:=by
     rcases aP hb2 with ⟨q1,q2,q3⟩|⟨q1,s1,cs1,t1,q2,q3,q4⟩
     ·rcases aP hb' with ⟨r1,r2,r3⟩|⟨r1,s2,cs2,t2,r2,r3,r4⟩
      ·exact Ne.symm (hs.ne j j2 bx' bx2 r2 q2 hmy' (Ne.symm hj))
      ·have h1:=hs.lt bx2 (List.mem_of_getElem? q2);have hdn:=hbo' _ r4;have h2:=hI.nb _ _ _ _ (hs.at_n p r2) hdn;rw [r3]
       show bx2.b≠(p' (j-1000)).N
       rw [ha' _ hdn];omega
     ·have hdn1:=hal' _ q4;rcases aP hb' with ⟨r1,r2,r3⟩|⟨r1,s2,cs2,t2,r2,r3,r4⟩
      ·have h1:=hs.lt bx' (List.mem_of_getElem? r2);have h2:=hI.nb _ _ _ _ (hs.at_n p q2) hdn1;rw [q3]
       show (p' (j2-1000)).N≠bx'.b
       rw [ha' _ hdn1];omega
      ·have hdn2:=hbo' _ r4;rw [q3,r3]
       show (p' (j2-1000)).N≠(p' (j-1000)).N
       rw [ha' _ hdn1,ha' _ hdn2];refine hI.ne _ _ _ _ _ _ _ _ (hs.at_n p q2) (hs.at_n p r2) hdn1 hdn2 (fun e=>hj ?_);have a1:¬j<1000:=fun hc=>by rw [show Nat.blt j 1000=true from by rw [Nat.blt_eq];exact hc] at r1;cases r1
       have a2:¬j2<1000:=fun hc=>by rw [show Nat.blt j2 1000=true from by rw [Nat.blt_eq];exact hc] at q1;cases q1
       omega
    rw [e3 _ hne,hI.mem p' ha' j2 bx2 bo2 hb2 hal']
    congr 2
    refine bK _ _ _ (fun k off' xs'' hk'=>?_);rw [Nat.zero_add];have hki:Nat.beq k i=false:=by
     cases hb9:Nat.beq k i with
     | false=>rfl
     | true=>
      obtain rfl:=Nat.eq_of_beq_eq_true hb9;rw [hx'] at hk';change some (j,off,xs')=some _ at hk';cases hk';exact absurd rfl hj
    simp only [hki,Bool.or_false]
  ·rcases (aR hl).1 hl' with rfl|h
   ·exact absurd hk' (hnn p _ _ _)
   ·exact hI.nb k s' cs t' hk' h
  ·have g1:l[k]? = some true:=by
    rcases (aR hl).1 h3 with rfl|h
    ·exact absurd h1 (hnn p _ _ _)
    ·exact h
   have g2:l[k']? = some true:=by
    rcases (aR hl).1 h4 with rfl|h
    ·exact absurd h2 (hnn p _ _ _)
    ·exact h
   exact hI.ne k s' cs t' k' s'' cs'' t'' h1 h2 g1 g2 h5
  ·rcases (aR hl).1 hl' with rfl|h
   ·rw [hk'] at hc;simp only [Option.bind_some] at hc;rw [hf'] at hc;cases hc
   ·exact k6 _ _ (f.st _) (hI.apart hs hb hbo hk' hf' h) (hI.fx k x' f hk' hf' h)
 | n s cs t0=>
  have hc:((S p)[i]?).bind az.fac=none:=by rw [hsp];rfl
  have h0:=hokp p _ hsp W.heap.size;obtain ⟨o,ho,hd,hw,hr⟩:=hat p (bH.refl l p) h0;have hrun:=cB P W.heap.size _ _ _ _ W hr ⟨rfl,trivial⟩;refine eP ho hw hrun ?_
  show ∃p' t',_
  rw [hd];have hbl:=ah W (.cells cs (t0%1000000));refine ⟨p.set i { iH with N:=W.heap.size },_,rfl,?_⟩;refine ⟨fun p' ha=>?_,fun p' ha j bx bo hb hal=>?_,w0.kept hI.fr hbl,Nat.le_trans hI.bs hbl.size,fun k s' cs' t' hk' hl'=>?_,fun k s' cs' t' k' s'' cs'' t'' h1 h2 h3 h4 h5=>?_,fun k x' f' hk' hf' hl'=>?_,hs.sta.kept W _ hbl hI.gx,Nk.set hs hI.nk hl _ hbl.size hI.bs (fun _ _ _ _=>Nat.le_refl _) (fun x f b hk hf _=>by rw [hsp] at hk;cases hk;cases hf) hI.nlt⟩
  ·obtain ⟨ha',hq⟩:=ha.backS hl;have:=(hI.det p' ha').step (hs.apart p') (hs.within p') hi hl;rw [fF (hs.at_n p' hsp)] at this;simp only [az.put,hq] at this;exact this
  ·obtain ⟨ha',hq⟩:=ha.backS hl;have hnp:((S p')[i]?).bind az.sto=none:=by rw [hs.at_n p' hsp];rfl
   have hcell:∀cs',cellsOf (fP (l.setIfInBounds i true)) j 0 (S p') cs'=cellsOf (fP l) j 0 (S p') cs':=fun cs'=>by
    refine bK _ _ _ (fun k off xs hk'=>?_);rw [ik hl,Nat.zero_add];have hne:Nat.beq k i=false:=by
     cases hb9:Nat.beq k i with
     | false=>rfl
     | true=>obtain rfl:=Nat.eq_of_beq_eq_true hb9;rw [hnp] at hk';cases hk'
    simp only [hne,Bool.or_false]
   by_cases hbi:bo=some i
   ·rcases aP hb with ⟨q1,q2,q3⟩|⟨q1,s1,cs1,t1,q2,q3,q4⟩
    ·rw [q3] at hbi;cases hbi
    ·rw [q4] at hbi;have hji:=Option.some.inj hbi;rw [hji,hs.at_n p' hsp] at q2;cases q2;rw [q3,hji,hq,hcell,df]
     ·exact heap_alloc_new W _
     ·intro k off xs hk';rw [Nat.zero_add];obtain ⟨x9,hx9,hs9⟩:=Option.bind_eq_some_iff.1 hk';obtain ⟨rr,hm⟩:=hs.mem_at p' hx9;have hm:=qD hm hs9;simp only [jK,Bool.and_eq_true,q1,hji] at hm;exact gu (fun hup=>by have:=fC (hI.det p' ha') _ _ _ hm.1.1.2.1 hup;rw [hl] at this;cases this)
   ·have hal':∀k,bo=some k→l[k]? = some true:=fun k hk'=>by
     rcases (aR hl).1 (hal k hk') with rfl|h
     ·exact absurd hk' hbi
     ·exact h
    have:=hI.mem p' ha' j bx bo hb hal'
    show (W.alloc _).heap[bx.b]? = _
    rw [hcell,hbl.block _ (block_lt this)];exact this
  ·rcases (aR hl).1 hl' with rfl|h
   ·simp only [aC.set,if_true];exact hI.bs
   ·have hne:k≠i:=by rintro rfl;rw [hl] at h;cases h
    simp only [aC.set,hne,if_false];exact hI.nb k s' cs' t' (hs.at_n p hk') h
  ·have hlt:∀k s cs t,(S p)[k]? = some (.n s cs t)→l[k]? = some true→(p k).N<W.heap.size:=fun k s cs t hk hlk=>by
    have hb:aV E (S p) p (k+1000)=some (⟨(p k).N,cs,t%1000000,true⟩,some k):=by
     unfold aV;have:Nat.blt (k+1000) 1000=false:=by
      cases hb9:Nat.blt (k+1000) 1000 with
      | false=>rfl
      | true=>rw [Nat.blt_eq] at hb9;omega
     rw [this,show k+1000-1000=k from by omega,hk]
    exact block_lt (hI.mem p (bH.refl l p) _ _ _ hb (fun k' hk'=>by rw [←Option.some.inj hk'];exact hlk))
   rcases (aR hl).1 h3 with rfl|g1
   ·rcases (aR hl).1 h4 with rfl|g2
    ·exact absurd rfl h5
    ·have:=hlt k' _ _ _ (hs.at_n p h2) g2;have hne:k'≠k:=Ne.symm h5;simp only [aC.set,hne,if_true,if_false];omega
   ·have hne:k≠i:=by rintro rfl;rw [hl] at g1;cases g1
    rcases (aR hl).1 h4 with rfl|g2
    ·have:=hlt k _ _ _ (hs.at_n p h1) g1;simp only [aC.set,hne,if_true,if_false];omega
    ·have hne':k'≠i:=by rintro rfl;rw [hl] at g2;cases g2
     simp only [aC.set,hne,hne',if_false];exact hI.ne k s' cs' t' k' s'' cs'' t'' (hs.at_n p h1) (hs.at_n p h2) g1 g2 h5
  ·obtain ⟨x2,h2,h3⟩:=hs.at_fac p hk' hf';rcases (aR hl).1 hl' with rfl|h
   ·rw [h2] at hc;simp only [Option.bind_some] at hc;rw [h3] at hc;cases hc
   ·have hne:k≠i:=by rintro rfl;rw [hl] at h;cases h
    simp only [aC.set,hne,if_false];exact (f'.st _).kept W _ hbl (hI.fx k x2 f' h2 h3 h)
 | u s x g=>
  obtain ⟨fn,args,h0,hx,hcall⟩:=hokp p _ hsp;obtain ⟨o,ho,hd,hw,hr⟩:=hat p (bH.refl l p) h0;have hrun:=cB P 0 _ _ _ _ W hr trivial;refine eP ho hw hrun ?_
  show Calls P fn args W _
  refine (hcall W ⟨hI.bs,hI.fr,hI.facts hi,hI.gx,hI.boxes,hI.ap hs hi,hI.cl hi hl⟩).mono ?_;rintro en W' ⟨rfl,hbl⟩
  show ∃p' t',_
  rw [hd];refine ⟨p,_,rfl,(hI.kept hs hbl).step_val hs hi hl (fun p'=>?_) (fun p' s' cs t' h=>?_) ?_ (fun p' ha=>?_)⟩
  ·obtain ⟨x',hx'⟩:=hs.at_u p' hsp;rw [hx'];rfl
  ·obtain ⟨x',hx'⟩:=hs.at_u p' hsp;rw [h] at hx';cases hx'
  ·rw [hsp];rfl
  ·obtain ⟨x',hx'⟩:=hs.at_u p' hsp;rw [fF hx'];obtain ⟨fn',args',h0',hxx,-⟩:=hokp p' _ hx';obtain ⟨o',ho',-,-,hr'⟩:=hat p' ha h0';rw [ho] at ho';cases ho';rw [hr] at hr';cases hr';rw [hx] at hxx;subst hxx;rfl
 | c s f=>
  obtain ⟨fn,args,h0,hcall⟩:=hokp p _ hsp;obtain ⟨o,ho,hd,hw,hr⟩:=hat p (bH.refl l p) h0;have hrun:=cB P 0 _ _ _ _ W hr trivial;refine eP ho hw hrun ?_;have hnp:∀p',((S p')[i]?).bind az.sto=none:=fun p'=>by rw [hs.at_c p' hsp];rfl
  have hnn:∀p' s' cs t',(S p')[i]?≠some (.n s' cs t'):=fun p' s' cs t' h=>by have:=hs.at_c p' hsp;rw [h] at this;cases this
  show Calls P fn args W _
  refine (hcall W ⟨hI.bs,hI.fr,hI.facts hi,hI.gx,hI.boxes,hI.ap hs hi,hI.cl hi hl⟩).mono ?_;rintro en W' ⟨q,rfl,hbl,hfq,hnk⟩
  show ∃p' t',_
  rw [hd];refine ⟨p.set i q,gQ (s.map fun s=>(s,f.f q)) t,by cases s<;>rfl,?_⟩;refine ⟨fun p' ha=>?_,fun p' ha j bx bo hb hal=>?_,w0.kept hI.fr hbl,Nat.le_trans hI.bs hbl.size,fun k s' cs' t' hk' hl'=>?_,fun k s' cs' t' k' s'' cs'' t'' h1 h2 h3 h4 h5=>?_,fun k x' f' hk' hf' hl'=>?_,hs.sta.kept W _ hbl hI.gx,Nk.set hs hI.nk hl q hbl.size hI.bs (fun s' cs' t' h=>absurd h (hnn p s' cs' t')) (fun x f' b hk hf hb=>by rw [hsp] at hk;cases hk;cases hf;exact hnk b hb) hI.nlt⟩
  ·obtain ⟨ha',hq⟩:=ha.backS hl;have:=(hI.det p' ha').step (hs.apart p') (hs.within p') hi hl;rw [fF (hs.at_c p' hsp)] at this;simp only [az.put,hq] at this;exact this
  ·obtain ⟨ha',hq⟩:=ha.backS hl;have hal':∀k,bo=some k→l[k]? = some true:=fun k hk'=>by
    rcases (aR hl).1 (hal k hk') with rfl|h
    ·rcases aP hb with ⟨-,-,h⟩|⟨-,s',cs,t',h,-,h2⟩
     ·rw [h] at hk';cases hk'
     ·rw [h2] at hk';have hk':=Option.some.inj hk';rw [hk'] at h;exact absurd h (hnn p' _ _ _)
    ·exact h
   have:=hI.mem p' ha' j bx bo hb hal';rw [hbl.block _ (block_lt this),this]
   congr 2
   refine bK _ _ _ (fun k off xs hk'=>?_);rw [ik hl,Nat.zero_add];have hne:Nat.beq k i=false:=by
    cases hb9:Nat.beq k i with
    | false=>rfl
    | true=>obtain rfl:=Nat.eq_of_beq_eq_true hb9;rw [hnp p'] at hk';cases hk'
   simp only [hne,Bool.or_false]
  ·rcases (aR hl).1 hl' with rfl|h
   ·exact absurd hk' (hnn _ _ _ _)
   ·have hne:k≠i:=by rintro rfl;rw [hl] at h;cases h
    simp only [aC.set,hne,if_false];exact hI.nb k s' cs' t' (hs.at_n p hk') h
  ·have g1:l[k]? = some true:=by
    rcases (aR hl).1 h3 with rfl|h
    ·exact absurd h1 (hnn _ _ _ _)
    ·exact h
   have g2:l[k']? = some true:=by
    rcases (aR hl).1 h4 with rfl|h
    ·exact absurd h2 (hnn _ _ _ _)
    ·exact h
   have hne:k≠i:=by rintro rfl;rw [hl] at g1;cases g1
   have hne':k'≠i:=by rintro rfl;rw [hl] at g2;cases g2
   simp only [aC.set,hne,hne',if_false];exact hI.ne k s' cs' t' k' s'' cs'' t'' (hs.at_n p h1) (hs.at_n p h2) g1 g2 h5
  ·rcases (aR hl).1 hl' with rfl|h
   ·rw [hs.at_c (p.set k q) hsp] at hk';cases hk';cases hf';simp only [aC.set,if_true];exact hfq
   ·have hne:k≠i:=by rintro rfl;rw [hl] at h;cases h
    simp only [aC.set,hne,if_false];obtain ⟨x2,h2,h3⟩:=hs.at_fac p hk' hf';exact (f'.st _).kept W _ hbl (hI.fx k x2 f' h2 h3 h)
 | w s j off xs g f x=>
  have hnn:∀p' s' cs t',(S p')[i]?≠some (.n s' cs t'):=fun p' s' cs t' h=>by obtain ⟨x',y',this,-⟩:=hs.at_w p' hsp;rw [h] at this;cases this
  have hmy:∀p',bH l p p'→∀xs' x',(S p')[i]? = some (.w s j off xs' g f x')→∀bx bo,aV E (S p') p' j=some (bx,bo)→bx.my=true∧w0.own bx.b∧(bM bx.cs.toList∧bx.t≠42)∧(Nat.blt j 1000=true∨reach ops 4 i (j-1000)=true)∧dI ops i j 0 (S p')=true∧bM xs'∧xs'.all (·.oneCell')=true∧(∀k,bo=some k→l[k]? = some true):=fun p' ha xs' x' hx' bx bo hb=>by
   obtain ⟨rr,hm⟩:=hs.mem_at p' hx';simp only [bT,jK,Bool.and_eq_true] at hm;have h2:=hm.1.1.1.2;rcases aP hb with ⟨hj,hE,hbo⟩|⟨hj,s',cs,t',hS,rfl,rfl⟩
   ·rw [hj,hE] at h2;have h3:=List.all_eq_true.1 hs.eb bx (List.mem_of_getElem? hE);simp only at h2;rw [h2] at h3;simp only [Bool.not_true,Bool.false_or,Bool.and_eq_true,bne_iff_ne] at h3;exact ⟨h2,hs.low bx (List.mem_of_getElem? hE) h2,⟨bD _ h3.1,h3.2⟩,Or.inl hj,hm.1.1.1.1,bD _ hm.1.1.2,hm.1.2,fun k hk=>by rw [hbo] at hk;cases hk⟩
   ·rw [hj] at h2;simp only [hS,Bool.and_eq_true,bne_iff_ne] at h2;have hdn:=dB (hI.det p' ha) h2.1 hi;have hSp:(S p)[j-1000]? = some (.n s' cs t'):=hs.at_n p hS;have hN:=ha _ hdn;refine ⟨rfl,?_,⟨bD _ h2.2.1,h2.2.2⟩,Or.inr h2.1,hm.1.1.1.1,bD _ hm.1.1.2,hm.1.2,fun k hk=>by rw [←Option.some.inj hk];exact hdn⟩
    show w0.own (p' (j-1000)).N
    rw [hN];exact w0.new (Nat.le_trans hs.w0b (hI.nb _ _ _ _ hSp hdn))
  have hag:∀q,bH l p (p.set i q):=fun q k hk=>by
   have hne:k≠i:=by rintro rfl;rw [hl] at hk;cases hk
   simp [aC.set,hne]
  obtain ⟨-,hbk,bx,bo,hb,he,fn,args,h0,hxa,hcall⟩:=hokp p _ hsp;obtain ⟨o,ho,hd,hw,hr⟩:=hat p (bH.refl l p) h0;have hrun:=cB P 0 _ _ _ _ W hr trivial;refine eP ho hw hrun ?_
  show Calls P fn args W _
  obtain ⟨hmy0,hlow,⟨hlim,hty⟩,hre,hto,-,-,hbo⟩:=hmy p (bH.refl l p) xs x hsp bx bo hb;obtain ⟨c1,c2,c3⟩:=hI.cells hi hl (bH.refl l p) hb hto hre;refine (hcall W ⟨hI.bs,hI.fr,hI.facts hi,hI.gx,hI.boxes,hI.ap hs hi,hI.cl hi hl⟩ (by rw [←c2];exact c1)).mono ?_;rintro en W' ⟨q,rfl,hln,hbl,hfq⟩;obtain ⟨xq,yq,hxq,-⟩:=hs.at_w (p.set i q) hsp;obtain ⟨hgq,-,bxq,boq,hbq,-⟩:=hokp (p.set i q) _ hxq;have hgq':g q=xq:=by rw [←hgq];simp [aC.set]
  obtain ⟨-,-,-,-,-,nlq,ocq,-⟩:=hmy _ (hag q) xq yq hxq bxq boq hbq;obtain ⟨-,g2,g3,g4,g5,g6⟩:=oq (w0:=w0) hty hlow (g q) off _ W c1 (by rw [cellsOf_size,hln];exact Nat.le_of_ble_eq_true he) (gU _ _ _ (hs.mem p) hlim) (by rw [hgq'];exact nlq) (by rw [hgq'];exact ocq) hI.fr;rw [←g5] at hbl
  show ∃p' t',_
  rw [hd];refine ⟨p.set i q,gQ (s.map fun s=>(s,tQ f q x)) t,by cases s<;>rfl,?_⟩;refine ⟨fun p' ha=>?_,fun p' ha j2 bx2 bo2 hb2 hal=>?_,w0.kept g4 hbl,Nat.le_trans hI.bs (by rw [←g5];exact hbl.size),fun k s' cs' t' hk' hl'=>?_,fun k s' cs' t' k' s'' cs'' t'' h1 h2 h3 h4 h5=>?_,fun k x' f' hk' hf' hl'=>?_,hs.sta.kept _ _ hbl (g6 none _ (hs.sta.b none) (fun _ h=>nomatch h) hI.gx),Nk.set hs hI.nk hl q (by rw [←g5];exact hbl.size) hI.bs (fun s' cs' t' h=>absurd h (hnn p s' cs' t')) (fun x f' b hk hf hb=>by rw [hsp] at hk;cases hk;cases hf;rw [hbk] at hb;cases hb) hI.nlt⟩
  ·obtain ⟨ha',hq⟩:=ha.backS hl;obtain ⟨xs',x',hx',hxx⟩:=hs.at_w p' hsp;have:=(hI.det p' ha').step (hs.apart p') (hs.within p') hi hl;rw [fF hx'] at this;simp only [az.put,hq] at this;have hv:tQ f q x'=tQ f q x:=by
    obtain ⟨-,-,bx9,bo9,-,-,fn',args',h0',hxa',-⟩:=hokp p' _ hx';obtain ⟨o',ho',-,-,hr'⟩:=hat p' ha' h0';rw [ho] at ho';cases ho';rw [hr] at hr';cases hr';cases x with
    | none=>cases x' with
     | none=>rfl
     | some y=>simp at hxx
    | some y=>cases x' with
     | none=>simp at hxx
     | some y'=>
      have e1:=hxa y rfl;have e2:=hxa' y' rfl;simp only [Option.map_some,Option.some.injEq] at hxx;rw [←hxx,e1] at e2;exact e2.symm
   rw [hv] at this;exact this
  ·obtain ⟨ha',hq⟩:=ha.backS hl;obtain ⟨xs',x',hx',-⟩:=hs.at_w p' hsp;obtain ⟨hxs,-,bx',bo',hb',-⟩:=hokp p' _ hx';rw [hq] at hxs;obtain ⟨hmy',-,-,-,hto',-,-,hbo'⟩:=hmy p' ha' xs' x' hx' bx' bo' hb';have hbb:bx'.b=bx.b:=by
    rcases aP hb' with ⟨r1,r2,r3⟩|⟨r1,s2,cs2,t2,r2,r3,r4⟩
    ·rcases aP hb with ⟨q1,q2,q3⟩|⟨q1,s1,cs1,t1,q2,q3,q4⟩
     ·rw [r2] at q2;cases q2;rfl
     ·rw [r1] at q1;cases q1
    ·rcases aP hb with ⟨q1,q2,q3⟩|⟨q1,s1,cs1,t1,q2,q3,q4⟩
     ·rw [r1] at q1;cases q1
     ·rw [r3,q3]
      show (p' (j-1000)).N=(p (j-1000)).N
      rw [ha' _ (hbo' _ r4)]
   have hcc:=hI.mem p' ha' j bx' bo' hb' hbo';rw [hbb,c1] at hcc;have hal':∀k,bo2=some k→l[k]? = some true:=fun k hk'=>by
    rcases (aR hl).1 (hal k hk') with rfl|h
    ·rcases aP hb2 with ⟨-,-,h⟩|⟨-,s',cs,t',h,-,h2⟩
     ·rw [h] at hk';cases hk'
     ·rw [h2] at hk';have hk':=Option.some.inj hk';rw [hk'] at h;exact absurd h (hnn p' _ _ _)
    ·exact h
   rw [ik hl];by_cases hj:j2=j
   ·subst hj;rw [hb'] at hb2;cases hb2;have:=jY (f:=fP l) (S p') 0 i off xs' bx2.cs (by rw [hx'];rfl) (by rw [Nat.zero_add];exact gu (by rw [hl];simp)) (fun k' off' xs'' hk' hlt=>by
     have ht:=iZ (S p') 0 k' off' xs'' hto' hk';rw [Nat.zero_add] at ht ⊢;refine gu (fun hup=>?_);rcases ht with h|h|h
     ·omega
     ·omega
     ·have:=fC (hI.det p' ha') _ _ _ h.2 hup;rw [hl] at this;cases this)
    rw [Nat.zero_add] at this;rw [this,hbb,hbl.block _ (block_lt g2),g2,hxs];simp only [Option.some.injEq,Obj.cells.injEq,and_true] at hcc;rw [hcc.1,hcc.2]
   ·have hne:bx2.b≠bx'.b:=by
     rcases aP hb2 with ⟨q1,q2,q3⟩|⟨q1,s1,cs1,t1,q2,q3,q4⟩
     ·rcases aP hb' with ⟨r1,r2,r3⟩|⟨r1,s2,cs2,t2,r2,r3,r4⟩
      ·exact Ne.symm (hs.ne j j2 bx' bx2 r2 q2 hmy' (Ne.symm hj))
      ·have h1:=hs.lt bx2 (List.mem_of_getElem? q2);have hdn:=hbo' _ r4;have h2:=hI.nb _ _ _ _ (hs.at_n p r2) hdn;rw [r3]
       show bx2.b≠(p' (j-1000)).N
       rw [ha' _ hdn];omega
     ·have hdn1:=hal' _ q4;rcases aP hb' with ⟨r1,r2,r3⟩|⟨r1,s2,cs2,t2,r2,r3,r4⟩
      ·have h1:=hs.lt bx' (List.mem_of_getElem? r2);have h2:=hI.nb _ _ _ _ (hs.at_n p q2) hdn1;rw [q3]
       show (p' (j2-1000)).N≠bx'.b
       rw [ha' _ hdn1];omega
      ·have hdn2:=hbo' _ r4;rw [q3,r3]
       show (p' (j2-1000)).N≠(p' (j-1000)).N
       rw [ha' _ hdn1,ha' _ hdn2];refine hI.ne _ _ _ _ _ _ _ _ (hs.at_n p q2) (hs.at_n p r2) hdn1 hdn2 (fun e=>hj ?_);have a1:¬j<1000:=fun hc=>by rw [show Nat.blt j 1000=true from by rw [Nat.blt_eq];exact hc] at r1;cases r1
       have a2:¬j2<1000:=fun hc=>by rw [show Nat.blt j2 1000=true from by rw [Nat.blt_eq];exact hc] at q1;cases q1
       omega
    rw [hbb] at hne;have h9:=hI.mem p' ha' j2 bx2 bo2 hb2 hal';rw [←g3 _ hne] at h9;rw [hbl.block _ (block_lt h9),h9]
    congr 2
    refine bK _ _ _ (fun k off' xs'' hk'=>?_);rw [Nat.zero_add];have hki:Nat.beq k i=false:=by
     cases hb9:Nat.beq k i with
     | false=>rfl
     | true=>
      obtain rfl:=Nat.eq_of_beq_eq_true hb9;rw [hx'] at hk';change some (j,off,xs')=some _ at hk';cases hk';exact absurd rfl hj
    simp only [hki,Bool.or_false]
  ·rcases (aR hl).1 hl' with rfl|h
   ·exact absurd hk' (hnn _ _ _ _)
   ·have hne:k≠i:=by rintro rfl;rw [hl] at h;cases h
    simp only [aC.set,hne,if_false];exact hI.nb k s' cs' t' (hs.at_n p hk') h
  ·have g1:l[k]? = some true:=by
    rcases (aR hl).1 h3 with rfl|h
    ·exact absurd h1 (hnn _ _ _ _)
    ·exact h
   have g2:l[k']? = some true:=by
    rcases (aR hl).1 h4 with rfl|h
    ·exact absurd h2 (hnn _ _ _ _)
    ·exact h
   have hne:k≠i:=by rintro rfl;rw [hl] at g1;cases g1
   have hne':k'≠i:=by rintro rfl;rw [hl] at g2;cases g2
   simp only [aC.set,hne,hne',if_false];exact hI.ne k s' cs' t' k' s'' cs'' t'' (hs.at_n p h1) (hs.at_n p h2) g1 g2 h5
  ·rcases (aR hl).1 hl' with rfl|h
   ·rw [hxq] at hk';cases hk';cases hf';simp only [aC.set,if_true];exact hfq
   ·have hne:k≠i:=by rintro rfl;rw [hl] at h;cases h
    simp only [aC.set,hne,if_false];obtain ⟨x2,h2,h3⟩:=hs.at_fac p hk' hf';exact (f'.st _).kept _ _ hbl (g6 _ _ (f'.st _) (hI.apart hs hb hbo h2 h3 h) (hI.fx k x2 f' h2 h3 h))
theorem bV.step{P:Program}{ops:Array Oper}{Q:Exit→Act→World→Prop}{T0:Array Value}{n:Nat}{L:Ks}{E:List Bx}{S:aC→List az}{G:World→Prop}{w0:aN}{base:Nat}{p:aC}{l:Array Bool}{t:Array Value}{W:World}{i:Nat}(hs:bI ops T0 n L E S G w0 base)(hok:∀p,aZ P ops L E (S p) G w0 base p 0 (S p))(hI:bV ops T0 E S G w0 base p l t W)(hi:i∈Region.ready .any ops l)(hl:l[i]? = some false) :
  wpOp P ops Q i (fun a W'=>∃p' t',a=⟨t',[]⟩∧bV ops T0 E S G w0 base p' (l.setIfInBounds i true) t' W') ⟨t,[]⟩ W:=
 hI.step1 hs (fun p' x hx=>by
  have:=aZ.at (S p') 0 i x (hok p') hx;rw [Nat.zero_add] at this;exact this) hi hl
structure ag(E:List Bx)(S:List az)(G:World→Prop)(w0:aN)(base:Nat)(p:aC)(W:World):Prop where
 fr:w0.to W
 bs:base≤W.heap.size
 mem:∀(j:Nat)(bx:Bx)(bo:Option Nat),aV E S p j=some (bx,bo)→W.heap[bx.b]? = some (.cells (cellsOf (fun _=>true) j 0 S bx.cs) bx.t (0,0))
 nb:∀(k s:Nat)(cs:Array Value)(t:TypeId),S[k]? = some (.n s cs t)→base≤(p k).N
 ne:∀(k s:Nat)(cs:Array Value)(t:TypeId)(k' s':Nat)(cs':Array Value)(t':TypeId),S[k]? = some (.n s cs t)→S[k']? = some (.n s' cs' t')→k≠k'→(p k).N≠(p k').N
 fx:∀k,oO S p k W
 gx:G W
 nk:Nk S p (fun _=>True) base W.heap.size
structure Hq(ops:Array Oper)(n:Nat)(L:Ks)(E:List Bx)(S:aC→List az):Prop where
 shape:∀p p',(S p).map az.bare=(S p').map az.bare
 apart:∀p,ay.apart (puts p 0 (S p))=true
 len:∀p,(S p).length=ops.size
 within:∀p,ay.within (puts p 0 (S p)) n=true
 back:kX ops=true
 reads:∀p,fq ops L (puts p 0 (S p)) 0 ops.toList=true
 mem:∀p,bT ops E (S p) 0 (S p)=true
 eb:E.all (fun x=>!x.my||eQ x.cs.toList&&x.t != 42)=true
theorem vT{P:Program}{ops:Array Oper}{Q:Exit→Act→World→Prop}{T0:Array Value}{n:Nat}{L:Ks}{G:World→Prop}{w0:aN}(S:aC→List az){W:World}{E:List Bx}(hE:∀x,x∈E→W.heap[x.b]? = some (.cells x.cs x.t (0,0)))(hfr:w0.to W)(hK:Kn T0 n L)(hB:Hq ops n L E S)(hlow:∀x,x∈E→x.my=true→w0.own x.b)(hne:∀(j k:Nat) (x y:Bx),E[j]? = some x→E[k]? = some y→x.my=true→j≠k→x.b≠y.b)(hst:jR G)(h0:G W)(hok:∀p,aZ P ops L E (S p) G w0 W.heap.size p 0 (S p))(hfin:∀p W',ag E (S p) G w0 W.heap.size p W'→Q .normal ⟨ay.lay (puts p 0 (S p)) T0,[]⟩ W') :
  wpAny P .any ops Q ops.size (Array.replicate ops.size false) ⟨T0,[]⟩ W:=by
 have hs:bI ops T0 n L E S G w0 W.heap.size:=⟨hB.shape,hB.apart,hB.len,fun p=>by rw [hK.size];exact hB.within p,hB.back,hB.reads,hK,hB.mem,hB.eb,hlow,hne,fun x hx=>block_lt (hE x hx),w0.sized hfr,hst⟩;refine iG (fun l a w=>∃p t,a=⟨t,[]⟩∧bV ops T0 E S G w0 W.heap.size p l t w) ?_ ?_ _ _ _ _ ?_ ⟨fun _=>iH,T0,rfl,?_⟩
 ·rintro l a w i ⟨p,t,rfl,hI⟩ hi hl;exact hI.step hs hok hi hl
 ·rintro l a w ⟨p,t,rfl,hI⟩ hr;have hD:=hI.det p (bH.refl l p);have hl:=tV hD.len hB.back hr;rw [hD.done (hB.apart p) (by rw [kM];exact hB.len p) (by rw [hK.size];exact hB.within p) hl];have hin:∀k x,(S p)[k]? = some x→l[k]? = some true:=fun k x hk=>hl k (by
   rw [←hB.len p];exact (List.getElem?_eq_some_iff.1 hk).1)
  refine hfin p w ⟨hI.fr,hI.bs,fun j bx bo hb=>?_,fun k s cs t hk=>hI.nb k s cs t hk (hin k _ hk),fun k s cs t k' s' cs' t' hk hk'=>hI.ne k s cs t k' s' cs' t' hk hk' (hin k _ hk) (hin k' _ hk'),fun k=>?_,hI.gx,fun k x f b hk hf _ hb=>by
   obtain ⟨a1,a2,a3,a4⟩:=hI.nk k x f b hk hf (hin k _ hk) hb;exact ⟨a1,a2,fun k' s cs t hk' _=>a3 k' s cs t hk' (hin k' _ hk'),fun k' x' f' hne hk' hf' _=>a4 k' x' f' hne hk' hf' (hin k' _ hk')⟩⟩
  ·rw [hI.mem p (bH.refl l p) j bx bo hb (fun k hk=>?_)]
   ·congr 2
    refine bK _ _ _ (fun k off xs hk=>?_);obtain ⟨x9,hx9,-⟩:=Option.bind_eq_some_iff.1 hk;rw [Nat.zero_add];exact kY.2 (hin k _ hx9)
   ·rcases aP hb with ⟨-,-,h⟩|⟨-,s,cs,t,h,-,h2⟩
    ·rw [h] at hk;cases hk
    ·rw [h2] at hk;rw [←Option.some.inj hk];exact hin _ _ h
  ·unfold oO
   split
   ·rename_i s cf hk
    exact hI.fx k _ cf hk rfl (hin k _ hk)
   ·rename_i cf _ hk
    exact hI.fx k _ cf hk rfl (hin k _ hk)
   ·rename_i s' cs ty hk
    intro hnp;have hb:aV E (S p) p (1000+k)=some (⟨(p k).N,cs,ty%1000000,true⟩,some k):=by
     unfold aV;rw [show Nat.blt (1000+k) 1000=false from by cases h:Nat.blt (1000+k) 1000 with
      | false=>rfl
      | true=>rw [Nat.blt_eq] at h;omega]
     simp [hk]
    have h1:=hI.mem p (bH.refl l p) (1000+k) _ (some k) hb (fun k' e=>by cases e;exact hin k _ hk);rw [df] at h1
    ·exact h1
    intro k' off xs hk';exact absurd hk' (nN _ hnp _ _ _)
   ·trivial
 ·simp
 ·have hno:∀k:Nat,(Array.replicate ops.size false)[k]?≠some true:=fun k h=>by
   rw [Array.getElem?_replicate] at h
   split at h<;>cases h
  have hup:fP (Array.replicate ops.size false)=fun _=>false:=funext fun k=>gu (hno k);refine ⟨fun p' _=>?_,fun p' _ j bx bo hb hal=>?_,hfr,Nat.le_refl _,fun k _ _ _ _ h=>absurd h (hno k),fun k _ _ _ _ _ _ _ _ _ h=>absurd h (hno k),fun k _ _ _ _ h=>absurd h (hno k),h0,fun k _ _ _ _ _ h=>absurd h (hno k)⟩
  ·constructor
   ·simp
   ·rfl
   ·intro k s v _ h;exact absurd h (hno k)
   ·intro s _;rfl
   ·intro k o h;exact absurd h (hno k)
  ·rcases aP hb with ⟨-,hj,-⟩|⟨-,s,cs,t,-,-,h2⟩
   ·rw [hup,df _ _ _ (fun _ _ _ _=>rfl)];exact hE bx (List.mem_of_getElem? hj)
   ·exact absurd (hal _ h2) (hno _)
theorem oL{P:Program}{ops:Array Oper}{Q:Exit→Act→World→Prop}(hb:kX ops=true):∀(k i:Nat),i+k=ops.size→∀(l:Array Bool)(a:Act)(w:World),l.size=ops.size→(∀j,j<ops.size→l[j]? = some (decide (j<i)))→wpAny P .any ops Q k l a w→wpOps P ops Q (List.range' i k) a w
 | 0,_,_,_,_,_,_,_,h=>by simpa [wpOps] using h.2
 | k+1,i,hn,l,a,w,hl,hd,h=>by
  rw [List.range'_succ,wpOps_cons];have hi:i<ops.size:=by omega
  obtain ⟨o,ho⟩:∃o,ops[i]? = some o:=⟨ops[i],by simp [hi]⟩;have hb':=List.all_eq_true.1 hb i (List.mem_range.2 hi);rw [ho] at hb';have hr:i∈Region.ready .any ops l:=mem_ready.2 ⟨by rw [Array.getD_eq_getD_getElem?,hd i hi];simp,o,ho,fun e he hbe=>by
   have h1:=Array.all_eq_true'.1 hb' e he;simp [hbe] at h1;rw [Array.getD_eq_getD_getElem?,hd e.on (by omega)];simp [h1]⟩
  refine wpOp_mono (fun a' w' h'=>oL hb k (i+1) (by omega) _ a' w' (by simpa using hl) (fun j hj=>?_) h') (h.2 i hr);by_cases hji:j=i
  ·subst hji;rw [Array.getElem?_setIfInBounds_self_of_lt (by omega)];simp
  ·rw [Array.getElem?_setIfInBounds_ne (Ne.symm hji),hd j hj]
   congr 1
   simp only [decide_eq_decide];omega
theorem Ii{P:Program}{ops:Array Oper}{Q:Exit→Act→World→Prop}{T0:Array Value}{n:Nat}{L:Ks}{G:World→Prop}{w0:aN}(S:aC→List az){id:Nat}{d:Bool}{W:World}{E:List Bx}(hE:∀x,x∈E→W.heap[x.b]? = some (.cells x.cs x.t (0,0)))(hfr:w0.to W)(hm:P.follows .mixedOrders=true)(hK:Kn T0 n L)(hB:Hq ops n L E S)(hlow:∀x,x∈E→x.my=true→w0.own x.b)(hne:∀(j k:Nat) (x y:Bx),E[j]? = some x→E[k]? = some y→x.my=true→j≠k→x.b≠y.b)(hst:jR G)(h0:G W)(hok:∀p,aZ P ops L E (S p) G w0 W.heap.size p 0 (S p))(hfin:∀p W',ag E (S p) G w0 W.heap.size p W'→Q .normal ⟨ay.lay (puts p 0 (S p)) T0,[]⟩ W') :
  (Code.region id ops d).wp P Q ⟨T0,[]⟩ W:=by
 cases d with
 | true=>exact wp_region_any hm (vT S (W:=W.drew) hE (w0.kept hfr (Below.refl _ _).drew) hK hB hlow hne hst (hst.kept W _ (Below.refl _ _).drew h0) hok hfin)
 | false=>
  refine wp_region ?_;have:=oL hB.back ops.size 0 (by omega) _ _ _ (by simp) (fun j hj=>by rw [Array.getElem?_replicate];simp [hj]) (vT S hE hfr hK hB hlow hne hst h0 hok hfin)
  rwa [←List.range_eq_range'] at this
theorem ae{P:Program}{ops:Array Oper}{L:Ks}{E:List Bx}{S:List az}{G:World→Prop}{w0:aN}{base:Nat}{p:aC}{i:Nat}:aZ P ops L E S G w0 base p i []:=trivial
theorem JB{P:Program}{ops:Array Oper}{L:Ks}{E:List Bx}{S:List az}{G:World→Prop}{w0:aN}{base:Nat}{p:aC}{i:Nat}{r:List az}{s:Nat}{x:Value}(h:aX P ops L (puts p 0 S) i 0 []=some (some s,true,some (.value x,[])))(t:aZ P ops L E S G w0 base p (i+1) r):aZ P ops L E S G w0 base p i (.v s x::r):=⟨h,t⟩
theorem IC{P:Program}{ops:Array Oper}{L:Ks}{E:List Bx}{S:List az}{G:World→Prop}{w0:aN}{base:Nat}{p:aC}{i:Nat}{r:List az}{s:Nat}{k:IntKind}{x y:Int}(e:x=y)(h:aX P ops L (puts p 0 S) i 0 []=some (some s,true,some (.value (.int k x),[])))(t:aZ P ops L E S G w0 base p (i+1) r):aZ P ops L E S G w0 base p i (.v s (.int k y)::r):=⟨e▸h,t⟩
theorem IJ{P:Program}{ops:Array Oper}{L:Ks}{E:List Bx}{S:List az}{G:World→Prop}{w0:aN}{base:Nat}{p:aC}{i:Nat}{r:List az}{s:Nat}{x y:Bool}(e:x=y)(h:aX P ops L (puts p 0 S) i 0 []=some (some s,true,some (.value (.bool x),[])))(t:aZ P ops L E S G w0 base p (i+1) r):aZ P ops L E S G w0 base p i (.v s (.bool y)::r):=⟨e▸h,t⟩
theorem JE{P:Program}{ops:Array Oper}{L:Ks}{E:List Bx}{S:List az}{G:World→Prop}{w0:aN}{base:Nat}{p:aC}{i:Nat}{r:List az}{s j off:Nat}{x:Value}(bx:Bx)(bo:Option Nat)(hb:aV E S p j=some (bx,bo))(h:aX P ops L (puts p 0 S) i 0 x.cells.toList=some (some s,true,some (.value x,qE bx.b off x.cells.toList)))(hc:((cellsOf (fun k=>Nat.blt k i) j 0 S bx.cs).toList.drop off).take x.cells.size=x.cells.toList)(t:aZ P ops L E S G w0 base p (i+1) r):aZ P ops L E S G w0 base p i (.l s x j off::r):=⟨⟨bx,bo,hb,h,hc⟩,t⟩
theorem Jw{P:Program}{ops:Array Oper}{L:Ks}{E:List Bx}{S:List az}{G:World→Prop}{w0:aN}{base:Nat}{p:aC}{i:Nat}{r:List az}{j off:Nat}{xs:List Value}(bx:Bx)(bo:Option Nat)(hb:aV E S p j=some (bx,bo))(h:aX P ops L (puts p 0 S) i 0 []=some (none,true,some (.skip,bG bx.b off xs)))(hc:Nat.ble (off+xs.length) bx.cs.size=true)(t:aZ P ops L E S G w0 base p (i+1) r):aZ P ops L E S G w0 base p i (.p j off xs::r):=⟨⟨bx,bo,hb,h,hc⟩,t⟩
theorem JJ{P:Program}{ops:Array Oper}{L:Ks}{E:List Bx}{S:List az}{G:World→Prop}{w0:aN}{base:Nat}{p:aC}{i:Nat}{r:List az}{s:Nat}{cs:Array Value}{ty:TypeId}(h:∀q,aX P ops L (puts p 0 S) i q []=some (some s,true,some (.value (nv q ty),[.nw (.cells cs (ty%1000000))])))(t:aZ P ops L E S G w0 base p (i+1) r):aZ P ops L E S G w0 base p i (.n s cs ty::r):=⟨h,t⟩
theorem Ju{P:Program}{ops:Array Oper}{L:Ks}{E:List Bx}{S:List az}{G:World→Prop}{w0:aN}{base:Nat}{p:aC}{i:Nat}{r:List az}{s:Option Nat}(x:Option (Next×List Ev))(h:aX P ops L (puts p 0 S) i 0 []=some (s,false,x))(t:aZ P ops L E S G w0 base p (i+1) r):aZ P ops L E S G w0 base p i (.k s::r):=⟨⟨x,h⟩,t⟩
theorem Jr{P:Program}{ops:Array Oper}{L:Ks}{E:List Bx}{S:List az}{G:World→Prop}{w0:aN}{base:Nat}{p:aC}{i:Nat}{r:List az}{s:Nat}{x:Value}{g:Array Value→Value}{fn:FuncId}{args:Array Value}(hc:∀W,Cx ops E S G w0 base p i W→Calls P fn args W fun en W'=>en = .returned x∧Below W.heap.size W W')(h:aX P ops L (puts p 0 S) i 0 []=some (some s,true,some (.enter fn args,[])))(hx:g args=x)(t:aZ P ops L E S G w0 base p (i+1) r):aZ P ops L E S G w0 base p i (.u s x g::r):=⟨⟨fn,args,h,hx,hc⟩,t⟩
theorem Gj{P:Program}{ops:Array Oper}{L:Ks}{E:List Bx}{S:List az}{G:World→Prop}{w0:aN}{base:Nat}{p:aC}{i:Nat}{r:List az}{s:Nat}{x:Value}{vs:List Value}{es:List Ev}(hc:∀W,Cx ops E S G w0 base p i W→dY 0 es W∧evs es W=W)(h:aX P ops L (puts p 0 S) i 0 vs=some (some s,true,some (.value x,es)))(t:aZ P ops L E S G w0 base p (i+1) r):aZ P ops L E S G w0 base p i (.g s x vs es::r):=⟨⟨h,hc⟩,t⟩
theorem JC{P:Program}{ops:Array Oper}{L:Ks}{E:List Bx}{S:List az}{G:World→Prop}{w0:aN}{base:Nat}{p:aC}{i:Nat}{r:List az}{s:Option Nat}{f:Cf}{fn:FuncId}{args:Array Value}(hc:∀W,Cx ops E S G w0 base p i W→Calls P fn args W fun en W'=>∃q,en = .returned (f.f q)∧Below W.heap.size W W'∧f.g q W')(h:aX P ops L (puts p 0 S) i 0 []=some (s,true,some (.enter fn args,[])))(t:aZ P ops L E S G w0 base p (i+1) r)(hn:∀q,f.bk q=none:=by intro _;rfl):aZ P ops L E S G w0 base p i (.c s f::r):=⟨⟨fn,args,h,fun W cx=>(hc W cx).mono fun _ _ ⟨q,h1,h2,h3⟩=>⟨q,h1,h2,h3,fun b hb=>by rw [hn] at hb;cases hb⟩⟩,t⟩
theorem JA{P:Program}{ops:Array Oper}{L:Ks}{E:List Bx}{S:List az}{G:World→Prop}{w0:aN}{base:Nat}{p:aC}{i:Nat}{r:List az}{s:Option Nat}{j off:Nat}{xs:List Value}{g:Pq→List Value}{f:Cf}{fn:FuncId}{args:Array Value}{bx:Bx}{bo:Option Nat}(hb:aV E S p j=some (bx,bo))(hc:∀W,Cx ops E S G w0 base p i W→W.heap[bx.b]? = some (.cells (cellsOf (fun k=>Nat.blt k i) j 0 S bx.cs) bx.t (0,0))→Calls P fn args W fun en W'=>∃q,en = .returned (f.f q)∧(g q).length=xs.length∧Below W.heap.size (evs (bG bx.b off (g q)) W) W'∧f.g q W')(h:aX P ops L (puts p 0 S) i 0 []=some (s,true,some (.enter fn args,[])))(hg:g (p i)=xs)(hn:Nat.ble (off+xs.length) bx.cs.size=true)(t:aZ P ops L E S G w0 base p (i+1) r)(hk:∀q,f.bk q=none:=by intro _;rfl):aZ P ops L E S G w0 base p i (.w s j off xs g f::r):=⟨⟨hg,hk,bx,bo,hb,hn,fn,args,h,(fun _ h9=>by cases h9),hc⟩,t⟩
def bf(fn:Nat)(args:Array Value)(v:Value):Prop:=∀W:World,Calls Tryz.prog fn args W fun e w'=>e = .returned v∧Below W.heap.size W w'
def ol(S b:Nat):Nat:=if b%S=0 then 0 else b/S
def gX(S b:Nat):Int:=if b<S then (b:Int) else (S:Int)-(b:Int)
theorem vQ{E F S:Nat}(h:Fo E F)(hS:S=2^(F+E)):0<S∧S≤9223372036854775808:=by
 subst hS;exact ⟨aL _,aJ (n:=F+E) (k:=63) h.sum⟩
theorem zk(k:Nat)(h:k≤63):IntKind.u64.wrap ((2:Int)^k)=((2^k:Nat):Int):=by
 have:=kg 1 k (by rw [Nat.one_mul];exact Nat.lt_of_le_of_lt (aJ (n:=k) (k:=63) h) (by decide));rw [Nat.one_mul] at this;rw [←this,Int.natCast_one,Int.one_mul]
theorem dw(E F S:Nat)(h:Fo E F)(hS:Hid (S=2^(F+E)))(w:World)  :
  Calls Tryz.prog 60 #[.agg #[.int .i64 E,.int .i64 F]] w fun e w'=>e = .returned (.int .u64 (S:Int))∧Below w.heap.size w w':=by
 have h63:=h.sum;have e1:IntKind.u64.wrap ((2:Int)^(E+F))=(S:Int):=by rw [zk _ (by omega),aa hS,Nat.add_comm]
 go_enter Tryz.func60,Tryz.ntmps60
 go_wp2
 go_ret
 exact ⟨by rw [←e1];rfl,(Fs.one w _ _).fr⟩
theorem CY(E F S b:Nat)(h:Fo E F)(HS:Hid (S=2^(F+E)))(hb:b<2*S)(h0:b%S=0)(w:World)  :
  Calls Tryz.prog 49 #[.agg #[.int .i64 E,.int .i64 F],.int .u64 (b:Int)] w fun e w'=>e = .returned (.agg #[.int .u64 0,.int .u64 0])∧Below w.heap.size w w':=by
 have e1:=jM b (F+E) h.sum (by rw [Nat.pow_succ,Nat.mul_comm,←aa HS];exact hb);rw [←aa HS,h0] at e1;clear hb h0;go_enter Tryz.func49,Tryz.ntmps49
 go_wp2_with fail
 refine (dw _ _ S h HS _).mono ?_;rintro e w1 ⟨rfl,hb1⟩;have hS:=(Fs.two w _ _ _ _).kept hb1;obtain ⟨⟨ya,yb,-⟩,⟨yc,yd,-⟩,-⟩:=hS.cells;have Q_:=hS.frozen (b:=w.heap.size+1) (cs:=#[.int .u64 0,.int .u64 0]) (t:=97) (by simp);have fz0:=Q_ 0;have fz1:=Q_ 1;clear Q_;go_wp2
 exact bodyPost_ret (v:=.agg #[.int .u64 0,.int .u64 0]) (by simp [results,Tryz.results49,go_sem,yc,yd]) rfl ⟨rfl,((hS.fr.setCell (by simp) _).setCell (by simp) _)⟩
theorem A7(E F S b r q:Nat)(h:Fo E F)(HS:Hid (S=2^(F+E)))(hb:b<2*S)(hr:r=b%S)(h0:0<r)(hq:q=b/S)(w:World)  :
  Calls Tryz.prog 49 #[.agg #[.int .i64 E,.int .i64 F],.int .u64 (b:Int)] w fun e w'=>e = .returned (.agg #[.int .u64 (q:Int),.int .u64 (r:Int)])∧Below w.heap.size w w':=by
 have e1:=jM b (F+E) h.sum (by rw [Nat.pow_succ,Nat.mul_comm,←aa HS];exact hb);rw [←aa HS,←hr] at e1;have h63:=h.sum;have e2:((b:Int)/2^(E+F))=(q:Int):=by
  rw [show ((2:Int)^(E+F))=((2^(F+E):Nat):Int) from by rw [Nat.add_comm];simp,←aa HS,hq];rfl
 have hr0:((r:Int)==0)=false:=by simp;omega
 clear hb hr hq h0;go_enter Tryz.func49,Tryz.ntmps49
 go_wp2_with fail
 refine (dw _ _ S h HS _).mono ?_;rintro e w1 ⟨rfl,hb1⟩;have hS:=(Fs.two w _ _ _ _).kept hb1;obtain ⟨⟨ya,yb,-⟩,⟨yc,yd,-⟩,-⟩:=hS.cells;have Q_:=hS.frozen (b:=w.heap.size+1) (cs:=#[.int .u64 0,.int .u64 0]) (t:=97) (by simp);have fz0:=Q_ 0;have fz1:=Q_ 1;clear Q_;go_wp2
 exact bodyPost_ret (v:=.agg #[.int .u64 (q:Int),.int .u64 (r:Int)]) (by simp [results,Tryz.results49,go_sem,yc,yd]) rfl ⟨rfl,((hS.fr.setCell (by simp) _).setCell (by simp) _)⟩
theorem vO(r:Nat)(h:r<9223372036854775808)(w:World)  :
  Calls Tryz.prog 50 #[.agg #[.int .u64 0,.int .u64 (r:Int)]] w fun e w'=>e = .returned (.int .i64 (r:Int))∧Below w.heap.size w w':=by
 have e1:IntKind.i64.wrap (r:Int)=(r:Int):=by rw [IntKind.wrap_i64];omega
 go_enter Tryz.func50,Tryz.ntmps50
 go_wp2
 go_ret
 exact ⟨rfl,(Fs.one w _ _).fr⟩
theorem EE(r:Nat)(h0:0<r)(h:r<9223372036854775808)(w:World)  :
  Calls Tryz.prog 50 #[.agg #[.int .u64 1,.int .u64 (r:Int)]] w fun e w'=>e = .returned (.int .i64 (-(r:Int)))∧Below w.heap.size w w':=by
 have e1:IntKind.u64.wrap (-(r:Int))=18446744073709551616-(r:Int):=by rw [IntKind.wrap_u64];omega
 have e2:IntKind.i64.wrap (18446744073709551616-(r:Int)) = -(r:Int):=by rw [IntKind.wrap_i64];omega
 go_enter Tryz.func50,Tryz.ntmps50
 go_wp2
 go_ret
 exact ⟨rfl,(Fs.one w _ _).fr⟩
theorem Bd(E F:Int)(p:Nat)(h:p<9223372036854775808)(neg:Bool)(hn:p=0→neg=false)(w:World)  :
  Calls Tryz.prog 93 #[.agg #[.int .i64 E,.int .i64 F],.int .i64 (p:Int),.bool neg] w fun e w'=>e = .returned (.int .u64 (p:Int))∧Below w.heap.size w w':=by
 have e1:IntKind.u64.wrap (p:Int)=(p:Int):=by rw [IntKind.wrap_u64];omega
 by_cases hp:p=0
 case pos=>
  subst hp;rw [hn rfl];clear hn;go_enter Tryz.func93,Tryz.ntmps93
  go_wp2
  go_ret
  exact ⟨rfl,(Fs.one w _ _).fr⟩
 have e2:((p:Int)==0)=false:=by simp;omega
 clear hn hp;go_enter Tryz.func93,Tryz.ntmps93
 go_wp2
 go_ret
 exact ⟨rfl,(Fs.one w _ _).fr⟩
theorem CQ(E F S p r:Nat)(neg:Bool)(h:Fo E F)(HS:Hid (S=2^(F+E)))(hp:p<9223372036854775808)(hn:p=0→neg=true)(hr:r=S+p)(w:World)  :
  Calls Tryz.prog 93 #[.agg #[.int .i64 E,.int .i64 F],.int .i64 (-(p:Int)),.bool neg] w fun e w'=>e = .returned (.int .u64 (r:Int))∧Below w.heap.size w w':=by
 have hS1:=vQ h (aa HS);have e1:IntKind.u64.wrap ((S:Int)-IntKind.u64.wrap (-(p:Int)))=(r:Int):=by rw [IntKind.wrap_u64,IntKind.wrap_u64];omega
 by_cases hp0:p=0
 case pos=>
  subst hp0;rw [hn rfl];obtain rfl:r=S:=by omega
  have HS:=HS;clear hn e1 hr hp;rw [show (-((0:Nat):Int))=0 from rfl];go_enter Tryz.func93,Tryz.ntmps93
  go_wp2_with fail
  refine (dw _ _ _ h HS _).mono ?_;rintro e w1 ⟨rfl,hb1⟩;go_wp2
  go_ret
  exact ⟨rfl,((Fs.one w _ _).kept hb1).fr⟩
 have e2:(-(p:Int)<0):=by omega
 clear hn hp hr hp0;go_enter Tryz.func93,Tryz.ntmps93
 go_wp2_with fail
 refine (dw _ _ S h HS _).mono ?_;rintro e w1 ⟨rfl,hb1⟩;have hS:=(Fs.one w _ _).kept hb1;obtain ⟨⟨ya,yb,-⟩,-⟩:=hS.cells;go_wp2
 go_ret
 exact ⟨rfl,hS.fr⟩
end Go.Proofs.YtaidedkpfnidpaaGreatDoor
