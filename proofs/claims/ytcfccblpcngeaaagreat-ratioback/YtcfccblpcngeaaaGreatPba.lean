/- Of what RatioBackRow stands on: Sym5 Sym6 Sym7 SymJ Sym8 SymL PwSym. -/
import Derived.Test.YtcfccblpcngeaaaGreatPaz
import Derived.LoopN
namespace Go.Proofs.YtcfccblpcngeaaaGreat
open Go.RowKit
structure SymF (E:List Bx) (S:List Spo) (G:World→Prop) (w0:World) (base:Nat) (p:Pqs) (W:World):Prop where
 fr:Below w0.heap.size w0 W
 bs:base≤W.heap.size
 mem:∀ (j:Nat) (bx:Bx) (bo:Option Nat),boxOf E S p j = some (bx,bo)→W.heap[bx.b]? = some (.cells (cellsOf (fun _=>true) j 0 S bx.cs) bx.t (0,0))
 nb:∀ (k s:Nat) (cs:Array Value) (t:TypeId),S[k]? = some (.n s cs t)→base≤(p k).N
 ne:∀ (k s:Nat) (cs:Array Value) (t:TypeId) (k' s':Nat) (cs':Array Value) (t':TypeId),S[k]? = some (.n s cs t)→S[k']? = some (.n s' cs' t')→k≠k'→(p k).N≠(p k').N
 fx:∀ k,factOf S p k W
 gx:G W
structure SymB (ops:Array Oper) (n:Nat) (L:Ks) (E:List Bx) (S:Pqs→List Spo):Prop where
 shape:∀ p p',(S p).map Spo.bare = (S p').map Spo.bare
 apart:∀ p,Puts.apart (puts p 0 (S p)) = true
 len:∀ p,(S p).length = ops.size
 within:∀ p,Puts.within (puts p 0 (S p)) n = true
 back:backB ops = true
 reads:∀ p,readsOk ops L (puts p 0 (S p)) 0 ops.toList = true
 mem:∀ p,memOk ops E (S p) 0 (S p) = true
 eb:E.all (fun x=>!x.my || noLimb x.cs.toList && x.t != 25) = true
theorem any_sym {P:Program} {ops:Array Oper} {Q:Exit→Act→World→Prop} {T0:Array Value} {n:Nat} {L:Ks} {G:World→Prop} {w0:World} (S:Pqs→List Spo) {W:World} {E:List Bx} (hE:∀ x,x∈E→W.heap[x.b]? = some (.cells x.cs x.t (0,0))) (hfr:Below w0.heap.size w0 W) (hK:Kn T0 n L) (hB:SymB ops n L E S)
  (hlow:∀ x,x∈E→x.my = true→w0.heap.size≤x.b) (hne:∀ (j k:Nat) (x y:Bx),E[j]? = some x→E[k]? = some y→x.my = true→j≠k→x.b≠y.b)
  (hst:Sta G) (h0:G W)
  (hok:∀ p,Oks P ops L E (S p) G w0 W.heap.size p 0 (S p))
  (hfin:∀ p W',SymF E (S p) G w0 W.heap.size p W'→Q .normal ⟨Puts.lay (puts p 0 (S p)) T0,[]⟩ W') :
  wpAny P .any ops Q ops.size (Array.replicate ops.size false) ⟨T0,[]⟩ W:=by
 have hs:SymS ops T0 n L E S G w0 W.heap.size:=⟨hB.shape,hB.apart,hB.len,fun p=>by rw [hK.size]; exact hB.within p,hB.back,hB.reads,hK,hB.mem,hB.eb,hlow,hne,fun x hx=>block_lt (hE x hx),hfr.size,hst⟩
 refine wpAny_inv (fun l a w=>∃ p t,a = ⟨t,[]⟩∧SymI ops T0 E S G w0 W.heap.size p l t w) ?_ ?_ _ _ _ _ ?_ ⟨fun _=>pq0,T0,rfl,?_⟩
 ·rintro l a w i ⟨p,t,rfl,hI⟩ hi hl
  exact hI.step hs hok hi hl
 ·rintro l a w ⟨p,t,rfl,hI⟩ hr
  have hD:=hI.det p (Agr.refl l p)
  have hl:=all_up hD.len hB.back hr
  rw [hD.done (hB.apart p) (by rw [puts_len]; exact hB.len p) (by rw [hK.size]; exact hB.within p) hl]
  have hin:∀ k x,(S p)[k]? = some x→l[k]? = some true:=fun k x hk=>hl k (by
   rw [← hB.len p]; exact (List.getElem?_eq_some_iff.1 hk).1)
  refine hfin p w ⟨hI.fr,hI.bs,fun j bx bo hb=>?_,fun k s cs t hk=>hI.nb k s cs t hk (hin k _ hk),fun k s cs t k' s' cs' t' hk hk'=>hI.ne k s cs t k' s' cs' t' hk hk' (hin k _ hk) (hin k' _ hk'),fun k=>?_,hI.gx⟩
  ·rw [hI.mem p (Agr.refl l p) j bx bo hb (fun k hk=>?_)]
   ·congr 2
    refine cellsOf_agree _ _ _ (fun k off xs hk=>?_)
    rw [Nat.zero_add]; exact isUp_iff.2 (hin k _ hk)
   ·rcases boxOf_cases hb with ⟨-,-,h⟩|⟨-,s,cs,t,h,-,h2⟩
    ·rw [h] at hk; cases hk
    ·rw [h2] at hk; rw [← Option.some.inj hk]; exact hin _ _ h
  ·unfold factOf
   split
   ·rename_i s cf hk
    exact hI.fx k s cf hk (hin k _ hk)
   ·rename_i s' cs ty hk
    intro hnp
    have hb:boxOf E (S p) p (1000+k) = some (⟨(p k).N,cs,ty % 1000000,true⟩,some k):=by
     unfold boxOf
     rw [show Nat.blt (1000+k) 1000 = false from by cases h:Nat.blt (1000+k) 1000 with
      | false=>rfl
      | true=>rw [Nat.blt_eq] at h; omega]
     simp [hk]
    have h1:=hI.mem p (Agr.refl l p) (1000+k) _ (some k) hb (fun k' e=>by cases e; exact hin k _ hk)
    rw [cellsOf_none] at h1
    ·exact h1
    intro k' off xs hk'
    exact absurd hk' (noPut_no _ hnp _ _ _)
   ·trivial
 ·simp
 ·have hno:∀ k:Nat,(Array.replicate ops.size false)[k]?≠some true:=fun k h=>by
   rw [Array.getElem?_replicate] at h
   split at h <;> cases h
  have hup:isUp (Array.replicate ops.size false) = fun _=>false:=funext fun k=>isUp_no (hno k)
  refine ⟨fun p' _=>?_,fun p' _ j bx bo hb hal=>?_,hfr,Nat.le_refl _,fun k _ _ _ _ h=>absurd h (hno k),fun k _ _ _ _ _ _ _ _ _ h=>absurd h (hno k),fun k _ _ _ h=>absurd h (hno k),h0⟩
  ·constructor
   ·simp
   ·rfl
   ·intro k s v _ h; exact absurd h (hno k)
   ·intro s _; rfl
   ·intro k o h; exact absurd h (hno k)
  ·rcases boxOf_cases hb with ⟨-,hj,-⟩|⟨-,s,cs,t,-,-,h2⟩
   ·rw [hup,cellsOf_none _ _ _ (fun _ _ _ _=>rfl)]
    exact hE bx (List.mem_of_getElem? hj)
   ·exact absurd (hal _ h2) (hno _)
theorem ops_of_any {P:Program} {ops:Array Oper} {Q:Exit→Act→World→Prop} (hb:backB ops = true):∀ (k i:Nat),i+k = ops.size→∀ (l:Array Bool) (a:Act) (w:World),l.size = ops.size→(∀ j,j < ops.size→l[j]? = some (decide (j < i)))→wpAny P .any ops Q k l a w→wpOps P ops Q (List.range' i k) a w
 | 0,_,_,_,_,_,_,_,h=>by simpa [wpOps] using h.2
 | k+1,i,hn,l,a,w,hl,hd,h=>by
  rw [List.range'_succ,wpOps_cons]
  have hi:i < ops.size:=by omega
  obtain ⟨o,ho⟩:∃ o,ops[i]? = some o:=⟨ops[i],by simp [hi]⟩
  have hb':=List.all_eq_true.1 hb i (List.mem_range.2 hi)
  rw [ho] at hb'
  have hr:i∈Region.ready .any ops l:=mem_ready.2 ⟨by rw [Array.getD_eq_getD_getElem?,hd i hi]; simp,o,ho,fun e he hbe=>by
   have h1:=Array.all_eq_true'.1 hb' e he
   simp [hbe] at h1
   rw [Array.getD_eq_getD_getElem?,hd e.on (by omega)]; simp [h1]⟩
  refine wpOp_mono (fun a' w' h'=>ops_of_any hb k (i+1) (by omega) _ a' w' (by simpa using hl) (fun j hj=>?_) h') (h.2 i hr)
  by_cases hji:j = i
  ·subst hji
   rw [Array.getElem?_setIfInBounds_self_of_lt (by omega)]; simp
  ·rw [Array.getElem?_setIfInBounds_ne (Ne.symm hji),hd j hj]
   congr 1
   simp only [decide_eq_decide]; omega
theorem wp_sym {P:Program} {ops:Array Oper} {Q:Exit→Act→World→Prop} {T0:Array Value} {n:Nat} {L:Ks} {G:World→Prop} {w0:World} (S:Pqs→List Spo) {id:Nat} {d:Bool} {W:World} {E:List Bx} (hE:∀ x,x∈E→W.heap[x.b]? = some (.cells x.cs x.t (0,0))) (hfr:Below w0.heap.size w0 W) (hm:P.follows .mixedOrders = true) (hK:Kn T0 n L) (hB:SymB ops n L E S)
  (hlow:∀ x,x∈E→x.my = true→w0.heap.size≤x.b) (hne:∀ (j k:Nat) (x y:Bx),E[j]? = some x→E[k]? = some y→x.my = true→j≠k→x.b≠y.b)
  (hst:Sta G) (h0:G W)
  (hok:∀ p,Oks P ops L E (S p) G w0 W.heap.size p 0 (S p))
  (hfin:∀ p W',SymF E (S p) G w0 W.heap.size p W'→Q .normal ⟨Puts.lay (puts p 0 (S p)) T0,[]⟩ W') :
  (Code.region id ops d).wp P Q ⟨T0,[]⟩ W:=by
 cases d with
 | true=>exact wp_region_any hm (any_sym S (W:=W.drew) hE hfr.drew hK hB hlow hne hst (hst.kept W _ (Below.refl _ _).drew h0) hok hfin)
 | false=>
  refine wp_region ?_
  have:=ops_of_any hB.back ops.size 0 (by omega) _ _ _ (by simp) (fun j hj=>by rw [Array.getElem?_replicate]; simp [hj]) (any_sym S hE hfr hK hB hlow hne hst h0 hok hfin)
  rwa [← List.range_eq_range'] at this
theorem ok_nil {P:Program} {ops:Array Oper} {L:Ks} {E:List Bx} {S:List Spo} {G:World→Prop} {w0:World} {base:Nat} {p:Pqs} {i:Nat}:Oks P ops L E S G w0 base p i []:=trivial
theorem ok_v {P:Program} {ops:Array Oper} {L:Ks} {E:List Bx} {S:List Spo} {G:World→Prop} {w0:World} {base:Nat} {p:Pqs} {i:Nat} {r:List Spo} {s:Nat} {x:Value} (h:opRun P ops L (puts p 0 S) i 0 [] = some (some s,true,some (.value x,[]))) (t:Oks P ops L E S G w0 base p (i+1) r):Oks P ops L E S G w0 base p i (.v s x :: r):=⟨h,t⟩
theorem ok_vi {P:Program} {ops:Array Oper} {L:Ks} {E:List Bx} {S:List Spo} {G:World→Prop} {w0:World} {base:Nat} {p:Pqs} {i:Nat} {r:List Spo} {s:Nat} {k:IntKind} {x y:Int} (e:x = y) (h:opRun P ops L (puts p 0 S) i 0 [] = some (some s,true,some (.value (.int k x),[]))) (t:Oks P ops L E S G w0 base p (i+1) r):Oks P ops L E S G w0 base p i (.v s (.int k y) :: r):=⟨e▸h,t⟩
theorem ok_vb {P:Program} {ops:Array Oper} {L:Ks} {E:List Bx} {S:List Spo} {G:World→Prop} {w0:World} {base:Nat} {p:Pqs} {i:Nat} {r:List Spo} {s:Nat} {x y:Bool} (e:x = y) (h:opRun P ops L (puts p 0 S) i 0 [] = some (some s,true,some (.value (.bool x),[]))) (t:Oks P ops L E S G w0 base p (i+1) r):Oks P ops L E S G w0 base p i (.v s (.bool y) :: r):=⟨e▸h,t⟩
theorem ok_l {P:Program} {ops:Array Oper} {L:Ks} {E:List Bx} {S:List Spo} {G:World→Prop} {w0:World} {base:Nat} {p:Pqs} {i:Nat} {r:List Spo} {s j off:Nat} {x:Value} (bx:Bx) (bo:Option Nat) (hb:boxOf E S p j = some (bx,bo)) (h:opRun P ops L (puts p 0 S) i 0 x.cells.toList = some (some s,true,some (.value x,lds bx.b off x.cells.toList))) (hc:((cellsOf (fun k=>Nat.blt k i) j 0 S bx.cs).toList.drop off).take x.cells.size = x.cells.toList) (t:Oks P ops L E S G w0 base p (i+1) r):Oks P ops L E S G w0 base p i (.l s x j off :: r):=⟨⟨bx,bo,hb,h,hc⟩,t⟩
theorem ok_p {P:Program} {ops:Array Oper} {L:Ks} {E:List Bx} {S:List Spo} {G:World→Prop} {w0:World} {base:Nat} {p:Pqs} {i:Nat} {r:List Spo} {j off:Nat} {xs:List Value} (bx:Bx) (bo:Option Nat) (hb:boxOf E S p j = some (bx,bo)) (h:opRun P ops L (puts p 0 S) i 0 [] = some (none,true,some (.skip,sts bx.b off xs))) (hc:Nat.ble (off+xs.length) bx.cs.size = true) (t:Oks P ops L E S G w0 base p (i+1) r):Oks P ops L E S G w0 base p i (.p j off xs :: r):=⟨⟨bx,bo,hb,h,hc⟩,t⟩
theorem ok_n {P:Program} {ops:Array Oper} {L:Ks} {E:List Bx} {S:List Spo} {G:World→Prop} {w0:World} {base:Nat} {p:Pqs} {i:Nat} {r:List Spo} {s:Nat} {cs:Array Value} {ty:TypeId} (h:∀ q,opRun P ops L (puts p 0 S) i q [] = some (some s,true,some (.value (nv q ty),[.nw (.cells cs (ty % 1000000))]))) (t:Oks P ops L E S G w0 base p (i+1) r):Oks P ops L E S G w0 base p i (.n s cs ty :: r):=⟨h,t⟩
theorem ok_k {P:Program} {ops:Array Oper} {L:Ks} {E:List Bx} {S:List Spo} {G:World→Prop} {w0:World} {base:Nat} {p:Pqs} {i:Nat} {r:List Spo} {s:Option Nat} (x:Option (Next×List Ev)) (h:opRun P ops L (puts p 0 S) i 0 [] = some (s,false,x)) (t:Oks P ops L E S G w0 base p (i+1) r):Oks P ops L E S G w0 base p i (.k s :: r):=⟨⟨x,h⟩,t⟩
theorem ok_u {P:Program} {ops:Array Oper} {L:Ks} {E:List Bx} {S:List Spo} {G:World→Prop} {w0:World} {base:Nat} {p:Pqs} {i:Nat} {r:List Spo} {s:Nat} {x:Value} {g:Array Value→Value} {fn:FuncId} {args:Array Value} (hc:∀ W,Cx ops E S G w0 base p i W→Calls P fn args W fun en W'=>en = .returned x∧Below W.heap.size W W') (h:opRun P ops L (puts p 0 S) i 0 [] = some (some s,true,some (.enter fn args,[]))) (hx:g args = x) (t:Oks P ops L E S G w0 base p (i+1) r):Oks P ops L E S G w0 base p i (.u s x g :: r):=⟨⟨fn,args,h,hx,hc⟩,t⟩
theorem ok_g {P:Program} {ops:Array Oper} {L:Ks} {E:List Bx} {S:List Spo} {G:World→Prop} {w0:World} {base:Nat} {p:Pqs} {i:Nat} {r:List Spo} {s:Nat} {x:Value} {vs:List Value} {es:List Ev} (hc:∀ W,Cx ops E S G w0 base p i W→EvsOk 0 es W∧evs es W = W) (h:opRun P ops L (puts p 0 S) i 0 vs = some (some s,true,some (.value x,es))) (t:Oks P ops L E S G w0 base p (i+1) r):Oks P ops L E S G w0 base p i (.g s x vs es :: r):=⟨⟨h,hc⟩,t⟩
theorem ok_c {P:Program} {ops:Array Oper} {L:Ks} {E:List Bx} {S:List Spo} {G:World→Prop} {w0:World} {base:Nat} {p:Pqs} {i:Nat} {r:List Spo} {s:Option Nat} {f:Cf} {fn:FuncId} {args:Array Value} (hc:∀ W,Cx ops E S G w0 base p i W→Calls P fn args W fun en W'=>∃ q,en = .returned (f.f q)∧Below W.heap.size W W'∧f.g q W') (h:opRun P ops L (puts p 0 S) i 0 [] = some (s,true,some (.enter fn args,[]))) (t:Oks P ops L E S G w0 base p (i+1) r):Oks P ops L E S G w0 base p i (.c s f :: r):=⟨⟨fn,args,h,hc⟩,t⟩
theorem sta_true:Sta (fun _=>True):=⟨fun _ _ _ h=>h,fun _ _ _ _ _ _ _ _ _ h=>h⟩
theorem sta_and {f g:World→Prop} (hf:Sta f) (hg:Sta g):Sta (fun W=>f W∧g W):=⟨fun W W' hb h=>⟨hf.kept W W' hb h.1,hg.kept W W' hb h.2⟩,fun W b cs t j u h1 h2 h3 h=>⟨hf.put W b cs t j u h1 h2 h3 h.1,hg.put W b cs t j u h1 h2 h3 h.2⟩⟩
def cV (v:Value):Cf:=⟨fun _=>v,fun _ _=>True,fun _=>sta_true⟩
def cO (B m:Nat):Cf:=⟨fun q=>.tuple #[.agg #[.slice q.A q.N q.C],.int .i64 0],fun q W=>Mine W B q.A q.N q.C m,fun _=>sta_mine _ _ _ _ _⟩
def cN (B m:Nat):Cf:=⟨fun q=>.agg #[.slice q.A q.N q.C],fun q W=>Mine W B q.A q.N q.C m,fun _=>sta_mine _ _ _ _ _⟩
def cD (B m m':Nat):Cf:=⟨fun q=>.tuple #[.agg #[.slice q.A q.N q.C],.agg #[.slice q.A' q.N' q.C'],.int .i64 0],fun q W=>Mine W B q.A q.N q.C m∧Mine W B q.A' q.N' q.C' m',fun _=>sta_and (sta_mine _ _ _ _ _) (sta_mine _ _ _ _ _)⟩
theorem as_v {P:Program} {fn:FuncId} {args:Array Value} {W:World} {v:Value} (h:Calls P fn args W fun en W'=>en = .returned v∧Below W.heap.size W W'):Calls P fn args W fun en W'=>∃ q,en = .returned ((cV v).f q)∧Below W.heap.size W W'∧(cV v).g q W':=
 h.mono fun _ _ ⟨h1,h2⟩=>⟨pq0,h1,h2,trivial⟩
theorem as_o {P:Program} {fn:FuncId} {args:Array Value} {W:World} {B:Nat} {m:Nat} (hb:B≤W.heap.size) (h:Calls P fn args W fun en W'=>(∃ a n c,en = .returned (.tuple #[.agg #[.slice a n c],.int .i64 0])∧Mine W' W.heap.size a n c m)∧Below W.heap.size W W'):Calls P fn args W fun en W'=>∃ q,en = .returned ((cO B m).f q)∧Below W.heap.size W W'∧(cO B m).g q W':=
 h.mono fun _ _ ⟨⟨a,n,c,h1,h3⟩,h2⟩=>⟨{ pq0 with A:=a,N:=n,C:=c },h1,h2,h3.mono hb⟩
theorem as_n {P:Program} {fn:FuncId} {args:Array Value} {W:World} {B:Nat} {m:Nat} (hb:B≤W.heap.size) (h:Calls P fn args W fun en W'=>(∃ a n c,en = .returned (.agg #[.slice a n c])∧Mine W' W.heap.size a n c m)∧Below W.heap.size W W'):Calls P fn args W fun en W'=>∃ q,en = .returned ((cN B m).f q)∧Below W.heap.size W W'∧(cN B m).g q W':=
 h.mono fun _ _ ⟨⟨a,n,c,h1,h3⟩,h2⟩=>⟨{ pq0 with A:=a,N:=n,C:=c },h1,h2,h3.mono hb⟩
theorem as_d {P:Program} {fn:FuncId} {args:Array Value} {W:World} {B:Nat} {m:Nat} {m':Nat} (hb:B≤W.heap.size) (h:Calls P fn args W fun en W'=>(∃ a n c a' n' c',en = .returned (.tuple #[.agg #[.slice a n c],.agg #[.slice a' n' c'],.int .i64 0])∧Mine W' W.heap.size a n c m∧Mine W' W.heap.size a' n' c' m')∧Below W.heap.size W W'):Calls P fn args W fun en W'=>∃ q,en = .returned ((cD B m m').f q)∧Below W.heap.size W W'∧(cD B m m').g q W':=
 h.mono fun _ _ ⟨⟨a,n,c,a',n',c',h1,h3,h4⟩,h2⟩=>⟨{ pq0 with A:=a,N:=n,C:=c,A':=a',N':=n',C':=c' },h1,h2,h3.mono hb,h4.mono hb⟩
def cG (B m:Nat) (f:Value→Value):Cf:=⟨fun q=>f (.slice q.A q.N q.C),fun q W=>Mine W B q.A q.N q.C m,fun _=>sta_mine _ _ _ _ _⟩
def cH (B m m':Nat) (f:Value→Value→Value):Cf:=⟨fun q=>f (.slice q.A q.N q.C) (.slice q.A' q.N' q.C'),fun q W=>Mine W B q.A q.N q.C m∧Mine W B q.A' q.N' q.C' m',fun _=>sta_and (sta_mine _ _ _ _ _) (sta_mine _ _ _ _ _)⟩
theorem as_g {P:Program} {fn:FuncId} {args:Array Value} {W:World} {B m:Nat} {f:Value→Value} (hb:B≤W.heap.size) (h:Calls P fn args W fun en W'=>(∃ a n c,en = .returned (f (.slice a n c))∧Mine W' W.heap.size a n c m)∧Below W.heap.size W W'):Calls P fn args W fun en W'=>∃ q,en = .returned ((cG B m f).f q)∧Below W.heap.size W W'∧(cG B m f).g q W':=
 h.mono fun _ _ ⟨⟨a,n,c,h1,h3⟩,h2⟩=>⟨{ pq0 with A:=a,N:=n,C:=c },h1,h2,h3.mono hb⟩
theorem as_h {P:Program} {fn:FuncId} {args:Array Value} {W:World} {B m m':Nat} {f:Value→Value→Value} (hb:B≤W.heap.size) (h:Calls P fn args W fun en W'=>(∃ a n c a' n' c',en = .returned (f (.slice a n c) (.slice a' n' c'))∧Mine W' W.heap.size a n c m∧Mine W' W.heap.size a' n' c' m')∧Below W.heap.size W W'):Calls P fn args W fun en W'=>∃ q,en = .returned ((cH B m m' f).f q)∧Below W.heap.size W W'∧(cH B m m' f).g q W':=
 h.mono fun _ _ ⟨⟨a,n,c,a',n',c',h1,h3,h4⟩,h2⟩=>⟨{ pq0 with A:=a,N:=n,C:=c,A':=a',N':=n',C':=c' },h1,h2,h3.mono hb,h4.mono hb⟩
structure Gf where
 f:World→Prop
 st:Sta f
def GsAt:List Gf→World→Prop
 | [],_=>True
 | g :: r,W=>g.f W∧GsAt r W
theorem gs_sta:∀ (gs:List Gf),Sta (GsAt gs)
 | []=>sta_true
 | g :: r=>sta_and g.st (gs_sta r)
def gN (a:Option Addr) (n m:Nat):Gf:=⟨fun W=>Num W a n m,sta_num a n m⟩
theorem sta_limb (b j:Nat) (z:Int):Sta (fun W=>W.cell? ⟨b,j,none⟩ = some (.int .u32 z)):=⟨fun W W' hb h=>(hb.cell (p:=⟨b,j,none⟩) (World.block_lt_of_cell? W ⟨b,j,none⟩ h)).trans h,fun W b' cs t k u hh _ hl h=>by
 have hne:b≠b':=by
  rintro rfl
  rw [cell_of_row W b j _ _ _ hh] at h
  exact hl _ (Array.mem_def.1 (Array.mem_of_getElem? h)) _ rfl
 rw [World.cell?_of_block (w:=W) (heap_setCell_other W _ b u hne)]; exact h⟩
def gL (b j:Nat) (z:Int):Gf:=⟨fun W=>W.cell? ⟨b,j,none⟩ = some (.int .u32 z),sta_limb b j z⟩
def gM (B:Nat) (a:Option Addr) (n c m:Nat):Gf:=⟨fun W=>Mine W B a n c m,sta_mine B a n c m⟩
def NeX (x:Bx):List Bx→Prop
 | []=>True
 | y :: r=>((x.my || y.my) = true→x.b≠y.b)∧NeX x r
def NeL:List Bx→Prop
 | []=>True
 | x :: r=>NeX x r∧NeL r
def LowL (w0:World):List Bx→Prop
 | []=>True
 | x :: r=>(x.my = true→w0.heap.size≤x.b)∧LowL w0 r
theorem LowL.of {w0:World}:∀ {E:List Bx},LowL w0 E→∀ x,x∈E→x.my = true→w0.heap.size≤x.b
 | [],_,_,h,_=>by simp at h
 | y :: r,h,x,hx,hm=>by
  rcases List.mem_cons.1 hx with rfl|hx
  ·exact h.1 hm
  ·exact LowL.of h.2 x hx hm
theorem NeX.of {x:Bx}:∀ {E:List Bx},NeX x E→∀ y,y∈E→(x.my = true∨y.my = true)→x.b≠y.b
 | [],_,_,h,_=>by simp at h
 | z :: r,h,y,hy,hm=>by
  rcases List.mem_cons.1 hy with rfl|hy
  ·exact h.1 (by simpa using hm)
  ·exact NeX.of h.2 y hy hm
theorem NeL.of:∀ {E:List Bx},NeL E→∀ (j k:Nat) (x y:Bx),E[j]? = some x→E[k]? = some y→x.my = true→j≠k→x.b≠y.b
 | [],_,_,_,_,_,h,_,_,_=>by simp at h
 | z :: r,h,0,0,x,y,hx,hy,hm,hne=>absurd rfl hne
 | z :: r,h,0,k+1,x,y,hx,hy,hm,hne=>by
  simp only [List.getElem?_cons_zero,Option.some.injEq] at hx
  subst hx
  exact h.1.of y (List.mem_of_getElem? (by simpa using hy)) (Or.inl hm)
 | z :: r,h,j+1,0,x,y,hx,hy,hm,hne=>by
  simp only [List.getElem?_cons_zero,Option.some.injEq] at hy
  subst hy
  exact Ne.symm (h.1.of x (List.mem_of_getElem? (by simpa using hx)) (Or.inr hm))
 | z :: r,h,j+1,k+1,x,y,hx,hy,hm,hne=>NeL.of h.2 j k x y (by simpa using hx) (by simpa using hy) hm (by omega)
structure Fb (w0 W:World) (E:List Bx):Prop where
 bx:∀ x,x∈E→W.heap[x.b]? = some (.cells x.cs x.t (0,0))
 fr:Below w0.heap.size w0 W
 low:LowL w0 E
 ne:NeL E
theorem Fb.begin (w:World):Fb w w []:=⟨(fun _ h=>nomatch h),Below.refl _ _,trivial,trivial⟩
theorem Fb.other {w:World} {b:Nat} {cs:Array Value} {t:TypeId} (h:w.heap[b]? = some (.cells cs t (0,0))):Fb w w [⟨b,cs,t,false⟩]:=⟨fun x hx=>by rw [List.mem_singleton.1 hx]; exact h,Below.refl _ _,⟨(fun h=>absurd h (by simp)),trivial⟩,⟨trivial,trivial⟩⟩
theorem Fb.kept {w0 W W':World} {E:List Bx} (h:Fb w0 W E) (hb:Below W.heap.size W W'):Fb w0 W' E:=⟨fun x hx=>by rw [hb.block _ (block_lt (h.bx x hx))]; exact h.bx x hx,gr_trans h.fr hb,h.low,h.ne⟩
theorem NeL.sym {E:List Bx} (h:NeL E) (j k:Nat) (x y:Bx) (hx:E[j]? = some x) (hy:E[k]? = some y) (hm:x.my = true∨y.my = true) (hne:j≠k):x.b≠y.b:=by
 rcases hm with hm|hm
 ·exact h.of j k x y hx hy hm hne
 ·exact Ne.symm (h.of k j y x hy hx hm (Ne.symm hne))
def finBx (E:List Bx) (S:List Spo) (p:Pqs):List Nat→List Bx
 | []=>[]
 | j :: r=>match boxOf E S p j with
  | some (bx,_)=>⟨bx.b,cellsOf (fun _=>true) j 0 S bx.cs,bx.t,bx.my⟩ :: finBx E S p r
  | none=>finBx E S p r
def nodupB:List Nat→Bool
 | []=>true
 | j :: r=>r.all (· != j) && nodupB r
theorem finBx_mem {E:List Bx} {S:List Spo} {p:Pqs}:∀ {js:List Nat} {x:Bx},x∈finBx E S p js→∃ j bx bo,j∈js∧boxOf E S p j = some (bx,bo)∧x = ⟨bx.b,cellsOf (fun _=>true) j 0 S bx.cs,bx.t,bx.my⟩
 | [],_,h=>by simp [finBx] at h
 | j :: r,x,h=>by
  unfold finBx at h
  split at h
  ·rename_i bx bo hb
   rcases List.mem_cons.1 h with rfl|h
   ·exact ⟨j,bx,bo,List.mem_cons_self ..,hb,rfl⟩
   ·obtain ⟨j',bx',bo',h1,h2⟩:=finBx_mem h
    exact ⟨j',bx',bo',List.mem_cons_of_mem _ h1,h2⟩
  ·obtain ⟨j',bx',bo',h1,h2⟩:=finBx_mem h
   exact ⟨j',bx',bo',List.mem_cons_of_mem _ h1,h2⟩
theorem SymF.fb {E:List Bx} {S:List Spo} {G:World→Prop} {w0 W0:World} {p:Pqs} {W:World} (hS:Fb w0 W0 E) (h:SymF E S G w0 W0.heap.size p W) (js:List Nat) (E1:List Bx) (e:finBx E S p js = E1) (nd:nodupB js = true):Fb w0 W E1:=by
 subst e
 have hap:∀ j bx bo j' bx' bo',boxOf E S p j = some (bx,bo)→boxOf E S p j' = some (bx',bo')→j≠j'→(bx.my = true∨bx'.my = true)→bx.b≠bx'.b:=fun j bx bo j' bx' bo' hb hb' hne hm=>by
  rcases boxOf_cases hb with ⟨q1,q2,q3⟩|⟨q1,s1,cs1,t1,q2,q3,q4⟩
  ·rcases boxOf_cases hb' with ⟨r1,r2,r3⟩|⟨r1,s2,cs2,t2,r2,r3,r4⟩
   ·exact hS.ne.sym j j' bx bx' q2 r2 hm hne
   ·have h1:=block_lt (hS.bx bx (List.mem_of_getElem? q2))
    have h2:=h.nb _ _ _ _ r2
    rw [r3]; show bx.b≠(p (j' - 1000)).N; omega
  ·rcases boxOf_cases hb' with ⟨r1,r2,r3⟩|⟨r1,s2,cs2,t2,r2,r3,r4⟩
   ·have h1:=block_lt (hS.bx bx' (List.mem_of_getElem? r2))
    have h2:=h.nb _ _ _ _ q2
    rw [q3]; show (p (j - 1000)).N≠bx'.b; omega
   ·rw [q3,r3]
    refine h.ne _ _ _ _ _ _ _ _ q2 r2 (fun e=>hne ?_)
    have a1:¬ j < 1000:=fun hc=>by rw [show Nat.blt j 1000 = true from by rw [Nat.blt_eq]; exact hc] at q1; cases q1
    have a2:¬ j' < 1000:=fun hc=>by rw [show Nat.blt j' 1000 = true from by rw [Nat.blt_eq]; exact hc] at r1; cases r1
    omega
 refine ⟨fun x hx=>?_,h.fr,?_,?_⟩
 ·obtain ⟨j,bx,bo,-,hb,rfl⟩:=finBx_mem hx
  exact h.mem j bx bo hb
 ·clear nd
  induction js with
  | nil=>trivial
  | cons j r ih=>
   unfold finBx
   split
   ·rename_i bx bo hb
    refine ⟨fun hm=>?_,ih⟩
    show w0.heap.size≤bx.b
    rcases boxOf_cases hb with ⟨q1,q2,q3⟩|⟨q1,s1,cs1,t1,q2,q3,q4⟩
    ·exact hS.low.of bx (List.mem_of_getElem? q2) hm
    ·rw [q3]; exact Nat.le_trans hS.fr.size (h.nb _ _ _ _ q2)
   ·exact ih
 ·induction js with
  | nil=>trivial
  | cons j r ih=>
   simp only [nodupB,Bool.and_eq_true] at nd
   unfold finBx
   split
   ·rename_i bx bo hb
    refine ⟨?_,ih nd.2⟩
    have hall:∀ y,y∈finBx E S p r→(bx.my = true∨y.my = true)→bx.b≠y.b:=fun y hy hm=>by
     obtain ⟨j',bx',bo',hj',hb',rfl⟩:=finBx_mem hy
     refine hap j bx bo j' bx' bo' hb hb' ?_ hm
     have:=List.all_eq_true.1 nd.1 j' hj'
     simp only [bne_iff_ne] at this
     exact Ne.symm this
    revert hall
    generalize finBx E S p r = l
    intro hall
    induction l with
    | nil=>trivial
    | cons y l ih2=>exact ⟨fun hm=>hall y (List.mem_cons_self ..) (by simpa using hm),ih2 fun z hz=>hall z (List.mem_cons_of_mem _ hz)⟩
   ·exact ih nd.2
def symB (ops:Array Oper) (n:Nat) (L:Ks) (E:List Bx) (S:List Spo) (p:Pqs) (L1:Ks):Bool:=
 Puts.apart (puts p 0 S) && Nat.beq S.length ops.size && Puts.within (puts p 0 S) n && backB ops && readsOk ops L (puts p 0 S) 0 ops.toList && memOk ops E S 0 S && E.all (fun x=>!x.my || noLimb x.cs.toList && x.t != 25) && L1.all (fun x=>earlyB x.1 S.length (puts p 0 S) || inK L x.1)
theorem kn_out {T0:Array Value} {n:Nat} {L:Ks} {ds:Puts} (hK:Kn T0 n L) (ha:Puts.apart ds = true) (hw:Puts.within ds n = true) (L1:Ks) (hin:L1.all (fun x=>earlyB x.1 ds.length ds || inK L x.1) = true) (he:L1.map (fun x=>slotAt L x.1 ds.length ds) = L1.map (·.2)):Kn (Puts.lay ds T0) n L1:=by
 refine ⟨by rw [Puts.lay_size]; exact hK.size,fun x hx=>?_⟩
 have h1:=List.all_eq_true.1 hin x hx
 have h2:slotAt L x.1 ds.length ds = x.2:=by
  obtain ⟨k,hk,he2⟩:=List.getElem_of_mem hx
  have:=congrArg (fun l=>l[k]?) he
  simp only [List.getElem?_map,List.getElem?_eq_getElem hk,he2,Option.map_some,Option.some.injEq] at this
  exact this
 rw [← h2]
 by_cases hw9:∃ (k:Nat) (v:Value),ds[k]? = some (some (x.1,v))
 ·obtain ⟨k,v,hk⟩:=hw9
  have hlt:k < ds.length:=(List.getElem?_eq_some_iff.1 hk).1
  rw [slotAt_on ds _ k v ha hk hlt]
  exact Puts.lay_at ds ha T0 k x.1 v hk (by rw [hK.size]; simpa using List.all_eq_true.1 hw _ (List.mem_of_getElem? hk))
 ·rw [slotAt_off ds _ (fun k v hk=>absurd ⟨k,v,hk⟩ hw9)]
  have hf:Puts.free ds x.1 = true:=by
   unfold Puts.free
   rw [List.all_eq_true]
   intro d hd
   obtain ⟨k,hk⟩:=List.getElem?_of_mem hd
   cases d with
   | none=>rfl
   | some d=>
    obtain ⟨s,v⟩:=d
    simp only [bne_iff_ne]
    rintro rfl
    exact hw9 ⟨k,v,hk⟩
  rw [Puts.lay_free ds x.1 hf]
  refine hK.look ?_
  simp only [Bool.or_eq_true] at h1
  rcases h1 with h|h
  ·obtain ⟨k,v,-,hk⟩:=early_of h
   exact absurd ⟨k,v,hk⟩ hw9
  ·exact h
theorem wp_symG {P:Program} {ops:Array Oper} {Q:Exit→Act→World→Prop} {T0:Array Value} {n:Nat} {L:Ks} {w0:World} {gs:List Gf} {id:Nat} {d:Bool} {W:World} {E:List Bx} (hS:Fb w0 W E) (hG:GsAt gs W) (hK:Kn T0 n L) (S:Pqs→List Spo) (L1:Pqs→Ks) (hm:P.follows .mixedOrders = true) (hsh:∀ p p',(S p).map Spo.bare = (S p').map Spo.bare) (hB:∀ p,symB ops n L E (S p) p (L1 p) = true) (hL:∀ p,(L1 p).map (fun x=>slotAt L x.1 (S p).length (puts p 0 (S p))) = (L1 p).map (·.2))
  (hok:∀ p,Oks P ops L E (S p) (GsAt gs) w0 W.heap.size p 0 (S p))
  (hfin:∀ p W' T1,SymF E (S p) (GsAt gs) w0 W.heap.size p W'→Kn T1 n (L1 p)→Q .normal ⟨T1,[]⟩ W') :
  (Code.region id ops d).wp P Q ⟨T0,[]⟩ W:=by
 have hB':∀ p,_:=fun p=>by
  have:=hB p
  simp only [symB,Bool.and_eq_true] at this
  exact this
 refine wp_sym S hS.bx hS.fr hm hK ⟨hsh,fun p=>(hB' p).1.1.1.1.1.1.1,fun p=>Nat.eq_of_beq_eq_true (hB' p).1.1.1.1.1.1.2,fun p=>(hB' p).1.1.1.1.1.2,(hB' fun _=>pq0).1.1.1.1.2,fun p=>(hB' p).1.1.1.2,fun p=>(hB' p).1.1.2,(hB' fun _=>pq0).1.2⟩ hS.low.of hS.ne.of (gs_sta gs) hG hok (fun p W' hF=>hfin p W' _ hF ?_)
 exact kn_out hK (hB' p).1.1.1.1.1.1.1 (hB' p).1.1.1.1.1.2 _ (by rw [puts_len]; exact (hB' p).2) (by rw [puts_len]; exact hL p)
def argK:Nat→List Value→Ks
 | _,[]=>[]
 | i,v :: r=>(i,v) :: argK (i+1) r
theorem argK_at:∀ (vs:List Value) (i:Nat) (x:Nat×Value),x∈argK i vs→∃ k,x.1 = i+k∧vs[k]? = some x.2
 | [],_,_,h=>by simp [argK] at h
 | v :: r,i,x,h=>by
  rcases List.mem_cons.1 h with rfl|h
  ·exact ⟨0,rfl,rfl⟩
  ·obtain ⟨k,h1,h2⟩:=argK_at r (i+1) x h
   exact ⟨k+1,by omega,by simpa using h2⟩
theorem calls_sym {P:Program} {f:FuncId} {fn:Func} {c:Code} {args:Array Value} {w:World} {R:Ending→World→Prop} (hf:P.funcs[f]? = some fn) (hb:fn.body = some c) (hn:Nat.ble args.size fn.ntmps = true)
  (h:∀ T,Kn T fn.ntmps (argK 0 args.toList)→c.wp P (bodyPost P fn R) ⟨T,[]⟩ w):Calls P f args w R:=by
 refine calls_of_wp hf hb (h _ ⟨?_,fun x hx=>?_⟩)
 ·have:=Nat.le_of_ble_eq_true hn
  simp; omega
 ·obtain ⟨k,h1,h2⟩:=argK_at _ _ x hx
  rw [Nat.zero_add] at h1
  rw [h1]
  have h3:args[k]? = some x.2:=by simpa using h2
  obtain ⟨hlt,-⟩:=Array.getElem?_eq_some_iff.1 h3
  rw [Array.getElem?_append_left hlt]; exact h3
theorem Kn.ev {T:Array Value} {n:Nat} {L:Ks} (h:Kn T n L) (s:Nat) (hi:inK L s = true) (v:Value) (hv:lookK L s = v):Act.eval ⟨T,[]⟩ (.tmp s) = v:=by
 show T.getD s undef = v
 rw [Array.getD_eq_getD_getElem?,h.look hi,hv]; rfl
def resK (fn:Func) (L:Ks):Sem Value:=do
 let vs ← fn.results.mapM fun
  | .tmp t=>pure (lookK L t)
  | .cell a t=>do loadVar t (← asAddr (lookK L a))
 pure (if h:vs.size = 1 then vs[0] else .tuple vs)
def resSlot:ResultVar→Nat
 | .tmp t=>t
 | .cell a _=>a
def rdEv (bs:List Bx):List (Nat×Nat×Nat)→List Ev
 | []=>[]
 | (j,off,k) :: r=>(match bs[j]? with
  | some x=>lds x.b off ((x.cs.toList.drop off).take k)
  | none=>[]) ++ rdEv bs r
theorem evs_app:∀ (es fs:List Ev) (W:World),EvsOk 0 es W→evs es W = W→EvsOk 0 fs W→evs fs W = W→EvsOk 0 (es ++ fs) W∧evs (es ++ fs) W = W:=by
 intro es fs W h1 h2 h3 h4
 have h5:∀ (es:List Ev) (V:World),EvsOk 0 es V→(EvsOk 0 (es ++ fs) V↔EvsOk 0 fs (evs es V))∧evs (es ++ fs) V = evs fs (evs es V):=by
  intro es
  induction es with
  | nil=>intro V _; exact ⟨Iff.rfl,rfl⟩
  | cons e r ih=>
   intro V h
   cases e with
   | ld a v=>obtain ⟨g1,g2⟩:=ih V h.2; exact ⟨⟨fun q=>g1.1 q.2,fun q=>⟨h.1,g1.2 q⟩⟩,g2⟩
   | st a v=>obtain ⟨g1,g2⟩:=ih _ h.2.2.2; exact ⟨⟨fun q=>g1.1 q.2.2.2,fun q=>⟨h.1,h.2.1,h.2.2.1,g1.2 q⟩⟩,g2⟩
   | nw o=>obtain ⟨g1,g2⟩:=ih _ h.2; exact ⟨⟨fun q=>g1.1 q.2,fun q=>⟨h.1,g1.2 q⟩⟩,g2⟩
 obtain ⟨g1,g2⟩:=h5 es W h1
 rw [h2] at g1 g2
 exact ⟨g1.2 h3,by rw [g2]; exact h4⟩
theorem rd_ok {w0 W:World} {bs:List Bx} (hS:Fb w0 W bs):∀ (js:List (Nat×Nat×Nat)),EvsOk 0 (rdEv bs js) W∧evs (rdEv bs js) W = W
 | []=>⟨trivial,rfl⟩
 | (j,off,k) :: r=>by
  obtain ⟨h1,h2⟩:=rd_ok hS r
  unfold rdEv
  cases hj:bs[j]? with
  | none=>exact ⟨h1,h2⟩
  | some x=>
   obtain ⟨g1,g2⟩:=lds_ok (hS.bx x (List.mem_of_getElem? hj)) ((x.cs.toList.drop off).take k) off (by
    rw [List.length_take,List.take_eq_take_iff]; simp)
   exact evs_app _ _ W g1 g2 h1 h2
theorem res_eq {fn:Func} {T:Array Value} {n:Nat} {L:Ks} (hK:Kn T n L) (hin:fn.results.toList.all (fun r=>inK L (resSlot r)) = true):results fn T = resK fn L:=by
 have:∀ r,r∈fn.results→T.getD (resSlot r) undef = lookK L (resSlot r):=fun r hr=>by
  have:=List.all_eq_true.1 hin r (by simpa using hr)
  rw [Array.getD_eq_getD_getElem?,hK.look this]; rfl
 have hc:∀ (f g:ResultVar→Sem Value) (l:List ResultVar),(∀ r,r∈l→f r = g r)→l.mapM f = l.mapM g:=by
  intro f g l
  induction l with
  | nil=>intro _; rfl
  | cons r l ih=>intro h; rw [List.mapM_cons,List.mapM_cons,h r (List.mem_cons_self ..),ih fun r' hr'=>h r' (List.mem_cons_of_mem _ hr')]
 unfold results resK
 rw [Array.mapM_eq_mapM_toList,Array.mapM_eq_mapM_toList]
 congr 2
 refine hc _ _ _ fun r hr=>?_
 have h:=this r (by simpa using hr)
 cases r with
 | tmp t=>simp only [resSlot] at h; simp only [h]
 | cell a t=>simp only [resSlot] at h; simp only [h]
theorem sym_end {P:Program} {fn:Func} {R:Ending→World→Prop} {T:Array Value} {n:Nat} {L:Ks} {w0 W:World} {bs:List Bx} (hS:Fb w0 W bs) (hK:Kn T n L) (v:Value) (js:List (Nat×Nat×Nat)) (vs:List Value) (hin:fn.results.toList.all (fun r=>inK L (resSlot r)) = true) (hr:script P 0 (resK fn L) vs = some (v,rdEv bs js)) (h:R (.returned v) W):bodyPost P fn R .ret ⟨T,[]⟩ W:=by
 refine bodyPost_ret (v:=v) ?_ rfl h
 show (results fn T).run P W = _
 rw [res_eq hK hin]
 obtain ⟨h1,h2⟩:=rd_ok hS js
 have:=script_run P 0 _ _ _ _ W hr h1
 rw [h2] at this; exact this
def blkOf (E:List Bx) (S:List Spo) (p:Pqs) (j:Nat):Nat:=match boxOf E S p j with
 | some (bx,_)=>bx.b
 | none=>0
def csOf (E:List Bx) (S:List Spo) (p:Pqs) (j:Nat):Array Value:=match boxOf E S p j with
 | some (bx,_)=>bx.cs
 | none=>#[]
theorem ok_L {P:Program} {ops:Array Oper} {L:Ks} {E:List Bx} {S:List Spo} {G:World→Prop} {w0:World} {base:Nat} {p:Pqs} {i:Nat} {r:List Spo} {s j off:Nat} {x:Value} (hb:(boxOf E S p j).isSome = true) (h:opRun P ops L (puts p 0 S) i 0 x.cells.toList = some (some s,true,some (.value x,lds (blkOf E S p j) off x.cells.toList))) (hc:((cellsOf (fun k=>Nat.blt k i) j 0 S (csOf E S p j)).toList.drop off).take x.cells.size = x.cells.toList) (t:Oks P ops L E S G w0 base p (i+1) r):Oks P ops L E S G w0 base p i (.l s x j off :: r):=by
 obtain ⟨⟨bx,bo⟩,hbx⟩:=Option.isSome_iff_exists.1 hb
 unfold blkOf at h; unfold csOf at hc
 rw [hbx] at h hc
 exact ok_l bx bo hbx h hc t
theorem ok_P {P:Program} {ops:Array Oper} {L:Ks} {E:List Bx} {S:List Spo} {G:World→Prop} {w0:World} {base:Nat} {p:Pqs} {i:Nat} {r:List Spo} {j off:Nat} {xs:List Value} (hb:(boxOf E S p j).isSome = true) (h:opRun P ops L (puts p 0 S) i 0 [] = some (none,true,some (.skip,sts (blkOf E S p j) off xs))) (hc:Nat.ble (off+xs.length) (csOf E S p j).size = true) (t:Oks P ops L E S G w0 base p (i+1) r):Oks P ops L E S G w0 base p i (.p j off xs :: r):=by
 obtain ⟨⟨bx,bo⟩,hbx⟩:=Option.isSome_iff_exists.1 hb
 unfold blkOf at h; unfold csOf at hc
 rw [hbx] at h hc
 exact ok_p bx bo hbx h hc t
theorem ok_K {P:Program} {ops:Array Oper} {L:Ks} {E:List Bx} {S:List Spo} {G:World→Prop} {w0:World} {base:Nat} {p:Pqs} {i:Nat} {r:List Spo} {s:Option Nat} (h:(match opRun P ops L (puts p 0 S) i 0 [] with
  | some (a,b,_)=>some (a,b)
  | none=>none) = some (s,false)) (t:Oks P ops L E S G w0 base p (i+1) r):Oks P ops L E S G w0 base p i (.k s :: r):=by
 split at h
 ·rename_i a b c hx
  simp only [Option.some.injEq,Prod.mk.injEq] at h
  obtain ⟨rfl,rfl⟩:=h
  exact ok_k c hx t
 ·cases h
def aG (k:Nat) (a:Array Value):Value:=a.getD k undef
def aH (j k:Nat) (a:Array Value):Value:=.tuple #[a.getD j undef,a.getD k undef]
theorem then_n {next:Act→World→Prop} {Q:Exit→Act→World→Prop} {a:Act} {w:World} (h:next a w):Exit.then next Q .normal a w:=h
theorem then_r {next:Act→World→Prop} {Q:Exit→Act→World→Prop} {a:Act} {w:World} (h:Q .ret a w):Exit.then next Q .ret a w:=h
theorem rounds_s {P:Program} {c:Code} {Q:Exit→Act→World→Prop} {n:Nat} {a:Act} {w:World} (h:c.wp P (Exit.then (Code.rounds P c Q n) Q) a w):Code.rounds P c Q (n+1) a w:=h
theorem then_x {next:Act→World→Prop} {Q:Exit→Act→World→Prop} {id:Nat} {a:Act} {w:World} (h:Q (.exit id) a w):Exit.then next Q (.exit id) a w:=h
theorem inb_n {Q:Exit→Act→World→Prop} {id:Nat} {a:Act} {w:World} (h:Q .normal a w):Exit.inBlock id Q .normal a w:=h
theorem inb_x {Q:Exit→Act→World→Prop} {id:Nat} {a:Act} {w:World} (h:Q .normal a w):Exit.inBlock id Q (.exit id) a w:=by simp [Exit.inBlock]; exact h
theorem wp_symQ {P:Program} {ops:Array Oper} {y:Code} {Q:Exit→Act→World→Prop} {T0:Array Value} {n:Nat} {L:Ks} {w0:World} {gs:List Gf} {id:Nat} {d:Bool} {W:World} {E:List Bx} (hS:Fb w0 W E) (hG:GsAt gs W) (hK:Kn T0 n L) (S:Pqs→List Spo) (L1:Pqs→Ks) (hm:P.follows .mixedOrders = true) (hsh:∀ p p',(S p).map Spo.bare = (S p').map Spo.bare) (hB:∀ p,symB ops n L E (S p) p (L1 p) = true) (hL:∀ p,(L1 p).map (fun x=>slotAt L x.1 (S p).length (puts p 0 (S p))) = (L1 p).map (·.2))
  (hok:∀ p,Oks P ops L E (S p) (GsAt gs) w0 W.heap.size p 0 (S p))
  (hfin:∀ p W' T1,SymF E (S p) (GsAt gs) w0 W.heap.size p W'→Kn T1 n (L1 p)→y.wp P Q ⟨T1,[]⟩ W') :
  (Code.seq (Code.region id ops d) y).wp P Q ⟨T0,[]⟩ W:=wp_seq (wp_symG hS hG hK S L1 hm hsh hB hL hok hfin)
def allBx:Nat→List Bx→List Nat
 | _,[]=>[]
 | i,_ :: r=>i :: allBx (i+1) r
@[reducible] def pT (b k:Nat):Value:=.pointer (some ⟨b,k,none⟩)
theorem wq {P:Program} {ops:Array Oper} {Q:Exit→Act→World→Prop} {T0:Array Value} {n:Nat} {L:Ks} {w0:World} {gs:List Gf} {id:Nat} {d:Bool} {W:World} {E:List Bx} {y:Code} (hS:Fb w0 W E) (hG:GsAt gs W) (hK:Kn T0 n L) (S:Pqs→List Spo) (L1:Pqs→Ks) (hok:∀ p,Oks P ops L E (S p) (GsAt gs) w0 W.heap.size p 0 (S p)) (hfin:∀ p W' T1,SymF E (S p) (GsAt gs) w0 W.heap.size p W'→Kn T1 n (L1 p)→y.wp P Q ⟨T1,[]⟩ W') (hm:P.follows .mixedOrders = true:=by kernel_rfl) (hsh:∀ p p',(S p).map Spo.bare = (S p').map Spo.bare:=by intro _ _; kernel_rfl) (hB:∀ p,symB ops n L E (S p) p (L1 p) = true:=by intro _; kernel_rfl) (hL:∀ p,(L1 p).map (fun x=>slotAt L x.1 (S p).length (puts p 0 (S p))) = (L1 p).map (·.2):=by intro _; kernel_rfl):(Code.seq (Code.region id ops d) y).wp P Q ⟨T0,[]⟩ W:=wp_symQ hS hG hK S L1 hm hsh hB hL hok hfin
theorem wg {P:Program} {ops:Array Oper} {Q:Exit→Act→World→Prop} {T0:Array Value} {n:Nat} {L:Ks} {w0:World} {gs:List Gf} {id:Nat} {d:Bool} {W:World} {E:List Bx} (hS:Fb w0 W E) (hG:GsAt gs W) (hK:Kn T0 n L) (S:Pqs→List Spo) (L1:Pqs→Ks) (hok:∀ p,Oks P ops L E (S p) (GsAt gs) w0 W.heap.size p 0 (S p)) (hfin:∀ p W' T1,SymF E (S p) (GsAt gs) w0 W.heap.size p W'→Kn T1 n (L1 p)→Q .normal ⟨T1,[]⟩ W') (hm:P.follows .mixedOrders = true:=by kernel_rfl) (hsh:∀ p p',(S p).map Spo.bare = (S p').map Spo.bare:=by intro _ _; kernel_rfl) (hB:∀ p,symB ops n L E (S p) p (L1 p) = true:=by intro _; kernel_rfl) (hL:∀ p,(L1 p).map (fun x=>slotAt L x.1 (S p).length (puts p 0 (S p))) = (L1 p).map (·.2):=by intro _; kernel_rfl):(Code.region id ops d).wp P Q ⟨T0,[]⟩ W:=wp_symG hS hG hK S L1 hm hsh hB hL hok hfin
theorem okv {P:Program} {ops:Array Oper} {L:Ks} {E:List Bx} {S:List Spo} {G:World→Prop} {w0:World} {base:Nat} {p:Pqs} {i:Nat} {r:List Spo} {s:Nat} {x:Value} (t:Oks P ops L E S G w0 base p (i+1) r) (h:opRun P ops L (puts p 0 S) i 0 [] = some (some s,true,some (.value x,[])):=by kernel_rfl):Oks P ops L E S G w0 base p i (.v s x :: r):=ok_v h t
theorem okvi {P:Program} {ops:Array Oper} {L:Ks} {E:List Bx} {S:List Spo} {G:World→Prop} {w0:World} {base:Nat} {p:Pqs} {i:Nat} {r:List Spo} {s:Nat} {k:IntKind} {x y:Int} (e:x = y) (t:Oks P ops L E S G w0 base p (i+1) r) (h:opRun P ops L (puts p 0 S) i 0 [] = some (some s,true,some (.value (.int k x),[])):=by kernel_rfl):Oks P ops L E S G w0 base p i (.v s (.int k y) :: r):=ok_vi e h t
theorem okvb {P:Program} {ops:Array Oper} {L:Ks} {E:List Bx} {S:List Spo} {G:World→Prop} {w0:World} {base:Nat} {p:Pqs} {i:Nat} {r:List Spo} {s:Nat} {x y:Bool} (e:x = y) (t:Oks P ops L E S G w0 base p (i+1) r) (h:opRun P ops L (puts p 0 S) i 0 [] = some (some s,true,some (.value (.bool x),[])):=by kernel_rfl):Oks P ops L E S G w0 base p i (.v s (.bool y) :: r):=ok_vb e h t
theorem okn {P:Program} {ops:Array Oper} {L:Ks} {E:List Bx} {S:List Spo} {G:World→Prop} {w0:World} {base:Nat} {p:Pqs} {i:Nat} {r:List Spo} {s:Nat} {cs:Array Value} {ty:TypeId} (t:Oks P ops L E S G w0 base p (i+1) r) (h:∀ q,opRun P ops L (puts p 0 S) i q [] = some (some s,true,some (.value (nv q ty),[.nw (.cells cs (ty % 1000000))])):=by intro _; kernel_rfl):Oks P ops L E S G w0 base p i (.n s cs ty :: r):=ok_n h t
theorem okc {P:Program} {ops:Array Oper} {L:Ks} {E:List Bx} {S:List Spo} {G:World→Prop} {w0:World} {base:Nat} {p:Pqs} {i:Nat} {r:List Spo} {s:Option Nat} {f:Cf} {fn:FuncId} {args:Array Value} (hc:∀ W,Cx ops E S G w0 base p i W→Calls P fn args W fun en W'=>∃ q,en = .returned (f.f q)∧Below W.heap.size W W'∧f.g q W') (t:Oks P ops L E S G w0 base p (i+1) r) (h:opRun P ops L (puts p 0 S) i 0 [] = some (s,true,some (.enter fn args,[])):=by kernel_rfl):Oks P ops L E S G w0 base p i (.c s f :: r):=ok_c hc h t
theorem oku {P:Program} {ops:Array Oper} {L:Ks} {E:List Bx} {S:List Spo} {G:World→Prop} {w0:World} {base:Nat} {p:Pqs} {i:Nat} {r:List Spo} {s:Nat} {x:Value} {g:Array Value→Value} {fn:FuncId} {args:Array Value} (hc:∀ W,Cx ops E S G w0 base p i W→Calls P fn args W fun en W'=>en = .returned x∧Below W.heap.size W W') (t:Oks P ops L E S G w0 base p (i+1) r) (h:opRun P ops L (puts p 0 S) i 0 [] = some (some s,true,some (.enter fn args,[])):=by kernel_rfl) (hx:g args = x:=by kernel_rfl):Oks P ops L E S G w0 base p i (.u s x g :: r):=ok_u hc h hx t
theorem okl {P:Program} {ops:Array Oper} {L:Ks} {E:List Bx} {S:List Spo} {G:World→Prop} {w0:World} {base:Nat} {p:Pqs} {i:Nat} {r:List Spo} {s j off:Nat} {x:Value} (t:Oks P ops L E S G w0 base p (i+1) r) (hb:(boxOf E S p j).isSome = true:=by kernel_rfl) (h:opRun P ops L (puts p 0 S) i 0 x.cells.toList = some (some s,true,some (.value x,lds (blkOf E S p j) off x.cells.toList)):=by kernel_rfl) (hc:((cellsOf (fun k=>Nat.blt k i) j 0 S (csOf E S p j)).toList.drop off).take x.cells.size = x.cells.toList:=by kernel_rfl):Oks P ops L E S G w0 base p i (.l s x j off :: r):=ok_L hb h hc t
theorem okp {P:Program} {ops:Array Oper} {L:Ks} {E:List Bx} {S:List Spo} {G:World→Prop} {w0:World} {base:Nat} {p:Pqs} {i:Nat} {r:List Spo} {j off:Nat} {xs:List Value} (t:Oks P ops L E S G w0 base p (i+1) r) (hb:(boxOf E S p j).isSome = true:=by kernel_rfl) (h:opRun P ops L (puts p 0 S) i 0 [] = some (none,true,some (.skip,sts (blkOf E S p j) off xs)):=by kernel_rfl) (hc:Nat.ble (off+xs.length) (csOf E S p j).size = true:=by kernel_rfl):Oks P ops L E S G w0 base p i (.p j off xs :: r):=ok_P hb h hc t
theorem okk {P:Program} {ops:Array Oper} {L:Ks} {E:List Bx} {S:List Spo} {G:World→Prop} {w0:World} {base:Nat} {p:Pqs} {i:Nat} {r:List Spo} {s:Option Nat} (t:Oks P ops L E S G w0 base p (i+1) r) (h:(match opRun P ops L (puts p 0 S) i 0 [] with|some (a,b,_)=>some (a,b)|none=>none) = some (s,false):=by kernel_rfl):Oks P ops L E S G w0 base p i (.k s :: r):=ok_K h t
theorem SymF.fc {E:List Bx} {S:List Spo} {G:World→Prop} {w0 W0:World} {p:Pqs} {W:World} (hS:Fb w0 W0 E) (h:SymF E S G w0 W0.heap.size p W) (js:List Nat) (E1:List Bx) (e:finBx E S p js = E1:=by kernel_rfl) (nd:nodupB js = true:=by kernel_rfl):Fb w0 W E1:=SymF.fb hS h js E1 e nd
theorem SymF.fg {E:List Bx} {S:List Spo} {G:World→Prop} {w0 W0:World} {p:Pqs} {W:World} (hS:Fb w0 W0 E) (h:SymF E S G w0 W0.heap.size p W) (e:finBx E S p (allBx 0 E) = E:=by kernel_rfl) (nd:nodupB (allBx 0 E) = true:=by kernel_rfl):Fb w0 W E∧G W:=⟨SymF.fb hS h _ E e nd,h.gx⟩
theorem Kn.ew {T:Array Value} {n:Nat} {L:Ks} (h:Kn T n L) (s:Nat) {v:Value} (hi:inK L s = true:=by kernel_rfl) (hv:lookK L s = v:=by kernel_rfl):Act.eval ⟨T,[]⟩ (.tmp s) = v:=h.ev s hi v hv
theorem script_bind {α β:Type} (P:Program) (r:Nat) (m:Sem α) (k:α→Sem β) (vs:List Value):∀ x:α,script P r m [] = some (x,[])→script P r (m >>= k) vs = script P r (k x) vs:=by
 induction m with
 | pure a=>
  intro x h
  simp only [script,Option.some.injEq,Prod.mk.injEq] at h
  rw [← h.1]; rfl
 | load _ a k' _=>intro x h; simp [script] at h
 | store _ a v k' _=>
  intro x h
  simp only [script] at h
  split at h
  ·simp at h
  ·cases h
 | new o k' _=>
  intro x h
  simp only [script] at h
  split at h
  ·simp at h
  ·cases h
 | program k' ih=>intro x h; exact ih P x h
 | mark _ k' ih=>intro x h; exact ih x h
 | _=>intro x h; simp [script] at h
theorem script_under {P:Program} {r:Nat} {t:TypeId} {d:TypeDesc} (h:P.underlying t = some d):script P r (underlying t) [] = some (d,[]):=by
 show script P r (match P.underlying t with|some d=>pure d|none=>_) [] = _
 rw [h]; rfl
theorem ok_vr {P:Program} {ops:Array Oper} {L:Ks} {E:List Bx} {S:List Spo} {G:World→Prop} {w0:World} {base:Nat} {p:Pqs} {i:Nat} {r:List Spo} {s:Nat} {x:Value} {m:Sem Value} (e:script P 0 m [] = some (x,[])) (h:opRun P ops L (puts p 0 S) i 0 [] = some (some s,true,script P 0 (do pure (Next.value (← m))) [])) (t:Oks P ops L E S G w0 base p (i+1) r):Oks P ops L E S G w0 base p i (.v s x :: r):=
 ⟨(show opRun P ops L (puts p 0 S) i 0 [] = some (some s,true,some (.value x,[])) by rw [h,script_bind P 0 m _ [] x e]; rfl),t⟩
theorem script_cat {P:Program} {r:Nat} {x y:ByteArray} (h:x.size+y.size≤9223372036854775807):script P r (Op.stringOp .add x y) [] = some (.string (x ++ y),[]):=by
 show script P r (if ((x.size+y.size:Nat):Int) > IntKind.i64.max then (_:Sem Value) else pure (.string (x ++ y))) [] = _
 rw [if_neg (by have:IntKind.i64.max = 9223372036854775807:=rfl; omega)]; rfl
theorem num_laid {W:World} {b m:Nat} {t:TypeId} (h:W.heap[b]? = some (.cells #[.int .u32 (m:Int)] t (0,0))) (h0:0 < m) (h1:m < 4294967296):Num W (some ⟨b,0,none⟩) 1 m:=by
 refine ⟨[m],rfl,Or.inr ⟨b,0,rfl,fun j hj=>?_⟩,fun x hx=>?_,?_,?_,by omega⟩
 ·have hj0:j = 0:=by simp at hj; omega
  subst hj0
  rw [cell_of_row _ b 0 _ _ _ h]; rfl
 ·simp at hx; omega
 ·simp [Pl.Norm]; omega
 ·simp [Pl.val]
theorem addr_add (b o n:Nat):Addr.add ⟨b,o,none⟩ n = ⟨b,o+n,none⟩:=by
 unfold Addr.add
 split
 ·next h=>subst h; rfl
 ·rfl
theorem script_isl {P:Program} {r:Nat} {t el:TypeId} {len b off j c:Nat} {i:Int} (hu:P.underlying t = some (.slice el)) (hs:∀ r,script P r (sizeOf el) [] = some (1,[])) (hi:i = (j:Int)) (hj:j < len) :
  script P r (Instr.indexAt t (.slice (some ⟨b,off,none⟩) len c) (.int .i64 i)) [] = some (.pointer (some ⟨b,off+j,none⟩),[]):=by
 subst hi
 unfold Instr.indexAt
 rw [script_bind P r _ _ [] (IntKind.i64,(j:Int)) rfl]
 simp only []
 rw [script_bind P r _ _ [] _ (script_under hu)]
 simp only []
 rw [script_bind P r _ _ [] (some (⟨b,off,none⟩:Addr),len,el) rfl,script_bind P r _ _ [] _ (script_under hu)]
 simp only []
 rw [if_pos (by omega),script_bind P r _ _ [] _ (hs r)]
 show some (Value.pointer (some (Addr.add ⟨b,off,none⟩ ((j:Int).toNat * 1))),[]) = _
 rw [Int.toNat_natCast,Nat.mul_one,addr_add]
end Go.Proofs.YtcfccblpcngeaaaGreat
