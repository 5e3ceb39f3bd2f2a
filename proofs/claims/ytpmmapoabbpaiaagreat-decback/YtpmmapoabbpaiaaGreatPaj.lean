/- Of what DecBackRow stands on: Sym6 Sym7 ShiftDown AddInto TakeInto TakeTimes Sym8 SymJ SymW DcOne SymEq DbEq. -/
import Derived.Test.YtpmmapoabbpaiaaGreatPai
import Derived.LoopN
import Derived.Test.YtpmmapoabbpaiaaGreatPaf
import Derived.Test.YtpmmapoabbpaiaaGreatPae
import Derived.ChangeKeysEq
namespace Go.Proofs.YtpmmapoabbpaiaaGreat
open Go.RowKit
set_option maxHeartbeats 1000000
theorem sta_true:Sta (fun _=>True):=⟨fun _ _ _ h=>h,fun _ _ _ _ _ _ _ _ _ h=>h⟩
theorem sta_and {f g:World→Prop} (hf:Sta f) (hg:Sta g):Sta (fun W=>f W∧g W):=⟨fun W W' hb h=>⟨hf.kept W W' hb h.1,hg.kept W W' hb h.2⟩,fun W b cs t j u h1 h2 h3 h=>⟨hf.put W b cs t j u h1 h2 h3 h.1,hg.put W b cs t j u h1 h2 h3 h.2⟩⟩
def cV (v:Value):Cf:=⟨fun _=>v,fun _ _=>True,fun _=>sta_true⟩
def cO (B m:Nat):Cf:=⟨fun q=>.tuple #[.agg #[.slice q.A q.N q.C],.int .i64 0],fun q W=>Mine W B q.A q.N q.C m,fun _=>sta_mine _ _ _ _ _⟩
def cN (B m:Nat):Cf:=⟨fun q=>.agg #[.slice q.A q.N q.C],fun q W=>Mine W B q.A q.N q.C m,fun _=>sta_mine _ _ _ _ _⟩
def cD (B m m':Nat):Cf:=⟨fun q=>.tuple #[.agg #[.slice q.A q.N q.C],.agg #[.slice q.A' q.N' q.C'],.int .i64 0],fun q W=>Mine W B q.A q.N q.C m∧Mine W B q.A' q.N' q.C' m',fun _=>sta_and (sta_mine _ _ _ _ _) (sta_mine _ _ _ _ _)⟩
theorem as_v {P:Program} {fn:FuncId} {args:Array Value} {W:World} {v:Value} (h:Calls P fn args W fun en W'=>en = .returned v∧Below W.heap.size W W'):Calls P fn args W fun en W'=>∃ q,en = .returned ((cV v).f q)∧Below W.heap.size W W'∧(cV v).g q W':=
 h.mono fun _ _ ⟨h1,h2⟩=>⟨pq0,h1,h2,trivial⟩
theorem as_o {P:Program} {fn:FuncId} {args:Array Value} {W:World} {B:Nat} {m:Nat} (hb:B≤W.heap.size) (h:Calls P fn args W fun en W'=>(∃ a n c,en = .returned (.tuple #[.agg #[.slice a n c],.int .i64 0])∧Mine W' W.heap.size a n c m)∧Below W.heap.size W W'):Calls P fn args W fun en W'=>∃ q,en = .returned ((cO B m).f q)∧Below W.heap.size W W'∧(cO B m).g q W':=
 h.mono fun _ _ ⟨⟨a,n,c,h1,h3⟩,h2⟩=>⟨{ pq0 with A:=a,N:=n,C:=c },h1,h2,h3.mono hb⟩
theorem as_n {P:Program} {fn:FuncId} {args:Array Value} {W:World} {B:Nat} {m:Nat} (hb:B≤W.heap.size) (h:Calls P fn args W fun en W'=>(∃ a n c,en = .returned (.agg #[.slice a n c])∧Mine W' W.heap.size a n c m)∧Below W.heap.size W W'):Calls P fn args W fun en W'=>∃ q,en = .returned ((cN B m).f q)∧Below W.heap.size W W'∧(cN B m).g q W':=
 h.mono fun _ _ ⟨⟨a,n,c,h1,h3⟩,h2⟩=>⟨{ pq0 with A:=a,N:=n,C:=c },h1,h2,h3.mono hb⟩
theorem as_d {P:Program} {fn:FuncId} {args:Array Value} {W:World} {B:Nat} {m:Nat} {m':Nat} (hb:B≤W.heap.size) (h:Calls P fn args W fun en W'=>(∃ a n c a' n' c',en = .returned (.tuple #[.agg #[.slice a n c],.agg #[.slice a' n' c'],.int .i64 0])∧Mine W' W.heap.size a n c m∧Mine W' W.heap.size a' n' c' m')∧Below W.heap.size W W'):Calls P fn args W fun en W'=>∃ q,en = .returned ((cD B m m').f q)∧Below W.heap.size W W'∧(cD B m m').g q W':=
 h.mono fun _ _ ⟨⟨a,n,c,a',n',c',h1,h3,h4⟩,h2⟩=>⟨{ pq0 with A:=a,N:=n,C:=c,A':=a',N':=n',C':=c' },h1,h2,h3.mono hb,h4.mono hb⟩
def cG (B m:Nat) (f:Value→Value):Cf:=⟨fun q=>f (.slice q.A q.N q.C),fun q W=>Mine W B q.A q.N q.C m,fun _=>sta_mine _ _ _ _ _⟩
def cH (B m m':Nat) (f:Value→Value→Value):Cf:=⟨fun q=>f (.slice q.A q.N q.C) (.slice q.A' q.N' q.C'),fun q W=>Mine W B q.A q.N q.C m∧Mine W B q.A' q.N' q.C' m',fun _=>sta_and (sta_mine _ _ _ _ _) (sta_mine _ _ _ _ _)⟩
theorem as_g {P:Program} {fn:FuncId} {args:Array Value} {W:World} {B m:Nat} {f:Value→Value} (hb:B≤W.heap.size) (h:Calls P fn args W fun en W'=>(∃ a n c,en = .returned (f (.slice a n c))∧Mine W' W.heap.size a n c m)∧Below W.heap.size W W'):Calls P fn args W fun en W'=>∃ q,en = .returned ((cG B m f).f q)∧Below W.heap.size W W'∧(cG B m f).g q W':=
 h.mono fun _ _ ⟨⟨a,n,c,h1,h3⟩,h2⟩=>⟨{ pq0 with A:=a,N:=n,C:=c },h1,h2,h3.mono hb⟩
theorem as_h {P:Program} {fn:FuncId} {args:Array Value} {W:World} {B m m':Nat} {f:Value→Value→Value} (hb:B≤W.heap.size) (h:Calls P fn args W fun en W'=>(∃ a n c a' n' c',en = .returned (f (.slice a n c) (.slice a' n' c'))∧Mine W' W.heap.size a n c m∧Mine W' W.heap.size a' n' c' m')∧Below W.heap.size W W'):Calls P fn args W fun en W'=>∃ q,en = .returned ((cH B m m' f).f q)∧Below W.heap.size W W'∧(cH B m m' f).g q W':=
 h.mono fun _ _ ⟨⟨a,n,c,a',n',c',h1,h3,h4⟩,h2⟩=>⟨{ pq0 with A:=a,N:=n,C:=c,A':=a',N':=n',C':=c' },h1,h2,h3.mono hb,h4.mono hb⟩
structure Gf where
 f:World→Prop
 st:Sta f
def GsAt:List Gf→World→Prop
 | [],_=>True
 | g :: r,W=>g.f W∧GsAt r W
theorem gs_sta:∀ (gs:List Gf),Sta (GsAt gs)
 | []=>sta_true
 | g :: r=>sta_and g.st (gs_sta r)
def gN (a:Option Addr) (n m:Nat):Gf:=⟨fun W=>Num W a n m,sta_num a n m⟩
def gM (B:Nat) (a:Option Addr) (n c m:Nat):Gf:=⟨fun W=>Mine W B a n c m,sta_mine B a n c m⟩
def NeX (x:Bx):List Bx→Prop
 | []=>True
 | y :: r=>((x.my || y.my) = true→x.b≠y.b)∧NeX x r
def NeL:List Bx→Prop
 | []=>True
 | x :: r=>NeX x r∧NeL r
def LowL (w0:World):List Bx→Prop
 | []=>True
 | x :: r=>(x.my = true→w0.heap.size≤x.b)∧LowL w0 r
theorem LowL.of {w0:World}:∀ {E:List Bx},LowL w0 E→∀ x,x∈E→x.my = true→w0.heap.size≤x.b
 | [],_,_,h,_=>by simp at h
 | y :: r,h,x,hx,hm=>by
  rcases List.mem_cons.1 hx with rfl|hx
  ·exact h.1 hm
  ·exact LowL.of h.2 x hx hm
theorem NeX.of {x:Bx}:∀ {E:List Bx},NeX x E→∀ y,y∈E→(x.my = true∨y.my = true)→x.b≠y.b
 | [],_,_,h,_=>by simp at h
 | z :: r,h,y,hy,hm=>by
  rcases List.mem_cons.1 hy with rfl|hy
  ·exact h.1 (by simpa using hm)
  ·exact NeX.of h.2 y hy hm
theorem NeL.of:∀ {E:List Bx},NeL E→∀ (j k:Nat) (x y:Bx),E[j]? = some x→E[k]? = some y→x.my = true→j≠k→x.b≠y.b
 | [],_,_,_,_,_,h,_,_,_=>by simp at h
 | z :: r,h,0,0,x,y,hx,hy,hm,hne=>absurd rfl hne
 | z :: r,h,0,k+1,x,y,hx,hy,hm,hne=>by
  simp only [List.getElem?_cons_zero,Option.some.injEq] at hx
  subst hx
  exact h.1.of y (List.mem_of_getElem? (by simpa using hy)) (Or.inl hm)
 | z :: r,h,j+1,0,x,y,hx,hy,hm,hne=>by
  simp only [List.getElem?_cons_zero,Option.some.injEq] at hy
  subst hy
  exact Ne.symm (h.1.of x (List.mem_of_getElem? (by simpa using hx)) (Or.inr hm))
 | z :: r,h,j+1,k+1,x,y,hx,hy,hm,hne=>NeL.of h.2 j k x y (by simpa using hx) (by simpa using hy) hm (by omega)
structure Fb (w0 W:World) (E:List Bx):Prop where
 bx:∀ x,x∈E→W.heap[x.b]? = some (.cells x.cs x.t (0,0))
 fr:Below w0.heap.size w0 W
 low:LowL w0 E
 ne:NeL E
theorem Fb.begin (w:World):Fb w w []:=⟨(fun _ h=>nomatch h),Below.refl _ _,trivial,trivial⟩
theorem Fb.other {w:World} {b:Nat} {cs:Array Value} {t:TypeId} (h:w.heap[b]? = some (.cells cs t (0,0))):Fb w w [⟨b,cs,t,false⟩]:=⟨fun x hx=>by rw [List.mem_singleton.1 hx]; exact h,Below.refl _ _,⟨(fun h=>absurd h (by simp)),trivial⟩,⟨trivial,trivial⟩⟩
theorem Fb.kept {w0 W W':World} {E:List Bx} (h:Fb w0 W E) (hb:Below W.heap.size W W'):Fb w0 W' E:=⟨fun x hx=>by rw [hb.block _ (block_lt (h.bx x hx))]; exact h.bx x hx,gr_trans h.fr hb,h.low,h.ne⟩
theorem NeL.sym {E:List Bx} (h:NeL E) (j k:Nat) (x y:Bx) (hx:E[j]? = some x) (hy:E[k]? = some y) (hm:x.my = true∨y.my = true) (hne:j≠k):x.b≠y.b:=by
 rcases hm with hm|hm
 ·exact h.of j k x y hx hy hm hne
 ·exact Ne.symm (h.of k j y x hy hx hm (Ne.symm hne))
def finBx (E:List Bx) (S:List Spo) (p:Pqs):List Nat→List Bx
 | []=>[]
 | j :: r=>match boxOf E S p j with
  | some (bx,_)=>⟨bx.b,cellsOf (fun _=>true) j 0 S bx.cs,bx.t,bx.my⟩ :: finBx E S p r
  | none=>finBx E S p r
def nodupB:List Nat→Bool
 | []=>true
 | j :: r=>r.all (· != j) && nodupB r
theorem finBx_mem {E:List Bx} {S:List Spo} {p:Pqs}:∀ {js:List Nat} {x:Bx},x∈finBx E S p js→∃ j bx bo,j∈js∧boxOf E S p j = some (bx,bo)∧x = ⟨bx.b,cellsOf (fun _=>true) j 0 S bx.cs,bx.t,bx.my⟩
 | [],_,h=>by simp [finBx] at h
 | j :: r,x,h=>by
  unfold finBx at h
  split at h
  ·rename_i bx bo hb
   rcases List.mem_cons.1 h with rfl|h
   ·exact ⟨j,bx,bo,List.mem_cons_self ..,hb,rfl⟩
   ·obtain ⟨j',bx',bo',h1,h2⟩:=finBx_mem h
    exact ⟨j',bx',bo',List.mem_cons_of_mem _ h1,h2⟩
  ·obtain ⟨j',bx',bo',h1,h2⟩:=finBx_mem h
   exact ⟨j',bx',bo',List.mem_cons_of_mem _ h1,h2⟩
theorem SymF.fb {E:List Bx} {S:List Spo} {G:World→Prop} {w0 W0:World} {p:Pqs} {W:World} (hS:Fb w0 W0 E) (h:SymF E S G w0 W0.heap.size p W) (js:List Nat) (E1:List Bx) (e:finBx E S p js = E1) (nd:nodupB js = true):Fb w0 W E1:=by
 subst e
 have hap:∀ j bx bo j' bx' bo',boxOf E S p j = some (bx,bo)→boxOf E S p j' = some (bx',bo')→j≠j'→(bx.my = true∨bx'.my = true)→bx.b≠bx'.b:=fun j bx bo j' bx' bo' hb hb' hne hm=>by
  rcases boxOf_cases hb with ⟨q1,q2,q3⟩|⟨q1,s1,cs1,t1,q2,q3,q4⟩
  ·rcases boxOf_cases hb' with ⟨r1,r2,r3⟩|⟨r1,s2,cs2,t2,r2,r3,r4⟩
   ·exact hS.ne.sym j j' bx bx' q2 r2 hm hne
   ·have h1:=block_lt (hS.bx bx (List.mem_of_getElem? q2))
    have h2:=h.nb _ _ _ _ r2
    rw [r3]; show bx.b≠(p (j' - 1000)).N; omega
  ·rcases boxOf_cases hb' with ⟨r1,r2,r3⟩|⟨r1,s2,cs2,t2,r2,r3,r4⟩
   ·have h1:=block_lt (hS.bx bx' (List.mem_of_getElem? r2))
    have h2:=h.nb _ _ _ _ q2
    rw [q3]; show (p (j - 1000)).N≠bx'.b; omega
   ·rw [q3,r3]
    refine h.ne _ _ _ _ _ _ _ _ q2 r2 (fun e=>hne ?_)
    have a1:¬ j < 1000:=fun hc=>by rw [show Nat.blt j 1000 = true from by rw [Nat.blt_eq]; exact hc] at q1; cases q1
    have a2:¬ j' < 1000:=fun hc=>by rw [show Nat.blt j' 1000 = true from by rw [Nat.blt_eq]; exact hc] at r1; cases r1
    omega
 refine ⟨fun x hx=>?_,h.fr,?_,?_⟩
 ·obtain ⟨j,bx,bo,-,hb,rfl⟩:=finBx_mem hx
  exact h.mem j bx bo hb
 ·clear nd
  induction js with
  | nil=>trivial
  | cons j r ih=>
   unfold finBx
   split
   ·rename_i bx bo hb
    refine ⟨fun hm=>?_,ih⟩
    show w0.heap.size≤bx.b
    rcases boxOf_cases hb with ⟨q1,q2,q3⟩|⟨q1,s1,cs1,t1,q2,q3,q4⟩
    ·exact hS.low.of bx (List.mem_of_getElem? q2) hm
    ·rw [q3]; exact Nat.le_trans hS.fr.size (h.nb _ _ _ _ q2)
   ·exact ih
 ·induction js with
  | nil=>trivial
  | cons j r ih=>
   simp only [nodupB,Bool.and_eq_true] at nd
   unfold finBx
   split
   ·rename_i bx bo hb
    refine ⟨?_,ih nd.2⟩
    have hall:∀ y,y∈finBx E S p r→(bx.my = true∨y.my = true)→bx.b≠y.b:=fun y hy hm=>by
     obtain ⟨j',bx',bo',hj',hb',rfl⟩:=finBx_mem hy
     refine hap j bx bo j' bx' bo' hb hb' ?_ hm
     have:=List.all_eq_true.1 nd.1 j' hj'
     simp only [bne_iff_ne] at this
     exact Ne.symm this
    revert hall
    generalize finBx E S p r = l
    intro hall
    induction l with
    | nil=>trivial
    | cons y l ih2=>exact ⟨fun hm=>hall y (List.mem_cons_self ..) (by simpa using hm),ih2 fun z hz=>hall z (List.mem_cons_of_mem _ hz)⟩
   ·exact ih nd.2
def symB (ops:Array Oper) (n:Nat) (L:Ks) (E:List Bx) (S:List Spo) (p:Pqs) (L1:Ks):Bool:=
 Puts.apart (puts p 0 S) && Nat.beq S.length ops.size && Puts.within (puts p 0 S) n && backB ops && readsOk ops L (puts p 0 S) 0 ops.toList && memOk ops E S 0 S && E.all (fun x=>!x.my || noLimb x.cs.toList && x.t != 64) && L1.all (fun x=>earlyB x.1 S.length (puts p 0 S) || inK L x.1)
theorem kn_out {T0:Array Value} {n:Nat} {L:Ks} {ds:Puts} (hK:Kn T0 n L) (ha:Puts.apart ds = true) (hw:Puts.within ds n = true) (L1:Ks) (hin:L1.all (fun x=>earlyB x.1 ds.length ds || inK L x.1) = true) (he:L1.map (fun x=>slotAt L x.1 ds.length ds) = L1.map (·.2)):Kn (Puts.lay ds T0) n L1:=by
 refine ⟨by rw [Puts.lay_size]; exact hK.size,fun x hx=>?_⟩
 have h1:=List.all_eq_true.1 hin x hx
 have h2:slotAt L x.1 ds.length ds = x.2:=by
  obtain ⟨k,hk,he2⟩:=List.getElem_of_mem hx
  have:=congrArg (fun l=>l[k]?) he
  simp only [List.getElem?_map,List.getElem?_eq_getElem hk,he2,Option.map_some,Option.some.injEq] at this
  exact this
 rw [← h2]
 by_cases hw9:∃ (k:Nat) (v:Value),ds[k]? = some (some (x.1,v))
 ·obtain ⟨k,v,hk⟩:=hw9
  have hlt:k < ds.length:=(List.getElem?_eq_some_iff.1 hk).1
  rw [slotAt_on ds _ k v ha hk hlt]
  exact Puts.lay_at ds ha T0 k x.1 v hk (by rw [hK.size]; simpa using List.all_eq_true.1 hw _ (List.mem_of_getElem? hk))
 ·rw [slotAt_off ds _ (fun k v hk=>absurd ⟨k,v,hk⟩ hw9)]
  have hf:Puts.free ds x.1 = true:=by
   unfold Puts.free
   rw [List.all_eq_true]
   intro d hd
   obtain ⟨k,hk⟩:=List.getElem?_of_mem hd
   cases d with
   | none=>rfl
   | some d=>
    obtain ⟨s,v⟩:=d
    simp only [bne_iff_ne]
    rintro rfl
    exact hw9 ⟨k,v,hk⟩
  rw [Puts.lay_free ds x.1 hf]
  refine hK.look ?_
  simp only [Bool.or_eq_true] at h1
  rcases h1 with h|h
  ·obtain ⟨k,v,-,hk⟩:=early_of h
   exact absurd ⟨k,v,hk⟩ hw9
  ·exact h
theorem wp_symG {P:Program} {ops:Array Oper} {Q:Exit→Act→World→Prop} {T0:Array Value} {n:Nat} {L:Ks} {w0:World} {gs:List Gf} {id:Nat} {d:Bool} {W:World} {E:List Bx} (hS:Fb w0 W E) (hG:GsAt gs W) (hK:Kn T0 n L) (S:Pqs→List Spo) (L1:Pqs→Ks) (hm:P.follows .mixedOrders = true) (hsh:∀ p p',(S p).map Spo.bare = (S p').map Spo.bare) (hB:∀ p,symB ops n L E (S p) p (L1 p) = true) (hL:∀ p,(L1 p).map (fun x=>slotAt L x.1 (S p).length (puts p 0 (S p))) = (L1 p).map (·.2))
  (hok:∀ p,Oks P ops L E (S p) (GsAt gs) w0 W.heap.size p 0 (S p))
  (hfin:∀ p W' T1,SymF E (S p) (GsAt gs) w0 W.heap.size p W'→Kn T1 n (L1 p)→Q .normal ⟨T1,[]⟩ W') :
  (Code.region id ops d).wp P Q ⟨T0,[]⟩ W:=by
 have hB':∀ p,_:=fun p=>by
  have:=hB p
  simp only [symB,Bool.and_eq_true] at this
  exact this
 refine wp_sym S hS.bx hS.fr hm hK ⟨hsh,fun p=>(hB' p).1.1.1.1.1.1.1,fun p=>Nat.eq_of_beq_eq_true (hB' p).1.1.1.1.1.1.2,fun p=>(hB' p).1.1.1.1.1.2,(hB' fun _=>pq0).1.1.1.1.2,fun p=>(hB' p).1.1.1.2,fun p=>(hB' p).1.1.2,(hB' fun _=>pq0).1.2⟩ hS.low.of hS.ne.of (gs_sta gs) hG hok (fun p W' hF=>hfin p W' _ hF ?_)
 exact kn_out hK (hB' p).1.1.1.1.1.1.1 (hB' p).1.1.1.1.1.2 _ (by rw [puts_len]; exact (hB' p).2) (by rw [puts_len]; exact hL p)
def argK:Nat→List Value→Ks
 | _,[]=>[]
 | i,v :: r=>(i,v) :: argK (i+1) r
theorem argK_at:∀ (vs:List Value) (i:Nat) (x:Nat×Value),x∈argK i vs→∃ k,x.1 = i+k∧vs[k]? = some x.2
 | [],_,_,h=>by simp [argK] at h
 | v :: r,i,x,h=>by
  rcases List.mem_cons.1 h with rfl|h
  ·exact ⟨0,rfl,rfl⟩
  ·obtain ⟨k,h1,h2⟩:=argK_at r (i+1) x h
   exact ⟨k+1,by omega,by simpa using h2⟩
theorem calls_sym {P:Program} {f:FuncId} {fn:Func} {c:Code} {args:Array Value} {w:World} {R:Ending→World→Prop} (hf:P.funcs[f]? = some fn) (hb:fn.body = some c) (hn:Nat.ble args.size fn.ntmps = true)
  (h:∀ T,Kn T fn.ntmps (argK 0 args.toList)→c.wp P (bodyPost P fn R) ⟨T,[]⟩ w):Calls P f args w R:=by
 refine calls_of_wp hf hb (h _ ⟨?_,fun x hx=>?_⟩)
 ·have:=Nat.le_of_ble_eq_true hn
  simp; omega
 ·obtain ⟨k,h1,h2⟩:=argK_at _ _ x hx
  rw [Nat.zero_add] at h1
  rw [h1]
  have h3:args[k]? = some x.2:=by simpa using h2
  obtain ⟨hlt,-⟩:=Array.getElem?_eq_some_iff.1 h3
  rw [Array.getElem?_append_left hlt]; exact h3
theorem Kn.ev {T:Array Value} {n:Nat} {L:Ks} (h:Kn T n L) (s:Nat) (hi:inK L s = true) (v:Value) (hv:lookK L s = v):Act.eval ⟨T,[]⟩ (.tmp s) = v:=by
 show T.getD s undef = v
 rw [Array.getD_eq_getD_getElem?,h.look hi,hv]; rfl
def resK (fn:Func) (L:Ks):Sem Value:=do
 let vs ← fn.results.mapM fun
  | .tmp t=>pure (lookK L t)
  | .cell a t=>do loadVar t (← asAddr (lookK L a))
 pure (if h:vs.size = 1 then vs[0] else .tuple vs)
def resSlot:ResultVar→Nat
 | .tmp t=>t
 | .cell a _=>a
def rdEv (bs:List Bx):List (Nat×Nat×Nat)→List Ev
 | []=>[]
 | (j,off,k) :: r=>(match bs[j]? with
  | some x=>lds x.b off ((x.cs.toList.drop off).take k)
  | none=>[]) ++ rdEv bs r
theorem evs_app:∀ (es fs:List Ev) (W:World),EvsOk 0 es W→evs es W = W→EvsOk 0 fs W→evs fs W = W→EvsOk 0 (es ++ fs) W∧evs (es ++ fs) W = W:=by
 intro es fs W h1 h2 h3 h4
 have h5:∀ (es:List Ev) (V:World),EvsOk 0 es V→(EvsOk 0 (es ++ fs) V↔EvsOk 0 fs (evs es V))∧evs (es ++ fs) V = evs fs (evs es V):=by
  intro es
  induction es with
  | nil=>intro V _; exact ⟨Iff.rfl,rfl⟩
  | cons e r ih=>
   intro V h
   cases e with
   | ld a v=>obtain ⟨g1,g2⟩:=ih V h.2; exact ⟨⟨fun q=>g1.1 q.2,fun q=>⟨h.1,g1.2 q⟩⟩,g2⟩
   | st a v=>obtain ⟨g1,g2⟩:=ih _ h.2.2.2; exact ⟨⟨fun q=>g1.1 q.2.2.2,fun q=>⟨h.1,h.2.1,h.2.2.1,g1.2 q⟩⟩,g2⟩
   | nw o=>obtain ⟨g1,g2⟩:=ih _ h.2; exact ⟨⟨fun q=>g1.1 q.2,fun q=>⟨h.1,g1.2 q⟩⟩,g2⟩
 obtain ⟨g1,g2⟩:=h5 es W h1
 rw [h2] at g1 g2
 exact ⟨g1.2 h3,by rw [g2]; exact h4⟩
theorem rd_ok {w0 W:World} {bs:List Bx} (hS:Fb w0 W bs):∀ (js:List (Nat×Nat×Nat)),EvsOk 0 (rdEv bs js) W∧evs (rdEv bs js) W = W
 | []=>⟨trivial,rfl⟩
 | (j,off,k) :: r=>by
  obtain ⟨h1,h2⟩:=rd_ok hS r
  unfold rdEv
  cases hj:bs[j]? with
  | none=>exact ⟨h1,h2⟩
  | some x=>
   obtain ⟨g1,g2⟩:=lds_ok (hS.bx x (List.mem_of_getElem? hj)) ((x.cs.toList.drop off).take k) off (by
    rw [List.length_take,List.take_eq_take_iff]; simp)
   exact evs_app _ _ W g1 g2 h1 h2
theorem res_eq {fn:Func} {T:Array Value} {n:Nat} {L:Ks} (hK:Kn T n L) (hin:fn.results.toList.all (fun r=>inK L (resSlot r)) = true):results fn T = resK fn L:=by
 have:∀ r,r∈fn.results→T.getD (resSlot r) undef = lookK L (resSlot r):=fun r hr=>by
  have:=List.all_eq_true.1 hin r (by simpa using hr)
  rw [Array.getD_eq_getD_getElem?,hK.look this]; rfl
 have hc:∀ (f g:ResultVar→Sem Value) (l:List ResultVar),(∀ r,r∈l→f r = g r)→l.mapM f = l.mapM g:=by
  intro f g l
  induction l with
  | nil=>intro _; rfl
  | cons r l ih=>intro h; rw [List.mapM_cons,List.mapM_cons,h r (List.mem_cons_self ..),ih fun r' hr'=>h r' (List.mem_cons_of_mem _ hr')]
 unfold results resK
 rw [Array.mapM_eq_mapM_toList,Array.mapM_eq_mapM_toList]
 congr 2
 refine hc _ _ _ fun r hr=>?_
 have h:=this r (by simpa using hr)
 cases r with
 | tmp t=>simp only [resSlot] at h; simp only [h]
 | cell a t=>simp only [resSlot] at h; simp only [h]
theorem sym_end {P:Program} {fn:Func} {R:Ending→World→Prop} {T:Array Value} {n:Nat} {L:Ks} {w0 W:World} {bs:List Bx} (hS:Fb w0 W bs) (hK:Kn T n L) (v:Value) (js:List (Nat×Nat×Nat)) (vs:List Value) (hin:fn.results.toList.all (fun r=>inK L (resSlot r)) = true) (hr:script P 0 (resK fn L) vs = some (v,rdEv bs js)) (h:R (.returned v) W):bodyPost P fn R .ret ⟨T,[]⟩ W:=by
 refine bodyPost_ret (v:=v) ?_ rfl h
 show (results fn T).run P W = _
 rw [res_eq hK hin]
 obtain ⟨h1,h2⟩:=rd_ok hS js
 have:=script_run P 0 _ _ _ _ W hr h1
 rw [h2] at this; exact this
def blkOf (E:List Bx) (S:List Spo) (p:Pqs) (j:Nat):Nat:=match boxOf E S p j with
 | some (bx,_)=>bx.b
 | none=>0
def csOf (E:List Bx) (S:List Spo) (p:Pqs) (j:Nat):Array Value:=match boxOf E S p j with
 | some (bx,_)=>bx.cs
 | none=>#[]
theorem ok_L {P:Program} {ops:Array Oper} {L:Ks} {E:List Bx} {S:List Spo} {G:World→Prop} {w0:World} {base:Nat} {p:Pqs} {i:Nat} {r:List Spo} {s j off:Nat} {x:Value} (hb:(boxOf E S p j).isSome = true) (h:opRun P ops L (puts p 0 S) i 0 x.cells.toList = some (some s,true,some (.value x,lds (blkOf E S p j) off x.cells.toList))) (hc:((cellsOf (fun k=>Nat.blt k i) j 0 S (csOf E S p j)).toList.drop off).take x.cells.size = x.cells.toList) (t:Oks P ops L E S G w0 base p (i+1) r):Oks P ops L E S G w0 base p i (.l s x j off :: r):=by
 obtain ⟨⟨bx,bo⟩,hbx⟩:=Option.isSome_iff_exists.1 hb
 unfold blkOf at h; unfold csOf at hc
 rw [hbx] at h hc
 exact ok_l bx bo hbx h hc t
theorem ok_P {P:Program} {ops:Array Oper} {L:Ks} {E:List Bx} {S:List Spo} {G:World→Prop} {w0:World} {base:Nat} {p:Pqs} {i:Nat} {r:List Spo} {j off:Nat} {xs:List Value} (hb:(boxOf E S p j).isSome = true) (h:opRun P ops L (puts p 0 S) i 0 [] = some (none,true,some (.skip,sts (blkOf E S p j) off xs))) (hc:Nat.ble (off+xs.length) (csOf E S p j).size = true) (t:Oks P ops L E S G w0 base p (i+1) r):Oks P ops L E S G w0 base p i (.p j off xs :: r):=by
 obtain ⟨⟨bx,bo⟩,hbx⟩:=Option.isSome_iff_exists.1 hb
 unfold blkOf at h; unfold csOf at hc
 rw [hbx] at h hc
 exact ok_p bx bo hbx h hc t
theorem wr64 {x:Int} (h1:-9223372036854775808≤x) (h2:x < 9223372036854775808):IntKind.i64.wrap x = x:=by rw [IntKind.wrap_i64]; omega
theorem ok_K {P:Program} {ops:Array Oper} {L:Ks} {E:List Bx} {S:List Spo} {G:World→Prop} {w0:World} {base:Nat} {p:Pqs} {i:Nat} {r:List Spo} {s:Option Nat} (h:(match opRun P ops L (puts p 0 S) i 0 [] with
  | some (a,b,_)=>some (a,b)
  | none=>none) = some (s,false)) (t:Oks P ops L E S G w0 base p (i+1) r):Oks P ops L E S G w0 base p i (.k s :: r):=by
 split at h
 ·rename_i a b c hx
  simp only [Option.some.injEq,Prod.mk.injEq] at h
  obtain ⟨rfl,rfl⟩:=h
  exact ok_k c hx t
 ·cases h
def aG (k:Nat) (a:Array Value):Value:=a.getD k undef
def aH (j k:Nat) (a:Array Value):Value:=.tuple #[a.getD j undef,a.getD k undef]
theorem imax (x y:Int):(if y > x then y else x) = max x y:=by omega
theorem then_n {next:Act→World→Prop} {Q:Exit→Act→World→Prop} {a:Act} {w:World} (h:next a w):Exit.then next Q .normal a w:=h
theorem then_r {next:Act→World→Prop} {Q:Exit→Act→World→Prop} {a:Act} {w:World} (h:Q .ret a w):Exit.then next Q .ret a w:=h
theorem wp_symQ {P:Program} {ops:Array Oper} {y:Code} {Q:Exit→Act→World→Prop} {T0:Array Value} {n:Nat} {L:Ks} {w0:World} {gs:List Gf} {id:Nat} {d:Bool} {W:World} {E:List Bx} (hS:Fb w0 W E) (hG:GsAt gs W) (hK:Kn T0 n L) (S:Pqs→List Spo) (L1:Pqs→Ks) (hm:P.follows .mixedOrders = true) (hsh:∀ p p',(S p).map Spo.bare = (S p').map Spo.bare) (hB:∀ p,symB ops n L E (S p) p (L1 p) = true) (hL:∀ p,(L1 p).map (fun x=>slotAt L x.1 (S p).length (puts p 0 (S p))) = (L1 p).map (·.2))
  (hok:∀ p,Oks P ops L E (S p) (GsAt gs) w0 W.heap.size p 0 (S p))
  (hfin:∀ p W' T1,SymF E (S p) (GsAt gs) w0 W.heap.size p W'→Kn T1 n (L1 p)→y.wp P Q ⟨T1,[]⟩ W') :
  (Code.seq (Code.region id ops d) y).wp P Q ⟨T0,[]⟩ W:=wp_seq (wp_symG hS hG hK S L1 hm hsh hB hL hok hfin)
def allBx:Nat→List Bx→List Nat
 | _,[]=>[]
 | i,_ :: r=>i :: allBx (i+1) r
@[reducible] def pT (b k:Nat):Value:=.pointer (some ⟨b,k,none⟩)
theorem wq {P:Program} {ops:Array Oper} {Q:Exit→Act→World→Prop} {T0:Array Value} {n:Nat} {L:Ks} {w0:World} {gs:List Gf} {id:Nat} {d:Bool} {W:World} {E:List Bx} {y:Code} (hS:Fb w0 W E) (hG:GsAt gs W) (hK:Kn T0 n L) (S:Pqs→List Spo) (L1:Pqs→Ks) (hok:∀ p,Oks P ops L E (S p) (GsAt gs) w0 W.heap.size p 0 (S p)) (hfin:∀ p W' T1,SymF E (S p) (GsAt gs) w0 W.heap.size p W'→Kn T1 n (L1 p)→y.wp P Q ⟨T1,[]⟩ W') (hm:P.follows .mixedOrders = true:=by kernel_rfl) (hsh:∀ p p',(S p).map Spo.bare = (S p').map Spo.bare:=by intro _ _; kernel_rfl) (hB:∀ p,symB ops n L E (S p) p (L1 p) = true:=by intro _; kernel_rfl) (hL:∀ p,(L1 p).map (fun x=>slotAt L x.1 (S p).length (puts p 0 (S p))) = (L1 p).map (·.2):=by intro _; kernel_rfl):(Code.seq (Code.region id ops d) y).wp P Q ⟨T0,[]⟩ W:=wp_symQ hS hG hK S L1 hm hsh hB hL hok hfin
theorem wg {P:Program} {ops:Array Oper} {Q:Exit→Act→World→Prop} {T0:Array Value} {n:Nat} {L:Ks} {w0:World} {gs:List Gf} {id:Nat} {d:Bool} {W:World} {E:List Bx} (hS:Fb w0 W E) (hG:GsAt gs W) (hK:Kn T0 n L) (S:Pqs→List Spo) (L1:Pqs→Ks) (hok:∀ p,Oks P ops L E (S p) (GsAt gs) w0 W.heap.size p 0 (S p)) (hfin:∀ p W' T1,SymF E (S p) (GsAt gs) w0 W.heap.size p W'→Kn T1 n (L1 p)→Q .normal ⟨T1,[]⟩ W') (hm:P.follows .mixedOrders = true:=by kernel_rfl) (hsh:∀ p p',(S p).map Spo.bare = (S p').map Spo.bare:=by intro _ _; kernel_rfl) (hB:∀ p,symB ops n L E (S p) p (L1 p) = true:=by intro _; kernel_rfl) (hL:∀ p,(L1 p).map (fun x=>slotAt L x.1 (S p).length (puts p 0 (S p))) = (L1 p).map (·.2):=by intro _; kernel_rfl):(Code.region id ops d).wp P Q ⟨T0,[]⟩ W:=wp_symG hS hG hK S L1 hm hsh hB hL hok hfin
theorem okv {P:Program} {ops:Array Oper} {L:Ks} {E:List Bx} {S:List Spo} {G:World→Prop} {w0:World} {base:Nat} {p:Pqs} {i:Nat} {r:List Spo} {s:Nat} {x:Value} (t:Oks P ops L E S G w0 base p (i+1) r) (h:opRun P ops L (puts p 0 S) i 0 [] = some (some s,true,some (.value x,[])):=by kernel_rfl):Oks P ops L E S G w0 base p i (.v s x :: r):=ok_v h t
theorem okvi {P:Program} {ops:Array Oper} {L:Ks} {E:List Bx} {S:List Spo} {G:World→Prop} {w0:World} {base:Nat} {p:Pqs} {i:Nat} {r:List Spo} {s:Nat} {k:IntKind} {x y:Int} (e:x = y) (t:Oks P ops L E S G w0 base p (i+1) r) (h:opRun P ops L (puts p 0 S) i 0 [] = some (some s,true,some (.value (.int k x),[])):=by kernel_rfl):Oks P ops L E S G w0 base p i (.v s (.int k y) :: r):=ok_vi e h t
theorem okvb {P:Program} {ops:Array Oper} {L:Ks} {E:List Bx} {S:List Spo} {G:World→Prop} {w0:World} {base:Nat} {p:Pqs} {i:Nat} {r:List Spo} {s:Nat} {x y:Bool} (e:x = y) (t:Oks P ops L E S G w0 base p (i+1) r) (h:opRun P ops L (puts p 0 S) i 0 [] = some (some s,true,some (.value (.bool x),[])):=by kernel_rfl):Oks P ops L E S G w0 base p i (.v s (.bool y) :: r):=ok_vb e h t
theorem okn {P:Program} {ops:Array Oper} {L:Ks} {E:List Bx} {S:List Spo} {G:World→Prop} {w0:World} {base:Nat} {p:Pqs} {i:Nat} {r:List Spo} {s:Nat} {cs:Array Value} {ty:TypeId} (t:Oks P ops L E S G w0 base p (i+1) r) (h:∀ q,opRun P ops L (puts p 0 S) i q [] = some (some s,true,some (.value (nv q ty),[.nw (.cells cs (ty % 1000000))])):=by intro _; kernel_rfl):Oks P ops L E S G w0 base p i (.n s cs ty :: r):=ok_n h t
theorem okc {P:Program} {ops:Array Oper} {L:Ks} {E:List Bx} {S:List Spo} {G:World→Prop} {w0:World} {base:Nat} {p:Pqs} {i:Nat} {r:List Spo} {s:Option Nat} {f:Cf} {fn:FuncId} {args:Array Value} (hc:∀ W,Cx ops E S G w0 base p i W→Calls P fn args W fun en W'=>∃ q,en = .returned (f.f q)∧Below W.heap.size W W'∧f.g q W') (t:Oks P ops L E S G w0 base p (i+1) r) (h:opRun P ops L (puts p 0 S) i 0 [] = some (s,true,some (.enter fn args,[])):=by kernel_rfl):Oks P ops L E S G w0 base p i (.c s f :: r):=ok_c hc h t
theorem oku {P:Program} {ops:Array Oper} {L:Ks} {E:List Bx} {S:List Spo} {G:World→Prop} {w0:World} {base:Nat} {p:Pqs} {i:Nat} {r:List Spo} {s:Nat} {x:Value} {g:Array Value→Value} {fn:FuncId} {args:Array Value} (hc:∀ W,Cx ops E S G w0 base p i W→Calls P fn args W fun en W'=>en = .returned x∧Below W.heap.size W W') (t:Oks P ops L E S G w0 base p (i+1) r) (h:opRun P ops L (puts p 0 S) i 0 [] = some (some s,true,some (.enter fn args,[])):=by kernel_rfl) (hx:g args = x:=by kernel_rfl):Oks P ops L E S G w0 base p i (.u s x g :: r):=ok_u hc h hx t
theorem okl {P:Program} {ops:Array Oper} {L:Ks} {E:List Bx} {S:List Spo} {G:World→Prop} {w0:World} {base:Nat} {p:Pqs} {i:Nat} {r:List Spo} {s j off:Nat} {x:Value} (t:Oks P ops L E S G w0 base p (i+1) r) (hb:(boxOf E S p j).isSome = true:=by kernel_rfl) (h:opRun P ops L (puts p 0 S) i 0 x.cells.toList = some (some s,true,some (.value x,lds (blkOf E S p j) off x.cells.toList)):=by kernel_rfl) (hc:((cellsOf (fun k=>Nat.blt k i) j 0 S (csOf E S p j)).toList.drop off).take x.cells.size = x.cells.toList:=by kernel_rfl):Oks P ops L E S G w0 base p i (.l s x j off :: r):=ok_L hb h hc t
theorem okp {P:Program} {ops:Array Oper} {L:Ks} {E:List Bx} {S:List Spo} {G:World→Prop} {w0:World} {base:Nat} {p:Pqs} {i:Nat} {r:List Spo} {j off:Nat} {xs:List Value} (t:Oks P ops L E S G w0 base p (i+1) r) (hb:(boxOf E S p j).isSome = true:=by kernel_rfl) (h:opRun P ops L (puts p 0 S) i 0 [] = some (none,true,some (.skip,sts (blkOf E S p j) off xs)):=by kernel_rfl) (hc:Nat.ble (off+xs.length) (csOf E S p j).size = true:=by kernel_rfl):Oks P ops L E S G w0 base p i (.p j off xs :: r):=ok_P hb h hc t
theorem okk {P:Program} {ops:Array Oper} {L:Ks} {E:List Bx} {S:List Spo} {G:World→Prop} {w0:World} {base:Nat} {p:Pqs} {i:Nat} {r:List Spo} {s:Option Nat} (t:Oks P ops L E S G w0 base p (i+1) r) (h:(match opRun P ops L (puts p 0 S) i 0 [] with|some (a,b,_)=>some (a,b)|none=>none) = some (s,false):=by kernel_rfl):Oks P ops L E S G w0 base p i (.k s :: r):=ok_K h t
theorem SymF.fc {E:List Bx} {S:List Spo} {G:World→Prop} {w0 W0:World} {p:Pqs} {W:World} (hS:Fb w0 W0 E) (h:SymF E S G w0 W0.heap.size p W) (js:List Nat) (E1:List Bx) (e:finBx E S p js = E1:=by kernel_rfl) (nd:nodupB js = true:=by kernel_rfl):Fb w0 W E1:=SymF.fb hS h js E1 e nd
theorem SymF.fd {E:List Bx} {S:List Spo} {G:World→Prop} {w0 W0:World} {p:Pqs} {W:World} (hS:Fb w0 W0 E) (h:SymF E S G w0 W0.heap.size p W) (e:finBx E S p (allBx 0 E) = E:=by kernel_rfl) (nd:nodupB (allBx 0 E) = true:=by kernel_rfl):Fb w0 W E:=SymF.fb hS h _ E e nd
theorem SymF.fg {E:List Bx} {S:List Spo} {G:World→Prop} {w0 W0:World} {p:Pqs} {W:World} (hS:Fb w0 W0 E) (h:SymF E S G w0 W0.heap.size p W) (e:finBx E S p (allBx 0 E) = E:=by kernel_rfl) (nd:nodupB (allBx 0 E) = true:=by kernel_rfl):Fb w0 W E∧G W:=⟨SymF.fb hS h _ E e nd,h.gx⟩
theorem Kn.ew {T:Array Value} {n:Nat} {L:Ks} (h:Kn T n L) (s:Nat) {v:Value} (hi:inK L s = true:=by kernel_rfl) (hv:lookK L s = v:=by kernel_rfl):Act.eval ⟨T,[]⟩ (.tmp s) = v:=h.ev s hi v hv
theorem script_bind {α β:Type} (P:Program) (r:Nat) (m:Sem α) (k:α→Sem β) (vs:List Value):∀ x:α,script P r m [] = some (x,[])→script P r (m >>= k) vs = script P r (k x) vs:=by
 induction m with
 | pure a=>
  intro x h
  simp only [script,Option.some.injEq,Prod.mk.injEq] at h
  rw [← h.1]; rfl
 | load _ a k' _=>intro x h; simp [script] at h
 | store _ a v k' _=>
  intro x h
  simp only [script] at h
  split at h
  ·simp at h
  ·cases h
 | new o k' _=>
  intro x h
  simp only [script] at h
  split at h
  ·simp at h
  ·cases h
 | program k' ih=>intro x h; exact ih P x h
 | mark _ k' ih=>intro x h; exact ih x h
 | _=>intro x h; simp [script] at h
theorem script_pure {α:Type} (P:Program) (r:Nat) (a:α):script P r (pure a:Sem α) [] = some (a,[]):=rfl
theorem script_under {P:Program} {r:Nat} {t:TypeId} {d:TypeDesc} (h:P.underlying t = some d):script P r (underlying t) [] = some (d,[]):=by
 show script P r (match P.underlying t with|some d=>pure d|none=>_) [] = _
 rw [h]; rfl
theorem ok_vr {P:Program} {ops:Array Oper} {L:Ks} {E:List Bx} {S:List Spo} {G:World→Prop} {w0:World} {base:Nat} {p:Pqs} {i:Nat} {r:List Spo} {s:Nat} {x:Value} {m:Sem Value} (e:script P 0 m [] = some (x,[])) (h:opRun P ops L (puts p 0 S) i 0 [] = some (some s,true,script P 0 (do pure (Next.value (← m))) [])) (t:Oks P ops L E S G w0 base p (i+1) r):Oks P ops L E S G w0 base p i (.v s x :: r):=
 ⟨(show opRun P ops L (puts p 0 S) i 0 [] = some (some s,true,some (.value x,[])) by rw [h,script_bind P 0 m _ [] x e]; rfl),t⟩
theorem script_bound {P:Program} {r:Nat} {k:IntKind} {i:Int} {y:Nat} {c:BoundsCode} (h0:0≤i) (h1:i≤(y:Int)):script P r (Instr.sliceBound (.int k i) y c) [] = some (i.toNat,[]):=by
 show script P r (if 0≤i∧i≤(y:Int) then pure i.toNat else boundsPanic k i y c) [] = _
 rw [if_pos ⟨h0,h1⟩]; rfl
theorem script_slice {P:Program} {r:Nat} {t:TypeId} {s:ByteArray} {l h:Int} (hu:P.underlying t = some .string) (h0:0≤l) (h1:l≤h) (h2:h≤(s.size:Int)):script P r (Instr.sliceAt t (.string s) (some (.int .i64 l)) (some (.int .i64 h)) none) [] = some (.string (s.extract l.toNat h.toNat),[]):=by
 unfold Instr.sliceAt
 rw [script_bind P r _ _ [] _ (script_under hu)]
 show script P r (Instr.slice t (.string s) (some (.int .i64 l)) (some (.int .i64 h)) none) [] = _
 unfold Instr.slice
 rw [script_bind P r _ _ [] _ (script_under hu)]
 have hb:script P r (Instr.sliceBounds false s.size s.size (some (.int .i64 l)) (some (.int .i64 h)) none) [] = some ((l.toNat,h.toNat,s.size),[]):=by
  show script P r (do let h ← Instr.sliceBound (.int .i64 h) s.size .sliceAlen; let l ← Instr.sliceBound (.int .i64 l) h .sliceB; pure (l,h,s.size)) [] = _
  rw [script_bind P r _ _ [] _ (script_bound (by omega) h2),script_bind P r _ _ [] _ (script_bound h0 (by omega))]; rfl
 show script P r (do let (l,h,_) ← Instr.sliceBounds false s.size s.size (some (.int .i64 l)) (some (.int .i64 h)) none; (pure (Value.string (s.extract l h)):Sem Value)) [] = _
 rw [script_bind P r _ _ [] _ hb]; rfl
theorem or_wrap (A x:Nat) (hx:x < 4294967296):Go.bits .or .u64 (IntKind.u64.wrap ((A:Int) * 4294967296)) (x:Int) = ((A % 4294967296 * 4294967296+x:Nat):Int):=by
 have e:IntKind.u64.wrap ((A:Int) * 4294967296) = ((A % 4294967296:Nat):Int) * 4294967296:=by rw [IntKind.wrap_u64]; omega
 rw [e,or_limb _ _ (by omega) hx]
 omega
theorem down_shr (t k pt:Nat) (h:k % 32 = pt):((t:Int) / 2 ^ (k % 32)) % 4294967296 = ((t / 2 ^ pt % 4294967296:Nat):Int):=by
 rw [h,Int.natCast_emod,Int.natCast_ediv,Int.natCast_pow]
 rfl
theorem down_step {V x h P Q:Nat} (hP:0 < P) (hPQ:4294967296 = P * Q) (hh:h = V % 4294967296) (hx:x < 4294967296):(h * 4294967296+x) / P % 4294967296+4294967296 * (V / P) = (x+4294967296 * V) / P:=by
 have hr:V % P < P:=Nat.mod_lt _ hP
 have hm:h % P = V % P:=by rw [hh,Nat.mod_mod_of_dvd V ⟨Q,hPQ⟩]
 have hv:=Nat.div_add_mod V P
 have hu:=Nat.div_add_mod h P
 rw [hm] at hu
 generalize V % P = r at *
 generalize V / P = v at *
 generalize h / P = u at *
 have hD:(x+4294967296 * r) / P < 4294967296:=by
  rw [Nat.div_lt_iff_lt_mul hP]
  have:4294967296 * (r+1)≤4294967296 * P:=Nat.mul_le_mul_left _ hr
  omega
 have e1:h * 4294967296+x = P * (u * 4294967296)+(x+4294967296 * r):=by
  rw [← hu,Nat.add_mul,Nat.mul_assoc]; omega
 have e2:x+4294967296 * V = P * (4294967296 * v)+(x+4294967296 * r):=by
  rw [← hv,Nat.mul_add,Nat.mul_left_comm]; omega
 rw [e1,e2,Nat.mul_add_div hP,Nat.mul_add_div hP,Nat.mul_comm u,Nat.mul_add_mod,Nat.mod_eq_of_lt hD]
 omega
theorem val_mod (ys:List Nat) (hw:Pl.Wf ys) (j:Nat):ys[j]?.getD 0 = Pl.val (ys.drop j) % 4294967296:=by
 by_cases h:j < ys.length
 ·have:=Pl.wf_at hw j
  rw [Pl.drop_cons ys j h]
  simp only [Pl.val]
  omega
 ·rw [List.drop_eq_nil_of_le (by omega),List.getElem?_eq_none (by omega)]; rfl
theorem set_rep' (j v:Nat) (qs:List Nat):(List.replicate (j+1) 0 ++ qs).set j v = List.replicate j 0 ++ (v :: qs):=by
 rw [List.set_append_left _ _ (by simp),List.replicate_succ',List.set_append_right _ _ (by simp)]
 simp
theorem shiftDown_some (b off cap wh pt k N:Nat) (ys:List Nat) (w:World) (hy:Hid (ys.length = N)) (hN0:0 < N) (hN:N≤40000) (hwh:wh≤40000) (hcap:wh+N≤cap) (hcap2:cap≤9223372036854775807) (hx:Pl.Wf ys) (hlt:b < w.heap.size) (hk:Hid (k = 32 * wh+pt)) (hpt:pt < 32)
  (hc:∀ j,j < N→w.cell? ⟨b,off+wh+j,none⟩ = some (.int .u32 ((ys[j]?.getD 0:Nat):Int))) :
  Calls Tryz.prog 127 #[.slice (some ⟨b,off,none⟩) (wh+N) cap,.int .i64 (k:Int)] w
   fun e w'=>∃ l qs,e = .returned (.slice (some ⟨w.heap.size,0,none⟩) l l)∧l≤N∧Own w' w.heap.size (.slice (some ⟨w.heap.size,0,none⟩) l l) qs∧qs.length = l∧Pl.Wf qs∧Pl.Norm qs∧Pl.val qs = Pl.val ys / 2 ^ pt∧Below w.heap.size w w':=by
 have hmk:=make_limbs ((N:Int)) N rfl (by omega)
 have hq:(k:Int) / 32 = (wh:Int):=by have:=unhide hk; omega
 have hr:(k:Int) % 32 = (pt:Int):=by have:=unhide hk; omega
 have HP:Hid (k % 32 = pt):=by have:=unhide hk; exact hide (by omega)
 go_enter Tryz.func127,Tryz.ntmps127
 go_wp2
 clear hmk hq hr
 go_loopw [9,10] (fun ab i wr=>∃ (j A:Nat) (qs:List Nat),j≤N∧i = .int .i64 ((j:Int) - 1)∧ab = .int .u64 (A:Int)∧A < 18446744073709551616∧A % 4294967296 = ys[j]?.getD 0∧qs.length = N - j∧Pl.Wf qs∧Pl.val qs = Pl.val (ys.drop j) / 2 ^ pt ∧
   Row wr w.heap.size (List.replicate j 0 ++ qs)∧Below w.heap.size w wr) (fun _ i _=>(intOf i+1).toNat)
 case atStart=>
  refine ⟨N,0,[],Nat.le_refl _,rfl,rfl,by omega,?_,by simp,Pl.wf_nil,?_,?_,gr_alloc _ _⟩
  ·rw [List.getElem?_eq_none (by rw [unhide hy]; omega)]; rfl
  ·rw [List.drop_eq_nil_of_le (by rw [unhide hy]; omega)]; simp [Pl.val]
  ·rw [List.append_nil]; exact Row.made _ _
 case round=>
  obtain ⟨j,A,qs,hj,rfl,rfl,hA,hAm,hql,hqw,hv,hrow,hbel⟩:=hrel
  by_cases hj0:j = 0
  ·subst hj0
   have hr2:Row wr w.heap.size qs:=by simpa using hrow
   rw [List.drop_zero] at hv
   have HV:=hide hv
   clear hv hrow hAm hc
   go_wp2_with fail
   refine (trim_at w.heap.size 0 N N qs wr (by omega) (Nat.le_refl _) (by omega) (fun j hj=>by rw [Nat.zero_add]; exact hr2.cell j hj)).mono ?_
   rintro e w1 ⟨rfl,l,hl,h0,h1,rfl⟩
   have HT:=hide (trim_row hr2 (Nat.le_refl _) (by omega) hqw hl h0 h1)
   clear h0 h1
   go_wp2
   go_ret
   obtain ⟨t1,t2,t3,t4,t5⟩:=unhide HT
   exact ⟨l,qs.take l,rfl,by omega,t2,t1,t3,t4,by rw [t5,unhide HV],hbel⟩
  ·obtain ⟨i,rfl⟩:∃ i,j = i+1:=⟨j - 1,by omega⟩
   obtain ⟨x,hxx⟩:∃ x,x = ys[i]?.getD 0:=⟨_,rfl⟩
   have hx1:x < 4294967296:=by rw [hxx]; exact Pl.wf_at hx i
   have hcx:wr.cell? ⟨b,off+wh+i,none⟩ = some (.int .u32 (x:Int)):=by rw [hxx]; exact (hbel.cell (by exact hlt)).trans (hc i (by omega))
   have hcq:=hrow.cell i (by simp; omega)
   have hfq:=hrow.frozen i
   have HV:Hid (Pl.val ((A % 4294967296 * 4294967296+x) / 2 ^ pt % 4294967296 :: qs) = Pl.val (ys.drop i) / 2 ^ pt):=by
    have hyl:=unhide hy
    rw [Pl.drop_cons ys i (by omega),← hxx]
    simp only [Pl.val]
    rw [hv]
    exact down_step (Nat.pow_pos (by decide)) (pow_split hpt) (by rw [hAm]; exact val_mod ys hx (i+1)) hx1
   have HR:=hide (hrow.set i ((A % 4294967296 * 4294967296+x) / 2 ^ pt % 4294967296) (by simp; omega))
   have HX:=hide hxx
   have hA2:A % 4294967296 < 4294967296:=Nat.mod_lt _ (by decide)
   clear hxx hv hrow hc hAm
   go_wp2
   go_roundw
   case rel=>
    rw [or_wrap A x hx1,down_shr _ k pt (unhide HP)]
    refine ⟨i,A % 4294967296 * 4294967296+x,(A % 4294967296 * 4294967296+x) / 2 ^ pt % 4294967296 :: qs,by omega,rfl,rfl,by omega,by rw [← unhide HX]; omega,by simp; omega,Pl.wf_cons (Nat.mod_lt _ (by decide)) hqw,unhide HV,?_,hbel.setCell (Nat.le_refl _) _⟩
    have h:=unhide HR
    rwa [set_rep'] at h
   case measure=>simp [intOf]
theorem shiftDown_nil (a:Option Addr) (n cap wh k:Nat) (w:World) (hk:Hid (wh = k / 32)) (hk2:wh < 9223372036854775808) (hle:n≤wh) :
  Calls Tryz.prog 127 #[.slice a n cap,.int .i64 (k:Int)] w fun e w'=>e = .returned (.slice none 0 0)∧w' = w:=by
 have hq:(k:Int) / 32 = (wh:Int):=by have:=unhide hk; omega
 have hd:(n:Int)≤(wh:Int):=by omega
 clear hle
 go_enter Tryz.func127,Tryz.ntmps127
 go_wp2
 go_ret
 exact ⟨rfl,rfl⟩
theorem shiftDown_any (a:Option Addr) (n cap m k:Nat) (w:World) (h:Num w a n m) (hcap:n≤cap) (hcap2:cap≤9223372036854775807) (hk:k < 9223372036854775808) :
  Calls Tryz.prog 127 #[.slice a n cap,.int .i64 (k:Int)] w fun e w'=>(∃ a' l c,e = .returned (.slice a' l c)∧Mine w' w.heap.size a' l c (m / 2 ^ k))∧Below w.heap.size w w':=by
 obtain ⟨xs,hn,hl,hw,hN,hv,hb⟩:=h
 by_cases hle:n≤k / 32
 ·refine (shiftDown_nil a n cap (k / 32) k w rfl (by omega) hle).mono ?_
  rintro e w' ⟨rfl,rfl⟩
  have h0:m / 2 ^ k = 0:=by
   apply Nat.div_eq_of_lt
   have h1:=Pl.val_lt hw
   rw [hv,hn] at h1
   have h2:(4294967296:Nat) ^ n = 2 ^ (32 * n):=by rw [Nat.pow_mul]
   have h3:=Nat.pow_le_pow_right (show 0 < 2 by decide) (show 32 * n≤k by omega)
   rw [h2] at h1
   exact Nat.lt_of_lt_of_le h1 h3
  rw [h0]
  exact ⟨⟨none,0,0,rfl,[],rfl,Or.inl ⟨rfl,rfl⟩,Pl.wf_nil,Pl.norm_nil,rfl,by omega⟩,gr_refl _⟩
 ·rcases hl.parts with hx|⟨hp,b,off,rfl,hltb,hcx⟩
  ·rw [hx] at hn; simp at hn; omega
  ·obtain ⟨N,rfl⟩:∃ N,n = k / 32+N:=⟨n - k / 32,by omega⟩
   have hyl:(xs.drop (k / 32)).length = N:=by rw [List.length_drop]; omega
   refine (shiftDown_some b off cap (k / 32) (k % 32) k N (xs.drop (k / 32)) w (hide hyl) (by omega) (by omega) (by omega) hcap hcap2 (Pl.wf_drop hw _) hltb (hide (by omega)) (by omega) (fun j hj=>?_)).mono ?_
   ·have:=hcx (k / 32+j) (by omega)
    rw [← Nat.add_assoc] at this
    rw [this,List.getElem?_drop]
   ·rintro e w' ⟨l,qs,rfl,hlN,hO,hql,hqw,hqN,hqv,hb1⟩
    refine ⟨⟨_,l,l,rfl,qs,hql,hO,hqw,hqN,?_,by omega⟩,hb1⟩
    rw [hqv,← hv,Pl.val_split xs (k / 32) (by omega)]
    have e:2 ^ k = 4294967296 ^ (k / 32) * 2 ^ (k % 32):=by
     rw [show (4294967296:Nat) = 2 ^ 32 from rfl,← Nat.pow_mul,← Nat.pow_add]
     congr 1; omega
    have hlo:=Pl.val_lt (Pl.wf_take hw (k / 32))
    rw [List.length_take,Nat.min_eq_left (by omega)] at hlo
    rw [e,← Nat.div_div_eq_div_mul]
    congr 1
    rw [Nat.add_comm,Nat.mul_add_div (Nat.lt_of_le_of_lt (Nat.zero_le _) hlo),Nat.div_eq_of_lt hlo,Nat.add_zero]
theorem bne_cast (c:Nat):((c:Int) != 0) = (c != 0):=by rw [Bool.eq_iff_iff]; simp
theorem addInto_some (B p n b off m cap cap':Nat) (pre d post xs:List Nat) (w:World) (hp:Hid (pre.length = p)) (hd:Hid (d.length = n)) (hx:Hid (xs.length = m)) (hmn:m≤n) (hlen:n≤40000) (hne:b≠B)
  (wd:Pl.Wf d) (wx:Pl.Wf xs) (hrow:Row w B (pre ++ d ++ post))
  (hc:∀ j,j < m→w.cell? ⟨b,off+j,none⟩ = some (.int .u32 ((xs[j]?.getD 0:Nat):Int))) :
  Calls Tryz.prog 141 #[.slice (some ⟨B,p,none⟩) n cap,.slice (some ⟨b,off,none⟩) m cap'] w
   fun e w'=>∃ (out:List Nat) (c:Nat),e = .returned (.bool (c != 0))∧out.length = n∧Pl.Wf out∧c≤1∧Pl.val out+4294967296 ^ n * c = Pl.val d+Pl.val xs∧Row w' B (pre ++ out ++ post)∧Only B w w':=by
 go_enter Tryz.func141,Tryz.ntmps141
 go_wp2
 go_loopw [5,9] (fun t i wr=>∃ (k c:Nat) (out:List Nat),k≤n∧i = .int .i64 k∧t = .int .u64 (c:Int)∧c≤1∧out.length = k∧Pl.Wf out ∧
   Pl.val out+4294967296 ^ k * c = Pl.val (d.take k)+Pl.val (xs.take k)∧Row wr B (pre ++ (out ++ d.drop k) ++ post)∧Only B w wr) (fun _ i _=>n - (intOf i).toNat)
 case atStart=>exact ⟨0,0,[],Nat.zero_le _,rfl,rfl,by omega,rfl,Pl.wf_nil,by simp [Pl.val],by simpa using hrow,Only.refl _ _⟩
 case round=>
  obtain ⟨k,c,out,hk,rfl,rfl,hcl,hol,how,hval,hr,honly⟩:=hrel
  have hpl:=unhide hp
  have hdl:=unhide hd
  have hxl:=unhide hx
  by_cases hlt:k < n
  ·obtain ⟨y,hy⟩:∃ y,y = d[k]?.getD 0:=⟨_,rfl⟩
   obtain ⟨x,hxx⟩:∃ x,x = xs[k]?.getD 0:=⟨_,rfl⟩
   have hx1:x < 4294967296:=by rw [hxx]; exact Pl.wf_at wx k
   have hy1:y < 4294967296:=by rw [hy]; exact Pl.wf_at wd k
   have hcd:wr.cell? ⟨B,p+k,none⟩ = some (.int .u32 (y:Int)):=by
    rw [hr.cell (p+k) (by simp; omega),← hpl,at_mid _ _ _ _ _ hol (by omega),hy]
   have hfz:wr.frozen? ⟨B,p+k,none⟩ = false:=hr.frozen _
   have HV:Hid (∀ q r,c+y+x = q * 4294967296+r→Pl.val (out ++ [r])+4294967296 ^ (k+1) * q = Pl.val (d.take (k+1))+Pl.val (xs.take (k+1))):=fun q r e=>by
    rw [Pl.val_append,Pl.val_one,hol,Pl.val_take_any d k,Pl.val_take_any xs k,← hy,← hxx]
    exact Pl.step_add _ (Nat.pow_succ ..) hval (c+y+x) q r e y rfl
   have HR:Hid (∀ v,Row (wr.setCell ⟨B,p+k,none⟩ (.int .u32 ((v:Nat):Int))) B (pre ++ ((out ++ [v]) ++ d.drop (k+1)) ++ post)):=fun v=>by
    have:=hr.set (p+k) v (by simp; omega)
    rw [← hpl] at this ⊢
    rwa [set_mid _ _ _ _ _ _ hol (by omega)] at this
   by_cases hkm:k < m
   ·have hcx:wr.cell? ⟨b,off+k,none⟩ = some (.int .u32 (x:Int)):=by rw [hxx]; exact (honly.cell (by exact hne)).trans (hc k hkm)
    clear hval hy hxx hr hpl hdl hxl hc
    go_wp2
    go_roundw
    case rel=>
     have e1:((c:Int)+(y:Int)+(x:Int)) / 4294967296 = (((c+y+x) / 4294967296:Nat):Int):=by omega
     have e2:((c:Int)+(y:Int)+(x:Int)) % 4294967296 = (((c+y+x) % 4294967296:Nat):Int):=by omega
     rw [e1,e2]
     exact ⟨k+1,(c+y+x) / 4294967296,out ++ [(c+y+x) % 4294967296],by omega,by go_num,rfl,by omega,by simp [hol],Pl.wf_append how (Pl.wf_one (by omega)),unhide HV _ _ (by omega),unhide HR _,honly.setCell _ _⟩
    case measure=>simp [intOf]; omega
   ·have hx0:x = 0:=by rw [hxx,List.getElem?_eq_none (by omega)]; rfl
    subst hx0
    clear hval hy hxx hr hpl hdl hxl hc
    go_wp2
    go_roundw
    case rel=>
     have e1:((c:Int)+(y:Int)) / 4294967296 = (((c+y+0) / 4294967296:Nat):Int):=by omega
     have e2:((c:Int)+(y:Int)) % 4294967296 = (((c+y+0) % 4294967296:Nat):Int):=by omega
     rw [e1,e2]
     exact ⟨k+1,(c+y+0) / 4294967296,out ++ [(c+y+0) % 4294967296],by omega,by go_num,rfl,by omega,by simp [hol],Pl.wf_append how (Pl.wf_one (by omega)),unhide HV _ _ (by omega),unhide HR _,honly.setCell _ _⟩
    case measure=>simp [intOf]; omega
  ·have hke:k = n:=by omega
   subst hke
   rw [List.take_of_length_le (by omega),List.take_of_length_le (by omega)] at hval
   rw [List.drop_eq_nil_of_le (by omega),List.append_nil] at hr
   have HV:=hide hval
   clear hval hpl hdl hxl
   go_wp2
   go_ret
   exact ⟨out,c,ret_bool (a:=((c:Int) != 0)) (bne_cast c),hol,how,hcl,unhide HV,hr,honly⟩
theorem tt_step {o p c d f s B y t hi lo r bo:Nat} (B':Nat) (hB:B' = B * 4294967296) (h:o+f * p = d+B * c) (ht:t = c+s * f) (e:t = 4294967296 * hi+lo) (hr:r+lo = y+4294967296 * bo) :
  (o+B * r)+f * (p+B * s) = (d+B * y)+B' * (hi+bo):=by
 subst hB
 have e1:B * t = B * 4294967296 * hi+B * lo:=by rw [e,Nat.mul_add,Nat.mul_assoc]
 have e2:B * t = B * c+f * (B * s):=by rw [ht,Nat.mul_add]; congr 1; rw [Nat.mul_comm s f,Nat.mul_left_comm]
 have e3:B * (r+lo) = B * (y+4294967296 * bo):=by rw [hr]
 rw [Nat.mul_add,Nat.mul_add,← Nat.mul_assoc] at e3
 rw [Nat.mul_add,Nat.mul_add]
 omega
theorem tt_bound {c f s hi lo:Nat} (hc:c≤f) (hs:s < 4294967296) (e:c+s * f = 4294967296 * hi+lo) (hl:lo < 4294967296):hi≤f∧(hi = f→lo = 0):=by
 have h1:s * f≤4294967295 * f:=Nat.mul_le_mul_right _ (by omega)
 constructor <;> omega
theorem tt_end {o v d c B B' r y bo:Nat} (hB:B' = B * 4294967296) (h:o+v = d+B * c) (e:r+c = y+4294967296 * bo):o+B * r+v = d+B * y+B' * bo:=by
 subst hB
 have e3:B * (r+c) = B * (y+4294967296 * bo):=by rw [e]
 rw [Nat.mul_add,Nat.mul_add,← Nat.mul_assoc] at e3
 omega
def TakeTo (B:Nat) (pre post d xs:List Nat) (f n:Nat) (w:World) (e:Ending) (w':World):Prop:=
 ∃ (out:List Nat) (bo:Bool),e = .returned (.bool bo)∧out.length = n+1∧Pl.Wf out∧Pl.val out+f * Pl.val xs = Pl.val d+4294967296 ^ (n+1) * bo.toNat∧Row w' B (pre ++ out ++ post)∧Only B w w'
theorem tt_e2 (y t:Nat) (hy:y < 4294967296) (h:(y:Int) < (t:Int) % 4294967296):((y:Int) - (t:Int)) % 4294967296 = ((y+4294967296 - t % 4294967296:Nat):Int):=by omega
theorem tt_e3 (y c:Nat) (hc:c < 4294967296) (h:(y:Int) < (c:Int)):((y:Int) - (c:Int)) % 4294967296 = ((y+4294967296 - c:Nat):Int):=by omega
theorem takeTimes_any (B p n b off cap cap' f:Nat) (pre d post xs:List Nat) (w:World) (hp:Hid (pre.length = p)) (hd:Hid (d.length = n+1)) (hx:Hid (xs.length = n)) (hlen:n≤20000) (hne:b≠B) (hf:f < 4294967296)
  (wd:Pl.Wf d) (wx:Pl.Wf xs) (hrow:Row w B (pre ++ d ++ post))
  (hc:∀ j,j < n→w.cell? ⟨b,off+j,none⟩ = some (.int .u32 ((xs[j]?.getD 0:Nat):Int))) :
  Calls Tryz.prog 140 #[.slice (some ⟨B,p,none⟩) (n+1) cap,.slice (some ⟨b,off,none⟩) n cap',.int .u32 (f:Int)] w
   (TakeTo B pre post d xs f n w):=by
 go_enter Tryz.func140,Tryz.ntmps140
 go_wp2
 go_loopw [7,15] (fun t i wr=>∃ (k c:Nat) (out:List Nat),k≤n∧i = .int .i64 k∧t = .int .u64 (c:Int)∧c≤f∧out.length = k∧Pl.Wf out ∧
   Pl.val out+f * Pl.val (xs.take k) = Pl.val (d.take k)+4294967296 ^ k * c∧Row wr B (pre ++ (out ++ d.drop k) ++ post)∧Only B w wr) (fun _ i _=>n - (intOf i).toNat)
 case atStart=>exact ⟨0,0,[],Nat.zero_le _,rfl,rfl,by omega,rfl,Pl.wf_nil,by simp [Pl.val],by simpa using hrow,Only.refl _ _⟩
 case round=>
  obtain ⟨k,c,out,hk,rfl,rfl,hcl,hol,how,hval,hr,honly⟩:=hrel
  have HVal:=hide hval
  clear hval
  have hpl:=unhide hp
  have hdl:=unhide hd
  have hxl:=unhide hx
  obtain ⟨y,hy⟩:∃ y,y = d[k]?.getD 0:=⟨_,rfl⟩
  have hy1:y < 4294967296:=by rw [hy]; exact Pl.wf_at wd k
  have hcd:wr.cell? ⟨B,p+k,none⟩ = some (.int .u32 (y:Int)):=by
   rw [hr.cell (p+k) (by simp; omega),← hpl,at_mid _ _ _ _ _ hol (by omega),hy]
  have hfz:wr.frozen? ⟨B,p+k,none⟩ = false:=hr.frozen _
  have HR:Hid (∀ v,Row (wr.setCell ⟨B,p+k,none⟩ (.int .u32 ((v:Nat):Int))) B (pre ++ ((out ++ [v]) ++ d.drop (k+1)) ++ post)):=fun v=>by
   have:=hr.set (p+k) v (by simp; omega)
   rw [← hpl] at this ⊢
   rwa [set_mid _ _ _ _ _ _ hol (by omega)] at this
  by_cases hlt:k < n
  ·obtain ⟨x,hxx⟩:∃ x,x = xs[k]?.getD 0:=⟨_,rfl⟩
   have hx1:x < 4294967296:=by rw [hxx]; exact Pl.wf_at wx k
   have hcx:wr.cell? ⟨b,off+k,none⟩ = some (.int .u32 (x:Int)):=by rw [hxx]; exact (honly.cell (by exact hne)).trans (hc k hlt)
   obtain ⟨t,ht⟩:∃ t,t = c+x * f:=⟨_,rfl⟩
   have hm0:=mul_lo x f
   have hm1:=mul_hi hx1 hf
   have hti:(c:Int)+(x:Int) * (f:Int) = (t:Int):=by rw [ht]; push_cast; rfl
   have ht1:t < 18446744073709551616:=by omega
   have hb2:=tt_bound hcl hx1 (by rw [← ht]; exact (Nat.div_add_mod t 4294967296).symm) (Nat.mod_lt _ (by decide))
   have HV:Hid (∀ r bo,r+t % 4294967296 = y+4294967296 * bo→Pl.val (out ++ [r])+f * Pl.val (xs.take (k+1)) = Pl.val (d.take (k+1))+4294967296 ^ (k+1) * (t / 4294967296+bo)):=fun r bo e=>by
    rw [Pl.val_append,Pl.val_one,hol,Pl.val_take_any d k,Pl.val_take_any xs k,← hy,← hxx]
    exact tt_step _ (Nat.pow_succ ..) (unhide HVal) ht (Nat.div_add_mod t 4294967296).symm e
   clear HVal hy hxx hr hpl hdl hxl hc ht
   by_cases hbo:y < t % 4294967296
   ·have hbi:(y:Int) < (t:Int) % 4294967296:=by omega
    clear hbo
    go_wp2
    go_roundw
    case rel=>
     have e1:(t:Int) / 4294967296+1 = ((t / 4294967296+1:Nat):Int):=by omega
     have e2:=tt_e2 y t hy1 hbi
     rw [e1,e2]
     exact ⟨k+1,t / 4294967296+1,out ++ [y+4294967296 - t % 4294967296],by omega,by go_num,rfl,by omega,by simp [hol],Pl.wf_append how (Pl.wf_one (by omega)),unhide HV _ 1 (by omega),unhide HR _,honly.setCell _ _⟩
    case measure=>simp [intOf]; omega
   ·have hbi:(t:Int) % 4294967296≤(y:Int):=by omega
    clear hbo
    go_wp2
    go_roundw
    case rel=>
     have e1:(t:Int) / 4294967296 = ((t / 4294967296:Nat):Int):=by omega
     have e2:(y:Int) - (t:Int) % 4294967296 = ((y - t % 4294967296:Nat):Int):=by omega
     rw [e1,e2]
     exact ⟨k+1,t / 4294967296,out ++ [y - t % 4294967296],by omega,by go_num,rfl,hb2.1,by simp [hol],Pl.wf_append how (Pl.wf_one (by omega)),unhide HV _ 0 (by omega),unhide HR _,honly.setCell _ _⟩
    case measure=>simp [intOf]; omega
  ·have hke:k = n:=by omega
   subst hke
   have hxt:xs.take k = xs:=List.take_of_length_le (by omega)
   have hdt:d.take (k+1) = d:=List.take_of_length_le (by omega)
   have HV:Hid (∀ r (bo:Bool),r+c = y+4294967296 * bo.toNat→Pl.val (out ++ [r])+f * Pl.val xs = Pl.val d+4294967296 ^ (k+1) * bo.toNat):=fun r bo e=>by
    have hd2:Pl.val d = Pl.val (d.take k)+4294967296 ^ k * y:=by
     have:=Pl.val_take_any d k
     rw [hdt,← hy] at this
     exact this
    rw [Pl.val_append,Pl.val_one,hol,hd2]
    have hval:=unhide HVal
    rw [hxt] at hval
    exact tt_end (Nat.pow_succ ..) hval e
   have HD:Hid (d.drop (k+1) = []):=List.drop_eq_nil_of_le (by omega)
   clear HVal hy hr hpl hdl hxl hc hxt hdt
   by_cases hbo:y < c
   ·have hbi:(y:Int) < (c:Int):=by omega
    clear hbo
    go_wp2
    go_ret
    have e2:=tt_e3 y c (by omega) hbi
    rw [e2]
    have hR:=unhide HR (y+4294967296 - c)
    rw [unhide HD,List.append_nil] at hR
    exact ⟨out ++ [y+4294967296 - c],true,rfl,by simp [hol],Pl.wf_append how (Pl.wf_one (by omega)),unhide HV _ true (by simp; omega),hR,honly.setCell _ _⟩
   ·have hbi:¬ (y:Int) < (c:Int):=by omega
    clear hbo
    go_wp2
    go_ret
    have e2:(y:Int) - (c:Int) = ((y - c:Nat):Int):=by omega
    rw [e2]
    have hR:=unhide HR (y - c)
    rw [unhide HD,List.append_nil] at hR
    exact ⟨out ++ [y - c],false,rfl,by simp [hol],Pl.wf_append how (Pl.wf_one (by omega)),unhide HV _ false (by simp; omega),hR,honly.setCell _ _⟩
def tyOf (E:List Bx) (S:List Spo) (p:Pqs) (j:Nat):TypeId:=match boxOf E S p j with
 | some (bx,_)=>bx.t
 | none=>0
theorem ok_W {P:Program} {ops:Array Oper} {L:Ks} {E:List Bx} {S:List Spo} {G:World→Prop} {w0:World} {base:Nat} {p:Pqs} {i:Nat} {r:List Spo} {s:Option Nat} {j off:Nat} {xs:List Value} {g:Pq→List Value} {f:Cf} {fn:FuncId} {args:Array Value} (b0:Nat) (cs0:Array Value) (t0:TypeId)
  (hc:∀ W,Cx ops E S G w0 base p i W→W.heap[b0]? = some (.cells cs0 t0 (0,0))→Calls P fn args W fun en W'=>∃ q,en = .returned (f.f q)∧(g q).length = xs.length∧Below W.heap.size (evs (sts b0 off (g q)) W) W'∧f.g q W')
  (h:opRun P ops L (puts p 0 S) i 0 [] = some (s,true,some (.enter fn args,[]))) (hb:(boxOf E S p j).isSome = true) (e1:blkOf E S p j = b0) (e2:cellsOf (fun k=>Nat.blt k i) j 0 S (csOf E S p j) = cs0) (e3:tyOf E S p j = t0) (hg:g (p i) = xs) (hn:Nat.ble (off+xs.length) (csOf E S p j).size = true) (t:Oks P ops L E S G w0 base p (i+1) r):Oks P ops L E S G w0 base p i (.w s j off xs g f :: r):=by
 obtain ⟨⟨bx,bo⟩,hbx⟩:=Option.isSome_iff_exists.1 hb
 unfold blkOf at e1; unfold csOf at e2 hn; unfold tyOf at e3
 rw [hbx] at e1 e2 e3 hn
 subst e1 e2 e3
 exact ok_w hbx hc h hg hn t
theorem as_w {P:Program} {fn:FuncId} {args:Array Value} {W:World} {b off:Nat} {v:Value} {xs:List Value} (h:Calls P fn args W fun en W'=>en = .returned v∧Below W.heap.size (evs (sts b off xs) W) W'):Calls P fn args W fun en W'=>∃ q,en = .returned ((cV v).f q)∧((fun _:Pq=>xs) q).length = xs.length∧Below W.heap.size (evs (sts b off ((fun _:Pq=>xs) q)) W) W'∧(cV v).g q W':=
 h.mono fun _ _ ⟨h1,h2⟩=>⟨pq0,h1,rfl,h2,trivial⟩
def cR (m:Nat) (f:Value→Value):Cf:=⟨fun q=>f (.slice q.A q.N q.C),fun q W=>Num W q.A q.N m,fun _=>sta_num _ _ _⟩
theorem as_r {P:Program} {fn:FuncId} {args:Array Value} {W:World} {m:Nat} {f:Value→Value} (h:Calls P fn args W fun en W'=>(∃ a n c,en = .returned (f (.slice a n c))∧Num W' a n m)∧Below W.heap.size W W'):Calls P fn args W fun en W'=>∃ q,en = .returned ((cR m f).f q)∧Below W.heap.size W W'∧(cR m f).g q W':=
 h.mono fun _ _ ⟨⟨a,n,c,h1,h3⟩,h2⟩=>⟨{ pq0 with A:=a,N:=n,C:=c },h1,h2,h3⟩
theorem as_wr {P:Program} {fn:FuncId} {args:Array Value} {W:World} {p:Nat} {e0:Int} {t:TypeId} {v:Value} {a:Option Addr} {n c m:Nat} (hW:W.heap[p]? = some (.cells #[.int .i64 e0] t (0,0))) (ht:t≠64) (hN:Num W a n m) (h:Calls P fn args W fun en W'=>en = .returned (.agg #[.slice a n c])∧Below W.heap.size (W.setCell ⟨p,0,none⟩ v) W') :
  Calls P fn args W fun en W'=>∃ q,en = .returned ((cR m fun x=>.agg #[x]).f q)∧((fun _:Pq=>[v]) q).length = [v].length∧Below W.heap.size (evs (sts p 0 ((fun _:Pq=>[v]) q)) W) W'∧(cR m fun x=>.agg #[x]).g q W':=
 h.mono fun _ _ ⟨h1,h2⟩=>⟨{ pq0 with A:=a,N:=n,C:=c },h1,rfl,h2,by
  have k:=(sta_num a n m).put W p _ t 0 v hW ht (by intro x hx; simp at hx; subst hx; intro z hz; cases hz) hN
  refine (sta_num a n m).kept _ _ ?_ k
  have:(W.setCell ⟨p,0,none⟩ v).heap.size = W.heap.size:=by simp
  rw [this]; exact h2⟩
theorem dval_nines (k:Nat):Pl.dval (List.replicate k 9) 0+1 = 10 ^ k:=by
 induction k with
 | zero=>rfl
 | succ k ih=>
  rw [List.replicate_succ,Pl.dval_cons,List.length_replicate,Nat.pow_succ]
  omega
theorem dval_noughts (k:Nat):Pl.dval (List.replicate k 0) 0 = 0:=by
 induction k with
 | zero=>rfl
 | succ k ih=>rw [List.replicate_succ,Pl.dval_cons,ih]; omega
theorem raise {ds:List Nat} {q:Nat} (hq:q < ds.length) (h9:∀ j,q < j→j < ds.length→ds[j]?.getD 0 = 9):Pl.dval (ds.take q ++ (ds[q]?.getD 0+1) :: List.replicate (ds.length - 1 - q) 0) 0 = Pl.dval ds 0+1:=by
 obtain ⟨k,hk⟩:∃ k,ds.length - 1 - q = k:=⟨_,rfl⟩
 have e:ds = ds.take q ++ (ds[q]?.getD 0) :: List.replicate k 9:=by
  apply List.ext_getElem?
  intro i
  rcases Nat.lt_trichotomy i q with h|h|h
  ·rw [List.getElem?_append_left (by rw [List.length_take]; omega),List.getElem?_take,if_pos h]
  ·subst h
   rw [List.getElem?_append_right (by rw [List.length_take]; omega),List.length_take,Nat.min_eq_left (by omega),Nat.sub_self,List.getElem?_cons_zero,List.getElem?_eq_getElem hq]
   simp
  ·rw [List.getElem?_append_right (by rw [List.length_take]; omega),List.length_take,Nat.min_eq_left (by omega)]
   obtain ⟨j,rfl⟩:∃ j,i = q+1+j:=⟨i - q - 1,by omega⟩
   rw [show q+1+j - q = j+1 from by omega,List.getElem?_cons_succ,List.getElem?_replicate]
   by_cases hl:q+1+j < ds.length
   ·have:=h9 (q+1+j) (by omega) hl
    rw [List.getElem?_eq_getElem hl] at this ⊢
    rw [if_pos (by omega)]
    simpa using this
   ·rw [List.getElem?_eq_none (by omega),if_neg (by omega)]
 rw [hk]
 conv=>rhs; rw [e]
 rw [dval_append,dval_append,Pl.dval_cons,Pl.dval_cons,List.length_cons,List.length_cons,List.length_replicate,List.length_replicate,dval_noughts]
 have:=dval_nines k
 rw [Nat.add_mul]
 omega
def addTo (ds:List Nat) (q:Nat):List Nat:=ds.take (q+1) ++ List.replicate (ds.length - 1 - q) 0
theorem addOne_any (B n:Nat) (ds:List Nat) (w:World) (hn:Hid (ds.length = n)) (h0:0 < n) (hlen:n≤65536) (hd:Hid (Pl.Dig ds)) (hz:Hid (ds[0]?.getD 0 = 0)) (hrow:BRow w B (ds.map (48+·))) :
  Calls Tryz.prog 96 #[.slice (some ⟨B,0,none⟩) n n] w fun e w'=>e = .returned (.tuple #[])∧(∃ es:List Nat,es.length = n∧Pl.Dig es∧Pl.dval es 0 = Pl.dval ds 0+1∧BRow w' B (es.map (48+·)))∧Only B w w':=by
 go_enter Tryz.func96,Tryz.ntmps96
 go_wp2
 go_loopw [2] (fun i wr=>∃ q:Nat,q < n∧i = .int .i64 (q:Int)∧Hid (∀ j,q < j→j < ds.length→ds[j]?.getD 0 = 9)∧BRow wr B ((addTo ds q).map (48+·))∧Only B w wr) (fun i _=>(intOf i).toNat)
 case atStart=>
  have hl:=unhide hn
  refine ⟨n - 1,by omega,by congr 1; omega,hide fun j h1 h2=>absurd h2 (by omega),?_,Only.refl _ _⟩
  unfold addTo
  rw [List.take_of_length_le (by omega),show ds.length - 1 - (n - 1) = 0 from by omega]
  simpa using hrow
 case round=>
  obtain ⟨q,hq,rfl,H9,hR,hO⟩:=hrel
  have hl:=unhide hn
  obtain ⟨x,hx⟩:∃ x,x = ds[q]?.getD 0:=⟨_,rfl⟩
  have hxd:x < 10:=by
   rw [hx,List.getElem?_eq_getElem (by omega)]
   exact unhide hd _ (List.getElem_mem _)
  have hlq:(addTo ds q).length = n:=by unfold addTo; simp; omega
  have hat:((addTo ds q).map (48+·))[q]?.getD 0 = 48+x:=by
   unfold addTo
   rw [List.map_append,List.getElem?_append_left (by simp; omega),List.getElem?_map,List.getElem?_take,if_pos (by omega),hx,List.getElem?_eq_getElem (by omega)]
   simp
  have hc:=hR.cell q (by rw [List.length_map,hlq]; omega)
  rw [hat] at hc
  have hf:=hR.frozen q
  by_cases h9:x = 9
  ·subst h9
   obtain ⟨p,rfl⟩:∃ p,q = p+1:=by
    rcases q with _|p
    ·have:=unhide hz; omega
    ·exact ⟨p,rfl⟩
   have HN:Hid (∀ j,p < j→j < ds.length→ds[j]?.getD 0 = 9):=hide fun j h1 h2=>by
    rcases Nat.lt_or_ge (p+1) j with h|h
    ·exact unhide H9 j h h2
    ·obtain rfl:j = p+1:=by omega
     exact hx.symm
   have HR:=hide (hR.set (p+1) 48)
   have HE:Hid (((addTo ds (p+1)).map (48+·)).set (p+1) 48 = (addTo ds p).map (48+·)):=hide (by
    unfold addTo
    rw [show (48:Nat) = (48+·) 0 from rfl,← List.map_set]
    congr 1
    rw [List.set_append_left _ _ (by simp; omega),show ds.length - 1 - p = (ds.length - 1 - (p+1))+1 from by omega,List.replicate_succ]
    rw [show ds.take (p+1+1) = ds.take (p+1) ++ [ds[p+1]?.getD 0] from by
     rw [List.take_add_one,List.getElem?_eq_getElem (by omega)]; simp]
    rw [List.set_append_right _ _ (by rw [List.length_take]; omega),List.length_take,Nat.min_eq_left (by omega),Nat.sub_self]
    simp)
   have hpi:((p:Int)+1) - 1 = (p:Int):=by omega
   clear hat hx hR hl
   go_wp2
   go_roundw
   case rel=>
    refine ⟨p,by omega,by go_num,unhide HN,?_,hO.setCell _ _⟩
    have:=unhide HR
    rw [unhide HE] at this
    exact this
   case measure=>simp [intOf]
  ·have hb:((48:Int)+(x:Int) == 57) = false:=by rw [beq_eq_false_iff_ne]; omega
   have HR:=hide (hR.set q (49+x))
   have HE:Hid (((addTo ds q).map (48+·)).set q (49+x) = (ds.take q ++ (ds[q]?.getD 0+1) :: List.replicate (ds.length - 1 - q) 0).map (48+·)):=hide (by
    unfold addTo
    rw [show 49+x = (48+·) (x+1) from by show 49+x = 48+(x+1); omega,← List.map_set]
    congr 1
    rw [List.set_append_left _ _ (by simp; omega),show ds.take (q+1) = ds.take q ++ [ds[q]?.getD 0] from by
     rw [List.take_add_one,List.getElem?_eq_getElem (by omega)]; simp]
    rw [List.set_append_right _ _ (by rw [List.length_take]; omega),List.length_take,Nat.min_eq_left (by omega),Nat.sub_self,← hx]
    simp)
   have HV:Hid (Pl.dval (ds.take q ++ (ds[q]?.getD 0+1) :: List.replicate (ds.length - 1 - q) 0) 0 = Pl.dval ds 0+1):=hide (raise (by omega) (unhide H9))
   have HD:Hid (Pl.Dig (ds.take q ++ (ds[q]?.getD 0+1) :: List.replicate (ds.length - 1 - q) 0)):=hide (fun d9 h=>by
    rw [List.mem_append,List.mem_cons] at h
    rcases h with h|h|h
    ·exact unhide hd _ (List.mem_of_mem_take h)
    ·rw [h,← hx]; omega
    ·rw [List.eq_of_mem_replicate h]; omega)
   have HL:Hid ((ds.take q ++ (ds[q]?.getD 0+1) :: List.replicate (ds.length - 1 - q) 0).length = n):=hide (by simp; omega)
   have hw8:(48:Int)+(x:Int)+1 = 49+(x:Int):=by omega
   clear hat hx hR hl h9
   go_wp2
   go_end0
   refine ⟨rfl,⟨_,unhide HL,unhide HD,unhide HV,?_⟩,hO.setCell _ _⟩
   have:=unhide HR
   rw [unhide HE] at this
   exact this
theorem script_split {α β:Type} (P:Program) (r:Nat) (m:Sem α) (k:α→Sem β):∀ y:β,script P r (m >>= k) [] = some (y,[])→∃ x:α,script P r m [] = some (x,[])∧script P r (k x) [] = some (y,[]):=by
 induction m with
 | pure a=>intro y h; exact ⟨a,rfl,h⟩
 | load _ a k' _=>intro y h; simp [script,bind,Sem.bind] at h
 | store _ a v k' _=>
  intro y h
  simp only [script,bind,Sem.bind] at h
  split at h
  ·simp at h
  ·cases h
 | new o k' _=>
  intro y h
  simp only [script,bind,Sem.bind] at h
  split at h
  ·simp at h
  ·cases h
 | program k' ih=>intro y h; exact ih P y h
 | mark _ k' ih=>intro y h; exact ih y h
 | _=>intro y h; simp [script,bind,Sem.bind] at h
theorem script_fields {P:Program} {r d:Nat} {xs ys:Array Value}:∀ (fs:List Field),script P r (Op.eqFields d xs ys fs) [] = some (true,[]) →
  script P r (forIn fs ((none:Option Bool),()) fun f _=>
   if f.name ≠ "_" then do
    let a ← part f.type xs f.offset
    let b ← part f.type ys f.offset
    let e ← Op.equalIn d f.type a b
    if (!e) = true then pure (ForInStep.done (some false,())) else pure (ForInStep.yield (none,()))
   else pure (ForInStep.yield (none,()))) [] = some ((none,()),[])
 | [],_=>rfl
 | f :: fs,h=>by
  rw [List.forIn_cons]
  by_cases hn : f.name ≠ "_"
  ·rw [Op.eqFields,if_pos hn] at h
   obtain ⟨a,ha,h⟩:=script_split P r _ _ _ h
   obtain ⟨b,hb,h⟩:=script_split P r _ _ _ h
   obtain ⟨e,he,h⟩:=script_split P r _ _ _ h
   cases e with
   | false=>simp [script_pure] at h
   | true=>
    rw [if_neg (by simp)] at h
    rw [script_bind P r _ _ [] (ForInStep.yield (none,())) (by
     rw [if_pos hn,script_bind P r _ _ [] _ ha,script_bind P r _ _ [] _ hb,script_bind P r _ _ [] _ he]; rfl)]
    exact script_fields fs h
  ·rw [Op.eqFields,if_neg hn] at h
   rw [script_bind P r _ _ [] (ForInStep.yield (none,())) (by rw [if_neg hn]; rfl)]
   exact script_fields fs h
theorem script_struct {P:Program} {r:Nat} (d:Nat) (t:TypeId) (xs ys:Array Value) (ht:P.underlying t = some (.struct (P.fieldsOf t))) (hp:P.stoodInHeld t = false)
  (h:script P r (Op.eqFields d xs ys (P.fieldsOf t).toList) [] = some (true,[])):script P r (Op.equalIn (d+1) t (.agg xs) (.agg ys)) [] = some (true,[]):=by
 simp only [Op.equalIn]
 rw [script_bind P r _ _ [] _ (script_under ht)]
 simp only []
 rw [script_bind P r program _ [] P rfl,hp,if_neg (by decide),← Array.forIn_toList,script_bind P r _ _ [] _ (script_fields _ h)]
 rfl
theorem script_eqb {P:Program} {r d:Nat} {t:TypeId} (b:Bool) (h:P.underlying t = some .bool):script P r (Op.equalIn (d+1) t (.bool b) (.bool b)) [] = some (true,[]):=by
 simp only [Op.equalIn]
 rw [script_bind P r _ _ [] _ (script_under h)]
 show script P r (pure (b == b)) [] = _
 rw [beq_self_eq_true]; rfl
theorem script_eqs {P:Program} {r d:Nat} {t:TypeId} (b:ByteArray) (h:P.underlying t = some .string):script P r (Op.equalIn (d+1) t (.string b) (.string b)) [] = some (true,[]):=by
 simp only [Op.equalIn]
 rw [script_bind P r _ _ [] _ (script_under h)]
 show script P r (pure (b == b)) [] = _
 rw [beq_toListBytes,beq_self_eq_true]; rfl
theorem script_eqi {P:Program} {r d:Nat} {t:TypeId} {k:IntKind} (b:Int) (h:P.underlying t = some (.int k)):script P r (Op.equalIn (d+1) t (.int k b) (.int k b)) [] = some (true,[]):=by
 simp only [Op.equalIn]
 rw [script_bind P r _ _ [] _ (script_under h)]
 simp only []
 rw [if_pos trivial,beq_self_eq_true]; rfl
theorem dec_under:Tryz.prog.underlying 23 = some (.struct (Tryz.prog.fieldsOf 23)):=by kernel_rfl
theorem dec_eq {r:Nat} (g:Bool) (s:ByteArray) (x:Int):script Tryz.prog r (Op.equal 23 (.agg #[.bool g,.string s,.int .i64 x]) (.agg #[.bool g,.string s,.int .i64 x])) [] = some (true,[]):=by
 have hE:script Tryz.prog r (Op.equalIn (9999+1) 23 (.agg #[.bool g,.string s,.int .i64 x]) (.agg #[.bool g,.string s,.int .i64 x])) [] = some (true,[]):=by
  refine script_struct 9999 _ _ _ dec_under (by kernel_rfl) ?_
  have n1 : (Tryz.prog.fieldsOf 23).toList.map (fun f => (f.name, f.type, f.offset)) = [("Neg", 4, 0), ("Digits", 9, 1), ("Exp", 3, 2)] := by kernel_rfl
  generalize (Tryz.prog.fieldsOf 23).toList = fs at n1 ⊢
  rcases fs with _|⟨f1,_|⟨f2,_|⟨f3,_|⟨f4,fs⟩⟩⟩⟩ <;> simp only [List.map_cons,List.map_nil,List.cons.injEq,Prod.mk.injEq,and_true,reduceCtorEq,and_false] at n1
  obtain ⟨⟨a1,a2,a3⟩,⟨b1,b2,b3⟩,c1,c2,c3⟩:=n1
  rw [Op.eqFields,if_pos (by rw [a1]; decide),a2,a3,script_bind Tryz.prog r _ _ [] (.bool g) (by kernel_rfl),script_bind Tryz.prog r _ _ [] (.bool g) (by kernel_rfl),script_bind Tryz.prog r _ _ [] _ (script_eqb g (by kernel_rfl)),if_neg (by decide)]
  rw [Op.eqFields,if_pos (by rw [b1]; decide),b2,b3,script_bind Tryz.prog r _ _ [] (.string s) (by kernel_rfl),script_bind Tryz.prog r _ _ [] (.string s) (by kernel_rfl),script_bind Tryz.prog r _ _ [] _ (script_eqs s (by kernel_rfl)),if_neg (by decide)]
  rw [Op.eqFields,if_pos (by rw [c1]; decide),c2,c3,script_bind Tryz.prog r _ _ [] (.int .i64 x) (by kernel_rfl),script_bind Tryz.prog r _ _ [] (.int .i64 x) (by kernel_rfl),script_bind Tryz.prog r _ _ [] _ (script_eqi x (by kernel_rfl)),if_neg (by decide)]
  rfl
 unfold Op.equal Op.maxDepth
 rw [show (10000:Nat) = 9999+1 from rfl]
 exact hE
theorem dz_eq {r:Nat}:script Tryz.prog r (binOp .eql 23 (.agg #[.bool false,.string ⟨#[]⟩,.int .i64 0]) (.agg #[.bool false,.string ⟨#[]⟩,.int .i64 0])) [] = some (.bool true,[]):=by
 simp only [binOp]
 rw [script_bind Tryz.prog r (Op.equal _ _ _) _ [] true (dec_eq false ⟨#[]⟩ 0)]
 rfl
end Go.Proofs.YtpmmapoabbpaiaaGreat
