/- Of what QuickThereRow stands on: Sym6 Sym7 Clone Text PutGroup AddTimes Multiply ShiftUp ShiftDown RefTrim DcOne Sym8 SymEq AddInto TakeInto DgEx Low TakeTimes. -/
import Derived.Test.YtdekhacomggpgaaGreatDoorPaf
import Derived.LoopN
import Derived.Test.YtdekhacomggpgaaGreatDoorPae
import Derived.Test.YtdekhacomggpgaaGreatDoorProg
import Derived.WalkKit
import Derived.WalkSpells
import Derived.WalkLawsBesides
import Derived.ChangeKeysEq
namespace Go.Proofs.YtdekhacomggpgaaGreatDoor
open Go.RowKit
set_option maxHeartbeats 1000000
theorem sta_true:Sta (fun _=>True):=⟨fun _ _ _ h=>h,fun _ _ _ _ _ _ _ _ _ h=>h⟩
theorem sta_and {f g:World→Prop} (hf:Sta f) (hg:Sta g):Sta (fun W=>f W∧g W):=⟨fun W W' hb h=>⟨hf.kept W W' hb h.1,hg.kept W W' hb h.2⟩,fun W b cs t j u h1 h2 h3 h=>⟨hf.put W b cs t j u h1 h2 h3 h.1,hg.put W b cs t j u h1 h2 h3 h.2⟩⟩
def cV (v:Value):Cf:=⟨fun _=>v,fun _ _=>True,fun _=>sta_true⟩
def cO (B m:Nat):Cf:=⟨fun q=>.tuple #[.agg #[.slice q.A q.N q.C],.int .i64 0],fun q W=>Mine W B q.A q.N q.C m,fun _=>sta_mine _ _ _ _ _⟩
def cN (B m:Nat):Cf:=⟨fun q=>.agg #[.slice q.A q.N q.C],fun q W=>Mine W B q.A q.N q.C m,fun _=>sta_mine _ _ _ _ _⟩
def cD (B m m':Nat):Cf:=⟨fun q=>.tuple #[.agg #[.slice q.A q.N q.C],.agg #[.slice q.A' q.N' q.C'],.int .i64 0],fun q W=>Mine W B q.A q.N q.C m∧Mine W B q.A' q.N' q.C' m',fun _=>sta_and (sta_mine _ _ _ _ _) (sta_mine _ _ _ _ _)⟩
theorem as_v {P:Program} {fn:FuncId} {args:Array Value} {W:World} {v:Value} (h:Calls P fn args W fun en W'=>en = .returned v∧Below W.heap.size W W'):Calls P fn args W fun en W'=>∃ q,en = .returned ((cV v).f q)∧Below W.heap.size W W'∧(cV v).g q W':=
 h.mono fun _ _ ⟨h1,h2⟩=>⟨pq0,h1,h2,trivial⟩
theorem as_o {P:Program} {fn:FuncId} {args:Array Value} {W:World} {B:Nat} {m:Nat} (hb:B≤W.heap.size) (h:Calls P fn args W fun en W'=>(∃ a n c,en = .returned (.tuple #[.agg #[.slice a n c],.int .i64 0])∧Mine W' W.heap.size a n c m)∧Below W.heap.size W W'):Calls P fn args W fun en W'=>∃ q,en = .returned ((cO B m).f q)∧Below W.heap.size W W'∧(cO B m).g q W':=
 h.mono fun _ _ ⟨⟨a,n,c,h1,h3⟩,h2⟩=>⟨{ pq0 with A:=a,N:=n,C:=c },h1,h2,h3.mono hb⟩
theorem as_n {P:Program} {fn:FuncId} {args:Array Value} {W:World} {B:Nat} {m:Nat} (hb:B≤W.heap.size) (h:Calls P fn args W fun en W'=>(∃ a n c,en = .returned (.agg #[.slice a n c])∧Mine W' W.heap.size a n c m)∧Below W.heap.size W W'):Calls P fn args W fun en W'=>∃ q,en = .returned ((cN B m).f q)∧Below W.heap.size W W'∧(cN B m).g q W':=
 h.mono fun _ _ ⟨⟨a,n,c,h1,h3⟩,h2⟩=>⟨{ pq0 with A:=a,N:=n,C:=c },h1,h2,h3.mono hb⟩
theorem as_d {P:Program} {fn:FuncId} {args:Array Value} {W:World} {B:Nat} {m:Nat} {m':Nat} (hb:B≤W.heap.size) (h:Calls P fn args W fun en W'=>(∃ a n c a' n' c',en = .returned (.tuple #[.agg #[.slice a n c],.agg #[.slice a' n' c'],.int .i64 0])∧Mine W' W.heap.size a n c m∧Mine W' W.heap.size a' n' c' m')∧Below W.heap.size W W'):Calls P fn args W fun en W'=>∃ q,en = .returned ((cD B m m').f q)∧Below W.heap.size W W'∧(cD B m m').g q W':=
 h.mono fun _ _ ⟨⟨a,n,c,a',n',c',h1,h3,h4⟩,h2⟩=>⟨{ pq0 with A:=a,N:=n,C:=c,A':=a',N':=n',C':=c' },h1,h2,h3.mono hb,h4.mono hb⟩
def cG (B m:Nat) (f:Value→Value):Cf:=⟨fun q=>f (.slice q.A q.N q.C),fun q W=>Mine W B q.A q.N q.C m,fun _=>sta_mine _ _ _ _ _⟩
def cH (B m m':Nat) (f:Value→Value→Value):Cf:=⟨fun q=>f (.slice q.A q.N q.C) (.slice q.A' q.N' q.C'),fun q W=>Mine W B q.A q.N q.C m∧Mine W B q.A' q.N' q.C' m',fun _=>sta_and (sta_mine _ _ _ _ _) (sta_mine _ _ _ _ _)⟩
theorem as_g {P:Program} {fn:FuncId} {args:Array Value} {W:World} {B m:Nat} {f:Value→Value} (hb:B≤W.heap.size) (h:Calls P fn args W fun en W'=>(∃ a n c,en = .returned (f (.slice a n c))∧Mine W' W.heap.size a n c m)∧Below W.heap.size W W'):Calls P fn args W fun en W'=>∃ q,en = .returned ((cG B m f).f q)∧Below W.heap.size W W'∧(cG B m f).g q W':=
 h.mono fun _ _ ⟨⟨a,n,c,h1,h3⟩,h2⟩=>⟨{ pq0 with A:=a,N:=n,C:=c },h1,h2,h3.mono hb⟩
theorem as_h {P:Program} {fn:FuncId} {args:Array Value} {W:World} {B m m':Nat} {f:Value→Value→Value} (hb:B≤W.heap.size) (h:Calls P fn args W fun en W'=>(∃ a n c a' n' c',en = .returned (f (.slice a n c) (.slice a' n' c'))∧Mine W' W.heap.size a n c m∧Mine W' W.heap.size a' n' c' m')∧Below W.heap.size W W'):Calls P fn args W fun en W'=>∃ q,en = .returned ((cH B m m' f).f q)∧Below W.heap.size W W'∧(cH B m m' f).g q W':=
 h.mono fun _ _ ⟨⟨a,n,c,a',n',c',h1,h3,h4⟩,h2⟩=>⟨{ pq0 with A:=a,N:=n,C:=c,A':=a',N':=n',C':=c' },h1,h2,h3.mono hb,h4.mono hb⟩
structure Gf where
 f:World→Prop
 st:Sta f
def GsAt:List Gf→World→Prop
 | [],_=>True
 | g :: r,W=>g.f W∧GsAt r W
theorem gs_sta:∀ (gs:List Gf),Sta (GsAt gs)
 | []=>sta_true
 | g :: r=>sta_and g.st (gs_sta r)
def gN (a:Option Addr) (n m:Nat):Gf:=⟨fun W=>Num W a n m,sta_num a n m⟩
def gM (B:Nat) (a:Option Addr) (n c m:Nat):Gf:=⟨fun W=>Mine W B a n c m,sta_mine B a n c m⟩
def NeX (x:Bx):List Bx→Prop
 | []=>True
 | y :: r=>((x.my || y.my) = true→x.b≠y.b)∧NeX x r
def NeL:List Bx→Prop
 | []=>True
 | x :: r=>NeX x r∧NeL r
def LowL (w0:World):List Bx→Prop
 | []=>True
 | x :: r=>(x.my = true→w0.heap.size≤x.b)∧LowL w0 r
theorem LowL.of {w0:World}:∀ {E:List Bx},LowL w0 E→∀ x,x∈E→x.my = true→w0.heap.size≤x.b
 | [],_,_,h,_=>by simp at h
 | y :: r,h,x,hx,hm=>by
  rcases List.mem_cons.1 hx with rfl|hx
  ·exact h.1 hm
  ·exact LowL.of h.2 x hx hm
theorem NeX.of {x:Bx}:∀ {E:List Bx},NeX x E→∀ y,y∈E→(x.my = true∨y.my = true)→x.b≠y.b
 | [],_,_,h,_=>by simp at h
 | z :: r,h,y,hy,hm=>by
  rcases List.mem_cons.1 hy with rfl|hy
  ·exact h.1 (by simpa using hm)
  ·exact NeX.of h.2 y hy hm
theorem NeL.of:∀ {E:List Bx},NeL E→∀ (j k:Nat) (x y:Bx),E[j]? = some x→E[k]? = some y→x.my = true→j≠k→x.b≠y.b
 | [],_,_,_,_,_,h,_,_,_=>by simp at h
 | z :: r,h,0,0,x,y,hx,hy,hm,hne=>absurd rfl hne
 | z :: r,h,0,k+1,x,y,hx,hy,hm,hne=>by
  simp only [List.getElem?_cons_zero,Option.some.injEq] at hx
  subst hx
  exact h.1.of y (List.mem_of_getElem? (by simpa using hy)) (Or.inl hm)
 | z :: r,h,j+1,0,x,y,hx,hy,hm,hne=>by
  simp only [List.getElem?_cons_zero,Option.some.injEq] at hy
  subst hy
  exact Ne.symm (h.1.of x (List.mem_of_getElem? (by simpa using hx)) (Or.inr hm))
 | z :: r,h,j+1,k+1,x,y,hx,hy,hm,hne=>NeL.of h.2 j k x y (by simpa using hx) (by simpa using hy) hm (by omega)
structure Fb (w0 W:World) (E:List Bx):Prop where
 bx:∀ x,x∈E→W.heap[x.b]? = some (.cells x.cs x.t (0,0))
 fr:Below w0.heap.size w0 W
 low:LowL w0 E
 ne:NeL E
theorem Fb.begin (w:World):Fb w w []:=⟨(fun _ h=>nomatch h),Below.refl _ _,trivial,trivial⟩
theorem Fb.other {w:World} {b:Nat} {cs:Array Value} {t:TypeId} (h:w.heap[b]? = some (.cells cs t (0,0))):Fb w w [⟨b,cs,t,false⟩]:=⟨fun x hx=>by rw [List.mem_singleton.1 hx]; exact h,Below.refl _ _,⟨(fun h=>absurd h (by simp)),trivial⟩,⟨trivial,trivial⟩⟩
theorem Fb.kept {w0 W W':World} {E:List Bx} (h:Fb w0 W E) (hb:Below W.heap.size W W'):Fb w0 W' E:=⟨fun x hx=>by rw [hb.block _ (block_lt (h.bx x hx))]; exact h.bx x hx,gr_trans h.fr hb,h.low,h.ne⟩
theorem NeL.sym {E:List Bx} (h:NeL E) (j k:Nat) (x y:Bx) (hx:E[j]? = some x) (hy:E[k]? = some y) (hm:x.my = true∨y.my = true) (hne:j≠k):x.b≠y.b:=by
 rcases hm with hm|hm
 ·exact h.of j k x y hx hy hm hne
 ·exact Ne.symm (h.of k j y x hy hx hm (Ne.symm hne))
def finBx (E:List Bx) (S:List Spo) (p:Pqs):List Nat→List Bx
 | []=>[]
 | j :: r=>match boxOf E S p j with
  | some (bx,_)=>⟨bx.b,cellsOf (fun _=>true) j 0 S bx.cs,bx.t,bx.my⟩ :: finBx E S p r
  | none=>finBx E S p r
def nodupB:List Nat→Bool
 | []=>true
 | j :: r=>r.all (· != j) && nodupB r
theorem finBx_mem {E:List Bx} {S:List Spo} {p:Pqs}:∀ {js:List Nat} {x:Bx},x∈finBx E S p js→∃ j bx bo,j∈js∧boxOf E S p j = some (bx,bo)∧x = ⟨bx.b,cellsOf (fun _=>true) j 0 S bx.cs,bx.t,bx.my⟩
 | [],_,h=>by simp [finBx] at h
 | j :: r,x,h=>by
  unfold finBx at h
  split at h
  ·rename_i bx bo hb
   rcases List.mem_cons.1 h with rfl|h
   ·exact ⟨j,bx,bo,List.mem_cons_self ..,hb,rfl⟩
   ·obtain ⟨j',bx',bo',h1,h2⟩:=finBx_mem h
    exact ⟨j',bx',bo',List.mem_cons_of_mem _ h1,h2⟩
  ·obtain ⟨j',bx',bo',h1,h2⟩:=finBx_mem h
   exact ⟨j',bx',bo',List.mem_cons_of_mem _ h1,h2⟩
theorem SymF.fb {E:List Bx} {S:List Spo} {G:World→Prop} {w0 W0:World} {p:Pqs} {W:World} (hS:Fb w0 W0 E) (h:SymF E S G w0 W0.heap.size p W) (js:List Nat) (E1:List Bx) (e:finBx E S p js = E1) (nd:nodupB js = true):Fb w0 W E1:=by
 subst e
 have hap:∀ j bx bo j' bx' bo',boxOf E S p j = some (bx,bo)→boxOf E S p j' = some (bx',bo')→j≠j'→(bx.my = true∨bx'.my = true)→bx.b≠bx'.b:=fun j bx bo j' bx' bo' hb hb' hne hm=>by
  rcases boxOf_cases hb with ⟨q1,q2,q3⟩|⟨q1,s1,cs1,t1,q2,q3,q4⟩
  ·rcases boxOf_cases hb' with ⟨r1,r2,r3⟩|⟨r1,s2,cs2,t2,r2,r3,r4⟩
   ·exact hS.ne.sym j j' bx bx' q2 r2 hm hne
   ·have h1:=block_lt (hS.bx bx (List.mem_of_getElem? q2))
    have h2:=h.nb _ _ _ _ r2
    rw [r3]; show bx.b≠(p (j' - 1000)).N; omega
  ·rcases boxOf_cases hb' with ⟨r1,r2,r3⟩|⟨r1,s2,cs2,t2,r2,r3,r4⟩
   ·have h1:=block_lt (hS.bx bx' (List.mem_of_getElem? r2))
    have h2:=h.nb _ _ _ _ q2
    rw [q3]; show (p (j - 1000)).N≠bx'.b; omega
   ·rw [q3,r3]
    refine h.ne _ _ _ _ _ _ _ _ q2 r2 (fun e=>hne ?_)
    have a1:¬ j < 1000:=fun hc=>by rw [show Nat.blt j 1000 = true from by rw [Nat.blt_eq]; exact hc] at q1; cases q1
    have a2:¬ j' < 1000:=fun hc=>by rw [show Nat.blt j' 1000 = true from by rw [Nat.blt_eq]; exact hc] at r1; cases r1
    omega
 refine ⟨fun x hx=>?_,h.fr,?_,?_⟩
 ·obtain ⟨j,bx,bo,-,hb,rfl⟩:=finBx_mem hx
  exact h.mem j bx bo hb
 ·clear nd
  induction js with
  | nil=>trivial
  | cons j r ih=>
   unfold finBx
   split
   ·rename_i bx bo hb
    refine ⟨fun hm=>?_,ih⟩
    show w0.heap.size≤bx.b
    rcases boxOf_cases hb with ⟨q1,q2,q3⟩|⟨q1,s1,cs1,t1,q2,q3,q4⟩
    ·exact hS.low.of bx (List.mem_of_getElem? q2) hm
    ·rw [q3]; exact Nat.le_trans hS.fr.size (h.nb _ _ _ _ q2)
   ·exact ih
 ·induction js with
  | nil=>trivial
  | cons j r ih=>
   simp only [nodupB,Bool.and_eq_true] at nd
   unfold finBx
   split
   ·rename_i bx bo hb
    refine ⟨?_,ih nd.2⟩
    have hall:∀ y,y∈finBx E S p r→(bx.my = true∨y.my = true)→bx.b≠y.b:=fun y hy hm=>by
     obtain ⟨j',bx',bo',hj',hb',rfl⟩:=finBx_mem hy
     refine hap j bx bo j' bx' bo' hb hb' ?_ hm
     have:=List.all_eq_true.1 nd.1 j' hj'
     simp only [bne_iff_ne] at this
     exact Ne.symm this
    revert hall
    generalize finBx E S p r = l
    intro hall
    induction l with
    | nil=>trivial
    | cons y l ih2=>exact ⟨fun hm=>hall y (List.mem_cons_self ..) (by simpa using hm),ih2 fun z hz=>hall z (List.mem_cons_of_mem _ hz)⟩
   ·exact ih nd.2
def symB (ops:Array Oper) (n:Nat) (L:Ks) (E:List Bx) (S:List Spo) (p:Pqs) (L1:Ks):Bool:=
 Puts.apart (puts p 0 S) && Nat.beq S.length ops.size && Puts.within (puts p 0 S) n && backB ops && readsOk ops L (puts p 0 S) 0 ops.toList && memOk ops E S 0 S && E.all (fun x=>!x.my || noLimb x.cs.toList && x.t != 47) && L1.all (fun x=>earlyB x.1 S.length (puts p 0 S) || inK L x.1)
theorem kn_out {T0:Array Value} {n:Nat} {L:Ks} {ds:Puts} (hK:Kn T0 n L) (ha:Puts.apart ds = true) (hw:Puts.within ds n = true) (L1:Ks) (hin:L1.all (fun x=>earlyB x.1 ds.length ds || inK L x.1) = true) (he:L1.map (fun x=>slotAt L x.1 ds.length ds) = L1.map (·.2)):Kn (Puts.lay ds T0) n L1:=by
 refine ⟨by rw [Puts.lay_size]; exact hK.size,fun x hx=>?_⟩
 have h1:=List.all_eq_true.1 hin x hx
 have h2:slotAt L x.1 ds.length ds = x.2:=by
  obtain ⟨k,hk,he2⟩:=List.getElem_of_mem hx
  have:=congrArg (fun l=>l[k]?) he
  simp only [List.getElem?_map,List.getElem?_eq_getElem hk,he2,Option.map_some,Option.some.injEq] at this
  exact this
 rw [← h2]
 by_cases hw9:∃ (k:Nat) (v:Value),ds[k]? = some (some (x.1,v))
 ·obtain ⟨k,v,hk⟩:=hw9
  have hlt:k < ds.length:=(List.getElem?_eq_some_iff.1 hk).1
  rw [slotAt_on ds _ k v ha hk hlt]
  exact Puts.lay_at ds ha T0 k x.1 v hk (by rw [hK.size]; simpa using List.all_eq_true.1 hw _ (List.mem_of_getElem? hk))
 ·rw [slotAt_off ds _ (fun k v hk=>absurd ⟨k,v,hk⟩ hw9)]
  have hf:Puts.free ds x.1 = true:=by
   unfold Puts.free
   rw [List.all_eq_true]
   intro d hd
   obtain ⟨k,hk⟩:=List.getElem?_of_mem hd
   cases d with
   | none=>rfl
   | some d=>
    obtain ⟨s,v⟩:=d
    simp only [bne_iff_ne]
    rintro rfl
    exact hw9 ⟨k,v,hk⟩
  rw [Puts.lay_free ds x.1 hf]
  refine hK.look ?_
  simp only [Bool.or_eq_true] at h1
  rcases h1 with h|h
  ·obtain ⟨k,v,-,hk⟩:=early_of h
   exact absurd ⟨k,v,hk⟩ hw9
  ·exact h
theorem wp_symG {P:Program} {ops:Array Oper} {Q:Exit→Act→World→Prop} {T0:Array Value} {n:Nat} {L:Ks} {w0:World} {gs:List Gf} {id:Nat} {d:Bool} {W:World} {E:List Bx} (hS:Fb w0 W E) (hG:GsAt gs W) (hK:Kn T0 n L) (S:Pqs→List Spo) (L1:Pqs→Ks) (hm:P.follows .mixedOrders = true) (hsh:∀ p p',(S p).map Spo.bare = (S p').map Spo.bare) (hB:∀ p,symB ops n L E (S p) p (L1 p) = true) (hL:∀ p,(L1 p).map (fun x=>slotAt L x.1 (S p).length (puts p 0 (S p))) = (L1 p).map (·.2))
  (hok:∀ p,Oks P ops L E (S p) (GsAt gs) w0 W.heap.size p 0 (S p))
  (hfin:∀ p W' T1,SymF E (S p) (GsAt gs) w0 W.heap.size p W'→Kn T1 n (L1 p)→Q .normal ⟨T1,[]⟩ W') :
  (Code.region id ops d).wp P Q ⟨T0,[]⟩ W:=by
 have hB':∀ p,_:=fun p=>by
  have:=hB p
  simp only [symB,Bool.and_eq_true] at this
  exact this
 refine wp_sym S hS.bx hS.fr hm hK ⟨hsh,fun p=>(hB' p).1.1.1.1.1.1.1,fun p=>Nat.eq_of_beq_eq_true (hB' p).1.1.1.1.1.1.2,fun p=>(hB' p).1.1.1.1.1.2,(hB' fun _=>pq0).1.1.1.1.2,fun p=>(hB' p).1.1.1.2,fun p=>(hB' p).1.1.2,(hB' fun _=>pq0).1.2⟩ hS.low.of hS.ne.of (gs_sta gs) hG hok (fun p W' hF=>hfin p W' _ hF ?_)
 exact kn_out hK (hB' p).1.1.1.1.1.1.1 (hB' p).1.1.1.1.1.2 _ (by rw [puts_len]; exact (hB' p).2) (by rw [puts_len]; exact hL p)
def argK:Nat→List Value→Ks
 | _,[]=>[]
 | i,v :: r=>(i,v) :: argK (i+1) r
theorem argK_at:∀ (vs:List Value) (i:Nat) (x:Nat×Value),x∈argK i vs→∃ k,x.1 = i+k∧vs[k]? = some x.2
 | [],_,_,h=>by simp [argK] at h
 | v :: r,i,x,h=>by
  rcases List.mem_cons.1 h with rfl|h
  ·exact ⟨0,rfl,rfl⟩
  ·obtain ⟨k,h1,h2⟩:=argK_at r (i+1) x h
   exact ⟨k+1,by omega,by simpa using h2⟩
theorem calls_sym {P:Program} {f:FuncId} {fn:Func} {c:Code} {args:Array Value} {w:World} {R:Ending→World→Prop} (hf:P.funcs[f]? = some fn) (hb:fn.body = some c) (hn:Nat.ble args.size fn.ntmps = true)
  (h:∀ T,Kn T fn.ntmps (argK 0 args.toList)→c.wp P (bodyPost P fn R) ⟨T,[]⟩ w):Calls P f args w R:=by
 refine calls_of_wp hf hb (h _ ⟨?_,fun x hx=>?_⟩)
 ·have:=Nat.le_of_ble_eq_true hn
  simp; omega
 ·obtain ⟨k,h1,h2⟩:=argK_at _ _ x hx
  rw [Nat.zero_add] at h1
  rw [h1]
  have h3:args[k]? = some x.2:=by simpa using h2
  obtain ⟨hlt,-⟩:=Array.getElem?_eq_some_iff.1 h3
  rw [Array.getElem?_append_left hlt]; exact h3
theorem Kn.ev {T:Array Value} {n:Nat} {L:Ks} (h:Kn T n L) (s:Nat) (hi:inK L s = true) (v:Value) (hv:lookK L s = v):Act.eval ⟨T,[]⟩ (.tmp s) = v:=by
 show T.getD s undef = v
 rw [Array.getD_eq_getD_getElem?,h.look hi,hv]; rfl
def resK (fn:Func) (L:Ks):Sem Value:=do
 let vs ← fn.results.mapM fun
  | .tmp t=>pure (lookK L t)
  | .cell a t=>do loadVar t (← asAddr (lookK L a))
 pure (if h:vs.size = 1 then vs[0] else .tuple vs)
def resSlot:ResultVar→Nat
 | .tmp t=>t
 | .cell a _=>a
def rdEv (bs:List Bx):List (Nat×Nat×Nat)→List Ev
 | []=>[]
 | (j,off,k) :: r=>(match bs[j]? with
  | some x=>lds x.b off ((x.cs.toList.drop off).take k)
  | none=>[]) ++ rdEv bs r
theorem evs_app:∀ (es fs:List Ev) (W:World),EvsOk 0 es W→evs es W = W→EvsOk 0 fs W→evs fs W = W→EvsOk 0 (es ++ fs) W∧evs (es ++ fs) W = W:=by
 intro es fs W h1 h2 h3 h4
 have h5:∀ (es:List Ev) (V:World),EvsOk 0 es V→(EvsOk 0 (es ++ fs) V↔EvsOk 0 fs (evs es V))∧evs (es ++ fs) V = evs fs (evs es V):=by
  intro es
  induction es with
  | nil=>intro V _; exact ⟨Iff.rfl,rfl⟩
  | cons e r ih=>
   intro V h
   cases e with
   | ld a v=>obtain ⟨g1,g2⟩:=ih V h.2; exact ⟨⟨fun q=>g1.1 q.2,fun q=>⟨h.1,g1.2 q⟩⟩,g2⟩
   | st a v=>obtain ⟨g1,g2⟩:=ih _ h.2.2.2; exact ⟨⟨fun q=>g1.1 q.2.2.2,fun q=>⟨h.1,h.2.1,h.2.2.1,g1.2 q⟩⟩,g2⟩
   | nw o=>obtain ⟨g1,g2⟩:=ih _ h.2; exact ⟨⟨fun q=>g1.1 q.2,fun q=>⟨h.1,g1.2 q⟩⟩,g2⟩
 obtain ⟨g1,g2⟩:=h5 es W h1
 rw [h2] at g1 g2
 exact ⟨g1.2 h3,by rw [g2]; exact h4⟩
theorem rd_ok {w0 W:World} {bs:List Bx} (hS:Fb w0 W bs):∀ (js:List (Nat×Nat×Nat)),EvsOk 0 (rdEv bs js) W∧evs (rdEv bs js) W = W
 | []=>⟨trivial,rfl⟩
 | (j,off,k) :: r=>by
  obtain ⟨h1,h2⟩:=rd_ok hS r
  unfold rdEv
  cases hj:bs[j]? with
  | none=>exact ⟨h1,h2⟩
  | some x=>
   obtain ⟨g1,g2⟩:=lds_ok (hS.bx x (List.mem_of_getElem? hj)) ((x.cs.toList.drop off).take k) off (by
    rw [List.length_take,List.take_eq_take_iff]; simp)
   exact evs_app _ _ W g1 g2 h1 h2
theorem res_eq {fn:Func} {T:Array Value} {n:Nat} {L:Ks} (hK:Kn T n L) (hin:fn.results.toList.all (fun r=>inK L (resSlot r)) = true):results fn T = resK fn L:=by
 have:∀ r,r∈fn.results→T.getD (resSlot r) undef = lookK L (resSlot r):=fun r hr=>by
  have:=List.all_eq_true.1 hin r (by simpa using hr)
  rw [Array.getD_eq_getD_getElem?,hK.look this]; rfl
 have hc:∀ (f g:ResultVar→Sem Value) (l:List ResultVar),(∀ r,r∈l→f r = g r)→l.mapM f = l.mapM g:=by
  intro f g l
  induction l with
  | nil=>intro _; rfl
  | cons r l ih=>intro h; rw [List.mapM_cons,List.mapM_cons,h r (List.mem_cons_self ..),ih fun r' hr'=>h r' (List.mem_cons_of_mem _ hr')]
 unfold results resK
 rw [Array.mapM_eq_mapM_toList,Array.mapM_eq_mapM_toList]
 congr 2
 refine hc _ _ _ fun r hr=>?_
 have h:=this r (by simpa using hr)
 cases r with
 | tmp t=>simp only [resSlot] at h; simp only [h]
 | cell a t=>simp only [resSlot] at h; simp only [h]
theorem sym_end {P:Program} {fn:Func} {R:Ending→World→Prop} {T:Array Value} {n:Nat} {L:Ks} {w0 W:World} {bs:List Bx} (hS:Fb w0 W bs) (hK:Kn T n L) (v:Value) (js:List (Nat×Nat×Nat)) (vs:List Value) (hin:fn.results.toList.all (fun r=>inK L (resSlot r)) = true) (hr:script P 0 (resK fn L) vs = some (v,rdEv bs js)) (h:R (.returned v) W):bodyPost P fn R .ret ⟨T,[]⟩ W:=by
 refine bodyPost_ret (v:=v) ?_ rfl h
 show (results fn T).run P W = _
 rw [res_eq hK hin]
 obtain ⟨h1,h2⟩:=rd_ok hS js
 have:=script_run P 0 _ _ _ _ W hr h1
 rw [h2] at this; exact this
def blkOf (E:List Bx) (S:List Spo) (p:Pqs) (j:Nat):Nat:=match boxOf E S p j with
 | some (bx,_)=>bx.b
 | none=>0
def csOf (E:List Bx) (S:List Spo) (p:Pqs) (j:Nat):Array Value:=match boxOf E S p j with
 | some (bx,_)=>bx.cs
 | none=>#[]
theorem ok_L {P:Program} {ops:Array Oper} {L:Ks} {E:List Bx} {S:List Spo} {G:World→Prop} {w0:World} {base:Nat} {p:Pqs} {i:Nat} {r:List Spo} {s j off:Nat} {x:Value} (hb:(boxOf E S p j).isSome = true) (h:opRun P ops L (puts p 0 S) i 0 x.cells.toList = some (some s,true,some (.value x,lds (blkOf E S p j) off x.cells.toList))) (hc:((cellsOf (fun k=>Nat.blt k i) j 0 S (csOf E S p j)).toList.drop off).take x.cells.size = x.cells.toList) (t:Oks P ops L E S G w0 base p (i+1) r):Oks P ops L E S G w0 base p i (.l s x j off :: r):=by
 obtain ⟨⟨bx,bo⟩,hbx⟩:=Option.isSome_iff_exists.1 hb
 unfold blkOf at h; unfold csOf at hc
 rw [hbx] at h hc
 exact ok_l bx bo hbx h hc t
theorem ok_P {P:Program} {ops:Array Oper} {L:Ks} {E:List Bx} {S:List Spo} {G:World→Prop} {w0:World} {base:Nat} {p:Pqs} {i:Nat} {r:List Spo} {j off:Nat} {xs:List Value} (hb:(boxOf E S p j).isSome = true) (h:opRun P ops L (puts p 0 S) i 0 [] = some (none,true,some (.skip,sts (blkOf E S p j) off xs))) (hc:Nat.ble (off+xs.length) (csOf E S p j).size = true) (t:Oks P ops L E S G w0 base p (i+1) r):Oks P ops L E S G w0 base p i (.p j off xs :: r):=by
 obtain ⟨⟨bx,bo⟩,hbx⟩:=Option.isSome_iff_exists.1 hb
 unfold blkOf at h; unfold csOf at hc
 rw [hbx] at h hc
 exact ok_p bx bo hbx h hc t
theorem wr64 {x:Int} (h1:-9223372036854775808≤x) (h2:x < 9223372036854775808):IntKind.i64.wrap x = x:=by rw [IntKind.wrap_i64]; omega
theorem ok_K {P:Program} {ops:Array Oper} {L:Ks} {E:List Bx} {S:List Spo} {G:World→Prop} {w0:World} {base:Nat} {p:Pqs} {i:Nat} {r:List Spo} {s:Option Nat} (h:(match opRun P ops L (puts p 0 S) i 0 [] with
  | some (a,b,_)=>some (a,b)
  | none=>none) = some (s,false)) (t:Oks P ops L E S G w0 base p (i+1) r):Oks P ops L E S G w0 base p i (.k s :: r):=by
 split at h
 ·rename_i a b c hx
  simp only [Option.some.injEq,Prod.mk.injEq] at h
  obtain ⟨rfl,rfl⟩:=h
  exact ok_k c hx t
 ·cases h
def aG (k:Nat) (a:Array Value):Value:=a.getD k undef
def aH (j k:Nat) (a:Array Value):Value:=.tuple #[a.getD j undef,a.getD k undef]
theorem imax (x y:Int):(if y > x then y else x) = max x y:=by omega
theorem then_n {next:Act→World→Prop} {Q:Exit→Act→World→Prop} {a:Act} {w:World} (h:next a w):Exit.then next Q .normal a w:=h
theorem then_r {next:Act→World→Prop} {Q:Exit→Act→World→Prop} {a:Act} {w:World} (h:Q .ret a w):Exit.then next Q .ret a w:=h
theorem rounds_s {P:Program} {c:Code} {Q:Exit→Act→World→Prop} {n:Nat} {a:Act} {w:World} (h:c.wp P (Exit.then (Code.rounds P c Q n) Q) a w):Code.rounds P c Q (n+1) a w:=h
theorem then_x {next:Act→World→Prop} {Q:Exit→Act→World→Prop} {id:Nat} {a:Act} {w:World} (h:Q (.exit id) a w):Exit.then next Q (.exit id) a w:=h
theorem inb_n {Q:Exit→Act→World→Prop} {id:Nat} {a:Act} {w:World} (h:Q .normal a w):Exit.inBlock id Q .normal a w:=h
theorem inb_x {Q:Exit→Act→World→Prop} {id:Nat} {a:Act} {w:World} (h:Q .normal a w):Exit.inBlock id Q (.exit id) a w:=by simp [Exit.inBlock]; exact h
theorem wp_symQ {P:Program} {ops:Array Oper} {y:Code} {Q:Exit→Act→World→Prop} {T0:Array Value} {n:Nat} {L:Ks} {w0:World} {gs:List Gf} {id:Nat} {d:Bool} {W:World} {E:List Bx} (hS:Fb w0 W E) (hG:GsAt gs W) (hK:Kn T0 n L) (S:Pqs→List Spo) (L1:Pqs→Ks) (hm:P.follows .mixedOrders = true) (hsh:∀ p p',(S p).map Spo.bare = (S p').map Spo.bare) (hB:∀ p,symB ops n L E (S p) p (L1 p) = true) (hL:∀ p,(L1 p).map (fun x=>slotAt L x.1 (S p).length (puts p 0 (S p))) = (L1 p).map (·.2))
  (hok:∀ p,Oks P ops L E (S p) (GsAt gs) w0 W.heap.size p 0 (S p))
  (hfin:∀ p W' T1,SymF E (S p) (GsAt gs) w0 W.heap.size p W'→Kn T1 n (L1 p)→y.wp P Q ⟨T1,[]⟩ W') :
  (Code.seq (Code.region id ops d) y).wp P Q ⟨T0,[]⟩ W:=wp_seq (wp_symG hS hG hK S L1 hm hsh hB hL hok hfin)
theorem script_bind {α β:Type} (P:Program) (r:Nat) (m:Sem α) (k:α→Sem β) (vs:List Value):∀ x:α,script P r m [] = some (x,[])→script P r (m >>= k) vs = script P r (k x) vs:=by
 induction m with
 | pure a=>
  intro x h
  simp only [script,Option.some.injEq,Prod.mk.injEq] at h
  rw [← h.1]; rfl
 | load _ a k' _=>intro x h; simp [script] at h
 | store _ a v k' _=>
  intro x h
  simp only [script] at h
  split at h
  ·simp at h
  ·cases h
 | new o k' _=>
  intro x h
  simp only [script] at h
  split at h
  ·simp at h
  ·cases h
 | program k' ih=>intro x h; exact ih P x h
 | mark _ k' ih=>intro x h; exact ih x h
 | _=>intro x h; simp [script] at h
theorem script_under {P:Program} {r:Nat} {t:TypeId} {d:TypeDesc} (h:P.underlying t = some d):script P r (underlying t) [] = some (d,[]):=by
 show script P r (match P.underlying t with|some d=>pure d|none=>_) [] = _
 rw [h]; rfl
theorem ok_vr {P:Program} {ops:Array Oper} {L:Ks} {E:List Bx} {S:List Spo} {G:World→Prop} {w0:World} {base:Nat} {p:Pqs} {i:Nat} {r:List Spo} {s:Nat} {x:Value} {m:Sem Value} (e:script P 0 m [] = some (x,[])) (h:opRun P ops L (puts p 0 S) i 0 [] = some (some s,true,script P 0 (do pure (Next.value (← m))) [])) (t:Oks P ops L E S G w0 base p (i+1) r):Oks P ops L E S G w0 base p i (.v s x :: r):=
 ⟨(show opRun P ops L (puts p 0 S) i 0 [] = some (some s,true,some (.value x,[])) by rw [h,script_bind P 0 m _ [] x e]; rfl),t⟩
theorem script_index {P:Program} {r:Nat} {t:TypeId} {s:ByteArray} {i:Int} {j a:Nat} (hu:P.underlying t = some .string) (hi:i = (j:Int)) (hj:j < s.size) (ha:(s[j]'hj).toNat = a):script P r (Instr.index t (.string s) (.int .i64 i)) [] = some (.int .u8 (a:Int),[]):=by
 subst hi
 unfold Instr.index
 rw [script_bind P r _ _ [] (IntKind.i64,(j:Int)) rfl]
 show script P r (do let d ← underlying t; _) [] = _
 rw [script_bind P r _ _ [] _ (script_under hu)]
 show script P r (match (if 0≤(j:Int) then s[(j:Int).toNat]? else none) with|some b=>(pure (.int .u8 b.toNat):Sem Value)|none=>boundsPanic .i64 (j:Int) s.size .index) [] = _
 rw [if_pos (by omega),Int.toNat_natCast,ByteArray.getElem?_lt' s j hj,← ha]; rfl
theorem own_parts {w:World} {base n:Nat} {v:Value} {xs:List Nat} (hn:xs.length = n) (hp:0 < n) (h:w.ownsRow base 47 1 v n (xs.map (fun z:Nat=>Value.int .u32 (z:Int)))) :
  ∃ g c,v = .slice (some ⟨g,0,none⟩) n c∧base≤g∧n≤c∧c≤9223372036854775807∧Row w g xs∧Own w base (.slice (some ⟨g,0,none⟩) n c) xs:=by
 obtain ⟨_,h|⟨g,c,cur,hv,hg,hh,h1,h2,h3,h4⟩⟩:=h
 ·omega
 ·have hcur:cur = lc xs ++ (cur.toList.drop n).toArray:=by
   apply Array.toList_inj.1
   rw [Array.toList_append]
   simp only [lc]
   rw [← h4,Nat.mul_one,List.take_append_drop]
  have hrow:Row w g xs:=⟨(cur.toList.drop n).toArray,by rw [← hcur]; exact hh⟩
  have hc:c≤9223372036854775807:=by unfold maxLen at h2; exact h2
  refine ⟨g,c,hv,hg,h1,hc,hrow,Or.inr ⟨g,c,cur,by rw [hn],hg,hh,by omega,by omega,hc,fun j hj=>?_⟩⟩
  rw [hcur]; exact lc_at' xs _ j hj
theorem clone_some (b off cap n:Nat) (xs:List Nat) (w:World) (hn:Hid (xs.length = n)) (hp:0 < n) (hlen:n≤1073741824) (hlt:b < w.heap.size)
  (hc:∀ j,j < n→w.cell? ⟨b,off+j,none⟩ = some (.int .u32 ((xs[j]?.getD 0:Nat):Int))) :
  Calls Tryz.prog 93 #[.slice (some ⟨b,off,none⟩) n cap] w
   fun e w'=>∃ g c:Nat,e = .returned (.slice (some ⟨g,0,none⟩) n c)∧w.heap.size≤g∧n≤c∧c≤9223372036854775807∧Row w' g xs∧Own w' w.heap.size (.slice (some ⟨g,0,none⟩) n c) xs∧Below w.heap.size w w':=by
 have hni:=fun (w:World)=>Lib.run_eql_slice_nil (P:=Tryz.prog) w 27 47 (some ⟨b,off,none⟩) n cap 0 0 Tryz.under_limbs
 obtain ⟨i0,hi,hz0,hz1,hz2⟩:=info_parts Tryz.info_limb
 go_enter Tryz.func93,Tryz.ntmps93
 go_wp2_with (at_builtin; refine wpList_append_own _ rfl (.tmp 5) (.tmp 6) 27 rfl w.heap.size 47 i0 (.int .u32 0) 1 4 Tryz.under_limbs hi hz0 hz1 hz2 rfl (by decide) _ 0 [] rfl (World.ownsRow_made w #[] 0 (Nat.le_refl _) (by decide) rfl) ⟨b,off,none⟩ n cap (xs.map (fun z:Nat=>Value.int .u32 (z:Int))) rfl ?hl ?hnews ?h1 ?h63 ?hbytes ?hbase ?_)
 case hl=>have:=unhide hn; simp; omega
 case hnews=>
  intro j u hj
  have hl:=unhide hn
  have hjn:j < xs.length:=by
   have:=(List.getElem?_eq_some_iff.1 hj).1
   simpa using this
  have hu:u = .int .u32 ((xs[j]?.getD 0:Nat):Int):=by
   rw [List.getElem?_map,List.getElem?_eq_getElem hjn] at hj
   simp at hj
   rw [← hj]
   simp [hjn]
  rw [hu,Addr.add_lit,((gr_alloc w (.cells #[] 47)).cell (by exact hlt))]
  exact hc j (by omega)
 case h1=>
  intro u hu
  obtain ⟨z,_,rfl⟩:=List.mem_map.1 hu
  rfl
 case h63=>unfold maxLen; omega
 case hbytes=>omega
 case hbase=>simp
 intro v' w1 hown hgrow hnil
 obtain ⟨g,c,hv,hg,hnc,hc9,hrow,hO⟩:=own_parts (unhide hn) hp hown
 have hbl:Below w.heap.size w w1:=(gr_alloc w (.cells #[] 47)).grown hgrow (by simp) (fun k hk=>by simp [Value.ownBlock] at hk; omega)
 rw [hv]
 clear hown hgrow hnil hc hni
 go_wp2
 go_ret
 exact ⟨g,c,rfl,hg,hnc,hc9,hrow,hO,hbl⟩
theorem clone_nil (cap:Nat) (w:World) :
  Calls Tryz.prog 93 #[.slice none 0 cap] w fun e w'=>e = .returned (.slice none 0 0)∧w' = w:=by
 have hni:=fun (w:World)=>Lib.run_eql_slice_nil (P:=Tryz.prog) w 27 47 none 0 cap 0 0 Tryz.under_limbs
 go_enter Tryz.func93,Tryz.ntmps93
 go_wp2
 go_ret
 exact ⟨rfl,rfl⟩
theorem clone_empty (p:Addr) (cap:Nat) (w:World) :
  Calls Tryz.prog 93 #[.slice (some p) 0 cap] w fun e w'=>(∃ g c,e = .returned (.slice (some ⟨g,0,none⟩) 0 c)∧Own w' w.heap.size (.slice (some ⟨g,0,none⟩) 0 c) [])∧Below w.heap.size w w':=by
 have hni:=fun (w:World)=>Lib.run_eql_slice_nil (P:=Tryz.prog) w 27 47 (some p) 0 cap 0 0 Tryz.under_limbs
 go_enter Tryz.func93,Tryz.ntmps93
 go_wp2
 go_ret
 exact ⟨⟨w.heap.size,0,rfl,Or.inr ⟨w.heap.size,0,#[],rfl,Nat.le_refl _,heap_alloc_new w _,Nat.le_refl _,Nat.le_refl _,by omega,fun j hj=>by simp at hj⟩⟩,gr_alloc _ _⟩
theorem clone_any (a:Option Addr) (n cap m:Nat) (w:World) (h:Num w a n m) :
  Calls Tryz.prog 93 #[.slice a n cap] w fun e w'=>(∃ a' c,e = .returned (.slice a' n c)∧Mine w' w.heap.size a' n c m)∧Below w.heap.size w w':=by
 obtain ⟨xs,hn,hl,hw,hN,hv,hb⟩:=h
 rcases hl.parts with hx|⟨hp,b,off,rfl,hlt,hc⟩
 ·subst hx
  have hn0:n = 0:=by rw [← hn]; rfl
  subst hn0
  cases a with
  | none=>
   refine (clone_nil cap w).mono ?_
   rintro e w1 ⟨rfl,rfl⟩
   exact ⟨⟨none,0,rfl,[],rfl,Or.inl ⟨rfl,rfl⟩,hw,hN,hv,hb⟩,gr_refl _⟩
  | some p=>
   refine (clone_empty p cap w).mono ?_
   rintro e w1 ⟨⟨g,c,rfl,hO⟩,hb1⟩
   exact ⟨⟨_,c,rfl,[],rfl,hO,hw,hN,hv,hb⟩,hb1⟩
 ·refine (clone_some b off cap n xs w (hide hn) (by omega) (by omega) hlt (fun j hj=>hc j (by omega))).mono ?_
  rintro e w1 ⟨g,c,rfl,_,_,_,_,hO,hb1⟩
  exact ⟨⟨_,c,rfl,xs,hn,hO,hw,hN,hv,hb⟩,hb1⟩
def bc (ds:List Nat):Array Value:=(ds.map (fun z:Nat=>Value.int .u8 (z:Int))).toArray
def BRow (w:World) (B:Nat) (ds:List Nat):Prop:=w.heap[B]? = some (.cells (bc ds) 5 (0,0))
theorem size_bc (zs:List Nat):(bc zs).size = zs.length:=by simp [bc]
theorem bc_at (zs:List Nat) (j:Nat) (h:j < zs.length):(bc zs)[j]? = some (.int .u8 ((zs[j]?.getD 0:Nat):Int)):=by simp [bc,h]
theorem bc_set (zs:List Nat) (j v:Nat):(bc zs).setIfInBounds j (.int .u8 (v:Int)) = bc (zs.set j v):=by
 simp [bc,List.setIfInBounds_toArray,List.map_set]
theorem BRow.cell {w:World} {B:Nat} {zs:List Nat} (h:BRow w B zs) (j:Nat) (hj:j < zs.length):w.cell? ⟨B,j,none⟩ = some (.int .u8 ((zs[j]?.getD 0:Nat):Int)):=by
 rw [cell_of_row w B j _ _ _ h,bc_at zs j hj]
theorem BRow.frozen {w:World} {B:Nat} {zs:List Nat} (h:BRow w B zs) (j:Nat):w.frozen? ⟨B,j,none⟩ = false:=frozen_of_row w B j _ _ h
theorem BRow.set {w:World} {B:Nat} {zs:List Nat} (h:BRow w B zs) (j v:Nat):BRow (w.setCell ⟨B,j,none⟩ (.int .u8 (v:Int))) B (zs.set j v):=by
 unfold BRow; rw [heap_setCell_same w B j _ _ _ h,bc_set]
theorem BRow.lt {w:World} {B:Nat} {zs:List Nat} (h:BRow w B zs):B < w.heap.size:=by
 by_cases hlt:B < w.heap.size
 ·exact hlt
 ·unfold BRow at h; rw [Array.getElem?_eq_none (by omega)] at h; cases h
theorem BRow.only {w w':World} {B C:Nat} {zs:List Nat} (h:BRow w B zs) (k:Only C w w') (hne:B≠C):BRow w' B zs:=by
 unfold BRow; rw [k.block B hne]; exact h
theorem BRow.ne {w:World} {B C:Nat} {zs xs:List Nat} (h:BRow w B zs) (k:Row w C xs):B≠C:=by
 rintro rfl
 obtain ⟨tl,k⟩:=k
 unfold BRow at h
 rw [k] at h
 simp at h
theorem BRow.made (w:World) (zs:List Nat):BRow (w.alloc (.cells (bc zs) 5)) w.heap.size zs:=heap_alloc_new w _
def chars (ds:List Nat):List UInt8:=ds.map (fun d=>UInt8.ofNat (48+d))
def Says (s:ByteArray) (m:Nat):Prop:=∃ ds,s.data.toList = chars ds∧Pl.Dig ds∧Pl.Lead ds∧Pl.dval ds 0 = m
theorem dval_append (xs ys:List Nat):Pl.dval (xs ++ ys) 0 = Pl.dval xs 0 * 10 ^ ys.length+Pl.dval ys 0:=by
 have h:∀ (xs:List Nat) (a:Nat),Pl.dval (xs ++ ys) a = Pl.dval ys (Pl.dval xs a):=by
  intro xs
  induction xs with
  | nil=>intro a; rfl
  | cons x xs ih=>intro a; exact ih _
 rw [h,Pl.dval_eq]
theorem digit_step {G es q:Nat} (e:List Nat) (he:e.length = q) (hv:Pl.dval e 0 = es):G / 10 * 10 ^ (q+1)+Pl.dval (G % 10 :: e) 0 = G * 10 ^ q+es:=by
 rw [Pl.dval_cons,he,hv,Nat.pow_succ,Nat.mul_comm (10 ^ q) 10,← Nat.mul_assoc,← Nat.add_assoc,← Nat.add_mul]
 congr 2
 omega
theorem says_eq {s t:ByteArray} {m:Nat} (h:Says s m) (k:Says t m):s = t:=by
 obtain ⟨ds,h1,h2,h3,h4⟩:=h
 obtain ⟨es,k1,k2,k3,k4⟩:=k
 have e:=Pl.dval_inj h2 k2 h3 k3 (by omega)
 subst e
 have:s.data = t.data:=Array.toList_inj.1 (by rw [h1,k1])
 cases s; cases t; simpa using this
def Room (w:World) (g:Nat) (xs:List Nat) (c:Nat):Prop:=∃ tl:Array Value,w.heap[g]? = some (.cells (lc xs ++ tl) 47 (0,0))∧xs.length+tl.size = c∧c≤9223372036854775807
theorem Room.row {w:World} {g c:Nat} {xs:List Nat} (h:Room w g xs c):Row w g xs:=by
 obtain ⟨tl,h,_⟩:=h
 exact ⟨tl,h⟩
theorem Room.len {w:World} {g c:Nat} {xs:List Nat} (h:Room w g xs c):xs.length≤c∧c≤9223372036854775807:=by
 obtain ⟨tl,_,h1,h2⟩:=h
 omega
theorem Room.set {w:World} {g c:Nat} {xs:List Nat} (h:Room w g xs c) (j v:Nat) (hj:j < xs.length):Room (w.setCell ⟨g,j,none⟩ (.int .u32 (v:Int))) g (xs.set j v) c:=by
 obtain ⟨tl,h,h1,h2⟩:=h
 refine ⟨tl,?_,by rw [List.length_set]; exact h1,h2⟩
 rw [heap_setCell_same w g j _ _ _ h,Array.setIfInBounds_append_left (by rw [size_lc]; exact hj),lc_set]
theorem Room.made (w:World) (n:Nat) (hn:n≤9223372036854775807):Room (w.alloc (.cells (lc (List.replicate n 0)) 47)) w.heap.size [] n:=
 ⟨lc (List.replicate n 0),by rw [heap_alloc_new]; simp [lc],by rw [size_lc]; simp,hn⟩
theorem Room.owns {w:World} {g c base:Nat} {xs:List Nat} (h:Room w g xs c) (hb:base≤g):w.ownsRow base 47 1 (.slice (some ⟨g,0,none⟩) xs.length c) xs.length (xs.map (fun z:Nat=>Value.int .u32 (z:Int))):=by
 obtain ⟨tl,hh,h1,h2⟩:=h
 refine ⟨by simp,.inr ⟨g,c,_,rfl,hb,hh,by omega,by unfold maxLen; exact h2,?_,?_⟩⟩
 ·rw [Array.size_append,size_lc]; omega
 ·rw [Array.toList_append,List.take_append_of_le_length (by simp [lc])]
  simp only [lc,Nat.mul_one]
  rw [List.take_of_length_le (by simp)]
theorem room_of {w:World} {base n:Nat} {v:Value} {xs:List Nat} (hn:xs.length = n) (hp:0 < n) (h:w.ownsRow base 47 1 v n (xs.map (fun z:Nat=>Value.int .u32 (z:Int)))) :
  ∃ g c,v = .slice (some ⟨g,0,none⟩) n c∧base≤g∧Room w g xs c:=by
 obtain ⟨_,h|⟨g,c,cur,hv,hg,hh,h1,h2,h3,h4⟩⟩:=h
 ·omega
 ·have hcur:cur = lc xs ++ (cur.toList.drop n).toArray:=by
   apply Array.toList_inj.1
   rw [Array.toList_append]
   simp only [lc]
   rw [← h4,Nat.mul_one,List.take_append_drop]
  refine ⟨g,c,hv,hg,(cur.toList.drop n).toArray,by rw [← hcur]; exact hh,?_,by unfold maxLen at h2; exact h2⟩
  simp
  omega
def DigS (s:ByteArray) (ds:List Nat):Prop:=s.size = ds.length∧Pl.Dig ds∧∀ (k:Nat) (h:k < s.size),(s[k]'h).toNat = 48+ds[k]?.getD 0
theorem dval_snoc (ds:List Nat) (k:Nat) (h:k < ds.length):Pl.dval (ds.take (k+1)) 0 = Pl.dval (ds.take k) 0 * 10+ds[k]?.getD 0:=by
 rw [Pl.take_snoc ds k h,dval_append]
 simp [Pl.dval]
theorem pg_step {o c f p s t B q r G:Nat} (B':Nat) (hB:B' = B * 4294967296) (h:o+B * c = f * p+G) (ht:t = c+s * f) (e:t = 4294967296 * q+r):(o+B * r)+B' * q = f * (p+B * s)+G:=by
 subst hB
 have e1:B * t = B * 4294967296 * q+B * r:=by rw [e,Nat.mul_add,Nat.mul_assoc]
 have e2:B * t = B * c+f * (B * s):=by rw [ht,Nat.mul_add]; congr 1; rw [Nat.mul_comm s f,Nat.mul_left_comm]
 rw [Nat.mul_add f]
 omega
theorem pg_carry {c f x q r:Nat} (hc:c < f) (hx:x < 4294967296) (e:c+x * f = 4294967296 * q+r):q < f:=by
 have h1:x * f≤4294967295 * f:=Nat.mul_le_mul_right _ (by omega)
 omega
theorem mul_hi9 {x f:Nat} (hx:x < 4294967296) (hf:f≤1000000000):(x:Int) * (f:Int)≤4294967295000000000:=by
 have:x * f≤4294967295 * 1000000000:=Nat.mul_le_mul (by omega) (by omega)
 rw [← Int.natCast_mul]; omega
theorem pow_nine {k:Nat} (h:k≤9):10 ^ k≤1000000000:=Nat.pow_le_pow_right (show 0 < 10 by decide) (show k≤9 by omega)
theorem dig_take {ds:List Nat} (h:Pl.Dig ds) (k:Nat):Pl.Dig (ds.take k):=fun d hd=>h d (List.mem_of_mem_take hd)
def PutTo (base n:Nat) (xs ds:List Nat) (w:World) (e:Ending) (w':World):Prop:=
 ∃ g' n' c' ys,e = .returned (.slice (some ⟨g',0,none⟩) n' c')∧base≤g'∧Room w' g' ys c'∧ys.length = n'∧n'≤n+1∧Pl.Wf ys∧Pl.val ys = Pl.val xs * 10 ^ ds.length+Pl.dval ds 0∧Below base w w'
theorem putGroup_any (base g n c q:Nat) (s:ByteArray) (xs ds:List Nat) (w:World) (hq:Hid (s.size = q)) (hq9:q≤9) (hS:Hid (DigS s ds)) (hn:Hid (xs.length = n)) (hlen:n≤20000) (hx:Pl.Wf xs) (hbg:base≤g) (hbw:base≤w.heap.size) (hR:Room w g xs c) :
  Calls Tryz.prog 63 #[.slice (some ⟨g,0,none⟩) n c,.string s] w (PutTo base n xs ds w):=by
 obtain ⟨i0,hi,hz0,hz1,hz2⟩:=info_parts Tryz.info_limb
 have hsz:s.size≤9:=by rw [unhide hq]; exact hq9
 go_enter Tryz.func63,Tryz.ntmps63
 go_wp2
 go_loopw [5,6,12] (fun t f i wr=>∃ (k v p:Nat),k≤s.size∧i = .int .i64 k∧t = .int .u64 (v:Int)∧f = .int .u64 (p:Int)∧p = 10 ^ k∧v = Pl.dval (ds.take k) 0∧w = wr) (fun _ _ i _=>s.size - (intOf i).toNat)
 case atStart=>exact ⟨0,0,1,Nat.zero_le _,rfl,rfl,rfl,rfl,rfl,rfl⟩
 case round=>
  obtain ⟨k,v,p,hk,rfl,rfl,rfl,hp,hv,rfl⟩:=hrel
  obtain ⟨hs1,hs2,hs3⟩:=unhide hS
  have hp9:p≤1000000000:=by rw [hp]; exact pow_nine (by omega)
  have hvp:v < p:=by
   have:=Pl.dval_lt (dig_take hs2 k)
   rw [List.length_take,Nat.min_eq_left (by omega),← hv,← hp] at this
   exact this
  by_cases hks:k < s.size
  ·obtain ⟨x,hxx⟩:∃ x,x = ds[k]?.getD 0:=⟨_,rfl⟩
   have hx10:x < 10:=by
    rw [hxx,List.getElem?_eq_getElem (by omega)]
    exact hs2 _ (List.getElem_mem _)
   have hsx:(s[k]'hks).toNat = 48+x:=by rw [hxx]; exact hs3 k hks
   have hp8:p≤100000000:=by rw [hp]; exact Nat.pow_le_pow_right (show 0 < 10 by decide) (show k≤8 by omega)
   have HV:Hid (v * 10+x = Pl.dval (ds.take (k+1)) 0):=hide (by rw [dval_snoc ds k (by omega),← hv,← hxx])
   have HP:Hid (p * 10 = 10 ^ (k+1)):=hide (by rw [hp,Nat.pow_succ])
   clear hp hv hxx hs1 hs2 hs3
   go_wp2
   go_roundw
   case rel=>
    exact ⟨k+1,v * 10+x,p * 10,by omega,by go_num,by go_num,by go_num,unhide HP,(unhide HV),trivial⟩
   case measure=>simp [intOf]; omega
  ·have hke:k = s.size:=by omega
   have HP:Hid (p = 10 ^ ds.length):=hide (by rw [hp,hke,hs1])
   have HV:Hid (v = Pl.dval ds 0):=hide (by rw [hv,List.take_of_length_le (by omega)])
   clear hp hv hs1 hs2 hs3
   go_wp2
   go_loopw [5,28] (fun t i wr=>∃ (j cc:Nat) (out:List Nat),j≤n∧i = .int .i64 (j:Int)∧t = .int .u64 (cc:Int)∧cc < p∧out.length = j∧Pl.Wf out∧Pl.val out+4294967296 ^ j * cc = p * Pl.val (xs.take j)+v ∧
     Room wr g (out ++ xs.drop j) c∧Below base w wr) (fun _ i _=>n - (intOf i).toNat)
   case atStart=>exact ⟨0,v,[],Nat.zero_le _,rfl,rfl,hvp,rfl,Pl.wf_nil,by simp [Pl.val],by simpa using hR,Below.refl _ _⟩
   case round=>
    obtain ⟨j,cc,out,hj,rfl,rfl,hcc,hol,how,hval,hRR,hbel⟩:=hrel
    have hnl:=unhide hn
    have HVal:=hide hval
    clear hval
    by_cases hjn:j < n
    ·obtain ⟨x,hxx⟩:∃ x,x = xs[j]?.getD 0:=⟨_,rfl⟩
     have hx1:x < 4294967296:=by rw [hxx]; exact Pl.wf_at hx j
     have hat:=at_mid [] out xs [] j hol (by omega)
     simp only [List.nil_append,List.append_nil,List.length_nil,Nat.zero_add] at hat
     have hcx:wr.cell? ⟨g,j,none⟩ = some (.int .u32 (x:Int)):=by rw [hRR.row.cell j (by simp; omega),hat,hxx]
     have hfz:wr.frozen? ⟨g,j,none⟩ = false:=hRR.row.frozen j
     obtain ⟨t,ht⟩:∃ t,t = cc+x * p:=⟨_,rfl⟩
     have hm0:=mul_lo x p
     have hm1:=mul_hi9 hx1 hp9
     have hti:(cc:Int)+(x:Int) * (p:Int) = (t:Int):=by rw [ht,Int.natCast_add,Int.natCast_mul]
     have ht1:t < 18446744073709551616:=by omega
     have hqc:t / 4294967296 < p:=pg_carry hcc hx1 (by rw [← ht]; exact (Nat.div_add_mod t 4294967296).symm)
     have HV2:Hid (Pl.val (out ++ [t % 4294967296])+4294967296 ^ (j+1) * (t / 4294967296) = p * Pl.val (xs.take (j+1))+v):=by
      rw [Pl.val_append,Pl.val_one,hol,Pl.val_take_any xs j,← hxx]
      exact pg_step _ (Nat.pow_succ ..) (unhide HVal) ht (Nat.div_add_mod t 4294967296).symm
     have hset:=hRR.set j (t % 4294967296) (by simp; omega)
     have es:=set_mid [] out xs [] j (t % 4294967296) hol (by omega)
     simp only [List.nil_append,List.append_nil,List.length_nil,Nat.zero_add] at es
     rw [es] at hset
     have HSet:=hide hset
     clear hset es hat hxx hRR ht hnl
     go_wp2
     go_roundw
     case rel=>
      have e1:(t:Int) / 4294967296 = ((t / 4294967296:Nat):Int):=by omega
      have e2:(t:Int) % 4294967296 = ((t % 4294967296:Nat):Int):=by omega
      rw [e1,e2]
      exact ⟨j+1,t / 4294967296,out ++ [t % 4294967296],by omega,by go_num,rfl,hqc,by simp [hol],Pl.wf_append how (Pl.wf_one (by omega)),unhide HV2,unhide HSet,hbel.setCell hbg _⟩
     case measure=>simp [intOf]; omega
    ·have hje:j = n:=by omega
     subst hje
     have hxt:xs.take j = xs:=List.take_of_length_le (by omega)
     have hxd:xs.drop j = []:=List.drop_eq_nil_of_le (by omega)
     rw [hxd,List.append_nil] at hRR
     have HV2:Hid (Pl.val out+4294967296 ^ j * cc = Pl.val xs * 10 ^ ds.length+Pl.dval ds 0):=hide (by
      have:=unhide HVal
      rw [hxt,unhide HP,unhide HV,Nat.mul_comm (10 ^ ds.length)] at this
      exact this)
     clear HVal hxt hxd hnl
     by_cases hc0:cc = 0
     ·subst hc0
      go_wp2
      go_ret
      exact ⟨g,j,c,out,rfl,hbg,hRR,hol,by omega,how,by have:=unhide HV2; rw [Nat.mul_zero,Nat.add_zero] at this; exact this,hbel⟩
     ·have hcb:((cc:Int) == 0) = false:=by simp; omega
      have hown:=hRR.owns hbg
      rw [hol] at hown
      have hbs:base≤wr.heap.size:=Nat.le_trans hbw hbel.size
      have hcc32:cc < 4294967296:=by omega
      clear hc0
      go_wp2_with (at_builtin; refine wpList_append_own _ rfl (.tmp 50) (.tmp 53) 27 rfl base 47 i0 (.int .u32 0) 1 4 Tryz.under_limbs hi hz0 hz1 hz2 rfl (by decide) _ j _ rfl (hown.alloc _) ⟨wr.heap.size,0,none⟩ 1 1 [.int .u32 (cc:Int)] rfl rfl (cell_one_new _ _ _) (fun x hx=>by simp at hx; subst hx; rfl) (by unfold maxLen; omega) (by omega) (by simp; omega) ?_)
      intro v' w1 hown1 hgrow hnil
      have e1:out.map (fun z:Nat=>Value.int .u32 (z:Int)) ++ [Value.int .u32 (cc:Int)] = (out ++ [cc]).map (fun z:Nat=>Value.int .u32 (z:Int)):=by simp
      rw [e1] at hown1
      obtain ⟨g',c',hv',hg',hroom⟩:=room_of (by simp [hol]) (by omega) hown1
      have hbl:Below base w w1:=(hbel.alloc hbs _).grown hgrow (by simp; omega) (fun q hq=>by simp [Value.ownBlock] at hq; omega)
      rw [hv']
      have HV3:Hid (Pl.val (out ++ [cc]) = Pl.val xs * 10 ^ ds.length+Pl.dval ds 0):=hide (by rw [Pl.val_append,Pl.val_one,hol]; exact unhide HV2)
      clear hown1 hgrow hnil hv' HV2 e1
      go_wp2
      go_ret
      exact ⟨g',j+1,c',out ++ [cc],rfl,hg',hroom,by simp [hol],Nat.le_refl _,Pl.wf_append how (Pl.wf_one hcc32),unhide HV3,hbl⟩
theorem addTimes_any (B b off cap cap' f:Nat) (pre d post xs:List Nat) (w:World) (hd:d.length = xs.length) (hlen:xs.length≤1073741824) (hne:b≠B)
  (wd:Pl.Wf d) (wx:Pl.Wf xs) (hf:f < 4294967296) (hrow:Row w B (pre ++ d ++ post))
  (hc:∀ j,j < xs.length→w.cell? ⟨b,off+j,none⟩ = some (.int .u32 ((xs[j]?.getD 0:Nat):Int))) :
  Calls Tryz.prog 65 #[.slice (some ⟨B,pre.length,none⟩) d.length cap,.slice (some ⟨b,off,none⟩) xs.length cap',.int .u32 (f:Int)] w
   fun e w'=>∃ (out:List Nat) (c:Nat),e = .returned (.int .u32 (c:Int))∧out.length = xs.length∧Pl.Wf out∧c < 4294967296∧Pl.val out+4294967296 ^ xs.length * c = Pl.val d+f * Pl.val xs∧Row w' B (pre ++ out ++ post)∧Only B w w':=by
 go_enter Tryz.func65,Tryz.ntmps65
 go_wp2
 go_loopw [7,12] (fun t i wr=>∃ (k c:Nat) (out:List Nat),k≤xs.length∧i = .int .i64 k∧t = .int .u64 (c:Int)∧c < 4294967296∧out.length = k∧Pl.Wf out ∧
   Pl.val out+4294967296 ^ k * c = Pl.val (d.take k)+f * Pl.val (xs.take k)∧Row wr B (pre ++ (out ++ d.drop k) ++ post)∧Only B w wr) (fun _ i _=>xs.length - (intOf i).toNat)
 case atStart=>exact ⟨0,0,[],Nat.zero_le _,rfl,rfl,by omega,rfl,Pl.wf_nil,by simp [Pl.val],by simpa using hrow,Only.refl _ _⟩
 case round=>
  obtain ⟨k,c,out,hk,rfl,rfl,hcl,hol,how,hval,hr,honly⟩:=hrel
  by_cases hlt:k < xs.length
  ·obtain ⟨x,hx⟩:∃ x,x = xs[k]?.getD 0:=⟨_,rfl⟩
   obtain ⟨y,hy⟩:∃ y,y = d[k]?.getD 0:=⟨_,rfl⟩
   have hcx:wr.cell? ⟨b,off+k,none⟩ = some (.int .u32 (x:Int)):=by rw [hx]; exact (honly.cell (by exact hne)).trans (hc k hlt)
   have hcd:wr.cell? ⟨B,pre.length+k,none⟩ = some (.int .u32 (y:Int)):=by
    rw [hr.cell (pre.length+k) (by simp; omega),at_mid _ _ _ _ _ hol (by omega),hy]
   have hfz:wr.frozen? ⟨B,pre.length+k,none⟩ = false:=hr.frozen _
   have hx1:x < 4294967296:=by rw [hx]; exact Pl.wf_at wx k
   have hy1:y < 4294967296:=by rw [hy]; exact Pl.wf_at wd k
   have hm1:=mul_lo x f
   have hm2:=mul_hi hx1 hf
   have HV:Hid (Pl.val out+4294967296 ^ k * c = Pl.val (d.take k)+f * Pl.val (xs.take k)):=hval
   have HX:Hid (x = xs[k]?.getD 0):=hx
   have HY:Hid (y = d[k]?.getD 0):=hy
   clear hval hx hy
   go_wp2
   have e1:((c:Int)+((x:Int) * (f:Int)+(y:Int))) / 4294967296 = (((c+x * f+y) / 4294967296:Nat):Int):=by omega
   have e2:((c:Int)+((x:Int) * (f:Int)+(y:Int))) % 4294967296 = (((c+x * f+y) % 4294967296:Nat):Int):=by omega
   have hb:c+x * f+y < 18446744073709551616:=by have:((x * f:Nat):Int) = (x:Int) * (f:Int):=Int.natCast_mul _ _; omega
   go_roundw
   case rel=>
    rw [e1,e2]
    refine ⟨k+1,(c+x * f+y) / 4294967296,out ++ [(c+x * f+y) % 4294967296],by omega,by go_num,rfl,by omega,by simp [hol],Pl.wf_append how (Pl.wf_one (by omega)),?_,?_,honly.setCell _ _⟩
    ·rw [Pl.val_append,Pl.val_one,hol,Pl.val_take_succ d k (by omega),Pl.val_take_succ xs k hlt,← HX.out,← HY.out]
     exact Pl.step_mul _ (Nat.pow_succ ..) HV.out _ _ _ (by omega) y rfl
    ·have:=hr.set (pre.length+k) ((c+x * f+y) % 4294967296) (by simp; omega)
     rwa [set_mid _ _ _ _ _ _ hol (by omega)] at this
   case measure=>simp [intOf]; omega
  ·have hke:k = xs.length:=by omega
   have HV:Hid (Pl.val out+4294967296 ^ k * c = Pl.val (d.take k)+f * Pl.val (xs.take k)):=hval
   clear hval
   go_wp2
   go_ret
   refine ⟨out,c,ret_int (by omega),by omega,how,hcl,?_,?_,honly⟩
   ·have:=HV.out
    rw [hke,List.take_of_length_le (by omega),List.take_of_length_le (by omega)] at this
    exact this
   ·rw [List.drop_eq_nil_of_le (by omega),List.append_nil] at hr
    exact hr
theorem addTimes_at (B p n b off cap cap' f:Nat) (pre d post xs:List Nat) (w:World) (hp:pre.length = p) (hd:d.length = n) (hx:xs.length = n) (hlen:n≤1073741824) (hne:b≠B)
  (wd:Pl.Wf d) (wx:Pl.Wf xs) (hf:f < 4294967296) (hrow:Row w B (pre ++ d ++ post))
  (hc:∀ j,j < xs.length→w.cell? ⟨b,off+j,none⟩ = some (.int .u32 ((xs[j]?.getD 0:Nat):Int))) :
  Calls Tryz.prog 65 #[.slice (some ⟨B,p,none⟩) n cap,.slice (some ⟨b,off,none⟩) n cap',.int .u32 (f:Int)] w
   fun e w'=>∃ (out:List Nat) (c:Nat),e = .returned (.int .u32 (c:Int))∧out.length = n∧Pl.Wf out∧c < 4294967296∧Pl.val out+4294967296 ^ n * c = Pl.val d+f * Pl.val xs∧Row w' B (pre ++ out ++ post)∧Only B w w':=by
 subst hp
 subst hx
 have h:=addTimes_any B b off cap cap' f pre d post xs w hd hlen hne wd wx hf hrow hc
 rw [hd] at h
 exact h
theorem mul_step {x y:Nat} {lo out pre d:List Nat} {c i l m:Nat} (h:Pl.val lo = x * y) (hl:lo = pre ++ d) (hp:pre.length = i) (ho:out.length = m) (e:Pl.val out+4294967296 ^ m * c = Pl.val d+l * x) :
  Pl.val (pre ++ out ++ [c]) = x * (y+4294967296 ^ i * l):=by
 rw [List.append_assoc,Pl.val_append,Pl.val_append,Pl.val_one,hp,ho,e]
 rw [hl,Pl.val_append,hp] at h
 rw [Nat.mul_add,Nat.mul_add,← Nat.add_assoc,h,Nat.mul_comm l x,Nat.mul_left_comm]
theorem multiply_any (b off cap b' off' cap':Nat) (xs ys:List Nat) (w:World) (hxp:0 < xs.length) (hx:xs.length≤16384) (hy:ys.length≤16384) (wx:Pl.Wf xs) (wy:Pl.Wf ys)
  (hb:b < w.heap.size) (hb':b' < w.heap.size)
  (hc:∀ j,j < xs.length→w.cell? ⟨b,off+j,none⟩ = some (.int .u32 ((xs[j]?.getD 0:Nat):Int)))
  (hc':∀ j,j < ys.length→w.cell? ⟨b',off'+j,none⟩ = some (.int .u32 ((ys[j]?.getD 0:Nat):Int))) :
  Calls Tryz.prog 42 #[.slice (some ⟨b,off,none⟩) xs.length cap,.slice (some ⟨b',off',none⟩) ys.length cap'] w
   fun e w'=>∃ zs:List Nat,e = .returned (.slice (some ⟨w.heap.size,0,none⟩) (xs.length+ys.length) (xs.length+ys.length))∧zs.length = xs.length+ys.length∧Pl.Wf zs∧Pl.val zs = Pl.val xs * Pl.val ys∧Row w' w.heap.size zs∧Below w.heap.size w w':=by
 have hxn:¬ xs = []:=fun h=>by simp [h] at hxp
 have hmk:=make_limbs ((xs.length:Int)+(ys.length:Int)) (xs.length+ys.length) (by omega) (by omega)
 go_enter Tryz.func42,Tryz.ntmps42
 go_wp2
 clear hmk
 go_loopw [17] (fun i wr=>∃ (k:Nat) (lo:List Nat),k≤ys.length∧i = .int .i64 k∧lo.length = k+xs.length∧Pl.Wf lo∧Pl.val lo = Pl.val xs * Pl.val (ys.take k) ∧
   Row wr w.heap.size (lo ++ List.replicate (ys.length - k) 0)∧Below w.heap.size w wr) (fun i _=>ys.length - (intOf i).toNat)
 case atStart=>
  refine ⟨0,List.replicate xs.length 0,Nat.zero_le _,rfl,by simp,Pl.wf_replicate _,by simp [Pl.val_replicate,Pl.val],?_,gr_alloc _ _⟩
  rw [List.replicate_append_replicate]; exact Row.made _ _
 case round=>
  obtain ⟨k,lo,hk,rfl,hlo,wlo,hval,hr,hbel⟩:=hrel
  by_cases hlt:k < ys.length
  ·obtain ⟨y,hyy⟩:∃ y,y = ys[k]?.getD 0:=⟨_,rfl⟩
   have hy1:y < 4294967296:=by rw [hyy]; exact Pl.wf_at wy k
   have hcy:wr.cell? ⟨b',off'+k,none⟩ = some (.int .u32 (y:Int)):=by rw [hyy]; exact (hbel.cell (by exact hb')).trans (hc' k hlt)
   have HC:Hid (∀ j,j < xs.length→wr.cell? ⟨b,off+j,none⟩ = some (.int .u32 ((xs[j]?.getD 0:Nat):Int))):=fun j hj=>(hbel.cell (by exact hb)).trans (hc j hj)
   have HV:Hid (Pl.val lo = Pl.val xs * Pl.val (ys.take k)):=hval
   have HY:Hid (y = ys[k]?.getD 0):=hyy
   clear hval hyy
   by_cases hz:y = 0
   ·subst hz
    go_wp2
    go_roundw
    case rel=>
     refine ⟨k+1,lo ++ [0],by omega,by go_num,by simp; omega,Pl.wf_append wlo (Pl.wf_one (by omega)),?_,?_,hbel⟩
     ·rw [Pl.val_append,Pl.val_one,Nat.mul_zero,Nat.add_zero,Pl.val_take_succ ys k hlt,← HY.out,Nat.mul_zero,Nat.add_zero]; exact HV.out
     ·rw [List.append_assoc]
      have e:ys.length - k = ys.length - (k+1)+1:=by omega
      rw [e,List.replicate_succ] at hr
      exact hr
    case measure=>simp [intOf]; omega
   ·have hzb:((y:Int) == 0) = false:=by simpa using hz
    go_wp2_with fail
    have hpd:lo = lo.take k ++ lo.drop k:=(List.take_append_drop k lo).symm
    have hpl:(lo.take k).length = k:=by rw [List.length_take]; omega
    have hdl:(lo.drop k).length = xs.length:=by rw [List.length_drop]; omega
    have wd:Pl.Wf (lo.drop k):=Pl.wf_drop wlo k
    have wp:Pl.Wf (lo.take k):=Pl.wf_take wlo k
    have hrr:Row wr w.heap.size (lo.take k ++ lo.drop k ++ List.replicate (ys.length - k) 0):=by rw [← hpd]; exact hr
    generalize lo.take k = pre at *
    generalize lo.drop k = d at *
    have HD:Hid (lo = pre ++ d):=hpd
    clear hpd
    refine (addTimes_at w.heap.size k xs.length b off _ _ y pre d (List.replicate (ys.length - k) 0) xs wr hpl hdl rfl (by omega) (by omega) wd wx hy1 hrr HC.out).mono ?_
    rintro e w1 ⟨out,c,rfl,hol,wo,hcl,hev,hr1,ho1⟩
    have hrl:(pre ++ out ++ List.replicate (ys.length - k) 0).length = xs.length+ys.length:=by simp; omega
    have hcs:=hr1.cell (k+xs.length) (by omega)
    have hfs:=hr1.frozen (k+xs.length)
    have HR:=hide hr1
    have HO:=hide ho1
    have HE:=hide hev
    have HW:=hide hr
    clear hr1 ho1 hev hr hrr hrl
    go_wp2
    go_roundw
    case rel=>
     refine ⟨k+1,pre ++ out ++ [c],by omega,by go_num,by simp; omega,Pl.wf_append (Pl.wf_append wp wo) (Pl.wf_one hcl),?_,?_,?_⟩
     ·rw [Pl.val_take_succ ys k hlt,← HY.out]
      exact mul_step HV.out HD.out hpl hol (unhide HE)
     ·have h:=(unhide HR).set (k+xs.length) c (by simp; omega)
      have e:ys.length - k = ys.length - (k+1)+1:=by omega
      rw [e,List.replicate_succ,List.set_append_right _ _ (by simp; omega)] at h
      have e2:k+xs.length - (pre ++ out).length = 0:=by simp; omega
      rw [e2] at h
      simpa using h
     ·exact ((unhide HO).setCell _ _).below hbel (Nat.le_refl _)
    case measure=>simp [intOf]; omega
  ·go_wp2
   have hke:k = ys.length:=by omega
   go_ret
   refine ⟨lo,rfl,by omega,wlo,?_,?_,hbel⟩
   ·rw [hval,hke,List.take_of_length_le (Nat.le_refl _)]
   ·rw [hke,Nat.sub_self] at hr
    simpa using hr
theorem bits_or_u32 (a b:Nat) (ha:a < 4294967296) (hb:b < 4294967296):Go.bits .or .u32 (a:Int) (b:Int) = ((a ||| b:Nat):Int):=by
 have hx:a ||| b < 2 ^ 32:=Nat.or_lt_two_pow (by omega) (by omega)
 have h1:(BitVec.ofInt 32 (a:Int)).toNat = a:=by rw [BitVec.ofInt_natCast,BitVec.toNat_ofNat]; exact Nat.mod_eq_of_lt (by omega)
 have h2:(BitVec.ofInt 32 (b:Int)).toNat = b:=by rw [BitVec.ofInt_natCast,BitVec.toNat_ofNat]; exact Nat.mod_eq_of_lt (by omega)
 show IntKind.u32.wrap ((BitVec.ofInt 32 (a:Int) ||| BitVec.ofInt 32 (b:Int)).toNat:Int) = _
 rw [BitVec.toNat_or,h1,h2,IntKind.wrap_u32]
 omega
theorem pow_lt32 {pt:Nat} (h:pt < 32):2 ^ pt≤2147483648:=Nat.pow_le_pow_right (show 0 < 2 by decide) (show pt≤31 by omega)
theorem mul_lt63 {x pt:Nat} (hx:x < 4294967296) (h:pt < 32):x * 2 ^ pt < 9223372036854775808:=by
 have h1:=pow_lt32 h
 have:x * 2 ^ pt≤4294967295 * 2147483648:=Nat.mul_le_mul (by omega) h1
 omega
theorem sh_wrap {x k pt:Nat} (hx:x < 4294967296) (hk:k % 32 = pt) (h:pt < 32):IntKind.u64.wrap ((x:Int) * 2 ^ (k % 32)) = ((x * 2 ^ pt:Nat):Int):=by
 have:=mul_lt63 hx h
 rw [hk,IntKind.wrap_u64]
 have e:(x:Int) * 2 ^ pt = ((x * 2 ^ pt:Nat):Int):=by push_cast; rfl
 rw [e]
 omega
theorem pow_split {pt:Nat} (h:pt < 32):4294967296 = 2 ^ pt * 2 ^ (32 - pt):=by
 rw [← Nat.pow_add,show pt+(32 - pt) = 32 by omega]
theorem sh_low {x pt:Nat} (h:pt < 32):x * 2 ^ pt % 4294967296 = 2 ^ pt * (x % 2 ^ (32 - pt)):=by
 rw [pow_split h,Nat.mul_comm x,Nat.mul_mod_mul_left]
theorem or_low {c x pt:Nat} (hc:c < 2 ^ pt) (h:pt < 32):Go.bits .or .u32 (c:Int) (((x * 2 ^ pt:Nat):Int) % 4294967296) = ((c+x * 2 ^ pt % 4294967296:Nat):Int):=by
 have h1:=pow_lt32 h
 rw [show (((x * 2 ^ pt:Nat):Int) % 4294967296) = ((x * 2 ^ pt % 4294967296:Nat):Int) by omega,bits_or_u32 _ _ (by omega) (by omega)]
 congr 1
 rw [sh_low h,Nat.or_comm,← Nat.two_pow_add_eq_or_of_lt hc,Nat.add_comm]
theorem or_high {x pt:Nat} (hx:x < 4294967296) (h:pt < 32):Go.bits .or .u32 (0:Int) (((x * 2 ^ pt:Nat):Int) / 4294967296 % 4294967296) = ((x * 2 ^ pt / 4294967296:Nat):Int):=by
 have:=mul_lt63 hx h
 rw [show (((x * 2 ^ pt:Nat):Int) / 4294967296 % 4294967296) = ((x * 2 ^ pt / 4294967296:Nat):Int) by omega]
 have:=bits_or_u32 0 (x * 2 ^ pt / 4294967296) (by omega) (by omega)
 rw [Nat.zero_or] at this
 exact this
theorem high_lt {x pt:Nat} (hx:x < 4294967296):x * 2 ^ pt / 4294967296 < 2 ^ pt:=by
 rw [Nat.div_lt_iff_lt_mul (by decide),Nat.mul_comm]
 exact Nat.mul_lt_mul_of_pos_left hx (Nat.pow_pos (by decide))
theorem low_lt {c x pt:Nat} (hc:c < 2 ^ pt) (h:pt < 32):c+x * 2 ^ pt % 4294967296 < 4294967296:=by
 rw [sh_low h]
 have h2:x % 2 ^ (32 - pt) < 2 ^ (32 - pt):=Nat.mod_lt _ (Nat.pow_pos (by decide))
 have h3:2 ^ pt * (x % 2 ^ (32 - pt)+1)≤2 ^ pt * 2 ^ (32 - pt):=Nat.mul_le_mul_left _ h2
 rw [← pow_split h,Nat.mul_add,Nat.mul_one] at h3
 omega
theorem up_step {o p c x t B B' s lo hi:Nat} (hB:B' = B * 4294967296) (h:o+B * c = p * s) (ht:t = x * s) (e:t = 4294967296 * hi+lo):(o+B * (c+lo))+B' * hi = (p+B * x) * s:=by
 subst hB
 have e1:B * t = B * 4294967296 * hi+B * lo:=by rw [e,Nat.mul_add,Nat.mul_assoc]
 have e2:(p+B * x) * s = p * s+B * t:=by rw [ht,Nat.add_mul,Nat.mul_assoc]
 rw [e2,Nat.mul_add,e1]
 omega
theorem up_set1 (wh m c v:Nat) (os:List Nat):(List.replicate wh 0 ++ (os ++ c :: List.replicate (m+1) 0)).set (wh+os.length) v = List.replicate wh 0 ++ ((os ++ [v]) ++ 0 :: List.replicate m 0):=by
 rw [List.set_append_right _ _ (by simp),List.length_replicate,Nat.add_sub_cancel_left,List.set_append_right _ _ (by omega),Nat.sub_self]
 simp [List.replicate_succ]
theorem up_set2 (wh m v:Nat) (os:List Nat):(List.replicate wh 0 ++ (os ++ 0 :: List.replicate m 0)).set (wh+os.length) v = List.replicate wh 0 ++ (os ++ v :: List.replicate m 0):=by
 rw [List.set_append_right _ _ (by simp),List.length_replicate,Nat.add_sub_cancel_left,List.set_append_right _ _ (by omega),Nat.sub_self]
 simp
theorem up_at1 (wh c:Nat) (os r:List Nat):(List.replicate wh 0 ++ (os ++ c :: r))[wh+os.length]?.getD 0 = c:=by
 rw [List.getElem?_append_right (by simp),List.length_replicate,Nat.add_sub_cancel_left,List.getElem?_append_right (by omega),Nat.sub_self]
 simp
theorem up_at2 (wh c m:Nat) (os:List Nat):(List.replicate wh 0 ++ (os ++ c :: List.replicate (m+1) 0))[wh+os.length+1]?.getD 0 = 0:=by
 rw [List.getElem?_append_right (by simp; omega),List.length_replicate,List.getElem?_append_right (by omega)]
 rw [show wh+os.length+1 - wh - os.length = 0+1 by omega,List.getElem?_cons_succ]
 simp
theorem up_end {v x wh pt k c n:Nat} (hk:k = 32 * wh+pt) (h:v+4294967296 ^ n * c = x * 2 ^ pt):4294967296 ^ wh * (v+4294967296 ^ n * c) = x * 2 ^ k:=by
 rw [h,hk,Nat.pow_add,Nat.pow_mul,Nat.mul_left_comm]
theorem shiftUp_some (b off cap n wh pt k:Nat) (xs:List Nat) (w:World) (hn:Hid (xs.length = n)) (hlen:n≤20000) (hx:Pl.Wf xs) (hlt:b < w.heap.size) (hk:Hid (k = 32 * wh+pt)) (hpt:pt < 32) (hwh:wh≤20000)
  (hc:∀ j,j < n→w.cell? ⟨b,off+j,none⟩ = some (.int .u32 ((xs[j]?.getD 0:Nat):Int))) :
  Calls Tryz.prog 132 #[.slice (some ⟨b,off,none⟩) n cap,.int .i64 (k:Int)] w
   fun e w'=>∃ (out:List Nat),e = .returned (.slice (some ⟨w.heap.size,0,none⟩) (wh+n+1) (wh+n+1))∧out.length = wh+n+1∧Pl.Wf out∧Pl.val out = Pl.val xs * 2 ^ k∧Row w' w.heap.size out∧Below w.heap.size w w':=by
 have hmk:=make_limbs ((wh:Int)+(n:Int)+1) (wh+n+1) (by omega) (by omega)
 have hq:(k:Int) / 32 = (wh:Int):=by have:=unhide hk; omega
 have hr:(k:Int) % 32 = (pt:Int):=by have:=unhide hk; omega
 have HP:Hid (k % 32 = pt):=by have:=unhide hk; exact hide (by omega)
 go_enter Tryz.func132,Tryz.ntmps132
 go_wp2
 clear hmk hq hr
 go_loopw [23] (fun i wr=>∃ (j c:Nat) (os:List Nat),j≤n∧i = .int .i64 (j:Int)∧c < 2 ^ pt∧os.length = j∧Pl.Wf os∧Pl.val os+4294967296 ^ j * c = Pl.val (xs.take j) * 2 ^ pt ∧
   Row wr w.heap.size (List.replicate wh 0 ++ (os ++ c :: List.replicate (n - j) 0))∧Below w.heap.size w wr) (fun i _=>n - (intOf i).toNat)
 case atStart=>
  refine ⟨0,0,[],Nat.zero_le _,rfl,Nat.pow_pos (by decide),rfl,Pl.wf_nil,by simp [Pl.val],?_,gr_alloc _ _⟩
  have e:List.replicate wh 0 ++ ([] ++ 0 :: List.replicate (n - 0) 0) = List.replicate (wh+n+1) 0:=by
   rw [List.nil_append,Nat.sub_zero,← List.replicate_succ,List.replicate_append_replicate,Nat.add_assoc]
  rw [e]
  exact Row.made _ _
 case round=>
  obtain ⟨j,c,os,hj,rfl,hcl,hol,how,hval,hr,hbel⟩:=hrel
  have hxl:=unhide hn
  by_cases hjn:j < n
  ·obtain ⟨x,hxx⟩:∃ x,x = xs[j]?.getD 0:=⟨_,rfl⟩
   obtain ⟨m,hm⟩:∃ m,n - j = m+1:=⟨n - j - 1,by omega⟩
   rw [hm] at hr
   have hx1:x < 4294967296:=by rw [hxx]; exact Pl.wf_at hx j
   have hcx:wr.cell? ⟨b,off+j,none⟩ = some (.int .u32 (x:Int)):=by rw [hxx]; exact (hbel.cell (by exact hlt)).trans (hc j hjn)
   have hc1:=hr.cell (wh+j) (by simp; omega)
   have hc2:=hr.cell (wh+j+1) (by simp; omega)
   rw [← hol,up_at1] at hc1
   rw [← hol,up_at2] at hc2
   rw [hol] at hc1 hc2
   have hf1:=hr.frozen (wh+j)
   have hf2:=hr.frozen (wh+j+1)
   have HR:Hid (∀ v1 v2:Nat,Row ((wr.setCell ⟨w.heap.size,wh+j,none⟩ (.int .u32 (v1:Int))).setCell ⟨w.heap.size,wh+j+1,none⟩ (.int .u32 (v2:Int))) w.heap.size (List.replicate wh 0 ++ ((os ++ [v1]) ++ v2 :: List.replicate m 0))):=fun v1 v2=>by
    have h1:=hr.set (wh+j) v1 (by simp; omega)
    rw [← hol,up_set1] at h1
    have h2:=h1.set (wh+(os ++ [v1]).length) v2 (by simp)
    rw [up_set2] at h2
    rw [← hol]
    simpa [Nat.add_assoc] using h2
   have HV:Hid (∀ lo hi:Nat,x * 2 ^ pt = 4294967296 * hi+lo→Pl.val (os ++ [c+lo])+4294967296 ^ (j+1) * hi = Pl.val (xs.take (j+1)) * 2 ^ pt):=fun lo hi e=>by
    rw [Pl.val_append,Pl.val_one,hol,Pl.val_take_any xs j,← hxx]
    exact up_step (Nat.pow_succ ..) hval rfl e
   have HM:=hide hm
   clear hval hxx hr hxl hc hm
   go_wp2
   go_roundw
   case rel=>
    rw [sh_wrap hx1 (unhide HP) hpt,or_low hcl hpt,or_high hx1 hpt]
    have hm:=unhide HM
    refine ⟨j+1,x * 2 ^ pt / 4294967296,os ++ [c+x * 2 ^ pt % 4294967296],by omega,by go_num,high_lt hx1,by simp [hol],Pl.wf_append how (Pl.wf_one (low_lt hcl hpt)),unhide HV _ _ (Nat.div_add_mod _ _).symm,?_,(hbel.setCell (Nat.le_refl _) _).setCell (Nat.le_refl _) _⟩
    rw [show n - (j+1) = m by omega]
    exact unhide HR _ _
   case measure=>simp [intOf]; omega
  ·have hje:j = n:=by omega
   subst hje
   rw [List.take_of_length_le (by omega)] at hval
   rw [Nat.sub_self] at hr
   have hc32:=pow_lt32 hpt
   have HV:Hid (Pl.val (List.replicate wh 0 ++ (os ++ [c])) = Pl.val xs * 2 ^ k):=by
    rw [Pl.val_append,Pl.val_replicate,List.length_replicate,Nat.zero_add,Pl.val_append,Pl.val_one,hol]
    exact up_end (unhide hk) hval
   have HW:Hid (Pl.Wf (List.replicate wh 0 ++ (os ++ [c]))):=Pl.wf_append (Pl.wf_replicate wh) (Pl.wf_append how (Pl.wf_one (by omega)))
   have HR:=hide hr
   clear hval hr hc hxl
   go_wp2
   go_ret
   exact ⟨List.replicate wh 0 ++ (os ++ [c]),rfl,by simp [hol]; omega,unhide HW,unhide HV,unhide HR,hbel⟩
theorem shiftUp_none (a:Option Addr) (cap wh pt k:Nat) (w:World) (hk:Hid (k = 32 * wh+pt)) (hpt:pt < 32) (hwh:wh≤20000) :
  Calls Tryz.prog 132 #[.slice a 0 cap,.int .i64 (k:Int)] w
   fun e w'=>∃ (out:List Nat),e = .returned (.slice (some ⟨w.heap.size,0,none⟩) (wh+1) (wh+1))∧out.length = wh+1∧Pl.Wf out∧Pl.val out = 0∧Row w' w.heap.size out∧Below w.heap.size w w':=by
 have hmk:=make_limbs ((wh:Int)+1) (wh+1) (by omega) (by omega)
 have hq:(k:Int) / 32 = (wh:Int):=by have:=unhide hk; omega
 have hr:(k:Int) % 32 = (pt:Int):=by have:=unhide hk; omega
 go_enter Tryz.func132,Tryz.ntmps132
 go_wp2
 refine wp_loop_rounds 1 ?_
 rw [rounds_succ]
 go_wp2
 go_ret
 exact ⟨List.replicate (wh+1) 0,rfl,List.length_replicate,Pl.wf_replicate _,Pl.val_replicate _,Row.made _ _,gr_alloc _ _⟩
theorem shiftUp_any (a:Option Addr) (n cap wh pt k:Nat) (xs:List Nat) (w:World) (hn:xs.length = n) (hlen:n≤20000) (hl:Lim w a xs) (hx:Pl.Wf xs) (hk:k = 32 * wh+pt) (hpt:pt < 32) (hwh:wh≤20000) :
  Calls Tryz.prog 132 #[.slice a n cap,.int .i64 (k:Int)] w
   fun e w'=>∃ (out:List Nat),e = .returned (.slice (some ⟨w.heap.size,0,none⟩) (wh+n+1) (wh+n+1))∧out.length = wh+n+1∧Pl.Wf out∧Pl.val out = Pl.val xs * 2 ^ k∧Row w' w.heap.size out∧Below w.heap.size w w':=by
 rcases hl.parts with h0|⟨_,b,off,rfl,hlt,hc⟩
 ·subst h0
  obtain rfl:n = 0:=by rw [← hn]; rfl
  refine (shiftUp_none a cap wh pt k w (hide hk) hpt hwh).mono ?_
  rintro e w' ⟨out,he,h1,h2,h3,h4,h5⟩
  exact ⟨out,he,h1,h2,by rw [h3]; simp [Pl.val],h4,h5⟩
 ·exact shiftUp_some b off cap n wh pt k xs w (hide hn) hlen hx hlt (hide hk) hpt hwh (fun j hj=>hc j (by omega))
theorem or_wrap (A x:Nat) (hx:x < 4294967296):Go.bits .or .u64 (IntKind.u64.wrap ((A:Int) * 4294967296)) (x:Int) = ((A % 4294967296 * 4294967296+x:Nat):Int):=by
 have e:IntKind.u64.wrap ((A:Int) * 4294967296) = ((A % 4294967296:Nat):Int) * 4294967296:=by rw [IntKind.wrap_u64]; omega
 rw [e,or_limb _ _ (by omega) hx]
 omega
theorem down_shr (t k pt:Nat) (h:k % 32 = pt):((t:Int) / 2 ^ (k % 32)) % 4294967296 = ((t / 2 ^ pt % 4294967296:Nat):Int):=by
 rw [h,Int.natCast_emod,Int.natCast_ediv,Int.natCast_pow]
 rfl
theorem down_step {V x h P Q:Nat} (hP:0 < P) (hPQ:4294967296 = P * Q) (hh:h = V % 4294967296) (hx:x < 4294967296):(h * 4294967296+x) / P % 4294967296+4294967296 * (V / P) = (x+4294967296 * V) / P:=by
 have hr:V % P < P:=Nat.mod_lt _ hP
 have hm:h % P = V % P:=by rw [hh,Nat.mod_mod_of_dvd V ⟨Q,hPQ⟩]
 have hv:=Nat.div_add_mod V P
 have hu:=Nat.div_add_mod h P
 rw [hm] at hu
 generalize V % P = r at *
 generalize V / P = v at *
 generalize h / P = u at *
 have hD:(x+4294967296 * r) / P < 4294967296:=by
  rw [Nat.div_lt_iff_lt_mul hP]
  have:4294967296 * (r+1)≤4294967296 * P:=Nat.mul_le_mul_left _ hr
  omega
 have e1:h * 4294967296+x = P * (u * 4294967296)+(x+4294967296 * r):=by
  rw [← hu,Nat.add_mul,Nat.mul_assoc]; omega
 have e2:x+4294967296 * V = P * (4294967296 * v)+(x+4294967296 * r):=by
  rw [← hv,Nat.mul_add,Nat.mul_left_comm]; omega
 rw [e1,e2,Nat.mul_add_div hP,Nat.mul_add_div hP,Nat.mul_comm u,Nat.mul_add_mod,Nat.mod_eq_of_lt hD]
 omega
theorem val_mod (ys:List Nat) (hw:Pl.Wf ys) (j:Nat):ys[j]?.getD 0 = Pl.val (ys.drop j) % 4294967296:=by
 by_cases h:j < ys.length
 ·have:=Pl.wf_at hw j
  rw [Pl.drop_cons ys j h]
  simp only [Pl.val]
  omega
 ·rw [List.drop_eq_nil_of_le (by omega),List.getElem?_eq_none (by omega)]; rfl
theorem set_rep' (j v:Nat) (qs:List Nat):(List.replicate (j+1) 0 ++ qs).set j v = List.replicate j 0 ++ (v :: qs):=by
 rw [List.set_append_left _ _ (by simp),List.replicate_succ',List.set_append_right _ _ (by simp)]
 simp
theorem shiftDown_some (b off cap wh pt k N:Nat) (ys:List Nat) (w:World) (hy:Hid (ys.length = N)) (hN0:0 < N) (hN:N≤40000) (hwh:wh≤40000) (hcap:wh+N≤cap) (hcap2:cap≤9223372036854775807) (hx:Pl.Wf ys) (hlt:b < w.heap.size) (hk:Hid (k = 32 * wh+pt)) (hpt:pt < 32)
  (hc:∀ j,j < N→w.cell? ⟨b,off+wh+j,none⟩ = some (.int .u32 ((ys[j]?.getD 0:Nat):Int))) :
  Calls Tryz.prog 128 #[.slice (some ⟨b,off,none⟩) (wh+N) cap,.int .i64 (k:Int)] w
   fun e w'=>∃ l qs,e = .returned (.slice (some ⟨w.heap.size,0,none⟩) l l)∧l≤N∧Own w' w.heap.size (.slice (some ⟨w.heap.size,0,none⟩) l l) qs∧qs.length = l∧Pl.Wf qs∧Pl.Norm qs∧Pl.val qs = Pl.val ys / 2 ^ pt∧Below w.heap.size w w':=by
 have hmk:=make_limbs ((N:Int)) N rfl (by omega)
 have hq:(k:Int) / 32 = (wh:Int):=by have:=unhide hk; omega
 have hr:(k:Int) % 32 = (pt:Int):=by have:=unhide hk; omega
 have HP:Hid (k % 32 = pt):=by have:=unhide hk; exact hide (by omega)
 go_enter Tryz.func128,Tryz.ntmps128
 go_wp2
 clear hmk hq hr
 go_loopw [9,10] (fun ab i wr=>∃ (j A:Nat) (qs:List Nat),j≤N∧i = .int .i64 ((j:Int) - 1)∧ab = .int .u64 (A:Int)∧A < 18446744073709551616∧A % 4294967296 = ys[j]?.getD 0∧qs.length = N - j∧Pl.Wf qs∧Pl.val qs = Pl.val (ys.drop j) / 2 ^ pt ∧
   Row wr w.heap.size (List.replicate j 0 ++ qs)∧Below w.heap.size w wr) (fun _ i _=>(intOf i+1).toNat)
 case atStart=>
  refine ⟨N,0,[],Nat.le_refl _,rfl,rfl,by omega,?_,by simp,Pl.wf_nil,?_,?_,gr_alloc _ _⟩
  ·rw [List.getElem?_eq_none (by rw [unhide hy]; omega)]; rfl
  ·rw [List.drop_eq_nil_of_le (by rw [unhide hy]; omega)]; simp [Pl.val]
  ·rw [List.append_nil]; exact Row.made _ _
 case round=>
  obtain ⟨j,A,qs,hj,rfl,rfl,hA,hAm,hql,hqw,hv,hrow,hbel⟩:=hrel
  by_cases hj0:j = 0
  ·subst hj0
   have hr2:Row wr w.heap.size qs:=by simpa using hrow
   rw [List.drop_zero] at hv
   have HV:=hide hv
   clear hv hrow hAm hc
   go_wp2_with fail
   refine (trim_at w.heap.size 0 N N qs wr (by omega) (Nat.le_refl _) (by omega) (fun j hj=>by rw [Nat.zero_add]; exact hr2.cell j hj)).mono ?_
   rintro e w1 ⟨rfl,l,hl,h0,h1,rfl⟩
   have HT:=hide (trim_row hr2 (Nat.le_refl _) (by omega) hqw hl h0 h1)
   clear h0 h1
   go_wp2
   go_ret
   obtain ⟨t1,t2,t3,t4,t5⟩:=unhide HT
   exact ⟨l,qs.take l,rfl,by omega,t2,t1,t3,t4,by rw [t5,unhide HV],hbel⟩
  ·obtain ⟨i,rfl⟩:∃ i,j = i+1:=⟨j - 1,by omega⟩
   obtain ⟨x,hxx⟩:∃ x,x = ys[i]?.getD 0:=⟨_,rfl⟩
   have hx1:x < 4294967296:=by rw [hxx]; exact Pl.wf_at hx i
   have hcx:wr.cell? ⟨b,off+wh+i,none⟩ = some (.int .u32 (x:Int)):=by rw [hxx]; exact (hbel.cell (by exact hlt)).trans (hc i (by omega))
   have hcq:=hrow.cell i (by simp; omega)
   have hfq:=hrow.frozen i
   have HV:Hid (Pl.val ((A % 4294967296 * 4294967296+x) / 2 ^ pt % 4294967296 :: qs) = Pl.val (ys.drop i) / 2 ^ pt):=by
    have hyl:=unhide hy
    rw [Pl.drop_cons ys i (by omega),← hxx]
    simp only [Pl.val]
    rw [hv]
    exact down_step (Nat.pow_pos (by decide)) (pow_split hpt) (by rw [hAm]; exact val_mod ys hx (i+1)) hx1
   have HR:=hide (hrow.set i ((A % 4294967296 * 4294967296+x) / 2 ^ pt % 4294967296) (by simp; omega))
   have HX:=hide hxx
   have hA2:A % 4294967296 < 4294967296:=Nat.mod_lt _ (by decide)
   clear hxx hv hrow hc hAm
   go_wp2
   go_roundw
   case rel=>
    rw [or_wrap A x hx1,down_shr _ k pt (unhide HP)]
    refine ⟨i,A % 4294967296 * 4294967296+x,(A % 4294967296 * 4294967296+x) / 2 ^ pt % 4294967296 :: qs,by omega,rfl,rfl,by omega,by rw [← unhide HX]; omega,by simp; omega,Pl.wf_cons (Nat.mod_lt _ (by decide)) hqw,unhide HV,?_,hbel.setCell (Nat.le_refl _) _⟩
    have h:=unhide HR
    rwa [set_rep'] at h
   case measure=>simp [intOf]
theorem shiftDown_nil (a:Option Addr) (n cap wh k:Nat) (w:World) (hk:Hid (wh = k / 32)) (hk2:wh < 9223372036854775808) (hle:n≤wh) :
  Calls Tryz.prog 128 #[.slice a n cap,.int .i64 (k:Int)] w fun e w'=>e = .returned (.slice none 0 0)∧w' = w:=by
 have hq:(k:Int) / 32 = (wh:Int):=by have:=unhide hk; omega
 have hd:(n:Int)≤(wh:Int):=by omega
 clear hle
 go_enter Tryz.func128,Tryz.ntmps128
 go_wp2
 go_ret
 exact ⟨rfl,rfl⟩
theorem shiftDown_any (a:Option Addr) (n cap m k:Nat) (w:World) (h:Num w a n m) (hcap:n≤cap) (hcap2:cap≤9223372036854775807) (hk:k < 9223372036854775808) :
  Calls Tryz.prog 128 #[.slice a n cap,.int .i64 (k:Int)] w fun e w'=>(∃ a' l c,e = .returned (.slice a' l c)∧Mine w' w.heap.size a' l c (m / 2 ^ k))∧Below w.heap.size w w':=by
 obtain ⟨xs,hn,hl,hw,hN,hv,hb⟩:=h
 by_cases hle:n≤k / 32
 ·refine (shiftDown_nil a n cap (k / 32) k w rfl (by omega) hle).mono ?_
  rintro e w' ⟨rfl,rfl⟩
  have h0:m / 2 ^ k = 0:=by
   apply Nat.div_eq_of_lt
   have h1:=Pl.val_lt hw
   rw [hv,hn] at h1
   have h2:(4294967296:Nat) ^ n = 2 ^ (32 * n):=by rw [Nat.pow_mul]
   have h3:=Nat.pow_le_pow_right (show 0 < 2 by decide) (show 32 * n≤k by omega)
   rw [h2] at h1
   exact Nat.lt_of_lt_of_le h1 h3
  rw [h0]
  exact ⟨⟨none,0,0,rfl,[],rfl,Or.inl ⟨rfl,rfl⟩,Pl.wf_nil,Pl.norm_nil,rfl,by omega⟩,gr_refl _⟩
 ·rcases hl.parts with hx|⟨hp,b,off,rfl,hltb,hcx⟩
  ·rw [hx] at hn; simp at hn; omega
  ·obtain ⟨N,rfl⟩:∃ N,n = k / 32+N:=⟨n - k / 32,by omega⟩
   have hyl:(xs.drop (k / 32)).length = N:=by rw [List.length_drop]; omega
   refine (shiftDown_some b off cap (k / 32) (k % 32) k N (xs.drop (k / 32)) w (hide hyl) (by omega) (by omega) (by omega) hcap hcap2 (Pl.wf_drop hw _) hltb (hide (by omega)) (by omega) (fun j hj=>?_)).mono ?_
   ·have:=hcx (k / 32+j) (by omega)
    rw [← Nat.add_assoc] at this
    rw [this,List.getElem?_drop]
   ·rintro e w' ⟨l,qs,rfl,hlN,hO,hql,hqw,hqN,hqv,hb1⟩
    refine ⟨⟨_,l,l,rfl,qs,hql,hO,hqw,hqN,?_,by omega⟩,hb1⟩
    rw [hqv,← hv,Pl.val_split xs (k / 32) (by omega)]
    have e:2 ^ k = 4294967296 ^ (k / 32) * 2 ^ (k % 32):=by
     rw [show (4294967296:Nat) = 2 ^ 32 from rfl,← Nat.pow_mul,← Nat.pow_add]
     congr 1; omega
    have hlo:=Pl.val_lt (Pl.wf_take hw (k / 32))
    rw [List.length_take,Nat.min_eq_left (by omega)] at hlo
    rw [e,← Nat.div_div_eq_div_mul]
    congr 1
    rw [Nat.add_comm,Nat.mul_add_div (Nat.lt_of_le_of_lt (Nat.zero_le _) hlo),Nat.div_eq_of_lt hlo,Nat.add_zero]
theorem bne_cast (c:Nat):((c:Int) != 0) = (c != 0):=by rw [Bool.eq_iff_iff]; simp
theorem addInto_some (B p n b off m cap cap':Nat) (pre d post xs:List Nat) (w:World) (hp:Hid (pre.length = p)) (hd:Hid (d.length = n)) (hx:Hid (xs.length = m)) (hmn:m≤n) (hlen:n≤40000) (hne:b≠B)
  (wd:Pl.Wf d) (wx:Pl.Wf xs) (hrow:Row w B (pre ++ d ++ post))
  (hc:∀ j,j < m→w.cell? ⟨b,off+j,none⟩ = some (.int .u32 ((xs[j]?.getD 0:Nat):Int))) :
  Calls Tryz.prog 135 #[.slice (some ⟨B,p,none⟩) n cap,.slice (some ⟨b,off,none⟩) m cap'] w
   fun e w'=>∃ (out:List Nat) (c:Nat),e = .returned (.bool (c != 0))∧out.length = n∧Pl.Wf out∧c≤1∧Pl.val out+4294967296 ^ n * c = Pl.val d+Pl.val xs∧Row w' B (pre ++ out ++ post)∧Only B w w':=by
 go_enter Tryz.func135,Tryz.ntmps135
 go_wp2
 go_loopw [5,9] (fun t i wr=>∃ (k c:Nat) (out:List Nat),k≤n∧i = .int .i64 k∧t = .int .u64 (c:Int)∧c≤1∧out.length = k∧Pl.Wf out ∧
   Pl.val out+4294967296 ^ k * c = Pl.val (d.take k)+Pl.val (xs.take k)∧Row wr B (pre ++ (out ++ d.drop k) ++ post)∧Only B w wr) (fun _ i _=>n - (intOf i).toNat)
 case atStart=>exact ⟨0,0,[],Nat.zero_le _,rfl,rfl,by omega,rfl,Pl.wf_nil,by simp [Pl.val],by simpa using hrow,Only.refl _ _⟩
 case round=>
  obtain ⟨k,c,out,hk,rfl,rfl,hcl,hol,how,hval,hr,honly⟩:=hrel
  have hpl:=unhide hp
  have hdl:=unhide hd
  have hxl:=unhide hx
  by_cases hlt:k < n
  ·obtain ⟨y,hy⟩:∃ y,y = d[k]?.getD 0:=⟨_,rfl⟩
   obtain ⟨x,hxx⟩:∃ x,x = xs[k]?.getD 0:=⟨_,rfl⟩
   have hx1:x < 4294967296:=by rw [hxx]; exact Pl.wf_at wx k
   have hy1:y < 4294967296:=by rw [hy]; exact Pl.wf_at wd k
   have hcd:wr.cell? ⟨B,p+k,none⟩ = some (.int .u32 (y:Int)):=by
    rw [hr.cell (p+k) (by simp; omega),← hpl,at_mid _ _ _ _ _ hol (by omega),hy]
   have hfz:wr.frozen? ⟨B,p+k,none⟩ = false:=hr.frozen _
   have HV:Hid (∀ q r,c+y+x = q * 4294967296+r→Pl.val (out ++ [r])+4294967296 ^ (k+1) * q = Pl.val (d.take (k+1))+Pl.val (xs.take (k+1))):=fun q r e=>by
    rw [Pl.val_append,Pl.val_one,hol,Pl.val_take_any d k,Pl.val_take_any xs k,← hy,← hxx]
    exact Pl.step_add _ (Nat.pow_succ ..) hval (c+y+x) q r e y rfl
   have HR:Hid (∀ v,Row (wr.setCell ⟨B,p+k,none⟩ (.int .u32 ((v:Nat):Int))) B (pre ++ ((out ++ [v]) ++ d.drop (k+1)) ++ post)):=fun v=>by
    have:=hr.set (p+k) v (by simp; omega)
    rw [← hpl] at this ⊢
    rwa [set_mid _ _ _ _ _ _ hol (by omega)] at this
   by_cases hkm:k < m
   ·have hcx:wr.cell? ⟨b,off+k,none⟩ = some (.int .u32 (x:Int)):=by rw [hxx]; exact (honly.cell (by exact hne)).trans (hc k hkm)
    clear hval hy hxx hr hpl hdl hxl hc
    go_wp2
    go_roundw
    case rel=>
     have e1:((c:Int)+(y:Int)+(x:Int)) / 4294967296 = (((c+y+x) / 4294967296:Nat):Int):=by omega
     have e2:((c:Int)+(y:Int)+(x:Int)) % 4294967296 = (((c+y+x) % 4294967296:Nat):Int):=by omega
     rw [e1,e2]
     exact ⟨k+1,(c+y+x) / 4294967296,out ++ [(c+y+x) % 4294967296],by omega,by go_num,rfl,by omega,by simp [hol],Pl.wf_append how (Pl.wf_one (by omega)),unhide HV _ _ (by omega),unhide HR _,honly.setCell _ _⟩
    case measure=>simp [intOf]; omega
   ·have hx0:x = 0:=by rw [hxx,List.getElem?_eq_none (by omega)]; rfl
    subst hx0
    clear hval hy hxx hr hpl hdl hxl hc
    go_wp2
    go_roundw
    case rel=>
     have e1:((c:Int)+(y:Int)) / 4294967296 = (((c+y+0) / 4294967296:Nat):Int):=by omega
     have e2:((c:Int)+(y:Int)) % 4294967296 = (((c+y+0) % 4294967296:Nat):Int):=by omega
     rw [e1,e2]
     exact ⟨k+1,(c+y+0) / 4294967296,out ++ [(c+y+0) % 4294967296],by omega,by go_num,rfl,by omega,by simp [hol],Pl.wf_append how (Pl.wf_one (by omega)),unhide HV _ _ (by omega),unhide HR _,honly.setCell _ _⟩
    case measure=>simp [intOf]; omega
  ·have hke:k = n:=by omega
   subst hke
   rw [List.take_of_length_le (by omega),List.take_of_length_le (by omega)] at hval
   rw [List.drop_eq_nil_of_le (by omega),List.append_nil] at hr
   have HV:=hide hval
   clear hval hpl hdl hxl
   go_wp2
   go_ret
   exact ⟨out,c,ret_bool (a:=((c:Int) != 0)) (bne_cast c),hol,how,hcl,unhide HV,hr,honly⟩
theorem addInto_nil (B p n cap cap':Nat) (a:Option Addr) (pre d post:List Nat) (w:World) (hp:Hid (pre.length = p)) (hd:Hid (d.length = n)) (hlen:n≤40000)
  (wd:Pl.Wf d) (hrow:Row w B (pre ++ d ++ post)) :
  Calls Tryz.prog 135 #[.slice (some ⟨B,p,none⟩) n cap,.slice a 0 cap'] w
   fun e w'=>∃ (out:List Nat) (c:Nat),e = .returned (.bool (c != 0))∧out.length = n∧Pl.Wf out∧c≤1∧Pl.val out+4294967296 ^ n * c = Pl.val d∧Row w' B (pre ++ out ++ post)∧Only B w w':=by
 go_enter Tryz.func135,Tryz.ntmps135
 go_wp2
 go_loopw [5,9] (fun t i wr=>∃ (k c:Nat) (out:List Nat),k≤n∧i = .int .i64 k∧t = .int .u64 (c:Int)∧c≤1∧out.length = k∧Pl.Wf out ∧
   Pl.val out+4294967296 ^ k * c = Pl.val (d.take k)∧Row wr B (pre ++ (out ++ d.drop k) ++ post)∧Only B w wr) (fun _ i _=>n - (intOf i).toNat)
 case atStart=>exact ⟨0,0,[],Nat.zero_le _,rfl,rfl,by omega,rfl,Pl.wf_nil,by simp [Pl.val],by simpa using hrow,Only.refl _ _⟩
 case round=>
  obtain ⟨k,c,out,hk,rfl,rfl,hcl,hol,how,hval,hr,honly⟩:=hrel
  have hpl:=unhide hp
  have hdl:=unhide hd
  by_cases hlt:k < n
  ·obtain ⟨y,hy⟩:∃ y,y = d[k]?.getD 0:=⟨_,rfl⟩
   have hy1:y < 4294967296:=by rw [hy]; exact Pl.wf_at wd k
   have hcd:wr.cell? ⟨B,p+k,none⟩ = some (.int .u32 (y:Int)):=by
    rw [hr.cell (p+k) (by simp; omega),← hpl,at_mid _ _ _ _ _ hol (by omega),hy]
   have hfz:wr.frozen? ⟨B,p+k,none⟩ = false:=hr.frozen _
   have HV:Hid (∀ q r,c+y = q * 4294967296+r→Pl.val (out ++ [r])+4294967296 ^ (k+1) * q = Pl.val (d.take (k+1))):=fun q r e=>by
    rw [Pl.val_append,Pl.val_one,hol,Pl.val_take_any d k,← hy]
    have h0:Pl.val out+4294967296 ^ k * c = Pl.val (d.take k)+0:=hval
    have h1:=Pl.step_add (s:=0) _ (Nat.pow_succ ..) h0 (c+y) q r e y rfl
    rw [Nat.mul_zero,Nat.add_zero] at h1
    exact h1
   have HR:Hid (∀ v,Row (wr.setCell ⟨B,p+k,none⟩ (.int .u32 ((v:Nat):Int))) B (pre ++ ((out ++ [v]) ++ d.drop (k+1)) ++ post)):=fun v=>by
    have:=hr.set (p+k) v (by simp; omega)
    rw [← hpl] at this ⊢
    rwa [set_mid _ _ _ _ _ _ hol (by omega)] at this
   clear hval hy hr hpl hdl
   go_wp2
   go_roundw
   case rel=>
    have e1:((c:Int)+(y:Int)) / 4294967296 = (((c+y) / 4294967296:Nat):Int):=by omega
    have e2:((c:Int)+(y:Int)) % 4294967296 = (((c+y) % 4294967296:Nat):Int):=by omega
    rw [e1,e2]
    exact ⟨k+1,(c+y) / 4294967296,out ++ [(c+y) % 4294967296],by omega,by go_num,rfl,by omega,by simp [hol],Pl.wf_append how (Pl.wf_one (by omega)),unhide HV _ _ (by omega),unhide HR _,honly.setCell _ _⟩
   case measure=>simp [intOf]; omega
  ·have hke:k = n:=by omega
   subst hke
   rw [List.take_of_length_le (by omega)] at hval
   rw [List.drop_eq_nil_of_le (by omega),List.append_nil] at hr
   have HV:=hide hval
   clear hval hpl hdl
   go_wp2
   go_ret
   exact ⟨out,c,ret_bool (a:=((c:Int) != 0)) (bne_cast c),hol,how,hcl,unhide HV,hr,honly⟩
theorem word_some (b off cap n:Nat) (xs:List Nat) (w:World) (hn:Hid (xs.length = n)) (hn2:n≤2) (hw:Pl.Wf xs)
  (hc:∀ j,j < n→w.cell? ⟨b,off+j,none⟩ = some (.int .u32 ((xs[j]?.getD 0:Nat):Int))) :
  Calls Tryz.prog 98 #[.slice (some ⟨b,off,none⟩) n cap] w fun e w'=>e = .returned (.int .u64 (Pl.val xs:Int))∧w = w':=by
 go_enter Tryz.func98,Tryz.ntmps98
 go_wp2
 go_loop [3,4] (fun r i=>∃ (k acc:Nat),k≤n∧i = .int .i64 ((k:Int) - 1)∧r = .int .u64 (acc:Int)∧acc = Pl.val (xs.drop k)) (fun _ i=>(intOf i+1).toNat)
 case atStart=>exact ⟨n,0,Nat.le_refl _,rfl,rfl,by rw [List.drop_eq_nil_of_le (by rw [unhide hn]; omega)]; rfl⟩
 case round=>
  obtain ⟨k,acc,hk,rfl,rfl,hv⟩:=hrel
  by_cases hk0:k = 0
  ·subst hk0
   have HV:=hide hv
   clear hv
   go_wp2
   go_ret
   exact ⟨ret_int (by rw [unhide HV,List.drop_zero]),rfl⟩
  ·obtain ⟨j,rfl⟩:∃ j,k = j+1:=⟨k - 1,by omega⟩
   obtain ⟨x,hxx⟩:∃ x,x = xs[j]?.getD 0:=⟨_,rfl⟩
   have hnl:=unhide hn
   have hx1:x < 4294967296:=by rw [hxx]; exact Pl.wf_at hw j
   have hacc:acc < 4294967296:=by
    have h1:=Pl.val_lt (Pl.wf_drop hw (j+1))
    have h2:(xs.drop (j+1)).length≤1:=by rw [List.length_drop]; omega
    have h3:=Pl.pow_le h2
    rw [← hv] at h1
    omega
   have hcx:=hc j (by omega)
   rw [← hxx] at hcx
   obtain ⟨t,ht⟩:∃ t,t = acc * 4294967296+x:=⟨_,rfl⟩
   have hor:Go.bits BinOp.or IntKind.u64 ((acc:Int) * 4294967296) (x:Int) = (t:Int):=by rw [or_limb acc x hacc hx1,ht]; omega
   have HT:Hid (t = Pl.val (xs.drop j)):=by
    rw [Pl.drop_cons xs j (by omega),← hxx]
    show t = x+4294967296 * Pl.val (xs.drop (j+1))
    rw [← hv,ht]; omega
   clear hxx ht hv hnl hc
   go_wp2
   go_round
   case rel=>exact ⟨j,t,by omega,rfl,rfl,unhide HT⟩
   case measure=>simp [intOf]
theorem word_any (a:Option Addr) (n cap m:Nat) (w:World) (h:Num w a n m) (hn2:n≤2) :
  Calls Tryz.prog 98 #[.slice a n cap] w fun e w'=>e = .returned (.int .u64 (m:Int))∧w = w':=by
 obtain ⟨xs,hn,hl,hw,hN,hv,hb⟩:=h
 rcases hl.parts with hx|⟨hp,b,off,rfl,hlt,hc⟩
 ·have hn0:n = 0:=by rw [← hn,hx]; rfl
  have hm0:m = 0:=by rw [← hv,hx]; rfl
  subst hn0 hm0
  clear hn hv hl hw hN hb hx
  go_enter Tryz.func98,Tryz.ntmps98
  go_wp2
  refine wp_loop_rounds 1 ?_
  rw [rounds_succ]
  go_wp2
  go_ret
  exact ⟨rfl,rfl⟩
 ·rw [← hv]
  exact word_some b off cap n xs w (hide hn) hn2 hw (fun j hj=>hc j (by omega))
theorem low_small (a:Option Addr) (n cap m:Nat) (w:World) (h:Num w a n m) (hn2:n≤2) :
  Calls Tryz.prog 113 #[.agg #[.slice a n cap]] w fun e w'=>e = .returned (.tuple #[.int .u64 (m:Int),.bool true])∧Below w.heap.size w w':=by
 have H:=hide h
 obtain ⟨xs,hn,hl,hw,hN,hv,hb⟩:=h
 have hck:=check_any a cap xs (w.alloc (.cells #[.slice a n cap] 29)) (by omega) (hl.alloc _)
 rw [hn,chk_ok (by omega) hN] at hck
 have HK:=hide hck
 clear hck hl hn hv
 go_enter Tryz.func113,Tryz.ntmps113
 go_wp2_with fail
 refine (unhide HK).mono ?_
 rintro e w1 ⟨rfl,hb1⟩
 obtain ⟨hc1,hf1⟩:=bcell hb1
 go_wp2_with fail
 refine (word_any a n cap m w1 (((unhide H).alloc _).kept hb1) hn2).mono ?_
 rintro e w2 ⟨rfl,rfl⟩
 go_wp2
 go_ret2
 exact ⟨rfl,gr_trans (gr_alloc _ _) hb1⟩
theorem tt_step {o p c d f s B y t hi lo r bo:Nat} (B':Nat) (hB:B' = B * 4294967296) (h:o+f * p = d+B * c) (ht:t = c+s * f) (e:t = 4294967296 * hi+lo) (hr:r+lo = y+4294967296 * bo) :
  (o+B * r)+f * (p+B * s) = (d+B * y)+B' * (hi+bo):=by
 subst hB
 have e1:B * t = B * 4294967296 * hi+B * lo:=by rw [e,Nat.mul_add,Nat.mul_assoc]
 have e2:B * t = B * c+f * (B * s):=by rw [ht,Nat.mul_add]; congr 1; rw [Nat.mul_comm s f,Nat.mul_left_comm]
 have e3:B * (r+lo) = B * (y+4294967296 * bo):=by rw [hr]
 rw [Nat.mul_add,Nat.mul_add,← Nat.mul_assoc] at e3
 rw [Nat.mul_add,Nat.mul_add]
 omega
theorem tt_bound {c f s hi lo:Nat} (hc:c≤f) (hs:s < 4294967296) (e:c+s * f = 4294967296 * hi+lo) (hl:lo < 4294967296):hi≤f∧(hi = f→lo = 0):=by
 have h1:s * f≤4294967295 * f:=Nat.mul_le_mul_right _ (by omega)
 constructor <;> omega
theorem tt_end {o v d c B B' r y bo:Nat} (hB:B' = B * 4294967296) (h:o+v = d+B * c) (e:r+c = y+4294967296 * bo):o+B * r+v = d+B * y+B' * bo:=by
 subst hB
 have e3:B * (r+c) = B * (y+4294967296 * bo):=by rw [e]
 rw [Nat.mul_add,Nat.mul_add,← Nat.mul_assoc] at e3
 omega
def TakeTo (B:Nat) (pre post d xs:List Nat) (f n:Nat) (w:World) (e:Ending) (w':World):Prop:=
 ∃ (out:List Nat) (bo:Bool),e = .returned (.bool bo)∧out.length = n+1∧Pl.Wf out∧Pl.val out+f * Pl.val xs = Pl.val d+4294967296 ^ (n+1) * bo.toNat∧Row w' B (pre ++ out ++ post)∧Only B w w'
theorem tt_e2 (y t:Nat) (hy:y < 4294967296) (h:(y:Int) < (t:Int) % 4294967296):((y:Int) - (t:Int)) % 4294967296 = ((y+4294967296 - t % 4294967296:Nat):Int):=by omega
theorem tt_e3 (y c:Nat) (hc:c < 4294967296) (h:(y:Int) < (c:Int)):((y:Int) - (c:Int)) % 4294967296 = ((y+4294967296 - c:Nat):Int):=by omega
theorem takeTimes_any (B p n b off cap cap' f:Nat) (pre d post xs:List Nat) (w:World) (hp:Hid (pre.length = p)) (hd:Hid (d.length = n+1)) (hx:Hid (xs.length = n)) (hlen:n≤20000) (hne:b≠B) (hf:f < 4294967296)
  (wd:Pl.Wf d) (wx:Pl.Wf xs) (hrow:Row w B (pre ++ d ++ post))
  (hc:∀ j,j < n→w.cell? ⟨b,off+j,none⟩ = some (.int .u32 ((xs[j]?.getD 0:Nat):Int))) :
  Calls Tryz.prog 145 #[.slice (some ⟨B,p,none⟩) (n+1) cap,.slice (some ⟨b,off,none⟩) n cap',.int .u32 (f:Int)] w
   (TakeTo B pre post d xs f n w):=by
 go_enter Tryz.func145,Tryz.ntmps145
 go_wp2
 go_loopw [7,15] (fun t i wr=>∃ (k c:Nat) (out:List Nat),k≤n∧i = .int .i64 k∧t = .int .u64 (c:Int)∧c≤f∧out.length = k∧Pl.Wf out ∧
   Pl.val out+f * Pl.val (xs.take k) = Pl.val (d.take k)+4294967296 ^ k * c∧Row wr B (pre ++ (out ++ d.drop k) ++ post)∧Only B w wr) (fun _ i _=>n - (intOf i).toNat)
 case atStart=>exact ⟨0,0,[],Nat.zero_le _,rfl,rfl,by omega,rfl,Pl.wf_nil,by simp [Pl.val],by simpa using hrow,Only.refl _ _⟩
 case round=>
  obtain ⟨k,c,out,hk,rfl,rfl,hcl,hol,how,hval,hr,honly⟩:=hrel
  have HVal:=hide hval
  clear hval
  have hpl:=unhide hp
  have hdl:=unhide hd
  have hxl:=unhide hx
  obtain ⟨y,hy⟩:∃ y,y = d[k]?.getD 0:=⟨_,rfl⟩
  have hy1:y < 4294967296:=by rw [hy]; exact Pl.wf_at wd k
  have hcd:wr.cell? ⟨B,p+k,none⟩ = some (.int .u32 (y:Int)):=by
   rw [hr.cell (p+k) (by simp; omega),← hpl,at_mid _ _ _ _ _ hol (by omega),hy]
  have hfz:wr.frozen? ⟨B,p+k,none⟩ = false:=hr.frozen _
  have HR:Hid (∀ v,Row (wr.setCell ⟨B,p+k,none⟩ (.int .u32 ((v:Nat):Int))) B (pre ++ ((out ++ [v]) ++ d.drop (k+1)) ++ post)):=fun v=>by
   have:=hr.set (p+k) v (by simp; omega)
   rw [← hpl] at this ⊢
   rwa [set_mid _ _ _ _ _ _ hol (by omega)] at this
  by_cases hlt:k < n
  ·obtain ⟨x,hxx⟩:∃ x,x = xs[k]?.getD 0:=⟨_,rfl⟩
   have hx1:x < 4294967296:=by rw [hxx]; exact Pl.wf_at wx k
   have hcx:wr.cell? ⟨b,off+k,none⟩ = some (.int .u32 (x:Int)):=by rw [hxx]; exact (honly.cell (by exact hne)).trans (hc k hlt)
   obtain ⟨t,ht⟩:∃ t,t = c+x * f:=⟨_,rfl⟩
   have hm0:=mul_lo x f
   have hm1:=mul_hi hx1 hf
   have hti:(c:Int)+(x:Int) * (f:Int) = (t:Int):=by rw [ht]; push_cast; rfl
   have ht1:t < 18446744073709551616:=by omega
   have hb2:=tt_bound hcl hx1 (by rw [← ht]; exact (Nat.div_add_mod t 4294967296).symm) (Nat.mod_lt _ (by decide))
   have HV:Hid (∀ r bo,r+t % 4294967296 = y+4294967296 * bo→Pl.val (out ++ [r])+f * Pl.val (xs.take (k+1)) = Pl.val (d.take (k+1))+4294967296 ^ (k+1) * (t / 4294967296+bo)):=fun r bo e=>by
    rw [Pl.val_append,Pl.val_one,hol,Pl.val_take_any d k,Pl.val_take_any xs k,← hy,← hxx]
    exact tt_step _ (Nat.pow_succ ..) (unhide HVal) ht (Nat.div_add_mod t 4294967296).symm e
   clear HVal hy hxx hr hpl hdl hxl hc ht
   by_cases hbo:y < t % 4294967296
   ·have hbi:(y:Int) < (t:Int) % 4294967296:=by omega
    clear hbo
    go_wp2
    go_roundw
    case rel=>
     have e1:(t:Int) / 4294967296+1 = ((t / 4294967296+1:Nat):Int):=by omega
     have e2:=tt_e2 y t hy1 hbi
     rw [e1,e2]
     exact ⟨k+1,t / 4294967296+1,out ++ [y+4294967296 - t % 4294967296],by omega,by go_num,rfl,by omega,by simp [hol],Pl.wf_append how (Pl.wf_one (by omega)),unhide HV _ 1 (by omega),unhide HR _,honly.setCell _ _⟩
    case measure=>simp [intOf]; omega
   ·have hbi:(t:Int) % 4294967296≤(y:Int):=by omega
    clear hbo
    go_wp2
    go_roundw
    case rel=>
     have e1:(t:Int) / 4294967296 = ((t / 4294967296:Nat):Int):=by omega
     have e2:(y:Int) - (t:Int) % 4294967296 = ((y - t % 4294967296:Nat):Int):=by omega
     rw [e1,e2]
     exact ⟨k+1,t / 4294967296,out ++ [y - t % 4294967296],by omega,by go_num,rfl,hb2.1,by simp [hol],Pl.wf_append how (Pl.wf_one (by omega)),unhide HV _ 0 (by omega),unhide HR _,honly.setCell _ _⟩
    case measure=>simp [intOf]; omega
  ·have hke:k = n:=by omega
   subst hke
   have hxt:xs.take k = xs:=List.take_of_length_le (by omega)
   have hdt:d.take (k+1) = d:=List.take_of_length_le (by omega)
   have HV:Hid (∀ r (bo:Bool),r+c = y+4294967296 * bo.toNat→Pl.val (out ++ [r])+f * Pl.val xs = Pl.val d+4294967296 ^ (k+1) * bo.toNat):=fun r bo e=>by
    have hd2:Pl.val d = Pl.val (d.take k)+4294967296 ^ k * y:=by
     have:=Pl.val_take_any d k
     rw [hdt,← hy] at this
     exact this
    rw [Pl.val_append,Pl.val_one,hol,hd2]
    have hval:=unhide HVal
    rw [hxt] at hval
    exact tt_end (Nat.pow_succ ..) hval e
   have HD:Hid (d.drop (k+1) = []):=List.drop_eq_nil_of_le (by omega)
   clear HVal hy hr hpl hdl hxl hc hxt hdt
   by_cases hbo:y < c
   ·have hbi:(y:Int) < (c:Int):=by omega
    clear hbo
    go_wp2
    go_ret
    have e2:=tt_e3 y c (by omega) hbi
    rw [e2]
    have hR:=unhide HR (y+4294967296 - c)
    rw [unhide HD,List.append_nil] at hR
    exact ⟨out ++ [y+4294967296 - c],true,rfl,by simp [hol],Pl.wf_append how (Pl.wf_one (by omega)),unhide HV _ true (by simp; omega),hR,honly.setCell _ _⟩
   ·have hbi:¬ (y:Int) < (c:Int):=by omega
    clear hbo
    go_wp2
    go_ret
    have e2:(y:Int) - (c:Int) = ((y - c:Nat):Int):=by omega
    rw [e2]
    have hR:=unhide HR (y - c)
    rw [unhide HD,List.append_nil] at hR
    exact ⟨out ++ [y - c],false,rfl,by simp [hol],Pl.wf_append how (Pl.wf_one (by omega)),unhide HV _ false (by simp; omega),hR,honly.setCell _ _⟩
end Go.Proofs.YtdekhacomggpgaaGreatDoor
