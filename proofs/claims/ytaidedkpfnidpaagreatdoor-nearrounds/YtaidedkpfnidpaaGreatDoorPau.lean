/- Of what NearRoundsRow stands on: Sym6 NrList NrEq NrBeside NrRows. -/
import Derived.Test.YtaidedkpfnidpaaGreatDoorPat
import Derived.LoopN
import Derived.ChangeKeysEq
namespace Go.Proofs.YtaidedkpfnidpaaGreatDoor
open Go.RowKit
set_option maxHeartbeats 2000000
set_option maxRecDepth 20000
theorem rQ:jR (fun _=>True):=⟨fun _ _ _ h=>h,fun _ _ _ _ _ _ _ _ _ h=>h⟩
theorem ed{f g:World→Prop}(hf:jR f)(hg:jR g):jR (fun W=>f W∧g W):=⟨fun W W' hb h=>⟨hf.kept W W' hb h.1,hg.kept W W' hb h.2⟩,fun W b cs t j u h1 h2 h3 h=>⟨hf.put W b cs t j u h1 h2 h3 h.1,hg.put W b cs t j u h1 h2 h3 h.2⟩⟩
def cV(v:Value):Cf:=.pl (fun _=>v) (fun _ _=>True) (fun _=>rQ)
def cO(B m:Nat):Cf:=.pl (fun q=>.tuple #[.agg #[.slice q.A q.N q.C],.int .i64 0]) (fun q W=>Mine W B q.A q.N q.C m) (fun _=>bL _ _ _ _ _)
def cN(B m:Nat):Cf:=.pl (fun q=>.agg #[.slice q.A q.N q.C]) (fun q W=>Mine W B q.A q.N q.C m) (fun _=>bL _ _ _ _ _)
def cD(B m m':Nat):Cf:=.pl (fun q=>.tuple #[.agg #[.slice q.A q.N q.C],.agg #[.slice q.A' q.N' q.C'],.int .i64 0]) (fun q W=>Mine W B q.A q.N q.C m∧Mine W B q.A' q.N' q.C' m') (fun _=>ed (bL _ _ _ _ _) (bL _ _ _ _ _))
theorem aD{P:Program}{fn:FuncId}{args:Array Value}{W:World}{v:Value}(h:Calls P fn args W fun en W'=>en = .returned v∧Below W.heap.size W W'):Calls P fn args W fun en W'=>∃q,en = .returned ((cV v).f q)∧Below W.heap.size W W'∧(cV v).g q W':=
 h.mono fun _ _ ⟨h1,h2⟩=>⟨iH,h1,h2,trivial⟩
theorem fT{P:Program}{fn:FuncId}{args:Array Value}{W:World}{B:Nat}{m:Nat}(hb:B≤W.heap.size)(h:Calls P fn args W fun en W'=>(∃a n c,en = .returned (.tuple #[.agg #[.slice a n c],.int .i64 0])∧Mine W' W.heap.size a n c m)∧Below W.heap.size W W'):Calls P fn args W fun en W'=>∃q,en = .returned ((cO B m).f q)∧Below W.heap.size W W'∧(cO B m).g q W':=
 h.mono fun _ _ ⟨⟨a,n,c,h1,h3⟩,h2⟩=>⟨{ iH with A:=a,N:=n,C:=c },h1,h2,h3.mono hb⟩
theorem aT{P:Program}{fn:FuncId}{args:Array Value}{W:World}{B:Nat}{m:Nat}(hb:B≤W.heap.size)(h:Calls P fn args W fun en W'=>(∃a n c,en = .returned (.agg #[.slice a n c])∧Mine W' W.heap.size a n c m)∧Below W.heap.size W W'):Calls P fn args W fun en W'=>∃q,en = .returned ((cN B m).f q)∧Below W.heap.size W W'∧(cN B m).g q W':=
 h.mono fun _ _ ⟨⟨a,n,c,h1,h3⟩,h2⟩=>⟨{ iH with A:=a,N:=n,C:=c },h1,h2,h3.mono hb⟩
theorem wK{P:Program}{fn:FuncId}{args:Array Value}{W:World}{B:Nat}{m:Nat}{m':Nat}(hb:B≤W.heap.size)(h:Calls P fn args W fun en W'=>(∃a n c a' n' c',en = .returned (.tuple #[.agg #[.slice a n c],.agg #[.slice a' n' c'],.int .i64 0])∧Mine W' W.heap.size a n c m∧Mine W' W.heap.size a' n' c' m')∧Below W.heap.size W W'):Calls P fn args W fun en W'=>∃q,en = .returned ((cD B m m').f q)∧Below W.heap.size W W'∧(cD B m m').g q W':=
 h.mono fun _ _ ⟨⟨a,n,c,a',n',c',h1,h3,h4⟩,h2⟩=>⟨{ iH with A:=a,N:=n,C:=c,A':=a',N':=n',C':=c' },h1,h2,h3.mono hb,h4.mono hb⟩
def cG(B m:Nat)(f:Value→Value):Cf:=.pl (fun q=>f (.slice q.A q.N q.C)) (fun q W=>Mine W B q.A q.N q.C m) (fun _=>bL _ _ _ _ _)
def cH(B m m':Nat)(f:Value→Value→Value):Cf:=.pl (fun q=>f (.slice q.A q.N q.C) (.slice q.A' q.N' q.C')) (fun q W=>Mine W B q.A q.N q.C m∧Mine W B q.A' q.N' q.C' m') (fun _=>ed (bL _ _ _ _ _) (bL _ _ _ _ _))
theorem fQ{P:Program}{fn:FuncId}{args:Array Value}{W:World}{B m:Nat}{f:Value→Value}(hb:B≤W.heap.size)(h:Calls P fn args W fun en W'=>(∃a n c,en = .returned (f (.slice a n c))∧Mine W' W.heap.size a n c m)∧Below W.heap.size W W'):Calls P fn args W fun en W'=>∃q,en = .returned ((cG B m f).f q)∧Below W.heap.size W W'∧(cG B m f).g q W':=
 h.mono fun _ _ ⟨⟨a,n,c,h1,h3⟩,h2⟩=>⟨{ iH with A:=a,N:=n,C:=c },h1,h2,h3.mono hb⟩
theorem bP{P:Program}{fn:FuncId}{args:Array Value}{W:World}{B m m':Nat}{f:Value→Value→Value}(hb:B≤W.heap.size)(h:Calls P fn args W fun en W'=>(∃a n c a' n' c',en = .returned (f (.slice a n c) (.slice a' n' c'))∧Mine W' W.heap.size a n c m∧Mine W' W.heap.size a' n' c' m')∧Below W.heap.size W W'):Calls P fn args W fun en W'=>∃q,en = .returned ((cH B m m' f).f q)∧Below W.heap.size W W'∧(cH B m m' f).g q W':=
 h.mono fun _ _ ⟨⟨a,n,c,a',n',c',h1,h3,h4⟩,h2⟩=>⟨{ iH with A:=a,N:=n,C:=c,A':=a',N':=n',C':=c' },h1,h2,h3.mono hb,h4.mono hb⟩
structure Gf where
 f:World→Prop
 st:jR f
def au:List Gf→World→Prop
 | [],_=>True
 | g::r,W=>g.f W∧au r W
theorem xR:∀(gs:List Gf),jR (au gs)
 | []=>rQ
 | g::r=>ed g.st (xR r)
def gN(a:Option Addr)(n m:Nat):Gf:=⟨fun W=>Num W a n m,kz a n m⟩
def gM(B:Nat)(a:Option Addr)(n c m:Nat):Gf:=⟨fun W=>Mine W B a n c m,bL B a n c m⟩
def uW(x:Bx):List Bx→Prop
 | []=>True
 | y::r=>((x.my||y.my)=true→x.b≠y.b)∧uW x r
def tL:List Bx→Prop
 | []=>True
 | x::r=>uW x r∧tL r
def sF(w0:aN):List Bx→Prop
 | []=>True
 | x::r=>(x.my=true→w0.own x.b)∧sF w0 r
theorem sF.of{w0:aN}:∀{E:List Bx},sF w0 E→∀x,x∈E→x.my=true→w0.own x.b
 | [],_,_,h,_=>by simp at h
 | y::r,h,x,hx,hm=>by
  rcases List.mem_cons.1 hx with rfl|hx
  ·exact h.1 hm
  ·exact sF.of h.2 x hx hm
theorem uW.of{x:Bx}:∀{E:List Bx},uW x E→∀y,y∈E→(x.my=true∨y.my=true)→x.b≠y.b
 | [],_,_,h,_=>by simp at h
 | z::r,h,y,hy,hm=>by
  rcases List.mem_cons.1 hy with rfl|hy
  ·exact h.1 (by simpa using hm)
  ·exact uW.of h.2 y hy hm
theorem tL.of:∀{E:List Bx},tL E→∀(j k:Nat)(x y:Bx),E[j]? = some x→E[k]? = some y→x.my=true→j≠k→x.b≠y.b
 | [],_,_,_,_,_,h,_,_,_=>by simp at h
 | z::r,h,0,0,x,y,hx,hy,hm,hne=>absurd rfl hne
 | z::r,h,0,k+1,x,y,hx,hy,hm,hne=>by
  simp only [List.getElem?_cons_zero,Option.some.injEq] at hx;subst hx;exact h.1.of y (List.mem_of_getElem? (by simpa using hy)) (Or.inl hm)
 | z::r,h,j+1,0,x,y,hx,hy,hm,hne=>by
  simp only [List.getElem?_cons_zero,Option.some.injEq] at hy;subst hy;exact Ne.symm (h.1.of x (List.mem_of_getElem? (by simpa using hx)) (Or.inr hm))
 | z::r,h,j+1,k+1,x,y,hx,hy,hm,hne=>tL.of h.2 j k x y (by simpa using hx) (by simpa using hy) hm (by omega)
structure Fb(w0:aN)(W:World)(E:List Bx):Prop where
 bx:∀x,x∈E→W.heap[x.b]? = some (.cells x.cs x.t (0,0))
 fr:w0.to W
 low:sF w0 E
 ne:tL E
theorem Fb.begin(w:World):Fb (aN.all w) w []:=⟨(fun _ h=>nomatch h),Below.refl _ _,trivial,trivial⟩
theorem Fb.other{w:World}{b:Nat}{cs:Array Value}{t:TypeId}(h:w.heap[b]? = some (.cells cs t (0,0))):Fb (aN.all w) w [⟨b,cs,t,false⟩]:=⟨fun x hx=>by rw [List.mem_singleton.1 hx];exact h,Below.refl _ _,⟨(fun h=>absurd h (by simp)),trivial⟩,⟨trivial,trivial⟩⟩
theorem Fb.rcv{w:World}{b:Nat}{cs:Array Value}{t:TypeId}(h:w.heap[b]? = some (.cells cs t (0,0))):Fb (aN.but b w) w [⟨b,cs,t,true⟩]:=⟨fun x hx=>by rw [List.mem_singleton.1 hx];exact h,⟨rfl,rfl,rfl,Nat.le_refl _,fun _ _ _=>rfl⟩,⟨fun _=>Or.inl rfl,trivial⟩,⟨trivial,trivial⟩⟩
theorem Fb.more{w0:aN}{W:World}{E:List Bx}{b:Nat}{cs:Array Value}{t:TypeId}(hS:Fb w0 W E)(h:W.heap[b]? = some (.cells cs t (0,0)))(hn:uW ⟨b,cs,t,false⟩ E):Fb w0 W (⟨b,cs,t,false⟩::E):=
 ⟨fun x hx=>by
  rcases List.mem_cons.1 hx with rfl|hx
  ·exact h
  ·exact hS.bx x hx,hS.fr,⟨fun hm=>absurd hm (by simp),hS.low⟩,⟨hn,hS.ne⟩⟩
theorem Fb.kept{w0:aN}{W W':World}{E:List Bx}(h:Fb w0 W E)(hb:Below W.heap.size W W'):Fb w0 W' E:=⟨fun x hx=>by rw [hb.block _ (block_lt (h.bx x hx))];exact h.bx x hx,w0.kept h.fr hb,h.low,h.ne⟩
theorem tL.sym{E:List Bx}(h:tL E)(j k:Nat)(x y:Bx)(hx:E[j]? = some x)(hy:E[k]? = some y)(hm:x.my=true∨y.my=true)(hne:j≠k):x.b≠y.b:=by
 rcases hm with hm|hm
 ·exact h.of j k x y hx hy hm hne
 ·exact Ne.symm (h.of k j y x hy hx hm (Ne.symm hne))
def fE(E:List Bx)(S:List az)(p:aC):List Nat→List Bx
 | []=>[]
 | j::r=>match aV E S p j with
  | some (bx,_)=>⟨bx.b,cellsOf (fun _=>true) j 0 S bx.cs,bx.t,bx.my⟩::fE E S p r
  | none=>fE E S p r
def nodupB:List Nat→Bool
 | []=>true
 | j::r=>r.all (· != j)&&nodupB r
theorem jN{E:List Bx}{S:List az}{p:aC}:∀{js:List Nat}{x:Bx},x∈fE E S p js→∃j bx bo,j∈js∧aV E S p j=some (bx,bo)∧x=⟨bx.b,cellsOf (fun _=>true) j 0 S bx.cs,bx.t,bx.my⟩
 | [],_,h=>by simp [fE] at h
 | j::r,x,h=>by
  unfold fE at h
  split at h
  ·rename_i bx bo hb
   rcases List.mem_cons.1 h with rfl|h
   ·exact ⟨j,bx,bo,List.mem_cons_self ..,hb,rfl⟩
   ·obtain ⟨j',bx',bo',h1,h2⟩:=jN h;exact ⟨j',bx',bo',List.mem_cons_of_mem _ h1,h2⟩
  ·obtain ⟨j',bx',bo',h1,h2⟩:=jN h;exact ⟨j',bx',bo',List.mem_cons_of_mem _ h1,h2⟩
theorem ag.fb{E:List Bx}{S:List az}{G:World→Prop}{w0:aN}{W0:World}{p:aC}{W:World}(hS:Fb w0 W0 E)(h:ag E S G w0 W0.heap.size p W)(js:List Nat)(E1:List Bx)(e:fE E S p js=E1)(nd:nodupB js=true):Fb w0 W E1:=by
 subst e;have hap:∀j bx bo j' bx' bo',aV E S p j=some (bx,bo)→aV E S p j'=some (bx',bo')→j≠j'→(bx.my=true∨bx'.my=true)→bx.b≠bx'.b:=fun j bx bo j' bx' bo' hb hb' hne hm=>by
  rcases aP hb with ⟨q1,q2,q3⟩|⟨q1,s1,cs1,t1,q2,q3,q4⟩
  ·rcases aP hb' with ⟨r1,r2,r3⟩|⟨r1,s2,cs2,t2,r2,r3,r4⟩
   ·exact hS.ne.sym j j' bx bx' q2 r2 hm hne
   ·have h1:=block_lt (hS.bx bx (List.mem_of_getElem? q2));have h2:=h.nb _ _ _ _ r2;rw [r3];show bx.b≠(p (j'-1000)).N;omega
  ·rcases aP hb' with ⟨r1,r2,r3⟩|⟨r1,s2,cs2,t2,r2,r3,r4⟩
   ·have h1:=block_lt (hS.bx bx' (List.mem_of_getElem? r2));have h2:=h.nb _ _ _ _ q2;rw [q3];show (p (j-1000)).N≠bx'.b;omega
   ·rw [q3,r3];refine h.ne _ _ _ _ _ _ _ _ q2 r2 (fun e=>hne ?_);have a1:¬j<1000:=fun hc=>by rw [show Nat.blt j 1000=true from by rw [Nat.blt_eq];exact hc] at q1;cases q1
    have a2:¬j'<1000:=fun hc=>by rw [show Nat.blt j' 1000=true from by rw [Nat.blt_eq];exact hc] at r1;cases r1
    omega
 refine ⟨fun x hx=>?_,h.fr,?_,?_⟩
 ·obtain ⟨j,bx,bo,-,hb,rfl⟩:=jN hx;exact h.mem j bx bo hb
 ·clear nd;induction js with
  | nil=>trivial
  | cons j r ih=>
   unfold fE
   split
   ·rename_i bx bo hb
    refine ⟨fun hm=>?_,ih⟩
    show w0.own bx.b
    rcases aP hb with ⟨q1,q2,q3⟩|⟨q1,s1,cs1,t1,q2,q3,q4⟩
    ·exact hS.low.of bx (List.mem_of_getElem? q2) hm
    ·rw [q3];exact w0.new (Nat.le_trans (w0.sized hS.fr) (h.nb _ _ _ _ q2))
   ·exact ih
 ·induction js with
  | nil=>trivial
  | cons j r ih=>
   simp only [nodupB,Bool.and_eq_true] at nd;unfold fE
   split
   ·rename_i bx bo hb
    refine ⟨?_,ih nd.2⟩;have hall:∀y,y∈fE E S p r→(bx.my=true∨y.my=true)→bx.b≠y.b:=fun y hy hm=>by
     obtain ⟨j',bx',bo',hj',hb',rfl⟩:=jN hy;refine hap j bx bo j' bx' bo' hb hb' ?_ hm;have:=List.all_eq_true.1 nd.1 j' hj';simp only [bne_iff_ne] at this;exact Ne.symm this
    revert hall
    generalize fE E S p r=l;intro hall;induction l with
    | nil=>trivial
    | cons y l ih2=>exact ⟨fun hm=>hall y (List.mem_cons_self ..) (by simpa using hm),ih2 fun z hz=>hall z (List.mem_cons_of_mem _ hz)⟩
   ·exact ih nd.2
def tK(ops:Array Oper)(n:Nat)(L:Ks)(E:List Bx)(S:List az)(p:aC)(L1:Ks):Bool:=
 ay.apart (puts p 0 S)&&Nat.beq S.length ops.size&&ay.within (puts p 0 S) n&&kX ops&&fq ops L (puts p 0 S) 0 ops.toList&&bT ops E S 0 S&&E.all (fun x=>!x.my||eQ x.cs.toList&&x.t != 42)&&L1.all (fun x=>fG x.1 S.length (puts p 0 S)||jJ L x.1)
theorem bF{T0:Array Value}{n:Nat}{L:Ks}{ds:ay}(hK:Kn T0 n L)(ha:ay.apart ds=true)(hw:ay.within ds n=true)(L1:Ks)(hin:L1.all (fun x=>fG x.1 ds.length ds||jJ L x.1)=true)(he:L1.map (fun x=>bQ L x.1 ds.length ds)=L1.map (·.2)):Kn (ay.lay ds T0) n L1:=by
 refine ⟨by rw [ay.lay_size];exact hK.size,fun x hx=>?_⟩;have h1:=List.all_eq_true.1 hin x hx;have h2:bQ L x.1 ds.length ds=x.2:=by
  obtain ⟨k,hk,he2⟩:=List.getElem_of_mem hx;have:=congrArg (fun l=>l[k]?) he;simp only [List.getElem?_map,List.getElem?_eq_getElem hk,he2,Option.map_some,Option.some.injEq] at this;exact this
 rw [←h2];by_cases hw9:∃(k:Nat) (v:Value),ds[k]? = some (some (x.1,v))
 ·obtain ⟨k,v,hk⟩:=hw9;have hlt:k<ds.length:=(List.getElem?_eq_some_iff.1 hk).1;rw [jL ds _ k v ha hk hlt];exact ay.lay_at ds ha T0 k x.1 v hk (by rw [hK.size];simpa using List.all_eq_true.1 hw _ (List.mem_of_getElem? hk))
 ·rw [gV ds _ (fun k v hk=>absurd ⟨k,v,hk⟩ hw9)];have hf:ay.free ds x.1=true:=by
   unfold ay.free;rw [List.all_eq_true];intro d hd;obtain ⟨k,hk⟩:=List.getElem?_of_mem hd;cases d with
   | none=>rfl
   | some d=>
    obtain ⟨s,v⟩:=d;simp only [bne_iff_ne];rintro rfl;exact hw9 ⟨k,v,hk⟩
  rw [ay.lay_free ds x.1 hf];refine hK.look ?_;simp only [Bool.or_eq_true] at h1;rcases h1 with h|h
  ·obtain ⟨k,v,-,hk⟩:=jv h;exact absurd ⟨k,v,hk⟩ hw9
  ·exact h
theorem vz{P:Program}{ops:Array Oper}{Q:Exit→Act→World→Prop}{T0:Array Value}{n:Nat}{L:Ks}{w0:aN}{gs:List Gf}{id:Nat}{d:Bool}{W:World}{E:List Bx}(hS:Fb w0 W E)(hG:au gs W)(hK:Kn T0 n L)(S:aC→List az)(L1:aC→Ks)(hm:P.follows .mixedOrders=true)(hsh:∀p p',(S p).map az.bare=(S p').map az.bare)(hB:∀p,tK ops n L E (S p) p (L1 p)=true)(hL:∀p,(L1 p).map (fun x=>bQ L x.1 (S p).length (puts p 0 (S p)))=(L1 p).map (·.2))(hok:∀p,aZ P ops L E (S p) (au gs) w0 W.heap.size p 0 (S p))(hfin:∀p W' T1,ag E (S p) (au gs) w0 W.heap.size p W'→Kn T1 n (L1 p)→Q .normal ⟨T1,[]⟩ W') :
  (Code.region id ops d).wp P Q ⟨T0,[]⟩ W:=by
 have hB':∀p,_:=fun p=>by
  have:=hB p;simp only [tK,Bool.and_eq_true] at this;exact this
 refine Ii S hS.bx hS.fr hm hK ⟨hsh,fun p=>(hB' p).1.1.1.1.1.1.1,fun p=>Nat.eq_of_beq_eq_true (hB' p).1.1.1.1.1.1.2,fun p=>(hB' p).1.1.1.1.1.2,(hB' fun _=>iH).1.1.1.1.2,fun p=>(hB' p).1.1.1.2,fun p=>(hB' p).1.1.2,(hB' fun _=>iH).1.2⟩ hS.low.of hS.ne.of (xR gs) hG hok (fun p W' hF=>hfin p W' _ hF ?_);exact bF hK (hB' p).1.1.1.1.1.1.1 (hB' p).1.1.1.1.1.2 _ (by rw [kM];exact (hB' p).2) (by rw [kM];exact hL p)
def xg:Nat→List Value→Ks
 | _,[]=>[]
 | i,v::r=>(i,v)::xg (i+1) r
theorem uS:∀(vs:List Value)(i:Nat)(x:Nat×Value),x∈xg i vs→∃k,x.1=i+k∧vs[k]? = some x.2
 | [],_,_,h=>by simp [xg] at h
 | v::r,i,x,h=>by
  rcases List.mem_cons.1 h with rfl|h
  ·exact ⟨0,rfl,rfl⟩
  ·obtain ⟨k,h1,h2⟩:=uS r (i+1) x h;exact ⟨k+1,by omega,by simpa using h2⟩
theorem ax{P:Program}{f:FuncId}{fn:Func}{c:Code}{args:Array Value}{w:World}{R:Ending→World→Prop}(hf:P.funcs[f]? = some fn)(hb:fn.body=some c)(hn:Nat.ble args.size fn.ntmps=true)(h:∀T,Kn T fn.ntmps (xg 0 args.toList)→c.wp P (bodyPost P fn R) ⟨T,[]⟩ w):Calls P f args w R:=by
 refine calls_of_wp hf hb (h _ ⟨?_,fun x hx=>?_⟩)
 ·have:=Nat.le_of_ble_eq_true hn;simp;omega
 ·obtain ⟨k,h1,h2⟩:=uS _ _ x hx;rw [Nat.zero_add] at h1;rw [h1];have h3:args[k]? = some x.2:=by simpa using h2
  obtain ⟨hlt,-⟩:=Array.getElem?_eq_some_iff.1 h3;rw [Array.getElem?_append_left hlt];exact h3
theorem Kn.ev{T:Array Value}{n:Nat}{L:Ks}(h:Kn T n L)(s:Nat)(hi:jJ L s=true)(v:Value)(hv:fJ L s=v):Act.eval ⟨T,[]⟩ (.tmp s)=v:=by
 show T.getD s undef=v
 rw [Array.getD_eq_getD_getElem?,h.look hi,hv];rfl
def BB(fn:Func)(L:Ks):Sem Value:=do
 let vs ←fn.results.mapM fun
  | .tmp t=>pure (fJ L t)
  | .cell a t=>do loadVar t (←asAddr (fJ L a))
 pure (if h:vs.size=1 then vs[0] else .tuple vs)
def jf:ResultVar→Nat
 | .tmp t=>t
 | .cell a _=>a
def rY(bs:List Bx):List (Nat×Nat×Nat)→List Ev
 | []=>[]
 | (j,off,k)::r=>(match bs[j]? with
  | some x=>qE x.b off ((x.cs.toList.drop off).take k)
  | none=>[])++rY bs r
theorem Eb:∀(es fs:List Ev)(W:World),dY 0 es W→evs es W=W→dY 0 fs W→evs fs W=W→dY 0 (es++fs) W∧evs (es++fs) W=W:=by
 intro es fs W h1 h2 h3 h4;have h5:∀(es:List Ev)(V:World),dY 0 es V→(dY 0 (es++fs) V↔dY 0 fs (evs es V))∧evs (es++fs) V=evs fs (evs es V):=by
  intro es;induction es with
  | nil=>intro V _;exact ⟨Iff.rfl,rfl⟩
  | cons e r ih=>
   intro V h;cases e with
   | ld a v=>obtain ⟨g1,g2⟩:=ih V h.2;exact ⟨⟨fun q=>g1.1 q.2,fun q=>⟨h.1,g1.2 q⟩⟩,g2⟩
   | st a v=>obtain ⟨g1,g2⟩:=ih _ h.2.2.2;exact ⟨⟨fun q=>g1.1 q.2.2.2,fun q=>⟨h.1,h.2.1,h.2.2.1,g1.2 q⟩⟩,g2⟩
   | nw o=>obtain ⟨g1,g2⟩:=ih _ h.2;exact ⟨⟨fun q=>g1.1 q.2,fun q=>⟨h.1,g1.2 q⟩⟩,g2⟩
 obtain ⟨g1,g2⟩:=h5 es W h1;rw [h2] at g1 g2;exact ⟨g1.2 h3,by rw [g2];exact h4⟩
theorem Da{w0:aN}{W:World}{bs:List Bx}(hS:Fb w0 W bs):∀(js:List (Nat×Nat×Nat)),dY 0 (rY bs js) W∧evs (rY bs js) W=W
 | []=>⟨trivial,rfl⟩
 | (j,off,k)::r=>by
  obtain ⟨h1,h2⟩:=Da hS r;unfold rY;cases hj:bs[j]? with
  | none=>exact ⟨h1,h2⟩
  | some x=>
   obtain ⟨g1,g2⟩:=rz (hS.bx x (List.mem_of_getElem? hj)) ((x.cs.toList.drop off).take k) off (by
    rw [List.length_take,List.take_eq_take_iff];simp)
   exact Eb _ _ W g1 g2 h1 h2
theorem GA{fn:Func}{T:Array Value}{n:Nat}{L:Ks}(hK:Kn T n L)(hin:fn.results.toList.all (fun r=>jJ L (jf r))=true):results fn T=BB fn L:=by
 have:∀r,r∈fn.results→T.getD (jf r) undef=fJ L (jf r):=fun r hr=>by
  have:=List.all_eq_true.1 hin r (by simpa using hr);rw [Array.getD_eq_getD_getElem?,hK.look this];rfl
 have hc:∀(f g:ResultVar→Sem Value)(l:List ResultVar),(∀r,r∈l→f r=g r)→l.mapM f=l.mapM g:=by
  intro f g l;induction l with
  | nil=>intro _;rfl
  | cons r l ih=>intro h;rw [List.mapM_cons,List.mapM_cons,h r (List.mem_cons_self ..),ih fun r' hr'=>h r' (List.mem_cons_of_mem _ hr')]
 unfold results BB;rw [Array.mapM_eq_mapM_toList,Array.mapM_eq_mapM_toList]
 congr 2
 refine hc _ _ _ fun r hr=>?_;have h:=this r (by simpa using hr);cases r with
 | tmp t=>simp only [jf] at h;simp only [h]
 | cell a t=>simp only [jf] at h;simp only [h]
theorem aA{P:Program}{fn:Func}{R:Ending→World→Prop}{T:Array Value}{n:Nat}{L:Ks}{w0:aN}{W:World}{bs:List Bx}(hS:Fb w0 W bs)(hK:Kn T n L)(v:Value)(js:List (Nat×Nat×Nat))(vs:List Value)(hin:fn.results.toList.all (fun r=>jJ L (jf r))=true)(hr:script P 0 (BB fn L) vs=some (v,rY bs js))(h:R (.returned v) W):bodyPost P fn R .ret ⟨T,[]⟩ W:=by
 refine bodyPost_ret (v:=v) ?_ rfl h
 show (results fn T).run P W=_
 rw [GA hK hin];obtain ⟨h1,h2⟩:=Da hS js;have:=cB P 0 _ _ _ _ W hr h1;rw [h2] at this;exact this
def iC(E:List Bx)(S:List az)(p:aC)(j:Nat):Nat:=match aV E S p j with
 | some (bx,_)=>bx.b
 | none=>0
def jF(E:List Bx)(S:List az)(p:aC)(j:Nat):Array Value:=match aV E S p j with
 | some (bx,_)=>bx.cs
 | none=>#[]
theorem Jp{P:Program}{ops:Array Oper}{L:Ks}{E:List Bx}{S:List az}{G:World→Prop}{w0:aN}{base:Nat}{p:aC}{i:Nat}{r:List az}{s j off:Nat}{x:Value}(hb:(aV E S p j).isSome=true)(h:aX P ops L (puts p 0 S) i 0 x.cells.toList=some (some s,true,some (.value x,qE (iC E S p j) off x.cells.toList)))(hc:((cellsOf (fun k=>Nat.blt k i) j 0 S (jF E S p j)).toList.drop off).take x.cells.size=x.cells.toList)(t:aZ P ops L E S G w0 base p (i+1) r):aZ P ops L E S G w0 base p i (.l s x j off::r):=by
 obtain ⟨⟨bx,bo⟩,hbx⟩:=Option.isSome_iff_exists.1 hb;unfold iC at h;unfold jF at hc;rw [hbx] at h hc;exact JE bx bo hbx h hc t
theorem Js{P:Program}{ops:Array Oper}{L:Ks}{E:List Bx}{S:List az}{G:World→Prop}{w0:aN}{base:Nat}{p:aC}{i:Nat}{r:List az}{j off:Nat}{xs:List Value}(hb:(aV E S p j).isSome=true)(h:aX P ops L (puts p 0 S) i 0 []=some (none,true,some (.skip,bG (iC E S p j) off xs)))(hc:Nat.ble (off+xs.length) (jF E S p j).size=true)(t:aZ P ops L E S G w0 base p (i+1) r):aZ P ops L E S G w0 base p i (.p j off xs::r):=by
 obtain ⟨⟨bx,bo⟩,hbx⟩:=Option.isSome_iff_exists.1 hb;unfold iC at h;unfold jF at hc;rw [hbx] at h hc;exact Jw bx bo hbx h hc t
theorem dQ{x:Int}(h1:-9223372036854775808≤x)(h2:x<9223372036854775808):IntKind.i64.wrap x=x:=by rw [IntKind.wrap_i64];omega
theorem JK{P:Program}{ops:Array Oper}{L:Ks}{E:List Bx}{S:List az}{G:World→Prop}{w0:aN}{base:Nat}{p:aC}{i:Nat}{r:List az}{s:Option Nat}(h:(match aX P ops L (puts p 0 S) i 0 [] with
  | some (a,b,_)=>some (a,b)
  | none=>none)=some (s,false))(t:aZ P ops L E S G w0 base p (i+1) r):aZ P ops L E S G w0 base p i (.k s::r):=by
 split at h
 ·rename_i a b c hx
  simp only [Option.some.injEq,Prod.mk.injEq] at h;obtain ⟨rfl,rfl⟩:=h;exact Ju c hx t
 ·cases h
def aG(k:Nat)(a:Array Value):Value:=a.getD k undef
def aH(j k:Nat)(a:Array Value):Value:=.tuple #[a.getD j undef,a.getD k undef]
theorem xn(x y:Int):(if y>x then y else x)=max x y:=by omega
theorem aB{next:Act→World→Prop}{Q:Exit→Act→World→Prop}{a:Act}{w:World}(h:next a w):Exit.then next Q .normal a w:=h
theorem bz{next:Act→World→Prop}{Q:Exit→Act→World→Prop}{a:Act}{w:World}(h:Q .ret a w):Exit.then next Q .ret a w:=h
theorem mD{Q:Exit→Act→World→Prop}{id:Nat}{a:Act}{w:World}(h:Q .ret a w):Exit.inBlock id Q .ret a w:=h
theorem rV{P:Program}{c:Code}{Q:Exit→Act→World→Prop}{n:Nat}{a:Act}{w:World}(h:c.wp P (Exit.then (Code.rounds P c Q n) Q) a w):Code.rounds P c Q (n+1) a w:=h
theorem jC{next:Act→World→Prop}{Q:Exit→Act→World→Prop}{id:Nat}{a:Act}{w:World}(h:Q (.exit id) a w):Exit.then next Q (.exit id) a w:=h
theorem mG{Q:Exit→Act→World→Prop}{id:Nat}{a:Act}{w:World}(h:Q .normal a w):Exit.inBlock id Q .normal a w:=h
theorem xD{Q:Exit→Act→World→Prop}{id:Nat}{a:Act}{w:World}(h:Q .normal a w):Exit.inBlock id Q (.exit id) a w:=by simp [Exit.inBlock];exact h
theorem Ej{P:Program}{ops:Array Oper}{y:Code}{Q:Exit→Act→World→Prop}{T0:Array Value}{n:Nat}{L:Ks}{w0:aN}{gs:List Gf}{id:Nat}{d:Bool}{W:World}{E:List Bx}(hS:Fb w0 W E)(hG:au gs W)(hK:Kn T0 n L)(S:aC→List az)(L1:aC→Ks)(hm:P.follows .mixedOrders=true)(hsh:∀p p',(S p).map az.bare=(S p').map az.bare)(hB:∀p,tK ops n L E (S p) p (L1 p)=true)(hL:∀p,(L1 p).map (fun x=>bQ L x.1 (S p).length (puts p 0 (S p)))=(L1 p).map (·.2))(hok:∀p,aZ P ops L E (S p) (au gs) w0 W.heap.size p 0 (S p))(hfin:∀p W' T1,ag E (S p) (au gs) w0 W.heap.size p W'→Kn T1 n (L1 p)→y.wp P Q ⟨T1,[]⟩ W') :
  (Code.seq (Code.region id ops d) y).wp P Q ⟨T0,[]⟩ W:=wp_seq (vz hS hG hK S L1 hm hsh hB hL hok hfin)
def oG:Nat→List Bx→List Nat
 | _,[]=>[]
 | i,_::r=>i::oG (i+1) r
@[reducible] def pT(b k:Nat):Value:=.pointer (some ⟨b,k,none⟩)
@[reducible] def vJ(x:Int):Value:=.int .i64 x
@[reducible] def nJ:Value:=.slice none 0 0
@[reducible] def sJ(q:Pq):Value:=.slice q.A q.N q.C
@[reducible] def tJ(q:Pq):Value:=.slice q.A' q.N' q.C'
theorem wq{P:Program}{ops:Array Oper}{Q:Exit→Act→World→Prop}{T0:Array Value}{n:Nat}{L:Ks}{w0:aN}{gs:List Gf}{id:Nat}{d:Bool}{W:World}{E:List Bx}{y:Code}(hS:Fb w0 W E)(hG:au gs W)(hK:Kn T0 n L)(S:aC→List az)(L1:aC→Ks)(hok:∀p,aZ P ops L E (S p) (au gs) w0 W.heap.size p 0 (S p))(hfin:∀p W' T1,ag E (S p) (au gs) w0 W.heap.size p W'→Kn T1 n (L1 p)→y.wp P Q ⟨T1,[]⟩ W')(hm:P.follows .mixedOrders=true:=by kernel_rfl)(hsh:∀p p',(S p).map az.bare=(S p').map az.bare:=by intro _ _;kernel_rfl)(hB:∀p,tK ops n L E (S p) p (L1 p)=true:=by intro _;kernel_rfl)(hL:∀p,(L1 p).map (fun x=>bQ L x.1 (S p).length (puts p 0 (S p)))=(L1 p).map (·.2):=by intro _;kernel_rfl):(Code.seq (Code.region id ops d) y).wp P Q ⟨T0,[]⟩ W:=Ej hS hG hK S L1 hm hsh hB hL hok hfin
theorem wg{P:Program}{ops:Array Oper}{Q:Exit→Act→World→Prop}{T0:Array Value}{n:Nat}{L:Ks}{w0:aN}{gs:List Gf}{id:Nat}{d:Bool}{W:World}{E:List Bx}(hS:Fb w0 W E)(hG:au gs W)(hK:Kn T0 n L)(S:aC→List az)(L1:aC→Ks)(hok:∀p,aZ P ops L E (S p) (au gs) w0 W.heap.size p 0 (S p))(hfin:∀p W' T1,ag E (S p) (au gs) w0 W.heap.size p W'→Kn T1 n (L1 p)→Q .normal ⟨T1,[]⟩ W')(hm:P.follows .mixedOrders=true:=by kernel_rfl)(hsh:∀p p',(S p).map az.bare=(S p').map az.bare:=by intro _ _;kernel_rfl)(hB:∀p,tK ops n L E (S p) p (L1 p)=true:=by intro _;kernel_rfl)(hL:∀p,(L1 p).map (fun x=>bQ L x.1 (S p).length (puts p 0 (S p)))=(L1 p).map (·.2):=by intro _;kernel_rfl):(Code.region id ops d).wp P Q ⟨T0,[]⟩ W:=vz hS hG hK S L1 hm hsh hB hL hok hfin
theorem af{P:Program}{ops:Array Oper}{L:Ks}{E:List Bx}{S:List az}{G:World→Prop}{w0:aN}{base:Nat}{p:aC}{i:Nat}{r:List az}{s:Nat}{x:Value}(t:aZ P ops L E S G w0 base p (i+1) r)(h:aX P ops L (puts p 0 S) i 0 []=some (some s,true,some (.value x,[])):=by kernel_rfl):aZ P ops L E S G w0 base p i (.v s x::r):=JB h t
theorem bB{P:Program}{ops:Array Oper}{L:Ks}{E:List Bx}{S:List az}{G:World→Prop}{w0:aN}{base:Nat}{p:aC}{i:Nat}{r:List az}{s:Nat}{k:IntKind}{x y:Int}(e:x=y)(t:aZ P ops L E S G w0 base p (i+1) r)(h:aX P ops L (puts p 0 S) i 0 []=some (some s,true,some (.value (.int k x),[])):=by kernel_rfl):aZ P ops L E S G w0 base p i (.v s (.int k y)::r):=IC e h t
theorem aO{P:Program}{ops:Array Oper}{L:Ks}{E:List Bx}{S:List az}{G:World→Prop}{w0:aN}{base:Nat}{p:aC}{i:Nat}{r:List az}{s:Nat}{x y:Bool}(e:x=y)(t:aZ P ops L E S G w0 base p (i+1) r)(h:aX P ops L (puts p 0 S) i 0 []=some (some s,true,some (.value (.bool x),[])):=by kernel_rfl):aZ P ops L E S G w0 base p i (.v s (.bool y)::r):=IJ e h t
theorem aI{P:Program}{ops:Array Oper}{L:Ks}{E:List Bx}{S:List az}{G:World→Prop}{w0:aN}{base:Nat}{p:aC}{i:Nat}{r:List az}{s:Nat}{cs:Array Value}{ty:TypeId}(t:aZ P ops L E S G w0 base p (i+1) r)(h:∀q,aX P ops L (puts p 0 S) i q []=some (some s,true,some (.value (nv q ty),[.nw (.cells cs (ty%1000000))])):=by intro _;kernel_rfl):aZ P ops L E S G w0 base p i (.n s cs ty::r):=JJ h t
theorem av{P:Program}{ops:Array Oper}{L:Ks}{E:List Bx}{S:List az}{G:World→Prop}{w0:aN}{base:Nat}{p:aC}{i:Nat}{r:List az}{s:Option Nat}{f:Cf}{fn:FuncId}{args:Array Value}(hc:∀W,Cx ops E S G w0 base p i W→Calls P fn args W fun en W'=>∃q,en = .returned (f.f q)∧Below W.heap.size W W'∧f.g q W')(t:aZ P ops L E S G w0 base p (i+1) r)(h:aX P ops L (puts p 0 S) i 0 []=some (s,true,some (.enter fn args,[])):=by kernel_rfl)(hn:∀q,f.bk q=none:=by intro _;rfl):aZ P ops L E S G w0 base p i (.c s f::r):=JC hc h t hn
theorem cZ{P:Program}{ops:Array Oper}{L:Ks}{E:List Bx}{S:List az}{G:World→Prop}{w0:aN}{base:Nat}{p:aC}{i:Nat}{r:List az}{s:Nat}{x:Value}{g:Array Value→Value}{fn:FuncId}{args:Array Value}(hc:∀W,Cx ops E S G w0 base p i W→Calls P fn args W fun en W'=>en = .returned x∧Below W.heap.size W W')(t:aZ P ops L E S G w0 base p (i+1) r)(h:aX P ops L (puts p 0 S) i 0 []=some (some s,true,some (.enter fn args,[])):=by kernel_rfl)(hx:g args=x:=by kernel_rfl):aZ P ops L E S G w0 base p i (.u s x g::r):=Jr hc h hx t
theorem aj{P:Program}{ops:Array Oper}{L:Ks}{E:List Bx}{S:List az}{G:World→Prop}{w0:aN}{base:Nat}{p:aC}{i:Nat}{r:List az}{s j off:Nat}{x:Value}(t:aZ P ops L E S G w0 base p (i+1) r)(hb:(aV E S p j).isSome=true:=by kernel_rfl)(h:aX P ops L (puts p 0 S) i 0 x.cells.toList=some (some s,true,some (.value x,qE (iC E S p j) off x.cells.toList)):=by kernel_rfl)(hc:((cellsOf (fun k=>Nat.blt k i) j 0 S (jF E S p j)).toList.drop off).take x.cells.size=x.cells.toList:=by kernel_rfl):aZ P ops L E S G w0 base p i (.l s x j off::r):=Jp hb h hc t
theorem aF{P:Program}{ops:Array Oper}{L:Ks}{E:List Bx}{S:List az}{G:World→Prop}{w0:aN}{base:Nat}{p:aC}{i:Nat}{r:List az}{j off:Nat}{xs:List Value}(t:aZ P ops L E S G w0 base p (i+1) r)(hb:(aV E S p j).isSome=true:=by kernel_rfl)(h:aX P ops L (puts p 0 S) i 0 []=some (none,true,some (.skip,bG (iC E S p j) off xs)):=by kernel_rfl)(hc:Nat.ble (off+xs.length) (jF E S p j).size=true:=by kernel_rfl):aZ P ops L E S G w0 base p i (.p j off xs::r):=Js hb h hc t
theorem eZ{P:Program}{ops:Array Oper}{L:Ks}{E:List Bx}{S:List az}{G:World→Prop}{w0:aN}{base:Nat}{p:aC}{i:Nat}{r:List az}{s:Option Nat}(t:aZ P ops L E S G w0 base p (i+1) r)(h:(match aX P ops L (puts p 0 S) i 0 [] with|some (a,b,_)=>some (a,b)|none=>none)=some (s,false):=by kernel_rfl):aZ P ops L E S G w0 base p i (.k s::r):=JK h t
theorem ag.fc{E:List Bx}{S:List az}{G:World→Prop}{w0:aN}{W0:World}{p:aC}{W:World}(hS:Fb w0 W0 E)(h:ag E S G w0 W0.heap.size p W)(js:List Nat)(E1:List Bx)(e:fE E S p js=E1:=by kernel_rfl)(nd:nodupB js=true:=by kernel_rfl):Fb w0 W E1:=ag.fb hS h js E1 e nd
theorem ag.fd{E:List Bx}{S:List az}{G:World→Prop}{w0:aN}{W0:World}{p:aC}{W:World}(hS:Fb w0 W0 E)(h:ag E S G w0 W0.heap.size p W)(e:fE E S p (oG 0 E)=E:=by kernel_rfl)(nd:nodupB (oG 0 E)=true:=by kernel_rfl):Fb w0 W E:=ag.fb hS h _ E e nd
theorem ag.fg{E:List Bx}{S:List az}{G:World→Prop}{w0:aN}{W0:World}{p:aC}{W:World}(hS:Fb w0 W0 E)(h:ag E S G w0 W0.heap.size p W)(e:fE E S p (oG 0 E)=E:=by kernel_rfl)(nd:nodupB (oG 0 E)=true:=by kernel_rfl):Fb w0 W E∧G W:=⟨ag.fb hS h _ E e nd,h.gx⟩
theorem Kn.ew{T:Array Value}{n:Nat}{L:Ks}(h:Kn T n L)(s:Nat){v:Value}(hi:jJ L s=true:=by kernel_rfl)(hv:fJ L s=v:=by kernel_rfl):Act.eval ⟨T,[]⟩ (.tmp s)=v:=h.ev s hi v hv
theorem fe(E F:Int)(p:Nat)(b0:Int)(H0:bf 26 #[.agg #[.int .i64 E,.int .i64 F],.int .u64 b0] (.int .i64 0))(w:World)(hp:w.heap[p]? = some (.cells #[.int .u64 b0] 24 (0,0))) :
  Calls Tryz.prog 20 #[.agg #[.int .i64 E,.int .i64 F],.slice (some ⟨p,0,none⟩) 1 1] w fun e w'=>e = .returned (.int .i64 0)∧Below w.heap.size w w':=by
 go_enter Tryz.func20,Tryz.ntmps20
 have hS0:Fs w w [⟨p,#[.int .u64 b0],24⟩]:=⟨fun x hx=>by rcases List.mem_cons.1 hx with rfl|hx;exact hp;exact absurd hx List.not_mem_nil,Below.refl _ _⟩;have hS:=hS0.alloc #[.int .i64 E,.int .i64 F] 23;clear hS0 hp;obtain ⟨⟨ya,yb,-⟩,⟨yc,-⟩,-⟩:=hS.cells;go_wp2
 refine wp_loop_rounds 2 ?_;rw [rounds_succ];go_wp2_with fail
 refine (H0 _).mono ?_;rintro e w1 ⟨rfl,hb1⟩;replace hS:=hS.kept hb1;clear ya yb yc;obtain ⟨⟨yd,ye,-⟩,⟨yf,-⟩,-⟩:=hS.cells;go_wp2
 rw [rounds_succ];go_wp2
 go_ret
 exact ⟨rfl,hS.fr⟩
theorem nT(E F c:Int)(hc:(c==(0:Int))=false)(p:Nat)(b0:Int)(H0:bf 26 #[.agg #[.int .i64 E,.int .i64 F],.int .u64 b0] (.int .i64 c))(w:World)(hp:w.heap[p]? = some (.cells #[.int .u64 b0] 24 (0,0))) :
  Calls Tryz.prog 20 #[.agg #[.int .i64 E,.int .i64 F],.slice (some ⟨p,0,none⟩) 1 1] w fun e w'=>e = .returned (.int .i64 c)∧Below w.heap.size w w':=by
 go_enter Tryz.func20,Tryz.ntmps20
 have hS0:Fs w w [⟨p,#[.int .u64 b0],24⟩]:=⟨fun x hx=>by rcases List.mem_cons.1 hx with rfl|hx;exact hp;exact absurd hx List.not_mem_nil,Below.refl _ _⟩;have hS:=hS0.alloc #[.int .i64 E,.int .i64 F] 23;clear hS0 hp;obtain ⟨⟨ya,yb,-⟩,⟨yc,-⟩,-⟩:=hS.cells;go_wp2
 refine wp_loop_rounds 2 ?_;rw [rounds_succ];go_wp2_with fail
 refine (H0 _).mono ?_;rintro e w1 ⟨rfl,hb1⟩;replace hS:=hS.kept hb1;clear ya yb yc;obtain ⟨⟨yd,ye,-⟩,⟨yf,-⟩,-⟩:=hS.cells;go_wp2
 go_ret
 exact ⟨rfl,hS.fr⟩
theorem yU(E F:Int)(p:Nat)(b0 b1:Int)(H0:bf 26 #[.agg #[.int .i64 E,.int .i64 F],.int .u64 b0] (.int .i64 0))(H1:bf 26 #[.agg #[.int .i64 E,.int .i64 F],.int .u64 b1] (.int .i64 0))(w:World)(hp:w.heap[p]? = some (.cells #[.int .u64 b0,.int .u64 b1] 24 (0,0))) :
  Calls Tryz.prog 20 #[.agg #[.int .i64 E,.int .i64 F],.slice (some ⟨p,0,none⟩) 2 2] w fun e w'=>e = .returned (.int .i64 0)∧Below w.heap.size w w':=by
 go_enter Tryz.func20,Tryz.ntmps20
 have hS0:Fs w w [⟨p,#[.int .u64 b0,.int .u64 b1],24⟩]:=⟨fun x hx=>by rcases List.mem_cons.1 hx with rfl|hx;exact hp;exact absurd hx List.not_mem_nil,Below.refl _ _⟩;have hS:=hS0.alloc #[.int .i64 E,.int .i64 F] 23;clear hS0 hp;obtain ⟨⟨ya,yb,-⟩,⟨yc,yd,-⟩,-⟩:=hS.cells;go_wp2
 refine wp_loop_rounds 3 ?_;rw [rounds_succ];go_wp2_with fail
 refine (H0 _).mono ?_;rintro e w1 ⟨rfl,hb1⟩;replace hS:=hS.kept hb1;clear ya yb yc yd;obtain ⟨⟨ye,yf,-⟩,⟨yg,yh,-⟩,-⟩:=hS.cells;go_wp2
 rw [rounds_succ];go_wp2_with fail
 refine (H1 _).mono ?_;rintro e w2 ⟨rfl,hb2⟩;replace hS:=hS.kept hb2;clear ye yf yg yh;obtain ⟨⟨yi,yj,-⟩,⟨yk,yl,-⟩,-⟩:=hS.cells;go_wp2
 rw [rounds_succ];go_wp2
 go_ret
 exact ⟨rfl,hS.fr⟩
theorem jD(E F:Int)(c0:Int)(hc0:(c0==(5:Int))=false)(p:Nat)(b0:Int)(H0:bf 15 #[.agg #[.int .i64 E,.int .i64 F],.int .u64 b0] (.tuple #[.int .u8 c0,.int .i64 0]))(w:World)(hp:w.heap[p]? = some (.cells #[.int .u64 b0] 24 (0,0))) :
  Calls Tryz.prog 48 #[.agg #[.int .i64 E,.int .i64 F],.slice (some ⟨p,0,none⟩) 1 1] w fun e w'=>e = .returned (.bool true)∧Below w.heap.size w w':=by
 go_enter Tryz.func48,Tryz.ntmps48
 have hS0:Fs w w [⟨p,#[.int .u64 b0],24⟩]:=⟨fun x hx=>by rcases List.mem_cons.1 hx with rfl|hx;exact hp;exact absurd hx List.not_mem_nil,Below.refl _ _⟩;have hS:=hS0.alloc #[.int .i64 E,.int .i64 F] 23;clear hS0 hp;obtain ⟨⟨ya,yb,-⟩,⟨yc,-⟩,-⟩:=hS.cells;go_wp2
 refine wp_loop_rounds 2 ?_;rw [rounds_succ];go_wp2_with fail
 refine (H0 _).mono ?_;rintro e w1 ⟨rfl,hb1⟩;replace hS:=hS.kept hb1;clear ya yb yc;obtain ⟨⟨yd,ye,-⟩,⟨yf,-⟩,-⟩:=hS.cells;go_wp2
 rw [rounds_succ];go_wp2
 go_ret
 exact ⟨rfl,hS.fr⟩
theorem um(E F:Int)(p:Nat)(b0:Int)(H0:bf 15 #[.agg #[.int .i64 E,.int .i64 F],.int .u64 b0] (.tuple #[.int .u8 5,.int .i64 0]))(w:World)(hp:w.heap[p]? = some (.cells #[.int .u64 b0] 24 (0,0))) :
  Calls Tryz.prog 48 #[.agg #[.int .i64 E,.int .i64 F],.slice (some ⟨p,0,none⟩) 1 1] w fun e w'=>e = .returned (.bool false)∧Below w.heap.size w w':=by
 go_enter Tryz.func48,Tryz.ntmps48
 have hS0:Fs w w [⟨p,#[.int .u64 b0],24⟩]:=⟨fun x hx=>by rcases List.mem_cons.1 hx with rfl|hx;exact hp;exact absurd hx List.not_mem_nil,Below.refl _ _⟩;have hS:=hS0.alloc #[.int .i64 E,.int .i64 F] 23;clear hS0 hp;obtain ⟨⟨ya,yb,-⟩,⟨yc,-⟩,-⟩:=hS.cells;go_wp2
 refine wp_loop_rounds 2 ?_;rw [rounds_succ];go_wp2_with fail
 refine (H0 _).mono ?_;rintro e w1 ⟨rfl,hb1⟩;replace hS:=hS.kept hb1;clear ya yb yc;obtain ⟨⟨yd,ye,-⟩,⟨yf,-⟩,-⟩:=hS.cells;go_wp2
 go_ret
 exact ⟨rfl,hS.fr⟩
theorem rA(E F:Int)(c0:Int)(hc0:(c0==(5:Int))=false)(c1:Int)(hc1:(c1==(5:Int))=false)(p:Nat)(b0 b1:Int)(H0:bf 15 #[.agg #[.int .i64 E,.int .i64 F],.int .u64 b0] (.tuple #[.int .u8 c0,.int .i64 0]))(H1:bf 15 #[.agg #[.int .i64 E,.int .i64 F],.int .u64 b1] (.tuple #[.int .u8 c1,.int .i64 0]))(w:World)(hp:w.heap[p]? = some (.cells #[.int .u64 b0,.int .u64 b1] 24 (0,0))) :
  Calls Tryz.prog 48 #[.agg #[.int .i64 E,.int .i64 F],.slice (some ⟨p,0,none⟩) 2 2] w fun e w'=>e = .returned (.bool true)∧Below w.heap.size w w':=by
 go_enter Tryz.func48,Tryz.ntmps48
 have hS0:Fs w w [⟨p,#[.int .u64 b0,.int .u64 b1],24⟩]:=⟨fun x hx=>by rcases List.mem_cons.1 hx with rfl|hx;exact hp;exact absurd hx List.not_mem_nil,Below.refl _ _⟩;have hS:=hS0.alloc #[.int .i64 E,.int .i64 F] 23;clear hS0 hp;obtain ⟨⟨ya,yb,-⟩,⟨yc,yd,-⟩,-⟩:=hS.cells;go_wp2
 refine wp_loop_rounds 3 ?_;rw [rounds_succ];go_wp2_with fail
 refine (H0 _).mono ?_;rintro e w1 ⟨rfl,hb1⟩;replace hS:=hS.kept hb1;clear ya yb yc yd;obtain ⟨⟨ye,yf,-⟩,⟨yg,yh,-⟩,-⟩:=hS.cells;go_wp2
 rw [rounds_succ];go_wp2_with fail
 refine (H1 _).mono ?_;rintro e w2 ⟨rfl,hb2⟩;replace hS:=hS.kept hb2;clear ye yf yg yh;obtain ⟨⟨yi,yj,-⟩,⟨yk,yl,-⟩,-⟩:=hS.cells;go_wp2
 rw [rounds_succ];go_wp2
 go_ret
 exact ⟨rfl,hS.fr⟩
theorem wH:Tryz.prog.underlying 97=some (.array 2 24):=by kernel_rfl
theorem D6:(Tryz.prog.info? 24).isSome=true:=by kernel_rfl
theorem yM:∃i,Tryz.prog.info? 24=some i:=Option.isSome_iff_exists.1 D6
theorem wZ:Tryz.prog.cellsOf 24=1:=by kernel_rfl
theorem pU(q r q' r':Int)(W:World) :
  (Op.equalIn 10000 97 (.agg #[.int .u64 q,.int .u64 r]) (.agg #[.int .u64 q',.int .u64 r'])).run Tryz.prog W = .ok (q==q'&&r==r') W:=by
 obtain ⟨i,hi⟩:=yM;rw [show (10000:Nat)=9999+1 from rfl,run_equalIn_array W 9999 _ _ wH hi,wZ];have hr:List.range 2 = [0,1]:=rfl;rw [hr];simp only [Op.eqItems];by_cases hq:q=q'
 ·by_cases hr:r=r'
  ·simp [go_sem,hq,hr,run_equalIn_int]
  ·simp [go_sem,hq,hr,run_equalIn_int]
 ·simp [go_sem,hq,run_equalIn_int]
theorem oM(E F b:Int)(d:Bool)(H0:bf 26 #[.agg #[.int .i64 E,.int .i64 F],.int .u64 b] (.int .i64 0))(HC:bf 15 #[.agg #[.int .i64 E,.int .i64 F],.int .u64 b] (.tuple #[.int .u8 5,.int .i64 0]))(w:World)  :
  Calls Tryz.prog 43 #[.agg #[.int .i64 E,.int .i64 F],.int .u64 b,.bool d] w fun e w'=>e = .returned (.tuple #[.int .u64 0,.int .i64 2])∧Below w.heap.size w w':=by
 go_enter Tryz.func43,Tryz.ntmps43
 go_wp2_with fail
 refine (fe E F _ b H0 _ (by have:=heap_alloc_new (w.alloc (.cells #[.int .i64 E,.int .i64 F] 23)) (.cells #[.int .u64 b] 24);simpa only [World.size_alloc] using this)).mono ?_;rintro e w1 ⟨rfl,hb1⟩;have hS:Fs w (w.alloc (.cells #[.int .i64 E,.int .i64 F] 23)) [⟨w.heap.size,#[.int .i64 E,.int .i64 F],23⟩]:=Fs.one w _ _;replace hS:=((hS.alloc #[.int .u64 b] 24).kept hb1).sub (fun x hx=>List.mem_cons_of_mem _ hx);obtain ⟨⟨ya,yb,-⟩,-⟩:=hS.cells;go_wp2_with fail
 refine (um E F _ b HC _ (by have:=heap_alloc_new w1 (.cells #[.int .u64 b] 24);simpa only [World.size_alloc] using this)).mono ?_;rintro e w2 ⟨rfl,hb2⟩;replace hS:=((hS.alloc #[.int .u64 b] 24).kept hb2).sub (fun x hx=>List.mem_cons_of_mem _ hx);clear ya yb;obtain ⟨⟨yc,yd,-⟩,-⟩:=hS.cells;go_wp2
 go_ret2
 exact ⟨rfl,hS.fr⟩
theorem om(E F b:Int)(d:Bool)(H0:bf 26 #[.agg #[.int .i64 E,.int .i64 F],.int .u64 b] (.int .i64 0))(c:Int)(hc:(c==(5:Int))=false)(HC:bf 15 #[.agg #[.int .i64 E,.int .i64 F],.int .u64 b] (.tuple #[.int .u8 c,.int .i64 0]))(en:Int)(HI:bf 92 #[.agg #[.int .i64 E,.int .i64 F],.bool d] (.tuple #[.int .u64 en,.int .i64 0]))(q r:Int)(HP:bf 49 #[.agg #[.int .i64 E,.int .i64 F],.int .u64 b] (.agg #[.int .u64 q,.int .u64 r]))(HQ:bf 49 #[.agg #[.int .i64 E,.int .i64 F],.int .u64 en] (.agg #[.int .u64 q,.int .u64 r]))(w:World)  :
  Calls Tryz.prog 43 #[.agg #[.int .i64 E,.int .i64 F],.int .u64 b,.bool d] w fun e w'=>e = .returned (.tuple #[.int .u64 0,.int .i64 60])∧Below w.heap.size w w':=by
 go_enter Tryz.func43,Tryz.ntmps43
 go_wp2_with fail
 refine (fe E F _ b H0 _ (by have:=heap_alloc_new (w.alloc (.cells #[.int .i64 E,.int .i64 F] 23)) (.cells #[.int .u64 b] 24);simpa only [World.size_alloc] using this)).mono ?_;rintro e w1 ⟨rfl,hb1⟩;have hS:Fs w (w.alloc (.cells #[.int .i64 E,.int .i64 F] 23)) [⟨w.heap.size,#[.int .i64 E,.int .i64 F],23⟩]:=Fs.one w _ _;replace hS:=((hS.alloc #[.int .u64 b] 24).kept hb1).sub (fun x hx=>List.mem_cons_of_mem _ hx);obtain ⟨⟨ya,yb,-⟩,-⟩:=hS.cells;go_wp2_with fail
 refine (jD E F c hc _ b HC _ (by have:=heap_alloc_new w1 (.cells #[.int .u64 b] 24);simpa only [World.size_alloc] using this)).mono ?_;rintro e w2 ⟨rfl,hb2⟩;replace hS:=((hS.alloc #[.int .u64 b] 24).kept hb2).sub (fun x hx=>List.mem_cons_of_mem _ hx);clear ya yb;obtain ⟨⟨yc,yd,-⟩,-⟩:=hS.cells;go_wp2_with fail
 refine (HI _).mono ?_;rintro e w3 ⟨rfl,hb3⟩;replace hS:=hS.kept hb3;clear yc yd;obtain ⟨⟨ye,yf,-⟩,-⟩:=hS.cells;go_wp2_with fail
 refine (HP _).mono ?_;rintro e w4 ⟨rfl,hb4⟩;replace hS:=hS.kept hb4;clear ye yf;obtain ⟨⟨yg,yh,-⟩,-⟩:=hS.cells;have hltw4_0:w.heap.size<w4.heap.size:=hS.lt 0 rfl;replace hS:=hS.alloc #[.int .u64 q,.int .u64 r] 97;clear yg yh;obtain ⟨⟨yi,yj,-⟩,⟨yk,yl,-⟩,-⟩:=hS.cells;have hEq:=pU q r q r;go_wp2_with fail
 refine wp_region_any (by kernel_rfl) ?_;refine aM [some (37,.agg #[.int .u64 q,.int .u64 r]),some (38,.agg #[.int .i64 E,.int .i64 F]),some (39,.int .u64 en),some (40,.agg #[.int .u64 q,.int .u64 r]),some (41,.bool true)]
  (fun _ W9=>Fs w W9 [⟨w4.heap.size,#[.int .u64 q,.int .u64 r],97⟩,⟨w.heap.size,#[.int .i64 E,.int .i64 F],23⟩]) _ _ rfl (by kernel_rfl) rfl rfl ?_ ?_ (hS).drew
 ·intro l9 t9 W9 i9 hD hi9 hl9 hM;obtain ⟨o9,ho9,hd9⟩:=(mem_ready.1 hi9).2;have hin9:i9<5:=by
   by_cases h:i9<5
   ·exact h
   ·rw [Array.getElem?_eq_none (by rw [hD.len];simp;omega)] at hl9;cases hl9
  have hcase:i9=0∨i9=1∨i9=2∨i9=3∨i9=4:=by omega
  clear hin9;rcases hcase with rfl|rfl|rfl|rfl|rfl
  ·cases ho9;have r11:=hD.old 11 _ rfl rfl;have hM0:=hM;have Q_:=hM0.cellAt (b:=w4.heap.size) (cs:=#[.int .u64 q,.int .u64 r]) (t:=97) (by simp);have c9_0:=Q_ 0 _ rfl;have c9_1:=Q_ 1 _ rfl;clear Q_;clear hM0;refine wpOp_step rfl fun K hK=>?_;go_simp
   exact hK _ _ ⟨rfl,hM⟩
  ·cases ho9;have r3:=hD.old 3 _ rfl rfl;have hM0:=hM;have Q_:=hM0.cellAt (b:=w.heap.size) (cs:=#[.int .i64 E,.int .i64 F]) (t:=23) (by simp);have c9_0:=Q_ 0 _ rfl;have c9_1:=Q_ 1 _ rfl;clear Q_;clear hM0;refine wpOp_step rfl fun K hK=>?_;go_simp
   exact hK _ _ ⟨rfl,hM⟩
  ·cases ho9;have r9:=hD.old 9 _ rfl rfl;refine wpOp_step rfl fun K hK=>?_;go_simp
   exact hK _ _ ⟨rfl,hM⟩
  ·cases ho9;have r38:=hD.od hd9 1 38 _ rfl (by simp);have r39:=hD.od hd9 2 39 _ rfl (by simp);refine wpOp_step rfl fun K hK=>?_;go_simp
   go_wp2_with fail
   refine (HQ _).mono ?_;rintro en w9 ⟨rfl,hb9⟩;exact hK _ _ ⟨rfl,hM.kept hb9⟩
  ·cases ho9;have r37:=hD.od hd9 0 37 _ rfl (by simp);have r40:=hD.od hd9 3 40 _ rfl (by simp);refine wpOp_step rfl fun K hK=>?_;go_simp
   exact hK _ _ ⟨aU (by simp),hM⟩
 ·intro l9 W9 hl9 hM;clear hS yi yj yk yl;have hS:=hM;clear hM;simp only [ay.lay,List.setIfInBounds_toArray,List.set_cons_zero,List.set_cons_succ];obtain ⟨⟨ym,yn,-⟩,⟨yo,yp,-⟩,-⟩:=hS.cells;clear hEq;go_wp2
  go_ret2
  exact ⟨rfl,hS.fr⟩
theorem yE(E F b:Int)(H0:bf 26 #[.agg #[.int .i64 E,.int .i64 F],.int .u64 b] (.int .i64 0))(c:Int)(hc:(c==(5:Int))=false)(HC:bf 15 #[.agg #[.int .i64 E,.int .i64 F],.int .u64 b] (.tuple #[.int .u8 c,.int .i64 0]))(en:Int)(HI:bf 92 #[.agg #[.int .i64 E,.int .i64 F],.bool false] (.tuple #[.int .u64 en,.int .i64 0]))(q r:Int)(HP:bf 49 #[.agg #[.int .i64 E,.int .i64 F],.int .u64 b] (.agg #[.int .u64 q,.int .u64 r]))(q' r':Int)(HQ:bf 49 #[.agg #[.int .i64 E,.int .i64 F],.int .u64 en] (.agg #[.int .u64 q',.int .u64 r']))(hne:(q==q'&&r==r')=false)(p v:Int)(hp:-9223372036854775000≤p)(hp2:p≤9223372036854775000)(neg:Bool)(hneg:(q==(1:Int))=neg)(HL:bf 50 #[.agg #[.int .u64 q,.int .u64 r]] (.int .i64 p))(HA:bf 93 #[.agg #[.int .i64 E,.int .i64 F],.int .i64 (p+1),.bool neg] (.int .u64 v))(w:World)  :
  Calls Tryz.prog 43 #[.agg #[.int .i64 E,.int .i64 F],.int .u64 b,.bool false] w fun e w'=>e = .returned (.tuple #[.int .u64 v,.int .i64 0])∧Below w.heap.size w w':=by
 go_enter Tryz.func43,Tryz.ntmps43
 go_wp2_with fail
 refine (fe E F _ b H0 _ (by have:=heap_alloc_new (w.alloc (.cells #[.int .i64 E,.int .i64 F] 23)) (.cells #[.int .u64 b] 24);simpa only [World.size_alloc] using this)).mono ?_;rintro e w1 ⟨rfl,hb1⟩;have hS:Fs w (w.alloc (.cells #[.int .i64 E,.int .i64 F] 23)) [⟨w.heap.size,#[.int .i64 E,.int .i64 F],23⟩]:=Fs.one w _ _;replace hS:=((hS.alloc #[.int .u64 b] 24).kept hb1).sub (fun x hx=>List.mem_cons_of_mem _ hx);obtain ⟨⟨ya,yb,-⟩,-⟩:=hS.cells;go_wp2_with fail
 refine (jD E F c hc _ b HC _ (by have:=heap_alloc_new w1 (.cells #[.int .u64 b] 24);simpa only [World.size_alloc] using this)).mono ?_;rintro e w2 ⟨rfl,hb2⟩;replace hS:=((hS.alloc #[.int .u64 b] 24).kept hb2).sub (fun x hx=>List.mem_cons_of_mem _ hx);clear ya yb;obtain ⟨⟨yc,yd,-⟩,-⟩:=hS.cells;go_wp2_with fail
 refine (HI _).mono ?_;rintro e w3 ⟨rfl,hb3⟩;replace hS:=hS.kept hb3;clear yc yd;obtain ⟨⟨ye,yf,-⟩,-⟩:=hS.cells;go_wp2_with fail
 refine (HP _).mono ?_;rintro e w4 ⟨rfl,hb4⟩;replace hS:=hS.kept hb4;clear ye yf;obtain ⟨⟨yg,yh,-⟩,-⟩:=hS.cells;have hltw4_0:w.heap.size<w4.heap.size:=hS.lt 0 rfl;replace hS:=hS.alloc #[.int .u64 q,.int .u64 r] 97;clear yg yh;obtain ⟨⟨yi,yj,-⟩,⟨yk,yl,-⟩,-⟩:=hS.cells;have hEq:=pU q r q' r';go_wp2_with fail
 refine wp_region_any (by kernel_rfl) ?_;refine aM [some (37,.agg #[.int .u64 q,.int .u64 r]),some (38,.agg #[.int .i64 E,.int .i64 F]),some (39,.int .u64 en),some (40,.agg #[.int .u64 q',.int .u64 r']),some (41,.bool false)]
  (fun _ W9=>Fs w W9 [⟨w4.heap.size,#[.int .u64 q,.int .u64 r],97⟩,⟨w.heap.size,#[.int .i64 E,.int .i64 F],23⟩]) _ _ rfl (by kernel_rfl) rfl rfl ?_ ?_ (hS).drew
 ·intro l9 t9 W9 i9 hD hi9 hl9 hM;obtain ⟨o9,ho9,hd9⟩:=(mem_ready.1 hi9).2;have hin9:i9<5:=by
   by_cases h:i9<5
   ·exact h
   ·rw [Array.getElem?_eq_none (by rw [hD.len];simp;omega)] at hl9;cases hl9
  have hcase:i9=0∨i9=1∨i9=2∨i9=3∨i9=4:=by omega
  clear hin9;rcases hcase with rfl|rfl|rfl|rfl|rfl
  ·cases ho9;have r11:=hD.old 11 _ rfl rfl;have hM0:=hM;have Q_:=hM0.cellAt (b:=w4.heap.size) (cs:=#[.int .u64 q,.int .u64 r]) (t:=97) (by simp);have c9_0:=Q_ 0 _ rfl;have c9_1:=Q_ 1 _ rfl;clear Q_;clear hM0;refine wpOp_step rfl fun K hK=>?_;go_simp
   exact hK _ _ ⟨rfl,hM⟩
  ·cases ho9;have r3:=hD.old 3 _ rfl rfl;have hM0:=hM;have Q_:=hM0.cellAt (b:=w.heap.size) (cs:=#[.int .i64 E,.int .i64 F]) (t:=23) (by simp);have c9_0:=Q_ 0 _ rfl;have c9_1:=Q_ 1 _ rfl;clear Q_;clear hM0;refine wpOp_step rfl fun K hK=>?_;go_simp
   exact hK _ _ ⟨rfl,hM⟩
  ·cases ho9;have r9:=hD.old 9 _ rfl rfl;refine wpOp_step rfl fun K hK=>?_;go_simp
   exact hK _ _ ⟨rfl,hM⟩
  ·cases ho9;have r38:=hD.od hd9 1 38 _ rfl (by simp);have r39:=hD.od hd9 2 39 _ rfl (by simp);refine wpOp_step rfl fun K hK=>?_;go_simp
   go_wp2_with fail
   refine (HQ _).mono ?_;rintro en w9 ⟨rfl,hb9⟩;exact hK _ _ ⟨rfl,hM.kept hb9⟩
  ·cases ho9;have r37:=hD.od hd9 0 37 _ rfl (by simp);have r40:=hD.od hd9 3 40 _ rfl (by simp);refine wpOp_step rfl fun K hK=>?_;go_simp
   exact hK _ _ ⟨aU (by rfl),hM⟩
 ·intro l9 W9 hl9 hM;clear hS yi yj yk yl;have hS:=hM;clear hM;simp only [ay.lay,List.setIfInBounds_toArray,List.set_cons_zero,List.set_cons_succ];obtain ⟨⟨ym,yn,-⟩,⟨yo,yp,-⟩,-⟩:=hS.cells;clear hEq;go_wp2_with fail
  refine wp_region_any (by kernel_rfl) ?_;refine aM [some (52,.agg #[.int .i64 E,.int .i64 F]),some (53,.agg #[.int .u64 q,.int .u64 r]),some (54,.int .i64 p),some (55,.int .i64 (p+1)),some (56,.bool neg),some (57,.int .u64 v),some (6,.int .u64 v),some (7,.int .i64 0)]
   (fun _ W9=>Fs w W9 [⟨w4.heap.size,#[.int .u64 q,.int .u64 r],97⟩,⟨w.heap.size,#[.int .i64 E,.int .i64 F],23⟩]) _ _ rfl (by kernel_rfl) rfl rfl ?_ ?_ (hS).drew
  ·intro l9 t9 W9 i9 hD hi9 hl9 hM;obtain ⟨o9,ho9,hd9⟩:=(mem_ready.1 hi9).2;have hin9:i9<8:=by
    by_cases h:i9<8
    ·exact h
    ·rw [Array.getElem?_eq_none (by rw [hD.len];simp;omega)] at hl9;cases hl9
   have hcase:i9=0∨i9=1∨i9=2∨i9=3∨i9=4∨i9=5∨i9=6∨i9=7:=by omega
   clear hin9;rcases hcase with rfl|rfl|rfl|rfl|rfl|rfl|rfl|rfl
   ·cases ho9;have r3:=hD.old 3 _ rfl rfl;have hM0:=hM;have Q_:=hM0.cellAt (b:=w.heap.size) (cs:=#[.int .i64 E,.int .i64 F]) (t:=23) (by simp);have c9_0:=Q_ 0 _ rfl;have c9_1:=Q_ 1 _ rfl;clear Q_;clear hM0;refine wpOp_step rfl fun K hK=>?_;go_simp
    exact hK _ _ ⟨rfl,hM⟩
   ·cases ho9;have r11:=hD.old 11 _ rfl rfl;have hM0:=hM;have Q_:=hM0.cellAt (b:=w4.heap.size) (cs:=#[.int .u64 q,.int .u64 r]) (t:=97) (by simp);have c9_0:=Q_ 0 _ rfl;have c9_1:=Q_ 1 _ rfl;clear Q_;clear hM0;refine wpOp_step rfl fun K hK=>?_;go_simp
    exact hK _ _ ⟨rfl,hM⟩
   ·cases ho9;have r53:=hD.od hd9 1 53 _ rfl (by simp);refine wpOp_step rfl fun K hK=>?_;go_simp
    go_wp2_with fail
    refine (HL _).mono ?_;rintro en w9 ⟨rfl,hb9⟩;exact hK _ _ ⟨rfl,hM.kept hb9⟩
   ·cases ho9;have r54:=hD.od hd9 2 54 _ rfl (by simp);refine wpOp_step rfl fun K hK=>?_;go_simp
    exact hK _ _ ⟨aU (by (show Value.int _ _=Value.int _ _;congr 1;(first|rfl|omega|(rw [IntKind.wrap_i64];omega)|(rw [IntKind.wrap_u64];omega)))),hM⟩
   ·cases ho9;have r12:=hD.old 12 _ rfl rfl;refine wpOp_step rfl fun K hK=>?_;go_simp
    exact hK _ _ ⟨rfl,hM⟩
   ·cases ho9;have r52:=hD.od hd9 0 52 _ rfl (by simp);have r55:=hD.od hd9 3 55 _ rfl (by simp);have r56:=hD.od hd9 4 56 _ rfl (by simp);refine wpOp_step rfl fun K hK=>?_;go_simp
    go_wp2_with fail
    refine (HA _).mono ?_;rintro en w9 ⟨rfl,hb9⟩;exact hK _ _ ⟨rfl,hM.kept hb9⟩
   ·cases ho9;have r57:=hD.od hd9 5 57 _ rfl (by simp);refine wpOp_step rfl fun K hK=>?_;go_simp
    exact hK _ _ ⟨rfl,hM⟩
   ·cases ho9;refine wpOp_step rfl fun K hK=>?_;go_simp
    exact hK _ _ ⟨rfl,hM⟩
  ·intro l9 W9 hl9 hM;clear hS ym yn yo yp;have hS:=hM;clear hM;simp only [ay.lay,List.setIfInBounds_toArray,List.set_cons_zero,List.set_cons_succ];obtain ⟨⟨yq,yr,-⟩,⟨ys,yt,-⟩,-⟩:=hS.cells;go_wp2
   go_ret2
   exact ⟨rfl,hS.fr⟩
theorem uK(E F b:Int)(H0:bf 26 #[.agg #[.int .i64 E,.int .i64 F],.int .u64 b] (.int .i64 0))(c:Int)(hc:(c==(5:Int))=false)(HC:bf 15 #[.agg #[.int .i64 E,.int .i64 F],.int .u64 b] (.tuple #[.int .u8 c,.int .i64 0]))(en:Int)(HI:bf 92 #[.agg #[.int .i64 E,.int .i64 F],.bool true] (.tuple #[.int .u64 en,.int .i64 0]))(q r:Int)(HP:bf 49 #[.agg #[.int .i64 E,.int .i64 F],.int .u64 b] (.agg #[.int .u64 q,.int .u64 r]))(q' r':Int)(HQ:bf 49 #[.agg #[.int .i64 E,.int .i64 F],.int .u64 en] (.agg #[.int .u64 q',.int .u64 r']))(hne:(q==q'&&r==r')=false)(p v:Int)(hp:-9223372036854775000≤p)(hp2:p≤9223372036854775000)(neg:Bool)(hneg:(q==(1:Int))=neg)(HL:bf 50 #[.agg #[.int .u64 q,.int .u64 r]] (.int .i64 p))(HA:bf 93 #[.agg #[.int .i64 E,.int .i64 F],.int .i64 (p-1),.bool neg] (.int .u64 v))(w:World)  :
  Calls Tryz.prog 43 #[.agg #[.int .i64 E,.int .i64 F],.int .u64 b,.bool true] w fun e w'=>e = .returned (.tuple #[.int .u64 v,.int .i64 0])∧Below w.heap.size w w':=by
 go_enter Tryz.func43,Tryz.ntmps43
 go_wp2_with fail
 refine (fe E F _ b H0 _ (by have:=heap_alloc_new (w.alloc (.cells #[.int .i64 E,.int .i64 F] 23)) (.cells #[.int .u64 b] 24);simpa only [World.size_alloc] using this)).mono ?_;rintro e w1 ⟨rfl,hb1⟩;have hS:Fs w (w.alloc (.cells #[.int .i64 E,.int .i64 F] 23)) [⟨w.heap.size,#[.int .i64 E,.int .i64 F],23⟩]:=Fs.one w _ _;replace hS:=((hS.alloc #[.int .u64 b] 24).kept hb1).sub (fun x hx=>List.mem_cons_of_mem _ hx);obtain ⟨⟨ya,yb,-⟩,-⟩:=hS.cells;go_wp2_with fail
 refine (jD E F c hc _ b HC _ (by have:=heap_alloc_new w1 (.cells #[.int .u64 b] 24);simpa only [World.size_alloc] using this)).mono ?_;rintro e w2 ⟨rfl,hb2⟩;replace hS:=((hS.alloc #[.int .u64 b] 24).kept hb2).sub (fun x hx=>List.mem_cons_of_mem _ hx);clear ya yb;obtain ⟨⟨yc,yd,-⟩,-⟩:=hS.cells;go_wp2_with fail
 refine (HI _).mono ?_;rintro e w3 ⟨rfl,hb3⟩;replace hS:=hS.kept hb3;clear yc yd;obtain ⟨⟨ye,yf,-⟩,-⟩:=hS.cells;go_wp2_with fail
 refine (HP _).mono ?_;rintro e w4 ⟨rfl,hb4⟩;replace hS:=hS.kept hb4;clear ye yf;obtain ⟨⟨yg,yh,-⟩,-⟩:=hS.cells;have hltw4_0:w.heap.size<w4.heap.size:=hS.lt 0 rfl;replace hS:=hS.alloc #[.int .u64 q,.int .u64 r] 97;clear yg yh;obtain ⟨⟨yi,yj,-⟩,⟨yk,yl,-⟩,-⟩:=hS.cells;have hEq:=pU q r q' r';go_wp2_with fail
 refine wp_region_any (by kernel_rfl) ?_;refine aM [some (37,.agg #[.int .u64 q,.int .u64 r]),some (38,.agg #[.int .i64 E,.int .i64 F]),some (39,.int .u64 en),some (40,.agg #[.int .u64 q',.int .u64 r']),some (41,.bool false)]
  (fun _ W9=>Fs w W9 [⟨w4.heap.size,#[.int .u64 q,.int .u64 r],97⟩,⟨w.heap.size,#[.int .i64 E,.int .i64 F],23⟩]) _ _ rfl (by kernel_rfl) rfl rfl ?_ ?_ (hS).drew
 ·intro l9 t9 W9 i9 hD hi9 hl9 hM;obtain ⟨o9,ho9,hd9⟩:=(mem_ready.1 hi9).2;have hin9:i9<5:=by
   by_cases h:i9<5
   ·exact h
   ·rw [Array.getElem?_eq_none (by rw [hD.len];simp;omega)] at hl9;cases hl9
  have hcase:i9=0∨i9=1∨i9=2∨i9=3∨i9=4:=by omega
  clear hin9;rcases hcase with rfl|rfl|rfl|rfl|rfl
  ·cases ho9;have r11:=hD.old 11 _ rfl rfl;have hM0:=hM;have Q_:=hM0.cellAt (b:=w4.heap.size) (cs:=#[.int .u64 q,.int .u64 r]) (t:=97) (by simp);have c9_0:=Q_ 0 _ rfl;have c9_1:=Q_ 1 _ rfl;clear Q_;clear hM0;refine wpOp_step rfl fun K hK=>?_;go_simp
   exact hK _ _ ⟨rfl,hM⟩
  ·cases ho9;have r3:=hD.old 3 _ rfl rfl;have hM0:=hM;have Q_:=hM0.cellAt (b:=w.heap.size) (cs:=#[.int .i64 E,.int .i64 F]) (t:=23) (by simp);have c9_0:=Q_ 0 _ rfl;have c9_1:=Q_ 1 _ rfl;clear Q_;clear hM0;refine wpOp_step rfl fun K hK=>?_;go_simp
   exact hK _ _ ⟨rfl,hM⟩
  ·cases ho9;have r9:=hD.old 9 _ rfl rfl;refine wpOp_step rfl fun K hK=>?_;go_simp
   exact hK _ _ ⟨rfl,hM⟩
  ·cases ho9;have r38:=hD.od hd9 1 38 _ rfl (by simp);have r39:=hD.od hd9 2 39 _ rfl (by simp);refine wpOp_step rfl fun K hK=>?_;go_simp
   go_wp2_with fail
   refine (HQ _).mono ?_;rintro en w9 ⟨rfl,hb9⟩;exact hK _ _ ⟨rfl,hM.kept hb9⟩
  ·cases ho9;have r37:=hD.od hd9 0 37 _ rfl (by simp);have r40:=hD.od hd9 3 40 _ rfl (by simp);refine wpOp_step rfl fun K hK=>?_;go_simp
   exact hK _ _ ⟨aU (by rfl),hM⟩
 ·intro l9 W9 hl9 hM;clear hS yi yj yk yl;have hS:=hM;clear hM;simp only [ay.lay,List.setIfInBounds_toArray,List.set_cons_zero,List.set_cons_succ];obtain ⟨⟨ym,yn,-⟩,⟨yo,yp,-⟩,-⟩:=hS.cells;clear hEq;go_wp2_with fail
  refine wp_region_any (by kernel_rfl) ?_;refine aM [some (46,.agg #[.int .i64 E,.int .i64 F]),some (47,.agg #[.int .u64 q,.int .u64 r]),some (48,.int .i64 p),some (49,.int .i64 (p-1)),some (50,.bool neg),some (51,.int .u64 v),some (6,.int .u64 v),some (7,.int .i64 0)]
   (fun _ W9=>Fs w W9 [⟨w4.heap.size,#[.int .u64 q,.int .u64 r],97⟩,⟨w.heap.size,#[.int .i64 E,.int .i64 F],23⟩]) _ _ rfl (by kernel_rfl) rfl rfl ?_ ?_ (hS).drew
  ·intro l9 t9 W9 i9 hD hi9 hl9 hM;obtain ⟨o9,ho9,hd9⟩:=(mem_ready.1 hi9).2;have hin9:i9<8:=by
    by_cases h:i9<8
    ·exact h
    ·rw [Array.getElem?_eq_none (by rw [hD.len];simp;omega)] at hl9;cases hl9
   have hcase:i9=0∨i9=1∨i9=2∨i9=3∨i9=4∨i9=5∨i9=6∨i9=7:=by omega
   clear hin9;rcases hcase with rfl|rfl|rfl|rfl|rfl|rfl|rfl|rfl
   ·cases ho9;have r3:=hD.old 3 _ rfl rfl;have hM0:=hM;have Q_:=hM0.cellAt (b:=w.heap.size) (cs:=#[.int .i64 E,.int .i64 F]) (t:=23) (by simp);have c9_0:=Q_ 0 _ rfl;have c9_1:=Q_ 1 _ rfl;clear Q_;clear hM0;refine wpOp_step rfl fun K hK=>?_;go_simp
    exact hK _ _ ⟨rfl,hM⟩
   ·cases ho9;have r11:=hD.old 11 _ rfl rfl;have hM0:=hM;have Q_:=hM0.cellAt (b:=w4.heap.size) (cs:=#[.int .u64 q,.int .u64 r]) (t:=97) (by simp);have c9_0:=Q_ 0 _ rfl;have c9_1:=Q_ 1 _ rfl;clear Q_;clear hM0;refine wpOp_step rfl fun K hK=>?_;go_simp
    exact hK _ _ ⟨rfl,hM⟩
   ·cases ho9;have r47:=hD.od hd9 1 47 _ rfl (by simp);refine wpOp_step rfl fun K hK=>?_;go_simp
    go_wp2_with fail
    refine (HL _).mono ?_;rintro en w9 ⟨rfl,hb9⟩;exact hK _ _ ⟨rfl,hM.kept hb9⟩
   ·cases ho9;have r48:=hD.od hd9 2 48 _ rfl (by simp);refine wpOp_step rfl fun K hK=>?_;go_simp
    exact hK _ _ ⟨aU (by (show Value.int _ _=Value.int _ _;congr 1;(first|rfl|omega|(rw [IntKind.wrap_i64];omega)|(rw [IntKind.wrap_u64];omega)))),hM⟩
   ·cases ho9;have r12:=hD.old 12 _ rfl rfl;refine wpOp_step rfl fun K hK=>?_;go_simp
    exact hK _ _ ⟨rfl,hM⟩
   ·cases ho9;have r46:=hD.od hd9 0 46 _ rfl (by simp);have r49:=hD.od hd9 3 49 _ rfl (by simp);have r50:=hD.od hd9 4 50 _ rfl (by simp);refine wpOp_step rfl fun K hK=>?_;go_simp
    go_wp2_with fail
    refine (HA _).mono ?_;rintro en w9 ⟨rfl,hb9⟩;exact hK _ _ ⟨rfl,hM.kept hb9⟩
   ·cases ho9;have r51:=hD.od hd9 5 51 _ rfl (by simp);refine wpOp_step rfl fun K hK=>?_;go_simp
    exact hK _ _ ⟨rfl,hM⟩
   ·cases ho9;refine wpOp_step rfl fun K hK=>?_;go_simp
    exact hK _ _ ⟨rfl,hM⟩
  ·intro l9 W9 hl9 hM;clear hS ym yn yo yp;have hS:=hM;clear hM;simp only [ay.lay,List.setIfInBounds_toArray,List.set_cons_zero,List.set_cons_succ];obtain ⟨⟨yq,yr,-⟩,⟨ys,yt,-⟩,-⟩:=hS.cells;go_wp2
   go_ret2
   exact ⟨rfl,hS.fr⟩
theorem wN(E F b x y:Int)(H:bf 43 #[.agg #[.int .i64 E,.int .i64 F],.int .u64 b,.bool false] (.tuple #[.int .u64 x,.int .i64 y]))(w:World)  :
  Calls Tryz.prog 14 #[.agg #[.int .i64 E,.int .i64 F],.int .u64 b] w fun e w'=>e = .returned (.tuple #[.int .u64 x,.int .i64 y])∧Below w.heap.size w w':=by
 go_enter Tryz.func14,Tryz.ntmps14
 go_wp2_with fail
 refine (H _).mono ?_;rintro e w1 ⟨rfl,hb1⟩;have hS:=(Fs.one w _ _).kept hb1;obtain ⟨⟨ya,yb,-⟩,-⟩:=hS.cells;go_wp2
 go_ret2
 exact ⟨rfl,hS.fr⟩
theorem pg(E F b x y:Int)(H:bf 43 #[.agg #[.int .i64 E,.int .i64 F],.int .u64 b,.bool true] (.tuple #[.int .u64 x,.int .i64 y]))(w:World)  :
  Calls Tryz.prog 59 #[.agg #[.int .i64 E,.int .i64 F],.int .u64 b] w fun e w'=>e = .returned (.tuple #[.int .u64 x,.int .i64 y])∧Below w.heap.size w w':=by
 go_enter Tryz.func59,Tryz.ntmps59
 go_wp2_with fail
 refine (H _).mono ?_;rintro e w1 ⟨rfl,hb1⟩;have hS:=(Fs.one w _ _).kept hb1;obtain ⟨⟨ya,yb,-⟩,-⟩:=hS.cells;go_wp2
 go_ret2
 exact ⟨rfl,hS.fr⟩
theorem xH(E F a b:Int)(c1:Int)(h1:(c1==(5:Int))=false)(c2:Int)(h2:(c2==(5:Int))=false)(H0:bf 26 #[.agg #[.int .i64 E,.int .i64 F],.int .u64 a] (.int .i64 0))(H1:bf 26 #[.agg #[.int .i64 E,.int .i64 F],.int .u64 b] (.int .i64 0))(HC:bf 15 #[.agg #[.int .i64 E,.int .i64 F],.int .u64 a] (.tuple #[.int .u8 c1,.int .i64 0]))(HD:bf 15 #[.agg #[.int .i64 E,.int .i64 F],.int .u64 b] (.tuple #[.int .u8 c2,.int .i64 0]))(qa ra qb rb x y:Int)(HP:bf 49 #[.agg #[.int .i64 E,.int .i64 F],.int .u64 a] (.agg #[.int .u64 qa,.int .u64 ra]))(HQ:bf 49 #[.agg #[.int .i64 E,.int .i64 F],.int .u64 b] (.agg #[.int .u64 qb,.int .u64 rb]))(HX:bf 50 #[.agg #[.int .u64 qa,.int .u64 ra]] (.int .i64 x))(HY:bf 50 #[.agg #[.int .u64 qb,.int .u64 rb]] (.int .i64 y))(h:y<x)(hx:-9223372036854775808≤x)(hx2:x<9223372036854775808)(hy:-9223372036854775808≤y)(hy2:y<9223372036854775808)(n:Int)(hn:n=x-y)(w:World)  :
  Calls Tryz.prog 18 #[.agg #[.int .i64 E,.int .i64 F],.int .u64 a,.int .u64 b] w fun e w'=>e = .returned (.tuple #[.bool true,.int .u64 n,.int .i64 0])∧Below w.heap.size w w':=by
 have e1:IntKind.u64.wrap (IntKind.u64.wrap (x)-IntKind.u64.wrap (y))=n:=by rw [IntKind.wrap_u64,IntKind.wrap_u64,IntKind.wrap_u64];omega
 clear hn hx hx2 hy hy2;go_enter Tryz.func18,Tryz.ntmps18
 go_wp2_with fail
 refine (yU E F _ a b H0 H1 _ (by have:=heap_alloc_new (w.alloc (.cells #[.int .i64 E,.int .i64 F] 23)) (.cells #[.int .u64 a,.int .u64 b] 24);simpa only [World.size_alloc] using this)).mono ?_;rintro e w1 ⟨rfl,hb1⟩;have hS:Fs w (w.alloc (.cells #[.int .i64 E,.int .i64 F] 23)) [⟨w.heap.size,#[.int .i64 E,.int .i64 F],23⟩]:=Fs.one w _ _;replace hS:=((hS.alloc #[.int .u64 a,.int .u64 b] 24).kept hb1).sub (fun x hx=>List.mem_cons_of_mem _ hx);obtain ⟨⟨ya,yb,-⟩,-⟩:=hS.cells;go_wp2_with fail
 refine (rA E F c1 h1 c2 h2 _ a b HC HD _ (by have:=heap_alloc_new w1 (.cells #[.int .u64 a,.int .u64 b] 24);simpa only [World.size_alloc] using this)).mono ?_;rintro e w2 ⟨rfl,hb2⟩;replace hS:=((hS.alloc #[.int .u64 a,.int .u64 b] 24).kept hb2).sub (fun x hx=>List.mem_cons_of_mem _ hx);clear ya yb;obtain ⟨⟨yc,yd,-⟩,-⟩:=hS.cells;go_wp2_with fail
 refine wp_region_any (by kernel_rfl) ?_;refine aM [some (26,.agg #[.int .i64 E,.int .i64 F]),some (27,.int .u64 a),some (28,.agg #[.int .u64 qa,.int .u64 ra]),some (29,.int .i64 x),some (30,.agg #[.int .i64 E,.int .i64 F]),some (31,.int .u64 b),some (32,.agg #[.int .u64 qb,.int .u64 rb]),some (33,.int .i64 y),some (10,.int .i64 x),some (11,.int .i64 y)]
  (fun _ W9=>Fs w W9 [⟨w.heap.size,#[.int .i64 E,.int .i64 F],23⟩]) _ _ rfl (by kernel_rfl) rfl rfl ?_ ?_ (hS).drew
 ·intro l9 t9 W9 i9 hD hi9 hl9 hM;obtain ⟨o9,ho9,hd9⟩:=(mem_ready.1 hi9).2;have hin9:i9<10:=by
   by_cases h:i9<10
   ·exact h
   ·rw [Array.getElem?_eq_none (by rw [hD.len];simp;omega)] at hl9;cases hl9
  have hcase:i9=0∨i9=1∨i9=2∨i9=3∨i9=4∨i9=5∨i9=6∨i9=7∨i9=8∨i9=9:=by omega
  clear hin9;rcases hcase with rfl|rfl|rfl|rfl|rfl|rfl|rfl|rfl|rfl|rfl
  ·cases ho9;have r3:=hD.old 3 _ rfl rfl;have hM0:=hM;have Q_:=hM0.cellAt (b:=w.heap.size) (cs:=#[.int .i64 E,.int .i64 F]) (t:=23) (by simp);have c9_0:=Q_ 0 _ rfl;have c9_1:=Q_ 1 _ rfl;clear Q_;clear hM0;refine wpOp_step rfl fun K hK=>?_;go_simp
   exact hK _ _ ⟨rfl,hM⟩
  ·cases ho9;have r1:=hD.old 1 _ rfl rfl;refine wpOp_step rfl fun K hK=>?_;go_simp
   exact hK _ _ ⟨rfl,hM⟩
  ·cases ho9;have r26:=hD.od hd9 0 26 _ rfl (by simp);have r27:=hD.od hd9 1 27 _ rfl (by simp);refine wpOp_step rfl fun K hK=>?_;go_simp
   go_wp2_with fail
   refine (HP _).mono ?_;rintro en w9 ⟨rfl,hb9⟩;exact hK _ _ ⟨rfl,hM.kept hb9⟩
  ·cases ho9;have r28:=hD.od hd9 2 28 _ rfl (by simp);refine wpOp_step rfl fun K hK=>?_;go_simp
   go_wp2_with fail
   refine (HX _).mono ?_;rintro en w9 ⟨rfl,hb9⟩;exact hK _ _ ⟨rfl,hM.kept hb9⟩
  ·cases ho9;have r3:=hD.old 3 _ rfl rfl;have hM0:=hM;have Q_:=hM0.cellAt (b:=w.heap.size) (cs:=#[.int .i64 E,.int .i64 F]) (t:=23) (by simp);have c9_0:=Q_ 0 _ rfl;have c9_1:=Q_ 1 _ rfl;clear Q_;clear hM0;refine wpOp_step rfl fun K hK=>?_;go_simp
   exact hK _ _ ⟨rfl,hM⟩
  ·cases ho9;have r2:=hD.old 2 _ rfl rfl;refine wpOp_step rfl fun K hK=>?_;go_simp
   exact hK _ _ ⟨rfl,hM⟩
  ·cases ho9;have r30:=hD.od hd9 4 30 _ rfl (by simp);have r31:=hD.od hd9 5 31 _ rfl (by simp);refine wpOp_step rfl fun K hK=>?_;go_simp
   go_wp2_with fail
   refine (HQ _).mono ?_;rintro en w9 ⟨rfl,hb9⟩;exact hK _ _ ⟨rfl,hM.kept hb9⟩
  ·cases ho9;have r32:=hD.od hd9 6 32 _ rfl (by simp);refine wpOp_step rfl fun K hK=>?_;go_simp
   go_wp2_with fail
   refine (HY _).mono ?_;rintro en w9 ⟨rfl,hb9⟩;exact hK _ _ ⟨rfl,hM.kept hb9⟩
  ·cases ho9;have r29:=hD.od hd9 3 29 _ rfl (by simp);refine wpOp_step rfl fun K hK=>?_;go_simp
   exact hK _ _ ⟨rfl,hM⟩
  ·cases ho9;have r33:=hD.od hd9 7 33 _ rfl (by simp);refine wpOp_step rfl fun K hK=>?_;go_simp
   exact hK _ _ ⟨rfl,hM⟩
 ·intro l9 W9 hl9 hM;clear hS yc yd;have hS:=hM;clear hM;simp only [ay.lay,List.setIfInBounds_toArray,List.set_cons_zero,List.set_cons_succ];obtain ⟨⟨ye,yf,-⟩,-⟩:=hS.cells;go_wp2
  go_ret3
  exact ⟨rfl,hS.fr⟩
end Go.Proofs.YtaidedkpfnidpaaGreatDoor
