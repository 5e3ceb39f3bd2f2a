/- Of what NearRoundsRow stands on: ExRatS SymW. -/
import Derived.Test.YtaidedkpfnidpaaGreatDoorPav
namespace Go.Proofs.YtaidedkpfnidpaaGreatDoor
open Go.RowKit
set_option maxHeartbeats 2000000
set_option maxRecDepth 20000
theorem G8(w:World)(s:Bool)(a:Option Addr)(n c m:Nat)(z:Int)(i j V M:Nat)(h:Num w a n m)(hx:-1073741824≤z∧z≤1073741824)(hi:max z 0=(i:Int))(hj:max (-z) 0=(j:Int))(HC:Hid (∀(W:World) (A:Option Addr) (N C:Nat),Num W A N m→Calls Tryz.prog 62 #[.agg #[.bool s,.slice A N C,.int .i64 z]] W fun e w'=>e = .returned (.int .i64 0)∧Below W.heap.size W w'))(HU:Hid (∀(W:World) (A:Option Addr) (N C:Nat),Num W A N m→Calls Tryz.prog 63 #[.agg #[.slice A N C],.int .i64 (i:Int)] W fun en W'=>(∃a n c,en = .returned (.tuple #[.agg #[.slice a n c],.int .i64 0])∧Mine W' W.heap.size a n c V)∧Below W.heap.size W W'))(HD:Hid (∀(W:World) (A:Option Addr) (N C:Nat),Num W A N 1→Calls Tryz.prog 63 #[.agg #[.slice A N C],.int .i64 (j:Int)] W fun en W'=>(∃a n c,en = .returned (.tuple #[.agg #[.slice a n c],.int .i64 0])∧Mine W' W.heap.size a n c M)∧Below W.heap.size W W')) :
  Calls Tryz.prog 24 #[.agg #[.bool s,.slice a n c,.int .i64 z]] w fun en w'=>(∃A N C A' N' C',en = .returned (.tuple #[.agg #[.bool s,.slice A N C,.slice A' N' C'],.int .i64 0])∧Mine w' w.heap.size A N C V∧Mine w' w.heap.size A' N' C' M)∧Below w.heap.size w w':=by
 refine ax Tryz.func24 rfl (by kernel_rfl) fun T hK=>?_;replace hK:Kn T _ [(0,.agg #[.bool s,.slice a n c,.int .i64 z])]:=hK;have hS:=Fb.begin w;have hG:au [gN a n m] w:=⟨h,trivial⟩;refine wq hS hG hK (fun p1=>[.n 1 #[.bool s,.slice a n c,vJ z] 58,.n 2 #[.bool false,nJ,nJ] 29,.v 3 (vJ 0)]) (fun p1=>[(1,pT (p1 0).N 0),(2,pT (p1 1).N 0),(3,vJ 0)]) (fun p1=>?_) (fun p1 W1 T hF hK=>?_)
 ·iterate 2 refine aI ?_
  refine af ?_;exact ae
 replace hS:=ag.fc hS hF [1000,1001] [⟨(p1 0).N,#[.bool s,.slice a n c,vJ z],58,true⟩,⟨(p1 1).N,#[.bool false,nJ,nJ],29,true⟩];replace hG:=hF.gx;clear hF;refine wp_seq ?_;refine wq hS hG hK (fun p2=>[.l 8 (.agg #[.bool s,.slice a n c,vJ z]) 0 0,.c (some 9) (cV (vJ 0)),.v 4 (vJ 0)]) (fun p2=>[(1,pT (p1 0).N 0),(2,pT (p1 1).N 0),(3,vJ 0),(4,vJ 0)]) (fun p2=>?_) (fun p2 W2 T hF hK=>?_)
 ·refine aj ?_;refine av (fun W cx=>aD (aa HC _ _ _ c (cx.G.1))) ?_;refine af ?_;exact ae
 obtain ⟨hS,hG⟩:=ag.fg hS hF;clear hF;refine wq hS hG hK (fun p3=>[.v 10 (vJ 0),.v 11 (.bool false)]) (fun p3=>[(1,pT (p1 0).N 0),(2,pT (p1 1).N 0),(3,vJ 0),(4,vJ 0),(11,.bool false)]) (fun p3=>?_) (fun p3 W3 T hF hK=>?_)
 ·iterate 2 refine af ?_
  exact ae
 obtain ⟨hS,hG⟩:=ag.fg hS hF;clear hF;have z3:=hS.fr.size;refine wp_cond_false (hK.ew 11) (wp_skip (aB ?_));refine wq hS hG hK (fun p4=>[.v 15 (pT (p1 0).N 1),.l 16 (.agg #[.slice a n c]) 0 1,.v 17 (pT (p1 0).N 2),.l 18 (vJ z) 0 2,.v 19 (vJ (i:Int)),.c (some 20) (cO W3.heap.size V),.v 14 (.tuple #[.agg #[sJ (p4 5)],vJ 0]),.v 21 (.agg #[sJ (p4 5)]),.v 22 (vJ 0),.n 5 #[nJ] 27,.p 1009 0 [sJ (p4 5)],.v 6 (vJ 0)]) (fun p4=>[(1,pT (p1 0).N 0),(2,pT (p1 1).N 0),(3,vJ 0),(4,vJ 0),(5,pT (p4 9).N 0),(6,vJ 0)]) (fun p4=>?_) (fun p4 W4 T hF hK=>?_)
 ·refine af ?_;refine aj ?_;refine af ?_;refine aj ?_;refine bB ((xn z 0).trans hi) ?_;refine av (fun W cx=>fT cx.hb (aa HU _ _ _ c (cx.G.1))) ?_;iterate 3 refine af ?_
  refine aI ?_;refine aF ?_;refine af ?_;exact ae
 replace hS:=ag.fc hS hF [0,1,1009] [⟨(p1 0).N,#[.bool s,.slice a n c,vJ z],58,true⟩,⟨(p1 1).N,#[.bool false,nJ,nJ],29,true⟩,⟨(p4 9).N,#[sJ (p4 5)],27,true⟩];replace hG:au (gM W3.heap.size (p4 5).A (p4 5).N (p4 5).C V::_) W4:=⟨hF.fx 5,hF.gx⟩;clear hF;refine wp_seq ?_;refine wq hS hG hK (fun p5=>[.v 23 (vJ 0),.v 24 (.bool false)]) (fun p5=>[(1,pT (p1 0).N 0),(2,pT (p1 1).N 0),(3,vJ 0),(4,vJ 0),(5,pT (p4 9).N 0),(6,vJ 0),(24,.bool false)]) (fun p5=>?_) (fun p5 W5 T hF hK=>?_)
 ·iterate 2 refine af ?_
  exact ae
 obtain ⟨hS,hG⟩:=ag.fg hS hF;clear hF;have z5:=hS.fr.size;refine wp_cond_false (hK.ew 24) (wp_skip (aB ?_));refine wq hS hG hK (fun p6=>[.c (some 28) (cN W5.heap.size 1),.v 29 (pT (p1 0).N 2),.l 30 (vJ z) 0 2,.v 31 (vJ (-z)),.v 32 (vJ (j:Int)),.c (some 33) (cO W5.heap.size M),.v 27 (.tuple #[.agg #[sJ (p6 5)],vJ 0]),.v 34 (.agg #[sJ (p6 5)]),.v 35 (vJ 0),.n 7 #[nJ] 27,.p 1009 0 [sJ (p6 5)],.v 6 (vJ 0)]) (fun p6=>[(1,pT (p1 0).N 0),(2,pT (p1 1).N 0),(3,vJ 0),(4,vJ 0),(5,pT (p4 9).N 0),(6,vJ 0),(7,pT (p6 9).N 0)]) (fun p6=>?_) (fun p6 W6 T hF hK=>?_)
 ·refine av (fun W cx=>aT cx.hb (dD 1 _ (by decide))) ?_;refine af ?_;refine aj ?_;refine bB ((dQ (x:=0-z) (by omega) (by omega)).trans (by omega)) ?_;refine bB ((xn (-z) 0).trans hj) ?_;refine av (fun W cx=>fT cx.hb (aa HD _ _ _ (p6 0).C (Mine.num (cx.F 0 (by kernel_rfl))))) ?_;iterate 3 refine af ?_
  refine aI ?_;refine aF ?_;refine af ?_;exact ae
 replace hS:=ag.fc hS hF [0,1,2,1009] [⟨(p1 0).N,#[.bool s,.slice a n c,vJ z],58,true⟩,⟨(p1 1).N,#[.bool false,nJ,nJ],29,true⟩,⟨(p4 9).N,#[sJ (p4 5)],27,true⟩,⟨(p6 9).N,#[sJ (p6 5)],27,true⟩];replace hG:au (gM W5.heap.size (p6 0).A (p6 0).N (p6 0).C 1::gM W5.heap.size (p6 5).A (p6 5).N (p6 5).C M::_) W6:=⟨hF.fx 0,hF.fx 5,hF.gx⟩;clear hF;refine wp_seq ?_;refine wq hS hG hK (fun p7=>[.v 36 (vJ 0),.v 37 (.bool false)]) (fun p7=>[(1,pT (p1 0).N 0),(2,pT (p1 1).N 0),(3,vJ 0),(4,vJ 0),(5,pT (p4 9).N 0),(6,vJ 0),(7,pT (p6 9).N 0),(37,.bool false)]) (fun p7=>?_) (fun p7 W7 T hF hK=>?_)
 ·iterate 2 refine af ?_
  exact ae
 obtain ⟨hS,hG⟩:=ag.fg hS hF;clear hF;refine wp_cond_false (hK.ew 37) (wp_skip (aB ?_));refine wq hS hG hK (fun p8=>[.v 40 (pT (p1 0).N 0),.l 41 (.bool s) 0 0,.l 42 (.agg #[sJ (p4 5)]) 2 0,.l 43 (.agg #[sJ (p6 5)]) 3 0,.v 44 (.agg #[.bool s,sJ (p4 5),sJ (p6 5)]),.p 1 0 [.bool s,sJ (p4 5),sJ (p6 5)],.v 3 (vJ 0)]) (fun p8=>[(2,pT (p1 1).N 0),(3,vJ 0),(4,vJ 0),(6,vJ 0)]) (fun p8=>?_) (fun p8 W8 T hF hK=>?_)
 ·refine af ?_;iterate 3 refine aj ?_
  refine af ?_;refine aF ?_;refine af ?_;exact ae
 replace hS:=ag.fc hS hF [1] [⟨(p1 1).N,#[.bool s,sJ (p4 5),sJ (p6 5)],29,true⟩];replace hG:=hF.gx;clear hF;refine wp_ret ?_;exact aA hS hK (.tuple #[.agg #[.bool s,.slice (p4 5).A (p4 5).N (p4 5).C,.slice (p6 5).A (p6 5).N (p6 5).C],.int .i64 0]) [(0,0,3)] [.bool s,.slice (p4 5).A (p4 5).N (p4 5).C,.slice (p6 5).A (p6 5).N (p6 5).C] (by kernel_rfl) (by kernel_rfl) ⟨⟨_,_,_,_,_,_,rfl,Mine.mono hG.2.2.1 z3,Mine.mono hG.2.1 z5⟩,hS.fr⟩
def wL(E:List Bx)(S:List az)(p:aC)(j:Nat):TypeId:=match aV E S p j with
 | some (bx,_)=>bx.t
 | none=>0
theorem Cx.at_{ops:Array Oper}{E:List Bx}{S:List az}{G:World→Prop}{w0:aN}{base:Nat}{p:aC}{i:Nat}{W:World}(cx:Cx ops E S G w0 base p i W)(j:Nat)(b0:Nat)(cs0:Array Value)(t0:TypeId)(hb:(aV E S p j).isSome=true)(e1:iC E S p j=b0)(e2:cellsOf (fun k=>Nat.blt k i) j 0 S (jF E S p j)=cs0)(e3:wL E S p j=t0)(ht:dI ops i j 0 S=true)(hr:(Nat.blt j 1000||reach ops 4 i (j-1000))=true):W.heap[b0]? = some (.cells cs0 t0 (0,0)):=by
 obtain ⟨⟨bx,bo⟩,hbx⟩:=Option.isSome_iff_exists.1 hb;unfold iC at e1;unfold jF at e2;unfold wL at e3;rw [hbx] at e1 e2 e3;subst e1 e2 e3;exact cx.cl j bx bo hbx ht (by simpa using hr)
theorem Ir{P:Program}{ops:Array Oper}{L:Ks}{E:List Bx}{S:List az}{G:World→Prop}{w0:aN}{base:Nat}{p:aC}{i:Nat}{r:List az}{s:Option Nat}{j off:Nat}{xs:List Value}{g:Pq→List Value}{f:Cf}{fn:FuncId}{args:Array Value}(b0:Nat)(cs0:Array Value)(t0:TypeId)(hc:∀W,Cx ops E S G w0 base p i W→W.heap[b0]? = some (.cells cs0 t0 (0,0))→Calls P fn args W fun en W'=>∃q,en = .returned (f.f q)∧(g q).length=xs.length∧Below W.heap.size (evs (bG b0 off (g q)) W) W'∧f.g q W')(h:aX P ops L (puts p 0 S) i 0 []=some (s,true,some (.enter fn args,[])))(hb:(aV E S p j).isSome=true)(e1:iC E S p j=b0)(e2:cellsOf (fun k=>Nat.blt k i) j 0 S (jF E S p j)=cs0)(e3:wL E S p j=t0)(hg:g (p i)=xs)(hn:Nat.ble (off+xs.length) (jF E S p j).size=true)(t:aZ P ops L E S G w0 base p (i+1) r)(hk:∀q,f.bk q=none:=by intro _;rfl):aZ P ops L E S G w0 base p i (.w s j off xs g f::r):=by
 obtain ⟨⟨bx,bo⟩,hbx⟩:=Option.isSome_iff_exists.1 hb;unfold iC at e1;unfold jF at e2 hn;unfold wL at e3;rw [hbx] at e1 e2 e3 hn;subst e1 e2 e3;exact JA hbx hc h hg hn t hk
theorem JI{P:Program}{fn:FuncId}{args:Array Value}{W:World}{b off:Nat}{v:Value}{xs:List Value}(h:Calls P fn args W fun en W'=>en = .returned v∧Below W.heap.size (evs (bG b off xs) W) W'):Calls P fn args W fun en W'=>∃q,en = .returned ((cV v).f q)∧((fun _:Pq=>xs) q).length=xs.length∧Below W.heap.size (evs (bG b off ((fun _:Pq=>xs) q)) W) W'∧(cV v).g q W':=
 h.mono fun _ _ ⟨h1,h2⟩=>⟨iH,h1,rfl,h2,trivial⟩
def iY(m:Nat)(f:Value→Value):Cf:=.pl (fun q=>f (.slice q.A q.N q.C)) (fun q W=>Mine W 0 q.A q.N q.C m) (fun _=>bL _ _ _ _ _)
theorem gT{P:Program}{fn:FuncId}{args:Array Value}{W:World}{m:Nat}{f:Value→Value}(h:Calls P fn args W fun en W'=>(∃a n c,en = .returned (f (.slice a n c))∧Mine W' 0 a n c m)∧Below W.heap.size W W'):Calls P fn args W fun en W'=>∃q,en = .returned ((iY m f).f q)∧Below W.heap.size W W'∧(iY m f).g q W':=
 h.mono fun _ _ ⟨⟨a,n,c,h1,h3⟩,h2⟩=>⟨{ iH with A:=a,N:=n,C:=c },h1,h2,h3⟩
theorem bJ.below{p off:Nat}{w W':World}{cs:Array Value}{t:TypeId}{xs:List Value}(ht:t≠42)(hc:bM cs.toList)(hx:bM xs)(h1:xs.all (·.oneCell')=true)(hn:off+xs.length≤cs.size)(h0:w.heap[p]? = some (.cells cs t (0,0)))(h:bJ p w W')(hp:W'.heap[p]? = some (.cells (jB cs off xs) t (0,0))):Below w.heap.size (evs (bG p off xs) w) W':=by
 obtain ⟨-,g2,g3,g4,g5,-⟩:=oq (w0:=aN.but p w) ht (Or.inl rfl) xs off cs w h0 hn hc hx h1 ⟨rfl,rfl,rfl,Nat.le_refl _,fun _ _ _=>rfl⟩;have g4':bJ p w (evs (bG p off xs) w):=g4;refine ⟨h.os.trans g4'.os.symm,h.tape.trans g4'.tape.symm,h.output.trans g4'.output.symm,by rw [g5];exact h.size,fun k hk=>?_⟩;by_cases hkp:k=p
 ·subst hkp;rw [hp,g2]
 ·rw [h.block k hk hkp,g3 k hkp]
end Go.Proofs.YtaidedkpfnidpaaGreatDoor
