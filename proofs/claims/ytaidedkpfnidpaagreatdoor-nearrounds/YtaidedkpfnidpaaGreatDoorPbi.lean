/- Of what NearRoundsRow stands on: RcW RcBor RcDy RcGo RcMeet. -/
import Derived.Test.YtaidedkpfnidpaaGreatDoorPbh
namespace Go.Proofs.YtaidedkpfnidpaaGreatDoor
open Go.RowKit
set_option maxHeartbeats 2000000
set_option maxRecDepth 20000
theorem IG{P:Program}{fn:FuncId}{args:Array Value}{W:World}{m m':Nat}{f:Value→Value→Value}(h:Calls P fn args W fun en W'=>(∃a n c a' n' c',en = .returned (f (.slice a n c) (.slice a' n' c'))∧Mine W' 0 a n c m∧Mine W' 0 a' n' c' m')∧Below W.heap.size W W'):Calls P fn args W fun en W'=>∃q,en = .returned ((cH 0 m m' f).f q)∧Below W.heap.size W W'∧(cH 0 m m' f).g q W':=
 h.mono fun _ _ ⟨⟨a,n,c,a',n',c',h1,h3,h4⟩,h2⟩=>⟨{ iH with A:=a,N:=n,C:=c,A':=a',N':=n',C':=c' },h1,h2,h3,h4⟩
theorem uU(w:World)(E F b md er:Int)(p:Nat)(s:Bool)(a:Option Addr)(n c:Nat)(x:Int)(neg:Bool)(S gb fl o:Int)(q:Bool)(hp:w.heap[p]? = some (.cells #[.int .i64 E,.int .i64 F,.int .u64 b,.int .u8 md,.int .i64 er] 67 (0,0)))(hs:decide (b≥S)=neg)(HB:Hid (∀W:World,Calls Tryz.prog 60 #[.agg #[.int .i64 E,.int .i64 F]] W fun e W'=>e = .returned (.int .u64 S)∧Below W.heap.size W W'))(HD:Hid (∀W:World,Below w.heap.size w W→Calls Tryz.prog 65 #[.agg #[.int .i64 E,.int .i64 F],.agg #[.bool s,.slice a n c,.int .i64 x],.bool neg,.int .u8 md] W fun e W'=>e = .returned (.tuple #[.int .u64 gb,.int .u8 fl,.int .i64 0])∧Below W.heap.size W W'))(ho:bits BinOp.and .u8 fl 2=o)(HQ:Hid ((gb≠b∧q=false)∨(gb=b∧o=0∧q=true)∨(gb=b∧o≠0∧q=false))) :
  Calls Tryz.prog 25 #[.pointer (some ⟨p,0,none⟩),.agg #[.bool s,.slice a n c,.int .i64 x]] w fun en w'=>en = .returned (.bool q)∧Below w.heap.size w w':=by
 refine ax Tryz.func25 rfl (by kernel_rfl) fun T hK=>?_;replace hK:Kn T _ [(0,pT p 0),(1,.agg #[.bool s,.slice a n c,.int .i64 x])]:=hK;have hS:=Fb.other hp;have hG:au [] w:=trivial;refine wq hS hG hK (fun p1=>[.n 3 #[.bool s,.slice a n c,vJ x] 58,.v 4 (.bool false)]) (fun p1=>[(0,pT p 0),(3,pT (p1 0).N 0),(4,.bool false)]) (fun p1=>?_) (fun p1 W1 T hF hJ=>?_)
 ·refine aI ?_;refine af ?_;exact ae
 replace hS:=ag.fc hS hF [0,1000] [⟨p,#[vJ E,vJ F,.int .u64 b,.int .u8 md,vJ er],67,false⟩,⟨(p1 0).N,#[.bool s,.slice a n c,vJ x],58,true⟩];replace hG:=hF.gx;clear hF hK;have hK:=hJ;clear hJ;refine wq hS hG hK (fun p2=>[.v 9 (pT p 0),.v 10 (pT p 0),.v 11 (pT p 2),.l 12 (.int .u64 b) 0 2,.v 13 (pT p 0),.v 14 (pT p 0),.v 15 (pT p 0),.l 16 (.agg #[vJ E,vJ F]) 0 0,.c (some 17) (cV (.int .u64 S)),.v 18 (.bool neg),.v 5 (.bool neg)]) (fun p2=>[(0,pT p 0),(3,pT (p1 0).N 0),(4,.bool false),(5,.bool neg)]) (fun p2=>?_) (fun p2 W2 T hF hJ=>?_)
 ·iterate 3 refine af ?_
  refine aj ?_;iterate 3 refine af ?_
  refine aj ?_;refine av (fun W cx=>aD (aa HB _)) ?_;refine aO (hs) ?_;refine af ?_;exact ae
 replace hS:=ag.fd hS hF;replace hG:=hF.gx;clear hF hK;have hK:=hJ;clear hJ;refine wq hS hG hK (fun p3=>[.v 20 (pT p 0),.v 21 (pT p 0),.v 22 (pT p 0),.l 23 (.agg #[vJ E,vJ F]) 0 0,.l 24 (.agg #[.bool s,.slice a n c,vJ x]) 1 0,.v 25 (.bool neg),.v 26 (pT p 0),.v 27 (pT p 0),.v 28 (pT p 3),.l 29 (.int .u8 md) 0 3,.c (some 30) (cV (.tuple #[.int .u64 gb,.int .u8 fl,vJ 0])),.v 19 (.tuple #[.int .u64 gb,.int .u8 fl,vJ 0]),.v 31 (.int .u64 gb),.v 32 (.int .u8 fl),.v 33 (vJ 0),.v 6 (.int .u64 gb),.v 7 (.int .u8 fl),.v 8 (vJ 0)]) (fun p3=>[(0,pT p 0),(4,.bool false),(6,.int .u64 gb),(7,.int .u8 fl),(8,vJ 0)]) (fun p3=>?_) (fun p3 W3 T hF hJ=>?_)
 ·iterate 3 refine af ?_
  iterate 2 refine aj ?_
  iterate 4 refine af ?_
  refine aj ?_;refine av (fun W cx=>aD (aa HD _ cx.fr)) ?_;iterate 7 refine af ?_
  exact ae
 replace hS:=ag.fd hS hF;replace hG:=hF.gx;clear hF hK;have hK:=hJ;clear hJ;refine wq hS hG hK (fun p4=>[.v 34 (pT p 0),.v 35 (pT p 0),.v 36 (pT p 4),.v 37 (vJ 0),.c (some 38) (cV (.tuple #[]))]) (fun p4=>[(0,pT p 0),(4,.bool false),(6,.int .u64 gb),(7,.int .u8 fl)]) (fun p4=>?_) (fun p4 W4 T hF hJ=>?_)
 ·iterate 4 refine af ?_
  refine av (fun W cx=>aD (iN p 4 er 0 (fun _=>rfl) _ ⟨_,_,cx.B 0 _ rfl (by kernel_rfl) (by kernel_rfl),rfl⟩)) ?_;exact ae
 replace hS:=ag.fd hS hF;replace hG:=hF.gx;clear hF hK;have hK:=hJ;clear hJ;refine wp_seq ?_;refine jq hS hG hK [(4,.bool q)] ?_ (fun T W6 hS9 hG9 hJ=>?_)
 ·rcases aa HQ with ⟨he,rfl⟩|⟨he,ho2,rfl⟩|⟨he,ho2,rfl⟩
  ·refine wg hS hG hK (fun p5=>[.v 39 (.int .u64 gb),.v 40 (pT p 0),.v 41 (pT p 0),.v 42 (pT p 2),.l 43 (.int .u64 b) 0 2,.v 44 (.bool false),.v 45 (.bool false),.k (some 46),.k (some 47),.k (some 48),.v 49 (.bool false),.v 4 (.bool false)]) (fun p5=>[(4,.bool false)]) (fun p5=>?_) (fun p5 W5 T hF hJ=>?_)
   ·iterate 4 refine af ?_
    refine aj ?_;refine aO (beq_false_of_ne he) ?_;refine af ?_;iterate 3 refine eZ ?_
    iterate 2 refine af ?_
    exact ae
   replace hS:=ag.fd hS hF;replace hG:=hF.gx;clear hF hK;have hK:=hJ;clear hJ;have z5:=hS.fr.size;exact bg hS hG (bF (ds:=[]) hK rfl rfl _ (by kernel_rfl) (by kernel_rfl))
  ·refine wg hS hG hK (fun p5=>[.v 39 (.int .u64 gb),.v 40 (pT p 0),.v 41 (pT p 0),.v 42 (pT p 2),.l 43 (.int .u64 b) 0 2,.v 44 (.bool true),.v 45 (.bool true),.v 46 (.int .u8 fl),.v 47 (.int .u8 o),.v 48 (.bool true),.v 49 (.bool true),.v 4 (.bool true)]) (fun p5=>[(4,.bool true)]) (fun p5=>?_) (fun p5 W5 T hF hJ=>?_)
   ·iterate 4 refine af ?_
    refine aj ?_;refine aO (beq_iff_eq.2 he) ?_;iterate 2 refine af ?_
    refine bB (ho) ?_;refine aO (beq_iff_eq.2 ho2) ?_;iterate 2 refine af ?_
    exact ae
   replace hS:=ag.fd hS hF;replace hG:=hF.gx;clear hF hK;have hK:=hJ;clear hJ;have z5:=hS.fr.size;exact bg hS hG (bF (ds:=[]) hK rfl rfl _ (by kernel_rfl) (by kernel_rfl))
  ·refine wg hS hG hK (fun p5=>[.v 39 (.int .u64 gb),.v 40 (pT p 0),.v 41 (pT p 0),.v 42 (pT p 2),.l 43 (.int .u64 b) 0 2,.v 44 (.bool true),.v 45 (.bool true),.v 46 (.int .u8 fl),.v 47 (.int .u8 o),.v 48 (.bool false),.v 49 (.bool false),.v 4 (.bool false)]) (fun p5=>[(4,.bool false)]) (fun p5=>?_) (fun p5 W5 T hF hJ=>?_)
   ·iterate 4 refine af ?_
    refine aj ?_;refine aO (beq_iff_eq.2 he) ?_;iterate 2 refine af ?_
    refine bB (ho) ?_;refine aO (beq_false_of_ne ho2) ?_;iterate 2 refine af ?_
    exact ae
   replace hS:=ag.fd hS hF;replace hG:=hF.gx;clear hF hK;have hK:=hJ;clear hJ;have z5:=hS.fr.size;exact bg hS hG (bF (ds:=[]) hK rfl rfl _ (by kernel_rfl) (by kernel_rfl))
 clear hS hG hK;have hS:=hS9;have hG:=hG9;have hK:=hJ;clear hS9 hG9 hJ;refine aB ?_;refine wp_ret ?_;exact aA hS hK (.bool q) [] [] (by kernel_rfl) (by kernel_rfl) ⟨rfl,hS.fr⟩
theorem Ha(w:World)(E F b md er b2 c0:Int)(p:Nat)(s:Bool)(m:Nat)(x cl:Int)(hT:Tb w)(hp:w.heap[p]? = some (.cells #[.int .i64 E,.int .i64 F,.int .u64 b,.int .u8 md,.int .i64 er] 67 (0,0)))(hk:er=0→c0=0)(hc:cl≠4)(HC:Hid (∀W:World,Calls Tryz.prog 15 #[.agg #[.int .i64 E,.int .i64 F],.int .u64 b2] W fun e W'=>e = .returned (.tuple #[.int .u8 cl,.int .i64 0])∧Below W.heap.size W W'))(HV:Hid (∀W:World,Tb W→Calls Tryz.prog 51 #[.agg #[.int .i64 E,.int .i64 F],.int .u64 b2] W fun e W'=>(∃A N C,e = .returned (.tuple #[.agg #[.bool s,.slice A N C,.int .i64 x],.int .i64 0])∧Mine W' 0 A N C m)∧Below W.heap.size W W')) :
  Calls Tryz.prog 58 #[.pointer (some ⟨p,0,none⟩),.int .u64 b2,.int .i64 c0] w fun en w'=>(∃A N C,en = .returned (.agg #[.bool s,.slice A N C,.int .i64 x])∧Mine w' 0 A N C m)∧Below w.heap.size w w':=by
 refine ax Tryz.func58 rfl (by kernel_rfl) fun T hK=>?_;replace hK:Kn T _ [(0,pT p 0),(1,.int .u64 b2),(2,.int .i64 c0)]:=hK;have hS:=Fb.other hp;have hG:au [] w:=trivial;refine wq hS hG hK (fun p1=>[.n 6 #[.bool false,nJ,vJ 0] 58]) (fun p1=>[(0,pT p 0),(1,.int .u64 b2),(2,vJ c0),(6,pT (p1 0).N 0)]) (fun p1=>?_) (fun p1 W1 T hF hK=>?_)
 ·refine aI ?_;exact ae
 replace hS:=ag.fc hS hF [0,1000] [⟨p,#[vJ E,vJ F,.int .u64 b,.int .u8 md,vJ er],67,false⟩,⟨(p1 0).N,#[.bool false,nJ,vJ 0],58,true⟩];replace hG:=hF.gx;clear hF;refine wq hS hG hK (fun p2=>[.v 10 (pT p 0),.v 11 (pT p 0),.v 12 (pT p 4),.v 13 (vJ c0),.c (some 14) (cV (.tuple #[]))]) (fun p2=>[(0,pT p 0),(1,.int .u64 b2),(2,vJ c0),(6,pT (p1 0).N 0)]) (fun p2=>?_) (fun p2 W2 T hF hK=>?_)
 ·iterate 4 refine af ?_
  refine av (fun W cx=>aD (iN p 4 er c0 hk _ ⟨_,_,cx.B 0 _ rfl (by kernel_rfl) (by kernel_rfl),rfl⟩)) ?_;exact ae
 obtain ⟨hS,hG⟩:=ag.fg hS hF;clear hF;refine wq hS hG hK (fun p3=>[.v 16 (pT p 0),.v 17 (pT p 0),.v 18 (pT p 0),.l 19 (.agg #[vJ E,vJ F]) 0 0,.v 20 (.int .u64 b2),.c (some 21) (cV (.tuple #[.int .u8 cl,vJ 0])),.v 15 (.tuple #[.int .u8 cl,vJ 0]),.v 22 (.int .u8 cl),.v 23 (vJ 0),.v 7 (.int .u8 cl),.v 2 (vJ 0)]) (fun p3=>[(0,pT p 0),(1,.int .u64 b2),(2,vJ 0),(6,pT (p1 0).N 0),(7,.int .u8 cl)]) (fun p3=>?_) (fun p3 W3 T hF hK=>?_)
 ·iterate 3 refine af ?_
  refine aj ?_;refine af ?_;refine av (fun W cx=>aD (aa HC _)) ?_;iterate 5 refine af ?_
  exact ae
 obtain ⟨hS,hG⟩:=ag.fg hS hF;clear hF;refine wq hS hG hK (fun p4=>[.v 24 (pT p 0),.v 25 (pT p 0),.v 26 (pT p 4),.v 27 (vJ 0),.c (some 28) (cV (.tuple #[]))]) (fun p4=>[(0,pT p 0),(1,.int .u64 b2),(2,vJ 0),(6,pT (p1 0).N 0),(7,.int .u8 cl)]) (fun p4=>?_) (fun p4 W4 T hF hK=>?_)
 ·iterate 4 refine af ?_
  refine av (fun W cx=>aD (iN p 4 er 0 (fun _=>rfl) _ ⟨_,_,cx.B 0 _ rfl (by kernel_rfl) (by kernel_rfl),rfl⟩)) ?_;exact ae
 obtain ⟨hS,hG⟩:=ag.fg hS hF;clear hF;refine wp_seq ?_;refine wq hS hG hK (fun p5=>[.v 29 (.int .u8 cl),.v 30 (.bool true)]) (fun p5=>[(0,pT p 0),(1,.int .u64 b2),(2,vJ 0),(6,pT (p1 0).N 0),(30,.bool true)]) (fun p5=>?_) (fun p5 W5 T hF hK=>?_)
 ·refine af ?_;refine aO (bne_iff_ne.2 (show cl≠4 by omega)) ?_;exact ae
 obtain ⟨hS,hG⟩:=ag.fg hS hF;clear hF;refine wp_cond_true (hK.ew 30) ?_;refine wq hS hG hK (fun p6=>[.v 31 (pT p 0),.v 32 (pT p 0),.v 33 (pT p 4),.v 34 (pT p 0),.v 35 (pT p 0),.v 36 (pT p 0),.l 37 (.agg #[vJ E,vJ F]) 0 0,.v 38 (.int .u64 b2),.c (some 39) (iY m fun x9=>.tuple #[.agg #[.bool s,x9,vJ x],vJ 0]),.v 40 (.agg #[.bool s,sJ (p6 8),vJ x]),.v 41 (vJ 0),.u 42 (.agg #[.bool s,sJ (p6 8),vJ x]) (aG 1),.p 1 0 [.bool s,sJ (p6 8),vJ x]]) (fun p6=>[(0,pT p 0),(1,.int .u64 b2),(2,vJ 0),(6,pT (p1 0).N 0)]) (fun p6=>?_) (fun p6 W6 T hF hK=>?_)
 ·iterate 6 refine af ?_
  refine aj ?_;refine af ?_;refine av (fun W cx=>gT (aa HV _ (hT.kept cx.fr))) ?_;iterate 2 refine af ?_
  refine cZ (fun W cx=>dZ p 4 er 0 (fun _=>rfl) _ _ _ _ _ _ ⟨_,_,cx.B 0 _ rfl (by kernel_rfl) (by kernel_rfl),rfl⟩) ?_;refine aF ?_;exact ae
 replace hS:=ag.fc hS hF [0,1] [⟨p,#[vJ E,vJ F,.int .u64 b,.int .u8 md,vJ er],67,false⟩,⟨(p1 0).N,#[.bool s,sJ (p6 8),vJ x],58,true⟩];replace hG:au (gM 0 (p6 8).A (p6 8).N (p6 8).C m::_) W6:=⟨hF.fx 8,hF.gx⟩;clear hF;refine wp_ret ?_;refine bz ?_;exact aA hS hK (.agg #[.bool s,.slice (p6 8).A (p6 8).N (p6 8).C,.int .i64 x]) [(1,0,3)] [.bool s,.slice (p6 8).A (p6 8).N (p6 8).C,.int .i64 x] (by kernel_rfl) (by kernel_rfl) ⟨⟨_,_,_,rfl,Mine.mono (hG.1) (Nat.zero_le _)⟩,hS.fr⟩
theorem GJ(w:World)(E F b md er b2 c0:Int)(p:Nat)(s:Bool)(lo hi S:Int)(hT:Tb w)(hp:w.heap[p]? = some (.cells #[.int .i64 E,.int .i64 F,.int .u64 b,.int .u8 md,.int .i64 er] 67 (0,0)))(hk:er=0→c0=0)(hs:decide (b2≥S)=s)(hh:-100000≤hi∧hi≤100000)(HC:Hid (∀W:World,Calls Tryz.prog 15 #[.agg #[.int .i64 E,.int .i64 F],.int .u64 b2] W fun e W'=>e = .returned (.tuple #[.int .u8 4,.int .i64 0])∧Below W.heap.size W W'))(HG:Hid (∀W:World,Calls Tryz.prog 52 #[.agg #[.int .i64 E,.int .i64 F]] W fun e W'=>e = .returned (.tuple #[.int .i64 lo,.int .i64 hi,.int .i64 0])∧Below W.heap.size W W'))(HB:Hid (∀W:World,Calls Tryz.prog 60 #[.agg #[.int .i64 E,.int .i64 F]] W fun e W'=>e = .returned (.int .u64 S)∧Below W.heap.size W W'))(HK:Hid (zG s (hi+1))) :
  Calls Tryz.prog 58 #[.pointer (some ⟨p,0,none⟩),.int .u64 b2,.int .i64 c0] w fun en w'=>(∃A N C,en = .returned (.agg #[.bool s,.slice A N C,.int .i64 (hi+1)])∧Mine w' 0 A N C 1)∧Below w.heap.size w w':=by
 refine ax Tryz.func58 rfl (by kernel_rfl) fun T hK=>?_;replace hK:Kn T _ [(0,pT p 0),(1,.int .u64 b2),(2,.int .i64 c0)]:=hK;have hS:=Fb.other hp;have hG:au [] w:=trivial;refine wq hS hG hK (fun p1=>[.n 6 #[.bool false,nJ,vJ 0] 58]) (fun p1=>[(0,pT p 0),(1,.int .u64 b2),(2,vJ c0),(6,pT (p1 0).N 0)]) (fun p1=>?_) (fun p1 W1 T hF hK=>?_)
 ·refine aI ?_;exact ae
 replace hS:=ag.fc hS hF [0,1000] [⟨p,#[vJ E,vJ F,.int .u64 b,.int .u8 md,vJ er],67,false⟩,⟨(p1 0).N,#[.bool false,nJ,vJ 0],58,true⟩];replace hG:=hF.gx;clear hF;refine wq hS hG hK (fun p2=>[.v 10 (pT p 0),.v 11 (pT p 0),.v 12 (pT p 4),.v 13 (vJ c0),.c (some 14) (cV (.tuple #[]))]) (fun p2=>[(0,pT p 0),(1,.int .u64 b2),(2,vJ c0),(6,pT (p1 0).N 0)]) (fun p2=>?_) (fun p2 W2 T hF hK=>?_)
 ·iterate 4 refine af ?_
  refine av (fun W cx=>aD (iN p 4 er c0 hk _ ⟨_,_,cx.B 0 _ rfl (by kernel_rfl) (by kernel_rfl),rfl⟩)) ?_;exact ae
 obtain ⟨hS,hG⟩:=ag.fg hS hF;clear hF;refine wq hS hG hK (fun p3=>[.v 16 (pT p 0),.v 17 (pT p 0),.v 18 (pT p 0),.l 19 (.agg #[vJ E,vJ F]) 0 0,.v 20 (.int .u64 b2),.c (some 21) (cV (.tuple #[.int .u8 4,vJ 0])),.v 15 (.tuple #[.int .u8 4,vJ 0]),.v 22 (.int .u8 4),.v 23 (vJ 0),.v 7 (.int .u8 4),.v 2 (vJ 0)]) (fun p3=>[(0,pT p 0),(1,.int .u64 b2),(2,vJ 0),(6,pT (p1 0).N 0),(7,.int .u8 4)]) (fun p3=>?_) (fun p3 W3 T hF hK=>?_)
 ·iterate 3 refine af ?_
  refine aj ?_;refine af ?_;refine av (fun W cx=>aD (aa HC _)) ?_;iterate 5 refine af ?_
  exact ae
 obtain ⟨hS,hG⟩:=ag.fg hS hF;clear hF;refine wq hS hG hK (fun p4=>[.v 24 (pT p 0),.v 25 (pT p 0),.v 26 (pT p 4),.v 27 (vJ 0),.c (some 28) (cV (.tuple #[]))]) (fun p4=>[(0,pT p 0),(1,.int .u64 b2),(2,vJ 0),(6,pT (p1 0).N 0),(7,.int .u8 4)]) (fun p4=>?_) (fun p4 W4 T hF hK=>?_)
 ·iterate 4 refine af ?_
  refine av (fun W cx=>aD (iN p 4 er 0 (fun _=>rfl) _ ⟨_,_,cx.B 0 _ rfl (by kernel_rfl) (by kernel_rfl),rfl⟩)) ?_;exact ae
 obtain ⟨hS,hG⟩:=ag.fg hS hF;clear hF;refine wp_seq ?_;refine wq hS hG hK (fun p5=>[.v 29 (.int .u8 4),.v 30 (.bool false)]) (fun p5=>[(0,pT p 0),(1,.int .u64 b2),(2,vJ 0),(6,pT (p1 0).N 0),(30,.bool false)]) (fun p5=>?_) (fun p5 W5 T hF hK=>?_)
 ·iterate 2 refine af ?_
  exact ae
 obtain ⟨hS,hG⟩:=ag.fg hS hF;clear hF;refine wp_cond_false (hK.ew 30) (wp_skip (aB ?_));refine wq hS hG hK (fun p6=>[.v 44 (pT p 0),.v 45 (pT p 0),.v 46 (pT p 0),.l 47 (.agg #[vJ E,vJ F]) 0 0,.c (some 48) (cV (.tuple #[vJ lo,vJ hi,vJ 0])),.v 43 (.tuple #[vJ lo,vJ hi,vJ 0]),.v 49 (vJ lo),.v 50 (vJ hi),.v 51 (vJ 0),.v 8 (vJ lo),.v 9 (vJ hi),.v 2 (vJ 0)]) (fun p6=>[(0,pT p 0),(1,.int .u64 b2),(2,vJ 0),(6,pT (p1 0).N 0),(9,vJ hi)]) (fun p6=>?_) (fun p6 W6 T hF hK=>?_)
 ·iterate 3 refine af ?_
  refine aj ?_;refine av (fun W cx=>aD (aa HG _)) ?_;iterate 7 refine af ?_
  exact ae
 obtain ⟨hS,hG⟩:=ag.fg hS hF;clear hF;refine wq hS hG hK (fun p7=>[.v 52 (pT p 0),.v 53 (pT p 0),.v 54 (pT p 4),.v 55 (vJ 0),.c (some 56) (cV (.tuple #[]))]) (fun p7=>[(0,pT p 0),(1,.int .u64 b2),(6,pT (p1 0).N 0),(9,vJ hi)]) (fun p7=>?_) (fun p7 W7 T hF hK=>?_)
 ·iterate 4 refine af ?_
  refine av (fun W cx=>aD (iN p 4 er 0 (fun _=>rfl) _ ⟨_,_,cx.B 0 _ rfl (by kernel_rfl) (by kernel_rfl),rfl⟩)) ?_;exact ae
 obtain ⟨hS,hG⟩:=ag.fg hS hF;clear hF;refine wq hS hG hK (fun p8=>[.v 57 (pT p 0),.v 58 (pT p 0),.v 59 (pT p 4),.v 60 (.int .u64 b2),.v 61 (pT p 0),.v 62 (pT p 0),.v 63 (pT p 0),.l 64 (.agg #[vJ E,vJ F]) 0 0,.c (some 65) (cV (.int .u64 S)),.v 66 (.bool s),.c (some 67) (cN W7.heap.size 1),.v 68 (vJ hi),.v 69 (vJ (hi+1)),.c (some 70) (cG W7.heap.size 1 fun x9=>.tuple #[.agg #[.bool s,x9,vJ (hi+1)],vJ 0]),.v 71 (.agg #[.bool s,sJ (p8 13),vJ (hi+1)]),.v 72 (vJ 0),.u 73 (.agg #[.bool s,sJ (p8 13),vJ (hi+1)]) (aG 1),.p 1 0 [.bool s,sJ (p8 13),vJ (hi+1)]]) (fun p8=>[(0,pT p 0),(1,.int .u64 b2),(6,pT (p1 0).N 0)]) (fun p8=>?_) (fun p8 W8 T hF hK=>?_)
 ·iterate 7 refine af ?_
  refine aj ?_;refine av (fun W cx=>aD (aa HB _)) ?_;refine aO (hs) ?_;refine av (fun W cx=>aT cx.hb (pV _)) ?_;refine af ?_;refine bB (dQ (x:=hi+1) (by omega) (by omega)) ?_;refine av (fun W cx=>fQ cx.hb (aa HK _ _ _ _ _ (cx.F 10 (by kernel_rfl)) (hT.kept cx.fr))) ?_;iterate 2 refine af ?_
  refine cZ (fun W cx=>dZ p 4 er 0 (fun _=>rfl) _ _ _ _ _ _ ⟨_,_,cx.B 0 _ rfl (by kernel_rfl) (by kernel_rfl),rfl⟩) ?_;refine aF ?_;exact ae
 replace hS:=ag.fc hS hF [0,1] [⟨p,#[vJ E,vJ F,.int .u64 b,.int .u8 md,vJ er],67,false⟩,⟨(p1 0).N,#[.bool s,sJ (p8 13),vJ (hi+1)],58,true⟩];replace hG:au (gM W7.heap.size (p8 10).A (p8 10).N (p8 10).C 1::gM W7.heap.size (p8 13).A (p8 13).N (p8 13).C 1::_) W8:=⟨hF.fx 10,hF.fx 13,hF.gx⟩;clear hF;refine wp_ret ?_;exact aA hS hK (.agg #[.bool s,.slice (p8 13).A (p8 13).N (p8 13).C,.int .i64 (hi+1)]) [(1,0,3)] [.bool s,.slice (p8 13).A (p8 13).N (p8 13).C,.int .i64 (hi+1)] (by kernel_rfl) (by kernel_rfl) ⟨⟨_,_,_,rfl,Mine.mono (hG.2.1) (Nat.zero_le _)⟩,hS.fr⟩
theorem D8(w:World)(E F b md er:Int)(p:Nat)(s:Bool)(a:Option Addr)(n c m:Nat)(x:Int)(s':Bool)(a':Option Addr)(n' c' m':Nat)(x':Int)(r1:Bool)(v1:Nat)(y1:Int)(r2:Bool)(v2:Nat)(y2:Int)(h1:Num w a n m)(h2:Num w a' n' m')(hT:Tb w)(hp:w.heap[p]? = some (.cells #[.int .i64 E,.int .i64 F,.int .u64 b,.int .u8 md,.int .i64 er] 67 (0,0)))(HK:Hid (zG false (-1)))(HS:Hid (iE s m x s' m' x' 0 r1 v1 y1))(HP:Hid (ky r1 v1 y1 false 1 (-1) 0 r2 v2 y2)) :
  Calls Tryz.prog 102 #[.pointer (some ⟨p,4,none⟩),.agg #[.bool s,.slice a n c,.int .i64 x],.agg #[.bool s',.slice a' n' c',.int .i64 x']] w fun en w'=>(∃A N C,en = .returned (.agg #[.bool r2,.slice A N C,.int .i64 y2])∧Mine w' 0 A N C v2)∧Below w.heap.size w w':=by
 refine ax Tryz.func102 rfl (by kernel_rfl) fun T hK=>?_;replace hK:Kn T _ [(0,pT p 4),(1,.agg #[.bool s,.slice a n c,.int .i64 x]),(2,.agg #[.bool s',.slice a' n' c',.int .i64 x'])]:=hK;have hS:=Fb.other hp;have hG:au [gN a n m,gN a' n' m'] w:=⟨h1,h2,trivial⟩;refine wq hS hG hK (fun p1=>[.n 4 #[.bool s,.slice a n c,vJ x] 58,.n 5 #[.bool s',.slice a' n' c',vJ x'] 58,.n 6 #[.bool false,nJ,vJ 0] 58]) (fun p1=>[(0,pT p 4),(4,pT (p1 0).N 0),(5,pT (p1 1).N 0),(6,pT (p1 2).N 0)]) (fun p1=>?_) (fun p1 W1 T hF hK=>?_)
 ·iterate 3 refine aI ?_
  exact ae
 replace hS:=ag.fc hS hF [0,1000,1001,1002] [⟨p,#[vJ E,vJ F,.int .u64 b,.int .u8 md,vJ er],67,false⟩,⟨(p1 0).N,#[.bool s,.slice a n c,vJ x],58,true⟩,⟨(p1 1).N,#[.bool s',.slice a' n' c',vJ x'],58,true⟩,⟨(p1 2).N,#[.bool false,nJ,vJ 0],58,true⟩];replace hG:=hF.gx;clear hF;refine wq hS hG hK (fun p2=>[.v 8 (pT p 4),.c (some 9) (cN W1.heap.size 1),.c (some 10) (cG W1.heap.size 1 fun x9=>.tuple #[.agg #[.bool false,x9,vJ (-1)],vJ 0]),.v 11 (.agg #[.bool false,sJ (p2 2),vJ (-1)]),.v 12 (vJ 0),.u 13 (.agg #[.bool false,sJ (p2 2),vJ (-1)]) (aG 1),.n 7 #[.bool false,nJ,vJ 0] 58,.p 1006 0 [.bool false,sJ (p2 2),vJ (-1)]]) (fun p2=>[(0,pT p 4),(4,pT (p1 0).N 0),(5,pT (p1 1).N 0),(6,pT (p1 2).N 0),(7,pT (p2 6).N 0)]) (fun p2=>?_) (fun p2 W2 T hF hK=>?_)
 ·refine af ?_;refine av (fun W cx=>aT cx.hb (pV _)) ?_;refine av (fun W cx=>fQ cx.hb (aa HK _ _ _ _ _ (cx.F 1 (by kernel_rfl)) (hT.kept cx.fr))) ?_;iterate 2 refine af ?_
  refine cZ (fun W cx=>dZ p 4 er 0 (fun _=>rfl) _ _ _ _ _ _ ⟨_,_,cx.B 0 _ rfl (by kernel_rfl) (by kernel_rfl),rfl⟩) ?_;refine aI ?_;refine aF ?_;exact ae
 replace hS:=ag.fc hS hF [0,1,2,3,1006] [⟨p,#[vJ E,vJ F,.int .u64 b,.int .u8 md,vJ er],67,false⟩,⟨(p1 0).N,#[.bool s,.slice a n c,vJ x],58,true⟩,⟨(p1 1).N,#[.bool s',.slice a' n' c',vJ x'],58,true⟩,⟨(p1 2).N,#[.bool false,nJ,vJ 0],58,true⟩,⟨(p2 6).N,#[.bool false,sJ (p2 2),vJ (-1)],58,true⟩];replace hG:au (gM W1.heap.size (p2 1).A (p2 1).N (p2 1).C 1::gM W1.heap.size (p2 2).A (p2 2).N (p2 2).C 1::_) W2:=⟨hF.fx 1,hF.fx 2,hF.gx⟩;clear hF;refine wq hS hG hK (fun p3=>[.v 14 (pT p 4),.v 15 (pT p 4),.l 16 (.agg #[.bool s,.slice a n c,vJ x]) 1 0,.l 17 (.agg #[.bool s',.slice a' n' c',vJ x']) 2 0,.c (some 18) (cG W2.heap.size v1 fun x9=>.tuple #[.agg #[.bool r1,x9,vJ y1],vJ 0]),.v 19 (.agg #[.bool r1,sJ (p3 4),vJ y1]),.v 20 (vJ 0),.u 21 (.agg #[.bool r1,sJ (p3 4),vJ y1]) (aG 1),.l 22 (.agg #[.bool false,sJ (p2 2),vJ (-1)]) 4 0,.c (some 23) (cG W2.heap.size v2 fun x9=>.tuple #[.agg #[.bool r2,x9,vJ y2],vJ 0]),.v 24 (.agg #[.bool r2,sJ (p3 9),vJ y2]),.v 25 (vJ 0),.u 26 (.agg #[.bool r2,sJ (p3 9),vJ y2]) (aG 1),.p 3 0 [.bool r2,sJ (p3 9),vJ y2]]) (fun p3=>[(6,pT (p1 2).N 0)]) (fun p3=>?_) (fun p3 W3 T hF hK=>?_)
 ·iterate 2 refine af ?_
  iterate 2 refine aj ?_
  refine av (fun W cx=>fQ cx.hb (aa HS _ _ _ c _ _ c' (cx.G.2.2.1) (cx.G.2.2.2.1) (hT.kept cx.fr))) ?_;iterate 2 refine af ?_
  refine cZ (fun W cx=>dZ p 4 er 0 (fun _=>rfl) _ _ _ _ _ _ ⟨_,_,cx.B 0 _ rfl (by kernel_rfl) (by kernel_rfl),rfl⟩) ?_;refine aj ?_;refine av (fun W cx=>fQ cx.hb (aa HP _ _ _ (p3 4).C _ _ (p2 2).C (Mine.num (cx.F 4 (by kernel_rfl))) (Mine.num cx.G.2.1))) ?_;iterate 2 refine af ?_
  refine cZ (fun W cx=>dZ p 4 er 0 (fun _=>rfl) _ _ _ _ _ _ ⟨_,_,cx.B 0 _ rfl (by kernel_rfl) (by kernel_rfl),rfl⟩) ?_;refine aF ?_;exact ae
 replace hS:=ag.fc hS hF [0,3] [⟨p,#[vJ E,vJ F,.int .u64 b,.int .u8 md,vJ er],67,false⟩,⟨(p1 2).N,#[.bool r2,sJ (p3 9),vJ y2],58,true⟩];replace hG:au (gM W2.heap.size (p3 4).A (p3 4).N (p3 4).C v1::gM W2.heap.size (p3 9).A (p3 9).N (p3 9).C v2::_) W3:=⟨hF.fx 4,hF.fx 9,hF.gx⟩;clear hF;refine wp_ret ?_;exact aA hS hK (.agg #[.bool r2,.slice (p3 9).A (p3 9).N (p3 9).C,.int .i64 y2]) [(1,0,3)] [.bool r2,.slice (p3 9).A (p3 9).N (p3 9).C,.int .i64 y2] (by kernel_rfl) (by kernel_rfl) ⟨⟨_,_,_,rfl,Mine.mono (hG.2.1) (Nat.zero_le _)⟩,hS.fr⟩
theorem Hw(w:World)(E F b md er:Int)(p:Nat)(s:Bool)(a:Option Addr)(n c m:Nat)(x:Int)(s':Bool)(a':Option Addr)(n' c' m':Nat)(x':Int)(r:Bool)(v:Nat)(y:Int)(c0 c1 c4 c3:Bool)(h1:Mine w 0 a n c m)(h2:Mine w 0 a' n' c' m')(hT:Tb w)(hp:w.heap[p]? = some (.cells #[.int .i64 E,.int .i64 F,.int .u64 b,.int .u8 md,.int .i64 er] 67 (0,0)))(e0:(md==0)=c0)(e1:(md==1)=c1)(e4:(md==4)=c4)(e3:(md==3)=c3)(HM:Hid ((c0=true∨c1=true)→∀(W:World) (A:Option Addr) (N C:Nat) (A':Option Addr) (N' C':Nat),Tb W→W.heap[p]? = some (.cells #[.int .i64 E,.int .i64 F,.int .u64 b,.int .u8 md,.int .i64 er] 67 (0,0))→Num W A N m→Num W A' N' m'→Calls Tryz.prog 102 #[.pointer (some ⟨p,4,none⟩),.agg #[.bool s,.slice A N C,.int .i64 x],.agg #[.bool s',.slice A' N' C',.int .i64 x']] W fun e W'=>(∃A N C,e = .returned (.agg #[.bool r,.slice A N C,.int .i64 y])∧Mine W' 0 A N C v)∧Below W.heap.size W W'))(HU:Hid (c4=true→s'=r∧m'=v∧x'=y))(HL:Hid (c3=true→s=r∧m=v∧x=y))(HN:Hid (c0=false→c1=false→c4=false→c3=false→if s then s=r∧m=v∧x=y else s'=r∧m'=v∧x'=y)) :
  Calls Tryz.prog 57 #[.pointer (some ⟨p,0,none⟩),.agg #[.bool s,.slice a n c,.int .i64 x],.agg #[.bool s',.slice a' n' c',.int .i64 x']] w fun en w'=>(∃A N C,en = .returned (.agg #[.bool r,.slice A N C,.int .i64 y])∧Mine w' 0 A N C v)∧Below w.heap.size w w':=by
 refine ax Tryz.func57 rfl (by kernel_rfl) fun T hK=>?_;replace hK:Kn T _ [(0,pT p 0),(1,.agg #[.bool s,.slice a n c,.int .i64 x]),(2,.agg #[.bool s',.slice a' n' c',.int .i64 x'])]:=hK;have hS:=Fb.other hp;have hG:au [gN a n m,gN a' n' m'] w:=⟨h1.num,h2.num,trivial⟩;refine wq hS hG hK (fun p1=>[.n 4 #[.bool s,.slice a n c,vJ x] 58,.n 5 #[.bool s',.slice a' n' c',vJ x'] 58,.n 6 #[.bool false,nJ,vJ 0] 58]) (fun p1=>[(0,pT p 0),(4,pT (p1 0).N 0),(5,pT (p1 1).N 0),(6,pT (p1 2).N 0)]) (fun p1=>?_) (fun p1 W1 T hF hJ=>?_)
 ·iterate 3 refine aI ?_
  exact ae
 replace hS:=ag.fc hS hF [0,1000,1001,1002] [⟨p,#[vJ E,vJ F,.int .u64 b,.int .u8 md,vJ er],67,false⟩,⟨(p1 0).N,#[.bool s,.slice a n c,vJ x],58,true⟩,⟨(p1 1).N,#[.bool s',.slice a' n' c',vJ x'],58,true⟩,⟨(p1 2).N,#[.bool false,nJ,vJ 0],58,true⟩];replace hG:=hF.gx;clear hF hK;have hK:=hJ;clear hJ;refine wp_seq ?_;refine wq hS hG hK (fun p2=>[.v 7 (pT p 0),.v 8 (pT p 0),.v 9 (pT p 3),.l 10 (.int .u8 md) 0 3]) (fun p2=>[(0,pT p 0),(4,pT (p1 0).N 0),(5,pT (p1 1).N 0),(6,pT (p1 2).N 0),(10,.int .u8 md)]) (fun p2=>?_) (fun p2 W2 T hF hJ=>?_)
 ·iterate 3 refine af ?_
  refine aj ?_;exact ae
 replace hS:=ag.fd hS hF;replace hG:=hF.gx;clear hF hK;have hK:=hJ;clear hJ;refine wp_block (wp_seq ?_);refine wq hS hG hK (fun p3=>[.v 12 (.bool c0),.v 11 (.bool c0)]) (fun p3=>[(0,pT p 0),(4,pT (p1 0).N 0),(5,pT (p1 1).N 0),(6,pT (p1 2).N 0),(10,.int .u8 md),(11,.bool c0)]) (fun p3=>?_) (fun p3 W3 T hF hJ=>?_)
 ·refine aO (e0) ?_;refine af ?_;exact ae
 replace hS:=ag.fd hS hF;replace hG:=hF.gx;clear hF hK;have hK:=hJ;clear hJ;cases c0
 ·refine wp_cond_false (hK.ew 11) ?_;refine wg hS hG hK (fun p4=>[.v 13 (.bool c1),.v 11 (.bool c1)]) (fun p4=>[(0,pT p 0),(4,pT (p1 0).N 0),(5,pT (p1 1).N 0),(6,pT (p1 2).N 0),(10,.int .u8 md),(11,.bool c1)]) (fun p4=>?_) (fun p4 W4 T hF hJ=>?_)
  ·refine aO (e1) ?_;refine af ?_;exact ae
  replace hS:=ag.fd hS hF;replace hG:=hF.gx;clear hF hK;have hK:=hJ;clear hJ;have z4:=hS.fr.size;refine aB ?_;cases c1
  ·refine wp_cond_false (hK.ew 11) ?_;refine wq hS hG hK (fun p5=>[.v 21 (.bool c4),.v 20 (.bool c4)]) (fun p5=>[(0,pT p 0),(4,pT (p1 0).N 0),(5,pT (p1 1).N 0),(6,pT (p1 2).N 0),(10,.int .u8 md),(20,.bool c4)]) (fun p5=>?_) (fun p5 W5 T hF hJ=>?_)
   ·refine aO (e4) ?_;refine af ?_;exact ae
   replace hS:=ag.fd hS hF;replace hG:=hF.gx;clear hF hK;have hK:=hJ;clear hJ;have z5:=hS.fr.size;cases c4
   ·refine wp_cond_false (hK.ew 20) ?_;refine wq hS hG hK (fun p6=>[.v 24 (.bool c3),.v 23 (.bool c3)]) (fun p6=>[(0,pT p 0),(4,pT (p1 0).N 0),(5,pT (p1 1).N 0),(6,pT (p1 2).N 0),(23,.bool c3)]) (fun p6=>?_) (fun p6 W6 T hF hJ=>?_)
    ·refine aO (e3) ?_;refine af ?_;exact ae
    replace hS:=ag.fd hS hF;replace hG:=hF.gx;clear hF hK;have hK:=hJ;clear hJ;have z6:=hS.fr.size;cases c3
    ·refine wp_cond_false (hK.ew 23) (wp_skip ?_);refine mG (aB (wp_seq ?_));refine wq hS hG hK (fun p7=>[.v 26 (pT (p1 0).N 0),.l 27 (.bool s) 1 0]) (fun p7=>[(0,pT p 0),(4,pT (p1 0).N 0),(5,pT (p1 1).N 0),(6,pT (p1 2).N 0),(27,.bool s)]) (fun p7=>?_) (fun p7 W7 T hF hJ=>?_)
     ·refine af ?_;refine aj ?_;exact ae
     replace hS:=ag.fd hS hF;replace hG:=hF.gx;clear hF hK;have hK:=hJ;clear hJ;have z7:=hS.fr.size;cases s
     ·refine wp_cond_false (hK.ew 27) (wp_skip (aB ?_));refine wq hS hG hK (fun p8=>[.l 29 (.agg #[.bool s',.slice a' n' c',vJ x']) 2 0,.p 3 0 [.bool s',.slice a' n' c',vJ x']]) (fun p8=>[(0,pT p 0),(4,pT (p1 0).N 0),(5,pT (p1 1).N 0),(6,pT (p1 2).N 0)]) (fun p8=>?_) (fun p8 W8 T hF hJ=>?_)
      ·refine aj ?_;refine aF ?_;exact ae
      replace hS:=ag.fc hS hF [0,1,2,3] [⟨p,#[vJ E,vJ F,.int .u64 b,.int .u8 md,vJ er],67,false⟩,⟨(p1 0).N,#[.bool false,.slice a n c,vJ x],58,true⟩,⟨(p1 1).N,#[.bool s',.slice a' n' c',vJ x'],58,true⟩,⟨(p1 2).N,#[.bool s',.slice a' n' c',vJ x'],58,true⟩];replace hG:=hF.gx;clear hF hK;have hK:=hJ;clear hJ;have z8:=hS.fr.size;obtain ⟨rfl,rfl,rfl⟩:=aa HN rfl rfl rfl rfl;refine wp_ret ?_;exact aA hS hK (.agg #[.bool s',.slice a' n' c',.int .i64 x']) [(3,0,3)] [.bool s',.slice a' n' c',.int .i64 x'] (by kernel_rfl) (by kernel_rfl) ⟨⟨_,_,_,rfl,h2.kept hS.fr⟩,hS.fr⟩
     ·refine wp_cond_true (hK.ew 27) ?_;refine wq hS hG hK (fun p8=>[.l 28 (.agg #[.bool true,.slice a n c,vJ x]) 1 0,.p 3 0 [.bool true,.slice a n c,vJ x]]) (fun p8=>[(0,pT p 0),(4,pT (p1 0).N 0),(5,pT (p1 1).N 0),(6,pT (p1 2).N 0)]) (fun p8=>?_) (fun p8 W8 T hF hJ=>?_)
      ·refine aj ?_;refine aF ?_;exact ae
      replace hS:=ag.fc hS hF [0,1,2,3] [⟨p,#[vJ E,vJ F,.int .u64 b,.int .u8 md,vJ er],67,false⟩,⟨(p1 0).N,#[.bool true,.slice a n c,vJ x],58,true⟩,⟨(p1 1).N,#[.bool s',.slice a' n' c',vJ x'],58,true⟩,⟨(p1 2).N,#[.bool true,.slice a n c,vJ x],58,true⟩];replace hG:=hF.gx;clear hF hK;have hK:=hJ;clear hJ;have z8:=hS.fr.size;obtain ⟨rfl,rfl,rfl⟩:=aa HN rfl rfl rfl rfl;refine wp_ret ?_;refine bz ?_;exact aA hS hK (.agg #[.bool true,.slice a n c,.int .i64 x]) [(3,0,3)] [.bool true,.slice a n c,.int .i64 x] (by kernel_rfl) (by kernel_rfl) ⟨⟨_,_,_,rfl,h1.kept hS.fr⟩,hS.fr⟩
    ·refine wp_cond_true (hK.ew 23) ?_;refine wq hS hG hK (fun p7=>[.l 25 (.agg #[.bool s,.slice a n c,vJ x]) 1 0,.p 3 0 [.bool s,.slice a n c,vJ x]]) (fun p7=>[(0,pT p 0),(4,pT (p1 0).N 0),(5,pT (p1 1).N 0),(6,pT (p1 2).N 0)]) (fun p7=>?_) (fun p7 W7 T hF hJ=>?_)
     ·refine aj ?_;refine aF ?_;exact ae
     replace hS:=ag.fc hS hF [0,1,2,3] [⟨p,#[vJ E,vJ F,.int .u64 b,.int .u8 md,vJ er],67,false⟩,⟨(p1 0).N,#[.bool s,.slice a n c,vJ x],58,true⟩,⟨(p1 1).N,#[.bool s',.slice a' n' c',vJ x'],58,true⟩,⟨(p1 2).N,#[.bool s,.slice a n c,vJ x],58,true⟩];replace hG:=hF.gx;clear hF hK;have hK:=hJ;clear hJ;have z7:=hS.fr.size;obtain ⟨rfl,rfl,rfl⟩:=aa HL rfl;refine wp_ret ?_;refine mD ?_;refine bz ?_;exact aA hS hK (.agg #[.bool s,.slice a n c,.int .i64 x]) [(3,0,3)] [.bool s,.slice a n c,.int .i64 x] (by kernel_rfl) (by kernel_rfl) ⟨⟨_,_,_,rfl,h1.kept hS.fr⟩,hS.fr⟩
   ·refine wp_cond_true (hK.ew 20) ?_;refine wq hS hG hK (fun p6=>[.l 22 (.agg #[.bool s',.slice a' n' c',vJ x']) 2 0,.p 3 0 [.bool s',.slice a' n' c',vJ x']]) (fun p6=>[(0,pT p 0),(4,pT (p1 0).N 0),(5,pT (p1 1).N 0),(6,pT (p1 2).N 0),(10,.int .u8 md)]) (fun p6=>?_) (fun p6 W6 T hF hJ=>?_)
    ·refine aj ?_;refine aF ?_;exact ae
    replace hS:=ag.fc hS hF [0,1,2,3] [⟨p,#[vJ E,vJ F,.int .u64 b,.int .u8 md,vJ er],67,false⟩,⟨(p1 0).N,#[.bool s,.slice a n c,vJ x],58,true⟩,⟨(p1 1).N,#[.bool s',.slice a' n' c',vJ x'],58,true⟩,⟨(p1 2).N,#[.bool s',.slice a' n' c',vJ x'],58,true⟩];replace hG:=hF.gx;clear hF hK;have hK:=hJ;clear hJ;have z6:=hS.fr.size;obtain ⟨rfl,rfl,rfl⟩:=aa HU rfl;refine wp_ret ?_;refine mD ?_;refine bz ?_;exact aA hS hK (.agg #[.bool s',.slice a' n' c',.int .i64 x']) [(3,0,3)] [.bool s',.slice a' n' c',.int .i64 x'] (by kernel_rfl) (by kernel_rfl) ⟨⟨_,_,_,rfl,h2.kept hS.fr⟩,hS.fr⟩
  ·refine wp_cond_true (hK.ew 11) ?_;refine wq hS hG hK (fun p5=>[.v 14 (pT p 0),.v 15 (pT p 0),.v 16 (pT p 4),.l 17 (.agg #[.bool s,.slice a n c,vJ x]) 1 0,.l 18 (.agg #[.bool s',.slice a' n' c',vJ x']) 2 0,.c (some 19) (iY v fun x9=>.agg #[.bool r,x9,vJ y]),.p 3 0 [.bool r,sJ (p5 5),vJ y]]) (fun p5=>[(4,pT (p1 0).N 0),(5,pT (p1 1).N 0),(6,pT (p1 2).N 0),(10,.int .u8 md)]) (fun p5=>?_) (fun p5 W5 T hF hJ=>?_)
   ·iterate 3 refine af ?_
    iterate 2 refine aj ?_
    refine av (fun W cx=>gT (aa HM (Or.inr rfl) _ _ _ c _ _ c' (hT.kept cx.fr) (cx.B 0 _ rfl (by kernel_rfl) (by kernel_rfl)) (cx.G.1) (cx.G.2.1))) ?_;refine aF ?_;exact ae
   replace hS:=ag.fc hS hF [0,1,2,3] [⟨p,#[vJ E,vJ F,.int .u64 b,.int .u8 md,vJ er],67,false⟩,⟨(p1 0).N,#[.bool s,.slice a n c,vJ x],58,true⟩,⟨(p1 1).N,#[.bool s',.slice a' n' c',vJ x'],58,true⟩,⟨(p1 2).N,#[.bool r,sJ (p5 5),vJ y],58,true⟩];replace hG:au (gM 0 (p5 5).A (p5 5).N (p5 5).C v::_) W5:=⟨hF.fx 5,hF.gx⟩;clear hF hK;have hK:=hJ;clear hJ;have z5:=hS.fr.size;refine wp_ret ?_;refine mD ?_;refine bz ?_;exact aA hS hK (.agg #[.bool r,.slice (p5 5).A (p5 5).N (p5 5).C,.int .i64 y]) [(3,0,3)] [.bool r,.slice (p5 5).A (p5 5).N (p5 5).C,.int .i64 y] (by kernel_rfl) (by kernel_rfl) ⟨⟨_,_,_,rfl,Mine.mono (hG.1) (Nat.zero_le _)⟩,hS.fr⟩
 ·refine wp_cond_true (hK.ew 11) (wp_skip ?_);refine aB (wp_cond_true (hK.ew 11) ?_);refine wq hS hG hK (fun p4=>[.v 14 (pT p 0),.v 15 (pT p 0),.v 16 (pT p 4),.l 17 (.agg #[.bool s,.slice a n c,vJ x]) 1 0,.l 18 (.agg #[.bool s',.slice a' n' c',vJ x']) 2 0,.c (some 19) (iY v fun x9=>.agg #[.bool r,x9,vJ y]),.p 3 0 [.bool r,sJ (p4 5),vJ y]]) (fun p4=>[(4,pT (p1 0).N 0),(5,pT (p1 1).N 0),(6,pT (p1 2).N 0),(10,.int .u8 md)]) (fun p4=>?_) (fun p4 W4 T hF hJ=>?_)
  ·iterate 3 refine af ?_
   iterate 2 refine aj ?_
   refine av (fun W cx=>gT (aa HM (Or.inl rfl) _ _ _ c _ _ c' (hT.kept cx.fr) (cx.B 0 _ rfl (by kernel_rfl) (by kernel_rfl)) (cx.G.1) (cx.G.2.1))) ?_;refine aF ?_;exact ae
  replace hS:=ag.fc hS hF [0,1,2,3] [⟨p,#[vJ E,vJ F,.int .u64 b,.int .u8 md,vJ er],67,false⟩,⟨(p1 0).N,#[.bool s,.slice a n c,vJ x],58,true⟩,⟨(p1 1).N,#[.bool s',.slice a' n' c',vJ x'],58,true⟩,⟨(p1 2).N,#[.bool r,sJ (p4 5),vJ y],58,true⟩];replace hG:au (gM 0 (p4 5).A (p4 5).N (p4 5).C v::_) W4:=⟨hF.fx 5,hF.gx⟩;clear hF hK;have hK:=hJ;clear hJ;have z4:=hS.fr.size;refine wp_ret ?_;refine mD ?_;refine bz ?_;exact aA hS hK (.agg #[.bool r,.slice (p4 5).A (p4 5).N (p4 5).C,.int .i64 y]) [(3,0,3)] [.bool r,.slice (p4 5).A (p4 5).N (p4 5).C,.int .i64 y] (by kernel_rfl) (by kernel_rfl) ⟨⟨_,_,_,rfl,Mine.mono (hG.1) (Nat.zero_le _)⟩,hS.fr⟩
theorem oU(w:World)(E F b md S:Int)(p:Nat)(s:Bool)(m:Nat)(x:Int)(b0 bS:Bool)(dn:Int)(sd:Bool)(nd:Nat)(xd:Int)(sl:Bool)(ml:Nat)(xl:Int)(up:Int)(su:Bool)(mu:Nat)(xu:Int)(sh:Bool)(mh:Nat)(xh:Int)(hT:Tb w)(hp:w.heap[p]? = some (.cells #[.int .i64 E,.int .i64 F,.int .u64 b,.int .u8 md,.int .i64 0] 67 (0,0)))(HV:Hid (∀W:World,Tb W→Calls Tryz.prog 51 #[.agg #[.int .i64 E,.int .i64 F],.int .u64 b] W fun e W'=>(∃A N C,e = .returned (.tuple #[.agg #[.bool s,.slice A N C,.int .i64 x],.int .i64 0])∧Mine W' 0 A N C m)∧Below W.heap.size W W'))(HB:Hid (∀W:World,Calls Tryz.prog 60 #[.agg #[.int .i64 E,.int .i64 F]] W fun e W'=>e = .returned (.int .u64 S)∧Below W.heap.size W W'))(hb0:(b != 0)=b0)(hbS:(b != S)=bS)(HDn:Hid (b0=true→∀W:World,Calls Tryz.prog 59 #[.agg #[.int .i64 E,.int .i64 F],.int .u64 b] W fun e W'=>e = .returned (.tuple #[.int .u64 dn,.int .i64 0])∧Below W.heap.size W W'))(HWd:Hid (b0=true→∀W:World,Tb W→W.heap[p]? = some (.cells #[.int .i64 E,.int .i64 F,.int .u64 b,.int .u8 md,.int .i64 0] 67 (0,0))→Calls Tryz.prog 58 #[.pointer (some ⟨p,0,none⟩),.int .u64 dn,.int .i64 0] W fun e W'=>(∃A N C,e = .returned (.agg #[.bool sd,.slice A N C,.int .i64 xd])∧Mine W' 0 A N C nd)∧Below W.heap.size W W'))(HL:Hid (b0=true→∀(W:World) (A:Option Addr) (N C:Nat) (A':Option Addr) (N' C':Nat),Tb W→W.heap[p]? = some (.cells #[.int .i64 E,.int .i64 F,.int .u64 b,.int .u8 md,.int .i64 0] 67 (0,0))→Mine W 0 A N C nd→Mine W 0 A' N' C' m→Calls Tryz.prog 57 #[.pointer (some ⟨p,0,none⟩),.agg #[.bool sd,.slice A N C,.int .i64 xd],.agg #[.bool s,.slice A' N' C',.int .i64 x]] W fun e W'=>(∃A N C,e = .returned (.agg #[.bool sl,.slice A N C,.int .i64 xl])∧Mine W' 0 A N C ml)∧Below W.heap.size W W'))(Hl0:Hid (b0=false→s=sl∧m=ml∧x=xl))(iV:Hid (bS=true→∀W:World,Calls Tryz.prog 14 #[.agg #[.int .i64 E,.int .i64 F],.int .u64 b] W fun e W'=>e = .returned (.tuple #[.int .u64 up,.int .i64 0])∧Below W.heap.size W W'))(HWu:Hid (bS=true→∀W:World,Tb W→W.heap[p]? = some (.cells #[.int .i64 E,.int .i64 F,.int .u64 b,.int .u8 md,.int .i64 0] 67 (0,0))→Calls Tryz.prog 58 #[.pointer (some ⟨p,0,none⟩),.int .u64 up,.int .i64 0] W fun e W'=>(∃A N C,e = .returned (.agg #[.bool su,.slice A N C,.int .i64 xu])∧Mine W' 0 A N C mu)∧Below W.heap.size W W'))(HH:Hid (bS=true→∀(W:World) (A:Option Addr) (N C:Nat) (A':Option Addr) (N' C':Nat),Tb W→W.heap[p]? = some (.cells #[.int .i64 E,.int .i64 F,.int .u64 b,.int .u8 md,.int .i64 0] 67 (0,0))→Mine W 0 A N C m→Mine W 0 A' N' C' mu→Calls Tryz.prog 57 #[.pointer (some ⟨p,0,none⟩),.agg #[.bool s,.slice A N C,.int .i64 x],.agg #[.bool su,.slice A' N' C',.int .i64 xu]] W fun e W'=>(∃A N C,e = .returned (.agg #[.bool sh,.slice A N C,.int .i64 xh])∧Mine W' 0 A N C mh)∧Below W.heap.size W W'))(Hh0:Hid (bS=false→s=sh∧m=mh∧x=xh))(hne:b0=false→bS=true) :
  Calls Tryz.prog 22 #[.pointer (some ⟨p,0,none⟩)] w fun en w'=>(∃A N C A' N' C',en = .returned (.tuple #[.agg #[.bool sl,.slice A N C,.int .i64 xl],.agg #[.bool sh,.slice A' N' C',.int .i64 xh]])∧Mine w' 0 A N C ml∧Mine w' 0 A' N' C' mh)∧Below w.heap.size w w':=by
 refine ax Tryz.func22 rfl (by kernel_rfl) fun T hK=>?_;replace hK:Kn T _ [(0,pT p 0)]:=hK;have hS:=Fb.other hp;have hG:au [] w:=trivial;refine wq hS hG hK (fun p1=>[.n 2 #[.bool false,nJ,vJ 0] 58,.n 3 #[.bool false,nJ,vJ 0] 58]) (fun p1=>[(0,pT p 0),(2,pT (p1 0).N 0),(3,pT (p1 1).N 0)]) (fun p1=>?_) (fun p1 W1 T hF hJ=>?_)
 ·iterate 2 refine aI ?_
  exact ae
 replace hS:=ag.fc hS hF [0,1000,1001] [⟨p,#[vJ E,vJ F,.int .u64 b,.int .u8 md,vJ 0],67,false⟩,⟨(p1 0).N,#[.bool false,nJ,vJ 0],58,true⟩,⟨(p1 1).N,#[.bool false,nJ,vJ 0],58,true⟩];replace hG:=hF.gx;clear hF hK;have hK:=hJ;clear hJ;refine wq hS hG hK (fun p2=>[.v 5 (pT p 0),.v 6 (pT p 0),.v 7 (pT p 4),.v 8 (pT p 0),.v 9 (pT p 0),.v 10 (pT p 0),.l 11 (.agg #[vJ E,vJ F]) 0 0,.v 12 (pT p 0),.v 13 (pT p 0),.v 14 (pT p 2),.l 15 (.int .u64 b) 0 2,.c (some 16) (iY m fun x9=>.tuple #[.agg #[.bool s,x9,vJ x],vJ 0]),.v 17 (.agg #[.bool s,sJ (p2 11),vJ x]),.v 18 (vJ 0),.u 19 (.agg #[.bool s,sJ (p2 11),vJ x]) (aG 1),.n 4 #[.bool false,nJ,vJ 0] 58,.p 1015 0 [.bool s,sJ (p2 11),vJ x]]) (fun p2=>[(0,pT p 0),(2,pT (p1 0).N 0),(3,pT (p1 1).N 0),(4,pT (p2 15).N 0)]) (fun p2=>?_) (fun p2 W2 T hF hJ=>?_)
 ·iterate 6 refine af ?_
  refine aj ?_;iterate 3 refine af ?_
  refine aj ?_;refine av (fun W cx=>gT (aa HV _ (hT.kept cx.fr))) ?_;iterate 2 refine af ?_
  refine cZ (fun W cx=>dZ p 4 0 0 (fun _=>rfl) _ _ _ _ _ _ ⟨_,_,cx.B 0 _ rfl (by kernel_rfl) (by kernel_rfl),rfl⟩) ?_;refine aI ?_;refine aF ?_;exact ae
 replace hS:=ag.fc hS hF [0,1,2,1015] [⟨p,#[vJ E,vJ F,.int .u64 b,.int .u8 md,vJ 0],67,false⟩,⟨(p1 0).N,#[.bool false,nJ,vJ 0],58,true⟩,⟨(p1 1).N,#[.bool false,nJ,vJ 0],58,true⟩,⟨(p2 15).N,#[.bool s,sJ (p2 11),vJ x],58,true⟩];replace hG:au (gM 0 (p2 11).A (p2 11).N (p2 11).C m::_) W2:=⟨hF.fx 11,hF.gx⟩;clear hF hK;have hK:=hJ;clear hJ;refine wq hS hG hK (fun p3=>[.l 20 (.agg #[.bool s,sJ (p2 11),vJ x]) 3 0,.l 21 (.agg #[.bool s,sJ (p2 11),vJ x]) 3 0,.p 1 0 [.bool s,sJ (p2 11),vJ x],.p 2 0 [.bool s,sJ (p2 11),vJ x]]) (fun p3=>[(0,pT p 0),(2,pT (p1 0).N 0),(3,pT (p1 1).N 0),(4,pT (p2 15).N 0)]) (fun p3=>?_) (fun p3 W3 T hF hJ=>?_)
 ·iterate 2 refine aj ?_
  iterate 2 refine aF ?_
  exact ae
 replace hS:=ag.fc hS hF [0,1,2,3] [⟨p,#[vJ E,vJ F,.int .u64 b,.int .u8 md,vJ 0],67,false⟩,⟨(p1 0).N,#[.bool s,sJ (p2 11),vJ x],58,true⟩,⟨(p1 1).N,#[.bool s,sJ (p2 11),vJ x],58,true⟩,⟨(p2 15).N,#[.bool s,sJ (p2 11),vJ x],58,true⟩];replace hG:=hF.gx;clear hF hK;have hK:=hJ;clear hJ;refine wp_seq ?_;refine wq hS hG hK (fun p4=>[.v 22 (pT p 0),.v 23 (pT p 0),.v 24 (pT p 2),.l 25 (.int .u64 b) 0 2,.v 26 (.bool b0)]) (fun p4=>[(0,pT p 0),(2,pT (p1 0).N 0),(3,pT (p1 1).N 0),(4,pT (p2 15).N 0),(26,.bool b0)]) (fun p4=>?_) (fun p4 W4 T hF hJ=>?_)
 ·iterate 3 refine af ?_
  refine aj ?_;refine aO (hb0) ?_;exact ae
 replace hS:=ag.fd hS hF;replace hG:=hF.gx;clear hF hK;have hK:=hJ;clear hJ;cases b0
 ·refine wp_cond_false (hK.ew 26) (wp_skip ?_);refine aB (wp_seq ?_);obtain ⟨rfl,rfl,rfl⟩:=aa Hl0 rfl;refine wq hS hG hK (fun p5=>[.v 43 (pT p 0),.v 44 (pT p 0),.v 45 (pT p 2),.l 46 (.int .u64 b) 0 2,.v 47 (pT p 0),.v 48 (pT p 0),.v 49 (pT p 0),.l 50 (.agg #[vJ E,vJ F]) 0 0,.c (some 51) (cV (.int .u64 S)),.v 52 (.bool bS)]) (fun p5=>[(0,pT p 0),(2,pT (p1 0).N 0),(3,pT (p1 1).N 0),(4,pT (p2 15).N 0),(52,.bool bS)]) (fun p5=>?_) (fun p5 W5 T hF hJ=>?_)
  ·iterate 3 refine af ?_
   refine aj ?_;iterate 3 refine af ?_
   refine aj ?_;refine av (fun W cx=>aD (aa HB _)) ?_;refine aO (hbS) ?_;exact ae
  replace hS:=ag.fd hS hF;replace hG:=hF.gx;clear hF hK;have hK:=hJ;clear hJ;have z5:=hS.fr.size;cases bS
  ·exact absurd (hne rfl) (by decide)
  ·refine wp_cond_true (hK.ew 52) ?_;refine wg hS hG hK (fun p6=>[.v 53 (pT p 0),.l 54 (.agg #[.bool s,sJ (p2 11),vJ x]) 3 0,.v 55 (pT p 0),.v 56 (pT p 0),.v 57 (pT p 0),.v 58 (pT p 0),.l 59 (.agg #[vJ E,vJ F]) 0 0,.v 60 (pT p 0),.v 61 (pT p 0),.v 62 (pT p 2),.l 63 (.int .u64 b) 0 2,.c (some 64) (cV (.tuple #[.int .u64 up,vJ 0])),.v 65 (.int .u64 up),.v 66 (vJ 0),.c (some 67) (iY mu fun x9=>.agg #[.bool su,x9,vJ xu]),.c (some 68) (iY mh fun x9=>.agg #[.bool sh,x9,vJ xh]),.p 2 0 [.bool sh,sJ (p6 15),vJ xh]]) (fun p6=>[(0,pT p 0),(2,pT (p1 0).N 0),(3,pT (p1 1).N 0),(4,pT (p2 15).N 0)]) (fun p6=>?_) (fun p6 W6 T hF hJ=>?_)
   ·refine af ?_;refine aj ?_;iterate 4 refine af ?_
    refine aj ?_;iterate 3 refine af ?_
    refine aj ?_;refine av (fun W cx=>aD (aa iV rfl _)) ?_;iterate 2 refine af ?_
    refine av (fun W cx=>gT (aa HWu rfl _ (hT.kept cx.fr) (cx.B 0 _ rfl (by kernel_rfl) (by kernel_rfl)))) ?_;refine av (fun W cx=>gT (aa HH rfl _ _ _ (p2 11).C _ _ (p6 14).C (hT.kept cx.fr) (cx.B 0 _ rfl (by kernel_rfl) (by kernel_rfl)) (Mine.mono (cx.G.1) (Nat.zero_le _)) (cx.F 14 (by kernel_rfl)))) ?_;refine aF ?_;exact ae
   replace hS:=ag.fc hS hF [0,1,2,3] [⟨p,#[vJ E,vJ F,.int .u64 b,.int .u8 md,vJ 0],67,false⟩,⟨(p1 0).N,#[.bool s,sJ (p2 11),vJ x],58,true⟩,⟨(p1 1).N,#[.bool sh,sJ (p6 15),vJ xh],58,true⟩,⟨(p2 15).N,#[.bool s,sJ (p2 11),vJ x],58,true⟩];replace hG:au (gM 0 (p6 14).A (p6 14).N (p6 14).C mu::gM 0 (p6 15).A (p6 15).N (p6 15).C mh::_) W6:=⟨hF.fx 14,hF.fx 15,hF.gx⟩;clear hF hK;have hK:=hJ;clear hJ;have z6:=hS.fr.size;refine aB ?_;refine wq hS hG hK (fun p7=>[.l 69 (.agg #[.bool s,sJ (p2 11),vJ x]) 1 0,.l 70 (.agg #[.bool sh,sJ (p6 15),vJ xh]) 2 0,.p 1 0 [.bool s,sJ (p2 11),vJ x],.p 2 0 [.bool sh,sJ (p6 15),vJ xh]]) (fun p7=>[(0,pT p 0),(2,pT (p1 0).N 0),(3,pT (p1 1).N 0),(4,pT (p2 15).N 0)]) (fun p7=>?_) (fun p7 W7 T hF hJ=>?_)
   ·iterate 2 refine aj ?_
    iterate 2 refine aF ?_
    exact ae
   replace hS:=ag.fd hS hF;replace hG:=hF.gx;clear hF hK;have hK:=hJ;clear hJ;have z7:=hS.fr.size;refine wp_ret ?_;exact aA hS hK (.tuple #[.agg #[.bool s,.slice (p2 11).A (p2 11).N (p2 11).C,.int .i64 x],.agg #[.bool sh,.slice (p6 15).A (p6 15).N (p6 15).C,.int .i64 xh]]) [(1,0,3),(2,0,3)] [.bool s,.slice (p2 11).A (p2 11).N (p2 11).C,.int .i64 x,.bool sh,.slice (p6 15).A (p6 15).N (p6 15).C,.int .i64 xh] (by kernel_rfl) (by kernel_rfl) ⟨⟨_,_,_,_,_,_,rfl,Mine.mono (hG.2.2.1) (Nat.zero_le _),Mine.mono (hG.2.1) (Nat.zero_le _)⟩,hS.fr⟩
 ·refine wp_cond_true (hK.ew 26) ?_;refine wg hS hG hK (fun p5=>[.v 27 (pT p 0),.v 28 (pT p 0),.v 29 (pT p 0),.v 30 (pT p 0),.v 31 (pT p 0),.l 32 (.agg #[vJ E,vJ F]) 0 0,.v 33 (pT p 0),.v 34 (pT p 0),.v 35 (pT p 2),.l 36 (.int .u64 b) 0 2,.c (some 37) (cV (.tuple #[.int .u64 dn,vJ 0])),.v 38 (.int .u64 dn),.v 39 (vJ 0),.c (some 40) (iY nd fun x9=>.agg #[.bool sd,x9,vJ xd]),.l 41 (.agg #[.bool s,sJ (p2 11),vJ x]) 3 0,.c (some 42) (iY ml fun x9=>.agg #[.bool sl,x9,vJ xl]),.p 1 0 [.bool sl,sJ (p5 15),vJ xl]]) (fun p5=>[(0,pT p 0),(2,pT (p1 0).N 0),(3,pT (p1 1).N 0),(4,pT (p2 15).N 0)]) (fun p5=>?_) (fun p5 W5 T hF hJ=>?_)
  ·iterate 5 refine af ?_
   refine aj ?_;iterate 3 refine af ?_
   refine aj ?_;refine av (fun W cx=>aD (aa HDn rfl _)) ?_;iterate 2 refine af ?_
   refine av (fun W cx=>gT (aa HWd rfl _ (hT.kept cx.fr) (cx.B 0 _ rfl (by kernel_rfl) (by kernel_rfl)))) ?_;refine aj ?_;refine av (fun W cx=>gT (aa HL rfl _ _ _ (p5 13).C _ _ (p2 11).C (hT.kept cx.fr) (cx.B 0 _ rfl (by kernel_rfl) (by kernel_rfl)) (cx.F 13 (by kernel_rfl)) (Mine.mono (cx.G.1) (Nat.zero_le _)))) ?_;refine aF ?_;exact ae
  replace hS:=ag.fc hS hF [0,1,2,3] [⟨p,#[vJ E,vJ F,.int .u64 b,.int .u8 md,vJ 0],67,false⟩,⟨(p1 0).N,#[.bool sl,sJ (p5 15),vJ xl],58,true⟩,⟨(p1 1).N,#[.bool s,sJ (p2 11),vJ x],58,true⟩,⟨(p2 15).N,#[.bool s,sJ (p2 11),vJ x],58,true⟩];replace hG:au (gM 0 (p5 13).A (p5 13).N (p5 13).C nd::gM 0 (p5 15).A (p5 15).N (p5 15).C ml::_) W5:=⟨hF.fx 13,hF.fx 15,hF.gx⟩;clear hF hK;have hK:=hJ;clear hJ;have z5:=hS.fr.size;refine aB (wp_seq ?_);refine wq hS hG hK (fun p6=>[.v 43 (pT p 0),.v 44 (pT p 0),.v 45 (pT p 2),.l 46 (.int .u64 b) 0 2,.v 47 (pT p 0),.v 48 (pT p 0),.v 49 (pT p 0),.l 50 (.agg #[vJ E,vJ F]) 0 0,.c (some 51) (cV (.int .u64 S)),.v 52 (.bool bS)]) (fun p6=>[(0,pT p 0),(2,pT (p1 0).N 0),(3,pT (p1 1).N 0),(4,pT (p2 15).N 0),(52,.bool bS)]) (fun p6=>?_) (fun p6 W6 T hF hJ=>?_)
  ·iterate 3 refine af ?_
   refine aj ?_;iterate 3 refine af ?_
   refine aj ?_;refine av (fun W cx=>aD (aa HB _)) ?_;refine aO (hbS) ?_;exact ae
  replace hS:=ag.fd hS hF;replace hG:=hF.gx;clear hF hK;have hK:=hJ;clear hJ;have z6:=hS.fr.size;cases bS
  ·refine wp_cond_false (hK.ew 52) (wp_skip (aB ?_));obtain ⟨rfl,rfl,rfl⟩:=aa Hh0 rfl;refine wq hS hG hK (fun p7=>[.l 69 (.agg #[.bool sl,sJ (p5 15),vJ xl]) 1 0,.l 70 (.agg #[.bool s,sJ (p2 11),vJ x]) 2 0,.p 1 0 [.bool sl,sJ (p5 15),vJ xl],.p 2 0 [.bool s,sJ (p2 11),vJ x]]) (fun p7=>[(0,pT p 0),(2,pT (p1 0).N 0),(3,pT (p1 1).N 0),(4,pT (p2 15).N 0)]) (fun p7=>?_) (fun p7 W7 T hF hJ=>?_)
   ·iterate 2 refine aj ?_
    iterate 2 refine aF ?_
    exact ae
   replace hS:=ag.fc hS hF [0,1,2,3] [⟨p,#[vJ E,vJ F,.int .u64 b,.int .u8 md,vJ 0],67,false⟩,⟨(p1 0).N,#[.bool sl,sJ (p5 15),vJ xl],58,true⟩,⟨(p1 1).N,#[.bool s,sJ (p2 11),vJ x],58,true⟩,⟨(p2 15).N,#[.bool s,sJ (p2 11),vJ x],58,true⟩];replace hG:=hF.gx;clear hF hK;have hK:=hJ;clear hJ;have z7:=hS.fr.size;refine wp_ret ?_;exact aA hS hK (.tuple #[.agg #[.bool sl,.slice (p5 15).A (p5 15).N (p5 15).C,.int .i64 xl],.agg #[.bool s,.slice (p2 11).A (p2 11).N (p2 11).C,.int .i64 x]]) [(1,0,3),(2,0,3)] [.bool sl,.slice (p5 15).A (p5 15).N (p5 15).C,.int .i64 xl,.bool s,.slice (p2 11).A (p2 11).N (p2 11).C,.int .i64 x] (by kernel_rfl) (by kernel_rfl) ⟨⟨_,_,_,_,_,_,rfl,Mine.mono (hG.2.1) (Nat.zero_le _),Mine.mono (hG.2.2.1) (Nat.zero_le _)⟩,hS.fr⟩
  ·refine wp_cond_true (hK.ew 52) ?_;refine wg hS hG hK (fun p7=>[.v 53 (pT p 0),.l 54 (.agg #[.bool s,sJ (p2 11),vJ x]) 3 0,.v 55 (pT p 0),.v 56 (pT p 0),.v 57 (pT p 0),.v 58 (pT p 0),.l 59 (.agg #[vJ E,vJ F]) 0 0,.v 60 (pT p 0),.v 61 (pT p 0),.v 62 (pT p 2),.l 63 (.int .u64 b) 0 2,.c (some 64) (cV (.tuple #[.int .u64 up,vJ 0])),.v 65 (.int .u64 up),.v 66 (vJ 0),.c (some 67) (iY mu fun x9=>.agg #[.bool su,x9,vJ xu]),.c (some 68) (iY mh fun x9=>.agg #[.bool sh,x9,vJ xh]),.p 2 0 [.bool sh,sJ (p7 15),vJ xh]]) (fun p7=>[(2,pT (p1 0).N 0),(3,pT (p1 1).N 0)]) (fun p7=>?_) (fun p7 W7 T hF hJ=>?_)
   ·refine af ?_;refine aj ?_;iterate 4 refine af ?_
    refine aj ?_;iterate 3 refine af ?_
    refine aj ?_;refine av (fun W cx=>aD (aa iV rfl _)) ?_;iterate 2 refine af ?_
    refine av (fun W cx=>gT (aa HWu rfl _ (hT.kept cx.fr) (cx.B 0 _ rfl (by kernel_rfl) (by kernel_rfl)))) ?_;refine av (fun W cx=>gT (aa HH rfl _ _ _ (p2 11).C _ _ (p7 14).C (hT.kept cx.fr) (cx.B 0 _ rfl (by kernel_rfl) (by kernel_rfl)) (Mine.mono (cx.G.2.2.1) (Nat.zero_le _)) (cx.F 14 (by kernel_rfl)))) ?_;refine aF ?_;exact ae
   replace hS:=ag.fc hS hF [0,1,2] [⟨p,#[vJ E,vJ F,.int .u64 b,.int .u8 md,vJ 0],67,false⟩,⟨(p1 0).N,#[.bool sl,sJ (p5 15),vJ xl],58,true⟩,⟨(p1 1).N,#[.bool sh,sJ (p7 15),vJ xh],58,true⟩];replace hG:au (gM 0 (p7 14).A (p7 14).N (p7 14).C mu::gM 0 (p7 15).A (p7 15).N (p7 15).C mh::_) W7:=⟨hF.fx 14,hF.fx 15,hF.gx⟩;clear hF hK;have hK:=hJ;clear hJ;have z7:=hS.fr.size;refine aB ?_;refine wq hS hG hK (fun p8=>[.l 69 (.agg #[.bool sl,sJ (p5 15),vJ xl]) 1 0,.l 70 (.agg #[.bool sh,sJ (p7 15),vJ xh]) 2 0,.p 1 0 [.bool sl,sJ (p5 15),vJ xl],.p 2 0 [.bool sh,sJ (p7 15),vJ xh]]) (fun p8=>[(2,pT (p1 0).N 0),(3,pT (p1 1).N 0)]) (fun p8=>?_) (fun p8 W8 T hF hJ=>?_)
   ·iterate 2 refine aj ?_
    iterate 2 refine aF ?_
    exact ae
   replace hS:=ag.fd hS hF;replace hG:=hF.gx;clear hF hK;have hK:=hJ;clear hJ;refine wp_ret ?_;exact aA hS hK (.tuple #[.agg #[.bool sl,.slice (p5 15).A (p5 15).N (p5 15).C,.int .i64 xl],.agg #[.bool sh,.slice (p7 15).A (p7 15).N (p7 15).C,.int .i64 xh]]) [(1,0,3),(2,0,3)] [.bool sl,.slice (p5 15).A (p5 15).N (p5 15).C,.int .i64 xl,.bool sh,.slice (p7 15).A (p7 15).N (p7 15).C,.int .i64 xh] (by kernel_rfl) (by kernel_rfl) ⟨⟨_,_,_,_,_,_,rfl,Mine.mono (hG.2.2.2.1) (Nat.zero_le _),Mine.mono (hG.2.1) (Nat.zero_le _)⟩,hS.fr⟩
theorem Gh(w:World)(E F b md S:Int)(p:Nat)(d cd:Int)(sd:Bool)(nd:Nat)(xd:Int)(u cu:Int)(su:Bool)(mu:Nat)(xu:Int)(sl:Bool)(ml:Nat)(xl:Int)(sh:Bool)(mh:Nat)(xh:Int)(hT:Tb w)(hp:w.heap[p]? = some (.cells #[.int .i64 E,.int .i64 F,.int .u64 b,.int .u8 md,.int .i64 0] 67 (0,0)))(HV:Hid (∀W:World,Calls Tryz.prog 51 #[.agg #[.int .i64 E,.int .i64 F],.int .u64 b] W fun e W'=>e = .returned (.tuple #[.agg #[.bool false,.slice none 0 0,.int .i64 0],.int .i64 8])∧Below W.heap.size W W'))(HB:Hid (∀W:World,Calls Tryz.prog 60 #[.agg #[.int .i64 E,.int .i64 F]] W fun e W'=>e = .returned (.int .u64 S)∧Below W.heap.size W W'))(h0:b≠0)(hb:b≠S)(HDn:Hid (∀W:World,Calls Tryz.prog 59 #[.agg #[.int .i64 E,.int .i64 F],.int .u64 b] W fun e W'=>e = .returned (.tuple #[.int .u64 d,.int .i64 cd])∧Below W.heap.size W W'))(HWd:Hid (∀W:World,Tb W→W.heap[p]? = some (.cells #[.int .i64 E,.int .i64 F,.int .u64 b,.int .u8 md,.int .i64 8] 67 (0,0))→Calls Tryz.prog 58 #[.pointer (some ⟨p,0,none⟩),.int .u64 d,.int .i64 cd] W fun e W'=>(∃A N C,e = .returned (.agg #[.bool sd,.slice A N C,.int .i64 xd])∧Mine W' 0 A N C nd)∧Below W.heap.size W W'))(HL:Hid (∀(W:World) (A:Option Addr) (N C:Nat) (A':Option Addr) (N' C':Nat),Tb W→W.heap[p]? = some (.cells #[.int .i64 E,.int .i64 F,.int .u64 b,.int .u8 md,.int .i64 8] 67 (0,0))→Mine W 0 A N C nd→Mine W 0 A' N' C' 0→Calls Tryz.prog 57 #[.pointer (some ⟨p,0,none⟩),.agg #[.bool sd,.slice A N C,.int .i64 xd],.agg #[.bool false,.slice A' N' C',.int .i64 0]] W fun e W'=>(∃A N C,e = .returned (.agg #[.bool sl,.slice A N C,.int .i64 xl])∧Mine W' 0 A N C ml)∧Below W.heap.size W W'))(iV:Hid (∀W:World,Calls Tryz.prog 14 #[.agg #[.int .i64 E,.int .i64 F],.int .u64 b] W fun e W'=>e = .returned (.tuple #[.int .u64 u,.int .i64 cu])∧Below W.heap.size W W'))(HWu:Hid (∀W:World,Tb W→W.heap[p]? = some (.cells #[.int .i64 E,.int .i64 F,.int .u64 b,.int .u8 md,.int .i64 8] 67 (0,0))→Calls Tryz.prog 58 #[.pointer (some ⟨p,0,none⟩),.int .u64 u,.int .i64 cu] W fun e W'=>(∃A N C,e = .returned (.agg #[.bool su,.slice A N C,.int .i64 xu])∧Mine W' 0 A N C mu)∧Below W.heap.size W W'))(HH:Hid (∀(W:World) (A:Option Addr) (N C:Nat) (A':Option Addr) (N' C':Nat),Tb W→W.heap[p]? = some (.cells #[.int .i64 E,.int .i64 F,.int .u64 b,.int .u8 md,.int .i64 8] 67 (0,0))→Mine W 0 A N C 0→Mine W 0 A' N' C' mu→Calls Tryz.prog 57 #[.pointer (some ⟨p,0,none⟩),.agg #[.bool false,.slice A N C,.int .i64 0],.agg #[.bool su,.slice A' N' C',.int .i64 xu]] W fun e W'=>(∃A N C,e = .returned (.agg #[.bool sh,.slice A N C,.int .i64 xh])∧Mine W' 0 A N C mh)∧Below W.heap.size W W')) :
  Calls Tryz.prog 22 #[.pointer (some ⟨p,0,none⟩)] w fun en w'=>(∃A N C A' N' C',en = .returned (.tuple #[.agg #[.bool sl,.slice A N C,.int .i64 xl],.agg #[.bool sh,.slice A' N' C',.int .i64 xh]])∧Mine w' 0 A N C ml∧Mine w' 0 A' N' C' mh)∧bJ p w w'∧w'.heap[p]? = some (.cells #[.int .i64 E,.int .i64 F,.int .u64 b,.int .u8 md,.int .i64 8] 67 (0,0)):=by
 refine ax Tryz.func22 rfl (by kernel_rfl) fun T hK=>?_;replace hK:Kn T _ [(0,pT p 0)]:=hK;have hS:=Fb.rcv hp;have hG:au [] w:=trivial;refine wq hS hG hK (fun p1=>[.n 2 #[.bool false,nJ,vJ 0] 58,.n 3 #[.bool false,nJ,vJ 0] 58]) (fun p1=>[(0,pT p 0),(2,pT (p1 0).N 0),(3,pT (p1 1).N 0)]) (fun p1=>?_) (fun p1 W1 T hF hK=>?_)
 ·iterate 2 refine aI ?_
  exact ae
 replace hS:=ag.fc hS hF [0,1000,1001] [⟨p,#[vJ E,vJ F,.int .u64 b,.int .u8 md,vJ 0],67,true⟩,⟨(p1 0).N,#[.bool false,nJ,vJ 0],58,true⟩,⟨(p1 1).N,#[.bool false,nJ,vJ 0],58,true⟩];replace hG:=hF.gx;clear hF;have z1:=bJ.size hS.fr;refine wq hS hG hK (fun p2=>[.v 5 (pT p 0),.v 6 (pT p 0),.v 7 (pT p 4),.v 8 (pT p 0),.v 9 (pT p 0),.v 10 (pT p 0),.l 11 (.agg #[vJ E,vJ F]) 0 0,.v 12 (pT p 0),.v 13 (pT p 0),.v 14 (pT p 2),.l 15 (.int .u64 b) 0 2,.c (some 16) (cV (.tuple #[.agg #[.bool false,nJ,vJ 0],vJ 8])),.v 17 (.agg #[.bool false,nJ,vJ 0]),.v 18 (vJ 8),.w (some 19) 0 4 [vJ 8] (fun _=>[vJ 8]) (cV (.agg #[.bool false,nJ,vJ 0])),.n 4 #[.bool false,nJ,vJ 0] 58,.p 1015 0 [.bool false,nJ,vJ 0]]) (fun p2=>[(0,pT p 0),(2,pT (p1 0).N 0),(3,pT (p1 1).N 0),(4,pT (p2 15).N 0)]) (fun p2=>?_) (fun p2 W2 T hF hK=>?_)
 ·iterate 6 refine af ?_
  refine aj ?_;iterate 3 refine af ?_
  refine aj ?_;refine av (fun W cx=>aD (aa HV _)) ?_;iterate 2 refine af ?_
  refine Ir p #[.int .i64 E,.int .i64 F,.int .u64 b,.int .u8 md,.int .i64 0] 67 (fun W cx hW=>JI (rJ p 4 8 _ _ _ _ _ _ _ W hW rfl)) (by kernel_rfl) (by kernel_rfl) (by kernel_rfl) (by kernel_rfl) (by kernel_rfl) rfl (by kernel_rfl) ?_;refine aI ?_;refine aF ?_;exact ae
 replace hS:=ag.fc hS hF [0,1,2,1015] [⟨p,#[vJ E,vJ F,.int .u64 b,.int .u8 md,vJ 8],67,true⟩,⟨(p1 0).N,#[.bool false,nJ,vJ 0],58,true⟩,⟨(p1 1).N,#[.bool false,nJ,vJ 0],58,true⟩,⟨(p2 15).N,#[.bool false,nJ,vJ 0],58,true⟩];replace hG:=hF.gx;clear hF;have z2:=bJ.size hS.fr;refine wq hS hG hK (fun p3=>[.l 20 (.agg #[.bool false,nJ,vJ 0]) 3 0,.l 21 (.agg #[.bool false,nJ,vJ 0]) 3 0,.p 1 0 [.bool false,nJ,vJ 0],.p 2 0 [.bool false,nJ,vJ 0]]) (fun p3=>[(0,pT p 0),(2,pT (p1 0).N 0),(3,pT (p1 1).N 0),(4,pT (p2 15).N 0)]) (fun p3=>?_) (fun p3 W3 T hF hK=>?_)
 ·iterate 2 refine aj ?_
  iterate 2 refine aF ?_
  exact ae
 obtain ⟨hS,hG⟩:=ag.fg hS hF;clear hF;have z3:=bJ.size hS.fr;refine wp_seq ?_;refine wq hS hG hK (fun p4=>[.v 22 (pT p 0),.v 23 (pT p 0),.v 24 (pT p 2),.l 25 (.int .u64 b) 0 2,.v 26 (.bool true)]) (fun p4=>[(0,pT p 0),(2,pT (p1 0).N 0),(3,pT (p1 1).N 0),(4,pT (p2 15).N 0),(26,.bool true)]) (fun p4=>?_) (fun p4 W4 T hF hK=>?_)
 ·iterate 3 refine af ?_
  refine aj ?_;refine aO (bne_iff_ne.2 (show b≠0 by omega)) ?_;exact ae
 obtain ⟨hS,hG⟩:=ag.fg hS hF;clear hF;have z4:=bJ.size hS.fr;refine wp_cond_true (hK.ew 26) ?_;refine wg hS hG hK (fun p5=>[.v 27 (pT p 0),.v 28 (pT p 0),.v 29 (pT p 0),.v 30 (pT p 0),.v 31 (pT p 0),.l 32 (.agg #[vJ E,vJ F]) 0 0,.v 33 (pT p 0),.v 34 (pT p 0),.v 35 (pT p 2),.l 36 (.int .u64 b) 0 2,.c (some 37) (cV (.tuple #[.int .u64 d,vJ cd])),.v 38 (.int .u64 d),.v 39 (vJ cd),.c (some 40) (iY nd fun x9=>.agg #[.bool sd,x9,vJ xd]),.l 41 (.agg #[.bool false,nJ,vJ 0]) 3 0,.c (some 42) (iY ml fun x9=>.agg #[.bool sl,x9,vJ xl]),.p 1 0 [.bool sl,sJ (p5 15),vJ xl]]) (fun p5=>[(0,pT p 0),(2,pT (p1 0).N 0),(3,pT (p1 1).N 0),(4,pT (p2 15).N 0)]) (fun p5=>?_) (fun p5 W5 T hF hK=>?_)
 ·iterate 5 refine af ?_
  refine aj ?_;iterate 3 refine af ?_
  refine aj ?_;refine av (fun W cx=>aD (aa HDn _)) ?_;iterate 2 refine af ?_
  refine av (fun W cx=>gT (aa HWd _ (oI hT hp cx.fr) (cx.B 0 _ rfl (by kernel_rfl) (by kernel_rfl)))) ?_;refine aj ?_;refine av (fun W cx=>gT (aa HL _ _ _ (p5 13).C _ _ 0 (oI hT hp cx.fr) (cx.B 0 _ rfl (by kernel_rfl) (by kernel_rfl)) (cx.F 13 (by kernel_rfl)) (gq _ _))) ?_;refine aF ?_;exact ae
 replace hS:=ag.fc hS hF [0,1,2,3] [⟨p,#[vJ E,vJ F,.int .u64 b,.int .u8 md,vJ 8],67,true⟩,⟨(p1 0).N,#[.bool sl,sJ (p5 15),vJ xl],58,true⟩,⟨(p1 1).N,#[.bool false,nJ,vJ 0],58,true⟩,⟨(p2 15).N,#[.bool false,nJ,vJ 0],58,true⟩];replace hG:au (gM 0 (p5 13).A (p5 13).N (p5 13).C nd::gM 0 (p5 15).A (p5 15).N (p5 15).C ml::_) W5:=⟨hF.fx 13,hF.fx 15,hF.gx⟩;clear hF;have z5:=bJ.size hS.fr;refine aB (wp_seq ?_);refine wq hS hG hK (fun p6=>[.v 43 (pT p 0),.v 44 (pT p 0),.v 45 (pT p 2),.l 46 (.int .u64 b) 0 2,.v 47 (pT p 0),.v 48 (pT p 0),.v 49 (pT p 0),.l 50 (.agg #[vJ E,vJ F]) 0 0,.c (some 51) (cV (.int .u64 S)),.v 52 (.bool true)]) (fun p6=>[(0,pT p 0),(2,pT (p1 0).N 0),(3,pT (p1 1).N 0),(4,pT (p2 15).N 0),(52,.bool true)]) (fun p6=>?_) (fun p6 W6 T hF hK=>?_)
 ·iterate 3 refine af ?_
  refine aj ?_;iterate 3 refine af ?_
  refine aj ?_;refine av (fun W cx=>aD (aa HB _)) ?_;refine aO (bne_iff_ne.2 (show b≠S by omega)) ?_;exact ae
 obtain ⟨hS,hG⟩:=ag.fg hS hF;clear hF;have z6:=bJ.size hS.fr;refine wp_cond_true (hK.ew 52) ?_;refine wg hS hG hK (fun p7=>[.v 53 (pT p 0),.l 54 (.agg #[.bool false,nJ,vJ 0]) 3 0,.v 55 (pT p 0),.v 56 (pT p 0),.v 57 (pT p 0),.v 58 (pT p 0),.l 59 (.agg #[vJ E,vJ F]) 0 0,.v 60 (pT p 0),.v 61 (pT p 0),.v 62 (pT p 2),.l 63 (.int .u64 b) 0 2,.c (some 64) (cV (.tuple #[.int .u64 u,vJ cu])),.v 65 (.int .u64 u),.v 66 (vJ cu),.c (some 67) (iY mu fun x9=>.agg #[.bool su,x9,vJ xu]),.c (some 68) (iY mh fun x9=>.agg #[.bool sh,x9,vJ xh]),.p 2 0 [.bool sh,sJ (p7 15),vJ xh]]) (fun p7=>[(2,pT (p1 0).N 0),(3,pT (p1 1).N 0)]) (fun p7=>?_) (fun p7 W7 T hF hK=>?_)
 ·refine af ?_;refine aj ?_;iterate 4 refine af ?_
  refine aj ?_;iterate 3 refine af ?_
  refine aj ?_;refine av (fun W cx=>aD (aa iV _)) ?_;iterate 2 refine af ?_
  refine av (fun W cx=>gT (aa HWu _ (oI hT hp cx.fr) (cx.B 0 _ rfl (by kernel_rfl) (by kernel_rfl)))) ?_;refine av (fun W cx=>gT (aa HH _ _ _ 0 _ _ (p7 14).C (oI hT hp cx.fr) (cx.B 0 _ rfl (by kernel_rfl) (by kernel_rfl)) (gq _ _) (cx.F 14 (by kernel_rfl)))) ?_;refine aF ?_;exact ae
 replace hS:=ag.fc hS hF [0,1,2] [⟨p,#[vJ E,vJ F,.int .u64 b,.int .u8 md,vJ 8],67,true⟩,⟨(p1 0).N,#[.bool sl,sJ (p5 15),vJ xl],58,true⟩,⟨(p1 1).N,#[.bool sh,sJ (p7 15),vJ xh],58,true⟩];replace hG:au (gM 0 (p7 14).A (p7 14).N (p7 14).C mu::gM 0 (p7 15).A (p7 15).N (p7 15).C mh::_) W7:=⟨hF.fx 14,hF.fx 15,hF.gx⟩;clear hF;have z7:=bJ.size hS.fr;refine aB ?_;refine wq hS hG hK (fun p8=>[.l 69 (.agg #[.bool sl,sJ (p5 15),vJ xl]) 1 0,.l 70 (.agg #[.bool sh,sJ (p7 15),vJ xh]) 2 0,.p 1 0 [.bool sl,sJ (p5 15),vJ xl],.p 2 0 [.bool sh,sJ (p7 15),vJ xh]]) (fun p8=>[(2,pT (p1 0).N 0),(3,pT (p1 1).N 0)]) (fun p8=>?_) (fun p8 W8 T hF hK=>?_)
 ·iterate 2 refine aj ?_
  iterate 2 refine aF ?_
  exact ae
 obtain ⟨hS,hG⟩:=ag.fg hS hF;clear hF;have z8:=bJ.size hS.fr;refine wp_ret ?_;exact aA hS hK (.tuple #[.agg #[.bool sl,.slice (p5 15).A (p5 15).N (p5 15).C,.int .i64 xl],.agg #[.bool sh,.slice (p7 15).A (p7 15).N (p7 15).C,.int .i64 xh]]) [(1,0,3),(2,0,3)] [.bool sl,.slice (p5 15).A (p5 15).N (p5 15).C,.int .i64 xl,.bool sh,.slice (p7 15).A (p7 15).N (p7 15).C,.int .i64 xh] (by kernel_rfl) (by kernel_rfl) ⟨⟨_,_,_,_,_,_,rfl,Mine.mono (hG.2.2.2.1) (Nat.zero_le _),Mine.mono (hG.2.1) (Nat.zero_le _)⟩,hS.fr,hS.bx _ (List.mem_cons_self ..)⟩
theorem zH(w:World)(E F b md err:Int)(he:err≠0)(H0:Hid (∀(W:World) (q:Nat),W.heap[q]? = some (.cells #[.int .u64 b] 24 (0,0))→Calls Tryz.prog 20 #[.agg #[.int .i64 E,.int .i64 F],.slice (some ⟨q,0,none⟩) 1 1] W fun e W'=>e = .returned (.int .i64 err)∧Below W.heap.size W W')) :
  Calls Tryz.prog 6 #[.agg #[.int .i64 E,.int .i64 F],.int .u64 b,.int .u8 md] w fun en w'=>en = .returned (.tuple #[.agg #[.bool false,.slice none 0 0,.slice none 0 0],.agg #[.bool false,.slice none 0 0,.slice none 0 0],.bool false,.bool false,.int .i64 err])∧Below w.heap.size w w':=by
 refine ax Tryz.func6 rfl (by kernel_rfl) fun T hK=>?_;replace hK:Kn T _ [(0,.agg #[.int .i64 E,.int .i64 F]),(1,.int .u64 b),(2,.int .u8 md)]:=hK;have hS:=Fb.begin w;have hG:au [] w:=trivial;refine wq hS hG hK (fun p1=>[.n 3 #[vJ E,vJ F] 23,.n 6 #[.bool false,nJ,nJ] 29,.n 7 #[.bool false,nJ,nJ] 29,.v 8 (.bool false),.v 9 (.bool false),.v 10 (vJ 0)]) (fun p1=>[(1,.int .u64 b),(2,.int .u8 md),(3,pT (p1 0).N 0),(6,pT (p1 1).N 0),(7,pT (p1 2).N 0),(8,.bool false),(9,.bool false),(10,vJ 0)]) (fun p1=>?_) (fun p1 W1 T hF hK=>?_)
 ·iterate 3 refine aI ?_
  iterate 3 refine af ?_
  exact ae
 replace hS:=ag.fc hS hF [1000,1001,1002] [⟨(p1 0).N,#[vJ E,vJ F],23,true⟩,⟨(p1 1).N,#[.bool false,nJ,nJ],29,true⟩,⟨(p1 2).N,#[.bool false,nJ,nJ],29,true⟩];replace hG:=hF.gx;clear hF;refine wp_seq ?_;refine wq hS hG hK (fun p2=>[.l 17 (.agg #[vJ E,vJ F]) 0 0,.v 18 (.int .u64 b),.n 19 #[.int .u64 b] (1000000+24),.c (some 20) (cV (vJ err)),.v 11 (vJ err)]) (fun p2=>[(1,.int .u64 b),(2,.int .u8 md),(3,pT (p1 0).N 0),(6,pT (p1 1).N 0),(7,pT (p1 2).N 0),(8,.bool false),(9,.bool false),(10,vJ 0),(11,vJ err)]) (fun p2=>?_) (fun p2 W2 T hF hK=>?_)
 ·refine aj ?_;refine af ?_;refine aI ?_;refine av (fun W cx=>aD (aa H0 _ _ (cx.F 2 (by kernel_rfl) (by kernel_rfl)))) ?_;refine af ?_;exact ae
 obtain ⟨hS,hG⟩:=ag.fg hS hF;clear hF;refine wq hS hG hK (fun p3=>[.v 21 (vJ err),.v 22 (.bool true)]) (fun p3=>[(1,.int .u64 b),(2,.int .u8 md),(3,pT (p1 0).N 0),(6,pT (p1 1).N 0),(7,pT (p1 2).N 0),(8,.bool false),(9,.bool false),(10,vJ 0),(11,vJ err),(22,.bool true)]) (fun p3=>?_) (fun p3 W3 T hF hK=>?_)
 ·refine af ?_;refine aO (bne_iff_ne.2 (show err≠0 by omega)) ?_;exact ae
 obtain ⟨hS,hG⟩:=ag.fg hS hF;clear hF;refine wp_cond_true (hK.ew 22) ?_;refine wq hS hG hK (fun p4=>[.v 23 (.agg #[.bool false,nJ,nJ]),.v 24 (.agg #[.bool false,nJ,nJ]),.v 25 (vJ err),.p 1 0 [.bool false,nJ,nJ],.p 2 0 [.bool false,nJ,nJ],.v 8 (.bool false),.v 9 (.bool false),.v 10 (vJ err)]) (fun p4=>[(1,.int .u64 b),(2,.int .u8 md),(3,pT (p1 0).N 0),(6,pT (p1 1).N 0),(7,pT (p1 2).N 0),(8,.bool false),(9,.bool false),(10,vJ err)]) (fun p4=>?_) (fun p4 W4 T hF hK=>?_)
 ·iterate 3 refine af ?_
  iterate 2 refine aF ?_
  iterate 3 refine af ?_
  exact ae
 obtain ⟨hS,hG⟩:=ag.fg hS hF;clear hF;refine wp_ret ?_;refine bz ?_;exact aA hS hK (.tuple #[.agg #[.bool false,.slice none 0 0,.slice none 0 0],.agg #[.bool false,.slice none 0 0,.slice none 0 0],.bool false,.bool false,.int .i64 err]) [(1,0,3),(2,0,3)] [.bool false,.slice none 0 0,.slice none 0 0,.bool false,.slice none 0 0,.slice none 0 0] (by kernel_rfl) (by kernel_rfl) ⟨rfl,hS.fr⟩
theorem Fp(w:World)(E F b md err:Int)(str:ByteArray)(he:err≠0)(hN:dH w)(H0:Hid (∀(W:World) (q:Nat),W.heap[q]? = some (.cells #[.int .u64 b] 24 (0,0))→Calls Tryz.prog 20 #[.agg #[.int .i64 E,.int .i64 F],.slice (some ⟨q,0,none⟩) 1 1] W fun e W'=>e = .returned (.int .i64 0)∧Below W.heap.size W W'))(HN:Hid (∀W:World,dH W→Calls Tryz.prog 21 #[.int .u8 md] W fun e W'=>e = .returned (.tuple #[.string str,.int .i64 err])∧Below W.heap.size W W')) :
  Calls Tryz.prog 6 #[.agg #[.int .i64 E,.int .i64 F],.int .u64 b,.int .u8 md] w fun en w'=>en = .returned (.tuple #[.agg #[.bool false,.slice none 0 0,.slice none 0 0],.agg #[.bool false,.slice none 0 0,.slice none 0 0],.bool false,.bool false,.int .i64 err])∧Below w.heap.size w w':=by
 refine ax Tryz.func6 rfl (by kernel_rfl) fun T hK=>?_;replace hK:Kn T _ [(0,.agg #[.int .i64 E,.int .i64 F]),(1,.int .u64 b),(2,.int .u8 md)]:=hK;have hS:=Fb.begin w;have hG:au [] w:=trivial;refine wq hS hG hK (fun p1=>[.n 3 #[vJ E,vJ F] 23,.n 6 #[.bool false,nJ,nJ] 29,.n 7 #[.bool false,nJ,nJ] 29,.v 8 (.bool false),.v 9 (.bool false),.v 10 (vJ 0)]) (fun p1=>[(1,.int .u64 b),(2,.int .u8 md),(3,pT (p1 0).N 0),(6,pT (p1 1).N 0),(7,pT (p1 2).N 0),(8,.bool false),(9,.bool false),(10,vJ 0)]) (fun p1=>?_) (fun p1 W1 T hF hK=>?_)
 ·iterate 3 refine aI ?_
  iterate 3 refine af ?_
  exact ae
 replace hS:=ag.fc hS hF [1000,1001,1002] [⟨(p1 0).N,#[vJ E,vJ F],23,true⟩,⟨(p1 1).N,#[.bool false,nJ,nJ],29,true⟩,⟨(p1 2).N,#[.bool false,nJ,nJ],29,true⟩];replace hG:=hF.gx;clear hF;refine wp_seq ?_;refine wq hS hG hK (fun p2=>[.l 17 (.agg #[vJ E,vJ F]) 0 0,.v 18 (.int .u64 b),.n 19 #[.int .u64 b] (1000000+24),.c (some 20) (cV (vJ 0)),.v 11 (vJ 0)]) (fun p2=>[(1,.int .u64 b),(2,.int .u8 md),(3,pT (p1 0).N 0),(6,pT (p1 1).N 0),(7,pT (p1 2).N 0),(8,.bool false),(9,.bool false),(10,vJ 0),(11,vJ 0)]) (fun p2=>?_) (fun p2 W2 T hF hK=>?_)
 ·refine aj ?_;refine af ?_;refine aI ?_;refine av (fun W cx=>aD (aa H0 _ _ (cx.F 2 (by kernel_rfl) (by kernel_rfl)))) ?_;refine af ?_;exact ae
 obtain ⟨hS,hG⟩:=ag.fg hS hF;clear hF;refine wq hS hG hK (fun p3=>[.v 21 (vJ 0),.v 22 (.bool false)]) (fun p3=>[(1,.int .u64 b),(2,.int .u8 md),(3,pT (p1 0).N 0),(6,pT (p1 1).N 0),(7,pT (p1 2).N 0),(8,.bool false),(9,.bool false),(10,vJ 0),(11,vJ 0),(22,.bool false)]) (fun p3=>?_) (fun p3 W3 T hF hK=>?_)
 ·iterate 2 refine af ?_
  exact ae
 obtain ⟨hS,hG⟩:=ag.fg hS hF;clear hF;refine wp_cond_false (hK.ew 22) (wp_skip ?_);refine aB (wp_seq ?_);refine wq hS hG hK (fun p4=>[.v 27 (.int .u8 md),.c (some 28) (cV (.tuple #[.string str,vJ err])),.v 26 (.tuple #[.string str,vJ err]),.v 29 (.string str),.v 30 (vJ err),.v 12 (.string str),.v 13 (vJ err)]) (fun p4=>[(1,.int .u64 b),(2,.int .u8 md),(3,pT (p1 0).N 0),(6,pT (p1 1).N 0),(7,pT (p1 2).N 0),(8,.bool false),(9,.bool false),(10,vJ 0),(11,vJ 0),(13,vJ err)]) (fun p4=>?_) (fun p4 W4 T hF hK=>?_)
 ·refine af ?_;refine av (fun W cx=>aD (aa HN _ (hN.kept cx.fr))) ?_;iterate 5 refine af ?_
  exact ae
 obtain ⟨hS,hG⟩:=ag.fg hS hF;clear hF;refine wq hS hG hK (fun p5=>[.v 31 (vJ err),.v 32 (.bool true)]) (fun p5=>[(1,.int .u64 b),(2,.int .u8 md),(3,pT (p1 0).N 0),(6,pT (p1 1).N 0),(7,pT (p1 2).N 0),(8,.bool false),(9,.bool false),(10,vJ 0),(11,vJ 0),(13,vJ err),(32,.bool true)]) (fun p5=>?_) (fun p5 W5 T hF hK=>?_)
 ·refine af ?_;refine aO (bne_iff_ne.2 (show err≠0 by omega)) ?_;exact ae
 obtain ⟨hS,hG⟩:=ag.fg hS hF;clear hF;refine wp_cond_true (hK.ew 32) ?_;refine wq hS hG hK (fun p6=>[.v 33 (.agg #[.bool false,nJ,nJ]),.v 34 (.agg #[.bool false,nJ,nJ]),.v 35 (vJ err),.p 1 0 [.bool false,nJ,nJ],.p 2 0 [.bool false,nJ,nJ],.v 8 (.bool false),.v 9 (.bool false),.v 10 (vJ err)]) (fun p6=>[(1,.int .u64 b),(2,.int .u8 md),(3,pT (p1 0).N 0),(6,pT (p1 1).N 0),(7,pT (p1 2).N 0),(8,.bool false),(9,.bool false),(10,vJ err),(11,vJ 0)]) (fun p6=>?_) (fun p6 W6 T hF hK=>?_)
 ·iterate 3 refine af ?_
  iterate 2 refine aF ?_
  iterate 3 refine af ?_
  exact ae
 obtain ⟨hS,hG⟩:=ag.fg hS hF;clear hF;refine wp_ret ?_;refine bz ?_;exact aA hS hK (.tuple #[.agg #[.bool false,.slice none 0 0,.slice none 0 0],.agg #[.bool false,.slice none 0 0,.slice none 0 0],.bool false,.bool false,.int .i64 err]) [(1,0,3),(2,0,3)] [.bool false,.slice none 0 0,.slice none 0 0,.bool false,.slice none 0 0,.slice none 0 0] (by kernel_rfl) (by kernel_rfl) ⟨rfl,hS.fr⟩
theorem ER(w:World)(E F b md:Int)(str:ByteArray)(sl:Bool)(ml:Nat)(xl:Int)(sh:Bool)(mh:Nat)(xh:Int)(nl dl nh dh:Nat)(li hi:Bool)(hT:Tb w)(hN:dH w)(H0:Hid (∀(W:World) (q:Nat),W.heap[q]? = some (.cells #[.int .u64 b] 24 (0,0))→Calls Tryz.prog 20 #[.agg #[.int .i64 E,.int .i64 F],.slice (some ⟨q,0,none⟩) 1 1] W fun e W'=>e = .returned (.int .i64 0)∧Below W.heap.size W W'))(HN:Hid (∀W:World,dH W→Calls Tryz.prog 21 #[.int .u8 md] W fun e W'=>e = .returned (.tuple #[.string str,.int .i64 0])∧Below W.heap.size W W'))(HE:Hid (∀(W:World) (p:Nat),Tb W→W.heap[p]? = some (.cells #[.int .i64 E,.int .i64 F,.int .u64 b,.int .u8 md,.int .i64 0] 67 (0,0))→Calls Tryz.prog 22 #[.pointer (some ⟨p,0,none⟩)] W fun e W'=>(∃A N C A' N' C',e = .returned (.tuple #[.agg #[.bool sl,.slice A N C,.int .i64 xl],.agg #[.bool sh,.slice A' N' C',.int .i64 xh]])∧Mine W' 0 A N C ml∧Mine W' 0 A' N' C' mh)∧Below W.heap.size W W'))(HRl:Hid (∀(W:World) (A:Option Addr) (N C:Nat),Num W A N ml→Calls Tryz.prog 24 #[.agg #[.bool sl,.slice A N C,.int .i64 xl]] W fun e W'=>(∃A N C A' N' C',e = .returned (.tuple #[.agg #[.bool sl,.slice A N C,.slice A' N' C'],.int .i64 0])∧Mine W' W.heap.size A N C nl∧Mine W' W.heap.size A' N' C' dl)∧Below W.heap.size W W'))(HRh:Hid (∀(W:World) (A:Option Addr) (N C:Nat),Num W A N mh→Calls Tryz.prog 24 #[.agg #[.bool sh,.slice A N C,.int .i64 xh]] W fun e W'=>(∃A N C A' N' C',e = .returned (.tuple #[.agg #[.bool sh,.slice A N C,.slice A' N' C'],.int .i64 0])∧Mine W' W.heap.size A N C nh∧Mine W' W.heap.size A' N' C' dh)∧Below W.heap.size W W'))(HHl:Hid (∀(W:World) (p:Nat) (A:Option Addr) (N C:Nat),W.heap[p]? = some (.cells #[.int .i64 E,.int .i64 F,.int .u64 b,.int .u8 md,.int .i64 0] 67 (0,0))→Mine W 0 A N C ml→Calls Tryz.prog 25 #[.pointer (some ⟨p,0,none⟩),.agg #[.bool sl,.slice A N C,.int .i64 xl]] W fun e W'=>e = .returned (.bool li)∧Below W.heap.size W W'))(HHh:Hid (∀(W:World) (p:Nat) (A:Option Addr) (N C:Nat),W.heap[p]? = some (.cells #[.int .i64 E,.int .i64 F,.int .u64 b,.int .u8 md,.int .i64 0] 67 (0,0))→Mine W 0 A N C mh→Calls Tryz.prog 25 #[.pointer (some ⟨p,0,none⟩),.agg #[.bool sh,.slice A N C,.int .i64 xh]] W fun e W'=>e = .returned (.bool hi)∧Below W.heap.size W W')) :
  Calls Tryz.prog 6 #[.agg #[.int .i64 E,.int .i64 F],.int .u64 b,.int .u8 md] w fun en w'=>(∃A1 N1 C1 A1' N1' C1' A2 N2 C2 A2' N2' C2',en = .returned (.tuple #[.agg #[.bool sl,.slice A1 N1 C1,.slice A1' N1' C1'],.agg #[.bool sh,.slice A2 N2 C2,.slice A2' N2' C2'],.bool li,.bool hi,.int .i64 0])∧Mine w' w.heap.size A1 N1 C1 nl∧Mine w' w.heap.size A1' N1' C1' dl∧Mine w' w.heap.size A2 N2 C2 nh∧Mine w' w.heap.size A2' N2' C2' dh)∧Below w.heap.size w w':=by
 refine ax Tryz.func6 rfl (by kernel_rfl) fun T hK=>?_;replace hK:Kn T _ [(0,.agg #[.int .i64 E,.int .i64 F]),(1,.int .u64 b),(2,.int .u8 md)]:=hK;have hS:=Fb.begin w;have hG:au [] w:=trivial;refine wq hS hG hK (fun p1=>[.n 3 #[vJ E,vJ F] 23,.n 6 #[.bool false,nJ,nJ] 29,.n 7 #[.bool false,nJ,nJ] 29,.v 8 (.bool false),.v 9 (.bool false),.v 10 (vJ 0)]) (fun p1=>[(1,.int .u64 b),(2,.int .u8 md),(3,pT (p1 0).N 0),(6,pT (p1 1).N 0),(7,pT (p1 2).N 0),(8,.bool false),(9,.bool false),(10,vJ 0)]) (fun p1=>?_) (fun p1 W1 T hF hK=>?_)
 ·iterate 3 refine aI ?_
  iterate 3 refine af ?_
  exact ae
 replace hS:=ag.fc hS hF [1000,1001,1002] [⟨(p1 0).N,#[vJ E,vJ F],23,true⟩,⟨(p1 1).N,#[.bool false,nJ,nJ],29,true⟩,⟨(p1 2).N,#[.bool false,nJ,nJ],29,true⟩];replace hG:=hF.gx;clear hF;refine wp_seq ?_;refine wq hS hG hK (fun p2=>[.l 17 (.agg #[vJ E,vJ F]) 0 0,.v 18 (.int .u64 b),.n 19 #[.int .u64 b] (1000000+24),.c (some 20) (cV (vJ 0)),.v 11 (vJ 0)]) (fun p2=>[(1,.int .u64 b),(2,.int .u8 md),(3,pT (p1 0).N 0),(6,pT (p1 1).N 0),(7,pT (p1 2).N 0),(8,.bool false),(9,.bool false),(10,vJ 0),(11,vJ 0)]) (fun p2=>?_) (fun p2 W2 T hF hK=>?_)
 ·refine aj ?_;refine af ?_;refine aI ?_;refine av (fun W cx=>aD (aa H0 _ _ (cx.F 2 (by kernel_rfl) (by kernel_rfl)))) ?_;refine af ?_;exact ae
 obtain ⟨hS,hG⟩:=ag.fg hS hF;clear hF;refine wq hS hG hK (fun p3=>[.v 21 (vJ 0),.v 22 (.bool false)]) (fun p3=>[(1,.int .u64 b),(2,.int .u8 md),(3,pT (p1 0).N 0),(6,pT (p1 1).N 0),(7,pT (p1 2).N 0),(8,.bool false),(9,.bool false),(10,vJ 0),(11,vJ 0),(22,.bool false)]) (fun p3=>?_) (fun p3 W3 T hF hK=>?_)
 ·iterate 2 refine af ?_
  exact ae
 obtain ⟨hS,hG⟩:=ag.fg hS hF;clear hF;refine wp_cond_false (hK.ew 22) (wp_skip ?_);refine aB (wp_seq ?_);refine wq hS hG hK (fun p4=>[.v 27 (.int .u8 md),.c (some 28) (cV (.tuple #[.string str,vJ 0])),.v 26 (.tuple #[.string str,vJ 0]),.v 29 (.string str),.v 30 (vJ 0),.v 12 (.string str),.v 13 (vJ 0)]) (fun p4=>[(1,.int .u64 b),(2,.int .u8 md),(3,pT (p1 0).N 0),(6,pT (p1 1).N 0),(7,pT (p1 2).N 0),(8,.bool false),(9,.bool false),(10,vJ 0),(11,vJ 0),(13,vJ 0)]) (fun p4=>?_) (fun p4 W4 T hF hK=>?_)
 ·refine af ?_;refine av (fun W cx=>aD (aa HN _ (hN.kept cx.fr))) ?_;iterate 5 refine af ?_
  exact ae
 obtain ⟨hS,hG⟩:=ag.fg hS hF;clear hF;refine wq hS hG hK (fun p5=>[.v 31 (vJ 0),.v 32 (.bool false)]) (fun p5=>[(1,.int .u64 b),(2,.int .u8 md),(3,pT (p1 0).N 0),(6,pT (p1 1).N 0),(7,pT (p1 2).N 0),(8,.bool false),(9,.bool false),(10,vJ 0),(11,vJ 0),(13,vJ 0),(32,.bool false)]) (fun p5=>?_) (fun p5 W5 T hF hK=>?_)
 ·iterate 2 refine af ?_
  exact ae
 obtain ⟨hS,hG⟩:=ag.fg hS hF;clear hF;refine wp_cond_false (hK.ew 32) (wp_skip (aB ?_));refine wq hS hG hK (fun p6=>[.l 36 (.agg #[vJ E,vJ F]) 0 0,.v 37 (.int .u64 b),.v 38 (.int .u8 md),.v 39 (.agg #[vJ E,vJ F,.int .u64 b,.int .u8 md,vJ 0]),.n 14 #[vJ 0,vJ 0,.int .u64 0,.int .u8 0,vJ 0] 67,.p 1004 0 [vJ E,vJ F,.int .u64 b,.int .u8 md,vJ 0]]) (fun p6=>[(6,pT (p1 1).N 0),(7,pT (p1 2).N 0),(8,.bool false),(9,.bool false),(10,vJ 0),(11,vJ 0),(13,vJ 0),(14,pT (p6 4).N 0)]) (fun p6=>?_) (fun p6 W6 T hF hK=>?_)
 ·refine aj ?_;iterate 3 refine af ?_
  refine aI ?_;refine aF ?_;exact ae
 replace hS:=ag.fc hS hF [1,2,1004] [⟨(p1 1).N,#[.bool false,nJ,nJ],29,true⟩,⟨(p1 2).N,#[.bool false,nJ,nJ],29,true⟩,⟨(p6 4).N,#[vJ E,vJ F,.int .u64 b,.int .u8 md,vJ 0],67,true⟩];replace hG:=hF.gx;clear hF;refine wq hS hG hK (fun p7=>[.c (some 41) (cH 0 ml mh fun x9 y9=>.tuple #[.agg #[.bool sl,x9,vJ xl],.agg #[.bool sh,y9,vJ xh]]),.v 40 (.tuple #[.agg #[.bool sl,sJ (p7 0),vJ xl],.agg #[.bool sh,tJ (p7 0),vJ xh]]),.v 42 (.agg #[.bool sl,sJ (p7 0),vJ xl]),.v 43 (.agg #[.bool sh,tJ (p7 0),vJ xh]),.n 15 #[.bool false,nJ,vJ 0] 58,.n 16 #[.bool false,nJ,vJ 0] 58,.p 1004 0 [.bool sl,sJ (p7 0),vJ xl],.p 1005 0 [.bool sh,tJ (p7 0),vJ xh]]) (fun p7=>[(6,pT (p1 1).N 0),(7,pT (p1 2).N 0),(8,.bool false),(9,.bool false),(10,vJ 0),(11,vJ 0),(13,vJ 0),(14,pT (p6 4).N 0),(15,pT (p7 4).N 0),(16,pT (p7 5).N 0)]) (fun p7=>?_) (fun p7 W7 T hF hK=>?_)
 ·refine av (fun W cx=>IG (aa HE _ _ (hT.kept cx.fr) (cx.B 2 _ rfl (by kernel_rfl) (by kernel_rfl)))) ?_;iterate 3 refine af ?_
  iterate 2 refine aI ?_
  iterate 2 refine aF ?_
  exact ae
 replace hS:=ag.fc hS hF [0,1,2,1004,1005] [⟨(p1 1).N,#[.bool false,nJ,nJ],29,true⟩,⟨(p1 2).N,#[.bool false,nJ,nJ],29,true⟩,⟨(p6 4).N,#[vJ E,vJ F,.int .u64 b,.int .u8 md,vJ 0],67,true⟩,⟨(p7 4).N,#[.bool sl,sJ (p7 0),vJ xl],58,true⟩,⟨(p7 5).N,#[.bool sh,tJ (p7 0),vJ xh],58,true⟩];replace hG:au (gM 0 (p7 0).A (p7 0).N (p7 0).C ml::gM 0 (p7 0).A' (p7 0).N' (p7 0).C' mh::_) W7:=⟨And.left (hF.fx 0),And.right (hF.fx 0),hF.gx⟩;clear hF;have z7:=hS.fr.size;refine wq hS hG hK (fun p8=>[.v 44 (pT (p6 4).N 4),.l 45 (.agg #[.bool sl,sJ (p7 0),vJ xl]) 3 0,.c (some 46) (cH W7.heap.size nl dl fun x9 y9=>.tuple #[.agg #[.bool sl,x9,y9],vJ 0]),.v 47 (.agg #[.bool sl,sJ (p8 2),tJ (p8 2)]),.v 48 (vJ 0),.u 49 (.agg #[.bool sl,sJ (p8 2),tJ (p8 2)]) (aG 1),.v 50 (pT (p6 4).N 4),.l 51 (.agg #[.bool sh,tJ (p7 0),vJ xh]) 4 0,.c (some 52) (cH W7.heap.size nh dh fun x9 y9=>.tuple #[.agg #[.bool sh,x9,y9],vJ 0]),.v 53 (.agg #[.bool sh,sJ (p8 8),tJ (p8 8)]),.v 54 (vJ 0),.u 55 (.agg #[.bool sh,sJ (p8 8),tJ (p8 8)]) (aG 1),.p 0 0 [.bool sl,sJ (p8 2),tJ (p8 2)],.p 1 0 [.bool sh,sJ (p8 8),tJ (p8 8)]]) (fun p8=>[(6,pT (p1 1).N 0),(7,pT (p1 2).N 0),(8,.bool false),(9,.bool false),(10,vJ 0),(11,vJ 0),(13,vJ 0),(14,pT (p6 4).N 0),(15,pT (p7 4).N 0),(16,pT (p7 5).N 0)]) (fun p8=>?_) (fun p8 W8 T hF hK=>?_)
 ·refine af ?_;refine aj ?_;refine av (fun W cx=>bP cx.hb (aa HRl _ _ _ (p7 0).C (Mine.num cx.G.1))) ?_;iterate 2 refine af ?_
  refine cZ (fun W cx=>jd _ 4 0 0 (fun _=>rfl) _ _ _ _ _ _ _ _ ⟨_,_,cx.B 2 _ rfl (by kernel_rfl) (by kernel_rfl),rfl⟩) ?_;refine af ?_;refine aj ?_;refine av (fun W cx=>bP cx.hb (aa HRh _ _ _ (p7 0).C' (Mine.num cx.G.2.1))) ?_;iterate 2 refine af ?_
  refine cZ (fun W cx=>jd _ 4 0 0 (fun _=>rfl) _ _ _ _ _ _ _ _ ⟨_,_,cx.B 2 _ rfl (by kernel_rfl) (by kernel_rfl),rfl⟩) ?_;iterate 2 refine aF ?_
  exact ae
 replace hS:=ag.fc hS hF [0,1,2,3,4] [⟨(p1 1).N,#[.bool sl,sJ (p8 2),tJ (p8 2)],29,true⟩,⟨(p1 2).N,#[.bool sh,sJ (p8 8),tJ (p8 8)],29,true⟩,⟨(p6 4).N,#[vJ E,vJ F,.int .u64 b,.int .u8 md,vJ 0],67,true⟩,⟨(p7 4).N,#[.bool sl,sJ (p7 0),vJ xl],58,true⟩,⟨(p7 5).N,#[.bool sh,tJ (p7 0),vJ xh],58,true⟩];replace hG:au (gM W7.heap.size (p8 2).A (p8 2).N (p8 2).C nl::gM W7.heap.size (p8 2).A' (p8 2).N' (p8 2).C' dl::gM W7.heap.size (p8 8).A (p8 8).N (p8 8).C nh::gM W7.heap.size (p8 8).A' (p8 8).N' (p8 8).C' dh::_) W8:=⟨And.left (hF.fx 2),And.right (hF.fx 2),And.left (hF.fx 8),And.right (hF.fx 8),hF.gx⟩;clear hF;refine wq hS hG hK (fun p9=>[.l 56 (.agg #[.bool sl,sJ (p7 0),vJ xl]) 3 0,.c (some 57) (cV (.bool li)),.l 58 (.agg #[.bool sh,tJ (p7 0),vJ xh]) 4 0,.c (some 59) (cV (.bool hi)),.v 8 (.bool li),.v 9 (.bool hi)]) (fun p9=>[(6,pT (p1 1).N 0),(7,pT (p1 2).N 0),(8,.bool li),(9,.bool hi),(10,vJ 0),(11,vJ 0),(13,vJ 0),(14,pT (p6 4).N 0)]) (fun p9=>?_) (fun p9 W9 T hF hK=>?_)
 ·refine aj ?_;refine av (fun W cx=>aD (aa HHl _ _ _ _ (p7 0).C (cx.B 2 _ rfl (by kernel_rfl) (by kernel_rfl)) (Mine.mono (cx.G.2.2.2.2.1) (Nat.zero_le _)))) ?_;refine aj ?_;refine av (fun W cx=>aD (aa HHh _ _ _ _ (p7 0).C' (cx.B 2 _ rfl (by kernel_rfl) (by kernel_rfl)) (Mine.mono (cx.G.2.2.2.2.2.1) (Nat.zero_le _)))) ?_;iterate 2 refine af ?_
  exact ae
 obtain ⟨hS,hG⟩:=ag.fg hS hF;clear hF;refine wp_seq ?_;refine wq hS hG hK (fun p10=>[.v 60 (pT (p6 4).N 4),.v 61 (pT (p6 4).N 4),.l 62 (vJ 0) 2 4,.v 63 (.bool false)]) (fun p10=>[(6,pT (p1 1).N 0),(7,pT (p1 2).N 0),(8,.bool li),(9,.bool hi),(10,vJ 0),(11,vJ 0),(13,vJ 0),(14,pT (p6 4).N 0),(63,.bool false)]) (fun p10=>?_) (fun p10 W10 T hF hK=>?_)
 ·iterate 2 refine af ?_
  refine aj ?_;refine af ?_;exact ae
 obtain ⟨hS,hG⟩:=ag.fg hS hF;clear hF;refine wp_cond_false (hK.ew 63) (wp_skip (aB ?_));refine wq hS hG hK (fun p11=>[.l 69 (.agg #[.bool sl,sJ (p8 2),tJ (p8 2)]) 0 0,.l 70 (.agg #[.bool sh,sJ (p8 8),tJ (p8 8)]) 1 0,.v 71 (.bool li),.v 72 (.bool hi),.p 0 0 [.bool sl,sJ (p8 2),tJ (p8 2)],.p 1 0 [.bool sh,sJ (p8 8),tJ (p8 8)],.v 8 (.bool li),.v 9 (.bool hi),.v 10 (vJ 0)]) (fun p11=>[(6,pT (p1 1).N 0),(7,pT (p1 2).N 0),(8,.bool li),(9,.bool hi),(10,vJ 0),(11,vJ 0),(13,vJ 0),(14,pT (p6 4).N 0)]) (fun p11=>?_) (fun p11 W11 T hF hK=>?_)
 ·iterate 2 refine aj ?_
  iterate 2 refine af ?_
  iterate 2 refine aF ?_
  iterate 3 refine af ?_
  exact ae
 replace hS:=ag.fc hS hF [0,1,2] [⟨(p1 1).N,#[.bool sl,sJ (p8 2),tJ (p8 2)],29,true⟩,⟨(p1 2).N,#[.bool sh,sJ (p8 8),tJ (p8 8)],29,true⟩,⟨(p6 4).N,#[vJ E,vJ F,.int .u64 b,.int .u8 md,vJ 0],67,true⟩];replace hG:=hF.gx;clear hF;refine wp_ret ?_;exact aA hS hK (.tuple #[.agg #[.bool sl,.slice (p8 2).A (p8 2).N (p8 2).C,.slice (p8 2).A' (p8 2).N' (p8 2).C'],.agg #[.bool sh,.slice (p8 8).A (p8 8).N (p8 8).C,.slice (p8 8).A' (p8 8).N' (p8 8).C'],.bool li,.bool hi,.int .i64 0]) [(0,0,3),(1,0,3)] [.bool sl,.slice (p8 2).A (p8 2).N (p8 2).C,.slice (p8 2).A' (p8 2).N' (p8 2).C',.bool sh,.slice (p8 8).A (p8 8).N (p8 8).C,.slice (p8 8).A' (p8 8).N' (p8 8).C'] (by kernel_rfl) (by kernel_rfl) ⟨⟨_,_,_,_,_,_,_,_,_,_,_,_,rfl,Mine.mono hG.1 z7,Mine.mono hG.2.1 z7,Mine.mono hG.2.2.1 z7,Mine.mono hG.2.2.2.1 z7⟩,hS.fr⟩
theorem G9(w:World)(E F b md:Int)(str:ByteArray)(sl:Bool)(ml:Nat)(xl:Int)(sh:Bool)(mh:Nat)(xh:Int)(nl dl nh dh:Nat)(li hi:Bool)(hT:Tb w)(hN:dH w)(H0:Hid (∀(W:World) (q:Nat),W.heap[q]? = some (.cells #[.int .u64 b] 24 (0,0))→Calls Tryz.prog 20 #[.agg #[.int .i64 E,.int .i64 F],.slice (some ⟨q,0,none⟩) 1 1] W fun e W'=>e = .returned (.int .i64 0)∧Below W.heap.size W W'))(HN:Hid (∀W:World,dH W→Calls Tryz.prog 21 #[.int .u8 md] W fun e W'=>e = .returned (.tuple #[.string str,.int .i64 0])∧Below W.heap.size W W'))(HE:Hid (∀(W:World) (p:Nat),Tb W→W.heap[p]? = some (.cells #[.int .i64 E,.int .i64 F,.int .u64 b,.int .u8 md,.int .i64 0] 67 (0,0))→Calls Tryz.prog 22 #[.pointer (some ⟨p,0,none⟩)] W fun e W'=>(∃A N C A' N' C',e = .returned (.tuple #[.agg #[.bool sl,.slice A N C,.int .i64 xl],.agg #[.bool sh,.slice A' N' C',.int .i64 xh]])∧Mine W' 0 A N C ml∧Mine W' 0 A' N' C' mh)∧Below W.heap.size (evs (bG p 4 [.int .i64 8]) W) W'))(HRl:Hid (∀(W:World) (A:Option Addr) (N C:Nat),Num W A N ml→Calls Tryz.prog 24 #[.agg #[.bool sl,.slice A N C,.int .i64 xl]] W fun e W'=>(∃A N C A' N' C',e = .returned (.tuple #[.agg #[.bool sl,.slice A N C,.slice A' N' C'],.int .i64 0])∧Mine W' W.heap.size A N C nl∧Mine W' W.heap.size A' N' C' dl)∧Below W.heap.size W W'))(HRh:Hid (∀(W:World) (A:Option Addr) (N C:Nat),Num W A N mh→Calls Tryz.prog 24 #[.agg #[.bool sh,.slice A N C,.int .i64 xh]] W fun e W'=>(∃A N C A' N' C',e = .returned (.tuple #[.agg #[.bool sh,.slice A N C,.slice A' N' C'],.int .i64 0])∧Mine W' W.heap.size A N C nh∧Mine W' W.heap.size A' N' C' dh)∧Below W.heap.size W W'))(HHl:Hid (∀(W:World) (p:Nat) (A:Option Addr) (N C:Nat),W.heap[p]? = some (.cells #[.int .i64 E,.int .i64 F,.int .u64 b,.int .u8 md,.int .i64 8] 67 (0,0))→Mine W 0 A N C ml→Calls Tryz.prog 25 #[.pointer (some ⟨p,0,none⟩),.agg #[.bool sl,.slice A N C,.int .i64 xl]] W fun e W'=>e = .returned (.bool li)∧Below W.heap.size W W'))(HHh:Hid (∀(W:World) (p:Nat) (A:Option Addr) (N C:Nat),W.heap[p]? = some (.cells #[.int .i64 E,.int .i64 F,.int .u64 b,.int .u8 md,.int .i64 8] 67 (0,0))→Mine W 0 A N C mh→Calls Tryz.prog 25 #[.pointer (some ⟨p,0,none⟩),.agg #[.bool sh,.slice A N C,.int .i64 xh]] W fun e W'=>e = .returned (.bool hi)∧Below W.heap.size W W')) :
  Calls Tryz.prog 6 #[.agg #[.int .i64 E,.int .i64 F],.int .u64 b,.int .u8 md] w fun en w'=>en = .returned (.tuple #[.agg #[.bool false,.slice none 0 0,.slice none 0 0],.agg #[.bool false,.slice none 0 0,.slice none 0 0],.bool false,.bool false,.int .i64 8])∧Below w.heap.size w w':=by
 refine ax Tryz.func6 rfl (by kernel_rfl) fun T hK=>?_;replace hK:Kn T _ [(0,.agg #[.int .i64 E,.int .i64 F]),(1,.int .u64 b),(2,.int .u8 md)]:=hK;have hS:=Fb.begin w;have hG:au [] w:=trivial;refine wq hS hG hK (fun p1=>[.n 3 #[vJ E,vJ F] 23,.n 6 #[.bool false,nJ,nJ] 29,.n 7 #[.bool false,nJ,nJ] 29,.v 8 (.bool false),.v 9 (.bool false),.v 10 (vJ 0)]) (fun p1=>[(1,.int .u64 b),(2,.int .u8 md),(3,pT (p1 0).N 0),(6,pT (p1 1).N 0),(7,pT (p1 2).N 0),(8,.bool false),(9,.bool false),(10,vJ 0)]) (fun p1=>?_) (fun p1 W1 T hF hK=>?_)
 ·iterate 3 refine aI ?_
  iterate 3 refine af ?_
  exact ae
 replace hS:=ag.fc hS hF [1000,1001,1002] [⟨(p1 0).N,#[vJ E,vJ F],23,true⟩,⟨(p1 1).N,#[.bool false,nJ,nJ],29,true⟩,⟨(p1 2).N,#[.bool false,nJ,nJ],29,true⟩];replace hG:=hF.gx;clear hF;refine wp_seq ?_;refine wq hS hG hK (fun p2=>[.l 17 (.agg #[vJ E,vJ F]) 0 0,.v 18 (.int .u64 b),.n 19 #[.int .u64 b] (1000000+24),.c (some 20) (cV (vJ 0)),.v 11 (vJ 0)]) (fun p2=>[(1,.int .u64 b),(2,.int .u8 md),(3,pT (p1 0).N 0),(6,pT (p1 1).N 0),(7,pT (p1 2).N 0),(8,.bool false),(9,.bool false),(10,vJ 0),(11,vJ 0)]) (fun p2=>?_) (fun p2 W2 T hF hK=>?_)
 ·refine aj ?_;refine af ?_;refine aI ?_;refine av (fun W cx=>aD (aa H0 _ _ (cx.F 2 (by kernel_rfl) (by kernel_rfl)))) ?_;refine af ?_;exact ae
 obtain ⟨hS,hG⟩:=ag.fg hS hF;clear hF;refine wq hS hG hK (fun p3=>[.v 21 (vJ 0),.v 22 (.bool false)]) (fun p3=>[(1,.int .u64 b),(2,.int .u8 md),(3,pT (p1 0).N 0),(6,pT (p1 1).N 0),(7,pT (p1 2).N 0),(8,.bool false),(9,.bool false),(10,vJ 0),(11,vJ 0),(22,.bool false)]) (fun p3=>?_) (fun p3 W3 T hF hK=>?_)
 ·iterate 2 refine af ?_
  exact ae
 obtain ⟨hS,hG⟩:=ag.fg hS hF;clear hF;refine wp_cond_false (hK.ew 22) (wp_skip ?_);refine aB (wp_seq ?_);refine wq hS hG hK (fun p4=>[.v 27 (.int .u8 md),.c (some 28) (cV (.tuple #[.string str,vJ 0])),.v 26 (.tuple #[.string str,vJ 0]),.v 29 (.string str),.v 30 (vJ 0),.v 12 (.string str),.v 13 (vJ 0)]) (fun p4=>[(1,.int .u64 b),(2,.int .u8 md),(3,pT (p1 0).N 0),(6,pT (p1 1).N 0),(7,pT (p1 2).N 0),(8,.bool false),(9,.bool false),(10,vJ 0),(11,vJ 0),(13,vJ 0)]) (fun p4=>?_) (fun p4 W4 T hF hK=>?_)
 ·refine af ?_;refine av (fun W cx=>aD (aa HN _ (hN.kept cx.fr))) ?_;iterate 5 refine af ?_
  exact ae
 obtain ⟨hS,hG⟩:=ag.fg hS hF;clear hF;refine wq hS hG hK (fun p5=>[.v 31 (vJ 0),.v 32 (.bool false)]) (fun p5=>[(1,.int .u64 b),(2,.int .u8 md),(3,pT (p1 0).N 0),(6,pT (p1 1).N 0),(7,pT (p1 2).N 0),(8,.bool false),(9,.bool false),(10,vJ 0),(11,vJ 0),(13,vJ 0),(32,.bool false)]) (fun p5=>?_) (fun p5 W5 T hF hK=>?_)
 ·iterate 2 refine af ?_
  exact ae
 obtain ⟨hS,hG⟩:=ag.fg hS hF;clear hF;refine wp_cond_false (hK.ew 32) (wp_skip (aB ?_));refine wq hS hG hK (fun p6=>[.l 36 (.agg #[vJ E,vJ F]) 0 0,.v 37 (.int .u64 b),.v 38 (.int .u8 md),.v 39 (.agg #[vJ E,vJ F,.int .u64 b,.int .u8 md,vJ 0]),.n 14 #[vJ 0,vJ 0,.int .u64 0,.int .u8 0,vJ 0] 67,.p 1004 0 [vJ E,vJ F,.int .u64 b,.int .u8 md,vJ 0]]) (fun p6=>[(6,pT (p1 1).N 0),(7,pT (p1 2).N 0),(8,.bool false),(9,.bool false),(10,vJ 0),(11,vJ 0),(13,vJ 0),(14,pT (p6 4).N 0)]) (fun p6=>?_) (fun p6 W6 T hF hK=>?_)
 ·refine aj ?_;iterate 3 refine af ?_
  refine aI ?_;refine aF ?_;exact ae
 replace hS:=ag.fc hS hF [1,2,1004] [⟨(p1 1).N,#[.bool false,nJ,nJ],29,true⟩,⟨(p1 2).N,#[.bool false,nJ,nJ],29,true⟩,⟨(p6 4).N,#[vJ E,vJ F,.int .u64 b,.int .u8 md,vJ 0],67,true⟩];replace hG:=hF.gx;clear hF;refine wq hS hG hK (fun p7=>[.w (some 41) 2 4 [vJ 8] (fun _=>[vJ 8]) (cH 0 ml mh fun x9 y9=>.tuple #[.agg #[.bool sl,x9,vJ xl],.agg #[.bool sh,y9,vJ xh]]),.v 40 (.tuple #[.agg #[.bool sl,sJ (p7 0),vJ xl],.agg #[.bool sh,tJ (p7 0),vJ xh]]),.v 42 (.agg #[.bool sl,sJ (p7 0),vJ xl]),.v 43 (.agg #[.bool sh,tJ (p7 0),vJ xh]),.n 15 #[.bool false,nJ,vJ 0] 58,.n 16 #[.bool false,nJ,vJ 0] 58,.p 1004 0 [.bool sl,sJ (p7 0),vJ xl],.p 1005 0 [.bool sh,tJ (p7 0),vJ xh]]) (fun p7=>[(6,pT (p1 1).N 0),(7,pT (p1 2).N 0),(8,.bool false),(9,.bool false),(10,vJ 0),(11,vJ 0),(13,vJ 0),(14,pT (p6 4).N 0),(15,pT (p7 4).N 0),(16,pT (p7 5).N 0)]) (fun p7=>?_) (fun p7 W7 T hF hK=>?_)
 ·refine Ir (p6 4).N #[.int .i64 E,.int .i64 F,.int .u64 b,.int .u8 md,.int .i64 0] 67 (fun W cx hW=>I8 (aa HE _ _ (hT.kept cx.fr) hW)) (by kernel_rfl) (by kernel_rfl) (by kernel_rfl) (by kernel_rfl) (by kernel_rfl) rfl (by kernel_rfl) ?_;iterate 3 refine af ?_
  iterate 2 refine aI ?_
  iterate 2 refine aF ?_
  exact ae
 replace hS:=ag.fc hS hF [0,1,2,1004,1005] [⟨(p1 1).N,#[.bool false,nJ,nJ],29,true⟩,⟨(p1 2).N,#[.bool false,nJ,nJ],29,true⟩,⟨(p6 4).N,#[vJ E,vJ F,.int .u64 b,.int .u8 md,vJ 8],67,true⟩,⟨(p7 4).N,#[.bool sl,sJ (p7 0),vJ xl],58,true⟩,⟨(p7 5).N,#[.bool sh,tJ (p7 0),vJ xh],58,true⟩];replace hG:au (gM 0 (p7 0).A (p7 0).N (p7 0).C ml::gM 0 (p7 0).A' (p7 0).N' (p7 0).C' mh::_) W7:=⟨And.left (hF.fx 0),And.right (hF.fx 0),hF.gx⟩;clear hF;refine wq hS hG hK (fun p8=>[.v 44 (pT (p6 4).N 4),.l 45 (.agg #[.bool sl,sJ (p7 0),vJ xl]) 3 0,.c (some 46) (cH W7.heap.size nl dl fun x9 y9=>.tuple #[.agg #[.bool sl,x9,y9],vJ 0]),.v 47 (.agg #[.bool sl,sJ (p8 2),tJ (p8 2)]),.v 48 (vJ 0),.u 49 (.agg #[.bool sl,sJ (p8 2),tJ (p8 2)]) (aG 1),.v 50 (pT (p6 4).N 4),.l 51 (.agg #[.bool sh,tJ (p7 0),vJ xh]) 4 0,.c (some 52) (cH W7.heap.size nh dh fun x9 y9=>.tuple #[.agg #[.bool sh,x9,y9],vJ 0]),.v 53 (.agg #[.bool sh,sJ (p8 8),tJ (p8 8)]),.v 54 (vJ 0),.u 55 (.agg #[.bool sh,sJ (p8 8),tJ (p8 8)]) (aG 1),.p 0 0 [.bool sl,sJ (p8 2),tJ (p8 2)],.p 1 0 [.bool sh,sJ (p8 8),tJ (p8 8)]]) (fun p8=>[(6,pT (p1 1).N 0),(7,pT (p1 2).N 0),(8,.bool false),(9,.bool false),(10,vJ 0),(11,vJ 0),(13,vJ 0),(14,pT (p6 4).N 0),(15,pT (p7 4).N 0),(16,pT (p7 5).N 0)]) (fun p8=>?_) (fun p8 W8 T hF hK=>?_)
 ·refine af ?_;refine aj ?_;refine av (fun W cx=>bP cx.hb (aa HRl _ _ _ (p7 0).C (Mine.num cx.G.1))) ?_;iterate 2 refine af ?_
  refine cZ (fun W cx=>jd _ 4 8 0 (fun e=>absurd e (by decide)) _ _ _ _ _ _ _ _ ⟨_,_,cx.B 2 _ rfl (by kernel_rfl) (by kernel_rfl),rfl⟩) ?_;refine af ?_;refine aj ?_;refine av (fun W cx=>bP cx.hb (aa HRh _ _ _ (p7 0).C' (Mine.num cx.G.2.1))) ?_;iterate 2 refine af ?_
  refine cZ (fun W cx=>jd _ 4 8 0 (fun e=>absurd e (by decide)) _ _ _ _ _ _ _ _ ⟨_,_,cx.B 2 _ rfl (by kernel_rfl) (by kernel_rfl),rfl⟩) ?_;iterate 2 refine aF ?_
  exact ae
 replace hS:=ag.fc hS hF [0,1,2,3,4] [⟨(p1 1).N,#[.bool sl,sJ (p8 2),tJ (p8 2)],29,true⟩,⟨(p1 2).N,#[.bool sh,sJ (p8 8),tJ (p8 8)],29,true⟩,⟨(p6 4).N,#[vJ E,vJ F,.int .u64 b,.int .u8 md,vJ 8],67,true⟩,⟨(p7 4).N,#[.bool sl,sJ (p7 0),vJ xl],58,true⟩,⟨(p7 5).N,#[.bool sh,tJ (p7 0),vJ xh],58,true⟩];replace hG:au (gM W7.heap.size (p8 2).A (p8 2).N (p8 2).C nl::gM W7.heap.size (p8 2).A' (p8 2).N' (p8 2).C' dl::gM W7.heap.size (p8 8).A (p8 8).N (p8 8).C nh::gM W7.heap.size (p8 8).A' (p8 8).N' (p8 8).C' dh::_) W8:=⟨And.left (hF.fx 2),And.right (hF.fx 2),And.left (hF.fx 8),And.right (hF.fx 8),hF.gx⟩;clear hF;refine wq hS hG hK (fun p9=>[.l 56 (.agg #[.bool sl,sJ (p7 0),vJ xl]) 3 0,.c (some 57) (cV (.bool li)),.l 58 (.agg #[.bool sh,tJ (p7 0),vJ xh]) 4 0,.c (some 59) (cV (.bool hi)),.v 8 (.bool li),.v 9 (.bool hi)]) (fun p9=>[(6,pT (p1 1).N 0),(7,pT (p1 2).N 0),(8,.bool li),(9,.bool hi),(10,vJ 0),(11,vJ 0),(13,vJ 0),(14,pT (p6 4).N 0)]) (fun p9=>?_) (fun p9 W9 T hF hK=>?_)
 ·refine aj ?_;refine av (fun W cx=>aD (aa HHl _ _ _ _ (p7 0).C (cx.B 2 _ rfl (by kernel_rfl) (by kernel_rfl)) (Mine.mono (cx.G.2.2.2.2.1) (Nat.zero_le _)))) ?_;refine aj ?_;refine av (fun W cx=>aD (aa HHh _ _ _ _ (p7 0).C' (cx.B 2 _ rfl (by kernel_rfl) (by kernel_rfl)) (Mine.mono (cx.G.2.2.2.2.2.1) (Nat.zero_le _)))) ?_;iterate 2 refine af ?_
  exact ae
 obtain ⟨hS,hG⟩:=ag.fg hS hF;clear hF;refine wp_seq ?_;refine wq hS hG hK (fun p10=>[.v 60 (pT (p6 4).N 4),.v 61 (pT (p6 4).N 4),.l 62 (vJ 8) 2 4,.v 63 (.bool true)]) (fun p10=>[(6,pT (p1 1).N 0),(7,pT (p1 2).N 0),(8,.bool li),(9,.bool hi),(10,vJ 0),(11,vJ 0),(13,vJ 0),(14,pT (p6 4).N 0),(63,.bool true)]) (fun p10=>?_) (fun p10 W10 T hF hK=>?_)
 ·iterate 2 refine af ?_
  refine aj ?_;refine af ?_;exact ae
 obtain ⟨hS,hG⟩:=ag.fg hS hF;clear hF;refine wp_cond_true (hK.ew 63) ?_;refine wq hS hG hK (fun p11=>[.v 64 (.agg #[.bool false,nJ,nJ]),.v 65 (.agg #[.bool false,nJ,nJ]),.v 66 (pT (p6 4).N 4),.v 67 (pT (p6 4).N 4),.l 68 (vJ 8) 2 4,.p 0 0 [.bool false,nJ,nJ],.p 1 0 [.bool false,nJ,nJ],.v 8 (.bool false),.v 9 (.bool false),.v 10 (vJ 8)]) (fun p11=>[(6,pT (p1 1).N 0),(7,pT (p1 2).N 0),(8,.bool false),(9,.bool false),(10,vJ 8),(11,vJ 0),(13,vJ 0)]) (fun p11=>?_) (fun p11 W11 T hF hK=>?_)
 ·iterate 4 refine af ?_
  refine aj ?_;iterate 2 refine aF ?_
  iterate 3 refine af ?_
  exact ae
 replace hS:=ag.fc hS hF [0,1] [⟨(p1 1).N,#[.bool false,nJ,nJ],29,true⟩,⟨(p1 2).N,#[.bool false,nJ,nJ],29,true⟩];replace hG:=hF.gx;clear hF;refine wp_ret ?_;refine bz ?_;exact aA hS hK (.tuple #[.agg #[.bool false,.slice none 0 0,.slice none 0 0],.agg #[.bool false,.slice none 0 0,.slice none 0 0],.bool false,.bool false,.int .i64 8]) [(0,0,3),(1,0,3)] [.bool false,.slice none 0 0,.slice none 0 0,.bool false,.slice none 0 0,.slice none 0 0] (by kernel_rfl) (by kernel_rfl) ⟨rfl,hS.fr⟩
def AV(md:Nat)(s:Bool)(m:Nat)(x:Int)(s':Bool)(m':Nat)(x':Int)(r:Bool)(v:Nat)(y:Int):Prop:=
 (md≤1∧∃r1 v1 y1,iE s m x s' m' x' 0 r1 v1 y1∧ky r1 v1 y1 false 1 (-1) 0 r v y)∨((md=4∨(md=2∧s=false))∧r=s'∧v=m'∧y=x')∨((md=3∨(md=2∧s=true))∧r=s∧v=m∧y=x)
theorem lH(E F b er:Int)(md p:Nat)(s:Bool)(a:Option Addr)(n c m:Nat)(x:Int)(s':Bool)(a':Option Addr)(n' c' m':Nat)(x':Int)(r:Bool)(v:Nat)(y:Int)(w:World)(h:Mine w 0 a n c m)(h':Mine w 0 a' n' c' m')(hT:Tb w)(hp:w.heap[p]? = some (.cells #[.int .i64 E,.int .i64 F,.int .u64 b,.int .u8 (md:Int),.int .i64 er] 67 (0,0)))(HK:zG false (-1))(hd:AV md s m x s' m' x' r v y) :
  Calls Tryz.prog 57 #[.pointer (some ⟨p,0,none⟩),.agg #[.bool s,.slice a n c,.int .i64 x],.agg #[.bool s',.slice a' n' c',.int .i64 x']] w fun e w'=>(∃A N C,e = .returned (.agg #[.bool r,.slice A N C,.int .i64 y])∧Mine w' 0 A N C v)∧Below w.heap.size w w':=by
 have hM:(((md:Int)==0)=true∨((md:Int)==1)=true)→∀(W:World)(A:Option Addr)(N C:Nat)(A':Option Addr)(N' C':Nat),Tb W→W.heap[p]? = some (.cells #[.int .i64 E,.int .i64 F,.int .u64 b,.int .u8 (md:Int),.int .i64 er] 67 (0,0))→Num W A N m→Num W A' N' m'→Calls Tryz.prog 102 #[.pointer (some ⟨p,4,none⟩),.agg #[.bool s,.slice A N C,.int .i64 x],.agg #[.bool s',.slice A' N' C',.int .i64 x']] W fun e W'=>(∃A N C,e = .returned (.agg #[.bool r,.slice A N C,.int .i64 y])∧Mine W' 0 A N C v)∧Below W.heap.size W W':=by
  intro hmd W A N C A' N' C' hT hp g1 g2;simp only [beq_iff_eq] at hmd;rcases hd with ⟨h1,r1,v1,y1,HS,HP⟩|⟨h1,-⟩|⟨h1,-⟩
  ·exact D8 W E F b _ er p s A N C m x s' A' N' C' m' x' r1 v1 y1 r v y g1 g2 hT hp (hide HK) (hide HS) (hide HP)
  ·omega
  ·omega
 refine Hw w E F b _ er p s a n c m x s' a' n' c' m' x' r v y _ _ _ _ h h' hT hp rfl rfl rfl rfl (hide hM) (hide fun e4=>?_) (hide fun e3=>?_) (hide fun e0 e1 e4 e3=>?_)
 ·simp only [beq_iff_eq] at e4;rcases hd with ⟨h1,-⟩|⟨-,a1,a2,a3⟩|⟨h1,-⟩
  ·omega
  ·exact ⟨a1.symm,a2.symm,a3.symm⟩
  ·omega
 ·simp only [beq_iff_eq] at e3;rcases hd with ⟨h1,-⟩|⟨h1,-⟩|⟨-,a1,a2,a3⟩
  ·omega
  ·omega
  ·exact ⟨a1.symm,a2.symm,a3.symm⟩
 ·simp only [beq_eq_false_iff_ne,ne_eq] at e0 e1 e4 e3;rcases hd with ⟨h1,-⟩|⟨h1,a1,a2,a3⟩|⟨h1,a1,a2,a3⟩
  ·omega
  ·obtain ⟨-,hs⟩:md=2∧s=false:=by
    rcases h1 with h|h
    ·omega
    ·exact h
   rw [if_neg (by rw [hs];decide)];exact ⟨a1.symm,a2.symm,a3.symm⟩
  ·obtain ⟨-,hs⟩:md=2∧s=true:=by
    rcases h1 with h|h
    ·omega
    ·exact h
   rw [if_pos hs];exact ⟨a1.symm,a2.symm,a3.symm⟩
def gK:Nat:=2100
def dF:Nat:=3002
structure iO(L:Int)(K:Nat)(s:Bool)(m:Nat)(x:Int)(g:Int):Prop where
 ok:jS s m x
 lo:L≤x
 val:sv s (m*2^(x-L).toNat)=g
 bd:m*2^(x-L).toNat<2^K
theorem Fj(s:Bool)(m:Nat):sv s (2*m)=2*sv s m:=by unfold sv;cases s<;>simp<;>omega
theorem iO.up{L:Int}{K:Nat}{s:Bool}{m:Nat}{x g:Int}(h:iO L K s m x g):iO (L-1) (K+1) s m x (2*g):=by
 have hl:=h.lo;have e:m*2^(x-(L-1)).toNat=2*(m*2^(x-L).toNat):=by
  rw [show (x-(L-1)).toNat=(x-L).toNat+1 by omega,Nat.pow_succ];ac_rfl
 refine ⟨h.ok,by omega,by rw [e,Fj,h.val],?_⟩;have:=h.bd;rw [e,Nat.pow_succ];omega
theorem iO.more{L:Int}{K K':Nat}{s:Bool}{m:Nat}{x g:Int}(h:iO L K s m x g)(hK:K≤K'):iO L K' s m x g:=⟨h.ok,h.lo,h.val,Nat.lt_of_lt_of_le h.bd (Nat.pow_le_pow_right (by omega) hK)⟩
theorem yQ{E F S I B:Nat}(h:Fm E F S I)(hB:B=2^(E-1)-1):pv F I=2^(F+2*B)∧F+2*B<gK:=by
 have hP:0<2^F:=Nat.pow_pos (by omega);have hE:=h.fo.e2;have hE1:=h.fo.e11;have hF:=h.fo.f52;have h2:2^E=2*2^(E-1):=by obtain ⟨e,rfl⟩:∃e,E=e+1:=⟨E-1,by omega⟩;rw [Nat.pow_succ,Nat.add_sub_cancel];omega
 have h3:2^(E-1)≤2^10:=Nat.pow_le_pow_right (by omega) (by omega);have h4:2^1≤2^(E-1):=Nat.pow_le_pow_right (by omega) (by omega);refine ⟨?_,by unfold gK;omega⟩;have hq:I/2^F=2^E-1:=by rw [h.hI];exact Nat.mul_div_cancel _ hP
 have hr:I%2^F=0:=by rw [h.hI];exact Nat.mul_mod_left ..
 unfold pv;rw [if_neg (by rw [h.hI];have:=Nat.mul_le_mul_right (2^F) (show 1≤2^E-1 by omega);omega),hq,hr,Nat.add_zero,←Nat.pow_add]
 congr 1
 omega
theorem qR{E F S I B r:Nat}(h:Fm E F S I)(hB:B=2^(E-1)-1)(hr:r≤I):pv F r<2^gK:=by
 obtain ⟨h1,h2⟩:=yQ h hB;refine Nat.lt_of_le_of_lt (IM hr) ?_;rw [h1];exact rW h2
def iP(F:Nat)(s:Bool)(r:Nat):Int:=sv s (pv F r)
theorem qz{E F S I B G:Nat}(h:Fm E F S I)(hB:B=2^(E-1)-1)(hG:(G:Int)=(B:Int)+(F:Int)-1)(s:Bool){r:Nat}(hr:r<I) :
  ∃(sa:Bool) (m:Nat) (x:Int),pq E F (((if s then S else 0)+r:Nat):Int) sa m x∧iO (-(G:Int)) gK sa m x (iP F s r)∧(0<r→sa=s)∧(r=0→sa=false)∧(r=0→m=0):=by
 obtain ⟨sa,m,x,i,j,hV,hO,hi,hj,hq⟩:=uI h hB hG s hr;have hbd:=qR h hB (Nat.le_of_lt hr);have hq1:=hq.eq;rw [Nat.one_mul] at hq1;have hpos:∀k,0<2^k:=fun k=>Nat.pow_pos (by omega);have key:-(G:Int)≤x∧m*2^(x - -(G:Int)).toNat=pv F r:=by
  rcases hO with ⟨h0,-,hx⟩|⟨ho,-⟩
  ·subst h0;subst hx;rw [Nat.zero_mul,Nat.zero_mul] at hq1;refine ⟨by omega,?_⟩;rw [Nat.zero_mul];rcases Nat.mul_eq_zero.1 hq1.symm with e|e
   ·exact e.symm
   ·have:=hpos j;omega
  ·by_cases hx:0≤x
   ·have ei:x=(i:Int):=by omega
    have ej:j=0:=by omega
    subst ej;rw [Nat.pow_zero,Nat.mul_one] at hq1;refine ⟨by omega,?_⟩;rw [show (x - -(G:Int)).toNat=i+G by omega,Nat.pow_add,←Nat.mul_assoc,hq1]
   ·have ei:i=0:=by omega
    have ej:x = -(j:Int):=by omega
    subst ei;rw [Nat.pow_zero,Nat.mul_one] at hq1;have hjG:j≤G:=by
     refine Nat.le_of_not_lt fun hc=>?_;rw [show j=(j-G-1)+1+G by omega,Nat.pow_add,←Nat.mul_assoc] at hq1;have:=Nat.eq_of_mul_eq_mul_right (hpos G) hq1;rw [Nat.pow_succ,←Nat.mul_assoc] at this;omega
    refine ⟨by omega,?_⟩;rw [show (x - -(G:Int)).toNat=G-j by omega];rw [show G=(G-j)+j by omega,Nat.pow_add,←Nat.mul_assoc] at hq1;have:=Nat.eq_of_mul_eq_mul_right (hpos j) hq1;exact this
 have hm0:r=0↔m=0:=by
  have k2:=key.2;constructor
  ·intro e;subst e;rw [fA] at k2;rcases Nat.mul_eq_zero.1 k2 with e|e
   ·exact e
   ·have:=hpos (x - -(G:Int)).toNat;omega
  ·intro e;rw [e,Nat.zero_mul] at k2;refine Nat.eq_zero_of_not_pos fun hc=>?_;have:=iD (F:=F) hc;omega
 have hsg:m≠0→sa=s:=fun e=>by
  have:=hq.sg;have hp:0<m*2^i:=Nat.mul_pos (Nat.pos_of_ne_zero e) (hpos i)
  revert this
  generalize m*2^i=v at hp;intro this;cases sa<;>cases s<;>first|rfl|(unfold Rm.sgn at this;simp at this;omega)
 refine ⟨sa,m,x,hV,⟨hO,key.1,?_,by rw [key.2];exact hbd⟩,fun e=>hsg fun c=>by have:=hm0.2 c;omega,fun e=>?_,hm0.1⟩
 ·rw [key.2];unfold iP;by_cases e:m=0
  ·rw [hm0.2 e,fA];cases sa<;>cases s<;>rfl
  ·rw [hsg e]
 ·rcases hO with ⟨-,e1,-⟩|⟨ho,-⟩
  ·exact e1
  ·have:=hm0.1 e;omega
theorem EJ{E F S I B G:Nat}(h:Fm E F S I)(hB:B=2^(E-1)-1)(hG:(G:Int)=(B:Int)+(F:Int)-1)(s:Bool):iO (-(G:Int)) gK s 1 ((B:Int)+1) (iP F s I):=by
 obtain ⟨h1,h2⟩:=yQ h hB;have hE:=h.fo.e2;have h4:2^1≤2^(E-1):=Nat.pow_le_pow_right (by omega) (by omega);have hE1:=h.fo.e11;have h5:2^(E-1)≤2^10:=Nat.pow_le_pow_right (by omega) (by omega);have e:(1:Nat)*2^((B:Int)+1 - -(G:Int)).toNat=pv F I:=by
  rw [h1,Nat.one_mul,show ((B:Int)+1 - -(G:Int)).toNat=F+2*B by omega]
 refine ⟨Or.inr ⟨by decide,by omega,by omega⟩,by omega,by rw [e];rfl,by rw [e];exact qR h hB (Nat.le_refl _)⟩
theorem iA{L:Int}{s s':Bool}{m m':Nat}{x x' g g':Int}(hL:-100000≤L)(hL0:L≤0){md:Nat}(hm:md≤4)(h:iO L gK s m x g)(h':iO L gK s' m' x' g')(hsg:s=s'∨m=0∨m'=0) :
  ∃r v y,AV md s m x s' m' x' r v y∧iO (L-1) (gK+3) r v y (if md≤1 then g+g' else if md=4∨(md=2∧s=false) then 2*g' else 2*g):=by
 by_cases h1:md≤1
 ·obtain ⟨q,v,y,hS,hO,hy,hv,hs⟩:=E9 L gK h.ok h'.ok (by omega) hL0 (by decide) h.lo h'.lo h.bd h'.bd hsg;obtain ⟨q2,v2,y2,hP,hO2,hy2,hv2,hs2⟩:=BH L (gK+1) hO hL hL0 (by decide) hy hv;exact ⟨q2,v2,y2,Or.inl ⟨h1,q,v,y,hS,hP⟩,hO2,hy2,by rw [if_pos h1,hs2,hs,h.val,h'.val],Nat.lt_of_lt_of_le hv2 (Nat.pow_le_pow_right (by omega) (by omega))⟩
 ·by_cases h2:md=4∨(md=2∧s=false)
  ·exact ⟨s',m',x',Or.inr (Or.inl ⟨h2,rfl,rfl,rfl⟩),by rw [if_neg h1,if_pos h2];exact h'.up.more (by omega)⟩
  ·refine ⟨s,m,x,Or.inr (Or.inr ⟨?_,rfl,rfl,rfl⟩),by rw [if_neg h1,if_neg h2];exact h.up.more (by omega)⟩;cases s<;>simp at h2 ⊢ <;>omega
theorem kV{md:Nat}(hm:md≤4)(F k:Nat) :
  (if md≤1 then iP F false k+iP F false (k+1) else if md=4∨(md=2∧false=false) then 2*iP F false (k+1) else 2*iP F false k)=(bR md false F k:Int) ∧
  (if md≤1 then iP F true (k+1)+iP F true k else if md=4∨(md=2∧true=false) then 2*iP F true k else 2*iP F true (k+1)) = -(bR md true F k:Int):=by
 unfold bR iP sv;rcases (show md=0∨md=1∨md=2∨md=3∨md=4 by omega) with rfl|rfl|rfl|rfl|rfl<;>simp [bN]<;>omega
theorem iO.ratio{L:Int}{K G:Nat}{s:Bool}{m:Nat}{x g:Int}(h:iO L K s m x g)(hL:L = -((G+1:Nat):Int))(hK:K≤3000)(hG:G≤3000) :
  ∃n d:Nat,0<d∧Nat.gcd n d=1∧(s=true→0<n)∧Rm.sgn s n*((2^(G+1):Nat):Int)=g*(d:Int)∧n<2^dF∧d<2^dF∧(n=0↔m=0) ∧
   (∀(W:World)(A:Option Addr)(N C:Nat),Num W A N m→Calls Tryz.prog 24 #[.agg #[.bool s,.slice A N C,.int .i64 x]] W fun e w'=>(∃A N C A' N' C',e = .returned (.tuple #[.agg #[.bool s,.slice A N C,.slice A' N' C'],.int .i64 0])∧Mine w' W.heap.size A N C n∧Mine w' W.heap.size A' N' C' d)∧Below W.heap.size W w') ∧
   ∃i j:Nat,n=m*2^i∧d=2^j∧x=(i:Int)-(j:Int):=by
 have hpos:∀k,0<2^k:=fun k=>Nat.pow_pos (by omega);obtain ⟨i,hi⟩:∃i:Nat,max x 0=(i:Int):=⟨(max x 0).toNat,by omega⟩;obtain ⟨j,hj⟩:∃j:Nat,max (-x) 0=(j:Int):=⟨(max (-x) 0).toNat,by omega⟩;have hlo:=h.lo;have hbd:=h.bd;have hjG:j≤G+1:=by omega
 have e1:m*2^i*2^(G+1)=m*2^(x-L).toNat*2^j:=by
  rw [Nat.mul_assoc,←Nat.pow_add,Nat.mul_assoc,←Nat.pow_add]
  congr 2
  omega
 have b1:m*2^i<2^dF:=by
  have:m*2^i≤m*2^(x-L).toNat:=Nat.mul_le_mul_left _ (Nat.pow_le_pow_right (by omega) (by omega));exact Nat.lt_of_le_of_lt this (Nat.lt_of_lt_of_le hbd (Nat.pow_le_pow_right (by omega) (Nat.le_trans hK (by decide))))
 have b2:1*2^j<2^dF:=by rw [Nat.one_mul];exact rW (by unfold dF;omega)
 refine ⟨m*2^i,1*2^j,by rw [Nat.one_mul];exact hpos j,?_,?_,?_,b1,b2,?_,fun W A N C g1=>xZ h.ok hi hj (dE b1 (by decide)) (dE b2 (by decide)) W A N C g1,i,j,rfl,Nat.one_mul _,by omega⟩
 ·rw [Nat.one_mul];rcases h.ok with ⟨h0,-,hx⟩|⟨ho,-⟩
  ·have:j=0:=by omega
   rw [this,Nat.pow_zero];exact Nat.gcd_one_right _
  ·rcases Nat.eq_zero_or_pos j with q|q
   ·rw [q,Nat.pow_zero];exact Nat.gcd_one_right _
   ·have:i=0:=by omega
    rw [this,Nat.pow_zero,Nat.mul_one];exact mP ho
 ·intro e;rcases h.ok with ⟨-,hs,-⟩|⟨ho,-⟩
  ·rw [hs] at e;cases e
  ·exact Nat.mul_pos (by omega) (hpos i)
 ·rw [←Rm.sgn_scale,e1,Rm.sgn_scale,←h.val,Nat.one_mul];rfl
 ·constructor
  ·intro e;rcases Nat.mul_eq_zero.1 e with q|q
   ·exact q
   ·have:=hpos i;omega
  ·intro e;rw [e,Nat.zero_mul]
theorem zw{E F S I B:Nat}(h:Fm E F S I)(md:Nat)(s ng:Bool)(M K:Nat)(X:Int){r:Nat}(hr:r<I) :
  (fD S I md s (dz B F md s M K X)=(if ng then S else 0)+r∧bits BinOp.and .u8 (dG B F I md s M K X:Int) 2=0)↔(s=ng∧dz B F md s M K X=r):=by
 have hlt:=h.lt;obtain ⟨row,hrow⟩:∃row,row=dz B F md s M K X:=⟨_,rfl⟩;unfold fD dG;rw [←hrow];by_cases h1:row<I
 ·have h2:¬I≤row:=by omega
  have hfl:bits BinOp.and .u8 ((if bA B F K X≤X then 0 else if kL F md s M K X<1-(B:Int) then 5 else 1:Nat):Int) 2=0:=by
   split
   ·decide
   ·split<;>decide
  simp only [if_pos h1,if_neg h2];rw [hfl];cases s<;>cases ng<;>simp<;>omega
 ·have h2:I≤row:=by omega
  have hfl:bits BinOp.and .u8 ((3:Nat):Int) 2=2:=by decide
  simp only [if_neg h1,if_pos h2];rw [hfl];constructor
  ·rintro ⟨-,e⟩;exact absurd e (by decide)
  ·rintro ⟨-,e⟩;omega
theorem mM.goes{E F S I B G p d M K:Nat}{X:Int}{r0 ρ w:Nat}(h:Fm E F S I)(hP:mM p d B F G M K X r0 ρ w)(hd:0<d)(hp:0<p)(md:Nat)(s ng:Bool){r:Nat}(hr:r<I) :
  (fD S I md s (dz B F md s M K X)=(if ng then S else 0)+r∧bits BinOp.and .u8 (dG B F I md s M K X:Int) 2=0)↔dV md ng F r G s p d:=by
 rw [zw h md s ng M K X hr];unfold dV;constructor
 ·rintro ⟨rfl,e⟩;exact ⟨Or.inl rfl,by rw [←e];exact hP.rin hd md s⟩
 ·rintro ⟨e|e,g⟩
  ·subst e;exact ⟨rfl,gY.uniq hd (hP.rin hd md s) g⟩
  ·omega
theorem qA{F S:Nat}(md:Nat)(s ng:Bool)(G:Nat){d r:Nat}(hd:0<d) :
  ((if ng then S else 0)=(if ng then S else 0)+r∧bits BinOp.and .u8 ((0:Nat):Int) 2=0)↔dV md ng F r G s 0 d:=by
 have h2:bits BinOp.and .u8 ((0:Nat):Int) 2=0:=by decide
 unfold dV;rw [Nat.zero_mul,Nat.mul_zero];constructor
 ·rintro ⟨e,-⟩;obtain rfl:r=0:=by omega
  exact ⟨Or.inr rfl,sj md ng F hd⟩
 ·rintro ⟨-,g⟩;have:=gY.uniq hd (sj md ng F hd) g;exact ⟨by omega,h2⟩
theorem nY{E F S I md:Nat}(h:Fm E F S I)(ng:Bool)(W:World)(B9:Nat)(A:Option Addr)(N C:Nat)(g:Mine W B9 A N C 0) :
  Calls Tryz.prog 108 #[.agg #[.int .i64 E,.int .i64 F],.agg #[.bool false,.slice A N C,.int .i64 0],.bool ng,.int .u8 (md:Int)] W fun e w'=>e = .returned (.tuple #[.int .u64 ((if ng then S else 0:Nat):Int),.int .u8 ((0:Nat):Int),.int .i64 0])∧Below W.heap.size W w':=by
 obtain rfl:=g.num.zero.2 rfl;exact qg E F _ md ng h.fo A C W ⟨aL _,aL _,by rw [←h.hS];cases ng<;>simp⟩
theorem mU{E F S I B G:Nat}(h:Fm E F S I)(hB:B=2^(E-1)-1)(hG:(G:Int)=(B:Int)+(F:Int)-1){md:Nat}(hm:md≤4)(ng:Bool){s:Bool}{m:Nat}{x:Int}(hO:jS s m x){i j:Nat}(hx:x=(i:Int)-(j:Int)) :
  ∃bt fl:Nat,(∀(W:World)(Bs:Nat)(a:Option Addr)(n c:Nat),Mine W Bs a n c m→Calls Tryz.prog 65 #[.agg #[.int .i64 (E:Int),.int .i64 (F:Int)],.agg #[.bool s,.slice a n c,.int .i64 x],.bool ng,.int .u8 (md:Int)] W fun e w'=>e = .returned (.tuple #[.int .u64 (bt:Int),.int .u8 (fl:Int),.int .i64 0])∧Below W.heap.size W w') ∧
   ∀r,r<I→((bt=(if ng then S else 0)+r∧bits BinOp.and .u8 (fl:Int) 2=0)↔dV md ng F r G s (m*2^i) (2^j)):=by
 have hd:0<2^j:=Nat.pow_pos (by omega);rcases Nat.eq_zero_or_pos m with h0|h0
 ·rcases hO with ⟨-,hs,hx0⟩|⟨ho,-⟩
  ·subst h0;subst hs;subst hx0;refine ⟨if ng then S else 0,0,fun W Bs a n c g=>?_,fun r _=>by rw [Nat.zero_mul];exact qA md false ng G hd⟩;exact ou E F md h.fo hm false a n c 0 0 ng _ _ W Bs g (hide fun W g=>iK false a n c 0 0 W ⟨g,Or.inl ⟨rfl,rfl,rfl⟩⟩) (hide fun W g=>nY h ng W Bs a n c g)
  ·omega
 ·have hA:m%2=1∧-1073741824≤x∧x≤1073741824:=by
   rcases hO with ⟨e,-⟩|e
   ·omega
   ·exact e
  obtain ⟨r0,ρ,w,hP⟩:=lU (yB (c:=65) (K:=aK m) (by decide) hA.1 (bu m) hx) (B:=B) h.fo.f52 h.fo.f1 hG;exact ⟨_,_,fun W Bs a n c g=>uu h hB hm ng s a n c m (aK m) x W Bs g hA (bu m),fun r hr=>hP.goes h hd (Nat.mul_pos h0 (Nat.pow_pos (by omega))) md s ng hr⟩
theorem nD{bt b fl:Nat}{q:Bool}(h:(bt=b∧bits BinOp.and .u8 (fl:Int) 2=0)↔q=true):((bt:Int)≠(b:Int)∧q=false)∨((bt:Int)=(b:Int)∧bits BinOp.and .u8 (fl:Int) 2=0∧q=true)∨((bt:Int)=(b:Int)∧bits BinOp.and .u8 (fl:Int) 2≠0∧q=false):=by
 by_cases he:bt=b
 ·by_cases ho:bits BinOp.and .u8 (fl:Int) 2=0
  ·exact Or.inr (Or.inl ⟨by rw [he],ho,h.1 ⟨he,ho⟩⟩)
  ·exact Or.inr (Or.inr ⟨by rw [he],ho,by cases q<;>simp_all⟩)
 ·exact Or.inl ⟨by omega,by cases q<;>simp_all⟩
theorem vY{E F S I B G:Nat}(h:Fm E F S I)(hB:B=2^(E-1)-1)(hG:(G:Int)=(B:Int)+(F:Int)-1){md:Nat}(hm:md≤4)(t:Bool){r:Nat}(hr:r<I){s:Bool}{m:Nat}{x:Int}(hO:jS s m x){i j:Nat}(hx:x=(i:Int)-(j:Int))(q:Bool)(hq:dV md t F r G s (m*2^i) (2^j)↔q=true)(er:Int)(W:World)(p:Nat)(a:Option Addr)(n c:Nat)(hp:W.heap[p]? = some (.cells #[.int .i64 (E:Int),.int .i64 (F:Int),.int .u64 (((if t then S else 0)+r:Nat):Int),.int .u8 (md:Int),.int .i64 er] 67 (0,0)))(g:Mine W 0 a n c m) :
  Calls Tryz.prog 25 #[.pointer (some ⟨p,0,none⟩),.agg #[.bool s,.slice a n c,.int .i64 x]] W fun e W'=>e = .returned (.bool q)∧Below W.heap.size W W':=by
 have hlt:=h.lt;obtain ⟨bt,fl,hD,hI⟩:=mU h hB hG hm t hO hx;have hs:decide ((((if t then S else 0)+r:Nat):Int)≥(S:Int))=t:=by
  cases t
  ·exact decide_eq_false (by simp;omega)
  ·exact decide_eq_true (by simp;omega)
 have HB:=hide fun (W:World)=>dw E F S h.fo (hide h.hS) W;have HD:Hid (∀W':World,Below W.heap.size W W'→Calls Tryz.prog 65 #[.agg #[.int .i64 (E:Int),.int .i64 (F:Int)],.agg #[.bool s,.slice a n c,.int .i64 x],.bool t,.int .u8 (md:Int)] W' fun e W2=>e = .returned (.tuple #[.int .u64 (bt:Int),.int .u8 (fl:Int),.int .i64 0])∧Below W'.heap.size W' W2):=hide fun W' hb=>hD W' 0 a n c (g.kept hb);exact uU W _ _ _ _ _ p s a n c x t _ _ _ _ q hp hs HB HD rfl (hide (nD ((hI r hr).trans hq)))
def CU(sl sh li hi:Bool)(nl dl nh dh:Nat):Cf:=.pl (fun q=>.tuple #[.agg #[.bool sl,(.slice q.A q.N q.C),(.slice q.A' q.N' q.C')],.agg #[.bool sh,(.slice q.A2 q.N2 q.C2),(.slice q.A3 q.N3 q.C3)],.bool li,.bool hi,.int .i64 0]) (fun q W=>Num W q.A q.N nl∧Num W q.A' q.N' dl∧Num W q.A2 q.N2 nh∧Num W q.A3 q.N3 dh) (fun _=>ed (kz _ _ _) (ed (kz _ _ _) (ed (kz _ _ _) (kz _ _ _))))
def Im(E F b md:Int)(sl sh li hi:Bool)(nl dl nh dh:Nat):Prop:=∀W:World,Tb W→dH W→Calls Tryz.prog 6 #[.agg #[.int .i64 E,.int .i64 F],.int .u64 b,.int .u8 md] W fun en W'=>(∃A N C A' N' C' A2 N2 C2 A3 N3 C3,en = .returned (.tuple #[.agg #[.bool sl,(.slice A N C),(.slice A' N' C')],.agg #[.bool sh,(.slice A2 N2 C2),(.slice A3 N3 C3)],.bool li,.bool hi,.int .i64 0])∧Num W' A N nl∧Num W' A' N' dl∧Num W' A2 N2 nh∧Num W' A3 N3 dh)∧Below W.heap.size W W'
theorem Gw{E F b md:Int}{sl sh li hi:Bool}{nl dl nh dh:Nat}{W:World}(h:Im E F b md sl sh li hi nl dl nh dh)(ht:Tb W)(hn:dH W):Calls Tryz.prog 6 #[.agg #[.int .i64 E,.int .i64 F],.int .u64 b,.int .u8 md] W fun en W'=>∃q,en = .returned ((CU sl sh li hi nl dl nh dh).f q)∧Below W.heap.size W W'∧(CU sl sh li hi nl dl nh dh).g q W':=
 (h W ht hn).mono fun _ _ ⟨⟨a,n,c,a',n',c',a2,n2,c2,a3,n3,c3,h1,k1,k2,k3,k4⟩,h2⟩=>⟨{ iH with A:=a,N:=n,C:=c,A':=a',N':=n',C':=c',A2:=a2,N2:=n2,C2:=c2,A3:=a3,N3:=n3,C3:=c3 },h1,h2,k1,k2,k3,k4⟩
end Go.Proofs.YtaidedkpfnidpaaGreatDoor
