/- Of what DigitsNamesRow stands on: ExSum NrSum NrMid DgAllW ExTopLaw0 DbEq. -/
import Derived.Test.YtplihgoapiiigaaGreatDoorPbc
import Derived.Test.YtplihgoapiiigaaGreatDoorPba
import Derived.Test.YtplihgoapiiigaaGreatDoorPal
import Derived.Test.YtplihgoapiiigaaGreatDoorPaw
import Derived.Test.YtplihgoapiiigaaGreatDoorPai
import Derived.Test.YtplihgoapiiigaaGreatDoorPad
import Derived.Test.YtplihgoapiiigaaGreatDoorPaj
import Derived.Test.YtplihgoapiiigaaGreatDoorPbd
import Derived.Test.YtplihgoapiiigaaGreatDoorPab
import Derived.Test.YtplihgoapiiigaaGreatDoorPbb
namespace Go.Proofs.YtplihgoapiiigaaGreatDoor
open Go.RowKit
set_option maxHeartbeats 2000000
set_option maxRecDepth 20000
def OkD (s:Bool) (m:Nat) (x:Int):Prop:=(m = 0∧s = false∧x = 0)∨(m % 2 = 1∧-1073741824≤x∧x≤1073741824)
theorem mine_none (w:World) (base:Nat):Mine w base none 0 0 0:=⟨[],rfl,Or.inl ⟨rfl,rfl⟩,Pl.wf_nil,Pl.norm_nil,rfl,by omega⟩
def Vals (E F b:Int) (s:Bool) (m:Nat) (x:Int):Prop:=∀ W:World,Tb W→Calls Tryz.prog 18 #[.agg #[.int .i64 E,.int .i64 F],.int .u64 b] W fun e w'=>(∃ A N C,e = .returned (.tuple #[.agg #[.bool s,.slice A N C,.int .i64 x],.int .i64 0])∧Mine w' W.heap.size A N C m)∧Below W.heap.size W w'
theorem nmul_is {m m' v e:Nat} (hv:m * m' = v) (he:v < 2 ^ e) (he2:e≤524288) (W:World) (a:Option Addr) (n c:Nat) (a':Option Addr) (n' c':Nat) (h:Num W a n m) (h':Num W a' n' m') :
  Calls Tryz.prog 34 #[.agg #[.slice a n c],.agg #[.slice a' n' c']] W fun en W'=>(∃ a n c,en = .returned (.tuple #[.agg #[.slice a n c],.int .i64 0])∧Mine W' W.heap.size a n c v)∧Below W.heap.size W W':=by
 subst hv
 exact (mul_any a a' n n' c c' m m' W h h').mono fun e W' ⟨h1,h2⟩=>⟨h1.ok (over_two he he2),h2⟩
theorem ddec_is (w:World) (sa:Bool) (a:Option Addr) (n c m:Nat) (x y:Int) (i j p u N e:Nat) (t:ByteArray) (h:Num w a n m) (hx:-100000≤x) (hi:max x 0 = (i:Int)) (hj:max (-x) 0 = (j:Int)) (hy:min x 0 = y) (hp:5 ^ j = p) (hpe:p < 2 ^ e) (hu:m * 2 ^ i = u) (hue:u < 2 ^ e) (hN:u * p = N) (hNe:N < 2 ^ e) (he:e≤524288) (hi2:i≤100000) (hj2:j≤100000) (htp:Tpw w) (HT:Hid (∀ (W:World) (a:Option Addr) (n c:Nat),Tpw W→Num W a n N→Calls Tryz.prog 36 #[.agg #[.slice a n c]] W fun e W'=>e = .returned (.tuple #[.string t,.int .i64 0])∧Below W.heap.size W W')) :
  Calls Tryz.prog 19 #[.agg #[.bool sa,.slice a n c,.int .i64 x]] w fun en w'=>en = .returned (.tuple #[.string t,.int .i64 y,.int .i64 0])∧Below w.heap.size w w':=by
 refine calls_sym Tryz.func19 rfl (by kernel_rfl) fun T hK=>?_
 replace hK:Kn T _ [(0,.agg #[.bool sa,.slice a n c,.int .i64 x])]:=hK
 have hS:=Fb.begin w
 have hG:GsAt [gN a n m] w:=⟨h,trivial⟩
 refine wq hS hG hK (fun p1=>[.n 1 #[.bool sa,.slice a n c,.int .i64 x] 44,.v 2 (.string { data:=#[] }),.v 3 (.int .i64 0),.v 4 (.int .i64 0)]) (fun p1=>[(1,pT (p1 0).N 0),(2,.string { data:=#[] }),(3,.int .i64 0),(4,.int .i64 0)]) (fun p1=>?_) (fun p1 W1 T hF hK=>?_)
 ·refine okn ?_
  iterate 3 refine okv ?_
  exact ok_nil
 replace hS:=SymF.fc hS hF [1000] [⟨(p1 0).N,#[.bool sa,.slice a n c,.int .i64 x],44,true⟩]
 replace hG:=hF.gx
 clear hF
 refine wq hS hG hK (fun p2=>[.n 5 #[.int .i64 0] 70]) (fun p2=>[(1,pT (p1 0).N 0),(2,.string { data:=#[] }),(3,.int .i64 0),(4,.int .i64 0),(5,pT (p2 0).N 0)]) (fun p2=>?_) (fun p2 W2 T hF hK=>?_)
 ·refine okn ?_
  exact ok_nil
 replace hS:=SymF.fc hS hF [0,1000] [⟨(p1 0).N,#[.bool sa,.slice a n c,.int .i64 x],44,true⟩,⟨(p2 0).N,#[.int .i64 0],70,true⟩]
 replace hG:=hF.gx
 clear hF
 refine wq hS hG hK (fun p3=>[.v 8 (pT (p1 0).N 2),.l 9 (.int .i64 x) 0 2,.v 10 (.int .i64 (-x)),.v 11 (.int .i64 (j:Int)),.c (some 12) (cO W2.heap.size p),.v 13 (.agg #[.slice (p3 4).A (p3 4).N (p3 4).C]),.v 14 (.int .i64 0),.u 15 (.agg #[.slice (p3 4).A (p3 4).N (p3 4).C]) (aG 1),.n 6 #[.slice none 0 0] 42,.p 1008 0 [.slice (p3 4).A (p3 4).N (p3 4).C]]) (fun p3=>[(1,pT (p1 0).N 0),(2,.string { data:=#[] }),(3,.int .i64 0),(4,.int .i64 0),(5,pT (p2 0).N 0),(6,pT (p3 8).N 0)]) (fun p3=>?_) (fun p3 W3 T hF hK=>?_)
 ·refine okv ?_
  refine okl ?_
  refine okvi ((wr64 (x:=0 - x) (by omega) (by omega)).trans (by omega)) ?_
  refine okvi ((imax (-x) 0).trans hj) ?_
  refine okc (fun W cx=>as_o cx.hb (npow_is (b:=5) hp hpe he (by decide) (by omega) _)) ?_
  iterate 2 refine okv ?_
  refine oku (fun W cx=>runNat_z (p2 0).N 0 _ _ _ _ ⟨_,_,cx.B 1 _ rfl (by kernel_rfl) (by kernel_rfl),rfl⟩) ?_
  refine okn ?_
  refine okp ?_
  exact ok_nil
 replace hS:=SymF.fc hS hF [0,1,1008] [⟨(p1 0).N,#[.bool sa,.slice a n c,.int .i64 x],44,true⟩,⟨(p2 0).N,#[.int .i64 0],70,true⟩,⟨(p3 8).N,#[.slice (p3 4).A (p3 4).N (p3 4).C],42,true⟩]
 replace hG:GsAt (gM W2.heap.size (p3 4).A (p3 4).N (p3 4).C p :: _) W3:=⟨hF.fx 4,hF.gx⟩
 clear hF
 refine wq hS hG hK (fun p4=>[.v 16 (pT (p1 0).N 1),.l 17 (.agg #[.slice a n c]) 0 1,.v 18 (pT (p1 0).N 2),.l 19 (.int .i64 x) 0 2,.v 20 (.int .i64 (i:Int)),.c (some 21) (cO W3.heap.size u),.v 22 (.agg #[.slice (p4 5).A (p4 5).N (p4 5).C]),.v 23 (.int .i64 0),.u 24 (.agg #[.slice (p4 5).A (p4 5).N (p4 5).C]) (aG 1),.l 25 (.agg #[.slice (p3 4).A (p3 4).N (p3 4).C]) 2 0,.c (some 26) (cO W3.heap.size N),.v 27 (.agg #[.slice (p4 10).A (p4 10).N (p4 10).C]),.v 28 (.int .i64 0),.u 29 (.agg #[.slice (p4 10).A (p4 10).N (p4 10).C]) (aG 1),.n 7 #[.slice none 0 0] 42,.p 1014 0 [.slice (p4 10).A (p4 10).N (p4 10).C]]) (fun p4=>[(1,pT (p1 0).N 0),(2,.string { data:=#[] }),(3,.int .i64 0),(4,.int .i64 0),(5,pT (p2 0).N 0),(7,pT (p4 14).N 0)]) (fun p4=>?_) (fun p4 W4 T hF hK=>?_)
 ·refine okv ?_
  refine okl ?_
  refine okv ?_
  refine okl ?_
  refine okvi ((imax x 0).trans hi) ?_
  refine okc (fun W cx=>as_o cx.hb (nup_is (k:=i) hu hue he (by omega) _ _ _ c (cx.G.2.1))) ?_
  iterate 2 refine okv ?_
  refine oku (fun W cx=>runNat_z (p2 0).N 0 _ _ _ _ ⟨_,_,cx.B 1 _ rfl (by kernel_rfl) (by kernel_rfl),rfl⟩) ?_
  refine okl ?_
  refine okc (fun W cx=>as_o cx.hb (nmul_is hN hNe he _ _ _ (p4 5).C _ _ (p3 4).C (Mine.num (cx.F 5 (by kernel_rfl))) (Mine.num cx.G.1))) ?_
  iterate 2 refine okv ?_
  refine oku (fun W cx=>runNat_z (p2 0).N 0 _ _ _ _ ⟨_,_,cx.B 1 _ rfl (by kernel_rfl) (by kernel_rfl),rfl⟩) ?_
  refine okn ?_
  refine okp ?_
  exact ok_nil
 replace hS:=SymF.fc hS hF [0,1,1014] [⟨(p1 0).N,#[.bool sa,.slice a n c,.int .i64 x],44,true⟩,⟨(p2 0).N,#[.int .i64 0],70,true⟩,⟨(p4 14).N,#[.slice (p4 10).A (p4 10).N (p4 10).C],42,true⟩]
 replace hG:GsAt (gM W3.heap.size (p4 5).A (p4 5).N (p4 5).C u :: gM W3.heap.size (p4 10).A (p4 10).N (p4 10).C N :: _) W4:=⟨hF.fx 5,hF.fx 10,hF.gx⟩
 clear hF
 refine wq hS hG hK (fun p5=>[.l 31 (.agg #[.slice (p4 10).A (p4 10).N (p4 10).C]) 2 0,.c (some 32) (cV (.tuple #[.string t,.int .i64 0])),.v 30 (.tuple #[.string t,.int .i64 0]),.v 33 (.string t),.v 34 (.int .i64 0),.v 2 (.string t),.v 4 (.int .i64 0)]) (fun p5=>[(1,pT (p1 0).N 0),(2,.string t),(3,.int .i64 0),(4,.int .i64 0),(5,pT (p2 0).N 0)]) (fun p5=>?_) (fun p5 W5 T hF hK=>?_)
 ·refine okl ?_
  refine okc (fun W cx=>as_v (unhide HT _ _ _ (p4 10).C (htp.kept cx.fr) (Mine.num cx.G.2.1))) ?_
  iterate 5 refine okv ?_
  exact ok_nil
 replace hS:=SymF.fc hS hF [0,1] [⟨(p1 0).N,#[.bool sa,.slice a n c,.int .i64 x],44,true⟩,⟨(p2 0).N,#[.int .i64 0],70,true⟩]
 replace hG:=hF.gx
 clear hF
 refine wq hS hG hK (fun p6=>[.v 35 (.int .i64 0),.c (some 36) (cV (.tuple #[]))]) (fun p6=>[(1,pT (p1 0).N 0),(2,.string t),(3,.int .i64 0),(4,.int .i64 0),(5,pT (p2 0).N 0)]) (fun p6=>?_) (fun p6 W6 T hF hK=>?_)
 ·refine okv ?_
  refine okc (fun W cx=>as_v (keep_z (p2 0).N 0 _ ⟨_,_,cx.B 1 _ rfl (by kernel_rfl) (by kernel_rfl),rfl⟩)) ?_
  exact ok_nil
 obtain ⟨hS,hG⟩:=SymF.fg hS hF
 clear hF
 refine wq hS hG hK (fun p7=>[.v 37 (.string t),.v 38 (pT (p1 0).N 2),.l 39 (.int .i64 x) 0 2,.v 40 (.int .i64 y),.v 41 (pT (p2 0).N 0),.l 42 (.int .i64 0) 1 0,.v 2 (.string t),.v 3 (.int .i64 y),.v 4 (.int .i64 0)]) (fun p7=>[(2,.string t),(3,.int .i64 y),(4,.int .i64 0)]) (fun p7=>?_) (fun p7 W7 T hF hK=>?_)
 ·iterate 2 refine okv ?_
  refine okl ?_
  refine okvi ((imin x 0).trans hy) ?_
  refine okv ?_
  refine okl ?_
  iterate 3 refine okv ?_
  exact ok_nil
 replace hS:=SymF.fc hS hF [] []
 replace hG:=hF.gx
 clear hF
 refine wp_ret ?_
 exact sym_end hS hK (.tuple #[.string t,.int .i64 y,.int .i64 0]) [] [] (by kernel_rfl) (by kernel_rfl) ⟨rfl,hS.fr⟩
theorem dsgn_is (w:World) (E F b q:Nat) (g:Bool) (hE:E≤100) (hF:F≤100) (hq:((b:Int)).fdiv (2 ^ min (((E:Int)+(F:Int))).toNat 64) = (q:Int)) (hg:((q:Int) == 1) = g) :
  Calls Tryz.prog 21 #[.agg #[.int .i64 (E:Int),.int .i64 (F:Int)],.int .u64 (b:Int)] w fun en w'=>en = .returned (.bool g)∧Below w.heap.size w w':=by
 refine calls_sym Tryz.func21 rfl (by kernel_rfl) fun T hK=>?_
 replace hK:Kn T _ [(0,.agg #[.int .i64 (E:Int),.int .i64 (F:Int)]),(1,.int .u64 (b:Int))]:=hK
 have hS:=Fb.begin w
 have hG:GsAt [] w:=trivial
 refine wq hS hG hK (fun p1=>[.n 2 #[.int .i64 (E:Int),.int .i64 (F:Int)] 24,.v 4 (.bool false)]) (fun p1=>[(1,.int .u64 (b:Int)),(2,pT (p1 0).N 0),(4,.bool false)]) (fun p1=>?_) (fun p1 W1 T hF hK=>?_)
 ·refine okn ?_
  refine okv ?_
  exact ok_nil
 replace hS:=SymF.fc hS hF [1000] [⟨(p1 0).N,#[.int .i64 (E:Int),.int .i64 (F:Int)],24,true⟩]
 replace hG:=hF.gx
 clear hF
 refine wq hS hG hK (fun p2=>[.v 5 (.int .u64 (b:Int)),.v 6 (pT (p1 0).N 0),.l 7 (.int .i64 (E:Int)) 0 0,.v 8 (pT (p1 0).N 1),.l 9 (.int .i64 (F:Int)) 0 1,.v 10 (.int .i64 ((E:Int)+(F:Int))),.v 11 (.int .u64 (q:Int)),.v 12 (.bool g),.v 4 (.bool g)]) (fun p2=>[(4,.bool g)]) (fun p2=>?_) (fun p2 W2 T hF hK=>?_)
 ·iterate 2 refine okv ?_
  refine okl ?_
  refine okv ?_
  refine okl ?_
  refine okvi (wr64 (x:=(E:Int)+(F:Int)) (by omega) (by omega)) ?_
  refine okvi (hq) ?_
  refine okvb (hg) ?_
  refine okv ?_
  exact ok_nil
 replace hS:=SymF.fc hS hF [] []
 replace hG:=hF.gx
 clear hF
 refine wp_ret ?_
 exact sym_end hS hK (.bool g) [] [] (by kernel_rfl) (by kernel_rfl) ⟨rfl,hS.fr⟩
theorem dall_ok (w:World) (E F b m:Nat) (sa g g3:Bool) (x y x3:Int) (t s3:ByteArray) (ht:Tb w) (htp:Tpw w) (HV:Hid (Vals E F b sa m x)) (HD:Hid (∀ (W:World) (a:Option Addr) (n c:Nat),Tpw W→Num W a n m→Calls Tryz.prog 19 #[.agg #[.bool sa,.slice a n c,.int .i64 x]] W fun e W'=>e = .returned (.tuple #[.string t,.int .i64 y,.int .i64 0])∧Below W.heap.size W W')) (HG:Hid (∀ W:World,Calls Tryz.prog 21 #[.agg #[.int .i64 (E:Int),.int .i64 (F:Int)],.int .u64 (b:Int)] W fun e W'=>e = .returned (.bool g)∧Below W.heap.size W W')) (HM:Hid (∀ W:World,Calls Tryz.prog 20 #[.bool g,.string t,.int .i64 y] W fun e W'=>e = .returned (.tuple #[.agg #[.bool g3,.string s3,.int .i64 x3],.int .i64 0])∧Below W.heap.size W W')) :
  Calls Tryz.prog 12 #[.agg #[.int .i64 (E:Int),.int .i64 (F:Int)],.int .u64 (b:Int)] w fun en w'=>en = .returned (.tuple #[.agg #[.bool g3,.string s3,.int .i64 x3],.int .i64 0])∧Below w.heap.size w w':=by
 refine calls_sym Tryz.func12 rfl (by kernel_rfl) fun T hK=>?_
 replace hK:Kn T _ [(0,.agg #[.int .i64 (E:Int),.int .i64 (F:Int)]),(1,.int .u64 (b:Int))]:=hK
 have hS:=Fb.begin w
 have hG:GsAt [] w:=trivial
 refine wq hS hG hK (fun p1=>[.n 2 #[.int .i64 (E:Int),.int .i64 (F:Int)] 24,.n 4 #[.bool false,.string ⟨#[]⟩,.int .i64 0] 30,.v 5 (.int .i64 0)]) (fun p1=>[(1,.int .u64 (b:Int)),(2,pT (p1 0).N 0),(4,pT (p1 1).N 0),(5,.int .i64 0)]) (fun p1=>?_) (fun p1 W1 T hF hK=>?_)
 ·iterate 2 refine okn ?_
  refine okv ?_
  exact ok_nil
 replace hS:=SymF.fc hS hF [1000,1001] [⟨(p1 0).N,#[.int .i64 (E:Int),.int .i64 (F:Int)],24,true⟩,⟨(p1 1).N,#[.bool false,.string ⟨#[]⟩,.int .i64 0],30,true⟩]
 replace hG:=hF.gx
 clear hF
 refine wq hS hG hK (fun p2=>[.l 11 (.agg #[.int .i64 (E:Int),.int .i64 (F:Int)]) 0 0,.v 12 (.int .u64 (b:Int)),.c (some 13) (cG W1.heap.size m fun x9=>.tuple #[.agg #[.bool sa,x9,.int .i64 x],.int .i64 0]),.v 10 (.tuple #[.agg #[.bool sa,.slice (p2 2).A (p2 2).N (p2 2).C,.int .i64 x],.int .i64 0]),.v 14 (.agg #[.bool sa,.slice (p2 2).A (p2 2).N (p2 2).C,.int .i64 x]),.v 15 (.int .i64 0),.n 6 #[.bool false,.slice none 0 0,.int .i64 0] 44,.p 1006 0 [.bool sa,.slice (p2 2).A (p2 2).N (p2 2).C,.int .i64 x],.v 7 (.int .i64 0)]) (fun p2=>[(1,.int .u64 (b:Int)),(2,pT (p1 0).N 0),(4,pT (p1 1).N 0),(5,.int .i64 0),(6,pT (p2 6).N 0),(7,.int .i64 0)]) (fun p2=>?_) (fun p2 W2 T hF hK=>?_)
 ·refine okl ?_
  refine okv ?_
  refine okc (fun W cx=>as_g cx.hb (unhide HV _ (ht.kept cx.fr))) ?_
  iterate 3 refine okv ?_
  refine okn ?_
  refine okp ?_
  refine okv ?_
  exact ok_nil
 replace hS:=SymF.fc hS hF [0,1,1006] [⟨(p1 0).N,#[.int .i64 (E:Int),.int .i64 (F:Int)],24,true⟩,⟨(p1 1).N,#[.bool false,.string ⟨#[]⟩,.int .i64 0],30,true⟩,⟨(p2 6).N,#[.bool sa,.slice (p2 2).A (p2 2).N (p2 2).C,.int .i64 x],44,true⟩]
 replace hG:GsAt (gM W1.heap.size (p2 2).A (p2 2).N (p2 2).C m :: _) W2:=⟨hF.fx 2,hF.gx⟩
 clear hF
 refine wp_seq ?_
 refine wq hS hG hK (fun p3=>[.v 16 (.int .i64 0),.v 17 (.bool false)]) (fun p3=>[(1,.int .u64 (b:Int)),(2,pT (p1 0).N 0),(4,pT (p1 1).N 0),(5,.int .i64 0),(6,pT (p2 6).N 0),(7,.int .i64 0),(17,.bool false)]) (fun p3=>?_) (fun p3 W3 T hF hK=>?_)
 ·iterate 2 refine okv ?_
  exact ok_nil
 obtain ⟨hS,hG⟩:=SymF.fg hS hF
 clear hF
 refine wp_cond_false (hK.ew 17) (wp_skip (then_n ?_))
 refine wq hS hG hK (fun p4=>[.l 21 (.agg #[.bool sa,.slice (p2 2).A (p2 2).N (p2 2).C,.int .i64 x]) 2 0,.c (some 22) (cV (.tuple #[.string t,.int .i64 y,.int .i64 0])),.v 20 (.tuple #[.string t,.int .i64 y,.int .i64 0]),.v 23 (.string t),.v 24 (.int .i64 y),.v 25 (.int .i64 0),.v 8 (.string t),.v 9 (.int .i64 y),.v 7 (.int .i64 0)]) (fun p4=>[(1,.int .u64 (b:Int)),(2,pT (p1 0).N 0),(4,pT (p1 1).N 0),(5,.int .i64 0),(7,.int .i64 0),(8,.string t),(9,.int .i64 y),(17,.bool false)]) (fun p4=>?_) (fun p4 W4 T hF hK=>?_)
 ·refine okl ?_
  refine okc (fun W cx=>as_v (unhide HD _ _ _ (p2 2).C (htp.kept cx.fr) (Mine.num cx.G.1))) ?_
  iterate 7 refine okv ?_
  exact ok_nil
 replace hS:=SymF.fc hS hF [0,1] [⟨(p1 0).N,#[.int .i64 (E:Int),.int .i64 (F:Int)],24,true⟩,⟨(p1 1).N,#[.bool false,.string ⟨#[]⟩,.int .i64 0],30,true⟩]
 replace hG:=hF.gx
 clear hF
 refine wp_seq ?_
 refine wq hS hG hK (fun p5=>[.v 26 (.int .i64 0),.v 27 (.bool false)]) (fun p5=>[(1,.int .u64 (b:Int)),(2,pT (p1 0).N 0),(4,pT (p1 1).N 0),(5,.int .i64 0),(7,.int .i64 0),(8,.string t),(9,.int .i64 y),(17,.bool false),(27,.bool false)]) (fun p5=>?_) (fun p5 W5 T hF hK=>?_)
 ·iterate 2 refine okv ?_
  exact ok_nil
 obtain ⟨hS,hG⟩:=SymF.fg hS hF
 clear hF
 refine wp_cond_false (hK.ew 27) (wp_skip (then_n ?_))
 refine wq hS hG hK (fun p6=>[.l 30 (.agg #[.int .i64 (E:Int),.int .i64 (F:Int)]) 0 0,.v 31 (.int .u64 (b:Int)),.c (some 32) (cV (.bool g)),.v 33 (.string t),.v 34 (.int .i64 y),.c (some 35) (cV (.tuple #[.agg #[.bool g3,.string s3,.int .i64 x3],.int .i64 0])),.v 36 (.agg #[.bool g3,.string s3,.int .i64 x3]),.v 37 (.int .i64 0),.p 1 0 [.bool g3,.string s3,.int .i64 x3],.v 5 (.int .i64 0)]) (fun p6=>[(4,pT (p1 1).N 0),(5,.int .i64 0),(7,.int .i64 0),(17,.bool false),(27,.bool false)]) (fun p6=>?_) (fun p6 W6 T hF hK=>?_)
 ·refine okl ?_
  refine okv ?_
  refine okc (fun W cx=>as_v (unhide HG _)) ?_
  iterate 2 refine okv ?_
  refine okc (fun W cx=>as_v (unhide HM _)) ?_
  iterate 2 refine okv ?_
  refine okp ?_
  refine okv ?_
  exact ok_nil
 replace hS:=SymF.fc hS hF [1] [⟨(p1 1).N,#[.bool g3,.string s3,.int .i64 x3],30,true⟩]
 replace hG:=hF.gx
 clear hF
 refine wp_ret ?_
 exact sym_end hS hK (.tuple #[.agg #[.bool g3,.string s3,.int .i64 x3],.int .i64 0]) [(0,0,3)] [.bool g3,.string s3,.int .i64 x3] (by kernel_rfl) (by kernel_rfl) ⟨rfl,hS.fr⟩
theorem dcount_ok (w:World) (E F b:Int) (g3:Bool) (s3:ByteArray) (x3:Int) (ht:Tb w) (htp:Tpw w) (HA:Hid (∀ W:World,Tb W→Tpw W→Calls Tryz.prog 12 #[.agg #[.int .i64 E,.int .i64 F],.int .u64 b] W fun e W'=>e = .returned (.tuple #[.agg #[.bool g3,.string s3,.int .i64 x3],.int .i64 0])∧Below W.heap.size W W')) :
  Calls Tryz.prog 5 #[.agg #[.int .i64 E,.int .i64 F],.int .u64 b] w fun en w'=>en = .returned (.tuple #[.int .i64 (s3.size:Int),.int .i64 0])∧Below w.heap.size w w':=by
 refine calls_sym Tryz.func5 rfl (by kernel_rfl) fun T hK=>?_
 replace hK:Kn T _ [(0,.agg #[.int .i64 E,.int .i64 F]),(1,.int .u64 b)]:=hK
 have hS:=Fb.begin w
 have hG:GsAt [] w:=trivial
 refine wq hS hG hK (fun p1=>[.n 2 #[.int .i64 E,.int .i64 F] 24,.v 4 (.int .i64 0),.v 5 (.int .i64 0)]) (fun p1=>[(1,.int .u64 b),(2,pT (p1 0).N 0),(4,.int .i64 0),(5,.int .i64 0)]) (fun p1=>?_) (fun p1 W1 T hF hK=>?_)
 ·refine okn ?_
  iterate 2 refine okv ?_
  exact ok_nil
 replace hS:=SymF.fc hS hF [1000] [⟨(p1 0).N,#[.int .i64 E,.int .i64 F],24,true⟩]
 replace hG:=hF.gx
 clear hF
 refine wq hS hG hK (fun p2=>[.l 9 (.agg #[.int .i64 E,.int .i64 F]) 0 0,.v 10 (.int .u64 b),.c (some 11) (cV (.tuple #[.agg #[.bool g3,.string s3,.int .i64 x3],.int .i64 0])),.v 8 (.tuple #[.agg #[.bool g3,.string s3,.int .i64 x3],.int .i64 0]),.v 12 (.agg #[.bool g3,.string s3,.int .i64 x3]),.v 13 (.int .i64 0),.n 6 #[.bool false,.string ⟨#[]⟩,.int .i64 0] 30,.p 1006 0 [.bool g3,.string s3,.int .i64 x3],.v 7 (.int .i64 0)]) (fun p2=>[(4,.int .i64 0),(5,.int .i64 0),(6,pT (p2 6).N 0),(7,.int .i64 0)]) (fun p2=>?_) (fun p2 W2 T hF hK=>?_)
 ·refine okl ?_
  refine okv ?_
  refine okc (fun W cx=>as_v (unhide HA _ (ht.kept cx.fr) (htp.kept cx.fr))) ?_
  iterate 3 refine okv ?_
  refine okn ?_
  refine okp ?_
  refine okv ?_
  exact ok_nil
 replace hS:=SymF.fc hS hF [1006] [⟨(p2 6).N,#[.bool g3,.string s3,.int .i64 x3],30,true⟩]
 replace hG:=hF.gx
 clear hF
 refine wq hS hG hK (fun p3=>[.v 14 (pT (p2 6).N 1),.l 15 (.string s3) 0 1,.v 16 (.int .i64 (s3.size:Int)),.v 17 (.int .i64 0),.v 4 (.int .i64 (s3.size:Int)),.v 5 (.int .i64 0)]) (fun p3=>[(4,.int .i64 (s3.size:Int)),(5,.int .i64 0)]) (fun p3=>?_) (fun p3 W3 T hF hK=>?_)
 ·refine okv ?_
  refine okl ?_
  iterate 4 refine okv ?_
  exact ok_nil
 replace hS:=SymF.fc hS hF [] []
 replace hG:=hF.gx
 clear hF
 refine wp_ret ?_
 exact sym_end hS hK (.tuple #[.int .i64 (s3.size:Int),.int .i64 0]) [] [] (by kernel_rfl) (by kernel_rfl) ⟨rfl,hS.fr⟩
theorem dsome_ok (w:World) (E F b:Int) (k md:Int) (g3 g4 is:Bool) (s3 s4:ByteArray) (x3 x4 e4:Int) (ht:Tb w) (htp:Tpw w) (HA:Hid (∀ W:World,Tb W→Tpw W→Calls Tryz.prog 12 #[.agg #[.int .i64 E,.int .i64 F],.int .u64 b] W fun e W'=>e = .returned (.tuple #[.agg #[.bool g3,.string s3,.int .i64 x3],.int .i64 0])∧Below W.heap.size W W')) (HR:Hid (∀ W:World,Calls Tryz.prog 14 #[.agg #[.bool g3,.string s3,.int .i64 x3],.int .i64 k,.int .u8 md] W fun e W'=>e = .returned (.tuple #[.agg #[.bool g4,.string s4,.int .i64 x4],.bool is,.int .i64 e4])∧Below W.heap.size W W')) :
  Calls Tryz.prog 7 #[.agg #[.int .i64 E,.int .i64 F],.int .u64 b,.int .i64 k,.int .u8 md] w fun en w'=>en = .returned (.tuple #[.agg #[.bool g4,.string s4,.int .i64 x4],.bool is,.int .i64 e4])∧Below w.heap.size w w':=by
 refine calls_sym Tryz.func7 rfl (by kernel_rfl) fun T hK=>?_
 replace hK:Kn T _ [(0,.agg #[.int .i64 E,.int .i64 F]),(1,.int .u64 b),(2,.int .i64 k),(3,.int .u8 md)]:=hK
 have hS:=Fb.begin w
 have hG:GsAt [] w:=trivial
 refine wq hS hG hK (fun p1=>[.n 4 #[.int .i64 E,.int .i64 F] 24,.n 8 #[.bool false,.string ⟨#[]⟩,.int .i64 0] 30,.v 9 (.bool false),.v 10 (.int .i64 0)]) (fun p1=>[(1,.int .u64 b),(2,.int .i64 k),(3,.int .u8 md),(4,pT (p1 0).N 0),(8,pT (p1 1).N 0),(9,.bool false),(10,.int .i64 0)]) (fun p1=>?_) (fun p1 W1 T hF hK=>?_)
 ·iterate 2 refine okn ?_
  iterate 2 refine okv ?_
  exact ok_nil
 replace hS:=SymF.fc hS hF [1000,1001] [⟨(p1 0).N,#[.int .i64 E,.int .i64 F],24,true⟩,⟨(p1 1).N,#[.bool false,.string ⟨#[]⟩,.int .i64 0],30,true⟩]
 replace hG:=hF.gx
 clear hF
 refine wq hS hG hK (fun p2=>[.l 14 (.agg #[.int .i64 E,.int .i64 F]) 0 0,.v 15 (.int .u64 b),.c (some 16) (cV (.tuple #[.agg #[.bool g3,.string s3,.int .i64 x3],.int .i64 0])),.v 13 (.tuple #[.agg #[.bool g3,.string s3,.int .i64 x3],.int .i64 0]),.v 17 (.agg #[.bool g3,.string s3,.int .i64 x3]),.v 18 (.int .i64 0),.n 11 #[.bool false,.string ⟨#[]⟩,.int .i64 0] 30,.p 1006 0 [.bool g3,.string s3,.int .i64 x3],.v 12 (.int .i64 0)]) (fun p2=>[(2,.int .i64 k),(3,.int .u8 md),(8,pT (p1 1).N 0),(9,.bool false),(10,.int .i64 0),(11,pT (p2 6).N 0),(12,.int .i64 0)]) (fun p2=>?_) (fun p2 W2 T hF hK=>?_)
 ·refine okl ?_
  refine okv ?_
  refine okc (fun W cx=>as_v (unhide HA _ (ht.kept cx.fr) (htp.kept cx.fr))) ?_
  iterate 3 refine okv ?_
  refine okn ?_
  refine okp ?_
  refine okv ?_
  exact ok_nil
 replace hS:=SymF.fc hS hF [1,1006] [⟨(p1 1).N,#[.bool false,.string ⟨#[]⟩,.int .i64 0],30,true⟩,⟨(p2 6).N,#[.bool g3,.string s3,.int .i64 x3],30,true⟩]
 replace hG:=hF.gx
 clear hF
 refine wp_seq ?_
 refine wq hS hG hK (fun p3=>[.v 19 (.int .i64 0),.v 20 (.bool false)]) (fun p3=>[(2,.int .i64 k),(3,.int .u8 md),(8,pT (p1 1).N 0),(9,.bool false),(10,.int .i64 0),(11,pT (p2 6).N 0),(12,.int .i64 0),(20,.bool false)]) (fun p3=>?_) (fun p3 W3 T hF hK=>?_)
 ·iterate 2 refine okv ?_
  exact ok_nil
 obtain ⟨hS,hG⟩:=SymF.fg hS hF
 clear hF
 refine wp_cond_false (hK.ew 20) (wp_skip (then_n ?_))
 refine wq hS hG hK (fun p4=>[.l 23 (.agg #[.bool g3,.string s3,.int .i64 x3]) 1 0,.v 24 (.int .i64 k),.v 25 (.int .u8 md),.c (some 26) (cV (.tuple #[.agg #[.bool g4,.string s4,.int .i64 x4],.bool is,.int .i64 e4])),.v 27 (.agg #[.bool g4,.string s4,.int .i64 x4]),.v 28 (.bool is),.v 29 (.int .i64 e4),.p 0 0 [.bool g4,.string s4,.int .i64 x4],.v 9 (.bool is),.v 10 (.int .i64 e4)]) (fun p4=>[(8,pT (p1 1).N 0),(9,.bool is),(10,.int .i64 e4),(12,.int .i64 0),(20,.bool false)]) (fun p4=>?_) (fun p4 W4 T hF hK=>?_)
 ·refine okl ?_
  iterate 2 refine okv ?_
  refine okc (fun W cx=>as_v (unhide HR _)) ?_
  iterate 3 refine okv ?_
  refine okp ?_
  iterate 2 refine okv ?_
  exact ok_nil
 replace hS:=SymF.fc hS hF [0] [⟨(p1 1).N,#[.bool g4,.string s4,.int .i64 x4],30,true⟩]
 replace hG:=hF.gx
 clear hF
 refine wp_ret ?_
 exact sym_end hS hK (.tuple #[.agg #[.bool g4,.string s4,.int .i64 x4],.bool is,.int .i64 e4]) [(0,0,3)] [.bool g4,.string s4,.int .i64 x4] (by kernel_rfl) (by kernel_rfl) ⟨rfl,hS.fr⟩
theorem dplaces_ok (w:World) (E F b:Int) (k md:Int) (g3 g4 is:Bool) (s3 s4:ByteArray) (x3 x4 e4:Int) (ht:Tb w) (htp:Tpw w) (HA:Hid (∀ W:World,Tb W→Tpw W→Calls Tryz.prog 12 #[.agg #[.int .i64 E,.int .i64 F],.int .u64 b] W fun e W'=>e = .returned (.tuple #[.agg #[.bool g3,.string s3,.int .i64 x3],.int .i64 0])∧Below W.heap.size W W')) (HR:Hid (∀ W:World,Calls Tryz.prog 13 #[.agg #[.bool g3,.string s3,.int .i64 x3],.int .i64 k,.int .u8 md] W fun e W'=>e = .returned (.tuple #[.agg #[.bool g4,.string s4,.int .i64 x4],.bool is,.int .i64 e4])∧Below W.heap.size W W')) :
  Calls Tryz.prog 6 #[.agg #[.int .i64 E,.int .i64 F],.int .u64 b,.int .i64 k,.int .u8 md] w fun en w'=>en = .returned (.tuple #[.agg #[.bool g4,.string s4,.int .i64 x4],.bool is,.int .i64 e4])∧Below w.heap.size w w':=by
 refine calls_sym Tryz.func6 rfl (by kernel_rfl) fun T hK=>?_
 replace hK:Kn T _ [(0,.agg #[.int .i64 E,.int .i64 F]),(1,.int .u64 b),(2,.int .i64 k),(3,.int .u8 md)]:=hK
 have hS:=Fb.begin w
 have hG:GsAt [] w:=trivial
 refine wq hS hG hK (fun p1=>[.n 4 #[.int .i64 E,.int .i64 F] 24,.n 8 #[.bool false,.string ⟨#[]⟩,.int .i64 0] 30,.v 9 (.bool false),.v 10 (.int .i64 0)]) (fun p1=>[(1,.int .u64 b),(2,.int .i64 k),(3,.int .u8 md),(4,pT (p1 0).N 0),(8,pT (p1 1).N 0),(9,.bool false),(10,.int .i64 0)]) (fun p1=>?_) (fun p1 W1 T hF hK=>?_)
 ·iterate 2 refine okn ?_
  iterate 2 refine okv ?_
  exact ok_nil
 replace hS:=SymF.fc hS hF [1000,1001] [⟨(p1 0).N,#[.int .i64 E,.int .i64 F],24,true⟩,⟨(p1 1).N,#[.bool false,.string ⟨#[]⟩,.int .i64 0],30,true⟩]
 replace hG:=hF.gx
 clear hF
 refine wq hS hG hK (fun p2=>[.l 14 (.agg #[.int .i64 E,.int .i64 F]) 0 0,.v 15 (.int .u64 b),.c (some 16) (cV (.tuple #[.agg #[.bool g3,.string s3,.int .i64 x3],.int .i64 0])),.v 13 (.tuple #[.agg #[.bool g3,.string s3,.int .i64 x3],.int .i64 0]),.v 17 (.agg #[.bool g3,.string s3,.int .i64 x3]),.v 18 (.int .i64 0),.n 11 #[.bool false,.string ⟨#[]⟩,.int .i64 0] 30,.p 1006 0 [.bool g3,.string s3,.int .i64 x3],.v 12 (.int .i64 0)]) (fun p2=>[(2,.int .i64 k),(3,.int .u8 md),(8,pT (p1 1).N 0),(9,.bool false),(10,.int .i64 0),(11,pT (p2 6).N 0),(12,.int .i64 0)]) (fun p2=>?_) (fun p2 W2 T hF hK=>?_)
 ·refine okl ?_
  refine okv ?_
  refine okc (fun W cx=>as_v (unhide HA _ (ht.kept cx.fr) (htp.kept cx.fr))) ?_
  iterate 3 refine okv ?_
  refine okn ?_
  refine okp ?_
  refine okv ?_
  exact ok_nil
 replace hS:=SymF.fc hS hF [1,1006] [⟨(p1 1).N,#[.bool false,.string ⟨#[]⟩,.int .i64 0],30,true⟩,⟨(p2 6).N,#[.bool g3,.string s3,.int .i64 x3],30,true⟩]
 replace hG:=hF.gx
 clear hF
 refine wp_seq ?_
 refine wq hS hG hK (fun p3=>[.v 19 (.int .i64 0),.v 20 (.bool false)]) (fun p3=>[(2,.int .i64 k),(3,.int .u8 md),(8,pT (p1 1).N 0),(9,.bool false),(10,.int .i64 0),(11,pT (p2 6).N 0),(12,.int .i64 0),(20,.bool false)]) (fun p3=>?_) (fun p3 W3 T hF hK=>?_)
 ·iterate 2 refine okv ?_
  exact ok_nil
 obtain ⟨hS,hG⟩:=SymF.fg hS hF
 clear hF
 refine wp_cond_false (hK.ew 20) (wp_skip (then_n ?_))
 refine wq hS hG hK (fun p4=>[.l 23 (.agg #[.bool g3,.string s3,.int .i64 x3]) 1 0,.v 24 (.int .i64 k),.v 25 (.int .u8 md),.c (some 26) (cV (.tuple #[.agg #[.bool g4,.string s4,.int .i64 x4],.bool is,.int .i64 e4])),.v 27 (.agg #[.bool g4,.string s4,.int .i64 x4]),.v 28 (.bool is),.v 29 (.int .i64 e4),.p 0 0 [.bool g4,.string s4,.int .i64 x4],.v 9 (.bool is),.v 10 (.int .i64 e4)]) (fun p4=>[(8,pT (p1 1).N 0),(9,.bool is),(10,.int .i64 e4),(12,.int .i64 0),(20,.bool false)]) (fun p4=>?_) (fun p4 W4 T hF hK=>?_)
 ·refine okl ?_
  iterate 2 refine okv ?_
  refine okc (fun W cx=>as_v (unhide HR _)) ?_
  iterate 3 refine okv ?_
  refine okp ?_
  iterate 2 refine okv ?_
  exact ok_nil
 replace hS:=SymF.fc hS hF [0] [⟨(p1 1).N,#[.bool g4,.string s4,.int .i64 x4],30,true⟩]
 replace hG:=hF.gx
 clear hF
 refine wp_ret ?_
 exact sym_end hS hK (.tuple #[.agg #[.bool g4,.string s4,.int .i64 x4],.bool is,.int .i64 e4]) [(0,0,3)] [.bool g4,.string s4,.int .i64 x4] (by kernel_rfl) (by kernel_rfl) ⟨rfl,hS.fr⟩
theorem fo_cases5 (E F:Int):NoFo E F∨∃ e f:Nat,E = (e:Int)∧F = (f:Int)∧Fo e f:=by
 by_cases h:NoFo E F
 ·exact Or.inl h
 ·refine Or.inr ⟨E.toNat,F.toNat,?_⟩
  unfold NoFo at h
  exact ⟨by omega,by omega,⟨by omega,by omega,by omega,by omega⟩⟩
theorem dbe_under:Tryz.prog.underlying 30 = some (.struct (Tryz.prog.fieldsOf 30)):=by kernel_rfl
theorem dbe_eq {r:Nat} (g:Bool) (s:ByteArray) (x:Int):script Tryz.prog r (Op.equal 30 (.agg #[.bool g,.string s,.int .i64 x]) (.agg #[.bool g,.string s,.int .i64 x])) [] = some (true,[]):=by
 have hE:script Tryz.prog r (Op.equalIn (9999+1) 30 (.agg #[.bool g,.string s,.int .i64 x]) (.agg #[.bool g,.string s,.int .i64 x])) [] = some (true,[]):=by
  refine script_struct 9999 _ _ _ dbe_under (by kernel_rfl) ?_
  have n1 : (Tryz.prog.fieldsOf 30).toList.map (fun f => (f.name, f.type, f.offset)) = [("Neg", 4, 0), ("Digits", 9, 1), ("Exp", 3, 2)] := by kernel_rfl
  generalize (Tryz.prog.fieldsOf 30).toList = fs at n1 ⊢
  rcases fs with _|⟨f1,_|⟨f2,_|⟨f3,_|⟨f4,fs⟩⟩⟩⟩ <;> simp only [List.map_cons,List.map_nil,List.cons.injEq,Prod.mk.injEq,and_true,reduceCtorEq,and_false] at n1
  obtain ⟨⟨a1,a2,a3⟩,⟨b1,b2,b3⟩,c1,c2,c3⟩:=n1
  rw [Op.eqFields,if_pos (by rw [a1]; decide),a2,a3,script_bind Tryz.prog r _ _ [] (.bool g) (by kernel_rfl),script_bind Tryz.prog r _ _ [] (.bool g) (by kernel_rfl),script_bind Tryz.prog r _ _ [] _ (script_eqb g (by kernel_rfl)),if_neg (by decide)]
  rw [Op.eqFields,if_pos (by rw [b1]; decide),b2,b3,script_bind Tryz.prog r _ _ [] (.string s) (by kernel_rfl),script_bind Tryz.prog r _ _ [] (.string s) (by kernel_rfl),script_bind Tryz.prog r _ _ [] _ (script_eqs s (by kernel_rfl)),if_neg (by decide)]
  rw [Op.eqFields,if_pos (by rw [c1]; decide),c2,c3,script_bind Tryz.prog r _ _ [] (.int .i64 x) (by kernel_rfl),script_bind Tryz.prog r _ _ [] (.int .i64 x) (by kernel_rfl),script_bind Tryz.prog r _ _ [] _ (script_eqi x (by kernel_rfl)),if_neg (by decide)]
  rfl
 unfold Op.equal Op.maxDepth
 rw [show (10000:Nat) = 9999+1 from rfl]
 exact hE
end Go.Proofs.YtplihgoapiiigaaGreatDoor
