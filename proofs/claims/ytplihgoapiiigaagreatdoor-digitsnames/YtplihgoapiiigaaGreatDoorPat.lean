/- Of what DigitsNamesRow stands on: DcClone DcMakeW DcChkW DcRndW. -/
import Derived.Test.YtplihgoapiiigaaGreatDoorPad
import Derived.Shelf.Pu.Clone
import Derived.Test.YtplihgoapiiigaaGreatDoorPas
import Derived.Test.YtplihgoapiiigaaGreatDoorPab
namespace Go.Proofs.YtplihgoapiiigaaGreatDoor
open Go.RowKit Go.Shelf
open Go.RowKit
set_option maxHeartbeats 2000000
set_option maxRecDepth 20000
def cloneRen:Ren where
 f:=fun _=>103
 t:=fun k=>match k with
  | 3=>3
  | 4=>4
  | 5=>5
  | 9=>9
  | 37=>86
  | 47=>147
  | _=>0
 g:=fun _=>0
theorem clone_lays:LaysPu.n25 Tryz.prog cloneRen:=by
 constructor <;> first|kernel_rfl|(intro w; kernel_rfl)
theorem sclone_any (s:ByteArray) (w:World) (hlim:s.size≤281474976710656) :
  Calls Tryz.prog 81 #[.string s] w fun e w'=>e = .returned (.string s)∧Below w.heap.size w w':=by
 go_enter Tryz.func81,Tryz.ntmps81
 go_wp2_with fail
 refine (AnyPu.stringslite_Clone clone_lays s _ hlim).mono ?_
 rintro e w1 ⟨rfl,hb1⟩
 go_wp2
 go_ret
 exact ⟨rfl,hb1⟩
theorem Tryz.under_str:Tryz.prog.underlying 9 = some .string:=by kernel_rfl
theorem dcopied_any (w:World) (g:Bool) (s:ByteArray) (x:Int) (hs:s.size≤281474976710656) :
  Calls Tryz.prog 42 #[.agg #[.bool g,.string s,.int .i64 x]] w fun en w'=>en = .returned (.agg #[.bool g,.string s,.int .i64 x])∧Below w.heap.size w w':=by
 refine calls_sym Tryz.func42 rfl (by kernel_rfl) fun T hK=>?_
 replace hK:Kn T _ [(0,.agg #[.bool g,.string s,.int .i64 x])]:=hK
 have hS:=Fb.begin w
 have hG:GsAt [] w:=trivial
 refine wq hS hG hK (fun p1=>[.n 1 #[.bool g,.string s,.int .i64 x] 30,.n 2 #[.bool false,.string ⟨#[]⟩,.int .i64 0] 30]) (fun p1=>[(1,pT (p1 0).N 0),(2,pT (p1 1).N 0)]) (fun p1=>?_) (fun p1 W1 T hF hK=>?_)
 ·iterate 2 refine okn ?_
  exact ok_nil
 replace hS:=SymF.fc hS hF [1000,1001] [⟨(p1 0).N,#[.bool g,.string s,.int .i64 x],30,true⟩,⟨(p1 1).N,#[.bool false,.string ⟨#[]⟩,.int .i64 0],30,true⟩]
 replace hG:=hF.gx
 clear hF
 refine wq hS hG hK (fun p2=>[.v 3 (pT (p1 0).N 1),.l 4 (.string s) 0 1,.c (some 5) (cV (.string s)),.v 6 (pT (p1 0).N 1),.p 0 1 [.string s]]) (fun p2=>[(1,pT (p1 0).N 0),(2,pT (p1 1).N 0)]) (fun p2=>?_) (fun p2 W2 T hF hK=>?_)
 ·refine okv ?_
  refine okl ?_
  refine okc (fun W cx=>as_v (sclone_any s _ hs)) ?_
  refine okv ?_
  refine okp ?_
  exact ok_nil
 obtain ⟨hS,hG⟩:=SymF.fg hS hF
 clear hF
 refine wq hS hG hK (fun p3=>[.l 7 (.agg #[.bool g,.string s,.int .i64 x]) 0 0,.p 1 0 [.bool g,.string s,.int .i64 x]]) (fun p3=>[(2,pT (p1 1).N 0)]) (fun p3=>?_) (fun p3 W3 T hF hK=>?_)
 ·refine okl ?_
  refine okp ?_
  exact ok_nil
 replace hS:=SymF.fc hS hF [1] [⟨(p1 1).N,#[.bool g,.string s,.int .i64 x],30,true⟩]
 replace hG:=hF.gx
 clear hF
 refine wp_ret ?_
 exact sym_end hS hK (.agg #[.bool g,.string s,.int .i64 x]) [(0,0,3)] [.bool g,.string s,.int .i64 x] (by kernel_rfl) (by kernel_rfl) ⟨rfl,hS.fr⟩
theorem placed_over (w:World) (g:Bool) (s:ByteArray) (z:Nat) (x:Int) (hz:z≤65536) (hx:1073741824 < x+(z:Int)) :
  Calls Tryz.prog 40 #[.bool g,.string s,.int .i64 (z:Int),.int .i64 x] w fun en w'=>en = .returned (.tuple #[.agg #[.bool false,.string ⟨#[]⟩,.int .i64 0],.int .i64 4])∧Below w.heap.size w w':=by
 refine calls_sym Tryz.func40 rfl (by kernel_rfl) fun T hK=>?_
 replace hK:Kn T _ [(0,.bool g),(1,.string s),(2,.int .i64 (z:Int)),(3,.int .i64 x)]:=hK
 have hS:=Fb.begin w
 have hG:GsAt [] w:=trivial
 refine wq hS hG hK (fun p1=>[.n 8 #[.bool false,.string ⟨#[]⟩,.int .i64 0] 30,.v 9 (.int .i64 0)]) (fun p1=>[(0,.bool g),(1,.string s),(2,.int .i64 (z:Int)),(3,.int .i64 x),(8,pT (p1 0).N 0),(9,.int .i64 0)]) (fun p1=>?_) (fun p1 W1 T hF hK=>?_)
 ·refine okn ?_
  refine okv ?_
  exact ok_nil
 replace hS:=SymF.fc hS hF [1000] [⟨(p1 0).N,#[.bool false,.string ⟨#[]⟩,.int .i64 0],30,true⟩]
 replace hG:=hF.gx
 clear hF
 refine wp_seq ?_
 refine wq hS hG hK (fun p2=>[.v 10 (.int .i64 x),.v 11 (.int .i64 (z:Int)),.v 12 (.int .i64 (1073741824 - (z:Int))),.v 13 (.bool true),.v 14 (.bool true),.k (some 15),.k (some 16),.k (some 17),.k (some 18),.v 19 (.bool true)]) (fun p2=>[(0,.bool g),(1,.string s),(2,.int .i64 (z:Int)),(3,.int .i64 x),(8,pT (p1 0).N 0),(9,.int .i64 0),(19,.bool true)]) (fun p2=>?_) (fun p2 W2 T hF hK=>?_)
 ·iterate 2 refine okv ?_
  refine okvi (wr64 (x:=1073741824 - (z:Int)) (by omega) (by omega)) ?_
  refine okvb (decide_eq_true (show x > 1073741824 - (z:Int) by omega)) ?_
  refine okv ?_
  iterate 4 refine okk ?_
  refine okv ?_
  exact ok_nil
 obtain ⟨hS,hG⟩:=SymF.fg hS hF
 clear hF
 refine wp_cond_true (hK.ew 19) ?_
 refine wq hS hG hK (fun p3=>[.v 20 (.agg #[.bool false,.string ⟨#[]⟩,.int .i64 0]),.p 0 0 [.bool false,.string ⟨#[]⟩,.int .i64 0],.v 9 (.int .i64 4)]) (fun p3=>[(0,.bool g),(1,.string s),(2,.int .i64 (z:Int)),(3,.int .i64 x),(8,pT (p1 0).N 0),(9,.int .i64 4),(19,.bool true)]) (fun p3=>?_) (fun p3 W3 T hF hK=>?_)
 ·refine okv ?_
  refine okp ?_
  refine okv ?_
  exact ok_nil
 obtain ⟨hS,hG⟩:=SymF.fg hS hF
 clear hF
 refine wp_ret ?_
 refine then_r ?_
 exact sym_end hS hK (.tuple #[.agg #[.bool false,.string ⟨#[]⟩,.int .i64 0],.int .i64 4]) [(0,0,3)] [.bool false,.string ⟨#[]⟩,.int .i64 0] (by kernel_rfl) (by kernel_rfl) ⟨rfl,hS.fr⟩
theorem placed_under (w:World) (g:Bool) (s:ByteArray) (z:Nat) (x:Int) (hz:z≤65536) (hx:x+(z:Int) < -1073741824) :
  Calls Tryz.prog 40 #[.bool g,.string s,.int .i64 (z:Int),.int .i64 x] w fun en w'=>en = .returned (.tuple #[.agg #[.bool false,.string ⟨#[]⟩,.int .i64 0],.int .i64 4])∧Below w.heap.size w w':=by
 refine calls_sym Tryz.func40 rfl (by kernel_rfl) fun T hK=>?_
 replace hK:Kn T _ [(0,.bool g),(1,.string s),(2,.int .i64 (z:Int)),(3,.int .i64 x)]:=hK
 have hS:=Fb.begin w
 have hG:GsAt [] w:=trivial
 refine wq hS hG hK (fun p1=>[.n 8 #[.bool false,.string ⟨#[]⟩,.int .i64 0] 30,.v 9 (.int .i64 0)]) (fun p1=>[(0,.bool g),(1,.string s),(2,.int .i64 (z:Int)),(3,.int .i64 x),(8,pT (p1 0).N 0),(9,.int .i64 0)]) (fun p1=>?_) (fun p1 W1 T hF hK=>?_)
 ·refine okn ?_
  refine okv ?_
  exact ok_nil
 replace hS:=SymF.fc hS hF [1000] [⟨(p1 0).N,#[.bool false,.string ⟨#[]⟩,.int .i64 0],30,true⟩]
 replace hG:=hF.gx
 clear hF
 refine wp_seq ?_
 refine wq hS hG hK (fun p2=>[.v 10 (.int .i64 x),.v 11 (.int .i64 (z:Int)),.v 12 (.int .i64 (1073741824 - (z:Int))),.v 13 (.bool false),.v 14 (.bool false),.v 15 (.int .i64 x),.v 16 (.int .i64 (z:Int)),.v 17 (.int .i64 (-1073741824 - (z:Int))),.v 18 (.bool true),.v 19 (.bool true)]) (fun p2=>[(0,.bool g),(1,.string s),(2,.int .i64 (z:Int)),(3,.int .i64 x),(8,pT (p1 0).N 0),(9,.int .i64 0),(19,.bool true)]) (fun p2=>?_) (fun p2 W2 T hF hK=>?_)
 ·iterate 2 refine okv ?_
  refine okvi (wr64 (x:=1073741824 - (z:Int)) (by omega) (by omega)) ?_
  refine okvb (decide_eq_false (show ¬ x > 1073741824 - (z:Int) by omega)) ?_
  iterate 3 refine okv ?_
  refine okvi (wr64 (x:=-1073741824 - (z:Int)) (by omega) (by omega)) ?_
  refine okvb (decide_eq_true (show x < -1073741824 - (z:Int) by omega)) ?_
  refine okv ?_
  exact ok_nil
 obtain ⟨hS,hG⟩:=SymF.fg hS hF
 clear hF
 refine wp_cond_true (hK.ew 19) ?_
 refine wq hS hG hK (fun p3=>[.v 20 (.agg #[.bool false,.string ⟨#[]⟩,.int .i64 0]),.p 0 0 [.bool false,.string ⟨#[]⟩,.int .i64 0],.v 9 (.int .i64 4)]) (fun p3=>[(0,.bool g),(1,.string s),(2,.int .i64 (z:Int)),(3,.int .i64 x),(8,pT (p1 0).N 0),(9,.int .i64 4),(19,.bool true)]) (fun p3=>?_) (fun p3 W3 T hF hK=>?_)
 ·refine okv ?_
  refine okp ?_
  refine okv ?_
  exact ok_nil
 obtain ⟨hS,hG⟩:=SymF.fg hS hF
 clear hF
 refine wp_ret ?_
 refine then_r ?_
 exact sym_end hS hK (.tuple #[.agg #[.bool false,.string ⟨#[]⟩,.int .i64 0],.int .i64 4]) [(0,0,3)] [.bool false,.string ⟨#[]⟩,.int .i64 0] (by kernel_rfl) (by kernel_rfl) ⟨rfl,hS.fr⟩
theorem placed_ok (w:World) (g:Bool) (s:ByteArray) (z:Nat) (x:Int) (y:Int) (hz:z≤65536) (hs:s.size≤281474976710656) (hy:(z:Int)+x = y) (h1:-1073741824≤y) (h2:y≤1073741824) :
  Calls Tryz.prog 40 #[.bool g,.string s,.int .i64 (z:Int),.int .i64 x] w fun en w'=>en = .returned (.tuple #[.agg #[.bool g,.string s,.int .i64 y],.int .i64 0])∧Below w.heap.size w w':=by
 refine calls_sym Tryz.func40 rfl (by kernel_rfl) fun T hK=>?_
 replace hK:Kn T _ [(0,.bool g),(1,.string s),(2,.int .i64 (z:Int)),(3,.int .i64 x)]:=hK
 have hS:=Fb.begin w
 have hG:GsAt [] w:=trivial
 refine wq hS hG hK (fun p1=>[.n 8 #[.bool false,.string ⟨#[]⟩,.int .i64 0] 30,.v 9 (.int .i64 0)]) (fun p1=>[(0,.bool g),(1,.string s),(2,.int .i64 (z:Int)),(3,.int .i64 x),(8,pT (p1 0).N 0),(9,.int .i64 0)]) (fun p1=>?_) (fun p1 W1 T hF hK=>?_)
 ·refine okn ?_
  refine okv ?_
  exact ok_nil
 replace hS:=SymF.fc hS hF [1000] [⟨(p1 0).N,#[.bool false,.string ⟨#[]⟩,.int .i64 0],30,true⟩]
 replace hG:=hF.gx
 clear hF
 refine wp_seq ?_
 refine wq hS hG hK (fun p2=>[.v 10 (.int .i64 x),.v 11 (.int .i64 (z:Int)),.v 12 (.int .i64 (1073741824 - (z:Int))),.v 13 (.bool false),.v 14 (.bool false),.v 15 (.int .i64 x),.v 16 (.int .i64 (z:Int)),.v 17 (.int .i64 (-1073741824 - (z:Int))),.v 18 (.bool false),.v 19 (.bool false)]) (fun p2=>[(0,.bool g),(1,.string s),(2,.int .i64 (z:Int)),(3,.int .i64 x),(8,pT (p1 0).N 0),(9,.int .i64 0),(19,.bool false)]) (fun p2=>?_) (fun p2 W2 T hF hK=>?_)
 ·iterate 2 refine okv ?_
  refine okvi (wr64 (x:=1073741824 - (z:Int)) (by omega) (by omega)) ?_
  refine okvb (decide_eq_false (show ¬ x > 1073741824 - (z:Int) by omega)) ?_
  iterate 3 refine okv ?_
  refine okvi (wr64 (x:=-1073741824 - (z:Int)) (by omega) (by omega)) ?_
  refine okvb (decide_eq_false (show ¬ x < -1073741824 - (z:Int) by omega)) ?_
  refine okv ?_
  exact ok_nil
 obtain ⟨hS,hG⟩:=SymF.fg hS hF
 clear hF
 refine wp_cond_false (hK.ew 19) (wp_skip (then_n ?_))
 refine wq hS hG hK (fun p3=>[.v 21 (.bool g),.v 22 (.string s),.v 23 (.int .i64 (z:Int)),.v 24 (.int .i64 x),.v 25 (.int .i64 y),.v 26 (.agg #[.bool g,.string s,.int .i64 y]),.c (some 27) (cV (.agg #[.bool g,.string s,.int .i64 y])),.p 0 0 [.bool g,.string s,.int .i64 y],.v 9 (.int .i64 0)]) (fun p3=>[(8,pT (p1 0).N 0),(9,.int .i64 0),(19,.bool false)]) (fun p3=>?_) (fun p3 W3 T hF hK=>?_)
 ·iterate 4 refine okv ?_
  refine okvi ((wr64 (x:=(z:Int)+x) (by omega) (by omega)).trans hy) ?_
  refine okv ?_
  refine okc (fun W cx=>as_v (dcopied_any _ g s y hs)) ?_
  refine okp ?_
  refine okv ?_
  exact ok_nil
 replace hS:=SymF.fc hS hF [0] [⟨(p1 0).N,#[.bool g,.string s,.int .i64 y],30,true⟩]
 replace hG:=hF.gx
 clear hF
 refine wp_ret ?_
 exact sym_end hS hK (.tuple #[.agg #[.bool g,.string s,.int .i64 y],.int .i64 0]) [(0,0,3)] [.bool g,.string s,.int .i64 y] (by kernel_rfl) (by kernel_rfl) ⟨rfl,hS.fr⟩
theorem make_zero (w:World) (g:Bool) (s:ByteArray) (x:Int) (f t:Nat) (hm:s.size≤65536) (HA:Hid (∀ W:World,Calls Tryz.prog 38 #[.string s] W fun e W'=>e = .returned (.bool true)∧Below W.heap.size W W')) (HE:Hid (∀ W:World,Calls Tryz.prog 39 #[.string s] W fun e W'=>e = .returned (.tuple #[.int .i64 (f:Int),.int .i64 (t:Int)])∧Below W.heap.size W W')) (hft:f = t) :
  Calls Tryz.prog 20 #[.bool g,.string s,.int .i64 x] w fun en w'=>en = .returned (.tuple #[.agg #[.bool g,.string ⟨#[]⟩,.int .i64 0],.int .i64 0])∧Below w.heap.size w w':=by
 refine calls_sym Tryz.func20 rfl (by kernel_rfl) fun T hK=>?_
 replace hK:Kn T _ [(0,.bool g),(1,.string s),(2,.int .i64 x)]:=hK
 have hS:=Fb.begin w
 have hG:GsAt [] w:=trivial
 refine wq hS hG hK (fun p1=>[.n 6 #[.bool false,.string ⟨#[]⟩,.int .i64 0] 30,.v 7 (.int .i64 0)]) (fun p1=>[(0,.bool g),(1,.string s),(2,.int .i64 x),(6,pT (p1 0).N 0),(7,.int .i64 0)]) (fun p1=>?_) (fun p1 W1 T hF hK=>?_)
 ·refine okn ?_
  refine okv ?_
  exact ok_nil
 replace hS:=SymF.fc hS hF [1000] [⟨(p1 0).N,#[.bool false,.string ⟨#[]⟩,.int .i64 0],30,true⟩]
 replace hG:=hF.gx
 clear hF
 refine wp_seq ?_
 refine wq hS hG hK (fun p2=>[.v 10 (.string s),.v 11 (.int .i64 (s.size:Int)),.v 12 (.bool false)]) (fun p2=>[(0,.bool g),(1,.string s),(2,.int .i64 x),(6,pT (p1 0).N 0),(7,.int .i64 0),(12,.bool false)]) (fun p2=>?_) (fun p2 W2 T hF hK=>?_)
 ·iterate 2 refine okv ?_
  refine okvb (decide_eq_false (show ¬ (s.size:Int) > 65536 by omega)) ?_
  exact ok_nil
 obtain ⟨hS,hG⟩:=SymF.fg hS hF
 clear hF
 refine wp_cond_false (hK.ew 12) (wp_skip ?_)
 refine then_n (wp_seq ?_)
 refine wq hS hG hK (fun p3=>[.v 14 (.string s),.c (some 15) (cV (.bool true)),.v 16 (.bool false)]) (fun p3=>[(0,.bool g),(1,.string s),(2,.int .i64 x),(6,pT (p1 0).N 0),(7,.int .i64 0),(12,.bool false),(16,.bool false)]) (fun p3=>?_) (fun p3 W3 T hF hK=>?_)
 ·refine okv ?_
  refine okc (fun W cx=>as_v (unhide HA _)) ?_
  refine okv ?_
  exact ok_nil
 obtain ⟨hS,hG⟩:=SymF.fg hS hF
 clear hF
 refine wp_cond_false (hK.ew 16) (wp_skip (then_n ?_))
 refine wq hS hG hK (fun p4=>[.v 19 (.string s),.c (some 20) (cV (.tuple #[.int .i64 (f:Int),.int .i64 (t:Int)])),.v 18 (.tuple #[.int .i64 (f:Int),.int .i64 (t:Int)]),.v 21 (.int .i64 (f:Int)),.v 22 (.int .i64 (t:Int)),.v 8 (.int .i64 (f:Int)),.v 9 (.int .i64 (t:Int))]) (fun p4=>[(0,.bool g),(1,.string s),(2,.int .i64 x),(6,pT (p1 0).N 0),(7,.int .i64 0),(8,.int .i64 (f:Int)),(9,.int .i64 (t:Int)),(12,.bool false),(16,.bool false)]) (fun p4=>?_) (fun p4 W4 T hF hK=>?_)
 ·refine okv ?_
  refine okc (fun W cx=>as_v (unhide HE _)) ?_
  iterate 5 refine okv ?_
  exact ok_nil
 obtain ⟨hS,hG⟩:=SymF.fg hS hF
 clear hF
 refine wp_seq ?_
 refine wq hS hG hK (fun p5=>[.v 23 (.int .i64 (f:Int)),.v 24 (.int .i64 (t:Int)),.v 25 (.bool true)]) (fun p5=>[(0,.bool g),(1,.string s),(2,.int .i64 x),(6,pT (p1 0).N 0),(7,.int .i64 0),(8,.int .i64 (f:Int)),(9,.int .i64 (t:Int)),(12,.bool false),(16,.bool false),(25,.bool true)]) (fun p5=>?_) (fun p5 W5 T hF hK=>?_)
 ·iterate 2 refine okv ?_
  refine okvb (beq_iff_eq.2 (show (f:Int) = (t:Int) by omega)) ?_
  exact ok_nil
 obtain ⟨hS,hG⟩:=SymF.fg hS hF
 clear hF
 refine wp_cond_true (hK.ew 25) ?_
 refine wq hS hG hK (fun p6=>[.v 26 (.bool g),.v 27 (.agg #[.bool g,.string ⟨#[]⟩,.int .i64 0]),.p 0 0 [.bool g,.string ⟨#[]⟩,.int .i64 0],.v 7 (.int .i64 0)]) (fun p6=>[(0,.bool g),(1,.string s),(2,.int .i64 x),(6,pT (p1 0).N 0),(7,.int .i64 0),(8,.int .i64 (f:Int)),(9,.int .i64 (t:Int)),(12,.bool false),(16,.bool false),(25,.bool true)]) (fun p6=>?_) (fun p6 W6 T hF hK=>?_)
 ·iterate 2 refine okv ?_
  refine okp ?_
  refine okv ?_
  exact ok_nil
 replace hS:=SymF.fc hS hF [0] [⟨(p1 0).N,#[.bool g,.string ⟨#[]⟩,.int .i64 0],30,true⟩]
 replace hG:=hF.gx
 clear hF
 refine wp_ret ?_
 refine then_r ?_
 exact sym_end hS hK (.tuple #[.agg #[.bool g,.string ⟨#[]⟩,.int .i64 0],.int .i64 0]) [(0,0,3)] [.bool g,.string ⟨#[]⟩,.int .i64 0] (by kernel_rfl) (by kernel_rfl) ⟨rfl,hS.fr⟩
theorem make_far (w:World) (g:Bool) (s:ByteArray) (x:Int) (f t:Nat) (u:ByteArray) (z:Nat) (hm:s.size≤65536) (HA:Hid (∀ W:World,Calls Tryz.prog 38 #[.string s] W fun e W'=>e = .returned (.bool true)∧Below W.heap.size W W')) (HE:Hid (∀ W:World,Calls Tryz.prog 39 #[.string s] W fun e W'=>e = .returned (.tuple #[.int .i64 (f:Int),.int .i64 (t:Int)])∧Below W.heap.size W W')) (hft:f < t) (ht:t≤s.size) (hu:s.extract f t = u) (hz:t+z = s.size) (HP:Hid (∀ W:World,Calls Tryz.prog 40 #[.bool g,.string u,.int .i64 (z:Int),.int .i64 x] W fun e W'=>e = .returned (.tuple #[.agg #[.bool false,.string ⟨#[]⟩,.int .i64 0],.int .i64 4])∧Below W.heap.size W W')) :
  Calls Tryz.prog 20 #[.bool g,.string s,.int .i64 x] w fun en w'=>en = .returned (.tuple #[.agg #[.bool false,.string ⟨#[]⟩,.int .i64 0],.int .i64 4])∧Below w.heap.size w w':=by
 have hsl:script Tryz.prog 0 (Instr.sliceAt 9 (.string s) (some (.int .i64 (f:Int))) (some (.int .i64 (t:Int))) none) [] = some (.string u,[]):=by rw [← hu]; exact script_slice Tryz.under_str (by omega) (by omega) (by omega)
 refine calls_sym Tryz.func20 rfl (by kernel_rfl) fun T hK=>?_
 replace hK:Kn T _ [(0,.bool g),(1,.string s),(2,.int .i64 x)]:=hK
 have hS:=Fb.begin w
 have hG:GsAt [] w:=trivial
 refine wq hS hG hK (fun p1=>[.n 6 #[.bool false,.string ⟨#[]⟩,.int .i64 0] 30,.v 7 (.int .i64 0)]) (fun p1=>[(0,.bool g),(1,.string s),(2,.int .i64 x),(6,pT (p1 0).N 0),(7,.int .i64 0)]) (fun p1=>?_) (fun p1 W1 T hF hK=>?_)
 ·refine okn ?_
  refine okv ?_
  exact ok_nil
 replace hS:=SymF.fc hS hF [1000] [⟨(p1 0).N,#[.bool false,.string ⟨#[]⟩,.int .i64 0],30,true⟩]
 replace hG:=hF.gx
 clear hF
 refine wp_seq ?_
 refine wq hS hG hK (fun p2=>[.v 10 (.string s),.v 11 (.int .i64 (s.size:Int)),.v 12 (.bool false)]) (fun p2=>[(0,.bool g),(1,.string s),(2,.int .i64 x),(6,pT (p1 0).N 0),(7,.int .i64 0),(12,.bool false)]) (fun p2=>?_) (fun p2 W2 T hF hK=>?_)
 ·iterate 2 refine okv ?_
  refine okvb (decide_eq_false (show ¬ (s.size:Int) > 65536 by omega)) ?_
  exact ok_nil
 obtain ⟨hS,hG⟩:=SymF.fg hS hF
 clear hF
 refine wp_cond_false (hK.ew 12) (wp_skip ?_)
 refine then_n (wp_seq ?_)
 refine wq hS hG hK (fun p3=>[.v 14 (.string s),.c (some 15) (cV (.bool true)),.v 16 (.bool false)]) (fun p3=>[(0,.bool g),(1,.string s),(2,.int .i64 x),(6,pT (p1 0).N 0),(7,.int .i64 0),(12,.bool false),(16,.bool false)]) (fun p3=>?_) (fun p3 W3 T hF hK=>?_)
 ·refine okv ?_
  refine okc (fun W cx=>as_v (unhide HA _)) ?_
  refine okv ?_
  exact ok_nil
 obtain ⟨hS,hG⟩:=SymF.fg hS hF
 clear hF
 refine wp_cond_false (hK.ew 16) (wp_skip (then_n ?_))
 refine wq hS hG hK (fun p4=>[.v 19 (.string s),.c (some 20) (cV (.tuple #[.int .i64 (f:Int),.int .i64 (t:Int)])),.v 18 (.tuple #[.int .i64 (f:Int),.int .i64 (t:Int)]),.v 21 (.int .i64 (f:Int)),.v 22 (.int .i64 (t:Int)),.v 8 (.int .i64 (f:Int)),.v 9 (.int .i64 (t:Int))]) (fun p4=>[(0,.bool g),(1,.string s),(2,.int .i64 x),(6,pT (p1 0).N 0),(7,.int .i64 0),(8,.int .i64 (f:Int)),(9,.int .i64 (t:Int)),(12,.bool false),(16,.bool false)]) (fun p4=>?_) (fun p4 W4 T hF hK=>?_)
 ·refine okv ?_
  refine okc (fun W cx=>as_v (unhide HE _)) ?_
  iterate 5 refine okv ?_
  exact ok_nil
 obtain ⟨hS,hG⟩:=SymF.fg hS hF
 clear hF
 refine wp_seq ?_
 refine wq hS hG hK (fun p5=>[.v 23 (.int .i64 (f:Int)),.v 24 (.int .i64 (t:Int)),.v 25 (.bool false)]) (fun p5=>[(0,.bool g),(1,.string s),(2,.int .i64 x),(6,pT (p1 0).N 0),(7,.int .i64 0),(8,.int .i64 (f:Int)),(9,.int .i64 (t:Int)),(12,.bool false),(16,.bool false),(25,.bool false)]) (fun p5=>?_) (fun p5 W5 T hF hK=>?_)
 ·iterate 2 refine okv ?_
  refine okvb (beq_false_of_ne (show (f:Int)≠(t:Int) by omega)) ?_
  exact ok_nil
 obtain ⟨hS,hG⟩:=SymF.fg hS hF
 clear hF
 refine wp_cond_false (hK.ew 25) (wp_skip (then_n ?_))
 refine wq hS hG hK (fun p6=>[.v 28 (.bool g),.v 29 (.string s),.v 30 (.int .i64 (f:Int)),.v 31 (.int .i64 (t:Int)),.v 32 (.string u),.v 33 (.string s),.v 34 (.int .i64 (s.size:Int)),.v 35 (.int .i64 (t:Int)),.v 36 (.int .i64 (z:Int)),.v 37 (.int .i64 x),.c (some 38) (cV (.tuple #[.agg #[.bool false,.string ⟨#[]⟩,.int .i64 0],.int .i64 4])),.v 39 (.agg #[.bool false,.string ⟨#[]⟩,.int .i64 0]),.v 40 (.int .i64 4),.p 0 0 [.bool false,.string ⟨#[]⟩,.int .i64 0],.v 7 (.int .i64 4)]) (fun p6=>[(0,.bool g),(6,pT (p1 0).N 0),(7,.int .i64 4),(12,.bool false),(16,.bool false),(25,.bool false)]) (fun p6=>?_) (fun p6 W6 T hF hK=>?_)
 ·iterate 4 refine okv ?_
  refine ok_vr (hsl) (by kernel_rfl) ?_
  iterate 3 refine okv ?_
  refine okvi ((wr64 (x:=(s.size:Int) - (t:Int)) (by omega) (by omega)).trans (by omega)) ?_
  refine okv ?_
  refine okc (fun W cx=>as_v (unhide HP _)) ?_
  iterate 2 refine okv ?_
  refine okp ?_
  refine okv ?_
  exact ok_nil
 obtain ⟨hS,hG⟩:=SymF.fg hS hF
 clear hF
 refine wp_ret ?_
 exact sym_end hS hK (.tuple #[.agg #[.bool false,.string ⟨#[]⟩,.int .i64 0],.int .i64 4]) [(0,0,3)] [.bool false,.string ⟨#[]⟩,.int .i64 0] (by kernel_rfl) (by kernel_rfl) ⟨rfl,hS.fr⟩
theorem decmk_ok (w:World) (g:Bool) (s:ByteArray) (x:Int) (f t:Nat) (u:ByteArray) (z:Nat) (y:Int) (hm:s.size≤65536) (HA:Hid (∀ W:World,Calls Tryz.prog 38 #[.string s] W fun e W'=>e = .returned (.bool true)∧Below W.heap.size W W')) (HE:Hid (∀ W:World,Calls Tryz.prog 39 #[.string s] W fun e W'=>e = .returned (.tuple #[.int .i64 (f:Int),.int .i64 (t:Int)])∧Below W.heap.size W W')) (hft:f < t) (ht:t≤s.size) (hu:s.extract f t = u) (hz:t+z = s.size) (HP:Hid (∀ W:World,Calls Tryz.prog 40 #[.bool g,.string u,.int .i64 (z:Int),.int .i64 x] W fun e W'=>e = .returned (.tuple #[.agg #[.bool g,.string u,.int .i64 y],.int .i64 0])∧Below W.heap.size W W')) :
  Calls Tryz.prog 20 #[.bool g,.string s,.int .i64 x] w fun en w'=>en = .returned (.tuple #[.agg #[.bool g,.string u,.int .i64 y],.int .i64 0])∧Below w.heap.size w w':=by
 have hsl:script Tryz.prog 0 (Instr.sliceAt 9 (.string s) (some (.int .i64 (f:Int))) (some (.int .i64 (t:Int))) none) [] = some (.string u,[]):=by rw [← hu]; exact script_slice Tryz.under_str (by omega) (by omega) (by omega)
 refine calls_sym Tryz.func20 rfl (by kernel_rfl) fun T hK=>?_
 replace hK:Kn T _ [(0,.bool g),(1,.string s),(2,.int .i64 x)]:=hK
 have hS:=Fb.begin w
 have hG:GsAt [] w:=trivial
 refine wq hS hG hK (fun p1=>[.n 6 #[.bool false,.string ⟨#[]⟩,.int .i64 0] 30,.v 7 (.int .i64 0)]) (fun p1=>[(0,.bool g),(1,.string s),(2,.int .i64 x),(6,pT (p1 0).N 0),(7,.int .i64 0)]) (fun p1=>?_) (fun p1 W1 T hF hK=>?_)
 ·refine okn ?_
  refine okv ?_
  exact ok_nil
 replace hS:=SymF.fc hS hF [1000] [⟨(p1 0).N,#[.bool false,.string ⟨#[]⟩,.int .i64 0],30,true⟩]
 replace hG:=hF.gx
 clear hF
 refine wp_seq ?_
 refine wq hS hG hK (fun p2=>[.v 10 (.string s),.v 11 (.int .i64 (s.size:Int)),.v 12 (.bool false)]) (fun p2=>[(0,.bool g),(1,.string s),(2,.int .i64 x),(6,pT (p1 0).N 0),(7,.int .i64 0),(12,.bool false)]) (fun p2=>?_) (fun p2 W2 T hF hK=>?_)
 ·iterate 2 refine okv ?_
  refine okvb (decide_eq_false (show ¬ (s.size:Int) > 65536 by omega)) ?_
  exact ok_nil
 obtain ⟨hS,hG⟩:=SymF.fg hS hF
 clear hF
 refine wp_cond_false (hK.ew 12) (wp_skip ?_)
 refine then_n (wp_seq ?_)
 refine wq hS hG hK (fun p3=>[.v 14 (.string s),.c (some 15) (cV (.bool true)),.v 16 (.bool false)]) (fun p3=>[(0,.bool g),(1,.string s),(2,.int .i64 x),(6,pT (p1 0).N 0),(7,.int .i64 0),(12,.bool false),(16,.bool false)]) (fun p3=>?_) (fun p3 W3 T hF hK=>?_)
 ·refine okv ?_
  refine okc (fun W cx=>as_v (unhide HA _)) ?_
  refine okv ?_
  exact ok_nil
 obtain ⟨hS,hG⟩:=SymF.fg hS hF
 clear hF
 refine wp_cond_false (hK.ew 16) (wp_skip (then_n ?_))
 refine wq hS hG hK (fun p4=>[.v 19 (.string s),.c (some 20) (cV (.tuple #[.int .i64 (f:Int),.int .i64 (t:Int)])),.v 18 (.tuple #[.int .i64 (f:Int),.int .i64 (t:Int)]),.v 21 (.int .i64 (f:Int)),.v 22 (.int .i64 (t:Int)),.v 8 (.int .i64 (f:Int)),.v 9 (.int .i64 (t:Int))]) (fun p4=>[(0,.bool g),(1,.string s),(2,.int .i64 x),(6,pT (p1 0).N 0),(7,.int .i64 0),(8,.int .i64 (f:Int)),(9,.int .i64 (t:Int)),(12,.bool false),(16,.bool false)]) (fun p4=>?_) (fun p4 W4 T hF hK=>?_)
 ·refine okv ?_
  refine okc (fun W cx=>as_v (unhide HE _)) ?_
  iterate 5 refine okv ?_
  exact ok_nil
 obtain ⟨hS,hG⟩:=SymF.fg hS hF
 clear hF
 refine wp_seq ?_
 refine wq hS hG hK (fun p5=>[.v 23 (.int .i64 (f:Int)),.v 24 (.int .i64 (t:Int)),.v 25 (.bool false)]) (fun p5=>[(0,.bool g),(1,.string s),(2,.int .i64 x),(6,pT (p1 0).N 0),(7,.int .i64 0),(8,.int .i64 (f:Int)),(9,.int .i64 (t:Int)),(12,.bool false),(16,.bool false),(25,.bool false)]) (fun p5=>?_) (fun p5 W5 T hF hK=>?_)
 ·iterate 2 refine okv ?_
  refine okvb (beq_false_of_ne (show (f:Int)≠(t:Int) by omega)) ?_
  exact ok_nil
 obtain ⟨hS,hG⟩:=SymF.fg hS hF
 clear hF
 refine wp_cond_false (hK.ew 25) (wp_skip (then_n ?_))
 refine wq hS hG hK (fun p6=>[.v 28 (.bool g),.v 29 (.string s),.v 30 (.int .i64 (f:Int)),.v 31 (.int .i64 (t:Int)),.v 32 (.string u),.v 33 (.string s),.v 34 (.int .i64 (s.size:Int)),.v 35 (.int .i64 (t:Int)),.v 36 (.int .i64 (z:Int)),.v 37 (.int .i64 x),.c (some 38) (cV (.tuple #[.agg #[.bool g,.string u,.int .i64 y],.int .i64 0])),.v 39 (.agg #[.bool g,.string u,.int .i64 y]),.v 40 (.int .i64 0),.p 0 0 [.bool g,.string u,.int .i64 y],.v 7 (.int .i64 0)]) (fun p6=>[(0,.bool g),(6,pT (p1 0).N 0),(7,.int .i64 0),(12,.bool false),(16,.bool false),(25,.bool false)]) (fun p6=>?_) (fun p6 W6 T hF hK=>?_)
 ·iterate 4 refine okv ?_
  refine ok_vr (hsl) (by kernel_rfl) ?_
  iterate 3 refine okv ?_
  refine okvi ((wr64 (x:=(s.size:Int) - (t:Int)) (by omega) (by omega)).trans (by omega)) ?_
  refine okv ?_
  refine okc (fun W cx=>as_v (unhide HP _)) ?_
  iterate 2 refine okv ?_
  refine okp ?_
  refine okv ?_
  exact ok_nil
 replace hS:=SymF.fc hS hF [0] [⟨(p1 0).N,#[.bool g,.string u,.int .i64 y],30,true⟩]
 replace hG:=hF.gx
 clear hF
 refine wp_ret ?_
 exact sym_end hS hK (.tuple #[.agg #[.bool g,.string u,.int .i64 y],.int .i64 0]) [(0,0,3)] [.bool g,.string u,.int .i64 y] (by kernel_rfl) (by kernel_rfl) ⟨rfl,hS.fr⟩
theorem isN_t (w:World) (g:Bool) (s:ByteArray) (x:Int) (hz:s.size = 0) :
  Calls Tryz.prog 79 #[.agg #[.bool g,.string s,.int .i64 x]] w fun en w'=>en = .returned (.bool true)∧Below w.heap.size w w':=by
 refine calls_sym Tryz.func79 rfl (by kernel_rfl) fun T hK=>?_
 replace hK:Kn T _ [(0,.agg #[.bool g,.string s,.int .i64 x])]:=hK
 have hS:=Fb.begin w
 have hG:GsAt [] w:=trivial
 refine wq hS hG hK (fun p1=>[.n 1 #[.bool g,.string s,.int .i64 x] 30,.v 2 (.bool false)]) (fun p1=>[(1,pT (p1 0).N 0),(2,.bool false)]) (fun p1=>?_) (fun p1 W1 T hF hK=>?_)
 ·refine okn ?_
  refine okv ?_
  exact ok_nil
 replace hS:=SymF.fc hS hF [1000] [⟨(p1 0).N,#[.bool g,.string s,.int .i64 x],30,true⟩]
 replace hG:=hF.gx
 clear hF
 refine wq hS hG hK (fun p2=>[.v 3 (pT (p1 0).N 1),.l 4 (.string s) 0 1,.v 5 (.int .i64 (s.size:Int)),.v 6 (.bool true),.v 2 (.bool true)]) (fun p2=>[(2,.bool true)]) (fun p2=>?_) (fun p2 W2 T hF hK=>?_)
 ·refine okv ?_
  refine okl ?_
  refine okv ?_
  refine okvb (beq_iff_eq.2 (show (s.size:Int) = 0 by omega)) ?_
  refine okv ?_
  exact ok_nil
 replace hS:=SymF.fc hS hF [] []
 replace hG:=hF.gx
 clear hF
 refine wp_ret ?_
 exact sym_end hS hK (.bool true) [] [] (by kernel_rfl) (by kernel_rfl) ⟨rfl,hS.fr⟩
theorem isN_f (w:World) (g:Bool) (s:ByteArray) (x:Int) (hz:s.size≠0) :
  Calls Tryz.prog 79 #[.agg #[.bool g,.string s,.int .i64 x]] w fun en w'=>en = .returned (.bool false)∧Below w.heap.size w w':=by
 refine calls_sym Tryz.func79 rfl (by kernel_rfl) fun T hK=>?_
 replace hK:Kn T _ [(0,.agg #[.bool g,.string s,.int .i64 x])]:=hK
 have hS:=Fb.begin w
 have hG:GsAt [] w:=trivial
 refine wq hS hG hK (fun p1=>[.n 1 #[.bool g,.string s,.int .i64 x] 30,.v 2 (.bool false)]) (fun p1=>[(1,pT (p1 0).N 0),(2,.bool false)]) (fun p1=>?_) (fun p1 W1 T hF hK=>?_)
 ·refine okn ?_
  refine okv ?_
  exact ok_nil
 replace hS:=SymF.fc hS hF [1000] [⟨(p1 0).N,#[.bool g,.string s,.int .i64 x],30,true⟩]
 replace hG:=hF.gx
 clear hF
 refine wq hS hG hK (fun p2=>[.v 3 (pT (p1 0).N 1),.l 4 (.string s) 0 1,.v 5 (.int .i64 (s.size:Int)),.v 6 (.bool false),.v 2 (.bool false)]) (fun p2=>[(2,.bool false)]) (fun p2=>?_) (fun p2 W2 T hF hK=>?_)
 ·refine okv ?_
  refine okl ?_
  refine okv ?_
  refine okvb (beq_false_of_ne (show (s.size:Int)≠0 by omega)) ?_
  refine okv ?_
  exact ok_nil
 replace hS:=SymF.fc hS hF [] []
 replace hG:=hF.gx
 clear hF
 refine wp_ret ?_
 exact sym_end hS hK (.bool false) [] [] (by kernel_rfl) (by kernel_rfl) ⟨rfl,hS.fr⟩
theorem bey_in (w:World) (x:Int) (h0:-1073741824≤x) (h:x≤1073741824) :
  Calls Tryz.prog 80 #[.int .i64 x] w fun en w'=>en = .returned (.bool false)∧Below w.heap.size w w':=by
 refine calls_sym Tryz.func80 rfl (by kernel_rfl) fun T hK=>?_
 replace hK:Kn T _ [(0,.int .i64 x)]:=hK
 have hS:=Fb.begin w
 have hG:GsAt [] w:=trivial
 refine wq hS hG hK (fun p1=>[.v 2 (.bool false)]) (fun p1=>[(0,.int .i64 x),(2,.bool false)]) (fun p1=>?_) (fun p1 W1 T hF hK=>?_)
 ·refine okv ?_
  exact ok_nil
 replace hS:=SymF.fc hS hF [] []
 replace hG:=hF.gx
 clear hF
 refine wq hS hG hK (fun p2=>[.v 3 (.int .i64 x),.v 4 (.bool false),.v 5 (.bool false),.v 6 (.int .i64 x),.v 7 (.bool false),.v 8 (.bool false),.v 2 (.bool false)]) (fun p2=>[(2,.bool false)]) (fun p2=>?_) (fun p2 W2 T hF hK=>?_)
 ·refine okv ?_
  refine okvb (decide_eq_false (show ¬ x < -1073741824 by omega)) ?_
  iterate 2 refine okv ?_
  refine okvb (decide_eq_false (show ¬ x > 1073741824 by omega)) ?_
  iterate 2 refine okv ?_
  exact ok_nil
 obtain ⟨hS,hG⟩:=SymF.fg hS hF
 clear hF
 refine wp_ret ?_
 exact sym_end hS hK (.bool false) [] [] (by kernel_rfl) (by kernel_rfl) ⟨rfl,hS.fr⟩
theorem dck_z0 (w:World) (g:Bool) (s:ByteArray) (x:Int) (_hm:s.size≤65536) (hz:s.size = 0) (hx:x = 0) :
  Calls Tryz.prog 41 #[.agg #[.bool g,.string s,.int .i64 x]] w fun en w'=>en = .returned (.int .i64 0)∧Below w.heap.size w w':=by
 refine calls_sym Tryz.func41 rfl (by kernel_rfl) fun T hK=>?_
 replace hK:Kn T _ [(0,.agg #[.bool g,.string s,.int .i64 x])]:=hK
 have hS:=Fb.begin w
 have hG:GsAt [] w:=trivial
 refine wq hS hG hK (fun p1=>[.n 1 #[.bool g,.string s,.int .i64 x] 30,.v 2 (.int .i64 0)]) (fun p1=>[(1,pT (p1 0).N 0),(2,.int .i64 0)]) (fun p1=>?_) (fun p1 W1 T hF hK=>?_)
 ·refine okn ?_
  refine okv ?_
  exact ok_nil
 replace hS:=SymF.fc hS hF [1000] [⟨(p1 0).N,#[.bool g,.string s,.int .i64 x],30,true⟩]
 replace hG:=hF.gx
 clear hF
 refine wp_seq ?_
 refine wq hS hG hK (fun p2=>[.v 5 (pT (p1 0).N 1),.l 6 (.string s) 0 1,.v 7 (.int .i64 (s.size:Int)),.v 8 (.bool false)]) (fun p2=>[(1,pT (p1 0).N 0),(2,.int .i64 0),(8,.bool false)]) (fun p2=>?_) (fun p2 W2 T hF hK=>?_)
 ·refine okv ?_
  refine okl ?_
  refine okv ?_
  refine okvb (decide_eq_false (show ¬ (s.size:Int) > 65536 by omega)) ?_
  exact ok_nil
 obtain ⟨hS,hG⟩:=SymF.fg hS hF
 clear hF
 refine wp_cond_false (hK.ew 8) (wp_skip ?_)
 refine then_n (wp_seq ?_)
 refine wq hS hG hK (fun p3=>[.l 9 (.agg #[.bool g,.string s,.int .i64 x]) 0 0,.c (some 10) (cV (.bool true))]) (fun p3=>[(1,pT (p1 0).N 0),(2,.int .i64 0),(8,.bool false),(10,.bool true)]) (fun p3=>?_) (fun p3 W3 T hF hK=>?_)
 ·refine okl ?_
  refine okc (fun W cx=>as_v (isN_t _ g s x hz)) ?_
  exact ok_nil
 obtain ⟨hS,hG⟩:=SymF.fg hS hF
 clear hF
 refine wp_cond_true (hK.ew 10) (wp_seq ?_)
 refine wq hS hG hK (fun p4=>[.v 11 (pT (p1 0).N 2),.l 12 (.int .i64 x) 0 2,.v 13 (.bool false)]) (fun p4=>[(1,pT (p1 0).N 0),(2,.int .i64 0),(8,.bool false),(10,.bool true),(13,.bool false)]) (fun p4=>?_) (fun p4 W4 T hF hK=>?_)
 ·refine okv ?_
  refine okl ?_
  refine okvb ((bne_eq_false_iff_eq.2 (show x = 0 by omega))) ?_
  exact ok_nil
 obtain ⟨hS,hG⟩:=SymF.fg hS hF
 clear hF
 refine wp_cond_false (hK.ew 13) (wp_skip (then_n ?_))
 refine wq hS hG hK (fun p5=>[.v 2 (.int .i64 0)]) (fun p5=>[(1,pT (p1 0).N 0),(2,.int .i64 0),(8,.bool false),(10,.bool true),(13,.bool false)]) (fun p5=>?_) (fun p5 W5 T hF hK=>?_)
 ·refine okv ?_
  exact ok_nil
 obtain ⟨hS,hG⟩:=SymF.fg hS hF
 clear hF
 refine wp_ret ?_
 refine then_r ?_
 exact sym_end hS hK (.int .i64 0) [] [] (by kernel_rfl) (by kernel_rfl) ⟨rfl,hS.fr⟩
theorem dck_ok (w:World) (g:Bool) (s:ByteArray) (x:Int) (f t:Nat) (hm:s.size≤65536) (hz:s.size≠0) (HE:Hid (∀ W:World,Calls Tryz.prog 39 #[.string s] W fun e W'=>e = .returned (.tuple #[.int .i64 (f:Int),.int .i64 (t:Int)])∧Below W.heap.size W W')) (hf:f = 0) (ht:s.size≤t) (HA:Hid (∀ W:World,Calls Tryz.prog 38 #[.string s] W fun e W'=>e = .returned (.bool true)∧Below W.heap.size W W')) (HB:Hid (∀ W:World,Calls Tryz.prog 80 #[.int .i64 x] W fun e W'=>e = .returned (.bool false)∧Below W.heap.size W W')) :
  Calls Tryz.prog 41 #[.agg #[.bool g,.string s,.int .i64 x]] w fun en w'=>en = .returned (.int .i64 0)∧Below w.heap.size w w':=by
 refine calls_sym Tryz.func41 rfl (by kernel_rfl) fun T hK=>?_
 replace hK:Kn T _ [(0,.agg #[.bool g,.string s,.int .i64 x])]:=hK
 have hS:=Fb.begin w
 have hG:GsAt [] w:=trivial
 refine wq hS hG hK (fun p1=>[.n 1 #[.bool g,.string s,.int .i64 x] 30,.v 2 (.int .i64 0)]) (fun p1=>[(1,pT (p1 0).N 0),(2,.int .i64 0)]) (fun p1=>?_) (fun p1 W1 T hF hK=>?_)
 ·refine okn ?_
  refine okv ?_
  exact ok_nil
 replace hS:=SymF.fc hS hF [1000] [⟨(p1 0).N,#[.bool g,.string s,.int .i64 x],30,true⟩]
 replace hG:=hF.gx
 clear hF
 refine wp_seq ?_
 refine wq hS hG hK (fun p2=>[.v 5 (pT (p1 0).N 1),.l 6 (.string s) 0 1,.v 7 (.int .i64 (s.size:Int)),.v 8 (.bool false)]) (fun p2=>[(1,pT (p1 0).N 0),(2,.int .i64 0),(8,.bool false)]) (fun p2=>?_) (fun p2 W2 T hF hK=>?_)
 ·refine okv ?_
  refine okl ?_
  refine okv ?_
  refine okvb (decide_eq_false (show ¬ (s.size:Int) > 65536 by omega)) ?_
  exact ok_nil
 obtain ⟨hS,hG⟩:=SymF.fg hS hF
 clear hF
 refine wp_cond_false (hK.ew 8) (wp_skip ?_)
 refine then_n (wp_seq ?_)
 refine wq hS hG hK (fun p3=>[.l 9 (.agg #[.bool g,.string s,.int .i64 x]) 0 0,.c (some 10) (cV (.bool false))]) (fun p3=>[(1,pT (p1 0).N 0),(2,.int .i64 0),(8,.bool false),(10,.bool false)]) (fun p3=>?_) (fun p3 W3 T hF hK=>?_)
 ·refine okl ?_
  refine okc (fun W cx=>as_v (isN_f _ g s x hz)) ?_
  exact ok_nil
 obtain ⟨hS,hG⟩:=SymF.fg hS hF
 clear hF
 refine wp_cond_false (hK.ew 10) (wp_skip (then_n ?_))
 refine wq hS hG hK (fun p4=>[.v 15 (pT (p1 0).N 1),.l 16 (.string s) 0 1,.c (some 17) (cV (.tuple #[.int .i64 (f:Int),.int .i64 (t:Int)])),.v 14 (.tuple #[.int .i64 (f:Int),.int .i64 (t:Int)]),.v 18 (.int .i64 (f:Int)),.v 19 (.int .i64 (t:Int)),.v 3 (.int .i64 (f:Int)),.v 4 (.int .i64 (t:Int))]) (fun p4=>[(1,pT (p1 0).N 0),(2,.int .i64 0),(3,.int .i64 (f:Int)),(4,.int .i64 (t:Int)),(8,.bool false),(10,.bool false)]) (fun p4=>?_) (fun p4 W4 T hF hK=>?_)
 ·refine okv ?_
  refine okl ?_
  refine okc (fun W cx=>as_v (unhide HE _)) ?_
  iterate 5 refine okv ?_
  exact ok_nil
 obtain ⟨hS,hG⟩:=SymF.fg hS hF
 clear hF
 refine wp_seq ?_
 refine wq hS hG hK (fun p5=>[.v 20 (.int .i64 (f:Int)),.v 21 (.bool false),.v 22 (.bool false),.v 23 (.int .i64 (t:Int)),.v 24 (pT (p1 0).N 1),.l 25 (.string s) 0 1,.v 26 (.int .i64 (s.size:Int)),.v 27 (.bool false),.v 28 (.bool false),.v 29 (.bool false),.v 30 (pT (p1 0).N 1),.l 31 (.string s) 0 1,.c (some 32) (cV (.bool true)),.v 33 (.bool false),.v 34 (.bool false),.v 35 (.bool false),.v 36 (pT (p1 0).N 2),.l 37 (.int .i64 x) 0 2,.c (some 38) (cV (.bool false)),.v 39 (.bool false)]) (fun p5=>[(1,pT (p1 0).N 0),(2,.int .i64 0),(8,.bool false),(10,.bool false),(39,.bool false)]) (fun p5=>?_) (fun p5 W5 T hF hK=>?_)
 ·refine okv ?_
  refine okvb (decide_eq_false (show ¬ (f:Int) > 0 by omega)) ?_
  iterate 3 refine okv ?_
  refine okl ?_
  refine okv ?_
  refine okvb (decide_eq_false (show ¬ (t:Int) < (s.size:Int) by omega)) ?_
  iterate 3 refine okv ?_
  refine okl ?_
  refine okc (fun W cx=>as_v (unhide HA _)) ?_
  iterate 4 refine okv ?_
  refine okl ?_
  refine okc (fun W cx=>as_v (unhide HB _)) ?_
  refine okv ?_
  exact ok_nil
 obtain ⟨hS,hG⟩:=SymF.fg hS hF
 clear hF
 refine wp_cond_false (hK.ew 39) (wp_skip (then_n ?_))
 refine wq hS hG hK (fun p6=>[.v 2 (.int .i64 0)]) (fun p6=>[(1,pT (p1 0).N 0),(2,.int .i64 0),(8,.bool false),(10,.bool false),(39,.bool false)]) (fun p6=>?_) (fun p6 W6 T hF hK=>?_)
 ·refine okv ?_
  exact ok_nil
 obtain ⟨hS,hG⟩:=SymF.fg hS hF
 clear hF
 refine wp_ret ?_
 exact sym_end hS hK (.int .i64 0) [] [] (by kernel_rfl) (by kernel_rfl) ⟨rfl,hS.fr⟩
theorem ask_lo (w:World) (g:Bool) (s:ByteArray) (x:Int) (n l:Int) (md:Nat) (h1:n < l) (HC:Hid (∀ W:World,Calls Tryz.prog 41 #[.agg #[.bool g,.string s,.int .i64 x]] W fun e W'=>e = .returned (.int .i64 0)∧Below W.heap.size W W')) :
  Calls Tryz.prog 22 #[.agg #[.bool g,.string s,.int .i64 x],.int .i64 n,.int .i64 l,.int .u8 (md:Int)] w fun en w'=>en = .returned (.int .i64 101)∧Below w.heap.size w w':=by
 refine calls_sym Tryz.func22 rfl (by kernel_rfl) fun T hK=>?_
 replace hK:Kn T _ [(0,.agg #[.bool g,.string s,.int .i64 x]),(1,.int .i64 n),(2,.int .i64 l),(3,.int .u8 (md:Int))]:=hK
 have hS:=Fb.begin w
 have hG:GsAt [] w:=trivial
 refine wq hS hG hK (fun p1=>[.n 4 #[.bool g,.string s,.int .i64 x] 30,.v 8 (.int .i64 0)]) (fun p1=>[(1,.int .i64 n),(2,.int .i64 l),(3,.int .u8 (md:Int)),(4,pT (p1 0).N 0),(8,.int .i64 0)]) (fun p1=>?_) (fun p1 W1 T hF hK=>?_)
 ·refine okn ?_
  refine okv ?_
  exact ok_nil
 replace hS:=SymF.fc hS hF [1000] [⟨(p1 0).N,#[.bool g,.string s,.int .i64 x],30,true⟩]
 replace hG:=hF.gx
 clear hF
 refine wp_seq ?_
 refine wq hS hG hK (fun p2=>[.l 10 (.agg #[.bool g,.string s,.int .i64 x]) 0 0,.c (some 11) (cV (.int .i64 0)),.v 9 (.int .i64 0)]) (fun p2=>[(1,.int .i64 n),(2,.int .i64 l),(3,.int .u8 (md:Int)),(8,.int .i64 0),(9,.int .i64 0)]) (fun p2=>?_) (fun p2 W2 T hF hK=>?_)
 ·refine okl ?_
  refine okc (fun W cx=>as_v (unhide HC _)) ?_
  refine okv ?_
  exact ok_nil
 replace hS:=SymF.fc hS hF [] []
 replace hG:=hF.gx
 clear hF
 refine wq hS hG hK (fun p3=>[.v 12 (.int .i64 0),.v 13 (.bool false)]) (fun p3=>[(1,.int .i64 n),(2,.int .i64 l),(3,.int .u8 (md:Int)),(8,.int .i64 0),(9,.int .i64 0),(13,.bool false)]) (fun p3=>?_) (fun p3 W3 T hF hK=>?_)
 ·iterate 2 refine okv ?_
  exact ok_nil
 obtain ⟨hS,hG⟩:=SymF.fg hS hF
 clear hF
 refine wp_cond_false (hK.ew 13) (wp_skip ?_)
 refine then_n (wp_seq ?_)
 refine wq hS hG hK (fun p4=>[.v 15 (.int .i64 n),.v 16 (.int .i64 l),.v 17 (.bool true),.v 18 (.bool true),.k (some 19),.k (some 20),.v 21 (.bool true)]) (fun p4=>[(3,.int .u8 (md:Int)),(8,.int .i64 0),(9,.int .i64 0),(13,.bool false),(21,.bool true)]) (fun p4=>?_) (fun p4 W4 T hF hK=>?_)
 ·iterate 2 refine okv ?_
  refine okvb (decide_eq_true (show n < l by omega)) ?_
  refine okv ?_
  iterate 2 refine okk ?_
  refine okv ?_
  exact ok_nil
 obtain ⟨hS,hG⟩:=SymF.fg hS hF
 clear hF
 refine wp_cond_true (hK.ew 21) ?_
 refine wq hS hG hK (fun p5=>[.v 8 (.int .i64 101)]) (fun p5=>[(3,.int .u8 (md:Int)),(8,.int .i64 101),(9,.int .i64 0),(13,.bool false),(21,.bool true)]) (fun p5=>?_) (fun p5 W5 T hF hK=>?_)
 ·refine okv ?_
  exact ok_nil
 obtain ⟨hS,hG⟩:=SymF.fg hS hF
 clear hF
 refine wp_ret ?_
 refine then_r ?_
 exact sym_end hS hK (.int .i64 101) [] [] (by kernel_rfl) (by kernel_rfl) ⟨rfl,hS.fr⟩
theorem ask_hi (w:World) (g:Bool) (s:ByteArray) (x:Int) (n l:Int) (md:Nat) (h1:l≤n) (h2:2000 < n) (HC:Hid (∀ W:World,Calls Tryz.prog 41 #[.agg #[.bool g,.string s,.int .i64 x]] W fun e W'=>e = .returned (.int .i64 0)∧Below W.heap.size W W')) :
  Calls Tryz.prog 22 #[.agg #[.bool g,.string s,.int .i64 x],.int .i64 n,.int .i64 l,.int .u8 (md:Int)] w fun en w'=>en = .returned (.int .i64 101)∧Below w.heap.size w w':=by
 refine calls_sym Tryz.func22 rfl (by kernel_rfl) fun T hK=>?_
 replace hK:Kn T _ [(0,.agg #[.bool g,.string s,.int .i64 x]),(1,.int .i64 n),(2,.int .i64 l),(3,.int .u8 (md:Int))]:=hK
 have hS:=Fb.begin w
 have hG:GsAt [] w:=trivial
 refine wq hS hG hK (fun p1=>[.n 4 #[.bool g,.string s,.int .i64 x] 30,.v 8 (.int .i64 0)]) (fun p1=>[(1,.int .i64 n),(2,.int .i64 l),(3,.int .u8 (md:Int)),(4,pT (p1 0).N 0),(8,.int .i64 0)]) (fun p1=>?_) (fun p1 W1 T hF hK=>?_)
 ·refine okn ?_
  refine okv ?_
  exact ok_nil
 replace hS:=SymF.fc hS hF [1000] [⟨(p1 0).N,#[.bool g,.string s,.int .i64 x],30,true⟩]
 replace hG:=hF.gx
 clear hF
 refine wp_seq ?_
 refine wq hS hG hK (fun p2=>[.l 10 (.agg #[.bool g,.string s,.int .i64 x]) 0 0,.c (some 11) (cV (.int .i64 0)),.v 9 (.int .i64 0)]) (fun p2=>[(1,.int .i64 n),(2,.int .i64 l),(3,.int .u8 (md:Int)),(8,.int .i64 0),(9,.int .i64 0)]) (fun p2=>?_) (fun p2 W2 T hF hK=>?_)
 ·refine okl ?_
  refine okc (fun W cx=>as_v (unhide HC _)) ?_
  refine okv ?_
  exact ok_nil
 replace hS:=SymF.fc hS hF [] []
 replace hG:=hF.gx
 clear hF
 refine wq hS hG hK (fun p3=>[.v 12 (.int .i64 0),.v 13 (.bool false)]) (fun p3=>[(1,.int .i64 n),(2,.int .i64 l),(3,.int .u8 (md:Int)),(8,.int .i64 0),(9,.int .i64 0),(13,.bool false)]) (fun p3=>?_) (fun p3 W3 T hF hK=>?_)
 ·iterate 2 refine okv ?_
  exact ok_nil
 obtain ⟨hS,hG⟩:=SymF.fg hS hF
 clear hF
 refine wp_cond_false (hK.ew 13) (wp_skip ?_)
 refine then_n (wp_seq ?_)
 refine wq hS hG hK (fun p4=>[.v 15 (.int .i64 n),.v 16 (.int .i64 l),.v 17 (.bool false),.v 18 (.bool false),.v 19 (.int .i64 n),.v 20 (.bool true),.v 21 (.bool true)]) (fun p4=>[(3,.int .u8 (md:Int)),(8,.int .i64 0),(9,.int .i64 0),(13,.bool false),(21,.bool true)]) (fun p4=>?_) (fun p4 W4 T hF hK=>?_)
 ·iterate 2 refine okv ?_
  refine okvb (decide_eq_false (show ¬ n < l by omega)) ?_
  iterate 2 refine okv ?_
  refine okvb (decide_eq_true (show n > 2000 by omega)) ?_
  refine okv ?_
  exact ok_nil
 obtain ⟨hS,hG⟩:=SymF.fg hS hF
 clear hF
 refine wp_cond_true (hK.ew 21) ?_
 refine wq hS hG hK (fun p5=>[.v 8 (.int .i64 101)]) (fun p5=>[(3,.int .u8 (md:Int)),(8,.int .i64 101),(9,.int .i64 0),(13,.bool false),(21,.bool true)]) (fun p5=>?_) (fun p5 W5 T hF hK=>?_)
 ·refine okv ?_
  exact ok_nil
 obtain ⟨hS,hG⟩:=SymF.fg hS hF
 clear hF
 refine wp_ret ?_
 refine then_r ?_
 exact sym_end hS hK (.int .i64 101) [] [] (by kernel_rfl) (by kernel_rfl) ⟨rfl,hS.fr⟩
theorem ask_ok (w:World) (g:Bool) (s:ByteArray) (x:Int) (n l:Int) (md:Nat) (h1:l≤n) (h2:n≤2000) (h3:md≤4) (HC:Hid (∀ W:World,Calls Tryz.prog 41 #[.agg #[.bool g,.string s,.int .i64 x]] W fun e W'=>e = .returned (.int .i64 0)∧Below W.heap.size W W')) :
  Calls Tryz.prog 22 #[.agg #[.bool g,.string s,.int .i64 x],.int .i64 n,.int .i64 l,.int .u8 (md:Int)] w fun en w'=>en = .returned (.int .i64 0)∧Below w.heap.size w w':=by
 refine calls_sym Tryz.func22 rfl (by kernel_rfl) fun T hK=>?_
 replace hK:Kn T _ [(0,.agg #[.bool g,.string s,.int .i64 x]),(1,.int .i64 n),(2,.int .i64 l),(3,.int .u8 (md:Int))]:=hK
 have hS:=Fb.begin w
 have hG:GsAt [] w:=trivial
 refine wq hS hG hK (fun p1=>[.n 4 #[.bool g,.string s,.int .i64 x] 30,.v 8 (.int .i64 0)]) (fun p1=>[(1,.int .i64 n),(2,.int .i64 l),(3,.int .u8 (md:Int)),(4,pT (p1 0).N 0),(8,.int .i64 0)]) (fun p1=>?_) (fun p1 W1 T hF hK=>?_)
 ·refine okn ?_
  refine okv ?_
  exact ok_nil
 replace hS:=SymF.fc hS hF [1000] [⟨(p1 0).N,#[.bool g,.string s,.int .i64 x],30,true⟩]
 replace hG:=hF.gx
 clear hF
 refine wp_seq ?_
 refine wq hS hG hK (fun p2=>[.l 10 (.agg #[.bool g,.string s,.int .i64 x]) 0 0,.c (some 11) (cV (.int .i64 0)),.v 9 (.int .i64 0)]) (fun p2=>[(1,.int .i64 n),(2,.int .i64 l),(3,.int .u8 (md:Int)),(8,.int .i64 0),(9,.int .i64 0)]) (fun p2=>?_) (fun p2 W2 T hF hK=>?_)
 ·refine okl ?_
  refine okc (fun W cx=>as_v (unhide HC _)) ?_
  refine okv ?_
  exact ok_nil
 replace hS:=SymF.fc hS hF [] []
 replace hG:=hF.gx
 clear hF
 refine wq hS hG hK (fun p3=>[.v 12 (.int .i64 0),.v 13 (.bool false)]) (fun p3=>[(1,.int .i64 n),(2,.int .i64 l),(3,.int .u8 (md:Int)),(8,.int .i64 0),(9,.int .i64 0),(13,.bool false)]) (fun p3=>?_) (fun p3 W3 T hF hK=>?_)
 ·iterate 2 refine okv ?_
  exact ok_nil
 obtain ⟨hS,hG⟩:=SymF.fg hS hF
 clear hF
 refine wp_cond_false (hK.ew 13) (wp_skip ?_)
 refine then_n (wp_seq ?_)
 refine wq hS hG hK (fun p4=>[.v 15 (.int .i64 n),.v 16 (.int .i64 l),.v 17 (.bool false),.v 18 (.bool false),.v 19 (.int .i64 n),.v 20 (.bool false),.v 21 (.bool false)]) (fun p4=>[(3,.int .u8 (md:Int)),(8,.int .i64 0),(9,.int .i64 0),(13,.bool false),(21,.bool false)]) (fun p4=>?_) (fun p4 W4 T hF hK=>?_)
 ·iterate 2 refine okv ?_
  refine okvb (decide_eq_false (show ¬ n < l by omega)) ?_
  iterate 2 refine okv ?_
  refine okvb (decide_eq_false (show ¬ n > 2000 by omega)) ?_
  refine okv ?_
  exact ok_nil
 obtain ⟨hS,hG⟩:=SymF.fg hS hF
 clear hF
 refine wp_cond_false (hK.ew 21) (wp_skip ?_)
 refine then_n (wp_seq ?_)
 refine wq hS hG hK (fun p5=>[.v 22 (.int .u8 (md:Int)),.v 23 (.bool false)]) (fun p5=>[(8,.int .i64 0),(9,.int .i64 0),(13,.bool false),(21,.bool false),(23,.bool false)]) (fun p5=>?_) (fun p5 W5 T hF hK=>?_)
 ·refine okv ?_
  refine okvb (decide_eq_false (show ¬ (md:Int) > 4 by omega)) ?_
  exact ok_nil
 obtain ⟨hS,hG⟩:=SymF.fg hS hF
 clear hF
 refine wp_cond_false (hK.ew 23) (wp_skip (then_n ?_))
 refine wq hS hG hK (fun p6=>[.v 8 (.int .i64 0)]) (fun p6=>[(8,.int .i64 0),(9,.int .i64 0),(13,.bool false),(21,.bool false),(23,.bool false)]) (fun p6=>?_) (fun p6 W6 T hF hK=>?_)
 ·refine okv ?_
  exact ok_nil
 obtain ⟨hS,hG⟩:=SymF.fg hS hF
 clear hF
 refine wp_ret ?_
 exact sym_end hS hK (.int .i64 0) [] [] (by kernel_rfl) (by kernel_rfl) ⟨rfl,hS.fr⟩
theorem dround_err (w:World) (g:Bool) (s:ByteArray) (x:Int) (n:Int) (md:Nat) (e1:Int) (he:e1≠0) (HK:Hid (∀ W:World,Calls Tryz.prog 22 #[.agg #[.bool g,.string s,.int .i64 x],.int .i64 n,.int .i64 1,.int .u8 (md:Int)] W fun e W'=>e = .returned (.int .i64 e1)∧Below W.heap.size W W')) :
  Calls Tryz.prog 14 #[.agg #[.bool g,.string s,.int .i64 x],.int .i64 n,.int .u8 (md:Int)] w fun en w'=>en = .returned (.tuple #[.agg #[.bool false,.string ⟨#[]⟩,.int .i64 0],.bool false,.int .i64 e1])∧Below w.heap.size w w':=by
 refine calls_sym Tryz.func14 rfl (by kernel_rfl) fun T hK=>?_
 replace hK:Kn T _ [(0,.agg #[.bool g,.string s,.int .i64 x]),(1,.int .i64 n),(2,.int .u8 (md:Int))]:=hK
 have hS:=Fb.begin w
 have hG:GsAt [] w:=trivial
 refine wq hS hG hK (fun p1=>[.n 3 #[.bool g,.string s,.int .i64 x] 30,.n 6 #[.bool false,.string ⟨#[]⟩,.int .i64 0] 30,.v 7 (.bool false),.v 8 (.int .i64 0)]) (fun p1=>[(1,.int .i64 n),(2,.int .u8 (md:Int)),(3,pT (p1 0).N 0),(6,pT (p1 1).N 0),(7,.bool false),(8,.int .i64 0)]) (fun p1=>?_) (fun p1 W1 T hF hK=>?_)
 ·iterate 2 refine okn ?_
  iterate 2 refine okv ?_
  exact ok_nil
 replace hS:=SymF.fc hS hF [1000,1001] [⟨(p1 0).N,#[.bool g,.string s,.int .i64 x],30,true⟩,⟨(p1 1).N,#[.bool false,.string ⟨#[]⟩,.int .i64 0],30,true⟩]
 replace hG:=hF.gx
 clear hF
 refine wp_seq ?_
 refine wq hS hG hK (fun p2=>[.l 10 (.agg #[.bool g,.string s,.int .i64 x]) 0 0,.v 11 (.int .i64 n),.v 12 (.int .u8 (md:Int)),.c (some 13) (cV (.int .i64 e1)),.v 9 (.int .i64 e1)]) (fun p2=>[(1,.int .i64 n),(2,.int .u8 (md:Int)),(3,pT (p1 0).N 0),(6,pT (p1 1).N 0),(7,.bool false),(8,.int .i64 0),(9,.int .i64 e1)]) (fun p2=>?_) (fun p2 W2 T hF hK=>?_)
 ·refine okl ?_
  iterate 2 refine okv ?_
  refine okc (fun W cx=>as_v (unhide HK _)) ?_
  refine okv ?_
  exact ok_nil
 obtain ⟨hS,hG⟩:=SymF.fg hS hF
 clear hF
 refine wq hS hG hK (fun p3=>[.v 14 (.int .i64 e1),.v 15 (.bool true)]) (fun p3=>[(1,.int .i64 n),(2,.int .u8 (md:Int)),(3,pT (p1 0).N 0),(6,pT (p1 1).N 0),(7,.bool false),(8,.int .i64 0),(9,.int .i64 e1),(15,.bool true)]) (fun p3=>?_) (fun p3 W3 T hF hK=>?_)
 ·refine okv ?_
  refine okvb (bne_iff_ne.2 he) ?_
  exact ok_nil
 obtain ⟨hS,hG⟩:=SymF.fg hS hF
 clear hF
 refine wp_cond_true (hK.ew 15) ?_
 refine wq hS hG hK (fun p4=>[.v 16 (.agg #[.bool false,.string ⟨#[]⟩,.int .i64 0]),.v 17 (.int .i64 e1),.p 1 0 [.bool false,.string ⟨#[]⟩,.int .i64 0],.v 7 (.bool false),.v 8 (.int .i64 e1)]) (fun p4=>[(1,.int .i64 n),(2,.int .u8 (md:Int)),(3,pT (p1 0).N 0),(6,pT (p1 1).N 0),(7,.bool false),(8,.int .i64 e1),(15,.bool true)]) (fun p4=>?_) (fun p4 W4 T hF hK=>?_)
 ·iterate 2 refine okv ?_
  refine okp ?_
  iterate 2 refine okv ?_
  exact ok_nil
 obtain ⟨hS,hG⟩:=SymF.fg hS hF
 clear hF
 refine wp_ret ?_
 refine then_r ?_
 exact sym_end hS hK (.tuple #[.agg #[.bool false,.string ⟨#[]⟩,.int .i64 0],.bool false,.int .i64 e1]) [(1,0,3)] [.bool false,.string ⟨#[]⟩,.int .i64 0] (by kernel_rfl) (by kernel_rfl) ⟨rfl,hS.fr⟩
theorem dround_go (w:World) (g:Bool) (s:ByteArray) (x:Int) (n:Int) (md:Nat) (ct:Int) (g2:Bool) (s2:ByteArray) (x2:Int) (b2:Bool) (e2:Int) (hm:s.size≤65536) (_hx0:-1073741824≤x) (_hx1:x≤1073741824) (hn0:0≤n) (hn1:n≤2000) (hc:(s.size:Int) - n = ct) (HK:Hid (∀ W:World,Calls Tryz.prog 22 #[.agg #[.bool g,.string s,.int .i64 x],.int .i64 n,.int .i64 1,.int .u8 (md:Int)] W fun e W'=>e = .returned (.int .i64 0)∧Below W.heap.size W W')) (HR:Hid (∀ W:World,Calls Tryz.prog 23 #[.agg #[.bool g,.string s,.int .i64 x],.int .i64 ct,.int .u8 (md:Int)] W fun e W'=>e = .returned (.tuple #[.agg #[.bool g2,.string s2,.int .i64 x2],.bool b2,.int .i64 e2])∧Below W.heap.size W W')) :
  Calls Tryz.prog 14 #[.agg #[.bool g,.string s,.int .i64 x],.int .i64 n,.int .u8 (md:Int)] w fun en w'=>en = .returned (.tuple #[.agg #[.bool g2,.string s2,.int .i64 x2],.bool b2,.int .i64 e2])∧Below w.heap.size w w':=by
 refine calls_sym Tryz.func14 rfl (by kernel_rfl) fun T hK=>?_
 replace hK:Kn T _ [(0,.agg #[.bool g,.string s,.int .i64 x]),(1,.int .i64 n),(2,.int .u8 (md:Int))]:=hK
 have hS:=Fb.begin w
 have hG:GsAt [] w:=trivial
 refine wq hS hG hK (fun p1=>[.n 3 #[.bool g,.string s,.int .i64 x] 30,.n 6 #[.bool false,.string ⟨#[]⟩,.int .i64 0] 30,.v 7 (.bool false),.v 8 (.int .i64 0)]) (fun p1=>[(1,.int .i64 n),(2,.int .u8 (md:Int)),(3,pT (p1 0).N 0),(6,pT (p1 1).N 0),(7,.bool false),(8,.int .i64 0)]) (fun p1=>?_) (fun p1 W1 T hF hK=>?_)
 ·iterate 2 refine okn ?_
  iterate 2 refine okv ?_
  exact ok_nil
 replace hS:=SymF.fc hS hF [1000,1001] [⟨(p1 0).N,#[.bool g,.string s,.int .i64 x],30,true⟩,⟨(p1 1).N,#[.bool false,.string ⟨#[]⟩,.int .i64 0],30,true⟩]
 replace hG:=hF.gx
 clear hF
 refine wp_seq ?_
 refine wq hS hG hK (fun p2=>[.l 10 (.agg #[.bool g,.string s,.int .i64 x]) 0 0,.v 11 (.int .i64 n),.v 12 (.int .u8 (md:Int)),.c (some 13) (cV (.int .i64 0)),.v 9 (.int .i64 0)]) (fun p2=>[(1,.int .i64 n),(2,.int .u8 (md:Int)),(3,pT (p1 0).N 0),(6,pT (p1 1).N 0),(7,.bool false),(8,.int .i64 0),(9,.int .i64 0)]) (fun p2=>?_) (fun p2 W2 T hF hK=>?_)
 ·refine okl ?_
  iterate 2 refine okv ?_
  refine okc (fun W cx=>as_v (unhide HK _)) ?_
  refine okv ?_
  exact ok_nil
 obtain ⟨hS,hG⟩:=SymF.fg hS hF
 clear hF
 refine wq hS hG hK (fun p3=>[.v 14 (.int .i64 0),.v 15 (.bool false)]) (fun p3=>[(1,.int .i64 n),(2,.int .u8 (md:Int)),(3,pT (p1 0).N 0),(6,pT (p1 1).N 0),(7,.bool false),(8,.int .i64 0),(9,.int .i64 0),(15,.bool false)]) (fun p3=>?_) (fun p3 W3 T hF hK=>?_)
 ·iterate 2 refine okv ?_
  exact ok_nil
 obtain ⟨hS,hG⟩:=SymF.fg hS hF
 clear hF
 refine wp_cond_false (hK.ew 15) (wp_skip (then_n ?_))
 refine wq hS hG hK (fun p4=>[.l 18 (.agg #[.bool g,.string s,.int .i64 x]) 0 0,.v 19 (pT (p1 0).N 1),.l 20 (.string s) 0 1,.v 21 (.int .i64 (s.size:Int)),.v 22 (.int .i64 n),.v 23 (.int .i64 ct),.v 24 (.int .u8 (md:Int)),.c (some 25) (cV (.tuple #[.agg #[.bool g2,.string s2,.int .i64 x2],.bool b2,.int .i64 e2])),.v 26 (.agg #[.bool g2,.string s2,.int .i64 x2]),.v 27 (.bool b2),.v 28 (.int .i64 e2),.p 1 0 [.bool g2,.string s2,.int .i64 x2],.v 7 (.bool b2),.v 8 (.int .i64 e2)]) (fun p4=>[(6,pT (p1 1).N 0),(7,.bool b2),(8,.int .i64 e2),(9,.int .i64 0),(15,.bool false)]) (fun p4=>?_) (fun p4 W4 T hF hK=>?_)
 ·refine okl ?_
  refine okv ?_
  refine okl ?_
  iterate 2 refine okv ?_
  refine okvi ((wr64 (x:=(s.size:Int) - n) (by omega) (by omega)).trans hc) ?_
  refine okv ?_
  refine okc (fun W cx=>as_v (unhide HR _)) ?_
  iterate 3 refine okv ?_
  refine okp ?_
  iterate 2 refine okv ?_
  exact ok_nil
 replace hS:=SymF.fc hS hF [1] [⟨(p1 1).N,#[.bool g2,.string s2,.int .i64 x2],30,true⟩]
 replace hG:=hF.gx
 clear hF
 refine wp_ret ?_
 exact sym_end hS hK (.tuple #[.agg #[.bool g2,.string s2,.int .i64 x2],.bool b2,.int .i64 e2]) [(0,0,3)] [.bool g2,.string s2,.int .i64 x2] (by kernel_rfl) (by kernel_rfl) ⟨rfl,hS.fr⟩
theorem dplaces_err (w:World) (g:Bool) (s:ByteArray) (x:Int) (n:Int) (md:Nat) (e1:Int) (he:e1≠0) (HK:Hid (∀ W:World,Calls Tryz.prog 22 #[.agg #[.bool g,.string s,.int .i64 x],.int .i64 n,.int .i64 0,.int .u8 (md:Int)] W fun e W'=>e = .returned (.int .i64 e1)∧Below W.heap.size W W')) :
  Calls Tryz.prog 13 #[.agg #[.bool g,.string s,.int .i64 x],.int .i64 n,.int .u8 (md:Int)] w fun en w'=>en = .returned (.tuple #[.agg #[.bool false,.string ⟨#[]⟩,.int .i64 0],.bool false,.int .i64 e1])∧Below w.heap.size w w':=by
 refine calls_sym Tryz.func13 rfl (by kernel_rfl) fun T hK=>?_
 replace hK:Kn T _ [(0,.agg #[.bool g,.string s,.int .i64 x]),(1,.int .i64 n),(2,.int .u8 (md:Int))]:=hK
 have hS:=Fb.begin w
 have hG:GsAt [] w:=trivial
 refine wq hS hG hK (fun p1=>[.n 3 #[.bool g,.string s,.int .i64 x] 30,.n 6 #[.bool false,.string ⟨#[]⟩,.int .i64 0] 30,.v 7 (.bool false),.v 8 (.int .i64 0)]) (fun p1=>[(1,.int .i64 n),(2,.int .u8 (md:Int)),(3,pT (p1 0).N 0),(6,pT (p1 1).N 0),(7,.bool false),(8,.int .i64 0)]) (fun p1=>?_) (fun p1 W1 T hF hK=>?_)
 ·iterate 2 refine okn ?_
  iterate 2 refine okv ?_
  exact ok_nil
 replace hS:=SymF.fc hS hF [1000,1001] [⟨(p1 0).N,#[.bool g,.string s,.int .i64 x],30,true⟩,⟨(p1 1).N,#[.bool false,.string ⟨#[]⟩,.int .i64 0],30,true⟩]
 replace hG:=hF.gx
 clear hF
 refine wp_seq ?_
 refine wq hS hG hK (fun p2=>[.l 10 (.agg #[.bool g,.string s,.int .i64 x]) 0 0,.v 11 (.int .i64 n),.v 12 (.int .u8 (md:Int)),.c (some 13) (cV (.int .i64 e1)),.v 9 (.int .i64 e1)]) (fun p2=>[(1,.int .i64 n),(2,.int .u8 (md:Int)),(3,pT (p1 0).N 0),(6,pT (p1 1).N 0),(7,.bool false),(8,.int .i64 0),(9,.int .i64 e1)]) (fun p2=>?_) (fun p2 W2 T hF hK=>?_)
 ·refine okl ?_
  iterate 2 refine okv ?_
  refine okc (fun W cx=>as_v (unhide HK _)) ?_
  refine okv ?_
  exact ok_nil
 obtain ⟨hS,hG⟩:=SymF.fg hS hF
 clear hF
 refine wq hS hG hK (fun p3=>[.v 14 (.int .i64 e1),.v 15 (.bool true)]) (fun p3=>[(1,.int .i64 n),(2,.int .u8 (md:Int)),(3,pT (p1 0).N 0),(6,pT (p1 1).N 0),(7,.bool false),(8,.int .i64 0),(9,.int .i64 e1),(15,.bool true)]) (fun p3=>?_) (fun p3 W3 T hF hK=>?_)
 ·refine okv ?_
  refine okvb (bne_iff_ne.2 he) ?_
  exact ok_nil
 obtain ⟨hS,hG⟩:=SymF.fg hS hF
 clear hF
 refine wp_cond_true (hK.ew 15) ?_
 refine wq hS hG hK (fun p4=>[.v 16 (.agg #[.bool false,.string ⟨#[]⟩,.int .i64 0]),.v 17 (.int .i64 e1),.p 1 0 [.bool false,.string ⟨#[]⟩,.int .i64 0],.v 7 (.bool false),.v 8 (.int .i64 e1)]) (fun p4=>[(1,.int .i64 n),(2,.int .u8 (md:Int)),(3,pT (p1 0).N 0),(6,pT (p1 1).N 0),(7,.bool false),(8,.int .i64 e1),(15,.bool true)]) (fun p4=>?_) (fun p4 W4 T hF hK=>?_)
 ·iterate 2 refine okv ?_
  refine okp ?_
  iterate 2 refine okv ?_
  exact ok_nil
 obtain ⟨hS,hG⟩:=SymF.fg hS hF
 clear hF
 refine wp_ret ?_
 refine then_r ?_
 exact sym_end hS hK (.tuple #[.agg #[.bool false,.string ⟨#[]⟩,.int .i64 0],.bool false,.int .i64 e1]) [(1,0,3)] [.bool false,.string ⟨#[]⟩,.int .i64 0] (by kernel_rfl) (by kernel_rfl) ⟨rfl,hS.fr⟩
theorem dplaces_go (w:World) (g:Bool) (s:ByteArray) (x:Int) (n:Int) (md:Nat) (ct:Int) (g2:Bool) (s2:ByteArray) (x2:Int) (b2:Bool) (e2:Int) (_hm:s.size≤65536) (hx0:-1073741824≤x) (hx1:x≤1073741824) (hn0:0≤n) (hn1:n≤2000) (hc:-x - n = ct) (HK:Hid (∀ W:World,Calls Tryz.prog 22 #[.agg #[.bool g,.string s,.int .i64 x],.int .i64 n,.int .i64 0,.int .u8 (md:Int)] W fun e W'=>e = .returned (.int .i64 0)∧Below W.heap.size W W')) (HR:Hid (∀ W:World,Calls Tryz.prog 23 #[.agg #[.bool g,.string s,.int .i64 x],.int .i64 ct,.int .u8 (md:Int)] W fun e W'=>e = .returned (.tuple #[.agg #[.bool g2,.string s2,.int .i64 x2],.bool b2,.int .i64 e2])∧Below W.heap.size W W')) :
  Calls Tryz.prog 13 #[.agg #[.bool g,.string s,.int .i64 x],.int .i64 n,.int .u8 (md:Int)] w fun en w'=>en = .returned (.tuple #[.agg #[.bool g2,.string s2,.int .i64 x2],.bool b2,.int .i64 e2])∧Below w.heap.size w w':=by
 refine calls_sym Tryz.func13 rfl (by kernel_rfl) fun T hK=>?_
 replace hK:Kn T _ [(0,.agg #[.bool g,.string s,.int .i64 x]),(1,.int .i64 n),(2,.int .u8 (md:Int))]:=hK
 have hS:=Fb.begin w
 have hG:GsAt [] w:=trivial
 refine wq hS hG hK (fun p1=>[.n 3 #[.bool g,.string s,.int .i64 x] 30,.n 6 #[.bool false,.string ⟨#[]⟩,.int .i64 0] 30,.v 7 (.bool false),.v 8 (.int .i64 0)]) (fun p1=>[(1,.int .i64 n),(2,.int .u8 (md:Int)),(3,pT (p1 0).N 0),(6,pT (p1 1).N 0),(7,.bool false),(8,.int .i64 0)]) (fun p1=>?_) (fun p1 W1 T hF hK=>?_)
 ·iterate 2 refine okn ?_
  iterate 2 refine okv ?_
  exact ok_nil
 replace hS:=SymF.fc hS hF [1000,1001] [⟨(p1 0).N,#[.bool g,.string s,.int .i64 x],30,true⟩,⟨(p1 1).N,#[.bool false,.string ⟨#[]⟩,.int .i64 0],30,true⟩]
 replace hG:=hF.gx
 clear hF
 refine wp_seq ?_
 refine wq hS hG hK (fun p2=>[.l 10 (.agg #[.bool g,.string s,.int .i64 x]) 0 0,.v 11 (.int .i64 n),.v 12 (.int .u8 (md:Int)),.c (some 13) (cV (.int .i64 0)),.v 9 (.int .i64 0)]) (fun p2=>[(1,.int .i64 n),(2,.int .u8 (md:Int)),(3,pT (p1 0).N 0),(6,pT (p1 1).N 0),(7,.bool false),(8,.int .i64 0),(9,.int .i64 0)]) (fun p2=>?_) (fun p2 W2 T hF hK=>?_)
 ·refine okl ?_
  iterate 2 refine okv ?_
  refine okc (fun W cx=>as_v (unhide HK _)) ?_
  refine okv ?_
  exact ok_nil
 obtain ⟨hS,hG⟩:=SymF.fg hS hF
 clear hF
 refine wq hS hG hK (fun p3=>[.v 14 (.int .i64 0),.v 15 (.bool false)]) (fun p3=>[(1,.int .i64 n),(2,.int .u8 (md:Int)),(3,pT (p1 0).N 0),(6,pT (p1 1).N 0),(7,.bool false),(8,.int .i64 0),(9,.int .i64 0),(15,.bool false)]) (fun p3=>?_) (fun p3 W3 T hF hK=>?_)
 ·iterate 2 refine okv ?_
  exact ok_nil
 obtain ⟨hS,hG⟩:=SymF.fg hS hF
 clear hF
 refine wp_cond_false (hK.ew 15) (wp_skip (then_n ?_))
 refine wq hS hG hK (fun p4=>[.l 18 (.agg #[.bool g,.string s,.int .i64 x]) 0 0,.v 19 (pT (p1 0).N 2),.l 20 (.int .i64 x) 0 2,.v 21 (.int .i64 (-x)),.v 22 (.int .i64 n),.v 23 (.int .i64 ct),.v 24 (.int .u8 (md:Int)),.c (some 25) (cV (.tuple #[.agg #[.bool g2,.string s2,.int .i64 x2],.bool b2,.int .i64 e2])),.v 26 (.agg #[.bool g2,.string s2,.int .i64 x2]),.v 27 (.bool b2),.v 28 (.int .i64 e2),.p 1 0 [.bool g2,.string s2,.int .i64 x2],.v 7 (.bool b2),.v 8 (.int .i64 e2)]) (fun p4=>[(6,pT (p1 1).N 0),(7,.bool b2),(8,.int .i64 e2),(9,.int .i64 0),(15,.bool false)]) (fun p4=>?_) (fun p4 W4 T hF hK=>?_)
 ·refine okl ?_
  refine okv ?_
  refine okl ?_
  refine okvi ((wr64 (x:=0 - x) (by omega) (by omega)).trans (by omega)) ?_
  refine okv ?_
  refine okvi ((wr64 (x:=-x - n) (by omega) (by omega)).trans hc) ?_
  refine okv ?_
  refine okc (fun W cx=>as_v (unhide HR _)) ?_
  iterate 3 refine okv ?_
  refine okp ?_
  iterate 2 refine okv ?_
  exact ok_nil
 replace hS:=SymF.fc hS hF [1] [⟨(p1 1).N,#[.bool g2,.string s2,.int .i64 x2],30,true⟩]
 replace hG:=hF.gx
 clear hF
 refine wp_ret ?_
 exact sym_end hS hK (.tuple #[.agg #[.bool g2,.string s2,.int .i64 x2],.bool b2,.int .i64 e2]) [(0,0,3)] [.bool g2,.string s2,.int .i64 x2] (by kernel_rfl) (by kernel_rfl) ⟨rfl,hS.fr⟩
theorem rounded_none (w:World) (g:Bool) (s:ByteArray) (x:Int) (ct:Int) (md:Nat) (hs:s.size≤281474976710656) (hc:ct≤0) :
  Calls Tryz.prog 23 #[.agg #[.bool g,.string s,.int .i64 x],.int .i64 ct,.int .u8 (md:Int)] w fun en w'=>en = .returned (.tuple #[.agg #[.bool g,.string s,.int .i64 x],.bool true,.int .i64 0])∧Below w.heap.size w w':=by
 refine calls_sym Tryz.func23 rfl (by kernel_rfl) fun T hK=>?_
 replace hK:Kn T _ [(0,.agg #[.bool g,.string s,.int .i64 x]),(1,.int .i64 ct),(2,.int .u8 (md:Int))]:=hK
 have hS:=Fb.begin w
 have hG:GsAt [] w:=trivial
 refine wq hS hG hK (fun p1=>[.n 3 #[.bool g,.string s,.int .i64 x] 30,.n 6 #[.bool false,.string ⟨#[]⟩,.int .i64 0] 30,.v 7 (.bool false),.v 8 (.int .i64 0)]) (fun p1=>[(1,.int .i64 ct),(2,.int .u8 (md:Int)),(3,pT (p1 0).N 0),(6,pT (p1 1).N 0),(7,.bool false),(8,.int .i64 0)]) (fun p1=>?_) (fun p1 W1 T hF hK=>?_)
 ·iterate 2 refine okn ?_
  iterate 2 refine okv ?_
  exact ok_nil
 replace hS:=SymF.fc hS hF [1000,1001] [⟨(p1 0).N,#[.bool g,.string s,.int .i64 x],30,true⟩,⟨(p1 1).N,#[.bool false,.string ⟨#[]⟩,.int .i64 0],30,true⟩]
 replace hG:=hF.gx
 clear hF
 refine wp_seq ?_
 refine wq hS hG hK (fun p2=>[.v 14 (.int .i64 ct),.v 15 (.bool true)]) (fun p2=>[(1,.int .i64 ct),(2,.int .u8 (md:Int)),(3,pT (p1 0).N 0),(6,pT (p1 1).N 0),(7,.bool false),(8,.int .i64 0),(15,.bool true)]) (fun p2=>?_) (fun p2 W2 T hF hK=>?_)
 ·refine okv ?_
  refine okvb (decide_eq_true (show ct≤0 by omega)) ?_
  exact ok_nil
 obtain ⟨hS,hG⟩:=SymF.fg hS hF
 clear hF
 refine wp_cond_true (hK.ew 15) ?_
 refine wq hS hG hK (fun p3=>[.l 16 (.agg #[.bool g,.string s,.int .i64 x]) 0 0,.c (some 17) (cV (.agg #[.bool g,.string s,.int .i64 x])),.p 1 0 [.bool g,.string s,.int .i64 x],.v 7 (.bool true),.v 8 (.int .i64 0)]) (fun p3=>[(1,.int .i64 ct),(2,.int .u8 (md:Int)),(3,pT (p1 0).N 0),(6,pT (p1 1).N 0),(7,.bool true),(8,.int .i64 0),(15,.bool true)]) (fun p3=>?_) (fun p3 W3 T hF hK=>?_)
 ·refine okl ?_
  refine okc (fun W cx=>as_v (dcopied_any _ g s x hs)) ?_
  refine okp ?_
  iterate 2 refine okv ?_
  exact ok_nil
 replace hS:=SymF.fc hS hF [0,1] [⟨(p1 0).N,#[.bool g,.string s,.int .i64 x],30,true⟩,⟨(p1 1).N,#[.bool g,.string s,.int .i64 x],30,true⟩]
 replace hG:=hF.gx
 clear hF
 refine wp_ret ?_
 refine then_r ?_
 exact sym_end hS hK (.tuple #[.agg #[.bool g,.string s,.int .i64 x],.bool true,.int .i64 0]) [(1,0,3)] [.bool g,.string s,.int .i64 x] (by kernel_rfl) (by kernel_rfl) ⟨rfl,hS.fr⟩
end Go.Proofs.YtplihgoapiiigaaGreatDoor
