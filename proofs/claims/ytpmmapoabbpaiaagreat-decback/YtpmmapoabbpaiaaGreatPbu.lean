/- Of what DecBackRow stands on: DbLawW. -/
import Derived.Test.YtpmmapoabbpaiaaGreatPbb
import Derived.Test.YtpmmapoabbpaiaaGreatPaj
import Derived.Test.YtpmmapoabbpaiaaGreatPaz
namespace Go.Proofs.YtpmmapoabbpaiaaGreat
open Go.RowKit
set_option maxHeartbeats 2000000
set_option maxRecDepth 20000
theorem dbk_na (w:World) (f:Bool) (s:ByteArray) (x:Int) (g:Bool) (a b:Option Addr) (n c k l:Nat) (HA:Hid (∀ W:World,Calls Tryz.prog 5 #[] W fun e W'=>e = .returned (.bool true)∧Below W.heap.size W W')) (K1:Hid (∀ W:World,Calls Tryz.prog 6 #[.agg #[.bool f,.string s,.int .i64 x],.int .i64 800,.int .i64 1500] W fun e W'=>e = .returned (.bool false)∧Below W.heap.size W W')) (hk:20 < k)  :
  Calls Tryz.prog 3 #[.agg #[.bool f,.string s,.int .i64 x],.agg #[.bool g,.slice a n c,.slice b k l]] w fun en w'=>en = .returned (.bool true)∧Below w.heap.size w w':=by
 refine calls_sym Tryz.func3 rfl (by kernel_rfl) fun T hK=>?_
 replace hK:Kn T _ [(0,.agg #[.bool f,.string s,.int .i64 x]),(1,.agg #[.bool g,.slice a n c,.slice b k l])]:=hK
 have hS:=Fb.begin w
 have hG:GsAt [] w:=trivial
 refine wq hS hG hK (fun p1=>[.n 2 #[.bool f,.string s,.int .i64 x] 23,.n 3 #[.bool g,.slice a n c,.slice b k l] 28,.v 4 (.bool false)]) (fun p1=>[(2,pT (p1 0).N 0),(3,pT (p1 1).N 0),(4,.bool false)]) (fun p1=>?_) (fun p1 W1 T hF hK=>?_)
 ·iterate 2 refine okn ?_
  refine okv ?_
  exact ok_nil
 replace hS:=SymF.fc hS hF [1000,1001] [⟨(p1 0).N,#[.bool f,.string s,.int .i64 x],23,true⟩,⟨(p1 1).N,#[.bool g,.slice a n c,.slice b k l],28,true⟩]
 replace hG:=hF.gx
 clear hF
 refine wq hS hG hK (fun p2=>[.c (some 16) (cV (.bool true)),.v 5 (.bool true)]) (fun p2=>[(2,pT (p1 0).N 0),(3,pT (p1 1).N 0),(4,.bool false),(5,.bool true)]) (fun p2=>?_) (fun p2 W2 T hF hK=>?_)
 ·refine okc (fun W cx=>as_v (unhide HA _)) ?_
  refine okv ?_
  exact ok_nil
 obtain ⟨hS,hG⟩:=SymF.fg hS hF
 clear hF
 refine wp_seq ?_
 refine wq hS hG hK (fun p3=>[.l 17 (.agg #[.bool f,.string s,.int .i64 x]) 0 0,.c (some 18) (cV (.bool false))]) (fun p3=>[(2,pT (p1 0).N 0),(3,pT (p1 1).N 0),(4,.bool false),(5,.bool true),(18,.bool false)]) (fun p3=>?_) (fun p3 W3 T hF hK=>?_)
 ·refine okl ?_
  refine okc (fun W cx=>as_v (unhide K1 _)) ?_
  exact ok_nil
 obtain ⟨hS,hG⟩:=SymF.fg hS hF
 clear hF
 refine wp_cond_false (hK.ew 18) (wp_skip ?_)
 refine then_n (wp_seq ?_)
 refine wq hS hG hK (fun p4=>[.v 66 (pT (p1 1).N 2),.v 67 (pT (p1 1).N 2),.l 68 (.slice b k l) 1 2,.v 69 (.int .i64 (k:Int)),.v 70 (.bool true)]) (fun p4=>[(2,pT (p1 0).N 0),(3,pT (p1 1).N 0),(4,.bool false),(5,.bool true),(70,.bool true)]) (fun p4=>?_) (fun p4 W4 T hF hK=>?_)
 ·iterate 2 refine okv ?_
  refine okl ?_
  refine okv ?_
  refine okvb (decide_eq_true (show (k:Int) > 20 by omega)) ?_
  exact ok_nil
 obtain ⟨hS,hG⟩:=SymF.fg hS hF
 clear hF
 refine wp_cond_true (hK.ew 70) ?_
 refine wq hS hG hK (fun p5=>[.v 71 (.bool true),.v 4 (.bool true)]) (fun p5=>[(2,pT (p1 0).N 0),(3,pT (p1 1).N 0),(4,.bool true),(5,.bool true)]) (fun p5=>?_) (fun p5 W5 T hF hK=>?_)
 ·iterate 2 refine okv ?_
  exact ok_nil
 obtain ⟨hS,hG⟩:=SymF.fg hS hF
 clear hF
 refine wp_ret ?_
 refine then_r ?_
 exact sym_end hS hK (.bool true) [] [] (by kernel_rfl) (by kernel_rfl) ⟨rfl,hS.fr⟩
theorem dbk_ne (w:World) (f:Bool) (s:ByteArray) (x:Int) (g:Bool) (a b:Option Addr) (n c k l:Nat) (e1:Int) (HA:Hid (∀ W:World,Calls Tryz.prog 5 #[] W fun e W'=>e = .returned (.bool true)∧Below W.heap.size W W')) (K1:Hid (∀ W:World,Calls Tryz.prog 6 #[.agg #[.bool f,.string s,.int .i64 x],.int .i64 800,.int .i64 1500] W fun e W'=>e = .returned (.bool false)∧Below W.heap.size W W')) (hk:k≤20) (he:e1≠0) (O2:Hid (∀ W:World,Below w.heap.size w W→Calls Tryz.prog 8 #[.agg #[.bool g,.slice a n c,.slice b k l]] W fun e W'=>e = .returned (.tuple #[.agg #[.bool false,.string ⟨#[]⟩,.int .i64 0],.bool false,.int .i64 e1])∧Below W.heap.size W W'))  :
  Calls Tryz.prog 3 #[.agg #[.bool f,.string s,.int .i64 x],.agg #[.bool g,.slice a n c,.slice b k l]] w fun en w'=>en = .returned (.bool true)∧Below w.heap.size w w':=by
 refine calls_sym Tryz.func3 rfl (by kernel_rfl) fun T hK=>?_
 replace hK:Kn T _ [(0,.agg #[.bool f,.string s,.int .i64 x]),(1,.agg #[.bool g,.slice a n c,.slice b k l])]:=hK
 have hS:=Fb.begin w
 have hG:GsAt [] w:=trivial
 refine wq hS hG hK (fun p1=>[.n 2 #[.bool f,.string s,.int .i64 x] 23,.n 3 #[.bool g,.slice a n c,.slice b k l] 28,.v 4 (.bool false)]) (fun p1=>[(2,pT (p1 0).N 0),(3,pT (p1 1).N 0),(4,.bool false)]) (fun p1=>?_) (fun p1 W1 T hF hK=>?_)
 ·iterate 2 refine okn ?_
  refine okv ?_
  exact ok_nil
 replace hS:=SymF.fc hS hF [1000,1001] [⟨(p1 0).N,#[.bool f,.string s,.int .i64 x],23,true⟩,⟨(p1 1).N,#[.bool g,.slice a n c,.slice b k l],28,true⟩]
 replace hG:=hF.gx
 clear hF
 refine wq hS hG hK (fun p2=>[.c (some 16) (cV (.bool true)),.v 5 (.bool true)]) (fun p2=>[(2,pT (p1 0).N 0),(3,pT (p1 1).N 0),(4,.bool false),(5,.bool true)]) (fun p2=>?_) (fun p2 W2 T hF hK=>?_)
 ·refine okc (fun W cx=>as_v (unhide HA _)) ?_
  refine okv ?_
  exact ok_nil
 obtain ⟨hS,hG⟩:=SymF.fg hS hF
 clear hF
 refine wp_seq ?_
 refine wq hS hG hK (fun p3=>[.l 17 (.agg #[.bool f,.string s,.int .i64 x]) 0 0,.c (some 18) (cV (.bool false))]) (fun p3=>[(2,pT (p1 0).N 0),(3,pT (p1 1).N 0),(4,.bool false),(5,.bool true),(18,.bool false)]) (fun p3=>?_) (fun p3 W3 T hF hK=>?_)
 ·refine okl ?_
  refine okc (fun W cx=>as_v (unhide K1 _)) ?_
  exact ok_nil
 obtain ⟨hS,hG⟩:=SymF.fg hS hF
 clear hF
 refine wp_cond_false (hK.ew 18) (wp_skip ?_)
 refine then_n (wp_seq ?_)
 refine wq hS hG hK (fun p4=>[.v 66 (pT (p1 1).N 2),.v 67 (pT (p1 1).N 2),.l 68 (.slice b k l) 1 2,.v 69 (.int .i64 (k:Int)),.v 70 (.bool false)]) (fun p4=>[(2,pT (p1 0).N 0),(3,pT (p1 1).N 0),(4,.bool false),(5,.bool true),(70,.bool false)]) (fun p4=>?_) (fun p4 W4 T hF hK=>?_)
 ·iterate 2 refine okv ?_
  refine okl ?_
  refine okv ?_
  refine okvb (decide_eq_false (show ¬ (k:Int) > 20 by omega)) ?_
  exact ok_nil
 obtain ⟨hS,hG⟩:=SymF.fg hS hF
 clear hF
 refine wp_cond_false (hK.ew 70) (wp_skip (then_n ?_))
 refine wq hS hG hK (fun p5=>[.l 73 (.agg #[.bool g,.slice a n c,.slice b k l]) 1 0,.c (some 74) (cV (.tuple #[.agg #[.bool false,.string ⟨#[]⟩,.int .i64 0],.bool false,.int .i64 e1])),.v 72 (.tuple #[.agg #[.bool false,.string ⟨#[]⟩,.int .i64 0],.bool false,.int .i64 e1]),.v 75 (.agg #[.bool false,.string ⟨#[]⟩,.int .i64 0]),.v 76 (.bool false),.v 77 (.int .i64 e1),.n 11 #[.bool false,.string ⟨#[]⟩,.int .i64 0] 23,.p 1006 0 [.bool false,.string ⟨#[]⟩,.int .i64 0],.v 12 (.bool false),.v 13 (.int .i64 e1)]) (fun p5=>[(2,pT (p1 0).N 0),(3,pT (p1 1).N 0),(4,.bool false),(5,.bool true),(11,pT (p5 6).N 0),(12,.bool false),(13,.int .i64 e1)]) (fun p5=>?_) (fun p5 W5 T hF hK=>?_)
 ·refine okl ?_
  refine okc (fun W cx=>as_v (unhide O2 _ cx.fr)) ?_
  iterate 4 refine okv ?_
  refine okn ?_
  refine okp ?_
  iterate 2 refine okv ?_
  exact ok_nil
 replace hS:=SymF.fc hS hF [0,1,1006] [⟨(p1 0).N,#[.bool f,.string s,.int .i64 x],23,true⟩,⟨(p1 1).N,#[.bool g,.slice a n c,.slice b k l],28,true⟩,⟨(p5 6).N,#[.bool false,.string ⟨#[]⟩,.int .i64 0],23,true⟩]
 replace hG:=hF.gx
 clear hF
 refine wp_seq ?_
 refine wq hS hG hK (fun p6=>[.v 78 (.int .i64 e1),.v 79 (.bool true),.v 80 (.bool true),.k (some 81),.k (some 82),.v 83 (.bool true)]) (fun p6=>[(2,pT (p1 0).N 0),(3,pT (p1 1).N 0),(4,.bool false),(5,.bool true),(11,pT (p5 6).N 0),(12,.bool false),(83,.bool true)]) (fun p6=>?_) (fun p6 W6 T hF hK=>?_)
 ·refine okv ?_
  refine okvb (bne_iff_ne.2 he) ?_
  refine okv ?_
  iterate 2 refine okk ?_
  refine okv ?_
  exact ok_nil
 obtain ⟨hS,hG⟩:=SymF.fg hS hF
 clear hF
 refine wp_cond_true (hK.ew 83) ?_
 refine wq hS hG hK (fun p7=>[.v 84 (.bool true),.v 85 (.bool true),.l 86 (.agg #[.bool false,.string ⟨#[]⟩,.int .i64 0]) 2 0,.v 87 (.agg #[.bool false,.string ⟨#[]⟩,.int .i64 0]),.v 88 (.bool true),.v 89 (.bool true),.v 90 (.bool true),.v 91 (.bool false),.v 92 (.bool true),.v 93 (.bool true),.v 4 (.bool true)]) (fun p7=>[(2,pT (p1 0).N 0),(3,pT (p1 1).N 0),(4,.bool true),(5,.bool true),(11,pT (p5 6).N 0)]) (fun p7=>?_) (fun p7 W7 T hF hK=>?_)
 ·iterate 2 refine okv ?_
  refine okl ?_
  refine okv ?_
  refine ok_vr (dz_eq) (by kernel_rfl) ?_
  iterate 6 refine okv ?_
  exact ok_nil
 obtain ⟨hS,hG⟩:=SymF.fg hS hF
 clear hF
 refine wp_ret ?_
 refine then_r ?_
 exact sym_end hS hK (.bool true) [] [] (by kernel_rfl) (by kernel_rfl) ⟨rfl,hS.fr⟩
theorem dbk_ni (w:World) (f:Bool) (s:ByteArray) (x:Int) (g:Bool) (a b:Option Addr) (n c k l:Nat) (HA:Hid (∀ W:World,Calls Tryz.prog 5 #[] W fun e W'=>e = .returned (.bool true)∧Below W.heap.size W W')) (K1:Hid (∀ W:World,Calls Tryz.prog 6 #[.agg #[.bool f,.string s,.int .i64 x],.int .i64 800,.int .i64 1500] W fun e W'=>e = .returned (.bool false)∧Below W.heap.size W W')) (hk:k≤20) (O2:Hid (∀ W:World,Below w.heap.size w W→Calls Tryz.prog 8 #[.agg #[.bool g,.slice a n c,.slice b k l]] W fun e W'=>e = .returned (.tuple #[.agg #[.bool false,.string ⟨#[]⟩,.int .i64 0],.bool false,.int .i64 0])∧Below W.heap.size W W'))  :
  Calls Tryz.prog 3 #[.agg #[.bool f,.string s,.int .i64 x],.agg #[.bool g,.slice a n c,.slice b k l]] w fun en w'=>en = .returned (.bool true)∧Below w.heap.size w w':=by
 refine calls_sym Tryz.func3 rfl (by kernel_rfl) fun T hK=>?_
 replace hK:Kn T _ [(0,.agg #[.bool f,.string s,.int .i64 x]),(1,.agg #[.bool g,.slice a n c,.slice b k l])]:=hK
 have hS:=Fb.begin w
 have hG:GsAt [] w:=trivial
 refine wq hS hG hK (fun p1=>[.n 2 #[.bool f,.string s,.int .i64 x] 23,.n 3 #[.bool g,.slice a n c,.slice b k l] 28,.v 4 (.bool false)]) (fun p1=>[(2,pT (p1 0).N 0),(3,pT (p1 1).N 0),(4,.bool false)]) (fun p1=>?_) (fun p1 W1 T hF hK=>?_)
 ·iterate 2 refine okn ?_
  refine okv ?_
  exact ok_nil
 replace hS:=SymF.fc hS hF [1000,1001] [⟨(p1 0).N,#[.bool f,.string s,.int .i64 x],23,true⟩,⟨(p1 1).N,#[.bool g,.slice a n c,.slice b k l],28,true⟩]
 replace hG:=hF.gx
 clear hF
 refine wq hS hG hK (fun p2=>[.c (some 16) (cV (.bool true)),.v 5 (.bool true)]) (fun p2=>[(2,pT (p1 0).N 0),(3,pT (p1 1).N 0),(4,.bool false),(5,.bool true)]) (fun p2=>?_) (fun p2 W2 T hF hK=>?_)
 ·refine okc (fun W cx=>as_v (unhide HA _)) ?_
  refine okv ?_
  exact ok_nil
 obtain ⟨hS,hG⟩:=SymF.fg hS hF
 clear hF
 refine wp_seq ?_
 refine wq hS hG hK (fun p3=>[.l 17 (.agg #[.bool f,.string s,.int .i64 x]) 0 0,.c (some 18) (cV (.bool false))]) (fun p3=>[(2,pT (p1 0).N 0),(3,pT (p1 1).N 0),(4,.bool false),(5,.bool true),(18,.bool false)]) (fun p3=>?_) (fun p3 W3 T hF hK=>?_)
 ·refine okl ?_
  refine okc (fun W cx=>as_v (unhide K1 _)) ?_
  exact ok_nil
 obtain ⟨hS,hG⟩:=SymF.fg hS hF
 clear hF
 refine wp_cond_false (hK.ew 18) (wp_skip ?_)
 refine then_n (wp_seq ?_)
 refine wq hS hG hK (fun p4=>[.v 66 (pT (p1 1).N 2),.v 67 (pT (p1 1).N 2),.l 68 (.slice b k l) 1 2,.v 69 (.int .i64 (k:Int)),.v 70 (.bool false)]) (fun p4=>[(2,pT (p1 0).N 0),(3,pT (p1 1).N 0),(4,.bool false),(5,.bool true),(70,.bool false)]) (fun p4=>?_) (fun p4 W4 T hF hK=>?_)
 ·iterate 2 refine okv ?_
  refine okl ?_
  refine okv ?_
  refine okvb (decide_eq_false (show ¬ (k:Int) > 20 by omega)) ?_
  exact ok_nil
 obtain ⟨hS,hG⟩:=SymF.fg hS hF
 clear hF
 refine wp_cond_false (hK.ew 70) (wp_skip (then_n ?_))
 refine wq hS hG hK (fun p5=>[.l 73 (.agg #[.bool g,.slice a n c,.slice b k l]) 1 0,.c (some 74) (cV (.tuple #[.agg #[.bool false,.string ⟨#[]⟩,.int .i64 0],.bool false,.int .i64 0])),.v 72 (.tuple #[.agg #[.bool false,.string ⟨#[]⟩,.int .i64 0],.bool false,.int .i64 0]),.v 75 (.agg #[.bool false,.string ⟨#[]⟩,.int .i64 0]),.v 76 (.bool false),.v 77 (.int .i64 0),.n 11 #[.bool false,.string ⟨#[]⟩,.int .i64 0] 23,.p 1006 0 [.bool false,.string ⟨#[]⟩,.int .i64 0],.v 12 (.bool false),.v 13 (.int .i64 0)]) (fun p5=>[(2,pT (p1 0).N 0),(3,pT (p1 1).N 0),(4,.bool false),(5,.bool true),(11,pT (p5 6).N 0),(12,.bool false),(13,.int .i64 0)]) (fun p5=>?_) (fun p5 W5 T hF hK=>?_)
 ·refine okl ?_
  refine okc (fun W cx=>as_v (unhide O2 _ cx.fr)) ?_
  iterate 4 refine okv ?_
  refine okn ?_
  refine okp ?_
  iterate 2 refine okv ?_
  exact ok_nil
 replace hS:=SymF.fc hS hF [0,1,1006] [⟨(p1 0).N,#[.bool f,.string s,.int .i64 x],23,true⟩,⟨(p1 1).N,#[.bool g,.slice a n c,.slice b k l],28,true⟩,⟨(p5 6).N,#[.bool false,.string ⟨#[]⟩,.int .i64 0],23,true⟩]
 replace hG:=hF.gx
 clear hF
 refine wp_seq ?_
 refine wq hS hG hK (fun p6=>[.v 78 (.int .i64 0),.v 79 (.bool false),.v 80 (.bool false),.v 81 (.bool false),.v 82 (.bool true),.v 83 (.bool true)]) (fun p6=>[(2,pT (p1 0).N 0),(3,pT (p1 1).N 0),(4,.bool false),(5,.bool true),(11,pT (p5 6).N 0),(12,.bool false),(83,.bool true)]) (fun p6=>?_) (fun p6 W6 T hF hK=>?_)
 ·iterate 6 refine okv ?_
  exact ok_nil
 obtain ⟨hS,hG⟩:=SymF.fg hS hF
 clear hF
 refine wp_cond_true (hK.ew 83) ?_
 refine wq hS hG hK (fun p7=>[.v 84 (.bool true),.v 85 (.bool true),.l 86 (.agg #[.bool false,.string ⟨#[]⟩,.int .i64 0]) 2 0,.v 87 (.agg #[.bool false,.string ⟨#[]⟩,.int .i64 0]),.v 88 (.bool true),.v 89 (.bool true),.v 90 (.bool true),.v 91 (.bool false),.v 92 (.bool true),.v 93 (.bool true),.v 4 (.bool true)]) (fun p7=>[(2,pT (p1 0).N 0),(3,pT (p1 1).N 0),(4,.bool true),(5,.bool true),(11,pT (p5 6).N 0)]) (fun p7=>?_) (fun p7 W7 T hF hK=>?_)
 ·iterate 2 refine okv ?_
  refine okl ?_
  refine okv ?_
  refine ok_vr (dz_eq) (by kernel_rfl) ?_
  iterate 6 refine okv ?_
  exact ok_nil
 obtain ⟨hS,hG⟩:=SymF.fg hS hF
 clear hF
 refine wp_ret ?_
 refine then_r ?_
 exact sym_end hS hK (.bool true) [] [] (by kernel_rfl) (by kernel_rfl) ⟨rfl,hS.fr⟩
theorem dbk_nc (w:World) (f:Bool) (s:ByteArray) (x:Int) (g:Bool) (a b:Option Addr) (n c k l:Nat) (p d:Nat) (g3:Bool) (s3:ByteArray) (x3:Int) (HA:Hid (∀ W:World,Calls Tryz.prog 5 #[] W fun e W'=>e = .returned (.bool true)∧Below W.heap.size W W')) (K1:Hid (∀ W:World,Calls Tryz.prog 6 #[.agg #[.bool f,.string s,.int .i64 x],.int .i64 800,.int .i64 1500] W fun e W'=>e = .returned (.bool false)∧Below W.heap.size W W')) (hk:k≤20) (h1:Num w a n p) (h2:Num w b k d) (O2:Hid (∀ W:World,Below w.heap.size w W→Calls Tryz.prog 8 #[.agg #[.bool g,.slice a n c,.slice b k l]] W fun e W'=>e = .returned (.tuple #[.agg #[.bool g3,.string s3,.int .i64 x3],.bool true,.int .i64 0])∧Below W.heap.size W W')) (R2:Hid (∀ W:World,Calls Tryz.prog 7 #[.agg #[.bool g3,.string s3,.int .i64 x3]] W fun en W'=>(∃ A N C A' N' C',en = .returned (.tuple #[.agg #[.bool g,.slice A N C,.slice A' N' C'],.int .i64 0])∧Mine W' W.heap.size A N C p∧Mine W' W.heap.size A' N' C' d)∧Below W.heap.size W W')) (S2:Hid (∀ (W:World) (a:Option Addr) (n c:Nat) (b:Option Addr) (k l:Nat) (a':Option Addr) (n' c':Nat) (b':Option Addr) (k' l':Nat),Num W a n p→Num W b k d→Num W a' n' p→Num W b' k' d→Calls Tryz.prog 9 #[.agg #[.bool g,.slice a n c,.slice b k l],.agg #[.bool g,.slice a' n' c',.slice b' k' l']] W fun e W'=>e = .returned (.bool true)∧Below W.heap.size W W'))  :
  Calls Tryz.prog 3 #[.agg #[.bool f,.string s,.int .i64 x],.agg #[.bool g,.slice a n c,.slice b k l]] w fun en w'=>en = .returned (.bool true)∧Below w.heap.size w w':=by
 refine calls_sym Tryz.func3 rfl (by kernel_rfl) fun T hK=>?_
 replace hK:Kn T _ [(0,.agg #[.bool f,.string s,.int .i64 x]),(1,.agg #[.bool g,.slice a n c,.slice b k l])]:=hK
 have hS:=Fb.begin w
 have hG:GsAt [gN a n p,gN b k d] w:=⟨h1,h2,trivial⟩
 refine wq hS hG hK (fun p1=>[.n 2 #[.bool f,.string s,.int .i64 x] 23,.n 3 #[.bool g,.slice a n c,.slice b k l] 28,.v 4 (.bool false)]) (fun p1=>[(2,pT (p1 0).N 0),(3,pT (p1 1).N 0),(4,.bool false)]) (fun p1=>?_) (fun p1 W1 T hF hK=>?_)
 ·iterate 2 refine okn ?_
  refine okv ?_
  exact ok_nil
 replace hS:=SymF.fc hS hF [1000,1001] [⟨(p1 0).N,#[.bool f,.string s,.int .i64 x],23,true⟩,⟨(p1 1).N,#[.bool g,.slice a n c,.slice b k l],28,true⟩]
 replace hG:=hF.gx
 clear hF
 refine wq hS hG hK (fun p2=>[.c (some 16) (cV (.bool true)),.v 5 (.bool true)]) (fun p2=>[(2,pT (p1 0).N 0),(3,pT (p1 1).N 0),(4,.bool false),(5,.bool true)]) (fun p2=>?_) (fun p2 W2 T hF hK=>?_)
 ·refine okc (fun W cx=>as_v (unhide HA _)) ?_
  refine okv ?_
  exact ok_nil
 obtain ⟨hS,hG⟩:=SymF.fg hS hF
 clear hF
 refine wp_seq ?_
 refine wq hS hG hK (fun p3=>[.l 17 (.agg #[.bool f,.string s,.int .i64 x]) 0 0,.c (some 18) (cV (.bool false))]) (fun p3=>[(2,pT (p1 0).N 0),(3,pT (p1 1).N 0),(4,.bool false),(5,.bool true),(18,.bool false)]) (fun p3=>?_) (fun p3 W3 T hF hK=>?_)
 ·refine okl ?_
  refine okc (fun W cx=>as_v (unhide K1 _)) ?_
  exact ok_nil
 obtain ⟨hS,hG⟩:=SymF.fg hS hF
 clear hF
 refine wp_cond_false (hK.ew 18) (wp_skip ?_)
 refine then_n (wp_seq ?_)
 refine wq hS hG hK (fun p4=>[.v 66 (pT (p1 1).N 2),.v 67 (pT (p1 1).N 2),.l 68 (.slice b k l) 1 2,.v 69 (.int .i64 (k:Int)),.v 70 (.bool false)]) (fun p4=>[(2,pT (p1 0).N 0),(3,pT (p1 1).N 0),(4,.bool false),(5,.bool true),(70,.bool false)]) (fun p4=>?_) (fun p4 W4 T hF hK=>?_)
 ·iterate 2 refine okv ?_
  refine okl ?_
  refine okv ?_
  refine okvb (decide_eq_false (show ¬ (k:Int) > 20 by omega)) ?_
  exact ok_nil
 obtain ⟨hS,hG⟩:=SymF.fg hS hF
 clear hF
 refine wp_cond_false (hK.ew 70) (wp_skip (then_n ?_))
 refine wq hS hG hK (fun p5=>[.l 73 (.agg #[.bool g,.slice a n c,.slice b k l]) 1 0,.c (some 74) (cV (.tuple #[.agg #[.bool g3,.string s3,.int .i64 x3],.bool true,.int .i64 0])),.v 72 (.tuple #[.agg #[.bool g3,.string s3,.int .i64 x3],.bool true,.int .i64 0]),.v 75 (.agg #[.bool g3,.string s3,.int .i64 x3]),.v 76 (.bool true),.v 77 (.int .i64 0),.n 11 #[.bool false,.string ⟨#[]⟩,.int .i64 0] 23,.p 1006 0 [.bool g3,.string s3,.int .i64 x3],.v 12 (.bool true),.v 13 (.int .i64 0)]) (fun p5=>[(2,pT (p1 0).N 0),(3,pT (p1 1).N 0),(4,.bool false),(5,.bool true),(11,pT (p5 6).N 0),(12,.bool true),(13,.int .i64 0)]) (fun p5=>?_) (fun p5 W5 T hF hK=>?_)
 ·refine okl ?_
  refine okc (fun W cx=>as_v (unhide O2 _ cx.fr)) ?_
  iterate 4 refine okv ?_
  refine okn ?_
  refine okp ?_
  iterate 2 refine okv ?_
  exact ok_nil
 replace hS:=SymF.fc hS hF [0,1,1006] [⟨(p1 0).N,#[.bool f,.string s,.int .i64 x],23,true⟩,⟨(p1 1).N,#[.bool g,.slice a n c,.slice b k l],28,true⟩,⟨(p5 6).N,#[.bool g3,.string s3,.int .i64 x3],23,true⟩]
 replace hG:=hF.gx
 clear hF
 refine wp_seq ?_
 refine wq hS hG hK (fun p6=>[.v 78 (.int .i64 0),.v 79 (.bool false),.v 80 (.bool false),.v 81 (.bool true),.v 82 (.bool false),.v 83 (.bool false)]) (fun p6=>[(2,pT (p1 0).N 0),(3,pT (p1 1).N 0),(4,.bool false),(5,.bool true),(11,pT (p5 6).N 0),(12,.bool true),(83,.bool false)]) (fun p6=>?_) (fun p6 W6 T hF hK=>?_)
 ·iterate 6 refine okv ?_
  exact ok_nil
 obtain ⟨hS,hG⟩:=SymF.fg hS hF
 clear hF
 refine wp_cond_false (hK.ew 83) (wp_skip (then_n ?_))
 refine wq hS hG hK (fun p7=>[.l 95 (.agg #[.bool g3,.string s3,.int .i64 x3]) 2 0,.c (some 96) (cH W6.heap.size p d fun x9 y9=>.tuple #[.agg #[.bool g,x9,y9],.int .i64 0]),.v 94 (.tuple #[.agg #[.bool g,.slice (p7 1).A (p7 1).N (p7 1).C,.slice (p7 1).A' (p7 1).N' (p7 1).C'],.int .i64 0]),.v 97 (.agg #[.bool g,.slice (p7 1).A (p7 1).N (p7 1).C,.slice (p7 1).A' (p7 1).N' (p7 1).C']),.v 98 (.int .i64 0),.n 14 #[.bool false,.slice none 0 0,.slice none 0 0] 28,.p 1005 0 [.bool g,.slice (p7 1).A (p7 1).N (p7 1).C,.slice (p7 1).A' (p7 1).N' (p7 1).C'],.v 15 (.int .i64 0)]) (fun p7=>[(2,pT (p1 0).N 0),(3,pT (p1 1).N 0),(4,.bool false),(5,.bool true),(11,pT (p5 6).N 0),(12,.bool true),(14,pT (p7 5).N 0),(15,.int .i64 0)]) (fun p7=>?_) (fun p7 W7 T hF hK=>?_)
 ·refine okl ?_
  refine okc (fun W cx=>as_h cx.hb (unhide R2 _)) ?_
  iterate 3 refine okv ?_
  refine okn ?_
  refine okp ?_
  refine okv ?_
  exact ok_nil
 replace hS:=SymF.fc hS hF [0,1,2,1005] [⟨(p1 0).N,#[.bool f,.string s,.int .i64 x],23,true⟩,⟨(p1 1).N,#[.bool g,.slice a n c,.slice b k l],28,true⟩,⟨(p5 6).N,#[.bool g3,.string s3,.int .i64 x3],23,true⟩,⟨(p7 5).N,#[.bool g,.slice (p7 1).A (p7 1).N (p7 1).C,.slice (p7 1).A' (p7 1).N' (p7 1).C'],28,true⟩]
 replace hG:GsAt (gM W6.heap.size (p7 1).A (p7 1).N (p7 1).C p :: gM W6.heap.size (p7 1).A' (p7 1).N' (p7 1).C' d :: _) W7:=⟨And.left (hF.fx 1),And.right (hF.fx 1),hF.gx⟩
 clear hF
 refine wq hS hG hK (fun p8=>[.v 99 (.bool true),.v 100 (.bool true),.v 101 (.int .i64 0),.v 102 (.bool true),.v 103 (.bool true),.v 104 (.bool true),.l 105 (.agg #[.bool g,.slice (p7 1).A (p7 1).N (p7 1).C,.slice (p7 1).A' (p7 1).N' (p7 1).C']) 3 0,.l 106 (.agg #[.bool g,.slice a n c,.slice b k l]) 1 0,.c (some 107) (cV (.bool true)),.v 108 (.bool true),.v 4 (.bool true)]) (fun p8=>[(2,pT (p1 0).N 0),(4,.bool true),(5,.bool true),(11,pT (p5 6).N 0),(12,.bool true)]) (fun p8=>?_) (fun p8 W8 T hF hK=>?_)
 ·iterate 6 refine okv ?_
  iterate 2 refine okl ?_
  refine okc (fun W cx=>as_v (unhide S2 _ _ _ (p7 1).C _ _ (p7 1).C' _ _ c _ _ l (Mine.num cx.G.1) (Mine.num cx.G.2.1) (cx.G.2.2.1) (cx.G.2.2.2.1))) ?_
  iterate 2 refine okv ?_
  exact ok_nil
 obtain ⟨hS,hG⟩:=SymF.fg hS hF
 clear hF
 refine wp_ret ?_
 exact sym_end hS hK (.bool true) [] [] (by kernel_rfl) (by kernel_rfl) ⟨rfl,hS.fr⟩
theorem dbk_fa (w:World) (s:ByteArray) (x:Int) (g:Bool) (a b:Option Addr) (n c k l:Nat) (u:Bool) (ra rb:Nat) (HA:Hid (∀ W:World,Calls Tryz.prog 5 #[] W fun e W'=>e = .returned (.bool true)∧Below W.heap.size W W')) (K1:Hid (∀ W:World,Calls Tryz.prog 6 #[.agg #[.bool false,.string s,.int .i64 x],.int .i64 800,.int .i64 1500] W fun e W'=>e = .returned (.bool true)∧Below W.heap.size W W')) (R1:Hid (∀ W:World,Calls Tryz.prog 7 #[.agg #[.bool false,.string s,.int .i64 x]] W fun en W'=>(∃ A N C A' N' C',en = .returned (.tuple #[.agg #[.bool u,.slice A N C,.slice A' N' C'],.int .i64 0])∧Mine W' W.heap.size A N C ra∧Mine W' W.heap.size A' N' C' rb)∧Below W.heap.size W W')) (O1:Hid (∀ (W:World) (a:Option Addr) (n c:Nat) (b:Option Addr) (k l:Nat),Num W a n ra→Num W b k rb→Calls Tryz.prog 8 #[.agg #[.bool u,.slice a n c,.slice b k l]] W fun e W'=>e = .returned (.tuple #[.agg #[.bool false,.string s,.int .i64 x],.bool true,.int .i64 0])∧Below W.heap.size W W')) (hk:20 < k)  :
  Calls Tryz.prog 3 #[.agg #[.bool false,.string s,.int .i64 x],.agg #[.bool g,.slice a n c,.slice b k l]] w fun en w'=>en = .returned (.bool true)∧Below w.heap.size w w':=by
 refine calls_sym Tryz.func3 rfl (by kernel_rfl) fun T hK=>?_
 replace hK:Kn T _ [(0,.agg #[.bool false,.string s,.int .i64 x]),(1,.agg #[.bool g,.slice a n c,.slice b k l])]:=hK
 have hS:=Fb.begin w
 have hG:GsAt [] w:=trivial
 refine wq hS hG hK (fun p1=>[.n 2 #[.bool false,.string s,.int .i64 x] 23,.n 3 #[.bool g,.slice a n c,.slice b k l] 28,.v 4 (.bool false)]) (fun p1=>[(2,pT (p1 0).N 0),(3,pT (p1 1).N 0),(4,.bool false)]) (fun p1=>?_) (fun p1 W1 T hF hK=>?_)
 ·iterate 2 refine okn ?_
  refine okv ?_
  exact ok_nil
 replace hS:=SymF.fc hS hF [1000,1001] [⟨(p1 0).N,#[.bool false,.string s,.int .i64 x],23,true⟩,⟨(p1 1).N,#[.bool g,.slice a n c,.slice b k l],28,true⟩]
 replace hG:=hF.gx
 clear hF
 refine wq hS hG hK (fun p2=>[.c (some 16) (cV (.bool true)),.v 5 (.bool true)]) (fun p2=>[(2,pT (p1 0).N 0),(3,pT (p1 1).N 0),(4,.bool false),(5,.bool true)]) (fun p2=>?_) (fun p2 W2 T hF hK=>?_)
 ·refine okc (fun W cx=>as_v (unhide HA _)) ?_
  refine okv ?_
  exact ok_nil
 obtain ⟨hS,hG⟩:=SymF.fg hS hF
 clear hF
 refine wp_seq ?_
 refine wq hS hG hK (fun p3=>[.l 17 (.agg #[.bool false,.string s,.int .i64 x]) 0 0,.c (some 18) (cV (.bool true))]) (fun p3=>[(2,pT (p1 0).N 0),(3,pT (p1 1).N 0),(4,.bool false),(5,.bool true),(18,.bool true)]) (fun p3=>?_) (fun p3 W3 T hF hK=>?_)
 ·refine okl ?_
  refine okc (fun W cx=>as_v (unhide K1 _)) ?_
  exact ok_nil
 obtain ⟨hS,hG⟩:=SymF.fg hS hF
 clear hF
 refine wp_cond_true (hK.ew 18) ?_
 refine wq hS hG hK (fun p4=>[.l 20 (.agg #[.bool false,.string s,.int .i64 x]) 0 0,.c (some 21) (cH W3.heap.size ra rb fun x9 y9=>.tuple #[.agg #[.bool u,x9,y9],.int .i64 0]),.v 19 (.tuple #[.agg #[.bool u,.slice (p4 1).A (p4 1).N (p4 1).C,.slice (p4 1).A' (p4 1).N' (p4 1).C'],.int .i64 0]),.v 22 (.agg #[.bool u,.slice (p4 1).A (p4 1).N (p4 1).C,.slice (p4 1).A' (p4 1).N' (p4 1).C']),.v 23 (.int .i64 0),.n 6 #[.bool false,.slice none 0 0,.slice none 0 0] 28,.p 1005 0 [.bool u,.slice (p4 1).A (p4 1).N (p4 1).C,.slice (p4 1).A' (p4 1).N' (p4 1).C'],.v 7 (.int .i64 0)]) (fun p4=>[(2,pT (p1 0).N 0),(3,pT (p1 1).N 0),(4,.bool false),(5,.bool true),(6,pT (p4 5).N 0),(7,.int .i64 0)]) (fun p4=>?_) (fun p4 W4 T hF hK=>?_)
 ·refine okl ?_
  refine okc (fun W cx=>as_h cx.hb (unhide R1 _)) ?_
  iterate 3 refine okv ?_
  refine okn ?_
  refine okp ?_
  refine okv ?_
  exact ok_nil
 replace hS:=SymF.fc hS hF [0,1,1005] [⟨(p1 0).N,#[.bool false,.string s,.int .i64 x],23,true⟩,⟨(p1 1).N,#[.bool g,.slice a n c,.slice b k l],28,true⟩,⟨(p4 5).N,#[.bool u,.slice (p4 1).A (p4 1).N (p4 1).C,.slice (p4 1).A' (p4 1).N' (p4 1).C'],28,true⟩]
 replace hG:GsAt (gM W3.heap.size (p4 1).A (p4 1).N (p4 1).C ra :: gM W3.heap.size (p4 1).A' (p4 1).N' (p4 1).C' rb :: _) W4:=⟨And.left (hF.fx 1),And.right (hF.fx 1),hF.gx⟩
 clear hF
 refine wq hS hG hK (fun p5=>[.l 25 (.agg #[.bool u,.slice (p4 1).A (p4 1).N (p4 1).C,.slice (p4 1).A' (p4 1).N' (p4 1).C']) 2 0,.c (some 26) (cV (.tuple #[.agg #[.bool false,.string s,.int .i64 x],.bool true,.int .i64 0])),.v 24 (.tuple #[.agg #[.bool false,.string s,.int .i64 x],.bool true,.int .i64 0]),.v 27 (.agg #[.bool false,.string s,.int .i64 x]),.v 28 (.bool true),.v 29 (.int .i64 0),.n 8 #[.bool false,.string ⟨#[]⟩,.int .i64 0] 23,.p 1006 0 [.bool false,.string s,.int .i64 x],.v 9 (.bool true),.v 10 (.int .i64 0)]) (fun p5=>[(2,pT (p1 0).N 0),(3,pT (p1 1).N 0),(4,.bool false),(5,.bool true),(7,.int .i64 0),(8,pT (p5 6).N 0),(9,.bool true),(10,.int .i64 0)]) (fun p5=>?_) (fun p5 W5 T hF hK=>?_)
 ·refine okl ?_
  refine okc (fun W cx=>as_v (unhide O1 _ _ _ (p4 1).C _ _ (p4 1).C' (Mine.num cx.G.1) (Mine.num cx.G.2.1))) ?_
  iterate 4 refine okv ?_
  refine okn ?_
  refine okp ?_
  iterate 2 refine okv ?_
  exact ok_nil
 replace hS:=SymF.fc hS hF [0,1,1006] [⟨(p1 0).N,#[.bool false,.string s,.int .i64 x],23,true⟩,⟨(p1 1).N,#[.bool g,.slice a n c,.slice b k l],28,true⟩,⟨(p5 6).N,#[.bool false,.string s,.int .i64 x],23,true⟩]
 replace hG:=hF.gx
 clear hF
 refine wq hS hG hK (fun p6=>[.v 30 (.int .i64 0),.v 31 (.bool false),.v 32 (.bool false),.v 33 (.int .i64 0),.v 34 (.bool false),.v 35 (.bool false),.v 36 (.bool false),.v 37 (.bool true),.v 38 (.bool false),.v 39 (.bool false),.v 40 (.bool false),.v 41 (pT (p5 6).N 1),.l 42 (.string s) 2 1,.v 43 (pT (p1 0).N 1),.l 44 (.string s) 0 1,.v 45 (.bool false),.v 46 (.bool false),.v 47 (.bool false),.v 48 (pT (p5 6).N 2),.l 49 (.int .i64 x) 2 2,.v 50 (pT (p1 0).N 2),.l 51 (.int .i64 x) 0 2,.v 52 (.bool false),.v 53 (.bool false),.v 54 (.bool false),.v 55 (pT (p5 6).N 0),.l 56 (.bool false) 2 0,.v 57 (pT (p1 0).N 0),.l 58 (.bool false) 0 0,.v 59 (.bool false),.k (some 60),.k (some 61),.k (some 62),.v 63 (.bool false),.v 64 (.bool false),.v 65 (.bool false)]) (fun p6=>[(3,pT (p1 1).N 0),(4,.bool false),(5,.bool true),(65,.bool false)]) (fun p6=>?_) (fun p6 W6 T hF hK=>?_)
 ·iterate 12 refine okv ?_
  refine okl ?_
  refine okv ?_
  refine okl ?_
  refine okvb (bne_self_eq_false s.toList) ?_
  iterate 3 refine okv ?_
  refine okl ?_
  refine okv ?_
  refine okl ?_
  refine okvb (bne_self_eq_false x) ?_
  iterate 3 refine okv ?_
  refine okl ?_
  refine okv ?_
  refine okl ?_
  refine okv ?_
  iterate 3 refine okk ?_
  iterate 3 refine okv ?_
  exact ok_nil
 obtain ⟨hS,hG⟩:=SymF.fg hS hF
 clear hF
 refine wp_cond_false (hK.ew 65) (wp_skip ?_)
 refine then_n (wp_seq ?_)
 refine wq hS hG hK (fun p7=>[.v 66 (pT (p1 1).N 2),.v 67 (pT (p1 1).N 2),.l 68 (.slice b k l) 1 2,.v 69 (.int .i64 (k:Int)),.v 70 (.bool true)]) (fun p7=>[(3,pT (p1 1).N 0),(4,.bool false),(5,.bool true),(70,.bool true)]) (fun p7=>?_) (fun p7 W7 T hF hK=>?_)
 ·iterate 2 refine okv ?_
  refine okl ?_
  refine okv ?_
  refine okvb (decide_eq_true (show (k:Int) > 20 by omega)) ?_
  exact ok_nil
 obtain ⟨hS,hG⟩:=SymF.fg hS hF
 clear hF
 refine wp_cond_true (hK.ew 70) ?_
 refine wq hS hG hK (fun p8=>[.v 71 (.bool true),.v 4 (.bool true)]) (fun p8=>[(3,pT (p1 1).N 0),(4,.bool true),(5,.bool true)]) (fun p8=>?_) (fun p8 W8 T hF hK=>?_)
 ·iterate 2 refine okv ?_
  exact ok_nil
 obtain ⟨hS,hG⟩:=SymF.fg hS hF
 clear hF
 refine wp_ret ?_
 refine then_r ?_
 exact sym_end hS hK (.bool true) [] [] (by kernel_rfl) (by kernel_rfl) ⟨rfl,hS.fr⟩
theorem dbk_fe (w:World) (s:ByteArray) (x:Int) (g:Bool) (a b:Option Addr) (n c k l:Nat) (u:Bool) (ra rb:Nat) (e1:Int) (HA:Hid (∀ W:World,Calls Tryz.prog 5 #[] W fun e W'=>e = .returned (.bool true)∧Below W.heap.size W W')) (K1:Hid (∀ W:World,Calls Tryz.prog 6 #[.agg #[.bool false,.string s,.int .i64 x],.int .i64 800,.int .i64 1500] W fun e W'=>e = .returned (.bool true)∧Below W.heap.size W W')) (R1:Hid (∀ W:World,Calls Tryz.prog 7 #[.agg #[.bool false,.string s,.int .i64 x]] W fun en W'=>(∃ A N C A' N' C',en = .returned (.tuple #[.agg #[.bool u,.slice A N C,.slice A' N' C'],.int .i64 0])∧Mine W' W.heap.size A N C ra∧Mine W' W.heap.size A' N' C' rb)∧Below W.heap.size W W')) (O1:Hid (∀ (W:World) (a:Option Addr) (n c:Nat) (b:Option Addr) (k l:Nat),Num W a n ra→Num W b k rb→Calls Tryz.prog 8 #[.agg #[.bool u,.slice a n c,.slice b k l]] W fun e W'=>e = .returned (.tuple #[.agg #[.bool false,.string s,.int .i64 x],.bool true,.int .i64 0])∧Below W.heap.size W W')) (hk:k≤20) (he:e1≠0) (O2:Hid (∀ W:World,Below w.heap.size w W→Calls Tryz.prog 8 #[.agg #[.bool g,.slice a n c,.slice b k l]] W fun e W'=>e = .returned (.tuple #[.agg #[.bool false,.string ⟨#[]⟩,.int .i64 0],.bool false,.int .i64 e1])∧Below W.heap.size W W'))  :
  Calls Tryz.prog 3 #[.agg #[.bool false,.string s,.int .i64 x],.agg #[.bool g,.slice a n c,.slice b k l]] w fun en w'=>en = .returned (.bool true)∧Below w.heap.size w w':=by
 refine calls_sym Tryz.func3 rfl (by kernel_rfl) fun T hK=>?_
 replace hK:Kn T _ [(0,.agg #[.bool false,.string s,.int .i64 x]),(1,.agg #[.bool g,.slice a n c,.slice b k l])]:=hK
 have hS:=Fb.begin w
 have hG:GsAt [] w:=trivial
 refine wq hS hG hK (fun p1=>[.n 2 #[.bool false,.string s,.int .i64 x] 23,.n 3 #[.bool g,.slice a n c,.slice b k l] 28,.v 4 (.bool false)]) (fun p1=>[(2,pT (p1 0).N 0),(3,pT (p1 1).N 0),(4,.bool false)]) (fun p1=>?_) (fun p1 W1 T hF hK=>?_)
 ·iterate 2 refine okn ?_
  refine okv ?_
  exact ok_nil
 replace hS:=SymF.fc hS hF [1000,1001] [⟨(p1 0).N,#[.bool false,.string s,.int .i64 x],23,true⟩,⟨(p1 1).N,#[.bool g,.slice a n c,.slice b k l],28,true⟩]
 replace hG:=hF.gx
 clear hF
 refine wq hS hG hK (fun p2=>[.c (some 16) (cV (.bool true)),.v 5 (.bool true)]) (fun p2=>[(2,pT (p1 0).N 0),(3,pT (p1 1).N 0),(4,.bool false),(5,.bool true)]) (fun p2=>?_) (fun p2 W2 T hF hK=>?_)
 ·refine okc (fun W cx=>as_v (unhide HA _)) ?_
  refine okv ?_
  exact ok_nil
 obtain ⟨hS,hG⟩:=SymF.fg hS hF
 clear hF
 refine wp_seq ?_
 refine wq hS hG hK (fun p3=>[.l 17 (.agg #[.bool false,.string s,.int .i64 x]) 0 0,.c (some 18) (cV (.bool true))]) (fun p3=>[(2,pT (p1 0).N 0),(3,pT (p1 1).N 0),(4,.bool false),(5,.bool true),(18,.bool true)]) (fun p3=>?_) (fun p3 W3 T hF hK=>?_)
 ·refine okl ?_
  refine okc (fun W cx=>as_v (unhide K1 _)) ?_
  exact ok_nil
 obtain ⟨hS,hG⟩:=SymF.fg hS hF
 clear hF
 refine wp_cond_true (hK.ew 18) ?_
 refine wq hS hG hK (fun p4=>[.l 20 (.agg #[.bool false,.string s,.int .i64 x]) 0 0,.c (some 21) (cH W3.heap.size ra rb fun x9 y9=>.tuple #[.agg #[.bool u,x9,y9],.int .i64 0]),.v 19 (.tuple #[.agg #[.bool u,.slice (p4 1).A (p4 1).N (p4 1).C,.slice (p4 1).A' (p4 1).N' (p4 1).C'],.int .i64 0]),.v 22 (.agg #[.bool u,.slice (p4 1).A (p4 1).N (p4 1).C,.slice (p4 1).A' (p4 1).N' (p4 1).C']),.v 23 (.int .i64 0),.n 6 #[.bool false,.slice none 0 0,.slice none 0 0] 28,.p 1005 0 [.bool u,.slice (p4 1).A (p4 1).N (p4 1).C,.slice (p4 1).A' (p4 1).N' (p4 1).C'],.v 7 (.int .i64 0)]) (fun p4=>[(2,pT (p1 0).N 0),(3,pT (p1 1).N 0),(4,.bool false),(5,.bool true),(6,pT (p4 5).N 0),(7,.int .i64 0)]) (fun p4=>?_) (fun p4 W4 T hF hK=>?_)
 ·refine okl ?_
  refine okc (fun W cx=>as_h cx.hb (unhide R1 _)) ?_
  iterate 3 refine okv ?_
  refine okn ?_
  refine okp ?_
  refine okv ?_
  exact ok_nil
 replace hS:=SymF.fc hS hF [0,1,1005] [⟨(p1 0).N,#[.bool false,.string s,.int .i64 x],23,true⟩,⟨(p1 1).N,#[.bool g,.slice a n c,.slice b k l],28,true⟩,⟨(p4 5).N,#[.bool u,.slice (p4 1).A (p4 1).N (p4 1).C,.slice (p4 1).A' (p4 1).N' (p4 1).C'],28,true⟩]
 replace hG:GsAt (gM W3.heap.size (p4 1).A (p4 1).N (p4 1).C ra :: gM W3.heap.size (p4 1).A' (p4 1).N' (p4 1).C' rb :: _) W4:=⟨And.left (hF.fx 1),And.right (hF.fx 1),hF.gx⟩
 clear hF
 refine wq hS hG hK (fun p5=>[.l 25 (.agg #[.bool u,.slice (p4 1).A (p4 1).N (p4 1).C,.slice (p4 1).A' (p4 1).N' (p4 1).C']) 2 0,.c (some 26) (cV (.tuple #[.agg #[.bool false,.string s,.int .i64 x],.bool true,.int .i64 0])),.v 24 (.tuple #[.agg #[.bool false,.string s,.int .i64 x],.bool true,.int .i64 0]),.v 27 (.agg #[.bool false,.string s,.int .i64 x]),.v 28 (.bool true),.v 29 (.int .i64 0),.n 8 #[.bool false,.string ⟨#[]⟩,.int .i64 0] 23,.p 1006 0 [.bool false,.string s,.int .i64 x],.v 9 (.bool true),.v 10 (.int .i64 0)]) (fun p5=>[(2,pT (p1 0).N 0),(3,pT (p1 1).N 0),(4,.bool false),(5,.bool true),(7,.int .i64 0),(8,pT (p5 6).N 0),(9,.bool true),(10,.int .i64 0)]) (fun p5=>?_) (fun p5 W5 T hF hK=>?_)
 ·refine okl ?_
  refine okc (fun W cx=>as_v (unhide O1 _ _ _ (p4 1).C _ _ (p4 1).C' (Mine.num cx.G.1) (Mine.num cx.G.2.1))) ?_
  iterate 4 refine okv ?_
  refine okn ?_
  refine okp ?_
  iterate 2 refine okv ?_
  exact ok_nil
 replace hS:=SymF.fc hS hF [0,1,1006] [⟨(p1 0).N,#[.bool false,.string s,.int .i64 x],23,true⟩,⟨(p1 1).N,#[.bool g,.slice a n c,.slice b k l],28,true⟩,⟨(p5 6).N,#[.bool false,.string s,.int .i64 x],23,true⟩]
 replace hG:=hF.gx
 clear hF
 refine wq hS hG hK (fun p6=>[.v 30 (.int .i64 0),.v 31 (.bool false),.v 32 (.bool false),.v 33 (.int .i64 0),.v 34 (.bool false),.v 35 (.bool false),.v 36 (.bool false),.v 37 (.bool true),.v 38 (.bool false),.v 39 (.bool false),.v 40 (.bool false),.v 41 (pT (p5 6).N 1),.l 42 (.string s) 2 1,.v 43 (pT (p1 0).N 1),.l 44 (.string s) 0 1,.v 45 (.bool false),.v 46 (.bool false),.v 47 (.bool false),.v 48 (pT (p5 6).N 2),.l 49 (.int .i64 x) 2 2,.v 50 (pT (p1 0).N 2),.l 51 (.int .i64 x) 0 2,.v 52 (.bool false),.v 53 (.bool false),.v 54 (.bool false),.v 55 (pT (p5 6).N 0),.l 56 (.bool false) 2 0,.v 57 (pT (p1 0).N 0),.l 58 (.bool false) 0 0,.v 59 (.bool false),.k (some 60),.k (some 61),.k (some 62),.v 63 (.bool false),.v 64 (.bool false),.v 65 (.bool false)]) (fun p6=>[(3,pT (p1 1).N 0),(4,.bool false),(5,.bool true),(65,.bool false)]) (fun p6=>?_) (fun p6 W6 T hF hK=>?_)
 ·iterate 12 refine okv ?_
  refine okl ?_
  refine okv ?_
  refine okl ?_
  refine okvb (bne_self_eq_false s.toList) ?_
  iterate 3 refine okv ?_
  refine okl ?_
  refine okv ?_
  refine okl ?_
  refine okvb (bne_self_eq_false x) ?_
  iterate 3 refine okv ?_
  refine okl ?_
  refine okv ?_
  refine okl ?_
  refine okv ?_
  iterate 3 refine okk ?_
  iterate 3 refine okv ?_
  exact ok_nil
 obtain ⟨hS,hG⟩:=SymF.fg hS hF
 clear hF
 refine wp_cond_false (hK.ew 65) (wp_skip ?_)
 refine then_n (wp_seq ?_)
 refine wq hS hG hK (fun p7=>[.v 66 (pT (p1 1).N 2),.v 67 (pT (p1 1).N 2),.l 68 (.slice b k l) 1 2,.v 69 (.int .i64 (k:Int)),.v 70 (.bool false)]) (fun p7=>[(3,pT (p1 1).N 0),(4,.bool false),(5,.bool true),(70,.bool false)]) (fun p7=>?_) (fun p7 W7 T hF hK=>?_)
 ·iterate 2 refine okv ?_
  refine okl ?_
  refine okv ?_
  refine okvb (decide_eq_false (show ¬ (k:Int) > 20 by omega)) ?_
  exact ok_nil
 obtain ⟨hS,hG⟩:=SymF.fg hS hF
 clear hF
 refine wp_cond_false (hK.ew 70) (wp_skip (then_n ?_))
 refine wq hS hG hK (fun p8=>[.l 73 (.agg #[.bool g,.slice a n c,.slice b k l]) 1 0,.c (some 74) (cV (.tuple #[.agg #[.bool false,.string ⟨#[]⟩,.int .i64 0],.bool false,.int .i64 e1])),.v 72 (.tuple #[.agg #[.bool false,.string ⟨#[]⟩,.int .i64 0],.bool false,.int .i64 e1]),.v 75 (.agg #[.bool false,.string ⟨#[]⟩,.int .i64 0]),.v 76 (.bool false),.v 77 (.int .i64 e1),.n 11 #[.bool false,.string ⟨#[]⟩,.int .i64 0] 23,.p 1006 0 [.bool false,.string ⟨#[]⟩,.int .i64 0],.v 12 (.bool false),.v 13 (.int .i64 e1)]) (fun p8=>[(3,pT (p1 1).N 0),(4,.bool false),(5,.bool true),(11,pT (p8 6).N 0),(12,.bool false),(13,.int .i64 e1)]) (fun p8=>?_) (fun p8 W8 T hF hK=>?_)
 ·refine okl ?_
  refine okc (fun W cx=>as_v (unhide O2 _ cx.fr)) ?_
  iterate 4 refine okv ?_
  refine okn ?_
  refine okp ?_
  iterate 2 refine okv ?_
  exact ok_nil
 replace hS:=SymF.fc hS hF [1,1006] [⟨(p1 1).N,#[.bool g,.slice a n c,.slice b k l],28,true⟩,⟨(p8 6).N,#[.bool false,.string ⟨#[]⟩,.int .i64 0],23,true⟩]
 replace hG:=hF.gx
 clear hF
 refine wp_seq ?_
 refine wq hS hG hK (fun p9=>[.v 78 (.int .i64 e1),.v 79 (.bool true),.v 80 (.bool true),.k (some 81),.k (some 82),.v 83 (.bool true)]) (fun p9=>[(3,pT (p1 1).N 0),(4,.bool false),(5,.bool true),(11,pT (p8 6).N 0),(12,.bool false),(83,.bool true)]) (fun p9=>?_) (fun p9 W9 T hF hK=>?_)
 ·refine okv ?_
  refine okvb (bne_iff_ne.2 he) ?_
  refine okv ?_
  iterate 2 refine okk ?_
  refine okv ?_
  exact ok_nil
 obtain ⟨hS,hG⟩:=SymF.fg hS hF
 clear hF
 refine wp_cond_true (hK.ew 83) ?_
 refine wq hS hG hK (fun p10=>[.v 84 (.bool true),.v 85 (.bool true),.l 86 (.agg #[.bool false,.string ⟨#[]⟩,.int .i64 0]) 1 0,.v 87 (.agg #[.bool false,.string ⟨#[]⟩,.int .i64 0]),.v 88 (.bool true),.v 89 (.bool true),.v 90 (.bool true),.v 91 (.bool false),.v 92 (.bool true),.v 93 (.bool true),.v 4 (.bool true)]) (fun p10=>[(3,pT (p1 1).N 0),(4,.bool true),(5,.bool true),(11,pT (p8 6).N 0)]) (fun p10=>?_) (fun p10 W10 T hF hK=>?_)
 ·iterate 2 refine okv ?_
  refine okl ?_
  refine okv ?_
  refine ok_vr (dz_eq) (by kernel_rfl) ?_
  iterate 6 refine okv ?_
  exact ok_nil
 obtain ⟨hS,hG⟩:=SymF.fg hS hF
 clear hF
 refine wp_ret ?_
 refine then_r ?_
 exact sym_end hS hK (.bool true) [] [] (by kernel_rfl) (by kernel_rfl) ⟨rfl,hS.fr⟩
theorem dbk_fi (w:World) (s:ByteArray) (x:Int) (g:Bool) (a b:Option Addr) (n c k l:Nat) (u:Bool) (ra rb:Nat) (HA:Hid (∀ W:World,Calls Tryz.prog 5 #[] W fun e W'=>e = .returned (.bool true)∧Below W.heap.size W W')) (K1:Hid (∀ W:World,Calls Tryz.prog 6 #[.agg #[.bool false,.string s,.int .i64 x],.int .i64 800,.int .i64 1500] W fun e W'=>e = .returned (.bool true)∧Below W.heap.size W W')) (R1:Hid (∀ W:World,Calls Tryz.prog 7 #[.agg #[.bool false,.string s,.int .i64 x]] W fun en W'=>(∃ A N C A' N' C',en = .returned (.tuple #[.agg #[.bool u,.slice A N C,.slice A' N' C'],.int .i64 0])∧Mine W' W.heap.size A N C ra∧Mine W' W.heap.size A' N' C' rb)∧Below W.heap.size W W')) (O1:Hid (∀ (W:World) (a:Option Addr) (n c:Nat) (b:Option Addr) (k l:Nat),Num W a n ra→Num W b k rb→Calls Tryz.prog 8 #[.agg #[.bool u,.slice a n c,.slice b k l]] W fun e W'=>e = .returned (.tuple #[.agg #[.bool false,.string s,.int .i64 x],.bool true,.int .i64 0])∧Below W.heap.size W W')) (hk:k≤20) (O2:Hid (∀ W:World,Below w.heap.size w W→Calls Tryz.prog 8 #[.agg #[.bool g,.slice a n c,.slice b k l]] W fun e W'=>e = .returned (.tuple #[.agg #[.bool false,.string ⟨#[]⟩,.int .i64 0],.bool false,.int .i64 0])∧Below W.heap.size W W'))  :
  Calls Tryz.prog 3 #[.agg #[.bool false,.string s,.int .i64 x],.agg #[.bool g,.slice a n c,.slice b k l]] w fun en w'=>en = .returned (.bool true)∧Below w.heap.size w w':=by
 refine calls_sym Tryz.func3 rfl (by kernel_rfl) fun T hK=>?_
 replace hK:Kn T _ [(0,.agg #[.bool false,.string s,.int .i64 x]),(1,.agg #[.bool g,.slice a n c,.slice b k l])]:=hK
 have hS:=Fb.begin w
 have hG:GsAt [] w:=trivial
 refine wq hS hG hK (fun p1=>[.n 2 #[.bool false,.string s,.int .i64 x] 23,.n 3 #[.bool g,.slice a n c,.slice b k l] 28,.v 4 (.bool false)]) (fun p1=>[(2,pT (p1 0).N 0),(3,pT (p1 1).N 0),(4,.bool false)]) (fun p1=>?_) (fun p1 W1 T hF hK=>?_)
 ·iterate 2 refine okn ?_
  refine okv ?_
  exact ok_nil
 replace hS:=SymF.fc hS hF [1000,1001] [⟨(p1 0).N,#[.bool false,.string s,.int .i64 x],23,true⟩,⟨(p1 1).N,#[.bool g,.slice a n c,.slice b k l],28,true⟩]
 replace hG:=hF.gx
 clear hF
 refine wq hS hG hK (fun p2=>[.c (some 16) (cV (.bool true)),.v 5 (.bool true)]) (fun p2=>[(2,pT (p1 0).N 0),(3,pT (p1 1).N 0),(4,.bool false),(5,.bool true)]) (fun p2=>?_) (fun p2 W2 T hF hK=>?_)
 ·refine okc (fun W cx=>as_v (unhide HA _)) ?_
  refine okv ?_
  exact ok_nil
 obtain ⟨hS,hG⟩:=SymF.fg hS hF
 clear hF
 refine wp_seq ?_
 refine wq hS hG hK (fun p3=>[.l 17 (.agg #[.bool false,.string s,.int .i64 x]) 0 0,.c (some 18) (cV (.bool true))]) (fun p3=>[(2,pT (p1 0).N 0),(3,pT (p1 1).N 0),(4,.bool false),(5,.bool true),(18,.bool true)]) (fun p3=>?_) (fun p3 W3 T hF hK=>?_)
 ·refine okl ?_
  refine okc (fun W cx=>as_v (unhide K1 _)) ?_
  exact ok_nil
 obtain ⟨hS,hG⟩:=SymF.fg hS hF
 clear hF
 refine wp_cond_true (hK.ew 18) ?_
 refine wq hS hG hK (fun p4=>[.l 20 (.agg #[.bool false,.string s,.int .i64 x]) 0 0,.c (some 21) (cH W3.heap.size ra rb fun x9 y9=>.tuple #[.agg #[.bool u,x9,y9],.int .i64 0]),.v 19 (.tuple #[.agg #[.bool u,.slice (p4 1).A (p4 1).N (p4 1).C,.slice (p4 1).A' (p4 1).N' (p4 1).C'],.int .i64 0]),.v 22 (.agg #[.bool u,.slice (p4 1).A (p4 1).N (p4 1).C,.slice (p4 1).A' (p4 1).N' (p4 1).C']),.v 23 (.int .i64 0),.n 6 #[.bool false,.slice none 0 0,.slice none 0 0] 28,.p 1005 0 [.bool u,.slice (p4 1).A (p4 1).N (p4 1).C,.slice (p4 1).A' (p4 1).N' (p4 1).C'],.v 7 (.int .i64 0)]) (fun p4=>[(2,pT (p1 0).N 0),(3,pT (p1 1).N 0),(4,.bool false),(5,.bool true),(6,pT (p4 5).N 0),(7,.int .i64 0)]) (fun p4=>?_) (fun p4 W4 T hF hK=>?_)
 ·refine okl ?_
  refine okc (fun W cx=>as_h cx.hb (unhide R1 _)) ?_
  iterate 3 refine okv ?_
  refine okn ?_
  refine okp ?_
  refine okv ?_
  exact ok_nil
 replace hS:=SymF.fc hS hF [0,1,1005] [⟨(p1 0).N,#[.bool false,.string s,.int .i64 x],23,true⟩,⟨(p1 1).N,#[.bool g,.slice a n c,.slice b k l],28,true⟩,⟨(p4 5).N,#[.bool u,.slice (p4 1).A (p4 1).N (p4 1).C,.slice (p4 1).A' (p4 1).N' (p4 1).C'],28,true⟩]
 replace hG:GsAt (gM W3.heap.size (p4 1).A (p4 1).N (p4 1).C ra :: gM W3.heap.size (p4 1).A' (p4 1).N' (p4 1).C' rb :: _) W4:=⟨And.left (hF.fx 1),And.right (hF.fx 1),hF.gx⟩
 clear hF
 refine wq hS hG hK (fun p5=>[.l 25 (.agg #[.bool u,.slice (p4 1).A (p4 1).N (p4 1).C,.slice (p4 1).A' (p4 1).N' (p4 1).C']) 2 0,.c (some 26) (cV (.tuple #[.agg #[.bool false,.string s,.int .i64 x],.bool true,.int .i64 0])),.v 24 (.tuple #[.agg #[.bool false,.string s,.int .i64 x],.bool true,.int .i64 0]),.v 27 (.agg #[.bool false,.string s,.int .i64 x]),.v 28 (.bool true),.v 29 (.int .i64 0),.n 8 #[.bool false,.string ⟨#[]⟩,.int .i64 0] 23,.p 1006 0 [.bool false,.string s,.int .i64 x],.v 9 (.bool true),.v 10 (.int .i64 0)]) (fun p5=>[(2,pT (p1 0).N 0),(3,pT (p1 1).N 0),(4,.bool false),(5,.bool true),(7,.int .i64 0),(8,pT (p5 6).N 0),(9,.bool true),(10,.int .i64 0)]) (fun p5=>?_) (fun p5 W5 T hF hK=>?_)
 ·refine okl ?_
  refine okc (fun W cx=>as_v (unhide O1 _ _ _ (p4 1).C _ _ (p4 1).C' (Mine.num cx.G.1) (Mine.num cx.G.2.1))) ?_
  iterate 4 refine okv ?_
  refine okn ?_
  refine okp ?_
  iterate 2 refine okv ?_
  exact ok_nil
 replace hS:=SymF.fc hS hF [0,1,1006] [⟨(p1 0).N,#[.bool false,.string s,.int .i64 x],23,true⟩,⟨(p1 1).N,#[.bool g,.slice a n c,.slice b k l],28,true⟩,⟨(p5 6).N,#[.bool false,.string s,.int .i64 x],23,true⟩]
 replace hG:=hF.gx
 clear hF
 refine wq hS hG hK (fun p6=>[.v 30 (.int .i64 0),.v 31 (.bool false),.v 32 (.bool false),.v 33 (.int .i64 0),.v 34 (.bool false),.v 35 (.bool false),.v 36 (.bool false),.v 37 (.bool true),.v 38 (.bool false),.v 39 (.bool false),.v 40 (.bool false),.v 41 (pT (p5 6).N 1),.l 42 (.string s) 2 1,.v 43 (pT (p1 0).N 1),.l 44 (.string s) 0 1,.v 45 (.bool false),.v 46 (.bool false),.v 47 (.bool false),.v 48 (pT (p5 6).N 2),.l 49 (.int .i64 x) 2 2,.v 50 (pT (p1 0).N 2),.l 51 (.int .i64 x) 0 2,.v 52 (.bool false),.v 53 (.bool false),.v 54 (.bool false),.v 55 (pT (p5 6).N 0),.l 56 (.bool false) 2 0,.v 57 (pT (p1 0).N 0),.l 58 (.bool false) 0 0,.v 59 (.bool false),.k (some 60),.k (some 61),.k (some 62),.v 63 (.bool false),.v 64 (.bool false),.v 65 (.bool false)]) (fun p6=>[(3,pT (p1 1).N 0),(4,.bool false),(5,.bool true),(65,.bool false)]) (fun p6=>?_) (fun p6 W6 T hF hK=>?_)
 ·iterate 12 refine okv ?_
  refine okl ?_
  refine okv ?_
  refine okl ?_
  refine okvb (bne_self_eq_false s.toList) ?_
  iterate 3 refine okv ?_
  refine okl ?_
  refine okv ?_
  refine okl ?_
  refine okvb (bne_self_eq_false x) ?_
  iterate 3 refine okv ?_
  refine okl ?_
  refine okv ?_
  refine okl ?_
  refine okv ?_
  iterate 3 refine okk ?_
  iterate 3 refine okv ?_
  exact ok_nil
 obtain ⟨hS,hG⟩:=SymF.fg hS hF
 clear hF
 refine wp_cond_false (hK.ew 65) (wp_skip ?_)
 refine then_n (wp_seq ?_)
 refine wq hS hG hK (fun p7=>[.v 66 (pT (p1 1).N 2),.v 67 (pT (p1 1).N 2),.l 68 (.slice b k l) 1 2,.v 69 (.int .i64 (k:Int)),.v 70 (.bool false)]) (fun p7=>[(3,pT (p1 1).N 0),(4,.bool false),(5,.bool true),(70,.bool false)]) (fun p7=>?_) (fun p7 W7 T hF hK=>?_)
 ·iterate 2 refine okv ?_
  refine okl ?_
  refine okv ?_
  refine okvb (decide_eq_false (show ¬ (k:Int) > 20 by omega)) ?_
  exact ok_nil
 obtain ⟨hS,hG⟩:=SymF.fg hS hF
 clear hF
 refine wp_cond_false (hK.ew 70) (wp_skip (then_n ?_))
 refine wq hS hG hK (fun p8=>[.l 73 (.agg #[.bool g,.slice a n c,.slice b k l]) 1 0,.c (some 74) (cV (.tuple #[.agg #[.bool false,.string ⟨#[]⟩,.int .i64 0],.bool false,.int .i64 0])),.v 72 (.tuple #[.agg #[.bool false,.string ⟨#[]⟩,.int .i64 0],.bool false,.int .i64 0]),.v 75 (.agg #[.bool false,.string ⟨#[]⟩,.int .i64 0]),.v 76 (.bool false),.v 77 (.int .i64 0),.n 11 #[.bool false,.string ⟨#[]⟩,.int .i64 0] 23,.p 1006 0 [.bool false,.string ⟨#[]⟩,.int .i64 0],.v 12 (.bool false),.v 13 (.int .i64 0)]) (fun p8=>[(3,pT (p1 1).N 0),(4,.bool false),(5,.bool true),(11,pT (p8 6).N 0),(12,.bool false),(13,.int .i64 0)]) (fun p8=>?_) (fun p8 W8 T hF hK=>?_)
 ·refine okl ?_
  refine okc (fun W cx=>as_v (unhide O2 _ cx.fr)) ?_
  iterate 4 refine okv ?_
  refine okn ?_
  refine okp ?_
  iterate 2 refine okv ?_
  exact ok_nil
 replace hS:=SymF.fc hS hF [1,1006] [⟨(p1 1).N,#[.bool g,.slice a n c,.slice b k l],28,true⟩,⟨(p8 6).N,#[.bool false,.string ⟨#[]⟩,.int .i64 0],23,true⟩]
 replace hG:=hF.gx
 clear hF
 refine wp_seq ?_
 refine wq hS hG hK (fun p9=>[.v 78 (.int .i64 0),.v 79 (.bool false),.v 80 (.bool false),.v 81 (.bool false),.v 82 (.bool true),.v 83 (.bool true)]) (fun p9=>[(3,pT (p1 1).N 0),(4,.bool false),(5,.bool true),(11,pT (p8 6).N 0),(12,.bool false),(83,.bool true)]) (fun p9=>?_) (fun p9 W9 T hF hK=>?_)
 ·iterate 6 refine okv ?_
  exact ok_nil
 obtain ⟨hS,hG⟩:=SymF.fg hS hF
 clear hF
 refine wp_cond_true (hK.ew 83) ?_
 refine wq hS hG hK (fun p10=>[.v 84 (.bool true),.v 85 (.bool true),.l 86 (.agg #[.bool false,.string ⟨#[]⟩,.int .i64 0]) 1 0,.v 87 (.agg #[.bool false,.string ⟨#[]⟩,.int .i64 0]),.v 88 (.bool true),.v 89 (.bool true),.v 90 (.bool true),.v 91 (.bool false),.v 92 (.bool true),.v 93 (.bool true),.v 4 (.bool true)]) (fun p10=>[(3,pT (p1 1).N 0),(4,.bool true),(5,.bool true),(11,pT (p8 6).N 0)]) (fun p10=>?_) (fun p10 W10 T hF hK=>?_)
 ·iterate 2 refine okv ?_
  refine okl ?_
  refine okv ?_
  refine ok_vr (dz_eq) (by kernel_rfl) ?_
  iterate 6 refine okv ?_
  exact ok_nil
 obtain ⟨hS,hG⟩:=SymF.fg hS hF
 clear hF
 refine wp_ret ?_
 refine then_r ?_
 exact sym_end hS hK (.bool true) [] [] (by kernel_rfl) (by kernel_rfl) ⟨rfl,hS.fr⟩
theorem dbk_fc (w:World) (s:ByteArray) (x:Int) (g:Bool) (a b:Option Addr) (n c k l:Nat) (u:Bool) (ra rb:Nat) (p d:Nat) (g3:Bool) (s3:ByteArray) (x3:Int) (HA:Hid (∀ W:World,Calls Tryz.prog 5 #[] W fun e W'=>e = .returned (.bool true)∧Below W.heap.size W W')) (K1:Hid (∀ W:World,Calls Tryz.prog 6 #[.agg #[.bool false,.string s,.int .i64 x],.int .i64 800,.int .i64 1500] W fun e W'=>e = .returned (.bool true)∧Below W.heap.size W W')) (R1:Hid (∀ W:World,Calls Tryz.prog 7 #[.agg #[.bool false,.string s,.int .i64 x]] W fun en W'=>(∃ A N C A' N' C',en = .returned (.tuple #[.agg #[.bool u,.slice A N C,.slice A' N' C'],.int .i64 0])∧Mine W' W.heap.size A N C ra∧Mine W' W.heap.size A' N' C' rb)∧Below W.heap.size W W')) (O1:Hid (∀ (W:World) (a:Option Addr) (n c:Nat) (b:Option Addr) (k l:Nat),Num W a n ra→Num W b k rb→Calls Tryz.prog 8 #[.agg #[.bool u,.slice a n c,.slice b k l]] W fun e W'=>e = .returned (.tuple #[.agg #[.bool false,.string s,.int .i64 x],.bool true,.int .i64 0])∧Below W.heap.size W W')) (hk:k≤20) (h1:Num w a n p) (h2:Num w b k d) (O2:Hid (∀ W:World,Below w.heap.size w W→Calls Tryz.prog 8 #[.agg #[.bool g,.slice a n c,.slice b k l]] W fun e W'=>e = .returned (.tuple #[.agg #[.bool g3,.string s3,.int .i64 x3],.bool true,.int .i64 0])∧Below W.heap.size W W')) (R2:Hid (∀ W:World,Calls Tryz.prog 7 #[.agg #[.bool g3,.string s3,.int .i64 x3]] W fun en W'=>(∃ A N C A' N' C',en = .returned (.tuple #[.agg #[.bool g,.slice A N C,.slice A' N' C'],.int .i64 0])∧Mine W' W.heap.size A N C p∧Mine W' W.heap.size A' N' C' d)∧Below W.heap.size W W')) (S2:Hid (∀ (W:World) (a:Option Addr) (n c:Nat) (b:Option Addr) (k l:Nat) (a':Option Addr) (n' c':Nat) (b':Option Addr) (k' l':Nat),Num W a n p→Num W b k d→Num W a' n' p→Num W b' k' d→Calls Tryz.prog 9 #[.agg #[.bool g,.slice a n c,.slice b k l],.agg #[.bool g,.slice a' n' c',.slice b' k' l']] W fun e W'=>e = .returned (.bool true)∧Below W.heap.size W W'))  :
  Calls Tryz.prog 3 #[.agg #[.bool false,.string s,.int .i64 x],.agg #[.bool g,.slice a n c,.slice b k l]] w fun en w'=>en = .returned (.bool true)∧Below w.heap.size w w':=by
 refine calls_sym Tryz.func3 rfl (by kernel_rfl) fun T hK=>?_
 replace hK:Kn T _ [(0,.agg #[.bool false,.string s,.int .i64 x]),(1,.agg #[.bool g,.slice a n c,.slice b k l])]:=hK
 have hS:=Fb.begin w
 have hG:GsAt [gN a n p,gN b k d] w:=⟨h1,h2,trivial⟩
 refine wq hS hG hK (fun p1=>[.n 2 #[.bool false,.string s,.int .i64 x] 23,.n 3 #[.bool g,.slice a n c,.slice b k l] 28,.v 4 (.bool false)]) (fun p1=>[(2,pT (p1 0).N 0),(3,pT (p1 1).N 0),(4,.bool false)]) (fun p1=>?_) (fun p1 W1 T hF hK=>?_)
 ·iterate 2 refine okn ?_
  refine okv ?_
  exact ok_nil
 replace hS:=SymF.fc hS hF [1000,1001] [⟨(p1 0).N,#[.bool false,.string s,.int .i64 x],23,true⟩,⟨(p1 1).N,#[.bool g,.slice a n c,.slice b k l],28,true⟩]
 replace hG:=hF.gx
 clear hF
 refine wq hS hG hK (fun p2=>[.c (some 16) (cV (.bool true)),.v 5 (.bool true)]) (fun p2=>[(2,pT (p1 0).N 0),(3,pT (p1 1).N 0),(4,.bool false),(5,.bool true)]) (fun p2=>?_) (fun p2 W2 T hF hK=>?_)
 ·refine okc (fun W cx=>as_v (unhide HA _)) ?_
  refine okv ?_
  exact ok_nil
 obtain ⟨hS,hG⟩:=SymF.fg hS hF
 clear hF
 refine wp_seq ?_
 refine wq hS hG hK (fun p3=>[.l 17 (.agg #[.bool false,.string s,.int .i64 x]) 0 0,.c (some 18) (cV (.bool true))]) (fun p3=>[(2,pT (p1 0).N 0),(3,pT (p1 1).N 0),(4,.bool false),(5,.bool true),(18,.bool true)]) (fun p3=>?_) (fun p3 W3 T hF hK=>?_)
 ·refine okl ?_
  refine okc (fun W cx=>as_v (unhide K1 _)) ?_
  exact ok_nil
 obtain ⟨hS,hG⟩:=SymF.fg hS hF
 clear hF
 refine wp_cond_true (hK.ew 18) ?_
 refine wq hS hG hK (fun p4=>[.l 20 (.agg #[.bool false,.string s,.int .i64 x]) 0 0,.c (some 21) (cH W3.heap.size ra rb fun x9 y9=>.tuple #[.agg #[.bool u,x9,y9],.int .i64 0]),.v 19 (.tuple #[.agg #[.bool u,.slice (p4 1).A (p4 1).N (p4 1).C,.slice (p4 1).A' (p4 1).N' (p4 1).C'],.int .i64 0]),.v 22 (.agg #[.bool u,.slice (p4 1).A (p4 1).N (p4 1).C,.slice (p4 1).A' (p4 1).N' (p4 1).C']),.v 23 (.int .i64 0),.n 6 #[.bool false,.slice none 0 0,.slice none 0 0] 28,.p 1005 0 [.bool u,.slice (p4 1).A (p4 1).N (p4 1).C,.slice (p4 1).A' (p4 1).N' (p4 1).C'],.v 7 (.int .i64 0)]) (fun p4=>[(2,pT (p1 0).N 0),(3,pT (p1 1).N 0),(4,.bool false),(5,.bool true),(6,pT (p4 5).N 0),(7,.int .i64 0)]) (fun p4=>?_) (fun p4 W4 T hF hK=>?_)
 ·refine okl ?_
  refine okc (fun W cx=>as_h cx.hb (unhide R1 _)) ?_
  iterate 3 refine okv ?_
  refine okn ?_
  refine okp ?_
  refine okv ?_
  exact ok_nil
 replace hS:=SymF.fc hS hF [0,1,1005] [⟨(p1 0).N,#[.bool false,.string s,.int .i64 x],23,true⟩,⟨(p1 1).N,#[.bool g,.slice a n c,.slice b k l],28,true⟩,⟨(p4 5).N,#[.bool u,.slice (p4 1).A (p4 1).N (p4 1).C,.slice (p4 1).A' (p4 1).N' (p4 1).C'],28,true⟩]
 replace hG:GsAt (gM W3.heap.size (p4 1).A (p4 1).N (p4 1).C ra :: gM W3.heap.size (p4 1).A' (p4 1).N' (p4 1).C' rb :: _) W4:=⟨And.left (hF.fx 1),And.right (hF.fx 1),hF.gx⟩
 clear hF
 refine wq hS hG hK (fun p5=>[.l 25 (.agg #[.bool u,.slice (p4 1).A (p4 1).N (p4 1).C,.slice (p4 1).A' (p4 1).N' (p4 1).C']) 2 0,.c (some 26) (cV (.tuple #[.agg #[.bool false,.string s,.int .i64 x],.bool true,.int .i64 0])),.v 24 (.tuple #[.agg #[.bool false,.string s,.int .i64 x],.bool true,.int .i64 0]),.v 27 (.agg #[.bool false,.string s,.int .i64 x]),.v 28 (.bool true),.v 29 (.int .i64 0),.n 8 #[.bool false,.string ⟨#[]⟩,.int .i64 0] 23,.p 1006 0 [.bool false,.string s,.int .i64 x],.v 9 (.bool true),.v 10 (.int .i64 0)]) (fun p5=>[(2,pT (p1 0).N 0),(3,pT (p1 1).N 0),(4,.bool false),(5,.bool true),(7,.int .i64 0),(8,pT (p5 6).N 0),(9,.bool true),(10,.int .i64 0)]) (fun p5=>?_) (fun p5 W5 T hF hK=>?_)
 ·refine okl ?_
  refine okc (fun W cx=>as_v (unhide O1 _ _ _ (p4 1).C _ _ (p4 1).C' (Mine.num cx.G.1) (Mine.num cx.G.2.1))) ?_
  iterate 4 refine okv ?_
  refine okn ?_
  refine okp ?_
  iterate 2 refine okv ?_
  exact ok_nil
 replace hS:=SymF.fc hS hF [0,1,1006] [⟨(p1 0).N,#[.bool false,.string s,.int .i64 x],23,true⟩,⟨(p1 1).N,#[.bool g,.slice a n c,.slice b k l],28,true⟩,⟨(p5 6).N,#[.bool false,.string s,.int .i64 x],23,true⟩]
 replace hG:=hF.gx
 clear hF
 refine wq hS hG hK (fun p6=>[.v 30 (.int .i64 0),.v 31 (.bool false),.v 32 (.bool false),.v 33 (.int .i64 0),.v 34 (.bool false),.v 35 (.bool false),.v 36 (.bool false),.v 37 (.bool true),.v 38 (.bool false),.v 39 (.bool false),.v 40 (.bool false),.v 41 (pT (p5 6).N 1),.l 42 (.string s) 2 1,.v 43 (pT (p1 0).N 1),.l 44 (.string s) 0 1,.v 45 (.bool false),.v 46 (.bool false),.v 47 (.bool false),.v 48 (pT (p5 6).N 2),.l 49 (.int .i64 x) 2 2,.v 50 (pT (p1 0).N 2),.l 51 (.int .i64 x) 0 2,.v 52 (.bool false),.v 53 (.bool false),.v 54 (.bool false),.v 55 (pT (p5 6).N 0),.l 56 (.bool false) 2 0,.v 57 (pT (p1 0).N 0),.l 58 (.bool false) 0 0,.v 59 (.bool false),.k (some 60),.k (some 61),.k (some 62),.v 63 (.bool false),.v 64 (.bool false),.v 65 (.bool false)]) (fun p6=>[(3,pT (p1 1).N 0),(4,.bool false),(5,.bool true),(65,.bool false)]) (fun p6=>?_) (fun p6 W6 T hF hK=>?_)
 ·iterate 12 refine okv ?_
  refine okl ?_
  refine okv ?_
  refine okl ?_
  refine okvb (bne_self_eq_false s.toList) ?_
  iterate 3 refine okv ?_
  refine okl ?_
  refine okv ?_
  refine okl ?_
  refine okvb (bne_self_eq_false x) ?_
  iterate 3 refine okv ?_
  refine okl ?_
  refine okv ?_
  refine okl ?_
  refine okv ?_
  iterate 3 refine okk ?_
  iterate 3 refine okv ?_
  exact ok_nil
 obtain ⟨hS,hG⟩:=SymF.fg hS hF
 clear hF
 refine wp_cond_false (hK.ew 65) (wp_skip ?_)
 refine then_n (wp_seq ?_)
 refine wq hS hG hK (fun p7=>[.v 66 (pT (p1 1).N 2),.v 67 (pT (p1 1).N 2),.l 68 (.slice b k l) 1 2,.v 69 (.int .i64 (k:Int)),.v 70 (.bool false)]) (fun p7=>[(3,pT (p1 1).N 0),(4,.bool false),(5,.bool true),(70,.bool false)]) (fun p7=>?_) (fun p7 W7 T hF hK=>?_)
 ·iterate 2 refine okv ?_
  refine okl ?_
  refine okv ?_
  refine okvb (decide_eq_false (show ¬ (k:Int) > 20 by omega)) ?_
  exact ok_nil
 obtain ⟨hS,hG⟩:=SymF.fg hS hF
 clear hF
 refine wp_cond_false (hK.ew 70) (wp_skip (then_n ?_))
 refine wq hS hG hK (fun p8=>[.l 73 (.agg #[.bool g,.slice a n c,.slice b k l]) 1 0,.c (some 74) (cV (.tuple #[.agg #[.bool g3,.string s3,.int .i64 x3],.bool true,.int .i64 0])),.v 72 (.tuple #[.agg #[.bool g3,.string s3,.int .i64 x3],.bool true,.int .i64 0]),.v 75 (.agg #[.bool g3,.string s3,.int .i64 x3]),.v 76 (.bool true),.v 77 (.int .i64 0),.n 11 #[.bool false,.string ⟨#[]⟩,.int .i64 0] 23,.p 1006 0 [.bool g3,.string s3,.int .i64 x3],.v 12 (.bool true),.v 13 (.int .i64 0)]) (fun p8=>[(3,pT (p1 1).N 0),(4,.bool false),(5,.bool true),(11,pT (p8 6).N 0),(12,.bool true),(13,.int .i64 0)]) (fun p8=>?_) (fun p8 W8 T hF hK=>?_)
 ·refine okl ?_
  refine okc (fun W cx=>as_v (unhide O2 _ cx.fr)) ?_
  iterate 4 refine okv ?_
  refine okn ?_
  refine okp ?_
  iterate 2 refine okv ?_
  exact ok_nil
 replace hS:=SymF.fc hS hF [1,1006] [⟨(p1 1).N,#[.bool g,.slice a n c,.slice b k l],28,true⟩,⟨(p8 6).N,#[.bool g3,.string s3,.int .i64 x3],23,true⟩]
 replace hG:=hF.gx
 clear hF
 refine wp_seq ?_
 refine wq hS hG hK (fun p9=>[.v 78 (.int .i64 0),.v 79 (.bool false),.v 80 (.bool false),.v 81 (.bool true),.v 82 (.bool false),.v 83 (.bool false)]) (fun p9=>[(3,pT (p1 1).N 0),(4,.bool false),(5,.bool true),(11,pT (p8 6).N 0),(12,.bool true),(83,.bool false)]) (fun p9=>?_) (fun p9 W9 T hF hK=>?_)
 ·iterate 6 refine okv ?_
  exact ok_nil
 obtain ⟨hS,hG⟩:=SymF.fg hS hF
 clear hF
 refine wp_cond_false (hK.ew 83) (wp_skip (then_n ?_))
 refine wq hS hG hK (fun p10=>[.l 95 (.agg #[.bool g3,.string s3,.int .i64 x3]) 1 0,.c (some 96) (cH W9.heap.size p d fun x9 y9=>.tuple #[.agg #[.bool g,x9,y9],.int .i64 0]),.v 94 (.tuple #[.agg #[.bool g,.slice (p10 1).A (p10 1).N (p10 1).C,.slice (p10 1).A' (p10 1).N' (p10 1).C'],.int .i64 0]),.v 97 (.agg #[.bool g,.slice (p10 1).A (p10 1).N (p10 1).C,.slice (p10 1).A' (p10 1).N' (p10 1).C']),.v 98 (.int .i64 0),.n 14 #[.bool false,.slice none 0 0,.slice none 0 0] 28,.p 1005 0 [.bool g,.slice (p10 1).A (p10 1).N (p10 1).C,.slice (p10 1).A' (p10 1).N' (p10 1).C'],.v 15 (.int .i64 0)]) (fun p10=>[(3,pT (p1 1).N 0),(4,.bool false),(5,.bool true),(11,pT (p8 6).N 0),(12,.bool true),(14,pT (p10 5).N 0),(15,.int .i64 0)]) (fun p10=>?_) (fun p10 W10 T hF hK=>?_)
 ·refine okl ?_
  refine okc (fun W cx=>as_h cx.hb (unhide R2 _)) ?_
  iterate 3 refine okv ?_
  refine okn ?_
  refine okp ?_
  refine okv ?_
  exact ok_nil
 replace hS:=SymF.fc hS hF [0,1,1005] [⟨(p1 1).N,#[.bool g,.slice a n c,.slice b k l],28,true⟩,⟨(p8 6).N,#[.bool g3,.string s3,.int .i64 x3],23,true⟩,⟨(p10 5).N,#[.bool g,.slice (p10 1).A (p10 1).N (p10 1).C,.slice (p10 1).A' (p10 1).N' (p10 1).C'],28,true⟩]
 replace hG:GsAt (gM W9.heap.size (p10 1).A (p10 1).N (p10 1).C p :: gM W9.heap.size (p10 1).A' (p10 1).N' (p10 1).C' d :: _) W10:=⟨And.left (hF.fx 1),And.right (hF.fx 1),hF.gx⟩
 clear hF
 refine wq hS hG hK (fun p11=>[.v 99 (.bool true),.v 100 (.bool true),.v 101 (.int .i64 0),.v 102 (.bool true),.v 103 (.bool true),.v 104 (.bool true),.l 105 (.agg #[.bool g,.slice (p10 1).A (p10 1).N (p10 1).C,.slice (p10 1).A' (p10 1).N' (p10 1).C']) 2 0,.l 106 (.agg #[.bool g,.slice a n c,.slice b k l]) 0 0,.c (some 107) (cV (.bool true)),.v 108 (.bool true),.v 4 (.bool true)]) (fun p11=>[(4,.bool true),(5,.bool true),(11,pT (p8 6).N 0),(12,.bool true)]) (fun p11=>?_) (fun p11 W11 T hF hK=>?_)
 ·iterate 6 refine okv ?_
  iterate 2 refine okl ?_
  refine okc (fun W cx=>as_v (unhide S2 _ _ _ (p10 1).C _ _ (p10 1).C' _ _ c _ _ l (Mine.num cx.G.1) (Mine.num cx.G.2.1) (cx.G.2.2.2.2.1) (cx.G.2.2.2.2.2.1))) ?_
  iterate 2 refine okv ?_
  exact ok_nil
 obtain ⟨hS,hG⟩:=SymF.fg hS hF
 clear hF
 refine wp_ret ?_
 exact sym_end hS hK (.bool true) [] [] (by kernel_rfl) (by kernel_rfl) ⟨rfl,hS.fr⟩
theorem dbk_ta (w:World) (s:ByteArray) (x:Int) (g:Bool) (a b:Option Addr) (n c k l:Nat) (u:Bool) (ra rb:Nat) (nz:Bool) (HA:Hid (∀ W:World,Calls Tryz.prog 5 #[] W fun e W'=>e = .returned (.bool true)∧Below W.heap.size W W')) (K1:Hid (∀ W:World,Calls Tryz.prog 6 #[.agg #[.bool true,.string s,.int .i64 x],.int .i64 800,.int .i64 1500] W fun e W'=>e = .returned (.bool true)∧Below W.heap.size W W')) (R1:Hid (∀ W:World,Calls Tryz.prog 7 #[.agg #[.bool true,.string s,.int .i64 x]] W fun en W'=>(∃ A N C A' N' C',en = .returned (.tuple #[.agg #[.bool u,.slice A N C,.slice A' N' C'],.int .i64 0])∧Mine W' W.heap.size A N C ra∧Mine W' W.heap.size A' N' C' rb)∧Below W.heap.size W W')) (O1:Hid (∀ (W:World) (a:Option Addr) (n c:Nat) (b:Option Addr) (k l:Nat),Num W a n ra→Num W b k rb→Calls Tryz.prog 8 #[.agg #[.bool u,.slice a n c,.slice b k l]] W fun e W'=>e = .returned (.tuple #[.agg #[.bool nz,.string s,.int .i64 x],.bool true,.int .i64 0])∧Below W.heap.size W W')) (hz:(s.toList != (ByteArray.mk #[]).toList) = nz) (hk:20 < k)  :
  Calls Tryz.prog 3 #[.agg #[.bool true,.string s,.int .i64 x],.agg #[.bool g,.slice a n c,.slice b k l]] w fun en w'=>en = .returned (.bool true)∧Below w.heap.size w w':=by
 refine calls_sym Tryz.func3 rfl (by kernel_rfl) fun T hK=>?_
 replace hK:Kn T _ [(0,.agg #[.bool true,.string s,.int .i64 x]),(1,.agg #[.bool g,.slice a n c,.slice b k l])]:=hK
 have hS:=Fb.begin w
 have hG:GsAt [] w:=trivial
 refine wq hS hG hK (fun p1=>[.n 2 #[.bool true,.string s,.int .i64 x] 23,.n 3 #[.bool g,.slice a n c,.slice b k l] 28,.v 4 (.bool false)]) (fun p1=>[(2,pT (p1 0).N 0),(3,pT (p1 1).N 0),(4,.bool false)]) (fun p1=>?_) (fun p1 W1 T hF hK=>?_)
 ·iterate 2 refine okn ?_
  refine okv ?_
  exact ok_nil
 replace hS:=SymF.fc hS hF [1000,1001] [⟨(p1 0).N,#[.bool true,.string s,.int .i64 x],23,true⟩,⟨(p1 1).N,#[.bool g,.slice a n c,.slice b k l],28,true⟩]
 replace hG:=hF.gx
 clear hF
 refine wq hS hG hK (fun p2=>[.c (some 16) (cV (.bool true)),.v 5 (.bool true)]) (fun p2=>[(2,pT (p1 0).N 0),(3,pT (p1 1).N 0),(4,.bool false),(5,.bool true)]) (fun p2=>?_) (fun p2 W2 T hF hK=>?_)
 ·refine okc (fun W cx=>as_v (unhide HA _)) ?_
  refine okv ?_
  exact ok_nil
 obtain ⟨hS,hG⟩:=SymF.fg hS hF
 clear hF
 refine wp_seq ?_
 refine wq hS hG hK (fun p3=>[.l 17 (.agg #[.bool true,.string s,.int .i64 x]) 0 0,.c (some 18) (cV (.bool true))]) (fun p3=>[(2,pT (p1 0).N 0),(3,pT (p1 1).N 0),(4,.bool false),(5,.bool true),(18,.bool true)]) (fun p3=>?_) (fun p3 W3 T hF hK=>?_)
 ·refine okl ?_
  refine okc (fun W cx=>as_v (unhide K1 _)) ?_
  exact ok_nil
 obtain ⟨hS,hG⟩:=SymF.fg hS hF
 clear hF
 refine wp_cond_true (hK.ew 18) ?_
 refine wq hS hG hK (fun p4=>[.l 20 (.agg #[.bool true,.string s,.int .i64 x]) 0 0,.c (some 21) (cH W3.heap.size ra rb fun x9 y9=>.tuple #[.agg #[.bool u,x9,y9],.int .i64 0]),.v 19 (.tuple #[.agg #[.bool u,.slice (p4 1).A (p4 1).N (p4 1).C,.slice (p4 1).A' (p4 1).N' (p4 1).C'],.int .i64 0]),.v 22 (.agg #[.bool u,.slice (p4 1).A (p4 1).N (p4 1).C,.slice (p4 1).A' (p4 1).N' (p4 1).C']),.v 23 (.int .i64 0),.n 6 #[.bool false,.slice none 0 0,.slice none 0 0] 28,.p 1005 0 [.bool u,.slice (p4 1).A (p4 1).N (p4 1).C,.slice (p4 1).A' (p4 1).N' (p4 1).C'],.v 7 (.int .i64 0)]) (fun p4=>[(2,pT (p1 0).N 0),(3,pT (p1 1).N 0),(4,.bool false),(5,.bool true),(6,pT (p4 5).N 0),(7,.int .i64 0)]) (fun p4=>?_) (fun p4 W4 T hF hK=>?_)
 ·refine okl ?_
  refine okc (fun W cx=>as_h cx.hb (unhide R1 _)) ?_
  iterate 3 refine okv ?_
  refine okn ?_
  refine okp ?_
  refine okv ?_
  exact ok_nil
 replace hS:=SymF.fc hS hF [0,1,1005] [⟨(p1 0).N,#[.bool true,.string s,.int .i64 x],23,true⟩,⟨(p1 1).N,#[.bool g,.slice a n c,.slice b k l],28,true⟩,⟨(p4 5).N,#[.bool u,.slice (p4 1).A (p4 1).N (p4 1).C,.slice (p4 1).A' (p4 1).N' (p4 1).C'],28,true⟩]
 replace hG:GsAt (gM W3.heap.size (p4 1).A (p4 1).N (p4 1).C ra :: gM W3.heap.size (p4 1).A' (p4 1).N' (p4 1).C' rb :: _) W4:=⟨And.left (hF.fx 1),And.right (hF.fx 1),hF.gx⟩
 clear hF
 refine wq hS hG hK (fun p5=>[.l 25 (.agg #[.bool u,.slice (p4 1).A (p4 1).N (p4 1).C,.slice (p4 1).A' (p4 1).N' (p4 1).C']) 2 0,.c (some 26) (cV (.tuple #[.agg #[.bool nz,.string s,.int .i64 x],.bool true,.int .i64 0])),.v 24 (.tuple #[.agg #[.bool nz,.string s,.int .i64 x],.bool true,.int .i64 0]),.v 27 (.agg #[.bool nz,.string s,.int .i64 x]),.v 28 (.bool true),.v 29 (.int .i64 0),.n 8 #[.bool false,.string ⟨#[]⟩,.int .i64 0] 23,.p 1006 0 [.bool nz,.string s,.int .i64 x],.v 9 (.bool true),.v 10 (.int .i64 0)]) (fun p5=>[(2,pT (p1 0).N 0),(3,pT (p1 1).N 0),(4,.bool false),(5,.bool true),(7,.int .i64 0),(8,pT (p5 6).N 0),(9,.bool true),(10,.int .i64 0)]) (fun p5=>?_) (fun p5 W5 T hF hK=>?_)
 ·refine okl ?_
  refine okc (fun W cx=>as_v (unhide O1 _ _ _ (p4 1).C _ _ (p4 1).C' (Mine.num cx.G.1) (Mine.num cx.G.2.1))) ?_
  iterate 4 refine okv ?_
  refine okn ?_
  refine okp ?_
  iterate 2 refine okv ?_
  exact ok_nil
 replace hS:=SymF.fc hS hF [0,1,1006] [⟨(p1 0).N,#[.bool true,.string s,.int .i64 x],23,true⟩,⟨(p1 1).N,#[.bool g,.slice a n c,.slice b k l],28,true⟩,⟨(p5 6).N,#[.bool nz,.string s,.int .i64 x],23,true⟩]
 replace hG:=hF.gx
 clear hF
 refine wq hS hG hK (fun p6=>[.v 30 (.int .i64 0),.v 31 (.bool false),.v 32 (.bool false),.v 33 (.int .i64 0),.v 34 (.bool false),.v 35 (.bool false),.v 36 (.bool false),.v 37 (.bool true),.v 38 (.bool false),.v 39 (.bool false),.v 40 (.bool false),.v 41 (pT (p5 6).N 1),.l 42 (.string s) 2 1,.v 43 (pT (p1 0).N 1),.l 44 (.string s) 0 1,.v 45 (.bool false),.v 46 (.bool false),.v 47 (.bool false),.v 48 (pT (p5 6).N 2),.l 49 (.int .i64 x) 2 2,.v 50 (pT (p1 0).N 2),.l 51 (.int .i64 x) 0 2,.v 52 (.bool false),.v 53 (.bool false),.v 54 (.bool false),.v 55 (pT (p5 6).N 0),.l 56 (.bool nz) 2 0,.v 57 (pT (p1 0).N 0),.l 58 (.bool true) 0 0,.v 59 (.bool true),.v 60 (pT (p1 0).N 1),.l 61 (.string s) 0 1,.v 62 (.bool nz),.v 63 (.bool nz),.v 64 (.bool false),.v 65 (.bool false)]) (fun p6=>[(3,pT (p1 1).N 0),(4,.bool false),(5,.bool true),(65,.bool false)]) (fun p6=>?_) (fun p6 W6 T hF hK=>?_)
 ·iterate 12 refine okv ?_
  refine okl ?_
  refine okv ?_
  refine okl ?_
  refine okvb (bne_self_eq_false s.toList) ?_
  iterate 3 refine okv ?_
  refine okl ?_
  refine okv ?_
  refine okl ?_
  refine okvb (bne_self_eq_false x) ?_
  iterate 3 refine okv ?_
  refine okl ?_
  refine okv ?_
  refine okl ?_
  iterate 2 refine okv ?_
  refine okl ?_
  refine okvb (hz) ?_
  refine okv ?_
  refine okvb (bne_self_eq_false nz) ?_
  refine okv ?_
  exact ok_nil
 obtain ⟨hS,hG⟩:=SymF.fg hS hF
 clear hF
 refine wp_cond_false (hK.ew 65) (wp_skip ?_)
 refine then_n (wp_seq ?_)
 refine wq hS hG hK (fun p7=>[.v 66 (pT (p1 1).N 2),.v 67 (pT (p1 1).N 2),.l 68 (.slice b k l) 1 2,.v 69 (.int .i64 (k:Int)),.v 70 (.bool true)]) (fun p7=>[(3,pT (p1 1).N 0),(4,.bool false),(5,.bool true),(70,.bool true)]) (fun p7=>?_) (fun p7 W7 T hF hK=>?_)
 ·iterate 2 refine okv ?_
  refine okl ?_
  refine okv ?_
  refine okvb (decide_eq_true (show (k:Int) > 20 by omega)) ?_
  exact ok_nil
 obtain ⟨hS,hG⟩:=SymF.fg hS hF
 clear hF
 refine wp_cond_true (hK.ew 70) ?_
 refine wq hS hG hK (fun p8=>[.v 71 (.bool true),.v 4 (.bool true)]) (fun p8=>[(3,pT (p1 1).N 0),(4,.bool true),(5,.bool true)]) (fun p8=>?_) (fun p8 W8 T hF hK=>?_)
 ·iterate 2 refine okv ?_
  exact ok_nil
 obtain ⟨hS,hG⟩:=SymF.fg hS hF
 clear hF
 refine wp_ret ?_
 refine then_r ?_
 exact sym_end hS hK (.bool true) [] [] (by kernel_rfl) (by kernel_rfl) ⟨rfl,hS.fr⟩
theorem dbk_te (w:World) (s:ByteArray) (x:Int) (g:Bool) (a b:Option Addr) (n c k l:Nat) (u:Bool) (ra rb:Nat) (nz:Bool) (e1:Int) (HA:Hid (∀ W:World,Calls Tryz.prog 5 #[] W fun e W'=>e = .returned (.bool true)∧Below W.heap.size W W')) (K1:Hid (∀ W:World,Calls Tryz.prog 6 #[.agg #[.bool true,.string s,.int .i64 x],.int .i64 800,.int .i64 1500] W fun e W'=>e = .returned (.bool true)∧Below W.heap.size W W')) (R1:Hid (∀ W:World,Calls Tryz.prog 7 #[.agg #[.bool true,.string s,.int .i64 x]] W fun en W'=>(∃ A N C A' N' C',en = .returned (.tuple #[.agg #[.bool u,.slice A N C,.slice A' N' C'],.int .i64 0])∧Mine W' W.heap.size A N C ra∧Mine W' W.heap.size A' N' C' rb)∧Below W.heap.size W W')) (O1:Hid (∀ (W:World) (a:Option Addr) (n c:Nat) (b:Option Addr) (k l:Nat),Num W a n ra→Num W b k rb→Calls Tryz.prog 8 #[.agg #[.bool u,.slice a n c,.slice b k l]] W fun e W'=>e = .returned (.tuple #[.agg #[.bool nz,.string s,.int .i64 x],.bool true,.int .i64 0])∧Below W.heap.size W W')) (hz:(s.toList != (ByteArray.mk #[]).toList) = nz) (hk:k≤20) (he:e1≠0) (O2:Hid (∀ W:World,Below w.heap.size w W→Calls Tryz.prog 8 #[.agg #[.bool g,.slice a n c,.slice b k l]] W fun e W'=>e = .returned (.tuple #[.agg #[.bool false,.string ⟨#[]⟩,.int .i64 0],.bool false,.int .i64 e1])∧Below W.heap.size W W'))  :
  Calls Tryz.prog 3 #[.agg #[.bool true,.string s,.int .i64 x],.agg #[.bool g,.slice a n c,.slice b k l]] w fun en w'=>en = .returned (.bool true)∧Below w.heap.size w w':=by
 refine calls_sym Tryz.func3 rfl (by kernel_rfl) fun T hK=>?_
 replace hK:Kn T _ [(0,.agg #[.bool true,.string s,.int .i64 x]),(1,.agg #[.bool g,.slice a n c,.slice b k l])]:=hK
 have hS:=Fb.begin w
 have hG:GsAt [] w:=trivial
 refine wq hS hG hK (fun p1=>[.n 2 #[.bool true,.string s,.int .i64 x] 23,.n 3 #[.bool g,.slice a n c,.slice b k l] 28,.v 4 (.bool false)]) (fun p1=>[(2,pT (p1 0).N 0),(3,pT (p1 1).N 0),(4,.bool false)]) (fun p1=>?_) (fun p1 W1 T hF hK=>?_)
 ·iterate 2 refine okn ?_
  refine okv ?_
  exact ok_nil
 replace hS:=SymF.fc hS hF [1000,1001] [⟨(p1 0).N,#[.bool true,.string s,.int .i64 x],23,true⟩,⟨(p1 1).N,#[.bool g,.slice a n c,.slice b k l],28,true⟩]
 replace hG:=hF.gx
 clear hF
 refine wq hS hG hK (fun p2=>[.c (some 16) (cV (.bool true)),.v 5 (.bool true)]) (fun p2=>[(2,pT (p1 0).N 0),(3,pT (p1 1).N 0),(4,.bool false),(5,.bool true)]) (fun p2=>?_) (fun p2 W2 T hF hK=>?_)
 ·refine okc (fun W cx=>as_v (unhide HA _)) ?_
  refine okv ?_
  exact ok_nil
 obtain ⟨hS,hG⟩:=SymF.fg hS hF
 clear hF
 refine wp_seq ?_
 refine wq hS hG hK (fun p3=>[.l 17 (.agg #[.bool true,.string s,.int .i64 x]) 0 0,.c (some 18) (cV (.bool true))]) (fun p3=>[(2,pT (p1 0).N 0),(3,pT (p1 1).N 0),(4,.bool false),(5,.bool true),(18,.bool true)]) (fun p3=>?_) (fun p3 W3 T hF hK=>?_)
 ·refine okl ?_
  refine okc (fun W cx=>as_v (unhide K1 _)) ?_
  exact ok_nil
 obtain ⟨hS,hG⟩:=SymF.fg hS hF
 clear hF
 refine wp_cond_true (hK.ew 18) ?_
 refine wq hS hG hK (fun p4=>[.l 20 (.agg #[.bool true,.string s,.int .i64 x]) 0 0,.c (some 21) (cH W3.heap.size ra rb fun x9 y9=>.tuple #[.agg #[.bool u,x9,y9],.int .i64 0]),.v 19 (.tuple #[.agg #[.bool u,.slice (p4 1).A (p4 1).N (p4 1).C,.slice (p4 1).A' (p4 1).N' (p4 1).C'],.int .i64 0]),.v 22 (.agg #[.bool u,.slice (p4 1).A (p4 1).N (p4 1).C,.slice (p4 1).A' (p4 1).N' (p4 1).C']),.v 23 (.int .i64 0),.n 6 #[.bool false,.slice none 0 0,.slice none 0 0] 28,.p 1005 0 [.bool u,.slice (p4 1).A (p4 1).N (p4 1).C,.slice (p4 1).A' (p4 1).N' (p4 1).C'],.v 7 (.int .i64 0)]) (fun p4=>[(2,pT (p1 0).N 0),(3,pT (p1 1).N 0),(4,.bool false),(5,.bool true),(6,pT (p4 5).N 0),(7,.int .i64 0)]) (fun p4=>?_) (fun p4 W4 T hF hK=>?_)
 ·refine okl ?_
  refine okc (fun W cx=>as_h cx.hb (unhide R1 _)) ?_
  iterate 3 refine okv ?_
  refine okn ?_
  refine okp ?_
  refine okv ?_
  exact ok_nil
 replace hS:=SymF.fc hS hF [0,1,1005] [⟨(p1 0).N,#[.bool true,.string s,.int .i64 x],23,true⟩,⟨(p1 1).N,#[.bool g,.slice a n c,.slice b k l],28,true⟩,⟨(p4 5).N,#[.bool u,.slice (p4 1).A (p4 1).N (p4 1).C,.slice (p4 1).A' (p4 1).N' (p4 1).C'],28,true⟩]
 replace hG:GsAt (gM W3.heap.size (p4 1).A (p4 1).N (p4 1).C ra :: gM W3.heap.size (p4 1).A' (p4 1).N' (p4 1).C' rb :: _) W4:=⟨And.left (hF.fx 1),And.right (hF.fx 1),hF.gx⟩
 clear hF
 refine wq hS hG hK (fun p5=>[.l 25 (.agg #[.bool u,.slice (p4 1).A (p4 1).N (p4 1).C,.slice (p4 1).A' (p4 1).N' (p4 1).C']) 2 0,.c (some 26) (cV (.tuple #[.agg #[.bool nz,.string s,.int .i64 x],.bool true,.int .i64 0])),.v 24 (.tuple #[.agg #[.bool nz,.string s,.int .i64 x],.bool true,.int .i64 0]),.v 27 (.agg #[.bool nz,.string s,.int .i64 x]),.v 28 (.bool true),.v 29 (.int .i64 0),.n 8 #[.bool false,.string ⟨#[]⟩,.int .i64 0] 23,.p 1006 0 [.bool nz,.string s,.int .i64 x],.v 9 (.bool true),.v 10 (.int .i64 0)]) (fun p5=>[(2,pT (p1 0).N 0),(3,pT (p1 1).N 0),(4,.bool false),(5,.bool true),(7,.int .i64 0),(8,pT (p5 6).N 0),(9,.bool true),(10,.int .i64 0)]) (fun p5=>?_) (fun p5 W5 T hF hK=>?_)
 ·refine okl ?_
  refine okc (fun W cx=>as_v (unhide O1 _ _ _ (p4 1).C _ _ (p4 1).C' (Mine.num cx.G.1) (Mine.num cx.G.2.1))) ?_
  iterate 4 refine okv ?_
  refine okn ?_
  refine okp ?_
  iterate 2 refine okv ?_
  exact ok_nil
 replace hS:=SymF.fc hS hF [0,1,1006] [⟨(p1 0).N,#[.bool true,.string s,.int .i64 x],23,true⟩,⟨(p1 1).N,#[.bool g,.slice a n c,.slice b k l],28,true⟩,⟨(p5 6).N,#[.bool nz,.string s,.int .i64 x],23,true⟩]
 replace hG:=hF.gx
 clear hF
 refine wq hS hG hK (fun p6=>[.v 30 (.int .i64 0),.v 31 (.bool false),.v 32 (.bool false),.v 33 (.int .i64 0),.v 34 (.bool false),.v 35 (.bool false),.v 36 (.bool false),.v 37 (.bool true),.v 38 (.bool false),.v 39 (.bool false),.v 40 (.bool false),.v 41 (pT (p5 6).N 1),.l 42 (.string s) 2 1,.v 43 (pT (p1 0).N 1),.l 44 (.string s) 0 1,.v 45 (.bool false),.v 46 (.bool false),.v 47 (.bool false),.v 48 (pT (p5 6).N 2),.l 49 (.int .i64 x) 2 2,.v 50 (pT (p1 0).N 2),.l 51 (.int .i64 x) 0 2,.v 52 (.bool false),.v 53 (.bool false),.v 54 (.bool false),.v 55 (pT (p5 6).N 0),.l 56 (.bool nz) 2 0,.v 57 (pT (p1 0).N 0),.l 58 (.bool true) 0 0,.v 59 (.bool true),.v 60 (pT (p1 0).N 1),.l 61 (.string s) 0 1,.v 62 (.bool nz),.v 63 (.bool nz),.v 64 (.bool false),.v 65 (.bool false)]) (fun p6=>[(3,pT (p1 1).N 0),(4,.bool false),(5,.bool true),(65,.bool false)]) (fun p6=>?_) (fun p6 W6 T hF hK=>?_)
 ·iterate 12 refine okv ?_
  refine okl ?_
  refine okv ?_
  refine okl ?_
  refine okvb (bne_self_eq_false s.toList) ?_
  iterate 3 refine okv ?_
  refine okl ?_
  refine okv ?_
  refine okl ?_
  refine okvb (bne_self_eq_false x) ?_
  iterate 3 refine okv ?_
  refine okl ?_
  refine okv ?_
  refine okl ?_
  iterate 2 refine okv ?_
  refine okl ?_
  refine okvb (hz) ?_
  refine okv ?_
  refine okvb (bne_self_eq_false nz) ?_
  refine okv ?_
  exact ok_nil
 obtain ⟨hS,hG⟩:=SymF.fg hS hF
 clear hF
 refine wp_cond_false (hK.ew 65) (wp_skip ?_)
 refine then_n (wp_seq ?_)
 refine wq hS hG hK (fun p7=>[.v 66 (pT (p1 1).N 2),.v 67 (pT (p1 1).N 2),.l 68 (.slice b k l) 1 2,.v 69 (.int .i64 (k:Int)),.v 70 (.bool false)]) (fun p7=>[(3,pT (p1 1).N 0),(4,.bool false),(5,.bool true),(70,.bool false)]) (fun p7=>?_) (fun p7 W7 T hF hK=>?_)
 ·iterate 2 refine okv ?_
  refine okl ?_
  refine okv ?_
  refine okvb (decide_eq_false (show ¬ (k:Int) > 20 by omega)) ?_
  exact ok_nil
 obtain ⟨hS,hG⟩:=SymF.fg hS hF
 clear hF
 refine wp_cond_false (hK.ew 70) (wp_skip (then_n ?_))
 refine wq hS hG hK (fun p8=>[.l 73 (.agg #[.bool g,.slice a n c,.slice b k l]) 1 0,.c (some 74) (cV (.tuple #[.agg #[.bool false,.string ⟨#[]⟩,.int .i64 0],.bool false,.int .i64 e1])),.v 72 (.tuple #[.agg #[.bool false,.string ⟨#[]⟩,.int .i64 0],.bool false,.int .i64 e1]),.v 75 (.agg #[.bool false,.string ⟨#[]⟩,.int .i64 0]),.v 76 (.bool false),.v 77 (.int .i64 e1),.n 11 #[.bool false,.string ⟨#[]⟩,.int .i64 0] 23,.p 1006 0 [.bool false,.string ⟨#[]⟩,.int .i64 0],.v 12 (.bool false),.v 13 (.int .i64 e1)]) (fun p8=>[(3,pT (p1 1).N 0),(4,.bool false),(5,.bool true),(11,pT (p8 6).N 0),(12,.bool false),(13,.int .i64 e1)]) (fun p8=>?_) (fun p8 W8 T hF hK=>?_)
 ·refine okl ?_
  refine okc (fun W cx=>as_v (unhide O2 _ cx.fr)) ?_
  iterate 4 refine okv ?_
  refine okn ?_
  refine okp ?_
  iterate 2 refine okv ?_
  exact ok_nil
 replace hS:=SymF.fc hS hF [1,1006] [⟨(p1 1).N,#[.bool g,.slice a n c,.slice b k l],28,true⟩,⟨(p8 6).N,#[.bool false,.string ⟨#[]⟩,.int .i64 0],23,true⟩]
 replace hG:=hF.gx
 clear hF
 refine wp_seq ?_
 refine wq hS hG hK (fun p9=>[.v 78 (.int .i64 e1),.v 79 (.bool true),.v 80 (.bool true),.k (some 81),.k (some 82),.v 83 (.bool true)]) (fun p9=>[(3,pT (p1 1).N 0),(4,.bool false),(5,.bool true),(11,pT (p8 6).N 0),(12,.bool false),(83,.bool true)]) (fun p9=>?_) (fun p9 W9 T hF hK=>?_)
 ·refine okv ?_
  refine okvb (bne_iff_ne.2 he) ?_
  refine okv ?_
  iterate 2 refine okk ?_
  refine okv ?_
  exact ok_nil
 obtain ⟨hS,hG⟩:=SymF.fg hS hF
 clear hF
 refine wp_cond_true (hK.ew 83) ?_
 refine wq hS hG hK (fun p10=>[.v 84 (.bool true),.v 85 (.bool true),.l 86 (.agg #[.bool false,.string ⟨#[]⟩,.int .i64 0]) 1 0,.v 87 (.agg #[.bool false,.string ⟨#[]⟩,.int .i64 0]),.v 88 (.bool true),.v 89 (.bool true),.v 90 (.bool true),.v 91 (.bool false),.v 92 (.bool true),.v 93 (.bool true),.v 4 (.bool true)]) (fun p10=>[(3,pT (p1 1).N 0),(4,.bool true),(5,.bool true),(11,pT (p8 6).N 0)]) (fun p10=>?_) (fun p10 W10 T hF hK=>?_)
 ·iterate 2 refine okv ?_
  refine okl ?_
  refine okv ?_
  refine ok_vr (dz_eq) (by kernel_rfl) ?_
  iterate 6 refine okv ?_
  exact ok_nil
 obtain ⟨hS,hG⟩:=SymF.fg hS hF
 clear hF
 refine wp_ret ?_
 refine then_r ?_
 exact sym_end hS hK (.bool true) [] [] (by kernel_rfl) (by kernel_rfl) ⟨rfl,hS.fr⟩
theorem dbk_ti (w:World) (s:ByteArray) (x:Int) (g:Bool) (a b:Option Addr) (n c k l:Nat) (u:Bool) (ra rb:Nat) (nz:Bool) (HA:Hid (∀ W:World,Calls Tryz.prog 5 #[] W fun e W'=>e = .returned (.bool true)∧Below W.heap.size W W')) (K1:Hid (∀ W:World,Calls Tryz.prog 6 #[.agg #[.bool true,.string s,.int .i64 x],.int .i64 800,.int .i64 1500] W fun e W'=>e = .returned (.bool true)∧Below W.heap.size W W')) (R1:Hid (∀ W:World,Calls Tryz.prog 7 #[.agg #[.bool true,.string s,.int .i64 x]] W fun en W'=>(∃ A N C A' N' C',en = .returned (.tuple #[.agg #[.bool u,.slice A N C,.slice A' N' C'],.int .i64 0])∧Mine W' W.heap.size A N C ra∧Mine W' W.heap.size A' N' C' rb)∧Below W.heap.size W W')) (O1:Hid (∀ (W:World) (a:Option Addr) (n c:Nat) (b:Option Addr) (k l:Nat),Num W a n ra→Num W b k rb→Calls Tryz.prog 8 #[.agg #[.bool u,.slice a n c,.slice b k l]] W fun e W'=>e = .returned (.tuple #[.agg #[.bool nz,.string s,.int .i64 x],.bool true,.int .i64 0])∧Below W.heap.size W W')) (hz:(s.toList != (ByteArray.mk #[]).toList) = nz) (hk:k≤20) (O2:Hid (∀ W:World,Below w.heap.size w W→Calls Tryz.prog 8 #[.agg #[.bool g,.slice a n c,.slice b k l]] W fun e W'=>e = .returned (.tuple #[.agg #[.bool false,.string ⟨#[]⟩,.int .i64 0],.bool false,.int .i64 0])∧Below W.heap.size W W'))  :
  Calls Tryz.prog 3 #[.agg #[.bool true,.string s,.int .i64 x],.agg #[.bool g,.slice a n c,.slice b k l]] w fun en w'=>en = .returned (.bool true)∧Below w.heap.size w w':=by
 refine calls_sym Tryz.func3 rfl (by kernel_rfl) fun T hK=>?_
 replace hK:Kn T _ [(0,.agg #[.bool true,.string s,.int .i64 x]),(1,.agg #[.bool g,.slice a n c,.slice b k l])]:=hK
 have hS:=Fb.begin w
 have hG:GsAt [] w:=trivial
 refine wq hS hG hK (fun p1=>[.n 2 #[.bool true,.string s,.int .i64 x] 23,.n 3 #[.bool g,.slice a n c,.slice b k l] 28,.v 4 (.bool false)]) (fun p1=>[(2,pT (p1 0).N 0),(3,pT (p1 1).N 0),(4,.bool false)]) (fun p1=>?_) (fun p1 W1 T hF hK=>?_)
 ·iterate 2 refine okn ?_
  refine okv ?_
  exact ok_nil
 replace hS:=SymF.fc hS hF [1000,1001] [⟨(p1 0).N,#[.bool true,.string s,.int .i64 x],23,true⟩,⟨(p1 1).N,#[.bool g,.slice a n c,.slice b k l],28,true⟩]
 replace hG:=hF.gx
 clear hF
 refine wq hS hG hK (fun p2=>[.c (some 16) (cV (.bool true)),.v 5 (.bool true)]) (fun p2=>[(2,pT (p1 0).N 0),(3,pT (p1 1).N 0),(4,.bool false),(5,.bool true)]) (fun p2=>?_) (fun p2 W2 T hF hK=>?_)
 ·refine okc (fun W cx=>as_v (unhide HA _)) ?_
  refine okv ?_
  exact ok_nil
 obtain ⟨hS,hG⟩:=SymF.fg hS hF
 clear hF
 refine wp_seq ?_
 refine wq hS hG hK (fun p3=>[.l 17 (.agg #[.bool true,.string s,.int .i64 x]) 0 0,.c (some 18) (cV (.bool true))]) (fun p3=>[(2,pT (p1 0).N 0),(3,pT (p1 1).N 0),(4,.bool false),(5,.bool true),(18,.bool true)]) (fun p3=>?_) (fun p3 W3 T hF hK=>?_)
 ·refine okl ?_
  refine okc (fun W cx=>as_v (unhide K1 _)) ?_
  exact ok_nil
 obtain ⟨hS,hG⟩:=SymF.fg hS hF
 clear hF
 refine wp_cond_true (hK.ew 18) ?_
 refine wq hS hG hK (fun p4=>[.l 20 (.agg #[.bool true,.string s,.int .i64 x]) 0 0,.c (some 21) (cH W3.heap.size ra rb fun x9 y9=>.tuple #[.agg #[.bool u,x9,y9],.int .i64 0]),.v 19 (.tuple #[.agg #[.bool u,.slice (p4 1).A (p4 1).N (p4 1).C,.slice (p4 1).A' (p4 1).N' (p4 1).C'],.int .i64 0]),.v 22 (.agg #[.bool u,.slice (p4 1).A (p4 1).N (p4 1).C,.slice (p4 1).A' (p4 1).N' (p4 1).C']),.v 23 (.int .i64 0),.n 6 #[.bool false,.slice none 0 0,.slice none 0 0] 28,.p 1005 0 [.bool u,.slice (p4 1).A (p4 1).N (p4 1).C,.slice (p4 1).A' (p4 1).N' (p4 1).C'],.v 7 (.int .i64 0)]) (fun p4=>[(2,pT (p1 0).N 0),(3,pT (p1 1).N 0),(4,.bool false),(5,.bool true),(6,pT (p4 5).N 0),(7,.int .i64 0)]) (fun p4=>?_) (fun p4 W4 T hF hK=>?_)
 ·refine okl ?_
  refine okc (fun W cx=>as_h cx.hb (unhide R1 _)) ?_
  iterate 3 refine okv ?_
  refine okn ?_
  refine okp ?_
  refine okv ?_
  exact ok_nil
 replace hS:=SymF.fc hS hF [0,1,1005] [⟨(p1 0).N,#[.bool true,.string s,.int .i64 x],23,true⟩,⟨(p1 1).N,#[.bool g,.slice a n c,.slice b k l],28,true⟩,⟨(p4 5).N,#[.bool u,.slice (p4 1).A (p4 1).N (p4 1).C,.slice (p4 1).A' (p4 1).N' (p4 1).C'],28,true⟩]
 replace hG:GsAt (gM W3.heap.size (p4 1).A (p4 1).N (p4 1).C ra :: gM W3.heap.size (p4 1).A' (p4 1).N' (p4 1).C' rb :: _) W4:=⟨And.left (hF.fx 1),And.right (hF.fx 1),hF.gx⟩
 clear hF
 refine wq hS hG hK (fun p5=>[.l 25 (.agg #[.bool u,.slice (p4 1).A (p4 1).N (p4 1).C,.slice (p4 1).A' (p4 1).N' (p4 1).C']) 2 0,.c (some 26) (cV (.tuple #[.agg #[.bool nz,.string s,.int .i64 x],.bool true,.int .i64 0])),.v 24 (.tuple #[.agg #[.bool nz,.string s,.int .i64 x],.bool true,.int .i64 0]),.v 27 (.agg #[.bool nz,.string s,.int .i64 x]),.v 28 (.bool true),.v 29 (.int .i64 0),.n 8 #[.bool false,.string ⟨#[]⟩,.int .i64 0] 23,.p 1006 0 [.bool nz,.string s,.int .i64 x],.v 9 (.bool true),.v 10 (.int .i64 0)]) (fun p5=>[(2,pT (p1 0).N 0),(3,pT (p1 1).N 0),(4,.bool false),(5,.bool true),(7,.int .i64 0),(8,pT (p5 6).N 0),(9,.bool true),(10,.int .i64 0)]) (fun p5=>?_) (fun p5 W5 T hF hK=>?_)
 ·refine okl ?_
  refine okc (fun W cx=>as_v (unhide O1 _ _ _ (p4 1).C _ _ (p4 1).C' (Mine.num cx.G.1) (Mine.num cx.G.2.1))) ?_
  iterate 4 refine okv ?_
  refine okn ?_
  refine okp ?_
  iterate 2 refine okv ?_
  exact ok_nil
 replace hS:=SymF.fc hS hF [0,1,1006] [⟨(p1 0).N,#[.bool true,.string s,.int .i64 x],23,true⟩,⟨(p1 1).N,#[.bool g,.slice a n c,.slice b k l],28,true⟩,⟨(p5 6).N,#[.bool nz,.string s,.int .i64 x],23,true⟩]
 replace hG:=hF.gx
 clear hF
 refine wq hS hG hK (fun p6=>[.v 30 (.int .i64 0),.v 31 (.bool false),.v 32 (.bool false),.v 33 (.int .i64 0),.v 34 (.bool false),.v 35 (.bool false),.v 36 (.bool false),.v 37 (.bool true),.v 38 (.bool false),.v 39 (.bool false),.v 40 (.bool false),.v 41 (pT (p5 6).N 1),.l 42 (.string s) 2 1,.v 43 (pT (p1 0).N 1),.l 44 (.string s) 0 1,.v 45 (.bool false),.v 46 (.bool false),.v 47 (.bool false),.v 48 (pT (p5 6).N 2),.l 49 (.int .i64 x) 2 2,.v 50 (pT (p1 0).N 2),.l 51 (.int .i64 x) 0 2,.v 52 (.bool false),.v 53 (.bool false),.v 54 (.bool false),.v 55 (pT (p5 6).N 0),.l 56 (.bool nz) 2 0,.v 57 (pT (p1 0).N 0),.l 58 (.bool true) 0 0,.v 59 (.bool true),.v 60 (pT (p1 0).N 1),.l 61 (.string s) 0 1,.v 62 (.bool nz),.v 63 (.bool nz),.v 64 (.bool false),.v 65 (.bool false)]) (fun p6=>[(3,pT (p1 1).N 0),(4,.bool false),(5,.bool true),(65,.bool false)]) (fun p6=>?_) (fun p6 W6 T hF hK=>?_)
 ·iterate 12 refine okv ?_
  refine okl ?_
  refine okv ?_
  refine okl ?_
  refine okvb (bne_self_eq_false s.toList) ?_
  iterate 3 refine okv ?_
  refine okl ?_
  refine okv ?_
  refine okl ?_
  refine okvb (bne_self_eq_false x) ?_
  iterate 3 refine okv ?_
  refine okl ?_
  refine okv ?_
  refine okl ?_
  iterate 2 refine okv ?_
  refine okl ?_
  refine okvb (hz) ?_
  refine okv ?_
  refine okvb (bne_self_eq_false nz) ?_
  refine okv ?_
  exact ok_nil
 obtain ⟨hS,hG⟩:=SymF.fg hS hF
 clear hF
 refine wp_cond_false (hK.ew 65) (wp_skip ?_)
 refine then_n (wp_seq ?_)
 refine wq hS hG hK (fun p7=>[.v 66 (pT (p1 1).N 2),.v 67 (pT (p1 1).N 2),.l 68 (.slice b k l) 1 2,.v 69 (.int .i64 (k:Int)),.v 70 (.bool false)]) (fun p7=>[(3,pT (p1 1).N 0),(4,.bool false),(5,.bool true),(70,.bool false)]) (fun p7=>?_) (fun p7 W7 T hF hK=>?_)
 ·iterate 2 refine okv ?_
  refine okl ?_
  refine okv ?_
  refine okvb (decide_eq_false (show ¬ (k:Int) > 20 by omega)) ?_
  exact ok_nil
 obtain ⟨hS,hG⟩:=SymF.fg hS hF
 clear hF
 refine wp_cond_false (hK.ew 70) (wp_skip (then_n ?_))
 refine wq hS hG hK (fun p8=>[.l 73 (.agg #[.bool g,.slice a n c,.slice b k l]) 1 0,.c (some 74) (cV (.tuple #[.agg #[.bool false,.string ⟨#[]⟩,.int .i64 0],.bool false,.int .i64 0])),.v 72 (.tuple #[.agg #[.bool false,.string ⟨#[]⟩,.int .i64 0],.bool false,.int .i64 0]),.v 75 (.agg #[.bool false,.string ⟨#[]⟩,.int .i64 0]),.v 76 (.bool false),.v 77 (.int .i64 0),.n 11 #[.bool false,.string ⟨#[]⟩,.int .i64 0] 23,.p 1006 0 [.bool false,.string ⟨#[]⟩,.int .i64 0],.v 12 (.bool false),.v 13 (.int .i64 0)]) (fun p8=>[(3,pT (p1 1).N 0),(4,.bool false),(5,.bool true),(11,pT (p8 6).N 0),(12,.bool false),(13,.int .i64 0)]) (fun p8=>?_) (fun p8 W8 T hF hK=>?_)
 ·refine okl ?_
  refine okc (fun W cx=>as_v (unhide O2 _ cx.fr)) ?_
  iterate 4 refine okv ?_
  refine okn ?_
  refine okp ?_
  iterate 2 refine okv ?_
  exact ok_nil
 replace hS:=SymF.fc hS hF [1,1006] [⟨(p1 1).N,#[.bool g,.slice a n c,.slice b k l],28,true⟩,⟨(p8 6).N,#[.bool false,.string ⟨#[]⟩,.int .i64 0],23,true⟩]
 replace hG:=hF.gx
 clear hF
 refine wp_seq ?_
 refine wq hS hG hK (fun p9=>[.v 78 (.int .i64 0),.v 79 (.bool false),.v 80 (.bool false),.v 81 (.bool false),.v 82 (.bool true),.v 83 (.bool true)]) (fun p9=>[(3,pT (p1 1).N 0),(4,.bool false),(5,.bool true),(11,pT (p8 6).N 0),(12,.bool false),(83,.bool true)]) (fun p9=>?_) (fun p9 W9 T hF hK=>?_)
 ·iterate 6 refine okv ?_
  exact ok_nil
 obtain ⟨hS,hG⟩:=SymF.fg hS hF
 clear hF
 refine wp_cond_true (hK.ew 83) ?_
 refine wq hS hG hK (fun p10=>[.v 84 (.bool true),.v 85 (.bool true),.l 86 (.agg #[.bool false,.string ⟨#[]⟩,.int .i64 0]) 1 0,.v 87 (.agg #[.bool false,.string ⟨#[]⟩,.int .i64 0]),.v 88 (.bool true),.v 89 (.bool true),.v 90 (.bool true),.v 91 (.bool false),.v 92 (.bool true),.v 93 (.bool true),.v 4 (.bool true)]) (fun p10=>[(3,pT (p1 1).N 0),(4,.bool true),(5,.bool true),(11,pT (p8 6).N 0)]) (fun p10=>?_) (fun p10 W10 T hF hK=>?_)
 ·iterate 2 refine okv ?_
  refine okl ?_
  refine okv ?_
  refine ok_vr (dz_eq) (by kernel_rfl) ?_
  iterate 6 refine okv ?_
  exact ok_nil
 obtain ⟨hS,hG⟩:=SymF.fg hS hF
 clear hF
 refine wp_ret ?_
 refine then_r ?_
 exact sym_end hS hK (.bool true) [] [] (by kernel_rfl) (by kernel_rfl) ⟨rfl,hS.fr⟩
theorem dbk_tc (w:World) (s:ByteArray) (x:Int) (g:Bool) (a b:Option Addr) (n c k l:Nat) (u:Bool) (ra rb:Nat) (nz:Bool) (p d:Nat) (g3:Bool) (s3:ByteArray) (x3:Int) (HA:Hid (∀ W:World,Calls Tryz.prog 5 #[] W fun e W'=>e = .returned (.bool true)∧Below W.heap.size W W')) (K1:Hid (∀ W:World,Calls Tryz.prog 6 #[.agg #[.bool true,.string s,.int .i64 x],.int .i64 800,.int .i64 1500] W fun e W'=>e = .returned (.bool true)∧Below W.heap.size W W')) (R1:Hid (∀ W:World,Calls Tryz.prog 7 #[.agg #[.bool true,.string s,.int .i64 x]] W fun en W'=>(∃ A N C A' N' C',en = .returned (.tuple #[.agg #[.bool u,.slice A N C,.slice A' N' C'],.int .i64 0])∧Mine W' W.heap.size A N C ra∧Mine W' W.heap.size A' N' C' rb)∧Below W.heap.size W W')) (O1:Hid (∀ (W:World) (a:Option Addr) (n c:Nat) (b:Option Addr) (k l:Nat),Num W a n ra→Num W b k rb→Calls Tryz.prog 8 #[.agg #[.bool u,.slice a n c,.slice b k l]] W fun e W'=>e = .returned (.tuple #[.agg #[.bool nz,.string s,.int .i64 x],.bool true,.int .i64 0])∧Below W.heap.size W W')) (hz:(s.toList != (ByteArray.mk #[]).toList) = nz) (hk:k≤20) (h1:Num w a n p) (h2:Num w b k d) (O2:Hid (∀ W:World,Below w.heap.size w W→Calls Tryz.prog 8 #[.agg #[.bool g,.slice a n c,.slice b k l]] W fun e W'=>e = .returned (.tuple #[.agg #[.bool g3,.string s3,.int .i64 x3],.bool true,.int .i64 0])∧Below W.heap.size W W')) (R2:Hid (∀ W:World,Calls Tryz.prog 7 #[.agg #[.bool g3,.string s3,.int .i64 x3]] W fun en W'=>(∃ A N C A' N' C',en = .returned (.tuple #[.agg #[.bool g,.slice A N C,.slice A' N' C'],.int .i64 0])∧Mine W' W.heap.size A N C p∧Mine W' W.heap.size A' N' C' d)∧Below W.heap.size W W')) (S2:Hid (∀ (W:World) (a:Option Addr) (n c:Nat) (b:Option Addr) (k l:Nat) (a':Option Addr) (n' c':Nat) (b':Option Addr) (k' l':Nat),Num W a n p→Num W b k d→Num W a' n' p→Num W b' k' d→Calls Tryz.prog 9 #[.agg #[.bool g,.slice a n c,.slice b k l],.agg #[.bool g,.slice a' n' c',.slice b' k' l']] W fun e W'=>e = .returned (.bool true)∧Below W.heap.size W W'))  :
  Calls Tryz.prog 3 #[.agg #[.bool true,.string s,.int .i64 x],.agg #[.bool g,.slice a n c,.slice b k l]] w fun en w'=>en = .returned (.bool true)∧Below w.heap.size w w':=by
 refine calls_sym Tryz.func3 rfl (by kernel_rfl) fun T hK=>?_
 replace hK:Kn T _ [(0,.agg #[.bool true,.string s,.int .i64 x]),(1,.agg #[.bool g,.slice a n c,.slice b k l])]:=hK
 have hS:=Fb.begin w
 have hG:GsAt [gN a n p,gN b k d] w:=⟨h1,h2,trivial⟩
 refine wq hS hG hK (fun p1=>[.n 2 #[.bool true,.string s,.int .i64 x] 23,.n 3 #[.bool g,.slice a n c,.slice b k l] 28,.v 4 (.bool false)]) (fun p1=>[(2,pT (p1 0).N 0),(3,pT (p1 1).N 0),(4,.bool false)]) (fun p1=>?_) (fun p1 W1 T hF hK=>?_)
 ·iterate 2 refine okn ?_
  refine okv ?_
  exact ok_nil
 replace hS:=SymF.fc hS hF [1000,1001] [⟨(p1 0).N,#[.bool true,.string s,.int .i64 x],23,true⟩,⟨(p1 1).N,#[.bool g,.slice a n c,.slice b k l],28,true⟩]
 replace hG:=hF.gx
 clear hF
 refine wq hS hG hK (fun p2=>[.c (some 16) (cV (.bool true)),.v 5 (.bool true)]) (fun p2=>[(2,pT (p1 0).N 0),(3,pT (p1 1).N 0),(4,.bool false),(5,.bool true)]) (fun p2=>?_) (fun p2 W2 T hF hK=>?_)
 ·refine okc (fun W cx=>as_v (unhide HA _)) ?_
  refine okv ?_
  exact ok_nil
 obtain ⟨hS,hG⟩:=SymF.fg hS hF
 clear hF
 refine wp_seq ?_
 refine wq hS hG hK (fun p3=>[.l 17 (.agg #[.bool true,.string s,.int .i64 x]) 0 0,.c (some 18) (cV (.bool true))]) (fun p3=>[(2,pT (p1 0).N 0),(3,pT (p1 1).N 0),(4,.bool false),(5,.bool true),(18,.bool true)]) (fun p3=>?_) (fun p3 W3 T hF hK=>?_)
 ·refine okl ?_
  refine okc (fun W cx=>as_v (unhide K1 _)) ?_
  exact ok_nil
 obtain ⟨hS,hG⟩:=SymF.fg hS hF
 clear hF
 refine wp_cond_true (hK.ew 18) ?_
 refine wq hS hG hK (fun p4=>[.l 20 (.agg #[.bool true,.string s,.int .i64 x]) 0 0,.c (some 21) (cH W3.heap.size ra rb fun x9 y9=>.tuple #[.agg #[.bool u,x9,y9],.int .i64 0]),.v 19 (.tuple #[.agg #[.bool u,.slice (p4 1).A (p4 1).N (p4 1).C,.slice (p4 1).A' (p4 1).N' (p4 1).C'],.int .i64 0]),.v 22 (.agg #[.bool u,.slice (p4 1).A (p4 1).N (p4 1).C,.slice (p4 1).A' (p4 1).N' (p4 1).C']),.v 23 (.int .i64 0),.n 6 #[.bool false,.slice none 0 0,.slice none 0 0] 28,.p 1005 0 [.bool u,.slice (p4 1).A (p4 1).N (p4 1).C,.slice (p4 1).A' (p4 1).N' (p4 1).C'],.v 7 (.int .i64 0)]) (fun p4=>[(2,pT (p1 0).N 0),(3,pT (p1 1).N 0),(4,.bool false),(5,.bool true),(6,pT (p4 5).N 0),(7,.int .i64 0)]) (fun p4=>?_) (fun p4 W4 T hF hK=>?_)
 ·refine okl ?_
  refine okc (fun W cx=>as_h cx.hb (unhide R1 _)) ?_
  iterate 3 refine okv ?_
  refine okn ?_
  refine okp ?_
  refine okv ?_
  exact ok_nil
 replace hS:=SymF.fc hS hF [0,1,1005] [⟨(p1 0).N,#[.bool true,.string s,.int .i64 x],23,true⟩,⟨(p1 1).N,#[.bool g,.slice a n c,.slice b k l],28,true⟩,⟨(p4 5).N,#[.bool u,.slice (p4 1).A (p4 1).N (p4 1).C,.slice (p4 1).A' (p4 1).N' (p4 1).C'],28,true⟩]
 replace hG:GsAt (gM W3.heap.size (p4 1).A (p4 1).N (p4 1).C ra :: gM W3.heap.size (p4 1).A' (p4 1).N' (p4 1).C' rb :: _) W4:=⟨And.left (hF.fx 1),And.right (hF.fx 1),hF.gx⟩
 clear hF
 refine wq hS hG hK (fun p5=>[.l 25 (.agg #[.bool u,.slice (p4 1).A (p4 1).N (p4 1).C,.slice (p4 1).A' (p4 1).N' (p4 1).C']) 2 0,.c (some 26) (cV (.tuple #[.agg #[.bool nz,.string s,.int .i64 x],.bool true,.int .i64 0])),.v 24 (.tuple #[.agg #[.bool nz,.string s,.int .i64 x],.bool true,.int .i64 0]),.v 27 (.agg #[.bool nz,.string s,.int .i64 x]),.v 28 (.bool true),.v 29 (.int .i64 0),.n 8 #[.bool false,.string ⟨#[]⟩,.int .i64 0] 23,.p 1006 0 [.bool nz,.string s,.int .i64 x],.v 9 (.bool true),.v 10 (.int .i64 0)]) (fun p5=>[(2,pT (p1 0).N 0),(3,pT (p1 1).N 0),(4,.bool false),(5,.bool true),(7,.int .i64 0),(8,pT (p5 6).N 0),(9,.bool true),(10,.int .i64 0)]) (fun p5=>?_) (fun p5 W5 T hF hK=>?_)
 ·refine okl ?_
  refine okc (fun W cx=>as_v (unhide O1 _ _ _ (p4 1).C _ _ (p4 1).C' (Mine.num cx.G.1) (Mine.num cx.G.2.1))) ?_
  iterate 4 refine okv ?_
  refine okn ?_
  refine okp ?_
  iterate 2 refine okv ?_
  exact ok_nil
 replace hS:=SymF.fc hS hF [0,1,1006] [⟨(p1 0).N,#[.bool true,.string s,.int .i64 x],23,true⟩,⟨(p1 1).N,#[.bool g,.slice a n c,.slice b k l],28,true⟩,⟨(p5 6).N,#[.bool nz,.string s,.int .i64 x],23,true⟩]
 replace hG:=hF.gx
 clear hF
 refine wq hS hG hK (fun p6=>[.v 30 (.int .i64 0),.v 31 (.bool false),.v 32 (.bool false),.v 33 (.int .i64 0),.v 34 (.bool false),.v 35 (.bool false),.v 36 (.bool false),.v 37 (.bool true),.v 38 (.bool false),.v 39 (.bool false),.v 40 (.bool false),.v 41 (pT (p5 6).N 1),.l 42 (.string s) 2 1,.v 43 (pT (p1 0).N 1),.l 44 (.string s) 0 1,.v 45 (.bool false),.v 46 (.bool false),.v 47 (.bool false),.v 48 (pT (p5 6).N 2),.l 49 (.int .i64 x) 2 2,.v 50 (pT (p1 0).N 2),.l 51 (.int .i64 x) 0 2,.v 52 (.bool false),.v 53 (.bool false),.v 54 (.bool false),.v 55 (pT (p5 6).N 0),.l 56 (.bool nz) 2 0,.v 57 (pT (p1 0).N 0),.l 58 (.bool true) 0 0,.v 59 (.bool true),.v 60 (pT (p1 0).N 1),.l 61 (.string s) 0 1,.v 62 (.bool nz),.v 63 (.bool nz),.v 64 (.bool false),.v 65 (.bool false)]) (fun p6=>[(3,pT (p1 1).N 0),(4,.bool false),(5,.bool true),(65,.bool false)]) (fun p6=>?_) (fun p6 W6 T hF hK=>?_)
 ·iterate 12 refine okv ?_
  refine okl ?_
  refine okv ?_
  refine okl ?_
  refine okvb (bne_self_eq_false s.toList) ?_
  iterate 3 refine okv ?_
  refine okl ?_
  refine okv ?_
  refine okl ?_
  refine okvb (bne_self_eq_false x) ?_
  iterate 3 refine okv ?_
  refine okl ?_
  refine okv ?_
  refine okl ?_
  iterate 2 refine okv ?_
  refine okl ?_
  refine okvb (hz) ?_
  refine okv ?_
  refine okvb (bne_self_eq_false nz) ?_
  refine okv ?_
  exact ok_nil
 obtain ⟨hS,hG⟩:=SymF.fg hS hF
 clear hF
 refine wp_cond_false (hK.ew 65) (wp_skip ?_)
 refine then_n (wp_seq ?_)
 refine wq hS hG hK (fun p7=>[.v 66 (pT (p1 1).N 2),.v 67 (pT (p1 1).N 2),.l 68 (.slice b k l) 1 2,.v 69 (.int .i64 (k:Int)),.v 70 (.bool false)]) (fun p7=>[(3,pT (p1 1).N 0),(4,.bool false),(5,.bool true),(70,.bool false)]) (fun p7=>?_) (fun p7 W7 T hF hK=>?_)
 ·iterate 2 refine okv ?_
  refine okl ?_
  refine okv ?_
  refine okvb (decide_eq_false (show ¬ (k:Int) > 20 by omega)) ?_
  exact ok_nil
 obtain ⟨hS,hG⟩:=SymF.fg hS hF
 clear hF
 refine wp_cond_false (hK.ew 70) (wp_skip (then_n ?_))
 refine wq hS hG hK (fun p8=>[.l 73 (.agg #[.bool g,.slice a n c,.slice b k l]) 1 0,.c (some 74) (cV (.tuple #[.agg #[.bool g3,.string s3,.int .i64 x3],.bool true,.int .i64 0])),.v 72 (.tuple #[.agg #[.bool g3,.string s3,.int .i64 x3],.bool true,.int .i64 0]),.v 75 (.agg #[.bool g3,.string s3,.int .i64 x3]),.v 76 (.bool true),.v 77 (.int .i64 0),.n 11 #[.bool false,.string ⟨#[]⟩,.int .i64 0] 23,.p 1006 0 [.bool g3,.string s3,.int .i64 x3],.v 12 (.bool true),.v 13 (.int .i64 0)]) (fun p8=>[(3,pT (p1 1).N 0),(4,.bool false),(5,.bool true),(11,pT (p8 6).N 0),(12,.bool true),(13,.int .i64 0)]) (fun p8=>?_) (fun p8 W8 T hF hK=>?_)
 ·refine okl ?_
  refine okc (fun W cx=>as_v (unhide O2 _ cx.fr)) ?_
  iterate 4 refine okv ?_
  refine okn ?_
  refine okp ?_
  iterate 2 refine okv ?_
  exact ok_nil
 replace hS:=SymF.fc hS hF [1,1006] [⟨(p1 1).N,#[.bool g,.slice a n c,.slice b k l],28,true⟩,⟨(p8 6).N,#[.bool g3,.string s3,.int .i64 x3],23,true⟩]
 replace hG:=hF.gx
 clear hF
 refine wp_seq ?_
 refine wq hS hG hK (fun p9=>[.v 78 (.int .i64 0),.v 79 (.bool false),.v 80 (.bool false),.v 81 (.bool true),.v 82 (.bool false),.v 83 (.bool false)]) (fun p9=>[(3,pT (p1 1).N 0),(4,.bool false),(5,.bool true),(11,pT (p8 6).N 0),(12,.bool true),(83,.bool false)]) (fun p9=>?_) (fun p9 W9 T hF hK=>?_)
 ·iterate 6 refine okv ?_
  exact ok_nil
 obtain ⟨hS,hG⟩:=SymF.fg hS hF
 clear hF
 refine wp_cond_false (hK.ew 83) (wp_skip (then_n ?_))
 refine wq hS hG hK (fun p10=>[.l 95 (.agg #[.bool g3,.string s3,.int .i64 x3]) 1 0,.c (some 96) (cH W9.heap.size p d fun x9 y9=>.tuple #[.agg #[.bool g,x9,y9],.int .i64 0]),.v 94 (.tuple #[.agg #[.bool g,.slice (p10 1).A (p10 1).N (p10 1).C,.slice (p10 1).A' (p10 1).N' (p10 1).C'],.int .i64 0]),.v 97 (.agg #[.bool g,.slice (p10 1).A (p10 1).N (p10 1).C,.slice (p10 1).A' (p10 1).N' (p10 1).C']),.v 98 (.int .i64 0),.n 14 #[.bool false,.slice none 0 0,.slice none 0 0] 28,.p 1005 0 [.bool g,.slice (p10 1).A (p10 1).N (p10 1).C,.slice (p10 1).A' (p10 1).N' (p10 1).C'],.v 15 (.int .i64 0)]) (fun p10=>[(3,pT (p1 1).N 0),(4,.bool false),(5,.bool true),(11,pT (p8 6).N 0),(12,.bool true),(14,pT (p10 5).N 0),(15,.int .i64 0)]) (fun p10=>?_) (fun p10 W10 T hF hK=>?_)
 ·refine okl ?_
  refine okc (fun W cx=>as_h cx.hb (unhide R2 _)) ?_
  iterate 3 refine okv ?_
  refine okn ?_
  refine okp ?_
  refine okv ?_
  exact ok_nil
 replace hS:=SymF.fc hS hF [0,1,1005] [⟨(p1 1).N,#[.bool g,.slice a n c,.slice b k l],28,true⟩,⟨(p8 6).N,#[.bool g3,.string s3,.int .i64 x3],23,true⟩,⟨(p10 5).N,#[.bool g,.slice (p10 1).A (p10 1).N (p10 1).C,.slice (p10 1).A' (p10 1).N' (p10 1).C'],28,true⟩]
 replace hG:GsAt (gM W9.heap.size (p10 1).A (p10 1).N (p10 1).C p :: gM W9.heap.size (p10 1).A' (p10 1).N' (p10 1).C' d :: _) W10:=⟨And.left (hF.fx 1),And.right (hF.fx 1),hF.gx⟩
 clear hF
 refine wq hS hG hK (fun p11=>[.v 99 (.bool true),.v 100 (.bool true),.v 101 (.int .i64 0),.v 102 (.bool true),.v 103 (.bool true),.v 104 (.bool true),.l 105 (.agg #[.bool g,.slice (p10 1).A (p10 1).N (p10 1).C,.slice (p10 1).A' (p10 1).N' (p10 1).C']) 2 0,.l 106 (.agg #[.bool g,.slice a n c,.slice b k l]) 0 0,.c (some 107) (cV (.bool true)),.v 108 (.bool true),.v 4 (.bool true)]) (fun p11=>[(4,.bool true),(5,.bool true),(11,pT (p8 6).N 0),(12,.bool true)]) (fun p11=>?_) (fun p11 W11 T hF hK=>?_)
 ·iterate 6 refine okv ?_
  iterate 2 refine okl ?_
  refine okc (fun W cx=>as_v (unhide S2 _ _ _ (p10 1).C _ _ (p10 1).C' _ _ c _ _ l (Mine.num cx.G.1) (Mine.num cx.G.2.1) (cx.G.2.2.2.2.1) (cx.G.2.2.2.2.2.1))) ?_
  iterate 2 refine okv ?_
  exact ok_nil
 obtain ⟨hS,hG⟩:=SymF.fg hS hF
 clear hF
 refine wp_ret ?_
 exact sym_end hS hK (.bool true) [] [] (by kernel_rfl) (by kernel_rfl) ⟨rfl,hS.fr⟩
end Go.Proofs.YtpmmapoabbpaiaaGreat
