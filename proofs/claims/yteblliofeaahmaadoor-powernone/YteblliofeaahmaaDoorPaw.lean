/- Of what PowerNoneRow stands on: PwLeaf PwPrgW PwNonW PwNoneLaw. -/
import Derived.Test.YteblliofeaahmaaDoorPat
import Derived.Test.YteblliofeaahmaaDoorPau
import Derived.Test.YteblliofeaahmaaDoorPav
import Derived.Test.YteblliofeaahmaaDoorPak
import Derived.Test.YteblliofeaahmaaDoorPal
import Derived.Test.YteblliofeaahmaaDoorPah
import Derived.Test.YteblliofeaahmaaDoorPaf
namespace Go.Proofs.YteblliofeaahmaaDoor
open Go.RowKit
set_option maxHeartbeats 4000000
set_option maxRecDepth 100000
theorem of_is (w:World) (h l:Int) (x e:Int)  :
  Calls Tryd.prog 10 #[.int .u64 h,.int .u64 l,.int .i64 x,.int .i64 e] w fun en w'=>en = .returned (.agg #[.int .u64 h,.int .u64 l,.int .i64 x,.int .i64 e])∧Below w.heap.size w w':=by
 refine calls_sym Tryd.func10 rfl (by kernel_rfl) fun T hK=>?_
 replace hK:Kn T _ [(0,.int .u64 h),(1,.int .u64 l),(2,.int .i64 x),(3,.int .i64 e)]:=hK
 have hS:=Fb.begin w
 have hG:GsAt [] w:=trivial
 refine wp_symQ hS hG hK (fun p1=>[.n 8 #[.int .u64 0,.int .u64 0,.int .i64 0,.int .i64 0] 29]) (fun p1=>[(0,.int .u64 h),(1,.int .u64 l),(2,.int .i64 x),(3,.int .i64 e),(8,.pointer (some ⟨(p1 0).N,0,none⟩))]) (by kernel_rfl) (fun _ _=>by kernel_rfl) (fun _=>by kernel_rfl) (fun _=>by kernel_rfl) (fun p1=>?_) (fun p1 W1 T hF hK=>?_)
 ·refine ok_n (fun _=>by kernel_rfl) ?_
  exact ok_nil
 replace hS:=SymF.fb hS hF [1000] [⟨(p1 0).N,#[.int .u64 0,.int .u64 0,.int .i64 0,.int .i64 0],29,true⟩] (by kernel_rfl) (by kernel_rfl)
 replace hG:=hF.gx
 clear hF
 have z1:=hS.fr.size
 refine wp_symQ hS hG hK (fun p2=>[.v 9 (.int .u64 h),.v 10 (.int .u64 l),.v 11 (.int .i64 x),.v 12 (.int .i64 e),.v 13 (.agg #[.int .u64 h,.int .u64 l,.int .i64 x,.int .i64 e]),.p 0 0 [.int .u64 h,.int .u64 l,.int .i64 x,.int .i64 e]]) (fun p2=>[(8,.pointer (some ⟨(p1 0).N,0,none⟩))]) (by kernel_rfl) (fun _ _=>by kernel_rfl) (fun _=>by kernel_rfl) (fun _=>by kernel_rfl) (fun p2=>?_) (fun p2 W2 T hF hK=>?_)
 ·iterate 5 refine ok_v (by kernel_rfl) ?_
  refine ok_P (by kernel_rfl) (by kernel_rfl) (by kernel_rfl) ?_
  exact ok_nil
 replace hS:=SymF.fb hS hF [0] [⟨(p1 0).N,#[.int .u64 h,.int .u64 l,.int .i64 x,.int .i64 e],29,true⟩] (by kernel_rfl) (by kernel_rfl)
 replace hG:=hF.gx
 clear hF
 have z2:=hS.fr.size
 refine wp_ret ?_
 exact sym_end hS hK (.agg #[.int .u64 h,.int .u64 l,.int .i64 x,.int .i64 e]) [(0,0,4)] [.int .u64 h,.int .u64 l,.int .i64 x,.int .i64 e] (by kernel_rfl) (by kernel_rfl) ⟨rfl,hS.fr⟩
theorem ours_n (w:World)   :
  Calls Tryd.prog 43 #[.pointer none] w fun en w'=>en = .returned (.bool false)∧Below w.heap.size w w':=by
 refine calls_sym Tryd.func43 rfl (by kernel_rfl) fun T hK=>?_
 replace hK:Kn T _ [(0,.pointer none)]:=hK
 have hS:=Fb.begin w
 have hG:GsAt [] w:=trivial
 refine wp_symQ hS hG hK (fun p1=>[.v 2 (.bool false)]) (fun p1=>[(0,.pointer none),(2,.bool false)]) (by kernel_rfl) (fun _ _=>by kernel_rfl) (fun _=>by kernel_rfl) (fun _=>by kernel_rfl) (fun p1=>?_) (fun p1 W1 T hF hK=>?_)
 ·refine ok_v (by kernel_rfl) ?_
  exact ok_nil
 replace hS:=SymF.fb hS hF [] [] (by kernel_rfl) (by kernel_rfl)
 replace hG:=hF.gx
 clear hF
 have z1:=hS.fr.size
 refine wp_symQ hS hG hK (fun p2=>[.v 3 (.pointer none),.v 4 (.bool false),.v 5 (.bool false),.k (some 6),.k (some 7),.k (some 8),.k (some 9),.k (some 10),.k (some 11),.v 12 (.bool false),.v 2 (.bool false)]) (fun p2=>[(2,.bool false)]) (by kernel_rfl) (fun _ _=>by kernel_rfl) (fun _=>by kernel_rfl) (fun _=>by kernel_rfl) (fun p2=>?_) (fun p2 W2 T hF hK=>?_)
 ·iterate 3 refine ok_v (by kernel_rfl) ?_
  iterate 6 refine ok_K (by kernel_rfl) ?_
  iterate 2 refine ok_v (by kernel_rfl) ?_
  exact ok_nil
 replace hS:=SymF.fb hS hF [] [] (by kernel_rfl) (by kernel_rfl)
 replace hG:=hF.gx
 clear hF
 have z2:=hS.fr.size
 refine wp_ret ?_
 exact sym_end hS hK (.bool false) [] [] (by kernel_rfl) (by kernel_rfl) ⟨rfl,hS.fr⟩
theorem ours_z (w:World) (p:Nat)  (hp:w.heap[p]? = some (.cells #[.pointer none,.int .i64 0,.int .i64 0,.int .u32 0,.int .i32 0,.int .u32 0,.slice none 0 0,.int .i32 0] 55 (0,0)))  :
  Calls Tryd.prog 43 #[.pointer (some ⟨p,0,none⟩)] w fun en w'=>en = .returned (.bool false)∧Below w.heap.size w w':=by
 refine calls_sym Tryd.func43 rfl (by kernel_rfl) fun T hK=>?_
 replace hK:Kn T _ [(0,.pointer (some ⟨p,0,none⟩))]:=hK
 have hS:=Fb.other hp
 have hG:GsAt [] w:=trivial
 refine wp_symQ hS hG hK (fun p1=>[.v 2 (.bool false)]) (fun p1=>[(0,.pointer (some ⟨p,0,none⟩)),(2,.bool false)]) (by kernel_rfl) (fun _ _=>by kernel_rfl) (fun _=>by kernel_rfl) (fun _=>by kernel_rfl) (fun p1=>?_) (fun p1 W1 T hF hK=>?_)
 ·refine ok_v (by kernel_rfl) ?_
  exact ok_nil
 replace hS:=SymF.fb hS hF [0] [⟨p,#[.pointer none,.int .i64 0,.int .i64 0,.int .u32 0,.int .i32 0,.int .u32 0,.slice none 0 0,.int .i32 0],55,false⟩] (by kernel_rfl) (by kernel_rfl)
 replace hG:=hF.gx
 clear hF
 have z1:=hS.fr.size
 refine wp_symQ hS hG hK (fun p2=>[.v 3 (.pointer (some ⟨p,0,none⟩)),.v 4 (.bool true),.v 5 (.bool true),.v 6 (.pointer (some ⟨p,0,none⟩)),.v 7 (.pointer (some ⟨p,0,none⟩)),.v 8 (.pointer (some ⟨p,0,none⟩)),.l 9 (.pointer none) 0 0,.v 10 (.pointer (some ⟨p,0,none⟩)),.v 11 (.bool false),.v 12 (.bool false),.v 2 (.bool false)]) (fun p2=>[(2,.bool false)]) (by kernel_rfl) (fun _ _=>by kernel_rfl) (fun _=>by kernel_rfl) (fun _=>by kernel_rfl) (fun p2=>?_) (fun p2 W2 T hF hK=>?_)
 ·iterate 6 refine ok_v (by kernel_rfl) ?_
  refine ok_L (by kernel_rfl) (by kernel_rfl) (by kernel_rfl) ?_
  iterate 4 refine ok_v (by kernel_rfl) ?_
  exact ok_nil
 replace hS:=SymF.fb hS hF [0] [⟨p,#[.pointer none,.int .i64 0,.int .i64 0,.int .u32 0,.int .i32 0,.int .u32 0,.slice none 0 0,.int .i32 0],55,false⟩] (by kernel_rfl) (by kernel_rfl)
 replace hG:=hF.gx
 clear hF
 have z2:=hS.fr.size
 refine wp_ret ?_
 exact sym_end hS hK (.bool false) [] [] (by kernel_rfl) (by kernel_rfl) ⟨rfl,hS.fr⟩
theorem refus_n (w:World) (n:Int)   :
  Calls Tryd.prog 36 #[.pointer none,.int .i64 n] w fun en w'=>en = .returned (.int .i64 1)∧Below w.heap.size w w':=by
 refine calls_sym Tryd.func36 rfl (by kernel_rfl) fun T hK=>?_
 replace hK:Kn T _ [(0,.pointer none),(1,.int .i64 n)]:=hK
 have hS:=Fb.begin w
 have hG:GsAt [] w:=trivial
 refine wp_symQ hS hG hK (fun p1=>[.v 4 (.int .i64 0)]) (fun p1=>[(0,.pointer none),(1,.int .i64 n),(4,.int .i64 0)]) (by kernel_rfl) (fun _ _=>by kernel_rfl) (fun _=>by kernel_rfl) (fun _=>by kernel_rfl) (fun p1=>?_) (fun p1 W1 T hF hK=>?_)
 ·refine ok_v (by kernel_rfl) ?_
  exact ok_nil
 replace hS:=SymF.fb hS hF [] [] (by kernel_rfl) (by kernel_rfl)
 replace hG:=hF.gx
 clear hF
 have z1:=hS.fr.size
 refine wp_seq ?_
 refine wp_symQ hS hG hK (fun p2=>[.v 5 (.pointer none),.c (some 6) (cV (.bool false)),.v 7 (.bool true)]) (fun p2=>[(0,.pointer none),(1,.int .i64 n),(4,.int .i64 0),(7,.bool true)]) (by kernel_rfl) (fun _ _=>by kernel_rfl) (fun _=>by kernel_rfl) (fun _=>by kernel_rfl) (fun p2=>?_) (fun p2 W2 T hF hK=>?_)
 ·refine ok_v (by kernel_rfl) ?_
  refine ok_c (fun W cx=>as_v (ours_n _ )) (by kernel_rfl) ?_
  refine ok_v (by kernel_rfl) ?_
  exact ok_nil
 replace hS:=SymF.fb hS hF [] [] (by kernel_rfl) (by kernel_rfl)
 replace hG:=hF.gx
 clear hF
 have z2:=hS.fr.size
 refine wp_cond_true (hK.ev 7 (by kernel_rfl) _ (by kernel_rfl)) ?_
 refine wp_symQ hS hG hK (fun p3=>[.v 4 (.int .i64 1)]) (fun p3=>[(0,.pointer none),(1,.int .i64 n),(4,.int .i64 1),(7,.bool true)]) (by kernel_rfl) (fun _ _=>by kernel_rfl) (fun _=>by kernel_rfl) (fun _=>by kernel_rfl) (fun p3=>?_) (fun p3 W3 T hF hK=>?_)
 ·refine ok_v (by kernel_rfl) ?_
  exact ok_nil
 replace hS:=SymF.fb hS hF [] [] (by kernel_rfl) (by kernel_rfl)
 replace hG:=hF.gx
 clear hF
 have z3:=hS.fr.size
 refine wp_ret ?_
 refine then_r ?_
 exact sym_end hS hK (.int .i64 1) [] [] (by kernel_rfl) (by kernel_rfl) ⟨rfl,hS.fr⟩
theorem refus_z (w:World) (p:Nat) (n:Int)  (hp:w.heap[p]? = some (.cells #[.pointer none,.int .i64 0,.int .i64 0,.int .u32 0,.int .i32 0,.int .u32 0,.slice none 0 0,.int .i32 0] 55 (0,0)))  :
  Calls Tryd.prog 36 #[.pointer (some ⟨p,0,none⟩),.int .i64 n] w fun en w'=>en = .returned (.int .i64 1)∧Below w.heap.size w w':=by
 refine calls_sym Tryd.func36 rfl (by kernel_rfl) fun T hK=>?_
 replace hK:Kn T _ [(0,.pointer (some ⟨p,0,none⟩)),(1,.int .i64 n)]:=hK
 have hS:=Fb.other hp
 have hG:GsAt [] w:=trivial
 refine wp_symQ hS hG hK (fun p1=>[.v 4 (.int .i64 0)]) (fun p1=>[(0,.pointer (some ⟨p,0,none⟩)),(1,.int .i64 n),(4,.int .i64 0)]) (by kernel_rfl) (fun _ _=>by kernel_rfl) (fun _=>by kernel_rfl) (fun _=>by kernel_rfl) (fun p1=>?_) (fun p1 W1 T hF hK=>?_)
 ·refine ok_v (by kernel_rfl) ?_
  exact ok_nil
 replace hS:=SymF.fb hS hF [0] [⟨p,#[.pointer none,.int .i64 0,.int .i64 0,.int .u32 0,.int .i32 0,.int .u32 0,.slice none 0 0,.int .i32 0],55,false⟩] (by kernel_rfl) (by kernel_rfl)
 replace hG:=hF.gx
 clear hF
 have z1:=hS.fr.size
 refine wp_seq ?_
 refine wp_symQ hS hG hK (fun p2=>[.v 5 (.pointer (some ⟨p,0,none⟩)),.c (some 6) (cV (.bool false)),.v 7 (.bool true)]) (fun p2=>[(0,.pointer (some ⟨p,0,none⟩)),(1,.int .i64 n),(4,.int .i64 0),(7,.bool true)]) (by kernel_rfl) (fun _ _=>by kernel_rfl) (fun _=>by kernel_rfl) (fun _=>by kernel_rfl) (fun p2=>?_) (fun p2 W2 T hF hK=>?_)
 ·refine ok_v (by kernel_rfl) ?_
  refine ok_c (fun W cx=>as_v (ours_z _ p (cx.B 0 _ rfl (by kernel_rfl) (by kernel_rfl)))) (by kernel_rfl) ?_
  refine ok_v (by kernel_rfl) ?_
  exact ok_nil
 replace hS:=SymF.fb hS hF [0] [⟨p,#[.pointer none,.int .i64 0,.int .i64 0,.int .u32 0,.int .i32 0,.int .u32 0,.slice none 0 0,.int .i32 0],55,false⟩] (by kernel_rfl) (by kernel_rfl)
 replace hG:=hF.gx
 clear hF
 have z2:=hS.fr.size
 refine wp_cond_true (hK.ev 7 (by kernel_rfl) _ (by kernel_rfl)) ?_
 refine wp_symQ hS hG hK (fun p3=>[.v 4 (.int .i64 1)]) (fun p3=>[(0,.pointer (some ⟨p,0,none⟩)),(1,.int .i64 n),(4,.int .i64 1),(7,.bool true)]) (by kernel_rfl) (fun _ _=>by kernel_rfl) (fun _=>by kernel_rfl) (fun _=>by kernel_rfl) (fun p3=>?_) (fun p3 W3 T hF hK=>?_)
 ·refine ok_v (by kernel_rfl) ?_
  exact ok_nil
 replace hS:=SymF.fb hS hF [0] [⟨p,#[.pointer none,.int .i64 0,.int .i64 0,.int .u32 0,.int .i32 0,.int .u32 0,.slice none 0 0,.int .i32 0],55,false⟩] (by kernel_rfl) (by kernel_rfl)
 replace hG:=hF.gx
 clear hF
 have z3:=hS.fr.size
 refine wp_ret ?_
 refine then_r ?_
 exact sym_end hS hK (.int .i64 1) [] [] (by kernel_rfl) (by kernel_rfl) ⟨rfl,hS.fr⟩
theorem made_n (w:World)   :
  Calls Tryd.prog 19 #[.pointer none] w fun en w'=>en = .returned (.int .i64 0)∧Below w.heap.size w w':=by
 refine calls_sym Tryd.func19 rfl (by kernel_rfl) fun T hK=>?_
 replace hK:Kn T _ [(0,.pointer none)]:=hK
 have hS:=Fb.begin w
 have hG:GsAt [] w:=trivial
 refine wp_symQ hS hG hK (fun p1=>[.v 2 (.int .i64 0)]) (fun p1=>[(0,.pointer none),(2,.int .i64 0)]) (by kernel_rfl) (fun _ _=>by kernel_rfl) (fun _=>by kernel_rfl) (fun _=>by kernel_rfl) (fun p1=>?_) (fun p1 W1 T hF hK=>?_)
 ·refine ok_v (by kernel_rfl) ?_
  exact ok_nil
 replace hS:=SymF.fb hS hF [] [] (by kernel_rfl) (by kernel_rfl)
 replace hG:=hF.gx
 clear hF
 have z1:=hS.fr.size
 refine wp_seq ?_
 refine wp_symQ hS hG hK (fun p2=>[.v 3 (.pointer none),.c (some 4) (cV (.bool false)),.v 5 (.bool true)]) (fun p2=>[(0,.pointer none),(2,.int .i64 0),(5,.bool true)]) (by kernel_rfl) (fun _ _=>by kernel_rfl) (fun _=>by kernel_rfl) (fun _=>by kernel_rfl) (fun p2=>?_) (fun p2 W2 T hF hK=>?_)
 ·refine ok_v (by kernel_rfl) ?_
  refine ok_c (fun W cx=>as_v (ours_n _ )) (by kernel_rfl) ?_
  refine ok_v (by kernel_rfl) ?_
  exact ok_nil
 replace hS:=SymF.fb hS hF [] [] (by kernel_rfl) (by kernel_rfl)
 replace hG:=hF.gx
 clear hF
 have z2:=hS.fr.size
 refine wp_cond_true (hK.ev 5 (by kernel_rfl) _ (by kernel_rfl)) ?_
 refine wp_symQ hS hG hK (fun p3=>[.v 2 (.int .i64 0)]) (fun p3=>[(0,.pointer none),(2,.int .i64 0),(5,.bool true)]) (by kernel_rfl) (fun _ _=>by kernel_rfl) (fun _=>by kernel_rfl) (fun _=>by kernel_rfl) (fun p3=>?_) (fun p3 W3 T hF hK=>?_)
 ·refine ok_v (by kernel_rfl) ?_
  exact ok_nil
 replace hS:=SymF.fb hS hF [] [] (by kernel_rfl) (by kernel_rfl)
 replace hG:=hF.gx
 clear hF
 have z3:=hS.fr.size
 refine wp_ret ?_
 refine then_r ?_
 exact sym_end hS hK (.int .i64 0) [] [] (by kernel_rfl) (by kernel_rfl) ⟨rfl,hS.fr⟩
theorem made_z (w:World) (p:Nat)  (hp:w.heap[p]? = some (.cells #[.pointer none,.int .i64 0,.int .i64 0,.int .u32 0,.int .i32 0,.int .u32 0,.slice none 0 0,.int .i32 0] 55 (0,0)))  :
  Calls Tryd.prog 19 #[.pointer (some ⟨p,0,none⟩)] w fun en w'=>en = .returned (.int .i64 0)∧Below w.heap.size w w':=by
 refine calls_sym Tryd.func19 rfl (by kernel_rfl) fun T hK=>?_
 replace hK:Kn T _ [(0,.pointer (some ⟨p,0,none⟩))]:=hK
 have hS:=Fb.other hp
 have hG:GsAt [] w:=trivial
 refine wp_symQ hS hG hK (fun p1=>[.v 2 (.int .i64 0)]) (fun p1=>[(0,.pointer (some ⟨p,0,none⟩)),(2,.int .i64 0)]) (by kernel_rfl) (fun _ _=>by kernel_rfl) (fun _=>by kernel_rfl) (fun _=>by kernel_rfl) (fun p1=>?_) (fun p1 W1 T hF hK=>?_)
 ·refine ok_v (by kernel_rfl) ?_
  exact ok_nil
 replace hS:=SymF.fb hS hF [0] [⟨p,#[.pointer none,.int .i64 0,.int .i64 0,.int .u32 0,.int .i32 0,.int .u32 0,.slice none 0 0,.int .i32 0],55,false⟩] (by kernel_rfl) (by kernel_rfl)
 replace hG:=hF.gx
 clear hF
 have z1:=hS.fr.size
 refine wp_seq ?_
 refine wp_symQ hS hG hK (fun p2=>[.v 3 (.pointer (some ⟨p,0,none⟩)),.c (some 4) (cV (.bool false)),.v 5 (.bool true)]) (fun p2=>[(0,.pointer (some ⟨p,0,none⟩)),(2,.int .i64 0),(5,.bool true)]) (by kernel_rfl) (fun _ _=>by kernel_rfl) (fun _=>by kernel_rfl) (fun _=>by kernel_rfl) (fun p2=>?_) (fun p2 W2 T hF hK=>?_)
 ·refine ok_v (by kernel_rfl) ?_
  refine ok_c (fun W cx=>as_v (ours_z _ p (cx.B 0 _ rfl (by kernel_rfl) (by kernel_rfl)))) (by kernel_rfl) ?_
  refine ok_v (by kernel_rfl) ?_
  exact ok_nil
 replace hS:=SymF.fb hS hF [0] [⟨p,#[.pointer none,.int .i64 0,.int .i64 0,.int .u32 0,.int .i32 0,.int .u32 0,.slice none 0 0,.int .i32 0],55,false⟩] (by kernel_rfl) (by kernel_rfl)
 replace hG:=hF.gx
 clear hF
 have z2:=hS.fr.size
 refine wp_cond_true (hK.ev 5 (by kernel_rfl) _ (by kernel_rfl)) ?_
 refine wp_symQ hS hG hK (fun p3=>[.v 2 (.int .i64 0)]) (fun p3=>[(0,.pointer (some ⟨p,0,none⟩)),(2,.int .i64 0),(5,.bool true)]) (by kernel_rfl) (fun _ _=>by kernel_rfl) (fun _=>by kernel_rfl) (fun _=>by kernel_rfl) (fun p3=>?_) (fun p3 W3 T hF hK=>?_)
 ·refine ok_v (by kernel_rfl) ?_
  exact ok_nil
 replace hS:=SymF.fb hS hF [0] [⟨p,#[.pointer none,.int .i64 0,.int .i64 0,.int .u32 0,.int .i32 0,.int .u32 0,.slice none 0 0,.int .i32 0],55,false⟩] (by kernel_rfl) (by kernel_rfl)
 replace hG:=hF.gx
 clear hF
 have z3:=hS.fr.size
 refine wp_ret ?_
 refine then_r ?_
 exact sym_end hS hK (.int .i64 0) [] [] (by kernel_rfl) (by kernel_rfl) ⟨rfl,hS.fr⟩
theorem kten_n (w:World) (n:Int)   :
  Calls Tryd.prog 18 #[.pointer none,.int .i64 n] w fun en w'=>en = .returned (.tuple #[.int .u64 0,.int .u64 0,.int .i64 0,.int .i64 1])∧Below w.heap.size w w':=by
 refine calls_sym Tryd.func18 rfl (by kernel_rfl) fun T hK=>?_
 replace hK:Kn T _ [(0,.pointer none),(1,.int .i64 n)]:=hK
 have hS:=Fb.begin w
 have hG:GsAt [] w:=trivial
 refine wp_symQ hS hG hK (fun p1=>[.v 4 (.int .u64 0),.v 5 (.int .u64 0),.v 6 (.int .i64 0),.v 7 (.int .i64 0)]) (fun p1=>[(0,.pointer none),(1,.int .i64 n),(4,.int .u64 0),(5,.int .u64 0),(6,.int .i64 0),(7,.int .i64 0)]) (by kernel_rfl) (fun _ _=>by kernel_rfl) (fun _=>by kernel_rfl) (fun _=>by kernel_rfl) (fun p1=>?_) (fun p1 W1 T hF hK=>?_)
 ·iterate 4 refine ok_v (by kernel_rfl) ?_
  exact ok_nil
 replace hS:=SymF.fb hS hF [] [] (by kernel_rfl) (by kernel_rfl)
 replace hG:=hF.gx
 clear hF
 have z1:=hS.fr.size
 refine wp_seq ?_
 refine wp_symQ hS hG hK (fun p2=>[.v 10 (.pointer none),.v 11 (.int .i64 n),.c (some 12) (cV (.int .i64 1)),.v 8 (.int .i64 1)]) (fun p2=>[(0,.pointer none),(1,.int .i64 n),(4,.int .u64 0),(5,.int .u64 0),(6,.int .i64 0),(7,.int .i64 0),(8,.int .i64 1)]) (by kernel_rfl) (fun _ _=>by kernel_rfl) (fun _=>by kernel_rfl) (fun _=>by kernel_rfl) (fun p2=>?_) (fun p2 W2 T hF hK=>?_)
 ·iterate 2 refine ok_v (by kernel_rfl) ?_
  refine ok_c (fun W cx=>as_v (refus_n _ n )) (by kernel_rfl) ?_
  refine ok_v (by kernel_rfl) ?_
  exact ok_nil
 replace hS:=SymF.fb hS hF [] [] (by kernel_rfl) (by kernel_rfl)
 replace hG:=hF.gx
 clear hF
 have z2:=hS.fr.size
 refine wp_symQ hS hG hK (fun p3=>[.v 13 (.int .i64 1),.v 14 (.bool true)]) (fun p3=>[(0,.pointer none),(1,.int .i64 n),(4,.int .u64 0),(5,.int .u64 0),(6,.int .i64 0),(7,.int .i64 0),(8,.int .i64 1),(14,.bool true)]) (by kernel_rfl) (fun _ _=>by kernel_rfl) (fun _=>by kernel_rfl) (fun _=>by kernel_rfl) (fun p3=>?_) (fun p3 W3 T hF hK=>?_)
 ·iterate 2 refine ok_v (by kernel_rfl) ?_
  exact ok_nil
 replace hS:=SymF.fb hS hF [] [] (by kernel_rfl) (by kernel_rfl)
 replace hG:=hF.gx
 clear hF
 have z3:=hS.fr.size
 refine wp_cond_true (hK.ev 14 (by kernel_rfl) _ (by kernel_rfl)) ?_
 refine wp_symQ hS hG hK (fun p4=>[.v 15 (.int .i64 1),.v 4 (.int .u64 0),.v 5 (.int .u64 0),.v 6 (.int .i64 0),.v 7 (.int .i64 1)]) (fun p4=>[(0,.pointer none),(1,.int .i64 n),(4,.int .u64 0),(5,.int .u64 0),(6,.int .i64 0),(7,.int .i64 1),(14,.bool true)]) (by kernel_rfl) (fun _ _=>by kernel_rfl) (fun _=>by kernel_rfl) (fun _=>by kernel_rfl) (fun p4=>?_) (fun p4 W4 T hF hK=>?_)
 ·iterate 5 refine ok_v (by kernel_rfl) ?_
  exact ok_nil
 replace hS:=SymF.fb hS hF [] [] (by kernel_rfl) (by kernel_rfl)
 replace hG:=hF.gx
 clear hF
 have z4:=hS.fr.size
 refine wp_ret ?_
 refine then_r ?_
 exact sym_end hS hK (.tuple #[.int .u64 0,.int .u64 0,.int .i64 0,.int .i64 1]) [] [] (by kernel_rfl) (by kernel_rfl) ⟨rfl,hS.fr⟩
theorem kten_z (w:World) (p:Nat) (n:Int)  (hp:w.heap[p]? = some (.cells #[.pointer none,.int .i64 0,.int .i64 0,.int .u32 0,.int .i32 0,.int .u32 0,.slice none 0 0,.int .i32 0] 55 (0,0)))  :
  Calls Tryd.prog 18 #[.pointer (some ⟨p,0,none⟩),.int .i64 n] w fun en w'=>en = .returned (.tuple #[.int .u64 0,.int .u64 0,.int .i64 0,.int .i64 1])∧Below w.heap.size w w':=by
 refine calls_sym Tryd.func18 rfl (by kernel_rfl) fun T hK=>?_
 replace hK:Kn T _ [(0,.pointer (some ⟨p,0,none⟩)),(1,.int .i64 n)]:=hK
 have hS:=Fb.other hp
 have hG:GsAt [] w:=trivial
 refine wp_symQ hS hG hK (fun p1=>[.v 4 (.int .u64 0),.v 5 (.int .u64 0),.v 6 (.int .i64 0),.v 7 (.int .i64 0)]) (fun p1=>[(0,.pointer (some ⟨p,0,none⟩)),(1,.int .i64 n),(4,.int .u64 0),(5,.int .u64 0),(6,.int .i64 0),(7,.int .i64 0)]) (by kernel_rfl) (fun _ _=>by kernel_rfl) (fun _=>by kernel_rfl) (fun _=>by kernel_rfl) (fun p1=>?_) (fun p1 W1 T hF hK=>?_)
 ·iterate 4 refine ok_v (by kernel_rfl) ?_
  exact ok_nil
 replace hS:=SymF.fb hS hF [0] [⟨p,#[.pointer none,.int .i64 0,.int .i64 0,.int .u32 0,.int .i32 0,.int .u32 0,.slice none 0 0,.int .i32 0],55,false⟩] (by kernel_rfl) (by kernel_rfl)
 replace hG:=hF.gx
 clear hF
 have z1:=hS.fr.size
 refine wp_seq ?_
 refine wp_symQ hS hG hK (fun p2=>[.v 10 (.pointer (some ⟨p,0,none⟩)),.v 11 (.int .i64 n),.c (some 12) (cV (.int .i64 1)),.v 8 (.int .i64 1)]) (fun p2=>[(0,.pointer (some ⟨p,0,none⟩)),(1,.int .i64 n),(4,.int .u64 0),(5,.int .u64 0),(6,.int .i64 0),(7,.int .i64 0),(8,.int .i64 1)]) (by kernel_rfl) (fun _ _=>by kernel_rfl) (fun _=>by kernel_rfl) (fun _=>by kernel_rfl) (fun p2=>?_) (fun p2 W2 T hF hK=>?_)
 ·iterate 2 refine ok_v (by kernel_rfl) ?_
  refine ok_c (fun W cx=>as_v (refus_z _ p n (cx.B 0 _ rfl (by kernel_rfl) (by kernel_rfl)))) (by kernel_rfl) ?_
  refine ok_v (by kernel_rfl) ?_
  exact ok_nil
 replace hS:=SymF.fb hS hF [0] [⟨p,#[.pointer none,.int .i64 0,.int .i64 0,.int .u32 0,.int .i32 0,.int .u32 0,.slice none 0 0,.int .i32 0],55,false⟩] (by kernel_rfl) (by kernel_rfl)
 replace hG:=hF.gx
 clear hF
 have z2:=hS.fr.size
 refine wp_symQ hS hG hK (fun p3=>[.v 13 (.int .i64 1),.v 14 (.bool true)]) (fun p3=>[(0,.pointer (some ⟨p,0,none⟩)),(1,.int .i64 n),(4,.int .u64 0),(5,.int .u64 0),(6,.int .i64 0),(7,.int .i64 0),(8,.int .i64 1),(14,.bool true)]) (by kernel_rfl) (fun _ _=>by kernel_rfl) (fun _=>by kernel_rfl) (fun _=>by kernel_rfl) (fun p3=>?_) (fun p3 W3 T hF hK=>?_)
 ·iterate 2 refine ok_v (by kernel_rfl) ?_
  exact ok_nil
 replace hS:=SymF.fb hS hF [0] [⟨p,#[.pointer none,.int .i64 0,.int .i64 0,.int .u32 0,.int .i32 0,.int .u32 0,.slice none 0 0,.int .i32 0],55,false⟩] (by kernel_rfl) (by kernel_rfl)
 replace hG:=hF.gx
 clear hF
 have z3:=hS.fr.size
 refine wp_cond_true (hK.ev 14 (by kernel_rfl) _ (by kernel_rfl)) ?_
 refine wp_symQ hS hG hK (fun p4=>[.v 15 (.int .i64 1),.v 4 (.int .u64 0),.v 5 (.int .u64 0),.v 6 (.int .i64 0),.v 7 (.int .i64 1)]) (fun p4=>[(0,.pointer (some ⟨p,0,none⟩)),(1,.int .i64 n),(4,.int .u64 0),(5,.int .u64 0),(6,.int .i64 0),(7,.int .i64 1),(14,.bool true)]) (by kernel_rfl) (fun _ _=>by kernel_rfl) (fun _=>by kernel_rfl) (fun _=>by kernel_rfl) (fun p4=>?_) (fun p4 W4 T hF hK=>?_)
 ·iterate 5 refine ok_v (by kernel_rfl) ?_
  exact ok_nil
 replace hS:=SymF.fb hS hF [0] [⟨p,#[.pointer none,.int .i64 0,.int .i64 0,.int .u32 0,.int .i32 0,.int .u32 0,.slice none 0 0,.int .i32 0],55,false⟩] (by kernel_rfl) (by kernel_rfl)
 replace hG:=hF.gx
 clear hF
 have z4:=hS.fr.size
 refine wp_ret ?_
 refine then_r ?_
 exact sym_end hS hK (.tuple #[.int .u64 0,.int .u64 0,.int .i64 0,.int .i64 1]) [] [] (by kernel_rfl) (by kernel_rfl) ⟨rfl,hS.fr⟩
theorem kcrowd_n (w:World) (n m:Int)   :
  Calls Tryd.prog 17 #[.pointer none,.int .i64 n,.int .i64 m] w fun en w'=>en = .returned (.tuple #[.slice none 0 0,.int .i64 1])∧Below w.heap.size w w':=by
 refine calls_sym Tryd.func17 rfl (by kernel_rfl) fun T hK=>?_
 replace hK:Kn T _ [(0,.pointer none),(1,.int .i64 n),(2,.int .i64 m)]:=hK
 have hS:=Fb.begin w
 have hG:GsAt [] w:=trivial
 refine wp_symQ hS hG hK (fun p1=>[.n 3 #[.pointer none] 38,.n 4 #[.int .i64 n] 3,.v 6 (.slice none 0 0),.v 7 (.int .i64 0)]) (fun p1=>[(2,.int .i64 m),(3,.pointer (some ⟨(p1 0).N,0,none⟩)),(4,.pointer (some ⟨(p1 1).N,0,none⟩)),(6,.slice none 0 0),(7,.int .i64 0)]) (by kernel_rfl) (fun _ _=>by kernel_rfl) (fun _=>by kernel_rfl) (fun _=>by kernel_rfl) (fun p1=>?_) (fun p1 W1 T hF hK=>?_)
 ·iterate 2 refine ok_n (fun _=>by kernel_rfl) ?_
  iterate 2 refine ok_v (by kernel_rfl) ?_
  exact ok_nil
 replace hS:=SymF.fb hS hF [1000,1001] [⟨(p1 0).N,#[.pointer none],38,true⟩,⟨(p1 1).N,#[.int .i64 n],3,true⟩] (by kernel_rfl) (by kernel_rfl)
 replace hG:=hF.gx
 clear hF
 have z1:=hS.fr.size
 refine wp_seq ?_
 refine wp_symQ hS hG hK (fun p2=>[.l 12 (.pointer none) 0 0,.l 13 (.int .i64 n) 1 0,.c (some 14) (cV (.int .i64 1)),.v 8 (.int .i64 1)]) (fun p2=>[(2,.int .i64 m),(3,.pointer (some ⟨(p1 0).N,0,none⟩)),(4,.pointer (some ⟨(p1 1).N,0,none⟩)),(6,.slice none 0 0),(7,.int .i64 0),(8,.int .i64 1)]) (by kernel_rfl) (fun _ _=>by kernel_rfl) (fun _=>by kernel_rfl) (fun _=>by kernel_rfl) (fun p2=>?_) (fun p2 W2 T hF hK=>?_)
 ·iterate 2 refine ok_L (by kernel_rfl) (by kernel_rfl) (by kernel_rfl) ?_
  refine ok_c (fun W cx=>as_v (refus_n _ n )) (by kernel_rfl) ?_
  refine ok_v (by kernel_rfl) ?_
  exact ok_nil
 replace hS:=SymF.fb hS hF [0,1] [⟨(p1 0).N,#[.pointer none],38,true⟩,⟨(p1 1).N,#[.int .i64 n],3,true⟩] (by kernel_rfl) (by kernel_rfl)
 replace hG:=hF.gx
 clear hF
 have z2:=hS.fr.size
 refine wp_symQ hS hG hK (fun p3=>[.v 15 (.int .i64 1),.v 16 (.bool true)]) (fun p3=>[(2,.int .i64 m),(3,.pointer (some ⟨(p1 0).N,0,none⟩)),(4,.pointer (some ⟨(p1 1).N,0,none⟩)),(6,.slice none 0 0),(7,.int .i64 0),(8,.int .i64 1),(16,.bool true)]) (by kernel_rfl) (fun _ _=>by kernel_rfl) (fun _=>by kernel_rfl) (fun _=>by kernel_rfl) (fun p3=>?_) (fun p3 W3 T hF hK=>?_)
 ·iterate 2 refine ok_v (by kernel_rfl) ?_
  exact ok_nil
 replace hS:=SymF.fb hS hF [0,1] [⟨(p1 0).N,#[.pointer none],38,true⟩,⟨(p1 1).N,#[.int .i64 n],3,true⟩] (by kernel_rfl) (by kernel_rfl)
 replace hG:=hF.gx
 clear hF
 have z3:=hS.fr.size
 refine wp_cond_true (hK.ev 16 (by kernel_rfl) _ (by kernel_rfl)) ?_
 refine wp_symQ hS hG hK (fun p4=>[.v 17 (.int .i64 1),.v 6 (.slice none 0 0),.v 7 (.int .i64 1)]) (fun p4=>[(2,.int .i64 m),(3,.pointer (some ⟨(p1 0).N,0,none⟩)),(4,.pointer (some ⟨(p1 1).N,0,none⟩)),(6,.slice none 0 0),(7,.int .i64 1),(16,.bool true)]) (by kernel_rfl) (fun _ _=>by kernel_rfl) (fun _=>by kernel_rfl) (fun _=>by kernel_rfl) (fun p4=>?_) (fun p4 W4 T hF hK=>?_)
 ·iterate 3 refine ok_v (by kernel_rfl) ?_
  exact ok_nil
 replace hS:=SymF.fb hS hF [0,1] [⟨(p1 0).N,#[.pointer none],38,true⟩,⟨(p1 1).N,#[.int .i64 n],3,true⟩] (by kernel_rfl) (by kernel_rfl)
 replace hG:=hF.gx
 clear hF
 have z4:=hS.fr.size
 refine wp_ret ?_
 refine then_r ?_
 exact sym_end hS hK (.tuple #[.slice none 0 0,.int .i64 1]) [] [] (by kernel_rfl) (by kernel_rfl) ⟨rfl,hS.fr⟩
theorem kcrowd_z (w:World) (p:Nat) (n m:Int)  (hp:w.heap[p]? = some (.cells #[.pointer none,.int .i64 0,.int .i64 0,.int .u32 0,.int .i32 0,.int .u32 0,.slice none 0 0,.int .i32 0] 55 (0,0)))  :
  Calls Tryd.prog 17 #[.pointer (some ⟨p,0,none⟩),.int .i64 n,.int .i64 m] w fun en w'=>en = .returned (.tuple #[.slice none 0 0,.int .i64 1])∧Below w.heap.size w w':=by
 refine calls_sym Tryd.func17 rfl (by kernel_rfl) fun T hK=>?_
 replace hK:Kn T _ [(0,.pointer (some ⟨p,0,none⟩)),(1,.int .i64 n),(2,.int .i64 m)]:=hK
 have hS:=Fb.other hp
 have hG:GsAt [] w:=trivial
 refine wp_symQ hS hG hK (fun p1=>[.n 3 #[.pointer (some ⟨p,0,none⟩)] 38,.n 4 #[.int .i64 n] 3,.v 6 (.slice none 0 0),.v 7 (.int .i64 0)]) (fun p1=>[(2,.int .i64 m),(3,.pointer (some ⟨(p1 0).N,0,none⟩)),(4,.pointer (some ⟨(p1 1).N,0,none⟩)),(6,.slice none 0 0),(7,.int .i64 0)]) (by kernel_rfl) (fun _ _=>by kernel_rfl) (fun _=>by kernel_rfl) (fun _=>by kernel_rfl) (fun p1=>?_) (fun p1 W1 T hF hK=>?_)
 ·iterate 2 refine ok_n (fun _=>by kernel_rfl) ?_
  iterate 2 refine ok_v (by kernel_rfl) ?_
  exact ok_nil
 replace hS:=SymF.fb hS hF [0,1000,1001] [⟨p,#[.pointer none,.int .i64 0,.int .i64 0,.int .u32 0,.int .i32 0,.int .u32 0,.slice none 0 0,.int .i32 0],55,false⟩,⟨(p1 0).N,#[.pointer (some ⟨p,0,none⟩)],38,true⟩,⟨(p1 1).N,#[.int .i64 n],3,true⟩] (by kernel_rfl) (by kernel_rfl)
 replace hG:=hF.gx
 clear hF
 have z1:=hS.fr.size
 refine wp_seq ?_
 refine wp_symQ hS hG hK (fun p2=>[.l 12 (.pointer (some ⟨p,0,none⟩)) 1 0,.l 13 (.int .i64 n) 2 0,.c (some 14) (cV (.int .i64 1)),.v 8 (.int .i64 1)]) (fun p2=>[(2,.int .i64 m),(3,.pointer (some ⟨(p1 0).N,0,none⟩)),(4,.pointer (some ⟨(p1 1).N,0,none⟩)),(6,.slice none 0 0),(7,.int .i64 0),(8,.int .i64 1)]) (by kernel_rfl) (fun _ _=>by kernel_rfl) (fun _=>by kernel_rfl) (fun _=>by kernel_rfl) (fun p2=>?_) (fun p2 W2 T hF hK=>?_)
 ·iterate 2 refine ok_L (by kernel_rfl) (by kernel_rfl) (by kernel_rfl) ?_
  refine ok_c (fun W cx=>as_v (refus_z _ p n (cx.B 0 _ rfl (by kernel_rfl) (by kernel_rfl)))) (by kernel_rfl) ?_
  refine ok_v (by kernel_rfl) ?_
  exact ok_nil
 replace hS:=SymF.fb hS hF [0,1,2] [⟨p,#[.pointer none,.int .i64 0,.int .i64 0,.int .u32 0,.int .i32 0,.int .u32 0,.slice none 0 0,.int .i32 0],55,false⟩,⟨(p1 0).N,#[.pointer (some ⟨p,0,none⟩)],38,true⟩,⟨(p1 1).N,#[.int .i64 n],3,true⟩] (by kernel_rfl) (by kernel_rfl)
 replace hG:=hF.gx
 clear hF
 have z2:=hS.fr.size
 refine wp_symQ hS hG hK (fun p3=>[.v 15 (.int .i64 1),.v 16 (.bool true)]) (fun p3=>[(2,.int .i64 m),(3,.pointer (some ⟨(p1 0).N,0,none⟩)),(4,.pointer (some ⟨(p1 1).N,0,none⟩)),(6,.slice none 0 0),(7,.int .i64 0),(8,.int .i64 1),(16,.bool true)]) (by kernel_rfl) (fun _ _=>by kernel_rfl) (fun _=>by kernel_rfl) (fun _=>by kernel_rfl) (fun p3=>?_) (fun p3 W3 T hF hK=>?_)
 ·iterate 2 refine ok_v (by kernel_rfl) ?_
  exact ok_nil
 replace hS:=SymF.fb hS hF [0,1,2] [⟨p,#[.pointer none,.int .i64 0,.int .i64 0,.int .u32 0,.int .i32 0,.int .u32 0,.slice none 0 0,.int .i32 0],55,false⟩,⟨(p1 0).N,#[.pointer (some ⟨p,0,none⟩)],38,true⟩,⟨(p1 1).N,#[.int .i64 n],3,true⟩] (by kernel_rfl) (by kernel_rfl)
 replace hG:=hF.gx
 clear hF
 have z3:=hS.fr.size
 refine wp_cond_true (hK.ev 16 (by kernel_rfl) _ (by kernel_rfl)) ?_
 refine wp_symQ hS hG hK (fun p4=>[.v 17 (.int .i64 1),.v 6 (.slice none 0 0),.v 7 (.int .i64 1)]) (fun p4=>[(2,.int .i64 m),(3,.pointer (some ⟨(p1 0).N,0,none⟩)),(4,.pointer (some ⟨(p1 1).N,0,none⟩)),(6,.slice none 0 0),(7,.int .i64 1),(16,.bool true)]) (by kernel_rfl) (fun _ _=>by kernel_rfl) (fun _=>by kernel_rfl) (fun _=>by kernel_rfl) (fun p4=>?_) (fun p4 W4 T hF hK=>?_)
 ·iterate 3 refine ok_v (by kernel_rfl) ?_
  exact ok_nil
 replace hS:=SymF.fb hS hF [0,1,2] [⟨p,#[.pointer none,.int .i64 0,.int .i64 0,.int .u32 0,.int .i32 0,.int .u32 0,.slice none 0 0,.int .i32 0],55,false⟩,⟨(p1 0).N,#[.pointer (some ⟨p,0,none⟩)],38,true⟩,⟨(p1 1).N,#[.int .i64 n],3,true⟩] (by kernel_rfl) (by kernel_rfl)
 replace hG:=hF.gx
 clear hF
 have z4:=hS.fr.size
 refine wp_ret ?_
 refine then_r ?_
 exact sym_end hS hK (.tuple #[.slice none 0 0,.int .i64 1]) [] [] (by kernel_rfl) (by kernel_rfl) ⟨rfl,hS.fr⟩
def kz:Array Value:=#[.pointer none,.int .i64 0,.int .i64 0,.int .u32 0,.int .i32 0,.int .u32 0,.slice none 0 0,.int .i32 0]
structure NSt (w W:World):Prop where
 k:W.heap[w.heap.size]? = some (.cells kz 55 (0,0))
 l:W.heap[w.heap.size+1]? = some (.cells #[.pointer none,.pointer (some ⟨w.heap.size,0,none⟩)] 38 (0,0))
 fr:Below w.heap.size w W
theorem NSt.kept {w W W':World} (h:NSt w W) (hb:Below W.heap.size W W'):NSt w W':=
 ⟨by rw [hb.block _ (block_lt h.k)]; exact h.k,by rw [hb.block _ (block_lt h.l)]; exact h.l,gr_trans h.fr hb⟩
theorem NSt.c0 {w W:World} (h:NSt w W):W.cell? ⟨w.heap.size+1,0,none⟩ = some (.pointer none):=by rw [cell_of_row W _ 0 _ _ _ h.l]; rfl
theorem NSt.c1 {w W:World} (h:NSt w W):W.cell? ⟨w.heap.size+1,1,none⟩ = some (.pointer (some ⟨w.heap.size,0,none⟩)):=by rw [cell_of_row W _ 1 _ _ _ h.l]; rfl
theorem powerNone_any (n m:Int) (w:World):Calls Tryd.prog 5 #[.int .i64 n,.int .i64 m] w fun e w'=>e = .returned (.bool true)∧Below w.heap.size w w':=by
 go_enter Tryd.func5,Tryd.ntmps5
 go_wp2
 have hS:NSt w ((w.alloc (Obj.cells #[.pointer none,.int .i64 0,.int .i64 0,.int .u32 0,.int .i32 0,.int .u32 0,.slice none 0 0,.int .i32 0] 55)).alloc (Obj.cells #[.pointer none,.pointer (some ⟨w.heap.size,0,none⟩)] 38)):=
  ⟨by rw [heap_alloc_old _ _ (by simp)]; exact heap_alloc_new w _,by have:=heap_alloc_new (w.alloc (Obj.cells #[.pointer none,.int .i64 0,.int .i64 0,.int .u32 0,.int .i32 0,.int .u32 0,.slice none 0 0,.int .i32 0] 55)) (Obj.cells #[.pointer none,.pointer (some ⟨w.heap.size,0,none⟩)] 38); rw [World.size_alloc] at this; exact this,gr_trans (gr_alloc _ _) (gr_alloc _ _)⟩
 generalize (w.alloc _).alloc _ = W at hS ⊢
 refine wp_loop_rounds 3 ?_
 rw [rounds_succ]
 have c0:=hS.c0
 go_wp2_with fail
 refine (kcrowd_n W n m ).mono ?_
 rintro e w1 ⟨rfl,hb⟩
 replace hS:=hS.kept hb
 replace c0:=hS.c0
 clear hb
 go_wp2_with fail
 refine (kten_n w1 n ).mono ?_
 rintro e w2 ⟨rfl,hb⟩
 replace hS:=hS.kept hb
 replace c0:=hS.c0
 clear hb
 go_wp2_with fail
 refine (of_is w2 0 0 0 1).mono ?_
 rintro e w3 ⟨rfl,hb⟩
 replace hS:=hS.kept hb
 replace c0:=hS.c0
 clear hb
 go_wp2_with fail
 refine (made_n w3 ).mono ?_
 rintro e w4 ⟨rfl,hb⟩
 replace hS:=hS.kept hb
 replace c0:=hS.c0
 clear hb
 clear c0
 go_wp2_with fail
 rw [rounds_succ]
 have c1:=hS.c1
 go_wp2_with fail
 refine (kcrowd_z w4 w.heap.size n m hS.k).mono ?_
 rintro e w5 ⟨rfl,hb⟩
 replace hS:=hS.kept hb
 replace c1:=hS.c1
 clear hb
 go_wp2_with fail
 refine (kten_z w5 w.heap.size n hS.k).mono ?_
 rintro e w6 ⟨rfl,hb⟩
 replace hS:=hS.kept hb
 replace c1:=hS.c1
 clear hb
 go_wp2_with fail
 refine (of_is w6 0 0 0 1).mono ?_
 rintro e w7 ⟨rfl,hb⟩
 replace hS:=hS.kept hb
 replace c1:=hS.c1
 clear hb
 go_wp2_with fail
 refine (made_z w7 w.heap.size hS.k).mono ?_
 rintro e w8 ⟨rfl,hb⟩
 replace hS:=hS.kept hb
 replace c1:=hS.c1
 clear hb
 clear c1
 go_wp2_with fail
 rw [rounds_succ]
 go_wp2
 go_ret
 exact ⟨rfl,hS.fr⟩
end Go.Proofs.YteblliofeaahmaaDoor
