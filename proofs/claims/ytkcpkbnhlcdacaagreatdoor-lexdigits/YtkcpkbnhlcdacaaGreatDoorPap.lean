/- Of what LexDigitsRow stands on: LxDigW. -/
import Derived.Test.YtkcpkbnhlcdacaaGreatDoorPak
import Derived.Test.YtkcpkbnhlcdacaaGreatDoorPan
import Derived.Test.YtkcpkbnhlcdacaaGreatDoorPao
namespace Go.Proofs.YtkcpkbnhlcdacaaGreatDoor
open Go.RowKit
set_option maxHeartbeats 2000000
set_option maxRecDepth 20000
def HeldG (gl:List (Nat×Obj)) (W:World):Prop:=∀ g o,(g,o)∈gl→∃ o',W.heap[g]? = some o'∧∀ a x,ldO a o = some x→ldO a o' = some x
theorem HeldG.kept {gl:List (Nat×Obj)} {w w':World} (h:HeldG gl w) (hb:Below w.heap.size w w'):HeldG gl w':=fun g o hg=>by
 obtain ⟨o',h1,h2⟩:=h g o hg
 refine ⟨o',?_,h2⟩
 have hlt:g < w.heap.size:=by
  rcases Nat.lt_or_ge g w.heap.size with h|h
  ·exact h
  ·rw [Array.getElem?_eq_none h] at h1; cases h1
 rw [hb.block g hlt]; exact h1
theorem lexDigits_walk (w:World) (r d:Int) (b:Bool) (hN:Nou w) (hE:HeldG lxalive_gl w) (H1:Hid (∀ W:World,Nou W→Calls Tryz.prog 8 #[.int .i32 r] W fun e W'=>e = .returned (.tuple #[.int .i64 d,.bool b])∧Below W.heap.size W W')) (H2:Hid (∀ W:World,Calls Tryz.prog 9 #[.int .i32 r] W fun e W'=>e = .returned (.tuple #[.int .i64 d,.bool b])∧Below W.heap.size W W')) :
  Calls Tryz.prog 3 #[.int .i32 r] w fun en w'=>en = .returned (.bool true)∧Below w.heap.size w w':=by
 refine calls_sym Tryz.func3 rfl (by kernel_rfl) fun T hK=>?_
 replace hK:Kn T _ [(0,.int .i32 r)]:=hK
 have hS:=Fb.begin w
 have hG:GsAt [] w:=trivial
 refine wp_symQ hS hG hK (fun p1=>[.v 2 (.bool false)]) (fun p1=>[(0,.int .i32 r),(2,.bool false)]) (by kernel_rfl) (fun _ _=>by kernel_rfl) (fun _=>by kernel_rfl) (fun _=>by kernel_rfl) (fun p1=>?_) (fun p1 W1 T hF hK=>?_)
 ·refine ok_v (by kernel_rfl) ?_
  exact ok_nil
 replace hS:=SymF.fb hS hF [] [] (by kernel_rfl) (by kernel_rfl)
 replace hG:=hF.gx
 clear hF
 have z1:=hS.fr.size
 refine wp_symQ hS hG hK (fun p2=>[.c (some 8) (cV (.bool true)),.v 3 (.bool true)]) (fun p2=>[(0,.int .i32 r),(2,.bool false),(3,.bool true)]) (by kernel_rfl) (fun _ _=>by kernel_rfl) (fun _=>by kernel_rfl) (fun _=>by kernel_rfl) (fun p2=>?_) (fun p2 W2 T hF hK=>?_)
 ·refine ok_c (fun W cx=>as_v (lxalive _ (hE.kept cx.fr))) (by kernel_rfl) ?_
  refine ok_v (by kernel_rfl) ?_
  exact ok_nil
 replace hS:=SymF.fb hS hF [] [] (by kernel_rfl) (by kernel_rfl)
 replace hG:=hF.gx
 clear hF
 have z2:=hS.fr.size
 refine wp_symQ hS hG hK (fun p3=>[.v 10 (.int .i32 r),.c (some 11) (cV (.tuple #[.int .i64 d,.bool b])),.v 9 (.tuple #[.int .i64 d,.bool b]),.v 12 (.int .i64 d),.v 13 (.bool b),.v 4 (.int .i64 d),.v 5 (.bool b)]) (fun p3=>[(0,.int .i32 r),(2,.bool false),(3,.bool true),(4,.int .i64 d),(5,.bool b)]) (by kernel_rfl) (fun _ _=>by kernel_rfl) (fun _=>by kernel_rfl) (fun _=>by kernel_rfl) (fun p3=>?_) (fun p3 W3 T hF hK=>?_)
 ·refine ok_v (by kernel_rfl) ?_
  refine ok_c (fun W cx=>as_v (unhide H1 _ (hN.kept cx.fr))) (by kernel_rfl) ?_
  iterate 5 refine ok_v (by kernel_rfl) ?_
  exact ok_nil
 replace hS:=SymF.fb hS hF [] [] (by kernel_rfl) (by kernel_rfl)
 replace hG:=hF.gx
 clear hF
 have z3:=hS.fr.size
 refine wp_symQ hS hG hK (fun p4=>[.v 15 (.int .i32 r),.c (some 16) (cV (.tuple #[.int .i64 d,.bool b])),.v 14 (.tuple #[.int .i64 d,.bool b]),.v 17 (.int .i64 d),.v 18 (.bool b),.v 6 (.int .i64 d),.v 7 (.bool b)]) (fun p4=>[(2,.bool false),(3,.bool true),(4,.int .i64 d),(5,.bool b),(6,.int .i64 d),(7,.bool b)]) (by kernel_rfl) (fun _ _=>by kernel_rfl) (fun _=>by kernel_rfl) (fun _=>by kernel_rfl) (fun p4=>?_) (fun p4 W4 T hF hK=>?_)
 ·refine ok_v (by kernel_rfl) ?_
  refine ok_c (fun W cx=>as_v (unhide H2 _)) (by kernel_rfl) ?_
  iterate 5 refine ok_v (by kernel_rfl) ?_
  exact ok_nil
 replace hS:=SymF.fb hS hF [] [] (by kernel_rfl) (by kernel_rfl)
 replace hG:=hF.gx
 clear hF
 have z4:=hS.fr.size
 refine wp_symQ hS hG hK (fun p5=>[.v 19 (.bool true),.v 20 (.bool true),.v 21 (.int .i64 d),.v 22 (.int .i64 d),.v 23 (.bool true),.v 24 (.bool true),.v 25 (.bool true),.v 26 (.bool b),.v 27 (.bool b),.v 28 (.bool true),.v 29 (.bool true),.v 2 (.bool true)]) (fun p5=>[(2,.bool true)]) (by kernel_rfl) (fun _ _=>by kernel_rfl) (fun _=>by kernel_rfl) (fun _=>by kernel_rfl) (fun p5=>?_) (fun p5 W5 T hF hK=>?_)
 ·iterate 4 refine ok_v (by kernel_rfl) ?_
  refine ok_vb (beq_self_eq_true (d:Int)) (by kernel_rfl) ?_
  iterate 4 refine ok_v (by kernel_rfl) ?_
  refine ok_vb (beq_self_eq_true (b:Bool)) (by kernel_rfl) ?_
  iterate 2 refine ok_v (by kernel_rfl) ?_
  exact ok_nil
 replace hS:=SymF.fb hS hF [] [] (by kernel_rfl) (by kernel_rfl)
 replace hG:=hF.gx
 clear hF
 have z5:=hS.fr.size
 refine wp_ret ?_
 exact sym_end hS hK (.bool true) [] [] (by kernel_rfl) (by kernel_rfl) ⟨rfl,hS.fr⟩
theorem lexDigits_any (r:Int) (w:World) (hr0:-2147483648≤r) (hr1:r≤2147483647) (hN:Nou w) (hG:HeldG lxalive_gl w):Calls Tryz.prog 3 #[.int .i32 r] w fun e w'=>e = .returned (.bool true)∧Below w.heap.size w w':=by
 obtain ⟨d,b,h1,h2⟩:=dig_same r hr0 hr1
 exact lexDigits_walk w r d b hN hG (hide h1) (hide h2)
end Go.Proofs.YtkcpkbnhlcdacaaGreatDoor
