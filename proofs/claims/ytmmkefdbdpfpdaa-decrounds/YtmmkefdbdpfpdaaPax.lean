/- Of what DecRoundsRow stands on: DcNum. -/
import Derived.Test.YtmmkefdbdpfpdaaPav
import Derived.Test.YtmmkefdbdpfpdaaPar
namespace Go.Proofs.Ytmmkefdbdpfpdaa
open Go.RowKit
set_option maxHeartbeats 2000000
set_option maxRecDepth 20000
theorem rnum_z (w:World)  :
  Calls Try.prog 51 #[.string ⟨#[]⟩] w fun en w'=>(∃ a n c,en = .returned (.agg #[.slice a n c])∧Mine w' w.heap.size a n c 0)∧Below w.heap.size w w':=by
 refine calls_sym Try.func51 rfl (by kernel_rfl) fun T hK=>?_
 replace hK:Kn T _ [(0,.string ⟨#[]⟩)]:=hK
 have hS:=Fb.begin w
 have hG:GsAt [] w:=trivial
 refine wp_symQ hS hG hK (fun p1=>[.n 2 #[.slice none 0 0] 60]) (fun p1=>[(0,.string ⟨#[]⟩),(2,.pointer (some ⟨(p1 0).N,0,none⟩))]) (by kernel_rfl) (fun _ _=>by kernel_rfl) (fun _=>by kernel_rfl) (fun _=>by kernel_rfl) (fun p1=>?_) (fun p1 W1 T hF hK=>?_)
 ·refine ok_n (fun _=>by kernel_rfl) ?_
  exact ok_nil
 replace hS:=SymF.fb hS hF [1000] [⟨(p1 0).N,#[.slice none 0 0],60,true⟩] (by kernel_rfl) (by kernel_rfl)
 replace hG:=hF.gx
 clear hF
 have z1:=hS.fr.size
 refine wp_seq ?_
 refine wp_symQ hS hG hK (fun p2=>[.v 6 (.string ⟨#[]⟩),.v 7 (.bool true)]) (fun p2=>[(0,.string ⟨#[]⟩),(2,.pointer (some ⟨(p1 0).N,0,none⟩)),(7,.bool true)]) (by kernel_rfl) (fun _ _=>by kernel_rfl) (fun _=>by kernel_rfl) (fun _=>by kernel_rfl) (fun p2=>?_) (fun p2 W2 T hF hK=>?_)
 ·refine ok_v (by kernel_rfl) ?_
  refine ok_vb (beq_self_eq_true (⟨#[]⟩:ByteArray).toList) (by kernel_rfl) ?_
  exact ok_nil
 replace hS:=SymF.fb hS hF [0] [⟨(p1 0).N,#[.slice none 0 0],60,true⟩] (by kernel_rfl) (by kernel_rfl)
 replace hG:=hF.gx
 clear hF
 have z2:=hS.fr.size
 refine wp_cond_true (hK.ev 7 (by kernel_rfl) _ (by kernel_rfl)) ?_
 refine wp_symQ hS hG hK (fun p3=>[.v 8 (.agg #[.slice none 0 0]),.p 0 0 [.slice none 0 0]]) (fun p3=>[(0,.string ⟨#[]⟩),(2,.pointer (some ⟨(p1 0).N,0,none⟩)),(7,.bool true)]) (by kernel_rfl) (fun _ _=>by kernel_rfl) (fun _=>by kernel_rfl) (fun _=>by kernel_rfl) (fun p3=>?_) (fun p3 W3 T hF hK=>?_)
 ·refine ok_v (by kernel_rfl) ?_
  refine ok_P (by kernel_rfl) (by kernel_rfl) (by kernel_rfl) ?_
  exact ok_nil
 replace hS:=SymF.fb hS hF [0] [⟨(p1 0).N,#[.slice none 0 0],60,true⟩] (by kernel_rfl) (by kernel_rfl)
 replace hG:=hF.gx
 clear hF
 have z3:=hS.fr.size
 refine wp_ret ?_
 refine then_r ?_
 exact sym_end hS hK (.agg #[.slice none 0 0]) [(0,0,1)] [.slice none 0 0] (by kernel_rfl) (by kernel_rfl) ⟨⟨_,_,_,rfl,⟨[],rfl,Or.inl ⟨rfl,rfl⟩,Pl.wf_nil,Pl.norm_nil,rfl,by omega⟩⟩,hS.fr⟩
theorem rnum_p (w:World) (s:ByteArray) (m:Nat) (hz:(s.toList == (⟨#[]⟩:ByteArray).toList) = false) (HP:Hid (∀ W:World,Calls Try.prog 78 #[.string s] W fun en W'=>(∃ a n c,en = .returned (.tuple #[.agg #[.slice a n c],.int .i64 0,.int .i64 0])∧Mine W' W.heap.size a n c m)∧Below W.heap.size W W')) :
  Calls Try.prog 51 #[.string s] w fun en w'=>(∃ a n c,en = .returned (.agg #[.slice a n c])∧Mine w' w.heap.size a n c m)∧Below w.heap.size w w':=by
 refine calls_sym Try.func51 rfl (by kernel_rfl) fun T hK=>?_
 replace hK:Kn T _ [(0,.string s)]:=hK
 have hS:=Fb.begin w
 have hG:GsAt [] w:=trivial
 refine wp_symQ hS hG hK (fun p1=>[.n 2 #[.slice none 0 0] 60]) (fun p1=>[(0,.string s),(2,.pointer (some ⟨(p1 0).N,0,none⟩))]) (by kernel_rfl) (fun _ _=>by kernel_rfl) (fun _=>by kernel_rfl) (fun _=>by kernel_rfl) (fun p1=>?_) (fun p1 W1 T hF hK=>?_)
 ·refine ok_n (fun _=>by kernel_rfl) ?_
  exact ok_nil
 replace hS:=SymF.fb hS hF [1000] [⟨(p1 0).N,#[.slice none 0 0],60,true⟩] (by kernel_rfl) (by kernel_rfl)
 replace hG:=hF.gx
 clear hF
 have z1:=hS.fr.size
 refine wp_seq ?_
 refine wp_symQ hS hG hK (fun p2=>[.v 6 (.string s),.v 7 (.bool false)]) (fun p2=>[(0,.string s),(2,.pointer (some ⟨(p1 0).N,0,none⟩)),(7,.bool false)]) (by kernel_rfl) (fun _ _=>by kernel_rfl) (fun _=>by kernel_rfl) (fun _=>by kernel_rfl) (fun p2=>?_) (fun p2 W2 T hF hK=>?_)
 ·refine ok_v (by kernel_rfl) ?_
  refine ok_vb (hz) (by kernel_rfl) ?_
  exact ok_nil
 replace hS:=SymF.fb hS hF [0] [⟨(p1 0).N,#[.slice none 0 0],60,true⟩] (by kernel_rfl) (by kernel_rfl)
 replace hG:=hF.gx
 clear hF
 have z2:=hS.fr.size
 refine wp_cond_false (hK.ev 7 (by kernel_rfl) _ (by kernel_rfl)) ?_
 refine wp_skip ?_
 refine then_n ?_
 refine wp_symQ hS hG hK (fun p3=>[.v 10 (.string s),.c (some 11) (cG W2.heap.size m fun x9=>.tuple #[.agg #[x9],.int .i64 0,.int .i64 0]),.v 9 (.tuple #[.agg #[.slice (p3 1).A (p3 1).N (p3 1).C],.int .i64 0,.int .i64 0]),.v 12 (.agg #[.slice (p3 1).A (p3 1).N (p3 1).C]),.v 13 (.int .i64 0),.v 14 (.int .i64 0),.n 3 #[.slice none 0 0] 60,.p 1006 0 [.slice (p3 1).A (p3 1).N (p3 1).C],.v 4 (.int .i64 0),.v 5 (.int .i64 0)]) (fun p3=>[(2,.pointer (some ⟨(p1 0).N,0,none⟩)),(3,.pointer (some ⟨(p3 6).N,0,none⟩)),(7,.bool false)]) (by kernel_rfl) (fun _ _=>by kernel_rfl) (fun _=>by kernel_rfl) (fun _=>by kernel_rfl) (fun p3=>?_) (fun p3 W3 T hF hK=>?_)
 ·refine ok_v (by kernel_rfl) ?_
  refine ok_c (fun W cx=>as_g cx.hb (unhide HP _)) (by kernel_rfl) ?_
  iterate 4 refine ok_v (by kernel_rfl) ?_
  refine ok_n (fun _=>by kernel_rfl) ?_
  refine ok_P (by kernel_rfl) (by kernel_rfl) (by kernel_rfl) ?_
  iterate 2 refine ok_v (by kernel_rfl) ?_
  exact ok_nil
 replace hS:=SymF.fb hS hF [0,1006] [⟨(p1 0).N,#[.slice none 0 0],60,true⟩,⟨(p3 6).N,#[.slice (p3 1).A (p3 1).N (p3 1).C],60,true⟩] (by kernel_rfl) (by kernel_rfl)
 replace hG:GsAt (gM W2.heap.size (p3 1).A (p3 1).N (p3 1).C m :: _) W3:=⟨hF.fx 1,hF.gx⟩
 clear hF
 have z3:=hS.fr.size
 refine wp_symQ hS hG hK (fun p4=>[.l 15 (.agg #[.slice (p3 1).A (p3 1).N (p3 1).C]) 1 0,.p 0 0 [.slice (p3 1).A (p3 1).N (p3 1).C]]) (fun p4=>[(2,.pointer (some ⟨(p1 0).N,0,none⟩)),(7,.bool false)]) (by kernel_rfl) (fun _ _=>by kernel_rfl) (fun _=>by kernel_rfl) (fun _=>by kernel_rfl) (fun p4=>?_) (fun p4 W4 T hF hK=>?_)
 ·refine ok_L (by kernel_rfl) (by kernel_rfl) (by kernel_rfl) ?_
  refine ok_P (by kernel_rfl) (by kernel_rfl) (by kernel_rfl) ?_
  exact ok_nil
 replace hS:=SymF.fb hS hF [0] [⟨(p1 0).N,#[.slice (p3 1).A (p3 1).N (p3 1).C],60,true⟩] (by kernel_rfl) (by kernel_rfl)
 replace hG:=hF.gx
 clear hF
 have z4:=hS.fr.size
 refine wp_ret ?_
 exact sym_end hS hK (.agg #[.slice (p3 1).A (p3 1).N (p3 1).C]) [(0,0,1)] [.slice (p3 1).A (p3 1).N (p3 1).C] (by kernel_rfl) (by kernel_rfl) ⟨⟨_,_,_,rfl,Mine.mono hG.1 z2⟩,hS.fr⟩
end Go.Proofs.Ytmmkefdbdpfpdaa
