/- Of what DecRoundsRow stands on: DcCutW. -/
import Derived.Test.YtmmkefdbdpfpdaaPav
import Derived.Test.YtmmkefdbdpfpdaaPar
namespace Go.Proofs.Ytmmkefdbdpfpdaa
open Go.RowKit
set_option maxHeartbeats 2000000
set_option maxRecDepth 20000
theorem tmod2 (b:Nat):(b:Int).tmod 2 = ((b % 2:Nat):Int):=rfl
theorem rcut_A_lt_u (w:World) (g:Bool) (s:ByteArray) (x pl c:Int) (md M N1:Nat) (t:ByteArray) (g2:Bool) (s2:ByteArray) (x2 e2:Int) (k j b:Nat) (hd tl:ByteArray) (o:Bool) (a:Nat) (hm:s.size≤65536) (_hx0:-1073741824≤x) (_hx1:x≤1073741824) (hc:pl - x = c) (hc0:0 < c) (hc1:c≤2147483648) (hk:(k:Int)+c = (s.size:Int)) (hk1:0 < k) (hhd:s.extract 0 k = hd) (htl:s.extract k s.size = tl) (hj:j+1 = hd.size) (hb:∀ h:j < hd.size,(hd[j]'h).toNat = b) (ho:(((b % 2:Nat):Int) == 1) = o) (ht:0 < tl.size) (ha:∀ h:0 < tl.size,(tl[0]'h).toNat = a) (ha5:a < 53) (H1:Hid (∀ W:World,Calls Try.prog 51 #[.string hd] W fun en W'=>(∃ a n c,en = .returned (.agg #[.slice a n c])∧Mine W' W.heap.size a n c M)∧Below W.heap.size W W')) (H2:Hid (∀ W:World,Calls Try.prog 96 #[.bool g,.bool o,.int .i64 (-1),.int .u8 (md:Int)] W fun e W'=>e = .returned (.bool true)∧Below W.heap.size W W')) (HA:Hid (∀ (W:World) (a:Option Addr) (n c:Nat) (a':Option Addr) (n' c':Nat),Num W a n M→Num W a' n' 1→Calls Try.prog 54 #[.agg #[.slice a n c],.agg #[.slice a' n' c']] W fun en W'=>(∃ a n c,en = .returned (.tuple #[.agg #[.slice a n c],.int .i64 0])∧Mine W' W.heap.size a n c N1)∧Below W.heap.size W W')) (HT:Hid (∀ (W:World) (a:Option Addr) (n c:Nat),Num W a n N1→Calls Try.prog 56 #[.agg #[.slice a n c]] W fun en W'=>en = .returned (.tuple #[.string t,.int .i64 0])∧Below W.heap.size W W')) (HM:Hid (∀ W:World,Calls Try.prog 17 #[.bool g,.string t,.int .i64 pl] W fun e W'=>e = .returned (.tuple #[.agg #[.bool g2,.string s2,.int .i64 x2],.int .i64 e2])∧Below W.heap.size W W')) :
  Calls Try.prog 61 #[.agg #[.bool g,.string s,.int .i64 x],.int .i64 pl,.int .u8 (md:Int)] w fun en w'=>en = .returned (.tuple #[.agg #[.bool g2,.string s2,.int .i64 x2],.int .i64 e2])∧Below w.heap.size w w':=by
 have hto:script Try.prog 0 (Instr.sliceAt 9 (.string s) none (some (.int .i64 (k:Int))) none) [] = some (.string hd,[]):=by rw [← hhd]; exact script_to Try.under_str (by omega) (by omega)
 have hfr:script Try.prog 0 (Instr.sliceAt 9 (.string s) (some (.int .i64 (k:Int))) none none) [] = some (.string tl,[]):=by rw [← htl]; exact script_from Try.under_str (by omega) (by omega)
 have hiy:script Try.prog 0 (Instr.index 9 (.string hd) (.int .i64 (j:Int))) [] = some (.int .u8 (b:Int),[]):=script_index (j:=j) Try.under_str rfl (by omega) (hb _)
 have hhs:hd.size≤65536:=by rw [← hhd,ByteArray.size_extract]; omega
 have hix:script Try.prog 0 (Instr.index 9 (.string tl) (.int .i64 0)) [] = some (.int .u8 (a:Int),[]):=script_index (j:=0) Try.under_str rfl ht (ha _)
 refine calls_sym Try.func61 rfl (by kernel_rfl) fun T hK=>?_
 replace hK:Kn T _ [(0,.agg #[.bool g,.string s,.int .i64 x]),(1,.int .i64 pl),(2,.int .u8 (md:Int))]:=hK
 have hS:=Fb.begin w
 have hG:GsAt [] w:=trivial
 refine wp_symQ hS hG hK (fun p1=>[.n 3 #[.bool g,.string s,.int .i64 x] 23,.n 6 #[.bool false,.string ⟨#[]⟩,.int .i64 0] 23,.v 7 (.int .i64 0)]) (fun p1=>[(1,.int .i64 pl),(2,.int .u8 (md:Int)),(3,.pointer (some ⟨(p1 0).N,0,none⟩)),(6,.pointer (some ⟨(p1 1).N,0,none⟩)),(7,.int .i64 0)]) (by kernel_rfl) (fun _ _=>by kernel_rfl) (fun _=>by kernel_rfl) (fun _=>by kernel_rfl) (fun p1=>?_) (fun p1 W1 T hF hK=>?_)
 ·iterate 2 refine ok_n (fun _=>by kernel_rfl) ?_
  refine ok_v (by kernel_rfl) ?_
  exact ok_nil
 replace hS:=SymF.fb hS hF [1000,1001] [⟨(p1 0).N,#[.bool g,.string s,.int .i64 x],23,true⟩,⟨(p1 1).N,#[.bool false,.string ⟨#[]⟩,.int .i64 0],23,true⟩] (by kernel_rfl) (by kernel_rfl)
 replace hG:=hF.gx
 clear hF
 have z1:=hS.fr.size
 refine wp_symQ hS hG hK (fun p2=>[.v 16 (.pointer (some ⟨(p1 0).N,1,none⟩)),.l 17 (.string s) 0 1,.v 18 (.int .i64 (s.size:Int)),.v 19 (.int .i64 pl),.v 20 (.pointer (some ⟨(p1 0).N,2,none⟩)),.l 21 (.int .i64 x) 0 2,.v 22 (.int .i64 c),.v 23 (.int .i64 (k:Int)),.v 8 (.int .i64 (k:Int))]) (fun p2=>[(1,.int .i64 pl),(2,.int .u8 (md:Int)),(3,.pointer (some ⟨(p1 0).N,0,none⟩)),(6,.pointer (some ⟨(p1 1).N,0,none⟩)),(7,.int .i64 0),(8,.int .i64 (k:Int))]) (by kernel_rfl) (fun _ _=>by kernel_rfl) (fun _=>by kernel_rfl) (fun _=>by kernel_rfl) (fun p2=>?_) (fun p2 W2 T hF hK=>?_)
 ·refine ok_v (by kernel_rfl) ?_
  refine ok_L (by kernel_rfl) (by kernel_rfl) (by kernel_rfl) ?_
  iterate 3 refine ok_v (by kernel_rfl) ?_
  refine ok_L (by kernel_rfl) (by kernel_rfl) (by kernel_rfl) ?_
  refine ok_vi ((wr64 (x:=pl - x) (by omega) (by omega)).trans hc) (by kernel_rfl) ?_
  refine ok_vi ((wr64 (x:=(s.size:Int) - c) (by omega) (by omega)).trans (by omega)) (by kernel_rfl) ?_
  refine ok_v (by kernel_rfl) ?_
  exact ok_nil
 replace hS:=SymF.fb hS hF [0,1] [⟨(p1 0).N,#[.bool g,.string s,.int .i64 x],23,true⟩,⟨(p1 1).N,#[.bool false,.string ⟨#[]⟩,.int .i64 0],23,true⟩] (by kernel_rfl) (by kernel_rfl)
 replace hG:=hF.gx
 clear hF
 have z2:=hS.fr.size
 refine wp_symQ hS hG hK (fun p3=>[.v 24 (.pointer (some ⟨(p1 0).N,1,none⟩)),.l 25 (.string s) 0 1,.v 9 (.string { data:=#[] }),.v 10 (.string s)]) (fun p3=>[(1,.int .i64 pl),(2,.int .u8 (md:Int)),(3,.pointer (some ⟨(p1 0).N,0,none⟩)),(6,.pointer (some ⟨(p1 1).N,0,none⟩)),(7,.int .i64 0),(8,.int .i64 (k:Int)),(9,.string { data:=#[] }),(10,.string s)]) (by kernel_rfl) (fun _ _=>by kernel_rfl) (fun _=>by kernel_rfl) (fun _=>by kernel_rfl) (fun p3=>?_) (fun p3 W3 T hF hK=>?_)
 ·refine ok_v (by kernel_rfl) ?_
  refine ok_L (by kernel_rfl) (by kernel_rfl) (by kernel_rfl) ?_
  iterate 2 refine ok_v (by kernel_rfl) ?_
  exact ok_nil
 replace hS:=SymF.fb hS hF [0,1] [⟨(p1 0).N,#[.bool g,.string s,.int .i64 x],23,true⟩,⟨(p1 1).N,#[.bool false,.string ⟨#[]⟩,.int .i64 0],23,true⟩] (by kernel_rfl) (by kernel_rfl)
 replace hG:=hF.gx
 clear hF
 have z3:=hS.fr.size
 refine wp_seq ?_
 refine wp_symQ hS hG hK (fun p4=>[.v 26 (.int .i64 (k:Int)),.v 27 (.bool true)]) (fun p4=>[(1,.int .i64 pl),(2,.int .u8 (md:Int)),(3,.pointer (some ⟨(p1 0).N,0,none⟩)),(6,.pointer (some ⟨(p1 1).N,0,none⟩)),(7,.int .i64 0),(8,.int .i64 (k:Int)),(9,.string { data:=#[] }),(10,.string s),(27,.bool true)]) (by kernel_rfl) (fun _ _=>by kernel_rfl) (fun _=>by kernel_rfl) (fun _=>by kernel_rfl) (fun p4=>?_) (fun p4 W4 T hF hK=>?_)
 ·refine ok_v (by kernel_rfl) ?_
  refine ok_vb (decide_eq_true (show (k:Int) > 0 by omega)) (by kernel_rfl) ?_
  exact ok_nil
 replace hS:=SymF.fb hS hF [0,1] [⟨(p1 0).N,#[.bool g,.string s,.int .i64 x],23,true⟩,⟨(p1 1).N,#[.bool false,.string ⟨#[]⟩,.int .i64 0],23,true⟩] (by kernel_rfl) (by kernel_rfl)
 replace hG:=hF.gx
 clear hF
 have z4:=hS.fr.size
 refine wp_cond_true (hK.ev 27 (by kernel_rfl) _ (by kernel_rfl)) ?_
 refine wp_symG hS hG hK (fun p5=>[.v 28 (.pointer (some ⟨(p1 0).N,1,none⟩)),.l 29 (.string s) 0 1,.v 30 (.int .i64 (k:Int)),.v 31 (.string hd),.v 32 (.pointer (some ⟨(p1 0).N,1,none⟩)),.l 33 (.string s) 0 1,.v 34 (.int .i64 (k:Int)),.v 35 (.string tl),.v 9 (.string hd),.v 10 (.string tl)]) (fun p5=>[(1,.int .i64 pl),(2,.int .u8 (md:Int)),(3,.pointer (some ⟨(p1 0).N,0,none⟩)),(6,.pointer (some ⟨(p1 1).N,0,none⟩)),(7,.int .i64 0),(8,.int .i64 (k:Int)),(9,.string hd),(10,.string tl),(27,.bool true)]) (by kernel_rfl) (fun _ _=>by kernel_rfl) (fun _=>by kernel_rfl) (fun _=>by kernel_rfl) (fun p5=>?_) (fun p5 W5 T hF hK=>?_)
 ·refine ok_v (by kernel_rfl) ?_
  refine ok_L (by kernel_rfl) (by kernel_rfl) (by kernel_rfl) ?_
  refine ok_v (by kernel_rfl) ?_
  refine ok_vr (hto) (by kernel_rfl) ?_
  refine ok_v (by kernel_rfl) ?_
  refine ok_L (by kernel_rfl) (by kernel_rfl) (by kernel_rfl) ?_
  refine ok_v (by kernel_rfl) ?_
  refine ok_vr (hfr) (by kernel_rfl) ?_
  iterate 2 refine ok_v (by kernel_rfl) ?_
  exact ok_nil
 replace hS:=SymF.fb hS hF [0,1] [⟨(p1 0).N,#[.bool g,.string s,.int .i64 x],23,true⟩,⟨(p1 1).N,#[.bool false,.string ⟨#[]⟩,.int .i64 0],23,true⟩] (by kernel_rfl) (by kernel_rfl)
 replace hG:=hF.gx
 clear hF
 have z5:=hS.fr.size
 refine then_n ?_
 refine wp_symQ hS hG hK (fun p6=>[.v 11 (.int .i64 (-1))]) (fun p6=>[(1,.int .i64 pl),(2,.int .u8 (md:Int)),(3,.pointer (some ⟨(p1 0).N,0,none⟩)),(6,.pointer (some ⟨(p1 1).N,0,none⟩)),(7,.int .i64 0),(8,.int .i64 (k:Int)),(9,.string hd),(10,.string tl),(11,.int .i64 (-1)),(27,.bool true)]) (by kernel_rfl) (fun _ _=>by kernel_rfl) (fun _=>by kernel_rfl) (fun _=>by kernel_rfl) (fun p6=>?_) (fun p6 W6 T hF hK=>?_)
 ·refine ok_v (by kernel_rfl) ?_
  exact ok_nil
 replace hS:=SymF.fb hS hF [0,1] [⟨(p1 0).N,#[.bool g,.string s,.int .i64 x],23,true⟩,⟨(p1 1).N,#[.bool false,.string ⟨#[]⟩,.int .i64 0],23,true⟩] (by kernel_rfl) (by kernel_rfl)
 replace hG:=hF.gx
 clear hF
 have z6:=hS.fr.size
 refine wp_seq ?_
 refine wp_symQ hS hG hK (fun p7=>[.v 36 (.int .i64 (k:Int)),.v 37 (.bool true),.v 38 (.bool true),.v 39 (.string tl),.v 40 (.int .u8 (a:Int)),.v 41 (.bool false),.v 42 (.bool false)]) (fun p7=>[(1,.int .i64 pl),(2,.int .u8 (md:Int)),(3,.pointer (some ⟨(p1 0).N,0,none⟩)),(6,.pointer (some ⟨(p1 1).N,0,none⟩)),(7,.int .i64 0),(9,.string hd),(10,.string tl),(11,.int .i64 (-1)),(27,.bool true),(42,.bool false)]) (by kernel_rfl) (fun _ _=>by kernel_rfl) (fun _=>by kernel_rfl) (fun _=>by kernel_rfl) (fun p7=>?_) (fun p7 W7 T hF hK=>?_)
 ·refine ok_v (by kernel_rfl) ?_
  refine ok_vb (decide_eq_true (show (k:Int) ≥ 0 by omega)) (by kernel_rfl) ?_
  iterate 2 refine ok_v (by kernel_rfl) ?_
  refine ok_vr (hix) (by kernel_rfl) ?_
  refine ok_vb (decide_eq_false (show ¬ (a:Int) ≥ 53 by omega)) (by kernel_rfl) ?_
  refine ok_v (by kernel_rfl) ?_
  exact ok_nil
 replace hS:=SymF.fb hS hF [0,1] [⟨(p1 0).N,#[.bool g,.string s,.int .i64 x],23,true⟩,⟨(p1 1).N,#[.bool false,.string ⟨#[]⟩,.int .i64 0],23,true⟩] (by kernel_rfl) (by kernel_rfl)
 replace hG:=hF.gx
 clear hF
 have z7:=hS.fr.size
 refine wp_cond_false (hK.ev 42 (by kernel_rfl) _ (by kernel_rfl)) ?_
 refine wp_skip ?_
 refine then_n ?_
 refine wp_symQ hS hG hK (fun p8=>[.v 45 (.string hd),.v 46 (.int .i64 (hd.size:Int)),.v 47 (.bool true),.v 48 (.bool true),.v 49 (.string hd),.v 50 (.string hd),.v 51 (.int .i64 (hd.size:Int)),.v 52 (.int .i64 (j:Int)),.v 53 (.int .u8 (b:Int)),.v 54 (.int .u8 ((b % 2:Nat):Int)),.v 55 (.bool o),.v 56 (.bool o),.v 12 (.bool o)]) (fun p8=>[(1,.int .i64 pl),(2,.int .u8 (md:Int)),(3,.pointer (some ⟨(p1 0).N,0,none⟩)),(6,.pointer (some ⟨(p1 1).N,0,none⟩)),(7,.int .i64 0),(9,.string hd),(10,.string tl),(11,.int .i64 (-1)),(12,.bool o),(27,.bool true),(42,.bool false)]) (by kernel_rfl) (fun _ _=>by kernel_rfl) (fun _=>by kernel_rfl) (fun _=>by kernel_rfl) (fun p8=>?_) (fun p8 W8 T hF hK=>?_)
 ·iterate 2 refine ok_v (by kernel_rfl) ?_
  refine ok_vb (decide_eq_true (show (hd.size:Int) > 0 by omega)) (by kernel_rfl) ?_
  iterate 4 refine ok_v (by kernel_rfl) ?_
  refine ok_vi ((wr64 (x:=(hd.size:Int) - 1) (by omega) (by omega)).trans (by omega)) (by kernel_rfl) ?_
  refine ok_vr (hiy) (by kernel_rfl) ?_
  refine ok_vi (tmod2 b) (by kernel_rfl) ?_
  refine ok_vb (ho) (by kernel_rfl) ?_
  iterate 2 refine ok_v (by kernel_rfl) ?_
  exact ok_nil
 replace hS:=SymF.fb hS hF [0,1] [⟨(p1 0).N,#[.bool g,.string s,.int .i64 x],23,true⟩,⟨(p1 1).N,#[.bool false,.string ⟨#[]⟩,.int .i64 0],23,true⟩] (by kernel_rfl) (by kernel_rfl)
 replace hG:=hF.gx
 clear hF
 have z8:=hS.fr.size
 refine wp_symQ hS hG hK (fun p9=>[.v 57 (.string hd),.c (some 58) (cN W8.heap.size M),.n 13 #[.slice none 0 0] 60,.p 1002 0 [.slice (p9 1).A (p9 1).N (p9 1).C]]) (fun p9=>[(1,.int .i64 pl),(2,.int .u8 (md:Int)),(3,.pointer (some ⟨(p1 0).N,0,none⟩)),(6,.pointer (some ⟨(p1 1).N,0,none⟩)),(7,.int .i64 0),(10,.string tl),(11,.int .i64 (-1)),(12,.bool o),(13,.pointer (some ⟨(p9 2).N,0,none⟩)),(27,.bool true),(42,.bool false)]) (by kernel_rfl) (fun _ _=>by kernel_rfl) (fun _=>by kernel_rfl) (fun _=>by kernel_rfl) (fun p9=>?_) (fun p9 W9 T hF hK=>?_)
 ·refine ok_v (by kernel_rfl) ?_
  refine ok_c (fun W cx=>as_n cx.hb (unhide H1 _)) (by kernel_rfl) ?_
  refine ok_n (fun _=>by kernel_rfl) ?_
  refine ok_P (by kernel_rfl) (by kernel_rfl) (by kernel_rfl) ?_
  exact ok_nil
 replace hS:=SymF.fb hS hF [0,1,1002] [⟨(p1 0).N,#[.bool g,.string s,.int .i64 x],23,true⟩,⟨(p1 1).N,#[.bool false,.string ⟨#[]⟩,.int .i64 0],23,true⟩,⟨(p9 2).N,#[.slice (p9 1).A (p9 1).N (p9 1).C],60,true⟩] (by kernel_rfl) (by kernel_rfl)
 replace hG:GsAt (gM W8.heap.size (p9 1).A (p9 1).N (p9 1).C M :: _) W9:=⟨hF.fx 1,hF.gx⟩
 clear hF
 have z9:=hS.fr.size
 refine wp_seq ?_
 refine wp_symQ hS hG hK (fun p10=>[.v 59 (.pointer (some ⟨(p1 0).N,0,none⟩)),.l 60 (.bool g) 0 0,.v 61 (.bool o),.v 62 (.int .i64 (-1)),.v 63 (.int .u8 (md:Int)),.c (some 64) (cV (.bool true))]) (fun p10=>[(1,.int .i64 pl),(3,.pointer (some ⟨(p1 0).N,0,none⟩)),(6,.pointer (some ⟨(p1 1).N,0,none⟩)),(7,.int .i64 0),(10,.string tl),(13,.pointer (some ⟨(p9 2).N,0,none⟩)),(27,.bool true),(42,.bool false),(64,.bool true)]) (by kernel_rfl) (fun _ _=>by kernel_rfl) (fun _=>by kernel_rfl) (fun _=>by kernel_rfl) (fun p10=>?_) (fun p10 W10 T hF hK=>?_)
 ·refine ok_v (by kernel_rfl) ?_
  refine ok_L (by kernel_rfl) (by kernel_rfl) (by kernel_rfl) ?_
  iterate 3 refine ok_v (by kernel_rfl) ?_
  refine ok_c (fun W cx=>as_v (unhide H2 _)) (by kernel_rfl) ?_
  exact ok_nil
 replace hS:=SymF.fb hS hF [0,1,2] [⟨(p1 0).N,#[.bool g,.string s,.int .i64 x],23,true⟩,⟨(p1 1).N,#[.bool false,.string ⟨#[]⟩,.int .i64 0],23,true⟩,⟨(p9 2).N,#[.slice (p9 1).A (p9 1).N (p9 1).C],60,true⟩] (by kernel_rfl) (by kernel_rfl)
 replace hG:=hF.gx
 clear hF
 have z10:=hS.fr.size
 refine wp_cond_true (hK.ev 64 (by kernel_rfl) _ (by kernel_rfl)) ?_
 refine wp_symG hS hG hK (fun p11=>[.l 66 (.agg #[.slice (p9 1).A (p9 1).N (p9 1).C]) 2 0,.c (some 67) (cN W10.heap.size 1),.c (some 68) (cO W10.heap.size N1),.v 65 (.tuple #[.agg #[.slice (p11 2).A (p11 2).N (p11 2).C],.int .i64 0]),.v 69 (.agg #[.slice (p11 2).A (p11 2).N (p11 2).C]),.v 70 (.int .i64 0),.p 2 0 [.slice (p11 2).A (p11 2).N (p11 2).C]]) (fun p11=>[(1,.int .i64 pl),(3,.pointer (some ⟨(p1 0).N,0,none⟩)),(6,.pointer (some ⟨(p1 1).N,0,none⟩)),(7,.int .i64 0),(10,.string tl),(13,.pointer (some ⟨(p9 2).N,0,none⟩)),(27,.bool true),(42,.bool false),(64,.bool true)]) (by kernel_rfl) (fun _ _=>by kernel_rfl) (fun _=>by kernel_rfl) (fun _=>by kernel_rfl) (fun p11=>?_) (fun p11 W11 T hF hK=>?_)
 ·refine ok_L (by kernel_rfl) (by kernel_rfl) (by kernel_rfl) ?_
  refine ok_c (fun W cx=>as_n cx.hb (rof_any 1 _ (by decide))) (by kernel_rfl) ?_
  refine ok_c (fun W cx=>as_o cx.hb (unhide HA _ _ _ (p9 1).C _ _ (p11 1).C (Mine.num cx.G.1) (Mine.num (cx.F 1 (by kernel_rfl))))) (by kernel_rfl) ?_
  iterate 3 refine ok_v (by kernel_rfl) ?_
  refine ok_P (by kernel_rfl) (by kernel_rfl) (by kernel_rfl) ?_
  exact ok_nil
 replace hS:=SymF.fb hS hF [0,1,2] [⟨(p1 0).N,#[.bool g,.string s,.int .i64 x],23,true⟩,⟨(p1 1).N,#[.bool false,.string ⟨#[]⟩,.int .i64 0],23,true⟩,⟨(p9 2).N,#[.slice (p11 2).A (p11 2).N (p11 2).C],60,true⟩] (by kernel_rfl) (by kernel_rfl)
 replace hG:GsAt (gM W10.heap.size (p11 1).A (p11 1).N (p11 1).C 1 :: gM W10.heap.size (p11 2).A (p11 2).N (p11 2).C N1 :: _) W11:=⟨hF.fx 1,hF.fx 2,hF.gx⟩
 clear hF
 have z11:=hS.fr.size
 refine then_n ?_
 refine wp_symQ hS hG hK (fun p12=>[.l 72 (.agg #[.slice (p11 2).A (p11 2).N (p11 2).C]) 2 0,.c (some 73) (cV (.tuple #[.string t,.int .i64 0])),.v 71 (.tuple #[.string t,.int .i64 0]),.v 74 (.string t),.v 75 (.int .i64 0),.v 14 (.string t),.v 15 (.int .i64 0)]) (fun p12=>[(1,.int .i64 pl),(3,.pointer (some ⟨(p1 0).N,0,none⟩)),(6,.pointer (some ⟨(p1 1).N,0,none⟩)),(7,.int .i64 0),(10,.string tl),(14,.string t),(27,.bool true),(42,.bool false),(64,.bool true)]) (by kernel_rfl) (fun _ _=>by kernel_rfl) (fun _=>by kernel_rfl) (fun _=>by kernel_rfl) (fun p12=>?_) (fun p12 W12 T hF hK=>?_)
 ·refine ok_L (by kernel_rfl) (by kernel_rfl) (by kernel_rfl) ?_
  refine ok_c (fun W cx=>as_v (unhide HT _ _ _ (p11 2).C (Mine.num cx.G.2.1))) (by kernel_rfl) ?_
  iterate 5 refine ok_v (by kernel_rfl) ?_
  exact ok_nil
 replace hS:=SymF.fb hS hF [0,1] [⟨(p1 0).N,#[.bool g,.string s,.int .i64 x],23,true⟩,⟨(p1 1).N,#[.bool false,.string ⟨#[]⟩,.int .i64 0],23,true⟩] (by kernel_rfl) (by kernel_rfl)
 replace hG:=hF.gx
 clear hF
 have z12:=hS.fr.size
 refine wp_symQ hS hG hK (fun p13=>[.v 76 (.pointer (some ⟨(p1 0).N,0,none⟩)),.l 77 (.bool g) 0 0,.v 78 (.string t),.v 79 (.int .i64 pl),.c (some 80) (cV (.tuple #[.agg #[.bool g2,.string s2,.int .i64 x2],.int .i64 e2])),.v 81 (.agg #[.bool g2,.string s2,.int .i64 x2]),.v 82 (.int .i64 e2),.p 1 0 [.bool g2,.string s2,.int .i64 x2],.v 7 (.int .i64 e2)]) (fun p13=>[(6,.pointer (some ⟨(p1 1).N,0,none⟩)),(7,.int .i64 e2),(10,.string tl),(27,.bool true),(42,.bool false),(64,.bool true)]) (by kernel_rfl) (fun _ _=>by kernel_rfl) (fun _=>by kernel_rfl) (fun _=>by kernel_rfl) (fun p13=>?_) (fun p13 W13 T hF hK=>?_)
 ·refine ok_v (by kernel_rfl) ?_
  refine ok_L (by kernel_rfl) (by kernel_rfl) (by kernel_rfl) ?_
  iterate 2 refine ok_v (by kernel_rfl) ?_
  refine ok_c (fun W cx=>as_v (unhide HM _)) (by kernel_rfl) ?_
  iterate 2 refine ok_v (by kernel_rfl) ?_
  refine ok_P (by kernel_rfl) (by kernel_rfl) (by kernel_rfl) ?_
  refine ok_v (by kernel_rfl) ?_
  exact ok_nil
 replace hS:=SymF.fb hS hF [1] [⟨(p1 1).N,#[.bool g2,.string s2,.int .i64 x2],23,true⟩] (by kernel_rfl) (by kernel_rfl)
 replace hG:=hF.gx
 clear hF
 have z13:=hS.fr.size
 refine wp_ret ?_
 exact sym_end hS hK (.tuple #[.agg #[.bool g2,.string s2,.int .i64 x2],.int .i64 e2]) [(0,0,3)] [.bool g2,.string s2,.int .i64 x2] (by kernel_rfl) (by kernel_rfl) ⟨rfl,hS.fr⟩
theorem rcut_A_lt_n (w:World) (g:Bool) (s:ByteArray) (x pl c:Int) (md M:Nat) (t:ByteArray) (g2:Bool) (s2:ByteArray) (x2 e2:Int) (k j b:Nat) (hd tl:ByteArray) (o:Bool) (a:Nat) (hm:s.size≤65536) (_hx0:-1073741824≤x) (_hx1:x≤1073741824) (hc:pl - x = c) (hc0:0 < c) (hc1:c≤2147483648) (hk:(k:Int)+c = (s.size:Int)) (hk1:0 < k) (hhd:s.extract 0 k = hd) (htl:s.extract k s.size = tl) (hj:j+1 = hd.size) (hb:∀ h:j < hd.size,(hd[j]'h).toNat = b) (ho:(((b % 2:Nat):Int) == 1) = o) (ht:0 < tl.size) (ha:∀ h:0 < tl.size,(tl[0]'h).toNat = a) (ha5:a < 53) (H1:Hid (∀ W:World,Calls Try.prog 51 #[.string hd] W fun en W'=>(∃ a n c,en = .returned (.agg #[.slice a n c])∧Mine W' W.heap.size a n c M)∧Below W.heap.size W W')) (H2:Hid (∀ W:World,Calls Try.prog 96 #[.bool g,.bool o,.int .i64 (-1),.int .u8 (md:Int)] W fun e W'=>e = .returned (.bool false)∧Below W.heap.size W W')) (HT:Hid (∀ (W:World) (a:Option Addr) (n c:Nat),Num W a n M→Calls Try.prog 56 #[.agg #[.slice a n c]] W fun en W'=>en = .returned (.tuple #[.string t,.int .i64 0])∧Below W.heap.size W W')) (HM:Hid (∀ W:World,Calls Try.prog 17 #[.bool g,.string t,.int .i64 pl] W fun e W'=>e = .returned (.tuple #[.agg #[.bool g2,.string s2,.int .i64 x2],.int .i64 e2])∧Below W.heap.size W W')) :
  Calls Try.prog 61 #[.agg #[.bool g,.string s,.int .i64 x],.int .i64 pl,.int .u8 (md:Int)] w fun en w'=>en = .returned (.tuple #[.agg #[.bool g2,.string s2,.int .i64 x2],.int .i64 e2])∧Below w.heap.size w w':=by
 have hto:script Try.prog 0 (Instr.sliceAt 9 (.string s) none (some (.int .i64 (k:Int))) none) [] = some (.string hd,[]):=by rw [← hhd]; exact script_to Try.under_str (by omega) (by omega)
 have hfr:script Try.prog 0 (Instr.sliceAt 9 (.string s) (some (.int .i64 (k:Int))) none none) [] = some (.string tl,[]):=by rw [← htl]; exact script_from Try.under_str (by omega) (by omega)
 have hiy:script Try.prog 0 (Instr.index 9 (.string hd) (.int .i64 (j:Int))) [] = some (.int .u8 (b:Int),[]):=script_index (j:=j) Try.under_str rfl (by omega) (hb _)
 have hhs:hd.size≤65536:=by rw [← hhd,ByteArray.size_extract]; omega
 have hix:script Try.prog 0 (Instr.index 9 (.string tl) (.int .i64 0)) [] = some (.int .u8 (a:Int),[]):=script_index (j:=0) Try.under_str rfl ht (ha _)
 refine calls_sym Try.func61 rfl (by kernel_rfl) fun T hK=>?_
 replace hK:Kn T _ [(0,.agg #[.bool g,.string s,.int .i64 x]),(1,.int .i64 pl),(2,.int .u8 (md:Int))]:=hK
 have hS:=Fb.begin w
 have hG:GsAt [] w:=trivial
 refine wp_symQ hS hG hK (fun p1=>[.n 3 #[.bool g,.string s,.int .i64 x] 23,.n 6 #[.bool false,.string ⟨#[]⟩,.int .i64 0] 23,.v 7 (.int .i64 0)]) (fun p1=>[(1,.int .i64 pl),(2,.int .u8 (md:Int)),(3,.pointer (some ⟨(p1 0).N,0,none⟩)),(6,.pointer (some ⟨(p1 1).N,0,none⟩)),(7,.int .i64 0)]) (by kernel_rfl) (fun _ _=>by kernel_rfl) (fun _=>by kernel_rfl) (fun _=>by kernel_rfl) (fun p1=>?_) (fun p1 W1 T hF hK=>?_)
 ·iterate 2 refine ok_n (fun _=>by kernel_rfl) ?_
  refine ok_v (by kernel_rfl) ?_
  exact ok_nil
 replace hS:=SymF.fb hS hF [1000,1001] [⟨(p1 0).N,#[.bool g,.string s,.int .i64 x],23,true⟩,⟨(p1 1).N,#[.bool false,.string ⟨#[]⟩,.int .i64 0],23,true⟩] (by kernel_rfl) (by kernel_rfl)
 replace hG:=hF.gx
 clear hF
 have z1:=hS.fr.size
 refine wp_symQ hS hG hK (fun p2=>[.v 16 (.pointer (some ⟨(p1 0).N,1,none⟩)),.l 17 (.string s) 0 1,.v 18 (.int .i64 (s.size:Int)),.v 19 (.int .i64 pl),.v 20 (.pointer (some ⟨(p1 0).N,2,none⟩)),.l 21 (.int .i64 x) 0 2,.v 22 (.int .i64 c),.v 23 (.int .i64 (k:Int)),.v 8 (.int .i64 (k:Int))]) (fun p2=>[(1,.int .i64 pl),(2,.int .u8 (md:Int)),(3,.pointer (some ⟨(p1 0).N,0,none⟩)),(6,.pointer (some ⟨(p1 1).N,0,none⟩)),(7,.int .i64 0),(8,.int .i64 (k:Int))]) (by kernel_rfl) (fun _ _=>by kernel_rfl) (fun _=>by kernel_rfl) (fun _=>by kernel_rfl) (fun p2=>?_) (fun p2 W2 T hF hK=>?_)
 ·refine ok_v (by kernel_rfl) ?_
  refine ok_L (by kernel_rfl) (by kernel_rfl) (by kernel_rfl) ?_
  iterate 3 refine ok_v (by kernel_rfl) ?_
  refine ok_L (by kernel_rfl) (by kernel_rfl) (by kernel_rfl) ?_
  refine ok_vi ((wr64 (x:=pl - x) (by omega) (by omega)).trans hc) (by kernel_rfl) ?_
  refine ok_vi ((wr64 (x:=(s.size:Int) - c) (by omega) (by omega)).trans (by omega)) (by kernel_rfl) ?_
  refine ok_v (by kernel_rfl) ?_
  exact ok_nil
 replace hS:=SymF.fb hS hF [0,1] [⟨(p1 0).N,#[.bool g,.string s,.int .i64 x],23,true⟩,⟨(p1 1).N,#[.bool false,.string ⟨#[]⟩,.int .i64 0],23,true⟩] (by kernel_rfl) (by kernel_rfl)
 replace hG:=hF.gx
 clear hF
 have z2:=hS.fr.size
 refine wp_symQ hS hG hK (fun p3=>[.v 24 (.pointer (some ⟨(p1 0).N,1,none⟩)),.l 25 (.string s) 0 1,.v 9 (.string { data:=#[] }),.v 10 (.string s)]) (fun p3=>[(1,.int .i64 pl),(2,.int .u8 (md:Int)),(3,.pointer (some ⟨(p1 0).N,0,none⟩)),(6,.pointer (some ⟨(p1 1).N,0,none⟩)),(7,.int .i64 0),(8,.int .i64 (k:Int)),(9,.string { data:=#[] }),(10,.string s)]) (by kernel_rfl) (fun _ _=>by kernel_rfl) (fun _=>by kernel_rfl) (fun _=>by kernel_rfl) (fun p3=>?_) (fun p3 W3 T hF hK=>?_)
 ·refine ok_v (by kernel_rfl) ?_
  refine ok_L (by kernel_rfl) (by kernel_rfl) (by kernel_rfl) ?_
  iterate 2 refine ok_v (by kernel_rfl) ?_
  exact ok_nil
 replace hS:=SymF.fb hS hF [0,1] [⟨(p1 0).N,#[.bool g,.string s,.int .i64 x],23,true⟩,⟨(p1 1).N,#[.bool false,.string ⟨#[]⟩,.int .i64 0],23,true⟩] (by kernel_rfl) (by kernel_rfl)
 replace hG:=hF.gx
 clear hF
 have z3:=hS.fr.size
 refine wp_seq ?_
 refine wp_symQ hS hG hK (fun p4=>[.v 26 (.int .i64 (k:Int)),.v 27 (.bool true)]) (fun p4=>[(1,.int .i64 pl),(2,.int .u8 (md:Int)),(3,.pointer (some ⟨(p1 0).N,0,none⟩)),(6,.pointer (some ⟨(p1 1).N,0,none⟩)),(7,.int .i64 0),(8,.int .i64 (k:Int)),(9,.string { data:=#[] }),(10,.string s),(27,.bool true)]) (by kernel_rfl) (fun _ _=>by kernel_rfl) (fun _=>by kernel_rfl) (fun _=>by kernel_rfl) (fun p4=>?_) (fun p4 W4 T hF hK=>?_)
 ·refine ok_v (by kernel_rfl) ?_
  refine ok_vb (decide_eq_true (show (k:Int) > 0 by omega)) (by kernel_rfl) ?_
  exact ok_nil
 replace hS:=SymF.fb hS hF [0,1] [⟨(p1 0).N,#[.bool g,.string s,.int .i64 x],23,true⟩,⟨(p1 1).N,#[.bool false,.string ⟨#[]⟩,.int .i64 0],23,true⟩] (by kernel_rfl) (by kernel_rfl)
 replace hG:=hF.gx
 clear hF
 have z4:=hS.fr.size
 refine wp_cond_true (hK.ev 27 (by kernel_rfl) _ (by kernel_rfl)) ?_
 refine wp_symG hS hG hK (fun p5=>[.v 28 (.pointer (some ⟨(p1 0).N,1,none⟩)),.l 29 (.string s) 0 1,.v 30 (.int .i64 (k:Int)),.v 31 (.string hd),.v 32 (.pointer (some ⟨(p1 0).N,1,none⟩)),.l 33 (.string s) 0 1,.v 34 (.int .i64 (k:Int)),.v 35 (.string tl),.v 9 (.string hd),.v 10 (.string tl)]) (fun p5=>[(1,.int .i64 pl),(2,.int .u8 (md:Int)),(3,.pointer (some ⟨(p1 0).N,0,none⟩)),(6,.pointer (some ⟨(p1 1).N,0,none⟩)),(7,.int .i64 0),(8,.int .i64 (k:Int)),(9,.string hd),(10,.string tl),(27,.bool true)]) (by kernel_rfl) (fun _ _=>by kernel_rfl) (fun _=>by kernel_rfl) (fun _=>by kernel_rfl) (fun p5=>?_) (fun p5 W5 T hF hK=>?_)
 ·refine ok_v (by kernel_rfl) ?_
  refine ok_L (by kernel_rfl) (by kernel_rfl) (by kernel_rfl) ?_
  refine ok_v (by kernel_rfl) ?_
  refine ok_vr (hto) (by kernel_rfl) ?_
  refine ok_v (by kernel_rfl) ?_
  refine ok_L (by kernel_rfl) (by kernel_rfl) (by kernel_rfl) ?_
  refine ok_v (by kernel_rfl) ?_
  refine ok_vr (hfr) (by kernel_rfl) ?_
  iterate 2 refine ok_v (by kernel_rfl) ?_
  exact ok_nil
 replace hS:=SymF.fb hS hF [0,1] [⟨(p1 0).N,#[.bool g,.string s,.int .i64 x],23,true⟩,⟨(p1 1).N,#[.bool false,.string ⟨#[]⟩,.int .i64 0],23,true⟩] (by kernel_rfl) (by kernel_rfl)
 replace hG:=hF.gx
 clear hF
 have z5:=hS.fr.size
 refine then_n ?_
 refine wp_symQ hS hG hK (fun p6=>[.v 11 (.int .i64 (-1))]) (fun p6=>[(1,.int .i64 pl),(2,.int .u8 (md:Int)),(3,.pointer (some ⟨(p1 0).N,0,none⟩)),(6,.pointer (some ⟨(p1 1).N,0,none⟩)),(7,.int .i64 0),(8,.int .i64 (k:Int)),(9,.string hd),(10,.string tl),(11,.int .i64 (-1)),(27,.bool true)]) (by kernel_rfl) (fun _ _=>by kernel_rfl) (fun _=>by kernel_rfl) (fun _=>by kernel_rfl) (fun p6=>?_) (fun p6 W6 T hF hK=>?_)
 ·refine ok_v (by kernel_rfl) ?_
  exact ok_nil
 replace hS:=SymF.fb hS hF [0,1] [⟨(p1 0).N,#[.bool g,.string s,.int .i64 x],23,true⟩,⟨(p1 1).N,#[.bool false,.string ⟨#[]⟩,.int .i64 0],23,true⟩] (by kernel_rfl) (by kernel_rfl)
 replace hG:=hF.gx
 clear hF
 have z6:=hS.fr.size
 refine wp_seq ?_
 refine wp_symQ hS hG hK (fun p7=>[.v 36 (.int .i64 (k:Int)),.v 37 (.bool true),.v 38 (.bool true),.v 39 (.string tl),.v 40 (.int .u8 (a:Int)),.v 41 (.bool false),.v 42 (.bool false)]) (fun p7=>[(1,.int .i64 pl),(2,.int .u8 (md:Int)),(3,.pointer (some ⟨(p1 0).N,0,none⟩)),(6,.pointer (some ⟨(p1 1).N,0,none⟩)),(7,.int .i64 0),(9,.string hd),(10,.string tl),(11,.int .i64 (-1)),(27,.bool true),(42,.bool false)]) (by kernel_rfl) (fun _ _=>by kernel_rfl) (fun _=>by kernel_rfl) (fun _=>by kernel_rfl) (fun p7=>?_) (fun p7 W7 T hF hK=>?_)
 ·refine ok_v (by kernel_rfl) ?_
  refine ok_vb (decide_eq_true (show (k:Int) ≥ 0 by omega)) (by kernel_rfl) ?_
  iterate 2 refine ok_v (by kernel_rfl) ?_
  refine ok_vr (hix) (by kernel_rfl) ?_
  refine ok_vb (decide_eq_false (show ¬ (a:Int) ≥ 53 by omega)) (by kernel_rfl) ?_
  refine ok_v (by kernel_rfl) ?_
  exact ok_nil
 replace hS:=SymF.fb hS hF [0,1] [⟨(p1 0).N,#[.bool g,.string s,.int .i64 x],23,true⟩,⟨(p1 1).N,#[.bool false,.string ⟨#[]⟩,.int .i64 0],23,true⟩] (by kernel_rfl) (by kernel_rfl)
 replace hG:=hF.gx
 clear hF
 have z7:=hS.fr.size
 refine wp_cond_false (hK.ev 42 (by kernel_rfl) _ (by kernel_rfl)) ?_
 refine wp_skip ?_
 refine then_n ?_
 refine wp_symQ hS hG hK (fun p8=>[.v 45 (.string hd),.v 46 (.int .i64 (hd.size:Int)),.v 47 (.bool true),.v 48 (.bool true),.v 49 (.string hd),.v 50 (.string hd),.v 51 (.int .i64 (hd.size:Int)),.v 52 (.int .i64 (j:Int)),.v 53 (.int .u8 (b:Int)),.v 54 (.int .u8 ((b % 2:Nat):Int)),.v 55 (.bool o),.v 56 (.bool o),.v 12 (.bool o)]) (fun p8=>[(1,.int .i64 pl),(2,.int .u8 (md:Int)),(3,.pointer (some ⟨(p1 0).N,0,none⟩)),(6,.pointer (some ⟨(p1 1).N,0,none⟩)),(7,.int .i64 0),(9,.string hd),(10,.string tl),(11,.int .i64 (-1)),(12,.bool o),(27,.bool true),(42,.bool false)]) (by kernel_rfl) (fun _ _=>by kernel_rfl) (fun _=>by kernel_rfl) (fun _=>by kernel_rfl) (fun p8=>?_) (fun p8 W8 T hF hK=>?_)
 ·iterate 2 refine ok_v (by kernel_rfl) ?_
  refine ok_vb (decide_eq_true (show (hd.size:Int) > 0 by omega)) (by kernel_rfl) ?_
  iterate 4 refine ok_v (by kernel_rfl) ?_
  refine ok_vi ((wr64 (x:=(hd.size:Int) - 1) (by omega) (by omega)).trans (by omega)) (by kernel_rfl) ?_
  refine ok_vr (hiy) (by kernel_rfl) ?_
  refine ok_vi (tmod2 b) (by kernel_rfl) ?_
  refine ok_vb (ho) (by kernel_rfl) ?_
  iterate 2 refine ok_v (by kernel_rfl) ?_
  exact ok_nil
 replace hS:=SymF.fb hS hF [0,1] [⟨(p1 0).N,#[.bool g,.string s,.int .i64 x],23,true⟩,⟨(p1 1).N,#[.bool false,.string ⟨#[]⟩,.int .i64 0],23,true⟩] (by kernel_rfl) (by kernel_rfl)
 replace hG:=hF.gx
 clear hF
 have z8:=hS.fr.size
 refine wp_symQ hS hG hK (fun p9=>[.v 57 (.string hd),.c (some 58) (cN W8.heap.size M),.n 13 #[.slice none 0 0] 60,.p 1002 0 [.slice (p9 1).A (p9 1).N (p9 1).C]]) (fun p9=>[(1,.int .i64 pl),(2,.int .u8 (md:Int)),(3,.pointer (some ⟨(p1 0).N,0,none⟩)),(6,.pointer (some ⟨(p1 1).N,0,none⟩)),(7,.int .i64 0),(10,.string tl),(11,.int .i64 (-1)),(12,.bool o),(13,.pointer (some ⟨(p9 2).N,0,none⟩)),(27,.bool true),(42,.bool false)]) (by kernel_rfl) (fun _ _=>by kernel_rfl) (fun _=>by kernel_rfl) (fun _=>by kernel_rfl) (fun p9=>?_) (fun p9 W9 T hF hK=>?_)
 ·refine ok_v (by kernel_rfl) ?_
  refine ok_c (fun W cx=>as_n cx.hb (unhide H1 _)) (by kernel_rfl) ?_
  refine ok_n (fun _=>by kernel_rfl) ?_
  refine ok_P (by kernel_rfl) (by kernel_rfl) (by kernel_rfl) ?_
  exact ok_nil
 replace hS:=SymF.fb hS hF [0,1,1002] [⟨(p1 0).N,#[.bool g,.string s,.int .i64 x],23,true⟩,⟨(p1 1).N,#[.bool false,.string ⟨#[]⟩,.int .i64 0],23,true⟩,⟨(p9 2).N,#[.slice (p9 1).A (p9 1).N (p9 1).C],60,true⟩] (by kernel_rfl) (by kernel_rfl)
 replace hG:GsAt (gM W8.heap.size (p9 1).A (p9 1).N (p9 1).C M :: _) W9:=⟨hF.fx 1,hF.gx⟩
 clear hF
 have z9:=hS.fr.size
 refine wp_seq ?_
 refine wp_symQ hS hG hK (fun p10=>[.v 59 (.pointer (some ⟨(p1 0).N,0,none⟩)),.l 60 (.bool g) 0 0,.v 61 (.bool o),.v 62 (.int .i64 (-1)),.v 63 (.int .u8 (md:Int)),.c (some 64) (cV (.bool false))]) (fun p10=>[(1,.int .i64 pl),(3,.pointer (some ⟨(p1 0).N,0,none⟩)),(6,.pointer (some ⟨(p1 1).N,0,none⟩)),(7,.int .i64 0),(10,.string tl),(13,.pointer (some ⟨(p9 2).N,0,none⟩)),(27,.bool true),(42,.bool false),(64,.bool false)]) (by kernel_rfl) (fun _ _=>by kernel_rfl) (fun _=>by kernel_rfl) (fun _=>by kernel_rfl) (fun p10=>?_) (fun p10 W10 T hF hK=>?_)
 ·refine ok_v (by kernel_rfl) ?_
  refine ok_L (by kernel_rfl) (by kernel_rfl) (by kernel_rfl) ?_
  iterate 3 refine ok_v (by kernel_rfl) ?_
  refine ok_c (fun W cx=>as_v (unhide H2 _)) (by kernel_rfl) ?_
  exact ok_nil
 replace hS:=SymF.fb hS hF [0,1,2] [⟨(p1 0).N,#[.bool g,.string s,.int .i64 x],23,true⟩,⟨(p1 1).N,#[.bool false,.string ⟨#[]⟩,.int .i64 0],23,true⟩,⟨(p9 2).N,#[.slice (p9 1).A (p9 1).N (p9 1).C],60,true⟩] (by kernel_rfl) (by kernel_rfl)
 replace hG:=hF.gx
 clear hF
 have z10:=hS.fr.size
 refine wp_cond_false (hK.ev 64 (by kernel_rfl) _ (by kernel_rfl)) ?_
 refine wp_skip ?_
 refine then_n ?_
 refine wp_symQ hS hG hK (fun p11=>[.l 72 (.agg #[.slice (p9 1).A (p9 1).N (p9 1).C]) 2 0,.c (some 73) (cV (.tuple #[.string t,.int .i64 0])),.v 71 (.tuple #[.string t,.int .i64 0]),.v 74 (.string t),.v 75 (.int .i64 0),.v 14 (.string t),.v 15 (.int .i64 0)]) (fun p11=>[(1,.int .i64 pl),(3,.pointer (some ⟨(p1 0).N,0,none⟩)),(6,.pointer (some ⟨(p1 1).N,0,none⟩)),(7,.int .i64 0),(10,.string tl),(13,.pointer (some ⟨(p9 2).N,0,none⟩)),(14,.string t),(27,.bool true),(42,.bool false),(64,.bool false)]) (by kernel_rfl) (fun _ _=>by kernel_rfl) (fun _=>by kernel_rfl) (fun _=>by kernel_rfl) (fun p11=>?_) (fun p11 W11 T hF hK=>?_)
 ·refine ok_L (by kernel_rfl) (by kernel_rfl) (by kernel_rfl) ?_
  refine ok_c (fun W cx=>as_v (unhide HT _ _ _ (p9 1).C (Mine.num cx.G.1))) (by kernel_rfl) ?_
  iterate 5 refine ok_v (by kernel_rfl) ?_
  exact ok_nil
 replace hS:=SymF.fb hS hF [0,1,2] [⟨(p1 0).N,#[.bool g,.string s,.int .i64 x],23,true⟩,⟨(p1 1).N,#[.bool false,.string ⟨#[]⟩,.int .i64 0],23,true⟩,⟨(p9 2).N,#[.slice (p9 1).A (p9 1).N (p9 1).C],60,true⟩] (by kernel_rfl) (by kernel_rfl)
 replace hG:=hF.gx
 clear hF
 have z11:=hS.fr.size
 refine wp_symQ hS hG hK (fun p12=>[.v 76 (.pointer (some ⟨(p1 0).N,0,none⟩)),.l 77 (.bool g) 0 0,.v 78 (.string t),.v 79 (.int .i64 pl),.c (some 80) (cV (.tuple #[.agg #[.bool g2,.string s2,.int .i64 x2],.int .i64 e2])),.v 81 (.agg #[.bool g2,.string s2,.int .i64 x2]),.v 82 (.int .i64 e2),.p 1 0 [.bool g2,.string s2,.int .i64 x2],.v 7 (.int .i64 e2)]) (fun p12=>[(6,.pointer (some ⟨(p1 1).N,0,none⟩)),(7,.int .i64 e2),(10,.string tl),(13,.pointer (some ⟨(p9 2).N,0,none⟩)),(27,.bool true),(42,.bool false),(64,.bool false)]) (by kernel_rfl) (fun _ _=>by kernel_rfl) (fun _=>by kernel_rfl) (fun _=>by kernel_rfl) (fun p12=>?_) (fun p12 W12 T hF hK=>?_)
 ·refine ok_v (by kernel_rfl) ?_
  refine ok_L (by kernel_rfl) (by kernel_rfl) (by kernel_rfl) ?_
  iterate 2 refine ok_v (by kernel_rfl) ?_
  refine ok_c (fun W cx=>as_v (unhide HM _)) (by kernel_rfl) ?_
  iterate 2 refine ok_v (by kernel_rfl) ?_
  refine ok_P (by kernel_rfl) (by kernel_rfl) (by kernel_rfl) ?_
  refine ok_v (by kernel_rfl) ?_
  exact ok_nil
 replace hS:=SymF.fb hS hF [1,2] [⟨(p1 1).N,#[.bool g2,.string s2,.int .i64 x2],23,true⟩,⟨(p9 2).N,#[.slice (p9 1).A (p9 1).N (p9 1).C],60,true⟩] (by kernel_rfl) (by kernel_rfl)
 replace hG:=hF.gx
 clear hF
 have z12:=hS.fr.size
 refine wp_ret ?_
 exact sym_end hS hK (.tuple #[.agg #[.bool g2,.string s2,.int .i64 x2],.int .i64 e2]) [(0,0,3)] [.bool g2,.string s2,.int .i64 x2] (by kernel_rfl) (by kernel_rfl) ⟨rfl,hS.fr⟩
theorem rcut_A_gt_u (w:World) (g:Bool) (s:ByteArray) (x pl c:Int) (md M N1:Nat) (t:ByteArray) (g2:Bool) (s2:ByteArray) (x2 e2:Int) (k j b:Nat) (hd tl:ByteArray) (o:Bool) (a:Nat) (hm:s.size≤65536) (_hx0:-1073741824≤x) (_hx1:x≤1073741824) (hc:pl - x = c) (hc0:0 < c) (hc1:c≤2147483648) (hk:(k:Int)+c = (s.size:Int)) (hk1:0 < k) (hhd:s.extract 0 k = hd) (htl:s.extract k s.size = tl) (hj:j+1 = hd.size) (hb:∀ h:j < hd.size,(hd[j]'h).toNat = b) (ho:(((b % 2:Nat):Int) == 1) = o) (ht:0 < tl.size) (ha:∀ h:0 < tl.size,(tl[0]'h).toNat = a) (ha5:53≤a) (h5:(tl.toList == (⟨#[53]⟩:ByteArray).toList) = false) (H1:Hid (∀ W:World,Calls Try.prog 51 #[.string hd] W fun en W'=>(∃ a n c,en = .returned (.agg #[.slice a n c])∧Mine W' W.heap.size a n c M)∧Below W.heap.size W W')) (H2:Hid (∀ W:World,Calls Try.prog 96 #[.bool g,.bool o,.int .i64 1,.int .u8 (md:Int)] W fun e W'=>e = .returned (.bool true)∧Below W.heap.size W W')) (HA:Hid (∀ (W:World) (a:Option Addr) (n c:Nat) (a':Option Addr) (n' c':Nat),Num W a n M→Num W a' n' 1→Calls Try.prog 54 #[.agg #[.slice a n c],.agg #[.slice a' n' c']] W fun en W'=>(∃ a n c,en = .returned (.tuple #[.agg #[.slice a n c],.int .i64 0])∧Mine W' W.heap.size a n c N1)∧Below W.heap.size W W')) (HT:Hid (∀ (W:World) (a:Option Addr) (n c:Nat),Num W a n N1→Calls Try.prog 56 #[.agg #[.slice a n c]] W fun en W'=>en = .returned (.tuple #[.string t,.int .i64 0])∧Below W.heap.size W W')) (HM:Hid (∀ W:World,Calls Try.prog 17 #[.bool g,.string t,.int .i64 pl] W fun e W'=>e = .returned (.tuple #[.agg #[.bool g2,.string s2,.int .i64 x2],.int .i64 e2])∧Below W.heap.size W W')) :
  Calls Try.prog 61 #[.agg #[.bool g,.string s,.int .i64 x],.int .i64 pl,.int .u8 (md:Int)] w fun en w'=>en = .returned (.tuple #[.agg #[.bool g2,.string s2,.int .i64 x2],.int .i64 e2])∧Below w.heap.size w w':=by
 have hto:script Try.prog 0 (Instr.sliceAt 9 (.string s) none (some (.int .i64 (k:Int))) none) [] = some (.string hd,[]):=by rw [← hhd]; exact script_to Try.under_str (by omega) (by omega)
 have hfr:script Try.prog 0 (Instr.sliceAt 9 (.string s) (some (.int .i64 (k:Int))) none none) [] = some (.string tl,[]):=by rw [← htl]; exact script_from Try.under_str (by omega) (by omega)
 have hiy:script Try.prog 0 (Instr.index 9 (.string hd) (.int .i64 (j:Int))) [] = some (.int .u8 (b:Int),[]):=script_index (j:=j) Try.under_str rfl (by omega) (hb _)
 have hhs:hd.size≤65536:=by rw [← hhd,ByteArray.size_extract]; omega
 have hix:script Try.prog 0 (Instr.index 9 (.string tl) (.int .i64 0)) [] = some (.int .u8 (a:Int),[]):=script_index (j:=0) Try.under_str rfl ht (ha _)
 refine calls_sym Try.func61 rfl (by kernel_rfl) fun T hK=>?_
 replace hK:Kn T _ [(0,.agg #[.bool g,.string s,.int .i64 x]),(1,.int .i64 pl),(2,.int .u8 (md:Int))]:=hK
 have hS:=Fb.begin w
 have hG:GsAt [] w:=trivial
 refine wp_symQ hS hG hK (fun p1=>[.n 3 #[.bool g,.string s,.int .i64 x] 23,.n 6 #[.bool false,.string ⟨#[]⟩,.int .i64 0] 23,.v 7 (.int .i64 0)]) (fun p1=>[(1,.int .i64 pl),(2,.int .u8 (md:Int)),(3,.pointer (some ⟨(p1 0).N,0,none⟩)),(6,.pointer (some ⟨(p1 1).N,0,none⟩)),(7,.int .i64 0)]) (by kernel_rfl) (fun _ _=>by kernel_rfl) (fun _=>by kernel_rfl) (fun _=>by kernel_rfl) (fun p1=>?_) (fun p1 W1 T hF hK=>?_)
 ·iterate 2 refine ok_n (fun _=>by kernel_rfl) ?_
  refine ok_v (by kernel_rfl) ?_
  exact ok_nil
 replace hS:=SymF.fb hS hF [1000,1001] [⟨(p1 0).N,#[.bool g,.string s,.int .i64 x],23,true⟩,⟨(p1 1).N,#[.bool false,.string ⟨#[]⟩,.int .i64 0],23,true⟩] (by kernel_rfl) (by kernel_rfl)
 replace hG:=hF.gx
 clear hF
 have z1:=hS.fr.size
 refine wp_symQ hS hG hK (fun p2=>[.v 16 (.pointer (some ⟨(p1 0).N,1,none⟩)),.l 17 (.string s) 0 1,.v 18 (.int .i64 (s.size:Int)),.v 19 (.int .i64 pl),.v 20 (.pointer (some ⟨(p1 0).N,2,none⟩)),.l 21 (.int .i64 x) 0 2,.v 22 (.int .i64 c),.v 23 (.int .i64 (k:Int)),.v 8 (.int .i64 (k:Int))]) (fun p2=>[(1,.int .i64 pl),(2,.int .u8 (md:Int)),(3,.pointer (some ⟨(p1 0).N,0,none⟩)),(6,.pointer (some ⟨(p1 1).N,0,none⟩)),(7,.int .i64 0),(8,.int .i64 (k:Int))]) (by kernel_rfl) (fun _ _=>by kernel_rfl) (fun _=>by kernel_rfl) (fun _=>by kernel_rfl) (fun p2=>?_) (fun p2 W2 T hF hK=>?_)
 ·refine ok_v (by kernel_rfl) ?_
  refine ok_L (by kernel_rfl) (by kernel_rfl) (by kernel_rfl) ?_
  iterate 3 refine ok_v (by kernel_rfl) ?_
  refine ok_L (by kernel_rfl) (by kernel_rfl) (by kernel_rfl) ?_
  refine ok_vi ((wr64 (x:=pl - x) (by omega) (by omega)).trans hc) (by kernel_rfl) ?_
  refine ok_vi ((wr64 (x:=(s.size:Int) - c) (by omega) (by omega)).trans (by omega)) (by kernel_rfl) ?_
  refine ok_v (by kernel_rfl) ?_
  exact ok_nil
 replace hS:=SymF.fb hS hF [0,1] [⟨(p1 0).N,#[.bool g,.string s,.int .i64 x],23,true⟩,⟨(p1 1).N,#[.bool false,.string ⟨#[]⟩,.int .i64 0],23,true⟩] (by kernel_rfl) (by kernel_rfl)
 replace hG:=hF.gx
 clear hF
 have z2:=hS.fr.size
 refine wp_symQ hS hG hK (fun p3=>[.v 24 (.pointer (some ⟨(p1 0).N,1,none⟩)),.l 25 (.string s) 0 1,.v 9 (.string { data:=#[] }),.v 10 (.string s)]) (fun p3=>[(1,.int .i64 pl),(2,.int .u8 (md:Int)),(3,.pointer (some ⟨(p1 0).N,0,none⟩)),(6,.pointer (some ⟨(p1 1).N,0,none⟩)),(7,.int .i64 0),(8,.int .i64 (k:Int)),(9,.string { data:=#[] }),(10,.string s)]) (by kernel_rfl) (fun _ _=>by kernel_rfl) (fun _=>by kernel_rfl) (fun _=>by kernel_rfl) (fun p3=>?_) (fun p3 W3 T hF hK=>?_)
 ·refine ok_v (by kernel_rfl) ?_
  refine ok_L (by kernel_rfl) (by kernel_rfl) (by kernel_rfl) ?_
  iterate 2 refine ok_v (by kernel_rfl) ?_
  exact ok_nil
 replace hS:=SymF.fb hS hF [0,1] [⟨(p1 0).N,#[.bool g,.string s,.int .i64 x],23,true⟩,⟨(p1 1).N,#[.bool false,.string ⟨#[]⟩,.int .i64 0],23,true⟩] (by kernel_rfl) (by kernel_rfl)
 replace hG:=hF.gx
 clear hF
 have z3:=hS.fr.size
 refine wp_seq ?_
 refine wp_symQ hS hG hK (fun p4=>[.v 26 (.int .i64 (k:Int)),.v 27 (.bool true)]) (fun p4=>[(1,.int .i64 pl),(2,.int .u8 (md:Int)),(3,.pointer (some ⟨(p1 0).N,0,none⟩)),(6,.pointer (some ⟨(p1 1).N,0,none⟩)),(7,.int .i64 0),(8,.int .i64 (k:Int)),(9,.string { data:=#[] }),(10,.string s),(27,.bool true)]) (by kernel_rfl) (fun _ _=>by kernel_rfl) (fun _=>by kernel_rfl) (fun _=>by kernel_rfl) (fun p4=>?_) (fun p4 W4 T hF hK=>?_)
 ·refine ok_v (by kernel_rfl) ?_
  refine ok_vb (decide_eq_true (show (k:Int) > 0 by omega)) (by kernel_rfl) ?_
  exact ok_nil
 replace hS:=SymF.fb hS hF [0,1] [⟨(p1 0).N,#[.bool g,.string s,.int .i64 x],23,true⟩,⟨(p1 1).N,#[.bool false,.string ⟨#[]⟩,.int .i64 0],23,true⟩] (by kernel_rfl) (by kernel_rfl)
 replace hG:=hF.gx
 clear hF
 have z4:=hS.fr.size
 refine wp_cond_true (hK.ev 27 (by kernel_rfl) _ (by kernel_rfl)) ?_
 refine wp_symG hS hG hK (fun p5=>[.v 28 (.pointer (some ⟨(p1 0).N,1,none⟩)),.l 29 (.string s) 0 1,.v 30 (.int .i64 (k:Int)),.v 31 (.string hd),.v 32 (.pointer (some ⟨(p1 0).N,1,none⟩)),.l 33 (.string s) 0 1,.v 34 (.int .i64 (k:Int)),.v 35 (.string tl),.v 9 (.string hd),.v 10 (.string tl)]) (fun p5=>[(1,.int .i64 pl),(2,.int .u8 (md:Int)),(3,.pointer (some ⟨(p1 0).N,0,none⟩)),(6,.pointer (some ⟨(p1 1).N,0,none⟩)),(7,.int .i64 0),(8,.int .i64 (k:Int)),(9,.string hd),(10,.string tl),(27,.bool true)]) (by kernel_rfl) (fun _ _=>by kernel_rfl) (fun _=>by kernel_rfl) (fun _=>by kernel_rfl) (fun p5=>?_) (fun p5 W5 T hF hK=>?_)
 ·refine ok_v (by kernel_rfl) ?_
  refine ok_L (by kernel_rfl) (by kernel_rfl) (by kernel_rfl) ?_
  refine ok_v (by kernel_rfl) ?_
  refine ok_vr (hto) (by kernel_rfl) ?_
  refine ok_v (by kernel_rfl) ?_
  refine ok_L (by kernel_rfl) (by kernel_rfl) (by kernel_rfl) ?_
  refine ok_v (by kernel_rfl) ?_
  refine ok_vr (hfr) (by kernel_rfl) ?_
  iterate 2 refine ok_v (by kernel_rfl) ?_
  exact ok_nil
 replace hS:=SymF.fb hS hF [0,1] [⟨(p1 0).N,#[.bool g,.string s,.int .i64 x],23,true⟩,⟨(p1 1).N,#[.bool false,.string ⟨#[]⟩,.int .i64 0],23,true⟩] (by kernel_rfl) (by kernel_rfl)
 replace hG:=hF.gx
 clear hF
 have z5:=hS.fr.size
 refine then_n ?_
 refine wp_symQ hS hG hK (fun p6=>[.v 11 (.int .i64 (-1))]) (fun p6=>[(1,.int .i64 pl),(2,.int .u8 (md:Int)),(3,.pointer (some ⟨(p1 0).N,0,none⟩)),(6,.pointer (some ⟨(p1 1).N,0,none⟩)),(7,.int .i64 0),(8,.int .i64 (k:Int)),(9,.string hd),(10,.string tl),(11,.int .i64 (-1)),(27,.bool true)]) (by kernel_rfl) (fun _ _=>by kernel_rfl) (fun _=>by kernel_rfl) (fun _=>by kernel_rfl) (fun p6=>?_) (fun p6 W6 T hF hK=>?_)
 ·refine ok_v (by kernel_rfl) ?_
  exact ok_nil
 replace hS:=SymF.fb hS hF [0,1] [⟨(p1 0).N,#[.bool g,.string s,.int .i64 x],23,true⟩,⟨(p1 1).N,#[.bool false,.string ⟨#[]⟩,.int .i64 0],23,true⟩] (by kernel_rfl) (by kernel_rfl)
 replace hG:=hF.gx
 clear hF
 have z6:=hS.fr.size
 refine wp_seq ?_
 refine wp_symQ hS hG hK (fun p7=>[.v 36 (.int .i64 (k:Int)),.v 37 (.bool true),.v 38 (.bool true),.v 39 (.string tl),.v 40 (.int .u8 (a:Int)),.v 41 (.bool true),.v 42 (.bool true)]) (fun p7=>[(1,.int .i64 pl),(2,.int .u8 (md:Int)),(3,.pointer (some ⟨(p1 0).N,0,none⟩)),(6,.pointer (some ⟨(p1 1).N,0,none⟩)),(7,.int .i64 0),(9,.string hd),(10,.string tl),(11,.int .i64 (-1)),(27,.bool true),(42,.bool true)]) (by kernel_rfl) (fun _ _=>by kernel_rfl) (fun _=>by kernel_rfl) (fun _=>by kernel_rfl) (fun p7=>?_) (fun p7 W7 T hF hK=>?_)
 ·refine ok_v (by kernel_rfl) ?_
  refine ok_vb (decide_eq_true (show (k:Int) ≥ 0 by omega)) (by kernel_rfl) ?_
  iterate 2 refine ok_v (by kernel_rfl) ?_
  refine ok_vr (hix) (by kernel_rfl) ?_
  refine ok_vb (decide_eq_true (show (a:Int) ≥ 53 by omega)) (by kernel_rfl) ?_
  refine ok_v (by kernel_rfl) ?_
  exact ok_nil
 replace hS:=SymF.fb hS hF [0,1] [⟨(p1 0).N,#[.bool g,.string s,.int .i64 x],23,true⟩,⟨(p1 1).N,#[.bool false,.string ⟨#[]⟩,.int .i64 0],23,true⟩] (by kernel_rfl) (by kernel_rfl)
 replace hG:=hF.gx
 clear hF
 have z7:=hS.fr.size
 refine wp_cond_true (hK.ev 42 (by kernel_rfl) _ (by kernel_rfl)) ?_
 refine wp_symQ hS hG hK (fun p8=>[.v 11 (.int .i64 1)]) (fun p8=>[(1,.int .i64 pl),(2,.int .u8 (md:Int)),(3,.pointer (some ⟨(p1 0).N,0,none⟩)),(6,.pointer (some ⟨(p1 1).N,0,none⟩)),(7,.int .i64 0),(9,.string hd),(10,.string tl),(11,.int .i64 1),(27,.bool true),(42,.bool true)]) (by kernel_rfl) (fun _ _=>by kernel_rfl) (fun _=>by kernel_rfl) (fun _=>by kernel_rfl) (fun p8=>?_) (fun p8 W8 T hF hK=>?_)
 ·refine ok_v (by kernel_rfl) ?_
  exact ok_nil
 replace hS:=SymF.fb hS hF [0,1] [⟨(p1 0).N,#[.bool g,.string s,.int .i64 x],23,true⟩,⟨(p1 1).N,#[.bool false,.string ⟨#[]⟩,.int .i64 0],23,true⟩] (by kernel_rfl) (by kernel_rfl)
 replace hG:=hF.gx
 clear hF
 have z8:=hS.fr.size
 refine wp_symQ hS hG hK (fun p9=>[.v 43 (.string tl),.v 44 (.bool false)]) (fun p9=>[(1,.int .i64 pl),(2,.int .u8 (md:Int)),(3,.pointer (some ⟨(p1 0).N,0,none⟩)),(6,.pointer (some ⟨(p1 1).N,0,none⟩)),(7,.int .i64 0),(9,.string hd),(11,.int .i64 1),(27,.bool true),(42,.bool true),(44,.bool false)]) (by kernel_rfl) (fun _ _=>by kernel_rfl) (fun _=>by kernel_rfl) (fun _=>by kernel_rfl) (fun p9=>?_) (fun p9 W9 T hF hK=>?_)
 ·refine ok_v (by kernel_rfl) ?_
  refine ok_vb (h5) (by kernel_rfl) ?_
  exact ok_nil
 replace hS:=SymF.fb hS hF [0,1] [⟨(p1 0).N,#[.bool g,.string s,.int .i64 x],23,true⟩,⟨(p1 1).N,#[.bool false,.string ⟨#[]⟩,.int .i64 0],23,true⟩] (by kernel_rfl) (by kernel_rfl)
 replace hG:=hF.gx
 clear hF
 have z9:=hS.fr.size
 refine wp_cond_false (hK.ev 44 (by kernel_rfl) _ (by kernel_rfl)) ?_
 refine wp_skip ?_
 refine then_n ?_
 refine wp_symQ hS hG hK (fun p10=>[.v 45 (.string hd),.v 46 (.int .i64 (hd.size:Int)),.v 47 (.bool true),.v 48 (.bool true),.v 49 (.string hd),.v 50 (.string hd),.v 51 (.int .i64 (hd.size:Int)),.v 52 (.int .i64 (j:Int)),.v 53 (.int .u8 (b:Int)),.v 54 (.int .u8 ((b % 2:Nat):Int)),.v 55 (.bool o),.v 56 (.bool o),.v 12 (.bool o)]) (fun p10=>[(1,.int .i64 pl),(2,.int .u8 (md:Int)),(3,.pointer (some ⟨(p1 0).N,0,none⟩)),(6,.pointer (some ⟨(p1 1).N,0,none⟩)),(7,.int .i64 0),(9,.string hd),(11,.int .i64 1),(12,.bool o),(27,.bool true),(42,.bool true),(44,.bool false)]) (by kernel_rfl) (fun _ _=>by kernel_rfl) (fun _=>by kernel_rfl) (fun _=>by kernel_rfl) (fun p10=>?_) (fun p10 W10 T hF hK=>?_)
 ·iterate 2 refine ok_v (by kernel_rfl) ?_
  refine ok_vb (decide_eq_true (show (hd.size:Int) > 0 by omega)) (by kernel_rfl) ?_
  iterate 4 refine ok_v (by kernel_rfl) ?_
  refine ok_vi ((wr64 (x:=(hd.size:Int) - 1) (by omega) (by omega)).trans (by omega)) (by kernel_rfl) ?_
  refine ok_vr (hiy) (by kernel_rfl) ?_
  refine ok_vi (tmod2 b) (by kernel_rfl) ?_
  refine ok_vb (ho) (by kernel_rfl) ?_
  iterate 2 refine ok_v (by kernel_rfl) ?_
  exact ok_nil
 replace hS:=SymF.fb hS hF [0,1] [⟨(p1 0).N,#[.bool g,.string s,.int .i64 x],23,true⟩,⟨(p1 1).N,#[.bool false,.string ⟨#[]⟩,.int .i64 0],23,true⟩] (by kernel_rfl) (by kernel_rfl)
 replace hG:=hF.gx
 clear hF
 have z10:=hS.fr.size
 refine wp_symQ hS hG hK (fun p11=>[.v 57 (.string hd),.c (some 58) (cN W10.heap.size M),.n 13 #[.slice none 0 0] 60,.p 1002 0 [.slice (p11 1).A (p11 1).N (p11 1).C]]) (fun p11=>[(1,.int .i64 pl),(2,.int .u8 (md:Int)),(3,.pointer (some ⟨(p1 0).N,0,none⟩)),(6,.pointer (some ⟨(p1 1).N,0,none⟩)),(7,.int .i64 0),(11,.int .i64 1),(12,.bool o),(13,.pointer (some ⟨(p11 2).N,0,none⟩)),(27,.bool true),(42,.bool true),(44,.bool false)]) (by kernel_rfl) (fun _ _=>by kernel_rfl) (fun _=>by kernel_rfl) (fun _=>by kernel_rfl) (fun p11=>?_) (fun p11 W11 T hF hK=>?_)
 ·refine ok_v (by kernel_rfl) ?_
  refine ok_c (fun W cx=>as_n cx.hb (unhide H1 _)) (by kernel_rfl) ?_
  refine ok_n (fun _=>by kernel_rfl) ?_
  refine ok_P (by kernel_rfl) (by kernel_rfl) (by kernel_rfl) ?_
  exact ok_nil
 replace hS:=SymF.fb hS hF [0,1,1002] [⟨(p1 0).N,#[.bool g,.string s,.int .i64 x],23,true⟩,⟨(p1 1).N,#[.bool false,.string ⟨#[]⟩,.int .i64 0],23,true⟩,⟨(p11 2).N,#[.slice (p11 1).A (p11 1).N (p11 1).C],60,true⟩] (by kernel_rfl) (by kernel_rfl)
 replace hG:GsAt (gM W10.heap.size (p11 1).A (p11 1).N (p11 1).C M :: _) W11:=⟨hF.fx 1,hF.gx⟩
 clear hF
 have z11:=hS.fr.size
 refine wp_seq ?_
 refine wp_symQ hS hG hK (fun p12=>[.v 59 (.pointer (some ⟨(p1 0).N,0,none⟩)),.l 60 (.bool g) 0 0,.v 61 (.bool o),.v 62 (.int .i64 1),.v 63 (.int .u8 (md:Int)),.c (some 64) (cV (.bool true))]) (fun p12=>[(1,.int .i64 pl),(3,.pointer (some ⟨(p1 0).N,0,none⟩)),(6,.pointer (some ⟨(p1 1).N,0,none⟩)),(7,.int .i64 0),(13,.pointer (some ⟨(p11 2).N,0,none⟩)),(27,.bool true),(42,.bool true),(44,.bool false),(64,.bool true)]) (by kernel_rfl) (fun _ _=>by kernel_rfl) (fun _=>by kernel_rfl) (fun _=>by kernel_rfl) (fun p12=>?_) (fun p12 W12 T hF hK=>?_)
 ·refine ok_v (by kernel_rfl) ?_
  refine ok_L (by kernel_rfl) (by kernel_rfl) (by kernel_rfl) ?_
  iterate 3 refine ok_v (by kernel_rfl) ?_
  refine ok_c (fun W cx=>as_v (unhide H2 _)) (by kernel_rfl) ?_
  exact ok_nil
 replace hS:=SymF.fb hS hF [0,1,2] [⟨(p1 0).N,#[.bool g,.string s,.int .i64 x],23,true⟩,⟨(p1 1).N,#[.bool false,.string ⟨#[]⟩,.int .i64 0],23,true⟩,⟨(p11 2).N,#[.slice (p11 1).A (p11 1).N (p11 1).C],60,true⟩] (by kernel_rfl) (by kernel_rfl)
 replace hG:=hF.gx
 clear hF
 have z12:=hS.fr.size
 refine wp_cond_true (hK.ev 64 (by kernel_rfl) _ (by kernel_rfl)) ?_
 refine wp_symG hS hG hK (fun p13=>[.l 66 (.agg #[.slice (p11 1).A (p11 1).N (p11 1).C]) 2 0,.c (some 67) (cN W12.heap.size 1),.c (some 68) (cO W12.heap.size N1),.v 65 (.tuple #[.agg #[.slice (p13 2).A (p13 2).N (p13 2).C],.int .i64 0]),.v 69 (.agg #[.slice (p13 2).A (p13 2).N (p13 2).C]),.v 70 (.int .i64 0),.p 2 0 [.slice (p13 2).A (p13 2).N (p13 2).C]]) (fun p13=>[(1,.int .i64 pl),(3,.pointer (some ⟨(p1 0).N,0,none⟩)),(6,.pointer (some ⟨(p1 1).N,0,none⟩)),(7,.int .i64 0),(13,.pointer (some ⟨(p11 2).N,0,none⟩)),(27,.bool true),(42,.bool true),(44,.bool false),(64,.bool true)]) (by kernel_rfl) (fun _ _=>by kernel_rfl) (fun _=>by kernel_rfl) (fun _=>by kernel_rfl) (fun p13=>?_) (fun p13 W13 T hF hK=>?_)
 ·refine ok_L (by kernel_rfl) (by kernel_rfl) (by kernel_rfl) ?_
  refine ok_c (fun W cx=>as_n cx.hb (rof_any 1 _ (by decide))) (by kernel_rfl) ?_
  refine ok_c (fun W cx=>as_o cx.hb (unhide HA _ _ _ (p11 1).C _ _ (p13 1).C (Mine.num cx.G.1) (Mine.num (cx.F 1 (by kernel_rfl))))) (by kernel_rfl) ?_
  iterate 3 refine ok_v (by kernel_rfl) ?_
  refine ok_P (by kernel_rfl) (by kernel_rfl) (by kernel_rfl) ?_
  exact ok_nil
 replace hS:=SymF.fb hS hF [0,1,2] [⟨(p1 0).N,#[.bool g,.string s,.int .i64 x],23,true⟩,⟨(p1 1).N,#[.bool false,.string ⟨#[]⟩,.int .i64 0],23,true⟩,⟨(p11 2).N,#[.slice (p13 2).A (p13 2).N (p13 2).C],60,true⟩] (by kernel_rfl) (by kernel_rfl)
 replace hG:GsAt (gM W12.heap.size (p13 1).A (p13 1).N (p13 1).C 1 :: gM W12.heap.size (p13 2).A (p13 2).N (p13 2).C N1 :: _) W13:=⟨hF.fx 1,hF.fx 2,hF.gx⟩
 clear hF
 have z13:=hS.fr.size
 refine then_n ?_
 refine wp_symQ hS hG hK (fun p14=>[.l 72 (.agg #[.slice (p13 2).A (p13 2).N (p13 2).C]) 2 0,.c (some 73) (cV (.tuple #[.string t,.int .i64 0])),.v 71 (.tuple #[.string t,.int .i64 0]),.v 74 (.string t),.v 75 (.int .i64 0),.v 14 (.string t),.v 15 (.int .i64 0)]) (fun p14=>[(1,.int .i64 pl),(3,.pointer (some ⟨(p1 0).N,0,none⟩)),(6,.pointer (some ⟨(p1 1).N,0,none⟩)),(7,.int .i64 0),(14,.string t),(27,.bool true),(42,.bool true),(44,.bool false),(64,.bool true)]) (by kernel_rfl) (fun _ _=>by kernel_rfl) (fun _=>by kernel_rfl) (fun _=>by kernel_rfl) (fun p14=>?_) (fun p14 W14 T hF hK=>?_)
 ·refine ok_L (by kernel_rfl) (by kernel_rfl) (by kernel_rfl) ?_
  refine ok_c (fun W cx=>as_v (unhide HT _ _ _ (p13 2).C (Mine.num cx.G.2.1))) (by kernel_rfl) ?_
  iterate 5 refine ok_v (by kernel_rfl) ?_
  exact ok_nil
 replace hS:=SymF.fb hS hF [0,1] [⟨(p1 0).N,#[.bool g,.string s,.int .i64 x],23,true⟩,⟨(p1 1).N,#[.bool false,.string ⟨#[]⟩,.int .i64 0],23,true⟩] (by kernel_rfl) (by kernel_rfl)
 replace hG:=hF.gx
 clear hF
 have z14:=hS.fr.size
 refine wp_symQ hS hG hK (fun p15=>[.v 76 (.pointer (some ⟨(p1 0).N,0,none⟩)),.l 77 (.bool g) 0 0,.v 78 (.string t),.v 79 (.int .i64 pl),.c (some 80) (cV (.tuple #[.agg #[.bool g2,.string s2,.int .i64 x2],.int .i64 e2])),.v 81 (.agg #[.bool g2,.string s2,.int .i64 x2]),.v 82 (.int .i64 e2),.p 1 0 [.bool g2,.string s2,.int .i64 x2],.v 7 (.int .i64 e2)]) (fun p15=>[(6,.pointer (some ⟨(p1 1).N,0,none⟩)),(7,.int .i64 e2),(27,.bool true),(42,.bool true),(44,.bool false),(64,.bool true)]) (by kernel_rfl) (fun _ _=>by kernel_rfl) (fun _=>by kernel_rfl) (fun _=>by kernel_rfl) (fun p15=>?_) (fun p15 W15 T hF hK=>?_)
 ·refine ok_v (by kernel_rfl) ?_
  refine ok_L (by kernel_rfl) (by kernel_rfl) (by kernel_rfl) ?_
  iterate 2 refine ok_v (by kernel_rfl) ?_
  refine ok_c (fun W cx=>as_v (unhide HM _)) (by kernel_rfl) ?_
  iterate 2 refine ok_v (by kernel_rfl) ?_
  refine ok_P (by kernel_rfl) (by kernel_rfl) (by kernel_rfl) ?_
  refine ok_v (by kernel_rfl) ?_
  exact ok_nil
 replace hS:=SymF.fb hS hF [1] [⟨(p1 1).N,#[.bool g2,.string s2,.int .i64 x2],23,true⟩] (by kernel_rfl) (by kernel_rfl)
 replace hG:=hF.gx
 clear hF
 have z15:=hS.fr.size
 refine wp_ret ?_
 exact sym_end hS hK (.tuple #[.agg #[.bool g2,.string s2,.int .i64 x2],.int .i64 e2]) [(0,0,3)] [.bool g2,.string s2,.int .i64 x2] (by kernel_rfl) (by kernel_rfl) ⟨rfl,hS.fr⟩
theorem rcut_A_gt_n (w:World) (g:Bool) (s:ByteArray) (x pl c:Int) (md M:Nat) (t:ByteArray) (g2:Bool) (s2:ByteArray) (x2 e2:Int) (k j b:Nat) (hd tl:ByteArray) (o:Bool) (a:Nat) (hm:s.size≤65536) (_hx0:-1073741824≤x) (_hx1:x≤1073741824) (hc:pl - x = c) (hc0:0 < c) (hc1:c≤2147483648) (hk:(k:Int)+c = (s.size:Int)) (hk1:0 < k) (hhd:s.extract 0 k = hd) (htl:s.extract k s.size = tl) (hj:j+1 = hd.size) (hb:∀ h:j < hd.size,(hd[j]'h).toNat = b) (ho:(((b % 2:Nat):Int) == 1) = o) (ht:0 < tl.size) (ha:∀ h:0 < tl.size,(tl[0]'h).toNat = a) (ha5:53≤a) (h5:(tl.toList == (⟨#[53]⟩:ByteArray).toList) = false) (H1:Hid (∀ W:World,Calls Try.prog 51 #[.string hd] W fun en W'=>(∃ a n c,en = .returned (.agg #[.slice a n c])∧Mine W' W.heap.size a n c M)∧Below W.heap.size W W')) (H2:Hid (∀ W:World,Calls Try.prog 96 #[.bool g,.bool o,.int .i64 1,.int .u8 (md:Int)] W fun e W'=>e = .returned (.bool false)∧Below W.heap.size W W')) (HT:Hid (∀ (W:World) (a:Option Addr) (n c:Nat),Num W a n M→Calls Try.prog 56 #[.agg #[.slice a n c]] W fun en W'=>en = .returned (.tuple #[.string t,.int .i64 0])∧Below W.heap.size W W')) (HM:Hid (∀ W:World,Calls Try.prog 17 #[.bool g,.string t,.int .i64 pl] W fun e W'=>e = .returned (.tuple #[.agg #[.bool g2,.string s2,.int .i64 x2],.int .i64 e2])∧Below W.heap.size W W')) :
  Calls Try.prog 61 #[.agg #[.bool g,.string s,.int .i64 x],.int .i64 pl,.int .u8 (md:Int)] w fun en w'=>en = .returned (.tuple #[.agg #[.bool g2,.string s2,.int .i64 x2],.int .i64 e2])∧Below w.heap.size w w':=by
 have hto:script Try.prog 0 (Instr.sliceAt 9 (.string s) none (some (.int .i64 (k:Int))) none) [] = some (.string hd,[]):=by rw [← hhd]; exact script_to Try.under_str (by omega) (by omega)
 have hfr:script Try.prog 0 (Instr.sliceAt 9 (.string s) (some (.int .i64 (k:Int))) none none) [] = some (.string tl,[]):=by rw [← htl]; exact script_from Try.under_str (by omega) (by omega)
 have hiy:script Try.prog 0 (Instr.index 9 (.string hd) (.int .i64 (j:Int))) [] = some (.int .u8 (b:Int),[]):=script_index (j:=j) Try.under_str rfl (by omega) (hb _)
 have hhs:hd.size≤65536:=by rw [← hhd,ByteArray.size_extract]; omega
 have hix:script Try.prog 0 (Instr.index 9 (.string tl) (.int .i64 0)) [] = some (.int .u8 (a:Int),[]):=script_index (j:=0) Try.under_str rfl ht (ha _)
 refine calls_sym Try.func61 rfl (by kernel_rfl) fun T hK=>?_
 replace hK:Kn T _ [(0,.agg #[.bool g,.string s,.int .i64 x]),(1,.int .i64 pl),(2,.int .u8 (md:Int))]:=hK
 have hS:=Fb.begin w
 have hG:GsAt [] w:=trivial
 refine wp_symQ hS hG hK (fun p1=>[.n 3 #[.bool g,.string s,.int .i64 x] 23,.n 6 #[.bool false,.string ⟨#[]⟩,.int .i64 0] 23,.v 7 (.int .i64 0)]) (fun p1=>[(1,.int .i64 pl),(2,.int .u8 (md:Int)),(3,.pointer (some ⟨(p1 0).N,0,none⟩)),(6,.pointer (some ⟨(p1 1).N,0,none⟩)),(7,.int .i64 0)]) (by kernel_rfl) (fun _ _=>by kernel_rfl) (fun _=>by kernel_rfl) (fun _=>by kernel_rfl) (fun p1=>?_) (fun p1 W1 T hF hK=>?_)
 ·iterate 2 refine ok_n (fun _=>by kernel_rfl) ?_
  refine ok_v (by kernel_rfl) ?_
  exact ok_nil
 replace hS:=SymF.fb hS hF [1000,1001] [⟨(p1 0).N,#[.bool g,.string s,.int .i64 x],23,true⟩,⟨(p1 1).N,#[.bool false,.string ⟨#[]⟩,.int .i64 0],23,true⟩] (by kernel_rfl) (by kernel_rfl)
 replace hG:=hF.gx
 clear hF
 have z1:=hS.fr.size
 refine wp_symQ hS hG hK (fun p2=>[.v 16 (.pointer (some ⟨(p1 0).N,1,none⟩)),.l 17 (.string s) 0 1,.v 18 (.int .i64 (s.size:Int)),.v 19 (.int .i64 pl),.v 20 (.pointer (some ⟨(p1 0).N,2,none⟩)),.l 21 (.int .i64 x) 0 2,.v 22 (.int .i64 c),.v 23 (.int .i64 (k:Int)),.v 8 (.int .i64 (k:Int))]) (fun p2=>[(1,.int .i64 pl),(2,.int .u8 (md:Int)),(3,.pointer (some ⟨(p1 0).N,0,none⟩)),(6,.pointer (some ⟨(p1 1).N,0,none⟩)),(7,.int .i64 0),(8,.int .i64 (k:Int))]) (by kernel_rfl) (fun _ _=>by kernel_rfl) (fun _=>by kernel_rfl) (fun _=>by kernel_rfl) (fun p2=>?_) (fun p2 W2 T hF hK=>?_)
 ·refine ok_v (by kernel_rfl) ?_
  refine ok_L (by kernel_rfl) (by kernel_rfl) (by kernel_rfl) ?_
  iterate 3 refine ok_v (by kernel_rfl) ?_
  refine ok_L (by kernel_rfl) (by kernel_rfl) (by kernel_rfl) ?_
  refine ok_vi ((wr64 (x:=pl - x) (by omega) (by omega)).trans hc) (by kernel_rfl) ?_
  refine ok_vi ((wr64 (x:=(s.size:Int) - c) (by omega) (by omega)).trans (by omega)) (by kernel_rfl) ?_
  refine ok_v (by kernel_rfl) ?_
  exact ok_nil
 replace hS:=SymF.fb hS hF [0,1] [⟨(p1 0).N,#[.bool g,.string s,.int .i64 x],23,true⟩,⟨(p1 1).N,#[.bool false,.string ⟨#[]⟩,.int .i64 0],23,true⟩] (by kernel_rfl) (by kernel_rfl)
 replace hG:=hF.gx
 clear hF
 have z2:=hS.fr.size
 refine wp_symQ hS hG hK (fun p3=>[.v 24 (.pointer (some ⟨(p1 0).N,1,none⟩)),.l 25 (.string s) 0 1,.v 9 (.string { data:=#[] }),.v 10 (.string s)]) (fun p3=>[(1,.int .i64 pl),(2,.int .u8 (md:Int)),(3,.pointer (some ⟨(p1 0).N,0,none⟩)),(6,.pointer (some ⟨(p1 1).N,0,none⟩)),(7,.int .i64 0),(8,.int .i64 (k:Int)),(9,.string { data:=#[] }),(10,.string s)]) (by kernel_rfl) (fun _ _=>by kernel_rfl) (fun _=>by kernel_rfl) (fun _=>by kernel_rfl) (fun p3=>?_) (fun p3 W3 T hF hK=>?_)
 ·refine ok_v (by kernel_rfl) ?_
  refine ok_L (by kernel_rfl) (by kernel_rfl) (by kernel_rfl) ?_
  iterate 2 refine ok_v (by kernel_rfl) ?_
  exact ok_nil
 replace hS:=SymF.fb hS hF [0,1] [⟨(p1 0).N,#[.bool g,.string s,.int .i64 x],23,true⟩,⟨(p1 1).N,#[.bool false,.string ⟨#[]⟩,.int .i64 0],23,true⟩] (by kernel_rfl) (by kernel_rfl)
 replace hG:=hF.gx
 clear hF
 have z3:=hS.fr.size
 refine wp_seq ?_
 refine wp_symQ hS hG hK (fun p4=>[.v 26 (.int .i64 (k:Int)),.v 27 (.bool true)]) (fun p4=>[(1,.int .i64 pl),(2,.int .u8 (md:Int)),(3,.pointer (some ⟨(p1 0).N,0,none⟩)),(6,.pointer (some ⟨(p1 1).N,0,none⟩)),(7,.int .i64 0),(8,.int .i64 (k:Int)),(9,.string { data:=#[] }),(10,.string s),(27,.bool true)]) (by kernel_rfl) (fun _ _=>by kernel_rfl) (fun _=>by kernel_rfl) (fun _=>by kernel_rfl) (fun p4=>?_) (fun p4 W4 T hF hK=>?_)
 ·refine ok_v (by kernel_rfl) ?_
  refine ok_vb (decide_eq_true (show (k:Int) > 0 by omega)) (by kernel_rfl) ?_
  exact ok_nil
 replace hS:=SymF.fb hS hF [0,1] [⟨(p1 0).N,#[.bool g,.string s,.int .i64 x],23,true⟩,⟨(p1 1).N,#[.bool false,.string ⟨#[]⟩,.int .i64 0],23,true⟩] (by kernel_rfl) (by kernel_rfl)
 replace hG:=hF.gx
 clear hF
 have z4:=hS.fr.size
 refine wp_cond_true (hK.ev 27 (by kernel_rfl) _ (by kernel_rfl)) ?_
 refine wp_symG hS hG hK (fun p5=>[.v 28 (.pointer (some ⟨(p1 0).N,1,none⟩)),.l 29 (.string s) 0 1,.v 30 (.int .i64 (k:Int)),.v 31 (.string hd),.v 32 (.pointer (some ⟨(p1 0).N,1,none⟩)),.l 33 (.string s) 0 1,.v 34 (.int .i64 (k:Int)),.v 35 (.string tl),.v 9 (.string hd),.v 10 (.string tl)]) (fun p5=>[(1,.int .i64 pl),(2,.int .u8 (md:Int)),(3,.pointer (some ⟨(p1 0).N,0,none⟩)),(6,.pointer (some ⟨(p1 1).N,0,none⟩)),(7,.int .i64 0),(8,.int .i64 (k:Int)),(9,.string hd),(10,.string tl),(27,.bool true)]) (by kernel_rfl) (fun _ _=>by kernel_rfl) (fun _=>by kernel_rfl) (fun _=>by kernel_rfl) (fun p5=>?_) (fun p5 W5 T hF hK=>?_)
 ·refine ok_v (by kernel_rfl) ?_
  refine ok_L (by kernel_rfl) (by kernel_rfl) (by kernel_rfl) ?_
  refine ok_v (by kernel_rfl) ?_
  refine ok_vr (hto) (by kernel_rfl) ?_
  refine ok_v (by kernel_rfl) ?_
  refine ok_L (by kernel_rfl) (by kernel_rfl) (by kernel_rfl) ?_
  refine ok_v (by kernel_rfl) ?_
  refine ok_vr (hfr) (by kernel_rfl) ?_
  iterate 2 refine ok_v (by kernel_rfl) ?_
  exact ok_nil
 replace hS:=SymF.fb hS hF [0,1] [⟨(p1 0).N,#[.bool g,.string s,.int .i64 x],23,true⟩,⟨(p1 1).N,#[.bool false,.string ⟨#[]⟩,.int .i64 0],23,true⟩] (by kernel_rfl) (by kernel_rfl)
 replace hG:=hF.gx
 clear hF
 have z5:=hS.fr.size
 refine then_n ?_
 refine wp_symQ hS hG hK (fun p6=>[.v 11 (.int .i64 (-1))]) (fun p6=>[(1,.int .i64 pl),(2,.int .u8 (md:Int)),(3,.pointer (some ⟨(p1 0).N,0,none⟩)),(6,.pointer (some ⟨(p1 1).N,0,none⟩)),(7,.int .i64 0),(8,.int .i64 (k:Int)),(9,.string hd),(10,.string tl),(11,.int .i64 (-1)),(27,.bool true)]) (by kernel_rfl) (fun _ _=>by kernel_rfl) (fun _=>by kernel_rfl) (fun _=>by kernel_rfl) (fun p6=>?_) (fun p6 W6 T hF hK=>?_)
 ·refine ok_v (by kernel_rfl) ?_
  exact ok_nil
 replace hS:=SymF.fb hS hF [0,1] [⟨(p1 0).N,#[.bool g,.string s,.int .i64 x],23,true⟩,⟨(p1 1).N,#[.bool false,.string ⟨#[]⟩,.int .i64 0],23,true⟩] (by kernel_rfl) (by kernel_rfl)
 replace hG:=hF.gx
 clear hF
 have z6:=hS.fr.size
 refine wp_seq ?_
 refine wp_symQ hS hG hK (fun p7=>[.v 36 (.int .i64 (k:Int)),.v 37 (.bool true),.v 38 (.bool true),.v 39 (.string tl),.v 40 (.int .u8 (a:Int)),.v 41 (.bool true),.v 42 (.bool true)]) (fun p7=>[(1,.int .i64 pl),(2,.int .u8 (md:Int)),(3,.pointer (some ⟨(p1 0).N,0,none⟩)),(6,.pointer (some ⟨(p1 1).N,0,none⟩)),(7,.int .i64 0),(9,.string hd),(10,.string tl),(11,.int .i64 (-1)),(27,.bool true),(42,.bool true)]) (by kernel_rfl) (fun _ _=>by kernel_rfl) (fun _=>by kernel_rfl) (fun _=>by kernel_rfl) (fun p7=>?_) (fun p7 W7 T hF hK=>?_)
 ·refine ok_v (by kernel_rfl) ?_
  refine ok_vb (decide_eq_true (show (k:Int) ≥ 0 by omega)) (by kernel_rfl) ?_
  iterate 2 refine ok_v (by kernel_rfl) ?_
  refine ok_vr (hix) (by kernel_rfl) ?_
  refine ok_vb (decide_eq_true (show (a:Int) ≥ 53 by omega)) (by kernel_rfl) ?_
  refine ok_v (by kernel_rfl) ?_
  exact ok_nil
 replace hS:=SymF.fb hS hF [0,1] [⟨(p1 0).N,#[.bool g,.string s,.int .i64 x],23,true⟩,⟨(p1 1).N,#[.bool false,.string ⟨#[]⟩,.int .i64 0],23,true⟩] (by kernel_rfl) (by kernel_rfl)
 replace hG:=hF.gx
 clear hF
 have z7:=hS.fr.size
 refine wp_cond_true (hK.ev 42 (by kernel_rfl) _ (by kernel_rfl)) ?_
 refine wp_symQ hS hG hK (fun p8=>[.v 11 (.int .i64 1)]) (fun p8=>[(1,.int .i64 pl),(2,.int .u8 (md:Int)),(3,.pointer (some ⟨(p1 0).N,0,none⟩)),(6,.pointer (some ⟨(p1 1).N,0,none⟩)),(7,.int .i64 0),(9,.string hd),(10,.string tl),(11,.int .i64 1),(27,.bool true),(42,.bool true)]) (by kernel_rfl) (fun _ _=>by kernel_rfl) (fun _=>by kernel_rfl) (fun _=>by kernel_rfl) (fun p8=>?_) (fun p8 W8 T hF hK=>?_)
 ·refine ok_v (by kernel_rfl) ?_
  exact ok_nil
 replace hS:=SymF.fb hS hF [0,1] [⟨(p1 0).N,#[.bool g,.string s,.int .i64 x],23,true⟩,⟨(p1 1).N,#[.bool false,.string ⟨#[]⟩,.int .i64 0],23,true⟩] (by kernel_rfl) (by kernel_rfl)
 replace hG:=hF.gx
 clear hF
 have z8:=hS.fr.size
 refine wp_symQ hS hG hK (fun p9=>[.v 43 (.string tl),.v 44 (.bool false)]) (fun p9=>[(1,.int .i64 pl),(2,.int .u8 (md:Int)),(3,.pointer (some ⟨(p1 0).N,0,none⟩)),(6,.pointer (some ⟨(p1 1).N,0,none⟩)),(7,.int .i64 0),(9,.string hd),(11,.int .i64 1),(27,.bool true),(42,.bool true),(44,.bool false)]) (by kernel_rfl) (fun _ _=>by kernel_rfl) (fun _=>by kernel_rfl) (fun _=>by kernel_rfl) (fun p9=>?_) (fun p9 W9 T hF hK=>?_)
 ·refine ok_v (by kernel_rfl) ?_
  refine ok_vb (h5) (by kernel_rfl) ?_
  exact ok_nil
 replace hS:=SymF.fb hS hF [0,1] [⟨(p1 0).N,#[.bool g,.string s,.int .i64 x],23,true⟩,⟨(p1 1).N,#[.bool false,.string ⟨#[]⟩,.int .i64 0],23,true⟩] (by kernel_rfl) (by kernel_rfl)
 replace hG:=hF.gx
 clear hF
 have z9:=hS.fr.size
 refine wp_cond_false (hK.ev 44 (by kernel_rfl) _ (by kernel_rfl)) ?_
 refine wp_skip ?_
 refine then_n ?_
 refine wp_symQ hS hG hK (fun p10=>[.v 45 (.string hd),.v 46 (.int .i64 (hd.size:Int)),.v 47 (.bool true),.v 48 (.bool true),.v 49 (.string hd),.v 50 (.string hd),.v 51 (.int .i64 (hd.size:Int)),.v 52 (.int .i64 (j:Int)),.v 53 (.int .u8 (b:Int)),.v 54 (.int .u8 ((b % 2:Nat):Int)),.v 55 (.bool o),.v 56 (.bool o),.v 12 (.bool o)]) (fun p10=>[(1,.int .i64 pl),(2,.int .u8 (md:Int)),(3,.pointer (some ⟨(p1 0).N,0,none⟩)),(6,.pointer (some ⟨(p1 1).N,0,none⟩)),(7,.int .i64 0),(9,.string hd),(11,.int .i64 1),(12,.bool o),(27,.bool true),(42,.bool true),(44,.bool false)]) (by kernel_rfl) (fun _ _=>by kernel_rfl) (fun _=>by kernel_rfl) (fun _=>by kernel_rfl) (fun p10=>?_) (fun p10 W10 T hF hK=>?_)
 ·iterate 2 refine ok_v (by kernel_rfl) ?_
  refine ok_vb (decide_eq_true (show (hd.size:Int) > 0 by omega)) (by kernel_rfl) ?_
  iterate 4 refine ok_v (by kernel_rfl) ?_
  refine ok_vi ((wr64 (x:=(hd.size:Int) - 1) (by omega) (by omega)).trans (by omega)) (by kernel_rfl) ?_
  refine ok_vr (hiy) (by kernel_rfl) ?_
  refine ok_vi (tmod2 b) (by kernel_rfl) ?_
  refine ok_vb (ho) (by kernel_rfl) ?_
  iterate 2 refine ok_v (by kernel_rfl) ?_
  exact ok_nil
 replace hS:=SymF.fb hS hF [0,1] [⟨(p1 0).N,#[.bool g,.string s,.int .i64 x],23,true⟩,⟨(p1 1).N,#[.bool false,.string ⟨#[]⟩,.int .i64 0],23,true⟩] (by kernel_rfl) (by kernel_rfl)
 replace hG:=hF.gx
 clear hF
 have z10:=hS.fr.size
 refine wp_symQ hS hG hK (fun p11=>[.v 57 (.string hd),.c (some 58) (cN W10.heap.size M),.n 13 #[.slice none 0 0] 60,.p 1002 0 [.slice (p11 1).A (p11 1).N (p11 1).C]]) (fun p11=>[(1,.int .i64 pl),(2,.int .u8 (md:Int)),(3,.pointer (some ⟨(p1 0).N,0,none⟩)),(6,.pointer (some ⟨(p1 1).N,0,none⟩)),(7,.int .i64 0),(11,.int .i64 1),(12,.bool o),(13,.pointer (some ⟨(p11 2).N,0,none⟩)),(27,.bool true),(42,.bool true),(44,.bool false)]) (by kernel_rfl) (fun _ _=>by kernel_rfl) (fun _=>by kernel_rfl) (fun _=>by kernel_rfl) (fun p11=>?_) (fun p11 W11 T hF hK=>?_)
 ·refine ok_v (by kernel_rfl) ?_
  refine ok_c (fun W cx=>as_n cx.hb (unhide H1 _)) (by kernel_rfl) ?_
  refine ok_n (fun _=>by kernel_rfl) ?_
  refine ok_P (by kernel_rfl) (by kernel_rfl) (by kernel_rfl) ?_
  exact ok_nil
 replace hS:=SymF.fb hS hF [0,1,1002] [⟨(p1 0).N,#[.bool g,.string s,.int .i64 x],23,true⟩,⟨(p1 1).N,#[.bool false,.string ⟨#[]⟩,.int .i64 0],23,true⟩,⟨(p11 2).N,#[.slice (p11 1).A (p11 1).N (p11 1).C],60,true⟩] (by kernel_rfl) (by kernel_rfl)
 replace hG:GsAt (gM W10.heap.size (p11 1).A (p11 1).N (p11 1).C M :: _) W11:=⟨hF.fx 1,hF.gx⟩
 clear hF
 have z11:=hS.fr.size
 refine wp_seq ?_
 refine wp_symQ hS hG hK (fun p12=>[.v 59 (.pointer (some ⟨(p1 0).N,0,none⟩)),.l 60 (.bool g) 0 0,.v 61 (.bool o),.v 62 (.int .i64 1),.v 63 (.int .u8 (md:Int)),.c (some 64) (cV (.bool false))]) (fun p12=>[(1,.int .i64 pl),(3,.pointer (some ⟨(p1 0).N,0,none⟩)),(6,.pointer (some ⟨(p1 1).N,0,none⟩)),(7,.int .i64 0),(13,.pointer (some ⟨(p11 2).N,0,none⟩)),(27,.bool true),(42,.bool true),(44,.bool false),(64,.bool false)]) (by kernel_rfl) (fun _ _=>by kernel_rfl) (fun _=>by kernel_rfl) (fun _=>by kernel_rfl) (fun p12=>?_) (fun p12 W12 T hF hK=>?_)
 ·refine ok_v (by kernel_rfl) ?_
  refine ok_L (by kernel_rfl) (by kernel_rfl) (by kernel_rfl) ?_
  iterate 3 refine ok_v (by kernel_rfl) ?_
  refine ok_c (fun W cx=>as_v (unhide H2 _)) (by kernel_rfl) ?_
  exact ok_nil
 replace hS:=SymF.fb hS hF [0,1,2] [⟨(p1 0).N,#[.bool g,.string s,.int .i64 x],23,true⟩,⟨(p1 1).N,#[.bool false,.string ⟨#[]⟩,.int .i64 0],23,true⟩,⟨(p11 2).N,#[.slice (p11 1).A (p11 1).N (p11 1).C],60,true⟩] (by kernel_rfl) (by kernel_rfl)
 replace hG:=hF.gx
 clear hF
 have z12:=hS.fr.size
 refine wp_cond_false (hK.ev 64 (by kernel_rfl) _ (by kernel_rfl)) ?_
 refine wp_skip ?_
 refine then_n ?_
 refine wp_symQ hS hG hK (fun p13=>[.l 72 (.agg #[.slice (p11 1).A (p11 1).N (p11 1).C]) 2 0,.c (some 73) (cV (.tuple #[.string t,.int .i64 0])),.v 71 (.tuple #[.string t,.int .i64 0]),.v 74 (.string t),.v 75 (.int .i64 0),.v 14 (.string t),.v 15 (.int .i64 0)]) (fun p13=>[(1,.int .i64 pl),(3,.pointer (some ⟨(p1 0).N,0,none⟩)),(6,.pointer (some ⟨(p1 1).N,0,none⟩)),(7,.int .i64 0),(13,.pointer (some ⟨(p11 2).N,0,none⟩)),(14,.string t),(27,.bool true),(42,.bool true),(44,.bool false),(64,.bool false)]) (by kernel_rfl) (fun _ _=>by kernel_rfl) (fun _=>by kernel_rfl) (fun _=>by kernel_rfl) (fun p13=>?_) (fun p13 W13 T hF hK=>?_)
 ·refine ok_L (by kernel_rfl) (by kernel_rfl) (by kernel_rfl) ?_
  refine ok_c (fun W cx=>as_v (unhide HT _ _ _ (p11 1).C (Mine.num cx.G.1))) (by kernel_rfl) ?_
  iterate 5 refine ok_v (by kernel_rfl) ?_
  exact ok_nil
 replace hS:=SymF.fb hS hF [0,1,2] [⟨(p1 0).N,#[.bool g,.string s,.int .i64 x],23,true⟩,⟨(p1 1).N,#[.bool false,.string ⟨#[]⟩,.int .i64 0],23,true⟩,⟨(p11 2).N,#[.slice (p11 1).A (p11 1).N (p11 1).C],60,true⟩] (by kernel_rfl) (by kernel_rfl)
 replace hG:=hF.gx
 clear hF
 have z13:=hS.fr.size
 refine wp_symQ hS hG hK (fun p14=>[.v 76 (.pointer (some ⟨(p1 0).N,0,none⟩)),.l 77 (.bool g) 0 0,.v 78 (.string t),.v 79 (.int .i64 pl),.c (some 80) (cV (.tuple #[.agg #[.bool g2,.string s2,.int .i64 x2],.int .i64 e2])),.v 81 (.agg #[.bool g2,.string s2,.int .i64 x2]),.v 82 (.int .i64 e2),.p 1 0 [.bool g2,.string s2,.int .i64 x2],.v 7 (.int .i64 e2)]) (fun p14=>[(6,.pointer (some ⟨(p1 1).N,0,none⟩)),(7,.int .i64 e2),(13,.pointer (some ⟨(p11 2).N,0,none⟩)),(27,.bool true),(42,.bool true),(44,.bool false),(64,.bool false)]) (by kernel_rfl) (fun _ _=>by kernel_rfl) (fun _=>by kernel_rfl) (fun _=>by kernel_rfl) (fun p14=>?_) (fun p14 W14 T hF hK=>?_)
 ·refine ok_v (by kernel_rfl) ?_
  refine ok_L (by kernel_rfl) (by kernel_rfl) (by kernel_rfl) ?_
  iterate 2 refine ok_v (by kernel_rfl) ?_
  refine ok_c (fun W cx=>as_v (unhide HM _)) (by kernel_rfl) ?_
  iterate 2 refine ok_v (by kernel_rfl) ?_
  refine ok_P (by kernel_rfl) (by kernel_rfl) (by kernel_rfl) ?_
  refine ok_v (by kernel_rfl) ?_
  exact ok_nil
 replace hS:=SymF.fb hS hF [1,2] [⟨(p1 1).N,#[.bool g2,.string s2,.int .i64 x2],23,true⟩,⟨(p11 2).N,#[.slice (p11 1).A (p11 1).N (p11 1).C],60,true⟩] (by kernel_rfl) (by kernel_rfl)
 replace hG:=hF.gx
 clear hF
 have z14:=hS.fr.size
 refine wp_ret ?_
 exact sym_end hS hK (.tuple #[.agg #[.bool g2,.string s2,.int .i64 x2],.int .i64 e2]) [(0,0,3)] [.bool g2,.string s2,.int .i64 x2] (by kernel_rfl) (by kernel_rfl) ⟨rfl,hS.fr⟩
theorem rcut_A_eq_u (w:World) (g:Bool) (s:ByteArray) (x pl c:Int) (md M N1:Nat) (t:ByteArray) (g2:Bool) (s2:ByteArray) (x2 e2:Int) (k j b:Nat) (hd tl:ByteArray) (o:Bool) (a:Nat) (hm:s.size≤65536) (_hx0:-1073741824≤x) (_hx1:x≤1073741824) (hc:pl - x = c) (hc0:0 < c) (hc1:c≤2147483648) (hk:(k:Int)+c = (s.size:Int)) (hk1:0 < k) (hhd:s.extract 0 k = hd) (htl:s.extract k s.size = tl) (hj:j+1 = hd.size) (hb:∀ h:j < hd.size,(hd[j]'h).toNat = b) (ho:(((b % 2:Nat):Int) == 1) = o) (ht:0 < tl.size) (ha:∀ h:0 < tl.size,(tl[0]'h).toNat = a) (ha5:53≤a) (h5:(tl.toList == (⟨#[53]⟩:ByteArray).toList) = true) (H1:Hid (∀ W:World,Calls Try.prog 51 #[.string hd] W fun en W'=>(∃ a n c,en = .returned (.agg #[.slice a n c])∧Mine W' W.heap.size a n c M)∧Below W.heap.size W W')) (H2:Hid (∀ W:World,Calls Try.prog 96 #[.bool g,.bool o,.int .i64 0,.int .u8 (md:Int)] W fun e W'=>e = .returned (.bool true)∧Below W.heap.size W W')) (HA:Hid (∀ (W:World) (a:Option Addr) (n c:Nat) (a':Option Addr) (n' c':Nat),Num W a n M→Num W a' n' 1→Calls Try.prog 54 #[.agg #[.slice a n c],.agg #[.slice a' n' c']] W fun en W'=>(∃ a n c,en = .returned (.tuple #[.agg #[.slice a n c],.int .i64 0])∧Mine W' W.heap.size a n c N1)∧Below W.heap.size W W')) (HT:Hid (∀ (W:World) (a:Option Addr) (n c:Nat),Num W a n N1→Calls Try.prog 56 #[.agg #[.slice a n c]] W fun en W'=>en = .returned (.tuple #[.string t,.int .i64 0])∧Below W.heap.size W W')) (HM:Hid (∀ W:World,Calls Try.prog 17 #[.bool g,.string t,.int .i64 pl] W fun e W'=>e = .returned (.tuple #[.agg #[.bool g2,.string s2,.int .i64 x2],.int .i64 e2])∧Below W.heap.size W W')) :
  Calls Try.prog 61 #[.agg #[.bool g,.string s,.int .i64 x],.int .i64 pl,.int .u8 (md:Int)] w fun en w'=>en = .returned (.tuple #[.agg #[.bool g2,.string s2,.int .i64 x2],.int .i64 e2])∧Below w.heap.size w w':=by
 have hto:script Try.prog 0 (Instr.sliceAt 9 (.string s) none (some (.int .i64 (k:Int))) none) [] = some (.string hd,[]):=by rw [← hhd]; exact script_to Try.under_str (by omega) (by omega)
 have hfr:script Try.prog 0 (Instr.sliceAt 9 (.string s) (some (.int .i64 (k:Int))) none none) [] = some (.string tl,[]):=by rw [← htl]; exact script_from Try.under_str (by omega) (by omega)
 have hiy:script Try.prog 0 (Instr.index 9 (.string hd) (.int .i64 (j:Int))) [] = some (.int .u8 (b:Int),[]):=script_index (j:=j) Try.under_str rfl (by omega) (hb _)
 have hhs:hd.size≤65536:=by rw [← hhd,ByteArray.size_extract]; omega
 have hix:script Try.prog 0 (Instr.index 9 (.string tl) (.int .i64 0)) [] = some (.int .u8 (a:Int),[]):=script_index (j:=0) Try.under_str rfl ht (ha _)
 refine calls_sym Try.func61 rfl (by kernel_rfl) fun T hK=>?_
 replace hK:Kn T _ [(0,.agg #[.bool g,.string s,.int .i64 x]),(1,.int .i64 pl),(2,.int .u8 (md:Int))]:=hK
 have hS:=Fb.begin w
 have hG:GsAt [] w:=trivial
 refine wp_symQ hS hG hK (fun p1=>[.n 3 #[.bool g,.string s,.int .i64 x] 23,.n 6 #[.bool false,.string ⟨#[]⟩,.int .i64 0] 23,.v 7 (.int .i64 0)]) (fun p1=>[(1,.int .i64 pl),(2,.int .u8 (md:Int)),(3,.pointer (some ⟨(p1 0).N,0,none⟩)),(6,.pointer (some ⟨(p1 1).N,0,none⟩)),(7,.int .i64 0)]) (by kernel_rfl) (fun _ _=>by kernel_rfl) (fun _=>by kernel_rfl) (fun _=>by kernel_rfl) (fun p1=>?_) (fun p1 W1 T hF hK=>?_)
 ·iterate 2 refine ok_n (fun _=>by kernel_rfl) ?_
  refine ok_v (by kernel_rfl) ?_
  exact ok_nil
 replace hS:=SymF.fb hS hF [1000,1001] [⟨(p1 0).N,#[.bool g,.string s,.int .i64 x],23,true⟩,⟨(p1 1).N,#[.bool false,.string ⟨#[]⟩,.int .i64 0],23,true⟩] (by kernel_rfl) (by kernel_rfl)
 replace hG:=hF.gx
 clear hF
 have z1:=hS.fr.size
 refine wp_symQ hS hG hK (fun p2=>[.v 16 (.pointer (some ⟨(p1 0).N,1,none⟩)),.l 17 (.string s) 0 1,.v 18 (.int .i64 (s.size:Int)),.v 19 (.int .i64 pl),.v 20 (.pointer (some ⟨(p1 0).N,2,none⟩)),.l 21 (.int .i64 x) 0 2,.v 22 (.int .i64 c),.v 23 (.int .i64 (k:Int)),.v 8 (.int .i64 (k:Int))]) (fun p2=>[(1,.int .i64 pl),(2,.int .u8 (md:Int)),(3,.pointer (some ⟨(p1 0).N,0,none⟩)),(6,.pointer (some ⟨(p1 1).N,0,none⟩)),(7,.int .i64 0),(8,.int .i64 (k:Int))]) (by kernel_rfl) (fun _ _=>by kernel_rfl) (fun _=>by kernel_rfl) (fun _=>by kernel_rfl) (fun p2=>?_) (fun p2 W2 T hF hK=>?_)
 ·refine ok_v (by kernel_rfl) ?_
  refine ok_L (by kernel_rfl) (by kernel_rfl) (by kernel_rfl) ?_
  iterate 3 refine ok_v (by kernel_rfl) ?_
  refine ok_L (by kernel_rfl) (by kernel_rfl) (by kernel_rfl) ?_
  refine ok_vi ((wr64 (x:=pl - x) (by omega) (by omega)).trans hc) (by kernel_rfl) ?_
  refine ok_vi ((wr64 (x:=(s.size:Int) - c) (by omega) (by omega)).trans (by omega)) (by kernel_rfl) ?_
  refine ok_v (by kernel_rfl) ?_
  exact ok_nil
 replace hS:=SymF.fb hS hF [0,1] [⟨(p1 0).N,#[.bool g,.string s,.int .i64 x],23,true⟩,⟨(p1 1).N,#[.bool false,.string ⟨#[]⟩,.int .i64 0],23,true⟩] (by kernel_rfl) (by kernel_rfl)
 replace hG:=hF.gx
 clear hF
 have z2:=hS.fr.size
 refine wp_symQ hS hG hK (fun p3=>[.v 24 (.pointer (some ⟨(p1 0).N,1,none⟩)),.l 25 (.string s) 0 1,.v 9 (.string { data:=#[] }),.v 10 (.string s)]) (fun p3=>[(1,.int .i64 pl),(2,.int .u8 (md:Int)),(3,.pointer (some ⟨(p1 0).N,0,none⟩)),(6,.pointer (some ⟨(p1 1).N,0,none⟩)),(7,.int .i64 0),(8,.int .i64 (k:Int)),(9,.string { data:=#[] }),(10,.string s)]) (by kernel_rfl) (fun _ _=>by kernel_rfl) (fun _=>by kernel_rfl) (fun _=>by kernel_rfl) (fun p3=>?_) (fun p3 W3 T hF hK=>?_)
 ·refine ok_v (by kernel_rfl) ?_
  refine ok_L (by kernel_rfl) (by kernel_rfl) (by kernel_rfl) ?_
  iterate 2 refine ok_v (by kernel_rfl) ?_
  exact ok_nil
 replace hS:=SymF.fb hS hF [0,1] [⟨(p1 0).N,#[.bool g,.string s,.int .i64 x],23,true⟩,⟨(p1 1).N,#[.bool false,.string ⟨#[]⟩,.int .i64 0],23,true⟩] (by kernel_rfl) (by kernel_rfl)
 replace hG:=hF.gx
 clear hF
 have z3:=hS.fr.size
 refine wp_seq ?_
 refine wp_symQ hS hG hK (fun p4=>[.v 26 (.int .i64 (k:Int)),.v 27 (.bool true)]) (fun p4=>[(1,.int .i64 pl),(2,.int .u8 (md:Int)),(3,.pointer (some ⟨(p1 0).N,0,none⟩)),(6,.pointer (some ⟨(p1 1).N,0,none⟩)),(7,.int .i64 0),(8,.int .i64 (k:Int)),(9,.string { data:=#[] }),(10,.string s),(27,.bool true)]) (by kernel_rfl) (fun _ _=>by kernel_rfl) (fun _=>by kernel_rfl) (fun _=>by kernel_rfl) (fun p4=>?_) (fun p4 W4 T hF hK=>?_)
 ·refine ok_v (by kernel_rfl) ?_
  refine ok_vb (decide_eq_true (show (k:Int) > 0 by omega)) (by kernel_rfl) ?_
  exact ok_nil
 replace hS:=SymF.fb hS hF [0,1] [⟨(p1 0).N,#[.bool g,.string s,.int .i64 x],23,true⟩,⟨(p1 1).N,#[.bool false,.string ⟨#[]⟩,.int .i64 0],23,true⟩] (by kernel_rfl) (by kernel_rfl)
 replace hG:=hF.gx
 clear hF
 have z4:=hS.fr.size
 refine wp_cond_true (hK.ev 27 (by kernel_rfl) _ (by kernel_rfl)) ?_
 refine wp_symG hS hG hK (fun p5=>[.v 28 (.pointer (some ⟨(p1 0).N,1,none⟩)),.l 29 (.string s) 0 1,.v 30 (.int .i64 (k:Int)),.v 31 (.string hd),.v 32 (.pointer (some ⟨(p1 0).N,1,none⟩)),.l 33 (.string s) 0 1,.v 34 (.int .i64 (k:Int)),.v 35 (.string tl),.v 9 (.string hd),.v 10 (.string tl)]) (fun p5=>[(1,.int .i64 pl),(2,.int .u8 (md:Int)),(3,.pointer (some ⟨(p1 0).N,0,none⟩)),(6,.pointer (some ⟨(p1 1).N,0,none⟩)),(7,.int .i64 0),(8,.int .i64 (k:Int)),(9,.string hd),(10,.string tl),(27,.bool true)]) (by kernel_rfl) (fun _ _=>by kernel_rfl) (fun _=>by kernel_rfl) (fun _=>by kernel_rfl) (fun p5=>?_) (fun p5 W5 T hF hK=>?_)
 ·refine ok_v (by kernel_rfl) ?_
  refine ok_L (by kernel_rfl) (by kernel_rfl) (by kernel_rfl) ?_
  refine ok_v (by kernel_rfl) ?_
  refine ok_vr (hto) (by kernel_rfl) ?_
  refine ok_v (by kernel_rfl) ?_
  refine ok_L (by kernel_rfl) (by kernel_rfl) (by kernel_rfl) ?_
  refine ok_v (by kernel_rfl) ?_
  refine ok_vr (hfr) (by kernel_rfl) ?_
  iterate 2 refine ok_v (by kernel_rfl) ?_
  exact ok_nil
 replace hS:=SymF.fb hS hF [0,1] [⟨(p1 0).N,#[.bool g,.string s,.int .i64 x],23,true⟩,⟨(p1 1).N,#[.bool false,.string ⟨#[]⟩,.int .i64 0],23,true⟩] (by kernel_rfl) (by kernel_rfl)
 replace hG:=hF.gx
 clear hF
 have z5:=hS.fr.size
 refine then_n ?_
 refine wp_symQ hS hG hK (fun p6=>[.v 11 (.int .i64 (-1))]) (fun p6=>[(1,.int .i64 pl),(2,.int .u8 (md:Int)),(3,.pointer (some ⟨(p1 0).N,0,none⟩)),(6,.pointer (some ⟨(p1 1).N,0,none⟩)),(7,.int .i64 0),(8,.int .i64 (k:Int)),(9,.string hd),(10,.string tl),(11,.int .i64 (-1)),(27,.bool true)]) (by kernel_rfl) (fun _ _=>by kernel_rfl) (fun _=>by kernel_rfl) (fun _=>by kernel_rfl) (fun p6=>?_) (fun p6 W6 T hF hK=>?_)
 ·refine ok_v (by kernel_rfl) ?_
  exact ok_nil
 replace hS:=SymF.fb hS hF [0,1] [⟨(p1 0).N,#[.bool g,.string s,.int .i64 x],23,true⟩,⟨(p1 1).N,#[.bool false,.string ⟨#[]⟩,.int .i64 0],23,true⟩] (by kernel_rfl) (by kernel_rfl)
 replace hG:=hF.gx
 clear hF
 have z6:=hS.fr.size
 refine wp_seq ?_
 refine wp_symQ hS hG hK (fun p7=>[.v 36 (.int .i64 (k:Int)),.v 37 (.bool true),.v 38 (.bool true),.v 39 (.string tl),.v 40 (.int .u8 (a:Int)),.v 41 (.bool true),.v 42 (.bool true)]) (fun p7=>[(1,.int .i64 pl),(2,.int .u8 (md:Int)),(3,.pointer (some ⟨(p1 0).N,0,none⟩)),(6,.pointer (some ⟨(p1 1).N,0,none⟩)),(7,.int .i64 0),(9,.string hd),(10,.string tl),(11,.int .i64 (-1)),(27,.bool true),(42,.bool true)]) (by kernel_rfl) (fun _ _=>by kernel_rfl) (fun _=>by kernel_rfl) (fun _=>by kernel_rfl) (fun p7=>?_) (fun p7 W7 T hF hK=>?_)
 ·refine ok_v (by kernel_rfl) ?_
  refine ok_vb (decide_eq_true (show (k:Int) ≥ 0 by omega)) (by kernel_rfl) ?_
  iterate 2 refine ok_v (by kernel_rfl) ?_
  refine ok_vr (hix) (by kernel_rfl) ?_
  refine ok_vb (decide_eq_true (show (a:Int) ≥ 53 by omega)) (by kernel_rfl) ?_
  refine ok_v (by kernel_rfl) ?_
  exact ok_nil
 replace hS:=SymF.fb hS hF [0,1] [⟨(p1 0).N,#[.bool g,.string s,.int .i64 x],23,true⟩,⟨(p1 1).N,#[.bool false,.string ⟨#[]⟩,.int .i64 0],23,true⟩] (by kernel_rfl) (by kernel_rfl)
 replace hG:=hF.gx
 clear hF
 have z7:=hS.fr.size
 refine wp_cond_true (hK.ev 42 (by kernel_rfl) _ (by kernel_rfl)) ?_
 refine wp_symQ hS hG hK (fun p8=>[.v 11 (.int .i64 1)]) (fun p8=>[(1,.int .i64 pl),(2,.int .u8 (md:Int)),(3,.pointer (some ⟨(p1 0).N,0,none⟩)),(6,.pointer (some ⟨(p1 1).N,0,none⟩)),(7,.int .i64 0),(9,.string hd),(10,.string tl),(11,.int .i64 1),(27,.bool true),(42,.bool true)]) (by kernel_rfl) (fun _ _=>by kernel_rfl) (fun _=>by kernel_rfl) (fun _=>by kernel_rfl) (fun p8=>?_) (fun p8 W8 T hF hK=>?_)
 ·refine ok_v (by kernel_rfl) ?_
  exact ok_nil
 replace hS:=SymF.fb hS hF [0,1] [⟨(p1 0).N,#[.bool g,.string s,.int .i64 x],23,true⟩,⟨(p1 1).N,#[.bool false,.string ⟨#[]⟩,.int .i64 0],23,true⟩] (by kernel_rfl) (by kernel_rfl)
 replace hG:=hF.gx
 clear hF
 have z8:=hS.fr.size
 refine wp_symQ hS hG hK (fun p9=>[.v 43 (.string tl),.v 44 (.bool true)]) (fun p9=>[(1,.int .i64 pl),(2,.int .u8 (md:Int)),(3,.pointer (some ⟨(p1 0).N,0,none⟩)),(6,.pointer (some ⟨(p1 1).N,0,none⟩)),(7,.int .i64 0),(9,.string hd),(11,.int .i64 1),(27,.bool true),(42,.bool true),(44,.bool true)]) (by kernel_rfl) (fun _ _=>by kernel_rfl) (fun _=>by kernel_rfl) (fun _=>by kernel_rfl) (fun p9=>?_) (fun p9 W9 T hF hK=>?_)
 ·refine ok_v (by kernel_rfl) ?_
  refine ok_vb (h5) (by kernel_rfl) ?_
  exact ok_nil
 replace hS:=SymF.fb hS hF [0,1] [⟨(p1 0).N,#[.bool g,.string s,.int .i64 x],23,true⟩,⟨(p1 1).N,#[.bool false,.string ⟨#[]⟩,.int .i64 0],23,true⟩] (by kernel_rfl) (by kernel_rfl)
 replace hG:=hF.gx
 clear hF
 have z9:=hS.fr.size
 refine wp_cond_true (hK.ev 44 (by kernel_rfl) _ (by kernel_rfl)) ?_
 refine wp_symG hS hG hK (fun p10=>[.v 11 (.int .i64 0)]) (fun p10=>[(1,.int .i64 pl),(2,.int .u8 (md:Int)),(3,.pointer (some ⟨(p1 0).N,0,none⟩)),(6,.pointer (some ⟨(p1 1).N,0,none⟩)),(7,.int .i64 0),(9,.string hd),(11,.int .i64 0),(27,.bool true),(42,.bool true),(44,.bool true)]) (by kernel_rfl) (fun _ _=>by kernel_rfl) (fun _=>by kernel_rfl) (fun _=>by kernel_rfl) (fun p10=>?_) (fun p10 W10 T hF hK=>?_)
 ·refine ok_v (by kernel_rfl) ?_
  exact ok_nil
 replace hS:=SymF.fb hS hF [0,1] [⟨(p1 0).N,#[.bool g,.string s,.int .i64 x],23,true⟩,⟨(p1 1).N,#[.bool false,.string ⟨#[]⟩,.int .i64 0],23,true⟩] (by kernel_rfl) (by kernel_rfl)
 replace hG:=hF.gx
 clear hF
 have z10:=hS.fr.size
 refine then_n ?_
 refine wp_symQ hS hG hK (fun p11=>[.v 45 (.string hd),.v 46 (.int .i64 (hd.size:Int)),.v 47 (.bool true),.v 48 (.bool true),.v 49 (.string hd),.v 50 (.string hd),.v 51 (.int .i64 (hd.size:Int)),.v 52 (.int .i64 (j:Int)),.v 53 (.int .u8 (b:Int)),.v 54 (.int .u8 ((b % 2:Nat):Int)),.v 55 (.bool o),.v 56 (.bool o),.v 12 (.bool o)]) (fun p11=>[(1,.int .i64 pl),(2,.int .u8 (md:Int)),(3,.pointer (some ⟨(p1 0).N,0,none⟩)),(6,.pointer (some ⟨(p1 1).N,0,none⟩)),(7,.int .i64 0),(9,.string hd),(11,.int .i64 0),(12,.bool o),(27,.bool true),(42,.bool true),(44,.bool true)]) (by kernel_rfl) (fun _ _=>by kernel_rfl) (fun _=>by kernel_rfl) (fun _=>by kernel_rfl) (fun p11=>?_) (fun p11 W11 T hF hK=>?_)
 ·iterate 2 refine ok_v (by kernel_rfl) ?_
  refine ok_vb (decide_eq_true (show (hd.size:Int) > 0 by omega)) (by kernel_rfl) ?_
  iterate 4 refine ok_v (by kernel_rfl) ?_
  refine ok_vi ((wr64 (x:=(hd.size:Int) - 1) (by omega) (by omega)).trans (by omega)) (by kernel_rfl) ?_
  refine ok_vr (hiy) (by kernel_rfl) ?_
  refine ok_vi (tmod2 b) (by kernel_rfl) ?_
  refine ok_vb (ho) (by kernel_rfl) ?_
  iterate 2 refine ok_v (by kernel_rfl) ?_
  exact ok_nil
 replace hS:=SymF.fb hS hF [0,1] [⟨(p1 0).N,#[.bool g,.string s,.int .i64 x],23,true⟩,⟨(p1 1).N,#[.bool false,.string ⟨#[]⟩,.int .i64 0],23,true⟩] (by kernel_rfl) (by kernel_rfl)
 replace hG:=hF.gx
 clear hF
 have z11:=hS.fr.size
 refine wp_symQ hS hG hK (fun p12=>[.v 57 (.string hd),.c (some 58) (cN W11.heap.size M),.n 13 #[.slice none 0 0] 60,.p 1002 0 [.slice (p12 1).A (p12 1).N (p12 1).C]]) (fun p12=>[(1,.int .i64 pl),(2,.int .u8 (md:Int)),(3,.pointer (some ⟨(p1 0).N,0,none⟩)),(6,.pointer (some ⟨(p1 1).N,0,none⟩)),(7,.int .i64 0),(11,.int .i64 0),(12,.bool o),(13,.pointer (some ⟨(p12 2).N,0,none⟩)),(27,.bool true),(42,.bool true),(44,.bool true)]) (by kernel_rfl) (fun _ _=>by kernel_rfl) (fun _=>by kernel_rfl) (fun _=>by kernel_rfl) (fun p12=>?_) (fun p12 W12 T hF hK=>?_)
 ·refine ok_v (by kernel_rfl) ?_
  refine ok_c (fun W cx=>as_n cx.hb (unhide H1 _)) (by kernel_rfl) ?_
  refine ok_n (fun _=>by kernel_rfl) ?_
  refine ok_P (by kernel_rfl) (by kernel_rfl) (by kernel_rfl) ?_
  exact ok_nil
 replace hS:=SymF.fb hS hF [0,1,1002] [⟨(p1 0).N,#[.bool g,.string s,.int .i64 x],23,true⟩,⟨(p1 1).N,#[.bool false,.string ⟨#[]⟩,.int .i64 0],23,true⟩,⟨(p12 2).N,#[.slice (p12 1).A (p12 1).N (p12 1).C],60,true⟩] (by kernel_rfl) (by kernel_rfl)
 replace hG:GsAt (gM W11.heap.size (p12 1).A (p12 1).N (p12 1).C M :: _) W12:=⟨hF.fx 1,hF.gx⟩
 clear hF
 have z12:=hS.fr.size
 refine wp_seq ?_
 refine wp_symQ hS hG hK (fun p13=>[.v 59 (.pointer (some ⟨(p1 0).N,0,none⟩)),.l 60 (.bool g) 0 0,.v 61 (.bool o),.v 62 (.int .i64 0),.v 63 (.int .u8 (md:Int)),.c (some 64) (cV (.bool true))]) (fun p13=>[(1,.int .i64 pl),(3,.pointer (some ⟨(p1 0).N,0,none⟩)),(6,.pointer (some ⟨(p1 1).N,0,none⟩)),(7,.int .i64 0),(13,.pointer (some ⟨(p12 2).N,0,none⟩)),(27,.bool true),(42,.bool true),(44,.bool true),(64,.bool true)]) (by kernel_rfl) (fun _ _=>by kernel_rfl) (fun _=>by kernel_rfl) (fun _=>by kernel_rfl) (fun p13=>?_) (fun p13 W13 T hF hK=>?_)
 ·refine ok_v (by kernel_rfl) ?_
  refine ok_L (by kernel_rfl) (by kernel_rfl) (by kernel_rfl) ?_
  iterate 3 refine ok_v (by kernel_rfl) ?_
  refine ok_c (fun W cx=>as_v (unhide H2 _)) (by kernel_rfl) ?_
  exact ok_nil
 replace hS:=SymF.fb hS hF [0,1,2] [⟨(p1 0).N,#[.bool g,.string s,.int .i64 x],23,true⟩,⟨(p1 1).N,#[.bool false,.string ⟨#[]⟩,.int .i64 0],23,true⟩,⟨(p12 2).N,#[.slice (p12 1).A (p12 1).N (p12 1).C],60,true⟩] (by kernel_rfl) (by kernel_rfl)
 replace hG:=hF.gx
 clear hF
 have z13:=hS.fr.size
 refine wp_cond_true (hK.ev 64 (by kernel_rfl) _ (by kernel_rfl)) ?_
 refine wp_symG hS hG hK (fun p14=>[.l 66 (.agg #[.slice (p12 1).A (p12 1).N (p12 1).C]) 2 0,.c (some 67) (cN W13.heap.size 1),.c (some 68) (cO W13.heap.size N1),.v 65 (.tuple #[.agg #[.slice (p14 2).A (p14 2).N (p14 2).C],.int .i64 0]),.v 69 (.agg #[.slice (p14 2).A (p14 2).N (p14 2).C]),.v 70 (.int .i64 0),.p 2 0 [.slice (p14 2).A (p14 2).N (p14 2).C]]) (fun p14=>[(1,.int .i64 pl),(3,.pointer (some ⟨(p1 0).N,0,none⟩)),(6,.pointer (some ⟨(p1 1).N,0,none⟩)),(7,.int .i64 0),(13,.pointer (some ⟨(p12 2).N,0,none⟩)),(27,.bool true),(42,.bool true),(44,.bool true),(64,.bool true)]) (by kernel_rfl) (fun _ _=>by kernel_rfl) (fun _=>by kernel_rfl) (fun _=>by kernel_rfl) (fun p14=>?_) (fun p14 W14 T hF hK=>?_)
 ·refine ok_L (by kernel_rfl) (by kernel_rfl) (by kernel_rfl) ?_
  refine ok_c (fun W cx=>as_n cx.hb (rof_any 1 _ (by decide))) (by kernel_rfl) ?_
  refine ok_c (fun W cx=>as_o cx.hb (unhide HA _ _ _ (p12 1).C _ _ (p14 1).C (Mine.num cx.G.1) (Mine.num (cx.F 1 (by kernel_rfl))))) (by kernel_rfl) ?_
  iterate 3 refine ok_v (by kernel_rfl) ?_
  refine ok_P (by kernel_rfl) (by kernel_rfl) (by kernel_rfl) ?_
  exact ok_nil
 replace hS:=SymF.fb hS hF [0,1,2] [⟨(p1 0).N,#[.bool g,.string s,.int .i64 x],23,true⟩,⟨(p1 1).N,#[.bool false,.string ⟨#[]⟩,.int .i64 0],23,true⟩,⟨(p12 2).N,#[.slice (p14 2).A (p14 2).N (p14 2).C],60,true⟩] (by kernel_rfl) (by kernel_rfl)
 replace hG:GsAt (gM W13.heap.size (p14 1).A (p14 1).N (p14 1).C 1 :: gM W13.heap.size (p14 2).A (p14 2).N (p14 2).C N1 :: _) W14:=⟨hF.fx 1,hF.fx 2,hF.gx⟩
 clear hF
 have z14:=hS.fr.size
 refine then_n ?_
 refine wp_symQ hS hG hK (fun p15=>[.l 72 (.agg #[.slice (p14 2).A (p14 2).N (p14 2).C]) 2 0,.c (some 73) (cV (.tuple #[.string t,.int .i64 0])),.v 71 (.tuple #[.string t,.int .i64 0]),.v 74 (.string t),.v 75 (.int .i64 0),.v 14 (.string t),.v 15 (.int .i64 0)]) (fun p15=>[(1,.int .i64 pl),(3,.pointer (some ⟨(p1 0).N,0,none⟩)),(6,.pointer (some ⟨(p1 1).N,0,none⟩)),(7,.int .i64 0),(14,.string t),(27,.bool true),(42,.bool true),(44,.bool true),(64,.bool true)]) (by kernel_rfl) (fun _ _=>by kernel_rfl) (fun _=>by kernel_rfl) (fun _=>by kernel_rfl) (fun p15=>?_) (fun p15 W15 T hF hK=>?_)
 ·refine ok_L (by kernel_rfl) (by kernel_rfl) (by kernel_rfl) ?_
  refine ok_c (fun W cx=>as_v (unhide HT _ _ _ (p14 2).C (Mine.num cx.G.2.1))) (by kernel_rfl) ?_
  iterate 5 refine ok_v (by kernel_rfl) ?_
  exact ok_nil
 replace hS:=SymF.fb hS hF [0,1] [⟨(p1 0).N,#[.bool g,.string s,.int .i64 x],23,true⟩,⟨(p1 1).N,#[.bool false,.string ⟨#[]⟩,.int .i64 0],23,true⟩] (by kernel_rfl) (by kernel_rfl)
 replace hG:=hF.gx
 clear hF
 have z15:=hS.fr.size
 refine wp_symQ hS hG hK (fun p16=>[.v 76 (.pointer (some ⟨(p1 0).N,0,none⟩)),.l 77 (.bool g) 0 0,.v 78 (.string t),.v 79 (.int .i64 pl),.c (some 80) (cV (.tuple #[.agg #[.bool g2,.string s2,.int .i64 x2],.int .i64 e2])),.v 81 (.agg #[.bool g2,.string s2,.int .i64 x2]),.v 82 (.int .i64 e2),.p 1 0 [.bool g2,.string s2,.int .i64 x2],.v 7 (.int .i64 e2)]) (fun p16=>[(6,.pointer (some ⟨(p1 1).N,0,none⟩)),(7,.int .i64 e2),(27,.bool true),(42,.bool true),(44,.bool true),(64,.bool true)]) (by kernel_rfl) (fun _ _=>by kernel_rfl) (fun _=>by kernel_rfl) (fun _=>by kernel_rfl) (fun p16=>?_) (fun p16 W16 T hF hK=>?_)
 ·refine ok_v (by kernel_rfl) ?_
  refine ok_L (by kernel_rfl) (by kernel_rfl) (by kernel_rfl) ?_
  iterate 2 refine ok_v (by kernel_rfl) ?_
  refine ok_c (fun W cx=>as_v (unhide HM _)) (by kernel_rfl) ?_
  iterate 2 refine ok_v (by kernel_rfl) ?_
  refine ok_P (by kernel_rfl) (by kernel_rfl) (by kernel_rfl) ?_
  refine ok_v (by kernel_rfl) ?_
  exact ok_nil
 replace hS:=SymF.fb hS hF [1] [⟨(p1 1).N,#[.bool g2,.string s2,.int .i64 x2],23,true⟩] (by kernel_rfl) (by kernel_rfl)
 replace hG:=hF.gx
 clear hF
 have z16:=hS.fr.size
 refine wp_ret ?_
 exact sym_end hS hK (.tuple #[.agg #[.bool g2,.string s2,.int .i64 x2],.int .i64 e2]) [(0,0,3)] [.bool g2,.string s2,.int .i64 x2] (by kernel_rfl) (by kernel_rfl) ⟨rfl,hS.fr⟩
theorem rcut_A_eq_n (w:World) (g:Bool) (s:ByteArray) (x pl c:Int) (md M:Nat) (t:ByteArray) (g2:Bool) (s2:ByteArray) (x2 e2:Int) (k j b:Nat) (hd tl:ByteArray) (o:Bool) (a:Nat) (hm:s.size≤65536) (_hx0:-1073741824≤x) (_hx1:x≤1073741824) (hc:pl - x = c) (hc0:0 < c) (hc1:c≤2147483648) (hk:(k:Int)+c = (s.size:Int)) (hk1:0 < k) (hhd:s.extract 0 k = hd) (htl:s.extract k s.size = tl) (hj:j+1 = hd.size) (hb:∀ h:j < hd.size,(hd[j]'h).toNat = b) (ho:(((b % 2:Nat):Int) == 1) = o) (ht:0 < tl.size) (ha:∀ h:0 < tl.size,(tl[0]'h).toNat = a) (ha5:53≤a) (h5:(tl.toList == (⟨#[53]⟩:ByteArray).toList) = true) (H1:Hid (∀ W:World,Calls Try.prog 51 #[.string hd] W fun en W'=>(∃ a n c,en = .returned (.agg #[.slice a n c])∧Mine W' W.heap.size a n c M)∧Below W.heap.size W W')) (H2:Hid (∀ W:World,Calls Try.prog 96 #[.bool g,.bool o,.int .i64 0,.int .u8 (md:Int)] W fun e W'=>e = .returned (.bool false)∧Below W.heap.size W W')) (HT:Hid (∀ (W:World) (a:Option Addr) (n c:Nat),Num W a n M→Calls Try.prog 56 #[.agg #[.slice a n c]] W fun en W'=>en = .returned (.tuple #[.string t,.int .i64 0])∧Below W.heap.size W W')) (HM:Hid (∀ W:World,Calls Try.prog 17 #[.bool g,.string t,.int .i64 pl] W fun e W'=>e = .returned (.tuple #[.agg #[.bool g2,.string s2,.int .i64 x2],.int .i64 e2])∧Below W.heap.size W W')) :
  Calls Try.prog 61 #[.agg #[.bool g,.string s,.int .i64 x],.int .i64 pl,.int .u8 (md:Int)] w fun en w'=>en = .returned (.tuple #[.agg #[.bool g2,.string s2,.int .i64 x2],.int .i64 e2])∧Below w.heap.size w w':=by
 have hto:script Try.prog 0 (Instr.sliceAt 9 (.string s) none (some (.int .i64 (k:Int))) none) [] = some (.string hd,[]):=by rw [← hhd]; exact script_to Try.under_str (by omega) (by omega)
 have hfr:script Try.prog 0 (Instr.sliceAt 9 (.string s) (some (.int .i64 (k:Int))) none none) [] = some (.string tl,[]):=by rw [← htl]; exact script_from Try.under_str (by omega) (by omega)
 have hiy:script Try.prog 0 (Instr.index 9 (.string hd) (.int .i64 (j:Int))) [] = some (.int .u8 (b:Int),[]):=script_index (j:=j) Try.under_str rfl (by omega) (hb _)
 have hhs:hd.size≤65536:=by rw [← hhd,ByteArray.size_extract]; omega
 have hix:script Try.prog 0 (Instr.index 9 (.string tl) (.int .i64 0)) [] = some (.int .u8 (a:Int),[]):=script_index (j:=0) Try.under_str rfl ht (ha _)
 refine calls_sym Try.func61 rfl (by kernel_rfl) fun T hK=>?_
 replace hK:Kn T _ [(0,.agg #[.bool g,.string s,.int .i64 x]),(1,.int .i64 pl),(2,.int .u8 (md:Int))]:=hK
 have hS:=Fb.begin w
 have hG:GsAt [] w:=trivial
 refine wp_symQ hS hG hK (fun p1=>[.n 3 #[.bool g,.string s,.int .i64 x] 23,.n 6 #[.bool false,.string ⟨#[]⟩,.int .i64 0] 23,.v 7 (.int .i64 0)]) (fun p1=>[(1,.int .i64 pl),(2,.int .u8 (md:Int)),(3,.pointer (some ⟨(p1 0).N,0,none⟩)),(6,.pointer (some ⟨(p1 1).N,0,none⟩)),(7,.int .i64 0)]) (by kernel_rfl) (fun _ _=>by kernel_rfl) (fun _=>by kernel_rfl) (fun _=>by kernel_rfl) (fun p1=>?_) (fun p1 W1 T hF hK=>?_)
 ·iterate 2 refine ok_n (fun _=>by kernel_rfl) ?_
  refine ok_v (by kernel_rfl) ?_
  exact ok_nil
 replace hS:=SymF.fb hS hF [1000,1001] [⟨(p1 0).N,#[.bool g,.string s,.int .i64 x],23,true⟩,⟨(p1 1).N,#[.bool false,.string ⟨#[]⟩,.int .i64 0],23,true⟩] (by kernel_rfl) (by kernel_rfl)
 replace hG:=hF.gx
 clear hF
 have z1:=hS.fr.size
 refine wp_symQ hS hG hK (fun p2=>[.v 16 (.pointer (some ⟨(p1 0).N,1,none⟩)),.l 17 (.string s) 0 1,.v 18 (.int .i64 (s.size:Int)),.v 19 (.int .i64 pl),.v 20 (.pointer (some ⟨(p1 0).N,2,none⟩)),.l 21 (.int .i64 x) 0 2,.v 22 (.int .i64 c),.v 23 (.int .i64 (k:Int)),.v 8 (.int .i64 (k:Int))]) (fun p2=>[(1,.int .i64 pl),(2,.int .u8 (md:Int)),(3,.pointer (some ⟨(p1 0).N,0,none⟩)),(6,.pointer (some ⟨(p1 1).N,0,none⟩)),(7,.int .i64 0),(8,.int .i64 (k:Int))]) (by kernel_rfl) (fun _ _=>by kernel_rfl) (fun _=>by kernel_rfl) (fun _=>by kernel_rfl) (fun p2=>?_) (fun p2 W2 T hF hK=>?_)
 ·refine ok_v (by kernel_rfl) ?_
  refine ok_L (by kernel_rfl) (by kernel_rfl) (by kernel_rfl) ?_
  iterate 3 refine ok_v (by kernel_rfl) ?_
  refine ok_L (by kernel_rfl) (by kernel_rfl) (by kernel_rfl) ?_
  refine ok_vi ((wr64 (x:=pl - x) (by omega) (by omega)).trans hc) (by kernel_rfl) ?_
  refine ok_vi ((wr64 (x:=(s.size:Int) - c) (by omega) (by omega)).trans (by omega)) (by kernel_rfl) ?_
  refine ok_v (by kernel_rfl) ?_
  exact ok_nil
 replace hS:=SymF.fb hS hF [0,1] [⟨(p1 0).N,#[.bool g,.string s,.int .i64 x],23,true⟩,⟨(p1 1).N,#[.bool false,.string ⟨#[]⟩,.int .i64 0],23,true⟩] (by kernel_rfl) (by kernel_rfl)
 replace hG:=hF.gx
 clear hF
 have z2:=hS.fr.size
 refine wp_symQ hS hG hK (fun p3=>[.v 24 (.pointer (some ⟨(p1 0).N,1,none⟩)),.l 25 (.string s) 0 1,.v 9 (.string { data:=#[] }),.v 10 (.string s)]) (fun p3=>[(1,.int .i64 pl),(2,.int .u8 (md:Int)),(3,.pointer (some ⟨(p1 0).N,0,none⟩)),(6,.pointer (some ⟨(p1 1).N,0,none⟩)),(7,.int .i64 0),(8,.int .i64 (k:Int)),(9,.string { data:=#[] }),(10,.string s)]) (by kernel_rfl) (fun _ _=>by kernel_rfl) (fun _=>by kernel_rfl) (fun _=>by kernel_rfl) (fun p3=>?_) (fun p3 W3 T hF hK=>?_)
 ·refine ok_v (by kernel_rfl) ?_
  refine ok_L (by kernel_rfl) (by kernel_rfl) (by kernel_rfl) ?_
  iterate 2 refine ok_v (by kernel_rfl) ?_
  exact ok_nil
 replace hS:=SymF.fb hS hF [0,1] [⟨(p1 0).N,#[.bool g,.string s,.int .i64 x],23,true⟩,⟨(p1 1).N,#[.bool false,.string ⟨#[]⟩,.int .i64 0],23,true⟩] (by kernel_rfl) (by kernel_rfl)
 replace hG:=hF.gx
 clear hF
 have z3:=hS.fr.size
 refine wp_seq ?_
 refine wp_symQ hS hG hK (fun p4=>[.v 26 (.int .i64 (k:Int)),.v 27 (.bool true)]) (fun p4=>[(1,.int .i64 pl),(2,.int .u8 (md:Int)),(3,.pointer (some ⟨(p1 0).N,0,none⟩)),(6,.pointer (some ⟨(p1 1).N,0,none⟩)),(7,.int .i64 0),(8,.int .i64 (k:Int)),(9,.string { data:=#[] }),(10,.string s),(27,.bool true)]) (by kernel_rfl) (fun _ _=>by kernel_rfl) (fun _=>by kernel_rfl) (fun _=>by kernel_rfl) (fun p4=>?_) (fun p4 W4 T hF hK=>?_)
 ·refine ok_v (by kernel_rfl) ?_
  refine ok_vb (decide_eq_true (show (k:Int) > 0 by omega)) (by kernel_rfl) ?_
  exact ok_nil
 replace hS:=SymF.fb hS hF [0,1] [⟨(p1 0).N,#[.bool g,.string s,.int .i64 x],23,true⟩,⟨(p1 1).N,#[.bool false,.string ⟨#[]⟩,.int .i64 0],23,true⟩] (by kernel_rfl) (by kernel_rfl)
 replace hG:=hF.gx
 clear hF
 have z4:=hS.fr.size
 refine wp_cond_true (hK.ev 27 (by kernel_rfl) _ (by kernel_rfl)) ?_
 refine wp_symG hS hG hK (fun p5=>[.v 28 (.pointer (some ⟨(p1 0).N,1,none⟩)),.l 29 (.string s) 0 1,.v 30 (.int .i64 (k:Int)),.v 31 (.string hd),.v 32 (.pointer (some ⟨(p1 0).N,1,none⟩)),.l 33 (.string s) 0 1,.v 34 (.int .i64 (k:Int)),.v 35 (.string tl),.v 9 (.string hd),.v 10 (.string tl)]) (fun p5=>[(1,.int .i64 pl),(2,.int .u8 (md:Int)),(3,.pointer (some ⟨(p1 0).N,0,none⟩)),(6,.pointer (some ⟨(p1 1).N,0,none⟩)),(7,.int .i64 0),(8,.int .i64 (k:Int)),(9,.string hd),(10,.string tl),(27,.bool true)]) (by kernel_rfl) (fun _ _=>by kernel_rfl) (fun _=>by kernel_rfl) (fun _=>by kernel_rfl) (fun p5=>?_) (fun p5 W5 T hF hK=>?_)
 ·refine ok_v (by kernel_rfl) ?_
  refine ok_L (by kernel_rfl) (by kernel_rfl) (by kernel_rfl) ?_
  refine ok_v (by kernel_rfl) ?_
  refine ok_vr (hto) (by kernel_rfl) ?_
  refine ok_v (by kernel_rfl) ?_
  refine ok_L (by kernel_rfl) (by kernel_rfl) (by kernel_rfl) ?_
  refine ok_v (by kernel_rfl) ?_
  refine ok_vr (hfr) (by kernel_rfl) ?_
  iterate 2 refine ok_v (by kernel_rfl) ?_
  exact ok_nil
 replace hS:=SymF.fb hS hF [0,1] [⟨(p1 0).N,#[.bool g,.string s,.int .i64 x],23,true⟩,⟨(p1 1).N,#[.bool false,.string ⟨#[]⟩,.int .i64 0],23,true⟩] (by kernel_rfl) (by kernel_rfl)
 replace hG:=hF.gx
 clear hF
 have z5:=hS.fr.size
 refine then_n ?_
 refine wp_symQ hS hG hK (fun p6=>[.v 11 (.int .i64 (-1))]) (fun p6=>[(1,.int .i64 pl),(2,.int .u8 (md:Int)),(3,.pointer (some ⟨(p1 0).N,0,none⟩)),(6,.pointer (some ⟨(p1 1).N,0,none⟩)),(7,.int .i64 0),(8,.int .i64 (k:Int)),(9,.string hd),(10,.string tl),(11,.int .i64 (-1)),(27,.bool true)]) (by kernel_rfl) (fun _ _=>by kernel_rfl) (fun _=>by kernel_rfl) (fun _=>by kernel_rfl) (fun p6=>?_) (fun p6 W6 T hF hK=>?_)
 ·refine ok_v (by kernel_rfl) ?_
  exact ok_nil
 replace hS:=SymF.fb hS hF [0,1] [⟨(p1 0).N,#[.bool g,.string s,.int .i64 x],23,true⟩,⟨(p1 1).N,#[.bool false,.string ⟨#[]⟩,.int .i64 0],23,true⟩] (by kernel_rfl) (by kernel_rfl)
 replace hG:=hF.gx
 clear hF
 have z6:=hS.fr.size
 refine wp_seq ?_
 refine wp_symQ hS hG hK (fun p7=>[.v 36 (.int .i64 (k:Int)),.v 37 (.bool true),.v 38 (.bool true),.v 39 (.string tl),.v 40 (.int .u8 (a:Int)),.v 41 (.bool true),.v 42 (.bool true)]) (fun p7=>[(1,.int .i64 pl),(2,.int .u8 (md:Int)),(3,.pointer (some ⟨(p1 0).N,0,none⟩)),(6,.pointer (some ⟨(p1 1).N,0,none⟩)),(7,.int .i64 0),(9,.string hd),(10,.string tl),(11,.int .i64 (-1)),(27,.bool true),(42,.bool true)]) (by kernel_rfl) (fun _ _=>by kernel_rfl) (fun _=>by kernel_rfl) (fun _=>by kernel_rfl) (fun p7=>?_) (fun p7 W7 T hF hK=>?_)
 ·refine ok_v (by kernel_rfl) ?_
  refine ok_vb (decide_eq_true (show (k:Int) ≥ 0 by omega)) (by kernel_rfl) ?_
  iterate 2 refine ok_v (by kernel_rfl) ?_
  refine ok_vr (hix) (by kernel_rfl) ?_
  refine ok_vb (decide_eq_true (show (a:Int) ≥ 53 by omega)) (by kernel_rfl) ?_
  refine ok_v (by kernel_rfl) ?_
  exact ok_nil
 replace hS:=SymF.fb hS hF [0,1] [⟨(p1 0).N,#[.bool g,.string s,.int .i64 x],23,true⟩,⟨(p1 1).N,#[.bool false,.string ⟨#[]⟩,.int .i64 0],23,true⟩] (by kernel_rfl) (by kernel_rfl)
 replace hG:=hF.gx
 clear hF
 have z7:=hS.fr.size
 refine wp_cond_true (hK.ev 42 (by kernel_rfl) _ (by kernel_rfl)) ?_
 refine wp_symQ hS hG hK (fun p8=>[.v 11 (.int .i64 1)]) (fun p8=>[(1,.int .i64 pl),(2,.int .u8 (md:Int)),(3,.pointer (some ⟨(p1 0).N,0,none⟩)),(6,.pointer (some ⟨(p1 1).N,0,none⟩)),(7,.int .i64 0),(9,.string hd),(10,.string tl),(11,.int .i64 1),(27,.bool true),(42,.bool true)]) (by kernel_rfl) (fun _ _=>by kernel_rfl) (fun _=>by kernel_rfl) (fun _=>by kernel_rfl) (fun p8=>?_) (fun p8 W8 T hF hK=>?_)
 ·refine ok_v (by kernel_rfl) ?_
  exact ok_nil
 replace hS:=SymF.fb hS hF [0,1] [⟨(p1 0).N,#[.bool g,.string s,.int .i64 x],23,true⟩,⟨(p1 1).N,#[.bool false,.string ⟨#[]⟩,.int .i64 0],23,true⟩] (by kernel_rfl) (by kernel_rfl)
 replace hG:=hF.gx
 clear hF
 have z8:=hS.fr.size
 refine wp_symQ hS hG hK (fun p9=>[.v 43 (.string tl),.v 44 (.bool true)]) (fun p9=>[(1,.int .i64 pl),(2,.int .u8 (md:Int)),(3,.pointer (some ⟨(p1 0).N,0,none⟩)),(6,.pointer (some ⟨(p1 1).N,0,none⟩)),(7,.int .i64 0),(9,.string hd),(11,.int .i64 1),(27,.bool true),(42,.bool true),(44,.bool true)]) (by kernel_rfl) (fun _ _=>by kernel_rfl) (fun _=>by kernel_rfl) (fun _=>by kernel_rfl) (fun p9=>?_) (fun p9 W9 T hF hK=>?_)
 ·refine ok_v (by kernel_rfl) ?_
  refine ok_vb (h5) (by kernel_rfl) ?_
  exact ok_nil
 replace hS:=SymF.fb hS hF [0,1] [⟨(p1 0).N,#[.bool g,.string s,.int .i64 x],23,true⟩,⟨(p1 1).N,#[.bool false,.string ⟨#[]⟩,.int .i64 0],23,true⟩] (by kernel_rfl) (by kernel_rfl)
 replace hG:=hF.gx
 clear hF
 have z9:=hS.fr.size
 refine wp_cond_true (hK.ev 44 (by kernel_rfl) _ (by kernel_rfl)) ?_
 refine wp_symG hS hG hK (fun p10=>[.v 11 (.int .i64 0)]) (fun p10=>[(1,.int .i64 pl),(2,.int .u8 (md:Int)),(3,.pointer (some ⟨(p1 0).N,0,none⟩)),(6,.pointer (some ⟨(p1 1).N,0,none⟩)),(7,.int .i64 0),(9,.string hd),(11,.int .i64 0),(27,.bool true),(42,.bool true),(44,.bool true)]) (by kernel_rfl) (fun _ _=>by kernel_rfl) (fun _=>by kernel_rfl) (fun _=>by kernel_rfl) (fun p10=>?_) (fun p10 W10 T hF hK=>?_)
 ·refine ok_v (by kernel_rfl) ?_
  exact ok_nil
 replace hS:=SymF.fb hS hF [0,1] [⟨(p1 0).N,#[.bool g,.string s,.int .i64 x],23,true⟩,⟨(p1 1).N,#[.bool false,.string ⟨#[]⟩,.int .i64 0],23,true⟩] (by kernel_rfl) (by kernel_rfl)
 replace hG:=hF.gx
 clear hF
 have z10:=hS.fr.size
 refine then_n ?_
 refine wp_symQ hS hG hK (fun p11=>[.v 45 (.string hd),.v 46 (.int .i64 (hd.size:Int)),.v 47 (.bool true),.v 48 (.bool true),.v 49 (.string hd),.v 50 (.string hd),.v 51 (.int .i64 (hd.size:Int)),.v 52 (.int .i64 (j:Int)),.v 53 (.int .u8 (b:Int)),.v 54 (.int .u8 ((b % 2:Nat):Int)),.v 55 (.bool o),.v 56 (.bool o),.v 12 (.bool o)]) (fun p11=>[(1,.int .i64 pl),(2,.int .u8 (md:Int)),(3,.pointer (some ⟨(p1 0).N,0,none⟩)),(6,.pointer (some ⟨(p1 1).N,0,none⟩)),(7,.int .i64 0),(9,.string hd),(11,.int .i64 0),(12,.bool o),(27,.bool true),(42,.bool true),(44,.bool true)]) (by kernel_rfl) (fun _ _=>by kernel_rfl) (fun _=>by kernel_rfl) (fun _=>by kernel_rfl) (fun p11=>?_) (fun p11 W11 T hF hK=>?_)
 ·iterate 2 refine ok_v (by kernel_rfl) ?_
  refine ok_vb (decide_eq_true (show (hd.size:Int) > 0 by omega)) (by kernel_rfl) ?_
  iterate 4 refine ok_v (by kernel_rfl) ?_
  refine ok_vi ((wr64 (x:=(hd.size:Int) - 1) (by omega) (by omega)).trans (by omega)) (by kernel_rfl) ?_
  refine ok_vr (hiy) (by kernel_rfl) ?_
  refine ok_vi (tmod2 b) (by kernel_rfl) ?_
  refine ok_vb (ho) (by kernel_rfl) ?_
  iterate 2 refine ok_v (by kernel_rfl) ?_
  exact ok_nil
 replace hS:=SymF.fb hS hF [0,1] [⟨(p1 0).N,#[.bool g,.string s,.int .i64 x],23,true⟩,⟨(p1 1).N,#[.bool false,.string ⟨#[]⟩,.int .i64 0],23,true⟩] (by kernel_rfl) (by kernel_rfl)
 replace hG:=hF.gx
 clear hF
 have z11:=hS.fr.size
 refine wp_symQ hS hG hK (fun p12=>[.v 57 (.string hd),.c (some 58) (cN W11.heap.size M),.n 13 #[.slice none 0 0] 60,.p 1002 0 [.slice (p12 1).A (p12 1).N (p12 1).C]]) (fun p12=>[(1,.int .i64 pl),(2,.int .u8 (md:Int)),(3,.pointer (some ⟨(p1 0).N,0,none⟩)),(6,.pointer (some ⟨(p1 1).N,0,none⟩)),(7,.int .i64 0),(11,.int .i64 0),(12,.bool o),(13,.pointer (some ⟨(p12 2).N,0,none⟩)),(27,.bool true),(42,.bool true),(44,.bool true)]) (by kernel_rfl) (fun _ _=>by kernel_rfl) (fun _=>by kernel_rfl) (fun _=>by kernel_rfl) (fun p12=>?_) (fun p12 W12 T hF hK=>?_)
 ·refine ok_v (by kernel_rfl) ?_
  refine ok_c (fun W cx=>as_n cx.hb (unhide H1 _)) (by kernel_rfl) ?_
  refine ok_n (fun _=>by kernel_rfl) ?_
  refine ok_P (by kernel_rfl) (by kernel_rfl) (by kernel_rfl) ?_
  exact ok_nil
 replace hS:=SymF.fb hS hF [0,1,1002] [⟨(p1 0).N,#[.bool g,.string s,.int .i64 x],23,true⟩,⟨(p1 1).N,#[.bool false,.string ⟨#[]⟩,.int .i64 0],23,true⟩,⟨(p12 2).N,#[.slice (p12 1).A (p12 1).N (p12 1).C],60,true⟩] (by kernel_rfl) (by kernel_rfl)
 replace hG:GsAt (gM W11.heap.size (p12 1).A (p12 1).N (p12 1).C M :: _) W12:=⟨hF.fx 1,hF.gx⟩
 clear hF
 have z12:=hS.fr.size
 refine wp_seq ?_
 refine wp_symQ hS hG hK (fun p13=>[.v 59 (.pointer (some ⟨(p1 0).N,0,none⟩)),.l 60 (.bool g) 0 0,.v 61 (.bool o),.v 62 (.int .i64 0),.v 63 (.int .u8 (md:Int)),.c (some 64) (cV (.bool false))]) (fun p13=>[(1,.int .i64 pl),(3,.pointer (some ⟨(p1 0).N,0,none⟩)),(6,.pointer (some ⟨(p1 1).N,0,none⟩)),(7,.int .i64 0),(13,.pointer (some ⟨(p12 2).N,0,none⟩)),(27,.bool true),(42,.bool true),(44,.bool true),(64,.bool false)]) (by kernel_rfl) (fun _ _=>by kernel_rfl) (fun _=>by kernel_rfl) (fun _=>by kernel_rfl) (fun p13=>?_) (fun p13 W13 T hF hK=>?_)
 ·refine ok_v (by kernel_rfl) ?_
  refine ok_L (by kernel_rfl) (by kernel_rfl) (by kernel_rfl) ?_
  iterate 3 refine ok_v (by kernel_rfl) ?_
  refine ok_c (fun W cx=>as_v (unhide H2 _)) (by kernel_rfl) ?_
  exact ok_nil
 replace hS:=SymF.fb hS hF [0,1,2] [⟨(p1 0).N,#[.bool g,.string s,.int .i64 x],23,true⟩,⟨(p1 1).N,#[.bool false,.string ⟨#[]⟩,.int .i64 0],23,true⟩,⟨(p12 2).N,#[.slice (p12 1).A (p12 1).N (p12 1).C],60,true⟩] (by kernel_rfl) (by kernel_rfl)
 replace hG:=hF.gx
 clear hF
 have z13:=hS.fr.size
 refine wp_cond_false (hK.ev 64 (by kernel_rfl) _ (by kernel_rfl)) ?_
 refine wp_skip ?_
 refine then_n ?_
 refine wp_symQ hS hG hK (fun p14=>[.l 72 (.agg #[.slice (p12 1).A (p12 1).N (p12 1).C]) 2 0,.c (some 73) (cV (.tuple #[.string t,.int .i64 0])),.v 71 (.tuple #[.string t,.int .i64 0]),.v 74 (.string t),.v 75 (.int .i64 0),.v 14 (.string t),.v 15 (.int .i64 0)]) (fun p14=>[(1,.int .i64 pl),(3,.pointer (some ⟨(p1 0).N,0,none⟩)),(6,.pointer (some ⟨(p1 1).N,0,none⟩)),(7,.int .i64 0),(13,.pointer (some ⟨(p12 2).N,0,none⟩)),(14,.string t),(27,.bool true),(42,.bool true),(44,.bool true),(64,.bool false)]) (by kernel_rfl) (fun _ _=>by kernel_rfl) (fun _=>by kernel_rfl) (fun _=>by kernel_rfl) (fun p14=>?_) (fun p14 W14 T hF hK=>?_)
 ·refine ok_L (by kernel_rfl) (by kernel_rfl) (by kernel_rfl) ?_
  refine ok_c (fun W cx=>as_v (unhide HT _ _ _ (p12 1).C (Mine.num cx.G.1))) (by kernel_rfl) ?_
  iterate 5 refine ok_v (by kernel_rfl) ?_
  exact ok_nil
 replace hS:=SymF.fb hS hF [0,1,2] [⟨(p1 0).N,#[.bool g,.string s,.int .i64 x],23,true⟩,⟨(p1 1).N,#[.bool false,.string ⟨#[]⟩,.int .i64 0],23,true⟩,⟨(p12 2).N,#[.slice (p12 1).A (p12 1).N (p12 1).C],60,true⟩] (by kernel_rfl) (by kernel_rfl)
 replace hG:=hF.gx
 clear hF
 have z14:=hS.fr.size
 refine wp_symQ hS hG hK (fun p15=>[.v 76 (.pointer (some ⟨(p1 0).N,0,none⟩)),.l 77 (.bool g) 0 0,.v 78 (.string t),.v 79 (.int .i64 pl),.c (some 80) (cV (.tuple #[.agg #[.bool g2,.string s2,.int .i64 x2],.int .i64 e2])),.v 81 (.agg #[.bool g2,.string s2,.int .i64 x2]),.v 82 (.int .i64 e2),.p 1 0 [.bool g2,.string s2,.int .i64 x2],.v 7 (.int .i64 e2)]) (fun p15=>[(6,.pointer (some ⟨(p1 1).N,0,none⟩)),(7,.int .i64 e2),(13,.pointer (some ⟨(p12 2).N,0,none⟩)),(27,.bool true),(42,.bool true),(44,.bool true),(64,.bool false)]) (by kernel_rfl) (fun _ _=>by kernel_rfl) (fun _=>by kernel_rfl) (fun _=>by kernel_rfl) (fun p15=>?_) (fun p15 W15 T hF hK=>?_)
 ·refine ok_v (by kernel_rfl) ?_
  refine ok_L (by kernel_rfl) (by kernel_rfl) (by kernel_rfl) ?_
  iterate 2 refine ok_v (by kernel_rfl) ?_
  refine ok_c (fun W cx=>as_v (unhide HM _)) (by kernel_rfl) ?_
  iterate 2 refine ok_v (by kernel_rfl) ?_
  refine ok_P (by kernel_rfl) (by kernel_rfl) (by kernel_rfl) ?_
  refine ok_v (by kernel_rfl) ?_
  exact ok_nil
 replace hS:=SymF.fb hS hF [1,2] [⟨(p1 1).N,#[.bool g2,.string s2,.int .i64 x2],23,true⟩,⟨(p12 2).N,#[.slice (p12 1).A (p12 1).N (p12 1).C],60,true⟩] (by kernel_rfl) (by kernel_rfl)
 replace hG:=hF.gx
 clear hF
 have z15:=hS.fr.size
 refine wp_ret ?_
 exact sym_end hS hK (.tuple #[.agg #[.bool g2,.string s2,.int .i64 x2],.int .i64 e2]) [(0,0,3)] [.bool g2,.string s2,.int .i64 x2] (by kernel_rfl) (by kernel_rfl) ⟨rfl,hS.fr⟩
theorem rcut_B_lt_u (w:World) (g:Bool) (s:ByteArray) (x pl c:Int) (md M N1:Nat) (t:ByteArray) (g2:Bool) (s2:ByteArray) (x2 e2:Int) (a:Nat) (hm:s.size≤65536) (_hx0:-1073741824≤x) (_hx1:x≤1073741824) (hc:pl - x = c) (hc0:0 < c) (hc1:c≤2147483648) (hk:c = (s.size:Int)) (ht:0 < s.size) (ha:∀ h:0 < s.size,(s[0]'h).toNat = a) (ha5:a < 53) (H1:Hid (∀ W:World,Calls Try.prog 51 #[.string ⟨#[]⟩] W fun en W'=>(∃ a n c,en = .returned (.agg #[.slice a n c])∧Mine W' W.heap.size a n c M)∧Below W.heap.size W W')) (H2:Hid (∀ W:World,Calls Try.prog 96 #[.bool g,.bool false,.int .i64 (-1),.int .u8 (md:Int)] W fun e W'=>e = .returned (.bool true)∧Below W.heap.size W W')) (HA:Hid (∀ (W:World) (a:Option Addr) (n c:Nat) (a':Option Addr) (n' c':Nat),Num W a n M→Num W a' n' 1→Calls Try.prog 54 #[.agg #[.slice a n c],.agg #[.slice a' n' c']] W fun en W'=>(∃ a n c,en = .returned (.tuple #[.agg #[.slice a n c],.int .i64 0])∧Mine W' W.heap.size a n c N1)∧Below W.heap.size W W')) (HT:Hid (∀ (W:World) (a:Option Addr) (n c:Nat),Num W a n N1→Calls Try.prog 56 #[.agg #[.slice a n c]] W fun en W'=>en = .returned (.tuple #[.string t,.int .i64 0])∧Below W.heap.size W W')) (HM:Hid (∀ W:World,Calls Try.prog 17 #[.bool g,.string t,.int .i64 pl] W fun e W'=>e = .returned (.tuple #[.agg #[.bool g2,.string s2,.int .i64 x2],.int .i64 e2])∧Below W.heap.size W W')) :
  Calls Try.prog 61 #[.agg #[.bool g,.string s,.int .i64 x],.int .i64 pl,.int .u8 (md:Int)] w fun en w'=>en = .returned (.tuple #[.agg #[.bool g2,.string s2,.int .i64 x2],.int .i64 e2])∧Below w.heap.size w w':=by
 have hix:script Try.prog 0 (Instr.index 9 (.string s) (.int .i64 0)) [] = some (.int .u8 (a:Int),[]):=script_index (j:=0) Try.under_str rfl ht (ha _)
 refine calls_sym Try.func61 rfl (by kernel_rfl) fun T hK=>?_
 replace hK:Kn T _ [(0,.agg #[.bool g,.string s,.int .i64 x]),(1,.int .i64 pl),(2,.int .u8 (md:Int))]:=hK
 have hS:=Fb.begin w
 have hG:GsAt [] w:=trivial
 refine wp_symQ hS hG hK (fun p1=>[.n 3 #[.bool g,.string s,.int .i64 x] 23,.n 6 #[.bool false,.string ⟨#[]⟩,.int .i64 0] 23,.v 7 (.int .i64 0)]) (fun p1=>[(1,.int .i64 pl),(2,.int .u8 (md:Int)),(3,.pointer (some ⟨(p1 0).N,0,none⟩)),(6,.pointer (some ⟨(p1 1).N,0,none⟩)),(7,.int .i64 0)]) (by kernel_rfl) (fun _ _=>by kernel_rfl) (fun _=>by kernel_rfl) (fun _=>by kernel_rfl) (fun p1=>?_) (fun p1 W1 T hF hK=>?_)
 ·iterate 2 refine ok_n (fun _=>by kernel_rfl) ?_
  refine ok_v (by kernel_rfl) ?_
  exact ok_nil
 replace hS:=SymF.fb hS hF [1000,1001] [⟨(p1 0).N,#[.bool g,.string s,.int .i64 x],23,true⟩,⟨(p1 1).N,#[.bool false,.string ⟨#[]⟩,.int .i64 0],23,true⟩] (by kernel_rfl) (by kernel_rfl)
 replace hG:=hF.gx
 clear hF
 have z1:=hS.fr.size
 refine wp_symQ hS hG hK (fun p2=>[.v 16 (.pointer (some ⟨(p1 0).N,1,none⟩)),.l 17 (.string s) 0 1,.v 18 (.int .i64 (s.size:Int)),.v 19 (.int .i64 pl),.v 20 (.pointer (some ⟨(p1 0).N,2,none⟩)),.l 21 (.int .i64 x) 0 2,.v 22 (.int .i64 c),.v 23 (.int .i64 0),.v 8 (.int .i64 0)]) (fun p2=>[(1,.int .i64 pl),(2,.int .u8 (md:Int)),(3,.pointer (some ⟨(p1 0).N,0,none⟩)),(6,.pointer (some ⟨(p1 1).N,0,none⟩)),(7,.int .i64 0),(8,.int .i64 0)]) (by kernel_rfl) (fun _ _=>by kernel_rfl) (fun _=>by kernel_rfl) (fun _=>by kernel_rfl) (fun p2=>?_) (fun p2 W2 T hF hK=>?_)
 ·refine ok_v (by kernel_rfl) ?_
  refine ok_L (by kernel_rfl) (by kernel_rfl) (by kernel_rfl) ?_
  iterate 3 refine ok_v (by kernel_rfl) ?_
  refine ok_L (by kernel_rfl) (by kernel_rfl) (by kernel_rfl) ?_
  refine ok_vi ((wr64 (x:=pl - x) (by omega) (by omega)).trans hc) (by kernel_rfl) ?_
  refine ok_vi ((wr64 (x:=(s.size:Int) - c) (by omega) (by omega)).trans (by omega)) (by kernel_rfl) ?_
  refine ok_v (by kernel_rfl) ?_
  exact ok_nil
 replace hS:=SymF.fb hS hF [0,1] [⟨(p1 0).N,#[.bool g,.string s,.int .i64 x],23,true⟩,⟨(p1 1).N,#[.bool false,.string ⟨#[]⟩,.int .i64 0],23,true⟩] (by kernel_rfl) (by kernel_rfl)
 replace hG:=hF.gx
 clear hF
 have z2:=hS.fr.size
 refine wp_symQ hS hG hK (fun p3=>[.v 24 (.pointer (some ⟨(p1 0).N,1,none⟩)),.l 25 (.string s) 0 1,.v 9 (.string { data:=#[] }),.v 10 (.string s)]) (fun p3=>[(1,.int .i64 pl),(2,.int .u8 (md:Int)),(3,.pointer (some ⟨(p1 0).N,0,none⟩)),(6,.pointer (some ⟨(p1 1).N,0,none⟩)),(7,.int .i64 0),(8,.int .i64 0),(9,.string { data:=#[] }),(10,.string s)]) (by kernel_rfl) (fun _ _=>by kernel_rfl) (fun _=>by kernel_rfl) (fun _=>by kernel_rfl) (fun p3=>?_) (fun p3 W3 T hF hK=>?_)
 ·refine ok_v (by kernel_rfl) ?_
  refine ok_L (by kernel_rfl) (by kernel_rfl) (by kernel_rfl) ?_
  iterate 2 refine ok_v (by kernel_rfl) ?_
  exact ok_nil
 replace hS:=SymF.fb hS hF [0,1] [⟨(p1 0).N,#[.bool g,.string s,.int .i64 x],23,true⟩,⟨(p1 1).N,#[.bool false,.string ⟨#[]⟩,.int .i64 0],23,true⟩] (by kernel_rfl) (by kernel_rfl)
 replace hG:=hF.gx
 clear hF
 have z3:=hS.fr.size
 refine wp_seq ?_
 refine wp_symQ hS hG hK (fun p4=>[.v 26 (.int .i64 0),.v 27 (.bool false)]) (fun p4=>[(1,.int .i64 pl),(2,.int .u8 (md:Int)),(3,.pointer (some ⟨(p1 0).N,0,none⟩)),(6,.pointer (some ⟨(p1 1).N,0,none⟩)),(7,.int .i64 0),(8,.int .i64 0),(9,.string { data:=#[] }),(10,.string s),(27,.bool false)]) (by kernel_rfl) (fun _ _=>by kernel_rfl) (fun _=>by kernel_rfl) (fun _=>by kernel_rfl) (fun p4=>?_) (fun p4 W4 T hF hK=>?_)
 ·refine ok_v (by kernel_rfl) ?_
  refine ok_vb (decide_eq_false (show ¬ 0 > 0 by omega)) (by kernel_rfl) ?_
  exact ok_nil
 replace hS:=SymF.fb hS hF [0,1] [⟨(p1 0).N,#[.bool g,.string s,.int .i64 x],23,true⟩,⟨(p1 1).N,#[.bool false,.string ⟨#[]⟩,.int .i64 0],23,true⟩] (by kernel_rfl) (by kernel_rfl)
 replace hG:=hF.gx
 clear hF
 have z4:=hS.fr.size
 refine wp_cond_false (hK.ev 27 (by kernel_rfl) _ (by kernel_rfl)) ?_
 refine wp_skip ?_
 refine then_n ?_
 refine wp_symQ hS hG hK (fun p5=>[.v 11 (.int .i64 (-1))]) (fun p5=>[(1,.int .i64 pl),(2,.int .u8 (md:Int)),(3,.pointer (some ⟨(p1 0).N,0,none⟩)),(6,.pointer (some ⟨(p1 1).N,0,none⟩)),(7,.int .i64 0),(8,.int .i64 0),(9,.string { data:=#[] }),(10,.string s),(11,.int .i64 (-1)),(27,.bool false)]) (by kernel_rfl) (fun _ _=>by kernel_rfl) (fun _=>by kernel_rfl) (fun _=>by kernel_rfl) (fun p5=>?_) (fun p5 W5 T hF hK=>?_)
 ·refine ok_v (by kernel_rfl) ?_
  exact ok_nil
 replace hS:=SymF.fb hS hF [0,1] [⟨(p1 0).N,#[.bool g,.string s,.int .i64 x],23,true⟩,⟨(p1 1).N,#[.bool false,.string ⟨#[]⟩,.int .i64 0],23,true⟩] (by kernel_rfl) (by kernel_rfl)
 replace hG:=hF.gx
 clear hF
 have z5:=hS.fr.size
 refine wp_seq ?_
 refine wp_symQ hS hG hK (fun p6=>[.v 36 (.int .i64 0),.v 37 (.bool true),.v 38 (.bool true),.v 39 (.string s),.v 40 (.int .u8 (a:Int)),.v 41 (.bool false),.v 42 (.bool false)]) (fun p6=>[(1,.int .i64 pl),(2,.int .u8 (md:Int)),(3,.pointer (some ⟨(p1 0).N,0,none⟩)),(6,.pointer (some ⟨(p1 1).N,0,none⟩)),(7,.int .i64 0),(8,.int .i64 0),(9,.string { data:=#[] }),(10,.string s),(11,.int .i64 (-1)),(27,.bool false),(42,.bool false)]) (by kernel_rfl) (fun _ _=>by kernel_rfl) (fun _=>by kernel_rfl) (fun _=>by kernel_rfl) (fun p6=>?_) (fun p6 W6 T hF hK=>?_)
 ·refine ok_v (by kernel_rfl) ?_
  refine ok_vb (decide_eq_true (show 0 ≥ 0 by omega)) (by kernel_rfl) ?_
  iterate 2 refine ok_v (by kernel_rfl) ?_
  refine ok_vr (hix) (by kernel_rfl) ?_
  refine ok_vb (decide_eq_false (show ¬ (a:Int) ≥ 53 by omega)) (by kernel_rfl) ?_
  refine ok_v (by kernel_rfl) ?_
  exact ok_nil
 replace hS:=SymF.fb hS hF [0,1] [⟨(p1 0).N,#[.bool g,.string s,.int .i64 x],23,true⟩,⟨(p1 1).N,#[.bool false,.string ⟨#[]⟩,.int .i64 0],23,true⟩] (by kernel_rfl) (by kernel_rfl)
 replace hG:=hF.gx
 clear hF
 have z6:=hS.fr.size
 refine wp_cond_false (hK.ev 42 (by kernel_rfl) _ (by kernel_rfl)) ?_
 refine wp_skip ?_
 refine then_n ?_
 refine wp_symQ hS hG hK (fun p7=>[.v 45 (.string { data:=#[] }),.v 46 (.int .i64 0),.v 47 (.bool false),.v 48 (.bool false),.k (some 49),.k (some 50),.k (some 51),.k (some 52),.k (some 53),.k (some 54),.k (some 55),.v 56 (.bool false),.v 12 (.bool false)]) (fun p7=>[(1,.int .i64 pl),(2,.int .u8 (md:Int)),(3,.pointer (some ⟨(p1 0).N,0,none⟩)),(6,.pointer (some ⟨(p1 1).N,0,none⟩)),(7,.int .i64 0),(8,.int .i64 0),(9,.string { data:=#[] }),(10,.string s),(11,.int .i64 (-1)),(12,.bool false),(27,.bool false),(42,.bool false)]) (by kernel_rfl) (fun _ _=>by kernel_rfl) (fun _=>by kernel_rfl) (fun _=>by kernel_rfl) (fun p7=>?_) (fun p7 W7 T hF hK=>?_)
 ·iterate 4 refine ok_v (by kernel_rfl) ?_
  iterate 7 refine ok_K (by kernel_rfl) ?_
  iterate 2 refine ok_v (by kernel_rfl) ?_
  exact ok_nil
 replace hS:=SymF.fb hS hF [0,1] [⟨(p1 0).N,#[.bool g,.string s,.int .i64 x],23,true⟩,⟨(p1 1).N,#[.bool false,.string ⟨#[]⟩,.int .i64 0],23,true⟩] (by kernel_rfl) (by kernel_rfl)
 replace hG:=hF.gx
 clear hF
 have z7:=hS.fr.size
 refine wp_symQ hS hG hK (fun p8=>[.v 57 (.string { data:=#[] }),.c (some 58) (cN W7.heap.size M),.n 13 #[.slice none 0 0] 60,.p 1002 0 [.slice (p8 1).A (p8 1).N (p8 1).C]]) (fun p8=>[(1,.int .i64 pl),(2,.int .u8 (md:Int)),(3,.pointer (some ⟨(p1 0).N,0,none⟩)),(6,.pointer (some ⟨(p1 1).N,0,none⟩)),(7,.int .i64 0),(8,.int .i64 0),(10,.string s),(11,.int .i64 (-1)),(12,.bool false),(13,.pointer (some ⟨(p8 2).N,0,none⟩)),(27,.bool false),(42,.bool false)]) (by kernel_rfl) (fun _ _=>by kernel_rfl) (fun _=>by kernel_rfl) (fun _=>by kernel_rfl) (fun p8=>?_) (fun p8 W8 T hF hK=>?_)
 ·refine ok_v (by kernel_rfl) ?_
  refine ok_c (fun W cx=>as_n cx.hb (unhide H1 _)) (by kernel_rfl) ?_
  refine ok_n (fun _=>by kernel_rfl) ?_
  refine ok_P (by kernel_rfl) (by kernel_rfl) (by kernel_rfl) ?_
  exact ok_nil
 replace hS:=SymF.fb hS hF [0,1,1002] [⟨(p1 0).N,#[.bool g,.string s,.int .i64 x],23,true⟩,⟨(p1 1).N,#[.bool false,.string ⟨#[]⟩,.int .i64 0],23,true⟩,⟨(p8 2).N,#[.slice (p8 1).A (p8 1).N (p8 1).C],60,true⟩] (by kernel_rfl) (by kernel_rfl)
 replace hG:GsAt (gM W7.heap.size (p8 1).A (p8 1).N (p8 1).C M :: _) W8:=⟨hF.fx 1,hF.gx⟩
 clear hF
 have z8:=hS.fr.size
 refine wp_seq ?_
 refine wp_symQ hS hG hK (fun p9=>[.v 59 (.pointer (some ⟨(p1 0).N,0,none⟩)),.l 60 (.bool g) 0 0,.v 61 (.bool false),.v 62 (.int .i64 (-1)),.v 63 (.int .u8 (md:Int)),.c (some 64) (cV (.bool true))]) (fun p9=>[(1,.int .i64 pl),(3,.pointer (some ⟨(p1 0).N,0,none⟩)),(6,.pointer (some ⟨(p1 1).N,0,none⟩)),(7,.int .i64 0),(8,.int .i64 0),(10,.string s),(13,.pointer (some ⟨(p8 2).N,0,none⟩)),(27,.bool false),(42,.bool false),(64,.bool true)]) (by kernel_rfl) (fun _ _=>by kernel_rfl) (fun _=>by kernel_rfl) (fun _=>by kernel_rfl) (fun p9=>?_) (fun p9 W9 T hF hK=>?_)
 ·refine ok_v (by kernel_rfl) ?_
  refine ok_L (by kernel_rfl) (by kernel_rfl) (by kernel_rfl) ?_
  iterate 3 refine ok_v (by kernel_rfl) ?_
  refine ok_c (fun W cx=>as_v (unhide H2 _)) (by kernel_rfl) ?_
  exact ok_nil
 replace hS:=SymF.fb hS hF [0,1,2] [⟨(p1 0).N,#[.bool g,.string s,.int .i64 x],23,true⟩,⟨(p1 1).N,#[.bool false,.string ⟨#[]⟩,.int .i64 0],23,true⟩,⟨(p8 2).N,#[.slice (p8 1).A (p8 1).N (p8 1).C],60,true⟩] (by kernel_rfl) (by kernel_rfl)
 replace hG:=hF.gx
 clear hF
 have z9:=hS.fr.size
 refine wp_cond_true (hK.ev 64 (by kernel_rfl) _ (by kernel_rfl)) ?_
 refine wp_symG hS hG hK (fun p10=>[.l 66 (.agg #[.slice (p8 1).A (p8 1).N (p8 1).C]) 2 0,.c (some 67) (cN W9.heap.size 1),.c (some 68) (cO W9.heap.size N1),.v 65 (.tuple #[.agg #[.slice (p10 2).A (p10 2).N (p10 2).C],.int .i64 0]),.v 69 (.agg #[.slice (p10 2).A (p10 2).N (p10 2).C]),.v 70 (.int .i64 0),.p 2 0 [.slice (p10 2).A (p10 2).N (p10 2).C]]) (fun p10=>[(1,.int .i64 pl),(3,.pointer (some ⟨(p1 0).N,0,none⟩)),(6,.pointer (some ⟨(p1 1).N,0,none⟩)),(7,.int .i64 0),(8,.int .i64 0),(10,.string s),(13,.pointer (some ⟨(p8 2).N,0,none⟩)),(27,.bool false),(42,.bool false),(64,.bool true)]) (by kernel_rfl) (fun _ _=>by kernel_rfl) (fun _=>by kernel_rfl) (fun _=>by kernel_rfl) (fun p10=>?_) (fun p10 W10 T hF hK=>?_)
 ·refine ok_L (by kernel_rfl) (by kernel_rfl) (by kernel_rfl) ?_
  refine ok_c (fun W cx=>as_n cx.hb (rof_any 1 _ (by decide))) (by kernel_rfl) ?_
  refine ok_c (fun W cx=>as_o cx.hb (unhide HA _ _ _ (p8 1).C _ _ (p10 1).C (Mine.num cx.G.1) (Mine.num (cx.F 1 (by kernel_rfl))))) (by kernel_rfl) ?_
  iterate 3 refine ok_v (by kernel_rfl) ?_
  refine ok_P (by kernel_rfl) (by kernel_rfl) (by kernel_rfl) ?_
  exact ok_nil
 replace hS:=SymF.fb hS hF [0,1,2] [⟨(p1 0).N,#[.bool g,.string s,.int .i64 x],23,true⟩,⟨(p1 1).N,#[.bool false,.string ⟨#[]⟩,.int .i64 0],23,true⟩,⟨(p8 2).N,#[.slice (p10 2).A (p10 2).N (p10 2).C],60,true⟩] (by kernel_rfl) (by kernel_rfl)
 replace hG:GsAt (gM W9.heap.size (p10 1).A (p10 1).N (p10 1).C 1 :: gM W9.heap.size (p10 2).A (p10 2).N (p10 2).C N1 :: _) W10:=⟨hF.fx 1,hF.fx 2,hF.gx⟩
 clear hF
 have z10:=hS.fr.size
 refine then_n ?_
 refine wp_symQ hS hG hK (fun p11=>[.l 72 (.agg #[.slice (p10 2).A (p10 2).N (p10 2).C]) 2 0,.c (some 73) (cV (.tuple #[.string t,.int .i64 0])),.v 71 (.tuple #[.string t,.int .i64 0]),.v 74 (.string t),.v 75 (.int .i64 0),.v 14 (.string t),.v 15 (.int .i64 0)]) (fun p11=>[(1,.int .i64 pl),(3,.pointer (some ⟨(p1 0).N,0,none⟩)),(6,.pointer (some ⟨(p1 1).N,0,none⟩)),(7,.int .i64 0),(8,.int .i64 0),(10,.string s),(14,.string t),(27,.bool false),(42,.bool false),(64,.bool true)]) (by kernel_rfl) (fun _ _=>by kernel_rfl) (fun _=>by kernel_rfl) (fun _=>by kernel_rfl) (fun p11=>?_) (fun p11 W11 T hF hK=>?_)
 ·refine ok_L (by kernel_rfl) (by kernel_rfl) (by kernel_rfl) ?_
  refine ok_c (fun W cx=>as_v (unhide HT _ _ _ (p10 2).C (Mine.num cx.G.2.1))) (by kernel_rfl) ?_
  iterate 5 refine ok_v (by kernel_rfl) ?_
  exact ok_nil
 replace hS:=SymF.fb hS hF [0,1] [⟨(p1 0).N,#[.bool g,.string s,.int .i64 x],23,true⟩,⟨(p1 1).N,#[.bool false,.string ⟨#[]⟩,.int .i64 0],23,true⟩] (by kernel_rfl) (by kernel_rfl)
 replace hG:=hF.gx
 clear hF
 have z11:=hS.fr.size
 refine wp_symQ hS hG hK (fun p12=>[.v 76 (.pointer (some ⟨(p1 0).N,0,none⟩)),.l 77 (.bool g) 0 0,.v 78 (.string t),.v 79 (.int .i64 pl),.c (some 80) (cV (.tuple #[.agg #[.bool g2,.string s2,.int .i64 x2],.int .i64 e2])),.v 81 (.agg #[.bool g2,.string s2,.int .i64 x2]),.v 82 (.int .i64 e2),.p 1 0 [.bool g2,.string s2,.int .i64 x2],.v 7 (.int .i64 e2)]) (fun p12=>[(3,.pointer (some ⟨(p1 0).N,0,none⟩)),(6,.pointer (some ⟨(p1 1).N,0,none⟩)),(7,.int .i64 e2),(8,.int .i64 0),(10,.string s),(27,.bool false),(42,.bool false),(64,.bool true)]) (by kernel_rfl) (fun _ _=>by kernel_rfl) (fun _=>by kernel_rfl) (fun _=>by kernel_rfl) (fun p12=>?_) (fun p12 W12 T hF hK=>?_)
 ·refine ok_v (by kernel_rfl) ?_
  refine ok_L (by kernel_rfl) (by kernel_rfl) (by kernel_rfl) ?_
  iterate 2 refine ok_v (by kernel_rfl) ?_
  refine ok_c (fun W cx=>as_v (unhide HM _)) (by kernel_rfl) ?_
  iterate 2 refine ok_v (by kernel_rfl) ?_
  refine ok_P (by kernel_rfl) (by kernel_rfl) (by kernel_rfl) ?_
  refine ok_v (by kernel_rfl) ?_
  exact ok_nil
 replace hS:=SymF.fb hS hF [0,1] [⟨(p1 0).N,#[.bool g,.string s,.int .i64 x],23,true⟩,⟨(p1 1).N,#[.bool g2,.string s2,.int .i64 x2],23,true⟩] (by kernel_rfl) (by kernel_rfl)
 replace hG:=hF.gx
 clear hF
 have z12:=hS.fr.size
 refine wp_ret ?_
 exact sym_end hS hK (.tuple #[.agg #[.bool g2,.string s2,.int .i64 x2],.int .i64 e2]) [(1,0,3)] [.bool g2,.string s2,.int .i64 x2] (by kernel_rfl) (by kernel_rfl) ⟨rfl,hS.fr⟩
theorem rcut_B_lt_n (w:World) (g:Bool) (s:ByteArray) (x pl c:Int) (md M:Nat) (t:ByteArray) (g2:Bool) (s2:ByteArray) (x2 e2:Int) (a:Nat) (hm:s.size≤65536) (_hx0:-1073741824≤x) (_hx1:x≤1073741824) (hc:pl - x = c) (hc0:0 < c) (hc1:c≤2147483648) (hk:c = (s.size:Int)) (ht:0 < s.size) (ha:∀ h:0 < s.size,(s[0]'h).toNat = a) (ha5:a < 53) (H1:Hid (∀ W:World,Calls Try.prog 51 #[.string ⟨#[]⟩] W fun en W'=>(∃ a n c,en = .returned (.agg #[.slice a n c])∧Mine W' W.heap.size a n c M)∧Below W.heap.size W W')) (H2:Hid (∀ W:World,Calls Try.prog 96 #[.bool g,.bool false,.int .i64 (-1),.int .u8 (md:Int)] W fun e W'=>e = .returned (.bool false)∧Below W.heap.size W W')) (HT:Hid (∀ (W:World) (a:Option Addr) (n c:Nat),Num W a n M→Calls Try.prog 56 #[.agg #[.slice a n c]] W fun en W'=>en = .returned (.tuple #[.string t,.int .i64 0])∧Below W.heap.size W W')) (HM:Hid (∀ W:World,Calls Try.prog 17 #[.bool g,.string t,.int .i64 pl] W fun e W'=>e = .returned (.tuple #[.agg #[.bool g2,.string s2,.int .i64 x2],.int .i64 e2])∧Below W.heap.size W W')) :
  Calls Try.prog 61 #[.agg #[.bool g,.string s,.int .i64 x],.int .i64 pl,.int .u8 (md:Int)] w fun en w'=>en = .returned (.tuple #[.agg #[.bool g2,.string s2,.int .i64 x2],.int .i64 e2])∧Below w.heap.size w w':=by
 have hix:script Try.prog 0 (Instr.index 9 (.string s) (.int .i64 0)) [] = some (.int .u8 (a:Int),[]):=script_index (j:=0) Try.under_str rfl ht (ha _)
 refine calls_sym Try.func61 rfl (by kernel_rfl) fun T hK=>?_
 replace hK:Kn T _ [(0,.agg #[.bool g,.string s,.int .i64 x]),(1,.int .i64 pl),(2,.int .u8 (md:Int))]:=hK
 have hS:=Fb.begin w
 have hG:GsAt [] w:=trivial
 refine wp_symQ hS hG hK (fun p1=>[.n 3 #[.bool g,.string s,.int .i64 x] 23,.n 6 #[.bool false,.string ⟨#[]⟩,.int .i64 0] 23,.v 7 (.int .i64 0)]) (fun p1=>[(1,.int .i64 pl),(2,.int .u8 (md:Int)),(3,.pointer (some ⟨(p1 0).N,0,none⟩)),(6,.pointer (some ⟨(p1 1).N,0,none⟩)),(7,.int .i64 0)]) (by kernel_rfl) (fun _ _=>by kernel_rfl) (fun _=>by kernel_rfl) (fun _=>by kernel_rfl) (fun p1=>?_) (fun p1 W1 T hF hK=>?_)
 ·iterate 2 refine ok_n (fun _=>by kernel_rfl) ?_
  refine ok_v (by kernel_rfl) ?_
  exact ok_nil
 replace hS:=SymF.fb hS hF [1000,1001] [⟨(p1 0).N,#[.bool g,.string s,.int .i64 x],23,true⟩,⟨(p1 1).N,#[.bool false,.string ⟨#[]⟩,.int .i64 0],23,true⟩] (by kernel_rfl) (by kernel_rfl)
 replace hG:=hF.gx
 clear hF
 have z1:=hS.fr.size
 refine wp_symQ hS hG hK (fun p2=>[.v 16 (.pointer (some ⟨(p1 0).N,1,none⟩)),.l 17 (.string s) 0 1,.v 18 (.int .i64 (s.size:Int)),.v 19 (.int .i64 pl),.v 20 (.pointer (some ⟨(p1 0).N,2,none⟩)),.l 21 (.int .i64 x) 0 2,.v 22 (.int .i64 c),.v 23 (.int .i64 0),.v 8 (.int .i64 0)]) (fun p2=>[(1,.int .i64 pl),(2,.int .u8 (md:Int)),(3,.pointer (some ⟨(p1 0).N,0,none⟩)),(6,.pointer (some ⟨(p1 1).N,0,none⟩)),(7,.int .i64 0),(8,.int .i64 0)]) (by kernel_rfl) (fun _ _=>by kernel_rfl) (fun _=>by kernel_rfl) (fun _=>by kernel_rfl) (fun p2=>?_) (fun p2 W2 T hF hK=>?_)
 ·refine ok_v (by kernel_rfl) ?_
  refine ok_L (by kernel_rfl) (by kernel_rfl) (by kernel_rfl) ?_
  iterate 3 refine ok_v (by kernel_rfl) ?_
  refine ok_L (by kernel_rfl) (by kernel_rfl) (by kernel_rfl) ?_
  refine ok_vi ((wr64 (x:=pl - x) (by omega) (by omega)).trans hc) (by kernel_rfl) ?_
  refine ok_vi ((wr64 (x:=(s.size:Int) - c) (by omega) (by omega)).trans (by omega)) (by kernel_rfl) ?_
  refine ok_v (by kernel_rfl) ?_
  exact ok_nil
 replace hS:=SymF.fb hS hF [0,1] [⟨(p1 0).N,#[.bool g,.string s,.int .i64 x],23,true⟩,⟨(p1 1).N,#[.bool false,.string ⟨#[]⟩,.int .i64 0],23,true⟩] (by kernel_rfl) (by kernel_rfl)
 replace hG:=hF.gx
 clear hF
 have z2:=hS.fr.size
 refine wp_symQ hS hG hK (fun p3=>[.v 24 (.pointer (some ⟨(p1 0).N,1,none⟩)),.l 25 (.string s) 0 1,.v 9 (.string { data:=#[] }),.v 10 (.string s)]) (fun p3=>[(1,.int .i64 pl),(2,.int .u8 (md:Int)),(3,.pointer (some ⟨(p1 0).N,0,none⟩)),(6,.pointer (some ⟨(p1 1).N,0,none⟩)),(7,.int .i64 0),(8,.int .i64 0),(9,.string { data:=#[] }),(10,.string s)]) (by kernel_rfl) (fun _ _=>by kernel_rfl) (fun _=>by kernel_rfl) (fun _=>by kernel_rfl) (fun p3=>?_) (fun p3 W3 T hF hK=>?_)
 ·refine ok_v (by kernel_rfl) ?_
  refine ok_L (by kernel_rfl) (by kernel_rfl) (by kernel_rfl) ?_
  iterate 2 refine ok_v (by kernel_rfl) ?_
  exact ok_nil
 replace hS:=SymF.fb hS hF [0,1] [⟨(p1 0).N,#[.bool g,.string s,.int .i64 x],23,true⟩,⟨(p1 1).N,#[.bool false,.string ⟨#[]⟩,.int .i64 0],23,true⟩] (by kernel_rfl) (by kernel_rfl)
 replace hG:=hF.gx
 clear hF
 have z3:=hS.fr.size
 refine wp_seq ?_
 refine wp_symQ hS hG hK (fun p4=>[.v 26 (.int .i64 0),.v 27 (.bool false)]) (fun p4=>[(1,.int .i64 pl),(2,.int .u8 (md:Int)),(3,.pointer (some ⟨(p1 0).N,0,none⟩)),(6,.pointer (some ⟨(p1 1).N,0,none⟩)),(7,.int .i64 0),(8,.int .i64 0),(9,.string { data:=#[] }),(10,.string s),(27,.bool false)]) (by kernel_rfl) (fun _ _=>by kernel_rfl) (fun _=>by kernel_rfl) (fun _=>by kernel_rfl) (fun p4=>?_) (fun p4 W4 T hF hK=>?_)
 ·refine ok_v (by kernel_rfl) ?_
  refine ok_vb (decide_eq_false (show ¬ 0 > 0 by omega)) (by kernel_rfl) ?_
  exact ok_nil
 replace hS:=SymF.fb hS hF [0,1] [⟨(p1 0).N,#[.bool g,.string s,.int .i64 x],23,true⟩,⟨(p1 1).N,#[.bool false,.string ⟨#[]⟩,.int .i64 0],23,true⟩] (by kernel_rfl) (by kernel_rfl)
 replace hG:=hF.gx
 clear hF
 have z4:=hS.fr.size
 refine wp_cond_false (hK.ev 27 (by kernel_rfl) _ (by kernel_rfl)) ?_
 refine wp_skip ?_
 refine then_n ?_
 refine wp_symQ hS hG hK (fun p5=>[.v 11 (.int .i64 (-1))]) (fun p5=>[(1,.int .i64 pl),(2,.int .u8 (md:Int)),(3,.pointer (some ⟨(p1 0).N,0,none⟩)),(6,.pointer (some ⟨(p1 1).N,0,none⟩)),(7,.int .i64 0),(8,.int .i64 0),(9,.string { data:=#[] }),(10,.string s),(11,.int .i64 (-1)),(27,.bool false)]) (by kernel_rfl) (fun _ _=>by kernel_rfl) (fun _=>by kernel_rfl) (fun _=>by kernel_rfl) (fun p5=>?_) (fun p5 W5 T hF hK=>?_)
 ·refine ok_v (by kernel_rfl) ?_
  exact ok_nil
 replace hS:=SymF.fb hS hF [0,1] [⟨(p1 0).N,#[.bool g,.string s,.int .i64 x],23,true⟩,⟨(p1 1).N,#[.bool false,.string ⟨#[]⟩,.int .i64 0],23,true⟩] (by kernel_rfl) (by kernel_rfl)
 replace hG:=hF.gx
 clear hF
 have z5:=hS.fr.size
 refine wp_seq ?_
 refine wp_symQ hS hG hK (fun p6=>[.v 36 (.int .i64 0),.v 37 (.bool true),.v 38 (.bool true),.v 39 (.string s),.v 40 (.int .u8 (a:Int)),.v 41 (.bool false),.v 42 (.bool false)]) (fun p6=>[(1,.int .i64 pl),(2,.int .u8 (md:Int)),(3,.pointer (some ⟨(p1 0).N,0,none⟩)),(6,.pointer (some ⟨(p1 1).N,0,none⟩)),(7,.int .i64 0),(8,.int .i64 0),(9,.string { data:=#[] }),(10,.string s),(11,.int .i64 (-1)),(27,.bool false),(42,.bool false)]) (by kernel_rfl) (fun _ _=>by kernel_rfl) (fun _=>by kernel_rfl) (fun _=>by kernel_rfl) (fun p6=>?_) (fun p6 W6 T hF hK=>?_)
 ·refine ok_v (by kernel_rfl) ?_
  refine ok_vb (decide_eq_true (show 0 ≥ 0 by omega)) (by kernel_rfl) ?_
  iterate 2 refine ok_v (by kernel_rfl) ?_
  refine ok_vr (hix) (by kernel_rfl) ?_
  refine ok_vb (decide_eq_false (show ¬ (a:Int) ≥ 53 by omega)) (by kernel_rfl) ?_
  refine ok_v (by kernel_rfl) ?_
  exact ok_nil
 replace hS:=SymF.fb hS hF [0,1] [⟨(p1 0).N,#[.bool g,.string s,.int .i64 x],23,true⟩,⟨(p1 1).N,#[.bool false,.string ⟨#[]⟩,.int .i64 0],23,true⟩] (by kernel_rfl) (by kernel_rfl)
 replace hG:=hF.gx
 clear hF
 have z6:=hS.fr.size
 refine wp_cond_false (hK.ev 42 (by kernel_rfl) _ (by kernel_rfl)) ?_
 refine wp_skip ?_
 refine then_n ?_
 refine wp_symQ hS hG hK (fun p7=>[.v 45 (.string { data:=#[] }),.v 46 (.int .i64 0),.v 47 (.bool false),.v 48 (.bool false),.k (some 49),.k (some 50),.k (some 51),.k (some 52),.k (some 53),.k (some 54),.k (some 55),.v 56 (.bool false),.v 12 (.bool false)]) (fun p7=>[(1,.int .i64 pl),(2,.int .u8 (md:Int)),(3,.pointer (some ⟨(p1 0).N,0,none⟩)),(6,.pointer (some ⟨(p1 1).N,0,none⟩)),(7,.int .i64 0),(8,.int .i64 0),(9,.string { data:=#[] }),(10,.string s),(11,.int .i64 (-1)),(12,.bool false),(27,.bool false),(42,.bool false)]) (by kernel_rfl) (fun _ _=>by kernel_rfl) (fun _=>by kernel_rfl) (fun _=>by kernel_rfl) (fun p7=>?_) (fun p7 W7 T hF hK=>?_)
 ·iterate 4 refine ok_v (by kernel_rfl) ?_
  iterate 7 refine ok_K (by kernel_rfl) ?_
  iterate 2 refine ok_v (by kernel_rfl) ?_
  exact ok_nil
 replace hS:=SymF.fb hS hF [0,1] [⟨(p1 0).N,#[.bool g,.string s,.int .i64 x],23,true⟩,⟨(p1 1).N,#[.bool false,.string ⟨#[]⟩,.int .i64 0],23,true⟩] (by kernel_rfl) (by kernel_rfl)
 replace hG:=hF.gx
 clear hF
 have z7:=hS.fr.size
 refine wp_symQ hS hG hK (fun p8=>[.v 57 (.string { data:=#[] }),.c (some 58) (cN W7.heap.size M),.n 13 #[.slice none 0 0] 60,.p 1002 0 [.slice (p8 1).A (p8 1).N (p8 1).C]]) (fun p8=>[(1,.int .i64 pl),(2,.int .u8 (md:Int)),(3,.pointer (some ⟨(p1 0).N,0,none⟩)),(6,.pointer (some ⟨(p1 1).N,0,none⟩)),(7,.int .i64 0),(8,.int .i64 0),(10,.string s),(11,.int .i64 (-1)),(12,.bool false),(13,.pointer (some ⟨(p8 2).N,0,none⟩)),(27,.bool false),(42,.bool false)]) (by kernel_rfl) (fun _ _=>by kernel_rfl) (fun _=>by kernel_rfl) (fun _=>by kernel_rfl) (fun p8=>?_) (fun p8 W8 T hF hK=>?_)
 ·refine ok_v (by kernel_rfl) ?_
  refine ok_c (fun W cx=>as_n cx.hb (unhide H1 _)) (by kernel_rfl) ?_
  refine ok_n (fun _=>by kernel_rfl) ?_
  refine ok_P (by kernel_rfl) (by kernel_rfl) (by kernel_rfl) ?_
  exact ok_nil
 replace hS:=SymF.fb hS hF [0,1,1002] [⟨(p1 0).N,#[.bool g,.string s,.int .i64 x],23,true⟩,⟨(p1 1).N,#[.bool false,.string ⟨#[]⟩,.int .i64 0],23,true⟩,⟨(p8 2).N,#[.slice (p8 1).A (p8 1).N (p8 1).C],60,true⟩] (by kernel_rfl) (by kernel_rfl)
 replace hG:GsAt (gM W7.heap.size (p8 1).A (p8 1).N (p8 1).C M :: _) W8:=⟨hF.fx 1,hF.gx⟩
 clear hF
 have z8:=hS.fr.size
 refine wp_seq ?_
 refine wp_symQ hS hG hK (fun p9=>[.v 59 (.pointer (some ⟨(p1 0).N,0,none⟩)),.l 60 (.bool g) 0 0,.v 61 (.bool false),.v 62 (.int .i64 (-1)),.v 63 (.int .u8 (md:Int)),.c (some 64) (cV (.bool false))]) (fun p9=>[(1,.int .i64 pl),(3,.pointer (some ⟨(p1 0).N,0,none⟩)),(6,.pointer (some ⟨(p1 1).N,0,none⟩)),(7,.int .i64 0),(8,.int .i64 0),(10,.string s),(13,.pointer (some ⟨(p8 2).N,0,none⟩)),(27,.bool false),(42,.bool false),(64,.bool false)]) (by kernel_rfl) (fun _ _=>by kernel_rfl) (fun _=>by kernel_rfl) (fun _=>by kernel_rfl) (fun p9=>?_) (fun p9 W9 T hF hK=>?_)
 ·refine ok_v (by kernel_rfl) ?_
  refine ok_L (by kernel_rfl) (by kernel_rfl) (by kernel_rfl) ?_
  iterate 3 refine ok_v (by kernel_rfl) ?_
  refine ok_c (fun W cx=>as_v (unhide H2 _)) (by kernel_rfl) ?_
  exact ok_nil
 replace hS:=SymF.fb hS hF [0,1,2] [⟨(p1 0).N,#[.bool g,.string s,.int .i64 x],23,true⟩,⟨(p1 1).N,#[.bool false,.string ⟨#[]⟩,.int .i64 0],23,true⟩,⟨(p8 2).N,#[.slice (p8 1).A (p8 1).N (p8 1).C],60,true⟩] (by kernel_rfl) (by kernel_rfl)
 replace hG:=hF.gx
 clear hF
 have z9:=hS.fr.size
 refine wp_cond_false (hK.ev 64 (by kernel_rfl) _ (by kernel_rfl)) ?_
 refine wp_skip ?_
 refine then_n ?_
 refine wp_symQ hS hG hK (fun p10=>[.l 72 (.agg #[.slice (p8 1).A (p8 1).N (p8 1).C]) 2 0,.c (some 73) (cV (.tuple #[.string t,.int .i64 0])),.v 71 (.tuple #[.string t,.int .i64 0]),.v 74 (.string t),.v 75 (.int .i64 0),.v 14 (.string t),.v 15 (.int .i64 0)]) (fun p10=>[(1,.int .i64 pl),(3,.pointer (some ⟨(p1 0).N,0,none⟩)),(6,.pointer (some ⟨(p1 1).N,0,none⟩)),(7,.int .i64 0),(8,.int .i64 0),(10,.string s),(13,.pointer (some ⟨(p8 2).N,0,none⟩)),(14,.string t),(27,.bool false),(42,.bool false),(64,.bool false)]) (by kernel_rfl) (fun _ _=>by kernel_rfl) (fun _=>by kernel_rfl) (fun _=>by kernel_rfl) (fun p10=>?_) (fun p10 W10 T hF hK=>?_)
 ·refine ok_L (by kernel_rfl) (by kernel_rfl) (by kernel_rfl) ?_
  refine ok_c (fun W cx=>as_v (unhide HT _ _ _ (p8 1).C (Mine.num cx.G.1))) (by kernel_rfl) ?_
  iterate 5 refine ok_v (by kernel_rfl) ?_
  exact ok_nil
 replace hS:=SymF.fb hS hF [0,1,2] [⟨(p1 0).N,#[.bool g,.string s,.int .i64 x],23,true⟩,⟨(p1 1).N,#[.bool false,.string ⟨#[]⟩,.int .i64 0],23,true⟩,⟨(p8 2).N,#[.slice (p8 1).A (p8 1).N (p8 1).C],60,true⟩] (by kernel_rfl) (by kernel_rfl)
 replace hG:=hF.gx
 clear hF
 have z10:=hS.fr.size
 refine wp_symQ hS hG hK (fun p11=>[.v 76 (.pointer (some ⟨(p1 0).N,0,none⟩)),.l 77 (.bool g) 0 0,.v 78 (.string t),.v 79 (.int .i64 pl),.c (some 80) (cV (.tuple #[.agg #[.bool g2,.string s2,.int .i64 x2],.int .i64 e2])),.v 81 (.agg #[.bool g2,.string s2,.int .i64 x2]),.v 82 (.int .i64 e2),.p 1 0 [.bool g2,.string s2,.int .i64 x2],.v 7 (.int .i64 e2)]) (fun p11=>[(3,.pointer (some ⟨(p1 0).N,0,none⟩)),(6,.pointer (some ⟨(p1 1).N,0,none⟩)),(7,.int .i64 e2),(8,.int .i64 0),(10,.string s),(13,.pointer (some ⟨(p8 2).N,0,none⟩)),(27,.bool false),(42,.bool false),(64,.bool false)]) (by kernel_rfl) (fun _ _=>by kernel_rfl) (fun _=>by kernel_rfl) (fun _=>by kernel_rfl) (fun p11=>?_) (fun p11 W11 T hF hK=>?_)
 ·refine ok_v (by kernel_rfl) ?_
  refine ok_L (by kernel_rfl) (by kernel_rfl) (by kernel_rfl) ?_
  iterate 2 refine ok_v (by kernel_rfl) ?_
  refine ok_c (fun W cx=>as_v (unhide HM _)) (by kernel_rfl) ?_
  iterate 2 refine ok_v (by kernel_rfl) ?_
  refine ok_P (by kernel_rfl) (by kernel_rfl) (by kernel_rfl) ?_
  refine ok_v (by kernel_rfl) ?_
  exact ok_nil
 replace hS:=SymF.fb hS hF [0,1,2] [⟨(p1 0).N,#[.bool g,.string s,.int .i64 x],23,true⟩,⟨(p1 1).N,#[.bool g2,.string s2,.int .i64 x2],23,true⟩,⟨(p8 2).N,#[.slice (p8 1).A (p8 1).N (p8 1).C],60,true⟩] (by kernel_rfl) (by kernel_rfl)
 replace hG:=hF.gx
 clear hF
 have z11:=hS.fr.size
 refine wp_ret ?_
 exact sym_end hS hK (.tuple #[.agg #[.bool g2,.string s2,.int .i64 x2],.int .i64 e2]) [(1,0,3)] [.bool g2,.string s2,.int .i64 x2] (by kernel_rfl) (by kernel_rfl) ⟨rfl,hS.fr⟩
theorem rcut_B_gt_u (w:World) (g:Bool) (s:ByteArray) (x pl c:Int) (md M N1:Nat) (t:ByteArray) (g2:Bool) (s2:ByteArray) (x2 e2:Int) (a:Nat) (hm:s.size≤65536) (_hx0:-1073741824≤x) (_hx1:x≤1073741824) (hc:pl - x = c) (hc0:0 < c) (hc1:c≤2147483648) (hk:c = (s.size:Int)) (ht:0 < s.size) (ha:∀ h:0 < s.size,(s[0]'h).toNat = a) (ha5:53≤a) (h5:(s.toList == (⟨#[53]⟩:ByteArray).toList) = false) (H1:Hid (∀ W:World,Calls Try.prog 51 #[.string ⟨#[]⟩] W fun en W'=>(∃ a n c,en = .returned (.agg #[.slice a n c])∧Mine W' W.heap.size a n c M)∧Below W.heap.size W W')) (H2:Hid (∀ W:World,Calls Try.prog 96 #[.bool g,.bool false,.int .i64 1,.int .u8 (md:Int)] W fun e W'=>e = .returned (.bool true)∧Below W.heap.size W W')) (HA:Hid (∀ (W:World) (a:Option Addr) (n c:Nat) (a':Option Addr) (n' c':Nat),Num W a n M→Num W a' n' 1→Calls Try.prog 54 #[.agg #[.slice a n c],.agg #[.slice a' n' c']] W fun en W'=>(∃ a n c,en = .returned (.tuple #[.agg #[.slice a n c],.int .i64 0])∧Mine W' W.heap.size a n c N1)∧Below W.heap.size W W')) (HT:Hid (∀ (W:World) (a:Option Addr) (n c:Nat),Num W a n N1→Calls Try.prog 56 #[.agg #[.slice a n c]] W fun en W'=>en = .returned (.tuple #[.string t,.int .i64 0])∧Below W.heap.size W W')) (HM:Hid (∀ W:World,Calls Try.prog 17 #[.bool g,.string t,.int .i64 pl] W fun e W'=>e = .returned (.tuple #[.agg #[.bool g2,.string s2,.int .i64 x2],.int .i64 e2])∧Below W.heap.size W W')) :
  Calls Try.prog 61 #[.agg #[.bool g,.string s,.int .i64 x],.int .i64 pl,.int .u8 (md:Int)] w fun en w'=>en = .returned (.tuple #[.agg #[.bool g2,.string s2,.int .i64 x2],.int .i64 e2])∧Below w.heap.size w w':=by
 have hix:script Try.prog 0 (Instr.index 9 (.string s) (.int .i64 0)) [] = some (.int .u8 (a:Int),[]):=script_index (j:=0) Try.under_str rfl ht (ha _)
 refine calls_sym Try.func61 rfl (by kernel_rfl) fun T hK=>?_
 replace hK:Kn T _ [(0,.agg #[.bool g,.string s,.int .i64 x]),(1,.int .i64 pl),(2,.int .u8 (md:Int))]:=hK
 have hS:=Fb.begin w
 have hG:GsAt [] w:=trivial
 refine wp_symQ hS hG hK (fun p1=>[.n 3 #[.bool g,.string s,.int .i64 x] 23,.n 6 #[.bool false,.string ⟨#[]⟩,.int .i64 0] 23,.v 7 (.int .i64 0)]) (fun p1=>[(1,.int .i64 pl),(2,.int .u8 (md:Int)),(3,.pointer (some ⟨(p1 0).N,0,none⟩)),(6,.pointer (some ⟨(p1 1).N,0,none⟩)),(7,.int .i64 0)]) (by kernel_rfl) (fun _ _=>by kernel_rfl) (fun _=>by kernel_rfl) (fun _=>by kernel_rfl) (fun p1=>?_) (fun p1 W1 T hF hK=>?_)
 ·iterate 2 refine ok_n (fun _=>by kernel_rfl) ?_
  refine ok_v (by kernel_rfl) ?_
  exact ok_nil
 replace hS:=SymF.fb hS hF [1000,1001] [⟨(p1 0).N,#[.bool g,.string s,.int .i64 x],23,true⟩,⟨(p1 1).N,#[.bool false,.string ⟨#[]⟩,.int .i64 0],23,true⟩] (by kernel_rfl) (by kernel_rfl)
 replace hG:=hF.gx
 clear hF
 have z1:=hS.fr.size
 refine wp_symQ hS hG hK (fun p2=>[.v 16 (.pointer (some ⟨(p1 0).N,1,none⟩)),.l 17 (.string s) 0 1,.v 18 (.int .i64 (s.size:Int)),.v 19 (.int .i64 pl),.v 20 (.pointer (some ⟨(p1 0).N,2,none⟩)),.l 21 (.int .i64 x) 0 2,.v 22 (.int .i64 c),.v 23 (.int .i64 0),.v 8 (.int .i64 0)]) (fun p2=>[(1,.int .i64 pl),(2,.int .u8 (md:Int)),(3,.pointer (some ⟨(p1 0).N,0,none⟩)),(6,.pointer (some ⟨(p1 1).N,0,none⟩)),(7,.int .i64 0),(8,.int .i64 0)]) (by kernel_rfl) (fun _ _=>by kernel_rfl) (fun _=>by kernel_rfl) (fun _=>by kernel_rfl) (fun p2=>?_) (fun p2 W2 T hF hK=>?_)
 ·refine ok_v (by kernel_rfl) ?_
  refine ok_L (by kernel_rfl) (by kernel_rfl) (by kernel_rfl) ?_
  iterate 3 refine ok_v (by kernel_rfl) ?_
  refine ok_L (by kernel_rfl) (by kernel_rfl) (by kernel_rfl) ?_
  refine ok_vi ((wr64 (x:=pl - x) (by omega) (by omega)).trans hc) (by kernel_rfl) ?_
  refine ok_vi ((wr64 (x:=(s.size:Int) - c) (by omega) (by omega)).trans (by omega)) (by kernel_rfl) ?_
  refine ok_v (by kernel_rfl) ?_
  exact ok_nil
 replace hS:=SymF.fb hS hF [0,1] [⟨(p1 0).N,#[.bool g,.string s,.int .i64 x],23,true⟩,⟨(p1 1).N,#[.bool false,.string ⟨#[]⟩,.int .i64 0],23,true⟩] (by kernel_rfl) (by kernel_rfl)
 replace hG:=hF.gx
 clear hF
 have z2:=hS.fr.size
 refine wp_symQ hS hG hK (fun p3=>[.v 24 (.pointer (some ⟨(p1 0).N,1,none⟩)),.l 25 (.string s) 0 1,.v 9 (.string { data:=#[] }),.v 10 (.string s)]) (fun p3=>[(1,.int .i64 pl),(2,.int .u8 (md:Int)),(3,.pointer (some ⟨(p1 0).N,0,none⟩)),(6,.pointer (some ⟨(p1 1).N,0,none⟩)),(7,.int .i64 0),(8,.int .i64 0),(9,.string { data:=#[] }),(10,.string s)]) (by kernel_rfl) (fun _ _=>by kernel_rfl) (fun _=>by kernel_rfl) (fun _=>by kernel_rfl) (fun p3=>?_) (fun p3 W3 T hF hK=>?_)
 ·refine ok_v (by kernel_rfl) ?_
  refine ok_L (by kernel_rfl) (by kernel_rfl) (by kernel_rfl) ?_
  iterate 2 refine ok_v (by kernel_rfl) ?_
  exact ok_nil
 replace hS:=SymF.fb hS hF [0,1] [⟨(p1 0).N,#[.bool g,.string s,.int .i64 x],23,true⟩,⟨(p1 1).N,#[.bool false,.string ⟨#[]⟩,.int .i64 0],23,true⟩] (by kernel_rfl) (by kernel_rfl)
 replace hG:=hF.gx
 clear hF
 have z3:=hS.fr.size
 refine wp_seq ?_
 refine wp_symQ hS hG hK (fun p4=>[.v 26 (.int .i64 0),.v 27 (.bool false)]) (fun p4=>[(1,.int .i64 pl),(2,.int .u8 (md:Int)),(3,.pointer (some ⟨(p1 0).N,0,none⟩)),(6,.pointer (some ⟨(p1 1).N,0,none⟩)),(7,.int .i64 0),(8,.int .i64 0),(9,.string { data:=#[] }),(10,.string s),(27,.bool false)]) (by kernel_rfl) (fun _ _=>by kernel_rfl) (fun _=>by kernel_rfl) (fun _=>by kernel_rfl) (fun p4=>?_) (fun p4 W4 T hF hK=>?_)
 ·refine ok_v (by kernel_rfl) ?_
  refine ok_vb (decide_eq_false (show ¬ 0 > 0 by omega)) (by kernel_rfl) ?_
  exact ok_nil
 replace hS:=SymF.fb hS hF [0,1] [⟨(p1 0).N,#[.bool g,.string s,.int .i64 x],23,true⟩,⟨(p1 1).N,#[.bool false,.string ⟨#[]⟩,.int .i64 0],23,true⟩] (by kernel_rfl) (by kernel_rfl)
 replace hG:=hF.gx
 clear hF
 have z4:=hS.fr.size
 refine wp_cond_false (hK.ev 27 (by kernel_rfl) _ (by kernel_rfl)) ?_
 refine wp_skip ?_
 refine then_n ?_
 refine wp_symQ hS hG hK (fun p5=>[.v 11 (.int .i64 (-1))]) (fun p5=>[(1,.int .i64 pl),(2,.int .u8 (md:Int)),(3,.pointer (some ⟨(p1 0).N,0,none⟩)),(6,.pointer (some ⟨(p1 1).N,0,none⟩)),(7,.int .i64 0),(8,.int .i64 0),(9,.string { data:=#[] }),(10,.string s),(11,.int .i64 (-1)),(27,.bool false)]) (by kernel_rfl) (fun _ _=>by kernel_rfl) (fun _=>by kernel_rfl) (fun _=>by kernel_rfl) (fun p5=>?_) (fun p5 W5 T hF hK=>?_)
 ·refine ok_v (by kernel_rfl) ?_
  exact ok_nil
 replace hS:=SymF.fb hS hF [0,1] [⟨(p1 0).N,#[.bool g,.string s,.int .i64 x],23,true⟩,⟨(p1 1).N,#[.bool false,.string ⟨#[]⟩,.int .i64 0],23,true⟩] (by kernel_rfl) (by kernel_rfl)
 replace hG:=hF.gx
 clear hF
 have z5:=hS.fr.size
 refine wp_seq ?_
 refine wp_symQ hS hG hK (fun p6=>[.v 36 (.int .i64 0),.v 37 (.bool true),.v 38 (.bool true),.v 39 (.string s),.v 40 (.int .u8 (a:Int)),.v 41 (.bool true),.v 42 (.bool true)]) (fun p6=>[(1,.int .i64 pl),(2,.int .u8 (md:Int)),(3,.pointer (some ⟨(p1 0).N,0,none⟩)),(6,.pointer (some ⟨(p1 1).N,0,none⟩)),(7,.int .i64 0),(8,.int .i64 0),(9,.string { data:=#[] }),(10,.string s),(11,.int .i64 (-1)),(27,.bool false),(42,.bool true)]) (by kernel_rfl) (fun _ _=>by kernel_rfl) (fun _=>by kernel_rfl) (fun _=>by kernel_rfl) (fun p6=>?_) (fun p6 W6 T hF hK=>?_)
 ·refine ok_v (by kernel_rfl) ?_
  refine ok_vb (decide_eq_true (show 0 ≥ 0 by omega)) (by kernel_rfl) ?_
  iterate 2 refine ok_v (by kernel_rfl) ?_
  refine ok_vr (hix) (by kernel_rfl) ?_
  refine ok_vb (decide_eq_true (show (a:Int) ≥ 53 by omega)) (by kernel_rfl) ?_
  refine ok_v (by kernel_rfl) ?_
  exact ok_nil
 replace hS:=SymF.fb hS hF [0,1] [⟨(p1 0).N,#[.bool g,.string s,.int .i64 x],23,true⟩,⟨(p1 1).N,#[.bool false,.string ⟨#[]⟩,.int .i64 0],23,true⟩] (by kernel_rfl) (by kernel_rfl)
 replace hG:=hF.gx
 clear hF
 have z6:=hS.fr.size
 refine wp_cond_true (hK.ev 42 (by kernel_rfl) _ (by kernel_rfl)) ?_
 refine wp_symQ hS hG hK (fun p7=>[.v 11 (.int .i64 1)]) (fun p7=>[(1,.int .i64 pl),(2,.int .u8 (md:Int)),(3,.pointer (some ⟨(p1 0).N,0,none⟩)),(6,.pointer (some ⟨(p1 1).N,0,none⟩)),(7,.int .i64 0),(8,.int .i64 0),(9,.string { data:=#[] }),(10,.string s),(11,.int .i64 1),(27,.bool false),(42,.bool true)]) (by kernel_rfl) (fun _ _=>by kernel_rfl) (fun _=>by kernel_rfl) (fun _=>by kernel_rfl) (fun p7=>?_) (fun p7 W7 T hF hK=>?_)
 ·refine ok_v (by kernel_rfl) ?_
  exact ok_nil
 replace hS:=SymF.fb hS hF [0,1] [⟨(p1 0).N,#[.bool g,.string s,.int .i64 x],23,true⟩,⟨(p1 1).N,#[.bool false,.string ⟨#[]⟩,.int .i64 0],23,true⟩] (by kernel_rfl) (by kernel_rfl)
 replace hG:=hF.gx
 clear hF
 have z7:=hS.fr.size
 refine wp_symQ hS hG hK (fun p8=>[.v 43 (.string s),.v 44 (.bool false)]) (fun p8=>[(1,.int .i64 pl),(2,.int .u8 (md:Int)),(3,.pointer (some ⟨(p1 0).N,0,none⟩)),(6,.pointer (some ⟨(p1 1).N,0,none⟩)),(7,.int .i64 0),(8,.int .i64 0),(9,.string { data:=#[] }),(11,.int .i64 1),(27,.bool false),(42,.bool true),(44,.bool false)]) (by kernel_rfl) (fun _ _=>by kernel_rfl) (fun _=>by kernel_rfl) (fun _=>by kernel_rfl) (fun p8=>?_) (fun p8 W8 T hF hK=>?_)
 ·refine ok_v (by kernel_rfl) ?_
  refine ok_vb (h5) (by kernel_rfl) ?_
  exact ok_nil
 replace hS:=SymF.fb hS hF [0,1] [⟨(p1 0).N,#[.bool g,.string s,.int .i64 x],23,true⟩,⟨(p1 1).N,#[.bool false,.string ⟨#[]⟩,.int .i64 0],23,true⟩] (by kernel_rfl) (by kernel_rfl)
 replace hG:=hF.gx
 clear hF
 have z8:=hS.fr.size
 refine wp_cond_false (hK.ev 44 (by kernel_rfl) _ (by kernel_rfl)) ?_
 refine wp_skip ?_
 refine then_n ?_
 refine wp_symQ hS hG hK (fun p9=>[.v 45 (.string { data:=#[] }),.v 46 (.int .i64 0),.v 47 (.bool false),.v 48 (.bool false),.k (some 49),.k (some 50),.k (some 51),.k (some 52),.k (some 53),.k (some 54),.k (some 55),.v 56 (.bool false),.v 12 (.bool false)]) (fun p9=>[(1,.int .i64 pl),(2,.int .u8 (md:Int)),(3,.pointer (some ⟨(p1 0).N,0,none⟩)),(6,.pointer (some ⟨(p1 1).N,0,none⟩)),(7,.int .i64 0),(8,.int .i64 0),(9,.string { data:=#[] }),(11,.int .i64 1),(12,.bool false),(27,.bool false),(42,.bool true),(44,.bool false)]) (by kernel_rfl) (fun _ _=>by kernel_rfl) (fun _=>by kernel_rfl) (fun _=>by kernel_rfl) (fun p9=>?_) (fun p9 W9 T hF hK=>?_)
 ·iterate 4 refine ok_v (by kernel_rfl) ?_
  iterate 7 refine ok_K (by kernel_rfl) ?_
  iterate 2 refine ok_v (by kernel_rfl) ?_
  exact ok_nil
 replace hS:=SymF.fb hS hF [0,1] [⟨(p1 0).N,#[.bool g,.string s,.int .i64 x],23,true⟩,⟨(p1 1).N,#[.bool false,.string ⟨#[]⟩,.int .i64 0],23,true⟩] (by kernel_rfl) (by kernel_rfl)
 replace hG:=hF.gx
 clear hF
 have z9:=hS.fr.size
 refine wp_symQ hS hG hK (fun p10=>[.v 57 (.string { data:=#[] }),.c (some 58) (cN W9.heap.size M),.n 13 #[.slice none 0 0] 60,.p 1002 0 [.slice (p10 1).A (p10 1).N (p10 1).C]]) (fun p10=>[(1,.int .i64 pl),(2,.int .u8 (md:Int)),(3,.pointer (some ⟨(p1 0).N,0,none⟩)),(6,.pointer (some ⟨(p1 1).N,0,none⟩)),(7,.int .i64 0),(8,.int .i64 0),(11,.int .i64 1),(12,.bool false),(13,.pointer (some ⟨(p10 2).N,0,none⟩)),(27,.bool false),(42,.bool true),(44,.bool false)]) (by kernel_rfl) (fun _ _=>by kernel_rfl) (fun _=>by kernel_rfl) (fun _=>by kernel_rfl) (fun p10=>?_) (fun p10 W10 T hF hK=>?_)
 ·refine ok_v (by kernel_rfl) ?_
  refine ok_c (fun W cx=>as_n cx.hb (unhide H1 _)) (by kernel_rfl) ?_
  refine ok_n (fun _=>by kernel_rfl) ?_
  refine ok_P (by kernel_rfl) (by kernel_rfl) (by kernel_rfl) ?_
  exact ok_nil
 replace hS:=SymF.fb hS hF [0,1,1002] [⟨(p1 0).N,#[.bool g,.string s,.int .i64 x],23,true⟩,⟨(p1 1).N,#[.bool false,.string ⟨#[]⟩,.int .i64 0],23,true⟩,⟨(p10 2).N,#[.slice (p10 1).A (p10 1).N (p10 1).C],60,true⟩] (by kernel_rfl) (by kernel_rfl)
 replace hG:GsAt (gM W9.heap.size (p10 1).A (p10 1).N (p10 1).C M :: _) W10:=⟨hF.fx 1,hF.gx⟩
 clear hF
 have z10:=hS.fr.size
 refine wp_seq ?_
 refine wp_symQ hS hG hK (fun p11=>[.v 59 (.pointer (some ⟨(p1 0).N,0,none⟩)),.l 60 (.bool g) 0 0,.v 61 (.bool false),.v 62 (.int .i64 1),.v 63 (.int .u8 (md:Int)),.c (some 64) (cV (.bool true))]) (fun p11=>[(1,.int .i64 pl),(3,.pointer (some ⟨(p1 0).N,0,none⟩)),(6,.pointer (some ⟨(p1 1).N,0,none⟩)),(7,.int .i64 0),(8,.int .i64 0),(13,.pointer (some ⟨(p10 2).N,0,none⟩)),(27,.bool false),(42,.bool true),(44,.bool false),(64,.bool true)]) (by kernel_rfl) (fun _ _=>by kernel_rfl) (fun _=>by kernel_rfl) (fun _=>by kernel_rfl) (fun p11=>?_) (fun p11 W11 T hF hK=>?_)
 ·refine ok_v (by kernel_rfl) ?_
  refine ok_L (by kernel_rfl) (by kernel_rfl) (by kernel_rfl) ?_
  iterate 3 refine ok_v (by kernel_rfl) ?_
  refine ok_c (fun W cx=>as_v (unhide H2 _)) (by kernel_rfl) ?_
  exact ok_nil
 replace hS:=SymF.fb hS hF [0,1,2] [⟨(p1 0).N,#[.bool g,.string s,.int .i64 x],23,true⟩,⟨(p1 1).N,#[.bool false,.string ⟨#[]⟩,.int .i64 0],23,true⟩,⟨(p10 2).N,#[.slice (p10 1).A (p10 1).N (p10 1).C],60,true⟩] (by kernel_rfl) (by kernel_rfl)
 replace hG:=hF.gx
 clear hF
 have z11:=hS.fr.size
 refine wp_cond_true (hK.ev 64 (by kernel_rfl) _ (by kernel_rfl)) ?_
 refine wp_symG hS hG hK (fun p12=>[.l 66 (.agg #[.slice (p10 1).A (p10 1).N (p10 1).C]) 2 0,.c (some 67) (cN W11.heap.size 1),.c (some 68) (cO W11.heap.size N1),.v 65 (.tuple #[.agg #[.slice (p12 2).A (p12 2).N (p12 2).C],.int .i64 0]),.v 69 (.agg #[.slice (p12 2).A (p12 2).N (p12 2).C]),.v 70 (.int .i64 0),.p 2 0 [.slice (p12 2).A (p12 2).N (p12 2).C]]) (fun p12=>[(1,.int .i64 pl),(3,.pointer (some ⟨(p1 0).N,0,none⟩)),(6,.pointer (some ⟨(p1 1).N,0,none⟩)),(7,.int .i64 0),(8,.int .i64 0),(13,.pointer (some ⟨(p10 2).N,0,none⟩)),(27,.bool false),(42,.bool true),(44,.bool false),(64,.bool true)]) (by kernel_rfl) (fun _ _=>by kernel_rfl) (fun _=>by kernel_rfl) (fun _=>by kernel_rfl) (fun p12=>?_) (fun p12 W12 T hF hK=>?_)
 ·refine ok_L (by kernel_rfl) (by kernel_rfl) (by kernel_rfl) ?_
  refine ok_c (fun W cx=>as_n cx.hb (rof_any 1 _ (by decide))) (by kernel_rfl) ?_
  refine ok_c (fun W cx=>as_o cx.hb (unhide HA _ _ _ (p10 1).C _ _ (p12 1).C (Mine.num cx.G.1) (Mine.num (cx.F 1 (by kernel_rfl))))) (by kernel_rfl) ?_
  iterate 3 refine ok_v (by kernel_rfl) ?_
  refine ok_P (by kernel_rfl) (by kernel_rfl) (by kernel_rfl) ?_
  exact ok_nil
 replace hS:=SymF.fb hS hF [0,1,2] [⟨(p1 0).N,#[.bool g,.string s,.int .i64 x],23,true⟩,⟨(p1 1).N,#[.bool false,.string ⟨#[]⟩,.int .i64 0],23,true⟩,⟨(p10 2).N,#[.slice (p12 2).A (p12 2).N (p12 2).C],60,true⟩] (by kernel_rfl) (by kernel_rfl)
 replace hG:GsAt (gM W11.heap.size (p12 1).A (p12 1).N (p12 1).C 1 :: gM W11.heap.size (p12 2).A (p12 2).N (p12 2).C N1 :: _) W12:=⟨hF.fx 1,hF.fx 2,hF.gx⟩
 clear hF
 have z12:=hS.fr.size
 refine then_n ?_
 refine wp_symQ hS hG hK (fun p13=>[.l 72 (.agg #[.slice (p12 2).A (p12 2).N (p12 2).C]) 2 0,.c (some 73) (cV (.tuple #[.string t,.int .i64 0])),.v 71 (.tuple #[.string t,.int .i64 0]),.v 74 (.string t),.v 75 (.int .i64 0),.v 14 (.string t),.v 15 (.int .i64 0)]) (fun p13=>[(1,.int .i64 pl),(3,.pointer (some ⟨(p1 0).N,0,none⟩)),(6,.pointer (some ⟨(p1 1).N,0,none⟩)),(7,.int .i64 0),(8,.int .i64 0),(14,.string t),(27,.bool false),(42,.bool true),(44,.bool false),(64,.bool true)]) (by kernel_rfl) (fun _ _=>by kernel_rfl) (fun _=>by kernel_rfl) (fun _=>by kernel_rfl) (fun p13=>?_) (fun p13 W13 T hF hK=>?_)
 ·refine ok_L (by kernel_rfl) (by kernel_rfl) (by kernel_rfl) ?_
  refine ok_c (fun W cx=>as_v (unhide HT _ _ _ (p12 2).C (Mine.num cx.G.2.1))) (by kernel_rfl) ?_
  iterate 5 refine ok_v (by kernel_rfl) ?_
  exact ok_nil
 replace hS:=SymF.fb hS hF [0,1] [⟨(p1 0).N,#[.bool g,.string s,.int .i64 x],23,true⟩,⟨(p1 1).N,#[.bool false,.string ⟨#[]⟩,.int .i64 0],23,true⟩] (by kernel_rfl) (by kernel_rfl)
 replace hG:=hF.gx
 clear hF
 have z13:=hS.fr.size
 refine wp_symQ hS hG hK (fun p14=>[.v 76 (.pointer (some ⟨(p1 0).N,0,none⟩)),.l 77 (.bool g) 0 0,.v 78 (.string t),.v 79 (.int .i64 pl),.c (some 80) (cV (.tuple #[.agg #[.bool g2,.string s2,.int .i64 x2],.int .i64 e2])),.v 81 (.agg #[.bool g2,.string s2,.int .i64 x2]),.v 82 (.int .i64 e2),.p 1 0 [.bool g2,.string s2,.int .i64 x2],.v 7 (.int .i64 e2)]) (fun p14=>[(3,.pointer (some ⟨(p1 0).N,0,none⟩)),(6,.pointer (some ⟨(p1 1).N,0,none⟩)),(7,.int .i64 e2),(8,.int .i64 0),(27,.bool false),(42,.bool true),(44,.bool false),(64,.bool true)]) (by kernel_rfl) (fun _ _=>by kernel_rfl) (fun _=>by kernel_rfl) (fun _=>by kernel_rfl) (fun p14=>?_) (fun p14 W14 T hF hK=>?_)
 ·refine ok_v (by kernel_rfl) ?_
  refine ok_L (by kernel_rfl) (by kernel_rfl) (by kernel_rfl) ?_
  iterate 2 refine ok_v (by kernel_rfl) ?_
  refine ok_c (fun W cx=>as_v (unhide HM _)) (by kernel_rfl) ?_
  iterate 2 refine ok_v (by kernel_rfl) ?_
  refine ok_P (by kernel_rfl) (by kernel_rfl) (by kernel_rfl) ?_
  refine ok_v (by kernel_rfl) ?_
  exact ok_nil
 replace hS:=SymF.fb hS hF [0,1] [⟨(p1 0).N,#[.bool g,.string s,.int .i64 x],23,true⟩,⟨(p1 1).N,#[.bool g2,.string s2,.int .i64 x2],23,true⟩] (by kernel_rfl) (by kernel_rfl)
 replace hG:=hF.gx
 clear hF
 have z14:=hS.fr.size
 refine wp_ret ?_
 exact sym_end hS hK (.tuple #[.agg #[.bool g2,.string s2,.int .i64 x2],.int .i64 e2]) [(1,0,3)] [.bool g2,.string s2,.int .i64 x2] (by kernel_rfl) (by kernel_rfl) ⟨rfl,hS.fr⟩
theorem rcut_B_gt_n (w:World) (g:Bool) (s:ByteArray) (x pl c:Int) (md M:Nat) (t:ByteArray) (g2:Bool) (s2:ByteArray) (x2 e2:Int) (a:Nat) (hm:s.size≤65536) (_hx0:-1073741824≤x) (_hx1:x≤1073741824) (hc:pl - x = c) (hc0:0 < c) (hc1:c≤2147483648) (hk:c = (s.size:Int)) (ht:0 < s.size) (ha:∀ h:0 < s.size,(s[0]'h).toNat = a) (ha5:53≤a) (h5:(s.toList == (⟨#[53]⟩:ByteArray).toList) = false) (H1:Hid (∀ W:World,Calls Try.prog 51 #[.string ⟨#[]⟩] W fun en W'=>(∃ a n c,en = .returned (.agg #[.slice a n c])∧Mine W' W.heap.size a n c M)∧Below W.heap.size W W')) (H2:Hid (∀ W:World,Calls Try.prog 96 #[.bool g,.bool false,.int .i64 1,.int .u8 (md:Int)] W fun e W'=>e = .returned (.bool false)∧Below W.heap.size W W')) (HT:Hid (∀ (W:World) (a:Option Addr) (n c:Nat),Num W a n M→Calls Try.prog 56 #[.agg #[.slice a n c]] W fun en W'=>en = .returned (.tuple #[.string t,.int .i64 0])∧Below W.heap.size W W')) (HM:Hid (∀ W:World,Calls Try.prog 17 #[.bool g,.string t,.int .i64 pl] W fun e W'=>e = .returned (.tuple #[.agg #[.bool g2,.string s2,.int .i64 x2],.int .i64 e2])∧Below W.heap.size W W')) :
  Calls Try.prog 61 #[.agg #[.bool g,.string s,.int .i64 x],.int .i64 pl,.int .u8 (md:Int)] w fun en w'=>en = .returned (.tuple #[.agg #[.bool g2,.string s2,.int .i64 x2],.int .i64 e2])∧Below w.heap.size w w':=by
 have hix:script Try.prog 0 (Instr.index 9 (.string s) (.int .i64 0)) [] = some (.int .u8 (a:Int),[]):=script_index (j:=0) Try.under_str rfl ht (ha _)
 refine calls_sym Try.func61 rfl (by kernel_rfl) fun T hK=>?_
 replace hK:Kn T _ [(0,.agg #[.bool g,.string s,.int .i64 x]),(1,.int .i64 pl),(2,.int .u8 (md:Int))]:=hK
 have hS:=Fb.begin w
 have hG:GsAt [] w:=trivial
 refine wp_symQ hS hG hK (fun p1=>[.n 3 #[.bool g,.string s,.int .i64 x] 23,.n 6 #[.bool false,.string ⟨#[]⟩,.int .i64 0] 23,.v 7 (.int .i64 0)]) (fun p1=>[(1,.int .i64 pl),(2,.int .u8 (md:Int)),(3,.pointer (some ⟨(p1 0).N,0,none⟩)),(6,.pointer (some ⟨(p1 1).N,0,none⟩)),(7,.int .i64 0)]) (by kernel_rfl) (fun _ _=>by kernel_rfl) (fun _=>by kernel_rfl) (fun _=>by kernel_rfl) (fun p1=>?_) (fun p1 W1 T hF hK=>?_)
 ·iterate 2 refine ok_n (fun _=>by kernel_rfl) ?_
  refine ok_v (by kernel_rfl) ?_
  exact ok_nil
 replace hS:=SymF.fb hS hF [1000,1001] [⟨(p1 0).N,#[.bool g,.string s,.int .i64 x],23,true⟩,⟨(p1 1).N,#[.bool false,.string ⟨#[]⟩,.int .i64 0],23,true⟩] (by kernel_rfl) (by kernel_rfl)
 replace hG:=hF.gx
 clear hF
 have z1:=hS.fr.size
 refine wp_symQ hS hG hK (fun p2=>[.v 16 (.pointer (some ⟨(p1 0).N,1,none⟩)),.l 17 (.string s) 0 1,.v 18 (.int .i64 (s.size:Int)),.v 19 (.int .i64 pl),.v 20 (.pointer (some ⟨(p1 0).N,2,none⟩)),.l 21 (.int .i64 x) 0 2,.v 22 (.int .i64 c),.v 23 (.int .i64 0),.v 8 (.int .i64 0)]) (fun p2=>[(1,.int .i64 pl),(2,.int .u8 (md:Int)),(3,.pointer (some ⟨(p1 0).N,0,none⟩)),(6,.pointer (some ⟨(p1 1).N,0,none⟩)),(7,.int .i64 0),(8,.int .i64 0)]) (by kernel_rfl) (fun _ _=>by kernel_rfl) (fun _=>by kernel_rfl) (fun _=>by kernel_rfl) (fun p2=>?_) (fun p2 W2 T hF hK=>?_)
 ·refine ok_v (by kernel_rfl) ?_
  refine ok_L (by kernel_rfl) (by kernel_rfl) (by kernel_rfl) ?_
  iterate 3 refine ok_v (by kernel_rfl) ?_
  refine ok_L (by kernel_rfl) (by kernel_rfl) (by kernel_rfl) ?_
  refine ok_vi ((wr64 (x:=pl - x) (by omega) (by omega)).trans hc) (by kernel_rfl) ?_
  refine ok_vi ((wr64 (x:=(s.size:Int) - c) (by omega) (by omega)).trans (by omega)) (by kernel_rfl) ?_
  refine ok_v (by kernel_rfl) ?_
  exact ok_nil
 replace hS:=SymF.fb hS hF [0,1] [⟨(p1 0).N,#[.bool g,.string s,.int .i64 x],23,true⟩,⟨(p1 1).N,#[.bool false,.string ⟨#[]⟩,.int .i64 0],23,true⟩] (by kernel_rfl) (by kernel_rfl)
 replace hG:=hF.gx
 clear hF
 have z2:=hS.fr.size
 refine wp_symQ hS hG hK (fun p3=>[.v 24 (.pointer (some ⟨(p1 0).N,1,none⟩)),.l 25 (.string s) 0 1,.v 9 (.string { data:=#[] }),.v 10 (.string s)]) (fun p3=>[(1,.int .i64 pl),(2,.int .u8 (md:Int)),(3,.pointer (some ⟨(p1 0).N,0,none⟩)),(6,.pointer (some ⟨(p1 1).N,0,none⟩)),(7,.int .i64 0),(8,.int .i64 0),(9,.string { data:=#[] }),(10,.string s)]) (by kernel_rfl) (fun _ _=>by kernel_rfl) (fun _=>by kernel_rfl) (fun _=>by kernel_rfl) (fun p3=>?_) (fun p3 W3 T hF hK=>?_)
 ·refine ok_v (by kernel_rfl) ?_
  refine ok_L (by kernel_rfl) (by kernel_rfl) (by kernel_rfl) ?_
  iterate 2 refine ok_v (by kernel_rfl) ?_
  exact ok_nil
 replace hS:=SymF.fb hS hF [0,1] [⟨(p1 0).N,#[.bool g,.string s,.int .i64 x],23,true⟩,⟨(p1 1).N,#[.bool false,.string ⟨#[]⟩,.int .i64 0],23,true⟩] (by kernel_rfl) (by kernel_rfl)
 replace hG:=hF.gx
 clear hF
 have z3:=hS.fr.size
 refine wp_seq ?_
 refine wp_symQ hS hG hK (fun p4=>[.v 26 (.int .i64 0),.v 27 (.bool false)]) (fun p4=>[(1,.int .i64 pl),(2,.int .u8 (md:Int)),(3,.pointer (some ⟨(p1 0).N,0,none⟩)),(6,.pointer (some ⟨(p1 1).N,0,none⟩)),(7,.int .i64 0),(8,.int .i64 0),(9,.string { data:=#[] }),(10,.string s),(27,.bool false)]) (by kernel_rfl) (fun _ _=>by kernel_rfl) (fun _=>by kernel_rfl) (fun _=>by kernel_rfl) (fun p4=>?_) (fun p4 W4 T hF hK=>?_)
 ·refine ok_v (by kernel_rfl) ?_
  refine ok_vb (decide_eq_false (show ¬ 0 > 0 by omega)) (by kernel_rfl) ?_
  exact ok_nil
 replace hS:=SymF.fb hS hF [0,1] [⟨(p1 0).N,#[.bool g,.string s,.int .i64 x],23,true⟩,⟨(p1 1).N,#[.bool false,.string ⟨#[]⟩,.int .i64 0],23,true⟩] (by kernel_rfl) (by kernel_rfl)
 replace hG:=hF.gx
 clear hF
 have z4:=hS.fr.size
 refine wp_cond_false (hK.ev 27 (by kernel_rfl) _ (by kernel_rfl)) ?_
 refine wp_skip ?_
 refine then_n ?_
 refine wp_symQ hS hG hK (fun p5=>[.v 11 (.int .i64 (-1))]) (fun p5=>[(1,.int .i64 pl),(2,.int .u8 (md:Int)),(3,.pointer (some ⟨(p1 0).N,0,none⟩)),(6,.pointer (some ⟨(p1 1).N,0,none⟩)),(7,.int .i64 0),(8,.int .i64 0),(9,.string { data:=#[] }),(10,.string s),(11,.int .i64 (-1)),(27,.bool false)]) (by kernel_rfl) (fun _ _=>by kernel_rfl) (fun _=>by kernel_rfl) (fun _=>by kernel_rfl) (fun p5=>?_) (fun p5 W5 T hF hK=>?_)
 ·refine ok_v (by kernel_rfl) ?_
  exact ok_nil
 replace hS:=SymF.fb hS hF [0,1] [⟨(p1 0).N,#[.bool g,.string s,.int .i64 x],23,true⟩,⟨(p1 1).N,#[.bool false,.string ⟨#[]⟩,.int .i64 0],23,true⟩] (by kernel_rfl) (by kernel_rfl)
 replace hG:=hF.gx
 clear hF
 have z5:=hS.fr.size
 refine wp_seq ?_
 refine wp_symQ hS hG hK (fun p6=>[.v 36 (.int .i64 0),.v 37 (.bool true),.v 38 (.bool true),.v 39 (.string s),.v 40 (.int .u8 (a:Int)),.v 41 (.bool true),.v 42 (.bool true)]) (fun p6=>[(1,.int .i64 pl),(2,.int .u8 (md:Int)),(3,.pointer (some ⟨(p1 0).N,0,none⟩)),(6,.pointer (some ⟨(p1 1).N,0,none⟩)),(7,.int .i64 0),(8,.int .i64 0),(9,.string { data:=#[] }),(10,.string s),(11,.int .i64 (-1)),(27,.bool false),(42,.bool true)]) (by kernel_rfl) (fun _ _=>by kernel_rfl) (fun _=>by kernel_rfl) (fun _=>by kernel_rfl) (fun p6=>?_) (fun p6 W6 T hF hK=>?_)
 ·refine ok_v (by kernel_rfl) ?_
  refine ok_vb (decide_eq_true (show 0 ≥ 0 by omega)) (by kernel_rfl) ?_
  iterate 2 refine ok_v (by kernel_rfl) ?_
  refine ok_vr (hix) (by kernel_rfl) ?_
  refine ok_vb (decide_eq_true (show (a:Int) ≥ 53 by omega)) (by kernel_rfl) ?_
  refine ok_v (by kernel_rfl) ?_
  exact ok_nil
 replace hS:=SymF.fb hS hF [0,1] [⟨(p1 0).N,#[.bool g,.string s,.int .i64 x],23,true⟩,⟨(p1 1).N,#[.bool false,.string ⟨#[]⟩,.int .i64 0],23,true⟩] (by kernel_rfl) (by kernel_rfl)
 replace hG:=hF.gx
 clear hF
 have z6:=hS.fr.size
 refine wp_cond_true (hK.ev 42 (by kernel_rfl) _ (by kernel_rfl)) ?_
 refine wp_symQ hS hG hK (fun p7=>[.v 11 (.int .i64 1)]) (fun p7=>[(1,.int .i64 pl),(2,.int .u8 (md:Int)),(3,.pointer (some ⟨(p1 0).N,0,none⟩)),(6,.pointer (some ⟨(p1 1).N,0,none⟩)),(7,.int .i64 0),(8,.int .i64 0),(9,.string { data:=#[] }),(10,.string s),(11,.int .i64 1),(27,.bool false),(42,.bool true)]) (by kernel_rfl) (fun _ _=>by kernel_rfl) (fun _=>by kernel_rfl) (fun _=>by kernel_rfl) (fun p7=>?_) (fun p7 W7 T hF hK=>?_)
 ·refine ok_v (by kernel_rfl) ?_
  exact ok_nil
 replace hS:=SymF.fb hS hF [0,1] [⟨(p1 0).N,#[.bool g,.string s,.int .i64 x],23,true⟩,⟨(p1 1).N,#[.bool false,.string ⟨#[]⟩,.int .i64 0],23,true⟩] (by kernel_rfl) (by kernel_rfl)
 replace hG:=hF.gx
 clear hF
 have z7:=hS.fr.size
 refine wp_symQ hS hG hK (fun p8=>[.v 43 (.string s),.v 44 (.bool false)]) (fun p8=>[(1,.int .i64 pl),(2,.int .u8 (md:Int)),(3,.pointer (some ⟨(p1 0).N,0,none⟩)),(6,.pointer (some ⟨(p1 1).N,0,none⟩)),(7,.int .i64 0),(8,.int .i64 0),(9,.string { data:=#[] }),(11,.int .i64 1),(27,.bool false),(42,.bool true),(44,.bool false)]) (by kernel_rfl) (fun _ _=>by kernel_rfl) (fun _=>by kernel_rfl) (fun _=>by kernel_rfl) (fun p8=>?_) (fun p8 W8 T hF hK=>?_)
 ·refine ok_v (by kernel_rfl) ?_
  refine ok_vb (h5) (by kernel_rfl) ?_
  exact ok_nil
 replace hS:=SymF.fb hS hF [0,1] [⟨(p1 0).N,#[.bool g,.string s,.int .i64 x],23,true⟩,⟨(p1 1).N,#[.bool false,.string ⟨#[]⟩,.int .i64 0],23,true⟩] (by kernel_rfl) (by kernel_rfl)
 replace hG:=hF.gx
 clear hF
 have z8:=hS.fr.size
 refine wp_cond_false (hK.ev 44 (by kernel_rfl) _ (by kernel_rfl)) ?_
 refine wp_skip ?_
 refine then_n ?_
 refine wp_symQ hS hG hK (fun p9=>[.v 45 (.string { data:=#[] }),.v 46 (.int .i64 0),.v 47 (.bool false),.v 48 (.bool false),.k (some 49),.k (some 50),.k (some 51),.k (some 52),.k (some 53),.k (some 54),.k (some 55),.v 56 (.bool false),.v 12 (.bool false)]) (fun p9=>[(1,.int .i64 pl),(2,.int .u8 (md:Int)),(3,.pointer (some ⟨(p1 0).N,0,none⟩)),(6,.pointer (some ⟨(p1 1).N,0,none⟩)),(7,.int .i64 0),(8,.int .i64 0),(9,.string { data:=#[] }),(11,.int .i64 1),(12,.bool false),(27,.bool false),(42,.bool true),(44,.bool false)]) (by kernel_rfl) (fun _ _=>by kernel_rfl) (fun _=>by kernel_rfl) (fun _=>by kernel_rfl) (fun p9=>?_) (fun p9 W9 T hF hK=>?_)
 ·iterate 4 refine ok_v (by kernel_rfl) ?_
  iterate 7 refine ok_K (by kernel_rfl) ?_
  iterate 2 refine ok_v (by kernel_rfl) ?_
  exact ok_nil
 replace hS:=SymF.fb hS hF [0,1] [⟨(p1 0).N,#[.bool g,.string s,.int .i64 x],23,true⟩,⟨(p1 1).N,#[.bool false,.string ⟨#[]⟩,.int .i64 0],23,true⟩] (by kernel_rfl) (by kernel_rfl)
 replace hG:=hF.gx
 clear hF
 have z9:=hS.fr.size
 refine wp_symQ hS hG hK (fun p10=>[.v 57 (.string { data:=#[] }),.c (some 58) (cN W9.heap.size M),.n 13 #[.slice none 0 0] 60,.p 1002 0 [.slice (p10 1).A (p10 1).N (p10 1).C]]) (fun p10=>[(1,.int .i64 pl),(2,.int .u8 (md:Int)),(3,.pointer (some ⟨(p1 0).N,0,none⟩)),(6,.pointer (some ⟨(p1 1).N,0,none⟩)),(7,.int .i64 0),(8,.int .i64 0),(11,.int .i64 1),(12,.bool false),(13,.pointer (some ⟨(p10 2).N,0,none⟩)),(27,.bool false),(42,.bool true),(44,.bool false)]) (by kernel_rfl) (fun _ _=>by kernel_rfl) (fun _=>by kernel_rfl) (fun _=>by kernel_rfl) (fun p10=>?_) (fun p10 W10 T hF hK=>?_)
 ·refine ok_v (by kernel_rfl) ?_
  refine ok_c (fun W cx=>as_n cx.hb (unhide H1 _)) (by kernel_rfl) ?_
  refine ok_n (fun _=>by kernel_rfl) ?_
  refine ok_P (by kernel_rfl) (by kernel_rfl) (by kernel_rfl) ?_
  exact ok_nil
 replace hS:=SymF.fb hS hF [0,1,1002] [⟨(p1 0).N,#[.bool g,.string s,.int .i64 x],23,true⟩,⟨(p1 1).N,#[.bool false,.string ⟨#[]⟩,.int .i64 0],23,true⟩,⟨(p10 2).N,#[.slice (p10 1).A (p10 1).N (p10 1).C],60,true⟩] (by kernel_rfl) (by kernel_rfl)
 replace hG:GsAt (gM W9.heap.size (p10 1).A (p10 1).N (p10 1).C M :: _) W10:=⟨hF.fx 1,hF.gx⟩
 clear hF
 have z10:=hS.fr.size
 refine wp_seq ?_
 refine wp_symQ hS hG hK (fun p11=>[.v 59 (.pointer (some ⟨(p1 0).N,0,none⟩)),.l 60 (.bool g) 0 0,.v 61 (.bool false),.v 62 (.int .i64 1),.v 63 (.int .u8 (md:Int)),.c (some 64) (cV (.bool false))]) (fun p11=>[(1,.int .i64 pl),(3,.pointer (some ⟨(p1 0).N,0,none⟩)),(6,.pointer (some ⟨(p1 1).N,0,none⟩)),(7,.int .i64 0),(8,.int .i64 0),(13,.pointer (some ⟨(p10 2).N,0,none⟩)),(27,.bool false),(42,.bool true),(44,.bool false),(64,.bool false)]) (by kernel_rfl) (fun _ _=>by kernel_rfl) (fun _=>by kernel_rfl) (fun _=>by kernel_rfl) (fun p11=>?_) (fun p11 W11 T hF hK=>?_)
 ·refine ok_v (by kernel_rfl) ?_
  refine ok_L (by kernel_rfl) (by kernel_rfl) (by kernel_rfl) ?_
  iterate 3 refine ok_v (by kernel_rfl) ?_
  refine ok_c (fun W cx=>as_v (unhide H2 _)) (by kernel_rfl) ?_
  exact ok_nil
 replace hS:=SymF.fb hS hF [0,1,2] [⟨(p1 0).N,#[.bool g,.string s,.int .i64 x],23,true⟩,⟨(p1 1).N,#[.bool false,.string ⟨#[]⟩,.int .i64 0],23,true⟩,⟨(p10 2).N,#[.slice (p10 1).A (p10 1).N (p10 1).C],60,true⟩] (by kernel_rfl) (by kernel_rfl)
 replace hG:=hF.gx
 clear hF
 have z11:=hS.fr.size
 refine wp_cond_false (hK.ev 64 (by kernel_rfl) _ (by kernel_rfl)) ?_
 refine wp_skip ?_
 refine then_n ?_
 refine wp_symQ hS hG hK (fun p12=>[.l 72 (.agg #[.slice (p10 1).A (p10 1).N (p10 1).C]) 2 0,.c (some 73) (cV (.tuple #[.string t,.int .i64 0])),.v 71 (.tuple #[.string t,.int .i64 0]),.v 74 (.string t),.v 75 (.int .i64 0),.v 14 (.string t),.v 15 (.int .i64 0)]) (fun p12=>[(1,.int .i64 pl),(3,.pointer (some ⟨(p1 0).N,0,none⟩)),(6,.pointer (some ⟨(p1 1).N,0,none⟩)),(7,.int .i64 0),(8,.int .i64 0),(13,.pointer (some ⟨(p10 2).N,0,none⟩)),(14,.string t),(27,.bool false),(42,.bool true),(44,.bool false),(64,.bool false)]) (by kernel_rfl) (fun _ _=>by kernel_rfl) (fun _=>by kernel_rfl) (fun _=>by kernel_rfl) (fun p12=>?_) (fun p12 W12 T hF hK=>?_)
 ·refine ok_L (by kernel_rfl) (by kernel_rfl) (by kernel_rfl) ?_
  refine ok_c (fun W cx=>as_v (unhide HT _ _ _ (p10 1).C (Mine.num cx.G.1))) (by kernel_rfl) ?_
  iterate 5 refine ok_v (by kernel_rfl) ?_
  exact ok_nil
 replace hS:=SymF.fb hS hF [0,1,2] [⟨(p1 0).N,#[.bool g,.string s,.int .i64 x],23,true⟩,⟨(p1 1).N,#[.bool false,.string ⟨#[]⟩,.int .i64 0],23,true⟩,⟨(p10 2).N,#[.slice (p10 1).A (p10 1).N (p10 1).C],60,true⟩] (by kernel_rfl) (by kernel_rfl)
 replace hG:=hF.gx
 clear hF
 have z12:=hS.fr.size
 refine wp_symQ hS hG hK (fun p13=>[.v 76 (.pointer (some ⟨(p1 0).N,0,none⟩)),.l 77 (.bool g) 0 0,.v 78 (.string t),.v 79 (.int .i64 pl),.c (some 80) (cV (.tuple #[.agg #[.bool g2,.string s2,.int .i64 x2],.int .i64 e2])),.v 81 (.agg #[.bool g2,.string s2,.int .i64 x2]),.v 82 (.int .i64 e2),.p 1 0 [.bool g2,.string s2,.int .i64 x2],.v 7 (.int .i64 e2)]) (fun p13=>[(3,.pointer (some ⟨(p1 0).N,0,none⟩)),(6,.pointer (some ⟨(p1 1).N,0,none⟩)),(7,.int .i64 e2),(8,.int .i64 0),(13,.pointer (some ⟨(p10 2).N,0,none⟩)),(27,.bool false),(42,.bool true),(44,.bool false),(64,.bool false)]) (by kernel_rfl) (fun _ _=>by kernel_rfl) (fun _=>by kernel_rfl) (fun _=>by kernel_rfl) (fun p13=>?_) (fun p13 W13 T hF hK=>?_)
 ·refine ok_v (by kernel_rfl) ?_
  refine ok_L (by kernel_rfl) (by kernel_rfl) (by kernel_rfl) ?_
  iterate 2 refine ok_v (by kernel_rfl) ?_
  refine ok_c (fun W cx=>as_v (unhide HM _)) (by kernel_rfl) ?_
  iterate 2 refine ok_v (by kernel_rfl) ?_
  refine ok_P (by kernel_rfl) (by kernel_rfl) (by kernel_rfl) ?_
  refine ok_v (by kernel_rfl) ?_
  exact ok_nil
 replace hS:=SymF.fb hS hF [0,1,2] [⟨(p1 0).N,#[.bool g,.string s,.int .i64 x],23,true⟩,⟨(p1 1).N,#[.bool g2,.string s2,.int .i64 x2],23,true⟩,⟨(p10 2).N,#[.slice (p10 1).A (p10 1).N (p10 1).C],60,true⟩] (by kernel_rfl) (by kernel_rfl)
 replace hG:=hF.gx
 clear hF
 have z13:=hS.fr.size
 refine wp_ret ?_
 exact sym_end hS hK (.tuple #[.agg #[.bool g2,.string s2,.int .i64 x2],.int .i64 e2]) [(1,0,3)] [.bool g2,.string s2,.int .i64 x2] (by kernel_rfl) (by kernel_rfl) ⟨rfl,hS.fr⟩
theorem rcut_B_eq_u (w:World) (g:Bool) (s:ByteArray) (x pl c:Int) (md M N1:Nat) (t:ByteArray) (g2:Bool) (s2:ByteArray) (x2 e2:Int) (a:Nat) (hm:s.size≤65536) (_hx0:-1073741824≤x) (_hx1:x≤1073741824) (hc:pl - x = c) (hc0:0 < c) (hc1:c≤2147483648) (hk:c = (s.size:Int)) (ht:0 < s.size) (ha:∀ h:0 < s.size,(s[0]'h).toNat = a) (ha5:53≤a) (h5:(s.toList == (⟨#[53]⟩:ByteArray).toList) = true) (H1:Hid (∀ W:World,Calls Try.prog 51 #[.string ⟨#[]⟩] W fun en W'=>(∃ a n c,en = .returned (.agg #[.slice a n c])∧Mine W' W.heap.size a n c M)∧Below W.heap.size W W')) (H2:Hid (∀ W:World,Calls Try.prog 96 #[.bool g,.bool false,.int .i64 0,.int .u8 (md:Int)] W fun e W'=>e = .returned (.bool true)∧Below W.heap.size W W')) (HA:Hid (∀ (W:World) (a:Option Addr) (n c:Nat) (a':Option Addr) (n' c':Nat),Num W a n M→Num W a' n' 1→Calls Try.prog 54 #[.agg #[.slice a n c],.agg #[.slice a' n' c']] W fun en W'=>(∃ a n c,en = .returned (.tuple #[.agg #[.slice a n c],.int .i64 0])∧Mine W' W.heap.size a n c N1)∧Below W.heap.size W W')) (HT:Hid (∀ (W:World) (a:Option Addr) (n c:Nat),Num W a n N1→Calls Try.prog 56 #[.agg #[.slice a n c]] W fun en W'=>en = .returned (.tuple #[.string t,.int .i64 0])∧Below W.heap.size W W')) (HM:Hid (∀ W:World,Calls Try.prog 17 #[.bool g,.string t,.int .i64 pl] W fun e W'=>e = .returned (.tuple #[.agg #[.bool g2,.string s2,.int .i64 x2],.int .i64 e2])∧Below W.heap.size W W')) :
  Calls Try.prog 61 #[.agg #[.bool g,.string s,.int .i64 x],.int .i64 pl,.int .u8 (md:Int)] w fun en w'=>en = .returned (.tuple #[.agg #[.bool g2,.string s2,.int .i64 x2],.int .i64 e2])∧Below w.heap.size w w':=by
 have hix:script Try.prog 0 (Instr.index 9 (.string s) (.int .i64 0)) [] = some (.int .u8 (a:Int),[]):=script_index (j:=0) Try.under_str rfl ht (ha _)
 refine calls_sym Try.func61 rfl (by kernel_rfl) fun T hK=>?_
 replace hK:Kn T _ [(0,.agg #[.bool g,.string s,.int .i64 x]),(1,.int .i64 pl),(2,.int .u8 (md:Int))]:=hK
 have hS:=Fb.begin w
 have hG:GsAt [] w:=trivial
 refine wp_symQ hS hG hK (fun p1=>[.n 3 #[.bool g,.string s,.int .i64 x] 23,.n 6 #[.bool false,.string ⟨#[]⟩,.int .i64 0] 23,.v 7 (.int .i64 0)]) (fun p1=>[(1,.int .i64 pl),(2,.int .u8 (md:Int)),(3,.pointer (some ⟨(p1 0).N,0,none⟩)),(6,.pointer (some ⟨(p1 1).N,0,none⟩)),(7,.int .i64 0)]) (by kernel_rfl) (fun _ _=>by kernel_rfl) (fun _=>by kernel_rfl) (fun _=>by kernel_rfl) (fun p1=>?_) (fun p1 W1 T hF hK=>?_)
 ·iterate 2 refine ok_n (fun _=>by kernel_rfl) ?_
  refine ok_v (by kernel_rfl) ?_
  exact ok_nil
 replace hS:=SymF.fb hS hF [1000,1001] [⟨(p1 0).N,#[.bool g,.string s,.int .i64 x],23,true⟩,⟨(p1 1).N,#[.bool false,.string ⟨#[]⟩,.int .i64 0],23,true⟩] (by kernel_rfl) (by kernel_rfl)
 replace hG:=hF.gx
 clear hF
 have z1:=hS.fr.size
 refine wp_symQ hS hG hK (fun p2=>[.v 16 (.pointer (some ⟨(p1 0).N,1,none⟩)),.l 17 (.string s) 0 1,.v 18 (.int .i64 (s.size:Int)),.v 19 (.int .i64 pl),.v 20 (.pointer (some ⟨(p1 0).N,2,none⟩)),.l 21 (.int .i64 x) 0 2,.v 22 (.int .i64 c),.v 23 (.int .i64 0),.v 8 (.int .i64 0)]) (fun p2=>[(1,.int .i64 pl),(2,.int .u8 (md:Int)),(3,.pointer (some ⟨(p1 0).N,0,none⟩)),(6,.pointer (some ⟨(p1 1).N,0,none⟩)),(7,.int .i64 0),(8,.int .i64 0)]) (by kernel_rfl) (fun _ _=>by kernel_rfl) (fun _=>by kernel_rfl) (fun _=>by kernel_rfl) (fun p2=>?_) (fun p2 W2 T hF hK=>?_)
 ·refine ok_v (by kernel_rfl) ?_
  refine ok_L (by kernel_rfl) (by kernel_rfl) (by kernel_rfl) ?_
  iterate 3 refine ok_v (by kernel_rfl) ?_
  refine ok_L (by kernel_rfl) (by kernel_rfl) (by kernel_rfl) ?_
  refine ok_vi ((wr64 (x:=pl - x) (by omega) (by omega)).trans hc) (by kernel_rfl) ?_
  refine ok_vi ((wr64 (x:=(s.size:Int) - c) (by omega) (by omega)).trans (by omega)) (by kernel_rfl) ?_
  refine ok_v (by kernel_rfl) ?_
  exact ok_nil
 replace hS:=SymF.fb hS hF [0,1] [⟨(p1 0).N,#[.bool g,.string s,.int .i64 x],23,true⟩,⟨(p1 1).N,#[.bool false,.string ⟨#[]⟩,.int .i64 0],23,true⟩] (by kernel_rfl) (by kernel_rfl)
 replace hG:=hF.gx
 clear hF
 have z2:=hS.fr.size
 refine wp_symQ hS hG hK (fun p3=>[.v 24 (.pointer (some ⟨(p1 0).N,1,none⟩)),.l 25 (.string s) 0 1,.v 9 (.string { data:=#[] }),.v 10 (.string s)]) (fun p3=>[(1,.int .i64 pl),(2,.int .u8 (md:Int)),(3,.pointer (some ⟨(p1 0).N,0,none⟩)),(6,.pointer (some ⟨(p1 1).N,0,none⟩)),(7,.int .i64 0),(8,.int .i64 0),(9,.string { data:=#[] }),(10,.string s)]) (by kernel_rfl) (fun _ _=>by kernel_rfl) (fun _=>by kernel_rfl) (fun _=>by kernel_rfl) (fun p3=>?_) (fun p3 W3 T hF hK=>?_)
 ·refine ok_v (by kernel_rfl) ?_
  refine ok_L (by kernel_rfl) (by kernel_rfl) (by kernel_rfl) ?_
  iterate 2 refine ok_v (by kernel_rfl) ?_
  exact ok_nil
 replace hS:=SymF.fb hS hF [0,1] [⟨(p1 0).N,#[.bool g,.string s,.int .i64 x],23,true⟩,⟨(p1 1).N,#[.bool false,.string ⟨#[]⟩,.int .i64 0],23,true⟩] (by kernel_rfl) (by kernel_rfl)
 replace hG:=hF.gx
 clear hF
 have z3:=hS.fr.size
 refine wp_seq ?_
 refine wp_symQ hS hG hK (fun p4=>[.v 26 (.int .i64 0),.v 27 (.bool false)]) (fun p4=>[(1,.int .i64 pl),(2,.int .u8 (md:Int)),(3,.pointer (some ⟨(p1 0).N,0,none⟩)),(6,.pointer (some ⟨(p1 1).N,0,none⟩)),(7,.int .i64 0),(8,.int .i64 0),(9,.string { data:=#[] }),(10,.string s),(27,.bool false)]) (by kernel_rfl) (fun _ _=>by kernel_rfl) (fun _=>by kernel_rfl) (fun _=>by kernel_rfl) (fun p4=>?_) (fun p4 W4 T hF hK=>?_)
 ·refine ok_v (by kernel_rfl) ?_
  refine ok_vb (decide_eq_false (show ¬ 0 > 0 by omega)) (by kernel_rfl) ?_
  exact ok_nil
 replace hS:=SymF.fb hS hF [0,1] [⟨(p1 0).N,#[.bool g,.string s,.int .i64 x],23,true⟩,⟨(p1 1).N,#[.bool false,.string ⟨#[]⟩,.int .i64 0],23,true⟩] (by kernel_rfl) (by kernel_rfl)
 replace hG:=hF.gx
 clear hF
 have z4:=hS.fr.size
 refine wp_cond_false (hK.ev 27 (by kernel_rfl) _ (by kernel_rfl)) ?_
 refine wp_skip ?_
 refine then_n ?_
 refine wp_symQ hS hG hK (fun p5=>[.v 11 (.int .i64 (-1))]) (fun p5=>[(1,.int .i64 pl),(2,.int .u8 (md:Int)),(3,.pointer (some ⟨(p1 0).N,0,none⟩)),(6,.pointer (some ⟨(p1 1).N,0,none⟩)),(7,.int .i64 0),(8,.int .i64 0),(9,.string { data:=#[] }),(10,.string s),(11,.int .i64 (-1)),(27,.bool false)]) (by kernel_rfl) (fun _ _=>by kernel_rfl) (fun _=>by kernel_rfl) (fun _=>by kernel_rfl) (fun p5=>?_) (fun p5 W5 T hF hK=>?_)
 ·refine ok_v (by kernel_rfl) ?_
  exact ok_nil
 replace hS:=SymF.fb hS hF [0,1] [⟨(p1 0).N,#[.bool g,.string s,.int .i64 x],23,true⟩,⟨(p1 1).N,#[.bool false,.string ⟨#[]⟩,.int .i64 0],23,true⟩] (by kernel_rfl) (by kernel_rfl)
 replace hG:=hF.gx
 clear hF
 have z5:=hS.fr.size
 refine wp_seq ?_
 refine wp_symQ hS hG hK (fun p6=>[.v 36 (.int .i64 0),.v 37 (.bool true),.v 38 (.bool true),.v 39 (.string s),.v 40 (.int .u8 (a:Int)),.v 41 (.bool true),.v 42 (.bool true)]) (fun p6=>[(1,.int .i64 pl),(2,.int .u8 (md:Int)),(3,.pointer (some ⟨(p1 0).N,0,none⟩)),(6,.pointer (some ⟨(p1 1).N,0,none⟩)),(7,.int .i64 0),(8,.int .i64 0),(9,.string { data:=#[] }),(10,.string s),(11,.int .i64 (-1)),(27,.bool false),(42,.bool true)]) (by kernel_rfl) (fun _ _=>by kernel_rfl) (fun _=>by kernel_rfl) (fun _=>by kernel_rfl) (fun p6=>?_) (fun p6 W6 T hF hK=>?_)
 ·refine ok_v (by kernel_rfl) ?_
  refine ok_vb (decide_eq_true (show 0 ≥ 0 by omega)) (by kernel_rfl) ?_
  iterate 2 refine ok_v (by kernel_rfl) ?_
  refine ok_vr (hix) (by kernel_rfl) ?_
  refine ok_vb (decide_eq_true (show (a:Int) ≥ 53 by omega)) (by kernel_rfl) ?_
  refine ok_v (by kernel_rfl) ?_
  exact ok_nil
 replace hS:=SymF.fb hS hF [0,1] [⟨(p1 0).N,#[.bool g,.string s,.int .i64 x],23,true⟩,⟨(p1 1).N,#[.bool false,.string ⟨#[]⟩,.int .i64 0],23,true⟩] (by kernel_rfl) (by kernel_rfl)
 replace hG:=hF.gx
 clear hF
 have z6:=hS.fr.size
 refine wp_cond_true (hK.ev 42 (by kernel_rfl) _ (by kernel_rfl)) ?_
 refine wp_symQ hS hG hK (fun p7=>[.v 11 (.int .i64 1)]) (fun p7=>[(1,.int .i64 pl),(2,.int .u8 (md:Int)),(3,.pointer (some ⟨(p1 0).N,0,none⟩)),(6,.pointer (some ⟨(p1 1).N,0,none⟩)),(7,.int .i64 0),(8,.int .i64 0),(9,.string { data:=#[] }),(10,.string s),(11,.int .i64 1),(27,.bool false),(42,.bool true)]) (by kernel_rfl) (fun _ _=>by kernel_rfl) (fun _=>by kernel_rfl) (fun _=>by kernel_rfl) (fun p7=>?_) (fun p7 W7 T hF hK=>?_)
 ·refine ok_v (by kernel_rfl) ?_
  exact ok_nil
 replace hS:=SymF.fb hS hF [0,1] [⟨(p1 0).N,#[.bool g,.string s,.int .i64 x],23,true⟩,⟨(p1 1).N,#[.bool false,.string ⟨#[]⟩,.int .i64 0],23,true⟩] (by kernel_rfl) (by kernel_rfl)
 replace hG:=hF.gx
 clear hF
 have z7:=hS.fr.size
 refine wp_symQ hS hG hK (fun p8=>[.v 43 (.string s),.v 44 (.bool true)]) (fun p8=>[(1,.int .i64 pl),(2,.int .u8 (md:Int)),(3,.pointer (some ⟨(p1 0).N,0,none⟩)),(6,.pointer (some ⟨(p1 1).N,0,none⟩)),(7,.int .i64 0),(8,.int .i64 0),(9,.string { data:=#[] }),(11,.int .i64 1),(27,.bool false),(42,.bool true),(44,.bool true)]) (by kernel_rfl) (fun _ _=>by kernel_rfl) (fun _=>by kernel_rfl) (fun _=>by kernel_rfl) (fun p8=>?_) (fun p8 W8 T hF hK=>?_)
 ·refine ok_v (by kernel_rfl) ?_
  refine ok_vb (h5) (by kernel_rfl) ?_
  exact ok_nil
 replace hS:=SymF.fb hS hF [0,1] [⟨(p1 0).N,#[.bool g,.string s,.int .i64 x],23,true⟩,⟨(p1 1).N,#[.bool false,.string ⟨#[]⟩,.int .i64 0],23,true⟩] (by kernel_rfl) (by kernel_rfl)
 replace hG:=hF.gx
 clear hF
 have z8:=hS.fr.size
 refine wp_cond_true (hK.ev 44 (by kernel_rfl) _ (by kernel_rfl)) ?_
 refine wp_symG hS hG hK (fun p9=>[.v 11 (.int .i64 0)]) (fun p9=>[(1,.int .i64 pl),(2,.int .u8 (md:Int)),(3,.pointer (some ⟨(p1 0).N,0,none⟩)),(6,.pointer (some ⟨(p1 1).N,0,none⟩)),(7,.int .i64 0),(8,.int .i64 0),(9,.string { data:=#[] }),(11,.int .i64 0),(27,.bool false),(42,.bool true),(44,.bool true)]) (by kernel_rfl) (fun _ _=>by kernel_rfl) (fun _=>by kernel_rfl) (fun _=>by kernel_rfl) (fun p9=>?_) (fun p9 W9 T hF hK=>?_)
 ·refine ok_v (by kernel_rfl) ?_
  exact ok_nil
 replace hS:=SymF.fb hS hF [0,1] [⟨(p1 0).N,#[.bool g,.string s,.int .i64 x],23,true⟩,⟨(p1 1).N,#[.bool false,.string ⟨#[]⟩,.int .i64 0],23,true⟩] (by kernel_rfl) (by kernel_rfl)
 replace hG:=hF.gx
 clear hF
 have z9:=hS.fr.size
 refine then_n ?_
 refine wp_symQ hS hG hK (fun p10=>[.v 45 (.string { data:=#[] }),.v 46 (.int .i64 0),.v 47 (.bool false),.v 48 (.bool false),.k (some 49),.k (some 50),.k (some 51),.k (some 52),.k (some 53),.k (some 54),.k (some 55),.v 56 (.bool false),.v 12 (.bool false)]) (fun p10=>[(1,.int .i64 pl),(2,.int .u8 (md:Int)),(3,.pointer (some ⟨(p1 0).N,0,none⟩)),(6,.pointer (some ⟨(p1 1).N,0,none⟩)),(7,.int .i64 0),(8,.int .i64 0),(9,.string { data:=#[] }),(11,.int .i64 0),(12,.bool false),(27,.bool false),(42,.bool true),(44,.bool true)]) (by kernel_rfl) (fun _ _=>by kernel_rfl) (fun _=>by kernel_rfl) (fun _=>by kernel_rfl) (fun p10=>?_) (fun p10 W10 T hF hK=>?_)
 ·iterate 4 refine ok_v (by kernel_rfl) ?_
  iterate 7 refine ok_K (by kernel_rfl) ?_
  iterate 2 refine ok_v (by kernel_rfl) ?_
  exact ok_nil
 replace hS:=SymF.fb hS hF [0,1] [⟨(p1 0).N,#[.bool g,.string s,.int .i64 x],23,true⟩,⟨(p1 1).N,#[.bool false,.string ⟨#[]⟩,.int .i64 0],23,true⟩] (by kernel_rfl) (by kernel_rfl)
 replace hG:=hF.gx
 clear hF
 have z10:=hS.fr.size
 refine wp_symQ hS hG hK (fun p11=>[.v 57 (.string { data:=#[] }),.c (some 58) (cN W10.heap.size M),.n 13 #[.slice none 0 0] 60,.p 1002 0 [.slice (p11 1).A (p11 1).N (p11 1).C]]) (fun p11=>[(1,.int .i64 pl),(2,.int .u8 (md:Int)),(3,.pointer (some ⟨(p1 0).N,0,none⟩)),(6,.pointer (some ⟨(p1 1).N,0,none⟩)),(7,.int .i64 0),(8,.int .i64 0),(11,.int .i64 0),(12,.bool false),(13,.pointer (some ⟨(p11 2).N,0,none⟩)),(27,.bool false),(42,.bool true),(44,.bool true)]) (by kernel_rfl) (fun _ _=>by kernel_rfl) (fun _=>by kernel_rfl) (fun _=>by kernel_rfl) (fun p11=>?_) (fun p11 W11 T hF hK=>?_)
 ·refine ok_v (by kernel_rfl) ?_
  refine ok_c (fun W cx=>as_n cx.hb (unhide H1 _)) (by kernel_rfl) ?_
  refine ok_n (fun _=>by kernel_rfl) ?_
  refine ok_P (by kernel_rfl) (by kernel_rfl) (by kernel_rfl) ?_
  exact ok_nil
 replace hS:=SymF.fb hS hF [0,1,1002] [⟨(p1 0).N,#[.bool g,.string s,.int .i64 x],23,true⟩,⟨(p1 1).N,#[.bool false,.string ⟨#[]⟩,.int .i64 0],23,true⟩,⟨(p11 2).N,#[.slice (p11 1).A (p11 1).N (p11 1).C],60,true⟩] (by kernel_rfl) (by kernel_rfl)
 replace hG:GsAt (gM W10.heap.size (p11 1).A (p11 1).N (p11 1).C M :: _) W11:=⟨hF.fx 1,hF.gx⟩
 clear hF
 have z11:=hS.fr.size
 refine wp_seq ?_
 refine wp_symQ hS hG hK (fun p12=>[.v 59 (.pointer (some ⟨(p1 0).N,0,none⟩)),.l 60 (.bool g) 0 0,.v 61 (.bool false),.v 62 (.int .i64 0),.v 63 (.int .u8 (md:Int)),.c (some 64) (cV (.bool true))]) (fun p12=>[(1,.int .i64 pl),(3,.pointer (some ⟨(p1 0).N,0,none⟩)),(6,.pointer (some ⟨(p1 1).N,0,none⟩)),(7,.int .i64 0),(8,.int .i64 0),(13,.pointer (some ⟨(p11 2).N,0,none⟩)),(27,.bool false),(42,.bool true),(44,.bool true),(64,.bool true)]) (by kernel_rfl) (fun _ _=>by kernel_rfl) (fun _=>by kernel_rfl) (fun _=>by kernel_rfl) (fun p12=>?_) (fun p12 W12 T hF hK=>?_)
 ·refine ok_v (by kernel_rfl) ?_
  refine ok_L (by kernel_rfl) (by kernel_rfl) (by kernel_rfl) ?_
  iterate 3 refine ok_v (by kernel_rfl) ?_
  refine ok_c (fun W cx=>as_v (unhide H2 _)) (by kernel_rfl) ?_
  exact ok_nil
 replace hS:=SymF.fb hS hF [0,1,2] [⟨(p1 0).N,#[.bool g,.string s,.int .i64 x],23,true⟩,⟨(p1 1).N,#[.bool false,.string ⟨#[]⟩,.int .i64 0],23,true⟩,⟨(p11 2).N,#[.slice (p11 1).A (p11 1).N (p11 1).C],60,true⟩] (by kernel_rfl) (by kernel_rfl)
 replace hG:=hF.gx
 clear hF
 have z12:=hS.fr.size
 refine wp_cond_true (hK.ev 64 (by kernel_rfl) _ (by kernel_rfl)) ?_
 refine wp_symG hS hG hK (fun p13=>[.l 66 (.agg #[.slice (p11 1).A (p11 1).N (p11 1).C]) 2 0,.c (some 67) (cN W12.heap.size 1),.c (some 68) (cO W12.heap.size N1),.v 65 (.tuple #[.agg #[.slice (p13 2).A (p13 2).N (p13 2).C],.int .i64 0]),.v 69 (.agg #[.slice (p13 2).A (p13 2).N (p13 2).C]),.v 70 (.int .i64 0),.p 2 0 [.slice (p13 2).A (p13 2).N (p13 2).C]]) (fun p13=>[(1,.int .i64 pl),(3,.pointer (some ⟨(p1 0).N,0,none⟩)),(6,.pointer (some ⟨(p1 1).N,0,none⟩)),(7,.int .i64 0),(8,.int .i64 0),(13,.pointer (some ⟨(p11 2).N,0,none⟩)),(27,.bool false),(42,.bool true),(44,.bool true),(64,.bool true)]) (by kernel_rfl) (fun _ _=>by kernel_rfl) (fun _=>by kernel_rfl) (fun _=>by kernel_rfl) (fun p13=>?_) (fun p13 W13 T hF hK=>?_)
 ·refine ok_L (by kernel_rfl) (by kernel_rfl) (by kernel_rfl) ?_
  refine ok_c (fun W cx=>as_n cx.hb (rof_any 1 _ (by decide))) (by kernel_rfl) ?_
  refine ok_c (fun W cx=>as_o cx.hb (unhide HA _ _ _ (p11 1).C _ _ (p13 1).C (Mine.num cx.G.1) (Mine.num (cx.F 1 (by kernel_rfl))))) (by kernel_rfl) ?_
  iterate 3 refine ok_v (by kernel_rfl) ?_
  refine ok_P (by kernel_rfl) (by kernel_rfl) (by kernel_rfl) ?_
  exact ok_nil
 replace hS:=SymF.fb hS hF [0,1,2] [⟨(p1 0).N,#[.bool g,.string s,.int .i64 x],23,true⟩,⟨(p1 1).N,#[.bool false,.string ⟨#[]⟩,.int .i64 0],23,true⟩,⟨(p11 2).N,#[.slice (p13 2).A (p13 2).N (p13 2).C],60,true⟩] (by kernel_rfl) (by kernel_rfl)
 replace hG:GsAt (gM W12.heap.size (p13 1).A (p13 1).N (p13 1).C 1 :: gM W12.heap.size (p13 2).A (p13 2).N (p13 2).C N1 :: _) W13:=⟨hF.fx 1,hF.fx 2,hF.gx⟩
 clear hF
 have z13:=hS.fr.size
 refine then_n ?_
 refine wp_symQ hS hG hK (fun p14=>[.l 72 (.agg #[.slice (p13 2).A (p13 2).N (p13 2).C]) 2 0,.c (some 73) (cV (.tuple #[.string t,.int .i64 0])),.v 71 (.tuple #[.string t,.int .i64 0]),.v 74 (.string t),.v 75 (.int .i64 0),.v 14 (.string t),.v 15 (.int .i64 0)]) (fun p14=>[(1,.int .i64 pl),(3,.pointer (some ⟨(p1 0).N,0,none⟩)),(6,.pointer (some ⟨(p1 1).N,0,none⟩)),(7,.int .i64 0),(8,.int .i64 0),(14,.string t),(27,.bool false),(42,.bool true),(44,.bool true),(64,.bool true)]) (by kernel_rfl) (fun _ _=>by kernel_rfl) (fun _=>by kernel_rfl) (fun _=>by kernel_rfl) (fun p14=>?_) (fun p14 W14 T hF hK=>?_)
 ·refine ok_L (by kernel_rfl) (by kernel_rfl) (by kernel_rfl) ?_
  refine ok_c (fun W cx=>as_v (unhide HT _ _ _ (p13 2).C (Mine.num cx.G.2.1))) (by kernel_rfl) ?_
  iterate 5 refine ok_v (by kernel_rfl) ?_
  exact ok_nil
 replace hS:=SymF.fb hS hF [0,1] [⟨(p1 0).N,#[.bool g,.string s,.int .i64 x],23,true⟩,⟨(p1 1).N,#[.bool false,.string ⟨#[]⟩,.int .i64 0],23,true⟩] (by kernel_rfl) (by kernel_rfl)
 replace hG:=hF.gx
 clear hF
 have z14:=hS.fr.size
 refine wp_symQ hS hG hK (fun p15=>[.v 76 (.pointer (some ⟨(p1 0).N,0,none⟩)),.l 77 (.bool g) 0 0,.v 78 (.string t),.v 79 (.int .i64 pl),.c (some 80) (cV (.tuple #[.agg #[.bool g2,.string s2,.int .i64 x2],.int .i64 e2])),.v 81 (.agg #[.bool g2,.string s2,.int .i64 x2]),.v 82 (.int .i64 e2),.p 1 0 [.bool g2,.string s2,.int .i64 x2],.v 7 (.int .i64 e2)]) (fun p15=>[(3,.pointer (some ⟨(p1 0).N,0,none⟩)),(6,.pointer (some ⟨(p1 1).N,0,none⟩)),(7,.int .i64 e2),(8,.int .i64 0),(27,.bool false),(42,.bool true),(44,.bool true),(64,.bool true)]) (by kernel_rfl) (fun _ _=>by kernel_rfl) (fun _=>by kernel_rfl) (fun _=>by kernel_rfl) (fun p15=>?_) (fun p15 W15 T hF hK=>?_)
 ·refine ok_v (by kernel_rfl) ?_
  refine ok_L (by kernel_rfl) (by kernel_rfl) (by kernel_rfl) ?_
  iterate 2 refine ok_v (by kernel_rfl) ?_
  refine ok_c (fun W cx=>as_v (unhide HM _)) (by kernel_rfl) ?_
  iterate 2 refine ok_v (by kernel_rfl) ?_
  refine ok_P (by kernel_rfl) (by kernel_rfl) (by kernel_rfl) ?_
  refine ok_v (by kernel_rfl) ?_
  exact ok_nil
 replace hS:=SymF.fb hS hF [0,1] [⟨(p1 0).N,#[.bool g,.string s,.int .i64 x],23,true⟩,⟨(p1 1).N,#[.bool g2,.string s2,.int .i64 x2],23,true⟩] (by kernel_rfl) (by kernel_rfl)
 replace hG:=hF.gx
 clear hF
 have z15:=hS.fr.size
 refine wp_ret ?_
 exact sym_end hS hK (.tuple #[.agg #[.bool g2,.string s2,.int .i64 x2],.int .i64 e2]) [(1,0,3)] [.bool g2,.string s2,.int .i64 x2] (by kernel_rfl) (by kernel_rfl) ⟨rfl,hS.fr⟩
theorem rcut_B_eq_n (w:World) (g:Bool) (s:ByteArray) (x pl c:Int) (md M:Nat) (t:ByteArray) (g2:Bool) (s2:ByteArray) (x2 e2:Int) (a:Nat) (hm:s.size≤65536) (_hx0:-1073741824≤x) (_hx1:x≤1073741824) (hc:pl - x = c) (hc0:0 < c) (hc1:c≤2147483648) (hk:c = (s.size:Int)) (ht:0 < s.size) (ha:∀ h:0 < s.size,(s[0]'h).toNat = a) (ha5:53≤a) (h5:(s.toList == (⟨#[53]⟩:ByteArray).toList) = true) (H1:Hid (∀ W:World,Calls Try.prog 51 #[.string ⟨#[]⟩] W fun en W'=>(∃ a n c,en = .returned (.agg #[.slice a n c])∧Mine W' W.heap.size a n c M)∧Below W.heap.size W W')) (H2:Hid (∀ W:World,Calls Try.prog 96 #[.bool g,.bool false,.int .i64 0,.int .u8 (md:Int)] W fun e W'=>e = .returned (.bool false)∧Below W.heap.size W W')) (HT:Hid (∀ (W:World) (a:Option Addr) (n c:Nat),Num W a n M→Calls Try.prog 56 #[.agg #[.slice a n c]] W fun en W'=>en = .returned (.tuple #[.string t,.int .i64 0])∧Below W.heap.size W W')) (HM:Hid (∀ W:World,Calls Try.prog 17 #[.bool g,.string t,.int .i64 pl] W fun e W'=>e = .returned (.tuple #[.agg #[.bool g2,.string s2,.int .i64 x2],.int .i64 e2])∧Below W.heap.size W W')) :
  Calls Try.prog 61 #[.agg #[.bool g,.string s,.int .i64 x],.int .i64 pl,.int .u8 (md:Int)] w fun en w'=>en = .returned (.tuple #[.agg #[.bool g2,.string s2,.int .i64 x2],.int .i64 e2])∧Below w.heap.size w w':=by
 have hix:script Try.prog 0 (Instr.index 9 (.string s) (.int .i64 0)) [] = some (.int .u8 (a:Int),[]):=script_index (j:=0) Try.under_str rfl ht (ha _)
 refine calls_sym Try.func61 rfl (by kernel_rfl) fun T hK=>?_
 replace hK:Kn T _ [(0,.agg #[.bool g,.string s,.int .i64 x]),(1,.int .i64 pl),(2,.int .u8 (md:Int))]:=hK
 have hS:=Fb.begin w
 have hG:GsAt [] w:=trivial
 refine wp_symQ hS hG hK (fun p1=>[.n 3 #[.bool g,.string s,.int .i64 x] 23,.n 6 #[.bool false,.string ⟨#[]⟩,.int .i64 0] 23,.v 7 (.int .i64 0)]) (fun p1=>[(1,.int .i64 pl),(2,.int .u8 (md:Int)),(3,.pointer (some ⟨(p1 0).N,0,none⟩)),(6,.pointer (some ⟨(p1 1).N,0,none⟩)),(7,.int .i64 0)]) (by kernel_rfl) (fun _ _=>by kernel_rfl) (fun _=>by kernel_rfl) (fun _=>by kernel_rfl) (fun p1=>?_) (fun p1 W1 T hF hK=>?_)
 ·iterate 2 refine ok_n (fun _=>by kernel_rfl) ?_
  refine ok_v (by kernel_rfl) ?_
  exact ok_nil
 replace hS:=SymF.fb hS hF [1000,1001] [⟨(p1 0).N,#[.bool g,.string s,.int .i64 x],23,true⟩,⟨(p1 1).N,#[.bool false,.string ⟨#[]⟩,.int .i64 0],23,true⟩] (by kernel_rfl) (by kernel_rfl)
 replace hG:=hF.gx
 clear hF
 have z1:=hS.fr.size
 refine wp_symQ hS hG hK (fun p2=>[.v 16 (.pointer (some ⟨(p1 0).N,1,none⟩)),.l 17 (.string s) 0 1,.v 18 (.int .i64 (s.size:Int)),.v 19 (.int .i64 pl),.v 20 (.pointer (some ⟨(p1 0).N,2,none⟩)),.l 21 (.int .i64 x) 0 2,.v 22 (.int .i64 c),.v 23 (.int .i64 0),.v 8 (.int .i64 0)]) (fun p2=>[(1,.int .i64 pl),(2,.int .u8 (md:Int)),(3,.pointer (some ⟨(p1 0).N,0,none⟩)),(6,.pointer (some ⟨(p1 1).N,0,none⟩)),(7,.int .i64 0),(8,.int .i64 0)]) (by kernel_rfl) (fun _ _=>by kernel_rfl) (fun _=>by kernel_rfl) (fun _=>by kernel_rfl) (fun p2=>?_) (fun p2 W2 T hF hK=>?_)
 ·refine ok_v (by kernel_rfl) ?_
  refine ok_L (by kernel_rfl) (by kernel_rfl) (by kernel_rfl) ?_
  iterate 3 refine ok_v (by kernel_rfl) ?_
  refine ok_L (by kernel_rfl) (by kernel_rfl) (by kernel_rfl) ?_
  refine ok_vi ((wr64 (x:=pl - x) (by omega) (by omega)).trans hc) (by kernel_rfl) ?_
  refine ok_vi ((wr64 (x:=(s.size:Int) - c) (by omega) (by omega)).trans (by omega)) (by kernel_rfl) ?_
  refine ok_v (by kernel_rfl) ?_
  exact ok_nil
 replace hS:=SymF.fb hS hF [0,1] [⟨(p1 0).N,#[.bool g,.string s,.int .i64 x],23,true⟩,⟨(p1 1).N,#[.bool false,.string ⟨#[]⟩,.int .i64 0],23,true⟩] (by kernel_rfl) (by kernel_rfl)
 replace hG:=hF.gx
 clear hF
 have z2:=hS.fr.size
 refine wp_symQ hS hG hK (fun p3=>[.v 24 (.pointer (some ⟨(p1 0).N,1,none⟩)),.l 25 (.string s) 0 1,.v 9 (.string { data:=#[] }),.v 10 (.string s)]) (fun p3=>[(1,.int .i64 pl),(2,.int .u8 (md:Int)),(3,.pointer (some ⟨(p1 0).N,0,none⟩)),(6,.pointer (some ⟨(p1 1).N,0,none⟩)),(7,.int .i64 0),(8,.int .i64 0),(9,.string { data:=#[] }),(10,.string s)]) (by kernel_rfl) (fun _ _=>by kernel_rfl) (fun _=>by kernel_rfl) (fun _=>by kernel_rfl) (fun p3=>?_) (fun p3 W3 T hF hK=>?_)
 ·refine ok_v (by kernel_rfl) ?_
  refine ok_L (by kernel_rfl) (by kernel_rfl) (by kernel_rfl) ?_
  iterate 2 refine ok_v (by kernel_rfl) ?_
  exact ok_nil
 replace hS:=SymF.fb hS hF [0,1] [⟨(p1 0).N,#[.bool g,.string s,.int .i64 x],23,true⟩,⟨(p1 1).N,#[.bool false,.string ⟨#[]⟩,.int .i64 0],23,true⟩] (by kernel_rfl) (by kernel_rfl)
 replace hG:=hF.gx
 clear hF
 have z3:=hS.fr.size
 refine wp_seq ?_
 refine wp_symQ hS hG hK (fun p4=>[.v 26 (.int .i64 0),.v 27 (.bool false)]) (fun p4=>[(1,.int .i64 pl),(2,.int .u8 (md:Int)),(3,.pointer (some ⟨(p1 0).N,0,none⟩)),(6,.pointer (some ⟨(p1 1).N,0,none⟩)),(7,.int .i64 0),(8,.int .i64 0),(9,.string { data:=#[] }),(10,.string s),(27,.bool false)]) (by kernel_rfl) (fun _ _=>by kernel_rfl) (fun _=>by kernel_rfl) (fun _=>by kernel_rfl) (fun p4=>?_) (fun p4 W4 T hF hK=>?_)
 ·refine ok_v (by kernel_rfl) ?_
  refine ok_vb (decide_eq_false (show ¬ 0 > 0 by omega)) (by kernel_rfl) ?_
  exact ok_nil
 replace hS:=SymF.fb hS hF [0,1] [⟨(p1 0).N,#[.bool g,.string s,.int .i64 x],23,true⟩,⟨(p1 1).N,#[.bool false,.string ⟨#[]⟩,.int .i64 0],23,true⟩] (by kernel_rfl) (by kernel_rfl)
 replace hG:=hF.gx
 clear hF
 have z4:=hS.fr.size
 refine wp_cond_false (hK.ev 27 (by kernel_rfl) _ (by kernel_rfl)) ?_
 refine wp_skip ?_
 refine then_n ?_
 refine wp_symQ hS hG hK (fun p5=>[.v 11 (.int .i64 (-1))]) (fun p5=>[(1,.int .i64 pl),(2,.int .u8 (md:Int)),(3,.pointer (some ⟨(p1 0).N,0,none⟩)),(6,.pointer (some ⟨(p1 1).N,0,none⟩)),(7,.int .i64 0),(8,.int .i64 0),(9,.string { data:=#[] }),(10,.string s),(11,.int .i64 (-1)),(27,.bool false)]) (by kernel_rfl) (fun _ _=>by kernel_rfl) (fun _=>by kernel_rfl) (fun _=>by kernel_rfl) (fun p5=>?_) (fun p5 W5 T hF hK=>?_)
 ·refine ok_v (by kernel_rfl) ?_
  exact ok_nil
 replace hS:=SymF.fb hS hF [0,1] [⟨(p1 0).N,#[.bool g,.string s,.int .i64 x],23,true⟩,⟨(p1 1).N,#[.bool false,.string ⟨#[]⟩,.int .i64 0],23,true⟩] (by kernel_rfl) (by kernel_rfl)
 replace hG:=hF.gx
 clear hF
 have z5:=hS.fr.size
 refine wp_seq ?_
 refine wp_symQ hS hG hK (fun p6=>[.v 36 (.int .i64 0),.v 37 (.bool true),.v 38 (.bool true),.v 39 (.string s),.v 40 (.int .u8 (a:Int)),.v 41 (.bool true),.v 42 (.bool true)]) (fun p6=>[(1,.int .i64 pl),(2,.int .u8 (md:Int)),(3,.pointer (some ⟨(p1 0).N,0,none⟩)),(6,.pointer (some ⟨(p1 1).N,0,none⟩)),(7,.int .i64 0),(8,.int .i64 0),(9,.string { data:=#[] }),(10,.string s),(11,.int .i64 (-1)),(27,.bool false),(42,.bool true)]) (by kernel_rfl) (fun _ _=>by kernel_rfl) (fun _=>by kernel_rfl) (fun _=>by kernel_rfl) (fun p6=>?_) (fun p6 W6 T hF hK=>?_)
 ·refine ok_v (by kernel_rfl) ?_
  refine ok_vb (decide_eq_true (show 0 ≥ 0 by omega)) (by kernel_rfl) ?_
  iterate 2 refine ok_v (by kernel_rfl) ?_
  refine ok_vr (hix) (by kernel_rfl) ?_
  refine ok_vb (decide_eq_true (show (a:Int) ≥ 53 by omega)) (by kernel_rfl) ?_
  refine ok_v (by kernel_rfl) ?_
  exact ok_nil
 replace hS:=SymF.fb hS hF [0,1] [⟨(p1 0).N,#[.bool g,.string s,.int .i64 x],23,true⟩,⟨(p1 1).N,#[.bool false,.string ⟨#[]⟩,.int .i64 0],23,true⟩] (by kernel_rfl) (by kernel_rfl)
 replace hG:=hF.gx
 clear hF
 have z6:=hS.fr.size
 refine wp_cond_true (hK.ev 42 (by kernel_rfl) _ (by kernel_rfl)) ?_
 refine wp_symQ hS hG hK (fun p7=>[.v 11 (.int .i64 1)]) (fun p7=>[(1,.int .i64 pl),(2,.int .u8 (md:Int)),(3,.pointer (some ⟨(p1 0).N,0,none⟩)),(6,.pointer (some ⟨(p1 1).N,0,none⟩)),(7,.int .i64 0),(8,.int .i64 0),(9,.string { data:=#[] }),(10,.string s),(11,.int .i64 1),(27,.bool false),(42,.bool true)]) (by kernel_rfl) (fun _ _=>by kernel_rfl) (fun _=>by kernel_rfl) (fun _=>by kernel_rfl) (fun p7=>?_) (fun p7 W7 T hF hK=>?_)
 ·refine ok_v (by kernel_rfl) ?_
  exact ok_nil
 replace hS:=SymF.fb hS hF [0,1] [⟨(p1 0).N,#[.bool g,.string s,.int .i64 x],23,true⟩,⟨(p1 1).N,#[.bool false,.string ⟨#[]⟩,.int .i64 0],23,true⟩] (by kernel_rfl) (by kernel_rfl)
 replace hG:=hF.gx
 clear hF
 have z7:=hS.fr.size
 refine wp_symQ hS hG hK (fun p8=>[.v 43 (.string s),.v 44 (.bool true)]) (fun p8=>[(1,.int .i64 pl),(2,.int .u8 (md:Int)),(3,.pointer (some ⟨(p1 0).N,0,none⟩)),(6,.pointer (some ⟨(p1 1).N,0,none⟩)),(7,.int .i64 0),(8,.int .i64 0),(9,.string { data:=#[] }),(11,.int .i64 1),(27,.bool false),(42,.bool true),(44,.bool true)]) (by kernel_rfl) (fun _ _=>by kernel_rfl) (fun _=>by kernel_rfl) (fun _=>by kernel_rfl) (fun p8=>?_) (fun p8 W8 T hF hK=>?_)
 ·refine ok_v (by kernel_rfl) ?_
  refine ok_vb (h5) (by kernel_rfl) ?_
  exact ok_nil
 replace hS:=SymF.fb hS hF [0,1] [⟨(p1 0).N,#[.bool g,.string s,.int .i64 x],23,true⟩,⟨(p1 1).N,#[.bool false,.string ⟨#[]⟩,.int .i64 0],23,true⟩] (by kernel_rfl) (by kernel_rfl)
 replace hG:=hF.gx
 clear hF
 have z8:=hS.fr.size
 refine wp_cond_true (hK.ev 44 (by kernel_rfl) _ (by kernel_rfl)) ?_
 refine wp_symG hS hG hK (fun p9=>[.v 11 (.int .i64 0)]) (fun p9=>[(1,.int .i64 pl),(2,.int .u8 (md:Int)),(3,.pointer (some ⟨(p1 0).N,0,none⟩)),(6,.pointer (some ⟨(p1 1).N,0,none⟩)),(7,.int .i64 0),(8,.int .i64 0),(9,.string { data:=#[] }),(11,.int .i64 0),(27,.bool false),(42,.bool true),(44,.bool true)]) (by kernel_rfl) (fun _ _=>by kernel_rfl) (fun _=>by kernel_rfl) (fun _=>by kernel_rfl) (fun p9=>?_) (fun p9 W9 T hF hK=>?_)
 ·refine ok_v (by kernel_rfl) ?_
  exact ok_nil
 replace hS:=SymF.fb hS hF [0,1] [⟨(p1 0).N,#[.bool g,.string s,.int .i64 x],23,true⟩,⟨(p1 1).N,#[.bool false,.string ⟨#[]⟩,.int .i64 0],23,true⟩] (by kernel_rfl) (by kernel_rfl)
 replace hG:=hF.gx
 clear hF
 have z9:=hS.fr.size
 refine then_n ?_
 refine wp_symQ hS hG hK (fun p10=>[.v 45 (.string { data:=#[] }),.v 46 (.int .i64 0),.v 47 (.bool false),.v 48 (.bool false),.k (some 49),.k (some 50),.k (some 51),.k (some 52),.k (some 53),.k (some 54),.k (some 55),.v 56 (.bool false),.v 12 (.bool false)]) (fun p10=>[(1,.int .i64 pl),(2,.int .u8 (md:Int)),(3,.pointer (some ⟨(p1 0).N,0,none⟩)),(6,.pointer (some ⟨(p1 1).N,0,none⟩)),(7,.int .i64 0),(8,.int .i64 0),(9,.string { data:=#[] }),(11,.int .i64 0),(12,.bool false),(27,.bool false),(42,.bool true),(44,.bool true)]) (by kernel_rfl) (fun _ _=>by kernel_rfl) (fun _=>by kernel_rfl) (fun _=>by kernel_rfl) (fun p10=>?_) (fun p10 W10 T hF hK=>?_)
 ·iterate 4 refine ok_v (by kernel_rfl) ?_
  iterate 7 refine ok_K (by kernel_rfl) ?_
  iterate 2 refine ok_v (by kernel_rfl) ?_
  exact ok_nil
 replace hS:=SymF.fb hS hF [0,1] [⟨(p1 0).N,#[.bool g,.string s,.int .i64 x],23,true⟩,⟨(p1 1).N,#[.bool false,.string ⟨#[]⟩,.int .i64 0],23,true⟩] (by kernel_rfl) (by kernel_rfl)
 replace hG:=hF.gx
 clear hF
 have z10:=hS.fr.size
 refine wp_symQ hS hG hK (fun p11=>[.v 57 (.string { data:=#[] }),.c (some 58) (cN W10.heap.size M),.n 13 #[.slice none 0 0] 60,.p 1002 0 [.slice (p11 1).A (p11 1).N (p11 1).C]]) (fun p11=>[(1,.int .i64 pl),(2,.int .u8 (md:Int)),(3,.pointer (some ⟨(p1 0).N,0,none⟩)),(6,.pointer (some ⟨(p1 1).N,0,none⟩)),(7,.int .i64 0),(8,.int .i64 0),(11,.int .i64 0),(12,.bool false),(13,.pointer (some ⟨(p11 2).N,0,none⟩)),(27,.bool false),(42,.bool true),(44,.bool true)]) (by kernel_rfl) (fun _ _=>by kernel_rfl) (fun _=>by kernel_rfl) (fun _=>by kernel_rfl) (fun p11=>?_) (fun p11 W11 T hF hK=>?_)
 ·refine ok_v (by kernel_rfl) ?_
  refine ok_c (fun W cx=>as_n cx.hb (unhide H1 _)) (by kernel_rfl) ?_
  refine ok_n (fun _=>by kernel_rfl) ?_
  refine ok_P (by kernel_rfl) (by kernel_rfl) (by kernel_rfl) ?_
  exact ok_nil
 replace hS:=SymF.fb hS hF [0,1,1002] [⟨(p1 0).N,#[.bool g,.string s,.int .i64 x],23,true⟩,⟨(p1 1).N,#[.bool false,.string ⟨#[]⟩,.int .i64 0],23,true⟩,⟨(p11 2).N,#[.slice (p11 1).A (p11 1).N (p11 1).C],60,true⟩] (by kernel_rfl) (by kernel_rfl)
 replace hG:GsAt (gM W10.heap.size (p11 1).A (p11 1).N (p11 1).C M :: _) W11:=⟨hF.fx 1,hF.gx⟩
 clear hF
 have z11:=hS.fr.size
 refine wp_seq ?_
 refine wp_symQ hS hG hK (fun p12=>[.v 59 (.pointer (some ⟨(p1 0).N,0,none⟩)),.l 60 (.bool g) 0 0,.v 61 (.bool false),.v 62 (.int .i64 0),.v 63 (.int .u8 (md:Int)),.c (some 64) (cV (.bool false))]) (fun p12=>[(1,.int .i64 pl),(3,.pointer (some ⟨(p1 0).N,0,none⟩)),(6,.pointer (some ⟨(p1 1).N,0,none⟩)),(7,.int .i64 0),(8,.int .i64 0),(13,.pointer (some ⟨(p11 2).N,0,none⟩)),(27,.bool false),(42,.bool true),(44,.bool true),(64,.bool false)]) (by kernel_rfl) (fun _ _=>by kernel_rfl) (fun _=>by kernel_rfl) (fun _=>by kernel_rfl) (fun p12=>?_) (fun p12 W12 T hF hK=>?_)
 ·refine ok_v (by kernel_rfl) ?_
  refine ok_L (by kernel_rfl) (by kernel_rfl) (by kernel_rfl) ?_
  iterate 3 refine ok_v (by kernel_rfl) ?_
  refine ok_c (fun W cx=>as_v (unhide H2 _)) (by kernel_rfl) ?_
  exact ok_nil
 replace hS:=SymF.fb hS hF [0,1,2] [⟨(p1 0).N,#[.bool g,.string s,.int .i64 x],23,true⟩,⟨(p1 1).N,#[.bool false,.string ⟨#[]⟩,.int .i64 0],23,true⟩,⟨(p11 2).N,#[.slice (p11 1).A (p11 1).N (p11 1).C],60,true⟩] (by kernel_rfl) (by kernel_rfl)
 replace hG:=hF.gx
 clear hF
 have z12:=hS.fr.size
 refine wp_cond_false (hK.ev 64 (by kernel_rfl) _ (by kernel_rfl)) ?_
 refine wp_skip ?_
 refine then_n ?_
 refine wp_symQ hS hG hK (fun p13=>[.l 72 (.agg #[.slice (p11 1).A (p11 1).N (p11 1).C]) 2 0,.c (some 73) (cV (.tuple #[.string t,.int .i64 0])),.v 71 (.tuple #[.string t,.int .i64 0]),.v 74 (.string t),.v 75 (.int .i64 0),.v 14 (.string t),.v 15 (.int .i64 0)]) (fun p13=>[(1,.int .i64 pl),(3,.pointer (some ⟨(p1 0).N,0,none⟩)),(6,.pointer (some ⟨(p1 1).N,0,none⟩)),(7,.int .i64 0),(8,.int .i64 0),(13,.pointer (some ⟨(p11 2).N,0,none⟩)),(14,.string t),(27,.bool false),(42,.bool true),(44,.bool true),(64,.bool false)]) (by kernel_rfl) (fun _ _=>by kernel_rfl) (fun _=>by kernel_rfl) (fun _=>by kernel_rfl) (fun p13=>?_) (fun p13 W13 T hF hK=>?_)
 ·refine ok_L (by kernel_rfl) (by kernel_rfl) (by kernel_rfl) ?_
  refine ok_c (fun W cx=>as_v (unhide HT _ _ _ (p11 1).C (Mine.num cx.G.1))) (by kernel_rfl) ?_
  iterate 5 refine ok_v (by kernel_rfl) ?_
  exact ok_nil
 replace hS:=SymF.fb hS hF [0,1,2] [⟨(p1 0).N,#[.bool g,.string s,.int .i64 x],23,true⟩,⟨(p1 1).N,#[.bool false,.string ⟨#[]⟩,.int .i64 0],23,true⟩,⟨(p11 2).N,#[.slice (p11 1).A (p11 1).N (p11 1).C],60,true⟩] (by kernel_rfl) (by kernel_rfl)
 replace hG:=hF.gx
 clear hF
 have z13:=hS.fr.size
 refine wp_symQ hS hG hK (fun p14=>[.v 76 (.pointer (some ⟨(p1 0).N,0,none⟩)),.l 77 (.bool g) 0 0,.v 78 (.string t),.v 79 (.int .i64 pl),.c (some 80) (cV (.tuple #[.agg #[.bool g2,.string s2,.int .i64 x2],.int .i64 e2])),.v 81 (.agg #[.bool g2,.string s2,.int .i64 x2]),.v 82 (.int .i64 e2),.p 1 0 [.bool g2,.string s2,.int .i64 x2],.v 7 (.int .i64 e2)]) (fun p14=>[(3,.pointer (some ⟨(p1 0).N,0,none⟩)),(6,.pointer (some ⟨(p1 1).N,0,none⟩)),(7,.int .i64 e2),(8,.int .i64 0),(13,.pointer (some ⟨(p11 2).N,0,none⟩)),(27,.bool false),(42,.bool true),(44,.bool true),(64,.bool false)]) (by kernel_rfl) (fun _ _=>by kernel_rfl) (fun _=>by kernel_rfl) (fun _=>by kernel_rfl) (fun p14=>?_) (fun p14 W14 T hF hK=>?_)
 ·refine ok_v (by kernel_rfl) ?_
  refine ok_L (by kernel_rfl) (by kernel_rfl) (by kernel_rfl) ?_
  iterate 2 refine ok_v (by kernel_rfl) ?_
  refine ok_c (fun W cx=>as_v (unhide HM _)) (by kernel_rfl) ?_
  iterate 2 refine ok_v (by kernel_rfl) ?_
  refine ok_P (by kernel_rfl) (by kernel_rfl) (by kernel_rfl) ?_
  refine ok_v (by kernel_rfl) ?_
  exact ok_nil
 replace hS:=SymF.fb hS hF [0,1,2] [⟨(p1 0).N,#[.bool g,.string s,.int .i64 x],23,true⟩,⟨(p1 1).N,#[.bool g2,.string s2,.int .i64 x2],23,true⟩,⟨(p11 2).N,#[.slice (p11 1).A (p11 1).N (p11 1).C],60,true⟩] (by kernel_rfl) (by kernel_rfl)
 replace hG:=hF.gx
 clear hF
 have z14:=hS.fr.size
 refine wp_ret ?_
 exact sym_end hS hK (.tuple #[.agg #[.bool g2,.string s2,.int .i64 x2],.int .i64 e2]) [(1,0,3)] [.bool g2,.string s2,.int .i64 x2] (by kernel_rfl) (by kernel_rfl) ⟨rfl,hS.fr⟩
theorem rcut_C_lt_u (w:World) (g:Bool) (s:ByteArray) (x pl c:Int) (md M N1:Nat) (t:ByteArray) (g2:Bool) (s2:ByteArray) (x2 e2:Int) (kp:Int) (hm:s.size≤65536) (_hx0:-1073741824≤x) (_hx1:x≤1073741824) (hc:pl - x = c) (hc0:0 < c) (hc1:c≤2147483648) (hk:(s.size:Int) - c = kp) (hk1:kp < 0) (H1:Hid (∀ W:World,Calls Try.prog 51 #[.string ⟨#[]⟩] W fun en W'=>(∃ a n c,en = .returned (.agg #[.slice a n c])∧Mine W' W.heap.size a n c M)∧Below W.heap.size W W')) (H2:Hid (∀ W:World,Calls Try.prog 96 #[.bool g,.bool false,.int .i64 (-1),.int .u8 (md:Int)] W fun e W'=>e = .returned (.bool true)∧Below W.heap.size W W')) (HA:Hid (∀ (W:World) (a:Option Addr) (n c:Nat) (a':Option Addr) (n' c':Nat),Num W a n M→Num W a' n' 1→Calls Try.prog 54 #[.agg #[.slice a n c],.agg #[.slice a' n' c']] W fun en W'=>(∃ a n c,en = .returned (.tuple #[.agg #[.slice a n c],.int .i64 0])∧Mine W' W.heap.size a n c N1)∧Below W.heap.size W W')) (HT:Hid (∀ (W:World) (a:Option Addr) (n c:Nat),Num W a n N1→Calls Try.prog 56 #[.agg #[.slice a n c]] W fun en W'=>en = .returned (.tuple #[.string t,.int .i64 0])∧Below W.heap.size W W')) (HM:Hid (∀ W:World,Calls Try.prog 17 #[.bool g,.string t,.int .i64 pl] W fun e W'=>e = .returned (.tuple #[.agg #[.bool g2,.string s2,.int .i64 x2],.int .i64 e2])∧Below W.heap.size W W')) :
  Calls Try.prog 61 #[.agg #[.bool g,.string s,.int .i64 x],.int .i64 pl,.int .u8 (md:Int)] w fun en w'=>en = .returned (.tuple #[.agg #[.bool g2,.string s2,.int .i64 x2],.int .i64 e2])∧Below w.heap.size w w':=by
 refine calls_sym Try.func61 rfl (by kernel_rfl) fun T hK=>?_
 replace hK:Kn T _ [(0,.agg #[.bool g,.string s,.int .i64 x]),(1,.int .i64 pl),(2,.int .u8 (md:Int))]:=hK
 have hS:=Fb.begin w
 have hG:GsAt [] w:=trivial
 refine wp_symQ hS hG hK (fun p1=>[.n 3 #[.bool g,.string s,.int .i64 x] 23,.n 6 #[.bool false,.string ⟨#[]⟩,.int .i64 0] 23,.v 7 (.int .i64 0)]) (fun p1=>[(1,.int .i64 pl),(2,.int .u8 (md:Int)),(3,.pointer (some ⟨(p1 0).N,0,none⟩)),(6,.pointer (some ⟨(p1 1).N,0,none⟩)),(7,.int .i64 0)]) (by kernel_rfl) (fun _ _=>by kernel_rfl) (fun _=>by kernel_rfl) (fun _=>by kernel_rfl) (fun p1=>?_) (fun p1 W1 T hF hK=>?_)
 ·iterate 2 refine ok_n (fun _=>by kernel_rfl) ?_
  refine ok_v (by kernel_rfl) ?_
  exact ok_nil
 replace hS:=SymF.fb hS hF [1000,1001] [⟨(p1 0).N,#[.bool g,.string s,.int .i64 x],23,true⟩,⟨(p1 1).N,#[.bool false,.string ⟨#[]⟩,.int .i64 0],23,true⟩] (by kernel_rfl) (by kernel_rfl)
 replace hG:=hF.gx
 clear hF
 have z1:=hS.fr.size
 refine wp_symQ hS hG hK (fun p2=>[.v 16 (.pointer (some ⟨(p1 0).N,1,none⟩)),.l 17 (.string s) 0 1,.v 18 (.int .i64 (s.size:Int)),.v 19 (.int .i64 pl),.v 20 (.pointer (some ⟨(p1 0).N,2,none⟩)),.l 21 (.int .i64 x) 0 2,.v 22 (.int .i64 c),.v 23 (.int .i64 kp),.v 8 (.int .i64 kp)]) (fun p2=>[(1,.int .i64 pl),(2,.int .u8 (md:Int)),(3,.pointer (some ⟨(p1 0).N,0,none⟩)),(6,.pointer (some ⟨(p1 1).N,0,none⟩)),(7,.int .i64 0),(8,.int .i64 kp)]) (by kernel_rfl) (fun _ _=>by kernel_rfl) (fun _=>by kernel_rfl) (fun _=>by kernel_rfl) (fun p2=>?_) (fun p2 W2 T hF hK=>?_)
 ·refine ok_v (by kernel_rfl) ?_
  refine ok_L (by kernel_rfl) (by kernel_rfl) (by kernel_rfl) ?_
  iterate 3 refine ok_v (by kernel_rfl) ?_
  refine ok_L (by kernel_rfl) (by kernel_rfl) (by kernel_rfl) ?_
  refine ok_vi ((wr64 (x:=pl - x) (by omega) (by omega)).trans hc) (by kernel_rfl) ?_
  refine ok_vi ((wr64 (x:=(s.size:Int) - c) (by omega) (by omega)).trans (by omega)) (by kernel_rfl) ?_
  refine ok_v (by kernel_rfl) ?_
  exact ok_nil
 replace hS:=SymF.fb hS hF [0,1] [⟨(p1 0).N,#[.bool g,.string s,.int .i64 x],23,true⟩,⟨(p1 1).N,#[.bool false,.string ⟨#[]⟩,.int .i64 0],23,true⟩] (by kernel_rfl) (by kernel_rfl)
 replace hG:=hF.gx
 clear hF
 have z2:=hS.fr.size
 refine wp_symQ hS hG hK (fun p3=>[.v 24 (.pointer (some ⟨(p1 0).N,1,none⟩)),.l 25 (.string s) 0 1,.v 9 (.string { data:=#[] }),.v 10 (.string s)]) (fun p3=>[(1,.int .i64 pl),(2,.int .u8 (md:Int)),(3,.pointer (some ⟨(p1 0).N,0,none⟩)),(6,.pointer (some ⟨(p1 1).N,0,none⟩)),(7,.int .i64 0),(8,.int .i64 kp),(9,.string { data:=#[] }),(10,.string s)]) (by kernel_rfl) (fun _ _=>by kernel_rfl) (fun _=>by kernel_rfl) (fun _=>by kernel_rfl) (fun p3=>?_) (fun p3 W3 T hF hK=>?_)
 ·refine ok_v (by kernel_rfl) ?_
  refine ok_L (by kernel_rfl) (by kernel_rfl) (by kernel_rfl) ?_
  iterate 2 refine ok_v (by kernel_rfl) ?_
  exact ok_nil
 replace hS:=SymF.fb hS hF [0,1] [⟨(p1 0).N,#[.bool g,.string s,.int .i64 x],23,true⟩,⟨(p1 1).N,#[.bool false,.string ⟨#[]⟩,.int .i64 0],23,true⟩] (by kernel_rfl) (by kernel_rfl)
 replace hG:=hF.gx
 clear hF
 have z3:=hS.fr.size
 refine wp_seq ?_
 refine wp_symQ hS hG hK (fun p4=>[.v 26 (.int .i64 kp),.v 27 (.bool false)]) (fun p4=>[(1,.int .i64 pl),(2,.int .u8 (md:Int)),(3,.pointer (some ⟨(p1 0).N,0,none⟩)),(6,.pointer (some ⟨(p1 1).N,0,none⟩)),(7,.int .i64 0),(8,.int .i64 kp),(9,.string { data:=#[] }),(10,.string s),(27,.bool false)]) (by kernel_rfl) (fun _ _=>by kernel_rfl) (fun _=>by kernel_rfl) (fun _=>by kernel_rfl) (fun p4=>?_) (fun p4 W4 T hF hK=>?_)
 ·refine ok_v (by kernel_rfl) ?_
  refine ok_vb (decide_eq_false (show ¬ kp > 0 by omega)) (by kernel_rfl) ?_
  exact ok_nil
 replace hS:=SymF.fb hS hF [0,1] [⟨(p1 0).N,#[.bool g,.string s,.int .i64 x],23,true⟩,⟨(p1 1).N,#[.bool false,.string ⟨#[]⟩,.int .i64 0],23,true⟩] (by kernel_rfl) (by kernel_rfl)
 replace hG:=hF.gx
 clear hF
 have z4:=hS.fr.size
 refine wp_cond_false (hK.ev 27 (by kernel_rfl) _ (by kernel_rfl)) ?_
 refine wp_skip ?_
 refine then_n ?_
 refine wp_symQ hS hG hK (fun p5=>[.v 11 (.int .i64 (-1))]) (fun p5=>[(1,.int .i64 pl),(2,.int .u8 (md:Int)),(3,.pointer (some ⟨(p1 0).N,0,none⟩)),(6,.pointer (some ⟨(p1 1).N,0,none⟩)),(7,.int .i64 0),(8,.int .i64 kp),(9,.string { data:=#[] }),(10,.string s),(11,.int .i64 (-1)),(27,.bool false)]) (by kernel_rfl) (fun _ _=>by kernel_rfl) (fun _=>by kernel_rfl) (fun _=>by kernel_rfl) (fun p5=>?_) (fun p5 W5 T hF hK=>?_)
 ·refine ok_v (by kernel_rfl) ?_
  exact ok_nil
 replace hS:=SymF.fb hS hF [0,1] [⟨(p1 0).N,#[.bool g,.string s,.int .i64 x],23,true⟩,⟨(p1 1).N,#[.bool false,.string ⟨#[]⟩,.int .i64 0],23,true⟩] (by kernel_rfl) (by kernel_rfl)
 replace hG:=hF.gx
 clear hF
 have z5:=hS.fr.size
 refine wp_seq ?_
 refine wp_symQ hS hG hK (fun p6=>[.v 36 (.int .i64 kp),.v 37 (.bool false),.v 38 (.bool false),.k (some 39),.k (some 40),.k (some 41),.v 42 (.bool false)]) (fun p6=>[(1,.int .i64 pl),(2,.int .u8 (md:Int)),(3,.pointer (some ⟨(p1 0).N,0,none⟩)),(6,.pointer (some ⟨(p1 1).N,0,none⟩)),(7,.int .i64 0),(8,.int .i64 kp),(9,.string { data:=#[] }),(10,.string s),(11,.int .i64 (-1)),(27,.bool false),(42,.bool false)]) (by kernel_rfl) (fun _ _=>by kernel_rfl) (fun _=>by kernel_rfl) (fun _=>by kernel_rfl) (fun p6=>?_) (fun p6 W6 T hF hK=>?_)
 ·refine ok_v (by kernel_rfl) ?_
  refine ok_vb (decide_eq_false (show ¬ kp ≥ 0 by omega)) (by kernel_rfl) ?_
  refine ok_v (by kernel_rfl) ?_
  iterate 3 refine ok_K (by kernel_rfl) ?_
  refine ok_v (by kernel_rfl) ?_
  exact ok_nil
 replace hS:=SymF.fb hS hF [0,1] [⟨(p1 0).N,#[.bool g,.string s,.int .i64 x],23,true⟩,⟨(p1 1).N,#[.bool false,.string ⟨#[]⟩,.int .i64 0],23,true⟩] (by kernel_rfl) (by kernel_rfl)
 replace hG:=hF.gx
 clear hF
 have z6:=hS.fr.size
 refine wp_cond_false (hK.ev 42 (by kernel_rfl) _ (by kernel_rfl)) ?_
 refine wp_skip ?_
 refine then_n ?_
 refine wp_symQ hS hG hK (fun p7=>[.v 45 (.string { data:=#[] }),.v 46 (.int .i64 0),.v 47 (.bool false),.v 48 (.bool false),.k (some 49),.k (some 50),.k (some 51),.k (some 52),.k (some 53),.k (some 54),.k (some 55),.v 56 (.bool false),.v 12 (.bool false)]) (fun p7=>[(1,.int .i64 pl),(2,.int .u8 (md:Int)),(3,.pointer (some ⟨(p1 0).N,0,none⟩)),(6,.pointer (some ⟨(p1 1).N,0,none⟩)),(7,.int .i64 0),(8,.int .i64 kp),(9,.string { data:=#[] }),(10,.string s),(11,.int .i64 (-1)),(12,.bool false),(27,.bool false),(42,.bool false)]) (by kernel_rfl) (fun _ _=>by kernel_rfl) (fun _=>by kernel_rfl) (fun _=>by kernel_rfl) (fun p7=>?_) (fun p7 W7 T hF hK=>?_)
 ·iterate 4 refine ok_v (by kernel_rfl) ?_
  iterate 7 refine ok_K (by kernel_rfl) ?_
  iterate 2 refine ok_v (by kernel_rfl) ?_
  exact ok_nil
 replace hS:=SymF.fb hS hF [0,1] [⟨(p1 0).N,#[.bool g,.string s,.int .i64 x],23,true⟩,⟨(p1 1).N,#[.bool false,.string ⟨#[]⟩,.int .i64 0],23,true⟩] (by kernel_rfl) (by kernel_rfl)
 replace hG:=hF.gx
 clear hF
 have z7:=hS.fr.size
 refine wp_symQ hS hG hK (fun p8=>[.v 57 (.string { data:=#[] }),.c (some 58) (cN W7.heap.size M),.n 13 #[.slice none 0 0] 60,.p 1002 0 [.slice (p8 1).A (p8 1).N (p8 1).C]]) (fun p8=>[(1,.int .i64 pl),(2,.int .u8 (md:Int)),(3,.pointer (some ⟨(p1 0).N,0,none⟩)),(6,.pointer (some ⟨(p1 1).N,0,none⟩)),(7,.int .i64 0),(8,.int .i64 kp),(10,.string s),(11,.int .i64 (-1)),(12,.bool false),(13,.pointer (some ⟨(p8 2).N,0,none⟩)),(27,.bool false),(42,.bool false)]) (by kernel_rfl) (fun _ _=>by kernel_rfl) (fun _=>by kernel_rfl) (fun _=>by kernel_rfl) (fun p8=>?_) (fun p8 W8 T hF hK=>?_)
 ·refine ok_v (by kernel_rfl) ?_
  refine ok_c (fun W cx=>as_n cx.hb (unhide H1 _)) (by kernel_rfl) ?_
  refine ok_n (fun _=>by kernel_rfl) ?_
  refine ok_P (by kernel_rfl) (by kernel_rfl) (by kernel_rfl) ?_
  exact ok_nil
 replace hS:=SymF.fb hS hF [0,1,1002] [⟨(p1 0).N,#[.bool g,.string s,.int .i64 x],23,true⟩,⟨(p1 1).N,#[.bool false,.string ⟨#[]⟩,.int .i64 0],23,true⟩,⟨(p8 2).N,#[.slice (p8 1).A (p8 1).N (p8 1).C],60,true⟩] (by kernel_rfl) (by kernel_rfl)
 replace hG:GsAt (gM W7.heap.size (p8 1).A (p8 1).N (p8 1).C M :: _) W8:=⟨hF.fx 1,hF.gx⟩
 clear hF
 have z8:=hS.fr.size
 refine wp_seq ?_
 refine wp_symQ hS hG hK (fun p9=>[.v 59 (.pointer (some ⟨(p1 0).N,0,none⟩)),.l 60 (.bool g) 0 0,.v 61 (.bool false),.v 62 (.int .i64 (-1)),.v 63 (.int .u8 (md:Int)),.c (some 64) (cV (.bool true))]) (fun p9=>[(1,.int .i64 pl),(3,.pointer (some ⟨(p1 0).N,0,none⟩)),(6,.pointer (some ⟨(p1 1).N,0,none⟩)),(7,.int .i64 0),(8,.int .i64 kp),(10,.string s),(13,.pointer (some ⟨(p8 2).N,0,none⟩)),(27,.bool false),(42,.bool false),(64,.bool true)]) (by kernel_rfl) (fun _ _=>by kernel_rfl) (fun _=>by kernel_rfl) (fun _=>by kernel_rfl) (fun p9=>?_) (fun p9 W9 T hF hK=>?_)
 ·refine ok_v (by kernel_rfl) ?_
  refine ok_L (by kernel_rfl) (by kernel_rfl) (by kernel_rfl) ?_
  iterate 3 refine ok_v (by kernel_rfl) ?_
  refine ok_c (fun W cx=>as_v (unhide H2 _)) (by kernel_rfl) ?_
  exact ok_nil
 replace hS:=SymF.fb hS hF [0,1,2] [⟨(p1 0).N,#[.bool g,.string s,.int .i64 x],23,true⟩,⟨(p1 1).N,#[.bool false,.string ⟨#[]⟩,.int .i64 0],23,true⟩,⟨(p8 2).N,#[.slice (p8 1).A (p8 1).N (p8 1).C],60,true⟩] (by kernel_rfl) (by kernel_rfl)
 replace hG:=hF.gx
 clear hF
 have z9:=hS.fr.size
 refine wp_cond_true (hK.ev 64 (by kernel_rfl) _ (by kernel_rfl)) ?_
 refine wp_symG hS hG hK (fun p10=>[.l 66 (.agg #[.slice (p8 1).A (p8 1).N (p8 1).C]) 2 0,.c (some 67) (cN W9.heap.size 1),.c (some 68) (cO W9.heap.size N1),.v 65 (.tuple #[.agg #[.slice (p10 2).A (p10 2).N (p10 2).C],.int .i64 0]),.v 69 (.agg #[.slice (p10 2).A (p10 2).N (p10 2).C]),.v 70 (.int .i64 0),.p 2 0 [.slice (p10 2).A (p10 2).N (p10 2).C]]) (fun p10=>[(1,.int .i64 pl),(3,.pointer (some ⟨(p1 0).N,0,none⟩)),(6,.pointer (some ⟨(p1 1).N,0,none⟩)),(7,.int .i64 0),(8,.int .i64 kp),(10,.string s),(13,.pointer (some ⟨(p8 2).N,0,none⟩)),(27,.bool false),(42,.bool false),(64,.bool true)]) (by kernel_rfl) (fun _ _=>by kernel_rfl) (fun _=>by kernel_rfl) (fun _=>by kernel_rfl) (fun p10=>?_) (fun p10 W10 T hF hK=>?_)
 ·refine ok_L (by kernel_rfl) (by kernel_rfl) (by kernel_rfl) ?_
  refine ok_c (fun W cx=>as_n cx.hb (rof_any 1 _ (by decide))) (by kernel_rfl) ?_
  refine ok_c (fun W cx=>as_o cx.hb (unhide HA _ _ _ (p8 1).C _ _ (p10 1).C (Mine.num cx.G.1) (Mine.num (cx.F 1 (by kernel_rfl))))) (by kernel_rfl) ?_
  iterate 3 refine ok_v (by kernel_rfl) ?_
  refine ok_P (by kernel_rfl) (by kernel_rfl) (by kernel_rfl) ?_
  exact ok_nil
 replace hS:=SymF.fb hS hF [0,1,2] [⟨(p1 0).N,#[.bool g,.string s,.int .i64 x],23,true⟩,⟨(p1 1).N,#[.bool false,.string ⟨#[]⟩,.int .i64 0],23,true⟩,⟨(p8 2).N,#[.slice (p10 2).A (p10 2).N (p10 2).C],60,true⟩] (by kernel_rfl) (by kernel_rfl)
 replace hG:GsAt (gM W9.heap.size (p10 1).A (p10 1).N (p10 1).C 1 :: gM W9.heap.size (p10 2).A (p10 2).N (p10 2).C N1 :: _) W10:=⟨hF.fx 1,hF.fx 2,hF.gx⟩
 clear hF
 have z10:=hS.fr.size
 refine then_n ?_
 refine wp_symQ hS hG hK (fun p11=>[.l 72 (.agg #[.slice (p10 2).A (p10 2).N (p10 2).C]) 2 0,.c (some 73) (cV (.tuple #[.string t,.int .i64 0])),.v 71 (.tuple #[.string t,.int .i64 0]),.v 74 (.string t),.v 75 (.int .i64 0),.v 14 (.string t),.v 15 (.int .i64 0)]) (fun p11=>[(1,.int .i64 pl),(3,.pointer (some ⟨(p1 0).N,0,none⟩)),(6,.pointer (some ⟨(p1 1).N,0,none⟩)),(7,.int .i64 0),(8,.int .i64 kp),(10,.string s),(14,.string t),(27,.bool false),(42,.bool false),(64,.bool true)]) (by kernel_rfl) (fun _ _=>by kernel_rfl) (fun _=>by kernel_rfl) (fun _=>by kernel_rfl) (fun p11=>?_) (fun p11 W11 T hF hK=>?_)
 ·refine ok_L (by kernel_rfl) (by kernel_rfl) (by kernel_rfl) ?_
  refine ok_c (fun W cx=>as_v (unhide HT _ _ _ (p10 2).C (Mine.num cx.G.2.1))) (by kernel_rfl) ?_
  iterate 5 refine ok_v (by kernel_rfl) ?_
  exact ok_nil
 replace hS:=SymF.fb hS hF [0,1] [⟨(p1 0).N,#[.bool g,.string s,.int .i64 x],23,true⟩,⟨(p1 1).N,#[.bool false,.string ⟨#[]⟩,.int .i64 0],23,true⟩] (by kernel_rfl) (by kernel_rfl)
 replace hG:=hF.gx
 clear hF
 have z11:=hS.fr.size
 refine wp_symQ hS hG hK (fun p12=>[.v 76 (.pointer (some ⟨(p1 0).N,0,none⟩)),.l 77 (.bool g) 0 0,.v 78 (.string t),.v 79 (.int .i64 pl),.c (some 80) (cV (.tuple #[.agg #[.bool g2,.string s2,.int .i64 x2],.int .i64 e2])),.v 81 (.agg #[.bool g2,.string s2,.int .i64 x2]),.v 82 (.int .i64 e2),.p 1 0 [.bool g2,.string s2,.int .i64 x2],.v 7 (.int .i64 e2)]) (fun p12=>[(3,.pointer (some ⟨(p1 0).N,0,none⟩)),(6,.pointer (some ⟨(p1 1).N,0,none⟩)),(7,.int .i64 e2),(8,.int .i64 kp),(10,.string s),(27,.bool false),(42,.bool false),(64,.bool true)]) (by kernel_rfl) (fun _ _=>by kernel_rfl) (fun _=>by kernel_rfl) (fun _=>by kernel_rfl) (fun p12=>?_) (fun p12 W12 T hF hK=>?_)
 ·refine ok_v (by kernel_rfl) ?_
  refine ok_L (by kernel_rfl) (by kernel_rfl) (by kernel_rfl) ?_
  iterate 2 refine ok_v (by kernel_rfl) ?_
  refine ok_c (fun W cx=>as_v (unhide HM _)) (by kernel_rfl) ?_
  iterate 2 refine ok_v (by kernel_rfl) ?_
  refine ok_P (by kernel_rfl) (by kernel_rfl) (by kernel_rfl) ?_
  refine ok_v (by kernel_rfl) ?_
  exact ok_nil
 replace hS:=SymF.fb hS hF [0,1] [⟨(p1 0).N,#[.bool g,.string s,.int .i64 x],23,true⟩,⟨(p1 1).N,#[.bool g2,.string s2,.int .i64 x2],23,true⟩] (by kernel_rfl) (by kernel_rfl)
 replace hG:=hF.gx
 clear hF
 have z12:=hS.fr.size
 refine wp_ret ?_
 exact sym_end hS hK (.tuple #[.agg #[.bool g2,.string s2,.int .i64 x2],.int .i64 e2]) [(1,0,3)] [.bool g2,.string s2,.int .i64 x2] (by kernel_rfl) (by kernel_rfl) ⟨rfl,hS.fr⟩
theorem rcut_C_lt_n (w:World) (g:Bool) (s:ByteArray) (x pl c:Int) (md M:Nat) (t:ByteArray) (g2:Bool) (s2:ByteArray) (x2 e2:Int) (kp:Int) (hm:s.size≤65536) (_hx0:-1073741824≤x) (_hx1:x≤1073741824) (hc:pl - x = c) (hc0:0 < c) (hc1:c≤2147483648) (hk:(s.size:Int) - c = kp) (hk1:kp < 0) (H1:Hid (∀ W:World,Calls Try.prog 51 #[.string ⟨#[]⟩] W fun en W'=>(∃ a n c,en = .returned (.agg #[.slice a n c])∧Mine W' W.heap.size a n c M)∧Below W.heap.size W W')) (H2:Hid (∀ W:World,Calls Try.prog 96 #[.bool g,.bool false,.int .i64 (-1),.int .u8 (md:Int)] W fun e W'=>e = .returned (.bool false)∧Below W.heap.size W W')) (HT:Hid (∀ (W:World) (a:Option Addr) (n c:Nat),Num W a n M→Calls Try.prog 56 #[.agg #[.slice a n c]] W fun en W'=>en = .returned (.tuple #[.string t,.int .i64 0])∧Below W.heap.size W W')) (HM:Hid (∀ W:World,Calls Try.prog 17 #[.bool g,.string t,.int .i64 pl] W fun e W'=>e = .returned (.tuple #[.agg #[.bool g2,.string s2,.int .i64 x2],.int .i64 e2])∧Below W.heap.size W W')) :
  Calls Try.prog 61 #[.agg #[.bool g,.string s,.int .i64 x],.int .i64 pl,.int .u8 (md:Int)] w fun en w'=>en = .returned (.tuple #[.agg #[.bool g2,.string s2,.int .i64 x2],.int .i64 e2])∧Below w.heap.size w w':=by
 refine calls_sym Try.func61 rfl (by kernel_rfl) fun T hK=>?_
 replace hK:Kn T _ [(0,.agg #[.bool g,.string s,.int .i64 x]),(1,.int .i64 pl),(2,.int .u8 (md:Int))]:=hK
 have hS:=Fb.begin w
 have hG:GsAt [] w:=trivial
 refine wp_symQ hS hG hK (fun p1=>[.n 3 #[.bool g,.string s,.int .i64 x] 23,.n 6 #[.bool false,.string ⟨#[]⟩,.int .i64 0] 23,.v 7 (.int .i64 0)]) (fun p1=>[(1,.int .i64 pl),(2,.int .u8 (md:Int)),(3,.pointer (some ⟨(p1 0).N,0,none⟩)),(6,.pointer (some ⟨(p1 1).N,0,none⟩)),(7,.int .i64 0)]) (by kernel_rfl) (fun _ _=>by kernel_rfl) (fun _=>by kernel_rfl) (fun _=>by kernel_rfl) (fun p1=>?_) (fun p1 W1 T hF hK=>?_)
 ·iterate 2 refine ok_n (fun _=>by kernel_rfl) ?_
  refine ok_v (by kernel_rfl) ?_
  exact ok_nil
 replace hS:=SymF.fb hS hF [1000,1001] [⟨(p1 0).N,#[.bool g,.string s,.int .i64 x],23,true⟩,⟨(p1 1).N,#[.bool false,.string ⟨#[]⟩,.int .i64 0],23,true⟩] (by kernel_rfl) (by kernel_rfl)
 replace hG:=hF.gx
 clear hF
 have z1:=hS.fr.size
 refine wp_symQ hS hG hK (fun p2=>[.v 16 (.pointer (some ⟨(p1 0).N,1,none⟩)),.l 17 (.string s) 0 1,.v 18 (.int .i64 (s.size:Int)),.v 19 (.int .i64 pl),.v 20 (.pointer (some ⟨(p1 0).N,2,none⟩)),.l 21 (.int .i64 x) 0 2,.v 22 (.int .i64 c),.v 23 (.int .i64 kp),.v 8 (.int .i64 kp)]) (fun p2=>[(1,.int .i64 pl),(2,.int .u8 (md:Int)),(3,.pointer (some ⟨(p1 0).N,0,none⟩)),(6,.pointer (some ⟨(p1 1).N,0,none⟩)),(7,.int .i64 0),(8,.int .i64 kp)]) (by kernel_rfl) (fun _ _=>by kernel_rfl) (fun _=>by kernel_rfl) (fun _=>by kernel_rfl) (fun p2=>?_) (fun p2 W2 T hF hK=>?_)
 ·refine ok_v (by kernel_rfl) ?_
  refine ok_L (by kernel_rfl) (by kernel_rfl) (by kernel_rfl) ?_
  iterate 3 refine ok_v (by kernel_rfl) ?_
  refine ok_L (by kernel_rfl) (by kernel_rfl) (by kernel_rfl) ?_
  refine ok_vi ((wr64 (x:=pl - x) (by omega) (by omega)).trans hc) (by kernel_rfl) ?_
  refine ok_vi ((wr64 (x:=(s.size:Int) - c) (by omega) (by omega)).trans (by omega)) (by kernel_rfl) ?_
  refine ok_v (by kernel_rfl) ?_
  exact ok_nil
 replace hS:=SymF.fb hS hF [0,1] [⟨(p1 0).N,#[.bool g,.string s,.int .i64 x],23,true⟩,⟨(p1 1).N,#[.bool false,.string ⟨#[]⟩,.int .i64 0],23,true⟩] (by kernel_rfl) (by kernel_rfl)
 replace hG:=hF.gx
 clear hF
 have z2:=hS.fr.size
 refine wp_symQ hS hG hK (fun p3=>[.v 24 (.pointer (some ⟨(p1 0).N,1,none⟩)),.l 25 (.string s) 0 1,.v 9 (.string { data:=#[] }),.v 10 (.string s)]) (fun p3=>[(1,.int .i64 pl),(2,.int .u8 (md:Int)),(3,.pointer (some ⟨(p1 0).N,0,none⟩)),(6,.pointer (some ⟨(p1 1).N,0,none⟩)),(7,.int .i64 0),(8,.int .i64 kp),(9,.string { data:=#[] }),(10,.string s)]) (by kernel_rfl) (fun _ _=>by kernel_rfl) (fun _=>by kernel_rfl) (fun _=>by kernel_rfl) (fun p3=>?_) (fun p3 W3 T hF hK=>?_)
 ·refine ok_v (by kernel_rfl) ?_
  refine ok_L (by kernel_rfl) (by kernel_rfl) (by kernel_rfl) ?_
  iterate 2 refine ok_v (by kernel_rfl) ?_
  exact ok_nil
 replace hS:=SymF.fb hS hF [0,1] [⟨(p1 0).N,#[.bool g,.string s,.int .i64 x],23,true⟩,⟨(p1 1).N,#[.bool false,.string ⟨#[]⟩,.int .i64 0],23,true⟩] (by kernel_rfl) (by kernel_rfl)
 replace hG:=hF.gx
 clear hF
 have z3:=hS.fr.size
 refine wp_seq ?_
 refine wp_symQ hS hG hK (fun p4=>[.v 26 (.int .i64 kp),.v 27 (.bool false)]) (fun p4=>[(1,.int .i64 pl),(2,.int .u8 (md:Int)),(3,.pointer (some ⟨(p1 0).N,0,none⟩)),(6,.pointer (some ⟨(p1 1).N,0,none⟩)),(7,.int .i64 0),(8,.int .i64 kp),(9,.string { data:=#[] }),(10,.string s),(27,.bool false)]) (by kernel_rfl) (fun _ _=>by kernel_rfl) (fun _=>by kernel_rfl) (fun _=>by kernel_rfl) (fun p4=>?_) (fun p4 W4 T hF hK=>?_)
 ·refine ok_v (by kernel_rfl) ?_
  refine ok_vb (decide_eq_false (show ¬ kp > 0 by omega)) (by kernel_rfl) ?_
  exact ok_nil
 replace hS:=SymF.fb hS hF [0,1] [⟨(p1 0).N,#[.bool g,.string s,.int .i64 x],23,true⟩,⟨(p1 1).N,#[.bool false,.string ⟨#[]⟩,.int .i64 0],23,true⟩] (by kernel_rfl) (by kernel_rfl)
 replace hG:=hF.gx
 clear hF
 have z4:=hS.fr.size
 refine wp_cond_false (hK.ev 27 (by kernel_rfl) _ (by kernel_rfl)) ?_
 refine wp_skip ?_
 refine then_n ?_
 refine wp_symQ hS hG hK (fun p5=>[.v 11 (.int .i64 (-1))]) (fun p5=>[(1,.int .i64 pl),(2,.int .u8 (md:Int)),(3,.pointer (some ⟨(p1 0).N,0,none⟩)),(6,.pointer (some ⟨(p1 1).N,0,none⟩)),(7,.int .i64 0),(8,.int .i64 kp),(9,.string { data:=#[] }),(10,.string s),(11,.int .i64 (-1)),(27,.bool false)]) (by kernel_rfl) (fun _ _=>by kernel_rfl) (fun _=>by kernel_rfl) (fun _=>by kernel_rfl) (fun p5=>?_) (fun p5 W5 T hF hK=>?_)
 ·refine ok_v (by kernel_rfl) ?_
  exact ok_nil
 replace hS:=SymF.fb hS hF [0,1] [⟨(p1 0).N,#[.bool g,.string s,.int .i64 x],23,true⟩,⟨(p1 1).N,#[.bool false,.string ⟨#[]⟩,.int .i64 0],23,true⟩] (by kernel_rfl) (by kernel_rfl)
 replace hG:=hF.gx
 clear hF
 have z5:=hS.fr.size
 refine wp_seq ?_
 refine wp_symQ hS hG hK (fun p6=>[.v 36 (.int .i64 kp),.v 37 (.bool false),.v 38 (.bool false),.k (some 39),.k (some 40),.k (some 41),.v 42 (.bool false)]) (fun p6=>[(1,.int .i64 pl),(2,.int .u8 (md:Int)),(3,.pointer (some ⟨(p1 0).N,0,none⟩)),(6,.pointer (some ⟨(p1 1).N,0,none⟩)),(7,.int .i64 0),(8,.int .i64 kp),(9,.string { data:=#[] }),(10,.string s),(11,.int .i64 (-1)),(27,.bool false),(42,.bool false)]) (by kernel_rfl) (fun _ _=>by kernel_rfl) (fun _=>by kernel_rfl) (fun _=>by kernel_rfl) (fun p6=>?_) (fun p6 W6 T hF hK=>?_)
 ·refine ok_v (by kernel_rfl) ?_
  refine ok_vb (decide_eq_false (show ¬ kp ≥ 0 by omega)) (by kernel_rfl) ?_
  refine ok_v (by kernel_rfl) ?_
  iterate 3 refine ok_K (by kernel_rfl) ?_
  refine ok_v (by kernel_rfl) ?_
  exact ok_nil
 replace hS:=SymF.fb hS hF [0,1] [⟨(p1 0).N,#[.bool g,.string s,.int .i64 x],23,true⟩,⟨(p1 1).N,#[.bool false,.string ⟨#[]⟩,.int .i64 0],23,true⟩] (by kernel_rfl) (by kernel_rfl)
 replace hG:=hF.gx
 clear hF
 have z6:=hS.fr.size
 refine wp_cond_false (hK.ev 42 (by kernel_rfl) _ (by kernel_rfl)) ?_
 refine wp_skip ?_
 refine then_n ?_
 refine wp_symQ hS hG hK (fun p7=>[.v 45 (.string { data:=#[] }),.v 46 (.int .i64 0),.v 47 (.bool false),.v 48 (.bool false),.k (some 49),.k (some 50),.k (some 51),.k (some 52),.k (some 53),.k (some 54),.k (some 55),.v 56 (.bool false),.v 12 (.bool false)]) (fun p7=>[(1,.int .i64 pl),(2,.int .u8 (md:Int)),(3,.pointer (some ⟨(p1 0).N,0,none⟩)),(6,.pointer (some ⟨(p1 1).N,0,none⟩)),(7,.int .i64 0),(8,.int .i64 kp),(9,.string { data:=#[] }),(10,.string s),(11,.int .i64 (-1)),(12,.bool false),(27,.bool false),(42,.bool false)]) (by kernel_rfl) (fun _ _=>by kernel_rfl) (fun _=>by kernel_rfl) (fun _=>by kernel_rfl) (fun p7=>?_) (fun p7 W7 T hF hK=>?_)
 ·iterate 4 refine ok_v (by kernel_rfl) ?_
  iterate 7 refine ok_K (by kernel_rfl) ?_
  iterate 2 refine ok_v (by kernel_rfl) ?_
  exact ok_nil
 replace hS:=SymF.fb hS hF [0,1] [⟨(p1 0).N,#[.bool g,.string s,.int .i64 x],23,true⟩,⟨(p1 1).N,#[.bool false,.string ⟨#[]⟩,.int .i64 0],23,true⟩] (by kernel_rfl) (by kernel_rfl)
 replace hG:=hF.gx
 clear hF
 have z7:=hS.fr.size
 refine wp_symQ hS hG hK (fun p8=>[.v 57 (.string { data:=#[] }),.c (some 58) (cN W7.heap.size M),.n 13 #[.slice none 0 0] 60,.p 1002 0 [.slice (p8 1).A (p8 1).N (p8 1).C]]) (fun p8=>[(1,.int .i64 pl),(2,.int .u8 (md:Int)),(3,.pointer (some ⟨(p1 0).N,0,none⟩)),(6,.pointer (some ⟨(p1 1).N,0,none⟩)),(7,.int .i64 0),(8,.int .i64 kp),(10,.string s),(11,.int .i64 (-1)),(12,.bool false),(13,.pointer (some ⟨(p8 2).N,0,none⟩)),(27,.bool false),(42,.bool false)]) (by kernel_rfl) (fun _ _=>by kernel_rfl) (fun _=>by kernel_rfl) (fun _=>by kernel_rfl) (fun p8=>?_) (fun p8 W8 T hF hK=>?_)
 ·refine ok_v (by kernel_rfl) ?_
  refine ok_c (fun W cx=>as_n cx.hb (unhide H1 _)) (by kernel_rfl) ?_
  refine ok_n (fun _=>by kernel_rfl) ?_
  refine ok_P (by kernel_rfl) (by kernel_rfl) (by kernel_rfl) ?_
  exact ok_nil
 replace hS:=SymF.fb hS hF [0,1,1002] [⟨(p1 0).N,#[.bool g,.string s,.int .i64 x],23,true⟩,⟨(p1 1).N,#[.bool false,.string ⟨#[]⟩,.int .i64 0],23,true⟩,⟨(p8 2).N,#[.slice (p8 1).A (p8 1).N (p8 1).C],60,true⟩] (by kernel_rfl) (by kernel_rfl)
 replace hG:GsAt (gM W7.heap.size (p8 1).A (p8 1).N (p8 1).C M :: _) W8:=⟨hF.fx 1,hF.gx⟩
 clear hF
 have z8:=hS.fr.size
 refine wp_seq ?_
 refine wp_symQ hS hG hK (fun p9=>[.v 59 (.pointer (some ⟨(p1 0).N,0,none⟩)),.l 60 (.bool g) 0 0,.v 61 (.bool false),.v 62 (.int .i64 (-1)),.v 63 (.int .u8 (md:Int)),.c (some 64) (cV (.bool false))]) (fun p9=>[(1,.int .i64 pl),(3,.pointer (some ⟨(p1 0).N,0,none⟩)),(6,.pointer (some ⟨(p1 1).N,0,none⟩)),(7,.int .i64 0),(8,.int .i64 kp),(10,.string s),(13,.pointer (some ⟨(p8 2).N,0,none⟩)),(27,.bool false),(42,.bool false),(64,.bool false)]) (by kernel_rfl) (fun _ _=>by kernel_rfl) (fun _=>by kernel_rfl) (fun _=>by kernel_rfl) (fun p9=>?_) (fun p9 W9 T hF hK=>?_)
 ·refine ok_v (by kernel_rfl) ?_
  refine ok_L (by kernel_rfl) (by kernel_rfl) (by kernel_rfl) ?_
  iterate 3 refine ok_v (by kernel_rfl) ?_
  refine ok_c (fun W cx=>as_v (unhide H2 _)) (by kernel_rfl) ?_
  exact ok_nil
 replace hS:=SymF.fb hS hF [0,1,2] [⟨(p1 0).N,#[.bool g,.string s,.int .i64 x],23,true⟩,⟨(p1 1).N,#[.bool false,.string ⟨#[]⟩,.int .i64 0],23,true⟩,⟨(p8 2).N,#[.slice (p8 1).A (p8 1).N (p8 1).C],60,true⟩] (by kernel_rfl) (by kernel_rfl)
 replace hG:=hF.gx
 clear hF
 have z9:=hS.fr.size
 refine wp_cond_false (hK.ev 64 (by kernel_rfl) _ (by kernel_rfl)) ?_
 refine wp_skip ?_
 refine then_n ?_
 refine wp_symQ hS hG hK (fun p10=>[.l 72 (.agg #[.slice (p8 1).A (p8 1).N (p8 1).C]) 2 0,.c (some 73) (cV (.tuple #[.string t,.int .i64 0])),.v 71 (.tuple #[.string t,.int .i64 0]),.v 74 (.string t),.v 75 (.int .i64 0),.v 14 (.string t),.v 15 (.int .i64 0)]) (fun p10=>[(1,.int .i64 pl),(3,.pointer (some ⟨(p1 0).N,0,none⟩)),(6,.pointer (some ⟨(p1 1).N,0,none⟩)),(7,.int .i64 0),(8,.int .i64 kp),(10,.string s),(13,.pointer (some ⟨(p8 2).N,0,none⟩)),(14,.string t),(27,.bool false),(42,.bool false),(64,.bool false)]) (by kernel_rfl) (fun _ _=>by kernel_rfl) (fun _=>by kernel_rfl) (fun _=>by kernel_rfl) (fun p10=>?_) (fun p10 W10 T hF hK=>?_)
 ·refine ok_L (by kernel_rfl) (by kernel_rfl) (by kernel_rfl) ?_
  refine ok_c (fun W cx=>as_v (unhide HT _ _ _ (p8 1).C (Mine.num cx.G.1))) (by kernel_rfl) ?_
  iterate 5 refine ok_v (by kernel_rfl) ?_
  exact ok_nil
 replace hS:=SymF.fb hS hF [0,1,2] [⟨(p1 0).N,#[.bool g,.string s,.int .i64 x],23,true⟩,⟨(p1 1).N,#[.bool false,.string ⟨#[]⟩,.int .i64 0],23,true⟩,⟨(p8 2).N,#[.slice (p8 1).A (p8 1).N (p8 1).C],60,true⟩] (by kernel_rfl) (by kernel_rfl)
 replace hG:=hF.gx
 clear hF
 have z10:=hS.fr.size
 refine wp_symQ hS hG hK (fun p11=>[.v 76 (.pointer (some ⟨(p1 0).N,0,none⟩)),.l 77 (.bool g) 0 0,.v 78 (.string t),.v 79 (.int .i64 pl),.c (some 80) (cV (.tuple #[.agg #[.bool g2,.string s2,.int .i64 x2],.int .i64 e2])),.v 81 (.agg #[.bool g2,.string s2,.int .i64 x2]),.v 82 (.int .i64 e2),.p 1 0 [.bool g2,.string s2,.int .i64 x2],.v 7 (.int .i64 e2)]) (fun p11=>[(3,.pointer (some ⟨(p1 0).N,0,none⟩)),(6,.pointer (some ⟨(p1 1).N,0,none⟩)),(7,.int .i64 e2),(8,.int .i64 kp),(10,.string s),(13,.pointer (some ⟨(p8 2).N,0,none⟩)),(27,.bool false),(42,.bool false),(64,.bool false)]) (by kernel_rfl) (fun _ _=>by kernel_rfl) (fun _=>by kernel_rfl) (fun _=>by kernel_rfl) (fun p11=>?_) (fun p11 W11 T hF hK=>?_)
 ·refine ok_v (by kernel_rfl) ?_
  refine ok_L (by kernel_rfl) (by kernel_rfl) (by kernel_rfl) ?_
  iterate 2 refine ok_v (by kernel_rfl) ?_
  refine ok_c (fun W cx=>as_v (unhide HM _)) (by kernel_rfl) ?_
  iterate 2 refine ok_v (by kernel_rfl) ?_
  refine ok_P (by kernel_rfl) (by kernel_rfl) (by kernel_rfl) ?_
  refine ok_v (by kernel_rfl) ?_
  exact ok_nil
 replace hS:=SymF.fb hS hF [0,1,2] [⟨(p1 0).N,#[.bool g,.string s,.int .i64 x],23,true⟩,⟨(p1 1).N,#[.bool g2,.string s2,.int .i64 x2],23,true⟩,⟨(p8 2).N,#[.slice (p8 1).A (p8 1).N (p8 1).C],60,true⟩] (by kernel_rfl) (by kernel_rfl)
 replace hG:=hF.gx
 clear hF
 have z11:=hS.fr.size
 refine wp_ret ?_
 exact sym_end hS hK (.tuple #[.agg #[.bool g2,.string s2,.int .i64 x2],.int .i64 e2]) [(1,0,3)] [.bool g2,.string s2,.int .i64 x2] (by kernel_rfl) (by kernel_rfl) ⟨rfl,hS.fr⟩
end Go.Proofs.Ytmmkefdbdpfpdaa
