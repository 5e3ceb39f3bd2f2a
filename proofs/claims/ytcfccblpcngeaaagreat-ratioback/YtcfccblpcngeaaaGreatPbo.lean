/- Of what RatioBackRow stands on: RbAliW. -/
import Derived.Test.YtcfccblpcngeaaaGreatPbg
import Derived.Test.YtcfccblpcngeaaaGreatPbn
import Derived.Test.YtcfccblpcngeaaaGreatPba
namespace Go.Proofs.YtcfccblpcngeaaaGreat
open Go.RowKit
set_option maxHeartbeats 2000000
set_option maxRecDepth 20000
theorem one_limb {W:World} {B:Nat} {a:Option Addr} {n c:Nat} (h:Mine W B a n c 1):∃ b:Nat,a = some ⟨b,0,none⟩∧n = 1∧W.cell? ⟨b,0,none⟩ = some (.int .u32 1):=by
 have hn:0 < n:=Nat.pos_of_ne_zero fun e=>by have:=(Mine.num h).zero.1 e; omega
 obtain ⟨g,xs,ha,_,_,hl,hr,_,hN,hv,hw⟩:=h.row hn
 match xs,hl,hv,hr,hN with
 | [],hl,_,_,_=>simp at hl; omega
 | [x],hl,hv,hr,_=>
  simp only [Pl.val] at hv
  have hx:x = 1:=by omega
  subst hx
  refine ⟨g,ha,by simpa using hl.symm,?_⟩
  have:=hr.cell 0 (by simp)
  simpa using this
 | x :: y :: r,hl,hv,hr,hN=>
  exfalso
  have h9:=Pl.norm_lower hN (by simp)
  simp only [List.length_cons] at h9
  rw [hv] at h9
  have h8:4294967296 ^ 1≤4294967296 ^ (r.length+1+1 - 1):=Nat.pow_le_pow_right (by decide) (by omega)
  omega
theorem script_ia9 {P:Program} {r:Nat} {t el:TypeId} {A:Option Addr} {len b c:Nat} (hA:A = some ⟨b,0,none⟩) (hu:P.underlying t = some (.slice el)) (hs:∀ r,script P r (sizeOf el) [] = some (1,[])) (hj:0 < len) :
  script P r (Instr.indexAt t (.slice A len c) (.int .i64 0)) [] = some (.pointer (some ⟨b,0+0,none⟩),[]):=by
 subst hA; exact script_isl (j:=0) hu hs rfl hj
theorem zchd_add9 (w:World) (a1 a2 a3 a4:Option Addr) (n1 n2 n3 n4 c1 c2 c3 c4 m1 d1 m2 d2:Nat) (s t g:Bool) (z dn:Nat) (h1:Num w a1 n1 m1) (h2:Num w a2 n2 d1) (h3:Num w a3 n3 m2) (h4:Num w a4 n4 d2) (C1:Hid (∀ W:World,Num W a1 n1 m1→Num W a2 n2 d1→Calls Tryz.prog 15 #[.agg #[.bool s,.slice a1 n1 c1,.slice a2 n2 c2]] W fun e W'=>e = .returned (.int .i64 0)∧Below W.heap.size W W')) (C2:Hid (∀ W:World,Num W a3 n3 m2→Num W a4 n4 d2→Calls Tryz.prog 15 #[.agg #[.bool t,.slice a3 n3 c3,.slice a4 n4 c4]] W fun e W'=>e = .returned (.int .i64 0)∧Below W.heap.size W W')) (HO:Hid (BSum 31 s t m1 d1 m2 d2 z dn g))  :
  Calls Tryz.prog 29 #[.agg #[.bool s,.slice a1 n1 c1,.slice a2 n2 c2,.bool t,.slice a3 n3 c3,.slice a4 n4 c4],.func (.func 31) #[.agg #[.bool s,.slice a1 n1 c1,.slice a2 n2 c2,.bool t,.slice a3 n3 c3,.slice a4 n4 c4]] #[]] w fun en w'=>(∃ A N C A' N' C',en = .returned (.tuple #[.agg #[.bool g,.slice A N C,.slice A' N' C'],.int .i64 0])∧Mine w' w.heap.size A N C z∧Mine w' w.heap.size A' N' C' dn)∧Below w.heap.size w w':=by
 refine calls_sym Tryz.func29 rfl (by kernel_rfl) fun T hK=>?_
 replace hK:Kn T _ [(0,.agg #[.bool s,.slice a1 n1 c1,.slice a2 n2 c2,.bool t,.slice a3 n3 c3,.slice a4 n4 c4]),(1,.func (.func 31) #[.agg #[.bool s,.slice a1 n1 c1,.slice a2 n2 c2,.bool t,.slice a3 n3 c3,.slice a4 n4 c4]] #[])]:=hK
 have hS:=Fb.begin w
 have hG:GsAt [gN a1 n1 m1,gN a2 n2 d1,gN a3 n3 m2,gN a4 n4 d2] w:=⟨h1,h2,h3,h4,trivial⟩
 refine wq hS hG hK (fun p1=>[.n 2 #[.bool s,.slice a1 n1 c1,.slice a2 n2 c2,.bool t,.slice a3 n3 c3,.slice a4 n4 c4] 66,.n 4 #[.bool false,.slice none 0 0,.slice none 0 0] 30,.v 5 (.int .i64 0)]) (fun p1=>[(1,.func (.func 31) #[.agg #[.bool s,.slice a1 n1 c1,.slice a2 n2 c2,.bool t,.slice a3 n3 c3,.slice a4 n4 c4]] #[]),(2,pT (p1 0).N 0),(4,pT (p1 1).N 0),(5,.int .i64 0)]) (fun p1=>?_) (fun p1 W1 T hF hK=>?_)
 ·iterate 2 refine okn ?_
  refine okv ?_
  exact ok_nil
 replace hS:=SymF.fc hS hF [1000,1001] [⟨(p1 0).N,#[.bool s,.slice a1 n1 c1,.slice a2 n2 c2,.bool t,.slice a3 n3 c3,.slice a4 n4 c4],66,true⟩,⟨(p1 1).N,#[.bool false,.slice none 0 0,.slice none 0 0],30,true⟩]
 replace hG:=hF.gx
 clear hF
 refine wp_seq ?_
 refine wq hS hG hK (fun p2=>[.l 7 (.agg #[.bool s,.slice a1 n1 c1,.slice a2 n2 c2,.bool t,.slice a3 n3 c3,.slice a4 n4 c4]) 0 0,.c (some 8) (cV (.int .i64 0)),.v 6 (.int .i64 0)]) (fun p2=>[(1,.func (.func 31) #[.agg #[.bool s,.slice a1 n1 c1,.slice a2 n2 c2,.bool t,.slice a3 n3 c3,.slice a4 n4 c4]] #[]),(4,pT (p1 1).N 0),(5,.int .i64 0),(6,.int .i64 0)]) (fun p2=>?_) (fun p2 W2 T hF hK=>?_)
 ·refine okl ?_
  refine okc (fun W cx=>as_v (zbck _ _ _ _ _ _ _ _ _ _ _ _ _ _ _ _ _ _ _ (cx.G.1) (cx.G.2.1) (cx.G.2.2.1) (cx.G.2.2.2.1) C1 C2)) ?_
  refine okv ?_
  exact ok_nil
 obtain ⟨hS,hG⟩:=SymF.fg hS hF
 clear hF
 refine wq hS hG hK (fun p3=>[.v 9 (.int .i64 0),.v 10 (.bool false)]) (fun p3=>[(1,.func (.func 31) #[.agg #[.bool s,.slice a1 n1 c1,.slice a2 n2 c2,.bool t,.slice a3 n3 c3,.slice a4 n4 c4]] #[]),(4,pT (p1 1).N 0),(5,.int .i64 0),(6,.int .i64 0),(10,.bool false)]) (fun p3=>?_) (fun p3 W3 T hF hK=>?_)
 ·iterate 2 refine okv ?_
  exact ok_nil
 obtain ⟨hS,hG⟩:=SymF.fg hS hF
 clear hF
 have z3:=hS.fr.size
 refine wp_cond_false (hK.ew 10) (wp_skip (then_n ?_))
 refine wq hS hG hK (fun p4=>[.v 13 (.func (.func 31) #[.agg #[.bool s,.slice a1 n1 c1,.slice a2 n2 c2,.bool t,.slice a3 n3 c3,.slice a4 n4 c4]] #[]),.c (some 14) (cH W3.heap.size z dn fun x9 y9=>.tuple #[.agg #[.bool g,x9,y9],.int .i64 0]),.v 15 (.agg #[.bool g,.slice (p4 1).A (p4 1).N (p4 1).C,.slice (p4 1).A' (p4 1).N' (p4 1).C']),.v 16 (.int .i64 0),.p 1 0 [.bool g,.slice (p4 1).A (p4 1).N (p4 1).C,.slice (p4 1).A' (p4 1).N' (p4 1).C'],.v 5 (.int .i64 0)]) (fun p4=>[(4,pT (p1 1).N 0),(5,.int .i64 0),(6,.int .i64 0)]) (fun p4=>?_) (fun p4 W4 T hF hK=>?_)
 ·refine okv ?_
  refine okc (fun W cx=>as_h cx.hb (unhide HO _ _ _ c1 _ _ c2 _ _ c3 _ _ c4 (cx.G.1) (cx.G.2.1) (cx.G.2.2.1) (cx.G.2.2.2.1))) ?_
  iterate 2 refine okv ?_
  refine okp ?_
  refine okv ?_
  exact ok_nil
 replace hS:=SymF.fc hS hF [1] [⟨(p1 1).N,#[.bool g,.slice (p4 1).A (p4 1).N (p4 1).C,.slice (p4 1).A' (p4 1).N' (p4 1).C'],30,true⟩]
 replace hG:GsAt (gM W3.heap.size (p4 1).A (p4 1).N (p4 1).C z :: gM W3.heap.size (p4 1).A' (p4 1).N' (p4 1).C' dn :: _) W4:=⟨And.left (hF.fx 1),And.right (hF.fx 1),hF.gx⟩
 clear hF
 refine wp_ret ?_
 exact sym_end hS hK (.tuple #[.agg #[.bool g,.slice (p4 1).A (p4 1).N (p4 1).C,.slice (p4 1).A' (p4 1).N' (p4 1).C'],.int .i64 0]) [(0,0,3)] [.bool g,.slice (p4 1).A (p4 1).N (p4 1).C,.slice (p4 1).A' (p4 1).N' (p4 1).C'] (by kernel_rfl) (by kernel_rfl) ⟨⟨_,_,_,_,_,_,rfl,Mine.mono hG.1 z3,Mine.mono hG.2.1 z3⟩,hS.fr⟩
theorem zadd9_is (w:World) (a1 a2 a3 a4:Option Addr) (n1 n2 n3 n4 c1 c2 c3 c4 m1 d1 m2 d2:Nat) (s t g:Bool) (z dn:Nat) (h1:Num w a1 n1 m1) (h2:Num w a2 n2 d1) (h3:Num w a3 n3 m2) (h4:Num w a4 n4 d2) (C1:Hid (∀ W:World,Num W a1 n1 m1→Num W a2 n2 d1→Calls Tryz.prog 15 #[.agg #[.bool s,.slice a1 n1 c1,.slice a2 n2 c2]] W fun e W'=>e = .returned (.int .i64 0)∧Below W.heap.size W W')) (C2:Hid (∀ W:World,Num W a3 n3 m2→Num W a4 n4 d2→Calls Tryz.prog 15 #[.agg #[.bool t,.slice a3 n3 c3,.slice a4 n4 c4]] W fun e W'=>e = .returned (.int .i64 0)∧Below W.heap.size W W')) (HO:Hid (BSum 31 s t m1 d1 m2 d2 z dn g))  :
  Calls Tryz.prog 12 #[.agg #[.bool s,.slice a1 n1 c1,.slice a2 n2 c2],.agg #[.bool t,.slice a3 n3 c3,.slice a4 n4 c4]] w fun en w'=>(∃ A N C A' N' C',en = .returned (.tuple #[.agg #[.bool g,.slice A N C,.slice A' N' C'],.int .i64 0])∧Mine w' w.heap.size A N C z∧Mine w' w.heap.size A' N' C' dn)∧Below w.heap.size w w':=by
 refine calls_sym Tryz.func12 rfl (by kernel_rfl) fun T hK=>?_
 replace hK:Kn T _ [(0,.agg #[.bool s,.slice a1 n1 c1,.slice a2 n2 c2]),(1,.agg #[.bool t,.slice a3 n3 c3,.slice a4 n4 c4])]:=hK
 have hS:=Fb.begin w
 have hG:GsAt [gN a1 n1 m1,gN a2 n2 d1,gN a3 n3 m2,gN a4 n4 d2] w:=⟨h1,h2,h3,h4,trivial⟩
 refine wq hS hG hK (fun p1=>[.n 2 #[.bool s,.slice a1 n1 c1,.slice a2 n2 c2] 30,.n 3 #[.bool t,.slice a3 n3 c3,.slice a4 n4 c4] 30,.n 4 #[.bool false,.slice none 0 0,.slice none 0 0] 30,.v 5 (.int .i64 0)]) (fun p1=>[(2,pT (p1 0).N 0),(3,pT (p1 1).N 0),(4,pT (p1 2).N 0),(5,.int .i64 0)]) (fun p1=>?_) (fun p1 W1 T hF hK=>?_)
 ·iterate 3 refine okn ?_
  refine okv ?_
  exact ok_nil
 replace hS:=SymF.fc hS hF [1000,1001,1002] [⟨(p1 0).N,#[.bool s,.slice a1 n1 c1,.slice a2 n2 c2],30,true⟩,⟨(p1 1).N,#[.bool t,.slice a3 n3 c3,.slice a4 n4 c4],30,true⟩,⟨(p1 2).N,#[.bool false,.slice none 0 0,.slice none 0 0],30,true⟩]
 replace hG:=hF.gx
 clear hF
 refine wq hS hG hK (fun p2=>[.l 7 (.agg #[.bool s,.slice a1 n1 c1,.slice a2 n2 c2]) 0 0,.l 8 (.agg #[.bool t,.slice a3 n3 c3,.slice a4 n4 c4]) 1 0,.v 9 (.agg #[.bool s,.slice a1 n1 c1,.slice a2 n2 c2,.bool t,.slice a3 n3 c3,.slice a4 n4 c4]),.n 6 #[.bool false,.slice none 0 0,.slice none 0 0,.bool false,.slice none 0 0,.slice none 0 0] 66,.p 1003 0 [.bool s,.slice a1 n1 c1,.slice a2 n2 c2,.bool t,.slice a3 n3 c3,.slice a4 n4 c4]]) (fun p2=>[(4,pT (p1 2).N 0),(5,.int .i64 0),(6,pT (p2 3).N 0)]) (fun p2=>?_) (fun p2 W2 T hF hK=>?_)
 ·iterate 2 refine okl ?_
  refine okv ?_
  refine okn ?_
  refine okp ?_
  exact ok_nil
 replace hS:=SymF.fc hS hF [2,1003] [⟨(p1 2).N,#[.bool false,.slice none 0 0,.slice none 0 0],30,true⟩,⟨(p2 3).N,#[.bool s,.slice a1 n1 c1,.slice a2 n2 c2,.bool t,.slice a3 n3 c3,.slice a4 n4 c4],66,true⟩]
 replace hG:=hF.gx
 clear hF
 have z2:=hS.fr.size
 refine wq hS hG hK (fun p3=>[.l 10 (.agg #[.bool s,.slice a1 n1 c1,.slice a2 n2 c2,.bool t,.slice a3 n3 c3,.slice a4 n4 c4]) 1 0,.l 11 (.agg #[.bool s,.slice a1 n1 c1,.slice a2 n2 c2,.bool t,.slice a3 n3 c3,.slice a4 n4 c4]) 1 0,.v 12 (.func (.func 31) #[.agg #[.bool s,.slice a1 n1 c1,.slice a2 n2 c2,.bool t,.slice a3 n3 c3,.slice a4 n4 c4]] #[]),.c (some 13) (cH W2.heap.size z dn fun x9 y9=>.tuple #[.agg #[.bool g,x9,y9],.int .i64 0]),.v 14 (.agg #[.bool g,.slice (p3 3).A (p3 3).N (p3 3).C,.slice (p3 3).A' (p3 3).N' (p3 3).C']),.v 15 (.int .i64 0),.p 0 0 [.bool g,.slice (p3 3).A (p3 3).N (p3 3).C,.slice (p3 3).A' (p3 3).N' (p3 3).C'],.v 5 (.int .i64 0)]) (fun p3=>[(4,pT (p1 2).N 0),(5,.int .i64 0)]) (fun p3=>?_) (fun p3 W3 T hF hK=>?_)
 ·iterate 2 refine okl ?_
  refine okv ?_
  refine okc (fun W cx=>as_h cx.hb (zchd_add9 _ _ _ _ _ _ _ _ _ _ _ _ _ _ _ _ _ _ _ _ _ _ (cx.G.1) (cx.G.2.1) (cx.G.2.2.1) (cx.G.2.2.2.1) C1 C2 HO)) ?_
  iterate 2 refine okv ?_
  refine okp ?_
  refine okv ?_
  exact ok_nil
 replace hS:=SymF.fc hS hF [0] [⟨(p1 2).N,#[.bool g,.slice (p3 3).A (p3 3).N (p3 3).C,.slice (p3 3).A' (p3 3).N' (p3 3).C'],30,true⟩]
 replace hG:GsAt (gM W2.heap.size (p3 3).A (p3 3).N (p3 3).C z :: gM W2.heap.size (p3 3).A' (p3 3).N' (p3 3).C' dn :: _) W3:=⟨And.left (hF.fx 3),And.right (hF.fx 3),hF.gx⟩
 clear hF
 refine wp_ret ?_
 exact sym_end hS hK (.tuple #[.agg #[.bool g,.slice (p3 3).A (p3 3).N (p3 3).C,.slice (p3 3).A' (p3 3).N' (p3 3).C'],.int .i64 0]) [(0,0,3)] [.bool g,.slice (p3 3).A (p3 3).N (p3 3).C,.slice (p3 3).A' (p3 3).N' (p3 3).C'] (by kernel_rfl) (by kernel_rfl) ⟨⟨_,_,_,_,_,_,rfl,Mine.mono hG.1 z2,Mine.mono hG.2.1 z2⟩,hS.fr⟩
theorem zsign_t (w:World)   :
  Calls Tryz.prog 34 #[.bool true] w fun en w'=>en = .returned (.int .i64 1)∧Below w.heap.size w w':=by
 refine calls_sym Tryz.func34 rfl (by kernel_rfl) fun T hK=>?_
 replace hK:Kn T _ [(0,.bool true)]:=hK
 have hS:=Fb.begin w
 have hG:GsAt [] w:=trivial
 refine wq hS hG hK (fun p1=>[.v 2 (.int .i64 0)]) (fun p1=>[(0,.bool true),(2,.int .i64 0)]) (fun p1=>?_) (fun p1 W1 T hF hK=>?_)
 ·refine okv ?_
  exact ok_nil
 obtain ⟨hS,hG⟩:=SymF.fg hS hF
 clear hF
 refine wp_seq ?_
 refine wq hS hG hK (fun p2=>[.v 3 (.bool true)]) (fun p2=>[(2,.int .i64 0),(3,.bool true)]) (fun p2=>?_) (fun p2 W2 T hF hK=>?_)
 ·refine okv ?_
  exact ok_nil
 obtain ⟨hS,hG⟩:=SymF.fg hS hF
 clear hF
 refine wp_cond_true (hK.ew 3) ?_
 refine wq hS hG hK (fun p3=>[.v 2 (.int .i64 1)]) (fun p3=>[(2,.int .i64 1)]) (fun p3=>?_) (fun p3 W3 T hF hK=>?_)
 ·refine okv ?_
  exact ok_nil
 obtain ⟨hS,hG⟩:=SymF.fg hS hF
 clear hF
 refine wp_ret ?_
 refine then_r ?_
 exact sym_end hS hK (.int .i64 1) [] [] (by kernel_rfl) (by kernel_rfl) ⟨rfl,hS.fr⟩
theorem zcmp_sg (w:World) (a1 a2 a3 a4:Option Addr) (n1 n2 n3 n4 c1 c2 c3 c4 m1 d1 m2 d2:Nat) (h1:Num w a1 n1 m1) (h2:Num w a2 n2 d1) (h3:Num w a3 n3 m2) (h4:Num w a4 n4 d2) (C1:Hid (∀ W:World,Num W a1 n1 m1→Num W a2 n2 d1→Calls Tryz.prog 15 #[.agg #[.bool false,.slice a1 n1 c1,.slice a2 n2 c2]] W fun e W'=>e = .returned (.int .i64 0)∧Below W.heap.size W W')) (C2:Hid (∀ W:World,Num W a3 n3 m2→Num W a4 n4 d2→Calls Tryz.prog 15 #[.agg #[.bool true,.slice a3 n3 c3,.slice a4 n4 c4]] W fun e W'=>e = .returned (.int .i64 0)∧Below W.heap.size W W'))  :
  Calls Tryz.prog 13 #[.agg #[.bool false,.slice a1 n1 c1,.slice a2 n2 c2],.agg #[.bool true,.slice a3 n3 c3,.slice a4 n4 c4]] w fun en w'=>en = .returned (.tuple #[.int .i64 1,.int .i64 0])∧Below w.heap.size w w':=by
 refine calls_sym Tryz.func13 rfl (by kernel_rfl) fun T hK=>?_
 replace hK:Kn T _ [(0,.agg #[.bool false,.slice a1 n1 c1,.slice a2 n2 c2]),(1,.agg #[.bool true,.slice a3 n3 c3,.slice a4 n4 c4])]:=hK
 have hS:=Fb.begin w
 have hG:GsAt [gN a1 n1 m1,gN a2 n2 d1,gN a3 n3 m2,gN a4 n4 d2] w:=⟨h1,h2,h3,h4,trivial⟩
 refine wq hS hG hK (fun p1=>[.n 2 #[.bool false,.slice a1 n1 c1,.slice a2 n2 c2] 30,.n 3 #[.bool true,.slice a3 n3 c3,.slice a4 n4 c4] 30,.v 4 (.int .i64 0),.v 5 (.int .i64 0)]) (fun p1=>[(2,pT (p1 0).N 0),(3,pT (p1 1).N 0),(4,.int .i64 0),(5,.int .i64 0)]) (fun p1=>?_) (fun p1 W1 T hF hK=>?_)
 ·iterate 2 refine okn ?_
  iterate 2 refine okv ?_
  exact ok_nil
 replace hS:=SymF.fc hS hF [1000,1001] [⟨(p1 0).N,#[.bool false,.slice a1 n1 c1,.slice a2 n2 c2],30,true⟩,⟨(p1 1).N,#[.bool true,.slice a3 n3 c3,.slice a4 n4 c4],30,true⟩]
 replace hG:=hF.gx
 clear hF
 refine wq hS hG hK (fun p2=>[.l 8 (.agg #[.bool false,.slice a1 n1 c1,.slice a2 n2 c2]) 0 0,.l 9 (.agg #[.bool true,.slice a3 n3 c3,.slice a4 n4 c4]) 1 0,.v 10 (.agg #[.bool false,.slice a1 n1 c1,.slice a2 n2 c2,.bool true,.slice a3 n3 c3,.slice a4 n4 c4]),.n 6 #[.bool false,.slice none 0 0,.slice none 0 0,.bool false,.slice none 0 0,.slice none 0 0] 66,.p 1003 0 [.bool false,.slice a1 n1 c1,.slice a2 n2 c2,.bool true,.slice a3 n3 c3,.slice a4 n4 c4]]) (fun p2=>[(2,pT (p1 0).N 0),(3,pT (p1 1).N 0),(4,.int .i64 0),(5,.int .i64 0),(6,pT (p2 3).N 0)]) (fun p2=>?_) (fun p2 W2 T hF hK=>?_)
 ·iterate 2 refine okl ?_
  refine okv ?_
  refine okn ?_
  refine okp ?_
  exact ok_nil
 replace hS:=SymF.fc hS hF [0,1,1003] [⟨(p1 0).N,#[.bool false,.slice a1 n1 c1,.slice a2 n2 c2],30,true⟩,⟨(p1 1).N,#[.bool true,.slice a3 n3 c3,.slice a4 n4 c4],30,true⟩,⟨(p2 3).N,#[.bool false,.slice a1 n1 c1,.slice a2 n2 c2,.bool true,.slice a3 n3 c3,.slice a4 n4 c4],66,true⟩]
 replace hG:=hF.gx
 clear hF
 refine wp_seq ?_
 refine wq hS hG hK (fun p3=>[.l 11 (.agg #[.bool false,.slice a1 n1 c1,.slice a2 n2 c2,.bool true,.slice a3 n3 c3,.slice a4 n4 c4]) 2 0,.c (some 12) (cV (.int .i64 0)),.v 7 (.int .i64 0)]) (fun p3=>[(2,pT (p1 0).N 0),(3,pT (p1 1).N 0),(4,.int .i64 0),(5,.int .i64 0),(6,pT (p2 3).N 0),(7,.int .i64 0)]) (fun p3=>?_) (fun p3 W3 T hF hK=>?_)
 ·refine okl ?_
  refine okc (fun W cx=>as_v (zbck _ _ _ _ _ _ _ _ _ _ _ _ _ _ _ _ _ _ _ (cx.G.1) (cx.G.2.1) (cx.G.2.2.1) (cx.G.2.2.2.1) C1 C2)) ?_
  refine okv ?_
  exact ok_nil
 obtain ⟨hS,hG⟩:=SymF.fg hS hF
 clear hF
 refine wq hS hG hK (fun p4=>[.v 13 (.int .i64 0),.v 14 (.bool false)]) (fun p4=>[(2,pT (p1 0).N 0),(3,pT (p1 1).N 0),(4,.int .i64 0),(5,.int .i64 0),(6,pT (p2 3).N 0),(7,.int .i64 0),(14,.bool false)]) (fun p4=>?_) (fun p4 W4 T hF hK=>?_)
 ·iterate 2 refine okv ?_
  exact ok_nil
 obtain ⟨hS,hG⟩:=SymF.fg hS hF
 clear hF
 refine wp_cond_false (hK.ew 14) (wp_skip ?_)
 refine then_n (wp_seq ?_)
 refine wq hS hG hK (fun p5=>[.l 16 (.agg #[.bool false,.slice a1 n1 c1,.slice a2 n2 c2,.bool true,.slice a3 n3 c3,.slice a4 n4 c4]) 2 0,.c (some 17) (cV (.bool false))]) (fun p5=>[(2,pT (p1 0).N 0),(3,pT (p1 1).N 0),(4,.int .i64 0),(5,.int .i64 0),(6,pT (p2 3).N 0),(7,.int .i64 0),(17,.bool false)]) (fun p5=>?_) (fun p5 W5 T hF hK=>?_)
 ·refine okl ?_
  refine okc (fun W cx=>as_v (same_shape false true a1 a2 a3 a4 n1 n2 n3 n4 c1 c2 c3 c4 rfl _)) ?_
  exact ok_nil
 obtain ⟨hS,hG⟩:=SymF.fg hS hF
 clear hF
 refine wp_cond_false (hK.ew 17) (wp_skip ?_)
 refine then_n (wp_seq ?_)
 refine wq hS hG hK (fun p6=>[.v 18 (pT (p1 0).N 0),.l 19 (.bool false) 0 0,.v 20 (pT (p1 1).N 0),.l 21 (.bool true) 1 0,.v 22 (.bool true)]) (fun p6=>[(2,pT (p1 0).N 0),(3,pT (p1 1).N 0),(4,.int .i64 0),(5,.int .i64 0),(6,pT (p2 3).N 0),(7,.int .i64 0),(22,.bool true)]) (fun p6=>?_) (fun p6 W6 T hF hK=>?_)
 ·refine okv ?_
  refine okl ?_
  refine okv ?_
  refine okl ?_
  refine okv ?_
  exact ok_nil
 obtain ⟨hS,hG⟩:=SymF.fg hS hF
 clear hF
 refine wp_cond_true (hK.ew 22) ?_
 refine wq hS hG hK (fun p7=>[.v 23 (pT (p1 1).N 0),.l 24 (.bool true) 1 0,.c (some 25) (cV (.int .i64 1)),.v 4 (.int .i64 1),.v 5 (.int .i64 0)]) (fun p7=>[(2,pT (p1 0).N 0),(4,.int .i64 1),(5,.int .i64 0),(6,pT (p2 3).N 0),(7,.int .i64 0)]) (fun p7=>?_) (fun p7 W7 T hF hK=>?_)
 ·refine okv ?_
  refine okl ?_
  refine okc (fun W cx=>as_v (zsign_t _)) ?_
  iterate 2 refine okv ?_
  exact ok_nil
 obtain ⟨hS,hG⟩:=SymF.fg hS hF
 clear hF
 refine wp_ret ?_
 refine then_r ?_
 exact sym_end hS hK (.tuple #[.int .i64 1,.int .i64 0]) [] [] (by kernel_rfl) (by kernel_rfl) ⟨rfl,hS.fr⟩
theorem zfloor_n (w:World) (a b:Option Addr) (n c k l x y:Nat) (q r v:Nat) (h1:Num w a n x) (h2:Num w b k y) (HC:Hid (∀ W:World,Num W a n x→Num W b k y→Calls Tryz.prog 15 #[.agg #[.bool true,.slice a n c,.slice b k l]] W fun e W'=>e = .returned (.int .i64 0)∧Below W.heap.size W W')) (HD:∀ p:Nat,Hid (WDiv p x y q r)) (hr:r≠0) (HA:∀ p:Nat,Hid (WTwo 37 p q 1 v))  :
  Calls Tryz.prog 14 #[.agg #[.bool true,.slice a n c,.slice b k l]] w fun en w'=>(∃ A N C,en = .returned (.tuple #[.bool true,.agg #[.slice A N C],.int .i64 0])∧Mine w' w.heap.size A N C v)∧Below w.heap.size w w':=by
 refine calls_sym Tryz.func14 rfl (by kernel_rfl) fun T hK=>?_
 replace hK:Kn T _ [(0,.agg #[.bool true,.slice a n c,.slice b k l])]:=hK
 have hS:=Fb.begin w
 have hG:GsAt [gN a n x,gN b k y] w:=⟨h1,h2,trivial⟩
 refine wq hS hG hK (fun p1=>[.n 1 #[.bool true,.slice a n c,.slice b k l] 30,.v 2 (.bool false),.n 3 #[.slice none 0 0] 28,.v 4 (.int .i64 0)]) (fun p1=>[(1,pT (p1 0).N 0),(2,.bool false),(3,pT (p1 2).N 0),(4,.int .i64 0)]) (fun p1=>?_) (fun p1 W1 T hF hK=>?_)
 ·refine okn ?_
  refine okv ?_
  refine okn ?_
  refine okv ?_
  exact ok_nil
 replace hS:=SymF.fc hS hF [1000,1002] [⟨(p1 0).N,#[.bool true,.slice a n c,.slice b k l],30,true⟩,⟨(p1 2).N,#[.slice none 0 0],28,true⟩]
 replace hG:=hF.gx
 clear hF
 refine wp_seq ?_
 refine wq hS hG hK (fun p2=>[.l 8 (.agg #[.bool true,.slice a n c,.slice b k l]) 0 0,.c (some 9) (cV (.int .i64 0)),.v 5 (.int .i64 0)]) (fun p2=>[(1,pT (p1 0).N 0),(2,.bool false),(3,pT (p1 2).N 0),(4,.int .i64 0),(5,.int .i64 0)]) (fun p2=>?_) (fun p2 W2 T hF hK=>?_)
 ·refine okl ?_
  refine okc (fun W cx=>as_v (unhide HC _ (cx.G.1) (cx.G.2.1))) ?_
  refine okv ?_
  exact ok_nil
 obtain ⟨hS,hG⟩:=SymF.fg hS hF
 clear hF
 refine wq hS hG hK (fun p3=>[.v 10 (.int .i64 0),.v 11 (.bool false)]) (fun p3=>[(1,pT (p1 0).N 0),(2,.bool false),(3,pT (p1 2).N 0),(4,.int .i64 0),(5,.int .i64 0),(11,.bool false)]) (fun p3=>?_) (fun p3 W3 T hF hK=>?_)
 ·iterate 2 refine okv ?_
  exact ok_nil
 obtain ⟨hS,hG⟩:=SymF.fg hS hF
 clear hF
 refine wp_cond_false (hK.ew 11) (wp_skip (then_n ?_))
 refine wq hS hG hK (fun p4=>[.n 6 #[.int .i64 0] 73]) (fun p4=>[(1,pT (p1 0).N 0),(2,.bool false),(3,pT (p1 2).N 0),(4,.int .i64 0),(5,.int .i64 0),(6,pT (p4 0).N 0)]) (fun p4=>?_) (fun p4 W4 T hF hK=>?_)
 ·refine okn ?_
  exact ok_nil
 replace hS:=SymF.fc hS hF [0,1,1000] [⟨(p1 0).N,#[.bool true,.slice a n c,.slice b k l],30,true⟩,⟨(p1 2).N,#[.slice none 0 0],28,true⟩,⟨(p4 0).N,#[.int .i64 0],73,true⟩]
 replace hG:=hF.gx
 clear hF
 refine wq hS hG hK (fun p5=>[.v 15 (pT (p1 0).N 1),.l 16 (.agg #[.slice a n c]) 0 1,.v 17 (pT (p1 0).N 2),.l 18 (.agg #[.slice b k l]) 0 2,.c (some 19) (cH W4.heap.size q r fun x9 y9=>.tuple #[.agg #[x9],.agg #[y9]]),.v 14 (.tuple #[.agg #[.slice (p5 4).A (p5 4).N (p5 4).C],.agg #[.slice (p5 4).A' (p5 4).N' (p5 4).C']]),.v 20 (.agg #[.slice (p5 4).A (p5 4).N (p5 4).C]),.v 21 (.agg #[.slice (p5 4).A' (p5 4).N' (p5 4).C']),.n 7 #[.slice none 0 0] 28,.p 1 0 [.slice (p5 4).A (p5 4).N (p5 4).C],.p 1008 0 [.slice (p5 4).A' (p5 4).N' (p5 4).C']]) (fun p5=>[(1,pT (p1 0).N 0),(2,.bool false),(3,pT (p1 2).N 0),(4,.int .i64 0),(5,.int .i64 0),(6,pT (p4 0).N 0),(7,pT (p5 8).N 0)]) (fun p5=>?_) (fun p5 W5 T hF hK=>?_)
 ·refine okv ?_
  refine okl ?_
  refine okv ?_
  refine okl ?_
  refine okc (fun W cx=>as_h cx.hb (unhide (HD (p4 0).N) _ _ _ c _ _ l ⟨_,_,cx.B 2 _ rfl (by kernel_rfl) (by kernel_rfl),rfl⟩ (cx.G.1) (cx.G.2.1))) ?_
  iterate 3 refine okv ?_
  refine okn ?_
  iterate 2 refine okp ?_
  exact ok_nil
 replace hS:=SymF.fc hS hF [0,1,2,1008] [⟨(p1 0).N,#[.bool true,.slice a n c,.slice b k l],30,true⟩,⟨(p1 2).N,#[.slice (p5 4).A (p5 4).N (p5 4).C],28,true⟩,⟨(p4 0).N,#[.int .i64 0],73,true⟩,⟨(p5 8).N,#[.slice (p5 4).A' (p5 4).N' (p5 4).C'],28,true⟩]
 replace hG:GsAt (gM W4.heap.size (p5 4).A (p5 4).N (p5 4).C q :: gM W4.heap.size (p5 4).A' (p5 4).N' (p5 4).C' r :: _) W5:=⟨And.left (hF.fx 4),And.right (hF.fx 4),hF.gx⟩
 clear hF
 refine wp_seq ?_
 refine wq hS hG hK (fun p6=>[.v 22 (pT (p1 0).N 0),.l 23 (.bool true) 0 0,.v 24 (.bool true),.l 25 (.agg #[.slice (p5 4).A' (p5 4).N' (p5 4).C']) 3 0,.c (some 26) (cV (.bool false)),.v 27 (.bool true),.v 28 (.bool true)]) (fun p6=>[(1,pT (p1 0).N 0),(2,.bool false),(3,pT (p1 2).N 0),(4,.int .i64 0),(5,.int .i64 0),(6,pT (p4 0).N 0),(28,.bool true)]) (fun p6=>?_) (fun p6 W6 T hF hK=>?_)
 ·refine okv ?_
  refine okl ?_
  refine okv ?_
  refine okl ?_
  refine okc (fun W cx=>as_v (znought (p5 4).A' _ (p5 4).C' _ _ ((Num.zdec (Mine.num cx.G.2.1)).trans (decide_eq_false hr)))) ?_
  iterate 2 refine okv ?_
  exact ok_nil
 obtain ⟨hS,hG⟩:=SymF.fg hS hF
 clear hF
 have z6:=hS.fr.size
 refine wp_cond_true (hK.ew 28) ?_
 refine wg hS hG hK (fun p7=>[.l 29 (.agg #[.slice (p5 4).A (p5 4).N (p5 4).C]) 1 0,.c (some 30) (cN W6.heap.size 1),.c (some 31) (cN W6.heap.size v),.p 1 0 [.slice (p7 2).A (p7 2).N (p7 2).C]]) (fun p7=>[(1,pT (p1 0).N 0),(2,.bool false),(3,pT (p1 2).N 0),(4,.int .i64 0),(5,.int .i64 0),(6,pT (p4 0).N 0)]) (fun p7=>?_) (fun p7 W7 T hF hK=>?_)
 ·refine okl ?_
  refine okc (fun W cx=>as_n cx.hb (of_any 1 _ (by decide))) ?_
  refine okc (fun W cx=>as_n cx.hb (unhide (HA (p4 0).N) _ _ _ (p5 4).C _ _ (p7 1).C ⟨_,_,cx.B 2 _ rfl (by kernel_rfl) (by kernel_rfl),rfl⟩ (Mine.num cx.G.1) (Mine.num (cx.F 1 (by kernel_rfl))))) ?_
  refine okp ?_
  exact ok_nil
 replace hS:=SymF.fc hS hF [0,1,2] [⟨(p1 0).N,#[.bool true,.slice a n c,.slice b k l],30,true⟩,⟨(p1 2).N,#[.slice (p7 2).A (p7 2).N (p7 2).C],28,true⟩,⟨(p4 0).N,#[.int .i64 0],73,true⟩]
 replace hG:GsAt (gM W6.heap.size (p7 1).A (p7 1).N (p7 1).C 1 :: gM W6.heap.size (p7 2).A (p7 2).N (p7 2).C v :: _) W7:=⟨hF.fx 1,hF.fx 2,hF.gx⟩
 clear hF
 refine then_n ?_
 refine wq hS hG hK (fun p8=>[.v 32 (pT (p1 0).N 0),.l 33 (.bool true) 0 0,.l 34 (.agg #[.slice (p7 2).A (p7 2).N (p7 2).C]) 1 0,.v 35 (pT (p4 0).N 0),.v 36 (pT (p4 0).N 0),.l 37 (.int .i64 0) 2 0,.v 2 (.bool true),.p 1 0 [.slice (p7 2).A (p7 2).N (p7 2).C],.v 4 (.int .i64 0)]) (fun p8=>[(2,.bool true),(3,pT (p1 2).N 0),(4,.int .i64 0),(5,.int .i64 0)]) (fun p8=>?_) (fun p8 W8 T hF hK=>?_)
 ·refine okv ?_
  iterate 2 refine okl ?_
  iterate 2 refine okv ?_
  refine okl ?_
  refine okv ?_
  refine okp ?_
  refine okv ?_
  exact ok_nil
 replace hS:=SymF.fc hS hF [1] [⟨(p1 2).N,#[.slice (p7 2).A (p7 2).N (p7 2).C],28,true⟩]
 replace hG:=hF.gx
 clear hF
 refine wp_ret ?_
 exact sym_end hS hK (.tuple #[.bool true,.agg #[.slice (p7 2).A (p7 2).N (p7 2).C],.int .i64 0]) [(0,0,1)] [.slice (p7 2).A (p7 2).N (p7 2).C] (by kernel_rfl) (by kernel_rfl) ⟨⟨_,_,_,rfl,Mine.mono hG.2.1 z6⟩,hS.fr⟩
theorem zmake_0 (w:World) (s:Bool) (a b:Option Addr) (n c k l x:Nat) (h1:Num w a n x) (h2:Num w b k 0)  :
  Calls Tryz.prog 17 #[.bool s,.agg #[.slice a n c],.agg #[.slice b k l]] w fun en w'=>en = .returned (.tuple #[.agg #[.bool false,.slice none 0 0,.slice none 0 0],.int .i64 11])∧Below w.heap.size w w':=by
 refine calls_sym Tryz.func17 rfl (by kernel_rfl) fun T hK=>?_
 replace hK:Kn T _ [(0,.bool s),(1,.agg #[.slice a n c]),(2,.agg #[.slice b k l])]:=hK
 have hS:=Fb.begin w
 have hG:GsAt [gN a n x,gN b k 0] w:=⟨h1,h2,trivial⟩
 refine wq hS hG hK (fun p1=>[.n 4 #[.slice a n c] 28,.n 5 #[.slice b k l] 28,.n 6 #[.bool false,.slice none 0 0,.slice none 0 0] 30,.v 7 (.int .i64 0)]) (fun p1=>[(0,.bool s),(4,pT (p1 0).N 0),(5,pT (p1 1).N 0),(6,pT (p1 2).N 0),(7,.int .i64 0)]) (fun p1=>?_) (fun p1 W1 T hF hK=>?_)
 ·iterate 3 refine okn ?_
  refine okv ?_
  exact ok_nil
 replace hS:=SymF.fc hS hF [1000,1001,1002] [⟨(p1 0).N,#[.slice a n c],28,true⟩,⟨(p1 1).N,#[.slice b k l],28,true⟩,⟨(p1 2).N,#[.bool false,.slice none 0 0,.slice none 0 0],30,true⟩]
 replace hG:=hF.gx
 clear hF
 refine wp_seq ?_
 refine wq hS hG hK (fun p2=>[.l 12 (.agg #[.slice a n c]) 0 0,.c (some 13) (cV (.int .i64 0)),.v 8 (.int .i64 0)]) (fun p2=>[(0,.bool s),(4,pT (p1 0).N 0),(5,pT (p1 1).N 0),(6,pT (p1 2).N 0),(7,.int .i64 0),(8,.int .i64 0)]) (fun p2=>?_) (fun p2 W2 T hF hK=>?_)
 ·refine okl ?_
  refine okc (fun W cx=>as_v (check_num _ _ c _ _ (cx.G.1))) ?_
  refine okv ?_
  exact ok_nil
 obtain ⟨hS,hG⟩:=SymF.fg hS hF
 clear hF
 refine wq hS hG hK (fun p3=>[.v 14 (.int .i64 0),.v 15 (.bool false)]) (fun p3=>[(0,.bool s),(4,pT (p1 0).N 0),(5,pT (p1 1).N 0),(6,pT (p1 2).N 0),(7,.int .i64 0),(8,.int .i64 0),(15,.bool false)]) (fun p3=>?_) (fun p3 W3 T hF hK=>?_)
 ·iterate 2 refine okv ?_
  exact ok_nil
 obtain ⟨hS,hG⟩:=SymF.fg hS hF
 clear hF
 refine wp_cond_false (hK.ew 15) (wp_skip ?_)
 refine then_n (wp_seq ?_)
 refine wq hS hG hK (fun p4=>[.l 18 (.agg #[.slice b k l]) 1 0,.c (some 19) (cV (.int .i64 0)),.v 9 (.int .i64 0)]) (fun p4=>[(0,.bool s),(4,pT (p1 0).N 0),(5,pT (p1 1).N 0),(6,pT (p1 2).N 0),(7,.int .i64 0),(8,.int .i64 0),(9,.int .i64 0)]) (fun p4=>?_) (fun p4 W4 T hF hK=>?_)
 ·refine okl ?_
  refine okc (fun W cx=>as_v (check_num _ _ l _ _ (cx.G.2.1))) ?_
  refine okv ?_
  exact ok_nil
 obtain ⟨hS,hG⟩:=SymF.fg hS hF
 clear hF
 refine wq hS hG hK (fun p5=>[.v 20 (.int .i64 0),.v 21 (.bool false)]) (fun p5=>[(0,.bool s),(4,pT (p1 0).N 0),(5,pT (p1 1).N 0),(6,pT (p1 2).N 0),(7,.int .i64 0),(8,.int .i64 0),(9,.int .i64 0),(21,.bool false)]) (fun p5=>?_) (fun p5 W5 T hF hK=>?_)
 ·iterate 2 refine okv ?_
  exact ok_nil
 obtain ⟨hS,hG⟩:=SymF.fg hS hF
 clear hF
 refine wp_cond_false (hK.ew 21) (wp_skip ?_)
 refine then_n (wp_seq ?_)
 refine wq hS hG hK (fun p6=>[.l 24 (.agg #[.slice b k l]) 1 0,.c (some 25) (cV (.bool true))]) (fun p6=>[(0,.bool s),(4,pT (p1 0).N 0),(5,pT (p1 1).N 0),(6,pT (p1 2).N 0),(7,.int .i64 0),(8,.int .i64 0),(9,.int .i64 0),(25,.bool true)]) (fun p6=>?_) (fun p6 W6 T hF hK=>?_)
 ·refine okl ?_
  refine okc (fun W cx=>as_v (znought b _ l _ _ ((Num.zdec (cx.G.2.1)).trans (decide_eq_true rfl)))) ?_
  exact ok_nil
 obtain ⟨hS,hG⟩:=SymF.fg hS hF
 clear hF
 refine wp_cond_true (hK.ew 25) ?_
 refine wq hS hG hK (fun p7=>[.v 26 (.agg #[.bool false,.slice none 0 0,.slice none 0 0]),.p 2 0 [.bool false,.slice none 0 0,.slice none 0 0],.v 7 (.int .i64 11)]) (fun p7=>[(0,.bool s),(4,pT (p1 0).N 0),(5,pT (p1 1).N 0),(6,pT (p1 2).N 0),(7,.int .i64 11),(8,.int .i64 0),(9,.int .i64 0)]) (fun p7=>?_) (fun p7 W7 T hF hK=>?_)
 ·refine okv ?_
  refine okp ?_
  refine okv ?_
  exact ok_nil
 obtain ⟨hS,hG⟩:=SymF.fg hS hF
 clear hF
 refine wp_ret ?_
 refine then_r ?_
 exact sym_end hS hK (.tuple #[.agg #[.bool false,.slice none 0 0,.slice none 0 0],.int .i64 11]) [(2,0,3)] [.bool false,.slice none 0 0,.slice none 0 0] (by kernel_rfl) (by kernel_rfl) ⟨rfl,hS.fr⟩
theorem zpar_0 (w:World) (S d t u:ByteArray) (s:Bool) (x:Nat) (at9 at8:Int) (hSz:S.size≤65536) (ha8:IntKind.i64.wrap ((S.size:Int) - (d.size:Int)) = at8) (ha9:IntKind.i64.wrap (at8+((t.size:Int)+1)) = at9) (ht9:IntKind.i64.wrap ((t.size:Int)+1) = (t.size:Int)+1) (HP:Hid (∀ W:World,Calls Tryz.prog 20 #[.string S,.string ⟨#[45]⟩] W fun e W'=>e = .returned (.tuple #[.string d,.bool s])∧Below W.heap.size W W')) (HT:Hid (∀ W:World,Calls Tryz.prog 21 #[.string d,.string ⟨#[47]⟩] W fun e W'=>e = .returned (.tuple #[.string t,.string u,.bool true])∧Below W.heap.size W W')) (H1:Hid (∀ W:World,Calls Tryz.prog 22 #[.string t] W fun en W'=>(∃ A N C,en = .returned (.tuple #[.agg #[.slice A N C],.int .i64 0,.int .i64 0])∧Mine W' W.heap.size A N C x)∧Below W.heap.size W W')) (H2:Hid (∀ W:World,Calls Tryz.prog 22 #[.string u] W fun en W'=>(∃ A N C,en = .returned (.tuple #[.agg #[.slice A N C],.int .i64 0,.int .i64 0])∧Mine W' W.heap.size A N C 0)∧Below W.heap.size W W'))  :
  Calls Tryz.prog 7 #[.string S] w fun en w'=>en = .returned (.tuple #[.agg #[.bool false,.slice none 0 0,.slice none 0 0],.int .i64 at9,.int .i64 11])∧Below w.heap.size w w':=by
 refine calls_sym Tryz.func7 rfl (by kernel_rfl) fun T hK=>?_
 replace hK:Kn T _ [(0,.string S)]:=hK
 have hS:=Fb.begin w
 have hG:GsAt [] w:=trivial
 refine wq hS hG hK (fun p1=>[.n 2 #[.bool false,.slice none 0 0,.slice none 0 0] 30,.v 3 (.int .i64 0),.v 4 (.int .i64 0)]) (fun p1=>[(0,.string S),(2,pT (p1 0).N 0),(3,.int .i64 0),(4,.int .i64 0)]) (fun p1=>?_) (fun p1 W1 T hF hK=>?_)
 ·refine okn ?_
  iterate 2 refine okv ?_
  exact ok_nil
 replace hS:=SymF.fc hS hF [1000] [⟨(p1 0).N,#[.bool false,.slice none 0 0,.slice none 0 0],30,true⟩]
 replace hG:=hF.gx
 clear hF
 refine wp_seq ?_
 refine wq hS hG hK (fun p2=>[.v 16 (.string S),.v 17 (.int .i64 (S.size:Int)),.v 18 (.bool false)]) (fun p2=>[(0,.string S),(2,pT (p1 0).N 0),(3,.int .i64 0),(4,.int .i64 0),(18,.bool false)]) (fun p2=>?_) (fun p2 W2 T hF hK=>?_)
 ·iterate 2 refine okv ?_
  refine okvb (decide_eq_false (show ¬ (S.size:Int) > 65536 by omega)) ?_
  exact ok_nil
 obtain ⟨hS,hG⟩:=SymF.fg hS hF
 clear hF
 refine wp_cond_false (hK.ew 18) (wp_skip (then_n ?_))
 refine wq hS hG hK (fun p3=>[.v 21 (.string S),.c (some 22) (cV (.tuple #[.string d,.bool s])),.v 20 (.tuple #[.string d,.bool s]),.v 23 (.string d),.v 24 (.bool s),.v 5 (.string d),.v 6 (.bool s)]) (fun p3=>[(0,.string S),(2,pT (p1 0).N 0),(3,.int .i64 0),(4,.int .i64 0),(5,.string d),(6,.bool s)]) (fun p3=>?_) (fun p3 W3 T hF hK=>?_)
 ·refine okv ?_
  refine okc (fun W cx=>as_v (unhide HP _)) ?_
  iterate 5 refine okv ?_
  exact ok_nil
 obtain ⟨hS,hG⟩:=SymF.fg hS hF
 clear hF
 refine wq hS hG hK (fun p4=>[.v 26 (.string d),.c (some 27) (cV (.tuple #[.string t,.string u,.bool true])),.v 25 (.tuple #[.string t,.string u,.bool true]),.v 28 (.string t),.v 29 (.string u),.v 30 (.bool true),.v 7 (.string t),.v 8 (.string u),.v 9 (.bool true)]) (fun p4=>[(0,.string S),(2,pT (p1 0).N 0),(3,.int .i64 0),(4,.int .i64 0),(5,.string d),(6,.bool s),(7,.string t),(8,.string u),(9,.bool true)]) (fun p4=>?_) (fun p4 W4 T hF hK=>?_)
 ·refine okv ?_
  refine okc (fun W cx=>as_v (unhide HT _)) ?_
  iterate 7 refine okv ?_
  exact ok_nil
 obtain ⟨hS,hG⟩:=SymF.fg hS hF
 clear hF
 refine wq hS hG hK (fun p5=>[.v 31 (.string S),.v 32 (.int .i64 (S.size:Int)),.v 33 (.string d),.v 34 (.int .i64 (d.size:Int)),.v 35 (.int .i64 at8),.v 10 (.int .i64 at8)]) (fun p5=>[(2,pT (p1 0).N 0),(3,.int .i64 0),(4,.int .i64 0),(6,.bool s),(7,.string t),(8,.string u),(9,.bool true),(10,.int .i64 at8)]) (fun p5=>?_) (fun p5 W5 T hF hK=>?_)
 ·iterate 4 refine okv ?_
  refine okvi (ha8) ?_
  refine okv ?_
  exact ok_nil
 obtain ⟨hS,hG⟩:=SymF.fg hS hF
 clear hF
 refine wq hS hG hK (fun p6=>[.v 37 (.string t),.c (some 38) (cG W5.heap.size x fun x9=>.tuple #[.agg #[x9],.int .i64 0,.int .i64 0]),.v 36 (.tuple #[.agg #[.slice (p6 1).A (p6 1).N (p6 1).C],.int .i64 0,.int .i64 0]),.v 39 (.agg #[.slice (p6 1).A (p6 1).N (p6 1).C]),.v 40 (.int .i64 0),.v 41 (.int .i64 0),.n 11 #[.slice none 0 0] 28,.p 1006 0 [.slice (p6 1).A (p6 1).N (p6 1).C],.v 12 (.int .i64 0),.v 13 (.int .i64 0)]) (fun p6=>[(2,pT (p1 0).N 0),(3,.int .i64 0),(4,.int .i64 0),(6,.bool s),(7,.string t),(8,.string u),(9,.bool true),(10,.int .i64 at8),(11,pT (p6 6).N 0),(12,.int .i64 0),(13,.int .i64 0)]) (fun p6=>?_) (fun p6 W6 T hF hK=>?_)
 ·refine okv ?_
  refine okc (fun W cx=>as_g cx.hb (unhide H1 _)) ?_
  iterate 4 refine okv ?_
  refine okn ?_
  refine okp ?_
  iterate 2 refine okv ?_
  exact ok_nil
 replace hS:=SymF.fc hS hF [0,1006] [⟨(p1 0).N,#[.bool false,.slice none 0 0,.slice none 0 0],30,true⟩,⟨(p6 6).N,#[.slice (p6 1).A (p6 1).N (p6 1).C],28,true⟩]
 replace hG:GsAt (gM W5.heap.size (p6 1).A (p6 1).N (p6 1).C x :: _) W6:=⟨hF.fx 1,hF.gx⟩
 clear hF
 refine wp_seq ?_
 refine wq hS hG hK (fun p7=>[.v 42 (.int .i64 0),.v 43 (.bool false)]) (fun p7=>[(2,pT (p1 0).N 0),(3,.int .i64 0),(4,.int .i64 0),(6,.bool s),(7,.string t),(8,.string u),(9,.bool true),(10,.int .i64 at8),(11,pT (p6 6).N 0),(12,.int .i64 0),(13,.int .i64 0),(43,.bool false)]) (fun p7=>?_) (fun p7 W7 T hF hK=>?_)
 ·iterate 2 refine okv ?_
  exact ok_nil
 obtain ⟨hS,hG⟩:=SymF.fg hS hF
 clear hF
 refine wp_cond_false (hK.ew 43) (wp_skip (then_n ?_))
 refine wq hS hG hK (fun p8=>[.c (some 49) (cN W7.heap.size 1),.n 14 #[.slice none 0 0] 28,.p 1001 0 [.slice (p8 0).A (p8 0).N (p8 0).C]]) (fun p8=>[(2,pT (p1 0).N 0),(3,.int .i64 0),(4,.int .i64 0),(6,.bool s),(7,.string t),(8,.string u),(9,.bool true),(10,.int .i64 at8),(11,pT (p6 6).N 0),(12,.int .i64 0),(13,.int .i64 0),(14,pT (p8 1).N 0)]) (fun p8=>?_) (fun p8 W8 T hF hK=>?_)
 ·refine okc (fun W cx=>as_n cx.hb (of_any 1 _ (by decide))) ?_
  refine okn ?_
  refine okp ?_
  exact ok_nil
 replace hS:=SymF.fc hS hF [0,1,1001] [⟨(p1 0).N,#[.bool false,.slice none 0 0,.slice none 0 0],30,true⟩,⟨(p6 6).N,#[.slice (p6 1).A (p6 1).N (p6 1).C],28,true⟩,⟨(p8 1).N,#[.slice (p8 0).A (p8 0).N (p8 0).C],28,true⟩]
 replace hG:GsAt (gM W7.heap.size (p8 0).A (p8 0).N (p8 0).C 1 :: _) W8:=⟨hF.fx 0,hF.gx⟩
 clear hF
 refine wp_seq ?_
 refine wq hS hG hK (fun p9=>[.v 50 (.bool true)]) (fun p9=>[(2,pT (p1 0).N 0),(3,.int .i64 0),(4,.int .i64 0),(6,.bool s),(7,.string t),(8,.string u),(10,.int .i64 at8),(11,pT (p6 6).N 0),(12,.int .i64 0),(13,.int .i64 0),(14,pT (p8 1).N 0),(50,.bool true)]) (fun p9=>?_) (fun p9 W9 T hF hK=>?_)
 ·refine okv ?_
  exact ok_nil
 obtain ⟨hS,hG⟩:=SymF.fg hS hF
 clear hF
 refine wp_cond_true (hK.ew 50) ?_
 refine wq hS hG hK (fun p10=>[.v 51 (.int .i64 at8),.v 52 (.string t),.v 53 (.int .i64 (t.size:Int)),.v 54 (.int .i64 ((t.size:Int)+1)),.v 55 (.int .i64 at9),.v 10 (.int .i64 at9)]) (fun p10=>[(2,pT (p1 0).N 0),(3,.int .i64 0),(4,.int .i64 0),(6,.bool s),(8,.string u),(10,.int .i64 at9),(11,pT (p6 6).N 0),(12,.int .i64 0),(13,.int .i64 0),(14,pT (p8 1).N 0)]) (fun p10=>?_) (fun p10 W10 T hF hK=>?_)
 ·iterate 3 refine okv ?_
  refine okvi (ht9) ?_
  refine okvi (ha9) ?_
  refine okv ?_
  exact ok_nil
 obtain ⟨hS,hG⟩:=SymF.fg hS hF
 clear hF
 refine wq hS hG hK (fun p11=>[.v 57 (.string u),.c (some 58) (cG W10.heap.size 0 fun x9=>.tuple #[.agg #[x9],.int .i64 0,.int .i64 0]),.v 56 (.tuple #[.agg #[.slice (p11 1).A (p11 1).N (p11 1).C],.int .i64 0,.int .i64 0]),.v 59 (.agg #[.slice (p11 1).A (p11 1).N (p11 1).C]),.v 60 (.int .i64 0),.v 61 (.int .i64 0),.p 2 0 [.slice (p11 1).A (p11 1).N (p11 1).C],.v 12 (.int .i64 0),.v 13 (.int .i64 0)]) (fun p11=>[(2,pT (p1 0).N 0),(3,.int .i64 0),(4,.int .i64 0),(6,.bool s),(10,.int .i64 at9),(11,pT (p6 6).N 0),(12,.int .i64 0),(13,.int .i64 0),(14,pT (p8 1).N 0)]) (fun p11=>?_) (fun p11 W11 T hF hK=>?_)
 ·refine okv ?_
  refine okc (fun W cx=>as_g cx.hb (unhide H2 _)) ?_
  iterate 4 refine okv ?_
  refine okp ?_
  iterate 2 refine okv ?_
  exact ok_nil
 replace hS:=SymF.fc hS hF [0,1,2] [⟨(p1 0).N,#[.bool false,.slice none 0 0,.slice none 0 0],30,true⟩,⟨(p6 6).N,#[.slice (p6 1).A (p6 1).N (p6 1).C],28,true⟩,⟨(p8 1).N,#[.slice (p11 1).A (p11 1).N (p11 1).C],28,true⟩]
 replace hG:GsAt (gM W10.heap.size (p11 1).A (p11 1).N (p11 1).C 0 :: _) W11:=⟨hF.fx 1,hF.gx⟩
 clear hF
 refine wq hS hG hK (fun p12=>[.v 62 (.int .i64 0),.v 63 (.bool false)]) (fun p12=>[(2,pT (p1 0).N 0),(3,.int .i64 0),(4,.int .i64 0),(6,.bool s),(10,.int .i64 at9),(11,pT (p6 6).N 0),(12,.int .i64 0),(13,.int .i64 0),(14,pT (p8 1).N 0),(63,.bool false)]) (fun p12=>?_) (fun p12 W12 T hF hK=>?_)
 ·iterate 2 refine okv ?_
  exact ok_nil
 obtain ⟨hS,hG⟩:=SymF.fg hS hF
 clear hF
 refine wp_cond_false (hK.ew 63) (wp_skip (then_n ?_))
 refine wq hS hG hK (fun p13=>[.v 70 (.bool s),.l 71 (.agg #[.slice (p6 1).A (p6 1).N (p6 1).C]) 1 0,.l 72 (.agg #[.slice (p11 1).A (p11 1).N (p11 1).C]) 2 0,.c (some 73) (cV (.tuple #[.agg #[.bool false,.slice none 0 0,.slice none 0 0],.int .i64 11])),.v 69 (.tuple #[.agg #[.bool false,.slice none 0 0,.slice none 0 0],.int .i64 11]),.v 74 (.agg #[.bool false,.slice none 0 0,.slice none 0 0]),.v 75 (.int .i64 11),.n 15 #[.bool false,.slice none 0 0,.slice none 0 0] 30,.p 1007 0 [.bool false,.slice none 0 0,.slice none 0 0],.v 13 (.int .i64 11)]) (fun p13=>[(2,pT (p1 0).N 0),(3,.int .i64 0),(4,.int .i64 0),(10,.int .i64 at9),(12,.int .i64 0),(13,.int .i64 11),(15,pT (p13 7).N 0)]) (fun p13=>?_) (fun p13 W13 T hF hK=>?_)
 ·refine okv ?_
  iterate 2 refine okl ?_
  refine okc (fun W cx=>as_v (zmake_0 _ s (p6 1).A (p11 1).A _ (p6 1).C _ (p11 1).C _ (Mine.num cx.G.2.2.1) (Mine.num cx.G.1))) ?_
  iterate 3 refine okv ?_
  refine okn ?_
  refine okp ?_
  refine okv ?_
  exact ok_nil
 replace hS:=SymF.fc hS hF [0,1007] [⟨(p1 0).N,#[.bool false,.slice none 0 0,.slice none 0 0],30,true⟩,⟨(p13 7).N,#[.bool false,.slice none 0 0,.slice none 0 0],30,true⟩]
 replace hG:=hF.gx
 clear hF
 refine wp_seq ?_
 refine wq hS hG hK (fun p14=>[.v 76 (.int .i64 11),.v 77 (.bool true)]) (fun p14=>[(2,pT (p1 0).N 0),(3,.int .i64 0),(4,.int .i64 0),(10,.int .i64 at9),(12,.int .i64 0),(13,.int .i64 11),(15,pT (p13 7).N 0),(77,.bool true)]) (fun p14=>?_) (fun p14 W14 T hF hK=>?_)
 ·iterate 2 refine okv ?_
  exact ok_nil
 obtain ⟨hS,hG⟩:=SymF.fg hS hF
 clear hF
 refine wp_cond_true (hK.ew 77) ?_
 refine wq hS hG hK (fun p15=>[.v 78 (.agg #[.bool false,.slice none 0 0,.slice none 0 0]),.v 79 (.int .i64 at9),.v 80 (.int .i64 11),.p 0 0 [.bool false,.slice none 0 0,.slice none 0 0],.v 3 (.int .i64 at9),.v 4 (.int .i64 11)]) (fun p15=>[(2,pT (p1 0).N 0),(3,.int .i64 at9),(4,.int .i64 11),(10,.int .i64 at9),(12,.int .i64 0),(13,.int .i64 11),(15,pT (p13 7).N 0)]) (fun p15=>?_) (fun p15 W15 T hF hK=>?_)
 ·iterate 3 refine okv ?_
  refine okp ?_
  iterate 2 refine okv ?_
  exact ok_nil
 obtain ⟨hS,hG⟩:=SymF.fg hS hF
 clear hF
 refine wp_ret ?_
 refine then_r ?_
 exact sym_end hS hK (.tuple #[.agg #[.bool false,.slice none 0 0,.slice none 0 0],.int .i64 at9,.int .i64 11]) [(0,0,3)] [.bool false,.slice none 0 0,.slice none 0 0] (by kernel_rfl) (by kernel_rfl) ⟨rfl,hS.fr⟩
theorem zchk_none (w:World)   :
  Calls Tryz.prog 15 #[.agg #[.bool false,.slice none 0 0,.slice none 0 0]] w fun en w'=>en = .returned (.int .i64 20)∧Below w.heap.size w w':=by
 refine calls_sym Tryz.func15 rfl (by kernel_rfl) fun T hK=>?_
 replace hK:Kn T _ [(0,.agg #[.bool false,.slice none 0 0,.slice none 0 0])]:=hK
 have hS:=Fb.begin w
 have hG:GsAt [] w:=trivial
 refine wq hS hG hK (fun p1=>[.n 1 #[.bool false,.slice none 0 0,.slice none 0 0] 30,.v 2 (.int .i64 0)]) (fun p1=>[(1,pT (p1 0).N 0),(2,.int .i64 0)]) (fun p1=>?_) (fun p1 W1 T hF hK=>?_)
 ·refine okn ?_
  refine okv ?_
  exact ok_nil
 replace hS:=SymF.fc hS hF [1000] [⟨(p1 0).N,#[.bool false,.slice none 0 0,.slice none 0 0],30,true⟩]
 replace hG:=hF.gx
 clear hF
 refine wp_seq ?_
 refine wq hS hG hK (fun p2=>[.v 5 (pT (p1 0).N 2),.l 6 (.agg #[.slice none 0 0]) 0 2,.c (some 7) (cV (.bool true)),.v 8 (.bool true),.k (some 9),.k (some 10),.k (some 11),.k (some 12),.k (some 13),.k (some 14),.k (some 15),.v 16 (.bool true)]) (fun p2=>[(1,pT (p1 0).N 0),(2,.int .i64 0),(16,.bool true)]) (fun p2=>?_) (fun p2 W2 T hF hK=>?_)
 ·refine okv ?_
  refine okl ?_
  refine okc (fun W cx=>as_v (znought none 0 0 _ true rfl)) ?_
  refine okv ?_
  iterate 7 refine okk ?_
  refine okv ?_
  exact ok_nil
 obtain ⟨hS,hG⟩:=SymF.fg hS hF
 clear hF
 refine wp_cond_true (hK.ew 16) ?_
 refine wq hS hG hK (fun p3=>[.v 2 (.int .i64 20)]) (fun p3=>[(1,pT (p1 0).N 0),(2,.int .i64 20)]) (fun p3=>?_) (fun p3 W3 T hF hK=>?_)
 ·refine okv ?_
  exact ok_nil
 obtain ⟨hS,hG⟩:=SymF.fg hS hF
 clear hF
 refine wp_ret ?_
 refine then_r ?_
 exact sym_end hS hK (.int .i64 20) [] [] (by kernel_rfl) (by kernel_rfl) ⟨rfl,hS.fr⟩
theorem ralive9 (w:World)  (P1:Hid (∀ W:World,Calls Tryz.prog 7 #[.string ⟨#[48,48,54,47,52]⟩] W fun en W'=>(∃ A N C A' N' C',en = .returned (.tuple #[.agg #[.bool false,.slice A N C,.slice A' N' C'],.int .i64 0,.int .i64 0])∧Mine W' W.heap.size A N C 3∧Mine W' W.heap.size A' N' C' 2)∧Below W.heap.size W W')) (P2:Hid (∀ W:World,Calls Tryz.prog 7 #[.string ⟨#[45,49,47,50]⟩] W fun en W'=>(∃ A N C A' N' C',en = .returned (.tuple #[.agg #[.bool true,.slice A N C,.slice A' N' C'],.int .i64 0,.int .i64 0])∧Mine W' W.heap.size A N C 1∧Mine W' W.heap.size A' N' C' 2)∧Below W.heap.size W W')) (HA:Hid (∀ (W:World) (a:Option Addr) (n c:Nat) (b:Option Addr) (k l:Nat) (a':Option Addr) (n' c':Nat) (b':Option Addr) (k' l':Nat),Num W a n 3→Num W b k 2→Num W a' n' 1→Num W b' k' 2→Calls Tryz.prog 12 #[.agg #[.bool false,.slice a n c,.slice b k l],.agg #[.bool true,.slice a' n' c',.slice b' k' l']] W fun en W'=>(∃ A N C A' N' C',en = .returned (.tuple #[.agg #[.bool false,.slice A N C,.slice A' N' C'],.int .i64 0])∧Mine W' W.heap.size A N C 1∧Mine W' W.heap.size A' N' C' 1)∧Below W.heap.size W W')) (HT:Hid (∀ (W:World) (a:Option Addr) (n c:Nat) (b:Option Addr) (k l:Nat),Num W a n 1→Num W b k 1→Calls Tryz.prog 6 #[.agg #[.bool false,.slice a n c,.slice b k l]] W fun e W'=>e = .returned (.tuple #[.string ⟨#[49]⟩,.int .i64 0])∧Below W.heap.size W W')) (HC:Hid (∀ (W:World) (a:Option Addr) (n c:Nat) (b:Option Addr) (k l:Nat) (a':Option Addr) (n' c':Nat) (b':Option Addr) (k' l':Nat),Num W a n 3→Num W b k 2→Num W a' n' 1→Num W b' k' 2→Calls Tryz.prog 13 #[.agg #[.bool false,.slice a n c,.slice b k l],.agg #[.bool true,.slice a' n' c',.slice b' k' l']] W fun e W'=>e = .returned (.tuple #[.int .i64 1,.int .i64 0])∧Below W.heap.size W W')) (P3:Hid (∀ W:World,Calls Tryz.prog 7 #[.string ⟨#[51,47,48,48]⟩] W fun e W'=>e = .returned (.tuple #[.agg #[.bool false,.slice none 0 0,.slice none 0 0],.int .i64 2,.int .i64 11])∧Below W.heap.size W W')) (HF:Hid (∀ (W:World) (a:Option Addr) (n c:Nat) (b:Option Addr) (k l:Nat),Num W a n 1→Num W b k 2→Calls Tryz.prog 14 #[.agg #[.bool true,.slice a n c,.slice b k l]] W fun en W'=>(∃ A N C,en = .returned (.tuple #[.bool true,.agg #[.slice A N C],.int .i64 0])∧Mine W' W.heap.size A N C 1)∧Below W.heap.size W W')) :
  Calls Tryz.prog 4 #[] w fun en w'=>en = .returned (.bool true)∧Below w.heap.size w w':=by
 refine calls_sym Tryz.func4 rfl (by kernel_rfl) fun T hK=>?_
 replace hK:Kn T _ []:=hK
 have hS:=Fb.begin w
 have hG:GsAt [] w:=trivial
 refine wq hS hG hK (fun p1=>[.v 0 (.bool false)]) (fun p1=>[(0,.bool false)]) (fun p1=>?_) (fun p1 W1 T hF hK=>?_)
 ·refine okv ?_
  exact ok_nil
 obtain ⟨hS,hG⟩:=SymF.fg hS hF
 clear hF
 refine wq hS hG hK (fun p2=>[.c (some 20) (cH W1.heap.size 3 2 fun x9 y9=>.tuple #[.agg #[.bool false,x9,y9],.int .i64 0,.int .i64 0]),.v 19 (.tuple #[.agg #[.bool false,.slice (p2 0).A (p2 0).N (p2 0).C,.slice (p2 0).A' (p2 0).N' (p2 0).C'],.int .i64 0,.int .i64 0]),.v 21 (.agg #[.bool false,.slice (p2 0).A (p2 0).N (p2 0).C,.slice (p2 0).A' (p2 0).N' (p2 0).C']),.v 22 (.int .i64 0),.v 23 (.int .i64 0),.n 1 #[.bool false,.slice none 0 0,.slice none 0 0] 30,.p 1005 0 [.bool false,.slice (p2 0).A (p2 0).N (p2 0).C,.slice (p2 0).A' (p2 0).N' (p2 0).C'],.v 2 (.int .i64 0),.v 3 (.int .i64 0)]) (fun p2=>[(0,.bool false),(1,pT (p2 5).N 0),(3,.int .i64 0)]) (fun p2=>?_) (fun p2 W2 T hF hK=>?_)
 ·refine okc (fun W cx=>as_h cx.hb (unhide P1 _)) ?_
  iterate 4 refine okv ?_
  refine okn ?_
  refine okp ?_
  iterate 2 refine okv ?_
  exact ok_nil
 replace hS:=SymF.fc hS hF [1005] [⟨(p2 5).N,#[.bool false,.slice (p2 0).A (p2 0).N (p2 0).C,.slice (p2 0).A' (p2 0).N' (p2 0).C'],30,true⟩]
 replace hG:GsAt (gM W1.heap.size (p2 0).A (p2 0).N (p2 0).C 3 :: gM W1.heap.size (p2 0).A' (p2 0).N' (p2 0).C' 2 :: _) W2:=⟨And.left (hF.fx 0),And.right (hF.fx 0),hF.gx⟩
 clear hF
 refine wq hS hG hK (fun p3=>[.c (some 25) (cH W2.heap.size 1 2 fun x9 y9=>.tuple #[.agg #[.bool true,x9,y9],.int .i64 0,.int .i64 0]),.v 24 (.tuple #[.agg #[.bool true,.slice (p3 0).A (p3 0).N (p3 0).C,.slice (p3 0).A' (p3 0).N' (p3 0).C'],.int .i64 0,.int .i64 0]),.v 26 (.agg #[.bool true,.slice (p3 0).A (p3 0).N (p3 0).C,.slice (p3 0).A' (p3 0).N' (p3 0).C']),.v 27 (.int .i64 0),.v 28 (.int .i64 0),.n 4 #[.bool false,.slice none 0 0,.slice none 0 0] 30,.p 1005 0 [.bool true,.slice (p3 0).A (p3 0).N (p3 0).C,.slice (p3 0).A' (p3 0).N' (p3 0).C'],.v 5 (.int .i64 0),.v 6 (.int .i64 0)]) (fun p3=>[(0,.bool false),(1,pT (p2 5).N 0),(3,.int .i64 0),(4,pT (p3 5).N 0),(6,.int .i64 0)]) (fun p3=>?_) (fun p3 W3 T hF hK=>?_)
 ·refine okc (fun W cx=>as_h cx.hb (unhide P2 _)) ?_
  iterate 4 refine okv ?_
  refine okn ?_
  refine okp ?_
  iterate 2 refine okv ?_
  exact ok_nil
 replace hS:=SymF.fc hS hF [0,1005] [⟨(p2 5).N,#[.bool false,.slice (p2 0).A (p2 0).N (p2 0).C,.slice (p2 0).A' (p2 0).N' (p2 0).C'],30,true⟩,⟨(p3 5).N,#[.bool true,.slice (p3 0).A (p3 0).N (p3 0).C,.slice (p3 0).A' (p3 0).N' (p3 0).C'],30,true⟩]
 replace hG:GsAt (gM W2.heap.size (p3 0).A (p3 0).N (p3 0).C 1 :: gM W2.heap.size (p3 0).A' (p3 0).N' (p3 0).C' 2 :: _) W3:=⟨And.left (hF.fx 0),And.right (hF.fx 0),hF.gx⟩
 clear hF
 refine wq hS hG hK (fun p4=>[.l 30 (.agg #[.bool false,.slice (p2 0).A (p2 0).N (p2 0).C,.slice (p2 0).A' (p2 0).N' (p2 0).C']) 0 0,.l 31 (.agg #[.bool true,.slice (p3 0).A (p3 0).N (p3 0).C,.slice (p3 0).A' (p3 0).N' (p3 0).C']) 1 0,.c (some 32) (cH W3.heap.size 1 1 fun x9 y9=>.tuple #[.agg #[.bool false,x9,y9],.int .i64 0]),.v 29 (.tuple #[.agg #[.bool false,.slice (p4 2).A (p4 2).N (p4 2).C,.slice (p4 2).A' (p4 2).N' (p4 2).C'],.int .i64 0]),.v 33 (.agg #[.bool false,.slice (p4 2).A (p4 2).N (p4 2).C,.slice (p4 2).A' (p4 2).N' (p4 2).C']),.v 34 (.int .i64 0),.n 7 #[.bool false,.slice none 0 0,.slice none 0 0] 30,.p 1006 0 [.bool false,.slice (p4 2).A (p4 2).N (p4 2).C,.slice (p4 2).A' (p4 2).N' (p4 2).C'],.v 8 (.int .i64 0)]) (fun p4=>[(0,.bool false),(1,pT (p2 5).N 0),(3,.int .i64 0),(4,pT (p3 5).N 0),(6,.int .i64 0),(7,pT (p4 6).N 0),(8,.int .i64 0)]) (fun p4=>?_) (fun p4 W4 T hF hK=>?_)
 ·iterate 2 refine okl ?_
  refine okc (fun W cx=>as_h cx.hb (unhide HA _ _ _ (p2 0).C _ _ (p2 0).C' _ _ (p3 0).C _ _ (p3 0).C' (Mine.num cx.G.2.2.1) (Mine.num cx.G.2.2.2.1) (Mine.num cx.G.1) (Mine.num cx.G.2.1))) ?_
  iterate 3 refine okv ?_
  refine okn ?_
  refine okp ?_
  refine okv ?_
  exact ok_nil
 replace hS:=SymF.fc hS hF [0,1,1006] [⟨(p2 5).N,#[.bool false,.slice (p2 0).A (p2 0).N (p2 0).C,.slice (p2 0).A' (p2 0).N' (p2 0).C'],30,true⟩,⟨(p3 5).N,#[.bool true,.slice (p3 0).A (p3 0).N (p3 0).C,.slice (p3 0).A' (p3 0).N' (p3 0).C'],30,true⟩,⟨(p4 6).N,#[.bool false,.slice (p4 2).A (p4 2).N (p4 2).C,.slice (p4 2).A' (p4 2).N' (p4 2).C'],30,true⟩]
 replace hG:GsAt (gM W3.heap.size (p4 2).A (p4 2).N (p4 2).C 1 :: gM W3.heap.size (p4 2).A' (p4 2).N' (p4 2).C' 1 :: _) W4:=⟨And.left (hF.fx 2),And.right (hF.fx 2),hF.gx⟩
 clear hF
 refine wq hS hG hK (fun p5=>[.l 36 (.agg #[.bool false,.slice (p4 2).A (p4 2).N (p4 2).C,.slice (p4 2).A' (p4 2).N' (p4 2).C']) 2 0,.c (some 37) (cV (.tuple #[.string ⟨#[49]⟩,.int .i64 0])),.v 35 (.tuple #[.string ⟨#[49]⟩,.int .i64 0]),.v 38 (.string ⟨#[49]⟩),.v 39 (.int .i64 0),.v 9 (.string ⟨#[49]⟩),.v 10 (.int .i64 0)]) (fun p5=>[(0,.bool false),(1,pT (p2 5).N 0),(3,.int .i64 0),(4,pT (p3 5).N 0),(6,.int .i64 0),(8,.int .i64 0),(9,.string ⟨#[49]⟩),(10,.int .i64 0)]) (fun p5=>?_) (fun p5 W5 T hF hK=>?_)
 ·refine okl ?_
  refine okc (fun W cx=>as_v (unhide HT _ _ _ (p4 2).C _ _ (p4 2).C' (Mine.num cx.G.1) (Mine.num cx.G.2.1))) ?_
  iterate 5 refine okv ?_
  exact ok_nil
 obtain ⟨hS,hG⟩:=SymF.fg hS hF
 clear hF
 refine wq hS hG hK (fun p6=>[.l 41 (.agg #[.bool false,.slice (p2 0).A (p2 0).N (p2 0).C,.slice (p2 0).A' (p2 0).N' (p2 0).C']) 0 0,.l 42 (.agg #[.bool true,.slice (p3 0).A (p3 0).N (p3 0).C,.slice (p3 0).A' (p3 0).N' (p3 0).C']) 1 0,.c (some 43) (cV (.tuple #[.int .i64 1,.int .i64 0])),.v 40 (.tuple #[.int .i64 1,.int .i64 0]),.v 44 (.int .i64 1),.v 45 (.int .i64 0),.v 11 (.int .i64 1),.v 12 (.int .i64 0)]) (fun p6=>[(0,.bool false),(3,.int .i64 0),(4,pT (p3 5).N 0),(6,.int .i64 0),(8,.int .i64 0),(9,.string ⟨#[49]⟩),(10,.int .i64 0),(11,.int .i64 1),(12,.int .i64 0)]) (fun p6=>?_) (fun p6 W6 T hF hK=>?_)
 ·iterate 2 refine okl ?_
  refine okc (fun W cx=>as_v (unhide HC _ _ _ (p2 0).C _ _ (p2 0).C' _ _ (p3 0).C _ _ (p3 0).C' (Mine.num cx.G.2.2.2.2.1) (Mine.num cx.G.2.2.2.2.2.1) (Mine.num cx.G.2.2.1) (Mine.num cx.G.2.2.2.1))) ?_
  iterate 5 refine okv ?_
  exact ok_nil
 obtain ⟨hS,hG⟩:=SymF.fg hS hF
 clear hF
 refine wq hS hG hK (fun p7=>[.c (some 47) (cV (.tuple #[.agg #[.bool false,.slice none 0 0,.slice none 0 0],.int .i64 2,.int .i64 11])),.v 46 (.tuple #[.agg #[.bool false,.slice none 0 0,.slice none 0 0],.int .i64 2,.int .i64 11]),.v 48 (.agg #[.bool false,.slice none 0 0,.slice none 0 0]),.v 49 (.int .i64 2),.v 50 (.int .i64 11),.n 13 #[.bool false,.slice none 0 0,.slice none 0 0] 30,.p 1005 0 [.bool false,.slice none 0 0,.slice none 0 0],.v 14 (.int .i64 2),.v 15 (.int .i64 11)]) (fun p7=>[(0,.bool false),(3,.int .i64 0),(4,pT (p3 5).N 0),(6,.int .i64 0),(8,.int .i64 0),(9,.string ⟨#[49]⟩),(10,.int .i64 0),(11,.int .i64 1),(12,.int .i64 0),(14,.int .i64 2),(15,.int .i64 11)]) (fun p7=>?_) (fun p7 W7 T hF hK=>?_)
 ·refine okc (fun W cx=>as_v (unhide P3 _)) ?_
  iterate 4 refine okv ?_
  refine okn ?_
  refine okp ?_
  iterate 2 refine okv ?_
  exact ok_nil
 replace hS:=SymF.fc hS hF [1] [⟨(p3 5).N,#[.bool true,.slice (p3 0).A (p3 0).N (p3 0).C,.slice (p3 0).A' (p3 0).N' (p3 0).C'],30,true⟩]
 replace hG:=hF.gx
 clear hF
 refine wq hS hG hK (fun p8=>[.l 52 (.agg #[.bool true,.slice (p3 0).A (p3 0).N (p3 0).C,.slice (p3 0).A' (p3 0).N' (p3 0).C']) 0 0,.c (some 53) (cG W7.heap.size 1 fun x9=>.tuple #[.bool true,.agg #[x9],.int .i64 0]),.v 51 (.tuple #[.bool true,.agg #[.slice (p8 1).A (p8 1).N (p8 1).C],.int .i64 0]),.v 54 (.bool true),.v 55 (.agg #[.slice (p8 1).A (p8 1).N (p8 1).C]),.v 56 (.int .i64 0),.n 17 #[.slice none 0 0] 28,.v 16 (.bool true),.p 1006 0 [.slice (p8 1).A (p8 1).N (p8 1).C],.v 18 (.int .i64 0)]) (fun p8=>[(0,.bool false),(3,.int .i64 0),(6,.int .i64 0),(8,.int .i64 0),(9,.string ⟨#[49]⟩),(10,.int .i64 0),(11,.int .i64 1),(12,.int .i64 0),(14,.int .i64 2),(15,.int .i64 11),(16,.bool true),(17,pT (p8 6).N 0),(18,.int .i64 0)]) (fun p8=>?_) (fun p8 W8 T hF hK=>?_)
 ·refine okl ?_
  refine okc (fun W cx=>as_g cx.hb (unhide HF _ _ _ (p3 0).C _ _ (p3 0).C' (Mine.num cx.G.2.2.1) (Mine.num cx.G.2.2.2.1))) ?_
  iterate 4 refine okv ?_
  refine okn ?_
  refine okv ?_
  refine okp ?_
  refine okv ?_
  exact ok_nil
 replace hS:=SymF.fc hS hF [1006] [⟨(p8 6).N,#[.slice (p8 1).A (p8 1).N (p8 1).C],28,true⟩]
 replace hG:GsAt (gM W7.heap.size (p8 1).A (p8 1).N (p8 1).C 1 :: _) W8:=⟨hF.fx 1,hF.gx⟩
 clear hF
 obtain ⟨b9,hA9,hn9,hl9⟩:=one_limb hG.1
 replace hG:GsAt (gL b9 0 1 :: _) W8:=⟨hl9,hG⟩
 refine wq hS hG hK (fun p9=>[.v 57 (.int .i64 0),.v 58 (.bool true),.v 59 (.bool true),.v 60 (.int .i64 0),.v 61 (.bool true),.v 62 (.bool true),.v 63 (.bool true),.v 64 (.int .i64 0),.v 65 (.bool true),.v 66 (.bool true),.v 67 (.bool true),.v 68 (.int .i64 0),.v 69 (.bool true),.v 70 (.bool true),.v 71 (.bool true),.v 72 (.int .i64 0),.v 73 (.bool true),.v 74 (.bool true),.v 75 (.bool true),.v 76 (.int .i64 0),.v 77 (.bool true),.v 78 (.bool true),.v 79 (.bool true),.v 80 (.string ⟨#[49]⟩),.v 81 (.bool true),.v 82 (.bool true),.v 83 (.bool true),.v 84 (.int .i64 1),.v 85 (.bool true),.v 86 (.bool true),.v 87 (.bool true),.v 88 (.int .i64 11),.v 89 (.bool true),.v 90 (.bool true),.v 91 (.bool true),.v 92 (.int .i64 2),.v 93 (.bool true),.v 94 (.bool true),.v 95 (.bool true),.v 96 (.bool true),.v 97 (.bool true),.v 98 (.bool true),.v 99 (pT (p8 6).N 0),.l 100 (.slice (p8 1).A (p8 1).N (p8 1).C) 0 0,.v 101 (.int .i64 ((p8 1).N:Int)),.v 102 (.bool true),.v 103 (.bool true),.v 104 (.bool true),.v 105 (pT (p8 6).N 0),.l 106 (.slice (p8 1).A (p8 1).N (p8 1).C) 0 0,.v 107 (.pointer (some ⟨b9,0+0,none⟩)),.g 108 (.int .u32 1) [.int .u32 1] [.ld ⟨b9,0+0,none⟩ (.int .u32 1)],.v 109 (.bool true),.v 110 (.bool true),.v 111 (.bool true),.v 112 (.agg #[.bool false,.slice none 0 0,.slice none 0 0]),.c (some 113) (cV (.int .i64 20)),.v 114 (.bool true),.v 115 (.bool true),.v 0 (.bool true)]) (fun p9=>[(0,.bool true)]) (fun p9=>?_) (fun p9 W9 T hF hK=>?_)
 ·iterate 24 refine okv ?_
  refine okvb (rfl) ?_
  iterate 18 refine okv ?_
  refine okl ?_
  refine okv ?_
  refine okvb (beq_iff_eq.2 (show ((p8 1).N:Int) = 1 by omega)) ?_
  iterate 3 refine okv ?_
  refine okl ?_
  refine ok_vr (script_ia9 hA9 (t:=22) (el:=25) (len:=(p8 1).N) (c:=(p8 1).C) (by kernel_rfl) (fun _=>by kernel_rfl) (by omega)) (by kernel_rfl) ?_
  refine ok_g (fun W cx=>⟨⟨cx.G.1,trivial⟩,rfl⟩) (by kernel_rfl) ?_
  iterate 4 refine okv ?_
  refine okc (fun W cx=>as_v (zchk_none _)) ?_
  iterate 3 refine okv ?_
  exact ok_nil
 obtain ⟨hS,hG⟩:=SymF.fg hS hF
 clear hF
 refine wp_ret ?_
 exact sym_end hS hK (.bool true) [] [] (by kernel_rfl) (by kernel_rfl) ⟨rfl,hS.fr⟩
end Go.Proofs.YtcfccblpcngeaaaGreat
