/- Of what RoundIntegerRow stands on: RiWalk. -/
import Derived.Test.YtfjegmlpkiaifaaGreatDoorPbp
import Derived.Test.YtfjegmlpkiaifaaGreatDoorPbo
import Derived.Test.YtfjegmlpkiaifaaGreatDoorPbd
import Derived.Test.YtfjegmlpkiaifaaGreatDoorPar
namespace Go.Proofs.YtfjegmlpkiaifaaGreatDoor
open Go.RowKit
set_option maxHeartbeats 2000000
set_option maxRecDepth 20000
theorem len_ne {W:World} {a:Option Addr} {n m:Nat} (h:Num W a n m) (h0:0 < m):(n:Int)≠0:=fun e=>by
 have:=h.zero.1 (by omega); omega
theorem len_no {W:World} {a:Option Addr} {n m:Nat} (h:Num W a n m) (h0:m = 0):¬ (n:Int) > 0:=fun e=>by
 have:=h.zero.2 h0; omega
theorem num_one_laid {W:World} {b:Nat} {t:TypeId} (h:W.heap[b]? = some (.cells #[.int .u32 1] t (0,0))):Num W (some ⟨b,0,none⟩) 1 1:=num_laid (m:=1) h (by decide) (by decide)
theorem script_ia {P:Program} {r:Nat} {t el:TypeId} {A:Option Addr} {len b c:Nat} (hA:A = some ⟨b,0,none⟩) (hu:P.underlying t = some (.slice el)) (hs:∀ r,script P r (sizeOf el) [] = some (1,[])) (hj:0 < len) :
  script P r (Instr.indexAt t (.slice A len c) (.int .i64 0)) [] = some (.pointer (some ⟨b,0+0,none⟩),[]):=by
 subst hA; exact script_isl (j:=0) hu hs rfl hj
theorem first_limb {W:World} {B:Nat} {a:Option Addr} {n c m:Nat} (h:Mine W B a n c m) (h0:0 < m):∃ b y:Nat,a = some ⟨b,0,none⟩∧0 < n∧W.cell? ⟨b,0,none⟩ = some (.int .u32 (y:Int))∧y % 2 = m % 2:=by
 have hn:0 < n:=Nat.pos_of_ne_zero fun e=>by have:=(Mine.num h).zero.1 e; omega
 obtain ⟨g,xs,ha,_,_,hl,hr,_,_,hv,_⟩:=h.row hn
 match xs,hl,hv,hr with
 | [],hl,_,_=>simp at hl; omega
 | x :: r,hl,hv,hr=>
  refine ⟨g,x,ha,hn,?_,?_⟩
  ·have:=hr.cell 0 (by simp)
   simpa using this
  ·simp only [Pl.val] at hv; omega
theorem make_int (W:World) (a1 a2:Option Addr) (n1 n2 c1 c2:Nat) {g:Bool} {m:Nat} (hg:g = true→0 < m) (h1:Num W a1 n1 m) (h2:Num W a2 n2 1) :
  Calls Tryz.prog 14 #[.bool g,.agg #[.slice a1 n1 c1],.agg #[.slice a2 n2 c2]] W fun en w'=>(∃ A N C A' N' C',en = .returned (.tuple #[.agg #[.bool g,.slice A N C,.slice A' N' C'],.int .i64 0])∧Mine w' W.heap.size A N C m∧Mine w' W.heap.size A' N' C' 1)∧Below W.heap.size W w':=by
 have h:=ymake_any g a1 a2 n1 n2 c1 c2 m 1 W h1 h2 (by decide)
 rw [Nat.gcd_one_right,Nat.div_one,Nat.div_one] at h
 have e:(g && !decide (m = 0)) = g:=by
  cases g
  ·rfl
  ·have:=hg rfl; simp; omega
 rw [e] at h
 exact h
theorem int_no (w:World) (s:Bool) (a1 a2:Option Addr) (n1 n2 c1 c2:Nat) (hT:Tb w) (hN:Nb5 w) (HA:Hid (∀ W:World,Below w.heap.size w W→Calls Tryz.prog 6 #[.agg #[.int .i64 5,.int .i64 10],.agg #[.bool s,.slice a1 n1 c1,.slice a2 n2 c2]] W fun e W'=>e = .returned (.bool false)∧Below W.heap.size W W')) :
  Calls Tryz.prog 4 #[.agg #[.bool s,.slice a1 n1 c1,.slice a2 n2 c2]] w fun en w'=>en = .returned (.bool true)∧Below w.heap.size w w':=by
 refine calls_sym Tryz.func4 rfl (by kernel_rfl) fun T hK=>?_
 replace hK:Kn T _ [(0,.agg #[.bool s,.slice a1 n1 c1,.slice a2 n2 c2])]:=hK
 have hS:=Fb.begin w
 have hG:GsAt [] w:=trivial
 refine wq hS hG hK (fun p1=>[.n 1 #[.bool s,.slice a1 n1 c1,.slice a2 n2 c2] 28,.v 2 (.bool false)]) (fun p1=>[(1,pT (p1 0).N 0),(2,.bool false)]) (fun p1=>?_) (fun p1 W1 T hF hK=>?_)
 ·refine okn ?_
  refine okv ?_
  exact ok_nil
 replace hS:=SymF.fc hS hF [1000] [⟨(p1 0).N,#[.bool s,.slice a1 n1 c1,.slice a2 n2 c2],28,true⟩]
 replace hG:=hF.gx
 clear hF
 refine wq hS hG hK (fun p2=>[.c (some 27) (cV (.bool true)),.v 3 (.bool true)]) (fun p2=>[(1,pT (p1 0).N 0),(2,.bool false),(3,.bool true)]) (fun p2=>?_) (fun p2 W2 T hF hK=>?_)
 ·refine okc (fun W cx=>as_v (salive_is _ (hT.kept cx.fr) (hN.kept cx.fr))) ?_
  refine okv ?_
  exact ok_nil
 obtain ⟨hS,hG⟩:=SymF.fg hS hF
 clear hF
 refine wq hS hG hK (fun p3=>[.v 28 (.agg #[.int .i64 5,.int .i64 10]),.l 29 (.agg #[.bool s,.slice a1 n1 c1,.slice a2 n2 c2]) 0 0,.c (some 30) (cV (.bool false)),.v 4 (.bool false)]) (fun p3=>[(1,pT (p1 0).N 0),(2,.bool false),(3,.bool true),(4,.bool false)]) (fun p3=>?_) (fun p3 W3 T hF hK=>?_)
 ·refine okv ?_
  refine okl ?_
  refine okc (fun W cx=>as_v (unhide HA _ cx.fr)) ?_
  refine okv ?_
  exact ok_nil
 obtain ⟨hS,hG⟩:=SymF.fg hS hF
 clear hF
 refine wp_seq ?_
 refine wq hS hG hK (fun p4=>[.v 31 (.bool false),.v 32 (.bool true)]) (fun p4=>[(1,pT (p1 0).N 0),(2,.bool false),(3,.bool true),(32,.bool true)]) (fun p4=>?_) (fun p4 W4 T hF hK=>?_)
 ·iterate 2 refine okv ?_
  exact ok_nil
 obtain ⟨hS,hG⟩:=SymF.fg hS hF
 clear hF
 refine wp_cond_true (hK.ew 32) ?_
 refine wq hS hG hK (fun p5=>[.v 33 (.bool true),.v 2 (.bool true)]) (fun p5=>[(1,pT (p1 0).N 0),(2,.bool true),(3,.bool true)]) (fun p5=>?_) (fun p5 W5 T hF hK=>?_)
 ·iterate 2 refine okv ?_
  exact ok_nil
 obtain ⟨hS,hG⟩:=SymF.fg hS hF
 clear hF
 refine wp_ret ?_
 refine then_r ?_
 exact sym_end hS hK (.bool true) [] [] (by kernel_rfl) (by kernel_rfl) ⟨rfl,hS.fr⟩
theorem int_all (w:World) (s:Bool) (a1 a2:Option Addr) (n1 n2 c1 c2:Nat) (p d m0 m1 m2 m3 m4:Nat) (g0 g1 g2 g3 g4 ex one gg odd zd cgt ceq:Bool) (c:Int) (zl dl zr dr zg dg:Nat) (hT:Tb w) (hN:Nb5 w) (HA:Hid (∀ W:World,Below w.heap.size w W→Calls Tryz.prog 6 #[.agg #[.int .i64 5,.int .i64 10],.agg #[.bool s,.slice a1 n1 c1,.slice a2 n2 c2]] W fun e W'=>e = .returned (.bool true)∧Below W.heap.size W W')) (h1:Num w a1 n1 p) (h2:Num w a2 n2 d) (HW0:Hid (∀ W:World,Below w.heap.size w W→Calls Tryz.prog 13 #[.agg #[.bool s,.slice a1 n1 c1,.slice a2 n2 c2],.int .u8 0] W fun en W'=>(∃ A N C,en = .returned (.tuple #[.bool g0,.agg #[.slice A N C],.bool ex,.int .i64 0])∧Mine W' W.heap.size A N C m0)∧Below W.heap.size W W')) (hg0:g0 = true→0 < m0) (HX0:Hid (∀ (W:World) (A:Option Addr) (N C:Nat) (A':Option Addr) (N' C':Nat) ,Below w.heap.size w W→Num W A N m0→Num W A' N' 1 →  Calls Tryz.prog 10 #[.agg #[.bool g0,.slice A N C,.slice A' N' C'],.agg #[.bool s,.slice a1 n1 c1,.slice a2 n2 c2]] W fun en W'=>en = .returned (.bool ex)∧Below W.heap.size W W')) (HW1:Hid (∀ W:World,Below w.heap.size w W→Calls Tryz.prog 13 #[.agg #[.bool s,.slice a1 n1 c1,.slice a2 n2 c2],.int .u8 1] W fun en W'=>(∃ A N C,en = .returned (.tuple #[.bool g1,.agg #[.slice A N C],.bool ex,.int .i64 0])∧Mine W' W.heap.size A N C m1)∧Below W.heap.size W W')) (hg1:g1 = true→0 < m1) (HX1:Hid (∀ (W:World) (A:Option Addr) (N C:Nat) (A':Option Addr) (N' C':Nat) ,Below w.heap.size w W→Num W A N m1→Num W A' N' 1 →  Calls Tryz.prog 10 #[.agg #[.bool g1,.slice A N C,.slice A' N' C'],.agg #[.bool s,.slice a1 n1 c1,.slice a2 n2 c2]] W fun en W'=>en = .returned (.bool ex)∧Below W.heap.size W W')) (HW2:Hid (∀ W:World,Below w.heap.size w W→Calls Tryz.prog 13 #[.agg #[.bool s,.slice a1 n1 c1,.slice a2 n2 c2],.int .u8 2] W fun en W'=>(∃ A N C,en = .returned (.tuple #[.bool g2,.agg #[.slice A N C],.bool ex,.int .i64 0])∧Mine W' W.heap.size A N C m2)∧Below W.heap.size W W')) (hg2:g2 = true→0 < m2) (HX2:Hid (∀ (W:World) (A:Option Addr) (N C:Nat) (A':Option Addr) (N' C':Nat) ,Below w.heap.size w W→Num W A N m2→Num W A' N' 1 →  Calls Tryz.prog 10 #[.agg #[.bool g2,.slice A N C,.slice A' N' C'],.agg #[.bool s,.slice a1 n1 c1,.slice a2 n2 c2]] W fun en W'=>en = .returned (.bool ex)∧Below W.heap.size W W')) (HW3:Hid (∀ W:World,Below w.heap.size w W→Calls Tryz.prog 13 #[.agg #[.bool s,.slice a1 n1 c1,.slice a2 n2 c2],.int .u8 3] W fun en W'=>(∃ A N C,en = .returned (.tuple #[.bool g3,.agg #[.slice A N C],.bool ex,.int .i64 0])∧Mine W' W.heap.size A N C m3)∧Below W.heap.size W W')) (hg3:g3 = true→0 < m3) (HX3:Hid (∀ (W:World) (A:Option Addr) (N C:Nat) (A':Option Addr) (N' C':Nat) ,Below w.heap.size w W→Num W A N m3→Num W A' N' 1 →  Calls Tryz.prog 10 #[.agg #[.bool g3,.slice A N C,.slice A' N' C'],.agg #[.bool s,.slice a1 n1 c1,.slice a2 n2 c2]] W fun en W'=>en = .returned (.bool ex)∧Below W.heap.size W W')) (HW4:Hid (∀ W:World,Below w.heap.size w W→Calls Tryz.prog 13 #[.agg #[.bool s,.slice a1 n1 c1,.slice a2 n2 c2],.int .u8 4] W fun en W'=>(∃ A N C,en = .returned (.tuple #[.bool g4,.agg #[.slice A N C],.bool ex,.int .i64 0])∧Mine W' W.heap.size A N C m4)∧Below W.heap.size W W')) (hg4:g4 = true→0 < m4) (HX4:Hid (∀ (W:World) (A:Option Addr) (N C:Nat) (A':Option Addr) (N' C':Nat) ,Below w.heap.size w W→Num W A N m4→Num W A' N' 1 →  Calls Tryz.prog 10 #[.agg #[.bool g4,.slice A N C,.slice A' N' C'],.agg #[.bool s,.slice a1 n1 c1,.slice a2 n2 c2]] W fun en W'=>en = .returned (.bool ex)∧Below W.heap.size W W')) (HL:Hid (∀ (W:World) (A:Option Addr) (N C:Nat) (A':Option Addr) (N' C':Nat),Below w.heap.size w W→Num W A N m4→Num W A' N' 1→Calls Tryz.prog 15 #[.agg #[.bool s,.slice a1 n1 c1,.slice a2 n2 c2],.agg #[.bool g4,.slice A N C,.slice A' N' C']] W fun en W'=>(∃ A N C A' N' C',en = .returned (.tuple #[.agg #[.bool false,.slice A N C,.slice A' N' C'],.int .i64 0])∧Mine W' W.heap.size A N C zl∧Mine W' W.heap.size A' N' C' dl)∧Below W.heap.size W W')) (HR:Hid (∀ (W:World) (A:Option Addr) (N C:Nat) (A':Option Addr) (N' C':Nat),Below w.heap.size w W→Num W A N m3→Num W A' N' 1→Calls Tryz.prog 15 #[.agg #[.bool g3,.slice A N C,.slice A' N' C'],.agg #[.bool s,.slice a1 n1 c1,.slice a2 n2 c2]] W fun en W'=>(∃ A N C A' N' C',en = .returned (.tuple #[.agg #[.bool false,.slice A N C,.slice A' N' C'],.int .i64 0])∧Mine W' W.heap.size A N C zr∧Mine W' W.heap.size A' N' C' dr)∧Below W.heap.size W W')) (HG:Hid (∀ (W:World) (A:Option Addr) (N C:Nat) (A':Option Addr) (N' C':Nat) (A2:Option Addr) (N2 C2:Nat) (A2':Option Addr) (N2' C2':Nat),Below w.heap.size w W→Num W A N m3→Num W A' N' 1→Num W A2 N2 m4→Num W A2' N2' 1→Calls Tryz.prog 15 #[.agg #[.bool g3,.slice A N C,.slice A' N' C'],.agg #[.bool g4,.slice A2 N2 C2,.slice A2' N2' C2']] W fun en W'=>(∃ A N C A' N' C',en = .returned (.tuple #[.agg #[.bool gg,.slice A N C,.slice A' N' C'],.int .i64 0])∧Mine W' W.heap.size A N C zg∧Mine W' W.heap.size A' N' C' dg)∧Below W.heap.size W W')) (HC:Hid (∀ (W:World) (A:Option Addr) (N C:Nat) (A':Option Addr) (N' C':Nat) (A2:Option Addr) (N2 C2:Nat) (A2':Option Addr) (N2' C2':Nat),Below w.heap.size w W→Num W A N zl→Num W A' N' dl→Num W A2 N2 zr→Num W A2' N2' dr→Calls Tryz.prog 11 #[.agg #[.bool false,.slice A N C,.slice A' N' C'],.agg #[.bool false,.slice A2 N2 C2,.slice A2' N2' C2']] W fun en W'=>en = .returned (.tuple #[.int .i64 c,.int .i64 0])∧Below W.heap.size W W')) (HO1:Hid (∀ W:World,Calls Tryz.prog 16 #[.int .i64 1] W fun en W'=>(∃ A N C A' N' C',en = .returned (.agg #[.bool false,.slice A N C,.slice A' N' C'])∧Mine W' W.heap.size A N C 1∧Mine W' W.heap.size A' N' C' 1)∧Below W.heap.size W W')) (HO0:Hid (∀ W:World,Calls Tryz.prog 16 #[.int .i64 0] W fun en W'=>(∃ A N C A' N' C',en = .returned (.agg #[.bool false,.slice A N C,.slice A' N' C'])∧Mine W' W.heap.size A N C 0∧Mine W' W.heap.size A' N' C' 1)∧Below W.heap.size W W')) (HS1:Hid (∀ (W:World) (A:Option Addr) (N C:Nat) (A':Option Addr) (N' C':Nat) (A2:Option Addr) (N2 C2:Nat) (A2':Option Addr) (N2' C2':Nat),Below w.heap.size w W→Num W A N zg→Num W A' N' dg→Num W A2 N2 1→Num W A2' N2' 1→Calls Tryz.prog 10 #[.agg #[.bool gg,.slice A N C,.slice A' N' C'],.agg #[.bool false,.slice A2 N2 C2,.slice A2' N2' C2']] W fun en W'=>en = .returned (.bool one)∧Below W.heap.size W W')) (HS0:Hid (∀ (W:World) (A:Option Addr) (N C:Nat) (A':Option Addr) (N' C':Nat) (A2:Option Addr) (N2 C2:Nat) (A2':Option Addr) (N2' C2':Nat),Below w.heap.size w W→Num W A N zg→Num W A' N' dg→Num W A2 N2 0→Num W A2' N2' 1→Calls Tryz.prog 10 #[.agg #[.bool gg,.slice A N C,.slice A' N' C'],.agg #[.bool false,.slice A2 N2 C2,.slice A2' N2' C2']] W fun en W'=>en = .returned (.bool (!one))∧Below W.heap.size W W')) (hz1:zd = true→m4 = 0) (hz0:zd = false→0 < m4) (hodd:decide (m4 % 2 = 1) = odd) (HNt:Hid (s = true→∀ (W:World) (A:Option Addr) (N C:Nat) (A':Option Addr) (N' C':Nat) (A2:Option Addr) (N2 C2:Nat) (A2':Option Addr) (N2' C2':Nat),Below w.heap.size w W→Num W A N m2→Num W A' N' 1→Num W A2 N2 m3→Num W A2' N2' 1→Calls Tryz.prog 10 #[.agg #[.bool g2,.slice A N C,.slice A' N' C'],.agg #[.bool g3,.slice A2 N2 C2,.slice A2' N2' C2']] W fun en W'=>en = .returned (.bool true)∧Below W.heap.size W W')) (HNf:Hid (s = false→∀ (W:World) (A:Option Addr) (N C:Nat) (A':Option Addr) (N' C':Nat) (A2:Option Addr) (N2 C2:Nat) (A2':Option Addr) (N2' C2':Nat),Below w.heap.size w W→Num W A N m2→Num W A' N' 1→Num W A2 N2 m4→Num W A2' N2' 1→Calls Tryz.prog 10 #[.agg #[.bool g2,.slice A N C,.slice A' N' C'],.agg #[.bool g4,.slice A2 N2 C2,.slice A2' N2' C2']] W fun en W'=>en = .returned (.bool true)∧Below W.heap.size W W')) (hct:cgt = true→0 < c) (hcf:cgt = false→c≤0) (hqt:ceq = true→c = 0) (hqf:ceq = false→c≠0) (HEt:Hid ((cgt || (ceq && (odd && one))) = true→∀ (W:World) (A:Option Addr) (N C:Nat) (A':Option Addr) (N' C':Nat) (A2:Option Addr) (N2 C2:Nat) (A2':Option Addr) (N2' C2':Nat),Below w.heap.size w W→Num W A N m0→Num W A' N' 1→Num W A2 N2 m3→Num W A2' N2' 1→Calls Tryz.prog 10 #[.agg #[.bool g0,.slice A N C,.slice A' N' C'],.agg #[.bool g3,.slice A2 N2 C2,.slice A2' N2' C2']] W fun en W'=>en = .returned (.bool true)∧Below W.heap.size W W')) (HEf:Hid ((cgt || (ceq && (odd && one))) = false→∀ (W:World) (A:Option Addr) (N C:Nat) (A':Option Addr) (N' C':Nat) (A2:Option Addr) (N2 C2:Nat) (A2':Option Addr) (N2' C2':Nat),Below w.heap.size w W→Num W A N m0→Num W A' N' 1→Num W A2 N2 m4→Num W A2' N2' 1→Calls Tryz.prog 10 #[.agg #[.bool g0,.slice A N C,.slice A' N' C'],.agg #[.bool g4,.slice A2 N2 C2,.slice A2' N2' C2']] W fun en W'=>en = .returned (.bool true)∧Below W.heap.size W W')) (HAt:Hid ((cgt || (ceq && !s)) = true→∀ (W:World) (A:Option Addr) (N C:Nat) (A':Option Addr) (N' C':Nat) (A2:Option Addr) (N2 C2:Nat) (A2':Option Addr) (N2' C2':Nat),Below w.heap.size w W→Num W A N m1→Num W A' N' 1→Num W A2 N2 m3→Num W A2' N2' 1→Calls Tryz.prog 10 #[.agg #[.bool g1,.slice A N C,.slice A' N' C'],.agg #[.bool g3,.slice A2 N2 C2,.slice A2' N2' C2']] W fun en W'=>en = .returned (.bool true)∧Below W.heap.size W W')) (HAf:Hid ((cgt || (ceq && !s)) = false→∀ (W:World) (A:Option Addr) (N C:Nat) (A':Option Addr) (N' C':Nat) (A2:Option Addr) (N2 C2:Nat) (A2':Option Addr) (N2' C2':Nat),Below w.heap.size w W→Num W A N m1→Num W A' N' 1→Num W A2 N2 m4→Num W A2' N2' 1→Calls Tryz.prog 10 #[.agg #[.bool g1,.slice A N C,.slice A' N' C'],.agg #[.bool g4,.slice A2 N2 C2,.slice A2' N2' C2']] W fun en W'=>en = .returned (.bool true)∧Below W.heap.size W W')) :
  Calls Tryz.prog 4 #[.agg #[.bool s,.slice a1 n1 c1,.slice a2 n2 c2]] w fun en w'=>en = .returned (.bool true)∧Below w.heap.size w w':=by
 refine calls_sym Tryz.func4 rfl (by kernel_rfl) fun T hK=>?_
 replace hK:Kn T _ [(0,.agg #[.bool s,.slice a1 n1 c1,.slice a2 n2 c2])]:=hK
 have hS:=Fb.begin w
 have hG:GsAt [gN a1 n1 p,gN a2 n2 d] w:=⟨h1,h2,trivial⟩
 refine wq hS hG hK (fun p1=>[.n 1 #[.bool s,.slice a1 n1 c1,.slice a2 n2 c2] 28,.v 2 (.bool false)]) (fun p1=>[(1,pT (p1 0).N 0),(2,.bool false)]) (fun p1=>?_) (fun p1 W1 T hF hJ=>?_)
 ·refine okn ?_
  refine okv ?_
  exact ok_nil
 replace hS:=SymF.fc hS hF [1000] [⟨(p1 0).N,#[.bool s,.slice a1 n1 c1,.slice a2 n2 c2],28,true⟩]
 replace hG:=hF.gx
 clear hF hK
 have hK:=hJ
 clear hJ
 refine wq hS hG hK (fun p2=>[.c (some 27) (cV (.bool true)),.v 3 (.bool true)]) (fun p2=>[(1,pT (p1 0).N 0),(2,.bool false),(3,.bool true)]) (fun p2=>?_) (fun p2 W2 T hF hJ=>?_)
 ·refine okc (fun W cx=>as_v (salive_is _ (hT.kept cx.fr) (hN.kept cx.fr))) ?_
  refine okv ?_
  exact ok_nil
 replace hS:=SymF.fd hS hF
 replace hG:=hF.gx
 clear hF hK
 have hK:=hJ
 clear hJ
 refine wq hS hG hK (fun p3=>[.v 28 (.agg #[.int .i64 5,.int .i64 10]),.l 29 (.agg #[.bool s,.slice a1 n1 c1,.slice a2 n2 c2]) 0 0,.c (some 30) (cV (.bool true)),.v 4 (.bool true)]) (fun p3=>[(1,pT (p1 0).N 0),(2,.bool false),(3,.bool true),(4,.bool true)]) (fun p3=>?_) (fun p3 W3 T hF hJ=>?_)
 ·refine okv ?_
  refine okl ?_
  refine okc (fun W cx=>as_v (unhide HA _ cx.fr)) ?_
  refine okv ?_
  exact ok_nil
 replace hS:=SymF.fd hS hF
 replace hG:=hF.gx
 clear hF hK
 have hK:=hJ
 clear hJ
 refine wp_seq ?_
 refine wq hS hG hK (fun p4=>[.v 31 (.bool true),.v 32 (.bool false)]) (fun p4=>[(1,pT (p1 0).N 0),(2,.bool false),(3,.bool true),(32,.bool false)]) (fun p4=>?_) (fun p4 W4 T hF hJ=>?_)
 ·iterate 2 refine okv ?_
  exact ok_nil
 replace hS:=SymF.fd hS hF
 replace hG:=hF.gx
 clear hF hK
 have hK:=hJ
 clear hJ
 refine wp_cond_false (hK.ew 32) (wp_skip (then_n ?_))
 refine wq hS hG hK (fun p5=>[.n 5 #[.bool false,.slice none 0 0,.slice none 0 0,.bool false,.slice none 0 0,.slice none 0 0,.bool false,.slice none 0 0,.slice none 0 0,.bool false,.slice none 0 0,.slice none 0 0,.bool false,.slice none 0 0,.slice none 0 0] 44]) (fun p5=>[(1,pT (p1 0).N 0),(2,.bool false),(3,.bool true),(5,pT (p5 0).N 0)]) (fun p5=>?_) (fun p5 W5 T hF hJ=>?_)
 ·refine okn ?_
  exact ok_nil
 replace hS:=SymF.fc hS hF [0,1000] [⟨(p1 0).N,#[.bool s,.slice a1 n1 c1,.slice a2 n2 c2],28,true⟩,⟨(p5 0).N,#[.bool false,.slice none 0 0,.slice none 0 0,.bool false,.slice none 0 0,.slice none 0 0,.bool false,.slice none 0 0,.slice none 0 0,.bool false,.slice none 0 0,.slice none 0 0,.bool false,.slice none 0 0,.slice none 0 0],44,true⟩]
 replace hG:=hF.gx
 clear hF hK
 have hK:=hJ
 clear hJ
 refine wp_seq ?_
 refine wq hS hG hK (fun p6=>[.v 6 (.int .u8 0)]) (fun p6=>[(1,pT (p1 0).N 0),(2,.bool false),(3,.bool true),(5,pT (p5 0).N 0),(6,.int .u8 0)]) (fun p6=>?_) (fun p6 W6 T hF hJ=>?_)
 ·refine okv ?_
  exact ok_nil
 replace hS:=SymF.fd hS hF
 replace hG:=hF.gx
 clear hF hK
 have hK:=hJ
 clear hJ
 refine wp_block (wp_loop_rounds 6 ?_)
 refine rounds_s (wp_seq ?_)
 refine wq hS hG hK (fun p7=>[.v 34 (.int .u8 0),.v 35 (.bool true)]) (fun p7=>[(1,pT (p1 0).N 0),(2,.bool false),(3,.bool true),(5,pT (p5 0).N 0),(6,.int .u8 0),(35,.bool true)]) (fun p7=>?_) (fun p7 W7 T hF hJ=>?_)
 ·iterate 2 refine okv ?_
  exact ok_nil
 replace hS:=SymF.fd hS hF
 replace hG:=hF.gx
 clear hF hK
 have hK:=hJ
 clear hJ
 refine wp_cond_true (hK.ew 35) (wp_skip ?_)
 refine then_n (wp_seq (wp_block ?_))
 refine wq hS hG hK (fun p8=>[.l 39 (.agg #[.bool s,.slice a1 n1 c1,.slice a2 n2 c2]) 0 0,.v 40 (.int .u8 0),.c (some 41) (cG W7.heap.size m0 fun x9=>.tuple #[.bool g0,.agg #[x9],.bool ex,.int .i64 0]),.v 38 (.tuple #[.bool g0,.agg #[.slice (p8 2).A (p8 2).N (p8 2).C],.bool ex,.int .i64 0]),.v 42 (.bool g0),.v 43 (.agg #[.slice (p8 2).A (p8 2).N (p8 2).C]),.v 44 (.bool ex),.v 45 (.int .i64 0),.n 8 #[.slice none 0 0] 26,.v 7 (.bool g0),.p 1008 0 [.slice (p8 2).A (p8 2).N (p8 2).C],.v 9 (.bool ex),.v 10 (.int .i64 0)]) (fun p8=>[(1,pT (p1 0).N 0),(2,.bool false),(3,.bool true),(5,pT (p5 0).N 0),(6,.int .u8 0),(7,.bool g0),(8,pT (p8 8).N 0),(9,.bool ex),(10,.int .i64 0)]) (fun p8=>?_) (fun p8 W8 T hF hJ=>?_)
 ·refine okl ?_
  refine okv ?_
  refine okc (fun W cx=>as_g cx.hb (unhide HW0 _ cx.fr)) ?_
  iterate 5 refine okv ?_
  refine okn ?_
  refine okv ?_
  refine okp ?_
  iterate 2 refine okv ?_
  exact ok_nil
 replace hS:=SymF.fc hS hF [0,1,1008] [⟨(p1 0).N,#[.bool s,.slice a1 n1 c1,.slice a2 n2 c2],28,true⟩,⟨(p5 0).N,#[.bool false,.slice none 0 0,.slice none 0 0,.bool false,.slice none 0 0,.slice none 0 0,.bool false,.slice none 0 0,.slice none 0 0,.bool false,.slice none 0 0,.slice none 0 0,.bool false,.slice none 0 0,.slice none 0 0],44,true⟩,⟨(p8 8).N,#[.slice (p8 2).A (p8 2).N (p8 2).C],26,true⟩]
 replace hG:GsAt (gM W7.heap.size (p8 2).A (p8 2).N (p8 2).C m0 :: _) W8:=⟨hF.fx 2,hF.gx⟩
 clear hF hK
 have hK:=hJ
 clear hJ
 refine wq hS hG hK (fun p9=>[.v 47 (.bool g0),.l 48 (.agg #[.slice (p8 2).A (p8 2).N (p8 2).C]) 2 0,.n 49 #[.int .u32 1] (1000000+49),.v 50 (.agg #[.slice (some ⟨(p9 2).N,0,none⟩) 1 1]),.c (some 51) (cH W8.heap.size m0 1 fun x9 y9=>.tuple #[.agg #[.bool g0,x9,y9],.int .i64 0]),.v 46 (.tuple #[.agg #[.bool g0,.slice (p9 4).A (p9 4).N (p9 4).C,.slice (p9 4).A' (p9 4).N' (p9 4).C'],.int .i64 0]),.v 52 (.agg #[.bool g0,.slice (p9 4).A (p9 4).N (p9 4).C,.slice (p9 4).A' (p9 4).N' (p9 4).C']),.v 53 (.int .i64 0),.n 11 #[.bool false,.slice none 0 0,.slice none 0 0] 28,.p 1008 0 [.bool g0,.slice (p9 4).A (p9 4).N (p9 4).C,.slice (p9 4).A' (p9 4).N' (p9 4).C'],.v 12 (.int .i64 0)]) (fun p9=>[(1,pT (p1 0).N 0),(2,.bool false),(3,.bool true),(5,pT (p5 0).N 0),(6,.int .u8 0),(7,.bool g0),(8,pT (p8 8).N 0),(9,.bool ex),(10,.int .i64 0),(11,pT (p9 8).N 0),(12,.int .i64 0)]) (fun p9=>?_) (fun p9 W9 T hF hJ=>?_)
 ·refine okv ?_
  refine okl ?_
  refine okn ?_
  refine okv ?_
  refine okc (fun W cx=>as_h cx.hb (make_int _ _ _ _ _ (p8 2).C 1 hg0 (Mine.num cx.G.1) (num_one_laid (cx.F 2 (by kernel_rfl) (by kernel_rfl))))) ?_
  iterate 3 refine okv ?_
  refine okn ?_
  refine okp ?_
  refine okv ?_
  exact ok_nil
 replace hS:=SymF.fc hS hF [0,1,2,1008] [⟨(p1 0).N,#[.bool s,.slice a1 n1 c1,.slice a2 n2 c2],28,true⟩,⟨(p5 0).N,#[.bool false,.slice none 0 0,.slice none 0 0,.bool false,.slice none 0 0,.slice none 0 0,.bool false,.slice none 0 0,.slice none 0 0,.bool false,.slice none 0 0,.slice none 0 0,.bool false,.slice none 0 0,.slice none 0 0],44,true⟩,⟨(p8 8).N,#[.slice (p8 2).A (p8 2).N (p8 2).C],26,true⟩,⟨(p9 8).N,#[.bool g0,.slice (p9 4).A (p9 4).N (p9 4).C,.slice (p9 4).A' (p9 4).N' (p9 4).C'],28,true⟩]
 replace hG:GsAt (gM W8.heap.size (p9 4).A (p9 4).N (p9 4).C m0 :: gM W8.heap.size (p9 4).A' (p9 4).N' (p9 4).C' 1 :: _) W9:=⟨And.left (hF.fx 4),And.right (hF.fx 4),hF.gx⟩
 clear hF hK
 have hK:=hJ
 clear hJ
 refine wp_seq (wp_seq ?_)
 refine wp_join0 hS hG hK [(1,pT (p1 0).N 0),(2,.bool false),(3,.bool true),(5,pT (p5 0).N 0),(6,.int .u8 0),(7,.bool g0),(8,pT (p8 8).N 0),(9,.bool ex),(10,.int .i64 0),(11,pT (p9 8).N 0),(12,.int .i64 0),(75,.bool false)] ?_ (fun T W11 hS9 hG9 hJ=>?_)
 ·cases g0
  ·refine wg hS hG hK (fun p10=>[.v 54 (.int .i64 0),.v 55 (.bool false),.v 56 (.bool false),.v 57 (.int .i64 0),.v 58 (.bool false),.v 59 (.bool false),.v 60 (.bool false),.v 61 (.bool false),.v 62 (.bool false),.k (some 63),.k (some 64),.k (some 65),.k (some 66),.v 67 (.bool false),.v 68 (.bool false),.v 69 (.bool false),.v 70 (.bool ex),.l 71 (.agg #[.bool false,.slice (p9 4).A (p9 4).N (p9 4).C,.slice (p9 4).A' (p9 4).N' (p9 4).C']) 3 0,.l 72 (.agg #[.bool s,.slice a1 n1 c1,.slice a2 n2 c2]) 0 0,.c (some 73) (cV (.bool ex)),.v 74 (.bool false),.v 75 (.bool false)]) (fun p10=>[(1,pT (p1 0).N 0),(2,.bool false),(3,.bool true),(5,pT (p5 0).N 0),(6,.int .u8 0),(7,.bool false),(8,pT (p8 8).N 0),(9,.bool ex),(10,.int .i64 0),(11,pT (p9 8).N 0),(12,.int .i64 0),(75,.bool false)]) (fun p10=>?_) (fun p10 W10 T hF hJ=>?_)
   ·iterate 9 refine okv ?_
    iterate 4 refine okk ?_
    iterate 4 refine okv ?_
    iterate 2 refine okl ?_
    refine okc (fun W cx=>as_v (unhide HX0 _ _ _ (p9 4).C _ _ (p9 4).C' cx.fr (Mine.num cx.G.1) (Mine.num cx.G.2.1))) ?_
    refine okvb (bne_self_eq_false ex) ?_
    refine okv ?_
    exact ok_nil
   replace hS:=SymF.fd hS hF
   replace hG:=hF.gx
   clear hF hK
   have hK:=hJ
   clear hJ
   have z10:=hS.fr.size
   exact join_end hS hG (kn_out (ds:=[]) hK rfl rfl _ (by kernel_rfl) (by kernel_rfl))
  ·refine wg hS hG hK (fun p10=>[.v 54 (.int .i64 0),.v 55 (.bool false),.v 56 (.bool false),.v 57 (.int .i64 0),.v 58 (.bool false),.v 59 (.bool false),.v 60 (.bool false),.v 61 (.bool true),.v 62 (.bool true),.v 63 (pT (p8 8).N 0),.l 64 (.slice (p8 2).A (p8 2).N (p8 2).C) 2 0,.v 65 (.int .i64 ((p8 2).N:Int)),.v 66 (.bool false),.v 67 (.bool false),.v 68 (.bool false),.v 69 (.bool false),.v 70 (.bool ex),.l 71 (.agg #[.bool true,.slice (p9 4).A (p9 4).N (p9 4).C,.slice (p9 4).A' (p9 4).N' (p9 4).C']) 3 0,.l 72 (.agg #[.bool s,.slice a1 n1 c1,.slice a2 n2 c2]) 0 0,.c (some 73) (cV (.bool ex)),.v 74 (.bool false),.v 75 (.bool false)]) (fun p10=>[(1,pT (p1 0).N 0),(2,.bool false),(3,.bool true),(5,pT (p5 0).N 0),(6,.int .u8 0),(7,.bool true),(8,pT (p8 8).N 0),(9,.bool ex),(10,.int .i64 0),(11,pT (p9 8).N 0),(12,.int .i64 0),(75,.bool false)]) (fun p10=>?_) (fun p10 W10 T hF hJ=>?_)
   ·iterate 10 refine okv ?_
    refine okl ?_
    refine okv ?_
    refine okvb (beq_false_of_ne (show ((p8 2).N:Int)≠0 from len_ne (Mine.num hG.2.2.1) (hg0 rfl))) ?_
    iterate 4 refine okv ?_
    iterate 2 refine okl ?_
    refine okc (fun W cx=>as_v (unhide HX0 _ _ _ (p9 4).C _ _ (p9 4).C' cx.fr (Mine.num cx.G.1) (Mine.num cx.G.2.1))) ?_
    refine okvb (bne_self_eq_false ex) ?_
    refine okv ?_
    exact ok_nil
   replace hS:=SymF.fd hS hF
   replace hG:=hF.gx
   clear hF hK
   have hK:=hJ
   clear hJ
   have z10:=hS.fr.size
   exact join_end hS hG (kn_out (ds:=[]) hK rfl rfl _ (by kernel_rfl) (by kernel_rfl))
 clear hS hG hK
 have hS:=hS9
 have hG:=hG9
 have hK:=hJ
 clear hS9 hG9 hJ
 refine then_n (wp_cond_false (hK.ew 75) ?_)
 refine wp_skip (then_n ?_)
 refine wg hS hG hK (fun p12=>[.v 76 (.int .u8 0),.l 77 (.agg #[.bool g0,.slice (p9 4).A (p9 4).N (p9 4).C,.slice (p9 4).A' (p9 4).N' (p9 4).C']) 3 0,.v 78 (pT (p5 0).N 0),.p 1 0 [.bool g0,.slice (p9 4).A (p9 4).N (p9 4).C,.slice (p9 4).A' (p9 4).N' (p9 4).C']]) (fun p12=>[(1,pT (p1 0).N 0),(2,.bool false),(3,.bool true),(5,pT (p5 0).N 0),(6,.int .u8 0),(7,.bool g0),(8,pT (p8 8).N 0),(9,.bool ex),(10,.int .i64 0),(11,pT (p9 8).N 0),(12,.int .i64 0)]) (fun p12=>?_) (fun p12 W12 T hF hJ=>?_)
 ·refine okv ?_
  refine okl ?_
  refine okv ?_
  refine okp ?_
  exact ok_nil
 replace hS:=SymF.fc hS hF [0,1,2,3] [⟨(p1 0).N,#[.bool s,.slice a1 n1 c1,.slice a2 n2 c2],28,true⟩,⟨(p5 0).N,#[.bool g0,.slice (p9 4).A (p9 4).N (p9 4).C,.slice (p9 4).A' (p9 4).N' (p9 4).C',.bool false,.slice none 0 0,.slice none 0 0,.bool false,.slice none 0 0,.slice none 0 0,.bool false,.slice none 0 0,.slice none 0 0,.bool false,.slice none 0 0,.slice none 0 0],44,true⟩,⟨(p8 8).N,#[.slice (p8 2).A (p8 2).N (p8 2).C],26,true⟩,⟨(p9 8).N,#[.bool g0,.slice (p9 4).A (p9 4).N (p9 4).C,.slice (p9 4).A' (p9 4).N' (p9 4).C'],28,true⟩]
 replace hG:=hF.gx
 clear hF hK
 have hK:=hJ
 clear hJ
 refine inb_n (then_n ?_)
 refine wg hS hG hK (fun p13=>[.v 36 (.int .u8 0),.v 37 (.int .u8 1),.v 6 (.int .u8 1)]) (fun p13=>[(1,pT (p1 0).N 0),(2,.bool false),(3,.bool true),(5,pT (p5 0).N 0),(6,.int .u8 1),(7,.bool g0),(8,pT (p8 8).N 0),(9,.bool ex),(10,.int .i64 0),(11,pT (p9 8).N 0),(12,.int .i64 0)]) (fun p13=>?_) (fun p13 W13 T hF hJ=>?_)
 ·iterate 3 refine okv ?_
  exact ok_nil
 replace hS:=SymF.fd hS hF
 replace hG:=hF.gx
 clear hF hK
 have hK:=hJ
 clear hJ
 refine then_n (rounds_s (wp_seq ?_))
 refine wq hS hG hK (fun p14=>[.v 34 (.int .u8 1),.v 35 (.bool true)]) (fun p14=>[(1,pT (p1 0).N 0),(2,.bool false),(3,.bool true),(5,pT (p5 0).N 0),(6,.int .u8 1),(7,.bool g0),(8,pT (p8 8).N 0),(9,.bool ex),(10,.int .i64 0),(11,pT (p9 8).N 0),(12,.int .i64 0),(35,.bool true)]) (fun p14=>?_) (fun p14 W14 T hF hJ=>?_)
 ·iterate 2 refine okv ?_
  exact ok_nil
 replace hS:=SymF.fd hS hF
 replace hG:=hF.gx
 clear hF hK
 have hK:=hJ
 clear hJ
 refine wp_cond_true (hK.ew 35) (wp_skip ?_)
 refine then_n (wp_seq (wp_block ?_))
 refine wq hS hG hK (fun p15=>[.l 39 (.agg #[.bool s,.slice a1 n1 c1,.slice a2 n2 c2]) 0 0,.v 40 (.int .u8 1),.c (some 41) (cG W14.heap.size m1 fun x9=>.tuple #[.bool g1,.agg #[x9],.bool ex,.int .i64 0]),.v 38 (.tuple #[.bool g1,.agg #[.slice (p15 2).A (p15 2).N (p15 2).C],.bool ex,.int .i64 0]),.v 42 (.bool g1),.v 43 (.agg #[.slice (p15 2).A (p15 2).N (p15 2).C]),.v 44 (.bool ex),.v 45 (.int .i64 0),.n 8 #[.slice none 0 0] 26,.v 7 (.bool g1),.p 1008 0 [.slice (p15 2).A (p15 2).N (p15 2).C],.v 9 (.bool ex),.v 10 (.int .i64 0)]) (fun p15=>[(1,pT (p1 0).N 0),(2,.bool false),(3,.bool true),(5,pT (p5 0).N 0),(6,.int .u8 1),(7,.bool g1),(8,pT (p15 8).N 0),(9,.bool ex),(10,.int .i64 0),(11,pT (p9 8).N 0),(12,.int .i64 0)]) (fun p15=>?_) (fun p15 W15 T hF hJ=>?_)
 ·refine okl ?_
  refine okv ?_
  refine okc (fun W cx=>as_g cx.hb (unhide HW1 _ cx.fr)) ?_
  iterate 5 refine okv ?_
  refine okn ?_
  refine okv ?_
  refine okp ?_
  iterate 2 refine okv ?_
  exact ok_nil
 replace hS:=SymF.fc hS hF [0,1,3,1008] [⟨(p1 0).N,#[.bool s,.slice a1 n1 c1,.slice a2 n2 c2],28,true⟩,⟨(p5 0).N,#[.bool g0,.slice (p9 4).A (p9 4).N (p9 4).C,.slice (p9 4).A' (p9 4).N' (p9 4).C',.bool false,.slice none 0 0,.slice none 0 0,.bool false,.slice none 0 0,.slice none 0 0,.bool false,.slice none 0 0,.slice none 0 0,.bool false,.slice none 0 0,.slice none 0 0],44,true⟩,⟨(p9 8).N,#[.bool g0,.slice (p9 4).A (p9 4).N (p9 4).C,.slice (p9 4).A' (p9 4).N' (p9 4).C'],28,true⟩,⟨(p15 8).N,#[.slice (p15 2).A (p15 2).N (p15 2).C],26,true⟩]
 replace hG:GsAt (gM W14.heap.size (p15 2).A (p15 2).N (p15 2).C m1 :: _) W15:=⟨hF.fx 2,hF.gx⟩
 clear hF hK
 have hK:=hJ
 clear hJ
 refine wq hS hG hK (fun p16=>[.v 47 (.bool g1),.l 48 (.agg #[.slice (p15 2).A (p15 2).N (p15 2).C]) 3 0,.n 49 #[.int .u32 1] (1000000+49),.v 50 (.agg #[.slice (some ⟨(p16 2).N,0,none⟩) 1 1]),.c (some 51) (cH W15.heap.size m1 1 fun x9 y9=>.tuple #[.agg #[.bool g1,x9,y9],.int .i64 0]),.v 46 (.tuple #[.agg #[.bool g1,.slice (p16 4).A (p16 4).N (p16 4).C,.slice (p16 4).A' (p16 4).N' (p16 4).C'],.int .i64 0]),.v 52 (.agg #[.bool g1,.slice (p16 4).A (p16 4).N (p16 4).C,.slice (p16 4).A' (p16 4).N' (p16 4).C']),.v 53 (.int .i64 0),.n 11 #[.bool false,.slice none 0 0,.slice none 0 0] 28,.p 1008 0 [.bool g1,.slice (p16 4).A (p16 4).N (p16 4).C,.slice (p16 4).A' (p16 4).N' (p16 4).C'],.v 12 (.int .i64 0)]) (fun p16=>[(1,pT (p1 0).N 0),(2,.bool false),(3,.bool true),(5,pT (p5 0).N 0),(6,.int .u8 1),(7,.bool g1),(8,pT (p15 8).N 0),(9,.bool ex),(10,.int .i64 0),(11,pT (p16 8).N 0),(12,.int .i64 0)]) (fun p16=>?_) (fun p16 W16 T hF hJ=>?_)
 ·refine okv ?_
  refine okl ?_
  refine okn ?_
  refine okv ?_
  refine okc (fun W cx=>as_h cx.hb (make_int _ _ _ _ _ (p15 2).C 1 hg1 (Mine.num cx.G.1) (num_one_laid (cx.F 2 (by kernel_rfl) (by kernel_rfl))))) ?_
  iterate 3 refine okv ?_
  refine okn ?_
  refine okp ?_
  refine okv ?_
  exact ok_nil
 replace hS:=SymF.fc hS hF [0,1,3,1008] [⟨(p1 0).N,#[.bool s,.slice a1 n1 c1,.slice a2 n2 c2],28,true⟩,⟨(p5 0).N,#[.bool g0,.slice (p9 4).A (p9 4).N (p9 4).C,.slice (p9 4).A' (p9 4).N' (p9 4).C',.bool false,.slice none 0 0,.slice none 0 0,.bool false,.slice none 0 0,.slice none 0 0,.bool false,.slice none 0 0,.slice none 0 0,.bool false,.slice none 0 0,.slice none 0 0],44,true⟩,⟨(p15 8).N,#[.slice (p15 2).A (p15 2).N (p15 2).C],26,true⟩,⟨(p16 8).N,#[.bool g1,.slice (p16 4).A (p16 4).N (p16 4).C,.slice (p16 4).A' (p16 4).N' (p16 4).C'],28,true⟩]
 replace hG:GsAt (gM W15.heap.size (p16 4).A (p16 4).N (p16 4).C m1 :: gM W15.heap.size (p16 4).A' (p16 4).N' (p16 4).C' 1 :: _) W16:=⟨And.left (hF.fx 4),And.right (hF.fx 4),hF.gx⟩
 clear hF hK
 have hK:=hJ
 clear hJ
 refine wp_seq (wp_seq ?_)
 refine wp_join0 hS hG hK [(1,pT (p1 0).N 0),(2,.bool false),(3,.bool true),(5,pT (p5 0).N 0),(6,.int .u8 1),(7,.bool g1),(8,pT (p15 8).N 0),(9,.bool ex),(10,.int .i64 0),(11,pT (p16 8).N 0),(12,.int .i64 0),(75,.bool false)] ?_ (fun T W18 hS9 hG9 hJ=>?_)
 ·cases g1
  ·refine wg hS hG hK (fun p17=>[.v 54 (.int .i64 0),.v 55 (.bool false),.v 56 (.bool false),.v 57 (.int .i64 0),.v 58 (.bool false),.v 59 (.bool false),.v 60 (.bool false),.v 61 (.bool false),.v 62 (.bool false),.k (some 63),.k (some 64),.k (some 65),.k (some 66),.v 67 (.bool false),.v 68 (.bool false),.v 69 (.bool false),.v 70 (.bool ex),.l 71 (.agg #[.bool false,.slice (p16 4).A (p16 4).N (p16 4).C,.slice (p16 4).A' (p16 4).N' (p16 4).C']) 3 0,.l 72 (.agg #[.bool s,.slice a1 n1 c1,.slice a2 n2 c2]) 0 0,.c (some 73) (cV (.bool ex)),.v 74 (.bool false),.v 75 (.bool false)]) (fun p17=>[(1,pT (p1 0).N 0),(2,.bool false),(3,.bool true),(5,pT (p5 0).N 0),(6,.int .u8 1),(7,.bool false),(8,pT (p15 8).N 0),(9,.bool ex),(10,.int .i64 0),(11,pT (p16 8).N 0),(12,.int .i64 0),(75,.bool false)]) (fun p17=>?_) (fun p17 W17 T hF hJ=>?_)
   ·iterate 9 refine okv ?_
    iterate 4 refine okk ?_
    iterate 4 refine okv ?_
    iterate 2 refine okl ?_
    refine okc (fun W cx=>as_v (unhide HX1 _ _ _ (p16 4).C _ _ (p16 4).C' cx.fr (Mine.num cx.G.1) (Mine.num cx.G.2.1))) ?_
    refine okvb (bne_self_eq_false ex) ?_
    refine okv ?_
    exact ok_nil
   replace hS:=SymF.fd hS hF
   replace hG:=hF.gx
   clear hF hK
   have hK:=hJ
   clear hJ
   have z17:=hS.fr.size
   exact join_end hS hG (kn_out (ds:=[]) hK rfl rfl _ (by kernel_rfl) (by kernel_rfl))
  ·refine wg hS hG hK (fun p17=>[.v 54 (.int .i64 0),.v 55 (.bool false),.v 56 (.bool false),.v 57 (.int .i64 0),.v 58 (.bool false),.v 59 (.bool false),.v 60 (.bool false),.v 61 (.bool true),.v 62 (.bool true),.v 63 (pT (p15 8).N 0),.l 64 (.slice (p15 2).A (p15 2).N (p15 2).C) 2 0,.v 65 (.int .i64 ((p15 2).N:Int)),.v 66 (.bool false),.v 67 (.bool false),.v 68 (.bool false),.v 69 (.bool false),.v 70 (.bool ex),.l 71 (.agg #[.bool true,.slice (p16 4).A (p16 4).N (p16 4).C,.slice (p16 4).A' (p16 4).N' (p16 4).C']) 3 0,.l 72 (.agg #[.bool s,.slice a1 n1 c1,.slice a2 n2 c2]) 0 0,.c (some 73) (cV (.bool ex)),.v 74 (.bool false),.v 75 (.bool false)]) (fun p17=>[(1,pT (p1 0).N 0),(2,.bool false),(3,.bool true),(5,pT (p5 0).N 0),(6,.int .u8 1),(7,.bool true),(8,pT (p15 8).N 0),(9,.bool ex),(10,.int .i64 0),(11,pT (p16 8).N 0),(12,.int .i64 0),(75,.bool false)]) (fun p17=>?_) (fun p17 W17 T hF hJ=>?_)
   ·iterate 10 refine okv ?_
    refine okl ?_
    refine okv ?_
    refine okvb (beq_false_of_ne (show ((p15 2).N:Int)≠0 from len_ne (Mine.num hG.2.2.1) (hg1 rfl))) ?_
    iterate 4 refine okv ?_
    iterate 2 refine okl ?_
    refine okc (fun W cx=>as_v (unhide HX1 _ _ _ (p16 4).C _ _ (p16 4).C' cx.fr (Mine.num cx.G.1) (Mine.num cx.G.2.1))) ?_
    refine okvb (bne_self_eq_false ex) ?_
    refine okv ?_
    exact ok_nil
   replace hS:=SymF.fd hS hF
   replace hG:=hF.gx
   clear hF hK
   have hK:=hJ
   clear hJ
   have z17:=hS.fr.size
   exact join_end hS hG (kn_out (ds:=[]) hK rfl rfl _ (by kernel_rfl) (by kernel_rfl))
 clear hS hG hK
 have hS:=hS9
 have hG:=hG9
 have hK:=hJ
 clear hS9 hG9 hJ
 refine then_n (wp_cond_false (hK.ew 75) ?_)
 refine wp_skip (then_n ?_)
 refine wg hS hG hK (fun p19=>[.v 76 (.int .u8 1),.l 77 (.agg #[.bool g1,.slice (p16 4).A (p16 4).N (p16 4).C,.slice (p16 4).A' (p16 4).N' (p16 4).C']) 3 0,.v 78 (pT (p5 0).N 3),.p 1 3 [.bool g1,.slice (p16 4).A (p16 4).N (p16 4).C,.slice (p16 4).A' (p16 4).N' (p16 4).C']]) (fun p19=>[(1,pT (p1 0).N 0),(2,.bool false),(3,.bool true),(5,pT (p5 0).N 0),(6,.int .u8 1),(7,.bool g1),(8,pT (p15 8).N 0),(9,.bool ex),(10,.int .i64 0),(11,pT (p16 8).N 0),(12,.int .i64 0)]) (fun p19=>?_) (fun p19 W19 T hF hJ=>?_)
 ·refine okv ?_
  refine okl ?_
  refine okv ?_
  refine okp ?_
  exact ok_nil
 replace hS:=SymF.fc hS hF [0,1,2,3] [⟨(p1 0).N,#[.bool s,.slice a1 n1 c1,.slice a2 n2 c2],28,true⟩,⟨(p5 0).N,#[.bool g0,.slice (p9 4).A (p9 4).N (p9 4).C,.slice (p9 4).A' (p9 4).N' (p9 4).C',.bool g1,.slice (p16 4).A (p16 4).N (p16 4).C,.slice (p16 4).A' (p16 4).N' (p16 4).C',.bool false,.slice none 0 0,.slice none 0 0,.bool false,.slice none 0 0,.slice none 0 0,.bool false,.slice none 0 0,.slice none 0 0],44,true⟩,⟨(p15 8).N,#[.slice (p15 2).A (p15 2).N (p15 2).C],26,true⟩,⟨(p16 8).N,#[.bool g1,.slice (p16 4).A (p16 4).N (p16 4).C,.slice (p16 4).A' (p16 4).N' (p16 4).C'],28,true⟩]
 replace hG:=hF.gx
 clear hF hK
 have hK:=hJ
 clear hJ
 refine inb_n (then_n ?_)
 refine wg hS hG hK (fun p20=>[.v 36 (.int .u8 1),.v 37 (.int .u8 2),.v 6 (.int .u8 2)]) (fun p20=>[(1,pT (p1 0).N 0),(2,.bool false),(3,.bool true),(5,pT (p5 0).N 0),(6,.int .u8 2),(7,.bool g1),(8,pT (p15 8).N 0),(9,.bool ex),(10,.int .i64 0),(11,pT (p16 8).N 0),(12,.int .i64 0)]) (fun p20=>?_) (fun p20 W20 T hF hJ=>?_)
 ·iterate 3 refine okv ?_
  exact ok_nil
 replace hS:=SymF.fd hS hF
 replace hG:=hF.gx
 clear hF hK
 have hK:=hJ
 clear hJ
 refine then_n (rounds_s (wp_seq ?_))
 refine wq hS hG hK (fun p21=>[.v 34 (.int .u8 2),.v 35 (.bool true)]) (fun p21=>[(1,pT (p1 0).N 0),(2,.bool false),(3,.bool true),(5,pT (p5 0).N 0),(6,.int .u8 2),(7,.bool g1),(8,pT (p15 8).N 0),(9,.bool ex),(10,.int .i64 0),(11,pT (p16 8).N 0),(12,.int .i64 0),(35,.bool true)]) (fun p21=>?_) (fun p21 W21 T hF hJ=>?_)
 ·iterate 2 refine okv ?_
  exact ok_nil
 replace hS:=SymF.fd hS hF
 replace hG:=hF.gx
 clear hF hK
 have hK:=hJ
 clear hJ
 refine wp_cond_true (hK.ew 35) (wp_skip ?_)
 refine then_n (wp_seq (wp_block ?_))
 refine wq hS hG hK (fun p22=>[.l 39 (.agg #[.bool s,.slice a1 n1 c1,.slice a2 n2 c2]) 0 0,.v 40 (.int .u8 2),.c (some 41) (cG W21.heap.size m2 fun x9=>.tuple #[.bool g2,.agg #[x9],.bool ex,.int .i64 0]),.v 38 (.tuple #[.bool g2,.agg #[.slice (p22 2).A (p22 2).N (p22 2).C],.bool ex,.int .i64 0]),.v 42 (.bool g2),.v 43 (.agg #[.slice (p22 2).A (p22 2).N (p22 2).C]),.v 44 (.bool ex),.v 45 (.int .i64 0),.n 8 #[.slice none 0 0] 26,.v 7 (.bool g2),.p 1008 0 [.slice (p22 2).A (p22 2).N (p22 2).C],.v 9 (.bool ex),.v 10 (.int .i64 0)]) (fun p22=>[(1,pT (p1 0).N 0),(2,.bool false),(3,.bool true),(5,pT (p5 0).N 0),(6,.int .u8 2),(7,.bool g2),(8,pT (p22 8).N 0),(9,.bool ex),(10,.int .i64 0),(11,pT (p16 8).N 0),(12,.int .i64 0)]) (fun p22=>?_) (fun p22 W22 T hF hJ=>?_)
 ·refine okl ?_
  refine okv ?_
  refine okc (fun W cx=>as_g cx.hb (unhide HW2 _ cx.fr)) ?_
  iterate 5 refine okv ?_
  refine okn ?_
  refine okv ?_
  refine okp ?_
  iterate 2 refine okv ?_
  exact ok_nil
 replace hS:=SymF.fc hS hF [0,1,3,1008] [⟨(p1 0).N,#[.bool s,.slice a1 n1 c1,.slice a2 n2 c2],28,true⟩,⟨(p5 0).N,#[.bool g0,.slice (p9 4).A (p9 4).N (p9 4).C,.slice (p9 4).A' (p9 4).N' (p9 4).C',.bool g1,.slice (p16 4).A (p16 4).N (p16 4).C,.slice (p16 4).A' (p16 4).N' (p16 4).C',.bool false,.slice none 0 0,.slice none 0 0,.bool false,.slice none 0 0,.slice none 0 0,.bool false,.slice none 0 0,.slice none 0 0],44,true⟩,⟨(p16 8).N,#[.bool g1,.slice (p16 4).A (p16 4).N (p16 4).C,.slice (p16 4).A' (p16 4).N' (p16 4).C'],28,true⟩,⟨(p22 8).N,#[.slice (p22 2).A (p22 2).N (p22 2).C],26,true⟩]
 replace hG:GsAt (gM W21.heap.size (p22 2).A (p22 2).N (p22 2).C m2 :: _) W22:=⟨hF.fx 2,hF.gx⟩
 clear hF hK
 have hK:=hJ
 clear hJ
 refine wq hS hG hK (fun p23=>[.v 47 (.bool g2),.l 48 (.agg #[.slice (p22 2).A (p22 2).N (p22 2).C]) 3 0,.n 49 #[.int .u32 1] (1000000+49),.v 50 (.agg #[.slice (some ⟨(p23 2).N,0,none⟩) 1 1]),.c (some 51) (cH W22.heap.size m2 1 fun x9 y9=>.tuple #[.agg #[.bool g2,x9,y9],.int .i64 0]),.v 46 (.tuple #[.agg #[.bool g2,.slice (p23 4).A (p23 4).N (p23 4).C,.slice (p23 4).A' (p23 4).N' (p23 4).C'],.int .i64 0]),.v 52 (.agg #[.bool g2,.slice (p23 4).A (p23 4).N (p23 4).C,.slice (p23 4).A' (p23 4).N' (p23 4).C']),.v 53 (.int .i64 0),.n 11 #[.bool false,.slice none 0 0,.slice none 0 0] 28,.p 1008 0 [.bool g2,.slice (p23 4).A (p23 4).N (p23 4).C,.slice (p23 4).A' (p23 4).N' (p23 4).C'],.v 12 (.int .i64 0)]) (fun p23=>[(1,pT (p1 0).N 0),(2,.bool false),(3,.bool true),(5,pT (p5 0).N 0),(6,.int .u8 2),(7,.bool g2),(8,pT (p22 8).N 0),(9,.bool ex),(10,.int .i64 0),(11,pT (p23 8).N 0),(12,.int .i64 0)]) (fun p23=>?_) (fun p23 W23 T hF hJ=>?_)
 ·refine okv ?_
  refine okl ?_
  refine okn ?_
  refine okv ?_
  refine okc (fun W cx=>as_h cx.hb (make_int _ _ _ _ _ (p22 2).C 1 hg2 (Mine.num cx.G.1) (num_one_laid (cx.F 2 (by kernel_rfl) (by kernel_rfl))))) ?_
  iterate 3 refine okv ?_
  refine okn ?_
  refine okp ?_
  refine okv ?_
  exact ok_nil
 replace hS:=SymF.fc hS hF [0,1,3,1008] [⟨(p1 0).N,#[.bool s,.slice a1 n1 c1,.slice a2 n2 c2],28,true⟩,⟨(p5 0).N,#[.bool g0,.slice (p9 4).A (p9 4).N (p9 4).C,.slice (p9 4).A' (p9 4).N' (p9 4).C',.bool g1,.slice (p16 4).A (p16 4).N (p16 4).C,.slice (p16 4).A' (p16 4).N' (p16 4).C',.bool false,.slice none 0 0,.slice none 0 0,.bool false,.slice none 0 0,.slice none 0 0,.bool false,.slice none 0 0,.slice none 0 0],44,true⟩,⟨(p22 8).N,#[.slice (p22 2).A (p22 2).N (p22 2).C],26,true⟩,⟨(p23 8).N,#[.bool g2,.slice (p23 4).A (p23 4).N (p23 4).C,.slice (p23 4).A' (p23 4).N' (p23 4).C'],28,true⟩]
 replace hG:GsAt (gM W22.heap.size (p23 4).A (p23 4).N (p23 4).C m2 :: gM W22.heap.size (p23 4).A' (p23 4).N' (p23 4).C' 1 :: _) W23:=⟨And.left (hF.fx 4),And.right (hF.fx 4),hF.gx⟩
 clear hF hK
 have hK:=hJ
 clear hJ
 refine wp_seq (wp_seq ?_)
 refine wp_join0 hS hG hK [(1,pT (p1 0).N 0),(2,.bool false),(3,.bool true),(5,pT (p5 0).N 0),(6,.int .u8 2),(7,.bool g2),(8,pT (p22 8).N 0),(9,.bool ex),(10,.int .i64 0),(11,pT (p23 8).N 0),(12,.int .i64 0),(75,.bool false)] ?_ (fun T W25 hS9 hG9 hJ=>?_)
 ·cases g2
  ·refine wg hS hG hK (fun p24=>[.v 54 (.int .i64 0),.v 55 (.bool false),.v 56 (.bool false),.v 57 (.int .i64 0),.v 58 (.bool false),.v 59 (.bool false),.v 60 (.bool false),.v 61 (.bool false),.v 62 (.bool false),.k (some 63),.k (some 64),.k (some 65),.k (some 66),.v 67 (.bool false),.v 68 (.bool false),.v 69 (.bool false),.v 70 (.bool ex),.l 71 (.agg #[.bool false,.slice (p23 4).A (p23 4).N (p23 4).C,.slice (p23 4).A' (p23 4).N' (p23 4).C']) 3 0,.l 72 (.agg #[.bool s,.slice a1 n1 c1,.slice a2 n2 c2]) 0 0,.c (some 73) (cV (.bool ex)),.v 74 (.bool false),.v 75 (.bool false)]) (fun p24=>[(1,pT (p1 0).N 0),(2,.bool false),(3,.bool true),(5,pT (p5 0).N 0),(6,.int .u8 2),(7,.bool false),(8,pT (p22 8).N 0),(9,.bool ex),(10,.int .i64 0),(11,pT (p23 8).N 0),(12,.int .i64 0),(75,.bool false)]) (fun p24=>?_) (fun p24 W24 T hF hJ=>?_)
   ·iterate 9 refine okv ?_
    iterate 4 refine okk ?_
    iterate 4 refine okv ?_
    iterate 2 refine okl ?_
    refine okc (fun W cx=>as_v (unhide HX2 _ _ _ (p23 4).C _ _ (p23 4).C' cx.fr (Mine.num cx.G.1) (Mine.num cx.G.2.1))) ?_
    refine okvb (bne_self_eq_false ex) ?_
    refine okv ?_
    exact ok_nil
   replace hS:=SymF.fd hS hF
   replace hG:=hF.gx
   clear hF hK
   have hK:=hJ
   clear hJ
   have z24:=hS.fr.size
   exact join_end hS hG (kn_out (ds:=[]) hK rfl rfl _ (by kernel_rfl) (by kernel_rfl))
  ·refine wg hS hG hK (fun p24=>[.v 54 (.int .i64 0),.v 55 (.bool false),.v 56 (.bool false),.v 57 (.int .i64 0),.v 58 (.bool false),.v 59 (.bool false),.v 60 (.bool false),.v 61 (.bool true),.v 62 (.bool true),.v 63 (pT (p22 8).N 0),.l 64 (.slice (p22 2).A (p22 2).N (p22 2).C) 2 0,.v 65 (.int .i64 ((p22 2).N:Int)),.v 66 (.bool false),.v 67 (.bool false),.v 68 (.bool false),.v 69 (.bool false),.v 70 (.bool ex),.l 71 (.agg #[.bool true,.slice (p23 4).A (p23 4).N (p23 4).C,.slice (p23 4).A' (p23 4).N' (p23 4).C']) 3 0,.l 72 (.agg #[.bool s,.slice a1 n1 c1,.slice a2 n2 c2]) 0 0,.c (some 73) (cV (.bool ex)),.v 74 (.bool false),.v 75 (.bool false)]) (fun p24=>[(1,pT (p1 0).N 0),(2,.bool false),(3,.bool true),(5,pT (p5 0).N 0),(6,.int .u8 2),(7,.bool true),(8,pT (p22 8).N 0),(9,.bool ex),(10,.int .i64 0),(11,pT (p23 8).N 0),(12,.int .i64 0),(75,.bool false)]) (fun p24=>?_) (fun p24 W24 T hF hJ=>?_)
   ·iterate 10 refine okv ?_
    refine okl ?_
    refine okv ?_
    refine okvb (beq_false_of_ne (show ((p22 2).N:Int)≠0 from len_ne (Mine.num hG.2.2.1) (hg2 rfl))) ?_
    iterate 4 refine okv ?_
    iterate 2 refine okl ?_
    refine okc (fun W cx=>as_v (unhide HX2 _ _ _ (p23 4).C _ _ (p23 4).C' cx.fr (Mine.num cx.G.1) (Mine.num cx.G.2.1))) ?_
    refine okvb (bne_self_eq_false ex) ?_
    refine okv ?_
    exact ok_nil
   replace hS:=SymF.fd hS hF
   replace hG:=hF.gx
   clear hF hK
   have hK:=hJ
   clear hJ
   have z24:=hS.fr.size
   exact join_end hS hG (kn_out (ds:=[]) hK rfl rfl _ (by kernel_rfl) (by kernel_rfl))
 clear hS hG hK
 have hS:=hS9
 have hG:=hG9
 have hK:=hJ
 clear hS9 hG9 hJ
 refine then_n (wp_cond_false (hK.ew 75) ?_)
 refine wp_skip (then_n ?_)
 refine wg hS hG hK (fun p26=>[.v 76 (.int .u8 2),.l 77 (.agg #[.bool g2,.slice (p23 4).A (p23 4).N (p23 4).C,.slice (p23 4).A' (p23 4).N' (p23 4).C']) 3 0,.v 78 (pT (p5 0).N 6),.p 1 6 [.bool g2,.slice (p23 4).A (p23 4).N (p23 4).C,.slice (p23 4).A' (p23 4).N' (p23 4).C']]) (fun p26=>[(1,pT (p1 0).N 0),(2,.bool false),(3,.bool true),(5,pT (p5 0).N 0),(6,.int .u8 2),(7,.bool g2),(8,pT (p22 8).N 0),(9,.bool ex),(10,.int .i64 0),(11,pT (p23 8).N 0),(12,.int .i64 0)]) (fun p26=>?_) (fun p26 W26 T hF hJ=>?_)
 ·refine okv ?_
  refine okl ?_
  refine okv ?_
  refine okp ?_
  exact ok_nil
 replace hS:=SymF.fc hS hF [0,1,2,3] [⟨(p1 0).N,#[.bool s,.slice a1 n1 c1,.slice a2 n2 c2],28,true⟩,⟨(p5 0).N,#[.bool g0,.slice (p9 4).A (p9 4).N (p9 4).C,.slice (p9 4).A' (p9 4).N' (p9 4).C',.bool g1,.slice (p16 4).A (p16 4).N (p16 4).C,.slice (p16 4).A' (p16 4).N' (p16 4).C',.bool g2,.slice (p23 4).A (p23 4).N (p23 4).C,.slice (p23 4).A' (p23 4).N' (p23 4).C',.bool false,.slice none 0 0,.slice none 0 0,.bool false,.slice none 0 0,.slice none 0 0],44,true⟩,⟨(p22 8).N,#[.slice (p22 2).A (p22 2).N (p22 2).C],26,true⟩,⟨(p23 8).N,#[.bool g2,.slice (p23 4).A (p23 4).N (p23 4).C,.slice (p23 4).A' (p23 4).N' (p23 4).C'],28,true⟩]
 replace hG:=hF.gx
 clear hF hK
 have hK:=hJ
 clear hJ
 refine inb_n (then_n ?_)
 refine wg hS hG hK (fun p27=>[.v 36 (.int .u8 2),.v 37 (.int .u8 3),.v 6 (.int .u8 3)]) (fun p27=>[(1,pT (p1 0).N 0),(2,.bool false),(3,.bool true),(5,pT (p5 0).N 0),(6,.int .u8 3),(7,.bool g2),(8,pT (p22 8).N 0),(9,.bool ex),(10,.int .i64 0),(11,pT (p23 8).N 0),(12,.int .i64 0)]) (fun p27=>?_) (fun p27 W27 T hF hJ=>?_)
 ·iterate 3 refine okv ?_
  exact ok_nil
 replace hS:=SymF.fd hS hF
 replace hG:=hF.gx
 clear hF hK
 have hK:=hJ
 clear hJ
 refine then_n (rounds_s (wp_seq ?_))
 refine wq hS hG hK (fun p28=>[.v 34 (.int .u8 3),.v 35 (.bool true)]) (fun p28=>[(1,pT (p1 0).N 0),(2,.bool false),(3,.bool true),(5,pT (p5 0).N 0),(6,.int .u8 3),(7,.bool g2),(8,pT (p22 8).N 0),(9,.bool ex),(10,.int .i64 0),(11,pT (p23 8).N 0),(12,.int .i64 0),(35,.bool true)]) (fun p28=>?_) (fun p28 W28 T hF hJ=>?_)
 ·iterate 2 refine okv ?_
  exact ok_nil
 replace hS:=SymF.fd hS hF
 replace hG:=hF.gx
 clear hF hK
 have hK:=hJ
 clear hJ
 refine wp_cond_true (hK.ew 35) (wp_skip ?_)
 refine then_n (wp_seq (wp_block ?_))
 refine wq hS hG hK (fun p29=>[.l 39 (.agg #[.bool s,.slice a1 n1 c1,.slice a2 n2 c2]) 0 0,.v 40 (.int .u8 3),.c (some 41) (cG W28.heap.size m3 fun x9=>.tuple #[.bool g3,.agg #[x9],.bool ex,.int .i64 0]),.v 38 (.tuple #[.bool g3,.agg #[.slice (p29 2).A (p29 2).N (p29 2).C],.bool ex,.int .i64 0]),.v 42 (.bool g3),.v 43 (.agg #[.slice (p29 2).A (p29 2).N (p29 2).C]),.v 44 (.bool ex),.v 45 (.int .i64 0),.n 8 #[.slice none 0 0] 26,.v 7 (.bool g3),.p 1008 0 [.slice (p29 2).A (p29 2).N (p29 2).C],.v 9 (.bool ex),.v 10 (.int .i64 0)]) (fun p29=>[(1,pT (p1 0).N 0),(2,.bool false),(3,.bool true),(5,pT (p5 0).N 0),(6,.int .u8 3),(7,.bool g3),(8,pT (p29 8).N 0),(9,.bool ex),(10,.int .i64 0),(11,pT (p23 8).N 0),(12,.int .i64 0)]) (fun p29=>?_) (fun p29 W29 T hF hJ=>?_)
 ·refine okl ?_
  refine okv ?_
  refine okc (fun W cx=>as_g cx.hb (unhide HW3 _ cx.fr)) ?_
  iterate 5 refine okv ?_
  refine okn ?_
  refine okv ?_
  refine okp ?_
  iterate 2 refine okv ?_
  exact ok_nil
 replace hS:=SymF.fc hS hF [0,1,3,1008] [⟨(p1 0).N,#[.bool s,.slice a1 n1 c1,.slice a2 n2 c2],28,true⟩,⟨(p5 0).N,#[.bool g0,.slice (p9 4).A (p9 4).N (p9 4).C,.slice (p9 4).A' (p9 4).N' (p9 4).C',.bool g1,.slice (p16 4).A (p16 4).N (p16 4).C,.slice (p16 4).A' (p16 4).N' (p16 4).C',.bool g2,.slice (p23 4).A (p23 4).N (p23 4).C,.slice (p23 4).A' (p23 4).N' (p23 4).C',.bool false,.slice none 0 0,.slice none 0 0,.bool false,.slice none 0 0,.slice none 0 0],44,true⟩,⟨(p23 8).N,#[.bool g2,.slice (p23 4).A (p23 4).N (p23 4).C,.slice (p23 4).A' (p23 4).N' (p23 4).C'],28,true⟩,⟨(p29 8).N,#[.slice (p29 2).A (p29 2).N (p29 2).C],26,true⟩]
 replace hG:GsAt (gM W28.heap.size (p29 2).A (p29 2).N (p29 2).C m3 :: _) W29:=⟨hF.fx 2,hF.gx⟩
 clear hF hK
 have hK:=hJ
 clear hJ
 refine wq hS hG hK (fun p30=>[.v 47 (.bool g3),.l 48 (.agg #[.slice (p29 2).A (p29 2).N (p29 2).C]) 3 0,.n 49 #[.int .u32 1] (1000000+49),.v 50 (.agg #[.slice (some ⟨(p30 2).N,0,none⟩) 1 1]),.c (some 51) (cH W29.heap.size m3 1 fun x9 y9=>.tuple #[.agg #[.bool g3,x9,y9],.int .i64 0]),.v 46 (.tuple #[.agg #[.bool g3,.slice (p30 4).A (p30 4).N (p30 4).C,.slice (p30 4).A' (p30 4).N' (p30 4).C'],.int .i64 0]),.v 52 (.agg #[.bool g3,.slice (p30 4).A (p30 4).N (p30 4).C,.slice (p30 4).A' (p30 4).N' (p30 4).C']),.v 53 (.int .i64 0),.n 11 #[.bool false,.slice none 0 0,.slice none 0 0] 28,.p 1008 0 [.bool g3,.slice (p30 4).A (p30 4).N (p30 4).C,.slice (p30 4).A' (p30 4).N' (p30 4).C'],.v 12 (.int .i64 0)]) (fun p30=>[(1,pT (p1 0).N 0),(2,.bool false),(3,.bool true),(5,pT (p5 0).N 0),(6,.int .u8 3),(7,.bool g3),(8,pT (p29 8).N 0),(9,.bool ex),(10,.int .i64 0),(11,pT (p30 8).N 0),(12,.int .i64 0)]) (fun p30=>?_) (fun p30 W30 T hF hJ=>?_)
 ·refine okv ?_
  refine okl ?_
  refine okn ?_
  refine okv ?_
  refine okc (fun W cx=>as_h cx.hb (make_int _ _ _ _ _ (p29 2).C 1 hg3 (Mine.num cx.G.1) (num_one_laid (cx.F 2 (by kernel_rfl) (by kernel_rfl))))) ?_
  iterate 3 refine okv ?_
  refine okn ?_
  refine okp ?_
  refine okv ?_
  exact ok_nil
 replace hS:=SymF.fc hS hF [0,1,3,1008] [⟨(p1 0).N,#[.bool s,.slice a1 n1 c1,.slice a2 n2 c2],28,true⟩,⟨(p5 0).N,#[.bool g0,.slice (p9 4).A (p9 4).N (p9 4).C,.slice (p9 4).A' (p9 4).N' (p9 4).C',.bool g1,.slice (p16 4).A (p16 4).N (p16 4).C,.slice (p16 4).A' (p16 4).N' (p16 4).C',.bool g2,.slice (p23 4).A (p23 4).N (p23 4).C,.slice (p23 4).A' (p23 4).N' (p23 4).C',.bool false,.slice none 0 0,.slice none 0 0,.bool false,.slice none 0 0,.slice none 0 0],44,true⟩,⟨(p29 8).N,#[.slice (p29 2).A (p29 2).N (p29 2).C],26,true⟩,⟨(p30 8).N,#[.bool g3,.slice (p30 4).A (p30 4).N (p30 4).C,.slice (p30 4).A' (p30 4).N' (p30 4).C'],28,true⟩]
 replace hG:GsAt (gM W29.heap.size (p30 4).A (p30 4).N (p30 4).C m3 :: gM W29.heap.size (p30 4).A' (p30 4).N' (p30 4).C' 1 :: _) W30:=⟨And.left (hF.fx 4),And.right (hF.fx 4),hF.gx⟩
 clear hF hK
 have hK:=hJ
 clear hJ
 refine wp_seq (wp_seq ?_)
 refine wp_join0 hS hG hK [(1,pT (p1 0).N 0),(2,.bool false),(3,.bool true),(5,pT (p5 0).N 0),(6,.int .u8 3),(7,.bool g3),(8,pT (p29 8).N 0),(9,.bool ex),(10,.int .i64 0),(11,pT (p30 8).N 0),(12,.int .i64 0),(75,.bool false)] ?_ (fun T W32 hS9 hG9 hJ=>?_)
 ·cases g3
  ·refine wg hS hG hK (fun p31=>[.v 54 (.int .i64 0),.v 55 (.bool false),.v 56 (.bool false),.v 57 (.int .i64 0),.v 58 (.bool false),.v 59 (.bool false),.v 60 (.bool false),.v 61 (.bool false),.v 62 (.bool false),.k (some 63),.k (some 64),.k (some 65),.k (some 66),.v 67 (.bool false),.v 68 (.bool false),.v 69 (.bool false),.v 70 (.bool ex),.l 71 (.agg #[.bool false,.slice (p30 4).A (p30 4).N (p30 4).C,.slice (p30 4).A' (p30 4).N' (p30 4).C']) 3 0,.l 72 (.agg #[.bool s,.slice a1 n1 c1,.slice a2 n2 c2]) 0 0,.c (some 73) (cV (.bool ex)),.v 74 (.bool false),.v 75 (.bool false)]) (fun p31=>[(1,pT (p1 0).N 0),(2,.bool false),(3,.bool true),(5,pT (p5 0).N 0),(6,.int .u8 3),(7,.bool false),(8,pT (p29 8).N 0),(9,.bool ex),(10,.int .i64 0),(11,pT (p30 8).N 0),(12,.int .i64 0),(75,.bool false)]) (fun p31=>?_) (fun p31 W31 T hF hJ=>?_)
   ·iterate 9 refine okv ?_
    iterate 4 refine okk ?_
    iterate 4 refine okv ?_
    iterate 2 refine okl ?_
    refine okc (fun W cx=>as_v (unhide HX3 _ _ _ (p30 4).C _ _ (p30 4).C' cx.fr (Mine.num cx.G.1) (Mine.num cx.G.2.1))) ?_
    refine okvb (bne_self_eq_false ex) ?_
    refine okv ?_
    exact ok_nil
   replace hS:=SymF.fd hS hF
   replace hG:=hF.gx
   clear hF hK
   have hK:=hJ
   clear hJ
   have z31:=hS.fr.size
   exact join_end hS hG (kn_out (ds:=[]) hK rfl rfl _ (by kernel_rfl) (by kernel_rfl))
  ·refine wg hS hG hK (fun p31=>[.v 54 (.int .i64 0),.v 55 (.bool false),.v 56 (.bool false),.v 57 (.int .i64 0),.v 58 (.bool false),.v 59 (.bool false),.v 60 (.bool false),.v 61 (.bool true),.v 62 (.bool true),.v 63 (pT (p29 8).N 0),.l 64 (.slice (p29 2).A (p29 2).N (p29 2).C) 2 0,.v 65 (.int .i64 ((p29 2).N:Int)),.v 66 (.bool false),.v 67 (.bool false),.v 68 (.bool false),.v 69 (.bool false),.v 70 (.bool ex),.l 71 (.agg #[.bool true,.slice (p30 4).A (p30 4).N (p30 4).C,.slice (p30 4).A' (p30 4).N' (p30 4).C']) 3 0,.l 72 (.agg #[.bool s,.slice a1 n1 c1,.slice a2 n2 c2]) 0 0,.c (some 73) (cV (.bool ex)),.v 74 (.bool false),.v 75 (.bool false)]) (fun p31=>[(1,pT (p1 0).N 0),(2,.bool false),(3,.bool true),(5,pT (p5 0).N 0),(6,.int .u8 3),(7,.bool true),(8,pT (p29 8).N 0),(9,.bool ex),(10,.int .i64 0),(11,pT (p30 8).N 0),(12,.int .i64 0),(75,.bool false)]) (fun p31=>?_) (fun p31 W31 T hF hJ=>?_)
   ·iterate 10 refine okv ?_
    refine okl ?_
    refine okv ?_
    refine okvb (beq_false_of_ne (show ((p29 2).N:Int)≠0 from len_ne (Mine.num hG.2.2.1) (hg3 rfl))) ?_
    iterate 4 refine okv ?_
    iterate 2 refine okl ?_
    refine okc (fun W cx=>as_v (unhide HX3 _ _ _ (p30 4).C _ _ (p30 4).C' cx.fr (Mine.num cx.G.1) (Mine.num cx.G.2.1))) ?_
    refine okvb (bne_self_eq_false ex) ?_
    refine okv ?_
    exact ok_nil
   replace hS:=SymF.fd hS hF
   replace hG:=hF.gx
   clear hF hK
   have hK:=hJ
   clear hJ
   have z31:=hS.fr.size
   exact join_end hS hG (kn_out (ds:=[]) hK rfl rfl _ (by kernel_rfl) (by kernel_rfl))
 clear hS hG hK
 have hS:=hS9
 have hG:=hG9
 have hK:=hJ
 clear hS9 hG9 hJ
 refine then_n (wp_cond_false (hK.ew 75) ?_)
 refine wp_skip (then_n ?_)
 refine wg hS hG hK (fun p33=>[.v 76 (.int .u8 3),.l 77 (.agg #[.bool g3,.slice (p30 4).A (p30 4).N (p30 4).C,.slice (p30 4).A' (p30 4).N' (p30 4).C']) 3 0,.v 78 (pT (p5 0).N 9),.p 1 9 [.bool g3,.slice (p30 4).A (p30 4).N (p30 4).C,.slice (p30 4).A' (p30 4).N' (p30 4).C']]) (fun p33=>[(1,pT (p1 0).N 0),(2,.bool false),(3,.bool true),(5,pT (p5 0).N 0),(6,.int .u8 3),(7,.bool g3),(8,pT (p29 8).N 0),(9,.bool ex),(10,.int .i64 0),(11,pT (p30 8).N 0),(12,.int .i64 0)]) (fun p33=>?_) (fun p33 W33 T hF hJ=>?_)
 ·refine okv ?_
  refine okl ?_
  refine okv ?_
  refine okp ?_
  exact ok_nil
 replace hS:=SymF.fc hS hF [0,1,2,3] [⟨(p1 0).N,#[.bool s,.slice a1 n1 c1,.slice a2 n2 c2],28,true⟩,⟨(p5 0).N,#[.bool g0,.slice (p9 4).A (p9 4).N (p9 4).C,.slice (p9 4).A' (p9 4).N' (p9 4).C',.bool g1,.slice (p16 4).A (p16 4).N (p16 4).C,.slice (p16 4).A' (p16 4).N' (p16 4).C',.bool g2,.slice (p23 4).A (p23 4).N (p23 4).C,.slice (p23 4).A' (p23 4).N' (p23 4).C',.bool g3,.slice (p30 4).A (p30 4).N (p30 4).C,.slice (p30 4).A' (p30 4).N' (p30 4).C',.bool false,.slice none 0 0,.slice none 0 0],44,true⟩,⟨(p29 8).N,#[.slice (p29 2).A (p29 2).N (p29 2).C],26,true⟩,⟨(p30 8).N,#[.bool g3,.slice (p30 4).A (p30 4).N (p30 4).C,.slice (p30 4).A' (p30 4).N' (p30 4).C'],28,true⟩]
 replace hG:=hF.gx
 clear hF hK
 have hK:=hJ
 clear hJ
 refine inb_n (then_n ?_)
 refine wg hS hG hK (fun p34=>[.v 36 (.int .u8 3),.v 37 (.int .u8 4),.v 6 (.int .u8 4)]) (fun p34=>[(1,pT (p1 0).N 0),(2,.bool false),(3,.bool true),(5,pT (p5 0).N 0),(6,.int .u8 4),(7,.bool g3),(8,pT (p29 8).N 0),(9,.bool ex),(10,.int .i64 0),(11,pT (p30 8).N 0),(12,.int .i64 0)]) (fun p34=>?_) (fun p34 W34 T hF hJ=>?_)
 ·iterate 3 refine okv ?_
  exact ok_nil
 replace hS:=SymF.fd hS hF
 replace hG:=hF.gx
 clear hF hK
 have hK:=hJ
 clear hJ
 refine then_n (rounds_s (wp_seq ?_))
 refine wq hS hG hK (fun p35=>[.v 34 (.int .u8 4),.v 35 (.bool true)]) (fun p35=>[(1,pT (p1 0).N 0),(2,.bool false),(3,.bool true),(5,pT (p5 0).N 0),(6,.int .u8 4),(7,.bool g3),(8,pT (p29 8).N 0),(9,.bool ex),(10,.int .i64 0),(11,pT (p30 8).N 0),(12,.int .i64 0),(35,.bool true)]) (fun p35=>?_) (fun p35 W35 T hF hJ=>?_)
 ·iterate 2 refine okv ?_
  exact ok_nil
 replace hS:=SymF.fd hS hF
 replace hG:=hF.gx
 clear hF hK
 have hK:=hJ
 clear hJ
 refine wp_cond_true (hK.ew 35) (wp_skip ?_)
 refine then_n (wp_seq (wp_block ?_))
 refine wq hS hG hK (fun p36=>[.l 39 (.agg #[.bool s,.slice a1 n1 c1,.slice a2 n2 c2]) 0 0,.v 40 (.int .u8 4),.c (some 41) (cG W35.heap.size m4 fun x9=>.tuple #[.bool g4,.agg #[x9],.bool ex,.int .i64 0]),.v 38 (.tuple #[.bool g4,.agg #[.slice (p36 2).A (p36 2).N (p36 2).C],.bool ex,.int .i64 0]),.v 42 (.bool g4),.v 43 (.agg #[.slice (p36 2).A (p36 2).N (p36 2).C]),.v 44 (.bool ex),.v 45 (.int .i64 0),.n 8 #[.slice none 0 0] 26,.v 7 (.bool g4),.p 1008 0 [.slice (p36 2).A (p36 2).N (p36 2).C],.v 9 (.bool ex),.v 10 (.int .i64 0)]) (fun p36=>[(1,pT (p1 0).N 0),(2,.bool false),(3,.bool true),(5,pT (p5 0).N 0),(6,.int .u8 4),(7,.bool g4),(8,pT (p36 8).N 0),(9,.bool ex),(10,.int .i64 0),(11,pT (p30 8).N 0),(12,.int .i64 0)]) (fun p36=>?_) (fun p36 W36 T hF hJ=>?_)
 ·refine okl ?_
  refine okv ?_
  refine okc (fun W cx=>as_g cx.hb (unhide HW4 _ cx.fr)) ?_
  iterate 5 refine okv ?_
  refine okn ?_
  refine okv ?_
  refine okp ?_
  iterate 2 refine okv ?_
  exact ok_nil
 replace hS:=SymF.fc hS hF [0,1,3,1008] [⟨(p1 0).N,#[.bool s,.slice a1 n1 c1,.slice a2 n2 c2],28,true⟩,⟨(p5 0).N,#[.bool g0,.slice (p9 4).A (p9 4).N (p9 4).C,.slice (p9 4).A' (p9 4).N' (p9 4).C',.bool g1,.slice (p16 4).A (p16 4).N (p16 4).C,.slice (p16 4).A' (p16 4).N' (p16 4).C',.bool g2,.slice (p23 4).A (p23 4).N (p23 4).C,.slice (p23 4).A' (p23 4).N' (p23 4).C',.bool g3,.slice (p30 4).A (p30 4).N (p30 4).C,.slice (p30 4).A' (p30 4).N' (p30 4).C',.bool false,.slice none 0 0,.slice none 0 0],44,true⟩,⟨(p30 8).N,#[.bool g3,.slice (p30 4).A (p30 4).N (p30 4).C,.slice (p30 4).A' (p30 4).N' (p30 4).C'],28,true⟩,⟨(p36 8).N,#[.slice (p36 2).A (p36 2).N (p36 2).C],26,true⟩]
 replace hG:GsAt (gM W35.heap.size (p36 2).A (p36 2).N (p36 2).C m4 :: _) W36:=⟨hF.fx 2,hF.gx⟩
 clear hF hK
 have hK:=hJ
 clear hJ
 refine wq hS hG hK (fun p37=>[.v 47 (.bool g4),.l 48 (.agg #[.slice (p36 2).A (p36 2).N (p36 2).C]) 3 0,.n 49 #[.int .u32 1] (1000000+49),.v 50 (.agg #[.slice (some ⟨(p37 2).N,0,none⟩) 1 1]),.c (some 51) (cH W36.heap.size m4 1 fun x9 y9=>.tuple #[.agg #[.bool g4,x9,y9],.int .i64 0]),.v 46 (.tuple #[.agg #[.bool g4,.slice (p37 4).A (p37 4).N (p37 4).C,.slice (p37 4).A' (p37 4).N' (p37 4).C'],.int .i64 0]),.v 52 (.agg #[.bool g4,.slice (p37 4).A (p37 4).N (p37 4).C,.slice (p37 4).A' (p37 4).N' (p37 4).C']),.v 53 (.int .i64 0),.n 11 #[.bool false,.slice none 0 0,.slice none 0 0] 28,.p 1008 0 [.bool g4,.slice (p37 4).A (p37 4).N (p37 4).C,.slice (p37 4).A' (p37 4).N' (p37 4).C'],.v 12 (.int .i64 0)]) (fun p37=>[(1,pT (p1 0).N 0),(2,.bool false),(3,.bool true),(5,pT (p5 0).N 0),(6,.int .u8 4),(7,.bool g4),(8,pT (p36 8).N 0),(9,.bool ex),(10,.int .i64 0),(11,pT (p37 8).N 0),(12,.int .i64 0)]) (fun p37=>?_) (fun p37 W37 T hF hJ=>?_)
 ·refine okv ?_
  refine okl ?_
  refine okn ?_
  refine okv ?_
  refine okc (fun W cx=>as_h cx.hb (make_int _ _ _ _ _ (p36 2).C 1 hg4 (Mine.num cx.G.1) (num_one_laid (cx.F 2 (by kernel_rfl) (by kernel_rfl))))) ?_
  iterate 3 refine okv ?_
  refine okn ?_
  refine okp ?_
  refine okv ?_
  exact ok_nil
 replace hS:=SymF.fc hS hF [0,1,3,1008] [⟨(p1 0).N,#[.bool s,.slice a1 n1 c1,.slice a2 n2 c2],28,true⟩,⟨(p5 0).N,#[.bool g0,.slice (p9 4).A (p9 4).N (p9 4).C,.slice (p9 4).A' (p9 4).N' (p9 4).C',.bool g1,.slice (p16 4).A (p16 4).N (p16 4).C,.slice (p16 4).A' (p16 4).N' (p16 4).C',.bool g2,.slice (p23 4).A (p23 4).N (p23 4).C,.slice (p23 4).A' (p23 4).N' (p23 4).C',.bool g3,.slice (p30 4).A (p30 4).N (p30 4).C,.slice (p30 4).A' (p30 4).N' (p30 4).C',.bool false,.slice none 0 0,.slice none 0 0],44,true⟩,⟨(p36 8).N,#[.slice (p36 2).A (p36 2).N (p36 2).C],26,true⟩,⟨(p37 8).N,#[.bool g4,.slice (p37 4).A (p37 4).N (p37 4).C,.slice (p37 4).A' (p37 4).N' (p37 4).C'],28,true⟩]
 replace hG:GsAt (gM W36.heap.size (p37 4).A (p37 4).N (p37 4).C m4 :: gM W36.heap.size (p37 4).A' (p37 4).N' (p37 4).C' 1 :: _) W37:=⟨And.left (hF.fx 4),And.right (hF.fx 4),hF.gx⟩
 clear hF hK
 have hK:=hJ
 clear hJ
 refine wp_seq (wp_seq ?_)
 refine wp_join0 hS hG hK [(1,pT (p1 0).N 0),(2,.bool false),(3,.bool true),(5,pT (p5 0).N 0),(6,.int .u8 4),(7,.bool g4),(8,pT (p36 8).N 0),(9,.bool ex),(10,.int .i64 0),(11,pT (p37 8).N 0),(12,.int .i64 0),(75,.bool false)] ?_ (fun T W39 hS9 hG9 hJ=>?_)
 ·cases g4
  ·refine wg hS hG hK (fun p38=>[.v 54 (.int .i64 0),.v 55 (.bool false),.v 56 (.bool false),.v 57 (.int .i64 0),.v 58 (.bool false),.v 59 (.bool false),.v 60 (.bool false),.v 61 (.bool false),.v 62 (.bool false),.k (some 63),.k (some 64),.k (some 65),.k (some 66),.v 67 (.bool false),.v 68 (.bool false),.v 69 (.bool false),.v 70 (.bool ex),.l 71 (.agg #[.bool false,.slice (p37 4).A (p37 4).N (p37 4).C,.slice (p37 4).A' (p37 4).N' (p37 4).C']) 3 0,.l 72 (.agg #[.bool s,.slice a1 n1 c1,.slice a2 n2 c2]) 0 0,.c (some 73) (cV (.bool ex)),.v 74 (.bool false),.v 75 (.bool false)]) (fun p38=>[(1,pT (p1 0).N 0),(2,.bool false),(3,.bool true),(5,pT (p5 0).N 0),(6,.int .u8 4),(7,.bool false),(8,pT (p36 8).N 0),(9,.bool ex),(10,.int .i64 0),(11,pT (p37 8).N 0),(12,.int .i64 0),(75,.bool false)]) (fun p38=>?_) (fun p38 W38 T hF hJ=>?_)
   ·iterate 9 refine okv ?_
    iterate 4 refine okk ?_
    iterate 4 refine okv ?_
    iterate 2 refine okl ?_
    refine okc (fun W cx=>as_v (unhide HX4 _ _ _ (p37 4).C _ _ (p37 4).C' cx.fr (Mine.num cx.G.1) (Mine.num cx.G.2.1))) ?_
    refine okvb (bne_self_eq_false ex) ?_
    refine okv ?_
    exact ok_nil
   replace hS:=SymF.fd hS hF
   replace hG:=hF.gx
   clear hF hK
   have hK:=hJ
   clear hJ
   have z38:=hS.fr.size
   exact join_end hS hG (kn_out (ds:=[]) hK rfl rfl _ (by kernel_rfl) (by kernel_rfl))
  ·refine wg hS hG hK (fun p38=>[.v 54 (.int .i64 0),.v 55 (.bool false),.v 56 (.bool false),.v 57 (.int .i64 0),.v 58 (.bool false),.v 59 (.bool false),.v 60 (.bool false),.v 61 (.bool true),.v 62 (.bool true),.v 63 (pT (p36 8).N 0),.l 64 (.slice (p36 2).A (p36 2).N (p36 2).C) 2 0,.v 65 (.int .i64 ((p36 2).N:Int)),.v 66 (.bool false),.v 67 (.bool false),.v 68 (.bool false),.v 69 (.bool false),.v 70 (.bool ex),.l 71 (.agg #[.bool true,.slice (p37 4).A (p37 4).N (p37 4).C,.slice (p37 4).A' (p37 4).N' (p37 4).C']) 3 0,.l 72 (.agg #[.bool s,.slice a1 n1 c1,.slice a2 n2 c2]) 0 0,.c (some 73) (cV (.bool ex)),.v 74 (.bool false),.v 75 (.bool false)]) (fun p38=>[(1,pT (p1 0).N 0),(2,.bool false),(3,.bool true),(5,pT (p5 0).N 0),(6,.int .u8 4),(7,.bool true),(8,pT (p36 8).N 0),(9,.bool ex),(10,.int .i64 0),(11,pT (p37 8).N 0),(12,.int .i64 0),(75,.bool false)]) (fun p38=>?_) (fun p38 W38 T hF hJ=>?_)
   ·iterate 10 refine okv ?_
    refine okl ?_
    refine okv ?_
    refine okvb (beq_false_of_ne (show ((p36 2).N:Int)≠0 from len_ne (Mine.num hG.2.2.1) (hg4 rfl))) ?_
    iterate 4 refine okv ?_
    iterate 2 refine okl ?_
    refine okc (fun W cx=>as_v (unhide HX4 _ _ _ (p37 4).C _ _ (p37 4).C' cx.fr (Mine.num cx.G.1) (Mine.num cx.G.2.1))) ?_
    refine okvb (bne_self_eq_false ex) ?_
    refine okv ?_
    exact ok_nil
   replace hS:=SymF.fd hS hF
   replace hG:=hF.gx
   clear hF hK
   have hK:=hJ
   clear hJ
   have z38:=hS.fr.size
   exact join_end hS hG (kn_out (ds:=[]) hK rfl rfl _ (by kernel_rfl) (by kernel_rfl))
 clear hS hG hK
 have hS:=hS9
 have hG:=hG9
 have hK:=hJ
 clear hS9 hG9 hJ
 refine then_n (wp_cond_false (hK.ew 75) ?_)
 refine wp_skip (then_n ?_)
 refine wg hS hG hK (fun p40=>[.v 76 (.int .u8 4),.l 77 (.agg #[.bool g4,.slice (p37 4).A (p37 4).N (p37 4).C,.slice (p37 4).A' (p37 4).N' (p37 4).C']) 3 0,.v 78 (pT (p5 0).N 12),.p 1 12 [.bool g4,.slice (p37 4).A (p37 4).N (p37 4).C,.slice (p37 4).A' (p37 4).N' (p37 4).C']]) (fun p40=>[(1,pT (p1 0).N 0),(2,.bool false),(3,.bool true),(5,pT (p5 0).N 0),(6,.int .u8 4),(7,.bool g4),(8,pT (p36 8).N 0),(9,.bool ex),(10,.int .i64 0),(11,pT (p37 8).N 0),(12,.int .i64 0)]) (fun p40=>?_) (fun p40 W40 T hF hJ=>?_)
 ·refine okv ?_
  refine okl ?_
  refine okv ?_
  refine okp ?_
  exact ok_nil
 replace hS:=SymF.fc hS hF [0,1,2,3] [⟨(p1 0).N,#[.bool s,.slice a1 n1 c1,.slice a2 n2 c2],28,true⟩,⟨(p5 0).N,#[.bool g0,.slice (p9 4).A (p9 4).N (p9 4).C,.slice (p9 4).A' (p9 4).N' (p9 4).C',.bool g1,.slice (p16 4).A (p16 4).N (p16 4).C,.slice (p16 4).A' (p16 4).N' (p16 4).C',.bool g2,.slice (p23 4).A (p23 4).N (p23 4).C,.slice (p23 4).A' (p23 4).N' (p23 4).C',.bool g3,.slice (p30 4).A (p30 4).N (p30 4).C,.slice (p30 4).A' (p30 4).N' (p30 4).C',.bool g4,.slice (p37 4).A (p37 4).N (p37 4).C,.slice (p37 4).A' (p37 4).N' (p37 4).C'],44,true⟩,⟨(p36 8).N,#[.slice (p36 2).A (p36 2).N (p36 2).C],26,true⟩,⟨(p37 8).N,#[.bool g4,.slice (p37 4).A (p37 4).N (p37 4).C,.slice (p37 4).A' (p37 4).N' (p37 4).C'],28,true⟩]
 replace hG:=hF.gx
 clear hF hK
 have hK:=hJ
 clear hJ
 refine inb_n (then_n ?_)
 refine wg hS hG hK (fun p41=>[.v 36 (.int .u8 4),.v 37 (.int .u8 5),.v 6 (.int .u8 5)]) (fun p41=>[(1,pT (p1 0).N 0),(2,.bool false),(3,.bool true),(5,pT (p5 0).N 0),(6,.int .u8 5),(7,.bool g4),(8,pT (p36 8).N 0),(9,.bool ex),(10,.int .i64 0),(11,pT (p37 8).N 0),(12,.int .i64 0)]) (fun p41=>?_) (fun p41 W41 T hF hJ=>?_)
 ·iterate 3 refine okv ?_
  exact ok_nil
 replace hS:=SymF.fd hS hF
 replace hG:=hF.gx
 clear hF hK
 have hK:=hJ
 clear hJ
 refine then_n (rounds_s (wp_seq ?_))
 refine wq hS hG hK (fun p42=>[.v 34 (.int .u8 5),.v 35 (.bool false)]) (fun p42=>[(1,pT (p1 0).N 0),(2,.bool false),(3,.bool true),(5,pT (p5 0).N 0),(6,.int .u8 5),(7,.bool g4),(8,pT (p36 8).N 0),(9,.bool ex),(10,.int .i64 0),(11,pT (p37 8).N 0),(12,.int .i64 0),(35,.bool false)]) (fun p42=>?_) (fun p42 W42 T hF hJ=>?_)
 ·iterate 2 refine okv ?_
  exact ok_nil
 replace hS:=SymF.fd hS hF
 replace hG:=hF.gx
 clear hF hK
 have hK:=hJ
 clear hJ
 refine wp_cond_false (hK.ew 35) (wp_exit ?_)
 refine then_x (then_x ?_)
 refine inb_x (then_n ?_)
 refine wq hS hG hK (fun p43=>[.l 80 (.agg #[.bool s,.slice a1 n1 c1,.slice a2 n2 c2]) 0 0,.v 81 (pT (p5 0).N 12),.l 82 (.agg #[.bool g4,.slice (p37 4).A (p37 4).N (p37 4).C,.slice (p37 4).A' (p37 4).N' (p37 4).C']) 1 12,.c (some 83) (cH W42.heap.size zl dl fun x9 y9=>.tuple #[.agg #[.bool false,x9,y9],.int .i64 0]),.v 79 (.tuple #[.agg #[.bool false,.slice (p43 3).A (p43 3).N (p43 3).C,.slice (p43 3).A' (p43 3).N' (p43 3).C'],.int .i64 0]),.v 84 (.agg #[.bool false,.slice (p43 3).A (p43 3).N (p43 3).C,.slice (p43 3).A' (p43 3).N' (p43 3).C']),.v 85 (.int .i64 0),.n 13 #[.bool false,.slice none 0 0,.slice none 0 0] 28,.p 1007 0 [.bool false,.slice (p43 3).A (p43 3).N (p43 3).C,.slice (p43 3).A' (p43 3).N' (p43 3).C'],.v 14 (.int .i64 0)]) (fun p43=>[(1,pT (p1 0).N 0),(2,.bool false),(3,.bool true),(5,pT (p5 0).N 0),(13,pT (p43 7).N 0),(14,.int .i64 0)]) (fun p43=>?_) (fun p43 W43 T hF hJ=>?_)
 ·refine okl ?_
  refine okv ?_
  refine okl ?_
  refine okc (fun W cx=>as_h cx.hb (unhide HL _ _ _ (p37 4).C _ _ (p37 4).C' cx.fr (Mine.num cx.G.1) (Mine.num cx.G.2.1))) ?_
  iterate 3 refine okv ?_
  refine okn ?_
  refine okp ?_
  refine okv ?_
  exact ok_nil
 replace hS:=SymF.fc hS hF [0,1,1007] [⟨(p1 0).N,#[.bool s,.slice a1 n1 c1,.slice a2 n2 c2],28,true⟩,⟨(p5 0).N,#[.bool g0,.slice (p9 4).A (p9 4).N (p9 4).C,.slice (p9 4).A' (p9 4).N' (p9 4).C',.bool g1,.slice (p16 4).A (p16 4).N (p16 4).C,.slice (p16 4).A' (p16 4).N' (p16 4).C',.bool g2,.slice (p23 4).A (p23 4).N (p23 4).C,.slice (p23 4).A' (p23 4).N' (p23 4).C',.bool g3,.slice (p30 4).A (p30 4).N (p30 4).C,.slice (p30 4).A' (p30 4).N' (p30 4).C',.bool g4,.slice (p37 4).A (p37 4).N (p37 4).C,.slice (p37 4).A' (p37 4).N' (p37 4).C'],44,true⟩,⟨(p43 7).N,#[.bool false,.slice (p43 3).A (p43 3).N (p43 3).C,.slice (p43 3).A' (p43 3).N' (p43 3).C'],28,true⟩]
 replace hG:GsAt (gM W42.heap.size (p43 3).A (p43 3).N (p43 3).C zl :: gM W42.heap.size (p43 3).A' (p43 3).N' (p43 3).C' dl :: _) W43:=⟨And.left (hF.fx 3),And.right (hF.fx 3),hF.gx⟩
 clear hF hK
 have hK:=hJ
 clear hJ
 refine wq hS hG hK (fun p44=>[.v 87 (pT (p5 0).N 9),.l 88 (.agg #[.bool g3,.slice (p30 4).A (p30 4).N (p30 4).C,.slice (p30 4).A' (p30 4).N' (p30 4).C']) 1 9,.l 89 (.agg #[.bool s,.slice a1 n1 c1,.slice a2 n2 c2]) 0 0,.c (some 90) (cH W43.heap.size zr dr fun x9 y9=>.tuple #[.agg #[.bool false,x9,y9],.int .i64 0]),.v 86 (.tuple #[.agg #[.bool false,.slice (p44 3).A (p44 3).N (p44 3).C,.slice (p44 3).A' (p44 3).N' (p44 3).C'],.int .i64 0]),.v 91 (.agg #[.bool false,.slice (p44 3).A (p44 3).N (p44 3).C,.slice (p44 3).A' (p44 3).N' (p44 3).C']),.v 92 (.int .i64 0),.n 15 #[.bool false,.slice none 0 0,.slice none 0 0] 28,.p 1007 0 [.bool false,.slice (p44 3).A (p44 3).N (p44 3).C,.slice (p44 3).A' (p44 3).N' (p44 3).C'],.v 16 (.int .i64 0)]) (fun p44=>[(1,pT (p1 0).N 0),(2,.bool false),(3,.bool true),(5,pT (p5 0).N 0),(13,pT (p43 7).N 0),(14,.int .i64 0),(15,pT (p44 7).N 0),(16,.int .i64 0)]) (fun p44=>?_) (fun p44 W44 T hF hJ=>?_)
 ·refine okv ?_
  iterate 2 refine okl ?_
  refine okc (fun W cx=>as_h cx.hb (unhide HR _ _ _ (p30 4).C _ _ (p30 4).C' cx.fr (Mine.num cx.G.2.2.2.2.2.1) (Mine.num cx.G.2.2.2.2.2.2.1))) ?_
  iterate 3 refine okv ?_
  refine okn ?_
  refine okp ?_
  refine okv ?_
  exact ok_nil
 replace hS:=SymF.fc hS hF [0,1,2,1007] [⟨(p1 0).N,#[.bool s,.slice a1 n1 c1,.slice a2 n2 c2],28,true⟩,⟨(p5 0).N,#[.bool g0,.slice (p9 4).A (p9 4).N (p9 4).C,.slice (p9 4).A' (p9 4).N' (p9 4).C',.bool g1,.slice (p16 4).A (p16 4).N (p16 4).C,.slice (p16 4).A' (p16 4).N' (p16 4).C',.bool g2,.slice (p23 4).A (p23 4).N (p23 4).C,.slice (p23 4).A' (p23 4).N' (p23 4).C',.bool g3,.slice (p30 4).A (p30 4).N (p30 4).C,.slice (p30 4).A' (p30 4).N' (p30 4).C',.bool g4,.slice (p37 4).A (p37 4).N (p37 4).C,.slice (p37 4).A' (p37 4).N' (p37 4).C'],44,true⟩,⟨(p43 7).N,#[.bool false,.slice (p43 3).A (p43 3).N (p43 3).C,.slice (p43 3).A' (p43 3).N' (p43 3).C'],28,true⟩,⟨(p44 7).N,#[.bool false,.slice (p44 3).A (p44 3).N (p44 3).C,.slice (p44 3).A' (p44 3).N' (p44 3).C'],28,true⟩]
 replace hG:GsAt (gM W43.heap.size (p44 3).A (p44 3).N (p44 3).C zr :: gM W43.heap.size (p44 3).A' (p44 3).N' (p44 3).C' dr :: _) W44:=⟨And.left (hF.fx 3),And.right (hF.fx 3),hF.gx⟩
 clear hF hK
 have hK:=hJ
 clear hJ
 refine wq hS hG hK (fun p45=>[.v 94 (pT (p5 0).N 9),.l 95 (.agg #[.bool g3,.slice (p30 4).A (p30 4).N (p30 4).C,.slice (p30 4).A' (p30 4).N' (p30 4).C']) 1 9,.v 96 (pT (p5 0).N 12),.l 97 (.agg #[.bool g4,.slice (p37 4).A (p37 4).N (p37 4).C,.slice (p37 4).A' (p37 4).N' (p37 4).C']) 1 12,.c (some 98) (cH W44.heap.size zg dg fun x9 y9=>.tuple #[.agg #[.bool gg,x9,y9],.int .i64 0]),.v 93 (.tuple #[.agg #[.bool gg,.slice (p45 4).A (p45 4).N (p45 4).C,.slice (p45 4).A' (p45 4).N' (p45 4).C'],.int .i64 0]),.v 99 (.agg #[.bool gg,.slice (p45 4).A (p45 4).N (p45 4).C,.slice (p45 4).A' (p45 4).N' (p45 4).C']),.v 100 (.int .i64 0),.n 17 #[.bool false,.slice none 0 0,.slice none 0 0] 28,.p 1008 0 [.bool gg,.slice (p45 4).A (p45 4).N (p45 4).C,.slice (p45 4).A' (p45 4).N' (p45 4).C'],.v 18 (.int .i64 0)]) (fun p45=>[(1,pT (p1 0).N 0),(2,.bool false),(3,.bool true),(5,pT (p5 0).N 0),(13,pT (p43 7).N 0),(14,.int .i64 0),(15,pT (p44 7).N 0),(16,.int .i64 0),(17,pT (p45 8).N 0),(18,.int .i64 0)]) (fun p45=>?_) (fun p45 W45 T hF hJ=>?_)
 ·refine okv ?_
  refine okl ?_
  refine okv ?_
  refine okl ?_
  refine okc (fun W cx=>as_h cx.hb (unhide HG _ _ _ (p30 4).C _ _ (p30 4).C' _ _ (p37 4).C _ _ (p37 4).C' cx.fr (Mine.num cx.G.2.2.2.2.2.2.2.1) (Mine.num cx.G.2.2.2.2.2.2.2.2.1) (Mine.num cx.G.2.2.2.2.1) (Mine.num cx.G.2.2.2.2.2.1))) ?_
  iterate 3 refine okv ?_
  refine okn ?_
  refine okp ?_
  refine okv ?_
  exact ok_nil
 replace hS:=SymF.fc hS hF [0,1,2,3,1008] [⟨(p1 0).N,#[.bool s,.slice a1 n1 c1,.slice a2 n2 c2],28,true⟩,⟨(p5 0).N,#[.bool g0,.slice (p9 4).A (p9 4).N (p9 4).C,.slice (p9 4).A' (p9 4).N' (p9 4).C',.bool g1,.slice (p16 4).A (p16 4).N (p16 4).C,.slice (p16 4).A' (p16 4).N' (p16 4).C',.bool g2,.slice (p23 4).A (p23 4).N (p23 4).C,.slice (p23 4).A' (p23 4).N' (p23 4).C',.bool g3,.slice (p30 4).A (p30 4).N (p30 4).C,.slice (p30 4).A' (p30 4).N' (p30 4).C',.bool g4,.slice (p37 4).A (p37 4).N (p37 4).C,.slice (p37 4).A' (p37 4).N' (p37 4).C'],44,true⟩,⟨(p43 7).N,#[.bool false,.slice (p43 3).A (p43 3).N (p43 3).C,.slice (p43 3).A' (p43 3).N' (p43 3).C'],28,true⟩,⟨(p44 7).N,#[.bool false,.slice (p44 3).A (p44 3).N (p44 3).C,.slice (p44 3).A' (p44 3).N' (p44 3).C'],28,true⟩,⟨(p45 8).N,#[.bool gg,.slice (p45 4).A (p45 4).N (p45 4).C,.slice (p45 4).A' (p45 4).N' (p45 4).C'],28,true⟩]
 replace hG:GsAt (gM W44.heap.size (p45 4).A (p45 4).N (p45 4).C zg :: gM W44.heap.size (p45 4).A' (p45 4).N' (p45 4).C' dg :: _) W45:=⟨And.left (hF.fx 4),And.right (hF.fx 4),hF.gx⟩
 clear hF hK
 have hK:=hJ
 clear hJ
 refine wq hS hG hK (fun p46=>[.l 102 (.agg #[.bool false,.slice (p43 3).A (p43 3).N (p43 3).C,.slice (p43 3).A' (p43 3).N' (p43 3).C']) 2 0,.l 103 (.agg #[.bool false,.slice (p44 3).A (p44 3).N (p44 3).C,.slice (p44 3).A' (p44 3).N' (p44 3).C']) 3 0,.c (some 104) (cV (.tuple #[.int .i64 c,.int .i64 0])),.v 101 (.tuple #[.int .i64 c,.int .i64 0]),.v 105 (.int .i64 c),.v 106 (.int .i64 0),.v 19 (.int .i64 c),.v 20 (.int .i64 0)]) (fun p46=>[(1,pT (p1 0).N 0),(2,.bool false),(3,.bool true),(5,pT (p5 0).N 0),(13,pT (p43 7).N 0),(14,.int .i64 0),(15,pT (p44 7).N 0),(16,.int .i64 0),(17,pT (p45 8).N 0),(18,.int .i64 0),(19,.int .i64 c),(20,.int .i64 0)]) (fun p46=>?_) (fun p46 W46 T hF hJ=>?_)
 ·iterate 2 refine okl ?_
  refine okc (fun W cx=>as_v (unhide HC _ _ _ (p43 3).C _ _ (p43 3).C' _ _ (p44 3).C _ _ (p44 3).C' cx.fr (Mine.num cx.G.2.2.2.2.1) (Mine.num cx.G.2.2.2.2.2.1) (Mine.num cx.G.2.2.1) (Mine.num cx.G.2.2.2.1))) ?_
  iterate 5 refine okv ?_
  exact ok_nil
 replace hS:=SymF.fd hS hF
 replace hG:=hF.gx
 clear hF hK
 have hK:=hJ
 clear hJ
 refine wp_seq ?_
 refine wq hS hG hK (fun p47=>[.v 107 (.int .i64 0),.v 108 (.bool false),.v 109 (.bool false),.v 110 (.int .i64 0),.v 111 (.bool false),.v 112 (.bool false),.v 113 (.bool false),.v 114 (.int .i64 0),.v 115 (.bool false),.v 116 (.bool false),.v 117 (.bool false),.v 118 (.int .i64 0),.v 119 (.bool false),.v 120 (.bool false),.v 121 (.bool false),.v 122 (pT (p43 7).N 0),.l 123 (.bool false) 2 0,.v 124 (.bool false),.v 125 (.bool false),.v 126 (pT (p44 7).N 0),.l 127 (.bool false) 3 0,.v 128 (.bool false)]) (fun p47=>[(1,pT (p1 0).N 0),(2,.bool false),(3,.bool true),(5,pT (p5 0).N 0),(17,pT (p45 8).N 0),(19,.int .i64 c),(128,.bool false)]) (fun p47=>?_) (fun p47 W47 T hF hJ=>?_)
 ·iterate 16 refine okv ?_
  refine okl ?_
  iterate 3 refine okv ?_
  refine okl ?_
  refine okv ?_
  exact ok_nil
 replace hS:=SymF.fd hS hF
 replace hG:=hF.gx
 clear hF hK
 have hK:=hJ
 clear hJ
 refine wp_cond_false (hK.ew 128) (wp_skip (then_n ?_))
 refine wq hS hG hK (fun p48=>[.l 129 (.agg #[.bool gg,.slice (p45 4).A (p45 4).N (p45 4).C,.slice (p45 4).A' (p45 4).N' (p45 4).C']) 4 0,.c (some 130) (cH W47.heap.size 1 1 fun x9 y9=>.agg #[.bool false,x9,y9]),.c (some 131) (cV (.bool one)),.v 21 (.bool one)]) (fun p48=>[(1,pT (p1 0).N 0),(2,.bool false),(3,.bool true),(5,pT (p5 0).N 0),(17,pT (p45 8).N 0),(19,.int .i64 c),(21,.bool one)]) (fun p48=>?_) (fun p48 W48 T hF hJ=>?_)
 ·refine okl ?_
  refine okc (fun W cx=>as_h cx.hb (unhide HO1 _)) ?_
  refine okc (fun W cx=>as_v (unhide HS1 _ _ _ (p45 4).C _ _ (p45 4).C' _ _ (p48 1).C _ _ (p48 1).C' cx.fr (Mine.num cx.G.1) (Mine.num cx.G.2.1) (Mine.num (And.left (cx.F 1 (by kernel_rfl)))) (Mine.num (And.right (cx.F 1 (by kernel_rfl)))))) ?_
  refine okv ?_
  exact ok_nil
 replace hS:=SymF.fd hS hF
 replace hG:GsAt (gM W47.heap.size (p48 1).A (p48 1).N (p48 1).C 1 :: gM W47.heap.size (p48 1).A' (p48 1).N' (p48 1).C' 1 :: _) W48:=⟨And.left (hF.fx 1),And.right (hF.fx 1),hF.gx⟩
 clear hF hK
 have hK:=hJ
 clear hJ
 refine wq hS hG hK (fun p49=>[.l 132 (.agg #[.bool gg,.slice (p45 4).A (p45 4).N (p45 4).C,.slice (p45 4).A' (p45 4).N' (p45 4).C']) 4 0,.c (some 133) (cH W48.heap.size 0 1 fun x9 y9=>.agg #[.bool false,x9,y9]),.c (some 134) (cV (.bool (!one))),.v 22 (.bool (!one))]) (fun p49=>[(1,pT (p1 0).N 0),(2,.bool false),(3,.bool true),(5,pT (p5 0).N 0),(19,.int .i64 c),(21,.bool one),(22,.bool (!one))]) (fun p49=>?_) (fun p49 W49 T hF hJ=>?_)
 ·refine okl ?_
  refine okc (fun W cx=>as_h cx.hb (unhide HO0 _)) ?_
  refine okc (fun W cx=>as_v (unhide HS0 _ _ _ (p45 4).C _ _ (p45 4).C' _ _ (p49 1).C _ _ (p49 1).C' cx.fr (Mine.num cx.G.2.2.1) (Mine.num cx.G.2.2.2.1) (Mine.num (And.left (cx.F 1 (by kernel_rfl)))) (Mine.num (And.right (cx.F 1 (by kernel_rfl)))))) ?_
  refine okv ?_
  exact ok_nil
 replace hS:=SymF.fd hS hF
 replace hG:GsAt (gM W48.heap.size (p49 1).A (p49 1).N (p49 1).C 0 :: gM W48.heap.size (p49 1).A' (p49 1).N' (p49 1).C' 1 :: _) W49:=⟨And.left (hF.fx 1),And.right (hF.fx 1),hF.gx⟩
 clear hF hK
 have hK:=hJ
 clear hJ
 refine wp_seq (wp_seq ?_)
 refine wp_join0 hS hG hK [(1,pT (p1 0).N 0),(2,.bool false),(3,.bool true),(5,pT (p5 0).N 0),(19,.int .i64 c),(21,.bool one),(140,.bool false)] ?_ (fun T W51 hS9 hG9 hJ=>?_)
 ·cases one
  ·refine wg hS hG hK (fun p50=>[.v 135 (.bool false),.v 136 (.bool true),.v 137 (.bool true),.v 138 (.bool true),.v 139 (.bool false),.v 140 (.bool false)]) (fun p50=>[(1,pT (p1 0).N 0),(2,.bool false),(3,.bool true),(5,pT (p5 0).N 0),(19,.int .i64 c),(21,.bool false),(140,.bool false)]) (fun p50=>?_) (fun p50 W50 T hF hJ=>?_)
   ·iterate 6 refine okv ?_
    exact ok_nil
   replace hS:=SymF.fd hS hF
   replace hG:=hF.gx
   clear hF hK
   have hK:=hJ
   clear hJ
   have z50:=hS.fr.size
   exact join_end hS hG (kn_out (ds:=[]) hK rfl rfl _ (by kernel_rfl) (by kernel_rfl))
  ·refine wg hS hG hK (fun p50=>[.v 135 (.bool true),.v 136 (.bool false),.v 137 (.bool false),.k (some 138),.k (some 139),.v 140 (.bool false)]) (fun p50=>[(1,pT (p1 0).N 0),(2,.bool false),(3,.bool true),(5,pT (p5 0).N 0),(19,.int .i64 c),(21,.bool true),(140,.bool false)]) (fun p50=>?_) (fun p50 W50 T hF hJ=>?_)
   ·iterate 3 refine okv ?_
    iterate 2 refine okk ?_
    refine okv ?_
    exact ok_nil
   replace hS:=SymF.fd hS hF
   replace hG:=hF.gx
   clear hF hK
   have hK:=hJ
   clear hJ
   have z50:=hS.fr.size
   exact join_end hS hG (kn_out (ds:=[]) hK rfl rfl _ (by kernel_rfl) (by kernel_rfl))
 clear hS hG hK
 have hS:=hS9
 have hG:=hG9
 have hK:=hJ
 clear hS9 hG9 hJ
 refine then_n (wp_cond_false (hK.ew 140) ?_)
 refine wp_skip (then_n ?_)
 refine wq hS hG hK (fun p52=>[.v 141 (pT (p5 0).N 12),.l 142 (.agg #[.bool g4,.slice (p37 4).A (p37 4).N (p37 4).C,.slice (p37 4).A' (p37 4).N' (p37 4).C']) 1 12,.n 23 #[.bool false,.slice none 0 0,.slice none 0 0] 28,.p 1002 0 [.bool g4,.slice (p37 4).A (p37 4).N (p37 4).C,.slice (p37 4).A' (p37 4).N' (p37 4).C']]) (fun p52=>[(1,pT (p1 0).N 0),(2,.bool false),(3,.bool true),(5,pT (p5 0).N 0),(19,.int .i64 c),(21,.bool one),(23,pT (p52 2).N 0)]) (fun p52=>?_) (fun p52 W52 T hF hJ=>?_)
 ·refine okv ?_
  refine okl ?_
  refine okn ?_
  refine okp ?_
  exact ok_nil
 replace hS:=SymF.fc hS hF [0,1,1002] [⟨(p1 0).N,#[.bool s,.slice a1 n1 c1,.slice a2 n2 c2],28,true⟩,⟨(p5 0).N,#[.bool g0,.slice (p9 4).A (p9 4).N (p9 4).C,.slice (p9 4).A' (p9 4).N' (p9 4).C',.bool g1,.slice (p16 4).A (p16 4).N (p16 4).C,.slice (p16 4).A' (p16 4).N' (p16 4).C',.bool g2,.slice (p23 4).A (p23 4).N (p23 4).C,.slice (p23 4).A' (p23 4).N' (p23 4).C',.bool g3,.slice (p30 4).A (p30 4).N (p30 4).C,.slice (p30 4).A' (p30 4).N' (p30 4).C',.bool g4,.slice (p37 4).A (p37 4).N (p37 4).C,.slice (p37 4).A' (p37 4).N' (p37 4).C'],44,true⟩,⟨(p52 2).N,#[.bool g4,.slice (p37 4).A (p37 4).N (p37 4).C,.slice (p37 4).A' (p37 4).N' (p37 4).C'],28,true⟩]
 replace hG:=hF.gx
 clear hF hK
 have hK:=hJ
 clear hJ
 refine wp_seq ?_
 refine wq hS hG hK (fun p53=>[.v 143 (pT (p1 0).N 0),.l 144 (.bool s) 0 0]) (fun p53=>[(1,pT (p1 0).N 0),(2,.bool false),(3,.bool true),(5,pT (p5 0).N 0),(19,.int .i64 c),(21,.bool one),(23,pT (p52 2).N 0),(144,.bool s)]) (fun p53=>?_) (fun p53 W53 T hF hJ=>?_)
 ·refine okv ?_
  refine okl ?_
  exact ok_nil
 replace hS:=SymF.fd hS hF
 replace hG:=hF.gx
 clear hF hK
 have hK:=hJ
 clear hJ
 cases s
 ·refine wp_cond_false (hK.ew 144) (wp_skip (then_n ?_))
  refine wq hS hG hK (fun p54=>[.v 147 (pT (p5 0).N 12),.l 148 (.agg #[.bool g4,.slice (p37 4).A (p37 4).N (p37 4).C,.slice (p37 4).A' (p37 4).N' (p37 4).C']) 1 12,.v 149 (pT (p5 0).N 12),.l 150 (.agg #[.bool g4,.slice (p37 4).A (p37 4).N (p37 4).C,.slice (p37 4).A' (p37 4).N' (p37 4).C']) 1 12,.n 24 #[.bool false,.slice none 0 0,.slice none 0 0] 28,.n 25 #[.bool false,.slice none 0 0,.slice none 0 0] 28,.p 1004 0 [.bool g4,.slice (p37 4).A (p37 4).N (p37 4).C,.slice (p37 4).A' (p37 4).N' (p37 4).C'],.p 1005 0 [.bool g4,.slice (p37 4).A (p37 4).N (p37 4).C,.slice (p37 4).A' (p37 4).N' (p37 4).C']]) (fun p54=>[(1,pT (p1 0).N 0),(2,.bool false),(3,.bool true),(5,pT (p5 0).N 0),(19,.int .i64 c),(21,.bool one),(23,pT (p52 2).N 0),(24,pT (p54 4).N 0),(25,pT (p54 5).N 0)]) (fun p54=>?_) (fun p54 W54 T hF hJ=>?_)
  ·refine okv ?_
   refine okl ?_
   refine okv ?_
   refine okl ?_
   iterate 2 refine okn ?_
   iterate 2 refine okp ?_
   exact ok_nil
  replace hS:=SymF.fc hS hF [0,1,2,1004,1005] [⟨(p1 0).N,#[.bool false,.slice a1 n1 c1,.slice a2 n2 c2],28,true⟩,⟨(p5 0).N,#[.bool g0,.slice (p9 4).A (p9 4).N (p9 4).C,.slice (p9 4).A' (p9 4).N' (p9 4).C',.bool g1,.slice (p16 4).A (p16 4).N (p16 4).C,.slice (p16 4).A' (p16 4).N' (p16 4).C',.bool g2,.slice (p23 4).A (p23 4).N (p23 4).C,.slice (p23 4).A' (p23 4).N' (p23 4).C',.bool g3,.slice (p30 4).A (p30 4).N (p30 4).C,.slice (p30 4).A' (p30 4).N' (p30 4).C',.bool g4,.slice (p37 4).A (p37 4).N (p37 4).C,.slice (p37 4).A' (p37 4).N' (p37 4).C'],44,true⟩,⟨(p52 2).N,#[.bool g4,.slice (p37 4).A (p37 4).N (p37 4).C,.slice (p37 4).A' (p37 4).N' (p37 4).C'],28,true⟩,⟨(p54 4).N,#[.bool g4,.slice (p37 4).A (p37 4).N (p37 4).C,.slice (p37 4).A' (p37 4).N' (p37 4).C'],28,true⟩,⟨(p54 5).N,#[.bool g4,.slice (p37 4).A (p37 4).N (p37 4).C,.slice (p37 4).A' (p37 4).N' (p37 4).C'],28,true⟩]
  replace hG:=hF.gx
  clear hF hK
  have hK:=hJ
  clear hJ
  have z54:=hS.fr.size
  cases zd
  ·obtain ⟨b9,y9,hA9,hn9,hl9,ho9⟩:=first_limb hG.2.2.2.2.2.2.2.2.2.2.1 (hz0 rfl)
   have hm9:Int.tmod (y9:Int) 2 = ((m4 % 2:Nat):Int):=by rw [← ho9]; rfl
   replace hG:GsAt (gL b9 0 (y9:Int) :: _) W54:=⟨hl9,hG⟩
   refine wq hS hG hK (fun p55=>[.v 151 (pT (p54 4).N 1),.v 152 (pT (p54 4).N 1),.l 153 (.slice (p37 4).A (p37 4).N (p37 4).C) 3 1,.v 154 (.int .i64 ((p37 4).N:Int)),.v 155 (.bool true),.v 156 (.bool true),.v 157 (pT (p54 4).N 1),.v 158 (pT (p54 4).N 1),.l 159 (.slice (p37 4).A (p37 4).N (p37 4).C) 3 1,.v 160 (.pointer (some ⟨b9,0+0,none⟩)),.g 161 (.int .u32 (y9:Int)) [.int .u32 (y9:Int)] [.ld ⟨b9,0+0,none⟩ (.int .u32 (y9:Int))],.v 162 (.int .u32 ((m4 % 2:Nat):Int)),.v 163 (.bool odd),.v 164 (.bool odd),.v 26 (.bool odd)]) (fun p55=>[(1,pT (p1 0).N 0),(2,.bool false),(3,.bool true),(5,pT (p5 0).N 0),(19,.int .i64 c),(21,.bool one),(23,pT (p52 2).N 0),(24,pT (p54 4).N 0),(25,pT (p54 5).N 0),(26,.bool odd)]) (fun p55=>?_) (fun p55 W55 T hF hJ=>?_)
   ·iterate 2 refine okv ?_
    refine okl ?_
    refine okv ?_
    refine okvb (decide_eq_true (show ((p37 4).N:Int) > 0 by omega)) ?_
    iterate 3 refine okv ?_
    refine okl ?_
    refine ok_vr (script_ia hA9 (t:=24) (el:=49) (len:=(p37 4).N) (c:=(p37 4).C) (by kernel_rfl) (fun _=>by kernel_rfl) hn9) (by kernel_rfl) ?_
    refine ok_g (fun W cx=>⟨⟨cx.G.1,trivial⟩,rfl⟩) (by kernel_rfl) ?_
    refine okvi (hm9) ?_
    refine okvb ((show (((m4 % 2:Nat):Int) == 1) = odd from by rw [← hodd]; rcases Nat.mod_two_eq_zero_or_one m4 with e9|e9 <;> rw [e9] <;> rfl)) ?_
    iterate 2 refine okv ?_
    exact ok_nil
   replace hS:=SymF.fd hS hF
   replace hG:=hF.gx
   clear hF hK
   have hK:=hJ
   clear hJ
   have z55:=hS.fr.size
   refine wp_seq ?_
   cases cgt
   ·have hc9:=hcf rfl
    cases ceq
    ·have hq9:=hqf rfl
     refine wq hS hG hK (fun p56=>[.v 165 (.int .i64 c),.v 166 (.bool false),.v 167 (.bool false),.v 168 (.int .i64 c),.v 169 (.bool false),.v 170 (.bool false),.k (some 171),.v 172 (.bool false),.v 173 (.bool false),.k (some 174),.v 175 (.bool false),.v 176 (.bool false)]) (fun p56=>[(1,pT (p1 0).N 0),(2,.bool false),(3,.bool true),(5,pT (p5 0).N 0),(19,.int .i64 c),(23,pT (p52 2).N 0),(24,pT (p54 4).N 0),(25,pT (p54 5).N 0),(176,.bool false)]) (fun p56=>?_) (fun p56 W56 T hF hJ=>?_)
     ·refine okv ?_
      refine okvb (decide_eq_false (show ¬ c > 0 by omega)) ?_
      iterate 2 refine okv ?_
      refine okvb (beq_false_of_ne (show c≠0 by omega)) ?_
      refine okv ?_
      refine okk ?_
      iterate 2 refine okv ?_
      refine okk ?_
      iterate 2 refine okv ?_
      exact ok_nil
     replace hS:=SymF.fd hS hF
     replace hG:=hF.gx
     clear hF hK
     have hK:=hJ
     clear hJ
     have z56:=hS.fr.size
     refine wp_cond_false (hK.ew 176) (wp_skip ?_)
     refine then_n (wp_seq ?_)
     refine wq hS hG hK (fun p57=>[.v 179 (.int .i64 c),.v 180 (.bool false),.v 181 (.bool false),.v 182 (.int .i64 c),.v 183 (.bool false),.v 184 (.bool false),.k (some 185),.k (some 186),.k (some 187),.v 188 (.bool false),.v 189 (.bool false)]) (fun p57=>[(2,.bool false),(3,.bool true),(5,pT (p5 0).N 0),(23,pT (p52 2).N 0),(24,pT (p54 4).N 0),(25,pT (p54 5).N 0),(189,.bool false)]) (fun p57=>?_) (fun p57 W57 T hF hJ=>?_)
     ·refine okv ?_
      refine okvb (decide_eq_false (show ¬ c > 0 by omega)) ?_
      iterate 2 refine okv ?_
      refine okvb (beq_false_of_ne (show c≠0 by omega)) ?_
      refine okv ?_
      iterate 3 refine okk ?_
      iterate 2 refine okv ?_
      exact ok_nil
     replace hS:=SymF.fd hS hF
     replace hG:=hF.gx
     clear hF hK
     have hK:=hJ
     clear hJ
     have z57:=hS.fr.size
     refine wp_cond_false (hK.ew 189) (wp_skip (then_n ?_))
     refine wq hS hG hK (fun p58=>[.v 192 (.bool true),.v 193 (.bool true),.v 194 (pT (p5 0).N 6),.l 195 (.agg #[.bool g2,.slice (p23 4).A (p23 4).N (p23 4).C,.slice (p23 4).A' (p23 4).N' (p23 4).C']) 1 6,.l 196 (.agg #[.bool g4,.slice (p37 4).A (p37 4).N (p37 4).C,.slice (p37 4).A' (p37 4).N' (p37 4).C']) 2 0,.c (some 197) (cV (.bool true)),.v 198 (.bool true),.v 199 (.bool true),.v 200 (pT (p5 0).N 0),.l 201 (.agg #[.bool g0,.slice (p9 4).A (p9 4).N (p9 4).C,.slice (p9 4).A' (p9 4).N' (p9 4).C']) 1 0,.l 202 (.agg #[.bool g4,.slice (p37 4).A (p37 4).N (p37 4).C,.slice (p37 4).A' (p37 4).N' (p37 4).C']) 3 0,.c (some 203) (cV (.bool true)),.v 204 (.bool true),.v 205 (.bool true),.v 206 (pT (p5 0).N 3),.l 207 (.agg #[.bool g1,.slice (p16 4).A (p16 4).N (p16 4).C,.slice (p16 4).A' (p16 4).N' (p16 4).C']) 1 3,.l 208 (.agg #[.bool g4,.slice (p37 4).A (p37 4).N (p37 4).C,.slice (p37 4).A' (p37 4).N' (p37 4).C']) 4 0,.c (some 209) (cV (.bool true)),.v 210 (.bool true),.v 2 (.bool true)]) (fun p58=>[(2,.bool true),(3,.bool true),(5,pT (p5 0).N 0),(23,pT (p52 2).N 0),(24,pT (p54 4).N 0),(25,pT (p54 5).N 0)]) (fun p58=>?_) (fun p58 W58 T hF hJ=>?_)
     ·iterate 3 refine okv ?_
      iterate 2 refine okl ?_
      refine okc (fun W cx=>as_v (unhide HNf rfl _ _ _ (p23 4).C _ _ (p23 4).C' _ _ (p37 4).C _ _ (p37 4).C' cx.fr (Mine.num cx.G.2.2.2.2.2.2.2.2.2.2.2.2.2.2.2.2.2.1) (Mine.num cx.G.2.2.2.2.2.2.2.2.2.2.2.2.2.2.2.2.2.2.1) (Mine.num cx.G.2.2.2.2.2.2.2.2.2.2.2.1) (Mine.num cx.G.2.2.2.2.2.2.2.2.2.2.2.2.1))) ?_
      iterate 3 refine okv ?_
      iterate 2 refine okl ?_
      refine okc (fun W cx=>as_v (unhide HEf rfl _ _ _ (p9 4).C _ _ (p9 4).C' _ _ (p37 4).C _ _ (p37 4).C' cx.fr (Mine.num cx.G.2.2.2.2.2.2.2.2.2.2.2.2.2.2.2.2.2.2.2.2.2.2.2.1) (Mine.num cx.G.2.2.2.2.2.2.2.2.2.2.2.2.2.2.2.2.2.2.2.2.2.2.2.2.1) (Mine.num cx.G.2.2.2.2.2.2.2.2.2.2.2.1) (Mine.num cx.G.2.2.2.2.2.2.2.2.2.2.2.2.1))) ?_
      iterate 3 refine okv ?_
      iterate 2 refine okl ?_
      refine okc (fun W cx=>as_v (unhide HAf rfl _ _ _ (p16 4).C _ _ (p16 4).C' _ _ (p37 4).C _ _ (p37 4).C' cx.fr (Mine.num cx.G.2.2.2.2.2.2.2.2.2.2.2.2.2.2.2.2.2.2.2.2.1) (Mine.num cx.G.2.2.2.2.2.2.2.2.2.2.2.2.2.2.2.2.2.2.2.2.2.1) (Mine.num cx.G.2.2.2.2.2.2.2.2.2.2.2.1) (Mine.num cx.G.2.2.2.2.2.2.2.2.2.2.2.2.1))) ?_
      iterate 2 refine okv ?_
      exact ok_nil
     replace hS:=SymF.fd hS hF
     replace hG:=hF.gx
     clear hF hK
     have hK:=hJ
     clear hJ
     have z58:=hS.fr.size
     refine wp_ret ?_
     exact sym_end hS hK (.bool true) [] [] (by kernel_rfl) (by kernel_rfl) ⟨rfl,hS.fr⟩
    ·have hq9:=hqt rfl
     cases odd
     ·refine wq hS hG hK (fun p56=>[.v 165 (.int .i64 c),.v 166 (.bool false),.v 167 (.bool false),.v 168 (.int .i64 c),.v 169 (.bool true),.v 170 (.bool true),.v 171 (.bool false),.v 172 (.bool false),.v 173 (.bool false),.k (some 174),.v 175 (.bool false),.v 176 (.bool false)]) (fun p56=>[(1,pT (p1 0).N 0),(2,.bool false),(3,.bool true),(5,pT (p5 0).N 0),(19,.int .i64 c),(23,pT (p52 2).N 0),(24,pT (p54 4).N 0),(25,pT (p54 5).N 0),(176,.bool false)]) (fun p56=>?_) (fun p56 W56 T hF hJ=>?_)
      ·refine okv ?_
       refine okvb (decide_eq_false (show ¬ c > 0 by omega)) ?_
       iterate 2 refine okv ?_
       refine okvb (beq_iff_eq.2 (show c = 0 by omega)) ?_
       iterate 4 refine okv ?_
       refine okk ?_
       iterate 2 refine okv ?_
       exact ok_nil
      replace hS:=SymF.fd hS hF
      replace hG:=hF.gx
      clear hF hK
      have hK:=hJ
      clear hJ
      have z56:=hS.fr.size
      refine wp_cond_false (hK.ew 176) (wp_skip ?_)
      refine then_n (wp_seq ?_)
      refine wq hS hG hK (fun p57=>[.v 179 (.int .i64 c),.v 180 (.bool false),.v 181 (.bool false),.v 182 (.int .i64 c),.v 183 (.bool true),.v 184 (.bool true),.v 185 (pT (p1 0).N 0),.l 186 (.bool false) 0 0,.v 187 (.bool true),.v 188 (.bool true),.v 189 (.bool true)]) (fun p57=>[(2,.bool false),(3,.bool true),(5,pT (p5 0).N 0),(23,pT (p52 2).N 0),(24,pT (p54 4).N 0),(25,pT (p54 5).N 0),(189,.bool true)]) (fun p57=>?_) (fun p57 W57 T hF hJ=>?_)
      ·refine okv ?_
       refine okvb (decide_eq_false (show ¬ c > 0 by omega)) ?_
       iterate 2 refine okv ?_
       refine okvb (beq_iff_eq.2 (show c = 0 by omega)) ?_
       iterate 2 refine okv ?_
       refine okl ?_
       iterate 3 refine okv ?_
       exact ok_nil
      replace hS:=SymF.fd hS hF
      replace hG:=hF.gx
      clear hF hK
      have hK:=hJ
      clear hJ
      have z57:=hS.fr.size
      refine wp_cond_true (hK.ew 189) ?_
      refine wg hS hG hK (fun p58=>[.v 190 (pT (p5 0).N 9),.l 191 (.agg #[.bool g3,.slice (p30 4).A (p30 4).N (p30 4).C,.slice (p30 4).A' (p30 4).N' (p30 4).C']) 1 9,.p 4 0 [.bool g3,.slice (p30 4).A (p30 4).N (p30 4).C,.slice (p30 4).A' (p30 4).N' (p30 4).C']]) (fun p58=>[(2,.bool false),(3,.bool true),(5,pT (p5 0).N 0),(23,pT (p52 2).N 0),(24,pT (p54 4).N 0),(25,pT (p54 5).N 0)]) (fun p58=>?_) (fun p58 W58 T hF hJ=>?_)
      ·refine okv ?_
       refine okl ?_
       refine okp ?_
       exact ok_nil
      replace hS:=SymF.fc hS hF [1,2,3,4] [⟨(p5 0).N,#[.bool g0,.slice (p9 4).A (p9 4).N (p9 4).C,.slice (p9 4).A' (p9 4).N' (p9 4).C',.bool g1,.slice (p16 4).A (p16 4).N (p16 4).C,.slice (p16 4).A' (p16 4).N' (p16 4).C',.bool g2,.slice (p23 4).A (p23 4).N (p23 4).C,.slice (p23 4).A' (p23 4).N' (p23 4).C',.bool g3,.slice (p30 4).A (p30 4).N (p30 4).C,.slice (p30 4).A' (p30 4).N' (p30 4).C',.bool g4,.slice (p37 4).A (p37 4).N (p37 4).C,.slice (p37 4).A' (p37 4).N' (p37 4).C'],44,true⟩,⟨(p52 2).N,#[.bool g4,.slice (p37 4).A (p37 4).N (p37 4).C,.slice (p37 4).A' (p37 4).N' (p37 4).C'],28,true⟩,⟨(p54 4).N,#[.bool g4,.slice (p37 4).A (p37 4).N (p37 4).C,.slice (p37 4).A' (p37 4).N' (p37 4).C'],28,true⟩,⟨(p54 5).N,#[.bool g3,.slice (p30 4).A (p30 4).N (p30 4).C,.slice (p30 4).A' (p30 4).N' (p30 4).C'],28,true⟩]
      replace hG:=hF.gx
      clear hF hK
      have hK:=hJ
      clear hJ
      have z58:=hS.fr.size
      refine then_n ?_
      refine wq hS hG hK (fun p59=>[.v 192 (.bool true),.v 193 (.bool true),.v 194 (pT (p5 0).N 6),.l 195 (.agg #[.bool g2,.slice (p23 4).A (p23 4).N (p23 4).C,.slice (p23 4).A' (p23 4).N' (p23 4).C']) 0 6,.l 196 (.agg #[.bool g4,.slice (p37 4).A (p37 4).N (p37 4).C,.slice (p37 4).A' (p37 4).N' (p37 4).C']) 1 0,.c (some 197) (cV (.bool true)),.v 198 (.bool true),.v 199 (.bool true),.v 200 (pT (p5 0).N 0),.l 201 (.agg #[.bool g0,.slice (p9 4).A (p9 4).N (p9 4).C,.slice (p9 4).A' (p9 4).N' (p9 4).C']) 0 0,.l 202 (.agg #[.bool g4,.slice (p37 4).A (p37 4).N (p37 4).C,.slice (p37 4).A' (p37 4).N' (p37 4).C']) 2 0,.c (some 203) (cV (.bool true)),.v 204 (.bool true),.v 205 (.bool true),.v 206 (pT (p5 0).N 3),.l 207 (.agg #[.bool g1,.slice (p16 4).A (p16 4).N (p16 4).C,.slice (p16 4).A' (p16 4).N' (p16 4).C']) 0 3,.l 208 (.agg #[.bool g3,.slice (p30 4).A (p30 4).N (p30 4).C,.slice (p30 4).A' (p30 4).N' (p30 4).C']) 3 0,.c (some 209) (cV (.bool true)),.v 210 (.bool true),.v 2 (.bool true)]) (fun p59=>[(2,.bool true),(3,.bool true),(5,pT (p5 0).N 0),(23,pT (p52 2).N 0),(24,pT (p54 4).N 0)]) (fun p59=>?_) (fun p59 W59 T hF hJ=>?_)
      ·iterate 3 refine okv ?_
       iterate 2 refine okl ?_
       refine okc (fun W cx=>as_v (unhide HNf rfl _ _ _ (p23 4).C _ _ (p23 4).C' _ _ (p37 4).C _ _ (p37 4).C' cx.fr (Mine.num cx.G.2.2.2.2.2.2.2.2.2.2.2.2.2.2.2.2.2.1) (Mine.num cx.G.2.2.2.2.2.2.2.2.2.2.2.2.2.2.2.2.2.2.1) (Mine.num cx.G.2.2.2.2.2.2.2.2.2.2.2.1) (Mine.num cx.G.2.2.2.2.2.2.2.2.2.2.2.2.1))) ?_
       iterate 3 refine okv ?_
       iterate 2 refine okl ?_
       refine okc (fun W cx=>as_v (unhide HEf rfl _ _ _ (p9 4).C _ _ (p9 4).C' _ _ (p37 4).C _ _ (p37 4).C' cx.fr (Mine.num cx.G.2.2.2.2.2.2.2.2.2.2.2.2.2.2.2.2.2.2.2.2.2.2.2.1) (Mine.num cx.G.2.2.2.2.2.2.2.2.2.2.2.2.2.2.2.2.2.2.2.2.2.2.2.2.1) (Mine.num cx.G.2.2.2.2.2.2.2.2.2.2.2.1) (Mine.num cx.G.2.2.2.2.2.2.2.2.2.2.2.2.1))) ?_
       iterate 3 refine okv ?_
       iterate 2 refine okl ?_
       refine okc (fun W cx=>as_v (unhide HAt rfl _ _ _ (p16 4).C _ _ (p16 4).C' _ _ (p30 4).C _ _ (p30 4).C' cx.fr (Mine.num cx.G.2.2.2.2.2.2.2.2.2.2.2.2.2.2.2.2.2.2.2.2.1) (Mine.num cx.G.2.2.2.2.2.2.2.2.2.2.2.2.2.2.2.2.2.2.2.2.2.1) (Mine.num cx.G.2.2.2.2.2.2.2.2.2.2.2.2.2.2.1) (Mine.num cx.G.2.2.2.2.2.2.2.2.2.2.2.2.2.2.2.1))) ?_
       iterate 2 refine okv ?_
       exact ok_nil
      replace hS:=SymF.fd hS hF
      replace hG:=hF.gx
      clear hF hK
      have hK:=hJ
      clear hJ
      have z59:=hS.fr.size
      refine wp_ret ?_
      exact sym_end hS hK (.bool true) [] [] (by kernel_rfl) (by kernel_rfl) ⟨rfl,hS.fr⟩
     ·refine wq hS hG hK (fun p56=>[.v 165 (.int .i64 c),.v 166 (.bool false),.v 167 (.bool false),.v 168 (.int .i64 c),.v 169 (.bool true),.v 170 (.bool true),.v 171 (.bool true),.v 172 (.bool true),.v 173 (.bool true),.v 174 (.bool one),.v 175 (.bool one),.v 176 (.bool one)]) (fun p56=>[(1,pT (p1 0).N 0),(2,.bool false),(3,.bool true),(5,pT (p5 0).N 0),(19,.int .i64 c),(23,pT (p52 2).N 0),(24,pT (p54 4).N 0),(25,pT (p54 5).N 0),(176,.bool one)]) (fun p56=>?_) (fun p56 W56 T hF hJ=>?_)
      ·refine okv ?_
       refine okvb (decide_eq_false (show ¬ c > 0 by omega)) ?_
       iterate 2 refine okv ?_
       refine okvb (beq_iff_eq.2 (show c = 0 by omega)) ?_
       iterate 7 refine okv ?_
       exact ok_nil
      replace hS:=SymF.fd hS hF
      replace hG:=hF.gx
      clear hF hK
      have hK:=hJ
      clear hJ
      have z56:=hS.fr.size
      cases one
      ·refine wp_cond_false (hK.ew 176) (wp_skip ?_)
       refine then_n (wp_seq ?_)
       refine wq hS hG hK (fun p57=>[.v 179 (.int .i64 c),.v 180 (.bool false),.v 181 (.bool false),.v 182 (.int .i64 c),.v 183 (.bool true),.v 184 (.bool true),.v 185 (pT (p1 0).N 0),.l 186 (.bool false) 0 0,.v 187 (.bool true),.v 188 (.bool true),.v 189 (.bool true)]) (fun p57=>[(2,.bool false),(3,.bool true),(5,pT (p5 0).N 0),(23,pT (p52 2).N 0),(24,pT (p54 4).N 0),(25,pT (p54 5).N 0),(189,.bool true)]) (fun p57=>?_) (fun p57 W57 T hF hJ=>?_)
       ·refine okv ?_
        refine okvb (decide_eq_false (show ¬ c > 0 by omega)) ?_
        iterate 2 refine okv ?_
        refine okvb (beq_iff_eq.2 (show c = 0 by omega)) ?_
        iterate 2 refine okv ?_
        refine okl ?_
        iterate 3 refine okv ?_
        exact ok_nil
       replace hS:=SymF.fd hS hF
       replace hG:=hF.gx
       clear hF hK
       have hK:=hJ
       clear hJ
       have z57:=hS.fr.size
       refine wp_cond_true (hK.ew 189) ?_
       refine wg hS hG hK (fun p58=>[.v 190 (pT (p5 0).N 9),.l 191 (.agg #[.bool g3,.slice (p30 4).A (p30 4).N (p30 4).C,.slice (p30 4).A' (p30 4).N' (p30 4).C']) 1 9,.p 4 0 [.bool g3,.slice (p30 4).A (p30 4).N (p30 4).C,.slice (p30 4).A' (p30 4).N' (p30 4).C']]) (fun p58=>[(2,.bool false),(3,.bool true),(5,pT (p5 0).N 0),(23,pT (p52 2).N 0),(24,pT (p54 4).N 0),(25,pT (p54 5).N 0)]) (fun p58=>?_) (fun p58 W58 T hF hJ=>?_)
       ·refine okv ?_
        refine okl ?_
        refine okp ?_
        exact ok_nil
       replace hS:=SymF.fc hS hF [1,2,3,4] [⟨(p5 0).N,#[.bool g0,.slice (p9 4).A (p9 4).N (p9 4).C,.slice (p9 4).A' (p9 4).N' (p9 4).C',.bool g1,.slice (p16 4).A (p16 4).N (p16 4).C,.slice (p16 4).A' (p16 4).N' (p16 4).C',.bool g2,.slice (p23 4).A (p23 4).N (p23 4).C,.slice (p23 4).A' (p23 4).N' (p23 4).C',.bool g3,.slice (p30 4).A (p30 4).N (p30 4).C,.slice (p30 4).A' (p30 4).N' (p30 4).C',.bool g4,.slice (p37 4).A (p37 4).N (p37 4).C,.slice (p37 4).A' (p37 4).N' (p37 4).C'],44,true⟩,⟨(p52 2).N,#[.bool g4,.slice (p37 4).A (p37 4).N (p37 4).C,.slice (p37 4).A' (p37 4).N' (p37 4).C'],28,true⟩,⟨(p54 4).N,#[.bool g4,.slice (p37 4).A (p37 4).N (p37 4).C,.slice (p37 4).A' (p37 4).N' (p37 4).C'],28,true⟩,⟨(p54 5).N,#[.bool g3,.slice (p30 4).A (p30 4).N (p30 4).C,.slice (p30 4).A' (p30 4).N' (p30 4).C'],28,true⟩]
       replace hG:=hF.gx
       clear hF hK
       have hK:=hJ
       clear hJ
       have z58:=hS.fr.size
       refine then_n ?_
       refine wq hS hG hK (fun p59=>[.v 192 (.bool true),.v 193 (.bool true),.v 194 (pT (p5 0).N 6),.l 195 (.agg #[.bool g2,.slice (p23 4).A (p23 4).N (p23 4).C,.slice (p23 4).A' (p23 4).N' (p23 4).C']) 0 6,.l 196 (.agg #[.bool g4,.slice (p37 4).A (p37 4).N (p37 4).C,.slice (p37 4).A' (p37 4).N' (p37 4).C']) 1 0,.c (some 197) (cV (.bool true)),.v 198 (.bool true),.v 199 (.bool true),.v 200 (pT (p5 0).N 0),.l 201 (.agg #[.bool g0,.slice (p9 4).A (p9 4).N (p9 4).C,.slice (p9 4).A' (p9 4).N' (p9 4).C']) 0 0,.l 202 (.agg #[.bool g4,.slice (p37 4).A (p37 4).N (p37 4).C,.slice (p37 4).A' (p37 4).N' (p37 4).C']) 2 0,.c (some 203) (cV (.bool true)),.v 204 (.bool true),.v 205 (.bool true),.v 206 (pT (p5 0).N 3),.l 207 (.agg #[.bool g1,.slice (p16 4).A (p16 4).N (p16 4).C,.slice (p16 4).A' (p16 4).N' (p16 4).C']) 0 3,.l 208 (.agg #[.bool g3,.slice (p30 4).A (p30 4).N (p30 4).C,.slice (p30 4).A' (p30 4).N' (p30 4).C']) 3 0,.c (some 209) (cV (.bool true)),.v 210 (.bool true),.v 2 (.bool true)]) (fun p59=>[(2,.bool true),(3,.bool true),(5,pT (p5 0).N 0),(23,pT (p52 2).N 0),(24,pT (p54 4).N 0)]) (fun p59=>?_) (fun p59 W59 T hF hJ=>?_)
       ·iterate 3 refine okv ?_
        iterate 2 refine okl ?_
        refine okc (fun W cx=>as_v (unhide HNf rfl _ _ _ (p23 4).C _ _ (p23 4).C' _ _ (p37 4).C _ _ (p37 4).C' cx.fr (Mine.num cx.G.2.2.2.2.2.2.2.2.2.2.2.2.2.2.2.2.2.1) (Mine.num cx.G.2.2.2.2.2.2.2.2.2.2.2.2.2.2.2.2.2.2.1) (Mine.num cx.G.2.2.2.2.2.2.2.2.2.2.2.1) (Mine.num cx.G.2.2.2.2.2.2.2.2.2.2.2.2.1))) ?_
        iterate 3 refine okv ?_
        iterate 2 refine okl ?_
        refine okc (fun W cx=>as_v (unhide HEf rfl _ _ _ (p9 4).C _ _ (p9 4).C' _ _ (p37 4).C _ _ (p37 4).C' cx.fr (Mine.num cx.G.2.2.2.2.2.2.2.2.2.2.2.2.2.2.2.2.2.2.2.2.2.2.2.1) (Mine.num cx.G.2.2.2.2.2.2.2.2.2.2.2.2.2.2.2.2.2.2.2.2.2.2.2.2.1) (Mine.num cx.G.2.2.2.2.2.2.2.2.2.2.2.1) (Mine.num cx.G.2.2.2.2.2.2.2.2.2.2.2.2.1))) ?_
        iterate 3 refine okv ?_
        iterate 2 refine okl ?_
        refine okc (fun W cx=>as_v (unhide HAt rfl _ _ _ (p16 4).C _ _ (p16 4).C' _ _ (p30 4).C _ _ (p30 4).C' cx.fr (Mine.num cx.G.2.2.2.2.2.2.2.2.2.2.2.2.2.2.2.2.2.2.2.2.1) (Mine.num cx.G.2.2.2.2.2.2.2.2.2.2.2.2.2.2.2.2.2.2.2.2.2.1) (Mine.num cx.G.2.2.2.2.2.2.2.2.2.2.2.2.2.2.1) (Mine.num cx.G.2.2.2.2.2.2.2.2.2.2.2.2.2.2.2.1))) ?_
        iterate 2 refine okv ?_
        exact ok_nil
       replace hS:=SymF.fd hS hF
       replace hG:=hF.gx
       clear hF hK
       have hK:=hJ
       clear hJ
       have z59:=hS.fr.size
       refine wp_ret ?_
       exact sym_end hS hK (.bool true) [] [] (by kernel_rfl) (by kernel_rfl) ⟨rfl,hS.fr⟩
      ·refine wp_cond_true (hK.ew 176) ?_
       refine wg hS hG hK (fun p57=>[.v 177 (pT (p5 0).N 9),.l 178 (.agg #[.bool g3,.slice (p30 4).A (p30 4).N (p30 4).C,.slice (p30 4).A' (p30 4).N' (p30 4).C']) 1 9,.p 3 0 [.bool g3,.slice (p30 4).A (p30 4).N (p30 4).C,.slice (p30 4).A' (p30 4).N' (p30 4).C']]) (fun p57=>[(1,pT (p1 0).N 0),(2,.bool false),(3,.bool true),(5,pT (p5 0).N 0),(19,.int .i64 c),(23,pT (p52 2).N 0),(24,pT (p54 4).N 0),(25,pT (p54 5).N 0)]) (fun p57=>?_) (fun p57 W57 T hF hJ=>?_)
       ·refine okv ?_
        refine okl ?_
        refine okp ?_
        exact ok_nil
       replace hS:=SymF.fc hS hF [0,1,2,3,4] [⟨(p1 0).N,#[.bool false,.slice a1 n1 c1,.slice a2 n2 c2],28,true⟩,⟨(p5 0).N,#[.bool g0,.slice (p9 4).A (p9 4).N (p9 4).C,.slice (p9 4).A' (p9 4).N' (p9 4).C',.bool g1,.slice (p16 4).A (p16 4).N (p16 4).C,.slice (p16 4).A' (p16 4).N' (p16 4).C',.bool g2,.slice (p23 4).A (p23 4).N (p23 4).C,.slice (p23 4).A' (p23 4).N' (p23 4).C',.bool g3,.slice (p30 4).A (p30 4).N (p30 4).C,.slice (p30 4).A' (p30 4).N' (p30 4).C',.bool g4,.slice (p37 4).A (p37 4).N (p37 4).C,.slice (p37 4).A' (p37 4).N' (p37 4).C'],44,true⟩,⟨(p52 2).N,#[.bool g4,.slice (p37 4).A (p37 4).N (p37 4).C,.slice (p37 4).A' (p37 4).N' (p37 4).C'],28,true⟩,⟨(p54 4).N,#[.bool g3,.slice (p30 4).A (p30 4).N (p30 4).C,.slice (p30 4).A' (p30 4).N' (p30 4).C'],28,true⟩,⟨(p54 5).N,#[.bool g4,.slice (p37 4).A (p37 4).N (p37 4).C,.slice (p37 4).A' (p37 4).N' (p37 4).C'],28,true⟩]
       replace hG:=hF.gx
       clear hF hK
       have hK:=hJ
       clear hJ
       have z57:=hS.fr.size
       refine then_n (wp_seq ?_)
       refine wq hS hG hK (fun p58=>[.v 179 (.int .i64 c),.v 180 (.bool false),.v 181 (.bool false),.v 182 (.int .i64 c),.v 183 (.bool true),.v 184 (.bool true),.v 185 (pT (p1 0).N 0),.l 186 (.bool false) 0 0,.v 187 (.bool true),.v 188 (.bool true),.v 189 (.bool true)]) (fun p58=>[(2,.bool false),(3,.bool true),(5,pT (p5 0).N 0),(23,pT (p52 2).N 0),(24,pT (p54 4).N 0),(25,pT (p54 5).N 0),(189,.bool true)]) (fun p58=>?_) (fun p58 W58 T hF hJ=>?_)
       ·refine okv ?_
        refine okvb (decide_eq_false (show ¬ c > 0 by omega)) ?_
        iterate 2 refine okv ?_
        refine okvb (beq_iff_eq.2 (show c = 0 by omega)) ?_
        iterate 2 refine okv ?_
        refine okl ?_
        iterate 3 refine okv ?_
        exact ok_nil
       replace hS:=SymF.fd hS hF
       replace hG:=hF.gx
       clear hF hK
       have hK:=hJ
       clear hJ
       have z58:=hS.fr.size
       refine wp_cond_true (hK.ew 189) ?_
       refine wg hS hG hK (fun p59=>[.v 190 (pT (p5 0).N 9),.l 191 (.agg #[.bool g3,.slice (p30 4).A (p30 4).N (p30 4).C,.slice (p30 4).A' (p30 4).N' (p30 4).C']) 1 9,.p 4 0 [.bool g3,.slice (p30 4).A (p30 4).N (p30 4).C,.slice (p30 4).A' (p30 4).N' (p30 4).C']]) (fun p59=>[(2,.bool false),(3,.bool true),(5,pT (p5 0).N 0),(23,pT (p52 2).N 0),(24,pT (p54 4).N 0),(25,pT (p54 5).N 0)]) (fun p59=>?_) (fun p59 W59 T hF hJ=>?_)
       ·refine okv ?_
        refine okl ?_
        refine okp ?_
        exact ok_nil
       replace hS:=SymF.fc hS hF [1,2,3,4] [⟨(p5 0).N,#[.bool g0,.slice (p9 4).A (p9 4).N (p9 4).C,.slice (p9 4).A' (p9 4).N' (p9 4).C',.bool g1,.slice (p16 4).A (p16 4).N (p16 4).C,.slice (p16 4).A' (p16 4).N' (p16 4).C',.bool g2,.slice (p23 4).A (p23 4).N (p23 4).C,.slice (p23 4).A' (p23 4).N' (p23 4).C',.bool g3,.slice (p30 4).A (p30 4).N (p30 4).C,.slice (p30 4).A' (p30 4).N' (p30 4).C',.bool g4,.slice (p37 4).A (p37 4).N (p37 4).C,.slice (p37 4).A' (p37 4).N' (p37 4).C'],44,true⟩,⟨(p52 2).N,#[.bool g4,.slice (p37 4).A (p37 4).N (p37 4).C,.slice (p37 4).A' (p37 4).N' (p37 4).C'],28,true⟩,⟨(p54 4).N,#[.bool g3,.slice (p30 4).A (p30 4).N (p30 4).C,.slice (p30 4).A' (p30 4).N' (p30 4).C'],28,true⟩,⟨(p54 5).N,#[.bool g3,.slice (p30 4).A (p30 4).N (p30 4).C,.slice (p30 4).A' (p30 4).N' (p30 4).C'],28,true⟩]
       replace hG:=hF.gx
       clear hF hK
       have hK:=hJ
       clear hJ
       have z59:=hS.fr.size
       refine then_n ?_
       refine wq hS hG hK (fun p60=>[.v 192 (.bool true),.v 193 (.bool true),.v 194 (pT (p5 0).N 6),.l 195 (.agg #[.bool g2,.slice (p23 4).A (p23 4).N (p23 4).C,.slice (p23 4).A' (p23 4).N' (p23 4).C']) 0 6,.l 196 (.agg #[.bool g4,.slice (p37 4).A (p37 4).N (p37 4).C,.slice (p37 4).A' (p37 4).N' (p37 4).C']) 1 0,.c (some 197) (cV (.bool true)),.v 198 (.bool true),.v 199 (.bool true),.v 200 (pT (p5 0).N 0),.l 201 (.agg #[.bool g0,.slice (p9 4).A (p9 4).N (p9 4).C,.slice (p9 4).A' (p9 4).N' (p9 4).C']) 0 0,.l 202 (.agg #[.bool g3,.slice (p30 4).A (p30 4).N (p30 4).C,.slice (p30 4).A' (p30 4).N' (p30 4).C']) 2 0,.c (some 203) (cV (.bool true)),.v 204 (.bool true),.v 205 (.bool true),.v 206 (pT (p5 0).N 3),.l 207 (.agg #[.bool g1,.slice (p16 4).A (p16 4).N (p16 4).C,.slice (p16 4).A' (p16 4).N' (p16 4).C']) 0 3,.l 208 (.agg #[.bool g3,.slice (p30 4).A (p30 4).N (p30 4).C,.slice (p30 4).A' (p30 4).N' (p30 4).C']) 3 0,.c (some 209) (cV (.bool true)),.v 210 (.bool true),.v 2 (.bool true)]) (fun p60=>[(2,.bool true),(3,.bool true),(5,pT (p5 0).N 0),(23,pT (p52 2).N 0)]) (fun p60=>?_) (fun p60 W60 T hF hJ=>?_)
       ·iterate 3 refine okv ?_
        iterate 2 refine okl ?_
        refine okc (fun W cx=>as_v (unhide HNf rfl _ _ _ (p23 4).C _ _ (p23 4).C' _ _ (p37 4).C _ _ (p37 4).C' cx.fr (Mine.num cx.G.2.2.2.2.2.2.2.2.2.2.2.2.2.2.2.2.2.1) (Mine.num cx.G.2.2.2.2.2.2.2.2.2.2.2.2.2.2.2.2.2.2.1) (Mine.num cx.G.2.2.2.2.2.2.2.2.2.2.2.1) (Mine.num cx.G.2.2.2.2.2.2.2.2.2.2.2.2.1))) ?_
        iterate 3 refine okv ?_
        iterate 2 refine okl ?_
        refine okc (fun W cx=>as_v (unhide HEt rfl _ _ _ (p9 4).C _ _ (p9 4).C' _ _ (p30 4).C _ _ (p30 4).C' cx.fr (Mine.num cx.G.2.2.2.2.2.2.2.2.2.2.2.2.2.2.2.2.2.2.2.2.2.2.2.1) (Mine.num cx.G.2.2.2.2.2.2.2.2.2.2.2.2.2.2.2.2.2.2.2.2.2.2.2.2.1) (Mine.num cx.G.2.2.2.2.2.2.2.2.2.2.2.2.2.2.1) (Mine.num cx.G.2.2.2.2.2.2.2.2.2.2.2.2.2.2.2.1))) ?_
        iterate 3 refine okv ?_
        iterate 2 refine okl ?_
        refine okc (fun W cx=>as_v (unhide HAt rfl _ _ _ (p16 4).C _ _ (p16 4).C' _ _ (p30 4).C _ _ (p30 4).C' cx.fr (Mine.num cx.G.2.2.2.2.2.2.2.2.2.2.2.2.2.2.2.2.2.2.2.2.1) (Mine.num cx.G.2.2.2.2.2.2.2.2.2.2.2.2.2.2.2.2.2.2.2.2.2.1) (Mine.num cx.G.2.2.2.2.2.2.2.2.2.2.2.2.2.2.1) (Mine.num cx.G.2.2.2.2.2.2.2.2.2.2.2.2.2.2.2.1))) ?_
        iterate 2 refine okv ?_
        exact ok_nil
       replace hS:=SymF.fd hS hF
       replace hG:=hF.gx
       clear hF hK
       have hK:=hJ
       clear hJ
       have z60:=hS.fr.size
       refine wp_ret ?_
       exact sym_end hS hK (.bool true) [] [] (by kernel_rfl) (by kernel_rfl) ⟨rfl,hS.fr⟩
   ·have hc9:=hct rfl
    refine wq hS hG hK (fun p56=>[.v 165 (.int .i64 c),.v 166 (.bool true),.v 167 (.bool true),.k (some 168),.k (some 169),.k (some 170),.k (some 171),.k (some 172),.k (some 173),.k (some 174),.k (some 175),.v 176 (.bool true)]) (fun p56=>[(1,pT (p1 0).N 0),(2,.bool false),(3,.bool true),(5,pT (p5 0).N 0),(19,.int .i64 c),(23,pT (p52 2).N 0),(24,pT (p54 4).N 0),(25,pT (p54 5).N 0),(176,.bool true)]) (fun p56=>?_) (fun p56 W56 T hF hJ=>?_)
    ·refine okv ?_
     refine okvb (decide_eq_true (show c > 0 by omega)) ?_
     refine okv ?_
     iterate 8 refine okk ?_
     refine okv ?_
     exact ok_nil
    replace hS:=SymF.fd hS hF
    replace hG:=hF.gx
    clear hF hK
    have hK:=hJ
    clear hJ
    have z56:=hS.fr.size
    refine wp_cond_true (hK.ew 176) ?_
    refine wg hS hG hK (fun p57=>[.v 177 (pT (p5 0).N 9),.l 178 (.agg #[.bool g3,.slice (p30 4).A (p30 4).N (p30 4).C,.slice (p30 4).A' (p30 4).N' (p30 4).C']) 1 9,.p 3 0 [.bool g3,.slice (p30 4).A (p30 4).N (p30 4).C,.slice (p30 4).A' (p30 4).N' (p30 4).C']]) (fun p57=>[(1,pT (p1 0).N 0),(2,.bool false),(3,.bool true),(5,pT (p5 0).N 0),(19,.int .i64 c),(23,pT (p52 2).N 0),(24,pT (p54 4).N 0),(25,pT (p54 5).N 0)]) (fun p57=>?_) (fun p57 W57 T hF hJ=>?_)
    ·refine okv ?_
     refine okl ?_
     refine okp ?_
     exact ok_nil
    replace hS:=SymF.fc hS hF [0,1,2,3,4] [⟨(p1 0).N,#[.bool false,.slice a1 n1 c1,.slice a2 n2 c2],28,true⟩,⟨(p5 0).N,#[.bool g0,.slice (p9 4).A (p9 4).N (p9 4).C,.slice (p9 4).A' (p9 4).N' (p9 4).C',.bool g1,.slice (p16 4).A (p16 4).N (p16 4).C,.slice (p16 4).A' (p16 4).N' (p16 4).C',.bool g2,.slice (p23 4).A (p23 4).N (p23 4).C,.slice (p23 4).A' (p23 4).N' (p23 4).C',.bool g3,.slice (p30 4).A (p30 4).N (p30 4).C,.slice (p30 4).A' (p30 4).N' (p30 4).C',.bool g4,.slice (p37 4).A (p37 4).N (p37 4).C,.slice (p37 4).A' (p37 4).N' (p37 4).C'],44,true⟩,⟨(p52 2).N,#[.bool g4,.slice (p37 4).A (p37 4).N (p37 4).C,.slice (p37 4).A' (p37 4).N' (p37 4).C'],28,true⟩,⟨(p54 4).N,#[.bool g3,.slice (p30 4).A (p30 4).N (p30 4).C,.slice (p30 4).A' (p30 4).N' (p30 4).C'],28,true⟩,⟨(p54 5).N,#[.bool g4,.slice (p37 4).A (p37 4).N (p37 4).C,.slice (p37 4).A' (p37 4).N' (p37 4).C'],28,true⟩]
    replace hG:=hF.gx
    clear hF hK
    have hK:=hJ
    clear hJ
    have z57:=hS.fr.size
    refine then_n (wp_seq ?_)
    refine wq hS hG hK (fun p58=>[.v 179 (.int .i64 c),.v 180 (.bool true),.v 181 (.bool true),.k (some 182),.k (some 183),.k (some 184),.k (some 185),.k (some 186),.k (some 187),.k (some 188),.v 189 (.bool true)]) (fun p58=>[(2,.bool false),(3,.bool true),(5,pT (p5 0).N 0),(23,pT (p52 2).N 0),(24,pT (p54 4).N 0),(25,pT (p54 5).N 0),(189,.bool true)]) (fun p58=>?_) (fun p58 W58 T hF hJ=>?_)
    ·refine okv ?_
     refine okvb (decide_eq_true (show c > 0 by omega)) ?_
     refine okv ?_
     iterate 7 refine okk ?_
     refine okv ?_
     exact ok_nil
    replace hS:=SymF.fd hS hF
    replace hG:=hF.gx
    clear hF hK
    have hK:=hJ
    clear hJ
    have z58:=hS.fr.size
    refine wp_cond_true (hK.ew 189) ?_
    refine wg hS hG hK (fun p59=>[.v 190 (pT (p5 0).N 9),.l 191 (.agg #[.bool g3,.slice (p30 4).A (p30 4).N (p30 4).C,.slice (p30 4).A' (p30 4).N' (p30 4).C']) 1 9,.p 4 0 [.bool g3,.slice (p30 4).A (p30 4).N (p30 4).C,.slice (p30 4).A' (p30 4).N' (p30 4).C']]) (fun p59=>[(2,.bool false),(3,.bool true),(5,pT (p5 0).N 0),(23,pT (p52 2).N 0),(24,pT (p54 4).N 0),(25,pT (p54 5).N 0)]) (fun p59=>?_) (fun p59 W59 T hF hJ=>?_)
    ·refine okv ?_
     refine okl ?_
     refine okp ?_
     exact ok_nil
    replace hS:=SymF.fc hS hF [1,2,3,4] [⟨(p5 0).N,#[.bool g0,.slice (p9 4).A (p9 4).N (p9 4).C,.slice (p9 4).A' (p9 4).N' (p9 4).C',.bool g1,.slice (p16 4).A (p16 4).N (p16 4).C,.slice (p16 4).A' (p16 4).N' (p16 4).C',.bool g2,.slice (p23 4).A (p23 4).N (p23 4).C,.slice (p23 4).A' (p23 4).N' (p23 4).C',.bool g3,.slice (p30 4).A (p30 4).N (p30 4).C,.slice (p30 4).A' (p30 4).N' (p30 4).C',.bool g4,.slice (p37 4).A (p37 4).N (p37 4).C,.slice (p37 4).A' (p37 4).N' (p37 4).C'],44,true⟩,⟨(p52 2).N,#[.bool g4,.slice (p37 4).A (p37 4).N (p37 4).C,.slice (p37 4).A' (p37 4).N' (p37 4).C'],28,true⟩,⟨(p54 4).N,#[.bool g3,.slice (p30 4).A (p30 4).N (p30 4).C,.slice (p30 4).A' (p30 4).N' (p30 4).C'],28,true⟩,⟨(p54 5).N,#[.bool g3,.slice (p30 4).A (p30 4).N (p30 4).C,.slice (p30 4).A' (p30 4).N' (p30 4).C'],28,true⟩]
    replace hG:=hF.gx
    clear hF hK
    have hK:=hJ
    clear hJ
    have z59:=hS.fr.size
    refine then_n ?_
    refine wq hS hG hK (fun p60=>[.v 192 (.bool true),.v 193 (.bool true),.v 194 (pT (p5 0).N 6),.l 195 (.agg #[.bool g2,.slice (p23 4).A (p23 4).N (p23 4).C,.slice (p23 4).A' (p23 4).N' (p23 4).C']) 0 6,.l 196 (.agg #[.bool g4,.slice (p37 4).A (p37 4).N (p37 4).C,.slice (p37 4).A' (p37 4).N' (p37 4).C']) 1 0,.c (some 197) (cV (.bool true)),.v 198 (.bool true),.v 199 (.bool true),.v 200 (pT (p5 0).N 0),.l 201 (.agg #[.bool g0,.slice (p9 4).A (p9 4).N (p9 4).C,.slice (p9 4).A' (p9 4).N' (p9 4).C']) 0 0,.l 202 (.agg #[.bool g3,.slice (p30 4).A (p30 4).N (p30 4).C,.slice (p30 4).A' (p30 4).N' (p30 4).C']) 2 0,.c (some 203) (cV (.bool true)),.v 204 (.bool true),.v 205 (.bool true),.v 206 (pT (p5 0).N 3),.l 207 (.agg #[.bool g1,.slice (p16 4).A (p16 4).N (p16 4).C,.slice (p16 4).A' (p16 4).N' (p16 4).C']) 0 3,.l 208 (.agg #[.bool g3,.slice (p30 4).A (p30 4).N (p30 4).C,.slice (p30 4).A' (p30 4).N' (p30 4).C']) 3 0,.c (some 209) (cV (.bool true)),.v 210 (.bool true),.v 2 (.bool true)]) (fun p60=>[(2,.bool true),(3,.bool true),(5,pT (p5 0).N 0),(23,pT (p52 2).N 0)]) (fun p60=>?_) (fun p60 W60 T hF hJ=>?_)
    ·iterate 3 refine okv ?_
     iterate 2 refine okl ?_
     refine okc (fun W cx=>as_v (unhide HNf rfl _ _ _ (p23 4).C _ _ (p23 4).C' _ _ (p37 4).C _ _ (p37 4).C' cx.fr (Mine.num cx.G.2.2.2.2.2.2.2.2.2.2.2.2.2.2.2.2.2.1) (Mine.num cx.G.2.2.2.2.2.2.2.2.2.2.2.2.2.2.2.2.2.2.1) (Mine.num cx.G.2.2.2.2.2.2.2.2.2.2.2.1) (Mine.num cx.G.2.2.2.2.2.2.2.2.2.2.2.2.1))) ?_
     iterate 3 refine okv ?_
     iterate 2 refine okl ?_
     refine okc (fun W cx=>as_v (unhide HEt rfl _ _ _ (p9 4).C _ _ (p9 4).C' _ _ (p30 4).C _ _ (p30 4).C' cx.fr (Mine.num cx.G.2.2.2.2.2.2.2.2.2.2.2.2.2.2.2.2.2.2.2.2.2.2.2.1) (Mine.num cx.G.2.2.2.2.2.2.2.2.2.2.2.2.2.2.2.2.2.2.2.2.2.2.2.2.1) (Mine.num cx.G.2.2.2.2.2.2.2.2.2.2.2.2.2.2.1) (Mine.num cx.G.2.2.2.2.2.2.2.2.2.2.2.2.2.2.2.1))) ?_
     iterate 3 refine okv ?_
     iterate 2 refine okl ?_
     refine okc (fun W cx=>as_v (unhide HAt rfl _ _ _ (p16 4).C _ _ (p16 4).C' _ _ (p30 4).C _ _ (p30 4).C' cx.fr (Mine.num cx.G.2.2.2.2.2.2.2.2.2.2.2.2.2.2.2.2.2.2.2.2.1) (Mine.num cx.G.2.2.2.2.2.2.2.2.2.2.2.2.2.2.2.2.2.2.2.2.2.1) (Mine.num cx.G.2.2.2.2.2.2.2.2.2.2.2.2.2.2.1) (Mine.num cx.G.2.2.2.2.2.2.2.2.2.2.2.2.2.2.2.1))) ?_
     iterate 2 refine okv ?_
     exact ok_nil
    replace hS:=SymF.fd hS hF
    replace hG:=hF.gx
    clear hF hK
    have hK:=hJ
    clear hJ
    have z60:=hS.fr.size
    refine wp_ret ?_
    exact sym_end hS hK (.bool true) [] [] (by kernel_rfl) (by kernel_rfl) ⟨rfl,hS.fr⟩
  ·obtain rfl:odd = false:=by rw [← hodd,hz1 rfl]; rfl
   refine wq hS hG hK (fun p55=>[.v 151 (pT (p54 4).N 1),.v 152 (pT (p54 4).N 1),.l 153 (.slice (p37 4).A (p37 4).N (p37 4).C) 3 1,.v 154 (.int .i64 ((p37 4).N:Int)),.v 155 (.bool false),.v 156 (.bool false),.k (some 157),.k (some 158),.k (some 159),.k (some 160),.k (some 161),.k (some 162),.k (some 163),.v 164 (.bool false),.v 26 (.bool false)]) (fun p55=>[(1,pT (p1 0).N 0),(2,.bool false),(3,.bool true),(5,pT (p5 0).N 0),(19,.int .i64 c),(21,.bool one),(23,pT (p52 2).N 0),(24,pT (p54 4).N 0),(25,pT (p54 5).N 0),(26,.bool false)]) (fun p55=>?_) (fun p55 W55 T hF hJ=>?_)
   ·iterate 2 refine okv ?_
    refine okl ?_
    refine okv ?_
    refine okvb (decide_eq_false (show ¬ ((p37 4).N:Int) > 0 from len_no (Mine.num hG.2.2.2.2.2.2.2.2.2.2.1) (hz1 rfl))) ?_
    refine okv ?_
    iterate 7 refine okk ?_
    iterate 2 refine okv ?_
    exact ok_nil
   replace hS:=SymF.fd hS hF
   replace hG:=hF.gx
   clear hF hK
   have hK:=hJ
   clear hJ
   have z55:=hS.fr.size
   refine wp_seq ?_
   cases cgt
   ·have hc9:=hcf rfl
    cases ceq
    ·have hq9:=hqf rfl
     refine wq hS hG hK (fun p56=>[.v 165 (.int .i64 c),.v 166 (.bool false),.v 167 (.bool false),.v 168 (.int .i64 c),.v 169 (.bool false),.v 170 (.bool false),.k (some 171),.v 172 (.bool false),.v 173 (.bool false),.k (some 174),.v 175 (.bool false),.v 176 (.bool false)]) (fun p56=>[(1,pT (p1 0).N 0),(2,.bool false),(3,.bool true),(5,pT (p5 0).N 0),(19,.int .i64 c),(23,pT (p52 2).N 0),(24,pT (p54 4).N 0),(25,pT (p54 5).N 0),(176,.bool false)]) (fun p56=>?_) (fun p56 W56 T hF hJ=>?_)
     ·refine okv ?_
      refine okvb (decide_eq_false (show ¬ c > 0 by omega)) ?_
      iterate 2 refine okv ?_
      refine okvb (beq_false_of_ne (show c≠0 by omega)) ?_
      refine okv ?_
      refine okk ?_
      iterate 2 refine okv ?_
      refine okk ?_
      iterate 2 refine okv ?_
      exact ok_nil
     replace hS:=SymF.fd hS hF
     replace hG:=hF.gx
     clear hF hK
     have hK:=hJ
     clear hJ
     have z56:=hS.fr.size
     refine wp_cond_false (hK.ew 176) (wp_skip ?_)
     refine then_n (wp_seq ?_)
     refine wq hS hG hK (fun p57=>[.v 179 (.int .i64 c),.v 180 (.bool false),.v 181 (.bool false),.v 182 (.int .i64 c),.v 183 (.bool false),.v 184 (.bool false),.k (some 185),.k (some 186),.k (some 187),.v 188 (.bool false),.v 189 (.bool false)]) (fun p57=>[(2,.bool false),(3,.bool true),(5,pT (p5 0).N 0),(23,pT (p52 2).N 0),(24,pT (p54 4).N 0),(25,pT (p54 5).N 0),(189,.bool false)]) (fun p57=>?_) (fun p57 W57 T hF hJ=>?_)
     ·refine okv ?_
      refine okvb (decide_eq_false (show ¬ c > 0 by omega)) ?_
      iterate 2 refine okv ?_
      refine okvb (beq_false_of_ne (show c≠0 by omega)) ?_
      refine okv ?_
      iterate 3 refine okk ?_
      iterate 2 refine okv ?_
      exact ok_nil
     replace hS:=SymF.fd hS hF
     replace hG:=hF.gx
     clear hF hK
     have hK:=hJ
     clear hJ
     have z57:=hS.fr.size
     refine wp_cond_false (hK.ew 189) (wp_skip (then_n ?_))
     refine wq hS hG hK (fun p58=>[.v 192 (.bool true),.v 193 (.bool true),.v 194 (pT (p5 0).N 6),.l 195 (.agg #[.bool g2,.slice (p23 4).A (p23 4).N (p23 4).C,.slice (p23 4).A' (p23 4).N' (p23 4).C']) 1 6,.l 196 (.agg #[.bool g4,.slice (p37 4).A (p37 4).N (p37 4).C,.slice (p37 4).A' (p37 4).N' (p37 4).C']) 2 0,.c (some 197) (cV (.bool true)),.v 198 (.bool true),.v 199 (.bool true),.v 200 (pT (p5 0).N 0),.l 201 (.agg #[.bool g0,.slice (p9 4).A (p9 4).N (p9 4).C,.slice (p9 4).A' (p9 4).N' (p9 4).C']) 1 0,.l 202 (.agg #[.bool g4,.slice (p37 4).A (p37 4).N (p37 4).C,.slice (p37 4).A' (p37 4).N' (p37 4).C']) 3 0,.c (some 203) (cV (.bool true)),.v 204 (.bool true),.v 205 (.bool true),.v 206 (pT (p5 0).N 3),.l 207 (.agg #[.bool g1,.slice (p16 4).A (p16 4).N (p16 4).C,.slice (p16 4).A' (p16 4).N' (p16 4).C']) 1 3,.l 208 (.agg #[.bool g4,.slice (p37 4).A (p37 4).N (p37 4).C,.slice (p37 4).A' (p37 4).N' (p37 4).C']) 4 0,.c (some 209) (cV (.bool true)),.v 210 (.bool true),.v 2 (.bool true)]) (fun p58=>[(2,.bool true),(3,.bool true),(5,pT (p5 0).N 0),(23,pT (p52 2).N 0),(24,pT (p54 4).N 0),(25,pT (p54 5).N 0)]) (fun p58=>?_) (fun p58 W58 T hF hJ=>?_)
     ·iterate 3 refine okv ?_
      iterate 2 refine okl ?_
      refine okc (fun W cx=>as_v (unhide HNf rfl _ _ _ (p23 4).C _ _ (p23 4).C' _ _ (p37 4).C _ _ (p37 4).C' cx.fr (Mine.num cx.G.2.2.2.2.2.2.2.2.2.2.2.2.2.2.2.2.1) (Mine.num cx.G.2.2.2.2.2.2.2.2.2.2.2.2.2.2.2.2.2.1) (Mine.num cx.G.2.2.2.2.2.2.2.2.2.2.1) (Mine.num cx.G.2.2.2.2.2.2.2.2.2.2.2.1))) ?_
      iterate 3 refine okv ?_
      iterate 2 refine okl ?_
      refine okc (fun W cx=>as_v (unhide HEf rfl _ _ _ (p9 4).C _ _ (p9 4).C' _ _ (p37 4).C _ _ (p37 4).C' cx.fr (Mine.num cx.G.2.2.2.2.2.2.2.2.2.2.2.2.2.2.2.2.2.2.2.2.2.2.1) (Mine.num cx.G.2.2.2.2.2.2.2.2.2.2.2.2.2.2.2.2.2.2.2.2.2.2.2.1) (Mine.num cx.G.2.2.2.2.2.2.2.2.2.2.1) (Mine.num cx.G.2.2.2.2.2.2.2.2.2.2.2.1))) ?_
      iterate 3 refine okv ?_
      iterate 2 refine okl ?_
      refine okc (fun W cx=>as_v (unhide HAf rfl _ _ _ (p16 4).C _ _ (p16 4).C' _ _ (p37 4).C _ _ (p37 4).C' cx.fr (Mine.num cx.G.2.2.2.2.2.2.2.2.2.2.2.2.2.2.2.2.2.2.2.1) (Mine.num cx.G.2.2.2.2.2.2.2.2.2.2.2.2.2.2.2.2.2.2.2.2.1) (Mine.num cx.G.2.2.2.2.2.2.2.2.2.2.1) (Mine.num cx.G.2.2.2.2.2.2.2.2.2.2.2.1))) ?_
      iterate 2 refine okv ?_
      exact ok_nil
     replace hS:=SymF.fd hS hF
     replace hG:=hF.gx
     clear hF hK
     have hK:=hJ
     clear hJ
     have z58:=hS.fr.size
     refine wp_ret ?_
     exact sym_end hS hK (.bool true) [] [] (by kernel_rfl) (by kernel_rfl) ⟨rfl,hS.fr⟩
    ·have hq9:=hqt rfl
     refine wq hS hG hK (fun p56=>[.v 165 (.int .i64 c),.v 166 (.bool false),.v 167 (.bool false),.v 168 (.int .i64 c),.v 169 (.bool true),.v 170 (.bool true),.v 171 (.bool false),.v 172 (.bool false),.v 173 (.bool false),.k (some 174),.v 175 (.bool false),.v 176 (.bool false)]) (fun p56=>[(1,pT (p1 0).N 0),(2,.bool false),(3,.bool true),(5,pT (p5 0).N 0),(19,.int .i64 c),(23,pT (p52 2).N 0),(24,pT (p54 4).N 0),(25,pT (p54 5).N 0),(176,.bool false)]) (fun p56=>?_) (fun p56 W56 T hF hJ=>?_)
     ·refine okv ?_
      refine okvb (decide_eq_false (show ¬ c > 0 by omega)) ?_
      iterate 2 refine okv ?_
      refine okvb (beq_iff_eq.2 (show c = 0 by omega)) ?_
      iterate 4 refine okv ?_
      refine okk ?_
      iterate 2 refine okv ?_
      exact ok_nil
     replace hS:=SymF.fd hS hF
     replace hG:=hF.gx
     clear hF hK
     have hK:=hJ
     clear hJ
     have z56:=hS.fr.size
     refine wp_cond_false (hK.ew 176) (wp_skip ?_)
     refine then_n (wp_seq ?_)
     refine wq hS hG hK (fun p57=>[.v 179 (.int .i64 c),.v 180 (.bool false),.v 181 (.bool false),.v 182 (.int .i64 c),.v 183 (.bool true),.v 184 (.bool true),.v 185 (pT (p1 0).N 0),.l 186 (.bool false) 0 0,.v 187 (.bool true),.v 188 (.bool true),.v 189 (.bool true)]) (fun p57=>[(2,.bool false),(3,.bool true),(5,pT (p5 0).N 0),(23,pT (p52 2).N 0),(24,pT (p54 4).N 0),(25,pT (p54 5).N 0),(189,.bool true)]) (fun p57=>?_) (fun p57 W57 T hF hJ=>?_)
     ·refine okv ?_
      refine okvb (decide_eq_false (show ¬ c > 0 by omega)) ?_
      iterate 2 refine okv ?_
      refine okvb (beq_iff_eq.2 (show c = 0 by omega)) ?_
      iterate 2 refine okv ?_
      refine okl ?_
      iterate 3 refine okv ?_
      exact ok_nil
     replace hS:=SymF.fd hS hF
     replace hG:=hF.gx
     clear hF hK
     have hK:=hJ
     clear hJ
     have z57:=hS.fr.size
     refine wp_cond_true (hK.ew 189) ?_
     refine wg hS hG hK (fun p58=>[.v 190 (pT (p5 0).N 9),.l 191 (.agg #[.bool g3,.slice (p30 4).A (p30 4).N (p30 4).C,.slice (p30 4).A' (p30 4).N' (p30 4).C']) 1 9,.p 4 0 [.bool g3,.slice (p30 4).A (p30 4).N (p30 4).C,.slice (p30 4).A' (p30 4).N' (p30 4).C']]) (fun p58=>[(2,.bool false),(3,.bool true),(5,pT (p5 0).N 0),(23,pT (p52 2).N 0),(24,pT (p54 4).N 0),(25,pT (p54 5).N 0)]) (fun p58=>?_) (fun p58 W58 T hF hJ=>?_)
     ·refine okv ?_
      refine okl ?_
      refine okp ?_
      exact ok_nil
     replace hS:=SymF.fc hS hF [1,2,3,4] [⟨(p5 0).N,#[.bool g0,.slice (p9 4).A (p9 4).N (p9 4).C,.slice (p9 4).A' (p9 4).N' (p9 4).C',.bool g1,.slice (p16 4).A (p16 4).N (p16 4).C,.slice (p16 4).A' (p16 4).N' (p16 4).C',.bool g2,.slice (p23 4).A (p23 4).N (p23 4).C,.slice (p23 4).A' (p23 4).N' (p23 4).C',.bool g3,.slice (p30 4).A (p30 4).N (p30 4).C,.slice (p30 4).A' (p30 4).N' (p30 4).C',.bool g4,.slice (p37 4).A (p37 4).N (p37 4).C,.slice (p37 4).A' (p37 4).N' (p37 4).C'],44,true⟩,⟨(p52 2).N,#[.bool g4,.slice (p37 4).A (p37 4).N (p37 4).C,.slice (p37 4).A' (p37 4).N' (p37 4).C'],28,true⟩,⟨(p54 4).N,#[.bool g4,.slice (p37 4).A (p37 4).N (p37 4).C,.slice (p37 4).A' (p37 4).N' (p37 4).C'],28,true⟩,⟨(p54 5).N,#[.bool g3,.slice (p30 4).A (p30 4).N (p30 4).C,.slice (p30 4).A' (p30 4).N' (p30 4).C'],28,true⟩]
     replace hG:=hF.gx
     clear hF hK
     have hK:=hJ
     clear hJ
     have z58:=hS.fr.size
     refine then_n ?_
     refine wq hS hG hK (fun p59=>[.v 192 (.bool true),.v 193 (.bool true),.v 194 (pT (p5 0).N 6),.l 195 (.agg #[.bool g2,.slice (p23 4).A (p23 4).N (p23 4).C,.slice (p23 4).A' (p23 4).N' (p23 4).C']) 0 6,.l 196 (.agg #[.bool g4,.slice (p37 4).A (p37 4).N (p37 4).C,.slice (p37 4).A' (p37 4).N' (p37 4).C']) 1 0,.c (some 197) (cV (.bool true)),.v 198 (.bool true),.v 199 (.bool true),.v 200 (pT (p5 0).N 0),.l 201 (.agg #[.bool g0,.slice (p9 4).A (p9 4).N (p9 4).C,.slice (p9 4).A' (p9 4).N' (p9 4).C']) 0 0,.l 202 (.agg #[.bool g4,.slice (p37 4).A (p37 4).N (p37 4).C,.slice (p37 4).A' (p37 4).N' (p37 4).C']) 2 0,.c (some 203) (cV (.bool true)),.v 204 (.bool true),.v 205 (.bool true),.v 206 (pT (p5 0).N 3),.l 207 (.agg #[.bool g1,.slice (p16 4).A (p16 4).N (p16 4).C,.slice (p16 4).A' (p16 4).N' (p16 4).C']) 0 3,.l 208 (.agg #[.bool g3,.slice (p30 4).A (p30 4).N (p30 4).C,.slice (p30 4).A' (p30 4).N' (p30 4).C']) 3 0,.c (some 209) (cV (.bool true)),.v 210 (.bool true),.v 2 (.bool true)]) (fun p59=>[(2,.bool true),(3,.bool true),(5,pT (p5 0).N 0),(23,pT (p52 2).N 0),(24,pT (p54 4).N 0)]) (fun p59=>?_) (fun p59 W59 T hF hJ=>?_)
     ·iterate 3 refine okv ?_
      iterate 2 refine okl ?_
      refine okc (fun W cx=>as_v (unhide HNf rfl _ _ _ (p23 4).C _ _ (p23 4).C' _ _ (p37 4).C _ _ (p37 4).C' cx.fr (Mine.num cx.G.2.2.2.2.2.2.2.2.2.2.2.2.2.2.2.2.1) (Mine.num cx.G.2.2.2.2.2.2.2.2.2.2.2.2.2.2.2.2.2.1) (Mine.num cx.G.2.2.2.2.2.2.2.2.2.2.1) (Mine.num cx.G.2.2.2.2.2.2.2.2.2.2.2.1))) ?_
      iterate 3 refine okv ?_
      iterate 2 refine okl ?_
      refine okc (fun W cx=>as_v (unhide HEf rfl _ _ _ (p9 4).C _ _ (p9 4).C' _ _ (p37 4).C _ _ (p37 4).C' cx.fr (Mine.num cx.G.2.2.2.2.2.2.2.2.2.2.2.2.2.2.2.2.2.2.2.2.2.2.1) (Mine.num cx.G.2.2.2.2.2.2.2.2.2.2.2.2.2.2.2.2.2.2.2.2.2.2.2.1) (Mine.num cx.G.2.2.2.2.2.2.2.2.2.2.1) (Mine.num cx.G.2.2.2.2.2.2.2.2.2.2.2.1))) ?_
      iterate 3 refine okv ?_
      iterate 2 refine okl ?_
      refine okc (fun W cx=>as_v (unhide HAt rfl _ _ _ (p16 4).C _ _ (p16 4).C' _ _ (p30 4).C _ _ (p30 4).C' cx.fr (Mine.num cx.G.2.2.2.2.2.2.2.2.2.2.2.2.2.2.2.2.2.2.2.1) (Mine.num cx.G.2.2.2.2.2.2.2.2.2.2.2.2.2.2.2.2.2.2.2.2.1) (Mine.num cx.G.2.2.2.2.2.2.2.2.2.2.2.2.2.1) (Mine.num cx.G.2.2.2.2.2.2.2.2.2.2.2.2.2.2.1))) ?_
      iterate 2 refine okv ?_
      exact ok_nil
     replace hS:=SymF.fd hS hF
     replace hG:=hF.gx
     clear hF hK
     have hK:=hJ
     clear hJ
     have z59:=hS.fr.size
     refine wp_ret ?_
     exact sym_end hS hK (.bool true) [] [] (by kernel_rfl) (by kernel_rfl) ⟨rfl,hS.fr⟩
   ·have hc9:=hct rfl
    refine wq hS hG hK (fun p56=>[.v 165 (.int .i64 c),.v 166 (.bool true),.v 167 (.bool true),.k (some 168),.k (some 169),.k (some 170),.k (some 171),.k (some 172),.k (some 173),.k (some 174),.k (some 175),.v 176 (.bool true)]) (fun p56=>[(1,pT (p1 0).N 0),(2,.bool false),(3,.bool true),(5,pT (p5 0).N 0),(19,.int .i64 c),(23,pT (p52 2).N 0),(24,pT (p54 4).N 0),(25,pT (p54 5).N 0),(176,.bool true)]) (fun p56=>?_) (fun p56 W56 T hF hJ=>?_)
    ·refine okv ?_
     refine okvb (decide_eq_true (show c > 0 by omega)) ?_
     refine okv ?_
     iterate 8 refine okk ?_
     refine okv ?_
     exact ok_nil
    replace hS:=SymF.fd hS hF
    replace hG:=hF.gx
    clear hF hK
    have hK:=hJ
    clear hJ
    have z56:=hS.fr.size
    refine wp_cond_true (hK.ew 176) ?_
    refine wg hS hG hK (fun p57=>[.v 177 (pT (p5 0).N 9),.l 178 (.agg #[.bool g3,.slice (p30 4).A (p30 4).N (p30 4).C,.slice (p30 4).A' (p30 4).N' (p30 4).C']) 1 9,.p 3 0 [.bool g3,.slice (p30 4).A (p30 4).N (p30 4).C,.slice (p30 4).A' (p30 4).N' (p30 4).C']]) (fun p57=>[(1,pT (p1 0).N 0),(2,.bool false),(3,.bool true),(5,pT (p5 0).N 0),(19,.int .i64 c),(23,pT (p52 2).N 0),(24,pT (p54 4).N 0),(25,pT (p54 5).N 0)]) (fun p57=>?_) (fun p57 W57 T hF hJ=>?_)
    ·refine okv ?_
     refine okl ?_
     refine okp ?_
     exact ok_nil
    replace hS:=SymF.fc hS hF [0,1,2,3,4] [⟨(p1 0).N,#[.bool false,.slice a1 n1 c1,.slice a2 n2 c2],28,true⟩,⟨(p5 0).N,#[.bool g0,.slice (p9 4).A (p9 4).N (p9 4).C,.slice (p9 4).A' (p9 4).N' (p9 4).C',.bool g1,.slice (p16 4).A (p16 4).N (p16 4).C,.slice (p16 4).A' (p16 4).N' (p16 4).C',.bool g2,.slice (p23 4).A (p23 4).N (p23 4).C,.slice (p23 4).A' (p23 4).N' (p23 4).C',.bool g3,.slice (p30 4).A (p30 4).N (p30 4).C,.slice (p30 4).A' (p30 4).N' (p30 4).C',.bool g4,.slice (p37 4).A (p37 4).N (p37 4).C,.slice (p37 4).A' (p37 4).N' (p37 4).C'],44,true⟩,⟨(p52 2).N,#[.bool g4,.slice (p37 4).A (p37 4).N (p37 4).C,.slice (p37 4).A' (p37 4).N' (p37 4).C'],28,true⟩,⟨(p54 4).N,#[.bool g3,.slice (p30 4).A (p30 4).N (p30 4).C,.slice (p30 4).A' (p30 4).N' (p30 4).C'],28,true⟩,⟨(p54 5).N,#[.bool g4,.slice (p37 4).A (p37 4).N (p37 4).C,.slice (p37 4).A' (p37 4).N' (p37 4).C'],28,true⟩]
    replace hG:=hF.gx
    clear hF hK
    have hK:=hJ
    clear hJ
    have z57:=hS.fr.size
    refine then_n (wp_seq ?_)
    refine wq hS hG hK (fun p58=>[.v 179 (.int .i64 c),.v 180 (.bool true),.v 181 (.bool true),.k (some 182),.k (some 183),.k (some 184),.k (some 185),.k (some 186),.k (some 187),.k (some 188),.v 189 (.bool true)]) (fun p58=>[(2,.bool false),(3,.bool true),(5,pT (p5 0).N 0),(23,pT (p52 2).N 0),(24,pT (p54 4).N 0),(25,pT (p54 5).N 0),(189,.bool true)]) (fun p58=>?_) (fun p58 W58 T hF hJ=>?_)
    ·refine okv ?_
     refine okvb (decide_eq_true (show c > 0 by omega)) ?_
     refine okv ?_
     iterate 7 refine okk ?_
     refine okv ?_
     exact ok_nil
    replace hS:=SymF.fd hS hF
    replace hG:=hF.gx
    clear hF hK
    have hK:=hJ
    clear hJ
    have z58:=hS.fr.size
    refine wp_cond_true (hK.ew 189) ?_
    refine wg hS hG hK (fun p59=>[.v 190 (pT (p5 0).N 9),.l 191 (.agg #[.bool g3,.slice (p30 4).A (p30 4).N (p30 4).C,.slice (p30 4).A' (p30 4).N' (p30 4).C']) 1 9,.p 4 0 [.bool g3,.slice (p30 4).A (p30 4).N (p30 4).C,.slice (p30 4).A' (p30 4).N' (p30 4).C']]) (fun p59=>[(2,.bool false),(3,.bool true),(5,pT (p5 0).N 0),(23,pT (p52 2).N 0),(24,pT (p54 4).N 0),(25,pT (p54 5).N 0)]) (fun p59=>?_) (fun p59 W59 T hF hJ=>?_)
    ·refine okv ?_
     refine okl ?_
     refine okp ?_
     exact ok_nil
    replace hS:=SymF.fc hS hF [1,2,3,4] [⟨(p5 0).N,#[.bool g0,.slice (p9 4).A (p9 4).N (p9 4).C,.slice (p9 4).A' (p9 4).N' (p9 4).C',.bool g1,.slice (p16 4).A (p16 4).N (p16 4).C,.slice (p16 4).A' (p16 4).N' (p16 4).C',.bool g2,.slice (p23 4).A (p23 4).N (p23 4).C,.slice (p23 4).A' (p23 4).N' (p23 4).C',.bool g3,.slice (p30 4).A (p30 4).N (p30 4).C,.slice (p30 4).A' (p30 4).N' (p30 4).C',.bool g4,.slice (p37 4).A (p37 4).N (p37 4).C,.slice (p37 4).A' (p37 4).N' (p37 4).C'],44,true⟩,⟨(p52 2).N,#[.bool g4,.slice (p37 4).A (p37 4).N (p37 4).C,.slice (p37 4).A' (p37 4).N' (p37 4).C'],28,true⟩,⟨(p54 4).N,#[.bool g3,.slice (p30 4).A (p30 4).N (p30 4).C,.slice (p30 4).A' (p30 4).N' (p30 4).C'],28,true⟩,⟨(p54 5).N,#[.bool g3,.slice (p30 4).A (p30 4).N (p30 4).C,.slice (p30 4).A' (p30 4).N' (p30 4).C'],28,true⟩]
    replace hG:=hF.gx
    clear hF hK
    have hK:=hJ
    clear hJ
    have z59:=hS.fr.size
    refine then_n ?_
    refine wq hS hG hK (fun p60=>[.v 192 (.bool true),.v 193 (.bool true),.v 194 (pT (p5 0).N 6),.l 195 (.agg #[.bool g2,.slice (p23 4).A (p23 4).N (p23 4).C,.slice (p23 4).A' (p23 4).N' (p23 4).C']) 0 6,.l 196 (.agg #[.bool g4,.slice (p37 4).A (p37 4).N (p37 4).C,.slice (p37 4).A' (p37 4).N' (p37 4).C']) 1 0,.c (some 197) (cV (.bool true)),.v 198 (.bool true),.v 199 (.bool true),.v 200 (pT (p5 0).N 0),.l 201 (.agg #[.bool g0,.slice (p9 4).A (p9 4).N (p9 4).C,.slice (p9 4).A' (p9 4).N' (p9 4).C']) 0 0,.l 202 (.agg #[.bool g3,.slice (p30 4).A (p30 4).N (p30 4).C,.slice (p30 4).A' (p30 4).N' (p30 4).C']) 2 0,.c (some 203) (cV (.bool true)),.v 204 (.bool true),.v 205 (.bool true),.v 206 (pT (p5 0).N 3),.l 207 (.agg #[.bool g1,.slice (p16 4).A (p16 4).N (p16 4).C,.slice (p16 4).A' (p16 4).N' (p16 4).C']) 0 3,.l 208 (.agg #[.bool g3,.slice (p30 4).A (p30 4).N (p30 4).C,.slice (p30 4).A' (p30 4).N' (p30 4).C']) 3 0,.c (some 209) (cV (.bool true)),.v 210 (.bool true),.v 2 (.bool true)]) (fun p60=>[(2,.bool true),(3,.bool true),(5,pT (p5 0).N 0),(23,pT (p52 2).N 0)]) (fun p60=>?_) (fun p60 W60 T hF hJ=>?_)
    ·iterate 3 refine okv ?_
     iterate 2 refine okl ?_
     refine okc (fun W cx=>as_v (unhide HNf rfl _ _ _ (p23 4).C _ _ (p23 4).C' _ _ (p37 4).C _ _ (p37 4).C' cx.fr (Mine.num cx.G.2.2.2.2.2.2.2.2.2.2.2.2.2.2.2.2.1) (Mine.num cx.G.2.2.2.2.2.2.2.2.2.2.2.2.2.2.2.2.2.1) (Mine.num cx.G.2.2.2.2.2.2.2.2.2.2.1) (Mine.num cx.G.2.2.2.2.2.2.2.2.2.2.2.1))) ?_
     iterate 3 refine okv ?_
     iterate 2 refine okl ?_
     refine okc (fun W cx=>as_v (unhide HEt rfl _ _ _ (p9 4).C _ _ (p9 4).C' _ _ (p30 4).C _ _ (p30 4).C' cx.fr (Mine.num cx.G.2.2.2.2.2.2.2.2.2.2.2.2.2.2.2.2.2.2.2.2.2.2.1) (Mine.num cx.G.2.2.2.2.2.2.2.2.2.2.2.2.2.2.2.2.2.2.2.2.2.2.2.1) (Mine.num cx.G.2.2.2.2.2.2.2.2.2.2.2.2.2.1) (Mine.num cx.G.2.2.2.2.2.2.2.2.2.2.2.2.2.2.1))) ?_
     iterate 3 refine okv ?_
     iterate 2 refine okl ?_
     refine okc (fun W cx=>as_v (unhide HAt rfl _ _ _ (p16 4).C _ _ (p16 4).C' _ _ (p30 4).C _ _ (p30 4).C' cx.fr (Mine.num cx.G.2.2.2.2.2.2.2.2.2.2.2.2.2.2.2.2.2.2.2.1) (Mine.num cx.G.2.2.2.2.2.2.2.2.2.2.2.2.2.2.2.2.2.2.2.2.1) (Mine.num cx.G.2.2.2.2.2.2.2.2.2.2.2.2.2.1) (Mine.num cx.G.2.2.2.2.2.2.2.2.2.2.2.2.2.2.1))) ?_
     iterate 2 refine okv ?_
     exact ok_nil
    replace hS:=SymF.fd hS hF
    replace hG:=hF.gx
    clear hF hK
    have hK:=hJ
    clear hJ
    have z60:=hS.fr.size
    refine wp_ret ?_
    exact sym_end hS hK (.bool true) [] [] (by kernel_rfl) (by kernel_rfl) ⟨rfl,hS.fr⟩
 ·refine wp_cond_true (hK.ew 144) ?_
  refine wg hS hG hK (fun p54=>[.v 145 (pT (p5 0).N 9),.l 146 (.agg #[.bool g3,.slice (p30 4).A (p30 4).N (p30 4).C,.slice (p30 4).A' (p30 4).N' (p30 4).C']) 1 9,.p 2 0 [.bool g3,.slice (p30 4).A (p30 4).N (p30 4).C,.slice (p30 4).A' (p30 4).N' (p30 4).C']]) (fun p54=>[(1,pT (p1 0).N 0),(2,.bool false),(3,.bool true),(5,pT (p5 0).N 0),(19,.int .i64 c),(21,.bool one),(23,pT (p52 2).N 0)]) (fun p54=>?_) (fun p54 W54 T hF hJ=>?_)
  ·refine okv ?_
   refine okl ?_
   refine okp ?_
   exact ok_nil
  replace hS:=SymF.fc hS hF [0,1,2] [⟨(p1 0).N,#[.bool true,.slice a1 n1 c1,.slice a2 n2 c2],28,true⟩,⟨(p5 0).N,#[.bool g0,.slice (p9 4).A (p9 4).N (p9 4).C,.slice (p9 4).A' (p9 4).N' (p9 4).C',.bool g1,.slice (p16 4).A (p16 4).N (p16 4).C,.slice (p16 4).A' (p16 4).N' (p16 4).C',.bool g2,.slice (p23 4).A (p23 4).N (p23 4).C,.slice (p23 4).A' (p23 4).N' (p23 4).C',.bool g3,.slice (p30 4).A (p30 4).N (p30 4).C,.slice (p30 4).A' (p30 4).N' (p30 4).C',.bool g4,.slice (p37 4).A (p37 4).N (p37 4).C,.slice (p37 4).A' (p37 4).N' (p37 4).C'],44,true⟩,⟨(p52 2).N,#[.bool g3,.slice (p30 4).A (p30 4).N (p30 4).C,.slice (p30 4).A' (p30 4).N' (p30 4).C'],28,true⟩]
  replace hG:=hF.gx
  clear hF hK
  have hK:=hJ
  clear hJ
  have z54:=hS.fr.size
  refine then_n ?_
  refine wq hS hG hK (fun p55=>[.v 147 (pT (p5 0).N 12),.l 148 (.agg #[.bool g4,.slice (p37 4).A (p37 4).N (p37 4).C,.slice (p37 4).A' (p37 4).N' (p37 4).C']) 1 12,.v 149 (pT (p5 0).N 12),.l 150 (.agg #[.bool g4,.slice (p37 4).A (p37 4).N (p37 4).C,.slice (p37 4).A' (p37 4).N' (p37 4).C']) 1 12,.n 24 #[.bool false,.slice none 0 0,.slice none 0 0] 28,.n 25 #[.bool false,.slice none 0 0,.slice none 0 0] 28,.p 1004 0 [.bool g4,.slice (p37 4).A (p37 4).N (p37 4).C,.slice (p37 4).A' (p37 4).N' (p37 4).C'],.p 1005 0 [.bool g4,.slice (p37 4).A (p37 4).N (p37 4).C,.slice (p37 4).A' (p37 4).N' (p37 4).C']]) (fun p55=>[(1,pT (p1 0).N 0),(2,.bool false),(3,.bool true),(5,pT (p5 0).N 0),(19,.int .i64 c),(21,.bool one),(23,pT (p52 2).N 0),(24,pT (p55 4).N 0),(25,pT (p55 5).N 0)]) (fun p55=>?_) (fun p55 W55 T hF hJ=>?_)
  ·refine okv ?_
   refine okl ?_
   refine okv ?_
   refine okl ?_
   iterate 2 refine okn ?_
   iterate 2 refine okp ?_
   exact ok_nil
  replace hS:=SymF.fc hS hF [0,1,2,1004,1005] [⟨(p1 0).N,#[.bool true,.slice a1 n1 c1,.slice a2 n2 c2],28,true⟩,⟨(p5 0).N,#[.bool g0,.slice (p9 4).A (p9 4).N (p9 4).C,.slice (p9 4).A' (p9 4).N' (p9 4).C',.bool g1,.slice (p16 4).A (p16 4).N (p16 4).C,.slice (p16 4).A' (p16 4).N' (p16 4).C',.bool g2,.slice (p23 4).A (p23 4).N (p23 4).C,.slice (p23 4).A' (p23 4).N' (p23 4).C',.bool g3,.slice (p30 4).A (p30 4).N (p30 4).C,.slice (p30 4).A' (p30 4).N' (p30 4).C',.bool g4,.slice (p37 4).A (p37 4).N (p37 4).C,.slice (p37 4).A' (p37 4).N' (p37 4).C'],44,true⟩,⟨(p52 2).N,#[.bool g3,.slice (p30 4).A (p30 4).N (p30 4).C,.slice (p30 4).A' (p30 4).N' (p30 4).C'],28,true⟩,⟨(p55 4).N,#[.bool g4,.slice (p37 4).A (p37 4).N (p37 4).C,.slice (p37 4).A' (p37 4).N' (p37 4).C'],28,true⟩,⟨(p55 5).N,#[.bool g4,.slice (p37 4).A (p37 4).N (p37 4).C,.slice (p37 4).A' (p37 4).N' (p37 4).C'],28,true⟩]
  replace hG:=hF.gx
  clear hF hK
  have hK:=hJ
  clear hJ
  have z55:=hS.fr.size
  cases zd
  ·obtain ⟨b9,y9,hA9,hn9,hl9,ho9⟩:=first_limb hG.2.2.2.2.2.2.2.2.2.2.1 (hz0 rfl)
   have hm9:Int.tmod (y9:Int) 2 = ((m4 % 2:Nat):Int):=by rw [← ho9]; rfl
   replace hG:GsAt (gL b9 0 (y9:Int) :: _) W55:=⟨hl9,hG⟩
   refine wq hS hG hK (fun p56=>[.v 151 (pT (p55 4).N 1),.v 152 (pT (p55 4).N 1),.l 153 (.slice (p37 4).A (p37 4).N (p37 4).C) 3 1,.v 154 (.int .i64 ((p37 4).N:Int)),.v 155 (.bool true),.v 156 (.bool true),.v 157 (pT (p55 4).N 1),.v 158 (pT (p55 4).N 1),.l 159 (.slice (p37 4).A (p37 4).N (p37 4).C) 3 1,.v 160 (.pointer (some ⟨b9,0+0,none⟩)),.g 161 (.int .u32 (y9:Int)) [.int .u32 (y9:Int)] [.ld ⟨b9,0+0,none⟩ (.int .u32 (y9:Int))],.v 162 (.int .u32 ((m4 % 2:Nat):Int)),.v 163 (.bool odd),.v 164 (.bool odd),.v 26 (.bool odd)]) (fun p56=>[(1,pT (p1 0).N 0),(2,.bool false),(3,.bool true),(5,pT (p5 0).N 0),(19,.int .i64 c),(21,.bool one),(23,pT (p52 2).N 0),(24,pT (p55 4).N 0),(25,pT (p55 5).N 0),(26,.bool odd)]) (fun p56=>?_) (fun p56 W56 T hF hJ=>?_)
   ·iterate 2 refine okv ?_
    refine okl ?_
    refine okv ?_
    refine okvb (decide_eq_true (show ((p37 4).N:Int) > 0 by omega)) ?_
    iterate 3 refine okv ?_
    refine okl ?_
    refine ok_vr (script_ia hA9 (t:=24) (el:=49) (len:=(p37 4).N) (c:=(p37 4).C) (by kernel_rfl) (fun _=>by kernel_rfl) hn9) (by kernel_rfl) ?_
    refine ok_g (fun W cx=>⟨⟨cx.G.1,trivial⟩,rfl⟩) (by kernel_rfl) ?_
    refine okvi (hm9) ?_
    refine okvb ((show (((m4 % 2:Nat):Int) == 1) = odd from by rw [← hodd]; rcases Nat.mod_two_eq_zero_or_one m4 with e9|e9 <;> rw [e9] <;> rfl)) ?_
    iterate 2 refine okv ?_
    exact ok_nil
   replace hS:=SymF.fd hS hF
   replace hG:=hF.gx
   clear hF hK
   have hK:=hJ
   clear hJ
   have z56:=hS.fr.size
   refine wp_seq ?_
   cases cgt
   ·have hc9:=hcf rfl
    cases ceq
    ·have hq9:=hqf rfl
     refine wq hS hG hK (fun p57=>[.v 165 (.int .i64 c),.v 166 (.bool false),.v 167 (.bool false),.v 168 (.int .i64 c),.v 169 (.bool false),.v 170 (.bool false),.k (some 171),.v 172 (.bool false),.v 173 (.bool false),.k (some 174),.v 175 (.bool false),.v 176 (.bool false)]) (fun p57=>[(1,pT (p1 0).N 0),(2,.bool false),(3,.bool true),(5,pT (p5 0).N 0),(19,.int .i64 c),(23,pT (p52 2).N 0),(24,pT (p55 4).N 0),(25,pT (p55 5).N 0),(176,.bool false)]) (fun p57=>?_) (fun p57 W57 T hF hJ=>?_)
     ·refine okv ?_
      refine okvb (decide_eq_false (show ¬ c > 0 by omega)) ?_
      iterate 2 refine okv ?_
      refine okvb (beq_false_of_ne (show c≠0 by omega)) ?_
      refine okv ?_
      refine okk ?_
      iterate 2 refine okv ?_
      refine okk ?_
      iterate 2 refine okv ?_
      exact ok_nil
     replace hS:=SymF.fd hS hF
     replace hG:=hF.gx
     clear hF hK
     have hK:=hJ
     clear hJ
     have z57:=hS.fr.size
     refine wp_cond_false (hK.ew 176) (wp_skip ?_)
     refine then_n (wp_seq ?_)
     refine wq hS hG hK (fun p58=>[.v 179 (.int .i64 c),.v 180 (.bool false),.v 181 (.bool false),.v 182 (.int .i64 c),.v 183 (.bool false),.v 184 (.bool false),.k (some 185),.k (some 186),.k (some 187),.v 188 (.bool false),.v 189 (.bool false)]) (fun p58=>[(2,.bool false),(3,.bool true),(5,pT (p5 0).N 0),(23,pT (p52 2).N 0),(24,pT (p55 4).N 0),(25,pT (p55 5).N 0),(189,.bool false)]) (fun p58=>?_) (fun p58 W58 T hF hJ=>?_)
     ·refine okv ?_
      refine okvb (decide_eq_false (show ¬ c > 0 by omega)) ?_
      iterate 2 refine okv ?_
      refine okvb (beq_false_of_ne (show c≠0 by omega)) ?_
      refine okv ?_
      iterate 3 refine okk ?_
      iterate 2 refine okv ?_
      exact ok_nil
     replace hS:=SymF.fd hS hF
     replace hG:=hF.gx
     clear hF hK
     have hK:=hJ
     clear hJ
     have z58:=hS.fr.size
     refine wp_cond_false (hK.ew 189) (wp_skip (then_n ?_))
     refine wq hS hG hK (fun p59=>[.v 192 (.bool true),.v 193 (.bool true),.v 194 (pT (p5 0).N 6),.l 195 (.agg #[.bool g2,.slice (p23 4).A (p23 4).N (p23 4).C,.slice (p23 4).A' (p23 4).N' (p23 4).C']) 1 6,.l 196 (.agg #[.bool g3,.slice (p30 4).A (p30 4).N (p30 4).C,.slice (p30 4).A' (p30 4).N' (p30 4).C']) 2 0,.c (some 197) (cV (.bool true)),.v 198 (.bool true),.v 199 (.bool true),.v 200 (pT (p5 0).N 0),.l 201 (.agg #[.bool g0,.slice (p9 4).A (p9 4).N (p9 4).C,.slice (p9 4).A' (p9 4).N' (p9 4).C']) 1 0,.l 202 (.agg #[.bool g4,.slice (p37 4).A (p37 4).N (p37 4).C,.slice (p37 4).A' (p37 4).N' (p37 4).C']) 3 0,.c (some 203) (cV (.bool true)),.v 204 (.bool true),.v 205 (.bool true),.v 206 (pT (p5 0).N 3),.l 207 (.agg #[.bool g1,.slice (p16 4).A (p16 4).N (p16 4).C,.slice (p16 4).A' (p16 4).N' (p16 4).C']) 1 3,.l 208 (.agg #[.bool g4,.slice (p37 4).A (p37 4).N (p37 4).C,.slice (p37 4).A' (p37 4).N' (p37 4).C']) 4 0,.c (some 209) (cV (.bool true)),.v 210 (.bool true),.v 2 (.bool true)]) (fun p59=>[(2,.bool true),(3,.bool true),(5,pT (p5 0).N 0),(24,pT (p55 4).N 0),(25,pT (p55 5).N 0)]) (fun p59=>?_) (fun p59 W59 T hF hJ=>?_)
     ·iterate 3 refine okv ?_
      iterate 2 refine okl ?_
      refine okc (fun W cx=>as_v (unhide HNt rfl _ _ _ (p23 4).C _ _ (p23 4).C' _ _ (p30 4).C _ _ (p30 4).C' cx.fr (Mine.num cx.G.2.2.2.2.2.2.2.2.2.2.2.2.2.2.2.2.2.1) (Mine.num cx.G.2.2.2.2.2.2.2.2.2.2.2.2.2.2.2.2.2.2.1) (Mine.num cx.G.2.2.2.2.2.2.2.2.2.2.2.2.2.2.1) (Mine.num cx.G.2.2.2.2.2.2.2.2.2.2.2.2.2.2.2.1))) ?_
      iterate 3 refine okv ?_
      iterate 2 refine okl ?_
      refine okc (fun W cx=>as_v (unhide HEf rfl _ _ _ (p9 4).C _ _ (p9 4).C' _ _ (p37 4).C _ _ (p37 4).C' cx.fr (Mine.num cx.G.2.2.2.2.2.2.2.2.2.2.2.2.2.2.2.2.2.2.2.2.2.2.2.1) (Mine.num cx.G.2.2.2.2.2.2.2.2.2.2.2.2.2.2.2.2.2.2.2.2.2.2.2.2.1) (Mine.num cx.G.2.2.2.2.2.2.2.2.2.2.2.1) (Mine.num cx.G.2.2.2.2.2.2.2.2.2.2.2.2.1))) ?_
      iterate 3 refine okv ?_
      iterate 2 refine okl ?_
      refine okc (fun W cx=>as_v (unhide HAf rfl _ _ _ (p16 4).C _ _ (p16 4).C' _ _ (p37 4).C _ _ (p37 4).C' cx.fr (Mine.num cx.G.2.2.2.2.2.2.2.2.2.2.2.2.2.2.2.2.2.2.2.2.1) (Mine.num cx.G.2.2.2.2.2.2.2.2.2.2.2.2.2.2.2.2.2.2.2.2.2.1) (Mine.num cx.G.2.2.2.2.2.2.2.2.2.2.2.1) (Mine.num cx.G.2.2.2.2.2.2.2.2.2.2.2.2.1))) ?_
      iterate 2 refine okv ?_
      exact ok_nil
     replace hS:=SymF.fd hS hF
     replace hG:=hF.gx
     clear hF hK
     have hK:=hJ
     clear hJ
     have z59:=hS.fr.size
     refine wp_ret ?_
     exact sym_end hS hK (.bool true) [] [] (by kernel_rfl) (by kernel_rfl) ⟨rfl,hS.fr⟩
    ·have hq9:=hqt rfl
     cases odd
     ·refine wq hS hG hK (fun p57=>[.v 165 (.int .i64 c),.v 166 (.bool false),.v 167 (.bool false),.v 168 (.int .i64 c),.v 169 (.bool true),.v 170 (.bool true),.v 171 (.bool false),.v 172 (.bool false),.v 173 (.bool false),.k (some 174),.v 175 (.bool false),.v 176 (.bool false)]) (fun p57=>[(1,pT (p1 0).N 0),(2,.bool false),(3,.bool true),(5,pT (p5 0).N 0),(19,.int .i64 c),(23,pT (p52 2).N 0),(24,pT (p55 4).N 0),(25,pT (p55 5).N 0),(176,.bool false)]) (fun p57=>?_) (fun p57 W57 T hF hJ=>?_)
      ·refine okv ?_
       refine okvb (decide_eq_false (show ¬ c > 0 by omega)) ?_
       iterate 2 refine okv ?_
       refine okvb (beq_iff_eq.2 (show c = 0 by omega)) ?_
       iterate 4 refine okv ?_
       refine okk ?_
       iterate 2 refine okv ?_
       exact ok_nil
      replace hS:=SymF.fd hS hF
      replace hG:=hF.gx
      clear hF hK
      have hK:=hJ
      clear hJ
      have z57:=hS.fr.size
      refine wp_cond_false (hK.ew 176) (wp_skip ?_)
      refine then_n (wp_seq ?_)
      refine wq hS hG hK (fun p58=>[.v 179 (.int .i64 c),.v 180 (.bool false),.v 181 (.bool false),.v 182 (.int .i64 c),.v 183 (.bool true),.v 184 (.bool true),.v 185 (pT (p1 0).N 0),.l 186 (.bool true) 0 0,.v 187 (.bool false),.v 188 (.bool false),.v 189 (.bool false)]) (fun p58=>[(2,.bool false),(3,.bool true),(5,pT (p5 0).N 0),(23,pT (p52 2).N 0),(24,pT (p55 4).N 0),(25,pT (p55 5).N 0),(189,.bool false)]) (fun p58=>?_) (fun p58 W58 T hF hJ=>?_)
      ·refine okv ?_
       refine okvb (decide_eq_false (show ¬ c > 0 by omega)) ?_
       iterate 2 refine okv ?_
       refine okvb (beq_iff_eq.2 (show c = 0 by omega)) ?_
       iterate 2 refine okv ?_
       refine okl ?_
       iterate 3 refine okv ?_
       exact ok_nil
      replace hS:=SymF.fd hS hF
      replace hG:=hF.gx
      clear hF hK
      have hK:=hJ
      clear hJ
      have z58:=hS.fr.size
      refine wp_cond_false (hK.ew 189) (wp_skip (then_n ?_))
      refine wq hS hG hK (fun p59=>[.v 192 (.bool true),.v 193 (.bool true),.v 194 (pT (p5 0).N 6),.l 195 (.agg #[.bool g2,.slice (p23 4).A (p23 4).N (p23 4).C,.slice (p23 4).A' (p23 4).N' (p23 4).C']) 1 6,.l 196 (.agg #[.bool g3,.slice (p30 4).A (p30 4).N (p30 4).C,.slice (p30 4).A' (p30 4).N' (p30 4).C']) 2 0,.c (some 197) (cV (.bool true)),.v 198 (.bool true),.v 199 (.bool true),.v 200 (pT (p5 0).N 0),.l 201 (.agg #[.bool g0,.slice (p9 4).A (p9 4).N (p9 4).C,.slice (p9 4).A' (p9 4).N' (p9 4).C']) 1 0,.l 202 (.agg #[.bool g4,.slice (p37 4).A (p37 4).N (p37 4).C,.slice (p37 4).A' (p37 4).N' (p37 4).C']) 3 0,.c (some 203) (cV (.bool true)),.v 204 (.bool true),.v 205 (.bool true),.v 206 (pT (p5 0).N 3),.l 207 (.agg #[.bool g1,.slice (p16 4).A (p16 4).N (p16 4).C,.slice (p16 4).A' (p16 4).N' (p16 4).C']) 1 3,.l 208 (.agg #[.bool g4,.slice (p37 4).A (p37 4).N (p37 4).C,.slice (p37 4).A' (p37 4).N' (p37 4).C']) 4 0,.c (some 209) (cV (.bool true)),.v 210 (.bool true),.v 2 (.bool true)]) (fun p59=>[(2,.bool true),(3,.bool true),(5,pT (p5 0).N 0),(24,pT (p55 4).N 0),(25,pT (p55 5).N 0)]) (fun p59=>?_) (fun p59 W59 T hF hJ=>?_)
      ·iterate 3 refine okv ?_
       iterate 2 refine okl ?_
       refine okc (fun W cx=>as_v (unhide HNt rfl _ _ _ (p23 4).C _ _ (p23 4).C' _ _ (p30 4).C _ _ (p30 4).C' cx.fr (Mine.num cx.G.2.2.2.2.2.2.2.2.2.2.2.2.2.2.2.2.2.1) (Mine.num cx.G.2.2.2.2.2.2.2.2.2.2.2.2.2.2.2.2.2.2.1) (Mine.num cx.G.2.2.2.2.2.2.2.2.2.2.2.2.2.2.1) (Mine.num cx.G.2.2.2.2.2.2.2.2.2.2.2.2.2.2.2.1))) ?_
       iterate 3 refine okv ?_
       iterate 2 refine okl ?_
       refine okc (fun W cx=>as_v (unhide HEf rfl _ _ _ (p9 4).C _ _ (p9 4).C' _ _ (p37 4).C _ _ (p37 4).C' cx.fr (Mine.num cx.G.2.2.2.2.2.2.2.2.2.2.2.2.2.2.2.2.2.2.2.2.2.2.2.1) (Mine.num cx.G.2.2.2.2.2.2.2.2.2.2.2.2.2.2.2.2.2.2.2.2.2.2.2.2.1) (Mine.num cx.G.2.2.2.2.2.2.2.2.2.2.2.1) (Mine.num cx.G.2.2.2.2.2.2.2.2.2.2.2.2.1))) ?_
       iterate 3 refine okv ?_
       iterate 2 refine okl ?_
       refine okc (fun W cx=>as_v (unhide HAf rfl _ _ _ (p16 4).C _ _ (p16 4).C' _ _ (p37 4).C _ _ (p37 4).C' cx.fr (Mine.num cx.G.2.2.2.2.2.2.2.2.2.2.2.2.2.2.2.2.2.2.2.2.1) (Mine.num cx.G.2.2.2.2.2.2.2.2.2.2.2.2.2.2.2.2.2.2.2.2.2.1) (Mine.num cx.G.2.2.2.2.2.2.2.2.2.2.2.1) (Mine.num cx.G.2.2.2.2.2.2.2.2.2.2.2.2.1))) ?_
       iterate 2 refine okv ?_
       exact ok_nil
      replace hS:=SymF.fd hS hF
      replace hG:=hF.gx
      clear hF hK
      have hK:=hJ
      clear hJ
      have z59:=hS.fr.size
      refine wp_ret ?_
      exact sym_end hS hK (.bool true) [] [] (by kernel_rfl) (by kernel_rfl) ⟨rfl,hS.fr⟩
     ·refine wq hS hG hK (fun p57=>[.v 165 (.int .i64 c),.v 166 (.bool false),.v 167 (.bool false),.v 168 (.int .i64 c),.v 169 (.bool true),.v 170 (.bool true),.v 171 (.bool true),.v 172 (.bool true),.v 173 (.bool true),.v 174 (.bool one),.v 175 (.bool one),.v 176 (.bool one)]) (fun p57=>[(1,pT (p1 0).N 0),(2,.bool false),(3,.bool true),(5,pT (p5 0).N 0),(19,.int .i64 c),(23,pT (p52 2).N 0),(24,pT (p55 4).N 0),(25,pT (p55 5).N 0),(176,.bool one)]) (fun p57=>?_) (fun p57 W57 T hF hJ=>?_)
      ·refine okv ?_
       refine okvb (decide_eq_false (show ¬ c > 0 by omega)) ?_
       iterate 2 refine okv ?_
       refine okvb (beq_iff_eq.2 (show c = 0 by omega)) ?_
       iterate 7 refine okv ?_
       exact ok_nil
      replace hS:=SymF.fd hS hF
      replace hG:=hF.gx
      clear hF hK
      have hK:=hJ
      clear hJ
      have z57:=hS.fr.size
      cases one
      ·refine wp_cond_false (hK.ew 176) (wp_skip ?_)
       refine then_n (wp_seq ?_)
       refine wq hS hG hK (fun p58=>[.v 179 (.int .i64 c),.v 180 (.bool false),.v 181 (.bool false),.v 182 (.int .i64 c),.v 183 (.bool true),.v 184 (.bool true),.v 185 (pT (p1 0).N 0),.l 186 (.bool true) 0 0,.v 187 (.bool false),.v 188 (.bool false),.v 189 (.bool false)]) (fun p58=>[(2,.bool false),(3,.bool true),(5,pT (p5 0).N 0),(23,pT (p52 2).N 0),(24,pT (p55 4).N 0),(25,pT (p55 5).N 0),(189,.bool false)]) (fun p58=>?_) (fun p58 W58 T hF hJ=>?_)
       ·refine okv ?_
        refine okvb (decide_eq_false (show ¬ c > 0 by omega)) ?_
        iterate 2 refine okv ?_
        refine okvb (beq_iff_eq.2 (show c = 0 by omega)) ?_
        iterate 2 refine okv ?_
        refine okl ?_
        iterate 3 refine okv ?_
        exact ok_nil
       replace hS:=SymF.fd hS hF
       replace hG:=hF.gx
       clear hF hK
       have hK:=hJ
       clear hJ
       have z58:=hS.fr.size
       refine wp_cond_false (hK.ew 189) (wp_skip (then_n ?_))
       refine wq hS hG hK (fun p59=>[.v 192 (.bool true),.v 193 (.bool true),.v 194 (pT (p5 0).N 6),.l 195 (.agg #[.bool g2,.slice (p23 4).A (p23 4).N (p23 4).C,.slice (p23 4).A' (p23 4).N' (p23 4).C']) 1 6,.l 196 (.agg #[.bool g3,.slice (p30 4).A (p30 4).N (p30 4).C,.slice (p30 4).A' (p30 4).N' (p30 4).C']) 2 0,.c (some 197) (cV (.bool true)),.v 198 (.bool true),.v 199 (.bool true),.v 200 (pT (p5 0).N 0),.l 201 (.agg #[.bool g0,.slice (p9 4).A (p9 4).N (p9 4).C,.slice (p9 4).A' (p9 4).N' (p9 4).C']) 1 0,.l 202 (.agg #[.bool g4,.slice (p37 4).A (p37 4).N (p37 4).C,.slice (p37 4).A' (p37 4).N' (p37 4).C']) 3 0,.c (some 203) (cV (.bool true)),.v 204 (.bool true),.v 205 (.bool true),.v 206 (pT (p5 0).N 3),.l 207 (.agg #[.bool g1,.slice (p16 4).A (p16 4).N (p16 4).C,.slice (p16 4).A' (p16 4).N' (p16 4).C']) 1 3,.l 208 (.agg #[.bool g4,.slice (p37 4).A (p37 4).N (p37 4).C,.slice (p37 4).A' (p37 4).N' (p37 4).C']) 4 0,.c (some 209) (cV (.bool true)),.v 210 (.bool true),.v 2 (.bool true)]) (fun p59=>[(2,.bool true),(3,.bool true),(5,pT (p5 0).N 0),(24,pT (p55 4).N 0),(25,pT (p55 5).N 0)]) (fun p59=>?_) (fun p59 W59 T hF hJ=>?_)
       ·iterate 3 refine okv ?_
        iterate 2 refine okl ?_
        refine okc (fun W cx=>as_v (unhide HNt rfl _ _ _ (p23 4).C _ _ (p23 4).C' _ _ (p30 4).C _ _ (p30 4).C' cx.fr (Mine.num cx.G.2.2.2.2.2.2.2.2.2.2.2.2.2.2.2.2.2.1) (Mine.num cx.G.2.2.2.2.2.2.2.2.2.2.2.2.2.2.2.2.2.2.1) (Mine.num cx.G.2.2.2.2.2.2.2.2.2.2.2.2.2.2.1) (Mine.num cx.G.2.2.2.2.2.2.2.2.2.2.2.2.2.2.2.1))) ?_
        iterate 3 refine okv ?_
        iterate 2 refine okl ?_
        refine okc (fun W cx=>as_v (unhide HEf rfl _ _ _ (p9 4).C _ _ (p9 4).C' _ _ (p37 4).C _ _ (p37 4).C' cx.fr (Mine.num cx.G.2.2.2.2.2.2.2.2.2.2.2.2.2.2.2.2.2.2.2.2.2.2.2.1) (Mine.num cx.G.2.2.2.2.2.2.2.2.2.2.2.2.2.2.2.2.2.2.2.2.2.2.2.2.1) (Mine.num cx.G.2.2.2.2.2.2.2.2.2.2.2.1) (Mine.num cx.G.2.2.2.2.2.2.2.2.2.2.2.2.1))) ?_
        iterate 3 refine okv ?_
        iterate 2 refine okl ?_
        refine okc (fun W cx=>as_v (unhide HAf rfl _ _ _ (p16 4).C _ _ (p16 4).C' _ _ (p37 4).C _ _ (p37 4).C' cx.fr (Mine.num cx.G.2.2.2.2.2.2.2.2.2.2.2.2.2.2.2.2.2.2.2.2.1) (Mine.num cx.G.2.2.2.2.2.2.2.2.2.2.2.2.2.2.2.2.2.2.2.2.2.1) (Mine.num cx.G.2.2.2.2.2.2.2.2.2.2.2.1) (Mine.num cx.G.2.2.2.2.2.2.2.2.2.2.2.2.1))) ?_
        iterate 2 refine okv ?_
        exact ok_nil
       replace hS:=SymF.fd hS hF
       replace hG:=hF.gx
       clear hF hK
       have hK:=hJ
       clear hJ
       have z59:=hS.fr.size
       refine wp_ret ?_
       exact sym_end hS hK (.bool true) [] [] (by kernel_rfl) (by kernel_rfl) ⟨rfl,hS.fr⟩
      ·refine wp_cond_true (hK.ew 176) ?_
       refine wg hS hG hK (fun p58=>[.v 177 (pT (p5 0).N 9),.l 178 (.agg #[.bool g3,.slice (p30 4).A (p30 4).N (p30 4).C,.slice (p30 4).A' (p30 4).N' (p30 4).C']) 1 9,.p 3 0 [.bool g3,.slice (p30 4).A (p30 4).N (p30 4).C,.slice (p30 4).A' (p30 4).N' (p30 4).C']]) (fun p58=>[(1,pT (p1 0).N 0),(2,.bool false),(3,.bool true),(5,pT (p5 0).N 0),(19,.int .i64 c),(23,pT (p52 2).N 0),(24,pT (p55 4).N 0),(25,pT (p55 5).N 0)]) (fun p58=>?_) (fun p58 W58 T hF hJ=>?_)
       ·refine okv ?_
        refine okl ?_
        refine okp ?_
        exact ok_nil
       replace hS:=SymF.fc hS hF [0,1,2,3,4] [⟨(p1 0).N,#[.bool true,.slice a1 n1 c1,.slice a2 n2 c2],28,true⟩,⟨(p5 0).N,#[.bool g0,.slice (p9 4).A (p9 4).N (p9 4).C,.slice (p9 4).A' (p9 4).N' (p9 4).C',.bool g1,.slice (p16 4).A (p16 4).N (p16 4).C,.slice (p16 4).A' (p16 4).N' (p16 4).C',.bool g2,.slice (p23 4).A (p23 4).N (p23 4).C,.slice (p23 4).A' (p23 4).N' (p23 4).C',.bool g3,.slice (p30 4).A (p30 4).N (p30 4).C,.slice (p30 4).A' (p30 4).N' (p30 4).C',.bool g4,.slice (p37 4).A (p37 4).N (p37 4).C,.slice (p37 4).A' (p37 4).N' (p37 4).C'],44,true⟩,⟨(p52 2).N,#[.bool g3,.slice (p30 4).A (p30 4).N (p30 4).C,.slice (p30 4).A' (p30 4).N' (p30 4).C'],28,true⟩,⟨(p55 4).N,#[.bool g3,.slice (p30 4).A (p30 4).N (p30 4).C,.slice (p30 4).A' (p30 4).N' (p30 4).C'],28,true⟩,⟨(p55 5).N,#[.bool g4,.slice (p37 4).A (p37 4).N (p37 4).C,.slice (p37 4).A' (p37 4).N' (p37 4).C'],28,true⟩]
       replace hG:=hF.gx
       clear hF hK
       have hK:=hJ
       clear hJ
       have z58:=hS.fr.size
       refine then_n (wp_seq ?_)
       refine wq hS hG hK (fun p59=>[.v 179 (.int .i64 c),.v 180 (.bool false),.v 181 (.bool false),.v 182 (.int .i64 c),.v 183 (.bool true),.v 184 (.bool true),.v 185 (pT (p1 0).N 0),.l 186 (.bool true) 0 0,.v 187 (.bool false),.v 188 (.bool false),.v 189 (.bool false)]) (fun p59=>[(2,.bool false),(3,.bool true),(5,pT (p5 0).N 0),(23,pT (p52 2).N 0),(24,pT (p55 4).N 0),(25,pT (p55 5).N 0),(189,.bool false)]) (fun p59=>?_) (fun p59 W59 T hF hJ=>?_)
       ·refine okv ?_
        refine okvb (decide_eq_false (show ¬ c > 0 by omega)) ?_
        iterate 2 refine okv ?_
        refine okvb (beq_iff_eq.2 (show c = 0 by omega)) ?_
        iterate 2 refine okv ?_
        refine okl ?_
        iterate 3 refine okv ?_
        exact ok_nil
       replace hS:=SymF.fd hS hF
       replace hG:=hF.gx
       clear hF hK
       have hK:=hJ
       clear hJ
       have z59:=hS.fr.size
       refine wp_cond_false (hK.ew 189) (wp_skip (then_n ?_))
       refine wq hS hG hK (fun p60=>[.v 192 (.bool true),.v 193 (.bool true),.v 194 (pT (p5 0).N 6),.l 195 (.agg #[.bool g2,.slice (p23 4).A (p23 4).N (p23 4).C,.slice (p23 4).A' (p23 4).N' (p23 4).C']) 1 6,.l 196 (.agg #[.bool g3,.slice (p30 4).A (p30 4).N (p30 4).C,.slice (p30 4).A' (p30 4).N' (p30 4).C']) 2 0,.c (some 197) (cV (.bool true)),.v 198 (.bool true),.v 199 (.bool true),.v 200 (pT (p5 0).N 0),.l 201 (.agg #[.bool g0,.slice (p9 4).A (p9 4).N (p9 4).C,.slice (p9 4).A' (p9 4).N' (p9 4).C']) 1 0,.l 202 (.agg #[.bool g3,.slice (p30 4).A (p30 4).N (p30 4).C,.slice (p30 4).A' (p30 4).N' (p30 4).C']) 3 0,.c (some 203) (cV (.bool true)),.v 204 (.bool true),.v 205 (.bool true),.v 206 (pT (p5 0).N 3),.l 207 (.agg #[.bool g1,.slice (p16 4).A (p16 4).N (p16 4).C,.slice (p16 4).A' (p16 4).N' (p16 4).C']) 1 3,.l 208 (.agg #[.bool g4,.slice (p37 4).A (p37 4).N (p37 4).C,.slice (p37 4).A' (p37 4).N' (p37 4).C']) 4 0,.c (some 209) (cV (.bool true)),.v 210 (.bool true),.v 2 (.bool true)]) (fun p60=>[(2,.bool true),(3,.bool true),(5,pT (p5 0).N 0),(25,pT (p55 5).N 0)]) (fun p60=>?_) (fun p60 W60 T hF hJ=>?_)
       ·iterate 3 refine okv ?_
        iterate 2 refine okl ?_
        refine okc (fun W cx=>as_v (unhide HNt rfl _ _ _ (p23 4).C _ _ (p23 4).C' _ _ (p30 4).C _ _ (p30 4).C' cx.fr (Mine.num cx.G.2.2.2.2.2.2.2.2.2.2.2.2.2.2.2.2.2.1) (Mine.num cx.G.2.2.2.2.2.2.2.2.2.2.2.2.2.2.2.2.2.2.1) (Mine.num cx.G.2.2.2.2.2.2.2.2.2.2.2.2.2.2.1) (Mine.num cx.G.2.2.2.2.2.2.2.2.2.2.2.2.2.2.2.1))) ?_
        iterate 3 refine okv ?_
        iterate 2 refine okl ?_
        refine okc (fun W cx=>as_v (unhide HEt rfl _ _ _ (p9 4).C _ _ (p9 4).C' _ _ (p30 4).C _ _ (p30 4).C' cx.fr (Mine.num cx.G.2.2.2.2.2.2.2.2.2.2.2.2.2.2.2.2.2.2.2.2.2.2.2.1) (Mine.num cx.G.2.2.2.2.2.2.2.2.2.2.2.2.2.2.2.2.2.2.2.2.2.2.2.2.1) (Mine.num cx.G.2.2.2.2.2.2.2.2.2.2.2.2.2.2.1) (Mine.num cx.G.2.2.2.2.2.2.2.2.2.2.2.2.2.2.2.1))) ?_
        iterate 3 refine okv ?_
        iterate 2 refine okl ?_
        refine okc (fun W cx=>as_v (unhide HAf rfl _ _ _ (p16 4).C _ _ (p16 4).C' _ _ (p37 4).C _ _ (p37 4).C' cx.fr (Mine.num cx.G.2.2.2.2.2.2.2.2.2.2.2.2.2.2.2.2.2.2.2.2.1) (Mine.num cx.G.2.2.2.2.2.2.2.2.2.2.2.2.2.2.2.2.2.2.2.2.2.1) (Mine.num cx.G.2.2.2.2.2.2.2.2.2.2.2.1) (Mine.num cx.G.2.2.2.2.2.2.2.2.2.2.2.2.1))) ?_
        iterate 2 refine okv ?_
        exact ok_nil
       replace hS:=SymF.fd hS hF
       replace hG:=hF.gx
       clear hF hK
       have hK:=hJ
       clear hJ
       have z60:=hS.fr.size
       refine wp_ret ?_
       exact sym_end hS hK (.bool true) [] [] (by kernel_rfl) (by kernel_rfl) ⟨rfl,hS.fr⟩
   ·have hc9:=hct rfl
    refine wq hS hG hK (fun p57=>[.v 165 (.int .i64 c),.v 166 (.bool true),.v 167 (.bool true),.k (some 168),.k (some 169),.k (some 170),.k (some 171),.k (some 172),.k (some 173),.k (some 174),.k (some 175),.v 176 (.bool true)]) (fun p57=>[(1,pT (p1 0).N 0),(2,.bool false),(3,.bool true),(5,pT (p5 0).N 0),(19,.int .i64 c),(23,pT (p52 2).N 0),(24,pT (p55 4).N 0),(25,pT (p55 5).N 0),(176,.bool true)]) (fun p57=>?_) (fun p57 W57 T hF hJ=>?_)
    ·refine okv ?_
     refine okvb (decide_eq_true (show c > 0 by omega)) ?_
     refine okv ?_
     iterate 8 refine okk ?_
     refine okv ?_
     exact ok_nil
    replace hS:=SymF.fd hS hF
    replace hG:=hF.gx
    clear hF hK
    have hK:=hJ
    clear hJ
    have z57:=hS.fr.size
    refine wp_cond_true (hK.ew 176) ?_
    refine wg hS hG hK (fun p58=>[.v 177 (pT (p5 0).N 9),.l 178 (.agg #[.bool g3,.slice (p30 4).A (p30 4).N (p30 4).C,.slice (p30 4).A' (p30 4).N' (p30 4).C']) 1 9,.p 3 0 [.bool g3,.slice (p30 4).A (p30 4).N (p30 4).C,.slice (p30 4).A' (p30 4).N' (p30 4).C']]) (fun p58=>[(1,pT (p1 0).N 0),(2,.bool false),(3,.bool true),(5,pT (p5 0).N 0),(19,.int .i64 c),(23,pT (p52 2).N 0),(24,pT (p55 4).N 0),(25,pT (p55 5).N 0)]) (fun p58=>?_) (fun p58 W58 T hF hJ=>?_)
    ·refine okv ?_
     refine okl ?_
     refine okp ?_
     exact ok_nil
    replace hS:=SymF.fc hS hF [0,1,2,3,4] [⟨(p1 0).N,#[.bool true,.slice a1 n1 c1,.slice a2 n2 c2],28,true⟩,⟨(p5 0).N,#[.bool g0,.slice (p9 4).A (p9 4).N (p9 4).C,.slice (p9 4).A' (p9 4).N' (p9 4).C',.bool g1,.slice (p16 4).A (p16 4).N (p16 4).C,.slice (p16 4).A' (p16 4).N' (p16 4).C',.bool g2,.slice (p23 4).A (p23 4).N (p23 4).C,.slice (p23 4).A' (p23 4).N' (p23 4).C',.bool g3,.slice (p30 4).A (p30 4).N (p30 4).C,.slice (p30 4).A' (p30 4).N' (p30 4).C',.bool g4,.slice (p37 4).A (p37 4).N (p37 4).C,.slice (p37 4).A' (p37 4).N' (p37 4).C'],44,true⟩,⟨(p52 2).N,#[.bool g3,.slice (p30 4).A (p30 4).N (p30 4).C,.slice (p30 4).A' (p30 4).N' (p30 4).C'],28,true⟩,⟨(p55 4).N,#[.bool g3,.slice (p30 4).A (p30 4).N (p30 4).C,.slice (p30 4).A' (p30 4).N' (p30 4).C'],28,true⟩,⟨(p55 5).N,#[.bool g4,.slice (p37 4).A (p37 4).N (p37 4).C,.slice (p37 4).A' (p37 4).N' (p37 4).C'],28,true⟩]
    replace hG:=hF.gx
    clear hF hK
    have hK:=hJ
    clear hJ
    have z58:=hS.fr.size
    refine then_n (wp_seq ?_)
    refine wq hS hG hK (fun p59=>[.v 179 (.int .i64 c),.v 180 (.bool true),.v 181 (.bool true),.k (some 182),.k (some 183),.k (some 184),.k (some 185),.k (some 186),.k (some 187),.k (some 188),.v 189 (.bool true)]) (fun p59=>[(2,.bool false),(3,.bool true),(5,pT (p5 0).N 0),(23,pT (p52 2).N 0),(24,pT (p55 4).N 0),(25,pT (p55 5).N 0),(189,.bool true)]) (fun p59=>?_) (fun p59 W59 T hF hJ=>?_)
    ·refine okv ?_
     refine okvb (decide_eq_true (show c > 0 by omega)) ?_
     refine okv ?_
     iterate 7 refine okk ?_
     refine okv ?_
     exact ok_nil
    replace hS:=SymF.fd hS hF
    replace hG:=hF.gx
    clear hF hK
    have hK:=hJ
    clear hJ
    have z59:=hS.fr.size
    refine wp_cond_true (hK.ew 189) ?_
    refine wg hS hG hK (fun p60=>[.v 190 (pT (p5 0).N 9),.l 191 (.agg #[.bool g3,.slice (p30 4).A (p30 4).N (p30 4).C,.slice (p30 4).A' (p30 4).N' (p30 4).C']) 1 9,.p 4 0 [.bool g3,.slice (p30 4).A (p30 4).N (p30 4).C,.slice (p30 4).A' (p30 4).N' (p30 4).C']]) (fun p60=>[(2,.bool false),(3,.bool true),(5,pT (p5 0).N 0),(23,pT (p52 2).N 0),(24,pT (p55 4).N 0),(25,pT (p55 5).N 0)]) (fun p60=>?_) (fun p60 W60 T hF hJ=>?_)
    ·refine okv ?_
     refine okl ?_
     refine okp ?_
     exact ok_nil
    replace hS:=SymF.fc hS hF [1,2,3,4] [⟨(p5 0).N,#[.bool g0,.slice (p9 4).A (p9 4).N (p9 4).C,.slice (p9 4).A' (p9 4).N' (p9 4).C',.bool g1,.slice (p16 4).A (p16 4).N (p16 4).C,.slice (p16 4).A' (p16 4).N' (p16 4).C',.bool g2,.slice (p23 4).A (p23 4).N (p23 4).C,.slice (p23 4).A' (p23 4).N' (p23 4).C',.bool g3,.slice (p30 4).A (p30 4).N (p30 4).C,.slice (p30 4).A' (p30 4).N' (p30 4).C',.bool g4,.slice (p37 4).A (p37 4).N (p37 4).C,.slice (p37 4).A' (p37 4).N' (p37 4).C'],44,true⟩,⟨(p52 2).N,#[.bool g3,.slice (p30 4).A (p30 4).N (p30 4).C,.slice (p30 4).A' (p30 4).N' (p30 4).C'],28,true⟩,⟨(p55 4).N,#[.bool g3,.slice (p30 4).A (p30 4).N (p30 4).C,.slice (p30 4).A' (p30 4).N' (p30 4).C'],28,true⟩,⟨(p55 5).N,#[.bool g3,.slice (p30 4).A (p30 4).N (p30 4).C,.slice (p30 4).A' (p30 4).N' (p30 4).C'],28,true⟩]
    replace hG:=hF.gx
    clear hF hK
    have hK:=hJ
    clear hJ
    have z60:=hS.fr.size
    refine then_n ?_
    refine wq hS hG hK (fun p61=>[.v 192 (.bool true),.v 193 (.bool true),.v 194 (pT (p5 0).N 6),.l 195 (.agg #[.bool g2,.slice (p23 4).A (p23 4).N (p23 4).C,.slice (p23 4).A' (p23 4).N' (p23 4).C']) 0 6,.l 196 (.agg #[.bool g3,.slice (p30 4).A (p30 4).N (p30 4).C,.slice (p30 4).A' (p30 4).N' (p30 4).C']) 1 0,.c (some 197) (cV (.bool true)),.v 198 (.bool true),.v 199 (.bool true),.v 200 (pT (p5 0).N 0),.l 201 (.agg #[.bool g0,.slice (p9 4).A (p9 4).N (p9 4).C,.slice (p9 4).A' (p9 4).N' (p9 4).C']) 0 0,.l 202 (.agg #[.bool g3,.slice (p30 4).A (p30 4).N (p30 4).C,.slice (p30 4).A' (p30 4).N' (p30 4).C']) 2 0,.c (some 203) (cV (.bool true)),.v 204 (.bool true),.v 205 (.bool true),.v 206 (pT (p5 0).N 3),.l 207 (.agg #[.bool g1,.slice (p16 4).A (p16 4).N (p16 4).C,.slice (p16 4).A' (p16 4).N' (p16 4).C']) 0 3,.l 208 (.agg #[.bool g3,.slice (p30 4).A (p30 4).N (p30 4).C,.slice (p30 4).A' (p30 4).N' (p30 4).C']) 3 0,.c (some 209) (cV (.bool true)),.v 210 (.bool true),.v 2 (.bool true)]) (fun p61=>[(2,.bool true),(3,.bool true)]) (fun p61=>?_) (fun p61 W61 T hF hJ=>?_)
    ·iterate 3 refine okv ?_
     iterate 2 refine okl ?_
     refine okc (fun W cx=>as_v (unhide HNt rfl _ _ _ (p23 4).C _ _ (p23 4).C' _ _ (p30 4).C _ _ (p30 4).C' cx.fr (Mine.num cx.G.2.2.2.2.2.2.2.2.2.2.2.2.2.2.2.2.2.1) (Mine.num cx.G.2.2.2.2.2.2.2.2.2.2.2.2.2.2.2.2.2.2.1) (Mine.num cx.G.2.2.2.2.2.2.2.2.2.2.2.2.2.2.1) (Mine.num cx.G.2.2.2.2.2.2.2.2.2.2.2.2.2.2.2.1))) ?_
     iterate 3 refine okv ?_
     iterate 2 refine okl ?_
     refine okc (fun W cx=>as_v (unhide HEt rfl _ _ _ (p9 4).C _ _ (p9 4).C' _ _ (p30 4).C _ _ (p30 4).C' cx.fr (Mine.num cx.G.2.2.2.2.2.2.2.2.2.2.2.2.2.2.2.2.2.2.2.2.2.2.2.1) (Mine.num cx.G.2.2.2.2.2.2.2.2.2.2.2.2.2.2.2.2.2.2.2.2.2.2.2.2.1) (Mine.num cx.G.2.2.2.2.2.2.2.2.2.2.2.2.2.2.1) (Mine.num cx.G.2.2.2.2.2.2.2.2.2.2.2.2.2.2.2.1))) ?_
     iterate 3 refine okv ?_
     iterate 2 refine okl ?_
     refine okc (fun W cx=>as_v (unhide HAt rfl _ _ _ (p16 4).C _ _ (p16 4).C' _ _ (p30 4).C _ _ (p30 4).C' cx.fr (Mine.num cx.G.2.2.2.2.2.2.2.2.2.2.2.2.2.2.2.2.2.2.2.2.1) (Mine.num cx.G.2.2.2.2.2.2.2.2.2.2.2.2.2.2.2.2.2.2.2.2.2.1) (Mine.num cx.G.2.2.2.2.2.2.2.2.2.2.2.2.2.2.1) (Mine.num cx.G.2.2.2.2.2.2.2.2.2.2.2.2.2.2.2.1))) ?_
     iterate 2 refine okv ?_
     exact ok_nil
    replace hS:=SymF.fd hS hF
    replace hG:=hF.gx
    clear hF hK
    have hK:=hJ
    clear hJ
    have z61:=hS.fr.size
    refine wp_ret ?_
    exact sym_end hS hK (.bool true) [] [] (by kernel_rfl) (by kernel_rfl) ⟨rfl,hS.fr⟩
  ·obtain rfl:odd = false:=by rw [← hodd,hz1 rfl]; rfl
   refine wq hS hG hK (fun p56=>[.v 151 (pT (p55 4).N 1),.v 152 (pT (p55 4).N 1),.l 153 (.slice (p37 4).A (p37 4).N (p37 4).C) 3 1,.v 154 (.int .i64 ((p37 4).N:Int)),.v 155 (.bool false),.v 156 (.bool false),.k (some 157),.k (some 158),.k (some 159),.k (some 160),.k (some 161),.k (some 162),.k (some 163),.v 164 (.bool false),.v 26 (.bool false)]) (fun p56=>[(1,pT (p1 0).N 0),(2,.bool false),(3,.bool true),(5,pT (p5 0).N 0),(19,.int .i64 c),(21,.bool one),(23,pT (p52 2).N 0),(24,pT (p55 4).N 0),(25,pT (p55 5).N 0),(26,.bool false)]) (fun p56=>?_) (fun p56 W56 T hF hJ=>?_)
   ·iterate 2 refine okv ?_
    refine okl ?_
    refine okv ?_
    refine okvb (decide_eq_false (show ¬ ((p37 4).N:Int) > 0 from len_no (Mine.num hG.2.2.2.2.2.2.2.2.2.2.1) (hz1 rfl))) ?_
    refine okv ?_
    iterate 7 refine okk ?_
    iterate 2 refine okv ?_
    exact ok_nil
   replace hS:=SymF.fd hS hF
   replace hG:=hF.gx
   clear hF hK
   have hK:=hJ
   clear hJ
   have z56:=hS.fr.size
   refine wp_seq ?_
   cases cgt
   ·have hc9:=hcf rfl
    cases ceq
    ·have hq9:=hqf rfl
     refine wq hS hG hK (fun p57=>[.v 165 (.int .i64 c),.v 166 (.bool false),.v 167 (.bool false),.v 168 (.int .i64 c),.v 169 (.bool false),.v 170 (.bool false),.k (some 171),.v 172 (.bool false),.v 173 (.bool false),.k (some 174),.v 175 (.bool false),.v 176 (.bool false)]) (fun p57=>[(1,pT (p1 0).N 0),(2,.bool false),(3,.bool true),(5,pT (p5 0).N 0),(19,.int .i64 c),(23,pT (p52 2).N 0),(24,pT (p55 4).N 0),(25,pT (p55 5).N 0),(176,.bool false)]) (fun p57=>?_) (fun p57 W57 T hF hJ=>?_)
     ·refine okv ?_
      refine okvb (decide_eq_false (show ¬ c > 0 by omega)) ?_
      iterate 2 refine okv ?_
      refine okvb (beq_false_of_ne (show c≠0 by omega)) ?_
      refine okv ?_
      refine okk ?_
      iterate 2 refine okv ?_
      refine okk ?_
      iterate 2 refine okv ?_
      exact ok_nil
     replace hS:=SymF.fd hS hF
     replace hG:=hF.gx
     clear hF hK
     have hK:=hJ
     clear hJ
     have z57:=hS.fr.size
     refine wp_cond_false (hK.ew 176) (wp_skip ?_)
     refine then_n (wp_seq ?_)
     refine wq hS hG hK (fun p58=>[.v 179 (.int .i64 c),.v 180 (.bool false),.v 181 (.bool false),.v 182 (.int .i64 c),.v 183 (.bool false),.v 184 (.bool false),.k (some 185),.k (some 186),.k (some 187),.v 188 (.bool false),.v 189 (.bool false)]) (fun p58=>[(2,.bool false),(3,.bool true),(5,pT (p5 0).N 0),(23,pT (p52 2).N 0),(24,pT (p55 4).N 0),(25,pT (p55 5).N 0),(189,.bool false)]) (fun p58=>?_) (fun p58 W58 T hF hJ=>?_)
     ·refine okv ?_
      refine okvb (decide_eq_false (show ¬ c > 0 by omega)) ?_
      iterate 2 refine okv ?_
      refine okvb (beq_false_of_ne (show c≠0 by omega)) ?_
      refine okv ?_
      iterate 3 refine okk ?_
      iterate 2 refine okv ?_
      exact ok_nil
     replace hS:=SymF.fd hS hF
     replace hG:=hF.gx
     clear hF hK
     have hK:=hJ
     clear hJ
     have z58:=hS.fr.size
     refine wp_cond_false (hK.ew 189) (wp_skip (then_n ?_))
     refine wq hS hG hK (fun p59=>[.v 192 (.bool true),.v 193 (.bool true),.v 194 (pT (p5 0).N 6),.l 195 (.agg #[.bool g2,.slice (p23 4).A (p23 4).N (p23 4).C,.slice (p23 4).A' (p23 4).N' (p23 4).C']) 1 6,.l 196 (.agg #[.bool g3,.slice (p30 4).A (p30 4).N (p30 4).C,.slice (p30 4).A' (p30 4).N' (p30 4).C']) 2 0,.c (some 197) (cV (.bool true)),.v 198 (.bool true),.v 199 (.bool true),.v 200 (pT (p5 0).N 0),.l 201 (.agg #[.bool g0,.slice (p9 4).A (p9 4).N (p9 4).C,.slice (p9 4).A' (p9 4).N' (p9 4).C']) 1 0,.l 202 (.agg #[.bool g4,.slice (p37 4).A (p37 4).N (p37 4).C,.slice (p37 4).A' (p37 4).N' (p37 4).C']) 3 0,.c (some 203) (cV (.bool true)),.v 204 (.bool true),.v 205 (.bool true),.v 206 (pT (p5 0).N 3),.l 207 (.agg #[.bool g1,.slice (p16 4).A (p16 4).N (p16 4).C,.slice (p16 4).A' (p16 4).N' (p16 4).C']) 1 3,.l 208 (.agg #[.bool g4,.slice (p37 4).A (p37 4).N (p37 4).C,.slice (p37 4).A' (p37 4).N' (p37 4).C']) 4 0,.c (some 209) (cV (.bool true)),.v 210 (.bool true),.v 2 (.bool true)]) (fun p59=>[(2,.bool true),(3,.bool true),(5,pT (p5 0).N 0),(24,pT (p55 4).N 0),(25,pT (p55 5).N 0)]) (fun p59=>?_) (fun p59 W59 T hF hJ=>?_)
     ·iterate 3 refine okv ?_
      iterate 2 refine okl ?_
      refine okc (fun W cx=>as_v (unhide HNt rfl _ _ _ (p23 4).C _ _ (p23 4).C' _ _ (p30 4).C _ _ (p30 4).C' cx.fr (Mine.num cx.G.2.2.2.2.2.2.2.2.2.2.2.2.2.2.2.2.1) (Mine.num cx.G.2.2.2.2.2.2.2.2.2.2.2.2.2.2.2.2.2.1) (Mine.num cx.G.2.2.2.2.2.2.2.2.2.2.2.2.2.1) (Mine.num cx.G.2.2.2.2.2.2.2.2.2.2.2.2.2.2.1))) ?_
      iterate 3 refine okv ?_
      iterate 2 refine okl ?_
      refine okc (fun W cx=>as_v (unhide HEf rfl _ _ _ (p9 4).C _ _ (p9 4).C' _ _ (p37 4).C _ _ (p37 4).C' cx.fr (Mine.num cx.G.2.2.2.2.2.2.2.2.2.2.2.2.2.2.2.2.2.2.2.2.2.2.1) (Mine.num cx.G.2.2.2.2.2.2.2.2.2.2.2.2.2.2.2.2.2.2.2.2.2.2.2.1) (Mine.num cx.G.2.2.2.2.2.2.2.2.2.2.1) (Mine.num cx.G.2.2.2.2.2.2.2.2.2.2.2.1))) ?_
      iterate 3 refine okv ?_
      iterate 2 refine okl ?_
      refine okc (fun W cx=>as_v (unhide HAf rfl _ _ _ (p16 4).C _ _ (p16 4).C' _ _ (p37 4).C _ _ (p37 4).C' cx.fr (Mine.num cx.G.2.2.2.2.2.2.2.2.2.2.2.2.2.2.2.2.2.2.2.1) (Mine.num cx.G.2.2.2.2.2.2.2.2.2.2.2.2.2.2.2.2.2.2.2.2.1) (Mine.num cx.G.2.2.2.2.2.2.2.2.2.2.1) (Mine.num cx.G.2.2.2.2.2.2.2.2.2.2.2.1))) ?_
      iterate 2 refine okv ?_
      exact ok_nil
     replace hS:=SymF.fd hS hF
     replace hG:=hF.gx
     clear hF hK
     have hK:=hJ
     clear hJ
     have z59:=hS.fr.size
     refine wp_ret ?_
     exact sym_end hS hK (.bool true) [] [] (by kernel_rfl) (by kernel_rfl) ⟨rfl,hS.fr⟩
    ·have hq9:=hqt rfl
     refine wq hS hG hK (fun p57=>[.v 165 (.int .i64 c),.v 166 (.bool false),.v 167 (.bool false),.v 168 (.int .i64 c),.v 169 (.bool true),.v 170 (.bool true),.v 171 (.bool false),.v 172 (.bool false),.v 173 (.bool false),.k (some 174),.v 175 (.bool false),.v 176 (.bool false)]) (fun p57=>[(1,pT (p1 0).N 0),(2,.bool false),(3,.bool true),(5,pT (p5 0).N 0),(19,.int .i64 c),(23,pT (p52 2).N 0),(24,pT (p55 4).N 0),(25,pT (p55 5).N 0),(176,.bool false)]) (fun p57=>?_) (fun p57 W57 T hF hJ=>?_)
     ·refine okv ?_
      refine okvb (decide_eq_false (show ¬ c > 0 by omega)) ?_
      iterate 2 refine okv ?_
      refine okvb (beq_iff_eq.2 (show c = 0 by omega)) ?_
      iterate 4 refine okv ?_
      refine okk ?_
      iterate 2 refine okv ?_
      exact ok_nil
     replace hS:=SymF.fd hS hF
     replace hG:=hF.gx
     clear hF hK
     have hK:=hJ
     clear hJ
     have z57:=hS.fr.size
     refine wp_cond_false (hK.ew 176) (wp_skip ?_)
     refine then_n (wp_seq ?_)
     refine wq hS hG hK (fun p58=>[.v 179 (.int .i64 c),.v 180 (.bool false),.v 181 (.bool false),.v 182 (.int .i64 c),.v 183 (.bool true),.v 184 (.bool true),.v 185 (pT (p1 0).N 0),.l 186 (.bool true) 0 0,.v 187 (.bool false),.v 188 (.bool false),.v 189 (.bool false)]) (fun p58=>[(2,.bool false),(3,.bool true),(5,pT (p5 0).N 0),(23,pT (p52 2).N 0),(24,pT (p55 4).N 0),(25,pT (p55 5).N 0),(189,.bool false)]) (fun p58=>?_) (fun p58 W58 T hF hJ=>?_)
     ·refine okv ?_
      refine okvb (decide_eq_false (show ¬ c > 0 by omega)) ?_
      iterate 2 refine okv ?_
      refine okvb (beq_iff_eq.2 (show c = 0 by omega)) ?_
      iterate 2 refine okv ?_
      refine okl ?_
      iterate 3 refine okv ?_
      exact ok_nil
     replace hS:=SymF.fd hS hF
     replace hG:=hF.gx
     clear hF hK
     have hK:=hJ
     clear hJ
     have z58:=hS.fr.size
     refine wp_cond_false (hK.ew 189) (wp_skip (then_n ?_))
     refine wq hS hG hK (fun p59=>[.v 192 (.bool true),.v 193 (.bool true),.v 194 (pT (p5 0).N 6),.l 195 (.agg #[.bool g2,.slice (p23 4).A (p23 4).N (p23 4).C,.slice (p23 4).A' (p23 4).N' (p23 4).C']) 1 6,.l 196 (.agg #[.bool g3,.slice (p30 4).A (p30 4).N (p30 4).C,.slice (p30 4).A' (p30 4).N' (p30 4).C']) 2 0,.c (some 197) (cV (.bool true)),.v 198 (.bool true),.v 199 (.bool true),.v 200 (pT (p5 0).N 0),.l 201 (.agg #[.bool g0,.slice (p9 4).A (p9 4).N (p9 4).C,.slice (p9 4).A' (p9 4).N' (p9 4).C']) 1 0,.l 202 (.agg #[.bool g4,.slice (p37 4).A (p37 4).N (p37 4).C,.slice (p37 4).A' (p37 4).N' (p37 4).C']) 3 0,.c (some 203) (cV (.bool true)),.v 204 (.bool true),.v 205 (.bool true),.v 206 (pT (p5 0).N 3),.l 207 (.agg #[.bool g1,.slice (p16 4).A (p16 4).N (p16 4).C,.slice (p16 4).A' (p16 4).N' (p16 4).C']) 1 3,.l 208 (.agg #[.bool g4,.slice (p37 4).A (p37 4).N (p37 4).C,.slice (p37 4).A' (p37 4).N' (p37 4).C']) 4 0,.c (some 209) (cV (.bool true)),.v 210 (.bool true),.v 2 (.bool true)]) (fun p59=>[(2,.bool true),(3,.bool true),(5,pT (p5 0).N 0),(24,pT (p55 4).N 0),(25,pT (p55 5).N 0)]) (fun p59=>?_) (fun p59 W59 T hF hJ=>?_)
     ·iterate 3 refine okv ?_
      iterate 2 refine okl ?_
      refine okc (fun W cx=>as_v (unhide HNt rfl _ _ _ (p23 4).C _ _ (p23 4).C' _ _ (p30 4).C _ _ (p30 4).C' cx.fr (Mine.num cx.G.2.2.2.2.2.2.2.2.2.2.2.2.2.2.2.2.1) (Mine.num cx.G.2.2.2.2.2.2.2.2.2.2.2.2.2.2.2.2.2.1) (Mine.num cx.G.2.2.2.2.2.2.2.2.2.2.2.2.2.1) (Mine.num cx.G.2.2.2.2.2.2.2.2.2.2.2.2.2.2.1))) ?_
      iterate 3 refine okv ?_
      iterate 2 refine okl ?_
      refine okc (fun W cx=>as_v (unhide HEf rfl _ _ _ (p9 4).C _ _ (p9 4).C' _ _ (p37 4).C _ _ (p37 4).C' cx.fr (Mine.num cx.G.2.2.2.2.2.2.2.2.2.2.2.2.2.2.2.2.2.2.2.2.2.2.1) (Mine.num cx.G.2.2.2.2.2.2.2.2.2.2.2.2.2.2.2.2.2.2.2.2.2.2.2.1) (Mine.num cx.G.2.2.2.2.2.2.2.2.2.2.1) (Mine.num cx.G.2.2.2.2.2.2.2.2.2.2.2.1))) ?_
      iterate 3 refine okv ?_
      iterate 2 refine okl ?_
      refine okc (fun W cx=>as_v (unhide HAf rfl _ _ _ (p16 4).C _ _ (p16 4).C' _ _ (p37 4).C _ _ (p37 4).C' cx.fr (Mine.num cx.G.2.2.2.2.2.2.2.2.2.2.2.2.2.2.2.2.2.2.2.1) (Mine.num cx.G.2.2.2.2.2.2.2.2.2.2.2.2.2.2.2.2.2.2.2.2.1) (Mine.num cx.G.2.2.2.2.2.2.2.2.2.2.1) (Mine.num cx.G.2.2.2.2.2.2.2.2.2.2.2.1))) ?_
      iterate 2 refine okv ?_
      exact ok_nil
     replace hS:=SymF.fd hS hF
     replace hG:=hF.gx
     clear hF hK
     have hK:=hJ
     clear hJ
     have z59:=hS.fr.size
     refine wp_ret ?_
     exact sym_end hS hK (.bool true) [] [] (by kernel_rfl) (by kernel_rfl) ⟨rfl,hS.fr⟩
   ·have hc9:=hct rfl
    refine wq hS hG hK (fun p57=>[.v 165 (.int .i64 c),.v 166 (.bool true),.v 167 (.bool true),.k (some 168),.k (some 169),.k (some 170),.k (some 171),.k (some 172),.k (some 173),.k (some 174),.k (some 175),.v 176 (.bool true)]) (fun p57=>[(1,pT (p1 0).N 0),(2,.bool false),(3,.bool true),(5,pT (p5 0).N 0),(19,.int .i64 c),(23,pT (p52 2).N 0),(24,pT (p55 4).N 0),(25,pT (p55 5).N 0),(176,.bool true)]) (fun p57=>?_) (fun p57 W57 T hF hJ=>?_)
    ·refine okv ?_
     refine okvb (decide_eq_true (show c > 0 by omega)) ?_
     refine okv ?_
     iterate 8 refine okk ?_
     refine okv ?_
     exact ok_nil
    replace hS:=SymF.fd hS hF
    replace hG:=hF.gx
    clear hF hK
    have hK:=hJ
    clear hJ
    have z57:=hS.fr.size
    refine wp_cond_true (hK.ew 176) ?_
    refine wg hS hG hK (fun p58=>[.v 177 (pT (p5 0).N 9),.l 178 (.agg #[.bool g3,.slice (p30 4).A (p30 4).N (p30 4).C,.slice (p30 4).A' (p30 4).N' (p30 4).C']) 1 9,.p 3 0 [.bool g3,.slice (p30 4).A (p30 4).N (p30 4).C,.slice (p30 4).A' (p30 4).N' (p30 4).C']]) (fun p58=>[(1,pT (p1 0).N 0),(2,.bool false),(3,.bool true),(5,pT (p5 0).N 0),(19,.int .i64 c),(23,pT (p52 2).N 0),(24,pT (p55 4).N 0),(25,pT (p55 5).N 0)]) (fun p58=>?_) (fun p58 W58 T hF hJ=>?_)
    ·refine okv ?_
     refine okl ?_
     refine okp ?_
     exact ok_nil
    replace hS:=SymF.fc hS hF [0,1,2,3,4] [⟨(p1 0).N,#[.bool true,.slice a1 n1 c1,.slice a2 n2 c2],28,true⟩,⟨(p5 0).N,#[.bool g0,.slice (p9 4).A (p9 4).N (p9 4).C,.slice (p9 4).A' (p9 4).N' (p9 4).C',.bool g1,.slice (p16 4).A (p16 4).N (p16 4).C,.slice (p16 4).A' (p16 4).N' (p16 4).C',.bool g2,.slice (p23 4).A (p23 4).N (p23 4).C,.slice (p23 4).A' (p23 4).N' (p23 4).C',.bool g3,.slice (p30 4).A (p30 4).N (p30 4).C,.slice (p30 4).A' (p30 4).N' (p30 4).C',.bool g4,.slice (p37 4).A (p37 4).N (p37 4).C,.slice (p37 4).A' (p37 4).N' (p37 4).C'],44,true⟩,⟨(p52 2).N,#[.bool g3,.slice (p30 4).A (p30 4).N (p30 4).C,.slice (p30 4).A' (p30 4).N' (p30 4).C'],28,true⟩,⟨(p55 4).N,#[.bool g3,.slice (p30 4).A (p30 4).N (p30 4).C,.slice (p30 4).A' (p30 4).N' (p30 4).C'],28,true⟩,⟨(p55 5).N,#[.bool g4,.slice (p37 4).A (p37 4).N (p37 4).C,.slice (p37 4).A' (p37 4).N' (p37 4).C'],28,true⟩]
    replace hG:=hF.gx
    clear hF hK
    have hK:=hJ
    clear hJ
    have z58:=hS.fr.size
    refine then_n (wp_seq ?_)
    refine wq hS hG hK (fun p59=>[.v 179 (.int .i64 c),.v 180 (.bool true),.v 181 (.bool true),.k (some 182),.k (some 183),.k (some 184),.k (some 185),.k (some 186),.k (some 187),.k (some 188),.v 189 (.bool true)]) (fun p59=>[(2,.bool false),(3,.bool true),(5,pT (p5 0).N 0),(23,pT (p52 2).N 0),(24,pT (p55 4).N 0),(25,pT (p55 5).N 0),(189,.bool true)]) (fun p59=>?_) (fun p59 W59 T hF hJ=>?_)
    ·refine okv ?_
     refine okvb (decide_eq_true (show c > 0 by omega)) ?_
     refine okv ?_
     iterate 7 refine okk ?_
     refine okv ?_
     exact ok_nil
    replace hS:=SymF.fd hS hF
    replace hG:=hF.gx
    clear hF hK
    have hK:=hJ
    clear hJ
    have z59:=hS.fr.size
    refine wp_cond_true (hK.ew 189) ?_
    refine wg hS hG hK (fun p60=>[.v 190 (pT (p5 0).N 9),.l 191 (.agg #[.bool g3,.slice (p30 4).A (p30 4).N (p30 4).C,.slice (p30 4).A' (p30 4).N' (p30 4).C']) 1 9,.p 4 0 [.bool g3,.slice (p30 4).A (p30 4).N (p30 4).C,.slice (p30 4).A' (p30 4).N' (p30 4).C']]) (fun p60=>[(2,.bool false),(3,.bool true),(5,pT (p5 0).N 0),(23,pT (p52 2).N 0),(24,pT (p55 4).N 0),(25,pT (p55 5).N 0)]) (fun p60=>?_) (fun p60 W60 T hF hJ=>?_)
    ·refine okv ?_
     refine okl ?_
     refine okp ?_
     exact ok_nil
    replace hS:=SymF.fc hS hF [1,2,3,4] [⟨(p5 0).N,#[.bool g0,.slice (p9 4).A (p9 4).N (p9 4).C,.slice (p9 4).A' (p9 4).N' (p9 4).C',.bool g1,.slice (p16 4).A (p16 4).N (p16 4).C,.slice (p16 4).A' (p16 4).N' (p16 4).C',.bool g2,.slice (p23 4).A (p23 4).N (p23 4).C,.slice (p23 4).A' (p23 4).N' (p23 4).C',.bool g3,.slice (p30 4).A (p30 4).N (p30 4).C,.slice (p30 4).A' (p30 4).N' (p30 4).C',.bool g4,.slice (p37 4).A (p37 4).N (p37 4).C,.slice (p37 4).A' (p37 4).N' (p37 4).C'],44,true⟩,⟨(p52 2).N,#[.bool g3,.slice (p30 4).A (p30 4).N (p30 4).C,.slice (p30 4).A' (p30 4).N' (p30 4).C'],28,true⟩,⟨(p55 4).N,#[.bool g3,.slice (p30 4).A (p30 4).N (p30 4).C,.slice (p30 4).A' (p30 4).N' (p30 4).C'],28,true⟩,⟨(p55 5).N,#[.bool g3,.slice (p30 4).A (p30 4).N (p30 4).C,.slice (p30 4).A' (p30 4).N' (p30 4).C'],28,true⟩]
    replace hG:=hF.gx
    clear hF hK
    have hK:=hJ
    clear hJ
    have z60:=hS.fr.size
    refine then_n ?_
    refine wq hS hG hK (fun p61=>[.v 192 (.bool true),.v 193 (.bool true),.v 194 (pT (p5 0).N 6),.l 195 (.agg #[.bool g2,.slice (p23 4).A (p23 4).N (p23 4).C,.slice (p23 4).A' (p23 4).N' (p23 4).C']) 0 6,.l 196 (.agg #[.bool g3,.slice (p30 4).A (p30 4).N (p30 4).C,.slice (p30 4).A' (p30 4).N' (p30 4).C']) 1 0,.c (some 197) (cV (.bool true)),.v 198 (.bool true),.v 199 (.bool true),.v 200 (pT (p5 0).N 0),.l 201 (.agg #[.bool g0,.slice (p9 4).A (p9 4).N (p9 4).C,.slice (p9 4).A' (p9 4).N' (p9 4).C']) 0 0,.l 202 (.agg #[.bool g3,.slice (p30 4).A (p30 4).N (p30 4).C,.slice (p30 4).A' (p30 4).N' (p30 4).C']) 2 0,.c (some 203) (cV (.bool true)),.v 204 (.bool true),.v 205 (.bool true),.v 206 (pT (p5 0).N 3),.l 207 (.agg #[.bool g1,.slice (p16 4).A (p16 4).N (p16 4).C,.slice (p16 4).A' (p16 4).N' (p16 4).C']) 0 3,.l 208 (.agg #[.bool g3,.slice (p30 4).A (p30 4).N (p30 4).C,.slice (p30 4).A' (p30 4).N' (p30 4).C']) 3 0,.c (some 209) (cV (.bool true)),.v 210 (.bool true),.v 2 (.bool true)]) (fun p61=>[(2,.bool true),(3,.bool true)]) (fun p61=>?_) (fun p61 W61 T hF hJ=>?_)
    ·iterate 3 refine okv ?_
     iterate 2 refine okl ?_
     refine okc (fun W cx=>as_v (unhide HNt rfl _ _ _ (p23 4).C _ _ (p23 4).C' _ _ (p30 4).C _ _ (p30 4).C' cx.fr (Mine.num cx.G.2.2.2.2.2.2.2.2.2.2.2.2.2.2.2.2.1) (Mine.num cx.G.2.2.2.2.2.2.2.2.2.2.2.2.2.2.2.2.2.1) (Mine.num cx.G.2.2.2.2.2.2.2.2.2.2.2.2.2.1) (Mine.num cx.G.2.2.2.2.2.2.2.2.2.2.2.2.2.2.1))) ?_
     iterate 3 refine okv ?_
     iterate 2 refine okl ?_
     refine okc (fun W cx=>as_v (unhide HEt rfl _ _ _ (p9 4).C _ _ (p9 4).C' _ _ (p30 4).C _ _ (p30 4).C' cx.fr (Mine.num cx.G.2.2.2.2.2.2.2.2.2.2.2.2.2.2.2.2.2.2.2.2.2.2.1) (Mine.num cx.G.2.2.2.2.2.2.2.2.2.2.2.2.2.2.2.2.2.2.2.2.2.2.2.1) (Mine.num cx.G.2.2.2.2.2.2.2.2.2.2.2.2.2.1) (Mine.num cx.G.2.2.2.2.2.2.2.2.2.2.2.2.2.2.1))) ?_
     iterate 3 refine okv ?_
     iterate 2 refine okl ?_
     refine okc (fun W cx=>as_v (unhide HAt rfl _ _ _ (p16 4).C _ _ (p16 4).C' _ _ (p30 4).C _ _ (p30 4).C' cx.fr (Mine.num cx.G.2.2.2.2.2.2.2.2.2.2.2.2.2.2.2.2.2.2.2.1) (Mine.num cx.G.2.2.2.2.2.2.2.2.2.2.2.2.2.2.2.2.2.2.2.2.1) (Mine.num cx.G.2.2.2.2.2.2.2.2.2.2.2.2.2.1) (Mine.num cx.G.2.2.2.2.2.2.2.2.2.2.2.2.2.2.1))) ?_
     iterate 2 refine okv ?_
     exact ok_nil
    replace hS:=SymF.fd hS hF
    replace hG:=hF.gx
    clear hF hK
    have hK:=hJ
    clear hJ
    have z61:=hS.fr.size
    refine wp_ret ?_
    exact sym_end hS hK (.bool true) [] [] (by kernel_rfl) (by kernel_rfl) ⟨rfl,hS.fr⟩
end Go.Proofs.YtfjegmlpkiaifaaGreatDoor
