/- Of what QuickThereRow stands on: DcMakeW QkW QkW2 DcChkW DcRndW DcMakesLaw DcRndL DcCmpW DcAddW DcBig. -/
import Derived.Test.YtdekhacomggpgaaGreatDoorPaj
import Derived.Test.YtdekhacomggpgaaGreatDoorPak
import Derived.Test.YtdekhacomggpgaaGreatDoorPai
import Derived.ChangeKeysEq
import Derived.Test.YtdekhacomggpgaaGreatDoorPab
namespace Go.Proofs.YtdekhacomggpgaaGreatDoor
open Go.RowKit
set_option maxHeartbeats 2000000
set_option maxRecDepth 20000
theorem Tryz.under_str:Tryz.prog.underlying 9 = some .string:=by kernel_rfl
theorem wrQ {x:Int} (h1:0≤x) (h2:x < 18446744073709551616):IntKind.u64.wrap x = x:=by rw [IntKind.wrap_u64]; omega
theorem wrQ8 {x:Int} (h1:0≤x) (h2:x < 256):IntKind.u8.wrap x = x:=by rw [IntKind.wrap_u8]; omega
theorem qnum_ok (w:World) (s:ByteArray) (c nv:Nat→Nat) (hl:s.size≤19) (h2:∀ j (h:j < s.size),(s[j]'h).toNat = c j) (hv:∀ j,j < s.size→48≤c j∧c j≤57) (hb0:nv 0 = 0) (hbs:∀ j,j < s.size→nv (j+1) = nv j * 10+(c j - 48)) (hbb:∀ j,j≤s.size→nv j < 18446744073709551616) :
  Calls Tryz.prog 33 #[.string s] w fun en w'=>en = .returned (.tuple #[.int .u64 ((nv (s.size - 0):Nat):Int),.bool true])∧Below w.heap.size w w':=by
 obtain ⟨k,hkz⟩:∃ k,k = s.size:=⟨_,rfl⟩
 have hkn:k≤s.size:=by omega
 refine calls_sym Tryz.func33 rfl (by kernel_rfl) fun T hK=>?_
 replace hK:Kn T _ [(0,.string s)]:=hK
 have hS:=Fb.begin w
 have hG:GsAt [] w:=trivial
 refine wp_symQ hS hG hK (fun p1=>[.v 2 (.int .u64 0),.v 3 (.bool false)]) (fun p1=>[(0,.string s),(2,.int .u64 0),(3,.bool false)]) (by kernel_rfl) (fun _ _=>by kernel_rfl) (fun _=>by kernel_rfl) (fun _=>by kernel_rfl) (fun p1=>?_) (fun p1 W1 T hF hK=>?_)
 ·iterate 2 refine ok_v (by kernel_rfl) ?_
  exact ok_nil
 replace hS:=SymF.fb hS hF [] [] (by kernel_rfl) (by kernel_rfl)
 replace hG:=hF.gx
 clear hF
 have z1:=hS.fr.size
 refine wp_seq ?_
 refine wp_symQ hS hG hK (fun p2=>[.v 7 (.string s),.v 8 (.int .i64 (s.size:Int)),.v 9 (.bool false)]) (fun p2=>[(0,.string s),(2,.int .u64 0),(3,.bool false),(9,.bool false)]) (by kernel_rfl) (fun _ _=>by kernel_rfl) (fun _=>by kernel_rfl) (fun _=>by kernel_rfl) (fun p2=>?_) (fun p2 W2 T hF hK=>?_)
 ·iterate 2 refine ok_v (by kernel_rfl) ?_
  refine ok_vb (decide_eq_false (show ¬ (s.size:Int) > 19 by omega)) (by kernel_rfl) ?_
  exact ok_nil
 replace hS:=SymF.fb hS hF [] [] (by kernel_rfl) (by kernel_rfl)
 replace hG:=hF.gx
 clear hF
 have z2:=hS.fr.size
 refine wp_cond_false (hK.ev 9 (by kernel_rfl) _ (by kernel_rfl)) ?_
 refine wp_skip ?_
 refine then_n ?_
 refine wp_symQ hS hG hK (fun p3=>[.v 4 (.int .u64 0)]) (fun p3=>[(0,.string s),(2,.int .u64 0),(3,.bool false),(4,.int .u64 0),(9,.bool false)]) (by kernel_rfl) (fun _ _=>by kernel_rfl) (fun _=>by kernel_rfl) (fun _=>by kernel_rfl) (fun p3=>?_) (fun p3 W3 T hF hK=>?_)
 ·refine ok_v (by kernel_rfl) ?_
  exact ok_nil
 replace hS:=SymF.fb hS hF [] [] (by kernel_rfl) (by kernel_rfl)
 replace hG:=hF.gx
 clear hF
 have z3:=hS.fr.size
 refine wp_seq ?_
 refine wp_symQ hS hG hK (fun p4=>[.v 10 (.string s),.v 11 (.int .i64 (s.size:Int)),.v 12 (.int .i64 0)]) (fun p4=>[(0,.string s),(2,.int .u64 0),(3,.bool false),(4,.int .u64 0),(9,.bool false),(11,.int .i64 (s.size:Int)),(12,.int .i64 0)]) (by kernel_rfl) (fun _ _=>by kernel_rfl) (fun _=>by kernel_rfl) (fun _=>by kernel_rfl) (fun p4=>?_) (fun p4 W4 T hF hK=>?_)
 ·iterate 3 refine ok_v (by kernel_rfl) ?_
  exact ok_nil
 replace hS:=SymF.fb hS hF [] [] (by kernel_rfl) (by kernel_rfl)
 replace hG:=hF.gx
 clear hF
 have z4:=hS.fr.size
 refine wp_block ?_
 replace hK:Kn T _ [(0,.string s),(4,.int .u64 0),(11,.int .i64 (s.size:Int)),(12,.int .i64 0)]:=kn_out (ds:=[]) hK rfl rfl _ (by kernel_rfl) (by kernel_rfl)
 have h4:Value.int .u64 0 = .int .u64 ((nv (s.size - k):Nat):Int):=by rw [hkz,Nat.sub_self,hb0]; rfl
 have h12:Value.int .i64 0 = .int .i64 ((s.size - k:Nat):Int):=by rw [hkz,Nat.sub_self]; rfl
 rw [h4,h12] at hK
 clear h4 h12 hkz
 refine wp_loop_rounds (k+1) ?_
 clear z4
 induction k generalizing T W4 with
 | succ k ih=>
  have z4:=hS.fr.size
  have hj:=hbs (s.size - (k+1)) (by omega)
  have hj1:s.size - (k+1)+1 = s.size - k:=by omega
  rw [hj1] at hj
  have hv1:=hv (s.size - (k+1)) (by omega)
  have hb1:=hbb (s.size - k) (by omega)
  have hix:script Tryz.prog 0 (Instr.index 9 (.string s) (.int .i64 ((s.size - (k+1):Nat):Int))) [] = some (.int .u8 ((c (s.size - (k+1)):Nat):Int),[]):=script_index (j:=s.size - (k+1)) Tryz.under_str rfl (by omega) (h2 _ _)
  refine rounds_s ?_
  refine wp_symQ hS hG hK (fun p5=>[.v 13 (.bool true)]) (fun p5=>[(0,.string s),(4,.int .u64 ((nv (s.size - (k+1)):Nat):Int)),(11,.int .i64 (s.size:Int)),(12,.int .i64 ((s.size - (k+1):Nat):Int)),(13,.bool true)]) (by kernel_rfl) (fun _ _=>by kernel_rfl) (fun _=>by kernel_rfl) (fun _=>by kernel_rfl) (fun p5=>?_) (fun p5 W5 T hF hK=>?_)
  ·refine ok_vb (decide_eq_true (show ((s.size - (k+1):Nat):Int) < (s.size:Int) by omega)) (by kernel_rfl) ?_
   exact ok_nil
  replace hS:=SymF.fb hS hF [] [] (by kernel_rfl) (by kernel_rfl)
  replace hG:=hF.gx
  clear hF
  have z5:=hS.fr.size
  refine wp_seq ?_
  refine wp_cond_true (hK.ev 13 (by kernel_rfl) _ (by kernel_rfl)) ?_
  refine wp_skip ?_
  refine then_n ?_
  refine wp_seq ?_
  refine wp_block ?_
  refine wp_symQ hS hG hK (fun p6=>[.v 14 (.int .i64 ((s.size - (k+1):Nat):Int)),.v 5 (.int .i64 ((s.size - (k+1):Nat):Int))]) (fun p6=>[(0,.string s),(4,.int .u64 ((nv (s.size - (k+1)):Nat):Int)),(5,.int .i64 ((s.size - (k+1):Nat):Int)),(11,.int .i64 (s.size:Int)),(12,.int .i64 ((s.size - (k+1):Nat):Int)),(13,.bool true),(14,.int .i64 ((s.size - (k+1):Nat):Int))]) (by kernel_rfl) (fun _ _=>by kernel_rfl) (fun _=>by kernel_rfl) (fun _=>by kernel_rfl) (fun p6=>?_) (fun p6 W6 T hF hK=>?_)
  ·iterate 2 refine ok_v (by kernel_rfl) ?_
   exact ok_nil
  replace hS:=SymF.fb hS hF [] [] (by kernel_rfl) (by kernel_rfl)
  replace hG:=hF.gx
  clear hF
  have z6:=hS.fr.size
  refine wp_symQ hS hG hK (fun p7=>[.v 15 (.string s),.v 16 (.int .i64 ((s.size - (k+1):Nat):Int)),.v 17 (.int .u8 ((c (s.size - (k+1)):Nat):Int)),.v 6 (.int .u8 ((c (s.size - (k+1)):Nat):Int))]) (fun p7=>[(0,.string s),(4,.int .u64 ((nv (s.size - (k+1)):Nat):Int)),(5,.int .i64 ((s.size - (k+1):Nat):Int)),(6,.int .u8 ((c (s.size - (k+1)):Nat):Int)),(11,.int .i64 (s.size:Int)),(12,.int .i64 ((s.size - (k+1):Nat):Int)),(13,.bool true),(14,.int .i64 ((s.size - (k+1):Nat):Int)),(15,.string s),(16,.int .i64 ((s.size - (k+1):Nat):Int)),(17,.int .u8 ((c (s.size - (k+1)):Nat):Int))]) (by kernel_rfl) (fun _ _=>by kernel_rfl) (fun _=>by kernel_rfl) (fun _=>by kernel_rfl) (fun p7=>?_) (fun p7 W7 T hF hK=>?_)
  ·iterate 2 refine ok_v (by kernel_rfl) ?_
   refine ok_vr (hix) (by kernel_rfl) ?_
   refine ok_v (by kernel_rfl) ?_
   exact ok_nil
  replace hS:=SymF.fb hS hF [] [] (by kernel_rfl) (by kernel_rfl)
  replace hG:=hF.gx
  clear hF
  have z7:=hS.fr.size
  refine wp_seq ?_
  refine wp_symQ hS hG hK (fun p8=>[.v 18 (.int .u8 ((c (s.size - (k+1)):Nat):Int)),.v 19 (.bool false),.v 20 (.bool false),.v 21 (.int .u8 ((c (s.size - (k+1)):Nat):Int)),.v 22 (.bool false),.v 23 (.bool false)]) (fun p8=>[(0,.string s),(4,.int .u64 ((nv (s.size - (k+1)):Nat):Int)),(5,.int .i64 ((s.size - (k+1):Nat):Int)),(6,.int .u8 ((c (s.size - (k+1)):Nat):Int)),(11,.int .i64 (s.size:Int)),(12,.int .i64 ((s.size - (k+1):Nat):Int)),(13,.bool true),(14,.int .i64 ((s.size - (k+1):Nat):Int)),(15,.string s),(16,.int .i64 ((s.size - (k+1):Nat):Int)),(17,.int .u8 ((c (s.size - (k+1)):Nat):Int)),(18,.int .u8 ((c (s.size - (k+1)):Nat):Int)),(19,.bool false),(20,.bool false),(21,.int .u8 ((c (s.size - (k+1)):Nat):Int)),(22,.bool false),(23,.bool false)]) (by kernel_rfl) (fun _ _=>by kernel_rfl) (fun _=>by kernel_rfl) (fun _=>by kernel_rfl) (fun p8=>?_) (fun p8 W8 T hF hK=>?_)
  ·refine ok_v (by kernel_rfl) ?_
   refine ok_vb (decide_eq_false (show ¬ ((c (s.size - (k+1)):Nat):Int) < 48 by omega)) (by kernel_rfl) ?_
   iterate 2 refine ok_v (by kernel_rfl) ?_
   refine ok_vb (decide_eq_false (show ¬ ((c (s.size - (k+1)):Nat):Int) > 57 by omega)) (by kernel_rfl) ?_
   refine ok_v (by kernel_rfl) ?_
   exact ok_nil
  replace hS:=SymF.fb hS hF [] [] (by kernel_rfl) (by kernel_rfl)
  replace hG:=hF.gx
  clear hF
  have z8:=hS.fr.size
  refine wp_cond_false (hK.ev 23 (by kernel_rfl) _ (by kernel_rfl)) ?_
  refine wp_skip ?_
  refine then_n ?_
  refine wp_symG hS hG hK (fun p9=>[.v 24 (.int .u64 ((nv (s.size - (k+1)):Nat):Int)),.v 25 (.int .u64 (10 * ((nv (s.size - (k+1)):Nat):Int))),.v 26 (.int .u8 ((c (s.size - (k+1)):Nat):Int)),.v 27 (.int .u8 (((c (s.size - (k+1)):Nat):Int) - 48)),.v 28 (.int .u64 (((c (s.size - (k+1)):Nat):Int) - 48)),.v 29 (.int .u64 ((nv (s.size - k):Nat):Int)),.v 4 (.int .u64 ((nv (s.size - k):Nat):Int))]) (fun p9=>[(0,.string s),(4,.int .u64 ((nv (s.size - k):Nat):Int)),(5,.int .i64 ((s.size - (k+1):Nat):Int)),(6,.int .u8 ((c (s.size - (k+1)):Nat):Int)),(11,.int .i64 (s.size:Int)),(12,.int .i64 ((s.size - (k+1):Nat):Int)),(13,.bool true),(14,.int .i64 ((s.size - (k+1):Nat):Int)),(15,.string s),(16,.int .i64 ((s.size - (k+1):Nat):Int)),(17,.int .u8 ((c (s.size - (k+1)):Nat):Int)),(18,.int .u8 ((c (s.size - (k+1)):Nat):Int)),(19,.bool false),(20,.bool false),(21,.int .u8 ((c (s.size - (k+1)):Nat):Int)),(22,.bool false),(23,.bool false),(24,.int .u64 ((nv (s.size - (k+1)):Nat):Int)),(25,.int .u64 (10 * ((nv (s.size - (k+1)):Nat):Int))),(26,.int .u8 ((c (s.size - (k+1)):Nat):Int)),(27,.int .u8 (((c (s.size - (k+1)):Nat):Int) - 48)),(28,.int .u64 (((c (s.size - (k+1)):Nat):Int) - 48)),(29,.int .u64 ((nv (s.size - k):Nat):Int))]) (by kernel_rfl) (fun _ _=>by kernel_rfl) (fun _=>by kernel_rfl) (fun _=>by kernel_rfl) (fun p9=>?_) (fun p9 W9 T hF hK=>?_)
  ·refine ok_v (by kernel_rfl) ?_
   refine ok_vi (wrQ (x:=10 * ((nv (s.size - (k+1)):Nat):Int)) (by omega) (by omega)) (by kernel_rfl) ?_
   refine ok_v (by kernel_rfl) ?_
   refine ok_vi (wrQ8 (x:=((c (s.size - (k+1)):Nat):Int) - 48) (by omega) (by omega)) (by kernel_rfl) ?_
   refine ok_vi (wrQ (x:=((c (s.size - (k+1)):Nat):Int) - 48) (by omega) (by omega)) (by kernel_rfl) ?_
   refine ok_vi ((wrQ (x:=10 * ((nv (s.size - (k+1)):Nat):Int)+(((c (s.size - (k+1)):Nat):Int) - 48)) (by omega) (by omega)).trans (by omega)) (by kernel_rfl) ?_
   refine ok_v (by kernel_rfl) ?_
   exact ok_nil
  replace hS:=SymF.fb hS hF [] [] (by kernel_rfl) (by kernel_rfl)
  replace hG:=hF.gx
  clear hF
  have z9:=hS.fr.size
  refine inb_n ?_
  refine then_n ?_
  refine wp_symG hS hG hK (fun p10=>[.v 30 (.int .i64 ((s.size - k:Nat):Int)),.v 12 (.int .i64 ((s.size - k:Nat):Int))]) (fun p10=>[(0,.string s),(4,.int .u64 ((nv (s.size - k):Nat):Int)),(5,.int .i64 ((s.size - (k+1):Nat):Int)),(6,.int .u8 ((c (s.size - (k+1)):Nat):Int)),(11,.int .i64 (s.size:Int)),(12,.int .i64 ((s.size - k:Nat):Int)),(13,.bool true),(14,.int .i64 ((s.size - (k+1):Nat):Int)),(15,.string s),(16,.int .i64 ((s.size - (k+1):Nat):Int)),(17,.int .u8 ((c (s.size - (k+1)):Nat):Int)),(18,.int .u8 ((c (s.size - (k+1)):Nat):Int)),(19,.bool false),(20,.bool false),(21,.int .u8 ((c (s.size - (k+1)):Nat):Int)),(22,.bool false),(23,.bool false),(24,.int .u64 ((nv (s.size - (k+1)):Nat):Int)),(25,.int .u64 (10 * ((nv (s.size - (k+1)):Nat):Int))),(26,.int .u8 ((c (s.size - (k+1)):Nat):Int)),(27,.int .u8 (((c (s.size - (k+1)):Nat):Int) - 48)),(28,.int .u64 (((c (s.size - (k+1)):Nat):Int) - 48)),(29,.int .u64 ((nv (s.size - k):Nat):Int)),(30,.int .i64 ((s.size - k:Nat):Int))]) (by kernel_rfl) (fun _ _=>by kernel_rfl) (fun _=>by kernel_rfl) (fun _=>by kernel_rfl) (fun p10=>?_) (fun p10 W10 T hF hK=>?_)
  ·refine ok_vi ((wr64 (x:=((s.size - (k+1):Nat):Int)+1) (by omega) (by omega)).trans (by omega)) (by kernel_rfl) ?_
   refine ok_v (by kernel_rfl) ?_
   exact ok_nil
  replace hS:=SymF.fb hS hF [] [] (by kernel_rfl) (by kernel_rfl)
  replace hG:=hF.gx
  clear hF
  have z10:=hS.fr.size
  refine then_n ?_
  replace hK:Kn T _ [(0,.string s),(4,.int .u64 ((nv (s.size - k):Nat):Int)),(11,.int .i64 (s.size:Int)),(12,.int .i64 ((s.size - k:Nat):Int))]:=kn_out (ds:=[]) hK rfl rfl _ (by kernel_rfl) (by kernel_rfl)
  refine ih ?_ _ _ ?_ ?_ ?_ <;> first|assumption|omega
 | zero=>
  have z4:=hS.fr.size
  refine rounds_s ?_
  refine wp_symQ hS hG hK (fun p11=>[.v 13 (.bool false)]) (fun p11=>[(0,.string s),(4,.int .u64 ((nv (s.size - 0):Nat):Int)),(11,.int .i64 (s.size:Int)),(12,.int .i64 ((s.size - 0:Nat):Int)),(13,.bool false)]) (by kernel_rfl) (fun _ _=>by kernel_rfl) (fun _=>by kernel_rfl) (fun _=>by kernel_rfl) (fun p11=>?_) (fun p11 W11 T hF hK=>?_)
  ·refine ok_vb (decide_eq_false (show ¬ ((s.size - 0:Nat):Int) < (s.size:Int) by omega)) (by kernel_rfl) ?_
   exact ok_nil
  replace hS:=SymF.fb hS hF [] [] (by kernel_rfl) (by kernel_rfl)
  replace hG:=hF.gx
  clear hF
  have z11:=hS.fr.size
  refine wp_seq ?_
  refine wp_cond_false (hK.ev 13 (by kernel_rfl) _ (by kernel_rfl)) ?_
  refine wp_exit ?_
  refine then_x ?_
  refine then_x ?_
  refine inb_x ?_
  refine then_n ?_
  refine wp_symQ hS hG hK (fun p12=>[.v 31 (.int .u64 ((nv (s.size - 0):Nat):Int)),.v 2 (.int .u64 ((nv (s.size - 0):Nat):Int)),.v 3 (.bool true)]) (fun p12=>[(0,.string s),(2,.int .u64 ((nv (s.size - 0):Nat):Int)),(3,.bool true),(4,.int .u64 ((nv (s.size - 0):Nat):Int)),(12,.int .i64 ((s.size - 0:Nat):Int)),(13,.bool false)]) (by kernel_rfl) (fun _ _=>by kernel_rfl) (fun _=>by kernel_rfl) (fun _=>by kernel_rfl) (fun p12=>?_) (fun p12 W12 T hF hK=>?_)
  ·iterate 3 refine ok_v (by kernel_rfl) ?_
   exact ok_nil
  replace hS:=SymF.fb hS hF [] [] (by kernel_rfl) (by kernel_rfl)
  replace hG:=hF.gx
  clear hF
  have z12:=hS.fr.size
  refine wp_ret ?_
  exact sym_end hS hK (.tuple #[.int .u64 ((nv (s.size - 0):Nat):Int),.bool true]) [] [] (by kernel_rfl) (by kernel_rfl) ⟨rfl,hS.fr⟩
theorem qnear64 (w:World) (n:Nat)  :
  Calls Tryz.prog 34 #[.int .u64 (n:Int)] w fun en w'=>en = .returned (.float .f64 (floatOfInt .f64 (n:Int)))∧Below w.heap.size w w':=by
 refine calls_sym Tryz.func34 rfl (by kernel_rfl) fun T hK=>?_
 replace hK:Kn T _ [(0,.int .u64 (n:Int))]:=hK
 have hS:=Fb.begin w
 have hG:GsAt [] w:=trivial
 refine wp_symQ hS hG hK (fun p1=>[.v 2 (.float FloatKind.f64 0)]) (fun p1=>[(0,.int .u64 (n:Int)),(2,.float FloatKind.f64 0)]) (by kernel_rfl) (fun _ _=>by kernel_rfl) (fun _=>by kernel_rfl) (fun _=>by kernel_rfl) (fun p1=>?_) (fun p1 W1 T hF hK=>?_)
 ·refine ok_v (by kernel_rfl) ?_
  exact ok_nil
 replace hS:=SymF.fb hS hF [] [] (by kernel_rfl) (by kernel_rfl)
 replace hG:=hF.gx
 clear hF
 have z1:=hS.fr.size
 refine wp_symQ hS hG hK (fun p2=>[.v 3 (.int .u64 (n:Int)),.v 4 (.float .f64 (floatOfInt .f64 (n:Int))),.v 2 (.float .f64 (floatOfInt .f64 (n:Int)))]) (fun p2=>[(2,.float .f64 (floatOfInt .f64 (n:Int)))]) (by kernel_rfl) (fun _ _=>by kernel_rfl) (fun _=>by kernel_rfl) (fun _=>by kernel_rfl) (fun p2=>?_) (fun p2 W2 T hF hK=>?_)
 ·iterate 3 refine ok_v (by kernel_rfl) ?_
  exact ok_nil
 replace hS:=SymF.fb hS hF [] [] (by kernel_rfl) (by kernel_rfl)
 replace hG:=hF.gx
 clear hF
 have z2:=hS.fr.size
 refine wp_ret ?_
 exact sym_end hS hK (.float .f64 (floatOfInt .f64 (n:Int))) [] [] (by kernel_rfl) (by kernel_rfl) ⟨rfl,hS.fr⟩
def dg (s:ByteArray) (k:Nat):Int:=if h:k < s.size then ((s[k]'h).toNat:Int) - 48 else 0
def Fd (s s2:ByteArray) (c:Int):Prop:=(c = 0∧∀ k,dg s k = dg s2 k)∨∃ k,(∀ j,j < k→dg s j = dg s2 j)∧((dg s k < dg s2 k∧c = -1)∨(dg s2 k < dg s k∧c = 1))
theorem Fd.lt {s s2:ByteArray} {c:Int} (h:Fd s s2 c) {k:Nat} (hj:∀ j,j < k→dg s j = dg s2 j) (hk:dg s k < dg s2 k):c = -1:=by
 rcases h with ⟨_,h⟩|⟨i,hi,h⟩
 ·have:=h k; omega
 ·by_cases h1:i < k
  ·have:=hj i h1; omega
  ·by_cases h2:k < i
   ·have:=hi k h2; omega
   ·have:i = k:=by omega
    subst this
    omega
theorem Fd.eq {s s2:ByteArray} {c:Int} (h:Fd s s2 c) (hj:∀ j,dg s j = dg s2 j):c = 0:=by
 rcases h with ⟨h,_⟩|⟨i,_,h⟩
 ·exact h
 ·have:=hj i; omega
end Go.Proofs.YtdekhacomggpgaaGreatDoor
