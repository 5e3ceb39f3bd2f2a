/- Of what QuickRightRow stands on: DcMakeW QkW QkW2 DcChkW DcRndW DcMakesLaw DcRndL DcCmpW DcAddW DcBig. -/
import Derived.Test.YtdekhacomggpgaaGreatDoorPam
import Derived.Test.YtdekhacomggpgaaGreatDoorPan
import Derived.Test.YtdekhacomggpgaaGreatDoorPaf
import Derived.ChangeKeysEq
import Derived.Test.YtdekhacomggpgaaGreatDoorPab
namespace Go.Proofs.YtdekhacomggpgaaGreatDoor
open Go.RowKit
set_option maxHeartbeats 2000000
set_option maxRecDepth 20000
theorem Tryz.under_str:Tryz.prog.underlying 9 = some .string:=by kernel_rfl
theorem wrQ {x:Int} (h1:0≤x) (h2:x < 18446744073709551616):IntKind.u64.wrap x = x:=by rw [IntKind.wrap_u64]; omega
theorem wrQ8 {x:Int} (h1:0≤x) (h2:x < 256):IntKind.u8.wrap x = x:=by rw [IntKind.wrap_u8]; omega
theorem script_mul {P:Program} {r:Nat} {t:TypeId} {k:FloatKind} {x y z:Nat} (h:k.format.mul x y = some z):script P r (binOp .mul t (.float k x) (.float k y)) [] = some (.float k z,[]):=by
 simp only [binOp,Op.floatArith,h]; rw [if_neg (fun hk=>hk rfl)]; rfl
theorem script_quo {P:Program} {r:Nat} {t:TypeId} {k:FloatKind} {x y z:Nat} (h:k.format.div x y = some z):script P r (binOp .quo t (.float k x) (.float k y)) [] = some (.float k z,[]):=by
 simp only [binOp,Op.floatArith,h]; rw [if_neg (fun hk=>hk rfl)]; rfl
theorem qnum_long (w:World) (s:ByteArray) (hl:19 < s.size) :
  Calls Tryz.prog 33 #[.string s] w fun en w'=>en = .returned (.tuple #[.int .u64 0,.bool false])∧Below w.heap.size w w':=by
 refine calls_sym Tryz.func33 rfl (by kernel_rfl) fun T hK=>?_
 replace hK:Kn T _ [(0,.string s)]:=hK
 have hS:=Fb.begin w
 have hG:GsAt [] w:=trivial
 refine wp_symQ hS hG hK (fun p1=>[.v 2 (.int .u64 0),.v 3 (.bool false)]) (fun p1=>[(0,.string s),(2,.int .u64 0),(3,.bool false)]) (by kernel_rfl) (fun _ _=>by kernel_rfl) (fun _=>by kernel_rfl) (fun _=>by kernel_rfl) (fun p1=>?_) (fun p1 W1 T hF hK=>?_)
 ·iterate 2 refine ok_v (by kernel_rfl) ?_
  exact ok_nil
 replace hS:=SymF.fb hS hF [] [] (by kernel_rfl) (by kernel_rfl)
 replace hG:=hF.gx
 clear hF
 have z1:=hS.fr.size
 refine wp_seq ?_
 refine wp_symQ hS hG hK (fun p2=>[.v 7 (.string s),.v 8 (.int .i64 (s.size:Int)),.v 9 (.bool true)]) (fun p2=>[(0,.string s),(2,.int .u64 0),(3,.bool false),(9,.bool true)]) (by kernel_rfl) (fun _ _=>by kernel_rfl) (fun _=>by kernel_rfl) (fun _=>by kernel_rfl) (fun p2=>?_) (fun p2 W2 T hF hK=>?_)
 ·iterate 2 refine ok_v (by kernel_rfl) ?_
  refine ok_vb (decide_eq_true (show (s.size:Int) > 19 by omega)) (by kernel_rfl) ?_
  exact ok_nil
 replace hS:=SymF.fb hS hF [] [] (by kernel_rfl) (by kernel_rfl)
 replace hG:=hF.gx
 clear hF
 have z2:=hS.fr.size
 refine wp_cond_true (hK.ev 9 (by kernel_rfl) _ (by kernel_rfl)) ?_
 refine wp_symQ hS hG hK (fun p3=>[.v 2 (.int .u64 0),.v 3 (.bool false)]) (fun p3=>[(0,.string s),(2,.int .u64 0),(3,.bool false),(9,.bool true)]) (by kernel_rfl) (fun _ _=>by kernel_rfl) (fun _=>by kernel_rfl) (fun _=>by kernel_rfl) (fun p3=>?_) (fun p3 W3 T hF hK=>?_)
 ·iterate 2 refine ok_v (by kernel_rfl) ?_
  exact ok_nil
 replace hS:=SymF.fb hS hF [] [] (by kernel_rfl) (by kernel_rfl)
 replace hG:=hF.gx
 clear hF
 have z3:=hS.fr.size
 refine wp_ret ?_
 refine then_r ?_
 exact sym_end hS hK (.tuple #[.int .u64 0,.bool false]) [] [] (by kernel_rfl) (by kernel_rfl) ⟨rfl,hS.fr⟩
theorem qnum_ok (w:World) (s:ByteArray) (c nv:Nat→Nat) (hl:s.size≤19) (h2:∀ j (h:j < s.size),(s[j]'h).toNat = c j) (hv:∀ j,j < s.size→48≤c j∧c j≤57) (hb0:nv 0 = 0) (hbs:∀ j,j < s.size→nv (j+1) = nv j * 10+(c j - 48)) (hbb:∀ j,j≤s.size→nv j < 18446744073709551616) :
  Calls Tryz.prog 33 #[.string s] w fun en w'=>en = .returned (.tuple #[.int .u64 ((nv (s.size - 0):Nat):Int),.bool true])∧Below w.heap.size w w':=by
 obtain ⟨k,hkz⟩:∃ k,k = s.size:=⟨_,rfl⟩
 have hkn:k≤s.size:=by omega
 refine calls_sym Tryz.func33 rfl (by kernel_rfl) fun T hK=>?_
 replace hK:Kn T _ [(0,.string s)]:=hK
 have hS:=Fb.begin w
 have hG:GsAt [] w:=trivial
 refine wp_symQ hS hG hK (fun p1=>[.v 2 (.int .u64 0),.v 3 (.bool false)]) (fun p1=>[(0,.string s),(2,.int .u64 0),(3,.bool false)]) (by kernel_rfl) (fun _ _=>by kernel_rfl) (fun _=>by kernel_rfl) (fun _=>by kernel_rfl) (fun p1=>?_) (fun p1 W1 T hF hK=>?_)
 ·iterate 2 refine ok_v (by kernel_rfl) ?_
  exact ok_nil
 replace hS:=SymF.fb hS hF [] [] (by kernel_rfl) (by kernel_rfl)
 replace hG:=hF.gx
 clear hF
 have z1:=hS.fr.size
 refine wp_seq ?_
 refine wp_symQ hS hG hK (fun p2=>[.v 7 (.string s),.v 8 (.int .i64 (s.size:Int)),.v 9 (.bool false)]) (fun p2=>[(0,.string s),(2,.int .u64 0),(3,.bool false),(9,.bool false)]) (by kernel_rfl) (fun _ _=>by kernel_rfl) (fun _=>by kernel_rfl) (fun _=>by kernel_rfl) (fun p2=>?_) (fun p2 W2 T hF hK=>?_)
 ·iterate 2 refine ok_v (by kernel_rfl) ?_
  refine ok_vb (decide_eq_false (show ¬ (s.size:Int) > 19 by omega)) (by kernel_rfl) ?_
  exact ok_nil
 replace hS:=SymF.fb hS hF [] [] (by kernel_rfl) (by kernel_rfl)
 replace hG:=hF.gx
 clear hF
 have z2:=hS.fr.size
 refine wp_cond_false (hK.ev 9 (by kernel_rfl) _ (by kernel_rfl)) ?_
 refine wp_skip ?_
 refine then_n ?_
 refine wp_symQ hS hG hK (fun p3=>[.v 4 (.int .u64 0)]) (fun p3=>[(0,.string s),(2,.int .u64 0),(3,.bool false),(4,.int .u64 0),(9,.bool false)]) (by kernel_rfl) (fun _ _=>by kernel_rfl) (fun _=>by kernel_rfl) (fun _=>by kernel_rfl) (fun p3=>?_) (fun p3 W3 T hF hK=>?_)
 ·refine ok_v (by kernel_rfl) ?_
  exact ok_nil
 replace hS:=SymF.fb hS hF [] [] (by kernel_rfl) (by kernel_rfl)
 replace hG:=hF.gx
 clear hF
 have z3:=hS.fr.size
 refine wp_seq ?_
 refine wp_symQ hS hG hK (fun p4=>[.v 10 (.string s),.v 11 (.int .i64 (s.size:Int)),.v 12 (.int .i64 0)]) (fun p4=>[(0,.string s),(2,.int .u64 0),(3,.bool false),(4,.int .u64 0),(9,.bool false),(11,.int .i64 (s.size:Int)),(12,.int .i64 0)]) (by kernel_rfl) (fun _ _=>by kernel_rfl) (fun _=>by kernel_rfl) (fun _=>by kernel_rfl) (fun p4=>?_) (fun p4 W4 T hF hK=>?_)
 ·iterate 3 refine ok_v (by kernel_rfl) ?_
  exact ok_nil
 replace hS:=SymF.fb hS hF [] [] (by kernel_rfl) (by kernel_rfl)
 replace hG:=hF.gx
 clear hF
 have z4:=hS.fr.size
 refine wp_block ?_
 replace hK:Kn T _ [(0,.string s),(4,.int .u64 0),(11,.int .i64 (s.size:Int)),(12,.int .i64 0)]:=kn_out (ds:=[]) hK rfl rfl _ (by kernel_rfl) (by kernel_rfl)
 have h4:Value.int .u64 0 = .int .u64 ((nv (s.size - k):Nat):Int):=by rw [hkz,Nat.sub_self,hb0]; rfl
 have h12:Value.int .i64 0 = .int .i64 ((s.size - k:Nat):Int):=by rw [hkz,Nat.sub_self]; rfl
 rw [h4,h12] at hK
 clear h4 h12 hkz
 refine wp_loop_rounds (k+1) ?_
 clear z4
 induction k generalizing T W4 with
 | succ k ih=>
  have z4:=hS.fr.size
  have hj:=hbs (s.size - (k+1)) (by omega)
  have hj1:s.size - (k+1)+1 = s.size - k:=by omega
  rw [hj1] at hj
  have hv1:=hv (s.size - (k+1)) (by omega)
  have hb1:=hbb (s.size - k) (by omega)
  have hix:script Tryz.prog 0 (Instr.index 9 (.string s) (.int .i64 ((s.size - (k+1):Nat):Int))) [] = some (.int .u8 ((c (s.size - (k+1)):Nat):Int),[]):=script_index (j:=s.size - (k+1)) Tryz.under_str rfl (by omega) (h2 _ _)
  refine rounds_s ?_
  refine wp_symQ hS hG hK (fun p5=>[.v 13 (.bool true)]) (fun p5=>[(0,.string s),(4,.int .u64 ((nv (s.size - (k+1)):Nat):Int)),(11,.int .i64 (s.size:Int)),(12,.int .i64 ((s.size - (k+1):Nat):Int)),(13,.bool true)]) (by kernel_rfl) (fun _ _=>by kernel_rfl) (fun _=>by kernel_rfl) (fun _=>by kernel_rfl) (fun p5=>?_) (fun p5 W5 T hF hK=>?_)
  ·refine ok_vb (decide_eq_true (show ((s.size - (k+1):Nat):Int) < (s.size:Int) by omega)) (by kernel_rfl) ?_
   exact ok_nil
  replace hS:=SymF.fb hS hF [] [] (by kernel_rfl) (by kernel_rfl)
  replace hG:=hF.gx
  clear hF
  have z5:=hS.fr.size
  refine wp_seq ?_
  refine wp_cond_true (hK.ev 13 (by kernel_rfl) _ (by kernel_rfl)) ?_
  refine wp_skip ?_
  refine then_n ?_
  refine wp_seq ?_
  refine wp_block ?_
  refine wp_symQ hS hG hK (fun p6=>[.v 14 (.int .i64 ((s.size - (k+1):Nat):Int)),.v 5 (.int .i64 ((s.size - (k+1):Nat):Int))]) (fun p6=>[(0,.string s),(4,.int .u64 ((nv (s.size - (k+1)):Nat):Int)),(5,.int .i64 ((s.size - (k+1):Nat):Int)),(11,.int .i64 (s.size:Int)),(12,.int .i64 ((s.size - (k+1):Nat):Int)),(13,.bool true),(14,.int .i64 ((s.size - (k+1):Nat):Int))]) (by kernel_rfl) (fun _ _=>by kernel_rfl) (fun _=>by kernel_rfl) (fun _=>by kernel_rfl) (fun p6=>?_) (fun p6 W6 T hF hK=>?_)
  ·iterate 2 refine ok_v (by kernel_rfl) ?_
   exact ok_nil
  replace hS:=SymF.fb hS hF [] [] (by kernel_rfl) (by kernel_rfl)
  replace hG:=hF.gx
  clear hF
  have z6:=hS.fr.size
  refine wp_symQ hS hG hK (fun p7=>[.v 15 (.string s),.v 16 (.int .i64 ((s.size - (k+1):Nat):Int)),.v 17 (.int .u8 ((c (s.size - (k+1)):Nat):Int)),.v 6 (.int .u8 ((c (s.size - (k+1)):Nat):Int))]) (fun p7=>[(0,.string s),(4,.int .u64 ((nv (s.size - (k+1)):Nat):Int)),(5,.int .i64 ((s.size - (k+1):Nat):Int)),(6,.int .u8 ((c (s.size - (k+1)):Nat):Int)),(11,.int .i64 (s.size:Int)),(12,.int .i64 ((s.size - (k+1):Nat):Int)),(13,.bool true),(14,.int .i64 ((s.size - (k+1):Nat):Int)),(15,.string s),(16,.int .i64 ((s.size - (k+1):Nat):Int)),(17,.int .u8 ((c (s.size - (k+1)):Nat):Int))]) (by kernel_rfl) (fun _ _=>by kernel_rfl) (fun _=>by kernel_rfl) (fun _=>by kernel_rfl) (fun p7=>?_) (fun p7 W7 T hF hK=>?_)
  ·iterate 2 refine ok_v (by kernel_rfl) ?_
   refine ok_vr (hix) (by kernel_rfl) ?_
   refine ok_v (by kernel_rfl) ?_
   exact ok_nil
  replace hS:=SymF.fb hS hF [] [] (by kernel_rfl) (by kernel_rfl)
  replace hG:=hF.gx
  clear hF
  have z7:=hS.fr.size
  refine wp_seq ?_
  refine wp_symQ hS hG hK (fun p8=>[.v 18 (.int .u8 ((c (s.size - (k+1)):Nat):Int)),.v 19 (.bool false),.v 20 (.bool false),.v 21 (.int .u8 ((c (s.size - (k+1)):Nat):Int)),.v 22 (.bool false),.v 23 (.bool false)]) (fun p8=>[(0,.string s),(4,.int .u64 ((nv (s.size - (k+1)):Nat):Int)),(5,.int .i64 ((s.size - (k+1):Nat):Int)),(6,.int .u8 ((c (s.size - (k+1)):Nat):Int)),(11,.int .i64 (s.size:Int)),(12,.int .i64 ((s.size - (k+1):Nat):Int)),(13,.bool true),(14,.int .i64 ((s.size - (k+1):Nat):Int)),(15,.string s),(16,.int .i64 ((s.size - (k+1):Nat):Int)),(17,.int .u8 ((c (s.size - (k+1)):Nat):Int)),(18,.int .u8 ((c (s.size - (k+1)):Nat):Int)),(19,.bool false),(20,.bool false),(21,.int .u8 ((c (s.size - (k+1)):Nat):Int)),(22,.bool false),(23,.bool false)]) (by kernel_rfl) (fun _ _=>by kernel_rfl) (fun _=>by kernel_rfl) (fun _=>by kernel_rfl) (fun p8=>?_) (fun p8 W8 T hF hK=>?_)
  ·refine ok_v (by kernel_rfl) ?_
   refine ok_vb (decide_eq_false (show ¬ ((c (s.size - (k+1)):Nat):Int) < 48 by omega)) (by kernel_rfl) ?_
   iterate 2 refine ok_v (by kernel_rfl) ?_
   refine ok_vb (decide_eq_false (show ¬ ((c (s.size - (k+1)):Nat):Int) > 57 by omega)) (by kernel_rfl) ?_
   refine ok_v (by kernel_rfl) ?_
   exact ok_nil
  replace hS:=SymF.fb hS hF [] [] (by kernel_rfl) (by kernel_rfl)
  replace hG:=hF.gx
  clear hF
  have z8:=hS.fr.size
  refine wp_cond_false (hK.ev 23 (by kernel_rfl) _ (by kernel_rfl)) ?_
  refine wp_skip ?_
  refine then_n ?_
  refine wp_symG hS hG hK (fun p9=>[.v 24 (.int .u64 ((nv (s.size - (k+1)):Nat):Int)),.v 25 (.int .u64 (10 * ((nv (s.size - (k+1)):Nat):Int))),.v 26 (.int .u8 ((c (s.size - (k+1)):Nat):Int)),.v 27 (.int .u8 (((c (s.size - (k+1)):Nat):Int) - 48)),.v 28 (.int .u64 (((c (s.size - (k+1)):Nat):Int) - 48)),.v 29 (.int .u64 ((nv (s.size - k):Nat):Int)),.v 4 (.int .u64 ((nv (s.size - k):Nat):Int))]) (fun p9=>[(0,.string s),(4,.int .u64 ((nv (s.size - k):Nat):Int)),(5,.int .i64 ((s.size - (k+1):Nat):Int)),(6,.int .u8 ((c (s.size - (k+1)):Nat):Int)),(11,.int .i64 (s.size:Int)),(12,.int .i64 ((s.size - (k+1):Nat):Int)),(13,.bool true),(14,.int .i64 ((s.size - (k+1):Nat):Int)),(15,.string s),(16,.int .i64 ((s.size - (k+1):Nat):Int)),(17,.int .u8 ((c (s.size - (k+1)):Nat):Int)),(18,.int .u8 ((c (s.size - (k+1)):Nat):Int)),(19,.bool false),(20,.bool false),(21,.int .u8 ((c (s.size - (k+1)):Nat):Int)),(22,.bool false),(23,.bool false),(24,.int .u64 ((nv (s.size - (k+1)):Nat):Int)),(25,.int .u64 (10 * ((nv (s.size - (k+1)):Nat):Int))),(26,.int .u8 ((c (s.size - (k+1)):Nat):Int)),(27,.int .u8 (((c (s.size - (k+1)):Nat):Int) - 48)),(28,.int .u64 (((c (s.size - (k+1)):Nat):Int) - 48)),(29,.int .u64 ((nv (s.size - k):Nat):Int))]) (by kernel_rfl) (fun _ _=>by kernel_rfl) (fun _=>by kernel_rfl) (fun _=>by kernel_rfl) (fun p9=>?_) (fun p9 W9 T hF hK=>?_)
  ·refine ok_v (by kernel_rfl) ?_
   refine ok_vi (wrQ (x:=10 * ((nv (s.size - (k+1)):Nat):Int)) (by omega) (by omega)) (by kernel_rfl) ?_
   refine ok_v (by kernel_rfl) ?_
   refine ok_vi (wrQ8 (x:=((c (s.size - (k+1)):Nat):Int) - 48) (by omega) (by omega)) (by kernel_rfl) ?_
   refine ok_vi (wrQ (x:=((c (s.size - (k+1)):Nat):Int) - 48) (by omega) (by omega)) (by kernel_rfl) ?_
   refine ok_vi ((wrQ (x:=10 * ((nv (s.size - (k+1)):Nat):Int)+(((c (s.size - (k+1)):Nat):Int) - 48)) (by omega) (by omega)).trans (by omega)) (by kernel_rfl) ?_
   refine ok_v (by kernel_rfl) ?_
   exact ok_nil
  replace hS:=SymF.fb hS hF [] [] (by kernel_rfl) (by kernel_rfl)
  replace hG:=hF.gx
  clear hF
  have z9:=hS.fr.size
  refine inb_n ?_
  refine then_n ?_
  refine wp_symG hS hG hK (fun p10=>[.v 30 (.int .i64 ((s.size - k:Nat):Int)),.v 12 (.int .i64 ((s.size - k:Nat):Int))]) (fun p10=>[(0,.string s),(4,.int .u64 ((nv (s.size - k):Nat):Int)),(5,.int .i64 ((s.size - (k+1):Nat):Int)),(6,.int .u8 ((c (s.size - (k+1)):Nat):Int)),(11,.int .i64 (s.size:Int)),(12,.int .i64 ((s.size - k:Nat):Int)),(13,.bool true),(14,.int .i64 ((s.size - (k+1):Nat):Int)),(15,.string s),(16,.int .i64 ((s.size - (k+1):Nat):Int)),(17,.int .u8 ((c (s.size - (k+1)):Nat):Int)),(18,.int .u8 ((c (s.size - (k+1)):Nat):Int)),(19,.bool false),(20,.bool false),(21,.int .u8 ((c (s.size - (k+1)):Nat):Int)),(22,.bool false),(23,.bool false),(24,.int .u64 ((nv (s.size - (k+1)):Nat):Int)),(25,.int .u64 (10 * ((nv (s.size - (k+1)):Nat):Int))),(26,.int .u8 ((c (s.size - (k+1)):Nat):Int)),(27,.int .u8 (((c (s.size - (k+1)):Nat):Int) - 48)),(28,.int .u64 (((c (s.size - (k+1)):Nat):Int) - 48)),(29,.int .u64 ((nv (s.size - k):Nat):Int)),(30,.int .i64 ((s.size - k:Nat):Int))]) (by kernel_rfl) (fun _ _=>by kernel_rfl) (fun _=>by kernel_rfl) (fun _=>by kernel_rfl) (fun p10=>?_) (fun p10 W10 T hF hK=>?_)
  ·refine ok_vi ((wr64 (x:=((s.size - (k+1):Nat):Int)+1) (by omega) (by omega)).trans (by omega)) (by kernel_rfl) ?_
   refine ok_v (by kernel_rfl) ?_
   exact ok_nil
  replace hS:=SymF.fb hS hF [] [] (by kernel_rfl) (by kernel_rfl)
  replace hG:=hF.gx
  clear hF
  have z10:=hS.fr.size
  refine then_n ?_
  replace hK:Kn T _ [(0,.string s),(4,.int .u64 ((nv (s.size - k):Nat):Int)),(11,.int .i64 (s.size:Int)),(12,.int .i64 ((s.size - k:Nat):Int))]:=kn_out (ds:=[]) hK rfl rfl _ (by kernel_rfl) (by kernel_rfl)
  refine ih ?_ _ _ ?_ ?_ ?_ <;> first|assumption|omega
 | zero=>
  have z4:=hS.fr.size
  refine rounds_s ?_
  refine wp_symQ hS hG hK (fun p11=>[.v 13 (.bool false)]) (fun p11=>[(0,.string s),(4,.int .u64 ((nv (s.size - 0):Nat):Int)),(11,.int .i64 (s.size:Int)),(12,.int .i64 ((s.size - 0:Nat):Int)),(13,.bool false)]) (by kernel_rfl) (fun _ _=>by kernel_rfl) (fun _=>by kernel_rfl) (fun _=>by kernel_rfl) (fun p11=>?_) (fun p11 W11 T hF hK=>?_)
  ·refine ok_vb (decide_eq_false (show ¬ ((s.size - 0:Nat):Int) < (s.size:Int) by omega)) (by kernel_rfl) ?_
   exact ok_nil
  replace hS:=SymF.fb hS hF [] [] (by kernel_rfl) (by kernel_rfl)
  replace hG:=hF.gx
  clear hF
  have z11:=hS.fr.size
  refine wp_seq ?_
  refine wp_cond_false (hK.ev 13 (by kernel_rfl) _ (by kernel_rfl)) ?_
  refine wp_exit ?_
  refine then_x ?_
  refine then_x ?_
  refine inb_x ?_
  refine then_n ?_
  refine wp_symQ hS hG hK (fun p12=>[.v 31 (.int .u64 ((nv (s.size - 0):Nat):Int)),.v 2 (.int .u64 ((nv (s.size - 0):Nat):Int)),.v 3 (.bool true)]) (fun p12=>[(0,.string s),(2,.int .u64 ((nv (s.size - 0):Nat):Int)),(3,.bool true),(4,.int .u64 ((nv (s.size - 0):Nat):Int)),(12,.int .i64 ((s.size - 0:Nat):Int)),(13,.bool false)]) (by kernel_rfl) (fun _ _=>by kernel_rfl) (fun _=>by kernel_rfl) (fun _=>by kernel_rfl) (fun p12=>?_) (fun p12 W12 T hF hK=>?_)
  ·iterate 3 refine ok_v (by kernel_rfl) ?_
   exact ok_nil
  replace hS:=SymF.fb hS hF [] [] (by kernel_rfl) (by kernel_rfl)
  replace hG:=hF.gx
  clear hF
  have z12:=hS.fr.size
  refine wp_ret ?_
  exact sym_end hS hK (.tuple #[.int .u64 ((nv (s.size - 0):Nat):Int),.bool true]) [] [] (by kernel_rfl) (by kernel_rfl) ⟨rfl,hS.fr⟩
theorem qpow64 (w:World) (m:Nat) (pw:Nat→Nat) (hm:m≤22) (hp0:floatOfInt .f64 1 = pw 0) (hp:∀ j,j < m→FloatKind.f64.format.mul (pw j) 4621819117588971520 = some (pw (j+1))) :
  Calls Tryz.prog 49 #[.int .i64 (m:Int)] w fun en w'=>en = .returned (.float .f64 (pw (m - 0)))∧Below w.heap.size w w':=by
 obtain ⟨k,hkz⟩:∃ k,k = m:=⟨_,rfl⟩
 have hkn:k≤m:=by omega
 refine calls_sym Tryz.func49 rfl (by kernel_rfl) fun T hK=>?_
 replace hK:Kn T _ [(0,.int .i64 (m:Int))]:=hK
 have hS:=Fb.begin w
 have hG:GsAt [] w:=trivial
 refine wp_symQ hS hG hK (fun p1=>[.v 2 (.float FloatKind.f64 0)]) (fun p1=>[(0,.int .i64 (m:Int)),(2,.float FloatKind.f64 0)]) (by kernel_rfl) (fun _ _=>by kernel_rfl) (fun _=>by kernel_rfl) (fun _=>by kernel_rfl) (fun p1=>?_) (fun p1 W1 T hF hK=>?_)
 ·refine ok_v (by kernel_rfl) ?_
  exact ok_nil
 replace hS:=SymF.fb hS hF [] [] (by kernel_rfl) (by kernel_rfl)
 replace hG:=hF.gx
 clear hF
 have z1:=hS.fr.size
 refine wp_symQ hS hG hK (fun p2=>[.v 4 (.float .f64 (floatOfInt .f64 1)),.v 3 (.float .f64 (floatOfInt .f64 1))]) (fun p2=>[(0,.int .i64 (m:Int)),(2,.float FloatKind.f64 0),(3,.float .f64 (floatOfInt .f64 1))]) (by kernel_rfl) (fun _ _=>by kernel_rfl) (fun _=>by kernel_rfl) (fun _=>by kernel_rfl) (fun p2=>?_) (fun p2 W2 T hF hK=>?_)
 ·iterate 2 refine ok_v (by kernel_rfl) ?_
  exact ok_nil
 replace hS:=SymF.fb hS hF [] [] (by kernel_rfl) (by kernel_rfl)
 replace hG:=hF.gx
 clear hF
 have z2:=hS.fr.size
 refine wp_seq ?_
 refine wp_symQ hS hG hK (fun p3=>[.v 5 (.int .i64 (m:Int)),.v 6 (.int .i64 0)]) (fun p3=>[(2,.float FloatKind.f64 0),(3,.float .f64 (floatOfInt .f64 1)),(5,.int .i64 (m:Int)),(6,.int .i64 0)]) (by kernel_rfl) (fun _ _=>by kernel_rfl) (fun _=>by kernel_rfl) (fun _=>by kernel_rfl) (fun p3=>?_) (fun p3 W3 T hF hK=>?_)
 ·iterate 2 refine ok_v (by kernel_rfl) ?_
  exact ok_nil
 replace hS:=SymF.fb hS hF [] [] (by kernel_rfl) (by kernel_rfl)
 replace hG:=hF.gx
 clear hF
 have z3:=hS.fr.size
 refine wp_block ?_
 replace hK:Kn T _ [(3,.float .f64 (floatOfInt .f64 1)),(5,.int .i64 (m:Int)),(6,.int .i64 0)]:=kn_out (ds:=[]) hK rfl rfl _ (by kernel_rfl) (by kernel_rfl)
 have h3:Value.float .f64 (floatOfInt .f64 1) = .float .f64 (pw (m - k)):=by rw [hkz,Nat.sub_self,hp0]
 have h6:Value.int .i64 0 = .int .i64 ((m - k:Nat):Int):=by rw [hkz,Nat.sub_self]; rfl
 rw [h3,h6] at hK
 clear h3 h6 hkz
 refine wp_loop_rounds (k+1) ?_
 clear z3
 induction k generalizing T W3 with
 | succ k ih=>
  have z3:=hS.fr.size
  have hmul:=hp (m - (k+1)) (by omega)
  have hj1:m - (k+1)+1 = m - k:=by omega
  rw [hj1] at hmul
  refine rounds_s ?_
  refine wp_symQ hS hG hK (fun p4=>[.v 7 (.bool true)]) (fun p4=>[(3,.float .f64 (pw (m - (k+1)))),(5,.int .i64 (m:Int)),(6,.int .i64 ((m - (k+1):Nat):Int)),(7,.bool true)]) (by kernel_rfl) (fun _ _=>by kernel_rfl) (fun _=>by kernel_rfl) (fun _=>by kernel_rfl) (fun p4=>?_) (fun p4 W4 T hF hK=>?_)
  ·refine ok_vb (decide_eq_true (show ((m - (k+1):Nat):Int) < (m:Int) by omega)) (by kernel_rfl) ?_
   exact ok_nil
  replace hS:=SymF.fb hS hF [] [] (by kernel_rfl) (by kernel_rfl)
  replace hG:=hF.gx
  clear hF
  have z4:=hS.fr.size
  refine wp_seq ?_
  refine wp_cond_true (hK.ev 7 (by kernel_rfl) _ (by kernel_rfl)) ?_
  refine wp_skip ?_
  refine then_n ?_
  refine wp_seq ?_
  refine wp_block ?_
  refine wp_symG hS hG hK (fun p5=>[.v 8 (.float .f64 (pw (m - (k+1)))),.v 9 (.float .f64 (pw (m - k))),.v 3 (.float .f64 (pw (m - k)))]) (fun p5=>[(3,.float .f64 (pw (m - k))),(5,.int .i64 (m:Int)),(6,.int .i64 ((m - (k+1):Nat):Int)),(7,.bool true),(8,.float .f64 (pw (m - (k+1)))),(9,.float .f64 (pw (m - k)))]) (by kernel_rfl) (fun _ _=>by kernel_rfl) (fun _=>by kernel_rfl) (fun _=>by kernel_rfl) (fun p5=>?_) (fun p5 W5 T hF hK=>?_)
  ·refine ok_v (by kernel_rfl) ?_
   refine ok_vr (script_mul (t:=34) hmul) (by kernel_rfl) ?_
   refine ok_v (by kernel_rfl) ?_
   exact ok_nil
  replace hS:=SymF.fb hS hF [] [] (by kernel_rfl) (by kernel_rfl)
  replace hG:=hF.gx
  clear hF
  have z5:=hS.fr.size
  refine inb_n ?_
  refine then_n ?_
  refine wp_symG hS hG hK (fun p6=>[.v 10 (.int .i64 ((m - k:Nat):Int)),.v 6 (.int .i64 ((m - k:Nat):Int))]) (fun p6=>[(3,.float .f64 (pw (m - k))),(5,.int .i64 (m:Int)),(6,.int .i64 ((m - k:Nat):Int)),(7,.bool true),(8,.float .f64 (pw (m - (k+1)))),(9,.float .f64 (pw (m - k))),(10,.int .i64 ((m - k:Nat):Int))]) (by kernel_rfl) (fun _ _=>by kernel_rfl) (fun _=>by kernel_rfl) (fun _=>by kernel_rfl) (fun p6=>?_) (fun p6 W6 T hF hK=>?_)
  ·refine ok_vi ((wr64 (x:=((m - (k+1):Nat):Int)+1) (by omega) (by omega)).trans (by omega)) (by kernel_rfl) ?_
   refine ok_v (by kernel_rfl) ?_
   exact ok_nil
  replace hS:=SymF.fb hS hF [] [] (by kernel_rfl) (by kernel_rfl)
  replace hG:=hF.gx
  clear hF
  have z6:=hS.fr.size
  refine then_n ?_
  replace hK:Kn T _ [(3,.float .f64 (pw (m - k))),(5,.int .i64 (m:Int)),(6,.int .i64 ((m - k:Nat):Int))]:=kn_out (ds:=[]) hK rfl rfl _ (by kernel_rfl) (by kernel_rfl)
  refine ih ?_ _ _ ?_ ?_ ?_ <;> first|assumption|omega
 | zero=>
  have z3:=hS.fr.size
  refine rounds_s ?_
  refine wp_symQ hS hG hK (fun p7=>[.v 7 (.bool false)]) (fun p7=>[(3,.float .f64 (pw (m - 0))),(5,.int .i64 (m:Int)),(6,.int .i64 ((m - 0:Nat):Int)),(7,.bool false)]) (by kernel_rfl) (fun _ _=>by kernel_rfl) (fun _=>by kernel_rfl) (fun _=>by kernel_rfl) (fun p7=>?_) (fun p7 W7 T hF hK=>?_)
  ·refine ok_vb (decide_eq_false (show ¬ ((m - 0:Nat):Int) < (m:Int) by omega)) (by kernel_rfl) ?_
   exact ok_nil
  replace hS:=SymF.fb hS hF [] [] (by kernel_rfl) (by kernel_rfl)
  replace hG:=hF.gx
  clear hF
  have z7:=hS.fr.size
  refine wp_seq ?_
  refine wp_cond_false (hK.ev 7 (by kernel_rfl) _ (by kernel_rfl)) ?_
  refine wp_exit ?_
  refine then_x ?_
  refine then_x ?_
  refine inb_x ?_
  refine then_n ?_
  refine wp_symQ hS hG hK (fun p8=>[.v 11 (.float .f64 (pw (m - 0))),.v 2 (.float .f64 (pw (m - 0)))]) (fun p8=>[(2,.float .f64 (pw (m - 0))),(3,.float .f64 (pw (m - 0))),(6,.int .i64 ((m - 0:Nat):Int)),(7,.bool false)]) (by kernel_rfl) (fun _ _=>by kernel_rfl) (fun _=>by kernel_rfl) (fun _=>by kernel_rfl) (fun p8=>?_) (fun p8 W8 T hF hK=>?_)
  ·iterate 2 refine ok_v (by kernel_rfl) ?_
   exact ok_nil
  replace hS:=SymF.fb hS hF [] [] (by kernel_rfl) (by kernel_rfl)
  replace hG:=hF.gx
  clear hF
  have z8:=hS.fr.size
  refine wp_ret ?_
  exact sym_end hS hK (.float .f64 (pw (m - 0))) [] [] (by kernel_rfl) (by kernel_rfl) ⟨rfl,hS.fr⟩
theorem qnear64 (w:World) (n:Nat)  :
  Calls Tryz.prog 34 #[.int .u64 (n:Int)] w fun en w'=>en = .returned (.float .f64 (floatOfInt .f64 (n:Int)))∧Below w.heap.size w w':=by
 refine calls_sym Tryz.func34 rfl (by kernel_rfl) fun T hK=>?_
 replace hK:Kn T _ [(0,.int .u64 (n:Int))]:=hK
 have hS:=Fb.begin w
 have hG:GsAt [] w:=trivial
 refine wp_symQ hS hG hK (fun p1=>[.v 2 (.float FloatKind.f64 0)]) (fun p1=>[(0,.int .u64 (n:Int)),(2,.float FloatKind.f64 0)]) (by kernel_rfl) (fun _ _=>by kernel_rfl) (fun _=>by kernel_rfl) (fun _=>by kernel_rfl) (fun p1=>?_) (fun p1 W1 T hF hK=>?_)
 ·refine ok_v (by kernel_rfl) ?_
  exact ok_nil
 replace hS:=SymF.fb hS hF [] [] (by kernel_rfl) (by kernel_rfl)
 replace hG:=hF.gx
 clear hF
 have z1:=hS.fr.size
 refine wp_symQ hS hG hK (fun p2=>[.v 3 (.int .u64 (n:Int)),.v 4 (.float .f64 (floatOfInt .f64 (n:Int))),.v 2 (.float .f64 (floatOfInt .f64 (n:Int)))]) (fun p2=>[(2,.float .f64 (floatOfInt .f64 (n:Int)))]) (by kernel_rfl) (fun _ _=>by kernel_rfl) (fun _=>by kernel_rfl) (fun _=>by kernel_rfl) (fun p2=>?_) (fun p2 W2 T hF hK=>?_)
 ·iterate 3 refine ok_v (by kernel_rfl) ?_
  exact ok_nil
 replace hS:=SymF.fb hS hF [] [] (by kernel_rfl) (by kernel_rfl)
 replace hG:=hF.gx
 clear hF
 have z2:=hS.fr.size
 refine wp_ret ?_
 exact sym_end hS hK (.float .f64 (floatOfInt .f64 (n:Int))) [] [] (by kernel_rfl) (by kernel_rfl) ⟨rfl,hS.fr⟩
theorem qpow32 (w:World) (m:Nat) (pw:Nat→Nat) (hm:m≤22) (hp0:floatOfInt .f32 1 = pw 0) (hp:∀ j,j < m→FloatKind.f32.format.mul (pw j) 1092616192 = some (pw (j+1))) :
  Calls Tryz.prog 51 #[.int .i64 (m:Int)] w fun en w'=>en = .returned (.float .f32 (pw (m - 0)))∧Below w.heap.size w w':=by
 obtain ⟨k,hkz⟩:∃ k,k = m:=⟨_,rfl⟩
 have hkn:k≤m:=by omega
 refine calls_sym Tryz.func51 rfl (by kernel_rfl) fun T hK=>?_
 replace hK:Kn T _ [(0,.int .i64 (m:Int))]:=hK
 have hS:=Fb.begin w
 have hG:GsAt [] w:=trivial
 refine wp_symQ hS hG hK (fun p1=>[.v 2 (.float FloatKind.f32 0)]) (fun p1=>[(0,.int .i64 (m:Int)),(2,.float FloatKind.f32 0)]) (by kernel_rfl) (fun _ _=>by kernel_rfl) (fun _=>by kernel_rfl) (fun _=>by kernel_rfl) (fun p1=>?_) (fun p1 W1 T hF hK=>?_)
 ·refine ok_v (by kernel_rfl) ?_
  exact ok_nil
 replace hS:=SymF.fb hS hF [] [] (by kernel_rfl) (by kernel_rfl)
 replace hG:=hF.gx
 clear hF
 have z1:=hS.fr.size
 refine wp_symQ hS hG hK (fun p2=>[.v 4 (.float .f32 (floatOfInt .f32 1)),.v 3 (.float .f32 (floatOfInt .f32 1))]) (fun p2=>[(0,.int .i64 (m:Int)),(2,.float FloatKind.f32 0),(3,.float .f32 (floatOfInt .f32 1))]) (by kernel_rfl) (fun _ _=>by kernel_rfl) (fun _=>by kernel_rfl) (fun _=>by kernel_rfl) (fun p2=>?_) (fun p2 W2 T hF hK=>?_)
 ·iterate 2 refine ok_v (by kernel_rfl) ?_
  exact ok_nil
 replace hS:=SymF.fb hS hF [] [] (by kernel_rfl) (by kernel_rfl)
 replace hG:=hF.gx
 clear hF
 have z2:=hS.fr.size
 refine wp_seq ?_
 refine wp_symQ hS hG hK (fun p3=>[.v 5 (.int .i64 (m:Int)),.v 6 (.int .i64 0)]) (fun p3=>[(2,.float FloatKind.f32 0),(3,.float .f32 (floatOfInt .f32 1)),(5,.int .i64 (m:Int)),(6,.int .i64 0)]) (by kernel_rfl) (fun _ _=>by kernel_rfl) (fun _=>by kernel_rfl) (fun _=>by kernel_rfl) (fun p3=>?_) (fun p3 W3 T hF hK=>?_)
 ·iterate 2 refine ok_v (by kernel_rfl) ?_
  exact ok_nil
 replace hS:=SymF.fb hS hF [] [] (by kernel_rfl) (by kernel_rfl)
 replace hG:=hF.gx
 clear hF
 have z3:=hS.fr.size
 refine wp_block ?_
 replace hK:Kn T _ [(3,.float .f32 (floatOfInt .f32 1)),(5,.int .i64 (m:Int)),(6,.int .i64 0)]:=kn_out (ds:=[]) hK rfl rfl _ (by kernel_rfl) (by kernel_rfl)
 have h3:Value.float .f32 (floatOfInt .f32 1) = .float .f32 (pw (m - k)):=by rw [hkz,Nat.sub_self,hp0]
 have h6:Value.int .i64 0 = .int .i64 ((m - k:Nat):Int):=by rw [hkz,Nat.sub_self]; rfl
 rw [h3,h6] at hK
 clear h3 h6 hkz
 refine wp_loop_rounds (k+1) ?_
 clear z3
 induction k generalizing T W3 with
 | succ k ih=>
  have z3:=hS.fr.size
  have hmul:=hp (m - (k+1)) (by omega)
  have hj1:m - (k+1)+1 = m - k:=by omega
  rw [hj1] at hmul
  refine rounds_s ?_
  refine wp_symQ hS hG hK (fun p4=>[.v 7 (.bool true)]) (fun p4=>[(3,.float .f32 (pw (m - (k+1)))),(5,.int .i64 (m:Int)),(6,.int .i64 ((m - (k+1):Nat):Int)),(7,.bool true)]) (by kernel_rfl) (fun _ _=>by kernel_rfl) (fun _=>by kernel_rfl) (fun _=>by kernel_rfl) (fun p4=>?_) (fun p4 W4 T hF hK=>?_)
  ·refine ok_vb (decide_eq_true (show ((m - (k+1):Nat):Int) < (m:Int) by omega)) (by kernel_rfl) ?_
   exact ok_nil
  replace hS:=SymF.fb hS hF [] [] (by kernel_rfl) (by kernel_rfl)
  replace hG:=hF.gx
  clear hF
  have z4:=hS.fr.size
  refine wp_seq ?_
  refine wp_cond_true (hK.ev 7 (by kernel_rfl) _ (by kernel_rfl)) ?_
  refine wp_skip ?_
  refine then_n ?_
  refine wp_seq ?_
  refine wp_block ?_
  refine wp_symG hS hG hK (fun p5=>[.v 8 (.float .f32 (pw (m - (k+1)))),.v 9 (.float .f32 (pw (m - k))),.v 3 (.float .f32 (pw (m - k)))]) (fun p5=>[(3,.float .f32 (pw (m - k))),(5,.int .i64 (m:Int)),(6,.int .i64 ((m - (k+1):Nat):Int)),(7,.bool true),(8,.float .f32 (pw (m - (k+1)))),(9,.float .f32 (pw (m - k)))]) (by kernel_rfl) (fun _ _=>by kernel_rfl) (fun _=>by kernel_rfl) (fun _=>by kernel_rfl) (fun p5=>?_) (fun p5 W5 T hF hK=>?_)
  ·refine ok_v (by kernel_rfl) ?_
   refine ok_vr (script_mul (t:=37) hmul) (by kernel_rfl) ?_
   refine ok_v (by kernel_rfl) ?_
   exact ok_nil
  replace hS:=SymF.fb hS hF [] [] (by kernel_rfl) (by kernel_rfl)
  replace hG:=hF.gx
  clear hF
  have z5:=hS.fr.size
  refine inb_n ?_
  refine then_n ?_
  refine wp_symG hS hG hK (fun p6=>[.v 10 (.int .i64 ((m - k:Nat):Int)),.v 6 (.int .i64 ((m - k:Nat):Int))]) (fun p6=>[(3,.float .f32 (pw (m - k))),(5,.int .i64 (m:Int)),(6,.int .i64 ((m - k:Nat):Int)),(7,.bool true),(8,.float .f32 (pw (m - (k+1)))),(9,.float .f32 (pw (m - k))),(10,.int .i64 ((m - k:Nat):Int))]) (by kernel_rfl) (fun _ _=>by kernel_rfl) (fun _=>by kernel_rfl) (fun _=>by kernel_rfl) (fun p6=>?_) (fun p6 W6 T hF hK=>?_)
  ·refine ok_vi ((wr64 (x:=((m - (k+1):Nat):Int)+1) (by omega) (by omega)).trans (by omega)) (by kernel_rfl) ?_
   refine ok_v (by kernel_rfl) ?_
   exact ok_nil
  replace hS:=SymF.fb hS hF [] [] (by kernel_rfl) (by kernel_rfl)
  replace hG:=hF.gx
  clear hF
  have z6:=hS.fr.size
  refine then_n ?_
  replace hK:Kn T _ [(3,.float .f32 (pw (m - k))),(5,.int .i64 (m:Int)),(6,.int .i64 ((m - k:Nat):Int))]:=kn_out (ds:=[]) hK rfl rfl _ (by kernel_rfl) (by kernel_rfl)
  refine ih ?_ _ _ ?_ ?_ ?_ <;> first|assumption|omega
 | zero=>
  have z3:=hS.fr.size
  refine rounds_s ?_
  refine wp_symQ hS hG hK (fun p7=>[.v 7 (.bool false)]) (fun p7=>[(3,.float .f32 (pw (m - 0))),(5,.int .i64 (m:Int)),(6,.int .i64 ((m - 0:Nat):Int)),(7,.bool false)]) (by kernel_rfl) (fun _ _=>by kernel_rfl) (fun _=>by kernel_rfl) (fun _=>by kernel_rfl) (fun p7=>?_) (fun p7 W7 T hF hK=>?_)
  ·refine ok_vb (decide_eq_false (show ¬ ((m - 0:Nat):Int) < (m:Int) by omega)) (by kernel_rfl) ?_
   exact ok_nil
  replace hS:=SymF.fb hS hF [] [] (by kernel_rfl) (by kernel_rfl)
  replace hG:=hF.gx
  clear hF
  have z7:=hS.fr.size
  refine wp_seq ?_
  refine wp_cond_false (hK.ev 7 (by kernel_rfl) _ (by kernel_rfl)) ?_
  refine wp_exit ?_
  refine then_x ?_
  refine then_x ?_
  refine inb_x ?_
  refine then_n ?_
  refine wp_symQ hS hG hK (fun p8=>[.v 11 (.float .f32 (pw (m - 0))),.v 2 (.float .f32 (pw (m - 0)))]) (fun p8=>[(2,.float .f32 (pw (m - 0))),(3,.float .f32 (pw (m - 0))),(6,.int .i64 ((m - 0:Nat):Int)),(7,.bool false)]) (by kernel_rfl) (fun _ _=>by kernel_rfl) (fun _=>by kernel_rfl) (fun _=>by kernel_rfl) (fun p8=>?_) (fun p8 W8 T hF hK=>?_)
  ·iterate 2 refine ok_v (by kernel_rfl) ?_
   exact ok_nil
  replace hS:=SymF.fb hS hF [] [] (by kernel_rfl) (by kernel_rfl)
  replace hG:=hF.gx
  clear hF
  have z8:=hS.fr.size
  refine wp_ret ?_
  exact sym_end hS hK (.float .f32 (pw (m - 0))) [] [] (by kernel_rfl) (by kernel_rfl) ⟨rfl,hS.fr⟩
theorem qnear32 (w:World) (n:Nat)  :
  Calls Tryz.prog 50 #[.int .u64 (n:Int)] w fun en w'=>en = .returned (.float .f32 (floatOfInt .f32 (n:Int)))∧Below w.heap.size w w':=by
 refine calls_sym Tryz.func50 rfl (by kernel_rfl) fun T hK=>?_
 replace hK:Kn T _ [(0,.int .u64 (n:Int))]:=hK
 have hS:=Fb.begin w
 have hG:GsAt [] w:=trivial
 refine wp_symQ hS hG hK (fun p1=>[.v 2 (.float FloatKind.f32 0)]) (fun p1=>[(0,.int .u64 (n:Int)),(2,.float FloatKind.f32 0)]) (by kernel_rfl) (fun _ _=>by kernel_rfl) (fun _=>by kernel_rfl) (fun _=>by kernel_rfl) (fun p1=>?_) (fun p1 W1 T hF hK=>?_)
 ·refine ok_v (by kernel_rfl) ?_
  exact ok_nil
 replace hS:=SymF.fb hS hF [] [] (by kernel_rfl) (by kernel_rfl)
 replace hG:=hF.gx
 clear hF
 have z1:=hS.fr.size
 refine wp_symQ hS hG hK (fun p2=>[.v 3 (.int .u64 (n:Int)),.v 4 (.float .f32 (floatOfInt .f32 (n:Int))),.v 2 (.float .f32 (floatOfInt .f32 (n:Int)))]) (fun p2=>[(2,.float .f32 (floatOfInt .f32 (n:Int)))]) (by kernel_rfl) (fun _ _=>by kernel_rfl) (fun _=>by kernel_rfl) (fun _=>by kernel_rfl) (fun p2=>?_) (fun p2 W2 T hF hK=>?_)
 ·iterate 3 refine ok_v (by kernel_rfl) ?_
  exact ok_nil
 replace hS:=SymF.fb hS hF [] [] (by kernel_rfl) (by kernel_rfl)
 replace hG:=hF.gx
 clear hF
 have z2:=hS.fr.size
 refine wp_ret ?_
 exact sym_end hS hK (.float .f32 (floatOfInt .f32 (n:Int))) [] [] (by kernel_rfl) (by kernel_rfl) ⟨rfl,hS.fr⟩
theorem qrai_0t (w:World) (wh tn n:Nat) (hn:n≤wh) :
  Calls Tryz.prog 56 #[.agg #[.int .u64 (wh:Int),.int .i64 (tn:Int)],.int .u64 (n:Int),.int .i64 0] w fun en w'=>en = .returned (.tuple #[.int .u64 (n:Int),.bool true])∧Below w.heap.size w w':=by
 refine calls_sym Tryz.func56 rfl (by kernel_rfl) fun T hK=>?_
 replace hK:Kn T _ [(0,.agg #[.int .u64 (wh:Int),.int .i64 (tn:Int)]),(1,.int .u64 (n:Int)),(2,.int .i64 0)]:=hK
 have hS:=Fb.begin w
 have hG:GsAt [] w:=trivial
 refine wp_symQ hS hG hK (fun p1=>[.n 3 #[.int .u64 (wh:Int),.int .i64 (tn:Int)] 68,.v 6 (.int .u64 0),.v 7 (.bool false)]) (fun p1=>[(1,.int .u64 (n:Int)),(2,.int .i64 0),(3,.pointer (some ⟨(p1 0).N,0,none⟩)),(6,.int .u64 0),(7,.bool false)]) (by kernel_rfl) (fun _ _=>by kernel_rfl) (fun _=>by kernel_rfl) (fun _=>by kernel_rfl) (fun p1=>?_) (fun p1 W1 T hF hK=>?_)
 ·refine ok_n (fun _=>by kernel_rfl) ?_
  iterate 2 refine ok_v (by kernel_rfl) ?_
  exact ok_nil
 replace hS:=SymF.fb hS hF [1000] [⟨(p1 0).N,#[.int .u64 (wh:Int),.int .i64 (tn:Int)],68,true⟩] (by kernel_rfl) (by kernel_rfl)
 replace hG:=hF.gx
 clear hF
 have z1:=hS.fr.size
 refine wp_seq ?_
 refine wp_symQ hS hG hK (fun p2=>[.v 8 (.int .i64 0),.v 9 (.int .i64 0)]) (fun p2=>[(1,.int .u64 (n:Int)),(3,.pointer (some ⟨(p1 0).N,0,none⟩)),(6,.int .u64 0),(7,.bool false),(8,.int .i64 0),(9,.int .i64 0)]) (by kernel_rfl) (fun _ _=>by kernel_rfl) (fun _=>by kernel_rfl) (fun _=>by kernel_rfl) (fun p2=>?_) (fun p2 W2 T hF hK=>?_)
 ·iterate 2 refine ok_v (by kernel_rfl) ?_
  exact ok_nil
 replace hS:=SymF.fb hS hF [0] [⟨(p1 0).N,#[.int .u64 (wh:Int),.int .i64 (tn:Int)],68,true⟩] (by kernel_rfl) (by kernel_rfl)
 replace hG:=hF.gx
 clear hF
 have z2:=hS.fr.size
 refine wp_block ?_
 refine wp_loop_rounds 1 ?_
 refine rounds_s ?_
 refine wp_symQ hS hG hK (fun p3=>[.v 10 (.bool false)]) (fun p3=>[(1,.int .u64 (n:Int)),(3,.pointer (some ⟨(p1 0).N,0,none⟩)),(6,.int .u64 0),(7,.bool false),(8,.int .i64 0),(9,.int .i64 0),(10,.bool false)]) (by kernel_rfl) (fun _ _=>by kernel_rfl) (fun _=>by kernel_rfl) (fun _=>by kernel_rfl) (fun p3=>?_) (fun p3 W3 T hF hK=>?_)
 ·refine ok_v (by kernel_rfl) ?_
  exact ok_nil
 replace hS:=SymF.fb hS hF [0] [⟨(p1 0).N,#[.int .u64 (wh:Int),.int .i64 (tn:Int)],68,true⟩] (by kernel_rfl) (by kernel_rfl)
 replace hG:=hF.gx
 clear hF
 have z3:=hS.fr.size
 refine wp_seq ?_
 refine wp_cond_false (hK.ev 10 (by kernel_rfl) _ (by kernel_rfl)) ?_
 refine wp_exit ?_
 refine then_x ?_
 refine then_x ?_
 refine inb_x ?_
 refine then_n ?_
 refine wp_symQ hS hG hK (fun p4=>[.v 19 (.int .u64 (n:Int)),.v 20 (.int .u64 (n:Int)),.v 21 (.pointer (some ⟨(p1 0).N,0,none⟩)),.l 22 (.int .u64 (wh:Int)) 0 0,.v 23 (.bool true),.v 6 (.int .u64 (n:Int)),.v 7 (.bool true)]) (fun p4=>[(1,.int .u64 (n:Int)),(3,.pointer (some ⟨(p1 0).N,0,none⟩)),(6,.int .u64 (n:Int)),(7,.bool true),(9,.int .i64 0),(10,.bool false)]) (by kernel_rfl) (fun _ _=>by kernel_rfl) (fun _=>by kernel_rfl) (fun _=>by kernel_rfl) (fun p4=>?_) (fun p4 W4 T hF hK=>?_)
 ·iterate 3 refine ok_v (by kernel_rfl) ?_
  refine ok_L (by kernel_rfl) (by kernel_rfl) (by kernel_rfl) ?_
  refine ok_vb (decide_eq_true (show (n:Int)≤(wh:Int) by omega)) (by kernel_rfl) ?_
  iterate 2 refine ok_v (by kernel_rfl) ?_
  exact ok_nil
 replace hS:=SymF.fb hS hF [0] [⟨(p1 0).N,#[.int .u64 (wh:Int),.int .i64 (tn:Int)],68,true⟩] (by kernel_rfl) (by kernel_rfl)
 replace hG:=hF.gx
 clear hF
 have z4:=hS.fr.size
 refine wp_ret ?_
 exact sym_end hS hK (.tuple #[.int .u64 (n:Int),.bool true]) [] [] (by kernel_rfl) (by kernel_rfl) ⟨rfl,hS.fr⟩
theorem qrai_0f (w:World) (wh tn n:Nat) (hn:n > wh) :
  Calls Tryz.prog 56 #[.agg #[.int .u64 (wh:Int),.int .i64 (tn:Int)],.int .u64 (n:Int),.int .i64 0] w fun en w'=>en = .returned (.tuple #[.int .u64 (n:Int),.bool false])∧Below w.heap.size w w':=by
 refine calls_sym Tryz.func56 rfl (by kernel_rfl) fun T hK=>?_
 replace hK:Kn T _ [(0,.agg #[.int .u64 (wh:Int),.int .i64 (tn:Int)]),(1,.int .u64 (n:Int)),(2,.int .i64 0)]:=hK
 have hS:=Fb.begin w
 have hG:GsAt [] w:=trivial
 refine wp_symQ hS hG hK (fun p1=>[.n 3 #[.int .u64 (wh:Int),.int .i64 (tn:Int)] 68,.v 6 (.int .u64 0),.v 7 (.bool false)]) (fun p1=>[(1,.int .u64 (n:Int)),(2,.int .i64 0),(3,.pointer (some ⟨(p1 0).N,0,none⟩)),(6,.int .u64 0),(7,.bool false)]) (by kernel_rfl) (fun _ _=>by kernel_rfl) (fun _=>by kernel_rfl) (fun _=>by kernel_rfl) (fun p1=>?_) (fun p1 W1 T hF hK=>?_)
 ·refine ok_n (fun _=>by kernel_rfl) ?_
  iterate 2 refine ok_v (by kernel_rfl) ?_
  exact ok_nil
 replace hS:=SymF.fb hS hF [1000] [⟨(p1 0).N,#[.int .u64 (wh:Int),.int .i64 (tn:Int)],68,true⟩] (by kernel_rfl) (by kernel_rfl)
 replace hG:=hF.gx
 clear hF
 have z1:=hS.fr.size
 refine wp_seq ?_
 refine wp_symQ hS hG hK (fun p2=>[.v 8 (.int .i64 0),.v 9 (.int .i64 0)]) (fun p2=>[(1,.int .u64 (n:Int)),(3,.pointer (some ⟨(p1 0).N,0,none⟩)),(6,.int .u64 0),(7,.bool false),(8,.int .i64 0),(9,.int .i64 0)]) (by kernel_rfl) (fun _ _=>by kernel_rfl) (fun _=>by kernel_rfl) (fun _=>by kernel_rfl) (fun p2=>?_) (fun p2 W2 T hF hK=>?_)
 ·iterate 2 refine ok_v (by kernel_rfl) ?_
  exact ok_nil
 replace hS:=SymF.fb hS hF [0] [⟨(p1 0).N,#[.int .u64 (wh:Int),.int .i64 (tn:Int)],68,true⟩] (by kernel_rfl) (by kernel_rfl)
 replace hG:=hF.gx
 clear hF
 have z2:=hS.fr.size
 refine wp_block ?_
 refine wp_loop_rounds 1 ?_
 refine rounds_s ?_
 refine wp_symQ hS hG hK (fun p3=>[.v 10 (.bool false)]) (fun p3=>[(1,.int .u64 (n:Int)),(3,.pointer (some ⟨(p1 0).N,0,none⟩)),(6,.int .u64 0),(7,.bool false),(8,.int .i64 0),(9,.int .i64 0),(10,.bool false)]) (by kernel_rfl) (fun _ _=>by kernel_rfl) (fun _=>by kernel_rfl) (fun _=>by kernel_rfl) (fun p3=>?_) (fun p3 W3 T hF hK=>?_)
 ·refine ok_v (by kernel_rfl) ?_
  exact ok_nil
 replace hS:=SymF.fb hS hF [0] [⟨(p1 0).N,#[.int .u64 (wh:Int),.int .i64 (tn:Int)],68,true⟩] (by kernel_rfl) (by kernel_rfl)
 replace hG:=hF.gx
 clear hF
 have z3:=hS.fr.size
 refine wp_seq ?_
 refine wp_cond_false (hK.ev 10 (by kernel_rfl) _ (by kernel_rfl)) ?_
 refine wp_exit ?_
 refine then_x ?_
 refine then_x ?_
 refine inb_x ?_
 refine then_n ?_
 refine wp_symQ hS hG hK (fun p4=>[.v 19 (.int .u64 (n:Int)),.v 20 (.int .u64 (n:Int)),.v 21 (.pointer (some ⟨(p1 0).N,0,none⟩)),.l 22 (.int .u64 (wh:Int)) 0 0,.v 23 (.bool false),.v 6 (.int .u64 (n:Int)),.v 7 (.bool false)]) (fun p4=>[(1,.int .u64 (n:Int)),(3,.pointer (some ⟨(p1 0).N,0,none⟩)),(6,.int .u64 (n:Int)),(7,.bool false),(9,.int .i64 0),(10,.bool false)]) (by kernel_rfl) (fun _ _=>by kernel_rfl) (fun _=>by kernel_rfl) (fun _=>by kernel_rfl) (fun p4=>?_) (fun p4 W4 T hF hK=>?_)
 ·iterate 3 refine ok_v (by kernel_rfl) ?_
  refine ok_L (by kernel_rfl) (by kernel_rfl) (by kernel_rfl) ?_
  refine ok_vb (decide_eq_false (show ¬ (n:Int)≤(wh:Int) by omega)) (by kernel_rfl) ?_
  iterate 2 refine ok_v (by kernel_rfl) ?_
  exact ok_nil
 replace hS:=SymF.fb hS hF [0] [⟨(p1 0).N,#[.int .u64 (wh:Int),.int .i64 (tn:Int)],68,true⟩] (by kernel_rfl) (by kernel_rfl)
 replace hG:=hF.gx
 clear hF
 have z4:=hS.fr.size
 refine wp_ret ?_
 exact sym_end hS hK (.tuple #[.int .u64 (n:Int),.bool false]) [] [] (by kernel_rfl) (by kernel_rfl) ⟨rfl,hS.fr⟩
theorem qrai_ok (w:World) (wh tn n t q:Nat) (nv:Nat→Nat) (h0:nv 0 = n) (hs:∀ j,j < q→nv (j+1) = nv j * 10) (hb:∀ j,j < q→nv j≤wh / 10) (hq:q≤1000) (ht:t = q) (hw:wh < 1000000000000000000) (hl:nv q≤wh)  :
  Calls Tryz.prog 56 #[.agg #[.int .u64 (wh:Int),.int .i64 (tn:Int)],.int .u64 (n:Int),.int .i64 (t:Int)] w fun en w'=>en = .returned (.tuple #[.int .u64 ((nv (q - 0):Nat):Int),.bool true])∧Below w.heap.size w w':=by
 obtain ⟨k,hkz⟩:∃ k,k = q:=⟨_,rfl⟩
 have hkn:k≤q:=by omega
 refine calls_sym Tryz.func56 rfl (by kernel_rfl) fun T hK=>?_
 replace hK:Kn T _ [(0,.agg #[.int .u64 (wh:Int),.int .i64 (tn:Int)]),(1,.int .u64 (n:Int)),(2,.int .i64 (t:Int))]:=hK
 have hS:=Fb.begin w
 have hG:GsAt [] w:=trivial
 refine wp_symQ hS hG hK (fun p1=>[.n 3 #[.int .u64 (wh:Int),.int .i64 (tn:Int)] 68,.v 6 (.int .u64 0),.v 7 (.bool false)]) (fun p1=>[(1,.int .u64 (n:Int)),(2,.int .i64 (t:Int)),(3,.pointer (some ⟨(p1 0).N,0,none⟩)),(6,.int .u64 0),(7,.bool false)]) (by kernel_rfl) (fun _ _=>by kernel_rfl) (fun _=>by kernel_rfl) (fun _=>by kernel_rfl) (fun p1=>?_) (fun p1 W1 T hF hK=>?_)
 ·refine ok_n (fun _=>by kernel_rfl) ?_
  iterate 2 refine ok_v (by kernel_rfl) ?_
  exact ok_nil
 replace hS:=SymF.fb hS hF [1000] [⟨(p1 0).N,#[.int .u64 (wh:Int),.int .i64 (tn:Int)],68,true⟩] (by kernel_rfl) (by kernel_rfl)
 replace hG:=hF.gx
 clear hF
 have z1:=hS.fr.size
 refine wp_seq ?_
 refine wp_symQ hS hG hK (fun p2=>[.v 8 (.int .i64 (t:Int)),.v 9 (.int .i64 0)]) (fun p2=>[(1,.int .u64 (n:Int)),(3,.pointer (some ⟨(p1 0).N,0,none⟩)),(6,.int .u64 0),(7,.bool false),(8,.int .i64 (t:Int)),(9,.int .i64 0)]) (by kernel_rfl) (fun _ _=>by kernel_rfl) (fun _=>by kernel_rfl) (fun _=>by kernel_rfl) (fun p2=>?_) (fun p2 W2 T hF hK=>?_)
 ·iterate 2 refine ok_v (by kernel_rfl) ?_
  exact ok_nil
 replace hS:=SymF.fb hS hF [0] [⟨(p1 0).N,#[.int .u64 (wh:Int),.int .i64 (tn:Int)],68,true⟩] (by kernel_rfl) (by kernel_rfl)
 replace hG:=hF.gx
 clear hF
 have z2:=hS.fr.size
 refine wp_block ?_
 replace hK:Kn T _ [(1,.int .u64 (n:Int)),(3,.pointer (some ⟨(p1 0).N,0,none⟩)),(8,.int .i64 (t:Int)),(9,.int .i64 0)]:=kn_out (ds:=[]) hK rfl rfl _ (by kernel_rfl) (by kernel_rfl)
 have h1:Value.int .u64 (n:Int) = .int .u64 ((nv (q - k):Nat):Int):=by rw [hkz,Nat.sub_self,h0]
 have h9:Value.int .i64 0 = .int .i64 ((q - k:Nat):Int):=by rw [hkz,Nat.sub_self]; rfl
 rw [h1,h9] at hK
 clear h1 h9 hkz
 refine wp_loop_rounds (k+1) ?_
 clear z2
 induction k generalizing T W2 with
 | succ k ih=>
  have z2:=hS.fr.size
  have hj:=hs (q - (k+1)) (by omega)
  have hj1:q - (k+1)+1 = q - k:=by omega
  rw [hj1] at hj
  have hb1:=hb (q - (k+1)) (by omega)
  refine rounds_s ?_
  refine wp_symQ hS hG hK (fun p3=>[.v 10 (.bool true)]) (fun p3=>[(1,.int .u64 ((nv (q - (k+1)):Nat):Int)),(3,.pointer (some ⟨(p1 0).N,0,none⟩)),(8,.int .i64 (t:Int)),(9,.int .i64 ((q - (k+1):Nat):Int)),(10,.bool true)]) (by kernel_rfl) (fun _ _=>by kernel_rfl) (fun _=>by kernel_rfl) (fun _=>by kernel_rfl) (fun p3=>?_) (fun p3 W3 T hF hK=>?_)
  ·refine ok_vb (decide_eq_true (show ((q - (k+1):Nat):Int) < (t:Int) by omega)) (by kernel_rfl) ?_
   exact ok_nil
  replace hS:=SymF.fb hS hF [0] [⟨(p1 0).N,#[.int .u64 (wh:Int),.int .i64 (tn:Int)],68,true⟩] (by kernel_rfl) (by kernel_rfl)
  replace hG:=hF.gx
  clear hF
  have z3:=hS.fr.size
  refine wp_seq ?_
  refine wp_cond_true (hK.ev 10 (by kernel_rfl) _ (by kernel_rfl)) ?_
  refine wp_skip ?_
  refine then_n ?_
  refine wp_seq ?_
  refine wp_block ?_
  refine wp_seq ?_
  refine wp_symQ hS hG hK (fun p4=>[.v 11 (.int .u64 ((nv (q - (k+1)):Nat):Int)),.v 12 (.pointer (some ⟨(p1 0).N,0,none⟩)),.l 13 (.int .u64 (wh:Int)) 0 0,.v 14 (.int .u64 ((wh / 10:Nat):Int)),.v 15 (.bool false)]) (fun p4=>[(1,.int .u64 ((nv (q - (k+1)):Nat):Int)),(3,.pointer (some ⟨(p1 0).N,0,none⟩)),(8,.int .i64 (t:Int)),(9,.int .i64 ((q - (k+1):Nat):Int)),(10,.bool true),(11,.int .u64 ((nv (q - (k+1)):Nat):Int)),(12,.pointer (some ⟨(p1 0).N,0,none⟩)),(13,.int .u64 (wh:Int)),(14,.int .u64 ((wh / 10:Nat):Int)),(15,.bool false)]) (by kernel_rfl) (fun _ _=>by kernel_rfl) (fun _=>by kernel_rfl) (fun _=>by kernel_rfl) (fun p4=>?_) (fun p4 W4 T hF hK=>?_)
  ·iterate 2 refine ok_v (by kernel_rfl) ?_
   refine ok_L (by kernel_rfl) (by kernel_rfl) (by kernel_rfl) ?_
   refine ok_vi (show IntKind.u64.wrap (Int.tdiv (wh:Int) 10) = ((wh / 10:Nat):Int) by rw [Int.tdiv_eq_ediv_of_nonneg (by omega),wrQ (by omega) (by omega)]; omega) (by kernel_rfl) ?_
   refine ok_vb (decide_eq_false (show ¬ ((nv (q - (k+1)):Nat):Int) > ((wh / 10:Nat):Int) by omega)) (by kernel_rfl) ?_
   exact ok_nil
  replace hS:=SymF.fb hS hF [0] [⟨(p1 0).N,#[.int .u64 (wh:Int),.int .i64 (tn:Int)],68,true⟩] (by kernel_rfl) (by kernel_rfl)
  replace hG:=hF.gx
  clear hF
  have z4:=hS.fr.size
  refine wp_cond_false (hK.ev 15 (by kernel_rfl) _ (by kernel_rfl)) ?_
  refine wp_skip ?_
  refine then_n ?_
  refine wp_symG hS hG hK (fun p5=>[.v 16 (.int .u64 ((nv (q - (k+1)):Nat):Int)),.v 17 (.int .u64 ((nv (q - k):Nat):Int)),.v 1 (.int .u64 ((nv (q - k):Nat):Int))]) (fun p5=>[(1,.int .u64 ((nv (q - k):Nat):Int)),(3,.pointer (some ⟨(p1 0).N,0,none⟩)),(8,.int .i64 (t:Int)),(9,.int .i64 ((q - (k+1):Nat):Int)),(10,.bool true),(11,.int .u64 ((nv (q - (k+1)):Nat):Int)),(12,.pointer (some ⟨(p1 0).N,0,none⟩)),(13,.int .u64 (wh:Int)),(14,.int .u64 ((wh / 10:Nat):Int)),(15,.bool false),(16,.int .u64 ((nv (q - (k+1)):Nat):Int)),(17,.int .u64 ((nv (q - k):Nat):Int))]) (by kernel_rfl) (fun _ _=>by kernel_rfl) (fun _=>by kernel_rfl) (fun _=>by kernel_rfl) (fun p5=>?_) (fun p5 W5 T hF hK=>?_)
  ·refine ok_v (by kernel_rfl) ?_
   refine ok_vi ((wrQ (x:=((nv (q - (k+1)):Nat):Int) * 10) (by omega) (by omega)).trans (by omega)) (by kernel_rfl) ?_
   refine ok_v (by kernel_rfl) ?_
   exact ok_nil
  replace hS:=SymF.fb hS hF [0] [⟨(p1 0).N,#[.int .u64 (wh:Int),.int .i64 (tn:Int)],68,true⟩] (by kernel_rfl) (by kernel_rfl)
  replace hG:=hF.gx
  clear hF
  have z5:=hS.fr.size
  refine inb_n ?_
  refine then_n ?_
  refine wp_symG hS hG hK (fun p6=>[.v 18 (.int .i64 ((q - k:Nat):Int)),.v 9 (.int .i64 ((q - k:Nat):Int))]) (fun p6=>[(1,.int .u64 ((nv (q - k):Nat):Int)),(3,.pointer (some ⟨(p1 0).N,0,none⟩)),(8,.int .i64 (t:Int)),(9,.int .i64 ((q - k:Nat):Int)),(10,.bool true),(11,.int .u64 ((nv (q - (k+1)):Nat):Int)),(12,.pointer (some ⟨(p1 0).N,0,none⟩)),(13,.int .u64 (wh:Int)),(14,.int .u64 ((wh / 10:Nat):Int)),(15,.bool false),(16,.int .u64 ((nv (q - (k+1)):Nat):Int)),(17,.int .u64 ((nv (q - k):Nat):Int)),(18,.int .i64 ((q - k:Nat):Int))]) (by kernel_rfl) (fun _ _=>by kernel_rfl) (fun _=>by kernel_rfl) (fun _=>by kernel_rfl) (fun p6=>?_) (fun p6 W6 T hF hK=>?_)
  ·refine ok_vi ((wr64 (x:=((q - (k+1):Nat):Int)+1) (by omega) (by omega)).trans (by omega)) (by kernel_rfl) ?_
   refine ok_v (by kernel_rfl) ?_
   exact ok_nil
  replace hS:=SymF.fb hS hF [0] [⟨(p1 0).N,#[.int .u64 (wh:Int),.int .i64 (tn:Int)],68,true⟩] (by kernel_rfl) (by kernel_rfl)
  replace hG:=hF.gx
  clear hF
  have z6:=hS.fr.size
  refine then_n ?_
  replace hK:Kn T _ [(1,.int .u64 ((nv (q - k):Nat):Int)),(3,.pointer (some ⟨(p1 0).N,0,none⟩)),(8,.int .i64 (t:Int)),(9,.int .i64 ((q - k:Nat):Int))]:=kn_out (ds:=[]) hK rfl rfl _ (by kernel_rfl) (by kernel_rfl)
  refine ih ?_ _ _ ?_ ?_ ?_ <;> first|assumption|omega
 | zero=>
  have z2:=hS.fr.size
  have hq0:q - 0 = q:=by omega
  rw [← hq0] at hl
  refine rounds_s ?_
  refine wp_symQ hS hG hK (fun p7=>[.v 10 (.bool false)]) (fun p7=>[(1,.int .u64 ((nv (q - 0):Nat):Int)),(3,.pointer (some ⟨(p1 0).N,0,none⟩)),(8,.int .i64 (t:Int)),(9,.int .i64 ((q - 0:Nat):Int)),(10,.bool false)]) (by kernel_rfl) (fun _ _=>by kernel_rfl) (fun _=>by kernel_rfl) (fun _=>by kernel_rfl) (fun p7=>?_) (fun p7 W7 T hF hK=>?_)
  ·refine ok_vb (decide_eq_false (show ¬ ((q - 0:Nat):Int) < (t:Int) by omega)) (by kernel_rfl) ?_
   exact ok_nil
  replace hS:=SymF.fb hS hF [0] [⟨(p1 0).N,#[.int .u64 (wh:Int),.int .i64 (tn:Int)],68,true⟩] (by kernel_rfl) (by kernel_rfl)
  replace hG:=hF.gx
  clear hF
  have z7:=hS.fr.size
  refine wp_seq ?_
  refine wp_cond_false (hK.ev 10 (by kernel_rfl) _ (by kernel_rfl)) ?_
  refine wp_exit ?_
  refine then_x ?_
  refine then_x ?_
  refine inb_x ?_
  refine then_n ?_
  refine wp_symQ hS hG hK (fun p8=>[.v 19 (.int .u64 ((nv (q - 0):Nat):Int)),.v 20 (.int .u64 ((nv (q - 0):Nat):Int)),.v 21 (.pointer (some ⟨(p1 0).N,0,none⟩)),.l 22 (.int .u64 (wh:Int)) 0 0,.v 23 (.bool true),.v 6 (.int .u64 ((nv (q - 0):Nat):Int)),.v 7 (.bool true)]) (fun p8=>[(1,.int .u64 ((nv (q - 0):Nat):Int)),(3,.pointer (some ⟨(p1 0).N,0,none⟩)),(6,.int .u64 ((nv (q - 0):Nat):Int)),(7,.bool true),(9,.int .i64 ((q - 0:Nat):Int)),(10,.bool false)]) (by kernel_rfl) (fun _ _=>by kernel_rfl) (fun _=>by kernel_rfl) (fun _=>by kernel_rfl) (fun p8=>?_) (fun p8 W8 T hF hK=>?_)
  ·iterate 3 refine ok_v (by kernel_rfl) ?_
   refine ok_L (by kernel_rfl) (by kernel_rfl) (by kernel_rfl) ?_
   refine ok_vb (decide_eq_true (show ((nv (q - 0):Nat):Int)≤(wh:Int) by omega)) (by kernel_rfl) ?_
   iterate 2 refine ok_v (by kernel_rfl) ?_
   exact ok_nil
  replace hS:=SymF.fb hS hF [0] [⟨(p1 0).N,#[.int .u64 (wh:Int),.int .i64 (tn:Int)],68,true⟩] (by kernel_rfl) (by kernel_rfl)
  replace hG:=hF.gx
  clear hF
  have z8:=hS.fr.size
  refine wp_ret ?_
  exact sym_end hS hK (.tuple #[.int .u64 ((nv (q - 0):Nat):Int),.bool true]) [] [] (by kernel_rfl) (by kernel_rfl) ⟨rfl,hS.fr⟩
theorem qrai_far (w:World) (wh tn n t q:Nat) (nv:Nat→Nat) (h0:nv 0 = n) (hs:∀ j,j < q→nv (j+1) = nv j * 10) (hb:∀ j,j < q→nv j≤wh / 10) (hq:q≤1000) (ht:t > q) (hw:wh < 1000000000000000000) (hl:wh / 10 < nv q)  :
  Calls Tryz.prog 56 #[.agg #[.int .u64 (wh:Int),.int .i64 (tn:Int)],.int .u64 (n:Int),.int .i64 (t:Int)] w fun en w'=>en = .returned (.tuple #[.int .u64 0,.bool false])∧Below w.heap.size w w':=by
 obtain ⟨k,hkz⟩:∃ k,k = q:=⟨_,rfl⟩
 have hkn:k≤q:=by omega
 refine calls_sym Tryz.func56 rfl (by kernel_rfl) fun T hK=>?_
 replace hK:Kn T _ [(0,.agg #[.int .u64 (wh:Int),.int .i64 (tn:Int)]),(1,.int .u64 (n:Int)),(2,.int .i64 (t:Int))]:=hK
 have hS:=Fb.begin w
 have hG:GsAt [] w:=trivial
 refine wp_symQ hS hG hK (fun p1=>[.n 3 #[.int .u64 (wh:Int),.int .i64 (tn:Int)] 68,.v 6 (.int .u64 0),.v 7 (.bool false)]) (fun p1=>[(1,.int .u64 (n:Int)),(2,.int .i64 (t:Int)),(3,.pointer (some ⟨(p1 0).N,0,none⟩)),(6,.int .u64 0),(7,.bool false)]) (by kernel_rfl) (fun _ _=>by kernel_rfl) (fun _=>by kernel_rfl) (fun _=>by kernel_rfl) (fun p1=>?_) (fun p1 W1 T hF hK=>?_)
 ·refine ok_n (fun _=>by kernel_rfl) ?_
  iterate 2 refine ok_v (by kernel_rfl) ?_
  exact ok_nil
 replace hS:=SymF.fb hS hF [1000] [⟨(p1 0).N,#[.int .u64 (wh:Int),.int .i64 (tn:Int)],68,true⟩] (by kernel_rfl) (by kernel_rfl)
 replace hG:=hF.gx
 clear hF
 have z1:=hS.fr.size
 refine wp_seq ?_
 refine wp_symQ hS hG hK (fun p2=>[.v 8 (.int .i64 (t:Int)),.v 9 (.int .i64 0)]) (fun p2=>[(1,.int .u64 (n:Int)),(3,.pointer (some ⟨(p1 0).N,0,none⟩)),(6,.int .u64 0),(7,.bool false),(8,.int .i64 (t:Int)),(9,.int .i64 0)]) (by kernel_rfl) (fun _ _=>by kernel_rfl) (fun _=>by kernel_rfl) (fun _=>by kernel_rfl) (fun p2=>?_) (fun p2 W2 T hF hK=>?_)
 ·iterate 2 refine ok_v (by kernel_rfl) ?_
  exact ok_nil
 replace hS:=SymF.fb hS hF [0] [⟨(p1 0).N,#[.int .u64 (wh:Int),.int .i64 (tn:Int)],68,true⟩] (by kernel_rfl) (by kernel_rfl)
 replace hG:=hF.gx
 clear hF
 have z2:=hS.fr.size
 refine wp_block ?_
 replace hK:Kn T _ [(1,.int .u64 (n:Int)),(3,.pointer (some ⟨(p1 0).N,0,none⟩)),(8,.int .i64 (t:Int)),(9,.int .i64 0)]:=kn_out (ds:=[]) hK rfl rfl _ (by kernel_rfl) (by kernel_rfl)
 have h1:Value.int .u64 (n:Int) = .int .u64 ((nv (q - k):Nat):Int):=by rw [hkz,Nat.sub_self,h0]
 have h9:Value.int .i64 0 = .int .i64 ((q - k:Nat):Int):=by rw [hkz,Nat.sub_self]; rfl
 rw [h1,h9] at hK
 clear h1 h9 hkz
 refine wp_loop_rounds (k+1) ?_
 clear z2
 induction k generalizing T W2 with
 | succ k ih=>
  have z2:=hS.fr.size
  have hj:=hs (q - (k+1)) (by omega)
  have hj1:q - (k+1)+1 = q - k:=by omega
  rw [hj1] at hj
  have hb1:=hb (q - (k+1)) (by omega)
  refine rounds_s ?_
  refine wp_symQ hS hG hK (fun p3=>[.v 10 (.bool true)]) (fun p3=>[(1,.int .u64 ((nv (q - (k+1)):Nat):Int)),(3,.pointer (some ⟨(p1 0).N,0,none⟩)),(8,.int .i64 (t:Int)),(9,.int .i64 ((q - (k+1):Nat):Int)),(10,.bool true)]) (by kernel_rfl) (fun _ _=>by kernel_rfl) (fun _=>by kernel_rfl) (fun _=>by kernel_rfl) (fun p3=>?_) (fun p3 W3 T hF hK=>?_)
  ·refine ok_vb (decide_eq_true (show ((q - (k+1):Nat):Int) < (t:Int) by omega)) (by kernel_rfl) ?_
   exact ok_nil
  replace hS:=SymF.fb hS hF [0] [⟨(p1 0).N,#[.int .u64 (wh:Int),.int .i64 (tn:Int)],68,true⟩] (by kernel_rfl) (by kernel_rfl)
  replace hG:=hF.gx
  clear hF
  have z3:=hS.fr.size
  refine wp_seq ?_
  refine wp_cond_true (hK.ev 10 (by kernel_rfl) _ (by kernel_rfl)) ?_
  refine wp_skip ?_
  refine then_n ?_
  refine wp_seq ?_
  refine wp_block ?_
  refine wp_seq ?_
  refine wp_symQ hS hG hK (fun p4=>[.v 11 (.int .u64 ((nv (q - (k+1)):Nat):Int)),.v 12 (.pointer (some ⟨(p1 0).N,0,none⟩)),.l 13 (.int .u64 (wh:Int)) 0 0,.v 14 (.int .u64 ((wh / 10:Nat):Int)),.v 15 (.bool false)]) (fun p4=>[(1,.int .u64 ((nv (q - (k+1)):Nat):Int)),(3,.pointer (some ⟨(p1 0).N,0,none⟩)),(8,.int .i64 (t:Int)),(9,.int .i64 ((q - (k+1):Nat):Int)),(10,.bool true),(11,.int .u64 ((nv (q - (k+1)):Nat):Int)),(12,.pointer (some ⟨(p1 0).N,0,none⟩)),(13,.int .u64 (wh:Int)),(14,.int .u64 ((wh / 10:Nat):Int)),(15,.bool false)]) (by kernel_rfl) (fun _ _=>by kernel_rfl) (fun _=>by kernel_rfl) (fun _=>by kernel_rfl) (fun p4=>?_) (fun p4 W4 T hF hK=>?_)
  ·iterate 2 refine ok_v (by kernel_rfl) ?_
   refine ok_L (by kernel_rfl) (by kernel_rfl) (by kernel_rfl) ?_
   refine ok_vi (show IntKind.u64.wrap (Int.tdiv (wh:Int) 10) = ((wh / 10:Nat):Int) by rw [Int.tdiv_eq_ediv_of_nonneg (by omega),wrQ (by omega) (by omega)]; omega) (by kernel_rfl) ?_
   refine ok_vb (decide_eq_false (show ¬ ((nv (q - (k+1)):Nat):Int) > ((wh / 10:Nat):Int) by omega)) (by kernel_rfl) ?_
   exact ok_nil
  replace hS:=SymF.fb hS hF [0] [⟨(p1 0).N,#[.int .u64 (wh:Int),.int .i64 (tn:Int)],68,true⟩] (by kernel_rfl) (by kernel_rfl)
  replace hG:=hF.gx
  clear hF
  have z4:=hS.fr.size
  refine wp_cond_false (hK.ev 15 (by kernel_rfl) _ (by kernel_rfl)) ?_
  refine wp_skip ?_
  refine then_n ?_
  refine wp_symG hS hG hK (fun p5=>[.v 16 (.int .u64 ((nv (q - (k+1)):Nat):Int)),.v 17 (.int .u64 ((nv (q - k):Nat):Int)),.v 1 (.int .u64 ((nv (q - k):Nat):Int))]) (fun p5=>[(1,.int .u64 ((nv (q - k):Nat):Int)),(3,.pointer (some ⟨(p1 0).N,0,none⟩)),(8,.int .i64 (t:Int)),(9,.int .i64 ((q - (k+1):Nat):Int)),(10,.bool true),(11,.int .u64 ((nv (q - (k+1)):Nat):Int)),(12,.pointer (some ⟨(p1 0).N,0,none⟩)),(13,.int .u64 (wh:Int)),(14,.int .u64 ((wh / 10:Nat):Int)),(15,.bool false),(16,.int .u64 ((nv (q - (k+1)):Nat):Int)),(17,.int .u64 ((nv (q - k):Nat):Int))]) (by kernel_rfl) (fun _ _=>by kernel_rfl) (fun _=>by kernel_rfl) (fun _=>by kernel_rfl) (fun p5=>?_) (fun p5 W5 T hF hK=>?_)
  ·refine ok_v (by kernel_rfl) ?_
   refine ok_vi ((wrQ (x:=((nv (q - (k+1)):Nat):Int) * 10) (by omega) (by omega)).trans (by omega)) (by kernel_rfl) ?_
   refine ok_v (by kernel_rfl) ?_
   exact ok_nil
  replace hS:=SymF.fb hS hF [0] [⟨(p1 0).N,#[.int .u64 (wh:Int),.int .i64 (tn:Int)],68,true⟩] (by kernel_rfl) (by kernel_rfl)
  replace hG:=hF.gx
  clear hF
  have z5:=hS.fr.size
  refine inb_n ?_
  refine then_n ?_
  refine wp_symG hS hG hK (fun p6=>[.v 18 (.int .i64 ((q - k:Nat):Int)),.v 9 (.int .i64 ((q - k:Nat):Int))]) (fun p6=>[(1,.int .u64 ((nv (q - k):Nat):Int)),(3,.pointer (some ⟨(p1 0).N,0,none⟩)),(8,.int .i64 (t:Int)),(9,.int .i64 ((q - k:Nat):Int)),(10,.bool true),(11,.int .u64 ((nv (q - (k+1)):Nat):Int)),(12,.pointer (some ⟨(p1 0).N,0,none⟩)),(13,.int .u64 (wh:Int)),(14,.int .u64 ((wh / 10:Nat):Int)),(15,.bool false),(16,.int .u64 ((nv (q - (k+1)):Nat):Int)),(17,.int .u64 ((nv (q - k):Nat):Int)),(18,.int .i64 ((q - k:Nat):Int))]) (by kernel_rfl) (fun _ _=>by kernel_rfl) (fun _=>by kernel_rfl) (fun _=>by kernel_rfl) (fun p6=>?_) (fun p6 W6 T hF hK=>?_)
  ·refine ok_vi ((wr64 (x:=((q - (k+1):Nat):Int)+1) (by omega) (by omega)).trans (by omega)) (by kernel_rfl) ?_
   refine ok_v (by kernel_rfl) ?_
   exact ok_nil
  replace hS:=SymF.fb hS hF [0] [⟨(p1 0).N,#[.int .u64 (wh:Int),.int .i64 (tn:Int)],68,true⟩] (by kernel_rfl) (by kernel_rfl)
  replace hG:=hF.gx
  clear hF
  have z6:=hS.fr.size
  refine then_n ?_
  replace hK:Kn T _ [(1,.int .u64 ((nv (q - k):Nat):Int)),(3,.pointer (some ⟨(p1 0).N,0,none⟩)),(8,.int .i64 (t:Int)),(9,.int .i64 ((q - k:Nat):Int))]:=kn_out (ds:=[]) hK rfl rfl _ (by kernel_rfl) (by kernel_rfl)
  refine ih ?_ _ _ ?_ ?_ ?_ <;> first|assumption|omega
 | zero=>
  have z2:=hS.fr.size
  have hq0:q - 0 = q:=by omega
  rw [← hq0] at hl
  refine rounds_s ?_
  refine wp_symQ hS hG hK (fun p7=>[.v 10 (.bool true)]) (fun p7=>[(1,.int .u64 ((nv (q - 0):Nat):Int)),(3,.pointer (some ⟨(p1 0).N,0,none⟩)),(8,.int .i64 (t:Int)),(9,.int .i64 ((q - 0:Nat):Int)),(10,.bool true)]) (by kernel_rfl) (fun _ _=>by kernel_rfl) (fun _=>by kernel_rfl) (fun _=>by kernel_rfl) (fun p7=>?_) (fun p7 W7 T hF hK=>?_)
  ·refine ok_vb (decide_eq_true (show ((q - 0:Nat):Int) < (t:Int) by omega)) (by kernel_rfl) ?_
   exact ok_nil
  replace hS:=SymF.fb hS hF [0] [⟨(p1 0).N,#[.int .u64 (wh:Int),.int .i64 (tn:Int)],68,true⟩] (by kernel_rfl) (by kernel_rfl)
  replace hG:=hF.gx
  clear hF
  have z7:=hS.fr.size
  refine wp_seq ?_
  refine wp_cond_true (hK.ev 10 (by kernel_rfl) _ (by kernel_rfl)) ?_
  refine wp_skip ?_
  refine then_n ?_
  refine wp_seq ?_
  refine wp_block ?_
  refine wp_seq ?_
  refine wp_symQ hS hG hK (fun p8=>[.v 11 (.int .u64 ((nv (q - 0):Nat):Int)),.v 12 (.pointer (some ⟨(p1 0).N,0,none⟩)),.l 13 (.int .u64 (wh:Int)) 0 0,.v 14 (.int .u64 ((wh / 10:Nat):Int)),.v 15 (.bool true)]) (fun p8=>[(1,.int .u64 ((nv (q - 0):Nat):Int)),(3,.pointer (some ⟨(p1 0).N,0,none⟩)),(8,.int .i64 (t:Int)),(9,.int .i64 ((q - 0:Nat):Int)),(10,.bool true),(11,.int .u64 ((nv (q - 0):Nat):Int)),(12,.pointer (some ⟨(p1 0).N,0,none⟩)),(13,.int .u64 (wh:Int)),(14,.int .u64 ((wh / 10:Nat):Int)),(15,.bool true)]) (by kernel_rfl) (fun _ _=>by kernel_rfl) (fun _=>by kernel_rfl) (fun _=>by kernel_rfl) (fun p8=>?_) (fun p8 W8 T hF hK=>?_)
  ·iterate 2 refine ok_v (by kernel_rfl) ?_
   refine ok_L (by kernel_rfl) (by kernel_rfl) (by kernel_rfl) ?_
   refine ok_vi (show IntKind.u64.wrap (Int.tdiv (wh:Int) 10) = ((wh / 10:Nat):Int) by rw [Int.tdiv_eq_ediv_of_nonneg (by omega),wrQ (by omega) (by omega)]; omega) (by kernel_rfl) ?_
   refine ok_vb (decide_eq_true (show ((nv (q - 0):Nat):Int) > ((wh / 10:Nat):Int) by omega)) (by kernel_rfl) ?_
   exact ok_nil
  replace hS:=SymF.fb hS hF [0] [⟨(p1 0).N,#[.int .u64 (wh:Int),.int .i64 (tn:Int)],68,true⟩] (by kernel_rfl) (by kernel_rfl)
  replace hG:=hF.gx
  clear hF
  have z8:=hS.fr.size
  refine wp_cond_true (hK.ev 15 (by kernel_rfl) _ (by kernel_rfl)) ?_
  refine wp_symQ hS hG hK (fun p9=>[.v 6 (.int .u64 0),.v 7 (.bool false)]) (fun p9=>[(1,.int .u64 ((nv (q - 0):Nat):Int)),(3,.pointer (some ⟨(p1 0).N,0,none⟩)),(6,.int .u64 0),(7,.bool false),(8,.int .i64 (t:Int)),(9,.int .i64 ((q - 0:Nat):Int)),(10,.bool true),(11,.int .u64 ((nv (q - 0):Nat):Int)),(12,.pointer (some ⟨(p1 0).N,0,none⟩)),(13,.int .u64 (wh:Int)),(14,.int .u64 ((wh / 10:Nat):Int)),(15,.bool true)]) (by kernel_rfl) (fun _ _=>by kernel_rfl) (fun _=>by kernel_rfl) (fun _=>by kernel_rfl) (fun p9=>?_) (fun p9 W9 T hF hK=>?_)
  ·iterate 2 refine ok_v (by kernel_rfl) ?_
   exact ok_nil
  replace hS:=SymF.fb hS hF [0] [⟨(p1 0).N,#[.int .u64 (wh:Int),.int .i64 (tn:Int)],68,true⟩] (by kernel_rfl) (by kernel_rfl)
  replace hG:=hF.gx
  clear hF
  have z9:=hS.fr.size
  refine wp_ret ?_
  refine then_r ?_
  refine inb_r ?_
  refine then_r ?_
  refine then_r ?_
  refine inb_r ?_
  refine then_r ?_
  exact sym_end hS hK (.tuple #[.int .u64 0,.bool false]) [] [] (by kernel_rfl) (by kernel_rfl) ⟨rfl,hS.fr⟩
theorem qfac_low (w:World) (wh tn:Nat) (g:Bool) (s:ByteArray) (x:Int) (ht:tn≤22) (hx:x < -(tn:Int)) (HC:Hid (∀ W:World,Calls Tryz.prog 6 #[.agg #[.bool g,.string s,.int .i64 x]] W fun e W'=>e = .returned (.int .i64 0)∧Below W.heap.size W W')) :
  Calls Tryz.prog 31 #[.agg #[.int .u64 (wh:Int),.int .i64 (tn:Int)],.agg #[.bool g,.string s,.int .i64 x]] w fun en w'=>en = .returned (.tuple #[.int .u64 0,.int .i64 0,.bool false])∧Below w.heap.size w w':=by
 refine calls_sym Tryz.func31 rfl (by kernel_rfl) fun T hK=>?_
 replace hK:Kn T _ [(0,.agg #[.int .u64 (wh:Int),.int .i64 (tn:Int)]),(1,.agg #[.bool g,.string s,.int .i64 x])]:=hK
 have hS:=Fb.begin w
 have hG:GsAt [] w:=trivial
 refine wp_symQ hS hG hK (fun p1=>[.n 2 #[.int .u64 (wh:Int),.int .i64 (tn:Int)] 68,.n 3 #[.bool g,.string s,.int .i64 x] 23,.v 4 (.int .u64 0),.v 5 (.int .i64 0),.v 6 (.bool false)]) (fun p1=>[(2,.pointer (some ⟨(p1 0).N,0,none⟩)),(3,.pointer (some ⟨(p1 1).N,0,none⟩)),(4,.int .u64 0),(5,.int .i64 0),(6,.bool false)]) (by kernel_rfl) (fun _ _=>by kernel_rfl) (fun _=>by kernel_rfl) (fun _=>by kernel_rfl) (fun p1=>?_) (fun p1 W1 T hF hK=>?_)
 ·iterate 2 refine ok_n (fun _=>by kernel_rfl) ?_
  iterate 3 refine ok_v (by kernel_rfl) ?_
  exact ok_nil
 replace hS:=SymF.fb hS hF [1000,1001] [⟨(p1 0).N,#[.int .u64 (wh:Int),.int .i64 (tn:Int)],68,true⟩,⟨(p1 1).N,#[.bool g,.string s,.int .i64 x],23,true⟩] (by kernel_rfl) (by kernel_rfl)
 replace hG:=hF.gx
 clear hF
 have z1:=hS.fr.size
 refine wp_seq ?_
 refine wp_symQ hS hG hK (fun p2=>[.l 7 (.agg #[.bool g,.string s,.int .i64 x]) 1 0,.c (some 8) (cV (.int .i64 0)),.v 9 (.bool false),.v 10 (.bool false),.v 11 (.pointer (some ⟨(p1 1).N,2,none⟩)),.l 12 (.int .i64 x) 1 2,.v 13 (.pointer (some ⟨(p1 0).N,1,none⟩)),.l 14 (.int .i64 (tn:Int)) 0 1,.v 15 (.int .i64 (-(tn:Int))),.v 16 (.bool true),.v 17 (.bool true)]) (fun p2=>[(2,.pointer (some ⟨(p1 0).N,0,none⟩)),(3,.pointer (some ⟨(p1 1).N,0,none⟩)),(4,.int .u64 0),(5,.int .i64 0),(6,.bool false),(17,.bool true)]) (by kernel_rfl) (fun _ _=>by kernel_rfl) (fun _=>by kernel_rfl) (fun _=>by kernel_rfl) (fun p2=>?_) (fun p2 W2 T hF hK=>?_)
 ·refine ok_L (by kernel_rfl) (by kernel_rfl) (by kernel_rfl) ?_
  refine ok_c (fun W cx=>as_v (unhide HC _)) (by kernel_rfl) ?_
  iterate 3 refine ok_v (by kernel_rfl) ?_
  refine ok_L (by kernel_rfl) (by kernel_rfl) (by kernel_rfl) ?_
  refine ok_v (by kernel_rfl) ?_
  refine ok_L (by kernel_rfl) (by kernel_rfl) (by kernel_rfl) ?_
  refine ok_vi ((wr64 (x:=0 - (tn:Int)) (by omega) (by omega)).trans (by omega)) (by kernel_rfl) ?_
  refine ok_vb (decide_eq_true (show x < -(tn:Int) by omega)) (by kernel_rfl) ?_
  refine ok_v (by kernel_rfl) ?_
  exact ok_nil
 replace hS:=SymF.fb hS hF [0,1] [⟨(p1 0).N,#[.int .u64 (wh:Int),.int .i64 (tn:Int)],68,true⟩,⟨(p1 1).N,#[.bool g,.string s,.int .i64 x],23,true⟩] (by kernel_rfl) (by kernel_rfl)
 replace hG:=hF.gx
 clear hF
 have z2:=hS.fr.size
 refine wp_cond_true (hK.ev 17 (by kernel_rfl) _ (by kernel_rfl)) ?_
 refine wp_symQ hS hG hK (fun p3=>[.v 4 (.int .u64 0),.v 5 (.int .i64 0),.v 6 (.bool false)]) (fun p3=>[(2,.pointer (some ⟨(p1 0).N,0,none⟩)),(3,.pointer (some ⟨(p1 1).N,0,none⟩)),(4,.int .u64 0),(5,.int .i64 0),(6,.bool false),(17,.bool true)]) (by kernel_rfl) (fun _ _=>by kernel_rfl) (fun _=>by kernel_rfl) (fun _=>by kernel_rfl) (fun p3=>?_) (fun p3 W3 T hF hK=>?_)
 ·iterate 3 refine ok_v (by kernel_rfl) ?_
  exact ok_nil
 replace hS:=SymF.fb hS hF [0,1] [⟨(p1 0).N,#[.int .u64 (wh:Int),.int .i64 (tn:Int)],68,true⟩,⟨(p1 1).N,#[.bool g,.string s,.int .i64 x],23,true⟩] (by kernel_rfl) (by kernel_rfl)
 replace hG:=hF.gx
 clear hF
 have z3:=hS.fr.size
 refine wp_ret ?_
 refine then_r ?_
 exact sym_end hS hK (.tuple #[.int .u64 0,.int .i64 0,.bool false]) [] [] (by kernel_rfl) (by kernel_rfl) ⟨rfl,hS.fr⟩
theorem qfac_long (w:World) (wh tn:Nat) (g:Bool) (s:ByteArray) (x:Int) (ht:tn≤22) (hx:-(tn:Int)≤x) (HC:Hid (∀ W:World,Calls Tryz.prog 6 #[.agg #[.bool g,.string s,.int .i64 x]] W fun e W'=>e = .returned (.int .i64 0)∧Below W.heap.size W W')) (HN:Hid (∀ W:World,Calls Tryz.prog 33 #[.string s] W fun e W'=>e = .returned (.tuple #[.int .u64 0,.bool false])∧Below W.heap.size W W')) :
  Calls Tryz.prog 31 #[.agg #[.int .u64 (wh:Int),.int .i64 (tn:Int)],.agg #[.bool g,.string s,.int .i64 x]] w fun en w'=>en = .returned (.tuple #[.int .u64 0,.int .i64 0,.bool false])∧Below w.heap.size w w':=by
 refine calls_sym Tryz.func31 rfl (by kernel_rfl) fun T hK=>?_
 replace hK:Kn T _ [(0,.agg #[.int .u64 (wh:Int),.int .i64 (tn:Int)]),(1,.agg #[.bool g,.string s,.int .i64 x])]:=hK
 have hS:=Fb.begin w
 have hG:GsAt [] w:=trivial
 refine wp_symQ hS hG hK (fun p1=>[.n 2 #[.int .u64 (wh:Int),.int .i64 (tn:Int)] 68,.n 3 #[.bool g,.string s,.int .i64 x] 23,.v 4 (.int .u64 0),.v 5 (.int .i64 0),.v 6 (.bool false)]) (fun p1=>[(2,.pointer (some ⟨(p1 0).N,0,none⟩)),(3,.pointer (some ⟨(p1 1).N,0,none⟩)),(4,.int .u64 0),(5,.int .i64 0),(6,.bool false)]) (by kernel_rfl) (fun _ _=>by kernel_rfl) (fun _=>by kernel_rfl) (fun _=>by kernel_rfl) (fun p1=>?_) (fun p1 W1 T hF hK=>?_)
 ·iterate 2 refine ok_n (fun _=>by kernel_rfl) ?_
  iterate 3 refine ok_v (by kernel_rfl) ?_
  exact ok_nil
 replace hS:=SymF.fb hS hF [1000,1001] [⟨(p1 0).N,#[.int .u64 (wh:Int),.int .i64 (tn:Int)],68,true⟩,⟨(p1 1).N,#[.bool g,.string s,.int .i64 x],23,true⟩] (by kernel_rfl) (by kernel_rfl)
 replace hG:=hF.gx
 clear hF
 have z1:=hS.fr.size
 refine wp_seq ?_
 refine wp_symQ hS hG hK (fun p2=>[.l 7 (.agg #[.bool g,.string s,.int .i64 x]) 1 0,.c (some 8) (cV (.int .i64 0)),.v 9 (.bool false),.v 10 (.bool false),.v 11 (.pointer (some ⟨(p1 1).N,2,none⟩)),.l 12 (.int .i64 x) 1 2,.v 13 (.pointer (some ⟨(p1 0).N,1,none⟩)),.l 14 (.int .i64 (tn:Int)) 0 1,.v 15 (.int .i64 (-(tn:Int))),.v 16 (.bool false),.v 17 (.bool false)]) (fun p2=>[(2,.pointer (some ⟨(p1 0).N,0,none⟩)),(3,.pointer (some ⟨(p1 1).N,0,none⟩)),(4,.int .u64 0),(5,.int .i64 0),(6,.bool false),(17,.bool false)]) (by kernel_rfl) (fun _ _=>by kernel_rfl) (fun _=>by kernel_rfl) (fun _=>by kernel_rfl) (fun p2=>?_) (fun p2 W2 T hF hK=>?_)
 ·refine ok_L (by kernel_rfl) (by kernel_rfl) (by kernel_rfl) ?_
  refine ok_c (fun W cx=>as_v (unhide HC _)) (by kernel_rfl) ?_
  iterate 3 refine ok_v (by kernel_rfl) ?_
  refine ok_L (by kernel_rfl) (by kernel_rfl) (by kernel_rfl) ?_
  refine ok_v (by kernel_rfl) ?_
  refine ok_L (by kernel_rfl) (by kernel_rfl) (by kernel_rfl) ?_
  refine ok_vi ((wr64 (x:=0 - (tn:Int)) (by omega) (by omega)).trans (by omega)) (by kernel_rfl) ?_
  refine ok_vb (decide_eq_false (show ¬ x < -(tn:Int) by omega)) (by kernel_rfl) ?_
  refine ok_v (by kernel_rfl) ?_
  exact ok_nil
 replace hS:=SymF.fb hS hF [0,1] [⟨(p1 0).N,#[.int .u64 (wh:Int),.int .i64 (tn:Int)],68,true⟩,⟨(p1 1).N,#[.bool g,.string s,.int .i64 x],23,true⟩] (by kernel_rfl) (by kernel_rfl)
 replace hG:=hF.gx
 clear hF
 have z2:=hS.fr.size
 refine wp_cond_false (hK.ev 17 (by kernel_rfl) _ (by kernel_rfl)) ?_
 refine wp_skip ?_
 refine then_n ?_
 refine wp_symQ hS hG hK (fun p3=>[.v 19 (.pointer (some ⟨(p1 1).N,1,none⟩)),.l 20 (.string s) 1 1,.c (some 21) (cV (.tuple #[.int .u64 0,.bool false])),.v 18 (.tuple #[.int .u64 0,.bool false]),.v 22 (.int .u64 0),.v 23 (.bool false),.v 4 (.int .u64 0),.v 6 (.bool false)]) (fun p3=>[(2,.pointer (some ⟨(p1 0).N,0,none⟩)),(3,.pointer (some ⟨(p1 1).N,0,none⟩)),(4,.int .u64 0),(5,.int .i64 0),(6,.bool false),(17,.bool false)]) (by kernel_rfl) (fun _ _=>by kernel_rfl) (fun _=>by kernel_rfl) (fun _=>by kernel_rfl) (fun p3=>?_) (fun p3 W3 T hF hK=>?_)
 ·refine ok_v (by kernel_rfl) ?_
  refine ok_L (by kernel_rfl) (by kernel_rfl) (by kernel_rfl) ?_
  refine ok_c (fun W cx=>as_v (unhide HN _)) (by kernel_rfl) ?_
  iterate 5 refine ok_v (by kernel_rfl) ?_
  exact ok_nil
 replace hS:=SymF.fb hS hF [0,1] [⟨(p1 0).N,#[.int .u64 (wh:Int),.int .i64 (tn:Int)],68,true⟩,⟨(p1 1).N,#[.bool g,.string s,.int .i64 x],23,true⟩] (by kernel_rfl) (by kernel_rfl)
 replace hG:=hF.gx
 clear hF
 have z3:=hS.fr.size
 refine wp_seq ?_
 refine wp_symQ hS hG hK (fun p4=>[.v 24 (.bool false),.v 25 (.bool true)]) (fun p4=>[(2,.pointer (some ⟨(p1 0).N,0,none⟩)),(3,.pointer (some ⟨(p1 1).N,0,none⟩)),(4,.int .u64 0),(5,.int .i64 0),(6,.bool false),(17,.bool false),(25,.bool true)]) (by kernel_rfl) (fun _ _=>by kernel_rfl) (fun _=>by kernel_rfl) (fun _=>by kernel_rfl) (fun p4=>?_) (fun p4 W4 T hF hK=>?_)
 ·iterate 2 refine ok_v (by kernel_rfl) ?_
  exact ok_nil
 replace hS:=SymF.fb hS hF [0,1] [⟨(p1 0).N,#[.int .u64 (wh:Int),.int .i64 (tn:Int)],68,true⟩,⟨(p1 1).N,#[.bool g,.string s,.int .i64 x],23,true⟩] (by kernel_rfl) (by kernel_rfl)
 replace hG:=hF.gx
 clear hF
 have z4:=hS.fr.size
 refine wp_cond_true (hK.ev 25 (by kernel_rfl) _ (by kernel_rfl)) ?_
 refine wp_symQ hS hG hK (fun p5=>[.v 4 (.int .u64 0),.v 5 (.int .i64 0),.v 6 (.bool false)]) (fun p5=>[(2,.pointer (some ⟨(p1 0).N,0,none⟩)),(3,.pointer (some ⟨(p1 1).N,0,none⟩)),(4,.int .u64 0),(5,.int .i64 0),(6,.bool false),(17,.bool false),(25,.bool true)]) (by kernel_rfl) (fun _ _=>by kernel_rfl) (fun _=>by kernel_rfl) (fun _=>by kernel_rfl) (fun p5=>?_) (fun p5 W5 T hF hK=>?_)
 ·iterate 3 refine ok_v (by kernel_rfl) ?_
  exact ok_nil
 replace hS:=SymF.fb hS hF [0,1] [⟨(p1 0).N,#[.int .u64 (wh:Int),.int .i64 (tn:Int)],68,true⟩,⟨(p1 1).N,#[.bool g,.string s,.int .i64 x],23,true⟩] (by kernel_rfl) (by kernel_rfl)
 replace hG:=hF.gx
 clear hF
 have z5:=hS.fr.size
 refine wp_ret ?_
 refine then_r ?_
 exact sym_end hS hK (.tuple #[.int .u64 0,.int .i64 0,.bool false]) [] [] (by kernel_rfl) (by kernel_rfl) ⟨rfl,hS.fr⟩
theorem qfac_s (w:World) (wh tn:Nat) (g:Bool) (s:ByteArray) (x:Int) (n m:Nat) (b:Bool) (ht:tn≤22) (hx:-(tn:Int)≤x) (hxt:x≤(tn:Int)) (HC:Hid (∀ W:World,Calls Tryz.prog 6 #[.agg #[.bool g,.string s,.int .i64 x]] W fun e W'=>e = .returned (.int .i64 0)∧Below W.heap.size W W')) (HN:Hid (∀ W:World,Calls Tryz.prog 33 #[.string s] W fun e W'=>e = .returned (.tuple #[.int .u64 (n:Int),.bool true])∧Below W.heap.size W W')) (HR:Hid (∀ W:World,Calls Tryz.prog 56 #[.agg #[.int .u64 (wh:Int),.int .i64 (tn:Int)],.int .u64 (n:Int),.int .i64 0] W fun e W'=>e = .returned (.tuple #[.int .u64 (m:Int),.bool b])∧Below W.heap.size W W')) :
  Calls Tryz.prog 31 #[.agg #[.int .u64 (wh:Int),.int .i64 (tn:Int)],.agg #[.bool g,.string s,.int .i64 x]] w fun en w'=>en = .returned (.tuple #[.int .u64 (m:Int),.int .i64 x,.bool b])∧Below w.heap.size w w':=by
 refine calls_sym Tryz.func31 rfl (by kernel_rfl) fun T hK=>?_
 replace hK:Kn T _ [(0,.agg #[.int .u64 (wh:Int),.int .i64 (tn:Int)]),(1,.agg #[.bool g,.string s,.int .i64 x])]:=hK
 have hS:=Fb.begin w
 have hG:GsAt [] w:=trivial
 refine wp_symQ hS hG hK (fun p1=>[.n 2 #[.int .u64 (wh:Int),.int .i64 (tn:Int)] 68,.n 3 #[.bool g,.string s,.int .i64 x] 23,.v 4 (.int .u64 0),.v 5 (.int .i64 0),.v 6 (.bool false)]) (fun p1=>[(2,.pointer (some ⟨(p1 0).N,0,none⟩)),(3,.pointer (some ⟨(p1 1).N,0,none⟩)),(4,.int .u64 0),(5,.int .i64 0),(6,.bool false)]) (by kernel_rfl) (fun _ _=>by kernel_rfl) (fun _=>by kernel_rfl) (fun _=>by kernel_rfl) (fun p1=>?_) (fun p1 W1 T hF hK=>?_)
 ·iterate 2 refine ok_n (fun _=>by kernel_rfl) ?_
  iterate 3 refine ok_v (by kernel_rfl) ?_
  exact ok_nil
 replace hS:=SymF.fb hS hF [1000,1001] [⟨(p1 0).N,#[.int .u64 (wh:Int),.int .i64 (tn:Int)],68,true⟩,⟨(p1 1).N,#[.bool g,.string s,.int .i64 x],23,true⟩] (by kernel_rfl) (by kernel_rfl)
 replace hG:=hF.gx
 clear hF
 have z1:=hS.fr.size
 refine wp_seq ?_
 refine wp_symQ hS hG hK (fun p2=>[.l 7 (.agg #[.bool g,.string s,.int .i64 x]) 1 0,.c (some 8) (cV (.int .i64 0)),.v 9 (.bool false),.v 10 (.bool false),.v 11 (.pointer (some ⟨(p1 1).N,2,none⟩)),.l 12 (.int .i64 x) 1 2,.v 13 (.pointer (some ⟨(p1 0).N,1,none⟩)),.l 14 (.int .i64 (tn:Int)) 0 1,.v 15 (.int .i64 (-(tn:Int))),.v 16 (.bool false),.v 17 (.bool false)]) (fun p2=>[(2,.pointer (some ⟨(p1 0).N,0,none⟩)),(3,.pointer (some ⟨(p1 1).N,0,none⟩)),(4,.int .u64 0),(5,.int .i64 0),(6,.bool false),(17,.bool false)]) (by kernel_rfl) (fun _ _=>by kernel_rfl) (fun _=>by kernel_rfl) (fun _=>by kernel_rfl) (fun p2=>?_) (fun p2 W2 T hF hK=>?_)
 ·refine ok_L (by kernel_rfl) (by kernel_rfl) (by kernel_rfl) ?_
  refine ok_c (fun W cx=>as_v (unhide HC _)) (by kernel_rfl) ?_
  iterate 3 refine ok_v (by kernel_rfl) ?_
  refine ok_L (by kernel_rfl) (by kernel_rfl) (by kernel_rfl) ?_
  refine ok_v (by kernel_rfl) ?_
  refine ok_L (by kernel_rfl) (by kernel_rfl) (by kernel_rfl) ?_
  refine ok_vi ((wr64 (x:=0 - (tn:Int)) (by omega) (by omega)).trans (by omega)) (by kernel_rfl) ?_
  refine ok_vb (decide_eq_false (show ¬ x < -(tn:Int) by omega)) (by kernel_rfl) ?_
  refine ok_v (by kernel_rfl) ?_
  exact ok_nil
 replace hS:=SymF.fb hS hF [0,1] [⟨(p1 0).N,#[.int .u64 (wh:Int),.int .i64 (tn:Int)],68,true⟩,⟨(p1 1).N,#[.bool g,.string s,.int .i64 x],23,true⟩] (by kernel_rfl) (by kernel_rfl)
 replace hG:=hF.gx
 clear hF
 have z2:=hS.fr.size
 refine wp_cond_false (hK.ev 17 (by kernel_rfl) _ (by kernel_rfl)) ?_
 refine wp_skip ?_
 refine then_n ?_
 refine wp_symQ hS hG hK (fun p3=>[.v 19 (.pointer (some ⟨(p1 1).N,1,none⟩)),.l 20 (.string s) 1 1,.c (some 21) (cV (.tuple #[.int .u64 (n:Int),.bool true])),.v 18 (.tuple #[.int .u64 (n:Int),.bool true]),.v 22 (.int .u64 (n:Int)),.v 23 (.bool true),.v 4 (.int .u64 (n:Int)),.v 6 (.bool true)]) (fun p3=>[(2,.pointer (some ⟨(p1 0).N,0,none⟩)),(3,.pointer (some ⟨(p1 1).N,0,none⟩)),(4,.int .u64 (n:Int)),(5,.int .i64 0),(6,.bool true),(17,.bool false)]) (by kernel_rfl) (fun _ _=>by kernel_rfl) (fun _=>by kernel_rfl) (fun _=>by kernel_rfl) (fun p3=>?_) (fun p3 W3 T hF hK=>?_)
 ·refine ok_v (by kernel_rfl) ?_
  refine ok_L (by kernel_rfl) (by kernel_rfl) (by kernel_rfl) ?_
  refine ok_c (fun W cx=>as_v (unhide HN _)) (by kernel_rfl) ?_
  iterate 5 refine ok_v (by kernel_rfl) ?_
  exact ok_nil
 replace hS:=SymF.fb hS hF [0,1] [⟨(p1 0).N,#[.int .u64 (wh:Int),.int .i64 (tn:Int)],68,true⟩,⟨(p1 1).N,#[.bool g,.string s,.int .i64 x],23,true⟩] (by kernel_rfl) (by kernel_rfl)
 replace hG:=hF.gx
 clear hF
 have z3:=hS.fr.size
 refine wp_seq ?_
 refine wp_symQ hS hG hK (fun p4=>[.v 24 (.bool true),.v 25 (.bool false)]) (fun p4=>[(2,.pointer (some ⟨(p1 0).N,0,none⟩)),(3,.pointer (some ⟨(p1 1).N,0,none⟩)),(4,.int .u64 (n:Int)),(5,.int .i64 0),(6,.bool true),(17,.bool false),(25,.bool false)]) (by kernel_rfl) (fun _ _=>by kernel_rfl) (fun _=>by kernel_rfl) (fun _=>by kernel_rfl) (fun p4=>?_) (fun p4 W4 T hF hK=>?_)
 ·iterate 2 refine ok_v (by kernel_rfl) ?_
  exact ok_nil
 replace hS:=SymF.fb hS hF [0,1] [⟨(p1 0).N,#[.int .u64 (wh:Int),.int .i64 (tn:Int)],68,true⟩,⟨(p1 1).N,#[.bool g,.string s,.int .i64 x],23,true⟩] (by kernel_rfl) (by kernel_rfl)
 replace hG:=hF.gx
 clear hF
 have z4:=hS.fr.size
 refine wp_cond_false (hK.ev 25 (by kernel_rfl) _ (by kernel_rfl)) ?_
 refine wp_skip ?_
 refine then_n ?_
 refine wp_symQ hS hG hK (fun p5=>[.v 26 (.pointer (some ⟨(p1 1).N,2,none⟩)),.l 27 (.int .i64 x) 1 2,.v 28 (.pointer (some ⟨(p1 0).N,1,none⟩)),.l 29 (.int .i64 (tn:Int)) 0 1,.v 30 (.int .i64 x),.v 5 (.int .i64 x)]) (fun p5=>[(2,.pointer (some ⟨(p1 0).N,0,none⟩)),(3,.pointer (some ⟨(p1 1).N,0,none⟩)),(4,.int .u64 (n:Int)),(5,.int .i64 x),(6,.bool true),(17,.bool false),(25,.bool false)]) (by kernel_rfl) (fun _ _=>by kernel_rfl) (fun _=>by kernel_rfl) (fun _=>by kernel_rfl) (fun p5=>?_) (fun p5 W5 T hF hK=>?_)
 ·refine ok_v (by kernel_rfl) ?_
  refine ok_L (by kernel_rfl) (by kernel_rfl) (by kernel_rfl) ?_
  refine ok_v (by kernel_rfl) ?_
  refine ok_L (by kernel_rfl) (by kernel_rfl) (by kernel_rfl) ?_
  refine ok_vi ((show (if (tn:Int) < x then (tn:Int) else x) = x by split <;> omega)) (by kernel_rfl) ?_
  refine ok_v (by kernel_rfl) ?_
  exact ok_nil
 replace hS:=SymF.fb hS hF [0,1] [⟨(p1 0).N,#[.int .u64 (wh:Int),.int .i64 (tn:Int)],68,true⟩,⟨(p1 1).N,#[.bool g,.string s,.int .i64 x],23,true⟩] (by kernel_rfl) (by kernel_rfl)
 replace hG:=hF.gx
 clear hF
 have z5:=hS.fr.size
 refine wp_symQ hS hG hK (fun p6=>[.l 32 (.agg #[.int .u64 (wh:Int),.int .i64 (tn:Int)]) 0 0,.v 33 (.int .u64 (n:Int)),.v 34 (.pointer (some ⟨(p1 1).N,2,none⟩)),.l 35 (.int .i64 x) 1 2,.v 36 (.int .i64 x),.v 37 (.int .i64 0),.c (some 38) (cV (.tuple #[.int .u64 (m:Int),.bool b])),.v 31 (.tuple #[.int .u64 (m:Int),.bool b]),.v 39 (.int .u64 (m:Int)),.v 40 (.bool b),.v 4 (.int .u64 (m:Int)),.v 6 (.bool b)]) (fun p6=>[(4,.int .u64 (m:Int)),(5,.int .i64 x),(6,.bool b),(17,.bool false),(25,.bool false)]) (by kernel_rfl) (fun _ _=>by kernel_rfl) (fun _=>by kernel_rfl) (fun _=>by kernel_rfl) (fun p6=>?_) (fun p6 W6 T hF hK=>?_)
 ·refine ok_L (by kernel_rfl) (by kernel_rfl) (by kernel_rfl) ?_
  iterate 2 refine ok_v (by kernel_rfl) ?_
  refine ok_L (by kernel_rfl) (by kernel_rfl) (by kernel_rfl) ?_
  refine ok_v (by kernel_rfl) ?_
  refine ok_vi ((wr64 (x:=x - x) (by omega) (by omega)).trans (by omega)) (by kernel_rfl) ?_
  refine ok_c (fun W cx=>as_v (unhide HR _)) (by kernel_rfl) ?_
  iterate 5 refine ok_v (by kernel_rfl) ?_
  exact ok_nil
 replace hS:=SymF.fb hS hF [] [] (by kernel_rfl) (by kernel_rfl)
 replace hG:=hF.gx
 clear hF
 have z6:=hS.fr.size
 refine wp_symQ hS hG hK (fun p7=>[.v 41 (.int .u64 (m:Int)),.v 42 (.int .i64 x),.v 43 (.bool b),.v 4 (.int .u64 (m:Int)),.v 5 (.int .i64 x),.v 6 (.bool b)]) (fun p7=>[(4,.int .u64 (m:Int)),(5,.int .i64 x),(6,.bool b),(17,.bool false),(25,.bool false)]) (by kernel_rfl) (fun _ _=>by kernel_rfl) (fun _=>by kernel_rfl) (fun _=>by kernel_rfl) (fun p7=>?_) (fun p7 W7 T hF hK=>?_)
 ·iterate 6 refine ok_v (by kernel_rfl) ?_
  exact ok_nil
 replace hS:=SymF.fb hS hF [] [] (by kernel_rfl) (by kernel_rfl)
 replace hG:=hF.gx
 clear hF
 have z7:=hS.fr.size
 refine wp_ret ?_
 exact sym_end hS hK (.tuple #[.int .u64 (m:Int),.int .i64 x,.bool b]) [] [] (by kernel_rfl) (by kernel_rfl) ⟨rfl,hS.fr⟩
theorem qfac_b (w:World) (wh tn:Nat) (g:Bool) (s:ByteArray) (x:Int) (n m:Nat) (b:Bool) (ht:tn≤22) (hx:-(tn:Int)≤x) (hx1:x < 9223372036854775808) (hxt:(tn:Int) < x) (HC:Hid (∀ W:World,Calls Tryz.prog 6 #[.agg #[.bool g,.string s,.int .i64 x]] W fun e W'=>e = .returned (.int .i64 0)∧Below W.heap.size W W')) (HN:Hid (∀ W:World,Calls Tryz.prog 33 #[.string s] W fun e W'=>e = .returned (.tuple #[.int .u64 (n:Int),.bool true])∧Below W.heap.size W W')) (HR:Hid (∀ W:World,Calls Tryz.prog 56 #[.agg #[.int .u64 (wh:Int),.int .i64 (tn:Int)],.int .u64 (n:Int),.int .i64 (x - (tn:Int))] W fun e W'=>e = .returned (.tuple #[.int .u64 (m:Int),.bool b])∧Below W.heap.size W W')) :
  Calls Tryz.prog 31 #[.agg #[.int .u64 (wh:Int),.int .i64 (tn:Int)],.agg #[.bool g,.string s,.int .i64 x]] w fun en w'=>en = .returned (.tuple #[.int .u64 (m:Int),.int .i64 (tn:Int),.bool b])∧Below w.heap.size w w':=by
 refine calls_sym Tryz.func31 rfl (by kernel_rfl) fun T hK=>?_
 replace hK:Kn T _ [(0,.agg #[.int .u64 (wh:Int),.int .i64 (tn:Int)]),(1,.agg #[.bool g,.string s,.int .i64 x])]:=hK
 have hS:=Fb.begin w
 have hG:GsAt [] w:=trivial
 refine wp_symQ hS hG hK (fun p1=>[.n 2 #[.int .u64 (wh:Int),.int .i64 (tn:Int)] 68,.n 3 #[.bool g,.string s,.int .i64 x] 23,.v 4 (.int .u64 0),.v 5 (.int .i64 0),.v 6 (.bool false)]) (fun p1=>[(2,.pointer (some ⟨(p1 0).N,0,none⟩)),(3,.pointer (some ⟨(p1 1).N,0,none⟩)),(4,.int .u64 0),(5,.int .i64 0),(6,.bool false)]) (by kernel_rfl) (fun _ _=>by kernel_rfl) (fun _=>by kernel_rfl) (fun _=>by kernel_rfl) (fun p1=>?_) (fun p1 W1 T hF hK=>?_)
 ·iterate 2 refine ok_n (fun _=>by kernel_rfl) ?_
  iterate 3 refine ok_v (by kernel_rfl) ?_
  exact ok_nil
 replace hS:=SymF.fb hS hF [1000,1001] [⟨(p1 0).N,#[.int .u64 (wh:Int),.int .i64 (tn:Int)],68,true⟩,⟨(p1 1).N,#[.bool g,.string s,.int .i64 x],23,true⟩] (by kernel_rfl) (by kernel_rfl)
 replace hG:=hF.gx
 clear hF
 have z1:=hS.fr.size
 refine wp_seq ?_
 refine wp_symQ hS hG hK (fun p2=>[.l 7 (.agg #[.bool g,.string s,.int .i64 x]) 1 0,.c (some 8) (cV (.int .i64 0)),.v 9 (.bool false),.v 10 (.bool false),.v 11 (.pointer (some ⟨(p1 1).N,2,none⟩)),.l 12 (.int .i64 x) 1 2,.v 13 (.pointer (some ⟨(p1 0).N,1,none⟩)),.l 14 (.int .i64 (tn:Int)) 0 1,.v 15 (.int .i64 (-(tn:Int))),.v 16 (.bool false),.v 17 (.bool false)]) (fun p2=>[(2,.pointer (some ⟨(p1 0).N,0,none⟩)),(3,.pointer (some ⟨(p1 1).N,0,none⟩)),(4,.int .u64 0),(5,.int .i64 0),(6,.bool false),(17,.bool false)]) (by kernel_rfl) (fun _ _=>by kernel_rfl) (fun _=>by kernel_rfl) (fun _=>by kernel_rfl) (fun p2=>?_) (fun p2 W2 T hF hK=>?_)
 ·refine ok_L (by kernel_rfl) (by kernel_rfl) (by kernel_rfl) ?_
  refine ok_c (fun W cx=>as_v (unhide HC _)) (by kernel_rfl) ?_
  iterate 3 refine ok_v (by kernel_rfl) ?_
  refine ok_L (by kernel_rfl) (by kernel_rfl) (by kernel_rfl) ?_
  refine ok_v (by kernel_rfl) ?_
  refine ok_L (by kernel_rfl) (by kernel_rfl) (by kernel_rfl) ?_
  refine ok_vi ((wr64 (x:=0 - (tn:Int)) (by omega) (by omega)).trans (by omega)) (by kernel_rfl) ?_
  refine ok_vb (decide_eq_false (show ¬ x < -(tn:Int) by omega)) (by kernel_rfl) ?_
  refine ok_v (by kernel_rfl) ?_
  exact ok_nil
 replace hS:=SymF.fb hS hF [0,1] [⟨(p1 0).N,#[.int .u64 (wh:Int),.int .i64 (tn:Int)],68,true⟩,⟨(p1 1).N,#[.bool g,.string s,.int .i64 x],23,true⟩] (by kernel_rfl) (by kernel_rfl)
 replace hG:=hF.gx
 clear hF
 have z2:=hS.fr.size
 refine wp_cond_false (hK.ev 17 (by kernel_rfl) _ (by kernel_rfl)) ?_
 refine wp_skip ?_
 refine then_n ?_
 refine wp_symQ hS hG hK (fun p3=>[.v 19 (.pointer (some ⟨(p1 1).N,1,none⟩)),.l 20 (.string s) 1 1,.c (some 21) (cV (.tuple #[.int .u64 (n:Int),.bool true])),.v 18 (.tuple #[.int .u64 (n:Int),.bool true]),.v 22 (.int .u64 (n:Int)),.v 23 (.bool true),.v 4 (.int .u64 (n:Int)),.v 6 (.bool true)]) (fun p3=>[(2,.pointer (some ⟨(p1 0).N,0,none⟩)),(3,.pointer (some ⟨(p1 1).N,0,none⟩)),(4,.int .u64 (n:Int)),(5,.int .i64 0),(6,.bool true),(17,.bool false)]) (by kernel_rfl) (fun _ _=>by kernel_rfl) (fun _=>by kernel_rfl) (fun _=>by kernel_rfl) (fun p3=>?_) (fun p3 W3 T hF hK=>?_)
 ·refine ok_v (by kernel_rfl) ?_
  refine ok_L (by kernel_rfl) (by kernel_rfl) (by kernel_rfl) ?_
  refine ok_c (fun W cx=>as_v (unhide HN _)) (by kernel_rfl) ?_
  iterate 5 refine ok_v (by kernel_rfl) ?_
  exact ok_nil
 replace hS:=SymF.fb hS hF [0,1] [⟨(p1 0).N,#[.int .u64 (wh:Int),.int .i64 (tn:Int)],68,true⟩,⟨(p1 1).N,#[.bool g,.string s,.int .i64 x],23,true⟩] (by kernel_rfl) (by kernel_rfl)
 replace hG:=hF.gx
 clear hF
 have z3:=hS.fr.size
 refine wp_seq ?_
 refine wp_symQ hS hG hK (fun p4=>[.v 24 (.bool true),.v 25 (.bool false)]) (fun p4=>[(2,.pointer (some ⟨(p1 0).N,0,none⟩)),(3,.pointer (some ⟨(p1 1).N,0,none⟩)),(4,.int .u64 (n:Int)),(5,.int .i64 0),(6,.bool true),(17,.bool false),(25,.bool false)]) (by kernel_rfl) (fun _ _=>by kernel_rfl) (fun _=>by kernel_rfl) (fun _=>by kernel_rfl) (fun p4=>?_) (fun p4 W4 T hF hK=>?_)
 ·iterate 2 refine ok_v (by kernel_rfl) ?_
  exact ok_nil
 replace hS:=SymF.fb hS hF [0,1] [⟨(p1 0).N,#[.int .u64 (wh:Int),.int .i64 (tn:Int)],68,true⟩,⟨(p1 1).N,#[.bool g,.string s,.int .i64 x],23,true⟩] (by kernel_rfl) (by kernel_rfl)
 replace hG:=hF.gx
 clear hF
 have z4:=hS.fr.size
 refine wp_cond_false (hK.ev 25 (by kernel_rfl) _ (by kernel_rfl)) ?_
 refine wp_skip ?_
 refine then_n ?_
 refine wp_symQ hS hG hK (fun p5=>[.v 26 (.pointer (some ⟨(p1 1).N,2,none⟩)),.l 27 (.int .i64 x) 1 2,.v 28 (.pointer (some ⟨(p1 0).N,1,none⟩)),.l 29 (.int .i64 (tn:Int)) 0 1,.v 30 (.int .i64 (tn:Int)),.v 5 (.int .i64 (tn:Int))]) (fun p5=>[(2,.pointer (some ⟨(p1 0).N,0,none⟩)),(3,.pointer (some ⟨(p1 1).N,0,none⟩)),(4,.int .u64 (n:Int)),(5,.int .i64 (tn:Int)),(6,.bool true),(17,.bool false),(25,.bool false)]) (by kernel_rfl) (fun _ _=>by kernel_rfl) (fun _=>by kernel_rfl) (fun _=>by kernel_rfl) (fun p5=>?_) (fun p5 W5 T hF hK=>?_)
 ·refine ok_v (by kernel_rfl) ?_
  refine ok_L (by kernel_rfl) (by kernel_rfl) (by kernel_rfl) ?_
  refine ok_v (by kernel_rfl) ?_
  refine ok_L (by kernel_rfl) (by kernel_rfl) (by kernel_rfl) ?_
  refine ok_vi ((show (if (tn:Int) < x then (tn:Int) else x) = (tn:Int) by split <;> omega)) (by kernel_rfl) ?_
  refine ok_v (by kernel_rfl) ?_
  exact ok_nil
 replace hS:=SymF.fb hS hF [0,1] [⟨(p1 0).N,#[.int .u64 (wh:Int),.int .i64 (tn:Int)],68,true⟩,⟨(p1 1).N,#[.bool g,.string s,.int .i64 x],23,true⟩] (by kernel_rfl) (by kernel_rfl)
 replace hG:=hF.gx
 clear hF
 have z5:=hS.fr.size
 refine wp_symQ hS hG hK (fun p6=>[.l 32 (.agg #[.int .u64 (wh:Int),.int .i64 (tn:Int)]) 0 0,.v 33 (.int .u64 (n:Int)),.v 34 (.pointer (some ⟨(p1 1).N,2,none⟩)),.l 35 (.int .i64 x) 1 2,.v 36 (.int .i64 (tn:Int)),.v 37 (.int .i64 (x - (tn:Int))),.c (some 38) (cV (.tuple #[.int .u64 (m:Int),.bool b])),.v 31 (.tuple #[.int .u64 (m:Int),.bool b]),.v 39 (.int .u64 (m:Int)),.v 40 (.bool b),.v 4 (.int .u64 (m:Int)),.v 6 (.bool b)]) (fun p6=>[(4,.int .u64 (m:Int)),(5,.int .i64 (tn:Int)),(6,.bool b),(17,.bool false),(25,.bool false)]) (by kernel_rfl) (fun _ _=>by kernel_rfl) (fun _=>by kernel_rfl) (fun _=>by kernel_rfl) (fun p6=>?_) (fun p6 W6 T hF hK=>?_)
 ·refine ok_L (by kernel_rfl) (by kernel_rfl) (by kernel_rfl) ?_
  iterate 2 refine ok_v (by kernel_rfl) ?_
  refine ok_L (by kernel_rfl) (by kernel_rfl) (by kernel_rfl) ?_
  refine ok_v (by kernel_rfl) ?_
  refine ok_vi ((wr64 (x:=x - (tn:Int)) (by omega) (by omega)).trans (by omega)) (by kernel_rfl) ?_
  refine ok_c (fun W cx=>as_v (unhide HR _)) (by kernel_rfl) ?_
  iterate 5 refine ok_v (by kernel_rfl) ?_
  exact ok_nil
 replace hS:=SymF.fb hS hF [] [] (by kernel_rfl) (by kernel_rfl)
 replace hG:=hF.gx
 clear hF
 have z6:=hS.fr.size
 refine wp_symQ hS hG hK (fun p7=>[.v 41 (.int .u64 (m:Int)),.v 42 (.int .i64 (tn:Int)),.v 43 (.bool b),.v 4 (.int .u64 (m:Int)),.v 5 (.int .i64 (tn:Int)),.v 6 (.bool b)]) (fun p7=>[(4,.int .u64 (m:Int)),(5,.int .i64 (tn:Int)),(6,.bool b),(17,.bool false),(25,.bool false)]) (by kernel_rfl) (fun _ _=>by kernel_rfl) (fun _=>by kernel_rfl) (fun _=>by kernel_rfl) (fun p7=>?_) (fun p7 W7 T hF hK=>?_)
 ·iterate 6 refine ok_v (by kernel_rfl) ?_
  exact ok_nil
 replace hS:=SymF.fb hS hF [] [] (by kernel_rfl) (by kernel_rfl)
 replace hG:=hF.gx
 clear hF
 have z7:=hS.fr.size
 refine wp_ret ?_
 exact sym_end hS hK (.tuple #[.int .u64 (m:Int),.int .i64 (tn:Int),.bool b]) [] [] (by kernel_rfl) (by kernel_rfl) ⟨rfl,hS.fr⟩
theorem qnst64_no (w:World) (g:Bool) (s:ByteArray) (x:Int) (n t:Int) (HF:Hid (∀ W:World,Calls Tryz.prog 31 #[.agg #[.int .u64 9007199254740992,.int .i64 22],.agg #[.bool g,.string s,.int .i64 x]] W fun e W'=>e = .returned (.tuple #[.int .u64 n,.int .i64 t,.bool false])∧Below W.heap.size W W')) :
  Calls Tryz.prog 26 #[.agg #[.bool g,.string s,.int .i64 x],.agg #[.int .u64 9007199254740992,.int .i64 22]] w fun en w'=>en = .returned (.tuple #[.float .f64 0,.bool false])∧Below w.heap.size w w':=by
 refine calls_sym Tryz.func26 rfl (by kernel_rfl) fun T hK=>?_
 replace hK:Kn T _ [(0,.agg #[.bool g,.string s,.int .i64 x]),(1,.agg #[.int .u64 9007199254740992,.int .i64 22])]:=hK
 have hS:=Fb.begin w
 have hG:GsAt [] w:=trivial
 refine wp_symQ hS hG hK (fun p1=>[.n 2 #[.bool g,.string s,.int .i64 x] 23,.n 3 #[.int .u64 9007199254740992,.int .i64 22] 68,.v 4 (.float FloatKind.f64 0),.v 5 (.bool false)]) (fun p1=>[(2,.pointer (some ⟨(p1 0).N,0,none⟩)),(3,.pointer (some ⟨(p1 1).N,0,none⟩)),(4,.float FloatKind.f64 0),(5,.bool false)]) (by kernel_rfl) (fun _ _=>by kernel_rfl) (fun _=>by kernel_rfl) (fun _=>by kernel_rfl) (fun p1=>?_) (fun p1 W1 T hF hK=>?_)
 ·iterate 2 refine ok_n (fun _=>by kernel_rfl) ?_
  iterate 2 refine ok_v (by kernel_rfl) ?_
  exact ok_nil
 replace hS:=SymF.fb hS hF [1000,1001] [⟨(p1 0).N,#[.bool g,.string s,.int .i64 x],23,true⟩,⟨(p1 1).N,#[.int .u64 9007199254740992,.int .i64 22],68,true⟩] (by kernel_rfl) (by kernel_rfl)
 replace hG:=hF.gx
 clear hF
 have z1:=hS.fr.size
 refine wp_symQ hS hG hK (fun p2=>[.l 11 (.agg #[.int .u64 9007199254740992,.int .i64 22]) 1 0,.l 12 (.agg #[.bool g,.string s,.int .i64 x]) 0 0,.c (some 13) (cV (.tuple #[.int .u64 n,.int .i64 t,.bool false])),.v 10 (.tuple #[.int .u64 n,.int .i64 t,.bool false]),.v 14 (.int .u64 n),.v 15 (.int .i64 t),.v 16 (.bool false),.v 6 (.int .u64 n),.v 7 (.int .i64 t),.v 8 (.bool false)]) (fun p2=>[(2,.pointer (some ⟨(p1 0).N,0,none⟩)),(4,.float FloatKind.f64 0),(5,.bool false),(6,.int .u64 n),(7,.int .i64 t),(8,.bool false)]) (by kernel_rfl) (fun _ _=>by kernel_rfl) (fun _=>by kernel_rfl) (fun _=>by kernel_rfl) (fun p2=>?_) (fun p2 W2 T hF hK=>?_)
 ·iterate 2 refine ok_L (by kernel_rfl) (by kernel_rfl) (by kernel_rfl) ?_
  refine ok_c (fun W cx=>as_v (unhide HF _)) (by kernel_rfl) ?_
  iterate 7 refine ok_v (by kernel_rfl) ?_
  exact ok_nil
 replace hS:=SymF.fb hS hF [0] [⟨(p1 0).N,#[.bool g,.string s,.int .i64 x],23,true⟩] (by kernel_rfl) (by kernel_rfl)
 replace hG:=hF.gx
 clear hF
 have z2:=hS.fr.size
 refine wp_seq ?_
 refine wp_symQ hS hG hK (fun p3=>[.v 17 (.bool false),.v 18 (.bool true)]) (fun p3=>[(2,.pointer (some ⟨(p1 0).N,0,none⟩)),(4,.float FloatKind.f64 0),(5,.bool false),(6,.int .u64 n),(7,.int .i64 t),(18,.bool true)]) (by kernel_rfl) (fun _ _=>by kernel_rfl) (fun _=>by kernel_rfl) (fun _=>by kernel_rfl) (fun p3=>?_) (fun p3 W3 T hF hK=>?_)
 ·iterate 2 refine ok_v (by kernel_rfl) ?_
  exact ok_nil
 replace hS:=SymF.fb hS hF [0] [⟨(p1 0).N,#[.bool g,.string s,.int .i64 x],23,true⟩] (by kernel_rfl) (by kernel_rfl)
 replace hG:=hF.gx
 clear hF
 have z3:=hS.fr.size
 refine wp_cond_true (hK.ev 18 (by kernel_rfl) _ (by kernel_rfl)) ?_
 refine wp_symQ hS hG hK (fun p4=>[.v 4 (.float FloatKind.f64 0),.v 5 (.bool false)]) (fun p4=>[(2,.pointer (some ⟨(p1 0).N,0,none⟩)),(4,.float FloatKind.f64 0),(5,.bool false),(6,.int .u64 n),(7,.int .i64 t),(18,.bool true)]) (by kernel_rfl) (fun _ _=>by kernel_rfl) (fun _=>by kernel_rfl) (fun _=>by kernel_rfl) (fun p4=>?_) (fun p4 W4 T hF hK=>?_)
 ·iterate 2 refine ok_v (by kernel_rfl) ?_
  exact ok_nil
 replace hS:=SymF.fb hS hF [0] [⟨(p1 0).N,#[.bool g,.string s,.int .i64 x],23,true⟩] (by kernel_rfl) (by kernel_rfl)
 replace hG:=hF.gx
 clear hF
 have z4:=hS.fr.size
 refine wp_ret ?_
 refine then_r ?_
 exact sym_end hS hK (.tuple #[.float .f64 0,.bool false]) [] [] (by kernel_rfl) (by kernel_rfl) ⟨rfl,hS.fr⟩
theorem qnst64_qt (w:World) (s:ByteArray) (x:Int) (n m p z:Nat) (hm:0 < m∧m≤22) (HF:Hid (∀ W:World,Calls Tryz.prog 31 #[.agg #[.int .u64 9007199254740992,.int .i64 22],.agg #[.bool true,.string s,.int .i64 x]] W fun e W'=>e = .returned (.tuple #[.int .u64 (n:Int),.int .i64 (-(m:Int)),.bool true])∧Below W.heap.size W W')) (HP:Hid (∀ W:World,Calls Tryz.prog 49 #[.int .i64 (m:Int)] W fun e W'=>e = .returned (.float .f64 p)∧Below W.heap.size W W')) (hz:FloatKind.f64.format.div (floatOfInt .f64 (n:Int)) p = some z) :
  Calls Tryz.prog 26 #[.agg #[.bool true,.string s,.int .i64 x],.agg #[.int .u64 9007199254740992,.int .i64 22]] w fun en w'=>en = .returned (.tuple #[.float .f64 (Op.negFloat .f64 z),.bool true])∧Below w.heap.size w w':=by
 refine calls_sym Tryz.func26 rfl (by kernel_rfl) fun T hK=>?_
 replace hK:Kn T _ [(0,.agg #[.bool true,.string s,.int .i64 x]),(1,.agg #[.int .u64 9007199254740992,.int .i64 22])]:=hK
 have hS:=Fb.begin w
 have hG:GsAt [] w:=trivial
 refine wp_symQ hS hG hK (fun p1=>[.n 2 #[.bool true,.string s,.int .i64 x] 23,.n 3 #[.int .u64 9007199254740992,.int .i64 22] 68,.v 4 (.float FloatKind.f64 0),.v 5 (.bool false)]) (fun p1=>[(2,.pointer (some ⟨(p1 0).N,0,none⟩)),(3,.pointer (some ⟨(p1 1).N,0,none⟩)),(4,.float FloatKind.f64 0),(5,.bool false)]) (by kernel_rfl) (fun _ _=>by kernel_rfl) (fun _=>by kernel_rfl) (fun _=>by kernel_rfl) (fun p1=>?_) (fun p1 W1 T hF hK=>?_)
 ·iterate 2 refine ok_n (fun _=>by kernel_rfl) ?_
  iterate 2 refine ok_v (by kernel_rfl) ?_
  exact ok_nil
 replace hS:=SymF.fb hS hF [1000,1001] [⟨(p1 0).N,#[.bool true,.string s,.int .i64 x],23,true⟩,⟨(p1 1).N,#[.int .u64 9007199254740992,.int .i64 22],68,true⟩] (by kernel_rfl) (by kernel_rfl)
 replace hG:=hF.gx
 clear hF
 have z1:=hS.fr.size
 refine wp_symQ hS hG hK (fun p2=>[.l 11 (.agg #[.int .u64 9007199254740992,.int .i64 22]) 1 0,.l 12 (.agg #[.bool true,.string s,.int .i64 x]) 0 0,.c (some 13) (cV (.tuple #[.int .u64 (n:Int),.int .i64 (-(m:Int)),.bool true])),.v 10 (.tuple #[.int .u64 (n:Int),.int .i64 (-(m:Int)),.bool true]),.v 14 (.int .u64 (n:Int)),.v 15 (.int .i64 (-(m:Int))),.v 16 (.bool true),.v 6 (.int .u64 (n:Int)),.v 7 (.int .i64 (-(m:Int))),.v 8 (.bool true)]) (fun p2=>[(2,.pointer (some ⟨(p1 0).N,0,none⟩)),(4,.float FloatKind.f64 0),(5,.bool false),(6,.int .u64 (n:Int)),(7,.int .i64 (-(m:Int))),(8,.bool true)]) (by kernel_rfl) (fun _ _=>by kernel_rfl) (fun _=>by kernel_rfl) (fun _=>by kernel_rfl) (fun p2=>?_) (fun p2 W2 T hF hK=>?_)
 ·iterate 2 refine ok_L (by kernel_rfl) (by kernel_rfl) (by kernel_rfl) ?_
  refine ok_c (fun W cx=>as_v (unhide HF _)) (by kernel_rfl) ?_
  iterate 7 refine ok_v (by kernel_rfl) ?_
  exact ok_nil
 replace hS:=SymF.fb hS hF [0] [⟨(p1 0).N,#[.bool true,.string s,.int .i64 x],23,true⟩] (by kernel_rfl) (by kernel_rfl)
 replace hG:=hF.gx
 clear hF
 have z2:=hS.fr.size
 refine wp_seq ?_
 refine wp_symQ hS hG hK (fun p3=>[.v 17 (.bool true),.v 18 (.bool false)]) (fun p3=>[(2,.pointer (some ⟨(p1 0).N,0,none⟩)),(4,.float FloatKind.f64 0),(5,.bool false),(6,.int .u64 (n:Int)),(7,.int .i64 (-(m:Int))),(18,.bool false)]) (by kernel_rfl) (fun _ _=>by kernel_rfl) (fun _=>by kernel_rfl) (fun _=>by kernel_rfl) (fun p3=>?_) (fun p3 W3 T hF hK=>?_)
 ·iterate 2 refine ok_v (by kernel_rfl) ?_
  exact ok_nil
 replace hS:=SymF.fb hS hF [0] [⟨(p1 0).N,#[.bool true,.string s,.int .i64 x],23,true⟩] (by kernel_rfl) (by kernel_rfl)
 replace hG:=hF.gx
 clear hF
 have z3:=hS.fr.size
 refine wp_cond_false (hK.ev 18 (by kernel_rfl) _ (by kernel_rfl)) ?_
 refine wp_skip ?_
 refine then_n ?_
 refine wp_symQ hS hG hK (fun p4=>[.v 19 (.int .u64 (n:Int)),.c (some 20) (cV (.float .f64 (floatOfInt .f64 (n:Int)))),.v 9 (.float .f64 (floatOfInt .f64 (n:Int)))]) (fun p4=>[(2,.pointer (some ⟨(p1 0).N,0,none⟩)),(4,.float FloatKind.f64 0),(5,.bool false),(7,.int .i64 (-(m:Int))),(9,.float .f64 (floatOfInt .f64 (n:Int))),(18,.bool false)]) (by kernel_rfl) (fun _ _=>by kernel_rfl) (fun _=>by kernel_rfl) (fun _=>by kernel_rfl) (fun p4=>?_) (fun p4 W4 T hF hK=>?_)
 ·refine ok_v (by kernel_rfl) ?_
  refine ok_c (fun W cx=>as_v (qnear64 _ n)) (by kernel_rfl) ?_
  refine ok_v (by kernel_rfl) ?_
  exact ok_nil
 replace hS:=SymF.fb hS hF [0] [⟨(p1 0).N,#[.bool true,.string s,.int .i64 x],23,true⟩] (by kernel_rfl) (by kernel_rfl)
 replace hG:=hF.gx
 clear hF
 have z4:=hS.fr.size
 refine wp_seq ?_
 refine wp_symQ hS hG hK (fun p5=>[.v 21 (.int .i64 (-(m:Int))),.v 22 (.bool true)]) (fun p5=>[(2,.pointer (some ⟨(p1 0).N,0,none⟩)),(4,.float FloatKind.f64 0),(5,.bool false),(7,.int .i64 (-(m:Int))),(9,.float .f64 (floatOfInt .f64 (n:Int))),(18,.bool false),(22,.bool true)]) (by kernel_rfl) (fun _ _=>by kernel_rfl) (fun _=>by kernel_rfl) (fun _=>by kernel_rfl) (fun p5=>?_) (fun p5 W5 T hF hK=>?_)
 ·refine ok_v (by kernel_rfl) ?_
  refine ok_vb (decide_eq_true (show -(m:Int) < 0 by omega)) (by kernel_rfl) ?_
  exact ok_nil
 replace hS:=SymF.fb hS hF [0] [⟨(p1 0).N,#[.bool true,.string s,.int .i64 x],23,true⟩] (by kernel_rfl) (by kernel_rfl)
 replace hG:=hF.gx
 clear hF
 have z5:=hS.fr.size
 refine wp_cond_true (hK.ev 22 (by kernel_rfl) _ (by kernel_rfl)) ?_
 refine wp_symG hS hG hK (fun p6=>[.v 23 (.float .f64 (floatOfInt .f64 (n:Int))),.v 24 (.int .i64 (-(m:Int))),.v 25 (.int .i64 (m:Int)),.c (some 26) (cV (.float .f64 p)),.v 27 (.float .f64 z),.v 9 (.float .f64 z)]) (fun p6=>[(2,.pointer (some ⟨(p1 0).N,0,none⟩)),(4,.float FloatKind.f64 0),(5,.bool false),(7,.int .i64 (-(m:Int))),(9,.float .f64 z),(18,.bool false),(22,.bool true)]) (by kernel_rfl) (fun _ _=>by kernel_rfl) (fun _=>by kernel_rfl) (fun _=>by kernel_rfl) (fun p6=>?_) (fun p6 W6 T hF hK=>?_)
 ·iterate 2 refine ok_v (by kernel_rfl) ?_
  refine ok_vi ((wr64 (x:=0 - (-(m:Int))) (by omega) (by omega)).trans (by omega)) (by kernel_rfl) ?_
  refine ok_c (fun W cx=>as_v (unhide HP _)) (by kernel_rfl) ?_
  refine ok_vr (script_quo (t:=34) hz) (by kernel_rfl) ?_
  refine ok_v (by kernel_rfl) ?_
  exact ok_nil
 replace hS:=SymF.fb hS hF [0] [⟨(p1 0).N,#[.bool true,.string s,.int .i64 x],23,true⟩] (by kernel_rfl) (by kernel_rfl)
 replace hG:=hF.gx
 clear hF
 have z6:=hS.fr.size
 refine then_n ?_
 refine wp_seq ?_
 refine wp_symQ hS hG hK (fun p7=>[.v 32 (.pointer (some ⟨(p1 0).N,0,none⟩)),.l 33 (.bool true) 0 0]) (fun p7=>[(4,.float FloatKind.f64 0),(5,.bool false),(7,.int .i64 (-(m:Int))),(9,.float .f64 z),(18,.bool false),(22,.bool true),(33,.bool true)]) (by kernel_rfl) (fun _ _=>by kernel_rfl) (fun _=>by kernel_rfl) (fun _=>by kernel_rfl) (fun p7=>?_) (fun p7 W7 T hF hK=>?_)
 ·refine ok_v (by kernel_rfl) ?_
  refine ok_L (by kernel_rfl) (by kernel_rfl) (by kernel_rfl) ?_
  exact ok_nil
 replace hS:=SymF.fb hS hF [] [] (by kernel_rfl) (by kernel_rfl)
 replace hG:=hF.gx
 clear hF
 have z7:=hS.fr.size
 refine wp_cond_true (hK.ev 33 (by kernel_rfl) _ (by kernel_rfl)) ?_
 refine wp_symG hS hG hK (fun p8=>[.v 34 (.float .f64 z),.v 35 (.float .f64 (Op.negFloat .f64 z)),.v 9 (.float .f64 (Op.negFloat .f64 z))]) (fun p8=>[(4,.float FloatKind.f64 0),(5,.bool false),(7,.int .i64 (-(m:Int))),(9,.float .f64 (Op.negFloat .f64 z)),(18,.bool false),(22,.bool true),(33,.bool true)]) (by kernel_rfl) (fun _ _=>by kernel_rfl) (fun _=>by kernel_rfl) (fun _=>by kernel_rfl) (fun p8=>?_) (fun p8 W8 T hF hK=>?_)
 ·iterate 3 refine ok_v (by kernel_rfl) ?_
  exact ok_nil
 replace hS:=SymF.fb hS hF [] [] (by kernel_rfl) (by kernel_rfl)
 replace hG:=hF.gx
 clear hF
 have z8:=hS.fr.size
 refine then_n ?_
 refine wp_symQ hS hG hK (fun p9=>[.v 36 (.float .f64 (Op.negFloat .f64 z)),.v 4 (.float .f64 (Op.negFloat .f64 z)),.v 5 (.bool true)]) (fun p9=>[(4,.float .f64 (Op.negFloat .f64 z)),(5,.bool true),(7,.int .i64 (-(m:Int))),(9,.float .f64 (Op.negFloat .f64 z)),(18,.bool false),(22,.bool true),(33,.bool true)]) (by kernel_rfl) (fun _ _=>by kernel_rfl) (fun _=>by kernel_rfl) (fun _=>by kernel_rfl) (fun p9=>?_) (fun p9 W9 T hF hK=>?_)
 ·iterate 3 refine ok_v (by kernel_rfl) ?_
  exact ok_nil
 replace hS:=SymF.fb hS hF [] [] (by kernel_rfl) (by kernel_rfl)
 replace hG:=hF.gx
 clear hF
 have z9:=hS.fr.size
 refine wp_ret ?_
 exact sym_end hS hK (.tuple #[.float .f64 (Op.negFloat .f64 z),.bool true]) [] [] (by kernel_rfl) (by kernel_rfl) ⟨rfl,hS.fr⟩
theorem qnst64_qf (w:World) (s:ByteArray) (x:Int) (n m p z:Nat) (hm:0 < m∧m≤22) (HF:Hid (∀ W:World,Calls Tryz.prog 31 #[.agg #[.int .u64 9007199254740992,.int .i64 22],.agg #[.bool false,.string s,.int .i64 x]] W fun e W'=>e = .returned (.tuple #[.int .u64 (n:Int),.int .i64 (-(m:Int)),.bool true])∧Below W.heap.size W W')) (HP:Hid (∀ W:World,Calls Tryz.prog 49 #[.int .i64 (m:Int)] W fun e W'=>e = .returned (.float .f64 p)∧Below W.heap.size W W')) (hz:FloatKind.f64.format.div (floatOfInt .f64 (n:Int)) p = some z) :
  Calls Tryz.prog 26 #[.agg #[.bool false,.string s,.int .i64 x],.agg #[.int .u64 9007199254740992,.int .i64 22]] w fun en w'=>en = .returned (.tuple #[.float .f64 z,.bool true])∧Below w.heap.size w w':=by
 refine calls_sym Tryz.func26 rfl (by kernel_rfl) fun T hK=>?_
 replace hK:Kn T _ [(0,.agg #[.bool false,.string s,.int .i64 x]),(1,.agg #[.int .u64 9007199254740992,.int .i64 22])]:=hK
 have hS:=Fb.begin w
 have hG:GsAt [] w:=trivial
 refine wp_symQ hS hG hK (fun p1=>[.n 2 #[.bool false,.string s,.int .i64 x] 23,.n 3 #[.int .u64 9007199254740992,.int .i64 22] 68,.v 4 (.float FloatKind.f64 0),.v 5 (.bool false)]) (fun p1=>[(2,.pointer (some ⟨(p1 0).N,0,none⟩)),(3,.pointer (some ⟨(p1 1).N,0,none⟩)),(4,.float FloatKind.f64 0),(5,.bool false)]) (by kernel_rfl) (fun _ _=>by kernel_rfl) (fun _=>by kernel_rfl) (fun _=>by kernel_rfl) (fun p1=>?_) (fun p1 W1 T hF hK=>?_)
 ·iterate 2 refine ok_n (fun _=>by kernel_rfl) ?_
  iterate 2 refine ok_v (by kernel_rfl) ?_
  exact ok_nil
 replace hS:=SymF.fb hS hF [1000,1001] [⟨(p1 0).N,#[.bool false,.string s,.int .i64 x],23,true⟩,⟨(p1 1).N,#[.int .u64 9007199254740992,.int .i64 22],68,true⟩] (by kernel_rfl) (by kernel_rfl)
 replace hG:=hF.gx
 clear hF
 have z1:=hS.fr.size
 refine wp_symQ hS hG hK (fun p2=>[.l 11 (.agg #[.int .u64 9007199254740992,.int .i64 22]) 1 0,.l 12 (.agg #[.bool false,.string s,.int .i64 x]) 0 0,.c (some 13) (cV (.tuple #[.int .u64 (n:Int),.int .i64 (-(m:Int)),.bool true])),.v 10 (.tuple #[.int .u64 (n:Int),.int .i64 (-(m:Int)),.bool true]),.v 14 (.int .u64 (n:Int)),.v 15 (.int .i64 (-(m:Int))),.v 16 (.bool true),.v 6 (.int .u64 (n:Int)),.v 7 (.int .i64 (-(m:Int))),.v 8 (.bool true)]) (fun p2=>[(2,.pointer (some ⟨(p1 0).N,0,none⟩)),(4,.float FloatKind.f64 0),(5,.bool false),(6,.int .u64 (n:Int)),(7,.int .i64 (-(m:Int))),(8,.bool true)]) (by kernel_rfl) (fun _ _=>by kernel_rfl) (fun _=>by kernel_rfl) (fun _=>by kernel_rfl) (fun p2=>?_) (fun p2 W2 T hF hK=>?_)
 ·iterate 2 refine ok_L (by kernel_rfl) (by kernel_rfl) (by kernel_rfl) ?_
  refine ok_c (fun W cx=>as_v (unhide HF _)) (by kernel_rfl) ?_
  iterate 7 refine ok_v (by kernel_rfl) ?_
  exact ok_nil
 replace hS:=SymF.fb hS hF [0] [⟨(p1 0).N,#[.bool false,.string s,.int .i64 x],23,true⟩] (by kernel_rfl) (by kernel_rfl)
 replace hG:=hF.gx
 clear hF
 have z2:=hS.fr.size
 refine wp_seq ?_
 refine wp_symQ hS hG hK (fun p3=>[.v 17 (.bool true),.v 18 (.bool false)]) (fun p3=>[(2,.pointer (some ⟨(p1 0).N,0,none⟩)),(4,.float FloatKind.f64 0),(5,.bool false),(6,.int .u64 (n:Int)),(7,.int .i64 (-(m:Int))),(18,.bool false)]) (by kernel_rfl) (fun _ _=>by kernel_rfl) (fun _=>by kernel_rfl) (fun _=>by kernel_rfl) (fun p3=>?_) (fun p3 W3 T hF hK=>?_)
 ·iterate 2 refine ok_v (by kernel_rfl) ?_
  exact ok_nil
 replace hS:=SymF.fb hS hF [0] [⟨(p1 0).N,#[.bool false,.string s,.int .i64 x],23,true⟩] (by kernel_rfl) (by kernel_rfl)
 replace hG:=hF.gx
 clear hF
 have z3:=hS.fr.size
 refine wp_cond_false (hK.ev 18 (by kernel_rfl) _ (by kernel_rfl)) ?_
 refine wp_skip ?_
 refine then_n ?_
 refine wp_symQ hS hG hK (fun p4=>[.v 19 (.int .u64 (n:Int)),.c (some 20) (cV (.float .f64 (floatOfInt .f64 (n:Int)))),.v 9 (.float .f64 (floatOfInt .f64 (n:Int)))]) (fun p4=>[(2,.pointer (some ⟨(p1 0).N,0,none⟩)),(4,.float FloatKind.f64 0),(5,.bool false),(7,.int .i64 (-(m:Int))),(9,.float .f64 (floatOfInt .f64 (n:Int))),(18,.bool false)]) (by kernel_rfl) (fun _ _=>by kernel_rfl) (fun _=>by kernel_rfl) (fun _=>by kernel_rfl) (fun p4=>?_) (fun p4 W4 T hF hK=>?_)
 ·refine ok_v (by kernel_rfl) ?_
  refine ok_c (fun W cx=>as_v (qnear64 _ n)) (by kernel_rfl) ?_
  refine ok_v (by kernel_rfl) ?_
  exact ok_nil
 replace hS:=SymF.fb hS hF [0] [⟨(p1 0).N,#[.bool false,.string s,.int .i64 x],23,true⟩] (by kernel_rfl) (by kernel_rfl)
 replace hG:=hF.gx
 clear hF
 have z4:=hS.fr.size
 refine wp_seq ?_
 refine wp_symQ hS hG hK (fun p5=>[.v 21 (.int .i64 (-(m:Int))),.v 22 (.bool true)]) (fun p5=>[(2,.pointer (some ⟨(p1 0).N,0,none⟩)),(4,.float FloatKind.f64 0),(5,.bool false),(7,.int .i64 (-(m:Int))),(9,.float .f64 (floatOfInt .f64 (n:Int))),(18,.bool false),(22,.bool true)]) (by kernel_rfl) (fun _ _=>by kernel_rfl) (fun _=>by kernel_rfl) (fun _=>by kernel_rfl) (fun p5=>?_) (fun p5 W5 T hF hK=>?_)
 ·refine ok_v (by kernel_rfl) ?_
  refine ok_vb (decide_eq_true (show -(m:Int) < 0 by omega)) (by kernel_rfl) ?_
  exact ok_nil
 replace hS:=SymF.fb hS hF [0] [⟨(p1 0).N,#[.bool false,.string s,.int .i64 x],23,true⟩] (by kernel_rfl) (by kernel_rfl)
 replace hG:=hF.gx
 clear hF
 have z5:=hS.fr.size
 refine wp_cond_true (hK.ev 22 (by kernel_rfl) _ (by kernel_rfl)) ?_
 refine wp_symG hS hG hK (fun p6=>[.v 23 (.float .f64 (floatOfInt .f64 (n:Int))),.v 24 (.int .i64 (-(m:Int))),.v 25 (.int .i64 (m:Int)),.c (some 26) (cV (.float .f64 p)),.v 27 (.float .f64 z),.v 9 (.float .f64 z)]) (fun p6=>[(2,.pointer (some ⟨(p1 0).N,0,none⟩)),(4,.float FloatKind.f64 0),(5,.bool false),(7,.int .i64 (-(m:Int))),(9,.float .f64 z),(18,.bool false),(22,.bool true)]) (by kernel_rfl) (fun _ _=>by kernel_rfl) (fun _=>by kernel_rfl) (fun _=>by kernel_rfl) (fun p6=>?_) (fun p6 W6 T hF hK=>?_)
 ·iterate 2 refine ok_v (by kernel_rfl) ?_
  refine ok_vi ((wr64 (x:=0 - (-(m:Int))) (by omega) (by omega)).trans (by omega)) (by kernel_rfl) ?_
  refine ok_c (fun W cx=>as_v (unhide HP _)) (by kernel_rfl) ?_
  refine ok_vr (script_quo (t:=34) hz) (by kernel_rfl) ?_
  refine ok_v (by kernel_rfl) ?_
  exact ok_nil
 replace hS:=SymF.fb hS hF [0] [⟨(p1 0).N,#[.bool false,.string s,.int .i64 x],23,true⟩] (by kernel_rfl) (by kernel_rfl)
 replace hG:=hF.gx
 clear hF
 have z6:=hS.fr.size
 refine then_n ?_
 refine wp_seq ?_
 refine wp_symQ hS hG hK (fun p7=>[.v 32 (.pointer (some ⟨(p1 0).N,0,none⟩)),.l 33 (.bool false) 0 0]) (fun p7=>[(4,.float FloatKind.f64 0),(5,.bool false),(7,.int .i64 (-(m:Int))),(9,.float .f64 z),(18,.bool false),(22,.bool true),(33,.bool false)]) (by kernel_rfl) (fun _ _=>by kernel_rfl) (fun _=>by kernel_rfl) (fun _=>by kernel_rfl) (fun p7=>?_) (fun p7 W7 T hF hK=>?_)
 ·refine ok_v (by kernel_rfl) ?_
  refine ok_L (by kernel_rfl) (by kernel_rfl) (by kernel_rfl) ?_
  exact ok_nil
 replace hS:=SymF.fb hS hF [] [] (by kernel_rfl) (by kernel_rfl)
 replace hG:=hF.gx
 clear hF
 have z7:=hS.fr.size
 refine wp_cond_false (hK.ev 33 (by kernel_rfl) _ (by kernel_rfl)) ?_
 refine wp_skip ?_
 refine then_n ?_
 refine wp_symQ hS hG hK (fun p8=>[.v 36 (.float .f64 z),.v 4 (.float .f64 z),.v 5 (.bool true)]) (fun p8=>[(4,.float .f64 z),(5,.bool true),(7,.int .i64 (-(m:Int))),(9,.float .f64 z),(18,.bool false),(22,.bool true),(33,.bool false)]) (by kernel_rfl) (fun _ _=>by kernel_rfl) (fun _=>by kernel_rfl) (fun _=>by kernel_rfl) (fun p8=>?_) (fun p8 W8 T hF hK=>?_)
 ·iterate 3 refine ok_v (by kernel_rfl) ?_
  exact ok_nil
 replace hS:=SymF.fb hS hF [] [] (by kernel_rfl) (by kernel_rfl)
 replace hG:=hF.gx
 clear hF
 have z8:=hS.fr.size
 refine wp_ret ?_
 exact sym_end hS hK (.tuple #[.float .f64 z,.bool true]) [] [] (by kernel_rfl) (by kernel_rfl) ⟨rfl,hS.fr⟩
theorem qnst64_pt (w:World) (s:ByteArray) (x:Int) (n m p z:Nat) (hm:m≤22) (HF:Hid (∀ W:World,Calls Tryz.prog 31 #[.agg #[.int .u64 9007199254740992,.int .i64 22],.agg #[.bool true,.string s,.int .i64 x]] W fun e W'=>e = .returned (.tuple #[.int .u64 (n:Int),.int .i64 (m:Int),.bool true])∧Below W.heap.size W W')) (HP:Hid (∀ W:World,Calls Tryz.prog 49 #[.int .i64 (m:Int)] W fun e W'=>e = .returned (.float .f64 p)∧Below W.heap.size W W')) (hz:FloatKind.f64.format.mul (floatOfInt .f64 (n:Int)) p = some z) :
  Calls Tryz.prog 26 #[.agg #[.bool true,.string s,.int .i64 x],.agg #[.int .u64 9007199254740992,.int .i64 22]] w fun en w'=>en = .returned (.tuple #[.float .f64 (Op.negFloat .f64 z),.bool true])∧Below w.heap.size w w':=by
 refine calls_sym Tryz.func26 rfl (by kernel_rfl) fun T hK=>?_
 replace hK:Kn T _ [(0,.agg #[.bool true,.string s,.int .i64 x]),(1,.agg #[.int .u64 9007199254740992,.int .i64 22])]:=hK
 have hS:=Fb.begin w
 have hG:GsAt [] w:=trivial
 refine wp_symQ hS hG hK (fun p1=>[.n 2 #[.bool true,.string s,.int .i64 x] 23,.n 3 #[.int .u64 9007199254740992,.int .i64 22] 68,.v 4 (.float FloatKind.f64 0),.v 5 (.bool false)]) (fun p1=>[(2,.pointer (some ⟨(p1 0).N,0,none⟩)),(3,.pointer (some ⟨(p1 1).N,0,none⟩)),(4,.float FloatKind.f64 0),(5,.bool false)]) (by kernel_rfl) (fun _ _=>by kernel_rfl) (fun _=>by kernel_rfl) (fun _=>by kernel_rfl) (fun p1=>?_) (fun p1 W1 T hF hK=>?_)
 ·iterate 2 refine ok_n (fun _=>by kernel_rfl) ?_
  iterate 2 refine ok_v (by kernel_rfl) ?_
  exact ok_nil
 replace hS:=SymF.fb hS hF [1000,1001] [⟨(p1 0).N,#[.bool true,.string s,.int .i64 x],23,true⟩,⟨(p1 1).N,#[.int .u64 9007199254740992,.int .i64 22],68,true⟩] (by kernel_rfl) (by kernel_rfl)
 replace hG:=hF.gx
 clear hF
 have z1:=hS.fr.size
 refine wp_symQ hS hG hK (fun p2=>[.l 11 (.agg #[.int .u64 9007199254740992,.int .i64 22]) 1 0,.l 12 (.agg #[.bool true,.string s,.int .i64 x]) 0 0,.c (some 13) (cV (.tuple #[.int .u64 (n:Int),.int .i64 (m:Int),.bool true])),.v 10 (.tuple #[.int .u64 (n:Int),.int .i64 (m:Int),.bool true]),.v 14 (.int .u64 (n:Int)),.v 15 (.int .i64 (m:Int)),.v 16 (.bool true),.v 6 (.int .u64 (n:Int)),.v 7 (.int .i64 (m:Int)),.v 8 (.bool true)]) (fun p2=>[(2,.pointer (some ⟨(p1 0).N,0,none⟩)),(4,.float FloatKind.f64 0),(5,.bool false),(6,.int .u64 (n:Int)),(7,.int .i64 (m:Int)),(8,.bool true)]) (by kernel_rfl) (fun _ _=>by kernel_rfl) (fun _=>by kernel_rfl) (fun _=>by kernel_rfl) (fun p2=>?_) (fun p2 W2 T hF hK=>?_)
 ·iterate 2 refine ok_L (by kernel_rfl) (by kernel_rfl) (by kernel_rfl) ?_
  refine ok_c (fun W cx=>as_v (unhide HF _)) (by kernel_rfl) ?_
  iterate 7 refine ok_v (by kernel_rfl) ?_
  exact ok_nil
 replace hS:=SymF.fb hS hF [0] [⟨(p1 0).N,#[.bool true,.string s,.int .i64 x],23,true⟩] (by kernel_rfl) (by kernel_rfl)
 replace hG:=hF.gx
 clear hF
 have z2:=hS.fr.size
 refine wp_seq ?_
 refine wp_symQ hS hG hK (fun p3=>[.v 17 (.bool true),.v 18 (.bool false)]) (fun p3=>[(2,.pointer (some ⟨(p1 0).N,0,none⟩)),(4,.float FloatKind.f64 0),(5,.bool false),(6,.int .u64 (n:Int)),(7,.int .i64 (m:Int)),(18,.bool false)]) (by kernel_rfl) (fun _ _=>by kernel_rfl) (fun _=>by kernel_rfl) (fun _=>by kernel_rfl) (fun p3=>?_) (fun p3 W3 T hF hK=>?_)
 ·iterate 2 refine ok_v (by kernel_rfl) ?_
  exact ok_nil
 replace hS:=SymF.fb hS hF [0] [⟨(p1 0).N,#[.bool true,.string s,.int .i64 x],23,true⟩] (by kernel_rfl) (by kernel_rfl)
 replace hG:=hF.gx
 clear hF
 have z3:=hS.fr.size
 refine wp_cond_false (hK.ev 18 (by kernel_rfl) _ (by kernel_rfl)) ?_
 refine wp_skip ?_
 refine then_n ?_
 refine wp_symQ hS hG hK (fun p4=>[.v 19 (.int .u64 (n:Int)),.c (some 20) (cV (.float .f64 (floatOfInt .f64 (n:Int)))),.v 9 (.float .f64 (floatOfInt .f64 (n:Int)))]) (fun p4=>[(2,.pointer (some ⟨(p1 0).N,0,none⟩)),(4,.float FloatKind.f64 0),(5,.bool false),(7,.int .i64 (m:Int)),(9,.float .f64 (floatOfInt .f64 (n:Int))),(18,.bool false)]) (by kernel_rfl) (fun _ _=>by kernel_rfl) (fun _=>by kernel_rfl) (fun _=>by kernel_rfl) (fun p4=>?_) (fun p4 W4 T hF hK=>?_)
 ·refine ok_v (by kernel_rfl) ?_
  refine ok_c (fun W cx=>as_v (qnear64 _ n)) (by kernel_rfl) ?_
  refine ok_v (by kernel_rfl) ?_
  exact ok_nil
 replace hS:=SymF.fb hS hF [0] [⟨(p1 0).N,#[.bool true,.string s,.int .i64 x],23,true⟩] (by kernel_rfl) (by kernel_rfl)
 replace hG:=hF.gx
 clear hF
 have z4:=hS.fr.size
 refine wp_seq ?_
 refine wp_symQ hS hG hK (fun p5=>[.v 21 (.int .i64 (m:Int)),.v 22 (.bool false)]) (fun p5=>[(2,.pointer (some ⟨(p1 0).N,0,none⟩)),(4,.float FloatKind.f64 0),(5,.bool false),(7,.int .i64 (m:Int)),(9,.float .f64 (floatOfInt .f64 (n:Int))),(18,.bool false),(22,.bool false)]) (by kernel_rfl) (fun _ _=>by kernel_rfl) (fun _=>by kernel_rfl) (fun _=>by kernel_rfl) (fun p5=>?_) (fun p5 W5 T hF hK=>?_)
 ·refine ok_v (by kernel_rfl) ?_
  refine ok_vb (decide_eq_false (show ¬ (m:Int) < 0 by omega)) (by kernel_rfl) ?_
  exact ok_nil
 replace hS:=SymF.fb hS hF [0] [⟨(p1 0).N,#[.bool true,.string s,.int .i64 x],23,true⟩] (by kernel_rfl) (by kernel_rfl)
 replace hG:=hF.gx
 clear hF
 have z5:=hS.fr.size
 refine wp_cond_false (hK.ev 22 (by kernel_rfl) _ (by kernel_rfl)) ?_
 refine wp_symG hS hG hK (fun p6=>[.v 28 (.float .f64 (floatOfInt .f64 (n:Int))),.v 29 (.int .i64 (m:Int)),.c (some 30) (cV (.float .f64 p)),.v 31 (.float .f64 z),.v 9 (.float .f64 z)]) (fun p6=>[(2,.pointer (some ⟨(p1 0).N,0,none⟩)),(4,.float FloatKind.f64 0),(5,.bool false),(7,.int .i64 (m:Int)),(9,.float .f64 z),(18,.bool false),(22,.bool false)]) (by kernel_rfl) (fun _ _=>by kernel_rfl) (fun _=>by kernel_rfl) (fun _=>by kernel_rfl) (fun p6=>?_) (fun p6 W6 T hF hK=>?_)
 ·iterate 2 refine ok_v (by kernel_rfl) ?_
  refine ok_c (fun W cx=>as_v (unhide HP _)) (by kernel_rfl) ?_
  refine ok_vr (script_mul (t:=34) hz) (by kernel_rfl) ?_
  refine ok_v (by kernel_rfl) ?_
  exact ok_nil
 replace hS:=SymF.fb hS hF [0] [⟨(p1 0).N,#[.bool true,.string s,.int .i64 x],23,true⟩] (by kernel_rfl) (by kernel_rfl)
 replace hG:=hF.gx
 clear hF
 have z6:=hS.fr.size
 refine then_n ?_
 refine wp_seq ?_
 refine wp_symQ hS hG hK (fun p7=>[.v 32 (.pointer (some ⟨(p1 0).N,0,none⟩)),.l 33 (.bool true) 0 0]) (fun p7=>[(4,.float FloatKind.f64 0),(5,.bool false),(7,.int .i64 (m:Int)),(9,.float .f64 z),(18,.bool false),(22,.bool false),(33,.bool true)]) (by kernel_rfl) (fun _ _=>by kernel_rfl) (fun _=>by kernel_rfl) (fun _=>by kernel_rfl) (fun p7=>?_) (fun p7 W7 T hF hK=>?_)
 ·refine ok_v (by kernel_rfl) ?_
  refine ok_L (by kernel_rfl) (by kernel_rfl) (by kernel_rfl) ?_
  exact ok_nil
 replace hS:=SymF.fb hS hF [] [] (by kernel_rfl) (by kernel_rfl)
 replace hG:=hF.gx
 clear hF
 have z7:=hS.fr.size
 refine wp_cond_true (hK.ev 33 (by kernel_rfl) _ (by kernel_rfl)) ?_
 refine wp_symG hS hG hK (fun p8=>[.v 34 (.float .f64 z),.v 35 (.float .f64 (Op.negFloat .f64 z)),.v 9 (.float .f64 (Op.negFloat .f64 z))]) (fun p8=>[(4,.float FloatKind.f64 0),(5,.bool false),(7,.int .i64 (m:Int)),(9,.float .f64 (Op.negFloat .f64 z)),(18,.bool false),(22,.bool false),(33,.bool true)]) (by kernel_rfl) (fun _ _=>by kernel_rfl) (fun _=>by kernel_rfl) (fun _=>by kernel_rfl) (fun p8=>?_) (fun p8 W8 T hF hK=>?_)
 ·iterate 3 refine ok_v (by kernel_rfl) ?_
  exact ok_nil
 replace hS:=SymF.fb hS hF [] [] (by kernel_rfl) (by kernel_rfl)
 replace hG:=hF.gx
 clear hF
 have z8:=hS.fr.size
 refine then_n ?_
 refine wp_symQ hS hG hK (fun p9=>[.v 36 (.float .f64 (Op.negFloat .f64 z)),.v 4 (.float .f64 (Op.negFloat .f64 z)),.v 5 (.bool true)]) (fun p9=>[(4,.float .f64 (Op.negFloat .f64 z)),(5,.bool true),(7,.int .i64 (m:Int)),(9,.float .f64 (Op.negFloat .f64 z)),(18,.bool false),(22,.bool false),(33,.bool true)]) (by kernel_rfl) (fun _ _=>by kernel_rfl) (fun _=>by kernel_rfl) (fun _=>by kernel_rfl) (fun p9=>?_) (fun p9 W9 T hF hK=>?_)
 ·iterate 3 refine ok_v (by kernel_rfl) ?_
  exact ok_nil
 replace hS:=SymF.fb hS hF [] [] (by kernel_rfl) (by kernel_rfl)
 replace hG:=hF.gx
 clear hF
 have z9:=hS.fr.size
 refine wp_ret ?_
 exact sym_end hS hK (.tuple #[.float .f64 (Op.negFloat .f64 z),.bool true]) [] [] (by kernel_rfl) (by kernel_rfl) ⟨rfl,hS.fr⟩
theorem qnst64_pf (w:World) (s:ByteArray) (x:Int) (n m p z:Nat) (hm:m≤22) (HF:Hid (∀ W:World,Calls Tryz.prog 31 #[.agg #[.int .u64 9007199254740992,.int .i64 22],.agg #[.bool false,.string s,.int .i64 x]] W fun e W'=>e = .returned (.tuple #[.int .u64 (n:Int),.int .i64 (m:Int),.bool true])∧Below W.heap.size W W')) (HP:Hid (∀ W:World,Calls Tryz.prog 49 #[.int .i64 (m:Int)] W fun e W'=>e = .returned (.float .f64 p)∧Below W.heap.size W W')) (hz:FloatKind.f64.format.mul (floatOfInt .f64 (n:Int)) p = some z) :
  Calls Tryz.prog 26 #[.agg #[.bool false,.string s,.int .i64 x],.agg #[.int .u64 9007199254740992,.int .i64 22]] w fun en w'=>en = .returned (.tuple #[.float .f64 z,.bool true])∧Below w.heap.size w w':=by
 refine calls_sym Tryz.func26 rfl (by kernel_rfl) fun T hK=>?_
 replace hK:Kn T _ [(0,.agg #[.bool false,.string s,.int .i64 x]),(1,.agg #[.int .u64 9007199254740992,.int .i64 22])]:=hK
 have hS:=Fb.begin w
 have hG:GsAt [] w:=trivial
 refine wp_symQ hS hG hK (fun p1=>[.n 2 #[.bool false,.string s,.int .i64 x] 23,.n 3 #[.int .u64 9007199254740992,.int .i64 22] 68,.v 4 (.float FloatKind.f64 0),.v 5 (.bool false)]) (fun p1=>[(2,.pointer (some ⟨(p1 0).N,0,none⟩)),(3,.pointer (some ⟨(p1 1).N,0,none⟩)),(4,.float FloatKind.f64 0),(5,.bool false)]) (by kernel_rfl) (fun _ _=>by kernel_rfl) (fun _=>by kernel_rfl) (fun _=>by kernel_rfl) (fun p1=>?_) (fun p1 W1 T hF hK=>?_)
 ·iterate 2 refine ok_n (fun _=>by kernel_rfl) ?_
  iterate 2 refine ok_v (by kernel_rfl) ?_
  exact ok_nil
 replace hS:=SymF.fb hS hF [1000,1001] [⟨(p1 0).N,#[.bool false,.string s,.int .i64 x],23,true⟩,⟨(p1 1).N,#[.int .u64 9007199254740992,.int .i64 22],68,true⟩] (by kernel_rfl) (by kernel_rfl)
 replace hG:=hF.gx
 clear hF
 have z1:=hS.fr.size
 refine wp_symQ hS hG hK (fun p2=>[.l 11 (.agg #[.int .u64 9007199254740992,.int .i64 22]) 1 0,.l 12 (.agg #[.bool false,.string s,.int .i64 x]) 0 0,.c (some 13) (cV (.tuple #[.int .u64 (n:Int),.int .i64 (m:Int),.bool true])),.v 10 (.tuple #[.int .u64 (n:Int),.int .i64 (m:Int),.bool true]),.v 14 (.int .u64 (n:Int)),.v 15 (.int .i64 (m:Int)),.v 16 (.bool true),.v 6 (.int .u64 (n:Int)),.v 7 (.int .i64 (m:Int)),.v 8 (.bool true)]) (fun p2=>[(2,.pointer (some ⟨(p1 0).N,0,none⟩)),(4,.float FloatKind.f64 0),(5,.bool false),(6,.int .u64 (n:Int)),(7,.int .i64 (m:Int)),(8,.bool true)]) (by kernel_rfl) (fun _ _=>by kernel_rfl) (fun _=>by kernel_rfl) (fun _=>by kernel_rfl) (fun p2=>?_) (fun p2 W2 T hF hK=>?_)
 ·iterate 2 refine ok_L (by kernel_rfl) (by kernel_rfl) (by kernel_rfl) ?_
  refine ok_c (fun W cx=>as_v (unhide HF _)) (by kernel_rfl) ?_
  iterate 7 refine ok_v (by kernel_rfl) ?_
  exact ok_nil
 replace hS:=SymF.fb hS hF [0] [⟨(p1 0).N,#[.bool false,.string s,.int .i64 x],23,true⟩] (by kernel_rfl) (by kernel_rfl)
 replace hG:=hF.gx
 clear hF
 have z2:=hS.fr.size
 refine wp_seq ?_
 refine wp_symQ hS hG hK (fun p3=>[.v 17 (.bool true),.v 18 (.bool false)]) (fun p3=>[(2,.pointer (some ⟨(p1 0).N,0,none⟩)),(4,.float FloatKind.f64 0),(5,.bool false),(6,.int .u64 (n:Int)),(7,.int .i64 (m:Int)),(18,.bool false)]) (by kernel_rfl) (fun _ _=>by kernel_rfl) (fun _=>by kernel_rfl) (fun _=>by kernel_rfl) (fun p3=>?_) (fun p3 W3 T hF hK=>?_)
 ·iterate 2 refine ok_v (by kernel_rfl) ?_
  exact ok_nil
 replace hS:=SymF.fb hS hF [0] [⟨(p1 0).N,#[.bool false,.string s,.int .i64 x],23,true⟩] (by kernel_rfl) (by kernel_rfl)
 replace hG:=hF.gx
 clear hF
 have z3:=hS.fr.size
 refine wp_cond_false (hK.ev 18 (by kernel_rfl) _ (by kernel_rfl)) ?_
 refine wp_skip ?_
 refine then_n ?_
 refine wp_symQ hS hG hK (fun p4=>[.v 19 (.int .u64 (n:Int)),.c (some 20) (cV (.float .f64 (floatOfInt .f64 (n:Int)))),.v 9 (.float .f64 (floatOfInt .f64 (n:Int)))]) (fun p4=>[(2,.pointer (some ⟨(p1 0).N,0,none⟩)),(4,.float FloatKind.f64 0),(5,.bool false),(7,.int .i64 (m:Int)),(9,.float .f64 (floatOfInt .f64 (n:Int))),(18,.bool false)]) (by kernel_rfl) (fun _ _=>by kernel_rfl) (fun _=>by kernel_rfl) (fun _=>by kernel_rfl) (fun p4=>?_) (fun p4 W4 T hF hK=>?_)
 ·refine ok_v (by kernel_rfl) ?_
  refine ok_c (fun W cx=>as_v (qnear64 _ n)) (by kernel_rfl) ?_
  refine ok_v (by kernel_rfl) ?_
  exact ok_nil
 replace hS:=SymF.fb hS hF [0] [⟨(p1 0).N,#[.bool false,.string s,.int .i64 x],23,true⟩] (by kernel_rfl) (by kernel_rfl)
 replace hG:=hF.gx
 clear hF
 have z4:=hS.fr.size
 refine wp_seq ?_
 refine wp_symQ hS hG hK (fun p5=>[.v 21 (.int .i64 (m:Int)),.v 22 (.bool false)]) (fun p5=>[(2,.pointer (some ⟨(p1 0).N,0,none⟩)),(4,.float FloatKind.f64 0),(5,.bool false),(7,.int .i64 (m:Int)),(9,.float .f64 (floatOfInt .f64 (n:Int))),(18,.bool false),(22,.bool false)]) (by kernel_rfl) (fun _ _=>by kernel_rfl) (fun _=>by kernel_rfl) (fun _=>by kernel_rfl) (fun p5=>?_) (fun p5 W5 T hF hK=>?_)
 ·refine ok_v (by kernel_rfl) ?_
  refine ok_vb (decide_eq_false (show ¬ (m:Int) < 0 by omega)) (by kernel_rfl) ?_
  exact ok_nil
 replace hS:=SymF.fb hS hF [0] [⟨(p1 0).N,#[.bool false,.string s,.int .i64 x],23,true⟩] (by kernel_rfl) (by kernel_rfl)
 replace hG:=hF.gx
 clear hF
 have z5:=hS.fr.size
 refine wp_cond_false (hK.ev 22 (by kernel_rfl) _ (by kernel_rfl)) ?_
 refine wp_symG hS hG hK (fun p6=>[.v 28 (.float .f64 (floatOfInt .f64 (n:Int))),.v 29 (.int .i64 (m:Int)),.c (some 30) (cV (.float .f64 p)),.v 31 (.float .f64 z),.v 9 (.float .f64 z)]) (fun p6=>[(2,.pointer (some ⟨(p1 0).N,0,none⟩)),(4,.float FloatKind.f64 0),(5,.bool false),(7,.int .i64 (m:Int)),(9,.float .f64 z),(18,.bool false),(22,.bool false)]) (by kernel_rfl) (fun _ _=>by kernel_rfl) (fun _=>by kernel_rfl) (fun _=>by kernel_rfl) (fun p6=>?_) (fun p6 W6 T hF hK=>?_)
 ·iterate 2 refine ok_v (by kernel_rfl) ?_
  refine ok_c (fun W cx=>as_v (unhide HP _)) (by kernel_rfl) ?_
  refine ok_vr (script_mul (t:=34) hz) (by kernel_rfl) ?_
  refine ok_v (by kernel_rfl) ?_
  exact ok_nil
 replace hS:=SymF.fb hS hF [0] [⟨(p1 0).N,#[.bool false,.string s,.int .i64 x],23,true⟩] (by kernel_rfl) (by kernel_rfl)
 replace hG:=hF.gx
 clear hF
 have z6:=hS.fr.size
 refine then_n ?_
 refine wp_seq ?_
 refine wp_symQ hS hG hK (fun p7=>[.v 32 (.pointer (some ⟨(p1 0).N,0,none⟩)),.l 33 (.bool false) 0 0]) (fun p7=>[(4,.float FloatKind.f64 0),(5,.bool false),(7,.int .i64 (m:Int)),(9,.float .f64 z),(18,.bool false),(22,.bool false),(33,.bool false)]) (by kernel_rfl) (fun _ _=>by kernel_rfl) (fun _=>by kernel_rfl) (fun _=>by kernel_rfl) (fun p7=>?_) (fun p7 W7 T hF hK=>?_)
 ·refine ok_v (by kernel_rfl) ?_
  refine ok_L (by kernel_rfl) (by kernel_rfl) (by kernel_rfl) ?_
  exact ok_nil
 replace hS:=SymF.fb hS hF [] [] (by kernel_rfl) (by kernel_rfl)
 replace hG:=hF.gx
 clear hF
 have z7:=hS.fr.size
 refine wp_cond_false (hK.ev 33 (by kernel_rfl) _ (by kernel_rfl)) ?_
 refine wp_skip ?_
 refine then_n ?_
 refine wp_symQ hS hG hK (fun p8=>[.v 36 (.float .f64 z),.v 4 (.float .f64 z),.v 5 (.bool true)]) (fun p8=>[(4,.float .f64 z),(5,.bool true),(7,.int .i64 (m:Int)),(9,.float .f64 z),(18,.bool false),(22,.bool false),(33,.bool false)]) (by kernel_rfl) (fun _ _=>by kernel_rfl) (fun _=>by kernel_rfl) (fun _=>by kernel_rfl) (fun p8=>?_) (fun p8 W8 T hF hK=>?_)
 ·iterate 3 refine ok_v (by kernel_rfl) ?_
  exact ok_nil
 replace hS:=SymF.fb hS hF [] [] (by kernel_rfl) (by kernel_rfl)
 replace hG:=hF.gx
 clear hF
 have z8:=hS.fr.size
 refine wp_ret ?_
 exact sym_end hS hK (.tuple #[.float .f64 z,.bool true]) [] [] (by kernel_rfl) (by kernel_rfl) ⟨rfl,hS.fr⟩
theorem qreach64 (w:World)   :
  Calls Tryz.prog 27 #[] w fun en w'=>en = .returned (.agg #[.int .u64 9007199254740992,.int .i64 22])∧Below w.heap.size w w':=by
 refine calls_sym Tryz.func27 rfl (by kernel_rfl) fun T hK=>?_
 replace hK:Kn T _ []:=hK
 have hS:=Fb.begin w
 have hG:GsAt [] w:=trivial
 refine wp_symQ hS hG hK (fun p1=>[.n 0 #[.int .u64 0,.int .i64 0] 68]) (fun p1=>[(0,.pointer (some ⟨(p1 0).N,0,none⟩))]) (by kernel_rfl) (fun _ _=>by kernel_rfl) (fun _=>by kernel_rfl) (fun _=>by kernel_rfl) (fun p1=>?_) (fun p1 W1 T hF hK=>?_)
 ·refine ok_n (fun _=>by kernel_rfl) ?_
  exact ok_nil
 replace hS:=SymF.fb hS hF [1000] [⟨(p1 0).N,#[.int .u64 0,.int .i64 0],68,true⟩] (by kernel_rfl) (by kernel_rfl)
 replace hG:=hF.gx
 clear hF
 have z1:=hS.fr.size
 refine wp_symQ hS hG hK (fun p2=>[.v 1 (.agg #[.int .u64 9007199254740992,.int .i64 22]),.p 0 0 [.int .u64 9007199254740992,.int .i64 22]]) (fun p2=>[(0,.pointer (some ⟨(p1 0).N,0,none⟩))]) (by kernel_rfl) (fun _ _=>by kernel_rfl) (fun _=>by kernel_rfl) (fun _=>by kernel_rfl) (fun p2=>?_) (fun p2 W2 T hF hK=>?_)
 ·refine ok_v (by kernel_rfl) ?_
  refine ok_P (by kernel_rfl) (by kernel_rfl) (by kernel_rfl) ?_
  exact ok_nil
 replace hS:=SymF.fb hS hF [0] [⟨(p1 0).N,#[.int .u64 9007199254740992,.int .i64 22],68,true⟩] (by kernel_rfl) (by kernel_rfl)
 replace hG:=hF.gx
 clear hF
 have z2:=hS.fr.size
 refine wp_ret ?_
 exact sym_end hS hK (.agg #[.int .u64 9007199254740992,.int .i64 22]) [(0,0,2)] [.int .u64 9007199254740992,.int .i64 22] (by kernel_rfl) (by kernel_rfl) ⟨rfl,hS.fr⟩
theorem qdouble (w:World) (g:Bool) (s:ByteArray) (x:Int) (z:Nat) (ok:Bool) (HN:Hid (∀ W:World,Calls Tryz.prog 26 #[.agg #[.bool g,.string s,.int .i64 x],.agg #[.int .u64 9007199254740992,.int .i64 22]] W fun e W'=>e = .returned (.tuple #[.float .f64 z,.bool ok])∧Below W.heap.size W W')) :
  Calls Tryz.prog 8 #[.agg #[.bool g,.string s,.int .i64 x]] w fun en w'=>en = .returned (.tuple #[.float .f64 z,.bool ok])∧Below w.heap.size w w':=by
 refine calls_sym Tryz.func8 rfl (by kernel_rfl) fun T hK=>?_
 replace hK:Kn T _ [(0,.agg #[.bool g,.string s,.int .i64 x])]:=hK
 have hS:=Fb.begin w
 have hG:GsAt [] w:=trivial
 refine wp_symQ hS hG hK (fun p1=>[.n 1 #[.bool g,.string s,.int .i64 x] 23,.v 2 (.float FloatKind.f64 0),.v 3 (.bool false)]) (fun p1=>[(1,.pointer (some ⟨(p1 0).N,0,none⟩)),(2,.float FloatKind.f64 0),(3,.bool false)]) (by kernel_rfl) (fun _ _=>by kernel_rfl) (fun _=>by kernel_rfl) (fun _=>by kernel_rfl) (fun p1=>?_) (fun p1 W1 T hF hK=>?_)
 ·refine ok_n (fun _=>by kernel_rfl) ?_
  iterate 2 refine ok_v (by kernel_rfl) ?_
  exact ok_nil
 replace hS:=SymF.fb hS hF [1000] [⟨(p1 0).N,#[.bool g,.string s,.int .i64 x],23,true⟩] (by kernel_rfl) (by kernel_rfl)
 replace hG:=hF.gx
 clear hF
 have z1:=hS.fr.size
 refine wp_symQ hS hG hK (fun p2=>[.l 4 (.agg #[.bool g,.string s,.int .i64 x]) 0 0,.c (some 5) (cV (.agg #[.int .u64 9007199254740992,.int .i64 22])),.c (some 6) (cV (.tuple #[.float .f64 z,.bool ok])),.v 7 (.float .f64 z),.v 8 (.bool ok),.v 2 (.float .f64 z),.v 3 (.bool ok)]) (fun p2=>[(2,.float .f64 z),(3,.bool ok)]) (by kernel_rfl) (fun _ _=>by kernel_rfl) (fun _=>by kernel_rfl) (fun _=>by kernel_rfl) (fun p2=>?_) (fun p2 W2 T hF hK=>?_)
 ·refine ok_L (by kernel_rfl) (by kernel_rfl) (by kernel_rfl) ?_
  refine ok_c (fun W cx=>as_v (qreach64 _)) (by kernel_rfl) ?_
  refine ok_c (fun W cx=>as_v (unhide HN _)) (by kernel_rfl) ?_
  iterate 4 refine ok_v (by kernel_rfl) ?_
  exact ok_nil
 replace hS:=SymF.fb hS hF [] [] (by kernel_rfl) (by kernel_rfl)
 replace hG:=hF.gx
 clear hF
 have z2:=hS.fr.size
 refine wp_ret ?_
 exact sym_end hS hK (.tuple #[.float .f64 z,.bool ok]) [] [] (by kernel_rfl) (by kernel_rfl) ⟨rfl,hS.fr⟩
theorem qfits (w:World) (g:Bool) (s:ByteArray) (x:Int) (n t:Int) (ok:Bool) (HF:Hid (∀ W:World,Calls Tryz.prog 31 #[.agg #[.int .u64 9007199254740992,.int .i64 22],.agg #[.bool g,.string s,.int .i64 x]] W fun e W'=>e = .returned (.tuple #[.int .u64 n,.int .i64 t,.bool ok])∧Below W.heap.size W W')) :
  Calls Tryz.prog 11 #[.agg #[.bool g,.string s,.int .i64 x]] w fun en w'=>en = .returned (.bool ok)∧Below w.heap.size w w':=by
 refine calls_sym Tryz.func11 rfl (by kernel_rfl) fun T hK=>?_
 replace hK:Kn T _ [(0,.agg #[.bool g,.string s,.int .i64 x])]:=hK
 have hS:=Fb.begin w
 have hG:GsAt [] w:=trivial
 refine wp_symQ hS hG hK (fun p1=>[.n 1 #[.bool g,.string s,.int .i64 x] 23,.v 2 (.bool false)]) (fun p1=>[(1,.pointer (some ⟨(p1 0).N,0,none⟩)),(2,.bool false)]) (by kernel_rfl) (fun _ _=>by kernel_rfl) (fun _=>by kernel_rfl) (fun _=>by kernel_rfl) (fun p1=>?_) (fun p1 W1 T hF hK=>?_)
 ·refine ok_n (fun _=>by kernel_rfl) ?_
  refine ok_v (by kernel_rfl) ?_
  exact ok_nil
 replace hS:=SymF.fb hS hF [1000] [⟨(p1 0).N,#[.bool g,.string s,.int .i64 x],23,true⟩] (by kernel_rfl) (by kernel_rfl)
 replace hG:=hF.gx
 clear hF
 have z1:=hS.fr.size
 refine wp_symQ hS hG hK (fun p2=>[.c (some 7) (cV (.agg #[.int .u64 9007199254740992,.int .i64 22])),.l 8 (.agg #[.bool g,.string s,.int .i64 x]) 0 0,.c (some 9) (cV (.tuple #[.int .u64 n,.int .i64 t,.bool ok])),.v 6 (.tuple #[.int .u64 n,.int .i64 t,.bool ok]),.v 10 (.int .u64 n),.v 11 (.int .i64 t),.v 12 (.bool ok),.v 3 (.int .u64 n),.v 4 (.int .i64 t),.v 5 (.bool ok)]) (fun p2=>[(2,.bool false),(5,.bool ok)]) (by kernel_rfl) (fun _ _=>by kernel_rfl) (fun _=>by kernel_rfl) (fun _=>by kernel_rfl) (fun p2=>?_) (fun p2 W2 T hF hK=>?_)
 ·refine ok_c (fun W cx=>as_v (qreach64 _)) (by kernel_rfl) ?_
  refine ok_L (by kernel_rfl) (by kernel_rfl) (by kernel_rfl) ?_
  refine ok_c (fun W cx=>as_v (unhide HF _)) (by kernel_rfl) ?_
  iterate 7 refine ok_v (by kernel_rfl) ?_
  exact ok_nil
 replace hS:=SymF.fb hS hF [] [] (by kernel_rfl) (by kernel_rfl)
 replace hG:=hF.gx
 clear hF
 have z2:=hS.fr.size
 refine wp_symQ hS hG hK (fun p3=>[.v 13 (.bool ok),.v 2 (.bool ok)]) (fun p3=>[(2,.bool ok)]) (by kernel_rfl) (fun _ _=>by kernel_rfl) (fun _=>by kernel_rfl) (fun _=>by kernel_rfl) (fun p3=>?_) (fun p3 W3 T hF hK=>?_)
 ·iterate 2 refine ok_v (by kernel_rfl) ?_
  exact ok_nil
 replace hS:=SymF.fb hS hF [] [] (by kernel_rfl) (by kernel_rfl)
 replace hG:=hF.gx
 clear hF
 have z3:=hS.fr.size
 refine wp_ret ?_
 exact sym_end hS hK (.bool ok) [] [] (by kernel_rfl) (by kernel_rfl) ⟨rfl,hS.fr⟩
theorem qnst32_no (w:World) (g:Bool) (s:ByteArray) (x:Int) (n t:Int) (HF:Hid (∀ W:World,Calls Tryz.prog 31 #[.agg #[.int .u64 16777216,.int .i64 10],.agg #[.bool g,.string s,.int .i64 x]] W fun e W'=>e = .returned (.tuple #[.int .u64 n,.int .i64 t,.bool false])∧Below W.heap.size W W')) :
  Calls Tryz.prog 28 #[.agg #[.bool g,.string s,.int .i64 x],.agg #[.int .u64 16777216,.int .i64 10]] w fun en w'=>en = .returned (.tuple #[.float .f32 0,.bool false])∧Below w.heap.size w w':=by
 refine calls_sym Tryz.func28 rfl (by kernel_rfl) fun T hK=>?_
 replace hK:Kn T _ [(0,.agg #[.bool g,.string s,.int .i64 x]),(1,.agg #[.int .u64 16777216,.int .i64 10])]:=hK
 have hS:=Fb.begin w
 have hG:GsAt [] w:=trivial
 refine wp_symQ hS hG hK (fun p1=>[.n 2 #[.bool g,.string s,.int .i64 x] 23,.n 3 #[.int .u64 16777216,.int .i64 10] 68,.v 4 (.float FloatKind.f32 0),.v 5 (.bool false)]) (fun p1=>[(2,.pointer (some ⟨(p1 0).N,0,none⟩)),(3,.pointer (some ⟨(p1 1).N,0,none⟩)),(4,.float FloatKind.f32 0),(5,.bool false)]) (by kernel_rfl) (fun _ _=>by kernel_rfl) (fun _=>by kernel_rfl) (fun _=>by kernel_rfl) (fun p1=>?_) (fun p1 W1 T hF hK=>?_)
 ·iterate 2 refine ok_n (fun _=>by kernel_rfl) ?_
  iterate 2 refine ok_v (by kernel_rfl) ?_
  exact ok_nil
 replace hS:=SymF.fb hS hF [1000,1001] [⟨(p1 0).N,#[.bool g,.string s,.int .i64 x],23,true⟩,⟨(p1 1).N,#[.int .u64 16777216,.int .i64 10],68,true⟩] (by kernel_rfl) (by kernel_rfl)
 replace hG:=hF.gx
 clear hF
 have z1:=hS.fr.size
 refine wp_symQ hS hG hK (fun p2=>[.l 11 (.agg #[.int .u64 16777216,.int .i64 10]) 1 0,.l 12 (.agg #[.bool g,.string s,.int .i64 x]) 0 0,.c (some 13) (cV (.tuple #[.int .u64 n,.int .i64 t,.bool false])),.v 10 (.tuple #[.int .u64 n,.int .i64 t,.bool false]),.v 14 (.int .u64 n),.v 15 (.int .i64 t),.v 16 (.bool false),.v 6 (.int .u64 n),.v 7 (.int .i64 t),.v 8 (.bool false)]) (fun p2=>[(2,.pointer (some ⟨(p1 0).N,0,none⟩)),(4,.float FloatKind.f32 0),(5,.bool false),(6,.int .u64 n),(7,.int .i64 t),(8,.bool false)]) (by kernel_rfl) (fun _ _=>by kernel_rfl) (fun _=>by kernel_rfl) (fun _=>by kernel_rfl) (fun p2=>?_) (fun p2 W2 T hF hK=>?_)
 ·iterate 2 refine ok_L (by kernel_rfl) (by kernel_rfl) (by kernel_rfl) ?_
  refine ok_c (fun W cx=>as_v (unhide HF _)) (by kernel_rfl) ?_
  iterate 7 refine ok_v (by kernel_rfl) ?_
  exact ok_nil
 replace hS:=SymF.fb hS hF [0] [⟨(p1 0).N,#[.bool g,.string s,.int .i64 x],23,true⟩] (by kernel_rfl) (by kernel_rfl)
 replace hG:=hF.gx
 clear hF
 have z2:=hS.fr.size
 refine wp_seq ?_
 refine wp_symQ hS hG hK (fun p3=>[.v 17 (.bool false),.v 18 (.bool true)]) (fun p3=>[(2,.pointer (some ⟨(p1 0).N,0,none⟩)),(4,.float FloatKind.f32 0),(5,.bool false),(6,.int .u64 n),(7,.int .i64 t),(18,.bool true)]) (by kernel_rfl) (fun _ _=>by kernel_rfl) (fun _=>by kernel_rfl) (fun _=>by kernel_rfl) (fun p3=>?_) (fun p3 W3 T hF hK=>?_)
 ·iterate 2 refine ok_v (by kernel_rfl) ?_
  exact ok_nil
 replace hS:=SymF.fb hS hF [0] [⟨(p1 0).N,#[.bool g,.string s,.int .i64 x],23,true⟩] (by kernel_rfl) (by kernel_rfl)
 replace hG:=hF.gx
 clear hF
 have z3:=hS.fr.size
 refine wp_cond_true (hK.ev 18 (by kernel_rfl) _ (by kernel_rfl)) ?_
 refine wp_symQ hS hG hK (fun p4=>[.v 4 (.float FloatKind.f32 0),.v 5 (.bool false)]) (fun p4=>[(2,.pointer (some ⟨(p1 0).N,0,none⟩)),(4,.float FloatKind.f32 0),(5,.bool false),(6,.int .u64 n),(7,.int .i64 t),(18,.bool true)]) (by kernel_rfl) (fun _ _=>by kernel_rfl) (fun _=>by kernel_rfl) (fun _=>by kernel_rfl) (fun p4=>?_) (fun p4 W4 T hF hK=>?_)
 ·iterate 2 refine ok_v (by kernel_rfl) ?_
  exact ok_nil
 replace hS:=SymF.fb hS hF [0] [⟨(p1 0).N,#[.bool g,.string s,.int .i64 x],23,true⟩] (by kernel_rfl) (by kernel_rfl)
 replace hG:=hF.gx
 clear hF
 have z4:=hS.fr.size
 refine wp_ret ?_
 refine then_r ?_
 exact sym_end hS hK (.tuple #[.float .f32 0,.bool false]) [] [] (by kernel_rfl) (by kernel_rfl) ⟨rfl,hS.fr⟩
theorem qnst32_qt (w:World) (s:ByteArray) (x:Int) (n m p z:Nat) (hm:0 < m∧m≤22) (HF:Hid (∀ W:World,Calls Tryz.prog 31 #[.agg #[.int .u64 16777216,.int .i64 10],.agg #[.bool true,.string s,.int .i64 x]] W fun e W'=>e = .returned (.tuple #[.int .u64 (n:Int),.int .i64 (-(m:Int)),.bool true])∧Below W.heap.size W W')) (HP:Hid (∀ W:World,Calls Tryz.prog 51 #[.int .i64 (m:Int)] W fun e W'=>e = .returned (.float .f32 p)∧Below W.heap.size W W')) (hz:FloatKind.f32.format.div (floatOfInt .f32 (n:Int)) p = some z) :
  Calls Tryz.prog 28 #[.agg #[.bool true,.string s,.int .i64 x],.agg #[.int .u64 16777216,.int .i64 10]] w fun en w'=>en = .returned (.tuple #[.float .f32 (Op.negFloat .f32 z),.bool true])∧Below w.heap.size w w':=by
 refine calls_sym Tryz.func28 rfl (by kernel_rfl) fun T hK=>?_
 replace hK:Kn T _ [(0,.agg #[.bool true,.string s,.int .i64 x]),(1,.agg #[.int .u64 16777216,.int .i64 10])]:=hK
 have hS:=Fb.begin w
 have hG:GsAt [] w:=trivial
 refine wp_symQ hS hG hK (fun p1=>[.n 2 #[.bool true,.string s,.int .i64 x] 23,.n 3 #[.int .u64 16777216,.int .i64 10] 68,.v 4 (.float FloatKind.f32 0),.v 5 (.bool false)]) (fun p1=>[(2,.pointer (some ⟨(p1 0).N,0,none⟩)),(3,.pointer (some ⟨(p1 1).N,0,none⟩)),(4,.float FloatKind.f32 0),(5,.bool false)]) (by kernel_rfl) (fun _ _=>by kernel_rfl) (fun _=>by kernel_rfl) (fun _=>by kernel_rfl) (fun p1=>?_) (fun p1 W1 T hF hK=>?_)
 ·iterate 2 refine ok_n (fun _=>by kernel_rfl) ?_
  iterate 2 refine ok_v (by kernel_rfl) ?_
  exact ok_nil
 replace hS:=SymF.fb hS hF [1000,1001] [⟨(p1 0).N,#[.bool true,.string s,.int .i64 x],23,true⟩,⟨(p1 1).N,#[.int .u64 16777216,.int .i64 10],68,true⟩] (by kernel_rfl) (by kernel_rfl)
 replace hG:=hF.gx
 clear hF
 have z1:=hS.fr.size
 refine wp_symQ hS hG hK (fun p2=>[.l 11 (.agg #[.int .u64 16777216,.int .i64 10]) 1 0,.l 12 (.agg #[.bool true,.string s,.int .i64 x]) 0 0,.c (some 13) (cV (.tuple #[.int .u64 (n:Int),.int .i64 (-(m:Int)),.bool true])),.v 10 (.tuple #[.int .u64 (n:Int),.int .i64 (-(m:Int)),.bool true]),.v 14 (.int .u64 (n:Int)),.v 15 (.int .i64 (-(m:Int))),.v 16 (.bool true),.v 6 (.int .u64 (n:Int)),.v 7 (.int .i64 (-(m:Int))),.v 8 (.bool true)]) (fun p2=>[(2,.pointer (some ⟨(p1 0).N,0,none⟩)),(4,.float FloatKind.f32 0),(5,.bool false),(6,.int .u64 (n:Int)),(7,.int .i64 (-(m:Int))),(8,.bool true)]) (by kernel_rfl) (fun _ _=>by kernel_rfl) (fun _=>by kernel_rfl) (fun _=>by kernel_rfl) (fun p2=>?_) (fun p2 W2 T hF hK=>?_)
 ·iterate 2 refine ok_L (by kernel_rfl) (by kernel_rfl) (by kernel_rfl) ?_
  refine ok_c (fun W cx=>as_v (unhide HF _)) (by kernel_rfl) ?_
  iterate 7 refine ok_v (by kernel_rfl) ?_
  exact ok_nil
 replace hS:=SymF.fb hS hF [0] [⟨(p1 0).N,#[.bool true,.string s,.int .i64 x],23,true⟩] (by kernel_rfl) (by kernel_rfl)
 replace hG:=hF.gx
 clear hF
 have z2:=hS.fr.size
 refine wp_seq ?_
 refine wp_symQ hS hG hK (fun p3=>[.v 17 (.bool true),.v 18 (.bool false)]) (fun p3=>[(2,.pointer (some ⟨(p1 0).N,0,none⟩)),(4,.float FloatKind.f32 0),(5,.bool false),(6,.int .u64 (n:Int)),(7,.int .i64 (-(m:Int))),(18,.bool false)]) (by kernel_rfl) (fun _ _=>by kernel_rfl) (fun _=>by kernel_rfl) (fun _=>by kernel_rfl) (fun p3=>?_) (fun p3 W3 T hF hK=>?_)
 ·iterate 2 refine ok_v (by kernel_rfl) ?_
  exact ok_nil
 replace hS:=SymF.fb hS hF [0] [⟨(p1 0).N,#[.bool true,.string s,.int .i64 x],23,true⟩] (by kernel_rfl) (by kernel_rfl)
 replace hG:=hF.gx
 clear hF
 have z3:=hS.fr.size
 refine wp_cond_false (hK.ev 18 (by kernel_rfl) _ (by kernel_rfl)) ?_
 refine wp_skip ?_
 refine then_n ?_
 refine wp_symQ hS hG hK (fun p4=>[.v 19 (.int .u64 (n:Int)),.c (some 20) (cV (.float .f32 (floatOfInt .f32 (n:Int)))),.v 9 (.float .f32 (floatOfInt .f32 (n:Int)))]) (fun p4=>[(2,.pointer (some ⟨(p1 0).N,0,none⟩)),(4,.float FloatKind.f32 0),(5,.bool false),(7,.int .i64 (-(m:Int))),(9,.float .f32 (floatOfInt .f32 (n:Int))),(18,.bool false)]) (by kernel_rfl) (fun _ _=>by kernel_rfl) (fun _=>by kernel_rfl) (fun _=>by kernel_rfl) (fun p4=>?_) (fun p4 W4 T hF hK=>?_)
 ·refine ok_v (by kernel_rfl) ?_
  refine ok_c (fun W cx=>as_v (qnear32 _ n)) (by kernel_rfl) ?_
  refine ok_v (by kernel_rfl) ?_
  exact ok_nil
 replace hS:=SymF.fb hS hF [0] [⟨(p1 0).N,#[.bool true,.string s,.int .i64 x],23,true⟩] (by kernel_rfl) (by kernel_rfl)
 replace hG:=hF.gx
 clear hF
 have z4:=hS.fr.size
 refine wp_seq ?_
 refine wp_symQ hS hG hK (fun p5=>[.v 21 (.int .i64 (-(m:Int))),.v 22 (.bool true)]) (fun p5=>[(2,.pointer (some ⟨(p1 0).N,0,none⟩)),(4,.float FloatKind.f32 0),(5,.bool false),(7,.int .i64 (-(m:Int))),(9,.float .f32 (floatOfInt .f32 (n:Int))),(18,.bool false),(22,.bool true)]) (by kernel_rfl) (fun _ _=>by kernel_rfl) (fun _=>by kernel_rfl) (fun _=>by kernel_rfl) (fun p5=>?_) (fun p5 W5 T hF hK=>?_)
 ·refine ok_v (by kernel_rfl) ?_
  refine ok_vb (decide_eq_true (show -(m:Int) < 0 by omega)) (by kernel_rfl) ?_
  exact ok_nil
 replace hS:=SymF.fb hS hF [0] [⟨(p1 0).N,#[.bool true,.string s,.int .i64 x],23,true⟩] (by kernel_rfl) (by kernel_rfl)
 replace hG:=hF.gx
 clear hF
 have z5:=hS.fr.size
 refine wp_cond_true (hK.ev 22 (by kernel_rfl) _ (by kernel_rfl)) ?_
 refine wp_symG hS hG hK (fun p6=>[.v 23 (.float .f32 (floatOfInt .f32 (n:Int))),.v 24 (.int .i64 (-(m:Int))),.v 25 (.int .i64 (m:Int)),.c (some 26) (cV (.float .f32 p)),.v 27 (.float .f32 z),.v 9 (.float .f32 z)]) (fun p6=>[(2,.pointer (some ⟨(p1 0).N,0,none⟩)),(4,.float FloatKind.f32 0),(5,.bool false),(7,.int .i64 (-(m:Int))),(9,.float .f32 z),(18,.bool false),(22,.bool true)]) (by kernel_rfl) (fun _ _=>by kernel_rfl) (fun _=>by kernel_rfl) (fun _=>by kernel_rfl) (fun p6=>?_) (fun p6 W6 T hF hK=>?_)
 ·iterate 2 refine ok_v (by kernel_rfl) ?_
  refine ok_vi ((wr64 (x:=0 - (-(m:Int))) (by omega) (by omega)).trans (by omega)) (by kernel_rfl) ?_
  refine ok_c (fun W cx=>as_v (unhide HP _)) (by kernel_rfl) ?_
  refine ok_vr (script_quo (t:=37) hz) (by kernel_rfl) ?_
  refine ok_v (by kernel_rfl) ?_
  exact ok_nil
 replace hS:=SymF.fb hS hF [0] [⟨(p1 0).N,#[.bool true,.string s,.int .i64 x],23,true⟩] (by kernel_rfl) (by kernel_rfl)
 replace hG:=hF.gx
 clear hF
 have z6:=hS.fr.size
 refine then_n ?_
 refine wp_seq ?_
 refine wp_symQ hS hG hK (fun p7=>[.v 32 (.pointer (some ⟨(p1 0).N,0,none⟩)),.l 33 (.bool true) 0 0]) (fun p7=>[(4,.float FloatKind.f32 0),(5,.bool false),(7,.int .i64 (-(m:Int))),(9,.float .f32 z),(18,.bool false),(22,.bool true),(33,.bool true)]) (by kernel_rfl) (fun _ _=>by kernel_rfl) (fun _=>by kernel_rfl) (fun _=>by kernel_rfl) (fun p7=>?_) (fun p7 W7 T hF hK=>?_)
 ·refine ok_v (by kernel_rfl) ?_
  refine ok_L (by kernel_rfl) (by kernel_rfl) (by kernel_rfl) ?_
  exact ok_nil
 replace hS:=SymF.fb hS hF [] [] (by kernel_rfl) (by kernel_rfl)
 replace hG:=hF.gx
 clear hF
 have z7:=hS.fr.size
 refine wp_cond_true (hK.ev 33 (by kernel_rfl) _ (by kernel_rfl)) ?_
 refine wp_symG hS hG hK (fun p8=>[.v 34 (.float .f32 z),.v 35 (.float .f32 (Op.negFloat .f32 z)),.v 9 (.float .f32 (Op.negFloat .f32 z))]) (fun p8=>[(4,.float FloatKind.f32 0),(5,.bool false),(7,.int .i64 (-(m:Int))),(9,.float .f32 (Op.negFloat .f32 z)),(18,.bool false),(22,.bool true),(33,.bool true)]) (by kernel_rfl) (fun _ _=>by kernel_rfl) (fun _=>by kernel_rfl) (fun _=>by kernel_rfl) (fun p8=>?_) (fun p8 W8 T hF hK=>?_)
 ·iterate 3 refine ok_v (by kernel_rfl) ?_
  exact ok_nil
 replace hS:=SymF.fb hS hF [] [] (by kernel_rfl) (by kernel_rfl)
 replace hG:=hF.gx
 clear hF
 have z8:=hS.fr.size
 refine then_n ?_
 refine wp_symQ hS hG hK (fun p9=>[.v 36 (.float .f32 (Op.negFloat .f32 z)),.v 4 (.float .f32 (Op.negFloat .f32 z)),.v 5 (.bool true)]) (fun p9=>[(4,.float .f32 (Op.negFloat .f32 z)),(5,.bool true),(7,.int .i64 (-(m:Int))),(9,.float .f32 (Op.negFloat .f32 z)),(18,.bool false),(22,.bool true),(33,.bool true)]) (by kernel_rfl) (fun _ _=>by kernel_rfl) (fun _=>by kernel_rfl) (fun _=>by kernel_rfl) (fun p9=>?_) (fun p9 W9 T hF hK=>?_)
 ·iterate 3 refine ok_v (by kernel_rfl) ?_
  exact ok_nil
 replace hS:=SymF.fb hS hF [] [] (by kernel_rfl) (by kernel_rfl)
 replace hG:=hF.gx
 clear hF
 have z9:=hS.fr.size
 refine wp_ret ?_
 exact sym_end hS hK (.tuple #[.float .f32 (Op.negFloat .f32 z),.bool true]) [] [] (by kernel_rfl) (by kernel_rfl) ⟨rfl,hS.fr⟩
theorem qnst32_qf (w:World) (s:ByteArray) (x:Int) (n m p z:Nat) (hm:0 < m∧m≤22) (HF:Hid (∀ W:World,Calls Tryz.prog 31 #[.agg #[.int .u64 16777216,.int .i64 10],.agg #[.bool false,.string s,.int .i64 x]] W fun e W'=>e = .returned (.tuple #[.int .u64 (n:Int),.int .i64 (-(m:Int)),.bool true])∧Below W.heap.size W W')) (HP:Hid (∀ W:World,Calls Tryz.prog 51 #[.int .i64 (m:Int)] W fun e W'=>e = .returned (.float .f32 p)∧Below W.heap.size W W')) (hz:FloatKind.f32.format.div (floatOfInt .f32 (n:Int)) p = some z) :
  Calls Tryz.prog 28 #[.agg #[.bool false,.string s,.int .i64 x],.agg #[.int .u64 16777216,.int .i64 10]] w fun en w'=>en = .returned (.tuple #[.float .f32 z,.bool true])∧Below w.heap.size w w':=by
 refine calls_sym Tryz.func28 rfl (by kernel_rfl) fun T hK=>?_
 replace hK:Kn T _ [(0,.agg #[.bool false,.string s,.int .i64 x]),(1,.agg #[.int .u64 16777216,.int .i64 10])]:=hK
 have hS:=Fb.begin w
 have hG:GsAt [] w:=trivial
 refine wp_symQ hS hG hK (fun p1=>[.n 2 #[.bool false,.string s,.int .i64 x] 23,.n 3 #[.int .u64 16777216,.int .i64 10] 68,.v 4 (.float FloatKind.f32 0),.v 5 (.bool false)]) (fun p1=>[(2,.pointer (some ⟨(p1 0).N,0,none⟩)),(3,.pointer (some ⟨(p1 1).N,0,none⟩)),(4,.float FloatKind.f32 0),(5,.bool false)]) (by kernel_rfl) (fun _ _=>by kernel_rfl) (fun _=>by kernel_rfl) (fun _=>by kernel_rfl) (fun p1=>?_) (fun p1 W1 T hF hK=>?_)
 ·iterate 2 refine ok_n (fun _=>by kernel_rfl) ?_
  iterate 2 refine ok_v (by kernel_rfl) ?_
  exact ok_nil
 replace hS:=SymF.fb hS hF [1000,1001] [⟨(p1 0).N,#[.bool false,.string s,.int .i64 x],23,true⟩,⟨(p1 1).N,#[.int .u64 16777216,.int .i64 10],68,true⟩] (by kernel_rfl) (by kernel_rfl)
 replace hG:=hF.gx
 clear hF
 have z1:=hS.fr.size
 refine wp_symQ hS hG hK (fun p2=>[.l 11 (.agg #[.int .u64 16777216,.int .i64 10]) 1 0,.l 12 (.agg #[.bool false,.string s,.int .i64 x]) 0 0,.c (some 13) (cV (.tuple #[.int .u64 (n:Int),.int .i64 (-(m:Int)),.bool true])),.v 10 (.tuple #[.int .u64 (n:Int),.int .i64 (-(m:Int)),.bool true]),.v 14 (.int .u64 (n:Int)),.v 15 (.int .i64 (-(m:Int))),.v 16 (.bool true),.v 6 (.int .u64 (n:Int)),.v 7 (.int .i64 (-(m:Int))),.v 8 (.bool true)]) (fun p2=>[(2,.pointer (some ⟨(p1 0).N,0,none⟩)),(4,.float FloatKind.f32 0),(5,.bool false),(6,.int .u64 (n:Int)),(7,.int .i64 (-(m:Int))),(8,.bool true)]) (by kernel_rfl) (fun _ _=>by kernel_rfl) (fun _=>by kernel_rfl) (fun _=>by kernel_rfl) (fun p2=>?_) (fun p2 W2 T hF hK=>?_)
 ·iterate 2 refine ok_L (by kernel_rfl) (by kernel_rfl) (by kernel_rfl) ?_
  refine ok_c (fun W cx=>as_v (unhide HF _)) (by kernel_rfl) ?_
  iterate 7 refine ok_v (by kernel_rfl) ?_
  exact ok_nil
 replace hS:=SymF.fb hS hF [0] [⟨(p1 0).N,#[.bool false,.string s,.int .i64 x],23,true⟩] (by kernel_rfl) (by kernel_rfl)
 replace hG:=hF.gx
 clear hF
 have z2:=hS.fr.size
 refine wp_seq ?_
 refine wp_symQ hS hG hK (fun p3=>[.v 17 (.bool true),.v 18 (.bool false)]) (fun p3=>[(2,.pointer (some ⟨(p1 0).N,0,none⟩)),(4,.float FloatKind.f32 0),(5,.bool false),(6,.int .u64 (n:Int)),(7,.int .i64 (-(m:Int))),(18,.bool false)]) (by kernel_rfl) (fun _ _=>by kernel_rfl) (fun _=>by kernel_rfl) (fun _=>by kernel_rfl) (fun p3=>?_) (fun p3 W3 T hF hK=>?_)
 ·iterate 2 refine ok_v (by kernel_rfl) ?_
  exact ok_nil
 replace hS:=SymF.fb hS hF [0] [⟨(p1 0).N,#[.bool false,.string s,.int .i64 x],23,true⟩] (by kernel_rfl) (by kernel_rfl)
 replace hG:=hF.gx
 clear hF
 have z3:=hS.fr.size
 refine wp_cond_false (hK.ev 18 (by kernel_rfl) _ (by kernel_rfl)) ?_
 refine wp_skip ?_
 refine then_n ?_
 refine wp_symQ hS hG hK (fun p4=>[.v 19 (.int .u64 (n:Int)),.c (some 20) (cV (.float .f32 (floatOfInt .f32 (n:Int)))),.v 9 (.float .f32 (floatOfInt .f32 (n:Int)))]) (fun p4=>[(2,.pointer (some ⟨(p1 0).N,0,none⟩)),(4,.float FloatKind.f32 0),(5,.bool false),(7,.int .i64 (-(m:Int))),(9,.float .f32 (floatOfInt .f32 (n:Int))),(18,.bool false)]) (by kernel_rfl) (fun _ _=>by kernel_rfl) (fun _=>by kernel_rfl) (fun _=>by kernel_rfl) (fun p4=>?_) (fun p4 W4 T hF hK=>?_)
 ·refine ok_v (by kernel_rfl) ?_
  refine ok_c (fun W cx=>as_v (qnear32 _ n)) (by kernel_rfl) ?_
  refine ok_v (by kernel_rfl) ?_
  exact ok_nil
 replace hS:=SymF.fb hS hF [0] [⟨(p1 0).N,#[.bool false,.string s,.int .i64 x],23,true⟩] (by kernel_rfl) (by kernel_rfl)
 replace hG:=hF.gx
 clear hF
 have z4:=hS.fr.size
 refine wp_seq ?_
 refine wp_symQ hS hG hK (fun p5=>[.v 21 (.int .i64 (-(m:Int))),.v 22 (.bool true)]) (fun p5=>[(2,.pointer (some ⟨(p1 0).N,0,none⟩)),(4,.float FloatKind.f32 0),(5,.bool false),(7,.int .i64 (-(m:Int))),(9,.float .f32 (floatOfInt .f32 (n:Int))),(18,.bool false),(22,.bool true)]) (by kernel_rfl) (fun _ _=>by kernel_rfl) (fun _=>by kernel_rfl) (fun _=>by kernel_rfl) (fun p5=>?_) (fun p5 W5 T hF hK=>?_)
 ·refine ok_v (by kernel_rfl) ?_
  refine ok_vb (decide_eq_true (show -(m:Int) < 0 by omega)) (by kernel_rfl) ?_
  exact ok_nil
 replace hS:=SymF.fb hS hF [0] [⟨(p1 0).N,#[.bool false,.string s,.int .i64 x],23,true⟩] (by kernel_rfl) (by kernel_rfl)
 replace hG:=hF.gx
 clear hF
 have z5:=hS.fr.size
 refine wp_cond_true (hK.ev 22 (by kernel_rfl) _ (by kernel_rfl)) ?_
 refine wp_symG hS hG hK (fun p6=>[.v 23 (.float .f32 (floatOfInt .f32 (n:Int))),.v 24 (.int .i64 (-(m:Int))),.v 25 (.int .i64 (m:Int)),.c (some 26) (cV (.float .f32 p)),.v 27 (.float .f32 z),.v 9 (.float .f32 z)]) (fun p6=>[(2,.pointer (some ⟨(p1 0).N,0,none⟩)),(4,.float FloatKind.f32 0),(5,.bool false),(7,.int .i64 (-(m:Int))),(9,.float .f32 z),(18,.bool false),(22,.bool true)]) (by kernel_rfl) (fun _ _=>by kernel_rfl) (fun _=>by kernel_rfl) (fun _=>by kernel_rfl) (fun p6=>?_) (fun p6 W6 T hF hK=>?_)
 ·iterate 2 refine ok_v (by kernel_rfl) ?_
  refine ok_vi ((wr64 (x:=0 - (-(m:Int))) (by omega) (by omega)).trans (by omega)) (by kernel_rfl) ?_
  refine ok_c (fun W cx=>as_v (unhide HP _)) (by kernel_rfl) ?_
  refine ok_vr (script_quo (t:=37) hz) (by kernel_rfl) ?_
  refine ok_v (by kernel_rfl) ?_
  exact ok_nil
 replace hS:=SymF.fb hS hF [0] [⟨(p1 0).N,#[.bool false,.string s,.int .i64 x],23,true⟩] (by kernel_rfl) (by kernel_rfl)
 replace hG:=hF.gx
 clear hF
 have z6:=hS.fr.size
 refine then_n ?_
 refine wp_seq ?_
 refine wp_symQ hS hG hK (fun p7=>[.v 32 (.pointer (some ⟨(p1 0).N,0,none⟩)),.l 33 (.bool false) 0 0]) (fun p7=>[(4,.float FloatKind.f32 0),(5,.bool false),(7,.int .i64 (-(m:Int))),(9,.float .f32 z),(18,.bool false),(22,.bool true),(33,.bool false)]) (by kernel_rfl) (fun _ _=>by kernel_rfl) (fun _=>by kernel_rfl) (fun _=>by kernel_rfl) (fun p7=>?_) (fun p7 W7 T hF hK=>?_)
 ·refine ok_v (by kernel_rfl) ?_
  refine ok_L (by kernel_rfl) (by kernel_rfl) (by kernel_rfl) ?_
  exact ok_nil
 replace hS:=SymF.fb hS hF [] [] (by kernel_rfl) (by kernel_rfl)
 replace hG:=hF.gx
 clear hF
 have z7:=hS.fr.size
 refine wp_cond_false (hK.ev 33 (by kernel_rfl) _ (by kernel_rfl)) ?_
 refine wp_skip ?_
 refine then_n ?_
 refine wp_symQ hS hG hK (fun p8=>[.v 36 (.float .f32 z),.v 4 (.float .f32 z),.v 5 (.bool true)]) (fun p8=>[(4,.float .f32 z),(5,.bool true),(7,.int .i64 (-(m:Int))),(9,.float .f32 z),(18,.bool false),(22,.bool true),(33,.bool false)]) (by kernel_rfl) (fun _ _=>by kernel_rfl) (fun _=>by kernel_rfl) (fun _=>by kernel_rfl) (fun p8=>?_) (fun p8 W8 T hF hK=>?_)
 ·iterate 3 refine ok_v (by kernel_rfl) ?_
  exact ok_nil
 replace hS:=SymF.fb hS hF [] [] (by kernel_rfl) (by kernel_rfl)
 replace hG:=hF.gx
 clear hF
 have z8:=hS.fr.size
 refine wp_ret ?_
 exact sym_end hS hK (.tuple #[.float .f32 z,.bool true]) [] [] (by kernel_rfl) (by kernel_rfl) ⟨rfl,hS.fr⟩
theorem qnst32_pt (w:World) (s:ByteArray) (x:Int) (n m p z:Nat) (hm:m≤22) (HF:Hid (∀ W:World,Calls Tryz.prog 31 #[.agg #[.int .u64 16777216,.int .i64 10],.agg #[.bool true,.string s,.int .i64 x]] W fun e W'=>e = .returned (.tuple #[.int .u64 (n:Int),.int .i64 (m:Int),.bool true])∧Below W.heap.size W W')) (HP:Hid (∀ W:World,Calls Tryz.prog 51 #[.int .i64 (m:Int)] W fun e W'=>e = .returned (.float .f32 p)∧Below W.heap.size W W')) (hz:FloatKind.f32.format.mul (floatOfInt .f32 (n:Int)) p = some z) :
  Calls Tryz.prog 28 #[.agg #[.bool true,.string s,.int .i64 x],.agg #[.int .u64 16777216,.int .i64 10]] w fun en w'=>en = .returned (.tuple #[.float .f32 (Op.negFloat .f32 z),.bool true])∧Below w.heap.size w w':=by
 refine calls_sym Tryz.func28 rfl (by kernel_rfl) fun T hK=>?_
 replace hK:Kn T _ [(0,.agg #[.bool true,.string s,.int .i64 x]),(1,.agg #[.int .u64 16777216,.int .i64 10])]:=hK
 have hS:=Fb.begin w
 have hG:GsAt [] w:=trivial
 refine wp_symQ hS hG hK (fun p1=>[.n 2 #[.bool true,.string s,.int .i64 x] 23,.n 3 #[.int .u64 16777216,.int .i64 10] 68,.v 4 (.float FloatKind.f32 0),.v 5 (.bool false)]) (fun p1=>[(2,.pointer (some ⟨(p1 0).N,0,none⟩)),(3,.pointer (some ⟨(p1 1).N,0,none⟩)),(4,.float FloatKind.f32 0),(5,.bool false)]) (by kernel_rfl) (fun _ _=>by kernel_rfl) (fun _=>by kernel_rfl) (fun _=>by kernel_rfl) (fun p1=>?_) (fun p1 W1 T hF hK=>?_)
 ·iterate 2 refine ok_n (fun _=>by kernel_rfl) ?_
  iterate 2 refine ok_v (by kernel_rfl) ?_
  exact ok_nil
 replace hS:=SymF.fb hS hF [1000,1001] [⟨(p1 0).N,#[.bool true,.string s,.int .i64 x],23,true⟩,⟨(p1 1).N,#[.int .u64 16777216,.int .i64 10],68,true⟩] (by kernel_rfl) (by kernel_rfl)
 replace hG:=hF.gx
 clear hF
 have z1:=hS.fr.size
 refine wp_symQ hS hG hK (fun p2=>[.l 11 (.agg #[.int .u64 16777216,.int .i64 10]) 1 0,.l 12 (.agg #[.bool true,.string s,.int .i64 x]) 0 0,.c (some 13) (cV (.tuple #[.int .u64 (n:Int),.int .i64 (m:Int),.bool true])),.v 10 (.tuple #[.int .u64 (n:Int),.int .i64 (m:Int),.bool true]),.v 14 (.int .u64 (n:Int)),.v 15 (.int .i64 (m:Int)),.v 16 (.bool true),.v 6 (.int .u64 (n:Int)),.v 7 (.int .i64 (m:Int)),.v 8 (.bool true)]) (fun p2=>[(2,.pointer (some ⟨(p1 0).N,0,none⟩)),(4,.float FloatKind.f32 0),(5,.bool false),(6,.int .u64 (n:Int)),(7,.int .i64 (m:Int)),(8,.bool true)]) (by kernel_rfl) (fun _ _=>by kernel_rfl) (fun _=>by kernel_rfl) (fun _=>by kernel_rfl) (fun p2=>?_) (fun p2 W2 T hF hK=>?_)
 ·iterate 2 refine ok_L (by kernel_rfl) (by kernel_rfl) (by kernel_rfl) ?_
  refine ok_c (fun W cx=>as_v (unhide HF _)) (by kernel_rfl) ?_
  iterate 7 refine ok_v (by kernel_rfl) ?_
  exact ok_nil
 replace hS:=SymF.fb hS hF [0] [⟨(p1 0).N,#[.bool true,.string s,.int .i64 x],23,true⟩] (by kernel_rfl) (by kernel_rfl)
 replace hG:=hF.gx
 clear hF
 have z2:=hS.fr.size
 refine wp_seq ?_
 refine wp_symQ hS hG hK (fun p3=>[.v 17 (.bool true),.v 18 (.bool false)]) (fun p3=>[(2,.pointer (some ⟨(p1 0).N,0,none⟩)),(4,.float FloatKind.f32 0),(5,.bool false),(6,.int .u64 (n:Int)),(7,.int .i64 (m:Int)),(18,.bool false)]) (by kernel_rfl) (fun _ _=>by kernel_rfl) (fun _=>by kernel_rfl) (fun _=>by kernel_rfl) (fun p3=>?_) (fun p3 W3 T hF hK=>?_)
 ·iterate 2 refine ok_v (by kernel_rfl) ?_
  exact ok_nil
 replace hS:=SymF.fb hS hF [0] [⟨(p1 0).N,#[.bool true,.string s,.int .i64 x],23,true⟩] (by kernel_rfl) (by kernel_rfl)
 replace hG:=hF.gx
 clear hF
 have z3:=hS.fr.size
 refine wp_cond_false (hK.ev 18 (by kernel_rfl) _ (by kernel_rfl)) ?_
 refine wp_skip ?_
 refine then_n ?_
 refine wp_symQ hS hG hK (fun p4=>[.v 19 (.int .u64 (n:Int)),.c (some 20) (cV (.float .f32 (floatOfInt .f32 (n:Int)))),.v 9 (.float .f32 (floatOfInt .f32 (n:Int)))]) (fun p4=>[(2,.pointer (some ⟨(p1 0).N,0,none⟩)),(4,.float FloatKind.f32 0),(5,.bool false),(7,.int .i64 (m:Int)),(9,.float .f32 (floatOfInt .f32 (n:Int))),(18,.bool false)]) (by kernel_rfl) (fun _ _=>by kernel_rfl) (fun _=>by kernel_rfl) (fun _=>by kernel_rfl) (fun p4=>?_) (fun p4 W4 T hF hK=>?_)
 ·refine ok_v (by kernel_rfl) ?_
  refine ok_c (fun W cx=>as_v (qnear32 _ n)) (by kernel_rfl) ?_
  refine ok_v (by kernel_rfl) ?_
  exact ok_nil
 replace hS:=SymF.fb hS hF [0] [⟨(p1 0).N,#[.bool true,.string s,.int .i64 x],23,true⟩] (by kernel_rfl) (by kernel_rfl)
 replace hG:=hF.gx
 clear hF
 have z4:=hS.fr.size
 refine wp_seq ?_
 refine wp_symQ hS hG hK (fun p5=>[.v 21 (.int .i64 (m:Int)),.v 22 (.bool false)]) (fun p5=>[(2,.pointer (some ⟨(p1 0).N,0,none⟩)),(4,.float FloatKind.f32 0),(5,.bool false),(7,.int .i64 (m:Int)),(9,.float .f32 (floatOfInt .f32 (n:Int))),(18,.bool false),(22,.bool false)]) (by kernel_rfl) (fun _ _=>by kernel_rfl) (fun _=>by kernel_rfl) (fun _=>by kernel_rfl) (fun p5=>?_) (fun p5 W5 T hF hK=>?_)
 ·refine ok_v (by kernel_rfl) ?_
  refine ok_vb (decide_eq_false (show ¬ (m:Int) < 0 by omega)) (by kernel_rfl) ?_
  exact ok_nil
 replace hS:=SymF.fb hS hF [0] [⟨(p1 0).N,#[.bool true,.string s,.int .i64 x],23,true⟩] (by kernel_rfl) (by kernel_rfl)
 replace hG:=hF.gx
 clear hF
 have z5:=hS.fr.size
 refine wp_cond_false (hK.ev 22 (by kernel_rfl) _ (by kernel_rfl)) ?_
 refine wp_symG hS hG hK (fun p6=>[.v 28 (.float .f32 (floatOfInt .f32 (n:Int))),.v 29 (.int .i64 (m:Int)),.c (some 30) (cV (.float .f32 p)),.v 31 (.float .f32 z),.v 9 (.float .f32 z)]) (fun p6=>[(2,.pointer (some ⟨(p1 0).N,0,none⟩)),(4,.float FloatKind.f32 0),(5,.bool false),(7,.int .i64 (m:Int)),(9,.float .f32 z),(18,.bool false),(22,.bool false)]) (by kernel_rfl) (fun _ _=>by kernel_rfl) (fun _=>by kernel_rfl) (fun _=>by kernel_rfl) (fun p6=>?_) (fun p6 W6 T hF hK=>?_)
 ·iterate 2 refine ok_v (by kernel_rfl) ?_
  refine ok_c (fun W cx=>as_v (unhide HP _)) (by kernel_rfl) ?_
  refine ok_vr (script_mul (t:=37) hz) (by kernel_rfl) ?_
  refine ok_v (by kernel_rfl) ?_
  exact ok_nil
 replace hS:=SymF.fb hS hF [0] [⟨(p1 0).N,#[.bool true,.string s,.int .i64 x],23,true⟩] (by kernel_rfl) (by kernel_rfl)
 replace hG:=hF.gx
 clear hF
 have z6:=hS.fr.size
 refine then_n ?_
 refine wp_seq ?_
 refine wp_symQ hS hG hK (fun p7=>[.v 32 (.pointer (some ⟨(p1 0).N,0,none⟩)),.l 33 (.bool true) 0 0]) (fun p7=>[(4,.float FloatKind.f32 0),(5,.bool false),(7,.int .i64 (m:Int)),(9,.float .f32 z),(18,.bool false),(22,.bool false),(33,.bool true)]) (by kernel_rfl) (fun _ _=>by kernel_rfl) (fun _=>by kernel_rfl) (fun _=>by kernel_rfl) (fun p7=>?_) (fun p7 W7 T hF hK=>?_)
 ·refine ok_v (by kernel_rfl) ?_
  refine ok_L (by kernel_rfl) (by kernel_rfl) (by kernel_rfl) ?_
  exact ok_nil
 replace hS:=SymF.fb hS hF [] [] (by kernel_rfl) (by kernel_rfl)
 replace hG:=hF.gx
 clear hF
 have z7:=hS.fr.size
 refine wp_cond_true (hK.ev 33 (by kernel_rfl) _ (by kernel_rfl)) ?_
 refine wp_symG hS hG hK (fun p8=>[.v 34 (.float .f32 z),.v 35 (.float .f32 (Op.negFloat .f32 z)),.v 9 (.float .f32 (Op.negFloat .f32 z))]) (fun p8=>[(4,.float FloatKind.f32 0),(5,.bool false),(7,.int .i64 (m:Int)),(9,.float .f32 (Op.negFloat .f32 z)),(18,.bool false),(22,.bool false),(33,.bool true)]) (by kernel_rfl) (fun _ _=>by kernel_rfl) (fun _=>by kernel_rfl) (fun _=>by kernel_rfl) (fun p8=>?_) (fun p8 W8 T hF hK=>?_)
 ·iterate 3 refine ok_v (by kernel_rfl) ?_
  exact ok_nil
 replace hS:=SymF.fb hS hF [] [] (by kernel_rfl) (by kernel_rfl)
 replace hG:=hF.gx
 clear hF
 have z8:=hS.fr.size
 refine then_n ?_
 refine wp_symQ hS hG hK (fun p9=>[.v 36 (.float .f32 (Op.negFloat .f32 z)),.v 4 (.float .f32 (Op.negFloat .f32 z)),.v 5 (.bool true)]) (fun p9=>[(4,.float .f32 (Op.negFloat .f32 z)),(5,.bool true),(7,.int .i64 (m:Int)),(9,.float .f32 (Op.negFloat .f32 z)),(18,.bool false),(22,.bool false),(33,.bool true)]) (by kernel_rfl) (fun _ _=>by kernel_rfl) (fun _=>by kernel_rfl) (fun _=>by kernel_rfl) (fun p9=>?_) (fun p9 W9 T hF hK=>?_)
 ·iterate 3 refine ok_v (by kernel_rfl) ?_
  exact ok_nil
 replace hS:=SymF.fb hS hF [] [] (by kernel_rfl) (by kernel_rfl)
 replace hG:=hF.gx
 clear hF
 have z9:=hS.fr.size
 refine wp_ret ?_
 exact sym_end hS hK (.tuple #[.float .f32 (Op.negFloat .f32 z),.bool true]) [] [] (by kernel_rfl) (by kernel_rfl) ⟨rfl,hS.fr⟩
theorem qnst32_pf (w:World) (s:ByteArray) (x:Int) (n m p z:Nat) (hm:m≤22) (HF:Hid (∀ W:World,Calls Tryz.prog 31 #[.agg #[.int .u64 16777216,.int .i64 10],.agg #[.bool false,.string s,.int .i64 x]] W fun e W'=>e = .returned (.tuple #[.int .u64 (n:Int),.int .i64 (m:Int),.bool true])∧Below W.heap.size W W')) (HP:Hid (∀ W:World,Calls Tryz.prog 51 #[.int .i64 (m:Int)] W fun e W'=>e = .returned (.float .f32 p)∧Below W.heap.size W W')) (hz:FloatKind.f32.format.mul (floatOfInt .f32 (n:Int)) p = some z) :
  Calls Tryz.prog 28 #[.agg #[.bool false,.string s,.int .i64 x],.agg #[.int .u64 16777216,.int .i64 10]] w fun en w'=>en = .returned (.tuple #[.float .f32 z,.bool true])∧Below w.heap.size w w':=by
 refine calls_sym Tryz.func28 rfl (by kernel_rfl) fun T hK=>?_
 replace hK:Kn T _ [(0,.agg #[.bool false,.string s,.int .i64 x]),(1,.agg #[.int .u64 16777216,.int .i64 10])]:=hK
 have hS:=Fb.begin w
 have hG:GsAt [] w:=trivial
 refine wp_symQ hS hG hK (fun p1=>[.n 2 #[.bool false,.string s,.int .i64 x] 23,.n 3 #[.int .u64 16777216,.int .i64 10] 68,.v 4 (.float FloatKind.f32 0),.v 5 (.bool false)]) (fun p1=>[(2,.pointer (some ⟨(p1 0).N,0,none⟩)),(3,.pointer (some ⟨(p1 1).N,0,none⟩)),(4,.float FloatKind.f32 0),(5,.bool false)]) (by kernel_rfl) (fun _ _=>by kernel_rfl) (fun _=>by kernel_rfl) (fun _=>by kernel_rfl) (fun p1=>?_) (fun p1 W1 T hF hK=>?_)
 ·iterate 2 refine ok_n (fun _=>by kernel_rfl) ?_
  iterate 2 refine ok_v (by kernel_rfl) ?_
  exact ok_nil
 replace hS:=SymF.fb hS hF [1000,1001] [⟨(p1 0).N,#[.bool false,.string s,.int .i64 x],23,true⟩,⟨(p1 1).N,#[.int .u64 16777216,.int .i64 10],68,true⟩] (by kernel_rfl) (by kernel_rfl)
 replace hG:=hF.gx
 clear hF
 have z1:=hS.fr.size
 refine wp_symQ hS hG hK (fun p2=>[.l 11 (.agg #[.int .u64 16777216,.int .i64 10]) 1 0,.l 12 (.agg #[.bool false,.string s,.int .i64 x]) 0 0,.c (some 13) (cV (.tuple #[.int .u64 (n:Int),.int .i64 (m:Int),.bool true])),.v 10 (.tuple #[.int .u64 (n:Int),.int .i64 (m:Int),.bool true]),.v 14 (.int .u64 (n:Int)),.v 15 (.int .i64 (m:Int)),.v 16 (.bool true),.v 6 (.int .u64 (n:Int)),.v 7 (.int .i64 (m:Int)),.v 8 (.bool true)]) (fun p2=>[(2,.pointer (some ⟨(p1 0).N,0,none⟩)),(4,.float FloatKind.f32 0),(5,.bool false),(6,.int .u64 (n:Int)),(7,.int .i64 (m:Int)),(8,.bool true)]) (by kernel_rfl) (fun _ _=>by kernel_rfl) (fun _=>by kernel_rfl) (fun _=>by kernel_rfl) (fun p2=>?_) (fun p2 W2 T hF hK=>?_)
 ·iterate 2 refine ok_L (by kernel_rfl) (by kernel_rfl) (by kernel_rfl) ?_
  refine ok_c (fun W cx=>as_v (unhide HF _)) (by kernel_rfl) ?_
  iterate 7 refine ok_v (by kernel_rfl) ?_
  exact ok_nil
 replace hS:=SymF.fb hS hF [0] [⟨(p1 0).N,#[.bool false,.string s,.int .i64 x],23,true⟩] (by kernel_rfl) (by kernel_rfl)
 replace hG:=hF.gx
 clear hF
 have z2:=hS.fr.size
 refine wp_seq ?_
 refine wp_symQ hS hG hK (fun p3=>[.v 17 (.bool true),.v 18 (.bool false)]) (fun p3=>[(2,.pointer (some ⟨(p1 0).N,0,none⟩)),(4,.float FloatKind.f32 0),(5,.bool false),(6,.int .u64 (n:Int)),(7,.int .i64 (m:Int)),(18,.bool false)]) (by kernel_rfl) (fun _ _=>by kernel_rfl) (fun _=>by kernel_rfl) (fun _=>by kernel_rfl) (fun p3=>?_) (fun p3 W3 T hF hK=>?_)
 ·iterate 2 refine ok_v (by kernel_rfl) ?_
  exact ok_nil
 replace hS:=SymF.fb hS hF [0] [⟨(p1 0).N,#[.bool false,.string s,.int .i64 x],23,true⟩] (by kernel_rfl) (by kernel_rfl)
 replace hG:=hF.gx
 clear hF
 have z3:=hS.fr.size
 refine wp_cond_false (hK.ev 18 (by kernel_rfl) _ (by kernel_rfl)) ?_
 refine wp_skip ?_
 refine then_n ?_
 refine wp_symQ hS hG hK (fun p4=>[.v 19 (.int .u64 (n:Int)),.c (some 20) (cV (.float .f32 (floatOfInt .f32 (n:Int)))),.v 9 (.float .f32 (floatOfInt .f32 (n:Int)))]) (fun p4=>[(2,.pointer (some ⟨(p1 0).N,0,none⟩)),(4,.float FloatKind.f32 0),(5,.bool false),(7,.int .i64 (m:Int)),(9,.float .f32 (floatOfInt .f32 (n:Int))),(18,.bool false)]) (by kernel_rfl) (fun _ _=>by kernel_rfl) (fun _=>by kernel_rfl) (fun _=>by kernel_rfl) (fun p4=>?_) (fun p4 W4 T hF hK=>?_)
 ·refine ok_v (by kernel_rfl) ?_
  refine ok_c (fun W cx=>as_v (qnear32 _ n)) (by kernel_rfl) ?_
  refine ok_v (by kernel_rfl) ?_
  exact ok_nil
 replace hS:=SymF.fb hS hF [0] [⟨(p1 0).N,#[.bool false,.string s,.int .i64 x],23,true⟩] (by kernel_rfl) (by kernel_rfl)
 replace hG:=hF.gx
 clear hF
 have z4:=hS.fr.size
 refine wp_seq ?_
 refine wp_symQ hS hG hK (fun p5=>[.v 21 (.int .i64 (m:Int)),.v 22 (.bool false)]) (fun p5=>[(2,.pointer (some ⟨(p1 0).N,0,none⟩)),(4,.float FloatKind.f32 0),(5,.bool false),(7,.int .i64 (m:Int)),(9,.float .f32 (floatOfInt .f32 (n:Int))),(18,.bool false),(22,.bool false)]) (by kernel_rfl) (fun _ _=>by kernel_rfl) (fun _=>by kernel_rfl) (fun _=>by kernel_rfl) (fun p5=>?_) (fun p5 W5 T hF hK=>?_)
 ·refine ok_v (by kernel_rfl) ?_
  refine ok_vb (decide_eq_false (show ¬ (m:Int) < 0 by omega)) (by kernel_rfl) ?_
  exact ok_nil
 replace hS:=SymF.fb hS hF [0] [⟨(p1 0).N,#[.bool false,.string s,.int .i64 x],23,true⟩] (by kernel_rfl) (by kernel_rfl)
 replace hG:=hF.gx
 clear hF
 have z5:=hS.fr.size
 refine wp_cond_false (hK.ev 22 (by kernel_rfl) _ (by kernel_rfl)) ?_
 refine wp_symG hS hG hK (fun p6=>[.v 28 (.float .f32 (floatOfInt .f32 (n:Int))),.v 29 (.int .i64 (m:Int)),.c (some 30) (cV (.float .f32 p)),.v 31 (.float .f32 z),.v 9 (.float .f32 z)]) (fun p6=>[(2,.pointer (some ⟨(p1 0).N,0,none⟩)),(4,.float FloatKind.f32 0),(5,.bool false),(7,.int .i64 (m:Int)),(9,.float .f32 z),(18,.bool false),(22,.bool false)]) (by kernel_rfl) (fun _ _=>by kernel_rfl) (fun _=>by kernel_rfl) (fun _=>by kernel_rfl) (fun p6=>?_) (fun p6 W6 T hF hK=>?_)
 ·iterate 2 refine ok_v (by kernel_rfl) ?_
  refine ok_c (fun W cx=>as_v (unhide HP _)) (by kernel_rfl) ?_
  refine ok_vr (script_mul (t:=37) hz) (by kernel_rfl) ?_
  refine ok_v (by kernel_rfl) ?_
  exact ok_nil
 replace hS:=SymF.fb hS hF [0] [⟨(p1 0).N,#[.bool false,.string s,.int .i64 x],23,true⟩] (by kernel_rfl) (by kernel_rfl)
 replace hG:=hF.gx
 clear hF
 have z6:=hS.fr.size
 refine then_n ?_
 refine wp_seq ?_
 refine wp_symQ hS hG hK (fun p7=>[.v 32 (.pointer (some ⟨(p1 0).N,0,none⟩)),.l 33 (.bool false) 0 0]) (fun p7=>[(4,.float FloatKind.f32 0),(5,.bool false),(7,.int .i64 (m:Int)),(9,.float .f32 z),(18,.bool false),(22,.bool false),(33,.bool false)]) (by kernel_rfl) (fun _ _=>by kernel_rfl) (fun _=>by kernel_rfl) (fun _=>by kernel_rfl) (fun p7=>?_) (fun p7 W7 T hF hK=>?_)
 ·refine ok_v (by kernel_rfl) ?_
  refine ok_L (by kernel_rfl) (by kernel_rfl) (by kernel_rfl) ?_
  exact ok_nil
 replace hS:=SymF.fb hS hF [] [] (by kernel_rfl) (by kernel_rfl)
 replace hG:=hF.gx
 clear hF
 have z7:=hS.fr.size
 refine wp_cond_false (hK.ev 33 (by kernel_rfl) _ (by kernel_rfl)) ?_
 refine wp_skip ?_
 refine then_n ?_
 refine wp_symQ hS hG hK (fun p8=>[.v 36 (.float .f32 z),.v 4 (.float .f32 z),.v 5 (.bool true)]) (fun p8=>[(4,.float .f32 z),(5,.bool true),(7,.int .i64 (m:Int)),(9,.float .f32 z),(18,.bool false),(22,.bool false),(33,.bool false)]) (by kernel_rfl) (fun _ _=>by kernel_rfl) (fun _=>by kernel_rfl) (fun _=>by kernel_rfl) (fun p8=>?_) (fun p8 W8 T hF hK=>?_)
 ·iterate 3 refine ok_v (by kernel_rfl) ?_
  exact ok_nil
 replace hS:=SymF.fb hS hF [] [] (by kernel_rfl) (by kernel_rfl)
 replace hG:=hF.gx
 clear hF
 have z8:=hS.fr.size
 refine wp_ret ?_
 exact sym_end hS hK (.tuple #[.float .f32 z,.bool true]) [] [] (by kernel_rfl) (by kernel_rfl) ⟨rfl,hS.fr⟩
theorem qreach32 (w:World)   :
  Calls Tryz.prog 29 #[] w fun en w'=>en = .returned (.agg #[.int .u64 16777216,.int .i64 10])∧Below w.heap.size w w':=by
 refine calls_sym Tryz.func29 rfl (by kernel_rfl) fun T hK=>?_
 replace hK:Kn T _ []:=hK
 have hS:=Fb.begin w
 have hG:GsAt [] w:=trivial
 refine wp_symQ hS hG hK (fun p1=>[.n 0 #[.int .u64 0,.int .i64 0] 68]) (fun p1=>[(0,.pointer (some ⟨(p1 0).N,0,none⟩))]) (by kernel_rfl) (fun _ _=>by kernel_rfl) (fun _=>by kernel_rfl) (fun _=>by kernel_rfl) (fun p1=>?_) (fun p1 W1 T hF hK=>?_)
 ·refine ok_n (fun _=>by kernel_rfl) ?_
  exact ok_nil
 replace hS:=SymF.fb hS hF [1000] [⟨(p1 0).N,#[.int .u64 0,.int .i64 0],68,true⟩] (by kernel_rfl) (by kernel_rfl)
 replace hG:=hF.gx
 clear hF
 have z1:=hS.fr.size
 refine wp_symQ hS hG hK (fun p2=>[.v 1 (.agg #[.int .u64 16777216,.int .i64 10]),.p 0 0 [.int .u64 16777216,.int .i64 10]]) (fun p2=>[(0,.pointer (some ⟨(p1 0).N,0,none⟩))]) (by kernel_rfl) (fun _ _=>by kernel_rfl) (fun _=>by kernel_rfl) (fun _=>by kernel_rfl) (fun p2=>?_) (fun p2 W2 T hF hK=>?_)
 ·refine ok_v (by kernel_rfl) ?_
  refine ok_P (by kernel_rfl) (by kernel_rfl) (by kernel_rfl) ?_
  exact ok_nil
 replace hS:=SymF.fb hS hF [0] [⟨(p1 0).N,#[.int .u64 16777216,.int .i64 10],68,true⟩] (by kernel_rfl) (by kernel_rfl)
 replace hG:=hF.gx
 clear hF
 have z2:=hS.fr.size
 refine wp_ret ?_
 exact sym_end hS hK (.agg #[.int .u64 16777216,.int .i64 10]) [(0,0,2)] [.int .u64 16777216,.int .i64 10] (by kernel_rfl) (by kernel_rfl) ⟨rfl,hS.fr⟩
theorem qsingle (w:World) (g:Bool) (s:ByteArray) (x:Int) (z:Nat) (ok:Bool) (HN:Hid (∀ W:World,Calls Tryz.prog 28 #[.agg #[.bool g,.string s,.int .i64 x],.agg #[.int .u64 16777216,.int .i64 10]] W fun e W'=>e = .returned (.tuple #[.float .f32 z,.bool ok])∧Below W.heap.size W W')) :
  Calls Tryz.prog 9 #[.agg #[.bool g,.string s,.int .i64 x]] w fun en w'=>en = .returned (.tuple #[.float .f32 z,.bool ok])∧Below w.heap.size w w':=by
 refine calls_sym Tryz.func9 rfl (by kernel_rfl) fun T hK=>?_
 replace hK:Kn T _ [(0,.agg #[.bool g,.string s,.int .i64 x])]:=hK
 have hS:=Fb.begin w
 have hG:GsAt [] w:=trivial
 refine wp_symQ hS hG hK (fun p1=>[.n 1 #[.bool g,.string s,.int .i64 x] 23,.v 2 (.float FloatKind.f32 0),.v 3 (.bool false)]) (fun p1=>[(1,.pointer (some ⟨(p1 0).N,0,none⟩)),(2,.float FloatKind.f32 0),(3,.bool false)]) (by kernel_rfl) (fun _ _=>by kernel_rfl) (fun _=>by kernel_rfl) (fun _=>by kernel_rfl) (fun p1=>?_) (fun p1 W1 T hF hK=>?_)
 ·refine ok_n (fun _=>by kernel_rfl) ?_
  iterate 2 refine ok_v (by kernel_rfl) ?_
  exact ok_nil
 replace hS:=SymF.fb hS hF [1000] [⟨(p1 0).N,#[.bool g,.string s,.int .i64 x],23,true⟩] (by kernel_rfl) (by kernel_rfl)
 replace hG:=hF.gx
 clear hF
 have z1:=hS.fr.size
 refine wp_symQ hS hG hK (fun p2=>[.l 4 (.agg #[.bool g,.string s,.int .i64 x]) 0 0,.c (some 5) (cV (.agg #[.int .u64 16777216,.int .i64 10])),.c (some 6) (cV (.tuple #[.float .f32 z,.bool ok])),.v 7 (.float .f32 z),.v 8 (.bool ok),.v 2 (.float .f32 z),.v 3 (.bool ok)]) (fun p2=>[(2,.float .f32 z),(3,.bool ok)]) (by kernel_rfl) (fun _ _=>by kernel_rfl) (fun _=>by kernel_rfl) (fun _=>by kernel_rfl) (fun p2=>?_) (fun p2 W2 T hF hK=>?_)
 ·refine ok_L (by kernel_rfl) (by kernel_rfl) (by kernel_rfl) ?_
  refine ok_c (fun W cx=>as_v (qreach32 _)) (by kernel_rfl) ?_
  refine ok_c (fun W cx=>as_v (unhide HN _)) (by kernel_rfl) ?_
  iterate 4 refine ok_v (by kernel_rfl) ?_
  exact ok_nil
 replace hS:=SymF.fb hS hF [] [] (by kernel_rfl) (by kernel_rfl)
 replace hG:=hF.gx
 clear hF
 have z2:=hS.fr.size
 refine wp_ret ?_
 exact sym_end hS hK (.tuple #[.float .f32 z,.bool ok]) [] [] (by kernel_rfl) (by kernel_rfl) ⟨rfl,hS.fr⟩
theorem isN_t (w:World) (g:Bool) (s:ByteArray) (x:Int) (hz:s.size = 0) :
  Calls Tryz.prog 17 #[.agg #[.bool g,.string s,.int .i64 x]] w fun en w'=>en = .returned (.bool true)∧Below w.heap.size w w':=by
 refine calls_sym Tryz.func17 rfl (by kernel_rfl) fun T hK=>?_
 replace hK:Kn T _ [(0,.agg #[.bool g,.string s,.int .i64 x])]:=hK
 have hS:=Fb.begin w
 have hG:GsAt [] w:=trivial
 refine wp_symQ hS hG hK (fun p1=>[.n 1 #[.bool g,.string s,.int .i64 x] 23,.v 2 (.bool false)]) (fun p1=>[(1,.pointer (some ⟨(p1 0).N,0,none⟩)),(2,.bool false)]) (by kernel_rfl) (fun _ _=>by kernel_rfl) (fun _=>by kernel_rfl) (fun _=>by kernel_rfl) (fun p1=>?_) (fun p1 W1 T hF hK=>?_)
 ·refine ok_n (fun _=>by kernel_rfl) ?_
  refine ok_v (by kernel_rfl) ?_
  exact ok_nil
 replace hS:=SymF.fb hS hF [1000] [⟨(p1 0).N,#[.bool g,.string s,.int .i64 x],23,true⟩] (by kernel_rfl) (by kernel_rfl)
 replace hG:=hF.gx
 clear hF
 have z1:=hS.fr.size
 refine wp_symQ hS hG hK (fun p2=>[.v 3 (.pointer (some ⟨(p1 0).N,1,none⟩)),.l 4 (.string s) 0 1,.v 5 (.int .i64 (s.size:Int)),.v 6 (.bool true),.v 2 (.bool true)]) (fun p2=>[(2,.bool true)]) (by kernel_rfl) (fun _ _=>by kernel_rfl) (fun _=>by kernel_rfl) (fun _=>by kernel_rfl) (fun p2=>?_) (fun p2 W2 T hF hK=>?_)
 ·refine ok_v (by kernel_rfl) ?_
  refine ok_L (by kernel_rfl) (by kernel_rfl) (by kernel_rfl) ?_
  refine ok_v (by kernel_rfl) ?_
  refine ok_vb (beq_iff_eq.2 (show (s.size:Int) = 0 by omega)) (by kernel_rfl) ?_
  refine ok_v (by kernel_rfl) ?_
  exact ok_nil
 replace hS:=SymF.fb hS hF [] [] (by kernel_rfl) (by kernel_rfl)
 replace hG:=hF.gx
 clear hF
 have z2:=hS.fr.size
 refine wp_ret ?_
 exact sym_end hS hK (.bool true) [] [] (by kernel_rfl) (by kernel_rfl) ⟨rfl,hS.fr⟩
theorem isN_f (w:World) (g:Bool) (s:ByteArray) (x:Int) (hz:s.size≠0) :
  Calls Tryz.prog 17 #[.agg #[.bool g,.string s,.int .i64 x]] w fun en w'=>en = .returned (.bool false)∧Below w.heap.size w w':=by
 refine calls_sym Tryz.func17 rfl (by kernel_rfl) fun T hK=>?_
 replace hK:Kn T _ [(0,.agg #[.bool g,.string s,.int .i64 x])]:=hK
 have hS:=Fb.begin w
 have hG:GsAt [] w:=trivial
 refine wp_symQ hS hG hK (fun p1=>[.n 1 #[.bool g,.string s,.int .i64 x] 23,.v 2 (.bool false)]) (fun p1=>[(1,.pointer (some ⟨(p1 0).N,0,none⟩)),(2,.bool false)]) (by kernel_rfl) (fun _ _=>by kernel_rfl) (fun _=>by kernel_rfl) (fun _=>by kernel_rfl) (fun p1=>?_) (fun p1 W1 T hF hK=>?_)
 ·refine ok_n (fun _=>by kernel_rfl) ?_
  refine ok_v (by kernel_rfl) ?_
  exact ok_nil
 replace hS:=SymF.fb hS hF [1000] [⟨(p1 0).N,#[.bool g,.string s,.int .i64 x],23,true⟩] (by kernel_rfl) (by kernel_rfl)
 replace hG:=hF.gx
 clear hF
 have z1:=hS.fr.size
 refine wp_symQ hS hG hK (fun p2=>[.v 3 (.pointer (some ⟨(p1 0).N,1,none⟩)),.l 4 (.string s) 0 1,.v 5 (.int .i64 (s.size:Int)),.v 6 (.bool false),.v 2 (.bool false)]) (fun p2=>[(2,.bool false)]) (by kernel_rfl) (fun _ _=>by kernel_rfl) (fun _=>by kernel_rfl) (fun _=>by kernel_rfl) (fun p2=>?_) (fun p2 W2 T hF hK=>?_)
 ·refine ok_v (by kernel_rfl) ?_
  refine ok_L (by kernel_rfl) (by kernel_rfl) (by kernel_rfl) ?_
  refine ok_v (by kernel_rfl) ?_
  refine ok_vb (beq_false_of_ne (show (s.size:Int)≠0 by omega)) (by kernel_rfl) ?_
  refine ok_v (by kernel_rfl) ?_
  exact ok_nil
 replace hS:=SymF.fb hS hF [] [] (by kernel_rfl) (by kernel_rfl)
 replace hG:=hF.gx
 clear hF
 have z2:=hS.fr.size
 refine wp_ret ?_
 exact sym_end hS hK (.bool false) [] [] (by kernel_rfl) (by kernel_rfl) ⟨rfl,hS.fr⟩
theorem bey_lo (w:World) (x:Int) (h:x < -1073741824) :
  Calls Tryz.prog 20 #[.int .i64 x] w fun en w'=>en = .returned (.bool true)∧Below w.heap.size w w':=by
 refine calls_sym Tryz.func20 rfl (by kernel_rfl) fun T hK=>?_
 replace hK:Kn T _ [(0,.int .i64 x)]:=hK
 have hS:=Fb.begin w
 have hG:GsAt [] w:=trivial
 refine wp_symQ hS hG hK (fun p1=>[.v 2 (.bool false)]) (fun p1=>[(0,.int .i64 x),(2,.bool false)]) (by kernel_rfl) (fun _ _=>by kernel_rfl) (fun _=>by kernel_rfl) (fun _=>by kernel_rfl) (fun p1=>?_) (fun p1 W1 T hF hK=>?_)
 ·refine ok_v (by kernel_rfl) ?_
  exact ok_nil
 replace hS:=SymF.fb hS hF [] [] (by kernel_rfl) (by kernel_rfl)
 replace hG:=hF.gx
 clear hF
 have z1:=hS.fr.size
 refine wp_symQ hS hG hK (fun p2=>[.v 3 (.int .i64 x),.v 4 (.bool true),.v 5 (.bool true),.k (some 6),.k (some 7),.v 8 (.bool true),.v 2 (.bool true)]) (fun p2=>[(2,.bool true)]) (by kernel_rfl) (fun _ _=>by kernel_rfl) (fun _=>by kernel_rfl) (fun _=>by kernel_rfl) (fun p2=>?_) (fun p2 W2 T hF hK=>?_)
 ·refine ok_v (by kernel_rfl) ?_
  refine ok_vb (decide_eq_true (show x < -1073741824 by omega)) (by kernel_rfl) ?_
  refine ok_v (by kernel_rfl) ?_
  iterate 2 refine ok_K (by kernel_rfl) ?_
  iterate 2 refine ok_v (by kernel_rfl) ?_
  exact ok_nil
 replace hS:=SymF.fb hS hF [] [] (by kernel_rfl) (by kernel_rfl)
 replace hG:=hF.gx
 clear hF
 have z2:=hS.fr.size
 refine wp_ret ?_
 exact sym_end hS hK (.bool true) [] [] (by kernel_rfl) (by kernel_rfl) ⟨rfl,hS.fr⟩
theorem bey_hi (w:World) (x:Int) (_h0:-1073741824≤x) (h:1073741824 < x) :
  Calls Tryz.prog 20 #[.int .i64 x] w fun en w'=>en = .returned (.bool true)∧Below w.heap.size w w':=by
 refine calls_sym Tryz.func20 rfl (by kernel_rfl) fun T hK=>?_
 replace hK:Kn T _ [(0,.int .i64 x)]:=hK
 have hS:=Fb.begin w
 have hG:GsAt [] w:=trivial
 refine wp_symQ hS hG hK (fun p1=>[.v 2 (.bool false)]) (fun p1=>[(0,.int .i64 x),(2,.bool false)]) (by kernel_rfl) (fun _ _=>by kernel_rfl) (fun _=>by kernel_rfl) (fun _=>by kernel_rfl) (fun p1=>?_) (fun p1 W1 T hF hK=>?_)
 ·refine ok_v (by kernel_rfl) ?_
  exact ok_nil
 replace hS:=SymF.fb hS hF [] [] (by kernel_rfl) (by kernel_rfl)
 replace hG:=hF.gx
 clear hF
 have z1:=hS.fr.size
 refine wp_symQ hS hG hK (fun p2=>[.v 3 (.int .i64 x),.v 4 (.bool false),.v 5 (.bool false),.v 6 (.int .i64 x),.v 7 (.bool true),.v 8 (.bool true),.v 2 (.bool true)]) (fun p2=>[(2,.bool true)]) (by kernel_rfl) (fun _ _=>by kernel_rfl) (fun _=>by kernel_rfl) (fun _=>by kernel_rfl) (fun p2=>?_) (fun p2 W2 T hF hK=>?_)
 ·refine ok_v (by kernel_rfl) ?_
  refine ok_vb (decide_eq_false (show ¬ x < -1073741824 by omega)) (by kernel_rfl) ?_
  iterate 2 refine ok_v (by kernel_rfl) ?_
  refine ok_vb (decide_eq_true (show x > 1073741824 by omega)) (by kernel_rfl) ?_
  iterate 2 refine ok_v (by kernel_rfl) ?_
  exact ok_nil
 replace hS:=SymF.fb hS hF [] [] (by kernel_rfl) (by kernel_rfl)
 replace hG:=hF.gx
 clear hF
 have z2:=hS.fr.size
 refine wp_ret ?_
 exact sym_end hS hK (.bool true) [] [] (by kernel_rfl) (by kernel_rfl) ⟨rfl,hS.fr⟩
theorem bey_in (w:World) (x:Int) (h0:-1073741824≤x) (h:x≤1073741824) :
  Calls Tryz.prog 20 #[.int .i64 x] w fun en w'=>en = .returned (.bool false)∧Below w.heap.size w w':=by
 refine calls_sym Tryz.func20 rfl (by kernel_rfl) fun T hK=>?_
 replace hK:Kn T _ [(0,.int .i64 x)]:=hK
 have hS:=Fb.begin w
 have hG:GsAt [] w:=trivial
 refine wp_symQ hS hG hK (fun p1=>[.v 2 (.bool false)]) (fun p1=>[(0,.int .i64 x),(2,.bool false)]) (by kernel_rfl) (fun _ _=>by kernel_rfl) (fun _=>by kernel_rfl) (fun _=>by kernel_rfl) (fun p1=>?_) (fun p1 W1 T hF hK=>?_)
 ·refine ok_v (by kernel_rfl) ?_
  exact ok_nil
 replace hS:=SymF.fb hS hF [] [] (by kernel_rfl) (by kernel_rfl)
 replace hG:=hF.gx
 clear hF
 have z1:=hS.fr.size
 refine wp_symQ hS hG hK (fun p2=>[.v 3 (.int .i64 x),.v 4 (.bool false),.v 5 (.bool false),.v 6 (.int .i64 x),.v 7 (.bool false),.v 8 (.bool false),.v 2 (.bool false)]) (fun p2=>[(2,.bool false)]) (by kernel_rfl) (fun _ _=>by kernel_rfl) (fun _=>by kernel_rfl) (fun _=>by kernel_rfl) (fun p2=>?_) (fun p2 W2 T hF hK=>?_)
 ·refine ok_v (by kernel_rfl) ?_
  refine ok_vb (decide_eq_false (show ¬ x < -1073741824 by omega)) (by kernel_rfl) ?_
  iterate 2 refine ok_v (by kernel_rfl) ?_
  refine ok_vb (decide_eq_false (show ¬ x > 1073741824 by omega)) (by kernel_rfl) ?_
  iterate 2 refine ok_v (by kernel_rfl) ?_
  exact ok_nil
 replace hS:=SymF.fb hS hF [] [] (by kernel_rfl) (by kernel_rfl)
 replace hG:=hF.gx
 clear hF
 have z2:=hS.fr.size
 refine wp_ret ?_
 exact sym_end hS hK (.bool false) [] [] (by kernel_rfl) (by kernel_rfl) ⟨rfl,hS.fr⟩
theorem dck_many (w:World) (g:Bool) (s:ByteArray) (x:Int) (hm:65536 < s.size) :
  Calls Tryz.prog 6 #[.agg #[.bool g,.string s,.int .i64 x]] w fun en w'=>en = .returned (.int .i64 4)∧Below w.heap.size w w':=by
 refine calls_sym Tryz.func6 rfl (by kernel_rfl) fun T hK=>?_
 replace hK:Kn T _ [(0,.agg #[.bool g,.string s,.int .i64 x])]:=hK
 have hS:=Fb.begin w
 have hG:GsAt [] w:=trivial
 refine wp_symQ hS hG hK (fun p1=>[.n 1 #[.bool g,.string s,.int .i64 x] 23,.v 2 (.int .i64 0)]) (fun p1=>[(1,.pointer (some ⟨(p1 0).N,0,none⟩)),(2,.int .i64 0)]) (by kernel_rfl) (fun _ _=>by kernel_rfl) (fun _=>by kernel_rfl) (fun _=>by kernel_rfl) (fun p1=>?_) (fun p1 W1 T hF hK=>?_)
 ·refine ok_n (fun _=>by kernel_rfl) ?_
  refine ok_v (by kernel_rfl) ?_
  exact ok_nil
 replace hS:=SymF.fb hS hF [1000] [⟨(p1 0).N,#[.bool g,.string s,.int .i64 x],23,true⟩] (by kernel_rfl) (by kernel_rfl)
 replace hG:=hF.gx
 clear hF
 have z1:=hS.fr.size
 refine wp_seq ?_
 refine wp_symQ hS hG hK (fun p2=>[.v 5 (.pointer (some ⟨(p1 0).N,1,none⟩)),.l 6 (.string s) 0 1,.v 7 (.int .i64 (s.size:Int)),.v 8 (.bool true)]) (fun p2=>[(1,.pointer (some ⟨(p1 0).N,0,none⟩)),(2,.int .i64 0),(8,.bool true)]) (by kernel_rfl) (fun _ _=>by kernel_rfl) (fun _=>by kernel_rfl) (fun _=>by kernel_rfl) (fun p2=>?_) (fun p2 W2 T hF hK=>?_)
 ·refine ok_v (by kernel_rfl) ?_
  refine ok_L (by kernel_rfl) (by kernel_rfl) (by kernel_rfl) ?_
  refine ok_v (by kernel_rfl) ?_
  refine ok_vb (decide_eq_true (show (s.size:Int) > 65536 by omega)) (by kernel_rfl) ?_
  exact ok_nil
 replace hS:=SymF.fb hS hF [0] [⟨(p1 0).N,#[.bool g,.string s,.int .i64 x],23,true⟩] (by kernel_rfl) (by kernel_rfl)
 replace hG:=hF.gx
 clear hF
 have z2:=hS.fr.size
 refine wp_cond_true (hK.ev 8 (by kernel_rfl) _ (by kernel_rfl)) ?_
 refine wp_symQ hS hG hK (fun p3=>[.v 2 (.int .i64 4)]) (fun p3=>[(1,.pointer (some ⟨(p1 0).N,0,none⟩)),(2,.int .i64 4),(8,.bool true)]) (by kernel_rfl) (fun _ _=>by kernel_rfl) (fun _=>by kernel_rfl) (fun _=>by kernel_rfl) (fun p3=>?_) (fun p3 W3 T hF hK=>?_)
 ·refine ok_v (by kernel_rfl) ?_
  exact ok_nil
 replace hS:=SymF.fb hS hF [0] [⟨(p1 0).N,#[.bool g,.string s,.int .i64 x],23,true⟩] (by kernel_rfl) (by kernel_rfl)
 replace hG:=hF.gx
 clear hF
 have z3:=hS.fr.size
 refine wp_ret ?_
 refine then_r ?_
 exact sym_end hS hK (.int .i64 4) [] [] (by kernel_rfl) (by kernel_rfl) ⟨rfl,hS.fr⟩
theorem dck_z0 (w:World) (g:Bool) (s:ByteArray) (x:Int) (_hm:s.size≤65536) (hz:s.size = 0) (hx:x = 0) :
  Calls Tryz.prog 6 #[.agg #[.bool g,.string s,.int .i64 x]] w fun en w'=>en = .returned (.int .i64 0)∧Below w.heap.size w w':=by
 refine calls_sym Tryz.func6 rfl (by kernel_rfl) fun T hK=>?_
 replace hK:Kn T _ [(0,.agg #[.bool g,.string s,.int .i64 x])]:=hK
 have hS:=Fb.begin w
 have hG:GsAt [] w:=trivial
 refine wp_symQ hS hG hK (fun p1=>[.n 1 #[.bool g,.string s,.int .i64 x] 23,.v 2 (.int .i64 0)]) (fun p1=>[(1,.pointer (some ⟨(p1 0).N,0,none⟩)),(2,.int .i64 0)]) (by kernel_rfl) (fun _ _=>by kernel_rfl) (fun _=>by kernel_rfl) (fun _=>by kernel_rfl) (fun p1=>?_) (fun p1 W1 T hF hK=>?_)
 ·refine ok_n (fun _=>by kernel_rfl) ?_
  refine ok_v (by kernel_rfl) ?_
  exact ok_nil
 replace hS:=SymF.fb hS hF [1000] [⟨(p1 0).N,#[.bool g,.string s,.int .i64 x],23,true⟩] (by kernel_rfl) (by kernel_rfl)
 replace hG:=hF.gx
 clear hF
 have z1:=hS.fr.size
 refine wp_seq ?_
 refine wp_symQ hS hG hK (fun p2=>[.v 5 (.pointer (some ⟨(p1 0).N,1,none⟩)),.l 6 (.string s) 0 1,.v 7 (.int .i64 (s.size:Int)),.v 8 (.bool false)]) (fun p2=>[(1,.pointer (some ⟨(p1 0).N,0,none⟩)),(2,.int .i64 0),(8,.bool false)]) (by kernel_rfl) (fun _ _=>by kernel_rfl) (fun _=>by kernel_rfl) (fun _=>by kernel_rfl) (fun p2=>?_) (fun p2 W2 T hF hK=>?_)
 ·refine ok_v (by kernel_rfl) ?_
  refine ok_L (by kernel_rfl) (by kernel_rfl) (by kernel_rfl) ?_
  refine ok_v (by kernel_rfl) ?_
  refine ok_vb (decide_eq_false (show ¬ (s.size:Int) > 65536 by omega)) (by kernel_rfl) ?_
  exact ok_nil
 replace hS:=SymF.fb hS hF [0] [⟨(p1 0).N,#[.bool g,.string s,.int .i64 x],23,true⟩] (by kernel_rfl) (by kernel_rfl)
 replace hG:=hF.gx
 clear hF
 have z2:=hS.fr.size
 refine wp_cond_false (hK.ev 8 (by kernel_rfl) _ (by kernel_rfl)) ?_
 refine wp_skip ?_
 refine then_n ?_
 refine wp_seq ?_
 refine wp_symQ hS hG hK (fun p3=>[.l 9 (.agg #[.bool g,.string s,.int .i64 x]) 0 0,.c (some 10) (cV (.bool true))]) (fun p3=>[(1,.pointer (some ⟨(p1 0).N,0,none⟩)),(2,.int .i64 0),(8,.bool false),(10,.bool true)]) (by kernel_rfl) (fun _ _=>by kernel_rfl) (fun _=>by kernel_rfl) (fun _=>by kernel_rfl) (fun p3=>?_) (fun p3 W3 T hF hK=>?_)
 ·refine ok_L (by kernel_rfl) (by kernel_rfl) (by kernel_rfl) ?_
  refine ok_c (fun W cx=>as_v (isN_t _ g s x hz)) (by kernel_rfl) ?_
  exact ok_nil
 replace hS:=SymF.fb hS hF [0] [⟨(p1 0).N,#[.bool g,.string s,.int .i64 x],23,true⟩] (by kernel_rfl) (by kernel_rfl)
 replace hG:=hF.gx
 clear hF
 have z3:=hS.fr.size
 refine wp_cond_true (hK.ev 10 (by kernel_rfl) _ (by kernel_rfl)) ?_
 refine wp_seq ?_
 refine wp_symQ hS hG hK (fun p4=>[.v 11 (.pointer (some ⟨(p1 0).N,2,none⟩)),.l 12 (.int .i64 x) 0 2,.v 13 (.bool false)]) (fun p4=>[(1,.pointer (some ⟨(p1 0).N,0,none⟩)),(2,.int .i64 0),(8,.bool false),(10,.bool true),(13,.bool false)]) (by kernel_rfl) (fun _ _=>by kernel_rfl) (fun _=>by kernel_rfl) (fun _=>by kernel_rfl) (fun p4=>?_) (fun p4 W4 T hF hK=>?_)
 ·refine ok_v (by kernel_rfl) ?_
  refine ok_L (by kernel_rfl) (by kernel_rfl) (by kernel_rfl) ?_
  refine ok_vb ((bne_eq_false_iff_eq.2 (show x = 0 by omega))) (by kernel_rfl) ?_
  exact ok_nil
 replace hS:=SymF.fb hS hF [0] [⟨(p1 0).N,#[.bool g,.string s,.int .i64 x],23,true⟩] (by kernel_rfl) (by kernel_rfl)
 replace hG:=hF.gx
 clear hF
 have z4:=hS.fr.size
 refine wp_cond_false (hK.ev 13 (by kernel_rfl) _ (by kernel_rfl)) ?_
 refine wp_skip ?_
 refine then_n ?_
 refine wp_symQ hS hG hK (fun p5=>[.v 2 (.int .i64 0)]) (fun p5=>[(1,.pointer (some ⟨(p1 0).N,0,none⟩)),(2,.int .i64 0),(8,.bool false),(10,.bool true),(13,.bool false)]) (by kernel_rfl) (fun _ _=>by kernel_rfl) (fun _=>by kernel_rfl) (fun _=>by kernel_rfl) (fun p5=>?_) (fun p5 W5 T hF hK=>?_)
 ·refine ok_v (by kernel_rfl) ?_
  exact ok_nil
 replace hS:=SymF.fb hS hF [0] [⟨(p1 0).N,#[.bool g,.string s,.int .i64 x],23,true⟩] (by kernel_rfl) (by kernel_rfl)
 replace hG:=hF.gx
 clear hF
 have z5:=hS.fr.size
 refine wp_ret ?_
 refine then_r ?_
 exact sym_end hS hK (.int .i64 0) [] [] (by kernel_rfl) (by kernel_rfl) ⟨rfl,hS.fr⟩
theorem dck_z1 (w:World) (g:Bool) (s:ByteArray) (x:Int) (_hm:s.size≤65536) (hz:s.size = 0) (hx:x≠0) :
  Calls Tryz.prog 6 #[.agg #[.bool g,.string s,.int .i64 x]] w fun en w'=>en = .returned (.int .i64 100)∧Below w.heap.size w w':=by
 refine calls_sym Tryz.func6 rfl (by kernel_rfl) fun T hK=>?_
 replace hK:Kn T _ [(0,.agg #[.bool g,.string s,.int .i64 x])]:=hK
 have hS:=Fb.begin w
 have hG:GsAt [] w:=trivial
 refine wp_symQ hS hG hK (fun p1=>[.n 1 #[.bool g,.string s,.int .i64 x] 23,.v 2 (.int .i64 0)]) (fun p1=>[(1,.pointer (some ⟨(p1 0).N,0,none⟩)),(2,.int .i64 0)]) (by kernel_rfl) (fun _ _=>by kernel_rfl) (fun _=>by kernel_rfl) (fun _=>by kernel_rfl) (fun p1=>?_) (fun p1 W1 T hF hK=>?_)
 ·refine ok_n (fun _=>by kernel_rfl) ?_
  refine ok_v (by kernel_rfl) ?_
  exact ok_nil
 replace hS:=SymF.fb hS hF [1000] [⟨(p1 0).N,#[.bool g,.string s,.int .i64 x],23,true⟩] (by kernel_rfl) (by kernel_rfl)
 replace hG:=hF.gx
 clear hF
 have z1:=hS.fr.size
 refine wp_seq ?_
 refine wp_symQ hS hG hK (fun p2=>[.v 5 (.pointer (some ⟨(p1 0).N,1,none⟩)),.l 6 (.string s) 0 1,.v 7 (.int .i64 (s.size:Int)),.v 8 (.bool false)]) (fun p2=>[(1,.pointer (some ⟨(p1 0).N,0,none⟩)),(2,.int .i64 0),(8,.bool false)]) (by kernel_rfl) (fun _ _=>by kernel_rfl) (fun _=>by kernel_rfl) (fun _=>by kernel_rfl) (fun p2=>?_) (fun p2 W2 T hF hK=>?_)
 ·refine ok_v (by kernel_rfl) ?_
  refine ok_L (by kernel_rfl) (by kernel_rfl) (by kernel_rfl) ?_
  refine ok_v (by kernel_rfl) ?_
  refine ok_vb (decide_eq_false (show ¬ (s.size:Int) > 65536 by omega)) (by kernel_rfl) ?_
  exact ok_nil
 replace hS:=SymF.fb hS hF [0] [⟨(p1 0).N,#[.bool g,.string s,.int .i64 x],23,true⟩] (by kernel_rfl) (by kernel_rfl)
 replace hG:=hF.gx
 clear hF
 have z2:=hS.fr.size
 refine wp_cond_false (hK.ev 8 (by kernel_rfl) _ (by kernel_rfl)) ?_
 refine wp_skip ?_
 refine then_n ?_
 refine wp_seq ?_
 refine wp_symQ hS hG hK (fun p3=>[.l 9 (.agg #[.bool g,.string s,.int .i64 x]) 0 0,.c (some 10) (cV (.bool true))]) (fun p3=>[(1,.pointer (some ⟨(p1 0).N,0,none⟩)),(2,.int .i64 0),(8,.bool false),(10,.bool true)]) (by kernel_rfl) (fun _ _=>by kernel_rfl) (fun _=>by kernel_rfl) (fun _=>by kernel_rfl) (fun p3=>?_) (fun p3 W3 T hF hK=>?_)
 ·refine ok_L (by kernel_rfl) (by kernel_rfl) (by kernel_rfl) ?_
  refine ok_c (fun W cx=>as_v (isN_t _ g s x hz)) (by kernel_rfl) ?_
  exact ok_nil
 replace hS:=SymF.fb hS hF [0] [⟨(p1 0).N,#[.bool g,.string s,.int .i64 x],23,true⟩] (by kernel_rfl) (by kernel_rfl)
 replace hG:=hF.gx
 clear hF
 have z3:=hS.fr.size
 refine wp_cond_true (hK.ev 10 (by kernel_rfl) _ (by kernel_rfl)) ?_
 refine wp_seq ?_
 refine wp_symQ hS hG hK (fun p4=>[.v 11 (.pointer (some ⟨(p1 0).N,2,none⟩)),.l 12 (.int .i64 x) 0 2,.v 13 (.bool true)]) (fun p4=>[(1,.pointer (some ⟨(p1 0).N,0,none⟩)),(2,.int .i64 0),(8,.bool false),(10,.bool true),(13,.bool true)]) (by kernel_rfl) (fun _ _=>by kernel_rfl) (fun _=>by kernel_rfl) (fun _=>by kernel_rfl) (fun p4=>?_) (fun p4 W4 T hF hK=>?_)
 ·refine ok_v (by kernel_rfl) ?_
  refine ok_L (by kernel_rfl) (by kernel_rfl) (by kernel_rfl) ?_
  refine ok_vb (bne_iff_ne.2 (show x≠0 by omega)) (by kernel_rfl) ?_
  exact ok_nil
 replace hS:=SymF.fb hS hF [0] [⟨(p1 0).N,#[.bool g,.string s,.int .i64 x],23,true⟩] (by kernel_rfl) (by kernel_rfl)
 replace hG:=hF.gx
 clear hF
 have z4:=hS.fr.size
 refine wp_cond_true (hK.ev 13 (by kernel_rfl) _ (by kernel_rfl)) ?_
 refine wp_symQ hS hG hK (fun p5=>[.v 2 (.int .i64 100)]) (fun p5=>[(1,.pointer (some ⟨(p1 0).N,0,none⟩)),(2,.int .i64 100),(8,.bool false),(10,.bool true),(13,.bool true)]) (by kernel_rfl) (fun _ _=>by kernel_rfl) (fun _=>by kernel_rfl) (fun _=>by kernel_rfl) (fun p5=>?_) (fun p5 W5 T hF hK=>?_)
 ·refine ok_v (by kernel_rfl) ?_
  exact ok_nil
 replace hS:=SymF.fb hS hF [0] [⟨(p1 0).N,#[.bool g,.string s,.int .i64 x],23,true⟩] (by kernel_rfl) (by kernel_rfl)
 replace hG:=hF.gx
 clear hF
 have z5:=hS.fr.size
 refine wp_ret ?_
 refine then_r ?_
 refine then_r ?_
 exact sym_end hS hK (.int .i64 100) [] [] (by kernel_rfl) (by kernel_rfl) ⟨rfl,hS.fr⟩
theorem dck_b1 (w:World) (g:Bool) (s:ByteArray) (x:Int) (f t:Nat) (hm:s.size≤65536) (hz:s.size≠0) (HE:Hid (∀ W:World,Calls Tryz.prog 18 #[.string s] W fun e W'=>e = .returned (.tuple #[.int .i64 (f:Int),.int .i64 (t:Int)])∧Below W.heap.size W W')) (hf:0 < f) :
  Calls Tryz.prog 6 #[.agg #[.bool g,.string s,.int .i64 x]] w fun en w'=>en = .returned (.int .i64 100)∧Below w.heap.size w w':=by
 refine calls_sym Tryz.func6 rfl (by kernel_rfl) fun T hK=>?_
 replace hK:Kn T _ [(0,.agg #[.bool g,.string s,.int .i64 x])]:=hK
 have hS:=Fb.begin w
 have hG:GsAt [] w:=trivial
 refine wp_symQ hS hG hK (fun p1=>[.n 1 #[.bool g,.string s,.int .i64 x] 23,.v 2 (.int .i64 0)]) (fun p1=>[(1,.pointer (some ⟨(p1 0).N,0,none⟩)),(2,.int .i64 0)]) (by kernel_rfl) (fun _ _=>by kernel_rfl) (fun _=>by kernel_rfl) (fun _=>by kernel_rfl) (fun p1=>?_) (fun p1 W1 T hF hK=>?_)
 ·refine ok_n (fun _=>by kernel_rfl) ?_
  refine ok_v (by kernel_rfl) ?_
  exact ok_nil
 replace hS:=SymF.fb hS hF [1000] [⟨(p1 0).N,#[.bool g,.string s,.int .i64 x],23,true⟩] (by kernel_rfl) (by kernel_rfl)
 replace hG:=hF.gx
 clear hF
 have z1:=hS.fr.size
 refine wp_seq ?_
 refine wp_symQ hS hG hK (fun p2=>[.v 5 (.pointer (some ⟨(p1 0).N,1,none⟩)),.l 6 (.string s) 0 1,.v 7 (.int .i64 (s.size:Int)),.v 8 (.bool false)]) (fun p2=>[(1,.pointer (some ⟨(p1 0).N,0,none⟩)),(2,.int .i64 0),(8,.bool false)]) (by kernel_rfl) (fun _ _=>by kernel_rfl) (fun _=>by kernel_rfl) (fun _=>by kernel_rfl) (fun p2=>?_) (fun p2 W2 T hF hK=>?_)
 ·refine ok_v (by kernel_rfl) ?_
  refine ok_L (by kernel_rfl) (by kernel_rfl) (by kernel_rfl) ?_
  refine ok_v (by kernel_rfl) ?_
  refine ok_vb (decide_eq_false (show ¬ (s.size:Int) > 65536 by omega)) (by kernel_rfl) ?_
  exact ok_nil
 replace hS:=SymF.fb hS hF [0] [⟨(p1 0).N,#[.bool g,.string s,.int .i64 x],23,true⟩] (by kernel_rfl) (by kernel_rfl)
 replace hG:=hF.gx
 clear hF
 have z2:=hS.fr.size
 refine wp_cond_false (hK.ev 8 (by kernel_rfl) _ (by kernel_rfl)) ?_
 refine wp_skip ?_
 refine then_n ?_
 refine wp_seq ?_
 refine wp_symQ hS hG hK (fun p3=>[.l 9 (.agg #[.bool g,.string s,.int .i64 x]) 0 0,.c (some 10) (cV (.bool false))]) (fun p3=>[(1,.pointer (some ⟨(p1 0).N,0,none⟩)),(2,.int .i64 0),(8,.bool false),(10,.bool false)]) (by kernel_rfl) (fun _ _=>by kernel_rfl) (fun _=>by kernel_rfl) (fun _=>by kernel_rfl) (fun p3=>?_) (fun p3 W3 T hF hK=>?_)
 ·refine ok_L (by kernel_rfl) (by kernel_rfl) (by kernel_rfl) ?_
  refine ok_c (fun W cx=>as_v (isN_f _ g s x hz)) (by kernel_rfl) ?_
  exact ok_nil
 replace hS:=SymF.fb hS hF [0] [⟨(p1 0).N,#[.bool g,.string s,.int .i64 x],23,true⟩] (by kernel_rfl) (by kernel_rfl)
 replace hG:=hF.gx
 clear hF
 have z3:=hS.fr.size
 refine wp_cond_false (hK.ev 10 (by kernel_rfl) _ (by kernel_rfl)) ?_
 refine wp_skip ?_
 refine then_n ?_
 refine wp_symQ hS hG hK (fun p4=>[.v 15 (.pointer (some ⟨(p1 0).N,1,none⟩)),.l 16 (.string s) 0 1,.c (some 17) (cV (.tuple #[.int .i64 (f:Int),.int .i64 (t:Int)])),.v 14 (.tuple #[.int .i64 (f:Int),.int .i64 (t:Int)]),.v 18 (.int .i64 (f:Int)),.v 19 (.int .i64 (t:Int)),.v 3 (.int .i64 (f:Int)),.v 4 (.int .i64 (t:Int))]) (fun p4=>[(1,.pointer (some ⟨(p1 0).N,0,none⟩)),(2,.int .i64 0),(3,.int .i64 (f:Int)),(4,.int .i64 (t:Int)),(8,.bool false),(10,.bool false)]) (by kernel_rfl) (fun _ _=>by kernel_rfl) (fun _=>by kernel_rfl) (fun _=>by kernel_rfl) (fun p4=>?_) (fun p4 W4 T hF hK=>?_)
 ·refine ok_v (by kernel_rfl) ?_
  refine ok_L (by kernel_rfl) (by kernel_rfl) (by kernel_rfl) ?_
  refine ok_c (fun W cx=>as_v (unhide HE _)) (by kernel_rfl) ?_
  iterate 5 refine ok_v (by kernel_rfl) ?_
  exact ok_nil
 replace hS:=SymF.fb hS hF [0] [⟨(p1 0).N,#[.bool g,.string s,.int .i64 x],23,true⟩] (by kernel_rfl) (by kernel_rfl)
 replace hG:=hF.gx
 clear hF
 have z4:=hS.fr.size
 refine wp_seq ?_
 refine wp_symQ hS hG hK (fun p5=>[.v 20 (.int .i64 (f:Int)),.v 21 (.bool true),.v 22 (.bool true),.k (some 23),.k (some 24),.k (some 25),.k (some 26),.k (some 27),.v 28 (.bool true),.v 29 (.bool true),.k (some 30),.k (some 31),.k (some 32),.k (some 33),.v 34 (.bool true),.v 35 (.bool true),.k (some 36),.k (some 37),.k (some 38),.v 39 (.bool true)]) (fun p5=>[(1,.pointer (some ⟨(p1 0).N,0,none⟩)),(2,.int .i64 0),(8,.bool false),(10,.bool false),(39,.bool true)]) (by kernel_rfl) (fun _ _=>by kernel_rfl) (fun _=>by kernel_rfl) (fun _=>by kernel_rfl) (fun p5=>?_) (fun p5 W5 T hF hK=>?_)
 ·refine ok_v (by kernel_rfl) ?_
  refine ok_vb (decide_eq_true (show (f:Int) > 0 by omega)) (by kernel_rfl) ?_
  refine ok_v (by kernel_rfl) ?_
  iterate 5 refine ok_K (by kernel_rfl) ?_
  iterate 2 refine ok_v (by kernel_rfl) ?_
  iterate 4 refine ok_K (by kernel_rfl) ?_
  iterate 2 refine ok_v (by kernel_rfl) ?_
  iterate 3 refine ok_K (by kernel_rfl) ?_
  refine ok_v (by kernel_rfl) ?_
  exact ok_nil
 replace hS:=SymF.fb hS hF [0] [⟨(p1 0).N,#[.bool g,.string s,.int .i64 x],23,true⟩] (by kernel_rfl) (by kernel_rfl)
 replace hG:=hF.gx
 clear hF
 have z5:=hS.fr.size
 refine wp_cond_true (hK.ev 39 (by kernel_rfl) _ (by kernel_rfl)) ?_
 refine wp_symQ hS hG hK (fun p6=>[.v 2 (.int .i64 100)]) (fun p6=>[(1,.pointer (some ⟨(p1 0).N,0,none⟩)),(2,.int .i64 100),(8,.bool false),(10,.bool false),(39,.bool true)]) (by kernel_rfl) (fun _ _=>by kernel_rfl) (fun _=>by kernel_rfl) (fun _=>by kernel_rfl) (fun p6=>?_) (fun p6 W6 T hF hK=>?_)
 ·refine ok_v (by kernel_rfl) ?_
  exact ok_nil
 replace hS:=SymF.fb hS hF [0] [⟨(p1 0).N,#[.bool g,.string s,.int .i64 x],23,true⟩] (by kernel_rfl) (by kernel_rfl)
 replace hG:=hF.gx
 clear hF
 have z6:=hS.fr.size
 refine wp_ret ?_
 refine then_r ?_
 exact sym_end hS hK (.int .i64 100) [] [] (by kernel_rfl) (by kernel_rfl) ⟨rfl,hS.fr⟩
theorem dck_b2 (w:World) (g:Bool) (s:ByteArray) (x:Int) (f t:Nat) (hm:s.size≤65536) (hz:s.size≠0) (HE:Hid (∀ W:World,Calls Tryz.prog 18 #[.string s] W fun e W'=>e = .returned (.tuple #[.int .i64 (f:Int),.int .i64 (t:Int)])∧Below W.heap.size W W')) (hf:f = 0) (ht:t < s.size) :
  Calls Tryz.prog 6 #[.agg #[.bool g,.string s,.int .i64 x]] w fun en w'=>en = .returned (.int .i64 100)∧Below w.heap.size w w':=by
 refine calls_sym Tryz.func6 rfl (by kernel_rfl) fun T hK=>?_
 replace hK:Kn T _ [(0,.agg #[.bool g,.string s,.int .i64 x])]:=hK
 have hS:=Fb.begin w
 have hG:GsAt [] w:=trivial
 refine wp_symQ hS hG hK (fun p1=>[.n 1 #[.bool g,.string s,.int .i64 x] 23,.v 2 (.int .i64 0)]) (fun p1=>[(1,.pointer (some ⟨(p1 0).N,0,none⟩)),(2,.int .i64 0)]) (by kernel_rfl) (fun _ _=>by kernel_rfl) (fun _=>by kernel_rfl) (fun _=>by kernel_rfl) (fun p1=>?_) (fun p1 W1 T hF hK=>?_)
 ·refine ok_n (fun _=>by kernel_rfl) ?_
  refine ok_v (by kernel_rfl) ?_
  exact ok_nil
 replace hS:=SymF.fb hS hF [1000] [⟨(p1 0).N,#[.bool g,.string s,.int .i64 x],23,true⟩] (by kernel_rfl) (by kernel_rfl)
 replace hG:=hF.gx
 clear hF
 have z1:=hS.fr.size
 refine wp_seq ?_
 refine wp_symQ hS hG hK (fun p2=>[.v 5 (.pointer (some ⟨(p1 0).N,1,none⟩)),.l 6 (.string s) 0 1,.v 7 (.int .i64 (s.size:Int)),.v 8 (.bool false)]) (fun p2=>[(1,.pointer (some ⟨(p1 0).N,0,none⟩)),(2,.int .i64 0),(8,.bool false)]) (by kernel_rfl) (fun _ _=>by kernel_rfl) (fun _=>by kernel_rfl) (fun _=>by kernel_rfl) (fun p2=>?_) (fun p2 W2 T hF hK=>?_)
 ·refine ok_v (by kernel_rfl) ?_
  refine ok_L (by kernel_rfl) (by kernel_rfl) (by kernel_rfl) ?_
  refine ok_v (by kernel_rfl) ?_
  refine ok_vb (decide_eq_false (show ¬ (s.size:Int) > 65536 by omega)) (by kernel_rfl) ?_
  exact ok_nil
 replace hS:=SymF.fb hS hF [0] [⟨(p1 0).N,#[.bool g,.string s,.int .i64 x],23,true⟩] (by kernel_rfl) (by kernel_rfl)
 replace hG:=hF.gx
 clear hF
 have z2:=hS.fr.size
 refine wp_cond_false (hK.ev 8 (by kernel_rfl) _ (by kernel_rfl)) ?_
 refine wp_skip ?_
 refine then_n ?_
 refine wp_seq ?_
 refine wp_symQ hS hG hK (fun p3=>[.l 9 (.agg #[.bool g,.string s,.int .i64 x]) 0 0,.c (some 10) (cV (.bool false))]) (fun p3=>[(1,.pointer (some ⟨(p1 0).N,0,none⟩)),(2,.int .i64 0),(8,.bool false),(10,.bool false)]) (by kernel_rfl) (fun _ _=>by kernel_rfl) (fun _=>by kernel_rfl) (fun _=>by kernel_rfl) (fun p3=>?_) (fun p3 W3 T hF hK=>?_)
 ·refine ok_L (by kernel_rfl) (by kernel_rfl) (by kernel_rfl) ?_
  refine ok_c (fun W cx=>as_v (isN_f _ g s x hz)) (by kernel_rfl) ?_
  exact ok_nil
 replace hS:=SymF.fb hS hF [0] [⟨(p1 0).N,#[.bool g,.string s,.int .i64 x],23,true⟩] (by kernel_rfl) (by kernel_rfl)
 replace hG:=hF.gx
 clear hF
 have z3:=hS.fr.size
 refine wp_cond_false (hK.ev 10 (by kernel_rfl) _ (by kernel_rfl)) ?_
 refine wp_skip ?_
 refine then_n ?_
 refine wp_symQ hS hG hK (fun p4=>[.v 15 (.pointer (some ⟨(p1 0).N,1,none⟩)),.l 16 (.string s) 0 1,.c (some 17) (cV (.tuple #[.int .i64 (f:Int),.int .i64 (t:Int)])),.v 14 (.tuple #[.int .i64 (f:Int),.int .i64 (t:Int)]),.v 18 (.int .i64 (f:Int)),.v 19 (.int .i64 (t:Int)),.v 3 (.int .i64 (f:Int)),.v 4 (.int .i64 (t:Int))]) (fun p4=>[(1,.pointer (some ⟨(p1 0).N,0,none⟩)),(2,.int .i64 0),(3,.int .i64 (f:Int)),(4,.int .i64 (t:Int)),(8,.bool false),(10,.bool false)]) (by kernel_rfl) (fun _ _=>by kernel_rfl) (fun _=>by kernel_rfl) (fun _=>by kernel_rfl) (fun p4=>?_) (fun p4 W4 T hF hK=>?_)
 ·refine ok_v (by kernel_rfl) ?_
  refine ok_L (by kernel_rfl) (by kernel_rfl) (by kernel_rfl) ?_
  refine ok_c (fun W cx=>as_v (unhide HE _)) (by kernel_rfl) ?_
  iterate 5 refine ok_v (by kernel_rfl) ?_
  exact ok_nil
 replace hS:=SymF.fb hS hF [0] [⟨(p1 0).N,#[.bool g,.string s,.int .i64 x],23,true⟩] (by kernel_rfl) (by kernel_rfl)
 replace hG:=hF.gx
 clear hF
 have z4:=hS.fr.size
 refine wp_seq ?_
 refine wp_symQ hS hG hK (fun p5=>[.v 20 (.int .i64 (f:Int)),.v 21 (.bool false),.v 22 (.bool false),.v 23 (.int .i64 (t:Int)),.v 24 (.pointer (some ⟨(p1 0).N,1,none⟩)),.l 25 (.string s) 0 1,.v 26 (.int .i64 (s.size:Int)),.v 27 (.bool true),.v 28 (.bool true),.v 29 (.bool true),.k (some 30),.k (some 31),.k (some 32),.k (some 33),.v 34 (.bool true),.v 35 (.bool true),.k (some 36),.k (some 37),.k (some 38),.v 39 (.bool true)]) (fun p5=>[(1,.pointer (some ⟨(p1 0).N,0,none⟩)),(2,.int .i64 0),(8,.bool false),(10,.bool false),(39,.bool true)]) (by kernel_rfl) (fun _ _=>by kernel_rfl) (fun _=>by kernel_rfl) (fun _=>by kernel_rfl) (fun p5=>?_) (fun p5 W5 T hF hK=>?_)
 ·refine ok_v (by kernel_rfl) ?_
  refine ok_vb (decide_eq_false (show ¬ (f:Int) > 0 by omega)) (by kernel_rfl) ?_
  iterate 3 refine ok_v (by kernel_rfl) ?_
  refine ok_L (by kernel_rfl) (by kernel_rfl) (by kernel_rfl) ?_
  refine ok_v (by kernel_rfl) ?_
  refine ok_vb (decide_eq_true (show (t:Int) < (s.size:Int) by omega)) (by kernel_rfl) ?_
  iterate 2 refine ok_v (by kernel_rfl) ?_
  iterate 4 refine ok_K (by kernel_rfl) ?_
  iterate 2 refine ok_v (by kernel_rfl) ?_
  iterate 3 refine ok_K (by kernel_rfl) ?_
  refine ok_v (by kernel_rfl) ?_
  exact ok_nil
 replace hS:=SymF.fb hS hF [0] [⟨(p1 0).N,#[.bool g,.string s,.int .i64 x],23,true⟩] (by kernel_rfl) (by kernel_rfl)
 replace hG:=hF.gx
 clear hF
 have z5:=hS.fr.size
 refine wp_cond_true (hK.ev 39 (by kernel_rfl) _ (by kernel_rfl)) ?_
 refine wp_symQ hS hG hK (fun p6=>[.v 2 (.int .i64 100)]) (fun p6=>[(1,.pointer (some ⟨(p1 0).N,0,none⟩)),(2,.int .i64 100),(8,.bool false),(10,.bool false),(39,.bool true)]) (by kernel_rfl) (fun _ _=>by kernel_rfl) (fun _=>by kernel_rfl) (fun _=>by kernel_rfl) (fun p6=>?_) (fun p6 W6 T hF hK=>?_)
 ·refine ok_v (by kernel_rfl) ?_
  exact ok_nil
 replace hS:=SymF.fb hS hF [0] [⟨(p1 0).N,#[.bool g,.string s,.int .i64 x],23,true⟩] (by kernel_rfl) (by kernel_rfl)
 replace hG:=hF.gx
 clear hF
 have z6:=hS.fr.size
 refine wp_ret ?_
 refine then_r ?_
 exact sym_end hS hK (.int .i64 100) [] [] (by kernel_rfl) (by kernel_rfl) ⟨rfl,hS.fr⟩
theorem dck_b3 (w:World) (g:Bool) (s:ByteArray) (x:Int) (f t:Nat) (hm:s.size≤65536) (hz:s.size≠0) (HE:Hid (∀ W:World,Calls Tryz.prog 18 #[.string s] W fun e W'=>e = .returned (.tuple #[.int .i64 (f:Int),.int .i64 (t:Int)])∧Below W.heap.size W W')) (hf:f = 0) (ht:s.size≤t) (HA:Hid (∀ W:World,Calls Tryz.prog 19 #[.string s] W fun e W'=>e = .returned (.bool false)∧Below W.heap.size W W')) :
  Calls Tryz.prog 6 #[.agg #[.bool g,.string s,.int .i64 x]] w fun en w'=>en = .returned (.int .i64 100)∧Below w.heap.size w w':=by
 refine calls_sym Tryz.func6 rfl (by kernel_rfl) fun T hK=>?_
 replace hK:Kn T _ [(0,.agg #[.bool g,.string s,.int .i64 x])]:=hK
 have hS:=Fb.begin w
 have hG:GsAt [] w:=trivial
 refine wp_symQ hS hG hK (fun p1=>[.n 1 #[.bool g,.string s,.int .i64 x] 23,.v 2 (.int .i64 0)]) (fun p1=>[(1,.pointer (some ⟨(p1 0).N,0,none⟩)),(2,.int .i64 0)]) (by kernel_rfl) (fun _ _=>by kernel_rfl) (fun _=>by kernel_rfl) (fun _=>by kernel_rfl) (fun p1=>?_) (fun p1 W1 T hF hK=>?_)
 ·refine ok_n (fun _=>by kernel_rfl) ?_
  refine ok_v (by kernel_rfl) ?_
  exact ok_nil
 replace hS:=SymF.fb hS hF [1000] [⟨(p1 0).N,#[.bool g,.string s,.int .i64 x],23,true⟩] (by kernel_rfl) (by kernel_rfl)
 replace hG:=hF.gx
 clear hF
 have z1:=hS.fr.size
 refine wp_seq ?_
 refine wp_symQ hS hG hK (fun p2=>[.v 5 (.pointer (some ⟨(p1 0).N,1,none⟩)),.l 6 (.string s) 0 1,.v 7 (.int .i64 (s.size:Int)),.v 8 (.bool false)]) (fun p2=>[(1,.pointer (some ⟨(p1 0).N,0,none⟩)),(2,.int .i64 0),(8,.bool false)]) (by kernel_rfl) (fun _ _=>by kernel_rfl) (fun _=>by kernel_rfl) (fun _=>by kernel_rfl) (fun p2=>?_) (fun p2 W2 T hF hK=>?_)
 ·refine ok_v (by kernel_rfl) ?_
  refine ok_L (by kernel_rfl) (by kernel_rfl) (by kernel_rfl) ?_
  refine ok_v (by kernel_rfl) ?_
  refine ok_vb (decide_eq_false (show ¬ (s.size:Int) > 65536 by omega)) (by kernel_rfl) ?_
  exact ok_nil
 replace hS:=SymF.fb hS hF [0] [⟨(p1 0).N,#[.bool g,.string s,.int .i64 x],23,true⟩] (by kernel_rfl) (by kernel_rfl)
 replace hG:=hF.gx
 clear hF
 have z2:=hS.fr.size
 refine wp_cond_false (hK.ev 8 (by kernel_rfl) _ (by kernel_rfl)) ?_
 refine wp_skip ?_
 refine then_n ?_
 refine wp_seq ?_
 refine wp_symQ hS hG hK (fun p3=>[.l 9 (.agg #[.bool g,.string s,.int .i64 x]) 0 0,.c (some 10) (cV (.bool false))]) (fun p3=>[(1,.pointer (some ⟨(p1 0).N,0,none⟩)),(2,.int .i64 0),(8,.bool false),(10,.bool false)]) (by kernel_rfl) (fun _ _=>by kernel_rfl) (fun _=>by kernel_rfl) (fun _=>by kernel_rfl) (fun p3=>?_) (fun p3 W3 T hF hK=>?_)
 ·refine ok_L (by kernel_rfl) (by kernel_rfl) (by kernel_rfl) ?_
  refine ok_c (fun W cx=>as_v (isN_f _ g s x hz)) (by kernel_rfl) ?_
  exact ok_nil
 replace hS:=SymF.fb hS hF [0] [⟨(p1 0).N,#[.bool g,.string s,.int .i64 x],23,true⟩] (by kernel_rfl) (by kernel_rfl)
 replace hG:=hF.gx
 clear hF
 have z3:=hS.fr.size
 refine wp_cond_false (hK.ev 10 (by kernel_rfl) _ (by kernel_rfl)) ?_
 refine wp_skip ?_
 refine then_n ?_
 refine wp_symQ hS hG hK (fun p4=>[.v 15 (.pointer (some ⟨(p1 0).N,1,none⟩)),.l 16 (.string s) 0 1,.c (some 17) (cV (.tuple #[.int .i64 (f:Int),.int .i64 (t:Int)])),.v 14 (.tuple #[.int .i64 (f:Int),.int .i64 (t:Int)]),.v 18 (.int .i64 (f:Int)),.v 19 (.int .i64 (t:Int)),.v 3 (.int .i64 (f:Int)),.v 4 (.int .i64 (t:Int))]) (fun p4=>[(1,.pointer (some ⟨(p1 0).N,0,none⟩)),(2,.int .i64 0),(3,.int .i64 (f:Int)),(4,.int .i64 (t:Int)),(8,.bool false),(10,.bool false)]) (by kernel_rfl) (fun _ _=>by kernel_rfl) (fun _=>by kernel_rfl) (fun _=>by kernel_rfl) (fun p4=>?_) (fun p4 W4 T hF hK=>?_)
 ·refine ok_v (by kernel_rfl) ?_
  refine ok_L (by kernel_rfl) (by kernel_rfl) (by kernel_rfl) ?_
  refine ok_c (fun W cx=>as_v (unhide HE _)) (by kernel_rfl) ?_
  iterate 5 refine ok_v (by kernel_rfl) ?_
  exact ok_nil
 replace hS:=SymF.fb hS hF [0] [⟨(p1 0).N,#[.bool g,.string s,.int .i64 x],23,true⟩] (by kernel_rfl) (by kernel_rfl)
 replace hG:=hF.gx
 clear hF
 have z4:=hS.fr.size
 refine wp_seq ?_
 refine wp_symQ hS hG hK (fun p5=>[.v 20 (.int .i64 (f:Int)),.v 21 (.bool false),.v 22 (.bool false),.v 23 (.int .i64 (t:Int)),.v 24 (.pointer (some ⟨(p1 0).N,1,none⟩)),.l 25 (.string s) 0 1,.v 26 (.int .i64 (s.size:Int)),.v 27 (.bool false),.v 28 (.bool false),.v 29 (.bool false),.v 30 (.pointer (some ⟨(p1 0).N,1,none⟩)),.l 31 (.string s) 0 1,.c (some 32) (cV (.bool false)),.v 33 (.bool true),.v 34 (.bool true),.v 35 (.bool true),.k (some 36),.k (some 37),.k (some 38),.v 39 (.bool true)]) (fun p5=>[(1,.pointer (some ⟨(p1 0).N,0,none⟩)),(2,.int .i64 0),(8,.bool false),(10,.bool false),(39,.bool true)]) (by kernel_rfl) (fun _ _=>by kernel_rfl) (fun _=>by kernel_rfl) (fun _=>by kernel_rfl) (fun p5=>?_) (fun p5 W5 T hF hK=>?_)
 ·refine ok_v (by kernel_rfl) ?_
  refine ok_vb (decide_eq_false (show ¬ (f:Int) > 0 by omega)) (by kernel_rfl) ?_
  iterate 3 refine ok_v (by kernel_rfl) ?_
  refine ok_L (by kernel_rfl) (by kernel_rfl) (by kernel_rfl) ?_
  refine ok_v (by kernel_rfl) ?_
  refine ok_vb (decide_eq_false (show ¬ (t:Int) < (s.size:Int) by omega)) (by kernel_rfl) ?_
  iterate 3 refine ok_v (by kernel_rfl) ?_
  refine ok_L (by kernel_rfl) (by kernel_rfl) (by kernel_rfl) ?_
  refine ok_c (fun W cx=>as_v (unhide HA _)) (by kernel_rfl) ?_
  iterate 3 refine ok_v (by kernel_rfl) ?_
  iterate 3 refine ok_K (by kernel_rfl) ?_
  refine ok_v (by kernel_rfl) ?_
  exact ok_nil
 replace hS:=SymF.fb hS hF [0] [⟨(p1 0).N,#[.bool g,.string s,.int .i64 x],23,true⟩] (by kernel_rfl) (by kernel_rfl)
 replace hG:=hF.gx
 clear hF
 have z5:=hS.fr.size
 refine wp_cond_true (hK.ev 39 (by kernel_rfl) _ (by kernel_rfl)) ?_
 refine wp_symQ hS hG hK (fun p6=>[.v 2 (.int .i64 100)]) (fun p6=>[(1,.pointer (some ⟨(p1 0).N,0,none⟩)),(2,.int .i64 100),(8,.bool false),(10,.bool false),(39,.bool true)]) (by kernel_rfl) (fun _ _=>by kernel_rfl) (fun _=>by kernel_rfl) (fun _=>by kernel_rfl) (fun p6=>?_) (fun p6 W6 T hF hK=>?_)
 ·refine ok_v (by kernel_rfl) ?_
  exact ok_nil
 replace hS:=SymF.fb hS hF [0] [⟨(p1 0).N,#[.bool g,.string s,.int .i64 x],23,true⟩] (by kernel_rfl) (by kernel_rfl)
 replace hG:=hF.gx
 clear hF
 have z6:=hS.fr.size
 refine wp_ret ?_
 refine then_r ?_
 exact sym_end hS hK (.int .i64 100) [] [] (by kernel_rfl) (by kernel_rfl) ⟨rfl,hS.fr⟩
theorem dck_b4 (w:World) (g:Bool) (s:ByteArray) (x:Int) (f t:Nat) (hm:s.size≤65536) (hz:s.size≠0) (HE:Hid (∀ W:World,Calls Tryz.prog 18 #[.string s] W fun e W'=>e = .returned (.tuple #[.int .i64 (f:Int),.int .i64 (t:Int)])∧Below W.heap.size W W')) (hf:f = 0) (ht:s.size≤t) (HA:Hid (∀ W:World,Calls Tryz.prog 19 #[.string s] W fun e W'=>e = .returned (.bool true)∧Below W.heap.size W W')) (HB:Hid (∀ W:World,Calls Tryz.prog 20 #[.int .i64 x] W fun e W'=>e = .returned (.bool true)∧Below W.heap.size W W')) :
  Calls Tryz.prog 6 #[.agg #[.bool g,.string s,.int .i64 x]] w fun en w'=>en = .returned (.int .i64 100)∧Below w.heap.size w w':=by
 refine calls_sym Tryz.func6 rfl (by kernel_rfl) fun T hK=>?_
 replace hK:Kn T _ [(0,.agg #[.bool g,.string s,.int .i64 x])]:=hK
 have hS:=Fb.begin w
 have hG:GsAt [] w:=trivial
 refine wp_symQ hS hG hK (fun p1=>[.n 1 #[.bool g,.string s,.int .i64 x] 23,.v 2 (.int .i64 0)]) (fun p1=>[(1,.pointer (some ⟨(p1 0).N,0,none⟩)),(2,.int .i64 0)]) (by kernel_rfl) (fun _ _=>by kernel_rfl) (fun _=>by kernel_rfl) (fun _=>by kernel_rfl) (fun p1=>?_) (fun p1 W1 T hF hK=>?_)
 ·refine ok_n (fun _=>by kernel_rfl) ?_
  refine ok_v (by kernel_rfl) ?_
  exact ok_nil
 replace hS:=SymF.fb hS hF [1000] [⟨(p1 0).N,#[.bool g,.string s,.int .i64 x],23,true⟩] (by kernel_rfl) (by kernel_rfl)
 replace hG:=hF.gx
 clear hF
 have z1:=hS.fr.size
 refine wp_seq ?_
 refine wp_symQ hS hG hK (fun p2=>[.v 5 (.pointer (some ⟨(p1 0).N,1,none⟩)),.l 6 (.string s) 0 1,.v 7 (.int .i64 (s.size:Int)),.v 8 (.bool false)]) (fun p2=>[(1,.pointer (some ⟨(p1 0).N,0,none⟩)),(2,.int .i64 0),(8,.bool false)]) (by kernel_rfl) (fun _ _=>by kernel_rfl) (fun _=>by kernel_rfl) (fun _=>by kernel_rfl) (fun p2=>?_) (fun p2 W2 T hF hK=>?_)
 ·refine ok_v (by kernel_rfl) ?_
  refine ok_L (by kernel_rfl) (by kernel_rfl) (by kernel_rfl) ?_
  refine ok_v (by kernel_rfl) ?_
  refine ok_vb (decide_eq_false (show ¬ (s.size:Int) > 65536 by omega)) (by kernel_rfl) ?_
  exact ok_nil
 replace hS:=SymF.fb hS hF [0] [⟨(p1 0).N,#[.bool g,.string s,.int .i64 x],23,true⟩] (by kernel_rfl) (by kernel_rfl)
 replace hG:=hF.gx
 clear hF
 have z2:=hS.fr.size
 refine wp_cond_false (hK.ev 8 (by kernel_rfl) _ (by kernel_rfl)) ?_
 refine wp_skip ?_
 refine then_n ?_
 refine wp_seq ?_
 refine wp_symQ hS hG hK (fun p3=>[.l 9 (.agg #[.bool g,.string s,.int .i64 x]) 0 0,.c (some 10) (cV (.bool false))]) (fun p3=>[(1,.pointer (some ⟨(p1 0).N,0,none⟩)),(2,.int .i64 0),(8,.bool false),(10,.bool false)]) (by kernel_rfl) (fun _ _=>by kernel_rfl) (fun _=>by kernel_rfl) (fun _=>by kernel_rfl) (fun p3=>?_) (fun p3 W3 T hF hK=>?_)
 ·refine ok_L (by kernel_rfl) (by kernel_rfl) (by kernel_rfl) ?_
  refine ok_c (fun W cx=>as_v (isN_f _ g s x hz)) (by kernel_rfl) ?_
  exact ok_nil
 replace hS:=SymF.fb hS hF [0] [⟨(p1 0).N,#[.bool g,.string s,.int .i64 x],23,true⟩] (by kernel_rfl) (by kernel_rfl)
 replace hG:=hF.gx
 clear hF
 have z3:=hS.fr.size
 refine wp_cond_false (hK.ev 10 (by kernel_rfl) _ (by kernel_rfl)) ?_
 refine wp_skip ?_
 refine then_n ?_
 refine wp_symQ hS hG hK (fun p4=>[.v 15 (.pointer (some ⟨(p1 0).N,1,none⟩)),.l 16 (.string s) 0 1,.c (some 17) (cV (.tuple #[.int .i64 (f:Int),.int .i64 (t:Int)])),.v 14 (.tuple #[.int .i64 (f:Int),.int .i64 (t:Int)]),.v 18 (.int .i64 (f:Int)),.v 19 (.int .i64 (t:Int)),.v 3 (.int .i64 (f:Int)),.v 4 (.int .i64 (t:Int))]) (fun p4=>[(1,.pointer (some ⟨(p1 0).N,0,none⟩)),(2,.int .i64 0),(3,.int .i64 (f:Int)),(4,.int .i64 (t:Int)),(8,.bool false),(10,.bool false)]) (by kernel_rfl) (fun _ _=>by kernel_rfl) (fun _=>by kernel_rfl) (fun _=>by kernel_rfl) (fun p4=>?_) (fun p4 W4 T hF hK=>?_)
 ·refine ok_v (by kernel_rfl) ?_
  refine ok_L (by kernel_rfl) (by kernel_rfl) (by kernel_rfl) ?_
  refine ok_c (fun W cx=>as_v (unhide HE _)) (by kernel_rfl) ?_
  iterate 5 refine ok_v (by kernel_rfl) ?_
  exact ok_nil
 replace hS:=SymF.fb hS hF [0] [⟨(p1 0).N,#[.bool g,.string s,.int .i64 x],23,true⟩] (by kernel_rfl) (by kernel_rfl)
 replace hG:=hF.gx
 clear hF
 have z4:=hS.fr.size
 refine wp_seq ?_
 refine wp_symQ hS hG hK (fun p5=>[.v 20 (.int .i64 (f:Int)),.v 21 (.bool false),.v 22 (.bool false),.v 23 (.int .i64 (t:Int)),.v 24 (.pointer (some ⟨(p1 0).N,1,none⟩)),.l 25 (.string s) 0 1,.v 26 (.int .i64 (s.size:Int)),.v 27 (.bool false),.v 28 (.bool false),.v 29 (.bool false),.v 30 (.pointer (some ⟨(p1 0).N,1,none⟩)),.l 31 (.string s) 0 1,.c (some 32) (cV (.bool true)),.v 33 (.bool false),.v 34 (.bool false),.v 35 (.bool false),.v 36 (.pointer (some ⟨(p1 0).N,2,none⟩)),.l 37 (.int .i64 x) 0 2,.c (some 38) (cV (.bool true)),.v 39 (.bool true)]) (fun p5=>[(1,.pointer (some ⟨(p1 0).N,0,none⟩)),(2,.int .i64 0),(8,.bool false),(10,.bool false),(39,.bool true)]) (by kernel_rfl) (fun _ _=>by kernel_rfl) (fun _=>by kernel_rfl) (fun _=>by kernel_rfl) (fun p5=>?_) (fun p5 W5 T hF hK=>?_)
 ·refine ok_v (by kernel_rfl) ?_
  refine ok_vb (decide_eq_false (show ¬ (f:Int) > 0 by omega)) (by kernel_rfl) ?_
  iterate 3 refine ok_v (by kernel_rfl) ?_
  refine ok_L (by kernel_rfl) (by kernel_rfl) (by kernel_rfl) ?_
  refine ok_v (by kernel_rfl) ?_
  refine ok_vb (decide_eq_false (show ¬ (t:Int) < (s.size:Int) by omega)) (by kernel_rfl) ?_
  iterate 3 refine ok_v (by kernel_rfl) ?_
  refine ok_L (by kernel_rfl) (by kernel_rfl) (by kernel_rfl) ?_
  refine ok_c (fun W cx=>as_v (unhide HA _)) (by kernel_rfl) ?_
  iterate 4 refine ok_v (by kernel_rfl) ?_
  refine ok_L (by kernel_rfl) (by kernel_rfl) (by kernel_rfl) ?_
  refine ok_c (fun W cx=>as_v (unhide HB _)) (by kernel_rfl) ?_
  refine ok_v (by kernel_rfl) ?_
  exact ok_nil
 replace hS:=SymF.fb hS hF [0] [⟨(p1 0).N,#[.bool g,.string s,.int .i64 x],23,true⟩] (by kernel_rfl) (by kernel_rfl)
 replace hG:=hF.gx
 clear hF
 have z5:=hS.fr.size
 refine wp_cond_true (hK.ev 39 (by kernel_rfl) _ (by kernel_rfl)) ?_
 refine wp_symQ hS hG hK (fun p6=>[.v 2 (.int .i64 100)]) (fun p6=>[(1,.pointer (some ⟨(p1 0).N,0,none⟩)),(2,.int .i64 100),(8,.bool false),(10,.bool false),(39,.bool true)]) (by kernel_rfl) (fun _ _=>by kernel_rfl) (fun _=>by kernel_rfl) (fun _=>by kernel_rfl) (fun p6=>?_) (fun p6 W6 T hF hK=>?_)
 ·refine ok_v (by kernel_rfl) ?_
  exact ok_nil
 replace hS:=SymF.fb hS hF [0] [⟨(p1 0).N,#[.bool g,.string s,.int .i64 x],23,true⟩] (by kernel_rfl) (by kernel_rfl)
 replace hG:=hF.gx
 clear hF
 have z6:=hS.fr.size
 refine wp_ret ?_
 refine then_r ?_
 exact sym_end hS hK (.int .i64 100) [] [] (by kernel_rfl) (by kernel_rfl) ⟨rfl,hS.fr⟩
theorem dck_ok (w:World) (g:Bool) (s:ByteArray) (x:Int) (f t:Nat) (hm:s.size≤65536) (hz:s.size≠0) (HE:Hid (∀ W:World,Calls Tryz.prog 18 #[.string s] W fun e W'=>e = .returned (.tuple #[.int .i64 (f:Int),.int .i64 (t:Int)])∧Below W.heap.size W W')) (hf:f = 0) (ht:s.size≤t) (HA:Hid (∀ W:World,Calls Tryz.prog 19 #[.string s] W fun e W'=>e = .returned (.bool true)∧Below W.heap.size W W')) (HB:Hid (∀ W:World,Calls Tryz.prog 20 #[.int .i64 x] W fun e W'=>e = .returned (.bool false)∧Below W.heap.size W W')) :
  Calls Tryz.prog 6 #[.agg #[.bool g,.string s,.int .i64 x]] w fun en w'=>en = .returned (.int .i64 0)∧Below w.heap.size w w':=by
 refine calls_sym Tryz.func6 rfl (by kernel_rfl) fun T hK=>?_
 replace hK:Kn T _ [(0,.agg #[.bool g,.string s,.int .i64 x])]:=hK
 have hS:=Fb.begin w
 have hG:GsAt [] w:=trivial
 refine wp_symQ hS hG hK (fun p1=>[.n 1 #[.bool g,.string s,.int .i64 x] 23,.v 2 (.int .i64 0)]) (fun p1=>[(1,.pointer (some ⟨(p1 0).N,0,none⟩)),(2,.int .i64 0)]) (by kernel_rfl) (fun _ _=>by kernel_rfl) (fun _=>by kernel_rfl) (fun _=>by kernel_rfl) (fun p1=>?_) (fun p1 W1 T hF hK=>?_)
 ·refine ok_n (fun _=>by kernel_rfl) ?_
  refine ok_v (by kernel_rfl) ?_
  exact ok_nil
 replace hS:=SymF.fb hS hF [1000] [⟨(p1 0).N,#[.bool g,.string s,.int .i64 x],23,true⟩] (by kernel_rfl) (by kernel_rfl)
 replace hG:=hF.gx
 clear hF
 have z1:=hS.fr.size
 refine wp_seq ?_
 refine wp_symQ hS hG hK (fun p2=>[.v 5 (.pointer (some ⟨(p1 0).N,1,none⟩)),.l 6 (.string s) 0 1,.v 7 (.int .i64 (s.size:Int)),.v 8 (.bool false)]) (fun p2=>[(1,.pointer (some ⟨(p1 0).N,0,none⟩)),(2,.int .i64 0),(8,.bool false)]) (by kernel_rfl) (fun _ _=>by kernel_rfl) (fun _=>by kernel_rfl) (fun _=>by kernel_rfl) (fun p2=>?_) (fun p2 W2 T hF hK=>?_)
 ·refine ok_v (by kernel_rfl) ?_
  refine ok_L (by kernel_rfl) (by kernel_rfl) (by kernel_rfl) ?_
  refine ok_v (by kernel_rfl) ?_
  refine ok_vb (decide_eq_false (show ¬ (s.size:Int) > 65536 by omega)) (by kernel_rfl) ?_
  exact ok_nil
 replace hS:=SymF.fb hS hF [0] [⟨(p1 0).N,#[.bool g,.string s,.int .i64 x],23,true⟩] (by kernel_rfl) (by kernel_rfl)
 replace hG:=hF.gx
 clear hF
 have z2:=hS.fr.size
 refine wp_cond_false (hK.ev 8 (by kernel_rfl) _ (by kernel_rfl)) ?_
 refine wp_skip ?_
 refine then_n ?_
 refine wp_seq ?_
 refine wp_symQ hS hG hK (fun p3=>[.l 9 (.agg #[.bool g,.string s,.int .i64 x]) 0 0,.c (some 10) (cV (.bool false))]) (fun p3=>[(1,.pointer (some ⟨(p1 0).N,0,none⟩)),(2,.int .i64 0),(8,.bool false),(10,.bool false)]) (by kernel_rfl) (fun _ _=>by kernel_rfl) (fun _=>by kernel_rfl) (fun _=>by kernel_rfl) (fun p3=>?_) (fun p3 W3 T hF hK=>?_)
 ·refine ok_L (by kernel_rfl) (by kernel_rfl) (by kernel_rfl) ?_
  refine ok_c (fun W cx=>as_v (isN_f _ g s x hz)) (by kernel_rfl) ?_
  exact ok_nil
 replace hS:=SymF.fb hS hF [0] [⟨(p1 0).N,#[.bool g,.string s,.int .i64 x],23,true⟩] (by kernel_rfl) (by kernel_rfl)
 replace hG:=hF.gx
 clear hF
 have z3:=hS.fr.size
 refine wp_cond_false (hK.ev 10 (by kernel_rfl) _ (by kernel_rfl)) ?_
 refine wp_skip ?_
 refine then_n ?_
 refine wp_symQ hS hG hK (fun p4=>[.v 15 (.pointer (some ⟨(p1 0).N,1,none⟩)),.l 16 (.string s) 0 1,.c (some 17) (cV (.tuple #[.int .i64 (f:Int),.int .i64 (t:Int)])),.v 14 (.tuple #[.int .i64 (f:Int),.int .i64 (t:Int)]),.v 18 (.int .i64 (f:Int)),.v 19 (.int .i64 (t:Int)),.v 3 (.int .i64 (f:Int)),.v 4 (.int .i64 (t:Int))]) (fun p4=>[(1,.pointer (some ⟨(p1 0).N,0,none⟩)),(2,.int .i64 0),(3,.int .i64 (f:Int)),(4,.int .i64 (t:Int)),(8,.bool false),(10,.bool false)]) (by kernel_rfl) (fun _ _=>by kernel_rfl) (fun _=>by kernel_rfl) (fun _=>by kernel_rfl) (fun p4=>?_) (fun p4 W4 T hF hK=>?_)
 ·refine ok_v (by kernel_rfl) ?_
  refine ok_L (by kernel_rfl) (by kernel_rfl) (by kernel_rfl) ?_
  refine ok_c (fun W cx=>as_v (unhide HE _)) (by kernel_rfl) ?_
  iterate 5 refine ok_v (by kernel_rfl) ?_
  exact ok_nil
 replace hS:=SymF.fb hS hF [0] [⟨(p1 0).N,#[.bool g,.string s,.int .i64 x],23,true⟩] (by kernel_rfl) (by kernel_rfl)
 replace hG:=hF.gx
 clear hF
 have z4:=hS.fr.size
 refine wp_seq ?_
 refine wp_symQ hS hG hK (fun p5=>[.v 20 (.int .i64 (f:Int)),.v 21 (.bool false),.v 22 (.bool false),.v 23 (.int .i64 (t:Int)),.v 24 (.pointer (some ⟨(p1 0).N,1,none⟩)),.l 25 (.string s) 0 1,.v 26 (.int .i64 (s.size:Int)),.v 27 (.bool false),.v 28 (.bool false),.v 29 (.bool false),.v 30 (.pointer (some ⟨(p1 0).N,1,none⟩)),.l 31 (.string s) 0 1,.c (some 32) (cV (.bool true)),.v 33 (.bool false),.v 34 (.bool false),.v 35 (.bool false),.v 36 (.pointer (some ⟨(p1 0).N,2,none⟩)),.l 37 (.int .i64 x) 0 2,.c (some 38) (cV (.bool false)),.v 39 (.bool false)]) (fun p5=>[(1,.pointer (some ⟨(p1 0).N,0,none⟩)),(2,.int .i64 0),(8,.bool false),(10,.bool false),(39,.bool false)]) (by kernel_rfl) (fun _ _=>by kernel_rfl) (fun _=>by kernel_rfl) (fun _=>by kernel_rfl) (fun p5=>?_) (fun p5 W5 T hF hK=>?_)
 ·refine ok_v (by kernel_rfl) ?_
  refine ok_vb (decide_eq_false (show ¬ (f:Int) > 0 by omega)) (by kernel_rfl) ?_
  iterate 3 refine ok_v (by kernel_rfl) ?_
  refine ok_L (by kernel_rfl) (by kernel_rfl) (by kernel_rfl) ?_
  refine ok_v (by kernel_rfl) ?_
  refine ok_vb (decide_eq_false (show ¬ (t:Int) < (s.size:Int) by omega)) (by kernel_rfl) ?_
  iterate 3 refine ok_v (by kernel_rfl) ?_
  refine ok_L (by kernel_rfl) (by kernel_rfl) (by kernel_rfl) ?_
  refine ok_c (fun W cx=>as_v (unhide HA _)) (by kernel_rfl) ?_
  iterate 4 refine ok_v (by kernel_rfl) ?_
  refine ok_L (by kernel_rfl) (by kernel_rfl) (by kernel_rfl) ?_
  refine ok_c (fun W cx=>as_v (unhide HB _)) (by kernel_rfl) ?_
  refine ok_v (by kernel_rfl) ?_
  exact ok_nil
 replace hS:=SymF.fb hS hF [0] [⟨(p1 0).N,#[.bool g,.string s,.int .i64 x],23,true⟩] (by kernel_rfl) (by kernel_rfl)
 replace hG:=hF.gx
 clear hF
 have z5:=hS.fr.size
 refine wp_cond_false (hK.ev 39 (by kernel_rfl) _ (by kernel_rfl)) ?_
 refine wp_skip ?_
 refine then_n ?_
 refine wp_symQ hS hG hK (fun p6=>[.v 2 (.int .i64 0)]) (fun p6=>[(1,.pointer (some ⟨(p1 0).N,0,none⟩)),(2,.int .i64 0),(8,.bool false),(10,.bool false),(39,.bool false)]) (by kernel_rfl) (fun _ _=>by kernel_rfl) (fun _=>by kernel_rfl) (fun _=>by kernel_rfl) (fun p6=>?_) (fun p6 W6 T hF hK=>?_)
 ·refine ok_v (by kernel_rfl) ?_
  exact ok_nil
 replace hS:=SymF.fb hS hF [0] [⟨(p1 0).N,#[.bool g,.string s,.int .i64 x],23,true⟩] (by kernel_rfl) (by kernel_rfl)
 replace hG:=hF.gx
 clear hF
 have z6:=hS.fr.size
 refine wp_ret ?_
 exact sym_end hS hK (.int .i64 0) [] [] (by kernel_rfl) (by kernel_rfl) ⟨rfl,hS.fr⟩
def dg (s:ByteArray) (k:Nat):Int:=if h:k < s.size then ((s[k]'h).toNat:Int) - 48 else 0
def Fd (s s2:ByteArray) (c:Int):Prop:=(c = 0∧∀ k,dg s k = dg s2 k)∨∃ k,(∀ j,j < k→dg s j = dg s2 j)∧((dg s k < dg s2 k∧c = -1)∨(dg s2 k < dg s k∧c = 1))
theorem Fd.lt {s s2:ByteArray} {c:Int} (h:Fd s s2 c) {k:Nat} (hj:∀ j,j < k→dg s j = dg s2 j) (hk:dg s k < dg s2 k):c = -1:=by
 rcases h with ⟨_,h⟩|⟨i,hi,h⟩
 ·have:=h k; omega
 ·by_cases h1:i < k
  ·have:=hj i h1; omega
  ·by_cases h2:k < i
   ·have:=hi k h2; omega
   ·have:i = k:=by omega
    subst this
    omega
theorem Fd.eq {s s2:ByteArray} {c:Int} (h:Fd s s2 c) (hj:∀ j,dg s j = dg s2 j):c = 0:=by
 rcases h with ⟨h,_⟩|⟨i,_,h⟩
 ·exact h
 ·have:=hj i; omega
end Go.Proofs.YtdekhacomggpgaaGreatDoor
