/- Of what NearMeetsRow stands on: RySame RSame Rc8Rat SOrdLaw RsHalfM RsLaw RcM2 RcDy RcGo RcMeet RcRea RcAwk RcLaw. -/
import Derived.Test.YtaidedkpfnidpaaGreatDoorPbd
import Derived.Test.YtaidedkpfnidpaaGreatDoorPab
import Derived.Test.YtaidedkpfnidpaaGreatDoorPau
import Derived.BigQuiet
import Derived.Test.YtaidedkpfnidpaaGreatDoorPbc
import Derived.Test.YtaidedkpfnidpaaGreatDoorPaz
import Derived.Test.YtaidedkpfnidpaaGreatDoorPba
import Derived.Test.YtaidedkpfnidpaaGreatDoorPbb
import Derived.Test.YtaidedkpfnidpaaGreatDoorPap
import Derived.Test.YtaidedkpfnidpaaGreatDoorPat
import Derived.Test.YtaidedkpfnidpaaGreatDoorPar
import Derived.Test.YtaidedkpfnidpaaGreatDoorPaq
import Derived.Test.YtaidedkpfnidpaaGreatDoorPay
namespace Go.Proofs.YtaidedkpfnidpaaGreatDoor
open Go.RowKit
set_option maxHeartbeats 8000000
set_option maxRecDepth 20000
theorem same_shape (s t:Bool) (a1 a2 a3 a4:Option Addr) (n1 n2 n3 n4 c1 c2 c3 c4:Nat) (he:(s == t && decide (n1 = n3) && decide (n2 = n4)) = false) (w:World)  :
  Calls Tryz.prog 38 #[.agg #[.bool s,.slice a1 n1 c1,.slice a2 n2 c2,.bool t,.slice a3 n3 c3,.slice a4 n4 c4]] w fun e w'=>e = .returned (.bool false)∧Below w.heap.size w w':=by
 have hEq:=eq_shape s t n1 n2 n3 n4
 rw [he] at hEq
 clear he
 go_enter Tryz.func38,Tryz.ntmps38
 go_wp2_with fail
 refine wp_region_any (by kernel_rfl) ?_
 refine wpAny_det [some (3,.pointer (some ⟨w.heap.size,0,none⟩)),some (4,.agg #[.bool s,.slice a1 n1 c1,.slice a2 n2 c2]),some (5,.agg #[.bool s,.int .i64 (n1:Int),.int .i64 (n2:Int)]),some (6,.pointer (some ⟨w.heap.size,3,none⟩)),some (7,.agg #[.bool t,.slice a3 n3 c3,.slice a4 n4 c4]),some (8,.agg #[.bool t,.int .i64 (n3:Int),.int .i64 (n4:Int)]),some (9,.bool false),some (10,.bool false),some (11,undef),some (12,undef),some (13,undef),some (14,undef),some (15,undef),some (16,undef),some (17,undef),some (18,undef),some (19,undef),some (20,.bool false),some (21,.bool false),some (22,undef),some (23,undef),some (24,undef),some (25,undef),some (26,undef),some (27,undef),some (28,undef),some (29,undef),some (30,undef),some (31,.bool false),some (2,.bool false)]
  (fun _ W9=>Fs w W9 [⟨w.heap.size,#[.bool s,.slice a1 n1 c1,.slice a2 n2 c2,.bool t,.slice a3 n3 c3,.slice a4 n4 c4],78⟩]) _ _ rfl (by kernel_rfl) rfl rfl ?_ ?_ (Fs.one w _ _).drew
 ·intro l9 t9 W9 i9 hD hi9 hl9 hM
  obtain ⟨o9,ho9,hd9⟩:=(mem_ready.1 hi9).2
  have hin9:i9 < 30:=by
   by_cases h:i9 < 30
   ·exact h
   ·rw [Array.getElem?_eq_none (by rw [hD.len]; simp; omega)] at hl9; cases hl9
  have hcase:i9 = 0∨i9 = 1∨i9 = 2∨i9 = 3∨i9 = 4∨i9 = 5∨i9 = 6∨i9 = 7∨i9 = 8∨i9 = 9∨i9 = 10∨i9 = 11∨i9 = 12∨i9 = 13∨i9 = 14∨i9 = 15∨i9 = 16∨i9 = 17∨i9 = 18∨i9 = 19∨i9 = 20∨i9 = 21∨i9 = 22∨i9 = 23∨i9 = 24∨i9 = 25∨i9 = 26∨i9 = 27∨i9 = 28∨i9 = 29:=by omega
  clear hin9
  rcases hcase with rfl|rfl|rfl|rfl|rfl|rfl|rfl|rfl|rfl|rfl|rfl|rfl|rfl|rfl|rfl|rfl|rfl|rfl|rfl|rfl|rfl|rfl|rfl|rfl|rfl|rfl|rfl|rfl|rfl|rfl
  ·cases ho9
   have r1:=hD.old 1 _ rfl rfl
   refine wpOp_step rfl fun K hK=>?_
   go_simp
   exact hK _ _ ⟨rfl,hM⟩
  ·cases ho9
   have r3:=hD.od hd9 0 3 _ rfl (by simp)
   have hM0:=hM
   have Q_:=hM0.cellAt (b:=w.heap.size) (cs:=#[.bool s,.slice a1 n1 c1,.slice a2 n2 c2,.bool t,.slice a3 n3 c3,.slice a4 n4 c4]) (t:=78) (by simp)
   have c9_0:=Q_ 0 _ rfl
   have c9_1:=Q_ 1 _ rfl
   have c9_2:=Q_ 2 _ rfl
   clear Q_
   clear hM0
   refine wpOp_step rfl fun K hK=>?_
   go_simp
   exact hK _ _ ⟨rfl,hM⟩
  ·cases ho9
   have r4:=hD.od hd9 1 4 _ rfl (by simp)
   refine wpOp_step rfl fun K hK=>?_
   go_simp
   go_wp2_with fail
   refine (shapeOf_any _ _ _ _ _ _ _ _).mono ?_
   rintro en w9 ⟨rfl,hb9⟩
   exact hK _ _ ⟨rfl,hM.kept hb9⟩
  ·cases ho9
   have r1:=hD.old 1 _ rfl rfl
   refine wpOp_step rfl fun K hK=>?_
   go_simp
   exact hK _ _ ⟨rfl,hM⟩
  ·cases ho9
   have r6:=hD.od hd9 3 6 _ rfl (by simp)
   have hM0:=hM
   have Q_:=hM0.cellAt (b:=w.heap.size) (cs:=#[.bool s,.slice a1 n1 c1,.slice a2 n2 c2,.bool t,.slice a3 n3 c3,.slice a4 n4 c4]) (t:=78) (by simp)
   have c9_0:=Q_ 3 _ rfl
   have c9_1:=Q_ 4 _ rfl
   have c9_2:=Q_ 5 _ rfl
   clear Q_
   clear hM0
   refine wpOp_step rfl fun K hK=>?_
   go_simp
   exact hK _ _ ⟨rfl,hM⟩
  ·cases ho9
   have r7:=hD.od hd9 4 7 _ rfl (by simp)
   refine wpOp_step rfl fun K hK=>?_
   go_simp
   go_wp2_with fail
   refine (shapeOf_any _ _ _ _ _ _ _ _).mono ?_
   rintro en w9 ⟨rfl,hb9⟩
   exact hK _ _ ⟨rfl,hM.kept hb9⟩
  ·cases ho9
   have r5:=hD.od hd9 2 5 _ rfl (by simp)
   have r8:=hD.od hd9 5 8 _ rfl (by simp)
   refine wpOp_step rfl fun K hK=>?_
   go_simp
   exact hK _ _ ⟨act_eq (by rfl),hM⟩
  ·cases ho9
   have r9:=hD.od hd9 6 9 _ rfl (by simp)
   refine wpOp_step rfl fun K hK=>?_
   go_simp
   exact hK _ _ ⟨rfl,hM⟩
  ·cases ho9
   have r10:=hD.on 7 10 _ rfl (getD_true (hd9 ⟨7,.guard⟩ (by simp) rfl))
   refine wpOp_step rfl fun K hK=>?_
   go_simp
   exact hK _ _ ⟨rfl,hM⟩
  ·cases ho9
   have r10:=hD.on 7 10 _ rfl (getD_true (hd9 ⟨7,.guard⟩ (by simp) rfl))
   refine wpOp_step rfl fun K hK=>?_
   go_simp
   exact hK _ _ ⟨rfl,hM⟩
  ·cases ho9
   have r10:=hD.on 7 10 _ rfl (getD_true (hd9 ⟨7,.guard⟩ (by simp) rfl))
   refine wpOp_step rfl fun K hK=>?_
   go_simp
   exact hK _ _ ⟨rfl,hM⟩
  ·cases ho9
   have r10:=hD.on 7 10 _ rfl (getD_true (hd9 ⟨7,.guard⟩ (by simp) rfl))
   refine wpOp_step rfl fun K hK=>?_
   go_simp
   exact hK _ _ ⟨rfl,hM⟩
  ·cases ho9
   have r10:=hD.on 7 10 _ rfl (getD_true (hd9 ⟨7,.guard⟩ (by simp) rfl))
   refine wpOp_step rfl fun K hK=>?_
   go_simp
   exact hK _ _ ⟨rfl,hM⟩
  ·cases ho9
   have r10:=hD.on 7 10 _ rfl (getD_true (hd9 ⟨7,.guard⟩ (by simp) rfl))
   refine wpOp_step rfl fun K hK=>?_
   go_simp
   exact hK _ _ ⟨rfl,hM⟩
  ·cases ho9
   have r10:=hD.on 7 10 _ rfl (getD_true (hd9 ⟨7,.guard⟩ (by simp) rfl))
   refine wpOp_step rfl fun K hK=>?_
   go_simp
   exact hK _ _ ⟨rfl,hM⟩
  ·cases ho9
   have r10:=hD.on 7 10 _ rfl (getD_true (hd9 ⟨7,.guard⟩ (by simp) rfl))
   refine wpOp_step rfl fun K hK=>?_
   go_simp
   exact hK _ _ ⟨rfl,hM⟩
  ·cases ho9
   have r10:=hD.on 7 10 _ rfl (getD_true (hd9 ⟨7,.chain⟩ (by simp) rfl))
   refine wpOp_step rfl fun K hK=>?_
   go_simp
   exact hK _ _ ⟨rfl,hM⟩
  ·cases ho9
   have r10:=hD.od hd9 7 10 _ rfl (by simp)
   have r19:=hD.od hd9 16 19 _ rfl (by simp)
   refine wpOp_step rfl fun K hK=>?_
   go_simp
   exact hK _ _ ⟨rfl,hM⟩
  ·cases ho9
   have r20:=hD.od hd9 17 20 _ rfl (by simp)
   refine wpOp_step rfl fun K hK=>?_
   go_simp
   exact hK _ _ ⟨rfl,hM⟩
  ·cases ho9
   have r21:=hD.on 18 21 _ rfl (getD_true (hd9 ⟨18,.guard⟩ (by simp) rfl))
   refine wpOp_step rfl fun K hK=>?_
   go_simp
   exact hK _ _ ⟨rfl,hM⟩
  ·cases ho9
   have r21:=hD.on 18 21 _ rfl (getD_true (hd9 ⟨18,.guard⟩ (by simp) rfl))
   refine wpOp_step rfl fun K hK=>?_
   go_simp
   exact hK _ _ ⟨rfl,hM⟩
  ·cases ho9
   have r21:=hD.on 18 21 _ rfl (getD_true (hd9 ⟨18,.guard⟩ (by simp) rfl))
   refine wpOp_step rfl fun K hK=>?_
   go_simp
   exact hK _ _ ⟨rfl,hM⟩
  ·cases ho9
   have r21:=hD.on 18 21 _ rfl (getD_true (hd9 ⟨18,.guard⟩ (by simp) rfl))
   refine wpOp_step rfl fun K hK=>?_
   go_simp
   exact hK _ _ ⟨rfl,hM⟩
  ·cases ho9
   have r21:=hD.on 18 21 _ rfl (getD_true (hd9 ⟨18,.guard⟩ (by simp) rfl))
   refine wpOp_step rfl fun K hK=>?_
   go_simp
   exact hK _ _ ⟨rfl,hM⟩
  ·cases ho9
   have r21:=hD.on 18 21 _ rfl (getD_true (hd9 ⟨18,.guard⟩ (by simp) rfl))
   refine wpOp_step rfl fun K hK=>?_
   go_simp
   exact hK _ _ ⟨rfl,hM⟩
  ·cases ho9
   have r21:=hD.on 18 21 _ rfl (getD_true (hd9 ⟨18,.guard⟩ (by simp) rfl))
   refine wpOp_step rfl fun K hK=>?_
   go_simp
   exact hK _ _ ⟨rfl,hM⟩
  ·cases ho9
   have r21:=hD.on 18 21 _ rfl (getD_true (hd9 ⟨18,.guard⟩ (by simp) rfl))
   refine wpOp_step rfl fun K hK=>?_
   go_simp
   exact hK _ _ ⟨rfl,hM⟩
  ·cases ho9
   have r21:=hD.on 18 21 _ rfl (getD_true (hd9 ⟨18,.chain⟩ (by simp) rfl))
   refine wpOp_step rfl fun K hK=>?_
   go_simp
   exact hK _ _ ⟨rfl,hM⟩
  ·cases ho9
   have r21:=hD.od hd9 18 21 _ rfl (by simp)
   have r30:=hD.od hd9 27 30 _ rfl (by simp)
   refine wpOp_step rfl fun K hK=>?_
   go_simp
   exact hK _ _ ⟨rfl,hM⟩
  ·cases ho9
   have r31:=hD.od hd9 28 31 _ rfl (by simp)
   refine wpOp_step rfl fun K hK=>?_
   go_simp
   exact hK _ _ ⟨rfl,hM⟩
 ·intro l9 W9 hl9 hM
  have hS:=hM
  clear hM
  simp only [Puts.lay,List.setIfInBounds_toArray,List.set_cons_zero,List.set_cons_succ]
  obtain ⟨⟨ya,yb,yc,yd,ye,yf,-⟩,-⟩:=hS.cells
  clear hEq
  go_wp2
  go_ret
  exact ⟨rfl,hS.fr⟩
theorem same_f (s t:Bool) (a1 a2 a3 a4:Option Addr) (n1 n2 n3 n4 c1 c2 c3 c4:Nat) (he:(s == t && decide (n1 = n3) && decide (n2 = n4)) = true) (w:World) (HN:∀ W:World,Below w.heap.size w W→Calls Tryz.prog 81 #[.slice a1 n1 c1,.slice a3 n3 c3] W fun e w'=>e = .returned (.bool false)∧Below W.heap.size W w') :
  Calls Tryz.prog 38 #[.agg #[.bool s,.slice a1 n1 c1,.slice a2 n2 c2,.bool t,.slice a3 n3 c3,.slice a4 n4 c4]] w fun e w'=>e = .returned (.bool false)∧Below w.heap.size w w':=by
 have hEq:=eq_shape s t n1 n2 n3 n4
 rw [he] at hEq
 clear he
 go_enter Tryz.func38,Tryz.ntmps38
 go_wp2_with fail
 refine wp_region_any (by kernel_rfl) ?_
 refine wpAny_det [some (3,.pointer (some ⟨w.heap.size,0,none⟩)),some (4,.agg #[.bool s,.slice a1 n1 c1,.slice a2 n2 c2]),some (5,.agg #[.bool s,.int .i64 (n1:Int),.int .i64 (n2:Int)]),some (6,.pointer (some ⟨w.heap.size,3,none⟩)),some (7,.agg #[.bool t,.slice a3 n3 c3,.slice a4 n4 c4]),some (8,.agg #[.bool t,.int .i64 (n3:Int),.int .i64 (n4:Int)]),some (9,.bool true),some (10,.bool true),some (11,.pointer (some ⟨w.heap.size,0,none⟩)),some (12,.pointer (some ⟨w.heap.size,1,none⟩)),some (13,.pointer (some ⟨w.heap.size,1,none⟩)),some (14,.slice a1 n1 c1),some (15,.pointer (some ⟨w.heap.size,3,none⟩)),some (16,.pointer (some ⟨w.heap.size,4,none⟩)),some (17,.pointer (some ⟨w.heap.size,4,none⟩)),some (18,.slice a3 n3 c3),some (19,.bool false),some (20,.bool false),some (21,.bool false),some (22,undef),some (23,undef),some (24,undef),some (25,undef),some (26,undef),some (27,undef),some (28,undef),some (29,undef),some (30,undef),some (31,.bool false),some (2,.bool false)]
  (fun _ W9=>Fs w W9 [⟨w.heap.size,#[.bool s,.slice a1 n1 c1,.slice a2 n2 c2,.bool t,.slice a3 n3 c3,.slice a4 n4 c4],78⟩]) _ _ rfl (by kernel_rfl) rfl rfl ?_ ?_ (Fs.one w _ _).drew
 ·intro l9 t9 W9 i9 hD hi9 hl9 hM
  obtain ⟨o9,ho9,hd9⟩:=(mem_ready.1 hi9).2
  have hin9:i9 < 30:=by
   by_cases h:i9 < 30
   ·exact h
   ·rw [Array.getElem?_eq_none (by rw [hD.len]; simp; omega)] at hl9; cases hl9
  have hcase:i9 = 0∨i9 = 1∨i9 = 2∨i9 = 3∨i9 = 4∨i9 = 5∨i9 = 6∨i9 = 7∨i9 = 8∨i9 = 9∨i9 = 10∨i9 = 11∨i9 = 12∨i9 = 13∨i9 = 14∨i9 = 15∨i9 = 16∨i9 = 17∨i9 = 18∨i9 = 19∨i9 = 20∨i9 = 21∨i9 = 22∨i9 = 23∨i9 = 24∨i9 = 25∨i9 = 26∨i9 = 27∨i9 = 28∨i9 = 29:=by omega
  clear hin9
  rcases hcase with rfl|rfl|rfl|rfl|rfl|rfl|rfl|rfl|rfl|rfl|rfl|rfl|rfl|rfl|rfl|rfl|rfl|rfl|rfl|rfl|rfl|rfl|rfl|rfl|rfl|rfl|rfl|rfl|rfl|rfl
  ·cases ho9
   have r1:=hD.old 1 _ rfl rfl
   refine wpOp_step rfl fun K hK=>?_
   go_simp
   exact hK _ _ ⟨rfl,hM⟩
  ·cases ho9
   have r3:=hD.od hd9 0 3 _ rfl (by simp)
   have hM0:=hM
   have Q_:=hM0.cellAt (b:=w.heap.size) (cs:=#[.bool s,.slice a1 n1 c1,.slice a2 n2 c2,.bool t,.slice a3 n3 c3,.slice a4 n4 c4]) (t:=78) (by simp)
   have c9_0:=Q_ 0 _ rfl
   have c9_1:=Q_ 1 _ rfl
   have c9_2:=Q_ 2 _ rfl
   clear Q_
   clear hM0
   refine wpOp_step rfl fun K hK=>?_
   go_simp
   exact hK _ _ ⟨rfl,hM⟩
  ·cases ho9
   have r4:=hD.od hd9 1 4 _ rfl (by simp)
   refine wpOp_step rfl fun K hK=>?_
   go_simp
   go_wp2_with fail
   refine (shapeOf_any _ _ _ _ _ _ _ _).mono ?_
   rintro en w9 ⟨rfl,hb9⟩
   exact hK _ _ ⟨rfl,hM.kept hb9⟩
  ·cases ho9
   have r1:=hD.old 1 _ rfl rfl
   refine wpOp_step rfl fun K hK=>?_
   go_simp
   exact hK _ _ ⟨rfl,hM⟩
  ·cases ho9
   have r6:=hD.od hd9 3 6 _ rfl (by simp)
   have hM0:=hM
   have Q_:=hM0.cellAt (b:=w.heap.size) (cs:=#[.bool s,.slice a1 n1 c1,.slice a2 n2 c2,.bool t,.slice a3 n3 c3,.slice a4 n4 c4]) (t:=78) (by simp)
   have c9_0:=Q_ 3 _ rfl
   have c9_1:=Q_ 4 _ rfl
   have c9_2:=Q_ 5 _ rfl
   clear Q_
   clear hM0
   refine wpOp_step rfl fun K hK=>?_
   go_simp
   exact hK _ _ ⟨rfl,hM⟩
  ·cases ho9
   have r7:=hD.od hd9 4 7 _ rfl (by simp)
   refine wpOp_step rfl fun K hK=>?_
   go_simp
   go_wp2_with fail
   refine (shapeOf_any _ _ _ _ _ _ _ _).mono ?_
   rintro en w9 ⟨rfl,hb9⟩
   exact hK _ _ ⟨rfl,hM.kept hb9⟩
  ·cases ho9
   have r5:=hD.od hd9 2 5 _ rfl (by simp)
   have r8:=hD.od hd9 5 8 _ rfl (by simp)
   refine wpOp_step rfl fun K hK=>?_
   go_simp
   exact hK _ _ ⟨act_eq (by rfl),hM⟩
  ·cases ho9
   have r9:=hD.od hd9 6 9 _ rfl (by simp)
   refine wpOp_step rfl fun K hK=>?_
   go_simp
   exact hK _ _ ⟨rfl,hM⟩
  ·cases ho9
   have r10:=hD.on 7 10 _ rfl (getD_true (hd9 ⟨7,.guard⟩ (by simp) rfl))
   have r1:=hD.old 1 _ rfl rfl
   refine wpOp_step rfl fun K hK=>?_
   go_simp
   exact hK _ _ ⟨rfl,hM⟩
  ·cases ho9
   have r10:=hD.on 7 10 _ rfl (getD_true (hd9 ⟨7,.guard⟩ (by simp) rfl))
   have r11:=hD.od hd9 8 11 _ rfl (by simp)
   refine wpOp_step rfl fun K hK=>?_
   go_simp
   exact hK _ _ ⟨rfl,hM⟩
  ·cases ho9
   have r10:=hD.on 7 10 _ rfl (getD_true (hd9 ⟨7,.guard⟩ (by simp) rfl))
   have r12:=hD.od hd9 9 12 _ rfl (by simp)
   refine wpOp_step rfl fun K hK=>?_
   go_simp
   exact hK _ _ ⟨rfl,hM⟩
  ·cases ho9
   have r10:=hD.on 7 10 _ rfl (getD_true (hd9 ⟨7,.guard⟩ (by simp) rfl))
   have r13:=hD.od hd9 10 13 _ rfl (by simp)
   have hM0:=hM
   have c9_0:=hM0.cellAt (b:=w.heap.size) (cs:=#[.bool s,.slice a1 n1 c1,.slice a2 n2 c2,.bool t,.slice a3 n3 c3,.slice a4 n4 c4]) (t:=78) (by simp) 1 _ rfl
   clear hM0
   refine wpOp_step rfl fun K hK=>?_
   go_simp
   exact hK _ _ ⟨rfl,hM⟩
  ·cases ho9
   have r10:=hD.on 7 10 _ rfl (getD_true (hd9 ⟨7,.guard⟩ (by simp) rfl))
   have r1:=hD.old 1 _ rfl rfl
   refine wpOp_step rfl fun K hK=>?_
   go_simp
   exact hK _ _ ⟨rfl,hM⟩
  ·cases ho9
   have r10:=hD.on 7 10 _ rfl (getD_true (hd9 ⟨7,.guard⟩ (by simp) rfl))
   have r15:=hD.od hd9 12 15 _ rfl (by simp)
   refine wpOp_step rfl fun K hK=>?_
   go_simp
   exact hK _ _ ⟨rfl,hM⟩
  ·cases ho9
   have r10:=hD.on 7 10 _ rfl (getD_true (hd9 ⟨7,.guard⟩ (by simp) rfl))
   have r16:=hD.od hd9 13 16 _ rfl (by simp)
   refine wpOp_step rfl fun K hK=>?_
   go_simp
   exact hK _ _ ⟨rfl,hM⟩
  ·cases ho9
   have r10:=hD.on 7 10 _ rfl (getD_true (hd9 ⟨7,.guard⟩ (by simp) rfl))
   have r17:=hD.od hd9 14 17 _ rfl (by simp)
   have hM0:=hM
   have c9_0:=hM0.cellAt (b:=w.heap.size) (cs:=#[.bool s,.slice a1 n1 c1,.slice a2 n2 c2,.bool t,.slice a3 n3 c3,.slice a4 n4 c4]) (t:=78) (by simp) 4 _ rfl
   clear hM0
   refine wpOp_step rfl fun K hK=>?_
   go_simp
   exact hK _ _ ⟨rfl,hM⟩
  ·cases ho9
   have r10:=hD.on 7 10 _ rfl (getD_true (hd9 ⟨7,.chain⟩ (by simp) rfl))
   have r14:=hD.od hd9 11 14 _ rfl (by simp)
   have r18:=hD.od hd9 15 18 _ rfl (by simp)
   refine wpOp_step rfl fun K hK=>?_
   go_simp
   go_wp2_with fail
   refine (HN _ hM.fr).mono ?_
   rintro en w9 ⟨rfl,hb9⟩
   exact hK _ _ ⟨rfl,hM.kept hb9⟩
  ·cases ho9
   have r10:=hD.od hd9 7 10 _ rfl (by simp)
   have r19:=hD.od hd9 16 19 _ rfl (by simp)
   refine wpOp_step rfl fun K hK=>?_
   go_simp
   exact hK _ _ ⟨rfl,hM⟩
  ·cases ho9
   have r20:=hD.od hd9 17 20 _ rfl (by simp)
   refine wpOp_step rfl fun K hK=>?_
   go_simp
   exact hK _ _ ⟨rfl,hM⟩
  ·cases ho9
   have r21:=hD.on 18 21 _ rfl (getD_true (hd9 ⟨18,.guard⟩ (by simp) rfl))
   refine wpOp_step rfl fun K hK=>?_
   go_simp
   exact hK _ _ ⟨rfl,hM⟩
  ·cases ho9
   have r21:=hD.on 18 21 _ rfl (getD_true (hd9 ⟨18,.guard⟩ (by simp) rfl))
   refine wpOp_step rfl fun K hK=>?_
   go_simp
   exact hK _ _ ⟨rfl,hM⟩
  ·cases ho9
   have r21:=hD.on 18 21 _ rfl (getD_true (hd9 ⟨18,.guard⟩ (by simp) rfl))
   refine wpOp_step rfl fun K hK=>?_
   go_simp
   exact hK _ _ ⟨rfl,hM⟩
  ·cases ho9
   have r21:=hD.on 18 21 _ rfl (getD_true (hd9 ⟨18,.guard⟩ (by simp) rfl))
   refine wpOp_step rfl fun K hK=>?_
   go_simp
   exact hK _ _ ⟨rfl,hM⟩
  ·cases ho9
   have r21:=hD.on 18 21 _ rfl (getD_true (hd9 ⟨18,.guard⟩ (by simp) rfl))
   refine wpOp_step rfl fun K hK=>?_
   go_simp
   exact hK _ _ ⟨rfl,hM⟩
  ·cases ho9
   have r21:=hD.on 18 21 _ rfl (getD_true (hd9 ⟨18,.guard⟩ (by simp) rfl))
   refine wpOp_step rfl fun K hK=>?_
   go_simp
   exact hK _ _ ⟨rfl,hM⟩
  ·cases ho9
   have r21:=hD.on 18 21 _ rfl (getD_true (hd9 ⟨18,.guard⟩ (by simp) rfl))
   refine wpOp_step rfl fun K hK=>?_
   go_simp
   exact hK _ _ ⟨rfl,hM⟩
  ·cases ho9
   have r21:=hD.on 18 21 _ rfl (getD_true (hd9 ⟨18,.guard⟩ (by simp) rfl))
   refine wpOp_step rfl fun K hK=>?_
   go_simp
   exact hK _ _ ⟨rfl,hM⟩
  ·cases ho9
   have r21:=hD.on 18 21 _ rfl (getD_true (hd9 ⟨18,.chain⟩ (by simp) rfl))
   refine wpOp_step rfl fun K hK=>?_
   go_simp
   exact hK _ _ ⟨rfl,hM⟩
  ·cases ho9
   have r21:=hD.od hd9 18 21 _ rfl (by simp)
   have r30:=hD.od hd9 27 30 _ rfl (by simp)
   refine wpOp_step rfl fun K hK=>?_
   go_simp
   exact hK _ _ ⟨rfl,hM⟩
  ·cases ho9
   have r31:=hD.od hd9 28 31 _ rfl (by simp)
   refine wpOp_step rfl fun K hK=>?_
   go_simp
   exact hK _ _ ⟨rfl,hM⟩
 ·intro l9 W9 hl9 hM
  have hS:=hM
  clear hM
  simp only [Puts.lay,List.setIfInBounds_toArray,List.set_cons_zero,List.set_cons_succ]
  obtain ⟨⟨ya,yb,yc,yd,ye,yf,-⟩,-⟩:=hS.cells
  clear hEq
  go_wp2
  go_ret
  exact ⟨rfl,hS.fr⟩
theorem same_tt (s t:Bool) (a1 a2 a3 a4:Option Addr) (n1 n2 n3 n4 c1 c2 c3 c4:Nat) (he:(s == t && decide (n1 = n3) && decide (n2 = n4)) = true) (w:World) (HN:∀ W:World,Below w.heap.size w W→Calls Tryz.prog 81 #[.slice a1 n1 c1,.slice a3 n3 c3] W fun e w'=>e = .returned (.bool true)∧Below W.heap.size W w') (HD:∀ W:World,Below w.heap.size w W→Calls Tryz.prog 81 #[.slice a2 n2 c2,.slice a4 n4 c4] W fun e w'=>e = .returned (.bool true)∧Below W.heap.size W w') :
  Calls Tryz.prog 38 #[.agg #[.bool s,.slice a1 n1 c1,.slice a2 n2 c2,.bool t,.slice a3 n3 c3,.slice a4 n4 c4]] w fun e w'=>e = .returned (.bool true)∧Below w.heap.size w w':=by
 have hEq:=eq_shape s t n1 n2 n3 n4
 rw [he] at hEq
 clear he
 go_enter Tryz.func38,Tryz.ntmps38
 go_wp2_with fail
 refine wp_region_any (by kernel_rfl) ?_
 refine wpAny_det [some (3,.pointer (some ⟨w.heap.size,0,none⟩)),some (4,.agg #[.bool s,.slice a1 n1 c1,.slice a2 n2 c2]),some (5,.agg #[.bool s,.int .i64 (n1:Int),.int .i64 (n2:Int)]),some (6,.pointer (some ⟨w.heap.size,3,none⟩)),some (7,.agg #[.bool t,.slice a3 n3 c3,.slice a4 n4 c4]),some (8,.agg #[.bool t,.int .i64 (n3:Int),.int .i64 (n4:Int)]),some (9,.bool true),some (10,.bool true),some (11,.pointer (some ⟨w.heap.size,0,none⟩)),some (12,.pointer (some ⟨w.heap.size,1,none⟩)),some (13,.pointer (some ⟨w.heap.size,1,none⟩)),some (14,.slice a1 n1 c1),some (15,.pointer (some ⟨w.heap.size,3,none⟩)),some (16,.pointer (some ⟨w.heap.size,4,none⟩)),some (17,.pointer (some ⟨w.heap.size,4,none⟩)),some (18,.slice a3 n3 c3),some (19,.bool true),some (20,.bool true),some (21,.bool true),some (22,.pointer (some ⟨w.heap.size,0,none⟩)),some (23,.pointer (some ⟨w.heap.size,2,none⟩)),some (24,.pointer (some ⟨w.heap.size,2,none⟩)),some (25,.slice a2 n2 c2),some (26,.pointer (some ⟨w.heap.size,3,none⟩)),some (27,.pointer (some ⟨w.heap.size,5,none⟩)),some (28,.pointer (some ⟨w.heap.size,5,none⟩)),some (29,.slice a4 n4 c4),some (30,.bool true),some (31,.bool true),some (2,.bool true)]
  (fun _ W9=>Fs w W9 [⟨w.heap.size,#[.bool s,.slice a1 n1 c1,.slice a2 n2 c2,.bool t,.slice a3 n3 c3,.slice a4 n4 c4],78⟩]) _ _ rfl (by kernel_rfl) rfl rfl ?_ ?_ (Fs.one w _ _).drew
 ·intro l9 t9 W9 i9 hD hi9 hl9 hM
  obtain ⟨o9,ho9,hd9⟩:=(mem_ready.1 hi9).2
  have hin9:i9 < 30:=by
   by_cases h:i9 < 30
   ·exact h
   ·rw [Array.getElem?_eq_none (by rw [hD.len]; simp; omega)] at hl9; cases hl9
  have hcase:i9 = 0∨i9 = 1∨i9 = 2∨i9 = 3∨i9 = 4∨i9 = 5∨i9 = 6∨i9 = 7∨i9 = 8∨i9 = 9∨i9 = 10∨i9 = 11∨i9 = 12∨i9 = 13∨i9 = 14∨i9 = 15∨i9 = 16∨i9 = 17∨i9 = 18∨i9 = 19∨i9 = 20∨i9 = 21∨i9 = 22∨i9 = 23∨i9 = 24∨i9 = 25∨i9 = 26∨i9 = 27∨i9 = 28∨i9 = 29:=by omega
  clear hin9
  rcases hcase with rfl|rfl|rfl|rfl|rfl|rfl|rfl|rfl|rfl|rfl|rfl|rfl|rfl|rfl|rfl|rfl|rfl|rfl|rfl|rfl|rfl|rfl|rfl|rfl|rfl|rfl|rfl|rfl|rfl|rfl
  ·cases ho9
   have r1:=hD.old 1 _ rfl rfl
   refine wpOp_step rfl fun K hK=>?_
   go_simp
   exact hK _ _ ⟨rfl,hM⟩
  ·cases ho9
   have r3:=hD.od hd9 0 3 _ rfl (by simp)
   have hM0:=hM
   have Q_:=hM0.cellAt (b:=w.heap.size) (cs:=#[.bool s,.slice a1 n1 c1,.slice a2 n2 c2,.bool t,.slice a3 n3 c3,.slice a4 n4 c4]) (t:=78) (by simp)
   have c9_0:=Q_ 0 _ rfl
   have c9_1:=Q_ 1 _ rfl
   have c9_2:=Q_ 2 _ rfl
   clear Q_
   clear hM0
   refine wpOp_step rfl fun K hK=>?_
   go_simp
   exact hK _ _ ⟨rfl,hM⟩
  ·cases ho9
   have r4:=hD.od hd9 1 4 _ rfl (by simp)
   refine wpOp_step rfl fun K hK=>?_
   go_simp
   go_wp2_with fail
   refine (shapeOf_any _ _ _ _ _ _ _ _).mono ?_
   rintro en w9 ⟨rfl,hb9⟩
   exact hK _ _ ⟨rfl,hM.kept hb9⟩
  ·cases ho9
   have r1:=hD.old 1 _ rfl rfl
   refine wpOp_step rfl fun K hK=>?_
   go_simp
   exact hK _ _ ⟨rfl,hM⟩
  ·cases ho9
   have r6:=hD.od hd9 3 6 _ rfl (by simp)
   have hM0:=hM
   have Q_:=hM0.cellAt (b:=w.heap.size) (cs:=#[.bool s,.slice a1 n1 c1,.slice a2 n2 c2,.bool t,.slice a3 n3 c3,.slice a4 n4 c4]) (t:=78) (by simp)
   have c9_0:=Q_ 3 _ rfl
   have c9_1:=Q_ 4 _ rfl
   have c9_2:=Q_ 5 _ rfl
   clear Q_
   clear hM0
   refine wpOp_step rfl fun K hK=>?_
   go_simp
   exact hK _ _ ⟨rfl,hM⟩
  ·cases ho9
   have r7:=hD.od hd9 4 7 _ rfl (by simp)
   refine wpOp_step rfl fun K hK=>?_
   go_simp
   go_wp2_with fail
   refine (shapeOf_any _ _ _ _ _ _ _ _).mono ?_
   rintro en w9 ⟨rfl,hb9⟩
   exact hK _ _ ⟨rfl,hM.kept hb9⟩
  ·cases ho9
   have r5:=hD.od hd9 2 5 _ rfl (by simp)
   have r8:=hD.od hd9 5 8 _ rfl (by simp)
   refine wpOp_step rfl fun K hK=>?_
   go_simp
   exact hK _ _ ⟨act_eq (by rfl),hM⟩
  ·cases ho9
   have r9:=hD.od hd9 6 9 _ rfl (by simp)
   refine wpOp_step rfl fun K hK=>?_
   go_simp
   exact hK _ _ ⟨rfl,hM⟩
  ·cases ho9
   have r10:=hD.on 7 10 _ rfl (getD_true (hd9 ⟨7,.guard⟩ (by simp) rfl))
   have r1:=hD.old 1 _ rfl rfl
   refine wpOp_step rfl fun K hK=>?_
   go_simp
   exact hK _ _ ⟨rfl,hM⟩
  ·cases ho9
   have r10:=hD.on 7 10 _ rfl (getD_true (hd9 ⟨7,.guard⟩ (by simp) rfl))
   have r11:=hD.od hd9 8 11 _ rfl (by simp)
   refine wpOp_step rfl fun K hK=>?_
   go_simp
   exact hK _ _ ⟨rfl,hM⟩
  ·cases ho9
   have r10:=hD.on 7 10 _ rfl (getD_true (hd9 ⟨7,.guard⟩ (by simp) rfl))
   have r12:=hD.od hd9 9 12 _ rfl (by simp)
   refine wpOp_step rfl fun K hK=>?_
   go_simp
   exact hK _ _ ⟨rfl,hM⟩
  ·cases ho9
   have r10:=hD.on 7 10 _ rfl (getD_true (hd9 ⟨7,.guard⟩ (by simp) rfl))
   have r13:=hD.od hd9 10 13 _ rfl (by simp)
   have hM0:=hM
   have c9_0:=hM0.cellAt (b:=w.heap.size) (cs:=#[.bool s,.slice a1 n1 c1,.slice a2 n2 c2,.bool t,.slice a3 n3 c3,.slice a4 n4 c4]) (t:=78) (by simp) 1 _ rfl
   clear hM0
   refine wpOp_step rfl fun K hK=>?_
   go_simp
   exact hK _ _ ⟨rfl,hM⟩
  ·cases ho9
   have r10:=hD.on 7 10 _ rfl (getD_true (hd9 ⟨7,.guard⟩ (by simp) rfl))
   have r1:=hD.old 1 _ rfl rfl
   refine wpOp_step rfl fun K hK=>?_
   go_simp
   exact hK _ _ ⟨rfl,hM⟩
  ·cases ho9
   have r10:=hD.on 7 10 _ rfl (getD_true (hd9 ⟨7,.guard⟩ (by simp) rfl))
   have r15:=hD.od hd9 12 15 _ rfl (by simp)
   refine wpOp_step rfl fun K hK=>?_
   go_simp
   exact hK _ _ ⟨rfl,hM⟩
  ·cases ho9
   have r10:=hD.on 7 10 _ rfl (getD_true (hd9 ⟨7,.guard⟩ (by simp) rfl))
   have r16:=hD.od hd9 13 16 _ rfl (by simp)
   refine wpOp_step rfl fun K hK=>?_
   go_simp
   exact hK _ _ ⟨rfl,hM⟩
  ·cases ho9
   have r10:=hD.on 7 10 _ rfl (getD_true (hd9 ⟨7,.guard⟩ (by simp) rfl))
   have r17:=hD.od hd9 14 17 _ rfl (by simp)
   have hM0:=hM
   have c9_0:=hM0.cellAt (b:=w.heap.size) (cs:=#[.bool s,.slice a1 n1 c1,.slice a2 n2 c2,.bool t,.slice a3 n3 c3,.slice a4 n4 c4]) (t:=78) (by simp) 4 _ rfl
   clear hM0
   refine wpOp_step rfl fun K hK=>?_
   go_simp
   exact hK _ _ ⟨rfl,hM⟩
  ·cases ho9
   have r10:=hD.on 7 10 _ rfl (getD_true (hd9 ⟨7,.chain⟩ (by simp) rfl))
   have r14:=hD.od hd9 11 14 _ rfl (by simp)
   have r18:=hD.od hd9 15 18 _ rfl (by simp)
   refine wpOp_step rfl fun K hK=>?_
   go_simp
   go_wp2_with fail
   refine (HN _ hM.fr).mono ?_
   rintro en w9 ⟨rfl,hb9⟩
   exact hK _ _ ⟨rfl,hM.kept hb9⟩
  ·cases ho9
   have r10:=hD.od hd9 7 10 _ rfl (by simp)
   have r19:=hD.od hd9 16 19 _ rfl (by simp)
   refine wpOp_step rfl fun K hK=>?_
   go_simp
   exact hK _ _ ⟨rfl,hM⟩
  ·cases ho9
   have r20:=hD.od hd9 17 20 _ rfl (by simp)
   refine wpOp_step rfl fun K hK=>?_
   go_simp
   exact hK _ _ ⟨rfl,hM⟩
  ·cases ho9
   have r21:=hD.on 18 21 _ rfl (getD_true (hd9 ⟨18,.guard⟩ (by simp) rfl))
   have r1:=hD.old 1 _ rfl rfl
   refine wpOp_step rfl fun K hK=>?_
   go_simp
   exact hK _ _ ⟨rfl,hM⟩
  ·cases ho9
   have r21:=hD.on 18 21 _ rfl (getD_true (hd9 ⟨18,.guard⟩ (by simp) rfl))
   have r22:=hD.od hd9 19 22 _ rfl (by simp)
   refine wpOp_step rfl fun K hK=>?_
   go_simp
   exact hK _ _ ⟨rfl,hM⟩
  ·cases ho9
   have r21:=hD.on 18 21 _ rfl (getD_true (hd9 ⟨18,.guard⟩ (by simp) rfl))
   have r23:=hD.od hd9 20 23 _ rfl (by simp)
   refine wpOp_step rfl fun K hK=>?_
   go_simp
   exact hK _ _ ⟨rfl,hM⟩
  ·cases ho9
   have r21:=hD.on 18 21 _ rfl (getD_true (hd9 ⟨18,.guard⟩ (by simp) rfl))
   have r24:=hD.od hd9 21 24 _ rfl (by simp)
   have hM0:=hM
   have c9_0:=hM0.cellAt (b:=w.heap.size) (cs:=#[.bool s,.slice a1 n1 c1,.slice a2 n2 c2,.bool t,.slice a3 n3 c3,.slice a4 n4 c4]) (t:=78) (by simp) 2 _ rfl
   clear hM0
   refine wpOp_step rfl fun K hK=>?_
   go_simp
   exact hK _ _ ⟨rfl,hM⟩
  ·cases ho9
   have r21:=hD.on 18 21 _ rfl (getD_true (hd9 ⟨18,.guard⟩ (by simp) rfl))
   have r1:=hD.old 1 _ rfl rfl
   refine wpOp_step rfl fun K hK=>?_
   go_simp
   exact hK _ _ ⟨rfl,hM⟩
  ·cases ho9
   have r21:=hD.on 18 21 _ rfl (getD_true (hd9 ⟨18,.guard⟩ (by simp) rfl))
   have r26:=hD.od hd9 23 26 _ rfl (by simp)
   refine wpOp_step rfl fun K hK=>?_
   go_simp
   exact hK _ _ ⟨rfl,hM⟩
  ·cases ho9
   have r21:=hD.on 18 21 _ rfl (getD_true (hd9 ⟨18,.guard⟩ (by simp) rfl))
   have r27:=hD.od hd9 24 27 _ rfl (by simp)
   refine wpOp_step rfl fun K hK=>?_
   go_simp
   exact hK _ _ ⟨rfl,hM⟩
  ·cases ho9
   have r21:=hD.on 18 21 _ rfl (getD_true (hd9 ⟨18,.guard⟩ (by simp) rfl))
   have r28:=hD.od hd9 25 28 _ rfl (by simp)
   have hM0:=hM
   have c9_0:=hM0.cellAt (b:=w.heap.size) (cs:=#[.bool s,.slice a1 n1 c1,.slice a2 n2 c2,.bool t,.slice a3 n3 c3,.slice a4 n4 c4]) (t:=78) (by simp) 5 _ rfl
   clear hM0
   refine wpOp_step rfl fun K hK=>?_
   go_simp
   exact hK _ _ ⟨rfl,hM⟩
  ·cases ho9
   have r21:=hD.on 18 21 _ rfl (getD_true (hd9 ⟨18,.chain⟩ (by simp) rfl))
   have r25:=hD.od hd9 22 25 _ rfl (by simp)
   have r29:=hD.od hd9 26 29 _ rfl (by simp)
   refine wpOp_step rfl fun K hK=>?_
   go_simp
   go_wp2_with fail
   refine (HD _ hM.fr).mono ?_
   rintro en w9 ⟨rfl,hb9⟩
   exact hK _ _ ⟨rfl,hM.kept hb9⟩
  ·cases ho9
   have r21:=hD.od hd9 18 21 _ rfl (by simp)
   have r30:=hD.od hd9 27 30 _ rfl (by simp)
   refine wpOp_step rfl fun K hK=>?_
   go_simp
   exact hK _ _ ⟨rfl,hM⟩
  ·cases ho9
   have r31:=hD.od hd9 28 31 _ rfl (by simp)
   refine wpOp_step rfl fun K hK=>?_
   go_simp
   exact hK _ _ ⟨rfl,hM⟩
 ·intro l9 W9 hl9 hM
  have hS:=hM
  clear hM
  simp only [Puts.lay,List.setIfInBounds_toArray,List.set_cons_zero,List.set_cons_succ]
  obtain ⟨⟨ya,yb,yc,yd,ye,yf,-⟩,-⟩:=hS.cells
  clear hEq
  go_wp2
  go_ret
  exact ⟨rfl,hS.fr⟩
theorem same_tf (s t:Bool) (a1 a2 a3 a4:Option Addr) (n1 n2 n3 n4 c1 c2 c3 c4:Nat) (he:(s == t && decide (n1 = n3) && decide (n2 = n4)) = true) (w:World) (HN:∀ W:World,Below w.heap.size w W→Calls Tryz.prog 81 #[.slice a1 n1 c1,.slice a3 n3 c3] W fun e w'=>e = .returned (.bool true)∧Below W.heap.size W w') (HD:∀ W:World,Below w.heap.size w W→Calls Tryz.prog 81 #[.slice a2 n2 c2,.slice a4 n4 c4] W fun e w'=>e = .returned (.bool false)∧Below W.heap.size W w') :
  Calls Tryz.prog 38 #[.agg #[.bool s,.slice a1 n1 c1,.slice a2 n2 c2,.bool t,.slice a3 n3 c3,.slice a4 n4 c4]] w fun e w'=>e = .returned (.bool false)∧Below w.heap.size w w':=by
 have hEq:=eq_shape s t n1 n2 n3 n4
 rw [he] at hEq
 clear he
 go_enter Tryz.func38,Tryz.ntmps38
 go_wp2_with fail
 refine wp_region_any (by kernel_rfl) ?_
 refine wpAny_det [some (3,.pointer (some ⟨w.heap.size,0,none⟩)),some (4,.agg #[.bool s,.slice a1 n1 c1,.slice a2 n2 c2]),some (5,.agg #[.bool s,.int .i64 (n1:Int),.int .i64 (n2:Int)]),some (6,.pointer (some ⟨w.heap.size,3,none⟩)),some (7,.agg #[.bool t,.slice a3 n3 c3,.slice a4 n4 c4]),some (8,.agg #[.bool t,.int .i64 (n3:Int),.int .i64 (n4:Int)]),some (9,.bool true),some (10,.bool true),some (11,.pointer (some ⟨w.heap.size,0,none⟩)),some (12,.pointer (some ⟨w.heap.size,1,none⟩)),some (13,.pointer (some ⟨w.heap.size,1,none⟩)),some (14,.slice a1 n1 c1),some (15,.pointer (some ⟨w.heap.size,3,none⟩)),some (16,.pointer (some ⟨w.heap.size,4,none⟩)),some (17,.pointer (some ⟨w.heap.size,4,none⟩)),some (18,.slice a3 n3 c3),some (19,.bool true),some (20,.bool true),some (21,.bool true),some (22,.pointer (some ⟨w.heap.size,0,none⟩)),some (23,.pointer (some ⟨w.heap.size,2,none⟩)),some (24,.pointer (some ⟨w.heap.size,2,none⟩)),some (25,.slice a2 n2 c2),some (26,.pointer (some ⟨w.heap.size,3,none⟩)),some (27,.pointer (some ⟨w.heap.size,5,none⟩)),some (28,.pointer (some ⟨w.heap.size,5,none⟩)),some (29,.slice a4 n4 c4),some (30,.bool false),some (31,.bool false),some (2,.bool false)]
  (fun _ W9=>Fs w W9 [⟨w.heap.size,#[.bool s,.slice a1 n1 c1,.slice a2 n2 c2,.bool t,.slice a3 n3 c3,.slice a4 n4 c4],78⟩]) _ _ rfl (by kernel_rfl) rfl rfl ?_ ?_ (Fs.one w _ _).drew
 ·intro l9 t9 W9 i9 hD hi9 hl9 hM
  obtain ⟨o9,ho9,hd9⟩:=(mem_ready.1 hi9).2
  have hin9:i9 < 30:=by
   by_cases h:i9 < 30
   ·exact h
   ·rw [Array.getElem?_eq_none (by rw [hD.len]; simp; omega)] at hl9; cases hl9
  have hcase:i9 = 0∨i9 = 1∨i9 = 2∨i9 = 3∨i9 = 4∨i9 = 5∨i9 = 6∨i9 = 7∨i9 = 8∨i9 = 9∨i9 = 10∨i9 = 11∨i9 = 12∨i9 = 13∨i9 = 14∨i9 = 15∨i9 = 16∨i9 = 17∨i9 = 18∨i9 = 19∨i9 = 20∨i9 = 21∨i9 = 22∨i9 = 23∨i9 = 24∨i9 = 25∨i9 = 26∨i9 = 27∨i9 = 28∨i9 = 29:=by omega
  clear hin9
  rcases hcase with rfl|rfl|rfl|rfl|rfl|rfl|rfl|rfl|rfl|rfl|rfl|rfl|rfl|rfl|rfl|rfl|rfl|rfl|rfl|rfl|rfl|rfl|rfl|rfl|rfl|rfl|rfl|rfl|rfl|rfl
  ·cases ho9
   have r1:=hD.old 1 _ rfl rfl
   refine wpOp_step rfl fun K hK=>?_
   go_simp
   exact hK _ _ ⟨rfl,hM⟩
  ·cases ho9
   have r3:=hD.od hd9 0 3 _ rfl (by simp)
   have hM0:=hM
   have Q_:=hM0.cellAt (b:=w.heap.size) (cs:=#[.bool s,.slice a1 n1 c1,.slice a2 n2 c2,.bool t,.slice a3 n3 c3,.slice a4 n4 c4]) (t:=78) (by simp)
   have c9_0:=Q_ 0 _ rfl
   have c9_1:=Q_ 1 _ rfl
   have c9_2:=Q_ 2 _ rfl
   clear Q_
   clear hM0
   refine wpOp_step rfl fun K hK=>?_
   go_simp
   exact hK _ _ ⟨rfl,hM⟩
  ·cases ho9
   have r4:=hD.od hd9 1 4 _ rfl (by simp)
   refine wpOp_step rfl fun K hK=>?_
   go_simp
   go_wp2_with fail
   refine (shapeOf_any _ _ _ _ _ _ _ _).mono ?_
   rintro en w9 ⟨rfl,hb9⟩
   exact hK _ _ ⟨rfl,hM.kept hb9⟩
  ·cases ho9
   have r1:=hD.old 1 _ rfl rfl
   refine wpOp_step rfl fun K hK=>?_
   go_simp
   exact hK _ _ ⟨rfl,hM⟩
  ·cases ho9
   have r6:=hD.od hd9 3 6 _ rfl (by simp)
   have hM0:=hM
   have Q_:=hM0.cellAt (b:=w.heap.size) (cs:=#[.bool s,.slice a1 n1 c1,.slice a2 n2 c2,.bool t,.slice a3 n3 c3,.slice a4 n4 c4]) (t:=78) (by simp)
   have c9_0:=Q_ 3 _ rfl
   have c9_1:=Q_ 4 _ rfl
   have c9_2:=Q_ 5 _ rfl
   clear Q_
   clear hM0
   refine wpOp_step rfl fun K hK=>?_
   go_simp
   exact hK _ _ ⟨rfl,hM⟩
  ·cases ho9
   have r7:=hD.od hd9 4 7 _ rfl (by simp)
   refine wpOp_step rfl fun K hK=>?_
   go_simp
   go_wp2_with fail
   refine (shapeOf_any _ _ _ _ _ _ _ _).mono ?_
   rintro en w9 ⟨rfl,hb9⟩
   exact hK _ _ ⟨rfl,hM.kept hb9⟩
  ·cases ho9
   have r5:=hD.od hd9 2 5 _ rfl (by simp)
   have r8:=hD.od hd9 5 8 _ rfl (by simp)
   refine wpOp_step rfl fun K hK=>?_
   go_simp
   exact hK _ _ ⟨act_eq (by rfl),hM⟩
  ·cases ho9
   have r9:=hD.od hd9 6 9 _ rfl (by simp)
   refine wpOp_step rfl fun K hK=>?_
   go_simp
   exact hK _ _ ⟨rfl,hM⟩
  ·cases ho9
   have r10:=hD.on 7 10 _ rfl (getD_true (hd9 ⟨7,.guard⟩ (by simp) rfl))
   have r1:=hD.old 1 _ rfl rfl
   refine wpOp_step rfl fun K hK=>?_
   go_simp
   exact hK _ _ ⟨rfl,hM⟩
  ·cases ho9
   have r10:=hD.on 7 10 _ rfl (getD_true (hd9 ⟨7,.guard⟩ (by simp) rfl))
   have r11:=hD.od hd9 8 11 _ rfl (by simp)
   refine wpOp_step rfl fun K hK=>?_
   go_simp
   exact hK _ _ ⟨rfl,hM⟩
  ·cases ho9
   have r10:=hD.on 7 10 _ rfl (getD_true (hd9 ⟨7,.guard⟩ (by simp) rfl))
   have r12:=hD.od hd9 9 12 _ rfl (by simp)
   refine wpOp_step rfl fun K hK=>?_
   go_simp
   exact hK _ _ ⟨rfl,hM⟩
  ·cases ho9
   have r10:=hD.on 7 10 _ rfl (getD_true (hd9 ⟨7,.guard⟩ (by simp) rfl))
   have r13:=hD.od hd9 10 13 _ rfl (by simp)
   have hM0:=hM
   have c9_0:=hM0.cellAt (b:=w.heap.size) (cs:=#[.bool s,.slice a1 n1 c1,.slice a2 n2 c2,.bool t,.slice a3 n3 c3,.slice a4 n4 c4]) (t:=78) (by simp) 1 _ rfl
   clear hM0
   refine wpOp_step rfl fun K hK=>?_
   go_simp
   exact hK _ _ ⟨rfl,hM⟩
  ·cases ho9
   have r10:=hD.on 7 10 _ rfl (getD_true (hd9 ⟨7,.guard⟩ (by simp) rfl))
   have r1:=hD.old 1 _ rfl rfl
   refine wpOp_step rfl fun K hK=>?_
   go_simp
   exact hK _ _ ⟨rfl,hM⟩
  ·cases ho9
   have r10:=hD.on 7 10 _ rfl (getD_true (hd9 ⟨7,.guard⟩ (by simp) rfl))
   have r15:=hD.od hd9 12 15 _ rfl (by simp)
   refine wpOp_step rfl fun K hK=>?_
   go_simp
   exact hK _ _ ⟨rfl,hM⟩
  ·cases ho9
   have r10:=hD.on 7 10 _ rfl (getD_true (hd9 ⟨7,.guard⟩ (by simp) rfl))
   have r16:=hD.od hd9 13 16 _ rfl (by simp)
   refine wpOp_step rfl fun K hK=>?_
   go_simp
   exact hK _ _ ⟨rfl,hM⟩
  ·cases ho9
   have r10:=hD.on 7 10 _ rfl (getD_true (hd9 ⟨7,.guard⟩ (by simp) rfl))
   have r17:=hD.od hd9 14 17 _ rfl (by simp)
   have hM0:=hM
   have c9_0:=hM0.cellAt (b:=w.heap.size) (cs:=#[.bool s,.slice a1 n1 c1,.slice a2 n2 c2,.bool t,.slice a3 n3 c3,.slice a4 n4 c4]) (t:=78) (by simp) 4 _ rfl
   clear hM0
   refine wpOp_step rfl fun K hK=>?_
   go_simp
   exact hK _ _ ⟨rfl,hM⟩
  ·cases ho9
   have r10:=hD.on 7 10 _ rfl (getD_true (hd9 ⟨7,.chain⟩ (by simp) rfl))
   have r14:=hD.od hd9 11 14 _ rfl (by simp)
   have r18:=hD.od hd9 15 18 _ rfl (by simp)
   refine wpOp_step rfl fun K hK=>?_
   go_simp
   go_wp2_with fail
   refine (HN _ hM.fr).mono ?_
   rintro en w9 ⟨rfl,hb9⟩
   exact hK _ _ ⟨rfl,hM.kept hb9⟩
  ·cases ho9
   have r10:=hD.od hd9 7 10 _ rfl (by simp)
   have r19:=hD.od hd9 16 19 _ rfl (by simp)
   refine wpOp_step rfl fun K hK=>?_
   go_simp
   exact hK _ _ ⟨rfl,hM⟩
  ·cases ho9
   have r20:=hD.od hd9 17 20 _ rfl (by simp)
   refine wpOp_step rfl fun K hK=>?_
   go_simp
   exact hK _ _ ⟨rfl,hM⟩
  ·cases ho9
   have r21:=hD.on 18 21 _ rfl (getD_true (hd9 ⟨18,.guard⟩ (by simp) rfl))
   have r1:=hD.old 1 _ rfl rfl
   refine wpOp_step rfl fun K hK=>?_
   go_simp
   exact hK _ _ ⟨rfl,hM⟩
  ·cases ho9
   have r21:=hD.on 18 21 _ rfl (getD_true (hd9 ⟨18,.guard⟩ (by simp) rfl))
   have r22:=hD.od hd9 19 22 _ rfl (by simp)
   refine wpOp_step rfl fun K hK=>?_
   go_simp
   exact hK _ _ ⟨rfl,hM⟩
  ·cases ho9
   have r21:=hD.on 18 21 _ rfl (getD_true (hd9 ⟨18,.guard⟩ (by simp) rfl))
   have r23:=hD.od hd9 20 23 _ rfl (by simp)
   refine wpOp_step rfl fun K hK=>?_
   go_simp
   exact hK _ _ ⟨rfl,hM⟩
  ·cases ho9
   have r21:=hD.on 18 21 _ rfl (getD_true (hd9 ⟨18,.guard⟩ (by simp) rfl))
   have r24:=hD.od hd9 21 24 _ rfl (by simp)
   have hM0:=hM
   have c9_0:=hM0.cellAt (b:=w.heap.size) (cs:=#[.bool s,.slice a1 n1 c1,.slice a2 n2 c2,.bool t,.slice a3 n3 c3,.slice a4 n4 c4]) (t:=78) (by simp) 2 _ rfl
   clear hM0
   refine wpOp_step rfl fun K hK=>?_
   go_simp
   exact hK _ _ ⟨rfl,hM⟩
  ·cases ho9
   have r21:=hD.on 18 21 _ rfl (getD_true (hd9 ⟨18,.guard⟩ (by simp) rfl))
   have r1:=hD.old 1 _ rfl rfl
   refine wpOp_step rfl fun K hK=>?_
   go_simp
   exact hK _ _ ⟨rfl,hM⟩
  ·cases ho9
   have r21:=hD.on 18 21 _ rfl (getD_true (hd9 ⟨18,.guard⟩ (by simp) rfl))
   have r26:=hD.od hd9 23 26 _ rfl (by simp)
   refine wpOp_step rfl fun K hK=>?_
   go_simp
   exact hK _ _ ⟨rfl,hM⟩
  ·cases ho9
   have r21:=hD.on 18 21 _ rfl (getD_true (hd9 ⟨18,.guard⟩ (by simp) rfl))
   have r27:=hD.od hd9 24 27 _ rfl (by simp)
   refine wpOp_step rfl fun K hK=>?_
   go_simp
   exact hK _ _ ⟨rfl,hM⟩
  ·cases ho9
   have r21:=hD.on 18 21 _ rfl (getD_true (hd9 ⟨18,.guard⟩ (by simp) rfl))
   have r28:=hD.od hd9 25 28 _ rfl (by simp)
   have hM0:=hM
   have c9_0:=hM0.cellAt (b:=w.heap.size) (cs:=#[.bool s,.slice a1 n1 c1,.slice a2 n2 c2,.bool t,.slice a3 n3 c3,.slice a4 n4 c4]) (t:=78) (by simp) 5 _ rfl
   clear hM0
   refine wpOp_step rfl fun K hK=>?_
   go_simp
   exact hK _ _ ⟨rfl,hM⟩
  ·cases ho9
   have r21:=hD.on 18 21 _ rfl (getD_true (hd9 ⟨18,.chain⟩ (by simp) rfl))
   have r25:=hD.od hd9 22 25 _ rfl (by simp)
   have r29:=hD.od hd9 26 29 _ rfl (by simp)
   refine wpOp_step rfl fun K hK=>?_
   go_simp
   go_wp2_with fail
   refine (HD _ hM.fr).mono ?_
   rintro en w9 ⟨rfl,hb9⟩
   exact hK _ _ ⟨rfl,hM.kept hb9⟩
  ·cases ho9
   have r21:=hD.od hd9 18 21 _ rfl (by simp)
   have r30:=hD.od hd9 27 30 _ rfl (by simp)
   refine wpOp_step rfl fun K hK=>?_
   go_simp
   exact hK _ _ ⟨rfl,hM⟩
  ·cases ho9
   have r31:=hD.od hd9 28 31 _ rfl (by simp)
   refine wpOp_step rfl fun K hK=>?_
   go_simp
   exact hK _ _ ⟨rfl,hM⟩
 ·intro l9 W9 hl9 hM
  have hS:=hM
  clear hM
  simp only [Puts.lay,List.setIfInBounds_toArray,List.set_cons_zero,List.set_cons_succ]
  obtain ⟨⟨ya,yb,yc,yd,ye,yf,-⟩,-⟩:=hS.cells
  clear hEq
  go_wp2
  go_ret
  exact ⟨rfl,hS.fr⟩
theorem same_dec {w w':World} {s t:Bool} {a1 a2 a3 a4:Option Addr} {n1 n2 n3 n4:Nat} {x y:Rat} (hx:Fq w s a1 n1 a2 n2 x) (hy:Fq w' t a3 n3 a4 n4 y) :
  decide (x = y) = ((s == t) && decide (x.num.natAbs = y.num.natAbs) && decide (x.den = y.den)):=by
 have h1:=hx.neg
 have h2:=hy.neg
 subst h1 h2
 by_cases h:x = y
 ·subst h; simp
 ·have:¬ ((decide (x.num < 0) = decide (y.num < 0)∧x.num.natAbs = y.num.natAbs)∧x.den = y.den):=by
   rintro ⟨⟨e1,e2⟩,e3⟩
   apply h
   refine Rat.ext ?_ e3
   rw [decide_eq_decide] at e1
   omega
  rw [decide_eq_false h]
  symm
  simp only [Bool.and_eq_false_iff,beq_eq_false_iff_ne,decide_eq_false_iff_not]
  by_cases e1:decide (x.num < 0) = decide (y.num < 0)
  ·by_cases e2:x.num.natAbs = y.num.natAbs
   ·exact Or.inr (fun e3=>this ⟨⟨e1,e2⟩,e3⟩)
   ·exact Or.inl (Or.inr e2)
  ·exact Or.inl (Or.inl e1)
def ordR (x y:Rat):Int:=if x = y then 0 else if x < y then -1 else 1
theorem ordR_eq {x y:Rat} (h:x = y):ordR x y = 0:=by unfold ordR; rw [if_pos h]
theorem ordR_lt {x y:Rat} (h:x.num * y.den < y.num * x.den):ordR x y = -1:=by
 unfold ordR
 have hl:x < y:=(Rat.lt_iff x y).2 h
 rw [if_neg (fun e=>by subst e; omega),if_pos hl]
theorem ordR_gt {x y:Rat} (h:y.num * x.den < x.num * y.den):ordR x y = 1:=by
 unfold ordR
 have hl:¬ x < y:=fun h1=>by have:=(Rat.lt_iff x y).1 h1; omega
 rw [if_neg (fun e=>by subst e; omega),if_neg hl]
theorem rat_ne {x y:Rat} (h:x≠y):x.num * y.den≠y.num * x.den:=fun e=>
 h (by
  have h1:¬ x < y:=fun hl=>by have:=(Rat.lt_iff x y).1 hl; omega
  have h2:¬ y < x:=fun hl=>by have:=(Rat.lt_iff y x).1 hl; omega
  exact Rat.le_antisymm (Rat.not_lt.1 h2) (Rat.not_lt.1 h1))
theorem both_same (s t:Bool) (a1 a2 a3 a4:Option Addr) (n1 n2 n3 n4 c1 c2 c3 c4:Nat) (x y:Rat) (w:World) (hx:Fq w s a1 n1 a2 n2 x) (hy:Fq w t a3 n3 a4 n4 y) :
  Calls Tryz.prog 38 #[.agg #[.bool s,.slice a1 n1 c1,.slice a2 n2 c2,.bool t,.slice a3 n3 c3,.slice a4 n4 c4]] w fun e w'=>e = .returned (.bool (decide (x = y)))∧Below w.heap.size w w':=by
 rw [same_dec hx hy]
 cases he:(s == t && decide (n1 = n3) && decide (n2 = n4))
 ·have hd:((s == t) && decide (x.num.natAbs = y.num.natAbs) && decide (x.den = y.den)) = false:=by
   cases hst:(s == t)
   ·rfl
   ·rw [hst] at he
    by_cases e1:x.num.natAbs = y.num.natAbs
    ·have:=hx.num.same (e1▸hy.num)
     by_cases e2:x.den = y.den
     ·have h2:=hx.den.same (e2▸hy.den)
      rw [decide_eq_true this,decide_eq_true h2] at he
      exact absurd he (by decide)
     ·rw [decide_eq_false e2,Bool.and_false]
    ·rw [decide_eq_false e1]; rfl
  rw [hd]
  exact same_shape s t a1 a2 a3 a4 n1 n2 n3 n4 c1 c2 c3 c4 he w
 ·have he':=he
  simp only [Bool.and_eq_true,decide_eq_true_eq] at he
  obtain ⟨⟨hst,e1⟩,e2⟩:=he
  rw [hst,Bool.true_and]
  subst e1 e2
  have H1:∀ W:World,Below w.heap.size w W→Calls Tryz.prog 81 #[.slice a1 n1 c1,.slice a3 n1 c3] W fun e w'=>e = .returned (.bool (decide (x.num.natAbs = y.num.natAbs)))∧Below W.heap.size W w':=
   fun W hb=>eqS_any a1 a3 n1 c1 c3 _ _ W (hx.num.kept hb) (hy.num.kept hb)
  have H2:∀ W:World,Below w.heap.size w W→Calls Tryz.prog 81 #[.slice a2 n2 c2,.slice a4 n2 c4] W fun e w'=>e = .returned (.bool (decide (x.den = y.den)))∧Below W.heap.size W w':=
   fun W hb=>eqS_any a2 a4 n2 c2 c4 _ _ W (hx.den.kept hb) (hy.den.kept hb)
  cases hd1:decide (x.num.natAbs = y.num.natAbs)
  ·rw [hd1] at H1
   exact same_f s t a1 a2 a3 a4 n1 n2 n1 n2 c1 c2 c3 c4 he' w H1
  ·rw [hd1] at H1
   rw [Bool.true_and]
   cases hd2:decide (x.den = y.den)
   ·rw [hd2] at H2
    exact same_tf s t a1 a2 a3 a4 n1 n2 n1 n2 c1 c2 c3 c4 he' w H1 H2
   ·rw [hd2] at H2
    exact same_tt s t a1 a2 a3 a4 n1 n2 n1 n2 c1 c2 c3 c4 he' w H1 H2
theorem cmpI_pos {m k:Nat}:decide ((0:Int) < cmpI m k) = decide (k < m):=by
 unfold cmpI
 rw [decide_eq_decide]
 by_cases h:m < k
 ·rw [if_pos h]; omega
 ·rw [if_neg h]
  by_cases h2:m = k
  ·rw [if_pos h2]; omega
  ·rw [if_neg h2]; omega
theorem both_farther (s t:Bool) (a1 a2 a3 a4:Option Addr) (n1 n2 n3 n4 c1 c2 c3 c4:Nat) (x y:Rat) (w:World) (hx:Fq w s a1 n1 a2 n2 x) (hy:Fq w t a3 n3 a4 n4 y) (ho:¬ Over (x.num.natAbs * y.den)) (ho2:¬ Over (y.num.natAbs * x.den)) :
  Calls Tryz.prog 40 #[.agg #[.bool s,.slice a1 n1 c1,.slice a2 n2 c2,.bool t,.slice a3 n3 c3,.slice a4 n4 c4]] w fun e w'=>e = .returned (.bool (decide (y.num.natAbs * x.den < x.num.natAbs * y.den)))∧Below w.heap.size w w':=by
 cases hd:decide (y.num.natAbs * x.den < x.num.natAbs * y.den)
 ·exact farther_f s t a1 a2 a3 a4 n1 n2 n3 n4 c1 c2 c3 c4 _ _ _ _ ho ho2 (cmpI_pos.trans hd) w hx.num hx.den hy.num hy.den
 ·exact farther_t s t a1 a2 a3 a4 n1 n2 n3 n4 c1 c2 c3 c4 _ _ _ _ ho ho2 (cmpI_pos.trans hd) w hx.num hx.den hy.num hy.den
theorem abs_of {s:Bool} {x:Rat} (h:s = decide (x.num < 0)):x.num = Rm.sgn s x.num.natAbs:=by
 subst h
 unfold Rm.sgn
 by_cases h:x.num < 0
 ·rw [decide_eq_true h,if_pos rfl]; omega
 ·rw [decide_eq_false h,if_neg (by decide)]; omega
theorem cmp_rat (s t:Bool) (a1 a2 a3 a4:Option Addr) (n1 n2 n3 n4 c1 c2 c3 c4:Nat) (x y:Rat) (w:World) (hx:Fq w s a1 n1 a2 n2 x) (hy:Fq w t a3 n3 a4 n4 y) (ho:¬ Over (x.num.natAbs * y.den)) (ho2:¬ Over (y.num.natAbs * x.den)) :
  Calls Tryz.prog 11 #[.agg #[.bool s,.slice a1 n1 c1,.slice a2 n2 c2],.agg #[.bool t,.slice a3 n3 c3,.slice a4 n4 c4]] w fun e w'=>e = .returned (.tuple #[.int .i64 (ordR x y),.int .i64 0])∧Below w.heap.size w w':=by
 have gs:∀ {s:Bool} {z:Rat},Rm.Q z s z.num.natAbs z.den→s = true→0 < z.num.natAbs:=fun {s z} q e=>Nat.pos_of_ne_zero fun e2=>by have:=q.zero e2; rw [this] at e; cases e
 have HC:=hide (fun (W:World) (hb:Below w.heap.size w W)=>zbck W a1 a2 a3 a4 n1 n2 n3 n4 c1 c2 c3 c4 _ _ _ _ s t (hx.num.kept hb) (hx.den.kept hb) (hy.num.kept hb) (hy.den.kept hb) (hide fun W q r=>rchk_all s a1 a2 n1 c1 n2 c2 _ _ (gs hx.q) hx.q.pos hx.q.co W q r) (hide fun W q r=>rchk_all t a3 a4 n3 c3 n4 c4 _ _ (gs hy.q) hy.q.pos hy.q.co W q r))
 have HS:∀ W:World,Below w.heap.size w W→Calls Tryz.prog 38 #[.agg #[.bool s,.slice a1 n1 c1,.slice a2 n2 c2,.bool t,.slice a3 n3 c3,.slice a4 n4 c4]] W fun e w'=>e = .returned (.bool (decide (x = y)))∧Below W.heap.size W w':=
  fun W hb=>both_same s t a1 a2 a3 a4 n1 n2 n3 n4 c1 c2 c3 c4 x y W (hx.kept hb) (hy.kept hb)
 have HF:∀ W:World,Below w.heap.size w W→Calls Tryz.prog 40 #[.agg #[.bool s,.slice a1 n1 c1,.slice a2 n2 c2,.bool t,.slice a3 n3 c3,.slice a4 n4 c4]] W fun e w'=>e = .returned (.bool (decide (y.num.natAbs * x.den < x.num.natAbs * y.den)))∧Below W.heap.size W w':=
  fun W hb=>both_farther s t a1 a2 a3 a4 n1 n2 n3 n4 c1 c2 c3 c4 x y W (hx.kept hb) (hy.kept hb) ho ho2
 by_cases hxy:x = y
 ·rw [decide_eq_true hxy] at HS
  rw [ordR_eq hxy]
  exact rcmp_same s t a1 a2 a3 a4 n1 n2 n3 n4 c1 c2 c3 c4 w HC (hide HS)
 ·rw [decide_eq_false hxy] at HS
  have hne:=rat_ne hxy
  have ex:=abs_of hx.neg
  have ey:=abs_of hy.neg
  have hz:=hx.q.zero
  have hz':=hy.q.zero
  have px:0 < x.den:=Nat.pos_of_ne_zero x.den_nz
  have py:0 < y.den:=Nat.pos_of_ne_zero y.den_nz
  have hxm:x.num * (y.den:Int) = Rm.sgn s (x.num.natAbs * y.den):=by rw [Rm.sgn_scale,← ex]
  have hym:y.num * (x.den:Int) = Rm.sgn t (y.num.natAbs * x.den):=by rw [Rm.sgn_scale,← ey]
  have gx:s = true→0 < x.num.natAbs * y.den:=fun h=>Nat.mul_pos (Nat.pos_of_ne_zero (fun e=>by rw [hz e] at h; exact absurd h (by decide))) py
  have gy:t = true→0 < y.num.natAbs * x.den:=fun h=>Nat.mul_pos (Nat.pos_of_ne_zero (fun e=>by rw [hz' e] at h; exact absurd h (by decide))) px
  generalize hU:x.num.natAbs * y.den = U at hxm gx HF
  generalize hV:y.num.natAbs * x.den = V at hym gy HF
  rw [hxm,hym] at hne
  cases s <;> cases t
  ·by_cases hd:V < U
   ·rw [decide_eq_true hd] at HF
    rw [ordR_gt (by rw [hxm,hym]; simp only [Rm.sgn]; simp; omega)]
    exact rcmp_fft a1 a2 a3 a4 n1 n2 n3 n4 c1 c2 c3 c4 w HC (hide HS) (hide HF)
   ·rw [decide_eq_false hd] at HF
    rw [ordR_lt (by rw [hxm,hym]; simp only [Rm.sgn] at hne ⊢; simp at hne ⊢; omega)]
    exact rcmp_fff a1 a2 a3 a4 n1 n2 n3 n4 c1 c2 c3 c4 w HC (hide HS) (hide HF)
  ·have:=gy rfl
   rw [ordR_gt (by rw [hxm,hym]; simp only [Rm.sgn]; simp; omega)]
   exact rcmp_ft a1 a2 a3 a4 n1 n2 n3 n4 c1 c2 c3 c4 w HC (hide HS)
  ·have:=gx rfl
   rw [ordR_lt (by rw [hxm,hym]; simp only [Rm.sgn]; simp; omega)]
   exact rcmp_tf a1 a2 a3 a4 n1 n2 n3 n4 c1 c2 c3 c4 w HC (hide HS)
  ·by_cases hd:V < U
   ·rw [decide_eq_true hd] at HF
    rw [ordR_lt (by rw [hxm,hym]; simp only [Rm.sgn]; simp; omega)]
    exact rcmp_ttt a1 a2 a3 a4 n1 n2 n3 n4 c1 c2 c3 c4 w HC (hide HS) (hide HF)
   ·rw [decide_eq_false hd] at HF
    rw [ordR_gt (by rw [hxm,hym]; simp only [Rm.sgn] at hne ⊢; simp at hne ⊢; omega)]
    exact rcmp_ttf a1 a2 a3 a4 n1 n2 n3 n4 c1 c2 c3 c4 w HC (hide HS) (hide HF)
def rq (s:Bool) (p d:Nat) (hd:0 < d) (hg:Nat.gcd p d = 1):Rat:=⟨Rm.sgn s p,d,by omega,by rw [Nat.Coprime,Rm.sgn_abs]; exact hg⟩
theorem fq_rq {w:World} {s:Bool} {a b:Option Addr} {n k p d:Nat} {hd:0 < d} {hg:Nat.gcd p d = 1} (hs:s = true→0 < p) (h1:Num w a n p) (h2:Num w b k d):Fq w s a n b k (rq s p d hd hg):=by
 refine ⟨(Rm.sgn_neg fun e=>?_).symm,?_,h2⟩
 ·cases s
  ·rfl
  ·have:=hs rfl; omega
 ·show Num w a n (Rm.sgn s p).natAbs
  rw [Rm.sgn_abs]; exact h1
theorem WrQ.lt {F G r:Nat} {s sa:Bool} {va da p d:Nat} (h:WrQ F G s r sa va da) (hl:pv F r * d < p * 2 ^ G):va * d < p * da:=by
 refine Nat.lt_of_mul_lt_mul_right (a:=2 ^ G) ?_
 have a1:va * d * 2 ^ G = pv F r * d * da:=by rw [Nat.mul_right_comm,h.eq]; ac_rfl
 have a2:p * da * 2 ^ G = p * 2 ^ G * da:=Nat.mul_right_comm ..
 rw [a1,a2]
 exact Nat.mul_lt_mul_of_pos_right hl h.hd
theorem WrQ.same {F G r:Nat} {s sa:Bool} {va da p d:Nat} (h:WrQ F G s r sa va da) (hl:pv F r * d = p * 2 ^ G):va * d = p * da:=by
 refine Nat.eq_of_mul_eq_mul_right (Nat.pow_pos (n:=G) (show 0 < 2 by omega)) ?_
 have a1:va * d * 2 ^ G = pv F r * d * da:=by rw [Nat.mul_right_comm,h.eq]; ac_rfl
 have a2:p * da * 2 ^ G = p * 2 ^ G * da:=Nat.mul_right_comm ..
 rw [a1,a2,hl]
theorem cmp_nums {s t:Bool} {p d p' d':Nat} (hd:0 < d) (hg:Nat.gcd p d = 1) (hs:s = true→0 < p) (hd':0 < d') (hg':Nat.gcd p' d' = 1) (hs':t = true→0 < p') (o1:¬ Over (p * d')) (o2:¬ Over (p' * d)) (W:World) (a:Option Addr) (n c:Nat) (b:Option Addr) (k l:Nat) (a':Option Addr) (n' c':Nat) (b':Option Addr) (k' l':Nat) (h1:Num W a n p) (h2:Num W b k d) (h3:Num W a' n' p') (h4:Num W b' k' d') :
  Calls Tryz.prog 11 #[.agg #[.bool s,.slice a n c,.slice b k l],.agg #[.bool t,.slice a' n' c',.slice b' k' l']] W fun e W'=>e = .returned (.tuple #[.int .i64 (ordR (rq s p d hd hg) (rq t p' d' hd' hg')),.int .i64 0])∧Below W.heap.size W W':=
 cmp_rat s t a b a' b' n k n' k' c l c' l' _ _ W (fq_rq hs h1 h2) (fq_rq hs' h3 h4) (by show ¬ Over ((Rm.sgn s p).natAbs * d'); rw [Rm.sgn_abs]; exact o1) (by show ¬ Over ((Rm.sgn t p').natAbs * d); rw [Rm.sgn_abs]; exact o2)
theorem ord_lt_of {s t:Bool} {p d p' d':Nat} {hd:0 < d} {hg:Nat.gcd p d = 1} {hd':0 < d'} {hg':Nat.gcd p' d' = 1} (h:Rm.sgn s p * (d':Int) < Rm.sgn t p' * (d:Int)):ordR (rq s p d hd hg) (rq t p' d' hd' hg') = -1:=ordR_lt h
theorem ord_gt_of {s t:Bool} {p d p' d':Nat} {hd:0 < d} {hg:Nat.gcd p d = 1} {hd':0 < d'} {hg':Nat.gcd p' d' = 1} (h:Rm.sgn t p' * (d:Int) < Rm.sgn s p * (d':Int)):ordR (rq s p d hd hg) (rq t p' d' hd' hg') = 1:=ordR_gt h
theorem rq_same {s t:Bool} {p d p' d':Nat} {hd:0 < d} {hg:Nat.gcd p d = 1} {hd':0 < d'} {hg':Nat.gcd p' d' = 1} (h:Rm.sgn s p * (d':Int) = Rm.sgn t p' * (d:Int)):rq s p d hd hg = rq t p' d' hd' hg':=by
 refine Classical.byContradiction fun hne=>rat_ne hne h
def gLo (md:Nat) (s:Bool) (F r:Nat):Int:=if s then -(bdm md s F r:Int) else if r = 0 then 0 else (bdm md s F (r - 1):Int)
def gHi (md:Nat) (s:Bool) (F r:Nat):Int:=if s then (if r = 0 then 0 else -(bdm md s F (r - 1):Int)) else (bdm md s F r:Int)
def iLo (md:Nat) (s:Bool) (r:Nat):Bool:=if s then outb md s r else (decide (r = 0) || inb md s r)
def iHi (md:Nat) (s:Bool) (r:Nat):Bool:=if s then (decide (r = 0) || inb md s r) else outb md s r
def InR (md:Nat) (s:Bool) (F r:Nat) (X:Int) (d:Nat):Prop:=
 (gLo md s F r * (d:Int) < X∨(gLo md s F r * (d:Int) = X∧iLo md s r = true))∧(X < gHi md s F r * (d:Int)∨(X = gHi md s F r * (d:Int)∧iHi md s r = true))
def GoTo (md:Nat) (s:Bool) (F r G:Nat) (t:Bool) (p d:Nat):Prop:=(t = s∨p = 0)∧Rin md s F r (2 * (p * 2 ^ G)) d
theorem sgn_halves (t:Bool) (p G:Nat):Rm.sgn t p * ((2 ^ (G+1):Nat):Int) = Rm.sgn t (2 * (p * 2 ^ G)):=by
 rw [← Rm.sgn_scale,Nat.pow_succ]; congr 1; ac_rfl
theorem in_iff (md:Nat) (s:Bool) (F r G:Nat) {t:Bool} {p d:Nat} (ht:t = true→0 < p):InR md s F r (Rm.sgn t p * ((2 ^ (G+1):Nat):Int)) d↔GoTo md s F r G t p d:=by
 rw [sgn_halves]
 unfold InR GoTo
 obtain ⟨H,hH⟩:∃ H,H = 2 * (p * 2 ^ G):=⟨_,rfl⟩
 have hP:0 < 2 ^ G:=Nat.pow_pos (by omega)
 have hp0:p = 0↔H = 0:=by
  constructor
  ·intro e; rw [hH,e,Nat.zero_mul]
  ·intro e
   rcases Nat.eq_zero_or_pos p with q|q
   ·exact q
   ·have:=Nat.mul_pos q hP; omega
 rw [← hH,hp0]
 have ht':t = true→0 < H:=fun e=>by
  have:=Nat.mul_pos (ht e) hP; omega
 clear hH hp0 ht
 obtain ⟨u,hu⟩:∃ u,u = bdm md s F r * d:=⟨_,rfl⟩
 obtain ⟨v,hv⟩:∃ v,v = bdm md s F (r - 1) * d:=⟨_,rfl⟩
 have eu:(bdm md s F r:Int) * (d:Int) = (u:Int):=by rw [hu,Int.natCast_mul]
 have ev:(bdm md s F (r - 1):Int) * (d:Int) = (v:Int):=by rw [hv,Int.natCast_mul]
 have hR:Rin md s F r H d↔(r = 0∨v < H∨(v = H∧inb md s r = true))∧(H < u∨(H = u∧outb md s r = true)):=by
  rw [hu,hv]
  exact ⟨fun h=>⟨h.lo,h.hi⟩,fun h=>⟨h.1,h.2⟩⟩
 rw [hR]
 have e1:gLo md s F r * (d:Int) = if s then -(u:Int) else if r = 0 then 0 else (v:Int):=by
  unfold gLo
  rw [← eu,← ev]
  cases s
  ·by_cases h0:r = 0
   ·simp [h0]
   ·simp [h0]
  ·simp [Int.neg_mul]
 have e2:gHi md s F r * (d:Int) = if s then (if r = 0 then 0 else -(v:Int)) else (u:Int):=by
  unfold gHi
  rw [← eu,← ev]
  cases s
  ·simp
  ·by_cases h0:r = 0
   ·simp [h0]
   ·simp [h0,Int.neg_mul]
 rw [e1,e2]
 unfold iLo iHi
 clear e1 e2 hR eu ev hu hv
 generalize inb md s r = bi
 generalize outb md s r = bo
 by_cases h0:r = 0
 ·rw [if_pos h0,if_pos h0,decide_eq_true h0]
  cases s <;> cases t <;> cases bi <;> cases bo <;> simp [Rm.sgn,h0] at ht' ⊢ <;> omega
 ·rw [if_neg h0,if_neg h0,decide_eq_false h0]
  cases s <;> cases t <;> cases bi <;> cases bo <;> simp [Rm.sgn,h0] at ht' ⊢ <;> omega
theorem bdm_zero {md:Nat} {s:Bool} {F:Nat} (h:bdm md s F 0 = 0):outb md s 0 = true:=by
 have h1:=pv_lt (F:=F) (show 0 < 1 by omega)
 rw [pv_zero] at h1
 unfold bdm at h
 unfold outb
 simp only [pv_zero,Nat.zero_add] at h
 by_cases hm:md≤1
 ·rw [if_pos hm] at h; omega
 ·rw [if_neg hm] at h
  rw [if_neg (by omega),if_neg (by omega)]
  cases hf:fth md s false 1
  ·rw [hf] at h; simp at h; omega
  ·rfl
theorem reach_lt (md:Nat) (s:Bool) (F r:Nat):gLo md s F r < gHi md s F r∨(gLo md s F r = gHi md s F r∧iLo md s r = true∧iHi md s r = true):=by
 unfold gLo gHi iLo iHi
 by_cases h0:r = 0
 ·subst h0
  by_cases hz:bdm md s F 0 = 0
  ·have:=bdm_zero hz
   rw [hz,this]
   cases s <;> simp
  ·cases s <;> simp <;> omega
 ·have:=bdm_lt (md:=md) (s:=s) (F:=F) (show r - 1 < r by omega)
  cases s <;> simp [h0] <;> omega
theorem in_lo (md:Nat) (s:Bool) (F r:Nat) {d:Nat} (hd:0 < d):InR md s F r (gLo md s F r * (d:Int)) d↔iLo md s r = true:=by
 have hd':(0:Int) < (d:Int):=by omega
 unfold InR
 rcases reach_lt md s F r with h|⟨h,h1,h2⟩
 ·have:=Int.mul_lt_mul_of_pos_right h hd'
  constructor
  ·rintro ⟨a|a,-⟩
   ·omega
   ·exact a.2
  ·exact fun a=>⟨Or.inr ⟨rfl,a⟩,Or.inl this⟩
 ·rw [h]
  exact ⟨fun _=>h1,fun a=>⟨Or.inr ⟨rfl,a⟩,Or.inr ⟨rfl,h2⟩⟩⟩
theorem in_hi (md:Nat) (s:Bool) (F r:Nat) {d:Nat} (hd:0 < d):InR md s F r (gHi md s F r * (d:Int)) d↔iHi md s r = true:=by
 have hd':(0:Int) < (d:Int):=by omega
 unfold InR
 rcases reach_lt md s F r with h|⟨h,h1,h2⟩
 ·have:=Int.mul_lt_mul_of_pos_right h hd'
  constructor
  ·rintro ⟨-,a|a⟩
   ·omega
   ·exact a.2
  ·exact fun a=>⟨Or.inl this,Or.inr ⟨rfl,a⟩⟩
 ·rw [← h]
  exact ⟨fun _=>h2,fun a=>⟨Or.inr ⟨rfl,h1⟩,Or.inr ⟨rfl,a⟩⟩⟩
theorem goes_lo {md:Nat} {s:Bool} {F r G:Nat} {t:Bool} {p d:Nat} (hd:0 < d) (ht:t = true→0 < p) (h:Rm.sgn t p * ((2 ^ (G+1):Nat):Int) = gLo md s F r * (d:Int)):GoTo md s F r G t p d↔iLo md s r = true:=by
 rw [← in_iff md s F r G ht,h]; exact in_lo md s F r hd
theorem goes_hi {md:Nat} {s:Bool} {F r G:Nat} {t:Bool} {p d:Nat} (hd:0 < d) (ht:t = true→0 < p) (h:Rm.sgn t p * ((2 ^ (G+1):Nat):Int) = gHi md s F r * (d:Int)):GoTo md s F r G t p d↔iHi md s r = true:=by
 rw [← in_iff md s F r G ht,h]; exact in_hi md s F r hd
theorem ilt_r {a b c:Int} (h:0 < c):a * c < b * c↔a < b:=⟨fun x=>Int.lt_of_mul_lt_mul_right x (Int.le_of_lt h),fun x=>Int.mul_lt_mul_of_pos_right x h⟩
def c3 (a b:Int):Int:=if a < b then -1 else if a = b then 0 else 1
theorem ord_grid {s t:Bool} {p d p' d':Nat} {hd:0 < d} {hg:Nat.gcd p d = 1} {hd':0 < d'} {hg':Nat.gcd p' d' = 1} {g:Int} {G:Nat} (h:Rm.sgn s p * ((2 ^ (G+1):Nat):Int) = g * (d:Int)) :
  ordR (rq s p d hd hg) (rq t p' d' hd' hg') = c3 (g * (d':Int)) (Rm.sgn t p' * ((2 ^ (G+1):Nat):Int))∧ordR (rq t p' d' hd' hg') (rq s p d hd hg) = c3 (Rm.sgn t p' * ((2 ^ (G+1):Nat):Int)) (g * (d':Int)):=by
 have hP:(0:Int) < ((2 ^ (G+1):Nat):Int):=Int.natCast_pos.2 (Nat.pow_pos (by omega))
 have hD:(0:Int) < (d:Int):=by omega
 have key:∀ {a b:Int},a * ((2 ^ (G+1):Nat):Int) = (g * (d':Int)) * (d:Int)→b * ((2 ^ (G+1):Nat):Int) = (Rm.sgn t p' * ((2 ^ (G+1):Nat):Int)) * (d:Int)→(a < b↔g * (d':Int) < Rm.sgn t p' * ((2 ^ (G+1):Nat):Int))∧(b < a↔Rm.sgn t p' * ((2 ^ (G+1):Nat):Int) < g * (d':Int)):=by
  intro a b ha hb
  constructor
  ·rw [← ilt_r hP,ha,hb,ilt_r hD]
  ·rw [← ilt_r hP,ha,hb,ilt_r hD]
 obtain ⟨k1,k2⟩:=key (a:=Rm.sgn s p * (d':Int)) (b:=Rm.sgn t p' * (d:Int)) (by rw [Int.mul_right_comm,h,Int.mul_right_comm]) (by rw [Int.mul_right_comm])
 rcases Int.lt_trichotomy (Rm.sgn s p * (d':Int)) (Rm.sgn t p' * (d:Int)) with q|q|q
 ·have:=k1.1 q
  rw [ord_lt_of q,ord_gt_of q]
  unfold c3
  exact ⟨by rw [if_pos this],by rw [if_neg (by omega),if_neg (by omega)]⟩
 ·have e:g * (d':Int) = Rm.sgn t p' * ((2 ^ (G+1):Nat):Int):=by
   have a1:=fun z=>Int.lt_irrefl _ (by have:=k1.2 z; rwa [q] at this)
   have a2:=fun z=>Int.lt_irrefl _ (by have:=k2.2 z; rwa [q] at this)
   omega
  rw [rq_same (hd:=hd) (hg:=hg) (hd':=hd') (hg':=hg') q,ordR_eq rfl,e]
  unfold c3
  exact ⟨by rw [if_neg (Int.lt_irrefl _),if_pos rfl],by rw [if_neg (Int.lt_irrefl _),if_pos rfl]⟩
 ·have:=k2.1 q
  rw [ord_gt_of q,ord_lt_of q]
  unfold c3
  exact ⟨by rw [if_neg (by omega),if_neg (by omega)],by rw [if_pos this]⟩
def gK:Nat:=2100
def gKn:Nat:=3002
structure Grd (L:Int) (K:Nat) (s:Bool) (m:Nat) (x:Int) (g:Int):Prop where
 ok:OkD s m x
 lo:L≤x
 val:sv s (m * 2 ^ (x - L).toNat) = g
 bd:m * 2 ^ (x - L).toNat < 2 ^ K
theorem sv_dbl (s:Bool) (m:Nat):sv s (2 * m) = 2 * sv s m:=by unfold sv; cases s <;> simp <;> omega
theorem Grd.up {L:Int} {K:Nat} {s:Bool} {m:Nat} {x g:Int} (h:Grd L K s m x g):Grd (L - 1) (K+1) s m x (2 * g):=by
 have hl:=h.lo
 have e:m * 2 ^ (x - (L - 1)).toNat = 2 * (m * 2 ^ (x - L).toNat):=by
  rw [show (x - (L - 1)).toNat = (x - L).toNat+1 by omega,Nat.pow_succ]; ac_rfl
 refine ⟨h.ok,by omega,by rw [e,sv_dbl,h.val],?_⟩
 have:=h.bd
 rw [e,Nat.pow_succ]; omega
theorem Grd.more {L:Int} {K K':Nat} {s:Bool} {m:Nat} {x g:Int} (h:Grd L K s m x g) (hK:K≤K'):Grd L K' s m x g:=⟨h.ok,h.lo,h.val,Nat.lt_of_lt_of_le h.bd (Nat.pow_le_pow_right (by omega) hK)⟩
theorem pv_inf {E F S I B:Nat} (h:Fm E F S I) (hB:B = 2 ^ (E - 1) - 1):pv F I = 2 ^ (F+2 * B)∧F+2 * B < gK:=by
 have hP:0 < 2 ^ F:=Nat.pow_pos (by omega)
 have hE:=h.fo.e2
 have hE1:=h.fo.e11
 have hF:=h.fo.f52
 have h2:2 ^ E = 2 * 2 ^ (E - 1):=by obtain ⟨e,rfl⟩:∃ e,E = e+1:=⟨E - 1,by omega⟩; rw [Nat.pow_succ,Nat.add_sub_cancel]; omega
 have h3:2 ^ (E - 1)≤2 ^ 10:=Nat.pow_le_pow_right (by omega) (by omega)
 have h4:2 ^ 1≤2 ^ (E - 1):=Nat.pow_le_pow_right (by omega) (by omega)
 refine ⟨?_,by unfold gK; omega⟩
 have hq:I / 2 ^ F = 2 ^ E - 1:=by rw [h.hI]; exact Nat.mul_div_cancel _ hP
 have hr:I % 2 ^ F = 0:=by rw [h.hI]; exact Nat.mul_mod_left ..
 unfold pv
 rw [if_neg (by rw [h.hI]; have:=Nat.mul_le_mul_right (2 ^ F) (show 1≤2 ^ E - 1 by omega); omega),hq,hr,Nat.add_zero,← Nat.pow_add]
 congr 1
 omega
theorem pv_bd {E F S I B r:Nat} (h:Fm E F S I) (hB:B = 2 ^ (E - 1) - 1) (hr:r≤I):pv F r < 2 ^ gK:=by
 obtain ⟨h1,h2⟩:=pv_inf h hB
 refine Nat.lt_of_le_of_lt (pv_le hr) ?_
 rw [h1]
 exact pow_lt h2
def spv (F:Nat) (s:Bool) (r:Nat):Int:=sv s (pv F r)
theorem grd_place {E F S I B G:Nat} (h:Fm E F S I) (hB:B = 2 ^ (E - 1) - 1) (hG:(G:Int) = (B:Int)+(F:Int) - 1) (s:Bool) {r:Nat} (hr:r < I) :
  ∃ (sa:Bool) (m:Nat) (x:Int),Vals E F (((if s then S else 0)+r:Nat):Int) sa m x∧Grd (-(G:Int)) gK sa m x (spv F s r)∧(0 < r→sa = s)∧(r = 0→sa = false):=by
 obtain ⟨sa,m,x,i,j,hV,hO,hi,hj,hq⟩:=value_place h hB hG s hr
 have hbd:=pv_bd h hB (Nat.le_of_lt hr)
 have hq1:=hq.eq
 rw [Nat.one_mul] at hq1
 have hpos:∀ k,0 < 2 ^ k:=fun k=>Nat.pow_pos (by omega)
 have key:-(G:Int)≤x∧m * 2 ^ (x - -(G:Int)).toNat = pv F r:=by
  rcases hO with ⟨h0,-,hx⟩|⟨ho,-⟩
  ·subst h0; subst hx
   rw [Nat.zero_mul,Nat.zero_mul] at hq1
   refine ⟨by omega,?_⟩
   rw [Nat.zero_mul]
   rcases Nat.mul_eq_zero.1 hq1.symm with e|e
   ·exact e.symm
   ·have:=hpos j; omega
  ·by_cases hx:0≤x
   ·have ei:x = (i:Int):=by omega
    have ej:j = 0:=by omega
    subst ej
    rw [Nat.pow_zero,Nat.mul_one] at hq1
    refine ⟨by omega,?_⟩
    rw [show (x - -(G:Int)).toNat = i+G by omega,Nat.pow_add,← Nat.mul_assoc,hq1]
   ·have ei:i = 0:=by omega
    have ej:x = -(j:Int):=by omega
    subst ei
    rw [Nat.pow_zero,Nat.mul_one] at hq1
    have hjG:j≤G:=by
     refine Nat.le_of_not_lt fun hc=>?_
     rw [show j = (j - G - 1)+1+G by omega,Nat.pow_add,← Nat.mul_assoc] at hq1
     have:=Nat.eq_of_mul_eq_mul_right (hpos G) hq1
     rw [Nat.pow_succ,← Nat.mul_assoc] at this
     omega
    refine ⟨by omega,?_⟩
    rw [show (x - -(G:Int)).toNat = G - j by omega]
    rw [show G = (G - j)+j by omega,Nat.pow_add,← Nat.mul_assoc] at hq1
    have:=Nat.eq_of_mul_eq_mul_right (hpos j) hq1
    exact this
 have hm0:r = 0↔m = 0:=by
  have k2:=key.2
  constructor
  ·intro e
   subst e
   rw [pv_zero] at k2
   rcases Nat.mul_eq_zero.1 k2 with e|e
   ·exact e
   ·have:=hpos (x - -(G:Int)).toNat; omega
  ·intro e
   rw [e,Nat.zero_mul] at k2
   refine Nat.eq_zero_of_not_pos fun hc=>?_
   have:=pv_lt (F:=F) hc
   omega
 have hsg:m≠0→sa = s:=fun e=>by
  have:=hq.sg
  have hp:0 < m * 2 ^ i:=Nat.mul_pos (Nat.pos_of_ne_zero e) (hpos i)
  revert this
  generalize m * 2 ^ i = v at hp
  intro this
  cases sa <;> cases s <;> first|rfl|(unfold Rm.sgn at this; simp at this; omega)
 refine ⟨sa,m,x,hV,⟨hO,key.1,?_,by rw [key.2]; exact hbd⟩,fun e=>hsg fun c=>by have:=hm0.2 c; omega,fun e=>?_⟩
 ·rw [key.2]
  unfold spv
  by_cases e:m = 0
  ·rw [hm0.2 e,pv_zero]; cases sa <;> cases s <;> rfl
  ·rw [hsg e]
 ·rcases hO with ⟨-,e1,-⟩|⟨ho,-⟩
  ·exact e1
  ·have:=hm0.1 e; omega
theorem grd_inf {E F S I B G:Nat} (h:Fm E F S I) (hB:B = 2 ^ (E - 1) - 1) (hG:(G:Int) = (B:Int)+(F:Int) - 1) (s:Bool):Grd (-(G:Int)) gK s 1 ((B:Int)+1) (spv F s I):=by
 obtain ⟨h1,h2⟩:=pv_inf h hB
 have hE:=h.fo.e2
 have h4:2 ^ 1≤2 ^ (E - 1):=Nat.pow_le_pow_right (by omega) (by omega)
 have hE1:=h.fo.e11
 have h5:2 ^ (E - 1)≤2 ^ 10:=Nat.pow_le_pow_right (by omega) (by omega)
 have e:(1:Nat) * 2 ^ ((B:Int)+1 - -(G:Int)).toNat = pv F I:=by
  rw [h1,Nat.one_mul,show ((B:Int)+1 - -(G:Int)).toNat = F+2 * B by omega]
 refine ⟨Or.inr ⟨by decide,by omega,by omega⟩,by omega,by rw [e]; rfl,by rw [e]; exact pv_bd h hB (Nat.le_refl _)⟩
theorem bord_grd {L:Int} {s s':Bool} {m m':Nat} {x x' g g':Int} (hL:-100000≤L) (hL0:L≤0) {md:Nat} (hm:md≤4) (h:Grd L gK s m x g) (h':Grd L gK s' m' x' g') :
  ∃ r v y,Bord md s m x s' m' x' r v y∧Grd (L - 1) (gK+3) r v y (if md≤1 then g+g' else if md = 4∨(md = 2∧s = false) then 2 * g' else 2 * g):=by
 by_cases h1:md≤1
 ·obtain ⟨q,v,y,hS,hO,hy,hv,hs⟩:=add_inM L gK h.ok h'.ok (by omega) hL0 (by decide) h.lo h'.lo h.bd h'.bd
  obtain ⟨q2,v2,y2,hP,hO2,hy2,hv2,hs2⟩:=mul_inM (s':=false) (m':=1) (x':=-1) L (-1) (gK+1) 1 hO (Or.inr ⟨by decide,by decide,by decide⟩) hL hL0 (by decide) (by decide) (by decide) (by decide) hy (by decide) hv (by decide)
  refine ⟨q2,v2,y2,Or.inl ⟨h1,q,v,y,hS,hP⟩,hO2,by omega,?_,?_⟩
  ·rw [if_pos h1,show L - 1 = L+-1 by omega,hs2,hs,h.val,h'.val]
   show (g+g') * 1 = g+g'
   omega
  ·rw [show L - 1 = L+-1 by omega]
   exact Nat.lt_of_lt_of_le hv2 (Nat.pow_le_pow_right (by omega) (by omega))
 ·by_cases h2:md = 4∨(md = 2∧s = false)
  ·exact ⟨s',m',x',Or.inr (Or.inl ⟨h2,rfl,rfl,rfl⟩),by rw [if_neg h1,if_pos h2]; exact h'.up.more (by omega)⟩
  ·refine ⟨s,m,x,Or.inr (Or.inr ⟨?_,rfl,rfl,rfl⟩),by rw [if_neg h1,if_neg h2]; exact h.up.more (by omega)⟩
   cases s <;> simp at h2 ⊢ <;> omega
theorem bord_val {md:Nat} (hm:md≤4) (F k:Nat) :
  (if md≤1 then spv F false k+spv F false (k+1) else if md = 4∨(md = 2∧false = false) then 2 * spv F false (k+1) else 2 * spv F false k) = (bdm md false F k:Int) ∧
  (if md≤1 then spv F true (k+1)+spv F true k else if md = 4∨(md = 2∧true = false) then 2 * spv F true k else 2 * spv F true (k+1)) = -(bdm md true F k:Int):=by
 unfold bdm spv sv
 rcases (show md = 0∨md = 1∨md = 2∨md = 3∨md = 4 by omega) with rfl|rfl|rfl|rfl|rfl <;> simp [fth] <;> omega
theorem Grd.ratio {L:Int} {K G:Nat} {s:Bool} {m:Nat} {x g:Int} (h:Grd L K s m x g) (hL:L = -((G+1:Nat):Int)) (hK:K≤3000) (hG:G≤3000) :
  ∃ n d:Nat,0 < d∧Nat.gcd n d = 1∧(s = true→0 < n)∧Rm.sgn s n * ((2 ^ (G+1):Nat):Int) = g * (d:Int)∧n < 2 ^ gKn∧d < 2 ^ gKn∧(n = 0↔m = 0) ∧
   (∀ (W:World) (A:Option Addr) (N C:Nat),Num W A N m→Calls Tryz.prog 24 #[.agg #[.bool s,.slice A N C,.int .i64 x]] W fun e w'=>(∃ A N C A' N' C',e = .returned (.tuple #[.agg #[.bool s,.slice A N C,.slice A' N' C'],.int .i64 0])∧Mine w' W.heap.size A N C n∧Mine w' W.heap.size A' N' C' d)∧Below W.heap.size W w') ∧
   ∃ i j:Nat,n = m * 2 ^ i∧d = 2 ^ j∧x = (i:Int) - (j:Int):=by
 have hpos:∀ k,0 < 2 ^ k:=fun k=>Nat.pow_pos (by omega)
 obtain ⟨i,hi⟩:∃ i:Nat,max x 0 = (i:Int):=⟨(max x 0).toNat,by omega⟩
 obtain ⟨j,hj⟩:∃ j:Nat,max (-x) 0 = (j:Int):=⟨(max (-x) 0).toNat,by omega⟩
 have hlo:=h.lo
 have hbd:=h.bd
 have hjG:j≤G+1:=by omega
 have e1:m * 2 ^ i * 2 ^ (G+1) = m * 2 ^ (x - L).toNat * 2 ^ j:=by
  rw [Nat.mul_assoc,← Nat.pow_add,Nat.mul_assoc,← Nat.pow_add]
  congr 2
  omega
 have b1:m * 2 ^ i < 2 ^ gKn:=by
  have:m * 2 ^ i≤m * 2 ^ (x - L).toNat:=Nat.mul_le_mul_left _ (Nat.pow_le_pow_right (by omega) (by omega))
  exact Nat.lt_of_le_of_lt this (Nat.lt_of_lt_of_le hbd (Nat.pow_le_pow_right (by omega) (Nat.le_trans hK (by decide))))
 have b2:1 * 2 ^ j < 2 ^ gKn:=by rw [Nat.one_mul]; exact pow_lt (by unfold gKn; omega)
 refine ⟨m * 2 ^ i,1 * 2 ^ j,by rw [Nat.one_mul]; exact hpos j,?_,?_,?_,b1,b2,?_,fun W A N C g1=>nratio_ok h.ok hi hj (not_over b1 (by decide)) (not_over b2 (by decide)) W A N C g1,i,j,rfl,Nat.one_mul _,by omega⟩
 ·rw [Nat.one_mul]
  rcases h.ok with ⟨h0,-,hx⟩|⟨ho,-⟩
  ·have:j = 0:=by omega
   rw [this,Nat.pow_zero]; exact Nat.gcd_one_right _
  ·rcases Nat.eq_zero_or_pos j with q|q
   ·rw [q,Nat.pow_zero]; exact Nat.gcd_one_right _
   ·have:i = 0:=by omega
    rw [this,Nat.pow_zero,Nat.mul_one]; exact two_coprime ho
 ·intro e
  rcases h.ok with ⟨-,hs,-⟩|⟨ho,-⟩
  ·rw [hs] at e; cases e
  ·exact Nat.mul_pos (by omega) (hpos i)
 ·rw [← Rm.sgn_scale,e1,Rm.sgn_scale,← h.val,Nat.one_mul]
  rfl
 ·constructor
  ·intro e
   rcases Nat.mul_eq_zero.1 e with q|q
   ·exact q
   ·have:=hpos i; omega
  ·intro e; rw [e,Nat.zero_mul]
theorem goes_bits {E F S I B:Nat} (h:Fm E F S I) (md:Nat) (s ng:Bool) (M K:Nat) (X:Int) {r:Nat} (hr:r < I) :
  (bitsR S I md s (rowR B F md s M K X) = (if ng then S else 0)+r∧bits BinOp.and .u8 (flagR B F I md s M K X:Int) 2 = 0)↔(s = ng∧rowR B F md s M K X = r):=by
 have hlt:=h.lt
 obtain ⟨row,hrow⟩:∃ row,row = rowR B F md s M K X:=⟨_,rfl⟩
 unfold bitsR flagR
 rw [← hrow]
 by_cases h1:row < I
 ·have h2:¬ I≤row:=by omega
  have hfl:bits BinOp.and .u8 ((if lastP B F K X≤X then 0 else if freeR F md s M K X < 1 - (B:Int) then 5 else 1:Nat):Int) 2 = 0:=by
   split
   ·decide
   ·split <;> decide
  simp only [if_pos h1,if_neg h2]
  rw [hfl]
  cases s <;> cases ng <;> simp <;> omega
 ·have h2:I≤row:=by omega
  have hfl:bits BinOp.and .u8 ((3:Nat):Int) 2 = 2:=by decide
  simp only [if_neg h1,if_pos h2]
  rw [hfl]
  constructor
  ·rintro ⟨-,e⟩; exact absurd e (by decide)
  ·rintro ⟨-,e⟩; omega
theorem Plc.goes {E F S I B G p d M K:Nat} {X:Int} {r0 ρ w:Nat} (h:Fm E F S I) (hP:Plc p d B F G M K X r0 ρ w) (hd:0 < d) (hp:0 < p) (md:Nat) (s ng:Bool) {r:Nat} (hr:r < I) :
  (bitsR S I md s (rowR B F md s M K X) = (if ng then S else 0)+r∧bits BinOp.and .u8 (flagR B F I md s M K X:Int) 2 = 0)↔GoTo md ng F r G s p d:=by
 rw [goes_bits h md s ng M K X hr]
 unfold GoTo
 constructor
 ·rintro ⟨rfl,e⟩
  exact ⟨Or.inl rfl,by rw [← e]; exact hP.rin hd md s⟩
 ·rintro ⟨e|e,g⟩
  ·subst e
   exact ⟨rfl,Rin.uniq hd (hP.rin hd md s) g⟩
  ·omega
theorem zero_goes {F S:Nat} (md:Nat) (s ng:Bool) (G:Nat) {d r:Nat} (hd:0 < d) :
  ((if ng then S else 0) = (if ng then S else 0)+r∧bits BinOp.and .u8 ((0:Nat):Int) 2 = 0)↔GoTo md ng F r G s 0 d:=by
 have h2:bits BinOp.and .u8 ((0:Nat):Int) 2 = 0:=by decide
 unfold GoTo
 rw [Nat.zero_mul,Nat.mul_zero]
 constructor
 ·rintro ⟨e,-⟩
  obtain rfl:r = 0:=by omega
  exact ⟨Or.inr rfl,rin_zero md ng F hd⟩
 ·rintro ⟨-,g⟩
  have:=Rin.uniq hd (rin_zero md ng F hd) g
  exact ⟨by omega,h2⟩
theorem rounded_zz {E F S I md:Nat} (h:Fm E F S I) (ng:Bool) (W:World) (B9:Nat) (A:Option Addr) (N C:Nat) (g:Mine W B9 A N C 0) :
  Calls Tryz.prog 108 #[.agg #[.int .i64 E,.int .i64 F],.agg #[.bool false,.slice A N C,.int .i64 0],.bool ng,.int .u8 (md:Int)] W fun e w'=>e = .returned (.tuple #[.int .u64 ((if ng then S else 0:Nat):Int),.int .u8 ((0:Nat):Int),.int .i64 0])∧Below W.heap.size W w':=by
 obtain rfl:=g.num.zero.2 rfl
 exact rounded_nought E F _ md ng h.fo A C W ⟨pow_pos2 _,pow_pos2 _,by rw [← h.hS]; cases ng <;> simp⟩
theorem dyadic_goes {E F S I B G:Nat} (h:Fm E F S I) (hB:B = 2 ^ (E - 1) - 1) (hG:(G:Int) = (B:Int)+(F:Int) - 1) {md:Nat} (hm:md≤4) (ng:Bool) {s:Bool} {m:Nat} {x:Int} (hO:OkD s m x) {i j:Nat} (hx:x = (i:Int) - (j:Int)) :
  ∃ bt fl:Nat,(∀ (W:World) (Bs:Nat) (a:Option Addr) (n c:Nat),Mine W Bs a n c m→Calls Tryz.prog 65 #[.agg #[.int .i64 (E:Int),.int .i64 (F:Int)],.agg #[.bool s,.slice a n c,.int .i64 x],.bool ng,.int .u8 (md:Int)] W fun e w'=>e = .returned (.tuple #[.int .u64 (bt:Int),.int .u8 (fl:Int),.int .i64 0])∧Below W.heap.size W w') ∧
   ∀ r,r < I→((bt = (if ng then S else 0)+r∧bits BinOp.and .u8 (fl:Int) 2 = 0)↔GoTo md ng F r G s (m * 2 ^ i) (2 ^ j)):=by
 have hd:0 < 2 ^ j:=Nat.pow_pos (by omega)
 rcases Nat.eq_zero_or_pos m with h0|h0
 ·rcases hO with ⟨-,hs,hx0⟩|⟨ho,-⟩
  ·subst h0; subst hs; subst hx0
   refine ⟨if ng then S else 0,0,fun W Bs a n c g=>?_,fun r _=>by rw [Nat.zero_mul]; exact zero_goes md false ng G hd⟩
   exact rdyadic_is E F md h.fo hm false a n c 0 0 ng _ _ W Bs g (hide fun W g=>dcheck_dy false a n c 0 0 W ⟨g,Or.inl ⟨rfl,rfl,rfl⟩⟩) (hide fun W g=>rounded_zz h ng W Bs a n c g)
  ·omega
 ·have hA:m % 2 = 1∧-1073741824≤x∧x≤1073741824:=by
   rcases hO with ⟨e,-⟩|e
   ·omega
   ·exact e
  obtain ⟨r0,ρ,w,hP⟩:=std_place (std_dy (c:=65) (K:=blen m) (by decide) hA.1 (bl_blen m) hx) (B:=B) h.fo.f52 h.fo.f1 hG
  exact ⟨_,_,fun W Bs a n c g=>rdyadic_any h hB hm ng s a n c m (blen m) x W Bs g hA (bl_blen m),fun r hr=>hP.goes h hd (Nat.mul_pos h0 (Nat.pow_pos (by omega))) md s ng hr⟩
theorem has_any {E F S I B G:Nat} (h:Fm E F S I) (hB:B = 2 ^ (E - 1) - 1) (hG:(G:Int) = (B:Int)+(F:Int) - 1) {md:Nat} (hm:md≤4) (t:Bool) {r:Nat} (hr:r < I) {s:Bool} {m:Nat} {x:Int} (hO:OkD s m x) {i j:Nat} (hx:x = (i:Int) - (j:Int)) (q:Bool) (hq:GoTo md t F r G s (m * 2 ^ i) (2 ^ j)↔q = true)
  (er:Int) (W:World) (p:Nat) (a:Option Addr) (n c:Nat) (hp:W.heap[p]? = some (.cells #[.int .i64 (E:Int),.int .i64 (F:Int),.int .u64 (((if t then S else 0)+r:Nat):Int),.int .u8 (md:Int),.int .i64 er] 67 (0,0))) (g:Mine W 0 a n c m) :
  Calls Tryz.prog 25 #[.pointer (some ⟨p,0,none⟩),.agg #[.bool s,.slice a n c,.int .i64 x]] W fun e W'=>e = .returned (.bool q)∧Below W.heap.size W W':=by
 have hlt:=h.lt
 obtain ⟨bt,fl,hD,hI⟩:=dyadic_goes h hB hG hm t hO hx
 have hs:decide ((((if t then S else 0)+r:Nat):Int) ≥ (S:Int)) = t:=by
  cases t
  ·exact decide_eq_false (by simp; omega)
  ·exact decide_eq_true (by simp; omega)
 have HB:=hide fun (W:World)=>signBit_is E F S h.fo (hide h.hS) W
 have HD:Hid (∀ W':World,Below W.heap.size W W'→Calls Tryz.prog 65 #[.agg #[.int .i64 (E:Int),.int .i64 (F:Int)],.agg #[.bool s,.slice a n c,.int .i64 x],.bool t,.int .u8 (md:Int)] W' fun e W2=>e = .returned (.tuple #[.int .u64 (bt:Int),.int .u8 (fl:Int),.int .i64 0])∧Below W'.heap.size W' W2):=hide fun W' hb=>hD W' 0 a n c (g.kept hb)
 have hI2:=(hI r hr).trans hq
 by_cases he:bt = (if t then S else 0)+r
 ·by_cases ho:bits BinOp.and .u8 (fl:Int) 2 = 0
  ·rw [hI2.1 ⟨he,ho⟩]
   exact rhas_t W _ _ _ _ _ p s a n c x t _ _ _ hp hs HB HD (by rw [he]) ho
  ·have:q = false:=by
    cases q
    ·rfl
    ·exact absurd (hI2.2 rfl).2 ho
   rw [this]
   exact rhas_o W _ _ _ _ _ p s a n c x t _ _ _ _ hp hs HB HD (by rw [he]) rfl ho
 ·have:q = false:=by
   cases q
   ·rfl
   ·exact absurd (hI2.2 rfl).1 he
  rw [this]
  exact rhas_n W _ _ _ _ _ p s a n c x t _ _ _ hp hs HB HD (by omega)
def cRea (sl sh li hi:Bool) (nl dl nh dh:Nat):Cf:=.pl (fun q=>.tuple #[.agg #[.bool sl,(.slice q.A q.N q.C),(.slice q.A' q.N' q.C')],.agg #[.bool sh,(.slice q.A2 q.N2 q.C2),(.slice q.A3 q.N3 q.C3)],.bool li,.bool hi,.int .i64 0]) (fun q W=>Num W q.A q.N nl∧Num W q.A' q.N' dl∧Num W q.A2 q.N2 nh∧Num W q.A3 q.N3 dh) (fun _=>sta_and (sta_num _ _ _) (sta_and (sta_num _ _ _) (sta_and (sta_num _ _ _) (sta_num _ _ _))))
def Rea (E F b md:Int) (sl sh li hi:Bool) (nl dl nh dh:Nat):Prop:=∀ W:World,Tb W→Nb5 W→Calls Tryz.prog 6 #[.agg #[.int .i64 E,.int .i64 F],.int .u64 b,.int .u8 md] W fun en W'=>(∃ A N C A' N' C' A2 N2 C2 A3 N3 C3,en = .returned (.tuple #[.agg #[.bool sl,(.slice A N C),(.slice A' N' C')],.agg #[.bool sh,(.slice A2 N2 C2),(.slice A3 N3 C3)],.bool li,.bool hi,.int .i64 0])∧Num W' A N nl∧Num W' A' N' dl∧Num W' A2 N2 nh∧Num W' A3 N3 dh)∧Below W.heap.size W W'
theorem as_rea {E F b md:Int} {sl sh li hi:Bool} {nl dl nh dh:Nat} {W:World} (h:Rea E F b md sl sh li hi nl dl nh dh) (ht:Tb W) (hn:Nb5 W):Calls Tryz.prog 6 #[.agg #[.int .i64 E,.int .i64 F],.int .u64 b,.int .u8 md] W fun en W'=>∃ q,en = .returned ((cRea sl sh li hi nl dl nh dh).f q)∧Below W.heap.size W W'∧(cRea sl sh li hi nl dl nh dh).g q W':=
 (h W ht hn).mono fun _ _ ⟨⟨a,n,c,a',n',c',a2,n2,c2,a3,n3,c3,h1,k1,k2,k3,k4⟩,h2⟩=>⟨{ pq0 with A:=a,N:=n,C:=c,A':=a',N':=n',C':=c',A2:=a2,N2:=n2,C2:=c2,A3:=a3,N3:=n3,C3:=c3 },h1,h2,k1,k2,k3,k4⟩
theorem meet_e (w:World) (E F b md err:Int) (ht:Tb w) (hn:Nb5 w) (HA:Hid (∀ W:World,Tb W→Nb5 W→Calls Tryz.prog 5 #[] W fun e W'=>e = .returned (.bool true)∧Below W.heap.size W W')) (he:err≠0) (H1:Hid (∀ W:World,Tb W→Nb5 W→Calls Tryz.prog 6 #[.agg #[.int .i64 E,.int .i64 F],.int .u64 b,.int .u8 md] W fun e W'=>e = .returned (.tuple #[.agg #[.bool false,.slice none 0 0,.slice none 0 0],.agg #[.bool false,.slice none 0 0,.slice none 0 0],.bool false,.bool false,.int .i64 err])∧Below W.heap.size W W')) :
  Calls Tryz.prog 4 #[.agg #[.int .i64 E,.int .i64 F],.int .u64 b,.int .u8 md] w fun en w'=>en = .returned (.bool true)∧Below w.heap.size w w':=by
 refine calls_sym Tryz.func4 rfl (by kernel_rfl) fun T hK=>?_
 replace hK:Kn T _ [(0,.agg #[.int .i64 E,.int .i64 F]),(1,.int .u64 b),(2,.int .u8 md)]:=hK
 have hS:=Fb.begin w
 have hG:GsAt [] w:=trivial
 refine wq hS hG hK (fun p1=>[.n 3 #[.int .i64 E,.int .i64 F] 23,.v 6 (.bool false)]) (fun p1=>[(1,.int .u64 b),(2,.int .u8 md),(3,pT (p1 0).N 0),(6,.bool false)]) (fun p1=>?_) (fun p1 W1 T hF hK=>?_)
 ·refine okn ?_
  refine okv ?_
  exact ok_nil
 replace hS:=SymF.fc hS hF [1000] [⟨(p1 0).N,#[.int .i64 E,.int .i64 F],23,true⟩]
 replace hG:=hF.gx
 clear hF
 refine wq hS hG hK (fun p2=>[.c (some 24) (cV (.bool true)),.v 7 (.bool true)]) (fun p2=>[(1,.int .u64 b),(2,.int .u8 md),(3,pT (p1 0).N 0),(6,.bool false),(7,.bool true)]) (fun p2=>?_) (fun p2 W2 T hF hK=>?_)
 ·refine okc (fun W cx=>as_v (unhide HA _ (ht.kept cx.fr) (hn.kept cx.fr))) ?_
  refine okv ?_
  exact ok_nil
 obtain ⟨hS,hG⟩:=SymF.fg hS hF
 clear hF
 refine wp_seq ?_
 refine wq hS hG hK (fun p3=>[.v 25 (.bool true),.v 26 (.bool false)]) (fun p3=>[(1,.int .u64 b),(2,.int .u8 md),(3,pT (p1 0).N 0),(6,.bool false),(7,.bool true),(26,.bool false)]) (fun p3=>?_) (fun p3 W3 T hF hK=>?_)
 ·iterate 2 refine okv ?_
  exact ok_nil
 obtain ⟨hS,hG⟩:=SymF.fg hS hF
 clear hF
 refine wp_cond_false (hK.ew 26) (wp_skip (then_n ?_))
 refine wq hS hG hK (fun p4=>[.l 28 (.agg #[.int .i64 E,.int .i64 F]) 0 0,.v 29 (.int .u64 b),.v 30 (.int .u8 md),.c (some 31) (cV (.tuple #[.agg #[.bool false,.slice none 0 0,.slice none 0 0],.agg #[.bool false,.slice none 0 0,.slice none 0 0],.bool false,.bool false,.int .i64 err])),.v 27 (.tuple #[.agg #[.bool false,.slice none 0 0,.slice none 0 0],.agg #[.bool false,.slice none 0 0,.slice none 0 0],.bool false,.bool false,.int .i64 err]),.v 32 (.agg #[.bool false,.slice none 0 0,.slice none 0 0]),.v 33 (.agg #[.bool false,.slice none 0 0,.slice none 0 0]),.v 34 (.bool false),.v 35 (.bool false),.v 36 (.int .i64 err),.n 8 #[.bool false,.slice none 0 0,.slice none 0 0] 29,.n 9 #[.bool false,.slice none 0 0,.slice none 0 0] 29,.p 1010 0 [.bool false,.slice none 0 0,.slice none 0 0],.p 1011 0 [.bool false,.slice none 0 0,.slice none 0 0],.v 10 (.bool false),.v 11 (.bool false),.v 12 (.int .i64 err)]) (fun p4=>[(1,.int .u64 b),(2,.int .u8 md),(3,pT (p1 0).N 0),(6,.bool false),(7,.bool true),(9,pT (p4 11).N 0),(11,.bool false),(12,.int .i64 err)]) (fun p4=>?_) (fun p4 W4 T hF hK=>?_)
 ·refine okl ?_
  iterate 2 refine okv ?_
  refine okc (fun W cx=>as_v (unhide H1 _ (ht.kept cx.fr) (hn.kept cx.fr))) ?_
  iterate 6 refine okv ?_
  iterate 2 refine okn ?_
  iterate 2 refine okp ?_
  iterate 3 refine okv ?_
  exact ok_nil
 replace hS:=SymF.fc hS hF [0,1011] [⟨(p1 0).N,#[.int .i64 E,.int .i64 F],23,true⟩,⟨(p4 11).N,#[.bool false,.slice none 0 0,.slice none 0 0],29,true⟩]
 replace hG:=hF.gx
 clear hF
 refine wp_seq ?_
 refine wq hS hG hK (fun p5=>[.v 37 (.int .i64 err),.v 38 (.bool true)]) (fun p5=>[(1,.int .u64 b),(2,.int .u8 md),(3,pT (p1 0).N 0),(6,.bool false),(7,.bool true),(9,pT (p4 11).N 0),(11,.bool false),(12,.int .i64 err),(38,.bool true)]) (fun p5=>?_) (fun p5 W5 T hF hK=>?_)
 ·refine okv ?_
  refine okvb (bne_iff_ne.2 (show err≠0 by omega)) ?_
  exact ok_nil
 obtain ⟨hS,hG⟩:=SymF.fg hS hF
 clear hF
 refine wp_cond_true (hK.ew 38) ?_
 refine wq hS hG hK (fun p6=>[.v 39 (.bool true),.v 6 (.bool true)]) (fun p6=>[(1,.int .u64 b),(2,.int .u8 md),(3,pT (p1 0).N 0),(6,.bool true),(7,.bool true),(9,pT (p4 11).N 0),(11,.bool false),(12,.int .i64 err)]) (fun p6=>?_) (fun p6 W6 T hF hK=>?_)
 ·iterate 2 refine okv ?_
  exact ok_nil
 obtain ⟨hS,hG⟩:=SymF.fg hS hF
 clear hF
 refine wp_ret ?_
 refine then_r ?_
 exact sym_end hS hK (.bool true) [] [] (by kernel_rfl) (by kernel_rfl) ⟨rfl,hS.fr⟩
theorem meet_b (w:World) (E F b md up:Int) (sl sh li hi:Bool) (nl dl nh dh:Nat) (cc:Int) (ht:Tb w) (hn:Nb5 w) (HA:Hid (∀ W:World,Tb W→Nb5 W→Calls Tryz.prog 5 #[] W fun e W'=>e = .returned (.bool true)∧Below W.heap.size W W')) (H1:Hid (Rea E F b md sl sh li hi nl dl nh dh)) (HU:Hid (∀ W:World,Calls Tryz.prog 14 #[.agg #[.int .i64 E,.int .i64 F],.int .u64 b] W fun e W'=>e = .returned (.tuple #[.int .u64 up,.int .i64 0])∧Below W.heap.size W W')) (HC:Hid (∀ W:World,Calls Tryz.prog 15 #[.agg #[.int .i64 E,.int .i64 F],.int .u64 b] W fun e W'=>e = .returned (.tuple #[.int .u8 cc,.int .i64 0])∧Below W.heap.size W W')) (HD:Hid (∀ W:World,Calls Tryz.prog 15 #[.agg #[.int .i64 E,.int .i64 F],.int .u64 up] W fun e W'=>e = .returned (.tuple #[.int .u8 4,.int .i64 0])∧Below W.heap.size W W')) :
  Calls Tryz.prog 4 #[.agg #[.int .i64 E,.int .i64 F],.int .u64 b,.int .u8 md] w fun en w'=>en = .returned (.bool true)∧Below w.heap.size w w':=by
 refine calls_sym Tryz.func4 rfl (by kernel_rfl) fun T hK=>?_
 replace hK:Kn T _ [(0,.agg #[.int .i64 E,.int .i64 F]),(1,.int .u64 b),(2,.int .u8 md)]:=hK
 have hS:=Fb.begin w
 have hG:GsAt [] w:=trivial
 refine wq hS hG hK (fun p1=>[.n 3 #[.int .i64 E,.int .i64 F] 23,.v 6 (.bool false)]) (fun p1=>[(1,.int .u64 b),(2,.int .u8 md),(3,pT (p1 0).N 0),(6,.bool false)]) (fun p1=>?_) (fun p1 W1 T hF hK=>?_)
 ·refine okn ?_
  refine okv ?_
  exact ok_nil
 replace hS:=SymF.fc hS hF [1000] [⟨(p1 0).N,#[.int .i64 E,.int .i64 F],23,true⟩]
 replace hG:=hF.gx
 clear hF
 refine wq hS hG hK (fun p2=>[.c (some 24) (cV (.bool true)),.v 7 (.bool true)]) (fun p2=>[(1,.int .u64 b),(2,.int .u8 md),(3,pT (p1 0).N 0),(6,.bool false),(7,.bool true)]) (fun p2=>?_) (fun p2 W2 T hF hK=>?_)
 ·refine okc (fun W cx=>as_v (unhide HA _ (ht.kept cx.fr) (hn.kept cx.fr))) ?_
  refine okv ?_
  exact ok_nil
 obtain ⟨hS,hG⟩:=SymF.fg hS hF
 clear hF
 refine wp_seq ?_
 refine wq hS hG hK (fun p3=>[.v 25 (.bool true),.v 26 (.bool false)]) (fun p3=>[(1,.int .u64 b),(2,.int .u8 md),(3,pT (p1 0).N 0),(6,.bool false),(7,.bool true),(26,.bool false)]) (fun p3=>?_) (fun p3 W3 T hF hK=>?_)
 ·iterate 2 refine okv ?_
  exact ok_nil
 obtain ⟨hS,hG⟩:=SymF.fg hS hF
 clear hF
 refine wp_cond_false (hK.ew 26) (wp_skip (then_n ?_))
 refine wq hS hG hK (fun p4=>[.l 28 (.agg #[.int .i64 E,.int .i64 F]) 0 0,.v 29 (.int .u64 b),.v 30 (.int .u8 md),.c (some 31) (cRea sl sh li hi nl dl nh dh),.v 27 (.tuple #[.agg #[.bool sl,.slice (p4 3).A (p4 3).N (p4 3).C,.slice (p4 3).A' (p4 3).N' (p4 3).C'],.agg #[.bool sh,.slice (p4 3).A2 (p4 3).N2 (p4 3).C2,.slice (p4 3).A3 (p4 3).N3 (p4 3).C3],.bool li,.bool hi,.int .i64 0]),.v 32 (.agg #[.bool sl,.slice (p4 3).A (p4 3).N (p4 3).C,.slice (p4 3).A' (p4 3).N' (p4 3).C']),.v 33 (.agg #[.bool sh,.slice (p4 3).A2 (p4 3).N2 (p4 3).C2,.slice (p4 3).A3 (p4 3).N3 (p4 3).C3]),.v 34 (.bool li),.v 35 (.bool hi),.v 36 (.int .i64 0),.n 8 #[.bool false,.slice none 0 0,.slice none 0 0] 29,.n 9 #[.bool false,.slice none 0 0,.slice none 0 0] 29,.p 1010 0 [.bool sl,.slice (p4 3).A (p4 3).N (p4 3).C,.slice (p4 3).A' (p4 3).N' (p4 3).C'],.p 1011 0 [.bool sh,.slice (p4 3).A2 (p4 3).N2 (p4 3).C2,.slice (p4 3).A3 (p4 3).N3 (p4 3).C3],.v 10 (.bool li),.v 11 (.bool hi),.v 12 (.int .i64 0)]) (fun p4=>[(1,.int .u64 b),(2,.int .u8 md),(3,pT (p1 0).N 0),(6,.bool false),(7,.bool true),(9,pT (p4 11).N 0),(11,.bool hi),(12,.int .i64 0)]) (fun p4=>?_) (fun p4 W4 T hF hK=>?_)
 ·refine okl ?_
  iterate 2 refine okv ?_
  refine okc (fun W cx=>as_rea (unhide H1) (ht.kept cx.fr) (hn.kept cx.fr)) ?_
  iterate 6 refine okv ?_
  iterate 2 refine okn ?_
  iterate 2 refine okp ?_
  iterate 3 refine okv ?_
  exact ok_nil
 replace hS:=SymF.fc hS hF [0,1011] [⟨(p1 0).N,#[.int .i64 E,.int .i64 F],23,true⟩,⟨(p4 11).N,#[.bool sh,.slice (p4 3).A2 (p4 3).N2 (p4 3).C2,.slice (p4 3).A3 (p4 3).N3 (p4 3).C3],29,true⟩]
 replace hG:GsAt (gN (p4 3).A (p4 3).N nl :: gN (p4 3).A' (p4 3).N' dl :: gN (p4 3).A2 (p4 3).N2 nh :: gN (p4 3).A3 (p4 3).N3 dh :: _) W4:=⟨(hF.fx 3).1,(hF.fx 3).2.1,(hF.fx 3).2.2.1,(hF.fx 3).2.2.2,hF.gx⟩
 clear hF
 refine wp_seq ?_
 refine wq hS hG hK (fun p5=>[.v 37 (.int .i64 0),.v 38 (.bool false)]) (fun p5=>[(1,.int .u64 b),(2,.int .u8 md),(3,pT (p1 0).N 0),(6,.bool false),(7,.bool true),(9,pT (p4 11).N 0),(11,.bool hi),(12,.int .i64 0),(38,.bool false)]) (fun p5=>?_) (fun p5 W5 T hF hK=>?_)
 ·iterate 2 refine okv ?_
  exact ok_nil
 obtain ⟨hS,hG⟩:=SymF.fg hS hF
 clear hF
 refine wp_cond_false (hK.ew 38) (wp_skip (then_n ?_))
 refine wq hS hG hK (fun p6=>[.l 41 (.agg #[.int .i64 E,.int .i64 F]) 0 0,.v 42 (.int .u64 b),.c (some 43) (cV (.tuple #[.int .u64 up,.int .i64 0])),.v 40 (.tuple #[.int .u64 up,.int .i64 0]),.v 44 (.int .u64 up),.v 45 (.int .i64 0),.v 13 (.int .u64 up),.v 12 (.int .i64 0)]) (fun p6=>[(1,.int .u64 b),(2,.int .u8 md),(3,pT (p1 0).N 0),(6,.bool false),(7,.bool true),(9,pT (p4 11).N 0),(11,.bool hi),(12,.int .i64 0),(13,.int .u64 up)]) (fun p6=>?_) (fun p6 W6 T hF hK=>?_)
 ·refine okl ?_
  refine okv ?_
  refine okc (fun W cx=>as_v (unhide HU _)) ?_
  iterate 5 refine okv ?_
  exact ok_nil
 obtain ⟨hS,hG⟩:=SymF.fg hS hF
 clear hF
 refine wp_seq ?_
 refine wq hS hG hK (fun p7=>[.v 46 (.int .i64 0),.v 47 (.bool false)]) (fun p7=>[(1,.int .u64 b),(2,.int .u8 md),(3,pT (p1 0).N 0),(6,.bool false),(7,.bool true),(9,pT (p4 11).N 0),(11,.bool hi),(12,.int .i64 0),(13,.int .u64 up),(47,.bool false)]) (fun p7=>?_) (fun p7 W7 T hF hK=>?_)
 ·iterate 2 refine okv ?_
  exact ok_nil
 obtain ⟨hS,hG⟩:=SymF.fg hS hF
 clear hF
 refine wp_cond_false (hK.ew 47) (wp_skip (then_n ?_))
 refine wq hS hG hK (fun p8=>[.l 49 (.agg #[.int .i64 E,.int .i64 F]) 0 0,.v 50 (.int .u64 b),.c (some 51) (cV (.tuple #[.int .u8 cc,.int .i64 0])),.v 48 (.tuple #[.int .u8 cc,.int .i64 0]),.v 52 (.int .u8 cc),.v 53 (.int .i64 0),.v 14 (.int .u8 cc),.v 12 (.int .i64 0)]) (fun p8=>[(1,.int .u64 b),(2,.int .u8 md),(3,pT (p1 0).N 0),(6,.bool false),(7,.bool true),(9,pT (p4 11).N 0),(11,.bool hi),(12,.int .i64 0),(13,.int .u64 up),(14,.int .u8 cc)]) (fun p8=>?_) (fun p8 W8 T hF hK=>?_)
 ·refine okl ?_
  refine okv ?_
  refine okc (fun W cx=>as_v (unhide HC _)) ?_
  iterate 5 refine okv ?_
  exact ok_nil
 obtain ⟨hS,hG⟩:=SymF.fg hS hF
 clear hF
 refine wq hS hG hK (fun p9=>[.l 55 (.agg #[.int .i64 E,.int .i64 F]) 0 0,.v 56 (.int .u64 up),.c (some 57) (cV (.tuple #[.int .u8 4,.int .i64 0])),.v 54 (.tuple #[.int .u8 4,.int .i64 0]),.v 58 (.int .u8 4),.v 59 (.int .i64 0),.v 15 (.int .u8 4),.v 16 (.int .i64 0)]) (fun p9=>[(1,.int .u64 b),(2,.int .u8 md),(3,pT (p1 0).N 0),(6,.bool false),(7,.bool true),(9,pT (p4 11).N 0),(11,.bool hi),(12,.int .i64 0),(13,.int .u64 up),(14,.int .u8 cc),(15,.int .u8 4),(16,.int .i64 0)]) (fun p9=>?_) (fun p9 W9 T hF hK=>?_)
 ·refine okl ?_
  refine okv ?_
  refine okc (fun W cx=>as_v (unhide HD _)) ?_
  iterate 5 refine okv ?_
  exact ok_nil
 obtain ⟨hS,hG⟩:=SymF.fg hS hF
 clear hF
 refine wp_seq ?_
 refine wq hS hG hK (fun p10=>[.v 60 (.int .i64 0),.v 61 (.bool false),.v 62 (.bool false),.v 63 (.int .i64 0),.v 64 (.bool false),.v 65 (.bool false)]) (fun p10=>[(1,.int .u64 b),(2,.int .u8 md),(3,pT (p1 0).N 0),(6,.bool false),(7,.bool true),(9,pT (p4 11).N 0),(11,.bool hi),(12,.int .i64 0),(13,.int .u64 up),(14,.int .u8 cc),(15,.int .u8 4),(16,.int .i64 0),(65,.bool false)]) (fun p10=>?_) (fun p10 W10 T hF hK=>?_)
 ·iterate 6 refine okv ?_
  exact ok_nil
 obtain ⟨hS,hG⟩:=SymF.fg hS hF
 clear hF
 refine wp_cond_false (hK.ew 65) (wp_skip ?_)
 refine then_n (wp_seq ?_)
 refine wq hS hG hK (fun p11=>[.v 66 (.int .u8 4),.v 67 (.bool true)]) (fun p11=>[(1,.int .u64 b),(2,.int .u8 md),(3,pT (p1 0).N 0),(6,.bool false),(7,.bool true),(9,pT (p4 11).N 0),(11,.bool hi),(12,.int .i64 0),(13,.int .u64 up),(14,.int .u8 cc),(15,.int .u8 4),(16,.int .i64 0),(67,.bool true)]) (fun p11=>?_) (fun p11 W11 T hF hK=>?_)
 ·iterate 2 refine okv ?_
  exact ok_nil
 obtain ⟨hS,hG⟩:=SymF.fg hS hF
 clear hF
 refine wp_cond_true (hK.ew 67) ?_
 refine wq hS hG hK (fun p12=>[.v 68 (.bool true),.v 6 (.bool true)]) (fun p12=>[(1,.int .u64 b),(2,.int .u8 md),(3,pT (p1 0).N 0),(6,.bool true),(7,.bool true),(9,pT (p4 11).N 0),(11,.bool hi),(12,.int .i64 0),(13,.int .u64 up),(14,.int .u8 cc),(15,.int .u8 4),(16,.int .i64 0)]) (fun p12=>?_) (fun p12 W12 T hF hK=>?_)
 ·iterate 2 refine okv ?_
  exact ok_nil
 obtain ⟨hS,hG⟩:=SymF.fg hS hF
 clear hF
 refine wp_ret ?_
 refine then_r ?_
 exact sym_end hS hK (.bool true) [] [] (by kernel_rfl) (by kernel_rfl) ⟨rfl,hS.fr⟩
theorem meet_n (w:World) (E F b md up:Int) (sl sh li hi:Bool) (nl dl nh dh:Nat) (sl2 sh2 li2 hi2:Bool) (nl2 dl2 nh2 dh2:Nat) (cc cd:Int) (ht:Tb w) (hn:Nb5 w) (HA:Hid (∀ W:World,Tb W→Nb5 W→Calls Tryz.prog 5 #[] W fun e W'=>e = .returned (.bool true)∧Below W.heap.size W W')) (H1:Hid (Rea E F b md sl sh li hi nl dl nh dh)) (HU:Hid (∀ W:World,Calls Tryz.prog 14 #[.agg #[.int .i64 E,.int .i64 F],.int .u64 b] W fun e W'=>e = .returned (.tuple #[.int .u64 up,.int .i64 0])∧Below W.heap.size W W')) (HC:Hid (∀ W:World,Calls Tryz.prog 15 #[.agg #[.int .i64 E,.int .i64 F],.int .u64 b] W fun e W'=>e = .returned (.tuple #[.int .u8 cc,.int .i64 0])∧Below W.heap.size W W')) (HD:Hid (∀ W:World,Calls Tryz.prog 15 #[.agg #[.int .i64 E,.int .i64 F],.int .u64 up] W fun e W'=>e = .returned (.tuple #[.int .u8 cd,.int .i64 0])∧Below W.heap.size W W')) (H2:Hid (Rea E F up md sl2 sh2 li2 hi2 nl2 dl2 nh2 dh2)) (HM:Hid (∀ (W:World) (a:Option Addr) (n c:Nat) (b:Option Addr) (k l:Nat) (a':Option Addr) (n' c':Nat) (b':Option Addr) (k' l':Nat),Num W a n nl2→Num W b k dl2→Num W a' n' nh→Num W b' k' dh→Calls Tryz.prog 11 #[.agg #[.bool sl2,.slice a n c,.slice b k l],.agg #[.bool sh,.slice a' n' c',.slice b' k' l']] W fun e W'=>e = .returned (.tuple #[.int .i64 0,.int .i64 0])∧Below W.heap.size W W')) (hx:(hi != li2) = true) (h1:cc≠1) (h2:cd≠1) (h3:cd≠4) :
  Calls Tryz.prog 4 #[.agg #[.int .i64 E,.int .i64 F],.int .u64 b,.int .u8 md] w fun en w'=>en = .returned (.bool true)∧Below w.heap.size w w':=by
 refine calls_sym Tryz.func4 rfl (by kernel_rfl) fun T hK=>?_
 replace hK:Kn T _ [(0,.agg #[.int .i64 E,.int .i64 F]),(1,.int .u64 b),(2,.int .u8 md)]:=hK
 have hS:=Fb.begin w
 have hG:GsAt [] w:=trivial
 refine wq hS hG hK (fun p1=>[.n 3 #[.int .i64 E,.int .i64 F] 23,.v 6 (.bool false)]) (fun p1=>[(1,.int .u64 b),(2,.int .u8 md),(3,pT (p1 0).N 0),(6,.bool false)]) (fun p1=>?_) (fun p1 W1 T hF hK=>?_)
 ·refine okn ?_
  refine okv ?_
  exact ok_nil
 replace hS:=SymF.fc hS hF [1000] [⟨(p1 0).N,#[.int .i64 E,.int .i64 F],23,true⟩]
 replace hG:=hF.gx
 clear hF
 refine wq hS hG hK (fun p2=>[.c (some 24) (cV (.bool true)),.v 7 (.bool true)]) (fun p2=>[(1,.int .u64 b),(2,.int .u8 md),(3,pT (p1 0).N 0),(6,.bool false),(7,.bool true)]) (fun p2=>?_) (fun p2 W2 T hF hK=>?_)
 ·refine okc (fun W cx=>as_v (unhide HA _ (ht.kept cx.fr) (hn.kept cx.fr))) ?_
  refine okv ?_
  exact ok_nil
 obtain ⟨hS,hG⟩:=SymF.fg hS hF
 clear hF
 refine wp_seq ?_
 refine wq hS hG hK (fun p3=>[.v 25 (.bool true),.v 26 (.bool false)]) (fun p3=>[(1,.int .u64 b),(2,.int .u8 md),(3,pT (p1 0).N 0),(6,.bool false),(7,.bool true),(26,.bool false)]) (fun p3=>?_) (fun p3 W3 T hF hK=>?_)
 ·iterate 2 refine okv ?_
  exact ok_nil
 obtain ⟨hS,hG⟩:=SymF.fg hS hF
 clear hF
 refine wp_cond_false (hK.ew 26) (wp_skip (then_n ?_))
 refine wq hS hG hK (fun p4=>[.l 28 (.agg #[.int .i64 E,.int .i64 F]) 0 0,.v 29 (.int .u64 b),.v 30 (.int .u8 md),.c (some 31) (cRea sl sh li hi nl dl nh dh),.v 27 (.tuple #[.agg #[.bool sl,.slice (p4 3).A (p4 3).N (p4 3).C,.slice (p4 3).A' (p4 3).N' (p4 3).C'],.agg #[.bool sh,.slice (p4 3).A2 (p4 3).N2 (p4 3).C2,.slice (p4 3).A3 (p4 3).N3 (p4 3).C3],.bool li,.bool hi,.int .i64 0]),.v 32 (.agg #[.bool sl,.slice (p4 3).A (p4 3).N (p4 3).C,.slice (p4 3).A' (p4 3).N' (p4 3).C']),.v 33 (.agg #[.bool sh,.slice (p4 3).A2 (p4 3).N2 (p4 3).C2,.slice (p4 3).A3 (p4 3).N3 (p4 3).C3]),.v 34 (.bool li),.v 35 (.bool hi),.v 36 (.int .i64 0),.n 8 #[.bool false,.slice none 0 0,.slice none 0 0] 29,.n 9 #[.bool false,.slice none 0 0,.slice none 0 0] 29,.p 1010 0 [.bool sl,.slice (p4 3).A (p4 3).N (p4 3).C,.slice (p4 3).A' (p4 3).N' (p4 3).C'],.p 1011 0 [.bool sh,.slice (p4 3).A2 (p4 3).N2 (p4 3).C2,.slice (p4 3).A3 (p4 3).N3 (p4 3).C3],.v 10 (.bool li),.v 11 (.bool hi),.v 12 (.int .i64 0)]) (fun p4=>[(1,.int .u64 b),(2,.int .u8 md),(3,pT (p1 0).N 0),(6,.bool false),(7,.bool true),(9,pT (p4 11).N 0),(11,.bool hi),(12,.int .i64 0)]) (fun p4=>?_) (fun p4 W4 T hF hK=>?_)
 ·refine okl ?_
  iterate 2 refine okv ?_
  refine okc (fun W cx=>as_rea (unhide H1) (ht.kept cx.fr) (hn.kept cx.fr)) ?_
  iterate 6 refine okv ?_
  iterate 2 refine okn ?_
  iterate 2 refine okp ?_
  iterate 3 refine okv ?_
  exact ok_nil
 replace hS:=SymF.fc hS hF [0,1011] [⟨(p1 0).N,#[.int .i64 E,.int .i64 F],23,true⟩,⟨(p4 11).N,#[.bool sh,.slice (p4 3).A2 (p4 3).N2 (p4 3).C2,.slice (p4 3).A3 (p4 3).N3 (p4 3).C3],29,true⟩]
 replace hG:GsAt (gN (p4 3).A (p4 3).N nl :: gN (p4 3).A' (p4 3).N' dl :: gN (p4 3).A2 (p4 3).N2 nh :: gN (p4 3).A3 (p4 3).N3 dh :: _) W4:=⟨(hF.fx 3).1,(hF.fx 3).2.1,(hF.fx 3).2.2.1,(hF.fx 3).2.2.2,hF.gx⟩
 clear hF
 refine wp_seq ?_
 refine wq hS hG hK (fun p5=>[.v 37 (.int .i64 0),.v 38 (.bool false)]) (fun p5=>[(1,.int .u64 b),(2,.int .u8 md),(3,pT (p1 0).N 0),(6,.bool false),(7,.bool true),(9,pT (p4 11).N 0),(11,.bool hi),(12,.int .i64 0),(38,.bool false)]) (fun p5=>?_) (fun p5 W5 T hF hK=>?_)
 ·iterate 2 refine okv ?_
  exact ok_nil
 obtain ⟨hS,hG⟩:=SymF.fg hS hF
 clear hF
 refine wp_cond_false (hK.ew 38) (wp_skip (then_n ?_))
 refine wq hS hG hK (fun p6=>[.l 41 (.agg #[.int .i64 E,.int .i64 F]) 0 0,.v 42 (.int .u64 b),.c (some 43) (cV (.tuple #[.int .u64 up,.int .i64 0])),.v 40 (.tuple #[.int .u64 up,.int .i64 0]),.v 44 (.int .u64 up),.v 45 (.int .i64 0),.v 13 (.int .u64 up),.v 12 (.int .i64 0)]) (fun p6=>[(1,.int .u64 b),(2,.int .u8 md),(3,pT (p1 0).N 0),(6,.bool false),(7,.bool true),(9,pT (p4 11).N 0),(11,.bool hi),(12,.int .i64 0),(13,.int .u64 up)]) (fun p6=>?_) (fun p6 W6 T hF hK=>?_)
 ·refine okl ?_
  refine okv ?_
  refine okc (fun W cx=>as_v (unhide HU _)) ?_
  iterate 5 refine okv ?_
  exact ok_nil
 obtain ⟨hS,hG⟩:=SymF.fg hS hF
 clear hF
 refine wp_seq ?_
 refine wq hS hG hK (fun p7=>[.v 46 (.int .i64 0),.v 47 (.bool false)]) (fun p7=>[(1,.int .u64 b),(2,.int .u8 md),(3,pT (p1 0).N 0),(6,.bool false),(7,.bool true),(9,pT (p4 11).N 0),(11,.bool hi),(12,.int .i64 0),(13,.int .u64 up),(47,.bool false)]) (fun p7=>?_) (fun p7 W7 T hF hK=>?_)
 ·iterate 2 refine okv ?_
  exact ok_nil
 obtain ⟨hS,hG⟩:=SymF.fg hS hF
 clear hF
 refine wp_cond_false (hK.ew 47) (wp_skip (then_n ?_))
 refine wq hS hG hK (fun p8=>[.l 49 (.agg #[.int .i64 E,.int .i64 F]) 0 0,.v 50 (.int .u64 b),.c (some 51) (cV (.tuple #[.int .u8 cc,.int .i64 0])),.v 48 (.tuple #[.int .u8 cc,.int .i64 0]),.v 52 (.int .u8 cc),.v 53 (.int .i64 0),.v 14 (.int .u8 cc),.v 12 (.int .i64 0)]) (fun p8=>[(1,.int .u64 b),(2,.int .u8 md),(3,pT (p1 0).N 0),(6,.bool false),(7,.bool true),(9,pT (p4 11).N 0),(11,.bool hi),(12,.int .i64 0),(13,.int .u64 up),(14,.int .u8 cc)]) (fun p8=>?_) (fun p8 W8 T hF hK=>?_)
 ·refine okl ?_
  refine okv ?_
  refine okc (fun W cx=>as_v (unhide HC _)) ?_
  iterate 5 refine okv ?_
  exact ok_nil
 obtain ⟨hS,hG⟩:=SymF.fg hS hF
 clear hF
 refine wq hS hG hK (fun p9=>[.l 55 (.agg #[.int .i64 E,.int .i64 F]) 0 0,.v 56 (.int .u64 up),.c (some 57) (cV (.tuple #[.int .u8 cd,.int .i64 0])),.v 54 (.tuple #[.int .u8 cd,.int .i64 0]),.v 58 (.int .u8 cd),.v 59 (.int .i64 0),.v 15 (.int .u8 cd),.v 16 (.int .i64 0)]) (fun p9=>[(1,.int .u64 b),(2,.int .u8 md),(3,pT (p1 0).N 0),(6,.bool false),(7,.bool true),(9,pT (p4 11).N 0),(11,.bool hi),(12,.int .i64 0),(13,.int .u64 up),(14,.int .u8 cc),(15,.int .u8 cd),(16,.int .i64 0)]) (fun p9=>?_) (fun p9 W9 T hF hK=>?_)
 ·refine okl ?_
  refine okv ?_
  refine okc (fun W cx=>as_v (unhide HD _)) ?_
  iterate 5 refine okv ?_
  exact ok_nil
 obtain ⟨hS,hG⟩:=SymF.fg hS hF
 clear hF
 refine wp_seq ?_
 refine wq hS hG hK (fun p10=>[.v 60 (.int .i64 0),.v 61 (.bool false),.v 62 (.bool false),.v 63 (.int .i64 0),.v 64 (.bool false),.v 65 (.bool false)]) (fun p10=>[(1,.int .u64 b),(2,.int .u8 md),(3,pT (p1 0).N 0),(6,.bool false),(7,.bool true),(9,pT (p4 11).N 0),(11,.bool hi),(12,.int .i64 0),(13,.int .u64 up),(14,.int .u8 cc),(15,.int .u8 cd),(16,.int .i64 0),(65,.bool false)]) (fun p10=>?_) (fun p10 W10 T hF hK=>?_)
 ·iterate 6 refine okv ?_
  exact ok_nil
 obtain ⟨hS,hG⟩:=SymF.fg hS hF
 clear hF
 refine wp_cond_false (hK.ew 65) (wp_skip ?_)
 refine then_n (wp_seq ?_)
 refine wq hS hG hK (fun p11=>[.v 66 (.int .u8 cd),.v 67 (.bool false)]) (fun p11=>[(1,.int .u64 b),(2,.int .u8 md),(3,pT (p1 0).N 0),(6,.bool false),(7,.bool true),(9,pT (p4 11).N 0),(11,.bool hi),(12,.int .i64 0),(13,.int .u64 up),(14,.int .u8 cc),(15,.int .u8 cd),(16,.int .i64 0),(67,.bool false)]) (fun p11=>?_) (fun p11 W11 T hF hK=>?_)
 ·refine okv ?_
  refine okvb (beq_false_of_ne (show cd≠4 by omega)) ?_
  exact ok_nil
 obtain ⟨hS,hG⟩:=SymF.fg hS hF
 clear hF
 refine wp_cond_false (hK.ew 67) (wp_skip ?_)
 refine then_n (wp_seq ?_)
 refine wq hS hG hK (fun p12=>[.v 69 (.int .u8 cd),.v 70 (.bool false)]) (fun p12=>[(1,.int .u64 b),(2,.int .u8 md),(3,pT (p1 0).N 0),(6,.bool false),(7,.bool true),(9,pT (p4 11).N 0),(11,.bool hi),(12,.int .i64 0),(13,.int .u64 up),(14,.int .u8 cc),(16,.int .i64 0),(70,.bool false)]) (fun p12=>?_) (fun p12 W12 T hF hK=>?_)
 ·refine okv ?_
  refine okvb (beq_false_of_ne (show cd≠1 by omega)) ?_
  exact ok_nil
 obtain ⟨hS,hG⟩:=SymF.fg hS hF
 clear hF
 refine wp_cond_false (hK.ew 70) (wp_skip ?_)
 refine then_n (wp_seq ?_)
 refine wq hS hG hK (fun p13=>[.v 76 (.int .u8 cc),.v 77 (.bool false)]) (fun p13=>[(1,.int .u64 b),(2,.int .u8 md),(3,pT (p1 0).N 0),(6,.bool false),(7,.bool true),(9,pT (p4 11).N 0),(11,.bool hi),(12,.int .i64 0),(13,.int .u64 up),(16,.int .i64 0),(77,.bool false)]) (fun p13=>?_) (fun p13 W13 T hF hK=>?_)
 ·refine okv ?_
  refine okvb (beq_false_of_ne (show cc≠1 by omega)) ?_
  exact ok_nil
 obtain ⟨hS,hG⟩:=SymF.fg hS hF
 clear hF
 refine wp_cond_false (hK.ew 77) (wp_skip (then_n ?_))
 refine wq hS hG hK (fun p14=>[.l 94 (.agg #[.int .i64 E,.int .i64 F]) 0 0,.v 95 (.int .u64 up),.v 96 (.int .u8 md),.c (some 97) (cRea sl2 sh2 li2 hi2 nl2 dl2 nh2 dh2),.v 93 (.tuple #[.agg #[.bool sl2,.slice (p14 3).A (p14 3).N (p14 3).C,.slice (p14 3).A' (p14 3).N' (p14 3).C'],.agg #[.bool sh2,.slice (p14 3).A2 (p14 3).N2 (p14 3).C2,.slice (p14 3).A3 (p14 3).N3 (p14 3).C3],.bool li2,.bool hi2,.int .i64 0]),.v 98 (.agg #[.bool sl2,.slice (p14 3).A (p14 3).N (p14 3).C,.slice (p14 3).A' (p14 3).N' (p14 3).C']),.v 99 (.agg #[.bool sh2,.slice (p14 3).A2 (p14 3).N2 (p14 3).C2,.slice (p14 3).A3 (p14 3).N3 (p14 3).C3]),.v 100 (.bool li2),.v 101 (.bool hi2),.v 102 (.int .i64 0),.n 17 #[.bool false,.slice none 0 0,.slice none 0 0] 29,.n 18 #[.bool false,.slice none 0 0,.slice none 0 0] 29,.p 1010 0 [.bool sl2,.slice (p14 3).A (p14 3).N (p14 3).C,.slice (p14 3).A' (p14 3).N' (p14 3).C'],.p 1011 0 [.bool sh2,.slice (p14 3).A2 (p14 3).N2 (p14 3).C2,.slice (p14 3).A3 (p14 3).N3 (p14 3).C3],.v 19 (.bool li2),.v 20 (.bool hi2),.v 21 (.int .i64 0)]) (fun p14=>[(1,.int .u64 b),(2,.int .u8 md),(3,pT (p1 0).N 0),(6,.bool false),(7,.bool true),(9,pT (p4 11).N 0),(11,.bool hi),(12,.int .i64 0),(16,.int .i64 0),(17,pT (p14 10).N 0),(19,.bool li2),(21,.int .i64 0)]) (fun p14=>?_) (fun p14 W14 T hF hK=>?_)
 ·refine okl ?_
  iterate 2 refine okv ?_
  refine okc (fun W cx=>as_rea (unhide H2) (ht.kept cx.fr) (hn.kept cx.fr)) ?_
  iterate 6 refine okv ?_
  iterate 2 refine okn ?_
  iterate 2 refine okp ?_
  iterate 3 refine okv ?_
  exact ok_nil
 replace hS:=SymF.fc hS hF [0,1,1010] [⟨(p1 0).N,#[.int .i64 E,.int .i64 F],23,true⟩,⟨(p4 11).N,#[.bool sh,.slice (p4 3).A2 (p4 3).N2 (p4 3).C2,.slice (p4 3).A3 (p4 3).N3 (p4 3).C3],29,true⟩,⟨(p14 10).N,#[.bool sl2,.slice (p14 3).A (p14 3).N (p14 3).C,.slice (p14 3).A' (p14 3).N' (p14 3).C'],29,true⟩]
 replace hG:GsAt (gN (p14 3).A (p14 3).N nl2 :: gN (p14 3).A' (p14 3).N' dl2 :: gN (p14 3).A2 (p14 3).N2 nh2 :: gN (p14 3).A3 (p14 3).N3 dh2 :: _) W14:=⟨(hF.fx 3).1,(hF.fx 3).2.1,(hF.fx 3).2.2.1,(hF.fx 3).2.2.2,hF.gx⟩
 clear hF
 refine wq hS hG hK (fun p15=>[.l 104 (.agg #[.bool sl2,.slice (p14 3).A (p14 3).N (p14 3).C,.slice (p14 3).A' (p14 3).N' (p14 3).C']) 2 0,.l 105 (.agg #[.bool sh,.slice (p4 3).A2 (p4 3).N2 (p4 3).C2,.slice (p4 3).A3 (p4 3).N3 (p4 3).C3]) 1 0,.c (some 106) (cV (.tuple #[.int .i64 0,.int .i64 0])),.v 103 (.tuple #[.int .i64 0,.int .i64 0]),.v 107 (.int .i64 0),.v 108 (.int .i64 0),.v 22 (.int .i64 0),.v 23 (.int .i64 0)]) (fun p15=>[(1,.int .u64 b),(2,.int .u8 md),(3,pT (p1 0).N 0),(6,.bool false),(7,.bool true),(9,pT (p4 11).N 0),(11,.bool hi),(12,.int .i64 0),(16,.int .i64 0),(19,.bool li2),(21,.int .i64 0),(22,.int .i64 0),(23,.int .i64 0)]) (fun p15=>?_) (fun p15 W15 T hF hK=>?_)
 ·iterate 2 refine okl ?_
  refine okc (fun W cx=>as_v (unhide HM _ _ _ (p14 3).C _ _ (p14 3).C' _ _ (p4 3).C2 _ _ (p4 3).C3 (cx.G.1) (cx.G.2.1) (cx.G.2.2.2.2.2.2.1) (cx.G.2.2.2.2.2.2.2.1))) ?_
  iterate 5 refine okv ?_
  exact ok_nil
 obtain ⟨hS,hG⟩:=SymF.fg hS hF
 clear hF
 refine wq hS hG hK (fun p16=>[.v 109 (.bool true),.v 110 (.bool true),.v 111 (.int .i64 0),.v 112 (.bool true),.v 113 (.bool true),.v 114 (.bool true),.v 115 (.int .i64 0),.v 116 (.bool true),.v 117 (.bool true),.v 118 (.bool true),.v 119 (.int .i64 0),.v 120 (.bool true),.v 121 (.bool true),.v 122 (.bool true),.v 123 (.int .i64 0),.v 124 (.bool true),.v 125 (.bool true),.v 126 (.bool true),.v 127 (.int .i64 0),.v 128 (.bool true),.v 129 (.bool true),.v 130 (.bool true),.v 131 (.bool hi),.v 132 (.bool li2),.v 133 (.bool true),.v 134 (.bool true),.v 6 (.bool true)]) (fun p16=>[(1,.int .u64 b),(2,.int .u8 md),(3,pT (p1 0).N 0),(6,.bool true),(7,.bool true),(9,pT (p4 11).N 0)]) (fun p16=>?_) (fun p16 W16 T hF hK=>?_)
 ·iterate 24 refine okv ?_
  refine okvb (hx) ?_
  iterate 2 refine okv ?_
  exact ok_nil
 obtain ⟨hS,hG⟩:=SymF.fg hS hF
 clear hF
 refine wp_ret ?_
 exact sym_end hS hK (.bool true) [] [] (by kernel_rfl) (by kernel_rfl) ⟨rfl,hS.fr⟩
theorem meet_c (w:World) (E F b md up:Int) (sl sh li hi:Bool) (nl dl nh dh:Nat) (sl2 sh2 li2 hi2:Bool) (nl2 dl2 nh2 dh2:Nat) (cc cd:Int) (sh1 hi1:Bool) (nh1 dh1:Nat) (ht:Tb w) (hn:Nb5 w) (HA:Hid (∀ W:World,Tb W→Nb5 W→Calls Tryz.prog 5 #[] W fun e W'=>e = .returned (.bool true)∧Below W.heap.size W W')) (H1:Hid (Rea E F b md sl sh1 li hi1 nl dl nh1 dh1)) (HU:Hid (∀ W:World,Calls Tryz.prog 14 #[.agg #[.int .i64 E,.int .i64 F],.int .u64 b] W fun e W'=>e = .returned (.tuple #[.int .u64 up,.int .i64 0])∧Below W.heap.size W W')) (HC:Hid (∀ W:World,Calls Tryz.prog 15 #[.agg #[.int .i64 E,.int .i64 F],.int .u64 b] W fun e W'=>e = .returned (.tuple #[.int .u8 cc,.int .i64 0])∧Below W.heap.size W W')) (HD:Hid (∀ W:World,Calls Tryz.prog 15 #[.agg #[.int .i64 E,.int .i64 F],.int .u64 up] W fun e W'=>e = .returned (.tuple #[.int .u8 cd,.int .i64 0])∧Below W.heap.size W W')) (H2:Hid (Rea E F up md sl2 sh2 li2 hi2 nl2 dl2 nh2 dh2)) (HM:Hid (∀ (W:World) (a:Option Addr) (n c:Nat) (b:Option Addr) (k l:Nat) (a':Option Addr) (n' c':Nat) (b':Option Addr) (k' l':Nat),Num W a n nl2→Num W b k dl2→Num W a' n' nh→Num W b' k' dh→Calls Tryz.prog 11 #[.agg #[.bool sl2,.slice a n c,.slice b k l],.agg #[.bool sh,.slice a' n' c',.slice b' k' l']] W fun e W'=>e = .returned (.tuple #[.int .i64 0,.int .i64 0])∧Below W.heap.size W W')) (hx:(hi != li2) = true) (h1:cc = 1) (h2:cd≠1) (h3:cd≠4) (HN:Hid (∀ W:World,Calls Tryz.prog 16 #[.agg #[.int .i64 E,.int .i64 F],.bool false] W fun e W'=>e = .returned (.tuple #[.int .u64 0,.int .i64 0])∧Below W.heap.size W W')) (H0:Hid (∃ (sl0 li0:Bool) (nl0 dl0:Nat),Rea E F 0 md sl0 sh li0 hi nl0 dl0 nh dh)) :
  Calls Tryz.prog 4 #[.agg #[.int .i64 E,.int .i64 F],.int .u64 b,.int .u8 md] w fun en w'=>en = .returned (.bool true)∧Below w.heap.size w w':=by
 refine calls_sym Tryz.func4 rfl (by kernel_rfl) fun T hK=>?_
 replace hK:Kn T _ [(0,.agg #[.int .i64 E,.int .i64 F]),(1,.int .u64 b),(2,.int .u8 md)]:=hK
 have hS:=Fb.begin w
 have hG:GsAt [] w:=trivial
 obtain ⟨sl0,li0,nl0,dl0,H0⟩:=unhide H0
 have H0:=hide H0
 refine wq hS hG hK (fun p1=>[.n 3 #[.int .i64 E,.int .i64 F] 23,.v 6 (.bool false)]) (fun p1=>[(1,.int .u64 b),(2,.int .u8 md),(3,pT (p1 0).N 0),(6,.bool false)]) (fun p1=>?_) (fun p1 W1 T hF hK=>?_)
 ·refine okn ?_
  refine okv ?_
  exact ok_nil
 replace hS:=SymF.fc hS hF [1000] [⟨(p1 0).N,#[.int .i64 E,.int .i64 F],23,true⟩]
 replace hG:=hF.gx
 clear hF
 refine wq hS hG hK (fun p2=>[.c (some 24) (cV (.bool true)),.v 7 (.bool true)]) (fun p2=>[(1,.int .u64 b),(2,.int .u8 md),(3,pT (p1 0).N 0),(6,.bool false),(7,.bool true)]) (fun p2=>?_) (fun p2 W2 T hF hK=>?_)
 ·refine okc (fun W cx=>as_v (unhide HA _ (ht.kept cx.fr) (hn.kept cx.fr))) ?_
  refine okv ?_
  exact ok_nil
 obtain ⟨hS,hG⟩:=SymF.fg hS hF
 clear hF
 refine wp_seq ?_
 refine wq hS hG hK (fun p3=>[.v 25 (.bool true),.v 26 (.bool false)]) (fun p3=>[(1,.int .u64 b),(2,.int .u8 md),(3,pT (p1 0).N 0),(6,.bool false),(7,.bool true),(26,.bool false)]) (fun p3=>?_) (fun p3 W3 T hF hK=>?_)
 ·iterate 2 refine okv ?_
  exact ok_nil
 obtain ⟨hS,hG⟩:=SymF.fg hS hF
 clear hF
 refine wp_cond_false (hK.ew 26) (wp_skip (then_n ?_))
 refine wq hS hG hK (fun p4=>[.l 28 (.agg #[.int .i64 E,.int .i64 F]) 0 0,.v 29 (.int .u64 b),.v 30 (.int .u8 md),.c (some 31) (cRea sl sh1 li hi1 nl dl nh1 dh1),.v 27 (.tuple #[.agg #[.bool sl,.slice (p4 3).A (p4 3).N (p4 3).C,.slice (p4 3).A' (p4 3).N' (p4 3).C'],.agg #[.bool sh1,.slice (p4 3).A2 (p4 3).N2 (p4 3).C2,.slice (p4 3).A3 (p4 3).N3 (p4 3).C3],.bool li,.bool hi1,.int .i64 0]),.v 32 (.agg #[.bool sl,.slice (p4 3).A (p4 3).N (p4 3).C,.slice (p4 3).A' (p4 3).N' (p4 3).C']),.v 33 (.agg #[.bool sh1,.slice (p4 3).A2 (p4 3).N2 (p4 3).C2,.slice (p4 3).A3 (p4 3).N3 (p4 3).C3]),.v 34 (.bool li),.v 35 (.bool hi1),.v 36 (.int .i64 0),.n 8 #[.bool false,.slice none 0 0,.slice none 0 0] 29,.n 9 #[.bool false,.slice none 0 0,.slice none 0 0] 29,.p 1010 0 [.bool sl,.slice (p4 3).A (p4 3).N (p4 3).C,.slice (p4 3).A' (p4 3).N' (p4 3).C'],.p 1011 0 [.bool sh1,.slice (p4 3).A2 (p4 3).N2 (p4 3).C2,.slice (p4 3).A3 (p4 3).N3 (p4 3).C3],.v 10 (.bool li),.v 11 (.bool hi1),.v 12 (.int .i64 0)]) (fun p4=>[(1,.int .u64 b),(2,.int .u8 md),(3,pT (p1 0).N 0),(6,.bool false),(7,.bool true),(9,pT (p4 11).N 0),(11,.bool hi1),(12,.int .i64 0)]) (fun p4=>?_) (fun p4 W4 T hF hK=>?_)
 ·refine okl ?_
  iterate 2 refine okv ?_
  refine okc (fun W cx=>as_rea (unhide H1) (ht.kept cx.fr) (hn.kept cx.fr)) ?_
  iterate 6 refine okv ?_
  iterate 2 refine okn ?_
  iterate 2 refine okp ?_
  iterate 3 refine okv ?_
  exact ok_nil
 replace hS:=SymF.fc hS hF [0,1011] [⟨(p1 0).N,#[.int .i64 E,.int .i64 F],23,true⟩,⟨(p4 11).N,#[.bool sh1,.slice (p4 3).A2 (p4 3).N2 (p4 3).C2,.slice (p4 3).A3 (p4 3).N3 (p4 3).C3],29,true⟩]
 replace hG:GsAt (gN (p4 3).A (p4 3).N nl :: gN (p4 3).A' (p4 3).N' dl :: gN (p4 3).A2 (p4 3).N2 nh1 :: gN (p4 3).A3 (p4 3).N3 dh1 :: _) W4:=⟨(hF.fx 3).1,(hF.fx 3).2.1,(hF.fx 3).2.2.1,(hF.fx 3).2.2.2,hF.gx⟩
 clear hF
 refine wp_seq ?_
 refine wq hS hG hK (fun p5=>[.v 37 (.int .i64 0),.v 38 (.bool false)]) (fun p5=>[(1,.int .u64 b),(2,.int .u8 md),(3,pT (p1 0).N 0),(6,.bool false),(7,.bool true),(9,pT (p4 11).N 0),(11,.bool hi1),(12,.int .i64 0),(38,.bool false)]) (fun p5=>?_) (fun p5 W5 T hF hK=>?_)
 ·iterate 2 refine okv ?_
  exact ok_nil
 obtain ⟨hS,hG⟩:=SymF.fg hS hF
 clear hF
 refine wp_cond_false (hK.ew 38) (wp_skip (then_n ?_))
 refine wq hS hG hK (fun p6=>[.l 41 (.agg #[.int .i64 E,.int .i64 F]) 0 0,.v 42 (.int .u64 b),.c (some 43) (cV (.tuple #[.int .u64 up,.int .i64 0])),.v 40 (.tuple #[.int .u64 up,.int .i64 0]),.v 44 (.int .u64 up),.v 45 (.int .i64 0),.v 13 (.int .u64 up),.v 12 (.int .i64 0)]) (fun p6=>[(1,.int .u64 b),(2,.int .u8 md),(3,pT (p1 0).N 0),(6,.bool false),(7,.bool true),(9,pT (p4 11).N 0),(11,.bool hi1),(12,.int .i64 0),(13,.int .u64 up)]) (fun p6=>?_) (fun p6 W6 T hF hK=>?_)
 ·refine okl ?_
  refine okv ?_
  refine okc (fun W cx=>as_v (unhide HU _)) ?_
  iterate 5 refine okv ?_
  exact ok_nil
 obtain ⟨hS,hG⟩:=SymF.fg hS hF
 clear hF
 refine wp_seq ?_
 refine wq hS hG hK (fun p7=>[.v 46 (.int .i64 0),.v 47 (.bool false)]) (fun p7=>[(1,.int .u64 b),(2,.int .u8 md),(3,pT (p1 0).N 0),(6,.bool false),(7,.bool true),(9,pT (p4 11).N 0),(11,.bool hi1),(12,.int .i64 0),(13,.int .u64 up),(47,.bool false)]) (fun p7=>?_) (fun p7 W7 T hF hK=>?_)
 ·iterate 2 refine okv ?_
  exact ok_nil
 obtain ⟨hS,hG⟩:=SymF.fg hS hF
 clear hF
 refine wp_cond_false (hK.ew 47) (wp_skip (then_n ?_))
 refine wq hS hG hK (fun p8=>[.l 49 (.agg #[.int .i64 E,.int .i64 F]) 0 0,.v 50 (.int .u64 b),.c (some 51) (cV (.tuple #[.int .u8 cc,.int .i64 0])),.v 48 (.tuple #[.int .u8 cc,.int .i64 0]),.v 52 (.int .u8 cc),.v 53 (.int .i64 0),.v 14 (.int .u8 cc),.v 12 (.int .i64 0)]) (fun p8=>[(1,.int .u64 b),(2,.int .u8 md),(3,pT (p1 0).N 0),(6,.bool false),(7,.bool true),(9,pT (p4 11).N 0),(11,.bool hi1),(12,.int .i64 0),(13,.int .u64 up),(14,.int .u8 cc)]) (fun p8=>?_) (fun p8 W8 T hF hK=>?_)
 ·refine okl ?_
  refine okv ?_
  refine okc (fun W cx=>as_v (unhide HC _)) ?_
  iterate 5 refine okv ?_
  exact ok_nil
 obtain ⟨hS,hG⟩:=SymF.fg hS hF
 clear hF
 refine wq hS hG hK (fun p9=>[.l 55 (.agg #[.int .i64 E,.int .i64 F]) 0 0,.v 56 (.int .u64 up),.c (some 57) (cV (.tuple #[.int .u8 cd,.int .i64 0])),.v 54 (.tuple #[.int .u8 cd,.int .i64 0]),.v 58 (.int .u8 cd),.v 59 (.int .i64 0),.v 15 (.int .u8 cd),.v 16 (.int .i64 0)]) (fun p9=>[(1,.int .u64 b),(2,.int .u8 md),(3,pT (p1 0).N 0),(6,.bool false),(7,.bool true),(9,pT (p4 11).N 0),(11,.bool hi1),(12,.int .i64 0),(13,.int .u64 up),(14,.int .u8 cc),(15,.int .u8 cd),(16,.int .i64 0)]) (fun p9=>?_) (fun p9 W9 T hF hK=>?_)
 ·refine okl ?_
  refine okv ?_
  refine okc (fun W cx=>as_v (unhide HD _)) ?_
  iterate 5 refine okv ?_
  exact ok_nil
 obtain ⟨hS,hG⟩:=SymF.fg hS hF
 clear hF
 refine wp_seq ?_
 refine wq hS hG hK (fun p10=>[.v 60 (.int .i64 0),.v 61 (.bool false),.v 62 (.bool false),.v 63 (.int .i64 0),.v 64 (.bool false),.v 65 (.bool false)]) (fun p10=>[(1,.int .u64 b),(2,.int .u8 md),(3,pT (p1 0).N 0),(6,.bool false),(7,.bool true),(9,pT (p4 11).N 0),(11,.bool hi1),(12,.int .i64 0),(13,.int .u64 up),(14,.int .u8 cc),(15,.int .u8 cd),(16,.int .i64 0),(65,.bool false)]) (fun p10=>?_) (fun p10 W10 T hF hK=>?_)
 ·iterate 6 refine okv ?_
  exact ok_nil
 obtain ⟨hS,hG⟩:=SymF.fg hS hF
 clear hF
 refine wp_cond_false (hK.ew 65) (wp_skip ?_)
 refine then_n (wp_seq ?_)
 refine wq hS hG hK (fun p11=>[.v 66 (.int .u8 cd),.v 67 (.bool false)]) (fun p11=>[(1,.int .u64 b),(2,.int .u8 md),(3,pT (p1 0).N 0),(6,.bool false),(7,.bool true),(9,pT (p4 11).N 0),(11,.bool hi1),(12,.int .i64 0),(13,.int .u64 up),(14,.int .u8 cc),(15,.int .u8 cd),(16,.int .i64 0),(67,.bool false)]) (fun p11=>?_) (fun p11 W11 T hF hK=>?_)
 ·refine okv ?_
  refine okvb (beq_false_of_ne (show cd≠4 by omega)) ?_
  exact ok_nil
 obtain ⟨hS,hG⟩:=SymF.fg hS hF
 clear hF
 refine wp_cond_false (hK.ew 67) (wp_skip ?_)
 refine then_n (wp_seq ?_)
 refine wq hS hG hK (fun p12=>[.v 69 (.int .u8 cd),.v 70 (.bool false)]) (fun p12=>[(1,.int .u64 b),(2,.int .u8 md),(3,pT (p1 0).N 0),(6,.bool false),(7,.bool true),(9,pT (p4 11).N 0),(11,.bool hi1),(12,.int .i64 0),(13,.int .u64 up),(14,.int .u8 cc),(16,.int .i64 0),(70,.bool false)]) (fun p12=>?_) (fun p12 W12 T hF hK=>?_)
 ·refine okv ?_
  refine okvb (beq_false_of_ne (show cd≠1 by omega)) ?_
  exact ok_nil
 obtain ⟨hS,hG⟩:=SymF.fg hS hF
 clear hF
 refine wp_cond_false (hK.ew 70) (wp_skip ?_)
 refine then_n (wp_seq ?_)
 refine wq hS hG hK (fun p13=>[.v 76 (.int .u8 cc),.v 77 (.bool true)]) (fun p13=>[(1,.int .u64 b),(2,.int .u8 md),(3,pT (p1 0).N 0),(6,.bool false),(7,.bool true),(9,pT (p4 11).N 0),(11,.bool hi1),(12,.int .i64 0),(13,.int .u64 up),(16,.int .i64 0),(77,.bool true)]) (fun p13=>?_) (fun p13 W13 T hF hK=>?_)
 ·refine okv ?_
  refine okvb (beq_iff_eq.2 (show cc = 1 by omega)) ?_
  exact ok_nil
 obtain ⟨hS,hG⟩:=SymF.fg hS hF
 clear hF
 refine wp_cond_true (hK.ew 77) ?_
 refine wq hS hG hK (fun p14=>[.l 79 (.agg #[.int .i64 E,.int .i64 F]) 0 0,.c (some 80) (cV (.tuple #[.int .u64 0,.int .i64 0])),.v 78 (.tuple #[.int .u64 0,.int .i64 0]),.v 81 (.int .u64 0),.v 82 (.int .i64 0),.v 1 (.int .u64 0),.v 16 (.int .i64 0)]) (fun p14=>[(1,.int .u64 0),(2,.int .u8 md),(3,pT (p1 0).N 0),(6,.bool false),(7,.bool true),(9,pT (p4 11).N 0),(11,.bool hi1),(12,.int .i64 0),(13,.int .u64 up),(16,.int .i64 0)]) (fun p14=>?_) (fun p14 W14 T hF hK=>?_)
 ·refine okl ?_
  refine okc (fun W cx=>as_v (unhide HN _)) ?_
  iterate 5 refine okv ?_
  exact ok_nil
 obtain ⟨hS,hG⟩:=SymF.fg hS hF
 clear hF
 refine wg hS hG hK (fun p15=>[.l 84 (.agg #[.int .i64 E,.int .i64 F]) 0 0,.v 85 (.int .u64 0),.v 86 (.int .u8 md),.c (some 87) (cRea sl0 sh li0 hi nl0 dl0 nh dh),.v 83 (.tuple #[.agg #[.bool sl0,.slice (p15 3).A (p15 3).N (p15 3).C,.slice (p15 3).A' (p15 3).N' (p15 3).C'],.agg #[.bool sh,.slice (p15 3).A2 (p15 3).N2 (p15 3).C2,.slice (p15 3).A3 (p15 3).N3 (p15 3).C3],.bool li0,.bool hi,.int .i64 0]),.v 88 (.agg #[.bool sl0,.slice (p15 3).A (p15 3).N (p15 3).C,.slice (p15 3).A' (p15 3).N' (p15 3).C']),.v 89 (.agg #[.bool sh,.slice (p15 3).A2 (p15 3).N2 (p15 3).C2,.slice (p15 3).A3 (p15 3).N3 (p15 3).C3]),.v 90 (.bool li0),.v 91 (.bool hi),.v 92 (.int .i64 0),.p 1 0 [.bool sh,.slice (p15 3).A2 (p15 3).N2 (p15 3).C2,.slice (p15 3).A3 (p15 3).N3 (p15 3).C3],.v 11 (.bool hi)]) (fun p15=>[(2,.int .u8 md),(3,pT (p1 0).N 0),(6,.bool false),(7,.bool true),(9,pT (p4 11).N 0),(11,.bool hi),(12,.int .i64 0),(13,.int .u64 up),(16,.int .i64 0)]) (fun p15=>?_) (fun p15 W15 T hF hK=>?_)
 ·refine okl ?_
  iterate 2 refine okv ?_
  refine okc (fun W cx=>as_rea (unhide H0) (ht.kept cx.fr) (hn.kept cx.fr)) ?_
  iterate 6 refine okv ?_
  refine okp ?_
  refine okv ?_
  exact ok_nil
 replace hS:=SymF.fc hS hF [0,1] [⟨(p1 0).N,#[.int .i64 E,.int .i64 F],23,true⟩,⟨(p4 11).N,#[.bool sh,.slice (p15 3).A2 (p15 3).N2 (p15 3).C2,.slice (p15 3).A3 (p15 3).N3 (p15 3).C3],29,true⟩]
 replace hG:GsAt (gN (p15 3).A (p15 3).N nl0 :: gN (p15 3).A' (p15 3).N' dl0 :: gN (p15 3).A2 (p15 3).N2 nh :: gN (p15 3).A3 (p15 3).N3 dh :: _) W15:=⟨(hF.fx 3).1,(hF.fx 3).2.1,(hF.fx 3).2.2.1,(hF.fx 3).2.2.2,hF.gx⟩
 clear hF
 refine then_n ?_
 refine wq hS hG hK (fun p16=>[.l 94 (.agg #[.int .i64 E,.int .i64 F]) 0 0,.v 95 (.int .u64 up),.v 96 (.int .u8 md),.c (some 97) (cRea sl2 sh2 li2 hi2 nl2 dl2 nh2 dh2),.v 93 (.tuple #[.agg #[.bool sl2,.slice (p16 3).A (p16 3).N (p16 3).C,.slice (p16 3).A' (p16 3).N' (p16 3).C'],.agg #[.bool sh2,.slice (p16 3).A2 (p16 3).N2 (p16 3).C2,.slice (p16 3).A3 (p16 3).N3 (p16 3).C3],.bool li2,.bool hi2,.int .i64 0]),.v 98 (.agg #[.bool sl2,.slice (p16 3).A (p16 3).N (p16 3).C,.slice (p16 3).A' (p16 3).N' (p16 3).C']),.v 99 (.agg #[.bool sh2,.slice (p16 3).A2 (p16 3).N2 (p16 3).C2,.slice (p16 3).A3 (p16 3).N3 (p16 3).C3]),.v 100 (.bool li2),.v 101 (.bool hi2),.v 102 (.int .i64 0),.n 17 #[.bool false,.slice none 0 0,.slice none 0 0] 29,.n 18 #[.bool false,.slice none 0 0,.slice none 0 0] 29,.p 1010 0 [.bool sl2,.slice (p16 3).A (p16 3).N (p16 3).C,.slice (p16 3).A' (p16 3).N' (p16 3).C'],.p 1011 0 [.bool sh2,.slice (p16 3).A2 (p16 3).N2 (p16 3).C2,.slice (p16 3).A3 (p16 3).N3 (p16 3).C3],.v 19 (.bool li2),.v 20 (.bool hi2),.v 21 (.int .i64 0)]) (fun p16=>[(3,pT (p1 0).N 0),(6,.bool false),(7,.bool true),(9,pT (p4 11).N 0),(11,.bool hi),(12,.int .i64 0),(16,.int .i64 0),(17,pT (p16 10).N 0),(19,.bool li2),(21,.int .i64 0)]) (fun p16=>?_) (fun p16 W16 T hF hK=>?_)
 ·refine okl ?_
  iterate 2 refine okv ?_
  refine okc (fun W cx=>as_rea (unhide H2) (ht.kept cx.fr) (hn.kept cx.fr)) ?_
  iterate 6 refine okv ?_
  iterate 2 refine okn ?_
  iterate 2 refine okp ?_
  iterate 3 refine okv ?_
  exact ok_nil
 replace hS:=SymF.fc hS hF [0,1,1010] [⟨(p1 0).N,#[.int .i64 E,.int .i64 F],23,true⟩,⟨(p4 11).N,#[.bool sh,.slice (p15 3).A2 (p15 3).N2 (p15 3).C2,.slice (p15 3).A3 (p15 3).N3 (p15 3).C3],29,true⟩,⟨(p16 10).N,#[.bool sl2,.slice (p16 3).A (p16 3).N (p16 3).C,.slice (p16 3).A' (p16 3).N' (p16 3).C'],29,true⟩]
 replace hG:GsAt (gN (p16 3).A (p16 3).N nl2 :: gN (p16 3).A' (p16 3).N' dl2 :: gN (p16 3).A2 (p16 3).N2 nh2 :: gN (p16 3).A3 (p16 3).N3 dh2 :: _) W16:=⟨(hF.fx 3).1,(hF.fx 3).2.1,(hF.fx 3).2.2.1,(hF.fx 3).2.2.2,hF.gx⟩
 clear hF
 refine wq hS hG hK (fun p17=>[.l 104 (.agg #[.bool sl2,.slice (p16 3).A (p16 3).N (p16 3).C,.slice (p16 3).A' (p16 3).N' (p16 3).C']) 2 0,.l 105 (.agg #[.bool sh,.slice (p15 3).A2 (p15 3).N2 (p15 3).C2,.slice (p15 3).A3 (p15 3).N3 (p15 3).C3]) 1 0,.c (some 106) (cV (.tuple #[.int .i64 0,.int .i64 0])),.v 103 (.tuple #[.int .i64 0,.int .i64 0]),.v 107 (.int .i64 0),.v 108 (.int .i64 0),.v 22 (.int .i64 0),.v 23 (.int .i64 0)]) (fun p17=>[(3,pT (p1 0).N 0),(6,.bool false),(7,.bool true),(11,.bool hi),(12,.int .i64 0),(16,.int .i64 0),(19,.bool li2),(21,.int .i64 0),(22,.int .i64 0),(23,.int .i64 0)]) (fun p17=>?_) (fun p17 W17 T hF hK=>?_)
 ·iterate 2 refine okl ?_
  refine okc (fun W cx=>as_v (unhide HM _ _ _ (p16 3).C _ _ (p16 3).C' _ _ (p15 3).C2 _ _ (p15 3).C3 (cx.G.1) (cx.G.2.1) (cx.G.2.2.2.2.2.2.1) (cx.G.2.2.2.2.2.2.2.1))) ?_
  iterate 5 refine okv ?_
  exact ok_nil
 obtain ⟨hS,hG⟩:=SymF.fg hS hF
 clear hF
 refine wq hS hG hK (fun p18=>[.v 109 (.bool true),.v 110 (.bool true),.v 111 (.int .i64 0),.v 112 (.bool true),.v 113 (.bool true),.v 114 (.bool true),.v 115 (.int .i64 0),.v 116 (.bool true),.v 117 (.bool true),.v 118 (.bool true),.v 119 (.int .i64 0),.v 120 (.bool true),.v 121 (.bool true),.v 122 (.bool true),.v 123 (.int .i64 0),.v 124 (.bool true),.v 125 (.bool true),.v 126 (.bool true),.v 127 (.int .i64 0),.v 128 (.bool true),.v 129 (.bool true),.v 130 (.bool true),.v 131 (.bool hi),.v 132 (.bool li2),.v 133 (.bool true),.v 134 (.bool true),.v 6 (.bool true)]) (fun p18=>[(3,pT (p1 0).N 0),(6,.bool true),(7,.bool true)]) (fun p18=>?_) (fun p18 W18 T hF hK=>?_)
 ·iterate 24 refine okv ?_
  refine okvb (hx) ?_
  iterate 2 refine okv ?_
  exact ok_nil
 obtain ⟨hS,hG⟩:=SymF.fg hS hF
 clear hF
 refine wp_ret ?_
 exact sym_end hS hK (.bool true) [] [] (by kernel_rfl) (by kernel_rfl) ⟨rfl,hS.fr⟩
theorem meet_d (w:World) (E F b md up:Int) (sl sh li hi:Bool) (nl dl nh dh:Nat) (sl2 sh2 li2 hi2:Bool) (nl2 dl2 nh2 dh2:Nat) (cc cd:Int) (S:Int) (ht:Tb w) (hn:Nb5 w) (HA:Hid (∀ W:World,Tb W→Nb5 W→Calls Tryz.prog 5 #[] W fun e W'=>e = .returned (.bool true)∧Below W.heap.size W W')) (H1:Hid (Rea E F b md sl sh li hi nl dl nh dh)) (HU:Hid (∀ W:World,Calls Tryz.prog 14 #[.agg #[.int .i64 E,.int .i64 F],.int .u64 b] W fun e W'=>e = .returned (.tuple #[.int .u64 up,.int .i64 0])∧Below W.heap.size W W')) (HC:Hid (∀ W:World,Calls Tryz.prog 15 #[.agg #[.int .i64 E,.int .i64 F],.int .u64 b] W fun e W'=>e = .returned (.tuple #[.int .u8 cc,.int .i64 0])∧Below W.heap.size W W')) (HD:Hid (∀ W:World,Calls Tryz.prog 15 #[.agg #[.int .i64 E,.int .i64 F],.int .u64 up] W fun e W'=>e = .returned (.tuple #[.int .u8 cd,.int .i64 0])∧Below W.heap.size W W')) (H2:Hid (Rea E F S md sl2 sh2 li2 hi2 nl2 dl2 nh2 dh2)) (HM:Hid (∀ (W:World) (a:Option Addr) (n c:Nat) (b:Option Addr) (k l:Nat) (a':Option Addr) (n' c':Nat) (b':Option Addr) (k' l':Nat),Num W a n nl2→Num W b k dl2→Num W a' n' nh→Num W b' k' dh→Calls Tryz.prog 11 #[.agg #[.bool sl2,.slice a n c,.slice b k l],.agg #[.bool sh,.slice a' n' c',.slice b' k' l']] W fun e W'=>e = .returned (.tuple #[.int .i64 0,.int .i64 0])∧Below W.heap.size W W')) (hx:(hi != li2) = true) (h1:cc≠1) (h2:cd = 1) (h3:cd≠4) (HN:Hid (∀ W:World,Calls Tryz.prog 16 #[.agg #[.int .i64 E,.int .i64 F],.bool true] W fun e W'=>e = .returned (.tuple #[.int .u64 S,.int .i64 0])∧Below W.heap.size W W')) :
  Calls Tryz.prog 4 #[.agg #[.int .i64 E,.int .i64 F],.int .u64 b,.int .u8 md] w fun en w'=>en = .returned (.bool true)∧Below w.heap.size w w':=by
 refine calls_sym Tryz.func4 rfl (by kernel_rfl) fun T hK=>?_
 replace hK:Kn T _ [(0,.agg #[.int .i64 E,.int .i64 F]),(1,.int .u64 b),(2,.int .u8 md)]:=hK
 have hS:=Fb.begin w
 have hG:GsAt [] w:=trivial
 refine wq hS hG hK (fun p1=>[.n 3 #[.int .i64 E,.int .i64 F] 23,.v 6 (.bool false)]) (fun p1=>[(1,.int .u64 b),(2,.int .u8 md),(3,pT (p1 0).N 0),(6,.bool false)]) (fun p1=>?_) (fun p1 W1 T hF hK=>?_)
 ·refine okn ?_
  refine okv ?_
  exact ok_nil
 replace hS:=SymF.fc hS hF [1000] [⟨(p1 0).N,#[.int .i64 E,.int .i64 F],23,true⟩]
 replace hG:=hF.gx
 clear hF
 refine wq hS hG hK (fun p2=>[.c (some 24) (cV (.bool true)),.v 7 (.bool true)]) (fun p2=>[(1,.int .u64 b),(2,.int .u8 md),(3,pT (p1 0).N 0),(6,.bool false),(7,.bool true)]) (fun p2=>?_) (fun p2 W2 T hF hK=>?_)
 ·refine okc (fun W cx=>as_v (unhide HA _ (ht.kept cx.fr) (hn.kept cx.fr))) ?_
  refine okv ?_
  exact ok_nil
 obtain ⟨hS,hG⟩:=SymF.fg hS hF
 clear hF
 refine wp_seq ?_
 refine wq hS hG hK (fun p3=>[.v 25 (.bool true),.v 26 (.bool false)]) (fun p3=>[(1,.int .u64 b),(2,.int .u8 md),(3,pT (p1 0).N 0),(6,.bool false),(7,.bool true),(26,.bool false)]) (fun p3=>?_) (fun p3 W3 T hF hK=>?_)
 ·iterate 2 refine okv ?_
  exact ok_nil
 obtain ⟨hS,hG⟩:=SymF.fg hS hF
 clear hF
 refine wp_cond_false (hK.ew 26) (wp_skip (then_n ?_))
 refine wq hS hG hK (fun p4=>[.l 28 (.agg #[.int .i64 E,.int .i64 F]) 0 0,.v 29 (.int .u64 b),.v 30 (.int .u8 md),.c (some 31) (cRea sl sh li hi nl dl nh dh),.v 27 (.tuple #[.agg #[.bool sl,.slice (p4 3).A (p4 3).N (p4 3).C,.slice (p4 3).A' (p4 3).N' (p4 3).C'],.agg #[.bool sh,.slice (p4 3).A2 (p4 3).N2 (p4 3).C2,.slice (p4 3).A3 (p4 3).N3 (p4 3).C3],.bool li,.bool hi,.int .i64 0]),.v 32 (.agg #[.bool sl,.slice (p4 3).A (p4 3).N (p4 3).C,.slice (p4 3).A' (p4 3).N' (p4 3).C']),.v 33 (.agg #[.bool sh,.slice (p4 3).A2 (p4 3).N2 (p4 3).C2,.slice (p4 3).A3 (p4 3).N3 (p4 3).C3]),.v 34 (.bool li),.v 35 (.bool hi),.v 36 (.int .i64 0),.n 8 #[.bool false,.slice none 0 0,.slice none 0 0] 29,.n 9 #[.bool false,.slice none 0 0,.slice none 0 0] 29,.p 1010 0 [.bool sl,.slice (p4 3).A (p4 3).N (p4 3).C,.slice (p4 3).A' (p4 3).N' (p4 3).C'],.p 1011 0 [.bool sh,.slice (p4 3).A2 (p4 3).N2 (p4 3).C2,.slice (p4 3).A3 (p4 3).N3 (p4 3).C3],.v 10 (.bool li),.v 11 (.bool hi),.v 12 (.int .i64 0)]) (fun p4=>[(1,.int .u64 b),(2,.int .u8 md),(3,pT (p1 0).N 0),(6,.bool false),(7,.bool true),(9,pT (p4 11).N 0),(11,.bool hi),(12,.int .i64 0)]) (fun p4=>?_) (fun p4 W4 T hF hK=>?_)
 ·refine okl ?_
  iterate 2 refine okv ?_
  refine okc (fun W cx=>as_rea (unhide H1) (ht.kept cx.fr) (hn.kept cx.fr)) ?_
  iterate 6 refine okv ?_
  iterate 2 refine okn ?_
  iterate 2 refine okp ?_
  iterate 3 refine okv ?_
  exact ok_nil
 replace hS:=SymF.fc hS hF [0,1011] [⟨(p1 0).N,#[.int .i64 E,.int .i64 F],23,true⟩,⟨(p4 11).N,#[.bool sh,.slice (p4 3).A2 (p4 3).N2 (p4 3).C2,.slice (p4 3).A3 (p4 3).N3 (p4 3).C3],29,true⟩]
 replace hG:GsAt (gN (p4 3).A (p4 3).N nl :: gN (p4 3).A' (p4 3).N' dl :: gN (p4 3).A2 (p4 3).N2 nh :: gN (p4 3).A3 (p4 3).N3 dh :: _) W4:=⟨(hF.fx 3).1,(hF.fx 3).2.1,(hF.fx 3).2.2.1,(hF.fx 3).2.2.2,hF.gx⟩
 clear hF
 refine wp_seq ?_
 refine wq hS hG hK (fun p5=>[.v 37 (.int .i64 0),.v 38 (.bool false)]) (fun p5=>[(1,.int .u64 b),(2,.int .u8 md),(3,pT (p1 0).N 0),(6,.bool false),(7,.bool true),(9,pT (p4 11).N 0),(11,.bool hi),(12,.int .i64 0),(38,.bool false)]) (fun p5=>?_) (fun p5 W5 T hF hK=>?_)
 ·iterate 2 refine okv ?_
  exact ok_nil
 obtain ⟨hS,hG⟩:=SymF.fg hS hF
 clear hF
 refine wp_cond_false (hK.ew 38) (wp_skip (then_n ?_))
 refine wq hS hG hK (fun p6=>[.l 41 (.agg #[.int .i64 E,.int .i64 F]) 0 0,.v 42 (.int .u64 b),.c (some 43) (cV (.tuple #[.int .u64 up,.int .i64 0])),.v 40 (.tuple #[.int .u64 up,.int .i64 0]),.v 44 (.int .u64 up),.v 45 (.int .i64 0),.v 13 (.int .u64 up),.v 12 (.int .i64 0)]) (fun p6=>[(1,.int .u64 b),(2,.int .u8 md),(3,pT (p1 0).N 0),(6,.bool false),(7,.bool true),(9,pT (p4 11).N 0),(11,.bool hi),(12,.int .i64 0),(13,.int .u64 up)]) (fun p6=>?_) (fun p6 W6 T hF hK=>?_)
 ·refine okl ?_
  refine okv ?_
  refine okc (fun W cx=>as_v (unhide HU _)) ?_
  iterate 5 refine okv ?_
  exact ok_nil
 obtain ⟨hS,hG⟩:=SymF.fg hS hF
 clear hF
 refine wp_seq ?_
 refine wq hS hG hK (fun p7=>[.v 46 (.int .i64 0),.v 47 (.bool false)]) (fun p7=>[(1,.int .u64 b),(2,.int .u8 md),(3,pT (p1 0).N 0),(6,.bool false),(7,.bool true),(9,pT (p4 11).N 0),(11,.bool hi),(12,.int .i64 0),(13,.int .u64 up),(47,.bool false)]) (fun p7=>?_) (fun p7 W7 T hF hK=>?_)
 ·iterate 2 refine okv ?_
  exact ok_nil
 obtain ⟨hS,hG⟩:=SymF.fg hS hF
 clear hF
 refine wp_cond_false (hK.ew 47) (wp_skip (then_n ?_))
 refine wq hS hG hK (fun p8=>[.l 49 (.agg #[.int .i64 E,.int .i64 F]) 0 0,.v 50 (.int .u64 b),.c (some 51) (cV (.tuple #[.int .u8 cc,.int .i64 0])),.v 48 (.tuple #[.int .u8 cc,.int .i64 0]),.v 52 (.int .u8 cc),.v 53 (.int .i64 0),.v 14 (.int .u8 cc),.v 12 (.int .i64 0)]) (fun p8=>[(1,.int .u64 b),(2,.int .u8 md),(3,pT (p1 0).N 0),(6,.bool false),(7,.bool true),(9,pT (p4 11).N 0),(11,.bool hi),(12,.int .i64 0),(13,.int .u64 up),(14,.int .u8 cc)]) (fun p8=>?_) (fun p8 W8 T hF hK=>?_)
 ·refine okl ?_
  refine okv ?_
  refine okc (fun W cx=>as_v (unhide HC _)) ?_
  iterate 5 refine okv ?_
  exact ok_nil
 obtain ⟨hS,hG⟩:=SymF.fg hS hF
 clear hF
 refine wq hS hG hK (fun p9=>[.l 55 (.agg #[.int .i64 E,.int .i64 F]) 0 0,.v 56 (.int .u64 up),.c (some 57) (cV (.tuple #[.int .u8 cd,.int .i64 0])),.v 54 (.tuple #[.int .u8 cd,.int .i64 0]),.v 58 (.int .u8 cd),.v 59 (.int .i64 0),.v 15 (.int .u8 cd),.v 16 (.int .i64 0)]) (fun p9=>[(1,.int .u64 b),(2,.int .u8 md),(3,pT (p1 0).N 0),(6,.bool false),(7,.bool true),(9,pT (p4 11).N 0),(11,.bool hi),(12,.int .i64 0),(13,.int .u64 up),(14,.int .u8 cc),(15,.int .u8 cd),(16,.int .i64 0)]) (fun p9=>?_) (fun p9 W9 T hF hK=>?_)
 ·refine okl ?_
  refine okv ?_
  refine okc (fun W cx=>as_v (unhide HD _)) ?_
  iterate 5 refine okv ?_
  exact ok_nil
 obtain ⟨hS,hG⟩:=SymF.fg hS hF
 clear hF
 refine wp_seq ?_
 refine wq hS hG hK (fun p10=>[.v 60 (.int .i64 0),.v 61 (.bool false),.v 62 (.bool false),.v 63 (.int .i64 0),.v 64 (.bool false),.v 65 (.bool false)]) (fun p10=>[(1,.int .u64 b),(2,.int .u8 md),(3,pT (p1 0).N 0),(6,.bool false),(7,.bool true),(9,pT (p4 11).N 0),(11,.bool hi),(12,.int .i64 0),(13,.int .u64 up),(14,.int .u8 cc),(15,.int .u8 cd),(16,.int .i64 0),(65,.bool false)]) (fun p10=>?_) (fun p10 W10 T hF hK=>?_)
 ·iterate 6 refine okv ?_
  exact ok_nil
 obtain ⟨hS,hG⟩:=SymF.fg hS hF
 clear hF
 refine wp_cond_false (hK.ew 65) (wp_skip ?_)
 refine then_n (wp_seq ?_)
 refine wq hS hG hK (fun p11=>[.v 66 (.int .u8 cd),.v 67 (.bool false)]) (fun p11=>[(1,.int .u64 b),(2,.int .u8 md),(3,pT (p1 0).N 0),(6,.bool false),(7,.bool true),(9,pT (p4 11).N 0),(11,.bool hi),(12,.int .i64 0),(13,.int .u64 up),(14,.int .u8 cc),(15,.int .u8 cd),(16,.int .i64 0),(67,.bool false)]) (fun p11=>?_) (fun p11 W11 T hF hK=>?_)
 ·refine okv ?_
  refine okvb (beq_false_of_ne (show cd≠4 by omega)) ?_
  exact ok_nil
 obtain ⟨hS,hG⟩:=SymF.fg hS hF
 clear hF
 refine wp_cond_false (hK.ew 67) (wp_skip ?_)
 refine then_n (wp_seq ?_)
 refine wq hS hG hK (fun p12=>[.v 69 (.int .u8 cd),.v 70 (.bool true)]) (fun p12=>[(1,.int .u64 b),(2,.int .u8 md),(3,pT (p1 0).N 0),(6,.bool false),(7,.bool true),(9,pT (p4 11).N 0),(11,.bool hi),(12,.int .i64 0),(13,.int .u64 up),(14,.int .u8 cc),(16,.int .i64 0),(70,.bool true)]) (fun p12=>?_) (fun p12 W12 T hF hK=>?_)
 ·refine okv ?_
  refine okvb (beq_iff_eq.2 (show cd = 1 by omega)) ?_
  exact ok_nil
 obtain ⟨hS,hG⟩:=SymF.fg hS hF
 clear hF
 refine wp_cond_true (hK.ew 70) ?_
 refine wg hS hG hK (fun p13=>[.l 72 (.agg #[.int .i64 E,.int .i64 F]) 0 0,.c (some 73) (cV (.tuple #[.int .u64 S,.int .i64 0])),.v 71 (.tuple #[.int .u64 S,.int .i64 0]),.v 74 (.int .u64 S),.v 75 (.int .i64 0),.v 13 (.int .u64 S),.v 12 (.int .i64 0)]) (fun p13=>[(1,.int .u64 b),(2,.int .u8 md),(3,pT (p1 0).N 0),(6,.bool false),(7,.bool true),(9,pT (p4 11).N 0),(11,.bool hi),(12,.int .i64 0),(13,.int .u64 S),(14,.int .u8 cc),(16,.int .i64 0)]) (fun p13=>?_) (fun p13 W13 T hF hK=>?_)
 ·refine okl ?_
  refine okc (fun W cx=>as_v (unhide HN _)) ?_
  iterate 5 refine okv ?_
  exact ok_nil
 obtain ⟨hS,hG⟩:=SymF.fg hS hF
 clear hF
 refine then_n (wp_seq ?_)
 refine wq hS hG hK (fun p14=>[.v 76 (.int .u8 cc),.v 77 (.bool false)]) (fun p14=>[(1,.int .u64 b),(2,.int .u8 md),(3,pT (p1 0).N 0),(6,.bool false),(7,.bool true),(9,pT (p4 11).N 0),(11,.bool hi),(12,.int .i64 0),(13,.int .u64 S),(16,.int .i64 0),(77,.bool false)]) (fun p14=>?_) (fun p14 W14 T hF hK=>?_)
 ·refine okv ?_
  refine okvb (beq_false_of_ne (show cc≠1 by omega)) ?_
  exact ok_nil
 obtain ⟨hS,hG⟩:=SymF.fg hS hF
 clear hF
 refine wp_cond_false (hK.ew 77) (wp_skip (then_n ?_))
 refine wq hS hG hK (fun p15=>[.l 94 (.agg #[.int .i64 E,.int .i64 F]) 0 0,.v 95 (.int .u64 S),.v 96 (.int .u8 md),.c (some 97) (cRea sl2 sh2 li2 hi2 nl2 dl2 nh2 dh2),.v 93 (.tuple #[.agg #[.bool sl2,.slice (p15 3).A (p15 3).N (p15 3).C,.slice (p15 3).A' (p15 3).N' (p15 3).C'],.agg #[.bool sh2,.slice (p15 3).A2 (p15 3).N2 (p15 3).C2,.slice (p15 3).A3 (p15 3).N3 (p15 3).C3],.bool li2,.bool hi2,.int .i64 0]),.v 98 (.agg #[.bool sl2,.slice (p15 3).A (p15 3).N (p15 3).C,.slice (p15 3).A' (p15 3).N' (p15 3).C']),.v 99 (.agg #[.bool sh2,.slice (p15 3).A2 (p15 3).N2 (p15 3).C2,.slice (p15 3).A3 (p15 3).N3 (p15 3).C3]),.v 100 (.bool li2),.v 101 (.bool hi2),.v 102 (.int .i64 0),.n 17 #[.bool false,.slice none 0 0,.slice none 0 0] 29,.n 18 #[.bool false,.slice none 0 0,.slice none 0 0] 29,.p 1010 0 [.bool sl2,.slice (p15 3).A (p15 3).N (p15 3).C,.slice (p15 3).A' (p15 3).N' (p15 3).C'],.p 1011 0 [.bool sh2,.slice (p15 3).A2 (p15 3).N2 (p15 3).C2,.slice (p15 3).A3 (p15 3).N3 (p15 3).C3],.v 19 (.bool li2),.v 20 (.bool hi2),.v 21 (.int .i64 0)]) (fun p15=>[(1,.int .u64 b),(2,.int .u8 md),(3,pT (p1 0).N 0),(6,.bool false),(7,.bool true),(9,pT (p4 11).N 0),(11,.bool hi),(12,.int .i64 0),(16,.int .i64 0),(17,pT (p15 10).N 0),(19,.bool li2),(21,.int .i64 0)]) (fun p15=>?_) (fun p15 W15 T hF hK=>?_)
 ·refine okl ?_
  iterate 2 refine okv ?_
  refine okc (fun W cx=>as_rea (unhide H2) (ht.kept cx.fr) (hn.kept cx.fr)) ?_
  iterate 6 refine okv ?_
  iterate 2 refine okn ?_
  iterate 2 refine okp ?_
  iterate 3 refine okv ?_
  exact ok_nil
 replace hS:=SymF.fc hS hF [0,1,1010] [⟨(p1 0).N,#[.int .i64 E,.int .i64 F],23,true⟩,⟨(p4 11).N,#[.bool sh,.slice (p4 3).A2 (p4 3).N2 (p4 3).C2,.slice (p4 3).A3 (p4 3).N3 (p4 3).C3],29,true⟩,⟨(p15 10).N,#[.bool sl2,.slice (p15 3).A (p15 3).N (p15 3).C,.slice (p15 3).A' (p15 3).N' (p15 3).C'],29,true⟩]
 replace hG:GsAt (gN (p15 3).A (p15 3).N nl2 :: gN (p15 3).A' (p15 3).N' dl2 :: gN (p15 3).A2 (p15 3).N2 nh2 :: gN (p15 3).A3 (p15 3).N3 dh2 :: _) W15:=⟨(hF.fx 3).1,(hF.fx 3).2.1,(hF.fx 3).2.2.1,(hF.fx 3).2.2.2,hF.gx⟩
 clear hF
 refine wq hS hG hK (fun p16=>[.l 104 (.agg #[.bool sl2,.slice (p15 3).A (p15 3).N (p15 3).C,.slice (p15 3).A' (p15 3).N' (p15 3).C']) 2 0,.l 105 (.agg #[.bool sh,.slice (p4 3).A2 (p4 3).N2 (p4 3).C2,.slice (p4 3).A3 (p4 3).N3 (p4 3).C3]) 1 0,.c (some 106) (cV (.tuple #[.int .i64 0,.int .i64 0])),.v 103 (.tuple #[.int .i64 0,.int .i64 0]),.v 107 (.int .i64 0),.v 108 (.int .i64 0),.v 22 (.int .i64 0),.v 23 (.int .i64 0)]) (fun p16=>[(1,.int .u64 b),(2,.int .u8 md),(3,pT (p1 0).N 0),(6,.bool false),(7,.bool true),(9,pT (p4 11).N 0),(11,.bool hi),(12,.int .i64 0),(16,.int .i64 0),(19,.bool li2),(21,.int .i64 0),(22,.int .i64 0),(23,.int .i64 0)]) (fun p16=>?_) (fun p16 W16 T hF hK=>?_)
 ·iterate 2 refine okl ?_
  refine okc (fun W cx=>as_v (unhide HM _ _ _ (p15 3).C _ _ (p15 3).C' _ _ (p4 3).C2 _ _ (p4 3).C3 (cx.G.1) (cx.G.2.1) (cx.G.2.2.2.2.2.2.1) (cx.G.2.2.2.2.2.2.2.1))) ?_
  iterate 5 refine okv ?_
  exact ok_nil
 obtain ⟨hS,hG⟩:=SymF.fg hS hF
 clear hF
 refine wq hS hG hK (fun p17=>[.v 109 (.bool true),.v 110 (.bool true),.v 111 (.int .i64 0),.v 112 (.bool true),.v 113 (.bool true),.v 114 (.bool true),.v 115 (.int .i64 0),.v 116 (.bool true),.v 117 (.bool true),.v 118 (.bool true),.v 119 (.int .i64 0),.v 120 (.bool true),.v 121 (.bool true),.v 122 (.bool true),.v 123 (.int .i64 0),.v 124 (.bool true),.v 125 (.bool true),.v 126 (.bool true),.v 127 (.int .i64 0),.v 128 (.bool true),.v 129 (.bool true),.v 130 (.bool true),.v 131 (.bool hi),.v 132 (.bool li2),.v 133 (.bool true),.v 134 (.bool true),.v 6 (.bool true)]) (fun p17=>[(1,.int .u64 b),(2,.int .u8 md),(3,pT (p1 0).N 0),(6,.bool true),(7,.bool true),(9,pT (p4 11).N 0)]) (fun p17=>?_) (fun p17 W17 T hF hK=>?_)
 ·iterate 24 refine okv ?_
  refine okvb (hx) ?_
  iterate 2 refine okv ?_
  exact ok_nil
 obtain ⟨hS,hG⟩:=SymF.fg hS hF
 clear hF
 refine wp_ret ?_
 exact sym_end hS hK (.bool true) [] [] (by kernel_rfl) (by kernel_rfl) ⟨rfl,hS.fr⟩
structure Endp (G:Nat) (g:Int) (t:Bool) (n d:Nat):Prop where
 hd:0 < d
 hg:Nat.gcd n d = 1
 hs:t = true→0 < n
 eq:Rm.sgn t n * ((2 ^ (G+1):Nat):Int) = g * (d:Int)
 bn:n < 2 ^ gKn
 bd:d < 2 ^ gKn
theorem rc_name {md:Nat} (hm:md≤4):∃ str,∀ W:World,Nb5 W→Calls Tryz.prog 21 #[.int .u8 (md:Int)] W fun e W'=>e = .returned (.tuple #[.string str,.int .i64 0])∧Below W.heap.size W W':=by
 rcases (show md = 0∨md = 1∨md = 2∨md = 3∨md = 4 by omega) with rfl|rfl|rfl|rfl|rfl
 ·exact ⟨_,fun W h=>rdname_0 W h⟩
 ·exact ⟨_,fun W h=>rdname_1 W h⟩
 ·exact ⟨_,fun W h=>rdname_2 W h⟩
 ·exact ⟨_,fun W h=>rdname_3 W h⟩
 ·exact ⟨_,fun W h=>rdname_4 W h⟩
theorem cls_fin {ex fr top:Nat} (h:ex < top):cls ex fr top≤3:=by unfold cls; (repeat' split) <;> omega
theorem class_place {E F S I:Nat} (h:Fm E F S I) (s:Bool) {k:Nat} (hk:k < S) (W:World) :
  Calls Tryz.prog 15 #[.agg #[.int .i64 (E:Int),.int .i64 (F:Int)],.int .u64 (((if s then S else 0)+k:Nat):Int)] W fun e W'=>e = .returned (.tuple #[.int .u8 (cls (k / 2 ^ F) (k % 2 ^ F) (2 ^ E - 1):Int),.int .i64 0])∧Below W.heap.size W W':=
 Class_ok E F _ _ _ _ h.fo (bt_place h s hk) _ (hide rfl) W
theorem cls_inf {E F S I:Nat} (h:Fm E F S I):cls (I / 2 ^ F) (I % 2 ^ F) (2 ^ E - 1) = 4:=by
 have hP:0 < 2 ^ F:=Nat.pow_pos (by omega)
 have hE:2 ^ 2≤2 ^ E:=Nat.pow_le_pow_right (by omega) h.fo.e2
 rw [show I / 2 ^ F = 2 ^ E - 1 by rw [h.hI]; exact Nat.mul_div_cancel _ hP,show I % 2 ^ F = 0 by rw [h.hI]; exact Nat.mul_mod_left ..]
 unfold cls; rw [if_neg (by omega),if_neg (by omega),if_neg (by omega),if_pos rfl]
theorem place_fin {E F S I k:Nat} (h:Fm E F S I) (hk:k < I):k / 2 ^ F < 2 ^ E - 1:=by
 rw [Nat.div_lt_iff_lt_mul (Nat.pow_pos (by omega)),← h.hI]; exact hk
theorem wor_any {E F S I B G:Nat} (h:Fm E F S I) (hB:B = 2 ^ (E - 1) - 1) (hG:(G:Int) = (B:Int)+(F:Int) - 1) (s:Bool) {k:Nat} (hk:k≤I) (b md:Int) :
  ∃ (sa:Bool) (m:Nat) (x:Int),Grd (-(G:Int)) gK sa m x (spv F s k)∧(0 < k→sa = s)∧(k = 0→sa = false)∧∀ (er c0:Int) (_:er = 0→c0 = 0) (W:World) (p:Nat),Tb W→W.heap[p]? = some (.cells #[.int .i64 (E:Int),.int .i64 (F:Int),.int .u64 b,.int .u8 md,.int .i64 er] 67 (0,0)) →
   Calls Tryz.prog 58 #[.pointer (some ⟨p,0,none⟩),.int .u64 (((if s then S else 0)+k:Nat):Int),.int .i64 c0] W fun e W'=>(∃ A N C,e = .returned (.agg #[.bool sa,.slice A N C,.int .i64 x])∧Mine W' 0 A N C m)∧Below W.heap.size W W':=by
 have hlt:=h.lt
 rcases Nat.lt_or_eq_of_le hk with hk|rfl
 ·obtain ⟨sa,m,x,hV,hD,h1,h2⟩:=grd_place h hB hG s hk
  have hc:=cls_fin (fr:=k % 2 ^ F) (place_fin h hk)
  refine ⟨sa,m,x,hD,h1,h2,fun er c0 hk0 W p hT hp=>?_⟩
  exact rwor_f W E F b md er _ c0 p sa m x _ hT hp hk0 (show ((cls (k / 2 ^ F) (k % 2 ^ F) (2 ^ E - 1):Nat):Int)≠4 by omega) (hide fun W=>class_place h s (Nat.lt_trans hk hlt) W) (hide fun W hT=>(hV W hT).mono fun e w' ⟨⟨A,N,C,e1,g⟩,hb⟩=>⟨⟨A,N,C,e1,g.mono (Nat.zero_le _)⟩,hb⟩)
 ·have h6:=h.six
  have hBb:B < 1024:=by
   have:=Nat.pow_le_pow_right (show 0 < 2 by omega) (show E - 1≤10 by have:=h.fo.e11; omega)
   omega
  have hc:=class_place h s hlt
  rw [cls_inf h] at hc
  refine ⟨s,1,(B:Int)+1,grd_inf h hB hG s,fun _=>rfl,fun e=>by omega,fun er c0 hk0 W p hT hp=>?_⟩
  refine rwor_i W E F b md er _ c0 p s _ (B:Int) S hT hp hk0 ?_ (by omega) (hide fun W=>hc W) (hide fun W=>Range_ok E F B h.fo (hide hB) W) (hide fun W=>signBit_is E F S h.fo (hide h.hS) W) (hide (mk1 _ _ (by omega)))
  cases s
  ·exact decide_eq_false (by simp; omega)
  ·exact decide_eq_true (by simp; omega)
theorem ends_any {E F S I B G:Nat} (h:Fm E F S I) (hB:B = 2 ^ (E - 1) - 1) (hG:(G:Int) = (B:Int)+(F:Int) - 1) (hG2:G≤2000) {md:Nat} (hm:md≤4) (s:Bool) {r:Nat} (hr:r < I) :
  ∃ (sl:Bool) (ml:Nat) (xl:Int) (sh:Bool) (mh:Nat) (xh:Int),Grd (-(G:Int) - 1) (gK+3) sl ml xl (gLo md s F r)∧Grd (-(G:Int) - 1) (gK+3) sh mh xh (gHi md s F r) ∧
   ∀ (W:World) (p:Nat),Tb W→W.heap[p]? = some (.cells #[.int .i64 (E:Int),.int .i64 (F:Int),.int .u64 (((if s then S else 0)+r:Nat):Int),.int .u8 (md:Int),.int .i64 0] 67 (0,0)) →
    Calls Tryz.prog 22 #[.pointer (some ⟨p,0,none⟩)] W fun e W'=>(∃ A N C A' N' C',e = .returned (.tuple #[.agg #[.bool sl,.slice A N C,.int .i64 xl],.agg #[.bool sh,.slice A' N' C',.int .i64 xh]])∧Mine W' 0 A N C ml∧Mine W' 0 A' N' C' mh)∧Below W.heap.size W W':=by
 have hlt:=h.lt
 have h6:=h.six
 have hL:-100000≤-(G:Int):=by omega
 obtain ⟨sa,m,x,hV,hD,h1,h2⟩:=grd_place h hB hG s hr
 have HV:Hid (∀ W:World,Tb W→Calls Tryz.prog 51 #[.agg #[.int .i64 (E:Int),.int .i64 (F:Int)],.int .u64 (((if s then S else 0)+r:Nat):Int)] W fun e W'=>(∃ A N C,e = .returned (.tuple #[.agg #[.bool sa,.slice A N C,.int .i64 x],.int .i64 0])∧Mine W' 0 A N C m)∧Below W.heap.size W W'):=
  hide fun W hT=>(hV W hT).mono fun e w' ⟨⟨A,N,C,e1,g⟩,hb⟩=>⟨⟨A,N,C,e1,g.mono (Nat.zero_le _)⟩,hb⟩
 have HB:=hide fun (W:World)=>signBit_is E F S h.fo (hide h.hS) W
 have hbor:∀ {s1 s2:Bool} {m1 m2:Nat} {x1 x2:Int} {q:Bool} {v:Nat} {y:Int},Bord md s1 m1 x1 s2 m2 x2 q v y→∀ (W:World) (p:Nat) (A:Option Addr) (N C:Nat) (A':Option Addr) (N' C':Nat),Tb W→W.heap[p]? = some (.cells #[.int .i64 (E:Int),.int .i64 (F:Int),.int .u64 (((if s then S else 0)+r:Nat):Int),.int .u8 (md:Int),.int .i64 0] 67 (0,0))→Mine W 0 A N C m1→Mine W 0 A' N' C' m2 →
   Calls Tryz.prog 57 #[.pointer (some ⟨p,0,none⟩),.agg #[.bool s1,.slice A N C,.int .i64 x1],.agg #[.bool s2,.slice A' N' C',.int .i64 x2]] W fun e W'=>(∃ A N C,e = .returned (.agg #[.bool q,.slice A N C,.int .i64 y])∧Mine W' 0 A N C v)∧Below W.heap.size W W':=
  fun hbd W p A N C A' N' C' hT hp g1 g2=>border_is _ _ _ 0 md p _ A N C _ _ _ A' N' C' _ _ _ _ _ W g1 g2 hT hp (mk1 _ _ (by decide)) hbd
 cases s
 ·
  simp only [Bool.false_eq_true,if_false,Nat.zero_add] at *
  obtain ⟨su,mu,xu,hDu,u1,u2,hWu⟩:=wor_any h hB hG false (show r+1≤I by omega) (r:Int) (md:Int)
  simp only [Bool.false_eq_true,if_false,Nat.zero_add] at hWu
  have hsa:sa = false:=by
   rcases Nat.eq_zero_or_pos r with e|e
   ·exact h2 e
   ·exact h1 e
  subst hsa
  obtain ⟨sh,mh,xh,hBo,hDh⟩:=bord_grd hL (by omega) hm hD hDu
  rw [(bord_val hm F r).1] at hDh
  have hup:upN S r = r+1:=by unfold upN; rw [if_pos (by omega)]
  have HUp:=Up_T h (b:=r) (by omega) (by rw [Nat.mod_eq_of_lt (by omega)]; omega) (by omega)
  rw [hup] at HUp
  rcases Nat.eq_zero_or_pos r with e|e
  ·subst e
   refine ⟨false,m,x,sh,mh,xh,?_,hDh,fun W p hT hp=>?_⟩
   ·have:=hD.up
    have e0:spv F false 0 = 0:=by unfold spv; rw [pv_zero]; rfl
    rw [e0] at this
    exact this.more (by omega)
   ·exact rend_0 W _ _ _ _ (S:Int) p false m x _ su mu xu sh mh xh hT hp HV HB rfl (by omega) (hide HUp) (hide fun W hT hp=>hWu 0 0 (fun _=>rfl) W p hT hp) (hide fun W A N C A' N' C' hT hp g1 g2=>hbor hBo W p A N C A' N' C' hT hp g1 g2)
  ·obtain ⟨sd,m2,xd,hDd,d1,d2,hWd⟩:=wor_any h hB hG false (show r - 1≤I by omega) (r:Int) (md:Int)
   simp only [Bool.false_eq_true,if_false,Nat.zero_add] at hWd
   have hsd:sd = false:=by
    rcases Nat.eq_zero_or_pos (r - 1) with e|e
    ·exact d2 e
    ·exact d1 e
   subst hsd
   obtain ⟨sl,ml,xl,hBl,hDl⟩:=bord_grd hL (by omega) hm hDd hD
   have hv:=(bord_val hm F (r - 1)).1
   rw [show r - 1+1 = r by omega] at hv
   rw [hv] at hDl
   have hdn:dnN S r = r - 1:=by unfold dnN; rw [if_neg (by omega),if_pos (by omega)]
   have HDn:=Down_T h (b:=r) (by omega) (by rw [Nat.mod_eq_of_lt (by omega)]; omega) (by omega)
   rw [hdn] at HDn
   refine ⟨sl,ml,xl,sh,mh,xh,by unfold gLo; rw [if_neg (by decide),if_neg (by omega)]; exact hDl,hDh,fun W p hT hp=>?_⟩
   exact rend_n W _ _ _ _ (S:Int) p false m x _ false m2 xd sl ml xl _ su mu xu sh mh xh hT hp HV HB (by omega) (by omega) (hide HDn) (hide fun W hT hp=>hWd 0 0 (fun _=>rfl) W p hT hp) (hide fun W A N C A' N' C' hT hp g1 g2=>hbor hBl W p A N C A' N' C' hT hp g1 g2) (hide HUp) (hide fun W hT hp=>hWu 0 0 (fun _=>rfl) W p hT hp) (hide fun W A N C A' N' C' hT hp g1 g2=>hbor hBo W p A N C A' N' C' hT hp g1 g2)
 ·
  simp only [if_true] at *
  obtain ⟨sd,m2,xd,hDd,d1,d2,hWd⟩:=wor_any h hB hG true (show r+1≤I by omega) ((S+r:Nat):Int) (md:Int)
  simp only [if_true] at hWd
  obtain rfl:=d1 (by omega)
  obtain ⟨sl,ml,xl,hBl,hDl⟩:=bord_grd hL (by omega) hm hDd hD
  rw [(bord_val hm F r).2] at hDl
  have hdn:dnN S (S+r) = S+(r+1):=by unfold dnN; rw [if_neg (by omega),if_neg (by omega)]; omega
  have hmod:(S+r) % S = r:=by rw [Nat.add_mod_left,Nat.mod_eq_of_lt (by omega)]
  have HDn:=Down_T h (b:=S+r) (by omega) (by rw [hmod]; omega) (by omega)
  rw [hdn] at HDn
  rcases Nat.eq_zero_or_pos r with e|e
  ·subst e
   obtain rfl:=h2 rfl
   refine ⟨sl,ml,xl,false,m,x,hDl,?_,fun W p hT hp=>?_⟩
   ·have:=hD.up
    have e0:spv F true 0 = 0:=by unfold spv; rw [pv_zero]; rfl
    rw [e0] at this
    exact this.more (by omega)
   ·exact rend_s W _ _ _ _ (S:Int) p false m x _ true m2 xd sl ml xl hT hp HV HB (by omega) (by omega) (hide HDn) (hide fun W hT hp=>hWd 0 0 (fun _=>rfl) W p hT hp) (hide fun W A N C A' N' C' hT hp g1 g2=>hbor hBl W p A N C A' N' C' hT hp g1 g2)
  ·obtain rfl:=h1 e
   obtain ⟨su,mu,xu,hDu,u1,u2,hWu⟩:=wor_any h hB hG true (show r - 1≤I by omega) ((S+r:Nat):Int) (md:Int)
   simp only [if_true] at hWu
   obtain ⟨sh,mh,xh,hBo,hDh⟩:=bord_grd hL (by omega) hm hD hDu
   have hv:=(bord_val hm F (r - 1)).2
   rw [show r - 1+1 = r by omega] at hv
   rw [hv] at hDh
   have hup:upN S (S+r) = S+(r - 1):=by unfold upN; rw [if_neg (by omega),if_neg (by omega)]; omega
   have HUp:=Up_T h (b:=S+r) (by omega) (by rw [hmod]; omega) (by omega)
   rw [hup] at HUp
   refine ⟨sl,ml,xl,sh,mh,xh,hDl,by unfold gHi; rw [if_pos rfl,if_neg (by omega)]; exact hDh,fun W p hT hp=>?_⟩
   exact rend_n W _ _ _ _ (S:Int) p true m x _ true m2 xd sl ml xl _ su mu xu sh mh xh hT hp HV HB (by omega) (by omega) (hide HDn) (hide fun W hT hp=>hWd 0 0 (fun _=>rfl) W p hT hp) (hide fun W A N C A' N' C' hT hp g1 g2=>hbor hBl W p A N C A' N' C' hT hp g1 g2) (hide HUp) (hide fun W hT hp=>hWu 0 0 (fun _=>rfl) W p hT hp) (hide fun W A N C A' N' C' hT hp g1 g2=>hbor hBo W p A N C A' N' C' hT hp g1 g2)
theorem g_small {E F S I B G:Nat} (h:Fm E F S I) (hB:B = 2 ^ (E - 1) - 1) (hG:(G:Int) = (B:Int)+(F:Int) - 1):G≤2000:=by
 have:=Nat.pow_le_pow_right (show 0 < 2 by omega) (show E - 1≤10 by have:=h.fo.e11; omega)
 have:=h.fo.f52
 omega
theorem reach_mine {E F S I B G:Nat} (h:Fm E F S I) (hB:B = 2 ^ (E - 1) - 1) (hG:(G:Int) = (B:Int)+(F:Int) - 1) {md:Nat} (hm:md≤4) (s:Bool) {r:Nat} (hr:r < I) :
  ∃ (sl sh:Bool) (nl dl nh dh:Nat),Endp G (gLo md s F r) sl nl dl∧Endp G (gHi md s F r) sh nh dh∧∀ W:World,Tb W→Nb5 W→Calls Tryz.prog 6 #[.agg #[.int .i64 (E:Int),.int .i64 (F:Int)],.int .u64 (((if s then S else 0)+r:Nat):Int),.int .u8 (md:Int)] W fun en W'=>(∃ A1 N1 C1 A1' N1' C1' A2 N2 C2 A2' N2' C2',en = .returned (.tuple #[.agg #[.bool sl,.slice A1 N1 C1,.slice A1' N1' C1'],.agg #[.bool sh,.slice A2 N2 C2,.slice A2' N2' C2'],.bool (iLo md s r),.bool (iHi md s r),.int .i64 0])∧Mine W' W.heap.size A1 N1 C1 nl∧Mine W' W.heap.size A1' N1' C1' dl∧Mine W' W.heap.size A2 N2 C2 nh∧Mine W' W.heap.size A2' N2' C2' dh)∧Below W.heap.size W W':=by
 have hG2:=g_small h hB hG
 have hlt:=h.lt
 obtain ⟨sl,ml,xl,sh,mh,xh,hDl,hDh,hE⟩:=ends_any h hB hG hG2 hm s hr
 obtain ⟨nl,dl,l1,l2,l3,l4,l5,l6,l7,lr,il,jl,l8,l9,lx⟩:=hDl.ratio (G:=G) (by omega) (by decide) (by omega)
 obtain ⟨nh,dh,k1,k2,k3,k4,k5,k6,k7,kr,ih,jh,k8,k9,kx⟩:=hDh.ratio (G:=G) (by omega) (by decide) (by omega)
 obtain ⟨str,hN⟩:=rc_name hm
 refine ⟨sl,sh,nl,dl,nh,dh,⟨l1,l2,l3,l4,l5,l6⟩,⟨k1,k2,k3,k4,k5,k6⟩,fun W hT hn=>?_⟩
 have hlo:GoTo md s F r G sl (ml * 2 ^ il) (2 ^ jl)↔iLo md s r = true:=by rw [← l8,← l9]; exact goes_lo l1 l3 l4
 have hhi:GoTo md s F r G sh (mh * 2 ^ ih) (2 ^ jh)↔iHi md s r = true:=by rw [← k8,← k9]; exact goes_hi k1 k3 k4
 have hb2:(if s then S else 0)+r < 2 * S:=by cases s <;> simp <;> omega
 exact rrea_ok W E F _ md str sl ml xl sh mh xh nl dl nh dh _ _ hT hn (hide fun W q hq=>check1_ok _ _ q _ (fits_T h hb2) W hq) (hide fun W hn=>hN W hn) (hide hE) (hide lr) (hide kr) (hide fun W p A N C hp g=>has_any h hB hG hm s hr hDl.ok lx _ hlo 0 W p A N C hp g) (hide fun W p A N C hp g=>has_any h hB hG hm s hr hDh.ok kx _ hhi 0 W p A N C hp g)
theorem reach_any {E F S I B G:Nat} (h:Fm E F S I) (hB:B = 2 ^ (E - 1) - 1) (hG:(G:Int) = (B:Int)+(F:Int) - 1) {md:Nat} (hm:md≤4) (s:Bool) {r:Nat} (hr:r < I) :
  ∃ (sl sh:Bool) (nl dl nh dh:Nat),Endp G (gLo md s F r) sl nl dl∧Endp G (gHi md s F r) sh nh dh∧Rea E F (((if s then S else 0)+r:Nat):Int) md sl sh (iLo md s r) (iHi md s r) nl dl nh dh:=by
 obtain ⟨sl,sh,nl,dl,nh,dh,h1,h2,h3⟩:=reach_mine h hB hG hm s hr
 refine ⟨sl,sh,nl,dl,nh,dh,h1,h2,fun W hT hn=>(h3 W hT hn).mono ?_⟩
 rintro e w' ⟨⟨A1,N1,C1,A1',N1',C1',A2,N2,C2,A2',N2',C2',e1,g1,g2,g3,g4⟩,hb⟩
 exact ⟨⟨A1,N1,C1,A1',N1',C1',A2,N2,C2,A2',N2',C2',e1,g1.num,g2.num,g3.num,g4.num⟩,hb⟩
theorem value_nonf (E F B b ex fr:Nat) (s:Bool) (h0:Fo E F) (HB:Hid (B = 2 ^ (E - 1) - 1)) (hB:Bt E F b s ex fr) (hnf:¬ ex+1 < 2 ^ E) (w:World) :
  Calls Tryz.prog 51 #[.agg #[.int .i64 (E:Int),.int .i64 (F:Int)],.int .u64 b] w fun e w'=>e = .returned (.tuple #[.agg #[.bool false,.slice none 0 0,.int .i64 0],.int .i64 8])∧Below w.heap.size w w':=by
 have h2:=(pow_bound h0.e2:2 ^ 2≤2 ^ E)
 by_cases hf:fr = 0
 ·exact Value_4 E F B b ex fr s h0 HB hB (by unfold cls; rw [if_neg (by omega),if_neg (by omega),if_neg (by omega),if_pos hf]) w
 ·exact Value_5 E F B b ex fr s h0 HB hB (by unfold cls; rw [if_neg (by omega),if_neg (by omega),if_neg (by omega),if_neg hf]) w
theorem beside_bad {E F S I:Nat} (h:Fm E F S I) (s:Bool) {q:Nat} (hq:I≤q) (hq2:q < S) :
  (∃ (sd:Bool) (kd:Nat) (cd:Int),kd≤I∧Tel 59 #[.agg #[.int .i64 (E:Int),.int .i64 (F:Int)],.int .u64 (((if s then S else 0)+q:Nat):Int)] (.tuple #[.int .u64 (((if sd then S else 0)+kd:Nat):Int),.int .i64 cd])) ∧
  (∃ (su:Bool) (ku:Nat) (cu:Int),ku≤I∧Tel 14 #[.agg #[.int .i64 (E:Int),.int .i64 (F:Int)],.int .u64 (((if s then S else 0)+q:Nat):Int)] (.tuple #[.int .u64 (((if su then S else 0)+ku:Nat):Int),.int .i64 cu])):=by
 have hlt:=h.lt
 have h6:=h.six
 have hmod:((if s then S else 0)+q) % S = q:=by
  cases s
  ·simp only [Bool.false_eq_true,if_false,Nat.zero_add]; exact Nat.mod_eq_of_lt hq2
  ·simp only [if_true]; rw [Nat.add_mod_left,Nat.mod_eq_of_lt hq2]
 have hb2:(if s then S else 0)+q < 2 * S:=by cases s <;> simp <;> omega
 by_cases he:q = I
 ·subst he
  cases s
  ·simp only [Bool.false_eq_true,if_false,Nat.zero_add] at *
   refine ⟨⟨false,q - 1,0,by omega,?_⟩,⟨false,0,60,by omega,?_⟩⟩
   ·have:=Down_T h hb2 (by rw [hmod]; omega) (by omega)
    rw [show dnN S q = q - 1 by unfold dnN; rw [if_neg (by omega),if_pos (by omega)]] at this
    simpa using this
   ·have:=Up_E h
    simpa using this
  ·simp only [if_true] at *
   refine ⟨⟨false,0,60,by omega,?_⟩,⟨true,q - 1,0,by omega,?_⟩⟩
   ·have:=Down_E h
    simpa using this
   ·have:=Up_T h hb2 (by rw [hmod]; omega) (by omega)
    rw [show upN S (S+q) = S+(q - 1) by unfold upN; rw [if_neg (by omega),if_neg (by omega)]; omega] at this
    simpa using this
 ·refine ⟨⟨false,0,2,by omega,?_⟩,⟨false,0,2,by omega,?_⟩⟩
  ·have:=Down_N h hb2 (by rw [hmod]; omega)
   simpa using this
  ·have:=Up_N h hb2 (by rw [hmod]; omega)
   simpa using this
theorem reach_bad {E F S I B G:Nat} (h:Fm E F S I) (hB:B = 2 ^ (E - 1) - 1) (hG:(G:Int) = (B:Int)+(F:Int) - 1) {md:Nat} (hm:md≤4) (s:Bool) {q:Nat} (hq:I≤q) (hq2:q < S) (W:World) (hT:Tb W) (hn:Nb5 W) :
  Calls Tryz.prog 6 #[.agg #[.int .i64 (E:Int),.int .i64 (F:Int)],.int .u64 (((if s then S else 0)+q:Nat):Int),.int .u8 (md:Int)] W fun e W'=>e = .returned (.tuple #[.agg #[.bool false,.slice none 0 0,.slice none 0 0],.agg #[.bool false,.slice none 0 0,.slice none 0 0],.bool false,.bool false,.int .i64 8])∧Below W.heap.size W W':=by
 have hlt:=h.lt
 have h6:=h.six
 have hG2:=g_small h hB hG
 have hL:-100000≤-(G:Int):=by omega
 have hpos:0 < S:=by omega
 obtain ⟨⟨sd,kd,cd,hkd,hDn⟩,⟨su,ku,cu,hku,hUp⟩⟩:=beside_bad h s hq hq2
 obtain ⟨b,hbd⟩:∃ b,b = (if s then S else 0)+q:=⟨_,rfl⟩
 have hbt:=bt_place h s hq2
 rw [← hbd] at hDn hUp hbt ⊢
 have hb0:(b:Int)≠0:=by cases s <;> simp at hbd <;> omega
 have hbS:(b:Int)≠(S:Int):=by cases s <;> simp at hbd <;> omega
 have hb2:b < 2 * S:=by cases s <;> simp at hbd <;> omega
 have hval:=fun W=>value_nonf E F B b _ _ s h.fo (hide hB) hbt (by
  have h1:2 ^ E - 1≤q / 2 ^ F:=(Nat.le_div_iff_mul_le (Nat.pow_pos (by omega))).2 (by rw [← h.hI]; exact hq)
  omega) W
 have gz:Grd (-(G:Int)) gK false 0 0 0:=⟨Or.inl ⟨rfl,rfl,rfl⟩,by omega,by rw [Nat.zero_mul]; rfl,by rw [Nat.zero_mul]; exact Nat.pow_pos (by omega)⟩
 obtain ⟨sd',m1,x1,hD1,-,-,hW1⟩:=wor_any h hB hG sd hkd (b:Int) (md:Int)
 obtain ⟨su',m2,x2,hD2,-,-,hW2⟩:=wor_any h hB hG su hku (b:Int) (md:Int)
 obtain ⟨sl,ml,xl,hBl,hDl⟩:=bord_grd hL (by omega) hm hD1 gz
 obtain ⟨sh,mh,xh,hBh,hDh⟩:=bord_grd hL (by omega) hm gz hD2
 obtain ⟨nl,dl,l1,l2,l3,l4,l5,l6,l7,lr,il,jl,l8,l9,lx⟩:=hDl.ratio (G:=G) (by omega) (by decide) (by omega)
 obtain ⟨nh,dh,k1,k2,k3,k4,k5,k6,k7,kr,ih,jh,k8,k9,kx⟩:=hDh.ratio (G:=G) (by omega) (by decide) (by omega)
 obtain ⟨str,hN⟩:=rc_name hm
 have hor:∀ (P:Prop),∃ q:Bool,(P↔q = true):=fun P=>by
  by_cases hP:P
  ·exact ⟨true,by simp [hP]⟩
  ·exact ⟨false,by simp [hP]⟩
 have hhas:∀ {s1:Bool} {m:Nat} {x:Int} {i j:Nat},OkD s1 m x→x = (i:Int) - (j:Int)→∃ q:Bool,∀ (W:World) (p:Nat) (A:Option Addr) (N C:Nat),W.heap[p]? = some (.cells #[.int .i64 (E:Int),.int .i64 (F:Int),.int .u64 (b:Int),.int .u8 (md:Int),.int .i64 8] 67 (0,0))→Mine W 0 A N C m→Calls Tryz.prog 25 #[.pointer (some ⟨p,0,none⟩),.agg #[.bool s1,.slice A N C,.int .i64 x]] W fun e W'=>e = .returned (.bool q)∧Below W.heap.size W W':=by
  intro s1 m x i j hO hx
  obtain ⟨bt,fl,hD,-⟩:=dyadic_goes h hB hG hm s hO hx
  have hs:decide ((b:Int) ≥ (S:Int)) = s:=by
   cases s
   ·exact decide_eq_false (by simp at hbd; omega)
   ·exact decide_eq_true (by simp at hbd; omega)
  have HB:=hide fun (W:World)=>signBit_is E F S h.fo (hide h.hS) W
  by_cases he:(bt:Int) = (b:Int)
  ·by_cases ho:bits BinOp.and .u8 (fl:Int) 2 = 0
   ·exact ⟨true,fun W p A N C hp g=>rhas_t W _ _ _ _ _ p s1 A N C x s _ _ _ hp hs HB (hide fun W' hb=>hD W' 0 A N C (g.kept hb)) he ho⟩
   ·exact ⟨false,fun W p A N C hp g=>rhas_o W _ _ _ _ _ p s1 A N C x s _ _ _ _ hp hs HB (hide fun W' hb=>hD W' 0 A N C (g.kept hb)) he rfl ho⟩
  ·exact ⟨false,fun W p A N C hp g=>rhas_n W _ _ _ _ _ p s1 A N C x s _ _ _ hp hs HB (hide fun W' hb=>hD W' 0 A N C (g.kept hb)) he⟩
 obtain ⟨li,hli⟩:=hhas hDl.ok lx
 obtain ⟨hi,hhi⟩:=hhas hDh.ok kx
 refine rrea_x W E F _ md str sl ml xl sh mh xh nl dl nh dh li hi hT hn (hide fun W q hq=>check1_ok _ _ q _ (fits_T h hb2) W hq) (hide fun W hn=>hN W hn) (hide fun W p hT hp=>?_) (hide lr) (hide kr) (hide hli) (hide hhi)
 refine (rend_x W E F b md S p _ cd sd' m1 x1 _ cu su' m2 x2 sl ml xl sh mh xh hT hp (hide hval) (hide fun W=>signBit_is E F S h.fo (hide h.hS) W) hb0 hbS (hide hDn) (hide fun W hT hp=>hW1 8 cd (fun e=>absurd e (by decide)) W p hT hp) (hide fun W A N C A' N' C' hT hp g1 g2=>border_is _ _ _ 8 md p _ A N C _ _ _ A' N' C' _ _ _ _ _ W g1 g2 hT hp (mk1 _ _ (by decide)) hBl) (hide hUp) (hide fun W hT hp=>hW2 8 cu (fun e=>absurd e (by decide)) W p hT hp) (hide fun W A N C A' N' C' hT hp g1 g2=>border_is _ _ _ 8 md p _ A N C _ _ _ A' N' C' _ _ _ _ _ W g1 g2 hT hp (mk1 _ _ (by decide)) hBh)).mono ?_
 rintro e w' ⟨g,k2,k3⟩
 refine ⟨g,OneBut.below (by decide) (noLimb_of _ rfl) (noLimb_of _ rfl) rfl (by simp) hp k2 k3⟩
theorem fo5:Fo 5 10:=⟨by decide,by decide,by decide,by decide⟩
theorem fm5:Fm 5 10 32768 31744:=⟨fo5,by decide,by decide⟩
theorem hb5:Hid (15 = 2 ^ (5 - 1) - 1):=hide rfl
theorem up5a:Tel 14 #[.agg #[.int .i64 5,.int .i64 10],.int .u64 32769] (.tuple #[.int .u64 32768,.int .i64 0]):=Up_T fm5 (b:=32769) (by decide) (by decide) (by decide)
theorem up5b:Tel 14 #[.agg #[.int .i64 5,.int .i64 10],.int .u64 31744] (.tuple #[.int .u64 0,.int .i64 60]):=Up_E fm5
theorem st5:Tel 18 #[.agg #[.int .i64 5,.int .i64 10],.int .u64 31744,.int .u64 64512] (.tuple #[.bool true,.int .u64 63488,.int .i64 0]):=Steps_T fm5 (a:=31744) (b:=64512) (by decide) (by decide) (by decide) (by decide)
theorem bt5g:Bt 5 10 31743 false 30 1023:=⟨by decide,by decide,by decide⟩
theorem vals5g:Vals 5 10 31743 false 2047 5:=by
 have h:=vals_wo (E:=5) (F:=10) (B:=15) (M:=2047) (z:=0) (xe:=5) fo5 hb5 bt5g ⟨⟨1023,by decide⟩,Or.inr ⟨by decide,by decide,by decide⟩,by decide,by decide⟩
 rw [show (2047 / 2 ^ 0:Nat) = 2047 from by decide,show ((5:Int)+((0:Nat):Int)) = 5 from by decide] at h
 exact h
theorem half6_any (w:World):Calls Tryz.prog 17 #[] w fun e w'=>e = .returned (.agg #[.int .i64 5,.int .i64 10])∧Below w.heap.size w w':=by
 go_enter Tryz.func17,Tryz.ntmps17
 go_wp2
 exact bodyPost_ret (v:=.agg #[.int .i64 5,.int .i64 10]) (by simp [results,Tryz.results17,go_sem]) rfl ⟨rfl,gr_alloc _ _⟩
theorem rreach5 (w:World) (hT:Tb w) (hN:Nb5 w):Calls Tryz.prog 6 #[.agg #[.int .i64 5,.int .i64 10],.int .u64 0,.int .u8 1] w fun e w'=>(∃ A N C A' N' C' B M D B' M' D',e = .returned (.tuple #[.agg #[.bool false,.slice A N C,.slice A' N' C'],.agg #[.bool false,.slice B M D,.slice B' M' D'],.bool true,.bool false,.int .i64 0])∧Mine w' w.heap.size A N C 0∧Mine w' w.heap.size A' N' C' 1∧Mine w' w.heap.size B M D 1∧Mine w' w.heap.size B' M' D' 33554432)∧Below w.heap.size w w':=by
 obtain ⟨sl,sh,nl,dl,nh,dh,hl,hh,hR⟩:=reach_mine (md:=1) fm5 (B:=15) (G:=24) (by decide) (by decide) (by decide) false (r:=0) (by decide)
 have e1:gLo 1 false 10 0 = 0:=rfl
 have e2:gHi 1 false 10 0 = 1:=by decide
 have a1:=hl.eq
 rw [e1,Int.zero_mul] at a1
 have n0:nl = 0:=by
  cases sl <;> simp [Rm.sgn] at a1 <;> omega
 subst n0
 have s0:sl = false:=by
  cases sl
  ·rfl
  ·have:=hl.hs rfl; omega
 have d0:dl = 1:=by have:=hl.hg; rwa [Nat.gcd_zero_left] at this
 have a2:=hh.eq
 rw [e2,Int.one_mul] at a2
 have hd:=hh.hd
 have s1:sh = false:=by
  cases sh
  ·rfl
  ·simp [Rm.sgn] at a2; omega
 subst s1
 have a3:nh * 33554432 = dh:=by
  simp [Rm.sgn] at a2; omega
 have n1:nh = 1:=by
  have:=hh.hg
  rw [← a3,Nat.gcd_mul_right_right] at this
  exact this
 subst s0; subst d0; subst n1
 rw [Nat.one_mul] at a3
 subst a3
 exact hR w hT hN
theorem rg5:Tel 52 #[.agg #[.int .i64 5,.int .i64 10]] (.tuple #[.int .i64 (-24),.int .i64 15,.int .i64 0]):=fun W=>by
 have h:=Range_ok 5 10 15 fo5 hb5 W
 rw [show (1 - ((15:Nat):Int) - ((10:Nat):Int)) = -24 from by decide] at h
 exact h
theorem ulp5 (w:World) (hT:Tb w):Calls Tryz.prog 19 #[.agg #[.int .i64 5,.int .i64 10],.int .u64 31743] w fun e w'=>(∃ A N C,e = .returned (.tuple #[.agg #[.bool false,.slice A N C,.int .i64 5],.int .i64 0])∧Mine w' w.heap.size A N C 1)∧Below w.heap.size w w':=
 Ulp_is 5 10 31743 false 2047 5 false 30 1023 (-24) 15 30 5 w hT (hide vals5g) (fun W=>Split_ok 5 10 31743 30 1023 false fo5 bt5g W) rg5 (by decide) (by decide) (by decide) (by decide) (hide (mk1 _ _ (by decide)))
theorem rawake6  (w:World) (hT:Tb w) (hN:Nb5 w) :
  Calls Tryz.prog 5 #[] w fun e w'=>e = .returned (.bool true)∧Below w.heap.size w w':=by
 have HT:=hide hT
 have HN:=hide hN
 clear hT hN
 go_enter Tryz.func5,Tryz.ntmps5
 go_wp2_with fail
 refine (half6_any _).mono ?_
 rintro e w1 ⟨rfl,hb1⟩
 have hS:=(Fs.begin w).kept hb1
 go_wp2_with fail
 refine (up5a _).mono ?_
 rintro e w2 ⟨rfl,hb2⟩
 replace hS:=hS.kept hb2
 go_wp2_with fail
 refine (half6_any _).mono ?_
 rintro e w3 ⟨rfl,hb3⟩
 replace hS:=hS.kept hb3
 go_wp2_with fail
 refine (up5b _).mono ?_
 rintro e w4 ⟨rfl,hb4⟩
 replace hS:=hS.kept hb4
 go_wp2_with fail
 refine (half6_any _).mono ?_
 rintro e w5 ⟨rfl,hb5⟩
 replace hS:=hS.kept hb5
 go_wp2_with fail
 refine (st5 _).mono ?_
 rintro e w6 ⟨rfl,hb6⟩
 replace hS:=hS.kept hb6
 go_wp2_with fail
 refine (half6_any _).mono ?_
 rintro e w7 ⟨rfl,hb7⟩
 replace hS:=hS.kept hb7
 go_wp2_with fail
 refine (rreach5 _ ((unhide HT).kept hS.fr) ((unhide HN).kept hS.fr)).mono ?_
 rintro e w8 ⟨⟨A1,N1,C1,A2,N2,C2,A3,N3,C3,A4,N4,C4,rfl,g1,g2,g3,g4⟩,hb8⟩
 replace hS:=hS.kept hb8
 obtain rfl:=g1.num.zero.2 rfl
 obtain rfl:=(Mine.limb g3 (by decide) (by decide)).1
 obtain rfl:=(Mine.limb g4 (by decide) (by decide)).1
 have G4:=hide g4
 clear g1 g2 g3 g4
 replace hS:=hS.alloc #[.bool false,.slice A1 0 C1,.slice A2 N2 C2] 29
 replace G4:=hide ((unhide G4).alloc (.cells #[.bool false,.slice A1 0 C1,.slice A2 N2 C2] 29))
 replace hS:=hS.alloc #[.bool false,.slice A3 1 C3,.slice A4 1 C4] 29
 replace G4:=hide ((unhide G4).alloc (.cells #[.bool false,.slice A3 1 C3,.slice A4 1 C4] 29))
 simp only [World.size_alloc] at hS
 obtain ⟨⟨ya,yb,yc,-⟩,⟨yd,ye,yf,-⟩,-⟩:=hS.cells
 go_wp2_with fail
 refine (half6_any _).mono ?_
 rintro e w9 ⟨rfl,hb9⟩
 replace hS:=hS.kept hb9
 clear ya yb yc yd ye yf
 obtain ⟨⟨yg,yh,yi,-⟩,⟨yj,yk,yl,-⟩,-⟩:=hS.cells
 replace G4:=hide ((unhide G4).kept hb9)
 go_wp2_with fail
 refine (ulp5 _ ((unhide HT).kept hS.fr)).mono ?_
 rintro e w10 ⟨⟨A5,N5,C5,rfl,g5⟩,hb10⟩
 replace hS:=hS.kept hb10
 clear yg yh yi yj yk yl
 obtain ⟨⟨ym,yn,yo,-⟩,⟨yp,yq,yr,-⟩,-⟩:=hS.cells
 replace G4:=hide ((unhide G4).kept hb10)
 clear g5
 have hltw10_0:w8.heap.size+1 < w10.heap.size:=hS.lt 0 rfl
 have hltw10_1:w8.heap.size < w10.heap.size:=hS.lt 1 rfl
 replace hS:=hS.alloc #[.bool false,.slice A5 N5 C5,.int .i64 5] 58
 replace G4:=hide ((unhide G4).alloc (.cells #[.bool false,.slice A5 N5 C5,.int .i64 5] 58))
 clear ym yn yo yp yq yr
 obtain ⟨⟨ys,yt,yu,-⟩,⟨yv,yw,yx,-⟩,⟨yy,yz,y0,-⟩,-⟩:=hS.cells
 obtain ⟨-,g,he,hc⟩:=Mine.limb (unhide G4) (by decide) (by decide)
 cases he
 go_wp2
 go_ret
 exact ⟨rfl,hS.fr⟩
theorem reach_cases (E F:Int) (b md:Nat) :
  (∃ er:Int,er≠0∧∀ W:World,Tb W→Nb5 W→Calls Tryz.prog 6 #[.agg #[.int .i64 E,.int .i64 F],.int .u64 (b:Int),.int .u8 (md:Int)] W fun e W'=>e = .returned (.tuple #[.agg #[.bool false,.slice none 0 0,.slice none 0 0],.agg #[.bool false,.slice none 0 0,.slice none 0 0],.bool false,.bool false,.int .i64 er])∧Below W.heap.size W W') ∨
  ∃ (E' F' S I B G:Nat) (s:Bool) (r:Nat),E = (E':Int)∧F = (F':Int)∧Fm E' F' S I∧B = 2 ^ (E' - 1) - 1∧(G:Int) = (B:Int)+(F':Int) - 1∧md≤4∧r < I∧b = (if s then S else 0)+r:=by
 by_cases hf:2≤E∧E≤11∧1≤F∧F≤52
 ·obtain ⟨E',rfl⟩:∃ n:Nat,E = (n:Int):=⟨E.toNat,by omega⟩
  obtain ⟨F',rfl⟩:∃ n:Nat,F = (n:Int):=⟨F.toNat,by omega⟩
  obtain ⟨S,hS⟩:∃ S,S = 2 ^ (F'+E'):=⟨_,rfl⟩
  obtain ⟨I,hI⟩:∃ I,I = (2 ^ E' - 1) * 2 ^ F':=⟨_,rfl⟩
  have h:Fm E' F' S I:=⟨⟨by omega,by omega,by omega,by omega⟩,hS,hI⟩
  clear hS hI
  obtain ⟨B,hB⟩:∃ B,B = 2 ^ (E' - 1) - 1:=⟨_,rfl⟩
  have hB1:2 ^ 1≤2 ^ (E' - 1):=Nat.pow_le_pow_right (by omega) (by omega)
  obtain ⟨G,hG⟩:∃ G:Nat,(G:Int) = (B:Int)+(F':Int) - 1:=⟨B+F' - 1,by omega⟩
  by_cases hb:b < 2 * S
  ·have hc:=fun (W:World) (q:Nat) (hq:W.heap[q]? = some (.cells #[.int .u64 (b:Int)] 24 (0,0)))=>check1_ok _ _ q _ (fits_T h hb) W hq
   by_cases hm:md≤4
   ·obtain ⟨s,r,hr,he⟩:∃ (s:Bool) (r:Nat),r < S∧b = (if s then S else 0)+r:=by
     by_cases h1:b < S
     ·exact ⟨false,b,h1,by simp⟩
     ·exact ⟨true,b - S,by omega,by simp; omega⟩
    by_cases hrI:r < I
    ·exact Or.inr ⟨E',F',S,I,B,G,s,r,rfl,rfl,h,hB,hG,hm,hrI,he⟩
    ·exact Or.inl ⟨8,by decide,fun W hT hn=>by rw [he]; exact reach_bad h hB hG hm s (by omega) hr W hT hn⟩
   ·exact Or.inl ⟨7,by decide,fun W _ hn=>rrea_m W _ _ _ _ 7 _ (by decide) hn (hide hc) (hide fun W _=>rdname_no md (by omega) W)⟩
  ·exact Or.inl ⟨6,by decide,fun W _ _=>rrea_f W _ _ _ _ 6 (by decide) (hide fun W q hq=>check1_err _ _ 6 (by decide) q _ (fits_M h hb) W hq)⟩
 ·exact Or.inl ⟨5,by decide,fun W _ _=>rrea_f W _ _ _ _ 5 (by decide) (hide fun W q hq=>check1_err _ _ 5 (by decide) q _ (fits_B (by unfold NoFo; omega) _) W hq)⟩
theorem cls_zero (F top:Nat):cls (0 / 2 ^ F) (0 % 2 ^ F) top = 1:=by rw [Nat.zero_div,Nat.zero_mod]; rfl
theorem cls_pos {E F S I k:Nat} (h:Fm E F S I) (hk:k < I) (h0:0 < k):(cls (k / 2 ^ F) (k % 2 ^ F) (2 ^ E - 1):Int)≠1∧(cls (k / 2 ^ F) (k % 2 ^ F) (2 ^ E - 1):Int)≠4:=by
 have h1:=cls_fin (fr:=k % 2 ^ F) (place_fin h hk)
 refine ⟨fun e=>?_,by omega⟩
 have h2:=Nat.div_add_mod k (2 ^ F)
 unfold cls at e
 split at e
 ·next hz=>rw [hz.1,hz.2,Nat.mul_zero] at h2; omega
 ·(repeat' split at e) <;> omega
theorem ends_cmp {G:Nat} {g:Int} {s t:Bool} {n d n' d':Nat} (h:Endp G g s n d) (h':Endp G g t n' d') (W:World) (a:Option Addr) (k c:Nat) (b:Option Addr) (l e:Nat) (a':Option Addr) (k' c':Nat) (b':Option Addr) (l' e':Nat) (h1:Num W a k n) (h2:Num W b l d) (h3:Num W a' k' n') (h4:Num W b' l' d') :
  Calls Tryz.prog 11 #[.agg #[.bool s,.slice a k c,.slice b l e],.agg #[.bool t,.slice a' k' c',.slice b' l' e']] W fun e W'=>e = .returned (.tuple #[.int .i64 0,.int .i64 0])∧Below W.heap.size W W':=by
 have hno:∀ {x y:Nat},x < 2 ^ gKn→y < 2 ^ gKn→¬ Over (x * y):=fun hx hy=>not_over (n:=gKn+gKn) (by rw [Nat.pow_add]; exact Nat.mul_lt_mul_of_lt_of_le hx (Nat.le_of_lt hy) (Nat.pow_pos (by omega))) (by decide)
 have:=cmp_nums h.hd h.hg h.hs h'.hd h'.hg h'.hs (hno h.bn h'.bd) (hno h'.bn h.bd) W a k c b l e a' k' c' b' l' e' h1 h2 h3 h4
 rw [(ord_grid (hd:=h.hd) (hg:=h.hg) (hd':=h'.hd) (hg':=h'.hg) h.eq).1,h'.eq] at this
 rw [show c3 (g * (d':Int)) (g * (d':Int)) = 0 by unfold c3; rw [if_neg (Int.lt_irrefl _),if_pos rfl]] at this
 exact this
theorem nearMeets_any (E F:Int) (b md:Nat) (w:World) (hT:Tb w) (hN:Nb5 w) :
  Calls Tryz.prog 4 #[.agg #[.int .i64 E,.int .i64 F],.int .u64 (b:Int),.int .u8 (md:Int)] w fun e w'=>e = .returned (.bool true)∧Below w.heap.size w w':=by
 have HA:Hid (∀ W:World,Tb W→Nb5 W→Calls Tryz.prog 5 #[] W fun e w'=>e = .returned (.bool true)∧Below W.heap.size W w'):=hide fun W hT hN=>rawake6 W hT hN
 rcases reach_cases E F b md with ⟨er,he,hR⟩|⟨E',F',S,I,B,G,s,r,rfl,rfl,h,hB,hG,hm,hr,rfl⟩
 ·exact meet_e w E F _ _ er hT hN HA he (hide hR)
 have hlt:=h.lt
 have h6:=h.six
 obtain ⟨sl,sh,nl,dl,nh,dh,hl,hh,hR⟩:=reach_any h hB hG hm s hr
 have hC:=class_place h s (show r < S by omega)
 cases s
 ·
  have hup:upN S r = r+1:=by unfold upN; rw [if_pos (by omega)]
  have HU:=Up_T h (b:=r) (by omega) (by rw [Nat.mod_eq_of_lt (by omega)]; omega) (by omega)
  rw [hup] at HU
  have hD:=class_place h false (show r+1 < S by omega)
  simp only [Bool.false_eq_true,if_false,Nat.zero_add] at hR hC hD ⊢
  by_cases hI:r+1 = I
  ·rw [hI,cls_inf h] at hD
   rw [hI] at HU
   exact meet_b w _ _ _ _ _ sl sh _ _ nl dl nh dh _ hT hN HA (hide hR) (hide HU) (hide hC) (hide hD)
  obtain ⟨sl2,sh2,nl2,dl2,nh2,dh2,hl2,hh2,hR2⟩:=reach_any h hB hG hm false (r:=r+1) (by omega)
  simp only [Bool.false_eq_true,if_false,Nat.zero_add] at hR2
  have hc2:=cls_pos h (k:=r+1) (by omega) (by omega)
  have eg:gLo md false F' (r+1) = gHi md false F' r:=by unfold gLo gHi; simp
  rw [eg] at hl2
  have hx:(iHi md false r != iLo md false (r+1)) = true:=by
   unfold iHi iLo
   simp only [Bool.false_eq_true,if_false]
   rw [decide_eq_false (by omega),in_out]
   cases outb md false r <;> rfl
  by_cases h0:r = 0
  ·subst h0
   rw [cls_zero] at hC
   exact meet_c w _ _ _ _ _ sl sh _ _ nl dl nh dh sl2 sh2 _ _ nl2 dl2 nh2 dh2 _ _ sh _ nh dh hT hN HA (hide hR) (hide HU) (hide hC) (hide hD) (hide hR2) (hide fun W a k c b l e a' k' c' b' l' e' g1 g2 g3 g4=>ends_cmp hl2 hh W a k c b l e a' k' c' b' l' e' g1 g2 g3 g4) hx rfl hc2.1 hc2.2 (hide fun W=>Nought_ok _ _ 0 false h.fo ⟨pow_pos2 _,pow_pos2 _,by simp⟩ W) (hide ⟨sl,_,nl,dl,hR⟩)
  ·have hc1:=cls_pos h (k:=r) (by omega) (by omega)
   exact meet_n w _ _ _ _ _ sl sh _ _ nl dl nh dh sl2 sh2 _ _ nl2 dl2 nh2 dh2 _ _ hT hN HA (hide hR) (hide HU) (hide hC) (hide hD) (hide hR2) (hide fun W a k c b l e a' k' c' b' l' e' g1 g2 g3 g4=>ends_cmp hl2 hh W a k c b l e a' k' c' b' l' e' g1 g2 g3 g4) hx hc1.1 hc2.1 hc2.2
 ·
  have hmod:(S+r) % S = r:=by rw [Nat.add_mod_left,Nat.mod_eq_of_lt (by omega)]
  simp only [if_true] at hR hC ⊢
  by_cases h0:r = 0
  ·subst h0
   have HU:=Up_T h (b:=S+0) (by omega) (by rw [hmod]; omega) (by omega)
   rw [show upN S (S+0) = 1 by unfold upN; rw [if_neg (by omega),if_pos (by omega)]] at HU
   have hD:=class_place h false (show 1 < S by omega)
   obtain ⟨sl0,sh0,nl0,dl0,nh0,dh0,hl0,hh0,hR0⟩:=reach_any h hB hG hm false (r:=0) (by omega)
   obtain ⟨sl2,sh2,nl2,dl2,nh2,dh2,hl2,hh2,hR2⟩:=reach_any h hB hG hm false (r:=1) (by omega)
   simp only [Bool.false_eq_true,if_false,Nat.zero_add] at hR0 hR2 hD
   have hc2:=cls_pos h (k:=1) (by omega) (by omega)
   have eg:gLo md false F' 1 = gHi md false F' 0:=by unfold gLo gHi; simp
   rw [eg] at hl2
   have hx:(iHi md false 0 != iLo md false 1) = true:=by
    unfold iHi iLo
    simp only [Bool.false_eq_true,if_false]
    rw [decide_eq_false (by omega),show inb md false 1 = !outb md false 0 from in_out md false 0]
    cases outb md false 0 <;> rfl
   rw [cls_zero] at hC
   exact meet_c w _ _ _ _ _ sl sh0 _ _ nl dl nh0 dh0 sl2 sh2 _ _ nl2 dl2 nh2 dh2 _ _ sh _ nh dh hT hN HA (hide hR) (hide HU) (hide hC) (hide hD) (hide hR2) (hide fun W a k c b l e a' k' c' b' l' e' g1 g2 g3 g4=>ends_cmp hl2 hh0 W a k c b l e a' k' c' b' l' e' g1 g2 g3 g4) hx rfl hc2.1 hc2.2 (hide fun W=>Nought_ok _ _ 0 false h.fo ⟨pow_pos2 _,pow_pos2 _,by simp⟩ W) (hide ⟨sl0,_,nl0,dl0,hR0⟩)
  ·have HU:=Up_T h (b:=S+r) (by omega) (by rw [hmod]; omega) (by omega)
   rw [show upN S (S+r) = S+(r - 1) by unfold upN; rw [if_neg (by omega),if_neg (by omega)]; omega] at HU
   have hD:=class_place h true (show r - 1 < S by omega)
   obtain ⟨sl2,sh2,nl2,dl2,nh2,dh2,hl2,hh2,hR2⟩:=reach_any h hB hG hm true (r:=r - 1) (by omega)
   simp only [if_true] at hR2 hD
   have hc1:=cls_pos h (k:=r) (by omega) (by omega)
   have eg:gLo md true F' (r - 1) = gHi md true F' r:=by unfold gLo gHi; simp [h0]
   rw [eg] at hl2
   have hx:(iHi md true r != iLo md true (r - 1)) = true:=by
    unfold iHi iLo
    simp only [if_true]
    rw [decide_eq_false h0,show inb md true r = !outb md true (r - 1) by rw [← in_out,show r - 1+1 = r by omega]]
    cases outb md true (r - 1) <;> rfl
   by_cases h1:r = 1
   ·subst h1
    rw [show 1 - 1 = 0 from rfl] at *
    rw [cls_zero] at hD
    exact meet_d w _ _ _ _ _ sl sh _ _ nl dl nh dh sl2 sh2 _ _ nl2 dl2 nh2 dh2 _ _ _ hT hN HA (hide hR) (hide HU) (hide hC) (hide hD) (hide hR2) (hide fun W a k c b l e a' k' c' b' l' e' g1 g2 g3 g4=>ends_cmp hl2 hh W a k c b l e a' k' c' b' l' e' g1 g2 g3 g4) hx hc1.1 rfl (by decide) (hide fun W=>Nought_ok _ _ (S+0) true h.fo ⟨pow_pos2 _,pow_pos2 _,by rw [← h.hS]; simp⟩ W)
   ·have hc2:=cls_pos h (k:=r - 1) (by omega) (by omega)
    exact meet_n w _ _ _ _ _ sl sh _ _ nl dl nh dh sl2 sh2 _ _ nl2 dl2 nh2 dh2 _ _ hT hN HA (hide hR) (hide HU) (hide hC) (hide hD) (hide hR2) (hide fun W a k c b l e a' k' c' b' l' e' g1 g2 g3 g4=>ends_cmp hl2 hh W a k c b l e a' k' c' b' l' e' g1 g2 g3 g4) hx hc1.1 hc2.1 hc2.2
end Go.Proofs.YtaidedkpfnidpaaGreatDoor
