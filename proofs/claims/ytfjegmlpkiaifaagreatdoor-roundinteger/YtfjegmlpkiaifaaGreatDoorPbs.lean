/- Of what RoundIntegerRow stands on: RySame Rc8Rat SOrdLaw RsHalfM RsLaw RiLaw RiLaw2. -/
import Derived.Test.YtfjegmlpkiaifaaGreatDoorPax
import Derived.Test.YtfjegmlpkiaifaaGreatDoorPap
import Derived.Test.YtfjegmlpkiaifaaGreatDoorPbe
import Derived.Test.YtfjegmlpkiaifaaGreatDoorPbr
import Derived.Test.YtfjegmlpkiaifaaGreatDoorPbi
import Derived.Test.YtfjegmlpkiaifaaGreatDoorPbo
import Derived.Test.YtfjegmlpkiaifaaGreatDoorPbp
import Derived.Test.YtfjegmlpkiaifaaGreatDoorPbj
import Derived.Test.YtfjegmlpkiaifaaGreatDoorPbq
namespace Go.Proofs.YtfjegmlpkiaifaaGreatDoor
open Go.RowKit
set_option maxHeartbeats 2000000
set_option maxRecDepth 20000
theorem same_shape (s t:Bool) (a1 a2 a3 a4:Option Addr) (n1 n2 n3 n4 c1 c2 c3 c4:Nat) (he:(s == t && decide (n1 = n3) && decide (n2 = n4)) = false) (w:World)  :
  Calls Tryz.prog 26 #[.agg #[.bool s,.slice a1 n1 c1,.slice a2 n2 c2,.bool t,.slice a3 n3 c3,.slice a4 n4 c4]] w fun e w'=>e = .returned (.bool false)∧Below w.heap.size w w':=by
 have hEq:=eq_shape s t n1 n2 n3 n4
 rw [he] at hEq
 clear he
 go_enter Tryz.func26,Tryz.ntmps26
 go_wp2_with fail
 refine wp_region_any (by kernel_rfl) ?_
 refine wpAny_det [some (3,.pointer (some ⟨w.heap.size,0,none⟩)),some (4,.agg #[.bool s,.slice a1 n1 c1,.slice a2 n2 c2]),some (5,.agg #[.bool s,.int .i64 (n1:Int),.int .i64 (n2:Int)]),some (6,.pointer (some ⟨w.heap.size,3,none⟩)),some (7,.agg #[.bool t,.slice a3 n3 c3,.slice a4 n4 c4]),some (8,.agg #[.bool t,.int .i64 (n3:Int),.int .i64 (n4:Int)]),some (9,.bool false),some (10,.bool false),some (11,undef),some (12,undef),some (13,undef),some (14,undef),some (15,undef),some (16,undef),some (17,undef),some (18,undef),some (19,undef),some (20,.bool false),some (21,.bool false),some (22,undef),some (23,undef),some (24,undef),some (25,undef),some (26,undef),some (27,undef),some (28,undef),some (29,undef),some (30,undef),some (31,.bool false),some (2,.bool false)]
  (fun _ W9=>Fs w W9 [⟨w.heap.size,#[.bool s,.slice a1 n1 c1,.slice a2 n2 c2,.bool t,.slice a3 n3 c3,.slice a4 n4 c4],67⟩]) _ _ rfl (by kernel_rfl) rfl rfl ?_ ?_ (Fs.one w _ _).drew
 ·intro l9 t9 W9 i9 hD hi9 hl9 hM
  obtain ⟨o9,ho9,hd9⟩:=(mem_ready.1 hi9).2
  have hin9:i9 < 30:=by
   by_cases h:i9 < 30
   ·exact h
   ·rw [Array.getElem?_eq_none (by rw [hD.len]; simp; omega)] at hl9; cases hl9
  have hcase:i9 = 0∨i9 = 1∨i9 = 2∨i9 = 3∨i9 = 4∨i9 = 5∨i9 = 6∨i9 = 7∨i9 = 8∨i9 = 9∨i9 = 10∨i9 = 11∨i9 = 12∨i9 = 13∨i9 = 14∨i9 = 15∨i9 = 16∨i9 = 17∨i9 = 18∨i9 = 19∨i9 = 20∨i9 = 21∨i9 = 22∨i9 = 23∨i9 = 24∨i9 = 25∨i9 = 26∨i9 = 27∨i9 = 28∨i9 = 29:=by omega
  clear hin9
  rcases hcase with rfl|rfl|rfl|rfl|rfl|rfl|rfl|rfl|rfl|rfl|rfl|rfl|rfl|rfl|rfl|rfl|rfl|rfl|rfl|rfl|rfl|rfl|rfl|rfl|rfl|rfl|rfl|rfl|rfl|rfl
  ·cases ho9
   have r1:=hD.old 1 _ rfl rfl
   refine wpOp_step rfl fun K hK=>?_
   go_simp
   exact hK _ _ ⟨rfl,hM⟩
  ·cases ho9
   have r3:=hD.od hd9 0 3 _ rfl (by simp)
   have hM0:=hM
   have Q_:=hM0.cellAt (b:=w.heap.size) (cs:=#[.bool s,.slice a1 n1 c1,.slice a2 n2 c2,.bool t,.slice a3 n3 c3,.slice a4 n4 c4]) (t:=67) (by simp)
   have c9_0:=Q_ 0 _ rfl
   have c9_1:=Q_ 1 _ rfl
   have c9_2:=Q_ 2 _ rfl
   clear Q_
   clear hM0
   refine wpOp_step rfl fun K hK=>?_
   go_simp
   exact hK _ _ ⟨rfl,hM⟩
  ·cases ho9
   have r4:=hD.od hd9 1 4 _ rfl (by simp)
   refine wpOp_step rfl fun K hK=>?_
   go_simp
   go_wp2_with fail
   refine (shapeOf_any _ _ _ _ _ _ _ _).mono ?_
   rintro en w9 ⟨rfl,hb9⟩
   exact hK _ _ ⟨rfl,hM.kept hb9⟩
  ·cases ho9
   have r1:=hD.old 1 _ rfl rfl
   refine wpOp_step rfl fun K hK=>?_
   go_simp
   exact hK _ _ ⟨rfl,hM⟩
  ·cases ho9
   have r6:=hD.od hd9 3 6 _ rfl (by simp)
   have hM0:=hM
   have Q_:=hM0.cellAt (b:=w.heap.size) (cs:=#[.bool s,.slice a1 n1 c1,.slice a2 n2 c2,.bool t,.slice a3 n3 c3,.slice a4 n4 c4]) (t:=67) (by simp)
   have c9_0:=Q_ 3 _ rfl
   have c9_1:=Q_ 4 _ rfl
   have c9_2:=Q_ 5 _ rfl
   clear Q_
   clear hM0
   refine wpOp_step rfl fun K hK=>?_
   go_simp
   exact hK _ _ ⟨rfl,hM⟩
  ·cases ho9
   have r7:=hD.od hd9 4 7 _ rfl (by simp)
   refine wpOp_step rfl fun K hK=>?_
   go_simp
   go_wp2_with fail
   refine (shapeOf_any _ _ _ _ _ _ _ _).mono ?_
   rintro en w9 ⟨rfl,hb9⟩
   exact hK _ _ ⟨rfl,hM.kept hb9⟩
  ·cases ho9
   have r5:=hD.od hd9 2 5 _ rfl (by simp)
   have r8:=hD.od hd9 5 8 _ rfl (by simp)
   refine wpOp_step rfl fun K hK=>?_
   go_simp
   exact hK _ _ ⟨act_eq (by rfl),hM⟩
  ·cases ho9
   have r9:=hD.od hd9 6 9 _ rfl (by simp)
   refine wpOp_step rfl fun K hK=>?_
   go_simp
   exact hK _ _ ⟨rfl,hM⟩
  ·cases ho9
   have r10:=hD.on 7 10 _ rfl (getD_true (hd9 ⟨7,.guard⟩ (by simp) rfl))
   refine wpOp_step rfl fun K hK=>?_
   go_simp
   exact hK _ _ ⟨rfl,hM⟩
  ·cases ho9
   have r10:=hD.on 7 10 _ rfl (getD_true (hd9 ⟨7,.guard⟩ (by simp) rfl))
   refine wpOp_step rfl fun K hK=>?_
   go_simp
   exact hK _ _ ⟨rfl,hM⟩
  ·cases ho9
   have r10:=hD.on 7 10 _ rfl (getD_true (hd9 ⟨7,.guard⟩ (by simp) rfl))
   refine wpOp_step rfl fun K hK=>?_
   go_simp
   exact hK _ _ ⟨rfl,hM⟩
  ·cases ho9
   have r10:=hD.on 7 10 _ rfl (getD_true (hd9 ⟨7,.guard⟩ (by simp) rfl))
   refine wpOp_step rfl fun K hK=>?_
   go_simp
   exact hK _ _ ⟨rfl,hM⟩
  ·cases ho9
   have r10:=hD.on 7 10 _ rfl (getD_true (hd9 ⟨7,.guard⟩ (by simp) rfl))
   refine wpOp_step rfl fun K hK=>?_
   go_simp
   exact hK _ _ ⟨rfl,hM⟩
  ·cases ho9
   have r10:=hD.on 7 10 _ rfl (getD_true (hd9 ⟨7,.guard⟩ (by simp) rfl))
   refine wpOp_step rfl fun K hK=>?_
   go_simp
   exact hK _ _ ⟨rfl,hM⟩
  ·cases ho9
   have r10:=hD.on 7 10 _ rfl (getD_true (hd9 ⟨7,.guard⟩ (by simp) rfl))
   refine wpOp_step rfl fun K hK=>?_
   go_simp
   exact hK _ _ ⟨rfl,hM⟩
  ·cases ho9
   have r10:=hD.on 7 10 _ rfl (getD_true (hd9 ⟨7,.guard⟩ (by simp) rfl))
   refine wpOp_step rfl fun K hK=>?_
   go_simp
   exact hK _ _ ⟨rfl,hM⟩
  ·cases ho9
   have r10:=hD.on 7 10 _ rfl (getD_true (hd9 ⟨7,.chain⟩ (by simp) rfl))
   refine wpOp_step rfl fun K hK=>?_
   go_simp
   exact hK _ _ ⟨rfl,hM⟩
  ·cases ho9
   have r10:=hD.od hd9 7 10 _ rfl (by simp)
   have r19:=hD.od hd9 16 19 _ rfl (by simp)
   refine wpOp_step rfl fun K hK=>?_
   go_simp
   exact hK _ _ ⟨rfl,hM⟩
  ·cases ho9
   have r20:=hD.od hd9 17 20 _ rfl (by simp)
   refine wpOp_step rfl fun K hK=>?_
   go_simp
   exact hK _ _ ⟨rfl,hM⟩
  ·cases ho9
   have r21:=hD.on 18 21 _ rfl (getD_true (hd9 ⟨18,.guard⟩ (by simp) rfl))
   refine wpOp_step rfl fun K hK=>?_
   go_simp
   exact hK _ _ ⟨rfl,hM⟩
  ·cases ho9
   have r21:=hD.on 18 21 _ rfl (getD_true (hd9 ⟨18,.guard⟩ (by simp) rfl))
   refine wpOp_step rfl fun K hK=>?_
   go_simp
   exact hK _ _ ⟨rfl,hM⟩
  ·cases ho9
   have r21:=hD.on 18 21 _ rfl (getD_true (hd9 ⟨18,.guard⟩ (by simp) rfl))
   refine wpOp_step rfl fun K hK=>?_
   go_simp
   exact hK _ _ ⟨rfl,hM⟩
  ·cases ho9
   have r21:=hD.on 18 21 _ rfl (getD_true (hd9 ⟨18,.guard⟩ (by simp) rfl))
   refine wpOp_step rfl fun K hK=>?_
   go_simp
   exact hK _ _ ⟨rfl,hM⟩
  ·cases ho9
   have r21:=hD.on 18 21 _ rfl (getD_true (hd9 ⟨18,.guard⟩ (by simp) rfl))
   refine wpOp_step rfl fun K hK=>?_
   go_simp
   exact hK _ _ ⟨rfl,hM⟩
  ·cases ho9
   have r21:=hD.on 18 21 _ rfl (getD_true (hd9 ⟨18,.guard⟩ (by simp) rfl))
   refine wpOp_step rfl fun K hK=>?_
   go_simp
   exact hK _ _ ⟨rfl,hM⟩
  ·cases ho9
   have r21:=hD.on 18 21 _ rfl (getD_true (hd9 ⟨18,.guard⟩ (by simp) rfl))
   refine wpOp_step rfl fun K hK=>?_
   go_simp
   exact hK _ _ ⟨rfl,hM⟩
  ·cases ho9
   have r21:=hD.on 18 21 _ rfl (getD_true (hd9 ⟨18,.guard⟩ (by simp) rfl))
   refine wpOp_step rfl fun K hK=>?_
   go_simp
   exact hK _ _ ⟨rfl,hM⟩
  ·cases ho9
   have r21:=hD.on 18 21 _ rfl (getD_true (hd9 ⟨18,.chain⟩ (by simp) rfl))
   refine wpOp_step rfl fun K hK=>?_
   go_simp
   exact hK _ _ ⟨rfl,hM⟩
  ·cases ho9
   have r21:=hD.od hd9 18 21 _ rfl (by simp)
   have r30:=hD.od hd9 27 30 _ rfl (by simp)
   refine wpOp_step rfl fun K hK=>?_
   go_simp
   exact hK _ _ ⟨rfl,hM⟩
  ·cases ho9
   have r31:=hD.od hd9 28 31 _ rfl (by simp)
   refine wpOp_step rfl fun K hK=>?_
   go_simp
   exact hK _ _ ⟨rfl,hM⟩
 ·intro l9 W9 hl9 hM
  have hS:=hM
  clear hM
  simp only [Puts.lay,List.setIfInBounds_toArray,List.set_cons_zero,List.set_cons_succ]
  obtain ⟨⟨ya,yb,yc,yd,ye,yf,-⟩,-⟩:=hS.cells
  clear hEq
  go_wp2
  go_ret
  exact ⟨rfl,hS.fr⟩
theorem same_f (s t:Bool) (a1 a2 a3 a4:Option Addr) (n1 n2 n3 n4 c1 c2 c3 c4:Nat) (he:(s == t && decide (n1 = n3) && decide (n2 = n4)) = true) (w:World) (HN:∀ W:World,Below w.heap.size w W→Calls Tryz.prog 61 #[.slice a1 n1 c1,.slice a3 n3 c3] W fun e w'=>e = .returned (.bool false)∧Below W.heap.size W w') :
  Calls Tryz.prog 26 #[.agg #[.bool s,.slice a1 n1 c1,.slice a2 n2 c2,.bool t,.slice a3 n3 c3,.slice a4 n4 c4]] w fun e w'=>e = .returned (.bool false)∧Below w.heap.size w w':=by
 have hEq:=eq_shape s t n1 n2 n3 n4
 rw [he] at hEq
 clear he
 go_enter Tryz.func26,Tryz.ntmps26
 go_wp2_with fail
 refine wp_region_any (by kernel_rfl) ?_
 refine wpAny_det [some (3,.pointer (some ⟨w.heap.size,0,none⟩)),some (4,.agg #[.bool s,.slice a1 n1 c1,.slice a2 n2 c2]),some (5,.agg #[.bool s,.int .i64 (n1:Int),.int .i64 (n2:Int)]),some (6,.pointer (some ⟨w.heap.size,3,none⟩)),some (7,.agg #[.bool t,.slice a3 n3 c3,.slice a4 n4 c4]),some (8,.agg #[.bool t,.int .i64 (n3:Int),.int .i64 (n4:Int)]),some (9,.bool true),some (10,.bool true),some (11,.pointer (some ⟨w.heap.size,0,none⟩)),some (12,.pointer (some ⟨w.heap.size,1,none⟩)),some (13,.pointer (some ⟨w.heap.size,1,none⟩)),some (14,.slice a1 n1 c1),some (15,.pointer (some ⟨w.heap.size,3,none⟩)),some (16,.pointer (some ⟨w.heap.size,4,none⟩)),some (17,.pointer (some ⟨w.heap.size,4,none⟩)),some (18,.slice a3 n3 c3),some (19,.bool false),some (20,.bool false),some (21,.bool false),some (22,undef),some (23,undef),some (24,undef),some (25,undef),some (26,undef),some (27,undef),some (28,undef),some (29,undef),some (30,undef),some (31,.bool false),some (2,.bool false)]
  (fun _ W9=>Fs w W9 [⟨w.heap.size,#[.bool s,.slice a1 n1 c1,.slice a2 n2 c2,.bool t,.slice a3 n3 c3,.slice a4 n4 c4],67⟩]) _ _ rfl (by kernel_rfl) rfl rfl ?_ ?_ (Fs.one w _ _).drew
 ·intro l9 t9 W9 i9 hD hi9 hl9 hM
  obtain ⟨o9,ho9,hd9⟩:=(mem_ready.1 hi9).2
  have hin9:i9 < 30:=by
   by_cases h:i9 < 30
   ·exact h
   ·rw [Array.getElem?_eq_none (by rw [hD.len]; simp; omega)] at hl9; cases hl9
  have hcase:i9 = 0∨i9 = 1∨i9 = 2∨i9 = 3∨i9 = 4∨i9 = 5∨i9 = 6∨i9 = 7∨i9 = 8∨i9 = 9∨i9 = 10∨i9 = 11∨i9 = 12∨i9 = 13∨i9 = 14∨i9 = 15∨i9 = 16∨i9 = 17∨i9 = 18∨i9 = 19∨i9 = 20∨i9 = 21∨i9 = 22∨i9 = 23∨i9 = 24∨i9 = 25∨i9 = 26∨i9 = 27∨i9 = 28∨i9 = 29:=by omega
  clear hin9
  rcases hcase with rfl|rfl|rfl|rfl|rfl|rfl|rfl|rfl|rfl|rfl|rfl|rfl|rfl|rfl|rfl|rfl|rfl|rfl|rfl|rfl|rfl|rfl|rfl|rfl|rfl|rfl|rfl|rfl|rfl|rfl
  ·cases ho9
   have r1:=hD.old 1 _ rfl rfl
   refine wpOp_step rfl fun K hK=>?_
   go_simp
   exact hK _ _ ⟨rfl,hM⟩
  ·cases ho9
   have r3:=hD.od hd9 0 3 _ rfl (by simp)
   have hM0:=hM
   have Q_:=hM0.cellAt (b:=w.heap.size) (cs:=#[.bool s,.slice a1 n1 c1,.slice a2 n2 c2,.bool t,.slice a3 n3 c3,.slice a4 n4 c4]) (t:=67) (by simp)
   have c9_0:=Q_ 0 _ rfl
   have c9_1:=Q_ 1 _ rfl
   have c9_2:=Q_ 2 _ rfl
   clear Q_
   clear hM0
   refine wpOp_step rfl fun K hK=>?_
   go_simp
   exact hK _ _ ⟨rfl,hM⟩
  ·cases ho9
   have r4:=hD.od hd9 1 4 _ rfl (by simp)
   refine wpOp_step rfl fun K hK=>?_
   go_simp
   go_wp2_with fail
   refine (shapeOf_any _ _ _ _ _ _ _ _).mono ?_
   rintro en w9 ⟨rfl,hb9⟩
   exact hK _ _ ⟨rfl,hM.kept hb9⟩
  ·cases ho9
   have r1:=hD.old 1 _ rfl rfl
   refine wpOp_step rfl fun K hK=>?_
   go_simp
   exact hK _ _ ⟨rfl,hM⟩
  ·cases ho9
   have r6:=hD.od hd9 3 6 _ rfl (by simp)
   have hM0:=hM
   have Q_:=hM0.cellAt (b:=w.heap.size) (cs:=#[.bool s,.slice a1 n1 c1,.slice a2 n2 c2,.bool t,.slice a3 n3 c3,.slice a4 n4 c4]) (t:=67) (by simp)
   have c9_0:=Q_ 3 _ rfl
   have c9_1:=Q_ 4 _ rfl
   have c9_2:=Q_ 5 _ rfl
   clear Q_
   clear hM0
   refine wpOp_step rfl fun K hK=>?_
   go_simp
   exact hK _ _ ⟨rfl,hM⟩
  ·cases ho9
   have r7:=hD.od hd9 4 7 _ rfl (by simp)
   refine wpOp_step rfl fun K hK=>?_
   go_simp
   go_wp2_with fail
   refine (shapeOf_any _ _ _ _ _ _ _ _).mono ?_
   rintro en w9 ⟨rfl,hb9⟩
   exact hK _ _ ⟨rfl,hM.kept hb9⟩
  ·cases ho9
   have r5:=hD.od hd9 2 5 _ rfl (by simp)
   have r8:=hD.od hd9 5 8 _ rfl (by simp)
   refine wpOp_step rfl fun K hK=>?_
   go_simp
   exact hK _ _ ⟨act_eq (by rfl),hM⟩
  ·cases ho9
   have r9:=hD.od hd9 6 9 _ rfl (by simp)
   refine wpOp_step rfl fun K hK=>?_
   go_simp
   exact hK _ _ ⟨rfl,hM⟩
  ·cases ho9
   have r10:=hD.on 7 10 _ rfl (getD_true (hd9 ⟨7,.guard⟩ (by simp) rfl))
   have r1:=hD.old 1 _ rfl rfl
   refine wpOp_step rfl fun K hK=>?_
   go_simp
   exact hK _ _ ⟨rfl,hM⟩
  ·cases ho9
   have r10:=hD.on 7 10 _ rfl (getD_true (hd9 ⟨7,.guard⟩ (by simp) rfl))
   have r11:=hD.od hd9 8 11 _ rfl (by simp)
   refine wpOp_step rfl fun K hK=>?_
   go_simp
   exact hK _ _ ⟨rfl,hM⟩
  ·cases ho9
   have r10:=hD.on 7 10 _ rfl (getD_true (hd9 ⟨7,.guard⟩ (by simp) rfl))
   have r12:=hD.od hd9 9 12 _ rfl (by simp)
   refine wpOp_step rfl fun K hK=>?_
   go_simp
   exact hK _ _ ⟨rfl,hM⟩
  ·cases ho9
   have r10:=hD.on 7 10 _ rfl (getD_true (hd9 ⟨7,.guard⟩ (by simp) rfl))
   have r13:=hD.od hd9 10 13 _ rfl (by simp)
   have hM0:=hM
   have c9_0:=hM0.cellAt (b:=w.heap.size) (cs:=#[.bool s,.slice a1 n1 c1,.slice a2 n2 c2,.bool t,.slice a3 n3 c3,.slice a4 n4 c4]) (t:=67) (by simp) 1 _ rfl
   clear hM0
   refine wpOp_step rfl fun K hK=>?_
   go_simp
   exact hK _ _ ⟨rfl,hM⟩
  ·cases ho9
   have r10:=hD.on 7 10 _ rfl (getD_true (hd9 ⟨7,.guard⟩ (by simp) rfl))
   have r1:=hD.old 1 _ rfl rfl
   refine wpOp_step rfl fun K hK=>?_
   go_simp
   exact hK _ _ ⟨rfl,hM⟩
  ·cases ho9
   have r10:=hD.on 7 10 _ rfl (getD_true (hd9 ⟨7,.guard⟩ (by simp) rfl))
   have r15:=hD.od hd9 12 15 _ rfl (by simp)
   refine wpOp_step rfl fun K hK=>?_
   go_simp
   exact hK _ _ ⟨rfl,hM⟩
  ·cases ho9
   have r10:=hD.on 7 10 _ rfl (getD_true (hd9 ⟨7,.guard⟩ (by simp) rfl))
   have r16:=hD.od hd9 13 16 _ rfl (by simp)
   refine wpOp_step rfl fun K hK=>?_
   go_simp
   exact hK _ _ ⟨rfl,hM⟩
  ·cases ho9
   have r10:=hD.on 7 10 _ rfl (getD_true (hd9 ⟨7,.guard⟩ (by simp) rfl))
   have r17:=hD.od hd9 14 17 _ rfl (by simp)
   have hM0:=hM
   have c9_0:=hM0.cellAt (b:=w.heap.size) (cs:=#[.bool s,.slice a1 n1 c1,.slice a2 n2 c2,.bool t,.slice a3 n3 c3,.slice a4 n4 c4]) (t:=67) (by simp) 4 _ rfl
   clear hM0
   refine wpOp_step rfl fun K hK=>?_
   go_simp
   exact hK _ _ ⟨rfl,hM⟩
  ·cases ho9
   have r10:=hD.on 7 10 _ rfl (getD_true (hd9 ⟨7,.chain⟩ (by simp) rfl))
   have r14:=hD.od hd9 11 14 _ rfl (by simp)
   have r18:=hD.od hd9 15 18 _ rfl (by simp)
   refine wpOp_step rfl fun K hK=>?_
   go_simp
   go_wp2_with fail
   refine (HN _ hM.fr).mono ?_
   rintro en w9 ⟨rfl,hb9⟩
   exact hK _ _ ⟨rfl,hM.kept hb9⟩
  ·cases ho9
   have r10:=hD.od hd9 7 10 _ rfl (by simp)
   have r19:=hD.od hd9 16 19 _ rfl (by simp)
   refine wpOp_step rfl fun K hK=>?_
   go_simp
   exact hK _ _ ⟨rfl,hM⟩
  ·cases ho9
   have r20:=hD.od hd9 17 20 _ rfl (by simp)
   refine wpOp_step rfl fun K hK=>?_
   go_simp
   exact hK _ _ ⟨rfl,hM⟩
  ·cases ho9
   have r21:=hD.on 18 21 _ rfl (getD_true (hd9 ⟨18,.guard⟩ (by simp) rfl))
   refine wpOp_step rfl fun K hK=>?_
   go_simp
   exact hK _ _ ⟨rfl,hM⟩
  ·cases ho9
   have r21:=hD.on 18 21 _ rfl (getD_true (hd9 ⟨18,.guard⟩ (by simp) rfl))
   refine wpOp_step rfl fun K hK=>?_
   go_simp
   exact hK _ _ ⟨rfl,hM⟩
  ·cases ho9
   have r21:=hD.on 18 21 _ rfl (getD_true (hd9 ⟨18,.guard⟩ (by simp) rfl))
   refine wpOp_step rfl fun K hK=>?_
   go_simp
   exact hK _ _ ⟨rfl,hM⟩
  ·cases ho9
   have r21:=hD.on 18 21 _ rfl (getD_true (hd9 ⟨18,.guard⟩ (by simp) rfl))
   refine wpOp_step rfl fun K hK=>?_
   go_simp
   exact hK _ _ ⟨rfl,hM⟩
  ·cases ho9
   have r21:=hD.on 18 21 _ rfl (getD_true (hd9 ⟨18,.guard⟩ (by simp) rfl))
   refine wpOp_step rfl fun K hK=>?_
   go_simp
   exact hK _ _ ⟨rfl,hM⟩
  ·cases ho9
   have r21:=hD.on 18 21 _ rfl (getD_true (hd9 ⟨18,.guard⟩ (by simp) rfl))
   refine wpOp_step rfl fun K hK=>?_
   go_simp
   exact hK _ _ ⟨rfl,hM⟩
  ·cases ho9
   have r21:=hD.on 18 21 _ rfl (getD_true (hd9 ⟨18,.guard⟩ (by simp) rfl))
   refine wpOp_step rfl fun K hK=>?_
   go_simp
   exact hK _ _ ⟨rfl,hM⟩
  ·cases ho9
   have r21:=hD.on 18 21 _ rfl (getD_true (hd9 ⟨18,.guard⟩ (by simp) rfl))
   refine wpOp_step rfl fun K hK=>?_
   go_simp
   exact hK _ _ ⟨rfl,hM⟩
  ·cases ho9
   have r21:=hD.on 18 21 _ rfl (getD_true (hd9 ⟨18,.chain⟩ (by simp) rfl))
   refine wpOp_step rfl fun K hK=>?_
   go_simp
   exact hK _ _ ⟨rfl,hM⟩
  ·cases ho9
   have r21:=hD.od hd9 18 21 _ rfl (by simp)
   have r30:=hD.od hd9 27 30 _ rfl (by simp)
   refine wpOp_step rfl fun K hK=>?_
   go_simp
   exact hK _ _ ⟨rfl,hM⟩
  ·cases ho9
   have r31:=hD.od hd9 28 31 _ rfl (by simp)
   refine wpOp_step rfl fun K hK=>?_
   go_simp
   exact hK _ _ ⟨rfl,hM⟩
 ·intro l9 W9 hl9 hM
  have hS:=hM
  clear hM
  simp only [Puts.lay,List.setIfInBounds_toArray,List.set_cons_zero,List.set_cons_succ]
  obtain ⟨⟨ya,yb,yc,yd,ye,yf,-⟩,-⟩:=hS.cells
  clear hEq
  go_wp2
  go_ret
  exact ⟨rfl,hS.fr⟩
theorem same_tt (s t:Bool) (a1 a2 a3 a4:Option Addr) (n1 n2 n3 n4 c1 c2 c3 c4:Nat) (he:(s == t && decide (n1 = n3) && decide (n2 = n4)) = true) (w:World) (HN:∀ W:World,Below w.heap.size w W→Calls Tryz.prog 61 #[.slice a1 n1 c1,.slice a3 n3 c3] W fun e w'=>e = .returned (.bool true)∧Below W.heap.size W w') (HD:∀ W:World,Below w.heap.size w W→Calls Tryz.prog 61 #[.slice a2 n2 c2,.slice a4 n4 c4] W fun e w'=>e = .returned (.bool true)∧Below W.heap.size W w') :
  Calls Tryz.prog 26 #[.agg #[.bool s,.slice a1 n1 c1,.slice a2 n2 c2,.bool t,.slice a3 n3 c3,.slice a4 n4 c4]] w fun e w'=>e = .returned (.bool true)∧Below w.heap.size w w':=by
 have hEq:=eq_shape s t n1 n2 n3 n4
 rw [he] at hEq
 clear he
 go_enter Tryz.func26,Tryz.ntmps26
 go_wp2_with fail
 refine wp_region_any (by kernel_rfl) ?_
 refine wpAny_det [some (3,.pointer (some ⟨w.heap.size,0,none⟩)),some (4,.agg #[.bool s,.slice a1 n1 c1,.slice a2 n2 c2]),some (5,.agg #[.bool s,.int .i64 (n1:Int),.int .i64 (n2:Int)]),some (6,.pointer (some ⟨w.heap.size,3,none⟩)),some (7,.agg #[.bool t,.slice a3 n3 c3,.slice a4 n4 c4]),some (8,.agg #[.bool t,.int .i64 (n3:Int),.int .i64 (n4:Int)]),some (9,.bool true),some (10,.bool true),some (11,.pointer (some ⟨w.heap.size,0,none⟩)),some (12,.pointer (some ⟨w.heap.size,1,none⟩)),some (13,.pointer (some ⟨w.heap.size,1,none⟩)),some (14,.slice a1 n1 c1),some (15,.pointer (some ⟨w.heap.size,3,none⟩)),some (16,.pointer (some ⟨w.heap.size,4,none⟩)),some (17,.pointer (some ⟨w.heap.size,4,none⟩)),some (18,.slice a3 n3 c3),some (19,.bool true),some (20,.bool true),some (21,.bool true),some (22,.pointer (some ⟨w.heap.size,0,none⟩)),some (23,.pointer (some ⟨w.heap.size,2,none⟩)),some (24,.pointer (some ⟨w.heap.size,2,none⟩)),some (25,.slice a2 n2 c2),some (26,.pointer (some ⟨w.heap.size,3,none⟩)),some (27,.pointer (some ⟨w.heap.size,5,none⟩)),some (28,.pointer (some ⟨w.heap.size,5,none⟩)),some (29,.slice a4 n4 c4),some (30,.bool true),some (31,.bool true),some (2,.bool true)]
  (fun _ W9=>Fs w W9 [⟨w.heap.size,#[.bool s,.slice a1 n1 c1,.slice a2 n2 c2,.bool t,.slice a3 n3 c3,.slice a4 n4 c4],67⟩]) _ _ rfl (by kernel_rfl) rfl rfl ?_ ?_ (Fs.one w _ _).drew
 ·intro l9 t9 W9 i9 hD hi9 hl9 hM
  obtain ⟨o9,ho9,hd9⟩:=(mem_ready.1 hi9).2
  have hin9:i9 < 30:=by
   by_cases h:i9 < 30
   ·exact h
   ·rw [Array.getElem?_eq_none (by rw [hD.len]; simp; omega)] at hl9; cases hl9
  have hcase:i9 = 0∨i9 = 1∨i9 = 2∨i9 = 3∨i9 = 4∨i9 = 5∨i9 = 6∨i9 = 7∨i9 = 8∨i9 = 9∨i9 = 10∨i9 = 11∨i9 = 12∨i9 = 13∨i9 = 14∨i9 = 15∨i9 = 16∨i9 = 17∨i9 = 18∨i9 = 19∨i9 = 20∨i9 = 21∨i9 = 22∨i9 = 23∨i9 = 24∨i9 = 25∨i9 = 26∨i9 = 27∨i9 = 28∨i9 = 29:=by omega
  clear hin9
  rcases hcase with rfl|rfl|rfl|rfl|rfl|rfl|rfl|rfl|rfl|rfl|rfl|rfl|rfl|rfl|rfl|rfl|rfl|rfl|rfl|rfl|rfl|rfl|rfl|rfl|rfl|rfl|rfl|rfl|rfl|rfl
  ·cases ho9
   have r1:=hD.old 1 _ rfl rfl
   refine wpOp_step rfl fun K hK=>?_
   go_simp
   exact hK _ _ ⟨rfl,hM⟩
  ·cases ho9
   have r3:=hD.od hd9 0 3 _ rfl (by simp)
   have hM0:=hM
   have Q_:=hM0.cellAt (b:=w.heap.size) (cs:=#[.bool s,.slice a1 n1 c1,.slice a2 n2 c2,.bool t,.slice a3 n3 c3,.slice a4 n4 c4]) (t:=67) (by simp)
   have c9_0:=Q_ 0 _ rfl
   have c9_1:=Q_ 1 _ rfl
   have c9_2:=Q_ 2 _ rfl
   clear Q_
   clear hM0
   refine wpOp_step rfl fun K hK=>?_
   go_simp
   exact hK _ _ ⟨rfl,hM⟩
  ·cases ho9
   have r4:=hD.od hd9 1 4 _ rfl (by simp)
   refine wpOp_step rfl fun K hK=>?_
   go_simp
   go_wp2_with fail
   refine (shapeOf_any _ _ _ _ _ _ _ _).mono ?_
   rintro en w9 ⟨rfl,hb9⟩
   exact hK _ _ ⟨rfl,hM.kept hb9⟩
  ·cases ho9
   have r1:=hD.old 1 _ rfl rfl
   refine wpOp_step rfl fun K hK=>?_
   go_simp
   exact hK _ _ ⟨rfl,hM⟩
  ·cases ho9
   have r6:=hD.od hd9 3 6 _ rfl (by simp)
   have hM0:=hM
   have Q_:=hM0.cellAt (b:=w.heap.size) (cs:=#[.bool s,.slice a1 n1 c1,.slice a2 n2 c2,.bool t,.slice a3 n3 c3,.slice a4 n4 c4]) (t:=67) (by simp)
   have c9_0:=Q_ 3 _ rfl
   have c9_1:=Q_ 4 _ rfl
   have c9_2:=Q_ 5 _ rfl
   clear Q_
   clear hM0
   refine wpOp_step rfl fun K hK=>?_
   go_simp
   exact hK _ _ ⟨rfl,hM⟩
  ·cases ho9
   have r7:=hD.od hd9 4 7 _ rfl (by simp)
   refine wpOp_step rfl fun K hK=>?_
   go_simp
   go_wp2_with fail
   refine (shapeOf_any _ _ _ _ _ _ _ _).mono ?_
   rintro en w9 ⟨rfl,hb9⟩
   exact hK _ _ ⟨rfl,hM.kept hb9⟩
  ·cases ho9
   have r5:=hD.od hd9 2 5 _ rfl (by simp)
   have r8:=hD.od hd9 5 8 _ rfl (by simp)
   refine wpOp_step rfl fun K hK=>?_
   go_simp
   exact hK _ _ ⟨act_eq (by rfl),hM⟩
  ·cases ho9
   have r9:=hD.od hd9 6 9 _ rfl (by simp)
   refine wpOp_step rfl fun K hK=>?_
   go_simp
   exact hK _ _ ⟨rfl,hM⟩
  ·cases ho9
   have r10:=hD.on 7 10 _ rfl (getD_true (hd9 ⟨7,.guard⟩ (by simp) rfl))
   have r1:=hD.old 1 _ rfl rfl
   refine wpOp_step rfl fun K hK=>?_
   go_simp
   exact hK _ _ ⟨rfl,hM⟩
  ·cases ho9
   have r10:=hD.on 7 10 _ rfl (getD_true (hd9 ⟨7,.guard⟩ (by simp) rfl))
   have r11:=hD.od hd9 8 11 _ rfl (by simp)
   refine wpOp_step rfl fun K hK=>?_
   go_simp
   exact hK _ _ ⟨rfl,hM⟩
  ·cases ho9
   have r10:=hD.on 7 10 _ rfl (getD_true (hd9 ⟨7,.guard⟩ (by simp) rfl))
   have r12:=hD.od hd9 9 12 _ rfl (by simp)
   refine wpOp_step rfl fun K hK=>?_
   go_simp
   exact hK _ _ ⟨rfl,hM⟩
  ·cases ho9
   have r10:=hD.on 7 10 _ rfl (getD_true (hd9 ⟨7,.guard⟩ (by simp) rfl))
   have r13:=hD.od hd9 10 13 _ rfl (by simp)
   have hM0:=hM
   have c9_0:=hM0.cellAt (b:=w.heap.size) (cs:=#[.bool s,.slice a1 n1 c1,.slice a2 n2 c2,.bool t,.slice a3 n3 c3,.slice a4 n4 c4]) (t:=67) (by simp) 1 _ rfl
   clear hM0
   refine wpOp_step rfl fun K hK=>?_
   go_simp
   exact hK _ _ ⟨rfl,hM⟩
  ·cases ho9
   have r10:=hD.on 7 10 _ rfl (getD_true (hd9 ⟨7,.guard⟩ (by simp) rfl))
   have r1:=hD.old 1 _ rfl rfl
   refine wpOp_step rfl fun K hK=>?_
   go_simp
   exact hK _ _ ⟨rfl,hM⟩
  ·cases ho9
   have r10:=hD.on 7 10 _ rfl (getD_true (hd9 ⟨7,.guard⟩ (by simp) rfl))
   have r15:=hD.od hd9 12 15 _ rfl (by simp)
   refine wpOp_step rfl fun K hK=>?_
   go_simp
   exact hK _ _ ⟨rfl,hM⟩
  ·cases ho9
   have r10:=hD.on 7 10 _ rfl (getD_true (hd9 ⟨7,.guard⟩ (by simp) rfl))
   have r16:=hD.od hd9 13 16 _ rfl (by simp)
   refine wpOp_step rfl fun K hK=>?_
   go_simp
   exact hK _ _ ⟨rfl,hM⟩
  ·cases ho9
   have r10:=hD.on 7 10 _ rfl (getD_true (hd9 ⟨7,.guard⟩ (by simp) rfl))
   have r17:=hD.od hd9 14 17 _ rfl (by simp)
   have hM0:=hM
   have c9_0:=hM0.cellAt (b:=w.heap.size) (cs:=#[.bool s,.slice a1 n1 c1,.slice a2 n2 c2,.bool t,.slice a3 n3 c3,.slice a4 n4 c4]) (t:=67) (by simp) 4 _ rfl
   clear hM0
   refine wpOp_step rfl fun K hK=>?_
   go_simp
   exact hK _ _ ⟨rfl,hM⟩
  ·cases ho9
   have r10:=hD.on 7 10 _ rfl (getD_true (hd9 ⟨7,.chain⟩ (by simp) rfl))
   have r14:=hD.od hd9 11 14 _ rfl (by simp)
   have r18:=hD.od hd9 15 18 _ rfl (by simp)
   refine wpOp_step rfl fun K hK=>?_
   go_simp
   go_wp2_with fail
   refine (HN _ hM.fr).mono ?_
   rintro en w9 ⟨rfl,hb9⟩
   exact hK _ _ ⟨rfl,hM.kept hb9⟩
  ·cases ho9
   have r10:=hD.od hd9 7 10 _ rfl (by simp)
   have r19:=hD.od hd9 16 19 _ rfl (by simp)
   refine wpOp_step rfl fun K hK=>?_
   go_simp
   exact hK _ _ ⟨rfl,hM⟩
  ·cases ho9
   have r20:=hD.od hd9 17 20 _ rfl (by simp)
   refine wpOp_step rfl fun K hK=>?_
   go_simp
   exact hK _ _ ⟨rfl,hM⟩
  ·cases ho9
   have r21:=hD.on 18 21 _ rfl (getD_true (hd9 ⟨18,.guard⟩ (by simp) rfl))
   have r1:=hD.old 1 _ rfl rfl
   refine wpOp_step rfl fun K hK=>?_
   go_simp
   exact hK _ _ ⟨rfl,hM⟩
  ·cases ho9
   have r21:=hD.on 18 21 _ rfl (getD_true (hd9 ⟨18,.guard⟩ (by simp) rfl))
   have r22:=hD.od hd9 19 22 _ rfl (by simp)
   refine wpOp_step rfl fun K hK=>?_
   go_simp
   exact hK _ _ ⟨rfl,hM⟩
  ·cases ho9
   have r21:=hD.on 18 21 _ rfl (getD_true (hd9 ⟨18,.guard⟩ (by simp) rfl))
   have r23:=hD.od hd9 20 23 _ rfl (by simp)
   refine wpOp_step rfl fun K hK=>?_
   go_simp
   exact hK _ _ ⟨rfl,hM⟩
  ·cases ho9
   have r21:=hD.on 18 21 _ rfl (getD_true (hd9 ⟨18,.guard⟩ (by simp) rfl))
   have r24:=hD.od hd9 21 24 _ rfl (by simp)
   have hM0:=hM
   have c9_0:=hM0.cellAt (b:=w.heap.size) (cs:=#[.bool s,.slice a1 n1 c1,.slice a2 n2 c2,.bool t,.slice a3 n3 c3,.slice a4 n4 c4]) (t:=67) (by simp) 2 _ rfl
   clear hM0
   refine wpOp_step rfl fun K hK=>?_
   go_simp
   exact hK _ _ ⟨rfl,hM⟩
  ·cases ho9
   have r21:=hD.on 18 21 _ rfl (getD_true (hd9 ⟨18,.guard⟩ (by simp) rfl))
   have r1:=hD.old 1 _ rfl rfl
   refine wpOp_step rfl fun K hK=>?_
   go_simp
   exact hK _ _ ⟨rfl,hM⟩
  ·cases ho9
   have r21:=hD.on 18 21 _ rfl (getD_true (hd9 ⟨18,.guard⟩ (by simp) rfl))
   have r26:=hD.od hd9 23 26 _ rfl (by simp)
   refine wpOp_step rfl fun K hK=>?_
   go_simp
   exact hK _ _ ⟨rfl,hM⟩
  ·cases ho9
   have r21:=hD.on 18 21 _ rfl (getD_true (hd9 ⟨18,.guard⟩ (by simp) rfl))
   have r27:=hD.od hd9 24 27 _ rfl (by simp)
   refine wpOp_step rfl fun K hK=>?_
   go_simp
   exact hK _ _ ⟨rfl,hM⟩
  ·cases ho9
   have r21:=hD.on 18 21 _ rfl (getD_true (hd9 ⟨18,.guard⟩ (by simp) rfl))
   have r28:=hD.od hd9 25 28 _ rfl (by simp)
   have hM0:=hM
   have c9_0:=hM0.cellAt (b:=w.heap.size) (cs:=#[.bool s,.slice a1 n1 c1,.slice a2 n2 c2,.bool t,.slice a3 n3 c3,.slice a4 n4 c4]) (t:=67) (by simp) 5 _ rfl
   clear hM0
   refine wpOp_step rfl fun K hK=>?_
   go_simp
   exact hK _ _ ⟨rfl,hM⟩
  ·cases ho9
   have r21:=hD.on 18 21 _ rfl (getD_true (hd9 ⟨18,.chain⟩ (by simp) rfl))
   have r25:=hD.od hd9 22 25 _ rfl (by simp)
   have r29:=hD.od hd9 26 29 _ rfl (by simp)
   refine wpOp_step rfl fun K hK=>?_
   go_simp
   go_wp2_with fail
   refine (HD _ hM.fr).mono ?_
   rintro en w9 ⟨rfl,hb9⟩
   exact hK _ _ ⟨rfl,hM.kept hb9⟩
  ·cases ho9
   have r21:=hD.od hd9 18 21 _ rfl (by simp)
   have r30:=hD.od hd9 27 30 _ rfl (by simp)
   refine wpOp_step rfl fun K hK=>?_
   go_simp
   exact hK _ _ ⟨rfl,hM⟩
  ·cases ho9
   have r31:=hD.od hd9 28 31 _ rfl (by simp)
   refine wpOp_step rfl fun K hK=>?_
   go_simp
   exact hK _ _ ⟨rfl,hM⟩
 ·intro l9 W9 hl9 hM
  have hS:=hM
  clear hM
  simp only [Puts.lay,List.setIfInBounds_toArray,List.set_cons_zero,List.set_cons_succ]
  obtain ⟨⟨ya,yb,yc,yd,ye,yf,-⟩,-⟩:=hS.cells
  clear hEq
  go_wp2
  go_ret
  exact ⟨rfl,hS.fr⟩
theorem same_tf (s t:Bool) (a1 a2 a3 a4:Option Addr) (n1 n2 n3 n4 c1 c2 c3 c4:Nat) (he:(s == t && decide (n1 = n3) && decide (n2 = n4)) = true) (w:World) (HN:∀ W:World,Below w.heap.size w W→Calls Tryz.prog 61 #[.slice a1 n1 c1,.slice a3 n3 c3] W fun e w'=>e = .returned (.bool true)∧Below W.heap.size W w') (HD:∀ W:World,Below w.heap.size w W→Calls Tryz.prog 61 #[.slice a2 n2 c2,.slice a4 n4 c4] W fun e w'=>e = .returned (.bool false)∧Below W.heap.size W w') :
  Calls Tryz.prog 26 #[.agg #[.bool s,.slice a1 n1 c1,.slice a2 n2 c2,.bool t,.slice a3 n3 c3,.slice a4 n4 c4]] w fun e w'=>e = .returned (.bool false)∧Below w.heap.size w w':=by
 have hEq:=eq_shape s t n1 n2 n3 n4
 rw [he] at hEq
 clear he
 go_enter Tryz.func26,Tryz.ntmps26
 go_wp2_with fail
 refine wp_region_any (by kernel_rfl) ?_
 refine wpAny_det [some (3,.pointer (some ⟨w.heap.size,0,none⟩)),some (4,.agg #[.bool s,.slice a1 n1 c1,.slice a2 n2 c2]),some (5,.agg #[.bool s,.int .i64 (n1:Int),.int .i64 (n2:Int)]),some (6,.pointer (some ⟨w.heap.size,3,none⟩)),some (7,.agg #[.bool t,.slice a3 n3 c3,.slice a4 n4 c4]),some (8,.agg #[.bool t,.int .i64 (n3:Int),.int .i64 (n4:Int)]),some (9,.bool true),some (10,.bool true),some (11,.pointer (some ⟨w.heap.size,0,none⟩)),some (12,.pointer (some ⟨w.heap.size,1,none⟩)),some (13,.pointer (some ⟨w.heap.size,1,none⟩)),some (14,.slice a1 n1 c1),some (15,.pointer (some ⟨w.heap.size,3,none⟩)),some (16,.pointer (some ⟨w.heap.size,4,none⟩)),some (17,.pointer (some ⟨w.heap.size,4,none⟩)),some (18,.slice a3 n3 c3),some (19,.bool true),some (20,.bool true),some (21,.bool true),some (22,.pointer (some ⟨w.heap.size,0,none⟩)),some (23,.pointer (some ⟨w.heap.size,2,none⟩)),some (24,.pointer (some ⟨w.heap.size,2,none⟩)),some (25,.slice a2 n2 c2),some (26,.pointer (some ⟨w.heap.size,3,none⟩)),some (27,.pointer (some ⟨w.heap.size,5,none⟩)),some (28,.pointer (some ⟨w.heap.size,5,none⟩)),some (29,.slice a4 n4 c4),some (30,.bool false),some (31,.bool false),some (2,.bool false)]
  (fun _ W9=>Fs w W9 [⟨w.heap.size,#[.bool s,.slice a1 n1 c1,.slice a2 n2 c2,.bool t,.slice a3 n3 c3,.slice a4 n4 c4],67⟩]) _ _ rfl (by kernel_rfl) rfl rfl ?_ ?_ (Fs.one w _ _).drew
 ·intro l9 t9 W9 i9 hD hi9 hl9 hM
  obtain ⟨o9,ho9,hd9⟩:=(mem_ready.1 hi9).2
  have hin9:i9 < 30:=by
   by_cases h:i9 < 30
   ·exact h
   ·rw [Array.getElem?_eq_none (by rw [hD.len]; simp; omega)] at hl9; cases hl9
  have hcase:i9 = 0∨i9 = 1∨i9 = 2∨i9 = 3∨i9 = 4∨i9 = 5∨i9 = 6∨i9 = 7∨i9 = 8∨i9 = 9∨i9 = 10∨i9 = 11∨i9 = 12∨i9 = 13∨i9 = 14∨i9 = 15∨i9 = 16∨i9 = 17∨i9 = 18∨i9 = 19∨i9 = 20∨i9 = 21∨i9 = 22∨i9 = 23∨i9 = 24∨i9 = 25∨i9 = 26∨i9 = 27∨i9 = 28∨i9 = 29:=by omega
  clear hin9
  rcases hcase with rfl|rfl|rfl|rfl|rfl|rfl|rfl|rfl|rfl|rfl|rfl|rfl|rfl|rfl|rfl|rfl|rfl|rfl|rfl|rfl|rfl|rfl|rfl|rfl|rfl|rfl|rfl|rfl|rfl|rfl
  ·cases ho9
   have r1:=hD.old 1 _ rfl rfl
   refine wpOp_step rfl fun K hK=>?_
   go_simp
   exact hK _ _ ⟨rfl,hM⟩
  ·cases ho9
   have r3:=hD.od hd9 0 3 _ rfl (by simp)
   have hM0:=hM
   have Q_:=hM0.cellAt (b:=w.heap.size) (cs:=#[.bool s,.slice a1 n1 c1,.slice a2 n2 c2,.bool t,.slice a3 n3 c3,.slice a4 n4 c4]) (t:=67) (by simp)
   have c9_0:=Q_ 0 _ rfl
   have c9_1:=Q_ 1 _ rfl
   have c9_2:=Q_ 2 _ rfl
   clear Q_
   clear hM0
   refine wpOp_step rfl fun K hK=>?_
   go_simp
   exact hK _ _ ⟨rfl,hM⟩
  ·cases ho9
   have r4:=hD.od hd9 1 4 _ rfl (by simp)
   refine wpOp_step rfl fun K hK=>?_
   go_simp
   go_wp2_with fail
   refine (shapeOf_any _ _ _ _ _ _ _ _).mono ?_
   rintro en w9 ⟨rfl,hb9⟩
   exact hK _ _ ⟨rfl,hM.kept hb9⟩
  ·cases ho9
   have r1:=hD.old 1 _ rfl rfl
   refine wpOp_step rfl fun K hK=>?_
   go_simp
   exact hK _ _ ⟨rfl,hM⟩
  ·cases ho9
   have r6:=hD.od hd9 3 6 _ rfl (by simp)
   have hM0:=hM
   have Q_:=hM0.cellAt (b:=w.heap.size) (cs:=#[.bool s,.slice a1 n1 c1,.slice a2 n2 c2,.bool t,.slice a3 n3 c3,.slice a4 n4 c4]) (t:=67) (by simp)
   have c9_0:=Q_ 3 _ rfl
   have c9_1:=Q_ 4 _ rfl
   have c9_2:=Q_ 5 _ rfl
   clear Q_
   clear hM0
   refine wpOp_step rfl fun K hK=>?_
   go_simp
   exact hK _ _ ⟨rfl,hM⟩
  ·cases ho9
   have r7:=hD.od hd9 4 7 _ rfl (by simp)
   refine wpOp_step rfl fun K hK=>?_
   go_simp
   go_wp2_with fail
   refine (shapeOf_any _ _ _ _ _ _ _ _).mono ?_
   rintro en w9 ⟨rfl,hb9⟩
   exact hK _ _ ⟨rfl,hM.kept hb9⟩
  ·cases ho9
   have r5:=hD.od hd9 2 5 _ rfl (by simp)
   have r8:=hD.od hd9 5 8 _ rfl (by simp)
   refine wpOp_step rfl fun K hK=>?_
   go_simp
   exact hK _ _ ⟨act_eq (by rfl),hM⟩
  ·cases ho9
   have r9:=hD.od hd9 6 9 _ rfl (by simp)
   refine wpOp_step rfl fun K hK=>?_
   go_simp
   exact hK _ _ ⟨rfl,hM⟩
  ·cases ho9
   have r10:=hD.on 7 10 _ rfl (getD_true (hd9 ⟨7,.guard⟩ (by simp) rfl))
   have r1:=hD.old 1 _ rfl rfl
   refine wpOp_step rfl fun K hK=>?_
   go_simp
   exact hK _ _ ⟨rfl,hM⟩
  ·cases ho9
   have r10:=hD.on 7 10 _ rfl (getD_true (hd9 ⟨7,.guard⟩ (by simp) rfl))
   have r11:=hD.od hd9 8 11 _ rfl (by simp)
   refine wpOp_step rfl fun K hK=>?_
   go_simp
   exact hK _ _ ⟨rfl,hM⟩
  ·cases ho9
   have r10:=hD.on 7 10 _ rfl (getD_true (hd9 ⟨7,.guard⟩ (by simp) rfl))
   have r12:=hD.od hd9 9 12 _ rfl (by simp)
   refine wpOp_step rfl fun K hK=>?_
   go_simp
   exact hK _ _ ⟨rfl,hM⟩
  ·cases ho9
   have r10:=hD.on 7 10 _ rfl (getD_true (hd9 ⟨7,.guard⟩ (by simp) rfl))
   have r13:=hD.od hd9 10 13 _ rfl (by simp)
   have hM0:=hM
   have c9_0:=hM0.cellAt (b:=w.heap.size) (cs:=#[.bool s,.slice a1 n1 c1,.slice a2 n2 c2,.bool t,.slice a3 n3 c3,.slice a4 n4 c4]) (t:=67) (by simp) 1 _ rfl
   clear hM0
   refine wpOp_step rfl fun K hK=>?_
   go_simp
   exact hK _ _ ⟨rfl,hM⟩
  ·cases ho9
   have r10:=hD.on 7 10 _ rfl (getD_true (hd9 ⟨7,.guard⟩ (by simp) rfl))
   have r1:=hD.old 1 _ rfl rfl
   refine wpOp_step rfl fun K hK=>?_
   go_simp
   exact hK _ _ ⟨rfl,hM⟩
  ·cases ho9
   have r10:=hD.on 7 10 _ rfl (getD_true (hd9 ⟨7,.guard⟩ (by simp) rfl))
   have r15:=hD.od hd9 12 15 _ rfl (by simp)
   refine wpOp_step rfl fun K hK=>?_
   go_simp
   exact hK _ _ ⟨rfl,hM⟩
  ·cases ho9
   have r10:=hD.on 7 10 _ rfl (getD_true (hd9 ⟨7,.guard⟩ (by simp) rfl))
   have r16:=hD.od hd9 13 16 _ rfl (by simp)
   refine wpOp_step rfl fun K hK=>?_
   go_simp
   exact hK _ _ ⟨rfl,hM⟩
  ·cases ho9
   have r10:=hD.on 7 10 _ rfl (getD_true (hd9 ⟨7,.guard⟩ (by simp) rfl))
   have r17:=hD.od hd9 14 17 _ rfl (by simp)
   have hM0:=hM
   have c9_0:=hM0.cellAt (b:=w.heap.size) (cs:=#[.bool s,.slice a1 n1 c1,.slice a2 n2 c2,.bool t,.slice a3 n3 c3,.slice a4 n4 c4]) (t:=67) (by simp) 4 _ rfl
   clear hM0
   refine wpOp_step rfl fun K hK=>?_
   go_simp
   exact hK _ _ ⟨rfl,hM⟩
  ·cases ho9
   have r10:=hD.on 7 10 _ rfl (getD_true (hd9 ⟨7,.chain⟩ (by simp) rfl))
   have r14:=hD.od hd9 11 14 _ rfl (by simp)
   have r18:=hD.od hd9 15 18 _ rfl (by simp)
   refine wpOp_step rfl fun K hK=>?_
   go_simp
   go_wp2_with fail
   refine (HN _ hM.fr).mono ?_
   rintro en w9 ⟨rfl,hb9⟩
   exact hK _ _ ⟨rfl,hM.kept hb9⟩
  ·cases ho9
   have r10:=hD.od hd9 7 10 _ rfl (by simp)
   have r19:=hD.od hd9 16 19 _ rfl (by simp)
   refine wpOp_step rfl fun K hK=>?_
   go_simp
   exact hK _ _ ⟨rfl,hM⟩
  ·cases ho9
   have r20:=hD.od hd9 17 20 _ rfl (by simp)
   refine wpOp_step rfl fun K hK=>?_
   go_simp
   exact hK _ _ ⟨rfl,hM⟩
  ·cases ho9
   have r21:=hD.on 18 21 _ rfl (getD_true (hd9 ⟨18,.guard⟩ (by simp) rfl))
   have r1:=hD.old 1 _ rfl rfl
   refine wpOp_step rfl fun K hK=>?_
   go_simp
   exact hK _ _ ⟨rfl,hM⟩
  ·cases ho9
   have r21:=hD.on 18 21 _ rfl (getD_true (hd9 ⟨18,.guard⟩ (by simp) rfl))
   have r22:=hD.od hd9 19 22 _ rfl (by simp)
   refine wpOp_step rfl fun K hK=>?_
   go_simp
   exact hK _ _ ⟨rfl,hM⟩
  ·cases ho9
   have r21:=hD.on 18 21 _ rfl (getD_true (hd9 ⟨18,.guard⟩ (by simp) rfl))
   have r23:=hD.od hd9 20 23 _ rfl (by simp)
   refine wpOp_step rfl fun K hK=>?_
   go_simp
   exact hK _ _ ⟨rfl,hM⟩
  ·cases ho9
   have r21:=hD.on 18 21 _ rfl (getD_true (hd9 ⟨18,.guard⟩ (by simp) rfl))
   have r24:=hD.od hd9 21 24 _ rfl (by simp)
   have hM0:=hM
   have c9_0:=hM0.cellAt (b:=w.heap.size) (cs:=#[.bool s,.slice a1 n1 c1,.slice a2 n2 c2,.bool t,.slice a3 n3 c3,.slice a4 n4 c4]) (t:=67) (by simp) 2 _ rfl
   clear hM0
   refine wpOp_step rfl fun K hK=>?_
   go_simp
   exact hK _ _ ⟨rfl,hM⟩
  ·cases ho9
   have r21:=hD.on 18 21 _ rfl (getD_true (hd9 ⟨18,.guard⟩ (by simp) rfl))
   have r1:=hD.old 1 _ rfl rfl
   refine wpOp_step rfl fun K hK=>?_
   go_simp
   exact hK _ _ ⟨rfl,hM⟩
  ·cases ho9
   have r21:=hD.on 18 21 _ rfl (getD_true (hd9 ⟨18,.guard⟩ (by simp) rfl))
   have r26:=hD.od hd9 23 26 _ rfl (by simp)
   refine wpOp_step rfl fun K hK=>?_
   go_simp
   exact hK _ _ ⟨rfl,hM⟩
  ·cases ho9
   have r21:=hD.on 18 21 _ rfl (getD_true (hd9 ⟨18,.guard⟩ (by simp) rfl))
   have r27:=hD.od hd9 24 27 _ rfl (by simp)
   refine wpOp_step rfl fun K hK=>?_
   go_simp
   exact hK _ _ ⟨rfl,hM⟩
  ·cases ho9
   have r21:=hD.on 18 21 _ rfl (getD_true (hd9 ⟨18,.guard⟩ (by simp) rfl))
   have r28:=hD.od hd9 25 28 _ rfl (by simp)
   have hM0:=hM
   have c9_0:=hM0.cellAt (b:=w.heap.size) (cs:=#[.bool s,.slice a1 n1 c1,.slice a2 n2 c2,.bool t,.slice a3 n3 c3,.slice a4 n4 c4]) (t:=67) (by simp) 5 _ rfl
   clear hM0
   refine wpOp_step rfl fun K hK=>?_
   go_simp
   exact hK _ _ ⟨rfl,hM⟩
  ·cases ho9
   have r21:=hD.on 18 21 _ rfl (getD_true (hd9 ⟨18,.chain⟩ (by simp) rfl))
   have r25:=hD.od hd9 22 25 _ rfl (by simp)
   have r29:=hD.od hd9 26 29 _ rfl (by simp)
   refine wpOp_step rfl fun K hK=>?_
   go_simp
   go_wp2_with fail
   refine (HD _ hM.fr).mono ?_
   rintro en w9 ⟨rfl,hb9⟩
   exact hK _ _ ⟨rfl,hM.kept hb9⟩
  ·cases ho9
   have r21:=hD.od hd9 18 21 _ rfl (by simp)
   have r30:=hD.od hd9 27 30 _ rfl (by simp)
   refine wpOp_step rfl fun K hK=>?_
   go_simp
   exact hK _ _ ⟨rfl,hM⟩
  ·cases ho9
   have r31:=hD.od hd9 28 31 _ rfl (by simp)
   refine wpOp_step rfl fun K hK=>?_
   go_simp
   exact hK _ _ ⟨rfl,hM⟩
 ·intro l9 W9 hl9 hM
  have hS:=hM
  clear hM
  simp only [Puts.lay,List.setIfInBounds_toArray,List.set_cons_zero,List.set_cons_succ]
  obtain ⟨⟨ya,yb,yc,yd,ye,yf,-⟩,-⟩:=hS.cells
  clear hEq
  go_wp2
  go_ret
  exact ⟨rfl,hS.fr⟩
def ordR (x y:Rat):Int:=if x = y then 0 else if x < y then -1 else 1
theorem ordR_eq {x y:Rat} (h:x = y):ordR x y = 0:=by unfold ordR; rw [if_pos h]
theorem ordR_lt {x y:Rat} (h:x.num * y.den < y.num * x.den):ordR x y = -1:=by
 unfold ordR
 have hl:x < y:=(Rat.lt_iff x y).2 h
 rw [if_neg (fun e=>by subst e; omega),if_pos hl]
theorem ordR_gt {x y:Rat} (h:y.num * x.den < x.num * y.den):ordR x y = 1:=by
 unfold ordR
 have hl:¬ x < y:=fun h1=>by have:=(Rat.lt_iff x y).1 h1; omega
 rw [if_neg (fun e=>by subst e; omega),if_neg hl]
theorem rat_ne {x y:Rat} (h:x≠y):x.num * y.den≠y.num * x.den:=fun e=>
 h (by
  have h1:¬ x < y:=fun hl=>by have:=(Rat.lt_iff x y).1 hl; omega
  have h2:¬ y < x:=fun hl=>by have:=(Rat.lt_iff y x).1 hl; omega
  exact Rat.le_antisymm (Rat.not_lt.1 h2) (Rat.not_lt.1 h1))
theorem both_same (s t:Bool) (a1 a2 a3 a4:Option Addr) (n1 n2 n3 n4 c1 c2 c3 c4:Nat) (x y:Rat) (w:World) (hx:Fq w s a1 n1 a2 n2 x) (hy:Fq w t a3 n3 a4 n4 y) :
  Calls Tryz.prog 26 #[.agg #[.bool s,.slice a1 n1 c1,.slice a2 n2 c2,.bool t,.slice a3 n3 c3,.slice a4 n4 c4]] w fun e w'=>e = .returned (.bool (decide (x = y)))∧Below w.heap.size w w':=by
 rw [same_dec hx hy]
 cases he:(s == t && decide (n1 = n3) && decide (n2 = n4))
 ·have hd:((s == t) && decide (x.num.natAbs = y.num.natAbs) && decide (x.den = y.den)) = false:=by
   cases hst:(s == t)
   ·rfl
   ·rw [hst] at he
    by_cases e1:x.num.natAbs = y.num.natAbs
    ·have:=hx.num.same (e1▸hy.num)
     by_cases e2:x.den = y.den
     ·have h2:=hx.den.same (e2▸hy.den)
      rw [decide_eq_true this,decide_eq_true h2] at he
      exact absurd he (by decide)
     ·rw [decide_eq_false e2,Bool.and_false]
    ·rw [decide_eq_false e1]; rfl
  rw [hd]
  exact same_shape s t a1 a2 a3 a4 n1 n2 n3 n4 c1 c2 c3 c4 he w
 ·have he':=he
  simp only [Bool.and_eq_true,decide_eq_true_eq] at he
  obtain ⟨⟨hst,e1⟩,e2⟩:=he
  rw [hst,Bool.true_and]
  subst e1 e2
  have H1:∀ W:World,Below w.heap.size w W→Calls Tryz.prog 61 #[.slice a1 n1 c1,.slice a3 n1 c3] W fun e w'=>e = .returned (.bool (decide (x.num.natAbs = y.num.natAbs)))∧Below W.heap.size W w':=
   fun W hb=>eqS_any a1 a3 n1 c1 c3 _ _ W (hx.num.kept hb) (hy.num.kept hb)
  have H2:∀ W:World,Below w.heap.size w W→Calls Tryz.prog 61 #[.slice a2 n2 c2,.slice a4 n2 c4] W fun e w'=>e = .returned (.bool (decide (x.den = y.den)))∧Below W.heap.size W w':=
   fun W hb=>eqS_any a2 a4 n2 c2 c4 _ _ W (hx.den.kept hb) (hy.den.kept hb)
  cases hd1:decide (x.num.natAbs = y.num.natAbs)
  ·rw [hd1] at H1
   exact same_f s t a1 a2 a3 a4 n1 n2 n1 n2 c1 c2 c3 c4 he' w H1
  ·rw [hd1] at H1
   rw [Bool.true_and]
   cases hd2:decide (x.den = y.den)
   ·rw [hd2] at H2
    exact same_tf s t a1 a2 a3 a4 n1 n2 n1 n2 c1 c2 c3 c4 he' w H1 H2
   ·rw [hd2] at H2
    exact same_tt s t a1 a2 a3 a4 n1 n2 n1 n2 c1 c2 c3 c4 he' w H1 H2
theorem cmpI_pos {m k:Nat}:decide ((0:Int) < cmpI m k) = decide (k < m):=by
 unfold cmpI
 rw [decide_eq_decide]
 by_cases h:m < k
 ·rw [if_pos h]; omega
 ·rw [if_neg h]
  by_cases h2:m = k
  ·rw [if_pos h2]; omega
  ·rw [if_neg h2]; omega
theorem both_farther (s t:Bool) (a1 a2 a3 a4:Option Addr) (n1 n2 n3 n4 c1 c2 c3 c4:Nat) (x y:Rat) (w:World) (hx:Fq w s a1 n1 a2 n2 x) (hy:Fq w t a3 n3 a4 n4 y) (ho:¬ Over (x.num.natAbs * y.den)) (ho2:¬ Over (y.num.natAbs * x.den)) :
  Calls Tryz.prog 28 #[.agg #[.bool s,.slice a1 n1 c1,.slice a2 n2 c2,.bool t,.slice a3 n3 c3,.slice a4 n4 c4]] w fun e w'=>e = .returned (.bool (decide (y.num.natAbs * x.den < x.num.natAbs * y.den)))∧Below w.heap.size w w':=by
 cases hd:decide (y.num.natAbs * x.den < x.num.natAbs * y.den)
 ·exact farther_f s t a1 a2 a3 a4 n1 n2 n3 n4 c1 c2 c3 c4 _ _ _ _ ho ho2 (cmpI_pos.trans hd) w hx.num hx.den hy.num hy.den
 ·exact farther_t s t a1 a2 a3 a4 n1 n2 n3 n4 c1 c2 c3 c4 _ _ _ _ ho ho2 (cmpI_pos.trans hd) w hx.num hx.den hy.num hy.den
theorem abs_of {s:Bool} {x:Rat} (h:s = decide (x.num < 0)):x.num = Rm.sgn s x.num.natAbs:=by
 subst h
 unfold Rm.sgn
 by_cases h:x.num < 0
 ·rw [decide_eq_true h,if_pos rfl]; omega
 ·rw [decide_eq_false h,if_neg (by decide)]; omega
theorem cmp_rat (s t:Bool) (a1 a2 a3 a4:Option Addr) (n1 n2 n3 n4 c1 c2 c3 c4:Nat) (x y:Rat) (w:World) (hx:Fq w s a1 n1 a2 n2 x) (hy:Fq w t a3 n3 a4 n4 y) (ho:¬ Over (x.num.natAbs * y.den)) (ho2:¬ Over (y.num.natAbs * x.den)) :
  Calls Tryz.prog 11 #[.agg #[.bool s,.slice a1 n1 c1,.slice a2 n2 c2],.agg #[.bool t,.slice a3 n3 c3,.slice a4 n4 c4]] w fun e w'=>e = .returned (.tuple #[.int .i64 (ordR x y),.int .i64 0])∧Below w.heap.size w w':=by
 have gs:∀ {s:Bool} {z:Rat},Rm.Q z s z.num.natAbs z.den→s = true→0 < z.num.natAbs:=fun {s z} q e=>Nat.pos_of_ne_zero fun e2=>by have:=q.zero e2; rw [this] at e; cases e
 have HC:=hide (fun (W:World) (hb:Below w.heap.size w W)=>zbck W a1 a2 a3 a4 n1 n2 n3 n4 c1 c2 c3 c4 _ _ _ _ s t (hx.num.kept hb) (hx.den.kept hb) (hy.num.kept hb) (hy.den.kept hb) (hide fun W q r=>rchk_all s a1 a2 n1 c1 n2 c2 _ _ (gs hx.q) hx.q.pos hx.q.co W q r) (hide fun W q r=>rchk_all t a3 a4 n3 c3 n4 c4 _ _ (gs hy.q) hy.q.pos hy.q.co W q r))
 have HS:∀ W:World,Below w.heap.size w W→Calls Tryz.prog 26 #[.agg #[.bool s,.slice a1 n1 c1,.slice a2 n2 c2,.bool t,.slice a3 n3 c3,.slice a4 n4 c4]] W fun e w'=>e = .returned (.bool (decide (x = y)))∧Below W.heap.size W w':=
  fun W hb=>both_same s t a1 a2 a3 a4 n1 n2 n3 n4 c1 c2 c3 c4 x y W (hx.kept hb) (hy.kept hb)
 have HF:∀ W:World,Below w.heap.size w W→Calls Tryz.prog 28 #[.agg #[.bool s,.slice a1 n1 c1,.slice a2 n2 c2,.bool t,.slice a3 n3 c3,.slice a4 n4 c4]] W fun e w'=>e = .returned (.bool (decide (y.num.natAbs * x.den < x.num.natAbs * y.den)))∧Below W.heap.size W w':=
  fun W hb=>both_farther s t a1 a2 a3 a4 n1 n2 n3 n4 c1 c2 c3 c4 x y W (hx.kept hb) (hy.kept hb) ho ho2
 by_cases hxy:x = y
 ·rw [decide_eq_true hxy] at HS
  rw [ordR_eq hxy]
  exact rcmp_same s t a1 a2 a3 a4 n1 n2 n3 n4 c1 c2 c3 c4 w HC (hide HS)
 ·rw [decide_eq_false hxy] at HS
  have hne:=rat_ne hxy
  have ex:=abs_of hx.neg
  have ey:=abs_of hy.neg
  have hz:=hx.q.zero
  have hz':=hy.q.zero
  have px:0 < x.den:=Nat.pos_of_ne_zero x.den_nz
  have py:0 < y.den:=Nat.pos_of_ne_zero y.den_nz
  have hxm:x.num * (y.den:Int) = Rm.sgn s (x.num.natAbs * y.den):=by rw [Rm.sgn_scale,← ex]
  have hym:y.num * (x.den:Int) = Rm.sgn t (y.num.natAbs * x.den):=by rw [Rm.sgn_scale,← ey]
  have gx:s = true→0 < x.num.natAbs * y.den:=fun h=>Nat.mul_pos (Nat.pos_of_ne_zero (fun e=>by rw [hz e] at h; exact absurd h (by decide))) py
  have gy:t = true→0 < y.num.natAbs * x.den:=fun h=>Nat.mul_pos (Nat.pos_of_ne_zero (fun e=>by rw [hz' e] at h; exact absurd h (by decide))) px
  generalize hU:x.num.natAbs * y.den = U at hxm gx HF
  generalize hV:y.num.natAbs * x.den = V at hym gy HF
  rw [hxm,hym] at hne
  cases s <;> cases t
  ·by_cases hd:V < U
   ·rw [decide_eq_true hd] at HF
    rw [ordR_gt (by rw [hxm,hym]; simp only [Rm.sgn]; simp; omega)]
    exact rcmp_fft a1 a2 a3 a4 n1 n2 n3 n4 c1 c2 c3 c4 w HC (hide HS) (hide HF)
   ·rw [decide_eq_false hd] at HF
    rw [ordR_lt (by rw [hxm,hym]; simp only [Rm.sgn] at hne ⊢; simp at hne ⊢; omega)]
    exact rcmp_fff a1 a2 a3 a4 n1 n2 n3 n4 c1 c2 c3 c4 w HC (hide HS) (hide HF)
  ·have:=gy rfl
   rw [ordR_gt (by rw [hxm,hym]; simp only [Rm.sgn]; simp; omega)]
   exact rcmp_ft a1 a2 a3 a4 n1 n2 n3 n4 c1 c2 c3 c4 w HC (hide HS)
  ·have:=gx rfl
   rw [ordR_lt (by rw [hxm,hym]; simp only [Rm.sgn]; simp; omega)]
   exact rcmp_tf a1 a2 a3 a4 n1 n2 n3 n4 c1 c2 c3 c4 w HC (hide HS)
  ·by_cases hd:V < U
   ·rw [decide_eq_true hd] at HF
    rw [ordR_lt (by rw [hxm,hym]; simp only [Rm.sgn]; simp; omega)]
    exact rcmp_ttt a1 a2 a3 a4 n1 n2 n3 n4 c1 c2 c3 c4 w HC (hide HS) (hide HF)
   ·rw [decide_eq_false hd] at HF
    rw [ordR_gt (by rw [hxm,hym]; simp only [Rm.sgn] at hne ⊢; simp at hne ⊢; omega)]
    exact rcmp_ttf a1 a2 a3 a4 n1 n2 n3 n4 c1 c2 c3 c4 w HC (hide HS) (hide HF)
def rq (s:Bool) (p d:Nat) (hd:0 < d) (hg:Nat.gcd p d = 1):Rat:=⟨Rm.sgn s p,d,by omega,by rw [Nat.Coprime,Rm.sgn_abs]; exact hg⟩
theorem fq_rq {w:World} {s:Bool} {a b:Option Addr} {n k p d:Nat} {hd:0 < d} {hg:Nat.gcd p d = 1} (hs:s = true→0 < p) (h1:Num w a n p) (h2:Num w b k d):Fq w s a n b k (rq s p d hd hg):=by
 refine ⟨(Rm.sgn_neg fun e=>?_).symm,?_,h2⟩
 ·cases s
  ·rfl
  ·have:=hs rfl; omega
 ·show Num w a n (Rm.sgn s p).natAbs
  rw [Rm.sgn_abs]; exact h1
theorem rq_v (s:Bool) (p d:Nat) (hd:0 < d) (hg:Nat.gcd p d = 1):Rm.V (rq s p d hd hg) s p d:=⟨rfl,rfl⟩
theorem dif_eq {x y:Rat} {s t g:Bool} {n d m e z k:Nat} (hx:Rm.V x s n d) (hy:Rm.V y t m e) (hq:Rm.Q (x - y) g z k):(Rm.sgn s n * e - Rm.sgn t m * d) * k = Rm.sgn g z * (d * e):=by
 have h1:=hx.add hy.minus
 rw [← Rat.sub_eq_add_neg] at h1
 have h2:=hq.rat
 rw [h1] at h2
 have hd:=hx.pos
 have he:=hy.pos
 have hk:=hq.pos
 have h3:=(Rat.mkRat_eq_iff (Nat.ne_of_gt (Nat.mul_pos hd he)) (by omega)).1 h2
 rw [Rm.sgn_not,Int.neg_mul,← Int.sub_eq_add_neg] at h3
 rw [h3,Int.natCast_mul]
def Shorts (m:Nat):Prop:=m < 2 ^ wqB
theorem Shorts.sm {m1 d1 m2 d2:Nat} (h1:Shorts m1) (h2:Shorts d1) (h3:Shorts m2) (h4:Shorts d2) (p1:0 < d1) (p2:0 < d2):SmR (2 ^ wqB) m1 d1 m2 d2:=by
 refine ⟨Nat.le_of_lt h1,Nat.le_of_lt h2,Nat.le_of_lt h3,Nat.le_of_lt h4,p1,p2,fun v hv=>?_⟩
 refine no_over (K:=wqB+wqB+wqB+5) ?_ (by decide)
 have hp:0 < 2 ^ wqB * 2 ^ wqB * 2 ^ wqB:=Nat.mul_pos (Nat.mul_pos (Nat.pow_pos (by omega)) (Nat.pow_pos (by omega))) (Nat.pow_pos (by omega))
 rw [Nat.pow_add,Nat.pow_add,Nat.pow_add]
 omega
theorem cmp_nums {s t:Bool} {p d p' d':Nat} (hd:0 < d) (hg:Nat.gcd p d = 1) (hs:s = true→0 < p) (hd':0 < d') (hg':Nat.gcd p' d' = 1) (hs':t = true→0 < p') (o1:¬ Over (p * d')) (o2:¬ Over (p' * d)) (W:World) (a:Option Addr) (n c:Nat) (b:Option Addr) (k l:Nat) (a':Option Addr) (n' c':Nat) (b':Option Addr) (k' l':Nat) (h1:Num W a n p) (h2:Num W b k d) (h3:Num W a' n' p') (h4:Num W b' k' d') :
  Calls Tryz.prog 11 #[.agg #[.bool s,.slice a n c,.slice b k l],.agg #[.bool t,.slice a' n' c',.slice b' k' l']] W fun e W'=>e = .returned (.tuple #[.int .i64 (ordR (rq s p d hd hg) (rq t p' d' hd' hg')),.int .i64 0])∧Below W.heap.size W W':=
 cmp_rat s t a b a' b' n k n' k' c l c' l' _ _ W (fq_rq hs h1 h2) (fq_rq hs' h3 h4) (by show ¬ Over ((Rm.sgn s p).natAbs * d'); rw [Rm.sgn_abs]; exact o1) (by show ¬ Over ((Rm.sgn t p').natAbs * d); rw [Rm.sgn_abs]; exact o2)
theorem ord_lt_of {s t:Bool} {p d p' d':Nat} {hd:0 < d} {hg:Nat.gcd p d = 1} {hd':0 < d'} {hg':Nat.gcd p' d' = 1} (h:Rm.sgn s p * (d':Int) < Rm.sgn t p' * (d:Int)):ordR (rq s p d hd hg) (rq t p' d' hd' hg') = -1:=ordR_lt h
theorem ord_gt_of {s t:Bool} {p d p' d':Nat} {hd:0 < d} {hg:Nat.gcd p d = 1} {hd':0 < d'} {hg':Nat.gcd p' d' = 1} (h:Rm.sgn t p' * (d:Int) < Rm.sgn s p * (d':Int)):ordR (rq s p d hd hg) (rq t p' d' hd' hg') = 1:=ordR_gt h
theorem rq_same {s t:Bool} {p d p' d':Nat} {hd:0 < d} {hg:Nat.gcd p d = 1} {hd':0 < d'} {hg':Nat.gcd p' d' = 1} (h:Rm.sgn s p * (d':Int) = Rm.sgn t p' * (d:Int)):rq s p d hd hg = rq t p' d' hd' hg':=by
 refine Classical.byContradiction fun hne=>rat_ne hne h
theorem dif_small {x y:Rat} {s t g:Bool} {n d m e z k:Nat} (hx:Rm.V x s n d) (hy:Rm.V y t m e) (hq:Rm.Q (x - y) g z k):k≤d * e∧z≤n * e+m * d:=by
 have h:=dif_eq hx hy hq
 have hD:=Nat.mul_pos hx.pos hy.pos
 have h1:=congrArg Int.natAbs h
 rw [Int.natAbs_mul,Int.natAbs_mul,Rm.sgn_abs,Int.natAbs_natCast,show ((d:Int) * (e:Int)).natAbs = d * e by rw [← Int.natCast_mul,Int.natAbs_natCast]] at h1
 have hk:k ∣ d * e:=by
  have h2:k ∣ z * (d * e):=⟨_,by rw [← h1,Nat.mul_comm]⟩
  exact Nat.Coprime.dvd_of_dvd_mul_left (by rw [Nat.coprime_comm]; exact hq.co) h2
 have hk1:=Nat.le_of_dvd hD hk
 refine ⟨hk1,?_⟩
 have hN:(Rm.sgn s n * (e:Int) - Rm.sgn t m * (d:Int)).natAbs≤n * e+m * d:=by
  have a1:(Rm.sgn s n * (e:Int)).natAbs = n * e:=by rw [Int.natAbs_mul,Rm.sgn_abs,Int.natAbs_natCast]
  have a2:(Rm.sgn t m * (d:Int)).natAbs = m * d:=by rw [Int.natAbs_mul,Rm.sgn_abs,Int.natAbs_natCast]
  omega
 refine Nat.le_trans ?_ hN
 refine Nat.le_of_mul_le_mul_right (c:=d * e) ?_ hD
 rw [← h1]
 exact Nat.mul_le_mul_left _ hk1
theorem dif_over {x y x' y':Rat} {s t g s' t' g':Bool} {n d m e z k n' d' m' e' z' k':Nat} (hx:Rm.V x s n d) (hy:Rm.V y t m e) (hq:Rm.Q (x - y) g z k) (hx':Rm.V x' s' n' d') (hy':Rm.V y' t' m' e') (hq':Rm.Q (x' - y') g' z' k')
  (b1:Shorts n) (b2:Shorts d) (b3:Shorts m) (b4:Shorts e) (b2':Shorts d') (b4':Shorts e'):¬ Over (z * k'):=by
 obtain ⟨h1,h2⟩:=dif_small hx hy hq
 obtain ⟨h3,h4⟩:=dif_small hx' hy' hq'
 have p2:0 < 2 ^ wqB:=Nat.pow_pos (by omega)
 have c1:n * e < 2 ^ wqB * 2 ^ wqB:=Nat.mul_lt_mul_of_lt_of_le b1 (Nat.le_of_lt b4) p2
 have c2:m * d < 2 ^ wqB * 2 ^ wqB:=Nat.mul_lt_mul_of_lt_of_le b3 (Nat.le_of_lt b2) p2
 have c3:d' * e' < 2 ^ wqB * 2 ^ wqB:=Nat.mul_lt_mul_of_lt_of_le b2' (Nat.le_of_lt b4') p2
 refine no_over (K:=wqB+wqB+1+(wqB+wqB)) ?_ (by decide)
 rw [Nat.pow_add _ (wqB+wqB+1),Nat.pow_succ,Nat.pow_add]
 exact Nat.mul_lt_mul_of_lt_of_le (by omega) (by omega) (Nat.mul_pos p2 p2)
def wmd (s:Bool) (q r e md:Nat):Nat:=if r = 0 then q else q+if fth md s (decide (q % 2 = 1)) (cmpI r e) then 1 else 0
theorem cmpI_three (x y:Nat):cmpI x y = -1∨cmpI x y = 0∨cmpI x y = 1:=by unfold cmpI; split <;> (try split) <;> omega
theorem iwhole_any {p d q r e md:Nat} (hm:md≤4) (s:Bool) (a:Option Addr) (n c:Nat) (b:Option Addr) (k l:Nat) (W:World) (h1:Num W a n p) (h2:Num W b k d) (hd:0 < d) (hg:Nat.gcd p d = 1) (hs:s = true→0 < p) (hq:p / d = q) (hr:p % d = r) (he:d - r = e) (ho:¬ Over (q+1)) :
  Calls Tryz.prog 13 #[.agg #[.bool s,.slice a n c,.slice b k l],.int .u8 (md:Int)] W fun en W'=>(∃ A N C,en = .returned (.tuple #[.bool (s && !decide (wmd s q r e md = 0)),.agg #[.slice A N C],.bool (decide (r = 0)),.int .i64 0])∧Mine W' W.heap.size A N C (wmd s q r e md))∧Below W.heap.size W W':=by
 have HC:=hide fun (W':World) (hb:Below W.heap.size W W')=>tcheckF_ok s a n c b k l md hm W' (hide fun W2 hb2=>rchk_all s a b n c k l p d hs hd hg W2 ((h1.kept hb).kept hb2) ((h2.kept hb).kept hb2))
 have HD:Hid (HDiv p d q r):=hide (by rw [← hq,← hr]; exact hdiv hd)
 have hrd:r < d:=by rw [← hr]; exact Nat.mod_lt _ hd
 by_cases h0:r = 0
 ·have h:=whole_own W s a b n k c l p d q r md h1 h2 HC HD h0
  have e1:wmd s q r e md = q:=by unfold wmd; rw [if_pos h0]
  have e2:(s && !decide (q = 0)) = s:=by
   cases s
   ·rfl
   ·have hp:=hs rfl
    have hdm:=Nat.div_add_mod p d
    rw [hq,hr,h0] at hdm
    have:q≠0:=fun e=>by rw [e] at hdm; omega
    simp [this]
  rw [e1,e2,decide_eq_true h0]
  exact h
 ·have e1:wmd s q r e md = q+if fth md s (decide (q % 2 = 1)) (cmpI r e) then 1 else 0:=by unfold wmd; rw [if_neg h0]
  rw [e1,decide_eq_false h0]
  refine whole_rest W s a b n k c l p d q r md e (cmpI r e) (decide (q % 2 = 1)) _ _ h1 h2 HC HD h0 (hide fun W a n c a' n' c' g1 g2=>?_) (hide fun W a n c a' n' c' g1 g2=>cmpN_any a a' n n' c c' r e W g1 g2) (hide fun W a n c g=>?_) (hide fun W _=>farther_any md s _ _ hm (cmpI_three r e) W) (hide (hadd ho)) rfl
  ·rw [← he]; exact sub_pos a a' n n' c c' d r W g1 g2 (by omega)
  ·have:=bit_any a n c q 0 W g (by omega)
   rw [Nat.pow_zero,Nat.div_one] at this
   exact this
theorem sgn_real (s:Bool) (m:Nat):Rm.sgn (s && !decide (m = 0)) m = Rm.sgn s m:=by
 cases s
 ·rfl
 ·by_cases h:m = 0
  ·subst h; rfl
  ·simp [h]
theorem g_pos {s:Bool} {m:Nat}:(s && !decide (m = 0)) = true→0 < m:=fun h=>by
 simp at h; omega
theorem same_whole {s:Bool} {m m':Nat} (h:m = m') (W:World) (A:Option Addr) (N C:Nat) (A':Option Addr) (N' C':Nat) (A2:Option Addr) (N2 C2:Nat) (A2':Option Addr) (N2' C2':Nat) (h1:Num W A N m) (h2:Num W A' N' 1) (h3:Num W A2 N2 m') (h4:Num W A2' N2' 1) :
  Calls Tryz.prog 10 #[.agg #[.bool (s && !decide (m = 0)),.slice A N C,.slice A' N' C'],.agg #[.bool (s && !decide (m' = 0)),.slice A2 N2 C2,.slice A2' N2' C2']] W fun e W'=>e = .returned (.bool true)∧Below W.heap.size W W':=by
 subst h
 have:=same_rat _ _ A A' A2 A2' N N' N2 N2' C C' C2 C2' (rq (s && !decide (m = 0)) m 1 (by decide) (Nat.gcd_one_right m)) (rq (s && !decide (m = 0)) m 1 (by decide) (Nat.gcd_one_right m)) W (fq_rq g_pos h1 h2) (fq_rq g_pos h3 h4)
 rw [decide_eq_true rfl] at this
 exact this
theorem same_nums {s t:Bool} {p d p' d':Nat} (hd:0 < d) (hg:Nat.gcd p d = 1) (hs:s = true→0 < p) (hd':0 < d') (hg':Nat.gcd p' d' = 1) (hs':t = true→0 < p') (b:Bool) (hb:decide (Rm.sgn s p * (d':Int) = Rm.sgn t p' * (d:Int)) = b) (W:World) (A:Option Addr) (N C:Nat) (A':Option Addr) (N' C':Nat) (A2:Option Addr) (N2 C2:Nat) (A2':Option Addr) (N2' C2':Nat) (h1:Num W A N p) (h2:Num W A' N' d) (h3:Num W A2 N2 p') (h4:Num W A2' N2' d') :
  Calls Tryz.prog 10 #[.agg #[.bool s,.slice A N C,.slice A' N' C'],.agg #[.bool t,.slice A2 N2 C2,.slice A2' N2' C2']] W fun e W'=>e = .returned (.bool b)∧Below W.heap.size W W':=by
 have:=same_rat s t A A' A2 A2' N N' N2 N2' C C' C2 C2' (rq s p d hd hg) (rq t p' d' hd' hg') W (fq_rq hs h1 h2) (fq_rq hs' h3 h4)
 have e:decide (rq s p d hd hg = rq t p' d' hd' hg') = b:=by
  rw [← hb]
  refine decide_eq_decide.2 ⟨fun h=>?_,fun h=>rq_same h⟩
  have e1:=congrArg Rat.num h
  have e2:=congrArg Rat.den h
  have e3:Rm.sgn s p = Rm.sgn t p':=e1
  have e4:d = d':=e2
  rw [e3,e4]
 rw [e] at this
 exact this
theorem sign_none {N:Int} {g:Bool} {z k D:Nat} (h0:0≤N) (h:N * (k:Int) = Rm.sgn g z * (D:Int)) (hD:0 < D) (hz:g = true→0 < z):g = false:=by
 cases g
 ·rfl
 ·exfalso
  have hz0:=hz rfl
  have h1:0≤N * (k:Int):=Int.mul_nonneg h0 (Int.natCast_nonneg k)
  rw [h,show Rm.sgn true z = -(z:Int) from rfl,Int.neg_mul] at h1
  have h2:(0:Int) < (z:Int) * (D:Int):=Int.mul_pos (by omega) (by omega)
  omega
theorem iord_two {nl nr d zl dl zr dr:Nat} (hd:0 < d) (hdl:0 < dl) (hdr:0 < dr) (h1:nl * dl = zl * d) (h2:nr * dr = zr * d):(nl < nr→zl * dr < zr * dl)∧(nl = nr→zl * dr = zr * dl)∧(nr < nl→zr * dl < zl * dr):=by
 have e1:zl * dr * d = nl * (dl * dr):=by rw [Nat.mul_right_comm,← h1]; ac_rfl
 have e2:zr * dl * d = nr * (dl * dr):=by rw [Nat.mul_right_comm,← h2]; ac_rfl
 have hp:=Nat.mul_pos hdl hdr
 refine ⟨fun h=>?_,fun h=>?_,fun h=>?_⟩
 ·refine Nat.lt_of_mul_lt_mul_right (a:=d) ?_
  rw [e1,e2]; exact Nat.mul_lt_mul_of_pos_right h hp
 ·refine Nat.eq_of_mul_eq_mul_right hd ?_
  rw [e1,e2,h]
 ·refine Nat.lt_of_mul_lt_mul_right (a:=d) ?_
  rw [e1,e2]; exact Nat.mul_lt_mul_of_pos_right h hp
theorem wmd_own (s:Bool) (q e md:Nat):wmd s q 0 e md = q:=by unfold wmd; rw [if_pos rfl]
theorem wmd_two {s:Bool} {q r e:Nat} (h:r≠0):wmd s q r e 2 = q:=by unfold wmd; rw [if_neg h]; rfl
theorem wmd_three {s:Bool} {q r e:Nat} (h:r≠0):wmd s q r e 3 = q+if (!s) then 1 else 0:=by unfold wmd; rw [if_neg h]; rfl
theorem wmd_four {s:Bool} {q r e:Nat} (h:r≠0):wmd s q r e 4 = q+if s then 1 else 0:=by unfold wmd; rw [if_neg h]; rfl
theorem wmd_le (s:Bool) (q r e md:Nat):q≤wmd s q r e md∧wmd s q r e md≤q+1:=by unfold wmd; split <;> (try split) <;> omega
theorem wmd_even {s:Bool} {q r e nl nr:Nat} (h:r≠0) (hl:nl = if s then e else r) (hr:nr = if s then r else e) (b:Bool) (hb:(decide (nr < nl) || (decide (nl = nr) && (decide (wmd s q r e 4 % 2 = 1) && true))) = b):wmd s q r e 0 = if b then wmd s q r e 3 else wmd s q r e 4:=by
 rw [wmd_four h] at hb
 rw [wmd_three h,wmd_four h]
 unfold wmd
 rw [if_neg h,← hb,hl,hr]
 unfold fth cmpI
 have h3:(q+1) % 2 = 1↔q % 2 = 0:=by omega
 rcases Nat.lt_trichotomy r e with h1|h1|h1
 ·have h5:¬ e < r:=by omega
  have h6:r≠e:=by omega
  have h7:e≠r:=by omega
  rcases Nat.mod_two_eq_zero_or_one q with h2|h2 <;> cases s <;> simp [h1,h5,h6,h7,h2,h3]
 ·subst h1
  rcases Nat.mod_two_eq_zero_or_one q with h2|h2 <;> cases s <;> simp [Nat.lt_irrefl,h2,h3]
 ·have h5:¬ r < e:=by omega
  have h6:r≠e:=by omega
  have h7:e≠r:=by omega
  rcases Nat.mod_two_eq_zero_or_one q with h2|h2 <;> cases s <;> simp [h1,h5,h6,h7,h2,h3]
theorem wmd_away {s:Bool} {q r e nl nr:Nat} (h:r≠0) (hl:nl = if s then e else r) (hr:nr = if s then r else e) (b:Bool) (hb:(decide (nr < nl) || (decide (nl = nr) && !s)) = b):wmd s q r e 1 = if b then wmd s q r e 3 else wmd s q r e 4:=by
 rw [wmd_three h,wmd_four h]
 unfold wmd
 rw [if_neg h,← hb,hl,hr]
 unfold fth cmpI
 rcases Nat.lt_trichotomy r e with h1|h1|h1
 ·have h5:¬ e < r:=by omega
  have h6:r≠e:=by omega
  have h7:e≠r:=by omega
  cases s <;> simp [h1,h5,h6,h7]
 ·subst h1
  cases s <;> simp [Nat.lt_irrefl]
 ·have h5:¬ r < e:=by omega
  have h6:r≠e:=by omega
  have h7:e≠r:=by omega
  cases s <;> simp [h1,h5,h6,h7]
end Go.Proofs.YtfjegmlpkiaifaaGreatDoor
