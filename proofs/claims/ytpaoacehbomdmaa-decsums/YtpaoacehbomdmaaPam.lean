/- Of what DecSumsRow stands on: DcSumL DcAddW. -/
import Derived.Test.YtpaoacehbomdmaaPal
import Derived.Test.YtpaoacehbomdmaaPaj
import Derived.Test.YtpaoacehbomdmaaPab
namespace Go.Proofs.Ytpaoacehbomdmaa
open Go.RowKit
set_option maxHeartbeats 16000000
set_option maxRecDepth 20000
theorem sums_law (g:Bool) (s:ByteArray) (x:Int) (g0:Bool) (s0:ByteArray) (x0 c9 f9 k9:Int) (g1:Bool) (s1:ByteArray) (x1:Int) (e1:Int) (g2:Bool) (s2:ByteArray) (x2:Int) (e2:Int) (g3:Bool) (s3:ByteArray) (x3:Int) (e3:Int) (g4:Bool) (s4:ByteArray) (x4:Int) (e4:Int) (g5:Bool) (s5:ByteArray) (x5:Int) (e5:Int) (H1:Hid (∀ W:World,Calls Try.prog 18 #[.agg #[.bool g,.string s,.int .i64 x],.agg #[.bool g0,.string s0,.int .i64 x0]] W fun e W'=>e = .returned (.tuple #[.int .i64 c9,.int .i64 f9])∧Below W.heap.size W W')) (H2:Hid (∀ W:World,Calls Try.prog 16 #[.agg #[.bool g,.string s,.int .i64 x]] W fun e W'=>e = .returned (.int .i64 k9)∧Below W.heap.size W W')) (H3:Hid (∀ W:World,Calls Try.prog 8 #[.agg #[.bool g,.string s,.int .i64 x],.agg #[.bool g0,.string s0,.int .i64 x0]] W fun e W'=>e = .returned (.tuple #[.agg #[.bool g1,.string s1,.int .i64 x1],.int .i64 e1])∧Below W.heap.size W W')) (H4:Hid (∀ W:World,Calls Try.prog 8 #[.agg #[.bool g0,.string s0,.int .i64 x0],.agg #[.bool g,.string s,.int .i64 x]] W fun e W'=>e = .returned (.tuple #[.agg #[.bool g2,.string s2,.int .i64 x2],.int .i64 e2])∧Below W.heap.size W W')) (H5:Hid (∀ W:World,Calls Try.prog 8 #[.agg #[.bool g,.string s,.int .i64 x],.agg #[.bool g,.string s,.int .i64 x]] W fun e W'=>e = .returned (.tuple #[.agg #[.bool g3,.string s3,.int .i64 x3],.int .i64 e3])∧Below W.heap.size W W')) (H6:Hid (∀ W:World,Calls Try.prog 21 #[.agg #[.bool g,.string s,.int .i64 x],.agg #[.bool g0,.string s0,.int .i64 x0]] W fun e W'=>e = .returned (.tuple #[.agg #[.bool g4,.string s4,.int .i64 x4],.int .i64 e4])∧Below W.heap.size W W')) (H7:Hid (∀ W:World,Calls Try.prog 21 #[.agg #[.bool g0,.string s0,.int .i64 x0],.agg #[.bool g0,.string s0,.int .i64 x0]] W fun e W'=>e = .returned (.tuple #[.agg #[.bool g5,.string s5,.int .i64 x5],.int .i64 e5])∧Below W.heap.size W W')) (H8:Hid (∀ W:World,Calls Try.prog 19 #[.agg #[.bool g,.string s,.int .i64 x],.agg #[.bool g0,.string s0,.int .i64 x0]] W fun e W'=>e = .returned (.tuple #[.int .i64 c9,.int .i64 f9])∧Below W.heap.size W W')) (H9:Hid (∀ W:World,Calls Try.prog 23 #[.agg #[.bool g,.string s,.int .i64 x]] W fun e W'=>e = .returned (.int .i64 k9)∧Below W.heap.size W W')) (H10:Hid (∀ W:World,Calls Try.prog 20 #[.agg #[.bool g,.string s,.int .i64 x],.agg #[.bool g0,.string s0,.int .i64 x0]] W fun e W'=>e = .returned (.tuple #[.agg #[.bool g1,.string s1,.int .i64 x1],.int .i64 e1])∧Below W.heap.size W W')) (H11:Hid (∀ W:World,Calls Try.prog 20 #[.agg #[.bool g0,.string s0,.int .i64 x0],.agg #[.bool g,.string s,.int .i64 x]] W fun e W'=>e = .returned (.tuple #[.agg #[.bool g2,.string s2,.int .i64 x2],.int .i64 e2])∧Below W.heap.size W W')) (H12:Hid (∀ W:World,Calls Try.prog 20 #[.agg #[.bool g,.string s,.int .i64 x],.agg #[.bool g,.string s,.int .i64 x]] W fun e W'=>e = .returned (.tuple #[.agg #[.bool g3,.string s3,.int .i64 x3],.int .i64 e3])∧Below W.heap.size W W')) (H13:Hid (∀ W:World,Calls Try.prog 22 #[.agg #[.bool g,.string s,.int .i64 x],.agg #[.bool g0,.string s0,.int .i64 x0]] W fun e W'=>e = .returned (.tuple #[.agg #[.bool g4,.string s4,.int .i64 x4],.int .i64 e4])∧Below W.heap.size W W')) (H14:Hid (∀ W:World,Calls Try.prog 22 #[.agg #[.bool g0,.string s0,.int .i64 x0],.agg #[.bool g0,.string s0,.int .i64 x0]] W fun e W'=>e = .returned (.tuple #[.agg #[.bool g5,.string s5,.int .i64 x5],.int .i64 e5])∧Below W.heap.size W W')) (w:World):Calls Try.prog 5 #[.agg #[.bool g,.string s,.int .i64 x],.agg #[.bool g0,.string s0,.int .i64 x0]] w fun e w'=>e = .returned (.bool true)∧Below w.heap.size w w':=by
 go_enter Try.func5,Try.ntmps5
 go_wp2_with fail
 refine (unhide H1 _).mono ?_
 rintro e w1 ⟨rfl,hb1⟩
 have hS:=(Fs.two w _ _ _ _).kept hb1
 obtain ⟨⟨ya,yb,yc,-⟩,⟨yd,ye,yf,-⟩,-⟩:=hS.cells
 go_wp2_with fail
 refine (unhide H8 _).mono ?_
 rintro e w2 ⟨rfl,hb2⟩
 replace hS:=hS.kept hb2
 clear ya yb yc yd ye yf
 obtain ⟨⟨yg,yh,yi,-⟩,⟨yj,yk,yl,-⟩,-⟩:=hS.cells
 go_wp2_with fail
 refine wp_region_any (by kernel_rfl) ?_
 refine wpAny_det [some (23,.agg #[.bool g,.string s,.int .i64 x]),some (24,.agg #[.bool g0,.string s0,.int .i64 x0]),some (25,.tuple #[.agg #[.bool g1,.string s1,.int .i64 x1],.int .i64 e1]),some (26,.agg #[.bool g1,.string s1,.int .i64 x1]),some (27,.int .i64 e1),some (28,.agg #[.bool g1,.string s1,.int .i64 x1,.bool false,.int .i64 e1]),some (29,.agg #[.bool g,.string s,.int .i64 x]),some (30,.agg #[.bool g0,.string s0,.int .i64 x0]),some (31,.tuple #[.agg #[.bool g1,.string s1,.int .i64 x1],.int .i64 e1]),some (32,.agg #[.bool g1,.string s1,.int .i64 x1]),some (33,.int .i64 e1),some (34,.agg #[.bool g1,.string s1,.int .i64 x1,.bool false,.int .i64 e1]),some (35,.bool true),some (36,.bool true),some (37,.agg #[.bool g0,.string s0,.int .i64 x0]),some (38,.agg #[.bool g,.string s,.int .i64 x]),some (39,.tuple #[.agg #[.bool g2,.string s2,.int .i64 x2],.int .i64 e2]),some (40,.agg #[.bool g2,.string s2,.int .i64 x2]),some (41,.int .i64 e2),some (42,.agg #[.bool g2,.string s2,.int .i64 x2,.bool false,.int .i64 e2]),some (43,.agg #[.bool g0,.string s0,.int .i64 x0]),some (44,.agg #[.bool g,.string s,.int .i64 x]),some (45,.tuple #[.agg #[.bool g2,.string s2,.int .i64 x2],.int .i64 e2]),some (46,.agg #[.bool g2,.string s2,.int .i64 x2]),some (47,.int .i64 e2),some (48,.agg #[.bool g2,.string s2,.int .i64 x2,.bool false,.int .i64 e2]),some (49,.bool true),some (50,.bool true),some (51,.bool true),some (52,.agg #[.bool g,.string s,.int .i64 x]),some (53,.agg #[.bool g,.string s,.int .i64 x]),some (54,.tuple #[.agg #[.bool g3,.string s3,.int .i64 x3],.int .i64 e3]),some (55,.agg #[.bool g3,.string s3,.int .i64 x3]),some (56,.int .i64 e3),some (57,.agg #[.bool g3,.string s3,.int .i64 x3,.bool false,.int .i64 e3]),some (58,.agg #[.bool g,.string s,.int .i64 x]),some (59,.agg #[.bool g,.string s,.int .i64 x]),some (60,.tuple #[.agg #[.bool g3,.string s3,.int .i64 x3],.int .i64 e3]),some (61,.agg #[.bool g3,.string s3,.int .i64 x3]),some (62,.int .i64 e3),some (63,.agg #[.bool g3,.string s3,.int .i64 x3,.bool false,.int .i64 e3]),some (64,.bool true),some (65,.bool true),some (9,.bool true)]
  (fun _ W9=>Fs w W9 [⟨w.heap.size,#[.bool g,.string s,.int .i64 x],23⟩,⟨w.heap.size+1,#[.bool g0,.string s0,.int .i64 x0],23⟩]) _ _ rfl (by kernel_rfl) rfl rfl ?_ ?_ (hS).drew
 ·intro l9 t9 W9 i9 hD hi9 hl9 hM
  obtain ⟨o9,ho9,hd9⟩:=(mem_ready.1 hi9).2
  have hin9:i9 < 44:=by
   by_cases h:i9 < 44
   ·exact h
   ·rw [Array.getElem?_eq_none (by rw [hD.len]; simp; omega)] at hl9; cases hl9
  have hcase:i9 = 0∨i9 = 1∨i9 = 2∨i9 = 3∨i9 = 4∨i9 = 5∨i9 = 6∨i9 = 7∨i9 = 8∨i9 = 9∨i9 = 10∨i9 = 11∨i9 = 12∨i9 = 13∨i9 = 14∨i9 = 15∨i9 = 16∨i9 = 17∨i9 = 18∨i9 = 19∨i9 = 20∨i9 = 21∨i9 = 22∨i9 = 23∨i9 = 24∨i9 = 25∨i9 = 26∨i9 = 27∨i9 = 28∨i9 = 29∨i9 = 30∨i9 = 31∨i9 = 32∨i9 = 33∨i9 = 34∨i9 = 35∨i9 = 36∨i9 = 37∨i9 = 38∨i9 = 39∨i9 = 40∨i9 = 41∨i9 = 42∨i9 = 43:=by omega
  clear hin9
  rcases hcase with rfl|rfl|rfl|rfl|rfl|rfl|rfl|rfl|rfl|rfl|rfl|rfl|rfl|rfl|rfl|rfl|rfl|rfl|rfl|rfl|rfl|rfl|rfl|rfl|rfl|rfl|rfl|rfl|rfl|rfl|rfl|rfl|rfl|rfl|rfl|rfl|rfl|rfl|rfl|rfl|rfl|rfl|rfl|rfl
  ·cases ho9
   have r2:=hD.old 2 _ rfl rfl
   have hM0:=hM
   have Q_:=hM0.cellAt (b:=w.heap.size) (cs:=#[.bool g,.string s,.int .i64 x]) (t:=23) (by simp)
   have c9_0:=Q_ 0 _ rfl
   have c9_1:=Q_ 1 _ rfl
   have c9_2:=Q_ 2 _ rfl
   clear Q_
   clear hM0
   refine wpOp_step rfl fun K hK=>?_
   go_simp
   exact hK _ _ ⟨rfl,hM⟩
  ·cases ho9
   have r3:=hD.old 3 _ rfl rfl
   have hM0:=hM
   have Q_:=hM0.cellAt (b:=w.heap.size+1) (cs:=#[.bool g0,.string s0,.int .i64 x0]) (t:=23) (by simp)
   have c9_0:=Q_ 0 _ rfl
   have c9_1:=Q_ 1 _ rfl
   have c9_2:=Q_ 2 _ rfl
   clear Q_
   clear hM0
   refine wpOp_step rfl fun K hK=>?_
   go_simp
   exact hK _ _ ⟨rfl,hM⟩
  ·cases ho9
   have r23:=hD.od hd9 0 23 _ rfl (by simp)
   have r24:=hD.od hd9 1 24 _ rfl (by simp)
   refine wpOp_step rfl fun K hK=>?_
   go_simp
   go_wp2_with fail
   refine (unhide H3 _).mono ?_
   rintro en w9 ⟨rfl,hb9⟩
   exact hK _ _ ⟨rfl,hM.kept hb9⟩
  ·cases ho9
   have r25:=hD.od hd9 2 25 _ rfl (by simp)
   refine wpOp_step rfl fun K hK=>?_
   go_simp
   exact hK _ _ ⟨rfl,hM⟩
  ·cases ho9
   have r25:=hD.od hd9 2 25 _ rfl (by simp)
   refine wpOp_step rfl fun K hK=>?_
   go_simp
   exact hK _ _ ⟨rfl,hM⟩
  ·cases ho9
   have r26:=hD.od hd9 3 26 _ rfl (by simp)
   have r27:=hD.od hd9 4 27 _ rfl (by simp)
   refine wpOp_step rfl fun K hK=>?_
   go_simp
   go_wp2_with fail
   refine (two_any _ g1 s1 x1 e1).mono ?_
   rintro en w9 ⟨rfl,hb9⟩
   exact hK _ _ ⟨rfl,hM.kept hb9⟩
  ·cases ho9
   have r2:=hD.old 2 _ rfl rfl
   have hM0:=hM
   have Q_:=hM0.cellAt (b:=w.heap.size) (cs:=#[.bool g,.string s,.int .i64 x]) (t:=23) (by simp)
   have c9_0:=Q_ 0 _ rfl
   have c9_1:=Q_ 1 _ rfl
   have c9_2:=Q_ 2 _ rfl
   clear Q_
   clear hM0
   refine wpOp_step rfl fun K hK=>?_
   go_simp
   exact hK _ _ ⟨rfl,hM⟩
  ·cases ho9
   have r3:=hD.old 3 _ rfl rfl
   have hM0:=hM
   have Q_:=hM0.cellAt (b:=w.heap.size+1) (cs:=#[.bool g0,.string s0,.int .i64 x0]) (t:=23) (by simp)
   have c9_0:=Q_ 0 _ rfl
   have c9_1:=Q_ 1 _ rfl
   have c9_2:=Q_ 2 _ rfl
   clear Q_
   clear hM0
   refine wpOp_step rfl fun K hK=>?_
   go_simp
   exact hK _ _ ⟨rfl,hM⟩
  ·cases ho9
   have r29:=hD.od hd9 6 29 _ rfl (by simp)
   have r30:=hD.od hd9 7 30 _ rfl (by simp)
   refine wpOp_step rfl fun K hK=>?_
   go_simp
   go_wp2_with fail
   refine (unhide H10 _).mono ?_
   rintro en w9 ⟨rfl,hb9⟩
   exact hK _ _ ⟨rfl,hM.kept hb9⟩
  ·cases ho9
   have r31:=hD.od hd9 8 31 _ rfl (by simp)
   refine wpOp_step rfl fun K hK=>?_
   go_simp
   exact hK _ _ ⟨rfl,hM⟩
  ·cases ho9
   have r31:=hD.od hd9 8 31 _ rfl (by simp)
   refine wpOp_step rfl fun K hK=>?_
   go_simp
   exact hK _ _ ⟨rfl,hM⟩
  ·cases ho9
   have r32:=hD.od hd9 9 32 _ rfl (by simp)
   have r33:=hD.od hd9 10 33 _ rfl (by simp)
   refine wpOp_step rfl fun K hK=>?_
   go_simp
   go_wp2_with fail
   refine (two_any _ g1 s1 x1 e1).mono ?_
   rintro en w9 ⟨rfl,hb9⟩
   exact hK _ _ ⟨rfl,hM.kept hb9⟩
  ·cases ho9
   have r28:=hD.od hd9 5 28 _ rfl (by simp)
   have r34:=hD.od hd9 11 34 _ rfl (by simp)
   refine wpOp_step rfl fun K hK=>?_
   go_simp
   exact hK _ _ ⟨act_eq (by first|rfl|simp [eq_told]|simp [binOp,Op.equal,eq_told]),hM⟩
  ·cases ho9
   have r35:=hD.od hd9 12 35 _ rfl (by simp)
   refine wpOp_step rfl fun K hK=>?_
   go_simp
   exact hK _ _ ⟨rfl,hM⟩
  ·cases ho9
   have r36:=hD.on 13 36 _ rfl (getD_true (hd9 ⟨13,.guard⟩ (by simp) rfl))
   have r3:=hD.old 3 _ rfl rfl
   have hM0:=hM
   have Q_:=hM0.cellAt (b:=w.heap.size+1) (cs:=#[.bool g0,.string s0,.int .i64 x0]) (t:=23) (by simp)
   have c9_0:=Q_ 0 _ rfl
   have c9_1:=Q_ 1 _ rfl
   have c9_2:=Q_ 2 _ rfl
   clear Q_
   clear hM0
   refine wpOp_step rfl fun K hK=>?_
   go_simp
   exact hK _ _ ⟨rfl,hM⟩
  ·cases ho9
   have r36:=hD.on 13 36 _ rfl (getD_true (hd9 ⟨13,.guard⟩ (by simp) rfl))
   have r2:=hD.old 2 _ rfl rfl
   have hM0:=hM
   have Q_:=hM0.cellAt (b:=w.heap.size) (cs:=#[.bool g,.string s,.int .i64 x]) (t:=23) (by simp)
   have c9_0:=Q_ 0 _ rfl
   have c9_1:=Q_ 1 _ rfl
   have c9_2:=Q_ 2 _ rfl
   clear Q_
   clear hM0
   refine wpOp_step rfl fun K hK=>?_
   go_simp
   exact hK _ _ ⟨rfl,hM⟩
  ·cases ho9
   have r36:=hD.on 13 36 _ rfl (getD_true (hd9 ⟨13,.chain⟩ (by simp) rfl))
   have r37:=hD.od hd9 14 37 _ rfl (by simp)
   have r38:=hD.od hd9 15 38 _ rfl (by simp)
   refine wpOp_step rfl fun K hK=>?_
   go_simp
   go_wp2_with fail
   refine (unhide H4 _).mono ?_
   rintro en w9 ⟨rfl,hb9⟩
   exact hK _ _ ⟨rfl,hM.kept hb9⟩
  ·cases ho9
   have r36:=hD.on 13 36 _ rfl (getD_true (hd9 ⟨13,.guard⟩ (by simp) rfl))
   have r39:=hD.od hd9 16 39 _ rfl (by simp)
   refine wpOp_step rfl fun K hK=>?_
   go_simp
   exact hK _ _ ⟨rfl,hM⟩
  ·cases ho9
   have r36:=hD.on 13 36 _ rfl (getD_true (hd9 ⟨13,.guard⟩ (by simp) rfl))
   have r39:=hD.od hd9 16 39 _ rfl (by simp)
   refine wpOp_step rfl fun K hK=>?_
   go_simp
   exact hK _ _ ⟨rfl,hM⟩
  ·cases ho9
   have r36:=hD.on 13 36 _ rfl (getD_true (hd9 ⟨13,.guard⟩ (by simp) rfl))
   have r40:=hD.od hd9 17 40 _ rfl (by simp)
   have r41:=hD.od hd9 18 41 _ rfl (by simp)
   refine wpOp_step rfl fun K hK=>?_
   go_simp
   go_wp2_with fail
   refine (two_any _ g2 s2 x2 e2).mono ?_
   rintro en w9 ⟨rfl,hb9⟩
   exact hK _ _ ⟨rfl,hM.kept hb9⟩
  ·cases ho9
   have r36:=hD.on 13 36 _ rfl (getD_true (hd9 ⟨13,.guard⟩ (by simp) rfl))
   have r3:=hD.old 3 _ rfl rfl
   have hM0:=hM
   have Q_:=hM0.cellAt (b:=w.heap.size+1) (cs:=#[.bool g0,.string s0,.int .i64 x0]) (t:=23) (by simp)
   have c9_0:=Q_ 0 _ rfl
   have c9_1:=Q_ 1 _ rfl
   have c9_2:=Q_ 2 _ rfl
   clear Q_
   clear hM0
   refine wpOp_step rfl fun K hK=>?_
   go_simp
   exact hK _ _ ⟨rfl,hM⟩
  ·cases ho9
   have r36:=hD.on 13 36 _ rfl (getD_true (hd9 ⟨13,.guard⟩ (by simp) rfl))
   have r2:=hD.old 2 _ rfl rfl
   have hM0:=hM
   have Q_:=hM0.cellAt (b:=w.heap.size) (cs:=#[.bool g,.string s,.int .i64 x]) (t:=23) (by simp)
   have c9_0:=Q_ 0 _ rfl
   have c9_1:=Q_ 1 _ rfl
   have c9_2:=Q_ 2 _ rfl
   clear Q_
   clear hM0
   refine wpOp_step rfl fun K hK=>?_
   go_simp
   exact hK _ _ ⟨rfl,hM⟩
  ·cases ho9
   have r36:=hD.on 13 36 _ rfl (getD_true (hd9 ⟨13,.guard⟩ (by simp) rfl))
   have r43:=hD.od hd9 20 43 _ rfl (by simp)
   have r44:=hD.od hd9 21 44 _ rfl (by simp)
   refine wpOp_step rfl fun K hK=>?_
   go_simp
   go_wp2_with fail
   refine (unhide H11 _).mono ?_
   rintro en w9 ⟨rfl,hb9⟩
   exact hK _ _ ⟨rfl,hM.kept hb9⟩
  ·cases ho9
   have r36:=hD.on 13 36 _ rfl (getD_true (hd9 ⟨13,.guard⟩ (by simp) rfl))
   have r45:=hD.od hd9 22 45 _ rfl (by simp)
   refine wpOp_step rfl fun K hK=>?_
   go_simp
   exact hK _ _ ⟨rfl,hM⟩
  ·cases ho9
   have r36:=hD.on 13 36 _ rfl (getD_true (hd9 ⟨13,.guard⟩ (by simp) rfl))
   have r45:=hD.od hd9 22 45 _ rfl (by simp)
   refine wpOp_step rfl fun K hK=>?_
   go_simp
   exact hK _ _ ⟨rfl,hM⟩
  ·cases ho9
   have r36:=hD.on 13 36 _ rfl (getD_true (hd9 ⟨13,.guard⟩ (by simp) rfl))
   have r46:=hD.od hd9 23 46 _ rfl (by simp)
   have r47:=hD.od hd9 24 47 _ rfl (by simp)
   refine wpOp_step rfl fun K hK=>?_
   go_simp
   go_wp2_with fail
   refine (two_any _ g2 s2 x2 e2).mono ?_
   rintro en w9 ⟨rfl,hb9⟩
   exact hK _ _ ⟨rfl,hM.kept hb9⟩
  ·cases ho9
   have r36:=hD.on 13 36 _ rfl (getD_true (hd9 ⟨13,.guard⟩ (by simp) rfl))
   have r42:=hD.od hd9 19 42 _ rfl (by simp)
   have r48:=hD.od hd9 25 48 _ rfl (by simp)
   refine wpOp_step rfl fun K hK=>?_
   go_simp
   exact hK _ _ ⟨act_eq (by first|rfl|simp [eq_told]|simp [binOp,Op.equal,eq_told]),hM⟩
  ·cases ho9
   have r36:=hD.od hd9 13 36 _ rfl (by simp)
   have r49:=hD.od hd9 26 49 _ rfl (by simp)
   refine wpOp_step rfl fun K hK=>?_
   go_simp
   exact hK _ _ ⟨rfl,hM⟩
  ·cases ho9
   have r50:=hD.od hd9 27 50 _ rfl (by simp)
   refine wpOp_step rfl fun K hK=>?_
   go_simp
   exact hK _ _ ⟨rfl,hM⟩
  ·cases ho9
   have r51:=hD.on 28 51 _ rfl (getD_true (hd9 ⟨28,.guard⟩ (by simp) rfl))
   have r2:=hD.old 2 _ rfl rfl
   have hM0:=hM
   have Q_:=hM0.cellAt (b:=w.heap.size) (cs:=#[.bool g,.string s,.int .i64 x]) (t:=23) (by simp)
   have c9_0:=Q_ 0 _ rfl
   have c9_1:=Q_ 1 _ rfl
   have c9_2:=Q_ 2 _ rfl
   clear Q_
   clear hM0
   refine wpOp_step rfl fun K hK=>?_
   go_simp
   exact hK _ _ ⟨rfl,hM⟩
  ·cases ho9
   have r51:=hD.on 28 51 _ rfl (getD_true (hd9 ⟨28,.guard⟩ (by simp) rfl))
   have r2:=hD.old 2 _ rfl rfl
   have hM0:=hM
   have Q_:=hM0.cellAt (b:=w.heap.size) (cs:=#[.bool g,.string s,.int .i64 x]) (t:=23) (by simp)
   have c9_0:=Q_ 0 _ rfl
   have c9_1:=Q_ 1 _ rfl
   have c9_2:=Q_ 2 _ rfl
   clear Q_
   clear hM0
   refine wpOp_step rfl fun K hK=>?_
   go_simp
   exact hK _ _ ⟨rfl,hM⟩
  ·cases ho9
   have r51:=hD.on 28 51 _ rfl (getD_true (hd9 ⟨28,.chain⟩ (by simp) rfl))
   have r52:=hD.od hd9 29 52 _ rfl (by simp)
   have r53:=hD.od hd9 30 53 _ rfl (by simp)
   refine wpOp_step rfl fun K hK=>?_
   go_simp
   go_wp2_with fail
   refine (unhide H5 _).mono ?_
   rintro en w9 ⟨rfl,hb9⟩
   exact hK _ _ ⟨rfl,hM.kept hb9⟩
  ·cases ho9
   have r51:=hD.on 28 51 _ rfl (getD_true (hd9 ⟨28,.guard⟩ (by simp) rfl))
   have r54:=hD.od hd9 31 54 _ rfl (by simp)
   refine wpOp_step rfl fun K hK=>?_
   go_simp
   exact hK _ _ ⟨rfl,hM⟩
  ·cases ho9
   have r51:=hD.on 28 51 _ rfl (getD_true (hd9 ⟨28,.guard⟩ (by simp) rfl))
   have r54:=hD.od hd9 31 54 _ rfl (by simp)
   refine wpOp_step rfl fun K hK=>?_
   go_simp
   exact hK _ _ ⟨rfl,hM⟩
  ·cases ho9
   have r51:=hD.on 28 51 _ rfl (getD_true (hd9 ⟨28,.guard⟩ (by simp) rfl))
   have r55:=hD.od hd9 32 55 _ rfl (by simp)
   have r56:=hD.od hd9 33 56 _ rfl (by simp)
   refine wpOp_step rfl fun K hK=>?_
   go_simp
   go_wp2_with fail
   refine (two_any _ g3 s3 x3 e3).mono ?_
   rintro en w9 ⟨rfl,hb9⟩
   exact hK _ _ ⟨rfl,hM.kept hb9⟩
  ·cases ho9
   have r51:=hD.on 28 51 _ rfl (getD_true (hd9 ⟨28,.guard⟩ (by simp) rfl))
   have r2:=hD.old 2 _ rfl rfl
   have hM0:=hM
   have Q_:=hM0.cellAt (b:=w.heap.size) (cs:=#[.bool g,.string s,.int .i64 x]) (t:=23) (by simp)
   have c9_0:=Q_ 0 _ rfl
   have c9_1:=Q_ 1 _ rfl
   have c9_2:=Q_ 2 _ rfl
   clear Q_
   clear hM0
   refine wpOp_step rfl fun K hK=>?_
   go_simp
   exact hK _ _ ⟨rfl,hM⟩
  ·cases ho9
   have r51:=hD.on 28 51 _ rfl (getD_true (hd9 ⟨28,.guard⟩ (by simp) rfl))
   have r2:=hD.old 2 _ rfl rfl
   have hM0:=hM
   have Q_:=hM0.cellAt (b:=w.heap.size) (cs:=#[.bool g,.string s,.int .i64 x]) (t:=23) (by simp)
   have c9_0:=Q_ 0 _ rfl
   have c9_1:=Q_ 1 _ rfl
   have c9_2:=Q_ 2 _ rfl
   clear Q_
   clear hM0
   refine wpOp_step rfl fun K hK=>?_
   go_simp
   exact hK _ _ ⟨rfl,hM⟩
  ·cases ho9
   have r51:=hD.on 28 51 _ rfl (getD_true (hd9 ⟨28,.guard⟩ (by simp) rfl))
   have r58:=hD.od hd9 35 58 _ rfl (by simp)
   have r59:=hD.od hd9 36 59 _ rfl (by simp)
   refine wpOp_step rfl fun K hK=>?_
   go_simp
   go_wp2_with fail
   refine (unhide H12 _).mono ?_
   rintro en w9 ⟨rfl,hb9⟩
   exact hK _ _ ⟨rfl,hM.kept hb9⟩
  ·cases ho9
   have r51:=hD.on 28 51 _ rfl (getD_true (hd9 ⟨28,.guard⟩ (by simp) rfl))
   have r60:=hD.od hd9 37 60 _ rfl (by simp)
   refine wpOp_step rfl fun K hK=>?_
   go_simp
   exact hK _ _ ⟨rfl,hM⟩
  ·cases ho9
   have r51:=hD.on 28 51 _ rfl (getD_true (hd9 ⟨28,.guard⟩ (by simp) rfl))
   have r60:=hD.od hd9 37 60 _ rfl (by simp)
   refine wpOp_step rfl fun K hK=>?_
   go_simp
   exact hK _ _ ⟨rfl,hM⟩
  ·cases ho9
   have r51:=hD.on 28 51 _ rfl (getD_true (hd9 ⟨28,.guard⟩ (by simp) rfl))
   have r61:=hD.od hd9 38 61 _ rfl (by simp)
   have r62:=hD.od hd9 39 62 _ rfl (by simp)
   refine wpOp_step rfl fun K hK=>?_
   go_simp
   go_wp2_with fail
   refine (two_any _ g3 s3 x3 e3).mono ?_
   rintro en w9 ⟨rfl,hb9⟩
   exact hK _ _ ⟨rfl,hM.kept hb9⟩
  ·cases ho9
   have r51:=hD.on 28 51 _ rfl (getD_true (hd9 ⟨28,.guard⟩ (by simp) rfl))
   have r57:=hD.od hd9 34 57 _ rfl (by simp)
   have r63:=hD.od hd9 40 63 _ rfl (by simp)
   refine wpOp_step rfl fun K hK=>?_
   go_simp
   exact hK _ _ ⟨act_eq (by first|rfl|simp [eq_told]|simp [binOp,Op.equal,eq_told]),hM⟩
  ·cases ho9
   have r51:=hD.od hd9 28 51 _ rfl (by simp)
   have r64:=hD.od hd9 41 64 _ rfl (by simp)
   refine wpOp_step rfl fun K hK=>?_
   go_simp
   exact hK _ _ ⟨rfl,hM⟩
  ·cases ho9
   have r65:=hD.od hd9 42 65 _ rfl (by simp)
   refine wpOp_step rfl fun K hK=>?_
   go_simp
   exact hK _ _ ⟨rfl,hM⟩
 ·intro l9 W9 hl9 hM
  clear hS yg yh yi yj yk yl
  have hS:=hM
  clear hM
  simp only [Puts.lay,List.setIfInBounds_toArray,List.set_cons_zero,List.set_cons_succ]
  obtain ⟨⟨ym,yn,yo,-⟩,⟨yp,yq,yr,-⟩,-⟩:=hS.cells
  go_wp2_with fail
  refine wp_region_any (by kernel_rfl) ?_
  refine wpAny_det [some (66,.agg #[.bool g,.string s,.int .i64 x]),some (67,.agg #[.bool g0,.string s0,.int .i64 x0]),some (68,.tuple #[.agg #[.bool g4,.string s4,.int .i64 x4],.int .i64 e4]),some (69,.agg #[.bool g4,.string s4,.int .i64 x4]),some (70,.int .i64 e4),some (71,.agg #[.bool g4,.string s4,.int .i64 x4,.bool false,.int .i64 e4]),some (72,.agg #[.bool g,.string s,.int .i64 x]),some (73,.agg #[.bool g0,.string s0,.int .i64 x0]),some (74,.tuple #[.agg #[.bool g4,.string s4,.int .i64 x4],.int .i64 e4]),some (75,.agg #[.bool g4,.string s4,.int .i64 x4]),some (76,.int .i64 e4),some (77,.agg #[.bool g4,.string s4,.int .i64 x4,.bool false,.int .i64 e4]),some (78,.bool true),some (79,.bool true),some (80,.agg #[.bool g0,.string s0,.int .i64 x0]),some (81,.agg #[.bool g0,.string s0,.int .i64 x0]),some (82,.tuple #[.agg #[.bool g5,.string s5,.int .i64 x5],.int .i64 e5]),some (83,.agg #[.bool g5,.string s5,.int .i64 x5]),some (84,.int .i64 e5),some (85,.agg #[.bool g5,.string s5,.int .i64 x5,.bool false,.int .i64 e5]),some (86,.agg #[.bool g0,.string s0,.int .i64 x0]),some (87,.agg #[.bool g0,.string s0,.int .i64 x0]),some (88,.tuple #[.agg #[.bool g5,.string s5,.int .i64 x5],.int .i64 e5]),some (89,.agg #[.bool g5,.string s5,.int .i64 x5]),some (90,.int .i64 e5),some (91,.agg #[.bool g5,.string s5,.int .i64 x5,.bool false,.int .i64 e5]),some (92,.bool true),some (93,.bool true),some (10,.bool true)]
   (fun _ W9=>Fs w W9 [⟨w.heap.size,#[.bool g,.string s,.int .i64 x],23⟩,⟨w.heap.size+1,#[.bool g0,.string s0,.int .i64 x0],23⟩]) _ _ rfl (by kernel_rfl) rfl rfl ?_ ?_ (hS).drew
  ·intro l9 t9 W9 i9 hD hi9 hl9 hM
   obtain ⟨o9,ho9,hd9⟩:=(mem_ready.1 hi9).2
   have hin9:i9 < 29:=by
    by_cases h:i9 < 29
    ·exact h
    ·rw [Array.getElem?_eq_none (by rw [hD.len]; simp; omega)] at hl9; cases hl9
   have hcase:i9 = 0∨i9 = 1∨i9 = 2∨i9 = 3∨i9 = 4∨i9 = 5∨i9 = 6∨i9 = 7∨i9 = 8∨i9 = 9∨i9 = 10∨i9 = 11∨i9 = 12∨i9 = 13∨i9 = 14∨i9 = 15∨i9 = 16∨i9 = 17∨i9 = 18∨i9 = 19∨i9 = 20∨i9 = 21∨i9 = 22∨i9 = 23∨i9 = 24∨i9 = 25∨i9 = 26∨i9 = 27∨i9 = 28:=by omega
   clear hin9
   rcases hcase with rfl|rfl|rfl|rfl|rfl|rfl|rfl|rfl|rfl|rfl|rfl|rfl|rfl|rfl|rfl|rfl|rfl|rfl|rfl|rfl|rfl|rfl|rfl|rfl|rfl|rfl|rfl|rfl|rfl
   ·cases ho9
    have r2:=hD.old 2 _ rfl rfl
    have hM0:=hM
    have Q_:=hM0.cellAt (b:=w.heap.size) (cs:=#[.bool g,.string s,.int .i64 x]) (t:=23) (by simp)
    have c9_0:=Q_ 0 _ rfl
    have c9_1:=Q_ 1 _ rfl
    have c9_2:=Q_ 2 _ rfl
    clear Q_
    clear hM0
    refine wpOp_step rfl fun K hK=>?_
    go_simp
    exact hK _ _ ⟨rfl,hM⟩
   ·cases ho9
    have r3:=hD.old 3 _ rfl rfl
    have hM0:=hM
    have Q_:=hM0.cellAt (b:=w.heap.size+1) (cs:=#[.bool g0,.string s0,.int .i64 x0]) (t:=23) (by simp)
    have c9_0:=Q_ 0 _ rfl
    have c9_1:=Q_ 1 _ rfl
    have c9_2:=Q_ 2 _ rfl
    clear Q_
    clear hM0
    refine wpOp_step rfl fun K hK=>?_
    go_simp
    exact hK _ _ ⟨rfl,hM⟩
   ·cases ho9
    have r66:=hD.od hd9 0 66 _ rfl (by simp)
    have r67:=hD.od hd9 1 67 _ rfl (by simp)
    refine wpOp_step rfl fun K hK=>?_
    go_simp
    go_wp2_with fail
    refine (unhide H6 _).mono ?_
    rintro en w9 ⟨rfl,hb9⟩
    exact hK _ _ ⟨rfl,hM.kept hb9⟩
   ·cases ho9
    have r68:=hD.od hd9 2 68 _ rfl (by simp)
    refine wpOp_step rfl fun K hK=>?_
    go_simp
    exact hK _ _ ⟨rfl,hM⟩
   ·cases ho9
    have r68:=hD.od hd9 2 68 _ rfl (by simp)
    refine wpOp_step rfl fun K hK=>?_
    go_simp
    exact hK _ _ ⟨rfl,hM⟩
   ·cases ho9
    have r69:=hD.od hd9 3 69 _ rfl (by simp)
    have r70:=hD.od hd9 4 70 _ rfl (by simp)
    refine wpOp_step rfl fun K hK=>?_
    go_simp
    go_wp2_with fail
    refine (two_any _ g4 s4 x4 e4).mono ?_
    rintro en w9 ⟨rfl,hb9⟩
    exact hK _ _ ⟨rfl,hM.kept hb9⟩
   ·cases ho9
    have r2:=hD.old 2 _ rfl rfl
    have hM0:=hM
    have Q_:=hM0.cellAt (b:=w.heap.size) (cs:=#[.bool g,.string s,.int .i64 x]) (t:=23) (by simp)
    have c9_0:=Q_ 0 _ rfl
    have c9_1:=Q_ 1 _ rfl
    have c9_2:=Q_ 2 _ rfl
    clear Q_
    clear hM0
    refine wpOp_step rfl fun K hK=>?_
    go_simp
    exact hK _ _ ⟨rfl,hM⟩
   ·cases ho9
    have r3:=hD.old 3 _ rfl rfl
    have hM0:=hM
    have Q_:=hM0.cellAt (b:=w.heap.size+1) (cs:=#[.bool g0,.string s0,.int .i64 x0]) (t:=23) (by simp)
    have c9_0:=Q_ 0 _ rfl
    have c9_1:=Q_ 1 _ rfl
    have c9_2:=Q_ 2 _ rfl
    clear Q_
    clear hM0
    refine wpOp_step rfl fun K hK=>?_
    go_simp
    exact hK _ _ ⟨rfl,hM⟩
   ·cases ho9
    have r72:=hD.od hd9 6 72 _ rfl (by simp)
    have r73:=hD.od hd9 7 73 _ rfl (by simp)
    refine wpOp_step rfl fun K hK=>?_
    go_simp
    go_wp2_with fail
    refine (unhide H13 _).mono ?_
    rintro en w9 ⟨rfl,hb9⟩
    exact hK _ _ ⟨rfl,hM.kept hb9⟩
   ·cases ho9
    have r74:=hD.od hd9 8 74 _ rfl (by simp)
    refine wpOp_step rfl fun K hK=>?_
    go_simp
    exact hK _ _ ⟨rfl,hM⟩
   ·cases ho9
    have r74:=hD.od hd9 8 74 _ rfl (by simp)
    refine wpOp_step rfl fun K hK=>?_
    go_simp
    exact hK _ _ ⟨rfl,hM⟩
   ·cases ho9
    have r75:=hD.od hd9 9 75 _ rfl (by simp)
    have r76:=hD.od hd9 10 76 _ rfl (by simp)
    refine wpOp_step rfl fun K hK=>?_
    go_simp
    go_wp2_with fail
    refine (two_any _ g4 s4 x4 e4).mono ?_
    rintro en w9 ⟨rfl,hb9⟩
    exact hK _ _ ⟨rfl,hM.kept hb9⟩
   ·cases ho9
    have r71:=hD.od hd9 5 71 _ rfl (by simp)
    have r77:=hD.od hd9 11 77 _ rfl (by simp)
    refine wpOp_step rfl fun K hK=>?_
    go_simp
    exact hK _ _ ⟨act_eq (by first|rfl|simp [eq_told]|simp [binOp,Op.equal,eq_told]),hM⟩
   ·cases ho9
    have r78:=hD.od hd9 12 78 _ rfl (by simp)
    refine wpOp_step rfl fun K hK=>?_
    go_simp
    exact hK _ _ ⟨rfl,hM⟩
   ·cases ho9
    have r79:=hD.on 13 79 _ rfl (getD_true (hd9 ⟨13,.guard⟩ (by simp) rfl))
    have r3:=hD.old 3 _ rfl rfl
    have hM0:=hM
    have Q_:=hM0.cellAt (b:=w.heap.size+1) (cs:=#[.bool g0,.string s0,.int .i64 x0]) (t:=23) (by simp)
    have c9_0:=Q_ 0 _ rfl
    have c9_1:=Q_ 1 _ rfl
    have c9_2:=Q_ 2 _ rfl
    clear Q_
    clear hM0
    refine wpOp_step rfl fun K hK=>?_
    go_simp
    exact hK _ _ ⟨rfl,hM⟩
   ·cases ho9
    have r79:=hD.on 13 79 _ rfl (getD_true (hd9 ⟨13,.guard⟩ (by simp) rfl))
    have r3:=hD.old 3 _ rfl rfl
    have hM0:=hM
    have Q_:=hM0.cellAt (b:=w.heap.size+1) (cs:=#[.bool g0,.string s0,.int .i64 x0]) (t:=23) (by simp)
    have c9_0:=Q_ 0 _ rfl
    have c9_1:=Q_ 1 _ rfl
    have c9_2:=Q_ 2 _ rfl
    clear Q_
    clear hM0
    refine wpOp_step rfl fun K hK=>?_
    go_simp
    exact hK _ _ ⟨rfl,hM⟩
   ·cases ho9
    have r79:=hD.on 13 79 _ rfl (getD_true (hd9 ⟨13,.chain⟩ (by simp) rfl))
    have r80:=hD.od hd9 14 80 _ rfl (by simp)
    have r81:=hD.od hd9 15 81 _ rfl (by simp)
    refine wpOp_step rfl fun K hK=>?_
    go_simp
    go_wp2_with fail
    refine (unhide H7 _).mono ?_
    rintro en w9 ⟨rfl,hb9⟩
    exact hK _ _ ⟨rfl,hM.kept hb9⟩
   ·cases ho9
    have r79:=hD.on 13 79 _ rfl (getD_true (hd9 ⟨13,.guard⟩ (by simp) rfl))
    have r82:=hD.od hd9 16 82 _ rfl (by simp)
    refine wpOp_step rfl fun K hK=>?_
    go_simp
    exact hK _ _ ⟨rfl,hM⟩
   ·cases ho9
    have r79:=hD.on 13 79 _ rfl (getD_true (hd9 ⟨13,.guard⟩ (by simp) rfl))
    have r82:=hD.od hd9 16 82 _ rfl (by simp)
    refine wpOp_step rfl fun K hK=>?_
    go_simp
    exact hK _ _ ⟨rfl,hM⟩
   ·cases ho9
    have r79:=hD.on 13 79 _ rfl (getD_true (hd9 ⟨13,.guard⟩ (by simp) rfl))
    have r83:=hD.od hd9 17 83 _ rfl (by simp)
    have r84:=hD.od hd9 18 84 _ rfl (by simp)
    refine wpOp_step rfl fun K hK=>?_
    go_simp
    go_wp2_with fail
    refine (two_any _ g5 s5 x5 e5).mono ?_
    rintro en w9 ⟨rfl,hb9⟩
    exact hK _ _ ⟨rfl,hM.kept hb9⟩
   ·cases ho9
    have r79:=hD.on 13 79 _ rfl (getD_true (hd9 ⟨13,.guard⟩ (by simp) rfl))
    have r3:=hD.old 3 _ rfl rfl
    have hM0:=hM
    have Q_:=hM0.cellAt (b:=w.heap.size+1) (cs:=#[.bool g0,.string s0,.int .i64 x0]) (t:=23) (by simp)
    have c9_0:=Q_ 0 _ rfl
    have c9_1:=Q_ 1 _ rfl
    have c9_2:=Q_ 2 _ rfl
    clear Q_
    clear hM0
    refine wpOp_step rfl fun K hK=>?_
    go_simp
    exact hK _ _ ⟨rfl,hM⟩
   ·cases ho9
    have r79:=hD.on 13 79 _ rfl (getD_true (hd9 ⟨13,.guard⟩ (by simp) rfl))
    have r3:=hD.old 3 _ rfl rfl
    have hM0:=hM
    have Q_:=hM0.cellAt (b:=w.heap.size+1) (cs:=#[.bool g0,.string s0,.int .i64 x0]) (t:=23) (by simp)
    have c9_0:=Q_ 0 _ rfl
    have c9_1:=Q_ 1 _ rfl
    have c9_2:=Q_ 2 _ rfl
    clear Q_
    clear hM0
    refine wpOp_step rfl fun K hK=>?_
    go_simp
    exact hK _ _ ⟨rfl,hM⟩
   ·cases ho9
    have r79:=hD.on 13 79 _ rfl (getD_true (hd9 ⟨13,.guard⟩ (by simp) rfl))
    have r86:=hD.od hd9 20 86 _ rfl (by simp)
    have r87:=hD.od hd9 21 87 _ rfl (by simp)
    refine wpOp_step rfl fun K hK=>?_
    go_simp
    go_wp2_with fail
    refine (unhide H14 _).mono ?_
    rintro en w9 ⟨rfl,hb9⟩
    exact hK _ _ ⟨rfl,hM.kept hb9⟩
   ·cases ho9
    have r79:=hD.on 13 79 _ rfl (getD_true (hd9 ⟨13,.guard⟩ (by simp) rfl))
    have r88:=hD.od hd9 22 88 _ rfl (by simp)
    refine wpOp_step rfl fun K hK=>?_
    go_simp
    exact hK _ _ ⟨rfl,hM⟩
   ·cases ho9
    have r79:=hD.on 13 79 _ rfl (getD_true (hd9 ⟨13,.guard⟩ (by simp) rfl))
    have r88:=hD.od hd9 22 88 _ rfl (by simp)
    refine wpOp_step rfl fun K hK=>?_
    go_simp
    exact hK _ _ ⟨rfl,hM⟩
   ·cases ho9
    have r79:=hD.on 13 79 _ rfl (getD_true (hd9 ⟨13,.guard⟩ (by simp) rfl))
    have r89:=hD.od hd9 23 89 _ rfl (by simp)
    have r90:=hD.od hd9 24 90 _ rfl (by simp)
    refine wpOp_step rfl fun K hK=>?_
    go_simp
    go_wp2_with fail
    refine (two_any _ g5 s5 x5 e5).mono ?_
    rintro en w9 ⟨rfl,hb9⟩
    exact hK _ _ ⟨rfl,hM.kept hb9⟩
   ·cases ho9
    have r79:=hD.on 13 79 _ rfl (getD_true (hd9 ⟨13,.guard⟩ (by simp) rfl))
    have r85:=hD.od hd9 19 85 _ rfl (by simp)
    have r91:=hD.od hd9 25 91 _ rfl (by simp)
    refine wpOp_step rfl fun K hK=>?_
    go_simp
    exact hK _ _ ⟨act_eq (by first|rfl|simp [eq_told]|simp [binOp,Op.equal,eq_told]),hM⟩
   ·cases ho9
    have r79:=hD.od hd9 13 79 _ rfl (by simp)
    have r92:=hD.od hd9 26 92 _ rfl (by simp)
    refine wpOp_step rfl fun K hK=>?_
    go_simp
    exact hK _ _ ⟨rfl,hM⟩
   ·cases ho9
    have r93:=hD.od hd9 27 93 _ rfl (by simp)
    refine wpOp_step rfl fun K hK=>?_
    go_simp
    exact hK _ _ ⟨rfl,hM⟩
  ·intro l9 W9 hl9 hM
   clear hS ym yn yo yp yq yr
   have hS:=hM
   clear hM
   simp only [Puts.lay,List.setIfInBounds_toArray,List.set_cons_zero,List.set_cons_succ]
   obtain ⟨⟨ys,yt,yu,-⟩,⟨yv,yw,yx,-⟩,-⟩:=hS.cells
   go_wp2_with fail
   refine wp_region_any (by kernel_rfl) ?_
   refine wpAny_det [some (94,.agg #[.bool g,.string s,.int .i64 x]),some (95,.int .i64 k9),some (96,.agg #[.bool g,.string s,.int .i64 x]),some (97,.int .i64 k9),some (98,.bool true),some (99,.bool true),some (100,.int .i64 c9),some (101,.int .i64 c9),some (102,.bool true),some (103,.bool true),some (104,.bool true),some (105,.int .i64 f9),some (106,.int .i64 f9),some (107,.bool true),some (108,.bool true),some (109,.bool true),some (110,.bool true),some (111,.bool true),some (112,.bool true),some (113,.bool true),some (114,.bool true),some (4,.bool true)]
    (fun _ W9=>Fs w W9 [⟨w.heap.size,#[.bool g,.string s,.int .i64 x],23⟩,⟨w.heap.size+1,#[.bool g0,.string s0,.int .i64 x0],23⟩]) _ _ rfl (by kernel_rfl) rfl rfl ?_ ?_ (hS).drew
   ·intro l9 t9 W9 i9 hD hi9 hl9 hM
    obtain ⟨o9,ho9,hd9⟩:=(mem_ready.1 hi9).2
    have hin9:i9 < 22:=by
     by_cases h:i9 < 22
     ·exact h
     ·rw [Array.getElem?_eq_none (by rw [hD.len]; simp; omega)] at hl9; cases hl9
    have hcase:i9 = 0∨i9 = 1∨i9 = 2∨i9 = 3∨i9 = 4∨i9 = 5∨i9 = 6∨i9 = 7∨i9 = 8∨i9 = 9∨i9 = 10∨i9 = 11∨i9 = 12∨i9 = 13∨i9 = 14∨i9 = 15∨i9 = 16∨i9 = 17∨i9 = 18∨i9 = 19∨i9 = 20∨i9 = 21:=by omega
    clear hin9
    rcases hcase with rfl|rfl|rfl|rfl|rfl|rfl|rfl|rfl|rfl|rfl|rfl|rfl|rfl|rfl|rfl|rfl|rfl|rfl|rfl|rfl|rfl|rfl
    ·cases ho9
     have r2:=hD.old 2 _ rfl rfl
     have hM0:=hM
     have Q_:=hM0.cellAt (b:=w.heap.size) (cs:=#[.bool g,.string s,.int .i64 x]) (t:=23) (by simp)
     have c9_0:=Q_ 0 _ rfl
     have c9_1:=Q_ 1 _ rfl
     have c9_2:=Q_ 2 _ rfl
     clear Q_
     clear hM0
     refine wpOp_step rfl fun K hK=>?_
     go_simp
     exact hK _ _ ⟨rfl,hM⟩
    ·cases ho9
     have r94:=hD.od hd9 0 94 _ rfl (by simp)
     refine wpOp_step rfl fun K hK=>?_
     go_simp
     go_wp2_with fail
     refine (unhide H2 _).mono ?_
     rintro en w9 ⟨rfl,hb9⟩
     exact hK _ _ ⟨rfl,hM.kept hb9⟩
    ·cases ho9
     have r2:=hD.old 2 _ rfl rfl
     have hM0:=hM
     have Q_:=hM0.cellAt (b:=w.heap.size) (cs:=#[.bool g,.string s,.int .i64 x]) (t:=23) (by simp)
     have c9_0:=Q_ 0 _ rfl
     have c9_1:=Q_ 1 _ rfl
     have c9_2:=Q_ 2 _ rfl
     clear Q_
     clear hM0
     refine wpOp_step rfl fun K hK=>?_
     go_simp
     exact hK _ _ ⟨rfl,hM⟩
    ·cases ho9
     have r96:=hD.od hd9 2 96 _ rfl (by simp)
     refine wpOp_step rfl fun K hK=>?_
     go_simp
     go_wp2_with fail
     refine (unhide H9 _).mono ?_
     rintro en w9 ⟨rfl,hb9⟩
     exact hK _ _ ⟨rfl,hM.kept hb9⟩
    ·cases ho9
     have r95:=hD.od hd9 1 95 _ rfl (by simp)
     have r97:=hD.od hd9 3 97 _ rfl (by simp)
     refine wpOp_step rfl fun K hK=>?_
     go_simp
     exact hK _ _ ⟨act_eq (by first|rfl|simp),hM⟩
    ·cases ho9
     have r98:=hD.od hd9 4 98 _ rfl (by simp)
     refine wpOp_step rfl fun K hK=>?_
     go_simp
     exact hK _ _ ⟨rfl,hM⟩
    ·cases ho9
     have r99:=hD.on 5 99 _ rfl (getD_true (hd9 ⟨5,.guard⟩ (by simp) rfl))
     have r5:=hD.old 5 _ rfl rfl
     refine wpOp_step rfl fun K hK=>?_
     go_simp
     exact hK _ _ ⟨rfl,hM⟩
    ·cases ho9
     have r99:=hD.on 5 99 _ rfl (getD_true (hd9 ⟨5,.guard⟩ (by simp) rfl))
     have r7:=hD.old 7 _ rfl rfl
     refine wpOp_step rfl fun K hK=>?_
     go_simp
     exact hK _ _ ⟨rfl,hM⟩
    ·cases ho9
     have r99:=hD.on 5 99 _ rfl (getD_true (hd9 ⟨5,.guard⟩ (by simp) rfl))
     have r100:=hD.od hd9 6 100 _ rfl (by simp)
     have r101:=hD.od hd9 7 101 _ rfl (by simp)
     refine wpOp_step rfl fun K hK=>?_
     go_simp
     exact hK _ _ ⟨act_eq (by first|rfl|simp),hM⟩
    ·cases ho9
     have r99:=hD.od hd9 5 99 _ rfl (by simp)
     have r102:=hD.od hd9 8 102 _ rfl (by simp)
     refine wpOp_step rfl fun K hK=>?_
     go_simp
     exact hK _ _ ⟨rfl,hM⟩
    ·cases ho9
     have r103:=hD.od hd9 9 103 _ rfl (by simp)
     refine wpOp_step rfl fun K hK=>?_
     go_simp
     exact hK _ _ ⟨rfl,hM⟩
    ·cases ho9
     have r104:=hD.on 10 104 _ rfl (getD_true (hd9 ⟨10,.guard⟩ (by simp) rfl))
     have r6:=hD.old 6 _ rfl rfl
     refine wpOp_step rfl fun K hK=>?_
     go_simp
     exact hK _ _ ⟨rfl,hM⟩
    ·cases ho9
     have r104:=hD.on 10 104 _ rfl (getD_true (hd9 ⟨10,.guard⟩ (by simp) rfl))
     have r8:=hD.old 8 _ rfl rfl
     refine wpOp_step rfl fun K hK=>?_
     go_simp
     exact hK _ _ ⟨rfl,hM⟩
    ·cases ho9
     have r104:=hD.on 10 104 _ rfl (getD_true (hd9 ⟨10,.guard⟩ (by simp) rfl))
     have r105:=hD.od hd9 11 105 _ rfl (by simp)
     have r106:=hD.od hd9 12 106 _ rfl (by simp)
     refine wpOp_step rfl fun K hK=>?_
     go_simp
     exact hK _ _ ⟨act_eq (by first|rfl|simp),hM⟩
    ·cases ho9
     have r104:=hD.od hd9 10 104 _ rfl (by simp)
     have r107:=hD.od hd9 13 107 _ rfl (by simp)
     refine wpOp_step rfl fun K hK=>?_
     go_simp
     exact hK _ _ ⟨rfl,hM⟩
    ·cases ho9
     have r108:=hD.od hd9 14 108 _ rfl (by simp)
     refine wpOp_step rfl fun K hK=>?_
     go_simp
     exact hK _ _ ⟨rfl,hM⟩
    ·cases ho9
     have r109:=hD.on 15 109 _ rfl (getD_true (hd9 ⟨15,.guard⟩ (by simp) rfl))
     have r9:=hD.old 9 _ rfl rfl
     refine wpOp_step rfl fun K hK=>?_
     go_simp
     exact hK _ _ ⟨rfl,hM⟩
    ·cases ho9
     have r109:=hD.od hd9 15 109 _ rfl (by simp)
     have r110:=hD.od hd9 16 110 _ rfl (by simp)
     refine wpOp_step rfl fun K hK=>?_
     go_simp
     exact hK _ _ ⟨rfl,hM⟩
    ·cases ho9
     have r111:=hD.od hd9 17 111 _ rfl (by simp)
     refine wpOp_step rfl fun K hK=>?_
     go_simp
     exact hK _ _ ⟨rfl,hM⟩
    ·cases ho9
     have r112:=hD.on 18 112 _ rfl (getD_true (hd9 ⟨18,.guard⟩ (by simp) rfl))
     have r10:=hD.old 10 _ rfl rfl
     refine wpOp_step rfl fun K hK=>?_
     go_simp
     exact hK _ _ ⟨rfl,hM⟩
    ·cases ho9
     have r112:=hD.od hd9 18 112 _ rfl (by simp)
     have r113:=hD.od hd9 19 113 _ rfl (by simp)
     refine wpOp_step rfl fun K hK=>?_
     go_simp
     exact hK _ _ ⟨rfl,hM⟩
    ·cases ho9
     have r114:=hD.od hd9 20 114 _ rfl (by simp)
     refine wpOp_step rfl fun K hK=>?_
     go_simp
     exact hK _ _ ⟨rfl,hM⟩
   ·intro l9 W9 hl9 hM
    clear hS ys yt yu yv yw yx
    have hS:=hM
    clear hM
    simp only [Puts.lay,List.setIfInBounds_toArray,List.set_cons_zero,List.set_cons_succ]
    obtain ⟨⟨yy,yz,y0,-⟩,⟨y1,y2,y3,-⟩,-⟩:=hS.cells
    go_wp2
    go_ret
    exact ⟨rfl,hS.fr⟩
theorem dadd_e (w:World) (g:Bool) (s:ByteArray) (x:Int) (g2:Bool) (s2:ByteArray) (x2:Int) (e1:Int) (he:e1≠0) (HC:Hid (∀ W:World,Calls Try.prog 26 #[.agg #[.bool g,.string s,.int .i64 x],.agg #[.bool g2,.string s2,.int .i64 x2]] W fun e W'=>e = .returned (.int .i64 e1)∧Below W.heap.size W W')) :
  Calls Try.prog 8 #[.agg #[.bool g,.string s,.int .i64 x],.agg #[.bool g2,.string s2,.int .i64 x2]] w fun en w'=>en = .returned (.tuple #[.agg #[.bool false,.string ⟨#[]⟩,.int .i64 0],.int .i64 e1])∧Below w.heap.size w w':=by
 refine calls_sym Try.func8 rfl (by kernel_rfl) fun T hK=>?_
 replace hK:Kn T _ [(0,.agg #[.bool g,.string s,.int .i64 x]),(1,.agg #[.bool g2,.string s2,.int .i64 x2])]:=hK
 have hS:=Fb.begin w
 have hG:GsAt [] w:=trivial
 refine wp_symQ hS hG hK (fun p1=>[.n 2 #[.bool g,.string s,.int .i64 x] 23,.n 3 #[.bool g2,.string s2,.int .i64 x2] 23,.n 4 #[.bool false,.string ⟨#[]⟩,.int .i64 0] 23,.v 5 (.int .i64 0)]) (fun p1=>[(2,.pointer (some ⟨(p1 0).N,0,none⟩)),(3,.pointer (some ⟨(p1 1).N,0,none⟩)),(4,.pointer (some ⟨(p1 2).N,0,none⟩)),(5,.int .i64 0)]) (by kernel_rfl) (fun _ _=>by kernel_rfl) (fun _=>by kernel_rfl) (fun _=>by kernel_rfl) (fun p1=>?_) (fun p1 W1 T hF hK=>?_)
 ·iterate 3 refine ok_n (fun _=>by kernel_rfl) ?_
  refine ok_v (by kernel_rfl) ?_
  exact ok_nil
 replace hS:=SymF.fb hS hF [1000,1001,1002] [⟨(p1 0).N,#[.bool g,.string s,.int .i64 x],23,true⟩,⟨(p1 1).N,#[.bool g2,.string s2,.int .i64 x2],23,true⟩,⟨(p1 2).N,#[.bool false,.string ⟨#[]⟩,.int .i64 0],23,true⟩] (by kernel_rfl) (by kernel_rfl)
 replace hG:=hF.gx
 clear hF
 have z1:=hS.fr.size
 refine wp_seq ?_
 refine wp_symQ hS hG hK (fun p2=>[.l 11 (.agg #[.bool g,.string s,.int .i64 x]) 0 0,.l 12 (.agg #[.bool g2,.string s2,.int .i64 x2]) 1 0,.c (some 13) (cV (.int .i64 e1)),.v 6 (.int .i64 e1)]) (fun p2=>[(2,.pointer (some ⟨(p1 0).N,0,none⟩)),(3,.pointer (some ⟨(p1 1).N,0,none⟩)),(4,.pointer (some ⟨(p1 2).N,0,none⟩)),(5,.int .i64 0),(6,.int .i64 e1)]) (by kernel_rfl) (fun _ _=>by kernel_rfl) (fun _=>by kernel_rfl) (fun _=>by kernel_rfl) (fun p2=>?_) (fun p2 W2 T hF hK=>?_)
 ·iterate 2 refine ok_L (by kernel_rfl) (by kernel_rfl) (by kernel_rfl) ?_
  refine ok_c (fun W cx=>as_v (unhide HC _)) (by kernel_rfl) ?_
  refine ok_v (by kernel_rfl) ?_
  exact ok_nil
 replace hS:=SymF.fb hS hF [0,1,2] [⟨(p1 0).N,#[.bool g,.string s,.int .i64 x],23,true⟩,⟨(p1 1).N,#[.bool g2,.string s2,.int .i64 x2],23,true⟩,⟨(p1 2).N,#[.bool false,.string ⟨#[]⟩,.int .i64 0],23,true⟩] (by kernel_rfl) (by kernel_rfl)
 replace hG:=hF.gx
 clear hF
 have z2:=hS.fr.size
 refine wp_symQ hS hG hK (fun p3=>[.v 14 (.int .i64 e1),.v 15 (.bool true)]) (fun p3=>[(2,.pointer (some ⟨(p1 0).N,0,none⟩)),(3,.pointer (some ⟨(p1 1).N,0,none⟩)),(4,.pointer (some ⟨(p1 2).N,0,none⟩)),(5,.int .i64 0),(6,.int .i64 e1),(15,.bool true)]) (by kernel_rfl) (fun _ _=>by kernel_rfl) (fun _=>by kernel_rfl) (fun _=>by kernel_rfl) (fun p3=>?_) (fun p3 W3 T hF hK=>?_)
 ·refine ok_v (by kernel_rfl) ?_
  refine ok_vb (bne_iff_ne.2 he) (by kernel_rfl) ?_
  exact ok_nil
 replace hS:=SymF.fb hS hF [0,1,2] [⟨(p1 0).N,#[.bool g,.string s,.int .i64 x],23,true⟩,⟨(p1 1).N,#[.bool g2,.string s2,.int .i64 x2],23,true⟩,⟨(p1 2).N,#[.bool false,.string ⟨#[]⟩,.int .i64 0],23,true⟩] (by kernel_rfl) (by kernel_rfl)
 replace hG:=hF.gx
 clear hF
 have z3:=hS.fr.size
 refine wp_cond_true (hK.ev 15 (by kernel_rfl) _ (by kernel_rfl)) ?_
 refine wp_symQ hS hG hK (fun p4=>[.v 16 (.agg #[.bool false,.string ⟨#[]⟩,.int .i64 0]),.v 17 (.int .i64 e1),.p 2 0 [.bool false,.string ⟨#[]⟩,.int .i64 0],.v 5 (.int .i64 e1)]) (fun p4=>[(2,.pointer (some ⟨(p1 0).N,0,none⟩)),(3,.pointer (some ⟨(p1 1).N,0,none⟩)),(4,.pointer (some ⟨(p1 2).N,0,none⟩)),(5,.int .i64 e1),(15,.bool true)]) (by kernel_rfl) (fun _ _=>by kernel_rfl) (fun _=>by kernel_rfl) (fun _=>by kernel_rfl) (fun p4=>?_) (fun p4 W4 T hF hK=>?_)
 ·iterate 2 refine ok_v (by kernel_rfl) ?_
  refine ok_P (by kernel_rfl) (by kernel_rfl) (by kernel_rfl) ?_
  refine ok_v (by kernel_rfl) ?_
  exact ok_nil
 replace hS:=SymF.fb hS hF [0,1,2] [⟨(p1 0).N,#[.bool g,.string s,.int .i64 x],23,true⟩,⟨(p1 1).N,#[.bool g2,.string s2,.int .i64 x2],23,true⟩,⟨(p1 2).N,#[.bool false,.string ⟨#[]⟩,.int .i64 0],23,true⟩] (by kernel_rfl) (by kernel_rfl)
 replace hG:=hF.gx
 clear hF
 have z4:=hS.fr.size
 refine wp_ret ?_
 refine then_r ?_
 exact sym_end hS hK (.tuple #[.agg #[.bool false,.string ⟨#[]⟩,.int .i64 0],.int .i64 e1]) [(2,0,3)] [.bool false,.string ⟨#[]⟩,.int .i64 0] (by kernel_rfl) (by kernel_rfl) ⟨rfl,hS.fr⟩
theorem dadd_zz_tt (w:World) (s:ByteArray) (x:Int) (s2:ByteArray) (x2:Int) (ha:s.size = 0) (hb:s2.size = 0) (HC:Hid (∀ W:World,Calls Try.prog 26 #[.agg #[.bool true,.string s,.int .i64 x],.agg #[.bool true,.string s2,.int .i64 x2]] W fun e W'=>e = .returned (.int .i64 0)∧Below W.heap.size W W')) :
  Calls Try.prog 8 #[.agg #[.bool true,.string s,.int .i64 x],.agg #[.bool true,.string s2,.int .i64 x2]] w fun en w'=>en = .returned (.tuple #[.agg #[.bool true,.string ⟨#[]⟩,.int .i64 0],.int .i64 0])∧Below w.heap.size w w':=by
 refine calls_sym Try.func8 rfl (by kernel_rfl) fun T hK=>?_
 replace hK:Kn T _ [(0,.agg #[.bool true,.string s,.int .i64 x]),(1,.agg #[.bool true,.string s2,.int .i64 x2])]:=hK
 have hS:=Fb.begin w
 have hG:GsAt [] w:=trivial
 refine wp_symQ hS hG hK (fun p1=>[.n 2 #[.bool true,.string s,.int .i64 x] 23,.n 3 #[.bool true,.string s2,.int .i64 x2] 23,.n 4 #[.bool false,.string ⟨#[]⟩,.int .i64 0] 23,.v 5 (.int .i64 0)]) (fun p1=>[(2,.pointer (some ⟨(p1 0).N,0,none⟩)),(3,.pointer (some ⟨(p1 1).N,0,none⟩)),(4,.pointer (some ⟨(p1 2).N,0,none⟩)),(5,.int .i64 0)]) (by kernel_rfl) (fun _ _=>by kernel_rfl) (fun _=>by kernel_rfl) (fun _=>by kernel_rfl) (fun p1=>?_) (fun p1 W1 T hF hK=>?_)
 ·iterate 3 refine ok_n (fun _=>by kernel_rfl) ?_
  refine ok_v (by kernel_rfl) ?_
  exact ok_nil
 replace hS:=SymF.fb hS hF [1000,1001,1002] [⟨(p1 0).N,#[.bool true,.string s,.int .i64 x],23,true⟩,⟨(p1 1).N,#[.bool true,.string s2,.int .i64 x2],23,true⟩,⟨(p1 2).N,#[.bool false,.string ⟨#[]⟩,.int .i64 0],23,true⟩] (by kernel_rfl) (by kernel_rfl)
 replace hG:=hF.gx
 clear hF
 have z1:=hS.fr.size
 refine wp_seq ?_
 refine wp_symQ hS hG hK (fun p2=>[.l 11 (.agg #[.bool true,.string s,.int .i64 x]) 0 0,.l 12 (.agg #[.bool true,.string s2,.int .i64 x2]) 1 0,.c (some 13) (cV (.int .i64 0)),.v 6 (.int .i64 0)]) (fun p2=>[(2,.pointer (some ⟨(p1 0).N,0,none⟩)),(3,.pointer (some ⟨(p1 1).N,0,none⟩)),(4,.pointer (some ⟨(p1 2).N,0,none⟩)),(5,.int .i64 0),(6,.int .i64 0)]) (by kernel_rfl) (fun _ _=>by kernel_rfl) (fun _=>by kernel_rfl) (fun _=>by kernel_rfl) (fun p2=>?_) (fun p2 W2 T hF hK=>?_)
 ·iterate 2 refine ok_L (by kernel_rfl) (by kernel_rfl) (by kernel_rfl) ?_
  refine ok_c (fun W cx=>as_v (unhide HC _)) (by kernel_rfl) ?_
  refine ok_v (by kernel_rfl) ?_
  exact ok_nil
 replace hS:=SymF.fb hS hF [0,1,2] [⟨(p1 0).N,#[.bool true,.string s,.int .i64 x],23,true⟩,⟨(p1 1).N,#[.bool true,.string s2,.int .i64 x2],23,true⟩,⟨(p1 2).N,#[.bool false,.string ⟨#[]⟩,.int .i64 0],23,true⟩] (by kernel_rfl) (by kernel_rfl)
 replace hG:=hF.gx
 clear hF
 have z2:=hS.fr.size
 refine wp_symQ hS hG hK (fun p3=>[.v 14 (.int .i64 0),.v 15 (.bool false)]) (fun p3=>[(2,.pointer (some ⟨(p1 0).N,0,none⟩)),(3,.pointer (some ⟨(p1 1).N,0,none⟩)),(4,.pointer (some ⟨(p1 2).N,0,none⟩)),(5,.int .i64 0),(6,.int .i64 0),(15,.bool false)]) (by kernel_rfl) (fun _ _=>by kernel_rfl) (fun _=>by kernel_rfl) (fun _=>by kernel_rfl) (fun p3=>?_) (fun p3 W3 T hF hK=>?_)
 ·iterate 2 refine ok_v (by kernel_rfl) ?_
  exact ok_nil
 replace hS:=SymF.fb hS hF [0,1,2] [⟨(p1 0).N,#[.bool true,.string s,.int .i64 x],23,true⟩,⟨(p1 1).N,#[.bool true,.string s2,.int .i64 x2],23,true⟩,⟨(p1 2).N,#[.bool false,.string ⟨#[]⟩,.int .i64 0],23,true⟩] (by kernel_rfl) (by kernel_rfl)
 replace hG:=hF.gx
 clear hF
 have z3:=hS.fr.size
 refine wp_cond_false (hK.ev 15 (by kernel_rfl) _ (by kernel_rfl)) ?_
 refine wp_skip ?_
 refine then_n ?_
 refine wp_seq ?_
 refine wp_block ?_
 refine wp_symQ hS hG hK (fun p4=>[.l 19 (.agg #[.bool true,.string s,.int .i64 x]) 0 0,.c (some 20) (cV (.bool true)),.v 21 (.bool true),.l 22 (.agg #[.bool true,.string s2,.int .i64 x2]) 1 0,.c (some 23) (cV (.bool true)),.v 24 (.bool true),.v 18 (.bool true)]) (fun p4=>[(2,.pointer (some ⟨(p1 0).N,0,none⟩)),(3,.pointer (some ⟨(p1 1).N,0,none⟩)),(4,.pointer (some ⟨(p1 2).N,0,none⟩)),(5,.int .i64 0),(6,.int .i64 0),(15,.bool false),(18,.bool true)]) (by kernel_rfl) (fun _ _=>by kernel_rfl) (fun _=>by kernel_rfl) (fun _=>by kernel_rfl) (fun p4=>?_) (fun p4 W4 T hF hK=>?_)
 ·refine ok_L (by kernel_rfl) (by kernel_rfl) (by kernel_rfl) ?_
  refine ok_c (fun W cx=>as_v (isN_t _ true s x ha)) (by kernel_rfl) ?_
  refine ok_v (by kernel_rfl) ?_
  refine ok_L (by kernel_rfl) (by kernel_rfl) (by kernel_rfl) ?_
  refine ok_c (fun W cx=>as_v (isN_t _ true s2 x2 hb)) (by kernel_rfl) ?_
  iterate 2 refine ok_v (by kernel_rfl) ?_
  exact ok_nil
 replace hS:=SymF.fb hS hF [0,1,2] [⟨(p1 0).N,#[.bool true,.string s,.int .i64 x],23,true⟩,⟨(p1 1).N,#[.bool true,.string s2,.int .i64 x2],23,true⟩,⟨(p1 2).N,#[.bool false,.string ⟨#[]⟩,.int .i64 0],23,true⟩] (by kernel_rfl) (by kernel_rfl)
 replace hG:=hF.gx
 clear hF
 have z4:=hS.fr.size
 refine wp_cond_true (hK.ev 18 (by kernel_rfl) _ (by kernel_rfl)) ?_
 refine wp_symQ hS hG hK (fun p5=>[.v 25 (.pointer (some ⟨(p1 0).N,0,none⟩)),.l 26 (.bool true) 0 0,.v 27 (.bool true),.v 28 (.pointer (some ⟨(p1 1).N,0,none⟩)),.l 29 (.bool true) 1 0,.v 30 (.bool true),.v 31 (.agg #[.bool true,.string ⟨#[]⟩,.int .i64 0]),.p 2 0 [.bool true,.string ⟨#[]⟩,.int .i64 0],.v 5 (.int .i64 0)]) (fun p5=>[(2,.pointer (some ⟨(p1 0).N,0,none⟩)),(3,.pointer (some ⟨(p1 1).N,0,none⟩)),(4,.pointer (some ⟨(p1 2).N,0,none⟩)),(5,.int .i64 0),(6,.int .i64 0),(15,.bool false),(18,.bool true)]) (by kernel_rfl) (fun _ _=>by kernel_rfl) (fun _=>by kernel_rfl) (fun _=>by kernel_rfl) (fun p5=>?_) (fun p5 W5 T hF hK=>?_)
 ·refine ok_v (by kernel_rfl) ?_
  refine ok_L (by kernel_rfl) (by kernel_rfl) (by kernel_rfl) ?_
  iterate 2 refine ok_v (by kernel_rfl) ?_
  refine ok_L (by kernel_rfl) (by kernel_rfl) (by kernel_rfl) ?_
  iterate 2 refine ok_v (by kernel_rfl) ?_
  refine ok_P (by kernel_rfl) (by kernel_rfl) (by kernel_rfl) ?_
  refine ok_v (by kernel_rfl) ?_
  exact ok_nil
 replace hS:=SymF.fb hS hF [0,1,2] [⟨(p1 0).N,#[.bool true,.string s,.int .i64 x],23,true⟩,⟨(p1 1).N,#[.bool true,.string s2,.int .i64 x2],23,true⟩,⟨(p1 2).N,#[.bool true,.string ⟨#[]⟩,.int .i64 0],23,true⟩] (by kernel_rfl) (by kernel_rfl)
 replace hG:=hF.gx
 clear hF
 have z5:=hS.fr.size
 refine wp_ret ?_
 refine inb_r ?_
 refine then_r ?_
 exact sym_end hS hK (.tuple #[.agg #[.bool true,.string ⟨#[]⟩,.int .i64 0],.int .i64 0]) [(2,0,3)] [.bool true,.string ⟨#[]⟩,.int .i64 0] (by kernel_rfl) (by kernel_rfl) ⟨rfl,hS.fr⟩
theorem dadd_zz_tf (w:World) (s:ByteArray) (x:Int) (s2:ByteArray) (x2:Int) (ha:s.size = 0) (hb:s2.size = 0) (HC:Hid (∀ W:World,Calls Try.prog 26 #[.agg #[.bool true,.string s,.int .i64 x],.agg #[.bool false,.string s2,.int .i64 x2]] W fun e W'=>e = .returned (.int .i64 0)∧Below W.heap.size W W')) :
  Calls Try.prog 8 #[.agg #[.bool true,.string s,.int .i64 x],.agg #[.bool false,.string s2,.int .i64 x2]] w fun en w'=>en = .returned (.tuple #[.agg #[.bool false,.string ⟨#[]⟩,.int .i64 0],.int .i64 0])∧Below w.heap.size w w':=by
 refine calls_sym Try.func8 rfl (by kernel_rfl) fun T hK=>?_
 replace hK:Kn T _ [(0,.agg #[.bool true,.string s,.int .i64 x]),(1,.agg #[.bool false,.string s2,.int .i64 x2])]:=hK
 have hS:=Fb.begin w
 have hG:GsAt [] w:=trivial
 refine wp_symQ hS hG hK (fun p1=>[.n 2 #[.bool true,.string s,.int .i64 x] 23,.n 3 #[.bool false,.string s2,.int .i64 x2] 23,.n 4 #[.bool false,.string ⟨#[]⟩,.int .i64 0] 23,.v 5 (.int .i64 0)]) (fun p1=>[(2,.pointer (some ⟨(p1 0).N,0,none⟩)),(3,.pointer (some ⟨(p1 1).N,0,none⟩)),(4,.pointer (some ⟨(p1 2).N,0,none⟩)),(5,.int .i64 0)]) (by kernel_rfl) (fun _ _=>by kernel_rfl) (fun _=>by kernel_rfl) (fun _=>by kernel_rfl) (fun p1=>?_) (fun p1 W1 T hF hK=>?_)
 ·iterate 3 refine ok_n (fun _=>by kernel_rfl) ?_
  refine ok_v (by kernel_rfl) ?_
  exact ok_nil
 replace hS:=SymF.fb hS hF [1000,1001,1002] [⟨(p1 0).N,#[.bool true,.string s,.int .i64 x],23,true⟩,⟨(p1 1).N,#[.bool false,.string s2,.int .i64 x2],23,true⟩,⟨(p1 2).N,#[.bool false,.string ⟨#[]⟩,.int .i64 0],23,true⟩] (by kernel_rfl) (by kernel_rfl)
 replace hG:=hF.gx
 clear hF
 have z1:=hS.fr.size
 refine wp_seq ?_
 refine wp_symQ hS hG hK (fun p2=>[.l 11 (.agg #[.bool true,.string s,.int .i64 x]) 0 0,.l 12 (.agg #[.bool false,.string s2,.int .i64 x2]) 1 0,.c (some 13) (cV (.int .i64 0)),.v 6 (.int .i64 0)]) (fun p2=>[(2,.pointer (some ⟨(p1 0).N,0,none⟩)),(3,.pointer (some ⟨(p1 1).N,0,none⟩)),(4,.pointer (some ⟨(p1 2).N,0,none⟩)),(5,.int .i64 0),(6,.int .i64 0)]) (by kernel_rfl) (fun _ _=>by kernel_rfl) (fun _=>by kernel_rfl) (fun _=>by kernel_rfl) (fun p2=>?_) (fun p2 W2 T hF hK=>?_)
 ·iterate 2 refine ok_L (by kernel_rfl) (by kernel_rfl) (by kernel_rfl) ?_
  refine ok_c (fun W cx=>as_v (unhide HC _)) (by kernel_rfl) ?_
  refine ok_v (by kernel_rfl) ?_
  exact ok_nil
 replace hS:=SymF.fb hS hF [0,1,2] [⟨(p1 0).N,#[.bool true,.string s,.int .i64 x],23,true⟩,⟨(p1 1).N,#[.bool false,.string s2,.int .i64 x2],23,true⟩,⟨(p1 2).N,#[.bool false,.string ⟨#[]⟩,.int .i64 0],23,true⟩] (by kernel_rfl) (by kernel_rfl)
 replace hG:=hF.gx
 clear hF
 have z2:=hS.fr.size
 refine wp_symQ hS hG hK (fun p3=>[.v 14 (.int .i64 0),.v 15 (.bool false)]) (fun p3=>[(2,.pointer (some ⟨(p1 0).N,0,none⟩)),(3,.pointer (some ⟨(p1 1).N,0,none⟩)),(4,.pointer (some ⟨(p1 2).N,0,none⟩)),(5,.int .i64 0),(6,.int .i64 0),(15,.bool false)]) (by kernel_rfl) (fun _ _=>by kernel_rfl) (fun _=>by kernel_rfl) (fun _=>by kernel_rfl) (fun p3=>?_) (fun p3 W3 T hF hK=>?_)
 ·iterate 2 refine ok_v (by kernel_rfl) ?_
  exact ok_nil
 replace hS:=SymF.fb hS hF [0,1,2] [⟨(p1 0).N,#[.bool true,.string s,.int .i64 x],23,true⟩,⟨(p1 1).N,#[.bool false,.string s2,.int .i64 x2],23,true⟩,⟨(p1 2).N,#[.bool false,.string ⟨#[]⟩,.int .i64 0],23,true⟩] (by kernel_rfl) (by kernel_rfl)
 replace hG:=hF.gx
 clear hF
 have z3:=hS.fr.size
 refine wp_cond_false (hK.ev 15 (by kernel_rfl) _ (by kernel_rfl)) ?_
 refine wp_skip ?_
 refine then_n ?_
 refine wp_seq ?_
 refine wp_block ?_
 refine wp_symQ hS hG hK (fun p4=>[.l 19 (.agg #[.bool true,.string s,.int .i64 x]) 0 0,.c (some 20) (cV (.bool true)),.v 21 (.bool true),.l 22 (.agg #[.bool false,.string s2,.int .i64 x2]) 1 0,.c (some 23) (cV (.bool true)),.v 24 (.bool true),.v 18 (.bool true)]) (fun p4=>[(2,.pointer (some ⟨(p1 0).N,0,none⟩)),(3,.pointer (some ⟨(p1 1).N,0,none⟩)),(4,.pointer (some ⟨(p1 2).N,0,none⟩)),(5,.int .i64 0),(6,.int .i64 0),(15,.bool false),(18,.bool true)]) (by kernel_rfl) (fun _ _=>by kernel_rfl) (fun _=>by kernel_rfl) (fun _=>by kernel_rfl) (fun p4=>?_) (fun p4 W4 T hF hK=>?_)
 ·refine ok_L (by kernel_rfl) (by kernel_rfl) (by kernel_rfl) ?_
  refine ok_c (fun W cx=>as_v (isN_t _ true s x ha)) (by kernel_rfl) ?_
  refine ok_v (by kernel_rfl) ?_
  refine ok_L (by kernel_rfl) (by kernel_rfl) (by kernel_rfl) ?_
  refine ok_c (fun W cx=>as_v (isN_t _ false s2 x2 hb)) (by kernel_rfl) ?_
  iterate 2 refine ok_v (by kernel_rfl) ?_
  exact ok_nil
 replace hS:=SymF.fb hS hF [0,1,2] [⟨(p1 0).N,#[.bool true,.string s,.int .i64 x],23,true⟩,⟨(p1 1).N,#[.bool false,.string s2,.int .i64 x2],23,true⟩,⟨(p1 2).N,#[.bool false,.string ⟨#[]⟩,.int .i64 0],23,true⟩] (by kernel_rfl) (by kernel_rfl)
 replace hG:=hF.gx
 clear hF
 have z4:=hS.fr.size
 refine wp_cond_true (hK.ev 18 (by kernel_rfl) _ (by kernel_rfl)) ?_
 refine wp_symQ hS hG hK (fun p5=>[.v 25 (.pointer (some ⟨(p1 0).N,0,none⟩)),.l 26 (.bool true) 0 0,.v 27 (.bool true),.v 28 (.pointer (some ⟨(p1 1).N,0,none⟩)),.l 29 (.bool false) 1 0,.v 30 (.bool false),.v 31 (.agg #[.bool false,.string ⟨#[]⟩,.int .i64 0]),.p 2 0 [.bool false,.string ⟨#[]⟩,.int .i64 0],.v 5 (.int .i64 0)]) (fun p5=>[(2,.pointer (some ⟨(p1 0).N,0,none⟩)),(3,.pointer (some ⟨(p1 1).N,0,none⟩)),(4,.pointer (some ⟨(p1 2).N,0,none⟩)),(5,.int .i64 0),(6,.int .i64 0),(15,.bool false),(18,.bool true)]) (by kernel_rfl) (fun _ _=>by kernel_rfl) (fun _=>by kernel_rfl) (fun _=>by kernel_rfl) (fun p5=>?_) (fun p5 W5 T hF hK=>?_)
 ·refine ok_v (by kernel_rfl) ?_
  refine ok_L (by kernel_rfl) (by kernel_rfl) (by kernel_rfl) ?_
  iterate 2 refine ok_v (by kernel_rfl) ?_
  refine ok_L (by kernel_rfl) (by kernel_rfl) (by kernel_rfl) ?_
  iterate 2 refine ok_v (by kernel_rfl) ?_
  refine ok_P (by kernel_rfl) (by kernel_rfl) (by kernel_rfl) ?_
  refine ok_v (by kernel_rfl) ?_
  exact ok_nil
 replace hS:=SymF.fb hS hF [0,1,2] [⟨(p1 0).N,#[.bool true,.string s,.int .i64 x],23,true⟩,⟨(p1 1).N,#[.bool false,.string s2,.int .i64 x2],23,true⟩,⟨(p1 2).N,#[.bool false,.string ⟨#[]⟩,.int .i64 0],23,true⟩] (by kernel_rfl) (by kernel_rfl)
 replace hG:=hF.gx
 clear hF
 have z5:=hS.fr.size
 refine wp_ret ?_
 refine inb_r ?_
 refine then_r ?_
 exact sym_end hS hK (.tuple #[.agg #[.bool false,.string ⟨#[]⟩,.int .i64 0],.int .i64 0]) [(2,0,3)] [.bool false,.string ⟨#[]⟩,.int .i64 0] (by kernel_rfl) (by kernel_rfl) ⟨rfl,hS.fr⟩
theorem dadd_zz_ft (w:World) (s:ByteArray) (x:Int) (s2:ByteArray) (x2:Int) (ha:s.size = 0) (hb:s2.size = 0) (HC:Hid (∀ W:World,Calls Try.prog 26 #[.agg #[.bool false,.string s,.int .i64 x],.agg #[.bool true,.string s2,.int .i64 x2]] W fun e W'=>e = .returned (.int .i64 0)∧Below W.heap.size W W')) :
  Calls Try.prog 8 #[.agg #[.bool false,.string s,.int .i64 x],.agg #[.bool true,.string s2,.int .i64 x2]] w fun en w'=>en = .returned (.tuple #[.agg #[.bool false,.string ⟨#[]⟩,.int .i64 0],.int .i64 0])∧Below w.heap.size w w':=by
 refine calls_sym Try.func8 rfl (by kernel_rfl) fun T hK=>?_
 replace hK:Kn T _ [(0,.agg #[.bool false,.string s,.int .i64 x]),(1,.agg #[.bool true,.string s2,.int .i64 x2])]:=hK
 have hS:=Fb.begin w
 have hG:GsAt [] w:=trivial
 refine wp_symQ hS hG hK (fun p1=>[.n 2 #[.bool false,.string s,.int .i64 x] 23,.n 3 #[.bool true,.string s2,.int .i64 x2] 23,.n 4 #[.bool false,.string ⟨#[]⟩,.int .i64 0] 23,.v 5 (.int .i64 0)]) (fun p1=>[(2,.pointer (some ⟨(p1 0).N,0,none⟩)),(3,.pointer (some ⟨(p1 1).N,0,none⟩)),(4,.pointer (some ⟨(p1 2).N,0,none⟩)),(5,.int .i64 0)]) (by kernel_rfl) (fun _ _=>by kernel_rfl) (fun _=>by kernel_rfl) (fun _=>by kernel_rfl) (fun p1=>?_) (fun p1 W1 T hF hK=>?_)
 ·iterate 3 refine ok_n (fun _=>by kernel_rfl) ?_
  refine ok_v (by kernel_rfl) ?_
  exact ok_nil
 replace hS:=SymF.fb hS hF [1000,1001,1002] [⟨(p1 0).N,#[.bool false,.string s,.int .i64 x],23,true⟩,⟨(p1 1).N,#[.bool true,.string s2,.int .i64 x2],23,true⟩,⟨(p1 2).N,#[.bool false,.string ⟨#[]⟩,.int .i64 0],23,true⟩] (by kernel_rfl) (by kernel_rfl)
 replace hG:=hF.gx
 clear hF
 have z1:=hS.fr.size
 refine wp_seq ?_
 refine wp_symQ hS hG hK (fun p2=>[.l 11 (.agg #[.bool false,.string s,.int .i64 x]) 0 0,.l 12 (.agg #[.bool true,.string s2,.int .i64 x2]) 1 0,.c (some 13) (cV (.int .i64 0)),.v 6 (.int .i64 0)]) (fun p2=>[(2,.pointer (some ⟨(p1 0).N,0,none⟩)),(3,.pointer (some ⟨(p1 1).N,0,none⟩)),(4,.pointer (some ⟨(p1 2).N,0,none⟩)),(5,.int .i64 0),(6,.int .i64 0)]) (by kernel_rfl) (fun _ _=>by kernel_rfl) (fun _=>by kernel_rfl) (fun _=>by kernel_rfl) (fun p2=>?_) (fun p2 W2 T hF hK=>?_)
 ·iterate 2 refine ok_L (by kernel_rfl) (by kernel_rfl) (by kernel_rfl) ?_
  refine ok_c (fun W cx=>as_v (unhide HC _)) (by kernel_rfl) ?_
  refine ok_v (by kernel_rfl) ?_
  exact ok_nil
 replace hS:=SymF.fb hS hF [0,1,2] [⟨(p1 0).N,#[.bool false,.string s,.int .i64 x],23,true⟩,⟨(p1 1).N,#[.bool true,.string s2,.int .i64 x2],23,true⟩,⟨(p1 2).N,#[.bool false,.string ⟨#[]⟩,.int .i64 0],23,true⟩] (by kernel_rfl) (by kernel_rfl)
 replace hG:=hF.gx
 clear hF
 have z2:=hS.fr.size
 refine wp_symQ hS hG hK (fun p3=>[.v 14 (.int .i64 0),.v 15 (.bool false)]) (fun p3=>[(2,.pointer (some ⟨(p1 0).N,0,none⟩)),(3,.pointer (some ⟨(p1 1).N,0,none⟩)),(4,.pointer (some ⟨(p1 2).N,0,none⟩)),(5,.int .i64 0),(6,.int .i64 0),(15,.bool false)]) (by kernel_rfl) (fun _ _=>by kernel_rfl) (fun _=>by kernel_rfl) (fun _=>by kernel_rfl) (fun p3=>?_) (fun p3 W3 T hF hK=>?_)
 ·iterate 2 refine ok_v (by kernel_rfl) ?_
  exact ok_nil
 replace hS:=SymF.fb hS hF [0,1,2] [⟨(p1 0).N,#[.bool false,.string s,.int .i64 x],23,true⟩,⟨(p1 1).N,#[.bool true,.string s2,.int .i64 x2],23,true⟩,⟨(p1 2).N,#[.bool false,.string ⟨#[]⟩,.int .i64 0],23,true⟩] (by kernel_rfl) (by kernel_rfl)
 replace hG:=hF.gx
 clear hF
 have z3:=hS.fr.size
 refine wp_cond_false (hK.ev 15 (by kernel_rfl) _ (by kernel_rfl)) ?_
 refine wp_skip ?_
 refine then_n ?_
 refine wp_seq ?_
 refine wp_block ?_
 refine wp_symQ hS hG hK (fun p4=>[.l 19 (.agg #[.bool false,.string s,.int .i64 x]) 0 0,.c (some 20) (cV (.bool true)),.v 21 (.bool true),.l 22 (.agg #[.bool true,.string s2,.int .i64 x2]) 1 0,.c (some 23) (cV (.bool true)),.v 24 (.bool true),.v 18 (.bool true)]) (fun p4=>[(2,.pointer (some ⟨(p1 0).N,0,none⟩)),(3,.pointer (some ⟨(p1 1).N,0,none⟩)),(4,.pointer (some ⟨(p1 2).N,0,none⟩)),(5,.int .i64 0),(6,.int .i64 0),(15,.bool false),(18,.bool true)]) (by kernel_rfl) (fun _ _=>by kernel_rfl) (fun _=>by kernel_rfl) (fun _=>by kernel_rfl) (fun p4=>?_) (fun p4 W4 T hF hK=>?_)
 ·refine ok_L (by kernel_rfl) (by kernel_rfl) (by kernel_rfl) ?_
  refine ok_c (fun W cx=>as_v (isN_t _ false s x ha)) (by kernel_rfl) ?_
  refine ok_v (by kernel_rfl) ?_
  refine ok_L (by kernel_rfl) (by kernel_rfl) (by kernel_rfl) ?_
  refine ok_c (fun W cx=>as_v (isN_t _ true s2 x2 hb)) (by kernel_rfl) ?_
  iterate 2 refine ok_v (by kernel_rfl) ?_
  exact ok_nil
 replace hS:=SymF.fb hS hF [0,1,2] [⟨(p1 0).N,#[.bool false,.string s,.int .i64 x],23,true⟩,⟨(p1 1).N,#[.bool true,.string s2,.int .i64 x2],23,true⟩,⟨(p1 2).N,#[.bool false,.string ⟨#[]⟩,.int .i64 0],23,true⟩] (by kernel_rfl) (by kernel_rfl)
 replace hG:=hF.gx
 clear hF
 have z4:=hS.fr.size
 refine wp_cond_true (hK.ev 18 (by kernel_rfl) _ (by kernel_rfl)) ?_
 refine wp_symQ hS hG hK (fun p5=>[.v 25 (.pointer (some ⟨(p1 0).N,0,none⟩)),.l 26 (.bool false) 0 0,.v 27 (.bool false),.k (some 28),.k (some 29),.v 30 (.bool false),.v 31 (.agg #[.bool false,.string ⟨#[]⟩,.int .i64 0]),.p 2 0 [.bool false,.string ⟨#[]⟩,.int .i64 0],.v 5 (.int .i64 0)]) (fun p5=>[(2,.pointer (some ⟨(p1 0).N,0,none⟩)),(3,.pointer (some ⟨(p1 1).N,0,none⟩)),(4,.pointer (some ⟨(p1 2).N,0,none⟩)),(5,.int .i64 0),(6,.int .i64 0),(15,.bool false),(18,.bool true)]) (by kernel_rfl) (fun _ _=>by kernel_rfl) (fun _=>by kernel_rfl) (fun _=>by kernel_rfl) (fun p5=>?_) (fun p5 W5 T hF hK=>?_)
 ·refine ok_v (by kernel_rfl) ?_
  refine ok_L (by kernel_rfl) (by kernel_rfl) (by kernel_rfl) ?_
  refine ok_v (by kernel_rfl) ?_
  iterate 2 refine ok_K (by kernel_rfl) ?_
  iterate 2 refine ok_v (by kernel_rfl) ?_
  refine ok_P (by kernel_rfl) (by kernel_rfl) (by kernel_rfl) ?_
  refine ok_v (by kernel_rfl) ?_
  exact ok_nil
 replace hS:=SymF.fb hS hF [0,1,2] [⟨(p1 0).N,#[.bool false,.string s,.int .i64 x],23,true⟩,⟨(p1 1).N,#[.bool true,.string s2,.int .i64 x2],23,true⟩,⟨(p1 2).N,#[.bool false,.string ⟨#[]⟩,.int .i64 0],23,true⟩] (by kernel_rfl) (by kernel_rfl)
 replace hG:=hF.gx
 clear hF
 have z5:=hS.fr.size
 refine wp_ret ?_
 refine inb_r ?_
 refine then_r ?_
 exact sym_end hS hK (.tuple #[.agg #[.bool false,.string ⟨#[]⟩,.int .i64 0],.int .i64 0]) [(2,0,3)] [.bool false,.string ⟨#[]⟩,.int .i64 0] (by kernel_rfl) (by kernel_rfl) ⟨rfl,hS.fr⟩
theorem dadd_zz_ff (w:World) (s:ByteArray) (x:Int) (s2:ByteArray) (x2:Int) (ha:s.size = 0) (hb:s2.size = 0) (HC:Hid (∀ W:World,Calls Try.prog 26 #[.agg #[.bool false,.string s,.int .i64 x],.agg #[.bool false,.string s2,.int .i64 x2]] W fun e W'=>e = .returned (.int .i64 0)∧Below W.heap.size W W')) :
  Calls Try.prog 8 #[.agg #[.bool false,.string s,.int .i64 x],.agg #[.bool false,.string s2,.int .i64 x2]] w fun en w'=>en = .returned (.tuple #[.agg #[.bool false,.string ⟨#[]⟩,.int .i64 0],.int .i64 0])∧Below w.heap.size w w':=by
 refine calls_sym Try.func8 rfl (by kernel_rfl) fun T hK=>?_
 replace hK:Kn T _ [(0,.agg #[.bool false,.string s,.int .i64 x]),(1,.agg #[.bool false,.string s2,.int .i64 x2])]:=hK
 have hS:=Fb.begin w
 have hG:GsAt [] w:=trivial
 refine wp_symQ hS hG hK (fun p1=>[.n 2 #[.bool false,.string s,.int .i64 x] 23,.n 3 #[.bool false,.string s2,.int .i64 x2] 23,.n 4 #[.bool false,.string ⟨#[]⟩,.int .i64 0] 23,.v 5 (.int .i64 0)]) (fun p1=>[(2,.pointer (some ⟨(p1 0).N,0,none⟩)),(3,.pointer (some ⟨(p1 1).N,0,none⟩)),(4,.pointer (some ⟨(p1 2).N,0,none⟩)),(5,.int .i64 0)]) (by kernel_rfl) (fun _ _=>by kernel_rfl) (fun _=>by kernel_rfl) (fun _=>by kernel_rfl) (fun p1=>?_) (fun p1 W1 T hF hK=>?_)
 ·iterate 3 refine ok_n (fun _=>by kernel_rfl) ?_
  refine ok_v (by kernel_rfl) ?_
  exact ok_nil
 replace hS:=SymF.fb hS hF [1000,1001,1002] [⟨(p1 0).N,#[.bool false,.string s,.int .i64 x],23,true⟩,⟨(p1 1).N,#[.bool false,.string s2,.int .i64 x2],23,true⟩,⟨(p1 2).N,#[.bool false,.string ⟨#[]⟩,.int .i64 0],23,true⟩] (by kernel_rfl) (by kernel_rfl)
 replace hG:=hF.gx
 clear hF
 have z1:=hS.fr.size
 refine wp_seq ?_
 refine wp_symQ hS hG hK (fun p2=>[.l 11 (.agg #[.bool false,.string s,.int .i64 x]) 0 0,.l 12 (.agg #[.bool false,.string s2,.int .i64 x2]) 1 0,.c (some 13) (cV (.int .i64 0)),.v 6 (.int .i64 0)]) (fun p2=>[(2,.pointer (some ⟨(p1 0).N,0,none⟩)),(3,.pointer (some ⟨(p1 1).N,0,none⟩)),(4,.pointer (some ⟨(p1 2).N,0,none⟩)),(5,.int .i64 0),(6,.int .i64 0)]) (by kernel_rfl) (fun _ _=>by kernel_rfl) (fun _=>by kernel_rfl) (fun _=>by kernel_rfl) (fun p2=>?_) (fun p2 W2 T hF hK=>?_)
 ·iterate 2 refine ok_L (by kernel_rfl) (by kernel_rfl) (by kernel_rfl) ?_
  refine ok_c (fun W cx=>as_v (unhide HC _)) (by kernel_rfl) ?_
  refine ok_v (by kernel_rfl) ?_
  exact ok_nil
 replace hS:=SymF.fb hS hF [0,1,2] [⟨(p1 0).N,#[.bool false,.string s,.int .i64 x],23,true⟩,⟨(p1 1).N,#[.bool false,.string s2,.int .i64 x2],23,true⟩,⟨(p1 2).N,#[.bool false,.string ⟨#[]⟩,.int .i64 0],23,true⟩] (by kernel_rfl) (by kernel_rfl)
 replace hG:=hF.gx
 clear hF
 have z2:=hS.fr.size
 refine wp_symQ hS hG hK (fun p3=>[.v 14 (.int .i64 0),.v 15 (.bool false)]) (fun p3=>[(2,.pointer (some ⟨(p1 0).N,0,none⟩)),(3,.pointer (some ⟨(p1 1).N,0,none⟩)),(4,.pointer (some ⟨(p1 2).N,0,none⟩)),(5,.int .i64 0),(6,.int .i64 0),(15,.bool false)]) (by kernel_rfl) (fun _ _=>by kernel_rfl) (fun _=>by kernel_rfl) (fun _=>by kernel_rfl) (fun p3=>?_) (fun p3 W3 T hF hK=>?_)
 ·iterate 2 refine ok_v (by kernel_rfl) ?_
  exact ok_nil
 replace hS:=SymF.fb hS hF [0,1,2] [⟨(p1 0).N,#[.bool false,.string s,.int .i64 x],23,true⟩,⟨(p1 1).N,#[.bool false,.string s2,.int .i64 x2],23,true⟩,⟨(p1 2).N,#[.bool false,.string ⟨#[]⟩,.int .i64 0],23,true⟩] (by kernel_rfl) (by kernel_rfl)
 replace hG:=hF.gx
 clear hF
 have z3:=hS.fr.size
 refine wp_cond_false (hK.ev 15 (by kernel_rfl) _ (by kernel_rfl)) ?_
 refine wp_skip ?_
 refine then_n ?_
 refine wp_seq ?_
 refine wp_block ?_
 refine wp_symQ hS hG hK (fun p4=>[.l 19 (.agg #[.bool false,.string s,.int .i64 x]) 0 0,.c (some 20) (cV (.bool true)),.v 21 (.bool true),.l 22 (.agg #[.bool false,.string s2,.int .i64 x2]) 1 0,.c (some 23) (cV (.bool true)),.v 24 (.bool true),.v 18 (.bool true)]) (fun p4=>[(2,.pointer (some ⟨(p1 0).N,0,none⟩)),(3,.pointer (some ⟨(p1 1).N,0,none⟩)),(4,.pointer (some ⟨(p1 2).N,0,none⟩)),(5,.int .i64 0),(6,.int .i64 0),(15,.bool false),(18,.bool true)]) (by kernel_rfl) (fun _ _=>by kernel_rfl) (fun _=>by kernel_rfl) (fun _=>by kernel_rfl) (fun p4=>?_) (fun p4 W4 T hF hK=>?_)
 ·refine ok_L (by kernel_rfl) (by kernel_rfl) (by kernel_rfl) ?_
  refine ok_c (fun W cx=>as_v (isN_t _ false s x ha)) (by kernel_rfl) ?_
  refine ok_v (by kernel_rfl) ?_
  refine ok_L (by kernel_rfl) (by kernel_rfl) (by kernel_rfl) ?_
  refine ok_c (fun W cx=>as_v (isN_t _ false s2 x2 hb)) (by kernel_rfl) ?_
  iterate 2 refine ok_v (by kernel_rfl) ?_
  exact ok_nil
 replace hS:=SymF.fb hS hF [0,1,2] [⟨(p1 0).N,#[.bool false,.string s,.int .i64 x],23,true⟩,⟨(p1 1).N,#[.bool false,.string s2,.int .i64 x2],23,true⟩,⟨(p1 2).N,#[.bool false,.string ⟨#[]⟩,.int .i64 0],23,true⟩] (by kernel_rfl) (by kernel_rfl)
 replace hG:=hF.gx
 clear hF
 have z4:=hS.fr.size
 refine wp_cond_true (hK.ev 18 (by kernel_rfl) _ (by kernel_rfl)) ?_
 refine wp_symQ hS hG hK (fun p5=>[.v 25 (.pointer (some ⟨(p1 0).N,0,none⟩)),.l 26 (.bool false) 0 0,.v 27 (.bool false),.k (some 28),.k (some 29),.v 30 (.bool false),.v 31 (.agg #[.bool false,.string ⟨#[]⟩,.int .i64 0]),.p 2 0 [.bool false,.string ⟨#[]⟩,.int .i64 0],.v 5 (.int .i64 0)]) (fun p5=>[(2,.pointer (some ⟨(p1 0).N,0,none⟩)),(3,.pointer (some ⟨(p1 1).N,0,none⟩)),(4,.pointer (some ⟨(p1 2).N,0,none⟩)),(5,.int .i64 0),(6,.int .i64 0),(15,.bool false),(18,.bool true)]) (by kernel_rfl) (fun _ _=>by kernel_rfl) (fun _=>by kernel_rfl) (fun _=>by kernel_rfl) (fun p5=>?_) (fun p5 W5 T hF hK=>?_)
 ·refine ok_v (by kernel_rfl) ?_
  refine ok_L (by kernel_rfl) (by kernel_rfl) (by kernel_rfl) ?_
  refine ok_v (by kernel_rfl) ?_
  iterate 2 refine ok_K (by kernel_rfl) ?_
  iterate 2 refine ok_v (by kernel_rfl) ?_
  refine ok_P (by kernel_rfl) (by kernel_rfl) (by kernel_rfl) ?_
  refine ok_v (by kernel_rfl) ?_
  exact ok_nil
 replace hS:=SymF.fb hS hF [0,1,2] [⟨(p1 0).N,#[.bool false,.string s,.int .i64 x],23,true⟩,⟨(p1 1).N,#[.bool false,.string s2,.int .i64 x2],23,true⟩,⟨(p1 2).N,#[.bool false,.string ⟨#[]⟩,.int .i64 0],23,true⟩] (by kernel_rfl) (by kernel_rfl)
 replace hG:=hF.gx
 clear hF
 have z5:=hS.fr.size
 refine wp_ret ?_
 refine inb_r ?_
 refine then_r ?_
 exact sym_end hS hK (.tuple #[.agg #[.bool false,.string ⟨#[]⟩,.int .i64 0],.int .i64 0]) [(2,0,3)] [.bool false,.string ⟨#[]⟩,.int .i64 0] (by kernel_rfl) (by kernel_rfl) ⟨rfl,hS.fr⟩
theorem dadd_z1 (w:World) (g:Bool) (s:ByteArray) (x:Int) (g2:Bool) (s2:ByteArray) (x2:Int) (ha:s.size = 0) (hb:s2.size≠0) (hm:s2.size≤281474976710656) (HC:Hid (∀ W:World,Calls Try.prog 26 #[.agg #[.bool g,.string s,.int .i64 x],.agg #[.bool g2,.string s2,.int .i64 x2]] W fun e W'=>e = .returned (.int .i64 0)∧Below W.heap.size W W')) :
  Calls Try.prog 8 #[.agg #[.bool g,.string s,.int .i64 x],.agg #[.bool g2,.string s2,.int .i64 x2]] w fun en w'=>en = .returned (.tuple #[.agg #[.bool g2,.string s2,.int .i64 x2],.int .i64 0])∧Below w.heap.size w w':=by
 refine calls_sym Try.func8 rfl (by kernel_rfl) fun T hK=>?_
 replace hK:Kn T _ [(0,.agg #[.bool g,.string s,.int .i64 x]),(1,.agg #[.bool g2,.string s2,.int .i64 x2])]:=hK
 have hS:=Fb.begin w
 have hG:GsAt [] w:=trivial
 refine wp_symQ hS hG hK (fun p1=>[.n 2 #[.bool g,.string s,.int .i64 x] 23,.n 3 #[.bool g2,.string s2,.int .i64 x2] 23,.n 4 #[.bool false,.string ⟨#[]⟩,.int .i64 0] 23,.v 5 (.int .i64 0)]) (fun p1=>[(2,.pointer (some ⟨(p1 0).N,0,none⟩)),(3,.pointer (some ⟨(p1 1).N,0,none⟩)),(4,.pointer (some ⟨(p1 2).N,0,none⟩)),(5,.int .i64 0)]) (by kernel_rfl) (fun _ _=>by kernel_rfl) (fun _=>by kernel_rfl) (fun _=>by kernel_rfl) (fun p1=>?_) (fun p1 W1 T hF hK=>?_)
 ·iterate 3 refine ok_n (fun _=>by kernel_rfl) ?_
  refine ok_v (by kernel_rfl) ?_
  exact ok_nil
 replace hS:=SymF.fb hS hF [1000,1001,1002] [⟨(p1 0).N,#[.bool g,.string s,.int .i64 x],23,true⟩,⟨(p1 1).N,#[.bool g2,.string s2,.int .i64 x2],23,true⟩,⟨(p1 2).N,#[.bool false,.string ⟨#[]⟩,.int .i64 0],23,true⟩] (by kernel_rfl) (by kernel_rfl)
 replace hG:=hF.gx
 clear hF
 have z1:=hS.fr.size
 refine wp_seq ?_
 refine wp_symQ hS hG hK (fun p2=>[.l 11 (.agg #[.bool g,.string s,.int .i64 x]) 0 0,.l 12 (.agg #[.bool g2,.string s2,.int .i64 x2]) 1 0,.c (some 13) (cV (.int .i64 0)),.v 6 (.int .i64 0)]) (fun p2=>[(2,.pointer (some ⟨(p1 0).N,0,none⟩)),(3,.pointer (some ⟨(p1 1).N,0,none⟩)),(4,.pointer (some ⟨(p1 2).N,0,none⟩)),(5,.int .i64 0),(6,.int .i64 0)]) (by kernel_rfl) (fun _ _=>by kernel_rfl) (fun _=>by kernel_rfl) (fun _=>by kernel_rfl) (fun p2=>?_) (fun p2 W2 T hF hK=>?_)
 ·iterate 2 refine ok_L (by kernel_rfl) (by kernel_rfl) (by kernel_rfl) ?_
  refine ok_c (fun W cx=>as_v (unhide HC _)) (by kernel_rfl) ?_
  refine ok_v (by kernel_rfl) ?_
  exact ok_nil
 replace hS:=SymF.fb hS hF [0,1,2] [⟨(p1 0).N,#[.bool g,.string s,.int .i64 x],23,true⟩,⟨(p1 1).N,#[.bool g2,.string s2,.int .i64 x2],23,true⟩,⟨(p1 2).N,#[.bool false,.string ⟨#[]⟩,.int .i64 0],23,true⟩] (by kernel_rfl) (by kernel_rfl)
 replace hG:=hF.gx
 clear hF
 have z2:=hS.fr.size
 refine wp_symQ hS hG hK (fun p3=>[.v 14 (.int .i64 0),.v 15 (.bool false)]) (fun p3=>[(2,.pointer (some ⟨(p1 0).N,0,none⟩)),(3,.pointer (some ⟨(p1 1).N,0,none⟩)),(4,.pointer (some ⟨(p1 2).N,0,none⟩)),(5,.int .i64 0),(6,.int .i64 0),(15,.bool false)]) (by kernel_rfl) (fun _ _=>by kernel_rfl) (fun _=>by kernel_rfl) (fun _=>by kernel_rfl) (fun p3=>?_) (fun p3 W3 T hF hK=>?_)
 ·iterate 2 refine ok_v (by kernel_rfl) ?_
  exact ok_nil
 replace hS:=SymF.fb hS hF [0,1,2] [⟨(p1 0).N,#[.bool g,.string s,.int .i64 x],23,true⟩,⟨(p1 1).N,#[.bool g2,.string s2,.int .i64 x2],23,true⟩,⟨(p1 2).N,#[.bool false,.string ⟨#[]⟩,.int .i64 0],23,true⟩] (by kernel_rfl) (by kernel_rfl)
 replace hG:=hF.gx
 clear hF
 have z3:=hS.fr.size
 refine wp_cond_false (hK.ev 15 (by kernel_rfl) _ (by kernel_rfl)) ?_
 refine wp_skip ?_
 refine then_n ?_
 refine wp_seq ?_
 refine wp_block ?_
 refine wp_symQ hS hG hK (fun p4=>[.l 19 (.agg #[.bool g,.string s,.int .i64 x]) 0 0,.c (some 20) (cV (.bool true)),.v 21 (.bool true),.l 22 (.agg #[.bool g2,.string s2,.int .i64 x2]) 1 0,.c (some 23) (cV (.bool false)),.v 24 (.bool false),.v 18 (.bool false)]) (fun p4=>[(2,.pointer (some ⟨(p1 0).N,0,none⟩)),(3,.pointer (some ⟨(p1 1).N,0,none⟩)),(4,.pointer (some ⟨(p1 2).N,0,none⟩)),(5,.int .i64 0),(6,.int .i64 0),(15,.bool false),(18,.bool false)]) (by kernel_rfl) (fun _ _=>by kernel_rfl) (fun _=>by kernel_rfl) (fun _=>by kernel_rfl) (fun p4=>?_) (fun p4 W4 T hF hK=>?_)
 ·refine ok_L (by kernel_rfl) (by kernel_rfl) (by kernel_rfl) ?_
  refine ok_c (fun W cx=>as_v (isN_t _ g s x ha)) (by kernel_rfl) ?_
  refine ok_v (by kernel_rfl) ?_
  refine ok_L (by kernel_rfl) (by kernel_rfl) (by kernel_rfl) ?_
  refine ok_c (fun W cx=>as_v (isN_f _ g2 s2 x2 hb)) (by kernel_rfl) ?_
  iterate 2 refine ok_v (by kernel_rfl) ?_
  exact ok_nil
 replace hS:=SymF.fb hS hF [0,1,2] [⟨(p1 0).N,#[.bool g,.string s,.int .i64 x],23,true⟩,⟨(p1 1).N,#[.bool g2,.string s2,.int .i64 x2],23,true⟩,⟨(p1 2).N,#[.bool false,.string ⟨#[]⟩,.int .i64 0],23,true⟩] (by kernel_rfl) (by kernel_rfl)
 replace hG:=hF.gx
 clear hF
 have z4:=hS.fr.size
 refine wp_cond_false (hK.ev 18 (by kernel_rfl) _ (by kernel_rfl)) ?_
 refine wp_symQ hS hG hK (fun p5=>[.l 33 (.agg #[.bool g,.string s,.int .i64 x]) 0 0,.c (some 34) (cV (.bool true)),.v 32 (.bool true)]) (fun p5=>[(2,.pointer (some ⟨(p1 0).N,0,none⟩)),(3,.pointer (some ⟨(p1 1).N,0,none⟩)),(4,.pointer (some ⟨(p1 2).N,0,none⟩)),(5,.int .i64 0),(6,.int .i64 0),(15,.bool false),(18,.bool false),(32,.bool true)]) (by kernel_rfl) (fun _ _=>by kernel_rfl) (fun _=>by kernel_rfl) (fun _=>by kernel_rfl) (fun p5=>?_) (fun p5 W5 T hF hK=>?_)
 ·refine ok_L (by kernel_rfl) (by kernel_rfl) (by kernel_rfl) ?_
  refine ok_c (fun W cx=>as_v (isN_t _ g s x ha)) (by kernel_rfl) ?_
  refine ok_v (by kernel_rfl) ?_
  exact ok_nil
 replace hS:=SymF.fb hS hF [0,1,2] [⟨(p1 0).N,#[.bool g,.string s,.int .i64 x],23,true⟩,⟨(p1 1).N,#[.bool g2,.string s2,.int .i64 x2],23,true⟩,⟨(p1 2).N,#[.bool false,.string ⟨#[]⟩,.int .i64 0],23,true⟩] (by kernel_rfl) (by kernel_rfl)
 replace hG:=hF.gx
 clear hF
 have z5:=hS.fr.size
 refine wp_cond_true (hK.ev 32 (by kernel_rfl) _ (by kernel_rfl)) ?_
 refine wp_symQ hS hG hK (fun p6=>[.l 35 (.agg #[.bool g2,.string s2,.int .i64 x2]) 1 0,.c (some 36) (cV (.agg #[.bool g2,.string s2,.int .i64 x2])),.p 2 0 [.bool g2,.string s2,.int .i64 x2],.v 5 (.int .i64 0)]) (fun p6=>[(2,.pointer (some ⟨(p1 0).N,0,none⟩)),(3,.pointer (some ⟨(p1 1).N,0,none⟩)),(4,.pointer (some ⟨(p1 2).N,0,none⟩)),(5,.int .i64 0),(6,.int .i64 0),(15,.bool false),(18,.bool false),(32,.bool true)]) (by kernel_rfl) (fun _ _=>by kernel_rfl) (fun _=>by kernel_rfl) (fun _=>by kernel_rfl) (fun p6=>?_) (fun p6 W6 T hF hK=>?_)
 ·refine ok_L (by kernel_rfl) (by kernel_rfl) (by kernel_rfl) ?_
  refine ok_c (fun W cx=>as_v (copied_any _ g2 s2 x2 hm)) (by kernel_rfl) ?_
  refine ok_P (by kernel_rfl) (by kernel_rfl) (by kernel_rfl) ?_
  refine ok_v (by kernel_rfl) ?_
  exact ok_nil
 replace hS:=SymF.fb hS hF [0,1,2] [⟨(p1 0).N,#[.bool g,.string s,.int .i64 x],23,true⟩,⟨(p1 1).N,#[.bool g2,.string s2,.int .i64 x2],23,true⟩,⟨(p1 2).N,#[.bool g2,.string s2,.int .i64 x2],23,true⟩] (by kernel_rfl) (by kernel_rfl)
 replace hG:=hF.gx
 clear hF
 have z6:=hS.fr.size
 refine wp_ret ?_
 refine inb_r ?_
 refine then_r ?_
 exact sym_end hS hK (.tuple #[.agg #[.bool g2,.string s2,.int .i64 x2],.int .i64 0]) [(2,0,3)] [.bool g2,.string s2,.int .i64 x2] (by kernel_rfl) (by kernel_rfl) ⟨rfl,hS.fr⟩
theorem dadd_z2 (w:World) (g:Bool) (s:ByteArray) (x:Int) (g2:Bool) (s2:ByteArray) (x2:Int) (ha:s.size≠0) (hb:s2.size = 0) (hm:s.size≤281474976710656) (HC:Hid (∀ W:World,Calls Try.prog 26 #[.agg #[.bool g,.string s,.int .i64 x],.agg #[.bool g2,.string s2,.int .i64 x2]] W fun e W'=>e = .returned (.int .i64 0)∧Below W.heap.size W W')) :
  Calls Try.prog 8 #[.agg #[.bool g,.string s,.int .i64 x],.agg #[.bool g2,.string s2,.int .i64 x2]] w fun en w'=>en = .returned (.tuple #[.agg #[.bool g,.string s,.int .i64 x],.int .i64 0])∧Below w.heap.size w w':=by
 refine calls_sym Try.func8 rfl (by kernel_rfl) fun T hK=>?_
 replace hK:Kn T _ [(0,.agg #[.bool g,.string s,.int .i64 x]),(1,.agg #[.bool g2,.string s2,.int .i64 x2])]:=hK
 have hS:=Fb.begin w
 have hG:GsAt [] w:=trivial
 refine wp_symQ hS hG hK (fun p1=>[.n 2 #[.bool g,.string s,.int .i64 x] 23,.n 3 #[.bool g2,.string s2,.int .i64 x2] 23,.n 4 #[.bool false,.string ⟨#[]⟩,.int .i64 0] 23,.v 5 (.int .i64 0)]) (fun p1=>[(2,.pointer (some ⟨(p1 0).N,0,none⟩)),(3,.pointer (some ⟨(p1 1).N,0,none⟩)),(4,.pointer (some ⟨(p1 2).N,0,none⟩)),(5,.int .i64 0)]) (by kernel_rfl) (fun _ _=>by kernel_rfl) (fun _=>by kernel_rfl) (fun _=>by kernel_rfl) (fun p1=>?_) (fun p1 W1 T hF hK=>?_)
 ·iterate 3 refine ok_n (fun _=>by kernel_rfl) ?_
  refine ok_v (by kernel_rfl) ?_
  exact ok_nil
 replace hS:=SymF.fb hS hF [1000,1001,1002] [⟨(p1 0).N,#[.bool g,.string s,.int .i64 x],23,true⟩,⟨(p1 1).N,#[.bool g2,.string s2,.int .i64 x2],23,true⟩,⟨(p1 2).N,#[.bool false,.string ⟨#[]⟩,.int .i64 0],23,true⟩] (by kernel_rfl) (by kernel_rfl)
 replace hG:=hF.gx
 clear hF
 have z1:=hS.fr.size
 refine wp_seq ?_
 refine wp_symQ hS hG hK (fun p2=>[.l 11 (.agg #[.bool g,.string s,.int .i64 x]) 0 0,.l 12 (.agg #[.bool g2,.string s2,.int .i64 x2]) 1 0,.c (some 13) (cV (.int .i64 0)),.v 6 (.int .i64 0)]) (fun p2=>[(2,.pointer (some ⟨(p1 0).N,0,none⟩)),(3,.pointer (some ⟨(p1 1).N,0,none⟩)),(4,.pointer (some ⟨(p1 2).N,0,none⟩)),(5,.int .i64 0),(6,.int .i64 0)]) (by kernel_rfl) (fun _ _=>by kernel_rfl) (fun _=>by kernel_rfl) (fun _=>by kernel_rfl) (fun p2=>?_) (fun p2 W2 T hF hK=>?_)
 ·iterate 2 refine ok_L (by kernel_rfl) (by kernel_rfl) (by kernel_rfl) ?_
  refine ok_c (fun W cx=>as_v (unhide HC _)) (by kernel_rfl) ?_
  refine ok_v (by kernel_rfl) ?_
  exact ok_nil
 replace hS:=SymF.fb hS hF [0,1,2] [⟨(p1 0).N,#[.bool g,.string s,.int .i64 x],23,true⟩,⟨(p1 1).N,#[.bool g2,.string s2,.int .i64 x2],23,true⟩,⟨(p1 2).N,#[.bool false,.string ⟨#[]⟩,.int .i64 0],23,true⟩] (by kernel_rfl) (by kernel_rfl)
 replace hG:=hF.gx
 clear hF
 have z2:=hS.fr.size
 refine wp_symQ hS hG hK (fun p3=>[.v 14 (.int .i64 0),.v 15 (.bool false)]) (fun p3=>[(2,.pointer (some ⟨(p1 0).N,0,none⟩)),(3,.pointer (some ⟨(p1 1).N,0,none⟩)),(4,.pointer (some ⟨(p1 2).N,0,none⟩)),(5,.int .i64 0),(6,.int .i64 0),(15,.bool false)]) (by kernel_rfl) (fun _ _=>by kernel_rfl) (fun _=>by kernel_rfl) (fun _=>by kernel_rfl) (fun p3=>?_) (fun p3 W3 T hF hK=>?_)
 ·iterate 2 refine ok_v (by kernel_rfl) ?_
  exact ok_nil
 replace hS:=SymF.fb hS hF [0,1,2] [⟨(p1 0).N,#[.bool g,.string s,.int .i64 x],23,true⟩,⟨(p1 1).N,#[.bool g2,.string s2,.int .i64 x2],23,true⟩,⟨(p1 2).N,#[.bool false,.string ⟨#[]⟩,.int .i64 0],23,true⟩] (by kernel_rfl) (by kernel_rfl)
 replace hG:=hF.gx
 clear hF
 have z3:=hS.fr.size
 refine wp_cond_false (hK.ev 15 (by kernel_rfl) _ (by kernel_rfl)) ?_
 refine wp_skip ?_
 refine then_n ?_
 refine wp_seq ?_
 refine wp_block ?_
 refine wp_symQ hS hG hK (fun p4=>[.l 19 (.agg #[.bool g,.string s,.int .i64 x]) 0 0,.c (some 20) (cV (.bool false)),.v 21 (.bool false),.k (some 22),.k (some 23),.v 24 (.bool false),.v 18 (.bool false)]) (fun p4=>[(2,.pointer (some ⟨(p1 0).N,0,none⟩)),(3,.pointer (some ⟨(p1 1).N,0,none⟩)),(4,.pointer (some ⟨(p1 2).N,0,none⟩)),(5,.int .i64 0),(6,.int .i64 0),(15,.bool false),(18,.bool false)]) (by kernel_rfl) (fun _ _=>by kernel_rfl) (fun _=>by kernel_rfl) (fun _=>by kernel_rfl) (fun p4=>?_) (fun p4 W4 T hF hK=>?_)
 ·refine ok_L (by kernel_rfl) (by kernel_rfl) (by kernel_rfl) ?_
  refine ok_c (fun W cx=>as_v (isN_f _ g s x ha)) (by kernel_rfl) ?_
  refine ok_v (by kernel_rfl) ?_
  iterate 2 refine ok_K (by kernel_rfl) ?_
  iterate 2 refine ok_v (by kernel_rfl) ?_
  exact ok_nil
 replace hS:=SymF.fb hS hF [0,1,2] [⟨(p1 0).N,#[.bool g,.string s,.int .i64 x],23,true⟩,⟨(p1 1).N,#[.bool g2,.string s2,.int .i64 x2],23,true⟩,⟨(p1 2).N,#[.bool false,.string ⟨#[]⟩,.int .i64 0],23,true⟩] (by kernel_rfl) (by kernel_rfl)
 replace hG:=hF.gx
 clear hF
 have z4:=hS.fr.size
 refine wp_cond_false (hK.ev 18 (by kernel_rfl) _ (by kernel_rfl)) ?_
 refine wp_symQ hS hG hK (fun p5=>[.l 33 (.agg #[.bool g,.string s,.int .i64 x]) 0 0,.c (some 34) (cV (.bool false)),.v 32 (.bool false)]) (fun p5=>[(2,.pointer (some ⟨(p1 0).N,0,none⟩)),(3,.pointer (some ⟨(p1 1).N,0,none⟩)),(4,.pointer (some ⟨(p1 2).N,0,none⟩)),(5,.int .i64 0),(6,.int .i64 0),(15,.bool false),(18,.bool false),(32,.bool false)]) (by kernel_rfl) (fun _ _=>by kernel_rfl) (fun _=>by kernel_rfl) (fun _=>by kernel_rfl) (fun p5=>?_) (fun p5 W5 T hF hK=>?_)
 ·refine ok_L (by kernel_rfl) (by kernel_rfl) (by kernel_rfl) ?_
  refine ok_c (fun W cx=>as_v (isN_f _ g s x ha)) (by kernel_rfl) ?_
  refine ok_v (by kernel_rfl) ?_
  exact ok_nil
 replace hS:=SymF.fb hS hF [0,1,2] [⟨(p1 0).N,#[.bool g,.string s,.int .i64 x],23,true⟩,⟨(p1 1).N,#[.bool g2,.string s2,.int .i64 x2],23,true⟩,⟨(p1 2).N,#[.bool false,.string ⟨#[]⟩,.int .i64 0],23,true⟩] (by kernel_rfl) (by kernel_rfl)
 replace hG:=hF.gx
 clear hF
 have z5:=hS.fr.size
 refine wp_cond_false (hK.ev 32 (by kernel_rfl) _ (by kernel_rfl)) ?_
 refine wp_symQ hS hG hK (fun p6=>[.l 38 (.agg #[.bool g2,.string s2,.int .i64 x2]) 1 0,.c (some 39) (cV (.bool true)),.v 37 (.bool true)]) (fun p6=>[(2,.pointer (some ⟨(p1 0).N,0,none⟩)),(3,.pointer (some ⟨(p1 1).N,0,none⟩)),(4,.pointer (some ⟨(p1 2).N,0,none⟩)),(5,.int .i64 0),(6,.int .i64 0),(15,.bool false),(18,.bool false),(32,.bool false),(37,.bool true)]) (by kernel_rfl) (fun _ _=>by kernel_rfl) (fun _=>by kernel_rfl) (fun _=>by kernel_rfl) (fun p6=>?_) (fun p6 W6 T hF hK=>?_)
 ·refine ok_L (by kernel_rfl) (by kernel_rfl) (by kernel_rfl) ?_
  refine ok_c (fun W cx=>as_v (isN_t _ g2 s2 x2 hb)) (by kernel_rfl) ?_
  refine ok_v (by kernel_rfl) ?_
  exact ok_nil
 replace hS:=SymF.fb hS hF [0,1,2] [⟨(p1 0).N,#[.bool g,.string s,.int .i64 x],23,true⟩,⟨(p1 1).N,#[.bool g2,.string s2,.int .i64 x2],23,true⟩,⟨(p1 2).N,#[.bool false,.string ⟨#[]⟩,.int .i64 0],23,true⟩] (by kernel_rfl) (by kernel_rfl)
 replace hG:=hF.gx
 clear hF
 have z6:=hS.fr.size
 refine wp_cond_true (hK.ev 37 (by kernel_rfl) _ (by kernel_rfl)) ?_
 refine wp_symQ hS hG hK (fun p7=>[.l 40 (.agg #[.bool g,.string s,.int .i64 x]) 0 0,.c (some 41) (cV (.agg #[.bool g,.string s,.int .i64 x])),.p 2 0 [.bool g,.string s,.int .i64 x],.v 5 (.int .i64 0)]) (fun p7=>[(2,.pointer (some ⟨(p1 0).N,0,none⟩)),(3,.pointer (some ⟨(p1 1).N,0,none⟩)),(4,.pointer (some ⟨(p1 2).N,0,none⟩)),(5,.int .i64 0),(6,.int .i64 0),(15,.bool false),(18,.bool false),(32,.bool false),(37,.bool true)]) (by kernel_rfl) (fun _ _=>by kernel_rfl) (fun _=>by kernel_rfl) (fun _=>by kernel_rfl) (fun p7=>?_) (fun p7 W7 T hF hK=>?_)
 ·refine ok_L (by kernel_rfl) (by kernel_rfl) (by kernel_rfl) ?_
  refine ok_c (fun W cx=>as_v (copied_any _ g s x hm)) (by kernel_rfl) ?_
  refine ok_P (by kernel_rfl) (by kernel_rfl) (by kernel_rfl) ?_
  refine ok_v (by kernel_rfl) ?_
  exact ok_nil
 replace hS:=SymF.fb hS hF [0,1,2] [⟨(p1 0).N,#[.bool g,.string s,.int .i64 x],23,true⟩,⟨(p1 1).N,#[.bool g2,.string s2,.int .i64 x2],23,true⟩,⟨(p1 2).N,#[.bool g,.string s,.int .i64 x],23,true⟩] (by kernel_rfl) (by kernel_rfl)
 replace hG:=hF.gx
 clear hF
 have z7:=hS.fr.size
 refine wp_ret ?_
 refine inb_r ?_
 refine then_r ?_
 exact sym_end hS hK (.tuple #[.agg #[.bool g,.string s,.int .i64 x],.int .i64 0]) [(2,0,3)] [.bool g,.string s,.int .i64 x] (by kernel_rfl) (by kernel_rfl) ⟨rfl,hS.fr⟩
end Go.Proofs.Ytpaoacehbomdmaa
