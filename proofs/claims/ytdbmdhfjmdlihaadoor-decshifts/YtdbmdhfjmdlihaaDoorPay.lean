/- Of what DecShiftsRow stands on: DcShfL. -/
import Derived.Test.YtdbmdhfjmdlihaaDoorPal
import Derived.Test.YtdbmdhfjmdlihaaDoorPab
namespace Go.Proofs.YtdbmdhfjmdlihaaDoor
open Go.RowKit
set_option maxHeartbeats 8000000
set_option maxRecDepth 20000
theorem shifts_law (g:Bool) (s:ByteArray) (x n:Int) (p:ByteArray) (ep:Int) (t:ByteArray) (et:Int) (g2:Bool) (s2:ByteArray) (x2 e2:Int)  (w:World) (H1:Hid (∀ W:World,Calls Tryd.prog 4 #[.agg #[.bool g,.string s,.int .i64 x]] W fun e W'=>e = .returned (.tuple #[.string p,.int .i64 ep])∧Below W.heap.size W W')) (H2:Hid (∀ W:World,Calls Tryd.prog 5 #[.agg #[.bool g,.string s,.int .i64 x]] W fun e W'=>e = .returned (.tuple #[.string p,.int .i64 ep])∧Below W.heap.size W W')) (H3:Hid (∀ W:World,Below w.heap.size w W→Calls Tryd.prog 6 #[.agg #[.bool g,.string s,.int .i64 x]] W fun e W'=>e = .returned (.tuple #[.string t,.int .i64 et])∧Below W.heap.size W W')) (H4:Hid (∀ W:World,Calls Tryd.prog 7 #[.agg #[.bool g,.string s,.int .i64 x]] W fun e W'=>e = .returned (.tuple #[.string t,.int .i64 et])∧Below W.heap.size W W')) (H5:Hid (∀ W:World,Calls Tryd.prog 9 #[.agg #[.bool g,.string s,.int .i64 x],.int .i64 n] W fun e W'=>e = .returned (.tuple #[.agg #[.bool g2,.string s2,.int .i64 x2],.int .i64 e2])∧Below W.heap.size W W')) (H6:Hid (∀ W:World,Calls Tryd.prog 10 #[.agg #[.bool g,.string s,.int .i64 x],.int .i64 n] W fun e W'=>e = .returned (.tuple #[.agg #[.bool g2,.string s2,.int .i64 x2],.int .i64 e2])∧Below W.heap.size W W')):Calls Tryd.prog 3 #[.agg #[.bool g,.string s,.int .i64 x],.int .i64 n] w fun e w'=>e = .returned (.bool true)∧Below w.heap.size w w':=by
 go_enter Tryd.func3,Tryd.ntmps3
 go_wp2_with fail
 refine (unhide H1 _).mono ?_
 rintro e w1 ⟨rfl,hb1⟩
 have hS:=(Fs.one w _ _).kept hb1
 obtain ⟨⟨ya,yb,yc,-⟩,-⟩:=hS.cells
 go_wp2_with fail
 refine (unhide H2 _).mono ?_
 rintro e w2 ⟨rfl,hb2⟩
 replace hS:=hS.kept hb2
 clear ya yb yc
 obtain ⟨⟨yd,ye,yf,-⟩,-⟩:=hS.cells
 go_wp2_with fail
 refine (unhide H3 _ hS.fr).mono ?_
 rintro e w3 ⟨rfl,hb3⟩
 replace hS:=hS.kept hb3
 clear yd ye yf
 obtain ⟨⟨yg,yh,yi,-⟩,-⟩:=hS.cells
 go_wp2_with fail
 refine (unhide H4 _).mono ?_
 rintro e w4 ⟨rfl,hb4⟩
 replace hS:=hS.kept hb4
 clear yg yh yi
 obtain ⟨⟨yj,yk,yl,-⟩,-⟩:=hS.cells
 go_wp2_with fail
 refine wp_region_any (by kernel_rfl) ?_
 refine wpAny_det [some (33,.agg #[.bool g,.string s,.int .i64 x]),some (34,.int .i64 n),some (35,.tuple #[.agg #[.bool g2,.string s2,.int .i64 x2],.int .i64 e2]),some (36,.agg #[.bool g2,.string s2,.int .i64 x2]),some (37,.int .i64 e2),some (38,.agg #[.bool g2,.string s2,.int .i64 x2,.bool false,.int .i64 e2]),some (39,.agg #[.bool g,.string s,.int .i64 x]),some (40,.int .i64 n),some (41,.tuple #[.agg #[.bool g2,.string s2,.int .i64 x2],.int .i64 e2]),some (42,.agg #[.bool g2,.string s2,.int .i64 x2]),some (43,.int .i64 e2),some (44,.agg #[.bool g2,.string s2,.int .i64 x2,.bool false,.int .i64 e2]),some (45,.bool true),some (46,.bool true),some (47,.string p),some (48,.string p),some (49,.bool true),some (50,.bool true),some (51,.bool true),some (52,.int .i64 ep),some (53,.int .i64 ep),some (54,.bool true),some (55,.bool true),some (56,.bool true),some (57,.string t),some (58,.string t),some (59,.bool true),some (60,.bool true),some (61,.bool true),some (62,.int .i64 et),some (63,.int .i64 et),some (64,.bool true),some (65,.bool true),some (4,.bool true)]
  (fun _ W9=>Fs w W9 [⟨w.heap.size,#[.bool g,.string s,.int .i64 x],23⟩]) _ _ rfl (by kernel_rfl) rfl rfl ?_ ?_ (hS).drew
 ·intro l9 t9 W9 i9 hD hi9 hl9 hM
  obtain ⟨o9,ho9,hd9⟩:=(mem_ready.1 hi9).2
  have hin9:i9 < 34:=by
   by_cases h:i9 < 34
   ·exact h
   ·rw [Array.getElem?_eq_none (by rw [hD.len]; simp; omega)] at hl9; cases hl9
  have hcase:i9 = 0∨i9 = 1∨i9 = 2∨i9 = 3∨i9 = 4∨i9 = 5∨i9 = 6∨i9 = 7∨i9 = 8∨i9 = 9∨i9 = 10∨i9 = 11∨i9 = 12∨i9 = 13∨i9 = 14∨i9 = 15∨i9 = 16∨i9 = 17∨i9 = 18∨i9 = 19∨i9 = 20∨i9 = 21∨i9 = 22∨i9 = 23∨i9 = 24∨i9 = 25∨i9 = 26∨i9 = 27∨i9 = 28∨i9 = 29∨i9 = 30∨i9 = 31∨i9 = 32∨i9 = 33:=by omega
  clear hin9
  rcases hcase with rfl|rfl|rfl|rfl|rfl|rfl|rfl|rfl|rfl|rfl|rfl|rfl|rfl|rfl|rfl|rfl|rfl|rfl|rfl|rfl|rfl|rfl|rfl|rfl|rfl|rfl|rfl|rfl|rfl|rfl|rfl|rfl|rfl|rfl
  ·cases ho9
   have r2:=hD.old 2 _ rfl rfl
   have hM0:=hM
   have Q_:=hM0.cellAt (b:=w.heap.size) (cs:=#[.bool g,.string s,.int .i64 x]) (t:=23) (by simp)
   have c9_0:=Q_ 0 _ rfl
   have c9_1:=Q_ 1 _ rfl
   have c9_2:=Q_ 2 _ rfl
   clear Q_
   clear hM0
   refine wpOp_step rfl fun K hK=>?_
   go_simp
   exact hK _ _ ⟨rfl,hM⟩
  ·cases ho9
   have r1:=hD.old 1 _ rfl rfl
   refine wpOp_step rfl fun K hK=>?_
   go_simp
   exact hK _ _ ⟨rfl,hM⟩
  ·cases ho9
   have r33:=hD.od hd9 0 33 _ rfl (by simp)
   have r34:=hD.od hd9 1 34 _ rfl (by simp)
   refine wpOp_step rfl fun K hK=>?_
   go_simp
   go_wp2_with fail
   refine (unhide H5 _).mono ?_
   rintro en w9 ⟨rfl,hb9⟩
   exact hK _ _ ⟨rfl,hM.kept hb9⟩
  ·cases ho9
   have r35:=hD.od hd9 2 35 _ rfl (by simp)
   refine wpOp_step rfl fun K hK=>?_
   go_simp
   exact hK _ _ ⟨rfl,hM⟩
  ·cases ho9
   have r35:=hD.od hd9 2 35 _ rfl (by simp)
   refine wpOp_step rfl fun K hK=>?_
   go_simp
   exact hK _ _ ⟨rfl,hM⟩
  ·cases ho9
   have r36:=hD.od hd9 3 36 _ rfl (by simp)
   have r37:=hD.od hd9 4 37 _ rfl (by simp)
   refine wpOp_step rfl fun K hK=>?_
   go_simp
   go_wp2_with fail
   refine (two_any _ g2 s2 x2 e2).mono ?_
   rintro en w9 ⟨rfl,hb9⟩
   exact hK _ _ ⟨rfl,hM.kept hb9⟩
  ·cases ho9
   have r2:=hD.old 2 _ rfl rfl
   have hM0:=hM
   have Q_:=hM0.cellAt (b:=w.heap.size) (cs:=#[.bool g,.string s,.int .i64 x]) (t:=23) (by simp)
   have c9_0:=Q_ 0 _ rfl
   have c9_1:=Q_ 1 _ rfl
   have c9_2:=Q_ 2 _ rfl
   clear Q_
   clear hM0
   refine wpOp_step rfl fun K hK=>?_
   go_simp
   exact hK _ _ ⟨rfl,hM⟩
  ·cases ho9
   have r1:=hD.old 1 _ rfl rfl
   refine wpOp_step rfl fun K hK=>?_
   go_simp
   exact hK _ _ ⟨rfl,hM⟩
  ·cases ho9
   have r39:=hD.od hd9 6 39 _ rfl (by simp)
   have r40:=hD.od hd9 7 40 _ rfl (by simp)
   refine wpOp_step rfl fun K hK=>?_
   go_simp
   go_wp2_with fail
   refine (unhide H6 _).mono ?_
   rintro en w9 ⟨rfl,hb9⟩
   exact hK _ _ ⟨rfl,hM.kept hb9⟩
  ·cases ho9
   have r41:=hD.od hd9 8 41 _ rfl (by simp)
   refine wpOp_step rfl fun K hK=>?_
   go_simp
   exact hK _ _ ⟨rfl,hM⟩
  ·cases ho9
   have r41:=hD.od hd9 8 41 _ rfl (by simp)
   refine wpOp_step rfl fun K hK=>?_
   go_simp
   exact hK _ _ ⟨rfl,hM⟩
  ·cases ho9
   have r42:=hD.od hd9 9 42 _ rfl (by simp)
   have r43:=hD.od hd9 10 43 _ rfl (by simp)
   refine wpOp_step rfl fun K hK=>?_
   go_simp
   go_wp2_with fail
   refine (two_any _ g2 s2 x2 e2).mono ?_
   rintro en w9 ⟨rfl,hb9⟩
   exact hK _ _ ⟨rfl,hM.kept hb9⟩
  ·cases ho9
   have r38:=hD.od hd9 5 38 _ rfl (by simp)
   have r44:=hD.od hd9 11 44 _ rfl (by simp)
   refine wpOp_step rfl fun K hK=>?_
   go_simp
   exact hK _ _ ⟨act_eq (by first|rfl|simp [eq_told]|simp [binOp,Op.equal,eq_told]),hM⟩
  ·cases ho9
   have r45:=hD.od hd9 12 45 _ rfl (by simp)
   refine wpOp_step rfl fun K hK=>?_
   go_simp
   exact hK _ _ ⟨rfl,hM⟩
  ·cases ho9
   have r46:=hD.on 13 46 _ rfl (getD_true (hd9 ⟨13,.guard⟩ (by simp) rfl))
   have r5:=hD.old 5 _ rfl rfl
   refine wpOp_step rfl fun K hK=>?_
   go_simp
   exact hK _ _ ⟨rfl,hM⟩
  ·cases ho9
   have r46:=hD.on 13 46 _ rfl (getD_true (hd9 ⟨13,.guard⟩ (by simp) rfl))
   have r7:=hD.old 7 _ rfl rfl
   refine wpOp_step rfl fun K hK=>?_
   go_simp
   exact hK _ _ ⟨rfl,hM⟩
  ·cases ho9
   have r46:=hD.on 13 46 _ rfl (getD_true (hd9 ⟨13,.guard⟩ (by simp) rfl))
   have r47:=hD.od hd9 14 47 _ rfl (by simp)
   have r48:=hD.od hd9 15 48 _ rfl (by simp)
   refine wpOp_step rfl fun K hK=>?_
   go_simp
   exact hK _ _ ⟨act_eq (by first|rfl|simp),hM⟩
  ·cases ho9
   have r46:=hD.od hd9 13 46 _ rfl (by simp)
   have r49:=hD.od hd9 16 49 _ rfl (by simp)
   refine wpOp_step rfl fun K hK=>?_
   go_simp
   exact hK _ _ ⟨rfl,hM⟩
  ·cases ho9
   have r50:=hD.od hd9 17 50 _ rfl (by simp)
   refine wpOp_step rfl fun K hK=>?_
   go_simp
   exact hK _ _ ⟨rfl,hM⟩
  ·cases ho9
   have r51:=hD.on 18 51 _ rfl (getD_true (hd9 ⟨18,.guard⟩ (by simp) rfl))
   have r6:=hD.old 6 _ rfl rfl
   refine wpOp_step rfl fun K hK=>?_
   go_simp
   exact hK _ _ ⟨rfl,hM⟩
  ·cases ho9
   have r51:=hD.on 18 51 _ rfl (getD_true (hd9 ⟨18,.guard⟩ (by simp) rfl))
   have r8:=hD.old 8 _ rfl rfl
   refine wpOp_step rfl fun K hK=>?_
   go_simp
   exact hK _ _ ⟨rfl,hM⟩
  ·cases ho9
   have r51:=hD.on 18 51 _ rfl (getD_true (hd9 ⟨18,.guard⟩ (by simp) rfl))
   have r52:=hD.od hd9 19 52 _ rfl (by simp)
   have r53:=hD.od hd9 20 53 _ rfl (by simp)
   refine wpOp_step rfl fun K hK=>?_
   go_simp
   exact hK _ _ ⟨act_eq (by first|rfl|simp),hM⟩
  ·cases ho9
   have r51:=hD.od hd9 18 51 _ rfl (by simp)
   have r54:=hD.od hd9 21 54 _ rfl (by simp)
   refine wpOp_step rfl fun K hK=>?_
   go_simp
   exact hK _ _ ⟨rfl,hM⟩
  ·cases ho9
   have r55:=hD.od hd9 22 55 _ rfl (by simp)
   refine wpOp_step rfl fun K hK=>?_
   go_simp
   exact hK _ _ ⟨rfl,hM⟩
  ·cases ho9
   have r56:=hD.on 23 56 _ rfl (getD_true (hd9 ⟨23,.guard⟩ (by simp) rfl))
   have r9:=hD.old 9 _ rfl rfl
   refine wpOp_step rfl fun K hK=>?_
   go_simp
   exact hK _ _ ⟨rfl,hM⟩
  ·cases ho9
   have r56:=hD.on 23 56 _ rfl (getD_true (hd9 ⟨23,.guard⟩ (by simp) rfl))
   have r11:=hD.old 11 _ rfl rfl
   refine wpOp_step rfl fun K hK=>?_
   go_simp
   exact hK _ _ ⟨rfl,hM⟩
  ·cases ho9
   have r56:=hD.on 23 56 _ rfl (getD_true (hd9 ⟨23,.guard⟩ (by simp) rfl))
   have r57:=hD.od hd9 24 57 _ rfl (by simp)
   have r58:=hD.od hd9 25 58 _ rfl (by simp)
   refine wpOp_step rfl fun K hK=>?_
   go_simp
   exact hK _ _ ⟨act_eq (by first|rfl|simp),hM⟩
  ·cases ho9
   have r56:=hD.od hd9 23 56 _ rfl (by simp)
   have r59:=hD.od hd9 26 59 _ rfl (by simp)
   refine wpOp_step rfl fun K hK=>?_
   go_simp
   exact hK _ _ ⟨rfl,hM⟩
  ·cases ho9
   have r60:=hD.od hd9 27 60 _ rfl (by simp)
   refine wpOp_step rfl fun K hK=>?_
   go_simp
   exact hK _ _ ⟨rfl,hM⟩
  ·cases ho9
   have r61:=hD.on 28 61 _ rfl (getD_true (hd9 ⟨28,.guard⟩ (by simp) rfl))
   have r10:=hD.old 10 _ rfl rfl
   refine wpOp_step rfl fun K hK=>?_
   go_simp
   exact hK _ _ ⟨rfl,hM⟩
  ·cases ho9
   have r61:=hD.on 28 61 _ rfl (getD_true (hd9 ⟨28,.guard⟩ (by simp) rfl))
   have r12:=hD.old 12 _ rfl rfl
   refine wpOp_step rfl fun K hK=>?_
   go_simp
   exact hK _ _ ⟨rfl,hM⟩
  ·cases ho9
   have r61:=hD.on 28 61 _ rfl (getD_true (hd9 ⟨28,.guard⟩ (by simp) rfl))
   have r62:=hD.od hd9 29 62 _ rfl (by simp)
   have r63:=hD.od hd9 30 63 _ rfl (by simp)
   refine wpOp_step rfl fun K hK=>?_
   go_simp
   exact hK _ _ ⟨act_eq (by first|rfl|simp),hM⟩
  ·cases ho9
   have r61:=hD.od hd9 28 61 _ rfl (by simp)
   have r64:=hD.od hd9 31 64 _ rfl (by simp)
   refine wpOp_step rfl fun K hK=>?_
   go_simp
   exact hK _ _ ⟨rfl,hM⟩
  ·cases ho9
   have r65:=hD.od hd9 32 65 _ rfl (by simp)
   refine wpOp_step rfl fun K hK=>?_
   go_simp
   exact hK _ _ ⟨rfl,hM⟩
 ·intro l9 W9 hl9 hM
  clear hS yj yk yl
  have hS:=hM
  clear hM
  simp only [Puts.lay,List.setIfInBounds_toArray,List.set_cons_zero,List.set_cons_succ]
  obtain ⟨⟨ym,yn,yo,-⟩,-⟩:=hS.cells
  go_wp2
  go_ret
  exact ⟨rfl,hS.fr⟩
end Go.Proofs.YtdbmdhfjmdlihaaDoor
