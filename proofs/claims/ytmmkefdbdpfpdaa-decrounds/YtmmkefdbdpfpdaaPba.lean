/- Of what DecRoundsRow stands on: DcRndL. -/
import Derived.Test.YtmmkefdbdpfpdaaPaz
import Derived.Test.YtmmkefdbdpfpdaaPaj
import Derived.Test.YtmmkefdbdpfpdaaPab
namespace Go.Proofs.Ytmmkefdbdpfpdaa
open Go.RowKit
set_option maxHeartbeats 8000000
set_option maxRecDepth 20000
theorem rounds_law (g:Bool) (s:ByteArray) (x n:Int) (md:Nat) (g1:Bool) (s1:ByteArray) (x1:Int) (b1:Bool) (e1:Int) (g2:Bool) (s2:ByteArray) (x2:Int) (b2:Bool) (e2:Int) (H1:Hid (∀ W:World,Calls Try.prog 13 #[.agg #[.bool g,.string s,.int .i64 x],.int .i64 n,.int .u8 (md:Int)] W fun e W'=>e = .returned (.tuple #[.agg #[.bool g1,.string s1,.int .i64 x1],.bool b1,.int .i64 e1])∧Below W.heap.size W W')) (H2:Hid (∀ W:World,Calls Try.prog 24 #[.agg #[.bool g,.string s,.int .i64 x],.int .i64 n,.int .u8 (md:Int)] W fun e W'=>e = .returned (.tuple #[.agg #[.bool g1,.string s1,.int .i64 x1],.bool b1,.int .i64 e1])∧Below W.heap.size W W')) (H3:Hid (∀ W:World,Calls Try.prog 14 #[.agg #[.bool g,.string s,.int .i64 x],.int .i64 n,.int .u8 (md:Int)] W fun e W'=>e = .returned (.tuple #[.agg #[.bool g2,.string s2,.int .i64 x2],.bool b2,.int .i64 e2])∧Below W.heap.size W W')) (H4:Hid (∀ W:World,Calls Try.prog 25 #[.agg #[.bool g,.string s,.int .i64 x],.int .i64 n,.int .u8 (md:Int)] W fun e W'=>e = .returned (.tuple #[.agg #[.bool g2,.string s2,.int .i64 x2],.bool b2,.int .i64 e2])∧Below W.heap.size W W')) (w:World):Calls Try.prog 6 #[.agg #[.bool g,.string s,.int .i64 x],.int .i64 n,.int .u8 (md:Int)] w fun e w'=>e = .returned (.bool true)∧Below w.heap.size w w':=by
 go_enter Try.func6,Try.ntmps6
 go_wp2_with fail
 refine wp_region_any (by kernel_rfl) ?_
 refine wpAny_det [some (7,.agg #[.bool g,.string s,.int .i64 x]),some (8,.int .i64 n),some (9,.int .u8 (md:Int)),some (10,.tuple #[.agg #[.bool g1,.string s1,.int .i64 x1],.bool b1,.int .i64 e1]),some (11,.agg #[.bool g1,.string s1,.int .i64 x1]),some (12,.bool b1),some (13,.int .i64 e1),some (14,.agg #[.bool g1,.string s1,.int .i64 x1,.bool b1,.int .i64 e1]),some (15,.agg #[.bool g,.string s,.int .i64 x]),some (16,.int .i64 n),some (17,.int .u8 (md:Int)),some (18,.tuple #[.agg #[.bool g1,.string s1,.int .i64 x1],.bool b1,.int .i64 e1]),some (19,.agg #[.bool g1,.string s1,.int .i64 x1]),some (20,.bool b1),some (21,.int .i64 e1),some (22,.agg #[.bool g1,.string s1,.int .i64 x1,.bool b1,.int .i64 e1]),some (23,.bool true),some (24,.bool true),some (25,.agg #[.bool g,.string s,.int .i64 x]),some (26,.int .i64 n),some (27,.int .u8 (md:Int)),some (28,.tuple #[.agg #[.bool g2,.string s2,.int .i64 x2],.bool b2,.int .i64 e2]),some (29,.agg #[.bool g2,.string s2,.int .i64 x2]),some (30,.bool b2),some (31,.int .i64 e2),some (32,.agg #[.bool g2,.string s2,.int .i64 x2,.bool b2,.int .i64 e2]),some (33,.agg #[.bool g,.string s,.int .i64 x]),some (34,.int .i64 n),some (35,.int .u8 (md:Int)),some (36,.tuple #[.agg #[.bool g2,.string s2,.int .i64 x2],.bool b2,.int .i64 e2]),some (37,.agg #[.bool g2,.string s2,.int .i64 x2]),some (38,.bool b2),some (39,.int .i64 e2),some (40,.agg #[.bool g2,.string s2,.int .i64 x2,.bool b2,.int .i64 e2]),some (41,.bool true),some (42,.bool true),some (6,.bool true)]
  (fun _ W9=>Fs w W9 [⟨w.heap.size,#[.bool g,.string s,.int .i64 x],23⟩]) _ _ rfl (by kernel_rfl) rfl rfl ?_ ?_ (Fs.one w _ _).drew
 ·intro l9 t9 W9 i9 hD hi9 hl9 hM
  obtain ⟨o9,ho9,hd9⟩:=(mem_ready.1 hi9).2
  have hin9:i9 < 37:=by
   by_cases h:i9 < 37
   ·exact h
   ·rw [Array.getElem?_eq_none (by rw [hD.len]; simp; omega)] at hl9; cases hl9
  have hcase:i9 = 0∨i9 = 1∨i9 = 2∨i9 = 3∨i9 = 4∨i9 = 5∨i9 = 6∨i9 = 7∨i9 = 8∨i9 = 9∨i9 = 10∨i9 = 11∨i9 = 12∨i9 = 13∨i9 = 14∨i9 = 15∨i9 = 16∨i9 = 17∨i9 = 18∨i9 = 19∨i9 = 20∨i9 = 21∨i9 = 22∨i9 = 23∨i9 = 24∨i9 = 25∨i9 = 26∨i9 = 27∨i9 = 28∨i9 = 29∨i9 = 30∨i9 = 31∨i9 = 32∨i9 = 33∨i9 = 34∨i9 = 35∨i9 = 36:=by omega
  clear hin9
  rcases hcase with rfl|rfl|rfl|rfl|rfl|rfl|rfl|rfl|rfl|rfl|rfl|rfl|rfl|rfl|rfl|rfl|rfl|rfl|rfl|rfl|rfl|rfl|rfl|rfl|rfl|rfl|rfl|rfl|rfl|rfl|rfl|rfl|rfl|rfl|rfl|rfl|rfl
  ·cases ho9
   have r3:=hD.old 3 _ rfl rfl
   have hM0:=hM
   have Q_:=hM0.cellAt (b:=w.heap.size) (cs:=#[.bool g,.string s,.int .i64 x]) (t:=23) (by simp)
   have c9_0:=Q_ 0 _ rfl
   have c9_1:=Q_ 1 _ rfl
   have c9_2:=Q_ 2 _ rfl
   clear Q_
   clear hM0
   refine wpOp_step rfl fun K hK=>?_
   go_simp
   exact hK _ _ ⟨rfl,hM⟩
  ·cases ho9
   have r1:=hD.old 1 _ rfl rfl
   refine wpOp_step rfl fun K hK=>?_
   go_simp
   exact hK _ _ ⟨rfl,hM⟩
  ·cases ho9
   have r2:=hD.old 2 _ rfl rfl
   refine wpOp_step rfl fun K hK=>?_
   go_simp
   exact hK _ _ ⟨rfl,hM⟩
  ·cases ho9
   have r7:=hD.od hd9 0 7 _ rfl (by simp)
   have r8:=hD.od hd9 1 8 _ rfl (by simp)
   have r9:=hD.od hd9 2 9 _ rfl (by simp)
   refine wpOp_step rfl fun K hK=>?_
   go_simp
   go_wp2_with fail
   refine (unhide H1 _).mono ?_
   rintro en w9 ⟨rfl,hb9⟩
   exact hK _ _ ⟨rfl,hM.kept hb9⟩
  ·cases ho9
   have r10:=hD.od hd9 3 10 _ rfl (by simp)
   refine wpOp_step rfl fun K hK=>?_
   go_simp
   exact hK _ _ ⟨rfl,hM⟩
  ·cases ho9
   have r10:=hD.od hd9 3 10 _ rfl (by simp)
   refine wpOp_step rfl fun K hK=>?_
   go_simp
   exact hK _ _ ⟨rfl,hM⟩
  ·cases ho9
   have r10:=hD.od hd9 3 10 _ rfl (by simp)
   refine wpOp_step rfl fun K hK=>?_
   go_simp
   exact hK _ _ ⟨rfl,hM⟩
  ·cases ho9
   have r11:=hD.od hd9 4 11 _ rfl (by simp)
   have r12:=hD.od hd9 5 12 _ rfl (by simp)
   have r13:=hD.od hd9 6 13 _ rfl (by simp)
   refine wpOp_step rfl fun K hK=>?_
   go_simp
   go_wp2_with fail
   refine (three_any _ g1 s1 x1 b1 e1).mono ?_
   rintro en w9 ⟨rfl,hb9⟩
   exact hK _ _ ⟨rfl,hM.kept hb9⟩
  ·cases ho9
   have r3:=hD.old 3 _ rfl rfl
   have hM0:=hM
   have Q_:=hM0.cellAt (b:=w.heap.size) (cs:=#[.bool g,.string s,.int .i64 x]) (t:=23) (by simp)
   have c9_0:=Q_ 0 _ rfl
   have c9_1:=Q_ 1 _ rfl
   have c9_2:=Q_ 2 _ rfl
   clear Q_
   clear hM0
   refine wpOp_step rfl fun K hK=>?_
   go_simp
   exact hK _ _ ⟨rfl,hM⟩
  ·cases ho9
   have r1:=hD.old 1 _ rfl rfl
   refine wpOp_step rfl fun K hK=>?_
   go_simp
   exact hK _ _ ⟨rfl,hM⟩
  ·cases ho9
   have r2:=hD.old 2 _ rfl rfl
   refine wpOp_step rfl fun K hK=>?_
   go_simp
   exact hK _ _ ⟨rfl,hM⟩
  ·cases ho9
   have r15:=hD.od hd9 8 15 _ rfl (by simp)
   have r16:=hD.od hd9 9 16 _ rfl (by simp)
   have r17:=hD.od hd9 10 17 _ rfl (by simp)
   refine wpOp_step rfl fun K hK=>?_
   go_simp
   go_wp2_with fail
   refine (unhide H2 _).mono ?_
   rintro en w9 ⟨rfl,hb9⟩
   exact hK _ _ ⟨rfl,hM.kept hb9⟩
  ·cases ho9
   have r18:=hD.od hd9 11 18 _ rfl (by simp)
   refine wpOp_step rfl fun K hK=>?_
   go_simp
   exact hK _ _ ⟨rfl,hM⟩
  ·cases ho9
   have r18:=hD.od hd9 11 18 _ rfl (by simp)
   refine wpOp_step rfl fun K hK=>?_
   go_simp
   exact hK _ _ ⟨rfl,hM⟩
  ·cases ho9
   have r18:=hD.od hd9 11 18 _ rfl (by simp)
   refine wpOp_step rfl fun K hK=>?_
   go_simp
   exact hK _ _ ⟨rfl,hM⟩
  ·cases ho9
   have r19:=hD.od hd9 12 19 _ rfl (by simp)
   have r20:=hD.od hd9 13 20 _ rfl (by simp)
   have r21:=hD.od hd9 14 21 _ rfl (by simp)
   refine wpOp_step rfl fun K hK=>?_
   go_simp
   go_wp2_with fail
   refine (three_any _ g1 s1 x1 b1 e1).mono ?_
   rintro en w9 ⟨rfl,hb9⟩
   exact hK _ _ ⟨rfl,hM.kept hb9⟩
  ·cases ho9
   have r14:=hD.od hd9 7 14 _ rfl (by simp)
   have r22:=hD.od hd9 15 22 _ rfl (by simp)
   refine wpOp_step rfl fun K hK=>?_
   go_simp
   exact hK _ _ ⟨act_eq (by first|rfl|simp [eq_told]|simp [binOp,Op.equal,eq_told]),hM⟩
  ·cases ho9
   have r23:=hD.od hd9 16 23 _ rfl (by simp)
   refine wpOp_step rfl fun K hK=>?_
   go_simp
   exact hK _ _ ⟨rfl,hM⟩
  ·cases ho9
   have r24:=hD.on 17 24 _ rfl (getD_true (hd9 ⟨17,.guard⟩ (by simp) rfl))
   have r3:=hD.old 3 _ rfl rfl
   have hM0:=hM
   have Q_:=hM0.cellAt (b:=w.heap.size) (cs:=#[.bool g,.string s,.int .i64 x]) (t:=23) (by simp)
   have c9_0:=Q_ 0 _ rfl
   have c9_1:=Q_ 1 _ rfl
   have c9_2:=Q_ 2 _ rfl
   clear Q_
   clear hM0
   refine wpOp_step rfl fun K hK=>?_
   go_simp
   exact hK _ _ ⟨rfl,hM⟩
  ·cases ho9
   have r24:=hD.on 17 24 _ rfl (getD_true (hd9 ⟨17,.guard⟩ (by simp) rfl))
   have r1:=hD.old 1 _ rfl rfl
   refine wpOp_step rfl fun K hK=>?_
   go_simp
   exact hK _ _ ⟨rfl,hM⟩
  ·cases ho9
   have r24:=hD.on 17 24 _ rfl (getD_true (hd9 ⟨17,.guard⟩ (by simp) rfl))
   have r2:=hD.old 2 _ rfl rfl
   refine wpOp_step rfl fun K hK=>?_
   go_simp
   exact hK _ _ ⟨rfl,hM⟩
  ·cases ho9
   have r24:=hD.on 17 24 _ rfl (getD_true (hd9 ⟨17,.chain⟩ (by simp) rfl))
   have r25:=hD.od hd9 18 25 _ rfl (by simp)
   have r26:=hD.od hd9 19 26 _ rfl (by simp)
   have r27:=hD.od hd9 20 27 _ rfl (by simp)
   refine wpOp_step rfl fun K hK=>?_
   go_simp
   go_wp2_with fail
   refine (unhide H3 _).mono ?_
   rintro en w9 ⟨rfl,hb9⟩
   exact hK _ _ ⟨rfl,hM.kept hb9⟩
  ·cases ho9
   have r24:=hD.on 17 24 _ rfl (getD_true (hd9 ⟨17,.guard⟩ (by simp) rfl))
   have r28:=hD.od hd9 21 28 _ rfl (by simp)
   refine wpOp_step rfl fun K hK=>?_
   go_simp
   exact hK _ _ ⟨rfl,hM⟩
  ·cases ho9
   have r24:=hD.on 17 24 _ rfl (getD_true (hd9 ⟨17,.guard⟩ (by simp) rfl))
   have r28:=hD.od hd9 21 28 _ rfl (by simp)
   refine wpOp_step rfl fun K hK=>?_
   go_simp
   exact hK _ _ ⟨rfl,hM⟩
  ·cases ho9
   have r24:=hD.on 17 24 _ rfl (getD_true (hd9 ⟨17,.guard⟩ (by simp) rfl))
   have r28:=hD.od hd9 21 28 _ rfl (by simp)
   refine wpOp_step rfl fun K hK=>?_
   go_simp
   exact hK _ _ ⟨rfl,hM⟩
  ·cases ho9
   have r24:=hD.on 17 24 _ rfl (getD_true (hd9 ⟨17,.guard⟩ (by simp) rfl))
   have r29:=hD.od hd9 22 29 _ rfl (by simp)
   have r30:=hD.od hd9 23 30 _ rfl (by simp)
   have r31:=hD.od hd9 24 31 _ rfl (by simp)
   refine wpOp_step rfl fun K hK=>?_
   go_simp
   go_wp2_with fail
   refine (three_any _ g2 s2 x2 b2 e2).mono ?_
   rintro en w9 ⟨rfl,hb9⟩
   exact hK _ _ ⟨rfl,hM.kept hb9⟩
  ·cases ho9
   have r24:=hD.on 17 24 _ rfl (getD_true (hd9 ⟨17,.guard⟩ (by simp) rfl))
   have r3:=hD.old 3 _ rfl rfl
   have hM0:=hM
   have Q_:=hM0.cellAt (b:=w.heap.size) (cs:=#[.bool g,.string s,.int .i64 x]) (t:=23) (by simp)
   have c9_0:=Q_ 0 _ rfl
   have c9_1:=Q_ 1 _ rfl
   have c9_2:=Q_ 2 _ rfl
   clear Q_
   clear hM0
   refine wpOp_step rfl fun K hK=>?_
   go_simp
   exact hK _ _ ⟨rfl,hM⟩
  ·cases ho9
   have r24:=hD.on 17 24 _ rfl (getD_true (hd9 ⟨17,.guard⟩ (by simp) rfl))
   have r1:=hD.old 1 _ rfl rfl
   refine wpOp_step rfl fun K hK=>?_
   go_simp
   exact hK _ _ ⟨rfl,hM⟩
  ·cases ho9
   have r24:=hD.on 17 24 _ rfl (getD_true (hd9 ⟨17,.guard⟩ (by simp) rfl))
   have r2:=hD.old 2 _ rfl rfl
   refine wpOp_step rfl fun K hK=>?_
   go_simp
   exact hK _ _ ⟨rfl,hM⟩
  ·cases ho9
   have r24:=hD.on 17 24 _ rfl (getD_true (hd9 ⟨17,.guard⟩ (by simp) rfl))
   have r33:=hD.od hd9 26 33 _ rfl (by simp)
   have r34:=hD.od hd9 27 34 _ rfl (by simp)
   have r35:=hD.od hd9 28 35 _ rfl (by simp)
   refine wpOp_step rfl fun K hK=>?_
   go_simp
   go_wp2_with fail
   refine (unhide H4 _).mono ?_
   rintro en w9 ⟨rfl,hb9⟩
   exact hK _ _ ⟨rfl,hM.kept hb9⟩
  ·cases ho9
   have r24:=hD.on 17 24 _ rfl (getD_true (hd9 ⟨17,.guard⟩ (by simp) rfl))
   have r36:=hD.od hd9 29 36 _ rfl (by simp)
   refine wpOp_step rfl fun K hK=>?_
   go_simp
   exact hK _ _ ⟨rfl,hM⟩
  ·cases ho9
   have r24:=hD.on 17 24 _ rfl (getD_true (hd9 ⟨17,.guard⟩ (by simp) rfl))
   have r36:=hD.od hd9 29 36 _ rfl (by simp)
   refine wpOp_step rfl fun K hK=>?_
   go_simp
   exact hK _ _ ⟨rfl,hM⟩
  ·cases ho9
   have r24:=hD.on 17 24 _ rfl (getD_true (hd9 ⟨17,.guard⟩ (by simp) rfl))
   have r36:=hD.od hd9 29 36 _ rfl (by simp)
   refine wpOp_step rfl fun K hK=>?_
   go_simp
   exact hK _ _ ⟨rfl,hM⟩
  ·cases ho9
   have r24:=hD.on 17 24 _ rfl (getD_true (hd9 ⟨17,.guard⟩ (by simp) rfl))
   have r37:=hD.od hd9 30 37 _ rfl (by simp)
   have r38:=hD.od hd9 31 38 _ rfl (by simp)
   have r39:=hD.od hd9 32 39 _ rfl (by simp)
   refine wpOp_step rfl fun K hK=>?_
   go_simp
   go_wp2_with fail
   refine (three_any _ g2 s2 x2 b2 e2).mono ?_
   rintro en w9 ⟨rfl,hb9⟩
   exact hK _ _ ⟨rfl,hM.kept hb9⟩
  ·cases ho9
   have r24:=hD.on 17 24 _ rfl (getD_true (hd9 ⟨17,.guard⟩ (by simp) rfl))
   have r32:=hD.od hd9 25 32 _ rfl (by simp)
   have r40:=hD.od hd9 33 40 _ rfl (by simp)
   refine wpOp_step rfl fun K hK=>?_
   go_simp
   exact hK _ _ ⟨act_eq (by first|rfl|simp [eq_told]|simp [binOp,Op.equal,eq_told]),hM⟩
  ·cases ho9
   have r24:=hD.od hd9 17 24 _ rfl (by simp)
   have r41:=hD.od hd9 34 41 _ rfl (by simp)
   refine wpOp_step rfl fun K hK=>?_
   go_simp
   exact hK _ _ ⟨rfl,hM⟩
  ·cases ho9
   have r42:=hD.od hd9 35 42 _ rfl (by simp)
   refine wpOp_step rfl fun K hK=>?_
   go_simp
   exact hK _ _ ⟨rfl,hM⟩
 ·intro l9 W9 hl9 hM
  have hS:=hM
  clear hM
  simp only [Puts.lay,List.setIfInBounds_toArray,List.set_cons_zero,List.set_cons_succ]
  obtain ⟨⟨ya,yb,yc,-⟩,-⟩:=hS.cells
  go_wp2
  go_ret
  exact ⟨rfl,hS.fr⟩
end Go.Proofs.Ytmmkefdbdpfpdaa
