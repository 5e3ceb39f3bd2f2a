/- Of what TurnNamesRow stands on: TnInt TnWhole TnAny TnAlive TnNames. -/
import Derived.Test.YtbgafednekomhaaGreatDoorPbd
import Derived.Test.YtbgafednekomhaaGreatDoorPax
namespace Go.Proofs.YtbgafednekomhaaGreatDoor
open Go.RowKit
set_option maxHeartbeats 4000000
set_option maxRecDepth 20000
theorem within_pf (wd last:Int) (sz:Nat) (a:Option Addr) (n cap u:Nat) (HE:Tel 42 #[.int .i64 wd,.bool false] (.int .i64 last)) (HZ:Tel 50 #[.int .i64 last] (.int .u64 (sz:Int))) (hle:u≤sz) (hu:u < 9223372036854775808) (w:World) (h:Num w a n u) (hn:n≤2) :
  Calls Tryz.prog 47 #[.int .i64 wd,.bool false,.agg #[.slice a n cap],.bool false] w fun e w'=>e = .returned (.tuple #[.int .i64 ((u:Int)),.int .u8 1,.int .i64 0])∧Below w.heap.size w w':=by
 have H:=hide h
 have HN:=hide hn
 have e1:IntKind.i64.wrap (u:Int) = (u:Int):=by rw [IntKind.wrap_i64]; omega
 have hgt:¬ (sz:Int) < (u:Int):=by omega
 clear h hn hle hu
 go_enter Tryz.func47,Tryz.ntmps47
 go_wp2_with fail
 refine (HE _).mono ?_
 rintro e w1 ⟨rfl,hb1⟩
 have hS:=(Fs.one w _ _).kept hb1
 obtain ⟨⟨ya,-⟩,-⟩:=hS.cells
 go_wp2_with fail
 refine (low_small a n cap u _ ((unhide H).kept hS.fr) (unhide HN)).mono ?_
 rintro e w2 ⟨rfl,hb2⟩
 replace hS:=hS.kept hb2
 clear ya
 obtain ⟨⟨yb,-⟩,-⟩:=hS.cells
 go_wp2_with fail
 refine (HZ _).mono ?_
 rintro e w3 ⟨rfl,hb3⟩
 replace hS:=hS.kept hb3
 clear yb
 obtain ⟨⟨yc,-⟩,-⟩:=hS.cells
 go_wp2
 go_ret3
 exact ⟨rfl,hS.fr⟩
theorem Int_no_6_80_7 (E F b wd:Int) (md:Nat) (H3:Tel 34 #[.agg #[.int .i64 E,.int .i64 F],.int .u64 b] (.int .i64 6)) (H2:Tel 41 #[.int .i64 wd] (.int .i64 80)) (hm:4 < md) (w:World)  :
  Calls Tryz.prog 9 #[.agg #[.int .i64 E,.int .i64 F],.int .u64 b,.int .i64 wd,.int .u8 (md:Int)] w fun e w'=>e = .returned (.tuple #[.int .i64 0,.int .u8 0,.int .i64 6])∧Below w.heap.size w w':=by
 go_enter Tryz.func9,Tryz.ntmps9
 go_wp2_with fail
 refine (H3 _).mono ?_
 rintro e w1 ⟨rfl,hb1⟩
 have hS:=(Fs.two w _ _ _ _).kept hb1
 obtain ⟨⟨ya,yb,-⟩,⟨yc,-⟩,-⟩:=hS.cells
 go_wp2_with fail
 have hltw1_0:w.heap.size < w1.heap.size:=hS.lt 0 rfl
 have hltw1_1:w.heap.size+1 < w1.heap.size:=hS.lt 1 rfl
 refine (keep_new _ _ 6 _ _ _ (hS.bx ⟨w.heap.size+1,#[.int .i64 0],75⟩ (by simp)) rfl).mono ?_
 rintro e w2 ⟨rfl,hw2⟩
 replace hS:=hS.put (b:=w.heap.size+1) (cs:=#[.int .i64 0]) (t:=75) (by simp) (by simp) 0 (.int .i64 6) [⟨w.heap.size,#[.int .i64 E,.int .i64 F],24⟩,⟨w.heap.size+1,#[.int .i64 6],75⟩] (by simp <;> omega)
 rw [← hw2] at hS
 clear hw2
 clear ya yb yc
 obtain ⟨⟨yd,ye,-⟩,⟨yf,-⟩,-⟩:=hS.cells
 go_wp2_with fail
 refine (H2 _).mono ?_
 rintro e w3 ⟨rfl,hb3⟩
 replace hS:=hS.kept hb3
 clear yd ye yf
 obtain ⟨⟨yg,yh,-⟩,⟨yi,-⟩,-⟩:=hS.cells
 go_wp2_with fail
 refine (keep_old _ _ 6 80 rfl _ _ _ (hS.bx ⟨w.heap.size+1,#[.int .i64 6],75⟩ (by simp)) rfl).mono ?_
 rintro e w4 ⟨rfl,hb4⟩
 replace hS:=hS.kept hb4
 clear yg yh yi
 obtain ⟨⟨yj,yk,-⟩,⟨yl,-⟩,-⟩:=hS.cells
 have HM:=hide hm
 clear hm
 go_wp2_with fail
 refine (tmode_bad md (unhide HM) _).mono ?_
 rintro e w5 ⟨rfl,hb5⟩
 replace hS:=hS.kept hb5
 clear yj yk yl
 obtain ⟨⟨ym,yn,-⟩,⟨yo,-⟩,-⟩:=hS.cells
 go_wp2_with fail
 refine (keep_old _ _ 6 7 rfl _ _ _ (hS.bx ⟨w.heap.size+1,#[.int .i64 6],75⟩ (by simp)) rfl).mono ?_
 rintro e w6 ⟨rfl,hb6⟩
 replace hS:=hS.kept hb6
 clear ym yn yo
 obtain ⟨⟨yp,yq,-⟩,⟨yr,-⟩,-⟩:=hS.cells
 clear HM
 go_wp2_with fail
 refine wp_region_any (by kernel_rfl) ?_
 refine wpAny_det [some (32,.pointer (some ⟨w.heap.size+1,0,none⟩)),some (33,.int .i64 6),some (8,.int .i64 0),some (9,.int .u8 0),some (10,.int .i64 6)]
  (fun _ W9=>Fs w W9 [⟨w.heap.size,#[.int .i64 E,.int .i64 F],24⟩,⟨w.heap.size+1,#[.int .i64 6],75⟩]) _ _ rfl (by kernel_rfl) rfl rfl ?_ ?_ (hS).drew
 ·intro l9 t9 W9 i9 hD hi9 hl9 hM
  obtain ⟨o9,ho9,hd9⟩:=(mem_ready.1 hi9).2
  have hin9:i9 < 5:=by
   by_cases h:i9 < 5
   ·exact h
   ·rw [Array.getElem?_eq_none (by rw [hD.len]; simp; omega)] at hl9; cases hl9
  have hcase:i9 = 0∨i9 = 1∨i9 = 2∨i9 = 3∨i9 = 4:=by omega
  clear hin9
  rcases hcase with rfl|rfl|rfl|rfl|rfl
  ·cases ho9
   have r11:=hD.old 11 _ rfl rfl
   refine wpOp_step rfl fun K hK=>?_
   go_simp
   exact hK _ _ ⟨rfl,hM⟩
  ·cases ho9
   have r32:=hD.od hd9 0 32 _ rfl (by simp)
   have hM0:=hM
   have c9_0:=hM0.cellAt (b:=w.heap.size+1) (cs:=#[.int .i64 6]) (t:=75) (by simp) 0 _ rfl
   clear hM0
   refine wpOp_step rfl fun K hK=>?_
   go_simp
   exact hK _ _ ⟨rfl,hM⟩
  ·cases ho9
   refine wpOp_step rfl fun K hK=>?_
   go_simp
   exact hK _ _ ⟨rfl,hM⟩
  ·cases ho9
   refine wpOp_step rfl fun K hK=>?_
   go_simp
   exact hK _ _ ⟨rfl,hM⟩
  ·cases ho9
   have r33:=hD.od hd9 1 33 _ rfl (by simp)
   refine wpOp_step rfl fun K hK=>?_
   go_simp
   exact hK _ _ ⟨rfl,hM⟩
 ·intro l9 W9 hl9 hM
  clear hS yp yq yr
  have hS:=hM
  clear hM
  simp only [Puts.lay,List.setIfInBounds_toArray,List.set_cons_zero,List.set_cons_succ]
  obtain ⟨⟨ys,yt,-⟩,⟨yu,-⟩,-⟩:=hS.cells
  go_wp2
  go_ret3
  exact ⟨rfl,hS.fr⟩
theorem Int_no_0_80_7 (E F b wd:Int) (md:Nat) (H3:Tel 34 #[.agg #[.int .i64 E,.int .i64 F],.int .u64 b] (.int .i64 0)) (H2:Tel 41 #[.int .i64 wd] (.int .i64 80)) (hm:4 < md) (w:World)  :
  Calls Tryz.prog 9 #[.agg #[.int .i64 E,.int .i64 F],.int .u64 b,.int .i64 wd,.int .u8 (md:Int)] w fun e w'=>e = .returned (.tuple #[.int .i64 0,.int .u8 0,.int .i64 80])∧Below w.heap.size w w':=by
 go_enter Tryz.func9,Tryz.ntmps9
 go_wp2_with fail
 refine (H3 _).mono ?_
 rintro e w1 ⟨rfl,hb1⟩
 have hS:=(Fs.two w _ _ _ _).kept hb1
 obtain ⟨⟨ya,yb,-⟩,⟨yc,-⟩,-⟩:=hS.cells
 go_wp2_with fail
 refine (keep_0 _ _ _ ⟨_,_,hS.bx ⟨w.heap.size+1,#[.int .i64 0],75⟩ (by simp),rfl⟩).mono ?_
 rintro e w2 ⟨rfl,hb2⟩
 replace hS:=hS.kept hb2
 clear ya yb yc
 obtain ⟨⟨yd,ye,-⟩,⟨yf,-⟩,-⟩:=hS.cells
 go_wp2_with fail
 refine (H2 _).mono ?_
 rintro e w3 ⟨rfl,hb3⟩
 replace hS:=hS.kept hb3
 clear yd ye yf
 obtain ⟨⟨yg,yh,-⟩,⟨yi,-⟩,-⟩:=hS.cells
 go_wp2_with fail
 have hltw3_0:w.heap.size < w3.heap.size:=hS.lt 0 rfl
 have hltw3_1:w.heap.size+1 < w3.heap.size:=hS.lt 1 rfl
 refine (keep_new _ _ 80 _ _ _ (hS.bx ⟨w.heap.size+1,#[.int .i64 0],75⟩ (by simp)) rfl).mono ?_
 rintro e w4 ⟨rfl,hw4⟩
 replace hS:=hS.put (b:=w.heap.size+1) (cs:=#[.int .i64 0]) (t:=75) (by simp) (by simp) 0 (.int .i64 80) [⟨w.heap.size,#[.int .i64 E,.int .i64 F],24⟩,⟨w.heap.size+1,#[.int .i64 80],75⟩] (by simp <;> omega)
 rw [← hw4] at hS
 clear hw4
 clear yg yh yi
 obtain ⟨⟨yj,yk,-⟩,⟨yl,-⟩,-⟩:=hS.cells
 have HM:=hide hm
 clear hm
 go_wp2_with fail
 refine (tmode_bad md (unhide HM) _).mono ?_
 rintro e w5 ⟨rfl,hb5⟩
 replace hS:=hS.kept hb5
 clear yj yk yl
 obtain ⟨⟨ym,yn,-⟩,⟨yo,-⟩,-⟩:=hS.cells
 go_wp2_with fail
 refine (keep_old _ _ 80 7 rfl _ _ _ (hS.bx ⟨w.heap.size+1,#[.int .i64 80],75⟩ (by simp)) rfl).mono ?_
 rintro e w6 ⟨rfl,hb6⟩
 replace hS:=hS.kept hb6
 clear ym yn yo
 obtain ⟨⟨yp,yq,-⟩,⟨yr,-⟩,-⟩:=hS.cells
 clear HM
 go_wp2_with fail
 refine wp_region_any (by kernel_rfl) ?_
 refine wpAny_det [some (32,.pointer (some ⟨w.heap.size+1,0,none⟩)),some (33,.int .i64 80),some (8,.int .i64 0),some (9,.int .u8 0),some (10,.int .i64 80)]
  (fun _ W9=>Fs w W9 [⟨w.heap.size,#[.int .i64 E,.int .i64 F],24⟩,⟨w.heap.size+1,#[.int .i64 80],75⟩]) _ _ rfl (by kernel_rfl) rfl rfl ?_ ?_ (hS).drew
 ·intro l9 t9 W9 i9 hD hi9 hl9 hM
  obtain ⟨o9,ho9,hd9⟩:=(mem_ready.1 hi9).2
  have hin9:i9 < 5:=by
   by_cases h:i9 < 5
   ·exact h
   ·rw [Array.getElem?_eq_none (by rw [hD.len]; simp; omega)] at hl9; cases hl9
  have hcase:i9 = 0∨i9 = 1∨i9 = 2∨i9 = 3∨i9 = 4:=by omega
  clear hin9
  rcases hcase with rfl|rfl|rfl|rfl|rfl
  ·cases ho9
   have r11:=hD.old 11 _ rfl rfl
   refine wpOp_step rfl fun K hK=>?_
   go_simp
   exact hK _ _ ⟨rfl,hM⟩
  ·cases ho9
   have r32:=hD.od hd9 0 32 _ rfl (by simp)
   have hM0:=hM
   have c9_0:=hM0.cellAt (b:=w.heap.size+1) (cs:=#[.int .i64 80]) (t:=75) (by simp) 0 _ rfl
   clear hM0
   refine wpOp_step rfl fun K hK=>?_
   go_simp
   exact hK _ _ ⟨rfl,hM⟩
  ·cases ho9
   refine wpOp_step rfl fun K hK=>?_
   go_simp
   exact hK _ _ ⟨rfl,hM⟩
  ·cases ho9
   refine wpOp_step rfl fun K hK=>?_
   go_simp
   exact hK _ _ ⟨rfl,hM⟩
  ·cases ho9
   have r33:=hD.od hd9 1 33 _ rfl (by simp)
   refine wpOp_step rfl fun K hK=>?_
   go_simp
   exact hK _ _ ⟨rfl,hM⟩
 ·intro l9 W9 hl9 hM
  clear hS yp yq yr
  have hS:=hM
  clear hM
  simp only [Puts.lay,List.setIfInBounds_toArray,List.set_cons_zero,List.set_cons_succ]
  obtain ⟨⟨ys,yt,-⟩,⟨yu,-⟩,-⟩:=hS.cells
  go_wp2
  go_ret3
  exact ⟨rfl,hS.fr⟩
theorem Int_no_0_0_7 (E F b wd:Int) (md:Nat) (H3:Tel 34 #[.agg #[.int .i64 E,.int .i64 F],.int .u64 b] (.int .i64 0)) (H2:Tel 41 #[.int .i64 wd] (.int .i64 0)) (hm:4 < md) (w:World)  :
  Calls Tryz.prog 9 #[.agg #[.int .i64 E,.int .i64 F],.int .u64 b,.int .i64 wd,.int .u8 (md:Int)] w fun e w'=>e = .returned (.tuple #[.int .i64 0,.int .u8 0,.int .i64 7])∧Below w.heap.size w w':=by
 go_enter Tryz.func9,Tryz.ntmps9
 go_wp2_with fail
 refine (H3 _).mono ?_
 rintro e w1 ⟨rfl,hb1⟩
 have hS:=(Fs.two w _ _ _ _).kept hb1
 obtain ⟨⟨ya,yb,-⟩,⟨yc,-⟩,-⟩:=hS.cells
 go_wp2_with fail
 refine (keep_0 _ _ _ ⟨_,_,hS.bx ⟨w.heap.size+1,#[.int .i64 0],75⟩ (by simp),rfl⟩).mono ?_
 rintro e w2 ⟨rfl,hb2⟩
 replace hS:=hS.kept hb2
 clear ya yb yc
 obtain ⟨⟨yd,ye,-⟩,⟨yf,-⟩,-⟩:=hS.cells
 go_wp2_with fail
 refine (H2 _).mono ?_
 rintro e w3 ⟨rfl,hb3⟩
 replace hS:=hS.kept hb3
 clear yd ye yf
 obtain ⟨⟨yg,yh,-⟩,⟨yi,-⟩,-⟩:=hS.cells
 go_wp2_with fail
 refine (keep_0 _ _ _ ⟨_,_,hS.bx ⟨w.heap.size+1,#[.int .i64 0],75⟩ (by simp),rfl⟩).mono ?_
 rintro e w4 ⟨rfl,hb4⟩
 replace hS:=hS.kept hb4
 clear yg yh yi
 obtain ⟨⟨yj,yk,-⟩,⟨yl,-⟩,-⟩:=hS.cells
 have HM:=hide hm
 clear hm
 go_wp2_with fail
 refine (tmode_bad md (unhide HM) _).mono ?_
 rintro e w5 ⟨rfl,hb5⟩
 replace hS:=hS.kept hb5
 clear yj yk yl
 obtain ⟨⟨ym,yn,-⟩,⟨yo,-⟩,-⟩:=hS.cells
 go_wp2_with fail
 have hltw5_0:w.heap.size < w5.heap.size:=hS.lt 0 rfl
 have hltw5_1:w.heap.size+1 < w5.heap.size:=hS.lt 1 rfl
 refine (keep_new _ _ 7 _ _ _ (hS.bx ⟨w.heap.size+1,#[.int .i64 0],75⟩ (by simp)) rfl).mono ?_
 rintro e w6 ⟨rfl,hw6⟩
 replace hS:=hS.put (b:=w.heap.size+1) (cs:=#[.int .i64 0]) (t:=75) (by simp) (by simp) 0 (.int .i64 7) [⟨w.heap.size,#[.int .i64 E,.int .i64 F],24⟩,⟨w.heap.size+1,#[.int .i64 7],75⟩] (by simp <;> omega)
 rw [← hw6] at hS
 clear hw6
 clear ym yn yo
 obtain ⟨⟨yp,yq,-⟩,⟨yr,-⟩,-⟩:=hS.cells
 clear HM
 go_wp2_with fail
 refine wp_region_any (by kernel_rfl) ?_
 refine wpAny_det [some (32,.pointer (some ⟨w.heap.size+1,0,none⟩)),some (33,.int .i64 7),some (8,.int .i64 0),some (9,.int .u8 0),some (10,.int .i64 7)]
  (fun _ W9=>Fs w W9 [⟨w.heap.size,#[.int .i64 E,.int .i64 F],24⟩,⟨w.heap.size+1,#[.int .i64 7],75⟩]) _ _ rfl (by kernel_rfl) rfl rfl ?_ ?_ (hS).drew
 ·intro l9 t9 W9 i9 hD hi9 hl9 hM
  obtain ⟨o9,ho9,hd9⟩:=(mem_ready.1 hi9).2
  have hin9:i9 < 5:=by
   by_cases h:i9 < 5
   ·exact h
   ·rw [Array.getElem?_eq_none (by rw [hD.len]; simp; omega)] at hl9; cases hl9
  have hcase:i9 = 0∨i9 = 1∨i9 = 2∨i9 = 3∨i9 = 4:=by omega
  clear hin9
  rcases hcase with rfl|rfl|rfl|rfl|rfl
  ·cases ho9
   have r11:=hD.old 11 _ rfl rfl
   refine wpOp_step rfl fun K hK=>?_
   go_simp
   exact hK _ _ ⟨rfl,hM⟩
  ·cases ho9
   have r32:=hD.od hd9 0 32 _ rfl (by simp)
   have hM0:=hM
   have c9_0:=hM0.cellAt (b:=w.heap.size+1) (cs:=#[.int .i64 7]) (t:=75) (by simp) 0 _ rfl
   clear hM0
   refine wpOp_step rfl fun K hK=>?_
   go_simp
   exact hK _ _ ⟨rfl,hM⟩
  ·cases ho9
   refine wpOp_step rfl fun K hK=>?_
   go_simp
   exact hK _ _ ⟨rfl,hM⟩
  ·cases ho9
   refine wpOp_step rfl fun K hK=>?_
   go_simp
   exact hK _ _ ⟨rfl,hM⟩
  ·cases ho9
   have r33:=hD.od hd9 1 33 _ rfl (by simp)
   refine wpOp_step rfl fun K hK=>?_
   go_simp
   exact hK _ _ ⟨rfl,hM⟩
 ·intro l9 W9 hl9 hM
  clear hS yp yq yr
  have hS:=hM
  clear hM
  simp only [Puts.lay,List.setIfInBounds_toArray,List.set_cons_zero,List.set_cons_succ]
  obtain ⟨⟨ys,yt,-⟩,⟨yu,-⟩,-⟩:=hS.cells
  go_wp2
  go_ret3
  exact ⟨rfl,hS.fr⟩
theorem Int_fin (E F b wd:Int) (md:Nat) (H3:Tel 34 #[.agg #[.int .i64 E,.int .i64 F],.int .u64 b] (.int .i64 0)) (H2:Tel 41 #[.int .i64 wd] (.int .i64 0)) (hm:md≤4) (c:Int) (h5:(c == (5:Int)) = false) (h4:(c == (4:Int)) = false) (neg s sg same:Bool) (m p d u:Nat) (x v fl:Int) (HK:Tel 36 #[.agg #[.int .i64 E,.int .i64 F],.int .u64 b] (.tuple #[.int .u8 c,.bool neg])) (HV:Hid (Vals E F b s m x)) (HX:Hid (∀ (W:World) (A:Option Addr) (N C:Nat),Num W A N m→Calls Tryz.prog 44 #[.agg #[.bool s,.slice A N C,.int .i64 x]] W fun e w'=>(∃ A N C A' N' C',e = .returned (.tuple #[.agg #[.bool s,.slice A N C,.slice A' N' C'],.int .i64 0])∧Mine w' W.heap.size A N C p∧Mine w' W.heap.size A' N' C' d)∧Below W.heap.size W w')) (HY:Hid (∀ (W:World) (A A':Option Addr) (N C N' C':Nat),Num W A N p→Num W A' N' d→Calls Tryz.prog 46 #[.agg #[.bool s,.slice A N C,.slice A' N' C'],.int .u8 (md:Int)] W fun e w'=>(∃ A N C,e = .returned (.tuple #[.bool sg,.agg #[.slice A N C],.bool same,.int .i64 0])∧Mine w' W.heap.size A N C u)∧Below W.heap.size W w')) (HI:Hid (∀ (W:World) (A:Option Addr) (N C:Nat),Num W A N u→Calls Tryz.prog 47 #[.int .i64 wd,.bool neg,.agg #[.slice A N C],.bool same] W fun e w'=>e = .returned (.tuple #[.int .i64 v,.int .u8 fl,.int .i64 0])∧Below W.heap.size W w')) (w:World) (hT:Tb w) (hN:Nb w) :
  Calls Tryz.prog 9 #[.agg #[.int .i64 E,.int .i64 F],.int .u64 b,.int .i64 wd,.int .u8 (md:Int)] w fun e w'=>e = .returned (.tuple #[.int .i64 v,.int .u8 fl,.int .i64 0])∧Below w.heap.size w w':=by
 have HN:=hide hN
 have HM:=hide hm
 have HT:=hide hT
 clear hN hm hT
 go_enter Tryz.func9,Tryz.ntmps9
 go_wp2_with fail
 refine (H3 _).mono ?_
 rintro e w1 ⟨rfl,hb1⟩
 have hS:=(Fs.two w _ _ _ _).kept hb1
 obtain ⟨⟨ya,yb,-⟩,⟨yc,-⟩,-⟩:=hS.cells
 go_wp2_with fail
 refine (keep_0 _ _ _ ⟨_,_,hS.bx ⟨w.heap.size+1,#[.int .i64 0],75⟩ (by simp),rfl⟩).mono ?_
 rintro e w2 ⟨rfl,hb2⟩
 replace hS:=hS.kept hb2
 clear ya yb yc
 obtain ⟨⟨yd,ye,-⟩,⟨yf,-⟩,-⟩:=hS.cells
 go_wp2_with fail
 refine (H2 _).mono ?_
 rintro e w3 ⟨rfl,hb3⟩
 replace hS:=hS.kept hb3
 clear yd ye yf
 obtain ⟨⟨yg,yh,-⟩,⟨yi,-⟩,-⟩:=hS.cells
 go_wp2_with fail
 refine (keep_0 _ _ _ ⟨_,_,hS.bx ⟨w.heap.size+1,#[.int .i64 0],75⟩ (by simp),rfl⟩).mono ?_
 rintro e w4 ⟨rfl,hb4⟩
 replace hS:=hS.kept hb4
 clear yg yh yi
 obtain ⟨⟨yj,yk,-⟩,⟨yl,-⟩,-⟩:=hS.cells
 go_wp2_with fail
 refine (tmode_ok md (unhide HM) _ ((unhide HN).kept hS.fr)).mono ?_
 rintro e w5 ⟨rfl,hb5⟩
 replace hS:=hS.kept hb5
 clear yj yk yl
 obtain ⟨⟨ym,yn,-⟩,⟨yo,-⟩,-⟩:=hS.cells
 go_wp2_with fail
 refine (keep_0 _ _ _ ⟨_,_,hS.bx ⟨w.heap.size+1,#[.int .i64 0],75⟩ (by simp),rfl⟩).mono ?_
 rintro e w6 ⟨rfl,hb6⟩
 replace hS:=hS.kept hb6
 clear ym yn yo
 obtain ⟨⟨yp,yq,-⟩,⟨yr,-⟩,-⟩:=hS.cells
 go_wp2_with fail
 refine (HK _).mono ?_
 rintro e w7 ⟨rfl,hb7⟩
 replace hS:=hS.kept hb7
 clear yp yq yr
 obtain ⟨⟨ys,yt,-⟩,⟨yu,-⟩,-⟩:=hS.cells
 clear HM
 have hsV:=hS.size
 go_wp2_with fail
 refine (unhide HV _ ((unhide HT).kept hS.fr)).mono ?_
 rintro e w8 ⟨⟨A1,N1,C1,rfl,f1⟩,hb8⟩
 replace hS:=hS.kept hb8
 clear ys yt yu
 obtain ⟨⟨yv,yw,-⟩,⟨yx,-⟩,-⟩:=hS.cells
 have G1:=hide (f1.mono (base':=w.heap.size) hsV)
 clear f1 hsV
 go_wp2_with fail
 refine (runDyadic_0 _ _ _ _ _ _ _ _ ⟨_,_,hS.bx ⟨w.heap.size+1,#[.int .i64 0],75⟩ (by simp),rfl⟩).mono ?_
 rintro e w9 ⟨rfl,hb9⟩
 replace hS:=hS.kept hb9
 clear yv yw yx
 obtain ⟨⟨yy,yz,-⟩,⟨y0,-⟩,-⟩:=hS.cells
 replace G1:=hide ((unhide G1).kept hb9)
 have hsV:=hS.size
 go_wp2_with fail
 refine (unhide HX _ _ _ _ (unhide G1).num).mono ?_
 rintro e w10 ⟨⟨A2,N2,C2,A3,N3,C3,rfl,f2,f3⟩,hb10⟩
 replace hS:=hS.kept hb10
 clear yy yz y0
 obtain ⟨⟨y1,y2,-⟩,⟨y3,-⟩,-⟩:=hS.cells
 replace G1:=hide ((unhide G1).kept hb10)
 have G2:=hide (f2.mono (base':=w.heap.size) hsV)
 have G3:=hide (f3.mono (base':=w.heap.size) hsV)
 clear f2 f3 hsV G1
 go_wp2_with fail
 refine (runRatio_0 _ _ _ _ _ _ _ _ _ _ ⟨_,_,hS.bx ⟨w.heap.size+1,#[.int .i64 0],75⟩ (by simp),rfl⟩).mono ?_
 rintro e w11 ⟨rfl,hb11⟩
 replace hS:=hS.kept hb11
 clear y1 y2 y3
 obtain ⟨⟨y4,y5,-⟩,⟨y6,-⟩,-⟩:=hS.cells
 replace G2:=hide ((unhide G2).kept hb11)
 replace G3:=hide ((unhide G3).kept hb11)
 have hltw11_0:w.heap.size < w11.heap.size:=hS.lt 0 rfl
 have hltw11_1:w.heap.size+1 < w11.heap.size:=hS.lt 1 rfl
 obtain ⟨WU,hWU⟩:∃ WU,w11.alloc (.cells #[.bool s,.slice A2 N2 C2,.slice A3 N3 C3] 88) = WU:=⟨_,rfl⟩
 replace hS:=hS.alloc #[.bool s,.slice A2 N2 C2,.slice A3 N3 C3] 88
 rw [hWU] at hS
 replace G2:=hide (hWU▸(unhide G2).alloc (.cells #[.bool s,.slice A2 N2 C2,.slice A3 N3 C3] 88))
 replace G3:=hide (hWU▸(unhide G3).alloc (.cells #[.bool s,.slice A2 N2 C2,.slice A3 N3 C3] 88))
 clear y4 y5 y6
 obtain ⟨⟨y7,y8,y9,-⟩,⟨yba,ybb,-⟩,⟨ybc,-⟩,-⟩:=hS.cells
 have hsV:=hS.size
 go_wp2_with fail
 refine (unhide HY _ _ _ _ _ _ _ (unhide G2).num (unhide G3).num).mono ?_
 rintro e w12 ⟨⟨A4,N4,C4,rfl,f4⟩,hb12⟩
 replace hS:=hS.kept hb12
 clear y7 y8 y9 yba ybb ybc
 obtain ⟨⟨ybd,ybe,ybf,-⟩,⟨ybg,ybh,-⟩,⟨ybi,-⟩,-⟩:=hS.cells
 replace G2:=hide ((unhide G2).kept hb12)
 replace G3:=hide ((unhide G3).kept hb12)
 have G4:=hide (f4.mono (base':=w.heap.size) hsV)
 clear f4 hsV G2 G3
 have hltw12_0:w11.heap.size < w12.heap.size:=hS.lt 0 rfl
 have hltw12_1:w.heap.size < w12.heap.size:=hS.lt 1 rfl
 have hltw12_2:w.heap.size+1 < w12.heap.size:=hS.lt 2 rfl
 obtain ⟨WX,hWX⟩:∃ WX,w12.alloc (.cells #[.slice A4 N4 C4] 40) = WX:=⟨_,rfl⟩
 replace hS:=hS.alloc #[.slice A4 N4 C4] 40
 rw [hWX] at hS
 replace G4:=hide (hWX▸(unhide G4).alloc (.cells #[.slice A4 N4 C4] 40))
 clear ybd ybe ybf ybg ybh ybi
 obtain ⟨⟨ybj,-⟩,⟨ybk,ybl,ybm,-⟩,⟨ybn,ybo,-⟩,⟨ybp,-⟩,-⟩:=hS.cells
 go_wp2_with fail
 refine (keep_0 _ _ _ ⟨_,_,hS.bx ⟨w.heap.size+1,#[.int .i64 0],75⟩ (by simp),rfl⟩).mono ?_
 rintro e w13 ⟨rfl,hb13⟩
 replace hS:=hS.kept hb13
 clear ybj ybk ybl ybm ybn ybo ybp
 obtain ⟨⟨ybq,-⟩,⟨ybr,ybs,ybt,-⟩,⟨ybu,ybv,-⟩,⟨ybw,-⟩,-⟩:=hS.cells
 replace G4:=hide ((unhide G4).kept hb13)
 go_wp2_with fail
 refine (unhide HI _ _ _ _ (unhide G4).num).mono ?_
 rintro e w14 ⟨rfl,hb14⟩
 replace hS:=hS.kept hb14
 clear ybq ybr ybs ybt ybu ybv ybw
 obtain ⟨⟨ybx,-⟩,⟨yby,ybz,yb0,-⟩,⟨yb1,yb2,-⟩,⟨yb3,-⟩,-⟩:=hS.cells
 replace G4:=hide ((unhide G4).kept hb14)
 go_wp2
 go_ret3
 exact ⟨rfl,hS.fr⟩
theorem div_pos (a a':Option Addr) (n n' cap cap' m d:Nat) (w:World) (h:Num w a n m) (h':Num w a' n' d) (hd:0 < d) :
  Calls Tryz.prog 87 #[.agg #[.slice a n cap],.agg #[.slice a' n' cap']] w fun e w'=>(∃ aq nq cq ar nr cr,e = .returned (.tuple #[.agg #[.slice aq nq cq],.agg #[.slice ar nr cr],.int .i64 0])∧Mine w' w.heap.size aq nq cq (m / d)∧Mine w' w.heap.size ar nr cr (m % d))∧Below w.heap.size w w':=by
 refine (div_any a a' n n' cap cap' m d w h h').mono ?_
 rintro e w' ⟨h1,hb⟩
 rcases h1 with ⟨h0,_⟩|⟨_,h1⟩
 ·omega
 ·exact ⟨h1,hb⟩
theorem sub_pos (a a':Option Addr) (n n' cap cap' m m':Nat) (w:World) (h:Num w a n m) (h':Num w a' n' m') (hle:m'≤m) :
  Calls Tryz.prog 92 #[.agg #[.slice a n cap],.agg #[.slice a' n' cap']] w fun e w'=>(∃ a n cap,e = .returned (.tuple #[.agg #[.slice a n cap],.bool true,.int .i64 0])∧Mine w' w.heap.size a n cap (m - m'))∧Below w.heap.size w w':=by
 refine (sub_any a a' n n' cap cap' m m' w h h').mono ?_
 rintro e w' ⟨h1,hb⟩
 rcases h1 with ⟨h0,_⟩|⟨_,h1⟩
 ·omega
 ·exact ⟨h1,hb⟩
theorem whole_near (a:Option Addr) (n cap m:Nat) (a':Option Addr) (n' cap' d:Nat) (md:Nat) (hm:md≤4) (r q:Nat) (o:Bool) (hr:m % d = r) (hz:0 < r) (hq:m / d = q) (ho:decide (q / 2 ^ 0 % 2 = 1) = o) (hle:r≤d) (HF:Tel 94 #[.agg #[.bool false,.bool o,.int .i64 (cmpI r (d - r))],.int .u8 (md:Int)] (.bool false)) (w:World) (h:Num w a n m) (h':Num w a' n' d) (hd:0 < d) (HC:Hid (∀ W:World,Below w.heap.size w W→Calls Tryz.prog 126 #[.agg #[.bool false,.slice a n cap,.slice a' n' cap']] W fun e w'=>e = .returned (.int .i64 0)∧Below W.heap.size W w')) :
  Calls Tryz.prog 46 #[.agg #[.bool false,.slice a n cap,.slice a' n' cap'],.int .u8 (md:Int)] w fun e w'=>(∃ A N C,e = .returned (.tuple #[.bool false,.agg #[.slice A N C],.bool false,.int .i64 0])∧Mine w' w.heap.size A N C (q))∧Below w.heap.size w w':=by
 have H:=hide h
 have H':=hide h'
 have HD:=hide hd
 have HM:=hide hm
 clear h h' hd hm
 subst hr
 subst hq
 have HZ:=hide hz
 have HLE:=hide hle
 have HBt:Hid (∀ (W:World) (A:Option Addr) (N C:Nat),Num W A N (m / d)→Calls Tryz.prog 93 #[.agg #[.slice A N C],.int .i64 0] W fun e w'=>e = .returned (.tuple #[.bool o,.int .i64 0])∧Below W.heap.size W w'):=hide fun W A N C g=>by rw [← ho]; exact bit_any A N C _ 0 W g (by decide)
 clear hz hle ho
 go_enter Tryz.func46,Tryz.ntmps46
 go_wp2_with fail
 refine (tcheckF_ok false a n cap a' n' cap' md (unhide HM) _ (hide fun W hb=>unhide HC W (((Fs.two w _ _ _ _).kept hb).fr))).mono ?_
 rintro e w1 ⟨rfl,hb1⟩
 have hS:=(Fs.two w _ _ _ _).kept hb1
 obtain ⟨⟨ya,yb,yc,-⟩,⟨yd,-⟩,-⟩:=hS.cells
 have hltw1_0:w.heap.size < w1.heap.size:=hS.lt 0 rfl
 have hltw1_1:w.heap.size+1 < w1.heap.size:=hS.lt 1 rfl
 obtain ⟨WR,hWR⟩:∃ WR,w1.alloc (.cells #[.int .i64 0] 75) = WR:=⟨_,rfl⟩
 replace hS:=hS.alloc #[.int .i64 0] 75
 rw [hWR] at hS
 clear ya yb yc yd
 obtain ⟨⟨ye,-⟩,⟨yf,yg,yh,-⟩,⟨yi,-⟩,-⟩:=hS.cells
 have hsz1:w.heap.size≤WR.heap.size:=hS.size
 go_wp2_with fail
 refine (div_pos a a' n n' cap cap' m d _ ((unhide H).kept hS.fr) ((unhide H').kept hS.fr) (unhide HD)).mono ?_
 rintro e w2 ⟨⟨A1,N1,C1,A2,N2,C2,rfl,f1,f2⟩,hb2⟩
 replace hS:=hS.kept hb2
 clear ye yf yg yh yi
 obtain ⟨⟨yj,-⟩,⟨yk,yl,ym,-⟩,⟨yn,-⟩,-⟩:=hS.cells
 have G1:=hide (f1.mono (base':=w.heap.size) hsz1)
 have G2:=hide (f2.mono (base':=w.heap.size) hsz1)
 clear f1 f2 hsz1
 have hn2:0 < N2:=by have:=(unhide G2).num.zero; have:=unhide HZ; omega
 go_wp2_with fail
 refine (runNats_0 _ _ _ _ _ _ _ _ _ ⟨_,_,hS.bx ⟨w1.heap.size,#[.int .i64 0],75⟩ (by simp),rfl⟩).mono ?_
 rintro e w3 ⟨rfl,hb3⟩
 replace hS:=hS.kept hb3
 clear yj yk yl ym yn
 obtain ⟨⟨yo,-⟩,⟨yp,yq,yr,-⟩,⟨ys,-⟩,-⟩:=hS.cells
 replace G1:=hide ((unhide G1).kept hb3)
 replace G2:=hide ((unhide G2).kept hb3)
 have hltw3_0:w1.heap.size < w3.heap.size:=hS.lt 0 rfl
 have hltw3_1:w.heap.size < w3.heap.size:=hS.lt 1 rfl
 have hltw3_2:w.heap.size+1 < w3.heap.size:=hS.lt 2 rfl
 obtain ⟨WA,hWA⟩:∃ WA,w3.alloc (.cells #[.slice none 0 0] 40) = WA:=⟨_,rfl⟩
 replace hS:=hS.alloc #[.slice none 0 0] 40
 rw [hWA] at hS
 replace G1:=hide (hWA▸(unhide G1).alloc (.cells #[.slice none 0 0] 40))
 replace G2:=hide (hWA▸(unhide G2).alloc (.cells #[.slice none 0 0] 40))
 clear yo yp yq yr ys
 obtain ⟨⟨yt,-⟩,⟨yu,-⟩,⟨yv,yw,yx,-⟩,⟨yy,-⟩,-⟩:=hS.cells
 have fzWB:=hS.frozen (b:=w.heap.size+1) (cs:=#[.slice none 0 0]) (t:=40) (by simp) 0
 obtain ⟨WB,hWB⟩:∃ z9,WA.setCell ⟨w.heap.size+1,0,none⟩ (.slice A1 N1 C1) = z9:=⟨_,rfl⟩
 replace G1:=hide (hWB▸(unhide G1).put (t:=40) (hS.bx ⟨w.heap.size+1,#[.slice none 0 0],40⟩ (by simp)) (by decide) 0 (.slice A1 N1 C1))
 replace G2:=hide (hWB▸(unhide G2).put (t:=40) (hS.bx ⟨w.heap.size+1,#[.slice none 0 0],40⟩ (by simp)) (by decide) 0 (.slice A1 N1 C1))
 have hltWA_0:w3.heap.size < WA.heap.size:=hS.lt 0 rfl
 have hltWA_1:w1.heap.size < WA.heap.size:=hS.lt 1 rfl
 have hltWA_2:w.heap.size < WA.heap.size:=hS.lt 2 rfl
 have hltWA_3:w.heap.size+1 < WA.heap.size:=hS.lt 3 rfl
 replace hS:=hS.put (b:=w.heap.size+1) (cs:=#[.slice none 0 0]) (t:=40) (by simp) (by first|omega|(simp <;> omega)) 0 (.slice A1 N1 C1) [⟨w3.heap.size,#[.slice none 0 0],40⟩,⟨w1.heap.size,#[.int .i64 0],75⟩,⟨w.heap.size,#[.bool false,.slice a n cap,.slice a' n' cap'],88⟩,⟨w.heap.size+1,#[.slice A1 N1 C1],40⟩] (by simp <;> omega)
 rw [hWB] at hS
 obtain ⟨⟨yz,-⟩,⟨y0,-⟩,⟨y1,y2,y3,-⟩,⟨y4,-⟩,-⟩:=hS.cells
 have fzWC:=hS.frozen (b:=w3.heap.size) (cs:=#[.slice none 0 0]) (t:=40) (by simp) 0
 obtain ⟨WC,hWC⟩:∃ z9,WB.setCell ⟨w3.heap.size,0,none⟩ (.slice A2 N2 C2) = z9:=⟨_,rfl⟩
 replace G1:=hide (hWC▸(unhide G1).put (t:=40) (hS.bx ⟨w3.heap.size,#[.slice none 0 0],40⟩ (by simp)) (by decide) 0 (.slice A2 N2 C2))
 replace G2:=hide (hWC▸(unhide G2).put (t:=40) (hS.bx ⟨w3.heap.size,#[.slice none 0 0],40⟩ (by simp)) (by decide) 0 (.slice A2 N2 C2))
 have hltWB_0:w3.heap.size < WB.heap.size:=hS.lt 0 rfl
 have hltWB_1:w1.heap.size < WB.heap.size:=hS.lt 1 rfl
 have hltWB_2:w.heap.size < WB.heap.size:=hS.lt 2 rfl
 have hltWB_3:w.heap.size+1 < WB.heap.size:=hS.lt 3 rfl
 replace hS:=hS.put (b:=w3.heap.size) (cs:=#[.slice none 0 0]) (t:=40) (by simp) (by first|omega|(simp <;> omega)) 0 (.slice A2 N2 C2) [⟨w3.heap.size,#[.slice A2 N2 C2],40⟩,⟨w1.heap.size,#[.int .i64 0],75⟩,⟨w.heap.size,#[.bool false,.slice a n cap,.slice a' n' cap'],88⟩,⟨w.heap.size+1,#[.slice A1 N1 C1],40⟩] (by simp <;> omega)
 rw [hWC] at hS
 obtain ⟨⟨y5,-⟩,⟨y6,-⟩,⟨y7,y8,y9,-⟩,⟨yba,-⟩,-⟩:=hS.cells
 go_wp2_with fail
 clear yt yu yv yw yx yy fzWB yz y0 y1 y2 y3 y4 fzWC
 go_wp2_with fail
 refine (rnought_no A2 N2 C2 hn2 _).mono ?_
 rintro e w4 ⟨rfl,hb4⟩
 replace hS:=hS.kept hb4
 clear y5 y6 y7 y8 y9 yba
 obtain ⟨⟨ybb,-⟩,⟨ybc,-⟩,⟨ybd,ybe,ybf,-⟩,⟨ybg,-⟩,-⟩:=hS.cells
 replace G1:=hide ((unhide G1).kept hb4)
 replace G2:=hide ((unhide G2).kept hb4)
 clear hn2
 go_wp2_with fail
 have hS3s:w.heap.size≤w4.heap.size:=hS.size
 have hs9:∀ x9:Nat×(Pk→World→Prop),x9∈([(4,fun q W=>Mine W w.heap.size q.A q.N q.C (d - m % d)),(14,fun _ W=>Mine W w.heap.size A1 N1 C1 (m / d)),(15,fun _ W=>Mine W w.heap.size A2 N2 C2 (m % d))]:List (Nat×(Pk→World→Prop)))→∀ q9:Pk,St w.heap.size (x9.2 q9):=by
  intro x hx q
  simp only [List.mem_cons,List.not_mem_nil,or_false] at hx
  rcases hx with rfl|rfl|rfl
  ·exact st_mine _ _ _ _ _
  ·exact st_mine2 _ _ _ _
  ·exact st_mine2 _ _ _ _
 have h09:∀ x9:Nat×(Pk→World→Prop),x9∈([(4,fun q W=>Mine W w.heap.size q.A q.N q.C (d - m % d)),(14,fun _ W=>Mine W w.heap.size A1 N1 C1 (m / d)),(15,fun _ W=>Mine W w.heap.size A2 N2 C2 (m % d))]:List (Nat×(Pk→World→Prop)))→14≤x9.1→x9.2 ⟨none,0,0⟩ w4:=by
  intro x hx hn9
  simp only [List.mem_cons,List.not_mem_nil,or_false] at hx
  rcases hx with rfl|rfl|rfl
  ·exact absurd hn9 (by simp)
  ·exact unhide G1
  ·exact unhide G2
 refine wp_region_any (by kernel_rfl) ?_
 refine wpAny_pick (fun p9=>[some (40,.agg #[.slice A2 N2 C2]),some (41,.pointer (some ⟨w.heap.size,2,none⟩)),some (42,.agg #[.slice a' n' cap']),some (43,.agg #[.slice A2 N2 C2]),some (44,.tuple #[.agg #[.slice (p9 4).A (p9 4).N (p9 4).C],.bool true,.int .i64 0]),some (45,.agg #[.slice (p9 4).A (p9 4).N (p9 4).C]),some (46,.bool true),some (47,.int .i64 0),some (48,.agg #[.slice (p9 4).A (p9 4).N (p9 4).C]),some (49,.tuple #[.int .i64 (cmpI (m % d) (d - m % d)),.int .i64 0]),some (50,.int .i64 (cmpI (m % d) (d - m % d))),some (51,.int .i64 0),some (52,.int .i64 (cmpI (m % d) (d - m % d))),some (11,.int .i64 (cmpI (m % d) (d - m % d)))])
  (fun p9 l9 W9=>Pm w w.heap.size [(4,fun q W=>Mine W w.heap.size q.A q.N q.C (d - m % d)),(14,fun _ W=>Mine W w.heap.size A1 N1 C1 (m / d)),(15,fun _ W=>Mine W w.heap.size A2 N2 C2 (m % d))] p9 l9 W9 [⟨w3.heap.size,#[.slice A2 N2 C2],40⟩,⟨w1.heap.size,#[.int .i64 0],75⟩,⟨w.heap.size,#[.bool false,.slice a n cap,.slice a' n' cap'],88⟩,⟨w.heap.size+1,#[.slice A1 N1 C1],40⟩]) _ _ (fun _=>rfl) (by kernel_rfl) (fun _=>rfl) (fun _=>rfl) ?_ ?_ (fun _=>⟨none,0,0⟩) (Pm.start2 hS _ _ _ (by omega) hs9 h09)
 ·intro p9 l9 t9 W9 i9 hD hi9 hl9 hM
  obtain ⟨o9,ho9,hd9⟩:=(mem_ready.1 hi9).2
  have hin9:i9 < 14:=by
   by_cases h:i9 < 14
   ·exact h
   ·rw [Array.getElem?_eq_none (by rw [hD.len]; simp; omega)] at hl9; cases hl9
  have hcase:i9 = 0∨i9 = 1∨i9 = 2∨i9 = 3∨i9 = 4∨i9 = 5∨i9 = 6∨i9 = 7∨i9 = 8∨i9 = 9∨i9 = 10∨i9 = 11∨i9 = 12∨i9 = 13:=by omega
  clear hin9
  rcases hcase with rfl|rfl|rfl|rfl|rfl|rfl|rfl|rfl|rfl|rfl|rfl|rfl|rfl|rfl
  ·cases ho9
   have r10:=hD.old 10 _ rfl rfl
   have hM0:=hM.st
   have c9_0:=hM0.cellAt (b:=w3.heap.size) (cs:=#[.slice A2 N2 C2]) (t:=40) (by simp) 0 _ rfl
   clear hM0
   refine wpOp_step rfl fun K hK=>?_
   go_simp
   exact hK _ _ ⟨p9,fun _ _=>rfl,rfl,(hM.val rfl)⟩
  ·cases ho9
   have r2:=hD.old 2 _ rfl rfl
   refine wpOp_step rfl fun K hK=>?_
   go_simp
   exact hK _ _ ⟨p9,fun _ _=>rfl,rfl,(hM.val rfl)⟩
  ·cases ho9
   have r41:=hD.od hd9 1 41 _ rfl (by simp)
   have hM0:=hM.st
   have c9_0:=hM0.cellAt (b:=w.heap.size) (cs:=#[.bool false,.slice a n cap,.slice a' n' cap']) (t:=88) (by simp) 2 _ rfl
   clear hM0
   refine wpOp_step rfl fun K hK=>?_
   go_simp
   exact hK _ _ ⟨p9,fun _ _=>rfl,rfl,(hM.val rfl)⟩
  ·cases ho9
   have r10:=hD.old 10 _ rfl rfl
   have hM0:=hM.st
   have c9_0:=hM0.cellAt (b:=w3.heap.size) (cs:=#[.slice A2 N2 C2]) (t:=40) (by simp) 0 _ rfl
   clear hM0
   refine wpOp_step rfl fun K hK=>?_
   go_simp
   exact hK _ _ ⟨p9,fun _ _=>rfl,rfl,(hM.val rfl)⟩
  ·cases ho9
   have r42:=hD.od hd9 2 42 _ rfl (by simp)
   have r43:=hD.od hd9 3 43 _ rfl (by simp)
   have ga0:=hM.fx _ (List.mem_of_getElem? (i:=1) rfl) (Or.inr (by rw [hD.len]; simp))
   try simp only [] at ga0
   have ga1:=hM.fx _ (List.mem_of_getElem? (i:=2) rfl) (Or.inr (by rw [hD.len]; simp))
   try simp only [] at ga1
   have HD:=hide hD
   refine wpOp_step rfl fun K hK=>?_
   go_simp
   go_wp2_with fail
   refine (sub_pos a' A2 n' N2 cap' C2 d (m % d) _ ((unhide H').kept hM.st.fr) ga1.num (unhide HLE)).mono ?_
   rintro en w9 ⟨⟨a9,n9,c9,rfl,h9⟩,hb9⟩
   refine hK _ _ ⟨p9.set 4 ⟨a9,n9,c9⟩,?_,rfl,((hM.kept hs9 hb9).pick ⟨a9,n9,c9⟩ ?_)⟩
   ·intro k9 hk9
    clear hM hK
    match k9,hk9 with
    | 0,_=>rfl
    | 1,_=>rfl
    | 2,_=>rfl
    | 3,_=>rfl
    | 4,hk9=>exact absurd (hl9.symm.trans hk9) (by simp)
    | 5,hk9=>exact absurd (hl9.symm.trans (getD_true ((unhide HD).shut 5 _ (hk9) rfl ⟨4,.data⟩ (by simp) rfl))) (by simp)
    | 6,hk9=>exact absurd (hl9.symm.trans (getD_true ((unhide HD).shut 6 _ (hk9) rfl ⟨4,.data⟩ (by simp) rfl))) (by simp)
    | 7,hk9=>exact absurd (hl9.symm.trans (getD_true ((unhide HD).shut 7 _ (hk9) rfl ⟨4,.data⟩ (by simp) rfl))) (by simp)
    | 8,hk9=>exact absurd (hl9.symm.trans (getD_true ((unhide HD).shut 8 _ (hk9) rfl ⟨4,.chain⟩ (by simp) rfl))) (by simp)
    | 9,hk9=>exact absurd (hl9.symm.trans (getD_true ((unhide HD).shut 8 _ (getD_true ((unhide HD).shut 9 _ (hk9) rfl ⟨8,.data⟩ (by simp) rfl)) rfl ⟨4,.chain⟩ (by simp) rfl))) (by simp)
    | 10,hk9=>exact absurd (hl9.symm.trans (getD_true ((unhide HD).shut 8 _ (getD_true ((unhide HD).shut 9 _ (getD_true ((unhide HD).shut 10 _ (hk9) rfl ⟨9,.data⟩ (by simp) rfl)) rfl ⟨8,.data⟩ (by simp) rfl)) rfl ⟨4,.chain⟩ (by simp) rfl))) (by simp)
    | 11,hk9=>exact absurd (hl9.symm.trans (getD_true ((unhide HD).shut 8 _ (getD_true ((unhide HD).shut 9 _ (getD_true ((unhide HD).shut 11 _ (hk9) rfl ⟨9,.data⟩ (by simp) rfl)) rfl ⟨8,.data⟩ (by simp) rfl)) rfl ⟨4,.chain⟩ (by simp) rfl))) (by simp)
    | 12,hk9=>exact absurd (hl9.symm.trans (getD_true ((unhide HD).shut 8 _ (getD_true ((unhide HD).shut 9 _ (getD_true ((unhide HD).shut 12 _ (hk9) rfl ⟨9,.chain⟩ (by simp) rfl)) rfl ⟨8,.data⟩ (by simp) rfl)) rfl ⟨4,.chain⟩ (by simp) rfl))) (by simp)
    | 13,hk9=>exact absurd (hl9.symm.trans (getD_true ((unhide HD).shut 13 _ (hk9) rfl ⟨4,.phase⟩ (by simp) rfl))) (by simp)
    | k9+14,_=>rfl
   ·intro x hx he; simp only [List.mem_cons,List.not_mem_nil,or_false] at hx; rcases hx with rfl|rfl|rfl
    ·exact h9.mono hM.bw
    ·exact absurd he (by simp)
    ·exact absurd he (by simp)
  ·cases ho9
   have r44:=hD.od hd9 4 44 _ rfl (by simp)
   refine wpOp_step rfl fun K hK=>?_
   go_simp
   exact hK _ _ ⟨p9,fun _ _=>rfl,rfl,(hM.val rfl)⟩
  ·cases ho9
   have r44:=hD.od hd9 4 44 _ rfl (by simp)
   refine wpOp_step rfl fun K hK=>?_
   go_simp
   exact hK _ _ ⟨p9,fun _ _=>rfl,rfl,(hM.val rfl)⟩
  ·cases ho9
   have r44:=hD.od hd9 4 44 _ rfl (by simp)
   refine wpOp_step rfl fun K hK=>?_
   go_simp
   exact hK _ _ ⟨p9,fun _ _=>rfl,rfl,(hM.val rfl)⟩
  ·cases ho9
   have r9:=hD.old 9 _ rfl rfl
   have r45:=hD.od hd9 5 45 _ rfl (by simp)
   have r46:=hD.od hd9 6 46 _ rfl (by simp)
   have r47:=hD.od hd9 7 47 _ rfl (by simp)
   have ga0:=hM.fx _ (List.mem_of_getElem? (i:=1) rfl) (Or.inr (by rw [hD.len]; simp))
   try simp only [] at ga0
   have ga1:=hM.fx _ (List.mem_of_getElem? (i:=2) rfl) (Or.inr (by rw [hD.len]; simp))
   try simp only [] at ga1
   have g4:=hM.fx _ (List.mem_of_getElem? (i:=0) rfl) (Or.inl (getD_true (hd9 ⟨4,.chain⟩ (by simp) rfl)))
   simp only [] at g4
   refine wpOp_step rfl fun K hK=>?_
   go_simp
   go_wp2_with fail
   refine (runLess_0 _ _ _ _ _ _ _ ⟨_,_,hM.st.bx ⟨w1.heap.size,#[.int .i64 0],75⟩ (by simp),rfl⟩).mono ?_
   rintro en w9 ⟨rfl,hb9⟩
   exact hK _ _ ⟨p9,fun _ _=>rfl,rfl,((hM.kept hs9 hb9).val rfl)⟩
  ·cases ho9
   have r40:=hD.od hd9 0 40 _ rfl (by simp)
   have r48:=hD.od hd9 8 48 _ rfl (by simp)
   have ga0:=hM.fx _ (List.mem_of_getElem? (i:=1) rfl) (Or.inr (by rw [hD.len]; simp))
   try simp only [] at ga0
   have ga1:=hM.fx _ (List.mem_of_getElem? (i:=2) rfl) (Or.inr (by rw [hD.len]; simp))
   try simp only [] at ga1
   have g4:=hM.fx _ (List.mem_of_getElem? (i:=0) rfl) (Or.inl (getD_true (hD.shut 8 _ (getD_true (hd9 ⟨8,.data⟩ (by simp) rfl)) rfl ⟨4,.chain⟩ (by simp) rfl)))
   simp only [] at g4
   refine wpOp_step rfl fun K hK=>?_
   go_simp
   go_wp2_with fail
   refine (cmpN_any _ _ _ _ _ _ _ _ _ ga1.num g4.num).mono ?_
   rintro en w9 ⟨rfl,hb9⟩
   exact hK _ _ ⟨p9,fun _ _=>rfl,rfl,((hM.kept hs9 hb9).val rfl)⟩
  ·cases ho9
   have r49:=hD.od hd9 9 49 _ rfl (by simp)
   refine wpOp_step rfl fun K hK=>?_
   go_simp
   exact hK _ _ ⟨p9,fun _ _=>rfl,rfl,(hM.val rfl)⟩
  ·cases ho9
   have r49:=hD.od hd9 9 49 _ rfl (by simp)
   refine wpOp_step rfl fun K hK=>?_
   go_simp
   exact hK _ _ ⟨p9,fun _ _=>rfl,rfl,(hM.val rfl)⟩
  ·cases ho9
   have r9:=hD.old 9 _ rfl rfl
   have r50:=hD.od hd9 10 50 _ rfl (by simp)
   have r51:=hD.od hd9 11 51 _ rfl (by simp)
   have ga0:=hM.fx _ (List.mem_of_getElem? (i:=1) rfl) (Or.inr (by rw [hD.len]; simp))
   try simp only [] at ga0
   have ga1:=hM.fx _ (List.mem_of_getElem? (i:=2) rfl) (Or.inr (by rw [hD.len]; simp))
   try simp only [] at ga1
   have g4:=hM.fx _ (List.mem_of_getElem? (i:=0) rfl) (Or.inl (getD_true (hD.shut 8 _ (getD_true (hD.shut 9 _ (getD_true (hD.shut 10 _ (getD_true (hd9 ⟨10,.data⟩ (by simp) rfl)) rfl ⟨9,.data⟩ (by simp) rfl)) rfl ⟨8,.data⟩ (by simp) rfl)) rfl ⟨4,.chain⟩ (by simp) rfl)))
   simp only [] at g4
   refine wpOp_step rfl fun K hK=>?_
   go_simp
   go_wp2_with fail
   refine (runInt_0 _ _ _ _ ⟨_,_,hM.st.bx ⟨w1.heap.size,#[.int .i64 0],75⟩ (by simp),rfl⟩).mono ?_
   rintro en w9 ⟨rfl,hb9⟩
   exact hK _ _ ⟨p9,fun _ _=>rfl,rfl,((hM.kept hs9 hb9).val rfl)⟩
  ·cases ho9
   have r52:=hD.od hd9 12 52 _ rfl (by simp)
   refine wpOp_step rfl fun K hK=>?_
   go_simp
   exact hK _ _ ⟨p9,fun _ _=>rfl,rfl,(hM.val rfl)⟩
 ·intro p9 l9 W9 hn9 hl9 hM
  have fr8_4:=hM.fx _ (List.mem_of_getElem? (i:=0) rfl) (Or.inl (hl9 4 (by decide)))
  have kr8_0:=hM.fx _ (List.mem_of_getElem? (i:=1) rfl) (Or.inr (by rw [hn9]; simp))
  try simp only [] at kr8_0
  have kr8_1:=hM.fx _ (List.mem_of_getElem? (i:=2) rfl) (Or.inr (by rw [hn9]; simp))
  try simp only [] at kr8_1
  replace hM:=hM.st
  clear hl9 hs9 h09 hn9
  generalize p9 4 = q4 at *
  obtain ⟨Ar8_4,Nr8_4,Cr8_4⟩:=q4
  simp only [] at fr8_4
  clear hS ybb ybc ybd ybe ybf ybg
  have hS:=hM
  clear hM
  simp only [Puts.lay,List.setIfInBounds_toArray,List.set_cons_zero,List.set_cons_succ]
  obtain ⟨⟨ybh,-⟩,⟨ybi,-⟩,⟨ybj,ybk,ybl,-⟩,⟨ybm,-⟩,-⟩:=hS.cells
  have K1:=hide kr8_0
  clear kr8_0 kr8_1 fr8_4 G1 G2
  go_wp2_with fail
  refine (unhide HBt _ _ _ _ (unhide K1).num).mono ?_
  rintro e w5 ⟨rfl,hb5⟩
  replace hS:=hS.kept hb5
  clear ybh ybi ybj ybk ybl ybm
  obtain ⟨⟨ybn,-⟩,⟨ybo,-⟩,⟨ybp,ybq,ybr,-⟩,⟨ybs,-⟩,-⟩:=hS.cells
  replace K1:=hide ((unhide K1).kept hb5)
  go_wp2_with fail
  refine (keep_0 _ _ _ ⟨_,_,hS.bx ⟨w1.heap.size,#[.int .i64 0],75⟩ (by simp),rfl⟩).mono ?_
  rintro e w6 ⟨rfl,hb6⟩
  replace hS:=hS.kept hb6
  clear ybn ybo ybp ybq ybr ybs
  obtain ⟨⟨ybt,-⟩,⟨ybu,-⟩,⟨ybv,ybw,ybx,-⟩,⟨yby,-⟩,-⟩:=hS.cells
  replace K1:=hide ((unhide K1).kept hb6)
  have hltw6_0:w3.heap.size < w6.heap.size:=hS.lt 0 rfl
  have hltw6_1:w1.heap.size < w6.heap.size:=hS.lt 1 rfl
  have hltw6_2:w.heap.size < w6.heap.size:=hS.lt 2 rfl
  have hltw6_3:w.heap.size+1 < w6.heap.size:=hS.lt 3 rfl
  obtain ⟨WT,hWT⟩:∃ WT,w6.alloc (.cells #[.bool false,.bool o,.int .i64 (cmpI (m % d) (d - m % d))] 150) = WT:=⟨_,rfl⟩
  replace hS:=hS.alloc #[.bool false,.bool o,.int .i64 (cmpI (m % d) (d - m % d))] 150
  rw [hWT] at hS
  replace K1:=hide (hWT▸(unhide K1).alloc (.cells #[.bool false,.bool o,.int .i64 (cmpI (m % d) (d - m % d))] 150))
  obtain ⟨⟨ybz,yb0,yb1,-⟩,⟨yb2,-⟩,⟨yb3,-⟩,⟨yb4,yb5,yb6,-⟩,⟨yb7,-⟩,-⟩:=hS.cells
  go_wp2_with fail
  refine (HF _).mono ?_
  rintro e w7 ⟨rfl,hb7⟩
  replace hS:=hS.kept hb7
  clear ybz yb0 yb1 yb2 yb3 yb4 yb5 yb6 yb7 ybt ybu ybv ybw ybx yby
  obtain ⟨⟨yb8,yb9,yca,-⟩,⟨ycb,-⟩,⟨ycc,-⟩,⟨ycd,yce,ycf,-⟩,⟨ycg,-⟩,-⟩:=hS.cells
  replace K1:=hide ((unhide K1).kept hb7)
  have fz0:=hS.frozen (b:=w.heap.size+1) (cs:=#[.slice A1 N1 C1]) (t:=40) (by simp) 0
  go_wp2
  go_region
  go_wp2
  exact bodyPost_ret (v:=.tuple #[.bool false,.agg #[.slice A1 N1 C1],.bool false,.int .i64 0]) (by simp [results,Tryz.results46,go_sem,ycg]) rfl ⟨⟨_,_,_,rfl,(unhide K1).put (t:=40) (hS.bx ⟨w.heap.size+1,#[.slice A1 N1 C1],40⟩ (by simp)) (by decide) 0 _⟩,(hS.fr.setCell (show w.heap.size≤w.heap.size+1 by omega) _).drew⟩
def FiIs (E F n:Int) (md:Int) (x y z:Int):Prop:=∀ W:World,Tb W→Calls Tryz.prog 10 #[.agg #[.int .i64 E,.int .i64 F],.int .i64 n,.int .u8 md] W fun e w'=>e = .returned (.tuple #[.int .u64 x,.int .u8 y,.int .i64 z])∧Below W.heap.size W w'
def InIs (E F b wd:Int) (md:Nat) (x y z:Int):Prop:=∀ W:World,Tb W→Nb W→Calls Tryz.prog 9 #[.agg #[.int .i64 E,.int .i64 F],.int .u64 b,.int .i64 wd,.int .u8 (md:Int)] W fun e w'=>e = .returned (.tuple #[.int .i64 x,.int .u8 y,.int .i64 z])∧Below W.heap.size W w'
theorem lt64 {u:Nat} (h:u < 18446744073709551616):u < 2 ^ 64:=Nat.lt_of_lt_of_le h (by decide)
theorem size_T (n:Int) (h1:-9223372036854775808≤n) (h2:n < 9223372036854775808):Tel 50 #[.int .i64 n] (.int .u64 (n.natAbs:Int)):=fun W=>by
 by_cases hn:n < 0
 ·have:=tsize_neg n.natAbs (by omega) (by omega) W
  rw [show -((n.natAbs:Nat):Int) = n from by omega] at this
  exact this
 ·have:=tsize_pos n.natAbs (by omega) W
  rw [show ((n.natAbs:Nat):Int) = n from by omega] at this ⊢
  exact this
theorem make_tz {u z:Nat} (q:Bool) (hu:0 < u) (hz:Tz u z) (hz2:z < 64) (W:World) (B:Nat) (A:Option Addr) (N C:Nat) (g:Mine W B A N C u) (hT:Tb W) :
  Calls Tryz.prog 48 #[.bool q,.agg #[.slice A N C],.int .i64 0] W fun e w'=>(∃ A N C,e = .returned (.tuple #[.agg #[.bool q,.slice A N C,.int .i64 (z:Int)],.int .i64 0])∧Mine w' W.heap.size A N C (u / 2 ^ z))∧Below W.heap.size W w':=by
 obtain ⟨c1,c2⟩:=mine_caps g
 have:=make_ok q A N C u z 0 W g.num hu hT hz (by omega) c1 c2 (by omega)
 rw [show (0:Int)+(z:Int) = (z:Int) from by omega] at this
 exact this
theorem make_z (q:Bool) (W:World) (B:Nat) (A:Option Addr) (N C:Nat) (g:Mine W B A N C 0) :
  Calls Tryz.prog 48 #[.bool q,.agg #[.slice A N C],.int .i64 0] W fun e w'=>(∃ A N C,e = .returned (.tuple #[.agg #[.bool false,.slice A N C,.int .i64 0],.int .i64 0])∧Mine w' W.heap.size A N C 0)∧Below W.heap.size W w':=by
 obtain rfl:=g.num.zero.2 rfl
 refine (make_nought q A C 0 W g.num).mono ?_
 rintro e w' ⟨rfl,hb⟩
 exact ⟨⟨none,0,0,rfl,mine_none _ _⟩,hb⟩
theorem fromInt_any {E F S I B md z k:Nat} (h:Fm E F S I) (HB:B = 2 ^ (E - 1) - 1) (hm:md≤4) (n:Int) (h0:n≠0) (h1:-9223372036854775808≤n) (h2:n < 9223372036854775808) (hz:Tz n.natAbs z) (hz2:z < 64) (hk:Bl (n.natAbs / 2 ^ z) k) :
  FiIs E F n md (bitsR S I md (decide (n < 0)) (rowR B F md (decide (n < 0)) (n.natAbs / 2 ^ z) k (z:Int)):Int) (flagR B F I md (decide (n < 0)) (n.natAbs / 2 ^ z) k (z:Int):Int) 0:=fun W hT=>
 FromInt_is E F n md n.natAbs (decide (n < 0)) (decide (n < 0)) (n.natAbs / 2 ^ z) (z:Int) _ _ 0 (by omega) rfl (size_T n h1 h2)
  (hide fun W B A N C g hT=>make_tz _ (by omega) hz hz2 W B A N C g hT)
  (hide fun W B A N C g=>rdyadic_any h HB hm false _ A N C _ k _ W B g ⟨hz.down.1,by omega,by omega⟩ hk) W hT
theorem fromInt_form {E F:Int} (h:NoFo E F) (n:Int) (h1:-9223372036854775808≤n) (h2:n < 9223372036854775808) (md:Int):FiIs E F n md 0 0 5:=fun W hT=>by
 by_cases hn:n = 0
 ·subst hn
  exact FromInt_is E F 0 md 0 false false 0 0 0 0 5 (by decide) rfl (size_T 0 (by decide) (by decide)) (hide fun W B A N C g _=>make_z false W B A N C g) (hide fun W B A N C _=>rdyadic_form E F _ A N C _ _ _ (check_B h) W) W hT
 ·obtain ⟨z,hz,hz2⟩:=tz_ex (M:=n.natAbs) (f:=64) (by omega) (lt64 (by omega))
  exact FromInt_is E F n md n.natAbs (decide (n < 0)) (decide (n < 0)) (n.natAbs / 2 ^ z) (z:Int) 0 0 5 (by omega) rfl (size_T n h1 h2) (hide fun W B A N C g hT=>make_tz _ (by omega) hz hz2 W B A N C g hT) (hide fun W B A N C _=>rdyadic_form E F _ A N C _ _ _ (check_B h) W) W hT
theorem rk_ok (s:Bool) (a:Option Addr) (n cap m:Nat) (a':Option Addr) (n' cap' m':Nat) (w:World) (h:Num w a n m) (h':Num w a' n' m') (hm':0 < m') (hs:s = true→0 < m) (hg:Nat.gcd m m' = 1) :
  Calls Tryz.prog 126 #[.agg #[.bool s,.slice a n cap,.slice a' n' cap']] w fun e w'=>e = .returned (.int .i64 0)∧Below w.heap.size w w':=by
 have hn':0 < n':=by have:=h'.zero; omega
 cases s
 ·exact rk_ok_f a n cap m a' n' cap' m' w hn' h h' hg
 ·exact rk_ok_t a n cap m a' n' cap' m' w hn' (by have:=h.zero; have:=hs rfl; omega) h h' hg
theorem fm5:Fm 5 10 32768 31744:=⟨⟨by decide,by decide,by decide,by decide⟩,by decide,by decide⟩
theorem fm8:Fm 8 23 2147483648 2139095040:=⟨⟨by decide,by decide,by decide,by decide⟩,by decide,by decide⟩
theorem fm11:Fm 11 52 9223372036854775808 9218868437227405312:=⟨⟨by decide,by decide,by decide,by decide⟩,by decide,by decide⟩
theorem toA:ToIs 11 52 5 10 4599676419421066581 0 13653 1 0:=by
 have hB:Bt 11 52 4599676419421066581 false 1021 1501199875790165:=⟨by decide,by decide,by decide⟩
 have hW:Wo 11 52 1023 1021 1501199875790165 6004799503160661 0 (-54):=⟨⟨3002399751580330,by decide⟩,Or.inr ⟨by decide,by decide,by decide⟩,by decide,by decide⟩
 have:=to_wo (md:=0) fm11 fm5 (B:=1023) (B':=15) (by decide) (by decide) (by decide) hB hW (k:=53) ⟨by decide,Or.inr (by decide)⟩
 exact this
theorem toB:ToIs 5 10 11 52 15360 0 4607182418800017408 0 0:=by
 have hB:Bt 5 10 15360 false 15 0:=⟨by decide,by decide,by decide⟩
 have hW:Wo 5 10 15 15 0 1024 10 (-10):=⟨⟨0,by decide⟩,Or.inr ⟨by decide,by decide,by decide⟩,by decide,by decide⟩
 have:=to_wo (md:=0) fm5 fm11 (B:=15) (B':=1023) (by decide) (by decide) (by decide) hB hW (k:=1) ⟨by decide,Or.inr (by decide)⟩
 exact this
theorem fiA:FiIs 5 10 2049 0 26624 1 0:=by
 have:=fromInt_any (md:=0) (z:=0) (k:=12) fm5 (B:=15) (by decide) (by decide) 2049 (by decide) (by decide) (by decide) ⟨1024,by decide⟩ (by decide) ⟨by decide,Or.inr (by decide)⟩
 exact this
theorem inA:InIs 5 10 16640 8 0 2 1 0:=fun W hT hN=>by
 have hB:Bt 5 10 16640 false 16 256:=⟨by decide,by decide,by decide⟩
 have hW:Wo 5 10 15 16 256 1280 8 (-9):=⟨⟨2,by decide⟩,Or.inr ⟨by decide,by decide,by decide⟩,by decide,by decide⟩
 have hv:Vals 5 10 16640 false 5 (-1):=vals_wo fm5.fo (hide (by decide)) hB hW
 refine Int_fin 5 10 16640 8 0 (fits_T fm5 (b:=16640) (by decide)) (fun W=>twidth_8 W) (by decide) 3 rfl rfl false false false false 5 5 2 2 (-1) 2 1 (kind_T fm5 hB) (hide hv) (hide fun W A N C g=>?_) (hide fun W A A' N C N' C' g g'=>?_) (hide fun W A N C g=>?_) W hT hN
 ·have:=nratio_ok (s:=false) (m:=5) (x:=-1) (Or.inr ⟨by decide,by decide,by decide⟩) (i:=0) (j:=1) (by decide) (by decide) (not_over (n:=3) (by decide) (by decide)) (not_over (n:=2) (by decide) (by decide)) W A N C g
  exact this
 ·have:=whole_near A N C 5 A' N' C' 2 0 (by decide) 1 2 false (by decide) (by decide) (by decide) (by decide) (by decide) (fun W=>farther_any 0 false false 0 (by decide) (Or.inr (Or.inl rfl)) W) W g g' (by decide) (hide fun W' hb=>rk_ok false A N C 5 A' N' C' 2 W' (g.kept hb) (g'.kept hb) (by decide) (fun h=>by cases h) (by decide))
  exact this
 ·exact within_pf 8 127 127 A N C 2 (fun W=>tend_8_high W) (fun W=>tsize_pos 127 (by decide) W) (by decide) (by decide) W g (num_two g (by decide))
theorem talive_any  (w:World) (hT:Tb w) (hN:Nb w) :
  Calls Tryz.prog 7 #[] w fun e w'=>e = .returned (.bool true)∧Below w.heap.size w w':=by
 have HT:=hide hT
 have HN:=hide hN
 clear hT hN
 have o1:FloatKind.f64.format.order 4607182418800017408 4607182418800017408 = some .eq:=by kernel_rfl
 have o2:FloatKind.f32.format.order 1077936128 1077936128 = some .eq:=by kernel_rfl
 go_enter Tryz.func7,Tryz.ntmps7
 go_wp2_with fail
 refine (toA _ ((unhide HT).kept (Fs.two w _ _ _ _).fr) ((unhide HN).kept (Fs.two w _ _ _ _).fr)).mono ?_
 rintro e w1 ⟨rfl,hb1⟩
 have hS:=(Fs.two w _ _ _ _).kept hb1
 obtain ⟨⟨ya,yb,-⟩,⟨yc,yd,-⟩,-⟩:=hS.cells
 go_wp2_with fail
 refine (inA _ ((unhide HT).kept hS.fr) ((unhide HN).kept hS.fr)).mono ?_
 rintro e w2 ⟨rfl,hb2⟩
 replace hS:=hS.kept hb2
 clear ya yb yc yd
 obtain ⟨⟨ye,yf,-⟩,⟨yg,yh,-⟩,-⟩:=hS.cells
 go_wp2_with fail
 refine (fiA _ ((unhide HT).kept hS.fr)).mono ?_
 rintro e w3 ⟨rfl,hb3⟩
 replace hS:=hS.kept hb3
 clear ye yf yg yh
 obtain ⟨⟨yi,yj,-⟩,⟨yk,yl,-⟩,-⟩:=hS.cells
 go_wp2_with fail
 refine (From64_ok 5 10 15360 4607182418800017408 0 toB _ ((unhide HT).kept hS.fr) ((unhide HN).kept hS.fr)).mono ?_
 rintro e w4 ⟨rfl,hb4⟩
 replace hS:=hS.kept hb4
 clear yi yj yk yl
 obtain ⟨⟨ym,yn,-⟩,⟨yo,yp,-⟩,-⟩:=hS.cells
 go_wp2_with fail
 refine (Cut8_127 _).mono ?_
 rintro e w5 ⟨rfl,hb5⟩
 replace hS:=hS.kept hb5
 clear ym yn yo yp
 obtain ⟨⟨yq,yr,-⟩,⟨ys,yt,-⟩,-⟩:=hS.cells
 go_wp2_with fail
 refine (Cutu8_m1 _).mono ?_
 rintro e w6 ⟨rfl,hb6⟩
 replace hS:=hS.kept hb6
 clear yq yr ys yt
 obtain ⟨⟨yu,yv,-⟩,⟨yw,yx,-⟩,-⟩:=hS.cells
 go_wp2_with fail
 refine (Near32_3 _).mono ?_
 rintro e w7 ⟨rfl,hb7⟩
 replace hS:=hS.kept hb7
 clear yu yv yw yx
 obtain ⟨⟨yy,yz,-⟩,⟨y0,y1,-⟩,-⟩:=hS.cells
 go_wp2
 go_ret
 exact ⟨rfl,hS.fr⟩
theorem no1:NoFo 1 1:=Or.inl (by decide)
theorem fiB:FiIs 5 10 0 9 0 0 7:=fun W hT=>
 FromInt_is 5 10 0 9 0 false false 0 0 0 0 7 (by decide) rfl (size_T 0 (by decide) (by decide)) (hide fun W B A N C g _=>make_z false W B A N C g) (hide fun W B A N C g=>rdyadic_mode 5 10 false A N C 0 false 9 (by decide) (check_T fm5) W (hide fun W' hb=>by
  obtain rfl:=g.num.zero.2 rfl
  exact dcheck_dy false A 0 C 0 0 W' ⟨(g.kept hb).num,Or.inl ⟨rfl,rfl,rfl⟩⟩)) W hT
theorem toE:ToIs 5 10 8 23 65536 0 0 0 6:=fun W _ hN=>To_no_0060 5 10 8 23 65536 0 (check_T fm5) (check_T fm8) (fits_M fm5 (b:=65536) (by decide)) (by decide) W hN
theorem tnames_any  (w:World) (hT:Tb w) (hN:Nb w) :
  Calls Tryz.prog 3 #[] w fun e w'=>e = .returned (.bool true)∧Below w.heap.size w w':=by
 have HT:=hide hT
 have HN:=hide hN
 clear hT hN
 go_enter Tryz.func3,Tryz.ntmps3
 go_wp2_with fail
 refine (talive_any _ (unhide HT) (unhide HN)).mono ?_
 rintro e w1 ⟨rfl,hb1⟩
 have hS:=(Fs.begin w).kept hb1
 obtain ⟨WA,hWA⟩:∃ WA,w1.alloc (.cells #[.int .i64 1,.int .i64 1] 24) = WA:=⟨_,rfl⟩
 replace hS:=hS.alloc #[.int .i64 1,.int .i64 1] 24
 rw [hWA] at hS
 obtain ⟨⟨ya,yb,-⟩,-⟩:=hS.cells
 have hltWA_0:w1.heap.size < WA.heap.size:=hS.lt 0 rfl
 obtain ⟨WB,hWB⟩:∃ WB,WA.alloc (.cells #[.int .i64 5,.int .i64 10] 24) = WB:=⟨_,rfl⟩
 replace hS:=hS.alloc #[.int .i64 5,.int .i64 10] 24
 rw [hWB] at hS
 clear ya yb
 obtain ⟨⟨yc,yd,-⟩,⟨ye,yf,-⟩,-⟩:=hS.cells
 go_wp2_with fail
 refine (To_no_5057 1 1 5 10 65536 9 (check_B no1) (check_T fm5) (fits_B no1 65536) (by decide) _).mono ?_
 rintro e w2 ⟨rfl,hb2⟩
 replace hS:=hS.kept hb2
 clear yc yd ye yf
 obtain ⟨⟨yg,yh,-⟩,⟨yi,yj,-⟩,-⟩:=hS.cells
 go_wp2_with fail
 refine (To_no_0567 5 10 1 1 65536 9 (check_T fm5) (check_B no1) (fits_M fm5 (b:=65536) (by decide)) (by decide) _).mono ?_
 rintro e w3 ⟨rfl,hb3⟩
 replace hS:=hS.kept hb3
 clear yg yh yi yj
 obtain ⟨⟨yk,yl,-⟩,⟨ym,yn,-⟩,-⟩:=hS.cells
 go_wp2_with fail
 refine (To_no_0067 5 10 5 10 65536 9 (check_T fm5) (check_T fm5) (fits_M fm5 (b:=65536) (by decide)) (by decide) _).mono ?_
 rintro e w4 ⟨rfl,hb4⟩
 replace hS:=hS.kept hb4
 clear yk yl ym yn
 obtain ⟨⟨yo,yp,-⟩,⟨yq,yr,-⟩,-⟩:=hS.cells
 go_wp2_with fail
 refine (To_no_0007 5 10 5 10 65535 9 (check_T fm5) (check_T fm5) (fits_T fm5 (b:=65535) (by decide)) (by decide) _).mono ?_
 rintro e w5 ⟨rfl,hb5⟩
 replace hS:=hS.kept hb5
 clear yo yp yq yr
 obtain ⟨⟨ys,yt,-⟩,⟨yu,yv,-⟩,-⟩:=hS.cells
 go_wp2_with fail
 refine (Int_no_6_80_7 5 10 65536 9 9 (fits_M fm5 (b:=65536) (by decide)) (fun W=>twidth_9 W) (by decide) _).mono ?_
 rintro e w6 ⟨rfl,hb6⟩
 replace hS:=hS.kept hb6
 clear ys yt yu yv
 obtain ⟨⟨yw,yx,-⟩,⟨yy,yz,-⟩,-⟩:=hS.cells
 go_wp2_with fail
 refine (Int_no_0_80_7 5 10 0 9 9 (fits_T fm5 (b:=0) (by decide)) (fun W=>twidth_9 W) (by decide) _).mono ?_
 rintro e w7 ⟨rfl,hb7⟩
 replace hS:=hS.kept hb7
 clear yw yx yy yz
 obtain ⟨⟨y0,y1,-⟩,⟨y2,y3,-⟩,-⟩:=hS.cells
 go_wp2_with fail
 refine (Int_no_0_0_7 5 10 0 8 9 (fits_T fm5 (b:=0) (by decide)) (fun W=>twidth_8 W) (by decide) _).mono ?_
 rintro e w8 ⟨rfl,hb8⟩
 replace hS:=hS.kept hb8
 clear y0 y1 y2 y3
 obtain ⟨⟨y4,y5,-⟩,⟨y6,y7,-⟩,-⟩:=hS.cells
 go_wp2_with fail
 refine (fromInt_form (E:=1) (F:=1) no1 0 (by decide) (by decide) 9 _ ((unhide HT).kept hS.fr)).mono ?_
 rintro e w9 ⟨rfl,hb9⟩
 replace hS:=hS.kept hb9
 clear y4 y5 y6 y7
 obtain ⟨⟨y8,y9,-⟩,⟨yba,ybb,-⟩,-⟩:=hS.cells
 go_wp2_with fail
 refine (fiB _ ((unhide HT).kept hS.fr)).mono ?_
 rintro e w10 ⟨rfl,hb10⟩
 replace hS:=hS.kept hb10
 clear y8 y9 yba ybb
 obtain ⟨⟨ybc,ybd,-⟩,⟨ybe,ybf,-⟩,-⟩:=hS.cells
 go_wp2_with fail
 refine (From32_no 5 10 65536 6 rfl toE _ ((unhide HT).kept hS.fr) ((unhide HN).kept hS.fr)).mono ?_
 rintro e w11 ⟨rfl,hb11⟩
 replace hS:=hS.kept hb11
 clear ybc ybd ybe ybf
 obtain ⟨⟨ybg,ybh,-⟩,⟨ybi,ybj,-⟩,-⟩:=hS.cells
 go_wp2
 go_ret
 exact ⟨rfl,hS.fr⟩
end Go.Proofs.YtbgafednekomhaaGreatDoor
