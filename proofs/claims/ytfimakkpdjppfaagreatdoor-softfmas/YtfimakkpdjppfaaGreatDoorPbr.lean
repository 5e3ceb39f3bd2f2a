/- Of what SoftFmasRow stands on: SfAsk3 SxFmaE. -/
import Derived.Test.YtfimakkpdjppfaaGreatDoorPbh
namespace Go.Proofs.YtfimakkpdjppfaaGreatDoor
open Go.RowKit
set_option maxHeartbeats 8000000
set_option maxRecDepth 20000
theorem asked3_2:(∀ (E F md:Int) (p:Nat) (b0 b1 b2:Int) (_:Tel 21 #[.agg #[.int .i64 E,.int .i64 F],.int .u64 b0] (.int .i64 0)) (_:Tel 21 #[.agg #[.int .i64 E,.int .i64 F],.int .u64 b1] (.int .i64 0)) (_:Tel 21 #[.agg #[.int .i64 E,.int .i64 F],.int .u64 b2] (.int .i64 0)) (_:¬ (4:Int) < md) (w:World) (_:w.heap[p]? = some (.cells #[.int .u64 b0,.int .u64 b1,.int .u64 b2] 24 (0,0))),
  Calls Tryz.prog 9 #[.agg #[.int .i64 E,.int .i64 F],.int .u8 md,.slice (some ⟨p,0,none⟩) 3 3] w fun e w'=>e = .returned (.int .i64 0)∧Below w.heap.size w w') ∧
  (∀ (E F md:Int) (p:Nat) (b0 b1 b2:Int) (_:Tel 21 #[.agg #[.int .i64 E,.int .i64 F],.int .u64 b0] (.int .i64 0)) (_:Tel 21 #[.agg #[.int .i64 E,.int .i64 F],.int .u64 b1] (.int .i64 0)) (_:Tel 21 #[.agg #[.int .i64 E,.int .i64 F],.int .u64 b2] (.int .i64 0)) (_:(4:Int) < md) (w:World) (_:w.heap[p]? = some (.cells #[.int .u64 b0,.int .u64 b1,.int .u64 b2] 24 (0,0))),
  Calls Tryz.prog 9 #[.agg #[.int .i64 E,.int .i64 F],.int .u8 md,.slice (some ⟨p,0,none⟩) 3 3] w fun e w'=>e = .returned (.int .i64 7)∧Below w.heap.size w w'):=by
 refine ⟨fun E F md p b0 b1 b2 H0 H1 H2 hm w hp=>?_,fun E F md p b0 b1 b2 H0 H1 H2 hm w hp=>?_⟩ <;> (
  go_enter Tryz.func9,Tryz.ntmps9
  have hS0:Fs w w [⟨p,#[.int .u64 b0,.int .u64 b1,.int .u64 b2],24⟩]:=⟨fun x hx=>by rcases List.mem_cons.1 hx with rfl|hx; exact hp; exact absurd hx List.not_mem_nil,Below.refl _ _⟩
  have hS:=hS0.alloc #[.int .i64 E,.int .i64 F] 23
  clear hS0 hp
  obtain ⟨⟨ya,yb,-⟩,⟨yc,yd,ye,-⟩,-⟩:=hS.cells
  go_wp2
  refine wp_loop_rounds 4 ?_
  rw [rounds_succ]
  go_wp2_with fail
  refine wp_region_any (by kernel_rfl) ?_
  refine wpAny_det [some (15,.agg #[.int .i64 E,.int .i64 F]),some (16,.slice (some ⟨p,0,none⟩) 3 3),some (17,.int .i64 0),some (18,.pointer (some ⟨p,0,none⟩)),some (19,.int .u64 b0),some (20,.int .i64 0),some (8,.int .i64 0)]
   (fun _ W9=>Fs w W9 [⟨w.heap.size,#[.int .i64 E,.int .i64 F],23⟩,⟨p,#[.int .u64 b0,.int .u64 b1,.int .u64 b2],24⟩]) _ _ rfl (by kernel_rfl) rfl rfl ?_ ?_ (hS).drew
  ·intro l9 t9 W9 i9 hD hi9 hl9 hM
   obtain ⟨o9,ho9,hd9⟩:=(mem_ready.1 hi9).2
   have hin9:i9 < 7:=by
    by_cases h:i9 < 7
    ·exact h
    ·rw [Array.getElem?_eq_none (by rw [hD.len]; simp; omega)] at hl9; cases hl9
   have hcase:i9 = 0∨i9 = 1∨i9 = 2∨i9 = 3∨i9 = 4∨i9 = 5∨i9 = 6:=by omega
   clear hin9
   rcases hcase with rfl|rfl|rfl|rfl|rfl|rfl|rfl
   ·cases ho9
    have r3:=hD.old 3 _ rfl rfl
    have hM0:=hM
    have Q_:=hM0.cellAt (b:=w.heap.size) (cs:=#[.int .i64 E,.int .i64 F]) (t:=23) (by simp)
    have c9_0:=Q_ 0 _ rfl
    have c9_1:=Q_ 1 _ rfl
    clear Q_
    clear hM0
    refine wpOp_step rfl fun K hK=>?_
    go_simp
    exact hK _ _ ⟨rfl,hM⟩
   ·cases ho9
    have r2:=hD.old 2 _ rfl rfl
    refine wpOp_step rfl fun K hK=>?_
    go_simp
    exact hK _ _ ⟨rfl,hM⟩
   ·cases ho9
    have r7:=hD.old 7 _ rfl rfl
    refine wpOp_step rfl fun K hK=>?_
    go_simp
    exact hK _ _ ⟨rfl,hM⟩
   ·cases ho9
    have r16:=hD.od hd9 1 16 _ rfl (by simp)
    have r17:=hD.od hd9 2 17 _ rfl (by simp)
    refine wpOp_step rfl fun K hK=>?_
    go_simp
    exact hK _ _ ⟨rfl,hM⟩
   ·cases ho9
    have r18:=hD.od hd9 3 18 _ rfl (by simp)
    have hM0:=hM
    have c9_0:=hM0.cellAt (b:=p) (cs:=#[.int .u64 b0,.int .u64 b1,.int .u64 b2]) (t:=24) (by simp) 0 _ rfl
    clear hM0
    refine wpOp_step rfl fun K hK=>?_
    go_simp
    exact hK _ _ ⟨rfl,hM⟩
   ·cases ho9
    have r15:=hD.od hd9 0 15 _ rfl (by simp)
    have r19:=hD.od hd9 4 19 _ rfl (by simp)
    refine wpOp_step rfl fun K hK=>?_
    go_simp
    go_wp2_with fail
    refine (H0 _).mono ?_
    rintro en w9 ⟨rfl,hb9⟩
    exact hK _ _ ⟨rfl,hM.kept hb9⟩
   ·cases ho9
    have r20:=hD.od hd9 5 20 _ rfl (by simp)
    refine wpOp_step rfl fun K hK=>?_
    go_simp
    exact hK _ _ ⟨rfl,hM⟩
  ·intro l9 W9 hl9 hM
   clear hS ya yb yc yd ye
   have hS:=hM
   clear hM
   simp only [Puts.lay,List.setIfInBounds_toArray,List.set_cons_zero,List.set_cons_succ]
   obtain ⟨⟨yf,yg,-⟩,⟨yh,yi,yj,-⟩,-⟩:=hS.cells
   go_wp2
   rw [rounds_succ]
   go_wp2_with fail
   refine wp_region_any (by kernel_rfl) ?_
   refine wpAny_det [some (15,.agg #[.int .i64 E,.int .i64 F]),some (16,.slice (some ⟨p,0,none⟩) 3 3),some (17,.int .i64 1),some (18,.pointer (some ⟨p,1,none⟩)),some (19,.int .u64 b1),some (20,.int .i64 0),some (8,.int .i64 0)]
    (fun _ W9=>Fs w W9 [⟨w.heap.size,#[.int .i64 E,.int .i64 F],23⟩,⟨p,#[.int .u64 b0,.int .u64 b1,.int .u64 b2],24⟩]) _ _ rfl (by kernel_rfl) rfl rfl ?_ ?_ (hS).drew
   ·intro l9 t9 W9 i9 hD hi9 hl9 hM
    obtain ⟨o9,ho9,hd9⟩:=(mem_ready.1 hi9).2
    have hin9:i9 < 7:=by
     by_cases h:i9 < 7
     ·exact h
     ·rw [Array.getElem?_eq_none (by rw [hD.len]; simp; omega)] at hl9; cases hl9
    have hcase:i9 = 0∨i9 = 1∨i9 = 2∨i9 = 3∨i9 = 4∨i9 = 5∨i9 = 6:=by omega
    clear hin9
    rcases hcase with rfl|rfl|rfl|rfl|rfl|rfl|rfl
    ·cases ho9
     have r3:=hD.old 3 _ rfl rfl
     have hM0:=hM
     have Q_:=hM0.cellAt (b:=w.heap.size) (cs:=#[.int .i64 E,.int .i64 F]) (t:=23) (by simp)
     have c9_0:=Q_ 0 _ rfl
     have c9_1:=Q_ 1 _ rfl
     clear Q_
     clear hM0
     refine wpOp_step rfl fun K hK=>?_
     go_simp
     exact hK _ _ ⟨rfl,hM⟩
    ·cases ho9
     have r2:=hD.old 2 _ rfl rfl
     refine wpOp_step rfl fun K hK=>?_
     go_simp
     exact hK _ _ ⟨rfl,hM⟩
    ·cases ho9
     have r7:=hD.old 7 _ rfl rfl
     refine wpOp_step rfl fun K hK=>?_
     go_simp
     exact hK _ _ ⟨rfl,hM⟩
    ·cases ho9
     have r16:=hD.od hd9 1 16 _ rfl (by simp)
     have r17:=hD.od hd9 2 17 _ rfl (by simp)
     refine wpOp_step rfl fun K hK=>?_
     go_simp
     exact hK _ _ ⟨rfl,hM⟩
    ·cases ho9
     have r18:=hD.od hd9 3 18 _ rfl (by simp)
     have hM0:=hM
     have c9_0:=hM0.cellAt (b:=p) (cs:=#[.int .u64 b0,.int .u64 b1,.int .u64 b2]) (t:=24) (by simp) 1 _ rfl
     clear hM0
     refine wpOp_step rfl fun K hK=>?_
     go_simp
     exact hK _ _ ⟨rfl,hM⟩
    ·cases ho9
     have r15:=hD.od hd9 0 15 _ rfl (by simp)
     have r19:=hD.od hd9 4 19 _ rfl (by simp)
     refine wpOp_step rfl fun K hK=>?_
     go_simp
     go_wp2_with fail
     refine (H1 _).mono ?_
     rintro en w9 ⟨rfl,hb9⟩
     exact hK _ _ ⟨rfl,hM.kept hb9⟩
    ·cases ho9
     have r20:=hD.od hd9 5 20 _ rfl (by simp)
     refine wpOp_step rfl fun K hK=>?_
     go_simp
     exact hK _ _ ⟨rfl,hM⟩
   ·intro l9 W9 hl9 hM
    clear hS yf yg yh yi yj
    have hS:=hM
    clear hM
    simp only [Puts.lay,List.setIfInBounds_toArray,List.set_cons_zero,List.set_cons_succ]
    obtain ⟨⟨yk,yl,-⟩,⟨ym,yn,yo,-⟩,-⟩:=hS.cells
    go_wp2
    rw [rounds_succ]
    go_wp2_with fail
    refine wp_region_any (by kernel_rfl) ?_
    refine wpAny_det [some (15,.agg #[.int .i64 E,.int .i64 F]),some (16,.slice (some ⟨p,0,none⟩) 3 3),some (17,.int .i64 2),some (18,.pointer (some ⟨p,2,none⟩)),some (19,.int .u64 b2),some (20,.int .i64 0),some (8,.int .i64 0)]
     (fun _ W9=>Fs w W9 [⟨w.heap.size,#[.int .i64 E,.int .i64 F],23⟩,⟨p,#[.int .u64 b0,.int .u64 b1,.int .u64 b2],24⟩]) _ _ rfl (by kernel_rfl) rfl rfl ?_ ?_ (hS).drew
    ·intro l9 t9 W9 i9 hD hi9 hl9 hM
     obtain ⟨o9,ho9,hd9⟩:=(mem_ready.1 hi9).2
     have hin9:i9 < 7:=by
      by_cases h:i9 < 7
      ·exact h
      ·rw [Array.getElem?_eq_none (by rw [hD.len]; simp; omega)] at hl9; cases hl9
     have hcase:i9 = 0∨i9 = 1∨i9 = 2∨i9 = 3∨i9 = 4∨i9 = 5∨i9 = 6:=by omega
     clear hin9
     rcases hcase with rfl|rfl|rfl|rfl|rfl|rfl|rfl
     ·cases ho9
      have r3:=hD.old 3 _ rfl rfl
      have hM0:=hM
      have Q_:=hM0.cellAt (b:=w.heap.size) (cs:=#[.int .i64 E,.int .i64 F]) (t:=23) (by simp)
      have c9_0:=Q_ 0 _ rfl
      have c9_1:=Q_ 1 _ rfl
      clear Q_
      clear hM0
      refine wpOp_step rfl fun K hK=>?_
      go_simp
      exact hK _ _ ⟨rfl,hM⟩
     ·cases ho9
      have r2:=hD.old 2 _ rfl rfl
      refine wpOp_step rfl fun K hK=>?_
      go_simp
      exact hK _ _ ⟨rfl,hM⟩
     ·cases ho9
      have r7:=hD.old 7 _ rfl rfl
      refine wpOp_step rfl fun K hK=>?_
      go_simp
      exact hK _ _ ⟨rfl,hM⟩
     ·cases ho9
      have r16:=hD.od hd9 1 16 _ rfl (by simp)
      have r17:=hD.od hd9 2 17 _ rfl (by simp)
      refine wpOp_step rfl fun K hK=>?_
      go_simp
      exact hK _ _ ⟨rfl,hM⟩
     ·cases ho9
      have r18:=hD.od hd9 3 18 _ rfl (by simp)
      have hM0:=hM
      have c9_0:=hM0.cellAt (b:=p) (cs:=#[.int .u64 b0,.int .u64 b1,.int .u64 b2]) (t:=24) (by simp) 2 _ rfl
      clear hM0
      refine wpOp_step rfl fun K hK=>?_
      go_simp
      exact hK _ _ ⟨rfl,hM⟩
     ·cases ho9
      have r15:=hD.od hd9 0 15 _ rfl (by simp)
      have r19:=hD.od hd9 4 19 _ rfl (by simp)
      refine wpOp_step rfl fun K hK=>?_
      go_simp
      go_wp2_with fail
      refine (H2 _).mono ?_
      rintro en w9 ⟨rfl,hb9⟩
      exact hK _ _ ⟨rfl,hM.kept hb9⟩
     ·cases ho9
      have r20:=hD.od hd9 5 20 _ rfl (by simp)
      refine wpOp_step rfl fun K hK=>?_
      go_simp
      exact hK _ _ ⟨rfl,hM⟩
    ·intro l9 W9 hl9 hM
     clear hS yk yl ym yn yo
     have hS:=hM
     clear hM
     simp only [Puts.lay,List.setIfInBounds_toArray,List.set_cons_zero,List.set_cons_succ]
     obtain ⟨⟨yp,yq,-⟩,⟨yr,ys,yt,-⟩,-⟩:=hS.cells
     go_wp2
     rw [rounds_succ]
     go_wp2
     go_ret
     exact ⟨rfl,hS.fr⟩)
theorem asked3_err1 (E F md c:Int) (p:Nat) (b0 b1 b2:Int) (H0:Tel 21 #[.agg #[.int .i64 E,.int .i64 F],.int .u64 b0] (.int .i64 c)) (hc:(c == (0:Int)) = false) (w:World) (hp:w.heap[p]? = some (.cells #[.int .u64 b0,.int .u64 b1,.int .u64 b2] 24 (0,0))) :
  Calls Tryz.prog 9 #[.agg #[.int .i64 E,.int .i64 F],.int .u8 md,.slice (some ⟨p,0,none⟩) 3 3] w fun e w'=>e = .returned (.int .i64 c)∧Below w.heap.size w w':=by
 go_enter Tryz.func9,Tryz.ntmps9
 have hS0:Fs w w [⟨p,#[.int .u64 b0,.int .u64 b1,.int .u64 b2],24⟩]:=⟨fun x hx=>by rcases List.mem_cons.1 hx with rfl|hx; exact hp; exact absurd hx List.not_mem_nil,Below.refl _ _⟩
 have hS:=hS0.alloc #[.int .i64 E,.int .i64 F] 23
 clear hS0 hp
 obtain ⟨⟨ya,yb,-⟩,⟨yc,yd,ye,-⟩,-⟩:=hS.cells
 go_wp2
 refine wp_loop_rounds 4 ?_
 rw [rounds_succ]
 go_wp2_with fail
 refine wp_region_any (by kernel_rfl) ?_
 refine wpAny_det [some (15,.agg #[.int .i64 E,.int .i64 F]),some (16,.slice (some ⟨p,0,none⟩) 3 3),some (17,.int .i64 0),some (18,.pointer (some ⟨p,0,none⟩)),some (19,.int .u64 b0),some (20,.int .i64 c),some (8,.int .i64 c)]
  (fun _ W9=>Fs w W9 [⟨w.heap.size,#[.int .i64 E,.int .i64 F],23⟩,⟨p,#[.int .u64 b0,.int .u64 b1,.int .u64 b2],24⟩]) _ _ rfl (by kernel_rfl) rfl rfl ?_ ?_ (hS).drew
 ·intro l9 t9 W9 i9 hD hi9 hl9 hM
  obtain ⟨o9,ho9,hd9⟩:=(mem_ready.1 hi9).2
  have hin9:i9 < 7:=by
   by_cases h:i9 < 7
   ·exact h
   ·rw [Array.getElem?_eq_none (by rw [hD.len]; simp; omega)] at hl9; cases hl9
  have hcase:i9 = 0∨i9 = 1∨i9 = 2∨i9 = 3∨i9 = 4∨i9 = 5∨i9 = 6:=by omega
  clear hin9
  rcases hcase with rfl|rfl|rfl|rfl|rfl|rfl|rfl
  ·cases ho9
   have r3:=hD.old 3 _ rfl rfl
   have hM0:=hM
   have Q_:=hM0.cellAt (b:=w.heap.size) (cs:=#[.int .i64 E,.int .i64 F]) (t:=23) (by simp)
   have c9_0:=Q_ 0 _ rfl
   have c9_1:=Q_ 1 _ rfl
   clear Q_
   clear hM0
   refine wpOp_step rfl fun K hK=>?_
   go_simp
   exact hK _ _ ⟨rfl,hM⟩
  ·cases ho9
   have r2:=hD.old 2 _ rfl rfl
   refine wpOp_step rfl fun K hK=>?_
   go_simp
   exact hK _ _ ⟨rfl,hM⟩
  ·cases ho9
   have r7:=hD.old 7 _ rfl rfl
   refine wpOp_step rfl fun K hK=>?_
   go_simp
   exact hK _ _ ⟨rfl,hM⟩
  ·cases ho9
   have r16:=hD.od hd9 1 16 _ rfl (by simp)
   have r17:=hD.od hd9 2 17 _ rfl (by simp)
   refine wpOp_step rfl fun K hK=>?_
   go_simp
   exact hK _ _ ⟨rfl,hM⟩
  ·cases ho9
   have r18:=hD.od hd9 3 18 _ rfl (by simp)
   have hM0:=hM
   have c9_0:=hM0.cellAt (b:=p) (cs:=#[.int .u64 b0,.int .u64 b1,.int .u64 b2]) (t:=24) (by simp) 0 _ rfl
   clear hM0
   refine wpOp_step rfl fun K hK=>?_
   go_simp
   exact hK _ _ ⟨rfl,hM⟩
  ·cases ho9
   have r15:=hD.od hd9 0 15 _ rfl (by simp)
   have r19:=hD.od hd9 4 19 _ rfl (by simp)
   refine wpOp_step rfl fun K hK=>?_
   go_simp
   go_wp2_with fail
   refine (H0 _).mono ?_
   rintro en w9 ⟨rfl,hb9⟩
   exact hK _ _ ⟨rfl,hM.kept hb9⟩
  ·cases ho9
   have r20:=hD.od hd9 5 20 _ rfl (by simp)
   refine wpOp_step rfl fun K hK=>?_
   go_simp
   exact hK _ _ ⟨rfl,hM⟩
 ·intro l9 W9 hl9 hM
  clear hS ya yb yc yd ye
  have hS:=hM
  clear hM
  simp only [Puts.lay,List.setIfInBounds_toArray,List.set_cons_zero,List.set_cons_succ]
  obtain ⟨⟨yf,yg,-⟩,⟨yh,yi,yj,-⟩,-⟩:=hS.cells
  go_wp2
  go_ret
  exact ⟨rfl,hS.fr⟩
theorem asked3_err2 (E F md c:Int) (p:Nat) (b0 b1 b2:Int) (H0:Tel 21 #[.agg #[.int .i64 E,.int .i64 F],.int .u64 b0] (.int .i64 0)) (H1:Tel 21 #[.agg #[.int .i64 E,.int .i64 F],.int .u64 b1] (.int .i64 c)) (hc:(c == (0:Int)) = false) (w:World) (hp:w.heap[p]? = some (.cells #[.int .u64 b0,.int .u64 b1,.int .u64 b2] 24 (0,0))) :
  Calls Tryz.prog 9 #[.agg #[.int .i64 E,.int .i64 F],.int .u8 md,.slice (some ⟨p,0,none⟩) 3 3] w fun e w'=>e = .returned (.int .i64 c)∧Below w.heap.size w w':=by
 go_enter Tryz.func9,Tryz.ntmps9
 have hS0:Fs w w [⟨p,#[.int .u64 b0,.int .u64 b1,.int .u64 b2],24⟩]:=⟨fun x hx=>by rcases List.mem_cons.1 hx with rfl|hx; exact hp; exact absurd hx List.not_mem_nil,Below.refl _ _⟩
 have hS:=hS0.alloc #[.int .i64 E,.int .i64 F] 23
 clear hS0 hp
 obtain ⟨⟨ya,yb,-⟩,⟨yc,yd,ye,-⟩,-⟩:=hS.cells
 go_wp2
 refine wp_loop_rounds 4 ?_
 rw [rounds_succ]
 go_wp2_with fail
 refine wp_region_any (by kernel_rfl) ?_
 refine wpAny_det [some (15,.agg #[.int .i64 E,.int .i64 F]),some (16,.slice (some ⟨p,0,none⟩) 3 3),some (17,.int .i64 0),some (18,.pointer (some ⟨p,0,none⟩)),some (19,.int .u64 b0),some (20,.int .i64 0),some (8,.int .i64 0)]
  (fun _ W9=>Fs w W9 [⟨w.heap.size,#[.int .i64 E,.int .i64 F],23⟩,⟨p,#[.int .u64 b0,.int .u64 b1,.int .u64 b2],24⟩]) _ _ rfl (by kernel_rfl) rfl rfl ?_ ?_ (hS).drew
 ·intro l9 t9 W9 i9 hD hi9 hl9 hM
  obtain ⟨o9,ho9,hd9⟩:=(mem_ready.1 hi9).2
  have hin9:i9 < 7:=by
   by_cases h:i9 < 7
   ·exact h
   ·rw [Array.getElem?_eq_none (by rw [hD.len]; simp; omega)] at hl9; cases hl9
  have hcase:i9 = 0∨i9 = 1∨i9 = 2∨i9 = 3∨i9 = 4∨i9 = 5∨i9 = 6:=by omega
  clear hin9
  rcases hcase with rfl|rfl|rfl|rfl|rfl|rfl|rfl
  ·cases ho9
   have r3:=hD.old 3 _ rfl rfl
   have hM0:=hM
   have Q_:=hM0.cellAt (b:=w.heap.size) (cs:=#[.int .i64 E,.int .i64 F]) (t:=23) (by simp)
   have c9_0:=Q_ 0 _ rfl
   have c9_1:=Q_ 1 _ rfl
   clear Q_
   clear hM0
   refine wpOp_step rfl fun K hK=>?_
   go_simp
   exact hK _ _ ⟨rfl,hM⟩
  ·cases ho9
   have r2:=hD.old 2 _ rfl rfl
   refine wpOp_step rfl fun K hK=>?_
   go_simp
   exact hK _ _ ⟨rfl,hM⟩
  ·cases ho9
   have r7:=hD.old 7 _ rfl rfl
   refine wpOp_step rfl fun K hK=>?_
   go_simp
   exact hK _ _ ⟨rfl,hM⟩
  ·cases ho9
   have r16:=hD.od hd9 1 16 _ rfl (by simp)
   have r17:=hD.od hd9 2 17 _ rfl (by simp)
   refine wpOp_step rfl fun K hK=>?_
   go_simp
   exact hK _ _ ⟨rfl,hM⟩
  ·cases ho9
   have r18:=hD.od hd9 3 18 _ rfl (by simp)
   have hM0:=hM
   have c9_0:=hM0.cellAt (b:=p) (cs:=#[.int .u64 b0,.int .u64 b1,.int .u64 b2]) (t:=24) (by simp) 0 _ rfl
   clear hM0
   refine wpOp_step rfl fun K hK=>?_
   go_simp
   exact hK _ _ ⟨rfl,hM⟩
  ·cases ho9
   have r15:=hD.od hd9 0 15 _ rfl (by simp)
   have r19:=hD.od hd9 4 19 _ rfl (by simp)
   refine wpOp_step rfl fun K hK=>?_
   go_simp
   go_wp2_with fail
   refine (H0 _).mono ?_
   rintro en w9 ⟨rfl,hb9⟩
   exact hK _ _ ⟨rfl,hM.kept hb9⟩
  ·cases ho9
   have r20:=hD.od hd9 5 20 _ rfl (by simp)
   refine wpOp_step rfl fun K hK=>?_
   go_simp
   exact hK _ _ ⟨rfl,hM⟩
 ·intro l9 W9 hl9 hM
  clear hS ya yb yc yd ye
  have hS:=hM
  clear hM
  simp only [Puts.lay,List.setIfInBounds_toArray,List.set_cons_zero,List.set_cons_succ]
  obtain ⟨⟨yf,yg,-⟩,⟨yh,yi,yj,-⟩,-⟩:=hS.cells
  go_wp2
  rw [rounds_succ]
  go_wp2_with fail
  refine wp_region_any (by kernel_rfl) ?_
  refine wpAny_det [some (15,.agg #[.int .i64 E,.int .i64 F]),some (16,.slice (some ⟨p,0,none⟩) 3 3),some (17,.int .i64 1),some (18,.pointer (some ⟨p,1,none⟩)),some (19,.int .u64 b1),some (20,.int .i64 c),some (8,.int .i64 c)]
   (fun _ W9=>Fs w W9 [⟨w.heap.size,#[.int .i64 E,.int .i64 F],23⟩,⟨p,#[.int .u64 b0,.int .u64 b1,.int .u64 b2],24⟩]) _ _ rfl (by kernel_rfl) rfl rfl ?_ ?_ (hS).drew
  ·intro l9 t9 W9 i9 hD hi9 hl9 hM
   obtain ⟨o9,ho9,hd9⟩:=(mem_ready.1 hi9).2
   have hin9:i9 < 7:=by
    by_cases h:i9 < 7
    ·exact h
    ·rw [Array.getElem?_eq_none (by rw [hD.len]; simp; omega)] at hl9; cases hl9
   have hcase:i9 = 0∨i9 = 1∨i9 = 2∨i9 = 3∨i9 = 4∨i9 = 5∨i9 = 6:=by omega
   clear hin9
   rcases hcase with rfl|rfl|rfl|rfl|rfl|rfl|rfl
   ·cases ho9
    have r3:=hD.old 3 _ rfl rfl
    have hM0:=hM
    have Q_:=hM0.cellAt (b:=w.heap.size) (cs:=#[.int .i64 E,.int .i64 F]) (t:=23) (by simp)
    have c9_0:=Q_ 0 _ rfl
    have c9_1:=Q_ 1 _ rfl
    clear Q_
    clear hM0
    refine wpOp_step rfl fun K hK=>?_
    go_simp
    exact hK _ _ ⟨rfl,hM⟩
   ·cases ho9
    have r2:=hD.old 2 _ rfl rfl
    refine wpOp_step rfl fun K hK=>?_
    go_simp
    exact hK _ _ ⟨rfl,hM⟩
   ·cases ho9
    have r7:=hD.old 7 _ rfl rfl
    refine wpOp_step rfl fun K hK=>?_
    go_simp
    exact hK _ _ ⟨rfl,hM⟩
   ·cases ho9
    have r16:=hD.od hd9 1 16 _ rfl (by simp)
    have r17:=hD.od hd9 2 17 _ rfl (by simp)
    refine wpOp_step rfl fun K hK=>?_
    go_simp
    exact hK _ _ ⟨rfl,hM⟩
   ·cases ho9
    have r18:=hD.od hd9 3 18 _ rfl (by simp)
    have hM0:=hM
    have c9_0:=hM0.cellAt (b:=p) (cs:=#[.int .u64 b0,.int .u64 b1,.int .u64 b2]) (t:=24) (by simp) 1 _ rfl
    clear hM0
    refine wpOp_step rfl fun K hK=>?_
    go_simp
    exact hK _ _ ⟨rfl,hM⟩
   ·cases ho9
    have r15:=hD.od hd9 0 15 _ rfl (by simp)
    have r19:=hD.od hd9 4 19 _ rfl (by simp)
    refine wpOp_step rfl fun K hK=>?_
    go_simp
    go_wp2_with fail
    refine (H1 _).mono ?_
    rintro en w9 ⟨rfl,hb9⟩
    exact hK _ _ ⟨rfl,hM.kept hb9⟩
   ·cases ho9
    have r20:=hD.od hd9 5 20 _ rfl (by simp)
    refine wpOp_step rfl fun K hK=>?_
    go_simp
    exact hK _ _ ⟨rfl,hM⟩
  ·intro l9 W9 hl9 hM
   clear hS yf yg yh yi yj
   have hS:=hM
   clear hM
   simp only [Puts.lay,List.setIfInBounds_toArray,List.set_cons_zero,List.set_cons_succ]
   obtain ⟨⟨yk,yl,-⟩,⟨ym,yn,yo,-⟩,-⟩:=hS.cells
   go_wp2
   go_ret
   exact ⟨rfl,hS.fr⟩
theorem asked3_err3 (E F md c:Int) (p:Nat) (b0 b1 b2:Int) (H0:Tel 21 #[.agg #[.int .i64 E,.int .i64 F],.int .u64 b0] (.int .i64 0)) (H1:Tel 21 #[.agg #[.int .i64 E,.int .i64 F],.int .u64 b1] (.int .i64 0)) (H2:Tel 21 #[.agg #[.int .i64 E,.int .i64 F],.int .u64 b2] (.int .i64 c)) (hc:(c == (0:Int)) = false) (w:World) (hp:w.heap[p]? = some (.cells #[.int .u64 b0,.int .u64 b1,.int .u64 b2] 24 (0,0))) :
  Calls Tryz.prog 9 #[.agg #[.int .i64 E,.int .i64 F],.int .u8 md,.slice (some ⟨p,0,none⟩) 3 3] w fun e w'=>e = .returned (.int .i64 c)∧Below w.heap.size w w':=by
 go_enter Tryz.func9,Tryz.ntmps9
 have hS0:Fs w w [⟨p,#[.int .u64 b0,.int .u64 b1,.int .u64 b2],24⟩]:=⟨fun x hx=>by rcases List.mem_cons.1 hx with rfl|hx; exact hp; exact absurd hx List.not_mem_nil,Below.refl _ _⟩
 have hS:=hS0.alloc #[.int .i64 E,.int .i64 F] 23
 clear hS0 hp
 obtain ⟨⟨ya,yb,-⟩,⟨yc,yd,ye,-⟩,-⟩:=hS.cells
 go_wp2
 refine wp_loop_rounds 4 ?_
 rw [rounds_succ]
 go_wp2_with fail
 refine wp_region_any (by kernel_rfl) ?_
 refine wpAny_det [some (15,.agg #[.int .i64 E,.int .i64 F]),some (16,.slice (some ⟨p,0,none⟩) 3 3),some (17,.int .i64 0),some (18,.pointer (some ⟨p,0,none⟩)),some (19,.int .u64 b0),some (20,.int .i64 0),some (8,.int .i64 0)]
  (fun _ W9=>Fs w W9 [⟨w.heap.size,#[.int .i64 E,.int .i64 F],23⟩,⟨p,#[.int .u64 b0,.int .u64 b1,.int .u64 b2],24⟩]) _ _ rfl (by kernel_rfl) rfl rfl ?_ ?_ (hS).drew
 ·intro l9 t9 W9 i9 hD hi9 hl9 hM
  obtain ⟨o9,ho9,hd9⟩:=(mem_ready.1 hi9).2
  have hin9:i9 < 7:=by
   by_cases h:i9 < 7
   ·exact h
   ·rw [Array.getElem?_eq_none (by rw [hD.len]; simp; omega)] at hl9; cases hl9
  have hcase:i9 = 0∨i9 = 1∨i9 = 2∨i9 = 3∨i9 = 4∨i9 = 5∨i9 = 6:=by omega
  clear hin9
  rcases hcase with rfl|rfl|rfl|rfl|rfl|rfl|rfl
  ·cases ho9
   have r3:=hD.old 3 _ rfl rfl
   have hM0:=hM
   have Q_:=hM0.cellAt (b:=w.heap.size) (cs:=#[.int .i64 E,.int .i64 F]) (t:=23) (by simp)
   have c9_0:=Q_ 0 _ rfl
   have c9_1:=Q_ 1 _ rfl
   clear Q_
   clear hM0
   refine wpOp_step rfl fun K hK=>?_
   go_simp
   exact hK _ _ ⟨rfl,hM⟩
  ·cases ho9
   have r2:=hD.old 2 _ rfl rfl
   refine wpOp_step rfl fun K hK=>?_
   go_simp
   exact hK _ _ ⟨rfl,hM⟩
  ·cases ho9
   have r7:=hD.old 7 _ rfl rfl
   refine wpOp_step rfl fun K hK=>?_
   go_simp
   exact hK _ _ ⟨rfl,hM⟩
  ·cases ho9
   have r16:=hD.od hd9 1 16 _ rfl (by simp)
   have r17:=hD.od hd9 2 17 _ rfl (by simp)
   refine wpOp_step rfl fun K hK=>?_
   go_simp
   exact hK _ _ ⟨rfl,hM⟩
  ·cases ho9
   have r18:=hD.od hd9 3 18 _ rfl (by simp)
   have hM0:=hM
   have c9_0:=hM0.cellAt (b:=p) (cs:=#[.int .u64 b0,.int .u64 b1,.int .u64 b2]) (t:=24) (by simp) 0 _ rfl
   clear hM0
   refine wpOp_step rfl fun K hK=>?_
   go_simp
   exact hK _ _ ⟨rfl,hM⟩
  ·cases ho9
   have r15:=hD.od hd9 0 15 _ rfl (by simp)
   have r19:=hD.od hd9 4 19 _ rfl (by simp)
   refine wpOp_step rfl fun K hK=>?_
   go_simp
   go_wp2_with fail
   refine (H0 _).mono ?_
   rintro en w9 ⟨rfl,hb9⟩
   exact hK _ _ ⟨rfl,hM.kept hb9⟩
  ·cases ho9
   have r20:=hD.od hd9 5 20 _ rfl (by simp)
   refine wpOp_step rfl fun K hK=>?_
   go_simp
   exact hK _ _ ⟨rfl,hM⟩
 ·intro l9 W9 hl9 hM
  clear hS ya yb yc yd ye
  have hS:=hM
  clear hM
  simp only [Puts.lay,List.setIfInBounds_toArray,List.set_cons_zero,List.set_cons_succ]
  obtain ⟨⟨yf,yg,-⟩,⟨yh,yi,yj,-⟩,-⟩:=hS.cells
  go_wp2
  rw [rounds_succ]
  go_wp2_with fail
  refine wp_region_any (by kernel_rfl) ?_
  refine wpAny_det [some (15,.agg #[.int .i64 E,.int .i64 F]),some (16,.slice (some ⟨p,0,none⟩) 3 3),some (17,.int .i64 1),some (18,.pointer (some ⟨p,1,none⟩)),some (19,.int .u64 b1),some (20,.int .i64 0),some (8,.int .i64 0)]
   (fun _ W9=>Fs w W9 [⟨w.heap.size,#[.int .i64 E,.int .i64 F],23⟩,⟨p,#[.int .u64 b0,.int .u64 b1,.int .u64 b2],24⟩]) _ _ rfl (by kernel_rfl) rfl rfl ?_ ?_ (hS).drew
  ·intro l9 t9 W9 i9 hD hi9 hl9 hM
   obtain ⟨o9,ho9,hd9⟩:=(mem_ready.1 hi9).2
   have hin9:i9 < 7:=by
    by_cases h:i9 < 7
    ·exact h
    ·rw [Array.getElem?_eq_none (by rw [hD.len]; simp; omega)] at hl9; cases hl9
   have hcase:i9 = 0∨i9 = 1∨i9 = 2∨i9 = 3∨i9 = 4∨i9 = 5∨i9 = 6:=by omega
   clear hin9
   rcases hcase with rfl|rfl|rfl|rfl|rfl|rfl|rfl
   ·cases ho9
    have r3:=hD.old 3 _ rfl rfl
    have hM0:=hM
    have Q_:=hM0.cellAt (b:=w.heap.size) (cs:=#[.int .i64 E,.int .i64 F]) (t:=23) (by simp)
    have c9_0:=Q_ 0 _ rfl
    have c9_1:=Q_ 1 _ rfl
    clear Q_
    clear hM0
    refine wpOp_step rfl fun K hK=>?_
    go_simp
    exact hK _ _ ⟨rfl,hM⟩
   ·cases ho9
    have r2:=hD.old 2 _ rfl rfl
    refine wpOp_step rfl fun K hK=>?_
    go_simp
    exact hK _ _ ⟨rfl,hM⟩
   ·cases ho9
    have r7:=hD.old 7 _ rfl rfl
    refine wpOp_step rfl fun K hK=>?_
    go_simp
    exact hK _ _ ⟨rfl,hM⟩
   ·cases ho9
    have r16:=hD.od hd9 1 16 _ rfl (by simp)
    have r17:=hD.od hd9 2 17 _ rfl (by simp)
    refine wpOp_step rfl fun K hK=>?_
    go_simp
    exact hK _ _ ⟨rfl,hM⟩
   ·cases ho9
    have r18:=hD.od hd9 3 18 _ rfl (by simp)
    have hM0:=hM
    have c9_0:=hM0.cellAt (b:=p) (cs:=#[.int .u64 b0,.int .u64 b1,.int .u64 b2]) (t:=24) (by simp) 1 _ rfl
    clear hM0
    refine wpOp_step rfl fun K hK=>?_
    go_simp
    exact hK _ _ ⟨rfl,hM⟩
   ·cases ho9
    have r15:=hD.od hd9 0 15 _ rfl (by simp)
    have r19:=hD.od hd9 4 19 _ rfl (by simp)
    refine wpOp_step rfl fun K hK=>?_
    go_simp
    go_wp2_with fail
    refine (H1 _).mono ?_
    rintro en w9 ⟨rfl,hb9⟩
    exact hK _ _ ⟨rfl,hM.kept hb9⟩
   ·cases ho9
    have r20:=hD.od hd9 5 20 _ rfl (by simp)
    refine wpOp_step rfl fun K hK=>?_
    go_simp
    exact hK _ _ ⟨rfl,hM⟩
  ·intro l9 W9 hl9 hM
   clear hS yf yg yh yi yj
   have hS:=hM
   clear hM
   simp only [Puts.lay,List.setIfInBounds_toArray,List.set_cons_zero,List.set_cons_succ]
   obtain ⟨⟨yk,yl,-⟩,⟨ym,yn,yo,-⟩,-⟩:=hS.cells
   go_wp2
   rw [rounds_succ]
   go_wp2_with fail
   refine wp_region_any (by kernel_rfl) ?_
   refine wpAny_det [some (15,.agg #[.int .i64 E,.int .i64 F]),some (16,.slice (some ⟨p,0,none⟩) 3 3),some (17,.int .i64 2),some (18,.pointer (some ⟨p,2,none⟩)),some (19,.int .u64 b2),some (20,.int .i64 c),some (8,.int .i64 c)]
    (fun _ W9=>Fs w W9 [⟨w.heap.size,#[.int .i64 E,.int .i64 F],23⟩,⟨p,#[.int .u64 b0,.int .u64 b1,.int .u64 b2],24⟩]) _ _ rfl (by kernel_rfl) rfl rfl ?_ ?_ (hS).drew
   ·intro l9 t9 W9 i9 hD hi9 hl9 hM
    obtain ⟨o9,ho9,hd9⟩:=(mem_ready.1 hi9).2
    have hin9:i9 < 7:=by
     by_cases h:i9 < 7
     ·exact h
     ·rw [Array.getElem?_eq_none (by rw [hD.len]; simp; omega)] at hl9; cases hl9
    have hcase:i9 = 0∨i9 = 1∨i9 = 2∨i9 = 3∨i9 = 4∨i9 = 5∨i9 = 6:=by omega
    clear hin9
    rcases hcase with rfl|rfl|rfl|rfl|rfl|rfl|rfl
    ·cases ho9
     have r3:=hD.old 3 _ rfl rfl
     have hM0:=hM
     have Q_:=hM0.cellAt (b:=w.heap.size) (cs:=#[.int .i64 E,.int .i64 F]) (t:=23) (by simp)
     have c9_0:=Q_ 0 _ rfl
     have c9_1:=Q_ 1 _ rfl
     clear Q_
     clear hM0
     refine wpOp_step rfl fun K hK=>?_
     go_simp
     exact hK _ _ ⟨rfl,hM⟩
    ·cases ho9
     have r2:=hD.old 2 _ rfl rfl
     refine wpOp_step rfl fun K hK=>?_
     go_simp
     exact hK _ _ ⟨rfl,hM⟩
    ·cases ho9
     have r7:=hD.old 7 _ rfl rfl
     refine wpOp_step rfl fun K hK=>?_
     go_simp
     exact hK _ _ ⟨rfl,hM⟩
    ·cases ho9
     have r16:=hD.od hd9 1 16 _ rfl (by simp)
     have r17:=hD.od hd9 2 17 _ rfl (by simp)
     refine wpOp_step rfl fun K hK=>?_
     go_simp
     exact hK _ _ ⟨rfl,hM⟩
    ·cases ho9
     have r18:=hD.od hd9 3 18 _ rfl (by simp)
     have hM0:=hM
     have c9_0:=hM0.cellAt (b:=p) (cs:=#[.int .u64 b0,.int .u64 b1,.int .u64 b2]) (t:=24) (by simp) 2 _ rfl
     clear hM0
     refine wpOp_step rfl fun K hK=>?_
     go_simp
     exact hK _ _ ⟨rfl,hM⟩
    ·cases ho9
     have r15:=hD.od hd9 0 15 _ rfl (by simp)
     have r19:=hD.od hd9 4 19 _ rfl (by simp)
     refine wpOp_step rfl fun K hK=>?_
     go_simp
     go_wp2_with fail
     refine (H2 _).mono ?_
     rintro en w9 ⟨rfl,hb9⟩
     exact hK _ _ ⟨rfl,hM.kept hb9⟩
    ·cases ho9
     have r20:=hD.od hd9 5 20 _ rfl (by simp)
     refine wpOp_step rfl fun K hK=>?_
     go_simp
     exact hK _ _ ⟨rfl,hM⟩
   ·intro l9 W9 hl9 hM
    clear hS yk yl ym yn yo
    have hS:=hM
    clear hM
    simp only [Puts.lay,List.setIfInBounds_toArray,List.set_cons_zero,List.set_cons_succ]
    obtain ⟨⟨yp,yq,-⟩,⟨yr,ys,yt,-⟩,-⟩:=hS.cells
    go_wp2
    go_ret
    exact ⟨rfl,hS.fr⟩
theorem xFma_err1 (E F a b d md:Int) (c:Int) (hc:(c == (0:Int)) = false) (H0:Tel 21 #[.agg #[.int .i64 E,.int .i64 F],.int .u64 a] (.int .i64 c)) (w:World)  :
  Calls Tryz.prog 6 #[.agg #[.int .i64 E,.int .i64 F],.int .u64 a,.int .u64 b,.int .u64 d,.int .u8 md] w fun e w'=>e = .returned (.tuple #[.int .u64 0,.int .u8 0,.int .i64 c])∧Below w.heap.size w w':=by
 go_enter Tryz.func6,Tryz.ntmps6
 go_wp2_with fail
 refine (asked3_err1 E F md c _ a b d H0 hc _ (by have:=heap_alloc_new (w.alloc (.cells #[.int .i64 E,.int .i64 F] 23)) (.cells #[.int .u64 a,.int .u64 b,.int .u64 d] 24); simpa only [World.size_alloc] using this)).mono ?_
 rintro e w1 ⟨rfl,hb1⟩
 have hS:Fs w (w.alloc (.cells #[.int .i64 E,.int .i64 F] 23)) [⟨w.heap.size,#[.int .i64 E,.int .i64 F],23⟩]:=Fs.one w _ _
 replace hS:=((hS.alloc #[.int .u64 a,.int .u64 b,.int .u64 d] 24).kept hb1).sub (fun x hx=>List.mem_cons_of_mem _ hx)
 obtain ⟨⟨ya,yb,-⟩,-⟩:=hS.cells
 go_wp2
 go_ret3
 exact ⟨rfl,hS.fr⟩
theorem xFma_err2 (E F a b d md:Int) (c:Int) (hc:(c == (0:Int)) = false) (H0:Tel 21 #[.agg #[.int .i64 E,.int .i64 F],.int .u64 a] (.int .i64 0)) (H1:Tel 21 #[.agg #[.int .i64 E,.int .i64 F],.int .u64 b] (.int .i64 c)) (w:World)  :
  Calls Tryz.prog 6 #[.agg #[.int .i64 E,.int .i64 F],.int .u64 a,.int .u64 b,.int .u64 d,.int .u8 md] w fun e w'=>e = .returned (.tuple #[.int .u64 0,.int .u8 0,.int .i64 c])∧Below w.heap.size w w':=by
 go_enter Tryz.func6,Tryz.ntmps6
 go_wp2_with fail
 refine (asked3_err2 E F md c _ a b d H0 H1 hc _ (by have:=heap_alloc_new (w.alloc (.cells #[.int .i64 E,.int .i64 F] 23)) (.cells #[.int .u64 a,.int .u64 b,.int .u64 d] 24); simpa only [World.size_alloc] using this)).mono ?_
 rintro e w1 ⟨rfl,hb1⟩
 have hS:Fs w (w.alloc (.cells #[.int .i64 E,.int .i64 F] 23)) [⟨w.heap.size,#[.int .i64 E,.int .i64 F],23⟩]:=Fs.one w _ _
 replace hS:=((hS.alloc #[.int .u64 a,.int .u64 b,.int .u64 d] 24).kept hb1).sub (fun x hx=>List.mem_cons_of_mem _ hx)
 obtain ⟨⟨ya,yb,-⟩,-⟩:=hS.cells
 go_wp2
 go_ret3
 exact ⟨rfl,hS.fr⟩
theorem xFma_err3 (E F a b d md:Int) (c:Int) (hc:(c == (0:Int)) = false) (H0:Tel 21 #[.agg #[.int .i64 E,.int .i64 F],.int .u64 a] (.int .i64 0)) (H1:Tel 21 #[.agg #[.int .i64 E,.int .i64 F],.int .u64 b] (.int .i64 0)) (H2:Tel 21 #[.agg #[.int .i64 E,.int .i64 F],.int .u64 d] (.int .i64 c)) (w:World)  :
  Calls Tryz.prog 6 #[.agg #[.int .i64 E,.int .i64 F],.int .u64 a,.int .u64 b,.int .u64 d,.int .u8 md] w fun e w'=>e = .returned (.tuple #[.int .u64 0,.int .u8 0,.int .i64 c])∧Below w.heap.size w w':=by
 go_enter Tryz.func6,Tryz.ntmps6
 go_wp2_with fail
 refine (asked3_err3 E F md c _ a b d H0 H1 H2 hc _ (by have:=heap_alloc_new (w.alloc (.cells #[.int .i64 E,.int .i64 F] 23)) (.cells #[.int .u64 a,.int .u64 b,.int .u64 d] 24); simpa only [World.size_alloc] using this)).mono ?_
 rintro e w1 ⟨rfl,hb1⟩
 have hS:Fs w (w.alloc (.cells #[.int .i64 E,.int .i64 F] 23)) [⟨w.heap.size,#[.int .i64 E,.int .i64 F],23⟩]:=Fs.one w _ _
 replace hS:=((hS.alloc #[.int .u64 a,.int .u64 b,.int .u64 d] 24).kept hb1).sub (fun x hx=>List.mem_cons_of_mem _ hx)
 obtain ⟨⟨ya,yb,-⟩,-⟩:=hS.cells
 go_wp2
 go_ret3
 exact ⟨rfl,hS.fr⟩
theorem xFma_mode (E F a b d md:Int) (H0:Tel 21 #[.agg #[.int .i64 E,.int .i64 F],.int .u64 a] (.int .i64 0)) (H1:Tel 21 #[.agg #[.int .i64 E,.int .i64 F],.int .u64 b] (.int .i64 0)) (H2:Tel 21 #[.agg #[.int .i64 E,.int .i64 F],.int .u64 d] (.int .i64 0)) (hm:(4:Int) < md) (w:World)  :
  Calls Tryz.prog 6 #[.agg #[.int .i64 E,.int .i64 F],.int .u64 a,.int .u64 b,.int .u64 d,.int .u8 md] w fun e w'=>e = .returned (.tuple #[.int .u64 0,.int .u8 0,.int .i64 7])∧Below w.heap.size w w':=by
 go_enter Tryz.func6,Tryz.ntmps6
 go_wp2_with fail
 refine (asked3_2.2 E F md _ a b d H0 H1 H2 hm _ (by have:=heap_alloc_new (w.alloc (.cells #[.int .i64 E,.int .i64 F] 23)) (.cells #[.int .u64 a,.int .u64 b,.int .u64 d] 24); simpa only [World.size_alloc] using this)).mono ?_
 rintro e w1 ⟨rfl,hb1⟩
 have hS:Fs w (w.alloc (.cells #[.int .i64 E,.int .i64 F] 23)) [⟨w.heap.size,#[.int .i64 E,.int .i64 F],23⟩]:=Fs.one w _ _
 replace hS:=((hS.alloc #[.int .u64 a,.int .u64 b,.int .u64 d] 24).kept hb1).sub (fun x hx=>List.mem_cons_of_mem _ hx)
 obtain ⟨⟨ya,yb,-⟩,-⟩:=hS.cells
 go_wp2
 go_ret3
 exact ⟨rfl,hS.fr⟩
end Go.Proofs.YtfimakkpdjppfaaGreatDoor
