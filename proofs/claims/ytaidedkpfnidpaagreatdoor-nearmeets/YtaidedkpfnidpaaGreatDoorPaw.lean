/- Of what NearMeetsRow stands on: ExAddS ExAdd ExCopy ExAddR. -/
import Derived.Test.YtaidedkpfnidpaaGreatDoorPau
import Derived.Test.YtaidedkpfnidpaaGreatDoorPav
import Derived.Test.YtaidedkpfnidpaaGreatDoorPao
import Derived.Test.YtaidedkpfnidpaaGreatDoorPae
import Derived.Test.YtaidedkpfnidpaaGreatDoorPad
import Derived.Test.YtaidedkpfnidpaaGreatDoorPaq
namespace Go.Proofs.YtaidedkpfnidpaaGreatDoor
open Go.RowKit
set_option maxHeartbeats 2000000
theorem add_fits (a a':Option Addr) (n n' cap cap' m m':Nat) (w:World) (h:Num w a n m) (h':Num w a' n' m') (hno:¬ Over (m+m')) :
  Calls Tryz.prog 148 #[.agg #[.slice a n cap],.agg #[.slice a' n' cap']] w fun e w'=>(∃ a n c,e = .returned (.tuple #[.agg #[.slice a n c],.int .i64 0])∧Mine w' w.heap.size a n c (m+m'))∧Below w.heap.size w w':=by
 refine (add_any a a' n n' cap cap' m m' w h h').mono ?_
 rintro e w' ⟨h1|h1,hb⟩
 ·exact ⟨h1,hb⟩
 ·exact absurd h1.2 hno
theorem dsub_ge (a a':Option Addr) (n n' cap cap' m m':Nat) (w:World) (h:Num w a n m) (h':Num w a' n' m') (hle:m'≤m) :
  Calls Tryz.prog 150 #[.agg #[.slice a n cap],.agg #[.slice a' n' cap']] w fun e w'=>(∃ a n c,e = .returned (.tuple #[.agg #[.slice a n c],.bool true,.int .i64 0])∧Mine w' w.heap.size a n c (m - m'))∧Below w.heap.size w w':=by
 refine (sub_any a a' n n' cap cap' m m' w h h').mono ?_
 rintro e w' ⟨⟨h1,_⟩|⟨_,h1⟩,hb⟩
 ·omega
 ·exact ⟨h1,hb⟩
theorem dsub_lt (a a':Option Addr) (n n' cap cap' m m':Nat) (w:World) (h:Num w a n m) (h':Num w a' n' m') (hlt:m < m') :
  Calls Tryz.prog 150 #[.agg #[.slice a n cap],.agg #[.slice a' n' cap']] w fun e w'=>e = .returned (.tuple #[.agg #[.slice none 0 0],.bool false,.int .i64 0])∧Below w.heap.size w w':=by
 refine (sub_any a a' n n' cap cap' m m' w h h').mono ?_
 rintro e w' ⟨⟨_,h1⟩|⟨h1,_⟩,hb⟩
 ·exact ⟨h1,hb⟩
 ·omega
theorem st_mine2 {base:Nat} (a:Option Addr) (n c m:Nat):St base (fun W=>Mine W base a n c m):=st_mine base a n c m
theorem addS_same (s:Bool) (a:Option Addr) (n cap m:Nat) (a':Option Addr) (n' cap' m':Nat) (w:World) (h:Num w a n m) (h':Num w a' n' m') (hno:¬ Over (m+m')) :
  Calls Tryz.prog 162 #[.bool s,.agg #[.slice a n cap],.bool s,.agg #[.slice a' n' cap']] w fun e w'=>(∃ A N C,e = .returned (.tuple #[.bool s,.agg #[.slice A N C],.int .i64 0])∧Mine w' w.heap.size A N C (m+m'))∧Below w.heap.size w w':=by
 have H:=hide h
 have H':=hide h'
 have HO:=hide hno
 clear h h' hno
 go_enter Tryz.func162,Tryz.ntmps162
 go_wp2_with fail
 refine (add_fits a a' n n' cap cap' m m' _ ((((unhide H).alloc _).alloc _).alloc _) ((((unhide H').alloc _).alloc _).alloc _) (unhide HO)).mono ?_
 rintro e w1 ⟨⟨A1,N1,C1,rfl,f1⟩,hb1⟩
 have hS:=(Fs.three w _ _ _ _ _ _).kept hb1
 obtain ⟨⟨ya,-⟩,⟨yb,-⟩,⟨yc,-⟩,-⟩:=hS.cells
 have F1:=hide (f1.mono (base':=w.heap.size+3) (by simp))
 clear f1
 have hltw1_0:w.heap.size < w1.heap.size:=hS.lt 0 rfl
 have hltw1_1:w.heap.size+1 < w1.heap.size:=hS.lt 1 rfl
 have hltw1_2:w.heap.size+2 < w1.heap.size:=hS.lt 2 rfl
 have hltR:w.heap.size+3≤w1.heap.size:=hltw1_2
 replace hS:=hS.alloc #[.slice A1 N1 C1] 27
 replace F1:=hide ((unhide F1).alloc (.cells #[.slice A1 N1 C1] 27))
 go_wp2_with fail
 have hS3s:w.heap.size≤(w1.alloc (.cells #[.slice A1 N1 C1] 27)).heap.size:=hS.size
 have hs9:∀ x9:Nat×(Pk→World→Prop),x9∈([(6,fun _ W=>Mine W (w.heap.size+3) A1 N1 C1 (m+m'))]:List (Nat×(Pk→World→Prop)))→∀ q9:Pk,St (w.heap.size+3) (x9.2 q9):=by
  intro x hx q
  simp only [List.mem_cons,List.not_mem_nil,or_false] at hx
  rcases hx with rfl
  ·exact st_mine2 _ _ _ _
 have h09:∀ x9:Nat×(Pk→World→Prop),x9∈([(6,fun _ W=>Mine W (w.heap.size+3) A1 N1 C1 (m+m'))]:List (Nat×(Pk→World→Prop)))→6≤x9.1→x9.2 ⟨none,0,0⟩ (w1.alloc (.cells #[.slice A1 N1 C1] 27)):=by
  intro x hx hn9
  simp only [List.mem_cons,List.not_mem_nil,or_false] at hx
  rcases hx with rfl
  ·exact unhide F1
 refine wp_region_any (by kernel_rfl) ?_
 refine wpAny_pick (fun p9=>[some (28,.bool s),some (29,.agg #[.slice A1 N1 C1]),some (30,.int .i64 0),some (8,.bool s),none,some (10,.int .i64 0)])
  (fun p9 l9 W9=>Pm w (w.heap.size+3) [(6,fun _ W=>Mine W (w.heap.size+3) A1 N1 C1 (m+m'))] p9 l9 W9 (pickBs l9 [(4,[⟨w1.heap.size,#[.slice A1 N1 C1],27⟩,⟨w.heap.size,#[.slice a n cap],27⟩,⟨w.heap.size+1,#[.slice a' n' cap'],27⟩,⟨w.heap.size+2,#[.slice A1 N1 C1],27⟩])] [⟨w1.heap.size,#[.slice A1 N1 C1],27⟩,⟨w.heap.size,#[.slice a n cap],27⟩,⟨w.heap.size+1,#[.slice a' n' cap'],27⟩,⟨w.heap.size+2,#[.slice none 0 0],27⟩])) _ _ (fun _=>rfl) (by kernel_rfl) (fun _=>rfl) (fun _=>rfl) ?_ ?_ (fun _=>⟨none,0,0⟩) (Pm.start2 hS _ _ _ (by simp; omega) hs9 h09)
 ·intro p9 l9 t9 W9 i9 hD hi9 hl9 hM
  obtain ⟨o9,ho9,hd9⟩:=(mem_ready.1 hi9).2
  have hin9:i9 < 6:=by
   by_cases h:i9 < 6
   ·exact h
   ·rw [Array.getElem?_eq_none (by rw [hD.len]; simp; omega)] at hl9; cases hl9
  have hcase:i9 = 0∨i9 = 1∨i9 = 2∨i9 = 3∨i9 = 4∨i9 = 5:=by omega
  clear hin9
  rcases hcase with rfl|rfl|rfl|rfl|rfl|rfl
  ·cases ho9
   have r0:=hD.old 0 _ rfl rfl
   refine wpOp_step rfl fun K hK=>?_
   go_simp
   exact hK _ _ ⟨p9,fun _ _=>rfl,rfl,(Pm.keepM rfl (hM.val rfl))⟩
  ·cases ho9
   have r11:=hD.old 11 _ rfl rfl
   have hM0:Fs w W9 [⟨w1.heap.size,#[.slice A1 N1 C1],27⟩,⟨w.heap.size,#[.slice a n cap],27⟩,⟨w.heap.size+1,#[.slice a' n' cap'],27⟩,⟨w.heap.size+2,#[.slice none 0 0],27⟩]:=by
    have hM1:=hM.st
    simp only [pickBs] at hM1
    rw [if_neg (hD.waits 1 4 _ ⟨1,.data⟩ hl9 rfl (by simp) rfl rfl)] at hM1
    exact hM1
   have c9_0:=hM0.cellAt (b:=w1.heap.size) (cs:=#[.slice A1 N1 C1]) (t:=27) (by simp) 0 _ rfl
   clear hM0
   refine wpOp_step rfl fun K hK=>?_
   go_simp
   exact hK _ _ ⟨p9,fun _ _=>rfl,rfl,(Pm.keepM rfl (hM.val rfl))⟩
  ·cases ho9
   have r12:=hD.old 12 _ rfl rfl
   refine wpOp_step rfl fun K hK=>?_
   go_simp
   exact hK _ _ ⟨p9,fun _ _=>rfl,rfl,(Pm.keepM rfl (hM.val rfl))⟩
  ·cases ho9
   have r28:=hD.od hd9 0 28 _ rfl (by simp)
   refine wpOp_step rfl fun K hK=>?_
   go_simp
   exact hK _ _ ⟨p9,fun _ _=>rfl,rfl,(Pm.keepM rfl (hM.val rfl))⟩
  ·cases ho9
   have r9:=hD.old 9 _ rfl rfl
   have r29:=hD.od hd9 1 29 _ rfl (by simp)
   have hM0:Fs w W9 [⟨w1.heap.size,#[.slice A1 N1 C1],27⟩,⟨w.heap.size,#[.slice a n cap],27⟩,⟨w.heap.size+1,#[.slice a' n' cap'],27⟩,⟨w.heap.size+2,#[.slice none 0 0],27⟩]:=by
    have hM1:=hM.st
    simp only [pickBs] at hM1
    rw [if_neg (by rw [hl9]; simp)] at hM1
    exact hM1
   have c9_0:=hM0.cellAt (b:=w.heap.size+2) (cs:=#[.slice none 0 0]) (t:=27) (by simp) 0 _ rfl
   have z9_0:=hM0.frozen (b:=w.heap.size+2) (cs:=#[.slice none 0 0]) (t:=27) (by simp) 0
   refine wpOp_step rfl fun K hK=>?_
   go_simp
   exact hK _ _ ⟨p9,fun _ _=>rfl,rfl,Pm.putM hl9 ((hM.val rfl).put hs9 _ _ (by simp <;> omega) (hM0.put (b:=w.heap.size+2) (cs:=#[.slice none 0 0]) (t:=27) (by simp) (by simp) 0 (.slice A1 N1 C1) [⟨w1.heap.size,#[.slice A1 N1 C1],27⟩,⟨w.heap.size,#[.slice a n cap],27⟩,⟨w.heap.size+1,#[.slice a' n' cap'],27⟩,⟨w.heap.size+2,#[.slice A1 N1 C1],27⟩] (by simp <;> omega)))⟩
  ·cases ho9
   have r30:=hD.od hd9 2 30 _ rfl (by simp)
   refine wpOp_step rfl fun K hK=>?_
   go_simp
   exact hK _ _ ⟨p9,fun _ _=>rfl,rfl,(Pm.keepM rfl (hM.val rfl))⟩
 ·intro p9 l9 W9 hn9 hl9 hM
  have kr3_0:=hM.fx _ (List.mem_of_getElem? (i:=0) rfl) (Or.inr (by rw [hn9]; simp))
  simp only [] at kr3_0
  replace hM:=hM.st
  simp only [pickBs] at hM
  rw [if_pos (hl9 4 (by decide))] at hM
  clear hl9 hs9 h09 hn9
  clear hS ya yb yc
  have hS:=hM
  clear hM
  simp only [Puts.lay,List.setIfInBounds_toArray,List.set_cons_zero,List.set_cons_succ]
  obtain ⟨⟨yd,-⟩,⟨ye,-⟩,⟨yf,-⟩,⟨yg,-⟩,-⟩:=hS.cells
  have K:=hide kr3_0
  clear kr3_0
  go_wp2
  exact bodyPost_ret (v:=.tuple #[.bool s,.agg #[.slice A1 N1 C1],.int .i64 0]) (by simp [results,Tryz.results162,go_sem,yg]) rfl ⟨⟨_,_,_,rfl,(unhide K).mono (by omega)⟩,hS.fr⟩
theorem addS_ge_t (a:Option Addr) (n cap m:Nat) (a':Option Addr) (n' cap' m':Nat) (w:World) (h:Num w a n m) (h':Num w a' n' m') (hle:m'≤m) :
  Calls Tryz.prog 162 #[.bool true,.agg #[.slice a n cap],.bool false,.agg #[.slice a' n' cap']] w fun e w'=>(∃ A N C,e = .returned (.tuple #[.bool true,.agg #[.slice A N C],.int .i64 0])∧Mine w' w.heap.size A N C (m - m'))∧Below w.heap.size w w':=by
 have H:=hide h
 have H':=hide h'
 clear h h'
 go_enter Tryz.func162,Tryz.ntmps162
 go_wp2_with fail
 refine (dsub_ge a a' n n' cap cap' m m' _ ((((unhide H).alloc _).alloc _).alloc _) ((((unhide H').alloc _).alloc _).alloc _) hle).mono ?_
 rintro e w1 ⟨⟨A1,N1,C1,rfl,f1⟩,hb1⟩
 have hS:=(Fs.three w _ _ _ _ _ _).kept hb1
 obtain ⟨⟨ya,-⟩,⟨yb,-⟩,⟨yc,-⟩,-⟩:=hS.cells
 have F1:=hide (f1.mono (base':=w.heap.size+3) (by simp))
 clear f1
 have hltw1_0:w.heap.size < w1.heap.size:=hS.lt 0 rfl
 have hltw1_1:w.heap.size+1 < w1.heap.size:=hS.lt 1 rfl
 have hltw1_2:w.heap.size+2 < w1.heap.size:=hS.lt 2 rfl
 have hltR:w.heap.size+3≤w1.heap.size:=hltw1_2
 replace hS:=hS.alloc #[.slice A1 N1 C1] 27
 replace F1:=hide ((unhide F1).alloc (.cells #[.slice A1 N1 C1] 27))
 go_wp2_with fail
 have hS3s:w.heap.size≤(w1.alloc (.cells #[.slice A1 N1 C1] 27)).heap.size:=hS.size
 have hs9:∀ x9:Nat×(Pk→World→Prop),x9∈([(6,fun _ W=>Mine W (w.heap.size+3) A1 N1 C1 (m - m'))]:List (Nat×(Pk→World→Prop)))→∀ q9:Pk,St (w.heap.size+3) (x9.2 q9):=by
  intro x hx q
  simp only [List.mem_cons,List.not_mem_nil,or_false] at hx
  rcases hx with rfl
  ·exact st_mine2 _ _ _ _
 have h09:∀ x9:Nat×(Pk→World→Prop),x9∈([(6,fun _ W=>Mine W (w.heap.size+3) A1 N1 C1 (m - m'))]:List (Nat×(Pk→World→Prop)))→6≤x9.1→x9.2 ⟨none,0,0⟩ (w1.alloc (.cells #[.slice A1 N1 C1] 27)):=by
  intro x hx hn9
  simp only [List.mem_cons,List.not_mem_nil,or_false] at hx
  rcases hx with rfl
  ·exact unhide F1
 refine wp_region_any (by kernel_rfl) ?_
 refine wpAny_pick (fun p9=>[some (43,.bool true),some (44,.agg #[.slice A1 N1 C1]),some (45,.int .i64 0),some (8,.bool true),none,some (10,.int .i64 0)])
  (fun p9 l9 W9=>Pm w (w.heap.size+3) [(6,fun _ W=>Mine W (w.heap.size+3) A1 N1 C1 (m - m'))] p9 l9 W9 (pickBs l9 [(4,[⟨w1.heap.size,#[.slice A1 N1 C1],27⟩,⟨w.heap.size,#[.slice a n cap],27⟩,⟨w.heap.size+1,#[.slice a' n' cap'],27⟩,⟨w.heap.size+2,#[.slice A1 N1 C1],27⟩])] [⟨w1.heap.size,#[.slice A1 N1 C1],27⟩,⟨w.heap.size,#[.slice a n cap],27⟩,⟨w.heap.size+1,#[.slice a' n' cap'],27⟩,⟨w.heap.size+2,#[.slice none 0 0],27⟩])) _ _ (fun _=>rfl) (by kernel_rfl) (fun _=>rfl) (fun _=>rfl) ?_ ?_ (fun _=>⟨none,0,0⟩) (Pm.start2 hS _ _ _ (by simp; omega) hs9 h09)
 ·intro p9 l9 t9 W9 i9 hD hi9 hl9 hM
  obtain ⟨o9,ho9,hd9⟩:=(mem_ready.1 hi9).2
  have hin9:i9 < 6:=by
   by_cases h:i9 < 6
   ·exact h
   ·rw [Array.getElem?_eq_none (by rw [hD.len]; simp; omega)] at hl9; cases hl9
  have hcase:i9 = 0∨i9 = 1∨i9 = 2∨i9 = 3∨i9 = 4∨i9 = 5:=by omega
  clear hin9
  rcases hcase with rfl|rfl|rfl|rfl|rfl|rfl
  ·cases ho9
   have r0:=hD.old 0 _ rfl rfl
   refine wpOp_step rfl fun K hK=>?_
   go_simp
   exact hK _ _ ⟨p9,fun _ _=>rfl,rfl,(Pm.keepM rfl (hM.val rfl))⟩
  ·cases ho9
   have r13:=hD.old 13 _ rfl rfl
   have hM0:Fs w W9 [⟨w1.heap.size,#[.slice A1 N1 C1],27⟩,⟨w.heap.size,#[.slice a n cap],27⟩,⟨w.heap.size+1,#[.slice a' n' cap'],27⟩,⟨w.heap.size+2,#[.slice none 0 0],27⟩]:=by
    have hM1:=hM.st
    simp only [pickBs] at hM1
    rw [if_neg (hD.waits 1 4 _ ⟨1,.data⟩ hl9 rfl (by simp) rfl rfl)] at hM1
    exact hM1
   have c9_0:=hM0.cellAt (b:=w1.heap.size) (cs:=#[.slice A1 N1 C1]) (t:=27) (by simp) 0 _ rfl
   clear hM0
   refine wpOp_step rfl fun K hK=>?_
   go_simp
   exact hK _ _ ⟨p9,fun _ _=>rfl,rfl,(Pm.keepM rfl (hM.val rfl))⟩
  ·cases ho9
   have r15:=hD.old 15 _ rfl rfl
   refine wpOp_step rfl fun K hK=>?_
   go_simp
   exact hK _ _ ⟨p9,fun _ _=>rfl,rfl,(Pm.keepM rfl (hM.val rfl))⟩
  ·cases ho9
   have r43:=hD.od hd9 0 43 _ rfl (by simp)
   refine wpOp_step rfl fun K hK=>?_
   go_simp
   exact hK _ _ ⟨p9,fun _ _=>rfl,rfl,(Pm.keepM rfl (hM.val rfl))⟩
  ·cases ho9
   have r9:=hD.old 9 _ rfl rfl
   have r44:=hD.od hd9 1 44 _ rfl (by simp)
   have hM0:Fs w W9 [⟨w1.heap.size,#[.slice A1 N1 C1],27⟩,⟨w.heap.size,#[.slice a n cap],27⟩,⟨w.heap.size+1,#[.slice a' n' cap'],27⟩,⟨w.heap.size+2,#[.slice none 0 0],27⟩]:=by
    have hM1:=hM.st
    simp only [pickBs] at hM1
    rw [if_neg (by rw [hl9]; simp)] at hM1
    exact hM1
   have c9_0:=hM0.cellAt (b:=w.heap.size+2) (cs:=#[.slice none 0 0]) (t:=27) (by simp) 0 _ rfl
   have z9_0:=hM0.frozen (b:=w.heap.size+2) (cs:=#[.slice none 0 0]) (t:=27) (by simp) 0
   refine wpOp_step rfl fun K hK=>?_
   go_simp
   exact hK _ _ ⟨p9,fun _ _=>rfl,rfl,Pm.putM hl9 ((hM.val rfl).put hs9 _ _ (by simp <;> omega) (hM0.put (b:=w.heap.size+2) (cs:=#[.slice none 0 0]) (t:=27) (by simp) (by simp) 0 (.slice A1 N1 C1) [⟨w1.heap.size,#[.slice A1 N1 C1],27⟩,⟨w.heap.size,#[.slice a n cap],27⟩,⟨w.heap.size+1,#[.slice a' n' cap'],27⟩,⟨w.heap.size+2,#[.slice A1 N1 C1],27⟩] (by simp <;> omega)))⟩
  ·cases ho9
   have r45:=hD.od hd9 2 45 _ rfl (by simp)
   refine wpOp_step rfl fun K hK=>?_
   go_simp
   exact hK _ _ ⟨p9,fun _ _=>rfl,rfl,(Pm.keepM rfl (hM.val rfl))⟩
 ·intro p9 l9 W9 hn9 hl9 hM
  have kr6_0:=hM.fx _ (List.mem_of_getElem? (i:=0) rfl) (Or.inr (by rw [hn9]; simp))
  simp only [] at kr6_0
  replace hM:=hM.st
  simp only [pickBs] at hM
  rw [if_pos (hl9 4 (by decide))] at hM
  clear hl9 hs9 h09 hn9
  clear hS ya yb yc
  have hS:=hM
  clear hM
  simp only [Puts.lay,List.setIfInBounds_toArray,List.set_cons_zero,List.set_cons_succ]
  obtain ⟨⟨yd,-⟩,⟨ye,-⟩,⟨yf,-⟩,⟨yg,-⟩,-⟩:=hS.cells
  have K:=hide kr6_0
  clear kr6_0
  go_wp2
  exact bodyPost_ret (v:=.tuple #[.bool true,.agg #[.slice A1 N1 C1],.int .i64 0]) (by simp [results,Tryz.results162,go_sem,yg]) rfl ⟨⟨_,_,_,rfl,(unhide K).mono (by omega)⟩,hS.fr⟩
theorem addS_lt_t (a:Option Addr) (n cap m:Nat) (a':Option Addr) (n' cap' m':Nat) (w:World) (h:Num w a n m) (h':Num w a' n' m') (hlt:m < m') :
  Calls Tryz.prog 162 #[.bool true,.agg #[.slice a n cap],.bool false,.agg #[.slice a' n' cap']] w fun e w'=>(∃ A N C,e = .returned (.tuple #[.bool false,.agg #[.slice A N C],.int .i64 0])∧Mine w' w.heap.size A N C (m' - m))∧Below w.heap.size w w':=by
 have H:=hide h
 have H':=hide h'
 clear h h'
 go_enter Tryz.func162,Tryz.ntmps162
 go_wp2_with fail
 refine (dsub_lt a a' n n' cap cap' m m' _ ((((unhide H).alloc _).alloc _).alloc _) ((((unhide H').alloc _).alloc _).alloc _) hlt).mono ?_
 rintro e w1 ⟨rfl,hb1⟩
 have hS:=(Fs.three w _ _ _ _ _ _).kept hb1
 obtain ⟨⟨ya,-⟩,⟨yb,-⟩,⟨yc,-⟩,-⟩:=hS.cells
 have hltw1_0:w.heap.size < w1.heap.size:=hS.lt 0 rfl
 have hltw1_1:w.heap.size+1 < w1.heap.size:=hS.lt 1 rfl
 have hltw1_2:w.heap.size+2 < w1.heap.size:=hS.lt 2 rfl
 replace hS:=hS.alloc #[.slice none 0 0] 27
 have hle:m≤m':=by omega
 go_wp2_with fail
 refine (dsub_ge a' a n' n cap' cap m' m _ ((unhide H').kept hS.fr) ((unhide H).kept hS.fr) hle).mono ?_
 rintro e w2 ⟨⟨A2,N2,C2,rfl,f2⟩,hb2⟩
 replace hS:=hS.kept hb2
 clear ya yb yc
 obtain ⟨⟨yd,-⟩,⟨ye,-⟩,⟨yf,-⟩,⟨yg,-⟩,-⟩:=hS.cells
 have F2:=hide (f2.mono (base':=w.heap.size+3) (by simp; omega))
 clear f2
 have hltw2_0:w1.heap.size < w2.heap.size:=hS.lt 0 rfl
 have hltw2_1:w.heap.size < w2.heap.size:=hS.lt 1 rfl
 have hltw2_2:w.heap.size+1 < w2.heap.size:=hS.lt 2 rfl
 have hltw2_3:w.heap.size+2 < w2.heap.size:=hS.lt 3 rfl
 have hltR:w.heap.size+3≤w2.heap.size:=hltw2_3
 replace hS:=hS.alloc #[.slice A2 N2 C2] 27
 replace F2:=hide ((unhide F2).alloc (.cells #[.slice A2 N2 C2] 27))
 go_wp2_with fail
 have hS3s:w.heap.size≤(w2.alloc (.cells #[.slice A2 N2 C2] 27)).heap.size:=hS.size
 have hs9:∀ x9:Nat×(Pk→World→Prop),x9∈([(6,fun _ W=>Mine W (w.heap.size+3) A2 N2 C2 (m' - m))]:List (Nat×(Pk→World→Prop)))→∀ q9:Pk,St (w.heap.size+3) (x9.2 q9):=by
  intro x hx q
  simp only [List.mem_cons,List.not_mem_nil,or_false] at hx
  rcases hx with rfl
  ·exact st_mine2 _ _ _ _
 have h09:∀ x9:Nat×(Pk→World→Prop),x9∈([(6,fun _ W=>Mine W (w.heap.size+3) A2 N2 C2 (m' - m))]:List (Nat×(Pk→World→Prop)))→6≤x9.1→x9.2 ⟨none,0,0⟩ (w2.alloc (.cells #[.slice A2 N2 C2] 27)):=by
  intro x hx hn9
  simp only [List.mem_cons,List.not_mem_nil,or_false] at hx
  rcases hx with rfl
  ·exact unhide F2
 refine wp_region_any (by kernel_rfl) ?_
 refine wpAny_pick (fun p9=>[some (53,.bool false),some (54,.agg #[.slice A2 N2 C2]),some (55,.int .i64 0),some (8,.bool false),none,some (10,.int .i64 0)])
  (fun p9 l9 W9=>Pm w (w.heap.size+3) [(6,fun _ W=>Mine W (w.heap.size+3) A2 N2 C2 (m' - m))] p9 l9 W9 (pickBs l9 [(4,[⟨w2.heap.size,#[.slice A2 N2 C2],27⟩,⟨w1.heap.size,#[.slice none 0 0],27⟩,⟨w.heap.size,#[.slice a n cap],27⟩,⟨w.heap.size+1,#[.slice a' n' cap'],27⟩,⟨w.heap.size+2,#[.slice A2 N2 C2],27⟩])] [⟨w2.heap.size,#[.slice A2 N2 C2],27⟩,⟨w1.heap.size,#[.slice none 0 0],27⟩,⟨w.heap.size,#[.slice a n cap],27⟩,⟨w.heap.size+1,#[.slice a' n' cap'],27⟩,⟨w.heap.size+2,#[.slice none 0 0],27⟩])) _ _ (fun _=>rfl) (by kernel_rfl) (fun _=>rfl) (fun _=>rfl) ?_ ?_ (fun _=>⟨none,0,0⟩) (Pm.start2 hS _ _ _ (by simp; omega) hs9 h09)
 ·intro p9 l9 t9 W9 i9 hD hi9 hl9 hM
  obtain ⟨o9,ho9,hd9⟩:=(mem_ready.1 hi9).2
  have hin9:i9 < 6:=by
   by_cases h:i9 < 6
   ·exact h
   ·rw [Array.getElem?_eq_none (by rw [hD.len]; simp; omega)] at hl9; cases hl9
  have hcase:i9 = 0∨i9 = 1∨i9 = 2∨i9 = 3∨i9 = 4∨i9 = 5:=by omega
  clear hin9
  rcases hcase with rfl|rfl|rfl|rfl|rfl|rfl
  ·cases ho9
   have r2:=hD.old 2 _ rfl rfl
   refine wpOp_step rfl fun K hK=>?_
   go_simp
   exact hK _ _ ⟨p9,fun _ _=>rfl,rfl,(Pm.keepM rfl (hM.val rfl))⟩
  ·cases ho9
   have r16:=hD.old 16 _ rfl rfl
   have hM0:Fs w W9 [⟨w2.heap.size,#[.slice A2 N2 C2],27⟩,⟨w1.heap.size,#[.slice none 0 0],27⟩,⟨w.heap.size,#[.slice a n cap],27⟩,⟨w.heap.size+1,#[.slice a' n' cap'],27⟩,⟨w.heap.size+2,#[.slice none 0 0],27⟩]:=by
    have hM1:=hM.st
    simp only [pickBs] at hM1
    rw [if_neg (hD.waits 1 4 _ ⟨1,.data⟩ hl9 rfl (by simp) rfl rfl)] at hM1
    exact hM1
   have c9_0:=hM0.cellAt (b:=w2.heap.size) (cs:=#[.slice A2 N2 C2]) (t:=27) (by simp) 0 _ rfl
   clear hM0
   refine wpOp_step rfl fun K hK=>?_
   go_simp
   exact hK _ _ ⟨p9,fun _ _=>rfl,rfl,(Pm.keepM rfl (hM.val rfl))⟩
  ·cases ho9
   have r18:=hD.old 18 _ rfl rfl
   refine wpOp_step rfl fun K hK=>?_
   go_simp
   exact hK _ _ ⟨p9,fun _ _=>rfl,rfl,(Pm.keepM rfl (hM.val rfl))⟩
  ·cases ho9
   have r53:=hD.od hd9 0 53 _ rfl (by simp)
   refine wpOp_step rfl fun K hK=>?_
   go_simp
   exact hK _ _ ⟨p9,fun _ _=>rfl,rfl,(Pm.keepM rfl (hM.val rfl))⟩
  ·cases ho9
   have r9:=hD.old 9 _ rfl rfl
   have r54:=hD.od hd9 1 54 _ rfl (by simp)
   have hM0:Fs w W9 [⟨w2.heap.size,#[.slice A2 N2 C2],27⟩,⟨w1.heap.size,#[.slice none 0 0],27⟩,⟨w.heap.size,#[.slice a n cap],27⟩,⟨w.heap.size+1,#[.slice a' n' cap'],27⟩,⟨w.heap.size+2,#[.slice none 0 0],27⟩]:=by
    have hM1:=hM.st
    simp only [pickBs] at hM1
    rw [if_neg (by rw [hl9]; simp)] at hM1
    exact hM1
   have c9_0:=hM0.cellAt (b:=w.heap.size+2) (cs:=#[.slice none 0 0]) (t:=27) (by simp) 0 _ rfl
   have z9_0:=hM0.frozen (b:=w.heap.size+2) (cs:=#[.slice none 0 0]) (t:=27) (by simp) 0
   refine wpOp_step rfl fun K hK=>?_
   go_simp
   exact hK _ _ ⟨p9,fun _ _=>rfl,rfl,Pm.putM hl9 ((hM.val rfl).put hs9 _ _ (by simp <;> omega) (hM0.put (b:=w.heap.size+2) (cs:=#[.slice none 0 0]) (t:=27) (by simp) (by simp) 0 (.slice A2 N2 C2) [⟨w2.heap.size,#[.slice A2 N2 C2],27⟩,⟨w1.heap.size,#[.slice none 0 0],27⟩,⟨w.heap.size,#[.slice a n cap],27⟩,⟨w.heap.size+1,#[.slice a' n' cap'],27⟩,⟨w.heap.size+2,#[.slice A2 N2 C2],27⟩] (by simp <;> omega)))⟩
  ·cases ho9
   have r55:=hD.od hd9 2 55 _ rfl (by simp)
   refine wpOp_step rfl fun K hK=>?_
   go_simp
   exact hK _ _ ⟨p9,fun _ _=>rfl,rfl,(Pm.keepM rfl (hM.val rfl))⟩
 ·intro p9 l9 W9 hn9 hl9 hM
  have kr8_0:=hM.fx _ (List.mem_of_getElem? (i:=0) rfl) (Or.inr (by rw [hn9]; simp))
  simp only [] at kr8_0
  replace hM:=hM.st
  simp only [pickBs] at hM
  rw [if_pos (hl9 4 (by decide))] at hM
  clear hl9 hs9 h09 hn9
  clear hS yd ye yf yg
  have hS:=hM
  clear hM
  simp only [Puts.lay,List.setIfInBounds_toArray,List.set_cons_zero,List.set_cons_succ]
  obtain ⟨⟨yh,-⟩,⟨yi,-⟩,⟨yj,-⟩,⟨yk,-⟩,⟨yl,-⟩,-⟩:=hS.cells
  have K:=hide kr8_0
  clear kr8_0
  go_wp2
  exact bodyPost_ret (v:=.tuple #[.bool false,.agg #[.slice A2 N2 C2],.int .i64 0]) (by simp [results,Tryz.results162,go_sem,yl]) rfl ⟨⟨_,_,_,rfl,(unhide K).mono (by omega)⟩,hS.fr⟩
theorem addS_ge_f (a:Option Addr) (n cap m:Nat) (a':Option Addr) (n' cap' m':Nat) (w:World) (h:Num w a n m) (h':Num w a' n' m') (hle:m'≤m) :
  Calls Tryz.prog 162 #[.bool false,.agg #[.slice a n cap],.bool true,.agg #[.slice a' n' cap']] w fun e w'=>(∃ A N C,e = .returned (.tuple #[.bool false,.agg #[.slice A N C],.int .i64 0])∧Mine w' w.heap.size A N C (m - m'))∧Below w.heap.size w w':=by
 have H:=hide h
 have H':=hide h'
 clear h h'
 go_enter Tryz.func162,Tryz.ntmps162
 go_wp2_with fail
 refine (dsub_ge a a' n n' cap cap' m m' _ ((((unhide H).alloc _).alloc _).alloc _) ((((unhide H').alloc _).alloc _).alloc _) hle).mono ?_
 rintro e w1 ⟨⟨A1,N1,C1,rfl,f1⟩,hb1⟩
 have hS:=(Fs.three w _ _ _ _ _ _).kept hb1
 obtain ⟨⟨ya,-⟩,⟨yb,-⟩,⟨yc,-⟩,-⟩:=hS.cells
 have F1:=hide (f1.mono (base':=w.heap.size+3) (by simp))
 clear f1
 have hltw1_0:w.heap.size < w1.heap.size:=hS.lt 0 rfl
 have hltw1_1:w.heap.size+1 < w1.heap.size:=hS.lt 1 rfl
 have hltw1_2:w.heap.size+2 < w1.heap.size:=hS.lt 2 rfl
 have hltR:w.heap.size+3≤w1.heap.size:=hltw1_2
 replace hS:=hS.alloc #[.slice A1 N1 C1] 27
 replace F1:=hide ((unhide F1).alloc (.cells #[.slice A1 N1 C1] 27))
 go_wp2_with fail
 have hS3s:w.heap.size≤(w1.alloc (.cells #[.slice A1 N1 C1] 27)).heap.size:=hS.size
 have hs9:∀ x9:Nat×(Pk→World→Prop),x9∈([(6,fun _ W=>Mine W (w.heap.size+3) A1 N1 C1 (m - m'))]:List (Nat×(Pk→World→Prop)))→∀ q9:Pk,St (w.heap.size+3) (x9.2 q9):=by
  intro x hx q
  simp only [List.mem_cons,List.not_mem_nil,or_false] at hx
  rcases hx with rfl
  ·exact st_mine2 _ _ _ _
 have h09:∀ x9:Nat×(Pk→World→Prop),x9∈([(6,fun _ W=>Mine W (w.heap.size+3) A1 N1 C1 (m - m'))]:List (Nat×(Pk→World→Prop)))→6≤x9.1→x9.2 ⟨none,0,0⟩ (w1.alloc (.cells #[.slice A1 N1 C1] 27)):=by
  intro x hx hn9
  simp only [List.mem_cons,List.not_mem_nil,or_false] at hx
  rcases hx with rfl
  ·exact unhide F1
 refine wp_region_any (by kernel_rfl) ?_
 refine wpAny_pick (fun p9=>[some (43,.bool false),some (44,.agg #[.slice A1 N1 C1]),some (45,.int .i64 0),some (8,.bool false),none,some (10,.int .i64 0)])
  (fun p9 l9 W9=>Pm w (w.heap.size+3) [(6,fun _ W=>Mine W (w.heap.size+3) A1 N1 C1 (m - m'))] p9 l9 W9 (pickBs l9 [(4,[⟨w1.heap.size,#[.slice A1 N1 C1],27⟩,⟨w.heap.size,#[.slice a n cap],27⟩,⟨w.heap.size+1,#[.slice a' n' cap'],27⟩,⟨w.heap.size+2,#[.slice A1 N1 C1],27⟩])] [⟨w1.heap.size,#[.slice A1 N1 C1],27⟩,⟨w.heap.size,#[.slice a n cap],27⟩,⟨w.heap.size+1,#[.slice a' n' cap'],27⟩,⟨w.heap.size+2,#[.slice none 0 0],27⟩])) _ _ (fun _=>rfl) (by kernel_rfl) (fun _=>rfl) (fun _=>rfl) ?_ ?_ (fun _=>⟨none,0,0⟩) (Pm.start2 hS _ _ _ (by simp; omega) hs9 h09)
 ·intro p9 l9 t9 W9 i9 hD hi9 hl9 hM
  obtain ⟨o9,ho9,hd9⟩:=(mem_ready.1 hi9).2
  have hin9:i9 < 6:=by
   by_cases h:i9 < 6
   ·exact h
   ·rw [Array.getElem?_eq_none (by rw [hD.len]; simp; omega)] at hl9; cases hl9
  have hcase:i9 = 0∨i9 = 1∨i9 = 2∨i9 = 3∨i9 = 4∨i9 = 5:=by omega
  clear hin9
  rcases hcase with rfl|rfl|rfl|rfl|rfl|rfl
  ·cases ho9
   have r0:=hD.old 0 _ rfl rfl
   refine wpOp_step rfl fun K hK=>?_
   go_simp
   exact hK _ _ ⟨p9,fun _ _=>rfl,rfl,(Pm.keepM rfl (hM.val rfl))⟩
  ·cases ho9
   have r13:=hD.old 13 _ rfl rfl
   have hM0:Fs w W9 [⟨w1.heap.size,#[.slice A1 N1 C1],27⟩,⟨w.heap.size,#[.slice a n cap],27⟩,⟨w.heap.size+1,#[.slice a' n' cap'],27⟩,⟨w.heap.size+2,#[.slice none 0 0],27⟩]:=by
    have hM1:=hM.st
    simp only [pickBs] at hM1
    rw [if_neg (hD.waits 1 4 _ ⟨1,.data⟩ hl9 rfl (by simp) rfl rfl)] at hM1
    exact hM1
   have c9_0:=hM0.cellAt (b:=w1.heap.size) (cs:=#[.slice A1 N1 C1]) (t:=27) (by simp) 0 _ rfl
   clear hM0
   refine wpOp_step rfl fun K hK=>?_
   go_simp
   exact hK _ _ ⟨p9,fun _ _=>rfl,rfl,(Pm.keepM rfl (hM.val rfl))⟩
  ·cases ho9
   have r15:=hD.old 15 _ rfl rfl
   refine wpOp_step rfl fun K hK=>?_
   go_simp
   exact hK _ _ ⟨p9,fun _ _=>rfl,rfl,(Pm.keepM rfl (hM.val rfl))⟩
  ·cases ho9
   have r43:=hD.od hd9 0 43 _ rfl (by simp)
   refine wpOp_step rfl fun K hK=>?_
   go_simp
   exact hK _ _ ⟨p9,fun _ _=>rfl,rfl,(Pm.keepM rfl (hM.val rfl))⟩
  ·cases ho9
   have r9:=hD.old 9 _ rfl rfl
   have r44:=hD.od hd9 1 44 _ rfl (by simp)
   have hM0:Fs w W9 [⟨w1.heap.size,#[.slice A1 N1 C1],27⟩,⟨w.heap.size,#[.slice a n cap],27⟩,⟨w.heap.size+1,#[.slice a' n' cap'],27⟩,⟨w.heap.size+2,#[.slice none 0 0],27⟩]:=by
    have hM1:=hM.st
    simp only [pickBs] at hM1
    rw [if_neg (by rw [hl9]; simp)] at hM1
    exact hM1
   have c9_0:=hM0.cellAt (b:=w.heap.size+2) (cs:=#[.slice none 0 0]) (t:=27) (by simp) 0 _ rfl
   have z9_0:=hM0.frozen (b:=w.heap.size+2) (cs:=#[.slice none 0 0]) (t:=27) (by simp) 0
   refine wpOp_step rfl fun K hK=>?_
   go_simp
   exact hK _ _ ⟨p9,fun _ _=>rfl,rfl,Pm.putM hl9 ((hM.val rfl).put hs9 _ _ (by simp <;> omega) (hM0.put (b:=w.heap.size+2) (cs:=#[.slice none 0 0]) (t:=27) (by simp) (by simp) 0 (.slice A1 N1 C1) [⟨w1.heap.size,#[.slice A1 N1 C1],27⟩,⟨w.heap.size,#[.slice a n cap],27⟩,⟨w.heap.size+1,#[.slice a' n' cap'],27⟩,⟨w.heap.size+2,#[.slice A1 N1 C1],27⟩] (by simp <;> omega)))⟩
  ·cases ho9
   have r45:=hD.od hd9 2 45 _ rfl (by simp)
   refine wpOp_step rfl fun K hK=>?_
   go_simp
   exact hK _ _ ⟨p9,fun _ _=>rfl,rfl,(Pm.keepM rfl (hM.val rfl))⟩
 ·intro p9 l9 W9 hn9 hl9 hM
  have kr6_0:=hM.fx _ (List.mem_of_getElem? (i:=0) rfl) (Or.inr (by rw [hn9]; simp))
  simp only [] at kr6_0
  replace hM:=hM.st
  simp only [pickBs] at hM
  rw [if_pos (hl9 4 (by decide))] at hM
  clear hl9 hs9 h09 hn9
  clear hS ya yb yc
  have hS:=hM
  clear hM
  simp only [Puts.lay,List.setIfInBounds_toArray,List.set_cons_zero,List.set_cons_succ]
  obtain ⟨⟨yd,-⟩,⟨ye,-⟩,⟨yf,-⟩,⟨yg,-⟩,-⟩:=hS.cells
  have K:=hide kr6_0
  clear kr6_0
  go_wp2
  exact bodyPost_ret (v:=.tuple #[.bool false,.agg #[.slice A1 N1 C1],.int .i64 0]) (by simp [results,Tryz.results162,go_sem,yg]) rfl ⟨⟨_,_,_,rfl,(unhide K).mono (by omega)⟩,hS.fr⟩
theorem addS_lt_f (a:Option Addr) (n cap m:Nat) (a':Option Addr) (n' cap' m':Nat) (w:World) (h:Num w a n m) (h':Num w a' n' m') (hlt:m < m') :
  Calls Tryz.prog 162 #[.bool false,.agg #[.slice a n cap],.bool true,.agg #[.slice a' n' cap']] w fun e w'=>(∃ A N C,e = .returned (.tuple #[.bool true,.agg #[.slice A N C],.int .i64 0])∧Mine w' w.heap.size A N C (m' - m))∧Below w.heap.size w w':=by
 have H:=hide h
 have H':=hide h'
 clear h h'
 go_enter Tryz.func162,Tryz.ntmps162
 go_wp2_with fail
 refine (dsub_lt a a' n n' cap cap' m m' _ ((((unhide H).alloc _).alloc _).alloc _) ((((unhide H').alloc _).alloc _).alloc _) hlt).mono ?_
 rintro e w1 ⟨rfl,hb1⟩
 have hS:=(Fs.three w _ _ _ _ _ _).kept hb1
 obtain ⟨⟨ya,-⟩,⟨yb,-⟩,⟨yc,-⟩,-⟩:=hS.cells
 have hltw1_0:w.heap.size < w1.heap.size:=hS.lt 0 rfl
 have hltw1_1:w.heap.size+1 < w1.heap.size:=hS.lt 1 rfl
 have hltw1_2:w.heap.size+2 < w1.heap.size:=hS.lt 2 rfl
 replace hS:=hS.alloc #[.slice none 0 0] 27
 have hle:m≤m':=by omega
 go_wp2_with fail
 refine (dsub_ge a' a n' n cap' cap m' m _ ((unhide H').kept hS.fr) ((unhide H).kept hS.fr) hle).mono ?_
 rintro e w2 ⟨⟨A2,N2,C2,rfl,f2⟩,hb2⟩
 replace hS:=hS.kept hb2
 clear ya yb yc
 obtain ⟨⟨yd,-⟩,⟨ye,-⟩,⟨yf,-⟩,⟨yg,-⟩,-⟩:=hS.cells
 have F2:=hide (f2.mono (base':=w.heap.size+3) (by simp; omega))
 clear f2
 have hltw2_0:w1.heap.size < w2.heap.size:=hS.lt 0 rfl
 have hltw2_1:w.heap.size < w2.heap.size:=hS.lt 1 rfl
 have hltw2_2:w.heap.size+1 < w2.heap.size:=hS.lt 2 rfl
 have hltw2_3:w.heap.size+2 < w2.heap.size:=hS.lt 3 rfl
 have hltR:w.heap.size+3≤w2.heap.size:=hltw2_3
 replace hS:=hS.alloc #[.slice A2 N2 C2] 27
 replace F2:=hide ((unhide F2).alloc (.cells #[.slice A2 N2 C2] 27))
 go_wp2_with fail
 have hS3s:w.heap.size≤(w2.alloc (.cells #[.slice A2 N2 C2] 27)).heap.size:=hS.size
 have hs9:∀ x9:Nat×(Pk→World→Prop),x9∈([(6,fun _ W=>Mine W (w.heap.size+3) A2 N2 C2 (m' - m))]:List (Nat×(Pk→World→Prop)))→∀ q9:Pk,St (w.heap.size+3) (x9.2 q9):=by
  intro x hx q
  simp only [List.mem_cons,List.not_mem_nil,or_false] at hx
  rcases hx with rfl
  ·exact st_mine2 _ _ _ _
 have h09:∀ x9:Nat×(Pk→World→Prop),x9∈([(6,fun _ W=>Mine W (w.heap.size+3) A2 N2 C2 (m' - m))]:List (Nat×(Pk→World→Prop)))→6≤x9.1→x9.2 ⟨none,0,0⟩ (w2.alloc (.cells #[.slice A2 N2 C2] 27)):=by
  intro x hx hn9
  simp only [List.mem_cons,List.not_mem_nil,or_false] at hx
  rcases hx with rfl
  ·exact unhide F2
 refine wp_region_any (by kernel_rfl) ?_
 refine wpAny_pick (fun p9=>[some (53,.bool true),some (54,.agg #[.slice A2 N2 C2]),some (55,.int .i64 0),some (8,.bool true),none,some (10,.int .i64 0)])
  (fun p9 l9 W9=>Pm w (w.heap.size+3) [(6,fun _ W=>Mine W (w.heap.size+3) A2 N2 C2 (m' - m))] p9 l9 W9 (pickBs l9 [(4,[⟨w2.heap.size,#[.slice A2 N2 C2],27⟩,⟨w1.heap.size,#[.slice none 0 0],27⟩,⟨w.heap.size,#[.slice a n cap],27⟩,⟨w.heap.size+1,#[.slice a' n' cap'],27⟩,⟨w.heap.size+2,#[.slice A2 N2 C2],27⟩])] [⟨w2.heap.size,#[.slice A2 N2 C2],27⟩,⟨w1.heap.size,#[.slice none 0 0],27⟩,⟨w.heap.size,#[.slice a n cap],27⟩,⟨w.heap.size+1,#[.slice a' n' cap'],27⟩,⟨w.heap.size+2,#[.slice none 0 0],27⟩])) _ _ (fun _=>rfl) (by kernel_rfl) (fun _=>rfl) (fun _=>rfl) ?_ ?_ (fun _=>⟨none,0,0⟩) (Pm.start2 hS _ _ _ (by simp; omega) hs9 h09)
 ·intro p9 l9 t9 W9 i9 hD hi9 hl9 hM
  obtain ⟨o9,ho9,hd9⟩:=(mem_ready.1 hi9).2
  have hin9:i9 < 6:=by
   by_cases h:i9 < 6
   ·exact h
   ·rw [Array.getElem?_eq_none (by rw [hD.len]; simp; omega)] at hl9; cases hl9
  have hcase:i9 = 0∨i9 = 1∨i9 = 2∨i9 = 3∨i9 = 4∨i9 = 5:=by omega
  clear hin9
  rcases hcase with rfl|rfl|rfl|rfl|rfl|rfl
  ·cases ho9
   have r2:=hD.old 2 _ rfl rfl
   refine wpOp_step rfl fun K hK=>?_
   go_simp
   exact hK _ _ ⟨p9,fun _ _=>rfl,rfl,(Pm.keepM rfl (hM.val rfl))⟩
  ·cases ho9
   have r16:=hD.old 16 _ rfl rfl
   have hM0:Fs w W9 [⟨w2.heap.size,#[.slice A2 N2 C2],27⟩,⟨w1.heap.size,#[.slice none 0 0],27⟩,⟨w.heap.size,#[.slice a n cap],27⟩,⟨w.heap.size+1,#[.slice a' n' cap'],27⟩,⟨w.heap.size+2,#[.slice none 0 0],27⟩]:=by
    have hM1:=hM.st
    simp only [pickBs] at hM1
    rw [if_neg (hD.waits 1 4 _ ⟨1,.data⟩ hl9 rfl (by simp) rfl rfl)] at hM1
    exact hM1
   have c9_0:=hM0.cellAt (b:=w2.heap.size) (cs:=#[.slice A2 N2 C2]) (t:=27) (by simp) 0 _ rfl
   clear hM0
   refine wpOp_step rfl fun K hK=>?_
   go_simp
   exact hK _ _ ⟨p9,fun _ _=>rfl,rfl,(Pm.keepM rfl (hM.val rfl))⟩
  ·cases ho9
   have r18:=hD.old 18 _ rfl rfl
   refine wpOp_step rfl fun K hK=>?_
   go_simp
   exact hK _ _ ⟨p9,fun _ _=>rfl,rfl,(Pm.keepM rfl (hM.val rfl))⟩
  ·cases ho9
   have r53:=hD.od hd9 0 53 _ rfl (by simp)
   refine wpOp_step rfl fun K hK=>?_
   go_simp
   exact hK _ _ ⟨p9,fun _ _=>rfl,rfl,(Pm.keepM rfl (hM.val rfl))⟩
  ·cases ho9
   have r9:=hD.old 9 _ rfl rfl
   have r54:=hD.od hd9 1 54 _ rfl (by simp)
   have hM0:Fs w W9 [⟨w2.heap.size,#[.slice A2 N2 C2],27⟩,⟨w1.heap.size,#[.slice none 0 0],27⟩,⟨w.heap.size,#[.slice a n cap],27⟩,⟨w.heap.size+1,#[.slice a' n' cap'],27⟩,⟨w.heap.size+2,#[.slice none 0 0],27⟩]:=by
    have hM1:=hM.st
    simp only [pickBs] at hM1
    rw [if_neg (by rw [hl9]; simp)] at hM1
    exact hM1
   have c9_0:=hM0.cellAt (b:=w.heap.size+2) (cs:=#[.slice none 0 0]) (t:=27) (by simp) 0 _ rfl
   have z9_0:=hM0.frozen (b:=w.heap.size+2) (cs:=#[.slice none 0 0]) (t:=27) (by simp) 0
   refine wpOp_step rfl fun K hK=>?_
   go_simp
   exact hK _ _ ⟨p9,fun _ _=>rfl,rfl,Pm.putM hl9 ((hM.val rfl).put hs9 _ _ (by simp <;> omega) (hM0.put (b:=w.heap.size+2) (cs:=#[.slice none 0 0]) (t:=27) (by simp) (by simp) 0 (.slice A2 N2 C2) [⟨w2.heap.size,#[.slice A2 N2 C2],27⟩,⟨w1.heap.size,#[.slice none 0 0],27⟩,⟨w.heap.size,#[.slice a n cap],27⟩,⟨w.heap.size+1,#[.slice a' n' cap'],27⟩,⟨w.heap.size+2,#[.slice A2 N2 C2],27⟩] (by simp <;> omega)))⟩
  ·cases ho9
   have r55:=hD.od hd9 2 55 _ rfl (by simp)
   refine wpOp_step rfl fun K hK=>?_
   go_simp
   exact hK _ _ ⟨p9,fun _ _=>rfl,rfl,(Pm.keepM rfl (hM.val rfl))⟩
 ·intro p9 l9 W9 hn9 hl9 hM
  have kr8_0:=hM.fx _ (List.mem_of_getElem? (i:=0) rfl) (Or.inr (by rw [hn9]; simp))
  simp only [] at kr8_0
  replace hM:=hM.st
  simp only [pickBs] at hM
  rw [if_pos (hl9 4 (by decide))] at hM
  clear hl9 hs9 h09 hn9
  clear hS yd ye yf yg
  have hS:=hM
  clear hM
  simp only [Puts.lay,List.setIfInBounds_toArray,List.set_cons_zero,List.set_cons_succ]
  obtain ⟨⟨yh,-⟩,⟨yi,-⟩,⟨yj,-⟩,⟨yk,-⟩,⟨yl,-⟩,-⟩:=hS.cells
  have K:=hide kr8_0
  clear kr8_0
  go_wp2
  exact bodyPost_ret (v:=.tuple #[.bool true,.agg #[.slice A2 N2 C2],.int .i64 0]) (by simp [results,Tryz.results162,go_sem,yl]) rfl ⟨⟨_,_,_,rfl,(unhide K).mono (by omega)⟩,hS.fr⟩
theorem Add_num (s:Bool) (a:Option Addr) (n cap m:Nat) (x:Int) (s':Bool) (a':Option Addr) (n' cap' m':Nat) (x':Int) (t:Int) (j j' v z:Nat) (r:Bool) (w:World) (h:Dy w s a n m x) (h':Dy w s' a' n' m' x') (hn:0 < n) (hn':0 < n') (hT:Tb w) (hmin:min x x' = t) (hj:x - t = (j:Int)) (hj':x' - t = (j':Int)) (hj2:j < 9223372036854775808) (hj2':j' < 9223372036854775808) (hno:¬ Over (m * 2 ^ j)) (hno':¬ Over (m' * 2 ^ j')) (hv:0 < v) (hz:Tz v z) (hz2:z < 524288) (hx:-1073741824≤t+z∧t+z≤1073741824) (hS9:Hid (∀ (W:World) (A:Option Addr) (N C:Nat) (A':Option Addr) (N' C':Nat),Num W A N (m * 2 ^ j)→Num W A' N' (m' * 2 ^ j')→Calls Tryz.prog 162 #[.bool s,.agg #[.slice A N C],.bool s',.agg #[.slice A' N' C']] W fun e w'=>(∃ A N C,e = .returned (.tuple #[.bool r,.agg #[.slice A N C],.int .i64 0])∧Mine w' W.heap.size A N C v)∧Below W.heap.size W w')) :
  Calls Tryz.prog 134 #[.agg #[.bool s,.slice a n cap,.int .i64 x],.agg #[.bool s',.slice a' n' cap',.int .i64 x']] w fun e w'=>(∃ A N C,e = .returned (.tuple #[.agg #[.bool r,.slice A N C,.int .i64 (t+(z:Int))],.int .i64 0])∧Mine w' w.heap.size A N C (v / 2 ^ z))∧Below w.heap.size w w':=by
 have H:=hide h
 have H':=hide h'
 have HT:=hide hT
 have HJ:=hide (And.intro hj (And.intro hj' (And.intro hno (And.intro hno' (And.intro hv hz)))))
 clear h h' hT hj hj' hno hno' hv hz
 go_enter Tryz.func134,Tryz.ntmps134
 go_wp2_with fail
 refine (checkBoth_dy s a n cap m x s' a' n' cap' m' x' _ ((unhide H).kept (gr_trans (gr_trans (gr_alloc _ _) (gr_alloc _ _)) (gr_alloc _ _))) ((unhide H').kept (gr_trans (gr_trans (gr_alloc _ _) (gr_alloc _ _)) (gr_alloc _ _)))).mono ?_
 rintro e w1 ⟨rfl,hb1⟩
 have hS:=(Fs.three w _ _ _ _ _ _).kept hb1
 obtain ⟨⟨ya,yb,yc,-⟩,⟨yd,ye,yf,-⟩,⟨yg,yh,yi,-⟩,-⟩:=hS.cells
 go_wp2_with fail
 refine (isNought_no a n cap hn _).mono ?_
 rintro e w2 ⟨rfl,hb2⟩
 replace hS:=hS.kept hb2
 clear ya yb yc yd ye yf yg yh yi
 obtain ⟨⟨yj,yk,yl,-⟩,⟨ym,yn,yo,-⟩,⟨yp,yq,yr,-⟩,-⟩:=hS.cells
 go_wp2_with fail
 refine (isNought_no a' n' cap' hn' _).mono ?_
 rintro e w3 ⟨rfl,hb3⟩
 replace hS:=hS.kept hb3
 clear yj yk yl ym yn yo yp yq yr
 obtain ⟨⟨ys,yt,yu,-⟩,⟨yv,yw,yx,-⟩,⟨yy,yz,y0,-⟩,-⟩:=hS.cells
 go_wp2_with fail
 refine (together_ok s a n cap m x s' a' n' cap' m' x' t j j' _ ((unhide H).kept hS.fr).num ((unhide H').kept hS.fr).num hmin (unhide HJ).1 (unhide HJ).2.1 hj2 hj2' (unhide HJ).2.2.1 (unhide HJ).2.2.2.1).mono ?_
 rintro e w4 ⟨⟨A4,N4,C4,B4,O4,Q4,rfl,g4,g5⟩,hb4⟩
 replace hS:=hS.kept hb4
 clear ys yt yu yv yw yx yy yz y0
 obtain ⟨⟨y1,y2,y3,-⟩,⟨y4,y5,y6,-⟩,⟨y7,y8,y9,-⟩,-⟩:=hS.cells
 have G4:=hide g4
 have G5:=hide g5
 clear g4 g5
 have hltw4_0:w.heap.size < w4.heap.size:=hS.lt 0 rfl
 have hltw4_1:w.heap.size+1 < w4.heap.size:=hS.lt 1 rfl
 have hltw4_2:w.heap.size+2 < w4.heap.size:=hS.lt 2 rfl
 replace hS:=(hS.alloc #[.slice A4 N4 C4] 27).alloc #[.slice B4 O4 Q4] 27
 rw [World.size_alloc] at hS
 go_wp2_with fail
 refine (unhide hS9 _ A4 N4 C4 B4 O4 Q4 (((unhide G4).alloc _).alloc _) (((unhide G5).alloc _).alloc _)).mono ?_
 rintro e w5 ⟨⟨A5,N5,C5,rfl,f5⟩,hb5⟩
 replace hS:=hS.kept hb5
 clear y1 y2 y3 y4 y5 y6 y7 y8 y9
 obtain ⟨⟨yba,-⟩,⟨ybb,-⟩,⟨ybc,ybd,ybe,-⟩,⟨ybf,ybg,ybh,-⟩,⟨ybi,ybj,ybk,-⟩,-⟩:=hS.cells
 have F5:=hide f5
 clear f5
 have hltw5_0:w4.heap.size+1 < w5.heap.size:=hS.lt 0 rfl
 have hltw5_1:w4.heap.size < w5.heap.size:=hS.lt 1 rfl
 have hltw5_2:w.heap.size < w5.heap.size:=hS.lt 2 rfl
 have hltw5_3:w.heap.size+1 < w5.heap.size:=hS.lt 3 rfl
 have hltw5_4:w.heap.size+2 < w5.heap.size:=hS.lt 4 rfl
 replace hS:=hS.alloc #[.slice A5 N5 C5] 27
 go_wp2_with fail
 refine (make_ok r A5 N5 C5 v z t _ ((unhide F5).alloc _).num (unhide HJ).2.2.2.2.1 ((unhide HT).kept hS.fr) (unhide HJ).2.2.2.2.2 hz2 (unhide F5).room.1 (unhide F5).room.2 hx).mono ?_
 rintro e w6 ⟨⟨A6,N6,C6,rfl,f6⟩,hb6⟩
 replace hS:=hS.kept hb6
 clear yba ybb ybc ybd ybe ybf ybg ybh ybi ybj ybk
 obtain ⟨⟨ybl,-⟩,⟨ybm,-⟩,⟨ybn,-⟩,⟨ybo,ybp,ybq,-⟩,⟨ybr,ybs,ybt,-⟩,⟨ybu,ybv,ybw,-⟩,-⟩:=hS.cells
 have F6:=hide f6
 clear f6
 have Q_:=hS.frozen (b:=w.heap.size+2) (cs:=#[.bool false,.slice none 0 0,.int .i64 0]) (t:=58) (by simp)
 have fz0:=Q_ 0
 have fz1:=Q_ 1
 have fz2:=Q_ 2
 clear Q_
 go_wp2
 exact bodyPost_ret (v:=.tuple #[.agg #[.bool r,.slice A6 N6 C6,.int .i64 (t+(z:Int))],.int .i64 0]) (by simp [results,Tryz.results134,go_sem,ybu,ybv,ybw]) rfl
  ⟨⟨_,_,_,rfl,((((unhide F6).set (by simp; omega) _).set (by simp; omega) _).set (by simp; omega) _).mono (by simp; omega)⟩,((hS.fr.setCell (by simp <;> omega) _).setCell (by simp <;> omega) _).setCell (by simp <;> omega) _⟩
theorem copied_any (s:Bool) (a:Option Addr) (n cap m:Nat) (x:Int) (w:World) (h:Num w a n m) :
  Calls Tryz.prog 160 #[.agg #[.bool s,.slice a n cap,.int .i64 x]] w fun e w'=>(∃ A C,e = .returned (.agg #[.bool s,.slice A n C,.int .i64 x])∧Mine w' w.heap.size A n C m)∧Below w.heap.size w w':=by
 have H:=hide h
 clear h
 go_enter Tryz.func160,Tryz.ntmps160
 go_wp2_with fail
 refine (clone_any a n cap m _ (((unhide H).alloc _).alloc _)).mono ?_
 rintro e w1 ⟨⟨A1,C1,rfl,f1⟩,hb1⟩
 have hS:=(Fs.two w _ _ _ _).kept hb1
 obtain ⟨⟨ya,yb,yc,-⟩,⟨yd,ye,yf,-⟩,-⟩:=hS.cells
 have F1:=hide f1
 clear f1
 have Q_:=hS.frozen (b:=w.heap.size) (cs:=#[.bool s,.slice a n cap,.int .i64 x]) (t:=58) (by simp)
 have fy0:=Q_ 0
 have fy1:=Q_ 1
 have fy2:=Q_ 2
 clear Q_
 have Q_:=hS.frozen (b:=w.heap.size+1) (cs:=#[.bool false,.slice none 0 0,.int .i64 0]) (t:=58) (by simp)
 have fz0:=Q_ 0
 have fz1:=Q_ 1
 have fz2:=Q_ 2
 clear Q_
 go_wp2
 exact bodyPost_ret (v:=.agg #[.bool s,.slice A1 n C1,.int .i64 x]) (by simp [results,Tryz.results160,go_sem,yd,ye,yf]) rfl
  ⟨⟨_,_,rfl,(((((unhide F1).set (by simp <;> omega) _).set (by simp <;> omega) _).set (by simp <;> omega) _).set (by simp <;> omega) _).mono (by simp; omega)⟩,(((hS.fr.setCell (by simp) _).setCell (by simp <;> omega) _).setCell (by simp <;> omega) _).setCell (by simp <;> omega) _⟩
theorem Add_left (s:Bool) (a:Option Addr) (cap m:Nat) (x:Int) (s':Bool) (a':Option Addr) (n' cap' m':Nat) (x':Int) (w:World) (h:Dy w s a 0 m x) (h':Dy w s' a' n' m' x') :
  Calls Tryz.prog 134 #[.agg #[.bool s,.slice a 0 cap,.int .i64 x],.agg #[.bool s',.slice a' n' cap',.int .i64 x']] w fun e w'=>(∃ A N C,e = .returned (.tuple #[.agg #[.bool s',.slice A N C,.int .i64 x'],.int .i64 0])∧Mine w' w.heap.size A N C m')∧Below w.heap.size w w':=by
 have H:=hide h
 have H':=hide h'
 clear h h'
 go_enter Tryz.func134,Tryz.ntmps134
 go_wp2_with fail
 refine (checkBoth_dy s a 0 cap m x s' a' n' cap' m' x' _ ((unhide H).kept (gr_trans (gr_trans (gr_alloc _ _) (gr_alloc _ _)) (gr_alloc _ _))) ((unhide H').kept (gr_trans (gr_trans (gr_alloc _ _) (gr_alloc _ _)) (gr_alloc _ _)))).mono ?_
 rintro e w1 ⟨rfl,hb1⟩
 have hS:=(Fs.three w _ _ _ _ _ _).kept hb1
 obtain ⟨⟨ya,yb,yc,-⟩,⟨yd,ye,yf,-⟩,⟨yg,yh,yi,-⟩,-⟩:=hS.cells
 go_wp2_with fail
 refine (isNought_yes a cap _).mono ?_
 rintro e w2 ⟨rfl,hb2⟩
 replace hS:=hS.kept hb2
 clear ya yb yc yd ye yf yg yh yi
 obtain ⟨⟨yj,yk,yl,-⟩,⟨ym,yn,yo,-⟩,⟨yp,yq,yr,-⟩,-⟩:=hS.cells
 have hltw2_0:w.heap.size < w2.heap.size:=hS.lt 0 rfl
 have hltw2_1:w.heap.size+1 < w2.heap.size:=hS.lt 1 rfl
 have hltw2_2:w.heap.size+2 < w2.heap.size:=hS.lt 2 rfl
 go_wp2_with fail
 refine (copied_any s' a' n' cap' m' x' _ ((unhide H').kept hS.fr).num).mono ?_
 rintro e w3 ⟨⟨A3,C3,rfl,f3⟩,hb3⟩
 replace hS:=hS.kept hb3
 clear yj yk yl ym yn yo yp yq yr
 obtain ⟨⟨ys,yt,yu,-⟩,⟨yv,yw,yx,-⟩,⟨yy,yz,y0,-⟩,-⟩:=hS.cells
 have F3:=hide f3
 clear f3
 have Q_:=hS.frozen (b:=w.heap.size+2) (cs:=#[.bool false,.slice none 0 0,.int .i64 0]) (t:=58) (by simp)
 have fz0:=Q_ 0
 have fz1:=Q_ 1
 have fz2:=Q_ 2
 clear Q_
 go_wp2
 exact bodyPost_ret (v:=.tuple #[.agg #[.bool s',.slice A3 n' C3,.int .i64 x'],.int .i64 0]) (by simp [results,Tryz.results134,go_sem,yy,yz,y0]) rfl ⟨⟨_,_,_,rfl,((((unhide F3).set (by exact hltw2_2) _).set (by exact hltw2_2) _).set (by exact hltw2_2) _).mono (by omega)⟩,((hS.fr.setCell (by simp <;> omega) _).setCell (by simp <;> omega) _).setCell (by simp <;> omega) _⟩
theorem Add_right (s:Bool) (a:Option Addr) (n cap m:Nat) (x:Int) (s':Bool) (a':Option Addr) (cap' m':Nat) (x':Int) (w:World) (h:Dy w s a n m x) (h':Dy w s' a' 0 m' x') (hn:0 < n) :
  Calls Tryz.prog 134 #[.agg #[.bool s,.slice a n cap,.int .i64 x],.agg #[.bool s',.slice a' 0 cap',.int .i64 x']] w fun e w'=>(∃ A N C,e = .returned (.tuple #[.agg #[.bool s,.slice A N C,.int .i64 x],.int .i64 0])∧Mine w' w.heap.size A N C m)∧Below w.heap.size w w':=by
 have H:=hide h
 have H':=hide h'
 clear h h'
 go_enter Tryz.func134,Tryz.ntmps134
 go_wp2_with fail
 refine (checkBoth_dy s a n cap m x s' a' 0 cap' m' x' _ ((unhide H).kept (gr_trans (gr_trans (gr_alloc _ _) (gr_alloc _ _)) (gr_alloc _ _))) ((unhide H').kept (gr_trans (gr_trans (gr_alloc _ _) (gr_alloc _ _)) (gr_alloc _ _)))).mono ?_
 rintro e w1 ⟨rfl,hb1⟩
 have hS:=(Fs.three w _ _ _ _ _ _).kept hb1
 obtain ⟨⟨ya,yb,yc,-⟩,⟨yd,ye,yf,-⟩,⟨yg,yh,yi,-⟩,-⟩:=hS.cells
 go_wp2_with fail
 refine (isNought_no a n cap hn _).mono ?_
 rintro e w2 ⟨rfl,hb2⟩
 replace hS:=hS.kept hb2
 clear ya yb yc yd ye yf yg yh yi
 obtain ⟨⟨yj,yk,yl,-⟩,⟨ym,yn,yo,-⟩,⟨yp,yq,yr,-⟩,-⟩:=hS.cells
 go_wp2_with fail
 refine (isNought_yes a' cap' _).mono ?_
 rintro e w3 ⟨rfl,hb3⟩
 replace hS:=hS.kept hb3
 clear yj yk yl ym yn yo yp yq yr
 obtain ⟨⟨ys,yt,yu,-⟩,⟨yv,yw,yx,-⟩,⟨yy,yz,y0,-⟩,-⟩:=hS.cells
 have hltw3_0:w.heap.size < w3.heap.size:=hS.lt 0 rfl
 have hltw3_1:w.heap.size+1 < w3.heap.size:=hS.lt 1 rfl
 have hltw3_2:w.heap.size+2 < w3.heap.size:=hS.lt 2 rfl
 go_wp2_with fail
 refine (copied_any s a n cap m x _ ((unhide H).kept hS.fr).num).mono ?_
 rintro e w4 ⟨⟨A4,C4,rfl,f4⟩,hb4⟩
 replace hS:=hS.kept hb4
 clear ys yt yu yv yw yx yy yz y0
 obtain ⟨⟨y1,y2,y3,-⟩,⟨y4,y5,y6,-⟩,⟨y7,y8,y9,-⟩,-⟩:=hS.cells
 have F4:=hide f4
 clear f4
 have Q_:=hS.frozen (b:=w.heap.size+2) (cs:=#[.bool false,.slice none 0 0,.int .i64 0]) (t:=58) (by simp)
 have fz0:=Q_ 0
 have fz1:=Q_ 1
 have fz2:=Q_ 2
 clear Q_
 go_wp2
 exact bodyPost_ret (v:=.tuple #[.agg #[.bool s,.slice A4 n C4,.int .i64 x],.int .i64 0]) (by simp [results,Tryz.results134,go_sem,y7,y8,y9]) rfl ⟨⟨_,_,_,rfl,((((unhide F4).set (by exact hltw3_2) _).set (by exact hltw3_2) _).set (by exact hltw3_2) _).mono (by omega)⟩,((hS.fr.setCell (by simp <;> omega) _).setCell (by simp <;> omega) _).setCell (by simp <;> omega) _⟩
theorem Add_zero (s:Bool) (a:Option Addr) (n cap m:Nat) (x:Int) (s':Bool) (a':Option Addr) (n' cap' m':Nat) (x':Int) (t:Int) (j j':Nat) (r:Bool) (w:World) (h:Dy w s a n m x) (h':Dy w s' a' n' m' x') (hn:0 < n) (hn':0 < n') (hmin:min x x' = t) (hj:x - t = (j:Int)) (hj':x' - t = (j':Int)) (hj2:j < 9223372036854775808) (hj2':j' < 9223372036854775808) (hno:¬ Over (m * 2 ^ j)) (hno':¬ Over (m' * 2 ^ j')) (hS9:Hid (∀ (W:World) (A:Option Addr) (N C:Nat) (A':Option Addr) (N' C':Nat),Num W A N (m * 2 ^ j)→Num W A' N' (m' * 2 ^ j')→Calls Tryz.prog 162 #[.bool s,.agg #[.slice A N C],.bool s',.agg #[.slice A' N' C']] W fun e w'=>(∃ A N C,e = .returned (.tuple #[.bool r,.agg #[.slice A N C],.int .i64 0])∧Mine w' W.heap.size A N C 0)∧Below W.heap.size W w')) :
  Calls Tryz.prog 134 #[.agg #[.bool s,.slice a n cap,.int .i64 x],.agg #[.bool s',.slice a' n' cap',.int .i64 x']] w fun e w'=>e = .returned (.tuple #[.agg #[.bool false,.slice none 0 0,.int .i64 0],.int .i64 0])∧Below w.heap.size w w':=by
 have H:=hide h
 have H':=hide h'
 have HJ:=hide (And.intro hj (And.intro hj' (And.intro hno hno')))
 clear h h' hj hj' hno hno'
 go_enter Tryz.func134,Tryz.ntmps134
 go_wp2_with fail
 refine (checkBoth_dy s a n cap m x s' a' n' cap' m' x' _ ((unhide H).kept (gr_trans (gr_trans (gr_alloc _ _) (gr_alloc _ _)) (gr_alloc _ _))) ((unhide H').kept (gr_trans (gr_trans (gr_alloc _ _) (gr_alloc _ _)) (gr_alloc _ _)))).mono ?_
 rintro e w1 ⟨rfl,hb1⟩
 have hS:=(Fs.three w _ _ _ _ _ _).kept hb1
 obtain ⟨⟨ya,yb,yc,-⟩,⟨yd,ye,yf,-⟩,⟨yg,yh,yi,-⟩,-⟩:=hS.cells
 go_wp2_with fail
 refine (isNought_no a n cap hn _).mono ?_
 rintro e w2 ⟨rfl,hb2⟩
 replace hS:=hS.kept hb2
 clear ya yb yc yd ye yf yg yh yi
 obtain ⟨⟨yj,yk,yl,-⟩,⟨ym,yn,yo,-⟩,⟨yp,yq,yr,-⟩,-⟩:=hS.cells
 go_wp2_with fail
 refine (isNought_no a' n' cap' hn' _).mono ?_
 rintro e w3 ⟨rfl,hb3⟩
 replace hS:=hS.kept hb3
 clear yj yk yl ym yn yo yp yq yr
 obtain ⟨⟨ys,yt,yu,-⟩,⟨yv,yw,yx,-⟩,⟨yy,yz,y0,-⟩,-⟩:=hS.cells
 go_wp2_with fail
 refine (together_ok s a n cap m x s' a' n' cap' m' x' t j j' _ ((unhide H).kept hS.fr).num ((unhide H').kept hS.fr).num hmin (unhide HJ).1 (unhide HJ).2.1 hj2 hj2' (unhide HJ).2.2.1 (unhide HJ).2.2.2).mono ?_
 rintro e w4 ⟨⟨A4,N4,C4,B4,O4,Q4,rfl,g4,g5⟩,hb4⟩
 replace hS:=hS.kept hb4
 clear ys yt yu yv yw yx yy yz y0
 obtain ⟨⟨y1,y2,y3,-⟩,⟨y4,y5,y6,-⟩,⟨y7,y8,y9,-⟩,-⟩:=hS.cells
 have G4:=hide g4
 have G5:=hide g5
 clear g4 g5
 have hltw4_0:w.heap.size < w4.heap.size:=hS.lt 0 rfl
 have hltw4_1:w.heap.size+1 < w4.heap.size:=hS.lt 1 rfl
 have hltw4_2:w.heap.size+2 < w4.heap.size:=hS.lt 2 rfl
 replace hS:=(hS.alloc #[.slice A4 N4 C4] 27).alloc #[.slice B4 O4 Q4] 27
 rw [World.size_alloc] at hS
 go_wp2_with fail
 refine (unhide hS9 _ A4 N4 C4 B4 O4 Q4 (((unhide G4).alloc _).alloc _) (((unhide G5).alloc _).alloc _)).mono ?_
 rintro e w5 ⟨⟨A5,N5,C5,rfl,f5⟩,hb5⟩
 replace hS:=hS.kept hb5
 clear y1 y2 y3 y4 y5 y6 y7 y8 y9
 obtain ⟨⟨yba,-⟩,⟨ybb,-⟩,⟨ybc,ybd,ybe,-⟩,⟨ybf,ybg,ybh,-⟩,⟨ybi,ybj,ybk,-⟩,-⟩:=hS.cells
 have F5:=hide f5
 clear f5
 have hltw5_0:w4.heap.size+1 < w5.heap.size:=hS.lt 0 rfl
 have hltw5_1:w4.heap.size < w5.heap.size:=hS.lt 1 rfl
 have hltw5_2:w.heap.size < w5.heap.size:=hS.lt 2 rfl
 have hltw5_3:w.heap.size+1 < w5.heap.size:=hS.lt 3 rfl
 have hltw5_4:w.heap.size+2 < w5.heap.size:=hS.lt 4 rfl
 replace hS:=hS.alloc #[.slice A5 N5 C5] 27
 obtain rfl:=(unhide F5).num.zero.2 rfl
 go_wp2_with fail
 refine (make_nought r A5 C5 t _ ((unhide F5).alloc _).num).mono ?_
 rintro e w6 ⟨rfl,hb6⟩
 replace hS:=hS.kept hb6
 clear yba ybb ybc ybd ybe ybf ybg ybh ybi ybj ybk
 obtain ⟨⟨ybl,-⟩,⟨ybm,-⟩,⟨ybn,-⟩,⟨ybo,ybp,ybq,-⟩,⟨ybr,ybs,ybt,-⟩,⟨ybu,ybv,ybw,-⟩,-⟩:=hS.cells
 have Q_:=hS.frozen (b:=w.heap.size+2) (cs:=#[.bool false,.slice none 0 0,.int .i64 0]) (t:=58) (by simp)
 have fz0:=Q_ 0
 have fz1:=Q_ 1
 have fz2:=Q_ 2
 clear Q_
 go_wp2
 exact bodyPost_ret (v:=.tuple #[.agg #[.bool false,.slice none 0 0,.int .i64 0],.int .i64 0]) (by simp [results,Tryz.results134,go_sem,ybu,ybv,ybw]) rfl ⟨rfl,((hS.fr.setCell (by simp <;> omega) _).setCell (by simp <;> omega) _).setCell (by simp <;> omega) _⟩
theorem Add_above (s:Bool) (a:Option Addr) (n cap m:Nat) (x:Int) (s':Bool) (a':Option Addr) (n' cap' m':Nat) (x':Int) (t:Int) (j j' v z:Nat) (r:Bool) (w:World) (h:Dy w s a n m x) (h':Dy w s' a' n' m' x') (hn:0 < n) (hn':0 < n') (hmin:min x x' = t) (hj:x - t = (j:Int)) (hj':x' - t = (j':Int)) (hj2:j < 9223372036854775808) (hj2':j' < 9223372036854775808) (hno:¬ Over (m * 2 ^ j)) (hno':¬ Over (m' * 2 ^ j')) (hT:Tb w) (hv:0 < v) (hz:Tz v z) (hz2:z < 524288) (hx:1073741824 < t+z) (hS9:Hid (∀ (W:World) (A:Option Addr) (N C:Nat) (A':Option Addr) (N' C':Nat),Num W A N (m * 2 ^ j)→Num W A' N' (m' * 2 ^ j')→Calls Tryz.prog 162 #[.bool s,.agg #[.slice A N C],.bool s',.agg #[.slice A' N' C']] W fun e w'=>(∃ A N C,e = .returned (.tuple #[.bool r,.agg #[.slice A N C],.int .i64 0])∧Mine w' W.heap.size A N C v)∧Below W.heap.size W w')) :
  Calls Tryz.prog 134 #[.agg #[.bool s,.slice a n cap,.int .i64 x],.agg #[.bool s',.slice a' n' cap',.int .i64 x']] w fun e w'=>e = .returned (.tuple #[.agg #[.bool false,.slice none 0 0,.int .i64 0],.int .i64 4])∧Below w.heap.size w w':=by
 have H:=hide h
 have H':=hide h'
 have HJ:=hide (And.intro hj (And.intro hj' (And.intro hno hno')))
 clear h h' hj hj' hno hno'
 have HT:=hide hT
 have HV:=hide (And.intro hv hz)
 clear hT hv hz
 go_enter Tryz.func134,Tryz.ntmps134
 go_wp2_with fail
 refine (checkBoth_dy s a n cap m x s' a' n' cap' m' x' _ ((unhide H).kept (gr_trans (gr_trans (gr_alloc _ _) (gr_alloc _ _)) (gr_alloc _ _))) ((unhide H').kept (gr_trans (gr_trans (gr_alloc _ _) (gr_alloc _ _)) (gr_alloc _ _)))).mono ?_
 rintro e w1 ⟨rfl,hb1⟩
 have hS:=(Fs.three w _ _ _ _ _ _).kept hb1
 obtain ⟨⟨ya,yb,yc,-⟩,⟨yd,ye,yf,-⟩,⟨yg,yh,yi,-⟩,-⟩:=hS.cells
 go_wp2_with fail
 refine (isNought_no a n cap hn _).mono ?_
 rintro e w2 ⟨rfl,hb2⟩
 replace hS:=hS.kept hb2
 clear ya yb yc yd ye yf yg yh yi
 obtain ⟨⟨yj,yk,yl,-⟩,⟨ym,yn,yo,-⟩,⟨yp,yq,yr,-⟩,-⟩:=hS.cells
 go_wp2_with fail
 refine (isNought_no a' n' cap' hn' _).mono ?_
 rintro e w3 ⟨rfl,hb3⟩
 replace hS:=hS.kept hb3
 clear yj yk yl ym yn yo yp yq yr
 obtain ⟨⟨ys,yt,yu,-⟩,⟨yv,yw,yx,-⟩,⟨yy,yz,y0,-⟩,-⟩:=hS.cells
 go_wp2_with fail
 refine (together_ok s a n cap m x s' a' n' cap' m' x' t j j' _ ((unhide H).kept hS.fr).num ((unhide H').kept hS.fr).num hmin (unhide HJ).1 (unhide HJ).2.1 hj2 hj2' (unhide HJ).2.2.1 (unhide HJ).2.2.2).mono ?_
 rintro e w4 ⟨⟨A4,N4,C4,B4,O4,Q4,rfl,g4,g5⟩,hb4⟩
 replace hS:=hS.kept hb4
 clear ys yt yu yv yw yx yy yz y0
 obtain ⟨⟨y1,y2,y3,-⟩,⟨y4,y5,y6,-⟩,⟨y7,y8,y9,-⟩,-⟩:=hS.cells
 have G4:=hide g4
 have G5:=hide g5
 clear g4 g5
 have hltw4_0:w.heap.size < w4.heap.size:=hS.lt 0 rfl
 have hltw4_1:w.heap.size+1 < w4.heap.size:=hS.lt 1 rfl
 have hltw4_2:w.heap.size+2 < w4.heap.size:=hS.lt 2 rfl
 replace hS:=(hS.alloc #[.slice A4 N4 C4] 27).alloc #[.slice B4 O4 Q4] 27
 rw [World.size_alloc] at hS
 go_wp2_with fail
 refine (unhide hS9 _ A4 N4 C4 B4 O4 Q4 (((unhide G4).alloc _).alloc _) (((unhide G5).alloc _).alloc _)).mono ?_
 rintro e w5 ⟨⟨A5,N5,C5,rfl,f5⟩,hb5⟩
 replace hS:=hS.kept hb5
 clear y1 y2 y3 y4 y5 y6 y7 y8 y9
 obtain ⟨⟨yba,-⟩,⟨ybb,-⟩,⟨ybc,ybd,ybe,-⟩,⟨ybf,ybg,ybh,-⟩,⟨ybi,ybj,ybk,-⟩,-⟩:=hS.cells
 have F5:=hide f5
 clear f5
 have hltw5_0:w4.heap.size+1 < w5.heap.size:=hS.lt 0 rfl
 have hltw5_1:w4.heap.size < w5.heap.size:=hS.lt 1 rfl
 have hltw5_2:w.heap.size < w5.heap.size:=hS.lt 2 rfl
 have hltw5_3:w.heap.size+1 < w5.heap.size:=hS.lt 3 rfl
 have hltw5_4:w.heap.size+2 < w5.heap.size:=hS.lt 4 rfl
 replace hS:=hS.alloc #[.slice A5 N5 C5] 27
 go_wp2_with fail
 refine (make_above r A5 N5 C5 v z t _ ((unhide F5).alloc _).num (unhide HV).1 ((unhide HT).kept hS.fr) (unhide HV).2 hz2 hx).mono ?_
 rintro e w6 ⟨rfl,hb6⟩
 replace hS:=hS.kept hb6
 clear yba ybb ybc ybd ybe ybf ybg ybh ybi ybj ybk
 obtain ⟨⟨ybl,-⟩,⟨ybm,-⟩,⟨ybn,-⟩,⟨ybo,ybp,ybq,-⟩,⟨ybr,ybs,ybt,-⟩,⟨ybu,ybv,ybw,-⟩,-⟩:=hS.cells
 have Q_:=hS.frozen (b:=w.heap.size+2) (cs:=#[.bool false,.slice none 0 0,.int .i64 0]) (t:=58) (by simp)
 have fz0:=Q_ 0
 have fz1:=Q_ 1
 have fz2:=Q_ 2
 clear Q_
 go_wp2
 exact bodyPost_ret (v:=.tuple #[.agg #[.bool false,.slice none 0 0,.int .i64 0],.int .i64 4]) (by simp [results,Tryz.results134,go_sem,ybu,ybv,ybw]) rfl ⟨rfl,((hS.fr.setCell (by simp <;> omega) _).setCell (by simp <;> omega) _).setCell (by simp <;> omega) _⟩
theorem Add_below (s:Bool) (a:Option Addr) (n cap m:Nat) (x:Int) (s':Bool) (a':Option Addr) (n' cap' m':Nat) (x':Int) (t:Int) (j j' v z:Nat) (r:Bool) (w:World) (h:Dy w s a n m x) (h':Dy w s' a' n' m' x') (hn:0 < n) (hn':0 < n') (hmin:min x x' = t) (hj:x - t = (j:Int)) (hj':x' - t = (j':Int)) (hj2:j < 9223372036854775808) (hj2':j' < 9223372036854775808) (hno:¬ Over (m * 2 ^ j)) (hno':¬ Over (m' * 2 ^ j')) (hT:Tb w) (hv:0 < v) (hz:Tz v z) (hz2:z < 524288) (hx:t+z < -1073741824) (hS9:Hid (∀ (W:World) (A:Option Addr) (N C:Nat) (A':Option Addr) (N' C':Nat),Num W A N (m * 2 ^ j)→Num W A' N' (m' * 2 ^ j')→Calls Tryz.prog 162 #[.bool s,.agg #[.slice A N C],.bool s',.agg #[.slice A' N' C']] W fun e w'=>(∃ A N C,e = .returned (.tuple #[.bool r,.agg #[.slice A N C],.int .i64 0])∧Mine w' W.heap.size A N C v)∧Below W.heap.size W w')) :
  Calls Tryz.prog 134 #[.agg #[.bool s,.slice a n cap,.int .i64 x],.agg #[.bool s',.slice a' n' cap',.int .i64 x']] w fun e w'=>e = .returned (.tuple #[.agg #[.bool false,.slice none 0 0,.int .i64 0],.int .i64 4])∧Below w.heap.size w w':=by
 have H:=hide h
 have H':=hide h'
 have HJ:=hide (And.intro hj (And.intro hj' (And.intro hno hno')))
 clear h h' hj hj' hno hno'
 have HT:=hide hT
 have HV:=hide (And.intro hv hz)
 clear hT hv hz
 go_enter Tryz.func134,Tryz.ntmps134
 go_wp2_with fail
 refine (checkBoth_dy s a n cap m x s' a' n' cap' m' x' _ ((unhide H).kept (gr_trans (gr_trans (gr_alloc _ _) (gr_alloc _ _)) (gr_alloc _ _))) ((unhide H').kept (gr_trans (gr_trans (gr_alloc _ _) (gr_alloc _ _)) (gr_alloc _ _)))).mono ?_
 rintro e w1 ⟨rfl,hb1⟩
 have hS:=(Fs.three w _ _ _ _ _ _).kept hb1
 obtain ⟨⟨ya,yb,yc,-⟩,⟨yd,ye,yf,-⟩,⟨yg,yh,yi,-⟩,-⟩:=hS.cells
 go_wp2_with fail
 refine (isNought_no a n cap hn _).mono ?_
 rintro e w2 ⟨rfl,hb2⟩
 replace hS:=hS.kept hb2
 clear ya yb yc yd ye yf yg yh yi
 obtain ⟨⟨yj,yk,yl,-⟩,⟨ym,yn,yo,-⟩,⟨yp,yq,yr,-⟩,-⟩:=hS.cells
 go_wp2_with fail
 refine (isNought_no a' n' cap' hn' _).mono ?_
 rintro e w3 ⟨rfl,hb3⟩
 replace hS:=hS.kept hb3
 clear yj yk yl ym yn yo yp yq yr
 obtain ⟨⟨ys,yt,yu,-⟩,⟨yv,yw,yx,-⟩,⟨yy,yz,y0,-⟩,-⟩:=hS.cells
 go_wp2_with fail
 refine (together_ok s a n cap m x s' a' n' cap' m' x' t j j' _ ((unhide H).kept hS.fr).num ((unhide H').kept hS.fr).num hmin (unhide HJ).1 (unhide HJ).2.1 hj2 hj2' (unhide HJ).2.2.1 (unhide HJ).2.2.2).mono ?_
 rintro e w4 ⟨⟨A4,N4,C4,B4,O4,Q4,rfl,g4,g5⟩,hb4⟩
 replace hS:=hS.kept hb4
 clear ys yt yu yv yw yx yy yz y0
 obtain ⟨⟨y1,y2,y3,-⟩,⟨y4,y5,y6,-⟩,⟨y7,y8,y9,-⟩,-⟩:=hS.cells
 have G4:=hide g4
 have G5:=hide g5
 clear g4 g5
 have hltw4_0:w.heap.size < w4.heap.size:=hS.lt 0 rfl
 have hltw4_1:w.heap.size+1 < w4.heap.size:=hS.lt 1 rfl
 have hltw4_2:w.heap.size+2 < w4.heap.size:=hS.lt 2 rfl
 replace hS:=(hS.alloc #[.slice A4 N4 C4] 27).alloc #[.slice B4 O4 Q4] 27
 rw [World.size_alloc] at hS
 go_wp2_with fail
 refine (unhide hS9 _ A4 N4 C4 B4 O4 Q4 (((unhide G4).alloc _).alloc _) (((unhide G5).alloc _).alloc _)).mono ?_
 rintro e w5 ⟨⟨A5,N5,C5,rfl,f5⟩,hb5⟩
 replace hS:=hS.kept hb5
 clear y1 y2 y3 y4 y5 y6 y7 y8 y9
 obtain ⟨⟨yba,-⟩,⟨ybb,-⟩,⟨ybc,ybd,ybe,-⟩,⟨ybf,ybg,ybh,-⟩,⟨ybi,ybj,ybk,-⟩,-⟩:=hS.cells
 have F5:=hide f5
 clear f5
 have hltw5_0:w4.heap.size+1 < w5.heap.size:=hS.lt 0 rfl
 have hltw5_1:w4.heap.size < w5.heap.size:=hS.lt 1 rfl
 have hltw5_2:w.heap.size < w5.heap.size:=hS.lt 2 rfl
 have hltw5_3:w.heap.size+1 < w5.heap.size:=hS.lt 3 rfl
 have hltw5_4:w.heap.size+2 < w5.heap.size:=hS.lt 4 rfl
 replace hS:=hS.alloc #[.slice A5 N5 C5] 27
 go_wp2_with fail
 refine (make_below r A5 N5 C5 v z t _ ((unhide F5).alloc _).num (unhide HV).1 ((unhide HT).kept hS.fr) (unhide HV).2 hz2 hx).mono ?_
 rintro e w6 ⟨rfl,hb6⟩
 replace hS:=hS.kept hb6
 clear yba ybb ybc ybd ybe ybf ybg ybh ybi ybj ybk
 obtain ⟨⟨ybl,-⟩,⟨ybm,-⟩,⟨ybn,-⟩,⟨ybo,ybp,ybq,-⟩,⟨ybr,ybs,ybt,-⟩,⟨ybu,ybv,ybw,-⟩,-⟩:=hS.cells
 have Q_:=hS.frozen (b:=w.heap.size+2) (cs:=#[.bool false,.slice none 0 0,.int .i64 0]) (t:=58) (by simp)
 have fz0:=Q_ 0
 have fz1:=Q_ 1
 have fz2:=Q_ 2
 clear Q_
 go_wp2
 exact bodyPost_ret (v:=.tuple #[.agg #[.bool false,.slice none 0 0,.int .i64 0],.int .i64 4]) (by simp [results,Tryz.results134,go_sem,ybu,ybv,ybw]) rfl ⟨rfl,((hS.fr.setCell (by simp <;> omega) _).setCell (by simp <;> omega) _).setCell (by simp <;> omega) _⟩
end Go.Proofs.YtaidedkpfnidpaaGreatDoor
