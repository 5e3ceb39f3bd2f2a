/- Of what RoundOrderRow stands on: Rc8Far Rc8Cmp Rc8Rat SOrdLaw. -/
import Derived.Test.YtcclpafdkgnmiaaGreatDoorPax
import Derived.Test.YtcclpafdkgnmiaaGreatDoorPau
import Derived.Test.YtcclpafdkgnmiaaGreatDoorPab
import Derived.Test.YtcclpafdkgnmiaaGreatDoorPag
import Derived.Test.YtcclpafdkgnmiaaGreatDoorPba
import Derived.Test.YtcclpafdkgnmiaaGreatDoorPbh
namespace Go.Proofs.YtcclpafdkgnmiaaGreatDoor
open Go.RowKit
set_option maxHeartbeats 4000000
set_option maxRecDepth 20000
theorem mul_no (a a':Option Addr) (n n' cap cap' m m':Nat) (w:World) (h:Num w a n m) (h':Num w a' n' m') (ho:¬ Over (m * m')) :
  Calls Tryz.prog 82 #[.agg #[.slice a n cap],.agg #[.slice a' n' cap']] w fun e w'=>(∃ a n cap,e = .returned (.tuple #[.agg #[.slice a n cap],.int .i64 0])∧Mine w' w.heap.size a n cap (m * m'))∧Below w.heap.size w w':=by
 refine (mul_any a a' n n' cap cap' m m' w h h').mono ?_
 rintro e w' ⟨h1,hb⟩
 rcases h1 with h1|⟨_,h1⟩
 ·exact ⟨h1,hb⟩
 ·exact absurd h1 ho
theorem wmul_0 (p:Nat) (a:Option Addr) (n cap m:Nat) (a':Option Addr) (n' cap' m':Nat) (ho:¬ Over (m * m')) (w:World) (hR:Rz w p 0) (h:Num w a n m) (h':Num w a' n' m') :
  Calls Tryz.prog 52 #[.pointer (some ⟨p,0,none⟩),.agg #[.slice a n cap],.agg #[.slice a' n' cap']] w fun e w'=>(∃ A N C,e = .returned (.agg #[.slice A N C])∧Mine w' w.heap.size A N C (m * m'))∧Below w.heap.size w w':=by
 have H:=hide h
 have H':=hide h'
 have HR:=hide hR
 have HO:=hide ho
 clear h h' hR ho
 go_enter Tryz.func52,Tryz.ntmps52
 go_wp2_with fail
 have hS:Fs w (((w.alloc (.cells #[.slice a n cap] 25)).alloc (.cells #[.slice a' n' cap'] 25)).alloc (.cells #[.slice none 0 0] 25)) [⟨w.heap.size,#[.slice a n cap],25⟩,⟨w.heap.size+1,#[.slice a' n' cap'],25⟩,⟨w.heap.size+2,#[.slice none 0 0],25⟩]:=Fs.three w _ _ _ _ _ _
 go_wp2_with fail
 have hS3s:w.heap.size≤(((w.alloc (.cells #[.slice a n cap] 25)).alloc (.cells #[.slice a' n' cap'] 25)).alloc (.cells #[.slice none 0 0] 25)).heap.size:=hS.size
 have hs9:∀ x9:Nat×(Pk→World→Prop),x9∈([(5,fun q W=>Mine W (w.heap.size+3) q.A q.N q.C (m * m'))]:List (Nat×(Pk→World→Prop)))→∀ q9:Pk,St (w.heap.size+3) (x9.2 q9):=by
  intro x hx q
  simp only [List.mem_cons,List.not_mem_nil,or_false] at hx
  rcases hx with rfl
  ·exact st_mine _ _ _ _ _
 have h09:∀ x9:Nat×(Pk→World→Prop),x9∈([(5,fun q W=>Mine W (w.heap.size+3) q.A q.N q.C (m * m'))]:List (Nat×(Pk→World→Prop)))→10≤x9.1→x9.2 ⟨none,0,0⟩ (((w.alloc (.cells #[.slice a n cap] 25)).alloc (.cells #[.slice a' n' cap'] 25)).alloc (.cells #[.slice none 0 0] 25)):=by
  intro x hx hn9
  simp only [List.mem_cons,List.not_mem_nil,or_false] at hx
  rcases hx with rfl
  ·exact absurd hn9 (by simp)
 refine wp_region_any (by kernel_rfl) ?_
 refine wpAny_pick (fun p9=>[some (7,.pointer (some ⟨p,0,none⟩)),some (8,.pointer (some ⟨p,0,none⟩)),some (9,.pointer (some ⟨p,0,none⟩)),some (10,.agg #[.slice a n cap]),some (11,.agg #[.slice a' n' cap']),some (12,.tuple #[.agg #[.slice (p9 5).A (p9 5).N (p9 5).C],.int .i64 0]),some (13,.agg #[.slice (p9 5).A (p9 5).N (p9 5).C]),some (14,.int .i64 0),some (15,.agg #[.slice (p9 5).A (p9 5).N (p9 5).C]),none])
  (fun p9 l9 W9=>Pm w (w.heap.size+3) [(5,fun q W=>Mine W (w.heap.size+3) q.A q.N q.C (m * m'))] p9 l9 W9 (pickBs l9 [(9,[⟨w.heap.size,#[.slice a n cap],25⟩,⟨w.heap.size+1,#[.slice a' n' cap'],25⟩,⟨w.heap.size+2,#[.slice (p9 5).A (p9 5).N (p9 5).C],25⟩])] [⟨w.heap.size,#[.slice a n cap],25⟩,⟨w.heap.size+1,#[.slice a' n' cap'],25⟩,⟨w.heap.size+2,#[.slice none 0 0],25⟩])) _ _ (fun _=>rfl) (by kernel_rfl) (fun _=>rfl) (fun _=>rfl) ?_ ?_ (fun _=>⟨none,0,0⟩) (Pm.start2 hS _ _ _ (by first|omega|(simp; done)|(simp; omega)) hs9 h09)
 ·intro p9 l9 t9 W9 i9 hD hi9 hl9 hM
  obtain ⟨o9,ho9,hd9⟩:=(mem_ready.1 hi9).2
  have hin9:i9 < 10:=by
   by_cases h:i9 < 10
   ·exact h
   ·rw [Array.getElem?_eq_none (by rw [hD.len]; simp; omega)] at hl9; cases hl9
  have hcase:i9 = 0∨i9 = 1∨i9 = 2∨i9 = 3∨i9 = 4∨i9 = 5∨i9 = 6∨i9 = 7∨i9 = 8∨i9 = 9:=by omega
  clear hin9
  rcases hcase with rfl|rfl|rfl|rfl|rfl|rfl|rfl|rfl|rfl|rfl
  ·cases ho9
   have r0:=hD.old 0 _ rfl rfl
   refine wpOp_step rfl fun K hK=>?_
   go_simp
   exact hK _ _ ⟨p9,fun _ _=>rfl,rfl,(Pm.keepM rfl (hM.val rfl))⟩
  ·cases ho9
   have r7:=hD.od hd9 0 7 _ rfl (by simp)
   refine wpOp_step rfl fun K hK=>?_
   go_simp
   exact hK _ _ ⟨p9,fun _ _=>rfl,rfl,(Pm.keepM rfl (hM.val rfl))⟩
  ·cases ho9
   have r8:=hD.od hd9 1 8 _ rfl (by simp)
   refine wpOp_step rfl fun K hK=>?_
   go_simp
   exact hK _ _ ⟨p9,fun _ _=>rfl,rfl,(Pm.keepM rfl (hM.val rfl))⟩
  ·cases ho9
   have r4:=hD.old 4 _ rfl rfl
   have hM0:Fs w W9 [⟨w.heap.size,#[.slice a n cap],25⟩,⟨w.heap.size+1,#[.slice a' n' cap'],25⟩,⟨w.heap.size+2,#[.slice none 0 0],25⟩]:=by
    have hM1:=hM.st
    simp only [pickBs] at hM1
    rw [if_neg (hD.waits 3 9 _ ⟨3,.phase⟩ hl9 rfl (by simp) rfl rfl)] at hM1
    exact hM1
   have c9_0:=hM0.cellAt (b:=w.heap.size) (cs:=#[.slice a n cap]) (t:=25) (by simp) 0 _ rfl
   clear hM0
   refine wpOp_step rfl fun K hK=>?_
   go_simp
   exact hK _ _ ⟨p9,fun _ _=>rfl,rfl,(Pm.keepM rfl (hM.val rfl))⟩
  ·cases ho9
   have r5:=hD.old 5 _ rfl rfl
   have hM0:Fs w W9 [⟨w.heap.size,#[.slice a n cap],25⟩,⟨w.heap.size+1,#[.slice a' n' cap'],25⟩,⟨w.heap.size+2,#[.slice none 0 0],25⟩]:=by
    have hM1:=hM.st
    simp only [pickBs] at hM1
    rw [if_neg (hD.waits 4 9 _ ⟨4,.phase⟩ hl9 rfl (by simp) rfl rfl)] at hM1
    exact hM1
   have c9_0:=hM0.cellAt (b:=w.heap.size+1) (cs:=#[.slice a' n' cap']) (t:=25) (by simp) 0 _ rfl
   clear hM0
   refine wpOp_step rfl fun K hK=>?_
   go_simp
   exact hK _ _ ⟨p9,fun _ _=>rfl,rfl,(Pm.keepM rfl (hM.val rfl))⟩
  ·cases ho9
   have r10:=hD.od hd9 3 10 _ rfl (by simp)
   have r11:=hD.od hd9 4 11 _ rfl (by simp)
   have hM0:Fs w W9 [⟨w.heap.size,#[.slice a n cap],25⟩,⟨w.heap.size+1,#[.slice a' n' cap'],25⟩,⟨w.heap.size+2,#[.slice none 0 0],25⟩]:=by
    have hM1:=hM.st
    simp only [pickBs] at hM1
    rw [if_neg (hD.waits 5 9 _ ⟨5,.phase⟩ hl9 rfl (by simp) rfl rfl)] at hM1
    exact hM1
   have HD:=hide hD
   have hn9:=hD.waits 5 9 _ ⟨5,.phase⟩ hl9 rfl (by simp) rfl rfl
   refine wpOp_step rfl fun K hK=>?_
   go_simp
   go_wp2_with fail
   refine (mul_no a a' n n' cap cap' m m' _ ((unhide H).kept hM.st.fr) ((unhide H').kept hM.st.fr) (unhide HO)).mono ?_
   rintro en w9 ⟨⟨a9,n9,c9,rfl,h9⟩,hb9⟩
   refine hK _ _ ⟨p9.set 5 ⟨a9,n9,c9⟩,?_,rfl,(Pm.keepM rfl (((hM.kept hs9 hb9).pick ⟨a9,n9,c9⟩ ?_).into (by simp only [pickBs]; rw [if_neg hn9,if_neg hn9])))⟩
   ·intro k9 hk9
    clear hM hK
    match k9,hk9 with
    | 0,_=>rfl
    | 1,_=>rfl
    | 2,_=>rfl
    | 3,_=>rfl
    | 4,_=>rfl
    | 5,hk9=>exact absurd (hl9.symm.trans hk9) (by simp)
    | 6,hk9=>exact absurd (hl9.symm.trans (getD_true ((unhide HD).shut 6 _ (hk9) rfl ⟨5,.data⟩ (by simp) rfl))) (by simp)
    | 7,hk9=>exact absurd (hl9.symm.trans (getD_true ((unhide HD).shut 7 _ (hk9) rfl ⟨5,.data⟩ (by simp) rfl))) (by simp)
    | 8,hk9=>exact absurd (hl9.symm.trans (getD_true ((unhide HD).shut 8 _ (hk9) rfl ⟨5,.chain⟩ (by simp) rfl))) (by simp)
    | 9,hk9=>exact absurd (hl9.symm.trans (getD_true ((unhide HD).shut 9 _ (hk9) rfl ⟨5,.phase⟩ (by simp) rfl))) (by simp)
    | k9+10,_=>rfl
   ·intro x hx he; simp only [List.mem_cons,List.not_mem_nil,or_false] at hx; subst hx; exact h9.mono hM.bw
  ·cases ho9
   have r12:=hD.od hd9 5 12 _ rfl (by simp)
   refine wpOp_step rfl fun K hK=>?_
   go_simp
   exact hK _ _ ⟨p9,fun _ _=>rfl,rfl,(Pm.keepM rfl (hM.val rfl))⟩
  ·cases ho9
   have r12:=hD.od hd9 5 12 _ rfl (by simp)
   refine wpOp_step rfl fun K hK=>?_
   go_simp
   exact hK _ _ ⟨p9,fun _ _=>rfl,rfl,(Pm.keepM rfl (hM.val rfl))⟩
  ·cases ho9
   have r9:=hD.od hd9 2 9 _ rfl (by simp)
   have r13:=hD.od hd9 6 13 _ rfl (by simp)
   have r14:=hD.od hd9 7 14 _ rfl (by simp)
   have g5:=hM.fx _ (List.mem_of_getElem? (i:=0) rfl) (Or.inl (getD_true (hd9 ⟨5,.chain⟩ (by simp) rfl)))
   simp only [] at g5
   have hM0:Fs w W9 [⟨w.heap.size,#[.slice a n cap],25⟩,⟨w.heap.size+1,#[.slice a' n' cap'],25⟩,⟨w.heap.size+2,#[.slice none 0 0],25⟩]:=by
    have hM1:=hM.st
    simp only [pickBs] at hM1
    rw [if_neg (hD.waits 8 9 _ ⟨8,.data⟩ hl9 rfl (by simp) rfl rfl)] at hM1
    exact hM1
   refine wpOp_step rfl fun K hK=>?_
   go_simp
   go_wp2_with fail
   refine (runNat_z p 0 _ _ _ _ ((unhide HR).kept hM.st.fr)).mono ?_
   rintro en w9 ⟨rfl,hb9⟩
   exact hK _ _ ⟨p9,fun _ _=>rfl,rfl,(Pm.keepM rfl ((hM.kept hs9 hb9).val rfl))⟩
  ·cases ho9
   have r6:=hD.old 6 _ rfl rfl
   have r15:=hD.od hd9 8 15 _ rfl (by simp)
   have hM0:Fs w W9 [⟨w.heap.size,#[.slice a n cap],25⟩,⟨w.heap.size+1,#[.slice a' n' cap'],25⟩,⟨w.heap.size+2,#[.slice none 0 0],25⟩]:=by
    have hM1:=hM.st
    simp only [pickBs] at hM1
    rw [if_neg (by rw [hl9]; simp)] at hM1
    exact hM1
   have c9_0:=hM0.cellAt (b:=w.heap.size+2) (cs:=#[.slice none 0 0]) (t:=25) (by simp) 0 _ rfl
   have z9_0:=hM0.frozen (b:=w.heap.size+2) (cs:=#[.slice none 0 0]) (t:=25) (by simp) 0
   refine wpOp_step rfl fun K hK=>?_
   go_simp
   exact hK _ _ ⟨p9,fun _ _=>rfl,rfl,Pm.putM hl9 ((hM.val rfl).put hs9 _ _ (by simp <;> omega) (hM0.put (b:=w.heap.size+2) (cs:=#[.slice none 0 0]) (t:=25) (by simp) (by first|simp|omega) 0 (.slice (p9 5).A (p9 5).N (p9 5).C) [⟨w.heap.size,#[.slice a n cap],25⟩,⟨w.heap.size+1,#[.slice a' n' cap'],25⟩,⟨w.heap.size+2,#[.slice (p9 5).A (p9 5).N (p9 5).C],25⟩] (by simp <;> omega)))⟩
 ·intro p9 l9 W9 hn9 hl9 hM
  have fr1_5:=hM.fx _ (List.mem_of_getElem? (i:=0) rfl) (Or.inl (hl9 5 (by decide)))
  replace hM:=hM.st
  simp only [pickBs] at hM
  rw [if_pos (hl9 9 (by decide))] at hM
  clear hl9 hs9 h09 hn9
  generalize p9 5 = q5 at *
  obtain ⟨Ar1_5,Nr1_5,Cr1_5⟩:=q5
  simp only [] at fr1_5
  clear hS
  have hS:=hM
  clear hM
  simp only [Puts.lay,List.setIfInBounds_toArray,List.set_cons_zero,List.set_cons_succ]
  obtain ⟨⟨ya,-⟩,⟨yb,-⟩,⟨yc,-⟩,-⟩:=hS.cells
  go_wp2
  exact bodyPost_ret (v:=.agg #[.slice Ar1_5 Nr1_5 Cr1_5]) (by simp [results,Tryz.results52,go_sem,yc]) rfl ⟨⟨_,_,_,rfl,Mine.mono (show Mine W9 _ _ _ _ _ from fr1_5) (by omega)⟩,hS.fr⟩
theorem wcmp_0 (p:Nat) (a:Option Addr) (n cap m:Nat) (a':Option Addr) (n' cap' m':Nat) (w:World) (hR:Rz w p 0) (h:Num w a n m) (h':Num w a' n' m') :
  Calls Tryz.prog 53 #[.pointer (some ⟨p,0,none⟩),.agg #[.slice a n cap],.agg #[.slice a' n' cap']] w fun e w'=>e = .returned (.int .i64 (cmpI m m'))∧Below w.heap.size w w':=by
 have H:=hide h
 have H':=hide h'
 have HR:=hide hR
 clear h h' hR
 go_enter Tryz.func53,Tryz.ntmps53
 go_wp2_with fail
 refine wp_region_any (by kernel_rfl) ?_
 refine wpAny_det [some (7,.pointer (some ⟨p,0,none⟩)),some (8,.pointer (some ⟨p,0,none⟩)),some (9,.pointer (some ⟨p,0,none⟩)),some (10,.agg #[.slice a n cap]),some (11,.agg #[.slice a' n' cap']),some (12,.tuple #[(.int .i64 (cmpI m m')),.int .i64 0]),some (13,(.int .i64 (cmpI m m'))),some (14,.int .i64 0),some (15,(.int .i64 (cmpI m m'))),some (6,(.int .i64 (cmpI m m')))]
  (fun _ W9=>Fs w W9 [⟨w.heap.size,#[.slice a n cap],25⟩,⟨w.heap.size+1,#[.slice a' n' cap'],25⟩]) _ _ rfl (by kernel_rfl) rfl rfl ?_ ?_ (Fs.two w _ _ _ _).drew
 ·intro l9 t9 W9 i9 hD hi9 hl9 hM
  obtain ⟨o9,ho9,hd9⟩:=(mem_ready.1 hi9).2
  have hin9:i9 < 10:=by
   by_cases h:i9 < 10
   ·exact h
   ·rw [Array.getElem?_eq_none (by rw [hD.len]; simp; omega)] at hl9; cases hl9
  have hcase:i9 = 0∨i9 = 1∨i9 = 2∨i9 = 3∨i9 = 4∨i9 = 5∨i9 = 6∨i9 = 7∨i9 = 8∨i9 = 9:=by omega
  clear hin9
  rcases hcase with rfl|rfl|rfl|rfl|rfl|rfl|rfl|rfl|rfl|rfl
  ·cases ho9
   have r0:=hD.old 0 _ rfl rfl
   refine wpOp_step rfl fun K hK=>?_
   go_simp
   exact hK _ _ ⟨rfl,hM⟩
  ·cases ho9
   have r7:=hD.od hd9 0 7 _ rfl (by simp)
   refine wpOp_step rfl fun K hK=>?_
   go_simp
   exact hK _ _ ⟨rfl,hM⟩
  ·cases ho9
   have r8:=hD.od hd9 1 8 _ rfl (by simp)
   refine wpOp_step rfl fun K hK=>?_
   go_simp
   exact hK _ _ ⟨rfl,hM⟩
  ·cases ho9
   have r4:=hD.old 4 _ rfl rfl
   have hM0:=hM
   have c9_0:=hM0.cellAt (b:=w.heap.size) (cs:=#[.slice a n cap]) (t:=25) (by simp) 0 _ rfl
   clear hM0
   refine wpOp_step rfl fun K hK=>?_
   go_simp
   exact hK _ _ ⟨rfl,hM⟩
  ·cases ho9
   have r5:=hD.old 5 _ rfl rfl
   have hM0:=hM
   have c9_0:=hM0.cellAt (b:=w.heap.size+1) (cs:=#[.slice a' n' cap']) (t:=25) (by simp) 0 _ rfl
   clear hM0
   refine wpOp_step rfl fun K hK=>?_
   go_simp
   exact hK _ _ ⟨rfl,hM⟩
  ·cases ho9
   have r10:=hD.od hd9 3 10 _ rfl (by simp)
   have r11:=hD.od hd9 4 11 _ rfl (by simp)
   refine wpOp_step rfl fun K hK=>?_
   go_simp
   go_wp2_with fail
   refine (cmpN_any a a' n n' cap cap' m m' _ ((unhide H).kept hM.fr) ((unhide H').kept hM.fr)).mono ?_
   rintro en w9 ⟨rfl,hb9⟩
   exact hK _ _ ⟨rfl,hM.kept hb9⟩
  ·cases ho9
   have r12:=hD.od hd9 5 12 _ rfl (by simp)
   refine wpOp_step rfl fun K hK=>?_
   go_simp
   exact hK _ _ ⟨rfl,hM⟩
  ·cases ho9
   have r12:=hD.od hd9 5 12 _ rfl (by simp)
   refine wpOp_step rfl fun K hK=>?_
   go_simp
   exact hK _ _ ⟨rfl,hM⟩
  ·cases ho9
   have r9:=hD.od hd9 2 9 _ rfl (by simp)
   have r13:=hD.od hd9 6 13 _ rfl (by simp)
   have r14:=hD.od hd9 7 14 _ rfl (by simp)
   refine wpOp_step rfl fun K hK=>?_
   go_simp
   go_wp2_with fail
   refine (runInt_z p 0 _ _ ((unhide HR).kept hM.fr)).mono ?_
   rintro en w9 ⟨rfl,hb9⟩
   exact hK _ _ ⟨rfl,hM.kept hb9⟩
  ·cases ho9
   have r15:=hD.od hd9 8 15 _ rfl (by simp)
   refine wpOp_step rfl fun K hK=>?_
   go_simp
   exact hK _ _ ⟨rfl,hM⟩
 ·intro l9 W9 hl9 hM
  have hS:=hM
  clear hM
  simp only [Puts.lay,List.setIfInBounds_toArray,List.set_cons_zero,List.set_cons_succ]
  obtain ⟨⟨ya,-⟩,⟨yb,-⟩,-⟩:=hS.cells
  go_wp2
  go_ret
  exact ⟨rfl,hS.fr⟩
theorem farther_t (s t:Bool) (a1 a2 a3 a4:Option Addr) (n1 n2 n3 n4 c1 c2 c3 c4:Nat) (m1 m2 m3 m4:Nat) (ho:¬ Over (m1 * m4)) (ho2:¬ Over (m3 * m2)) (hc:decide ((0:Int) < cmpI (m1 * m4) (m3 * m2)) = true) (w:World) (h1:Num w a1 n1 m1) (h2:Num w a2 n2 m2) (h3:Num w a3 n3 m3) (h4:Num w a4 n4 m4) :
  Calls Tryz.prog 26 #[.agg #[.bool s,.slice a1 n1 c1,.slice a2 n2 c2,.bool t,.slice a3 n3 c3,.slice a4 n4 c4]] w fun e w'=>e = .returned (.bool true)∧Below w.heap.size w w':=by
 have H1:=hide h1
 have H2:=hide h2
 have H3:=hide h3
 have H4:=hide h4
 have HO:=hide ho
 have HO2:=hide ho2
 clear h1 h2 h3 h4 ho ho2
 go_enter Tryz.func26,Tryz.ntmps26
 go_wp2_with fail
 refine (wmul_0 (w.heap.size+1) a1 n1 c1 m1 a4 n4 c4 m4 (unhide HO) _ ⟨_,_,(Fs.two w #[.bool s,.slice a1 n1 c1,.slice a2 n2 c2,.bool t,.slice a3 n3 c3,.slice a4 n4 c4] 59 #[.int .i64 0] 88).bx ⟨w.heap.size+1,#[.int .i64 0],88⟩ (by simp),rfl⟩ ((unhide H1).kept (Fs.two w #[.bool s,.slice a1 n1 c1,.slice a2 n2 c2,.bool t,.slice a3 n3 c3,.slice a4 n4 c4] 59 #[.int .i64 0] 88).fr) ((unhide H4).kept (Fs.two w #[.bool s,.slice a1 n1 c1,.slice a2 n2 c2,.bool t,.slice a3 n3 c3,.slice a4 n4 c4] 59 #[.int .i64 0] 88).fr)).mono ?_
 rintro e w1 ⟨⟨A1,N1,C1,rfl,f1⟩,hb1⟩
 have hS:=(Fs.two w _ _ _ _).kept hb1
 obtain ⟨⟨ya,yb,yc,yd,ye,yf,-⟩,⟨yg,-⟩,-⟩:=hS.cells
 have G1:=hide (f1.mono (base':=w.heap.size) (by simp; omega))
 clear f1
 have hltw1_0:w.heap.size < w1.heap.size:=hS.lt 0 rfl
 have hltw1_1:w.heap.size+1 < w1.heap.size:=hS.lt 1 rfl
 obtain ⟨WA,hWA⟩:∃ WA,w1.alloc (.cells #[.slice A1 N1 C1] 25) = WA:=⟨_,rfl⟩
 replace hS:=hS.alloc #[.slice A1 N1 C1] 25
 rw [hWA] at hS
 replace G1:=hide (hWA▸(unhide G1).alloc (.cells #[.slice A1 N1 C1] 25))
 clear ya yb yc yd ye yf yg
 obtain ⟨⟨yh,-⟩,⟨yi,yj,yk,yl,ym,yn,-⟩,⟨yo,-⟩,-⟩:=hS.cells
 have hsV:=hS.size
 go_wp2_with fail
 refine (wmul_0 (w.heap.size+1) a3 n3 c3 m3 a2 n2 c2 m2 (unhide HO2) _ ⟨_,_,hS.bx ⟨w.heap.size+1,#[.int .i64 0],88⟩ (by simp),rfl⟩ ((unhide H3).kept hS.fr) ((unhide H2).kept hS.fr)).mono ?_
 rintro e w2 ⟨⟨A2,N2,C2,rfl,f2⟩,hb2⟩
 replace hS:=hS.kept hb2
 clear yh yi yj yk yl ym yn yo
 obtain ⟨⟨yp,-⟩,⟨yq,yr,ys,yt,yu,yv,-⟩,⟨yw,-⟩,-⟩:=hS.cells
 replace G1:=hide ((unhide G1).kept hb2)
 have G2:=hide (f2.mono (base':=w.heap.size) hsV)
 clear f2 hsV
 have hltw2_0:w1.heap.size < w2.heap.size:=hS.lt 0 rfl
 have hltw2_1:w.heap.size < w2.heap.size:=hS.lt 1 rfl
 have hltw2_2:w.heap.size+1 < w2.heap.size:=hS.lt 2 rfl
 obtain ⟨WC,hWC⟩:∃ WC,w2.alloc (.cells #[.slice A2 N2 C2] 25) = WC:=⟨_,rfl⟩
 replace hS:=hS.alloc #[.slice A2 N2 C2] 25
 rw [hWC] at hS
 replace G1:=hide (hWC▸(unhide G1).alloc (.cells #[.slice A2 N2 C2] 25))
 replace G2:=hide (hWC▸(unhide G2).alloc (.cells #[.slice A2 N2 C2] 25))
 clear yp yq yr ys yt yu yv yw
 obtain ⟨⟨yx,-⟩,⟨yy,-⟩,⟨yz,y0,y1,y2,y3,y4,-⟩,⟨y5,-⟩,-⟩:=hS.cells
 go_wp2_with fail
 refine (wcmp_0 (w.heap.size+1) A1 N1 C1 _ A2 N2 C2 _ _ ⟨_,_,hS.bx ⟨w.heap.size+1,#[.int .i64 0],88⟩ (by simp),rfl⟩ (unhide G1).num (unhide G2).num).mono ?_
 rintro e w3 ⟨rfl,hb3⟩
 replace hS:=hS.kept hb3
 clear yx yy yz y0 y1 y2 y3 y4 y5
 obtain ⟨⟨y6,-⟩,⟨y7,-⟩,⟨y8,y9,yba,ybb,ybc,ybd,-⟩,⟨ybe,-⟩,-⟩:=hS.cells
 replace G1:=hide ((unhide G1).kept hb3)
 replace G2:=hide ((unhide G2).kept hb3)
 go_wp2
 go_ret
 exact ⟨by rw [← hc]; rfl,hS.fr⟩
theorem farther_f (s t:Bool) (a1 a2 a3 a4:Option Addr) (n1 n2 n3 n4 c1 c2 c3 c4:Nat) (m1 m2 m3 m4:Nat) (ho:¬ Over (m1 * m4)) (ho2:¬ Over (m3 * m2)) (hc:decide ((0:Int) < cmpI (m1 * m4) (m3 * m2)) = false) (w:World) (h1:Num w a1 n1 m1) (h2:Num w a2 n2 m2) (h3:Num w a3 n3 m3) (h4:Num w a4 n4 m4) :
  Calls Tryz.prog 26 #[.agg #[.bool s,.slice a1 n1 c1,.slice a2 n2 c2,.bool t,.slice a3 n3 c3,.slice a4 n4 c4]] w fun e w'=>e = .returned (.bool false)∧Below w.heap.size w w':=by
 have H1:=hide h1
 have H2:=hide h2
 have H3:=hide h3
 have H4:=hide h4
 have HO:=hide ho
 have HO2:=hide ho2
 clear h1 h2 h3 h4 ho ho2
 go_enter Tryz.func26,Tryz.ntmps26
 go_wp2_with fail
 refine (wmul_0 (w.heap.size+1) a1 n1 c1 m1 a4 n4 c4 m4 (unhide HO) _ ⟨_,_,(Fs.two w #[.bool s,.slice a1 n1 c1,.slice a2 n2 c2,.bool t,.slice a3 n3 c3,.slice a4 n4 c4] 59 #[.int .i64 0] 88).bx ⟨w.heap.size+1,#[.int .i64 0],88⟩ (by simp),rfl⟩ ((unhide H1).kept (Fs.two w #[.bool s,.slice a1 n1 c1,.slice a2 n2 c2,.bool t,.slice a3 n3 c3,.slice a4 n4 c4] 59 #[.int .i64 0] 88).fr) ((unhide H4).kept (Fs.two w #[.bool s,.slice a1 n1 c1,.slice a2 n2 c2,.bool t,.slice a3 n3 c3,.slice a4 n4 c4] 59 #[.int .i64 0] 88).fr)).mono ?_
 rintro e w1 ⟨⟨A1,N1,C1,rfl,f1⟩,hb1⟩
 have hS:=(Fs.two w _ _ _ _).kept hb1
 obtain ⟨⟨ya,yb,yc,yd,ye,yf,-⟩,⟨yg,-⟩,-⟩:=hS.cells
 have G1:=hide (f1.mono (base':=w.heap.size) (by simp; omega))
 clear f1
 have hltw1_0:w.heap.size < w1.heap.size:=hS.lt 0 rfl
 have hltw1_1:w.heap.size+1 < w1.heap.size:=hS.lt 1 rfl
 obtain ⟨WA,hWA⟩:∃ WA,w1.alloc (.cells #[.slice A1 N1 C1] 25) = WA:=⟨_,rfl⟩
 replace hS:=hS.alloc #[.slice A1 N1 C1] 25
 rw [hWA] at hS
 replace G1:=hide (hWA▸(unhide G1).alloc (.cells #[.slice A1 N1 C1] 25))
 clear ya yb yc yd ye yf yg
 obtain ⟨⟨yh,-⟩,⟨yi,yj,yk,yl,ym,yn,-⟩,⟨yo,-⟩,-⟩:=hS.cells
 have hsV:=hS.size
 go_wp2_with fail
 refine (wmul_0 (w.heap.size+1) a3 n3 c3 m3 a2 n2 c2 m2 (unhide HO2) _ ⟨_,_,hS.bx ⟨w.heap.size+1,#[.int .i64 0],88⟩ (by simp),rfl⟩ ((unhide H3).kept hS.fr) ((unhide H2).kept hS.fr)).mono ?_
 rintro e w2 ⟨⟨A2,N2,C2,rfl,f2⟩,hb2⟩
 replace hS:=hS.kept hb2
 clear yh yi yj yk yl ym yn yo
 obtain ⟨⟨yp,-⟩,⟨yq,yr,ys,yt,yu,yv,-⟩,⟨yw,-⟩,-⟩:=hS.cells
 replace G1:=hide ((unhide G1).kept hb2)
 have G2:=hide (f2.mono (base':=w.heap.size) hsV)
 clear f2 hsV
 have hltw2_0:w1.heap.size < w2.heap.size:=hS.lt 0 rfl
 have hltw2_1:w.heap.size < w2.heap.size:=hS.lt 1 rfl
 have hltw2_2:w.heap.size+1 < w2.heap.size:=hS.lt 2 rfl
 obtain ⟨WC,hWC⟩:∃ WC,w2.alloc (.cells #[.slice A2 N2 C2] 25) = WC:=⟨_,rfl⟩
 replace hS:=hS.alloc #[.slice A2 N2 C2] 25
 rw [hWC] at hS
 replace G1:=hide (hWC▸(unhide G1).alloc (.cells #[.slice A2 N2 C2] 25))
 replace G2:=hide (hWC▸(unhide G2).alloc (.cells #[.slice A2 N2 C2] 25))
 clear yp yq yr ys yt yu yv yw
 obtain ⟨⟨yx,-⟩,⟨yy,-⟩,⟨yz,y0,y1,y2,y3,y4,-⟩,⟨y5,-⟩,-⟩:=hS.cells
 go_wp2_with fail
 refine (wcmp_0 (w.heap.size+1) A1 N1 C1 _ A2 N2 C2 _ _ ⟨_,_,hS.bx ⟨w.heap.size+1,#[.int .i64 0],88⟩ (by simp),rfl⟩ (unhide G1).num (unhide G2).num).mono ?_
 rintro e w3 ⟨rfl,hb3⟩
 replace hS:=hS.kept hb3
 clear yx yy yz y0 y1 y2 y3 y4 y5
 obtain ⟨⟨y6,-⟩,⟨y7,-⟩,⟨y8,y9,yba,ybb,ybc,ybd,-⟩,⟨ybe,-⟩,-⟩:=hS.cells
 replace G1:=hide ((unhide G1).kept hb3)
 replace G2:=hide ((unhide G2).kept hb3)
 go_wp2
 go_ret
 exact ⟨by rw [← hc]; rfl,hS.fr⟩
theorem same_shape (s t:Bool) (a1 a2 a3 a4:Option Addr) (n1 n2 n3 n4 c1 c2 c3 c4:Nat) (he:(s == t && decide (n1 = n3) && decide (n2 = n4)) = false) (w:World)  :
  Calls Tryz.prog 24 #[.agg #[.bool s,.slice a1 n1 c1,.slice a2 n2 c2,.bool t,.slice a3 n3 c3,.slice a4 n4 c4]] w fun e w'=>e = .returned (.bool false)∧Below w.heap.size w w':=by
 have hEq:=eq_shape s t n1 n2 n3 n4
 rw [he] at hEq
 clear he
 go_enter Tryz.func24,Tryz.ntmps24
 go_wp2_with fail
 refine wp_region_any (by kernel_rfl) ?_
 refine wpAny_det [some (3,.pointer (some ⟨w.heap.size,0,none⟩)),some (4,.agg #[.bool s,.slice a1 n1 c1,.slice a2 n2 c2]),some (5,.agg #[.bool s,.int .i64 (n1:Int),.int .i64 (n2:Int)]),some (6,.pointer (some ⟨w.heap.size,3,none⟩)),some (7,.agg #[.bool t,.slice a3 n3 c3,.slice a4 n4 c4]),some (8,.agg #[.bool t,.int .i64 (n3:Int),.int .i64 (n4:Int)]),some (9,.bool false),some (10,.bool false),some (11,undef),some (12,undef),some (13,undef),some (14,undef),some (15,undef),some (16,undef),some (17,undef),some (18,undef),some (19,undef),some (20,.bool false),some (21,.bool false),some (22,undef),some (23,undef),some (24,undef),some (25,undef),some (26,undef),some (27,undef),some (28,undef),some (29,undef),some (30,undef),some (31,.bool false),some (2,.bool false)]
  (fun _ W9=>Fs w W9 [⟨w.heap.size,#[.bool s,.slice a1 n1 c1,.slice a2 n2 c2,.bool t,.slice a3 n3 c3,.slice a4 n4 c4],59⟩]) _ _ rfl (by kernel_rfl) rfl rfl ?_ ?_ (Fs.one w _ _).drew
 ·intro l9 t9 W9 i9 hD hi9 hl9 hM
  obtain ⟨o9,ho9,hd9⟩:=(mem_ready.1 hi9).2
  have hin9:i9 < 30:=by
   by_cases h:i9 < 30
   ·exact h
   ·rw [Array.getElem?_eq_none (by rw [hD.len]; simp; omega)] at hl9; cases hl9
  have hcase:i9 = 0∨i9 = 1∨i9 = 2∨i9 = 3∨i9 = 4∨i9 = 5∨i9 = 6∨i9 = 7∨i9 = 8∨i9 = 9∨i9 = 10∨i9 = 11∨i9 = 12∨i9 = 13∨i9 = 14∨i9 = 15∨i9 = 16∨i9 = 17∨i9 = 18∨i9 = 19∨i9 = 20∨i9 = 21∨i9 = 22∨i9 = 23∨i9 = 24∨i9 = 25∨i9 = 26∨i9 = 27∨i9 = 28∨i9 = 29:=by omega
  clear hin9
  rcases hcase with rfl|rfl|rfl|rfl|rfl|rfl|rfl|rfl|rfl|rfl|rfl|rfl|rfl|rfl|rfl|rfl|rfl|rfl|rfl|rfl|rfl|rfl|rfl|rfl|rfl|rfl|rfl|rfl|rfl|rfl
  ·cases ho9
   have r1:=hD.old 1 _ rfl rfl
   refine wpOp_step rfl fun K hK=>?_
   go_simp
   exact hK _ _ ⟨rfl,hM⟩
  ·cases ho9
   have r3:=hD.od hd9 0 3 _ rfl (by simp)
   have hM0:=hM
   have Q_:=hM0.cellAt (b:=w.heap.size) (cs:=#[.bool s,.slice a1 n1 c1,.slice a2 n2 c2,.bool t,.slice a3 n3 c3,.slice a4 n4 c4]) (t:=59) (by simp)
   have c9_0:=Q_ 0 _ rfl
   have c9_1:=Q_ 1 _ rfl
   have c9_2:=Q_ 2 _ rfl
   clear Q_
   clear hM0
   refine wpOp_step rfl fun K hK=>?_
   go_simp
   exact hK _ _ ⟨rfl,hM⟩
  ·cases ho9
   have r4:=hD.od hd9 1 4 _ rfl (by simp)
   refine wpOp_step rfl fun K hK=>?_
   go_simp
   go_wp2_with fail
   refine (shapeOf_any _ _ _ _ _ _ _ _).mono ?_
   rintro en w9 ⟨rfl,hb9⟩
   exact hK _ _ ⟨rfl,hM.kept hb9⟩
  ·cases ho9
   have r1:=hD.old 1 _ rfl rfl
   refine wpOp_step rfl fun K hK=>?_
   go_simp
   exact hK _ _ ⟨rfl,hM⟩
  ·cases ho9
   have r6:=hD.od hd9 3 6 _ rfl (by simp)
   have hM0:=hM
   have Q_:=hM0.cellAt (b:=w.heap.size) (cs:=#[.bool s,.slice a1 n1 c1,.slice a2 n2 c2,.bool t,.slice a3 n3 c3,.slice a4 n4 c4]) (t:=59) (by simp)
   have c9_0:=Q_ 3 _ rfl
   have c9_1:=Q_ 4 _ rfl
   have c9_2:=Q_ 5 _ rfl
   clear Q_
   clear hM0
   refine wpOp_step rfl fun K hK=>?_
   go_simp
   exact hK _ _ ⟨rfl,hM⟩
  ·cases ho9
   have r7:=hD.od hd9 4 7 _ rfl (by simp)
   refine wpOp_step rfl fun K hK=>?_
   go_simp
   go_wp2_with fail
   refine (shapeOf_any _ _ _ _ _ _ _ _).mono ?_
   rintro en w9 ⟨rfl,hb9⟩
   exact hK _ _ ⟨rfl,hM.kept hb9⟩
  ·cases ho9
   have r5:=hD.od hd9 2 5 _ rfl (by simp)
   have r8:=hD.od hd9 5 8 _ rfl (by simp)
   refine wpOp_step rfl fun K hK=>?_
   go_simp
   exact hK _ _ ⟨act_eq (by rfl),hM⟩
  ·cases ho9
   have r9:=hD.od hd9 6 9 _ rfl (by simp)
   refine wpOp_step rfl fun K hK=>?_
   go_simp
   exact hK _ _ ⟨rfl,hM⟩
  ·cases ho9
   have r10:=hD.on 7 10 _ rfl (getD_true (hd9 ⟨7,.guard⟩ (by simp) rfl))
   refine wpOp_step rfl fun K hK=>?_
   go_simp
   exact hK _ _ ⟨rfl,hM⟩
  ·cases ho9
   have r10:=hD.on 7 10 _ rfl (getD_true (hd9 ⟨7,.guard⟩ (by simp) rfl))
   refine wpOp_step rfl fun K hK=>?_
   go_simp
   exact hK _ _ ⟨rfl,hM⟩
  ·cases ho9
   have r10:=hD.on 7 10 _ rfl (getD_true (hd9 ⟨7,.guard⟩ (by simp) rfl))
   refine wpOp_step rfl fun K hK=>?_
   go_simp
   exact hK _ _ ⟨rfl,hM⟩
  ·cases ho9
   have r10:=hD.on 7 10 _ rfl (getD_true (hd9 ⟨7,.guard⟩ (by simp) rfl))
   refine wpOp_step rfl fun K hK=>?_
   go_simp
   exact hK _ _ ⟨rfl,hM⟩
  ·cases ho9
   have r10:=hD.on 7 10 _ rfl (getD_true (hd9 ⟨7,.guard⟩ (by simp) rfl))
   refine wpOp_step rfl fun K hK=>?_
   go_simp
   exact hK _ _ ⟨rfl,hM⟩
  ·cases ho9
   have r10:=hD.on 7 10 _ rfl (getD_true (hd9 ⟨7,.guard⟩ (by simp) rfl))
   refine wpOp_step rfl fun K hK=>?_
   go_simp
   exact hK _ _ ⟨rfl,hM⟩
  ·cases ho9
   have r10:=hD.on 7 10 _ rfl (getD_true (hd9 ⟨7,.guard⟩ (by simp) rfl))
   refine wpOp_step rfl fun K hK=>?_
   go_simp
   exact hK _ _ ⟨rfl,hM⟩
  ·cases ho9
   have r10:=hD.on 7 10 _ rfl (getD_true (hd9 ⟨7,.guard⟩ (by simp) rfl))
   refine wpOp_step rfl fun K hK=>?_
   go_simp
   exact hK _ _ ⟨rfl,hM⟩
  ·cases ho9
   have r10:=hD.on 7 10 _ rfl (getD_true (hd9 ⟨7,.chain⟩ (by simp) rfl))
   refine wpOp_step rfl fun K hK=>?_
   go_simp
   exact hK _ _ ⟨rfl,hM⟩
  ·cases ho9
   have r10:=hD.od hd9 7 10 _ rfl (by simp)
   have r19:=hD.od hd9 16 19 _ rfl (by simp)
   refine wpOp_step rfl fun K hK=>?_
   go_simp
   exact hK _ _ ⟨rfl,hM⟩
  ·cases ho9
   have r20:=hD.od hd9 17 20 _ rfl (by simp)
   refine wpOp_step rfl fun K hK=>?_
   go_simp
   exact hK _ _ ⟨rfl,hM⟩
  ·cases ho9
   have r21:=hD.on 18 21 _ rfl (getD_true (hd9 ⟨18,.guard⟩ (by simp) rfl))
   refine wpOp_step rfl fun K hK=>?_
   go_simp
   exact hK _ _ ⟨rfl,hM⟩
  ·cases ho9
   have r21:=hD.on 18 21 _ rfl (getD_true (hd9 ⟨18,.guard⟩ (by simp) rfl))
   refine wpOp_step rfl fun K hK=>?_
   go_simp
   exact hK _ _ ⟨rfl,hM⟩
  ·cases ho9
   have r21:=hD.on 18 21 _ rfl (getD_true (hd9 ⟨18,.guard⟩ (by simp) rfl))
   refine wpOp_step rfl fun K hK=>?_
   go_simp
   exact hK _ _ ⟨rfl,hM⟩
  ·cases ho9
   have r21:=hD.on 18 21 _ rfl (getD_true (hd9 ⟨18,.guard⟩ (by simp) rfl))
   refine wpOp_step rfl fun K hK=>?_
   go_simp
   exact hK _ _ ⟨rfl,hM⟩
  ·cases ho9
   have r21:=hD.on 18 21 _ rfl (getD_true (hd9 ⟨18,.guard⟩ (by simp) rfl))
   refine wpOp_step rfl fun K hK=>?_
   go_simp
   exact hK _ _ ⟨rfl,hM⟩
  ·cases ho9
   have r21:=hD.on 18 21 _ rfl (getD_true (hd9 ⟨18,.guard⟩ (by simp) rfl))
   refine wpOp_step rfl fun K hK=>?_
   go_simp
   exact hK _ _ ⟨rfl,hM⟩
  ·cases ho9
   have r21:=hD.on 18 21 _ rfl (getD_true (hd9 ⟨18,.guard⟩ (by simp) rfl))
   refine wpOp_step rfl fun K hK=>?_
   go_simp
   exact hK _ _ ⟨rfl,hM⟩
  ·cases ho9
   have r21:=hD.on 18 21 _ rfl (getD_true (hd9 ⟨18,.guard⟩ (by simp) rfl))
   refine wpOp_step rfl fun K hK=>?_
   go_simp
   exact hK _ _ ⟨rfl,hM⟩
  ·cases ho9
   have r21:=hD.on 18 21 _ rfl (getD_true (hd9 ⟨18,.chain⟩ (by simp) rfl))
   refine wpOp_step rfl fun K hK=>?_
   go_simp
   exact hK _ _ ⟨rfl,hM⟩
  ·cases ho9
   have r21:=hD.od hd9 18 21 _ rfl (by simp)
   have r30:=hD.od hd9 27 30 _ rfl (by simp)
   refine wpOp_step rfl fun K hK=>?_
   go_simp
   exact hK _ _ ⟨rfl,hM⟩
  ·cases ho9
   have r31:=hD.od hd9 28 31 _ rfl (by simp)
   refine wpOp_step rfl fun K hK=>?_
   go_simp
   exact hK _ _ ⟨rfl,hM⟩
 ·intro l9 W9 hl9 hM
  have hS:=hM
  clear hM
  simp only [Puts.lay,List.setIfInBounds_toArray,List.set_cons_zero,List.set_cons_succ]
  obtain ⟨⟨ya,yb,yc,yd,ye,yf,-⟩,-⟩:=hS.cells
  clear hEq
  go_wp2
  go_ret
  exact ⟨rfl,hS.fr⟩
theorem same_f (s t:Bool) (a1 a2 a3 a4:Option Addr) (n1 n2 n3 n4 c1 c2 c3 c4:Nat) (he:(s == t && decide (n1 = n3) && decide (n2 = n4)) = true) (w:World) (HN:∀ W:World,Below w.heap.size w W→Calls Tryz.prog 51 #[.slice a1 n1 c1,.slice a3 n3 c3] W fun e w'=>e = .returned (.bool false)∧Below W.heap.size W w') :
  Calls Tryz.prog 24 #[.agg #[.bool s,.slice a1 n1 c1,.slice a2 n2 c2,.bool t,.slice a3 n3 c3,.slice a4 n4 c4]] w fun e w'=>e = .returned (.bool false)∧Below w.heap.size w w':=by
 have hEq:=eq_shape s t n1 n2 n3 n4
 rw [he] at hEq
 clear he
 go_enter Tryz.func24,Tryz.ntmps24
 go_wp2_with fail
 refine wp_region_any (by kernel_rfl) ?_
 refine wpAny_det [some (3,.pointer (some ⟨w.heap.size,0,none⟩)),some (4,.agg #[.bool s,.slice a1 n1 c1,.slice a2 n2 c2]),some (5,.agg #[.bool s,.int .i64 (n1:Int),.int .i64 (n2:Int)]),some (6,.pointer (some ⟨w.heap.size,3,none⟩)),some (7,.agg #[.bool t,.slice a3 n3 c3,.slice a4 n4 c4]),some (8,.agg #[.bool t,.int .i64 (n3:Int),.int .i64 (n4:Int)]),some (9,.bool true),some (10,.bool true),some (11,.pointer (some ⟨w.heap.size,0,none⟩)),some (12,.pointer (some ⟨w.heap.size,1,none⟩)),some (13,.pointer (some ⟨w.heap.size,1,none⟩)),some (14,.slice a1 n1 c1),some (15,.pointer (some ⟨w.heap.size,3,none⟩)),some (16,.pointer (some ⟨w.heap.size,4,none⟩)),some (17,.pointer (some ⟨w.heap.size,4,none⟩)),some (18,.slice a3 n3 c3),some (19,.bool false),some (20,.bool false),some (21,.bool false),some (22,undef),some (23,undef),some (24,undef),some (25,undef),some (26,undef),some (27,undef),some (28,undef),some (29,undef),some (30,undef),some (31,.bool false),some (2,.bool false)]
  (fun _ W9=>Fs w W9 [⟨w.heap.size,#[.bool s,.slice a1 n1 c1,.slice a2 n2 c2,.bool t,.slice a3 n3 c3,.slice a4 n4 c4],59⟩]) _ _ rfl (by kernel_rfl) rfl rfl ?_ ?_ (Fs.one w _ _).drew
 ·intro l9 t9 W9 i9 hD hi9 hl9 hM
  obtain ⟨o9,ho9,hd9⟩:=(mem_ready.1 hi9).2
  have hin9:i9 < 30:=by
   by_cases h:i9 < 30
   ·exact h
   ·rw [Array.getElem?_eq_none (by rw [hD.len]; simp; omega)] at hl9; cases hl9
  have hcase:i9 = 0∨i9 = 1∨i9 = 2∨i9 = 3∨i9 = 4∨i9 = 5∨i9 = 6∨i9 = 7∨i9 = 8∨i9 = 9∨i9 = 10∨i9 = 11∨i9 = 12∨i9 = 13∨i9 = 14∨i9 = 15∨i9 = 16∨i9 = 17∨i9 = 18∨i9 = 19∨i9 = 20∨i9 = 21∨i9 = 22∨i9 = 23∨i9 = 24∨i9 = 25∨i9 = 26∨i9 = 27∨i9 = 28∨i9 = 29:=by omega
  clear hin9
  rcases hcase with rfl|rfl|rfl|rfl|rfl|rfl|rfl|rfl|rfl|rfl|rfl|rfl|rfl|rfl|rfl|rfl|rfl|rfl|rfl|rfl|rfl|rfl|rfl|rfl|rfl|rfl|rfl|rfl|rfl|rfl
  ·cases ho9
   have r1:=hD.old 1 _ rfl rfl
   refine wpOp_step rfl fun K hK=>?_
   go_simp
   exact hK _ _ ⟨rfl,hM⟩
  ·cases ho9
   have r3:=hD.od hd9 0 3 _ rfl (by simp)
   have hM0:=hM
   have Q_:=hM0.cellAt (b:=w.heap.size) (cs:=#[.bool s,.slice a1 n1 c1,.slice a2 n2 c2,.bool t,.slice a3 n3 c3,.slice a4 n4 c4]) (t:=59) (by simp)
   have c9_0:=Q_ 0 _ rfl
   have c9_1:=Q_ 1 _ rfl
   have c9_2:=Q_ 2 _ rfl
   clear Q_
   clear hM0
   refine wpOp_step rfl fun K hK=>?_
   go_simp
   exact hK _ _ ⟨rfl,hM⟩
  ·cases ho9
   have r4:=hD.od hd9 1 4 _ rfl (by simp)
   refine wpOp_step rfl fun K hK=>?_
   go_simp
   go_wp2_with fail
   refine (shapeOf_any _ _ _ _ _ _ _ _).mono ?_
   rintro en w9 ⟨rfl,hb9⟩
   exact hK _ _ ⟨rfl,hM.kept hb9⟩
  ·cases ho9
   have r1:=hD.old 1 _ rfl rfl
   refine wpOp_step rfl fun K hK=>?_
   go_simp
   exact hK _ _ ⟨rfl,hM⟩
  ·cases ho9
   have r6:=hD.od hd9 3 6 _ rfl (by simp)
   have hM0:=hM
   have Q_:=hM0.cellAt (b:=w.heap.size) (cs:=#[.bool s,.slice a1 n1 c1,.slice a2 n2 c2,.bool t,.slice a3 n3 c3,.slice a4 n4 c4]) (t:=59) (by simp)
   have c9_0:=Q_ 3 _ rfl
   have c9_1:=Q_ 4 _ rfl
   have c9_2:=Q_ 5 _ rfl
   clear Q_
   clear hM0
   refine wpOp_step rfl fun K hK=>?_
   go_simp
   exact hK _ _ ⟨rfl,hM⟩
  ·cases ho9
   have r7:=hD.od hd9 4 7 _ rfl (by simp)
   refine wpOp_step rfl fun K hK=>?_
   go_simp
   go_wp2_with fail
   refine (shapeOf_any _ _ _ _ _ _ _ _).mono ?_
   rintro en w9 ⟨rfl,hb9⟩
   exact hK _ _ ⟨rfl,hM.kept hb9⟩
  ·cases ho9
   have r5:=hD.od hd9 2 5 _ rfl (by simp)
   have r8:=hD.od hd9 5 8 _ rfl (by simp)
   refine wpOp_step rfl fun K hK=>?_
   go_simp
   exact hK _ _ ⟨act_eq (by rfl),hM⟩
  ·cases ho9
   have r9:=hD.od hd9 6 9 _ rfl (by simp)
   refine wpOp_step rfl fun K hK=>?_
   go_simp
   exact hK _ _ ⟨rfl,hM⟩
  ·cases ho9
   have r10:=hD.on 7 10 _ rfl (getD_true (hd9 ⟨7,.guard⟩ (by simp) rfl))
   have r1:=hD.old 1 _ rfl rfl
   refine wpOp_step rfl fun K hK=>?_
   go_simp
   exact hK _ _ ⟨rfl,hM⟩
  ·cases ho9
   have r10:=hD.on 7 10 _ rfl (getD_true (hd9 ⟨7,.guard⟩ (by simp) rfl))
   have r11:=hD.od hd9 8 11 _ rfl (by simp)
   refine wpOp_step rfl fun K hK=>?_
   go_simp
   exact hK _ _ ⟨rfl,hM⟩
  ·cases ho9
   have r10:=hD.on 7 10 _ rfl (getD_true (hd9 ⟨7,.guard⟩ (by simp) rfl))
   have r12:=hD.od hd9 9 12 _ rfl (by simp)
   refine wpOp_step rfl fun K hK=>?_
   go_simp
   exact hK _ _ ⟨rfl,hM⟩
  ·cases ho9
   have r10:=hD.on 7 10 _ rfl (getD_true (hd9 ⟨7,.guard⟩ (by simp) rfl))
   have r13:=hD.od hd9 10 13 _ rfl (by simp)
   have hM0:=hM
   have c9_0:=hM0.cellAt (b:=w.heap.size) (cs:=#[.bool s,.slice a1 n1 c1,.slice a2 n2 c2,.bool t,.slice a3 n3 c3,.slice a4 n4 c4]) (t:=59) (by simp) 1 _ rfl
   clear hM0
   refine wpOp_step rfl fun K hK=>?_
   go_simp
   exact hK _ _ ⟨rfl,hM⟩
  ·cases ho9
   have r10:=hD.on 7 10 _ rfl (getD_true (hd9 ⟨7,.guard⟩ (by simp) rfl))
   have r1:=hD.old 1 _ rfl rfl
   refine wpOp_step rfl fun K hK=>?_
   go_simp
   exact hK _ _ ⟨rfl,hM⟩
  ·cases ho9
   have r10:=hD.on 7 10 _ rfl (getD_true (hd9 ⟨7,.guard⟩ (by simp) rfl))
   have r15:=hD.od hd9 12 15 _ rfl (by simp)
   refine wpOp_step rfl fun K hK=>?_
   go_simp
   exact hK _ _ ⟨rfl,hM⟩
  ·cases ho9
   have r10:=hD.on 7 10 _ rfl (getD_true (hd9 ⟨7,.guard⟩ (by simp) rfl))
   have r16:=hD.od hd9 13 16 _ rfl (by simp)
   refine wpOp_step rfl fun K hK=>?_
   go_simp
   exact hK _ _ ⟨rfl,hM⟩
  ·cases ho9
   have r10:=hD.on 7 10 _ rfl (getD_true (hd9 ⟨7,.guard⟩ (by simp) rfl))
   have r17:=hD.od hd9 14 17 _ rfl (by simp)
   have hM0:=hM
   have c9_0:=hM0.cellAt (b:=w.heap.size) (cs:=#[.bool s,.slice a1 n1 c1,.slice a2 n2 c2,.bool t,.slice a3 n3 c3,.slice a4 n4 c4]) (t:=59) (by simp) 4 _ rfl
   clear hM0
   refine wpOp_step rfl fun K hK=>?_
   go_simp
   exact hK _ _ ⟨rfl,hM⟩
  ·cases ho9
   have r10:=hD.on 7 10 _ rfl (getD_true (hd9 ⟨7,.chain⟩ (by simp) rfl))
   have r14:=hD.od hd9 11 14 _ rfl (by simp)
   have r18:=hD.od hd9 15 18 _ rfl (by simp)
   refine wpOp_step rfl fun K hK=>?_
   go_simp
   go_wp2_with fail
   refine (HN _ hM.fr).mono ?_
   rintro en w9 ⟨rfl,hb9⟩
   exact hK _ _ ⟨rfl,hM.kept hb9⟩
  ·cases ho9
   have r10:=hD.od hd9 7 10 _ rfl (by simp)
   have r19:=hD.od hd9 16 19 _ rfl (by simp)
   refine wpOp_step rfl fun K hK=>?_
   go_simp
   exact hK _ _ ⟨rfl,hM⟩
  ·cases ho9
   have r20:=hD.od hd9 17 20 _ rfl (by simp)
   refine wpOp_step rfl fun K hK=>?_
   go_simp
   exact hK _ _ ⟨rfl,hM⟩
  ·cases ho9
   have r21:=hD.on 18 21 _ rfl (getD_true (hd9 ⟨18,.guard⟩ (by simp) rfl))
   refine wpOp_step rfl fun K hK=>?_
   go_simp
   exact hK _ _ ⟨rfl,hM⟩
  ·cases ho9
   have r21:=hD.on 18 21 _ rfl (getD_true (hd9 ⟨18,.guard⟩ (by simp) rfl))
   refine wpOp_step rfl fun K hK=>?_
   go_simp
   exact hK _ _ ⟨rfl,hM⟩
  ·cases ho9
   have r21:=hD.on 18 21 _ rfl (getD_true (hd9 ⟨18,.guard⟩ (by simp) rfl))
   refine wpOp_step rfl fun K hK=>?_
   go_simp
   exact hK _ _ ⟨rfl,hM⟩
  ·cases ho9
   have r21:=hD.on 18 21 _ rfl (getD_true (hd9 ⟨18,.guard⟩ (by simp) rfl))
   refine wpOp_step rfl fun K hK=>?_
   go_simp
   exact hK _ _ ⟨rfl,hM⟩
  ·cases ho9
   have r21:=hD.on 18 21 _ rfl (getD_true (hd9 ⟨18,.guard⟩ (by simp) rfl))
   refine wpOp_step rfl fun K hK=>?_
   go_simp
   exact hK _ _ ⟨rfl,hM⟩
  ·cases ho9
   have r21:=hD.on 18 21 _ rfl (getD_true (hd9 ⟨18,.guard⟩ (by simp) rfl))
   refine wpOp_step rfl fun K hK=>?_
   go_simp
   exact hK _ _ ⟨rfl,hM⟩
  ·cases ho9
   have r21:=hD.on 18 21 _ rfl (getD_true (hd9 ⟨18,.guard⟩ (by simp) rfl))
   refine wpOp_step rfl fun K hK=>?_
   go_simp
   exact hK _ _ ⟨rfl,hM⟩
  ·cases ho9
   have r21:=hD.on 18 21 _ rfl (getD_true (hd9 ⟨18,.guard⟩ (by simp) rfl))
   refine wpOp_step rfl fun K hK=>?_
   go_simp
   exact hK _ _ ⟨rfl,hM⟩
  ·cases ho9
   have r21:=hD.on 18 21 _ rfl (getD_true (hd9 ⟨18,.chain⟩ (by simp) rfl))
   refine wpOp_step rfl fun K hK=>?_
   go_simp
   exact hK _ _ ⟨rfl,hM⟩
  ·cases ho9
   have r21:=hD.od hd9 18 21 _ rfl (by simp)
   have r30:=hD.od hd9 27 30 _ rfl (by simp)
   refine wpOp_step rfl fun K hK=>?_
   go_simp
   exact hK _ _ ⟨rfl,hM⟩
  ·cases ho9
   have r31:=hD.od hd9 28 31 _ rfl (by simp)
   refine wpOp_step rfl fun K hK=>?_
   go_simp
   exact hK _ _ ⟨rfl,hM⟩
 ·intro l9 W9 hl9 hM
  have hS:=hM
  clear hM
  simp only [Puts.lay,List.setIfInBounds_toArray,List.set_cons_zero,List.set_cons_succ]
  obtain ⟨⟨ya,yb,yc,yd,ye,yf,-⟩,-⟩:=hS.cells
  clear hEq
  go_wp2
  go_ret
  exact ⟨rfl,hS.fr⟩
theorem same_tt (s t:Bool) (a1 a2 a3 a4:Option Addr) (n1 n2 n3 n4 c1 c2 c3 c4:Nat) (he:(s == t && decide (n1 = n3) && decide (n2 = n4)) = true) (w:World) (HN:∀ W:World,Below w.heap.size w W→Calls Tryz.prog 51 #[.slice a1 n1 c1,.slice a3 n3 c3] W fun e w'=>e = .returned (.bool true)∧Below W.heap.size W w') (HD:∀ W:World,Below w.heap.size w W→Calls Tryz.prog 51 #[.slice a2 n2 c2,.slice a4 n4 c4] W fun e w'=>e = .returned (.bool true)∧Below W.heap.size W w') :
  Calls Tryz.prog 24 #[.agg #[.bool s,.slice a1 n1 c1,.slice a2 n2 c2,.bool t,.slice a3 n3 c3,.slice a4 n4 c4]] w fun e w'=>e = .returned (.bool true)∧Below w.heap.size w w':=by
 have hEq:=eq_shape s t n1 n2 n3 n4
 rw [he] at hEq
 clear he
 go_enter Tryz.func24,Tryz.ntmps24
 go_wp2_with fail
 refine wp_region_any (by kernel_rfl) ?_
 refine wpAny_det [some (3,.pointer (some ⟨w.heap.size,0,none⟩)),some (4,.agg #[.bool s,.slice a1 n1 c1,.slice a2 n2 c2]),some (5,.agg #[.bool s,.int .i64 (n1:Int),.int .i64 (n2:Int)]),some (6,.pointer (some ⟨w.heap.size,3,none⟩)),some (7,.agg #[.bool t,.slice a3 n3 c3,.slice a4 n4 c4]),some (8,.agg #[.bool t,.int .i64 (n3:Int),.int .i64 (n4:Int)]),some (9,.bool true),some (10,.bool true),some (11,.pointer (some ⟨w.heap.size,0,none⟩)),some (12,.pointer (some ⟨w.heap.size,1,none⟩)),some (13,.pointer (some ⟨w.heap.size,1,none⟩)),some (14,.slice a1 n1 c1),some (15,.pointer (some ⟨w.heap.size,3,none⟩)),some (16,.pointer (some ⟨w.heap.size,4,none⟩)),some (17,.pointer (some ⟨w.heap.size,4,none⟩)),some (18,.slice a3 n3 c3),some (19,.bool true),some (20,.bool true),some (21,.bool true),some (22,.pointer (some ⟨w.heap.size,0,none⟩)),some (23,.pointer (some ⟨w.heap.size,2,none⟩)),some (24,.pointer (some ⟨w.heap.size,2,none⟩)),some (25,.slice a2 n2 c2),some (26,.pointer (some ⟨w.heap.size,3,none⟩)),some (27,.pointer (some ⟨w.heap.size,5,none⟩)),some (28,.pointer (some ⟨w.heap.size,5,none⟩)),some (29,.slice a4 n4 c4),some (30,.bool true),some (31,.bool true),some (2,.bool true)]
  (fun _ W9=>Fs w W9 [⟨w.heap.size,#[.bool s,.slice a1 n1 c1,.slice a2 n2 c2,.bool t,.slice a3 n3 c3,.slice a4 n4 c4],59⟩]) _ _ rfl (by kernel_rfl) rfl rfl ?_ ?_ (Fs.one w _ _).drew
 ·intro l9 t9 W9 i9 hD hi9 hl9 hM
  obtain ⟨o9,ho9,hd9⟩:=(mem_ready.1 hi9).2
  have hin9:i9 < 30:=by
   by_cases h:i9 < 30
   ·exact h
   ·rw [Array.getElem?_eq_none (by rw [hD.len]; simp; omega)] at hl9; cases hl9
  have hcase:i9 = 0∨i9 = 1∨i9 = 2∨i9 = 3∨i9 = 4∨i9 = 5∨i9 = 6∨i9 = 7∨i9 = 8∨i9 = 9∨i9 = 10∨i9 = 11∨i9 = 12∨i9 = 13∨i9 = 14∨i9 = 15∨i9 = 16∨i9 = 17∨i9 = 18∨i9 = 19∨i9 = 20∨i9 = 21∨i9 = 22∨i9 = 23∨i9 = 24∨i9 = 25∨i9 = 26∨i9 = 27∨i9 = 28∨i9 = 29:=by omega
  clear hin9
  rcases hcase with rfl|rfl|rfl|rfl|rfl|rfl|rfl|rfl|rfl|rfl|rfl|rfl|rfl|rfl|rfl|rfl|rfl|rfl|rfl|rfl|rfl|rfl|rfl|rfl|rfl|rfl|rfl|rfl|rfl|rfl
  ·cases ho9
   have r1:=hD.old 1 _ rfl rfl
   refine wpOp_step rfl fun K hK=>?_
   go_simp
   exact hK _ _ ⟨rfl,hM⟩
  ·cases ho9
   have r3:=hD.od hd9 0 3 _ rfl (by simp)
   have hM0:=hM
   have Q_:=hM0.cellAt (b:=w.heap.size) (cs:=#[.bool s,.slice a1 n1 c1,.slice a2 n2 c2,.bool t,.slice a3 n3 c3,.slice a4 n4 c4]) (t:=59) (by simp)
   have c9_0:=Q_ 0 _ rfl
   have c9_1:=Q_ 1 _ rfl
   have c9_2:=Q_ 2 _ rfl
   clear Q_
   clear hM0
   refine wpOp_step rfl fun K hK=>?_
   go_simp
   exact hK _ _ ⟨rfl,hM⟩
  ·cases ho9
   have r4:=hD.od hd9 1 4 _ rfl (by simp)
   refine wpOp_step rfl fun K hK=>?_
   go_simp
   go_wp2_with fail
   refine (shapeOf_any _ _ _ _ _ _ _ _).mono ?_
   rintro en w9 ⟨rfl,hb9⟩
   exact hK _ _ ⟨rfl,hM.kept hb9⟩
  ·cases ho9
   have r1:=hD.old 1 _ rfl rfl
   refine wpOp_step rfl fun K hK=>?_
   go_simp
   exact hK _ _ ⟨rfl,hM⟩
  ·cases ho9
   have r6:=hD.od hd9 3 6 _ rfl (by simp)
   have hM0:=hM
   have Q_:=hM0.cellAt (b:=w.heap.size) (cs:=#[.bool s,.slice a1 n1 c1,.slice a2 n2 c2,.bool t,.slice a3 n3 c3,.slice a4 n4 c4]) (t:=59) (by simp)
   have c9_0:=Q_ 3 _ rfl
   have c9_1:=Q_ 4 _ rfl
   have c9_2:=Q_ 5 _ rfl
   clear Q_
   clear hM0
   refine wpOp_step rfl fun K hK=>?_
   go_simp
   exact hK _ _ ⟨rfl,hM⟩
  ·cases ho9
   have r7:=hD.od hd9 4 7 _ rfl (by simp)
   refine wpOp_step rfl fun K hK=>?_
   go_simp
   go_wp2_with fail
   refine (shapeOf_any _ _ _ _ _ _ _ _).mono ?_
   rintro en w9 ⟨rfl,hb9⟩
   exact hK _ _ ⟨rfl,hM.kept hb9⟩
  ·cases ho9
   have r5:=hD.od hd9 2 5 _ rfl (by simp)
   have r8:=hD.od hd9 5 8 _ rfl (by simp)
   refine wpOp_step rfl fun K hK=>?_
   go_simp
   exact hK _ _ ⟨act_eq (by rfl),hM⟩
  ·cases ho9
   have r9:=hD.od hd9 6 9 _ rfl (by simp)
   refine wpOp_step rfl fun K hK=>?_
   go_simp
   exact hK _ _ ⟨rfl,hM⟩
  ·cases ho9
   have r10:=hD.on 7 10 _ rfl (getD_true (hd9 ⟨7,.guard⟩ (by simp) rfl))
   have r1:=hD.old 1 _ rfl rfl
   refine wpOp_step rfl fun K hK=>?_
   go_simp
   exact hK _ _ ⟨rfl,hM⟩
  ·cases ho9
   have r10:=hD.on 7 10 _ rfl (getD_true (hd9 ⟨7,.guard⟩ (by simp) rfl))
   have r11:=hD.od hd9 8 11 _ rfl (by simp)
   refine wpOp_step rfl fun K hK=>?_
   go_simp
   exact hK _ _ ⟨rfl,hM⟩
  ·cases ho9
   have r10:=hD.on 7 10 _ rfl (getD_true (hd9 ⟨7,.guard⟩ (by simp) rfl))
   have r12:=hD.od hd9 9 12 _ rfl (by simp)
   refine wpOp_step rfl fun K hK=>?_
   go_simp
   exact hK _ _ ⟨rfl,hM⟩
  ·cases ho9
   have r10:=hD.on 7 10 _ rfl (getD_true (hd9 ⟨7,.guard⟩ (by simp) rfl))
   have r13:=hD.od hd9 10 13 _ rfl (by simp)
   have hM0:=hM
   have c9_0:=hM0.cellAt (b:=w.heap.size) (cs:=#[.bool s,.slice a1 n1 c1,.slice a2 n2 c2,.bool t,.slice a3 n3 c3,.slice a4 n4 c4]) (t:=59) (by simp) 1 _ rfl
   clear hM0
   refine wpOp_step rfl fun K hK=>?_
   go_simp
   exact hK _ _ ⟨rfl,hM⟩
  ·cases ho9
   have r10:=hD.on 7 10 _ rfl (getD_true (hd9 ⟨7,.guard⟩ (by simp) rfl))
   have r1:=hD.old 1 _ rfl rfl
   refine wpOp_step rfl fun K hK=>?_
   go_simp
   exact hK _ _ ⟨rfl,hM⟩
  ·cases ho9
   have r10:=hD.on 7 10 _ rfl (getD_true (hd9 ⟨7,.guard⟩ (by simp) rfl))
   have r15:=hD.od hd9 12 15 _ rfl (by simp)
   refine wpOp_step rfl fun K hK=>?_
   go_simp
   exact hK _ _ ⟨rfl,hM⟩
  ·cases ho9
   have r10:=hD.on 7 10 _ rfl (getD_true (hd9 ⟨7,.guard⟩ (by simp) rfl))
   have r16:=hD.od hd9 13 16 _ rfl (by simp)
   refine wpOp_step rfl fun K hK=>?_
   go_simp
   exact hK _ _ ⟨rfl,hM⟩
  ·cases ho9
   have r10:=hD.on 7 10 _ rfl (getD_true (hd9 ⟨7,.guard⟩ (by simp) rfl))
   have r17:=hD.od hd9 14 17 _ rfl (by simp)
   have hM0:=hM
   have c9_0:=hM0.cellAt (b:=w.heap.size) (cs:=#[.bool s,.slice a1 n1 c1,.slice a2 n2 c2,.bool t,.slice a3 n3 c3,.slice a4 n4 c4]) (t:=59) (by simp) 4 _ rfl
   clear hM0
   refine wpOp_step rfl fun K hK=>?_
   go_simp
   exact hK _ _ ⟨rfl,hM⟩
  ·cases ho9
   have r10:=hD.on 7 10 _ rfl (getD_true (hd9 ⟨7,.chain⟩ (by simp) rfl))
   have r14:=hD.od hd9 11 14 _ rfl (by simp)
   have r18:=hD.od hd9 15 18 _ rfl (by simp)
   refine wpOp_step rfl fun K hK=>?_
   go_simp
   go_wp2_with fail
   refine (HN _ hM.fr).mono ?_
   rintro en w9 ⟨rfl,hb9⟩
   exact hK _ _ ⟨rfl,hM.kept hb9⟩
  ·cases ho9
   have r10:=hD.od hd9 7 10 _ rfl (by simp)
   have r19:=hD.od hd9 16 19 _ rfl (by simp)
   refine wpOp_step rfl fun K hK=>?_
   go_simp
   exact hK _ _ ⟨rfl,hM⟩
  ·cases ho9
   have r20:=hD.od hd9 17 20 _ rfl (by simp)
   refine wpOp_step rfl fun K hK=>?_
   go_simp
   exact hK _ _ ⟨rfl,hM⟩
  ·cases ho9
   have r21:=hD.on 18 21 _ rfl (getD_true (hd9 ⟨18,.guard⟩ (by simp) rfl))
   have r1:=hD.old 1 _ rfl rfl
   refine wpOp_step rfl fun K hK=>?_
   go_simp
   exact hK _ _ ⟨rfl,hM⟩
  ·cases ho9
   have r21:=hD.on 18 21 _ rfl (getD_true (hd9 ⟨18,.guard⟩ (by simp) rfl))
   have r22:=hD.od hd9 19 22 _ rfl (by simp)
   refine wpOp_step rfl fun K hK=>?_
   go_simp
   exact hK _ _ ⟨rfl,hM⟩
  ·cases ho9
   have r21:=hD.on 18 21 _ rfl (getD_true (hd9 ⟨18,.guard⟩ (by simp) rfl))
   have r23:=hD.od hd9 20 23 _ rfl (by simp)
   refine wpOp_step rfl fun K hK=>?_
   go_simp
   exact hK _ _ ⟨rfl,hM⟩
  ·cases ho9
   have r21:=hD.on 18 21 _ rfl (getD_true (hd9 ⟨18,.guard⟩ (by simp) rfl))
   have r24:=hD.od hd9 21 24 _ rfl (by simp)
   have hM0:=hM
   have c9_0:=hM0.cellAt (b:=w.heap.size) (cs:=#[.bool s,.slice a1 n1 c1,.slice a2 n2 c2,.bool t,.slice a3 n3 c3,.slice a4 n4 c4]) (t:=59) (by simp) 2 _ rfl
   clear hM0
   refine wpOp_step rfl fun K hK=>?_
   go_simp
   exact hK _ _ ⟨rfl,hM⟩
  ·cases ho9
   have r21:=hD.on 18 21 _ rfl (getD_true (hd9 ⟨18,.guard⟩ (by simp) rfl))
   have r1:=hD.old 1 _ rfl rfl
   refine wpOp_step rfl fun K hK=>?_
   go_simp
   exact hK _ _ ⟨rfl,hM⟩
  ·cases ho9
   have r21:=hD.on 18 21 _ rfl (getD_true (hd9 ⟨18,.guard⟩ (by simp) rfl))
   have r26:=hD.od hd9 23 26 _ rfl (by simp)
   refine wpOp_step rfl fun K hK=>?_
   go_simp
   exact hK _ _ ⟨rfl,hM⟩
  ·cases ho9
   have r21:=hD.on 18 21 _ rfl (getD_true (hd9 ⟨18,.guard⟩ (by simp) rfl))
   have r27:=hD.od hd9 24 27 _ rfl (by simp)
   refine wpOp_step rfl fun K hK=>?_
   go_simp
   exact hK _ _ ⟨rfl,hM⟩
  ·cases ho9
   have r21:=hD.on 18 21 _ rfl (getD_true (hd9 ⟨18,.guard⟩ (by simp) rfl))
   have r28:=hD.od hd9 25 28 _ rfl (by simp)
   have hM0:=hM
   have c9_0:=hM0.cellAt (b:=w.heap.size) (cs:=#[.bool s,.slice a1 n1 c1,.slice a2 n2 c2,.bool t,.slice a3 n3 c3,.slice a4 n4 c4]) (t:=59) (by simp) 5 _ rfl
   clear hM0
   refine wpOp_step rfl fun K hK=>?_
   go_simp
   exact hK _ _ ⟨rfl,hM⟩
  ·cases ho9
   have r21:=hD.on 18 21 _ rfl (getD_true (hd9 ⟨18,.chain⟩ (by simp) rfl))
   have r25:=hD.od hd9 22 25 _ rfl (by simp)
   have r29:=hD.od hd9 26 29 _ rfl (by simp)
   refine wpOp_step rfl fun K hK=>?_
   go_simp
   go_wp2_with fail
   refine (HD _ hM.fr).mono ?_
   rintro en w9 ⟨rfl,hb9⟩
   exact hK _ _ ⟨rfl,hM.kept hb9⟩
  ·cases ho9
   have r21:=hD.od hd9 18 21 _ rfl (by simp)
   have r30:=hD.od hd9 27 30 _ rfl (by simp)
   refine wpOp_step rfl fun K hK=>?_
   go_simp
   exact hK _ _ ⟨rfl,hM⟩
  ·cases ho9
   have r31:=hD.od hd9 28 31 _ rfl (by simp)
   refine wpOp_step rfl fun K hK=>?_
   go_simp
   exact hK _ _ ⟨rfl,hM⟩
 ·intro l9 W9 hl9 hM
  have hS:=hM
  clear hM
  simp only [Puts.lay,List.setIfInBounds_toArray,List.set_cons_zero,List.set_cons_succ]
  obtain ⟨⟨ya,yb,yc,yd,ye,yf,-⟩,-⟩:=hS.cells
  clear hEq
  go_wp2
  go_ret
  exact ⟨rfl,hS.fr⟩
theorem same_tf (s t:Bool) (a1 a2 a3 a4:Option Addr) (n1 n2 n3 n4 c1 c2 c3 c4:Nat) (he:(s == t && decide (n1 = n3) && decide (n2 = n4)) = true) (w:World) (HN:∀ W:World,Below w.heap.size w W→Calls Tryz.prog 51 #[.slice a1 n1 c1,.slice a3 n3 c3] W fun e w'=>e = .returned (.bool true)∧Below W.heap.size W w') (HD:∀ W:World,Below w.heap.size w W→Calls Tryz.prog 51 #[.slice a2 n2 c2,.slice a4 n4 c4] W fun e w'=>e = .returned (.bool false)∧Below W.heap.size W w') :
  Calls Tryz.prog 24 #[.agg #[.bool s,.slice a1 n1 c1,.slice a2 n2 c2,.bool t,.slice a3 n3 c3,.slice a4 n4 c4]] w fun e w'=>e = .returned (.bool false)∧Below w.heap.size w w':=by
 have hEq:=eq_shape s t n1 n2 n3 n4
 rw [he] at hEq
 clear he
 go_enter Tryz.func24,Tryz.ntmps24
 go_wp2_with fail
 refine wp_region_any (by kernel_rfl) ?_
 refine wpAny_det [some (3,.pointer (some ⟨w.heap.size,0,none⟩)),some (4,.agg #[.bool s,.slice a1 n1 c1,.slice a2 n2 c2]),some (5,.agg #[.bool s,.int .i64 (n1:Int),.int .i64 (n2:Int)]),some (6,.pointer (some ⟨w.heap.size,3,none⟩)),some (7,.agg #[.bool t,.slice a3 n3 c3,.slice a4 n4 c4]),some (8,.agg #[.bool t,.int .i64 (n3:Int),.int .i64 (n4:Int)]),some (9,.bool true),some (10,.bool true),some (11,.pointer (some ⟨w.heap.size,0,none⟩)),some (12,.pointer (some ⟨w.heap.size,1,none⟩)),some (13,.pointer (some ⟨w.heap.size,1,none⟩)),some (14,.slice a1 n1 c1),some (15,.pointer (some ⟨w.heap.size,3,none⟩)),some (16,.pointer (some ⟨w.heap.size,4,none⟩)),some (17,.pointer (some ⟨w.heap.size,4,none⟩)),some (18,.slice a3 n3 c3),some (19,.bool true),some (20,.bool true),some (21,.bool true),some (22,.pointer (some ⟨w.heap.size,0,none⟩)),some (23,.pointer (some ⟨w.heap.size,2,none⟩)),some (24,.pointer (some ⟨w.heap.size,2,none⟩)),some (25,.slice a2 n2 c2),some (26,.pointer (some ⟨w.heap.size,3,none⟩)),some (27,.pointer (some ⟨w.heap.size,5,none⟩)),some (28,.pointer (some ⟨w.heap.size,5,none⟩)),some (29,.slice a4 n4 c4),some (30,.bool false),some (31,.bool false),some (2,.bool false)]
  (fun _ W9=>Fs w W9 [⟨w.heap.size,#[.bool s,.slice a1 n1 c1,.slice a2 n2 c2,.bool t,.slice a3 n3 c3,.slice a4 n4 c4],59⟩]) _ _ rfl (by kernel_rfl) rfl rfl ?_ ?_ (Fs.one w _ _).drew
 ·intro l9 t9 W9 i9 hD hi9 hl9 hM
  obtain ⟨o9,ho9,hd9⟩:=(mem_ready.1 hi9).2
  have hin9:i9 < 30:=by
   by_cases h:i9 < 30
   ·exact h
   ·rw [Array.getElem?_eq_none (by rw [hD.len]; simp; omega)] at hl9; cases hl9
  have hcase:i9 = 0∨i9 = 1∨i9 = 2∨i9 = 3∨i9 = 4∨i9 = 5∨i9 = 6∨i9 = 7∨i9 = 8∨i9 = 9∨i9 = 10∨i9 = 11∨i9 = 12∨i9 = 13∨i9 = 14∨i9 = 15∨i9 = 16∨i9 = 17∨i9 = 18∨i9 = 19∨i9 = 20∨i9 = 21∨i9 = 22∨i9 = 23∨i9 = 24∨i9 = 25∨i9 = 26∨i9 = 27∨i9 = 28∨i9 = 29:=by omega
  clear hin9
  rcases hcase with rfl|rfl|rfl|rfl|rfl|rfl|rfl|rfl|rfl|rfl|rfl|rfl|rfl|rfl|rfl|rfl|rfl|rfl|rfl|rfl|rfl|rfl|rfl|rfl|rfl|rfl|rfl|rfl|rfl|rfl
  ·cases ho9
   have r1:=hD.old 1 _ rfl rfl
   refine wpOp_step rfl fun K hK=>?_
   go_simp
   exact hK _ _ ⟨rfl,hM⟩
  ·cases ho9
   have r3:=hD.od hd9 0 3 _ rfl (by simp)
   have hM0:=hM
   have Q_:=hM0.cellAt (b:=w.heap.size) (cs:=#[.bool s,.slice a1 n1 c1,.slice a2 n2 c2,.bool t,.slice a3 n3 c3,.slice a4 n4 c4]) (t:=59) (by simp)
   have c9_0:=Q_ 0 _ rfl
   have c9_1:=Q_ 1 _ rfl
   have c9_2:=Q_ 2 _ rfl
   clear Q_
   clear hM0
   refine wpOp_step rfl fun K hK=>?_
   go_simp
   exact hK _ _ ⟨rfl,hM⟩
  ·cases ho9
   have r4:=hD.od hd9 1 4 _ rfl (by simp)
   refine wpOp_step rfl fun K hK=>?_
   go_simp
   go_wp2_with fail
   refine (shapeOf_any _ _ _ _ _ _ _ _).mono ?_
   rintro en w9 ⟨rfl,hb9⟩
   exact hK _ _ ⟨rfl,hM.kept hb9⟩
  ·cases ho9
   have r1:=hD.old 1 _ rfl rfl
   refine wpOp_step rfl fun K hK=>?_
   go_simp
   exact hK _ _ ⟨rfl,hM⟩
  ·cases ho9
   have r6:=hD.od hd9 3 6 _ rfl (by simp)
   have hM0:=hM
   have Q_:=hM0.cellAt (b:=w.heap.size) (cs:=#[.bool s,.slice a1 n1 c1,.slice a2 n2 c2,.bool t,.slice a3 n3 c3,.slice a4 n4 c4]) (t:=59) (by simp)
   have c9_0:=Q_ 3 _ rfl
   have c9_1:=Q_ 4 _ rfl
   have c9_2:=Q_ 5 _ rfl
   clear Q_
   clear hM0
   refine wpOp_step rfl fun K hK=>?_
   go_simp
   exact hK _ _ ⟨rfl,hM⟩
  ·cases ho9
   have r7:=hD.od hd9 4 7 _ rfl (by simp)
   refine wpOp_step rfl fun K hK=>?_
   go_simp
   go_wp2_with fail
   refine (shapeOf_any _ _ _ _ _ _ _ _).mono ?_
   rintro en w9 ⟨rfl,hb9⟩
   exact hK _ _ ⟨rfl,hM.kept hb9⟩
  ·cases ho9
   have r5:=hD.od hd9 2 5 _ rfl (by simp)
   have r8:=hD.od hd9 5 8 _ rfl (by simp)
   refine wpOp_step rfl fun K hK=>?_
   go_simp
   exact hK _ _ ⟨act_eq (by rfl),hM⟩
  ·cases ho9
   have r9:=hD.od hd9 6 9 _ rfl (by simp)
   refine wpOp_step rfl fun K hK=>?_
   go_simp
   exact hK _ _ ⟨rfl,hM⟩
  ·cases ho9
   have r10:=hD.on 7 10 _ rfl (getD_true (hd9 ⟨7,.guard⟩ (by simp) rfl))
   have r1:=hD.old 1 _ rfl rfl
   refine wpOp_step rfl fun K hK=>?_
   go_simp
   exact hK _ _ ⟨rfl,hM⟩
  ·cases ho9
   have r10:=hD.on 7 10 _ rfl (getD_true (hd9 ⟨7,.guard⟩ (by simp) rfl))
   have r11:=hD.od hd9 8 11 _ rfl (by simp)
   refine wpOp_step rfl fun K hK=>?_
   go_simp
   exact hK _ _ ⟨rfl,hM⟩
  ·cases ho9
   have r10:=hD.on 7 10 _ rfl (getD_true (hd9 ⟨7,.guard⟩ (by simp) rfl))
   have r12:=hD.od hd9 9 12 _ rfl (by simp)
   refine wpOp_step rfl fun K hK=>?_
   go_simp
   exact hK _ _ ⟨rfl,hM⟩
  ·cases ho9
   have r10:=hD.on 7 10 _ rfl (getD_true (hd9 ⟨7,.guard⟩ (by simp) rfl))
   have r13:=hD.od hd9 10 13 _ rfl (by simp)
   have hM0:=hM
   have c9_0:=hM0.cellAt (b:=w.heap.size) (cs:=#[.bool s,.slice a1 n1 c1,.slice a2 n2 c2,.bool t,.slice a3 n3 c3,.slice a4 n4 c4]) (t:=59) (by simp) 1 _ rfl
   clear hM0
   refine wpOp_step rfl fun K hK=>?_
   go_simp
   exact hK _ _ ⟨rfl,hM⟩
  ·cases ho9
   have r10:=hD.on 7 10 _ rfl (getD_true (hd9 ⟨7,.guard⟩ (by simp) rfl))
   have r1:=hD.old 1 _ rfl rfl
   refine wpOp_step rfl fun K hK=>?_
   go_simp
   exact hK _ _ ⟨rfl,hM⟩
  ·cases ho9
   have r10:=hD.on 7 10 _ rfl (getD_true (hd9 ⟨7,.guard⟩ (by simp) rfl))
   have r15:=hD.od hd9 12 15 _ rfl (by simp)
   refine wpOp_step rfl fun K hK=>?_
   go_simp
   exact hK _ _ ⟨rfl,hM⟩
  ·cases ho9
   have r10:=hD.on 7 10 _ rfl (getD_true (hd9 ⟨7,.guard⟩ (by simp) rfl))
   have r16:=hD.od hd9 13 16 _ rfl (by simp)
   refine wpOp_step rfl fun K hK=>?_
   go_simp
   exact hK _ _ ⟨rfl,hM⟩
  ·cases ho9
   have r10:=hD.on 7 10 _ rfl (getD_true (hd9 ⟨7,.guard⟩ (by simp) rfl))
   have r17:=hD.od hd9 14 17 _ rfl (by simp)
   have hM0:=hM
   have c9_0:=hM0.cellAt (b:=w.heap.size) (cs:=#[.bool s,.slice a1 n1 c1,.slice a2 n2 c2,.bool t,.slice a3 n3 c3,.slice a4 n4 c4]) (t:=59) (by simp) 4 _ rfl
   clear hM0
   refine wpOp_step rfl fun K hK=>?_
   go_simp
   exact hK _ _ ⟨rfl,hM⟩
  ·cases ho9
   have r10:=hD.on 7 10 _ rfl (getD_true (hd9 ⟨7,.chain⟩ (by simp) rfl))
   have r14:=hD.od hd9 11 14 _ rfl (by simp)
   have r18:=hD.od hd9 15 18 _ rfl (by simp)
   refine wpOp_step rfl fun K hK=>?_
   go_simp
   go_wp2_with fail
   refine (HN _ hM.fr).mono ?_
   rintro en w9 ⟨rfl,hb9⟩
   exact hK _ _ ⟨rfl,hM.kept hb9⟩
  ·cases ho9
   have r10:=hD.od hd9 7 10 _ rfl (by simp)
   have r19:=hD.od hd9 16 19 _ rfl (by simp)
   refine wpOp_step rfl fun K hK=>?_
   go_simp
   exact hK _ _ ⟨rfl,hM⟩
  ·cases ho9
   have r20:=hD.od hd9 17 20 _ rfl (by simp)
   refine wpOp_step rfl fun K hK=>?_
   go_simp
   exact hK _ _ ⟨rfl,hM⟩
  ·cases ho9
   have r21:=hD.on 18 21 _ rfl (getD_true (hd9 ⟨18,.guard⟩ (by simp) rfl))
   have r1:=hD.old 1 _ rfl rfl
   refine wpOp_step rfl fun K hK=>?_
   go_simp
   exact hK _ _ ⟨rfl,hM⟩
  ·cases ho9
   have r21:=hD.on 18 21 _ rfl (getD_true (hd9 ⟨18,.guard⟩ (by simp) rfl))
   have r22:=hD.od hd9 19 22 _ rfl (by simp)
   refine wpOp_step rfl fun K hK=>?_
   go_simp
   exact hK _ _ ⟨rfl,hM⟩
  ·cases ho9
   have r21:=hD.on 18 21 _ rfl (getD_true (hd9 ⟨18,.guard⟩ (by simp) rfl))
   have r23:=hD.od hd9 20 23 _ rfl (by simp)
   refine wpOp_step rfl fun K hK=>?_
   go_simp
   exact hK _ _ ⟨rfl,hM⟩
  ·cases ho9
   have r21:=hD.on 18 21 _ rfl (getD_true (hd9 ⟨18,.guard⟩ (by simp) rfl))
   have r24:=hD.od hd9 21 24 _ rfl (by simp)
   have hM0:=hM
   have c9_0:=hM0.cellAt (b:=w.heap.size) (cs:=#[.bool s,.slice a1 n1 c1,.slice a2 n2 c2,.bool t,.slice a3 n3 c3,.slice a4 n4 c4]) (t:=59) (by simp) 2 _ rfl
   clear hM0
   refine wpOp_step rfl fun K hK=>?_
   go_simp
   exact hK _ _ ⟨rfl,hM⟩
  ·cases ho9
   have r21:=hD.on 18 21 _ rfl (getD_true (hd9 ⟨18,.guard⟩ (by simp) rfl))
   have r1:=hD.old 1 _ rfl rfl
   refine wpOp_step rfl fun K hK=>?_
   go_simp
   exact hK _ _ ⟨rfl,hM⟩
  ·cases ho9
   have r21:=hD.on 18 21 _ rfl (getD_true (hd9 ⟨18,.guard⟩ (by simp) rfl))
   have r26:=hD.od hd9 23 26 _ rfl (by simp)
   refine wpOp_step rfl fun K hK=>?_
   go_simp
   exact hK _ _ ⟨rfl,hM⟩
  ·cases ho9
   have r21:=hD.on 18 21 _ rfl (getD_true (hd9 ⟨18,.guard⟩ (by simp) rfl))
   have r27:=hD.od hd9 24 27 _ rfl (by simp)
   refine wpOp_step rfl fun K hK=>?_
   go_simp
   exact hK _ _ ⟨rfl,hM⟩
  ·cases ho9
   have r21:=hD.on 18 21 _ rfl (getD_true (hd9 ⟨18,.guard⟩ (by simp) rfl))
   have r28:=hD.od hd9 25 28 _ rfl (by simp)
   have hM0:=hM
   have c9_0:=hM0.cellAt (b:=w.heap.size) (cs:=#[.bool s,.slice a1 n1 c1,.slice a2 n2 c2,.bool t,.slice a3 n3 c3,.slice a4 n4 c4]) (t:=59) (by simp) 5 _ rfl
   clear hM0
   refine wpOp_step rfl fun K hK=>?_
   go_simp
   exact hK _ _ ⟨rfl,hM⟩
  ·cases ho9
   have r21:=hD.on 18 21 _ rfl (getD_true (hd9 ⟨18,.chain⟩ (by simp) rfl))
   have r25:=hD.od hd9 22 25 _ rfl (by simp)
   have r29:=hD.od hd9 26 29 _ rfl (by simp)
   refine wpOp_step rfl fun K hK=>?_
   go_simp
   go_wp2_with fail
   refine (HD _ hM.fr).mono ?_
   rintro en w9 ⟨rfl,hb9⟩
   exact hK _ _ ⟨rfl,hM.kept hb9⟩
  ·cases ho9
   have r21:=hD.od hd9 18 21 _ rfl (by simp)
   have r30:=hD.od hd9 27 30 _ rfl (by simp)
   refine wpOp_step rfl fun K hK=>?_
   go_simp
   exact hK _ _ ⟨rfl,hM⟩
  ·cases ho9
   have r31:=hD.od hd9 28 31 _ rfl (by simp)
   refine wpOp_step rfl fun K hK=>?_
   go_simp
   exact hK _ _ ⟨rfl,hM⟩
 ·intro l9 W9 hl9 hM
  have hS:=hM
  clear hM
  simp only [Puts.lay,List.setIfInBounds_toArray,List.set_cons_zero,List.set_cons_succ]
  obtain ⟨⟨ya,yb,yc,yd,ye,yf,-⟩,-⟩:=hS.cells
  clear hEq
  go_wp2
  go_ret
  exact ⟨rfl,hS.fr⟩
theorem rsign_t  (w:World)  :
  Calls Tryz.prog 25 #[.bool true] w fun e w'=>e = .returned (.int .i64 1)∧Below w.heap.size w w':=by
 go_enter Tryz.func25,Tryz.ntmps25
 go_wp2
 go_ret
 exact ⟨rfl,(Fs.begin w).fr⟩
theorem rsign_f  (w:World)  :
  Calls Tryz.prog 25 #[.bool false] w fun e w'=>e = .returned (.int .i64 (-1))∧Below w.heap.size w w':=by
 go_enter Tryz.func25,Tryz.ntmps25
 go_wp2
 go_ret
 exact ⟨rfl,(Fs.begin w).fr⟩
theorem rcmp_same (s t:Bool) (a1 a2 a3 a4:Option Addr) (n1 n2 n3 n4 c1 c2 c3 c4:Nat) (w:World) (HC:Hid (∀ W:World,Below w.heap.size w W→Calls Tryz.prog 23 #[.agg #[.bool s,.slice a1 n1 c1,.slice a2 n2 c2,.bool t,.slice a3 n3 c3,.slice a4 n4 c4]] W fun e w'=>e = .returned (.int .i64 0)∧Below W.heap.size W w')) (HS:Hid (∀ W:World,Below w.heap.size w W→Calls Tryz.prog 24 #[.agg #[.bool s,.slice a1 n1 c1,.slice a2 n2 c2,.bool t,.slice a3 n3 c3,.slice a4 n4 c4]] W fun e w'=>e = .returned (.bool true)∧Below W.heap.size W w')) :
  Calls Tryz.prog 14 #[.agg #[.bool s,.slice a1 n1 c1,.slice a2 n2 c2],.agg #[.bool t,.slice a3 n3 c3,.slice a4 n4 c4]] w fun e w'=>e = .returned (.tuple #[.int .i64 0,.int .i64 0])∧Below w.heap.size w w':=by
 go_enter Tryz.func14,Tryz.ntmps14
 go_wp2_with fail
 refine (unhide HC _ (Fs.three w _ _ _ _ _ _).fr).mono ?_
 rintro e w1 ⟨rfl,hb1⟩
 have hS:=(Fs.three w _ _ _ _ _ _).kept hb1
 obtain ⟨⟨ya,yb,yc,-⟩,⟨yd,ye,yf,-⟩,⟨yg,yh,yi,yj,yk,yl,-⟩,-⟩:=hS.cells
 go_wp2_with fail
 refine (unhide HS _ hS.fr).mono ?_
 rintro e w2 ⟨rfl,hb2⟩
 replace hS:=hS.kept hb2
 clear ya yb yc yd ye yf yg yh yi yj yk yl
 obtain ⟨⟨ym,yn,yo,-⟩,⟨yp,yq,yr,-⟩,⟨ys,yt,yu,yv,yw,yx,-⟩,-⟩:=hS.cells
 go_wp2
 go_ret2
 exact ⟨rfl,hS.fr⟩
theorem rcmp_ft (a1 a2 a3 a4:Option Addr) (n1 n2 n3 n4 c1 c2 c3 c4:Nat) (w:World) (HC:Hid (∀ W:World,Below w.heap.size w W→Calls Tryz.prog 23 #[.agg #[.bool false,.slice a1 n1 c1,.slice a2 n2 c2,.bool true,.slice a3 n3 c3,.slice a4 n4 c4]] W fun e w'=>e = .returned (.int .i64 0)∧Below W.heap.size W w')) (HS:Hid (∀ W:World,Below w.heap.size w W→Calls Tryz.prog 24 #[.agg #[.bool false,.slice a1 n1 c1,.slice a2 n2 c2,.bool true,.slice a3 n3 c3,.slice a4 n4 c4]] W fun e w'=>e = .returned (.bool false)∧Below W.heap.size W w')) :
  Calls Tryz.prog 14 #[.agg #[.bool false,.slice a1 n1 c1,.slice a2 n2 c2],.agg #[.bool true,.slice a3 n3 c3,.slice a4 n4 c4]] w fun e w'=>e = .returned (.tuple #[.int .i64 1,.int .i64 0])∧Below w.heap.size w w':=by
 go_enter Tryz.func14,Tryz.ntmps14
 go_wp2_with fail
 refine (unhide HC _ (Fs.three w _ _ _ _ _ _).fr).mono ?_
 rintro e w1 ⟨rfl,hb1⟩
 have hS:=(Fs.three w _ _ _ _ _ _).kept hb1
 obtain ⟨⟨ya,yb,yc,-⟩,⟨yd,ye,yf,-⟩,⟨yg,yh,yi,yj,yk,yl,-⟩,-⟩:=hS.cells
 go_wp2_with fail
 refine (unhide HS _ hS.fr).mono ?_
 rintro e w2 ⟨rfl,hb2⟩
 replace hS:=hS.kept hb2
 clear ya yb yc yd ye yf yg yh yi yj yk yl
 obtain ⟨⟨ym,yn,yo,-⟩,⟨yp,yq,yr,-⟩,⟨ys,yt,yu,yv,yw,yx,-⟩,-⟩:=hS.cells
 go_wp2_with fail
 refine (rsign_t _).mono ?_
 rintro e w3 ⟨rfl,hb3⟩
 replace hS:=hS.kept hb3
 clear ym yn yo yp yq yr ys yt yu yv yw yx
 obtain ⟨⟨yy,yz,y0,-⟩,⟨y1,y2,y3,-⟩,⟨y4,y5,y6,y7,y8,y9,-⟩,-⟩:=hS.cells
 go_wp2
 go_ret2
 exact ⟨rfl,hS.fr⟩
theorem rcmp_tf (a1 a2 a3 a4:Option Addr) (n1 n2 n3 n4 c1 c2 c3 c4:Nat) (w:World) (HC:Hid (∀ W:World,Below w.heap.size w W→Calls Tryz.prog 23 #[.agg #[.bool true,.slice a1 n1 c1,.slice a2 n2 c2,.bool false,.slice a3 n3 c3,.slice a4 n4 c4]] W fun e w'=>e = .returned (.int .i64 0)∧Below W.heap.size W w')) (HS:Hid (∀ W:World,Below w.heap.size w W→Calls Tryz.prog 24 #[.agg #[.bool true,.slice a1 n1 c1,.slice a2 n2 c2,.bool false,.slice a3 n3 c3,.slice a4 n4 c4]] W fun e w'=>e = .returned (.bool false)∧Below W.heap.size W w')) :
  Calls Tryz.prog 14 #[.agg #[.bool true,.slice a1 n1 c1,.slice a2 n2 c2],.agg #[.bool false,.slice a3 n3 c3,.slice a4 n4 c4]] w fun e w'=>e = .returned (.tuple #[.int .i64 (-1),.int .i64 0])∧Below w.heap.size w w':=by
 go_enter Tryz.func14,Tryz.ntmps14
 go_wp2_with fail
 refine (unhide HC _ (Fs.three w _ _ _ _ _ _).fr).mono ?_
 rintro e w1 ⟨rfl,hb1⟩
 have hS:=(Fs.three w _ _ _ _ _ _).kept hb1
 obtain ⟨⟨ya,yb,yc,-⟩,⟨yd,ye,yf,-⟩,⟨yg,yh,yi,yj,yk,yl,-⟩,-⟩:=hS.cells
 go_wp2_with fail
 refine (unhide HS _ hS.fr).mono ?_
 rintro e w2 ⟨rfl,hb2⟩
 replace hS:=hS.kept hb2
 clear ya yb yc yd ye yf yg yh yi yj yk yl
 obtain ⟨⟨ym,yn,yo,-⟩,⟨yp,yq,yr,-⟩,⟨ys,yt,yu,yv,yw,yx,-⟩,-⟩:=hS.cells
 go_wp2_with fail
 refine (rsign_f _).mono ?_
 rintro e w3 ⟨rfl,hb3⟩
 replace hS:=hS.kept hb3
 clear ym yn yo yp yq yr ys yt yu yv yw yx
 obtain ⟨⟨yy,yz,y0,-⟩,⟨y1,y2,y3,-⟩,⟨y4,y5,y6,y7,y8,y9,-⟩,-⟩:=hS.cells
 go_wp2
 go_ret2
 exact ⟨rfl,hS.fr⟩
theorem rcmp_fft (a1 a2 a3 a4:Option Addr) (n1 n2 n3 n4 c1 c2 c3 c4:Nat) (w:World) (HC:Hid (∀ W:World,Below w.heap.size w W→Calls Tryz.prog 23 #[.agg #[.bool false,.slice a1 n1 c1,.slice a2 n2 c2,.bool false,.slice a3 n3 c3,.slice a4 n4 c4]] W fun e w'=>e = .returned (.int .i64 0)∧Below W.heap.size W w')) (HS:Hid (∀ W:World,Below w.heap.size w W→Calls Tryz.prog 24 #[.agg #[.bool false,.slice a1 n1 c1,.slice a2 n2 c2,.bool false,.slice a3 n3 c3,.slice a4 n4 c4]] W fun e w'=>e = .returned (.bool false)∧Below W.heap.size W w')) (HF:Hid (∀ W:World,Below w.heap.size w W→Calls Tryz.prog 26 #[.agg #[.bool false,.slice a1 n1 c1,.slice a2 n2 c2,.bool false,.slice a3 n3 c3,.slice a4 n4 c4]] W fun e w'=>e = .returned (.bool true)∧Below W.heap.size W w')) :
  Calls Tryz.prog 14 #[.agg #[.bool false,.slice a1 n1 c1,.slice a2 n2 c2],.agg #[.bool false,.slice a3 n3 c3,.slice a4 n4 c4]] w fun e w'=>e = .returned (.tuple #[.int .i64 1,.int .i64 0])∧Below w.heap.size w w':=by
 go_enter Tryz.func14,Tryz.ntmps14
 go_wp2_with fail
 refine (unhide HC _ (Fs.three w _ _ _ _ _ _).fr).mono ?_
 rintro e w1 ⟨rfl,hb1⟩
 have hS:=(Fs.three w _ _ _ _ _ _).kept hb1
 obtain ⟨⟨ya,yb,yc,-⟩,⟨yd,ye,yf,-⟩,⟨yg,yh,yi,yj,yk,yl,-⟩,-⟩:=hS.cells
 go_wp2_with fail
 refine (unhide HS _ hS.fr).mono ?_
 rintro e w2 ⟨rfl,hb2⟩
 replace hS:=hS.kept hb2
 clear ya yb yc yd ye yf yg yh yi yj yk yl
 obtain ⟨⟨ym,yn,yo,-⟩,⟨yp,yq,yr,-⟩,⟨ys,yt,yu,yv,yw,yx,-⟩,-⟩:=hS.cells
 go_wp2_with fail
 refine wp_region_any (by kernel_rfl) ?_
 refine wpAny_det [some (26,.agg #[.bool false,.slice a1 n1 c1,.slice a2 n2 c2,.bool false,.slice a3 n3 c3,.slice a4 n4 c4]),some (27,.bool true),some (28,.pointer (some ⟨w.heap.size,0,none⟩)),some (29,.bool false),some (30,.bool true),some (31,.int .i64 1),some (4,.int .i64 1),some (5,.int .i64 0)]
  (fun _ W9=>Fs w W9 [⟨w.heap.size,#[.bool false,.slice a1 n1 c1,.slice a2 n2 c2],27⟩,⟨w.heap.size+1,#[.bool false,.slice a3 n3 c3,.slice a4 n4 c4],27⟩,⟨w.heap.size+2,#[.bool false,.slice a1 n1 c1,.slice a2 n2 c2,.bool false,.slice a3 n3 c3,.slice a4 n4 c4],59⟩]) _ _ rfl (by kernel_rfl) rfl rfl ?_ ?_ (hS).drew
 ·intro l9 t9 W9 i9 hD hi9 hl9 hM
  obtain ⟨o9,ho9,hd9⟩:=(mem_ready.1 hi9).2
  have hin9:i9 < 8:=by
   by_cases h:i9 < 8
   ·exact h
   ·rw [Array.getElem?_eq_none (by rw [hD.len]; simp; omega)] at hl9; cases hl9
  have hcase:i9 = 0∨i9 = 1∨i9 = 2∨i9 = 3∨i9 = 4∨i9 = 5∨i9 = 6∨i9 = 7:=by omega
  clear hin9
  rcases hcase with rfl|rfl|rfl|rfl|rfl|rfl|rfl|rfl
  ·cases ho9
   have r6:=hD.old 6 _ rfl rfl
   have hM0:=hM
   have Q_:=hM0.cellAt (b:=w.heap.size+2) (cs:=#[.bool false,.slice a1 n1 c1,.slice a2 n2 c2,.bool false,.slice a3 n3 c3,.slice a4 n4 c4]) (t:=59) (by simp)
   have c9_0:=Q_ 0 _ rfl
   have c9_1:=Q_ 1 _ rfl
   have c9_2:=Q_ 2 _ rfl
   have c9_3:=Q_ 3 _ rfl
   have c9_4:=Q_ 4 _ rfl
   have c9_5:=Q_ 5 _ rfl
   clear Q_
   clear hM0
   refine wpOp_step rfl fun K hK=>?_
   go_simp
   exact hK _ _ ⟨rfl,hM⟩
  ·cases ho9
   have r26:=hD.od hd9 0 26 _ rfl (by simp)
   refine wpOp_step rfl fun K hK=>?_
   go_simp
   go_wp2_with fail
   refine (unhide HF _ hM.fr).mono ?_
   rintro en w9 ⟨rfl,hb9⟩
   exact hK _ _ ⟨rfl,hM.kept hb9⟩
  ·cases ho9
   have r2:=hD.old 2 _ rfl rfl
   refine wpOp_step rfl fun K hK=>?_
   go_simp
   exact hK _ _ ⟨rfl,hM⟩
  ·cases ho9
   have r28:=hD.od hd9 2 28 _ rfl (by simp)
   have hM0:=hM
   have c9_0:=hM0.cellAt (b:=w.heap.size) (cs:=#[.bool false,.slice a1 n1 c1,.slice a2 n2 c2]) (t:=27) (by simp) 0 _ rfl
   clear hM0
   refine wpOp_step rfl fun K hK=>?_
   go_simp
   exact hK _ _ ⟨rfl,hM⟩
  ·cases ho9
   have r27:=hD.od hd9 1 27 _ rfl (by simp)
   have r29:=hD.od hd9 3 29 _ rfl (by simp)
   refine wpOp_step rfl fun K hK=>?_
   go_simp
   exact hK _ _ ⟨act_eq (by rfl),hM⟩
  ·cases ho9
   have r30:=hD.od hd9 4 30 _ rfl (by simp)
   refine wpOp_step rfl fun K hK=>?_
   go_simp
   go_wp2_with fail
   refine (rsign_t _).mono ?_
   rintro en w9 ⟨rfl,hb9⟩
   exact hK _ _ ⟨rfl,hM.kept hb9⟩
  ·cases ho9
   have r31:=hD.od hd9 5 31 _ rfl (by simp)
   refine wpOp_step rfl fun K hK=>?_
   go_simp
   exact hK _ _ ⟨rfl,hM⟩
  ·cases ho9
   refine wpOp_step rfl fun K hK=>?_
   go_simp
   exact hK _ _ ⟨rfl,hM⟩
 ·intro l9 W9 hl9 hM
  clear hS ym yn yo yp yq yr ys yt yu yv yw yx
  have hS:=hM
  clear hM
  simp only [Puts.lay,List.setIfInBounds_toArray,List.set_cons_zero,List.set_cons_succ]
  obtain ⟨⟨yy,yz,y0,-⟩,⟨y1,y2,y3,-⟩,⟨y4,y5,y6,y7,y8,y9,-⟩,-⟩:=hS.cells
  go_wp2
  go_ret2
  exact ⟨rfl,hS.fr⟩
theorem rcmp_fff (a1 a2 a3 a4:Option Addr) (n1 n2 n3 n4 c1 c2 c3 c4:Nat) (w:World) (HC:Hid (∀ W:World,Below w.heap.size w W→Calls Tryz.prog 23 #[.agg #[.bool false,.slice a1 n1 c1,.slice a2 n2 c2,.bool false,.slice a3 n3 c3,.slice a4 n4 c4]] W fun e w'=>e = .returned (.int .i64 0)∧Below W.heap.size W w')) (HS:Hid (∀ W:World,Below w.heap.size w W→Calls Tryz.prog 24 #[.agg #[.bool false,.slice a1 n1 c1,.slice a2 n2 c2,.bool false,.slice a3 n3 c3,.slice a4 n4 c4]] W fun e w'=>e = .returned (.bool false)∧Below W.heap.size W w')) (HF:Hid (∀ W:World,Below w.heap.size w W→Calls Tryz.prog 26 #[.agg #[.bool false,.slice a1 n1 c1,.slice a2 n2 c2,.bool false,.slice a3 n3 c3,.slice a4 n4 c4]] W fun e w'=>e = .returned (.bool false)∧Below W.heap.size W w')) :
  Calls Tryz.prog 14 #[.agg #[.bool false,.slice a1 n1 c1,.slice a2 n2 c2],.agg #[.bool false,.slice a3 n3 c3,.slice a4 n4 c4]] w fun e w'=>e = .returned (.tuple #[.int .i64 (-1),.int .i64 0])∧Below w.heap.size w w':=by
 go_enter Tryz.func14,Tryz.ntmps14
 go_wp2_with fail
 refine (unhide HC _ (Fs.three w _ _ _ _ _ _).fr).mono ?_
 rintro e w1 ⟨rfl,hb1⟩
 have hS:=(Fs.three w _ _ _ _ _ _).kept hb1
 obtain ⟨⟨ya,yb,yc,-⟩,⟨yd,ye,yf,-⟩,⟨yg,yh,yi,yj,yk,yl,-⟩,-⟩:=hS.cells
 go_wp2_with fail
 refine (unhide HS _ hS.fr).mono ?_
 rintro e w2 ⟨rfl,hb2⟩
 replace hS:=hS.kept hb2
 clear ya yb yc yd ye yf yg yh yi yj yk yl
 obtain ⟨⟨ym,yn,yo,-⟩,⟨yp,yq,yr,-⟩,⟨ys,yt,yu,yv,yw,yx,-⟩,-⟩:=hS.cells
 go_wp2_with fail
 refine wp_region_any (by kernel_rfl) ?_
 refine wpAny_det [some (26,.agg #[.bool false,.slice a1 n1 c1,.slice a2 n2 c2,.bool false,.slice a3 n3 c3,.slice a4 n4 c4]),some (27,.bool false),some (28,.pointer (some ⟨w.heap.size,0,none⟩)),some (29,.bool false),some (30,.bool false),some (31,.int .i64 (-1)),some (4,.int .i64 (-1)),some (5,.int .i64 0)]
  (fun _ W9=>Fs w W9 [⟨w.heap.size,#[.bool false,.slice a1 n1 c1,.slice a2 n2 c2],27⟩,⟨w.heap.size+1,#[.bool false,.slice a3 n3 c3,.slice a4 n4 c4],27⟩,⟨w.heap.size+2,#[.bool false,.slice a1 n1 c1,.slice a2 n2 c2,.bool false,.slice a3 n3 c3,.slice a4 n4 c4],59⟩]) _ _ rfl (by kernel_rfl) rfl rfl ?_ ?_ (hS).drew
 ·intro l9 t9 W9 i9 hD hi9 hl9 hM
  obtain ⟨o9,ho9,hd9⟩:=(mem_ready.1 hi9).2
  have hin9:i9 < 8:=by
   by_cases h:i9 < 8
   ·exact h
   ·rw [Array.getElem?_eq_none (by rw [hD.len]; simp; omega)] at hl9; cases hl9
  have hcase:i9 = 0∨i9 = 1∨i9 = 2∨i9 = 3∨i9 = 4∨i9 = 5∨i9 = 6∨i9 = 7:=by omega
  clear hin9
  rcases hcase with rfl|rfl|rfl|rfl|rfl|rfl|rfl|rfl
  ·cases ho9
   have r6:=hD.old 6 _ rfl rfl
   have hM0:=hM
   have Q_:=hM0.cellAt (b:=w.heap.size+2) (cs:=#[.bool false,.slice a1 n1 c1,.slice a2 n2 c2,.bool false,.slice a3 n3 c3,.slice a4 n4 c4]) (t:=59) (by simp)
   have c9_0:=Q_ 0 _ rfl
   have c9_1:=Q_ 1 _ rfl
   have c9_2:=Q_ 2 _ rfl
   have c9_3:=Q_ 3 _ rfl
   have c9_4:=Q_ 4 _ rfl
   have c9_5:=Q_ 5 _ rfl
   clear Q_
   clear hM0
   refine wpOp_step rfl fun K hK=>?_
   go_simp
   exact hK _ _ ⟨rfl,hM⟩
  ·cases ho9
   have r26:=hD.od hd9 0 26 _ rfl (by simp)
   refine wpOp_step rfl fun K hK=>?_
   go_simp
   go_wp2_with fail
   refine (unhide HF _ hM.fr).mono ?_
   rintro en w9 ⟨rfl,hb9⟩
   exact hK _ _ ⟨rfl,hM.kept hb9⟩
  ·cases ho9
   have r2:=hD.old 2 _ rfl rfl
   refine wpOp_step rfl fun K hK=>?_
   go_simp
   exact hK _ _ ⟨rfl,hM⟩
  ·cases ho9
   have r28:=hD.od hd9 2 28 _ rfl (by simp)
   have hM0:=hM
   have c9_0:=hM0.cellAt (b:=w.heap.size) (cs:=#[.bool false,.slice a1 n1 c1,.slice a2 n2 c2]) (t:=27) (by simp) 0 _ rfl
   clear hM0
   refine wpOp_step rfl fun K hK=>?_
   go_simp
   exact hK _ _ ⟨rfl,hM⟩
  ·cases ho9
   have r27:=hD.od hd9 1 27 _ rfl (by simp)
   have r29:=hD.od hd9 3 29 _ rfl (by simp)
   refine wpOp_step rfl fun K hK=>?_
   go_simp
   exact hK _ _ ⟨act_eq (by rfl),hM⟩
  ·cases ho9
   have r30:=hD.od hd9 4 30 _ rfl (by simp)
   refine wpOp_step rfl fun K hK=>?_
   go_simp
   go_wp2_with fail
   refine (rsign_f _).mono ?_
   rintro en w9 ⟨rfl,hb9⟩
   exact hK _ _ ⟨rfl,hM.kept hb9⟩
  ·cases ho9
   have r31:=hD.od hd9 5 31 _ rfl (by simp)
   refine wpOp_step rfl fun K hK=>?_
   go_simp
   exact hK _ _ ⟨rfl,hM⟩
  ·cases ho9
   refine wpOp_step rfl fun K hK=>?_
   go_simp
   exact hK _ _ ⟨rfl,hM⟩
 ·intro l9 W9 hl9 hM
  clear hS ym yn yo yp yq yr ys yt yu yv yw yx
  have hS:=hM
  clear hM
  simp only [Puts.lay,List.setIfInBounds_toArray,List.set_cons_zero,List.set_cons_succ]
  obtain ⟨⟨yy,yz,y0,-⟩,⟨y1,y2,y3,-⟩,⟨y4,y5,y6,y7,y8,y9,-⟩,-⟩:=hS.cells
  go_wp2
  go_ret2
  exact ⟨rfl,hS.fr⟩
theorem rcmp_ttt (a1 a2 a3 a4:Option Addr) (n1 n2 n3 n4 c1 c2 c3 c4:Nat) (w:World) (HC:Hid (∀ W:World,Below w.heap.size w W→Calls Tryz.prog 23 #[.agg #[.bool true,.slice a1 n1 c1,.slice a2 n2 c2,.bool true,.slice a3 n3 c3,.slice a4 n4 c4]] W fun e w'=>e = .returned (.int .i64 0)∧Below W.heap.size W w')) (HS:Hid (∀ W:World,Below w.heap.size w W→Calls Tryz.prog 24 #[.agg #[.bool true,.slice a1 n1 c1,.slice a2 n2 c2,.bool true,.slice a3 n3 c3,.slice a4 n4 c4]] W fun e w'=>e = .returned (.bool false)∧Below W.heap.size W w')) (HF:Hid (∀ W:World,Below w.heap.size w W→Calls Tryz.prog 26 #[.agg #[.bool true,.slice a1 n1 c1,.slice a2 n2 c2,.bool true,.slice a3 n3 c3,.slice a4 n4 c4]] W fun e w'=>e = .returned (.bool true)∧Below W.heap.size W w')) :
  Calls Tryz.prog 14 #[.agg #[.bool true,.slice a1 n1 c1,.slice a2 n2 c2],.agg #[.bool true,.slice a3 n3 c3,.slice a4 n4 c4]] w fun e w'=>e = .returned (.tuple #[.int .i64 (-1),.int .i64 0])∧Below w.heap.size w w':=by
 go_enter Tryz.func14,Tryz.ntmps14
 go_wp2_with fail
 refine (unhide HC _ (Fs.three w _ _ _ _ _ _).fr).mono ?_
 rintro e w1 ⟨rfl,hb1⟩
 have hS:=(Fs.three w _ _ _ _ _ _).kept hb1
 obtain ⟨⟨ya,yb,yc,-⟩,⟨yd,ye,yf,-⟩,⟨yg,yh,yi,yj,yk,yl,-⟩,-⟩:=hS.cells
 go_wp2_with fail
 refine (unhide HS _ hS.fr).mono ?_
 rintro e w2 ⟨rfl,hb2⟩
 replace hS:=hS.kept hb2
 clear ya yb yc yd ye yf yg yh yi yj yk yl
 obtain ⟨⟨ym,yn,yo,-⟩,⟨yp,yq,yr,-⟩,⟨ys,yt,yu,yv,yw,yx,-⟩,-⟩:=hS.cells
 go_wp2_with fail
 refine wp_region_any (by kernel_rfl) ?_
 refine wpAny_det [some (26,.agg #[.bool true,.slice a1 n1 c1,.slice a2 n2 c2,.bool true,.slice a3 n3 c3,.slice a4 n4 c4]),some (27,.bool true),some (28,.pointer (some ⟨w.heap.size,0,none⟩)),some (29,.bool true),some (30,.bool false),some (31,.int .i64 (-1)),some (4,.int .i64 (-1)),some (5,.int .i64 0)]
  (fun _ W9=>Fs w W9 [⟨w.heap.size,#[.bool true,.slice a1 n1 c1,.slice a2 n2 c2],27⟩,⟨w.heap.size+1,#[.bool true,.slice a3 n3 c3,.slice a4 n4 c4],27⟩,⟨w.heap.size+2,#[.bool true,.slice a1 n1 c1,.slice a2 n2 c2,.bool true,.slice a3 n3 c3,.slice a4 n4 c4],59⟩]) _ _ rfl (by kernel_rfl) rfl rfl ?_ ?_ (hS).drew
 ·intro l9 t9 W9 i9 hD hi9 hl9 hM
  obtain ⟨o9,ho9,hd9⟩:=(mem_ready.1 hi9).2
  have hin9:i9 < 8:=by
   by_cases h:i9 < 8
   ·exact h
   ·rw [Array.getElem?_eq_none (by rw [hD.len]; simp; omega)] at hl9; cases hl9
  have hcase:i9 = 0∨i9 = 1∨i9 = 2∨i9 = 3∨i9 = 4∨i9 = 5∨i9 = 6∨i9 = 7:=by omega
  clear hin9
  rcases hcase with rfl|rfl|rfl|rfl|rfl|rfl|rfl|rfl
  ·cases ho9
   have r6:=hD.old 6 _ rfl rfl
   have hM0:=hM
   have Q_:=hM0.cellAt (b:=w.heap.size+2) (cs:=#[.bool true,.slice a1 n1 c1,.slice a2 n2 c2,.bool true,.slice a3 n3 c3,.slice a4 n4 c4]) (t:=59) (by simp)
   have c9_0:=Q_ 0 _ rfl
   have c9_1:=Q_ 1 _ rfl
   have c9_2:=Q_ 2 _ rfl
   have c9_3:=Q_ 3 _ rfl
   have c9_4:=Q_ 4 _ rfl
   have c9_5:=Q_ 5 _ rfl
   clear Q_
   clear hM0
   refine wpOp_step rfl fun K hK=>?_
   go_simp
   exact hK _ _ ⟨rfl,hM⟩
  ·cases ho9
   have r26:=hD.od hd9 0 26 _ rfl (by simp)
   refine wpOp_step rfl fun K hK=>?_
   go_simp
   go_wp2_with fail
   refine (unhide HF _ hM.fr).mono ?_
   rintro en w9 ⟨rfl,hb9⟩
   exact hK _ _ ⟨rfl,hM.kept hb9⟩
  ·cases ho9
   have r2:=hD.old 2 _ rfl rfl
   refine wpOp_step rfl fun K hK=>?_
   go_simp
   exact hK _ _ ⟨rfl,hM⟩
  ·cases ho9
   have r28:=hD.od hd9 2 28 _ rfl (by simp)
   have hM0:=hM
   have c9_0:=hM0.cellAt (b:=w.heap.size) (cs:=#[.bool true,.slice a1 n1 c1,.slice a2 n2 c2]) (t:=27) (by simp) 0 _ rfl
   clear hM0
   refine wpOp_step rfl fun K hK=>?_
   go_simp
   exact hK _ _ ⟨rfl,hM⟩
  ·cases ho9
   have r27:=hD.od hd9 1 27 _ rfl (by simp)
   have r29:=hD.od hd9 3 29 _ rfl (by simp)
   refine wpOp_step rfl fun K hK=>?_
   go_simp
   exact hK _ _ ⟨act_eq (by rfl),hM⟩
  ·cases ho9
   have r30:=hD.od hd9 4 30 _ rfl (by simp)
   refine wpOp_step rfl fun K hK=>?_
   go_simp
   go_wp2_with fail
   refine (rsign_f _).mono ?_
   rintro en w9 ⟨rfl,hb9⟩
   exact hK _ _ ⟨rfl,hM.kept hb9⟩
  ·cases ho9
   have r31:=hD.od hd9 5 31 _ rfl (by simp)
   refine wpOp_step rfl fun K hK=>?_
   go_simp
   exact hK _ _ ⟨rfl,hM⟩
  ·cases ho9
   refine wpOp_step rfl fun K hK=>?_
   go_simp
   exact hK _ _ ⟨rfl,hM⟩
 ·intro l9 W9 hl9 hM
  clear hS ym yn yo yp yq yr ys yt yu yv yw yx
  have hS:=hM
  clear hM
  simp only [Puts.lay,List.setIfInBounds_toArray,List.set_cons_zero,List.set_cons_succ]
  obtain ⟨⟨yy,yz,y0,-⟩,⟨y1,y2,y3,-⟩,⟨y4,y5,y6,y7,y8,y9,-⟩,-⟩:=hS.cells
  go_wp2
  go_ret2
  exact ⟨rfl,hS.fr⟩
theorem rcmp_ttf (a1 a2 a3 a4:Option Addr) (n1 n2 n3 n4 c1 c2 c3 c4:Nat) (w:World) (HC:Hid (∀ W:World,Below w.heap.size w W→Calls Tryz.prog 23 #[.agg #[.bool true,.slice a1 n1 c1,.slice a2 n2 c2,.bool true,.slice a3 n3 c3,.slice a4 n4 c4]] W fun e w'=>e = .returned (.int .i64 0)∧Below W.heap.size W w')) (HS:Hid (∀ W:World,Below w.heap.size w W→Calls Tryz.prog 24 #[.agg #[.bool true,.slice a1 n1 c1,.slice a2 n2 c2,.bool true,.slice a3 n3 c3,.slice a4 n4 c4]] W fun e w'=>e = .returned (.bool false)∧Below W.heap.size W w')) (HF:Hid (∀ W:World,Below w.heap.size w W→Calls Tryz.prog 26 #[.agg #[.bool true,.slice a1 n1 c1,.slice a2 n2 c2,.bool true,.slice a3 n3 c3,.slice a4 n4 c4]] W fun e w'=>e = .returned (.bool false)∧Below W.heap.size W w')) :
  Calls Tryz.prog 14 #[.agg #[.bool true,.slice a1 n1 c1,.slice a2 n2 c2],.agg #[.bool true,.slice a3 n3 c3,.slice a4 n4 c4]] w fun e w'=>e = .returned (.tuple #[.int .i64 1,.int .i64 0])∧Below w.heap.size w w':=by
 go_enter Tryz.func14,Tryz.ntmps14
 go_wp2_with fail
 refine (unhide HC _ (Fs.three w _ _ _ _ _ _).fr).mono ?_
 rintro e w1 ⟨rfl,hb1⟩
 have hS:=(Fs.three w _ _ _ _ _ _).kept hb1
 obtain ⟨⟨ya,yb,yc,-⟩,⟨yd,ye,yf,-⟩,⟨yg,yh,yi,yj,yk,yl,-⟩,-⟩:=hS.cells
 go_wp2_with fail
 refine (unhide HS _ hS.fr).mono ?_
 rintro e w2 ⟨rfl,hb2⟩
 replace hS:=hS.kept hb2
 clear ya yb yc yd ye yf yg yh yi yj yk yl
 obtain ⟨⟨ym,yn,yo,-⟩,⟨yp,yq,yr,-⟩,⟨ys,yt,yu,yv,yw,yx,-⟩,-⟩:=hS.cells
 go_wp2_with fail
 refine wp_region_any (by kernel_rfl) ?_
 refine wpAny_det [some (26,.agg #[.bool true,.slice a1 n1 c1,.slice a2 n2 c2,.bool true,.slice a3 n3 c3,.slice a4 n4 c4]),some (27,.bool false),some (28,.pointer (some ⟨w.heap.size,0,none⟩)),some (29,.bool true),some (30,.bool true),some (31,.int .i64 1),some (4,.int .i64 1),some (5,.int .i64 0)]
  (fun _ W9=>Fs w W9 [⟨w.heap.size,#[.bool true,.slice a1 n1 c1,.slice a2 n2 c2],27⟩,⟨w.heap.size+1,#[.bool true,.slice a3 n3 c3,.slice a4 n4 c4],27⟩,⟨w.heap.size+2,#[.bool true,.slice a1 n1 c1,.slice a2 n2 c2,.bool true,.slice a3 n3 c3,.slice a4 n4 c4],59⟩]) _ _ rfl (by kernel_rfl) rfl rfl ?_ ?_ (hS).drew
 ·intro l9 t9 W9 i9 hD hi9 hl9 hM
  obtain ⟨o9,ho9,hd9⟩:=(mem_ready.1 hi9).2
  have hin9:i9 < 8:=by
   by_cases h:i9 < 8
   ·exact h
   ·rw [Array.getElem?_eq_none (by rw [hD.len]; simp; omega)] at hl9; cases hl9
  have hcase:i9 = 0∨i9 = 1∨i9 = 2∨i9 = 3∨i9 = 4∨i9 = 5∨i9 = 6∨i9 = 7:=by omega
  clear hin9
  rcases hcase with rfl|rfl|rfl|rfl|rfl|rfl|rfl|rfl
  ·cases ho9
   have r6:=hD.old 6 _ rfl rfl
   have hM0:=hM
   have Q_:=hM0.cellAt (b:=w.heap.size+2) (cs:=#[.bool true,.slice a1 n1 c1,.slice a2 n2 c2,.bool true,.slice a3 n3 c3,.slice a4 n4 c4]) (t:=59) (by simp)
   have c9_0:=Q_ 0 _ rfl
   have c9_1:=Q_ 1 _ rfl
   have c9_2:=Q_ 2 _ rfl
   have c9_3:=Q_ 3 _ rfl
   have c9_4:=Q_ 4 _ rfl
   have c9_5:=Q_ 5 _ rfl
   clear Q_
   clear hM0
   refine wpOp_step rfl fun K hK=>?_
   go_simp
   exact hK _ _ ⟨rfl,hM⟩
  ·cases ho9
   have r26:=hD.od hd9 0 26 _ rfl (by simp)
   refine wpOp_step rfl fun K hK=>?_
   go_simp
   go_wp2_with fail
   refine (unhide HF _ hM.fr).mono ?_
   rintro en w9 ⟨rfl,hb9⟩
   exact hK _ _ ⟨rfl,hM.kept hb9⟩
  ·cases ho9
   have r2:=hD.old 2 _ rfl rfl
   refine wpOp_step rfl fun K hK=>?_
   go_simp
   exact hK _ _ ⟨rfl,hM⟩
  ·cases ho9
   have r28:=hD.od hd9 2 28 _ rfl (by simp)
   have hM0:=hM
   have c9_0:=hM0.cellAt (b:=w.heap.size) (cs:=#[.bool true,.slice a1 n1 c1,.slice a2 n2 c2]) (t:=27) (by simp) 0 _ rfl
   clear hM0
   refine wpOp_step rfl fun K hK=>?_
   go_simp
   exact hK _ _ ⟨rfl,hM⟩
  ·cases ho9
   have r27:=hD.od hd9 1 27 _ rfl (by simp)
   have r29:=hD.od hd9 3 29 _ rfl (by simp)
   refine wpOp_step rfl fun K hK=>?_
   go_simp
   exact hK _ _ ⟨act_eq (by rfl),hM⟩
  ·cases ho9
   have r30:=hD.od hd9 4 30 _ rfl (by simp)
   refine wpOp_step rfl fun K hK=>?_
   go_simp
   go_wp2_with fail
   refine (rsign_t _).mono ?_
   rintro en w9 ⟨rfl,hb9⟩
   exact hK _ _ ⟨rfl,hM.kept hb9⟩
  ·cases ho9
   have r31:=hD.od hd9 5 31 _ rfl (by simp)
   refine wpOp_step rfl fun K hK=>?_
   go_simp
   exact hK _ _ ⟨rfl,hM⟩
  ·cases ho9
   refine wpOp_step rfl fun K hK=>?_
   go_simp
   exact hK _ _ ⟨rfl,hM⟩
 ·intro l9 W9 hl9 hM
  clear hS ym yn yo yp yq yr ys yt yu yv yw yx
  have hS:=hM
  clear hM
  simp only [Puts.lay,List.setIfInBounds_toArray,List.set_cons_zero,List.set_cons_succ]
  obtain ⟨⟨yy,yz,y0,-⟩,⟨y1,y2,y3,-⟩,⟨y4,y5,y6,y7,y8,y9,-⟩,-⟩:=hS.cells
  go_wp2
  go_ret2
  exact ⟨rfl,hS.fr⟩
def ordR (x y:Rat):Int:=if x = y then 0 else if x < y then -1 else 1
theorem ordR_eq {x y:Rat} (h:x = y):ordR x y = 0:=by unfold ordR; rw [if_pos h]
theorem ordR_lt {x y:Rat} (h:x.num * y.den < y.num * x.den):ordR x y = -1:=by
 unfold ordR
 have hl:x < y:=(Rat.lt_iff x y).2 h
 rw [if_neg (fun e=>by subst e; omega),if_pos hl]
theorem ordR_gt {x y:Rat} (h:y.num * x.den < x.num * y.den):ordR x y = 1:=by
 unfold ordR
 have hl:¬ x < y:=fun h1=>by have:=(Rat.lt_iff x y).1 h1; omega
 rw [if_neg (fun e=>by subst e; omega),if_neg hl]
theorem rat_ne {x y:Rat} (h:x≠y):x.num * y.den≠y.num * x.den:=fun e=>
 h (by
  have h1:¬ x < y:=fun hl=>by have:=(Rat.lt_iff x y).1 hl; omega
  have h2:¬ y < x:=fun hl=>by have:=(Rat.lt_iff y x).1 hl; omega
  exact Rat.le_antisymm (Rat.not_lt.1 h2) (Rat.not_lt.1 h1))
theorem both_same (s t:Bool) (a1 a2 a3 a4:Option Addr) (n1 n2 n3 n4 c1 c2 c3 c4:Nat) (x y:Rat) (w:World) (hx:Fq w s a1 n1 a2 n2 x) (hy:Fq w t a3 n3 a4 n4 y) :
  Calls Tryz.prog 24 #[.agg #[.bool s,.slice a1 n1 c1,.slice a2 n2 c2,.bool t,.slice a3 n3 c3,.slice a4 n4 c4]] w fun e w'=>e = .returned (.bool (decide (x = y)))∧Below w.heap.size w w':=by
 rw [same_dec hx hy]
 cases he:(s == t && decide (n1 = n3) && decide (n2 = n4))
 ·have hd:((s == t) && decide (x.num.natAbs = y.num.natAbs) && decide (x.den = y.den)) = false:=by
   cases hst:(s == t)
   ·rfl
   ·rw [hst] at he
    by_cases e1:x.num.natAbs = y.num.natAbs
    ·have:=hx.num.same (e1▸hy.num)
     by_cases e2:x.den = y.den
     ·have h2:=hx.den.same (e2▸hy.den)
      rw [decide_eq_true this,decide_eq_true h2] at he
      exact absurd he (by decide)
     ·rw [decide_eq_false e2,Bool.and_false]
    ·rw [decide_eq_false e1]; rfl
  rw [hd]
  exact same_shape s t a1 a2 a3 a4 n1 n2 n3 n4 c1 c2 c3 c4 he w
 ·have he':=he
  simp only [Bool.and_eq_true,decide_eq_true_eq] at he
  obtain ⟨⟨hst,e1⟩,e2⟩:=he
  rw [hst,Bool.true_and]
  subst e1 e2
  have H1:∀ W:World,Below w.heap.size w W→Calls Tryz.prog 51 #[.slice a1 n1 c1,.slice a3 n1 c3] W fun e w'=>e = .returned (.bool (decide (x.num.natAbs = y.num.natAbs)))∧Below W.heap.size W w':=
   fun W hb=>eqS_any a1 a3 n1 c1 c3 _ _ W (hx.num.kept hb) (hy.num.kept hb)
  have H2:∀ W:World,Below w.heap.size w W→Calls Tryz.prog 51 #[.slice a2 n2 c2,.slice a4 n2 c4] W fun e w'=>e = .returned (.bool (decide (x.den = y.den)))∧Below W.heap.size W w':=
   fun W hb=>eqS_any a2 a4 n2 c2 c4 _ _ W (hx.den.kept hb) (hy.den.kept hb)
  cases hd1:decide (x.num.natAbs = y.num.natAbs)
  ·rw [hd1] at H1
   exact same_f s t a1 a2 a3 a4 n1 n2 n1 n2 c1 c2 c3 c4 he' w H1
  ·rw [hd1] at H1
   rw [Bool.true_and]
   cases hd2:decide (x.den = y.den)
   ·rw [hd2] at H2
    exact same_tf s t a1 a2 a3 a4 n1 n2 n1 n2 c1 c2 c3 c4 he' w H1 H2
   ·rw [hd2] at H2
    exact same_tt s t a1 a2 a3 a4 n1 n2 n1 n2 c1 c2 c3 c4 he' w H1 H2
theorem cmpI_pos {m k:Nat}:decide ((0:Int) < cmpI m k) = decide (k < m):=by
 unfold cmpI
 rw [decide_eq_decide]
 by_cases h:m < k
 ·rw [if_pos h]; omega
 ·rw [if_neg h]
  by_cases h2:m = k
  ·rw [if_pos h2]; omega
  ·rw [if_neg h2]; omega
theorem both_farther (s t:Bool) (a1 a2 a3 a4:Option Addr) (n1 n2 n3 n4 c1 c2 c3 c4:Nat) (x y:Rat) (w:World) (hx:Fq w s a1 n1 a2 n2 x) (hy:Fq w t a3 n3 a4 n4 y) (ho:¬ Over (x.num.natAbs * y.den)) (ho2:¬ Over (y.num.natAbs * x.den)) :
  Calls Tryz.prog 26 #[.agg #[.bool s,.slice a1 n1 c1,.slice a2 n2 c2,.bool t,.slice a3 n3 c3,.slice a4 n4 c4]] w fun e w'=>e = .returned (.bool (decide (y.num.natAbs * x.den < x.num.natAbs * y.den)))∧Below w.heap.size w w':=by
 cases hd:decide (y.num.natAbs * x.den < x.num.natAbs * y.den)
 ·exact farther_f s t a1 a2 a3 a4 n1 n2 n3 n4 c1 c2 c3 c4 _ _ _ _ ho ho2 (cmpI_pos.trans hd) w hx.num hx.den hy.num hy.den
 ·exact farther_t s t a1 a2 a3 a4 n1 n2 n3 n4 c1 c2 c3 c4 _ _ _ _ ho ho2 (cmpI_pos.trans hd) w hx.num hx.den hy.num hy.den
theorem abs_of {s:Bool} {x:Rat} (h:s = decide (x.num < 0)):x.num = Rm.sgn s x.num.natAbs:=by
 subst h
 unfold Rm.sgn
 by_cases h:x.num < 0
 ·rw [decide_eq_true h,if_pos rfl]; omega
 ·rw [decide_eq_false h,if_neg (by decide)]; omega
theorem cmp_rat (s t:Bool) (a1 a2 a3 a4:Option Addr) (n1 n2 n3 n4 c1 c2 c3 c4:Nat) (x y:Rat) (w:World) (hx:Fq w s a1 n1 a2 n2 x) (hy:Fq w t a3 n3 a4 n4 y) (ho:¬ Over (x.num.natAbs * y.den)) (ho2:¬ Over (y.num.natAbs * x.den)) :
  Calls Tryz.prog 14 #[.agg #[.bool s,.slice a1 n1 c1,.slice a2 n2 c2],.agg #[.bool t,.slice a3 n3 c3,.slice a4 n4 c4]] w fun e w'=>e = .returned (.tuple #[.int .i64 (ordR x y),.int .i64 0])∧Below w.heap.size w w':=by
 have HC:=hide (fun (W:World) (hb:Below w.heap.size w W)=>bothCheck_rat s t a1 a2 a3 a4 n1 n2 n3 n4 c1 c2 c3 c4 x y W (hx.kept hb) (hy.kept hb))
 have HS:∀ W:World,Below w.heap.size w W→Calls Tryz.prog 24 #[.agg #[.bool s,.slice a1 n1 c1,.slice a2 n2 c2,.bool t,.slice a3 n3 c3,.slice a4 n4 c4]] W fun e w'=>e = .returned (.bool (decide (x = y)))∧Below W.heap.size W w':=
  fun W hb=>both_same s t a1 a2 a3 a4 n1 n2 n3 n4 c1 c2 c3 c4 x y W (hx.kept hb) (hy.kept hb)
 have HF:∀ W:World,Below w.heap.size w W→Calls Tryz.prog 26 #[.agg #[.bool s,.slice a1 n1 c1,.slice a2 n2 c2,.bool t,.slice a3 n3 c3,.slice a4 n4 c4]] W fun e w'=>e = .returned (.bool (decide (y.num.natAbs * x.den < x.num.natAbs * y.den)))∧Below W.heap.size W w':=
  fun W hb=>both_farther s t a1 a2 a3 a4 n1 n2 n3 n4 c1 c2 c3 c4 x y W (hx.kept hb) (hy.kept hb) ho ho2
 by_cases hxy:x = y
 ·rw [decide_eq_true hxy] at HS
  rw [ordR_eq hxy]
  exact rcmp_same s t a1 a2 a3 a4 n1 n2 n3 n4 c1 c2 c3 c4 w HC (hide HS)
 ·rw [decide_eq_false hxy] at HS
  have hne:=rat_ne hxy
  have ex:=abs_of hx.neg
  have ey:=abs_of hy.neg
  have hz:=hx.q.zero
  have hz':=hy.q.zero
  have px:0 < x.den:=Nat.pos_of_ne_zero x.den_nz
  have py:0 < y.den:=Nat.pos_of_ne_zero y.den_nz
  have hxm:x.num * (y.den:Int) = Rm.sgn s (x.num.natAbs * y.den):=by rw [Rm.sgn_scale,← ex]
  have hym:y.num * (x.den:Int) = Rm.sgn t (y.num.natAbs * x.den):=by rw [Rm.sgn_scale,← ey]
  have gx:s = true→0 < x.num.natAbs * y.den:=fun h=>Nat.mul_pos (Nat.pos_of_ne_zero (fun e=>by rw [hz e] at h; exact absurd h (by decide))) py
  have gy:t = true→0 < y.num.natAbs * x.den:=fun h=>Nat.mul_pos (Nat.pos_of_ne_zero (fun e=>by rw [hz' e] at h; exact absurd h (by decide))) px
  generalize hU:x.num.natAbs * y.den = U at hxm gx HF
  generalize hV:y.num.natAbs * x.den = V at hym gy HF
  rw [hxm,hym] at hne
  cases s <;> cases t
  ·by_cases hd:V < U
   ·rw [decide_eq_true hd] at HF
    rw [ordR_gt (by rw [hxm,hym]; simp only [Rm.sgn]; simp; omega)]
    exact rcmp_fft a1 a2 a3 a4 n1 n2 n3 n4 c1 c2 c3 c4 w HC (hide HS) (hide HF)
   ·rw [decide_eq_false hd] at HF
    rw [ordR_lt (by rw [hxm,hym]; simp only [Rm.sgn] at hne ⊢; simp at hne ⊢; omega)]
    exact rcmp_fff a1 a2 a3 a4 n1 n2 n3 n4 c1 c2 c3 c4 w HC (hide HS) (hide HF)
  ·have:=gy rfl
   rw [ordR_gt (by rw [hxm,hym]; simp only [Rm.sgn]; simp; omega)]
   exact rcmp_ft a1 a2 a3 a4 n1 n2 n3 n4 c1 c2 c3 c4 w HC (hide HS)
  ·have:=gx rfl
   rw [ordR_lt (by rw [hxm,hym]; simp only [Rm.sgn]; simp; omega)]
   exact rcmp_tf a1 a2 a3 a4 n1 n2 n3 n4 c1 c2 c3 c4 w HC (hide HS)
  ·by_cases hd:V < U
   ·rw [decide_eq_true hd] at HF
    rw [ordR_lt (by rw [hxm,hym]; simp only [Rm.sgn]; simp; omega)]
    exact rcmp_ttt a1 a2 a3 a4 n1 n2 n3 n4 c1 c2 c3 c4 w HC (hide HS) (hide HF)
   ·rw [decide_eq_false hd] at HF
    rw [ordR_gt (by rw [hxm,hym]; simp only [Rm.sgn] at hne ⊢; simp at hne ⊢; omega)]
    exact rcmp_ttf a1 a2 a3 a4 n1 n2 n3 n4 c1 c2 c3 c4 w HC (hide HS) (hide HF)
def rq (s:Bool) (p d:Nat) (hd:0 < d) (hg:Nat.gcd p d = 1):Rat:=⟨Rm.sgn s p,d,by omega,by rw [Nat.Coprime,Rm.sgn_abs]; exact hg⟩
theorem fq_rq {w:World} {s:Bool} {a b:Option Addr} {n k p d:Nat} {hd:0 < d} {hg:Nat.gcd p d = 1} (hs:s = true→0 < p) (h1:Num w a n p) (h2:Num w b k d):Fq w s a n b k (rq s p d hd hg):=by
 refine ⟨(Rm.sgn_neg fun e=>?_).symm,?_,h2⟩
 ·cases s
  ·rfl
  ·have:=hs rfl; omega
 ·show Num w a n (Rm.sgn s p).natAbs
  rw [Rm.sgn_abs]; exact h1
theorem roundOrder_any (E F:Int) (s:Bool) (a:Option Addr) (n c:Nat) (xs:List Nat) (b:Option Addr) (k l:Nat) (ys:List Nat) (t:Bool) (a':Option Addr) (n' c':Nat) (xs':List Nat) (b':Option Addr) (k' l':Nat) (ys':List Nat) (md:Nat) (w:World) (hT:Tb w) (hN:Nb5 w)
  (hn:xs.length = n) (hnb:n≤9223372036854775807) (hl:Lim w a xs) (hw:Pl.Wf xs) (hk:ys.length = k) (hkb:k≤9223372036854775807) (hly:Lim w b ys) (hwy:Pl.Wf ys)
  (hn':xs'.length = n') (hnb':n'≤9223372036854775807) (hl':Lim w a' xs') (hw':Pl.Wf xs') (hk':ys'.length = k') (hkb':k'≤9223372036854775807) (hly':Lim w b' ys') (hwy':Pl.Wf ys') :
  Calls Tryz.prog 5 #[.agg #[.int .i64 E,.int .i64 F],.agg #[.bool s,.slice a n c,.slice b k l],.agg #[.bool t,.slice a' n' c',.slice b' k' l'],.int .u8 (md:Int)] w fun e w'=>e = .returned (.bool true)∧Below w.heap.size w w':=by
 rcases asked_any E F s a b n c k l xs ys w hn hnb hl hw hk hkb hly hwy with h1|⟨⟨e,f,rfl,rfl,hfo⟩,p,d,gN,gD,hd,hg,hs,bp,bd,hC,ok1⟩
 ·rcases asked_any E F t a' b' n' c' k' l' xs' ys' w hn' hnb' hl' hw' hk' hkb' hly' hwy' with h2|⟨_,_,_,_,_,_,_,_,_,_,_,h2⟩
  ·exact ord_one w E F md s t a b a' b' n c k l n' c' k' l' _ hT hN (hide h1) (hide h2)
  ·exact ord_one w E F md s t a b a' b' n c k l n' c' k' l' _ hT hN (hide h1) (hide h2)
 rcases asked_any e f t a' b' n' c' k' l' xs' ys' w hn' hnb' hl' hw' hk' hkb' hly' hwy' with h2|⟨_,p',d',gN',gD',hd',hg',hs',bp',bd',hC',ok2⟩
 ·exact ord_two w e f md s t a b a' b' n c k l n' c' k' l' hT hN (hide ok1) (hide h2)
 by_cases hm:4 < md
 ·exact ord_mode w e f md s t a b a' b' n c k l n' c' k' l' hT hN hm (hide ok1) (hide ok2)
 have hm4:md≤4:=by omega
 have hf:Fm e f (2 ^ (f+e)) ((2 ^ e - 1) * 2 ^ f):=⟨hfo,rfl,rfl⟩
 generalize 2 ^ (f+e) = S at hf
 generalize (2 ^ e - 1) * 2 ^ f = I at hf
 obtain ⟨r,f1,k1,l1,c1⟩:=srat_any hf rfl hm4 s a b n c k l p d hd hs bp bd hC
 obtain ⟨r',f2,k2,l2,c2⟩:=srat_any hf rfl hm4 t a' b' n' c' k' l' p' d' hd' hs' bp' bd' hC'
 obtain ⟨K,hK⟩:∃ K,K = 1920:=⟨_,rfl⟩
 rw [← hK] at bp bd bp' bd'
 have ov:∀ {u v:Nat},blen u≤K→blen v≤K→¬ Over (u * v):=fun {u v} q1 q2=>no_over (K:=K+K) (by rw [Nat.pow_add]; exact Nat.mul_lt_mul_of_lt_of_le (blen_lt q1) (Nat.le_of_lt (blen_lt q2)) (Nat.pow_pos (by omega))) (by omega)
 have hx:Fq w s a n b k (rq s p d hd hg):=fq_rq hs gN gD
 have hy:Fq w t a' n' b' k' (rq t p' d' hd' hg'):=fq_rq hs' gN' gD'
 have cm:∀ W:World,Below w.heap.size w W→Calls Tryz.prog 14 #[.agg #[.bool s,.slice a n c,.slice b k l],.agg #[.bool t,.slice a' n' c',.slice b' k' l']] W fun e W'=>e = .returned (.tuple #[.int .i64 (ordR (rq s p d hd hg) (rq t p' d' hd' hg')),.int .i64 0])∧Below W.heap.size W W':=fun W hW=>cmp_rat s t a b a' b' n k n' k' c l c' l' _ _ W (hx.kept hW) (hy.kept hW) (by show ¬ Over ((Rm.sgn s p).natAbs * d'); rw [Rm.sgn_abs]; exact ov bp bd') (by show ¬ Over ((Rm.sgn t p').natAbs * d); rw [Rm.sgn_abs]; exact ov bp' bd)
 have H4:=hide fun (W:World) (hW:Below w.heap.size w W)=>c1 W (hT.kept hW) (gN.kept hW) (gD.kept hW)
 have H5:=hide fun (W:World) (hW:Below w.heap.size w W)=>c2 W (hT.kept hW) (gN'.kept hW) (gD'.kept hW)
 have H6:=hide fun (W:World) (_:Below w.heap.size w W)=>key_any hf s r l1 W
 have H7:=hide fun (W:World) (_:Below w.heap.size w W)=>key_any hf t r' l2 W
 have o1:Rm.sgn s p * (d':Int)≤Rm.sgn t p' * (d:Int)→kI s r≤kI t r':=kf_ord k1 k2 hd hd' hs' hfo.f52
 have o2:Rm.sgn t p' * (d:Int)≤Rm.sgn s p * (d':Int)→kI t r'≤kI s r:=kf_ord k2 k1 hd' hd hs hfo.f52
 by_cases hxy:rq s p d hd hg = rq t p' d' hd' hg'
 ·rw [ordR_eq hxy] at cm
  have e1:Rm.sgn s p = Rm.sgn t p':=congrArg Rat.num hxy
  have e2:d = d':=congrArg Rat.den hxy
  have e3:Rm.sgn s p * (d':Int) = Rm.sgn t p' * (d:Int):=by rw [e1,e2]
  exact ord_eq w e f md s t a b a' b' n c k l n' c' k' l' _ _ f1 f2 _ _ hT hN hm4 (Int.le_antisymm (o1 (Int.le_of_eq e3)) (o2 (Int.le_of_eq e3.symm))) (hide ok1) (hide ok2) (hide cm) H4 H5 H6 H7
 ·rcases Int.lt_or_gt_of_ne (rat_ne hxy) with h|h
  ·rw [ordR_lt h] at cm
   exact ord_lt w e f md s t a b a' b' n c k l n' c' k' l' _ _ f1 f2 _ _ hT hN hm4 (o1 (Int.le_of_lt h)) (hide ok1) (hide ok2) (hide cm) H4 H5 H6 H7
  ·rw [ordR_gt h] at cm
   exact ord_gt w e f md s t a b a' b' n c k l n' c' k' l' _ _ f1 f2 _ _ hT hN hm4 (o2 (Int.le_of_lt h)) (hide ok1) (hide ok2) (hide cm) H4 H5 H6 H7
end Go.Proofs.YtcclpafdkgnmiaaGreatDoor
