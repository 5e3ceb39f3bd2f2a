/- Of what ExactBackRow stands on: ExAddS ExAdd ExAlive ExBackW ExOver. -/
import Derived.Test.YtecmcjlgknfnlaaDoorPay
import Derived.Test.YtecmcjlgknfnlaaDoorPaz
import Derived.Test.YtecmcjlgknfnlaaDoorPas
import Derived.Test.YtecmcjlgknfnlaaDoorPak
import Derived.Test.YtecmcjlgknfnlaaDoorPba
namespace Go.Proofs.YtecmcjlgknfnlaaDoor
open Go.RowKit
theorem dsub_ge (a a' : Option Addr) (n n' cap cap' m m' : Nat) (w : World) (h : Num w a n m) (h' : Num w a' n' m') (hle : m' ≤ m) :
  Calls Tryd.prog 120 #[.agg #[.slice a n cap],.agg #[.slice a' n' cap']] w fun e w' => (∃ a n c,e = .returned (.tuple #[.agg #[.slice a n c],.bool true,.int .i64 0]) ∧ Mine w' w.heap.size a n c (m - m')) ∧ Below w.heap.size w w' := by
 refine (sub_any a a' n n' cap cap' m m' w h h').mono ?_
 rintro e w' ⟨⟨h1,_⟩ | ⟨_,h1⟩,hb⟩
 ·omega
 ·exact ⟨h1,hb⟩
theorem st_mine2 {base : Nat} (a : Option Addr) (n c m : Nat) : St base (fun W => Mine W base a n c m) := st_mine base a n c m
set_option maxHeartbeats 1000000 in
theorem addS_ge_f (a : Option Addr) (n cap m : Nat) (a' : Option Addr) (n' cap' m' : Nat) (w : World) (h : Num w a n m) (h' : Num w a' n' m') (hle : m' ≤ m) :
  Calls Tryd.prog 74 #[.bool false,.agg #[.slice a n cap],.bool true,.agg #[.slice a' n' cap']] w fun e w' => (∃ A N C,e = .returned (.tuple #[.bool false,.agg #[.slice A N C],.int .i64 0]) ∧ Mine w' w.heap.size A N C (m - m')) ∧ Below w.heap.size w w' := by
 have H := hide h
 have H' := hide h'
 clear h h'
 go_enter Tryd.func74,Tryd.ntmps74
 go_wp2_with fail
 refine (dsub_ge a a' n n' cap cap' m m' _ ((((unhide H).alloc _).alloc _).alloc _) ((((unhide H').alloc _).alloc _).alloc _) hle).mono ?_
 rintro e w1 ⟨⟨A1,N1,C1,rfl,f1⟩,hb1⟩
 have hS := (Fs.three w _ _ _ _ _ _).kept hb1
 obtain ⟨⟨z1_0_0,-⟩,⟨z1_1_0,-⟩,⟨z1_2_0,-⟩,-⟩ := hS.cells
 have F1 := hide (f1.mono (base' := w.heap.size + 3) (by simp))
 clear f1
 have hltw1_0 : w.heap.size < w1.heap.size := block_lt (hS.bx ⟨w.heap.size,#[.slice a n cap],24⟩ (by simp))
 have hltw1_1 : w.heap.size + 1 < w1.heap.size := block_lt (hS.bx ⟨w.heap.size + 1,#[.slice a' n' cap'],24⟩ (by simp))
 have hltw1_2 : w.heap.size + 2 < w1.heap.size := block_lt (hS.bx ⟨w.heap.size + 2,#[.slice none 0 0],24⟩ (by simp))
 have hltR : w.heap.size + 3 ≤ w1.heap.size := hltw1_2
 replace hS := hS.alloc #[.slice A1 N1 C1] 24
 replace F1 := hide ((unhide F1).alloc (.cells #[.slice A1 N1 C1] 24))
 go_wp2_with fail
 have hS3s : w.heap.size ≤ (w1.alloc (.cells #[.slice A1 N1 C1] 24)).heap.size := hS.size
 have hs9 : ∀ x9 : Nat × (Pk → World → Prop),x9 ∈ ([(6,fun _ W => Mine W (w.heap.size + 3) A1 N1 C1 (m - m'))] : List (Nat × (Pk → World → Prop))) → ∀ q9 : Pk,St (w.heap.size + 3) (x9.2 q9) := by
  intro x hx q
  simp only [List.mem_cons,List.not_mem_nil,or_false] at hx
  rcases hx with rfl
  ·exact st_mine2 _ _ _ _
 have h09 : ∀ x9 : Nat × (Pk → World → Prop),x9 ∈ ([(6,fun _ W => Mine W (w.heap.size + 3) A1 N1 C1 (m - m'))] : List (Nat × (Pk → World → Prop))) → 6 ≤ x9.1 → x9.2 ⟨none,0,0⟩ (w1.alloc (.cells #[.slice A1 N1 C1] 24)) := by
  intro x hx hn9
  simp only [List.mem_cons,List.not_mem_nil,or_false] at hx
  rcases hx with rfl
  ·exact unhide F1
 refine wp_region_any (by kernel_rfl) ?_
 refine wpAny_pick (fun p9 => [some (43,.bool false),some (44,.agg #[.slice A1 N1 C1]),some (45,.int .i64 0),some (8,.bool false),none,some (10,.int .i64 0)])
  (fun p9 l9 W9 => Pm w (w.heap.size + 3) [(6,fun _ W => Mine W (w.heap.size + 3) A1 N1 C1 (m - m'))] p9 l9 W9 (pickBs l9 [(4,[⟨w1.heap.size,#[.slice A1 N1 C1],24⟩,⟨w.heap.size,#[.slice a n cap],24⟩,⟨w.heap.size + 1,#[.slice a' n' cap'],24⟩,⟨w.heap.size + 2,#[.slice A1 N1 C1],24⟩])] [⟨w1.heap.size,#[.slice A1 N1 C1],24⟩,⟨w.heap.size,#[.slice a n cap],24⟩,⟨w.heap.size + 1,#[.slice a' n' cap'],24⟩,⟨w.heap.size + 2,#[.slice none 0 0],24⟩])) _ _ (fun _ => rfl) (by kernel_rfl) (fun _ => rfl) (fun _ => rfl) ?_ ?_ (fun _ => ⟨none,0,0⟩) (Pm.start2 hS _ _ _ (by simp; omega) hs9 h09)
 ·intro p9 l9 t9 W9 i9 hD hi9 hl9 hM
  obtain ⟨o9,ho9,hd9⟩ := (mem_ready.1 hi9).2
  have hin9 : i9 < 6 := by
   by_cases h : i9 < 6
   ·exact h
   ·rw [Array.getElem?_eq_none (by rw [hD.len]; simp; omega)] at hl9; cases hl9
  have hcase : i9 = 0 ∨ i9 = 1 ∨ i9 = 2 ∨ i9 = 3 ∨ i9 = 4 ∨ i9 = 5 := by omega
  clear hin9
  rcases hcase with rfl | rfl | rfl | rfl | rfl | rfl
  ·cases ho9
   have r0 := hD.old 0 _ rfl rfl
   clear hD hd9 hi9
   refine wpOp_step rfl (fun K hK => ?_)
   go_simp
   exact hK _ _ ⟨p9,fun _ _ => rfl,rfl,(Pm.keepM rfl (hM.val rfl))⟩
  ·cases ho9
   have r13 := hD.old 13 _ rfl rfl
   have hM0 : Fs w W9 [⟨w1.heap.size,#[.slice A1 N1 C1],24⟩,⟨w.heap.size,#[.slice a n cap],24⟩,⟨w.heap.size + 1,#[.slice a' n' cap'],24⟩,⟨w.heap.size + 2,#[.slice none 0 0],24⟩] := by
    have hM1 := hM.st
    simp only [pickBs] at hM1
    rw [if_neg (hD.waits 1 4 _ ⟨1,.data⟩ hl9 rfl (by simp) rfl rfl)] at hM1
    exact hM1
   have c9_0 := hM0.cellAt (b := w1.heap.size) (cs := #[.slice A1 N1 C1]) (t := 24) (by simp) 0 _ rfl
   clear hM0
   clear hD hd9 hi9
   refine wpOp_step rfl (fun K hK => ?_)
   go_simp
   exact hK _ _ ⟨p9,fun _ _ => rfl,rfl,(Pm.keepM rfl (hM.val rfl))⟩
  ·cases ho9
   have r15 := hD.old 15 _ rfl rfl
   clear hD hd9 hi9
   refine wpOp_step rfl (fun K hK => ?_)
   go_simp
   exact hK _ _ ⟨p9,fun _ _ => rfl,rfl,(Pm.keepM rfl (hM.val rfl))⟩
  ·cases ho9
   have r43 := hD.on 0 43 _ rfl (getD_true (hd9 ⟨0,.data⟩ (by simp) rfl))
   clear hD hd9 hi9
   refine wpOp_step rfl (fun K hK => ?_)
   go_simp
   exact hK _ _ ⟨p9,fun _ _ => rfl,rfl,(Pm.keepM rfl (hM.val rfl))⟩
  ·cases ho9
   have r9 := hD.old 9 _ rfl rfl
   have r44 := hD.on 1 44 _ rfl (getD_true (hd9 ⟨1,.data⟩ (by simp) rfl))
   have hM0 : Fs w W9 [⟨w1.heap.size,#[.slice A1 N1 C1],24⟩,⟨w.heap.size,#[.slice a n cap],24⟩,⟨w.heap.size + 1,#[.slice a' n' cap'],24⟩,⟨w.heap.size + 2,#[.slice none 0 0],24⟩] := by
    have hM1 := hM.st
    simp only [pickBs] at hM1
    rw [if_neg (by rw [hl9]; simp)] at hM1
    exact hM1
   have c9_0 := hM0.cellAt (b := w.heap.size + 2) (cs := #[.slice none 0 0]) (t := 24) (by simp) 0 _ rfl
   have z9_0 := hM0.frozen (b := w.heap.size + 2) (cs := #[.slice none 0 0]) (t := 24) (by simp) 0
   clear hD hd9 hi9
   refine wpOp_step rfl (fun K hK => ?_)
   go_simp
   exact hK _ _ ⟨p9,fun _ _ => rfl,rfl,Pm.putM hl9 ((hM.val rfl).put hs9 _ _ (by simp <;> omega) (hM0.put (b := w.heap.size + 2) (cs := #[.slice none 0 0]) (t := 24) (by simp) (by simp) 0 (.slice A1 N1 C1) [⟨w1.heap.size,#[.slice A1 N1 C1],24⟩,⟨w.heap.size,#[.slice a n cap],24⟩,⟨w.heap.size + 1,#[.slice a' n' cap'],24⟩,⟨w.heap.size + 2,#[.slice A1 N1 C1],24⟩] (by simp <;> omega)))⟩
  ·cases ho9
   have r45 := hD.on 2 45 _ rfl (getD_true (hd9 ⟨2,.data⟩ (by simp) rfl))
   clear hD hd9 hi9
   refine wpOp_step rfl (fun K hK => ?_)
   go_simp
   exact hK _ _ ⟨p9,fun _ _ => rfl,rfl,(Pm.keepM rfl (hM.val rfl))⟩
 ·intro p9 l9 W9 hn9 hl9 hM
  have kr6_0 := hM.fx _ (List.mem_of_getElem? (i := 0) rfl) (Or.inr (by rw [hn9]; simp))
  simp only [] at kr6_0
  replace hM := hM.st
  simp only [pickBs] at hM
  rw [if_pos (hl9 4 (by decide))] at hM
  clear hl9 hs9 h09 hn9
  clear hS z1_0_0 z1_1_0 z1_2_0
  have hS := hM
  clear hM
  simp only [Puts.lay,List.setIfInBounds_toArray,List.set_cons_zero,List.set_cons_succ]
  obtain ⟨⟨z2_0_0,-⟩,⟨z2_1_0,-⟩,⟨z2_2_0,-⟩,⟨z2_3_0,-⟩,-⟩ := hS.cells
  have K := hide kr6_0
  clear kr6_0
  go_wp2
  exact bodyPost_ret (v := .tuple #[.bool false,.agg #[.slice A1 N1 C1],.int .i64 0]) (by simp [results,Tryd.results74,go_sem,z2_3_0]) rfl ⟨⟨_,_,_,rfl,(unhide K).mono (by omega)⟩,hS.fr⟩
end Go.Proofs.YtecmcjlgknfnlaaDoor
namespace Go.Proofs.YtecmcjlgknfnlaaDoor
open Go.RowKit
set_option maxHeartbeats 2000000 in
theorem Add_num (s : Bool) (a : Option Addr) (n cap m : Nat) (x : Int) (s' : Bool) (a' : Option Addr) (n' cap' m' : Nat) (x' : Int) (t : Int) (j j' v z : Nat) (r : Bool) (w : World) (h : Dy w s a n m x) (h' : Dy w s' a' n' m' x') (hn : 0 < n) (hn' : 0 < n') (hT : Tb w) (hmin : min x x' = t) (hj : x - t = (j : Int)) (hj' : x' - t = (j' : Int)) (hj2 : j < 9223372036854775808) (hj2' : j' < 9223372036854775808) (hno : ¬ Over (m * 2 ^ j)) (hno' : ¬ Over (m' * 2 ^ j')) (hv : 0 < v) (hz : Tz v z) (hz2 : z < 524288) (hx : -1073741824 ≤ t + z ∧ t + z ≤ 1073741824) (hS9 : Hid (∀ (W : World) (A : Option Addr) (N C : Nat) (A' : Option Addr) (N' C' : Nat),Num W A N (m * 2 ^ j) → Num W A' N' (m' * 2 ^ j') → Calls Tryd.prog 74 #[.bool s,.agg #[.slice A N C],.bool s',.agg #[.slice A' N' C']] W fun e w' => (∃ A N C,e = .returned (.tuple #[.bool r,.agg #[.slice A N C],.int .i64 0]) ∧ Mine w' W.heap.size A N C v) ∧ Below W.heap.size W w')) :
  Calls Tryd.prog 30 #[.agg #[.bool s,.slice a n cap,.int .i64 x],.agg #[.bool s',.slice a' n' cap',.int .i64 x']] w fun e w' => (∃ A N C,e = .returned (.tuple #[.agg #[.bool r,.slice A N C,.int .i64 (t + (z : Int))],.int .i64 0]) ∧ Mine w' w.heap.size A N C (v / 2 ^ z)) ∧ Below w.heap.size w w' := by
 have H := hide h
 have H' := hide h'
 have HT := hide hT
 have HJ := hide (And.intro hj (And.intro hj' (And.intro hno (And.intro hno' (And.intro hv hz)))))
 clear h h' hT hj hj' hno hno' hv hz
 go_enter Tryd.func30,Tryd.ntmps30
 go_wp2_with fail
 refine (checkBoth_dy s a n cap m x s' a' n' cap' m' x' _ ((unhide H).kept (gr_trans (gr_trans (gr_alloc _ _) (gr_alloc _ _)) (gr_alloc _ _))) ((unhide H').kept (gr_trans (gr_trans (gr_alloc _ _) (gr_alloc _ _)) (gr_alloc _ _)))).mono ?_
 rintro e w1 ⟨rfl,hb1⟩
 have hS := (Fs.three w _ _ _ _ _ _).kept hb1
 obtain ⟨⟨z1_0_0,z1_0_1,z1_0_2,-⟩,⟨z1_1_0,z1_1_1,z1_1_2,-⟩,⟨z1_2_0,z1_2_1,z1_2_2,-⟩,-⟩ := hS.cells
 go_wp2_with fail
 refine (isNought_no a n cap hn _).mono ?_
 rintro e w2 ⟨rfl,hb2⟩
 replace hS := hS.kept hb2
 clear z1_0_0 z1_0_1 z1_0_2 z1_1_0 z1_1_1 z1_1_2 z1_2_0 z1_2_1 z1_2_2
 obtain ⟨⟨z2_0_0,z2_0_1,z2_0_2,-⟩,⟨z2_1_0,z2_1_1,z2_1_2,-⟩,⟨z2_2_0,z2_2_1,z2_2_2,-⟩,-⟩ := hS.cells
 go_wp2_with fail
 refine (isNought_no a' n' cap' hn' _).mono ?_
 rintro e w3 ⟨rfl,hb3⟩
 replace hS := hS.kept hb3
 clear z2_0_0 z2_0_1 z2_0_2 z2_1_0 z2_1_1 z2_1_2 z2_2_0 z2_2_1 z2_2_2
 obtain ⟨⟨z3_0_0,z3_0_1,z3_0_2,-⟩,⟨z3_1_0,z3_1_1,z3_1_2,-⟩,⟨z3_2_0,z3_2_1,z3_2_2,-⟩,-⟩ := hS.cells
 go_wp2_with fail
 refine (together_ok s a n cap m x s' a' n' cap' m' x' t j j' _ ((unhide H).kept hS.fr).num ((unhide H').kept hS.fr).num hmin (unhide HJ).1 (unhide HJ).2.1 hj2 hj2' (unhide HJ).2.2.1 (unhide HJ).2.2.2.1).mono ?_
 rintro e w4 ⟨⟨A4,N4,C4,B4,O4,Q4,rfl,g4,g5⟩,hb4⟩
 replace hS := hS.kept hb4
 clear z3_0_0 z3_0_1 z3_0_2 z3_1_0 z3_1_1 z3_1_2 z3_2_0 z3_2_1 z3_2_2
 obtain ⟨⟨z4_0_0,z4_0_1,z4_0_2,-⟩,⟨z4_1_0,z4_1_1,z4_1_2,-⟩,⟨z4_2_0,z4_2_1,z4_2_2,-⟩,-⟩ := hS.cells
 have G4 := hide g4
 have G5 := hide g5
 clear g4 g5
 have hltw4_0 : w.heap.size < w4.heap.size := block_lt (hS.bx ⟨w.heap.size,#[.bool s,.slice a n cap,.int .i64 x],26⟩ (by simp))
 have hltw4_1 : w.heap.size + 1 < w4.heap.size := block_lt (hS.bx ⟨w.heap.size + 1,#[.bool s',.slice a' n' cap',.int .i64 x'],26⟩ (by simp))
 have hltw4_2 : w.heap.size + 2 < w4.heap.size := block_lt (hS.bx ⟨w.heap.size + 2,#[.bool false,.slice none 0 0,.int .i64 0],26⟩ (by simp))
 replace hS := (hS.alloc #[.slice A4 N4 C4] 24).alloc #[.slice B4 O4 Q4] 24
 rw [World.size_alloc] at hS
 go_wp2_with fail
 refine (unhide hS9 _ A4 N4 C4 B4 O4 Q4 (((unhide G4).alloc _).alloc _) (((unhide G5).alloc _).alloc _)).mono ?_
 rintro e w5 ⟨⟨A5,N5,C5,rfl,f5⟩,hb5⟩
 replace hS := hS.kept hb5
 clear z4_0_0 z4_0_1 z4_0_2 z4_1_0 z4_1_1 z4_1_2 z4_2_0 z4_2_1 z4_2_2
 obtain ⟨⟨z5_0_0,-⟩,⟨z5_1_0,-⟩,⟨z5_2_0,z5_2_1,z5_2_2,-⟩,⟨z5_3_0,z5_3_1,z5_3_2,-⟩,⟨z5_4_0,z5_4_1,z5_4_2,-⟩,-⟩ := hS.cells
 have F5 := hide f5
 clear f5
 have hltw5_0 : w4.heap.size + 1 < w5.heap.size := block_lt (hS.bx ⟨w4.heap.size + 1,#[.slice B4 O4 Q4],24⟩ (by simp))
 have hltw5_1 : w4.heap.size < w5.heap.size := block_lt (hS.bx ⟨w4.heap.size,#[.slice A4 N4 C4],24⟩ (by simp))
 have hltw5_2 : w.heap.size < w5.heap.size := block_lt (hS.bx ⟨w.heap.size,#[.bool s,.slice a n cap,.int .i64 x],26⟩ (by simp))
 have hltw5_3 : w.heap.size + 1 < w5.heap.size := block_lt (hS.bx ⟨w.heap.size + 1,#[.bool s',.slice a' n' cap',.int .i64 x'],26⟩ (by simp))
 have hltw5_4 : w.heap.size + 2 < w5.heap.size := block_lt (hS.bx ⟨w.heap.size + 2,#[.bool false,.slice none 0 0,.int .i64 0],26⟩ (by simp))
 replace hS := hS.alloc #[.slice A5 N5 C5] 24
 go_wp2_with fail
 refine (make_ok r A5 N5 C5 v z t _ ((unhide F5).alloc _).num (unhide HJ).2.2.2.2.1 ((unhide HT).kept hS.fr) (unhide HJ).2.2.2.2.2 hz2 (unhide F5).room.1 (unhide F5).room.2 hx).mono ?_
 rintro e w6 ⟨⟨A6,N6,C6,rfl,f6⟩,hb6⟩
 replace hS := hS.kept hb6
 clear z5_0_0 z5_1_0 z5_2_0 z5_2_1 z5_2_2 z5_3_0 z5_3_1 z5_3_2 z5_4_0 z5_4_1 z5_4_2
 obtain ⟨⟨z6_0_0,-⟩,⟨z6_1_0,-⟩,⟨z6_2_0,-⟩,⟨z6_3_0,z6_3_1,z6_3_2,-⟩,⟨z6_4_0,z6_4_1,z6_4_2,-⟩,⟨z6_5_0,z6_5_1,z6_5_2,-⟩,-⟩ := hS.cells
 have F6 := hide f6
 clear f6
 have fz0 := hS.frozen (b := w.heap.size + 2) (cs := #[.bool false,.slice none 0 0,.int .i64 0]) (t := 26) (by simp) 0
 have fz1 := hS.frozen (b := w.heap.size + 2) (cs := #[.bool false,.slice none 0 0,.int .i64 0]) (t := 26) (by simp) 1
 have fz2 := hS.frozen (b := w.heap.size + 2) (cs := #[.bool false,.slice none 0 0,.int .i64 0]) (t := 26) (by simp) 2
 go_wp2
 exact bodyPost_ret (v := .tuple #[.agg #[.bool r,.slice A6 N6 C6,.int .i64 (t + (z : Int))],.int .i64 0]) (by simp [results,Tryd.results30,go_sem,z6_5_0,z6_5_1,z6_5_2]) rfl
  ⟨⟨_,_,_,rfl,((((unhide F6).set (by simp; omega) _).set (by simp; omega) _).set (by simp; omega) _).mono (by simp; omega)⟩,((hS.fr.setCell (by simp <;> omega) _).setCell (by simp <;> omega) _).setCell (by simp <;> omega) _⟩
end Go.Proofs.YtecmcjlgknfnlaaDoor
namespace Go.Proofs.YtecmcjlgknfnlaaDoor
open Go.RowKit
set_option maxHeartbeats 400000 in
theorem Half4  (w : World)  :
  Calls Tryd.prog 68 #[] w fun e w' => e = .returned (.agg #[.int .i64 5,.int .i64 10]) ∧ Below w.heap.size w w' := by
 go_enter Tryd.func68,Tryd.ntmps68
 go_wp2
 exact bodyPost_ret (v := .agg #[.int .i64 5,.int .i64 10]) (by simp [results,Tryd.results68,go_sem]) rfl ⟨rfl,(Fs.one w _ _).fr⟩
set_option maxHeartbeats 400000 in
theorem Double4  (w : World)  :
  Calls Tryd.prog 66 #[] w fun e w' => e = .returned (.agg #[.int .i64 11,.int .i64 52]) ∧ Below w.heap.size w w' := by
 go_enter Tryd.func66,Tryd.ntmps66
 go_wp2
 exact bodyPost_ret (v := .agg #[.int .i64 11,.int .i64 52]) (by simp [results,Tryd.results66,go_sem]) rfl ⟨rfl,(Fs.one w _ _).fr⟩
set_option maxHeartbeats 400000 in
theorem whole_any (s : Bool) (u : Nat) (x : Int) (hu : u < 18446744073709551616) (w : World)  :
  Calls Tryd.prog 69 #[.bool s,.int .u64 u,.int .i64 x] w fun e w' => (∃ A N C,e = .returned (.agg #[.bool s,.slice A N C,.int .i64 x]) ∧ Mine w' w.heap.size A N C u) ∧ Below w.heap.size w w' := by
 go_enter Tryd.func69,Tryd.ntmps69
 go_wp2_with fail
 refine (of_any u _ hu).mono ?_
 rintro e w1 ⟨⟨A1,N1,C1,rfl,f1⟩,hb1⟩
 have hS := (Fs.one w _ _).kept hb1
 obtain ⟨⟨z1_0_0,z1_0_1,z1_0_2,-⟩,-⟩ := hS.cells
 have F1 := hide f1
 clear f1
 have fz0 := hS.frozen (b := w.heap.size) (cs := #[.bool false,.slice none 0 0,.int .i64 0]) (t := 26) (by simp) 0
 have fz1 := hS.frozen (b := w.heap.size) (cs := #[.bool false,.slice none 0 0,.int .i64 0]) (t := 26) (by simp) 1
 have fz2 := hS.frozen (b := w.heap.size) (cs := #[.bool false,.slice none 0 0,.int .i64 0]) (t := 26) (by simp) 2
 go_wp2
 exact bodyPost_ret (v := .agg #[.bool s,.slice A1 N1 C1,.int .i64 x]) (by simp [results,Tryd.results69,go_sem,z1_0_0,z1_0_1,z1_0_2]) rfl ⟨⟨_,_,_,rfl,((((unhide F1).set (by simp) _).set (by simp) _).set (by simp) _).mono (by simp)⟩,((hS.fr.setCell (by simp <;> omega) _).setCell (by simp <;> omega) _).setCell (by simp <;> omega) _⟩
set_option maxHeartbeats 400000 in
theorem dsame_true (a : Option Addr) (n cap m : Nat) (a' : Option Addr) (n' cap' : Nat) (x : Int) (w : World) (h : Num w a n m) (h' : Num w a' n' m) :
  Calls Tryd.prog 32 #[.agg #[.bool true,.slice a n cap,.int .i64 x],.agg #[.bool true,.slice a' n' cap',.int .i64 x]] w fun e w' => e = .returned (.bool true) ∧ Below w.heap.size w w' := by
 have H := hide h
 have H' := hide h'
 clear h h'
 go_enter Tryd.func32,Tryd.ntmps32
 have HC := hide (same_any a a' n n' cap cap' m m _ (((unhide H).alloc (.cells #[.bool true,.slice a n cap,.int .i64 x] 26)).alloc (.cells #[.bool true,.slice a' n' cap',.int .i64 x] 26)) (((unhide H').alloc _).alloc _))
 rw [decide_eq_true (rfl : m = m)] at HC
 go_wp2_with fail
 refine (unhide HC).mono ?_
 rintro e w1 ⟨rfl,hb1⟩
 have hS := (Fs.two w _ _ _ _).kept hb1
 obtain ⟨⟨z1_0_0,z1_0_1,z1_0_2,-⟩,⟨z1_1_0,z1_1_1,z1_1_2,-⟩,-⟩ := hS.cells
 go_wp2
 go_ret
 exact ⟨rfl,hS.fr⟩
set_option maxHeartbeats 400000 in
theorem dsame_false (a : Option Addr) (n cap m : Nat) (a' : Option Addr) (n' cap' : Nat) (x : Int) (w : World) (h : Num w a n m) (h' : Num w a' n' m) :
  Calls Tryd.prog 32 #[.agg #[.bool false,.slice a n cap,.int .i64 x],.agg #[.bool false,.slice a' n' cap',.int .i64 x]] w fun e w' => e = .returned (.bool true) ∧ Below w.heap.size w w' := by
 have H := hide h
 have H' := hide h'
 clear h h'
 go_enter Tryd.func32,Tryd.ntmps32
 have HC := hide (same_any a a' n n' cap cap' m m _ (((unhide H).alloc (.cells #[.bool false,.slice a n cap,.int .i64 x] 26)).alloc (.cells #[.bool false,.slice a' n' cap',.int .i64 x] 26)) (((unhide H').alloc _).alloc _))
 rw [decide_eq_true (rfl : m = m)] at HC
 go_wp2_with fail
 refine (unhide HC).mono ?_
 rintro e w1 ⟨rfl,hb1⟩
 have hS := (Fs.two w _ _ _ _).kept hb1
 obtain ⟨⟨z1_0_0,z1_0_1,z1_0_2,-⟩,⟨z1_1_0,z1_1_1,z1_1_2,-⟩,-⟩ := hS.cells
 go_wp2
 go_ret
 exact ⟨rfl,hS.fr⟩
theorem dsame_any (s : Bool) (a : Option Addr) (n cap m : Nat) (a' : Option Addr) (n' cap' : Nat) (x : Int) (w : World) (h : Num w a n m) (h' : Num w a' n' m) :
  Calls Tryd.prog 32 #[.agg #[.bool s,.slice a n cap,.int .i64 x],.agg #[.bool s,.slice a' n' cap',.int .i64 x]] w fun e w' => e = .returned (.bool true) ∧ Below w.heap.size w w' := by
 cases s
 ·exact dsame_false a n cap m a' n' cap' x w h h'
 ·exact dsame_true a n cap m a' n' cap' x w h h'
theorem aone_wo : Wo 11 52 1023 1023 2251799813685248 6755399441055744 51 (-52) := ⟨⟨1,by decide⟩,Or.inr ⟨by decide,by decide,by decide⟩,by decide,by decide⟩
theorem av_one (w : World) (hT : Tb w) :
  Calls Tryd.prog 16 #[.agg #[.int .i64 11,.int .i64 52],.int .u64 4609434218613702656] w fun e w' => (∃ A N C,e = .returned (.tuple #[.agg #[.bool false,.slice A N C,.int .i64 (-1)],.int .i64 0]) ∧ Mine w' w.heap.size A N C 3) ∧ Below w.heap.size w w' :=
 Value_wo 11 52 1023 4609434218613702656 1023 2251799813685248 false 6755399441055744 51 (-52) w ⟨by decide,by decide,by decide,by decide⟩ (hide (by decide)) ⟨by decide,by decide,by decide⟩ aone_wo hT
theorem av_half (A : Option Addr) (N C : Nat) (w : World) (h : Num w A N 2047) :
  Calls Tryd.prog 67 #[.agg #[.int .i64 5,.int .i64 10],.agg #[.bool false,.slice A N C,.int .i64 5]] w fun e w' => e = .returned (.tuple #[.int .u64 31743,.bool true,.int .i64 0]) ∧ Below w.heap.size w w' :=
 Bits_wo 5 10 15 31743 30 1023 false 2047 0 5 A N C w ⟨by decide,by decide,by decide,by decide⟩ (hide (by decide)) ⟨by decide,by decide,by decide⟩ ⟨⟨1023,by decide⟩,Or.inr ⟨by decide,by decide,by decide⟩,by decide,by decide⟩ h
theorem small_not {v : Nat} (h : v < 2 ^ 64) : ¬ Over v := not_over h (by decide)
theorem num_pos {w : World} {a : Option Addr} {n m : Nat} (h : Num w a n m) (hm : 0 < m) : 0 < n := by have := h.zero; omega
theorem av_add (A : Option Addr) (N C : Nat) (A' : Option Addr) (N' C' : Nat) (w : World) (h : Num w A N 3) (h' : Num w A' N' 3) (hT : Tb w) :
  Calls Tryd.prog 30 #[.agg #[.bool false,.slice A N C,.int .i64 2],.agg #[.bool true,.slice A' N' C',.int .i64 0]] w fun e w' => (∃ A N C,e = .returned (.tuple #[.agg #[.bool false,.slice A N C,.int .i64 0],.int .i64 0]) ∧ Mine w' w.heap.size A N C 9) ∧ Below w.heap.size w w' :=
 Add_num false A N C 3 2 true A' N' C' 3 0 0 2 0 9 0 false w ⟨h,Or.inr ⟨by decide,by decide,by decide⟩⟩ ⟨h',Or.inr ⟨by decide,by decide,by decide⟩⟩ (num_pos h (by decide)) (num_pos h' (by decide)) hT (by decide) (by decide) (by decide) (by decide) (by decide) (small_not (by decide)) (small_not (by decide)) (by decide) ⟨4,by decide⟩ (by decide) (by decide)
  (hide fun W A N C A' N' C' g g' => addS_ge_f A N C _ A' N' C' _ W g g' (by decide))
theorem av_mul (A : Option Addr) (N C : Nat) (A' : Option Addr) (N' C' : Nat) (w : World) (h : Num w A N 3) (h' : Num w A' N' 5) :
  Calls Tryd.prog 31 #[.agg #[.bool false,.slice A N C,.int .i64 (-1)],.agg #[.bool true,.slice A' N' C',.int .i64 4]] w fun e w' => (∃ A N C,e = .returned (.tuple #[.agg #[.bool true,.slice A N C,.int .i64 3],.int .i64 0]) ∧ Mine w' w.heap.size A N C 15) ∧ Below w.heap.size w w' :=
 Mul_ok_ft A N C 3 (-1) A' N' C' 5 4 w ⟨h,Or.inr ⟨by decide,by decide,by decide⟩⟩ ⟨h',Or.inr ⟨by decide,by decide,by decide⟩⟩ (num_pos h (by decide)) (num_pos h' (by decide)) (by decide) (small_not (by decide))
theorem av_cmp (A : Option Addr) (N C : Nat) (A' : Option Addr) (N' C' : Nat) (w : World) (h : Num w A N 1) (h' : Num w A' N' 5) :
  Calls Tryd.prog 52 #[.agg #[.bool true,.slice A N C,.int .i64 3],.agg #[.bool true,.slice A' N' C',.int .i64 1]] w fun e w' => e = .returned (.tuple #[.int .i64 1,.int .i64 0]) ∧ Below w.heap.size w w' := by
 have := Cmp_any true A N C 1 3 true A' N' C' 5 1 1 2 0 w ⟨h,Or.inr ⟨by decide,by decide,by decide⟩⟩ ⟨h',Or.inr ⟨by decide,by decide,by decide⟩⟩ (by decide) (by decide)
 rw [show cmp3 (sv true (1 * 2 ^ 2)) (sv true (5 * 2 ^ 0)) = 1 from by decide] at this
 exact this
set_option maxRecDepth 20000 in
set_option maxHeartbeats 8000000 in
theorem alive_any  (w : World) (hT : Tb w) :
  Calls Tryd.prog 28 #[] w fun e w' => e = .returned (.bool true) ∧ Below w.heap.size w w' := by
 have HT := hide hT
 clear hT
 go_enter Tryd.func28,Tryd.ntmps28
 go_wp2_with fail
 refine (Double4 _).mono ?_
 rintro e w1 ⟨rfl,hb1⟩
 have hS := (Fs.begin w).kept hb1
 have hZ1 := hS.size
 go_wp2_with fail
 refine (av_one _ ((unhide HT).kept hS.fr)).mono ?_
 rintro e w2 ⟨⟨A1,N1,C1,rfl,f1⟩,hb2⟩
 replace hS := hS.kept hb2
 have G1 := hide (f1.mono hZ1)
 clear f1 hZ1
 replace hS := hS.alloc #[.bool false,.slice A1 N1 C1,.int .i64 (-1)] 26
 replace G1 := hide ((unhide G1).alloc (.cells #[.bool false,.slice A1 N1 C1,.int .i64 (-1)] 26))
 go_wp2_with fail
 refine (Half4 _).mono ?_
 rintro e w3 ⟨rfl,hb3⟩
 replace hS := hS.kept hb3
 obtain ⟨⟨z3_0_0,z3_0_1,z3_0_2,-⟩,-⟩ := hS.cells
 replace G1 := hide ((unhide G1).kept hb3)
 have hZ2 := hS.size
 go_wp2_with fail
 refine (whole_any false 2047 5 (by decide) _).mono ?_
 rintro e w4 ⟨⟨A2,N2,C2,rfl,f2⟩,hb4⟩
 replace hS := hS.kept hb4
 clear z3_0_0 z3_0_1 z3_0_2
 obtain ⟨⟨z4_0_0,z4_0_1,z4_0_2,-⟩,-⟩ := hS.cells
 replace G1 := hide ((unhide G1).kept hb4)
 have G2 := hide (f2.mono hZ2)
 clear f2 hZ2
 go_wp2_with fail
 refine (av_half A2 N2 C2 _ (unhide G2).num).mono ?_
 rintro e w5 ⟨rfl,hb5⟩
 replace hS := hS.kept hb5
 clear z4_0_0 z4_0_1 z4_0_2
 obtain ⟨⟨z5_0_0,z5_0_1,z5_0_2,-⟩,-⟩ := hS.cells
 replace G1 := hide ((unhide G1).kept hb5)
 replace G2 := hide ((unhide G2).kept hb5)
 have hZ3 := hS.size
 go_wp2_with fail
 refine (whole_any false 3 2 (by decide) _).mono ?_
 rintro e w6 ⟨⟨A3,N3,C3,rfl,f3⟩,hb6⟩
 replace hS := hS.kept hb6
 clear z5_0_0 z5_0_1 z5_0_2
 obtain ⟨⟨z6_0_0,z6_0_1,z6_0_2,-⟩,-⟩ := hS.cells
 replace G1 := hide ((unhide G1).kept hb6)
 replace G2 := hide ((unhide G2).kept hb6)
 have G3 := hide (f3.mono hZ3)
 clear f3 hZ3
 have hZ4 := hS.size
 go_wp2_with fail
 refine (whole_any true 3 0 (by decide) _).mono ?_
 rintro e w7 ⟨⟨A4,N4,C4,rfl,f4⟩,hb7⟩
 replace hS := hS.kept hb7
 clear z6_0_0 z6_0_1 z6_0_2
 obtain ⟨⟨z7_0_0,z7_0_1,z7_0_2,-⟩,-⟩ := hS.cells
 replace G1 := hide ((unhide G1).kept hb7)
 replace G2 := hide ((unhide G2).kept hb7)
 replace G3 := hide ((unhide G3).kept hb7)
 have G4 := hide (f4.mono hZ4)
 clear f4 hZ4
 have hZ5 := hS.size
 go_wp2_with fail
 refine (av_add A3 N3 C3 A4 N4 C4 _ (unhide G3).num (unhide G4).num ((unhide HT).kept hS.fr)).mono ?_
 rintro e w8 ⟨⟨A5,N5,C5,rfl,f5⟩,hb8⟩
 replace hS := hS.kept hb8
 clear z7_0_0 z7_0_1 z7_0_2
 obtain ⟨⟨z8_0_0,z8_0_1,z8_0_2,-⟩,-⟩ := hS.cells
 replace G1 := hide ((unhide G1).kept hb8)
 replace G2 := hide ((unhide G2).kept hb8)
 replace G3 := hide ((unhide G3).kept hb8)
 replace G4 := hide ((unhide G4).kept hb8)
 have G5 := hide (f5.mono hZ5)
 clear f5 hZ5
 have hltw8_0 : w2.heap.size < w8.heap.size := block_lt (hS.bx ⟨w2.heap.size,#[.bool false,.slice A1 N1 C1,.int .i64 (-1)],26⟩ (by simp))
 replace hS := hS.alloc #[.bool false,.slice A5 N5 C5,.int .i64 0] 26
 replace G1 := hide ((unhide G1).alloc (.cells #[.bool false,.slice A5 N5 C5,.int .i64 0] 26))
 replace G2 := hide ((unhide G2).alloc (.cells #[.bool false,.slice A5 N5 C5,.int .i64 0] 26))
 replace G3 := hide ((unhide G3).alloc (.cells #[.bool false,.slice A5 N5 C5,.int .i64 0] 26))
 replace G4 := hide ((unhide G4).alloc (.cells #[.bool false,.slice A5 N5 C5,.int .i64 0] 26))
 replace G5 := hide ((unhide G5).alloc (.cells #[.bool false,.slice A5 N5 C5,.int .i64 0] 26))
 have hZ6 := hS.size
 go_wp2_with fail
 refine (whole_any false 3 (-1) (by decide) _).mono ?_
 rintro e w9 ⟨⟨A6,N6,C6,rfl,f6⟩,hb9⟩
 replace hS := hS.kept hb9
 clear z8_0_0 z8_0_1 z8_0_2
 obtain ⟨⟨z9_0_0,z9_0_1,z9_0_2,-⟩,⟨z9_1_0,z9_1_1,z9_1_2,-⟩,-⟩ := hS.cells
 replace G1 := hide ((unhide G1).kept hb9)
 replace G2 := hide ((unhide G2).kept hb9)
 replace G3 := hide ((unhide G3).kept hb9)
 replace G4 := hide ((unhide G4).kept hb9)
 replace G5 := hide ((unhide G5).kept hb9)
 have G6 := hide (f6.mono hZ6)
 clear f6 hZ6
 have hZ7 := hS.size
 go_wp2_with fail
 refine (whole_any true 5 4 (by decide) _).mono ?_
 rintro e w10 ⟨⟨A7,N7,C7,rfl,f7⟩,hb10⟩
 replace hS := hS.kept hb10
 clear z9_0_0 z9_0_1 z9_0_2 z9_1_0 z9_1_1 z9_1_2
 obtain ⟨⟨z10_0_0,z10_0_1,z10_0_2,-⟩,⟨z10_1_0,z10_1_1,z10_1_2,-⟩,-⟩ := hS.cells
 replace G1 := hide ((unhide G1).kept hb10)
 replace G2 := hide ((unhide G2).kept hb10)
 replace G3 := hide ((unhide G3).kept hb10)
 replace G4 := hide ((unhide G4).kept hb10)
 replace G5 := hide ((unhide G5).kept hb10)
 replace G6 := hide ((unhide G6).kept hb10)
 have G7 := hide (f7.mono hZ7)
 clear f7 hZ7
 have hZ8 := hS.size
 go_wp2_with fail
 refine (av_mul A6 N6 C6 A7 N7 C7 _ (unhide G6).num (unhide G7).num).mono ?_
 rintro e w11 ⟨⟨A8,N8,C8,rfl,f8⟩,hb11⟩
 replace hS := hS.kept hb11
 clear z10_0_0 z10_0_1 z10_0_2 z10_1_0 z10_1_1 z10_1_2
 obtain ⟨⟨z11_0_0,z11_0_1,z11_0_2,-⟩,⟨z11_1_0,z11_1_1,z11_1_2,-⟩,-⟩ := hS.cells
 replace G1 := hide ((unhide G1).kept hb11)
 replace G2 := hide ((unhide G2).kept hb11)
 replace G3 := hide ((unhide G3).kept hb11)
 replace G4 := hide ((unhide G4).kept hb11)
 replace G5 := hide ((unhide G5).kept hb11)
 replace G6 := hide ((unhide G6).kept hb11)
 replace G7 := hide ((unhide G7).kept hb11)
 have G8 := hide (f8.mono hZ8)
 clear f8 hZ8
 have hltw11_0 : w8.heap.size < w11.heap.size := block_lt (hS.bx ⟨w8.heap.size,#[.bool false,.slice A5 N5 C5,.int .i64 0],26⟩ (by simp))
 have hltw11_1 : w2.heap.size < w11.heap.size := block_lt (hS.bx ⟨w2.heap.size,#[.bool false,.slice A1 N1 C1,.int .i64 (-1)],26⟩ (by simp))
 replace hS := hS.alloc #[.bool true,.slice A8 N8 C8,.int .i64 3] 26
 replace G1 := hide ((unhide G1).alloc (.cells #[.bool true,.slice A8 N8 C8,.int .i64 3] 26))
 replace G2 := hide ((unhide G2).alloc (.cells #[.bool true,.slice A8 N8 C8,.int .i64 3] 26))
 replace G3 := hide ((unhide G3).alloc (.cells #[.bool true,.slice A8 N8 C8,.int .i64 3] 26))
 replace G4 := hide ((unhide G4).alloc (.cells #[.bool true,.slice A8 N8 C8,.int .i64 3] 26))
 replace G5 := hide ((unhide G5).alloc (.cells #[.bool true,.slice A8 N8 C8,.int .i64 3] 26))
 replace G6 := hide ((unhide G6).alloc (.cells #[.bool true,.slice A8 N8 C8,.int .i64 3] 26))
 replace G7 := hide ((unhide G7).alloc (.cells #[.bool true,.slice A8 N8 C8,.int .i64 3] 26))
 replace G8 := hide ((unhide G8).alloc (.cells #[.bool true,.slice A8 N8 C8,.int .i64 3] 26))
 have hZ9 := hS.size
 go_wp2_with fail
 refine (whole_any true 1 3 (by decide) _).mono ?_
 rintro e w12 ⟨⟨A9,N9,C9,rfl,f9⟩,hb12⟩
 replace hS := hS.kept hb12
 clear z11_0_0 z11_0_1 z11_0_2 z11_1_0 z11_1_1 z11_1_2
 obtain ⟨⟨z12_0_0,z12_0_1,z12_0_2,-⟩,⟨z12_1_0,z12_1_1,z12_1_2,-⟩,⟨z12_2_0,z12_2_1,z12_2_2,-⟩,-⟩ := hS.cells
 replace G1 := hide ((unhide G1).kept hb12)
 replace G2 := hide ((unhide G2).kept hb12)
 replace G3 := hide ((unhide G3).kept hb12)
 replace G4 := hide ((unhide G4).kept hb12)
 replace G5 := hide ((unhide G5).kept hb12)
 replace G6 := hide ((unhide G6).kept hb12)
 replace G7 := hide ((unhide G7).kept hb12)
 replace G8 := hide ((unhide G8).kept hb12)
 have G9 := hide (f9.mono hZ9)
 clear f9 hZ9
 have hZ10 := hS.size
 go_wp2_with fail
 refine (whole_any true 5 1 (by decide) _).mono ?_
 rintro e w13 ⟨⟨A10,N10,C10,rfl,f10⟩,hb13⟩
 replace hS := hS.kept hb13
 clear z12_0_0 z12_0_1 z12_0_2 z12_1_0 z12_1_1 z12_1_2 z12_2_0 z12_2_1 z12_2_2
 obtain ⟨⟨z13_0_0,z13_0_1,z13_0_2,-⟩,⟨z13_1_0,z13_1_1,z13_1_2,-⟩,⟨z13_2_0,z13_2_1,z13_2_2,-⟩,-⟩ := hS.cells
 replace G1 := hide ((unhide G1).kept hb13)
 replace G2 := hide ((unhide G2).kept hb13)
 replace G3 := hide ((unhide G3).kept hb13)
 replace G4 := hide ((unhide G4).kept hb13)
 replace G5 := hide ((unhide G5).kept hb13)
 replace G6 := hide ((unhide G6).kept hb13)
 replace G7 := hide ((unhide G7).kept hb13)
 replace G8 := hide ((unhide G8).kept hb13)
 replace G9 := hide ((unhide G9).kept hb13)
 have G10 := hide (f10.mono hZ10)
 clear f10 hZ10
 go_wp2_with fail
 refine (av_cmp A9 N9 C9 A10 N10 C10 _ (unhide G9).num (unhide G10).num).mono ?_
 rintro e w14 ⟨rfl,hb14⟩
 replace hS := hS.kept hb14
 clear z13_0_0 z13_0_1 z13_0_2 z13_1_0 z13_1_1 z13_1_2 z13_2_0 z13_2_1 z13_2_2
 obtain ⟨⟨z14_0_0,z14_0_1,z14_0_2,-⟩,⟨z14_1_0,z14_1_1,z14_1_2,-⟩,⟨z14_2_0,z14_2_1,z14_2_2,-⟩,-⟩ := hS.cells
 replace G1 := hide ((unhide G1).kept hb14)
 replace G2 := hide ((unhide G2).kept hb14)
 replace G3 := hide ((unhide G3).kept hb14)
 replace G4 := hide ((unhide G4).kept hb14)
 replace G5 := hide ((unhide G5).kept hb14)
 replace G6 := hide ((unhide G6).kept hb14)
 replace G7 := hide ((unhide G7).kept hb14)
 replace G8 := hide ((unhide G8).kept hb14)
 replace G9 := hide ((unhide G9).kept hb14)
 replace G10 := hide ((unhide G10).kept hb14)
 go_wp2_with fail
 have hS3s : w.heap.size ≤ w14.heap.size := hS.size
 have hs9 : ∀ x9 : Nat × (Pk → World → Prop),x9 ∈ ([(20,fun q W => Mine W w.heap.size q.A q.N q.C 3),(32,fun q W => Mine W w.heap.size q.A q.N q.C 9),(37,fun q W => Mine W w.heap.size q.A q.N q.C 15),(45,fun _ W => Mine W w.heap.size A1 N1 C1 3),(46,fun _ W => Mine W w.heap.size A5 N5 C5 9),(47,fun _ W => Mine W w.heap.size A8 N8 C8 15)] : List (Nat × (Pk → World → Prop))) → ∀ q9 : Pk,St w.heap.size (x9.2 q9) := by
  intro x hx q
  simp only [List.mem_cons,List.not_mem_nil,or_false] at hx
  rcases hx with rfl | rfl | rfl | rfl | rfl | rfl
  ·exact st_mine _ _ _ _ _
  ·exact st_mine _ _ _ _ _
  ·exact st_mine _ _ _ _ _
  ·exact st_mine _ _ _ _ _
  ·exact st_mine _ _ _ _ _
  ·exact st_mine _ _ _ _ _
 have h09 : ∀ x9 : Nat × (Pk → World → Prop),x9 ∈ ([(20,fun q W => Mine W w.heap.size q.A q.N q.C 3),(32,fun q W => Mine W w.heap.size q.A q.N q.C 9),(37,fun q W => Mine W w.heap.size q.A q.N q.C 15),(45,fun _ W => Mine W w.heap.size A1 N1 C1 3),(46,fun _ W => Mine W w.heap.size A5 N5 C5 9),(47,fun _ W => Mine W w.heap.size A8 N8 C8 15)] : List (Nat × (Pk → World → Prop))) → 45 ≤ x9.1 → x9.2 ⟨none,0,0⟩ w14 := by
  intro x hx hn9
  simp only [List.mem_cons,List.not_mem_nil,or_false] at hx
  rcases hx with rfl | rfl | rfl | rfl | rfl | rfl
  ·exact absurd hn9 (by simp)
  ·exact absurd hn9 (by simp)
  ·exact absurd hn9 (by simp)
  ·exact unhide G1
  ·exact unhide G5
  ·exact unhide G8
 refine wp_region_any (by kernel_rfl) ?_
 refine wpAny_pick (fun p9 => [some (42,.int .i64 0),some (43,.bool true),some (44,.bool true),some (45,.int .i64 0),some (46,.bool true),some (47,.bool true),some (48,.bool true),some (49,.int .i64 0),some (50,.bool true),some (51,.bool true),some (52,.bool true),some (53,.int .i64 0),some (54,.bool true),some (55,.bool true),some (56,.bool true),some (57,.int .i64 0),some (58,.bool true),some (59,.bool true),some (60,.bool true),some (61,.agg #[.bool false,.slice A1 N1 C1,.int .i64 (-1)]),some (62,.agg #[.bool false,.slice (p9 20).A (p9 20).N (p9 20).C,.int .i64 (-1)]),some (63,.bool true),some (64,.bool true),some (65,.bool true),some (66,.int .u64 31743),some (67,.bool true),some (68,.bool true),some (69,.bool true),some (70,.bool true),some (71,.bool true),some (72,.bool true),some (73,.agg #[.bool false,.slice A5 N5 C5,.int .i64 0]),some (74,.agg #[.bool false,.slice (p9 32).A (p9 32).N (p9 32).C,.int .i64 0]),some (75,.bool true),some (76,.bool true),some (77,.bool true),some (78,.agg #[.bool true,.slice A8 N8 C8,.int .i64 3]),some (79,.agg #[.bool true,.slice (p9 37).A (p9 37).N (p9 37).C,.int .i64 3]),some (80,.bool true),some (81,.bool true),some (82,.bool true),some (83,.int .i64 1),some (84,.bool true),some (85,.bool true),some (0,.bool true)])
  (fun p9 l9 W9 => Pm w w.heap.size [(20,fun q W => Mine W w.heap.size q.A q.N q.C 3),(32,fun q W => Mine W w.heap.size q.A q.N q.C 9),(37,fun q W => Mine W w.heap.size q.A q.N q.C 15),(45,fun _ W => Mine W w.heap.size A1 N1 C1 3),(46,fun _ W => Mine W w.heap.size A5 N5 C5 9),(47,fun _ W => Mine W w.heap.size A8 N8 C8 15)] p9 l9 W9 [⟨w11.heap.size,#[.bool true,.slice A8 N8 C8,.int .i64 3],26⟩,⟨w8.heap.size,#[.bool false,.slice A5 N5 C5,.int .i64 0],26⟩,⟨w2.heap.size,#[.bool false,.slice A1 N1 C1,.int .i64 (-1)],26⟩]) _ _ (fun _ => rfl) (by kernel_rfl) (fun _ => rfl) (fun _ => rfl) ?_ ?_ (fun _ => ⟨none,0,0⟩) (Pm.start2 hS _ _ _ (hS.size) hs9 h09)
 ·intro p9 l9 t9 W9 i9 hD hi9 hl9 hM
  obtain ⟨o9,ho9,hd9⟩ := (mem_ready.1 hi9).2
  have hin9 : i9 < 45 := by
   by_cases h : i9 < 45
   ·exact h
   ·rw [Array.getElem?_eq_none (by rw [hD.len]; simp; omega)] at hl9; cases hl9
  have hcase : i9 = 0 ∨ i9 = 1 ∨ i9 = 2 ∨ i9 = 3 ∨ i9 = 4 ∨ i9 = 5 ∨ i9 = 6 ∨ i9 = 7 ∨ i9 = 8 ∨ i9 = 9 ∨ i9 = 10 ∨ i9 = 11 ∨ i9 = 12 ∨ i9 = 13 ∨ i9 = 14 ∨ i9 = 15 ∨ i9 = 16 ∨ i9 = 17 ∨ i9 = 18 ∨ i9 = 19 ∨ i9 = 20 ∨ i9 = 21 ∨ i9 = 22 ∨ i9 = 23 ∨ i9 = 24 ∨ i9 = 25 ∨ i9 = 26 ∨ i9 = 27 ∨ i9 = 28 ∨ i9 = 29 ∨ i9 = 30 ∨ i9 = 31 ∨ i9 = 32 ∨ i9 = 33 ∨ i9 = 34 ∨ i9 = 35 ∨ i9 = 36 ∨ i9 = 37 ∨ i9 = 38 ∨ i9 = 39 ∨ i9 = 40 ∨ i9 = 41 ∨ i9 = 42 ∨ i9 = 43 ∨ i9 = 44 := by omega
  clear hin9
  rcases hcase with rfl | rfl | rfl | rfl | rfl | rfl | rfl | rfl | rfl | rfl | rfl | rfl | rfl | rfl | rfl | rfl | rfl | rfl | rfl | rfl | rfl | rfl | rfl | rfl | rfl | rfl | rfl | rfl | rfl | rfl | rfl | rfl | rfl | rfl | rfl | rfl | rfl | rfl | rfl | rfl | rfl | rfl | rfl | rfl | rfl
  ·cases ho9
   have r2 := hD.old 2 _ rfl rfl
   clear hD hd9 hi9
   refine wpOp_step rfl (fun K hK => ?_)
   go_simp
   exact hK _ _ ⟨p9,fun _ _ => rfl,rfl,(hM.val rfl)⟩
  ·cases ho9
   have r42 := hD.on 0 42 _ rfl (getD_true (hd9 ⟨0,.data⟩ (by simp) rfl))
   clear hD hd9 hi9
   refine wpOp_step rfl (fun K hK => ?_)
   go_simp
   exact hK _ _ ⟨p9,fun _ _ => rfl,act_eq (by rfl),(hM.val rfl)⟩
  ·cases ho9
   have r43 := hD.on 1 43 _ rfl (getD_true (hd9 ⟨1,.data⟩ (by simp) rfl))
   clear hD hd9 hi9
   refine wpOp_step rfl (fun K hK => ?_)
   go_simp
   exact hK _ _ ⟨p9,fun _ _ => rfl,rfl,(hM.val rfl)⟩
  ·cases ho9
   have r44 := hD.on 2 44 _ rfl (getD_true (hd9 ⟨2,.guard⟩ (by simp) rfl))
   have r5 := hD.old 5 _ rfl rfl
   clear hD hd9 hi9
   refine wpOp_step rfl (fun K hK => ?_)
   go_simp
   exact hK _ _ ⟨p9,fun _ _ => rfl,rfl,(hM.val rfl)⟩
  ·cases ho9
   have r44 := hD.on 2 44 _ rfl (getD_true (hd9 ⟨2,.guard⟩ (by simp) rfl))
   have r45 := hD.on 3 45 _ rfl (getD_true (hd9 ⟨3,.data⟩ (by simp) rfl))
   clear hD hd9 hi9
   refine wpOp_step rfl (fun K hK => ?_)
   go_simp
   exact hK _ _ ⟨p9,fun _ _ => rfl,act_eq (by rfl),(hM.val rfl)⟩
  ·cases ho9
   have r44 := hD.on 2 44 _ rfl (getD_true (hd9 ⟨2,.data⟩ (by simp) rfl))
   have r46 := hD.on 4 46 _ rfl (getD_true (hd9 ⟨4,.data⟩ (by simp) rfl))
   clear hD hd9 hi9
   refine wpOp_step rfl (fun K hK => ?_)
   go_simp
   exact hK _ _ ⟨p9,fun _ _ => rfl,rfl,(hM.val rfl)⟩
  ·cases ho9
   have r47 := hD.on 5 47 _ rfl (getD_true (hd9 ⟨5,.data⟩ (by simp) rfl))
   clear hD hd9 hi9
   refine wpOp_step rfl (fun K hK => ?_)
   go_simp
   exact hK _ _ ⟨p9,fun _ _ => rfl,rfl,(hM.val rfl)⟩
  ·cases ho9
   have r48 := hD.on 6 48 _ rfl (getD_true (hd9 ⟨6,.guard⟩ (by simp) rfl))
   have r7 := hD.old 7 _ rfl rfl
   clear hD hd9 hi9
   refine wpOp_step rfl (fun K hK => ?_)
   go_simp
   exact hK _ _ ⟨p9,fun _ _ => rfl,rfl,(hM.val rfl)⟩
  ·cases ho9
   have r48 := hD.on 6 48 _ rfl (getD_true (hd9 ⟨6,.guard⟩ (by simp) rfl))
   have r49 := hD.on 7 49 _ rfl (getD_true (hd9 ⟨7,.data⟩ (by simp) rfl))
   clear hD hd9 hi9
   refine wpOp_step rfl (fun K hK => ?_)
   go_simp
   exact hK _ _ ⟨p9,fun _ _ => rfl,act_eq (by rfl),(hM.val rfl)⟩
  ·cases ho9
   have r48 := hD.on 6 48 _ rfl (getD_true (hd9 ⟨6,.data⟩ (by simp) rfl))
   have r50 := hD.on 8 50 _ rfl (getD_true (hd9 ⟨8,.data⟩ (by simp) rfl))
   clear hD hd9 hi9
   refine wpOp_step rfl (fun K hK => ?_)
   go_simp
   exact hK _ _ ⟨p9,fun _ _ => rfl,rfl,(hM.val rfl)⟩
  ·cases ho9
   have r51 := hD.on 9 51 _ rfl (getD_true (hd9 ⟨9,.data⟩ (by simp) rfl))
   clear hD hd9 hi9
   refine wpOp_step rfl (fun K hK => ?_)
   go_simp
   exact hK _ _ ⟨p9,fun _ _ => rfl,rfl,(hM.val rfl)⟩
  ·cases ho9
   have r52 := hD.on 10 52 _ rfl (getD_true (hd9 ⟨10,.guard⟩ (by simp) rfl))
   have r9 := hD.old 9 _ rfl rfl
   clear hD hd9 hi9
   refine wpOp_step rfl (fun K hK => ?_)
   go_simp
   exact hK _ _ ⟨p9,fun _ _ => rfl,rfl,(hM.val rfl)⟩
  ·cases ho9
   have r52 := hD.on 10 52 _ rfl (getD_true (hd9 ⟨10,.guard⟩ (by simp) rfl))
   have r53 := hD.on 11 53 _ rfl (getD_true (hd9 ⟨11,.data⟩ (by simp) rfl))
   clear hD hd9 hi9
   refine wpOp_step rfl (fun K hK => ?_)
   go_simp
   exact hK _ _ ⟨p9,fun _ _ => rfl,act_eq (by rfl),(hM.val rfl)⟩
  ·cases ho9
   have r52 := hD.on 10 52 _ rfl (getD_true (hd9 ⟨10,.data⟩ (by simp) rfl))
   have r54 := hD.on 12 54 _ rfl (getD_true (hd9 ⟨12,.data⟩ (by simp) rfl))
   clear hD hd9 hi9
   refine wpOp_step rfl (fun K hK => ?_)
   go_simp
   exact hK _ _ ⟨p9,fun _ _ => rfl,rfl,(hM.val rfl)⟩
  ·cases ho9
   have r55 := hD.on 13 55 _ rfl (getD_true (hd9 ⟨13,.data⟩ (by simp) rfl))
   clear hD hd9 hi9
   refine wpOp_step rfl (fun K hK => ?_)
   go_simp
   exact hK _ _ ⟨p9,fun _ _ => rfl,rfl,(hM.val rfl)⟩
  ·cases ho9
   have r56 := hD.on 14 56 _ rfl (getD_true (hd9 ⟨14,.guard⟩ (by simp) rfl))
   have r11 := hD.old 11 _ rfl rfl
   clear hD hd9 hi9
   refine wpOp_step rfl (fun K hK => ?_)
   go_simp
   exact hK _ _ ⟨p9,fun _ _ => rfl,rfl,(hM.val rfl)⟩
  ·cases ho9
   have r56 := hD.on 14 56 _ rfl (getD_true (hd9 ⟨14,.guard⟩ (by simp) rfl))
   have r57 := hD.on 15 57 _ rfl (getD_true (hd9 ⟨15,.data⟩ (by simp) rfl))
   clear hD hd9 hi9
   refine wpOp_step rfl (fun K hK => ?_)
   go_simp
   exact hK _ _ ⟨p9,fun _ _ => rfl,act_eq (by rfl),(hM.val rfl)⟩
  ·cases ho9
   have r56 := hD.on 14 56 _ rfl (getD_true (hd9 ⟨14,.data⟩ (by simp) rfl))
   have r58 := hD.on 16 58 _ rfl (getD_true (hd9 ⟨16,.data⟩ (by simp) rfl))
   clear hD hd9 hi9
   refine wpOp_step rfl (fun K hK => ?_)
   go_simp
   exact hK _ _ ⟨p9,fun _ _ => rfl,rfl,(hM.val rfl)⟩
  ·cases ho9
   have r59 := hD.on 17 59 _ rfl (getD_true (hd9 ⟨17,.data⟩ (by simp) rfl))
   clear hD hd9 hi9
   refine wpOp_step rfl (fun K hK => ?_)
   go_simp
   exact hK _ _ ⟨p9,fun _ _ => rfl,rfl,(hM.val rfl)⟩
  ·cases ho9
   have r60 := hD.on 18 60 _ rfl (getD_true (hd9 ⟨18,.guard⟩ (by simp) rfl))
   have r1 := hD.old 1 _ rfl rfl
   have hM0 := hM.st
   have c9_0 := hM0.cellAt (b := w2.heap.size) (cs := #[.bool false,.slice A1 N1 C1,.int .i64 (-1)]) (t := 26) (by simp) 0 _ rfl
   have c9_1 := hM0.cellAt (b := w2.heap.size) (cs := #[.bool false,.slice A1 N1 C1,.int .i64 (-1)]) (t := 26) (by simp) 1 _ rfl
   have c9_2 := hM0.cellAt (b := w2.heap.size) (cs := #[.bool false,.slice A1 N1 C1,.int .i64 (-1)]) (t := 26) (by simp) 2 _ rfl
   clear hM0
   clear hD hd9 hi9
   refine wpOp_step rfl (fun K hK => ?_)
   go_simp
   exact hK _ _ ⟨p9,fun _ _ => rfl,rfl,(hM.val rfl)⟩
  ·cases ho9
   have r60 := hD.on 18 60 _ rfl (getD_true (hd9 ⟨18,.chain⟩ (by simp) rfl))
   have ga0 := hM.fx _ (List.mem_of_getElem? (i := 3) rfl) (Or.inr (by rw [hD.len]; simp))
   simp only [] at ga0
   have ga1 := hM.fx _ (List.mem_of_getElem? (i := 4) rfl) (Or.inr (by rw [hD.len]; simp))
   simp only [] at ga1
   have ga2 := hM.fx _ (List.mem_of_getElem? (i := 5) rfl) (Or.inr (by rw [hD.len]; simp))
   simp only [] at ga2
   have HD := hide hD
   clear hD hd9 hi9
   refine wpOp_step rfl (fun K hK => ?_)
   go_simp
   go_wp2_with fail
   refine (whole_any false 3 (-1) (by decide) _).mono ?_
   rintro en w9 ⟨⟨a9,n9,c9,rfl,h9⟩,hb9⟩
   refine hK _ _ ⟨p9.set 20 ⟨a9,n9,c9⟩,?_,rfl,((hM.kept hs9 hb9).pick ⟨a9,n9,c9⟩ ?_)⟩
   ·intro k9 hk9
    clear hM hK
    match k9,hk9 with
    | 0,_ => rfl
    | 1,_ => rfl
    | 2,_ => rfl
    | 3,_ => rfl
    | 4,_ => rfl
    | 5,_ => rfl
    | 6,_ => rfl
    | 7,_ => rfl
    | 8,_ => rfl
    | 9,_ => rfl
    | 10,_ => rfl
    | 11,_ => rfl
    | 12,_ => rfl
    | 13,_ => rfl
    | 14,_ => rfl
    | 15,_ => rfl
    | 16,_ => rfl
    | 17,_ => rfl
    | 18,_ => rfl
    | 19,_ => rfl
    | 20,hk9 => exact absurd (hl9.symm.trans hk9) (by simp)
    | 21,hk9 => exact absurd (hl9.symm.trans (getD_true ((unhide HD).shut 21 _ (hk9) rfl ⟨20,.data⟩ (by simp) rfl))) (by simp)
    | 22,hk9 => exact absurd (hl9.symm.trans (getD_true ((unhide HD).shut 21 _ (getD_true ((unhide HD).shut 22 _ (hk9) rfl ⟨21,.data⟩ (by simp) rfl)) rfl ⟨20,.data⟩ (by simp) rfl))) (by simp)
    | 23,hk9 => exact absurd (hl9.symm.trans (getD_true ((unhide HD).shut 21 _ (getD_true ((unhide HD).shut 23 _ (hk9) rfl ⟨21,.chain⟩ (by simp) rfl)) rfl ⟨20,.data⟩ (by simp) rfl))) (by simp)
    | 24,hk9 => exact absurd (hl9.symm.trans (getD_true ((unhide HD).shut 21 _ (getD_true ((unhide HD).shut 23 _ (getD_true ((unhide HD).shut 24 _ (hk9) rfl ⟨23,.guard⟩ (by simp) rfl)) rfl ⟨21,.chain⟩ (by simp) rfl)) rfl ⟨20,.data⟩ (by simp) rfl))) (by simp)
    | 25,hk9 => exact absurd (hl9.symm.trans (getD_true ((unhide HD).shut 21 _ (getD_true ((unhide HD).shut 23 _ (getD_true ((unhide HD).shut 25 _ (hk9) rfl ⟨23,.guard⟩ (by simp) rfl)) rfl ⟨21,.chain⟩ (by simp) rfl)) rfl ⟨20,.data⟩ (by simp) rfl))) (by simp)
    | 26,hk9 => exact absurd (hl9.symm.trans (getD_true ((unhide HD).shut 21 _ (getD_true ((unhide HD).shut 23 _ (getD_true ((unhide HD).shut 26 _ (hk9) rfl ⟨23,.data⟩ (by simp) rfl)) rfl ⟨21,.chain⟩ (by simp) rfl)) rfl ⟨20,.data⟩ (by simp) rfl))) (by simp)
    | 27,hk9 => exact absurd (hl9.symm.trans (getD_true ((unhide HD).shut 21 _ (getD_true ((unhide HD).shut 23 _ (getD_true ((unhide HD).shut 27 _ (hk9) rfl ⟨23,.chain⟩ (by simp) rfl)) rfl ⟨21,.chain⟩ (by simp) rfl)) rfl ⟨20,.data⟩ (by simp) rfl))) (by simp)
    | 28,hk9 => exact absurd (hl9.symm.trans (getD_true ((unhide HD).shut 21 _ (getD_true ((unhide HD).shut 23 _ (getD_true ((unhide HD).shut 27 _ (getD_true ((unhide HD).shut 28 _ (hk9) rfl ⟨27,.guard⟩ (by simp) rfl)) rfl ⟨23,.chain⟩ (by simp) rfl)) rfl ⟨21,.chain⟩ (by simp) rfl)) rfl ⟨20,.data⟩ (by simp) rfl))) (by simp)
    | 29,hk9 => exact absurd (hl9.symm.trans (getD_true ((unhide HD).shut 21 _ (getD_true ((unhide HD).shut 23 _ (getD_true ((unhide HD).shut 27 _ (getD_true ((unhide HD).shut 29 _ (hk9) rfl ⟨27,.data⟩ (by simp) rfl)) rfl ⟨23,.chain⟩ (by simp) rfl)) rfl ⟨21,.chain⟩ (by simp) rfl)) rfl ⟨20,.data⟩ (by simp) rfl))) (by simp)
    | 30,hk9 => exact absurd (hl9.symm.trans (getD_true ((unhide HD).shut 21 _ (getD_true ((unhide HD).shut 23 _ (getD_true ((unhide HD).shut 27 _ (getD_true ((unhide HD).shut 30 _ (hk9) rfl ⟨27,.chain⟩ (by simp) rfl)) rfl ⟨23,.chain⟩ (by simp) rfl)) rfl ⟨21,.chain⟩ (by simp) rfl)) rfl ⟨20,.data⟩ (by simp) rfl))) (by simp)
    | 31,hk9 => exact absurd (hl9.symm.trans (getD_true ((unhide HD).shut 21 _ (getD_true ((unhide HD).shut 23 _ (getD_true ((unhide HD).shut 27 _ (getD_true ((unhide HD).shut 30 _ (getD_true ((unhide HD).shut 31 _ (hk9) rfl ⟨30,.guard⟩ (by simp) rfl)) rfl ⟨27,.chain⟩ (by simp) rfl)) rfl ⟨23,.chain⟩ (by simp) rfl)) rfl ⟨21,.chain⟩ (by simp) rfl)) rfl ⟨20,.data⟩ (by simp) rfl))) (by simp)
    | 32,hk9 => exact absurd (hl9.symm.trans (getD_true ((unhide HD).shut 21 _ (getD_true ((unhide HD).shut 23 _ (getD_true ((unhide HD).shut 27 _ (getD_true ((unhide HD).shut 30 _ (getD_true ((unhide HD).shut 32 _ (hk9) rfl ⟨30,.chain⟩ (by simp) rfl)) rfl ⟨27,.chain⟩ (by simp) rfl)) rfl ⟨23,.chain⟩ (by simp) rfl)) rfl ⟨21,.chain⟩ (by simp) rfl)) rfl ⟨20,.data⟩ (by simp) rfl))) (by simp)
    | 33,hk9 => exact absurd (hl9.symm.trans (getD_true ((unhide HD).shut 21 _ (getD_true ((unhide HD).shut 23 _ (getD_true ((unhide HD).shut 27 _ (getD_true ((unhide HD).shut 30 _ (getD_true ((unhide HD).shut 33 _ (hk9) rfl ⟨30,.guard⟩ (by simp) rfl)) rfl ⟨27,.chain⟩ (by simp) rfl)) rfl ⟨23,.chain⟩ (by simp) rfl)) rfl ⟨21,.chain⟩ (by simp) rfl)) rfl ⟨20,.data⟩ (by simp) rfl))) (by simp)
    | 34,hk9 => exact absurd (hl9.symm.trans (getD_true ((unhide HD).shut 21 _ (getD_true ((unhide HD).shut 23 _ (getD_true ((unhide HD).shut 27 _ (getD_true ((unhide HD).shut 30 _ (getD_true ((unhide HD).shut 34 _ (hk9) rfl ⟨30,.data⟩ (by simp) rfl)) rfl ⟨27,.chain⟩ (by simp) rfl)) rfl ⟨23,.chain⟩ (by simp) rfl)) rfl ⟨21,.chain⟩ (by simp) rfl)) rfl ⟨20,.data⟩ (by simp) rfl))) (by simp)
    | 35,hk9 => exact absurd (hl9.symm.trans (getD_true ((unhide HD).shut 21 _ (getD_true ((unhide HD).shut 23 _ (getD_true ((unhide HD).shut 27 _ (getD_true ((unhide HD).shut 30 _ (getD_true ((unhide HD).shut 34 _ (getD_true ((unhide HD).shut 35 _ (hk9) rfl ⟨34,.data⟩ (by simp) rfl)) rfl ⟨30,.data⟩ (by simp) rfl)) rfl ⟨27,.chain⟩ (by simp) rfl)) rfl ⟨23,.chain⟩ (by simp) rfl)) rfl ⟨21,.chain⟩ (by simp) rfl)) rfl ⟨20,.data⟩ (by simp) rfl))) (by simp)
    | 36,hk9 => exact absurd (hl9.symm.trans (getD_true ((unhide HD).shut 21 _ (getD_true ((unhide HD).shut 23 _ (getD_true ((unhide HD).shut 27 _ (getD_true ((unhide HD).shut 30 _ (getD_true ((unhide HD).shut 34 _ (getD_true ((unhide HD).shut 35 _ (getD_true ((unhide HD).shut 36 _ (hk9) rfl ⟨35,.guard⟩ (by simp) rfl)) rfl ⟨34,.data⟩ (by simp) rfl)) rfl ⟨30,.data⟩ (by simp) rfl)) rfl ⟨27,.chain⟩ (by simp) rfl)) rfl ⟨23,.chain⟩ (by simp) rfl)) rfl ⟨21,.chain⟩ (by simp) rfl)) rfl ⟨20,.data⟩ (by simp) rfl))) (by simp)
    | 37,hk9 => exact absurd (hl9.symm.trans (getD_true ((unhide HD).shut 21 _ (getD_true ((unhide HD).shut 23 _ (getD_true ((unhide HD).shut 27 _ (getD_true ((unhide HD).shut 30 _ (getD_true ((unhide HD).shut 34 _ (getD_true ((unhide HD).shut 35 _ (getD_true ((unhide HD).shut 37 _ (hk9) rfl ⟨35,.chain⟩ (by simp) rfl)) rfl ⟨34,.data⟩ (by simp) rfl)) rfl ⟨30,.data⟩ (by simp) rfl)) rfl ⟨27,.chain⟩ (by simp) rfl)) rfl ⟨23,.chain⟩ (by simp) rfl)) rfl ⟨21,.chain⟩ (by simp) rfl)) rfl ⟨20,.data⟩ (by simp) rfl))) (by simp)
    | 38,hk9 => exact absurd (hl9.symm.trans (getD_true ((unhide HD).shut 21 _ (getD_true ((unhide HD).shut 23 _ (getD_true ((unhide HD).shut 27 _ (getD_true ((unhide HD).shut 30 _ (getD_true ((unhide HD).shut 34 _ (getD_true ((unhide HD).shut 35 _ (getD_true ((unhide HD).shut 38 _ (hk9) rfl ⟨35,.guard⟩ (by simp) rfl)) rfl ⟨34,.data⟩ (by simp) rfl)) rfl ⟨30,.data⟩ (by simp) rfl)) rfl ⟨27,.chain⟩ (by simp) rfl)) rfl ⟨23,.chain⟩ (by simp) rfl)) rfl ⟨21,.chain⟩ (by simp) rfl)) rfl ⟨20,.data⟩ (by simp) rfl))) (by simp)
    | 39,hk9 => exact absurd (hl9.symm.trans (getD_true ((unhide HD).shut 21 _ (getD_true ((unhide HD).shut 23 _ (getD_true ((unhide HD).shut 27 _ (getD_true ((unhide HD).shut 30 _ (getD_true ((unhide HD).shut 34 _ (getD_true ((unhide HD).shut 35 _ (getD_true ((unhide HD).shut 39 _ (hk9) rfl ⟨35,.data⟩ (by simp) rfl)) rfl ⟨34,.data⟩ (by simp) rfl)) rfl ⟨30,.data⟩ (by simp) rfl)) rfl ⟨27,.chain⟩ (by simp) rfl)) rfl ⟨23,.chain⟩ (by simp) rfl)) rfl ⟨21,.chain⟩ (by simp) rfl)) rfl ⟨20,.data⟩ (by simp) rfl))) (by simp)
    | 40,hk9 => exact absurd (hl9.symm.trans (getD_true ((unhide HD).shut 21 _ (getD_true ((unhide HD).shut 23 _ (getD_true ((unhide HD).shut 27 _ (getD_true ((unhide HD).shut 30 _ (getD_true ((unhide HD).shut 34 _ (getD_true ((unhide HD).shut 35 _ (getD_true ((unhide HD).shut 39 _ (getD_true ((unhide HD).shut 40 _ (hk9) rfl ⟨39,.data⟩ (by simp) rfl)) rfl ⟨35,.data⟩ (by simp) rfl)) rfl ⟨34,.data⟩ (by simp) rfl)) rfl ⟨30,.data⟩ (by simp) rfl)) rfl ⟨27,.chain⟩ (by simp) rfl)) rfl ⟨23,.chain⟩ (by simp) rfl)) rfl ⟨21,.chain⟩ (by simp) rfl)) rfl ⟨20,.data⟩ (by simp) rfl))) (by simp)
    | 41,hk9 => exact absurd (hl9.symm.trans (getD_true ((unhide HD).shut 21 _ (getD_true ((unhide HD).shut 23 _ (getD_true ((unhide HD).shut 27 _ (getD_true ((unhide HD).shut 30 _ (getD_true ((unhide HD).shut 34 _ (getD_true ((unhide HD).shut 35 _ (getD_true ((unhide HD).shut 39 _ (getD_true ((unhide HD).shut 40 _ (getD_true ((unhide HD).shut 41 _ (hk9) rfl ⟨40,.guard⟩ (by simp) rfl)) rfl ⟨39,.data⟩ (by simp) rfl)) rfl ⟨35,.data⟩ (by simp) rfl)) rfl ⟨34,.data⟩ (by simp) rfl)) rfl ⟨30,.data⟩ (by simp) rfl)) rfl ⟨27,.chain⟩ (by simp) rfl)) rfl ⟨23,.chain⟩ (by simp) rfl)) rfl ⟨21,.chain⟩ (by simp) rfl)) rfl ⟨20,.data⟩ (by simp) rfl))) (by simp)
    | 42,hk9 => exact absurd (hl9.symm.trans (getD_true ((unhide HD).shut 21 _ (getD_true ((unhide HD).shut 23 _ (getD_true ((unhide HD).shut 27 _ (getD_true ((unhide HD).shut 30 _ (getD_true ((unhide HD).shut 34 _ (getD_true ((unhide HD).shut 35 _ (getD_true ((unhide HD).shut 39 _ (getD_true ((unhide HD).shut 40 _ (getD_true ((unhide HD).shut 42 _ (hk9) rfl ⟨40,.guard⟩ (by simp) rfl)) rfl ⟨39,.data⟩ (by simp) rfl)) rfl ⟨35,.data⟩ (by simp) rfl)) rfl ⟨34,.data⟩ (by simp) rfl)) rfl ⟨30,.data⟩ (by simp) rfl)) rfl ⟨27,.chain⟩ (by simp) rfl)) rfl ⟨23,.chain⟩ (by simp) rfl)) rfl ⟨21,.chain⟩ (by simp) rfl)) rfl ⟨20,.data⟩ (by simp) rfl))) (by simp)
    | 43,hk9 => exact absurd (hl9.symm.trans (getD_true ((unhide HD).shut 21 _ (getD_true ((unhide HD).shut 23 _ (getD_true ((unhide HD).shut 27 _ (getD_true ((unhide HD).shut 30 _ (getD_true ((unhide HD).shut 34 _ (getD_true ((unhide HD).shut 35 _ (getD_true ((unhide HD).shut 39 _ (getD_true ((unhide HD).shut 40 _ (getD_true ((unhide HD).shut 43 _ (hk9) rfl ⟨40,.data⟩ (by simp) rfl)) rfl ⟨39,.data⟩ (by simp) rfl)) rfl ⟨35,.data⟩ (by simp) rfl)) rfl ⟨34,.data⟩ (by simp) rfl)) rfl ⟨30,.data⟩ (by simp) rfl)) rfl ⟨27,.chain⟩ (by simp) rfl)) rfl ⟨23,.chain⟩ (by simp) rfl)) rfl ⟨21,.chain⟩ (by simp) rfl)) rfl ⟨20,.data⟩ (by simp) rfl))) (by simp)
    | 44,hk9 => exact absurd (hl9.symm.trans (getD_true ((unhide HD).shut 44 _ (hk9) rfl ⟨20,.phase⟩ (by simp) rfl))) (by simp)
    | k9 + 45,_ => rfl
   ·intro x hx he; simp only [List.mem_cons,List.not_mem_nil,or_false] at hx; rcases hx with rfl | rfl | rfl | rfl | rfl | rfl
    ·exact h9.mono hM.bw
    ·exact absurd he (by simp)
    ·exact absurd he (by simp)
    ·exact absurd he (by simp)
    ·exact absurd he (by simp)
    ·exact absurd he (by simp)
  ·cases ho9
   have r60 := hD.on 18 60 _ rfl (getD_true (hd9 ⟨18,.guard⟩ (by simp) rfl))
   have r61 := hD.on 19 61 _ rfl (getD_true (hd9 ⟨19,.data⟩ (by simp) rfl))
   have r62 := hD.on 20 62 _ rfl (getD_true (hd9 ⟨20,.data⟩ (by simp) rfl))
   have ga0 := hM.fx _ (List.mem_of_getElem? (i := 3) rfl) (Or.inr (by rw [hD.len]; simp))
   simp only [] at ga0
   have ga1 := hM.fx _ (List.mem_of_getElem? (i := 4) rfl) (Or.inr (by rw [hD.len]; simp))
   simp only [] at ga1
   have ga2 := hM.fx _ (List.mem_of_getElem? (i := 5) rfl) (Or.inr (by rw [hD.len]; simp))
   simp only [] at ga2
   have g20 := hM.fx _ (List.mem_of_getElem? (i := 0) rfl) (Or.inl (getD_true (hd9 ⟨20,.data⟩ (by simp) rfl)))
   simp only [] at g20
   clear hD hd9 hi9
   refine wpOp_step rfl (fun K hK => ?_)
   go_simp
   go_wp2_with fail
   refine (dsame_any false A1 N1 C1 3 (p9 20).A (p9 20).N (p9 20).C (-1) _ ga0.num g20.num).mono ?_
   rintro en w9 ⟨rfl,hb9⟩
   exact hK _ _ ⟨p9,fun _ _ => rfl,rfl,((hM.kept hs9 hb9).val rfl)⟩
  ·cases ho9
   have r60 := hD.on 18 60 _ rfl (getD_true (hd9 ⟨18,.data⟩ (by simp) rfl))
   have r63 := hD.on 21 63 _ rfl (getD_true (hd9 ⟨21,.data⟩ (by simp) rfl))
   clear hD hd9 hi9
   refine wpOp_step rfl (fun K hK => ?_)
   go_simp
   exact hK _ _ ⟨p9,fun _ _ => rfl,rfl,(hM.val rfl)⟩
  ·cases ho9
   have r64 := hD.on 22 64 _ rfl (getD_true (hd9 ⟨22,.data⟩ (by simp) rfl))
   clear hD hd9 hi9
   refine wpOp_step rfl (fun K hK => ?_)
   go_simp
   exact hK _ _ ⟨p9,fun _ _ => rfl,rfl,(hM.val rfl)⟩
  ·cases ho9
   have r65 := hD.on 23 65 _ rfl (getD_true (hd9 ⟨23,.guard⟩ (by simp) rfl))
   have r3 := hD.old 3 _ rfl rfl
   clear hD hd9 hi9
   refine wpOp_step rfl (fun K hK => ?_)
   go_simp
   exact hK _ _ ⟨p9,fun _ _ => rfl,rfl,(hM.val rfl)⟩
  ·cases ho9
   have r65 := hD.on 23 65 _ rfl (getD_true (hd9 ⟨23,.guard⟩ (by simp) rfl))
   have r66 := hD.on 24 66 _ rfl (getD_true (hd9 ⟨24,.data⟩ (by simp) rfl))
   clear hD hd9 hi9
   refine wpOp_step rfl (fun K hK => ?_)
   go_simp
   exact hK _ _ ⟨p9,fun _ _ => rfl,act_eq (by rfl),(hM.val rfl)⟩
  ·cases ho9
   have r65 := hD.on 23 65 _ rfl (getD_true (hd9 ⟨23,.data⟩ (by simp) rfl))
   have r67 := hD.on 25 67 _ rfl (getD_true (hd9 ⟨25,.data⟩ (by simp) rfl))
   clear hD hd9 hi9
   refine wpOp_step rfl (fun K hK => ?_)
   go_simp
   exact hK _ _ ⟨p9,fun _ _ => rfl,rfl,(hM.val rfl)⟩
  ·cases ho9
   have r68 := hD.on 26 68 _ rfl (getD_true (hd9 ⟨26,.data⟩ (by simp) rfl))
   clear hD hd9 hi9
   refine wpOp_step rfl (fun K hK => ?_)
   go_simp
   exact hK _ _ ⟨p9,fun _ _ => rfl,rfl,(hM.val rfl)⟩
  ·cases ho9
   have r69 := hD.on 27 69 _ rfl (getD_true (hd9 ⟨27,.guard⟩ (by simp) rfl))
   have r4 := hD.old 4 _ rfl rfl
   clear hD hd9 hi9
   refine wpOp_step rfl (fun K hK => ?_)
   go_simp
   exact hK _ _ ⟨p9,fun _ _ => rfl,rfl,(hM.val rfl)⟩
  ·cases ho9
   have r69 := hD.on 27 69 _ rfl (getD_true (hd9 ⟨27,.data⟩ (by simp) rfl))
   have r70 := hD.on 28 70 _ rfl (getD_true (hd9 ⟨28,.data⟩ (by simp) rfl))
   clear hD hd9 hi9
   refine wpOp_step rfl (fun K hK => ?_)
   go_simp
   exact hK _ _ ⟨p9,fun _ _ => rfl,rfl,(hM.val rfl)⟩
  ·cases ho9
   have r71 := hD.on 29 71 _ rfl (getD_true (hd9 ⟨29,.data⟩ (by simp) rfl))
   clear hD hd9 hi9
   refine wpOp_step rfl (fun K hK => ?_)
   go_simp
   exact hK _ _ ⟨p9,fun _ _ => rfl,rfl,(hM.val rfl)⟩
  ·cases ho9
   have r72 := hD.on 30 72 _ rfl (getD_true (hd9 ⟨30,.guard⟩ (by simp) rfl))
   have r6 := hD.old 6 _ rfl rfl
   have hM0 := hM.st
   have c9_0 := hM0.cellAt (b := w8.heap.size) (cs := #[.bool false,.slice A5 N5 C5,.int .i64 0]) (t := 26) (by simp) 0 _ rfl
   have c9_1 := hM0.cellAt (b := w8.heap.size) (cs := #[.bool false,.slice A5 N5 C5,.int .i64 0]) (t := 26) (by simp) 1 _ rfl
   have c9_2 := hM0.cellAt (b := w8.heap.size) (cs := #[.bool false,.slice A5 N5 C5,.int .i64 0]) (t := 26) (by simp) 2 _ rfl
   clear hM0
   clear hD hd9 hi9
   refine wpOp_step rfl (fun K hK => ?_)
   go_simp
   exact hK _ _ ⟨p9,fun _ _ => rfl,rfl,(hM.val rfl)⟩
  ·cases ho9
   have r72 := hD.on 30 72 _ rfl (getD_true (hd9 ⟨30,.chain⟩ (by simp) rfl))
   have ga0 := hM.fx _ (List.mem_of_getElem? (i := 3) rfl) (Or.inr (by rw [hD.len]; simp))
   simp only [] at ga0
   have ga1 := hM.fx _ (List.mem_of_getElem? (i := 4) rfl) (Or.inr (by rw [hD.len]; simp))
   simp only [] at ga1
   have ga2 := hM.fx _ (List.mem_of_getElem? (i := 5) rfl) (Or.inr (by rw [hD.len]; simp))
   simp only [] at ga2
   have g20 := hM.fx _ (List.mem_of_getElem? (i := 0) rfl) (Or.inl (getD_true (hD.shut 21 _ (getD_true (hD.shut 22 _ (getD_true (hD.shut 23 _ (getD_true (hD.shut 26 _ (getD_true (hD.shut 27 _ (getD_true (hD.shut 29 _ (getD_true (hD.shut 30 _ (getD_true (hd9 ⟨30,.chain⟩ (by simp) rfl)) rfl ⟨29,.data⟩ (by simp) rfl)) rfl ⟨27,.data⟩ (by simp) rfl)) rfl ⟨26,.data⟩ (by simp) rfl)) rfl ⟨23,.data⟩ (by simp) rfl)) rfl ⟨22,.data⟩ (by simp) rfl)) rfl ⟨21,.data⟩ (by simp) rfl)) rfl ⟨20,.data⟩ (by simp) rfl)))
   simp only [] at g20
   have HD := hide hD
   clear hD hd9 hi9
   refine wpOp_step rfl (fun K hK => ?_)
   go_simp
   go_wp2_with fail
   refine (whole_any false 9 0 (by decide) _).mono ?_
   rintro en w9 ⟨⟨a9,n9,c9,rfl,h9⟩,hb9⟩
   refine hK _ _ ⟨p9.set 32 ⟨a9,n9,c9⟩,?_,rfl,((hM.kept hs9 hb9).pick ⟨a9,n9,c9⟩ ?_)⟩
   ·intro k9 hk9
    clear hM hK
    match k9,hk9 with
    | 0,_ => rfl
    | 1,_ => rfl
    | 2,_ => rfl
    | 3,_ => rfl
    | 4,_ => rfl
    | 5,_ => rfl
    | 6,_ => rfl
    | 7,_ => rfl
    | 8,_ => rfl
    | 9,_ => rfl
    | 10,_ => rfl
    | 11,_ => rfl
    | 12,_ => rfl
    | 13,_ => rfl
    | 14,_ => rfl
    | 15,_ => rfl
    | 16,_ => rfl
    | 17,_ => rfl
    | 18,_ => rfl
    | 19,_ => rfl
    | 20,_ => rfl
    | 21,_ => rfl
    | 22,_ => rfl
    | 23,_ => rfl
    | 24,_ => rfl
    | 25,_ => rfl
    | 26,_ => rfl
    | 27,_ => rfl
    | 28,_ => rfl
    | 29,_ => rfl
    | 30,_ => rfl
    | 31,_ => rfl
    | 32,hk9 => exact absurd (hl9.symm.trans hk9) (by simp)
    | 33,hk9 => exact absurd (hl9.symm.trans (getD_true ((unhide HD).shut 33 _ (hk9) rfl ⟨32,.data⟩ (by simp) rfl))) (by simp)
    | 34,hk9 => exact absurd (hl9.symm.trans (getD_true ((unhide HD).shut 33 _ (getD_true ((unhide HD).shut 34 _ (hk9) rfl ⟨33,.data⟩ (by simp) rfl)) rfl ⟨32,.data⟩ (by simp) rfl))) (by simp)
    | 35,hk9 => exact absurd (hl9.symm.trans (getD_true ((unhide HD).shut 33 _ (getD_true ((unhide HD).shut 35 _ (hk9) rfl ⟨33,.chain⟩ (by simp) rfl)) rfl ⟨32,.data⟩ (by simp) rfl))) (by simp)
    | 36,hk9 => exact absurd (hl9.symm.trans (getD_true ((unhide HD).shut 33 _ (getD_true ((unhide HD).shut 35 _ (getD_true ((unhide HD).shut 36 _ (hk9) rfl ⟨35,.guard⟩ (by simp) rfl)) rfl ⟨33,.chain⟩ (by simp) rfl)) rfl ⟨32,.data⟩ (by simp) rfl))) (by simp)
    | 37,hk9 => exact absurd (hl9.symm.trans (getD_true ((unhide HD).shut 33 _ (getD_true ((unhide HD).shut 35 _ (getD_true ((unhide HD).shut 37 _ (hk9) rfl ⟨35,.chain⟩ (by simp) rfl)) rfl ⟨33,.chain⟩ (by simp) rfl)) rfl ⟨32,.data⟩ (by simp) rfl))) (by simp)
    | 38,hk9 => exact absurd (hl9.symm.trans (getD_true ((unhide HD).shut 33 _ (getD_true ((unhide HD).shut 35 _ (getD_true ((unhide HD).shut 38 _ (hk9) rfl ⟨35,.guard⟩ (by simp) rfl)) rfl ⟨33,.chain⟩ (by simp) rfl)) rfl ⟨32,.data⟩ (by simp) rfl))) (by simp)
    | 39,hk9 => exact absurd (hl9.symm.trans (getD_true ((unhide HD).shut 33 _ (getD_true ((unhide HD).shut 35 _ (getD_true ((unhide HD).shut 39 _ (hk9) rfl ⟨35,.data⟩ (by simp) rfl)) rfl ⟨33,.chain⟩ (by simp) rfl)) rfl ⟨32,.data⟩ (by simp) rfl))) (by simp)
    | 40,hk9 => exact absurd (hl9.symm.trans (getD_true ((unhide HD).shut 33 _ (getD_true ((unhide HD).shut 35 _ (getD_true ((unhide HD).shut 39 _ (getD_true ((unhide HD).shut 40 _ (hk9) rfl ⟨39,.data⟩ (by simp) rfl)) rfl ⟨35,.data⟩ (by simp) rfl)) rfl ⟨33,.chain⟩ (by simp) rfl)) rfl ⟨32,.data⟩ (by simp) rfl))) (by simp)
    | 41,hk9 => exact absurd (hl9.symm.trans (getD_true ((unhide HD).shut 33 _ (getD_true ((unhide HD).shut 35 _ (getD_true ((unhide HD).shut 39 _ (getD_true ((unhide HD).shut 40 _ (getD_true ((unhide HD).shut 41 _ (hk9) rfl ⟨40,.guard⟩ (by simp) rfl)) rfl ⟨39,.data⟩ (by simp) rfl)) rfl ⟨35,.data⟩ (by simp) rfl)) rfl ⟨33,.chain⟩ (by simp) rfl)) rfl ⟨32,.data⟩ (by simp) rfl))) (by simp)
    | 42,hk9 => exact absurd (hl9.symm.trans (getD_true ((unhide HD).shut 33 _ (getD_true ((unhide HD).shut 35 _ (getD_true ((unhide HD).shut 39 _ (getD_true ((unhide HD).shut 40 _ (getD_true ((unhide HD).shut 42 _ (hk9) rfl ⟨40,.guard⟩ (by simp) rfl)) rfl ⟨39,.data⟩ (by simp) rfl)) rfl ⟨35,.data⟩ (by simp) rfl)) rfl ⟨33,.chain⟩ (by simp) rfl)) rfl ⟨32,.data⟩ (by simp) rfl))) (by simp)
    | 43,hk9 => exact absurd (hl9.symm.trans (getD_true ((unhide HD).shut 33 _ (getD_true ((unhide HD).shut 35 _ (getD_true ((unhide HD).shut 39 _ (getD_true ((unhide HD).shut 40 _ (getD_true ((unhide HD).shut 43 _ (hk9) rfl ⟨40,.data⟩ (by simp) rfl)) rfl ⟨39,.data⟩ (by simp) rfl)) rfl ⟨35,.data⟩ (by simp) rfl)) rfl ⟨33,.chain⟩ (by simp) rfl)) rfl ⟨32,.data⟩ (by simp) rfl))) (by simp)
    | 44,hk9 => exact absurd (hl9.symm.trans (getD_true ((unhide HD).shut 44 _ (hk9) rfl ⟨32,.phase⟩ (by simp) rfl))) (by simp)
    | k9 + 45,_ => rfl
   ·intro x hx he; simp only [List.mem_cons,List.not_mem_nil,or_false] at hx; rcases hx with rfl | rfl | rfl | rfl | rfl | rfl
    ·exact absurd he (by simp)
    ·exact h9.mono hM.bw
    ·exact absurd he (by simp)
    ·exact absurd he (by simp)
    ·exact absurd he (by simp)
    ·exact absurd he (by simp)
  ·cases ho9
   have r72 := hD.on 30 72 _ rfl (getD_true (hd9 ⟨30,.guard⟩ (by simp) rfl))
   have r73 := hD.on 31 73 _ rfl (getD_true (hd9 ⟨31,.data⟩ (by simp) rfl))
   have r74 := hD.on 32 74 _ rfl (getD_true (hd9 ⟨32,.data⟩ (by simp) rfl))
   have ga0 := hM.fx _ (List.mem_of_getElem? (i := 3) rfl) (Or.inr (by rw [hD.len]; simp))
   simp only [] at ga0
   have ga1 := hM.fx _ (List.mem_of_getElem? (i := 4) rfl) (Or.inr (by rw [hD.len]; simp))
   simp only [] at ga1
   have ga2 := hM.fx _ (List.mem_of_getElem? (i := 5) rfl) (Or.inr (by rw [hD.len]; simp))
   simp only [] at ga2
   have g20 := hM.fx _ (List.mem_of_getElem? (i := 0) rfl) (Or.inl (getD_true (hD.shut 21 _ (getD_true (hD.shut 22 _ (getD_true (hD.shut 23 _ (getD_true (hD.shut 26 _ (getD_true (hD.shut 27 _ (getD_true (hD.shut 29 _ (getD_true (hD.shut 30 _ (getD_true (hD.shut 31 _ (getD_true (hd9 ⟨31,.data⟩ (by simp) rfl)) rfl ⟨30,.guard⟩ (by simp) rfl)) rfl ⟨29,.data⟩ (by simp) rfl)) rfl ⟨27,.data⟩ (by simp) rfl)) rfl ⟨26,.data⟩ (by simp) rfl)) rfl ⟨23,.data⟩ (by simp) rfl)) rfl ⟨22,.data⟩ (by simp) rfl)) rfl ⟨21,.data⟩ (by simp) rfl)) rfl ⟨20,.data⟩ (by simp) rfl)))
   simp only [] at g20
   have g32 := hM.fx _ (List.mem_of_getElem? (i := 1) rfl) (Or.inl (getD_true (hd9 ⟨32,.data⟩ (by simp) rfl)))
   simp only [] at g32
   clear hD hd9 hi9
   refine wpOp_step rfl (fun K hK => ?_)
   go_simp
   go_wp2_with fail
   refine (dsame_any false A5 N5 C5 9 (p9 32).A (p9 32).N (p9 32).C 0 _ ga1.num g32.num).mono ?_
   rintro en w9 ⟨rfl,hb9⟩
   exact hK _ _ ⟨p9,fun _ _ => rfl,rfl,((hM.kept hs9 hb9).val rfl)⟩
  ·cases ho9
   have r72 := hD.on 30 72 _ rfl (getD_true (hd9 ⟨30,.data⟩ (by simp) rfl))
   have r75 := hD.on 33 75 _ rfl (getD_true (hd9 ⟨33,.data⟩ (by simp) rfl))
   clear hD hd9 hi9
   refine wpOp_step rfl (fun K hK => ?_)
   go_simp
   exact hK _ _ ⟨p9,fun _ _ => rfl,rfl,(hM.val rfl)⟩
  ·cases ho9
   have r76 := hD.on 34 76 _ rfl (getD_true (hd9 ⟨34,.data⟩ (by simp) rfl))
   clear hD hd9 hi9
   refine wpOp_step rfl (fun K hK => ?_)
   go_simp
   exact hK _ _ ⟨p9,fun _ _ => rfl,rfl,(hM.val rfl)⟩
  ·cases ho9
   have r77 := hD.on 35 77 _ rfl (getD_true (hd9 ⟨35,.guard⟩ (by simp) rfl))
   have r8 := hD.old 8 _ rfl rfl
   have hM0 := hM.st
   have c9_0 := hM0.cellAt (b := w11.heap.size) (cs := #[.bool true,.slice A8 N8 C8,.int .i64 3]) (t := 26) (by simp) 0 _ rfl
   have c9_1 := hM0.cellAt (b := w11.heap.size) (cs := #[.bool true,.slice A8 N8 C8,.int .i64 3]) (t := 26) (by simp) 1 _ rfl
   have c9_2 := hM0.cellAt (b := w11.heap.size) (cs := #[.bool true,.slice A8 N8 C8,.int .i64 3]) (t := 26) (by simp) 2 _ rfl
   clear hM0
   clear hD hd9 hi9
   refine wpOp_step rfl (fun K hK => ?_)
   go_simp
   exact hK _ _ ⟨p9,fun _ _ => rfl,rfl,(hM.val rfl)⟩
  ·cases ho9
   have r77 := hD.on 35 77 _ rfl (getD_true (hd9 ⟨35,.chain⟩ (by simp) rfl))
   have ga0 := hM.fx _ (List.mem_of_getElem? (i := 3) rfl) (Or.inr (by rw [hD.len]; simp))
   simp only [] at ga0
   have ga1 := hM.fx _ (List.mem_of_getElem? (i := 4) rfl) (Or.inr (by rw [hD.len]; simp))
   simp only [] at ga1
   have ga2 := hM.fx _ (List.mem_of_getElem? (i := 5) rfl) (Or.inr (by rw [hD.len]; simp))
   simp only [] at ga2
   have g20 := hM.fx _ (List.mem_of_getElem? (i := 0) rfl) (Or.inl (getD_true (hD.shut 21 _ (getD_true (hD.shut 22 _ (getD_true (hD.shut 23 _ (getD_true (hD.shut 26 _ (getD_true (hD.shut 27 _ (getD_true (hD.shut 29 _ (getD_true (hD.shut 30 _ (getD_true (hD.shut 34 _ (getD_true (hD.shut 35 _ (getD_true (hd9 ⟨35,.chain⟩ (by simp) rfl)) rfl ⟨34,.data⟩ (by simp) rfl)) rfl ⟨30,.data⟩ (by simp) rfl)) rfl ⟨29,.data⟩ (by simp) rfl)) rfl ⟨27,.data⟩ (by simp) rfl)) rfl ⟨26,.data⟩ (by simp) rfl)) rfl ⟨23,.data⟩ (by simp) rfl)) rfl ⟨22,.data⟩ (by simp) rfl)) rfl ⟨21,.data⟩ (by simp) rfl)) rfl ⟨20,.data⟩ (by simp) rfl)))
   simp only [] at g20
   have g32 := hM.fx _ (List.mem_of_getElem? (i := 1) rfl) (Or.inl (getD_true (hD.shut 33 _ (getD_true (hD.shut 34 _ (getD_true (hD.shut 35 _ (getD_true (hd9 ⟨35,.chain⟩ (by simp) rfl)) rfl ⟨34,.data⟩ (by simp) rfl)) rfl ⟨33,.data⟩ (by simp) rfl)) rfl ⟨32,.data⟩ (by simp) rfl)))
   simp only [] at g32
   have HD := hide hD
   clear hD hd9 hi9
   refine wpOp_step rfl (fun K hK => ?_)
   go_simp
   go_wp2_with fail
   refine (whole_any true 15 3 (by decide) _).mono ?_
   rintro en w9 ⟨⟨a9,n9,c9,rfl,h9⟩,hb9⟩
   refine hK _ _ ⟨p9.set 37 ⟨a9,n9,c9⟩,?_,rfl,((hM.kept hs9 hb9).pick ⟨a9,n9,c9⟩ ?_)⟩
   ·intro k9 hk9
    clear hM hK
    match k9,hk9 with
    | 0,_ => rfl
    | 1,_ => rfl
    | 2,_ => rfl
    | 3,_ => rfl
    | 4,_ => rfl
    | 5,_ => rfl
    | 6,_ => rfl
    | 7,_ => rfl
    | 8,_ => rfl
    | 9,_ => rfl
    | 10,_ => rfl
    | 11,_ => rfl
    | 12,_ => rfl
    | 13,_ => rfl
    | 14,_ => rfl
    | 15,_ => rfl
    | 16,_ => rfl
    | 17,_ => rfl
    | 18,_ => rfl
    | 19,_ => rfl
    | 20,_ => rfl
    | 21,_ => rfl
    | 22,_ => rfl
    | 23,_ => rfl
    | 24,_ => rfl
    | 25,_ => rfl
    | 26,_ => rfl
    | 27,_ => rfl
    | 28,_ => rfl
    | 29,_ => rfl
    | 30,_ => rfl
    | 31,_ => rfl
    | 32,_ => rfl
    | 33,_ => rfl
    | 34,_ => rfl
    | 35,_ => rfl
    | 36,_ => rfl
    | 37,hk9 => exact absurd (hl9.symm.trans hk9) (by simp)
    | 38,hk9 => exact absurd (hl9.symm.trans (getD_true ((unhide HD).shut 38 _ (hk9) rfl ⟨37,.data⟩ (by simp) rfl))) (by simp)
    | 39,hk9 => exact absurd (hl9.symm.trans (getD_true ((unhide HD).shut 38 _ (getD_true ((unhide HD).shut 39 _ (hk9) rfl ⟨38,.data⟩ (by simp) rfl)) rfl ⟨37,.data⟩ (by simp) rfl))) (by simp)
    | 40,hk9 => exact absurd (hl9.symm.trans (getD_true ((unhide HD).shut 38 _ (getD_true ((unhide HD).shut 40 _ (hk9) rfl ⟨38,.chain⟩ (by simp) rfl)) rfl ⟨37,.data⟩ (by simp) rfl))) (by simp)
    | 41,hk9 => exact absurd (hl9.symm.trans (getD_true ((unhide HD).shut 38 _ (getD_true ((unhide HD).shut 40 _ (getD_true ((unhide HD).shut 41 _ (hk9) rfl ⟨40,.guard⟩ (by simp) rfl)) rfl ⟨38,.chain⟩ (by simp) rfl)) rfl ⟨37,.data⟩ (by simp) rfl))) (by simp)
    | 42,hk9 => exact absurd (hl9.symm.trans (getD_true ((unhide HD).shut 38 _ (getD_true ((unhide HD).shut 40 _ (getD_true ((unhide HD).shut 42 _ (hk9) rfl ⟨40,.guard⟩ (by simp) rfl)) rfl ⟨38,.chain⟩ (by simp) rfl)) rfl ⟨37,.data⟩ (by simp) rfl))) (by simp)
    | 43,hk9 => exact absurd (hl9.symm.trans (getD_true ((unhide HD).shut 38 _ (getD_true ((unhide HD).shut 40 _ (getD_true ((unhide HD).shut 43 _ (hk9) rfl ⟨40,.data⟩ (by simp) rfl)) rfl ⟨38,.chain⟩ (by simp) rfl)) rfl ⟨37,.data⟩ (by simp) rfl))) (by simp)
    | 44,hk9 => exact absurd (hl9.symm.trans (getD_true ((unhide HD).shut 44 _ (hk9) rfl ⟨37,.phase⟩ (by simp) rfl))) (by simp)
    | k9 + 45,_ => rfl
   ·intro x hx he; simp only [List.mem_cons,List.not_mem_nil,or_false] at hx; rcases hx with rfl | rfl | rfl | rfl | rfl | rfl
    ·exact absurd he (by simp)
    ·exact absurd he (by simp)
    ·exact h9.mono hM.bw
    ·exact absurd he (by simp)
    ·exact absurd he (by simp)
    ·exact absurd he (by simp)
  ·cases ho9
   have r77 := hD.on 35 77 _ rfl (getD_true (hd9 ⟨35,.guard⟩ (by simp) rfl))
   have r78 := hD.on 36 78 _ rfl (getD_true (hd9 ⟨36,.data⟩ (by simp) rfl))
   have r79 := hD.on 37 79 _ rfl (getD_true (hd9 ⟨37,.data⟩ (by simp) rfl))
   have ga0 := hM.fx _ (List.mem_of_getElem? (i := 3) rfl) (Or.inr (by rw [hD.len]; simp))
   simp only [] at ga0
   have ga1 := hM.fx _ (List.mem_of_getElem? (i := 4) rfl) (Or.inr (by rw [hD.len]; simp))
   simp only [] at ga1
   have ga2 := hM.fx _ (List.mem_of_getElem? (i := 5) rfl) (Or.inr (by rw [hD.len]; simp))
   simp only [] at ga2
   have g20 := hM.fx _ (List.mem_of_getElem? (i := 0) rfl) (Or.inl (getD_true (hD.shut 21 _ (getD_true (hD.shut 22 _ (getD_true (hD.shut 23 _ (getD_true (hD.shut 26 _ (getD_true (hD.shut 27 _ (getD_true (hD.shut 29 _ (getD_true (hD.shut 30 _ (getD_true (hD.shut 34 _ (getD_true (hD.shut 35 _ (getD_true (hD.shut 36 _ (getD_true (hd9 ⟨36,.data⟩ (by simp) rfl)) rfl ⟨35,.guard⟩ (by simp) rfl)) rfl ⟨34,.data⟩ (by simp) rfl)) rfl ⟨30,.data⟩ (by simp) rfl)) rfl ⟨29,.data⟩ (by simp) rfl)) rfl ⟨27,.data⟩ (by simp) rfl)) rfl ⟨26,.data⟩ (by simp) rfl)) rfl ⟨23,.data⟩ (by simp) rfl)) rfl ⟨22,.data⟩ (by simp) rfl)) rfl ⟨21,.data⟩ (by simp) rfl)) rfl ⟨20,.data⟩ (by simp) rfl)))
   simp only [] at g20
   have g32 := hM.fx _ (List.mem_of_getElem? (i := 1) rfl) (Or.inl (getD_true (hD.shut 33 _ (getD_true (hD.shut 34 _ (getD_true (hD.shut 35 _ (getD_true (hD.shut 36 _ (getD_true (hd9 ⟨36,.data⟩ (by simp) rfl)) rfl ⟨35,.guard⟩ (by simp) rfl)) rfl ⟨34,.data⟩ (by simp) rfl)) rfl ⟨33,.data⟩ (by simp) rfl)) rfl ⟨32,.data⟩ (by simp) rfl)))
   simp only [] at g32
   have g37 := hM.fx _ (List.mem_of_getElem? (i := 2) rfl) (Or.inl (getD_true (hd9 ⟨37,.data⟩ (by simp) rfl)))
   simp only [] at g37
   clear hD hd9 hi9
   refine wpOp_step rfl (fun K hK => ?_)
   go_simp
   go_wp2_with fail
   refine (dsame_any true A8 N8 C8 15 (p9 37).A (p9 37).N (p9 37).C 3 _ ga2.num g37.num).mono ?_
   rintro en w9 ⟨rfl,hb9⟩
   exact hK _ _ ⟨p9,fun _ _ => rfl,rfl,((hM.kept hs9 hb9).val rfl)⟩
  ·cases ho9
   have r77 := hD.on 35 77 _ rfl (getD_true (hd9 ⟨35,.data⟩ (by simp) rfl))
   have r80 := hD.on 38 80 _ rfl (getD_true (hd9 ⟨38,.data⟩ (by simp) rfl))
   clear hD hd9 hi9
   refine wpOp_step rfl (fun K hK => ?_)
   go_simp
   exact hK _ _ ⟨p9,fun _ _ => rfl,rfl,(hM.val rfl)⟩
  ·cases ho9
   have r81 := hD.on 39 81 _ rfl (getD_true (hd9 ⟨39,.data⟩ (by simp) rfl))
   clear hD hd9 hi9
   refine wpOp_step rfl (fun K hK => ?_)
   go_simp
   exact hK _ _ ⟨p9,fun _ _ => rfl,rfl,(hM.val rfl)⟩
  ·cases ho9
   have r82 := hD.on 40 82 _ rfl (getD_true (hd9 ⟨40,.guard⟩ (by simp) rfl))
   have r10 := hD.old 10 _ rfl rfl
   clear hD hd9 hi9
   refine wpOp_step rfl (fun K hK => ?_)
   go_simp
   exact hK _ _ ⟨p9,fun _ _ => rfl,rfl,(hM.val rfl)⟩
  ·cases ho9
   have r82 := hD.on 40 82 _ rfl (getD_true (hd9 ⟨40,.guard⟩ (by simp) rfl))
   have r83 := hD.on 41 83 _ rfl (getD_true (hd9 ⟨41,.data⟩ (by simp) rfl))
   clear hD hd9 hi9
   refine wpOp_step rfl (fun K hK => ?_)
   go_simp
   exact hK _ _ ⟨p9,fun _ _ => rfl,act_eq (by rfl),(hM.val rfl)⟩
  ·cases ho9
   have r82 := hD.on 40 82 _ rfl (getD_true (hd9 ⟨40,.data⟩ (by simp) rfl))
   have r84 := hD.on 42 84 _ rfl (getD_true (hd9 ⟨42,.data⟩ (by simp) rfl))
   clear hD hd9 hi9
   refine wpOp_step rfl (fun K hK => ?_)
   go_simp
   exact hK _ _ ⟨p9,fun _ _ => rfl,rfl,(hM.val rfl)⟩
  ·cases ho9
   have r85 := hD.on 43 85 _ rfl (getD_true (hd9 ⟨43,.data⟩ (by simp) rfl))
   clear hD hd9 hi9
   refine wpOp_step rfl (fun K hK => ?_)
   go_simp
   exact hK _ _ ⟨p9,fun _ _ => rfl,rfl,(hM.val rfl)⟩
 ·intro p9 l9 W9 hn9 hl9 hM
  have fr6_20 := hM.fx _ (List.mem_of_getElem? (i := 0) rfl) (Or.inl (hl9 20 (by decide)))
  have fr6_32 := hM.fx _ (List.mem_of_getElem? (i := 1) rfl) (Or.inl (hl9 32 (by decide)))
  have fr6_37 := hM.fx _ (List.mem_of_getElem? (i := 2) rfl) (Or.inl (hl9 37 (by decide)))
  have kr6_0 := hM.fx _ (List.mem_of_getElem? (i := 3) rfl) (Or.inr (by rw [hn9]; simp))
  simp only [] at kr6_0
  have kr6_1 := hM.fx _ (List.mem_of_getElem? (i := 4) rfl) (Or.inr (by rw [hn9]; simp))
  simp only [] at kr6_1
  have kr6_2 := hM.fx _ (List.mem_of_getElem? (i := 5) rfl) (Or.inr (by rw [hn9]; simp))
  simp only [] at kr6_2
  replace hM := hM.st
  clear hl9 hs9 h09 hn9
  generalize p9 20 = q20 at *
  obtain ⟨Ar6_20,Nr6_20,Cr6_20⟩ := q20
  simp only [] at fr6_20
  generalize p9 32 = q32 at *
  obtain ⟨Ar6_32,Nr6_32,Cr6_32⟩ := q32
  simp only [] at fr6_32
  generalize p9 37 = q37 at *
  obtain ⟨Ar6_37,Nr6_37,Cr6_37⟩ := q37
  simp only [] at fr6_37
  clear hS z14_0_0 z14_0_1 z14_0_2 z14_1_0 z14_1_1 z14_1_2 z14_2_0 z14_2_1 z14_2_2
  have hS := hM
  clear hM
  simp only [Puts.lay,List.setIfInBounds_toArray,List.set_cons_zero,List.set_cons_succ]
  obtain ⟨⟨z15_0_0,z15_0_1,z15_0_2,-⟩,⟨z15_1_0,z15_1_1,z15_1_2,-⟩,⟨z15_2_0,z15_2_1,z15_2_2,-⟩,-⟩ := hS.cells
  go_wp2
  go_ret
  exact ⟨rfl,hS.fr⟩
end Go.Proofs.YtecmcjlgknfnlaaDoor
namespace Go.Proofs.YtecmcjlgknfnlaaDoor
open Go.RowKit
theorem same_yes (a b : Option Addr) (na nb ca cb m : Nat) (w : World) (h : Num w a na m) (h' : Num w b nb m) :
  Calls Tryd.prog 33 #[.agg #[.slice a na ca],.agg #[.slice b nb cb]] w fun e w' => e = .returned (.bool true) ∧ Below w.heap.size w w' := by
 have := same_any a b na nb ca cb m m w h h'
 rw [decide_eq_true rfl] at this
 exact this
set_option maxRecDepth 20000 in
set_option maxHeartbeats 8000000 in
theorem back_bad_err (s : Bool) (a : Option Addr) (n cap _m : Nat) (x : Int) (r : Bool) (b : Option Addr) (k l _p : Nat) (b' : Option Addr) (k' l' _p' : Nat) (er : Int)  (w : World) (hT : Tb w) (hr1 : Hid (∀ W : World,Below w.heap.size w W → Calls Tryd.prog 23 #[.agg #[.bool s,.slice a n cap,.int .i64 x]] W fun e w' => e = .returned (.tuple #[.agg #[.bool false,.slice none 0 0,.slice none 0 0],.int .i64 er]) ∧ Below W.heap.size W w')) (her : (er == 0) = false) (ho2 : Hid (∀ W : World,Below w.heap.size w W → Calls Tryd.prog 26 #[.agg #[.bool r,.slice b k l,.slice b' k' l']] W fun e w' => e = .returned (.tuple #[.agg #[.bool false,.slice none 0 0,.int .i64 0],.bool false,.int .i64 20]) ∧ Below W.heap.size W w')) :
  Calls Tryd.prog 8 #[.agg #[.bool s,.slice a n cap,.int .i64 x],.agg #[.bool r,.slice b k l,.slice b' k' l']] w fun e w' => e = .returned (.bool true) ∧ Below w.heap.size w w' := by
 have HT := hide hT
 clear hT
 go_enter Tryd.func8,Tryd.ntmps8
 go_wp2_with fail
 refine (alive_any _ (((unhide HT).alloc _).alloc _)).mono ?_
 rintro e w1 ⟨rfl,hb1⟩
 have hS := (Fs.two w _ _ _ _).kept hb1
 obtain ⟨⟨z1_0_0,z1_0_1,z1_0_2,-⟩,⟨z1_1_0,z1_1_1,z1_1_2,-⟩,-⟩ := hS.cells
 go_wp2_with fail
 refine (unhide hr1 _ hS.fr).mono ?_
 rintro e w2 ⟨rfl,hb2⟩
 replace hS := hS.kept hb2
 clear z1_0_0 z1_0_1 z1_0_2 z1_1_0 z1_1_1 z1_1_2
 obtain ⟨⟨z2_0_0,z2_0_1,z2_0_2,-⟩,⟨z2_1_0,z2_1_1,z2_1_2,-⟩,-⟩ := hS.cells
 have hltw2_0 : w.heap.size < w2.heap.size := block_lt (hS.bx ⟨w.heap.size,#[.bool s,.slice a n cap,.int .i64 x],26⟩ (by simp))
 have hltw2_1 : w.heap.size + 1 < w2.heap.size := block_lt (hS.bx ⟨w.heap.size + 1,#[.bool r,.slice b k l,.slice b' k' l'],50⟩ (by simp))
 replace hS := hS.alloc #[.bool false,.slice none 0 0,.slice none 0 0] 50
 go_wp2_with fail
 refine (unhide ho2 _ hS.fr).mono ?_
 rintro e w3 ⟨rfl,hb3⟩
 replace hS := hS.kept hb3
 clear z2_0_0 z2_0_1 z2_0_2 z2_1_0 z2_1_1 z2_1_2
 obtain ⟨⟨z3_0_0,z3_0_1,z3_0_2,-⟩,⟨z3_1_0,z3_1_1,z3_1_2,-⟩,⟨z3_2_0,z3_2_1,z3_2_2,-⟩,-⟩ := hS.cells
 go_wp2
 go_ret
 exact ⟨rfl,hS.fr.alloc hS.fr.size _⟩
set_option maxRecDepth 20000 in
set_option maxHeartbeats 8000000 in
theorem back_bad_no (s : Bool) (a : Option Addr) (n cap _m : Nat) (x : Int) (r : Bool) (b : Option Addr) (k l _p : Nat) (b' : Option Addr) (k' l' _p' : Nat) (er : Int)  (w : World) (hT : Tb w) (hr1 : Hid (∀ W : World,Below w.heap.size w W → Calls Tryd.prog 23 #[.agg #[.bool s,.slice a n cap,.int .i64 x]] W fun e w' => e = .returned (.tuple #[.agg #[.bool false,.slice none 0 0,.slice none 0 0],.int .i64 er]) ∧ Below W.heap.size W w')) (her : (er == 0) = false) (ho2 : Hid (∀ W : World,Below w.heap.size w W → Calls Tryd.prog 26 #[.agg #[.bool r,.slice b k l,.slice b' k' l']] W fun e w' => e = .returned (.tuple #[.agg #[.bool false,.slice none 0 0,.int .i64 0],.bool false,.int .i64 0]) ∧ Below W.heap.size W w')) :
  Calls Tryd.prog 8 #[.agg #[.bool s,.slice a n cap,.int .i64 x],.agg #[.bool r,.slice b k l,.slice b' k' l']] w fun e w' => e = .returned (.bool true) ∧ Below w.heap.size w w' := by
 have HT := hide hT
 clear hT
 go_enter Tryd.func8,Tryd.ntmps8
 go_wp2_with fail
 refine (alive_any _ (((unhide HT).alloc _).alloc _)).mono ?_
 rintro e w1 ⟨rfl,hb1⟩
 have hS := (Fs.two w _ _ _ _).kept hb1
 obtain ⟨⟨z1_0_0,z1_0_1,z1_0_2,-⟩,⟨z1_1_0,z1_1_1,z1_1_2,-⟩,-⟩ := hS.cells
 go_wp2_with fail
 refine (unhide hr1 _ hS.fr).mono ?_
 rintro e w2 ⟨rfl,hb2⟩
 replace hS := hS.kept hb2
 clear z1_0_0 z1_0_1 z1_0_2 z1_1_0 z1_1_1 z1_1_2
 obtain ⟨⟨z2_0_0,z2_0_1,z2_0_2,-⟩,⟨z2_1_0,z2_1_1,z2_1_2,-⟩,-⟩ := hS.cells
 have hltw2_0 : w.heap.size < w2.heap.size := block_lt (hS.bx ⟨w.heap.size,#[.bool s,.slice a n cap,.int .i64 x],26⟩ (by simp))
 have hltw2_1 : w.heap.size + 1 < w2.heap.size := block_lt (hS.bx ⟨w.heap.size + 1,#[.bool r,.slice b k l,.slice b' k' l'],50⟩ (by simp))
 replace hS := hS.alloc #[.bool false,.slice none 0 0,.slice none 0 0] 50
 go_wp2_with fail
 refine (unhide ho2 _ hS.fr).mono ?_
 rintro e w3 ⟨rfl,hb3⟩
 replace hS := hS.kept hb3
 clear z2_0_0 z2_0_1 z2_0_2 z2_1_0 z2_1_1 z2_1_2
 obtain ⟨⟨z3_0_0,z3_0_1,z3_0_2,-⟩,⟨z3_1_0,z3_1_1,z3_1_2,-⟩,⟨z3_2_0,z3_2_1,z3_2_2,-⟩,-⟩ := hS.cells
 go_wp2
 go_ret
 exact ⟨rfl,hS.fr.alloc hS.fr.size _⟩
set_option maxRecDepth 20000 in
set_option maxHeartbeats 8000000 in
theorem back_bad_yes (s : Bool) (a : Option Addr) (n cap _m : Nat) (x : Int) (r : Bool) (b : Option Addr) (k l p : Nat) (b' : Option Addr) (k' l' p' : Nat) (er : Int) (q : Bool) (v : Nat) (y : Int) (w : World) (hT : Tb w) (hr1 : Hid (∀ W : World,Below w.heap.size w W → Calls Tryd.prog 23 #[.agg #[.bool s,.slice a n cap,.int .i64 x]] W fun e w' => e = .returned (.tuple #[.agg #[.bool false,.slice none 0 0,.slice none 0 0],.int .i64 er]) ∧ Below W.heap.size W w')) (her : (er == 0) = false) (ho2 : Hid (∀ W : World,Below w.heap.size w W → Calls Tryd.prog 26 #[.agg #[.bool r,.slice b k l,.slice b' k' l']] W fun e w' => (∃ A N C,e = .returned (.tuple #[.agg #[.bool q,.slice A N C,.int .i64 y],.bool true,.int .i64 0]) ∧ Mine w' W.heap.size A N C v) ∧ Below W.heap.size W w')) (hr2 : Hid (∀ (W : World) (A : Option Addr) (N C : Nat),Num W A N v → Calls Tryd.prog 23 #[.agg #[.bool q,.slice A N C,.int .i64 y]] W fun e w' => (∃ A N C A' N' C',e = .returned (.tuple #[.agg #[.bool r,.slice A N C,.slice A' N' C'],.int .i64 0]) ∧ Mine w' W.heap.size A N C p ∧ Mine w' W.heap.size A' N' C' p') ∧ Below W.heap.size W w')) (hbn : Num w b k p) (hbd : Num w b' k' p') :
  Calls Tryd.prog 8 #[.agg #[.bool s,.slice a n cap,.int .i64 x],.agg #[.bool r,.slice b k l,.slice b' k' l']] w fun e w' => e = .returned (.bool true) ∧ Below w.heap.size w w' := by
 have HT := hide hT
 clear hT
 have HN := hide hbn
 have HD := hide hbd
 clear hbn hbd
 have err_ : (r == r) = true := by simp
 go_enter Tryd.func8,Tryd.ntmps8
 go_wp2_with fail
 refine (alive_any _ (((unhide HT).alloc _).alloc _)).mono ?_
 rintro e w1 ⟨rfl,hb1⟩
 have hS := (Fs.two w _ _ _ _).kept hb1
 obtain ⟨⟨z1_0_0,z1_0_1,z1_0_2,-⟩,⟨z1_1_0,z1_1_1,z1_1_2,-⟩,-⟩ := hS.cells
 replace HN := hide ((unhide HN).kept hS.fr)
 replace HD := hide ((unhide HD).kept hS.fr)
 go_wp2_with fail
 refine (unhide hr1 _ hS.fr).mono ?_
 rintro e w2 ⟨rfl,hb2⟩
 replace hS := hS.kept hb2
 clear z1_0_0 z1_0_1 z1_0_2 z1_1_0 z1_1_1 z1_1_2
 obtain ⟨⟨z2_0_0,z2_0_1,z2_0_2,-⟩,⟨z2_1_0,z2_1_1,z2_1_2,-⟩,-⟩ := hS.cells
 replace HN := hide ((unhide HN).kept hb2)
 replace HD := hide ((unhide HD).kept hb2)
 have hltw2_0 : w.heap.size < w2.heap.size := block_lt (hS.bx ⟨w.heap.size,#[.bool s,.slice a n cap,.int .i64 x],26⟩ (by simp))
 have hltw2_1 : w.heap.size + 1 < w2.heap.size := block_lt (hS.bx ⟨w.heap.size + 1,#[.bool r,.slice b k l,.slice b' k' l'],50⟩ (by simp))
 replace hS := hS.alloc #[.bool false,.slice none 0 0,.slice none 0 0] 50
 replace HN := hide ((unhide HN).alloc (.cells #[.bool false,.slice none 0 0,.slice none 0 0] 50))
 replace HD := hide ((unhide HD).alloc (.cells #[.bool false,.slice none 0 0,.slice none 0 0] 50))
 go_wp2_with fail
 refine (unhide ho2 _ hS.fr).mono ?_
 rintro e w3 ⟨⟨A3,N3,C3,rfl,f3⟩,hb3⟩
 replace hS := hS.kept hb3
 clear z2_0_0 z2_0_1 z2_0_2 z2_1_0 z2_1_1 z2_1_2
 obtain ⟨⟨z3_0_0,z3_0_1,z3_0_2,-⟩,⟨z3_1_0,z3_1_1,z3_1_2,-⟩,⟨z3_2_0,z3_2_1,z3_2_2,-⟩,-⟩ := hS.cells
 replace HN := hide ((unhide HN).kept hb3)
 replace HD := hide ((unhide HD).kept hb3)
 have G3 := hide f3.num
 clear f3
 have hltw3_0 : w2.heap.size < w3.heap.size := block_lt (hS.bx ⟨w2.heap.size,#[.bool false,.slice none 0 0,.slice none 0 0],50⟩ (by simp))
 have hltw3_1 : w.heap.size < w3.heap.size := block_lt (hS.bx ⟨w.heap.size,#[.bool s,.slice a n cap,.int .i64 x],26⟩ (by simp))
 have hltw3_2 : w.heap.size + 1 < w3.heap.size := block_lt (hS.bx ⟨w.heap.size + 1,#[.bool r,.slice b k l,.slice b' k' l'],50⟩ (by simp))
 replace hS := hS.alloc #[.bool q,.slice A3 N3 C3,.int .i64 y] 26
 replace HN := hide ((unhide HN).alloc (.cells #[.bool q,.slice A3 N3 C3,.int .i64 y] 26))
 replace HD := hide ((unhide HD).alloc (.cells #[.bool q,.slice A3 N3 C3,.int .i64 y] 26))
 replace G3 := hide ((unhide G3).alloc (.cells #[.bool q,.slice A3 N3 C3,.int .i64 y] 26))
 go_wp2_with fail
 refine (unhide hr2 _ A3 N3 C3 (unhide G3)).mono ?_
 rintro e w4 ⟨⟨A4,N4,C4,B4,O4,D4,rfl,f4,g4⟩,hb4⟩
 replace hS := hS.kept hb4
 clear z3_0_0 z3_0_1 z3_0_2 z3_1_0 z3_1_1 z3_1_2 z3_2_0 z3_2_1 z3_2_2
 obtain ⟨⟨z4_0_0,z4_0_1,z4_0_2,-⟩,⟨z4_1_0,z4_1_1,z4_1_2,-⟩,⟨z4_2_0,z4_2_1,z4_2_2,-⟩,⟨z4_3_0,z4_3_1,z4_3_2,-⟩,-⟩ := hS.cells
 replace HN := hide ((unhide HN).kept hb4)
 replace HD := hide ((unhide HD).kept hb4)
 replace G3 := hide ((unhide G3).kept hb4)
 have G4 := hide f4.num
 have J4 := hide g4.num
 clear f4 g4
 have hltw4_0 : w3.heap.size < w4.heap.size := block_lt (hS.bx ⟨w3.heap.size,#[.bool q,.slice A3 N3 C3,.int .i64 y],26⟩ (by simp))
 have hltw4_1 : w2.heap.size < w4.heap.size := block_lt (hS.bx ⟨w2.heap.size,#[.bool false,.slice none 0 0,.slice none 0 0],50⟩ (by simp))
 have hltw4_2 : w.heap.size < w4.heap.size := block_lt (hS.bx ⟨w.heap.size,#[.bool s,.slice a n cap,.int .i64 x],26⟩ (by simp))
 have hltw4_3 : w.heap.size + 1 < w4.heap.size := block_lt (hS.bx ⟨w.heap.size + 1,#[.bool r,.slice b k l,.slice b' k' l'],50⟩ (by simp))
 replace hS := hS.alloc #[.bool r,.slice A4 N4 C4,.slice B4 O4 D4] 50
 replace HN := hide ((unhide HN).alloc (.cells #[.bool r,.slice A4 N4 C4,.slice B4 O4 D4] 50))
 replace HD := hide ((unhide HD).alloc (.cells #[.bool r,.slice A4 N4 C4,.slice B4 O4 D4] 50))
 replace G3 := hide ((unhide G3).alloc (.cells #[.bool r,.slice A4 N4 C4,.slice B4 O4 D4] 50))
 replace G4 := hide ((unhide G4).alloc (.cells #[.bool r,.slice A4 N4 C4,.slice B4 O4 D4] 50))
 replace J4 := hide ((unhide J4).alloc (.cells #[.bool r,.slice A4 N4 C4,.slice B4 O4 D4] 50))
 go_wp2_with fail
 refine (same_yes A4 b N4 k C4 l p _ (unhide G4) (unhide HN)).mono ?_
 rintro e w5 ⟨rfl,hb5⟩
 replace hS := hS.kept hb5
 clear z4_0_0 z4_0_1 z4_0_2 z4_1_0 z4_1_1 z4_1_2 z4_2_0 z4_2_1 z4_2_2 z4_3_0 z4_3_1 z4_3_2
 obtain ⟨⟨z5_0_0,z5_0_1,z5_0_2,-⟩,⟨z5_1_0,z5_1_1,z5_1_2,-⟩,⟨z5_2_0,z5_2_1,z5_2_2,-⟩,⟨z5_3_0,z5_3_1,z5_3_2,-⟩,⟨z5_4_0,z5_4_1,z5_4_2,-⟩,-⟩ := hS.cells
 replace HN := hide ((unhide HN).kept hb5)
 replace HD := hide ((unhide HD).kept hb5)
 replace G3 := hide ((unhide G3).kept hb5)
 replace G4 := hide ((unhide G4).kept hb5)
 replace J4 := hide ((unhide J4).kept hb5)
 go_wp2_with fail
 refine (same_yes B4 b' O4 k' D4 l' p' _ (unhide J4) (unhide HD)).mono ?_
 rintro e w6 ⟨rfl,hb6⟩
 replace hS := hS.kept hb6
 clear z5_0_0 z5_0_1 z5_0_2 z5_1_0 z5_1_1 z5_1_2 z5_2_0 z5_2_1 z5_2_2 z5_3_0 z5_3_1 z5_3_2 z5_4_0 z5_4_1 z5_4_2
 obtain ⟨⟨z6_0_0,z6_0_1,z6_0_2,-⟩,⟨z6_1_0,z6_1_1,z6_1_2,-⟩,⟨z6_2_0,z6_2_1,z6_2_2,-⟩,⟨z6_3_0,z6_3_1,z6_3_2,-⟩,⟨z6_4_0,z6_4_1,z6_4_2,-⟩,-⟩ := hS.cells
 replace HN := hide ((unhide HN).kept hb6)
 replace HD := hide ((unhide HD).kept hb6)
 replace G3 := hide ((unhide G3).kept hb6)
 replace G4 := hide ((unhide G4).kept hb6)
 replace J4 := hide ((unhide J4).kept hb6)
 go_wp2
 go_ret
 exact ⟨rfl,hS.fr⟩
set_option maxRecDepth 20000 in
set_option maxHeartbeats 8000000 in
theorem back_ok_err (s : Bool) (a : Option Addr) (n cap m : Nat) (x : Int) (r : Bool) (b : Option Addr) (k l _p : Nat) (b' : Option Addr) (k' l' _p' : Nat) (V1 M1 : Nat)  (w : World) (hT : Tb w) (hA : Num w a n m) (hr1 : Hid (∀ W : World,Below w.heap.size w W → Calls Tryd.prog 23 #[.agg #[.bool s,.slice a n cap,.int .i64 x]] W fun e w' => (∃ A N C A' N' C',e = .returned (.tuple #[.agg #[.bool s,.slice A N C,.slice A' N' C'],.int .i64 0]) ∧ Mine w' W.heap.size A N C V1 ∧ Mine w' W.heap.size A' N' C' M1) ∧ Below W.heap.size W w')) (ho1 : Hid (∀ (W : World) (A : Option Addr) (N C : Nat) (A' : Option Addr) (N' C' : Nat),Num W A N V1 → N ≤ C → C ≤ 9223372036854775807 → Num W A' N' M1 → Tb W → Calls Tryd.prog 26 #[.agg #[.bool s,.slice A N C,.slice A' N' C']] W fun e w' => (∃ A N C,e = .returned (.tuple #[.agg #[.bool s,.slice A N C,.int .i64 x],.bool true,.int .i64 0]) ∧ Mine w' W.heap.size A N C m) ∧ Below W.heap.size W w')) (ho2 : Hid (∀ W : World,Below w.heap.size w W → Calls Tryd.prog 26 #[.agg #[.bool r,.slice b k l,.slice b' k' l']] W fun e w' => e = .returned (.tuple #[.agg #[.bool false,.slice none 0 0,.int .i64 0],.bool false,.int .i64 20]) ∧ Below W.heap.size W w')) :
  Calls Tryd.prog 8 #[.agg #[.bool s,.slice a n cap,.int .i64 x],.agg #[.bool r,.slice b k l,.slice b' k' l']] w fun e w' => e = .returned (.bool true) ∧ Below w.heap.size w w' := by
 have HT := hide hT
 clear hT
 have HA := hide hA
 clear hA
 go_enter Tryd.func8,Tryd.ntmps8
 go_wp2_with fail
 refine (alive_any _ (((unhide HT).alloc _).alloc _)).mono ?_
 rintro e w1 ⟨rfl,hb1⟩
 have hS := (Fs.two w _ _ _ _).kept hb1
 obtain ⟨⟨z1_0_0,z1_0_1,z1_0_2,-⟩,⟨z1_1_0,z1_1_1,z1_1_2,-⟩,-⟩ := hS.cells
 replace HA := hide ((unhide HA).kept hS.fr)
 go_wp2_with fail
 refine (unhide hr1 _ hS.fr).mono ?_
 rintro e w2 ⟨⟨A1,N1,C1,B1,O1,D1,rfl,f1,g1⟩,hb2⟩
 replace hS := hS.kept hb2
 clear z1_0_0 z1_0_1 z1_0_2 z1_1_0 z1_1_1 z1_1_2
 obtain ⟨⟨z2_0_0,z2_0_1,z2_0_2,-⟩,⟨z2_1_0,z2_1_1,z2_1_2,-⟩,-⟩ := hS.cells
 replace HA := hide ((unhide HA).kept hb2)
 have G1 := hide f1
 have J1 := hide g1.num
 clear f1 g1
 have hrm := (unhide G1).room
 replace G1 := hide (unhide G1).num
 have hltw2_0 : w.heap.size < w2.heap.size := block_lt (hS.bx ⟨w.heap.size,#[.bool s,.slice a n cap,.int .i64 x],26⟩ (by simp))
 have hltw2_1 : w.heap.size + 1 < w2.heap.size := block_lt (hS.bx ⟨w.heap.size + 1,#[.bool r,.slice b k l,.slice b' k' l'],50⟩ (by simp))
 replace hS := hS.alloc #[.bool s,.slice A1 N1 C1,.slice B1 O1 D1] 50
 replace HA := hide ((unhide HA).alloc (.cells #[.bool s,.slice A1 N1 C1,.slice B1 O1 D1] 50))
 replace G1 := hide ((unhide G1).alloc (.cells #[.bool s,.slice A1 N1 C1,.slice B1 O1 D1] 50))
 replace J1 := hide ((unhide J1).alloc (.cells #[.bool s,.slice A1 N1 C1,.slice B1 O1 D1] 50))
 go_wp2_with fail
 refine (unhide ho1 _ A1 N1 C1 B1 O1 D1 (unhide G1) hrm.1 hrm.2 (unhide J1) ((unhide HT).kept hS.fr)).mono ?_
 rintro e w3 ⟨⟨A2,N2,C2,rfl,f2⟩,hb3⟩
 replace hS := hS.kept hb3
 clear z2_0_0 z2_0_1 z2_0_2 z2_1_0 z2_1_1 z2_1_2
 obtain ⟨⟨z3_0_0,z3_0_1,z3_0_2,-⟩,⟨z3_1_0,z3_1_1,z3_1_2,-⟩,⟨z3_2_0,z3_2_1,z3_2_2,-⟩,-⟩ := hS.cells
 replace HA := hide ((unhide HA).kept hb3)
 replace G1 := hide ((unhide G1).kept hb3)
 replace J1 := hide ((unhide J1).kept hb3)
 have G2 := hide f2.num
 clear f2
 have hltw3_0 : w2.heap.size < w3.heap.size := block_lt (hS.bx ⟨w2.heap.size,#[.bool s,.slice A1 N1 C1,.slice B1 O1 D1],50⟩ (by simp))
 have hltw3_1 : w.heap.size < w3.heap.size := block_lt (hS.bx ⟨w.heap.size,#[.bool s,.slice a n cap,.int .i64 x],26⟩ (by simp))
 have hltw3_2 : w.heap.size + 1 < w3.heap.size := block_lt (hS.bx ⟨w.heap.size + 1,#[.bool r,.slice b k l,.slice b' k' l'],50⟩ (by simp))
 replace hS := hS.alloc #[.bool s,.slice A2 N2 C2,.int .i64 x] 26
 replace HA := hide ((unhide HA).alloc (.cells #[.bool s,.slice A2 N2 C2,.int .i64 x] 26))
 replace G1 := hide ((unhide G1).alloc (.cells #[.bool s,.slice A2 N2 C2,.int .i64 x] 26))
 replace J1 := hide ((unhide J1).alloc (.cells #[.bool s,.slice A2 N2 C2,.int .i64 x] 26))
 replace G2 := hide ((unhide G2).alloc (.cells #[.bool s,.slice A2 N2 C2,.int .i64 x] 26))
 go_wp2_with fail
 refine (dsame_any s A2 N2 C2 m a n cap x _ (unhide G2) (unhide HA)).mono ?_
 rintro e w4 ⟨rfl,hb4⟩
 replace hS := hS.kept hb4
 clear z3_0_0 z3_0_1 z3_0_2 z3_1_0 z3_1_1 z3_1_2 z3_2_0 z3_2_1 z3_2_2
 obtain ⟨⟨z4_0_0,z4_0_1,z4_0_2,-⟩,⟨z4_1_0,z4_1_1,z4_1_2,-⟩,⟨z4_2_0,z4_2_1,z4_2_2,-⟩,⟨z4_3_0,z4_3_1,z4_3_2,-⟩,-⟩ := hS.cells
 replace HA := hide ((unhide HA).kept hb4)
 replace G1 := hide ((unhide G1).kept hb4)
 replace J1 := hide ((unhide J1).kept hb4)
 replace G2 := hide ((unhide G2).kept hb4)
 go_wp2_with fail
 refine (unhide ho2 _ hS.fr).mono ?_
 rintro e w5 ⟨rfl,hb5⟩
 replace hS := hS.kept hb5
 clear z4_0_0 z4_0_1 z4_0_2 z4_1_0 z4_1_1 z4_1_2 z4_2_0 z4_2_1 z4_2_2 z4_3_0 z4_3_1 z4_3_2
 obtain ⟨⟨z5_0_0,z5_0_1,z5_0_2,-⟩,⟨z5_1_0,z5_1_1,z5_1_2,-⟩,⟨z5_2_0,z5_2_1,z5_2_2,-⟩,⟨z5_3_0,z5_3_1,z5_3_2,-⟩,-⟩ := hS.cells
 replace HA := hide ((unhide HA).kept hb5)
 replace G1 := hide ((unhide G1).kept hb5)
 replace J1 := hide ((unhide J1).kept hb5)
 replace G2 := hide ((unhide G2).kept hb5)
 go_wp2
 go_ret
 exact ⟨rfl,hS.fr.alloc hS.fr.size _⟩
set_option maxRecDepth 20000 in
set_option maxHeartbeats 8000000 in
theorem back_ok_no (s : Bool) (a : Option Addr) (n cap m : Nat) (x : Int) (r : Bool) (b : Option Addr) (k l _p : Nat) (b' : Option Addr) (k' l' _p' : Nat) (V1 M1 : Nat)  (w : World) (hT : Tb w) (hA : Num w a n m) (hr1 : Hid (∀ W : World,Below w.heap.size w W → Calls Tryd.prog 23 #[.agg #[.bool s,.slice a n cap,.int .i64 x]] W fun e w' => (∃ A N C A' N' C',e = .returned (.tuple #[.agg #[.bool s,.slice A N C,.slice A' N' C'],.int .i64 0]) ∧ Mine w' W.heap.size A N C V1 ∧ Mine w' W.heap.size A' N' C' M1) ∧ Below W.heap.size W w')) (ho1 : Hid (∀ (W : World) (A : Option Addr) (N C : Nat) (A' : Option Addr) (N' C' : Nat),Num W A N V1 → N ≤ C → C ≤ 9223372036854775807 → Num W A' N' M1 → Tb W → Calls Tryd.prog 26 #[.agg #[.bool s,.slice A N C,.slice A' N' C']] W fun e w' => (∃ A N C,e = .returned (.tuple #[.agg #[.bool s,.slice A N C,.int .i64 x],.bool true,.int .i64 0]) ∧ Mine w' W.heap.size A N C m) ∧ Below W.heap.size W w')) (ho2 : Hid (∀ W : World,Below w.heap.size w W → Calls Tryd.prog 26 #[.agg #[.bool r,.slice b k l,.slice b' k' l']] W fun e w' => e = .returned (.tuple #[.agg #[.bool false,.slice none 0 0,.int .i64 0],.bool false,.int .i64 0]) ∧ Below W.heap.size W w')) :
  Calls Tryd.prog 8 #[.agg #[.bool s,.slice a n cap,.int .i64 x],.agg #[.bool r,.slice b k l,.slice b' k' l']] w fun e w' => e = .returned (.bool true) ∧ Below w.heap.size w w' := by
 have HT := hide hT
 clear hT
 have HA := hide hA
 clear hA
 go_enter Tryd.func8,Tryd.ntmps8
 go_wp2_with fail
 refine (alive_any _ (((unhide HT).alloc _).alloc _)).mono ?_
 rintro e w1 ⟨rfl,hb1⟩
 have hS := (Fs.two w _ _ _ _).kept hb1
 obtain ⟨⟨z1_0_0,z1_0_1,z1_0_2,-⟩,⟨z1_1_0,z1_1_1,z1_1_2,-⟩,-⟩ := hS.cells
 replace HA := hide ((unhide HA).kept hS.fr)
 go_wp2_with fail
 refine (unhide hr1 _ hS.fr).mono ?_
 rintro e w2 ⟨⟨A1,N1,C1,B1,O1,D1,rfl,f1,g1⟩,hb2⟩
 replace hS := hS.kept hb2
 clear z1_0_0 z1_0_1 z1_0_2 z1_1_0 z1_1_1 z1_1_2
 obtain ⟨⟨z2_0_0,z2_0_1,z2_0_2,-⟩,⟨z2_1_0,z2_1_1,z2_1_2,-⟩,-⟩ := hS.cells
 replace HA := hide ((unhide HA).kept hb2)
 have G1 := hide f1
 have J1 := hide g1.num
 clear f1 g1
 have hrm := (unhide G1).room
 replace G1 := hide (unhide G1).num
 have hltw2_0 : w.heap.size < w2.heap.size := block_lt (hS.bx ⟨w.heap.size,#[.bool s,.slice a n cap,.int .i64 x],26⟩ (by simp))
 have hltw2_1 : w.heap.size + 1 < w2.heap.size := block_lt (hS.bx ⟨w.heap.size + 1,#[.bool r,.slice b k l,.slice b' k' l'],50⟩ (by simp))
 replace hS := hS.alloc #[.bool s,.slice A1 N1 C1,.slice B1 O1 D1] 50
 replace HA := hide ((unhide HA).alloc (.cells #[.bool s,.slice A1 N1 C1,.slice B1 O1 D1] 50))
 replace G1 := hide ((unhide G1).alloc (.cells #[.bool s,.slice A1 N1 C1,.slice B1 O1 D1] 50))
 replace J1 := hide ((unhide J1).alloc (.cells #[.bool s,.slice A1 N1 C1,.slice B1 O1 D1] 50))
 go_wp2_with fail
 refine (unhide ho1 _ A1 N1 C1 B1 O1 D1 (unhide G1) hrm.1 hrm.2 (unhide J1) ((unhide HT).kept hS.fr)).mono ?_
 rintro e w3 ⟨⟨A2,N2,C2,rfl,f2⟩,hb3⟩
 replace hS := hS.kept hb3
 clear z2_0_0 z2_0_1 z2_0_2 z2_1_0 z2_1_1 z2_1_2
 obtain ⟨⟨z3_0_0,z3_0_1,z3_0_2,-⟩,⟨z3_1_0,z3_1_1,z3_1_2,-⟩,⟨z3_2_0,z3_2_1,z3_2_2,-⟩,-⟩ := hS.cells
 replace HA := hide ((unhide HA).kept hb3)
 replace G1 := hide ((unhide G1).kept hb3)
 replace J1 := hide ((unhide J1).kept hb3)
 have G2 := hide f2.num
 clear f2
 have hltw3_0 : w2.heap.size < w3.heap.size := block_lt (hS.bx ⟨w2.heap.size,#[.bool s,.slice A1 N1 C1,.slice B1 O1 D1],50⟩ (by simp))
 have hltw3_1 : w.heap.size < w3.heap.size := block_lt (hS.bx ⟨w.heap.size,#[.bool s,.slice a n cap,.int .i64 x],26⟩ (by simp))
 have hltw3_2 : w.heap.size + 1 < w3.heap.size := block_lt (hS.bx ⟨w.heap.size + 1,#[.bool r,.slice b k l,.slice b' k' l'],50⟩ (by simp))
 replace hS := hS.alloc #[.bool s,.slice A2 N2 C2,.int .i64 x] 26
 replace HA := hide ((unhide HA).alloc (.cells #[.bool s,.slice A2 N2 C2,.int .i64 x] 26))
 replace G1 := hide ((unhide G1).alloc (.cells #[.bool s,.slice A2 N2 C2,.int .i64 x] 26))
 replace J1 := hide ((unhide J1).alloc (.cells #[.bool s,.slice A2 N2 C2,.int .i64 x] 26))
 replace G2 := hide ((unhide G2).alloc (.cells #[.bool s,.slice A2 N2 C2,.int .i64 x] 26))
 go_wp2_with fail
 refine (dsame_any s A2 N2 C2 m a n cap x _ (unhide G2) (unhide HA)).mono ?_
 rintro e w4 ⟨rfl,hb4⟩
 replace hS := hS.kept hb4
 clear z3_0_0 z3_0_1 z3_0_2 z3_1_0 z3_1_1 z3_1_2 z3_2_0 z3_2_1 z3_2_2
 obtain ⟨⟨z4_0_0,z4_0_1,z4_0_2,-⟩,⟨z4_1_0,z4_1_1,z4_1_2,-⟩,⟨z4_2_0,z4_2_1,z4_2_2,-⟩,⟨z4_3_0,z4_3_1,z4_3_2,-⟩,-⟩ := hS.cells
 replace HA := hide ((unhide HA).kept hb4)
 replace G1 := hide ((unhide G1).kept hb4)
 replace J1 := hide ((unhide J1).kept hb4)
 replace G2 := hide ((unhide G2).kept hb4)
 go_wp2_with fail
 refine (unhide ho2 _ hS.fr).mono ?_
 rintro e w5 ⟨rfl,hb5⟩
 replace hS := hS.kept hb5
 clear z4_0_0 z4_0_1 z4_0_2 z4_1_0 z4_1_1 z4_1_2 z4_2_0 z4_2_1 z4_2_2 z4_3_0 z4_3_1 z4_3_2
 obtain ⟨⟨z5_0_0,z5_0_1,z5_0_2,-⟩,⟨z5_1_0,z5_1_1,z5_1_2,-⟩,⟨z5_2_0,z5_2_1,z5_2_2,-⟩,⟨z5_3_0,z5_3_1,z5_3_2,-⟩,-⟩ := hS.cells
 replace HA := hide ((unhide HA).kept hb5)
 replace G1 := hide ((unhide G1).kept hb5)
 replace J1 := hide ((unhide J1).kept hb5)
 replace G2 := hide ((unhide G2).kept hb5)
 go_wp2
 go_ret
 exact ⟨rfl,hS.fr.alloc hS.fr.size _⟩
set_option maxRecDepth 20000 in
set_option maxHeartbeats 8000000 in
theorem back_ok_yes (s : Bool) (a : Option Addr) (n cap m : Nat) (x : Int) (r : Bool) (b : Option Addr) (k l p : Nat) (b' : Option Addr) (k' l' p' : Nat) (V1 M1 : Nat) (q : Bool) (v : Nat) (y : Int) (w : World) (hT : Tb w) (hA : Num w a n m) (hr1 : Hid (∀ W : World,Below w.heap.size w W → Calls Tryd.prog 23 #[.agg #[.bool s,.slice a n cap,.int .i64 x]] W fun e w' => (∃ A N C A' N' C',e = .returned (.tuple #[.agg #[.bool s,.slice A N C,.slice A' N' C'],.int .i64 0]) ∧ Mine w' W.heap.size A N C V1 ∧ Mine w' W.heap.size A' N' C' M1) ∧ Below W.heap.size W w')) (ho1 : Hid (∀ (W : World) (A : Option Addr) (N C : Nat) (A' : Option Addr) (N' C' : Nat),Num W A N V1 → N ≤ C → C ≤ 9223372036854775807 → Num W A' N' M1 → Tb W → Calls Tryd.prog 26 #[.agg #[.bool s,.slice A N C,.slice A' N' C']] W fun e w' => (∃ A N C,e = .returned (.tuple #[.agg #[.bool s,.slice A N C,.int .i64 x],.bool true,.int .i64 0]) ∧ Mine w' W.heap.size A N C m) ∧ Below W.heap.size W w')) (ho2 : Hid (∀ W : World,Below w.heap.size w W → Calls Tryd.prog 26 #[.agg #[.bool r,.slice b k l,.slice b' k' l']] W fun e w' => (∃ A N C,e = .returned (.tuple #[.agg #[.bool q,.slice A N C,.int .i64 y],.bool true,.int .i64 0]) ∧ Mine w' W.heap.size A N C v) ∧ Below W.heap.size W w')) (hr2 : Hid (∀ (W : World) (A : Option Addr) (N C : Nat),Num W A N v → Calls Tryd.prog 23 #[.agg #[.bool q,.slice A N C,.int .i64 y]] W fun e w' => (∃ A N C A' N' C',e = .returned (.tuple #[.agg #[.bool r,.slice A N C,.slice A' N' C'],.int .i64 0]) ∧ Mine w' W.heap.size A N C p ∧ Mine w' W.heap.size A' N' C' p') ∧ Below W.heap.size W w')) (hbn : Num w b k p) (hbd : Num w b' k' p') :
  Calls Tryd.prog 8 #[.agg #[.bool s,.slice a n cap,.int .i64 x],.agg #[.bool r,.slice b k l,.slice b' k' l']] w fun e w' => e = .returned (.bool true) ∧ Below w.heap.size w w' := by
 have HT := hide hT
 clear hT
 have HA := hide hA
 clear hA
 have HN := hide hbn
 have HD := hide hbd
 clear hbn hbd
 have err_ : (r == r) = true := by simp
 go_enter Tryd.func8,Tryd.ntmps8
 go_wp2_with fail
 refine (alive_any _ (((unhide HT).alloc _).alloc _)).mono ?_
 rintro e w1 ⟨rfl,hb1⟩
 have hS := (Fs.two w _ _ _ _).kept hb1
 obtain ⟨⟨z1_0_0,z1_0_1,z1_0_2,-⟩,⟨z1_1_0,z1_1_1,z1_1_2,-⟩,-⟩ := hS.cells
 replace HA := hide ((unhide HA).kept hS.fr)
 replace HN := hide ((unhide HN).kept hS.fr)
 replace HD := hide ((unhide HD).kept hS.fr)
 go_wp2_with fail
 refine (unhide hr1 _ hS.fr).mono ?_
 rintro e w2 ⟨⟨A1,N1,C1,B1,O1,D1,rfl,f1,g1⟩,hb2⟩
 replace hS := hS.kept hb2
 clear z1_0_0 z1_0_1 z1_0_2 z1_1_0 z1_1_1 z1_1_2
 obtain ⟨⟨z2_0_0,z2_0_1,z2_0_2,-⟩,⟨z2_1_0,z2_1_1,z2_1_2,-⟩,-⟩ := hS.cells
 replace HA := hide ((unhide HA).kept hb2)
 replace HN := hide ((unhide HN).kept hb2)
 replace HD := hide ((unhide HD).kept hb2)
 have G1 := hide f1
 have J1 := hide g1.num
 clear f1 g1
 have hrm := (unhide G1).room
 replace G1 := hide (unhide G1).num
 have hltw2_0 : w.heap.size < w2.heap.size := block_lt (hS.bx ⟨w.heap.size,#[.bool s,.slice a n cap,.int .i64 x],26⟩ (by simp))
 have hltw2_1 : w.heap.size + 1 < w2.heap.size := block_lt (hS.bx ⟨w.heap.size + 1,#[.bool r,.slice b k l,.slice b' k' l'],50⟩ (by simp))
 replace hS := hS.alloc #[.bool s,.slice A1 N1 C1,.slice B1 O1 D1] 50
 replace HA := hide ((unhide HA).alloc (.cells #[.bool s,.slice A1 N1 C1,.slice B1 O1 D1] 50))
 replace HN := hide ((unhide HN).alloc (.cells #[.bool s,.slice A1 N1 C1,.slice B1 O1 D1] 50))
 replace HD := hide ((unhide HD).alloc (.cells #[.bool s,.slice A1 N1 C1,.slice B1 O1 D1] 50))
 replace G1 := hide ((unhide G1).alloc (.cells #[.bool s,.slice A1 N1 C1,.slice B1 O1 D1] 50))
 replace J1 := hide ((unhide J1).alloc (.cells #[.bool s,.slice A1 N1 C1,.slice B1 O1 D1] 50))
 go_wp2_with fail
 refine (unhide ho1 _ A1 N1 C1 B1 O1 D1 (unhide G1) hrm.1 hrm.2 (unhide J1) ((unhide HT).kept hS.fr)).mono ?_
 rintro e w3 ⟨⟨A2,N2,C2,rfl,f2⟩,hb3⟩
 replace hS := hS.kept hb3
 clear z2_0_0 z2_0_1 z2_0_2 z2_1_0 z2_1_1 z2_1_2
 obtain ⟨⟨z3_0_0,z3_0_1,z3_0_2,-⟩,⟨z3_1_0,z3_1_1,z3_1_2,-⟩,⟨z3_2_0,z3_2_1,z3_2_2,-⟩,-⟩ := hS.cells
 replace HA := hide ((unhide HA).kept hb3)
 replace HN := hide ((unhide HN).kept hb3)
 replace HD := hide ((unhide HD).kept hb3)
 replace G1 := hide ((unhide G1).kept hb3)
 replace J1 := hide ((unhide J1).kept hb3)
 have G2 := hide f2.num
 clear f2
 have hltw3_0 : w2.heap.size < w3.heap.size := block_lt (hS.bx ⟨w2.heap.size,#[.bool s,.slice A1 N1 C1,.slice B1 O1 D1],50⟩ (by simp))
 have hltw3_1 : w.heap.size < w3.heap.size := block_lt (hS.bx ⟨w.heap.size,#[.bool s,.slice a n cap,.int .i64 x],26⟩ (by simp))
 have hltw3_2 : w.heap.size + 1 < w3.heap.size := block_lt (hS.bx ⟨w.heap.size + 1,#[.bool r,.slice b k l,.slice b' k' l'],50⟩ (by simp))
 replace hS := hS.alloc #[.bool s,.slice A2 N2 C2,.int .i64 x] 26
 replace HA := hide ((unhide HA).alloc (.cells #[.bool s,.slice A2 N2 C2,.int .i64 x] 26))
 replace HN := hide ((unhide HN).alloc (.cells #[.bool s,.slice A2 N2 C2,.int .i64 x] 26))
 replace HD := hide ((unhide HD).alloc (.cells #[.bool s,.slice A2 N2 C2,.int .i64 x] 26))
 replace G1 := hide ((unhide G1).alloc (.cells #[.bool s,.slice A2 N2 C2,.int .i64 x] 26))
 replace J1 := hide ((unhide J1).alloc (.cells #[.bool s,.slice A2 N2 C2,.int .i64 x] 26))
 replace G2 := hide ((unhide G2).alloc (.cells #[.bool s,.slice A2 N2 C2,.int .i64 x] 26))
 go_wp2_with fail
 refine (dsame_any s A2 N2 C2 m a n cap x _ (unhide G2) (unhide HA)).mono ?_
 rintro e w4 ⟨rfl,hb4⟩
 replace hS := hS.kept hb4
 clear z3_0_0 z3_0_1 z3_0_2 z3_1_0 z3_1_1 z3_1_2 z3_2_0 z3_2_1 z3_2_2
 obtain ⟨⟨z4_0_0,z4_0_1,z4_0_2,-⟩,⟨z4_1_0,z4_1_1,z4_1_2,-⟩,⟨z4_2_0,z4_2_1,z4_2_2,-⟩,⟨z4_3_0,z4_3_1,z4_3_2,-⟩,-⟩ := hS.cells
 replace HA := hide ((unhide HA).kept hb4)
 replace HN := hide ((unhide HN).kept hb4)
 replace HD := hide ((unhide HD).kept hb4)
 replace G1 := hide ((unhide G1).kept hb4)
 replace J1 := hide ((unhide J1).kept hb4)
 replace G2 := hide ((unhide G2).kept hb4)
 go_wp2_with fail
 refine (unhide ho2 _ hS.fr).mono ?_
 rintro e w5 ⟨⟨A3,N3,C3,rfl,f3⟩,hb5⟩
 replace hS := hS.kept hb5
 clear z4_0_0 z4_0_1 z4_0_2 z4_1_0 z4_1_1 z4_1_2 z4_2_0 z4_2_1 z4_2_2 z4_3_0 z4_3_1 z4_3_2
 obtain ⟨⟨z5_0_0,z5_0_1,z5_0_2,-⟩,⟨z5_1_0,z5_1_1,z5_1_2,-⟩,⟨z5_2_0,z5_2_1,z5_2_2,-⟩,⟨z5_3_0,z5_3_1,z5_3_2,-⟩,-⟩ := hS.cells
 replace HA := hide ((unhide HA).kept hb5)
 replace HN := hide ((unhide HN).kept hb5)
 replace HD := hide ((unhide HD).kept hb5)
 replace G1 := hide ((unhide G1).kept hb5)
 replace J1 := hide ((unhide J1).kept hb5)
 replace G2 := hide ((unhide G2).kept hb5)
 have G3 := hide f3.num
 clear f3
 have hltw5_0 : w3.heap.size < w5.heap.size := block_lt (hS.bx ⟨w3.heap.size,#[.bool s,.slice A2 N2 C2,.int .i64 x],26⟩ (by simp))
 have hltw5_1 : w2.heap.size < w5.heap.size := block_lt (hS.bx ⟨w2.heap.size,#[.bool s,.slice A1 N1 C1,.slice B1 O1 D1],50⟩ (by simp))
 have hltw5_2 : w.heap.size < w5.heap.size := block_lt (hS.bx ⟨w.heap.size,#[.bool s,.slice a n cap,.int .i64 x],26⟩ (by simp))
 have hltw5_3 : w.heap.size + 1 < w5.heap.size := block_lt (hS.bx ⟨w.heap.size + 1,#[.bool r,.slice b k l,.slice b' k' l'],50⟩ (by simp))
 replace hS := hS.alloc #[.bool q,.slice A3 N3 C3,.int .i64 y] 26
 replace HA := hide ((unhide HA).alloc (.cells #[.bool q,.slice A3 N3 C3,.int .i64 y] 26))
 replace HN := hide ((unhide HN).alloc (.cells #[.bool q,.slice A3 N3 C3,.int .i64 y] 26))
 replace HD := hide ((unhide HD).alloc (.cells #[.bool q,.slice A3 N3 C3,.int .i64 y] 26))
 replace G1 := hide ((unhide G1).alloc (.cells #[.bool q,.slice A3 N3 C3,.int .i64 y] 26))
 replace J1 := hide ((unhide J1).alloc (.cells #[.bool q,.slice A3 N3 C3,.int .i64 y] 26))
 replace G2 := hide ((unhide G2).alloc (.cells #[.bool q,.slice A3 N3 C3,.int .i64 y] 26))
 replace G3 := hide ((unhide G3).alloc (.cells #[.bool q,.slice A3 N3 C3,.int .i64 y] 26))
 go_wp2_with fail
 refine (unhide hr2 _ A3 N3 C3 (unhide G3)).mono ?_
 rintro e w6 ⟨⟨A4,N4,C4,B4,O4,D4,rfl,f4,g4⟩,hb6⟩
 replace hS := hS.kept hb6
 clear z5_0_0 z5_0_1 z5_0_2 z5_1_0 z5_1_1 z5_1_2 z5_2_0 z5_2_1 z5_2_2 z5_3_0 z5_3_1 z5_3_2
 obtain ⟨⟨z6_0_0,z6_0_1,z6_0_2,-⟩,⟨z6_1_0,z6_1_1,z6_1_2,-⟩,⟨z6_2_0,z6_2_1,z6_2_2,-⟩,⟨z6_3_0,z6_3_1,z6_3_2,-⟩,⟨z6_4_0,z6_4_1,z6_4_2,-⟩,-⟩ := hS.cells
 replace HA := hide ((unhide HA).kept hb6)
 replace HN := hide ((unhide HN).kept hb6)
 replace HD := hide ((unhide HD).kept hb6)
 replace G1 := hide ((unhide G1).kept hb6)
 replace J1 := hide ((unhide J1).kept hb6)
 replace G2 := hide ((unhide G2).kept hb6)
 replace G3 := hide ((unhide G3).kept hb6)
 have G4 := hide f4.num
 have J4 := hide g4.num
 clear f4 g4
 have hltw6_0 : w5.heap.size < w6.heap.size := block_lt (hS.bx ⟨w5.heap.size,#[.bool q,.slice A3 N3 C3,.int .i64 y],26⟩ (by simp))
 have hltw6_1 : w3.heap.size < w6.heap.size := block_lt (hS.bx ⟨w3.heap.size,#[.bool s,.slice A2 N2 C2,.int .i64 x],26⟩ (by simp))
 have hltw6_2 : w2.heap.size < w6.heap.size := block_lt (hS.bx ⟨w2.heap.size,#[.bool s,.slice A1 N1 C1,.slice B1 O1 D1],50⟩ (by simp))
 have hltw6_3 : w.heap.size < w6.heap.size := block_lt (hS.bx ⟨w.heap.size,#[.bool s,.slice a n cap,.int .i64 x],26⟩ (by simp))
 have hltw6_4 : w.heap.size + 1 < w6.heap.size := block_lt (hS.bx ⟨w.heap.size + 1,#[.bool r,.slice b k l,.slice b' k' l'],50⟩ (by simp))
 replace hS := hS.alloc #[.bool r,.slice A4 N4 C4,.slice B4 O4 D4] 50
 replace HA := hide ((unhide HA).alloc (.cells #[.bool r,.slice A4 N4 C4,.slice B4 O4 D4] 50))
 replace HN := hide ((unhide HN).alloc (.cells #[.bool r,.slice A4 N4 C4,.slice B4 O4 D4] 50))
 replace HD := hide ((unhide HD).alloc (.cells #[.bool r,.slice A4 N4 C4,.slice B4 O4 D4] 50))
 replace G1 := hide ((unhide G1).alloc (.cells #[.bool r,.slice A4 N4 C4,.slice B4 O4 D4] 50))
 replace J1 := hide ((unhide J1).alloc (.cells #[.bool r,.slice A4 N4 C4,.slice B4 O4 D4] 50))
 replace G2 := hide ((unhide G2).alloc (.cells #[.bool r,.slice A4 N4 C4,.slice B4 O4 D4] 50))
 replace G3 := hide ((unhide G3).alloc (.cells #[.bool r,.slice A4 N4 C4,.slice B4 O4 D4] 50))
 replace G4 := hide ((unhide G4).alloc (.cells #[.bool r,.slice A4 N4 C4,.slice B4 O4 D4] 50))
 replace J4 := hide ((unhide J4).alloc (.cells #[.bool r,.slice A4 N4 C4,.slice B4 O4 D4] 50))
 go_wp2_with fail
 refine (same_yes A4 b N4 k C4 l p _ (unhide G4) (unhide HN)).mono ?_
 rintro e w7 ⟨rfl,hb7⟩
 replace hS := hS.kept hb7
 clear z6_0_0 z6_0_1 z6_0_2 z6_1_0 z6_1_1 z6_1_2 z6_2_0 z6_2_1 z6_2_2 z6_3_0 z6_3_1 z6_3_2 z6_4_0 z6_4_1 z6_4_2
 obtain ⟨⟨z7_0_0,z7_0_1,z7_0_2,-⟩,⟨z7_1_0,z7_1_1,z7_1_2,-⟩,⟨z7_2_0,z7_2_1,z7_2_2,-⟩,⟨z7_3_0,z7_3_1,z7_3_2,-⟩,⟨z7_4_0,z7_4_1,z7_4_2,-⟩,⟨z7_5_0,z7_5_1,z7_5_2,-⟩,-⟩ := hS.cells
 replace HA := hide ((unhide HA).kept hb7)
 replace HN := hide ((unhide HN).kept hb7)
 replace HD := hide ((unhide HD).kept hb7)
 replace G1 := hide ((unhide G1).kept hb7)
 replace J1 := hide ((unhide J1).kept hb7)
 replace G2 := hide ((unhide G2).kept hb7)
 replace G3 := hide ((unhide G3).kept hb7)
 replace G4 := hide ((unhide G4).kept hb7)
 replace J4 := hide ((unhide J4).kept hb7)
 go_wp2_with fail
 refine (same_yes B4 b' O4 k' D4 l' p' _ (unhide J4) (unhide HD)).mono ?_
 rintro e w8 ⟨rfl,hb8⟩
 replace hS := hS.kept hb8
 clear z7_0_0 z7_0_1 z7_0_2 z7_1_0 z7_1_1 z7_1_2 z7_2_0 z7_2_1 z7_2_2 z7_3_0 z7_3_1 z7_3_2 z7_4_0 z7_4_1 z7_4_2 z7_5_0 z7_5_1 z7_5_2
 obtain ⟨⟨z8_0_0,z8_0_1,z8_0_2,-⟩,⟨z8_1_0,z8_1_1,z8_1_2,-⟩,⟨z8_2_0,z8_2_1,z8_2_2,-⟩,⟨z8_3_0,z8_3_1,z8_3_2,-⟩,⟨z8_4_0,z8_4_1,z8_4_2,-⟩,⟨z8_5_0,z8_5_1,z8_5_2,-⟩,-⟩ := hS.cells
 replace HA := hide ((unhide HA).kept hb8)
 replace HN := hide ((unhide HN).kept hb8)
 replace HD := hide ((unhide HD).kept hb8)
 replace G1 := hide ((unhide G1).kept hb8)
 replace J1 := hide ((unhide J1).kept hb8)
 replace G2 := hide ((unhide G2).kept hb8)
 replace G3 := hide ((unhide G3).kept hb8)
 replace G4 := hide ((unhide G4).kept hb8)
 replace J4 := hide ((unhide J4).kept hb8)
 go_wp2
 go_ret
 exact ⟨rfl,hS.fr⟩
end Go.Proofs.YtecmcjlgknfnlaaDoor
namespace Go.Proofs.YtecmcjlgknfnlaaDoor
open Go.RowKit
end Go.Proofs.YtecmcjlgknfnlaaDoor
