/- Of what NearBesideRow stands on: NrWor NrBord. -/
import Derived.Test.YtkebhccbhoamjaaGreatDoorPbd
namespace Go.Proofs.YtkebhccbhoamjaaGreatDoor
open Go.RowKit
set_option maxRecDepth 20000 in
set_option maxHeartbeats 4000000 in
theorem worth_fin (E F b b' : Int) (md : Int) (p : Nat) (s : Bool) (m : Nat) (x : Int) (c : Int) (w : World) (hT : Tb w) (hp : w.heap[p]? = some (.cells #[.int .i64 E,.int .i64 F,.int .u64 b,.int .u8 md,.int .i64 0] 109 (0,0))) (hc : (c != (4 : Int)) = true) (HC : Tel 37 #[.agg #[.int .i64 E,.int .i64 F],.int .u64 b'] (.tuple #[.int .u8 c,.int .i64 0])) (HV : Hid (Vals E F b' s m x)) :
  Calls Tryz.prog 130 #[.pointer (some ⟨p,0,none⟩),.int .u64 b',.int .i64 0] w fun e w' => (∃ A N C,e = .returned (.agg #[.bool s,.slice A N C,.int .i64 x]) ∧ Mine w' w.heap.size A N C m) ∧ Below w.heap.size w w' := by
 have HT := hide hT
 clear hT
 go_enter Tryz.func130,Tryz.ntmps130
 have HR : Hid (Rn w p 4) := hide ⟨_,_,hp,rfl⟩
 have hS : Fs w w [⟨p,#[.int .i64 E,.int .i64 F,.int .u64 b,.int .u8 md,.int .i64 0],109⟩] := ⟨fun x hx => by rcases List.mem_cons.1 hx with rfl | hx; exact hp; exact absurd hx List.not_mem_nil,Below.refl _ _⟩
 have hlt0 : p < w.heap.size := block_lt hp
 clear hp
 replace hS := hS.alloc #[.bool false,.slice none 0 0,.int .i64 0] 33
 obtain ⟨⟨z1_0_0,z1_0_1,z1_0_2,-⟩,⟨z1_1_0,z1_1_1,z1_1_2,z1_1_3,z1_1_4,-⟩,-⟩ := hS.cells
 go_wp2_with fail
 refine (keep_0 p 4 _ ((unhide HR).kept hS.fr)).mono ?_
 rintro e w1 ⟨rfl,hb1⟩
 replace hS := hS.kept hb1
 clear z1_0_0 z1_0_1 z1_0_2 z1_1_0 z1_1_1 z1_1_2 z1_1_3 z1_1_4
 obtain ⟨⟨z2_0_0,z2_0_1,z2_0_2,-⟩,⟨z2_1_0,z2_1_1,z2_1_2,z2_1_3,z2_1_4,-⟩,-⟩ := hS.cells
 go_wp2_with fail
 refine (HC _).mono ?_
 rintro e w2 ⟨rfl,hb2⟩
 replace hS := hS.kept hb2
 clear z2_0_0 z2_0_1 z2_0_2 z2_1_0 z2_1_1 z2_1_2 z2_1_3 z2_1_4
 obtain ⟨⟨z3_0_0,z3_0_1,z3_0_2,-⟩,⟨z3_1_0,z3_1_1,z3_1_2,z3_1_3,z3_1_4,-⟩,-⟩ := hS.cells
 go_wp2_with fail
 refine (keep_0 p 4 _ ((unhide HR).kept hS.fr)).mono ?_
 rintro e w3 ⟨rfl,hb3⟩
 replace hS := hS.kept hb3
 clear z3_0_0 z3_0_1 z3_0_2 z3_1_0 z3_1_1 z3_1_2 z3_1_3 z3_1_4
 obtain ⟨⟨z4_0_0,z4_0_1,z4_0_2,-⟩,⟨z4_1_0,z4_1_1,z4_1_2,z4_1_3,z4_1_4,-⟩,-⟩ := hS.cells
 have hltw3_0 : w.heap.size < w3.heap.size := block_lt (hS.bx ⟨w.heap.size,#[.bool false,.slice none 0 0,.int .i64 0],33⟩ (by simp))
 have hltw3_1 : p < w3.heap.size := block_lt (hS.bx ⟨p,#[.int .i64 E,.int .i64 F,.int .u64 b,.int .u8 md,.int .i64 0],109⟩ (by simp))
 go_wp2_with fail
 have hS3s : w.heap.size ≤ w3.heap.size := hS.size
 have hs9 : ∀ x9 : Nat × (Pk → World → Prop),x9 ∈ ([(8,fun q W => Mine W (w.heap.size + 1) q.A q.N q.C (m))] : List (Nat × (Pk → World → Prop))) → ∀ q9 : Pk,St (w.heap.size + 1) (x9.2 q9) := by
  intro x hx q
  simp only [List.mem_cons,List.not_mem_nil,or_false] at hx
  rcases hx with rfl
  ·exact st_mine _ _ _ _ _
 have h09 : ∀ x9 : Nat × (Pk → World → Prop),x9 ∈ ([(8,fun q W => Mine W (w.heap.size + 1) q.A q.N q.C (m))] : List (Nat × (Pk → World → Prop))) → 13 ≤ x9.1 → x9.2 ⟨none,0,0⟩ w3 := by
  intro x hx hn9
  simp only [List.mem_cons,List.not_mem_nil,or_false] at hx
  rcases hx with rfl
  ·exact absurd hn9 (by simp)
 refine wp_region_any (by kernel_rfl) ?_
 refine wpAny_pick (fun p9 => [some (31,.pointer (some ⟨p,0,none⟩)),some (32,.pointer (some ⟨p,0,none⟩)),some (33,.pointer (some ⟨p,4,none⟩)),some (34,.pointer (some ⟨p,0,none⟩)),some (35,.pointer (some ⟨p,0,none⟩)),some (36,.pointer (some ⟨p,0,none⟩)),some (37,.agg #[.int .i64 E,.int .i64 F]),some (38,.int .u64 b'),some (39,.tuple #[.agg #[.bool s,.slice (p9 8).A (p9 8).N (p9 8).C,.int .i64 x],.int .i64 0]),some (40,.agg #[.bool s,.slice (p9 8).A (p9 8).N (p9 8).C,.int .i64 x]),some (41,.int .i64 0),some (42,.agg #[.bool s,.slice (p9 8).A (p9 8).N (p9 8).C,.int .i64 x]),none])
  (fun p9 l9 W9 => Pm w (w.heap.size + 1) [(8,fun q W => Mine W (w.heap.size + 1) q.A q.N q.C (m))] p9 l9 W9 (pickBs l9 [(12,[⟨w.heap.size,#[.bool s,.slice (p9 8).A (p9 8).N (p9 8).C,.int .i64 x],33⟩,⟨p,#[.int .i64 E,.int .i64 F,.int .u64 b,.int .u8 md,.int .i64 0],109⟩])] [⟨w.heap.size,#[.bool false,.slice none 0 0,.int .i64 0],33⟩,⟨p,#[.int .i64 E,.int .i64 F,.int .u64 b,.int .u8 md,.int .i64 0],109⟩])) _ _ (fun _ => rfl) (by kernel_rfl) (fun _ => rfl) (fun _ => rfl) ?_ ?_ (fun _ => ⟨none,0,0⟩) (Pm.start2 hS _ _ _ (by omega) hs9 h09)
 ·intro p9 l9 t9 W9 i9 hD hi9 hl9 hM
  obtain ⟨o9,ho9,hd9⟩ := (mem_ready.1 hi9).2
  have hin9 : i9 < 13 := by
   by_cases h : i9 < 13
   ·exact h
   ·rw [Array.getElem?_eq_none (by rw [hD.len]; simp; omega)] at hl9; cases hl9
  have hcase : i9 = 0 ∨ i9 = 1 ∨ i9 = 2 ∨ i9 = 3 ∨ i9 = 4 ∨ i9 = 5 ∨ i9 = 6 ∨ i9 = 7 ∨ i9 = 8 ∨ i9 = 9 ∨ i9 = 10 ∨ i9 = 11 ∨ i9 = 12 := by omega
  clear hin9
  rcases hcase with rfl | rfl | rfl | rfl | rfl | rfl | rfl | rfl | rfl | rfl | rfl | rfl | rfl
  ·cases ho9
   have r0 := hD.old 0 _ rfl rfl
   clear hD hd9 hi9
   refine wpOp_step rfl (fun K hK => ?_)
   go_simp
   exact hK _ _ ⟨p9,fun _ _ => rfl,rfl,(Pm.keepM rfl (hM.val rfl))⟩
  ·cases ho9
   have r31 := hD.on 0 31 _ rfl (getD_true (hd9 ⟨0,.data⟩ (by simp) rfl))
   clear hD hd9 hi9
   refine wpOp_step rfl (fun K hK => ?_)
   go_simp
   exact hK _ _ ⟨p9,fun _ _ => rfl,rfl,(Pm.keepM rfl (hM.val rfl))⟩
  ·cases ho9
   have r32 := hD.on 1 32 _ rfl (getD_true (hd9 ⟨1,.data⟩ (by simp) rfl))
   clear hD hd9 hi9
   refine wpOp_step rfl (fun K hK => ?_)
   go_simp
   exact hK _ _ ⟨p9,fun _ _ => rfl,rfl,(Pm.keepM rfl (hM.val rfl))⟩
  ·cases ho9
   have r0 := hD.old 0 _ rfl rfl
   clear hD hd9 hi9
   refine wpOp_step rfl (fun K hK => ?_)
   go_simp
   exact hK _ _ ⟨p9,fun _ _ => rfl,rfl,(Pm.keepM rfl (hM.val rfl))⟩
  ·cases ho9
   have r34 := hD.on 3 34 _ rfl (getD_true (hd9 ⟨3,.data⟩ (by simp) rfl))
   clear hD hd9 hi9
   refine wpOp_step rfl (fun K hK => ?_)
   go_simp
   exact hK _ _ ⟨p9,fun _ _ => rfl,rfl,(Pm.keepM rfl (hM.val rfl))⟩
  ·cases ho9
   have r35 := hD.on 4 35 _ rfl (getD_true (hd9 ⟨4,.data⟩ (by simp) rfl))
   clear hD hd9 hi9
   refine wpOp_step rfl (fun K hK => ?_)
   go_simp
   exact hK _ _ ⟨p9,fun _ _ => rfl,rfl,(Pm.keepM rfl (hM.val rfl))⟩
  ·cases ho9
   have r36 := hD.on 5 36 _ rfl (getD_true (hd9 ⟨5,.data⟩ (by simp) rfl))
   have hM0 : Fs w W9 [⟨w.heap.size,#[.bool false,.slice none 0 0,.int .i64 0],33⟩,⟨p,#[.int .i64 E,.int .i64 F,.int .u64 b,.int .u8 md,.int .i64 0],109⟩] := by
    have hM1 := hM.st
    simp only [pickBs] at hM1
    rw [if_neg (hD.waits 6 12 _ ⟨6,.phase⟩ hl9 rfl (by simp) rfl rfl)] at hM1
    exact hM1
   have c9_0 := hM0.cellAt (b := p) (cs := #[.int .i64 E,.int .i64 F,.int .u64 b,.int .u8 md,.int .i64 0]) (t := 109) (by simp) 0 _ rfl
   have c9_1 := hM0.cellAt (b := p) (cs := #[.int .i64 E,.int .i64 F,.int .u64 b,.int .u8 md,.int .i64 0]) (t := 109) (by simp) 1 _ rfl
   clear hM0
   clear hD hd9 hi9
   refine wpOp_step rfl (fun K hK => ?_)
   go_simp
   exact hK _ _ ⟨p9,fun _ _ => rfl,rfl,(Pm.keepM rfl (hM.val rfl))⟩
  ·cases ho9
   have r1 := hD.old 1 _ rfl rfl
   clear hD hd9 hi9
   refine wpOp_step rfl (fun K hK => ?_)
   go_simp
   exact hK _ _ ⟨p9,fun _ _ => rfl,rfl,(Pm.keepM rfl (hM.val rfl))⟩
  ·cases ho9
   have r37 := hD.on 6 37 _ rfl (getD_true (hd9 ⟨6,.data⟩ (by simp) rfl))
   have r38 := hD.on 7 38 _ rfl (getD_true (hd9 ⟨7,.data⟩ (by simp) rfl))
   have hM0 : Fs w W9 [⟨w.heap.size,#[.bool false,.slice none 0 0,.int .i64 0],33⟩,⟨p,#[.int .i64 E,.int .i64 F,.int .u64 b,.int .u8 md,.int .i64 0],109⟩] := by
    have hM1 := hM.st
    simp only [pickBs] at hM1
    rw [if_neg (hD.waits 8 12 _ ⟨8,.phase⟩ hl9 rfl (by simp) rfl rfl)] at hM1
    exact hM1
   have HD := hide hD
   have hn12 := hD.waits 8 12 _ ⟨8,.phase⟩ hl9 rfl (by simp) rfl rfl
   clear hD hd9 hi9
   refine wpOp_step rfl (fun K hK => ?_)
   go_simp
   go_wp2_with fail
   refine (unhide HV _ ((unhide HT).kept hM.st.fr)).mono ?_
   rintro en w9 ⟨⟨a9,n9,c9,rfl,h9⟩,hb9⟩
   refine hK _ _ ⟨p9.set 8 ⟨a9,n9,c9⟩,?_,rfl,(Pm.keepM rfl (((hM.kept hs9 hb9).pick ⟨a9,n9,c9⟩ ?_).into (by simp only [pickBs]; rw [if_neg hn12,if_neg hn12])))⟩
   ·intro k9 hk9
    clear hM hK
    match k9,hk9 with
    | 0,_ => rfl
    | 1,_ => rfl
    | 2,_ => rfl
    | 3,_ => rfl
    | 4,_ => rfl
    | 5,_ => rfl
    | 6,_ => rfl
    | 7,_ => rfl
    | 8,hk9 => exact absurd (hl9.symm.trans hk9) (by simp)
    | 9,hk9 => exact absurd (hl9.symm.trans (getD_true ((unhide HD).shut 9 _ (hk9) rfl ⟨8,.data⟩ (by simp) rfl))) (by simp)
    | 10,hk9 => exact absurd (hl9.symm.trans (getD_true ((unhide HD).shut 10 _ (hk9) rfl ⟨8,.data⟩ (by simp) rfl))) (by simp)
    | 11,hk9 => exact absurd (hl9.symm.trans (getD_true ((unhide HD).shut 11 _ (hk9) rfl ⟨8,.chain⟩ (by simp) rfl))) (by simp)
    | 12,hk9 => exact absurd (hl9.symm.trans (getD_true ((unhide HD).shut 12 _ (hk9) rfl ⟨8,.phase⟩ (by simp) rfl))) (by simp)
    | k9 + 13,_ => rfl
   ·intro x hx he; simp only [List.mem_cons,List.not_mem_nil,or_false] at hx; subst hx; exact h9.mono hM.bw
  ·cases ho9
   have r39 := hD.on 8 39 _ rfl (getD_true (hd9 ⟨8,.data⟩ (by simp) rfl))
   clear hD hd9 hi9
   refine wpOp_step rfl (fun K hK => ?_)
   go_simp
   exact hK _ _ ⟨p9,fun _ _ => rfl,rfl,(Pm.keepM rfl (hM.val rfl))⟩
  ·cases ho9
   have r39 := hD.on 8 39 _ rfl (getD_true (hd9 ⟨8,.data⟩ (by simp) rfl))
   clear hD hd9 hi9
   refine wpOp_step rfl (fun K hK => ?_)
   go_simp
   exact hK _ _ ⟨p9,fun _ _ => rfl,rfl,(Pm.keepM rfl (hM.val rfl))⟩
  ·cases ho9
   have r33 := hD.on 2 33 _ rfl (getD_true (hd9 ⟨2,.data⟩ (by simp) rfl))
   have r40 := hD.on 9 40 _ rfl (getD_true (hd9 ⟨9,.data⟩ (by simp) rfl))
   have r41 := hD.on 10 41 _ rfl (getD_true (hd9 ⟨10,.data⟩ (by simp) rfl))
   have g8 := hM.fx _ (List.mem_of_getElem? (i := 0) rfl) (Or.inl (getD_true (hd9 ⟨8,.chain⟩ (by simp) rfl)))
   simp only [] at g8
   have hM0 : Fs w W9 [⟨w.heap.size,#[.bool false,.slice none 0 0,.int .i64 0],33⟩,⟨p,#[.int .i64 E,.int .i64 F,.int .u64 b,.int .u8 md,.int .i64 0],109⟩] := by
    have hM1 := hM.st
    simp only [pickBs] at hM1
    rw [if_neg (hD.waits 11 12 _ ⟨11,.data⟩ hl9 rfl (by simp) rfl rfl)] at hM1
    exact hM1
   clear hD hd9 hi9
   refine wpOp_step rfl (fun K hK => ?_)
   go_simp
   go_wp2_with fail
   refine (runDyadic_0 p 4 _ _ _ _ _ _ ((unhide HR).kept hM.st.fr)).mono ?_
   rintro en w9 ⟨rfl,hb9⟩
   exact hK _ _ ⟨p9,fun _ _ => rfl,rfl,(Pm.keepM rfl ((hM.kept hs9 hb9).val rfl))⟩
  ·cases ho9
   have r6 := hD.old 6 _ rfl rfl
   have r42 := hD.on 11 42 _ rfl (getD_true (hd9 ⟨11,.data⟩ (by simp) rfl))
   have hM0 : Fs w W9 [⟨w.heap.size,#[.bool false,.slice none 0 0,.int .i64 0],33⟩,⟨p,#[.int .i64 E,.int .i64 F,.int .u64 b,.int .u8 md,.int .i64 0],109⟩] := by
    have hM1 := hM.st
    simp only [pickBs] at hM1
    rw [if_neg (by rw [hl9]; simp)] at hM1
    exact hM1
   have c9_0 := hM0.cellAt (b := w.heap.size) (cs := #[.bool false,.slice none 0 0,.int .i64 0]) (t := 33) (by simp) 0 _ rfl
   have z9_0 := hM0.frozen (b := w.heap.size) (cs := #[.bool false,.slice none 0 0,.int .i64 0]) (t := 33) (by simp) 0
   have c9_1 := hM0.cellAt (b := w.heap.size) (cs := #[.bool false,.slice none 0 0,.int .i64 0]) (t := 33) (by simp) 1 _ rfl
   have z9_1 := hM0.frozen (b := w.heap.size) (cs := #[.bool false,.slice none 0 0,.int .i64 0]) (t := 33) (by simp) 1
   have c9_2 := hM0.cellAt (b := w.heap.size) (cs := #[.bool false,.slice none 0 0,.int .i64 0]) (t := 33) (by simp) 2 _ rfl
   have z9_2 := hM0.frozen (b := w.heap.size) (cs := #[.bool false,.slice none 0 0,.int .i64 0]) (t := 33) (by simp) 2
   clear hD hd9 hi9
   refine wpOp_step rfl (fun K hK => ?_)
   go_simp
   exact hK _ _ ⟨p9,fun _ _ => rfl,rfl,Pm.putM hl9 ((((hM.val rfl).put hs9 _ _ (by simp <;> omega) (hM0.put (b := w.heap.size) (cs := #[.bool false,.slice none 0 0,.int .i64 0]) (t := 33) (by simp) (by simp) 0 (.bool s) [⟨w.heap.size,#[.bool s,.slice none 0 0,.int .i64 0],33⟩,⟨p,#[.int .i64 E,.int .i64 F,.int .u64 b,.int .u8 md,.int .i64 0],109⟩] (by simp <;> omega))).put hs9 _ _ (by simp <;> omega) ((hM0.put (b := w.heap.size) (cs := #[.bool false,.slice none 0 0,.int .i64 0]) (t := 33) (by simp) (by simp) 0 (.bool s) [⟨w.heap.size,#[.bool s,.slice none 0 0,.int .i64 0],33⟩,⟨p,#[.int .i64 E,.int .i64 F,.int .u64 b,.int .u8 md,.int .i64 0],109⟩] (by simp <;> omega)).put (b := w.heap.size) (cs := #[.bool s,.slice none 0 0,.int .i64 0]) (t := 33) (by simp) (by simp) 1 (.slice (p9 8).A (p9 8).N (p9 8).C) [⟨w.heap.size,#[.bool s,.slice (p9 8).A (p9 8).N (p9 8).C,.int .i64 0],33⟩,⟨p,#[.int .i64 E,.int .i64 F,.int .u64 b,.int .u8 md,.int .i64 0],109⟩] (by simp <;> omega))).put hs9 _ _ (by simp <;> omega) (((hM0.put (b := w.heap.size) (cs := #[.bool false,.slice none 0 0,.int .i64 0]) (t := 33) (by simp) (by simp) 0 (.bool s) [⟨w.heap.size,#[.bool s,.slice none 0 0,.int .i64 0],33⟩,⟨p,#[.int .i64 E,.int .i64 F,.int .u64 b,.int .u8 md,.int .i64 0],109⟩] (by simp <;> omega)).put (b := w.heap.size) (cs := #[.bool s,.slice none 0 0,.int .i64 0]) (t := 33) (by simp) (by simp) 1 (.slice (p9 8).A (p9 8).N (p9 8).C) [⟨w.heap.size,#[.bool s,.slice (p9 8).A (p9 8).N (p9 8).C,.int .i64 0],33⟩,⟨p,#[.int .i64 E,.int .i64 F,.int .u64 b,.int .u8 md,.int .i64 0],109⟩] (by simp <;> omega)).put (b := w.heap.size) (cs := #[.bool s,.slice (p9 8).A (p9 8).N (p9 8).C,.int .i64 0]) (t := 33) (by simp) (by simp) 2 (.int .i64 x) [⟨w.heap.size,#[.bool s,.slice (p9 8).A (p9 8).N (p9 8).C,.int .i64 x],33⟩,⟨p,#[.int .i64 E,.int .i64 F,.int .u64 b,.int .u8 md,.int .i64 0],109⟩] (by simp <;> omega)))⟩
 ·intro p9 l9 W9 hn9 hl9 hM
  have fr5_8 := hM.fx _ (List.mem_of_getElem? (i := 0) rfl) (Or.inl (hl9 8 (by decide)))
  replace hM := hM.st
  simp only [pickBs] at hM
  rw [if_pos (hl9 12 (by decide))] at hM
  clear hl9 hs9 h09 hn9
  generalize p9 8 = q8 at *
  obtain ⟨Ar5_8,Nr5_8,Cr5_8⟩ := q8
  simp only [] at fr5_8
  clear hS z4_0_0 z4_0_1 z4_0_2 z4_1_0 z4_1_1 z4_1_2 z4_1_3 z4_1_4
  have hS := hM
  clear hM
  simp only [Puts.lay,List.setIfInBounds_toArray,List.set_cons_zero,List.set_cons_succ]
  obtain ⟨⟨z5_0_0,z5_0_1,z5_0_2,-⟩,⟨z5_1_0,z5_1_1,z5_1_2,z5_1_3,z5_1_4,-⟩,-⟩ := hS.cells
  go_wp2
  exact bodyPost_ret (v := .agg #[.bool s,.slice Ar5_8 Nr5_8 Cr5_8,.int .i64 x]) (by simp [results,Tryz.results130,go_sem,z5_0_0,z5_0_1,z5_0_2]) rfl ⟨⟨_,_,_,rfl,Mine.mono (show Mine W9 _ _ _ _ _ from unhide fr5_8) (by omega)⟩,hS.fr⟩
end Go.Proofs.YtkebhccbhoamjaaGreatDoor
namespace Go.Proofs.YtkebhccbhoamjaaGreatDoor
open Go.RowKit
def Bord (md : Nat) (s : Bool) (m : Nat) (x : Int) (s' : Bool) (m' : Nat) (x' : Int) (r : Bool) (v : Nat) (y : Int) : Prop :=
 (md ≤ 1 ∧ ∃ r1 v1 y1,SumsM s m x s' m' x' 0 r1 v1 y1 ∧ ProdsM r1 v1 y1 false 1 (-1) 0 r v y) ∨ ((md = 4 ∨ (md = 2 ∧ s = false)) ∧ r = s' ∧ v = m' ∧ y = x') ∨ ((md = 3 ∨ (md = 2 ∧ s = true)) ∧ r = s ∧ v = m ∧ y = x)
set_option maxRecDepth 20000 in
set_option maxHeartbeats 4000000 in
theorem border_0 (E F b : Int) (p : Nat) (s : Bool) (a : Option Addr) (n cap m : Nat) (x : Int) (s' : Bool) (a' : Option Addr) (n' cap' m' : Nat) (x' : Int) (r1 : Bool) (v1 : Nat) (y1 : Int) (r2 : Bool) (v2 : Nat) (y2 : Int) (w : World) (h : Num w a n m) (h' : Num w a' n' m') (hT : Tb w) (hp : w.heap[p]? = some (.cells #[.int .i64 E,.int .i64 F,.int .u64 b,.int .u8 0,.int .i64 0] 109 (0,0))) (HK : Hid (Mk1 false (-1))) (HS : Hid (SumsM s m x s' m' x' 0 r1 v1 y1)) (HP : Hid (ProdsM r1 v1 y1 false 1 (-1) 0 r2 v2 y2)) :
  Calls Tryz.prog 129 #[.pointer (some ⟨p,0,none⟩),.agg #[.bool s,.slice a n cap,.int .i64 x],.agg #[.bool s',.slice a' n' cap',.int .i64 x']] w fun e w' => (∃ A N C,e = .returned (.agg #[.bool r2,.slice A N C,.int .i64 y2]) ∧ Mine w' w.heap.size A N C v2) ∧ Below w.heap.size w w' := by
 have H := hide h
 have H' := hide h'
 have HT := hide hT
 clear h h' hT
 go_enter Tryz.func129,Tryz.ntmps129
 have HR : Hid (Rn w p 4) := hide ⟨_,_,hp,rfl⟩
 have hS : Fs w w [⟨p,#[.int .i64 E,.int .i64 F,.int .u64 b,.int .u8 0,.int .i64 0],109⟩] := ⟨fun x hx => by rcases List.mem_cons.1 hx with rfl | hx; exact hp; exact absurd hx List.not_mem_nil,Below.refl _ _⟩
 have hlt0 : p < w.heap.size := block_lt hp
 clear hp
 replace hS := hS.alloc #[.bool s,.slice a n cap,.int .i64 x] 33
 replace hS := hS.alloc #[.bool s',.slice a' n' cap',.int .i64 x'] 33
 replace hS := hS.alloc #[.bool false,.slice none 0 0,.int .i64 0] 33
 simp only [World.size_alloc] at hS
 obtain ⟨⟨z1_0_0,z1_0_1,z1_0_2,-⟩,⟨z1_1_0,z1_1_1,z1_1_2,-⟩,⟨z1_2_0,z1_2_1,z1_2_2,-⟩,⟨z1_3_0,z1_3_1,z1_3_2,z1_3_3,z1_3_4,-⟩,-⟩ := hS.cells
 go_wp2_with fail
 have hS3s : w.heap.size ≤ (((w.alloc (.cells #[.bool s,.slice a n cap,.int .i64 x] 33)).alloc (.cells #[.bool s',.slice a' n' cap',.int .i64 x'] 33)).alloc (.cells #[.bool false,.slice none 0 0,.int .i64 0] 33)).heap.size := hS.size
 have hs9 : ∀ x9 : Nat × (Pk → World → Prop),x9 ∈ ([(5,fun q W => Mine W (w.heap.size + 3) q.A q.N q.C (v2))] : List (Nat × (Pk → World → Prop))) → ∀ q9 : Pk,St (w.heap.size + 3) (x9.2 q9) := by
  intro x hx q
  simp only [List.mem_cons,List.not_mem_nil,or_false] at hx
  rcases hx with rfl
  ·exact st_mine _ _ _ _ _
 have h09 : ∀ x9 : Nat × (Pk → World → Prop),x9 ∈ ([(5,fun q W => Mine W (w.heap.size + 3) q.A q.N q.C (v2))] : List (Nat × (Pk → World → Prop))) → 7 ≤ x9.1 → x9.2 ⟨none,0,0⟩ (((w.alloc (.cells #[.bool s,.slice a n cap,.int .i64 x] 33)).alloc (.cells #[.bool s',.slice a' n' cap',.int .i64 x'] 33)).alloc (.cells #[.bool false,.slice none 0 0,.int .i64 0] 33)) := by
  intro x hx hn9
  simp only [List.mem_cons,List.not_mem_nil,or_false] at hx
  rcases hx with rfl
  ·exact absurd hn9 (by simp)
 refine wp_region_any (by kernel_rfl) ?_
 refine wpAny_pick (fun p9 => [some (14,.pointer (some ⟨p,0,none⟩)),some (15,.pointer (some ⟨p,0,none⟩)),some (16,.pointer (some ⟨p,4,none⟩)),some (17,.agg #[.bool s,.slice a n cap,.int .i64 x]),some (18,.agg #[.bool s',.slice a' n' cap',.int .i64 x']),some (19,.agg #[.bool r2,.slice (p9 5).A (p9 5).N (p9 5).C,.int .i64 y2]),none])
  (fun p9 l9 W9 => Pm w (w.heap.size + 3) [(5,fun q W => Mine W (w.heap.size + 3) q.A q.N q.C (v2))] p9 l9 W9 (pickBs l9 [(6,[⟨w.heap.size + 2,#[.bool r2,.slice (p9 5).A (p9 5).N (p9 5).C,.int .i64 y2],33⟩,⟨w.heap.size + 1,#[.bool s',.slice a' n' cap',.int .i64 x'],33⟩,⟨w.heap.size,#[.bool s,.slice a n cap,.int .i64 x],33⟩,⟨p,#[.int .i64 E,.int .i64 F,.int .u64 b,.int .u8 0,.int .i64 0],109⟩])] [⟨w.heap.size + 2,#[.bool false,.slice none 0 0,.int .i64 0],33⟩,⟨w.heap.size + 1,#[.bool s',.slice a' n' cap',.int .i64 x'],33⟩,⟨w.heap.size,#[.bool s,.slice a n cap,.int .i64 x],33⟩,⟨p,#[.int .i64 E,.int .i64 F,.int .u64 b,.int .u8 0,.int .i64 0],109⟩])) _ _ (fun _ => rfl) (by kernel_rfl) (fun _ => rfl) (fun _ => rfl) ?_ ?_ (fun _ => ⟨none,0,0⟩) (Pm.start2 hS _ _ _ (by simp) hs9 h09)
 ·intro p9 l9 t9 W9 i9 hD hi9 hl9 hM
  obtain ⟨o9,ho9,hd9⟩ := (mem_ready.1 hi9).2
  have hin9 : i9 < 7 := by
   by_cases h : i9 < 7
   ·exact h
   ·rw [Array.getElem?_eq_none (by rw [hD.len]; simp; omega)] at hl9; cases hl9
  have hcase : i9 = 0 ∨ i9 = 1 ∨ i9 = 2 ∨ i9 = 3 ∨ i9 = 4 ∨ i9 = 5 ∨ i9 = 6 := by omega
  clear hin9
  rcases hcase with rfl | rfl | rfl | rfl | rfl | rfl | rfl
  ·cases ho9
   have r0 := hD.old 0 _ rfl rfl
   clear hD hd9 hi9
   refine wpOp_step rfl (fun K hK => ?_)
   go_simp
   exact hK _ _ ⟨p9,fun _ _ => rfl,rfl,(Pm.keepM rfl (hM.val rfl))⟩
  ·cases ho9
   have r14 := hD.on 0 14 _ rfl (getD_true (hd9 ⟨0,.data⟩ (by simp) rfl))
   clear hD hd9 hi9
   refine wpOp_step rfl (fun K hK => ?_)
   go_simp
   exact hK _ _ ⟨p9,fun _ _ => rfl,rfl,(Pm.keepM rfl (hM.val rfl))⟩
  ·cases ho9
   have r15 := hD.on 1 15 _ rfl (getD_true (hd9 ⟨1,.data⟩ (by simp) rfl))
   clear hD hd9 hi9
   refine wpOp_step rfl (fun K hK => ?_)
   go_simp
   exact hK _ _ ⟨p9,fun _ _ => rfl,rfl,(Pm.keepM rfl (hM.val rfl))⟩
  ·cases ho9
   have r4 := hD.old 4 _ rfl rfl
   have hM0 : Fs w W9 [⟨w.heap.size + 2,#[.bool false,.slice none 0 0,.int .i64 0],33⟩,⟨w.heap.size + 1,#[.bool s',.slice a' n' cap',.int .i64 x'],33⟩,⟨w.heap.size,#[.bool s,.slice a n cap,.int .i64 x],33⟩,⟨p,#[.int .i64 E,.int .i64 F,.int .u64 b,.int .u8 0,.int .i64 0],109⟩] := by
    have hM1 := hM.st
    simp only [pickBs] at hM1
    rw [if_neg (hD.waits 3 6 _ ⟨3,.phase⟩ hl9 rfl (by simp) rfl rfl)] at hM1
    exact hM1
   have c9_0 := hM0.cellAt (b := w.heap.size) (cs := #[.bool s,.slice a n cap,.int .i64 x]) (t := 33) (by simp) 0 _ rfl
   have c9_1 := hM0.cellAt (b := w.heap.size) (cs := #[.bool s,.slice a n cap,.int .i64 x]) (t := 33) (by simp) 1 _ rfl
   have c9_2 := hM0.cellAt (b := w.heap.size) (cs := #[.bool s,.slice a n cap,.int .i64 x]) (t := 33) (by simp) 2 _ rfl
   clear hM0
   clear hD hd9 hi9
   refine wpOp_step rfl (fun K hK => ?_)
   go_simp
   exact hK _ _ ⟨p9,fun _ _ => rfl,rfl,(Pm.keepM rfl (hM.val rfl))⟩
  ·cases ho9
   have r5 := hD.old 5 _ rfl rfl
   have hM0 : Fs w W9 [⟨w.heap.size + 2,#[.bool false,.slice none 0 0,.int .i64 0],33⟩,⟨w.heap.size + 1,#[.bool s',.slice a' n' cap',.int .i64 x'],33⟩,⟨w.heap.size,#[.bool s,.slice a n cap,.int .i64 x],33⟩,⟨p,#[.int .i64 E,.int .i64 F,.int .u64 b,.int .u8 0,.int .i64 0],109⟩] := by
    have hM1 := hM.st
    simp only [pickBs] at hM1
    rw [if_neg (hD.waits 4 6 _ ⟨4,.phase⟩ hl9 rfl (by simp) rfl rfl)] at hM1
    exact hM1
   have c9_0 := hM0.cellAt (b := w.heap.size + 1) (cs := #[.bool s',.slice a' n' cap',.int .i64 x']) (t := 33) (by simp) 0 _ rfl
   have c9_1 := hM0.cellAt (b := w.heap.size + 1) (cs := #[.bool s',.slice a' n' cap',.int .i64 x']) (t := 33) (by simp) 1 _ rfl
   have c9_2 := hM0.cellAt (b := w.heap.size + 1) (cs := #[.bool s',.slice a' n' cap',.int .i64 x']) (t := 33) (by simp) 2 _ rfl
   clear hM0
   clear hD hd9 hi9
   refine wpOp_step rfl (fun K hK => ?_)
   go_simp
   exact hK _ _ ⟨p9,fun _ _ => rfl,rfl,(Pm.keepM rfl (hM.val rfl))⟩
  ·cases ho9
   have r16 := hD.on 2 16 _ rfl (getD_true (hd9 ⟨2,.data⟩ (by simp) rfl))
   have r17 := hD.on 3 17 _ rfl (getD_true (hd9 ⟨3,.data⟩ (by simp) rfl))
   have r18 := hD.on 4 18 _ rfl (getD_true (hd9 ⟨4,.data⟩ (by simp) rfl))
   have hM0 : Fs w W9 [⟨w.heap.size + 2,#[.bool false,.slice none 0 0,.int .i64 0],33⟩,⟨w.heap.size + 1,#[.bool s',.slice a' n' cap',.int .i64 x'],33⟩,⟨w.heap.size,#[.bool s,.slice a n cap,.int .i64 x],33⟩,⟨p,#[.int .i64 E,.int .i64 F,.int .u64 b,.int .u8 0,.int .i64 0],109⟩] := by
    have hM1 := hM.st
    simp only [pickBs] at hM1
    rw [if_neg (hD.waits 5 6 _ ⟨5,.data⟩ hl9 rfl (by simp) rfl rfl)] at hM1
    exact hM1
   have HD := hide hD
   have hn6 := hD.waits 5 6 _ ⟨5,.data⟩ hl9 rfl (by simp) rfl rfl
   clear hD hd9 hi9
   refine wpOp_step rfl (fun K hK => ?_)
   go_simp
   go_wp2_with fail
   refine (middle_is p 4 _ _ _ _ _ _ _ _ _ _ _ _ r1 v1 y1 _ _ _ _ ((unhide H).kept hM.st.fr) ((unhide H').kept hM.st.fr) ((unhide HT).kept hM.st.fr) ((unhide HR).kept hM.st.fr) HK HS HP).mono ?_
   rintro en w9 ⟨⟨a9,n9,c9,rfl,h9⟩,hb9⟩
   refine hK _ _ ⟨p9.set 5 ⟨a9,n9,c9⟩,?_,rfl,(Pm.keepM rfl (((hM.kept hs9 hb9).pick ⟨a9,n9,c9⟩ ?_).into (by simp only [pickBs]; rw [if_neg hn6,if_neg hn6])))⟩
   ·intro k9 hk9
    clear hM hK
    match k9,hk9 with
    | 0,_ => rfl
    | 1,_ => rfl
    | 2,_ => rfl
    | 3,_ => rfl
    | 4,_ => rfl
    | 5,hk9 => exact absurd (hl9.symm.trans hk9) (by simp)
    | 6,hk9 => exact absurd (hl9.symm.trans (getD_true ((unhide HD).shut 6 _ (hk9) rfl ⟨5,.data⟩ (by simp) rfl))) (by simp)
    | k9 + 7,_ => rfl
   ·intro x hx he; simp only [List.mem_cons,List.not_mem_nil,or_false] at hx; subst hx; exact h9.mono hM.bw
  ·cases ho9
   have r6 := hD.old 6 _ rfl rfl
   have r19 := hD.on 5 19 _ rfl (getD_true (hd9 ⟨5,.data⟩ (by simp) rfl))
   have hM0 : Fs w W9 [⟨w.heap.size + 2,#[.bool false,.slice none 0 0,.int .i64 0],33⟩,⟨w.heap.size + 1,#[.bool s',.slice a' n' cap',.int .i64 x'],33⟩,⟨w.heap.size,#[.bool s,.slice a n cap,.int .i64 x],33⟩,⟨p,#[.int .i64 E,.int .i64 F,.int .u64 b,.int .u8 0,.int .i64 0],109⟩] := by
    have hM1 := hM.st
    simp only [pickBs] at hM1
    rw [if_neg (by rw [hl9]; simp)] at hM1
    exact hM1
   have c9_0 := hM0.cellAt (b := w.heap.size + 2) (cs := #[.bool false,.slice none 0 0,.int .i64 0]) (t := 33) (by simp) 0 _ rfl
   have z9_0 := hM0.frozen (b := w.heap.size + 2) (cs := #[.bool false,.slice none 0 0,.int .i64 0]) (t := 33) (by simp) 0
   have c9_1 := hM0.cellAt (b := w.heap.size + 2) (cs := #[.bool false,.slice none 0 0,.int .i64 0]) (t := 33) (by simp) 1 _ rfl
   have z9_1 := hM0.frozen (b := w.heap.size + 2) (cs := #[.bool false,.slice none 0 0,.int .i64 0]) (t := 33) (by simp) 1
   have c9_2 := hM0.cellAt (b := w.heap.size + 2) (cs := #[.bool false,.slice none 0 0,.int .i64 0]) (t := 33) (by simp) 2 _ rfl
   have z9_2 := hM0.frozen (b := w.heap.size + 2) (cs := #[.bool false,.slice none 0 0,.int .i64 0]) (t := 33) (by simp) 2
   clear hD hd9 hi9
   refine wpOp_step rfl (fun K hK => ?_)
   go_simp
   exact hK _ _ ⟨p9,fun _ _ => rfl,rfl,Pm.putM hl9 ((((hM.val rfl).put hs9 _ _ (by simp <;> omega) (hM0.put (b := w.heap.size + 2) (cs := #[.bool false,.slice none 0 0,.int .i64 0]) (t := 33) (by simp) (by simp) 0 (.bool r2) [⟨w.heap.size + 2,#[.bool r2,.slice none 0 0,.int .i64 0],33⟩,⟨w.heap.size + 1,#[.bool s',.slice a' n' cap',.int .i64 x'],33⟩,⟨w.heap.size,#[.bool s,.slice a n cap,.int .i64 x],33⟩,⟨p,#[.int .i64 E,.int .i64 F,.int .u64 b,.int .u8 0,.int .i64 0],109⟩] (by simp <;> omega))).put hs9 _ _ (by simp <;> omega) ((hM0.put (b := w.heap.size + 2) (cs := #[.bool false,.slice none 0 0,.int .i64 0]) (t := 33) (by simp) (by simp) 0 (.bool r2) [⟨w.heap.size + 2,#[.bool r2,.slice none 0 0,.int .i64 0],33⟩,⟨w.heap.size + 1,#[.bool s',.slice a' n' cap',.int .i64 x'],33⟩,⟨w.heap.size,#[.bool s,.slice a n cap,.int .i64 x],33⟩,⟨p,#[.int .i64 E,.int .i64 F,.int .u64 b,.int .u8 0,.int .i64 0],109⟩] (by simp <;> omega)).put (b := w.heap.size + 2) (cs := #[.bool r2,.slice none 0 0,.int .i64 0]) (t := 33) (by simp) (by simp) 1 (.slice (p9 5).A (p9 5).N (p9 5).C) [⟨w.heap.size + 2,#[.bool r2,.slice (p9 5).A (p9 5).N (p9 5).C,.int .i64 0],33⟩,⟨w.heap.size + 1,#[.bool s',.slice a' n' cap',.int .i64 x'],33⟩,⟨w.heap.size,#[.bool s,.slice a n cap,.int .i64 x],33⟩,⟨p,#[.int .i64 E,.int .i64 F,.int .u64 b,.int .u8 0,.int .i64 0],109⟩] (by simp <;> omega))).put hs9 _ _ (by simp <;> omega) (((hM0.put (b := w.heap.size + 2) (cs := #[.bool false,.slice none 0 0,.int .i64 0]) (t := 33) (by simp) (by simp) 0 (.bool r2) [⟨w.heap.size + 2,#[.bool r2,.slice none 0 0,.int .i64 0],33⟩,⟨w.heap.size + 1,#[.bool s',.slice a' n' cap',.int .i64 x'],33⟩,⟨w.heap.size,#[.bool s,.slice a n cap,.int .i64 x],33⟩,⟨p,#[.int .i64 E,.int .i64 F,.int .u64 b,.int .u8 0,.int .i64 0],109⟩] (by simp <;> omega)).put (b := w.heap.size + 2) (cs := #[.bool r2,.slice none 0 0,.int .i64 0]) (t := 33) (by simp) (by simp) 1 (.slice (p9 5).A (p9 5).N (p9 5).C) [⟨w.heap.size + 2,#[.bool r2,.slice (p9 5).A (p9 5).N (p9 5).C,.int .i64 0],33⟩,⟨w.heap.size + 1,#[.bool s',.slice a' n' cap',.int .i64 x'],33⟩,⟨w.heap.size,#[.bool s,.slice a n cap,.int .i64 x],33⟩,⟨p,#[.int .i64 E,.int .i64 F,.int .u64 b,.int .u8 0,.int .i64 0],109⟩] (by simp <;> omega)).put (b := w.heap.size + 2) (cs := #[.bool r2,.slice (p9 5).A (p9 5).N (p9 5).C,.int .i64 0]) (t := 33) (by simp) (by simp) 2 (.int .i64 y2) [⟨w.heap.size + 2,#[.bool r2,.slice (p9 5).A (p9 5).N (p9 5).C,.int .i64 y2],33⟩,⟨w.heap.size + 1,#[.bool s',.slice a' n' cap',.int .i64 x'],33⟩,⟨w.heap.size,#[.bool s,.slice a n cap,.int .i64 x],33⟩,⟨p,#[.int .i64 E,.int .i64 F,.int .u64 b,.int .u8 0,.int .i64 0],109⟩] (by simp <;> omega)))⟩
 ·intro p9 l9 W9 hn9 hl9 hM
  have fr4_5 := hM.fx _ (List.mem_of_getElem? (i := 0) rfl) (Or.inl (hl9 5 (by decide)))
  replace hM := hM.st
  simp only [pickBs] at hM
  rw [if_pos (hl9 6 (by decide))] at hM
  clear hl9 hs9 h09 hn9
  generalize p9 5 = q5 at *
  obtain ⟨Ar4_5,Nr4_5,Cr4_5⟩ := q5
  simp only [] at fr4_5
  clear hS z1_0_0 z1_0_1 z1_0_2 z1_1_0 z1_1_1 z1_1_2 z1_2_0 z1_2_1 z1_2_2 z1_3_0 z1_3_1 z1_3_2 z1_3_3 z1_3_4
  have hS := hM
  clear hM
  simp only [Puts.lay,List.setIfInBounds_toArray,List.set_cons_zero,List.set_cons_succ]
  obtain ⟨⟨z2_0_0,z2_0_1,z2_0_2,-⟩,⟨z2_1_0,z2_1_1,z2_1_2,-⟩,⟨z2_2_0,z2_2_1,z2_2_2,-⟩,⟨z2_3_0,z2_3_1,z2_3_2,z2_3_3,z2_3_4,-⟩,-⟩ := hS.cells
  go_wp2
  exact bodyPost_ret (v := .agg #[.bool r2,.slice Ar4_5 Nr4_5 Cr4_5,.int .i64 y2]) (by simp [results,Tryz.results129,go_sem,z2_0_0,z2_0_1,z2_0_2]) rfl ⟨⟨_,_,_,rfl,Mine.mono (show Mine W9 _ _ _ _ _ from unhide fr4_5) (by omega)⟩,hS.fr⟩
set_option maxRecDepth 20000 in
set_option maxHeartbeats 4000000 in
theorem border_1 (E F b : Int) (p : Nat) (s : Bool) (a : Option Addr) (n cap m : Nat) (x : Int) (s' : Bool) (a' : Option Addr) (n' cap' m' : Nat) (x' : Int) (r1 : Bool) (v1 : Nat) (y1 : Int) (r2 : Bool) (v2 : Nat) (y2 : Int) (w : World) (h : Num w a n m) (h' : Num w a' n' m') (hT : Tb w) (hp : w.heap[p]? = some (.cells #[.int .i64 E,.int .i64 F,.int .u64 b,.int .u8 1,.int .i64 0] 109 (0,0))) (HK : Hid (Mk1 false (-1))) (HS : Hid (SumsM s m x s' m' x' 0 r1 v1 y1)) (HP : Hid (ProdsM r1 v1 y1 false 1 (-1) 0 r2 v2 y2)) :
  Calls Tryz.prog 129 #[.pointer (some ⟨p,0,none⟩),.agg #[.bool s,.slice a n cap,.int .i64 x],.agg #[.bool s',.slice a' n' cap',.int .i64 x']] w fun e w' => (∃ A N C,e = .returned (.agg #[.bool r2,.slice A N C,.int .i64 y2]) ∧ Mine w' w.heap.size A N C v2) ∧ Below w.heap.size w w' := by
 have H := hide h
 have H' := hide h'
 have HT := hide hT
 clear h h' hT
 go_enter Tryz.func129,Tryz.ntmps129
 have HR : Hid (Rn w p 4) := hide ⟨_,_,hp,rfl⟩
 have hS : Fs w w [⟨p,#[.int .i64 E,.int .i64 F,.int .u64 b,.int .u8 1,.int .i64 0],109⟩] := ⟨fun x hx => by rcases List.mem_cons.1 hx with rfl | hx; exact hp; exact absurd hx List.not_mem_nil,Below.refl _ _⟩
 have hlt0 : p < w.heap.size := block_lt hp
 clear hp
 replace hS := hS.alloc #[.bool s,.slice a n cap,.int .i64 x] 33
 replace hS := hS.alloc #[.bool s',.slice a' n' cap',.int .i64 x'] 33
 replace hS := hS.alloc #[.bool false,.slice none 0 0,.int .i64 0] 33
 simp only [World.size_alloc] at hS
 obtain ⟨⟨z1_0_0,z1_0_1,z1_0_2,-⟩,⟨z1_1_0,z1_1_1,z1_1_2,-⟩,⟨z1_2_0,z1_2_1,z1_2_2,-⟩,⟨z1_3_0,z1_3_1,z1_3_2,z1_3_3,z1_3_4,-⟩,-⟩ := hS.cells
 go_wp2_with fail
 have hS3s : w.heap.size ≤ (((w.alloc (.cells #[.bool s,.slice a n cap,.int .i64 x] 33)).alloc (.cells #[.bool s',.slice a' n' cap',.int .i64 x'] 33)).alloc (.cells #[.bool false,.slice none 0 0,.int .i64 0] 33)).heap.size := hS.size
 have hs9 : ∀ x9 : Nat × (Pk → World → Prop),x9 ∈ ([(5,fun q W => Mine W (w.heap.size + 3) q.A q.N q.C (v2))] : List (Nat × (Pk → World → Prop))) → ∀ q9 : Pk,St (w.heap.size + 3) (x9.2 q9) := by
  intro x hx q
  simp only [List.mem_cons,List.not_mem_nil,or_false] at hx
  rcases hx with rfl
  ·exact st_mine _ _ _ _ _
 have h09 : ∀ x9 : Nat × (Pk → World → Prop),x9 ∈ ([(5,fun q W => Mine W (w.heap.size + 3) q.A q.N q.C (v2))] : List (Nat × (Pk → World → Prop))) → 7 ≤ x9.1 → x9.2 ⟨none,0,0⟩ (((w.alloc (.cells #[.bool s,.slice a n cap,.int .i64 x] 33)).alloc (.cells #[.bool s',.slice a' n' cap',.int .i64 x'] 33)).alloc (.cells #[.bool false,.slice none 0 0,.int .i64 0] 33)) := by
  intro x hx hn9
  simp only [List.mem_cons,List.not_mem_nil,or_false] at hx
  rcases hx with rfl
  ·exact absurd hn9 (by simp)
 refine wp_region_any (by kernel_rfl) ?_
 refine wpAny_pick (fun p9 => [some (14,.pointer (some ⟨p,0,none⟩)),some (15,.pointer (some ⟨p,0,none⟩)),some (16,.pointer (some ⟨p,4,none⟩)),some (17,.agg #[.bool s,.slice a n cap,.int .i64 x]),some (18,.agg #[.bool s',.slice a' n' cap',.int .i64 x']),some (19,.agg #[.bool r2,.slice (p9 5).A (p9 5).N (p9 5).C,.int .i64 y2]),none])
  (fun p9 l9 W9 => Pm w (w.heap.size + 3) [(5,fun q W => Mine W (w.heap.size + 3) q.A q.N q.C (v2))] p9 l9 W9 (pickBs l9 [(6,[⟨w.heap.size + 2,#[.bool r2,.slice (p9 5).A (p9 5).N (p9 5).C,.int .i64 y2],33⟩,⟨w.heap.size + 1,#[.bool s',.slice a' n' cap',.int .i64 x'],33⟩,⟨w.heap.size,#[.bool s,.slice a n cap,.int .i64 x],33⟩,⟨p,#[.int .i64 E,.int .i64 F,.int .u64 b,.int .u8 1,.int .i64 0],109⟩])] [⟨w.heap.size + 2,#[.bool false,.slice none 0 0,.int .i64 0],33⟩,⟨w.heap.size + 1,#[.bool s',.slice a' n' cap',.int .i64 x'],33⟩,⟨w.heap.size,#[.bool s,.slice a n cap,.int .i64 x],33⟩,⟨p,#[.int .i64 E,.int .i64 F,.int .u64 b,.int .u8 1,.int .i64 0],109⟩])) _ _ (fun _ => rfl) (by kernel_rfl) (fun _ => rfl) (fun _ => rfl) ?_ ?_ (fun _ => ⟨none,0,0⟩) (Pm.start2 hS _ _ _ (by simp) hs9 h09)
 ·intro p9 l9 t9 W9 i9 hD hi9 hl9 hM
  obtain ⟨o9,ho9,hd9⟩ := (mem_ready.1 hi9).2
  have hin9 : i9 < 7 := by
   by_cases h : i9 < 7
   ·exact h
   ·rw [Array.getElem?_eq_none (by rw [hD.len]; simp; omega)] at hl9; cases hl9
  have hcase : i9 = 0 ∨ i9 = 1 ∨ i9 = 2 ∨ i9 = 3 ∨ i9 = 4 ∨ i9 = 5 ∨ i9 = 6 := by omega
  clear hin9
  rcases hcase with rfl | rfl | rfl | rfl | rfl | rfl | rfl
  ·cases ho9
   have r0 := hD.old 0 _ rfl rfl
   clear hD hd9 hi9
   refine wpOp_step rfl (fun K hK => ?_)
   go_simp
   exact hK _ _ ⟨p9,fun _ _ => rfl,rfl,(Pm.keepM rfl (hM.val rfl))⟩
  ·cases ho9
   have r14 := hD.on 0 14 _ rfl (getD_true (hd9 ⟨0,.data⟩ (by simp) rfl))
   clear hD hd9 hi9
   refine wpOp_step rfl (fun K hK => ?_)
   go_simp
   exact hK _ _ ⟨p9,fun _ _ => rfl,rfl,(Pm.keepM rfl (hM.val rfl))⟩
  ·cases ho9
   have r15 := hD.on 1 15 _ rfl (getD_true (hd9 ⟨1,.data⟩ (by simp) rfl))
   clear hD hd9 hi9
   refine wpOp_step rfl (fun K hK => ?_)
   go_simp
   exact hK _ _ ⟨p9,fun _ _ => rfl,rfl,(Pm.keepM rfl (hM.val rfl))⟩
  ·cases ho9
   have r4 := hD.old 4 _ rfl rfl
   have hM0 : Fs w W9 [⟨w.heap.size + 2,#[.bool false,.slice none 0 0,.int .i64 0],33⟩,⟨w.heap.size + 1,#[.bool s',.slice a' n' cap',.int .i64 x'],33⟩,⟨w.heap.size,#[.bool s,.slice a n cap,.int .i64 x],33⟩,⟨p,#[.int .i64 E,.int .i64 F,.int .u64 b,.int .u8 1,.int .i64 0],109⟩] := by
    have hM1 := hM.st
    simp only [pickBs] at hM1
    rw [if_neg (hD.waits 3 6 _ ⟨3,.phase⟩ hl9 rfl (by simp) rfl rfl)] at hM1
    exact hM1
   have c9_0 := hM0.cellAt (b := w.heap.size) (cs := #[.bool s,.slice a n cap,.int .i64 x]) (t := 33) (by simp) 0 _ rfl
   have c9_1 := hM0.cellAt (b := w.heap.size) (cs := #[.bool s,.slice a n cap,.int .i64 x]) (t := 33) (by simp) 1 _ rfl
   have c9_2 := hM0.cellAt (b := w.heap.size) (cs := #[.bool s,.slice a n cap,.int .i64 x]) (t := 33) (by simp) 2 _ rfl
   clear hM0
   clear hD hd9 hi9
   refine wpOp_step rfl (fun K hK => ?_)
   go_simp
   exact hK _ _ ⟨p9,fun _ _ => rfl,rfl,(Pm.keepM rfl (hM.val rfl))⟩
  ·cases ho9
   have r5 := hD.old 5 _ rfl rfl
   have hM0 : Fs w W9 [⟨w.heap.size + 2,#[.bool false,.slice none 0 0,.int .i64 0],33⟩,⟨w.heap.size + 1,#[.bool s',.slice a' n' cap',.int .i64 x'],33⟩,⟨w.heap.size,#[.bool s,.slice a n cap,.int .i64 x],33⟩,⟨p,#[.int .i64 E,.int .i64 F,.int .u64 b,.int .u8 1,.int .i64 0],109⟩] := by
    have hM1 := hM.st
    simp only [pickBs] at hM1
    rw [if_neg (hD.waits 4 6 _ ⟨4,.phase⟩ hl9 rfl (by simp) rfl rfl)] at hM1
    exact hM1
   have c9_0 := hM0.cellAt (b := w.heap.size + 1) (cs := #[.bool s',.slice a' n' cap',.int .i64 x']) (t := 33) (by simp) 0 _ rfl
   have c9_1 := hM0.cellAt (b := w.heap.size + 1) (cs := #[.bool s',.slice a' n' cap',.int .i64 x']) (t := 33) (by simp) 1 _ rfl
   have c9_2 := hM0.cellAt (b := w.heap.size + 1) (cs := #[.bool s',.slice a' n' cap',.int .i64 x']) (t := 33) (by simp) 2 _ rfl
   clear hM0
   clear hD hd9 hi9
   refine wpOp_step rfl (fun K hK => ?_)
   go_simp
   exact hK _ _ ⟨p9,fun _ _ => rfl,rfl,(Pm.keepM rfl (hM.val rfl))⟩
  ·cases ho9
   have r16 := hD.on 2 16 _ rfl (getD_true (hd9 ⟨2,.data⟩ (by simp) rfl))
   have r17 := hD.on 3 17 _ rfl (getD_true (hd9 ⟨3,.data⟩ (by simp) rfl))
   have r18 := hD.on 4 18 _ rfl (getD_true (hd9 ⟨4,.data⟩ (by simp) rfl))
   have hM0 : Fs w W9 [⟨w.heap.size + 2,#[.bool false,.slice none 0 0,.int .i64 0],33⟩,⟨w.heap.size + 1,#[.bool s',.slice a' n' cap',.int .i64 x'],33⟩,⟨w.heap.size,#[.bool s,.slice a n cap,.int .i64 x],33⟩,⟨p,#[.int .i64 E,.int .i64 F,.int .u64 b,.int .u8 1,.int .i64 0],109⟩] := by
    have hM1 := hM.st
    simp only [pickBs] at hM1
    rw [if_neg (hD.waits 5 6 _ ⟨5,.data⟩ hl9 rfl (by simp) rfl rfl)] at hM1
    exact hM1
   have HD := hide hD
   have hn6 := hD.waits 5 6 _ ⟨5,.data⟩ hl9 rfl (by simp) rfl rfl
   clear hD hd9 hi9
   refine wpOp_step rfl (fun K hK => ?_)
   go_simp
   go_wp2_with fail
   refine (middle_is p 4 _ _ _ _ _ _ _ _ _ _ _ _ r1 v1 y1 _ _ _ _ ((unhide H).kept hM.st.fr) ((unhide H').kept hM.st.fr) ((unhide HT).kept hM.st.fr) ((unhide HR).kept hM.st.fr) HK HS HP).mono ?_
   rintro en w9 ⟨⟨a9,n9,c9,rfl,h9⟩,hb9⟩
   refine hK _ _ ⟨p9.set 5 ⟨a9,n9,c9⟩,?_,rfl,(Pm.keepM rfl (((hM.kept hs9 hb9).pick ⟨a9,n9,c9⟩ ?_).into (by simp only [pickBs]; rw [if_neg hn6,if_neg hn6])))⟩
   ·intro k9 hk9
    clear hM hK
    match k9,hk9 with
    | 0,_ => rfl
    | 1,_ => rfl
    | 2,_ => rfl
    | 3,_ => rfl
    | 4,_ => rfl
    | 5,hk9 => exact absurd (hl9.symm.trans hk9) (by simp)
    | 6,hk9 => exact absurd (hl9.symm.trans (getD_true ((unhide HD).shut 6 _ (hk9) rfl ⟨5,.data⟩ (by simp) rfl))) (by simp)
    | k9 + 7,_ => rfl
   ·intro x hx he; simp only [List.mem_cons,List.not_mem_nil,or_false] at hx; subst hx; exact h9.mono hM.bw
  ·cases ho9
   have r6 := hD.old 6 _ rfl rfl
   have r19 := hD.on 5 19 _ rfl (getD_true (hd9 ⟨5,.data⟩ (by simp) rfl))
   have hM0 : Fs w W9 [⟨w.heap.size + 2,#[.bool false,.slice none 0 0,.int .i64 0],33⟩,⟨w.heap.size + 1,#[.bool s',.slice a' n' cap',.int .i64 x'],33⟩,⟨w.heap.size,#[.bool s,.slice a n cap,.int .i64 x],33⟩,⟨p,#[.int .i64 E,.int .i64 F,.int .u64 b,.int .u8 1,.int .i64 0],109⟩] := by
    have hM1 := hM.st
    simp only [pickBs] at hM1
    rw [if_neg (by rw [hl9]; simp)] at hM1
    exact hM1
   have c9_0 := hM0.cellAt (b := w.heap.size + 2) (cs := #[.bool false,.slice none 0 0,.int .i64 0]) (t := 33) (by simp) 0 _ rfl
   have z9_0 := hM0.frozen (b := w.heap.size + 2) (cs := #[.bool false,.slice none 0 0,.int .i64 0]) (t := 33) (by simp) 0
   have c9_1 := hM0.cellAt (b := w.heap.size + 2) (cs := #[.bool false,.slice none 0 0,.int .i64 0]) (t := 33) (by simp) 1 _ rfl
   have z9_1 := hM0.frozen (b := w.heap.size + 2) (cs := #[.bool false,.slice none 0 0,.int .i64 0]) (t := 33) (by simp) 1
   have c9_2 := hM0.cellAt (b := w.heap.size + 2) (cs := #[.bool false,.slice none 0 0,.int .i64 0]) (t := 33) (by simp) 2 _ rfl
   have z9_2 := hM0.frozen (b := w.heap.size + 2) (cs := #[.bool false,.slice none 0 0,.int .i64 0]) (t := 33) (by simp) 2
   clear hD hd9 hi9
   refine wpOp_step rfl (fun K hK => ?_)
   go_simp
   exact hK _ _ ⟨p9,fun _ _ => rfl,rfl,Pm.putM hl9 ((((hM.val rfl).put hs9 _ _ (by simp <;> omega) (hM0.put (b := w.heap.size + 2) (cs := #[.bool false,.slice none 0 0,.int .i64 0]) (t := 33) (by simp) (by simp) 0 (.bool r2) [⟨w.heap.size + 2,#[.bool r2,.slice none 0 0,.int .i64 0],33⟩,⟨w.heap.size + 1,#[.bool s',.slice a' n' cap',.int .i64 x'],33⟩,⟨w.heap.size,#[.bool s,.slice a n cap,.int .i64 x],33⟩,⟨p,#[.int .i64 E,.int .i64 F,.int .u64 b,.int .u8 1,.int .i64 0],109⟩] (by simp <;> omega))).put hs9 _ _ (by simp <;> omega) ((hM0.put (b := w.heap.size + 2) (cs := #[.bool false,.slice none 0 0,.int .i64 0]) (t := 33) (by simp) (by simp) 0 (.bool r2) [⟨w.heap.size + 2,#[.bool r2,.slice none 0 0,.int .i64 0],33⟩,⟨w.heap.size + 1,#[.bool s',.slice a' n' cap',.int .i64 x'],33⟩,⟨w.heap.size,#[.bool s,.slice a n cap,.int .i64 x],33⟩,⟨p,#[.int .i64 E,.int .i64 F,.int .u64 b,.int .u8 1,.int .i64 0],109⟩] (by simp <;> omega)).put (b := w.heap.size + 2) (cs := #[.bool r2,.slice none 0 0,.int .i64 0]) (t := 33) (by simp) (by simp) 1 (.slice (p9 5).A (p9 5).N (p9 5).C) [⟨w.heap.size + 2,#[.bool r2,.slice (p9 5).A (p9 5).N (p9 5).C,.int .i64 0],33⟩,⟨w.heap.size + 1,#[.bool s',.slice a' n' cap',.int .i64 x'],33⟩,⟨w.heap.size,#[.bool s,.slice a n cap,.int .i64 x],33⟩,⟨p,#[.int .i64 E,.int .i64 F,.int .u64 b,.int .u8 1,.int .i64 0],109⟩] (by simp <;> omega))).put hs9 _ _ (by simp <;> omega) (((hM0.put (b := w.heap.size + 2) (cs := #[.bool false,.slice none 0 0,.int .i64 0]) (t := 33) (by simp) (by simp) 0 (.bool r2) [⟨w.heap.size + 2,#[.bool r2,.slice none 0 0,.int .i64 0],33⟩,⟨w.heap.size + 1,#[.bool s',.slice a' n' cap',.int .i64 x'],33⟩,⟨w.heap.size,#[.bool s,.slice a n cap,.int .i64 x],33⟩,⟨p,#[.int .i64 E,.int .i64 F,.int .u64 b,.int .u8 1,.int .i64 0],109⟩] (by simp <;> omega)).put (b := w.heap.size + 2) (cs := #[.bool r2,.slice none 0 0,.int .i64 0]) (t := 33) (by simp) (by simp) 1 (.slice (p9 5).A (p9 5).N (p9 5).C) [⟨w.heap.size + 2,#[.bool r2,.slice (p9 5).A (p9 5).N (p9 5).C,.int .i64 0],33⟩,⟨w.heap.size + 1,#[.bool s',.slice a' n' cap',.int .i64 x'],33⟩,⟨w.heap.size,#[.bool s,.slice a n cap,.int .i64 x],33⟩,⟨p,#[.int .i64 E,.int .i64 F,.int .u64 b,.int .u8 1,.int .i64 0],109⟩] (by simp <;> omega)).put (b := w.heap.size + 2) (cs := #[.bool r2,.slice (p9 5).A (p9 5).N (p9 5).C,.int .i64 0]) (t := 33) (by simp) (by simp) 2 (.int .i64 y2) [⟨w.heap.size + 2,#[.bool r2,.slice (p9 5).A (p9 5).N (p9 5).C,.int .i64 y2],33⟩,⟨w.heap.size + 1,#[.bool s',.slice a' n' cap',.int .i64 x'],33⟩,⟨w.heap.size,#[.bool s,.slice a n cap,.int .i64 x],33⟩,⟨p,#[.int .i64 E,.int .i64 F,.int .u64 b,.int .u8 1,.int .i64 0],109⟩] (by simp <;> omega)))⟩
 ·intro p9 l9 W9 hn9 hl9 hM
  have fr4_5 := hM.fx _ (List.mem_of_getElem? (i := 0) rfl) (Or.inl (hl9 5 (by decide)))
  replace hM := hM.st
  simp only [pickBs] at hM
  rw [if_pos (hl9 6 (by decide))] at hM
  clear hl9 hs9 h09 hn9
  generalize p9 5 = q5 at *
  obtain ⟨Ar4_5,Nr4_5,Cr4_5⟩ := q5
  simp only [] at fr4_5
  clear hS z1_0_0 z1_0_1 z1_0_2 z1_1_0 z1_1_1 z1_1_2 z1_2_0 z1_2_1 z1_2_2 z1_3_0 z1_3_1 z1_3_2 z1_3_3 z1_3_4
  have hS := hM
  clear hM
  simp only [Puts.lay,List.setIfInBounds_toArray,List.set_cons_zero,List.set_cons_succ]
  obtain ⟨⟨z2_0_0,z2_0_1,z2_0_2,-⟩,⟨z2_1_0,z2_1_1,z2_1_2,-⟩,⟨z2_2_0,z2_2_1,z2_2_2,-⟩,⟨z2_3_0,z2_3_1,z2_3_2,z2_3_3,z2_3_4,-⟩,-⟩ := hS.cells
  go_wp2
  exact bodyPost_ret (v := .agg #[.bool r2,.slice Ar4_5 Nr4_5 Cr4_5,.int .i64 y2]) (by simp [results,Tryz.results129,go_sem,z2_0_0,z2_0_1,z2_0_2]) rfl ⟨⟨_,_,_,rfl,Mine.mono (show Mine W9 _ _ _ _ _ from unhide fr4_5) (by omega)⟩,hS.fr⟩
set_option maxRecDepth 20000 in
set_option maxHeartbeats 2000000 in
theorem border_4 (E F b : Int) (p : Nat) (s : Bool) (a : Option Addr) (n cap : Nat) (x : Int) (s' : Bool) (a' : Option Addr) (n' cap' : Nat) (x' : Int) (w : World) (hp : w.heap[p]? = some (.cells #[.int .i64 E,.int .i64 F,.int .u64 b,.int .u8 4,.int .i64 0] 109 (0,0))) :
  Calls Tryz.prog 129 #[.pointer (some ⟨p,0,none⟩),.agg #[.bool s,.slice a n cap,.int .i64 x],.agg #[.bool s',.slice a' n' cap',.int .i64 x']] w fun e w' => e = .returned (.agg #[.bool s',.slice a' n' cap',.int .i64 x']) ∧ Below w.heap.size w w' := by
 go_enter Tryz.func129,Tryz.ntmps129
 have HR : Hid (Rn w p 4) := hide ⟨_,_,hp,rfl⟩
 have hS : Fs w w [⟨p,#[.int .i64 E,.int .i64 F,.int .u64 b,.int .u8 4,.int .i64 0],109⟩] := ⟨fun x hx => by rcases List.mem_cons.1 hx with rfl | hx; exact hp; exact absurd hx List.not_mem_nil,Below.refl _ _⟩
 have hlt0 : p < w.heap.size := block_lt hp
 clear hp
 replace hS := hS.alloc #[.bool s,.slice a n cap,.int .i64 x] 33
 replace hS := hS.alloc #[.bool s',.slice a' n' cap',.int .i64 x'] 33
 replace hS := hS.alloc #[.bool false,.slice none 0 0,.int .i64 0] 33
 simp only [World.size_alloc] at hS
 obtain ⟨⟨z1_0_0,z1_0_1,z1_0_2,-⟩,⟨z1_1_0,z1_1_1,z1_1_2,-⟩,⟨z1_2_0,z1_2_1,z1_2_2,-⟩,⟨z1_3_0,z1_3_1,z1_3_2,z1_3_3,z1_3_4,-⟩,-⟩ := hS.cells
 go_wp2
 exact bodyPost_ret (v := .agg #[.bool s',.slice a' n' cap',.int .i64 x']) (by simp [results,Tryz.results129,go_sem]) rfl ⟨rfl,((((Fs.begin w).alloc _ _).alloc _ _).alloc _ _).fr⟩
set_option maxRecDepth 20000 in
set_option maxHeartbeats 2000000 in
theorem border_3 (E F b : Int) (p : Nat) (s : Bool) (a : Option Addr) (n cap : Nat) (x : Int) (s' : Bool) (a' : Option Addr) (n' cap' : Nat) (x' : Int) (w : World) (hp : w.heap[p]? = some (.cells #[.int .i64 E,.int .i64 F,.int .u64 b,.int .u8 3,.int .i64 0] 109 (0,0))) :
  Calls Tryz.prog 129 #[.pointer (some ⟨p,0,none⟩),.agg #[.bool s,.slice a n cap,.int .i64 x],.agg #[.bool s',.slice a' n' cap',.int .i64 x']] w fun e w' => e = .returned (.agg #[.bool s,.slice a n cap,.int .i64 x]) ∧ Below w.heap.size w w' := by
 go_enter Tryz.func129,Tryz.ntmps129
 have HR : Hid (Rn w p 4) := hide ⟨_,_,hp,rfl⟩
 have hS : Fs w w [⟨p,#[.int .i64 E,.int .i64 F,.int .u64 b,.int .u8 3,.int .i64 0],109⟩] := ⟨fun x hx => by rcases List.mem_cons.1 hx with rfl | hx; exact hp; exact absurd hx List.not_mem_nil,Below.refl _ _⟩
 have hlt0 : p < w.heap.size := block_lt hp
 clear hp
 replace hS := hS.alloc #[.bool s,.slice a n cap,.int .i64 x] 33
 replace hS := hS.alloc #[.bool s',.slice a' n' cap',.int .i64 x'] 33
 replace hS := hS.alloc #[.bool false,.slice none 0 0,.int .i64 0] 33
 simp only [World.size_alloc] at hS
 obtain ⟨⟨z1_0_0,z1_0_1,z1_0_2,-⟩,⟨z1_1_0,z1_1_1,z1_1_2,-⟩,⟨z1_2_0,z1_2_1,z1_2_2,-⟩,⟨z1_3_0,z1_3_1,z1_3_2,z1_3_3,z1_3_4,-⟩,-⟩ := hS.cells
 go_wp2
 exact bodyPost_ret (v := .agg #[.bool s,.slice a n cap,.int .i64 x]) (by simp [results,Tryz.results129,go_sem]) rfl ⟨rfl,((((Fs.begin w).alloc _ _).alloc _ _).alloc _ _).fr⟩
set_option maxRecDepth 20000 in
set_option maxHeartbeats 2000000 in
theorem border_2f (E F b : Int) (p : Nat) (a : Option Addr) (n cap : Nat) (x : Int) (s' : Bool) (a' : Option Addr) (n' cap' : Nat) (x' : Int) (w : World) (hp : w.heap[p]? = some (.cells #[.int .i64 E,.int .i64 F,.int .u64 b,.int .u8 2,.int .i64 0] 109 (0,0))) :
  Calls Tryz.prog 129 #[.pointer (some ⟨p,0,none⟩),.agg #[.bool false,.slice a n cap,.int .i64 x],.agg #[.bool s',.slice a' n' cap',.int .i64 x']] w fun e w' => e = .returned (.agg #[.bool s',.slice a' n' cap',.int .i64 x']) ∧ Below w.heap.size w w' := by
 go_enter Tryz.func129,Tryz.ntmps129
 have HR : Hid (Rn w p 4) := hide ⟨_,_,hp,rfl⟩
 have hS : Fs w w [⟨p,#[.int .i64 E,.int .i64 F,.int .u64 b,.int .u8 2,.int .i64 0],109⟩] := ⟨fun x hx => by rcases List.mem_cons.1 hx with rfl | hx; exact hp; exact absurd hx List.not_mem_nil,Below.refl _ _⟩
 have hlt0 : p < w.heap.size := block_lt hp
 clear hp
 replace hS := hS.alloc #[.bool false,.slice a n cap,.int .i64 x] 33
 replace hS := hS.alloc #[.bool s',.slice a' n' cap',.int .i64 x'] 33
 replace hS := hS.alloc #[.bool false,.slice none 0 0,.int .i64 0] 33
 simp only [World.size_alloc] at hS
 obtain ⟨⟨z1_0_0,z1_0_1,z1_0_2,-⟩,⟨z1_1_0,z1_1_1,z1_1_2,-⟩,⟨z1_2_0,z1_2_1,z1_2_2,-⟩,⟨z1_3_0,z1_3_1,z1_3_2,z1_3_3,z1_3_4,-⟩,-⟩ := hS.cells
 go_wp2
 exact bodyPost_ret (v := .agg #[.bool s',.slice a' n' cap',.int .i64 x']) (by simp [results,Tryz.results129,go_sem]) rfl ⟨rfl,((((Fs.begin w).alloc _ _).alloc _ _).alloc _ _).fr⟩
set_option maxRecDepth 20000 in
set_option maxHeartbeats 2000000 in
theorem border_2t (E F b : Int) (p : Nat) (a : Option Addr) (n cap : Nat) (x : Int) (s' : Bool) (a' : Option Addr) (n' cap' : Nat) (x' : Int) (w : World) (hp : w.heap[p]? = some (.cells #[.int .i64 E,.int .i64 F,.int .u64 b,.int .u8 2,.int .i64 0] 109 (0,0))) :
  Calls Tryz.prog 129 #[.pointer (some ⟨p,0,none⟩),.agg #[.bool true,.slice a n cap,.int .i64 x],.agg #[.bool s',.slice a' n' cap',.int .i64 x']] w fun e w' => e = .returned (.agg #[.bool true,.slice a n cap,.int .i64 x]) ∧ Below w.heap.size w w' := by
 go_enter Tryz.func129,Tryz.ntmps129
 have HR : Hid (Rn w p 4) := hide ⟨_,_,hp,rfl⟩
 have hS : Fs w w [⟨p,#[.int .i64 E,.int .i64 F,.int .u64 b,.int .u8 2,.int .i64 0],109⟩] := ⟨fun x hx => by rcases List.mem_cons.1 hx with rfl | hx; exact hp; exact absurd hx List.not_mem_nil,Below.refl _ _⟩
 have hlt0 : p < w.heap.size := block_lt hp
 clear hp
 replace hS := hS.alloc #[.bool true,.slice a n cap,.int .i64 x] 33
 replace hS := hS.alloc #[.bool s',.slice a' n' cap',.int .i64 x'] 33
 replace hS := hS.alloc #[.bool false,.slice none 0 0,.int .i64 0] 33
 simp only [World.size_alloc] at hS
 obtain ⟨⟨z1_0_0,z1_0_1,z1_0_2,-⟩,⟨z1_1_0,z1_1_1,z1_1_2,-⟩,⟨z1_2_0,z1_2_1,z1_2_2,-⟩,⟨z1_3_0,z1_3_1,z1_3_2,z1_3_3,z1_3_4,-⟩,-⟩ := hS.cells
 go_wp2
 exact bodyPost_ret (v := .agg #[.bool true,.slice a n cap,.int .i64 x]) (by simp [results,Tryz.results129,go_sem]) rfl ⟨rfl,((((Fs.begin w).alloc _ _).alloc _ _).alloc _ _).fr⟩
theorem border_is (E F b : Int) (md p : Nat) (s : Bool) (a : Option Addr) (n cap m : Nat) (x : Int) (s' : Bool) (a' : Option Addr) (n' cap' m' : Nat) (x' : Int) (r : Bool) (v : Nat) (y : Int) (B : Nat) (w : World)
  (h : Mine w B a n cap m) (h' : Mine w B a' n' cap' m') (hB : B ≤ w.heap.size) (hT : Tb w) (hp : w.heap[p]? = some (.cells #[.int .i64 E,.int .i64 F,.int .u64 b,.int .u8 (md : Int),.int .i64 0] 109 (0,0))) (HK : Mk1 false (-1)) (hd : Bord md s m x s' m' x' r v y) :
  Calls Tryz.prog 129 #[.pointer (some ⟨p,0,none⟩),.agg #[.bool s,.slice a n cap,.int .i64 x],.agg #[.bool s',.slice a' n' cap',.int .i64 x']] w fun e w' => (∃ A N C,e = .returned (.agg #[.bool r,.slice A N C,.int .i64 y]) ∧ Mine w' B A N C v) ∧ Below w.heap.size w w' := by
 rcases hd with ⟨h1,r1,v1,y1,HS,HP⟩ | ⟨h1,rfl,rfl,rfl⟩ | ⟨h1,rfl,rfl,rfl⟩
 ·have hc : md = 0 ∨ md = 1 := by omega
  rcases hc with rfl | rfl
  ·refine (border_0 E F b p s a n cap m x s' a' n' cap' m' x' r1 v1 y1 r v y w h.num h'.num hT hp (hide HK) (hide HS) (hide HP)).mono ?_
   rintro e w' ⟨⟨A,N,C,rfl,g⟩,hb⟩
   exact ⟨⟨A,N,C,rfl,g.mono hB⟩,hb⟩
  ·refine (border_1 E F b p s a n cap m x s' a' n' cap' m' x' r1 v1 y1 r v y w h.num h'.num hT hp (hide HK) (hide HS) (hide HP)).mono ?_
   rintro e w' ⟨⟨A,N,C,rfl,g⟩,hb⟩
   exact ⟨⟨A,N,C,rfl,g.mono hB⟩,hb⟩
 ·rcases h1 with rfl | ⟨rfl,rfl⟩
  ·refine (border_4 E F b p s a n cap x r a' n' cap' y w hp).mono ?_
   rintro e w' ⟨rfl,hb⟩
   exact ⟨⟨_,_,_,rfl,h'.kept hb⟩,hb⟩
  ·refine (border_2f E F b p a n cap x r a' n' cap' y w hp).mono ?_
   rintro e w' ⟨rfl,hb⟩
   exact ⟨⟨_,_,_,rfl,h'.kept hb⟩,hb⟩
 ·rcases h1 with rfl | ⟨rfl,rfl⟩
  ·refine (border_3 E F b p r a n cap y s' a' n' cap' x' w hp).mono ?_
   rintro e w' ⟨rfl,hb⟩
   exact ⟨⟨_,_,_,rfl,h.kept hb⟩,hb⟩
  ·refine (border_2t E F b p a n cap y s' a' n' cap' x' w hp).mono ?_
   rintro e w' ⟨rfl,hb⟩
   exact ⟨⟨_,_,_,rfl,h.kept hb⟩,hb⟩
end Go.Proofs.YtkebhccbhoamjaaGreatDoor
