/- Of what NearRowRow stands on: NrRef2 NrSpR NrMidE NrBord. -/
import Derived.Test.YtkebhccbhoamjaaGreatDoorPbd
import Derived.Test.YtkebhccbhoamjaaGreatDoorPbc
import Derived.Test.YtkebhccbhoamjaaGreatDoorPbb
import Derived.Test.YtkebhccbhoamjaaGreatDoorPan
import Derived.Test.YtkebhccbhoamjaaGreatDoorPag
namespace Go.Proofs.YtkebhccbhoamjaaGreatDoor
open Go.RowKit
set_option maxHeartbeats 4000000
set_option maxRecDepth 20000
theorem rmake1 (A : Option Addr) (N C : Nat) (k : Int) (w : World) (h : Num w A N 1) (hk : -1073741824 ≤ k ∧ k ≤ 1073741824) :
  Calls Tryz.prog 116 #[.bool false,.agg #[.slice A N C],.int .i64 k] w fun e w' => (∃ A N C,e = .returned (.tuple #[.agg #[.bool false,.slice A N C,.int .i64 k],.int .i64 0]) ∧ Mine w' w.heap.size A N C 1) ∧ Below w.heap.size w w' := by
 have := rmake_ok false A N C 1 0 k w h (by decide) ⟨0,by decide⟩ (by decide) (by omega) (by omega) (by omega)
 rw [show k + ((0 : Nat) : Int) = k from by omega,show 1 / 2 ^ 0 = 1 from by decide] at this
 exact this
theorem same_yes (a a' : Option Addr) (n n' cap cap' m : Nat) (w : World) (h : Num w a n m) (h' : Num w a' n' m) :
  Calls Tryz.prog 29 #[.agg #[.slice a n cap],.agg #[.slice a' n' cap']] w fun e w' => e = .returned (.bool true) ∧ Below w.heap.size w w' := by
 have := same_any a a' n n' cap cap' m m w h h'
 rw [decide_eq_true rfl] at this
 exact this
theorem rpower (k : Int) (hk : -1073741824 ≤ k ∧ k ≤ 1073741824) (w : World)  :
  Calls Tryz.prog 57 #[.bool false,.int .u64 1,.int .i64 k] w fun e w' => (∃ A N C,e = .returned (.agg #[.bool false,.slice A N C,.int .i64 k]) ∧ Mine w' w.heap.size A N C 1) ∧ Below w.heap.size w w' := by
 have HK := hide hk
 clear hk
 go_enter Tryz.func57,Tryz.ntmps57
 go_wp2_with fail
 refine (rof_any 1 _ (by decide)).mono ?_
 rintro e w1 ⟨⟨A1,N1,C1,rfl,f1⟩,hb1⟩
 have hS := (Fs.one w _ _).kept hb1
 obtain ⟨⟨ya,yb,yc,-⟩,-⟩ := hS.cells
 have G1 := hide f1
 clear f1
 go_wp2_with fail
 refine (rmake1 A1 N1 C1 k _ (unhide G1).num (unhide HK)).mono ?_
 rintro e w2 ⟨⟨A2,N2,C2,rfl,f2⟩,hb2⟩
 replace hS := hS.kept hb2
 clear ya yb yc
 obtain ⟨⟨yd,ye,yf,-⟩,-⟩ := hS.cells
 replace G1 := hide ((unhide G1).kept hb2)
 have hZ := hb1.size
 simp only [World.size_alloc] at hZ
 have G2 := hide (f2.mono (base' := w.heap.size + 1) hZ)
 clear f2 G1
 have hltw2_0 : w.heap.size < w2.heap.size := hS.lt 0 rfl
 obtain ⟨WV,hWV⟩ : ∃ WV,w2.alloc (.cells #[.bool false,.slice A2 N2 C2,.int .i64 k] 33) = WV := ⟨_,rfl⟩
 replace hS := hS.alloc #[.bool false,.slice A2 N2 C2,.int .i64 k] 33
 rw [hWV] at hS
 replace G2 := hide (hWV ▸ (unhide G2).alloc (.cells #[.bool false,.slice A2 N2 C2,.int .i64 k] 33))
 clear yd ye yf
 obtain ⟨⟨yg,yh,yi,-⟩,⟨yj,yk,yl,-⟩,-⟩ := hS.cells
 have Q_ := hS.frozen (b := w.heap.size) (cs := #[.bool false,.slice none 0 0,.int .i64 0]) (t := 33) (by simp)
 have fz0 := Q_ 0
 have fz1 := Q_ 1
 have fz2 := Q_ 2
 clear Q_
 go_wp2
 exact bodyPost_ret (v := .agg #[.bool false,.slice A2 N2 C2,.int .i64 k]) (by simp [results,Tryz.results57,go_sem,yj,yk,yl]) rfl ⟨⟨_,_,_,rfl,Mine.mono ((((unhide G2).set (by simp) _).set (by simp) _).set (by simp) _) (by omega)⟩,((hS.fr.setCell (by simp <;> omega) _).setCell (by simp <;> omega) _).setCell (by simp <;> omega) _⟩
theorem sdy_yes (s : Bool) (a : Option Addr) (n cap m : Nat) (x : Int) (a' : Option Addr) (n' cap' : Nat) (w : World) (h : Num w a n m) (h' : Num w a' n' m) :
  Calls Tryz.prog 16 #[.agg #[.bool s,.slice a n cap,.int .i64 x],.agg #[.bool s,.slice a' n' cap',.int .i64 x]] w fun e w' => e = .returned (.bool true) ∧ Below w.heap.size w w' := by
 have H := hide h
 have H' := hide h'
 clear h h'
 go_enter Tryz.func16,Tryz.ntmps16
 go_wp2_with fail
 refine (same_yes a a' n n' cap cap' m _ ((unhide H).kept (Fs.two w _ _ _ _).fr) ((unhide H').kept (Fs.two w _ _ _ _).fr)).mono ?_
 rintro e w1 ⟨rfl,hb1⟩
 have hS := (Fs.two w _ _ _ _).kept hb1
 obtain ⟨⟨ya,yb,yc,-⟩,⟨yd,ye,yf,-⟩,-⟩ := hS.cells
 go_wp2
 go_ret
 exact ⟨rfl,hS.fr⟩
structure SpR (w W : World) (B T : Nat) : Prop where
 os : W.os = w.os
 tape : W.tape = w.tape
 output : W.output = w.output
 size : w.heap.size ≤ W.heap.size
 block : ∀ k,k < w.heap.size → (k < B ∨ T ≤ k) → W.heap[k]? = w.heap[k]?
theorem mine_parts {w : World} {B n c m : Nat} {a : Option Addr} (h : Mine w B a n c m) : (a = none ∧ n = 0 ∧ c = 0) ∨ ∃ g,a = some ⟨g,0,none⟩ ∧ B ≤ g ∧ g < w.heap.size := by
 obtain ⟨xs,hl,ho,_⟩ := h
 rcases ho with ⟨e,_⟩ | ⟨g',c',cur,e,hg,hh,_⟩
 ·injection e with e1 e2 e3
  exact Or.inl ⟨e1,e2,e3⟩
 ·injection e with e1 e2 e3
  exact Or.inr ⟨g',e1,hg,block_lt hh⟩
theorem spoil_mine {w : World} {B n c m T : Nat} {a : Option Addr} (h : Mine w B a n c m) (hB : B ≤ w.heap.size) (hT : ∀ g,a = some ⟨g,0,none⟩ → g < T) : Calls Tryz.prog 17 #[.agg #[.slice a n c]] w fun e w' => e = .returned (.tuple #[]) ∧ SpR w w' B T := by
 rcases mine_parts h with ⟨rfl,rfl,rfl⟩ | ⟨g,rfl,hg,_⟩
 ·refine (spoil_nil w).mono ?_
  rintro e w' ⟨rfl,hb⟩
  exact ⟨rfl,hb.os,hb.tape,hb.output,hb.size,fun k hk _ => hb.block k hk⟩
 ·refine (spoil_any g n c B m w h hB).mono ?_
  rintro e w' ⟨rfl,hs⟩
  have := hT g rfl
  exact ⟨rfl,hs.os,hs.tape,hs.output,hs.size,fun k hk hor => hs.block k hk (by omega)⟩
theorem Mine.spoilR {w W : World} {B T B2 n c m : Nat} {a : Option Addr} (h : Mine w B2 a n c m) (hs : SpR w W B T) (hg : T ≤ B2) : Mine W B2 a n c m := by
 obtain ⟨xs,h1,ho,h2⟩ := h
 refine ⟨xs,h1,?_,h2⟩
 rcases ho with ho | ⟨g',c',cur,e,hg',hh,hr⟩
 ·exact Or.inl ho
 ·exact Or.inr ⟨g',c',cur,e,hg',by rw [hs.block g' (block_lt hh) (by omega)]; exact hh,hr⟩
theorem Fs.spoilR {w0 w W : World} {bs : List En} {B T : Nat} (h : Fs w0 w bs) (hs : SpR w W B T) (hg : w0.heap.size ≤ B) (hb : ∀ x,x ∈ bs → x.b < B ∨ T ≤ x.b) : Fs w0 W bs :=
 ⟨fun x hx => by rw [hs.block _ (block_lt (h.bx x hx)) (hb x hx)]; exact h.bx x hx,⟨hs.os.trans h.fr.os,hs.tape.trans h.fr.tape,hs.output.trans h.fr.output,Nat.le_trans h.fr.size hs.size,fun k hk => by rw [hs.block k (Nat.lt_of_lt_of_le hk h.fr.size) (Or.inl (by omega))]; exact h.fr.block k hk⟩⟩
def RnE (w : World) (p k : Nat) (e : Int) : Prop := ∃ cs t,w.heap[p]? = some (.cells cs t (0,0)) ∧ cs[k]? = some (.int .i64 e)
theorem RnE.kept {w w' : World} {p k : Nat} {e : Int} (h : RnE w p k e) (hb : Below w.heap.size w w') : RnE w' p k e := by
 obtain ⟨cs,t,h1,h2⟩ := h
 exact ⟨cs,t,by rw [hb.block _ (block_lt h1)]; exact h1,h2⟩
theorem keep_e (p k : Nat) (e : Int) (w : World) (h : RnE w p k e) :
  Calls Tryz.prog 124 #[.pointer (some ⟨p,k,none⟩),.int .i64 0] w fun en w' => en = .returned (.tuple #[]) ∧ Below w.heap.size w w' := by
 by_cases he : e = 0
 ·subst he; exact keep_0 p k w h
 ·obtain ⟨cs,t,h1,h2⟩ := h
  have c1 : w.cell? ⟨p,k,none⟩ = some (.int .i64 e) := by rw [cell_of_row w p k _ _ _ h1]; exact h2
  have hb0 : (e == 0) = false := by simp [he]
  clear h1 h2 he
  go_enter Tryz.func124,Tryz.ntmps124
  go_wp2
  go_end0
  exact ⟨rfl,Below.refl _ _⟩
theorem runDyadic_e (p k : Nat) (er : Int) (s : Bool) (a : Option Addr) (n cap : Nat) (x : Int) (w : World) (h : RnE w p k er) :
  Calls Tryz.prog 68 #[.pointer (some ⟨p,k,none⟩),.agg #[.bool s,.slice a n cap,.int .i64 x],.int .i64 0] w fun e w' => e = .returned (.agg #[.bool s,.slice a n cap,.int .i64 x]) ∧ Below w.heap.size w w' := by
 have H := hide h
 clear h
 go_enter Tryz.func68,Tryz.ntmps68
 go_wp2_with fail
 refine (keep_e p k er _ ((unhide H).kept (Fs.two w _ _ _ _).fr)).mono ?_
 rintro e w1 ⟨rfl,hb1⟩
 have hS := (Fs.two w _ _ _ _).kept hb1
 obtain ⟨⟨ya,yb,yc,-⟩,⟨yd,ye,yf,-⟩,-⟩ := hS.cells
 have Q_ := hS.frozen (b := w.heap.size + 1) (cs := #[.bool false,.slice none 0 0,.int .i64 0]) (t := 33) (by simp)
 have fz0 := Q_ 0
 have fz1 := Q_ 1
 have fz2 := Q_ 2
 clear Q_
 go_wp2
 exact bodyPost_ret (v := .agg #[.bool s,.slice a n cap,.int .i64 x]) (by simp [results,Tryz.results68,go_sem,yd,ye,yf]) rfl ⟨rfl,((hS.fr.setCell (by simp <;> omega) _).setCell (by simp <;> omega) _).setCell (by simp <;> omega) _⟩
theorem middle_E (p k : Nat) (er : Int) (s : Bool) (a : Option Addr) (n cap m : Nat) (x : Int) (s' : Bool) (a' : Option Addr) (n' cap' m' : Nat) (x' : Int) (r1 : Bool) (v1 : Nat) (y1 : Int) (r2 : Bool) (v2 : Nat) (y2 : Int) (w : World) (h : Num w a n m) (h' : Num w a' n' m') (hT : Tb w) (hR : RnE w p k er) (HK : Hid (Mk1 false (-1))) (HS : Hid (SumsM s m x s' m' x' 0 r1 v1 y1)) (HP : Hid (ProdsM r1 v1 y1 false 1 (-1) 0 r2 v2 y2)) :
  Calls Tryz.prog 67 #[.pointer (some ⟨p,k,none⟩),.agg #[.bool s,.slice a n cap,.int .i64 x],.agg #[.bool s',.slice a' n' cap',.int .i64 x']] w fun e w' => (∃ A N C,e = .returned (.agg #[.bool r2,.slice A N C,.int .i64 y2]) ∧ Mine w' w.heap.size A N C v2) ∧ Below w.heap.size w w' := by
 have H := hide h
 have H' := hide h'
 have HT := hide hT
 have HR := hide hR
 clear h h' hT hR
 go_enter Tryz.func67,Tryz.ntmps67
 go_wp2_with fail
 refine (one_any _).mono ?_
 rintro e w1 ⟨⟨A1,N1,C1,rfl,f1⟩,hb1⟩
 have hS := (Fs.three w _ _ _ _ _ _).kept hb1
 obtain ⟨⟨ya,yb,yc,-⟩,⟨yd,ye,yf,-⟩,⟨yg,yh,yi,-⟩,-⟩ := hS.cells
 have G1 := hide (f1.mono (base' := w.heap.size + 3) (by simp))
 clear f1
 have hltw1_0 : w.heap.size < w1.heap.size := hS.lt 0 rfl
 have hltw1_1 : w.heap.size + 1 < w1.heap.size := hS.lt 1 rfl
 have hltw1_2 : w.heap.size + 2 < w1.heap.size := hS.lt 2 rfl
 go_wp2_with fail
 refine (unhide HK _ _ _ _ _ (unhide G1) ((unhide HT).kept hS.fr)).mono ?_
 rintro e w2 ⟨⟨A2,N2,C2,rfl,f2⟩,hb2⟩
 replace hS := hS.kept hb2
 clear ya yb yc yd ye yf yg yh yi
 obtain ⟨⟨yj,yk,yl,-⟩,⟨ym,yn,yo,-⟩,⟨yp,yq,yr,-⟩,-⟩ := hS.cells
 replace G1 := hide ((unhide G1).kept hb2)
 have G2 := hide (f2.mono (base' := w.heap.size + 3) hltw1_2)
 clear f2 G1
 go_wp2_with fail
 refine (runDyadic_e p k er _ _ _ _ _ _ ((unhide HR).kept hS.fr)).mono ?_
 rintro e w3 ⟨rfl,hb3⟩
 replace hS := hS.kept hb3
 clear yj yk yl ym yn yo yp yq yr
 obtain ⟨⟨ys,yt,yu,-⟩,⟨yv,yw,yx,-⟩,⟨yy,yz,y0,-⟩,-⟩ := hS.cells
 replace G2 := hide ((unhide G2).kept hb3)
 have hltw3_0 : w.heap.size < w3.heap.size := hS.lt 0 rfl
 have hltw3_1 : w.heap.size + 1 < w3.heap.size := hS.lt 1 rfl
 have hltw3_2 : w.heap.size + 2 < w3.heap.size := hS.lt 2 rfl
 replace hS := hS.alloc #[.bool false,.slice A2 N2 C2,.int .i64 (-1)] 33
 replace G2 := hide ((unhide G2).alloc (.cells #[.bool false,.slice A2 N2 C2,.int .i64 (-1)] 33))
 go_wp2_with fail
 have hS3s : w.heap.size ≤ (w3.alloc (.cells #[.bool false,.slice A2 N2 C2,.int .i64 (-1)] 33)).heap.size := hS.size
 have hs9 : ∀ x9 : Nat × (Pk → World → Prop),x9 ∈ ([(4,fun q W => Mine W (w.heap.size + 3) q.A q.N q.C (v1)),(9,fun q W => Mine W (w.heap.size + 3) q.A q.N q.C (v2)),(14,fun _ W => Mine W (w.heap.size + 3) A2 N2 C2 1)] : List (Nat × (Pk → World → Prop))) → ∀ q9 : Pk,St (w.heap.size + 3) (x9.2 q9) := by
  intro x hx q
  simp only [List.mem_cons,List.not_mem_nil,or_false] at hx
  rcases hx with rfl | rfl | rfl
  ·exact st_mine _ _ _ _ _
  ·exact st_mine _ _ _ _ _
  ·exact st_mine2 _ _ _ _
 have h09 : ∀ x9 : Nat × (Pk → World → Prop),x9 ∈ ([(4,fun q W => Mine W (w.heap.size + 3) q.A q.N q.C (v1)),(9,fun q W => Mine W (w.heap.size + 3) q.A q.N q.C (v2)),(14,fun _ W => Mine W (w.heap.size + 3) A2 N2 C2 1)] : List (Nat × (Pk → World → Prop))) → 14 ≤ x9.1 → x9.2 ⟨none,0,0⟩ (w3.alloc (.cells #[.bool false,.slice A2 N2 C2,.int .i64 (-1)] 33)) := by
  intro x hx hn9
  simp only [List.mem_cons,List.not_mem_nil,or_false] at hx
  rcases hx with rfl | rfl | rfl
  ·exact absurd hn9 (by simp)
  ·exact absurd hn9 (by simp)
  ·exact unhide G2
 refine wp_region_any (by kernel_rfl) ?_
 refine wpAny_pick (fun p9 => [some (14,.pointer (some ⟨p,k,none⟩)),some (15,.pointer (some ⟨p,k,none⟩)),some (16,.agg #[.bool s,.slice a n cap,.int .i64 x]),some (17,.agg #[.bool s',.slice a' n' cap',.int .i64 x']),some (18,.tuple #[.agg #[.bool r1,.slice (p9 4).A (p9 4).N (p9 4).C,.int .i64 y1],.int .i64 0]),some (19,.agg #[.bool r1,.slice (p9 4).A (p9 4).N (p9 4).C,.int .i64 y1]),some (20,.int .i64 0),some (21,.agg #[.bool r1,.slice (p9 4).A (p9 4).N (p9 4).C,.int .i64 y1]),some (22,.agg #[.bool false,.slice A2 N2 C2,.int .i64 (-1)]),some (23,.tuple #[.agg #[.bool r2,.slice (p9 9).A (p9 9).N (p9 9).C,.int .i64 y2],.int .i64 0]),some (24,.agg #[.bool r2,.slice (p9 9).A (p9 9).N (p9 9).C,.int .i64 y2]),some (25,.int .i64 0),some (26,.agg #[.bool r2,.slice (p9 9).A (p9 9).N (p9 9).C,.int .i64 y2]),none])
  (fun p9 l9 W9 => Pm w (w.heap.size + 3) [(4,fun q W => Mine W (w.heap.size + 3) q.A q.N q.C (v1)),(9,fun q W => Mine W (w.heap.size + 3) q.A q.N q.C (v2)),(14,fun _ W => Mine W (w.heap.size + 3) A2 N2 C2 1)] p9 l9 W9 (pickBs l9 [(13,[⟨w3.heap.size,#[.bool false,.slice A2 N2 C2,.int .i64 (-1)],33⟩,⟨w.heap.size,#[.bool s,.slice a n cap,.int .i64 x],33⟩,⟨w.heap.size + 1,#[.bool s',.slice a' n' cap',.int .i64 x'],33⟩,⟨w.heap.size + 2,#[.bool r2,.slice (p9 9).A (p9 9).N (p9 9).C,.int .i64 y2],33⟩])] [⟨w3.heap.size,#[.bool false,.slice A2 N2 C2,.int .i64 (-1)],33⟩,⟨w.heap.size,#[.bool s,.slice a n cap,.int .i64 x],33⟩,⟨w.heap.size + 1,#[.bool s',.slice a' n' cap',.int .i64 x'],33⟩,⟨w.heap.size + 2,#[.bool false,.slice none 0 0,.int .i64 0],33⟩])) _ _ (fun _ => rfl) (by kernel_rfl) (fun _ => rfl) (fun _ => rfl) ?_ ?_ (fun _ => ⟨none,0,0⟩) (Pm.start2 hS _ _ _ (by simp; omega) hs9 h09)
 ·intro p9 l9 t9 W9 i9 hD hi9 hl9 hM
  obtain ⟨o9,ho9,hd9⟩ := (mem_ready.1 hi9).2
  have hin9 : i9 < 14 := by
   by_cases h : i9 < 14
   ·exact h
   ·rw [Array.getElem?_eq_none (by rw [hD.len]; simp; omega)] at hl9; cases hl9
  have hcase : i9 = 0 ∨ i9 = 1 ∨ i9 = 2 ∨ i9 = 3 ∨ i9 = 4 ∨ i9 = 5 ∨ i9 = 6 ∨ i9 = 7 ∨ i9 = 8 ∨ i9 = 9 ∨ i9 = 10 ∨ i9 = 11 ∨ i9 = 12 ∨ i9 = 13 := by omega
  clear hin9
  rcases hcase with rfl | rfl | rfl | rfl | rfl | rfl | rfl | rfl | rfl | rfl | rfl | rfl | rfl | rfl
  ·cases ho9
   have r0 := hD.old 0 _ rfl rfl
   refine wpOp_step rfl fun K hK => ?_
   go_simp
   exact hK _ _ ⟨p9,fun _ _ => rfl,rfl,(Pm.keepM rfl (hM.val rfl))⟩
  ·cases ho9
   have r0 := hD.old 0 _ rfl rfl
   refine wpOp_step rfl fun K hK => ?_
   go_simp
   exact hK _ _ ⟨p9,fun _ _ => rfl,rfl,(Pm.keepM rfl (hM.val rfl))⟩
  ·cases ho9
   have r4 := hD.old 4 _ rfl rfl
   have hM0 : Fs w W9 [⟨w3.heap.size,#[.bool false,.slice A2 N2 C2,.int .i64 (-1)],33⟩,⟨w.heap.size,#[.bool s,.slice a n cap,.int .i64 x],33⟩,⟨w.heap.size + 1,#[.bool s',.slice a' n' cap',.int .i64 x'],33⟩,⟨w.heap.size + 2,#[.bool false,.slice none 0 0,.int .i64 0],33⟩] := by
    have hM1 := hM.st
    simp only [pickBs] at hM1
    rw [if_neg (hD.waits 2 13 _ ⟨2,.phase⟩ hl9 rfl (by simp) rfl rfl)] at hM1
    exact hM1
   have Q_ := hM0.cellAt (b := w.heap.size) (cs := #[.bool s,.slice a n cap,.int .i64 x]) (t := 33) (by simp)
   have c9_0 := Q_ 0 _ rfl
   have c9_1 := Q_ 1 _ rfl
   have c9_2 := Q_ 2 _ rfl
   clear Q_
   clear hM0
   refine wpOp_step rfl fun K hK => ?_
   go_simp
   exact hK _ _ ⟨p9,fun _ _ => rfl,rfl,(Pm.keepM rfl (hM.val rfl))⟩
  ·cases ho9
   have r5 := hD.old 5 _ rfl rfl
   have hM0 : Fs w W9 [⟨w3.heap.size,#[.bool false,.slice A2 N2 C2,.int .i64 (-1)],33⟩,⟨w.heap.size,#[.bool s,.slice a n cap,.int .i64 x],33⟩,⟨w.heap.size + 1,#[.bool s',.slice a' n' cap',.int .i64 x'],33⟩,⟨w.heap.size + 2,#[.bool false,.slice none 0 0,.int .i64 0],33⟩] := by
    have hM1 := hM.st
    simp only [pickBs] at hM1
    rw [if_neg (hD.waits 3 13 _ ⟨3,.phase⟩ hl9 rfl (by simp) rfl rfl)] at hM1
    exact hM1
   have Q_ := hM0.cellAt (b := w.heap.size + 1) (cs := #[.bool s',.slice a' n' cap',.int .i64 x']) (t := 33) (by simp)
   have c9_0 := Q_ 0 _ rfl
   have c9_1 := Q_ 1 _ rfl
   have c9_2 := Q_ 2 _ rfl
   clear Q_
   clear hM0
   refine wpOp_step rfl fun K hK => ?_
   go_simp
   exact hK _ _ ⟨p9,fun _ _ => rfl,rfl,(Pm.keepM rfl (hM.val rfl))⟩
  ·cases ho9
   have r16 := hD.od hd9 2 16 _ rfl (by simp)
   have r17 := hD.od hd9 3 17 _ rfl (by simp)
   have ga0 := hM.fx _ (List.mem_of_getElem? (i := 2) rfl) (Or.inr (by rw [hD.len]; simp))
   try simp only [] at ga0
   have hM0 : Fs w W9 [⟨w3.heap.size,#[.bool false,.slice A2 N2 C2,.int .i64 (-1)],33⟩,⟨w.heap.size,#[.bool s,.slice a n cap,.int .i64 x],33⟩,⟨w.heap.size + 1,#[.bool s',.slice a' n' cap',.int .i64 x'],33⟩,⟨w.heap.size + 2,#[.bool false,.slice none 0 0,.int .i64 0],33⟩] := by
    have hM1 := hM.st
    simp only [pickBs] at hM1
    rw [if_neg (hD.waits 4 13 _ ⟨4,.phase⟩ hl9 rfl (by simp) rfl rfl)] at hM1
    exact hM1
   have HD := hide hD
   have hn13 := hD.waits 4 13 _ ⟨4,.phase⟩ hl9 rfl (by simp) rfl rfl
   refine wpOp_step rfl fun K hK => ?_
   go_simp
   go_wp2_with fail
   refine (unhide HS _ _ _ _ _ _ _ ((unhide H).kept hM.st.fr) ((unhide H').kept hM.st.fr) ((unhide HT).kept hM.st.fr)).mono ?_
   rintro en w9 ⟨⟨a9,n9,c9,rfl,h9⟩,hb9⟩
   refine hK _ _ ⟨p9.set 4 ⟨a9,n9,c9⟩,?_,rfl,(Pm.keepM rfl (((hM.kept hs9 hb9).pick ⟨a9,n9,c9⟩ ?_).into (by simp only [pickBs]; rw [if_neg hn13,if_neg hn13])))⟩
   ·intro k9 hk9
    clear hM hK
    match k9,hk9 with
    | 0,_ => rfl
    | 1,_ => rfl
    | 2,_ => rfl
    | 3,_ => rfl
    | 4,hk9 => exact absurd (hl9.symm.trans hk9) (by simp)
    | 5,hk9 => exact absurd (hl9.symm.trans (getD_true ((unhide HD).shut 5 _ (hk9) rfl ⟨4,.data⟩ (by simp) rfl))) (by simp)
    | 6,hk9 => exact absurd (hl9.symm.trans (getD_true ((unhide HD).shut 6 _ (hk9) rfl ⟨4,.data⟩ (by simp) rfl))) (by simp)
    | 7,hk9 => exact absurd (hl9.symm.trans (getD_true ((unhide HD).shut 7 _ (hk9) rfl ⟨4,.chain⟩ (by simp) rfl))) (by simp)
    | 8,_ => rfl
    | 9,hk9 => exact absurd (hl9.symm.trans (getD_true ((unhide HD).shut 7 _ (getD_true ((unhide HD).shut 9 _ (hk9) rfl ⟨7,.data⟩ (by simp) rfl)) rfl ⟨4,.chain⟩ (by simp) rfl))) (by simp)
    | 10,hk9 => exact absurd (hl9.symm.trans (getD_true ((unhide HD).shut 7 _ (getD_true ((unhide HD).shut 9 _ (getD_true ((unhide HD).shut 10 _ (hk9) rfl ⟨9,.data⟩ (by simp) rfl)) rfl ⟨7,.data⟩ (by simp) rfl)) rfl ⟨4,.chain⟩ (by simp) rfl))) (by simp)
    | 11,hk9 => exact absurd (hl9.symm.trans (getD_true ((unhide HD).shut 7 _ (getD_true ((unhide HD).shut 9 _ (getD_true ((unhide HD).shut 11 _ (hk9) rfl ⟨9,.data⟩ (by simp) rfl)) rfl ⟨7,.data⟩ (by simp) rfl)) rfl ⟨4,.chain⟩ (by simp) rfl))) (by simp)
    | 12,hk9 => exact absurd (hl9.symm.trans (getD_true ((unhide HD).shut 7 _ (getD_true ((unhide HD).shut 9 _ (getD_true ((unhide HD).shut 12 _ (hk9) rfl ⟨9,.chain⟩ (by simp) rfl)) rfl ⟨7,.data⟩ (by simp) rfl)) rfl ⟨4,.chain⟩ (by simp) rfl))) (by simp)
    | 13,hk9 => exact absurd (hl9.symm.trans (getD_true ((unhide HD).shut 13 _ (hk9) rfl ⟨4,.phase⟩ (by simp) rfl))) (by simp)
    | k9 + 14,_ => rfl
   ·intro x hx he; simp only [List.mem_cons,List.not_mem_nil,or_false] at hx; rcases hx with rfl | rfl | rfl
    ·exact h9.mono hM.bw
    ·exact absurd he (by simp)
    ·exact absurd he (by simp)
  ·cases ho9
   have r18 := hD.od hd9 4 18 _ rfl (by simp)
   refine wpOp_step rfl fun K hK => ?_
   go_simp
   exact hK _ _ ⟨p9,fun _ _ => rfl,rfl,(Pm.keepM rfl (hM.val rfl))⟩
  ·cases ho9
   have r18 := hD.od hd9 4 18 _ rfl (by simp)
   refine wpOp_step rfl fun K hK => ?_
   go_simp
   exact hK _ _ ⟨p9,fun _ _ => rfl,rfl,(Pm.keepM rfl (hM.val rfl))⟩
  ·cases ho9
   have r15 := hD.od hd9 1 15 _ rfl (by simp)
   have r19 := hD.od hd9 5 19 _ rfl (by simp)
   have r20 := hD.od hd9 6 20 _ rfl (by simp)
   have ga0 := hM.fx _ (List.mem_of_getElem? (i := 2) rfl) (Or.inr (by rw [hD.len]; simp))
   try simp only [] at ga0
   have g4 := hM.fx _ (List.mem_of_getElem? (i := 0) rfl) (Or.inl (getD_true (hd9 ⟨4,.chain⟩ (by simp) rfl)))
   simp only [] at g4
   have hM0 : Fs w W9 [⟨w3.heap.size,#[.bool false,.slice A2 N2 C2,.int .i64 (-1)],33⟩,⟨w.heap.size,#[.bool s,.slice a n cap,.int .i64 x],33⟩,⟨w.heap.size + 1,#[.bool s',.slice a' n' cap',.int .i64 x'],33⟩,⟨w.heap.size + 2,#[.bool false,.slice none 0 0,.int .i64 0],33⟩] := by
    have hM1 := hM.st
    simp only [pickBs] at hM1
    rw [if_neg (hD.waits 7 13 _ ⟨7,.phase⟩ hl9 rfl (by simp) rfl rfl)] at hM1
    exact hM1
   refine wpOp_step rfl fun K hK => ?_
   go_simp
   go_wp2_with fail
   refine (runDyadic_e p k er _ _ _ _ _ _ ((unhide HR).kept hM.st.fr)).mono ?_
   rintro en w9 ⟨rfl,hb9⟩
   exact hK _ _ ⟨p9,fun _ _ => rfl,rfl,(Pm.keepM rfl ((hM.kept hs9 hb9).val rfl))⟩
  ·cases ho9
   have r7 := hD.old 7 _ rfl rfl
   have hM0 : Fs w W9 [⟨w3.heap.size,#[.bool false,.slice A2 N2 C2,.int .i64 (-1)],33⟩,⟨w.heap.size,#[.bool s,.slice a n cap,.int .i64 x],33⟩,⟨w.heap.size + 1,#[.bool s',.slice a' n' cap',.int .i64 x'],33⟩,⟨w.heap.size + 2,#[.bool false,.slice none 0 0,.int .i64 0],33⟩] := by
    have hM1 := hM.st
    simp only [pickBs] at hM1
    rw [if_neg (hD.waits 8 13 _ ⟨8,.phase⟩ hl9 rfl (by simp) rfl rfl)] at hM1
    exact hM1
   have Q_ := hM0.cellAt (b := w3.heap.size) (cs := #[.bool false,.slice A2 N2 C2,.int .i64 (-1)]) (t := 33) (by simp)
   have c9_0 := Q_ 0 _ rfl
   have c9_1 := Q_ 1 _ rfl
   have c9_2 := Q_ 2 _ rfl
   clear Q_
   clear hM0
   refine wpOp_step rfl fun K hK => ?_
   go_simp
   exact hK _ _ ⟨p9,fun _ _ => rfl,rfl,(Pm.keepM rfl (hM.val rfl))⟩
  ·cases ho9
   have r21 := hD.od hd9 7 21 _ rfl (by simp)
   have r22 := hD.od hd9 8 22 _ rfl (by simp)
   have ga0 := hM.fx _ (List.mem_of_getElem? (i := 2) rfl) (Or.inr (by rw [hD.len]; simp))
   try simp only [] at ga0
   have g4 := hM.fx _ (List.mem_of_getElem? (i := 0) rfl) (Or.inl (getD_true (hD.shut 7 _ (getD_true (hd9 ⟨7,.data⟩ (by simp) rfl)) rfl ⟨4,.chain⟩ (by simp) rfl)))
   simp only [] at g4
   have hM0 : Fs w W9 [⟨w3.heap.size,#[.bool false,.slice A2 N2 C2,.int .i64 (-1)],33⟩,⟨w.heap.size,#[.bool s,.slice a n cap,.int .i64 x],33⟩,⟨w.heap.size + 1,#[.bool s',.slice a' n' cap',.int .i64 x'],33⟩,⟨w.heap.size + 2,#[.bool false,.slice none 0 0,.int .i64 0],33⟩] := by
    have hM1 := hM.st
    simp only [pickBs] at hM1
    rw [if_neg (hD.waits 9 13 _ ⟨9,.phase⟩ hl9 rfl (by simp) rfl rfl)] at hM1
    exact hM1
   have HD := hide hD
   have hn13 := hD.waits 9 13 _ ⟨9,.phase⟩ hl9 rfl (by simp) rfl rfl
   refine wpOp_step rfl fun K hK => ?_
   go_simp
   go_wp2_with fail
   refine (unhide HP _ _ _ _ _ _ _ g4.num ga0.num).mono ?_
   rintro en w9 ⟨⟨a9,n9,c9,rfl,h9⟩,hb9⟩
   refine hK _ _ ⟨p9.set 9 ⟨a9,n9,c9⟩,?_,rfl,(Pm.keepM rfl (((hM.kept hs9 hb9).pick ⟨a9,n9,c9⟩ ?_).into (by simp only [pickBs]; rw [if_neg hn13,if_neg hn13])))⟩
   ·intro k9 hk9
    clear hM hK
    match k9,hk9 with
    | 0,_ => rfl
    | 1,_ => rfl
    | 2,_ => rfl
    | 3,_ => rfl
    | 4,_ => rfl
    | 5,_ => rfl
    | 6,_ => rfl
    | 7,_ => rfl
    | 8,_ => rfl
    | 9,hk9 => exact absurd (hl9.symm.trans hk9) (by simp)
    | 10,hk9 => exact absurd (hl9.symm.trans (getD_true ((unhide HD).shut 10 _ (hk9) rfl ⟨9,.data⟩ (by simp) rfl))) (by simp)
    | 11,hk9 => exact absurd (hl9.symm.trans (getD_true ((unhide HD).shut 11 _ (hk9) rfl ⟨9,.data⟩ (by simp) rfl))) (by simp)
    | 12,hk9 => exact absurd (hl9.symm.trans (getD_true ((unhide HD).shut 12 _ (hk9) rfl ⟨9,.chain⟩ (by simp) rfl))) (by simp)
    | 13,hk9 => exact absurd (hl9.symm.trans (getD_true ((unhide HD).shut 13 _ (hk9) rfl ⟨9,.phase⟩ (by simp) rfl))) (by simp)
    | k9 + 14,_ => rfl
   ·intro x hx he; simp only [List.mem_cons,List.not_mem_nil,or_false] at hx; rcases hx with rfl | rfl | rfl
    ·exact absurd he (by simp)
    ·exact h9.mono hM.bw
    ·exact absurd he (by simp)
  ·cases ho9
   have r23 := hD.od hd9 9 23 _ rfl (by simp)
   refine wpOp_step rfl fun K hK => ?_
   go_simp
   exact hK _ _ ⟨p9,fun _ _ => rfl,rfl,(Pm.keepM rfl (hM.val rfl))⟩
  ·cases ho9
   have r23 := hD.od hd9 9 23 _ rfl (by simp)
   refine wpOp_step rfl fun K hK => ?_
   go_simp
   exact hK _ _ ⟨p9,fun _ _ => rfl,rfl,(Pm.keepM rfl (hM.val rfl))⟩
  ·cases ho9
   have r14 := hD.od hd9 0 14 _ rfl (by simp)
   have r24 := hD.od hd9 10 24 _ rfl (by simp)
   have r25 := hD.od hd9 11 25 _ rfl (by simp)
   have ga0 := hM.fx _ (List.mem_of_getElem? (i := 2) rfl) (Or.inr (by rw [hD.len]; simp))
   try simp only [] at ga0
   have g4 := hM.fx _ (List.mem_of_getElem? (i := 0) rfl) (Or.inl (getD_true (hD.shut 7 _ (getD_true (hD.shut 9 _ (getD_true (hD.shut 10 _ (getD_true (hd9 ⟨10,.data⟩ (by simp) rfl)) rfl ⟨9,.data⟩ (by simp) rfl)) rfl ⟨7,.data⟩ (by simp) rfl)) rfl ⟨4,.chain⟩ (by simp) rfl)))
   simp only [] at g4
   have g9 := hM.fx _ (List.mem_of_getElem? (i := 1) rfl) (Or.inl (getD_true (hd9 ⟨9,.chain⟩ (by simp) rfl)))
   simp only [] at g9
   have hM0 : Fs w W9 [⟨w3.heap.size,#[.bool false,.slice A2 N2 C2,.int .i64 (-1)],33⟩,⟨w.heap.size,#[.bool s,.slice a n cap,.int .i64 x],33⟩,⟨w.heap.size + 1,#[.bool s',.slice a' n' cap',.int .i64 x'],33⟩,⟨w.heap.size + 2,#[.bool false,.slice none 0 0,.int .i64 0],33⟩] := by
    have hM1 := hM.st
    simp only [pickBs] at hM1
    rw [if_neg (hD.waits 12 13 _ ⟨12,.data⟩ hl9 rfl (by simp) rfl rfl)] at hM1
    exact hM1
   refine wpOp_step rfl fun K hK => ?_
   go_simp
   go_wp2_with fail
   refine (runDyadic_e p k er _ _ _ _ _ _ ((unhide HR).kept hM.st.fr)).mono ?_
   rintro en w9 ⟨rfl,hb9⟩
   exact hK _ _ ⟨p9,fun _ _ => rfl,rfl,(Pm.keepM rfl ((hM.kept hs9 hb9).val rfl))⟩
  ·cases ho9
   have r6 := hD.old 6 _ rfl rfl
   have r26 := hD.od hd9 12 26 _ rfl (by simp)
   have hM0 : Fs w W9 [⟨w3.heap.size,#[.bool false,.slice A2 N2 C2,.int .i64 (-1)],33⟩,⟨w.heap.size,#[.bool s,.slice a n cap,.int .i64 x],33⟩,⟨w.heap.size + 1,#[.bool s',.slice a' n' cap',.int .i64 x'],33⟩,⟨w.heap.size + 2,#[.bool false,.slice none 0 0,.int .i64 0],33⟩] := by
    have hM1 := hM.st
    simp only [pickBs] at hM1
    rw [if_neg (by rw [hl9]; simp)] at hM1
    exact hM1
   have c9_0 := hM0.cellAt (b := w.heap.size + 2) (cs := #[.bool false,.slice none 0 0,.int .i64 0]) (t := 33) (by simp) 0 _ rfl
   have z9_0 := hM0.frozen (b := w.heap.size + 2) (cs := #[.bool false,.slice none 0 0,.int .i64 0]) (t := 33) (by simp) 0
   have c9_1 := hM0.cellAt (b := w.heap.size + 2) (cs := #[.bool false,.slice none 0 0,.int .i64 0]) (t := 33) (by simp) 1 _ rfl
   have z9_1 := hM0.frozen (b := w.heap.size + 2) (cs := #[.bool false,.slice none 0 0,.int .i64 0]) (t := 33) (by simp) 1
   have c9_2 := hM0.cellAt (b := w.heap.size + 2) (cs := #[.bool false,.slice none 0 0,.int .i64 0]) (t := 33) (by simp) 2 _ rfl
   have z9_2 := hM0.frozen (b := w.heap.size + 2) (cs := #[.bool false,.slice none 0 0,.int .i64 0]) (t := 33) (by simp) 2
   refine wpOp_step rfl fun K hK => ?_
   go_simp
   exact hK _ _ ⟨p9,fun _ _ => rfl,rfl,Pm.putM hl9 ((((hM.val rfl).put hs9 _ _ (by simp <;> omega) (hM0.put (b := w.heap.size + 2) (cs := #[.bool false,.slice none 0 0,.int .i64 0]) (t := 33) (by simp) (by simp) 0 (.bool r2) [⟨w3.heap.size,#[.bool false,.slice A2 N2 C2,.int .i64 (-1)],33⟩,⟨w.heap.size,#[.bool s,.slice a n cap,.int .i64 x],33⟩,⟨w.heap.size + 1,#[.bool s',.slice a' n' cap',.int .i64 x'],33⟩,⟨w.heap.size + 2,#[.bool r2,.slice none 0 0,.int .i64 0],33⟩] (by simp <;> omega))).put hs9 _ _ (by simp <;> omega) ((hM0.put (b := w.heap.size + 2) (cs := #[.bool false,.slice none 0 0,.int .i64 0]) (t := 33) (by simp) (by simp) 0 (.bool r2) [⟨w3.heap.size,#[.bool false,.slice A2 N2 C2,.int .i64 (-1)],33⟩,⟨w.heap.size,#[.bool s,.slice a n cap,.int .i64 x],33⟩,⟨w.heap.size + 1,#[.bool s',.slice a' n' cap',.int .i64 x'],33⟩,⟨w.heap.size + 2,#[.bool r2,.slice none 0 0,.int .i64 0],33⟩] (by simp <;> omega)).put (b := w.heap.size + 2) (cs := #[.bool r2,.slice none 0 0,.int .i64 0]) (t := 33) (by simp) (by simp) 1 (.slice (p9 9).A (p9 9).N (p9 9).C) [⟨w3.heap.size,#[.bool false,.slice A2 N2 C2,.int .i64 (-1)],33⟩,⟨w.heap.size,#[.bool s,.slice a n cap,.int .i64 x],33⟩,⟨w.heap.size + 1,#[.bool s',.slice a' n' cap',.int .i64 x'],33⟩,⟨w.heap.size + 2,#[.bool r2,.slice (p9 9).A (p9 9).N (p9 9).C,.int .i64 0],33⟩] (by simp <;> omega))).put hs9 _ _ (by simp <;> omega) (((hM0.put (b := w.heap.size + 2) (cs := #[.bool false,.slice none 0 0,.int .i64 0]) (t := 33) (by simp) (by simp) 0 (.bool r2) [⟨w3.heap.size,#[.bool false,.slice A2 N2 C2,.int .i64 (-1)],33⟩,⟨w.heap.size,#[.bool s,.slice a n cap,.int .i64 x],33⟩,⟨w.heap.size + 1,#[.bool s',.slice a' n' cap',.int .i64 x'],33⟩,⟨w.heap.size + 2,#[.bool r2,.slice none 0 0,.int .i64 0],33⟩] (by simp <;> omega)).put (b := w.heap.size + 2) (cs := #[.bool r2,.slice none 0 0,.int .i64 0]) (t := 33) (by simp) (by simp) 1 (.slice (p9 9).A (p9 9).N (p9 9).C) [⟨w3.heap.size,#[.bool false,.slice A2 N2 C2,.int .i64 (-1)],33⟩,⟨w.heap.size,#[.bool s,.slice a n cap,.int .i64 x],33⟩,⟨w.heap.size + 1,#[.bool s',.slice a' n' cap',.int .i64 x'],33⟩,⟨w.heap.size + 2,#[.bool r2,.slice (p9 9).A (p9 9).N (p9 9).C,.int .i64 0],33⟩] (by simp <;> omega)).put (b := w.heap.size + 2) (cs := #[.bool r2,.slice (p9 9).A (p9 9).N (p9 9).C,.int .i64 0]) (t := 33) (by simp) (by simp) 2 (.int .i64 y2) [⟨w3.heap.size,#[.bool false,.slice A2 N2 C2,.int .i64 (-1)],33⟩,⟨w.heap.size,#[.bool s,.slice a n cap,.int .i64 x],33⟩,⟨w.heap.size + 1,#[.bool s',.slice a' n' cap',.int .i64 x'],33⟩,⟨w.heap.size + 2,#[.bool r2,.slice (p9 9).A (p9 9).N (p9 9).C,.int .i64 y2],33⟩] (by simp <;> omega)))⟩
 ·intro p9 l9 W9 hn9 hl9 hM
  have fr2_4 := hM.fx _ (List.mem_of_getElem? (i := 0) rfl) (Or.inl (hl9 4 (by decide)))
  have fr2_9 := hM.fx _ (List.mem_of_getElem? (i := 1) rfl) (Or.inl (hl9 9 (by decide)))
  have kr2_0 := hM.fx _ (List.mem_of_getElem? (i := 2) rfl) (Or.inr (by rw [hn9]; simp))
  try simp only [] at kr2_0
  replace hM := hM.st
  simp only [pickBs] at hM
  rw [if_pos (hl9 13 (by decide))] at hM
  clear hl9 hs9 h09 hn9
  generalize p9 4 = q4 at *
  obtain ⟨Ar2_4,Nr2_4,Cr2_4⟩ := q4
  simp only [] at fr2_4
  generalize p9 9 = q9 at *
  obtain ⟨Ar2_9,Nr2_9,Cr2_9⟩ := q9
  simp only [] at fr2_9
  clear hS ys yt yu yv yw yx yy yz y0
  have hS := hM
  clear hM
  simp only [Puts.lay,List.setIfInBounds_toArray,List.set_cons_zero,List.set_cons_succ]
  obtain ⟨⟨y3,y4,y5,-⟩,⟨y6,y7,y8,-⟩,⟨y9,yba,ybb,-⟩,⟨ybc,ybd,ybe,-⟩,-⟩ := hS.cells
  go_wp2
  exact bodyPost_ret (v := .agg #[.bool r2,.slice Ar2_9 Nr2_9 Cr2_9,.int .i64 y2]) (by simp [results,Tryz.results67,go_sem,ybc,ybd,ybe]) rfl ⟨⟨_,_,_,rfl,Mine.mono (show Mine W9 _ _ _ _ _ from unhide fr2_9) (by omega)⟩,hS.fr⟩
theorem middle_is (p k : Nat) (s : Bool) (a : Option Addr) (n cap m : Nat) (x : Int) (s' : Bool) (a' : Option Addr) (n' cap' m' : Nat) (x' : Int) (r1 : Bool) (v1 : Nat) (y1 : Int) (r2 : Bool) (v2 : Nat) (y2 : Int) (w : World) (h : Num w a n m) (h' : Num w a' n' m') (hT : Tb w) (hR : Rn w p k) (HK : Hid (Mk1 false (-1))) (HS : Hid (SumsM s m x s' m' x' 0 r1 v1 y1)) (HP : Hid (ProdsM r1 v1 y1 false 1 (-1) 0 r2 v2 y2)) :
  Calls Tryz.prog 67 #[.pointer (some ⟨p,k,none⟩),.agg #[.bool s,.slice a n cap,.int .i64 x],.agg #[.bool s',.slice a' n' cap',.int .i64 x']] w fun e w' => (∃ A N C,e = .returned (.agg #[.bool r2,.slice A N C,.int .i64 y2]) ∧ Mine w' w.heap.size A N C v2) ∧ Below w.heap.size w w' :=
 middle_E p k 0 s a n cap m x s' a' n' cap' m' x' r1 v1 y1 r2 v2 y2 w h h' hT hR HK HS HP
def Bord (md : Nat) (s : Bool) (m : Nat) (x : Int) (s' : Bool) (m' : Nat) (x' : Int) (r : Bool) (v : Nat) (y : Int) : Prop :=
 (md ≤ 1 ∧ ∃ r1 v1 y1,SumsM s m x s' m' x' 0 r1 v1 y1 ∧ ProdsM r1 v1 y1 false 1 (-1) 0 r v y) ∨ ((md = 4 ∨ (md = 2 ∧ s = false)) ∧ r = s' ∧ v = m' ∧ y = x') ∨ ((md = 3 ∨ (md = 2 ∧ s = true)) ∧ r = s ∧ v = m ∧ y = x)
theorem border_01 (E F b md : Int) (hmd : (md == (0 : Int)) = true ∨ ((md == (0 : Int)) = false ∧ (md == (1 : Int)) = true)) (p : Nat) (s : Bool) (a : Option Addr) (n cap m : Nat) (x : Int) (s' : Bool) (a' : Option Addr) (n' cap' m' : Nat) (x' : Int) (r1 : Bool) (v1 : Nat) (y1 : Int) (r2 : Bool) (v2 : Nat) (y2 : Int) (w : World) (h : Num w a n m) (h' : Num w a' n' m') (hT : Tb w) (hp : w.heap[p]? = some (.cells #[.int .i64 E,.int .i64 F,.int .u64 b,.int .u8 md,.int .i64 0] 109 (0,0))) (HK : Hid (Mk1 false (-1))) (HS : Hid (SumsM s m x s' m' x' 0 r1 v1 y1)) (HP : Hid (ProdsM r1 v1 y1 false 1 (-1) 0 r2 v2 y2)) :
  Calls Tryz.prog 129 #[.pointer (some ⟨p,0,none⟩),.agg #[.bool s,.slice a n cap,.int .i64 x],.agg #[.bool s',.slice a' n' cap',.int .i64 x']] w fun e w' => (∃ A N C,e = .returned (.agg #[.bool r2,.slice A N C,.int .i64 y2]) ∧ Mine w' w.heap.size A N C v2) ∧ Below w.heap.size w w' := by
 have H := hide h
 have H' := hide h'
 have HT := hide hT
 clear h h' hT
 rcases hmd with hm0 | ⟨hm0,hm1⟩
 all_goals
  go_enter Tryz.func129,Tryz.ntmps129
  have HR : Hid (Rn w p 4) := hide ⟨_,_,hp,rfl⟩
  have hS : Fs w w [⟨p,#[.int .i64 E,.int .i64 F,.int .u64 b,.int .u8 md,.int .i64 0],109⟩] := ⟨fun x hx => by rcases List.mem_cons.1 hx with rfl | hx; exact hp; exact absurd hx List.not_mem_nil,Below.refl _ _⟩
  have hlt0 : p < w.heap.size := block_lt hp
  clear hp
  replace hS := hS.alloc #[.bool s,.slice a n cap,.int .i64 x] 33
  replace hS := hS.alloc #[.bool s',.slice a' n' cap',.int .i64 x'] 33
  replace hS := hS.alloc #[.bool false,.slice none 0 0,.int .i64 0] 33
  simp only [World.size_alloc] at hS
  obtain ⟨⟨ya,yb,yc,-⟩,⟨yd,ye,yf,-⟩,⟨yg,yh,yi,-⟩,⟨yj,yk,yl,ym,yn,-⟩,-⟩ := hS.cells
  go_wp2_with fail
  have hS3s : w.heap.size ≤ (((w.alloc (.cells #[.bool s,.slice a n cap,.int .i64 x] 33)).alloc (.cells #[.bool s',.slice a' n' cap',.int .i64 x'] 33)).alloc (.cells #[.bool false,.slice none 0 0,.int .i64 0] 33)).heap.size := hS.size
  have hs9 : ∀ x9 : Nat × (Pk → World → Prop),x9 ∈ ([(5,fun q W => Mine W (w.heap.size + 3) q.A q.N q.C (v2))] : List (Nat × (Pk → World → Prop))) → ∀ q9 : Pk,St (w.heap.size + 3) (x9.2 q9) := by
   intro x hx q
   simp only [List.mem_cons,List.not_mem_nil,or_false] at hx
   rcases hx with rfl
   ·exact st_mine _ _ _ _ _
  have h09 : ∀ x9 : Nat × (Pk → World → Prop),x9 ∈ ([(5,fun q W => Mine W (w.heap.size + 3) q.A q.N q.C (v2))] : List (Nat × (Pk → World → Prop))) → 7 ≤ x9.1 → x9.2 ⟨none,0,0⟩ (((w.alloc (.cells #[.bool s,.slice a n cap,.int .i64 x] 33)).alloc (.cells #[.bool s',.slice a' n' cap',.int .i64 x'] 33)).alloc (.cells #[.bool false,.slice none 0 0,.int .i64 0] 33)) := by
   intro x hx hn9
   simp only [List.mem_cons,List.not_mem_nil,or_false] at hx
   rcases hx with rfl
   ·exact absurd hn9 (by simp)
  refine wp_region_any (by kernel_rfl) ?_
  refine wpAny_pick (fun p9 => [some (14,.pointer (some ⟨p,0,none⟩)),some (15,.pointer (some ⟨p,0,none⟩)),some (16,.pointer (some ⟨p,4,none⟩)),some (17,.agg #[.bool s,.slice a n cap,.int .i64 x]),some (18,.agg #[.bool s',.slice a' n' cap',.int .i64 x']),some (19,.agg #[.bool r2,.slice (p9 5).A (p9 5).N (p9 5).C,.int .i64 y2]),none])
   (fun p9 l9 W9 => Pm w (w.heap.size + 3) [(5,fun q W => Mine W (w.heap.size + 3) q.A q.N q.C (v2))] p9 l9 W9 (pickBs l9 [(6,[⟨w.heap.size + 2,#[.bool r2,.slice (p9 5).A (p9 5).N (p9 5).C,.int .i64 y2],33⟩,⟨w.heap.size + 1,#[.bool s',.slice a' n' cap',.int .i64 x'],33⟩,⟨w.heap.size,#[.bool s,.slice a n cap,.int .i64 x],33⟩,⟨p,#[.int .i64 E,.int .i64 F,.int .u64 b,.int .u8 md,.int .i64 0],109⟩])] [⟨w.heap.size + 2,#[.bool false,.slice none 0 0,.int .i64 0],33⟩,⟨w.heap.size + 1,#[.bool s',.slice a' n' cap',.int .i64 x'],33⟩,⟨w.heap.size,#[.bool s,.slice a n cap,.int .i64 x],33⟩,⟨p,#[.int .i64 E,.int .i64 F,.int .u64 b,.int .u8 md,.int .i64 0],109⟩])) _ _ (fun _ => rfl) (by kernel_rfl) (fun _ => rfl) (fun _ => rfl) ?_ ?_ (fun _ => ⟨none,0,0⟩) (Pm.start2 hS _ _ _ (by simp) hs9 h09)
  ·intro p9 l9 t9 W9 i9 hD hi9 hl9 hM
   obtain ⟨o9,ho9,hd9⟩ := (mem_ready.1 hi9).2
   have hin9 : i9 < 7 := by
    by_cases h : i9 < 7
    ·exact h
    ·rw [Array.getElem?_eq_none (by rw [hD.len]; simp; omega)] at hl9; cases hl9
   have hcase : i9 = 0 ∨ i9 = 1 ∨ i9 = 2 ∨ i9 = 3 ∨ i9 = 4 ∨ i9 = 5 ∨ i9 = 6 := by omega
   clear hin9
   rcases hcase with rfl | rfl | rfl | rfl | rfl | rfl | rfl
   ·cases ho9
    have r0 := hD.old 0 _ rfl rfl
    refine wpOp_step rfl fun K hK => ?_
    go_simp
    exact hK _ _ ⟨p9,fun _ _ => rfl,rfl,(Pm.keepM rfl (hM.val rfl))⟩
   ·cases ho9
    have r14 := hD.od hd9 0 14 _ rfl (by simp)
    refine wpOp_step rfl fun K hK => ?_
    go_simp
    exact hK _ _ ⟨p9,fun _ _ => rfl,rfl,(Pm.keepM rfl (hM.val rfl))⟩
   ·cases ho9
    have r15 := hD.od hd9 1 15 _ rfl (by simp)
    refine wpOp_step rfl fun K hK => ?_
    go_simp
    exact hK _ _ ⟨p9,fun _ _ => rfl,rfl,(Pm.keepM rfl (hM.val rfl))⟩
   ·cases ho9
    have r4 := hD.old 4 _ rfl rfl
    have hM0 : Fs w W9 [⟨w.heap.size + 2,#[.bool false,.slice none 0 0,.int .i64 0],33⟩,⟨w.heap.size + 1,#[.bool s',.slice a' n' cap',.int .i64 x'],33⟩,⟨w.heap.size,#[.bool s,.slice a n cap,.int .i64 x],33⟩,⟨p,#[.int .i64 E,.int .i64 F,.int .u64 b,.int .u8 md,.int .i64 0],109⟩] := by
     have hM1 := hM.st
     simp only [pickBs] at hM1
     rw [if_neg (hD.waits 3 6 _ ⟨3,.phase⟩ hl9 rfl (by simp) rfl rfl)] at hM1
     exact hM1
    have Q_ := hM0.cellAt (b := w.heap.size) (cs := #[.bool s,.slice a n cap,.int .i64 x]) (t := 33) (by simp)
    have c9_0 := Q_ 0 _ rfl
    have c9_1 := Q_ 1 _ rfl
    have c9_2 := Q_ 2 _ rfl
    clear Q_
    clear hM0
    refine wpOp_step rfl fun K hK => ?_
    go_simp
    exact hK _ _ ⟨p9,fun _ _ => rfl,rfl,(Pm.keepM rfl (hM.val rfl))⟩
   ·cases ho9
    have r5 := hD.old 5 _ rfl rfl
    have hM0 : Fs w W9 [⟨w.heap.size + 2,#[.bool false,.slice none 0 0,.int .i64 0],33⟩,⟨w.heap.size + 1,#[.bool s',.slice a' n' cap',.int .i64 x'],33⟩,⟨w.heap.size,#[.bool s,.slice a n cap,.int .i64 x],33⟩,⟨p,#[.int .i64 E,.int .i64 F,.int .u64 b,.int .u8 md,.int .i64 0],109⟩] := by
     have hM1 := hM.st
     simp only [pickBs] at hM1
     rw [if_neg (hD.waits 4 6 _ ⟨4,.phase⟩ hl9 rfl (by simp) rfl rfl)] at hM1
     exact hM1
    have Q_ := hM0.cellAt (b := w.heap.size + 1) (cs := #[.bool s',.slice a' n' cap',.int .i64 x']) (t := 33) (by simp)
    have c9_0 := Q_ 0 _ rfl
    have c9_1 := Q_ 1 _ rfl
    have c9_2 := Q_ 2 _ rfl
    clear Q_
    clear hM0
    refine wpOp_step rfl fun K hK => ?_
    go_simp
    exact hK _ _ ⟨p9,fun _ _ => rfl,rfl,(Pm.keepM rfl (hM.val rfl))⟩
   ·cases ho9
    have r16 := hD.od hd9 2 16 _ rfl (by simp)
    have r17 := hD.od hd9 3 17 _ rfl (by simp)
    have r18 := hD.od hd9 4 18 _ rfl (by simp)
    have hM0 : Fs w W9 [⟨w.heap.size + 2,#[.bool false,.slice none 0 0,.int .i64 0],33⟩,⟨w.heap.size + 1,#[.bool s',.slice a' n' cap',.int .i64 x'],33⟩,⟨w.heap.size,#[.bool s,.slice a n cap,.int .i64 x],33⟩,⟨p,#[.int .i64 E,.int .i64 F,.int .u64 b,.int .u8 md,.int .i64 0],109⟩] := by
     have hM1 := hM.st
     simp only [pickBs] at hM1
     rw [if_neg (hD.waits 5 6 _ ⟨5,.data⟩ hl9 rfl (by simp) rfl rfl)] at hM1
     exact hM1
    have HD := hide hD
    have hn6 := hD.waits 5 6 _ ⟨5,.data⟩ hl9 rfl (by simp) rfl rfl
    refine wpOp_step rfl fun K hK => ?_
    go_simp
    go_wp2_with fail
    refine (middle_is p 4 _ _ _ _ _ _ _ _ _ _ _ _ r1 v1 y1 _ _ _ _ ((unhide H).kept hM.st.fr) ((unhide H').kept hM.st.fr) ((unhide HT).kept hM.st.fr) ((unhide HR).kept hM.st.fr) HK HS HP).mono ?_
    rintro en w9 ⟨⟨a9,n9,c9,rfl,h9⟩,hb9⟩
    refine hK _ _ ⟨p9.set 5 ⟨a9,n9,c9⟩,?_,rfl,(Pm.keepM rfl (((hM.kept hs9 hb9).pick ⟨a9,n9,c9⟩ ?_).into (by simp only [pickBs]; rw [if_neg hn6,if_neg hn6])))⟩
    ·intro k9 hk9
     clear hM hK
     match k9,hk9 with
     | 0,_ => rfl
     | 1,_ => rfl
     | 2,_ => rfl
     | 3,_ => rfl
     | 4,_ => rfl
     | 5,hk9 => exact absurd (hl9.symm.trans hk9) (by simp)
     | 6,hk9 => exact absurd (hl9.symm.trans (getD_true ((unhide HD).shut 6 _ (hk9) rfl ⟨5,.data⟩ (by simp) rfl))) (by simp)
     | k9 + 7,_ => rfl
    ·intro x hx he; simp only [List.mem_cons,List.not_mem_nil,or_false] at hx; subst hx; exact h9.mono hM.bw
   ·cases ho9
    have r6 := hD.old 6 _ rfl rfl
    have r19 := hD.od hd9 5 19 _ rfl (by simp)
    have hM0 : Fs w W9 [⟨w.heap.size + 2,#[.bool false,.slice none 0 0,.int .i64 0],33⟩,⟨w.heap.size + 1,#[.bool s',.slice a' n' cap',.int .i64 x'],33⟩,⟨w.heap.size,#[.bool s,.slice a n cap,.int .i64 x],33⟩,⟨p,#[.int .i64 E,.int .i64 F,.int .u64 b,.int .u8 md,.int .i64 0],109⟩] := by
     have hM1 := hM.st
     simp only [pickBs] at hM1
     rw [if_neg (by rw [hl9]; simp)] at hM1
     exact hM1
    have c9_0 := hM0.cellAt (b := w.heap.size + 2) (cs := #[.bool false,.slice none 0 0,.int .i64 0]) (t := 33) (by simp) 0 _ rfl
    have z9_0 := hM0.frozen (b := w.heap.size + 2) (cs := #[.bool false,.slice none 0 0,.int .i64 0]) (t := 33) (by simp) 0
    have c9_1 := hM0.cellAt (b := w.heap.size + 2) (cs := #[.bool false,.slice none 0 0,.int .i64 0]) (t := 33) (by simp) 1 _ rfl
    have z9_1 := hM0.frozen (b := w.heap.size + 2) (cs := #[.bool false,.slice none 0 0,.int .i64 0]) (t := 33) (by simp) 1
    have c9_2 := hM0.cellAt (b := w.heap.size + 2) (cs := #[.bool false,.slice none 0 0,.int .i64 0]) (t := 33) (by simp) 2 _ rfl
    have z9_2 := hM0.frozen (b := w.heap.size + 2) (cs := #[.bool false,.slice none 0 0,.int .i64 0]) (t := 33) (by simp) 2
    refine wpOp_step rfl fun K hK => ?_
    go_simp
    exact hK _ _ ⟨p9,fun _ _ => rfl,rfl,Pm.putM hl9 ((((hM.val rfl).put hs9 _ _ (by simp <;> omega) (hM0.put (b := w.heap.size + 2) (cs := #[.bool false,.slice none 0 0,.int .i64 0]) (t := 33) (by simp) (by simp) 0 (.bool r2) [⟨w.heap.size + 2,#[.bool r2,.slice none 0 0,.int .i64 0],33⟩,⟨w.heap.size + 1,#[.bool s',.slice a' n' cap',.int .i64 x'],33⟩,⟨w.heap.size,#[.bool s,.slice a n cap,.int .i64 x],33⟩,⟨p,#[.int .i64 E,.int .i64 F,.int .u64 b,.int .u8 md,.int .i64 0],109⟩] (by simp <;> omega))).put hs9 _ _ (by simp <;> omega) ((hM0.put (b := w.heap.size + 2) (cs := #[.bool false,.slice none 0 0,.int .i64 0]) (t := 33) (by simp) (by simp) 0 (.bool r2) [⟨w.heap.size + 2,#[.bool r2,.slice none 0 0,.int .i64 0],33⟩,⟨w.heap.size + 1,#[.bool s',.slice a' n' cap',.int .i64 x'],33⟩,⟨w.heap.size,#[.bool s,.slice a n cap,.int .i64 x],33⟩,⟨p,#[.int .i64 E,.int .i64 F,.int .u64 b,.int .u8 md,.int .i64 0],109⟩] (by simp <;> omega)).put (b := w.heap.size + 2) (cs := #[.bool r2,.slice none 0 0,.int .i64 0]) (t := 33) (by simp) (by simp) 1 (.slice (p9 5).A (p9 5).N (p9 5).C) [⟨w.heap.size + 2,#[.bool r2,.slice (p9 5).A (p9 5).N (p9 5).C,.int .i64 0],33⟩,⟨w.heap.size + 1,#[.bool s',.slice a' n' cap',.int .i64 x'],33⟩,⟨w.heap.size,#[.bool s,.slice a n cap,.int .i64 x],33⟩,⟨p,#[.int .i64 E,.int .i64 F,.int .u64 b,.int .u8 md,.int .i64 0],109⟩] (by simp <;> omega))).put hs9 _ _ (by simp <;> omega) (((hM0.put (b := w.heap.size + 2) (cs := #[.bool false,.slice none 0 0,.int .i64 0]) (t := 33) (by simp) (by simp) 0 (.bool r2) [⟨w.heap.size + 2,#[.bool r2,.slice none 0 0,.int .i64 0],33⟩,⟨w.heap.size + 1,#[.bool s',.slice a' n' cap',.int .i64 x'],33⟩,⟨w.heap.size,#[.bool s,.slice a n cap,.int .i64 x],33⟩,⟨p,#[.int .i64 E,.int .i64 F,.int .u64 b,.int .u8 md,.int .i64 0],109⟩] (by simp <;> omega)).put (b := w.heap.size + 2) (cs := #[.bool r2,.slice none 0 0,.int .i64 0]) (t := 33) (by simp) (by simp) 1 (.slice (p9 5).A (p9 5).N (p9 5).C) [⟨w.heap.size + 2,#[.bool r2,.slice (p9 5).A (p9 5).N (p9 5).C,.int .i64 0],33⟩,⟨w.heap.size + 1,#[.bool s',.slice a' n' cap',.int .i64 x'],33⟩,⟨w.heap.size,#[.bool s,.slice a n cap,.int .i64 x],33⟩,⟨p,#[.int .i64 E,.int .i64 F,.int .u64 b,.int .u8 md,.int .i64 0],109⟩] (by simp <;> omega)).put (b := w.heap.size + 2) (cs := #[.bool r2,.slice (p9 5).A (p9 5).N (p9 5).C,.int .i64 0]) (t := 33) (by simp) (by simp) 2 (.int .i64 y2) [⟨w.heap.size + 2,#[.bool r2,.slice (p9 5).A (p9 5).N (p9 5).C,.int .i64 y2],33⟩,⟨w.heap.size + 1,#[.bool s',.slice a' n' cap',.int .i64 x'],33⟩,⟨w.heap.size,#[.bool s,.slice a n cap,.int .i64 x],33⟩,⟨p,#[.int .i64 E,.int .i64 F,.int .u64 b,.int .u8 md,.int .i64 0],109⟩] (by simp <;> omega)))⟩
  ·intro p9 l9 W9 hn9 hl9 hM
   have fr4_5 := hM.fx _ (List.mem_of_getElem? (i := 0) rfl) (Or.inl (hl9 5 (by decide)))
   replace hM := hM.st
   simp only [pickBs] at hM
   rw [if_pos (hl9 6 (by decide))] at hM
   clear hl9 hs9 h09 hn9
   generalize p9 5 = q5 at *
   obtain ⟨Ar4_5,Nr4_5,Cr4_5⟩ := q5
   simp only [] at fr4_5
   clear hS ya yb yc yd ye yf yg yh yi yj yk yl ym yn
   have hS := hM
   clear hM
   simp only [Puts.lay,List.setIfInBounds_toArray,List.set_cons_zero,List.set_cons_succ]
   obtain ⟨⟨yo,yp,yq,-⟩,⟨yr,ys,yt,-⟩,⟨yu,yv,yw,-⟩,⟨yx,yy,yz,y0,y3,-⟩,-⟩ := hS.cells
   go_wp2
   exact bodyPost_ret (v := .agg #[.bool r2,.slice Ar4_5 Nr4_5 Cr4_5,.int .i64 y2]) (by simp [results,Tryz.results129,go_sem,yo,yp,yq]) rfl ⟨⟨_,_,_,rfl,Mine.mono (show Mine W9 _ _ _ _ _ from unhide fr4_5) (by omega)⟩,hS.fr⟩
theorem border_0 (E F b : Int) (p : Nat) (s : Bool) (a : Option Addr) (n cap m : Nat) (x : Int) (s' : Bool) (a' : Option Addr) (n' cap' m' : Nat) (x' : Int) (r1 : Bool) (v1 : Nat) (y1 : Int) (r2 : Bool) (v2 : Nat) (y2 : Int) (w : World) (h : Num w a n m) (h' : Num w a' n' m') (hT : Tb w) (hp : w.heap[p]? = some (.cells #[.int .i64 E,.int .i64 F,.int .u64 b,.int .u8 0,.int .i64 0] 109 (0,0))) (HK : Hid (Mk1 false (-1))) (HS : Hid (SumsM s m x s' m' x' 0 r1 v1 y1)) (HP : Hid (ProdsM r1 v1 y1 false 1 (-1) 0 r2 v2 y2)) :
  Calls Tryz.prog 129 #[.pointer (some ⟨p,0,none⟩),.agg #[.bool s,.slice a n cap,.int .i64 x],.agg #[.bool s',.slice a' n' cap',.int .i64 x']] w fun e w' => (∃ A N C,e = .returned (.agg #[.bool r2,.slice A N C,.int .i64 y2]) ∧ Mine w' w.heap.size A N C v2) ∧ Below w.heap.size w w' :=
 border_01 E F b 0 (Or.inl rfl) p s a n cap m x s' a' n' cap' m' x' r1 v1 y1 r2 v2 y2 w h h' hT hp HK HS HP
theorem border_1 (E F b : Int) (p : Nat) (s : Bool) (a : Option Addr) (n cap m : Nat) (x : Int) (s' : Bool) (a' : Option Addr) (n' cap' m' : Nat) (x' : Int) (r1 : Bool) (v1 : Nat) (y1 : Int) (r2 : Bool) (v2 : Nat) (y2 : Int) (w : World) (h : Num w a n m) (h' : Num w a' n' m') (hT : Tb w) (hp : w.heap[p]? = some (.cells #[.int .i64 E,.int .i64 F,.int .u64 b,.int .u8 1,.int .i64 0] 109 (0,0))) (HK : Hid (Mk1 false (-1))) (HS : Hid (SumsM s m x s' m' x' 0 r1 v1 y1)) (HP : Hid (ProdsM r1 v1 y1 false 1 (-1) 0 r2 v2 y2)) :
  Calls Tryz.prog 129 #[.pointer (some ⟨p,0,none⟩),.agg #[.bool s,.slice a n cap,.int .i64 x],.agg #[.bool s',.slice a' n' cap',.int .i64 x']] w fun e w' => (∃ A N C,e = .returned (.agg #[.bool r2,.slice A N C,.int .i64 y2]) ∧ Mine w' w.heap.size A N C v2) ∧ Below w.heap.size w w' :=
 border_01 E F b 1 (Or.inr ⟨rfl,rfl⟩) p s a n cap m x s' a' n' cap' m' x' r1 v1 y1 r2 v2 y2 w h h' hT hp HK HS HP
theorem border_4 (E F b : Int) (p : Nat) (s : Bool) (a : Option Addr) (n cap : Nat) (x : Int) (s' : Bool) (a' : Option Addr) (n' cap' : Nat) (x' : Int) (w : World) (hp : w.heap[p]? = some (.cells #[.int .i64 E,.int .i64 F,.int .u64 b,.int .u8 4,.int .i64 0] 109 (0,0))) :
  Calls Tryz.prog 129 #[.pointer (some ⟨p,0,none⟩),.agg #[.bool s,.slice a n cap,.int .i64 x],.agg #[.bool s',.slice a' n' cap',.int .i64 x']] w fun e w' => e = .returned (.agg #[.bool s',.slice a' n' cap',.int .i64 x']) ∧ Below w.heap.size w w' := by
 go_enter Tryz.func129,Tryz.ntmps129
 have HR : Hid (Rn w p 4) := hide ⟨_,_,hp,rfl⟩
 have hS : Fs w w [⟨p,#[.int .i64 E,.int .i64 F,.int .u64 b,.int .u8 4,.int .i64 0],109⟩] := ⟨fun x hx => by rcases List.mem_cons.1 hx with rfl | hx; exact hp; exact absurd hx List.not_mem_nil,Below.refl _ _⟩
 have hlt0 : p < w.heap.size := block_lt hp
 clear hp
 replace hS := hS.alloc #[.bool s,.slice a n cap,.int .i64 x] 33
 replace hS := hS.alloc #[.bool s',.slice a' n' cap',.int .i64 x'] 33
 replace hS := hS.alloc #[.bool false,.slice none 0 0,.int .i64 0] 33
 simp only [World.size_alloc] at hS
 obtain ⟨⟨ya,yb,yc,-⟩,⟨yd,ye,yf,-⟩,⟨yg,yh,yi,-⟩,⟨yj,yk,yl,ym,yn,-⟩,-⟩ := hS.cells
 go_wp2
 exact bodyPost_ret (v := .agg #[.bool s',.slice a' n' cap',.int .i64 x']) (by simp [results,Tryz.results129,go_sem]) rfl ⟨rfl,((((Fs.begin w).alloc _ _).alloc _ _).alloc _ _).fr⟩
theorem border_3 (E F b : Int) (p : Nat) (s : Bool) (a : Option Addr) (n cap : Nat) (x : Int) (s' : Bool) (a' : Option Addr) (n' cap' : Nat) (x' : Int) (w : World) (hp : w.heap[p]? = some (.cells #[.int .i64 E,.int .i64 F,.int .u64 b,.int .u8 3,.int .i64 0] 109 (0,0))) :
  Calls Tryz.prog 129 #[.pointer (some ⟨p,0,none⟩),.agg #[.bool s,.slice a n cap,.int .i64 x],.agg #[.bool s',.slice a' n' cap',.int .i64 x']] w fun e w' => e = .returned (.agg #[.bool s,.slice a n cap,.int .i64 x]) ∧ Below w.heap.size w w' := by
 go_enter Tryz.func129,Tryz.ntmps129
 have HR : Hid (Rn w p 4) := hide ⟨_,_,hp,rfl⟩
 have hS : Fs w w [⟨p,#[.int .i64 E,.int .i64 F,.int .u64 b,.int .u8 3,.int .i64 0],109⟩] := ⟨fun x hx => by rcases List.mem_cons.1 hx with rfl | hx; exact hp; exact absurd hx List.not_mem_nil,Below.refl _ _⟩
 have hlt0 : p < w.heap.size := block_lt hp
 clear hp
 replace hS := hS.alloc #[.bool s,.slice a n cap,.int .i64 x] 33
 replace hS := hS.alloc #[.bool s',.slice a' n' cap',.int .i64 x'] 33
 replace hS := hS.alloc #[.bool false,.slice none 0 0,.int .i64 0] 33
 simp only [World.size_alloc] at hS
 obtain ⟨⟨ya,yb,yc,-⟩,⟨yd,ye,yf,-⟩,⟨yg,yh,yi,-⟩,⟨yj,yk,yl,ym,yn,-⟩,-⟩ := hS.cells
 go_wp2
 exact bodyPost_ret (v := .agg #[.bool s,.slice a n cap,.int .i64 x]) (by simp [results,Tryz.results129,go_sem]) rfl ⟨rfl,((((Fs.begin w).alloc _ _).alloc _ _).alloc _ _).fr⟩
theorem border_2f (E F b : Int) (p : Nat) (a : Option Addr) (n cap : Nat) (x : Int) (s' : Bool) (a' : Option Addr) (n' cap' : Nat) (x' : Int) (w : World) (hp : w.heap[p]? = some (.cells #[.int .i64 E,.int .i64 F,.int .u64 b,.int .u8 2,.int .i64 0] 109 (0,0))) :
  Calls Tryz.prog 129 #[.pointer (some ⟨p,0,none⟩),.agg #[.bool false,.slice a n cap,.int .i64 x],.agg #[.bool s',.slice a' n' cap',.int .i64 x']] w fun e w' => e = .returned (.agg #[.bool s',.slice a' n' cap',.int .i64 x']) ∧ Below w.heap.size w w' := by
 go_enter Tryz.func129,Tryz.ntmps129
 have HR : Hid (Rn w p 4) := hide ⟨_,_,hp,rfl⟩
 have hS : Fs w w [⟨p,#[.int .i64 E,.int .i64 F,.int .u64 b,.int .u8 2,.int .i64 0],109⟩] := ⟨fun x hx => by rcases List.mem_cons.1 hx with rfl | hx; exact hp; exact absurd hx List.not_mem_nil,Below.refl _ _⟩
 have hlt0 : p < w.heap.size := block_lt hp
 clear hp
 replace hS := hS.alloc #[.bool false,.slice a n cap,.int .i64 x] 33
 replace hS := hS.alloc #[.bool s',.slice a' n' cap',.int .i64 x'] 33
 replace hS := hS.alloc #[.bool false,.slice none 0 0,.int .i64 0] 33
 simp only [World.size_alloc] at hS
 obtain ⟨⟨ya,yb,yc,-⟩,⟨yd,ye,yf,-⟩,⟨yg,yh,yi,-⟩,⟨yj,yk,yl,ym,yn,-⟩,-⟩ := hS.cells
 go_wp2
 exact bodyPost_ret (v := .agg #[.bool s',.slice a' n' cap',.int .i64 x']) (by simp [results,Tryz.results129,go_sem]) rfl ⟨rfl,((((Fs.begin w).alloc _ _).alloc _ _).alloc _ _).fr⟩
theorem border_2t (E F b : Int) (p : Nat) (a : Option Addr) (n cap : Nat) (x : Int) (s' : Bool) (a' : Option Addr) (n' cap' : Nat) (x' : Int) (w : World) (hp : w.heap[p]? = some (.cells #[.int .i64 E,.int .i64 F,.int .u64 b,.int .u8 2,.int .i64 0] 109 (0,0))) :
  Calls Tryz.prog 129 #[.pointer (some ⟨p,0,none⟩),.agg #[.bool true,.slice a n cap,.int .i64 x],.agg #[.bool s',.slice a' n' cap',.int .i64 x']] w fun e w' => e = .returned (.agg #[.bool true,.slice a n cap,.int .i64 x]) ∧ Below w.heap.size w w' := by
 go_enter Tryz.func129,Tryz.ntmps129
 have HR : Hid (Rn w p 4) := hide ⟨_,_,hp,rfl⟩
 have hS : Fs w w [⟨p,#[.int .i64 E,.int .i64 F,.int .u64 b,.int .u8 2,.int .i64 0],109⟩] := ⟨fun x hx => by rcases List.mem_cons.1 hx with rfl | hx; exact hp; exact absurd hx List.not_mem_nil,Below.refl _ _⟩
 have hlt0 : p < w.heap.size := block_lt hp
 clear hp
 replace hS := hS.alloc #[.bool true,.slice a n cap,.int .i64 x] 33
 replace hS := hS.alloc #[.bool s',.slice a' n' cap',.int .i64 x'] 33
 replace hS := hS.alloc #[.bool false,.slice none 0 0,.int .i64 0] 33
 simp only [World.size_alloc] at hS
 obtain ⟨⟨ya,yb,yc,-⟩,⟨yd,ye,yf,-⟩,⟨yg,yh,yi,-⟩,⟨yj,yk,yl,ym,yn,-⟩,-⟩ := hS.cells
 go_wp2
 exact bodyPost_ret (v := .agg #[.bool true,.slice a n cap,.int .i64 x]) (by simp [results,Tryz.results129,go_sem]) rfl ⟨rfl,((((Fs.begin w).alloc _ _).alloc _ _).alloc _ _).fr⟩
theorem border_is (E F b : Int) (md p : Nat) (s : Bool) (a : Option Addr) (n cap m : Nat) (x : Int) (s' : Bool) (a' : Option Addr) (n' cap' m' : Nat) (x' : Int) (r : Bool) (v : Nat) (y : Int) (B : Nat) (w : World)
  (h : Mine w B a n cap m) (h' : Mine w B a' n' cap' m') (hB : B ≤ w.heap.size) (hT : Tb w) (hp : w.heap[p]? = some (.cells #[.int .i64 E,.int .i64 F,.int .u64 b,.int .u8 (md : Int),.int .i64 0] 109 (0,0))) (HK : Mk1 false (-1)) (hd : Bord md s m x s' m' x' r v y) :
  Calls Tryz.prog 129 #[.pointer (some ⟨p,0,none⟩),.agg #[.bool s,.slice a n cap,.int .i64 x],.agg #[.bool s',.slice a' n' cap',.int .i64 x']] w fun e w' => (∃ A N C,e = .returned (.agg #[.bool r,.slice A N C,.int .i64 y]) ∧ Mine w' B A N C v) ∧ Below w.heap.size w w' := by
 rcases hd with ⟨h1,r1,v1,y1,HS,HP⟩ | ⟨h1,rfl,rfl,rfl⟩ | ⟨h1,rfl,rfl,rfl⟩
 ·have hc : md = 0 ∨ md = 1 := by omega
  rcases hc with rfl | rfl
  ·refine (border_0 E F b p s a n cap m x s' a' n' cap' m' x' r1 v1 y1 r v y w h.num h'.num hT hp (hide HK) (hide HS) (hide HP)).mono ?_
   rintro e w' ⟨⟨A,N,C,rfl,g⟩,hb⟩
   exact ⟨⟨A,N,C,rfl,g.mono hB⟩,hb⟩
  ·refine (border_1 E F b p s a n cap m x s' a' n' cap' m' x' r1 v1 y1 r v y w h.num h'.num hT hp (hide HK) (hide HS) (hide HP)).mono ?_
   rintro e w' ⟨⟨A,N,C,rfl,g⟩,hb⟩
   exact ⟨⟨A,N,C,rfl,g.mono hB⟩,hb⟩
 ·rcases h1 with rfl | ⟨rfl,rfl⟩
  ·refine (border_4 E F b p s a n cap x r a' n' cap' y w hp).mono ?_
   rintro e w' ⟨rfl,hb⟩
   exact ⟨⟨_,_,_,rfl,h'.kept hb⟩,hb⟩
  ·refine (border_2f E F b p a n cap x r a' n' cap' y w hp).mono ?_
   rintro e w' ⟨rfl,hb⟩
   exact ⟨⟨_,_,_,rfl,h'.kept hb⟩,hb⟩
 ·rcases h1 with rfl | ⟨rfl,rfl⟩
  ·refine (border_3 E F b p r a n cap y s' a' n' cap' x' w hp).mono ?_
   rintro e w' ⟨rfl,hb⟩
   exact ⟨⟨_,_,_,rfl,h.kept hb⟩,hb⟩
  ·refine (border_2t E F b p a n cap y s' a' n' cap' x' w hp).mono ?_
   rintro e w' ⟨rfl,hb⟩
   exact ⟨⟨_,_,_,rfl,h.kept hb⟩,hb⟩
end Go.Proofs.YtkebhccbhoamjaaGreatDoor
