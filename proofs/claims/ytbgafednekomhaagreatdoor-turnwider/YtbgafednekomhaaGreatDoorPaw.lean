/- Of what TurnWiderRow stands on: RefLow ExBits ExCmp ExCopy ExVal. -/
import Derived.Test.YtbgafednekomhaaGreatDoorPao
import Derived.Test.YtbgafednekomhaaGreatDoorPaj
import Derived.Deep.RegionWith
import Derived.Test.YtbgafednekomhaaGreatDoorPab
import Derived.Test.YtbgafednekomhaaGreatDoorPaf
import Derived.Test.YtbgafednekomhaaGreatDoorPag
namespace Go.Proofs.YtbgafednekomhaaGreatDoor
open Go.RowKit
set_option maxHeartbeats 2000000
theorem bits_k (a : Option Addr) (n cap m k : Nat) (w : World) (h : Num w a n m) (hk : Bl m k) :
  Calls Tryz.prog 116 #[.agg #[.slice a n cap]] w fun e w' => e = .returned (.tuple #[.int .i64 (k : Int),.int .i64 0]) ∧ Below w.heap.size w w' := by
 refine (bits_any a n cap m w h).mono ?_
 rintro e w' ⟨⟨j,rfl,hj,_⟩,hb⟩
 obtain rfl := hj.uniq hk
 exact ⟨rfl,hb⟩
theorem dcheck_nought (a : Option Addr) (cap : Nat) (w : World) (h : Num w a 0 0) :
  Calls Tryz.prog 81 #[.agg #[.bool false,.slice a 0 cap,.int .i64 0]] w fun e w' => e = .returned (.int .i64 0) ∧ Below w.heap.size w w' := by
 have := dcheck_nil false a cap 0 w h
 simpa using this
theorem B_le {E F B : Nat} (h : Fo E F) (HB : Hid (B = 2 ^ (E - 1) - 1)) : B ≤ 1023 := by
 have h1 := pow_bound (show E - 1 ≤ 10 by have := h.e11; omega)
 rw [unhide HB]; omega
theorem B_two {E F B : Nat} (h : Fo E F) (HB : Hid (B = 2 ^ (E - 1) - 1)) : 2 ^ E = 2 * B + 2 ∧ 1 ≤ B := by
 have h2 := h.e2
 obtain ⟨k,rfl⟩ : ∃ k,E = k + 2 := ⟨E - 2,by omega⟩
 have := unhide HB
 rw [show k + 2 - 1 = k + 1 from by omega] at this
 have h3 := pow_pos2 k
 rw [Nat.pow_succ] at this ⊢
 rw [Nat.pow_succ]
 omega
def cmp3 (x y : Int) : Int := if x < y then -1 else if y < x then 1 else 0
theorem Fs.four (w : World) (cs : Array Value) (t : TypeId) (ds : Array Value) (u : TypeId) (es : Array Value) (v : TypeId) (gs : Array Value) (x : TypeId) :
  Fs w ((((w.alloc (.cells cs t)).alloc (.cells ds u)).alloc (.cells es v)).alloc (.cells gs x)) [⟨w.heap.size,cs,t⟩,⟨w.heap.size + 1,ds,u⟩,⟨w.heap.size + 2,es,v⟩,⟨w.heap.size + 3,gs,x⟩] := by
 have h := ((((Fs.begin w).alloc cs t).alloc ds u).alloc es v).alloc gs x
 simp only [World.size_alloc,Nat.add_assoc] at h
 exact h.sub (by simp)
theorem Fs.three (w : World) (cs : Array Value) (t : TypeId) (ds : Array Value) (u : TypeId) (es : Array Value) (v : TypeId) :
  Fs w (((w.alloc (.cells cs t)).alloc (.cells ds u)).alloc (.cells es v)) [⟨w.heap.size,cs,t⟩,⟨w.heap.size + 1,ds,u⟩,⟨w.heap.size + 2,es,v⟩] := by
 have h := (((Fs.begin w).alloc cs t).alloc ds u).alloc es v
 simp only [World.size_alloc,Nat.add_assoc] at h
 exact h.sub (by simp)
def TogOk (w' : World) (e : Ending) (u v : Nat) : Prop := ∃ A N C A' N' C',e = .returned (.tuple #[.agg #[.slice A N C],.agg #[.slice A' N' C'],.int .i64 0]) ∧ Num w' A N u ∧ Num w' A' N' v
theorem TogOk.of {w' : World} {A A' : Option Addr} {N C N' C' u v : Nat} (h : Num w' A N u) (h' : Num w' A' N' v) : TogOk w' (.returned (.tuple #[.agg #[.slice A N C],.agg #[.slice A' N' C'],.int .i64 0])) u v := ⟨_,_,_,_,_,_,rfl,h,h'⟩
theorem setCell_still {W : World} {b j : Nat} {cs : Array Value} {t : TypeId} {u : Value} (hb : W.heap[b]? = some (.cells cs t (0,0))) (hc : cs[j]? = some u) : W.setCell ⟨b,j,none⟩ u = W := by
 have he : (W.setCell ⟨b,j,none⟩ u).heap = W.heap := by
  apply Array.ext_getElem?
  intro k
  by_cases hk : k = b
  ·subst hk
   rw [heap_setCell_same W k j _ _ _ hb,hb]
   congr 2
   apply Array.ext_getElem?
   intro i
   by_cases hi : i = j
   ·subst hi
    obtain ⟨hlt,_⟩ := Array.getElem?_eq_some_iff.1 hc
    rw [hc]; simp [hlt]
   ·rw [Array.getElem?_setIfInBounds_ne (Ne.symm hi)]
  ·rw [heap_setCell_other W _ k u hk]
 have : W.setCell ⟨b,j,none⟩ u = { W with heap := (W.setCell ⟨b,j,none⟩ u).heap } := rfl
 rw [this,he]
theorem isNaN_any (x : Int) (w : World)  :
  Calls Tryz.prog 108 #[.int .i64 x] w fun e w' => e = .returned (.bool false) ∧ Below w.heap.size w w' := by
 go_enter Tryz.func108,Tryz.ntmps108
 go_wp2
 go_ret
 exact ⟨ret_bool (by simp),(Fs.begin w).fr⟩
theorem cmpare_lt (x y : Int) (h : x < y) (w : World)  :
  Calls Tryz.prog 61 #[.int .i64 x,.int .i64 y] w fun e w' => e = .returned (.int .i64 (-1)) ∧ Below w.heap.size w w' := by
 go_enter Tryz.func61,Tryz.ntmps61
 go_wp2_with fail
 refine (isNaN_any _ _).mono ?_
 rintro e w1 ⟨rfl,hb1⟩
 have hS := (Fs.begin w).kept hb1
 go_wp2_with fail
 refine (isNaN_any _ _).mono ?_
 rintro e w2 ⟨rfl,hb2⟩
 replace hS := hS.kept hb2
 go_wp2
 go_ret
 exact ⟨rfl,hS.fr⟩
theorem cmpare_gt (x y : Int) (h : y < x) (w : World)  :
  Calls Tryz.prog 61 #[.int .i64 x,.int .i64 y] w fun e w' => e = .returned (.int .i64 1) ∧ Below w.heap.size w w' := by
 go_enter Tryz.func61,Tryz.ntmps61
 go_wp2_with fail
 refine (isNaN_any _ _).mono ?_
 rintro e w1 ⟨rfl,hb1⟩
 have hS := (Fs.begin w).kept hb1
 go_wp2_with fail
 refine (isNaN_any _ _).mono ?_
 rintro e w2 ⟨rfl,hb2⟩
 replace hS := hS.kept hb2
 go_wp2
 go_ret
 exact ⟨rfl,hS.fr⟩
theorem cmpare_eq (x y : Int) (h : x = y) (w : World)  :
  Calls Tryz.prog 61 #[.int .i64 x,.int .i64 y] w fun e w' => e = .returned (.int .i64 0) ∧ Below w.heap.size w w' := by
 subst h
 go_enter Tryz.func61,Tryz.ntmps61
 go_wp2_with fail
 refine (isNaN_any _ _).mono ?_
 rintro e w1 ⟨rfl,hb1⟩
 have hS := (Fs.begin w).kept hb1
 go_wp2_with fail
 refine (isNaN_any _ _).mono ?_
 rintro e w2 ⟨rfl,hb2⟩
 replace hS := hS.kept hb2
 go_wp2
 go_ret
 exact ⟨rfl,hS.fr⟩
theorem cmpare_any (x y : Int) (w : World) : Calls Tryz.prog 61 #[.int .i64 x,.int .i64 y] w fun e w' => e = .returned (.int .i64 (cmp3 x y)) ∧ Below w.heap.size w w' := by
 unfold cmp3
 by_cases h : x < y
 ·rw [if_pos h]; exact cmpare_lt x y h w
 ·rw [if_neg h]
  by_cases h2 : y < x
  ·rw [if_pos h2]; exact cmpare_gt x y h2 w
  ·rw [if_neg h2]; exact cmpare_eq x y (by omega) w
theorem sign_zero (s : Bool) (a : Option Addr) (cap : Nat) (x : Int) (w : World)  :
  Calls Tryz.prog 60 #[.agg #[.bool s,.slice a 0 cap,.int .i64 x]] w fun e w' => e = .returned (.int .i64 0) ∧ Below w.heap.size w w' := by
 go_enter Tryz.func60,Tryz.ntmps60
 go_wp2_with fail
 refine (isNought_yes a cap _).mono ?_
 rintro e w1 ⟨rfl,hb1⟩
 have hS := (Fs.one w _ _).kept hb1
 obtain ⟨⟨ya,yb,yc,-⟩,-⟩ := hS.cells
 go_wp2
 go_ret
 exact ⟨rfl,hS.fr⟩
theorem sign_true (a : Option Addr) (n cap : Nat) (x : Int) (hn : 0 < n) (w : World)  :
  Calls Tryz.prog 60 #[.agg #[.bool true,.slice a n cap,.int .i64 x]] w fun e w' => e = .returned (.int .i64 (-1)) ∧ Below w.heap.size w w' := by
 go_enter Tryz.func60,Tryz.ntmps60
 go_wp2_with fail
 refine (isNought_no a n cap hn _).mono ?_
 rintro e w1 ⟨rfl,hb1⟩
 have hS := (Fs.one w _ _).kept hb1
 obtain ⟨⟨ya,yb,yc,-⟩,-⟩ := hS.cells
 go_wp2
 go_ret
 exact ⟨rfl,hS.fr⟩
theorem sign_false (a : Option Addr) (n cap : Nat) (x : Int) (hn : 0 < n) (w : World)  :
  Calls Tryz.prog 60 #[.agg #[.bool false,.slice a n cap,.int .i64 x]] w fun e w' => e = .returned (.int .i64 1) ∧ Below w.heap.size w w' := by
 go_enter Tryz.func60,Tryz.ntmps60
 go_wp2_with fail
 refine (isNought_no a n cap hn _).mono ?_
 rintro e w1 ⟨rfl,hb1⟩
 have hS := (Fs.one w _ _).kept hb1
 obtain ⟨⟨ya,yb,yc,-⟩,-⟩ := hS.cells
 go_wp2
 go_ret
 exact ⟨rfl,hS.fr⟩
def sgD (s : Bool) (m : Nat) : Int := if m = 0 then 0 else if s then -1 else 1
theorem dsign_any (s : Bool) (a : Option Addr) (n cap m : Nat) (x : Int) (w : World) (h : Num w a n m) :
  Calls Tryz.prog 60 #[.agg #[.bool s,.slice a n cap,.int .i64 x]] w fun e w' => e = .returned (.int .i64 (sgD s m)) ∧ Below w.heap.size w w' := by
 unfold sgD
 by_cases hm : m = 0
 ·obtain rfl := h.zero.2 hm
  rw [if_pos hm]; exact sign_zero s a cap x w
 ·have hn : 0 < n := by have := h.zero; omega
  rw [if_neg hm]
  cases s
  ·exact sign_false a n cap x hn w
  ·exact sign_true a n cap x hn w
theorem end_k (s : Bool) (a : Option Addr) (n cap m k : Nat) (x : Int) (w : World) (h : Num w a n m) (hk : Bl m k) (hk2 : k ≤ 524288) (hx : -1073741824 ≤ x ∧ x ≤ 1073741824) :
  Calls Tryz.prog 109 #[.agg #[.bool s,.slice a n cap,.int .i64 x]] w fun e w' => e = .returned (.tuple #[.int .i64 (x + (k : Int)),.int .i64 0]) ∧ Below w.heap.size w w' := by
 have H := hide h
 have HK := hide hk
 clear h hk
 go_enter Tryz.func109,Tryz.ntmps109
 go_wp2_with fail
 refine (bits_k a n cap m k _ ((unhide H).kept (gr_alloc _ _)) (unhide HK)).mono ?_
 rintro e w1 ⟨rfl,hb1⟩
 have hS := (Fs.one w _ _).kept hb1
 obtain ⟨⟨ya,yb,yc,-⟩,-⟩ := hS.cells
 go_wp2
 exact bodyPost_ret (v := .tuple #[.int .i64 (x + (k : Int)),.int .i64 0]) (by simp [results,Tryz.results109,go_sem]) rfl ⟨rfl,hS.fr⟩
theorem told_same (s : Bool) (a : Option Addr) (n cap : Nat) (x : Int) (w : World)  :
  Calls Tryz.prog 138 #[.agg #[.bool s,.slice a n cap,.int .i64 x],.int .i64 x] w fun e w' => e = .returned (.tuple #[.agg #[.slice a n cap],.int .i64 0]) ∧ Below w.heap.size w w' := by
 go_enter Tryz.func138,Tryz.ntmps138
 go_wp2
 exact bodyPost_ret (v := .tuple #[.agg #[.slice a n cap],.int .i64 0]) (by simp [results,Tryz.results138,go_sem]) rfl ⟨rfl,(Fs.two w _ _ _ _).fr⟩
theorem up_fits (a : Option Addr) (n cap m k : Nat) (w : World) (h : Num w a n m) (hk : k < 9223372036854775808) (hno : ¬ Over (m * 2 ^ k)) :
  Calls Tryz.prog 84 #[.agg #[.slice a n cap],.int .i64 (k : Int)] w fun e w' => (∃ a n c,e = .returned (.tuple #[.agg #[.slice a n c],.int .i64 0]) ∧ Mine w' w.heap.size a n c (m * 2 ^ k)) ∧ Below w.heap.size w w' := by
 refine (up_any a n cap m k w h hk).mono ?_
 rintro e w' ⟨h1 | h1,hb⟩
 ·exact ⟨h1,hb⟩
 ·exact absurd h1.2 hno
theorem told_up (s : Bool) (a : Option Addr) (n cap m : Nat) (x : Int) (t : Int) (j : Nat) (w : World) (h : Num w a n m) (hj : x - t = (j : Int)) (h0 : 0 < j) (hj2 : j < 9223372036854775808) (hno : ¬ Over (m * 2 ^ j)) :
  Calls Tryz.prog 138 #[.agg #[.bool s,.slice a n cap,.int .i64 x],.int .i64 t] w fun e w' => (∃ A N C,e = .returned (.tuple #[.agg #[.slice A N C],.int .i64 0]) ∧ Num w' A N (m * 2 ^ j)) ∧ Below w.heap.size w w' := by
 have hne : (x == t) = false := by simp; omega
 have H := hide h
 have HO := hide hno
 clear h hno
 go_enter Tryz.func138,Tryz.ntmps138
 go_wp2_with fail
 refine (up_fits a n cap m j _ (((unhide H).alloc _).alloc _) hj2 (unhide HO)).mono ?_
 rintro e w1 ⟨⟨A1,N1,C1,rfl,f1⟩,hb1⟩
 have hS := (Fs.two w _ _ _ _).kept hb1
 obtain ⟨⟨ya,yb,yc,-⟩,⟨yd,-⟩,-⟩ := hS.cells
 have F1 := hide f1
 clear f1
 have fz0 := hS.frozen (b := w.heap.size + 1) (cs := #[.slice none 0 0]) (t := 40) (by simp) 0
 go_wp2
 exact bodyPost_ret (v := .tuple #[.agg #[.slice A1 N1 C1],.int .i64 0]) (by simp [results,Tryz.results138,go_sem,yd]) rfl ⟨⟨_,_,_,rfl,((unhide F1).set (by simp) _).num⟩,hS.fr.setCell (by simp) _⟩
theorem told_ok (s : Bool) (a : Option Addr) (n cap m : Nat) (x t : Int) (j : Nat) (w : World) (h : Num w a n m) (hj : x - t = (j : Int)) (hj2 : j < 9223372036854775808) (hno : ¬ Over (m * 2 ^ j)) :
  Calls Tryz.prog 138 #[.agg #[.bool s,.slice a n cap,.int .i64 x],.int .i64 t] w fun e w' => (∃ A N C,e = .returned (.tuple #[.agg #[.slice A N C],.int .i64 0]) ∧ Num w' A N (m * 2 ^ j)) ∧ Below w.heap.size w w' := by
 rcases Nat.eq_zero_or_pos j with h0 | h0
 ·subst h0
  obtain rfl : x = t := by omega
  refine (told_same s a n cap x w).mono ?_
  rintro e w' ⟨rfl,hb⟩
  exact ⟨⟨_,_,_,rfl,by rw [Nat.pow_zero,Nat.mul_one]; exact h.kept hb⟩,hb⟩
 ·exact told_up s a n cap m x t j w h hj h0 hj2 hno
theorem together_ok (s : Bool) (a : Option Addr) (n cap m : Nat) (x : Int) (s' : Bool) (a' : Option Addr) (n' cap' m' : Nat) (x' : Int) (t : Int) (j j' : Nat) (w : World) (h : Num w a n m) (h' : Num w a' n' m') (hmin : min x x' = t) (hj : x - t = (j : Int)) (hj' : x' - t = (j' : Int)) (hj2 : j < 9223372036854775808) (hj2' : j' < 9223372036854775808) (hno : ¬ Over (m * 2 ^ j)) (hno' : ¬ Over (m' * 2 ^ j')) :
  Calls Tryz.prog 110 #[.agg #[.bool s,.slice a n cap,.int .i64 x],.agg #[.bool s',.slice a' n' cap',.int .i64 x']] w fun e w' => TogOk w' e (m * 2 ^ j) (m' * 2 ^ j') ∧ Below w.heap.size w w' := by
 have H := hide h
 have H' := hide h'
 have HJ := hide hj
 have HJ' := hide hj'
 have HO := hide hno
 have HO' := hide hno'
 clear h h' hj hj' hno hno'
 go_enter Tryz.func110,Tryz.ntmps110
 go_wp2_with fail
 refine (told_ok s a n cap m x t j _ (((((unhide H).alloc _).alloc _).alloc _).alloc _) (unhide HJ) hj2 (unhide HO)).mono ?_
 rintro e w1 ⟨⟨A1,N1,C1,rfl,f1⟩,hb1⟩
 have hS := (Fs.four w _ _ _ _ _ _ _ _).kept hb1
 obtain ⟨⟨ya,yb,yc,-⟩,⟨yd,ye,yf,-⟩,⟨yg,-⟩,⟨yh,-⟩,-⟩ := hS.cells
 have F1 := hide f1
 clear f1
 have fz0 := hS.frozen (b := w.heap.size + 2) (cs := #[.slice none 0 0]) (t := 40) (by simp) 0
 have hS2 := hS.put (b := w.heap.size + 2) (cs := #[.slice none 0 0]) (t := 40) (by simp) (by simp) 0 (.slice A1 N1 C1) [⟨w.heap.size,#[.bool s,.slice a n cap,.int .i64 x],42⟩,⟨w.heap.size + 1,#[.bool s',.slice a' n' cap',.int .i64 x'],42⟩,⟨w.heap.size + 2,#[.slice A1 N1 C1],40⟩,⟨w.heap.size + 3,#[.slice none 0 0],40⟩] (by simp)
 have F1b := hide ((unhide F1).put (hS.bx ⟨w.heap.size + 2,#[.slice none 0 0],40⟩ (by simp)) (noLimb_of _ rfl) 0 (.slice A1 N1 C1))
 clear F1
 go_wp2_with fail
 refine (told_ok s' a' n' cap' m' x' t j' _ ((unhide H').kept hS2.fr) (unhide HJ') hj2' (unhide HO')).mono ?_
 rintro e w2 ⟨⟨A2,N2,C2,rfl,f2⟩,hb2⟩
 clear ya yb yc yd ye yf yg yh fz0
 clear hS
 have hS := hS2.kept hb2
 have F1c := hide ((unhide F1b).kept hb2)
 clear F1b hS2
 obtain ⟨⟨yi,yj,yk,-⟩,⟨yl,ym,yn,-⟩,⟨yo,-⟩,⟨yp,-⟩,-⟩ := hS.cells
 have F2 := hide f2
 clear f2
 have fz0 := hS.frozen (b := w.heap.size + 3) (cs := #[.slice none 0 0]) (t := 40) (by simp) 0
 have hS2 := hS.put (b := w.heap.size + 3) (cs := #[.slice none 0 0]) (t := 40) (by simp) (by simp) 0 (.slice A2 N2 C2) [⟨w.heap.size,#[.bool s,.slice a n cap,.int .i64 x],42⟩,⟨w.heap.size + 1,#[.bool s',.slice a' n' cap',.int .i64 x'],42⟩,⟨w.heap.size + 2,#[.slice A1 N1 C1],40⟩,⟨w.heap.size + 3,#[.slice A2 N2 C2],40⟩] (by simp)
 have F2b := hide ((unhide F2).put (hS.bx ⟨w.heap.size + 3,#[.slice none 0 0],40⟩ (by simp)) (noLimb_of _ rfl) 0 (.slice A2 N2 C2))
 have F1d := hide ((unhide F1c).put (hS.bx ⟨w.heap.size + 3,#[.slice none 0 0],40⟩ (by simp)) (noLimb_of _ rfl) 0 (.slice A2 N2 C2))
 clear F2 F1c
 go_wp2_with fail
 clear yi yj yk yl ym yn yo yp fz0
 clear hS
 obtain ⟨W8,hW8⟩ : ∃ W8,W8 = w2.setCell ⟨w.heap.size + 3,0,none⟩ (.slice A2 N2 C2) := ⟨_,rfl⟩
 rw [← hW8] at hS2 F2b F1d ⊢
 clear hW8
 refine wp_region_any (by kernel_rfl) ?_
 refine wpAny_det [some (35,.agg #[.slice A1 N1 C1]),some (36,.agg #[.slice A2 N2 C2]),none,none,some (6,.int .i64 0)]
  (fun _ W9 => W9 = W8.drew) _ _ rfl (by kernel_rfl) rfl rfl ?_ ?_ rfl
 ·intro l9 t9 W9 i9 hD hi9 hl9 hM
  obtain ⟨o9,ho9,hd9⟩ := (mem_ready.1 hi9).2
  have hin9 : i9 < 5 := by
   by_cases h : i9 < 5
   ·exact h
   ·rw [Array.getElem?_eq_none (by rw [hD.len]; simp; omega)] at hl9; cases hl9
  have hcase : i9 = 0 ∨ i9 = 1 ∨ i9 = 2 ∨ i9 = 3 ∨ i9 = 4 := by omega
  clear hin9
  rcases hcase with rfl | rfl | rfl | rfl | rfl
  ·cases ho9
   have r4 := hD.old 4 _ rfl rfl
   have hM0 : Fs w W9 [⟨w.heap.size,#[.bool s,.slice a n cap,.int .i64 x],42⟩,⟨w.heap.size + 1,#[.bool s',.slice a' n' cap',.int .i64 x'],42⟩,⟨w.heap.size + 2,#[.slice A1 N1 C1],40⟩,⟨w.heap.size + 3,#[.slice A2 N2 C2],40⟩] := by rw [hM]; exact hS2.drew
   have c9_0 := hM0.cellAt (b := w.heap.size + 2) (cs := #[.slice A1 N1 C1]) (t := 40) (by simp) 0 _ rfl
   clear hM0
   have HM9 := hide hM
   clear hM
   refine wpOp_step rfl fun K hK => ?_
   go_simp
   exact hK _ _ ⟨rfl,unhide HM9⟩
  ·cases ho9
   have r5 := hD.old 5 _ rfl rfl
   have hM0 : Fs w W9 [⟨w.heap.size,#[.bool s,.slice a n cap,.int .i64 x],42⟩,⟨w.heap.size + 1,#[.bool s',.slice a' n' cap',.int .i64 x'],42⟩,⟨w.heap.size + 2,#[.slice A1 N1 C1],40⟩,⟨w.heap.size + 3,#[.slice A2 N2 C2],40⟩] := by rw [hM]; exact hS2.drew
   have c9_0 := hM0.cellAt (b := w.heap.size + 3) (cs := #[.slice A2 N2 C2]) (t := 40) (by simp) 0 _ rfl
   clear hM0
   have HM9 := hide hM
   clear hM
   refine wpOp_step rfl fun K hK => ?_
   go_simp
   exact hK _ _ ⟨rfl,unhide HM9⟩
  ·cases ho9
   have r4 := hD.old 4 _ rfl rfl
   have r35 := hD.od hd9 0 35 _ rfl (by simp)
   have hM0 : Fs w W9 [⟨w.heap.size,#[.bool s,.slice a n cap,.int .i64 x],42⟩,⟨w.heap.size + 1,#[.bool s',.slice a' n' cap',.int .i64 x'],42⟩,⟨w.heap.size + 2,#[.slice A1 N1 C1],40⟩,⟨w.heap.size + 3,#[.slice A2 N2 C2],40⟩] := by rw [hM]; exact hS2.drew
   have c9_0 := hM0.cellAt (b := w.heap.size + 2) (cs := #[.slice A1 N1 C1]) (t := 40) (by simp) 0 _ rfl
   have z9_0 := hM0.frozen (b := w.heap.size + 2) (cs := #[.slice A1 N1 C1]) (t := 40) (by simp) 0
   have HM9 := hide hM
   clear hM
   refine wpOp_step rfl fun K hK => ?_
   go_simp
   exact hK _ _ ⟨rfl,(setCell_still (hM0.bx ⟨w.heap.size + 2,#[.slice A1 N1 C1],40⟩ (by simp)) rfl).trans (unhide HM9)⟩
  ·cases ho9
   have r5 := hD.old 5 _ rfl rfl
   have r36 := hD.od hd9 1 36 _ rfl (by simp)
   have hM0 : Fs w W9 [⟨w.heap.size,#[.bool s,.slice a n cap,.int .i64 x],42⟩,⟨w.heap.size + 1,#[.bool s',.slice a' n' cap',.int .i64 x'],42⟩,⟨w.heap.size + 2,#[.slice A1 N1 C1],40⟩,⟨w.heap.size + 3,#[.slice A2 N2 C2],40⟩] := by rw [hM]; exact hS2.drew
   have c9_0 := hM0.cellAt (b := w.heap.size + 3) (cs := #[.slice A2 N2 C2]) (t := 40) (by simp) 0 _ rfl
   have z9_0 := hM0.frozen (b := w.heap.size + 3) (cs := #[.slice A2 N2 C2]) (t := 40) (by simp) 0
   have HM9 := hide hM
   clear hM
   refine wpOp_step rfl fun K hK => ?_
   go_simp
   exact hK _ _ ⟨rfl,(setCell_still (hM0.bx ⟨w.heap.size + 3,#[.slice A2 N2 C2],40⟩ (by simp)) rfl).trans (unhide HM9)⟩
  ·cases ho9
   have HM9 := hide hM
   clear hM
   refine wpOp_step rfl fun K hK => ?_
   go_simp
   exact hK _ _ ⟨rfl,unhide HM9⟩
 ·intro l9 W9 hl9 hM
  subst hM
  have hS := hS2.drew
  have F1e := hide ((unhide F1d).kept (gr_drew (gr_refl _)))
  have F2e := hide ((unhide F2b).kept (gr_drew (gr_refl _)))
  clear hS2 F1d F2b
  simp only [Puts.lay,List.setIfInBounds_toArray,List.set_cons_zero,List.set_cons_succ]
  obtain ⟨⟨yq,yr,ys,-⟩,⟨yt,yu,yv,-⟩,⟨yw,-⟩,⟨yx,-⟩,-⟩ := hS.cells
  go_wp2
  exact bodyPost_ret (v := .tuple #[.agg #[.slice A1 N1 C1],.agg #[.slice A2 N2 C2],.int .i64 0]) (by simp [results,Tryz.results110,go_sem,yw,yx]) rfl ⟨TogOk.of (unhide F1e) (unhide F2e),hS.fr⟩
theorem farther_far (s : Bool) (a : Option Addr) (n cap m : Nat) (x : Int) (s' : Bool) (a' : Option Addr) (n' cap' m' : Nat) (x' : Int) (k k' : Nat) (w : World) (h : Num w a n m) (h' : Num w a' n' m') (hk : Bl m k) (hk' : Bl m' k') (hk2 : k ≤ 524288) (hk2' : k' ≤ 524288) (hx : -1073741824 ≤ x ∧ x ≤ 1073741824) (hx' : -1073741824 ≤ x' ∧ x' ≤ 1073741824) (hne : x + (k : Int) ≠ x' + (k' : Int)) :
  Calls Tryz.prog 62 #[.agg #[.bool s,.slice a n cap,.int .i64 x],.agg #[.bool s',.slice a' n' cap',.int .i64 x']] w fun e w' => e = .returned (.tuple #[.int .i64 (cmp3 (x + (k : Int)) (x' + (k' : Int))),.int .i64 0]) ∧ Below w.heap.size w w' := by
 have H := hide h
 have H' := hide h'
 have HK := hide hk
 have HK' := hide hk'
 clear h h' hk hk'
 have hne2 : ((x + (k : Int)) != (x' + (k' : Int))) = true := by simpa using hne
 clear hne
 go_enter Tryz.func62,Tryz.ntmps62
 go_wp2_with fail
 refine (end_k s a n cap m k x _ (((unhide H).alloc _).alloc _) (unhide HK) hk2 hx).mono ?_
 rintro e w1 ⟨rfl,hb1⟩
 have hS := (Fs.two w _ _ _ _).kept hb1
 obtain ⟨⟨ya,yb,yc,-⟩,⟨yd,ye,yf,-⟩,-⟩ := hS.cells
 go_wp2_with fail
 refine (end_k s' a' n' cap' m' k' x' _ ((unhide H').kept hS.fr) (unhide HK') hk2' hx').mono ?_
 rintro e w2 ⟨rfl,hb2⟩
 replace hS := hS.kept hb2
 clear ya yb yc yd ye yf
 obtain ⟨⟨yg,yh,yi,-⟩,⟨yj,yk,yl,-⟩,-⟩ := hS.cells
 go_wp2_with fail
 refine (cmpare_any _ _ _).mono ?_
 rintro e w3 ⟨rfl,hb3⟩
 replace hS := hS.kept hb3
 clear yg yh yi yj yk yl
 obtain ⟨⟨ym,yn,yo,-⟩,⟨yp,yq,yr,-⟩,-⟩ := hS.cells
 go_wp2
 exact bodyPost_ret (v := .tuple #[.int .i64 (cmp3 (x + (k : Int)) (x' + (k' : Int))),.int .i64 0]) (by simp [results,Tryz.results62,go_sem]) rfl ⟨rfl,hS.fr⟩
theorem farther_near (s : Bool) (a : Option Addr) (n cap m : Nat) (x : Int) (s' : Bool) (a' : Option Addr) (n' cap' m' : Nat) (x' : Int) (k k' : Nat) (t : Int) (j j' : Nat) (w : World) (h : Num w a n m) (h' : Num w a' n' m') (hk : Bl m k) (hk' : Bl m' k') (hk2 : k ≤ 524288) (hk2' : k' ≤ 524288) (hx : -1073741824 ≤ x ∧ x ≤ 1073741824) (hx' : -1073741824 ≤ x' ∧ x' ≤ 1073741824) (heq : x + (k : Int) = x' + (k' : Int)) (hmin : min x x' = t) (hj : x - t = (j : Int)) (hj' : x' - t = (j' : Int)) (hj2 : j < 9223372036854775808) (hj2' : j' < 9223372036854775808) (hno : ¬ Over (m * 2 ^ j)) (hno' : ¬ Over (m' * 2 ^ j')) :
  Calls Tryz.prog 62 #[.agg #[.bool s,.slice a n cap,.int .i64 x],.agg #[.bool s',.slice a' n' cap',.int .i64 x']] w fun e w' => e = .returned (.tuple #[.int .i64 (cmpI (m * 2 ^ j) (m' * 2 ^ j')),.int .i64 0]) ∧ Below w.heap.size w w' := by
 have H := hide h
 have H' := hide h'
 have HK := hide hk
 have HK' := hide hk'
 clear h h' hk hk'
 have hne2 : ((x + (k : Int)) != (x' + (k' : Int))) = false := by simpa using heq
 have HT := hide (And.intro hmin (And.intro hj (And.intro hj' (And.intro hno hno'))))
 clear heq hmin hj hj' hno hno'
 go_enter Tryz.func62,Tryz.ntmps62
 go_wp2_with fail
 refine (end_k s a n cap m k x _ (((unhide H).alloc _).alloc _) (unhide HK) hk2 hx).mono ?_
 rintro e w1 ⟨rfl,hb1⟩
 have hS := (Fs.two w _ _ _ _).kept hb1
 obtain ⟨⟨ya,yb,yc,-⟩,⟨yd,ye,yf,-⟩,-⟩ := hS.cells
 go_wp2_with fail
 refine (end_k s' a' n' cap' m' k' x' _ ((unhide H').kept hS.fr) (unhide HK') hk2' hx').mono ?_
 rintro e w2 ⟨rfl,hb2⟩
 replace hS := hS.kept hb2
 clear ya yb yc yd ye yf
 obtain ⟨⟨yg,yh,yi,-⟩,⟨yj,yk,yl,-⟩,-⟩ := hS.cells
 go_wp2_with fail
 refine (together_ok s a n cap m x s' a' n' cap' m' x' t j j' _ ((unhide H).kept hS.fr) ((unhide H').kept hS.fr) (unhide HT).1 (unhide HT).2.1 (unhide HT).2.2.1 hj2 hj2' (unhide HT).2.2.2.1 (unhide HT).2.2.2.2).mono ?_
 rintro e w3 ⟨⟨A3,N3,C3,B3,O3,P3,rfl,g3,g4⟩,hb3⟩
 replace hS := hS.kept hb3
 clear yg yh yi yj yk yl
 obtain ⟨⟨ym,yn,yo,-⟩,⟨yp,yq,yr,-⟩,-⟩ := hS.cells
 have hltw3_0 : w.heap.size < w3.heap.size := hS.lt 0 rfl
 have hltw3_1 : w.heap.size + 1 < w3.heap.size := hS.lt 1 rfl
 have G3 := hide g3
 have G4 := hide g4
 clear g3 g4
 go_wp2_with fail
 refine (cmpN_any A3 B3 N3 O3 C3 P3 _ _ _ (((unhide G3).alloc _).alloc _) (((unhide G4).alloc _).alloc _)).mono ?_
 rintro e w4 ⟨rfl,hb4⟩
 go_wp2
 exact bodyPost_ret (v := .tuple #[.int .i64 (cmpI (m * 2 ^ j) (m' * 2 ^ j')),.int .i64 0]) (by simp [results,Tryz.results62,go_sem]) rfl ⟨rfl,gr_trans hS.fr (gr_trans (gr_trans (gr_alloc _ _) (gr_alloc _ _)) hb4)⟩
structure Dy (w : World) (s : Bool) (a : Option Addr) (n m : Nat) (x : Int) : Prop where
 num : Num w a n m
 ok : (m = 0 ∧ s = false ∧ x = 0) ∨ (m % 2 = 1 ∧ -1073741824 ≤ x ∧ x ≤ 1073741824)
theorem Dy.kept {w w' : World} {s : Bool} {a : Option Addr} {n m : Nat} {x : Int} (h : Dy w s a n m x) (hb : Below w.heap.size w w') : Dy w' s a n m x := ⟨h.num.kept hb,h.ok⟩
theorem Dy.range {w : World} {s : Bool} {a : Option Addr} {n m : Nat} {x : Int} (h : Dy w s a n m x) : -1073741824 ≤ x ∧ x ≤ 1073741824 := by
 rcases h.ok with ⟨_,_,rfl⟩ | ⟨_,h1,h2⟩
 ·omega
 ·exact ⟨h1,h2⟩
theorem dcheck_dy (s : Bool) (a : Option Addr) (n cap m : Nat) (x : Int) (w : World) (h : Dy w s a n m x) :
  Calls Tryz.prog 81 #[.agg #[.bool s,.slice a n cap,.int .i64 x]] w fun e w' => e = .returned (.int .i64 0) ∧ Below w.heap.size w w' := by
 rcases h.ok with ⟨rfl,rfl,rfl⟩ | ⟨h1,h2⟩
 ·have hn := h.num
  obtain rfl := hn.zero.2 rfl
  exact dcheck_nought a cap w hn
 ·exact dcheck_ok s a n cap m x w h.num (by have := h.num.zero; omega) h1 h2
theorem checkBoth_dy (s : Bool) (a : Option Addr) (n cap m : Nat) (x : Int) (s' : Bool) (a' : Option Addr) (n' cap' m' : Nat) (x' : Int) (w : World) (h : Dy w s a n m x) (h' : Dy w s' a' n' m' x') :
  Calls Tryz.prog 59 #[.agg #[.bool s,.slice a n cap,.int .i64 x],.agg #[.bool s',.slice a' n' cap',.int .i64 x']] w fun e w' => e = .returned (.int .i64 0) ∧ Below w.heap.size w w' := by
 have H := hide h
 have H' := hide h'
 clear h h'
 go_enter Tryz.func59,Tryz.ntmps59
 go_wp2_with fail
 refine (dcheck_dy s a n cap m x _ ((unhide H).kept (gr_trans (gr_alloc _ _) (gr_alloc _ _)))).mono ?_
 rintro e w1 ⟨rfl,hb1⟩
 have hS := (Fs.two w _ _ _ _).kept hb1
 obtain ⟨⟨ya,yb,yc,-⟩,⟨yd,ye,yf,-⟩,-⟩ := hS.cells
 go_wp2_with fail
 refine (dcheck_dy s' a' n' cap' m' x' _ ((unhide H').kept hS.fr)).mono ?_
 rintro e w2 ⟨rfl,hb2⟩
 replace hS := hS.kept hb2
 clear ya yb yc yd ye yf
 obtain ⟨⟨yg,yh,yi,-⟩,⟨yj,yk,yl,-⟩,-⟩ := hS.cells
 go_wp2
 go_ret
 exact ⟨rfl,hS.fr⟩
theorem Cmp_sides (s : Bool) (a : Option Addr) (n cap m : Nat) (x : Int) (s' : Bool) (a' : Option Addr) (n' cap' m' : Nat) (x' : Int) (w : World) (h : Dy w s a n m x) (h' : Dy w s' a' n' m' x') (hne : sgD s m ≠ sgD s' m') :
  Calls Tryz.prog 15 #[.agg #[.bool s,.slice a n cap,.int .i64 x],.agg #[.bool s',.slice a' n' cap',.int .i64 x']] w fun e w' => e = .returned (.tuple #[.int .i64 (cmp3 (sgD s m) (sgD s' m')),.int .i64 0]) ∧ Below w.heap.size w w' := by
 have H := hide h
 have H' := hide h'
 have hne2 : (sgD s m != sgD s' m') = true := by simpa using hne
 clear h h' hne
 go_enter Tryz.func15,Tryz.ntmps15
 go_wp2_with fail
 refine (checkBoth_dy s a n cap m x s' a' n' cap' m' x' _ ((unhide H).kept (gr_trans (gr_alloc _ _) (gr_alloc _ _))) ((unhide H').kept (gr_trans (gr_alloc _ _) (gr_alloc _ _)))).mono ?_
 rintro e w1 ⟨rfl,hb1⟩
 have hS := (Fs.two w _ _ _ _).kept hb1
 obtain ⟨⟨ya,yb,yc,-⟩,⟨yd,ye,yf,-⟩,-⟩ := hS.cells
 go_wp2_with fail
 refine (dsign_any s a n cap m x _ ((unhide H).kept hS.fr).num).mono ?_
 rintro e w2 ⟨rfl,hb2⟩
 replace hS := hS.kept hb2
 clear ya yb yc yd ye yf
 obtain ⟨⟨yg,yh,yi,-⟩,⟨yj,yk,yl,-⟩,-⟩ := hS.cells
 go_wp2_with fail
 refine (dsign_any s' a' n' cap' m' x' _ ((unhide H').kept hS.fr).num).mono ?_
 rintro e w3 ⟨rfl,hb3⟩
 replace hS := hS.kept hb3
 clear yg yh yi yj yk yl
 obtain ⟨⟨ym,yn,yo,-⟩,⟨yp,yq,yr,-⟩,-⟩ := hS.cells
 go_wp2_with fail
 refine (cmpare_any _ _ _).mono ?_
 rintro e w4 ⟨rfl,hb4⟩
 replace hS := hS.kept hb4
 clear ym yn yo yp yq yr
 obtain ⟨⟨ys,yt,yu,-⟩,⟨yv,yw,yx,-⟩,-⟩ := hS.cells
 go_wp2
 exact bodyPost_ret (v := .tuple #[.int .i64 (cmp3 (sgD s m) (sgD s' m')),.int .i64 0]) (by simp [results,Tryz.results15,go_sem]) rfl ⟨rfl,hS.fr⟩
theorem Cmp_side (s : Bool) (a : Option Addr) (n cap m : Nat) (x : Int) (s' : Bool) (a' : Option Addr) (n' cap' m' : Nat) (x' : Int) (c : Int) (w : World) (h : Dy w s a n m x) (h' : Dy w s' a' n' m' x') (heq : sgD s m = sgD s' m') (hc : -1 ≤ c ∧ c ≤ 1) (hF : Hid (∀ W,Num W a n m → Num W a' n' m' → Calls Tryz.prog 62 #[.agg #[.bool s,.slice a n cap,.int .i64 x],.agg #[.bool s',.slice a' n' cap',.int .i64 x']] W fun e w' => e = .returned (.tuple #[.int .i64 c,.int .i64 0]) ∧ Below W.heap.size W w')) :
  Calls Tryz.prog 15 #[.agg #[.bool s,.slice a n cap,.int .i64 x],.agg #[.bool s',.slice a' n' cap',.int .i64 x']] w fun e w' => e = .returned (.tuple #[.int .i64 (sgD s m * c),.int .i64 0]) ∧ Below w.heap.size w w' := by
 have H := hide h
 have H' := hide h'
 have hne2 : (sgD s m != sgD s' m') = false := by simpa using heq
 obtain ⟨g,hg⟩ : ∃ g,g = sgD s m := ⟨_,rfl⟩
 have hgr : -1 ≤ g ∧ g ≤ 1 := by rw [hg]; unfold sgD; split; omega; split <;> omega
 have hgc : wrap64 (g * c) = g * c := by
  have h1 : g = -1 ∨ g = 0 ∨ g = 1 := by omega
  unfold wrap64
  rcases h1 with rfl | rfl | rfl <;> omega
 have HG := hide hg
 rw [← hg] at hne2 ⊢
 clear h h' heq hg
 go_enter Tryz.func15,Tryz.ntmps15
 go_wp2_with fail
 refine (checkBoth_dy s a n cap m x s' a' n' cap' m' x' _ ((unhide H).kept (gr_trans (gr_alloc _ _) (gr_alloc _ _))) ((unhide H').kept (gr_trans (gr_alloc _ _) (gr_alloc _ _)))).mono ?_
 rintro e w1 ⟨rfl,hb1⟩
 have hS := (Fs.two w _ _ _ _).kept hb1
 obtain ⟨⟨ya,yb,yc,-⟩,⟨yd,ye,yf,-⟩,-⟩ := hS.cells
 have hd1 := dsign_any s a n cap m x _ ((unhide H).kept hS.fr).num
 rw [← unhide HG] at hd1
 have HD1 := hide hd1
 clear hd1
 go_wp2_with fail
 refine (unhide HD1).mono ?_
 rintro e w2 ⟨rfl,hb2⟩
 replace hS := hS.kept hb2
 clear ya yb yc yd ye yf
 obtain ⟨⟨yg,yh,yi,-⟩,⟨yj,yk,yl,-⟩,-⟩ := hS.cells
 clear HD1
 go_wp2_with fail
 refine (dsign_any s' a' n' cap' m' x' _ ((unhide H').kept hS.fr).num).mono ?_
 rintro e w3 ⟨rfl,hb3⟩
 replace hS := hS.kept hb3
 clear yg yh yi yj yk yl
 obtain ⟨⟨ym,yn,yo,-⟩,⟨yp,yq,yr,-⟩,-⟩ := hS.cells
 go_wp2_with fail
 refine (unhide hF _ ((unhide H).kept hS.fr).num ((unhide H').kept hS.fr).num).mono ?_
 rintro e w4 ⟨rfl,hb4⟩
 replace hS := hS.kept hb4
 clear ym yn yo yp yq yr
 obtain ⟨⟨ys,yt,yu,-⟩,⟨yv,yw,yx,-⟩,-⟩ := hS.cells
 go_wp2
 exact bodyPost_ret (v := .tuple #[.int .i64 (g * c),.int .i64 0]) (by simp [results,Tryz.results15,go_sem,hgc]) rfl ⟨rfl,hS.fr⟩
def sv (s : Bool) (m : Nat) : Int := if s then -(m : Int) else (m : Int)
theorem not_over {v n : Nat} (h : v < 2 ^ n) (hn : n ≤ 524288) : ¬ Over v := fun o => by
 have h1 := o.le
 have h2 : 4294967296 ^ Pl.top = 2 ^ (32 * Pl.top) := by rw [Nat.pow_mul]
 rw [h2] at h1
 have h3 : n ≤ 32 * Pl.top := by have := Pl.top_eq; omega
 have h4 := Nat.pow_le_pow_right (show 0 < 2 by decide) h3
 exact absurd (Nat.lt_of_lt_of_le h h4) (Nat.not_lt.2 h1)
theorem cmp3_lt {x y : Int} (h : x < y) : cmp3 x y = -1 := by unfold cmp3; rw [if_pos h]
theorem cmp3_gt {x y : Int} (h : y < x) : cmp3 x y = 1 := by unfold cmp3; rw [if_neg (by omega),if_pos h]
theorem cmp3_eq {x y : Int} (h : x = y) : cmp3 x y = 0 := by unfold cmp3; rw [if_neg (by omega),if_neg (by omega)]
theorem cmp3_range (x y : Int) : -1 ≤ cmp3 x y ∧ cmp3 x y ≤ 1 := by
 unfold cmp3; split
 ·omega
 ·split <;> omega
theorem sgD_pos {s : Bool} {m : Nat} (h : 0 < m) : sgD s m = if s then -1 else 1 := by unfold sgD; rw [if_neg (by omega)]
theorem cmp3_sides {s s' : Bool} {m m' : Nat} (p p' : Nat) (hp : 0 < p) (hp' : 0 < p') (hne : sgD s m ≠ sgD s' m') : cmp3 (sgD s m) (sgD s' m') = cmp3 (sv s (m * p)) (sv s' (m' * p')) := by
 have e1 : ∀ {m p : Nat},0 < m → 0 < p → 0 < m * p := fun a b => Nat.mul_pos a b
 rcases Nat.eq_zero_or_pos m with rfl | hm <;> rcases Nat.eq_zero_or_pos m' with rfl | hm'
 ·simp [sgD] at hne
 ·have := e1 hm' hp'
  rw [sgD_pos hm'] at hne ⊢
  cases s' <;> cases s <;> simp [sgD,sv,cmp3] <;> omega
 ·have := e1 hm hp
  rw [sgD_pos hm] at hne ⊢
  cases s' <;> cases s <;> simp [sgD,sv,cmp3] <;> omega
 ·have h1 := e1 hm hp
  have h2 := e1 hm' hp'
  rw [sgD_pos hm,sgD_pos hm'] at hne ⊢
  cases s' <;> cases s <;> simp [sv] at hne ⊢
  ·rw [cmp3_lt (by omega),cmp3_lt (by omega)]
  ·rw [cmp3_gt (by omega),cmp3_gt (by omega)]
theorem cmp3_side {s s' : Bool} {m m' : Nat} (p p' : Nat) (heq : sgD s m = sgD s' m') (c : Int) (hc : c = cmp3 ((m * p : Nat) : Int) ((m' * p' : Nat) : Int)) : sgD s m * c = cmp3 (sv s (m * p)) (sv s' (m' * p')) := by
 rcases Nat.eq_zero_or_pos m with rfl | hm
 ·have hm' : m' = 0 := by
   rcases Nat.eq_zero_or_pos m' with h | h
   ·exact h
   ·rw [sgD_pos h] at heq; cases s' <;> simp [sgD] at heq
  subst hm'
  cases s <;> cases s' <;> simp [sgD,sv,cmp3]
 ·have hm' : 0 < m' := by
   rcases Nat.eq_zero_or_pos m' with h | h
   ·subst h; rw [sgD_pos hm] at heq; cases s <;> simp [sgD] at heq
   ·exact h
  have hss : s = s' := by rw [sgD_pos hm,sgD_pos hm'] at heq; cases s <;> cases s' <;> simp at heq <;> rfl
  subst hss
  rw [sgD_pos hm,hc]
  generalize m * p = u
  generalize m' * p' = v
  cases s
  ·simp [sv]
  ·simp only [sv,if_true]
   rcases Int.lt_trichotomy (u : Int) (v : Int) with h | h | h
   ·rw [cmp3_lt h,cmp3_gt (by omega)]; rfl
   ·rw [cmp3_eq h,cmp3_eq (by omega)]; rfl
   ·rw [cmp3_gt h,cmp3_lt (by omega)]; rfl
theorem cmpI_cmp3 (u v : Nat) : cmpI u v = cmp3 (u : Int) (v : Int) := by
 rcases Nat.lt_trichotomy u v with h | h | h
 ·rw [cmpI_lt h,cmp3_lt (by omega)]
 ·rw [h,cmpI_eq,cmp3_eq rfl]
 ·rw [cmpI_gt h,cmp3_gt (by omega)]
theorem cmp3_scale (u v d : Nat) (hd : 0 < d) : cmp3 ((u * d : Nat) : Int) ((v * d : Nat) : Int) = cmp3 (u : Int) (v : Int) := by
 rcases Nat.lt_trichotomy u v with h | h | h
 ·have := Nat.mul_lt_mul_of_pos_right h hd
  rw [cmp3_lt (by omega),cmp3_lt (by omega)]
 ·rw [h,cmp3_eq rfl,cmp3_eq rfl]
 ·have := Nat.mul_lt_mul_of_pos_right h hd
  rw [cmp3_gt (by omega),cmp3_gt (by omega)]
theorem bl_less {m m' k k' j j' : Nat} (h : Bl m k) (h' : Bl m' k') (hm' : 0 < m') (hlt : k + j < k' + j') : m * 2 ^ j < m' * 2 ^ j' := by
 have h1 : m * 2 ^ j < 2 ^ (k + j) := by
  rw [Nat.pow_add]; exact Nat.mul_lt_mul_of_pos_right h.1 (Nat.pow_pos (by decide))
 rcases h'.2 with h2 | h2
 ·subst h2; have := h'.1; simp at this; omega
 ·have h0 : 0 < k' := by
   rcases Nat.eq_zero_or_pos k' with h3 | h3
   ·subst h3; have := h'.1; simp at this; omega
   ·exact h3
  have h3 : 2 ^ (k' - 1 + j') ≤ m' * 2 ^ j' := by rw [Nat.pow_add]; exact Nat.mul_le_mul_right _ h2
  have h4 := Nat.pow_le_pow_right (show 0 < 2 by decide) (show k + j ≤ k' - 1 + j' by omega)
  omega
theorem num_bits {w : World} {a : Option Addr} {n m k : Nat} (h : Num w a n m) (hk : Bl m k) : k ≤ 524288 := by
 obtain ⟨xs,hl,_,hw,hN,rfl,hb⟩ := h
 rcases hk.2 with h0 | h0
 ·omega
 ·have h1 := Pl.val_lt hw
  have h2 : 4294967296 ^ xs.length = 2 ^ (32 * xs.length) := by rw [Nat.pow_mul]
  rw [h2] at h1
  have h3 : 2 ^ (k - 1) < 2 ^ (32 * xs.length) := by omega
  have := (Nat.pow_lt_pow_iff_right (by decide : 1 < 2)).1 h3
  omega
theorem Cmp_any (s : Bool) (a : Option Addr) (n cap m : Nat) (x : Int) (s' : Bool) (a' : Option Addr) (n' cap' m' : Nat) (x' t : Int) (j j' : Nat) (w : World) (h : Dy w s a n m x) (h' : Dy w s' a' n' m' x') (hj : x - t = (j : Int)) (hj' : x' - t = (j' : Int)) :
  Calls Tryz.prog 15 #[.agg #[.bool s,.slice a n cap,.int .i64 x],.agg #[.bool s',.slice a' n' cap',.int .i64 x']] w fun e w' => e = .returned (.tuple #[.int .i64 (cmp3 (sv s (m * 2 ^ j)) (sv s' (m' * 2 ^ j'))),.int .i64 0]) ∧ Below w.heap.size w w' := by
 have hp := Nat.pow_pos (n := j) (show 0 < 2 by decide)
 have hp' := Nat.pow_pos (n := j') (show 0 < 2 by decide)
 by_cases hne : sgD s m = sgD s' m'
 case neg =>
  rw [← cmp3_sides _ _ hp hp' hne]
  exact Cmp_sides s a n cap m x s' a' n' cap' m' x' w h h' hne
 obtain ⟨k,hk⟩ := bl_ex m
 obtain ⟨k',hk'⟩ := bl_ex m'
 have hk2 := num_bits h.num hk
 have hk2' := num_bits h'.num hk'
 have hx := h.range
 have hx' := h'.range
 by_cases heq : x + (k : Int) = x' + (k' : Int)
 ·obtain ⟨t0,ht0⟩ : ∃ t0,min x x' = t0 := ⟨_,rfl⟩
  obtain ⟨i,hi⟩ : ∃ i : Nat,x - t0 = (i : Int) := ⟨(x - t0).toNat,by omega⟩
  obtain ⟨i',hi'⟩ : ∃ i' : Nat,x' - t0 = (i' : Int) := ⟨(x' - t0).toNat,by omega⟩
  have hn1 : ¬ Over (m * 2 ^ i) := not_over (n := k + i) (by rw [Nat.pow_add]; exact Nat.mul_lt_mul_of_pos_right hk.1 (Nat.pow_pos (by decide))) (by omega)
  have hn2 : ¬ Over (m' * 2 ^ i') := not_over (n := k' + i') (by rw [Nat.pow_add]; exact Nat.mul_lt_mul_of_pos_right hk'.1 (Nat.pow_pos (by decide))) (by omega)
  obtain ⟨d,hd⟩ : ∃ d : Nat,j = i + d ∧ j' = i' + d := by
   by_cases hle : t ≤ t0
   ·exact ⟨(t0 - t).toNat,by omega,by omega⟩
   ·exact absurd hle (by omega)
  have hc : cmpI (m * 2 ^ i) (m' * 2 ^ i') = cmp3 ((m * 2 ^ j : Nat) : Int) ((m' * 2 ^ j' : Nat) : Int) := by
   rw [cmpI_cmp3,hd.1,hd.2,Nat.pow_add,Nat.pow_add,← Nat.mul_assoc,← Nat.mul_assoc,cmp3_scale _ _ _ (Nat.pow_pos (by decide))]
  rw [← cmp3_side _ _ hne _ hc]
  exact Cmp_side s a n cap m x s' a' n' cap' m' x' _ w h h' hne (by rw [hc]; exact cmp3_range _ _) (hide fun W g g' => farther_near s a n cap m x s' a' n' cap' m' x' k k' t0 i i' W g g' hk hk' hk2 hk2' hx hx' heq ht0 hi hi' (by omega) (by omega) hn1 hn2)
 ·have hc : cmp3 (x + (k : Int)) (x' + (k' : Int)) = cmp3 ((m * 2 ^ j : Nat) : Int) ((m' * 2 ^ j' : Nat) : Int) := by
   have hz : (0 < m ∧ 0 < m') := by
    rcases h.ok with ⟨h1,h2,h3⟩ | ⟨h1,_⟩
    ·rcases h'.ok with ⟨g1,g2,g3⟩ | ⟨g1,_⟩
     ·exfalso
      subst h1; subst g1
      have e1 := hk.uniq bl_zero
      have e2 := hk'.uniq bl_zero
      omega
     ·exfalso
      subst h1
      rw [sgD_pos (s := s') (m := m') (by omega)] at hne
      cases s' <;> simp [sgD] at hne
    ·refine ⟨by omega,?_⟩
     rcases h'.ok with ⟨g1,g2,g3⟩ | ⟨g1,_⟩
     ·exfalso
      subst g1
      rw [sgD_pos (s := s) (m := m) (by omega)] at hne
      cases s <;> simp [sgD] at hne
     ·omega
   rcases Int.lt_trichotomy (x + (k : Int)) (x' + (k' : Int)) with hlt | he | hlt
   ·have := bl_less (j := j) (j' := j') hk hk' hz.2 (by omega)
    rw [cmp3_lt hlt,cmp3_lt (by omega)]
   ·exact absurd he heq
   ·have := bl_less (j := j') (j' := j) hk' hk hz.1 (by omega)
    rw [cmp3_gt hlt,cmp3_gt (by omega)]
  rw [← cmp3_side _ _ hne _ hc]
  exact Cmp_side s a n cap m x s' a' n' cap' m' x' _ w h h' hne (cmp3_range _ _) (hide fun W g g' => farther_far s a n cap m x s' a' n' cap' m' x' k k' W g g' hk hk' hk2 hk2' hx hx' heq)
end Go.Proofs.YtbgafednekomhaaGreatDoor
