/- Of what NearRowRow stands on: FmRef1 FmRef2 FmRef3 NrRef NrList NrEq NrBeside NrRows. -/
import Derived.Test.YtkebhccbhoamjaaGreatDoorPab
import Derived.Test.YtkebhccbhoamjaaGreatDoorPaf
import Derived.ChangeKeysEq
namespace Go.Proofs.YtkebhccbhoamjaaGreatDoor
open Go.RowKit
set_option maxHeartbeats 2000000
set_option maxRecDepth 20000
theorem rfits_ok_short (E F b : Nat) (h : Fo E F) (hs : E + F < 63) (hb : b < 2 ^ (F + E + 1)) (w : World) : Calls Tryz.prog 47 #[.agg #[.int .i64 E,.int .i64 F],.int .u64 b] w fun e w' => e = .returned (.int .i64 0) ∧ Below w.heap.size w w' := by
 obtain ⟨n,hn0⟩ : ∃ n,n = F + E + 1 := ⟨_,rfl⟩
 have hn : (1 : Int) + (E : Int) + (F : Int) = (n : Int) := by omega
 have hn63 : n ≤ 63 := by omega
 have hs1 : (E : Int) + (F : Int) < 63 := by omega
 obtain ⟨p,hp⟩ : ∃ p,p = 2 ^ n := ⟨_,rfl⟩
 have HP := hide hp
 have hbp : b < p := by rw [hp,hn0]; exact hb
 clear hb hp hn0 hs
 have h11 := h.e11
 have h52 := h.f52
 go_enter Tryz.func47,Tryz.ntmps47
 go_wp2_with fail
 refine (rcheck_ok _ _ _ h).mono ?_
 rintro e w1 ⟨rfl,hb1⟩
 have hS := (Fs.one w _ _).kept hb1
 obtain ⟨⟨ya,yb,-⟩,-⟩ := hS.cells
 go_wp2_with fail
 refine (rpow_any n p _ hn63 HP).mono ?_
 rintro e w2 ⟨rfl,hb2⟩
 replace hS := hS.kept hb2
 clear ya yb
 obtain ⟨⟨yc,yd,-⟩,-⟩ := hS.cells
 go_wp2
 go_ret
 exact ⟨rfl,hS.fr⟩
theorem rfits_many_short (E F b : Nat) (h : Fo E F) (hs : E + F < 63) (hb : 2 ^ (F + E + 1) ≤ b) (w : World) : Calls Tryz.prog 47 #[.agg #[.int .i64 E,.int .i64 F],.int .u64 b] w fun e w' => e = .returned (.int .i64 6) ∧ Below w.heap.size w w' := by
 obtain ⟨n,hn0⟩ : ∃ n,n = F + E + 1 := ⟨_,rfl⟩
 have hn : (1 : Int) + (E : Int) + (F : Int) = (n : Int) := by omega
 have hn63 : n ≤ 63 := by omega
 have hs1 : (E : Int) + (F : Int) < 63 := by omega
 obtain ⟨p,hp⟩ : ∃ p,p = 2 ^ n := ⟨_,rfl⟩
 have HP := hide hp
 have hbp : p ≤ b := by rw [hp,hn0]; exact hb
 clear hb hp hn0 hs
 have h11 := h.e11
 have h52 := h.f52
 go_enter Tryz.func47,Tryz.ntmps47
 go_wp2_with fail
 refine (rcheck_ok _ _ _ h).mono ?_
 rintro e w1 ⟨rfl,hb1⟩
 have hS := (Fs.one w _ _).kept hb1
 obtain ⟨⟨ya,yb,-⟩,-⟩ := hS.cells
 go_wp2_with fail
 refine (rpow_any n p _ hn63 HP).mono ?_
 rintro e w2 ⟨rfl,hb2⟩
 replace hS := hS.kept hb2
 clear ya yb
 obtain ⟨⟨yc,yd,-⟩,-⟩ := hS.cells
 go_wp2
 go_ret
 exact ⟨rfl,hS.fr⟩
theorem rfits_ok_long (b : Nat) (w : World) : Calls Tryz.prog 47 #[.agg #[.int .i64 (11 : Nat),.int .i64 (52 : Nat)],.int .u64 b] w fun e w' => e = .returned (.int .i64 0) ∧ Below w.heap.size w w' := by
 go_enter Tryz.func47,Tryz.ntmps47
 go_wp2_with fail
 refine (rcheck_ok 11 52 _ ⟨by decide,by decide,by decide,by decide⟩).mono ?_
 rintro e w1 ⟨rfl,hb1⟩
 have hS := (Fs.one w _ _).kept hb1
 obtain ⟨⟨ya,yb,-⟩,-⟩ := hS.cells
 go_wp2
 go_ret
 exact ⟨rfl,hS.fr⟩
theorem rfits_ok (E F b : Nat) (h : Fo E F) (hb : b < 2 ^ (F + E + 1)) (w : World) : Calls Tryz.prog 47 #[.agg #[.int .i64 E,.int .i64 F],.int .u64 b] w fun e w' => e = .returned (.int .i64 0) ∧ Below w.heap.size w w' := by
 by_cases hs : E + F < 63
 ·exact rfits_ok_short E F b h hs hb w
 ·obtain rfl : E = 11 := by have := h.e11; have := h.f52; omega
  obtain rfl : F = 52 := by have := h.f52; omega
  exact rfits_ok_long b w
theorem rfits_many (E F b : Nat) (h : Fo E F) (hb : 2 ^ (F + E + 1) ≤ b) (hb64 : b < 18446744073709551616) (w : World) : Calls Tryz.prog 47 #[.agg #[.int .i64 E,.int .i64 F],.int .u64 b] w fun e w' => e = .returned (.int .i64 6) ∧ Below w.heap.size w w' := by
 by_cases hs : E + F < 63
 ·exact rfits_many_short E F b h hs hb w
 ·exfalso
  have := pow_bound (show 64 ≤ F + E + 1 by omega)
  omega
theorem rfits_bad (E F : Int) (hbad : NoFo E F) (b : Int) (w : World) : Calls Tryz.prog 47 #[.agg #[.int .i64 E,.int .i64 F],.int .u64 b] w fun e w' => e = .returned (.int .i64 5) ∧ Below w.heap.size w w' := by
 have HB := hide hbad
 clear hbad
 go_enter Tryz.func47,Tryz.ntmps47
 go_wp2_with fail
 refine (rcheck_bad _ _ _ (unhide HB)).mono ?_
 rintro e w1 ⟨rfl,hb1⟩
 have hS := (Fs.one w _ _).kept hb1
 obtain ⟨⟨ya,yb,-⟩,-⟩ := hS.cells
 go_wp2
 go_ret
 exact ⟨rfl,hS.fr⟩
theorem rSplit_ok (E F b ex fr : Nat) (neg : Bool) (h : Fo E F) (hB : Bt E F b neg ex fr) (w : World) : Calls Tryz.prog 118 #[.agg #[.int .i64 E,.int .i64 F],.int .u64 b] w fun e w' => e = .returned (.tuple #[.agg #[.bool neg,.int .i64 ex,.int .u64 fr],.int .i64 0]) ∧ Below w.heap.size w w' := by
 have HB := hide hB
 have hexl := hB.ex64 h
 have h11 := h.e11
 have h52 := h.f52
 obtain ⟨pE,hpE⟩ : ∃ p,p = 2 ^ E := ⟨_,rfl⟩
 have HPE := hide hpE
 obtain ⟨pF,hpF⟩ : ∃ p,p = 2 ^ F := ⟨_,rfl⟩
 have HPF := hide hpF
 obtain ⟨r,hr⟩ : ∃ r,r = b / pF := ⟨_,rfl⟩
 obtain ⟨s,hs⟩ : ∃ s,s = r / pE := ⟨_,rfl⟩
 have hb64 := hB.u64 h
 have hr64 : r < 18446744073709551616 := by have := Nat.div_le_self b pF; omega
 have hpE0 : 0 < pE := by rw [hpE]; exact pow_pos2 _
 have hpF0 : 0 < pF := by rw [hpF]; exact pow_pos2 _
 have hsn : s = neg.toNat := by rw [hs,hr,hpE,hpF]; exact hB.up_sign
 have hre : r % pE = ex := by rw [hr,hpE,hpF]; exact hB.up_exp
 have hbf : b % pF = fr := by rw [hpF]; exact hB.frac
 have d1 : (b : Int) / (pF : Int) = (r : Int) := by rw [hr]; simp
 have HD2 : Hid ((r : Int) / (pE : Int) = (s : Int)) := hide (by rw [hs]; simp)
 have HD3 : Hid ((r : Int) % (pE : Int) = (ex : Int)) := hide (by rw [← hre]; simp)
 have HD4 : Hid ((b : Int) % (pF : Int) = (fr : Int)) := hide (by rw [← hbf]; simp)
 have hs64 : s < 18446744073709551616 := by rw [hsn]; cases neg <;> decide
 have HSN : Hid (s = neg.toNat) := hide hsn
 clear hB hpE hpF hr hs hre hbf hsn
 go_enter Tryz.func118,Tryz.ntmps118
 go_wp2_with fail
 refine (rfits_ok _ _ _ h (unhide HB).lt _).mono ?_
 rintro e w1 ⟨rfl,hb1⟩
 have hS := (Fs.two w _ _ _ _).kept hb1
 obtain ⟨⟨ya,yb,-⟩,⟨yc,yd,ye,-⟩,-⟩ := hS.cells
 go_wp2_with fail
 refine (rpow_any F pF _ (by omega) HPF).mono ?_
 rintro e w2 ⟨rfl,hb2⟩
 replace hS := hS.kept hb2
 clear ya yb yc yd ye
 obtain ⟨⟨yf,yg,-⟩,⟨yh,yi,yj,-⟩,-⟩ := hS.cells
 go_wp2_with fail
 refine wp_region_any (by kernel_rfl) ?_
 refine wpAny_det [some (20,.int .u64 r),some (21,.pointer (some ⟨w.heap.size,0,none⟩)),some (22,.int .i64 E),some (23,.int .u64 pE),some (24,.int .u64 s),some (25,.bool neg),some (26,.int .u64 r),some (27,.pointer (some ⟨w.heap.size,0,none⟩)),some (28,.int .i64 E),some (29,.int .u64 pE),some (30,.int .u64 ex),some (31,.int .i64 ex),some (32,.int .u64 b),some (33,.pointer (some ⟨w.heap.size,1,none⟩)),some (34,.int .i64 F),some (35,.int .u64 pF),some (36,.int .u64 fr),some (37,.agg #[.bool neg,.int .i64 ex,.int .u64 fr]),none,some (5,.int .i64 0)]
  (fun l9 W9 => Fs w W9 (pickBs l9 [(18,[⟨w.heap.size,#[.int .i64 E,.int .i64 F],23⟩,⟨w.heap.size + 1,#[.bool neg,.int .i64 ex,.int .u64 fr],55⟩])] [⟨w.heap.size,#[.int .i64 E,.int .i64 F],23⟩,⟨w.heap.size + 1,#[.bool false,.int .i64 0,.int .u64 0],55⟩])) _ _ rfl (by kernel_rfl) rfl rfl ?_ ?_ (hS).drew
 ·intro l9 t9 W9 i9 hD hi9 hl9 hM
  obtain ⟨o9,ho9,hd9⟩ := (mem_ready.1 hi9).2
  have hin9 : i9 < 20 := by
   by_cases h : i9 < 20
   ·exact h
   ·rw [Array.getElem?_eq_none (by rw [hD.len]; simp; omega)] at hl9; cases hl9
  have hcase : i9 = 0 ∨ i9 = 1 ∨ i9 = 2 ∨ i9 = 3 ∨ i9 = 4 ∨ i9 = 5 ∨ i9 = 6 ∨ i9 = 7 ∨ i9 = 8 ∨ i9 = 9 ∨ i9 = 10 ∨ i9 = 11 ∨ i9 = 12 ∨ i9 = 13 ∨ i9 = 14 ∨ i9 = 15 ∨ i9 = 16 ∨ i9 = 17 ∨ i9 = 18 ∨ i9 = 19 := by omega
  clear hin9
  rcases hcase with rfl | rfl | rfl | rfl | rfl | rfl | rfl | rfl | rfl | rfl | rfl | rfl | rfl | rfl | rfl | rfl | rfl | rfl | rfl | rfl
  ·cases ho9
   have r7 := hD.old 7 _ rfl rfl
   refine wpOp_step rfl fun K hK => ?_
   go_simp
   exact hK _ _ ⟨rfl,(keepM rfl hM)⟩
  ·cases ho9
   have r2 := hD.old 2 _ rfl rfl
   refine wpOp_step rfl fun K hK => ?_
   go_simp
   exact hK _ _ ⟨rfl,(keepM rfl hM)⟩
  ·cases ho9
   have r21 := hD.od hd9 1 21 _ rfl (by simp)
   have hM0 : Fs w W9 [⟨w.heap.size,#[.int .i64 E,.int .i64 F],23⟩,⟨w.heap.size + 1,#[.bool false,.int .i64 0,.int .u64 0],55⟩] := by
    have hM1 := hM
    simp only [pickBs] at hM1
    rw [if_neg (hD.waits 2 18 _ ⟨2,.phase⟩ hl9 rfl (by simp) rfl rfl)] at hM1
    exact hM1
   have c9_0 := hM0.cellAt (b := w.heap.size) (cs := #[.int .i64 E,.int .i64 F]) (t := 23) (by simp) 0 _ rfl
   clear hM0
   refine wpOp_step rfl fun K hK => ?_
   go_simp
   exact hK _ _ ⟨rfl,(keepM rfl hM)⟩
  ·cases ho9
   have r22 := hD.od hd9 2 22 _ rfl (by simp)
   have hM0 : Fs w W9 [⟨w.heap.size,#[.int .i64 E,.int .i64 F],23⟩,⟨w.heap.size + 1,#[.bool false,.int .i64 0,.int .u64 0],55⟩] := by
    have hM1 := hM
    simp only [pickBs] at hM1
    rw [if_neg (hD.waits 3 18 _ ⟨3,.phase⟩ hl9 rfl (by simp) rfl rfl)] at hM1
    exact hM1
   refine wpOp_step rfl fun K hK => ?_
   go_simp
   go_wp2_with fail
   refine (rpow_any E pE _ (by omega) HPE).mono ?_
   rintro en w9 ⟨rfl,hb9⟩
   exact hK _ _ ⟨rfl,keepM rfl (hM.kept hb9)⟩
  ·cases ho9
   have r20 := hD.od hd9 0 20 _ rfl (by simp)
   have r23 := hD.od hd9 3 23 _ rfl (by simp)
   refine wpOp_step rfl fun K hK => ?_
   go_simp
   go_wp2_with fail
   exact ⟨act_eq (by (refine congrArg (Value.int _) ?_; first | exact unhide HD2 | (rw [unhide HD2,IntKind.wrap_u64]; omega) | (rw [Int.tdiv_eq_ediv_of_nonneg (by omega)]; exact unhide HD2) | (rw [Int.tmod_eq_emod_of_nonneg (by omega)]; exact unhide HD2))),(keepM rfl hM)⟩
  ·cases ho9
   have r24 := hD.od hd9 4 24 _ rfl (by simp)
   refine wpOp_step rfl fun K hK => ?_
   go_simp
   exact hK _ _ ⟨act_eq (by (rw [unhide HSN]; cases neg <;> rfl)),(keepM rfl hM)⟩
  ·cases ho9
   have r7 := hD.old 7 _ rfl rfl
   refine wpOp_step rfl fun K hK => ?_
   go_simp
   exact hK _ _ ⟨rfl,(keepM rfl hM)⟩
  ·cases ho9
   have r2 := hD.old 2 _ rfl rfl
   refine wpOp_step rfl fun K hK => ?_
   go_simp
   exact hK _ _ ⟨rfl,(keepM rfl hM)⟩
  ·cases ho9
   have r27 := hD.od hd9 7 27 _ rfl (by simp)
   have hM0 : Fs w W9 [⟨w.heap.size,#[.int .i64 E,.int .i64 F],23⟩,⟨w.heap.size + 1,#[.bool false,.int .i64 0,.int .u64 0],55⟩] := by
    have hM1 := hM
    simp only [pickBs] at hM1
    rw [if_neg (hD.waits 8 18 _ ⟨8,.phase⟩ hl9 rfl (by simp) rfl rfl)] at hM1
    exact hM1
   have c9_0 := hM0.cellAt (b := w.heap.size) (cs := #[.int .i64 E,.int .i64 F]) (t := 23) (by simp) 0 _ rfl
   clear hM0
   refine wpOp_step rfl fun K hK => ?_
   go_simp
   exact hK _ _ ⟨rfl,(keepM rfl hM)⟩
  ·cases ho9
   have r28 := hD.od hd9 8 28 _ rfl (by simp)
   have hM0 : Fs w W9 [⟨w.heap.size,#[.int .i64 E,.int .i64 F],23⟩,⟨w.heap.size + 1,#[.bool false,.int .i64 0,.int .u64 0],55⟩] := by
    have hM1 := hM
    simp only [pickBs] at hM1
    rw [if_neg (hD.waits 9 18 _ ⟨9,.phase⟩ hl9 rfl (by simp) rfl rfl)] at hM1
    exact hM1
   refine wpOp_step rfl fun K hK => ?_
   go_simp
   go_wp2_with fail
   refine (rpow_any E pE _ (by omega) HPE).mono ?_
   rintro en w9 ⟨rfl,hb9⟩
   exact hK _ _ ⟨rfl,keepM rfl (hM.kept hb9)⟩
  ·cases ho9
   have r26 := hD.od hd9 6 26 _ rfl (by simp)
   have r29 := hD.od hd9 9 29 _ rfl (by simp)
   refine wpOp_step rfl fun K hK => ?_
   go_simp
   go_wp2_with fail
   exact ⟨act_eq (by (refine congrArg (Value.int _) ?_; first | exact unhide HD3 | (rw [unhide HD3,IntKind.wrap_u64]; omega) | (rw [Int.tdiv_eq_ediv_of_nonneg (by omega)]; exact unhide HD3) | (rw [Int.tmod_eq_emod_of_nonneg (by omega)]; exact unhide HD3))),(keepM rfl hM)⟩
  ·cases ho9
   have r30 := hD.od hd9 10 30 _ rfl (by simp)
   refine wpOp_step rfl fun K hK => ?_
   go_simp
   exact hK _ _ ⟨act_eq (by (show Value.int _ _ = Value.int _ _; congr 1; (first | rfl | omega | (rw [IntKind.wrap_i64]; omega) | (rw [IntKind.wrap_u64]; omega)))),(keepM rfl hM)⟩
  ·cases ho9
   have r1 := hD.old 1 _ rfl rfl
   refine wpOp_step rfl fun K hK => ?_
   go_simp
   exact hK _ _ ⟨rfl,(keepM rfl hM)⟩
  ·cases ho9
   have r2 := hD.old 2 _ rfl rfl
   refine wpOp_step rfl fun K hK => ?_
   go_simp
   exact hK _ _ ⟨rfl,(keepM rfl hM)⟩
  ·cases ho9
   have r33 := hD.od hd9 13 33 _ rfl (by simp)
   have hM0 : Fs w W9 [⟨w.heap.size,#[.int .i64 E,.int .i64 F],23⟩,⟨w.heap.size + 1,#[.bool false,.int .i64 0,.int .u64 0],55⟩] := by
    have hM1 := hM
    simp only [pickBs] at hM1
    rw [if_neg (hD.waits 14 18 _ ⟨14,.phase⟩ hl9 rfl (by simp) rfl rfl)] at hM1
    exact hM1
   have c9_0 := hM0.cellAt (b := w.heap.size) (cs := #[.int .i64 E,.int .i64 F]) (t := 23) (by simp) 1 _ rfl
   clear hM0
   refine wpOp_step rfl fun K hK => ?_
   go_simp
   exact hK _ _ ⟨rfl,(keepM rfl hM)⟩
  ·cases ho9
   have r34 := hD.od hd9 14 34 _ rfl (by simp)
   have hM0 : Fs w W9 [⟨w.heap.size,#[.int .i64 E,.int .i64 F],23⟩,⟨w.heap.size + 1,#[.bool false,.int .i64 0,.int .u64 0],55⟩] := by
    have hM1 := hM
    simp only [pickBs] at hM1
    rw [if_neg (hD.waits 15 18 _ ⟨15,.chain⟩ hl9 rfl (by simp) rfl rfl)] at hM1
    exact hM1
   refine wpOp_step rfl fun K hK => ?_
   go_simp
   go_wp2_with fail
   refine (rpow_any F pF _ (by omega) HPF).mono ?_
   rintro en w9 ⟨rfl,hb9⟩
   exact hK _ _ ⟨rfl,keepM rfl (hM.kept hb9)⟩
  ·cases ho9
   have r32 := hD.od hd9 12 32 _ rfl (by simp)
   have r35 := hD.od hd9 15 35 _ rfl (by simp)
   refine wpOp_step rfl fun K hK => ?_
   go_simp
   go_wp2_with fail
   exact ⟨act_eq (by (refine congrArg (Value.int _) ?_; first | exact unhide HD4 | (rw [unhide HD4,IntKind.wrap_u64]; omega) | (rw [Int.tdiv_eq_ediv_of_nonneg (by omega)]; exact unhide HD4) | (rw [Int.tmod_eq_emod_of_nonneg (by omega)]; exact unhide HD4))),(keepM rfl hM)⟩
  ·cases ho9
   have r25 := hD.od hd9 5 25 _ rfl (by simp)
   have r31 := hD.od hd9 11 31 _ rfl (by simp)
   have r36 := hD.od hd9 16 36 _ rfl (by simp)
   refine wpOp_step rfl fun K hK => ?_
   go_simp
   exact hK _ _ ⟨rfl,(keepM rfl hM)⟩
  ·cases ho9
   have r4 := hD.old 4 _ rfl rfl
   have r37 := hD.od hd9 17 37 _ rfl (by simp)
   have hM0 : Fs w W9 [⟨w.heap.size,#[.int .i64 E,.int .i64 F],23⟩,⟨w.heap.size + 1,#[.bool false,.int .i64 0,.int .u64 0],55⟩] := by
    have hM1 := hM
    simp only [pickBs] at hM1
    rw [if_neg (by rw [hl9]; simp)] at hM1
    exact hM1
   have c9_0 := hM0.cellAt (b := w.heap.size + 1) (cs := #[.bool false,.int .i64 0,.int .u64 0]) (t := 55) (by simp) 0 _ rfl
   have z9_0 := hM0.frozen (b := w.heap.size + 1) (cs := #[.bool false,.int .i64 0,.int .u64 0]) (t := 55) (by simp) 0
   have c9_1 := hM0.cellAt (b := w.heap.size + 1) (cs := #[.bool false,.int .i64 0,.int .u64 0]) (t := 55) (by simp) 1 _ rfl
   have z9_1 := hM0.frozen (b := w.heap.size + 1) (cs := #[.bool false,.int .i64 0,.int .u64 0]) (t := 55) (by simp) 1
   have c9_2 := hM0.cellAt (b := w.heap.size + 1) (cs := #[.bool false,.int .i64 0,.int .u64 0]) (t := 55) (by simp) 2 _ rfl
   have z9_2 := hM0.frozen (b := w.heap.size + 1) (cs := #[.bool false,.int .i64 0,.int .u64 0]) (t := 55) (by simp) 2
   refine wpOp_step rfl fun K hK => ?_
   go_simp
   exact hK _ _ ⟨rfl,putM trivial hl9 (((hM0.put (b := w.heap.size + 1) (cs := #[.bool false,.int .i64 0,.int .u64 0]) (t := 55) (by simp) (by simp) 0 (.bool neg) [⟨w.heap.size,#[.int .i64 E,.int .i64 F],23⟩,⟨w.heap.size + 1,#[.bool neg,.int .i64 0,.int .u64 0],55⟩] (by simp)).put (b := w.heap.size + 1) (cs := #[.bool neg,.int .i64 0,.int .u64 0]) (t := 55) (by simp) (by simp) 1 (.int .i64 ex) [⟨w.heap.size,#[.int .i64 E,.int .i64 F],23⟩,⟨w.heap.size + 1,#[.bool neg,.int .i64 ex,.int .u64 0],55⟩] (by simp)).put (b := w.heap.size + 1) (cs := #[.bool neg,.int .i64 ex,.int .u64 0]) (t := 55) (by simp) (by simp) 2 (.int .u64 fr) [⟨w.heap.size,#[.int .i64 E,.int .i64 F],23⟩,⟨w.heap.size + 1,#[.bool neg,.int .i64 ex,.int .u64 fr],55⟩] (by simp))⟩
  ·cases ho9
   refine wpOp_step rfl fun K hK => ?_
   go_simp
   exact hK _ _ ⟨rfl,(keepM rfl hM)⟩
 ·intro l9 W9 hl9 hM
  simp only [pickBs] at hM
  rw [if_pos (hl9 18 (by decide))] at hM
  clear hS yf yg yh yi yj
  have hS := hM
  clear hM
  simp only [Puts.lay,List.setIfInBounds_toArray,List.set_cons_zero,List.set_cons_succ]
  obtain ⟨⟨yk,yl,-⟩,⟨ym,yn,yo,-⟩,-⟩ := hS.cells
  go_wp2
  exact bodyPost_ret (v := .tuple #[.agg #[.bool neg,.int .i64 ex,.int .u64 fr],.int .i64 0]) (by simp [results,Tryz.results118,go_sem,ym,yn,yo]) rfl ⟨rfl,hS.fr⟩
theorem rClass1 (E F b ex fr : Nat) (neg : Bool) (h : Fo E F) (hB : Bt E F b neg ex fr) (h0 : ex = 0) (h1 : fr = 0) (w : World) : Calls Tryz.prog 108 #[.agg #[.int .i64 E,.int .i64 F],.int .u64 b] w fun e w' => e = .returned (.tuple #[.int .u8 1,.int .i64 0]) ∧ Below w.heap.size w w' := by
 subst h0
 subst h1
 have HB := hide hB
 clear hB
 go_enter Tryz.func108,Tryz.ntmps108
 go_wp2_with fail
 refine (rSplit_ok _ _ b 0 0 neg h (unhide HB) _).mono ?_
 rintro e w1 ⟨rfl,hb1⟩
 have hS := (Fs.one w _ _).kept hb1
 obtain ⟨⟨ya,yb,-⟩,-⟩ := hS.cells
 have hlt : w.heap.size < w1.heap.size := block_lt (hS.bx ⟨w.heap.size,#[.int .i64 E,.int .i64 F],23⟩ (by simp))
 replace hS := hS.alloc #[.bool neg,.int .i64 0,.int .u64 0] 55
 go_wp2
 go_ret2
 exact ⟨rfl,hS.fr⟩
theorem rClass2 (E F b ex fr : Nat) (neg : Bool) (h : Fo E F) (hB : Bt E F b neg ex fr) (h0 : ex = 0) (h1 : 0 < fr) (w : World) : Calls Tryz.prog 108 #[.agg #[.int .i64 E,.int .i64 F],.int .u64 b] w fun e w' => e = .returned (.tuple #[.int .u8 2,.int .i64 0]) ∧ Below w.heap.size w w' := by
 subst h0
 have HB := hide hB
 clear hB
 go_enter Tryz.func108,Tryz.ntmps108
 go_wp2_with fail
 refine (rSplit_ok _ _ b 0 fr neg h (unhide HB) _).mono ?_
 rintro e w1 ⟨rfl,hb1⟩
 have hS := (Fs.one w _ _).kept hb1
 obtain ⟨⟨ya,yb,-⟩,-⟩ := hS.cells
 have hlt : w.heap.size < w1.heap.size := block_lt (hS.bx ⟨w.heap.size,#[.int .i64 E,.int .i64 F],23⟩ (by simp))
 replace hS := hS.alloc #[.bool neg,.int .i64 0,.int .u64 fr] 55
 go_wp2
 go_ret2
 exact ⟨rfl,hS.fr⟩
theorem rClass3 (E F b ex fr : Nat) (neg : Bool) (h : Fo E F) (hB : Bt E F b neg ex fr) (top : Nat) (ht : Hid (top = 2 ^ E - 1)) (h0 : 0 < ex) (h1 : ex < top) (w : World) : Calls Tryz.prog 108 #[.agg #[.int .i64 E,.int .i64 F],.int .u64 b] w fun e w' => e = .returned (.tuple #[.int .u8 3,.int .i64 0]) ∧ Below w.heap.size w w' := by
 have HB := hide hB
 clear hB
 go_enter Tryz.func108,Tryz.ntmps108
 go_wp2_with fail
 refine (rSplit_ok _ _ b ex fr neg h (unhide HB) _).mono ?_
 rintro e w1 ⟨rfl,hb1⟩
 have hS := (Fs.one w _ _).kept hb1
 obtain ⟨⟨ya,yb,-⟩,-⟩ := hS.cells
 have hlt : w.heap.size < w1.heap.size := block_lt (hS.bx ⟨w.heap.size,#[.int .i64 E,.int .i64 F],23⟩ (by simp))
 replace hS := hS.alloc #[.bool neg,.int .i64 ex,.int .u64 fr] 55
 go_wp2_with fail
 refine wp_region_any (by kernel_rfl) ?_
 refine wpAny_det [some (31,.pointer (some ⟨w1.heap.size,1,none⟩)),some (32,.int .i64 ex),some (33,.agg #[.int .i64 E,.int .i64 F]),some (34,.int .i64 top),some (35,.bool true),some (30,.bool true)]
  (fun _ W9 => Fs w W9 [⟨w1.heap.size,#[.bool neg,.int .i64 ex,.int .u64 fr],55⟩,⟨w.heap.size,#[.int .i64 E,.int .i64 F],23⟩]) _ _ rfl (by kernel_rfl) rfl rfl ?_ ?_ (hS).drew
 ·intro l9 t9 W9 i9 hD hi9 hl9 hM
  obtain ⟨o9,ho9,hd9⟩ := (mem_ready.1 hi9).2
  have hin9 : i9 < 6 := by
   by_cases h : i9 < 6
   ·exact h
   ·rw [Array.getElem?_eq_none (by rw [hD.len]; simp; omega)] at hl9; cases hl9
  have hcase : i9 = 0 ∨ i9 = 1 ∨ i9 = 2 ∨ i9 = 3 ∨ i9 = 4 ∨ i9 = 5 := by omega
  clear hin9
  rcases hcase with rfl | rfl | rfl | rfl | rfl | rfl
  ·cases ho9
   have r6 := hD.old 6 _ rfl rfl
   refine wpOp_step rfl fun K hK => ?_
   go_simp
   exact hK _ _ ⟨rfl,hM⟩
  ·cases ho9
   have r31 := hD.od hd9 0 31 _ rfl (by simp)
   have hM0 := hM
   have c9_0 := hM0.cellAt (b := w1.heap.size) (cs := #[.bool neg,.int .i64 ex,.int .u64 fr]) (t := 55) (by simp) 1 _ rfl
   clear hM0
   refine wpOp_step rfl fun K hK => ?_
   go_simp
   exact hK _ _ ⟨rfl,hM⟩
  ·cases ho9
   have r2 := hD.old 2 _ rfl rfl
   have hM0 := hM
   have Q_ := hM0.cellAt (b := w.heap.size) (cs := #[.int .i64 E,.int .i64 F]) (t := 23) (by simp)
   have c9_0 := Q_ 0 _ rfl
   have c9_1 := Q_ 1 _ rfl
   clear Q_
   clear hM0
   refine wpOp_step rfl fun K hK => ?_
   go_simp
   exact hK _ _ ⟨rfl,hM⟩
  ·cases ho9
   have r33 := hD.od hd9 2 33 _ rfl (by simp)
   refine wpOp_step rfl fun K hK => ?_
   go_simp
   go_wp2_with fail
   refine (rtop_any _ _ top h ht _).mono ?_
   rintro en w9 ⟨rfl,hb9⟩
   exact hK _ _ ⟨rfl,hM.kept hb9⟩
  ·cases ho9
   have r32 := hD.od hd9 1 32 _ rfl (by simp)
   have r34 := hD.od hd9 3 34 _ rfl (by simp)
   refine wpOp_step rfl fun K hK => ?_
   go_simp
   exact hK _ _ ⟨act_eq (by (first | rfl | skip); all_goals (rw [Value.bool.injEq]; first | (simp; done) | (simp; omega) | (rw [decide_eq_false_iff_not]; omega) | (rw [decide_eq_true_iff]; omega))),hM⟩
  ·cases ho9
   have r35 := hD.od hd9 4 35 _ rfl (by simp)
   refine wpOp_step rfl fun K hK => ?_
   go_simp
   exact hK _ _ ⟨rfl,hM⟩
 ·intro l9 W9 hl9 hM
  clear hS ya yb
  have hS := hM
  clear hM
  simp only [Puts.lay,List.setIfInBounds_toArray,List.set_cons_zero,List.set_cons_succ]
  obtain ⟨⟨yc,yd,ye,-⟩,⟨yf,yg,-⟩,-⟩ := hS.cells
  go_wp2
  go_ret2
  exact ⟨rfl,hS.fr⟩
theorem rClass4 (E F b ex fr : Nat) (neg : Bool) (h : Fo E F) (hB : Bt E F b neg ex fr) (top : Nat) (ht : Hid (top = 2 ^ E - 1)) (h0 : 0 < ex) (h1 : top ≤ ex) (h2 : fr = 0) (w : World) : Calls Tryz.prog 108 #[.agg #[.int .i64 E,.int .i64 F],.int .u64 b] w fun e w' => e = .returned (.tuple #[.int .u8 4,.int .i64 0]) ∧ Below w.heap.size w w' := by
 subst h2
 have HB := hide hB
 clear hB
 go_enter Tryz.func108,Tryz.ntmps108
 go_wp2_with fail
 refine (rSplit_ok _ _ b ex 0 neg h (unhide HB) _).mono ?_
 rintro e w1 ⟨rfl,hb1⟩
 have hS := (Fs.one w _ _).kept hb1
 obtain ⟨⟨ya,yb,-⟩,-⟩ := hS.cells
 have hlt : w.heap.size < w1.heap.size := block_lt (hS.bx ⟨w.heap.size,#[.int .i64 E,.int .i64 F],23⟩ (by simp))
 replace hS := hS.alloc #[.bool neg,.int .i64 ex,.int .u64 0] 55
 go_wp2_with fail
 refine wp_region_any (by kernel_rfl) ?_
 refine wpAny_det [some (31,.pointer (some ⟨w1.heap.size,1,none⟩)),some (32,.int .i64 ex),some (33,.agg #[.int .i64 E,.int .i64 F]),some (34,.int .i64 top),some (35,.bool false),some (30,.bool false)]
  (fun _ W9 => Fs w W9 [⟨w1.heap.size,#[.bool neg,.int .i64 ex,.int .u64 0],55⟩,⟨w.heap.size,#[.int .i64 E,.int .i64 F],23⟩]) _ _ rfl (by kernel_rfl) rfl rfl ?_ ?_ (hS).drew
 ·intro l9 t9 W9 i9 hD hi9 hl9 hM
  obtain ⟨o9,ho9,hd9⟩ := (mem_ready.1 hi9).2
  have hin9 : i9 < 6 := by
   by_cases h : i9 < 6
   ·exact h
   ·rw [Array.getElem?_eq_none (by rw [hD.len]; simp; omega)] at hl9; cases hl9
  have hcase : i9 = 0 ∨ i9 = 1 ∨ i9 = 2 ∨ i9 = 3 ∨ i9 = 4 ∨ i9 = 5 := by omega
  clear hin9
  rcases hcase with rfl | rfl | rfl | rfl | rfl | rfl
  ·cases ho9
   have r6 := hD.old 6 _ rfl rfl
   refine wpOp_step rfl fun K hK => ?_
   go_simp
   exact hK _ _ ⟨rfl,hM⟩
  ·cases ho9
   have r31 := hD.od hd9 0 31 _ rfl (by simp)
   have hM0 := hM
   have c9_0 := hM0.cellAt (b := w1.heap.size) (cs := #[.bool neg,.int .i64 ex,.int .u64 0]) (t := 55) (by simp) 1 _ rfl
   clear hM0
   refine wpOp_step rfl fun K hK => ?_
   go_simp
   exact hK _ _ ⟨rfl,hM⟩
  ·cases ho9
   have r2 := hD.old 2 _ rfl rfl
   have hM0 := hM
   have Q_ := hM0.cellAt (b := w.heap.size) (cs := #[.int .i64 E,.int .i64 F]) (t := 23) (by simp)
   have c9_0 := Q_ 0 _ rfl
   have c9_1 := Q_ 1 _ rfl
   clear Q_
   clear hM0
   refine wpOp_step rfl fun K hK => ?_
   go_simp
   exact hK _ _ ⟨rfl,hM⟩
  ·cases ho9
   have r33 := hD.od hd9 2 33 _ rfl (by simp)
   refine wpOp_step rfl fun K hK => ?_
   go_simp
   go_wp2_with fail
   refine (rtop_any _ _ top h ht _).mono ?_
   rintro en w9 ⟨rfl,hb9⟩
   exact hK _ _ ⟨rfl,hM.kept hb9⟩
  ·cases ho9
   have r32 := hD.od hd9 1 32 _ rfl (by simp)
   have r34 := hD.od hd9 3 34 _ rfl (by simp)
   refine wpOp_step rfl fun K hK => ?_
   go_simp
   exact hK _ _ ⟨act_eq (by (first | rfl | skip); all_goals (rw [Value.bool.injEq]; first | (simp; done) | (simp; omega) | (rw [decide_eq_false_iff_not]; omega) | (rw [decide_eq_true_iff]; omega))),hM⟩
  ·cases ho9
   have r35 := hD.od hd9 4 35 _ rfl (by simp)
   refine wpOp_step rfl fun K hK => ?_
   go_simp
   exact hK _ _ ⟨rfl,hM⟩
 ·intro l9 W9 hl9 hM
  clear hS ya yb
  have hS := hM
  clear hM
  simp only [Puts.lay,List.setIfInBounds_toArray,List.set_cons_zero,List.set_cons_succ]
  obtain ⟨⟨yc,yd,ye,-⟩,⟨yf,yg,-⟩,-⟩ := hS.cells
  go_wp2
  go_ret2
  exact ⟨rfl,hS.fr⟩
theorem rClass5 (E F b ex fr : Nat) (neg : Bool) (h : Fo E F) (hB : Bt E F b neg ex fr) (top : Nat) (ht : Hid (top = 2 ^ E - 1)) (h0 : 0 < ex) (h1 : top ≤ ex) (h2 : 0 < fr) (w : World) : Calls Tryz.prog 108 #[.agg #[.int .i64 E,.int .i64 F],.int .u64 b] w fun e w' => e = .returned (.tuple #[.int .u8 5,.int .i64 0]) ∧ Below w.heap.size w w' := by
 have HB := hide hB
 clear hB
 go_enter Tryz.func108,Tryz.ntmps108
 go_wp2_with fail
 refine (rSplit_ok _ _ b ex fr neg h (unhide HB) _).mono ?_
 rintro e w1 ⟨rfl,hb1⟩
 have hS := (Fs.one w _ _).kept hb1
 obtain ⟨⟨ya,yb,-⟩,-⟩ := hS.cells
 have hlt : w.heap.size < w1.heap.size := block_lt (hS.bx ⟨w.heap.size,#[.int .i64 E,.int .i64 F],23⟩ (by simp))
 replace hS := hS.alloc #[.bool neg,.int .i64 ex,.int .u64 fr] 55
 go_wp2_with fail
 refine wp_region_any (by kernel_rfl) ?_
 refine wpAny_det [some (31,.pointer (some ⟨w1.heap.size,1,none⟩)),some (32,.int .i64 ex),some (33,.agg #[.int .i64 E,.int .i64 F]),some (34,.int .i64 top),some (35,.bool false),some (30,.bool false)]
  (fun _ W9 => Fs w W9 [⟨w1.heap.size,#[.bool neg,.int .i64 ex,.int .u64 fr],55⟩,⟨w.heap.size,#[.int .i64 E,.int .i64 F],23⟩]) _ _ rfl (by kernel_rfl) rfl rfl ?_ ?_ (hS).drew
 ·intro l9 t9 W9 i9 hD hi9 hl9 hM
  obtain ⟨o9,ho9,hd9⟩ := (mem_ready.1 hi9).2
  have hin9 : i9 < 6 := by
   by_cases h : i9 < 6
   ·exact h
   ·rw [Array.getElem?_eq_none (by rw [hD.len]; simp; omega)] at hl9; cases hl9
  have hcase : i9 = 0 ∨ i9 = 1 ∨ i9 = 2 ∨ i9 = 3 ∨ i9 = 4 ∨ i9 = 5 := by omega
  clear hin9
  rcases hcase with rfl | rfl | rfl | rfl | rfl | rfl
  ·cases ho9
   have r6 := hD.old 6 _ rfl rfl
   refine wpOp_step rfl fun K hK => ?_
   go_simp
   exact hK _ _ ⟨rfl,hM⟩
  ·cases ho9
   have r31 := hD.od hd9 0 31 _ rfl (by simp)
   have hM0 := hM
   have c9_0 := hM0.cellAt (b := w1.heap.size) (cs := #[.bool neg,.int .i64 ex,.int .u64 fr]) (t := 55) (by simp) 1 _ rfl
   clear hM0
   refine wpOp_step rfl fun K hK => ?_
   go_simp
   exact hK _ _ ⟨rfl,hM⟩
  ·cases ho9
   have r2 := hD.old 2 _ rfl rfl
   have hM0 := hM
   have Q_ := hM0.cellAt (b := w.heap.size) (cs := #[.int .i64 E,.int .i64 F]) (t := 23) (by simp)
   have c9_0 := Q_ 0 _ rfl
   have c9_1 := Q_ 1 _ rfl
   clear Q_
   clear hM0
   refine wpOp_step rfl fun K hK => ?_
   go_simp
   exact hK _ _ ⟨rfl,hM⟩
  ·cases ho9
   have r33 := hD.od hd9 2 33 _ rfl (by simp)
   refine wpOp_step rfl fun K hK => ?_
   go_simp
   go_wp2_with fail
   refine (rtop_any _ _ top h ht _).mono ?_
   rintro en w9 ⟨rfl,hb9⟩
   exact hK _ _ ⟨rfl,hM.kept hb9⟩
  ·cases ho9
   have r32 := hD.od hd9 1 32 _ rfl (by simp)
   have r34 := hD.od hd9 3 34 _ rfl (by simp)
   refine wpOp_step rfl fun K hK => ?_
   go_simp
   exact hK _ _ ⟨act_eq (by (first | rfl | skip); all_goals (rw [Value.bool.injEq]; first | (simp; done) | (simp; omega) | (rw [decide_eq_false_iff_not]; omega) | (rw [decide_eq_true_iff]; omega))),hM⟩
  ·cases ho9
   have r35 := hD.od hd9 4 35 _ rfl (by simp)
   refine wpOp_step rfl fun K hK => ?_
   go_simp
   exact hK _ _ ⟨rfl,hM⟩
 ·intro l9 W9 hl9 hM
  clear hS ya yb
  have hS := hM
  clear hM
  simp only [Puts.lay,List.setIfInBounds_toArray,List.set_cons_zero,List.set_cons_succ]
  obtain ⟨⟨yc,yd,ye,-⟩,⟨yf,yg,-⟩,-⟩ := hS.cells
  go_wp2
  go_ret2
  exact ⟨rfl,hS.fr⟩
theorem rClass_ok (E F b ex fr : Nat) (neg : Bool) (h : Fo E F) (hB : Bt E F b neg ex fr) (top : Nat) (ht : Hid (top = 2 ^ E - 1)) (w : World) : Calls Tryz.prog 108 #[.agg #[.int .i64 E,.int .i64 F],.int .u64 b] w fun e w' => e = .returned (.tuple #[.int .u8 (cls ex fr top : Int),.int .i64 0]) ∧ Below w.heap.size w w' := by
 unfold cls
 by_cases h0 : ex = 0
 ·by_cases h1 : fr = 0
  ·rw [if_pos ⟨h0,h1⟩]; exact rClass1 E F b ex fr neg h hB h0 h1 w
  ·rw [if_neg (fun h => h1 h.2),if_pos h0]; exact rClass2 E F b ex fr neg h hB h0 (by omega) w
 ·rw [if_neg (fun h => h0 h.1),if_neg h0]
  by_cases h1 : ex < top
  ·rw [if_pos h1]; exact rClass3 E F b ex fr neg h hB top ht (by omega) h1 w
  ·rw [if_neg h1]
   by_cases h2 : fr = 0
   ·rw [if_pos h2]; exact rClass4 E F b ex fr neg h hB top ht (by omega) (by omega) h2 w
   ·rw [if_neg h2]; exact rClass5 E F b ex fr neg h hB top ht (by omega) (by omega) (by omega) w
theorem rhalf6 (E F S : Nat) (h : Fo E F) (HS : Hid (S = 2 ^ (F + E))) (w : World)  :
  Calls Tryz.prog 50 #[.agg #[.int .i64 E,.int .i64 F]] w fun e w' => e = .returned (.int .u64 (S : Int)) ∧ Below w.heap.size w w' := by
 have h63 := h.sum
 have ek : (E : Int) + (F : Int) = ((F + E : Nat) : Int) := by omega
 go_enter Tryz.func50,Tryz.ntmps50
 go_wp2_with fail
 refine (rpow_any (F + E) S _ h63 HS).mono ?_
 rintro e w1 ⟨rfl,hb1⟩
 have hS := (Fs.one w _ _).kept hb1
 obtain ⟨⟨ya,yb,-⟩,-⟩ := hS.cells
 go_wp2
 go_ret
 exact ⟨rfl,hS.fr⟩
theorem rclass6 (E F b c : Int) (HC : Tel 108 #[.agg #[.int .i64 E,.int .i64 F],.int .u64 b] (.tuple #[.int .u8 c,.int .i64 0])) (w : World)  :
  Calls Tryz.prog 48 #[.agg #[.int .i64 E,.int .i64 F],.int .u64 b] w fun e w' => e = .returned (.int .u8 c) ∧ Below w.heap.size w w' := by
 go_enter Tryz.func48,Tryz.ntmps48
 go_wp2_with fail
 refine (HC _).mono ?_
 rintro e w1 ⟨rfl,hb1⟩
 have hS := (Fs.one w _ _).kept hb1
 obtain ⟨⟨ya,yb,-⟩,-⟩ := hS.cells
 go_wp2
 go_ret
 exact ⟨rfl,hS.fr⟩
theorem rfin_yes (E F b c : Int) (hc : c ≤ 3) (HC : Tel 108 #[.agg #[.int .i64 E,.int .i64 F],.int .u64 b] (.tuple #[.int .u8 c,.int .i64 0])) (w : World)  :
  Calls Tryz.prog 56 #[.agg #[.int .i64 E,.int .i64 F],.int .u64 b] w fun e w' => e = .returned (.bool true) ∧ Below w.heap.size w w' := by
 go_enter Tryz.func56,Tryz.ntmps56
 go_wp2_with fail
 refine (HC _).mono ?_
 rintro e w1 ⟨rfl,hb1⟩
 have hS := (Fs.one w _ _).kept hb1
 obtain ⟨⟨ya,yb,-⟩,-⟩ := hS.cells
 go_wp2
 go_ret
 exact ⟨rfl,hS.fr⟩
theorem rfin_no (E F b c : Int) (hc : ¬ c ≤ 3) (HC : Tel 108 #[.agg #[.int .i64 E,.int .i64 F],.int .u64 b] (.tuple #[.int .u8 c,.int .i64 0])) (w : World)  :
  Calls Tryz.prog 56 #[.agg #[.int .i64 E,.int .i64 F],.int .u64 b] w fun e w' => e = .returned (.bool false) ∧ Below w.heap.size w w' := by
 go_enter Tryz.func56,Tryz.ntmps56
 go_wp2_with fail
 refine (HC _).mono ?_
 rintro e w1 ⟨rfl,hb1⟩
 have hS := (Fs.one w _ _).kept hb1
 obtain ⟨⟨ya,yb,-⟩,-⟩ := hS.cells
 go_wp2
 go_ret
 exact ⟨by show Ending.returned (.bool (decide (c ≤ 3))) = _; rw [decide_eq_false (show ¬ c ≤ 3 by omega)],hS.fr⟩
theorem rplace_lo (E F : Int) (S b r : Nat) (hS : 0 < S) (hr : b % S = r) (hb : b < S) (HH : Tel 50 #[.agg #[.int .i64 E,.int .i64 F]] (.int .u64 (S : Int)))  (w : World)  :
  Calls Tryz.prog 49 #[.agg #[.int .i64 E,.int .i64 F],.int .u64 (b : Int)] w fun e w' => e = .returned (.tuple #[.bool false,.int .u64 (r : Int)]) ∧ Below w.heap.size w w' := by
 have e1 : ((S : Int) == 0) = false := by simp; omega
 have e2 : Int.tmod (b : Int) (S : Int) = (r : Int) := by rw [← hr]; rfl
 have e0 : ¬ (S : Int) ≤ (b : Int) := by omega
 go_enter Tryz.func49,Tryz.ntmps49
 go_wp2_with fail
 refine (HH _).mono ?_
 rintro e w1 ⟨rfl,hb1⟩
 have hS := (Fs.one w _ _).kept hb1
 obtain ⟨⟨ya,yb,-⟩,-⟩ := hS.cells
 go_wp2_with fail
 refine (HH _).mono ?_
 rintro e w2 ⟨rfl,hb2⟩
 replace hS := hS.kept hb2
 clear ya yb
 obtain ⟨⟨yc,yd,-⟩,-⟩ := hS.cells
 go_wp2
 go_ret2
 exact ⟨rfl,hS.fr⟩
theorem rplace_hi (E F : Int) (S b r : Nat) (hS : 0 < S) (hr : b % S = r) (hb : S ≤ b) (h0 : 0 < r) (HH : Tel 50 #[.agg #[.int .i64 E,.int .i64 F]] (.int .u64 (S : Int)))  (w : World)  :
  Calls Tryz.prog 49 #[.agg #[.int .i64 E,.int .i64 F],.int .u64 (b : Int)] w fun e w' => e = .returned (.tuple #[.bool true,.int .u64 (r : Int)]) ∧ Below w.heap.size w w' := by
 have e1 : ((S : Int) == 0) = false := by simp; omega
 have e2 : Int.tmod (b : Int) (S : Int) = (r : Int) := by rw [← hr]; rfl
 have e0 : (S : Int) ≤ (b : Int) := by omega
 have e4 : (0 : Int) < (r : Int) := by omega
 go_enter Tryz.func49,Tryz.ntmps49
 go_wp2_with fail
 refine (HH _).mono ?_
 rintro e w1 ⟨rfl,hb1⟩
 have hS := (Fs.one w _ _).kept hb1
 obtain ⟨⟨ya,yb,-⟩,-⟩ := hS.cells
 go_wp2_with fail
 refine (HH _).mono ?_
 rintro e w2 ⟨rfl,hb2⟩
 replace hS := hS.kept hb2
 clear ya yb
 obtain ⟨⟨yc,yd,-⟩,-⟩ := hS.cells
 go_wp2
 go_ret2
 exact ⟨rfl,hS.fr⟩
theorem rplace_no (E F : Int) (S b r : Nat) (hS : 0 < S) (hr : b % S = r) (hb : S ≤ b) (h0 : r = 0) (HH : Tel 50 #[.agg #[.int .i64 E,.int .i64 F]] (.int .u64 (S : Int)))  (w : World)  :
  Calls Tryz.prog 49 #[.agg #[.int .i64 E,.int .i64 F],.int .u64 (b : Int)] w fun e w' => e = .returned (.tuple #[.bool false,.int .u64 0]) ∧ Below w.heap.size w w' := by
 have e1 : ((S : Int) == 0) = false := by simp; omega
 have e2 : Int.tmod (b : Int) (S : Int) = (r : Int) := by rw [← hr]; rfl
 have e0 : (S : Int) ≤ (b : Int) := by omega
 subst h0
 go_enter Tryz.func49,Tryz.ntmps49
 go_wp2_with fail
 refine (HH _).mono ?_
 rintro e w1 ⟨rfl,hb1⟩
 have hS := (Fs.one w _ _).kept hb1
 obtain ⟨⟨ya,yb,-⟩,-⟩ := hS.cells
 go_wp2_with fail
 refine (HH _).mono ?_
 rintro e w2 ⟨rfl,hb2⟩
 replace hS := hS.kept hb2
 clear ya yb
 obtain ⟨⟨yc,yd,-⟩,-⟩ := hS.cells
 go_wp2
 go_ret2
 exact ⟨rfl,hS.fr⟩
theorem check1_ok (E F : Int) (p : Nat) (b0 : Int) (H0 : Tel 80 #[.agg #[.int .i64 E,.int .i64 F],.int .u64 b0] (.int .i64 0)) (w : World) (hp : w.heap[p]? = some (.cells #[.int .u64 b0] 24 (0,0))) :
  Calls Tryz.prog 59 #[.agg #[.int .i64 E,.int .i64 F],.slice (some ⟨p,0,none⟩) 1 1] w fun e w' => e = .returned (.int .i64 0) ∧ Below w.heap.size w w' := by
 go_enter Tryz.func59,Tryz.ntmps59
 have hS0 : Fs w w [⟨p,#[.int .u64 b0],24⟩] := ⟨fun x hx => by rcases List.mem_cons.1 hx with rfl | hx; exact hp; exact absurd hx List.not_mem_nil,Below.refl _ _⟩
 have hS := hS0.alloc #[.int .i64 E,.int .i64 F] 23
 clear hS0 hp
 obtain ⟨⟨ya,yb,-⟩,⟨yc,-⟩,-⟩ := hS.cells
 go_wp2
 refine wp_loop_rounds 2 ?_
 rw [rounds_succ]
 go_wp2_with fail
 refine (H0 _).mono ?_
 rintro e w1 ⟨rfl,hb1⟩
 replace hS := hS.kept hb1
 clear ya yb yc
 obtain ⟨⟨yd,ye,-⟩,⟨yf,-⟩,-⟩ := hS.cells
 go_wp2
 rw [rounds_succ]
 go_wp2
 go_ret
 exact ⟨rfl,hS.fr⟩
theorem check2_ok (E F : Int) (p : Nat) (b0 b1 : Int) (H0 : Tel 80 #[.agg #[.int .i64 E,.int .i64 F],.int .u64 b0] (.int .i64 0)) (H1 : Tel 80 #[.agg #[.int .i64 E,.int .i64 F],.int .u64 b1] (.int .i64 0)) (w : World) (hp : w.heap[p]? = some (.cells #[.int .u64 b0,.int .u64 b1] 24 (0,0))) :
  Calls Tryz.prog 59 #[.agg #[.int .i64 E,.int .i64 F],.slice (some ⟨p,0,none⟩) 2 2] w fun e w' => e = .returned (.int .i64 0) ∧ Below w.heap.size w w' := by
 go_enter Tryz.func59,Tryz.ntmps59
 have hS0 : Fs w w [⟨p,#[.int .u64 b0,.int .u64 b1],24⟩] := ⟨fun x hx => by rcases List.mem_cons.1 hx with rfl | hx; exact hp; exact absurd hx List.not_mem_nil,Below.refl _ _⟩
 have hS := hS0.alloc #[.int .i64 E,.int .i64 F] 23
 clear hS0 hp
 obtain ⟨⟨ya,yb,-⟩,⟨yc,yd,-⟩,-⟩ := hS.cells
 go_wp2
 refine wp_loop_rounds 3 ?_
 rw [rounds_succ]
 go_wp2_with fail
 refine (H0 _).mono ?_
 rintro e w1 ⟨rfl,hb1⟩
 replace hS := hS.kept hb1
 clear ya yb yc yd
 obtain ⟨⟨ye,yf,-⟩,⟨yg,yh,-⟩,-⟩ := hS.cells
 go_wp2
 rw [rounds_succ]
 go_wp2_with fail
 refine (H1 _).mono ?_
 rintro e w2 ⟨rfl,hb2⟩
 replace hS := hS.kept hb2
 clear ye yf yg yh
 obtain ⟨⟨yi,yj,-⟩,⟨yk,yl,-⟩,-⟩ := hS.cells
 go_wp2
 rw [rounds_succ]
 go_wp2
 go_ret
 exact ⟨rfl,hS.fr⟩
theorem check2_err1 (E F c : Int) (hc : (c == (0 : Int)) = false) (p : Nat) (b0 b1 : Int) (H0 : Tel 80 #[.agg #[.int .i64 E,.int .i64 F],.int .u64 b0] (.int .i64 c)) (w : World) (hp : w.heap[p]? = some (.cells #[.int .u64 b0,.int .u64 b1] 24 (0,0))) :
  Calls Tryz.prog 59 #[.agg #[.int .i64 E,.int .i64 F],.slice (some ⟨p,0,none⟩) 2 2] w fun e w' => e = .returned (.int .i64 c) ∧ Below w.heap.size w w' := by
 go_enter Tryz.func59,Tryz.ntmps59
 have hS0 : Fs w w [⟨p,#[.int .u64 b0,.int .u64 b1],24⟩] := ⟨fun x hx => by rcases List.mem_cons.1 hx with rfl | hx; exact hp; exact absurd hx List.not_mem_nil,Below.refl _ _⟩
 have hS := hS0.alloc #[.int .i64 E,.int .i64 F] 23
 clear hS0 hp
 obtain ⟨⟨ya,yb,-⟩,⟨yc,yd,-⟩,-⟩ := hS.cells
 go_wp2
 refine wp_loop_rounds 3 ?_
 rw [rounds_succ]
 go_wp2_with fail
 refine (H0 _).mono ?_
 rintro e w1 ⟨rfl,hb1⟩
 replace hS := hS.kept hb1
 clear ya yb yc yd
 obtain ⟨⟨ye,yf,-⟩,⟨yg,yh,-⟩,-⟩ := hS.cells
 go_wp2
 go_ret
 exact ⟨rfl,hS.fr⟩
theorem check2_err2 (E F c : Int) (hc : (c == (0 : Int)) = false) (p : Nat) (b0 b1 : Int) (H0 : Tel 80 #[.agg #[.int .i64 E,.int .i64 F],.int .u64 b0] (.int .i64 0)) (H1 : Tel 80 #[.agg #[.int .i64 E,.int .i64 F],.int .u64 b1] (.int .i64 c)) (w : World) (hp : w.heap[p]? = some (.cells #[.int .u64 b0,.int .u64 b1] 24 (0,0))) :
  Calls Tryz.prog 59 #[.agg #[.int .i64 E,.int .i64 F],.slice (some ⟨p,0,none⟩) 2 2] w fun e w' => e = .returned (.int .i64 c) ∧ Below w.heap.size w w' := by
 go_enter Tryz.func59,Tryz.ntmps59
 have hS0 : Fs w w [⟨p,#[.int .u64 b0,.int .u64 b1],24⟩] := ⟨fun x hx => by rcases List.mem_cons.1 hx with rfl | hx; exact hp; exact absurd hx List.not_mem_nil,Below.refl _ _⟩
 have hS := hS0.alloc #[.int .i64 E,.int .i64 F] 23
 clear hS0 hp
 obtain ⟨⟨ya,yb,-⟩,⟨yc,yd,-⟩,-⟩ := hS.cells
 go_wp2
 refine wp_loop_rounds 3 ?_
 rw [rounds_succ]
 go_wp2_with fail
 refine (H0 _).mono ?_
 rintro e w1 ⟨rfl,hb1⟩
 replace hS := hS.kept hb1
 clear ya yb yc yd
 obtain ⟨⟨ye,yf,-⟩,⟨yg,yh,-⟩,-⟩ := hS.cells
 go_wp2
 rw [rounds_succ]
 go_wp2_with fail
 refine (H1 _).mono ?_
 rintro e w2 ⟨rfl,hb2⟩
 replace hS := hS.kept hb2
 clear ye yf yg yh
 obtain ⟨⟨yi,yj,-⟩,⟨yk,yl,-⟩,-⟩ := hS.cells
 go_wp2
 go_ret
 exact ⟨rfl,hS.fr⟩
theorem numbers1_yes (E F : Int) (c0 : Int) (hc0 : (c0 == (5 : Int)) = false)  (p : Nat) (b0 : Int) (H0 : Tel 37 #[.agg #[.int .i64 E,.int .i64 F],.int .u64 b0] (.tuple #[.int .u8 c0,.int .i64 0])) (w : World) (hp : w.heap[p]? = some (.cells #[.int .u64 b0] 24 (0,0))) :
  Calls Tryz.prog 60 #[.agg #[.int .i64 E,.int .i64 F],.slice (some ⟨p,0,none⟩) 1 1] w fun e w' => e = .returned (.bool true) ∧ Below w.heap.size w w' := by
 go_enter Tryz.func60,Tryz.ntmps60
 have hS0 : Fs w w [⟨p,#[.int .u64 b0],24⟩] := ⟨fun x hx => by rcases List.mem_cons.1 hx with rfl | hx; exact hp; exact absurd hx List.not_mem_nil,Below.refl _ _⟩
 have hS := hS0.alloc #[.int .i64 E,.int .i64 F] 23
 clear hS0 hp
 obtain ⟨⟨ya,yb,-⟩,⟨yc,-⟩,-⟩ := hS.cells
 go_wp2
 refine wp_loop_rounds 2 ?_
 rw [rounds_succ]
 go_wp2_with fail
 refine (H0 _).mono ?_
 rintro e w1 ⟨rfl,hb1⟩
 replace hS := hS.kept hb1
 clear ya yb yc
 obtain ⟨⟨yd,ye,-⟩,⟨yf,-⟩,-⟩ := hS.cells
 go_wp2
 rw [rounds_succ]
 go_wp2
 go_ret
 exact ⟨rfl,hS.fr⟩
theorem numbers2_yes (E F : Int) (c0 : Int) (hc0 : (c0 == (5 : Int)) = false) (c1 : Int) (hc1 : (c1 == (5 : Int)) = false)  (p : Nat) (b0 b1 : Int) (H0 : Tel 37 #[.agg #[.int .i64 E,.int .i64 F],.int .u64 b0] (.tuple #[.int .u8 c0,.int .i64 0])) (H1 : Tel 37 #[.agg #[.int .i64 E,.int .i64 F],.int .u64 b1] (.tuple #[.int .u8 c1,.int .i64 0])) (w : World) (hp : w.heap[p]? = some (.cells #[.int .u64 b0,.int .u64 b1] 24 (0,0))) :
  Calls Tryz.prog 60 #[.agg #[.int .i64 E,.int .i64 F],.slice (some ⟨p,0,none⟩) 2 2] w fun e w' => e = .returned (.bool true) ∧ Below w.heap.size w w' := by
 go_enter Tryz.func60,Tryz.ntmps60
 have hS0 : Fs w w [⟨p,#[.int .u64 b0,.int .u64 b1],24⟩] := ⟨fun x hx => by rcases List.mem_cons.1 hx with rfl | hx; exact hp; exact absurd hx List.not_mem_nil,Below.refl _ _⟩
 have hS := hS0.alloc #[.int .i64 E,.int .i64 F] 23
 clear hS0 hp
 obtain ⟨⟨ya,yb,-⟩,⟨yc,yd,-⟩,-⟩ := hS.cells
 go_wp2
 refine wp_loop_rounds 3 ?_
 rw [rounds_succ]
 go_wp2_with fail
 refine (H0 _).mono ?_
 rintro e w1 ⟨rfl,hb1⟩
 replace hS := hS.kept hb1
 clear ya yb yc yd
 obtain ⟨⟨ye,yf,-⟩,⟨yg,yh,-⟩,-⟩ := hS.cells
 go_wp2
 rw [rounds_succ]
 go_wp2_with fail
 refine (H1 _).mono ?_
 rintro e w2 ⟨rfl,hb2⟩
 replace hS := hS.kept hb2
 clear ye yf yg yh
 obtain ⟨⟨yi,yj,-⟩,⟨yk,yl,-⟩,-⟩ := hS.cells
 go_wp2
 rw [rounds_succ]
 go_wp2
 go_ret
 exact ⟨rfl,hS.fr⟩
theorem numbers2_no1 (E F : Int)  (p : Nat) (b0 b1 : Int) (H0 : Tel 37 #[.agg #[.int .i64 E,.int .i64 F],.int .u64 b0] (.tuple #[.int .u8 5,.int .i64 0])) (w : World) (hp : w.heap[p]? = some (.cells #[.int .u64 b0,.int .u64 b1] 24 (0,0))) :
  Calls Tryz.prog 60 #[.agg #[.int .i64 E,.int .i64 F],.slice (some ⟨p,0,none⟩) 2 2] w fun e w' => e = .returned (.bool false) ∧ Below w.heap.size w w' := by
 go_enter Tryz.func60,Tryz.ntmps60
 have hS0 : Fs w w [⟨p,#[.int .u64 b0,.int .u64 b1],24⟩] := ⟨fun x hx => by rcases List.mem_cons.1 hx with rfl | hx; exact hp; exact absurd hx List.not_mem_nil,Below.refl _ _⟩
 have hS := hS0.alloc #[.int .i64 E,.int .i64 F] 23
 clear hS0 hp
 obtain ⟨⟨ya,yb,-⟩,⟨yc,yd,-⟩,-⟩ := hS.cells
 go_wp2
 refine wp_loop_rounds 3 ?_
 rw [rounds_succ]
 go_wp2_with fail
 refine (H0 _).mono ?_
 rintro e w1 ⟨rfl,hb1⟩
 replace hS := hS.kept hb1
 clear ya yb yc yd
 obtain ⟨⟨ye,yf,-⟩,⟨yg,yh,-⟩,-⟩ := hS.cells
 go_wp2
 go_ret
 exact ⟨rfl,hS.fr⟩
theorem numbers2_no2 (E F : Int) (c0 : Int) (hc0 : (c0 == (5 : Int)) = false)  (p : Nat) (b0 b1 : Int) (H0 : Tel 37 #[.agg #[.int .i64 E,.int .i64 F],.int .u64 b0] (.tuple #[.int .u8 c0,.int .i64 0])) (H1 : Tel 37 #[.agg #[.int .i64 E,.int .i64 F],.int .u64 b1] (.tuple #[.int .u8 5,.int .i64 0])) (w : World) (hp : w.heap[p]? = some (.cells #[.int .u64 b0,.int .u64 b1] 24 (0,0))) :
  Calls Tryz.prog 60 #[.agg #[.int .i64 E,.int .i64 F],.slice (some ⟨p,0,none⟩) 2 2] w fun e w' => e = .returned (.bool false) ∧ Below w.heap.size w w' := by
 go_enter Tryz.func60,Tryz.ntmps60
 have hS0 : Fs w w [⟨p,#[.int .u64 b0,.int .u64 b1],24⟩] := ⟨fun x hx => by rcases List.mem_cons.1 hx with rfl | hx; exact hp; exact absurd hx List.not_mem_nil,Below.refl _ _⟩
 have hS := hS0.alloc #[.int .i64 E,.int .i64 F] 23
 clear hS0 hp
 obtain ⟨⟨ya,yb,-⟩,⟨yc,yd,-⟩,-⟩ := hS.cells
 go_wp2
 refine wp_loop_rounds 3 ?_
 rw [rounds_succ]
 go_wp2_with fail
 refine (H0 _).mono ?_
 rintro e w1 ⟨rfl,hb1⟩
 replace hS := hS.kept hb1
 clear ya yb yc yd
 obtain ⟨⟨ye,yf,-⟩,⟨yg,yh,-⟩,-⟩ := hS.cells
 go_wp2
 rw [rounds_succ]
 go_wp2_with fail
 refine (H1 _).mono ?_
 rintro e w2 ⟨rfl,hb2⟩
 replace hS := hS.kept hb2
 clear ye yf yg yh
 obtain ⟨⟨yi,yj,-⟩,⟨yk,yl,-⟩,-⟩ := hS.cells
 go_wp2
 go_ret
 exact ⟨rfl,hS.fr⟩
theorem spot_under : Tryz.prog.underlying 92 = some (.array 2 24) := by kernel_rfl
theorem word_is : (Tryz.prog.info? 24).isSome = true := by kernel_rfl
theorem word_info : ∃ i,Tryz.prog.info? 24 = some i := Option.isSome_iff_exists.1 word_is
theorem word_cells : Tryz.prog.cellsOf 24 = 1 := by kernel_rfl
theorem eq_spot (q r q' r' : Int) (W : World) :
  (Op.equalIn 10000 92 (.agg #[.int .u64 q,.int .u64 r]) (.agg #[.int .u64 q',.int .u64 r'])).run Tryz.prog W = .ok (q == q' && r == r') W := by
 obtain ⟨i,hi⟩ := word_info
 rw [show (10000 : Nat) = 9999 + 1 from rfl,run_equalIn_array W 9999 _ _ spot_under hi,word_cells]
 have hr : List.range 2 = [0,1] := rfl
 rw [hr]
 simp only [Op.eqItems]
 by_cases hq : q = q'
 ·by_cases hr : r = r'
  ·simp [go_sem,hq,hr,run_equalIn_int]
  ·simp [go_sem,hq,hr,run_equalIn_int]
 ·simp [go_sem,hq,run_equalIn_int]
theorem beside_end (E F b : Int) (d : Bool) (H0 : Tel 80 #[.agg #[.int .i64 E,.int .i64 F],.int .u64 b] (.int .i64 0)) (c : Int) (hc : (c == (5 : Int)) = false) (HC : Tel 37 #[.agg #[.int .i64 E,.int .i64 F],.int .u64 b] (.tuple #[.int .u8 c,.int .i64 0])) (en : Int) (HI : Tel 104 #[.agg #[.int .i64 E,.int .i64 F],.bool d] (.tuple #[.int .u64 en,.int .i64 0])) (q r : Int) (HP : Tel 61 #[.agg #[.int .i64 E,.int .i64 F],.int .u64 b] (.agg #[.int .u64 q,.int .u64 r])) (HQ : Tel 61 #[.agg #[.int .i64 E,.int .i64 F],.int .u64 en] (.agg #[.int .u64 q,.int .u64 r])) (w : World)  :
  Calls Tryz.prog 46 #[.agg #[.int .i64 E,.int .i64 F],.int .u64 b,.bool d] w fun e w' => e = .returned (.tuple #[.int .u64 0,.int .i64 60]) ∧ Below w.heap.size w w' := by
 go_enter Tryz.func46,Tryz.ntmps46
 go_wp2_with fail
 refine (check1_ok E F _ b H0 _ (by have := heap_alloc_new (w.alloc (.cells #[.int .i64 E,.int .i64 F] 23)) (.cells #[.int .u64 b] 24); simpa only [World.size_alloc] using this)).mono ?_
 rintro e w1 ⟨rfl,hb1⟩
 have hS : Fs w (w.alloc (.cells #[.int .i64 E,.int .i64 F] 23)) [⟨w.heap.size,#[.int .i64 E,.int .i64 F],23⟩] := Fs.one w _ _
 replace hS := ((hS.alloc #[.int .u64 b] 24).kept hb1).sub (fun x hx => List.mem_cons_of_mem _ hx)
 obtain ⟨⟨ya,yb,-⟩,-⟩ := hS.cells
 go_wp2_with fail
 refine (numbers1_yes E F c hc _ b HC _ (by have := heap_alloc_new w1 (.cells #[.int .u64 b] 24); simpa only [World.size_alloc] using this)).mono ?_
 rintro e w2 ⟨rfl,hb2⟩
 replace hS := ((hS.alloc #[.int .u64 b] 24).kept hb2).sub (fun x hx => List.mem_cons_of_mem _ hx)
 clear ya yb
 obtain ⟨⟨yc,yd,-⟩,-⟩ := hS.cells
 go_wp2_with fail
 refine (HI _).mono ?_
 rintro e w3 ⟨rfl,hb3⟩
 replace hS := hS.kept hb3
 clear yc yd
 obtain ⟨⟨ye,yf,-⟩,-⟩ := hS.cells
 go_wp2_with fail
 refine (HP _).mono ?_
 rintro e w4 ⟨rfl,hb4⟩
 replace hS := hS.kept hb4
 clear ye yf
 obtain ⟨⟨yg,yh,-⟩,-⟩ := hS.cells
 have hltw4_0 : w.heap.size < w4.heap.size := hS.lt 0 rfl
 replace hS := hS.alloc #[.int .u64 q,.int .u64 r] 92
 clear yg yh
 obtain ⟨⟨yi,yj,-⟩,⟨yk,yl,-⟩,-⟩ := hS.cells
 have hEq := eq_spot q r q r
 go_wp2_with fail
 refine wp_region_any (by kernel_rfl) ?_
 refine wpAny_det [some (37,.agg #[.int .u64 q,.int .u64 r]),some (38,.agg #[.int .i64 E,.int .i64 F]),some (39,.int .u64 en),some (40,.agg #[.int .u64 q,.int .u64 r]),some (41,.bool true)]
  (fun _ W9 => Fs w W9 [⟨w4.heap.size,#[.int .u64 q,.int .u64 r],92⟩,⟨w.heap.size,#[.int .i64 E,.int .i64 F],23⟩]) _ _ rfl (by kernel_rfl) rfl rfl ?_ ?_ (hS).drew
 ·intro l9 t9 W9 i9 hD hi9 hl9 hM
  obtain ⟨o9,ho9,hd9⟩ := (mem_ready.1 hi9).2
  have hin9 : i9 < 5 := by
   by_cases h : i9 < 5
   ·exact h
   ·rw [Array.getElem?_eq_none (by rw [hD.len]; simp; omega)] at hl9; cases hl9
  have hcase : i9 = 0 ∨ i9 = 1 ∨ i9 = 2 ∨ i9 = 3 ∨ i9 = 4 := by omega
  clear hin9
  rcases hcase with rfl | rfl | rfl | rfl | rfl
  ·cases ho9
   have r11 := hD.old 11 _ rfl rfl
   have hM0 := hM
   have Q_ := hM0.cellAt (b := w4.heap.size) (cs := #[.int .u64 q,.int .u64 r]) (t := 92) (by simp)
   have c9_0 := Q_ 0 _ rfl
   have c9_1 := Q_ 1 _ rfl
   clear Q_
   clear hM0
   refine wpOp_step rfl fun K hK => ?_
   go_simp
   exact hK _ _ ⟨rfl,hM⟩
  ·cases ho9
   have r3 := hD.old 3 _ rfl rfl
   have hM0 := hM
   have Q_ := hM0.cellAt (b := w.heap.size) (cs := #[.int .i64 E,.int .i64 F]) (t := 23) (by simp)
   have c9_0 := Q_ 0 _ rfl
   have c9_1 := Q_ 1 _ rfl
   clear Q_
   clear hM0
   refine wpOp_step rfl fun K hK => ?_
   go_simp
   exact hK _ _ ⟨rfl,hM⟩
  ·cases ho9
   have r9 := hD.old 9 _ rfl rfl
   refine wpOp_step rfl fun K hK => ?_
   go_simp
   exact hK _ _ ⟨rfl,hM⟩
  ·cases ho9
   have r38 := hD.od hd9 1 38 _ rfl (by simp)
   have r39 := hD.od hd9 2 39 _ rfl (by simp)
   refine wpOp_step rfl fun K hK => ?_
   go_simp
   go_wp2_with fail
   refine (HQ _).mono ?_
   rintro en w9 ⟨rfl,hb9⟩
   exact hK _ _ ⟨rfl,hM.kept hb9⟩
  ·cases ho9
   have r37 := hD.od hd9 0 37 _ rfl (by simp)
   have r40 := hD.od hd9 3 40 _ rfl (by simp)
   refine wpOp_step rfl fun K hK => ?_
   go_simp
   exact hK _ _ ⟨act_eq (by simp),hM⟩
 ·intro l9 W9 hl9 hM
  clear hS yi yj yk yl
  have hS := hM
  clear hM
  simp only [Puts.lay,List.setIfInBounds_toArray,List.set_cons_zero,List.set_cons_succ]
  obtain ⟨⟨ym,yn,-⟩,⟨yo,yp,-⟩,-⟩ := hS.cells
  clear hEq
  go_wp2
  go_ret2
  exact ⟨rfl,hS.fr⟩
theorem beside_up (E F b : Int) (H0 : Tel 80 #[.agg #[.int .i64 E,.int .i64 F],.int .u64 b] (.int .i64 0)) (c : Int) (hc : (c == (5 : Int)) = false) (HC : Tel 37 #[.agg #[.int .i64 E,.int .i64 F],.int .u64 b] (.tuple #[.int .u8 c,.int .i64 0])) (en : Int) (HI : Tel 104 #[.agg #[.int .i64 E,.int .i64 F],.bool false] (.tuple #[.int .u64 en,.int .i64 0])) (q r : Int) (HP : Tel 61 #[.agg #[.int .i64 E,.int .i64 F],.int .u64 b] (.agg #[.int .u64 q,.int .u64 r])) (q' r' : Int) (HQ : Tel 61 #[.agg #[.int .i64 E,.int .i64 F],.int .u64 en] (.agg #[.int .u64 q',.int .u64 r'])) (hne : (q == q' && r == r') = false) (p v : Int) (hp : -9223372036854775000 ≤ p) (hp2 : p ≤ 9223372036854775000) (neg : Bool) (hneg : (q == (1 : Int)) = neg) (HL : Tel 62 #[.agg #[.int .u64 q,.int .u64 r]] (.int .i64 p)) (HA : Tel 105 #[.agg #[.int .i64 E,.int .i64 F],.int .i64 (p + 1),.bool neg] (.int .u64 v)) (w : World)  :
  Calls Tryz.prog 46 #[.agg #[.int .i64 E,.int .i64 F],.int .u64 b,.bool false] w fun e w' => e = .returned (.tuple #[.int .u64 v,.int .i64 0]) ∧ Below w.heap.size w w' := by
 go_enter Tryz.func46,Tryz.ntmps46
 go_wp2_with fail
 refine (check1_ok E F _ b H0 _ (by have := heap_alloc_new (w.alloc (.cells #[.int .i64 E,.int .i64 F] 23)) (.cells #[.int .u64 b] 24); simpa only [World.size_alloc] using this)).mono ?_
 rintro e w1 ⟨rfl,hb1⟩
 have hS : Fs w (w.alloc (.cells #[.int .i64 E,.int .i64 F] 23)) [⟨w.heap.size,#[.int .i64 E,.int .i64 F],23⟩] := Fs.one w _ _
 replace hS := ((hS.alloc #[.int .u64 b] 24).kept hb1).sub (fun x hx => List.mem_cons_of_mem _ hx)
 obtain ⟨⟨ya,yb,-⟩,-⟩ := hS.cells
 go_wp2_with fail
 refine (numbers1_yes E F c hc _ b HC _ (by have := heap_alloc_new w1 (.cells #[.int .u64 b] 24); simpa only [World.size_alloc] using this)).mono ?_
 rintro e w2 ⟨rfl,hb2⟩
 replace hS := ((hS.alloc #[.int .u64 b] 24).kept hb2).sub (fun x hx => List.mem_cons_of_mem _ hx)
 clear ya yb
 obtain ⟨⟨yc,yd,-⟩,-⟩ := hS.cells
 go_wp2_with fail
 refine (HI _).mono ?_
 rintro e w3 ⟨rfl,hb3⟩
 replace hS := hS.kept hb3
 clear yc yd
 obtain ⟨⟨ye,yf,-⟩,-⟩ := hS.cells
 go_wp2_with fail
 refine (HP _).mono ?_
 rintro e w4 ⟨rfl,hb4⟩
 replace hS := hS.kept hb4
 clear ye yf
 obtain ⟨⟨yg,yh,-⟩,-⟩ := hS.cells
 have hltw4_0 : w.heap.size < w4.heap.size := hS.lt 0 rfl
 replace hS := hS.alloc #[.int .u64 q,.int .u64 r] 92
 clear yg yh
 obtain ⟨⟨yi,yj,-⟩,⟨yk,yl,-⟩,-⟩ := hS.cells
 have hEq := eq_spot q r q' r'
 go_wp2_with fail
 refine wp_region_any (by kernel_rfl) ?_
 refine wpAny_det [some (37,.agg #[.int .u64 q,.int .u64 r]),some (38,.agg #[.int .i64 E,.int .i64 F]),some (39,.int .u64 en),some (40,.agg #[.int .u64 q',.int .u64 r']),some (41,.bool false)]
  (fun _ W9 => Fs w W9 [⟨w4.heap.size,#[.int .u64 q,.int .u64 r],92⟩,⟨w.heap.size,#[.int .i64 E,.int .i64 F],23⟩]) _ _ rfl (by kernel_rfl) rfl rfl ?_ ?_ (hS).drew
 ·intro l9 t9 W9 i9 hD hi9 hl9 hM
  obtain ⟨o9,ho9,hd9⟩ := (mem_ready.1 hi9).2
  have hin9 : i9 < 5 := by
   by_cases h : i9 < 5
   ·exact h
   ·rw [Array.getElem?_eq_none (by rw [hD.len]; simp; omega)] at hl9; cases hl9
  have hcase : i9 = 0 ∨ i9 = 1 ∨ i9 = 2 ∨ i9 = 3 ∨ i9 = 4 := by omega
  clear hin9
  rcases hcase with rfl | rfl | rfl | rfl | rfl
  ·cases ho9
   have r11 := hD.old 11 _ rfl rfl
   have hM0 := hM
   have Q_ := hM0.cellAt (b := w4.heap.size) (cs := #[.int .u64 q,.int .u64 r]) (t := 92) (by simp)
   have c9_0 := Q_ 0 _ rfl
   have c9_1 := Q_ 1 _ rfl
   clear Q_
   clear hM0
   refine wpOp_step rfl fun K hK => ?_
   go_simp
   exact hK _ _ ⟨rfl,hM⟩
  ·cases ho9
   have r3 := hD.old 3 _ rfl rfl
   have hM0 := hM
   have Q_ := hM0.cellAt (b := w.heap.size) (cs := #[.int .i64 E,.int .i64 F]) (t := 23) (by simp)
   have c9_0 := Q_ 0 _ rfl
   have c9_1 := Q_ 1 _ rfl
   clear Q_
   clear hM0
   refine wpOp_step rfl fun K hK => ?_
   go_simp
   exact hK _ _ ⟨rfl,hM⟩
  ·cases ho9
   have r9 := hD.old 9 _ rfl rfl
   refine wpOp_step rfl fun K hK => ?_
   go_simp
   exact hK _ _ ⟨rfl,hM⟩
  ·cases ho9
   have r38 := hD.od hd9 1 38 _ rfl (by simp)
   have r39 := hD.od hd9 2 39 _ rfl (by simp)
   refine wpOp_step rfl fun K hK => ?_
   go_simp
   go_wp2_with fail
   refine (HQ _).mono ?_
   rintro en w9 ⟨rfl,hb9⟩
   exact hK _ _ ⟨rfl,hM.kept hb9⟩
  ·cases ho9
   have r37 := hD.od hd9 0 37 _ rfl (by simp)
   have r40 := hD.od hd9 3 40 _ rfl (by simp)
   refine wpOp_step rfl fun K hK => ?_
   go_simp
   exact hK _ _ ⟨act_eq (by rfl),hM⟩
 ·intro l9 W9 hl9 hM
  clear hS yi yj yk yl
  have hS := hM
  clear hM
  simp only [Puts.lay,List.setIfInBounds_toArray,List.set_cons_zero,List.set_cons_succ]
  obtain ⟨⟨ym,yn,-⟩,⟨yo,yp,-⟩,-⟩ := hS.cells
  clear hEq
  go_wp2_with fail
  refine wp_region_any (by kernel_rfl) ?_
  refine wpAny_det [some (52,.agg #[.int .i64 E,.int .i64 F]),some (53,.agg #[.int .u64 q,.int .u64 r]),some (54,.int .i64 p),some (55,.int .i64 (p + 1)),some (56,.bool neg),some (57,.int .u64 v),some (6,.int .u64 v),some (7,.int .i64 0)]
   (fun _ W9 => Fs w W9 [⟨w4.heap.size,#[.int .u64 q,.int .u64 r],92⟩,⟨w.heap.size,#[.int .i64 E,.int .i64 F],23⟩]) _ _ rfl (by kernel_rfl) rfl rfl ?_ ?_ (hS).drew
  ·intro l9 t9 W9 i9 hD hi9 hl9 hM
   obtain ⟨o9,ho9,hd9⟩ := (mem_ready.1 hi9).2
   have hin9 : i9 < 8 := by
    by_cases h : i9 < 8
    ·exact h
    ·rw [Array.getElem?_eq_none (by rw [hD.len]; simp; omega)] at hl9; cases hl9
   have hcase : i9 = 0 ∨ i9 = 1 ∨ i9 = 2 ∨ i9 = 3 ∨ i9 = 4 ∨ i9 = 5 ∨ i9 = 6 ∨ i9 = 7 := by omega
   clear hin9
   rcases hcase with rfl | rfl | rfl | rfl | rfl | rfl | rfl | rfl
   ·cases ho9
    have r3 := hD.old 3 _ rfl rfl
    have hM0 := hM
    have Q_ := hM0.cellAt (b := w.heap.size) (cs := #[.int .i64 E,.int .i64 F]) (t := 23) (by simp)
    have c9_0 := Q_ 0 _ rfl
    have c9_1 := Q_ 1 _ rfl
    clear Q_
    clear hM0
    refine wpOp_step rfl fun K hK => ?_
    go_simp
    exact hK _ _ ⟨rfl,hM⟩
   ·cases ho9
    have r11 := hD.old 11 _ rfl rfl
    have hM0 := hM
    have Q_ := hM0.cellAt (b := w4.heap.size) (cs := #[.int .u64 q,.int .u64 r]) (t := 92) (by simp)
    have c9_0 := Q_ 0 _ rfl
    have c9_1 := Q_ 1 _ rfl
    clear Q_
    clear hM0
    refine wpOp_step rfl fun K hK => ?_
    go_simp
    exact hK _ _ ⟨rfl,hM⟩
   ·cases ho9
    have r53 := hD.od hd9 1 53 _ rfl (by simp)
    refine wpOp_step rfl fun K hK => ?_
    go_simp
    go_wp2_with fail
    refine (HL _).mono ?_
    rintro en w9 ⟨rfl,hb9⟩
    exact hK _ _ ⟨rfl,hM.kept hb9⟩
   ·cases ho9
    have r54 := hD.od hd9 2 54 _ rfl (by simp)
    refine wpOp_step rfl fun K hK => ?_
    go_simp
    exact hK _ _ ⟨act_eq (by (show Value.int _ _ = Value.int _ _; congr 1; (first | rfl | omega | (rw [IntKind.wrap_i64]; omega) | (rw [IntKind.wrap_u64]; omega)))),hM⟩
   ·cases ho9
    have r12 := hD.old 12 _ rfl rfl
    refine wpOp_step rfl fun K hK => ?_
    go_simp
    exact hK _ _ ⟨rfl,hM⟩
   ·cases ho9
    have r52 := hD.od hd9 0 52 _ rfl (by simp)
    have r55 := hD.od hd9 3 55 _ rfl (by simp)
    have r56 := hD.od hd9 4 56 _ rfl (by simp)
    refine wpOp_step rfl fun K hK => ?_
    go_simp
    go_wp2_with fail
    refine (HA _).mono ?_
    rintro en w9 ⟨rfl,hb9⟩
    exact hK _ _ ⟨rfl,hM.kept hb9⟩
   ·cases ho9
    have r57 := hD.od hd9 5 57 _ rfl (by simp)
    refine wpOp_step rfl fun K hK => ?_
    go_simp
    exact hK _ _ ⟨rfl,hM⟩
   ·cases ho9
    refine wpOp_step rfl fun K hK => ?_
    go_simp
    exact hK _ _ ⟨rfl,hM⟩
  ·intro l9 W9 hl9 hM
   clear hS ym yn yo yp
   have hS := hM
   clear hM
   simp only [Puts.lay,List.setIfInBounds_toArray,List.set_cons_zero,List.set_cons_succ]
   obtain ⟨⟨yq,yr,-⟩,⟨ys,yt,-⟩,-⟩ := hS.cells
   go_wp2
   go_ret2
   exact ⟨rfl,hS.fr⟩
theorem Up_is (E F b x y : Int) (H : Tel 46 #[.agg #[.int .i64 E,.int .i64 F],.int .u64 b,.bool false] (.tuple #[.int .u64 x,.int .i64 y])) (w : World)  :
  Calls Tryz.prog 10 #[.agg #[.int .i64 E,.int .i64 F],.int .u64 b] w fun e w' => e = .returned (.tuple #[.int .u64 x,.int .i64 y]) ∧ Below w.heap.size w w' := by
 go_enter Tryz.func10,Tryz.ntmps10
 go_wp2_with fail
 refine (H _).mono ?_
 rintro e w1 ⟨rfl,hb1⟩
 have hS := (Fs.one w _ _).kept hb1
 obtain ⟨⟨ya,yb,-⟩,-⟩ := hS.cells
 go_wp2
 go_ret2
 exact ⟨rfl,hS.fr⟩
theorem notNaN_any (a : Int) (w : World)  :
  Calls Tryz.prog 121 #[.int .i64 a] w fun e w' => e = .returned (.bool false) ∧ Below w.heap.size w w' := by
 go_enter Tryz.func121,Tryz.ntmps121
 go_wp2
 go_ret
 exact ⟨rfl,(Fs.begin w).fr⟩
theorem ncompare_lt (a b : Int) (h : a < b) (w : World)  :
  Calls Tryz.prog 65 #[.int .i64 a,.int .i64 b] w fun e w' => e = .returned (.int .i64 (-1)) ∧ Below w.heap.size w w' := by
 go_enter Tryz.func65,Tryz.ntmps65
 go_wp2_with fail
 refine (notNaN_any _ _).mono ?_
 rintro e w1 ⟨rfl,hb1⟩
 have hS := (Fs.begin w).kept hb1
 go_wp2_with fail
 refine (notNaN_any _ _).mono ?_
 rintro e w2 ⟨rfl,hb2⟩
 replace hS := hS.kept hb2
 go_wp2
 go_ret
 exact ⟨rfl,hS.fr⟩
theorem ncompare_eq (a b : Int) (h : a = b) (w : World)  :
  Calls Tryz.prog 65 #[.int .i64 a,.int .i64 b] w fun e w' => e = .returned (.int .i64 0) ∧ Below w.heap.size w w' := by
 subst h
 go_enter Tryz.func65,Tryz.ntmps65
 go_wp2_with fail
 refine (notNaN_any _ _).mono ?_
 rintro e w1 ⟨rfl,hb1⟩
 have hS := (Fs.begin w).kept hb1
 go_wp2_with fail
 refine (notNaN_any _ _).mono ?_
 rintro e w2 ⟨rfl,hb2⟩
 replace hS := hS.kept hb2
 go_wp2
 go_ret
 exact ⟨rfl,hS.fr⟩
theorem ncompare_gt (a b : Int) (h : b < a) (w : World)  :
  Calls Tryz.prog 65 #[.int .i64 a,.int .i64 b] w fun e w' => e = .returned (.int .i64 1) ∧ Below w.heap.size w w' := by
 have h2 : ¬ a < b := by omega
 go_enter Tryz.func65,Tryz.ntmps65
 go_wp2_with fail
 refine (notNaN_any _ _).mono ?_
 rintro e w1 ⟨rfl,hb1⟩
 have hS := (Fs.begin w).kept hb1
 go_wp2_with fail
 refine (notNaN_any _ _).mono ?_
 rintro e w2 ⟨rfl,hb2⟩
 replace hS := hS.kept hb2
 go_wp2
 go_ret
 exact ⟨rfl,hS.fr⟩
def cm3 (a b : Int) : Int := if a < b then -1 else if b < a then 1 else 0
theorem ncompare_any (a b : Int) (w : World) : Calls Tryz.prog 65 #[.int .i64 a,.int .i64 b] w fun e w' => e = .returned (.int .i64 (cm3 a b)) ∧ Below w.heap.size w w' := by
 unfold cm3
 by_cases h : a < b
 ·rw [if_pos h]; exact ncompare_lt a b h w
 ·rw [if_neg h]
  by_cases h2 : b < a
  ·rw [if_pos h2]; exact ncompare_gt a b h2 w
  ·rw [if_neg h2]; exact ncompare_eq a b (by omega) w
theorem Steps_err1 (E F a b : Int) (c : Int) (hc : (c == (0 : Int)) = false) (H0 : Tel 80 #[.agg #[.int .i64 E,.int .i64 F],.int .u64 a] (.int .i64 c))  (w : World)  :
  Calls Tryz.prog 22 #[.agg #[.int .i64 E,.int .i64 F],.int .u64 a,.int .u64 b] w fun e w' => e = .returned (.tuple #[.bool false,.int .u64 0,.int .i64 c]) ∧ Below w.heap.size w w' := by
 go_enter Tryz.func22,Tryz.ntmps22
 go_wp2_with fail
 refine (check2_err1 E F c hc _ a b H0 _ (by have := heap_alloc_new (w.alloc (.cells #[.int .i64 E,.int .i64 F] 23)) (.cells #[.int .u64 a,.int .u64 b] 24); simpa only [World.size_alloc] using this)).mono ?_
 rintro e w1 ⟨rfl,hb1⟩
 have hS : Fs w (w.alloc (.cells #[.int .i64 E,.int .i64 F] 23)) [⟨w.heap.size,#[.int .i64 E,.int .i64 F],23⟩] := Fs.one w _ _
 replace hS := ((hS.alloc #[.int .u64 a,.int .u64 b] 24).kept hb1).sub (fun x hx => List.mem_cons_of_mem _ hx)
 obtain ⟨⟨ya,yb,-⟩,-⟩ := hS.cells
 go_wp2
 go_ret3
 exact ⟨rfl,hS.fr⟩
theorem Steps_err2 (E F a b : Int) (c : Int) (hc : (c == (0 : Int)) = false) (H0 : Tel 80 #[.agg #[.int .i64 E,.int .i64 F],.int .u64 a] (.int .i64 0)) (H1 : Tel 80 #[.agg #[.int .i64 E,.int .i64 F],.int .u64 b] (.int .i64 c))  (w : World)  :
  Calls Tryz.prog 22 #[.agg #[.int .i64 E,.int .i64 F],.int .u64 a,.int .u64 b] w fun e w' => e = .returned (.tuple #[.bool false,.int .u64 0,.int .i64 c]) ∧ Below w.heap.size w w' := by
 go_enter Tryz.func22,Tryz.ntmps22
 go_wp2_with fail
 refine (check2_err2 E F c hc _ a b H0 H1 _ (by have := heap_alloc_new (w.alloc (.cells #[.int .i64 E,.int .i64 F] 23)) (.cells #[.int .u64 a,.int .u64 b] 24); simpa only [World.size_alloc] using this)).mono ?_
 rintro e w1 ⟨rfl,hb1⟩
 have hS : Fs w (w.alloc (.cells #[.int .i64 E,.int .i64 F] 23)) [⟨w.heap.size,#[.int .i64 E,.int .i64 F],23⟩] := Fs.one w _ _
 replace hS := ((hS.alloc #[.int .u64 a,.int .u64 b] 24).kept hb1).sub (fun x hx => List.mem_cons_of_mem _ hx)
 obtain ⟨⟨ya,yb,-⟩,-⟩ := hS.cells
 go_wp2
 go_ret3
 exact ⟨rfl,hS.fr⟩
theorem Steps_nan1 (E F a b : Int) (H0 : Tel 80 #[.agg #[.int .i64 E,.int .i64 F],.int .u64 a] (.int .i64 0)) (H1 : Tel 80 #[.agg #[.int .i64 E,.int .i64 F],.int .u64 b] (.int .i64 0)) (HC : Tel 37 #[.agg #[.int .i64 E,.int .i64 F],.int .u64 a] (.tuple #[.int .u8 5,.int .i64 0]))  (w : World)  :
  Calls Tryz.prog 22 #[.agg #[.int .i64 E,.int .i64 F],.int .u64 a,.int .u64 b] w fun e w' => e = .returned (.tuple #[.bool false,.int .u64 0,.int .i64 2]) ∧ Below w.heap.size w w' := by
 go_enter Tryz.func22,Tryz.ntmps22
 go_wp2_with fail
 refine (check2_ok E F _ a b H0 H1 _ (by have := heap_alloc_new (w.alloc (.cells #[.int .i64 E,.int .i64 F] 23)) (.cells #[.int .u64 a,.int .u64 b] 24); simpa only [World.size_alloc] using this)).mono ?_
 rintro e w1 ⟨rfl,hb1⟩
 have hS : Fs w (w.alloc (.cells #[.int .i64 E,.int .i64 F] 23)) [⟨w.heap.size,#[.int .i64 E,.int .i64 F],23⟩] := Fs.one w _ _
 replace hS := ((hS.alloc #[.int .u64 a,.int .u64 b] 24).kept hb1).sub (fun x hx => List.mem_cons_of_mem _ hx)
 obtain ⟨⟨ya,yb,-⟩,-⟩ := hS.cells
 go_wp2_with fail
 refine (numbers2_no1 E F _ a b HC _ (by have := heap_alloc_new w1 (.cells #[.int .u64 a,.int .u64 b] 24); simpa only [World.size_alloc] using this)).mono ?_
 rintro e w2 ⟨rfl,hb2⟩
 replace hS := ((hS.alloc #[.int .u64 a,.int .u64 b] 24).kept hb2).sub (fun x hx => List.mem_cons_of_mem _ hx)
 clear ya yb
 obtain ⟨⟨yc,yd,-⟩,-⟩ := hS.cells
 go_wp2
 go_ret3
 exact ⟨rfl,hS.fr⟩
theorem Steps_nan2 (E F a b : Int) (c1 : Int) (h1 : (c1 == (5 : Int)) = false) (H0 : Tel 80 #[.agg #[.int .i64 E,.int .i64 F],.int .u64 a] (.int .i64 0)) (H1 : Tel 80 #[.agg #[.int .i64 E,.int .i64 F],.int .u64 b] (.int .i64 0)) (HC : Tel 37 #[.agg #[.int .i64 E,.int .i64 F],.int .u64 a] (.tuple #[.int .u8 c1,.int .i64 0])) (HD : Tel 37 #[.agg #[.int .i64 E,.int .i64 F],.int .u64 b] (.tuple #[.int .u8 5,.int .i64 0]))  (w : World)  :
  Calls Tryz.prog 22 #[.agg #[.int .i64 E,.int .i64 F],.int .u64 a,.int .u64 b] w fun e w' => e = .returned (.tuple #[.bool false,.int .u64 0,.int .i64 2]) ∧ Below w.heap.size w w' := by
 go_enter Tryz.func22,Tryz.ntmps22
 go_wp2_with fail
 refine (check2_ok E F _ a b H0 H1 _ (by have := heap_alloc_new (w.alloc (.cells #[.int .i64 E,.int .i64 F] 23)) (.cells #[.int .u64 a,.int .u64 b] 24); simpa only [World.size_alloc] using this)).mono ?_
 rintro e w1 ⟨rfl,hb1⟩
 have hS : Fs w (w.alloc (.cells #[.int .i64 E,.int .i64 F] 23)) [⟨w.heap.size,#[.int .i64 E,.int .i64 F],23⟩] := Fs.one w _ _
 replace hS := ((hS.alloc #[.int .u64 a,.int .u64 b] 24).kept hb1).sub (fun x hx => List.mem_cons_of_mem _ hx)
 obtain ⟨⟨ya,yb,-⟩,-⟩ := hS.cells
 go_wp2_with fail
 refine (numbers2_no2 E F c1 h1 _ a b HC HD _ (by have := heap_alloc_new w1 (.cells #[.int .u64 a,.int .u64 b] 24); simpa only [World.size_alloc] using this)).mono ?_
 rintro e w2 ⟨rfl,hb2⟩
 replace hS := ((hS.alloc #[.int .u64 a,.int .u64 b] 24).kept hb2).sub (fun x hx => List.mem_cons_of_mem _ hx)
 clear ya yb
 obtain ⟨⟨yc,yd,-⟩,-⟩ := hS.cells
 go_wp2
 go_ret3
 exact ⟨rfl,hS.fr⟩
theorem Cmp_err1 (E F a b : Int) (c : Int) (hc : (c == (0 : Int)) = false) (H0 : Tel 80 #[.agg #[.int .i64 E,.int .i64 F],.int .u64 a] (.int .i64 c))  (w : World)  :
  Calls Tryz.prog 18 #[.agg #[.int .i64 E,.int .i64 F],.int .u64 a,.int .u64 b] w fun e w' => e = .returned (.tuple #[.int .i64 0,.bool false,.int .i64 c]) ∧ Below w.heap.size w w' := by
 go_enter Tryz.func18,Tryz.ntmps18
 go_wp2_with fail
 refine (check2_err1 E F c hc _ a b H0 _ (by have := heap_alloc_new (w.alloc (.cells #[.int .i64 E,.int .i64 F] 23)) (.cells #[.int .u64 a,.int .u64 b] 24); simpa only [World.size_alloc] using this)).mono ?_
 rintro e w1 ⟨rfl,hb1⟩
 have hS : Fs w (w.alloc (.cells #[.int .i64 E,.int .i64 F] 23)) [⟨w.heap.size,#[.int .i64 E,.int .i64 F],23⟩] := Fs.one w _ _
 replace hS := ((hS.alloc #[.int .u64 a,.int .u64 b] 24).kept hb1).sub (fun x hx => List.mem_cons_of_mem _ hx)
 obtain ⟨⟨ya,yb,-⟩,-⟩ := hS.cells
 go_wp2
 go_ret3
 exact ⟨rfl,hS.fr⟩
theorem Cmp_err2 (E F a b : Int) (c : Int) (hc : (c == (0 : Int)) = false) (H0 : Tel 80 #[.agg #[.int .i64 E,.int .i64 F],.int .u64 a] (.int .i64 0)) (H1 : Tel 80 #[.agg #[.int .i64 E,.int .i64 F],.int .u64 b] (.int .i64 c))  (w : World)  :
  Calls Tryz.prog 18 #[.agg #[.int .i64 E,.int .i64 F],.int .u64 a,.int .u64 b] w fun e w' => e = .returned (.tuple #[.int .i64 0,.bool false,.int .i64 c]) ∧ Below w.heap.size w w' := by
 go_enter Tryz.func18,Tryz.ntmps18
 go_wp2_with fail
 refine (check2_err2 E F c hc _ a b H0 H1 _ (by have := heap_alloc_new (w.alloc (.cells #[.int .i64 E,.int .i64 F] 23)) (.cells #[.int .u64 a,.int .u64 b] 24); simpa only [World.size_alloc] using this)).mono ?_
 rintro e w1 ⟨rfl,hb1⟩
 have hS : Fs w (w.alloc (.cells #[.int .i64 E,.int .i64 F] 23)) [⟨w.heap.size,#[.int .i64 E,.int .i64 F],23⟩] := Fs.one w _ _
 replace hS := ((hS.alloc #[.int .u64 a,.int .u64 b] 24).kept hb1).sub (fun x hx => List.mem_cons_of_mem _ hx)
 obtain ⟨⟨ya,yb,-⟩,-⟩ := hS.cells
 go_wp2
 go_ret3
 exact ⟨rfl,hS.fr⟩
theorem Cmp_nan1 (E F a b : Int) (H0 : Tel 80 #[.agg #[.int .i64 E,.int .i64 F],.int .u64 a] (.int .i64 0)) (H1 : Tel 80 #[.agg #[.int .i64 E,.int .i64 F],.int .u64 b] (.int .i64 0)) (HC : Tel 37 #[.agg #[.int .i64 E,.int .i64 F],.int .u64 a] (.tuple #[.int .u8 5,.int .i64 0]))  (w : World)  :
  Calls Tryz.prog 18 #[.agg #[.int .i64 E,.int .i64 F],.int .u64 a,.int .u64 b] w fun e w' => e = .returned (.tuple #[.int .i64 0,.bool false,.int .i64 0]) ∧ Below w.heap.size w w' := by
 go_enter Tryz.func18,Tryz.ntmps18
 go_wp2_with fail
 refine (check2_ok E F _ a b H0 H1 _ (by have := heap_alloc_new (w.alloc (.cells #[.int .i64 E,.int .i64 F] 23)) (.cells #[.int .u64 a,.int .u64 b] 24); simpa only [World.size_alloc] using this)).mono ?_
 rintro e w1 ⟨rfl,hb1⟩
 have hS : Fs w (w.alloc (.cells #[.int .i64 E,.int .i64 F] 23)) [⟨w.heap.size,#[.int .i64 E,.int .i64 F],23⟩] := Fs.one w _ _
 replace hS := ((hS.alloc #[.int .u64 a,.int .u64 b] 24).kept hb1).sub (fun x hx => List.mem_cons_of_mem _ hx)
 obtain ⟨⟨ya,yb,-⟩,-⟩ := hS.cells
 go_wp2_with fail
 refine (numbers2_no1 E F _ a b HC _ (by have := heap_alloc_new w1 (.cells #[.int .u64 a,.int .u64 b] 24); simpa only [World.size_alloc] using this)).mono ?_
 rintro e w2 ⟨rfl,hb2⟩
 replace hS := ((hS.alloc #[.int .u64 a,.int .u64 b] 24).kept hb2).sub (fun x hx => List.mem_cons_of_mem _ hx)
 clear ya yb
 obtain ⟨⟨yc,yd,-⟩,-⟩ := hS.cells
 go_wp2
 go_ret3
 exact ⟨rfl,hS.fr⟩
theorem Cmp_nan2 (E F a b : Int) (c1 : Int) (h1 : (c1 == (5 : Int)) = false) (H0 : Tel 80 #[.agg #[.int .i64 E,.int .i64 F],.int .u64 a] (.int .i64 0)) (H1 : Tel 80 #[.agg #[.int .i64 E,.int .i64 F],.int .u64 b] (.int .i64 0)) (HC : Tel 37 #[.agg #[.int .i64 E,.int .i64 F],.int .u64 a] (.tuple #[.int .u8 c1,.int .i64 0])) (HD : Tel 37 #[.agg #[.int .i64 E,.int .i64 F],.int .u64 b] (.tuple #[.int .u8 5,.int .i64 0]))  (w : World)  :
  Calls Tryz.prog 18 #[.agg #[.int .i64 E,.int .i64 F],.int .u64 a,.int .u64 b] w fun e w' => e = .returned (.tuple #[.int .i64 0,.bool false,.int .i64 0]) ∧ Below w.heap.size w w' := by
 go_enter Tryz.func18,Tryz.ntmps18
 go_wp2_with fail
 refine (check2_ok E F _ a b H0 H1 _ (by have := heap_alloc_new (w.alloc (.cells #[.int .i64 E,.int .i64 F] 23)) (.cells #[.int .u64 a,.int .u64 b] 24); simpa only [World.size_alloc] using this)).mono ?_
 rintro e w1 ⟨rfl,hb1⟩
 have hS : Fs w (w.alloc (.cells #[.int .i64 E,.int .i64 F] 23)) [⟨w.heap.size,#[.int .i64 E,.int .i64 F],23⟩] := Fs.one w _ _
 replace hS := ((hS.alloc #[.int .u64 a,.int .u64 b] 24).kept hb1).sub (fun x hx => List.mem_cons_of_mem _ hx)
 obtain ⟨⟨ya,yb,-⟩,-⟩ := hS.cells
 go_wp2_with fail
 refine (numbers2_no2 E F c1 h1 _ a b HC HD _ (by have := heap_alloc_new w1 (.cells #[.int .u64 a,.int .u64 b] 24); simpa only [World.size_alloc] using this)).mono ?_
 rintro e w2 ⟨rfl,hb2⟩
 replace hS := ((hS.alloc #[.int .u64 a,.int .u64 b] 24).kept hb2).sub (fun x hx => List.mem_cons_of_mem _ hx)
 clear ya yb
 obtain ⟨⟨yc,yd,-⟩,-⟩ := hS.cells
 go_wp2
 go_ret3
 exact ⟨rfl,hS.fr⟩
theorem Order_err1 (E F a b : Int) (c : Int) (hc : (c == (0 : Int)) = false) (H0 : Tel 80 #[.agg #[.int .i64 E,.int .i64 F],.int .u64 a] (.int .i64 c))  (w : World)  :
  Calls Tryz.prog 20 #[.agg #[.int .i64 E,.int .i64 F],.int .u64 a,.int .u64 b] w fun e w' => e = .returned (.tuple #[.int .i64 0,.int .i64 c]) ∧ Below w.heap.size w w' := by
 go_enter Tryz.func20,Tryz.ntmps20
 go_wp2_with fail
 refine (check2_err1 E F c hc _ a b H0 _ (by have := heap_alloc_new (w.alloc (.cells #[.int .i64 E,.int .i64 F] 23)) (.cells #[.int .u64 a,.int .u64 b] 24); simpa only [World.size_alloc] using this)).mono ?_
 rintro e w1 ⟨rfl,hb1⟩
 have hS : Fs w (w.alloc (.cells #[.int .i64 E,.int .i64 F] 23)) [⟨w.heap.size,#[.int .i64 E,.int .i64 F],23⟩] := Fs.one w _ _
 replace hS := ((hS.alloc #[.int .u64 a,.int .u64 b] 24).kept hb1).sub (fun x hx => List.mem_cons_of_mem _ hx)
 obtain ⟨⟨ya,yb,-⟩,-⟩ := hS.cells
 go_wp2
 go_ret2
 exact ⟨rfl,hS.fr⟩
theorem Order_err2 (E F a b : Int) (c : Int) (hc : (c == (0 : Int)) = false) (H0 : Tel 80 #[.agg #[.int .i64 E,.int .i64 F],.int .u64 a] (.int .i64 0)) (H1 : Tel 80 #[.agg #[.int .i64 E,.int .i64 F],.int .u64 b] (.int .i64 c))  (w : World)  :
  Calls Tryz.prog 20 #[.agg #[.int .i64 E,.int .i64 F],.int .u64 a,.int .u64 b] w fun e w' => e = .returned (.tuple #[.int .i64 0,.int .i64 c]) ∧ Below w.heap.size w w' := by
 go_enter Tryz.func20,Tryz.ntmps20
 go_wp2_with fail
 refine (check2_err2 E F c hc _ a b H0 H1 _ (by have := heap_alloc_new (w.alloc (.cells #[.int .i64 E,.int .i64 F] 23)) (.cells #[.int .u64 a,.int .u64 b] 24); simpa only [World.size_alloc] using this)).mono ?_
 rintro e w1 ⟨rfl,hb1⟩
 have hS : Fs w (w.alloc (.cells #[.int .i64 E,.int .i64 F] 23)) [⟨w.heap.size,#[.int .i64 E,.int .i64 F],23⟩] := Fs.one w _ _
 replace hS := ((hS.alloc #[.int .u64 a,.int .u64 b] 24).kept hb1).sub (fun x hx => List.mem_cons_of_mem _ hx)
 obtain ⟨⟨ya,yb,-⟩,-⟩ := hS.cells
 go_wp2
 go_ret2
 exact ⟨rfl,hS.fr⟩
theorem Order_ok (E F a b : Int) (H0 : Tel 80 #[.agg #[.int .i64 E,.int .i64 F],.int .u64 a] (.int .i64 0)) (H1 : Tel 80 #[.agg #[.int .i64 E,.int .i64 F],.int .u64 b] (.int .i64 0)) (x y : Int) (HX : Tel 66 #[.agg #[.int .i64 E,.int .i64 F],.int .u64 a] (.int .i64 x)) (HY : Tel 66 #[.agg #[.int .i64 E,.int .i64 F],.int .u64 b] (.int .i64 y)) (w : World)  :
  Calls Tryz.prog 20 #[.agg #[.int .i64 E,.int .i64 F],.int .u64 a,.int .u64 b] w fun e w' => e = .returned (.tuple #[.int .i64 (cm3 x y),.int .i64 0]) ∧ Below w.heap.size w w' := by
 go_enter Tryz.func20,Tryz.ntmps20
 go_wp2_with fail
 refine (check2_ok E F _ a b H0 H1 _ (by have := heap_alloc_new (w.alloc (.cells #[.int .i64 E,.int .i64 F] 23)) (.cells #[.int .u64 a,.int .u64 b] 24); simpa only [World.size_alloc] using this)).mono ?_
 rintro e w1 ⟨rfl,hb1⟩
 have hS : Fs w (w.alloc (.cells #[.int .i64 E,.int .i64 F] 23)) [⟨w.heap.size,#[.int .i64 E,.int .i64 F],23⟩] := Fs.one w _ _
 replace hS := ((hS.alloc #[.int .u64 a,.int .u64 b] 24).kept hb1).sub (fun x hx => List.mem_cons_of_mem _ hx)
 obtain ⟨⟨ya,yb,-⟩,-⟩ := hS.cells
 go_wp2_with fail
 refine wp_region_any (by kernel_rfl) ?_
 refine wpAny_det [some (17,.agg #[.int .i64 E,.int .i64 F]),some (18,.int .u64 a),some (19,.int .i64 x),some (20,.agg #[.int .i64 E,.int .i64 F]),some (21,.int .u64 b),some (22,.int .i64 y),some (23,.int .i64 (cm3 x y)),some (6,.int .i64 (cm3 x y)),some (7,.int .i64 0)]
  (fun _ W9 => Fs w W9 [⟨w.heap.size,#[.int .i64 E,.int .i64 F],23⟩]) _ _ rfl (by kernel_rfl) rfl rfl ?_ ?_ (hS).drew
 ·intro l9 t9 W9 i9 hD hi9 hl9 hM
  obtain ⟨o9,ho9,hd9⟩ := (mem_ready.1 hi9).2
  have hin9 : i9 < 9 := by
   by_cases h : i9 < 9
   ·exact h
   ·rw [Array.getElem?_eq_none (by rw [hD.len]; simp; omega)] at hl9; cases hl9
  have hcase : i9 = 0 ∨ i9 = 1 ∨ i9 = 2 ∨ i9 = 3 ∨ i9 = 4 ∨ i9 = 5 ∨ i9 = 6 ∨ i9 = 7 ∨ i9 = 8 := by omega
  clear hin9
  rcases hcase with rfl | rfl | rfl | rfl | rfl | rfl | rfl | rfl | rfl
  ·cases ho9
   have r3 := hD.old 3 _ rfl rfl
   have hM0 := hM
   have Q_ := hM0.cellAt (b := w.heap.size) (cs := #[.int .i64 E,.int .i64 F]) (t := 23) (by simp)
   have c9_0 := Q_ 0 _ rfl
   have c9_1 := Q_ 1 _ rfl
   clear Q_
   clear hM0
   refine wpOp_step rfl fun K hK => ?_
   go_simp
   exact hK _ _ ⟨rfl,hM⟩
  ·cases ho9
   have r1 := hD.old 1 _ rfl rfl
   refine wpOp_step rfl fun K hK => ?_
   go_simp
   exact hK _ _ ⟨rfl,hM⟩
  ·cases ho9
   have r17 := hD.od hd9 0 17 _ rfl (by simp)
   have r18 := hD.od hd9 1 18 _ rfl (by simp)
   refine wpOp_step rfl fun K hK => ?_
   go_simp
   go_wp2_with fail
   refine (HX _).mono ?_
   rintro en w9 ⟨rfl,hb9⟩
   exact hK _ _ ⟨rfl,hM.kept hb9⟩
  ·cases ho9
   have r3 := hD.old 3 _ rfl rfl
   have hM0 := hM
   have Q_ := hM0.cellAt (b := w.heap.size) (cs := #[.int .i64 E,.int .i64 F]) (t := 23) (by simp)
   have c9_0 := Q_ 0 _ rfl
   have c9_1 := Q_ 1 _ rfl
   clear Q_
   clear hM0
   refine wpOp_step rfl fun K hK => ?_
   go_simp
   exact hK _ _ ⟨rfl,hM⟩
  ·cases ho9
   have r2 := hD.old 2 _ rfl rfl
   refine wpOp_step rfl fun K hK => ?_
   go_simp
   exact hK _ _ ⟨rfl,hM⟩
  ·cases ho9
   have r20 := hD.od hd9 3 20 _ rfl (by simp)
   have r21 := hD.od hd9 4 21 _ rfl (by simp)
   refine wpOp_step rfl fun K hK => ?_
   go_simp
   go_wp2_with fail
   refine (HY _).mono ?_
   rintro en w9 ⟨rfl,hb9⟩
   exact hK _ _ ⟨rfl,hM.kept hb9⟩
  ·cases ho9
   have r19 := hD.od hd9 2 19 _ rfl (by simp)
   have r22 := hD.od hd9 5 22 _ rfl (by simp)
   refine wpOp_step rfl fun K hK => ?_
   go_simp
   go_wp2_with fail
   refine (ncompare_any _ _ _).mono ?_
   rintro en w9 ⟨rfl,hb9⟩
   exact hK _ _ ⟨rfl,hM.kept hb9⟩
  ·cases ho9
   have r23 := hD.od hd9 6 23 _ rfl (by simp)
   refine wpOp_step rfl fun K hK => ?_
   go_simp
   exact hK _ _ ⟨rfl,hM⟩
  ·cases ho9
   refine wpOp_step rfl fun K hK => ?_
   go_simp
   exact hK _ _ ⟨rfl,hM⟩
 ·intro l9 W9 hl9 hM
  clear hS ya yb
  have hS := hM
  clear hM
  simp only [Puts.lay,List.setIfInBounds_toArray,List.set_cons_zero,List.set_cons_succ]
  obtain ⟨⟨yc,yd,-⟩,-⟩ := hS.cells
  go_wp2
  go_ret2
  exact ⟨rfl,hS.fr⟩
theorem Steps_down (E F a b : Int) (c1 : Int) (h1 : (c1 == (5 : Int)) = false) (c2 : Int) (h2 : (c2 == (5 : Int)) = false) (H0 : Tel 80 #[.agg #[.int .i64 E,.int .i64 F],.int .u64 a] (.int .i64 0)) (H1 : Tel 80 #[.agg #[.int .i64 E,.int .i64 F],.int .u64 b] (.int .i64 0)) (HC : Tel 37 #[.agg #[.int .i64 E,.int .i64 F],.int .u64 a] (.tuple #[.int .u8 c1,.int .i64 0])) (HD : Tel 37 #[.agg #[.int .i64 E,.int .i64 F],.int .u64 b] (.tuple #[.int .u8 c2,.int .i64 0])) (qa ra qb rb x y : Int) (HP : Tel 61 #[.agg #[.int .i64 E,.int .i64 F],.int .u64 a] (.agg #[.int .u64 qa,.int .u64 ra])) (HQ : Tel 61 #[.agg #[.int .i64 E,.int .i64 F],.int .u64 b] (.agg #[.int .u64 qb,.int .u64 rb])) (HX : Tel 62 #[.agg #[.int .u64 qa,.int .u64 ra]] (.int .i64 x)) (HY : Tel 62 #[.agg #[.int .u64 qb,.int .u64 rb]] (.int .i64 y)) (h : y < x) (hx : -9223372036854775808 ≤ x) (hx2 : x < 9223372036854775808) (hy : -9223372036854775808 ≤ y) (hy2 : y < 9223372036854775808) (n : Int) (hn : n = x - y) (w : World)  :
  Calls Tryz.prog 22 #[.agg #[.int .i64 E,.int .i64 F],.int .u64 a,.int .u64 b] w fun e w' => e = .returned (.tuple #[.bool true,.int .u64 n,.int .i64 0]) ∧ Below w.heap.size w w' := by
 have e1 : IntKind.u64.wrap (IntKind.u64.wrap (x) - IntKind.u64.wrap (y)) = n := by rw [IntKind.wrap_u64,IntKind.wrap_u64,IntKind.wrap_u64]; omega
 clear hn hx hx2 hy hy2
 go_enter Tryz.func22,Tryz.ntmps22
 go_wp2_with fail
 refine (check2_ok E F _ a b H0 H1 _ (by have := heap_alloc_new (w.alloc (.cells #[.int .i64 E,.int .i64 F] 23)) (.cells #[.int .u64 a,.int .u64 b] 24); simpa only [World.size_alloc] using this)).mono ?_
 rintro e w1 ⟨rfl,hb1⟩
 have hS : Fs w (w.alloc (.cells #[.int .i64 E,.int .i64 F] 23)) [⟨w.heap.size,#[.int .i64 E,.int .i64 F],23⟩] := Fs.one w _ _
 replace hS := ((hS.alloc #[.int .u64 a,.int .u64 b] 24).kept hb1).sub (fun x hx => List.mem_cons_of_mem _ hx)
 obtain ⟨⟨ya,yb,-⟩,-⟩ := hS.cells
 go_wp2_with fail
 refine (numbers2_yes E F c1 h1 c2 h2 _ a b HC HD _ (by have := heap_alloc_new w1 (.cells #[.int .u64 a,.int .u64 b] 24); simpa only [World.size_alloc] using this)).mono ?_
 rintro e w2 ⟨rfl,hb2⟩
 replace hS := ((hS.alloc #[.int .u64 a,.int .u64 b] 24).kept hb2).sub (fun x hx => List.mem_cons_of_mem _ hx)
 clear ya yb
 obtain ⟨⟨yc,yd,-⟩,-⟩ := hS.cells
 go_wp2_with fail
 refine wp_region_any (by kernel_rfl) ?_
 refine wpAny_det [some (26,.agg #[.int .i64 E,.int .i64 F]),some (27,.int .u64 a),some (28,.agg #[.int .u64 qa,.int .u64 ra]),some (29,.int .i64 x),some (30,.agg #[.int .i64 E,.int .i64 F]),some (31,.int .u64 b),some (32,.agg #[.int .u64 qb,.int .u64 rb]),some (33,.int .i64 y),some (10,.int .i64 x),some (11,.int .i64 y)]
  (fun _ W9 => Fs w W9 [⟨w.heap.size,#[.int .i64 E,.int .i64 F],23⟩]) _ _ rfl (by kernel_rfl) rfl rfl ?_ ?_ (hS).drew
 ·intro l9 t9 W9 i9 hD hi9 hl9 hM
  obtain ⟨o9,ho9,hd9⟩ := (mem_ready.1 hi9).2
  have hin9 : i9 < 10 := by
   by_cases h : i9 < 10
   ·exact h
   ·rw [Array.getElem?_eq_none (by rw [hD.len]; simp; omega)] at hl9; cases hl9
  have hcase : i9 = 0 ∨ i9 = 1 ∨ i9 = 2 ∨ i9 = 3 ∨ i9 = 4 ∨ i9 = 5 ∨ i9 = 6 ∨ i9 = 7 ∨ i9 = 8 ∨ i9 = 9 := by omega
  clear hin9
  rcases hcase with rfl | rfl | rfl | rfl | rfl | rfl | rfl | rfl | rfl | rfl
  ·cases ho9
   have r3 := hD.old 3 _ rfl rfl
   have hM0 := hM
   have Q_ := hM0.cellAt (b := w.heap.size) (cs := #[.int .i64 E,.int .i64 F]) (t := 23) (by simp)
   have c9_0 := Q_ 0 _ rfl
   have c9_1 := Q_ 1 _ rfl
   clear Q_
   clear hM0
   refine wpOp_step rfl fun K hK => ?_
   go_simp
   exact hK _ _ ⟨rfl,hM⟩
  ·cases ho9
   have r1 := hD.old 1 _ rfl rfl
   refine wpOp_step rfl fun K hK => ?_
   go_simp
   exact hK _ _ ⟨rfl,hM⟩
  ·cases ho9
   have r26 := hD.od hd9 0 26 _ rfl (by simp)
   have r27 := hD.od hd9 1 27 _ rfl (by simp)
   refine wpOp_step rfl fun K hK => ?_
   go_simp
   go_wp2_with fail
   refine (HP _).mono ?_
   rintro en w9 ⟨rfl,hb9⟩
   exact hK _ _ ⟨rfl,hM.kept hb9⟩
  ·cases ho9
   have r28 := hD.od hd9 2 28 _ rfl (by simp)
   refine wpOp_step rfl fun K hK => ?_
   go_simp
   go_wp2_with fail
   refine (HX _).mono ?_
   rintro en w9 ⟨rfl,hb9⟩
   exact hK _ _ ⟨rfl,hM.kept hb9⟩
  ·cases ho9
   have r3 := hD.old 3 _ rfl rfl
   have hM0 := hM
   have Q_ := hM0.cellAt (b := w.heap.size) (cs := #[.int .i64 E,.int .i64 F]) (t := 23) (by simp)
   have c9_0 := Q_ 0 _ rfl
   have c9_1 := Q_ 1 _ rfl
   clear Q_
   clear hM0
   refine wpOp_step rfl fun K hK => ?_
   go_simp
   exact hK _ _ ⟨rfl,hM⟩
  ·cases ho9
   have r2 := hD.old 2 _ rfl rfl
   refine wpOp_step rfl fun K hK => ?_
   go_simp
   exact hK _ _ ⟨rfl,hM⟩
  ·cases ho9
   have r30 := hD.od hd9 4 30 _ rfl (by simp)
   have r31 := hD.od hd9 5 31 _ rfl (by simp)
   refine wpOp_step rfl fun K hK => ?_
   go_simp
   go_wp2_with fail
   refine (HQ _).mono ?_
   rintro en w9 ⟨rfl,hb9⟩
   exact hK _ _ ⟨rfl,hM.kept hb9⟩
  ·cases ho9
   have r32 := hD.od hd9 6 32 _ rfl (by simp)
   refine wpOp_step rfl fun K hK => ?_
   go_simp
   go_wp2_with fail
   refine (HY _).mono ?_
   rintro en w9 ⟨rfl,hb9⟩
   exact hK _ _ ⟨rfl,hM.kept hb9⟩
  ·cases ho9
   have r29 := hD.od hd9 3 29 _ rfl (by simp)
   refine wpOp_step rfl fun K hK => ?_
   go_simp
   exact hK _ _ ⟨rfl,hM⟩
  ·cases ho9
   have r33 := hD.od hd9 7 33 _ rfl (by simp)
   refine wpOp_step rfl fun K hK => ?_
   go_simp
   exact hK _ _ ⟨rfl,hM⟩
 ·intro l9 W9 hl9 hM
  clear hS yc yd
  have hS := hM
  clear hM
  simp only [Puts.lay,List.setIfInBounds_toArray,List.set_cons_zero,List.set_cons_succ]
  obtain ⟨⟨ye,yf,-⟩,-⟩ := hS.cells
  go_wp2
  go_ret3
  exact ⟨rfl,hS.fr⟩
theorem Steps_up (E F a b : Int) (c1 : Int) (h1 : (c1 == (5 : Int)) = false) (c2 : Int) (h2 : (c2 == (5 : Int)) = false) (H0 : Tel 80 #[.agg #[.int .i64 E,.int .i64 F],.int .u64 a] (.int .i64 0)) (H1 : Tel 80 #[.agg #[.int .i64 E,.int .i64 F],.int .u64 b] (.int .i64 0)) (HC : Tel 37 #[.agg #[.int .i64 E,.int .i64 F],.int .u64 a] (.tuple #[.int .u8 c1,.int .i64 0])) (HD : Tel 37 #[.agg #[.int .i64 E,.int .i64 F],.int .u64 b] (.tuple #[.int .u8 c2,.int .i64 0])) (qa ra qb rb x y : Int) (HP : Tel 61 #[.agg #[.int .i64 E,.int .i64 F],.int .u64 a] (.agg #[.int .u64 qa,.int .u64 ra])) (HQ : Tel 61 #[.agg #[.int .i64 E,.int .i64 F],.int .u64 b] (.agg #[.int .u64 qb,.int .u64 rb])) (HX : Tel 62 #[.agg #[.int .u64 qa,.int .u64 ra]] (.int .i64 x)) (HY : Tel 62 #[.agg #[.int .u64 qb,.int .u64 rb]] (.int .i64 y)) (h : ¬ y < x) (hx : -9223372036854775808 ≤ x) (hx2 : x < 9223372036854775808) (hy : -9223372036854775808 ≤ y) (hy2 : y < 9223372036854775808) (n : Int) (hn : n = y - x) (w : World)  :
  Calls Tryz.prog 22 #[.agg #[.int .i64 E,.int .i64 F],.int .u64 a,.int .u64 b] w fun e w' => e = .returned (.tuple #[.bool false,.int .u64 n,.int .i64 0]) ∧ Below w.heap.size w w' := by
 have e1 : IntKind.u64.wrap (IntKind.u64.wrap (y) - IntKind.u64.wrap (x)) = n := by rw [IntKind.wrap_u64,IntKind.wrap_u64,IntKind.wrap_u64]; omega
 clear hn hx hx2 hy hy2
 go_enter Tryz.func22,Tryz.ntmps22
 go_wp2_with fail
 refine (check2_ok E F _ a b H0 H1 _ (by have := heap_alloc_new (w.alloc (.cells #[.int .i64 E,.int .i64 F] 23)) (.cells #[.int .u64 a,.int .u64 b] 24); simpa only [World.size_alloc] using this)).mono ?_
 rintro e w1 ⟨rfl,hb1⟩
 have hS : Fs w (w.alloc (.cells #[.int .i64 E,.int .i64 F] 23)) [⟨w.heap.size,#[.int .i64 E,.int .i64 F],23⟩] := Fs.one w _ _
 replace hS := ((hS.alloc #[.int .u64 a,.int .u64 b] 24).kept hb1).sub (fun x hx => List.mem_cons_of_mem _ hx)
 obtain ⟨⟨ya,yb,-⟩,-⟩ := hS.cells
 go_wp2_with fail
 refine (numbers2_yes E F c1 h1 c2 h2 _ a b HC HD _ (by have := heap_alloc_new w1 (.cells #[.int .u64 a,.int .u64 b] 24); simpa only [World.size_alloc] using this)).mono ?_
 rintro e w2 ⟨rfl,hb2⟩
 replace hS := ((hS.alloc #[.int .u64 a,.int .u64 b] 24).kept hb2).sub (fun x hx => List.mem_cons_of_mem _ hx)
 clear ya yb
 obtain ⟨⟨yc,yd,-⟩,-⟩ := hS.cells
 go_wp2_with fail
 refine wp_region_any (by kernel_rfl) ?_
 refine wpAny_det [some (26,.agg #[.int .i64 E,.int .i64 F]),some (27,.int .u64 a),some (28,.agg #[.int .u64 qa,.int .u64 ra]),some (29,.int .i64 x),some (30,.agg #[.int .i64 E,.int .i64 F]),some (31,.int .u64 b),some (32,.agg #[.int .u64 qb,.int .u64 rb]),some (33,.int .i64 y),some (10,.int .i64 x),some (11,.int .i64 y)]
  (fun _ W9 => Fs w W9 [⟨w.heap.size,#[.int .i64 E,.int .i64 F],23⟩]) _ _ rfl (by kernel_rfl) rfl rfl ?_ ?_ (hS).drew
 ·intro l9 t9 W9 i9 hD hi9 hl9 hM
  obtain ⟨o9,ho9,hd9⟩ := (mem_ready.1 hi9).2
  have hin9 : i9 < 10 := by
   by_cases h : i9 < 10
   ·exact h
   ·rw [Array.getElem?_eq_none (by rw [hD.len]; simp; omega)] at hl9; cases hl9
  have hcase : i9 = 0 ∨ i9 = 1 ∨ i9 = 2 ∨ i9 = 3 ∨ i9 = 4 ∨ i9 = 5 ∨ i9 = 6 ∨ i9 = 7 ∨ i9 = 8 ∨ i9 = 9 := by omega
  clear hin9
  rcases hcase with rfl | rfl | rfl | rfl | rfl | rfl | rfl | rfl | rfl | rfl
  ·cases ho9
   have r3 := hD.old 3 _ rfl rfl
   have hM0 := hM
   have Q_ := hM0.cellAt (b := w.heap.size) (cs := #[.int .i64 E,.int .i64 F]) (t := 23) (by simp)
   have c9_0 := Q_ 0 _ rfl
   have c9_1 := Q_ 1 _ rfl
   clear Q_
   clear hM0
   refine wpOp_step rfl fun K hK => ?_
   go_simp
   exact hK _ _ ⟨rfl,hM⟩
  ·cases ho9
   have r1 := hD.old 1 _ rfl rfl
   refine wpOp_step rfl fun K hK => ?_
   go_simp
   exact hK _ _ ⟨rfl,hM⟩
  ·cases ho9
   have r26 := hD.od hd9 0 26 _ rfl (by simp)
   have r27 := hD.od hd9 1 27 _ rfl (by simp)
   refine wpOp_step rfl fun K hK => ?_
   go_simp
   go_wp2_with fail
   refine (HP _).mono ?_
   rintro en w9 ⟨rfl,hb9⟩
   exact hK _ _ ⟨rfl,hM.kept hb9⟩
  ·cases ho9
   have r28 := hD.od hd9 2 28 _ rfl (by simp)
   refine wpOp_step rfl fun K hK => ?_
   go_simp
   go_wp2_with fail
   refine (HX _).mono ?_
   rintro en w9 ⟨rfl,hb9⟩
   exact hK _ _ ⟨rfl,hM.kept hb9⟩
  ·cases ho9
   have r3 := hD.old 3 _ rfl rfl
   have hM0 := hM
   have Q_ := hM0.cellAt (b := w.heap.size) (cs := #[.int .i64 E,.int .i64 F]) (t := 23) (by simp)
   have c9_0 := Q_ 0 _ rfl
   have c9_1 := Q_ 1 _ rfl
   clear Q_
   clear hM0
   refine wpOp_step rfl fun K hK => ?_
   go_simp
   exact hK _ _ ⟨rfl,hM⟩
  ·cases ho9
   have r2 := hD.old 2 _ rfl rfl
   refine wpOp_step rfl fun K hK => ?_
   go_simp
   exact hK _ _ ⟨rfl,hM⟩
  ·cases ho9
   have r30 := hD.od hd9 4 30 _ rfl (by simp)
   have r31 := hD.od hd9 5 31 _ rfl (by simp)
   refine wpOp_step rfl fun K hK => ?_
   go_simp
   go_wp2_with fail
   refine (HQ _).mono ?_
   rintro en w9 ⟨rfl,hb9⟩
   exact hK _ _ ⟨rfl,hM.kept hb9⟩
  ·cases ho9
   have r32 := hD.od hd9 6 32 _ rfl (by simp)
   refine wpOp_step rfl fun K hK => ?_
   go_simp
   go_wp2_with fail
   refine (HY _).mono ?_
   rintro en w9 ⟨rfl,hb9⟩
   exact hK _ _ ⟨rfl,hM.kept hb9⟩
  ·cases ho9
   have r29 := hD.od hd9 3 29 _ rfl (by simp)
   refine wpOp_step rfl fun K hK => ?_
   go_simp
   exact hK _ _ ⟨rfl,hM⟩
  ·cases ho9
   have r33 := hD.od hd9 7 33 _ rfl (by simp)
   refine wpOp_step rfl fun K hK => ?_
   go_simp
   exact hK _ _ ⟨rfl,hM⟩
 ·intro l9 W9 hl9 hM
  clear hS yc yd
  have hS := hM
  clear hM
  simp only [Puts.lay,List.setIfInBounds_toArray,List.set_cons_zero,List.set_cons_succ]
  obtain ⟨⟨ye,yf,-⟩,-⟩ := hS.cells
  go_wp2
  go_ret3
  exact ⟨by show Ending.returned (.tuple #[.bool (decide (y < x)),_,_]) = _; rw [decide_eq_false (show ¬ y < x by omega)]; rfl,hS.fr⟩
end Go.Proofs.YtkebhccbhoamjaaGreatDoor
