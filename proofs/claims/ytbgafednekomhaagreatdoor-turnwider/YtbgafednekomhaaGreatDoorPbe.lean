/- Of what TurnWiderRow stands on: TnFrom TnAny TnAlive TnWid TnWidLaw. -/
import Derived.Test.YtbgafednekomhaaGreatDoorPbd
namespace Go.Proofs.YtbgafednekomhaaGreatDoor
open Go.RowKit
set_option maxHeartbeats 4000000
set_option maxRecDepth 20000
theorem FromInt_is (E F n md : Int) (u : Nat) (q s : Bool) (m : Nat) (x gb gf ge : Int) (hu : u < 18446744073709551616) (hq : decide (n < 0) = q) (HZ : Tel 50 #[.int .i64 n] (.int .u64 (u : Int))) (HK : Hid (∀ (W : World) (B : Nat) (A : Option Addr) (N C : Nat),Mine W B A N C u → Tb W → Calls Tryz.prog 48 #[.bool q,.agg #[.slice A N C],.int .i64 0] W fun e w' => (∃ A N C,e = .returned (.tuple #[.agg #[.bool s,.slice A N C,.int .i64 x],.int .i64 0]) ∧ Mine w' W.heap.size A N C m) ∧ Below W.heap.size W w')) (HR : Hid (∀ (W : World) (B : Nat) (A : Option Addr) (N C : Nat),Mine W B A N C m → Calls Tryz.prog 40 #[.agg #[.int .i64 E,.int .i64 F],.agg #[.bool s,.slice A N C,.int .i64 x],.bool false,.int .u8 md] W fun e w' => e = .returned (.tuple #[.int .u64 gb,.int .u8 gf,.int .i64 ge]) ∧ Below W.heap.size W w')) (w : World) (hT : Tb w) :
  Calls Tryz.prog 10 #[.agg #[.int .i64 E,.int .i64 F],.int .i64 n,.int .u8 md] w fun e w' => e = .returned (.tuple #[.int .u64 gb,.int .u8 gf,.int .i64 ge]) ∧ Below w.heap.size w w' := by
 have HT := hide hT
 have HU := hide hu
 clear hT hu
 go_enter Tryz.func10,Tryz.ntmps10
 go_wp2_with fail
 refine (HZ _).mono ?_
 rintro e w1 ⟨rfl,hb1⟩
 have hS := (Fs.one w _ _).kept hb1
 obtain ⟨⟨ya,yb,-⟩,-⟩ := hS.cells
 have hsV := hS.size
 go_wp2_with fail
 refine (of_any u _ (unhide HU)).mono ?_
 rintro e w2 ⟨⟨A1,N1,C1,rfl,f1⟩,hb2⟩
 replace hS := hS.kept hb2
 clear ya yb
 obtain ⟨⟨yc,yd,-⟩,-⟩ := hS.cells
 have G1 := hide (f1.mono (base' := w.heap.size) hsV)
 clear f1 hsV
 have hsV := hS.size
 go_wp2_with fail
 refine (unhide HK _ _ _ _ _ (unhide G1) ((unhide HT).kept hS.fr)).mono ?_
 rintro e w3 ⟨⟨A2,N2,C2,rfl,f2⟩,hb3⟩
 replace hS := hS.kept hb3
 clear yc yd
 obtain ⟨⟨ye,yf,-⟩,-⟩ := hS.cells
 replace G1 := hide ((unhide G1).kept hb3)
 have G2 := hide (f2.mono (base' := w.heap.size) hsV)
 clear f2 hsV G1
 have hltw3_0 : w.heap.size < w3.heap.size := hS.lt 0 rfl
 obtain ⟨WU,hWU⟩ : ∃ WU,w3.alloc (.cells #[.bool s,.slice A2 N2 C2,.int .i64 x] 42) = WU := ⟨_,rfl⟩
 replace hS := hS.alloc #[.bool s,.slice A2 N2 C2,.int .i64 x] 42
 rw [hWU] at hS
 replace G2 := hide (hWU ▸ (unhide G2).alloc (.cells #[.bool s,.slice A2 N2 C2,.int .i64 x] 42))
 clear ye yf
 obtain ⟨⟨yg,yh,yi,-⟩,⟨yj,yk,-⟩,-⟩ := hS.cells
 go_wp2_with fail
 refine (unhide HR _ _ _ _ _ (unhide G2)).mono ?_
 rintro e w4 ⟨rfl,hb4⟩
 replace hS := hS.kept hb4
 clear yg yh yi yj yk
 obtain ⟨⟨yl,ym,yn,-⟩,⟨yo,yp,-⟩,-⟩ := hS.cells
 replace G2 := hide ((unhide G2).kept hb4)
 go_wp2
 go_ret3
 exact ⟨rfl,hS.fr⟩
def FiIs (E F n : Int) (md : Int) (x y z : Int) : Prop := ∀ W : World,Tb W → Calls Tryz.prog 10 #[.agg #[.int .i64 E,.int .i64 F],.int .i64 n,.int .u8 md] W fun e w' => e = .returned (.tuple #[.int .u64 x,.int .u8 y,.int .i64 z]) ∧ Below W.heap.size W w'
def InIs (E F b wd : Int) (md : Nat) (x y z : Int) : Prop := ∀ W : World,Tb W → Nb W → Calls Tryz.prog 9 #[.agg #[.int .i64 E,.int .i64 F],.int .u64 b,.int .i64 wd,.int .u8 (md : Int)] W fun e w' => e = .returned (.tuple #[.int .i64 x,.int .u8 y,.int .i64 z]) ∧ Below W.heap.size W w'
theorem size_T (n : Int) (h1 : -9223372036854775808 ≤ n) (h2 : n < 9223372036854775808) : Tel 50 #[.int .i64 n] (.int .u64 (n.natAbs : Int)) := fun W => by
 by_cases hn : n < 0
 ·have := tsize_neg n.natAbs (by omega) (by omega) W
  rw [show -((n.natAbs : Nat) : Int) = n from by omega] at this
  exact this
 ·have := tsize_pos n.natAbs (by omega) W
  rw [show ((n.natAbs : Nat) : Int) = n from by omega] at this ⊢
  exact this
theorem make_tz {u z : Nat} (q : Bool) (hu : 0 < u) (hz : Tz u z) (hz2 : z < 64) (W : World) (B : Nat) (A : Option Addr) (N C : Nat) (g : Mine W B A N C u) (hT : Tb W) :
  Calls Tryz.prog 48 #[.bool q,.agg #[.slice A N C],.int .i64 0] W fun e w' => (∃ A N C,e = .returned (.tuple #[.agg #[.bool q,.slice A N C,.int .i64 (z : Int)],.int .i64 0]) ∧ Mine w' W.heap.size A N C (u / 2 ^ z)) ∧ Below W.heap.size W w' := by
 obtain ⟨c1,c2⟩ := mine_caps g
 have := make_ok q A N C u z 0 W g.num hu hT hz (by omega) c1 c2 (by omega)
 rw [show (0 : Int) + (z : Int) = (z : Int) from by omega] at this
 exact this
theorem fromInt_any {E F S I B md z k : Nat} (h : Fm E F S I) (HB : B = 2 ^ (E - 1) - 1) (hm : md ≤ 4) (n : Int) (h0 : n ≠ 0) (h1 : -9223372036854775808 ≤ n) (h2 : n < 9223372036854775808) (hz : Tz n.natAbs z) (hz2 : z < 64) (hk : Bl (n.natAbs / 2 ^ z) k) :
  FiIs E F n md (bitsR S I md (decide (n < 0)) (rowR B F md (decide (n < 0)) (n.natAbs / 2 ^ z) k (z : Int)) : Int) (flagR B F I md (decide (n < 0)) (n.natAbs / 2 ^ z) k (z : Int) : Int) 0 := fun W hT =>
 FromInt_is E F n md n.natAbs (decide (n < 0)) (decide (n < 0)) (n.natAbs / 2 ^ z) (z : Int) _ _ 0 (by omega) rfl (size_T n h1 h2)
  (hide fun W B A N C g hT => make_tz _ (by omega) hz hz2 W B A N C g hT)
  (hide fun W B A N C g => rdyadic_any h HB hm false _ A N C _ k _ W B g ⟨hz.down.1,by omega,by omega⟩ hk) W hT
theorem rk_ok (s : Bool) (a : Option Addr) (n cap m : Nat) (a' : Option Addr) (n' cap' m' : Nat) (w : World) (h : Num w a n m) (h' : Num w a' n' m') (hm' : 0 < m') (hs : s = true → 0 < m) (hg : Nat.gcd m m' = 1) :
  Calls Tryz.prog 126 #[.agg #[.bool s,.slice a n cap,.slice a' n' cap']] w fun e w' => e = .returned (.int .i64 0) ∧ Below w.heap.size w w' := by
 have hn' : 0 < n' := by have := h'.zero; omega
 cases s
 ·exact rk_ok_f a n cap m a' n' cap' m' w hn' h h' hg
 ·exact rk_ok_t a n cap m a' n' cap' m' w hn' (by have := h.zero; have := hs rfl; omega) h h' hg
theorem fm5 : Fm 5 10 32768 31744 := ⟨⟨by decide,by decide,by decide,by decide⟩,by decide,by decide⟩
theorem fm11 : Fm 11 52 9223372036854775808 9218868437227405312 := ⟨⟨by decide,by decide,by decide,by decide⟩,by decide,by decide⟩
theorem toA : ToIs 11 52 5 10 4599676419421066581 0 13653 1 0 := by
 have hB : Bt 11 52 4599676419421066581 false 1021 1501199875790165 := ⟨by decide,by decide,by decide⟩
 have hW : Wo 11 52 1023 1021 1501199875790165 6004799503160661 0 (-54) := ⟨⟨3002399751580330,by decide⟩,Or.inr ⟨by decide,by decide,by decide⟩,by decide,by decide⟩
 have := to_wo (md := 0) fm11 fm5 (B := 1023) (B' := 15) (by decide) (by decide) (by decide) hB hW (k := 53) ⟨by decide,Or.inr (by decide)⟩
 exact this
theorem toB : ToIs 5 10 11 52 15360 0 4607182418800017408 0 0 := by
 have hB : Bt 5 10 15360 false 15 0 := ⟨by decide,by decide,by decide⟩
 have hW : Wo 5 10 15 15 0 1024 10 (-10) := ⟨⟨0,by decide⟩,Or.inr ⟨by decide,by decide,by decide⟩,by decide,by decide⟩
 have := to_wo (md := 0) fm5 fm11 (B := 15) (B' := 1023) (by decide) (by decide) (by decide) hB hW (k := 1) ⟨by decide,Or.inr (by decide)⟩
 exact this
theorem fiA : FiIs 5 10 2049 0 26624 1 0 := by
 have := fromInt_any (md := 0) (z := 0) (k := 12) fm5 (B := 15) (by decide) (by decide) 2049 (by decide) (by decide) (by decide) ⟨1024,by decide⟩ (by decide) ⟨by decide,Or.inr (by decide)⟩
 exact this
theorem inA : InIs 5 10 16640 8 0 2 1 0 := fun W hT hN => by
 have hB : Bt 5 10 16640 false 16 256 := ⟨by decide,by decide,by decide⟩
 have hW : Wo 5 10 15 16 256 1280 8 (-9) := ⟨⟨2,by decide⟩,Or.inr ⟨by decide,by decide,by decide⟩,by decide,by decide⟩
 have hv : Vals 5 10 16640 false 5 (-1) := vals_wo fm5.fo (hide (by decide)) hB hW
 refine Int_fin 5 10 16640 8 0 (fits_T fm5 (b := 16640) (by decide)) (fun W => twidth_8 W) (by decide) 3 rfl rfl false false false false 5 5 2 2 (-1) 2 1 (kind_T fm5 hB) (hide hv) (hide fun W A N C g => ?_) (hide fun W A A' N C N' C' g g' => ?_) (hide fun W A N C g => ?_) W hT hN
 ·have := nratio_ok (s := false) (m := 5) (x := -1) (Or.inr ⟨by decide,by decide,by decide⟩) (i := 0) (j := 1) (by decide) (by decide) (not_over (n := 3) (by decide) (by decide)) (not_over (n := 2) (by decide) (by decide)) W A N C g
  exact this
 ·have := whole_near A N C 5 A' N' C' 2 0 (by decide) 1 2 false (by decide) (by decide) (by decide) (by decide) (by decide) (fun W => farther_any 0 false false 0 (by decide) (Or.inr (Or.inl rfl)) W) W g g' (by decide) (hide fun W' hb => rk_ok false A N C 5 A' N' C' 2 W' (g.kept hb) (g'.kept hb) (by decide) (fun h => by cases h) (by decide))
  exact this
 ·exact within_pf 8 127 127 A N C 2 (fun W => tend_8_high W) (fun W => tsize_pos 127 (by decide) W) (by decide) (by decide) W g (num_two g (by decide))
theorem talive_any  (w : World) (hT : Tb w) (hN : Nb w) :
  Calls Tryz.prog 7 #[] w fun e w' => e = .returned (.bool true) ∧ Below w.heap.size w w' := by
 have HT := hide hT
 have HN := hide hN
 clear hT hN
 have o1 : FloatKind.f64.format.order 4607182418800017408 4607182418800017408 = some .eq := by kernel_rfl
 have o2 : FloatKind.f32.format.order 1077936128 1077936128 = some .eq := by kernel_rfl
 go_enter Tryz.func7,Tryz.ntmps7
 go_wp2_with fail
 refine (toA _ ((unhide HT).kept (Fs.two w _ _ _ _).fr) ((unhide HN).kept (Fs.two w _ _ _ _).fr)).mono ?_
 rintro e w1 ⟨rfl,hb1⟩
 have hS := (Fs.two w _ _ _ _).kept hb1
 obtain ⟨⟨ya,yb,-⟩,⟨yc,yd,-⟩,-⟩ := hS.cells
 go_wp2_with fail
 refine (inA _ ((unhide HT).kept hS.fr) ((unhide HN).kept hS.fr)).mono ?_
 rintro e w2 ⟨rfl,hb2⟩
 replace hS := hS.kept hb2
 clear ya yb yc yd
 obtain ⟨⟨ye,yf,-⟩,⟨yg,yh,-⟩,-⟩ := hS.cells
 go_wp2_with fail
 refine (fiA _ ((unhide HT).kept hS.fr)).mono ?_
 rintro e w3 ⟨rfl,hb3⟩
 replace hS := hS.kept hb3
 clear ye yf yg yh
 obtain ⟨⟨yi,yj,-⟩,⟨yk,yl,-⟩,-⟩ := hS.cells
 go_wp2_with fail
 refine (From64_ok 5 10 15360 4607182418800017408 0 toB _ ((unhide HT).kept hS.fr) ((unhide HN).kept hS.fr)).mono ?_
 rintro e w4 ⟨rfl,hb4⟩
 replace hS := hS.kept hb4
 clear yi yj yk yl
 obtain ⟨⟨ym,yn,-⟩,⟨yo,yp,-⟩,-⟩ := hS.cells
 go_wp2_with fail
 refine (Cut8_127 _).mono ?_
 rintro e w5 ⟨rfl,hb5⟩
 replace hS := hS.kept hb5
 clear ym yn yo yp
 obtain ⟨⟨yq,yr,-⟩,⟨ys,yt,-⟩,-⟩ := hS.cells
 go_wp2_with fail
 refine (Cutu8_m1 _).mono ?_
 rintro e w6 ⟨rfl,hb6⟩
 replace hS := hS.kept hb6
 clear yq yr ys yt
 obtain ⟨⟨yu,yv,-⟩,⟨yw,yx,-⟩,-⟩ := hS.cells
 go_wp2_with fail
 refine (Near32_3 _).mono ?_
 rintro e w7 ⟨rfl,hb7⟩
 replace hS := hS.kept hb7
 clear yu yv yw yx
 obtain ⟨⟨yy,yz,-⟩,⟨y0,y1,-⟩,-⟩ := hS.cells
 go_wp2
 go_ret
 exact ⟨rfl,hS.fr⟩
theorem wider_o0 (E F E' F' b md bk : Int) (c : Int) (H1 : Tel 12 #[.agg #[.int .i64 E,.int .i64 F]] (.int .i64 5)) (H2 : Tel 12 #[.agg #[.int .i64 E',.int .i64 F']] (.int .i64 c)) (w : World) (hT : Tb w) (hN : Nb w) :
  Calls Tryz.prog 4 #[.agg #[.int .i64 E,.int .i64 F],.agg #[.int .i64 E',.int .i64 F'],.int .u64 b,.int .u8 md,.int .u8 bk] w fun e w' => e = .returned (.bool true) ∧ Below w.heap.size w w' := by
 have HT := hide hT
 have HN := hide hN
 clear hT hN
 go_enter Tryz.func4,Tryz.ntmps4
 go_wp2_with fail
 refine (talive_any _ ((unhide HT).kept (Fs.two w _ _ _ _).fr) ((unhide HN).kept (Fs.two w _ _ _ _).fr)).mono ?_
 rintro e w1 ⟨rfl,hb1⟩
 have hS := (Fs.two w _ _ _ _).kept hb1
 obtain ⟨⟨ya,yb,-⟩,⟨yc,yd,-⟩,-⟩ := hS.cells
 go_wp2_with fail
 refine (H1 _).mono ?_
 rintro e w2 ⟨rfl,hb2⟩
 replace hS := hS.kept hb2
 clear ya yb yc yd
 obtain ⟨⟨ye,yf,-⟩,⟨yg,yh,-⟩,-⟩ := hS.cells
 go_wp2_with fail
 refine (H2 _).mono ?_
 rintro e w3 ⟨rfl,hb3⟩
 replace hS := hS.kept hb3
 clear ye yf yg yh
 obtain ⟨⟨yi,yj,-⟩,⟨yk,yl,-⟩,-⟩ := hS.cells
 go_wp2
 go_ret
 exact ⟨rfl,hS.fr⟩
theorem wider_o1 (E F E' F' b md bk : Int) (H1 : Tel 12 #[.agg #[.int .i64 E,.int .i64 F]] (.int .i64 0)) (H2 : Tel 12 #[.agg #[.int .i64 E',.int .i64 F']] (.int .i64 5))  (w : World) (hT : Tb w) (hN : Nb w) :
  Calls Tryz.prog 4 #[.agg #[.int .i64 E,.int .i64 F],.agg #[.int .i64 E',.int .i64 F'],.int .u64 b,.int .u8 md,.int .u8 bk] w fun e w' => e = .returned (.bool true) ∧ Below w.heap.size w w' := by
 have HT := hide hT
 have HN := hide hN
 clear hT hN
 go_enter Tryz.func4,Tryz.ntmps4
 go_wp2_with fail
 refine (talive_any _ ((unhide HT).kept (Fs.two w _ _ _ _).fr) ((unhide HN).kept (Fs.two w _ _ _ _).fr)).mono ?_
 rintro e w1 ⟨rfl,hb1⟩
 have hS := (Fs.two w _ _ _ _).kept hb1
 obtain ⟨⟨ya,yb,-⟩,⟨yc,yd,-⟩,-⟩ := hS.cells
 go_wp2_with fail
 refine (H1 _).mono ?_
 rintro e w2 ⟨rfl,hb2⟩
 replace hS := hS.kept hb2
 clear ya yb yc yd
 obtain ⟨⟨ye,yf,-⟩,⟨yg,yh,-⟩,-⟩ := hS.cells
 go_wp2_with fail
 refine (H2 _).mono ?_
 rintro e w3 ⟨rfl,hb3⟩
 replace hS := hS.kept hb3
 clear ye yf yg yh
 obtain ⟨⟨yi,yj,-⟩,⟨yk,yl,-⟩,-⟩ := hS.cells
 go_wp2
 go_ret
 exact ⟨rfl,hS.fr⟩
theorem wider_o2 (E F E' F' b md bk : Int) (H1 : Tel 12 #[.agg #[.int .i64 E,.int .i64 F]] (.int .i64 0)) (H2 : Tel 12 #[.agg #[.int .i64 E',.int .i64 F']] (.int .i64 0)) (h : E' < E) (w : World) (hT : Tb w) (hN : Nb w) :
  Calls Tryz.prog 4 #[.agg #[.int .i64 E,.int .i64 F],.agg #[.int .i64 E',.int .i64 F'],.int .u64 b,.int .u8 md,.int .u8 bk] w fun e w' => e = .returned (.bool true) ∧ Below w.heap.size w w' := by
 have HT := hide hT
 have HN := hide hN
 clear hT hN
 go_enter Tryz.func4,Tryz.ntmps4
 go_wp2_with fail
 refine (talive_any _ ((unhide HT).kept (Fs.two w _ _ _ _).fr) ((unhide HN).kept (Fs.two w _ _ _ _).fr)).mono ?_
 rintro e w1 ⟨rfl,hb1⟩
 have hS := (Fs.two w _ _ _ _).kept hb1
 obtain ⟨⟨ya,yb,-⟩,⟨yc,yd,-⟩,-⟩ := hS.cells
 go_wp2_with fail
 refine (H1 _).mono ?_
 rintro e w2 ⟨rfl,hb2⟩
 replace hS := hS.kept hb2
 clear ya yb yc yd
 obtain ⟨⟨ye,yf,-⟩,⟨yg,yh,-⟩,-⟩ := hS.cells
 go_wp2_with fail
 refine (H2 _).mono ?_
 rintro e w3 ⟨rfl,hb3⟩
 replace hS := hS.kept hb3
 clear ye yf yg yh
 obtain ⟨⟨yi,yj,-⟩,⟨yk,yl,-⟩,-⟩ := hS.cells
 go_wp2
 go_ret
 exact ⟨rfl,hS.fr⟩
theorem wider_o3 (E F E' F' b md bk : Int) (H1 : Tel 12 #[.agg #[.int .i64 E,.int .i64 F]] (.int .i64 0)) (H2 : Tel 12 #[.agg #[.int .i64 E',.int .i64 F']] (.int .i64 0)) (h : ¬ E' < E) (h2 : F' < F) (w : World) (hT : Tb w) (hN : Nb w) :
  Calls Tryz.prog 4 #[.agg #[.int .i64 E,.int .i64 F],.agg #[.int .i64 E',.int .i64 F'],.int .u64 b,.int .u8 md,.int .u8 bk] w fun e w' => e = .returned (.bool true) ∧ Below w.heap.size w w' := by
 have HT := hide hT
 have HN := hide hN
 clear hT hN
 go_enter Tryz.func4,Tryz.ntmps4
 go_wp2_with fail
 refine (talive_any _ ((unhide HT).kept (Fs.two w _ _ _ _).fr) ((unhide HN).kept (Fs.two w _ _ _ _).fr)).mono ?_
 rintro e w1 ⟨rfl,hb1⟩
 have hS := (Fs.two w _ _ _ _).kept hb1
 obtain ⟨⟨ya,yb,-⟩,⟨yc,yd,-⟩,-⟩ := hS.cells
 go_wp2_with fail
 refine (H1 _).mono ?_
 rintro e w2 ⟨rfl,hb2⟩
 replace hS := hS.kept hb2
 clear ya yb yc yd
 obtain ⟨⟨ye,yf,-⟩,⟨yg,yh,-⟩,-⟩ := hS.cells
 go_wp2_with fail
 refine (H2 _).mono ?_
 rintro e w3 ⟨rfl,hb3⟩
 replace hS := hS.kept hb3
 clear ye yf yg yh
 obtain ⟨⟨yi,yj,-⟩,⟨yk,yl,-⟩,-⟩ := hS.cells
 go_wp2
 go_ret
 exact ⟨rfl,hS.fr⟩
theorem wider_o4 (E F E' F' b md bk : Int) (H1 : Tel 12 #[.agg #[.int .i64 E,.int .i64 F]] (.int .i64 0)) (H2 : Tel 12 #[.agg #[.int .i64 E',.int .i64 F']] (.int .i64 0)) (h : ¬ E' < E) (h2 : ¬ F' < F) (h3 : 4 < md) (w : World) (hT : Tb w) (hN : Nb w) :
  Calls Tryz.prog 4 #[.agg #[.int .i64 E,.int .i64 F],.agg #[.int .i64 E',.int .i64 F'],.int .u64 b,.int .u8 md,.int .u8 bk] w fun e w' => e = .returned (.bool true) ∧ Below w.heap.size w w' := by
 have HT := hide hT
 have HN := hide hN
 clear hT hN
 go_enter Tryz.func4,Tryz.ntmps4
 go_wp2_with fail
 refine (talive_any _ ((unhide HT).kept (Fs.two w _ _ _ _).fr) ((unhide HN).kept (Fs.two w _ _ _ _).fr)).mono ?_
 rintro e w1 ⟨rfl,hb1⟩
 have hS := (Fs.two w _ _ _ _).kept hb1
 obtain ⟨⟨ya,yb,-⟩,⟨yc,yd,-⟩,-⟩ := hS.cells
 go_wp2_with fail
 refine (H1 _).mono ?_
 rintro e w2 ⟨rfl,hb2⟩
 replace hS := hS.kept hb2
 clear ya yb yc yd
 obtain ⟨⟨ye,yf,-⟩,⟨yg,yh,-⟩,-⟩ := hS.cells
 go_wp2_with fail
 refine (H2 _).mono ?_
 rintro e w3 ⟨rfl,hb3⟩
 replace hS := hS.kept hb3
 clear ye yf yg yh
 obtain ⟨⟨yi,yj,-⟩,⟨yk,yl,-⟩,-⟩ := hS.cells
 go_wp2
 go_ret
 exact ⟨rfl,hS.fr⟩
theorem wider_o5 (E F E' F' b md bk : Int) (H1 : Tel 12 #[.agg #[.int .i64 E,.int .i64 F]] (.int .i64 0)) (H2 : Tel 12 #[.agg #[.int .i64 E',.int .i64 F']] (.int .i64 0)) (h : ¬ E' < E) (h2 : ¬ F' < F) (h3 : ¬ 4 < md) (h4 : 4 < bk) (w : World) (hT : Tb w) (hN : Nb w) :
  Calls Tryz.prog 4 #[.agg #[.int .i64 E,.int .i64 F],.agg #[.int .i64 E',.int .i64 F'],.int .u64 b,.int .u8 md,.int .u8 bk] w fun e w' => e = .returned (.bool true) ∧ Below w.heap.size w w' := by
 have HT := hide hT
 have HN := hide hN
 clear hT hN
 go_enter Tryz.func4,Tryz.ntmps4
 go_wp2_with fail
 refine (talive_any _ ((unhide HT).kept (Fs.two w _ _ _ _).fr) ((unhide HN).kept (Fs.two w _ _ _ _).fr)).mono ?_
 rintro e w1 ⟨rfl,hb1⟩
 have hS := (Fs.two w _ _ _ _).kept hb1
 obtain ⟨⟨ya,yb,-⟩,⟨yc,yd,-⟩,-⟩ := hS.cells
 go_wp2_with fail
 refine (H1 _).mono ?_
 rintro e w2 ⟨rfl,hb2⟩
 replace hS := hS.kept hb2
 clear ya yb yc yd
 obtain ⟨⟨ye,yf,-⟩,⟨yg,yh,-⟩,-⟩ := hS.cells
 go_wp2_with fail
 refine (H2 _).mono ?_
 rintro e w3 ⟨rfl,hb3⟩
 replace hS := hS.kept hb3
 clear ye yf yg yh
 obtain ⟨⟨yi,yj,-⟩,⟨yk,yl,-⟩,-⟩ := hS.cells
 go_wp2
 go_ret
 exact ⟨rfl,hS.fr⟩
theorem wider_e (E F E' F' b md bk : Int) (H1 : Tel 12 #[.agg #[.int .i64 E,.int .i64 F]] (.int .i64 0)) (H2 : Tel 12 #[.agg #[.int .i64 E',.int .i64 F']] (.int .i64 0)) (h : ¬ E' < E) (h2 : ¬ F' < F) (h3 : ¬ 4 < md) (h4 : ¬ 4 < bk) (c e : Int) (he : (e == (0 : Int)) = false) (HC : Tel 13 #[.agg #[.int .i64 E,.int .i64 F],.int .u64 b] (.tuple #[.int .u8 c,.int .i64 e]))  (w : World) (hT : Tb w) (hN : Nb w) :
  Calls Tryz.prog 4 #[.agg #[.int .i64 E,.int .i64 F],.agg #[.int .i64 E',.int .i64 F'],.int .u64 b,.int .u8 md,.int .u8 bk] w fun e w' => e = .returned (.bool true) ∧ Below w.heap.size w w' := by
 have HT := hide hT
 have HN := hide hN
 clear hT hN
 go_enter Tryz.func4,Tryz.ntmps4
 go_wp2_with fail
 refine (talive_any _ ((unhide HT).kept (Fs.two w _ _ _ _).fr) ((unhide HN).kept (Fs.two w _ _ _ _).fr)).mono ?_
 rintro e w1 ⟨rfl,hb1⟩
 have hS := (Fs.two w _ _ _ _).kept hb1
 obtain ⟨⟨ya,yb,-⟩,⟨yc,yd,-⟩,-⟩ := hS.cells
 go_wp2_with fail
 refine (H1 _).mono ?_
 rintro e w2 ⟨rfl,hb2⟩
 replace hS := hS.kept hb2
 clear ya yb yc yd
 obtain ⟨⟨ye,yf,-⟩,⟨yg,yh,-⟩,-⟩ := hS.cells
 go_wp2_with fail
 refine (H2 _).mono ?_
 rintro e w3 ⟨rfl,hb3⟩
 replace hS := hS.kept hb3
 clear ye yf yg yh
 obtain ⟨⟨yi,yj,-⟩,⟨yk,yl,-⟩,-⟩ := hS.cells
 go_wp2_with fail
 refine (HC _).mono ?_
 rintro e w4 ⟨rfl,hb4⟩
 replace hS := hS.kept hb4
 clear yi yj yk yl
 obtain ⟨⟨ym,yn,-⟩,⟨yo,yp,-⟩,-⟩ := hS.cells
 go_wp2
 go_ret
 exact ⟨rfl,hS.fr⟩
theorem wider_n (E F E' F' b md bk : Int) (H1 : Tel 12 #[.agg #[.int .i64 E,.int .i64 F]] (.int .i64 0)) (H2 : Tel 12 #[.agg #[.int .i64 E',.int .i64 F']] (.int .i64 0)) (h : ¬ E' < E) (h2 : ¬ F' < F) (h3 : ¬ 4 < md) (h4 : ¬ 4 < bk) (HC : Tel 13 #[.agg #[.int .i64 E,.int .i64 F],.int .u64 b] (.tuple #[.int .u8 5,.int .i64 0]))  (w : World) (hT : Tb w) (hN : Nb w) :
  Calls Tryz.prog 4 #[.agg #[.int .i64 E,.int .i64 F],.agg #[.int .i64 E',.int .i64 F'],.int .u64 b,.int .u8 md,.int .u8 bk] w fun e w' => e = .returned (.bool true) ∧ Below w.heap.size w w' := by
 have HT := hide hT
 have HN := hide hN
 clear hT hN
 go_enter Tryz.func4,Tryz.ntmps4
 go_wp2_with fail
 refine (talive_any _ ((unhide HT).kept (Fs.two w _ _ _ _).fr) ((unhide HN).kept (Fs.two w _ _ _ _).fr)).mono ?_
 rintro e w1 ⟨rfl,hb1⟩
 have hS := (Fs.two w _ _ _ _).kept hb1
 obtain ⟨⟨ya,yb,-⟩,⟨yc,yd,-⟩,-⟩ := hS.cells
 go_wp2_with fail
 refine (H1 _).mono ?_
 rintro e w2 ⟨rfl,hb2⟩
 replace hS := hS.kept hb2
 clear ya yb yc yd
 obtain ⟨⟨ye,yf,-⟩,⟨yg,yh,-⟩,-⟩ := hS.cells
 go_wp2_with fail
 refine (H2 _).mono ?_
 rintro e w3 ⟨rfl,hb3⟩
 replace hS := hS.kept hb3
 clear ye yf yg yh
 obtain ⟨⟨yi,yj,-⟩,⟨yk,yl,-⟩,-⟩ := hS.cells
 go_wp2_with fail
 refine (HC _).mono ?_
 rintro e w4 ⟨rfl,hb4⟩
 replace hS := hS.kept hb4
 clear yi yj yk yl
 obtain ⟨⟨ym,yn,-⟩,⟨yo,yp,-⟩,-⟩ := hS.cells
 go_wp2
 go_ret
 exact ⟨rfl,hS.fr⟩
theorem wider_i (E F E' F' b : Int) (H1 : Tel 12 #[.agg #[.int .i64 E,.int .i64 F]] (.int .i64 0)) (H2 : Tel 12 #[.agg #[.int .i64 E',.int .i64 F']] (.int .i64 0)) (md bk : Nat) (h : ¬ E' < E) (h2 : ¬ F' < F) (h3 : ¬ 4 < (md : Int)) (h4 : ¬ 4 < (bk : Int)) (HC : Tel 13 #[.agg #[.int .i64 E,.int .i64 F],.int .u64 b] (.tuple #[.int .u8 4,.int .i64 0])) (a : Int) (HA : ToIs E F E' F' b md a 0 0) (HB : ToIs E' F' E F a bk b 0 0)  (w : World) (hT : Tb w) (hN : Nb w) :
  Calls Tryz.prog 4 #[.agg #[.int .i64 E,.int .i64 F],.agg #[.int .i64 E',.int .i64 F'],.int .u64 b,.int .u8 (md : Int),.int .u8 (bk : Int)] w fun e w' => e = .returned (.bool true) ∧ Below w.heap.size w w' := by
 have HT := hide hT
 have HN := hide hN
 clear hT hN
 go_enter Tryz.func4,Tryz.ntmps4
 go_wp2_with fail
 refine (talive_any _ ((unhide HT).kept (Fs.two w _ _ _ _).fr) ((unhide HN).kept (Fs.two w _ _ _ _).fr)).mono ?_
 rintro e w1 ⟨rfl,hb1⟩
 have hS := (Fs.two w _ _ _ _).kept hb1
 obtain ⟨⟨ya,yb,-⟩,⟨yc,yd,-⟩,-⟩ := hS.cells
 go_wp2_with fail
 refine (H1 _).mono ?_
 rintro e w2 ⟨rfl,hb2⟩
 replace hS := hS.kept hb2
 clear ya yb yc yd
 obtain ⟨⟨ye,yf,-⟩,⟨yg,yh,-⟩,-⟩ := hS.cells
 go_wp2_with fail
 refine (H2 _).mono ?_
 rintro e w3 ⟨rfl,hb3⟩
 replace hS := hS.kept hb3
 clear ye yf yg yh
 obtain ⟨⟨yi,yj,-⟩,⟨yk,yl,-⟩,-⟩ := hS.cells
 go_wp2_with fail
 refine (HC _).mono ?_
 rintro e w4 ⟨rfl,hb4⟩
 replace hS := hS.kept hb4
 clear yi yj yk yl
 obtain ⟨⟨ym,yn,-⟩,⟨yo,yp,-⟩,-⟩ := hS.cells
 go_wp2_with fail
 refine (HA _ ((unhide HT).kept hS.fr) ((unhide HN).kept hS.fr)).mono ?_
 rintro e w5 ⟨rfl,hb5⟩
 replace hS := hS.kept hb5
 clear ym yn yo yp
 obtain ⟨⟨yq,yr,-⟩,⟨ys,yt,-⟩,-⟩ := hS.cells
 go_wp2_with fail
 refine (HB _ ((unhide HT).kept hS.fr) ((unhide HN).kept hS.fr)).mono ?_
 rintro e w6 ⟨rfl,hb6⟩
 replace hS := hS.kept hb6
 clear yq yr ys yt
 obtain ⟨⟨yu,yv,-⟩,⟨yw,yx,-⟩,-⟩ := hS.cells
 go_wp2
 go_ret
 exact ⟨rfl,hS.fr⟩
theorem wider_f (E F E' F' b : Int) (H1 : Tel 12 #[.agg #[.int .i64 E,.int .i64 F]] (.int .i64 0)) (H2 : Tel 12 #[.agg #[.int .i64 E',.int .i64 F']] (.int .i64 0)) (md bk : Nat) (h : ¬ E' < E) (h2 : ¬ F' < F) (h3 : ¬ 4 < (md : Int)) (h4 : ¬ 4 < (bk : Int)) (c : Int) (h5 : (c == (5 : Int)) = false) (h6 : (c == (4 : Int)) = false) (HC : Tel 13 #[.agg #[.int .i64 E,.int .i64 F],.int .u64 b] (.tuple #[.int .u8 c,.int .i64 0])) (a : Int) (HA : ToIs E F E' F' b md a 0 0) (HB : ToIs E' F' E F a bk b 0 0) (s : Bool) (m : Nat) (x : Int) (HV : Hid (Vals E F b s m x)) (HU : Hid (Vals E' F' a s m x)) (HQ : Hid (∀ (W : World) (A A' : Option Addr) (N C N' C' : Nat),Num W A N m → Num W A' N' m → Calls Tryz.prog 15 #[.agg #[.bool s,.slice A N C,.int .i64 x],.agg #[.bool s,.slice A' N' C',.int .i64 x]] W fun e w' => e = .returned (.tuple #[.int .i64 0,.int .i64 0]) ∧ Below W.heap.size W w')) (w : World) (hT : Tb w) (hN : Nb w) :
  Calls Tryz.prog 4 #[.agg #[.int .i64 E,.int .i64 F],.agg #[.int .i64 E',.int .i64 F'],.int .u64 b,.int .u8 (md : Int),.int .u8 (bk : Int)] w fun e w' => e = .returned (.bool true) ∧ Below w.heap.size w w' := by
 have HT := hide hT
 have HN := hide hN
 clear hT hN
 go_enter Tryz.func4,Tryz.ntmps4
 go_wp2_with fail
 refine (talive_any _ ((unhide HT).kept (Fs.two w _ _ _ _).fr) ((unhide HN).kept (Fs.two w _ _ _ _).fr)).mono ?_
 rintro e w1 ⟨rfl,hb1⟩
 have hS := (Fs.two w _ _ _ _).kept hb1
 obtain ⟨⟨ya,yb,-⟩,⟨yc,yd,-⟩,-⟩ := hS.cells
 go_wp2_with fail
 refine (H1 _).mono ?_
 rintro e w2 ⟨rfl,hb2⟩
 replace hS := hS.kept hb2
 clear ya yb yc yd
 obtain ⟨⟨ye,yf,-⟩,⟨yg,yh,-⟩,-⟩ := hS.cells
 go_wp2_with fail
 refine (H2 _).mono ?_
 rintro e w3 ⟨rfl,hb3⟩
 replace hS := hS.kept hb3
 clear ye yf yg yh
 obtain ⟨⟨yi,yj,-⟩,⟨yk,yl,-⟩,-⟩ := hS.cells
 go_wp2_with fail
 refine (HC _).mono ?_
 rintro e w4 ⟨rfl,hb4⟩
 replace hS := hS.kept hb4
 clear yi yj yk yl
 obtain ⟨⟨ym,yn,-⟩,⟨yo,yp,-⟩,-⟩ := hS.cells
 go_wp2_with fail
 refine (HA _ ((unhide HT).kept hS.fr) ((unhide HN).kept hS.fr)).mono ?_
 rintro e w5 ⟨rfl,hb5⟩
 replace hS := hS.kept hb5
 clear ym yn yo yp
 obtain ⟨⟨yq,yr,-⟩,⟨ys,yt,-⟩,-⟩ := hS.cells
 go_wp2_with fail
 refine (HB _ ((unhide HT).kept hS.fr) ((unhide HN).kept hS.fr)).mono ?_
 rintro e w6 ⟨rfl,hb6⟩
 replace hS := hS.kept hb6
 clear yq yr ys yt
 obtain ⟨⟨yu,yv,-⟩,⟨yw,yx,-⟩,-⟩ := hS.cells
 have hsV := hS.size
 go_wp2_with fail
 refine (unhide HV _ ((unhide HT).kept hS.fr)).mono ?_
 rintro e w7 ⟨⟨A1,N1,C1,rfl,f1⟩,hb7⟩
 replace hS := hS.kept hb7
 clear yu yv yw yx
 obtain ⟨⟨yy,yz,-⟩,⟨y0,y1,-⟩,-⟩ := hS.cells
 have G1 := hide (f1.mono (base' := w.heap.size) hsV)
 clear f1 hsV
 have hltw7_0 : w.heap.size < w7.heap.size := hS.lt 0 rfl
 have hltw7_1 : w.heap.size + 1 < w7.heap.size := hS.lt 1 rfl
 obtain ⟨WU,hWU⟩ : ∃ WU,w7.alloc (.cells #[.bool s,.slice A1 N1 C1,.int .i64 x] 42) = WU := ⟨_,rfl⟩
 replace hS := hS.alloc #[.bool s,.slice A1 N1 C1,.int .i64 x] 42
 rw [hWU] at hS
 replace G1 := hide (hWU ▸ (unhide G1).alloc (.cells #[.bool s,.slice A1 N1 C1,.int .i64 x] 42))
 clear yy yz y0 y1
 obtain ⟨⟨y2,y3,y4,-⟩,⟨y5,y6,-⟩,⟨y7,y8,-⟩,-⟩ := hS.cells
 have hsV := hS.size
 go_wp2_with fail
 refine (unhide HU _ ((unhide HT).kept hS.fr)).mono ?_
 rintro e w8 ⟨⟨A2,N2,C2,rfl,f2⟩,hb8⟩
 replace hS := hS.kept hb8
 clear y2 y3 y4 y5 y6 y7 y8
 obtain ⟨⟨y9,yba,ybb,-⟩,⟨ybc,ybd,-⟩,⟨ybe,ybf,-⟩,-⟩ := hS.cells
 replace G1 := hide ((unhide G1).kept hb8)
 have G2 := hide (f2.mono (base' := w.heap.size) hsV)
 clear f2 hsV
 have hltw8_0 : w7.heap.size < w8.heap.size := hS.lt 0 rfl
 have hltw8_1 : w.heap.size < w8.heap.size := hS.lt 1 rfl
 have hltw8_2 : w.heap.size + 1 < w8.heap.size := hS.lt 2 rfl
 obtain ⟨WX,hWX⟩ : ∃ WX,w8.alloc (.cells #[.bool s,.slice A2 N2 C2,.int .i64 x] 42) = WX := ⟨_,rfl⟩
 replace hS := hS.alloc #[.bool s,.slice A2 N2 C2,.int .i64 x] 42
 rw [hWX] at hS
 replace G1 := hide (hWX ▸ (unhide G1).alloc (.cells #[.bool s,.slice A2 N2 C2,.int .i64 x] 42))
 replace G2 := hide (hWX ▸ (unhide G2).alloc (.cells #[.bool s,.slice A2 N2 C2,.int .i64 x] 42))
 clear y9 yba ybb ybc ybd ybe ybf
 obtain ⟨⟨ybg,ybh,ybi,-⟩,⟨ybj,ybk,ybl,-⟩,⟨ybm,ybn,-⟩,⟨ybo,ybp,-⟩,-⟩ := hS.cells
 go_wp2_with fail
 refine (unhide HQ _ _ _ _ _ _ _ (unhide G1).num (unhide G2).num).mono ?_
 rintro e w9 ⟨rfl,hb9⟩
 replace hS := hS.kept hb9
 clear ybg ybh ybi ybj ybk ybl ybm ybn ybo ybp
 obtain ⟨⟨ybq,ybr,ybs,-⟩,⟨ybt,ybu,ybv,-⟩,⟨ybw,ybx,-⟩,⟨yby,ybz,-⟩,-⟩ := hS.cells
 replace G1 := hide ((unhide G1).kept hb9)
 replace G2 := hide ((unhide G2).kept hb9)
 go_wp2
 go_ret
 exact ⟨rfl,hS.fr⟩
theorem form_cases (E F : Int) : NoFo E F ∨ ∃ e f S I : Nat,E = (e : Int) ∧ F = (f : Int) ∧ Fm e f S I := by
 by_cases h : NoFo E F
 ·exact Or.inl h
 ·unfold NoFo at h
  exact Or.inr ⟨E.toNat,F.toNat,_,_,by omega,by omega,⟨⟨by omega,by omega,by omega,by omega⟩,rfl,rfl⟩⟩
theorem cmp_same (s : Bool) (m : Nat) (x : Int) (hA : (m = 0 ∧ s = false ∧ x = 0) ∨ (m % 2 = 1 ∧ -1073741824 ≤ x ∧ x ≤ 1073741824)) (W : World) (A A' : Option Addr) (N C N' C' : Nat) (g : Num W A N m) (g' : Num W A' N' m) :
  Calls Tryz.prog 15 #[.agg #[.bool s,.slice A N C,.int .i64 x],.agg #[.bool s,.slice A' N' C',.int .i64 x]] W fun e w' => e = .returned (.tuple #[.int .i64 0,.int .i64 0]) ∧ Below W.heap.size W w' := by
 have := Cmp_any s A N C m x s A' N' C' m x x 0 0 W ⟨g,hA⟩ ⟨g',hA⟩ (by omega) (by omega)
 rw [cmp3_eq rfl] at this
 exact this
theorem bt_inf {E F S I : Nat} (h : Fm E F S I) (neg : Bool) : Bt E F (infS S I neg) neg (2 ^ E - 1) 0 := by
 have := pow_pos2 E
 refine ⟨pow_pos2 F,by omega,?_⟩
 unfold infS
 rw [h.hI,h.hS]
 cases neg <;> simp
theorem bt_zero {E F S I : Nat} (h : Fm E F S I) (neg : Bool) : Bt E F (if neg then S else 0) neg 0 0 :=
 ⟨pow_pos2 F,pow_pos2 E,by rw [h.hS]; cases neg <;> simp⟩
theorem Bt.same {E F b b' ex fr : Nat} {neg : Bool} (h : Bt E F b neg ex fr) (h' : Bt E F b' neg ex fr) : b = b' := by rw [h.eq,h'.eq]
theorem turnWider_any (E F E' F' : Int) (b md bk : Nat) (w : World) (hT : Tb w) (hN : Nb w) :
  Calls Tryz.prog 4 #[.agg #[.int .i64 E,.int .i64 F],.agg #[.int .i64 E',.int .i64 F'],.int .u64 (b : Int),.int .u8 (md : Int),.int .u8 (bk : Int)] w fun e w' => e = .returned (.bool true) ∧ Below w.heap.size w w' := by
 rcases form_cases E F with hn | ⟨E,F,S,I,rfl,rfl,h⟩
 ·rcases form_cases E' F' with hn' | ⟨E',F',S',I',rfl,rfl,h'⟩
  ·exact wider_o0 _ _ _ _ b md bk _ (check_B hn) (check_B hn') w hT hN
  ·exact wider_o0 _ _ _ _ b md bk _ (check_B hn) (check_T h') w hT hN
 rcases form_cases E' F' with hn' | ⟨E',F',S',I',rfl,rfl,h'⟩
 ·exact wider_o1 _ _ _ _ b md bk (check_T h) (check_B hn') w hT hN
 by_cases g1 : (E' : Int) < (E : Int)
 ·exact wider_o2 _ _ _ _ b md bk (check_T h) (check_T h') g1 w hT hN
 by_cases g2 : (F' : Int) < (F : Int)
 ·exact wider_o3 _ _ _ _ b md bk (check_T h) (check_T h') g1 g2 w hT hN
 by_cases g3 : (4 : Int) < (md : Int)
 ·exact wider_o4 _ _ _ _ b md bk (check_T h) (check_T h') g1 g2 g3 w hT hN
 by_cases g4 : (4 : Int) < (bk : Int)
 ·exact wider_o5 _ _ _ _ b md bk (check_T h) (check_T h') g1 g2 g3 g4 w hT hN
 by_cases hb : b < 2 * S
 case neg => exact wider_e _ _ _ _ b md bk (check_T h) (check_T h') g1 g2 g3 g4 0 6 rfl (fun W => Class_many E F b h.fo (h.tb hb) W) w hT hN
 have hB := Bt.of E F b (h.bt hb)
 generalize decide (b / 2 ^ (F + E) = 1) = neg at hB
 generalize b % 2 ^ (F + E) / 2 ^ F = ex at hB
 generalize b % 2 ^ F = fr at hB
 have hE4 := pow_bound (n := 2) (k := E) h.fo.e2
 have HC : ∀ c : Nat,cls ex fr (2 ^ E - 1) = c → Tel 13 #[.agg #[.int .i64 E,.int .i64 F],.int .u64 (b : Int)] (.tuple #[.int .u8 (c : Int),.int .i64 0]) := fun c hc W => by
  have := Class_ok E F b ex fr neg h.fo hB _ (hide rfl) W
  rw [hc] at this
  exact this
 have hm : md ≤ 4 := by omega
 have hk4 : bk ≤ 4 := by omega
 by_cases hx : ex + 1 = 2 ^ E
 ·by_cases hf : fr = 0
  ·have hc : cls ex fr (2 ^ E - 1) = 4 := by unfold cls; rw [if_neg (by omega),if_neg (by omega),if_neg (by omega),if_pos hf]
   have hBi : Bt E F b neg (2 ^ E - 1) 0 := by rw [show 2 ^ E - 1 = ex from by omega,← hf]; exact hB
   have hA := to_inf h h' hm hBi
   have hA2 := to_inf h' h hk4 (bt_inf h' neg)
   rw [(bt_inf h neg).same hBi] at hA2
   exact wider_i _ _ _ _ b (check_T h) (check_T h') md bk g1 g2 g3 g4 (HC 4 hc) _ hA hA2 w hT hN
  ·have hc : cls ex fr (2 ^ E - 1) = 5 := by unfold cls; rw [if_neg (by omega),if_neg (by omega),if_neg (by omega),if_neg hf]
   exact wider_n _ _ _ _ b md bk (check_T h) (check_T h') g1 g2 g3 g4 (HC 5 hc) w hT hN
 have hfin : ex + 1 < 2 ^ E := by have := hB.ex_lt; omega
 obtain ⟨B,hBi⟩ : ∃ B,B = 2 ^ (E - 1) - 1 := ⟨_,rfl⟩
 obtain ⟨B',hBi'⟩ : ∃ B',B' = 2 ^ (E' - 1) - 1 := ⟨_,rfl⟩
 by_cases hz : ex = 0 ∧ fr = 0
 ·obtain ⟨rfl,rfl⟩ := hz
  have hA := to_zero h h' hm hB
  have hA2 := to_zero h' h hk4 (bt_zero h' neg)
  rw [(bt_zero h neg).same hB] at hA2
  exact wider_f _ _ _ _ b (check_T h) (check_T h') md bk g1 g2 g3 g4 _ rfl rfl (HC 1 (by unfold cls; rw [if_pos ⟨rfl,rfl⟩])) _ hA hA2 false 0 0 (hide (vals_zero h.fo (hide hBi) hB)) (hide (vals_zero h'.fo (hide hBi') (bt_zero h' neg))) (hide (cmp_same false 0 0 (Or.inl ⟨rfl,rfl,rfl⟩))) w hT hN
 obtain ⟨M,z,xe,hW⟩ := Wo.ex (B := B) hfin hB.fr_lt hz
 have hc : ∃ c : Nat,cls ex fr (2 ^ E - 1) = c ∧ (c = 2 ∨ c = 3) := by
  unfold cls
  by_cases he : ex = 0
  ·exact ⟨2,by rw [if_neg hz,if_pos he],Or.inl rfl⟩
  ·exact ⟨3,by rw [if_neg hz,if_neg he,if_pos (by omega)],Or.inr rfl⟩
 obtain ⟨c,hc1,hc2⟩ := hc
 obtain ⟨ex',fr',M',z',xe',hW',e1,e2⟩ := wider_wo hW h.fo.e2 hBi hBi' (E' := E') (F' := F') (by omega) (by omega)
 have hfin' := hW'.fin
 have hB' : Bt E' F' (neg.toNat * 2 ^ (F' + E') + (ex' * 2 ^ F' + fr')) neg ex' fr' := ⟨hW'.frl,by omega,rfl⟩
 generalize neg.toNat * 2 ^ (F' + E') + (ex' * 2 ^ F' + fr') = a at hB'
 have hk := bl_blen (M / 2 ^ z)
 have hA := to_wo (md := md) h h' hBi hBi' hm hB hW hk
 rw [← e1] at hk
 have hA2 := to_wo (md := bk) h' h hBi' hBi hk4 hB' hW' hk
 obtain ⟨r1,r2⟩ := worth_round h' hB' hW' hk md
 rw [← e1,← e2,r1,r2] at hA
 rw [e1] at hk
 obtain ⟨r3,r4⟩ := worth_round h hB hW hk bk
 rw [e1,e2,r3,r4] at hA2
 have hv := vals_wo h.fo (hide hBi) hB hW
 have hv' := vals_wo h'.fo (hide hBi') hB' hW'
 rw [e1,e2] at hv'
 have hrg := hW.range h.fo (hide hBi)
 have hzl := hW.zle
 have hF := h.fo.f52
 exact wider_f _ _ _ _ b (check_T h) (check_T h') md bk g1 g2 g3 g4 c (by simp; omega) (by simp; omega) (HC c hc1) a hA hA2 neg _ _ (hide hv) (hide hv') (hide (cmp_same neg _ _ (Or.inr ⟨hW.odd.1,by omega,by omega⟩))) w hT hN
end Go.Proofs.YtbgafednekomhaaGreatDoor
