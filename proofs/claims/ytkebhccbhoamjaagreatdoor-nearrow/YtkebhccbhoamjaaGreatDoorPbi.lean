/- Of what NearRowRow stands on: NrRowB NrMidN. -/
import Derived.Test.YtkebhccbhoamjaaGreatDoorPbe
import Derived.Test.YtkebhccbhoamjaaGreatDoorPbh
import Derived.Test.YtkebhccbhoamjaaGreatDoorPbf
namespace Go.Proofs.YtkebhccbhoamjaaGreatDoor
open Go.RowKit
set_option maxHeartbeats 8000000
set_option maxRecDepth 20000
theorem row_B (E F a b : Int) (k1 e1 o1 h1 n1 j1 : Int) (i1 d1 : Bool) (HC1 : Tel 18 #[.agg #[.int .i64 E,.int .i64 F],.int .u64 a,.int .u64 b] (.tuple #[.int .i64 k1,.bool i1,.int .i64 e1])) (RC1 : Tel 19 #[.agg #[.int .i64 E,.int .i64 F],.int .u64 a,.int .u64 b] (.tuple #[.int .i64 k1,.bool i1,.int .i64 e1])) (HO1 : Tel 20 #[.agg #[.int .i64 E,.int .i64 F],.int .u64 a,.int .u64 b] (.tuple #[.int .i64 o1,.int .i64 h1])) (RO1 : Tel 21 #[.agg #[.int .i64 E,.int .i64 F],.int .u64 a,.int .u64 b] (.tuple #[.int .i64 o1,.int .i64 h1])) (HS1 : Tel 22 #[.agg #[.int .i64 E,.int .i64 F],.int .u64 a,.int .u64 b] (.tuple #[.bool d1,.int .u64 n1,.int .i64 j1])) (RS1 : Tel 23 #[.agg #[.int .i64 E,.int .i64 F],.int .u64 a,.int .u64 b] (.tuple #[.bool d1,.int .u64 n1,.int .i64 j1])) (s1 : Bool) (v1 : Nat) (x1 : Int) (HM1 : Hid (∀ W : World,Tb W → Calls Tryz.prog 24 #[.agg #[.int .i64 E,.int .i64 F],.int .u64 a,.int .u64 b] W fun e w' => (∃ A N C,e = .returned (.tuple #[.agg #[.bool s1,.slice A N C,.int .i64 x1],.int .i64 0]) ∧ Mine w' W.heap.size A N C v1) ∧ Below W.heap.size W w')) (RM1 : Hid (∀ W : World,Calls Tryz.prog 25 #[.agg #[.int .i64 E,.int .i64 F],.int .u64 a,.int .u64 b] W fun e w' => (∃ A N C,e = .returned (.tuple #[.agg #[.bool s1,.slice A N C,.int .i64 x1],.int .i64 0]) ∧ Mine w' W.heap.size A N C v1) ∧ Below W.heap.size W w')) (k2 e2 o2 h2 n2 j2 : Int) (i2 d2 : Bool) (HC2 : Tel 18 #[.agg #[.int .i64 E,.int .i64 F],.int .u64 b,.int .u64 a] (.tuple #[.int .i64 k2,.bool i2,.int .i64 e2])) (RC2 : Tel 19 #[.agg #[.int .i64 E,.int .i64 F],.int .u64 b,.int .u64 a] (.tuple #[.int .i64 k2,.bool i2,.int .i64 e2])) (HO2 : Tel 20 #[.agg #[.int .i64 E,.int .i64 F],.int .u64 b,.int .u64 a] (.tuple #[.int .i64 o2,.int .i64 h2])) (RO2 : Tel 21 #[.agg #[.int .i64 E,.int .i64 F],.int .u64 b,.int .u64 a] (.tuple #[.int .i64 o2,.int .i64 h2])) (HS2 : Tel 22 #[.agg #[.int .i64 E,.int .i64 F],.int .u64 b,.int .u64 a] (.tuple #[.bool d2,.int .u64 n2,.int .i64 j2])) (RS2 : Tel 23 #[.agg #[.int .i64 E,.int .i64 F],.int .u64 b,.int .u64 a] (.tuple #[.bool d2,.int .u64 n2,.int .i64 j2])) (s2 : Bool) (v2 : Nat) (x2 : Int) (HM2 : Hid (∀ W : World,Tb W → Calls Tryz.prog 24 #[.agg #[.int .i64 E,.int .i64 F],.int .u64 b,.int .u64 a] W fun e w' => (∃ A N C,e = .returned (.tuple #[.agg #[.bool s2,.slice A N C,.int .i64 x2],.int .i64 0]) ∧ Mine w' W.heap.size A N C v2) ∧ Below W.heap.size W w')) (RM2 : Hid (∀ W : World,Calls Tryz.prog 25 #[.agg #[.int .i64 E,.int .i64 F],.int .u64 b,.int .u64 a] W fun e w' => (∃ A N C,e = .returned (.tuple #[.agg #[.bool s2,.slice A N C,.int .i64 x2],.int .i64 0]) ∧ Mine w' W.heap.size A N C v2) ∧ Below W.heap.size W w'))  (w : World) (hT : Tb w) (HW : Hid (∀ W : World,Below w.heap.size w W → Calls Tryz.prog 9 #[] W fun e w' => e = .returned (.bool true) ∧ Below W.heap.size W w')) :
  Calls Tryz.prog 4 #[.agg #[.int .i64 E,.int .i64 F],.int .u64 a,.int .u64 b] w fun e w' => e = .returned (.bool true) ∧ Below w.heap.size w w' := by
 have HT := hide hT
 clear hT
 go_enter Tryz.func4,Tryz.ntmps4
 go_wp2_with fail
 refine (unhide HW _ (Fs.one w _ _).fr).mono ?_
 rintro e w1 ⟨rfl,hb1⟩
 have hS := (Fs.one w _ _).kept hb1
 obtain ⟨⟨ya,yb,-⟩,-⟩ := hS.cells
 go_wp2
 refine wp_loop_rounds 3 ?_
 rw [rounds_succ]
 go_wp2_with fail
 refine (HC1 _).mono ?_
 rintro e w2 ⟨rfl,hb2⟩
 replace hS := hS.kept hb2
 clear ya yb
 obtain ⟨⟨yc,yd,-⟩,-⟩ := hS.cells
 go_wp2_with fail
 refine (RC1 _).mono ?_
 rintro e w3 ⟨rfl,hb3⟩
 replace hS := hS.kept hb3
 clear yc yd
 obtain ⟨⟨ye,yf,-⟩,-⟩ := hS.cells
 go_wp2_with fail
 refine (HO1 _).mono ?_
 rintro e w4 ⟨rfl,hb4⟩
 replace hS := hS.kept hb4
 clear ye yf
 obtain ⟨⟨yg,yh,-⟩,-⟩ := hS.cells
 go_wp2_with fail
 refine (RO1 _).mono ?_
 rintro e w5 ⟨rfl,hb5⟩
 replace hS := hS.kept hb5
 clear yg yh
 obtain ⟨⟨yi,yj,-⟩,-⟩ := hS.cells
 go_wp2_with fail
 refine (HS1 _).mono ?_
 rintro e w6 ⟨rfl,hb6⟩
 replace hS := hS.kept hb6
 clear yi yj
 obtain ⟨⟨yk,yl,-⟩,-⟩ := hS.cells
 go_wp2_with fail
 refine (RS1 _).mono ?_
 rintro e w7 ⟨rfl,hb7⟩
 replace hS := hS.kept hb7
 clear yk yl
 obtain ⟨⟨ym,yn,-⟩,-⟩ := hS.cells
 have hltw7_0 : w.heap.size < w7.heap.size := hS.lt 0 rfl
 go_wp2_with fail
 refine (unhide HM1 _ ((unhide HT).kept hS.fr)).mono ?_
 rintro e w8 ⟨⟨A11,N11,C11,rfl,g1⟩,hb8⟩
 replace hS := hS.kept hb8
 clear ym yn
 obtain ⟨⟨yo,yp,-⟩,-⟩ := hS.cells
 have hT1 : ∀ g,A11 = some ⟨g,0,none⟩ → g < w8.heap.size := fun g e => by rcases mine_parts g1 with ⟨e2,_⟩ | ⟨g2,e2,_,h2⟩; (rw [e2] at e; cases e); (rw [e2] at e; cases e; exact h2)
 have hz1 : w7.heap.size ≤ w8.heap.size := hb8.size
 have G1 := hide g1
 clear g1
 have hltw8_0 : w.heap.size < w8.heap.size := hS.lt 0 rfl
 replace hS := hS.alloc #[.bool s1,.slice A11 N11 C11,.int .i64 x1] 33
 replace G1 := hide ((unhide G1).alloc (.cells #[.bool s1,.slice A11 N11 C11,.int .i64 x1] 33))
 clear yo yp
 obtain ⟨⟨yq,yr,ys,-⟩,⟨yt,yu,-⟩,-⟩ := hS.cells
 have hZ : w8.heap.size ≤ (w8.alloc (.cells #[.bool s1,.slice A11 N11 C11,.int .i64 x1] 33)).heap.size := by simp only [World.size_alloc]; omega
 go_wp2_with fail
 refine (unhide RM1 _).mono ?_
 rintro e w9 ⟨⟨A12,N12,C12,rfl,g2⟩,hb9⟩
 replace hS := hS.kept hb9
 clear yq yr ys yt yu
 obtain ⟨⟨yv,yw,yx,-⟩,⟨yy,yz,-⟩,-⟩ := hS.cells
 replace G1 := hide ((unhide G1).kept hb9)
 have G2 := hide (g2.mono (base' := w8.heap.size) hZ)
 clear g2
 have hltw9_0 : w8.heap.size < w9.heap.size := hS.lt 0 rfl
 have hltw9_1 : w.heap.size < w9.heap.size := hS.lt 1 rfl
 replace hS := hS.alloc #[.bool s1,.slice A12 N12 C12,.int .i64 x1] 33
 replace G1 := hide ((unhide G1).alloc (.cells #[.bool s1,.slice A12 N12 C12,.int .i64 x1] 33))
 replace G2 := hide ((unhide G2).alloc (.cells #[.bool s1,.slice A12 N12 C12,.int .i64 x1] 33))
 clear yv yw yx yy yz
 obtain ⟨⟨y0,y1,y2,-⟩,⟨y3,y4,y5,-⟩,⟨y6,y7,-⟩,-⟩ := hS.cells
 go_wp2_with fail
 refine (sdy_yes s1 _ _ _ v1 x1 _ _ _ _ (unhide G1).num (unhide G2).num).mono ?_
 rintro e w10 ⟨rfl,hb10⟩
 replace hS := hS.kept hb10
 clear y0 y1 y2 y3 y4 y5 y6 y7
 obtain ⟨⟨y8,y9,yba,-⟩,⟨ybb,ybc,ybd,-⟩,⟨ybe,ybf,-⟩,-⟩ := hS.cells
 replace G1 := hide ((unhide G1).kept hb10)
 replace G2 := hide ((unhide G2).kept hb10)
 have hltw10_0 : w9.heap.size < w10.heap.size := hS.lt 0 rfl
 have hltw10_1 : w8.heap.size < w10.heap.size := hS.lt 1 rfl
 have hltw10_2 : w.heap.size < w10.heap.size := hS.lt 2 rfl
 have hq1 := hS.size
 go_wp2_with fail
 refine (spoil_mine (T := w8.heap.size) (unhide G1) (by omega) hT1).mono ?_
 rintro e w11 ⟨rfl,hsp⟩
 replace hS := hS.spoilR hsp (by omega) (by intro x hx; rcases List.mem_cons.1 hx with rfl | hx; (simp only []; omega); rcases List.mem_cons.1 hx with rfl | hx; (simp only []; omega); rcases List.mem_cons.1 hx with rfl | hx; (simp only []; omega);  exact absurd hx List.not_mem_nil)
 replace G2 := hide ((unhide G2).spoilR hsp (Nat.le_refl _))
 clear G1 hsp y8 y9 yba ybb ybc ybd ybe ybf
 obtain ⟨⟨ybg,ybh,ybi,-⟩,⟨ybj,ybk,ybl,-⟩,⟨ybm,ybn,-⟩,-⟩ := hS.cells
 go_wp2_with fail
 refine (unhide HM1 _ ((unhide HT).kept hS.fr)).mono ?_
 rintro e w12 ⟨⟨A13,N13,C13,rfl,g3⟩,hb12⟩
 replace hS := hS.kept hb12
 clear ybg ybh ybi ybj ybk ybl ybm ybn
 obtain ⟨⟨ybo,ybp,ybq,-⟩,⟨ybr,ybs,ybt,-⟩,⟨ybu,ybv,-⟩,-⟩ := hS.cells
 replace G2 := hide ((unhide G2).kept hb12)
 have G3 := hide g3
 clear g3
 have hltw12_0 : w9.heap.size < w12.heap.size := hS.lt 0 rfl
 have hltw12_1 : w8.heap.size < w12.heap.size := hS.lt 1 rfl
 have hltw12_2 : w.heap.size < w12.heap.size := hS.lt 2 rfl
 replace hS := hS.alloc #[.bool s1,.slice A13 N13 C13,.int .i64 x1] 33
 replace G2 := hide ((unhide G2).alloc (.cells #[.bool s1,.slice A13 N13 C13,.int .i64 x1] 33))
 replace G3 := hide ((unhide G3).alloc (.cells #[.bool s1,.slice A13 N13 C13,.int .i64 x1] 33))
 clear ybo ybp ybq ybr ybs ybt ybu ybv
 obtain ⟨⟨ybw,ybx,yby,-⟩,⟨ybz,yb0,yb1,-⟩,⟨yb2,yb3,yb4,-⟩,⟨yb5,yb6,-⟩,-⟩ := hS.cells
 go_wp2_with fail
 refine (sdy_yes s1 _ _ _ v1 x1 _ _ _ _ (unhide G3).num (unhide G2).num).mono ?_
 rintro e w13 ⟨rfl,hb13⟩
 replace hS := hS.kept hb13
 clear ybw ybx yby ybz yb0 yb1 yb2 yb3 yb4 yb5 yb6
 obtain ⟨⟨yb7,yb8,yb9,-⟩,⟨yca,ycb,ycc,-⟩,⟨ycd,yce,ycf,-⟩,⟨ycg,ych,-⟩,-⟩ := hS.cells
 replace G2 := hide ((unhide G2).kept hb13)
 replace G3 := hide ((unhide G3).kept hb13)
 go_wp2
 replace hS := hS.sub (bs' := [⟨w.heap.size,#[.int .i64 E,.int .i64 F],23⟩]) (by simp)
 clear yb7 yb8 yb9 yca ycb ycc ycd yce ycf ycg ych
 obtain ⟨⟨yci,ycj,-⟩,-⟩ := hS.cells
 clear G2 G3
 rw [rounds_succ]
 go_wp2_with fail
 refine (HC2 _).mono ?_
 rintro e w14 ⟨rfl,hb14⟩
 replace hS := hS.kept hb14
 clear yci ycj
 obtain ⟨⟨yck,ycl,-⟩,-⟩ := hS.cells
 go_wp2_with fail
 refine (RC2 _).mono ?_
 rintro e w15 ⟨rfl,hb15⟩
 replace hS := hS.kept hb15
 clear yck ycl
 obtain ⟨⟨ycm,ycn,-⟩,-⟩ := hS.cells
 go_wp2_with fail
 refine (HO2 _).mono ?_
 rintro e w16 ⟨rfl,hb16⟩
 replace hS := hS.kept hb16
 clear ycm ycn
 obtain ⟨⟨yco,ycp,-⟩,-⟩ := hS.cells
 go_wp2_with fail
 refine (RO2 _).mono ?_
 rintro e w17 ⟨rfl,hb17⟩
 replace hS := hS.kept hb17
 clear yco ycp
 obtain ⟨⟨ycq,ycr,-⟩,-⟩ := hS.cells
 go_wp2_with fail
 refine (HS2 _).mono ?_
 rintro e w18 ⟨rfl,hb18⟩
 replace hS := hS.kept hb18
 clear ycq ycr
 obtain ⟨⟨ycs,yct,-⟩,-⟩ := hS.cells
 go_wp2_with fail
 refine (RS2 _).mono ?_
 rintro e w19 ⟨rfl,hb19⟩
 replace hS := hS.kept hb19
 clear ycs yct
 obtain ⟨⟨ycu,ycv,-⟩,-⟩ := hS.cells
 have hltw19_0 : w.heap.size < w19.heap.size := hS.lt 0 rfl
 go_wp2_with fail
 refine (unhide HM2 _ ((unhide HT).kept hS.fr)).mono ?_
 rintro e w20 ⟨⟨A21,N21,C21,rfl,g1⟩,hb20⟩
 replace hS := hS.kept hb20
 clear ycu ycv
 obtain ⟨⟨ycw,ycx,-⟩,-⟩ := hS.cells
 have hT2 : ∀ g,A21 = some ⟨g,0,none⟩ → g < w20.heap.size := fun g e => by rcases mine_parts g1 with ⟨e2,_⟩ | ⟨g2,e2,_,h2⟩; (rw [e2] at e; cases e); (rw [e2] at e; cases e; exact h2)
 have hz2 : w19.heap.size ≤ w20.heap.size := hb20.size
 have G1 := hide g1
 clear g1
 have hltw20_0 : w.heap.size < w20.heap.size := hS.lt 0 rfl
 replace hS := hS.alloc #[.bool s2,.slice A21 N21 C21,.int .i64 x2] 33
 replace G1 := hide ((unhide G1).alloc (.cells #[.bool s2,.slice A21 N21 C21,.int .i64 x2] 33))
 clear ycw ycx
 obtain ⟨⟨ycy,ycz,yc0,-⟩,⟨yc1,yc2,-⟩,-⟩ := hS.cells
 have hZ : w20.heap.size ≤ (w20.alloc (.cells #[.bool s2,.slice A21 N21 C21,.int .i64 x2] 33)).heap.size := by simp only [World.size_alloc]; omega
 go_wp2_with fail
 refine (unhide RM2 _).mono ?_
 rintro e w21 ⟨⟨A22,N22,C22,rfl,g2⟩,hb21⟩
 replace hS := hS.kept hb21
 clear ycy ycz yc0 yc1 yc2
 obtain ⟨⟨yc3,yc4,yc5,-⟩,⟨yc6,yc7,-⟩,-⟩ := hS.cells
 replace G1 := hide ((unhide G1).kept hb21)
 have G2 := hide (g2.mono (base' := w20.heap.size) hZ)
 clear g2
 have hltw21_0 : w20.heap.size < w21.heap.size := hS.lt 0 rfl
 have hltw21_1 : w.heap.size < w21.heap.size := hS.lt 1 rfl
 replace hS := hS.alloc #[.bool s2,.slice A22 N22 C22,.int .i64 x2] 33
 replace G1 := hide ((unhide G1).alloc (.cells #[.bool s2,.slice A22 N22 C22,.int .i64 x2] 33))
 replace G2 := hide ((unhide G2).alloc (.cells #[.bool s2,.slice A22 N22 C22,.int .i64 x2] 33))
 clear yc3 yc4 yc5 yc6 yc7
 obtain ⟨⟨yc8,yc9,yda,-⟩,⟨ydb,ydc,ydd,-⟩,⟨yde,ydf,-⟩,-⟩ := hS.cells
 go_wp2_with fail
 refine (sdy_yes s2 _ _ _ v2 x2 _ _ _ _ (unhide G1).num (unhide G2).num).mono ?_
 rintro e w22 ⟨rfl,hb22⟩
 replace hS := hS.kept hb22
 clear yc8 yc9 yda ydb ydc ydd yde ydf
 obtain ⟨⟨ydg,ydh,ydi,-⟩,⟨ydj,ydk,ydl,-⟩,⟨ydm,ydn,-⟩,-⟩ := hS.cells
 replace G1 := hide ((unhide G1).kept hb22)
 replace G2 := hide ((unhide G2).kept hb22)
 have hltw22_0 : w21.heap.size < w22.heap.size := hS.lt 0 rfl
 have hltw22_1 : w20.heap.size < w22.heap.size := hS.lt 1 rfl
 have hltw22_2 : w.heap.size < w22.heap.size := hS.lt 2 rfl
 have hq2 := hS.size
 go_wp2_with fail
 refine (spoil_mine (T := w20.heap.size) (unhide G1) (by omega) hT2).mono ?_
 rintro e w23 ⟨rfl,hsp⟩
 replace hS := hS.spoilR hsp (by omega) (by intro x hx; rcases List.mem_cons.1 hx with rfl | hx; (simp only []; omega); rcases List.mem_cons.1 hx with rfl | hx; (simp only []; omega); rcases List.mem_cons.1 hx with rfl | hx; (simp only []; omega);  exact absurd hx List.not_mem_nil)
 replace G2 := hide ((unhide G2).spoilR hsp (Nat.le_refl _))
 clear G1 hsp ydg ydh ydi ydj ydk ydl ydm ydn
 obtain ⟨⟨ydo,ydp,ydq,-⟩,⟨ydr,yds,ydt,-⟩,⟨ydu,ydv,-⟩,-⟩ := hS.cells
 go_wp2_with fail
 refine (unhide HM2 _ ((unhide HT).kept hS.fr)).mono ?_
 rintro e w24 ⟨⟨A23,N23,C23,rfl,g3⟩,hb24⟩
 replace hS := hS.kept hb24
 clear ydo ydp ydq ydr yds ydt ydu ydv
 obtain ⟨⟨ydw,ydx,ydy,-⟩,⟨ydz,yd0,yd1,-⟩,⟨yd2,yd3,-⟩,-⟩ := hS.cells
 replace G2 := hide ((unhide G2).kept hb24)
 have G3 := hide g3
 clear g3
 have hltw24_0 : w21.heap.size < w24.heap.size := hS.lt 0 rfl
 have hltw24_1 : w20.heap.size < w24.heap.size := hS.lt 1 rfl
 have hltw24_2 : w.heap.size < w24.heap.size := hS.lt 2 rfl
 replace hS := hS.alloc #[.bool s2,.slice A23 N23 C23,.int .i64 x2] 33
 replace G2 := hide ((unhide G2).alloc (.cells #[.bool s2,.slice A23 N23 C23,.int .i64 x2] 33))
 replace G3 := hide ((unhide G3).alloc (.cells #[.bool s2,.slice A23 N23 C23,.int .i64 x2] 33))
 clear ydw ydx ydy ydz yd0 yd1 yd2 yd3
 obtain ⟨⟨yd4,yd5,yd6,-⟩,⟨yd7,yd8,yd9,-⟩,⟨yea,yeb,yec,-⟩,⟨yed,yee,-⟩,-⟩ := hS.cells
 go_wp2_with fail
 refine (sdy_yes s2 _ _ _ v2 x2 _ _ _ _ (unhide G3).num (unhide G2).num).mono ?_
 rintro e w25 ⟨rfl,hb25⟩
 replace hS := hS.kept hb25
 clear yd4 yd5 yd6 yd7 yd8 yd9 yea yeb yec yed yee
 obtain ⟨⟨yef,yeg,yeh,-⟩,⟨yei,yej,yek,-⟩,⟨yel,yem,yen,-⟩,⟨yeo,yep,-⟩,-⟩ := hS.cells
 replace G2 := hide ((unhide G2).kept hb25)
 replace G3 := hide ((unhide G3).kept hb25)
 go_wp2
 replace hS := hS.sub (bs' := [⟨w.heap.size,#[.int .i64 E,.int .i64 F],23⟩]) (by simp)
 clear yef yeg yeh yei yej yek yel yem yen yeo yep
 obtain ⟨⟨yeq,yer,-⟩,-⟩ := hS.cells
 clear G2 G3
 rw [rounds_succ]
 go_wp2
 go_ret
 exact ⟨rfl,hS.fr⟩
structure Nmdg3S where
 (b0 b1 b2 b3 b4 b5 b6 b7 b8 b9 b10 b11 b12 b13 b14 : Bool)
 (v0 v1 v2 v3 v4 v5 v6 v7 v8 v9 v10 v11 v12 v13 : Value)
 (A2 : Option Addr)
 (N2 C2 : Nat)
 (E5 : Int)
 (A8 : Option Addr)
 (N8 C8 : Nat)
 (E11 : Int)
 (A12 : Option Addr)
 (N12 C12 : Nat)
 bs9 : List En
 os9 : Os
structure Nmdg3R (w : World) (E F a b : Int) (s : Bool) (m : Nat) (xq : Int) (s' : Bool) (m' : Nat) (yq : Int) (rr : Bool) (vv : Nat) (yy : Int) (ea eb : Int) (w1 : World) (S9 : Nat) (b0 b1 b2 b3 b4 b5 b6 b7 b8 b9 b10 b11 b12 b13 b14 : Bool) (v0 v1 v2 v3 v4 v5 v6 v7 v8 v9 v10 v11 v12 v13 : Value) (A2 : Option Addr) (N2 C2 : Nat) (E5 : Int) (A8 : Option Addr) (N8 C8 : Nat) (E11 : Int) (A12 : Option Addr) (N12 C12 : Nat) (bs9 : List En) (os9 : Os) (w' : World) : Prop where
 hc : Rc w S9 [⟨w.heap.size + 1,#[.bool false,.slice none 0 0,.int .i64 0],33⟩,⟨w.heap.size,#[.int .i64 E,.int .i64 F],23⟩] [] [] (some ((w1.heap.size),(cond b11 E11 (cond b5 E5 0)))) bs9 os9 w'
 f0 : b0 = true → v0 = .agg #[.int .i64 E,.int .i64 F]
 f1 : b1 = true → v1 = .int .u64 a
 f2 : b2 = true → v2 = .tuple #[.agg #[.bool s,.slice A2 N2 C2,.int .i64 xq],.int .i64 ea] ∧ (A2,N2,C2,m) ∈ os9
 f3 : b3 = true → v3 = .agg #[.bool s,.slice A2 N2 C2,.int .i64 xq]
 f4 : b4 = true → v4 = .int .i64 ea
 f5 : b5 = true → v5 = .agg #[.bool s,.slice A2 N2 C2,.int .i64 xq] ∧ E5 = Kp 0 ea
 f6 : b6 = true → v6 = .agg #[.int .i64 E,.int .i64 F]
 f7 : b7 = true → v7 = .int .u64 b
 f8 : b8 = true → v8 = .tuple #[.agg #[.bool s',.slice A8 N8 C8,.int .i64 yq],.int .i64 eb] ∧ (A8,N8,C8,m') ∈ os9
 f9 : b9 = true → v9 = .agg #[.bool s',.slice A8 N8 C8,.int .i64 yq]
 f10 : b10 = true → v10 = .int .i64 eb
 f11 : b11 = true → v11 = .agg #[.bool s',.slice A8 N8 C8,.int .i64 yq] ∧ E11 = Kp E5 eb
 f12 : b12 = true → v12 = .agg #[.bool rr,.slice A12 N12 C12,.int .i64 yy] ∧ (A12,N12,C12,vv) ∈ os9
 f13 : b13 = true → AlN bs9 S9 v13 33 3
 f14 : b14 = true → StN bs9 S9 v13 #[.bool rr,.slice A12 N12 C12,.int .i64 yy] 33
 g3_2 : b3 = true → b2 = true
 g4_2 : b4 = true → b2 = true
 g5_2 : b5 = true → b2 = true
 g8_5 : b8 = true → b5 = true
 g9_8 : b9 = true → b8 = true
 g10_8 : b10 = true → b8 = true
 g11_8 : b11 = true → b8 = true
 g11_5 : b11 = true → b5 = true
 g12_5 : b12 = true → b5 = true
 g12_2 : b12 = true → b2 = true
 g12_11 : b12 = true → b11 = true
 g12_8 : b12 = true → b8 = true
 g14_13 : b14 = true → b13 = true
 g14_12 : b14 = true → b12 = true
 g14_5 : b14 = true → b5 = true
 g14_2 : b14 = true → b2 = true
 g14_11 : b14 = true → b11 = true
 g14_8 : b14 = true → b8 = true
def Nmdg3I (w : World) (E F a b : Int) (s : Bool) (m : Nat) (xq : Int) (s' : Bool) (m' : Nat) (yq : Int) (rr : Bool) (vv : Nat) (yy : Int) (ea eb : Int) (w1 : World) (S9 : Nat) (l : Array Bool) (act : Act) (w' : World) : Nmdg3S → Prop
 | ⟨b0,b1,b2,b3,b4,b5,b6,b7,b8,b9,b10,b11,b12,b13,b14,v0,v1,v2,v3,v4,v5,v6,v7,v8,v9,v10,v11,v12,v13,A2,N2,C2,E5,A8,N8,C8,E11,A12,N12,C12,bs9,os9⟩ => l = #[b0,b1,b2,b3,b4,b5,b6,b7,b8,b9,b10,b11,b12,b13,b14] ∧ act = { tmps := #[.agg #[.int .i64 E,.int .i64 F],.int .u64 a,.int .u64 b,.pointer (some ⟨w.heap.size,0,none⟩),undef,undef,.pointer (some ⟨w.heap.size + 1,0,none⟩),.int .i64 0,.int .i64 0,.pointer (some ⟨w1.heap.size,0,none⟩),v13,.agg #[.int .i64 E,.int .i64 F],.int .u64 a,.int .u64 b,.slice (some ⟨w.heap.size + 1 + 1,0,none⟩) 2 2,.int .i64 0,.int .i64 0,.bool false,undef,undef,v0,v1,v2,v3,v4,v5,v6,v7,v8,v9,v10,v11,v12,undef,undef,undef,undef,undef,undef,undef],defers := [] } ∧ Nmdg3R w E F a b s m xq s' m' yq rr vv yy ea eb w1 S9 b0 b1 b2 b3 b4 b5 b6 b7 b8 b9 b10 b11 b12 b13 b14 v0 v1 v2 v3 v4 v5 v6 v7 v8 v9 v10 v11 v12 v13 A2 N2 C2 E5 A8 N8 C8 E11 A12 N12 C12 bs9 os9 w'
theorem Mid_g (w : World) (E F a b : Int) (s : Bool) (m : Nat) (xq : Int) (s' : Bool) (m' : Nat) (yq : Int) (rr : Bool) (vv : Nat) (yy : Int) (ea eb er : Int) (hT : Tb w) (H0 : Tel 80 #[.agg #[.int .i64 E,.int .i64 F],.int .u64 a] (.int .i64 0)) (H1 : Tel 80 #[.agg #[.int .i64 E,.int .i64 F],.int .u64 b] (.int .i64 0)) (HVa : Hid (∀ W : World,Tb W → Calls Tryz.prog 52 #[.agg #[.int .i64 E,.int .i64 F],.int .u64 a] W fun e w' => (∃ A N C,e = .returned (.tuple #[.agg #[.bool s,.slice A N C,.int .i64 xq],.int .i64 ea]) ∧ Mine w' W.heap.size A N C m) ∧ Below W.heap.size W w')) (HVb : Hid (∀ W : World,Tb W → Calls Tryz.prog 52 #[.agg #[.int .i64 E,.int .i64 F],.int .u64 b] W fun e w' => (∃ A N C,e = .returned (.tuple #[.agg #[.bool s',.slice A N C,.int .i64 yq],.int .i64 eb]) ∧ Mine w' W.heap.size A N C m') ∧ Below W.heap.size W w')) (HM : Hid (∀ (W : World) (p : Nat) (er : Int) (A : Option Addr) (N C : Nat) (A' : Option Addr) (N' C' : Nat),Num W A N m → Num W A' N' m' → Tb W → RnE W p 0 er → Calls Tryz.prog 67 #[.pointer (some ⟨p,0,none⟩),.agg #[.bool s,.slice A N C,.int .i64 xq],.agg #[.bool s',.slice A' N' C',.int .i64 yq]] W fun e w' => (∃ A N C,e = .returned (.agg #[.bool rr,.slice A N C,.int .i64 yy]) ∧ Mine w' W.heap.size A N C vv) ∧ Below W.heap.size W w')) (HE : Hid (Kp (Kp 0 ea) eb = er)) :
  Calls Tryz.prog 24 #[.agg #[.int .i64 E,.int .i64 F],.int .u64 a,.int .u64 b] w fun e w' => ((er = 0 ∧ (∃ A N C,e = .returned (.tuple #[.agg #[.bool rr,.slice A N C,.int .i64 yy],.int .i64 0]) ∧ Mine w' w.heap.size A N C vv)) ∨ (er ≠ 0 ∧ e = .returned (.tuple #[.agg #[.bool false,.slice none 0 0,.int .i64 0],.int .i64 er]))) ∧ Below w.heap.size w w' := by
 have HT := hide hT
 clear hT
 have hS := Rs.begin w
 replace hS := hS.alloc #[.int .i64 E,.int .i64 F] 23
 try simp only [World.size_alloc] at hS
 replace hS := hS.alloc #[.bool false,.slice none 0 0,.int .i64 0] 33
 try simp only [World.size_alloc] at hS
 go_enter Tryz.func24,Tryz.ntmps24
 go_wp2_with fail
 refine (check2_ok E F _ a b H0 H1 _ (by have := heap_alloc_new ((w.alloc (.cells #[.int .i64 E,.int .i64 F] 23)).alloc (.cells #[.bool false,.slice none 0 0,.int .i64 0] 33)) (.cells #[.int .u64 a,.int .u64 b] 24); simpa only [World.size_alloc] using this)).mono ?_
 rintro en w1 ⟨rfl,hb1⟩
 replace hS := (hS.alloc #[.int .u64 a,.int .u64 b] 24).kept hb1
 replace hS := hS.sub (bs' := [⟨w.heap.size + 1,#[.bool false,.slice none 0 0,.int .i64 0],33⟩,⟨w.heap.size,#[.int .i64 E,.int .i64 F],23⟩]) (ms' := []) (os' := []) (by intro x hx; exact List.mem_cons_of_mem _ hx) (fun _ h => h) (fun _ h => h)
 clear hb1
 have hz1 : w.heap.size + 1 + 1 ≤ w1.heap.size := block_lt (hS.bx ⟨w.heap.size + 1,#[.bool false,.slice none 0 0,.int .i64 0],33⟩ (by simp)).1
 go_wp2_with fail
 replace hS := hS.workR
 try simp only [World.size_alloc] at hS
 refine wp_region_any (by kernel_rfl) ?_
 change wpAny _ _ _ _ _ _ _ (World.drew _)
 have hS9 := hS.drew
 have hsW9 : (World.drew (w1.alloc (.cells #[.int .i64 0] 100))).heap.size = w1.heap.size + 1 := by first | rfl | simp
 generalize World.drew (w1.alloc (.cells #[.int .i64 0] 100)) = Wd at hS9 hsW9 ⊢
 obtain ⟨S9,hS9z⟩ : ∃ x,x = Wd.heap.size := ⟨_,rfl⟩
 have hC9 := Rc.start (bs := [⟨w.heap.size + 1,#[.bool false,.slice none 0 0,.int .i64 0],33⟩,⟨w.heap.size,#[.int .i64 E,.int .i64 F],23⟩]) hS9 (by simp)
 rw [← hS9z] at hC9
 refine wpAny_inv (fun l act w' => ∃ σ,Nmdg3I w E F a b s m xq s' m' yq rr vv yy ea eb w1 S9 l act w' σ) ?_ ?_ _ _ _ _ ?_ ?_
 ·intro l act w' i9 hI9 hi9 hl9
  have hin9 : i9 < 15 := by
   by_cases h : i9 < 15
   ·exact h
   ·obtain ⟨⟨⟩,rfl,_⟩ := hI9
    rw [Array.getElem?_eq_none (by simp; omega)] at hl9; cases hl9
  have hcase : i9 = 0 ∨ i9 = 1 ∨ i9 = 2 ∨ i9 = 3 ∨ i9 = 4 ∨ i9 = 5 ∨ i9 = 6 ∨ i9 = 7 ∨ i9 = 8 ∨ i9 = 9 ∨ i9 = 10 ∨ i9 = 11 ∨ i9 = 12 ∨ i9 = 13 ∨ i9 = 14 := by omega
  clear hin9
  obtain ⟨⟨b0,b1,b2,b3,b4,b5,b6,b7,b8,b9,b10,b11,b12,b13,b14,v0,v1,v2,v3,v4,v5,v6,v7,v8,v9,v10,v11,v12,v13,A2,N2,C2,E5,A8,N8,C8,E11,A12,N12,C12,bs9,os9⟩,rfl,rfl,hR⟩ := hI9
  rcases hcase with rfl | rfl | rfl | rfl | rfl | rfl | rfl | rfl | rfl | rfl | rfl | rfl | rfl | rfl | rfl
  ·obtain rfl : b0 = false := by simpa using hl9
   have hc := hR.hc
   have c9_0 := hc.st.cellAt (hc.old ⟨w.heap.size,#[.int .i64 E,.int .i64 F],23⟩ (by simp)).1 0 (.int .i64 E) rfl
   have c9_1 := hc.st.cellAt (hc.old ⟨w.heap.size,#[.int .i64 E,.int .i64 F],23⟩ (by simp)).1 1 (.int .i64 F) rfl
   simp only [] at c9_0 c9_1
   refine wpOp_step rfl fun K hK => ?_
   go_simp
   exact hK _ _ ⟨⟨_,_,_,_,_,_,_,_,_,_,_,_,_,_,_,_,_,_,_,_,_,_,_,_,_,_,_,_,_,A2,N2,C2,E5,A8,N8,C8,E11,A12,N12,C12,_,_⟩,rfl,rfl,{ hR with hc := hc,f0 := (fun _ => rfl) }⟩
  ·obtain rfl : b1 = false := by simpa using hl9
   have hc := hR.hc
   refine wpOp_step rfl fun K hK => ?_
   go_simp
   exact hK _ _ ⟨⟨_,_,_,_,_,_,_,_,_,_,_,_,_,_,_,_,_,_,_,_,_,_,_,_,_,_,_,_,_,A2,N2,C2,E5,A8,N8,C8,E11,A12,N12,C12,_,_⟩,rfl,rfl,{ hR with hc := hc,f1 := (fun _ => rfl) }⟩
  ·obtain rfl : b2 = false := by simpa using hl9
   obtain ⟨o9,ho9,hd9⟩ := (mem_ready.1 hi9).2
   cases ho9
   have e0 : b0 = true := hd9 ⟨0,.data⟩ (by simp) rfl
   have e1 : b1 = true := hd9 ⟨1,.data⟩ (by simp) rfl
   subst e0 e1
   have h9 := hR.f0 rfl
   subst h9
   have h9 := hR.f1 rfl
   subst h9
   have hc := hR.hc
   have HR := hide hR
   clear hR
   refine wpOp_step rfl fun K hK => ?_
   go_simp
   go_wp2_with fail
   refine (W_oft hc.st (unhide HVa _ ((unhide HT).kept (But.gr (Below.refl _ _) hc.st.fr (by omega) (Nat.le_refl _))) )).mono ?_
   rintro en w9 ⟨a9,n9,c9,rfl,hs9,hz9⟩
   have hR := unhide HR
   exact hK _ _ ⟨⟨_,_,_,_,_,_,_,_,_,_,_,_,_,_,_,_,_,_,_,_,_,_,_,_,_,_,_,_,_,_,_,_,E5,A8,N8,C8,E11,A12,N12,C12,_,_⟩,rfl,rfl,{ hR with hc := (hc.call hs9 hz9 (fun y hy => List.mem_cons_of_mem _ hy)),f2 := (fun _ => ⟨rfl,List.mem_cons_self ..⟩),f3 := (fun h => Bool.noConfusion (hR.g3_2 h)),f4 := (fun h => Bool.noConfusion (hR.g4_2 h)),f5 := (fun h => Bool.noConfusion (hR.g5_2 h)),f8 := (fun h => ⟨(hR.f8 h).1,List.mem_cons_of_mem _ (hR.f8 h).2⟩),f12 := (fun h => Bool.noConfusion (hR.g12_2 h)),f14 := (fun h => Bool.noConfusion (hR.g14_2 h)),g3_2 := (fun _ => rfl),g4_2 := (fun _ => rfl),g5_2 := (fun _ => rfl),g12_2 := (fun _ => rfl),g14_2 := (fun _ => rfl) }⟩
  ·obtain rfl : b3 = false := by simpa using hl9
   obtain ⟨o9,ho9,hd9⟩ := (mem_ready.1 hi9).2
   cases ho9
   have e2 : b2 = true := hd9 ⟨2,.data⟩ (by simp) rfl
   subst e2
   have q2 := hR.f2 rfl
   obtain ⟨h9,q2m⟩ := q2
   subst h9
   have hc := hR.hc
   refine wpOp_step rfl fun K hK => ?_
   go_simp
   exact hK _ _ ⟨⟨_,_,_,_,_,_,_,_,_,_,_,_,_,_,_,_,_,_,_,_,_,_,_,_,_,_,_,_,_,A2,N2,C2,E5,A8,N8,C8,E11,A12,N12,C12,_,_⟩,rfl,rfl,{ hR with hc := hc,f3 := (fun _ => rfl),g3_2 := (fun _ => rfl) }⟩
  ·obtain rfl : b4 = false := by simpa using hl9
   obtain ⟨o9,ho9,hd9⟩ := (mem_ready.1 hi9).2
   cases ho9
   have e2 : b2 = true := hd9 ⟨2,.data⟩ (by simp) rfl
   subst e2
   have q2 := hR.f2 rfl
   obtain ⟨h9,q2m⟩ := q2
   subst h9
   have hc := hR.hc
   refine wpOp_step rfl fun K hK => ?_
   go_simp
   exact hK _ _ ⟨⟨_,_,_,_,_,_,_,_,_,_,_,_,_,_,_,_,_,_,_,_,_,_,_,_,_,_,_,_,_,A2,N2,C2,E5,A8,N8,C8,E11,A12,N12,C12,_,_⟩,rfl,rfl,{ hR with hc := hc,f4 := (fun _ => rfl),g4_2 := (fun _ => rfl) }⟩
  ·obtain rfl : b5 = false := by simpa using hl9
   obtain ⟨o9,ho9,hd9⟩ := (mem_ready.1 hi9).2
   cases ho9
   have e3 : b3 = true := hd9 ⟨3,.data⟩ (by simp) rfl
   have e4 : b4 = true := hd9 ⟨4,.data⟩ (by simp) rfl
   subst e3 e4
   obtain rfl : b2 = true := hR.g3_2 rfl
   have q2 := hR.f2 rfl
   obtain ⟨h9,q2m⟩ := q2
   subst h9
   have h9 := hR.f3 rfl
   subst h9
   have h9 := hR.f4 rfl
   subst h9
   have hc := hR.hc
   obtain rfl : b11 = false := by cases h : b11; rfl; exact Bool.noConfusion (hR.g11_5 h)
   simp only [cond_false] at hc
   have HR := hide hR
   clear hR
   refine wpOp_step rfl fun K hK => ?_
   go_simp
   go_wp2_with fail
   refine (W_rDy hc.st).mono ?_
   rintro en w9 ⟨e9,rfl,hs9,hz,hz9⟩
   have hR := unhide HR
   exact hK _ _ ⟨⟨_,_,_,_,_,_,_,_,_,_,_,_,_,_,_,_,_,_,_,_,_,_,_,_,_,_,_,_,_,A2,N2,C2,_,A8,N8,C8,E11,A12,N12,C12,_,_⟩,rfl,rfl,{ hR with hc := (hc.call hs9 hz9 (fun y hy => hy)),f5 := (fun _ => ⟨rfl,hz⟩),f8 := (fun h => Bool.noConfusion (hR.g8_5 h)),f11 := (fun h => Bool.noConfusion (hR.g11_5 h)),f12 := (fun h => Bool.noConfusion (hR.g12_5 h)),f14 := (fun h => Bool.noConfusion (hR.g14_5 h)),g5_2 := (fun _ => rfl),g8_5 := (fun _ => rfl),g11_5 := (fun _ => rfl),g12_5 := (fun _ => rfl),g14_5 := (fun _ => rfl) }⟩
  ·obtain rfl : b6 = false := by simpa using hl9
   have hc := hR.hc
   have c9_0 := hc.st.cellAt (hc.old ⟨w.heap.size,#[.int .i64 E,.int .i64 F],23⟩ (by simp)).1 0 (.int .i64 E) rfl
   have c9_1 := hc.st.cellAt (hc.old ⟨w.heap.size,#[.int .i64 E,.int .i64 F],23⟩ (by simp)).1 1 (.int .i64 F) rfl
   simp only [] at c9_0 c9_1
   refine wpOp_step rfl fun K hK => ?_
   go_simp
   exact hK _ _ ⟨⟨_,_,_,_,_,_,_,_,_,_,_,_,_,_,_,_,_,_,_,_,_,_,_,_,_,_,_,_,_,A2,N2,C2,E5,A8,N8,C8,E11,A12,N12,C12,_,_⟩,rfl,rfl,{ hR with hc := hc,f6 := (fun _ => rfl) }⟩
  ·obtain rfl : b7 = false := by simpa using hl9
   have hc := hR.hc
   refine wpOp_step rfl fun K hK => ?_
   go_simp
   exact hK _ _ ⟨⟨_,_,_,_,_,_,_,_,_,_,_,_,_,_,_,_,_,_,_,_,_,_,_,_,_,_,_,_,_,A2,N2,C2,E5,A8,N8,C8,E11,A12,N12,C12,_,_⟩,rfl,rfl,{ hR with hc := hc,f7 := (fun _ => rfl) }⟩
  ·obtain rfl : b8 = false := by simpa using hl9
   obtain ⟨o9,ho9,hd9⟩ := (mem_ready.1 hi9).2
   cases ho9
   have e6 : b6 = true := hd9 ⟨6,.data⟩ (by simp) rfl
   have e7 : b7 = true := hd9 ⟨7,.data⟩ (by simp) rfl
   have e5 : b5 = true := hd9 ⟨5,.chain⟩ (by simp) rfl
   subst e6 e7 e5
   have h9 := hR.f6 rfl
   subst h9
   have h9 := hR.f7 rfl
   subst h9
   have q5 := hR.f5 rfl
   obtain ⟨h9,q5m⟩ := q5
   subst h9
   have hc := hR.hc
   have HR := hide hR
   clear hR
   refine wpOp_step rfl fun K hK => ?_
   go_simp
   go_wp2_with fail
   refine (W_oft hc.st (unhide HVb _ ((unhide HT).kept (But.gr (Below.refl _ _) hc.st.fr (by omega) (Nat.le_refl _))) )).mono ?_
   rintro en w9 ⟨a9,n9,c9,rfl,hs9,hz9⟩
   have hR := unhide HR
   exact hK _ _ ⟨⟨_,_,_,_,_,_,_,_,_,_,_,_,_,_,_,_,_,_,_,_,_,_,_,_,_,_,_,_,_,A2,N2,C2,E5,_,_,_,E11,A12,N12,C12,_,_⟩,rfl,rfl,{ hR with hc := (hc.call hs9 hz9 (fun y hy => List.mem_cons_of_mem _ hy)),f2 := (fun h => ⟨(hR.f2 h).1,List.mem_cons_of_mem _ (hR.f2 h).2⟩),f8 := (fun _ => ⟨rfl,List.mem_cons_self ..⟩),f9 := (fun h => Bool.noConfusion (hR.g9_8 h)),f10 := (fun h => Bool.noConfusion (hR.g10_8 h)),f11 := (fun h => Bool.noConfusion (hR.g11_8 h)),f12 := (fun h => Bool.noConfusion (hR.g12_8 h)),f14 := (fun h => Bool.noConfusion (hR.g14_8 h)),g8_5 := (fun _ => rfl),g9_8 := (fun _ => rfl),g10_8 := (fun _ => rfl),g11_8 := (fun _ => rfl),g12_8 := (fun _ => rfl),g14_8 := (fun _ => rfl) }⟩
  ·obtain rfl : b9 = false := by simpa using hl9
   obtain ⟨o9,ho9,hd9⟩ := (mem_ready.1 hi9).2
   cases ho9
   have e8 : b8 = true := hd9 ⟨8,.data⟩ (by simp) rfl
   subst e8
   have q8 := hR.f8 rfl
   obtain ⟨h9,q8m⟩ := q8
   subst h9
   have hc := hR.hc
   refine wpOp_step rfl fun K hK => ?_
   go_simp
   exact hK _ _ ⟨⟨_,_,_,_,_,_,_,_,_,_,_,_,_,_,_,_,_,_,_,_,_,_,_,_,_,_,_,_,_,A2,N2,C2,E5,A8,N8,C8,E11,A12,N12,C12,_,_⟩,rfl,rfl,{ hR with hc := hc,f9 := (fun _ => rfl),g9_8 := (fun _ => rfl) }⟩
  ·obtain rfl : b10 = false := by simpa using hl9
   obtain ⟨o9,ho9,hd9⟩ := (mem_ready.1 hi9).2
   cases ho9
   have e8 : b8 = true := hd9 ⟨8,.data⟩ (by simp) rfl
   subst e8
   have q8 := hR.f8 rfl
   obtain ⟨h9,q8m⟩ := q8
   subst h9
   have hc := hR.hc
   refine wpOp_step rfl fun K hK => ?_
   go_simp
   exact hK _ _ ⟨⟨_,_,_,_,_,_,_,_,_,_,_,_,_,_,_,_,_,_,_,_,_,_,_,_,_,_,_,_,_,A2,N2,C2,E5,A8,N8,C8,E11,A12,N12,C12,_,_⟩,rfl,rfl,{ hR with hc := hc,f10 := (fun _ => rfl),g10_8 := (fun _ => rfl) }⟩
  ·obtain rfl : b11 = false := by simpa using hl9
   obtain ⟨o9,ho9,hd9⟩ := (mem_ready.1 hi9).2
   cases ho9
   have e9 : b9 = true := hd9 ⟨9,.data⟩ (by simp) rfl
   have e10 : b10 = true := hd9 ⟨10,.data⟩ (by simp) rfl
   have e8 : b8 = true := hd9 ⟨8,.chain⟩ (by simp) rfl
   subst e9 e10 e8
   obtain rfl : b5 = true := hR.g8_5 rfl
   have q8 := hR.f8 rfl
   obtain ⟨h9,q8m⟩ := q8
   subst h9
   have h9 := hR.f9 rfl
   subst h9
   have h9 := hR.f10 rfl
   subst h9
   have q5 := hR.f5 rfl
   obtain ⟨h9,q5m⟩ := q5
   subst h9
   have hc := hR.hc
   simp only [cond_true,cond_false] at hc
   have HR := hide hR
   clear hR
   refine wpOp_step rfl fun K hK => ?_
   go_simp
   go_wp2_with fail
   refine (W_rDy hc.st).mono ?_
   rintro en w9 ⟨e9,rfl,hs9,hz,hz9⟩
   have hR := unhide HR
   exact hK _ _ ⟨⟨_,_,_,_,_,_,_,_,_,_,_,_,_,_,_,_,_,_,_,_,_,_,_,_,_,_,_,_,_,A2,N2,C2,E5,A8,N8,C8,_,A12,N12,C12,_,_⟩,rfl,rfl,{ hR with hc := (hc.call hs9 hz9 (fun y hy => hy)),f11 := (fun _ => ⟨rfl,hz⟩),f12 := (fun h => Bool.noConfusion (hR.g12_11 h)),f14 := (fun h => Bool.noConfusion (hR.g14_11 h)),g11_8 := (fun _ => rfl),g11_5 := (fun _ => rfl),g12_11 := (fun _ => rfl),g14_11 := (fun _ => rfl) }⟩
  ·obtain rfl : b12 = false := by simpa using hl9
   obtain ⟨o9,ho9,hd9⟩ := (mem_ready.1 hi9).2
   cases ho9
   have e5 : b5 = true := hd9 ⟨5,.data⟩ (by simp) rfl
   have e11 : b11 = true := hd9 ⟨11,.data⟩ (by simp) rfl
   subst e5 e11
   obtain rfl : b2 = true := hR.g5_2 rfl
   have q2 := hR.f2 rfl
   obtain ⟨h9,q2m⟩ := q2
   subst h9
   have q5 := hR.f5 rfl
   obtain ⟨h9,q5m⟩ := q5
   subst h9
   obtain rfl : b8 = true := hR.g11_8 rfl
   have q8 := hR.f8 rfl
   obtain ⟨h9,q8m⟩ := q8
   subst h9
   have q11 := hR.f11 rfl
   obtain ⟨h9,q11m⟩ := q11
   subst h9
   have hc := hR.hc
   have HR := hide hR
   clear hR
   refine wpOp_step rfl fun K hK => ?_
   go_simp
   go_wp2_with fail
   refine (W_oft hc.st (unhide HM _ _ _ _ _ _ _ _ _ (hc.st.ow _ q2m).num (hc.st.ow _ q8m).num ((unhide HT).kept (But.gr (Below.refl _ _) hc.st.fr (by omega) (Nat.le_refl _))) hc.st.wk.rn)).mono ?_
   rintro en w9 ⟨a9,n9,c9,rfl,hs9,hz9⟩
   have hR := unhide HR
   exact hK _ _ ⟨⟨_,_,_,_,_,_,_,_,_,_,_,_,_,_,_,_,_,_,_,_,_,_,_,_,_,_,_,_,_,A2,N2,C2,E5,A8,N8,C8,E11,_,_,_,_,_⟩,rfl,rfl,{ hR with hc := (hc.call hs9 hz9 (fun y hy => List.mem_cons_of_mem _ hy)),f2 := (fun h => ⟨(hR.f2 h).1,List.mem_cons_of_mem _ (hR.f2 h).2⟩),f8 := (fun h => ⟨(hR.f8 h).1,List.mem_cons_of_mem _ (hR.f8 h).2⟩),f12 := (fun _ => ⟨rfl,List.mem_cons_self ..⟩),f14 := (fun h => Bool.noConfusion (hR.g14_12 h)),g12_5 := (fun _ => rfl),g12_2 := (fun _ => rfl),g12_11 := (fun _ => rfl),g12_8 := (fun _ => rfl),g14_12 := (fun _ => rfl) }⟩
  ·obtain rfl : b13 = false := by simpa using hl9
   have hc := hR.hc
   refine wpOp_step rfl fun K hK => ?_
   go_simp
   exact hK _ _ ⟨⟨_,_,_,_,_,_,_,_,_,_,_,_,_,_,_,_,_,_,_,_,_,_,_,_,_,_,_,_,_,A2,N2,C2,E5,A8,N8,C8,E11,A12,N12,C12,_,_⟩,rfl,rfl,{ hR with hc := (hc.alloc #[.bool false,.slice none 0 0,.int .i64 0] 33),f13 := (fun _ => AlN.self rfl hc.sz rfl),f14 := (fun h => Bool.noConfusion (hR.g14_13 h)),g14_13 := (fun _ => rfl) }⟩
  ·obtain rfl : b14 = false := by simpa using hl9
   obtain ⟨o9,ho9,hd9⟩ := (mem_ready.1 hi9).2
   cases ho9
   have e12 : b12 = true := hd9 ⟨12,.data⟩ (by simp) rfl
   have e13 : b13 = true := hd9 ⟨13,.data⟩ (by simp) rfl
   subst e12 e13
   have q12 := hR.f12 rfl
   obtain ⟨h9,q12m⟩ := q12
   subst h9
   have hc := hR.hc
   obtain ⟨g9,cs9,h9,hg9,hz9,hm9⟩ := hR.f13 rfl
   subst h9
   obtain ⟨y9_0,y9_1,y9_2,rfl⟩ : ∃ y9_0 y9_1 y9_2,cs9 = #[y9_0,y9_1,y9_2] := by
    match cs9,hz9 with
    | ⟨[y9_0,y9_1,y9_2]⟩,_ => exact ⟨y9_0,y9_1,y9_2,rfl⟩
   clear hz9
   have fz9_0 := hc.st.frozen hm9 0
   have cz9_0 := hc.st.cellAt hm9 0 y9_0 rfl
   simp only [] at fz9_0 cz9_0
   have fz9_1 := hc.st.frozen hm9 1
   have cz9_1 := hc.st.cellAt hm9 1 y9_1 rfl
   simp only [] at fz9_1 cz9_1
   have fz9_2 := hc.st.frozen hm9 2
   have cz9_2 := hc.st.cellAt hm9 2 y9_2 rfl
   simp only [] at fz9_2 cz9_2
   have hn9 : ∀ x,x ∈ ([⟨w.heap.size + 1,#[.bool false,.slice none 0 0,.int .i64 0],33⟩,⟨w.heap.size,#[.int .i64 E,.int .i64 F],23⟩] : List En) → x.b ≠ g9 := fun x hx => by have := (hc.old x hx).2; omega
   refine wpOp_step rfl fun K hK => ?_
   go_simp
   exact hK _ _ ⟨⟨_,_,_,_,_,_,_,_,_,_,_,_,_,_,_,_,_,_,_,_,_,_,_,_,_,_,_,_,_,A2,N2,C2,E5,A8,N8,C8,E11,A12,N12,C12,_,_⟩,rfl,rfl,{ hR with hc := (((hc.store hm9 (by have := hc.w0s; omega) hn9 0 (.bool rr) (by simp)).store (List.mem_cons_self ..) (by have := hc.w0s; omega) hn9 1 (.slice A12 N12 C12) (by simp)).store (List.mem_cons_self ..) (by have := hc.w0s; omega) hn9 2 (.int .i64 yy) (by simp)),f13 := (fun _ => ⟨g9,_,rfl,hg9,by simp,List.mem_cons_self ..⟩),f14 := (fun _ => ⟨g9,rfl,hg9,List.mem_cons_self ..⟩),g14_13 := (fun _ => rfl),g14_12 := (fun _ => rfl),g14_5 := (fun _ => hR.g12_5 rfl),g14_2 := (fun _ => hR.g12_2 rfl),g14_11 := (fun _ => hR.g12_11 rfl),g14_8 := (fun _ => hR.g12_8 rfl) }⟩
 ·rintro l act Wq3 ⟨⟨b0,b1,b2,b3,b4,b5,b6,b7,b8,b9,b10,b11,b12,b13,b14,v0,v1,v2,v3,v4,v5,v6,v7,v8,v9,v10,v11,v12,v13,x3_A2,x3_N2,x3_C2,x3_E5,x3_A8,x3_N8,x3_C8,x3_E11,x3_A12,x3_N12,x3_C12,bs9,os9⟩,rfl,rfl,hR⟩ hr9
  obtain ⟨hc,f0,f1,f2,f3,f4,f5,f6,f7,f8,f9,f10,f11,f12,f13,f14,g3_2,g4_2,g5_2,g8_5,g9_8,g10_8,g11_8,g11_5,g12_5,g12_2,g12_11,g12_8,g14_13,g14_12,g14_5,g14_2,g14_11,g14_8⟩ := hR
  have eall := all_done hr9 (by kernel_rfl) rfl
  obtain rfl : b0 = true := eall 0 (by decide)
  obtain rfl : b1 = true := eall 1 (by decide)
  obtain rfl : b2 = true := eall 2 (by decide)
  obtain rfl : b3 = true := eall 3 (by decide)
  obtain rfl : b4 = true := eall 4 (by decide)
  obtain rfl : b5 = true := eall 5 (by decide)
  obtain rfl : b6 = true := eall 6 (by decide)
  obtain rfl : b7 = true := eall 7 (by decide)
  obtain rfl : b8 = true := eall 8 (by decide)
  obtain rfl : b9 = true := eall 9 (by decide)
  obtain rfl : b10 = true := eall 10 (by decide)
  obtain rfl : b11 = true := eall 11 (by decide)
  obtain rfl : b12 = true := eall 12 (by decide)
  obtain rfl : b13 = true := eall 13 (by decide)
  obtain rfl : b14 = true := eall 14 (by decide)
  clear hr9 eall
  have h9 := f0 rfl
  subst h9
  have h9 := f1 rfl
  subst h9
  obtain ⟨h9,q2m⟩ := f2 rfl
  subst h9
  have h9 := f3 rfl
  subst h9
  have h9 := f4 rfl
  subst h9
  obtain ⟨h9,qx3_5⟩ := f5 rfl
  subst h9
  have h9 := f6 rfl
  subst h9
  have h9 := f7 rfl
  subst h9
  obtain ⟨h9,q8m⟩ := f8 rfl
  subst h9
  have h9 := f9 rfl
  subst h9
  have h9 := f10 rfl
  subst h9
  obtain ⟨h9,qx3_11⟩ := f11 rfl
  subst h9
  obtain ⟨h9,q12m⟩ := f12 rfl
  subst h9
  obtain ⟨x3_g13,h9,hg13,hm13⟩ := f14 rfl
  subst h9
  simp only [cond_true] at hc
  have hbs9 : ∀ x,x ∈ ([⟨x3_g13,#[.bool rr,.slice x3_A12 x3_N12 x3_C12,.int .i64 yy],33⟩,⟨w.heap.size + 1,#[.bool false,.slice none 0 0,.int .i64 0],33⟩,⟨w.heap.size,#[.int .i64 E,.int .i64 F],23⟩] : List En) → x ∈ bs9 := by
   intro x hx
   rcases List.mem_cons.1 hx with rfl | hx
   ·exact hm13
   rcases List.mem_cons.1 hx with rfl | hx
   ·exact (hc.old _ (by simp)).1
   rcases List.mem_cons.1 hx with rfl | hx
   ·exact (hc.old _ (by simp)).1
   exact absurd hx List.not_mem_nil
  have hos9 : ∀ x,x ∈ ([(x3_A2,x3_N2,x3_C2,m),(x3_A8,x3_N8,x3_C8,m'),(x3_A12,x3_N12,x3_C12,vv)] : Os) → x ∈ os9 := by
   intro x hx
   rcases List.mem_cons.1 hx with rfl | hx
   ·exact q2m
   rcases List.mem_cons.1 hx with rfl | hx
   ·exact q8m
   rcases List.mem_cons.1 hx with rfl | hx
   ·exact q12m
   exact absurd hx List.not_mem_nil
  have hS := hc.st.sub hbs9 (fun x hx => hx) hos9
  have hsz9 := hc.sz
  rw [hS9z,hsW9] at hsz9
  have hlx3_g13 := hg13
  rw [hS9z,hsW9] at hlx3_g13
  have hux3_g13 := block_lt (hc.st.bx _ hm13).1
  simp only [] at hux3_g13
  clear hbs9 hos9 hc f0 f1 f2 f3 f4 f5 f6 f7 f8 f9 f10 f11 f12 f13 f14 g3_2 g4_2 g5_2 g8_5 g9_8 g10_8 g11_8 g11_5 g12_5 g12_2 g12_11 g12_8 g14_13 g14_12 g14_5 g14_2 g14_11 g14_8
  clear q2m q8m q12m hm13 hg13
  have hz3 := hsz9
  clear hsz9 hS9z hS9 hC9 hsW9
  have Qx3_5 := hide qx3_5
  clear qx3_5
  have Qx3_11 := hide qx3_11
  clear qx3_11
  have q0 := unhide Qx3_5
  have q1 := unhide Qx3_11
  have hwk := hS.wk
  rw [q1,q0,unhide HE] at hwk
  by_cases her0 : er = 0
  ·subst her0
   have kw := hwk.cell
   obtain ⟨⟨k0_0,k0_1,k0_2,-⟩,z0⟩ := hS.cz ⟨x3_g13,#[.bool rr,.slice x3_A12 x3_N12 x3_C12,.int .i64 yy],33⟩ (by simp)
   have z0_0 := z0 0
   have z0_1 := z0 1
   have z0_2 := z0 2
   clear z0
   obtain ⟨⟨k1_0,k1_1,k1_2,-⟩,z1⟩ := hS.cz ⟨w.heap.size + 1,#[.bool false,.slice none 0 0,.int .i64 0],33⟩ (by simp)
   have z1_0 := z1 0
   have z1_1 := z1 1
   have z1_2 := z1 2
   clear z1
   simp only [] at k0_0 z0_0 k0_1 z0_1 k0_2 z0_2 k1_0 z1_0 k1_1 z1_1 k1_2 z1_2
   go_wp2
   have u1 := hS.cellAt (x := ⟨w.heap.size + 1,#[.bool false,.slice none 0 0,.int .i64 0],33⟩) (by simp) 0 (.bool false) rfl
   have y1 := hS.frozen (x := ⟨w.heap.size + 1,#[.bool false,.slice none 0 0,.int .i64 0],33⟩) (by simp) 0
   simp only [] at u1 y1
   replace hS := hS.put (x := ⟨w.heap.size + 1,#[.bool false,.slice none 0 0,.int .i64 0],33⟩) (by simp) (by simp only []; omega) 0 (.bool rr) (by simp) [⟨w.heap.size + 1,#[.bool rr,.slice none 0 0,.int .i64 0],33⟩,⟨x3_g13,#[.bool rr,.slice x3_A12 x3_N12 x3_C12,.int .i64 yy],33⟩,⟨w.heap.size,#[.int .i64 E,.int .i64 F],23⟩] (by intro y hy; rcases List.mem_cons.1 hy with rfl | hy; exact Or.inl rfl; rcases List.mem_cons.1 hy with rfl | hy; exact Or.inr ⟨by simp,by simp only []; omega⟩; rcases List.mem_cons.1 hy with rfl | hy; exact Or.inr ⟨by simp,by simp only []; omega⟩; exact absurd hy List.not_mem_nil)
   have u2 := hS.cellAt (x := ⟨w.heap.size + 1,#[.bool rr,.slice none 0 0,.int .i64 0],33⟩) (by simp) 1 (.slice none 0 0) rfl
   have y2 := hS.frozen (x := ⟨w.heap.size + 1,#[.bool rr,.slice none 0 0,.int .i64 0],33⟩) (by simp) 1
   simp only [] at u2 y2
   replace hS := hS.put (x := ⟨w.heap.size + 1,#[.bool rr,.slice none 0 0,.int .i64 0],33⟩) (by simp) (by simp only []; omega) 1 (.slice x3_A12 x3_N12 x3_C12) (by simp) [⟨w.heap.size + 1,#[.bool rr,.slice x3_A12 x3_N12 x3_C12,.int .i64 0],33⟩,⟨x3_g13,#[.bool rr,.slice x3_A12 x3_N12 x3_C12,.int .i64 yy],33⟩,⟨w.heap.size,#[.int .i64 E,.int .i64 F],23⟩] (by intro y hy; rcases List.mem_cons.1 hy with rfl | hy; exact Or.inl rfl; rcases List.mem_cons.1 hy with rfl | hy; exact Or.inr ⟨by simp,by simp only []; omega⟩; rcases List.mem_cons.1 hy with rfl | hy; exact Or.inr ⟨by simp,by simp only []; omega⟩; exact absurd hy List.not_mem_nil)
   have u3 := hS.cellAt (x := ⟨w.heap.size + 1,#[.bool rr,.slice x3_A12 x3_N12 x3_C12,.int .i64 0],33⟩) (by simp) 2 (.int .i64 0) rfl
   have y3 := hS.frozen (x := ⟨w.heap.size + 1,#[.bool rr,.slice x3_A12 x3_N12 x3_C12,.int .i64 0],33⟩) (by simp) 2
   simp only [] at u3 y3
   replace hS := hS.put (x := ⟨w.heap.size + 1,#[.bool rr,.slice x3_A12 x3_N12 x3_C12,.int .i64 0],33⟩) (by simp) (by simp only []; omega) 2 (.int .i64 yy) (by simp) [⟨w.heap.size + 1,#[.bool rr,.slice x3_A12 x3_N12 x3_C12,.int .i64 yy],33⟩,⟨x3_g13,#[.bool rr,.slice x3_A12 x3_N12 x3_C12,.int .i64 yy],33⟩,⟨w.heap.size,#[.int .i64 E,.int .i64 F],23⟩] (by intro y hy; rcases List.mem_cons.1 hy with rfl | hy; exact Or.inl rfl; rcases List.mem_cons.1 hy with rfl | hy; exact Or.inr ⟨by simp,by simp only []; omega⟩; rcases List.mem_cons.1 hy with rfl | hy; exact Or.inr ⟨by simp,by simp only []; omega⟩; exact absurd hy List.not_mem_nil)
   exact bodyPost_ret (v := .tuple #[.agg #[.bool rr,.slice x3_A12 x3_N12 x3_C12,.int .i64 yy],.int .i64 0]) (by simp [results,Tryz.results24,go_sem,k1_0,k1_1,k1_2]) rfl ⟨⟨_,_,_,rfl,hS.ow (x3_A12,x3_N12,x3_C12,vv) (by simp)⟩,But.gr (Below.refl _ _) hS.fr (by omega) (Nat.le_refl _)⟩
  ·have her : (er != (0 : Int)) = true := by simpa using her0
   have kw := hwk.cell
   go_wp2_with fail
   have hbw : Below w.heap.size w Wq3 := But.gr (Below.refl _ _) hS.fr (by omega) (Nat.le_refl _)
   obtain ⟨tt,htt,hp9⟩ := hwk
   have hS2 : Fs w Wq3 [⟨w.heap.size + 1,#[.bool false,.slice none 0 0,.int .i64 0],33⟩,⟨w1.heap.size,#[.int .i64 er],tt⟩] := ⟨fun x hx => by rcases List.mem_cons.1 hx with rfl | hx; exact (hS.bx _ (by simp)).1; rcases List.mem_cons.1 hx with rfl | hx; exact hp9; exact absurd hx List.not_mem_nil,hbw⟩
   refine wp_region_any (by kernel_rfl) ?_
   refine wpAny_det [some (36,.agg #[.bool false,.slice none 0 0,.int .i64 0]),some (37,.pointer (some ⟨w1.heap.size,0,none⟩)),some (38,.int .i64 er),none,some (7,.int .i64 er)]
    (fun _ W9 => W9 = Wq3.drew) _ _ rfl (by kernel_rfl) rfl rfl ?_ ?_ rfl
   ·intro l9 t9 W9 i9 hD hi9 hl9 hM
    obtain ⟨o9,ho9,hd9⟩ := (mem_ready.1 hi9).2
    have hin9 : i9 < 5 := by
     by_cases h : i9 < 5
     ·exact h
     ·rw [Array.getElem?_eq_none (by rw [hD.len]; simp; omega)] at hl9; cases hl9
    have hcase : i9 = 0 ∨ i9 = 1 ∨ i9 = 2 ∨ i9 = 3 ∨ i9 = 4 := by omega
    clear hin9
    rcases hcase with rfl | rfl | rfl | rfl | rfl
    ·cases ho9
     have HM9 := hide hM
     clear hM
     refine wpOp_step rfl fun K hK => ?_
     go_simp
     exact hK _ _ ⟨rfl,unhide HM9⟩
    ·cases ho9
     have r9 := hD.old 9 _ rfl rfl
     have HM9 := hide hM
     clear hM
     refine wpOp_step rfl fun K hK => ?_
     go_simp
     exact hK _ _ ⟨rfl,unhide HM9⟩
    ·cases ho9
     have r37 := hD.od hd9 1 37 _ rfl (by simp)
     have hM0 : Fs w W9 [⟨w.heap.size + 1,#[.bool false,.slice none 0 0,.int .i64 0],33⟩,⟨w1.heap.size,#[.int .i64 er],tt⟩] := by rw [hM]; exact hS2.drew
     have c9_0 := hM0.cellAt (b := w1.heap.size) (cs := #[.int .i64 er]) (t := tt) (by simp) 0 _ rfl
     clear hM0
     have HM9 := hide hM
     clear hM
     refine wpOp_step rfl fun K hK => ?_
     go_simp
     exact hK _ _ ⟨rfl,unhide HM9⟩
    ·cases ho9
     have r6 := hD.old 6 _ rfl rfl
     have r36 := hD.od hd9 0 36 _ rfl (by simp)
     have hM0 : Fs w W9 [⟨w.heap.size + 1,#[.bool false,.slice none 0 0,.int .i64 0],33⟩,⟨w1.heap.size,#[.int .i64 er],tt⟩] := by rw [hM]; exact hS2.drew
     have c9_0 := hM0.cellAt (b := w.heap.size + 1) (cs := #[.bool false,.slice none 0 0,.int .i64 0]) (t := 33) (by simp) 0 _ rfl
     have z9_0 := hM0.frozen (b := w.heap.size + 1) (cs := #[.bool false,.slice none 0 0,.int .i64 0]) (t := 33) (by simp) 0
     have c9_1 := hM0.cellAt (b := w.heap.size + 1) (cs := #[.bool false,.slice none 0 0,.int .i64 0]) (t := 33) (by simp) 1 _ rfl
     have z9_1 := hM0.frozen (b := w.heap.size + 1) (cs := #[.bool false,.slice none 0 0,.int .i64 0]) (t := 33) (by simp) 1
     have c9_2 := hM0.cellAt (b := w.heap.size + 1) (cs := #[.bool false,.slice none 0 0,.int .i64 0]) (t := 33) (by simp) 2 _ rfl
     have z9_2 := hM0.frozen (b := w.heap.size + 1) (cs := #[.bool false,.slice none 0 0,.int .i64 0]) (t := 33) (by simp) 2
     have HM9 := hide hM
     clear hM
     refine wpOp_step rfl fun K hK => ?_
     go_simp
     exact hK _ _ ⟨rfl,(by rw [setCell_still (j := 0) (u := .bool false) (hM0.bx ⟨w.heap.size + 1,#[.bool false,.slice none 0 0,.int .i64 0],33⟩ (by simp)) rfl,setCell_still (j := 1) (u := .slice none 0 0) (hM0.bx ⟨w.heap.size + 1,#[.bool false,.slice none 0 0,.int .i64 0],33⟩ (by simp)) rfl,setCell_still (j := 2) (u := .int .i64 0) (hM0.bx ⟨w.heap.size + 1,#[.bool false,.slice none 0 0,.int .i64 0],33⟩ (by simp)) rfl]; exact unhide HM9)⟩
    ·cases ho9
     have r38 := hD.od hd9 2 38 _ rfl (by simp)
     have HM9 := hide hM
     clear hM
     refine wpOp_step rfl fun K hK => ?_
     go_simp
     exact hK _ _ ⟨rfl,unhide HM9⟩
   ·intro l9 W9 hl9 hM
    subst hM
    replace hS2 := hS2.drew
    simp only [Puts.lay,List.setIfInBounds_toArray,List.set_cons_zero,List.set_cons_succ]
    obtain ⟨⟨z0,z1,z2,-⟩,-⟩ := hS2.cells
    go_wp2
    exact bodyPost_ret (v := .tuple #[.agg #[.bool false,.slice none 0 0,.int .i64 0],.int .i64 er]) (by simp [results,Tryz.results24,go_sem,z0,z1,z2]) rfl ⟨rfl,hS2.fr⟩
 ·simp
 ·exact ⟨⟨false,false,false,false,false,false,false,false,false,false,false,false,false,false,false,undef,undef,undef,undef,undef,undef,undef,undef,undef,undef,undef,undef,undef,undef,none,0,0,0,none,0,0,0,none,0,0,_,_⟩,rfl,rfl,⟨hC9,nb,nb,nb,nb,nb,nb,nb,nb,nb,nb,nb,nb,nb,nb,nb,nb,nb,nb,nb,nb,nb,nb,nb,nb,nb,nb,nb,nb,nb,nb,nb,nb,nb⟩⟩
theorem Mid_ok (w : World) (E F a b : Int) (s : Bool) (m : Nat) (xq : Int) (s' : Bool) (m' : Nat) (yq : Int) (rr : Bool) (vv : Nat) (yy : Int) (hT : Tb w) (H0 : Tel 80 #[.agg #[.int .i64 E,.int .i64 F],.int .u64 a] (.int .i64 0)) (H1 : Tel 80 #[.agg #[.int .i64 E,.int .i64 F],.int .u64 b] (.int .i64 0)) (HVa : Hid (∀ W : World,Tb W → Calls Tryz.prog 52 #[.agg #[.int .i64 E,.int .i64 F],.int .u64 a] W fun e w' => (∃ A N C,e = .returned (.tuple #[.agg #[.bool s,.slice A N C,.int .i64 xq],.int .i64 0]) ∧ Mine w' W.heap.size A N C m) ∧ Below W.heap.size W w')) (HVb : Hid (∀ W : World,Tb W → Calls Tryz.prog 52 #[.agg #[.int .i64 E,.int .i64 F],.int .u64 b] W fun e w' => (∃ A N C,e = .returned (.tuple #[.agg #[.bool s',.slice A N C,.int .i64 yq],.int .i64 0]) ∧ Mine w' W.heap.size A N C m') ∧ Below W.heap.size W w')) (HM : Hid (∀ (W : World) (p : Nat) (er : Int) (A : Option Addr) (N C : Nat) (A' : Option Addr) (N' C' : Nat),Num W A N m → Num W A' N' m' → Tb W → RnE W p 0 er → Calls Tryz.prog 67 #[.pointer (some ⟨p,0,none⟩),.agg #[.bool s,.slice A N C,.int .i64 xq],.agg #[.bool s',.slice A' N' C',.int .i64 yq]] W fun e w' => (∃ A N C,e = .returned (.agg #[.bool rr,.slice A N C,.int .i64 yy]) ∧ Mine w' W.heap.size A N C vv) ∧ Below W.heap.size W w')) :
  Calls Tryz.prog 24 #[.agg #[.int .i64 E,.int .i64 F],.int .u64 a,.int .u64 b] w fun e w' => (∃ A N C,e = .returned (.tuple #[.agg #[.bool rr,.slice A N C,.int .i64 yy],.int .i64 0]) ∧ Mine w' w.heap.size A N C vv) ∧ Below w.heap.size w w' :=
 (Mid_g w E F a b s m xq s' m' yq rr vv yy 0 0 0 hT H0 H1 HVa HVb HM (hide (by simp [Kp]))).mono fun e w' h => ⟨by rcases h.1 with ⟨_,g⟩ | ⟨g,_⟩; exact g; exact absurd rfl g,h.2⟩
theorem Mid_er (w : World) (E F a b : Int) (s : Bool) (m : Nat) (xq : Int) (s' : Bool) (m' : Nat) (yq : Int) (rr : Bool) (vv : Nat) (yy : Int) (ea eb er : Int) (hT : Tb w) (H0 : Tel 80 #[.agg #[.int .i64 E,.int .i64 F],.int .u64 a] (.int .i64 0)) (H1 : Tel 80 #[.agg #[.int .i64 E,.int .i64 F],.int .u64 b] (.int .i64 0)) (HVa : Hid (∀ W : World,Tb W → Calls Tryz.prog 52 #[.agg #[.int .i64 E,.int .i64 F],.int .u64 a] W fun e w' => (∃ A N C,e = .returned (.tuple #[.agg #[.bool s,.slice A N C,.int .i64 xq],.int .i64 ea]) ∧ Mine w' W.heap.size A N C m) ∧ Below W.heap.size W w')) (HVb : Hid (∀ W : World,Tb W → Calls Tryz.prog 52 #[.agg #[.int .i64 E,.int .i64 F],.int .u64 b] W fun e w' => (∃ A N C,e = .returned (.tuple #[.agg #[.bool s',.slice A N C,.int .i64 yq],.int .i64 eb]) ∧ Mine w' W.heap.size A N C m') ∧ Below W.heap.size W w')) (HM : Hid (∀ (W : World) (p : Nat) (er : Int) (A : Option Addr) (N C : Nat) (A' : Option Addr) (N' C' : Nat),Num W A N m → Num W A' N' m' → Tb W → RnE W p 0 er → Calls Tryz.prog 67 #[.pointer (some ⟨p,0,none⟩),.agg #[.bool s,.slice A N C,.int .i64 xq],.agg #[.bool s',.slice A' N' C',.int .i64 yq]] W fun e w' => (∃ A N C,e = .returned (.agg #[.bool rr,.slice A N C,.int .i64 yy]) ∧ Mine w' W.heap.size A N C vv) ∧ Below W.heap.size W w')) (HE : Hid (Kp (Kp 0 ea) eb = er)) (her : (er != (0 : Int)) = true) :
  Calls Tryz.prog 24 #[.agg #[.int .i64 E,.int .i64 F],.int .u64 a,.int .u64 b] w fun e w' => e = .returned (.tuple #[.agg #[.bool false,.slice none 0 0,.int .i64 0],.int .i64 er]) ∧ Below w.heap.size w w' :=
 (Mid_g w E F a b s m xq s' m' yq rr vv yy ea eb er hT H0 H1 HVa HVb HM HE).mono fun e w' h => ⟨by rcases h.1 with ⟨g,_⟩ | ⟨_,g⟩; (subst g; simp at her); exact g,h.2⟩
end Go.Proofs.YtkebhccbhoamjaaGreatDoor
