/- Of what SoftFmasRow stands on: SrCut SrRnd SrBey SrRouA. -/
import Derived.Test.YtfimakkpdjppfaaGreatDoorPbc
import Derived.Test.YtfimakkpdjppfaaGreatDoorPbk
import Derived.Test.YtfimakkpdjppfaaGreatDoorPaf
import Derived.Test.YtfimakkpdjppfaaGreatDoorPaw
namespace Go.Proofs.YtfimakkpdjppfaaGreatDoor
open Go.RowKit
set_option maxHeartbeats 16000000
set_option maxRecDepth 20000
theorem putOk_m7 (base:Nat) (a:Option Addr) (n c m:Nat):PutOk (fun W=>Mine W base a n c m):=fun _ _ _ _ j u hb ht h=>h.put hb ht j u
theorem rcut_up (s:Bool) (a:Option Addr) (n cap m:Nat) (x:Int) (mo:Bool) (d:Nat) (q:Nat) (w:World) (h:Num w a n m) (hd:d < 4294967296) (HU:Hid (∀ (W:World),Num W a n m→Calls Tryz.prog 46 #[.agg #[.slice a n cap],.int .i64 (d:Int)] W fun e w'=>(∃ A N C,e = .returned (.tuple #[.agg #[.slice A N C],.int .i64 0])∧Mine w' W.heap.size A N C (q))∧Below W.heap.size W w')) :
  Calls Tryz.prog 81 #[.agg #[.bool s,.slice a n cap,.int .i64 x,.bool mo],.int .i64 (-(d:Int))] w fun e w'=>(∃ A N C,e = .returned (.tuple #[.agg #[.slice A N C],.int .i64 (-1),.bool mo])∧Mine w' w.heap.size A N C (q))∧Below w.heap.size w w':=by
 have H:=hide h
 have e1:(-(d:Int))≤0:=by omega
 have e2:-(-(d:Int)) = (d:Int):=by omega
 clear h
 go_enter Tryz.func81,Tryz.ntmps81
 go_wp2_with fail
 refine (unhide HU _ ((unhide H).kept (Fs.two w _ _ _ _).fr)).mono ?_
 rintro e w1 ⟨⟨A1,N1,C1,rfl,f1⟩,hb1⟩
 have hS:=(Fs.two w _ _ _ _).kept hb1
 obtain ⟨⟨ya,yb,yc,yd,-⟩,⟨ye,-⟩,-⟩:=hS.cells
 have G1:=hide (f1.mono (base':=w.heap.size+2) (by simp))
 clear f1
 have hltw1_0:w.heap.size < w1.heap.size:=hS.lt 0 rfl
 have hltw1_1:w.heap.size+1 < w1.heap.size:=hS.lt 1 rfl
 obtain ⟨WV1,hWV1⟩:∃ WV1,w1.alloc (.cells #[.slice A1 N1 C1] 44) = WV1:=⟨_,rfl⟩
 replace hS:=hS.alloc #[.slice A1 N1 C1] 44
 rw [hWV1] at hS
 replace G1:=hide (hWV1▸(unhide G1).alloc (.cells #[.slice A1 N1 C1] 44))
 clear ya yb yc yd ye
 obtain ⟨⟨yf,-⟩,⟨yg,yh,yi,yj,-⟩,⟨yk,-⟩,-⟩:=hS.cells
 have hz1:w.heap.size+1 < WV1.heap.size:=block_lt (hS.bx ⟨w.heap.size+1,#[.slice none 0 0],44⟩ (by simp))
 go_wp2_with fail
 have hS3s:w.heap.size≤WV1.heap.size:=hS.size
 have hs9:∀ x9:Nat×(Pk→World→Prop),x9∈([(6,fun _ W=>Mine W (w.heap.size+2) A1 N1 C1 q)]:List (Nat×(Pk→World→Prop)))→∀ q9:Pk,St (w.heap.size+2) (x9.2 q9):=by
  intro x hx q
  simp only [List.mem_cons,List.not_mem_nil,or_false] at hx
  rcases hx with rfl
  ·exact st_mine2 _ _ _ _
 have h09:∀ x9:Nat×(Pk→World→Prop),x9∈([(6,fun _ W=>Mine W (w.heap.size+2) A1 N1 C1 q)]:List (Nat×(Pk→World→Prop)))→6≤x9.1→x9.2 ⟨none,0,0⟩ WV1:=by
  intro x hx hn9
  simp only [List.mem_cons,List.not_mem_nil,or_false] at hx
  rcases hx with rfl
  ·exact unhide G1
 refine wp_region_any (by kernel_rfl) ?_
 refine wpAny_pick (fun p9=>[some (30,.agg #[.slice A1 N1 C1]),some (31,.pointer (some ⟨w.heap.size,3,none⟩)),some (32,.bool mo),none,some (5,.int .i64 (-1)),some (6,.bool mo)])
  (fun p9 l9 W9=>Pm w (w.heap.size+2) [(6,fun _ W=>Mine W (w.heap.size+2) A1 N1 C1 q)] p9 l9 W9 (pickBs l9 [(3,[⟨w1.heap.size,#[.slice A1 N1 C1],44⟩,⟨w.heap.size,#[.bool s,.slice a n cap,.int .i64 x,.bool mo],101⟩,⟨w.heap.size+1,#[.slice A1 N1 C1],44⟩])] [⟨w1.heap.size,#[.slice A1 N1 C1],44⟩,⟨w.heap.size,#[.bool s,.slice a n cap,.int .i64 x,.bool mo],101⟩,⟨w.heap.size+1,#[.slice none 0 0],44⟩])) _ _ (fun _=>rfl) (by kernel_rfl) (fun _=>rfl) (fun _=>rfl) ?_ ?_ (fun _=>⟨none,0,0⟩) (Pm.start2 hS _ _ _ (by omega) hs9 h09)
 ·intro p9 l9 t9 W9 i9 hD hi9 hl9 hM
  obtain ⟨o9,ho9,hd9⟩:=(mem_ready.1 hi9).2
  have hin9:i9 < 6:=by
   by_cases h:i9 < 6
   ·exact h
   ·rw [Array.getElem?_eq_none (by rw [hD.len]; simp; omega)] at hl9; cases hl9
  have hcase:i9 = 0∨i9 = 1∨i9 = 2∨i9 = 3∨i9 = 4∨i9 = 5:=by omega
  clear hin9
  rcases hcase with rfl|rfl|rfl|rfl|rfl|rfl
  ·cases ho9
   have r7:=hD.old 7 _ rfl rfl
   have hM0:Fs w W9 [⟨w1.heap.size,#[.slice A1 N1 C1],44⟩,⟨w.heap.size,#[.bool s,.slice a n cap,.int .i64 x,.bool mo],101⟩,⟨w.heap.size+1,#[.slice none 0 0],44⟩]:=by
    have hM1:=hM.st
    simp only [pickBs] at hM1
    rw [if_neg (hD.waits 0 3 _ ⟨0,.data⟩ hl9 rfl (by simp) rfl rfl)] at hM1
    exact hM1
   have c9_0:=hM0.cellAt (b:=w1.heap.size) (cs:=#[.slice A1 N1 C1]) (t:=44) (by simp) 0 _ rfl
   clear hM0
   refine wpOp_step rfl fun K hK=>?_
   go_simp
   exact hK _ _ ⟨p9,fun _ _=>rfl,rfl,(Pm.keepM rfl (hM.val rfl))⟩
  ·cases ho9
   have r2:=hD.old 2 _ rfl rfl
   refine wpOp_step rfl fun K hK=>?_
   go_simp
   exact hK _ _ ⟨p9,fun _ _=>rfl,rfl,(Pm.keepM rfl (hM.val rfl))⟩
  ·cases ho9
   have r31:=hD.od hd9 1 31 _ rfl (by simp)
   have hM0:Fs w W9 [⟨w.heap.size,#[.bool s,.slice a n cap,.int .i64 x,.bool mo],101⟩]:=by
    have hM1:=hM.st
    simp only [pickBs] at hM1
    (repeat' split at hM1) <;> exact hM1.sub (by simp)
   have c9_0:=hM0.cellAt (b:=w.heap.size) (cs:=#[.bool s,.slice a n cap,.int .i64 x,.bool mo]) (t:=101) (by simp) 3 _ rfl
   clear hM0
   refine wpOp_step rfl fun K hK=>?_
   go_simp
   exact hK _ _ ⟨p9,fun _ _=>rfl,rfl,(Pm.keepM rfl (hM.val rfl))⟩
  ·cases ho9
   have r4:=hD.old 4 _ rfl rfl
   have r30:=hD.od hd9 0 30 _ rfl (by simp)
   have hM0:Fs w W9 [⟨w1.heap.size,#[.slice A1 N1 C1],44⟩,⟨w.heap.size,#[.bool s,.slice a n cap,.int .i64 x,.bool mo],101⟩,⟨w.heap.size+1,#[.slice none 0 0],44⟩]:=by
    have hM1:=hM.st
    simp only [pickBs] at hM1
    rw [if_neg (by rw [hl9]; simp)] at hM1
    exact hM1
   have c9_0:=hM0.cellAt (b:=w.heap.size+1) (cs:=#[.slice none 0 0]) (t:=44) (by simp) 0 _ rfl
   have z9_0:=hM0.frozen (b:=w.heap.size+1) (cs:=#[.slice none 0 0]) (t:=44) (by simp) 0
   refine wpOp_step rfl fun K hK=>?_
   go_simp
   exact hK _ _ ⟨p9,fun _ _=>rfl,rfl,Pm.putM hl9 ((hM.val rfl).put hs9 _ _ (by simp <;> omega) (hM0.put (b:=w.heap.size+1) (cs:=#[.slice none 0 0]) (t:=44) (by simp) (by first|simp|omega) 0 (.slice A1 N1 C1) [⟨w1.heap.size,#[.slice A1 N1 C1],44⟩,⟨w.heap.size,#[.bool s,.slice a n cap,.int .i64 x,.bool mo],101⟩,⟨w.heap.size+1,#[.slice A1 N1 C1],44⟩] (by simp <;> omega)))⟩
  ·cases ho9
   refine wpOp_step rfl fun K hK=>?_
   go_simp
   exact hK _ _ ⟨p9,fun _ _=>rfl,rfl,(Pm.keepM rfl (hM.val rfl))⟩
  ·cases ho9
   have r32:=hD.od hd9 2 32 _ rfl (by simp)
   refine wpOp_step rfl fun K hK=>?_
   go_simp
   exact hK _ _ ⟨p9,fun _ _=>rfl,rfl,(Pm.keepM rfl (hM.val rfl))⟩
 ·intro p9 l9 W9 hn9 hl9 hM
  have kr3_0:=hM.fx _ (List.mem_of_getElem? (i:=0) rfl) (Or.inr (by rw [hn9]; simp))
  try simp only [] at kr3_0
  replace hM:=hM.st
  simp only [pickBs] at hM
  rw [if_pos (hl9 3 (by decide))] at hM
  clear hl9 hs9 h09 hn9
  clear hS yf yg yh yi yj yk
  have hS:=hM
  clear hM
  simp only [Puts.lay,List.setIfInBounds_toArray,List.set_cons_zero,List.set_cons_succ]
  obtain ⟨⟨yl,-⟩,⟨ym,yn,yo,yp,-⟩,⟨yq,-⟩,-⟩:=hS.cells
  go_wp2
  exact bodyPost_ret (v:=.tuple #[.agg #[.slice A1 N1 C1],.int .i64 (-1),.bool mo]) (by simp [results,Tryz.results81,go_sem,yq]) rfl ⟨⟨_,_,_,rfl,Mine.mono kr3_0 (by omega)⟩,hS.fr⟩
theorem rcut_f0 (s:Bool) (a:Option Addr) (n cap m:Nat) (x:Int) (d e1:Nat) (q p r hf:Nat) (l:Bool) (w:World) (h:Num w a n m) (hd:0 < d) (hd2:d < 4294967296) (he1:(d:Int) - 1 = (e1:Int)) (HD:Hid (∀ (W:World),Num W a n m→Calls Tryz.prog 44 #[.agg #[.slice a n cap],.int .i64 (d:Int)] W fun e w'=>(∃ A N C,e = .returned (.tuple #[.agg #[.slice A N C],.int .i64 0])∧Mine w' W.heap.size A N C (q))∧Below W.heap.size W w')) (HU:Hid (∀ (W:World) (A0:Option Addr) (N0 C0:Nat),Num W A0 N0 q→Calls Tryz.prog 46 #[.agg #[.slice A0 N0 C0],.int .i64 (d:Int)] W fun e w'=>(∃ A N C,e = .returned (.tuple #[.agg #[.slice A N C],.int .i64 0])∧Mine w' W.heap.size A N C (p))∧Below W.heap.size W w')) (HS:Hid (∀ (W:World) (A0:Option Addr) (N0 C0:Nat),Num W a n m→Num W A0 N0 p→Calls Tryz.prog 49 #[.agg #[.slice a n cap],.agg #[.slice A0 N0 C0]] W fun e w'=>(∃ A N C,e = .returned (.tuple #[.agg #[.slice A N C],.bool true,.int .i64 0])∧Mine w' W.heap.size A N C (r))∧Below W.heap.size W w')) (HH:Hid (∀ (W:World) (A0:Option Addr) (N0 C0:Nat),Num W A0 N0 1→Calls Tryz.prog 46 #[.agg #[.slice A0 N0 C0],.int .i64 (e1:Int)] W fun e w'=>(∃ A N C,e = .returned (.tuple #[.agg #[.slice A N C],.int .i64 0])∧Mine w' W.heap.size A N C (hf))∧Below W.heap.size W w')) (HC:Hid (∀ (W:World) (A:Option Addr) (N C:Nat) (A':Option Addr) (N' C':Nat),Num W A N r→Num W A' N' hf→Calls Tryz.prog 48 #[.agg #[.slice A N C],.agg #[.slice A' N' C']] W fun e w'=>e = .returned (.tuple #[.int .i64 0,.int .i64 0])∧Below W.heap.size W w')) (hl:decide (0 < r) = l) :
  Calls Tryz.prog 81 #[.agg #[.bool s,.slice a n cap,.int .i64 x,.bool false],.int .i64 (d:Int)] w fun e w'=>(∃ A N C,e = .returned (.tuple #[.agg #[.slice A N C],.int .i64 0,.bool l])∧Mine w' w.heap.size A N C (q))∧Below w.heap.size w w':=by
 have H:=hide h
 have hdi:¬ ((d:Int)≤0):=by omega
 have HL:=hide hl
 clear hl
 clear h
 go_enter Tryz.func81,Tryz.ntmps81
 go_wp2_with fail
 refine (unhide HD _ ((unhide H).kept (Fs.two w _ _ _ _).fr)).mono ?_
 rintro e w1 ⟨⟨A1,N1,C1,rfl,f1⟩,hb1⟩
 have hS:=(Fs.two w _ _ _ _).kept hb1
 obtain ⟨⟨ya,yb,yc,yd,-⟩,⟨ye,-⟩,-⟩:=hS.cells
 have G1:=hide (f1.mono (base':=w.heap.size+2) (by simp))
 clear f1
 have hltw1_0:w.heap.size < w1.heap.size:=hS.lt 0 rfl
 have hltw1_1:w.heap.size+1 < w1.heap.size:=hS.lt 1 rfl
 obtain ⟨WV1,hWV1⟩:∃ WV1,w1.alloc (.cells #[.slice A1 N1 C1] 44) = WV1:=⟨_,rfl⟩
 replace hS:=hS.alloc #[.slice A1 N1 C1] 44
 rw [hWV1] at hS
 replace G1:=hide (hWV1▸(unhide G1).alloc (.cells #[.slice A1 N1 C1] 44))
 clear ya yb yc yd ye
 obtain ⟨⟨yf,-⟩,⟨yg,yh,yi,yj,-⟩,⟨yk,-⟩,-⟩:=hS.cells
 have hz1:w.heap.size+1 < WV1.heap.size:=block_lt (hS.bx ⟨w.heap.size+1,#[.slice none 0 0],44⟩ (by simp))
 go_wp2_with fail
 refine (unhide HU _ _ _ _ (unhide G1).num).mono ?_
 rintro e w2 ⟨⟨A2,N2,C2,rfl,f2⟩,hb2⟩
 replace hS:=hS.kept hb2
 clear yf yg yh yi yj yk
 obtain ⟨⟨yl,-⟩,⟨ym,yn,yo,yp,-⟩,⟨yq,-⟩,-⟩:=hS.cells
 replace G1:=hide ((unhide G1).kept hb2)
 have G2:=hide (f2.mono (base':=w.heap.size+2) hz1)
 clear f2
 have hltw2_0:w1.heap.size < w2.heap.size:=hS.lt 0 rfl
 have hltw2_1:w.heap.size < w2.heap.size:=hS.lt 1 rfl
 have hltw2_2:w.heap.size+1 < w2.heap.size:=hS.lt 2 rfl
 obtain ⟨WV2,hWV2⟩:∃ WV2,w2.alloc (.cells #[.slice A2 N2 C2] 44) = WV2:=⟨_,rfl⟩
 replace hS:=hS.alloc #[.slice A2 N2 C2] 44
 rw [hWV2] at hS
 replace G1:=hide (hWV2▸(unhide G1).alloc (.cells #[.slice A2 N2 C2] 44))
 replace G2:=hide (hWV2▸(unhide G2).alloc (.cells #[.slice A2 N2 C2] 44))
 clear yl ym yn yo yp yq
 obtain ⟨⟨yr,-⟩,⟨ys,-⟩,⟨yt,yu,yv,yw,-⟩,⟨yx,-⟩,-⟩:=hS.cells
 have hz2:w.heap.size+1 < WV2.heap.size:=block_lt (hS.bx ⟨w.heap.size+1,#[.slice none 0 0],44⟩ (by simp))
 go_wp2_with fail
 refine (unhide HS _ _ _ _ ((unhide H).kept hS.fr) (unhide G2).num).mono ?_
 rintro e w3 ⟨⟨A3,N3,C3,rfl,f3⟩,hb3⟩
 replace hS:=hS.kept hb3
 clear yr ys yt yu yv yw yx
 obtain ⟨⟨yy,-⟩,⟨yz,-⟩,⟨y0,y1,y2,y3,-⟩,⟨y4,-⟩,-⟩:=hS.cells
 replace G1:=hide ((unhide G1).kept hb3)
 replace G2:=hide ((unhide G2).kept hb3)
 have G3:=hide (f3.mono (base':=w.heap.size+2) hz2)
 clear f3
 have hltw3_0:w2.heap.size < w3.heap.size:=hS.lt 0 rfl
 have hltw3_1:w1.heap.size < w3.heap.size:=hS.lt 1 rfl
 have hltw3_2:w.heap.size < w3.heap.size:=hS.lt 2 rfl
 have hltw3_3:w.heap.size+1 < w3.heap.size:=hS.lt 3 rfl
 obtain ⟨WV3,hWV3⟩:∃ WV3,w3.alloc (.cells #[.slice A3 N3 C3] 44) = WV3:=⟨_,rfl⟩
 replace hS:=hS.alloc #[.slice A3 N3 C3] 44
 rw [hWV3] at hS
 replace G1:=hide (hWV3▸(unhide G1).alloc (.cells #[.slice A3 N3 C3] 44))
 replace G2:=hide (hWV3▸(unhide G2).alloc (.cells #[.slice A3 N3 C3] 44))
 replace G3:=hide (hWV3▸(unhide G3).alloc (.cells #[.slice A3 N3 C3] 44))
 clear yy yz y0 y1 y2 y3 y4
 obtain ⟨⟨y5,-⟩,⟨y6,-⟩,⟨y7,-⟩,⟨y8,y9,yba,ybb,-⟩,⟨ybc,-⟩,-⟩:=hS.cells
 have hz3:w.heap.size+1 < WV3.heap.size:=block_lt (hS.bx ⟨w.heap.size+1,#[.slice none 0 0],44⟩ (by simp))
 go_wp2_with fail
 refine (rof_any 1 _ (by decide)).mono ?_
 rintro e w4 ⟨⟨A4,N4,C4,rfl,f4⟩,hb4⟩
 replace hS:=hS.kept hb4
 clear y5 y6 y7 y8 y9 yba ybb ybc
 obtain ⟨⟨ybd,-⟩,⟨ybe,-⟩,⟨ybf,-⟩,⟨ybg,ybh,ybi,ybj,-⟩,⟨ybk,-⟩,-⟩:=hS.cells
 replace G1:=hide ((unhide G1).kept hb4)
 replace G2:=hide ((unhide G2).kept hb4)
 replace G3:=hide ((unhide G3).kept hb4)
 have G4:=hide (f4.mono (base':=w.heap.size+2) hz3)
 clear f4
 have hz4:w.heap.size+1 < w4.heap.size:=block_lt (hS.bx ⟨w.heap.size+1,#[.slice none 0 0],44⟩ (by simp))
 go_wp2_with fail
 refine (unhide HH _ _ _ _ (unhide G4).num).mono ?_
 rintro e w5 ⟨⟨A5,N5,C5,rfl,f5⟩,hb5⟩
 replace hS:=hS.kept hb5
 clear ybd ybe ybf ybg ybh ybi ybj ybk
 obtain ⟨⟨ybl,-⟩,⟨ybm,-⟩,⟨ybn,-⟩,⟨ybo,ybp,ybq,ybr,-⟩,⟨ybs,-⟩,-⟩:=hS.cells
 replace G1:=hide ((unhide G1).kept hb5)
 replace G2:=hide ((unhide G2).kept hb5)
 replace G3:=hide ((unhide G3).kept hb5)
 replace G4:=hide ((unhide G4).kept hb5)
 have G5:=hide (f5.mono (base':=w.heap.size+2) hz4)
 clear f5
 have hltw5_0:w3.heap.size < w5.heap.size:=hS.lt 0 rfl
 have hltw5_1:w2.heap.size < w5.heap.size:=hS.lt 1 rfl
 have hltw5_2:w1.heap.size < w5.heap.size:=hS.lt 2 rfl
 have hltw5_3:w.heap.size < w5.heap.size:=hS.lt 3 rfl
 have hltw5_4:w.heap.size+1 < w5.heap.size:=hS.lt 4 rfl
 obtain ⟨WV5,hWV5⟩:∃ WV5,w5.alloc (.cells #[.slice A5 N5 C5] 44) = WV5:=⟨_,rfl⟩
 replace hS:=hS.alloc #[.slice A5 N5 C5] 44
 rw [hWV5] at hS
 replace G1:=hide (hWV5▸(unhide G1).alloc (.cells #[.slice A5 N5 C5] 44))
 replace G2:=hide (hWV5▸(unhide G2).alloc (.cells #[.slice A5 N5 C5] 44))
 replace G3:=hide (hWV5▸(unhide G3).alloc (.cells #[.slice A5 N5 C5] 44))
 replace G4:=hide (hWV5▸(unhide G4).alloc (.cells #[.slice A5 N5 C5] 44))
 replace G5:=hide (hWV5▸(unhide G5).alloc (.cells #[.slice A5 N5 C5] 44))
 clear ybl ybm ybn ybo ybp ybq ybr ybs
 obtain ⟨⟨ybt,-⟩,⟨ybu,-⟩,⟨ybv,-⟩,⟨ybw,-⟩,⟨ybx,yby,ybz,yb0,-⟩,⟨yb1,-⟩,-⟩:=hS.cells
 go_wp2_with fail
 refine (unhide HC _ _ _ _ _ _ _ (unhide G3).num (unhide G5).num).mono ?_
 rintro e w6 ⟨rfl,hb6⟩
 replace hS:=hS.kept hb6
 clear ybt ybu ybv ybw ybx yby ybz yb0 yb1
 obtain ⟨⟨yb2,-⟩,⟨yb3,-⟩,⟨yb4,-⟩,⟨yb5,-⟩,⟨yb6,yb7,yb8,yb9,-⟩,⟨yca,-⟩,-⟩:=hS.cells
 replace G1:=hide ((unhide G1).kept hb6)
 replace G2:=hide ((unhide G2).kept hb6)
 replace G3:=hide ((unhide G3).kept hb6)
 replace G4:=hide ((unhide G4).kept hb6)
 replace G5:=hide ((unhide G5).kept hb6)
 have hl2:decide ((0:Int) < (N3:Int)) = l:=by rw [← unhide HL]; have:=(unhide G3).num.zero; rw [decide_eq_decide]; omega
 have hz5:w.heap.size+1 < w6.heap.size:=block_lt (hS.bx ⟨w.heap.size+1,#[.slice none 0 0],44⟩ (by simp))
 go_wp2_with fail
 have hS3s:w.heap.size≤w6.heap.size:=hS.size
 have hs9:∀ x9:Nat×(Pk→World→Prop),x9∈([(13,fun _ W=>Mine W (w.heap.size+2) A1 N1 C1 q)]:List (Nat×(Pk→World→Prop)))→∀ q9:Pk,St (w.heap.size+2) (x9.2 q9):=by
  intro x hx q
  simp only [List.mem_cons,List.not_mem_nil,or_false] at hx
  rcases hx with rfl
  ·exact st_mine2 _ _ _ _
 have h09:∀ x9:Nat×(Pk→World→Prop),x9∈([(13,fun _ W=>Mine W (w.heap.size+2) A1 N1 C1 q)]:List (Nat×(Pk→World→Prop)))→13≤x9.1→x9.2 ⟨none,0,0⟩ w6:=by
  intro x hx hn9
  simp only [List.mem_cons,List.not_mem_nil,or_false] at hx
  rcases hx with rfl
  ·exact unhide G1
 refine wp_region_any (by kernel_rfl) ?_
 refine wpAny_pick (fun p9=>[some (73,.agg #[.slice A1 N1 C1]),some (74,.int .i64 0),some (75,.pointer (some ⟨w.heap.size,3,none⟩)),some (76,.bool false),some (77,.bool false),some (78,.pointer (some ⟨w3.heap.size,0,none⟩)),some (79,.slice A3 N3 C3),some (80,.int .i64 (N3:Int)),some (81,.bool l),some (82,.bool l),none,some (5,.int .i64 0),some (6,.bool l)])
  (fun p9 l9 W9=>Pm w (w.heap.size+2) [(13,fun _ W=>Mine W (w.heap.size+2) A1 N1 C1 q)] p9 l9 W9 (pickBs l9 [(10,[⟨w5.heap.size,#[.slice A5 N5 C5],44⟩,⟨w3.heap.size,#[.slice A3 N3 C3],44⟩,⟨w2.heap.size,#[.slice A2 N2 C2],44⟩,⟨w1.heap.size,#[.slice A1 N1 C1],44⟩,⟨w.heap.size,#[.bool s,.slice a n cap,.int .i64 x,.bool false],101⟩,⟨w.heap.size+1,#[.slice A1 N1 C1],44⟩])] [⟨w5.heap.size,#[.slice A5 N5 C5],44⟩,⟨w3.heap.size,#[.slice A3 N3 C3],44⟩,⟨w2.heap.size,#[.slice A2 N2 C2],44⟩,⟨w1.heap.size,#[.slice A1 N1 C1],44⟩,⟨w.heap.size,#[.bool s,.slice a n cap,.int .i64 x,.bool false],101⟩,⟨w.heap.size+1,#[.slice none 0 0],44⟩])) _ _ (fun _=>rfl) (by kernel_rfl) (fun _=>rfl) (fun _=>rfl) ?_ ?_ (fun _=>⟨none,0,0⟩) (Pm.start2 hS _ _ _ (by omega) hs9 h09)
 ·intro p9 l9 t9 W9 i9 hD hi9 hl9 hM
  obtain ⟨o9,ho9,hd9⟩:=(mem_ready.1 hi9).2
  have hin9:i9 < 13:=by
   by_cases h:i9 < 13
   ·exact h
   ·rw [Array.getElem?_eq_none (by rw [hD.len]; simp; omega)] at hl9; cases hl9
  have hcase:i9 = 0∨i9 = 1∨i9 = 2∨i9 = 3∨i9 = 4∨i9 = 5∨i9 = 6∨i9 = 7∨i9 = 8∨i9 = 9∨i9 = 10∨i9 = 11∨i9 = 12:=by omega
  clear hin9
  rcases hcase with rfl|rfl|rfl|rfl|rfl|rfl|rfl|rfl|rfl|rfl|rfl|rfl|rfl
  ·cases ho9
   have r9:=hD.old 9 _ rfl rfl
   have hM0:Fs w W9 [⟨w5.heap.size,#[.slice A5 N5 C5],44⟩,⟨w3.heap.size,#[.slice A3 N3 C3],44⟩,⟨w2.heap.size,#[.slice A2 N2 C2],44⟩,⟨w1.heap.size,#[.slice A1 N1 C1],44⟩,⟨w.heap.size,#[.bool s,.slice a n cap,.int .i64 x,.bool false],101⟩,⟨w.heap.size+1,#[.slice none 0 0],44⟩]:=by
    have hM1:=hM.st
    simp only [pickBs] at hM1
    rw [if_neg (hD.waits 0 10 _ ⟨0,.data⟩ hl9 rfl (by simp) rfl rfl)] at hM1
    exact hM1
   have c9_0:=hM0.cellAt (b:=w1.heap.size) (cs:=#[.slice A1 N1 C1]) (t:=44) (by simp) 0 _ rfl
   clear hM0
   refine wpOp_step rfl fun K hK=>?_
   go_simp
   exact hK _ _ ⟨p9,fun _ _=>rfl,rfl,(Pm.keepM rfl (hM.val rfl))⟩
  ·cases ho9
   have r18:=hD.old 18 _ rfl rfl
   refine wpOp_step rfl fun K hK=>?_
   go_simp
   exact hK _ _ ⟨p9,fun _ _=>rfl,rfl,(Pm.keepM rfl (hM.val rfl))⟩
  ·cases ho9
   have r2:=hD.old 2 _ rfl rfl
   refine wpOp_step rfl fun K hK=>?_
   go_simp
   exact hK _ _ ⟨p9,fun _ _=>rfl,rfl,(Pm.keepM rfl (hM.val rfl))⟩
  ·cases ho9
   have r75:=hD.od hd9 2 75 _ rfl (by simp)
   have hM0:Fs w W9 [⟨w.heap.size,#[.bool s,.slice a n cap,.int .i64 x,.bool false],101⟩]:=by
    have hM1:=hM.st
    simp only [pickBs] at hM1
    (repeat' split at hM1) <;> exact hM1.sub (by simp)
   have c9_0:=hM0.cellAt (b:=w.heap.size) (cs:=#[.bool s,.slice a n cap,.int .i64 x,.bool false]) (t:=101) (by simp) 3 _ rfl
   clear hM0
   refine wpOp_step rfl fun K hK=>?_
   go_simp
   exact hK _ _ ⟨p9,fun _ _=>rfl,rfl,(Pm.keepM rfl (hM.val rfl))⟩
  ·cases ho9
   have r76:=hD.od hd9 3 76 _ rfl (by simp)
   refine wpOp_step rfl fun K hK=>?_
   go_simp
   exact hK _ _ ⟨p9,fun _ _=>rfl,rfl,(Pm.keepM rfl (hM.val rfl))⟩
  ·cases ho9
   have r77:=hD.on 4 77 _ rfl (getD_true (hd9 ⟨4,.guard⟩ (by simp) rfl))
   have r13:=hD.old 13 _ rfl rfl
   refine wpOp_step rfl fun K hK=>?_
   go_simp
   exact hK _ _ ⟨p9,fun _ _=>rfl,rfl,(Pm.keepM rfl (hM.val rfl))⟩
  ·cases ho9
   have r77:=hD.on 4 77 _ rfl (getD_true (hd9 ⟨4,.guard⟩ (by simp) rfl))
   have r78:=hD.od hd9 5 78 _ rfl (by simp)
   have hM0:Fs w W9 [⟨w3.heap.size,#[.slice A3 N3 C3],44⟩]:=by
    have hM1:=hM.st
    simp only [pickBs] at hM1
    (repeat' split at hM1) <;> exact hM1.sub (by simp)
   have c9_0:=hM0.cellAt (b:=w3.heap.size) (cs:=#[.slice A3 N3 C3]) (t:=44) (by simp) 0 _ rfl
   clear hM0
   refine wpOp_step rfl fun K hK=>?_
   go_simp
   exact hK _ _ ⟨p9,fun _ _=>rfl,rfl,(Pm.keepM rfl (hM.val rfl))⟩
  ·cases ho9
   have r77:=hD.on 4 77 _ rfl (getD_true (hd9 ⟨4,.guard⟩ (by simp) rfl))
   have r79:=hD.od hd9 6 79 _ rfl (by simp)
   refine wpOp_step rfl fun K hK=>?_
   go_simp
   exact hK _ _ ⟨p9,fun _ _=>rfl,act_eq (by first|rfl|simp),(Pm.keepM rfl (hM.val rfl))⟩
  ·cases ho9
   have r77:=hD.on 4 77 _ rfl (getD_true (hd9 ⟨4,.guard⟩ (by simp) rfl))
   have r80:=hD.od hd9 7 80 _ rfl (by simp)
   refine wpOp_step rfl fun K hK=>?_
   go_simp
   exact hK _ _ ⟨p9,fun _ _=>rfl,act_eq (by first|(rw [← hl2]; rfl)|simp [← hl2]|(rw [← hl2]; simp)),(Pm.keepM rfl (hM.val rfl))⟩
  ·cases ho9
   have r77:=hD.od hd9 4 77 _ rfl (by simp)
   have r81:=hD.od hd9 8 81 _ rfl (by simp)
   refine wpOp_step rfl fun K hK=>?_
   go_simp
   exact hK _ _ ⟨p9,fun _ _=>rfl,rfl,(Pm.keepM rfl (hM.val rfl))⟩
  ·cases ho9
   have r4:=hD.old 4 _ rfl rfl
   have r73:=hD.od hd9 0 73 _ rfl (by simp)
   have hM0:Fs w W9 [⟨w5.heap.size,#[.slice A5 N5 C5],44⟩,⟨w3.heap.size,#[.slice A3 N3 C3],44⟩,⟨w2.heap.size,#[.slice A2 N2 C2],44⟩,⟨w1.heap.size,#[.slice A1 N1 C1],44⟩,⟨w.heap.size,#[.bool s,.slice a n cap,.int .i64 x,.bool false],101⟩,⟨w.heap.size+1,#[.slice none 0 0],44⟩]:=by
    have hM1:=hM.st
    simp only [pickBs] at hM1
    rw [if_neg (by rw [hl9]; simp)] at hM1
    exact hM1
   have c9_0:=hM0.cellAt (b:=w.heap.size+1) (cs:=#[.slice none 0 0]) (t:=44) (by simp) 0 _ rfl
   have z9_0:=hM0.frozen (b:=w.heap.size+1) (cs:=#[.slice none 0 0]) (t:=44) (by simp) 0
   refine wpOp_step rfl fun K hK=>?_
   go_simp
   exact hK _ _ ⟨p9,fun _ _=>rfl,rfl,Pm.putM hl9 ((hM.val rfl).put hs9 _ _ (by simp <;> omega) (hM0.put (b:=w.heap.size+1) (cs:=#[.slice none 0 0]) (t:=44) (by simp) (by first|simp|omega) 0 (.slice A1 N1 C1) [⟨w5.heap.size,#[.slice A5 N5 C5],44⟩,⟨w3.heap.size,#[.slice A3 N3 C3],44⟩,⟨w2.heap.size,#[.slice A2 N2 C2],44⟩,⟨w1.heap.size,#[.slice A1 N1 C1],44⟩,⟨w.heap.size,#[.bool s,.slice a n cap,.int .i64 x,.bool false],101⟩,⟨w.heap.size+1,#[.slice A1 N1 C1],44⟩] (by simp <;> omega)))⟩
  ·cases ho9
   have r74:=hD.od hd9 1 74 _ rfl (by simp)
   refine wpOp_step rfl fun K hK=>?_
   go_simp
   exact hK _ _ ⟨p9,fun _ _=>rfl,rfl,(Pm.keepM rfl (hM.val rfl))⟩
  ·cases ho9
   have r82:=hD.od hd9 9 82 _ rfl (by simp)
   refine wpOp_step rfl fun K hK=>?_
   go_simp
   exact hK _ _ ⟨p9,fun _ _=>rfl,rfl,(Pm.keepM rfl (hM.val rfl))⟩
 ·intro p9 l9 W9 hn9 hl9 hM
  have kr11_0:=hM.fx _ (List.mem_of_getElem? (i:=0) rfl) (Or.inr (by rw [hn9]; simp))
  try simp only [] at kr11_0
  replace hM:=hM.st
  simp only [pickBs] at hM
  rw [if_pos (hl9 10 (by decide))] at hM
  clear hl9 hs9 h09 hn9
  clear hS yb2 yb3 yb4 yb5 yb6 yb7 yb8 yb9 yca
  have hS:=hM
  clear hM
  simp only [Puts.lay,List.setIfInBounds_toArray,List.set_cons_zero,List.set_cons_succ]
  obtain ⟨⟨ycb,-⟩,⟨ycc,-⟩,⟨ycd,-⟩,⟨yce,-⟩,⟨ycf,ycg,ych,yci,-⟩,⟨ycj,-⟩,-⟩:=hS.cells
  go_wp2
  exact bodyPost_ret (v:=.tuple #[.agg #[.slice A1 N1 C1],.int .i64 0,.bool l]) (by simp [results,Tryz.results81,go_sem,ycj]) rfl ⟨⟨_,_,_,rfl,Mine.mono kr11_0 (by omega)⟩,hS.fr⟩
theorem rcut_fc (s:Bool) (a:Option Addr) (n cap m:Nat) (x:Int) (d e1:Nat) (q p r hf:Nat) (c:Int) (l:Bool) (w:World) (h:Num w a n m) (hd:0 < d) (hd2:d < 4294967296) (he1:(d:Int) - 1 = (e1:Int)) (HD:Hid (∀ (W:World),Num W a n m→Calls Tryz.prog 44 #[.agg #[.slice a n cap],.int .i64 (d:Int)] W fun e w'=>(∃ A N C,e = .returned (.tuple #[.agg #[.slice A N C],.int .i64 0])∧Mine w' W.heap.size A N C (q))∧Below W.heap.size W w')) (HU:Hid (∀ (W:World) (A0:Option Addr) (N0 C0:Nat),Num W A0 N0 q→Calls Tryz.prog 46 #[.agg #[.slice A0 N0 C0],.int .i64 (d:Int)] W fun e w'=>(∃ A N C,e = .returned (.tuple #[.agg #[.slice A N C],.int .i64 0])∧Mine w' W.heap.size A N C (p))∧Below W.heap.size W w')) (HS:Hid (∀ (W:World) (A0:Option Addr) (N0 C0:Nat),Num W a n m→Num W A0 N0 p→Calls Tryz.prog 49 #[.agg #[.slice a n cap],.agg #[.slice A0 N0 C0]] W fun e w'=>(∃ A N C,e = .returned (.tuple #[.agg #[.slice A N C],.bool true,.int .i64 0])∧Mine w' W.heap.size A N C (r))∧Below W.heap.size W w')) (HH:Hid (∀ (W:World) (A0:Option Addr) (N0 C0:Nat),Num W A0 N0 1→Calls Tryz.prog 46 #[.agg #[.slice A0 N0 C0],.int .i64 (e1:Int)] W fun e w'=>(∃ A N C,e = .returned (.tuple #[.agg #[.slice A N C],.int .i64 0])∧Mine w' W.heap.size A N C (hf))∧Below W.heap.size W w')) (HC:Hid (∀ (W:World) (A:Option Addr) (N C:Nat) (A':Option Addr) (N' C':Nat),Num W A N r→Num W A' N' hf→Calls Tryz.prog 48 #[.agg #[.slice A N C],.agg #[.slice A' N' C']] W fun e w'=>e = .returned (.tuple #[.int .i64 c,.int .i64 0])∧Below W.heap.size W w')) (hc:(c == (0:Int)) = false) (hl:decide (0 < r) = l) :
  Calls Tryz.prog 81 #[.agg #[.bool s,.slice a n cap,.int .i64 x,.bool false],.int .i64 (d:Int)] w fun e w'=>(∃ A N C,e = .returned (.tuple #[.agg #[.slice A N C],.int .i64 c,.bool l])∧Mine w' w.heap.size A N C (q))∧Below w.heap.size w w':=by
 have H:=hide h
 have hdi:¬ ((d:Int)≤0):=by omega
 have HL:=hide hl
 clear hl
 clear h
 go_enter Tryz.func81,Tryz.ntmps81
 go_wp2_with fail
 refine (unhide HD _ ((unhide H).kept (Fs.two w _ _ _ _).fr)).mono ?_
 rintro e w1 ⟨⟨A1,N1,C1,rfl,f1⟩,hb1⟩
 have hS:=(Fs.two w _ _ _ _).kept hb1
 obtain ⟨⟨ya,yb,yc,yd,-⟩,⟨ye,-⟩,-⟩:=hS.cells
 have G1:=hide (f1.mono (base':=w.heap.size+2) (by simp))
 clear f1
 have hltw1_0:w.heap.size < w1.heap.size:=hS.lt 0 rfl
 have hltw1_1:w.heap.size+1 < w1.heap.size:=hS.lt 1 rfl
 obtain ⟨WV1,hWV1⟩:∃ WV1,w1.alloc (.cells #[.slice A1 N1 C1] 44) = WV1:=⟨_,rfl⟩
 replace hS:=hS.alloc #[.slice A1 N1 C1] 44
 rw [hWV1] at hS
 replace G1:=hide (hWV1▸(unhide G1).alloc (.cells #[.slice A1 N1 C1] 44))
 clear ya yb yc yd ye
 obtain ⟨⟨yf,-⟩,⟨yg,yh,yi,yj,-⟩,⟨yk,-⟩,-⟩:=hS.cells
 have hz1:w.heap.size+1 < WV1.heap.size:=block_lt (hS.bx ⟨w.heap.size+1,#[.slice none 0 0],44⟩ (by simp))
 go_wp2_with fail
 refine (unhide HU _ _ _ _ (unhide G1).num).mono ?_
 rintro e w2 ⟨⟨A2,N2,C2,rfl,f2⟩,hb2⟩
 replace hS:=hS.kept hb2
 clear yf yg yh yi yj yk
 obtain ⟨⟨yl,-⟩,⟨ym,yn,yo,yp,-⟩,⟨yq,-⟩,-⟩:=hS.cells
 replace G1:=hide ((unhide G1).kept hb2)
 have G2:=hide (f2.mono (base':=w.heap.size+2) hz1)
 clear f2
 have hltw2_0:w1.heap.size < w2.heap.size:=hS.lt 0 rfl
 have hltw2_1:w.heap.size < w2.heap.size:=hS.lt 1 rfl
 have hltw2_2:w.heap.size+1 < w2.heap.size:=hS.lt 2 rfl
 obtain ⟨WV2,hWV2⟩:∃ WV2,w2.alloc (.cells #[.slice A2 N2 C2] 44) = WV2:=⟨_,rfl⟩
 replace hS:=hS.alloc #[.slice A2 N2 C2] 44
 rw [hWV2] at hS
 replace G1:=hide (hWV2▸(unhide G1).alloc (.cells #[.slice A2 N2 C2] 44))
 replace G2:=hide (hWV2▸(unhide G2).alloc (.cells #[.slice A2 N2 C2] 44))
 clear yl ym yn yo yp yq
 obtain ⟨⟨yr,-⟩,⟨ys,-⟩,⟨yt,yu,yv,yw,-⟩,⟨yx,-⟩,-⟩:=hS.cells
 have hz2:w.heap.size+1 < WV2.heap.size:=block_lt (hS.bx ⟨w.heap.size+1,#[.slice none 0 0],44⟩ (by simp))
 go_wp2_with fail
 refine (unhide HS _ _ _ _ ((unhide H).kept hS.fr) (unhide G2).num).mono ?_
 rintro e w3 ⟨⟨A3,N3,C3,rfl,f3⟩,hb3⟩
 replace hS:=hS.kept hb3
 clear yr ys yt yu yv yw yx
 obtain ⟨⟨yy,-⟩,⟨yz,-⟩,⟨y0,y1,y2,y3,-⟩,⟨y4,-⟩,-⟩:=hS.cells
 replace G1:=hide ((unhide G1).kept hb3)
 replace G2:=hide ((unhide G2).kept hb3)
 have G3:=hide (f3.mono (base':=w.heap.size+2) hz2)
 clear f3
 have hltw3_0:w2.heap.size < w3.heap.size:=hS.lt 0 rfl
 have hltw3_1:w1.heap.size < w3.heap.size:=hS.lt 1 rfl
 have hltw3_2:w.heap.size < w3.heap.size:=hS.lt 2 rfl
 have hltw3_3:w.heap.size+1 < w3.heap.size:=hS.lt 3 rfl
 obtain ⟨WV3,hWV3⟩:∃ WV3,w3.alloc (.cells #[.slice A3 N3 C3] 44) = WV3:=⟨_,rfl⟩
 replace hS:=hS.alloc #[.slice A3 N3 C3] 44
 rw [hWV3] at hS
 replace G1:=hide (hWV3▸(unhide G1).alloc (.cells #[.slice A3 N3 C3] 44))
 replace G2:=hide (hWV3▸(unhide G2).alloc (.cells #[.slice A3 N3 C3] 44))
 replace G3:=hide (hWV3▸(unhide G3).alloc (.cells #[.slice A3 N3 C3] 44))
 clear yy yz y0 y1 y2 y3 y4
 obtain ⟨⟨y5,-⟩,⟨y6,-⟩,⟨y7,-⟩,⟨y8,y9,yba,ybb,-⟩,⟨ybc,-⟩,-⟩:=hS.cells
 have hz3:w.heap.size+1 < WV3.heap.size:=block_lt (hS.bx ⟨w.heap.size+1,#[.slice none 0 0],44⟩ (by simp))
 go_wp2_with fail
 refine (rof_any 1 _ (by decide)).mono ?_
 rintro e w4 ⟨⟨A4,N4,C4,rfl,f4⟩,hb4⟩
 replace hS:=hS.kept hb4
 clear y5 y6 y7 y8 y9 yba ybb ybc
 obtain ⟨⟨ybd,-⟩,⟨ybe,-⟩,⟨ybf,-⟩,⟨ybg,ybh,ybi,ybj,-⟩,⟨ybk,-⟩,-⟩:=hS.cells
 replace G1:=hide ((unhide G1).kept hb4)
 replace G2:=hide ((unhide G2).kept hb4)
 replace G3:=hide ((unhide G3).kept hb4)
 have G4:=hide (f4.mono (base':=w.heap.size+2) hz3)
 clear f4
 have hz4:w.heap.size+1 < w4.heap.size:=block_lt (hS.bx ⟨w.heap.size+1,#[.slice none 0 0],44⟩ (by simp))
 go_wp2_with fail
 refine (unhide HH _ _ _ _ (unhide G4).num).mono ?_
 rintro e w5 ⟨⟨A5,N5,C5,rfl,f5⟩,hb5⟩
 replace hS:=hS.kept hb5
 clear ybd ybe ybf ybg ybh ybi ybj ybk
 obtain ⟨⟨ybl,-⟩,⟨ybm,-⟩,⟨ybn,-⟩,⟨ybo,ybp,ybq,ybr,-⟩,⟨ybs,-⟩,-⟩:=hS.cells
 replace G1:=hide ((unhide G1).kept hb5)
 replace G2:=hide ((unhide G2).kept hb5)
 replace G3:=hide ((unhide G3).kept hb5)
 replace G4:=hide ((unhide G4).kept hb5)
 have G5:=hide (f5.mono (base':=w.heap.size+2) hz4)
 clear f5
 have hltw5_0:w3.heap.size < w5.heap.size:=hS.lt 0 rfl
 have hltw5_1:w2.heap.size < w5.heap.size:=hS.lt 1 rfl
 have hltw5_2:w1.heap.size < w5.heap.size:=hS.lt 2 rfl
 have hltw5_3:w.heap.size < w5.heap.size:=hS.lt 3 rfl
 have hltw5_4:w.heap.size+1 < w5.heap.size:=hS.lt 4 rfl
 obtain ⟨WV5,hWV5⟩:∃ WV5,w5.alloc (.cells #[.slice A5 N5 C5] 44) = WV5:=⟨_,rfl⟩
 replace hS:=hS.alloc #[.slice A5 N5 C5] 44
 rw [hWV5] at hS
 replace G1:=hide (hWV5▸(unhide G1).alloc (.cells #[.slice A5 N5 C5] 44))
 replace G2:=hide (hWV5▸(unhide G2).alloc (.cells #[.slice A5 N5 C5] 44))
 replace G3:=hide (hWV5▸(unhide G3).alloc (.cells #[.slice A5 N5 C5] 44))
 replace G4:=hide (hWV5▸(unhide G4).alloc (.cells #[.slice A5 N5 C5] 44))
 replace G5:=hide (hWV5▸(unhide G5).alloc (.cells #[.slice A5 N5 C5] 44))
 clear ybl ybm ybn ybo ybp ybq ybr ybs
 obtain ⟨⟨ybt,-⟩,⟨ybu,-⟩,⟨ybv,-⟩,⟨ybw,-⟩,⟨ybx,yby,ybz,yb0,-⟩,⟨yb1,-⟩,-⟩:=hS.cells
 go_wp2_with fail
 refine (unhide HC _ _ _ _ _ _ _ (unhide G3).num (unhide G5).num).mono ?_
 rintro e w6 ⟨rfl,hb6⟩
 replace hS:=hS.kept hb6
 clear ybt ybu ybv ybw ybx yby ybz yb0 yb1
 obtain ⟨⟨yb2,-⟩,⟨yb3,-⟩,⟨yb4,-⟩,⟨yb5,-⟩,⟨yb6,yb7,yb8,yb9,-⟩,⟨yca,-⟩,-⟩:=hS.cells
 replace G1:=hide ((unhide G1).kept hb6)
 replace G2:=hide ((unhide G2).kept hb6)
 replace G3:=hide ((unhide G3).kept hb6)
 replace G4:=hide ((unhide G4).kept hb6)
 replace G5:=hide ((unhide G5).kept hb6)
 have hl2:decide ((0:Int) < (N3:Int)) = l:=by rw [← unhide HL]; have:=(unhide G3).num.zero; rw [decide_eq_decide]; omega
 have hz5:w.heap.size+1 < w6.heap.size:=block_lt (hS.bx ⟨w.heap.size+1,#[.slice none 0 0],44⟩ (by simp))
 go_wp2_with fail
 have hS3s:w.heap.size≤w6.heap.size:=hS.size
 have hs9:∀ x9:Nat×(Pk→World→Prop),x9∈([(13,fun _ W=>Mine W (w.heap.size+2) A1 N1 C1 q)]:List (Nat×(Pk→World→Prop)))→∀ q9:Pk,St (w.heap.size+2) (x9.2 q9):=by
  intro x hx q
  simp only [List.mem_cons,List.not_mem_nil,or_false] at hx
  rcases hx with rfl
  ·exact st_mine2 _ _ _ _
 have h09:∀ x9:Nat×(Pk→World→Prop),x9∈([(13,fun _ W=>Mine W (w.heap.size+2) A1 N1 C1 q)]:List (Nat×(Pk→World→Prop)))→13≤x9.1→x9.2 ⟨none,0,0⟩ w6:=by
  intro x hx hn9
  simp only [List.mem_cons,List.not_mem_nil,or_false] at hx
  rcases hx with rfl
  ·exact unhide G1
 refine wp_region_any (by kernel_rfl) ?_
 refine wpAny_pick (fun p9=>[some (73,.agg #[.slice A1 N1 C1]),some (74,.int .i64 c),some (75,.pointer (some ⟨w.heap.size,3,none⟩)),some (76,.bool false),some (77,.bool false),some (78,.pointer (some ⟨w3.heap.size,0,none⟩)),some (79,.slice A3 N3 C3),some (80,.int .i64 (N3:Int)),some (81,.bool l),some (82,.bool l),none,some (5,.int .i64 c),some (6,.bool l)])
  (fun p9 l9 W9=>Pm w (w.heap.size+2) [(13,fun _ W=>Mine W (w.heap.size+2) A1 N1 C1 q)] p9 l9 W9 (pickBs l9 [(10,[⟨w5.heap.size,#[.slice A5 N5 C5],44⟩,⟨w3.heap.size,#[.slice A3 N3 C3],44⟩,⟨w2.heap.size,#[.slice A2 N2 C2],44⟩,⟨w1.heap.size,#[.slice A1 N1 C1],44⟩,⟨w.heap.size,#[.bool s,.slice a n cap,.int .i64 x,.bool false],101⟩,⟨w.heap.size+1,#[.slice A1 N1 C1],44⟩])] [⟨w5.heap.size,#[.slice A5 N5 C5],44⟩,⟨w3.heap.size,#[.slice A3 N3 C3],44⟩,⟨w2.heap.size,#[.slice A2 N2 C2],44⟩,⟨w1.heap.size,#[.slice A1 N1 C1],44⟩,⟨w.heap.size,#[.bool s,.slice a n cap,.int .i64 x,.bool false],101⟩,⟨w.heap.size+1,#[.slice none 0 0],44⟩])) _ _ (fun _=>rfl) (by kernel_rfl) (fun _=>rfl) (fun _=>rfl) ?_ ?_ (fun _=>⟨none,0,0⟩) (Pm.start2 hS _ _ _ (by omega) hs9 h09)
 ·intro p9 l9 t9 W9 i9 hD hi9 hl9 hM
  obtain ⟨o9,ho9,hd9⟩:=(mem_ready.1 hi9).2
  have hin9:i9 < 13:=by
   by_cases h:i9 < 13
   ·exact h
   ·rw [Array.getElem?_eq_none (by rw [hD.len]; simp; omega)] at hl9; cases hl9
  have hcase:i9 = 0∨i9 = 1∨i9 = 2∨i9 = 3∨i9 = 4∨i9 = 5∨i9 = 6∨i9 = 7∨i9 = 8∨i9 = 9∨i9 = 10∨i9 = 11∨i9 = 12:=by omega
  clear hin9
  rcases hcase with rfl|rfl|rfl|rfl|rfl|rfl|rfl|rfl|rfl|rfl|rfl|rfl|rfl
  ·cases ho9
   have r9:=hD.old 9 _ rfl rfl
   have hM0:Fs w W9 [⟨w5.heap.size,#[.slice A5 N5 C5],44⟩,⟨w3.heap.size,#[.slice A3 N3 C3],44⟩,⟨w2.heap.size,#[.slice A2 N2 C2],44⟩,⟨w1.heap.size,#[.slice A1 N1 C1],44⟩,⟨w.heap.size,#[.bool s,.slice a n cap,.int .i64 x,.bool false],101⟩,⟨w.heap.size+1,#[.slice none 0 0],44⟩]:=by
    have hM1:=hM.st
    simp only [pickBs] at hM1
    rw [if_neg (hD.waits 0 10 _ ⟨0,.data⟩ hl9 rfl (by simp) rfl rfl)] at hM1
    exact hM1
   have c9_0:=hM0.cellAt (b:=w1.heap.size) (cs:=#[.slice A1 N1 C1]) (t:=44) (by simp) 0 _ rfl
   clear hM0
   refine wpOp_step rfl fun K hK=>?_
   go_simp
   exact hK _ _ ⟨p9,fun _ _=>rfl,rfl,(Pm.keepM rfl (hM.val rfl))⟩
  ·cases ho9
   have r18:=hD.old 18 _ rfl rfl
   refine wpOp_step rfl fun K hK=>?_
   go_simp
   exact hK _ _ ⟨p9,fun _ _=>rfl,rfl,(Pm.keepM rfl (hM.val rfl))⟩
  ·cases ho9
   have r2:=hD.old 2 _ rfl rfl
   refine wpOp_step rfl fun K hK=>?_
   go_simp
   exact hK _ _ ⟨p9,fun _ _=>rfl,rfl,(Pm.keepM rfl (hM.val rfl))⟩
  ·cases ho9
   have r75:=hD.od hd9 2 75 _ rfl (by simp)
   have hM0:Fs w W9 [⟨w.heap.size,#[.bool s,.slice a n cap,.int .i64 x,.bool false],101⟩]:=by
    have hM1:=hM.st
    simp only [pickBs] at hM1
    (repeat' split at hM1) <;> exact hM1.sub (by simp)
   have c9_0:=hM0.cellAt (b:=w.heap.size) (cs:=#[.bool s,.slice a n cap,.int .i64 x,.bool false]) (t:=101) (by simp) 3 _ rfl
   clear hM0
   refine wpOp_step rfl fun K hK=>?_
   go_simp
   exact hK _ _ ⟨p9,fun _ _=>rfl,rfl,(Pm.keepM rfl (hM.val rfl))⟩
  ·cases ho9
   have r76:=hD.od hd9 3 76 _ rfl (by simp)
   refine wpOp_step rfl fun K hK=>?_
   go_simp
   exact hK _ _ ⟨p9,fun _ _=>rfl,rfl,(Pm.keepM rfl (hM.val rfl))⟩
  ·cases ho9
   have r77:=hD.on 4 77 _ rfl (getD_true (hd9 ⟨4,.guard⟩ (by simp) rfl))
   have r13:=hD.old 13 _ rfl rfl
   refine wpOp_step rfl fun K hK=>?_
   go_simp
   exact hK _ _ ⟨p9,fun _ _=>rfl,rfl,(Pm.keepM rfl (hM.val rfl))⟩
  ·cases ho9
   have r77:=hD.on 4 77 _ rfl (getD_true (hd9 ⟨4,.guard⟩ (by simp) rfl))
   have r78:=hD.od hd9 5 78 _ rfl (by simp)
   have hM0:Fs w W9 [⟨w3.heap.size,#[.slice A3 N3 C3],44⟩]:=by
    have hM1:=hM.st
    simp only [pickBs] at hM1
    (repeat' split at hM1) <;> exact hM1.sub (by simp)
   have c9_0:=hM0.cellAt (b:=w3.heap.size) (cs:=#[.slice A3 N3 C3]) (t:=44) (by simp) 0 _ rfl
   clear hM0
   refine wpOp_step rfl fun K hK=>?_
   go_simp
   exact hK _ _ ⟨p9,fun _ _=>rfl,rfl,(Pm.keepM rfl (hM.val rfl))⟩
  ·cases ho9
   have r77:=hD.on 4 77 _ rfl (getD_true (hd9 ⟨4,.guard⟩ (by simp) rfl))
   have r79:=hD.od hd9 6 79 _ rfl (by simp)
   refine wpOp_step rfl fun K hK=>?_
   go_simp
   exact hK _ _ ⟨p9,fun _ _=>rfl,act_eq (by first|rfl|simp),(Pm.keepM rfl (hM.val rfl))⟩
  ·cases ho9
   have r77:=hD.on 4 77 _ rfl (getD_true (hd9 ⟨4,.guard⟩ (by simp) rfl))
   have r80:=hD.od hd9 7 80 _ rfl (by simp)
   refine wpOp_step rfl fun K hK=>?_
   go_simp
   exact hK _ _ ⟨p9,fun _ _=>rfl,act_eq (by first|(rw [← hl2]; rfl)|simp [← hl2]|(rw [← hl2]; simp)),(Pm.keepM rfl (hM.val rfl))⟩
  ·cases ho9
   have r77:=hD.od hd9 4 77 _ rfl (by simp)
   have r81:=hD.od hd9 8 81 _ rfl (by simp)
   refine wpOp_step rfl fun K hK=>?_
   go_simp
   exact hK _ _ ⟨p9,fun _ _=>rfl,rfl,(Pm.keepM rfl (hM.val rfl))⟩
  ·cases ho9
   have r4:=hD.old 4 _ rfl rfl
   have r73:=hD.od hd9 0 73 _ rfl (by simp)
   have hM0:Fs w W9 [⟨w5.heap.size,#[.slice A5 N5 C5],44⟩,⟨w3.heap.size,#[.slice A3 N3 C3],44⟩,⟨w2.heap.size,#[.slice A2 N2 C2],44⟩,⟨w1.heap.size,#[.slice A1 N1 C1],44⟩,⟨w.heap.size,#[.bool s,.slice a n cap,.int .i64 x,.bool false],101⟩,⟨w.heap.size+1,#[.slice none 0 0],44⟩]:=by
    have hM1:=hM.st
    simp only [pickBs] at hM1
    rw [if_neg (by rw [hl9]; simp)] at hM1
    exact hM1
   have c9_0:=hM0.cellAt (b:=w.heap.size+1) (cs:=#[.slice none 0 0]) (t:=44) (by simp) 0 _ rfl
   have z9_0:=hM0.frozen (b:=w.heap.size+1) (cs:=#[.slice none 0 0]) (t:=44) (by simp) 0
   refine wpOp_step rfl fun K hK=>?_
   go_simp
   exact hK _ _ ⟨p9,fun _ _=>rfl,rfl,Pm.putM hl9 ((hM.val rfl).put hs9 _ _ (by simp <;> omega) (hM0.put (b:=w.heap.size+1) (cs:=#[.slice none 0 0]) (t:=44) (by simp) (by first|simp|omega) 0 (.slice A1 N1 C1) [⟨w5.heap.size,#[.slice A5 N5 C5],44⟩,⟨w3.heap.size,#[.slice A3 N3 C3],44⟩,⟨w2.heap.size,#[.slice A2 N2 C2],44⟩,⟨w1.heap.size,#[.slice A1 N1 C1],44⟩,⟨w.heap.size,#[.bool s,.slice a n cap,.int .i64 x,.bool false],101⟩,⟨w.heap.size+1,#[.slice A1 N1 C1],44⟩] (by simp <;> omega)))⟩
  ·cases ho9
   have r74:=hD.od hd9 1 74 _ rfl (by simp)
   refine wpOp_step rfl fun K hK=>?_
   go_simp
   exact hK _ _ ⟨p9,fun _ _=>rfl,rfl,(Pm.keepM rfl (hM.val rfl))⟩
  ·cases ho9
   have r82:=hD.od hd9 9 82 _ rfl (by simp)
   refine wpOp_step rfl fun K hK=>?_
   go_simp
   exact hK _ _ ⟨p9,fun _ _=>rfl,rfl,(Pm.keepM rfl (hM.val rfl))⟩
 ·intro p9 l9 W9 hn9 hl9 hM
  have kr11_0:=hM.fx _ (List.mem_of_getElem? (i:=0) rfl) (Or.inr (by rw [hn9]; simp))
  try simp only [] at kr11_0
  replace hM:=hM.st
  simp only [pickBs] at hM
  rw [if_pos (hl9 10 (by decide))] at hM
  clear hl9 hs9 h09 hn9
  clear hS yb2 yb3 yb4 yb5 yb6 yb7 yb8 yb9 yca
  have hS:=hM
  clear hM
  simp only [Puts.lay,List.setIfInBounds_toArray,List.set_cons_zero,List.set_cons_succ]
  obtain ⟨⟨ycb,-⟩,⟨ycc,-⟩,⟨ycd,-⟩,⟨yce,-⟩,⟨ycf,ycg,ych,yci,-⟩,⟨ycj,-⟩,-⟩:=hS.cells
  go_wp2
  exact bodyPost_ret (v:=.tuple #[.agg #[.slice A1 N1 C1],.int .i64 c,.bool l]) (by simp [results,Tryz.results81,go_sem,ycj]) rfl ⟨⟨_,_,_,rfl,Mine.mono kr11_0 (by omega)⟩,hS.fr⟩
theorem rrounded_f (s:Bool) (a:Option Addr) (n cap m:Nat) (x:Int) (mo:Bool) (t d:Int) (md:Int) (q:Nat) (c:Int) (l o:Bool) (w:World) (h:Num w a n m) (hd:t - x = d) (hd1:-4294967296≤x) (hd2:x≤4294967296) (ht1:-4294967296≤t) (ht2:t≤4294967296) (HC:Hid (∀ W:World,Num W a n m→Calls Tryz.prog 81 #[.agg #[.bool s,.slice a n cap,.int .i64 x,.bool mo],.int .i64 d] W fun e w'=>(∃ A N C,e = .returned (.tuple #[.agg #[.slice A N C],.int .i64 c,.bool l])∧Mine w' W.heap.size A N C q)∧Below W.heap.size W w')) (ho:Hid (decide (q / 2 ^ 0 % 2 = 1) = o)) (HH:Hid (Tel 82 #[.bool s,.bool o,.int .i64 c,.bool l,.int .u8 md] (.bool false))) :
  Calls Tryz.prog 69 #[.agg #[.bool s,.slice a n cap,.int .i64 x,.bool mo],.int .i64 t,.int .u8 md] w fun e w'=>(∃ A N C,e = .returned (.tuple #[.agg #[.slice A N C],.bool l])∧Mine w' w.heap.size A N C (q))∧Below w.heap.size w w':=by
 have H:=hide h
 clear h
 go_enter Tryz.func69,Tryz.ntmps69
 go_wp2_with fail
 refine (unhide HC _ ((unhide H).kept (Fs.two w _ _ _ _).fr)).mono ?_
 rintro e w1 ⟨⟨A1,N1,C1,rfl,f1⟩,hb1⟩
 have hS:=(Fs.two w _ _ _ _).kept hb1
 obtain ⟨⟨ya,yb,yc,yd,-⟩,⟨ye,-⟩,-⟩:=hS.cells
 have G1:=hide (f1.mono (base':=w.heap.size+2) (by simp))
 clear f1
 have hltw1_0:w.heap.size < w1.heap.size:=hS.lt 0 rfl
 have hltw1_1:w.heap.size+1 < w1.heap.size:=hS.lt 1 rfl
 obtain ⟨WV1,hWV1⟩:∃ WV1,w1.alloc (.cells #[.slice A1 N1 C1] 44) = WV1:=⟨_,rfl⟩
 replace hS:=hS.alloc #[.slice A1 N1 C1] 44
 rw [hWV1] at hS
 replace G1:=hide (hWV1▸(unhide G1).alloc (.cells #[.slice A1 N1 C1] 44))
 clear ya yb yc yd ye
 obtain ⟨⟨yf,-⟩,⟨yg,yh,yi,yj,-⟩,⟨yk,-⟩,-⟩:=hS.cells
 go_wp2_with fail
 refine (rbit_is A1 N1 C1 q 0 o _ (unhide G1).num (by decide) (unhide ho)).mono ?_
 rintro e w2 ⟨rfl,hb2⟩
 replace hS:=hS.kept hb2
 clear yf yg yh yi yj yk
 obtain ⟨⟨yl,-⟩,⟨ym,yn,yo,yp,-⟩,⟨yq,-⟩,-⟩:=hS.cells
 replace G1:=hide ((unhide G1).kept hb2)
 go_wp2_with fail
 refine (unhide HH _).mono ?_
 rintro e w3 ⟨rfl,hb3⟩
 replace hS:=hS.kept hb3
 clear yl ym yn yo yp yq
 obtain ⟨⟨yr,-⟩,⟨ys,yt,yu,yv,-⟩,⟨yw,-⟩,-⟩:=hS.cells
 replace G1:=hide ((unhide G1).kept hb3)
 have hz1:w.heap.size+1 < w3.heap.size:=block_lt (hS.bx ⟨w.heap.size+1,#[.slice none 0 0],44⟩ (by simp))
 have hz2:w1.heap.size < w3.heap.size:=block_lt (hS.bx ⟨w1.heap.size,#[.slice A1 N1 C1],44⟩ (by simp))
 have fz0:=hS.frozen (b:=w.heap.size+1) (cs:=#[.slice none 0 0]) (t:=44) (by simp) 0
 go_wp2
 exact bodyPost_ret (v:=.tuple #[.agg #[.slice A1 N1 C1],.bool l]) (by simp [results,Tryz.results69,go_sem,yw]) rfl ⟨⟨_,_,_,rfl,((unhide G1).set (p:=⟨w.heap.size+1,0,none⟩) (by show w.heap.size+1 < w.heap.size+2; omega) _).mono (by omega)⟩,hS.fr.setCell (by simp) _⟩
theorem rrounded_t (s:Bool) (a:Option Addr) (n cap m:Nat) (x:Int) (mo:Bool) (t d:Int) (md:Int) (q:Nat) (c:Int) (l o:Bool) (w:World) (h:Num w a n m) (hd:t - x = d) (hd1:-4294967296≤x) (hd2:x≤4294967296) (ht1:-4294967296≤t) (ht2:t≤4294967296) (HC:Hid (∀ W:World,Num W a n m→Calls Tryz.prog 81 #[.agg #[.bool s,.slice a n cap,.int .i64 x,.bool mo],.int .i64 d] W fun e w'=>(∃ A N C,e = .returned (.tuple #[.agg #[.slice A N C],.int .i64 c,.bool l])∧Mine w' W.heap.size A N C q)∧Below W.heap.size W w')) (ho:Hid (decide (q / 2 ^ 0 % 2 = 1) = o)) (HH:Hid (Tel 82 #[.bool s,.bool o,.int .i64 c,.bool l,.int .u8 md] (.bool true))) (HA:Hid (∀ (W:World) (A:Option Addr) (N C:Nat) (A':Option Addr) (N' C':Nat),Num W A N q→Num W A' N' 1→Calls Tryz.prog 47 #[.agg #[.slice A N C],.agg #[.slice A' N' C']] W fun e w'=>(∃ A N C,e = .returned (.tuple #[.agg #[.slice A N C],.int .i64 0])∧Mine w' W.heap.size A N C (q+1))∧Below W.heap.size W w')) :
  Calls Tryz.prog 69 #[.agg #[.bool s,.slice a n cap,.int .i64 x,.bool mo],.int .i64 t,.int .u8 md] w fun e w'=>(∃ A N C,e = .returned (.tuple #[.agg #[.slice A N C],.bool l])∧Mine w' w.heap.size A N C (q+1))∧Below w.heap.size w w':=by
 have H:=hide h
 clear h
 go_enter Tryz.func69,Tryz.ntmps69
 go_wp2_with fail
 refine (unhide HC _ ((unhide H).kept (Fs.two w _ _ _ _).fr)).mono ?_
 rintro e w1 ⟨⟨A1,N1,C1,rfl,f1⟩,hb1⟩
 have hS:=(Fs.two w _ _ _ _).kept hb1
 obtain ⟨⟨ya,yb,yc,yd,-⟩,⟨ye,-⟩,-⟩:=hS.cells
 have G1:=hide (f1.mono (base':=w.heap.size+2) (by simp))
 clear f1
 have hltw1_0:w.heap.size < w1.heap.size:=hS.lt 0 rfl
 have hltw1_1:w.heap.size+1 < w1.heap.size:=hS.lt 1 rfl
 obtain ⟨WV1,hWV1⟩:∃ WV1,w1.alloc (.cells #[.slice A1 N1 C1] 44) = WV1:=⟨_,rfl⟩
 replace hS:=hS.alloc #[.slice A1 N1 C1] 44
 rw [hWV1] at hS
 replace G1:=hide (hWV1▸(unhide G1).alloc (.cells #[.slice A1 N1 C1] 44))
 clear ya yb yc yd ye
 obtain ⟨⟨yf,-⟩,⟨yg,yh,yi,yj,-⟩,⟨yk,-⟩,-⟩:=hS.cells
 go_wp2_with fail
 refine (rbit_is A1 N1 C1 q 0 o _ (unhide G1).num (by decide) (unhide ho)).mono ?_
 rintro e w2 ⟨rfl,hb2⟩
 replace hS:=hS.kept hb2
 clear yf yg yh yi yj yk
 obtain ⟨⟨yl,-⟩,⟨ym,yn,yo,yp,-⟩,⟨yq,-⟩,-⟩:=hS.cells
 replace G1:=hide ((unhide G1).kept hb2)
 go_wp2_with fail
 refine (unhide HH _).mono ?_
 rintro e w3 ⟨rfl,hb3⟩
 replace hS:=hS.kept hb3
 clear yl ym yn yo yp yq
 obtain ⟨⟨yr,-⟩,⟨ys,yt,yu,yv,-⟩,⟨yw,-⟩,-⟩:=hS.cells
 replace G1:=hide ((unhide G1).kept hb3)
 have hz1:w.heap.size+1 < w3.heap.size:=block_lt (hS.bx ⟨w.heap.size+1,#[.slice none 0 0],44⟩ (by simp))
 have hz2:w1.heap.size < w3.heap.size:=block_lt (hS.bx ⟨w1.heap.size,#[.slice A1 N1 C1],44⟩ (by simp))
 go_wp2_with fail
 have hS3s:w.heap.size≤w3.heap.size:=hS.size
 have hs9:∀ x9:Nat×(Pk→World→Prop),x9∈([(1,fun q W=>Mine W (w.heap.size+2) q.A q.N q.C 1),(2,fun q9 W=>Mine W (w.heap.size+2) q9.A q9.N q9.C (q+1)),(7,fun _ W=>Mine W (w.heap.size+2) A1 N1 C1 q)]:List (Nat×(Pk→World→Prop)))→∀ q9:Pk,St (w.heap.size+2) (x9.2 q9):=by
  intro x hx q
  simp only [List.mem_cons,List.not_mem_nil,or_false] at hx
  rcases hx with rfl|rfl|rfl
  ·exact st_mine _ _ _ _ _
  ·exact st_mine _ _ _ _ _
  ·exact st_mine2 _ _ _ _
 have hv9:∀ x9:Nat×(Pk→World→Prop),x9∈([(1,fun q W=>Mine W (w.heap.size+2) q.A q.N q.C 1),(2,fun q9 W=>Mine W (w.heap.size+2) q9.A q9.N q9.C (q+1)),(7,fun _ W=>Mine W (w.heap.size+2) A1 N1 C1 q)]:List (Nat×(Pk→World→Prop)))→∀ q9:Pk,PutOk (x9.2 q9):=by
  intro x hx q
  simp only [List.mem_cons,List.not_mem_nil,or_false] at hx
  rcases hx with rfl|rfl|rfl
  ·exact putOk_m7 _ _ _ _ _
  ·exact putOk_m7 _ _ _ _ _
  ·exact putOk_m7 _ _ _ _ _
 have h09:∀ x9:Nat×(Pk→World→Prop),x9∈([(1,fun q W=>Mine W (w.heap.size+2) q.A q.N q.C 1),(2,fun q9 W=>Mine W (w.heap.size+2) q9.A q9.N q9.C (q+1)),(7,fun _ W=>Mine W (w.heap.size+2) A1 N1 C1 q)]:List (Nat×(Pk→World→Prop)))→7≤x9.1→x9.2 ⟨none,0,0⟩ w3:=by
  intro x hx hn9
  simp only [List.mem_cons,List.not_mem_nil,or_false] at hx
  rcases hx with rfl|rfl|rfl
  ·exact absurd hn9 (by simp)
  ·exact absurd hn9 (by simp)
  ·exact unhide G1
 refine wp_region_any (by kernel_rfl) ?_
 refine wpAny_pick (fun p9=>[some (36,.agg #[.slice A1 N1 C1]),some (37,.agg #[.slice (p9 1).A (p9 1).N (p9 1).C]),some (38,.tuple #[.agg #[.slice (p9 2).A (p9 2).N (p9 2).C],.int .i64 0]),some (35,.tuple #[.agg #[.slice (p9 2).A (p9 2).N (p9 2).C],.int .i64 0]),some (39,.agg #[.slice (p9 2).A (p9 2).N (p9 2).C]),some (40,.int .i64 0),none])
  (fun p9 l9 W9=>Pm w (w.heap.size+2) [(1,fun q W=>Mine W (w.heap.size+2) q.A q.N q.C 1),(2,fun q9 W=>Mine W (w.heap.size+2) q9.A q9.N q9.C (q+1)),(7,fun _ W=>Mine W (w.heap.size+2) A1 N1 C1 q)] p9 l9 W9 (pickBs l9 [(6,[⟨w1.heap.size,#[.slice (p9 2).A (p9 2).N (p9 2).C],44⟩,⟨w.heap.size,#[.bool s,.slice a n cap,.int .i64 x,.bool mo],101⟩,⟨w.heap.size+1,#[.slice none 0 0],44⟩])] [⟨w1.heap.size,#[.slice A1 N1 C1],44⟩,⟨w.heap.size,#[.bool s,.slice a n cap,.int .i64 x,.bool mo],101⟩,⟨w.heap.size+1,#[.slice none 0 0],44⟩])) _ _ (fun _=>rfl) (by kernel_rfl) (fun _=>rfl) (fun _=>rfl) ?_ ?_ (fun _=>⟨none,0,0⟩) (Pm.start2 hS _ _ _ (by omega) hs9 h09)
 ·intro p9 l9 t9 W9 i9 hD hi9 hl9 hM
  obtain ⟨o9,ho9,hd9⟩:=(mem_ready.1 hi9).2
  have hin9:i9 < 7:=by
   by_cases h:i9 < 7
   ·exact h
   ·rw [Array.getElem?_eq_none (by rw [hD.len]; simp; omega)] at hl9; cases hl9
  have hcase:i9 = 0∨i9 = 1∨i9 = 2∨i9 = 3∨i9 = 4∨i9 = 5∨i9 = 6:=by omega
  clear hin9
  rcases hcase with rfl|rfl|rfl|rfl|rfl|rfl|rfl
  ·cases ho9
   have r8:=hD.old 8 _ rfl rfl
   have hM0:Fs w W9 [⟨w1.heap.size,#[.slice A1 N1 C1],44⟩,⟨w.heap.size,#[.bool s,.slice a n cap,.int .i64 x,.bool mo],101⟩,⟨w.heap.size+1,#[.slice none 0 0],44⟩]:=by
    have hM1:=hM.st
    simp only [pickBs] at hM1
    rw [if_neg (hD.waits 0 6 _ ⟨0,.phase⟩ hl9 rfl (by simp) rfl rfl)] at hM1
    exact hM1
   have c9_0:=hM0.cellAt (b:=w1.heap.size) (cs:=#[.slice A1 N1 C1]) (t:=44) (by simp) 0 _ rfl
   clear hM0
   refine wpOp_step rfl fun K hK=>?_
   go_simp
   exact hK _ _ ⟨p9,fun _ _=>rfl,rfl,(Pm.keepM rfl (hM.val rfl))⟩
  ·cases ho9
   have ga0:=hM.fx _ (List.mem_of_getElem? (i:=2) rfl) (Or.inr (by rw [hD.len]; simp))
   try simp only [] at ga0
   have hM0:Fs w W9 [⟨w1.heap.size,#[.slice A1 N1 C1],44⟩,⟨w.heap.size,#[.bool s,.slice a n cap,.int .i64 x,.bool mo],101⟩,⟨w.heap.size+1,#[.slice none 0 0],44⟩]:=by
    have hM1:=hM.st
    simp only [pickBs] at hM1
    rw [if_neg (hD.waits 1 6 _ ⟨1,.phase⟩ hl9 rfl (by simp) rfl rfl)] at hM1
    exact hM1
   have HD:=hide hD
   have hn6:=hD.waits 1 6 _ ⟨1,.phase⟩ hl9 rfl (by simp) rfl rfl
   refine wpOp_step rfl fun K hK=>?_
   go_simp
   go_wp2_with fail
   refine (rof_any 1 _ (by decide)).mono ?_
   rintro en w9 ⟨⟨a9,n9,c9,rfl,h9⟩,hb9⟩
   refine hK _ _ ⟨p9.set 1 ⟨a9,n9,c9⟩,?_,rfl,(Pm.keepM rfl (((hM.kept hs9 hb9).pick ⟨a9,n9,c9⟩ ?_).into (by simp only [pickBs]; rw [if_neg hn6,if_neg hn6])))⟩
   ·intro k9 hk9
    clear hM hK
    match k9,hk9 with
    | 0,_=>rfl
    | 1,hk9=>exact absurd (hl9.symm.trans hk9) (by simp)
    | 2,hk9=>exact absurd (hl9.symm.trans (getD_true ((unhide HD).shut 2 _ (hk9) rfl ⟨1,.data⟩ (by simp) rfl))) (by simp)
    | 3,hk9=>exact absurd (hl9.symm.trans (getD_true ((unhide HD).shut 2 _ (getD_true ((unhide HD).shut 3 _ (hk9) rfl ⟨2,.data⟩ (by simp) rfl)) rfl ⟨1,.data⟩ (by simp) rfl))) (by simp)
    | 4,hk9=>exact absurd (hl9.symm.trans (getD_true ((unhide HD).shut 2 _ (getD_true ((unhide HD).shut 3 _ (getD_true ((unhide HD).shut 4 _ (hk9) rfl ⟨3,.data⟩ (by simp) rfl)) rfl ⟨2,.data⟩ (by simp) rfl)) rfl ⟨1,.data⟩ (by simp) rfl))) (by simp)
    | 5,hk9=>exact absurd (hl9.symm.trans (getD_true ((unhide HD).shut 2 _ (getD_true ((unhide HD).shut 3 _ (getD_true ((unhide HD).shut 5 _ (hk9) rfl ⟨3,.data⟩ (by simp) rfl)) rfl ⟨2,.data⟩ (by simp) rfl)) rfl ⟨1,.data⟩ (by simp) rfl))) (by simp)
    | 6,hk9=>exact absurd (hl9.symm.trans (getD_true ((unhide HD).shut 6 _ (hk9) rfl ⟨1,.phase⟩ (by simp) rfl))) (by simp)
    | k9+7,_=>rfl
   ·intro x hx he; simp only [List.mem_cons,List.not_mem_nil,or_false] at hx; rcases hx with rfl|rfl|rfl
    ·exact h9.mono hM.bw
    ·exact absurd he (by simp)
    ·exact absurd he (by simp)
  ·cases ho9
   have r36:=hD.od hd9 0 36 _ rfl (by simp)
   have r37:=hD.od hd9 1 37 _ rfl (by simp)
   have ga0:=hM.fx _ (List.mem_of_getElem? (i:=2) rfl) (Or.inr (by rw [hD.len]; simp))
   try simp only [] at ga0
   have g1:=hM.fx _ (List.mem_of_getElem? (i:=0) rfl) (Or.inl (getD_true (hd9 ⟨1,.data⟩ (by simp) rfl)))
   simp only [] at g1
   have hM0:Fs w W9 [⟨w1.heap.size,#[.slice A1 N1 C1],44⟩,⟨w.heap.size,#[.bool s,.slice a n cap,.int .i64 x,.bool mo],101⟩,⟨w.heap.size+1,#[.slice none 0 0],44⟩]:=by
    have hM1:=hM.st
    simp only [pickBs] at hM1
    rw [if_neg (hD.waits 2 6 _ ⟨2,.chain⟩ hl9 rfl (by simp) rfl rfl)] at hM1
    exact hM1
   have HD:=hide hD
   have hn6:=hD.waits 2 6 _ ⟨2,.chain⟩ hl9 rfl (by simp) rfl rfl
   refine wpOp_step rfl fun K hK=>?_
   go_simp
   go_wp2_with fail
   refine (unhide HA _ _ _ _ _ _ _ ga0.num g1.num).mono ?_
   rintro en w9 ⟨⟨a9,n9,c9,rfl,h9⟩,hb9⟩
   refine hK _ _ ⟨p9.set 2 ⟨a9,n9,c9⟩,?_,rfl,(Pm.keepM rfl (((hM.kept hs9 hb9).pick ⟨a9,n9,c9⟩ ?_).into (by simp only [pickBs]; rw [if_neg hn6,if_neg hn6])))⟩
   ·intro k9 hk9
    clear hM hK
    match k9,hk9 with
    | 0,_=>rfl
    | 1,_=>rfl
    | 2,hk9=>exact absurd (hl9.symm.trans hk9) (by simp)
    | 3,hk9=>exact absurd (hl9.symm.trans (getD_true ((unhide HD).shut 3 _ (hk9) rfl ⟨2,.data⟩ (by simp) rfl))) (by simp)
    | 4,hk9=>exact absurd (hl9.symm.trans (getD_true ((unhide HD).shut 3 _ (getD_true ((unhide HD).shut 4 _ (hk9) rfl ⟨3,.data⟩ (by simp) rfl)) rfl ⟨2,.data⟩ (by simp) rfl))) (by simp)
    | 5,hk9=>exact absurd (hl9.symm.trans (getD_true ((unhide HD).shut 3 _ (getD_true ((unhide HD).shut 5 _ (hk9) rfl ⟨3,.data⟩ (by simp) rfl)) rfl ⟨2,.data⟩ (by simp) rfl))) (by simp)
    | 6,hk9=>exact absurd (hl9.symm.trans (getD_true ((unhide HD).shut 6 _ (hk9) rfl ⟨2,.chain⟩ (by simp) rfl))) (by simp)
    | k9+7,_=>rfl
   ·intro x hx he; simp only [List.mem_cons,List.not_mem_nil,or_false] at hx; rcases hx with rfl|rfl|rfl
    ·exact absurd he (by simp)
    ·exact h9.mono hM.bw
    ·exact absurd he (by simp)
  ·cases ho9
   have r38:=hD.od hd9 2 38 _ rfl (by simp)
   refine wpOp_step rfl fun K hK=>?_
   go_simp
   exact hK _ _ ⟨p9,fun _ _=>rfl,rfl,(Pm.keepM rfl (hM.val rfl))⟩
  ·cases ho9
   have r35:=hD.od hd9 3 35 _ rfl (by simp)
   refine wpOp_step rfl fun K hK=>?_
   go_simp
   exact hK _ _ ⟨p9,fun _ _=>rfl,rfl,(Pm.keepM rfl (hM.val rfl))⟩
  ·cases ho9
   have r35:=hD.od hd9 3 35 _ rfl (by simp)
   refine wpOp_step rfl fun K hK=>?_
   go_simp
   exact hK _ _ ⟨p9,fun _ _=>rfl,rfl,(Pm.keepM rfl (hM.val rfl))⟩
  ·cases ho9
   have r8:=hD.old 8 _ rfl rfl
   have r39:=hD.od hd9 4 39 _ rfl (by simp)
   have hM0:Fs w W9 [⟨w1.heap.size,#[.slice A1 N1 C1],44⟩,⟨w.heap.size,#[.bool s,.slice a n cap,.int .i64 x,.bool mo],101⟩,⟨w.heap.size+1,#[.slice none 0 0],44⟩]:=by
    have hM1:=hM.st
    simp only [pickBs] at hM1
    rw [if_neg (by rw [hl9]; simp)] at hM1
    exact hM1
   have c9_0:=hM0.cellAt (b:=w1.heap.size) (cs:=#[.slice A1 N1 C1]) (t:=44) (by simp) 0 _ rfl
   have z9_0:=hM0.frozen (b:=w1.heap.size) (cs:=#[.slice A1 N1 C1]) (t:=44) (by simp) 0
   refine wpOp_step rfl fun K hK=>?_
   go_simp
   exact hK _ _ ⟨p9,fun _ _=>rfl,rfl,Pm.putM hl9 ((hM.val rfl).putO hv9 (t:=44) (hM0.bx ⟨w1.heap.size,#[.slice A1 N1 C1],44⟩ (by simp)) (by decide) _ _ (hM0.put (b:=w1.heap.size) (cs:=#[.slice A1 N1 C1]) (t:=44) (by simp) (by first|simp|omega) 0 (.slice (p9 2).A (p9 2).N (p9 2).C) [⟨w1.heap.size,#[.slice (p9 2).A (p9 2).N (p9 2).C],44⟩,⟨w.heap.size,#[.bool s,.slice a n cap,.int .i64 x,.bool mo],101⟩,⟨w.heap.size+1,#[.slice none 0 0],44⟩] (by simp <;> omega)))⟩
 ·intro p9 l9 W9 hn9 hl9 hM
  have fr4_1:=hM.fx _ (List.mem_of_getElem? (i:=0) rfl) (Or.inl (hl9 1 (by decide)))
  have fr4_2:=hM.fx _ (List.mem_of_getElem? (i:=1) rfl) (Or.inl (hl9 2 (by decide)))
  have kr4_0:=hM.fx _ (List.mem_of_getElem? (i:=2) rfl) (Or.inr (by rw [hn9]; simp))
  try simp only [] at kr4_0
  replace hM:=hM.st
  simp only [pickBs] at hM
  rw [if_pos (hl9 6 (by decide))] at hM
  clear hl9 hs9 h09 hn9 hv9
  generalize p9 1 = q1 at *
  obtain ⟨Ar4_1,Nr4_1,Cr4_1⟩:=q1
  simp only [] at fr4_1
  generalize p9 2 = q2 at *
  obtain ⟨Ar4_2,Nr4_2,Cr4_2⟩:=q2
  simp only [] at fr4_2
  clear hS yr ys yt yu yv yw
  have hS:=hM
  clear hM
  simp only [Puts.lay,List.setIfInBounds_toArray,List.set_cons_zero,List.set_cons_succ]
  obtain ⟨⟨yx,-⟩,⟨yy,yz,y0,y1,-⟩,⟨y2,-⟩,-⟩:=hS.cells
  have fz0:=hS.frozen (b:=w.heap.size+1) (cs:=#[.slice none 0 0]) (t:=44) (by simp) 0
  go_wp2
  exact bodyPost_ret (v:=.tuple #[.agg #[.slice Ar4_2 Nr4_2 Cr4_2],.bool l]) (by simp [results,Tryz.results69,go_sem,y2]) rfl ⟨⟨_,_,_,rfl,(Mine.set (p:=⟨w.heap.size+1,0,none⟩) fr4_2 (by show w.heap.size+1 < _; omega) _).mono (by omega)⟩,hS.fr.setCell (by simp) _⟩
theorem rbeyond_f (E F B:Nat) (h0:Fo E F) (HBi:Hid (B = 2 ^ (E - 1) - 1)) (a:Option Addr) (n cap q kq pE tE:Nat) (t:Int) (w:World) (h:Num w a n q) (hk:Bl q kq) (hk2:kq≤1000000) (ht:-4294967296≤t∧t≤4294967296) (h6:IntKind.i64.wrap ((2:Int) ^ E) = (pE:Int)) (h6':wrap64 ((2:Int) ^ E) = (pE:Int)) (hpE:pE≤2048) (hp0:0 < pE) (htE:tE+1 = pE) (hr:¬ (tE:Int) - (B:Int) < (kq:Int)+t) :
  Calls Tryz.prog 70 #[.agg #[.int .i64 E,.int .i64 F],.agg #[.slice a n cap],.int .i64 t] w fun e w'=>e = .returned (.bool false)∧Below w.heap.size w w':=by
 have H:=hide h
 have HK:=hide hk
 have hE:=h0.e11
 have hBl:B≤1023:=B_le h0 HBi
 clear h hk
 go_enter Tryz.func70,Tryz.ntmps70
 go_wp2_with fail
 refine (rbits_k a n cap q kq _ ((unhide H).kept (Fs.two w _ _ _ _).fr) (unhide HK)).mono ?_
 rintro e w1 ⟨rfl,hb1⟩
 have hS:=(Fs.two w _ _ _ _).kept hb1
 obtain ⟨⟨ya,yb,-⟩,⟨yc,-⟩,-⟩:=hS.cells
 go_wp2_with fail
 refine wp_region_any (by kernel_rfl) ?_
 refine wpAny_det [some (14,.int .i64 (kq:Int)),some (15,.int .i64 t),some (16,.int .i64 ((kq:Int)+t)),some (17,.pointer (some ⟨w.heap.size,0,none⟩)),some (18,.int .i64 E),some (19,.int .u64 E),some (20,.int .i64 pE),some (21,.int .i64 tE),some (22,.agg #[.int .i64 E,.int .i64 F]),some (23,.int .i64 (B:Int)),some (24,.int .i64 ((tE:Int) - (B:Int))),some (25,.bool false),some (6,.bool false)]
  (fun _ W9=>Fs w W9 [⟨w.heap.size,#[.int .i64 E,.int .i64 F],23⟩,⟨w.heap.size+1,#[.slice a n cap],44⟩]) _ _ rfl (by kernel_rfl) rfl rfl ?_ ?_ (hS).drew
 ·intro l9 t9 W9 i9 hD hi9 hl9 hM
  obtain ⟨o9,ho9,hd9⟩:=(mem_ready.1 hi9).2
  have hin9:i9 < 13:=by
   by_cases h:i9 < 13
   ·exact h
   ·rw [Array.getElem?_eq_none (by rw [hD.len]; simp; omega)] at hl9; cases hl9
  have hcase:i9 = 0∨i9 = 1∨i9 = 2∨i9 = 3∨i9 = 4∨i9 = 5∨i9 = 6∨i9 = 7∨i9 = 8∨i9 = 9∨i9 = 10∨i9 = 11∨i9 = 12:=by omega
  clear hin9
  rcases hcase with rfl|rfl|rfl|rfl|rfl|rfl|rfl|rfl|rfl|rfl|rfl|rfl|rfl
  ·cases ho9
   have r7:=hD.old 7 _ rfl rfl
   refine wpOp_step rfl fun K hK=>?_
   go_simp
   exact hK _ _ ⟨rfl,hM⟩
  ·cases ho9
   have r2:=hD.old 2 _ rfl rfl
   refine wpOp_step rfl fun K hK=>?_
   go_simp
   exact hK _ _ ⟨rfl,hM⟩
  ·cases ho9
   have r14:=hD.od hd9 0 14 _ rfl (by simp)
   have r15:=hD.od hd9 1 15 _ rfl (by simp)
   refine wpOp_step rfl fun K hK=>?_
   go_simp
   exact hK _ _ ⟨act_eq (by (show Value.int _ _ = Value.int _ _; congr 1; (first|rfl|omega|(rw [IntKind.wrap_i64]; omega)|(rw [IntKind.wrap_u64]; omega)))),hM⟩
  ·cases ho9
   have r3:=hD.old 3 _ rfl rfl
   refine wpOp_step rfl fun K hK=>?_
   go_simp
   exact hK _ _ ⟨rfl,hM⟩
  ·cases ho9
   have r17:=hD.od hd9 3 17 _ rfl (by simp)
   have hM0:=hM
   have c9_0:=hM0.cellAt (b:=w.heap.size) (cs:=#[.int .i64 E,.int .i64 F]) (t:=23) (by simp) 0 _ rfl
   clear hM0
   refine wpOp_step rfl fun K hK=>?_
   go_simp
   exact hK _ _ ⟨rfl,hM⟩
  ·cases ho9
   have r18:=hD.od hd9 4 18 _ rfl (by simp)
   refine wpOp_step rfl fun K hK=>?_
   go_simp
   exact hK _ _ ⟨act_eq (by (show Value.int _ _ = Value.int _ _; congr 1; (first|rfl|omega|(rw [IntKind.wrap_i64]; omega)|(rw [IntKind.wrap_u64]; omega)))),hM⟩
  ·cases ho9
   have r19:=hD.od hd9 5 19 _ rfl (by simp)
   refine wpOp_step rfl fun K hK=>?_
   go_simp
   exact hK _ _ ⟨act_eq (by (first|rfl|exact congrArg (Value.int .i64) h6|(rw [← h6]; rfl)|(simp [h6])|(simp [h6']))),hM⟩
  ·cases ho9
   have r20:=hD.od hd9 6 20 _ rfl (by simp)
   refine wpOp_step rfl fun K hK=>?_
   go_simp
   exact hK _ _ ⟨act_eq (by (show Value.int _ _ = Value.int _ _; congr 1; (first|rfl|omega|(rw [IntKind.wrap_i64]; omega)|(rw [IntKind.wrap_u64]; omega)))),hM⟩
  ·cases ho9
   have r3:=hD.old 3 _ rfl rfl
   have hM0:=hM
   have Q_:=hM0.cellAt (b:=w.heap.size) (cs:=#[.int .i64 E,.int .i64 F]) (t:=23) (by simp)
   have c9_0:=Q_ 0 _ rfl
   have c9_1:=Q_ 1 _ rfl
   clear Q_
   clear hM0
   refine wpOp_step rfl fun K hK=>?_
   go_simp
   exact hK _ _ ⟨rfl,hM⟩
  ·cases ho9
   have r22:=hD.od hd9 8 22 _ rfl (by simp)
   refine wpOp_step rfl fun K hK=>?_
   go_simp
   go_wp2_with fail
   refine (rbias4_any E F B h0 HBi _).mono ?_
   rintro en w9 ⟨rfl,hb9⟩
   exact hK _ _ ⟨rfl,hM.kept hb9⟩
  ·cases ho9
   have r21:=hD.od hd9 7 21 _ rfl (by simp)
   have r23:=hD.od hd9 9 23 _ rfl (by simp)
   refine wpOp_step rfl fun K hK=>?_
   go_simp
   exact hK _ _ ⟨act_eq (by (show Value.int _ _ = Value.int _ _; congr 1; (first|rfl|omega|(rw [IntKind.wrap_i64]; omega)|(rw [IntKind.wrap_u64]; omega)))),hM⟩
  ·cases ho9
   have r16:=hD.od hd9 2 16 _ rfl (by simp)
   have r24:=hD.od hd9 10 24 _ rfl (by simp)
   refine wpOp_step rfl fun K hK=>?_
   go_simp
   exact hK _ _ ⟨act_eq (by first|rfl|(simp; omega)|simp [hr]),hM⟩
  ·cases ho9
   have r25:=hD.od hd9 11 25 _ rfl (by simp)
   refine wpOp_step rfl fun K hK=>?_
   go_simp
   exact hK _ _ ⟨rfl,hM⟩
 ·intro l9 W9 hl9 hM
  clear hS ya yb yc
  have hS:=hM
  clear hM
  simp only [Puts.lay,List.setIfInBounds_toArray,List.set_cons_zero,List.set_cons_succ]
  obtain ⟨⟨yd,ye,-⟩,⟨yf,-⟩,-⟩:=hS.cells
  go_wp2
  go_ret
  exact ⟨rfl,hS.fr⟩
theorem rbeyond_t (E F B:Nat) (h0:Fo E F) (HBi:Hid (B = 2 ^ (E - 1) - 1)) (a:Option Addr) (n cap q kq pE tE:Nat) (t:Int) (w:World) (h:Num w a n q) (hk:Bl q kq) (hk2:kq≤1000000) (ht:-4294967296≤t∧t≤4294967296) (h6:IntKind.i64.wrap ((2:Int) ^ E) = (pE:Int)) (h6':wrap64 ((2:Int) ^ E) = (pE:Int)) (hpE:pE≤2048) (hp0:0 < pE) (htE:tE+1 = pE) (hr:(tE:Int) - (B:Int) < (kq:Int)+t) :
  Calls Tryz.prog 70 #[.agg #[.int .i64 E,.int .i64 F],.agg #[.slice a n cap],.int .i64 t] w fun e w'=>e = .returned (.bool true)∧Below w.heap.size w w':=by
 have H:=hide h
 have HK:=hide hk
 have hE:=h0.e11
 have hBl:B≤1023:=B_le h0 HBi
 clear h hk
 go_enter Tryz.func70,Tryz.ntmps70
 go_wp2_with fail
 refine (rbits_k a n cap q kq _ ((unhide H).kept (Fs.two w _ _ _ _).fr) (unhide HK)).mono ?_
 rintro e w1 ⟨rfl,hb1⟩
 have hS:=(Fs.two w _ _ _ _).kept hb1
 obtain ⟨⟨ya,yb,-⟩,⟨yc,-⟩,-⟩:=hS.cells
 go_wp2_with fail
 refine wp_region_any (by kernel_rfl) ?_
 refine wpAny_det [some (14,.int .i64 (kq:Int)),some (15,.int .i64 t),some (16,.int .i64 ((kq:Int)+t)),some (17,.pointer (some ⟨w.heap.size,0,none⟩)),some (18,.int .i64 E),some (19,.int .u64 E),some (20,.int .i64 pE),some (21,.int .i64 tE),some (22,.agg #[.int .i64 E,.int .i64 F]),some (23,.int .i64 (B:Int)),some (24,.int .i64 ((tE:Int) - (B:Int))),some (25,.bool true),some (6,.bool true)]
  (fun _ W9=>Fs w W9 [⟨w.heap.size,#[.int .i64 E,.int .i64 F],23⟩,⟨w.heap.size+1,#[.slice a n cap],44⟩]) _ _ rfl (by kernel_rfl) rfl rfl ?_ ?_ (hS).drew
 ·intro l9 t9 W9 i9 hD hi9 hl9 hM
  obtain ⟨o9,ho9,hd9⟩:=(mem_ready.1 hi9).2
  have hin9:i9 < 13:=by
   by_cases h:i9 < 13
   ·exact h
   ·rw [Array.getElem?_eq_none (by rw [hD.len]; simp; omega)] at hl9; cases hl9
  have hcase:i9 = 0∨i9 = 1∨i9 = 2∨i9 = 3∨i9 = 4∨i9 = 5∨i9 = 6∨i9 = 7∨i9 = 8∨i9 = 9∨i9 = 10∨i9 = 11∨i9 = 12:=by omega
  clear hin9
  rcases hcase with rfl|rfl|rfl|rfl|rfl|rfl|rfl|rfl|rfl|rfl|rfl|rfl|rfl
  ·cases ho9
   have r7:=hD.old 7 _ rfl rfl
   refine wpOp_step rfl fun K hK=>?_
   go_simp
   exact hK _ _ ⟨rfl,hM⟩
  ·cases ho9
   have r2:=hD.old 2 _ rfl rfl
   refine wpOp_step rfl fun K hK=>?_
   go_simp
   exact hK _ _ ⟨rfl,hM⟩
  ·cases ho9
   have r14:=hD.od hd9 0 14 _ rfl (by simp)
   have r15:=hD.od hd9 1 15 _ rfl (by simp)
   refine wpOp_step rfl fun K hK=>?_
   go_simp
   exact hK _ _ ⟨act_eq (by (show Value.int _ _ = Value.int _ _; congr 1; (first|rfl|omega|(rw [IntKind.wrap_i64]; omega)|(rw [IntKind.wrap_u64]; omega)))),hM⟩
  ·cases ho9
   have r3:=hD.old 3 _ rfl rfl
   refine wpOp_step rfl fun K hK=>?_
   go_simp
   exact hK _ _ ⟨rfl,hM⟩
  ·cases ho9
   have r17:=hD.od hd9 3 17 _ rfl (by simp)
   have hM0:=hM
   have c9_0:=hM0.cellAt (b:=w.heap.size) (cs:=#[.int .i64 E,.int .i64 F]) (t:=23) (by simp) 0 _ rfl
   clear hM0
   refine wpOp_step rfl fun K hK=>?_
   go_simp
   exact hK _ _ ⟨rfl,hM⟩
  ·cases ho9
   have r18:=hD.od hd9 4 18 _ rfl (by simp)
   refine wpOp_step rfl fun K hK=>?_
   go_simp
   exact hK _ _ ⟨act_eq (by (show Value.int _ _ = Value.int _ _; congr 1; (first|rfl|omega|(rw [IntKind.wrap_i64]; omega)|(rw [IntKind.wrap_u64]; omega)))),hM⟩
  ·cases ho9
   have r19:=hD.od hd9 5 19 _ rfl (by simp)
   refine wpOp_step rfl fun K hK=>?_
   go_simp
   exact hK _ _ ⟨act_eq (by (first|rfl|exact congrArg (Value.int .i64) h6|(rw [← h6]; rfl)|(simp [h6])|(simp [h6']))),hM⟩
  ·cases ho9
   have r20:=hD.od hd9 6 20 _ rfl (by simp)
   refine wpOp_step rfl fun K hK=>?_
   go_simp
   exact hK _ _ ⟨act_eq (by (show Value.int _ _ = Value.int _ _; congr 1; (first|rfl|omega|(rw [IntKind.wrap_i64]; omega)|(rw [IntKind.wrap_u64]; omega)))),hM⟩
  ·cases ho9
   have r3:=hD.old 3 _ rfl rfl
   have hM0:=hM
   have Q_:=hM0.cellAt (b:=w.heap.size) (cs:=#[.int .i64 E,.int .i64 F]) (t:=23) (by simp)
   have c9_0:=Q_ 0 _ rfl
   have c9_1:=Q_ 1 _ rfl
   clear Q_
   clear hM0
   refine wpOp_step rfl fun K hK=>?_
   go_simp
   exact hK _ _ ⟨rfl,hM⟩
  ·cases ho9
   have r22:=hD.od hd9 8 22 _ rfl (by simp)
   refine wpOp_step rfl fun K hK=>?_
   go_simp
   go_wp2_with fail
   refine (rbias4_any E F B h0 HBi _).mono ?_
   rintro en w9 ⟨rfl,hb9⟩
   exact hK _ _ ⟨rfl,hM.kept hb9⟩
  ·cases ho9
   have r21:=hD.od hd9 7 21 _ rfl (by simp)
   have r23:=hD.od hd9 9 23 _ rfl (by simp)
   refine wpOp_step rfl fun K hK=>?_
   go_simp
   exact hK _ _ ⟨act_eq (by (show Value.int _ _ = Value.int _ _; congr 1; (first|rfl|omega|(rw [IntKind.wrap_i64]; omega)|(rw [IntKind.wrap_u64]; omega)))),hM⟩
  ·cases ho9
   have r16:=hD.od hd9 2 16 _ rfl (by simp)
   have r24:=hD.od hd9 10 24 _ rfl (by simp)
   refine wpOp_step rfl fun K hK=>?_
   go_simp
   exact hK _ _ ⟨act_eq (by first|rfl|(simp; omega)|simp [hr]),hM⟩
  ·cases ho9
   have r25:=hD.od hd9 11 25 _ rfl (by simp)
   refine wpOp_step rfl fun K hK=>?_
   go_simp
   exact hK _ _ ⟨rfl,hM⟩
 ·intro l9 W9 hl9 hM
  clear hS ya yb yc
  have hS:=hM
  clear hM
  simp only [Puts.lay,List.setIfInBounds_toArray,List.set_cons_zero,List.set_cons_succ]
  obtain ⟨⟨yd,ye,-⟩,⟨yf,-⟩,-⟩:=hS.cells
  go_wp2
  go_ret
  exact ⟨rfl,hS.fr⟩
theorem rdyadic7 (s:Bool) (a:Option Addr) (n cap q:Nat) (t:Int) (r:Bool) (v:Nat) (y:Int) (w:World) (h:Num w a n q) (HM:Hid (∀ (W:World) (A:Option Addr) (N C:Nat),Num W A N q→Calls Tryz.prog 28 #[.bool s,.agg #[.slice A N C],.int .i64 t] W fun e w'=>(∃ A N C,e = .returned (.tuple #[.agg #[.bool r,.slice A N C,.int .i64 y],.int .i64 0])∧Mine w' W.heap.size A N C v)∧Below W.heap.size W w')) :
  Calls Tryz.prog 72 #[.bool s,.agg #[.slice a n cap],.int .i64 t] w fun e w'=>(∃ A N C,e = .returned (.agg #[.bool r,.slice A N C,.int .i64 y])∧Mine w' w.heap.size A N C v)∧Below w.heap.size w w':=by
 have H:=hide h
 clear h
 go_enter Tryz.func72,Tryz.ntmps72
 go_wp2_with fail
 refine (unhide HM _ _ _ _ ((unhide H).kept (Fs.two w _ _ _ _).fr)).mono ?_
 rintro e w1 ⟨⟨A1,N1,C1,rfl,f1⟩,hb1⟩
 have hS:=(Fs.two w _ _ _ _).kept hb1
 obtain ⟨⟨ya,-⟩,⟨yb,yc,yd,-⟩,-⟩:=hS.cells
 have G1:=hide (f1.mono (base':=w.heap.size+2) (by simp))
 clear f1
 have hltw1_0:w.heap.size < w1.heap.size:=hS.lt 0 rfl
 have hltw1_1:w.heap.size+1 < w1.heap.size:=hS.lt 1 rfl
 obtain ⟨WV1,hWV1⟩:∃ WV1,w1.alloc (.cells #[.bool r,.slice A1 N1 C1,.int .i64 y] 46) = WV1:=⟨_,rfl⟩
 replace hS:=hS.alloc #[.bool r,.slice A1 N1 C1,.int .i64 y] 46
 rw [hWV1] at hS
 replace G1:=hide (hWV1▸(unhide G1).alloc (.cells #[.bool r,.slice A1 N1 C1,.int .i64 y] 46))
 clear ya yb yc yd
 obtain ⟨⟨ye,yf,yg,-⟩,⟨yh,-⟩,⟨yi,yj,yk,-⟩,-⟩:=hS.cells
 have Q_:=hS.frozen (b:=w.heap.size+1) (cs:=#[.bool false,.slice none 0 0,.int .i64 0]) (t:=46) (by simp)
 have fz0:=Q_ 0
 have fz1:=Q_ 1
 have fz2:=Q_ 2
 clear Q_
 go_wp2
 exact bodyPost_ret (v:=.agg #[.bool r,.slice A1 N1 C1,.int .i64 y]) (by simp [results,Tryz.results72,go_sem,yi,yj,yk]) rfl ⟨⟨_,_,_,rfl,((((unhide G1).set (p:=⟨w.heap.size+1,0,none⟩) (by show w.heap.size+1 < w.heap.size+2; omega) (.bool r)).set (p:=⟨w.heap.size+1,1,none⟩) (by show w.heap.size+1 < w.heap.size+2; omega) (.slice A1 N1 C1)).set (p:=⟨w.heap.size+1,2,none⟩) (by show w.heap.size+1 < w.heap.size+2; omega) (.int .i64 y)).mono (by omega)⟩,((hS.fr.setCell (by simp <;> omega) _).setCell (by simp <;> omega) _).setCell (by simp <;> omega) _⟩
theorem rround_i2:(∀ (E F B:Nat) (_:Fo E F) (_:Hid (B = 2 ^ (E - 1) - 1)) (s:Bool) (a:Option Addr) (n cap m:Nat) (x:Int) (mo:Bool) (md:Int) (k q:Nat) (fr0 L t:Int) (i:Int) (w:World) (_:Num w a n m) (_:Bl m k) (_:k≤1000000) (_:-4294967296≤x∧x≤4294967296) (_:x+(k:Int) - 1 - (F:Int) = fr0) (_:1 - (B:Int) - (F:Int) = L) (_:max fr0 L = t) (_:Hid (∀ W:World,Num W a n m→Calls Tryz.prog 69 #[.agg #[.bool s,.slice a n cap,.int .i64 x,.bool mo],.int .i64 t,.int .u8 md] W fun e w'=>(∃ A N C,e = .returned (.tuple #[.agg #[.slice A N C],.bool false])∧Mine w' W.heap.size A N C (q))∧Below W.heap.size W w')) (_:Hid (∀ (W:World) (A:Option Addr) (N C:Nat),Num W A N q→Calls Tryz.prog 70 #[.agg #[.int .i64 E,.int .i64 F],.agg #[.slice A N C],.int .i64 t] W fun e w'=>e = .returned (.bool true)∧Below W.heap.size W w')) (_:Tel 14 #[.agg #[.int .i64 E,.int .i64 F],.bool s] (.int .u64 i)) (_:md = 0∨md = 1∨(md = 3∧s = false)∨(md = 4∧s = true)),
  Calls Tryz.prog 50 #[.agg #[.int .i64 E,.int .i64 F],.agg #[.bool s,.slice a n cap,.int .i64 x,.bool mo],.int .u8 md] w fun e w'=>e = .returned (.tuple #[.int .u64 i,.int .u8 3])∧Below w.heap.size w w') ∧
  (∀ (E F B:Nat) (_:Fo E F) (_:Hid (B = 2 ^ (E - 1) - 1)) (s:Bool) (a:Option Addr) (n cap m:Nat) (x:Int) (mo:Bool) (md:Int) (k q:Nat) (fr0 L t:Int) (i:Int) (w:World) (_:Num w a n m) (_:Bl m k) (_:k≤1000000) (_:-4294967296≤x∧x≤4294967296) (_:x+(k:Int) - 1 - (F:Int) = fr0) (_:1 - (B:Int) - (F:Int) = L) (_:max fr0 L = t) (_:Hid (∀ W:World,Num W a n m→Calls Tryz.prog 69 #[.agg #[.bool s,.slice a n cap,.int .i64 x,.bool mo],.int .i64 t,.int .u8 md] W fun e w'=>(∃ A N C,e = .returned (.tuple #[.agg #[.slice A N C],.bool true])∧Mine w' W.heap.size A N C (q))∧Below W.heap.size W w')) (_:Hid (∀ (W:World) (A:Option Addr) (N C:Nat),Num W A N q→Calls Tryz.prog 70 #[.agg #[.int .i64 E,.int .i64 F],.agg #[.slice A N C],.int .i64 t] W fun e w'=>e = .returned (.bool true)∧Below W.heap.size W w')) (_:Tel 14 #[.agg #[.int .i64 E,.int .i64 F],.bool s] (.int .u64 i)) (_:md = 0∨md = 1∨(md = 3∧s = false)∨(md = 4∧s = true)),
  Calls Tryz.prog 50 #[.agg #[.int .i64 E,.int .i64 F],.agg #[.bool s,.slice a n cap,.int .i64 x,.bool mo],.int .u8 md] w fun e w'=>e = .returned (.tuple #[.int .u64 i,.int .u8 3])∧Below w.heap.size w w'):=by
 refine ⟨fun E F B h0 HBi s a n cap m x mo md k q fr0 L t i w h hk hk2 hx hf0 hL ht HR HV HI hmd=>?_,fun E F B h0 HBi s a n cap m x mo md k q fr0 L t i w h hk hk2 hx hf0 hL ht HR HV HI hmd=>?_⟩ <;> (
  have H:=hide h
  have HK:=hide hk
  have hF:=h0.f52
  have hBl:B≤1023:=B_le h0 HBi
  clear h hk
  go_enter Tryz.func50,Tryz.ntmps50
  go_wp2_with fail
  refine (rbits_k a n cap m k _ ((unhide H).kept (Fs.two w _ _ _ _).fr) (unhide HK)).mono ?_
  rintro e w1 ⟨rfl,hb1⟩
  have hS:=(Fs.two w _ _ _ _).kept hb1
  obtain ⟨⟨ya,yb,-⟩,⟨yc,yd,ye,yf,-⟩,-⟩:=hS.cells
  go_wp2_with fail
  refine wp_region_any (by kernel_rfl) ?_
  refine wpAny_det [some (37,.agg #[.int .i64 E,.int .i64 F]),some (38,.int .i64 (B:Int)),some (39,.int .i64 (1 - (B:Int))),some (40,.pointer (some ⟨w.heap.size,1,none⟩)),some (41,.int .i64 F),some (42,.int .i64 L),some (11,.int .i64 L)]
   (fun _ W9=>Fs w W9 [⟨w.heap.size,#[.int .i64 E,.int .i64 F],23⟩,⟨w.heap.size+1,#[.bool s,.slice a n cap,.int .i64 x,.bool mo],101⟩]) _ _ rfl (by kernel_rfl) rfl rfl ?_ ?_ (hS).drew
  ·intro l9 t9 W9 i9 hD hi9 hl9 hM
   obtain ⟨o9,ho9,hd9⟩:=(mem_ready.1 hi9).2
   have hin9:i9 < 7:=by
    by_cases h:i9 < 7
    ·exact h
    ·rw [Array.getElem?_eq_none (by rw [hD.len]; simp; omega)] at hl9; cases hl9
   have hcase:i9 = 0∨i9 = 1∨i9 = 2∨i9 = 3∨i9 = 4∨i9 = 5∨i9 = 6:=by omega
   clear hin9
   rcases hcase with rfl|rfl|rfl|rfl|rfl|rfl|rfl
   ·cases ho9
    have r3:=hD.old 3 _ rfl rfl
    have hM0:=hM
    have Q_:=hM0.cellAt (b:=w.heap.size) (cs:=#[.int .i64 E,.int .i64 F]) (t:=23) (by simp)
    have c9_0:=Q_ 0 _ rfl
    have c9_1:=Q_ 1 _ rfl
    clear Q_
    clear hM0
    refine wpOp_step rfl fun K hK=>?_
    go_simp
    exact hK _ _ ⟨rfl,hM⟩
   ·cases ho9
    have r37:=hD.od hd9 0 37 _ rfl (by simp)
    refine wpOp_step rfl fun K hK=>?_
    go_simp
    go_wp2_with fail
    refine (rbias4_any E F B h0 HBi _).mono ?_
    rintro en w9 ⟨rfl,hb9⟩
    exact hK _ _ ⟨rfl,hM.kept hb9⟩
   ·cases ho9
    have r38:=hD.od hd9 1 38 _ rfl (by simp)
    refine wpOp_step rfl fun K hK=>?_
    go_simp
    exact hK _ _ ⟨act_eq (by (show Value.int _ _ = Value.int _ _; congr 1; (first|rfl|omega|(rw [IntKind.wrap_i64]; omega)|(rw [IntKind.wrap_u64]; omega)))),hM⟩
   ·cases ho9
    have r3:=hD.old 3 _ rfl rfl
    refine wpOp_step rfl fun K hK=>?_
    go_simp
    exact hK _ _ ⟨rfl,hM⟩
   ·cases ho9
    have r40:=hD.od hd9 3 40 _ rfl (by simp)
    have hM0:=hM
    have c9_0:=hM0.cellAt (b:=w.heap.size) (cs:=#[.int .i64 E,.int .i64 F]) (t:=23) (by simp) 1 _ rfl
    clear hM0
    refine wpOp_step rfl fun K hK=>?_
    go_simp
    exact hK _ _ ⟨rfl,hM⟩
   ·cases ho9
    have r39:=hD.od hd9 2 39 _ rfl (by simp)
    have r41:=hD.od hd9 4 41 _ rfl (by simp)
    refine wpOp_step rfl fun K hK=>?_
    go_simp
    exact hK _ _ ⟨act_eq (by (show Value.int _ _ = Value.int _ _; congr 1; (first|rfl|omega|(rw [IntKind.wrap_i64]; omega)|(rw [IntKind.wrap_u64]; omega)))),hM⟩
   ·cases ho9
    have r42:=hD.od hd9 5 42 _ rfl (by simp)
    refine wpOp_step rfl fun K hK=>?_
    go_simp
    exact hK _ _ ⟨rfl,hM⟩
  ·intro l9 W9 hl9 hM
   clear hS ya yb yc yd ye yf
   have hS:=hM
   clear hM
   simp only [Puts.lay,List.setIfInBounds_toArray,List.set_cons_zero,List.set_cons_succ]
   obtain ⟨⟨yg,yh,-⟩,⟨yi,yj,yk,yl,-⟩,-⟩:=hS.cells
   go_wp2_with fail
   refine (unhide HR _ ((unhide H).kept hS.fr)).mono ?_
   rintro e w2 ⟨⟨A1,N1,C1,rfl,f1⟩,hb2⟩
   replace hS:=hS.kept hb2
   clear yg yh yi yj yk yl
   obtain ⟨⟨ym,yn,-⟩,⟨yo,yp,yq,yr,-⟩,-⟩:=hS.cells
   have G1:=hide f1
   clear f1
   have hltw2_0:w.heap.size < w2.heap.size:=hS.lt 0 rfl
   have hltw2_1:w.heap.size+1 < w2.heap.size:=hS.lt 1 rfl
   obtain ⟨WV1,hWV1⟩:∃ WV1,w2.alloc (.cells #[.slice A1 N1 C1] 44) = WV1:=⟨_,rfl⟩
   replace hS:=hS.alloc #[.slice A1 N1 C1] 44
   rw [hWV1] at hS
   replace G1:=hide (hWV1▸(unhide G1).alloc (.cells #[.slice A1 N1 C1] 44))
   clear ym yn yo yp yq yr
   obtain ⟨⟨ys,-⟩,⟨yt,yu,-⟩,⟨yv,yw,yx,yy,-⟩,-⟩:=hS.cells
   go_wp2_with fail
   refine (unhide HV _ _ _ _ (unhide G1).num).mono ?_
   rintro e w3 ⟨rfl,hb3⟩
   replace hS:=hS.kept hb3
   clear ys yt yu yv yw yx yy
   obtain ⟨⟨yz,-⟩,⟨y0,y1,-⟩,⟨y2,y3,y4,y5,-⟩,-⟩:=hS.cells
   replace G1:=hide ((unhide G1).kept hb3)
   rcases hmd with rfl|rfl|⟨rfl,rfl⟩|⟨rfl,rfl⟩
   ·skip
    go_wp2_with fail
    refine (HI _).mono ?_
    rintro e w4 ⟨rfl,hb4⟩
    replace hS:=hS.kept hb4
    clear yz y0 y1 y2 y3 y4 y5
    obtain ⟨⟨y6,-⟩,⟨y7,y8,-⟩,⟨y9,yba,ybb,ybc,-⟩,-⟩:=hS.cells
    go_wp2
    go_ret2
    exact ⟨rfl,hS.fr⟩
   ·skip
    go_wp2_with fail
    refine (HI _).mono ?_
    rintro e w4 ⟨rfl,hb4⟩
    replace hS:=hS.kept hb4
    clear yz y0 y1 y2 y3 y4 y5
    obtain ⟨⟨y6,-⟩,⟨y7,y8,-⟩,⟨y9,yba,ybb,ybc,-⟩,-⟩:=hS.cells
    go_wp2
    go_ret2
    exact ⟨rfl,hS.fr⟩
   ·skip
    go_wp2_with fail
    refine (HI _).mono ?_
    rintro e w4 ⟨rfl,hb4⟩
    replace hS:=hS.kept hb4
    clear yz y0 y1 y2 y3 y4 y5
    obtain ⟨⟨y6,-⟩,⟨y7,y8,-⟩,⟨y9,yba,ybb,ybc,-⟩,-⟩:=hS.cells
    go_wp2
    go_ret2
    exact ⟨rfl,hS.fr⟩
   ·skip
    go_wp2_with fail
    refine (HI _).mono ?_
    rintro e w4 ⟨rfl,hb4⟩
    replace hS:=hS.kept hb4
    clear yz y0 y1 y2 y3 y4 y5
    obtain ⟨⟨y6,-⟩,⟨y7,y8,-⟩,⟨y9,yba,ybb,ybc,-⟩,-⟩:=hS.cells
    go_wp2
    go_ret2
    exact ⟨rfl,hS.fr⟩)
theorem rround_l2:(∀ (E F B:Nat) (_:Fo E F) (_:Hid (B = 2 ^ (E - 1) - 1)) (s:Bool) (a:Option Addr) (n cap m:Nat) (x:Int) (mo:Bool) (md:Int) (k q:Nat) (fr0 L t:Int) (i j:Int) (w:World) (_:Num w a n m) (_:Bl m k) (_:k≤1000000) (_:-4294967296≤x∧x≤4294967296) (_:x+(k:Int) - 1 - (F:Int) = fr0) (_:1 - (B:Int) - (F:Int) = L) (_:max fr0 L = t) (_:Hid (∀ W:World,Num W a n m→Calls Tryz.prog 69 #[.agg #[.bool s,.slice a n cap,.int .i64 x,.bool mo],.int .i64 t,.int .u8 md] W fun e w'=>(∃ A N C,e = .returned (.tuple #[.agg #[.slice A N C],.bool false])∧Mine w' W.heap.size A N C (q))∧Below W.heap.size W w')) (_:Hid (∀ (W:World) (A:Option Addr) (N C:Nat),Num W A N q→Calls Tryz.prog 70 #[.agg #[.int .i64 E,.int .i64 F],.agg #[.slice A N C],.int .i64 t] W fun e w'=>e = .returned (.bool true)∧Below W.heap.size W w')) (_:Tel 14 #[.agg #[.int .i64 E,.int .i64 F],.bool s] (.int .u64 i)) (_:md = 2∨(md = 3∧s = true)∨(md = 4∧s = false)) (_:IntKind.u64.wrap (i - 1) = j),
  Calls Tryz.prog 50 #[.agg #[.int .i64 E,.int .i64 F],.agg #[.bool s,.slice a n cap,.int .i64 x,.bool mo],.int .u8 md] w fun e w'=>e = .returned (.tuple #[.int .u64 j,.int .u8 3])∧Below w.heap.size w w') ∧
  (∀ (E F B:Nat) (_:Fo E F) (_:Hid (B = 2 ^ (E - 1) - 1)) (s:Bool) (a:Option Addr) (n cap m:Nat) (x:Int) (mo:Bool) (md:Int) (k q:Nat) (fr0 L t:Int) (i j:Int) (w:World) (_:Num w a n m) (_:Bl m k) (_:k≤1000000) (_:-4294967296≤x∧x≤4294967296) (_:x+(k:Int) - 1 - (F:Int) = fr0) (_:1 - (B:Int) - (F:Int) = L) (_:max fr0 L = t) (_:Hid (∀ W:World,Num W a n m→Calls Tryz.prog 69 #[.agg #[.bool s,.slice a n cap,.int .i64 x,.bool mo],.int .i64 t,.int .u8 md] W fun e w'=>(∃ A N C,e = .returned (.tuple #[.agg #[.slice A N C],.bool true])∧Mine w' W.heap.size A N C (q))∧Below W.heap.size W w')) (_:Hid (∀ (W:World) (A:Option Addr) (N C:Nat),Num W A N q→Calls Tryz.prog 70 #[.agg #[.int .i64 E,.int .i64 F],.agg #[.slice A N C],.int .i64 t] W fun e w'=>e = .returned (.bool true)∧Below W.heap.size W w')) (_:Tel 14 #[.agg #[.int .i64 E,.int .i64 F],.bool s] (.int .u64 i)) (_:md = 2∨(md = 3∧s = true)∨(md = 4∧s = false)) (_:IntKind.u64.wrap (i - 1) = j),
  Calls Tryz.prog 50 #[.agg #[.int .i64 E,.int .i64 F],.agg #[.bool s,.slice a n cap,.int .i64 x,.bool mo],.int .u8 md] w fun e w'=>e = .returned (.tuple #[.int .u64 j,.int .u8 3])∧Below w.heap.size w w'):=by
 refine ⟨fun E F B h0 HBi s a n cap m x mo md k q fr0 L t i j w h hk hk2 hx hf0 hL ht HR HV HI hmd hj=>?_,fun E F B h0 HBi s a n cap m x mo md k q fr0 L t i j w h hk hk2 hx hf0 hL ht HR HV HI hmd hj=>?_⟩ <;> (
  have H:=hide h
  have HK:=hide hk
  have hF:=h0.f52
  have hBl:B≤1023:=B_le h0 HBi
  clear h hk
  go_enter Tryz.func50,Tryz.ntmps50
  go_wp2_with fail
  refine (rbits_k a n cap m k _ ((unhide H).kept (Fs.two w _ _ _ _).fr) (unhide HK)).mono ?_
  rintro e w1 ⟨rfl,hb1⟩
  have hS:=(Fs.two w _ _ _ _).kept hb1
  obtain ⟨⟨ya,yb,-⟩,⟨yc,yd,ye,yf,-⟩,-⟩:=hS.cells
  go_wp2_with fail
  refine wp_region_any (by kernel_rfl) ?_
  refine wpAny_det [some (37,.agg #[.int .i64 E,.int .i64 F]),some (38,.int .i64 (B:Int)),some (39,.int .i64 (1 - (B:Int))),some (40,.pointer (some ⟨w.heap.size,1,none⟩)),some (41,.int .i64 F),some (42,.int .i64 L),some (11,.int .i64 L)]
   (fun _ W9=>Fs w W9 [⟨w.heap.size,#[.int .i64 E,.int .i64 F],23⟩,⟨w.heap.size+1,#[.bool s,.slice a n cap,.int .i64 x,.bool mo],101⟩]) _ _ rfl (by kernel_rfl) rfl rfl ?_ ?_ (hS).drew
  ·intro l9 t9 W9 i9 hD hi9 hl9 hM
   obtain ⟨o9,ho9,hd9⟩:=(mem_ready.1 hi9).2
   have hin9:i9 < 7:=by
    by_cases h:i9 < 7
    ·exact h
    ·rw [Array.getElem?_eq_none (by rw [hD.len]; simp; omega)] at hl9; cases hl9
   have hcase:i9 = 0∨i9 = 1∨i9 = 2∨i9 = 3∨i9 = 4∨i9 = 5∨i9 = 6:=by omega
   clear hin9
   rcases hcase with rfl|rfl|rfl|rfl|rfl|rfl|rfl
   ·cases ho9
    have r3:=hD.old 3 _ rfl rfl
    have hM0:=hM
    have Q_:=hM0.cellAt (b:=w.heap.size) (cs:=#[.int .i64 E,.int .i64 F]) (t:=23) (by simp)
    have c9_0:=Q_ 0 _ rfl
    have c9_1:=Q_ 1 _ rfl
    clear Q_
    clear hM0
    refine wpOp_step rfl fun K hK=>?_
    go_simp
    exact hK _ _ ⟨rfl,hM⟩
   ·cases ho9
    have r37:=hD.od hd9 0 37 _ rfl (by simp)
    refine wpOp_step rfl fun K hK=>?_
    go_simp
    go_wp2_with fail
    refine (rbias4_any E F B h0 HBi _).mono ?_
    rintro en w9 ⟨rfl,hb9⟩
    exact hK _ _ ⟨rfl,hM.kept hb9⟩
   ·cases ho9
    have r38:=hD.od hd9 1 38 _ rfl (by simp)
    refine wpOp_step rfl fun K hK=>?_
    go_simp
    exact hK _ _ ⟨act_eq (by (show Value.int _ _ = Value.int _ _; congr 1; (first|rfl|omega|(rw [IntKind.wrap_i64]; omega)|(rw [IntKind.wrap_u64]; omega)))),hM⟩
   ·cases ho9
    have r3:=hD.old 3 _ rfl rfl
    refine wpOp_step rfl fun K hK=>?_
    go_simp
    exact hK _ _ ⟨rfl,hM⟩
   ·cases ho9
    have r40:=hD.od hd9 3 40 _ rfl (by simp)
    have hM0:=hM
    have c9_0:=hM0.cellAt (b:=w.heap.size) (cs:=#[.int .i64 E,.int .i64 F]) (t:=23) (by simp) 1 _ rfl
    clear hM0
    refine wpOp_step rfl fun K hK=>?_
    go_simp
    exact hK _ _ ⟨rfl,hM⟩
   ·cases ho9
    have r39:=hD.od hd9 2 39 _ rfl (by simp)
    have r41:=hD.od hd9 4 41 _ rfl (by simp)
    refine wpOp_step rfl fun K hK=>?_
    go_simp
    exact hK _ _ ⟨act_eq (by (show Value.int _ _ = Value.int _ _; congr 1; (first|rfl|omega|(rw [IntKind.wrap_i64]; omega)|(rw [IntKind.wrap_u64]; omega)))),hM⟩
   ·cases ho9
    have r42:=hD.od hd9 5 42 _ rfl (by simp)
    refine wpOp_step rfl fun K hK=>?_
    go_simp
    exact hK _ _ ⟨rfl,hM⟩
  ·intro l9 W9 hl9 hM
   clear hS ya yb yc yd ye yf
   have hS:=hM
   clear hM
   simp only [Puts.lay,List.setIfInBounds_toArray,List.set_cons_zero,List.set_cons_succ]
   obtain ⟨⟨yg,yh,-⟩,⟨yi,yj,yk,yl,-⟩,-⟩:=hS.cells
   go_wp2_with fail
   refine (unhide HR _ ((unhide H).kept hS.fr)).mono ?_
   rintro e w2 ⟨⟨A1,N1,C1,rfl,f1⟩,hb2⟩
   replace hS:=hS.kept hb2
   clear yg yh yi yj yk yl
   obtain ⟨⟨ym,yn,-⟩,⟨yo,yp,yq,yr,-⟩,-⟩:=hS.cells
   have G1:=hide f1
   clear f1
   have hltw2_0:w.heap.size < w2.heap.size:=hS.lt 0 rfl
   have hltw2_1:w.heap.size+1 < w2.heap.size:=hS.lt 1 rfl
   obtain ⟨WV1,hWV1⟩:∃ WV1,w2.alloc (.cells #[.slice A1 N1 C1] 44) = WV1:=⟨_,rfl⟩
   replace hS:=hS.alloc #[.slice A1 N1 C1] 44
   rw [hWV1] at hS
   replace G1:=hide (hWV1▸(unhide G1).alloc (.cells #[.slice A1 N1 C1] 44))
   clear ym yn yo yp yq yr
   obtain ⟨⟨ys,-⟩,⟨yt,yu,-⟩,⟨yv,yw,yx,yy,-⟩,-⟩:=hS.cells
   go_wp2_with fail
   refine (unhide HV _ _ _ _ (unhide G1).num).mono ?_
   rintro e w3 ⟨rfl,hb3⟩
   replace hS:=hS.kept hb3
   clear ys yt yu yv yw yx yy
   obtain ⟨⟨yz,-⟩,⟨y0,y1,-⟩,⟨y2,y3,y4,y5,-⟩,-⟩:=hS.cells
   replace G1:=hide ((unhide G1).kept hb3)
   rcases hmd with rfl|⟨rfl,rfl⟩|⟨rfl,rfl⟩
   ·skip
    go_wp2_with fail
    refine (HI _).mono ?_
    rintro e w4 ⟨rfl,hb4⟩
    replace hS:=hS.kept hb4
    clear yz y0 y1 y2 y3 y4 y5
    obtain ⟨⟨y6,-⟩,⟨y7,y8,-⟩,⟨y9,yba,ybb,ybc,-⟩,-⟩:=hS.cells
    go_wp2
    go_ret2
    exact ⟨rfl,hS.fr⟩
   ·skip
    go_wp2_with fail
    refine (HI _).mono ?_
    rintro e w4 ⟨rfl,hb4⟩
    replace hS:=hS.kept hb4
    clear yz y0 y1 y2 y3 y4 y5
    obtain ⟨⟨y6,-⟩,⟨y7,y8,-⟩,⟨y9,yba,ybb,ybc,-⟩,-⟩:=hS.cells
    go_wp2
    go_ret2
    exact ⟨rfl,hS.fr⟩
   ·skip
    go_wp2_with fail
    refine (HI _).mono ?_
    rintro e w4 ⟨rfl,hb4⟩
    replace hS:=hS.kept hb4
    clear yz y0 y1 y2 y3 y4 y5
    obtain ⟨⟨y6,-⟩,⟨y7,y8,-⟩,⟨y9,yba,ybb,ybc,-⟩,-⟩:=hS.cells
    go_wp2
    go_ret2
    exact ⟨rfl,hS.fr⟩)
end Go.Proofs.YtfimakkpdjppfaaGreatDoor
