/- Of what SoftFmasRow stands on: SrRouB. -/
import Derived.Test.YtfimakkpdjppfaaGreatDoorPbn
import Derived.Test.YtfimakkpdjppfaaGreatDoorPaf
namespace Go.Proofs.YtfimakkpdjppfaaGreatDoor
open Go.RowKit
set_option maxHeartbeats 16000000
set_option maxRecDepth 20000
theorem st_num7 (a:Option Addr) (n m:Nat):St 0 (fun W=>Num W a n m):=st_zero (fun _ _ hb h=>h.kept hb)
theorem rround_ff (E F B:Nat) (h0:Fo E F) (HBi:Hid (B = 2 ^ (E - 1) - 1)) (s:Bool) (a:Option Addr) (n cap m:Nat) (x:Int) (mo:Bool) (md:Int) (k q:Nat) (fr0 L t:Int) (r:Bool) (v:Nat) (y b:Int) (w:World) (h:Num w a n m) (hk:Bl m k) (hk2:k≤1000000) (hx:-4294967296≤x∧x≤4294967296) (hf0:x+(k:Int) - 1 - (F:Int) = fr0) (hL:1 - (B:Int) - (F:Int) = L) (ht:max fr0 L = t) (HR:Hid (∀ W:World,Num W a n m→Calls Tryz.prog 69 #[.agg #[.bool s,.slice a n cap,.int .i64 x,.bool mo],.int .i64 t,.int .u8 md] W fun e w'=>(∃ A N C,e = .returned (.tuple #[.agg #[.slice A N C],.bool false])∧Mine w' W.heap.size A N C (q))∧Below W.heap.size W w')) (HV:Hid (∀ (W:World) (A:Option Addr) (N C:Nat),Num W A N q→Calls Tryz.prog 70 #[.agg #[.int .i64 E,.int .i64 F],.agg #[.slice A N C],.int .i64 t] W fun e w'=>e = .returned (.bool false)∧Below W.heap.size W w')) (HT:Hid (∀ (W:World) (A:Option Addr) (N C:Nat),Num W A N q→Calls Tryz.prog 72 #[.bool s,.agg #[.slice A N C],.int .i64 t] W fun e w'=>(∃ A N C,e = .returned (.agg #[.bool r,.slice A N C,.int .i64 y])∧Mine w' W.heap.size A N C v)∧Below W.heap.size W w')) (HW:Hid (∀ (W:World) (A:Option Addr) (N C:Nat),Num W A N v→Calls Tryz.prog 71 #[.agg #[.int .i64 E,.int .i64 F],.agg #[.bool r,.slice A N C,.int .i64 y]] W fun e w'=>e = .returned (.tuple #[.int .u64 b,.bool true,.int .i64 0])∧Below W.heap.size W w')) (hq:0 < q) :
  Calls Tryz.prog 50 #[.agg #[.int .i64 E,.int .i64 F],.agg #[.bool s,.slice a n cap,.int .i64 x,.bool mo],.int .u8 md] w fun e w'=>e = .returned (.tuple #[.int .u64 b,.int .u8 0])∧Below w.heap.size w w':=by
 have H:=hide h
 have HK:=hide hk
 have hF:=h0.f52
 have hBl:B≤1023:=B_le h0 HBi
 clear h hk
 go_enter Tryz.func50,Tryz.ntmps50
 go_wp2_with fail
 refine (rbits_k a n cap m k _ ((unhide H).kept (Fs.two w _ _ _ _).fr) (unhide HK)).mono ?_
 rintro e w1 ⟨rfl,hb1⟩
 have hS:=(Fs.two w _ _ _ _).kept hb1
 obtain ⟨⟨ya,yb,-⟩,⟨yc,yd,ye,yf,-⟩,-⟩:=hS.cells
 go_wp2_with fail
 refine wp_region_any (by kernel_rfl) ?_
 refine wpAny_det [some (37,.agg #[.int .i64 E,.int .i64 F]),some (38,.int .i64 (B:Int)),some (39,.int .i64 (1 - (B:Int))),some (40,.pointer (some ⟨w.heap.size,1,none⟩)),some (41,.int .i64 F),some (42,.int .i64 L),some (11,.int .i64 L)]
  (fun _ W9=>Fs w W9 [⟨w.heap.size,#[.int .i64 E,.int .i64 F],23⟩,⟨w.heap.size+1,#[.bool s,.slice a n cap,.int .i64 x,.bool mo],101⟩]) _ _ rfl (by kernel_rfl) rfl rfl ?_ ?_ (hS).drew
 ·intro l9 t9 W9 i9 hD hi9 hl9 hM
  obtain ⟨o9,ho9,hd9⟩:=(mem_ready.1 hi9).2
  have hin9:i9 < 7:=by
   by_cases h:i9 < 7
   ·exact h
   ·rw [Array.getElem?_eq_none (by rw [hD.len]; simp; omega)] at hl9; cases hl9
  have hcase:i9 = 0∨i9 = 1∨i9 = 2∨i9 = 3∨i9 = 4∨i9 = 5∨i9 = 6:=by omega
  clear hin9
  rcases hcase with rfl|rfl|rfl|rfl|rfl|rfl|rfl
  ·cases ho9
   have r3:=hD.old 3 _ rfl rfl
   have hM0:=hM
   have Q_:=hM0.cellAt (b:=w.heap.size) (cs:=#[.int .i64 E,.int .i64 F]) (t:=23) (by simp)
   have c9_0:=Q_ 0 _ rfl
   have c9_1:=Q_ 1 _ rfl
   clear Q_
   clear hM0
   refine wpOp_step rfl fun K hK=>?_
   go_simp
   exact hK _ _ ⟨rfl,hM⟩
  ·cases ho9
   have r37:=hD.od hd9 0 37 _ rfl (by simp)
   refine wpOp_step rfl fun K hK=>?_
   go_simp
   go_wp2_with fail
   refine (rbias4_any E F B h0 HBi _).mono ?_
   rintro en w9 ⟨rfl,hb9⟩
   exact hK _ _ ⟨rfl,hM.kept hb9⟩
  ·cases ho9
   have r38:=hD.od hd9 1 38 _ rfl (by simp)
   refine wpOp_step rfl fun K hK=>?_
   go_simp
   exact hK _ _ ⟨act_eq (by (show Value.int _ _ = Value.int _ _; congr 1; (first|rfl|omega|(rw [IntKind.wrap_i64]; omega)|(rw [IntKind.wrap_u64]; omega)))),hM⟩
  ·cases ho9
   have r3:=hD.old 3 _ rfl rfl
   refine wpOp_step rfl fun K hK=>?_
   go_simp
   exact hK _ _ ⟨rfl,hM⟩
  ·cases ho9
   have r40:=hD.od hd9 3 40 _ rfl (by simp)
   have hM0:=hM
   have c9_0:=hM0.cellAt (b:=w.heap.size) (cs:=#[.int .i64 E,.int .i64 F]) (t:=23) (by simp) 1 _ rfl
   clear hM0
   refine wpOp_step rfl fun K hK=>?_
   go_simp
   exact hK _ _ ⟨rfl,hM⟩
  ·cases ho9
   have r39:=hD.od hd9 2 39 _ rfl (by simp)
   have r41:=hD.od hd9 4 41 _ rfl (by simp)
   refine wpOp_step rfl fun K hK=>?_
   go_simp
   exact hK _ _ ⟨act_eq (by (show Value.int _ _ = Value.int _ _; congr 1; (first|rfl|omega|(rw [IntKind.wrap_i64]; omega)|(rw [IntKind.wrap_u64]; omega)))),hM⟩
  ·cases ho9
   have r42:=hD.od hd9 5 42 _ rfl (by simp)
   refine wpOp_step rfl fun K hK=>?_
   go_simp
   exact hK _ _ ⟨rfl,hM⟩
 ·intro l9 W9 hl9 hM
  clear hS ya yb yc yd ye yf
  have hS:=hM
  clear hM
  simp only [Puts.lay,List.setIfInBounds_toArray,List.set_cons_zero,List.set_cons_succ]
  obtain ⟨⟨yg,yh,-⟩,⟨yi,yj,yk,yl,-⟩,-⟩:=hS.cells
  go_wp2_with fail
  refine (unhide HR _ ((unhide H).kept hS.fr)).mono ?_
  rintro e w2 ⟨⟨A1,N1,C1,rfl,f1⟩,hb2⟩
  replace hS:=hS.kept hb2
  clear yg yh yi yj yk yl
  obtain ⟨⟨ym,yn,-⟩,⟨yo,yp,yq,yr,-⟩,-⟩:=hS.cells
  have G1:=hide f1
  clear f1
  have hltw2_0:w.heap.size < w2.heap.size:=hS.lt 0 rfl
  have hltw2_1:w.heap.size+1 < w2.heap.size:=hS.lt 1 rfl
  obtain ⟨WV1,hWV1⟩:∃ WV1,w2.alloc (.cells #[.slice A1 N1 C1] 44) = WV1:=⟨_,rfl⟩
  replace hS:=hS.alloc #[.slice A1 N1 C1] 44
  rw [hWV1] at hS
  replace G1:=hide (hWV1▸(unhide G1).alloc (.cells #[.slice A1 N1 C1] 44))
  clear ym yn yo yp yq yr
  obtain ⟨⟨ys,-⟩,⟨yt,yu,-⟩,⟨yv,yw,yx,yy,-⟩,-⟩:=hS.cells
  go_wp2_with fail
  refine (unhide HV _ _ _ _ (unhide G1).num).mono ?_
  rintro e w3 ⟨rfl,hb3⟩
  replace hS:=hS.kept hb3
  clear ys yt yu yv yw yx yy
  obtain ⟨⟨yz,-⟩,⟨y0,y1,-⟩,⟨y2,y3,y4,y5,-⟩,-⟩:=hS.cells
  replace G1:=hide ((unhide G1).kept hb3)
  have hN1:((N1:Int) == 0) = false:=by have:=(unhide G1).num.zero; simp; omega
  have hsz9:=hS.size
  go_wp2_with fail
  have hS3s:w.heap.size≤w3.heap.size:=hS.size
  have hs9:∀ x9:Nat×(Pk→World→Prop),x9∈([(5,fun q9 W=>Num W q9.A q9.N v),(14,fun _ W=>Num W A1 N1 q)]:List (Nat×(Pk→World→Prop)))→∀ q9:Pk,St 0 (x9.2 q9):=by
   intro x hx q
   simp only [List.mem_cons,List.not_mem_nil,or_false] at hx
   rcases hx with rfl|rfl
   ·exact st_num7 _ _ _
   ·exact st_num7 _ _ _
  have h09:∀ x9:Nat×(Pk→World→Prop),x9∈([(5,fun q9 W=>Num W q9.A q9.N v),(14,fun _ W=>Num W A1 N1 q)]:List (Nat×(Pk→World→Prop)))→14≤x9.1→x9.2 ⟨none,0,0⟩ w3:=by
   intro x hx hn9
   simp only [List.mem_cons,List.not_mem_nil,or_false] at hx
   rcases hx with rfl|rfl
   ·exact absurd hn9 (by simp)
   ·exact (unhide G1).num
  refine wp_region_any (by kernel_rfl) ?_
  refine wpAny_pick (fun p9=>[some (122,.agg #[.int .i64 E,.int .i64 F]),some (123,.pointer (some ⟨w.heap.size+1,0,none⟩)),some (124,.bool s),some (125,.agg #[.slice A1 N1 C1]),some (126,.int .i64 t),some (127,.agg #[.bool r,.slice (p9 5).A (p9 5).N (p9 5).C,.int .i64 y]),some (128,.tuple #[.int .u64 b,.bool true,.int .i64 0]),some (121,.tuple #[.int .u64 b,.bool true,.int .i64 0]),some (129,.int .u64 b),some (130,.bool true),some (131,.int .i64 0),some (20,.int .u64 b),some (21,.bool true),some (22,.int .i64 0)])
   (fun p9 l9 W9=>Pm w 0 [(5,fun q9 W=>Num W q9.A q9.N v),(14,fun _ W=>Num W A1 N1 q)] p9 l9 W9 [⟨w2.heap.size,#[.slice A1 N1 C1],44⟩,⟨w.heap.size,#[.int .i64 E,.int .i64 F],23⟩,⟨w.heap.size+1,#[.bool s,.slice a n cap,.int .i64 x,.bool mo],101⟩]) _ _ (fun _=>rfl) (by kernel_rfl) (fun _=>rfl) (fun _=>rfl) ?_ ?_ (fun _=>⟨none,0,0⟩) (Pm.start2 hS _ _ _ (by omega) hs9 h09)
  ·intro p9 l9 t9 W9 i9 hD hi9 hl9 hM
   obtain ⟨o9,ho9,hd9⟩:=(mem_ready.1 hi9).2
   have hin9:i9 < 14:=by
    by_cases h:i9 < 14
    ·exact h
    ·rw [Array.getElem?_eq_none (by rw [hD.len]; simp; omega)] at hl9; cases hl9
   have hcase:i9 = 0∨i9 = 1∨i9 = 2∨i9 = 3∨i9 = 4∨i9 = 5∨i9 = 6∨i9 = 7∨i9 = 8∨i9 = 9∨i9 = 10∨i9 = 11∨i9 = 12∨i9 = 13:=by omega
   clear hin9
   rcases hcase with rfl|rfl|rfl|rfl|rfl|rfl|rfl|rfl|rfl|rfl|rfl|rfl|rfl|rfl
   ·cases ho9
    have r3:=hD.old 3 _ rfl rfl
    have hM0:=hM.st
    have Q_:=hM0.cellAt (b:=w.heap.size) (cs:=#[.int .i64 E,.int .i64 F]) (t:=23) (by simp)
    have c9_0:=Q_ 0 _ rfl
    have c9_1:=Q_ 1 _ rfl
    clear Q_
    clear hM0
    refine wpOp_step rfl fun K hK=>?_
    go_simp
    exact hK _ _ ⟨p9,fun _ _=>rfl,rfl,(hM.val rfl)⟩
   ·cases ho9
    have r4:=hD.old 4 _ rfl rfl
    refine wpOp_step rfl fun K hK=>?_
    go_simp
    exact hK _ _ ⟨p9,fun _ _=>rfl,rfl,(hM.val rfl)⟩
   ·cases ho9
    have r123:=hD.od hd9 1 123 _ rfl (by simp)
    have hM0:=hM.st
    have c9_0:=hM0.cellAt (b:=w.heap.size+1) (cs:=#[.bool s,.slice a n cap,.int .i64 x,.bool mo]) (t:=101) (by simp) 0 _ rfl
    clear hM0
    refine wpOp_step rfl fun K hK=>?_
    go_simp
    exact hK _ _ ⟨p9,fun _ _=>rfl,rfl,(hM.val rfl)⟩
   ·cases ho9
    have r13:=hD.old 13 _ rfl rfl
    have hM0:=hM.st
    have c9_0:=hM0.cellAt (b:=w2.heap.size) (cs:=#[.slice A1 N1 C1]) (t:=44) (by simp) 0 _ rfl
    clear hM0
    refine wpOp_step rfl fun K hK=>?_
    go_simp
    exact hK _ _ ⟨p9,fun _ _=>rfl,rfl,(hM.val rfl)⟩
   ·cases ho9
    have r12:=hD.old 12 _ rfl rfl
    refine wpOp_step rfl fun K hK=>?_
    go_simp
    exact hK _ _ ⟨p9,fun _ _=>rfl,rfl,(hM.val rfl)⟩
   ·cases ho9
    have r124:=hD.od hd9 2 124 _ rfl (by simp)
    have r125:=hD.od hd9 3 125 _ rfl (by simp)
    have r126:=hD.od hd9 4 126 _ rfl (by simp)
    have ga0:=hM.fx _ (List.mem_of_getElem? (i:=1) rfl) (Or.inr (by rw [hD.len]; simp))
    try simp only [] at ga0
    have HD:=hide hD
    refine wpOp_step rfl fun K hK=>?_
    go_simp
    go_wp2_with fail
    refine (unhide HT _ _ _ _ ga0).mono ?_
    rintro en w9 ⟨⟨a9,n9,c9,rfl,h9⟩,hb9⟩
    refine hK _ _ ⟨p9.set 5 ⟨a9,n9,c9⟩,?_,rfl,((hM.kept hs9 hb9).pick ⟨a9,n9,c9⟩ ?_)⟩
    ·intro k9 hk9
     clear hM hK
     match k9,hk9 with
     | 0,_=>rfl
     | 1,_=>rfl
     | 2,_=>rfl
     | 3,_=>rfl
     | 4,_=>rfl
     | 5,hk9=>exact absurd (hl9.symm.trans hk9) (by simp)
     | 6,hk9=>exact absurd (hl9.symm.trans (getD_true ((unhide HD).shut 6 _ (hk9) rfl ⟨5,.data⟩ (by simp) rfl))) (by simp)
     | 7,hk9=>exact absurd (hl9.symm.trans (getD_true ((unhide HD).shut 6 _ (getD_true ((unhide HD).shut 7 _ (hk9) rfl ⟨6,.data⟩ (by simp) rfl)) rfl ⟨5,.data⟩ (by simp) rfl))) (by simp)
     | 8,hk9=>exact absurd (hl9.symm.trans (getD_true ((unhide HD).shut 6 _ (getD_true ((unhide HD).shut 7 _ (getD_true ((unhide HD).shut 8 _ (hk9) rfl ⟨7,.data⟩ (by simp) rfl)) rfl ⟨6,.data⟩ (by simp) rfl)) rfl ⟨5,.data⟩ (by simp) rfl))) (by simp)
     | 9,hk9=>exact absurd (hl9.symm.trans (getD_true ((unhide HD).shut 6 _ (getD_true ((unhide HD).shut 7 _ (getD_true ((unhide HD).shut 9 _ (hk9) rfl ⟨7,.data⟩ (by simp) rfl)) rfl ⟨6,.data⟩ (by simp) rfl)) rfl ⟨5,.data⟩ (by simp) rfl))) (by simp)
     | 10,hk9=>exact absurd (hl9.symm.trans (getD_true ((unhide HD).shut 6 _ (getD_true ((unhide HD).shut 7 _ (getD_true ((unhide HD).shut 10 _ (hk9) rfl ⟨7,.data⟩ (by simp) rfl)) rfl ⟨6,.data⟩ (by simp) rfl)) rfl ⟨5,.data⟩ (by simp) rfl))) (by simp)
     | 11,hk9=>exact absurd (hl9.symm.trans (getD_true ((unhide HD).shut 11 _ (hk9) rfl ⟨5,.phase⟩ (by simp) rfl))) (by simp)
     | 12,hk9=>exact absurd (hl9.symm.trans (getD_true ((unhide HD).shut 12 _ (hk9) rfl ⟨5,.phase⟩ (by simp) rfl))) (by simp)
     | 13,hk9=>exact absurd (hl9.symm.trans (getD_true ((unhide HD).shut 13 _ (hk9) rfl ⟨5,.phase⟩ (by simp) rfl))) (by simp)
     | k9+14,_=>rfl
    ·intro x hx he; simp only [List.mem_cons,List.not_mem_nil,or_false] at hx; rcases hx with rfl|rfl
     ·exact h9.num
     ·exact absurd he (by simp)
   ·cases ho9
    have r122:=hD.od hd9 0 122 _ rfl (by simp)
    have r127:=hD.od hd9 5 127 _ rfl (by simp)
    have ga0:=hM.fx _ (List.mem_of_getElem? (i:=1) rfl) (Or.inr (by rw [hD.len]; simp))
    try simp only [] at ga0
    have g5:=hM.fx _ (List.mem_of_getElem? (i:=0) rfl) (Or.inl (getD_true (hd9 ⟨5,.data⟩ (by simp) rfl)))
    simp only [] at g5
    refine wpOp_step rfl fun K hK=>?_
    go_simp
    go_wp2_with fail
    refine (unhide HW _ _ _ _ g5).mono ?_
    rintro en w9 ⟨rfl,hb9⟩
    exact hK _ _ ⟨p9,fun _ _=>rfl,rfl,((hM.kept hs9 hb9).val rfl)⟩
   ·cases ho9
    have r128:=hD.od hd9 6 128 _ rfl (by simp)
    refine wpOp_step rfl fun K hK=>?_
    go_simp
    exact hK _ _ ⟨p9,fun _ _=>rfl,rfl,(hM.val rfl)⟩
   ·cases ho9
    have r121:=hD.od hd9 7 121 _ rfl (by simp)
    refine wpOp_step rfl fun K hK=>?_
    go_simp
    exact hK _ _ ⟨p9,fun _ _=>rfl,rfl,(hM.val rfl)⟩
   ·cases ho9
    have r121:=hD.od hd9 7 121 _ rfl (by simp)
    refine wpOp_step rfl fun K hK=>?_
    go_simp
    exact hK _ _ ⟨p9,fun _ _=>rfl,rfl,(hM.val rfl)⟩
   ·cases ho9
    have r121:=hD.od hd9 7 121 _ rfl (by simp)
    refine wpOp_step rfl fun K hK=>?_
    go_simp
    exact hK _ _ ⟨p9,fun _ _=>rfl,rfl,(hM.val rfl)⟩
   ·cases ho9
    have r129:=hD.od hd9 8 129 _ rfl (by simp)
    refine wpOp_step rfl fun K hK=>?_
    go_simp
    exact hK _ _ ⟨p9,fun _ _=>rfl,rfl,(hM.val rfl)⟩
   ·cases ho9
    have r130:=hD.od hd9 9 130 _ rfl (by simp)
    refine wpOp_step rfl fun K hK=>?_
    go_simp
    exact hK _ _ ⟨p9,fun _ _=>rfl,rfl,(hM.val rfl)⟩
   ·cases ho9
    have r131:=hD.od hd9 10 131 _ rfl (by simp)
    refine wpOp_step rfl fun K hK=>?_
    go_simp
    exact hK _ _ ⟨p9,fun _ _=>rfl,rfl,(hM.val rfl)⟩
  ·intro p9 l9 W9 hn9 hl9 hM
   have fr21_5:=hM.fx _ (List.mem_of_getElem? (i:=0) rfl) (Or.inl (hl9 5 (by decide)))
   have kr21_0:=hM.fx _ (List.mem_of_getElem? (i:=1) rfl) (Or.inr (by rw [hn9]; simp))
   try simp only [] at kr21_0
   replace hM:=hM.st
   clear hl9 hs9 h09 hn9
   generalize p9 5 = q5 at *
   obtain ⟨Ar21_5,Nr21_5,Cr21_5⟩:=q5
   simp only [] at fr21_5
   clear hS yz y0 y1 y2 y3 y4 y5
   have hS:=hM
   clear hM
   simp only [Puts.lay,List.setIfInBounds_toArray,List.set_cons_zero,List.set_cons_succ]
   obtain ⟨⟨y6,-⟩,⟨y7,y8,-⟩,⟨y9,yba,ybb,ybc,-⟩,-⟩:=hS.cells
   go_wp2
   go_ret2
   exact ⟨rfl,hS.fr⟩
theorem rround_n2:(∀ (E F B:Nat) (_:Fo E F) (_:Hid (B = 2 ^ (E - 1) - 1)) (s:Bool) (a:Option Addr) (n cap m:Nat) (x:Int) (mo:Bool) (md:Int) (k q:Nat) (fr0 L t:Int) (p kp:Nat) (l2:Bool) (r:Bool) (v:Nat) (y b:Int) (w:World) (_:Num w a n m) (_:Bl m k) (_:k≤1000000) (_:-4294967296≤x∧x≤4294967296) (_:x+(k:Int) - 1 - (F:Int) = fr0) (_:1 - (B:Int) - (F:Int) = L) (_:max fr0 L = t) (_:Hid (∀ W:World,Num W a n m→Calls Tryz.prog 69 #[.agg #[.bool s,.slice a n cap,.int .i64 x,.bool mo],.int .i64 t,.int .u8 md] W fun e w'=>(∃ A N C,e = .returned (.tuple #[.agg #[.slice A N C],.bool true])∧Mine w' W.heap.size A N C (q))∧Below W.heap.size W w')) (_:Hid (∀ (W:World) (A:Option Addr) (N C:Nat),Num W A N q→Calls Tryz.prog 70 #[.agg #[.int .i64 E,.int .i64 F],.agg #[.slice A N C],.int .i64 t] W fun e w'=>e = .returned (.bool false)∧Below W.heap.size W w')) (_:Hid (∀ W:World,Num W a n m→Calls Tryz.prog 69 #[.agg #[.bool s,.slice a n cap,.int .i64 x,.bool mo],.int .i64 fr0,.int .u8 md] W fun e w'=>(∃ A N C,e = .returned (.tuple #[.agg #[.slice A N C],.bool l2])∧Mine w' W.heap.size A N C (p))∧Below W.heap.size W w')) (_:Hid (Bl p kp)) (_:kp≤1000000) (_:¬ (kp:Int)+fr0≤1 - (B:Int)) (_:Hid (∀ (W:World) (A:Option Addr) (N C:Nat),Num W A N q→Calls Tryz.prog 72 #[.bool s,.agg #[.slice A N C],.int .i64 t] W fun e w'=>(∃ A N C,e = .returned (.agg #[.bool r,.slice A N C,.int .i64 y])∧Mine w' W.heap.size A N C v)∧Below W.heap.size W w')) (_:Hid (∀ (W:World) (A:Option Addr) (N C:Nat),Num W A N v→Calls Tryz.prog 71 #[.agg #[.int .i64 E,.int .i64 F],.agg #[.bool r,.slice A N C,.int .i64 y]] W fun e w'=>e = .returned (.tuple #[.int .u64 b,.bool true,.int .i64 0])∧Below W.heap.size W w')) (_:0 < q),
  Calls Tryz.prog 50 #[.agg #[.int .i64 E,.int .i64 F],.agg #[.bool s,.slice a n cap,.int .i64 x,.bool mo],.int .u8 md] w fun e w'=>e = .returned (.tuple #[.int .u64 b,.int .u8 1])∧Below w.heap.size w w') ∧
  (∀ (E F B:Nat) (_:Fo E F) (_:Hid (B = 2 ^ (E - 1) - 1)) (s:Bool) (a:Option Addr) (n cap m:Nat) (x:Int) (mo:Bool) (md:Int) (k q:Nat) (fr0 L t:Int) (p kp:Nat) (l2:Bool) (r:Bool) (v:Nat) (y b:Int) (w:World) (_:Num w a n m) (_:Bl m k) (_:k≤1000000) (_:-4294967296≤x∧x≤4294967296) (_:x+(k:Int) - 1 - (F:Int) = fr0) (_:1 - (B:Int) - (F:Int) = L) (_:max fr0 L = t) (_:Hid (∀ W:World,Num W a n m→Calls Tryz.prog 69 #[.agg #[.bool s,.slice a n cap,.int .i64 x,.bool mo],.int .i64 t,.int .u8 md] W fun e w'=>(∃ A N C,e = .returned (.tuple #[.agg #[.slice A N C],.bool true])∧Mine w' W.heap.size A N C (q))∧Below W.heap.size W w')) (_:Hid (∀ (W:World) (A:Option Addr) (N C:Nat),Num W A N q→Calls Tryz.prog 70 #[.agg #[.int .i64 E,.int .i64 F],.agg #[.slice A N C],.int .i64 t] W fun e w'=>e = .returned (.bool false)∧Below W.heap.size W w')) (_:Hid (∀ W:World,Num W a n m→Calls Tryz.prog 69 #[.agg #[.bool s,.slice a n cap,.int .i64 x,.bool mo],.int .i64 fr0,.int .u8 md] W fun e w'=>(∃ A N C,e = .returned (.tuple #[.agg #[.slice A N C],.bool l2])∧Mine w' W.heap.size A N C (p))∧Below W.heap.size W w')) (_:Hid (Bl p kp)) (_:kp≤1000000) (_:(kp:Int)+fr0≤1 - (B:Int)) (_:Hid (∀ (W:World) (A:Option Addr) (N C:Nat),Num W A N q→Calls Tryz.prog 72 #[.bool s,.agg #[.slice A N C],.int .i64 t] W fun e w'=>(∃ A N C,e = .returned (.agg #[.bool r,.slice A N C,.int .i64 y])∧Mine w' W.heap.size A N C v)∧Below W.heap.size W w')) (_:Hid (∀ (W:World) (A:Option Addr) (N C:Nat),Num W A N v→Calls Tryz.prog 71 #[.agg #[.int .i64 E,.int .i64 F],.agg #[.bool r,.slice A N C,.int .i64 y]] W fun e w'=>e = .returned (.tuple #[.int .u64 b,.bool true,.int .i64 0])∧Below W.heap.size W w')) (_:0 < q),
  Calls Tryz.prog 50 #[.agg #[.int .i64 E,.int .i64 F],.agg #[.bool s,.slice a n cap,.int .i64 x,.bool mo],.int .u8 md] w fun e w'=>e = .returned (.tuple #[.int .u64 b,.int .u8 5])∧Below w.heap.size w w'):=by
 refine ⟨fun E F B h0 HBi s a n cap m x mo md k q fr0 L t p kp l2 r v y b w h hk hk2 hx hf0 hL ht HR HV HP hkp hkp2 hu HT HW hq=>?_,fun E F B h0 HBi s a n cap m x mo md k q fr0 L t p kp l2 r v y b w h hk hk2 hx hf0 hL ht HR HV HP hkp hkp2 hu HT HW hq=>?_⟩ <;> (
  have H:=hide h
  have HK:=hide hk
  have hF:=h0.f52
  have hBl:B≤1023:=B_le h0 HBi
  clear h hk
  go_enter Tryz.func50,Tryz.ntmps50
  go_wp2_with fail
  refine (rbits_k a n cap m k _ ((unhide H).kept (Fs.two w _ _ _ _).fr) (unhide HK)).mono ?_
  rintro e w1 ⟨rfl,hb1⟩
  have hS:=(Fs.two w _ _ _ _).kept hb1
  obtain ⟨⟨ya,yb,-⟩,⟨yc,yd,ye,yf,-⟩,-⟩:=hS.cells
  go_wp2_with fail
  refine wp_region_any (by kernel_rfl) ?_
  refine wpAny_det [some (37,.agg #[.int .i64 E,.int .i64 F]),some (38,.int .i64 (B:Int)),some (39,.int .i64 (1 - (B:Int))),some (40,.pointer (some ⟨w.heap.size,1,none⟩)),some (41,.int .i64 F),some (42,.int .i64 L),some (11,.int .i64 L)]
   (fun _ W9=>Fs w W9 [⟨w.heap.size,#[.int .i64 E,.int .i64 F],23⟩,⟨w.heap.size+1,#[.bool s,.slice a n cap,.int .i64 x,.bool mo],101⟩]) _ _ rfl (by kernel_rfl) rfl rfl ?_ ?_ (hS).drew
  ·intro l9 t9 W9 i9 hD hi9 hl9 hM
   obtain ⟨o9,ho9,hd9⟩:=(mem_ready.1 hi9).2
   have hin9:i9 < 7:=by
    by_cases h:i9 < 7
    ·exact h
    ·rw [Array.getElem?_eq_none (by rw [hD.len]; simp; omega)] at hl9; cases hl9
   have hcase:i9 = 0∨i9 = 1∨i9 = 2∨i9 = 3∨i9 = 4∨i9 = 5∨i9 = 6:=by omega
   clear hin9
   rcases hcase with rfl|rfl|rfl|rfl|rfl|rfl|rfl
   ·cases ho9
    have r3:=hD.old 3 _ rfl rfl
    have hM0:=hM
    have Q_:=hM0.cellAt (b:=w.heap.size) (cs:=#[.int .i64 E,.int .i64 F]) (t:=23) (by simp)
    have c9_0:=Q_ 0 _ rfl
    have c9_1:=Q_ 1 _ rfl
    clear Q_
    clear hM0
    refine wpOp_step rfl fun K hK=>?_
    go_simp
    exact hK _ _ ⟨rfl,hM⟩
   ·cases ho9
    have r37:=hD.od hd9 0 37 _ rfl (by simp)
    refine wpOp_step rfl fun K hK=>?_
    go_simp
    go_wp2_with fail
    refine (rbias4_any E F B h0 HBi _).mono ?_
    rintro en w9 ⟨rfl,hb9⟩
    exact hK _ _ ⟨rfl,hM.kept hb9⟩
   ·cases ho9
    have r38:=hD.od hd9 1 38 _ rfl (by simp)
    refine wpOp_step rfl fun K hK=>?_
    go_simp
    exact hK _ _ ⟨act_eq (by (show Value.int _ _ = Value.int _ _; congr 1; (first|rfl|omega|(rw [IntKind.wrap_i64]; omega)|(rw [IntKind.wrap_u64]; omega)))),hM⟩
   ·cases ho9
    have r3:=hD.old 3 _ rfl rfl
    refine wpOp_step rfl fun K hK=>?_
    go_simp
    exact hK _ _ ⟨rfl,hM⟩
   ·cases ho9
    have r40:=hD.od hd9 3 40 _ rfl (by simp)
    have hM0:=hM
    have c9_0:=hM0.cellAt (b:=w.heap.size) (cs:=#[.int .i64 E,.int .i64 F]) (t:=23) (by simp) 1 _ rfl
    clear hM0
    refine wpOp_step rfl fun K hK=>?_
    go_simp
    exact hK _ _ ⟨rfl,hM⟩
   ·cases ho9
    have r39:=hD.od hd9 2 39 _ rfl (by simp)
    have r41:=hD.od hd9 4 41 _ rfl (by simp)
    refine wpOp_step rfl fun K hK=>?_
    go_simp
    exact hK _ _ ⟨act_eq (by (show Value.int _ _ = Value.int _ _; congr 1; (first|rfl|omega|(rw [IntKind.wrap_i64]; omega)|(rw [IntKind.wrap_u64]; omega)))),hM⟩
   ·cases ho9
    have r42:=hD.od hd9 5 42 _ rfl (by simp)
    refine wpOp_step rfl fun K hK=>?_
    go_simp
    exact hK _ _ ⟨rfl,hM⟩
  ·intro l9 W9 hl9 hM
   clear hS ya yb yc yd ye yf
   have hS:=hM
   clear hM
   simp only [Puts.lay,List.setIfInBounds_toArray,List.set_cons_zero,List.set_cons_succ]
   obtain ⟨⟨yg,yh,-⟩,⟨yi,yj,yk,yl,-⟩,-⟩:=hS.cells
   go_wp2_with fail
   refine (unhide HR _ ((unhide H).kept hS.fr)).mono ?_
   rintro e w2 ⟨⟨A1,N1,C1,rfl,f1⟩,hb2⟩
   replace hS:=hS.kept hb2
   clear yg yh yi yj yk yl
   obtain ⟨⟨ym,yn,-⟩,⟨yo,yp,yq,yr,-⟩,-⟩:=hS.cells
   have G1:=hide f1
   clear f1
   have hltw2_0:w.heap.size < w2.heap.size:=hS.lt 0 rfl
   have hltw2_1:w.heap.size+1 < w2.heap.size:=hS.lt 1 rfl
   obtain ⟨WV1,hWV1⟩:∃ WV1,w2.alloc (.cells #[.slice A1 N1 C1] 44) = WV1:=⟨_,rfl⟩
   replace hS:=hS.alloc #[.slice A1 N1 C1] 44
   rw [hWV1] at hS
   replace G1:=hide (hWV1▸(unhide G1).alloc (.cells #[.slice A1 N1 C1] 44))
   clear ym yn yo yp yq yr
   obtain ⟨⟨ys,-⟩,⟨yt,yu,-⟩,⟨yv,yw,yx,yy,-⟩,-⟩:=hS.cells
   go_wp2_with fail
   refine (unhide HV _ _ _ _ (unhide G1).num).mono ?_
   rintro e w3 ⟨rfl,hb3⟩
   replace hS:=hS.kept hb3
   clear ys yt yu yv yw yx yy
   obtain ⟨⟨yz,-⟩,⟨y0,y1,-⟩,⟨y2,y3,y4,y5,-⟩,-⟩:=hS.cells
   replace G1:=hide ((unhide G1).kept hb3)
   go_wp2_with fail
   refine (unhide HP _ ((unhide H).kept hS.fr)).mono ?_
   rintro e w4 ⟨⟨A2,N2,C2,rfl,f2⟩,hb4⟩
   replace hS:=hS.kept hb4
   clear yz y0 y1 y2 y3 y4 y5
   obtain ⟨⟨y6,-⟩,⟨y7,y8,-⟩,⟨y9,yba,ybb,ybc,-⟩,-⟩:=hS.cells
   replace G1:=hide ((unhide G1).kept hb4)
   have G2:=hide f2
   clear f2
   have hltw4_0:w2.heap.size < w4.heap.size:=hS.lt 0 rfl
   have hltw4_1:w.heap.size < w4.heap.size:=hS.lt 1 rfl
   have hltw4_2:w.heap.size+1 < w4.heap.size:=hS.lt 2 rfl
   obtain ⟨WV2,hWV2⟩:∃ WV2,w4.alloc (.cells #[.slice A2 N2 C2] 44) = WV2:=⟨_,rfl⟩
   replace hS:=hS.alloc #[.slice A2 N2 C2] 44
   rw [hWV2] at hS
   replace G1:=hide (hWV2▸(unhide G1).alloc (.cells #[.slice A2 N2 C2] 44))
   replace G2:=hide (hWV2▸(unhide G2).alloc (.cells #[.slice A2 N2 C2] 44))
   clear y6 y7 y8 y9 yba ybb ybc
   obtain ⟨⟨ybd,-⟩,⟨ybe,-⟩,⟨ybf,ybg,-⟩,⟨ybh,ybi,ybj,ybk,-⟩,-⟩:=hS.cells
   go_wp2_with fail
   refine (rbits_k A2 N2 C2 p kp _ (unhide G2).num (unhide hkp)).mono ?_
   rintro e w5 ⟨rfl,hb5⟩
   replace hS:=hS.kept hb5
   clear ybd ybe ybf ybg ybh ybi ybj ybk
   obtain ⟨⟨ybl,-⟩,⟨ybm,-⟩,⟨ybn,ybo,-⟩,⟨ybp,ybq,ybr,ybs,-⟩,-⟩:=hS.cells
   replace G1:=hide ((unhide G1).kept hb5)
   replace G2:=hide ((unhide G2).kept hb5)
   clear G2
   go_wp2_with fail
   refine (rbias4_any E F B h0 HBi _).mono ?_
   rintro e w6 ⟨rfl,hb6⟩
   replace hS:=hS.kept hb6
   clear ybl ybm ybn ybo ybp ybq ybr ybs
   obtain ⟨⟨ybt,-⟩,⟨ybu,-⟩,⟨ybv,ybw,-⟩,⟨ybx,yby,ybz,yb0,-⟩,-⟩:=hS.cells
   replace G1:=hide ((unhide G1).kept hb6)
   have hN1:((N1:Int) == 0) = false:=by have:=(unhide G1).num.zero; simp; omega
   have hsz9:=hS.size
   go_wp2_with fail
   have hS3s:w.heap.size≤w6.heap.size:=hS.size
   have hs9:∀ x9:Nat×(Pk→World→Prop),x9∈([(5,fun q9 W=>Num W q9.A q9.N v),(14,fun _ W=>Num W A1 N1 q)]:List (Nat×(Pk→World→Prop)))→∀ q9:Pk,St 0 (x9.2 q9):=by
    intro x hx q
    simp only [List.mem_cons,List.not_mem_nil,or_false] at hx
    rcases hx with rfl|rfl
    ·exact st_num7 _ _ _
    ·exact st_num7 _ _ _
   have h09:∀ x9:Nat×(Pk→World→Prop),x9∈([(5,fun q9 W=>Num W q9.A q9.N v),(14,fun _ W=>Num W A1 N1 q)]:List (Nat×(Pk→World→Prop)))→14≤x9.1→x9.2 ⟨none,0,0⟩ w6:=by
    intro x hx hn9
    simp only [List.mem_cons,List.not_mem_nil,or_false] at hx
    rcases hx with rfl|rfl
    ·exact absurd hn9 (by simp)
    ·exact (unhide G1).num
   refine wp_region_any (by kernel_rfl) ?_
   refine wpAny_pick (fun p9=>[some (122,.agg #[.int .i64 E,.int .i64 F]),some (123,.pointer (some ⟨w.heap.size+1,0,none⟩)),some (124,.bool s),some (125,.agg #[.slice A1 N1 C1]),some (126,.int .i64 t),some (127,.agg #[.bool r,.slice (p9 5).A (p9 5).N (p9 5).C,.int .i64 y]),some (128,.tuple #[.int .u64 b,.bool true,.int .i64 0]),some (121,.tuple #[.int .u64 b,.bool true,.int .i64 0]),some (129,.int .u64 b),some (130,.bool true),some (131,.int .i64 0),some (20,.int .u64 b),some (21,.bool true),some (22,.int .i64 0)])
    (fun p9 l9 W9=>Pm w 0 [(5,fun q9 W=>Num W q9.A q9.N v),(14,fun _ W=>Num W A1 N1 q)] p9 l9 W9 [⟨w4.heap.size,#[.slice A2 N2 C2],44⟩,⟨w2.heap.size,#[.slice A1 N1 C1],44⟩,⟨w.heap.size,#[.int .i64 E,.int .i64 F],23⟩,⟨w.heap.size+1,#[.bool s,.slice a n cap,.int .i64 x,.bool mo],101⟩]) _ _ (fun _=>rfl) (by kernel_rfl) (fun _=>rfl) (fun _=>rfl) ?_ ?_ (fun _=>⟨none,0,0⟩) (Pm.start2 hS _ _ _ (by omega) hs9 h09)
   ·intro p9 l9 t9 W9 i9 hD hi9 hl9 hM
    obtain ⟨o9,ho9,hd9⟩:=(mem_ready.1 hi9).2
    have hin9:i9 < 14:=by
     by_cases h:i9 < 14
     ·exact h
     ·rw [Array.getElem?_eq_none (by rw [hD.len]; simp; omega)] at hl9; cases hl9
    have hcase:i9 = 0∨i9 = 1∨i9 = 2∨i9 = 3∨i9 = 4∨i9 = 5∨i9 = 6∨i9 = 7∨i9 = 8∨i9 = 9∨i9 = 10∨i9 = 11∨i9 = 12∨i9 = 13:=by omega
    clear hin9
    rcases hcase with rfl|rfl|rfl|rfl|rfl|rfl|rfl|rfl|rfl|rfl|rfl|rfl|rfl|rfl
    ·cases ho9
     have r3:=hD.old 3 _ rfl rfl
     have hM0:=hM.st
     have Q_:=hM0.cellAt (b:=w.heap.size) (cs:=#[.int .i64 E,.int .i64 F]) (t:=23) (by simp)
     have c9_0:=Q_ 0 _ rfl
     have c9_1:=Q_ 1 _ rfl
     clear Q_
     clear hM0
     refine wpOp_step rfl fun K hK=>?_
     go_simp
     exact hK _ _ ⟨p9,fun _ _=>rfl,rfl,(hM.val rfl)⟩
    ·cases ho9
     have r4:=hD.old 4 _ rfl rfl
     refine wpOp_step rfl fun K hK=>?_
     go_simp
     exact hK _ _ ⟨p9,fun _ _=>rfl,rfl,(hM.val rfl)⟩
    ·cases ho9
     have r123:=hD.od hd9 1 123 _ rfl (by simp)
     have hM0:=hM.st
     have c9_0:=hM0.cellAt (b:=w.heap.size+1) (cs:=#[.bool s,.slice a n cap,.int .i64 x,.bool mo]) (t:=101) (by simp) 0 _ rfl
     clear hM0
     refine wpOp_step rfl fun K hK=>?_
     go_simp
     exact hK _ _ ⟨p9,fun _ _=>rfl,rfl,(hM.val rfl)⟩
    ·cases ho9
     have r13:=hD.old 13 _ rfl rfl
     have hM0:=hM.st
     have c9_0:=hM0.cellAt (b:=w2.heap.size) (cs:=#[.slice A1 N1 C1]) (t:=44) (by simp) 0 _ rfl
     clear hM0
     refine wpOp_step rfl fun K hK=>?_
     go_simp
     exact hK _ _ ⟨p9,fun _ _=>rfl,rfl,(hM.val rfl)⟩
    ·cases ho9
     have r12:=hD.old 12 _ rfl rfl
     refine wpOp_step rfl fun K hK=>?_
     go_simp
     exact hK _ _ ⟨p9,fun _ _=>rfl,rfl,(hM.val rfl)⟩
    ·cases ho9
     have r124:=hD.od hd9 2 124 _ rfl (by simp)
     have r125:=hD.od hd9 3 125 _ rfl (by simp)
     have r126:=hD.od hd9 4 126 _ rfl (by simp)
     have ga0:=hM.fx _ (List.mem_of_getElem? (i:=1) rfl) (Or.inr (by rw [hD.len]; simp))
     try simp only [] at ga0
     have HD:=hide hD
     refine wpOp_step rfl fun K hK=>?_
     go_simp
     go_wp2_with fail
     refine (unhide HT _ _ _ _ ga0).mono ?_
     rintro en w9 ⟨⟨a9,n9,c9,rfl,h9⟩,hb9⟩
     refine hK _ _ ⟨p9.set 5 ⟨a9,n9,c9⟩,?_,rfl,((hM.kept hs9 hb9).pick ⟨a9,n9,c9⟩ ?_)⟩
     ·intro k9 hk9
      clear hM hK
      match k9,hk9 with
      | 0,_=>rfl
      | 1,_=>rfl
      | 2,_=>rfl
      | 3,_=>rfl
      | 4,_=>rfl
      | 5,hk9=>exact absurd (hl9.symm.trans hk9) (by simp)
      | 6,hk9=>exact absurd (hl9.symm.trans (getD_true ((unhide HD).shut 6 _ (hk9) rfl ⟨5,.data⟩ (by simp) rfl))) (by simp)
      | 7,hk9=>exact absurd (hl9.symm.trans (getD_true ((unhide HD).shut 6 _ (getD_true ((unhide HD).shut 7 _ (hk9) rfl ⟨6,.data⟩ (by simp) rfl)) rfl ⟨5,.data⟩ (by simp) rfl))) (by simp)
      | 8,hk9=>exact absurd (hl9.symm.trans (getD_true ((unhide HD).shut 6 _ (getD_true ((unhide HD).shut 7 _ (getD_true ((unhide HD).shut 8 _ (hk9) rfl ⟨7,.data⟩ (by simp) rfl)) rfl ⟨6,.data⟩ (by simp) rfl)) rfl ⟨5,.data⟩ (by simp) rfl))) (by simp)
      | 9,hk9=>exact absurd (hl9.symm.trans (getD_true ((unhide HD).shut 6 _ (getD_true ((unhide HD).shut 7 _ (getD_true ((unhide HD).shut 9 _ (hk9) rfl ⟨7,.data⟩ (by simp) rfl)) rfl ⟨6,.data⟩ (by simp) rfl)) rfl ⟨5,.data⟩ (by simp) rfl))) (by simp)
      | 10,hk9=>exact absurd (hl9.symm.trans (getD_true ((unhide HD).shut 6 _ (getD_true ((unhide HD).shut 7 _ (getD_true ((unhide HD).shut 10 _ (hk9) rfl ⟨7,.data⟩ (by simp) rfl)) rfl ⟨6,.data⟩ (by simp) rfl)) rfl ⟨5,.data⟩ (by simp) rfl))) (by simp)
      | 11,hk9=>exact absurd (hl9.symm.trans (getD_true ((unhide HD).shut 11 _ (hk9) rfl ⟨5,.phase⟩ (by simp) rfl))) (by simp)
      | 12,hk9=>exact absurd (hl9.symm.trans (getD_true ((unhide HD).shut 12 _ (hk9) rfl ⟨5,.phase⟩ (by simp) rfl))) (by simp)
      | 13,hk9=>exact absurd (hl9.symm.trans (getD_true ((unhide HD).shut 13 _ (hk9) rfl ⟨5,.phase⟩ (by simp) rfl))) (by simp)
      | k9+14,_=>rfl
     ·intro x hx he; simp only [List.mem_cons,List.not_mem_nil,or_false] at hx; rcases hx with rfl|rfl
      ·exact h9.num
      ·exact absurd he (by simp)
    ·cases ho9
     have r122:=hD.od hd9 0 122 _ rfl (by simp)
     have r127:=hD.od hd9 5 127 _ rfl (by simp)
     have ga0:=hM.fx _ (List.mem_of_getElem? (i:=1) rfl) (Or.inr (by rw [hD.len]; simp))
     try simp only [] at ga0
     have g5:=hM.fx _ (List.mem_of_getElem? (i:=0) rfl) (Or.inl (getD_true (hd9 ⟨5,.data⟩ (by simp) rfl)))
     simp only [] at g5
     refine wpOp_step rfl fun K hK=>?_
     go_simp
     go_wp2_with fail
     refine (unhide HW _ _ _ _ g5).mono ?_
     rintro en w9 ⟨rfl,hb9⟩
     exact hK _ _ ⟨p9,fun _ _=>rfl,rfl,((hM.kept hs9 hb9).val rfl)⟩
    ·cases ho9
     have r128:=hD.od hd9 6 128 _ rfl (by simp)
     refine wpOp_step rfl fun K hK=>?_
     go_simp
     exact hK _ _ ⟨p9,fun _ _=>rfl,rfl,(hM.val rfl)⟩
    ·cases ho9
     have r121:=hD.od hd9 7 121 _ rfl (by simp)
     refine wpOp_step rfl fun K hK=>?_
     go_simp
     exact hK _ _ ⟨p9,fun _ _=>rfl,rfl,(hM.val rfl)⟩
    ·cases ho9
     have r121:=hD.od hd9 7 121 _ rfl (by simp)
     refine wpOp_step rfl fun K hK=>?_
     go_simp
     exact hK _ _ ⟨p9,fun _ _=>rfl,rfl,(hM.val rfl)⟩
    ·cases ho9
     have r121:=hD.od hd9 7 121 _ rfl (by simp)
     refine wpOp_step rfl fun K hK=>?_
     go_simp
     exact hK _ _ ⟨p9,fun _ _=>rfl,rfl,(hM.val rfl)⟩
    ·cases ho9
     have r129:=hD.od hd9 8 129 _ rfl (by simp)
     refine wpOp_step rfl fun K hK=>?_
     go_simp
     exact hK _ _ ⟨p9,fun _ _=>rfl,rfl,(hM.val rfl)⟩
    ·cases ho9
     have r130:=hD.od hd9 9 130 _ rfl (by simp)
     refine wpOp_step rfl fun K hK=>?_
     go_simp
     exact hK _ _ ⟨p9,fun _ _=>rfl,rfl,(hM.val rfl)⟩
    ·cases ho9
     have r131:=hD.od hd9 10 131 _ rfl (by simp)
     refine wpOp_step rfl fun K hK=>?_
     go_simp
     exact hK _ _ ⟨p9,fun _ _=>rfl,rfl,(hM.val rfl)⟩
   ·intro p9 l9 W9 hn9 hl9 hM
    have fr21_5:=hM.fx _ (List.mem_of_getElem? (i:=0) rfl) (Or.inl (hl9 5 (by decide)))
    have kr21_0:=hM.fx _ (List.mem_of_getElem? (i:=1) rfl) (Or.inr (by rw [hn9]; simp))
    try simp only [] at kr21_0
    replace hM:=hM.st
    clear hl9 hs9 h09 hn9
    generalize p9 5 = q5 at *
    obtain ⟨Ar21_5,Nr21_5,Cr21_5⟩:=q5
    simp only [] at fr21_5
    clear hS ybt ybu ybv ybw ybx yby ybz yb0
    have hS:=hM
    clear hM
    simp only [Puts.lay,List.setIfInBounds_toArray,List.set_cons_zero,List.set_cons_succ]
    obtain ⟨⟨yb1,-⟩,⟨yb2,-⟩,⟨yb3,yb4,-⟩,⟨yb5,yb6,yb7,yb8,-⟩,-⟩:=hS.cells
    go_wp2
    go_ret2
    exact ⟨rfl,hS.fr⟩)
theorem rround_z2:(∀ (E F B:Nat) (_:Fo E F) (_:Hid (B = 2 ^ (E - 1) - 1)) (s:Bool) (a:Option Addr) (n cap m:Nat) (x:Int) (mo:Bool) (md:Int) (k q:Nat) (fr0 L t:Int) (p kp:Nat) (l2:Bool) (sg:Int) (w:World) (_:Num w a n m) (_:Bl m k) (_:k≤1000000) (_:-4294967296≤x∧x≤4294967296) (_:x+(k:Int) - 1 - (F:Int) = fr0) (_:1 - (B:Int) - (F:Int) = L) (_:max fr0 L = t) (_:Hid (∀ W:World,Num W a n m→Calls Tryz.prog 69 #[.agg #[.bool s,.slice a n cap,.int .i64 x,.bool mo],.int .i64 t,.int .u8 md] W fun e w'=>(∃ A N C,e = .returned (.tuple #[.agg #[.slice A N C],.bool true])∧Mine w' W.heap.size A N C (q))∧Below W.heap.size W w')) (_:Hid (∀ (W:World) (A:Option Addr) (N C:Nat),Num W A N q→Calls Tryz.prog 70 #[.agg #[.int .i64 E,.int .i64 F],.agg #[.slice A N C],.int .i64 t] W fun e w'=>e = .returned (.bool false)∧Below W.heap.size W w')) (_:Hid (∀ W:World,Num W a n m→Calls Tryz.prog 69 #[.agg #[.bool s,.slice a n cap,.int .i64 x,.bool mo],.int .i64 fr0,.int .u8 md] W fun e w'=>(∃ A N C,e = .returned (.tuple #[.agg #[.slice A N C],.bool l2])∧Mine w' W.heap.size A N C (p))∧Below W.heap.size W w')) (_:Hid (Bl p kp)) (_:kp≤1000000) (_:¬ (kp:Int)+fr0≤1 - (B:Int)) (_:q = 0) (_:Tel 24 #[.agg #[.int .i64 E,.int .i64 F],.bool s] (.int .u64 sg)),
  Calls Tryz.prog 50 #[.agg #[.int .i64 E,.int .i64 F],.agg #[.bool s,.slice a n cap,.int .i64 x,.bool mo],.int .u8 md] w fun e w'=>e = .returned (.tuple #[.int .u64 sg,.int .u8 1])∧Below w.heap.size w w') ∧
  (∀ (E F B:Nat) (_:Fo E F) (_:Hid (B = 2 ^ (E - 1) - 1)) (s:Bool) (a:Option Addr) (n cap m:Nat) (x:Int) (mo:Bool) (md:Int) (k q:Nat) (fr0 L t:Int) (p kp:Nat) (l2:Bool) (sg:Int) (w:World) (_:Num w a n m) (_:Bl m k) (_:k≤1000000) (_:-4294967296≤x∧x≤4294967296) (_:x+(k:Int) - 1 - (F:Int) = fr0) (_:1 - (B:Int) - (F:Int) = L) (_:max fr0 L = t) (_:Hid (∀ W:World,Num W a n m→Calls Tryz.prog 69 #[.agg #[.bool s,.slice a n cap,.int .i64 x,.bool mo],.int .i64 t,.int .u8 md] W fun e w'=>(∃ A N C,e = .returned (.tuple #[.agg #[.slice A N C],.bool true])∧Mine w' W.heap.size A N C (q))∧Below W.heap.size W w')) (_:Hid (∀ (W:World) (A:Option Addr) (N C:Nat),Num W A N q→Calls Tryz.prog 70 #[.agg #[.int .i64 E,.int .i64 F],.agg #[.slice A N C],.int .i64 t] W fun e w'=>e = .returned (.bool false)∧Below W.heap.size W w')) (_:Hid (∀ W:World,Num W a n m→Calls Tryz.prog 69 #[.agg #[.bool s,.slice a n cap,.int .i64 x,.bool mo],.int .i64 fr0,.int .u8 md] W fun e w'=>(∃ A N C,e = .returned (.tuple #[.agg #[.slice A N C],.bool l2])∧Mine w' W.heap.size A N C (p))∧Below W.heap.size W w')) (_:Hid (Bl p kp)) (_:kp≤1000000) (_:(kp:Int)+fr0≤1 - (B:Int)) (_:q = 0) (_:Tel 24 #[.agg #[.int .i64 E,.int .i64 F],.bool s] (.int .u64 sg)),
  Calls Tryz.prog 50 #[.agg #[.int .i64 E,.int .i64 F],.agg #[.bool s,.slice a n cap,.int .i64 x,.bool mo],.int .u8 md] w fun e w'=>e = .returned (.tuple #[.int .u64 sg,.int .u8 5])∧Below w.heap.size w w'):=by
 refine ⟨fun E F B h0 HBi s a n cap m x mo md k q fr0 L t p kp l2 sg w h hk hk2 hx hf0 hL ht HR HV HP hkp hkp2 hu hq HSg=>?_,fun E F B h0 HBi s a n cap m x mo md k q fr0 L t p kp l2 sg w h hk hk2 hx hf0 hL ht HR HV HP hkp hkp2 hu hq HSg=>?_⟩ <;> (
  have H:=hide h
  have HK:=hide hk
  have hF:=h0.f52
  have hBl:B≤1023:=B_le h0 HBi
  clear h hk
  go_enter Tryz.func50,Tryz.ntmps50
  go_wp2_with fail
  refine (rbits_k a n cap m k _ ((unhide H).kept (Fs.two w _ _ _ _).fr) (unhide HK)).mono ?_
  rintro e w1 ⟨rfl,hb1⟩
  have hS:=(Fs.two w _ _ _ _).kept hb1
  obtain ⟨⟨ya,yb,-⟩,⟨yc,yd,ye,yf,-⟩,-⟩:=hS.cells
  go_wp2_with fail
  refine wp_region_any (by kernel_rfl) ?_
  refine wpAny_det [some (37,.agg #[.int .i64 E,.int .i64 F]),some (38,.int .i64 (B:Int)),some (39,.int .i64 (1 - (B:Int))),some (40,.pointer (some ⟨w.heap.size,1,none⟩)),some (41,.int .i64 F),some (42,.int .i64 L),some (11,.int .i64 L)]
   (fun _ W9=>Fs w W9 [⟨w.heap.size,#[.int .i64 E,.int .i64 F],23⟩,⟨w.heap.size+1,#[.bool s,.slice a n cap,.int .i64 x,.bool mo],101⟩]) _ _ rfl (by kernel_rfl) rfl rfl ?_ ?_ (hS).drew
  ·intro l9 t9 W9 i9 hD hi9 hl9 hM
   obtain ⟨o9,ho9,hd9⟩:=(mem_ready.1 hi9).2
   have hin9:i9 < 7:=by
    by_cases h:i9 < 7
    ·exact h
    ·rw [Array.getElem?_eq_none (by rw [hD.len]; simp; omega)] at hl9; cases hl9
   have hcase:i9 = 0∨i9 = 1∨i9 = 2∨i9 = 3∨i9 = 4∨i9 = 5∨i9 = 6:=by omega
   clear hin9
   rcases hcase with rfl|rfl|rfl|rfl|rfl|rfl|rfl
   ·cases ho9
    have r3:=hD.old 3 _ rfl rfl
    have hM0:=hM
    have Q_:=hM0.cellAt (b:=w.heap.size) (cs:=#[.int .i64 E,.int .i64 F]) (t:=23) (by simp)
    have c9_0:=Q_ 0 _ rfl
    have c9_1:=Q_ 1 _ rfl
    clear Q_
    clear hM0
    refine wpOp_step rfl fun K hK=>?_
    go_simp
    exact hK _ _ ⟨rfl,hM⟩
   ·cases ho9
    have r37:=hD.od hd9 0 37 _ rfl (by simp)
    refine wpOp_step rfl fun K hK=>?_
    go_simp
    go_wp2_with fail
    refine (rbias4_any E F B h0 HBi _).mono ?_
    rintro en w9 ⟨rfl,hb9⟩
    exact hK _ _ ⟨rfl,hM.kept hb9⟩
   ·cases ho9
    have r38:=hD.od hd9 1 38 _ rfl (by simp)
    refine wpOp_step rfl fun K hK=>?_
    go_simp
    exact hK _ _ ⟨act_eq (by (show Value.int _ _ = Value.int _ _; congr 1; (first|rfl|omega|(rw [IntKind.wrap_i64]; omega)|(rw [IntKind.wrap_u64]; omega)))),hM⟩
   ·cases ho9
    have r3:=hD.old 3 _ rfl rfl
    refine wpOp_step rfl fun K hK=>?_
    go_simp
    exact hK _ _ ⟨rfl,hM⟩
   ·cases ho9
    have r40:=hD.od hd9 3 40 _ rfl (by simp)
    have hM0:=hM
    have c9_0:=hM0.cellAt (b:=w.heap.size) (cs:=#[.int .i64 E,.int .i64 F]) (t:=23) (by simp) 1 _ rfl
    clear hM0
    refine wpOp_step rfl fun K hK=>?_
    go_simp
    exact hK _ _ ⟨rfl,hM⟩
   ·cases ho9
    have r39:=hD.od hd9 2 39 _ rfl (by simp)
    have r41:=hD.od hd9 4 41 _ rfl (by simp)
    refine wpOp_step rfl fun K hK=>?_
    go_simp
    exact hK _ _ ⟨act_eq (by (show Value.int _ _ = Value.int _ _; congr 1; (first|rfl|omega|(rw [IntKind.wrap_i64]; omega)|(rw [IntKind.wrap_u64]; omega)))),hM⟩
   ·cases ho9
    have r42:=hD.od hd9 5 42 _ rfl (by simp)
    refine wpOp_step rfl fun K hK=>?_
    go_simp
    exact hK _ _ ⟨rfl,hM⟩
  ·intro l9 W9 hl9 hM
   clear hS ya yb yc yd ye yf
   have hS:=hM
   clear hM
   simp only [Puts.lay,List.setIfInBounds_toArray,List.set_cons_zero,List.set_cons_succ]
   obtain ⟨⟨yg,yh,-⟩,⟨yi,yj,yk,yl,-⟩,-⟩:=hS.cells
   go_wp2_with fail
   refine (unhide HR _ ((unhide H).kept hS.fr)).mono ?_
   rintro e w2 ⟨⟨A1,N1,C1,rfl,f1⟩,hb2⟩
   replace hS:=hS.kept hb2
   clear yg yh yi yj yk yl
   obtain ⟨⟨ym,yn,-⟩,⟨yo,yp,yq,yr,-⟩,-⟩:=hS.cells
   have G1:=hide f1
   clear f1
   have hltw2_0:w.heap.size < w2.heap.size:=hS.lt 0 rfl
   have hltw2_1:w.heap.size+1 < w2.heap.size:=hS.lt 1 rfl
   obtain ⟨WV1,hWV1⟩:∃ WV1,w2.alloc (.cells #[.slice A1 N1 C1] 44) = WV1:=⟨_,rfl⟩
   replace hS:=hS.alloc #[.slice A1 N1 C1] 44
   rw [hWV1] at hS
   replace G1:=hide (hWV1▸(unhide G1).alloc (.cells #[.slice A1 N1 C1] 44))
   clear ym yn yo yp yq yr
   obtain ⟨⟨ys,-⟩,⟨yt,yu,-⟩,⟨yv,yw,yx,yy,-⟩,-⟩:=hS.cells
   go_wp2_with fail
   refine (unhide HV _ _ _ _ (unhide G1).num).mono ?_
   rintro e w3 ⟨rfl,hb3⟩
   replace hS:=hS.kept hb3
   clear ys yt yu yv yw yx yy
   obtain ⟨⟨yz,-⟩,⟨y0,y1,-⟩,⟨y2,y3,y4,y5,-⟩,-⟩:=hS.cells
   replace G1:=hide ((unhide G1).kept hb3)
   go_wp2_with fail
   refine (unhide HP _ ((unhide H).kept hS.fr)).mono ?_
   rintro e w4 ⟨⟨A2,N2,C2,rfl,f2⟩,hb4⟩
   replace hS:=hS.kept hb4
   clear yz y0 y1 y2 y3 y4 y5
   obtain ⟨⟨y6,-⟩,⟨y7,y8,-⟩,⟨y9,yba,ybb,ybc,-⟩,-⟩:=hS.cells
   replace G1:=hide ((unhide G1).kept hb4)
   have G2:=hide f2
   clear f2
   have hltw4_0:w2.heap.size < w4.heap.size:=hS.lt 0 rfl
   have hltw4_1:w.heap.size < w4.heap.size:=hS.lt 1 rfl
   have hltw4_2:w.heap.size+1 < w4.heap.size:=hS.lt 2 rfl
   obtain ⟨WV2,hWV2⟩:∃ WV2,w4.alloc (.cells #[.slice A2 N2 C2] 44) = WV2:=⟨_,rfl⟩
   replace hS:=hS.alloc #[.slice A2 N2 C2] 44
   rw [hWV2] at hS
   replace G1:=hide (hWV2▸(unhide G1).alloc (.cells #[.slice A2 N2 C2] 44))
   replace G2:=hide (hWV2▸(unhide G2).alloc (.cells #[.slice A2 N2 C2] 44))
   clear y6 y7 y8 y9 yba ybb ybc
   obtain ⟨⟨ybd,-⟩,⟨ybe,-⟩,⟨ybf,ybg,-⟩,⟨ybh,ybi,ybj,ybk,-⟩,-⟩:=hS.cells
   go_wp2_with fail
   refine (rbits_k A2 N2 C2 p kp _ (unhide G2).num (unhide hkp)).mono ?_
   rintro e w5 ⟨rfl,hb5⟩
   replace hS:=hS.kept hb5
   clear ybd ybe ybf ybg ybh ybi ybj ybk
   obtain ⟨⟨ybl,-⟩,⟨ybm,-⟩,⟨ybn,ybo,-⟩,⟨ybp,ybq,ybr,ybs,-⟩,-⟩:=hS.cells
   replace G1:=hide ((unhide G1).kept hb5)
   replace G2:=hide ((unhide G2).kept hb5)
   clear G2
   go_wp2_with fail
   refine (rbias4_any E F B h0 HBi _).mono ?_
   rintro e w6 ⟨rfl,hb6⟩
   replace hS:=hS.kept hb6
   clear ybl ybm ybn ybo ybp ybq ybr ybs
   obtain ⟨⟨ybt,-⟩,⟨ybu,-⟩,⟨ybv,ybw,-⟩,⟨ybx,yby,ybz,yb0,-⟩,-⟩:=hS.cells
   replace G1:=hide ((unhide G1).kept hb6)
   obtain rfl:N1 = 0:=by have:=(unhide G1).num.zero; omega
   clear G1
   go_wp2_with fail
   refine (HSg _).mono ?_
   rintro e w7 ⟨rfl,hb7⟩
   replace hS:=hS.kept hb7
   clear ybt ybu ybv ybw ybx yby ybz yb0
   obtain ⟨⟨yb1,-⟩,⟨yb2,-⟩,⟨yb3,yb4,-⟩,⟨yb5,yb6,yb7,yb8,-⟩,-⟩:=hS.cells
   go_wp2
   go_ret2
   exact ⟨rfl,hS.fr⟩)
end Go.Proofs.YtfimakkpdjppfaaGreatDoor
