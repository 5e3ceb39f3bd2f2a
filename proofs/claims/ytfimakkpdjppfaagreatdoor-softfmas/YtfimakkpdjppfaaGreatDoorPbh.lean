/- Of what SoftFmasRow stands on: ExRVal2 NrVB SfRef SfNans SxNl SfAsk SfNans3. -/
import Derived.Test.YtfimakkpdjppfaaGreatDoorPbd
import Derived.Test.YtfimakkpdjppfaaGreatDoorPbb
import Derived.Test.YtfimakkpdjppfaaGreatDoorPaf
import Derived.Test.YtfimakkpdjppfaaGreatDoorPba
namespace Go.Proofs.YtfimakkpdjppfaaGreatDoor
open Go.RowKit
set_option maxHeartbeats 4000000
set_option maxRecDepth 20000
theorem top_wrap {E t:Nat} (h:E≤11) (ht:t = 2 ^ E - 1):wrap64 (wrap64 (2 ^ E) - 1) = (t:Int):=by
 have h1:=pow_bound h
 have h2:=pow_pos2 E
 rw [show ((2:Int) ^ E) = ((2 ^ E:Nat):Int) from by simp,ht]
 generalize 2 ^ E = p at *
 unfold wrap64
 omega
theorem top_ne {E t ex:Nat} (ht:t = 2 ^ E - 1) (h:ex+1 < 2 ^ E):((ex:Int) == (t:Int)) = false:=by
 generalize 2 ^ E = p at *
 simp; omega
theorem two_lt {E:Nat} (h:2≤E):0+1 < 2 ^ E:=by
 have:2 ^ 2≤2 ^ E:=Nat.pow_le_pow_right (by decide) h
 omega
theorem rmay_ok (E F b:Nat) (h0:Fo E F) (hb:b < 2 ^ (F+E+1)) (w:World) :
  Calls Tryz.prog 21 #[.agg #[.int .i64 E,.int .i64 F],.int .u64 b] w fun e w'=>e = .returned (.int .i64 0)∧Below w.heap.size w w':=by
 by_cases hs:E+F < 63
 ·exact rmay_few E F b (F+E+1) h0 (by omega) hs hb w
 ·exact rmay_long E F b h0 (by omega) w
theorem rmay_over (E F b:Nat) (h0:Fo E F) (hb:2 ^ (F+E+1)≤b) (hb64:b < 18446744073709551616) (w:World) :
  Calls Tryz.prog 21 #[.agg #[.int .i64 E,.int .i64 F],.int .u64 b] w fun e w'=>e = .returned (.int .i64 6)∧Below w.heap.size w w':=by
 have hs:E+F < 63:=by
  refine Nat.lt_of_not_le fun h=>?_
  have:(2:Nat) ^ 64≤2 ^ (F+E+1):=Nat.pow_le_pow_right (by decide) (by omega)
  omega
 exact rmay_many E F b (F+E+1) h0 (by omega) hs hb w
theorem rmake_zero (s:Bool) (a:Option Addr) (n cap:Nat) (x:Int) (w:World) (h:Num w a n 0) :
  Calls Tryz.prog 28 #[.bool s,.agg #[.slice a n cap],.int .i64 x] w fun e w'=>(∃ A N C,e = .returned (.tuple #[.agg #[.bool false,.slice A N C,.int .i64 0],.int .i64 0])∧Mine w' w.heap.size A N C 0)∧Below w.heap.size w w':=by
 obtain rfl:=h.zero.2 rfl
 exact dans_nil (rmake_nought s a cap x w h)
theorem rValue_zero (E F B b:Nat) (s:Bool) (h0:Fo E F) (HBi:Hid (B = 2 ^ (E - 1) - 1)) (hB:Bt E F b s 0 0) (w:World)  :
  Calls Tryz.prog 23 #[.agg #[.int .i64 E,.int .i64 F],.int .u64 b] w fun e w'=>(∃ A N C,e = .returned (.tuple #[.agg #[.bool false,.slice A N C,.int .i64 0],.int .i64 0])∧Mine w' w.heap.size A N C 0)∧Below w.heap.size w w':=by
 have hF1:=h0.f1
 have hF:=h0.f52
 have hE2:=h0.e2
 have hE:=h0.e11
 have H0:=hide h0
 have HB:=hide hB
 have hBl:B≤1023:=B_le h0 HBi
 obtain ⟨tE,htE⟩:∃ t,t = 2 ^ E - 1:=⟨_,rfl⟩
 have wE:=top_wrap (t:=tE) hE htE
 have hxe:((0:Int) == (tE:Int)) = false:=top_ne (ex:=0) htE (two_lt hE2)
 clear h0 hB htE
 go_enter Tryz.func23,Tryz.ntmps23
 go_wp2_with fail
 refine (rmay_ok _ _ _ (unhide H0) (unhide HB).lt _).mono ?_
 rintro e w1 ⟨rfl,hb1⟩
 have hS:=(Fs.two w _ _ _ _).kept hb1
 obtain ⟨⟨ya,yb,-⟩,⟨yc,yd,ye,-⟩,-⟩:=hS.cells
 go_wp2_with fail
 refine (rFields_any E F b 0 0 (E+F) s (unhide H0) (unhide HB) rfl _).mono ?_
 rintro e w2 ⟨rfl,hb2⟩
 replace hS:=hS.kept hb2
 clear ya yb yc yd ye
 obtain ⟨⟨yf,yg,-⟩,⟨yh,yi,yj,-⟩,-⟩:=hS.cells
 go_wp2_with fail
 have hS3s:w.heap.size≤w2.heap.size:=hS.size
 have hs9:∀ x9:Nat×(Pk→World→Prop),x9∈([(2,fun q W=>Mine W w2.heap.size q.A q.N q.C 0),(9,fun q W=>Mine W w2.heap.size q.A q.N q.C 0)]:List (Nat×(Pk→World→Prop)))→∀ q9:Pk,St w2.heap.size (x9.2 q9):=by
  intro x hx q
  simp only [List.mem_cons,List.not_mem_nil,or_false] at hx
  rcases hx with rfl|rfl
  ·exact st_mine _ _ _ _ _
  ·exact st_mine _ _ _ _ _
 have h09:∀ x9:Nat×(Pk→World→Prop),x9∈([(2,fun q W=>Mine W w2.heap.size q.A q.N q.C 0),(9,fun q W=>Mine W w2.heap.size q.A q.N q.C 0)]:List (Nat×(Pk→World→Prop)))→14≤x9.1→x9.2 ⟨none,0,0⟩ w2:=by
  intro x hx hn9
  simp only [List.mem_cons,List.not_mem_nil,or_false] at hx
  rcases hx with rfl|rfl
  ·exact absurd hn9 (by simp)
  ·exact absurd hn9 (by simp)
 refine wp_region_any (by kernel_rfl) ?_
 refine wpAny_pick (fun p9=>[some (34,.bool s),some (35,.int .u64 0),some (36,.agg #[.slice (p9 2).A (p9 2).N (p9 2).C]),some (37,.agg #[.int .i64 E,.int .i64 F]),some (38,.int .i64 B),some (39,.int .i64 (1 - (B:Int))),some (40,.pointer (some ⟨w.heap.size,1,none⟩)),some (41,.int .i64 F),some (42,.int .i64 (1 - (B:Int) - (F:Int))),some (43,.tuple #[.agg #[.bool false,.slice (p9 9).A (p9 9).N (p9 9).C,.int .i64 0],.int .i64 0]),some (44,.agg #[.bool false,.slice (p9 9).A (p9 9).N (p9 9).C,.int .i64 0]),some (45,.int .i64 0),none,some (5,.int .i64 0)])
  (fun p9 l9 W9=>Pm w w2.heap.size [(2,fun q W=>Mine W w2.heap.size q.A q.N q.C 0),(9,fun q W=>Mine W w2.heap.size q.A q.N q.C 0)] p9 l9 W9 (pickBs l9 [(12,[⟨w.heap.size,#[.int .i64 E,.int .i64 F],23⟩,⟨w.heap.size+1,#[.bool false,.slice (p9 9).A (p9 9).N (p9 9).C,.int .i64 0],46⟩])] [⟨w.heap.size,#[.int .i64 E,.int .i64 F],23⟩,⟨w.heap.size+1,#[.bool false,.slice none 0 0,.int .i64 0],46⟩])) _ _ (fun _=>rfl) (by kernel_rfl) (fun _=>rfl) (fun _=>rfl) ?_ ?_ (fun _=>⟨none,0,0⟩) (Pm.start hS _ _ _ hs9 h09)
 ·intro p9 l9 t9 W9 i9 hD hi9 hl9 hM
  obtain ⟨o9,ho9,hd9⟩:=(mem_ready.1 hi9).2
  have hin9:i9 < 14:=by
   by_cases h:i9 < 14
   ·exact h
   ·rw [Array.getElem?_eq_none (by rw [hD.len]; simp; omega)] at hl9; cases hl9
  have hcase:i9 = 0∨i9 = 1∨i9 = 2∨i9 = 3∨i9 = 4∨i9 = 5∨i9 = 6∨i9 = 7∨i9 = 8∨i9 = 9∨i9 = 10∨i9 = 11∨i9 = 12∨i9 = 13:=by omega
  clear hin9
  rcases hcase with rfl|rfl|rfl|rfl|rfl|rfl|rfl|rfl|rfl|rfl|rfl|rfl|rfl|rfl
  ·cases ho9
   have r7:=hD.old 7 _ rfl rfl
   refine wpOp_step rfl fun K hK=>?_
   go_simp
   exact hK _ _ ⟨p9,fun _ _=>rfl,rfl,(Pm.keepM rfl (hM.val rfl))⟩
  ·cases ho9
   have r9:=hD.old 9 _ rfl rfl
   refine wpOp_step rfl fun K hK=>?_
   go_simp
   exact hK _ _ ⟨p9,fun _ _=>rfl,rfl,(Pm.keepM rfl (hM.val rfl))⟩
  ·cases ho9
   have r35:=hD.od hd9 1 35 _ rfl (by simp)
   have hM0:Fs w W9 [⟨w.heap.size,#[.int .i64 E,.int .i64 F],23⟩,⟨w.heap.size+1,#[.bool false,.slice none 0 0,.int .i64 0],46⟩]:=by
    have hM1:=hM.st
    simp only [pickBs] at hM1
    rw [if_neg (hD.waits 2 12 _ ⟨2,.phase⟩ hl9 rfl (by simp) rfl rfl)] at hM1
    exact hM1
   have HD:=hide hD
   have hn12:=hD.waits 2 12 _ ⟨2,.phase⟩ hl9 rfl (by simp) rfl rfl
   refine wpOp_step rfl fun K hK=>?_
   go_simp
   go_wp2_with fail
   refine (rof_any 0 _ (by decide)).mono ?_
   rintro en w9 ⟨⟨a9,n9,c9,rfl,h9⟩,hb9⟩
   refine hK _ _ ⟨p9.set 2 ⟨a9,n9,c9⟩,?_,rfl,(Pm.keepM rfl (((hM.kept hs9 hb9).pick ⟨a9,n9,c9⟩ ?_).into (by simp only [pickBs]; rw [if_neg hn12,if_neg hn12])))⟩
   ·intro k9 hk9
    clear hM hK
    match k9,hk9 with
    | 0,_=>rfl
    | 1,_=>rfl
    | 2,hk9=>exact absurd (hl9.symm.trans hk9) (by simp)
    | 3,_=>rfl
    | 4,hk9=>exact absurd (hl9.symm.trans (getD_true ((unhide HD).shut 4 _ (hk9) rfl ⟨2,.chain⟩ (by simp) rfl))) (by simp)
    | 5,hk9=>exact absurd (hl9.symm.trans (getD_true ((unhide HD).shut 4 _ (getD_true ((unhide HD).shut 5 _ (hk9) rfl ⟨4,.data⟩ (by simp) rfl)) rfl ⟨2,.chain⟩ (by simp) rfl))) (by simp)
    | 6,_=>rfl
    | 7,_=>rfl
    | 8,hk9=>exact absurd (hl9.symm.trans (getD_true ((unhide HD).shut 4 _ (getD_true ((unhide HD).shut 5 _ (getD_true ((unhide HD).shut 8 _ (hk9) rfl ⟨5,.data⟩ (by simp) rfl)) rfl ⟨4,.data⟩ (by simp) rfl)) rfl ⟨2,.chain⟩ (by simp) rfl))) (by simp)
    | 9,hk9=>exact absurd (hl9.symm.trans (getD_true ((unhide HD).shut 9 _ (hk9) rfl ⟨2,.data⟩ (by simp) rfl))) (by simp)
    | 10,hk9=>exact absurd (hl9.symm.trans (getD_true ((unhide HD).shut 9 _ (getD_true ((unhide HD).shut 10 _ (hk9) rfl ⟨9,.data⟩ (by simp) rfl)) rfl ⟨2,.data⟩ (by simp) rfl))) (by simp)
    | 11,hk9=>exact absurd (hl9.symm.trans (getD_true ((unhide HD).shut 9 _ (getD_true ((unhide HD).shut 11 _ (hk9) rfl ⟨9,.data⟩ (by simp) rfl)) rfl ⟨2,.data⟩ (by simp) rfl))) (by simp)
    | 12,hk9=>exact absurd (hl9.symm.trans (getD_true ((unhide HD).shut 12 _ (hk9) rfl ⟨2,.phase⟩ (by simp) rfl))) (by simp)
    | 13,hk9=>exact absurd (hl9.symm.trans (getD_true ((unhide HD).shut 13 _ (hk9) rfl ⟨2,.phase⟩ (by simp) rfl))) (by simp)
    | k9+14,_=>rfl
   ·intro x hx he; simp only [List.mem_cons,List.not_mem_nil,or_false] at hx; rcases hx with rfl|rfl
    ·exact h9.mono hM.bw
    ·exact absurd he (by simp)
  ·cases ho9
   have r2:=hD.old 2 _ rfl rfl
   have hM0:Fs w W9 [⟨w.heap.size,#[.int .i64 E,.int .i64 F],23⟩,⟨w.heap.size+1,#[.bool false,.slice none 0 0,.int .i64 0],46⟩]:=by
    have hM1:=hM.st
    simp only [pickBs] at hM1
    rw [if_neg (hD.waits 3 12 _ ⟨3,.phase⟩ hl9 rfl (by simp) rfl rfl)] at hM1
    exact hM1
   have Q_:=hM0.cellAt (b:=w.heap.size) (cs:=#[.int .i64 E,.int .i64 F]) (t:=23) (by simp)
   have c9_0:=Q_ 0 _ rfl
   have c9_1:=Q_ 1 _ rfl
   clear Q_
   clear hM0
   refine wpOp_step rfl fun K hK=>?_
   go_simp
   exact hK _ _ ⟨p9,fun _ _=>rfl,rfl,(Pm.keepM rfl (hM.val rfl))⟩
  ·cases ho9
   have r37:=hD.od hd9 3 37 _ rfl (by simp)
   have g2:=hM.fx _ (List.mem_of_getElem? (i:=0) rfl) (Or.inl (getD_true (hd9 ⟨2,.chain⟩ (by simp) rfl)))
   simp only [] at g2
   have hM0:Fs w W9 [⟨w.heap.size,#[.int .i64 E,.int .i64 F],23⟩,⟨w.heap.size+1,#[.bool false,.slice none 0 0,.int .i64 0],46⟩]:=by
    have hM1:=hM.st
    simp only [pickBs] at hM1
    rw [if_neg (hD.waits 4 12 _ ⟨4,.phase⟩ hl9 rfl (by simp) rfl rfl)] at hM1
    exact hM1
   refine wpOp_step rfl fun K hK=>?_
   go_simp
   go_wp2_with fail
   refine (rbias4_any E F B (unhide H0) HBi _).mono ?_
   rintro en w9 ⟨rfl,hb9⟩
   exact hK _ _ ⟨p9,fun _ _=>rfl,rfl,(Pm.keepM rfl ((hM.kept hs9 hb9).val rfl))⟩
  ·cases ho9
   have r38:=hD.od hd9 4 38 _ rfl (by simp)
   refine wpOp_step rfl fun K hK=>?_
   go_simp
   exact hK _ _ ⟨p9,fun _ _=>rfl,act_eq (by (first|rfl|(show Value.int _ _ = Value.int _ _; congr 1; (first|rfl|omega|(rw [IntKind.wrap_i64]; omega)|(rw [IntKind.wrap_u64]; omega))))),(Pm.keepM rfl (hM.val rfl))⟩
  ·cases ho9
   have r2:=hD.old 2 _ rfl rfl
   refine wpOp_step rfl fun K hK=>?_
   go_simp
   exact hK _ _ ⟨p9,fun _ _=>rfl,rfl,(Pm.keepM rfl (hM.val rfl))⟩
  ·cases ho9
   have r40:=hD.od hd9 6 40 _ rfl (by simp)
   have hM0:Fs w W9 [⟨w.heap.size,#[.int .i64 E,.int .i64 F],23⟩,⟨w.heap.size+1,#[.bool false,.slice none 0 0,.int .i64 0],46⟩]:=by
    have hM1:=hM.st
    simp only [pickBs] at hM1
    rw [if_neg (hD.waits 7 12 _ ⟨7,.phase⟩ hl9 rfl (by simp) rfl rfl)] at hM1
    exact hM1
   have c9_0:=hM0.cellAt (b:=w.heap.size) (cs:=#[.int .i64 E,.int .i64 F]) (t:=23) (by simp) 1 _ rfl
   clear hM0
   refine wpOp_step rfl fun K hK=>?_
   go_simp
   exact hK _ _ ⟨p9,fun _ _=>rfl,rfl,(Pm.keepM rfl (hM.val rfl))⟩
  ·cases ho9
   have r39:=hD.od hd9 5 39 _ rfl (by simp)
   have r41:=hD.od hd9 7 41 _ rfl (by simp)
   refine wpOp_step rfl fun K hK=>?_
   go_simp
   exact hK _ _ ⟨p9,fun _ _=>rfl,act_eq (by (first|rfl|(show Value.int _ _ = Value.int _ _; congr 1; (first|rfl|omega|(rw [IntKind.wrap_i64]; omega)|(rw [IntKind.wrap_u64]; omega))))),(Pm.keepM rfl (hM.val rfl))⟩
  ·cases ho9
   have r34:=hD.od hd9 0 34 _ rfl (by simp)
   have r36:=hD.od hd9 2 36 _ rfl (by simp)
   have r42:=hD.od hd9 8 42 _ rfl (by simp)
   have g2:=hM.fx _ (List.mem_of_getElem? (i:=0) rfl) (Or.inl (getD_true (hd9 ⟨2,.data⟩ (by simp) rfl)))
   simp only [] at g2
   have hM0:Fs w W9 [⟨w.heap.size,#[.int .i64 E,.int .i64 F],23⟩,⟨w.heap.size+1,#[.bool false,.slice none 0 0,.int .i64 0],46⟩]:=by
    have hM1:=hM.st
    simp only [pickBs] at hM1
    rw [if_neg (hD.waits 9 12 _ ⟨9,.chain⟩ hl9 rfl (by simp) rfl rfl)] at hM1
    exact hM1
   have HD:=hide hD
   have hn12:=hD.waits 9 12 _ ⟨9,.chain⟩ hl9 rfl (by simp) rfl rfl
   refine wpOp_step rfl fun K hK=>?_
   go_simp
   go_wp2_with fail
   refine (rmake_zero s (p9 2).A (p9 2).N (p9 2).C (1 - (B:Int) - (F:Int)) _ g2.num).mono ?_
   rintro en w9 ⟨⟨a9,n9,c9,rfl,h9⟩,hb9⟩
   refine hK _ _ ⟨p9.set 9 ⟨a9,n9,c9⟩,?_,rfl,(Pm.keepM rfl (((hM.kept hs9 hb9).pick ⟨a9,n9,c9⟩ ?_).into (by simp only [pickBs]; rw [if_neg hn12,if_neg hn12])))⟩
   ·intro k9 hk9
    clear hM hK
    match k9,hk9 with
    | 0,_=>rfl
    | 1,_=>rfl
    | 2,_=>rfl
    | 3,_=>rfl
    | 4,_=>rfl
    | 5,_=>rfl
    | 6,_=>rfl
    | 7,_=>rfl
    | 8,_=>rfl
    | 9,hk9=>exact absurd (hl9.symm.trans hk9) (by simp)
    | 10,hk9=>exact absurd (hl9.symm.trans (getD_true ((unhide HD).shut 10 _ (hk9) rfl ⟨9,.data⟩ (by simp) rfl))) (by simp)
    | 11,hk9=>exact absurd (hl9.symm.trans (getD_true ((unhide HD).shut 11 _ (hk9) rfl ⟨9,.data⟩ (by simp) rfl))) (by simp)
    | 12,hk9=>exact absurd (hl9.symm.trans (getD_true ((unhide HD).shut 12 _ (hk9) rfl ⟨9,.chain⟩ (by simp) rfl))) (by simp)
    | 13,hk9=>exact absurd (hl9.symm.trans (getD_true ((unhide HD).shut 13 _ (hk9) rfl ⟨9,.phase⟩ (by simp) rfl))) (by simp)
    | k9+14,_=>rfl
   ·intro x hx he; simp only [List.mem_cons,List.not_mem_nil,or_false] at hx; rcases hx with rfl|rfl
    ·exact absurd he (by simp)
    ·exact h9.mono hM.bw
  ·cases ho9
   have r43:=hD.od hd9 9 43 _ rfl (by simp)
   refine wpOp_step rfl fun K hK=>?_
   go_simp
   exact hK _ _ ⟨p9,fun _ _=>rfl,rfl,(Pm.keepM rfl (hM.val rfl))⟩
  ·cases ho9
   have r43:=hD.od hd9 9 43 _ rfl (by simp)
   refine wpOp_step rfl fun K hK=>?_
   go_simp
   exact hK _ _ ⟨p9,fun _ _=>rfl,rfl,(Pm.keepM rfl (hM.val rfl))⟩
  ·cases ho9
   have r4:=hD.old 4 _ rfl rfl
   have r44:=hD.od hd9 10 44 _ rfl (by simp)
   have hM0:Fs w W9 [⟨w.heap.size,#[.int .i64 E,.int .i64 F],23⟩,⟨w.heap.size+1,#[.bool false,.slice none 0 0,.int .i64 0],46⟩]:=by
    have hM1:=hM.st
    simp only [pickBs] at hM1
    rw [if_neg (by rw [hl9]; simp)] at hM1
    exact hM1
   have c9_0:=hM0.cellAt (b:=w.heap.size+1) (cs:=#[.bool false,.slice none 0 0,.int .i64 0]) (t:=46) (by simp) 0 _ rfl
   have z9_0:=hM0.frozen (b:=w.heap.size+1) (cs:=#[.bool false,.slice none 0 0,.int .i64 0]) (t:=46) (by simp) 0
   have c9_1:=hM0.cellAt (b:=w.heap.size+1) (cs:=#[.bool false,.slice none 0 0,.int .i64 0]) (t:=46) (by simp) 1 _ rfl
   have z9_1:=hM0.frozen (b:=w.heap.size+1) (cs:=#[.bool false,.slice none 0 0,.int .i64 0]) (t:=46) (by simp) 1
   have c9_2:=hM0.cellAt (b:=w.heap.size+1) (cs:=#[.bool false,.slice none 0 0,.int .i64 0]) (t:=46) (by simp) 2 _ rfl
   have z9_2:=hM0.frozen (b:=w.heap.size+1) (cs:=#[.bool false,.slice none 0 0,.int .i64 0]) (t:=46) (by simp) 2
   refine wpOp_step rfl fun K hK=>?_
   go_simp
   exact hK _ _ ⟨p9,fun _ _=>rfl,rfl,Pm.putM hl9 ((((hM.val rfl).put hs9 _ _ (block_lt (hS.bx _ (List.mem_of_getElem? (i:=1) rfl))) (hM0.put (b:=w.heap.size+1) (cs:=#[.bool false,.slice none 0 0,.int .i64 0]) (t:=46) (by simp) (by simp) 0 (.bool false) [⟨w.heap.size,#[.int .i64 E,.int .i64 F],23⟩,⟨w.heap.size+1,#[.bool false,.slice none 0 0,.int .i64 0],46⟩] (by simp <;> omega))).put hs9 _ _ (block_lt (hS.bx _ (List.mem_of_getElem? (i:=1) rfl))) ((hM0.put (b:=w.heap.size+1) (cs:=#[.bool false,.slice none 0 0,.int .i64 0]) (t:=46) (by simp) (by simp) 0 (.bool false) [⟨w.heap.size,#[.int .i64 E,.int .i64 F],23⟩,⟨w.heap.size+1,#[.bool false,.slice none 0 0,.int .i64 0],46⟩] (by simp <;> omega)).put (b:=w.heap.size+1) (cs:=#[.bool false,.slice none 0 0,.int .i64 0]) (t:=46) (by simp) (by simp) 1 (.slice (p9 9).A (p9 9).N (p9 9).C) [⟨w.heap.size,#[.int .i64 E,.int .i64 F],23⟩,⟨w.heap.size+1,#[.bool false,.slice (p9 9).A (p9 9).N (p9 9).C,.int .i64 0],46⟩] (by simp <;> omega))).put hs9 _ _ (block_lt (hS.bx _ (List.mem_of_getElem? (i:=1) rfl))) (((hM0.put (b:=w.heap.size+1) (cs:=#[.bool false,.slice none 0 0,.int .i64 0]) (t:=46) (by simp) (by simp) 0 (.bool false) [⟨w.heap.size,#[.int .i64 E,.int .i64 F],23⟩,⟨w.heap.size+1,#[.bool false,.slice none 0 0,.int .i64 0],46⟩] (by simp <;> omega)).put (b:=w.heap.size+1) (cs:=#[.bool false,.slice none 0 0,.int .i64 0]) (t:=46) (by simp) (by simp) 1 (.slice (p9 9).A (p9 9).N (p9 9).C) [⟨w.heap.size,#[.int .i64 E,.int .i64 F],23⟩,⟨w.heap.size+1,#[.bool false,.slice (p9 9).A (p9 9).N (p9 9).C,.int .i64 0],46⟩] (by simp <;> omega)).put (b:=w.heap.size+1) (cs:=#[.bool false,.slice (p9 9).A (p9 9).N (p9 9).C,.int .i64 0]) (t:=46) (by simp) (by simp) 2 (.int .i64 0) [⟨w.heap.size,#[.int .i64 E,.int .i64 F],23⟩,⟨w.heap.size+1,#[.bool false,.slice (p9 9).A (p9 9).N (p9 9).C,.int .i64 0],46⟩] (by simp <;> omega)))⟩
  ·cases ho9
   have r45:=hD.od hd9 11 45 _ rfl (by simp)
   refine wpOp_step rfl fun K hK=>?_
   go_simp
   exact hK _ _ ⟨p9,fun _ _=>rfl,rfl,(Pm.keepM rfl (hM.val rfl))⟩
 ·intro p9 l9 W9 hn9 hl9 hM
  have fr8_2:=hM.fx _ (List.mem_of_getElem? (i:=0) rfl) (Or.inl (hl9 2 (by decide)))
  have fr8_9:=hM.fx _ (List.mem_of_getElem? (i:=1) rfl) (Or.inl (hl9 9 (by decide)))
  replace hM:=hM.st
  simp only [pickBs] at hM
  rw [if_pos (hl9 12 (by decide))] at hM
  clear hl9 hs9 h09 hn9
  generalize p9 2 = q2 at *
  obtain ⟨Ar8_2,Nr8_2,Cr8_2⟩:=q2
  simp only [] at fr8_2
  generalize p9 9 = q9 at *
  obtain ⟨Ar8_9,Nr8_9,Cr8_9⟩:=q9
  simp only [] at fr8_9
  clear hS yf yg yh yi yj
  have hS:=hM
  clear hM
  simp only [Puts.lay,List.setIfInBounds_toArray,List.set_cons_zero,List.set_cons_succ]
  obtain ⟨⟨yk,yl,-⟩,⟨ym,yn,yo,-⟩,-⟩:=hS.cells
  have F9:=hide fr8_9
  clear fr8_9 fr8_2
  go_wp2
  exact bodyPost_ret (v:=.tuple #[.agg #[.bool false,.slice Ar8_9 Nr8_9 Cr8_9,.int .i64 0],.int .i64 0]) (by simp [results,Tryz.results23,go_sem,ym,yn,yo]) rfl ⟨⟨_,_,_,rfl,(unhide F9).mono (by have:=hS3s; omega)⟩,hS.fr⟩
theorem rValue_small (E F B b fr z:Nat) (s:Bool) (h0:Fo E F) (HBi:Hid (B = 2 ^ (E - 1) - 1)) (hB:Bt E F b s 0 fr) (w:World) (hf0:0 < fr) (hz:Tz fr z) (hz2:z≤52) :
  Calls Tryz.prog 23 #[.agg #[.int .i64 E,.int .i64 F],.int .u64 b] w fun e w'=>(∃ A N C,e = .returned (.tuple #[.agg #[.bool s,.slice A N C,.int .i64 ((1 - (B:Int) - (F:Int))+(z:Int))],.int .i64 0])∧Mine w' w.heap.size A N C (fr / 2 ^ z))∧Below w.heap.size w w':=by
 have hF1:=h0.f1
 have hF:=h0.f52
 have hE2:=h0.e2
 have hE:=h0.e11
 have hfrl:=hB.fr64 h0
 have H0:=hide h0
 have HB:=hide hB
 have hBl:B≤1023:=B_le h0 HBi
 obtain ⟨tE,htE⟩:∃ t,t = 2 ^ E - 1:=⟨_,rfl⟩
 have wE:=top_wrap (t:=tE) hE htE
 have hxe:((0:Int) == (tE:Int)) = false:=top_ne (ex:=0) htE (two_lt hE2)
 have HZ:=hide hz
 have HF0:=hide hf0
 clear h0 hB htE hz hf0
 go_enter Tryz.func23,Tryz.ntmps23
 go_wp2_with fail
 refine (rmay_ok _ _ _ (unhide H0) (unhide HB).lt _).mono ?_
 rintro e w1 ⟨rfl,hb1⟩
 have hS:=(Fs.two w _ _ _ _).kept hb1
 obtain ⟨⟨ya,yb,-⟩,⟨yc,yd,ye,-⟩,-⟩:=hS.cells
 go_wp2_with fail
 refine (rFields_any E F b 0 fr (E+F) s (unhide H0) (unhide HB) rfl _).mono ?_
 rintro e w2 ⟨rfl,hb2⟩
 replace hS:=hS.kept hb2
 clear ya yb yc yd ye
 obtain ⟨⟨yf,yg,-⟩,⟨yh,yi,yj,-⟩,-⟩:=hS.cells
 go_wp2_with fail
 have hS3s:w.heap.size≤w2.heap.size:=hS.size
 have hs9:∀ x9:Nat×(Pk→World→Prop),x9∈([(2,fun q W=>Mine W w2.heap.size q.A q.N q.C fr),(9,fun q W=>Mine W w2.heap.size q.A q.N q.C (fr / 2 ^ z))]:List (Nat×(Pk→World→Prop)))→∀ q9:Pk,St w2.heap.size (x9.2 q9):=by
  intro x hx q
  simp only [List.mem_cons,List.not_mem_nil,or_false] at hx
  rcases hx with rfl|rfl
  ·exact st_mine _ _ _ _ _
  ·exact st_mine _ _ _ _ _
 have h09:∀ x9:Nat×(Pk→World→Prop),x9∈([(2,fun q W=>Mine W w2.heap.size q.A q.N q.C fr),(9,fun q W=>Mine W w2.heap.size q.A q.N q.C (fr / 2 ^ z))]:List (Nat×(Pk→World→Prop)))→14≤x9.1→x9.2 ⟨none,0,0⟩ w2:=by
  intro x hx hn9
  simp only [List.mem_cons,List.not_mem_nil,or_false] at hx
  rcases hx with rfl|rfl
  ·exact absurd hn9 (by simp)
  ·exact absurd hn9 (by simp)
 refine wp_region_any (by kernel_rfl) ?_
 refine wpAny_pick (fun p9=>[some (34,.bool s),some (35,.int .u64 fr),some (36,.agg #[.slice (p9 2).A (p9 2).N (p9 2).C]),some (37,.agg #[.int .i64 E,.int .i64 F]),some (38,.int .i64 B),some (39,.int .i64 (1 - (B:Int))),some (40,.pointer (some ⟨w.heap.size,1,none⟩)),some (41,.int .i64 F),some (42,.int .i64 (1 - (B:Int) - (F:Int))),some (43,.tuple #[.agg #[.bool s,.slice (p9 9).A (p9 9).N (p9 9).C,.int .i64 ((1 - (B:Int) - (F:Int))+(z:Int))],.int .i64 0]),some (44,.agg #[.bool s,.slice (p9 9).A (p9 9).N (p9 9).C,.int .i64 ((1 - (B:Int) - (F:Int))+(z:Int))]),some (45,.int .i64 0),none,some (5,.int .i64 0)])
  (fun p9 l9 W9=>Pm w w2.heap.size [(2,fun q W=>Mine W w2.heap.size q.A q.N q.C fr),(9,fun q W=>Mine W w2.heap.size q.A q.N q.C (fr / 2 ^ z))] p9 l9 W9 (pickBs l9 [(12,[⟨w.heap.size,#[.int .i64 E,.int .i64 F],23⟩,⟨w.heap.size+1,#[.bool s,.slice (p9 9).A (p9 9).N (p9 9).C,.int .i64 ((1 - (B:Int) - (F:Int))+(z:Int))],46⟩])] [⟨w.heap.size,#[.int .i64 E,.int .i64 F],23⟩,⟨w.heap.size+1,#[.bool false,.slice none 0 0,.int .i64 0],46⟩])) _ _ (fun _=>rfl) (by kernel_rfl) (fun _=>rfl) (fun _=>rfl) ?_ ?_ (fun _=>⟨none,0,0⟩) (Pm.start hS _ _ _ hs9 h09)
 ·intro p9 l9 t9 W9 i9 hD hi9 hl9 hM
  obtain ⟨o9,ho9,hd9⟩:=(mem_ready.1 hi9).2
  have hin9:i9 < 14:=by
   by_cases h:i9 < 14
   ·exact h
   ·rw [Array.getElem?_eq_none (by rw [hD.len]; simp; omega)] at hl9; cases hl9
  have hcase:i9 = 0∨i9 = 1∨i9 = 2∨i9 = 3∨i9 = 4∨i9 = 5∨i9 = 6∨i9 = 7∨i9 = 8∨i9 = 9∨i9 = 10∨i9 = 11∨i9 = 12∨i9 = 13:=by omega
  clear hin9
  rcases hcase with rfl|rfl|rfl|rfl|rfl|rfl|rfl|rfl|rfl|rfl|rfl|rfl|rfl|rfl
  ·cases ho9
   have r7:=hD.old 7 _ rfl rfl
   refine wpOp_step rfl fun K hK=>?_
   go_simp
   exact hK _ _ ⟨p9,fun _ _=>rfl,rfl,(Pm.keepM rfl (hM.val rfl))⟩
  ·cases ho9
   have r9:=hD.old 9 _ rfl rfl
   refine wpOp_step rfl fun K hK=>?_
   go_simp
   exact hK _ _ ⟨p9,fun _ _=>rfl,rfl,(Pm.keepM rfl (hM.val rfl))⟩
  ·cases ho9
   have r35:=hD.od hd9 1 35 _ rfl (by simp)
   have hM0:Fs w W9 [⟨w.heap.size,#[.int .i64 E,.int .i64 F],23⟩,⟨w.heap.size+1,#[.bool false,.slice none 0 0,.int .i64 0],46⟩]:=by
    have hM1:=hM.st
    simp only [pickBs] at hM1
    rw [if_neg (hD.waits 2 12 _ ⟨2,.phase⟩ hl9 rfl (by simp) rfl rfl)] at hM1
    exact hM1
   have HD:=hide hD
   have hn12:=hD.waits 2 12 _ ⟨2,.phase⟩ hl9 rfl (by simp) rfl rfl
   refine wpOp_step rfl fun K hK=>?_
   go_simp
   go_wp2_with fail
   refine (rof_any fr _ (by omega)).mono ?_
   rintro en w9 ⟨⟨a9,n9,c9,rfl,h9⟩,hb9⟩
   refine hK _ _ ⟨p9.set 2 ⟨a9,n9,c9⟩,?_,rfl,(Pm.keepM rfl (((hM.kept hs9 hb9).pick ⟨a9,n9,c9⟩ ?_).into (by simp only [pickBs]; rw [if_neg hn12,if_neg hn12])))⟩
   ·intro k9 hk9
    clear hM hK
    match k9,hk9 with
    | 0,_=>rfl
    | 1,_=>rfl
    | 2,hk9=>exact absurd (hl9.symm.trans hk9) (by simp)
    | 3,_=>rfl
    | 4,hk9=>exact absurd (hl9.symm.trans (getD_true ((unhide HD).shut 4 _ (hk9) rfl ⟨2,.chain⟩ (by simp) rfl))) (by simp)
    | 5,hk9=>exact absurd (hl9.symm.trans (getD_true ((unhide HD).shut 4 _ (getD_true ((unhide HD).shut 5 _ (hk9) rfl ⟨4,.data⟩ (by simp) rfl)) rfl ⟨2,.chain⟩ (by simp) rfl))) (by simp)
    | 6,_=>rfl
    | 7,_=>rfl
    | 8,hk9=>exact absurd (hl9.symm.trans (getD_true ((unhide HD).shut 4 _ (getD_true ((unhide HD).shut 5 _ (getD_true ((unhide HD).shut 8 _ (hk9) rfl ⟨5,.data⟩ (by simp) rfl)) rfl ⟨4,.data⟩ (by simp) rfl)) rfl ⟨2,.chain⟩ (by simp) rfl))) (by simp)
    | 9,hk9=>exact absurd (hl9.symm.trans (getD_true ((unhide HD).shut 9 _ (hk9) rfl ⟨2,.data⟩ (by simp) rfl))) (by simp)
    | 10,hk9=>exact absurd (hl9.symm.trans (getD_true ((unhide HD).shut 9 _ (getD_true ((unhide HD).shut 10 _ (hk9) rfl ⟨9,.data⟩ (by simp) rfl)) rfl ⟨2,.data⟩ (by simp) rfl))) (by simp)
    | 11,hk9=>exact absurd (hl9.symm.trans (getD_true ((unhide HD).shut 9 _ (getD_true ((unhide HD).shut 11 _ (hk9) rfl ⟨9,.data⟩ (by simp) rfl)) rfl ⟨2,.data⟩ (by simp) rfl))) (by simp)
    | 12,hk9=>exact absurd (hl9.symm.trans (getD_true ((unhide HD).shut 12 _ (hk9) rfl ⟨2,.phase⟩ (by simp) rfl))) (by simp)
    | 13,hk9=>exact absurd (hl9.symm.trans (getD_true ((unhide HD).shut 13 _ (hk9) rfl ⟨2,.phase⟩ (by simp) rfl))) (by simp)
    | k9+14,_=>rfl
   ·intro x hx he; simp only [List.mem_cons,List.not_mem_nil,or_false] at hx; rcases hx with rfl|rfl
    ·exact h9.mono hM.bw
    ·exact absurd he (by simp)
  ·cases ho9
   have r2:=hD.old 2 _ rfl rfl
   have hM0:Fs w W9 [⟨w.heap.size,#[.int .i64 E,.int .i64 F],23⟩,⟨w.heap.size+1,#[.bool false,.slice none 0 0,.int .i64 0],46⟩]:=by
    have hM1:=hM.st
    simp only [pickBs] at hM1
    rw [if_neg (hD.waits 3 12 _ ⟨3,.phase⟩ hl9 rfl (by simp) rfl rfl)] at hM1
    exact hM1
   have Q_:=hM0.cellAt (b:=w.heap.size) (cs:=#[.int .i64 E,.int .i64 F]) (t:=23) (by simp)
   have c9_0:=Q_ 0 _ rfl
   have c9_1:=Q_ 1 _ rfl
   clear Q_
   clear hM0
   refine wpOp_step rfl fun K hK=>?_
   go_simp
   exact hK _ _ ⟨p9,fun _ _=>rfl,rfl,(Pm.keepM rfl (hM.val rfl))⟩
  ·cases ho9
   have r37:=hD.od hd9 3 37 _ rfl (by simp)
   have g2:=hM.fx _ (List.mem_of_getElem? (i:=0) rfl) (Or.inl (getD_true (hd9 ⟨2,.chain⟩ (by simp) rfl)))
   simp only [] at g2
   have hM0:Fs w W9 [⟨w.heap.size,#[.int .i64 E,.int .i64 F],23⟩,⟨w.heap.size+1,#[.bool false,.slice none 0 0,.int .i64 0],46⟩]:=by
    have hM1:=hM.st
    simp only [pickBs] at hM1
    rw [if_neg (hD.waits 4 12 _ ⟨4,.phase⟩ hl9 rfl (by simp) rfl rfl)] at hM1
    exact hM1
   refine wpOp_step rfl fun K hK=>?_
   go_simp
   go_wp2_with fail
   refine (rbias4_any E F B (unhide H0) HBi _).mono ?_
   rintro en w9 ⟨rfl,hb9⟩
   exact hK _ _ ⟨p9,fun _ _=>rfl,rfl,(Pm.keepM rfl ((hM.kept hs9 hb9).val rfl))⟩
  ·cases ho9
   have r38:=hD.od hd9 4 38 _ rfl (by simp)
   refine wpOp_step rfl fun K hK=>?_
   go_simp
   exact hK _ _ ⟨p9,fun _ _=>rfl,act_eq (by (first|rfl|(show Value.int _ _ = Value.int _ _; congr 1; (first|rfl|omega|(rw [IntKind.wrap_i64]; omega)|(rw [IntKind.wrap_u64]; omega))))),(Pm.keepM rfl (hM.val rfl))⟩
  ·cases ho9
   have r2:=hD.old 2 _ rfl rfl
   refine wpOp_step rfl fun K hK=>?_
   go_simp
   exact hK _ _ ⟨p9,fun _ _=>rfl,rfl,(Pm.keepM rfl (hM.val rfl))⟩
  ·cases ho9
   have r40:=hD.od hd9 6 40 _ rfl (by simp)
   have hM0:Fs w W9 [⟨w.heap.size,#[.int .i64 E,.int .i64 F],23⟩,⟨w.heap.size+1,#[.bool false,.slice none 0 0,.int .i64 0],46⟩]:=by
    have hM1:=hM.st
    simp only [pickBs] at hM1
    rw [if_neg (hD.waits 7 12 _ ⟨7,.phase⟩ hl9 rfl (by simp) rfl rfl)] at hM1
    exact hM1
   have c9_0:=hM0.cellAt (b:=w.heap.size) (cs:=#[.int .i64 E,.int .i64 F]) (t:=23) (by simp) 1 _ rfl
   clear hM0
   refine wpOp_step rfl fun K hK=>?_
   go_simp
   exact hK _ _ ⟨p9,fun _ _=>rfl,rfl,(Pm.keepM rfl (hM.val rfl))⟩
  ·cases ho9
   have r39:=hD.od hd9 5 39 _ rfl (by simp)
   have r41:=hD.od hd9 7 41 _ rfl (by simp)
   refine wpOp_step rfl fun K hK=>?_
   go_simp
   exact hK _ _ ⟨p9,fun _ _=>rfl,act_eq (by (first|rfl|(show Value.int _ _ = Value.int _ _; congr 1; (first|rfl|omega|(rw [IntKind.wrap_i64]; omega)|(rw [IntKind.wrap_u64]; omega))))),(Pm.keepM rfl (hM.val rfl))⟩
  ·cases ho9
   have r34:=hD.od hd9 0 34 _ rfl (by simp)
   have r36:=hD.od hd9 2 36 _ rfl (by simp)
   have r42:=hD.od hd9 8 42 _ rfl (by simp)
   have g2:=hM.fx _ (List.mem_of_getElem? (i:=0) rfl) (Or.inl (getD_true (hd9 ⟨2,.data⟩ (by simp) rfl)))
   simp only [] at g2
   have hM0:Fs w W9 [⟨w.heap.size,#[.int .i64 E,.int .i64 F],23⟩,⟨w.heap.size+1,#[.bool false,.slice none 0 0,.int .i64 0],46⟩]:=by
    have hM1:=hM.st
    simp only [pickBs] at hM1
    rw [if_neg (hD.waits 9 12 _ ⟨9,.chain⟩ hl9 rfl (by simp) rfl rfl)] at hM1
    exact hM1
   have HD:=hide hD
   have hn12:=hD.waits 9 12 _ ⟨9,.chain⟩ hl9 rfl (by simp) rfl rfl
   refine wpOp_step rfl fun K hK=>?_
   go_simp
   go_wp2_with fail
   refine (rmake_ok s (p9 2).A (p9 2).N (p9 2).C fr z (1 - (B:Int) - (F:Int)) _ g2.num (unhide HF0) (unhide HZ) (by omega) (by omega) (by omega) (by omega)).mono ?_
   rintro en w9 ⟨⟨a9,n9,c9,rfl,h9⟩,hb9⟩
   refine hK _ _ ⟨p9.set 9 ⟨a9,n9,c9⟩,?_,rfl,(Pm.keepM rfl (((hM.kept hs9 hb9).pick ⟨a9,n9,c9⟩ ?_).into (by simp only [pickBs]; rw [if_neg hn12,if_neg hn12])))⟩
   ·intro k9 hk9
    clear hM hK
    match k9,hk9 with
    | 0,_=>rfl
    | 1,_=>rfl
    | 2,_=>rfl
    | 3,_=>rfl
    | 4,_=>rfl
    | 5,_=>rfl
    | 6,_=>rfl
    | 7,_=>rfl
    | 8,_=>rfl
    | 9,hk9=>exact absurd (hl9.symm.trans hk9) (by simp)
    | 10,hk9=>exact absurd (hl9.symm.trans (getD_true ((unhide HD).shut 10 _ (hk9) rfl ⟨9,.data⟩ (by simp) rfl))) (by simp)
    | 11,hk9=>exact absurd (hl9.symm.trans (getD_true ((unhide HD).shut 11 _ (hk9) rfl ⟨9,.data⟩ (by simp) rfl))) (by simp)
    | 12,hk9=>exact absurd (hl9.symm.trans (getD_true ((unhide HD).shut 12 _ (hk9) rfl ⟨9,.chain⟩ (by simp) rfl))) (by simp)
    | 13,hk9=>exact absurd (hl9.symm.trans (getD_true ((unhide HD).shut 13 _ (hk9) rfl ⟨9,.phase⟩ (by simp) rfl))) (by simp)
    | k9+14,_=>rfl
   ·intro x hx he; simp only [List.mem_cons,List.not_mem_nil,or_false] at hx; rcases hx with rfl|rfl
    ·exact absurd he (by simp)
    ·exact h9.mono hM.bw
  ·cases ho9
   have r43:=hD.od hd9 9 43 _ rfl (by simp)
   refine wpOp_step rfl fun K hK=>?_
   go_simp
   exact hK _ _ ⟨p9,fun _ _=>rfl,rfl,(Pm.keepM rfl (hM.val rfl))⟩
  ·cases ho9
   have r43:=hD.od hd9 9 43 _ rfl (by simp)
   refine wpOp_step rfl fun K hK=>?_
   go_simp
   exact hK _ _ ⟨p9,fun _ _=>rfl,rfl,(Pm.keepM rfl (hM.val rfl))⟩
  ·cases ho9
   have r4:=hD.old 4 _ rfl rfl
   have r44:=hD.od hd9 10 44 _ rfl (by simp)
   have hM0:Fs w W9 [⟨w.heap.size,#[.int .i64 E,.int .i64 F],23⟩,⟨w.heap.size+1,#[.bool false,.slice none 0 0,.int .i64 0],46⟩]:=by
    have hM1:=hM.st
    simp only [pickBs] at hM1
    rw [if_neg (by rw [hl9]; simp)] at hM1
    exact hM1
   have c9_0:=hM0.cellAt (b:=w.heap.size+1) (cs:=#[.bool false,.slice none 0 0,.int .i64 0]) (t:=46) (by simp) 0 _ rfl
   have z9_0:=hM0.frozen (b:=w.heap.size+1) (cs:=#[.bool false,.slice none 0 0,.int .i64 0]) (t:=46) (by simp) 0
   have c9_1:=hM0.cellAt (b:=w.heap.size+1) (cs:=#[.bool false,.slice none 0 0,.int .i64 0]) (t:=46) (by simp) 1 _ rfl
   have z9_1:=hM0.frozen (b:=w.heap.size+1) (cs:=#[.bool false,.slice none 0 0,.int .i64 0]) (t:=46) (by simp) 1
   have c9_2:=hM0.cellAt (b:=w.heap.size+1) (cs:=#[.bool false,.slice none 0 0,.int .i64 0]) (t:=46) (by simp) 2 _ rfl
   have z9_2:=hM0.frozen (b:=w.heap.size+1) (cs:=#[.bool false,.slice none 0 0,.int .i64 0]) (t:=46) (by simp) 2
   refine wpOp_step rfl fun K hK=>?_
   go_simp
   exact hK _ _ ⟨p9,fun _ _=>rfl,rfl,Pm.putM hl9 ((((hM.val rfl).put hs9 _ _ (block_lt (hS.bx _ (List.mem_of_getElem? (i:=1) rfl))) (hM0.put (b:=w.heap.size+1) (cs:=#[.bool false,.slice none 0 0,.int .i64 0]) (t:=46) (by simp) (by simp) 0 (.bool s) [⟨w.heap.size,#[.int .i64 E,.int .i64 F],23⟩,⟨w.heap.size+1,#[.bool s,.slice none 0 0,.int .i64 0],46⟩] (by simp <;> omega))).put hs9 _ _ (block_lt (hS.bx _ (List.mem_of_getElem? (i:=1) rfl))) ((hM0.put (b:=w.heap.size+1) (cs:=#[.bool false,.slice none 0 0,.int .i64 0]) (t:=46) (by simp) (by simp) 0 (.bool s) [⟨w.heap.size,#[.int .i64 E,.int .i64 F],23⟩,⟨w.heap.size+1,#[.bool s,.slice none 0 0,.int .i64 0],46⟩] (by simp <;> omega)).put (b:=w.heap.size+1) (cs:=#[.bool s,.slice none 0 0,.int .i64 0]) (t:=46) (by simp) (by simp) 1 (.slice (p9 9).A (p9 9).N (p9 9).C) [⟨w.heap.size,#[.int .i64 E,.int .i64 F],23⟩,⟨w.heap.size+1,#[.bool s,.slice (p9 9).A (p9 9).N (p9 9).C,.int .i64 0],46⟩] (by simp <;> omega))).put hs9 _ _ (block_lt (hS.bx _ (List.mem_of_getElem? (i:=1) rfl))) (((hM0.put (b:=w.heap.size+1) (cs:=#[.bool false,.slice none 0 0,.int .i64 0]) (t:=46) (by simp) (by simp) 0 (.bool s) [⟨w.heap.size,#[.int .i64 E,.int .i64 F],23⟩,⟨w.heap.size+1,#[.bool s,.slice none 0 0,.int .i64 0],46⟩] (by simp <;> omega)).put (b:=w.heap.size+1) (cs:=#[.bool s,.slice none 0 0,.int .i64 0]) (t:=46) (by simp) (by simp) 1 (.slice (p9 9).A (p9 9).N (p9 9).C) [⟨w.heap.size,#[.int .i64 E,.int .i64 F],23⟩,⟨w.heap.size+1,#[.bool s,.slice (p9 9).A (p9 9).N (p9 9).C,.int .i64 0],46⟩] (by simp <;> omega)).put (b:=w.heap.size+1) (cs:=#[.bool s,.slice (p9 9).A (p9 9).N (p9 9).C,.int .i64 0]) (t:=46) (by simp) (by simp) 2 (.int .i64 ((1 - (B:Int) - (F:Int))+(z:Int))) [⟨w.heap.size,#[.int .i64 E,.int .i64 F],23⟩,⟨w.heap.size+1,#[.bool s,.slice (p9 9).A (p9 9).N (p9 9).C,.int .i64 ((1 - (B:Int) - (F:Int))+(z:Int))],46⟩] (by simp <;> omega)))⟩
  ·cases ho9
   have r45:=hD.od hd9 11 45 _ rfl (by simp)
   refine wpOp_step rfl fun K hK=>?_
   go_simp
   exact hK _ _ ⟨p9,fun _ _=>rfl,rfl,(Pm.keepM rfl (hM.val rfl))⟩
 ·intro p9 l9 W9 hn9 hl9 hM
  have fr8_2:=hM.fx _ (List.mem_of_getElem? (i:=0) rfl) (Or.inl (hl9 2 (by decide)))
  have fr8_9:=hM.fx _ (List.mem_of_getElem? (i:=1) rfl) (Or.inl (hl9 9 (by decide)))
  replace hM:=hM.st
  simp only [pickBs] at hM
  rw [if_pos (hl9 12 (by decide))] at hM
  clear hl9 hs9 h09 hn9
  generalize p9 2 = q2 at *
  obtain ⟨Ar8_2,Nr8_2,Cr8_2⟩:=q2
  simp only [] at fr8_2
  generalize p9 9 = q9 at *
  obtain ⟨Ar8_9,Nr8_9,Cr8_9⟩:=q9
  simp only [] at fr8_9
  clear hS yf yg yh yi yj
  have hS:=hM
  clear hM
  simp only [Puts.lay,List.setIfInBounds_toArray,List.set_cons_zero,List.set_cons_succ]
  obtain ⟨⟨yk,yl,-⟩,⟨ym,yn,yo,-⟩,-⟩:=hS.cells
  have F9:=hide fr8_9
  clear fr8_9 fr8_2
  go_wp2
  exact bodyPost_ret (v:=.tuple #[.agg #[.bool s,.slice Ar8_9 Nr8_9 Cr8_9,.int .i64 ((1 - (B:Int) - (F:Int))+(z:Int))],.int .i64 0]) (by simp [results,Tryz.results23,go_sem,ym,yn,yo]) rfl ⟨⟨_,_,_,rfl,(unhide F9).mono (by have:=hS3s; omega)⟩,hS.fr⟩
theorem rValue_normal (E F B b ex fr M z:Nat) (s:Bool) (h0:Fo E F) (HBi:Hid (B = 2 ^ (E - 1) - 1)) (hB:Bt E F b s ex fr) (w:World) (hx0:0 < ex) (hxf:ex+1 < 2 ^ E) (hMf:M = fr+2 ^ F) (hz:Tz M z) (hz2:z≤52) :
  Calls Tryz.prog 23 #[.agg #[.int .i64 E,.int .i64 F],.int .u64 b] w fun e w'=>(∃ A N C,e = .returned (.tuple #[.agg #[.bool s,.slice A N C,.int .i64 (((ex:Int) - (B:Int) - (F:Int))+(z:Int))],.int .i64 0])∧Mine w' w.heap.size A N C (M / 2 ^ z))∧Below w.heap.size w w':=by
 have hF1:=h0.f1
 have hF:=h0.f52
 have hE2:=h0.e2
 have hE:=h0.e11
 have hexl:=hB.ex64 h0
 have hfrl:=hB.fr64 h0
 have H0:=hide h0
 have HB:=hide hB
 have hBl:B≤1023:=B_le h0 HBi
 obtain ⟨tE,htE⟩:∃ t,t = 2 ^ E - 1:=⟨_,rfl⟩
 have wE:=top_wrap (t:=tE) hE htE
 have hxe:((ex:Int) == (tE:Int)) = false:=top_ne htE hxf
 have hx1:((ex:Int) == 0) = false:=by simp; omega
 have hMl:M < 18446744073709551616:=by
  have:=pow_bound (show F≤52 from hF)
  omega
 have HF0:=hide (show 0 < M by have:=pow_pos2 F; omega)
 obtain ⟨pF,hpF⟩:∃ p,p = 2 ^ F:=⟨_,rfl⟩
 have wF:IntKind.u64.wrap (2 ^ F) = (pF:Int):=by rw [hpF]; exact wrap_pow (by omega)
 have eM:IntKind.u64.wrap ((pF:Int)+(fr:Int)) = (M:Int):=by
  have hMf2:M = fr+pF:=by rw [hpF]; exact hMf
  rw [show ((pF:Int)+(fr:Int)) = ((pF+fr:Nat):Int) from by omega,IntKind.wrap_u64]
  clear wF hMf hpF wE htE
  omega
 have HZ:=hide hz
 clear h0 hB htE hz hxf hMf hpF
 go_enter Tryz.func23,Tryz.ntmps23
 go_wp2_with fail
 refine (rmay_ok _ _ _ (unhide H0) (unhide HB).lt _).mono ?_
 rintro e w1 ⟨rfl,hb1⟩
 have hS:=(Fs.two w _ _ _ _).kept hb1
 obtain ⟨⟨ya,yb,-⟩,⟨yc,yd,ye,-⟩,-⟩:=hS.cells
 go_wp2_with fail
 refine (rFields_any E F b ex fr (E+F) s (unhide H0) (unhide HB) rfl _).mono ?_
 rintro e w2 ⟨rfl,hb2⟩
 replace hS:=hS.kept hb2
 clear ya yb yc yd ye
 obtain ⟨⟨yf,yg,-⟩,⟨yh,yi,yj,-⟩,-⟩:=hS.cells
 go_wp2_with fail
 have hS3s:w.heap.size≤w2.heap.size:=hS.size
 have hs9:∀ x9:Nat×(Pk→World→Prop),x9∈([(7,fun q W=>Mine W w2.heap.size q.A q.N q.C M),(15,fun q W=>Mine W w2.heap.size q.A q.N q.C (M / 2 ^ z))]:List (Nat×(Pk→World→Prop)))→∀ q9:Pk,St w2.heap.size (x9.2 q9):=by
  intro x hx q
  simp only [List.mem_cons,List.not_mem_nil,or_false] at hx
  rcases hx with rfl|rfl
  ·exact st_mine _ _ _ _ _
  ·exact st_mine _ _ _ _ _
 have h09:∀ x9:Nat×(Pk→World→Prop),x9∈([(7,fun q W=>Mine W w2.heap.size q.A q.N q.C M),(15,fun q W=>Mine W w2.heap.size q.A q.N q.C (M / 2 ^ z))]:List (Nat×(Pk→World→Prop)))→20≤x9.1→x9.2 ⟨none,0,0⟩ w2:=by
  intro x hx hn9
  simp only [List.mem_cons,List.not_mem_nil,or_false] at hx
  rcases hx with rfl|rfl
  ·exact absurd hn9 (by simp)
  ·exact absurd hn9 (by simp)
 refine wp_region_any (by kernel_rfl) ?_
 refine wpAny_pick (fun p9=>[some (46,.bool s),some (47,.pointer (some ⟨w.heap.size,1,none⟩)),some (48,.int .i64 F),some (49,.int .u64 F),some (50,.int .u64 pF),some (51,.int .u64 fr),some (52,.int .u64 M),some (53,.agg #[.slice (p9 7).A (p9 7).N (p9 7).C]),some (54,.int .i64 ex),some (55,.agg #[.int .i64 E,.int .i64 F]),some (56,.int .i64 B),some (57,.int .i64 ((ex:Int) - (B:Int))),some (58,.pointer (some ⟨w.heap.size,1,none⟩)),some (59,.int .i64 F),some (60,.int .i64 ((ex:Int) - (B:Int) - (F:Int))),some (61,.tuple #[.agg #[.bool s,.slice (p9 15).A (p9 15).N (p9 15).C,.int .i64 (((ex:Int) - (B:Int) - (F:Int))+(z:Int))],.int .i64 0]),some (62,.agg #[.bool s,.slice (p9 15).A (p9 15).N (p9 15).C,.int .i64 (((ex:Int) - (B:Int) - (F:Int))+(z:Int))]),some (63,.int .i64 0),none,some (5,.int .i64 0)])
  (fun p9 l9 W9=>Pm w w2.heap.size [(7,fun q W=>Mine W w2.heap.size q.A q.N q.C M),(15,fun q W=>Mine W w2.heap.size q.A q.N q.C (M / 2 ^ z))] p9 l9 W9 (pickBs l9 [(18,[⟨w.heap.size,#[.int .i64 E,.int .i64 F],23⟩,⟨w.heap.size+1,#[.bool s,.slice (p9 15).A (p9 15).N (p9 15).C,.int .i64 (((ex:Int) - (B:Int) - (F:Int))+(z:Int))],46⟩])] [⟨w.heap.size,#[.int .i64 E,.int .i64 F],23⟩,⟨w.heap.size+1,#[.bool false,.slice none 0 0,.int .i64 0],46⟩])) _ _ (fun _=>rfl) (by kernel_rfl) (fun _=>rfl) (fun _=>rfl) ?_ ?_ (fun _=>⟨none,0,0⟩) (Pm.start hS _ _ _ hs9 h09)
 ·intro p9 l9 t9 W9 i9 hD hi9 hl9 hM
  obtain ⟨o9,ho9,hd9⟩:=(mem_ready.1 hi9).2
  have hin9:i9 < 20:=by
   by_cases h:i9 < 20
   ·exact h
   ·rw [Array.getElem?_eq_none (by rw [hD.len]; simp; omega)] at hl9; cases hl9
  have hcase:i9 = 0∨i9 = 1∨i9 = 2∨i9 = 3∨i9 = 4∨i9 = 5∨i9 = 6∨i9 = 7∨i9 = 8∨i9 = 9∨i9 = 10∨i9 = 11∨i9 = 12∨i9 = 13∨i9 = 14∨i9 = 15∨i9 = 16∨i9 = 17∨i9 = 18∨i9 = 19:=by omega
  clear hin9
  rcases hcase with rfl|rfl|rfl|rfl|rfl|rfl|rfl|rfl|rfl|rfl|rfl|rfl|rfl|rfl|rfl|rfl|rfl|rfl|rfl|rfl
  ·cases ho9
   have r7:=hD.old 7 _ rfl rfl
   refine wpOp_step rfl fun K hK=>?_
   go_simp
   exact hK _ _ ⟨p9,fun _ _=>rfl,rfl,(Pm.keepM rfl (hM.val rfl))⟩
  ·cases ho9
   have r2:=hD.old 2 _ rfl rfl
   refine wpOp_step rfl fun K hK=>?_
   go_simp
   exact hK _ _ ⟨p9,fun _ _=>rfl,rfl,(Pm.keepM rfl (hM.val rfl))⟩
  ·cases ho9
   have r47:=hD.od hd9 1 47 _ rfl (by simp)
   have hM0:Fs w W9 [⟨w.heap.size,#[.int .i64 E,.int .i64 F],23⟩,⟨w.heap.size+1,#[.bool false,.slice none 0 0,.int .i64 0],46⟩]:=by
    have hM1:=hM.st
    simp only [pickBs] at hM1
    rw [if_neg (hD.waits 2 18 _ ⟨2,.phase⟩ hl9 rfl (by simp) rfl rfl)] at hM1
    exact hM1
   have c9_0:=hM0.cellAt (b:=w.heap.size) (cs:=#[.int .i64 E,.int .i64 F]) (t:=23) (by simp) 1 _ rfl
   clear hM0
   refine wpOp_step rfl fun K hK=>?_
   go_simp
   exact hK _ _ ⟨p9,fun _ _=>rfl,rfl,(Pm.keepM rfl (hM.val rfl))⟩
  ·cases ho9
   have r48:=hD.od hd9 2 48 _ rfl (by simp)
   refine wpOp_step rfl fun K hK=>?_
   go_simp
   exact hK _ _ ⟨p9,fun _ _=>rfl,act_eq (by (first|rfl|(show Value.int _ _ = Value.int _ _; congr 1; (first|rfl|omega|(rw [IntKind.wrap_i64]; omega)|(rw [IntKind.wrap_u64]; omega))))),(Pm.keepM rfl (hM.val rfl))⟩
  ·cases ho9
   have r49:=hD.od hd9 3 49 _ rfl (by simp)
   refine wpOp_step rfl fun K hK=>?_
   go_simp
   exact hK _ _ ⟨p9,fun _ _=>rfl,act_eq (by (show Value.int _ _ = Value.int _ _; first|rfl|(congr 1; first|exact wF|simpa using wF))),(Pm.keepM rfl (hM.val rfl))⟩
  ·cases ho9
   have r9:=hD.old 9 _ rfl rfl
   refine wpOp_step rfl fun K hK=>?_
   go_simp
   exact hK _ _ ⟨p9,fun _ _=>rfl,rfl,(Pm.keepM rfl (hM.val rfl))⟩
  ·cases ho9
   have r50:=hD.od hd9 4 50 _ rfl (by simp)
   have r51:=hD.od hd9 5 51 _ rfl (by simp)
   refine wpOp_step rfl fun K hK=>?_
   go_simp
   exact hK _ _ ⟨p9,fun _ _=>rfl,act_eq (by (show Value.int _ _ = Value.int _ _; first|rfl|(congr 1; first|exact eM|simpa using eM))),(Pm.keepM rfl (hM.val rfl))⟩
  ·cases ho9
   have r52:=hD.od hd9 6 52 _ rfl (by simp)
   have hM0:Fs w W9 [⟨w.heap.size,#[.int .i64 E,.int .i64 F],23⟩,⟨w.heap.size+1,#[.bool false,.slice none 0 0,.int .i64 0],46⟩]:=by
    have hM1:=hM.st
    simp only [pickBs] at hM1
    rw [if_neg (hD.waits 7 18 _ ⟨7,.phase⟩ hl9 rfl (by simp) rfl rfl)] at hM1
    exact hM1
   have HD:=hide hD
   have hn18:=hD.waits 7 18 _ ⟨7,.phase⟩ hl9 rfl (by simp) rfl rfl
   refine wpOp_step rfl fun K hK=>?_
   go_simp
   go_wp2_with fail
   refine (rof_any M _ hMl).mono ?_
   rintro en w9 ⟨⟨a9,n9,c9,rfl,h9⟩,hb9⟩
   refine hK _ _ ⟨p9.set 7 ⟨a9,n9,c9⟩,?_,rfl,(Pm.keepM rfl (((hM.kept hs9 hb9).pick ⟨a9,n9,c9⟩ ?_).into (by simp only [pickBs]; rw [if_neg hn18,if_neg hn18])))⟩
   ·intro k9 hk9
    clear hM hK
    match k9,hk9 with
    | 0,_=>rfl
    | 1,_=>rfl
    | 2,_=>rfl
    | 3,_=>rfl
    | 4,_=>rfl
    | 5,_=>rfl
    | 6,_=>rfl
    | 7,hk9=>exact absurd (hl9.symm.trans hk9) (by simp)
    | 8,_=>rfl
    | 9,_=>rfl
    | 10,hk9=>exact absurd (hl9.symm.trans (getD_true ((unhide HD).shut 10 _ (hk9) rfl ⟨7,.chain⟩ (by simp) rfl))) (by simp)
    | 11,hk9=>exact absurd (hl9.symm.trans (getD_true ((unhide HD).shut 10 _ (getD_true ((unhide HD).shut 11 _ (hk9) rfl ⟨10,.data⟩ (by simp) rfl)) rfl ⟨7,.chain⟩ (by simp) rfl))) (by simp)
    | 12,_=>rfl
    | 13,_=>rfl
    | 14,hk9=>exact absurd (hl9.symm.trans (getD_true ((unhide HD).shut 10 _ (getD_true ((unhide HD).shut 11 _ (getD_true ((unhide HD).shut 14 _ (hk9) rfl ⟨11,.data⟩ (by simp) rfl)) rfl ⟨10,.data⟩ (by simp) rfl)) rfl ⟨7,.chain⟩ (by simp) rfl))) (by simp)
    | 15,hk9=>exact absurd (hl9.symm.trans (getD_true ((unhide HD).shut 15 _ (hk9) rfl ⟨7,.data⟩ (by simp) rfl))) (by simp)
    | 16,hk9=>exact absurd (hl9.symm.trans (getD_true ((unhide HD).shut 15 _ (getD_true ((unhide HD).shut 16 _ (hk9) rfl ⟨15,.data⟩ (by simp) rfl)) rfl ⟨7,.data⟩ (by simp) rfl))) (by simp)
    | 17,hk9=>exact absurd (hl9.symm.trans (getD_true ((unhide HD).shut 15 _ (getD_true ((unhide HD).shut 17 _ (hk9) rfl ⟨15,.data⟩ (by simp) rfl)) rfl ⟨7,.data⟩ (by simp) rfl))) (by simp)
    | 18,hk9=>exact absurd (hl9.symm.trans (getD_true ((unhide HD).shut 18 _ (hk9) rfl ⟨7,.phase⟩ (by simp) rfl))) (by simp)
    | 19,hk9=>exact absurd (hl9.symm.trans (getD_true ((unhide HD).shut 19 _ (hk9) rfl ⟨7,.phase⟩ (by simp) rfl))) (by simp)
    | k9+20,_=>rfl
   ·intro x hx he; simp only [List.mem_cons,List.not_mem_nil,or_false] at hx; rcases hx with rfl|rfl
    ·exact h9.mono hM.bw
    ·exact absurd he (by simp)
  ·cases ho9
   have r8:=hD.old 8 _ rfl rfl
   refine wpOp_step rfl fun K hK=>?_
   go_simp
   exact hK _ _ ⟨p9,fun _ _=>rfl,rfl,(Pm.keepM rfl (hM.val rfl))⟩
  ·cases ho9
   have r2:=hD.old 2 _ rfl rfl
   have hM0:Fs w W9 [⟨w.heap.size,#[.int .i64 E,.int .i64 F],23⟩,⟨w.heap.size+1,#[.bool false,.slice none 0 0,.int .i64 0],46⟩]:=by
    have hM1:=hM.st
    simp only [pickBs] at hM1
    rw [if_neg (hD.waits 9 18 _ ⟨9,.phase⟩ hl9 rfl (by simp) rfl rfl)] at hM1
    exact hM1
   have Q_:=hM0.cellAt (b:=w.heap.size) (cs:=#[.int .i64 E,.int .i64 F]) (t:=23) (by simp)
   have c9_0:=Q_ 0 _ rfl
   have c9_1:=Q_ 1 _ rfl
   clear Q_
   clear hM0
   refine wpOp_step rfl fun K hK=>?_
   go_simp
   exact hK _ _ ⟨p9,fun _ _=>rfl,rfl,(Pm.keepM rfl (hM.val rfl))⟩
  ·cases ho9
   have r55:=hD.od hd9 9 55 _ rfl (by simp)
   have g7:=hM.fx _ (List.mem_of_getElem? (i:=0) rfl) (Or.inl (getD_true (hd9 ⟨7,.chain⟩ (by simp) rfl)))
   simp only [] at g7
   have hM0:Fs w W9 [⟨w.heap.size,#[.int .i64 E,.int .i64 F],23⟩,⟨w.heap.size+1,#[.bool false,.slice none 0 0,.int .i64 0],46⟩]:=by
    have hM1:=hM.st
    simp only [pickBs] at hM1
    rw [if_neg (hD.waits 10 18 _ ⟨10,.phase⟩ hl9 rfl (by simp) rfl rfl)] at hM1
    exact hM1
   refine wpOp_step rfl fun K hK=>?_
   go_simp
   go_wp2_with fail
   refine (rbias4_any E F B (unhide H0) HBi _).mono ?_
   rintro en w9 ⟨rfl,hb9⟩
   exact hK _ _ ⟨p9,fun _ _=>rfl,rfl,(Pm.keepM rfl ((hM.kept hs9 hb9).val rfl))⟩
  ·cases ho9
   have r54:=hD.od hd9 8 54 _ rfl (by simp)
   have r56:=hD.od hd9 10 56 _ rfl (by simp)
   refine wpOp_step rfl fun K hK=>?_
   go_simp
   exact hK _ _ ⟨p9,fun _ _=>rfl,act_eq (by (first|rfl|(show Value.int _ _ = Value.int _ _; congr 1; (first|rfl|omega|(rw [IntKind.wrap_i64]; omega)|(rw [IntKind.wrap_u64]; omega))))),(Pm.keepM rfl (hM.val rfl))⟩
  ·cases ho9
   have r2:=hD.old 2 _ rfl rfl
   refine wpOp_step rfl fun K hK=>?_
   go_simp
   exact hK _ _ ⟨p9,fun _ _=>rfl,rfl,(Pm.keepM rfl (hM.val rfl))⟩
  ·cases ho9
   have r58:=hD.od hd9 12 58 _ rfl (by simp)
   have hM0:Fs w W9 [⟨w.heap.size,#[.int .i64 E,.int .i64 F],23⟩,⟨w.heap.size+1,#[.bool false,.slice none 0 0,.int .i64 0],46⟩]:=by
    have hM1:=hM.st
    simp only [pickBs] at hM1
    rw [if_neg (hD.waits 13 18 _ ⟨13,.phase⟩ hl9 rfl (by simp) rfl rfl)] at hM1
    exact hM1
   have c9_0:=hM0.cellAt (b:=w.heap.size) (cs:=#[.int .i64 E,.int .i64 F]) (t:=23) (by simp) 1 _ rfl
   clear hM0
   refine wpOp_step rfl fun K hK=>?_
   go_simp
   exact hK _ _ ⟨p9,fun _ _=>rfl,rfl,(Pm.keepM rfl (hM.val rfl))⟩
  ·cases ho9
   have r57:=hD.od hd9 11 57 _ rfl (by simp)
   have r59:=hD.od hd9 13 59 _ rfl (by simp)
   refine wpOp_step rfl fun K hK=>?_
   go_simp
   exact hK _ _ ⟨p9,fun _ _=>rfl,act_eq (by (first|rfl|(show Value.int _ _ = Value.int _ _; congr 1; (first|rfl|omega|(rw [IntKind.wrap_i64]; omega)|(rw [IntKind.wrap_u64]; omega))))),(Pm.keepM rfl (hM.val rfl))⟩
  ·cases ho9
   have r46:=hD.od hd9 0 46 _ rfl (by simp)
   have r53:=hD.od hd9 7 53 _ rfl (by simp)
   have r60:=hD.od hd9 14 60 _ rfl (by simp)
   have g7:=hM.fx _ (List.mem_of_getElem? (i:=0) rfl) (Or.inl (getD_true (hd9 ⟨7,.data⟩ (by simp) rfl)))
   simp only [] at g7
   have hM0:Fs w W9 [⟨w.heap.size,#[.int .i64 E,.int .i64 F],23⟩,⟨w.heap.size+1,#[.bool false,.slice none 0 0,.int .i64 0],46⟩]:=by
    have hM1:=hM.st
    simp only [pickBs] at hM1
    rw [if_neg (hD.waits 15 18 _ ⟨15,.chain⟩ hl9 rfl (by simp) rfl rfl)] at hM1
    exact hM1
   have HD:=hide hD
   have hn18:=hD.waits 15 18 _ ⟨15,.chain⟩ hl9 rfl (by simp) rfl rfl
   refine wpOp_step rfl fun K hK=>?_
   go_simp
   go_wp2_with fail
   refine (rmake_ok s (p9 7).A (p9 7).N (p9 7).C M z ((ex:Int) - (B:Int) - (F:Int)) _ g7.num (unhide HF0) (unhide HZ) (by omega) (by omega) (by omega) (by omega)).mono ?_
   rintro en w9 ⟨⟨a9,n9,c9,rfl,h9⟩,hb9⟩
   refine hK _ _ ⟨p9.set 15 ⟨a9,n9,c9⟩,?_,rfl,(Pm.keepM rfl (((hM.kept hs9 hb9).pick ⟨a9,n9,c9⟩ ?_).into (by simp only [pickBs]; rw [if_neg hn18,if_neg hn18])))⟩
   ·intro k9 hk9
    clear hM hK
    match k9,hk9 with
    | 0,_=>rfl
    | 1,_=>rfl
    | 2,_=>rfl
    | 3,_=>rfl
    | 4,_=>rfl
    | 5,_=>rfl
    | 6,_=>rfl
    | 7,_=>rfl
    | 8,_=>rfl
    | 9,_=>rfl
    | 10,_=>rfl
    | 11,_=>rfl
    | 12,_=>rfl
    | 13,_=>rfl
    | 14,_=>rfl
    | 15,hk9=>exact absurd (hl9.symm.trans hk9) (by simp)
    | 16,hk9=>exact absurd (hl9.symm.trans (getD_true ((unhide HD).shut 16 _ (hk9) rfl ⟨15,.data⟩ (by simp) rfl))) (by simp)
    | 17,hk9=>exact absurd (hl9.symm.trans (getD_true ((unhide HD).shut 17 _ (hk9) rfl ⟨15,.data⟩ (by simp) rfl))) (by simp)
    | 18,hk9=>exact absurd (hl9.symm.trans (getD_true ((unhide HD).shut 18 _ (hk9) rfl ⟨15,.chain⟩ (by simp) rfl))) (by simp)
    | 19,hk9=>exact absurd (hl9.symm.trans (getD_true ((unhide HD).shut 19 _ (hk9) rfl ⟨15,.phase⟩ (by simp) rfl))) (by simp)
    | k9+20,_=>rfl
   ·intro x hx he; simp only [List.mem_cons,List.not_mem_nil,or_false] at hx; rcases hx with rfl|rfl
    ·exact absurd he (by simp)
    ·exact h9.mono hM.bw
  ·cases ho9
   have r61:=hD.od hd9 15 61 _ rfl (by simp)
   refine wpOp_step rfl fun K hK=>?_
   go_simp
   exact hK _ _ ⟨p9,fun _ _=>rfl,rfl,(Pm.keepM rfl (hM.val rfl))⟩
  ·cases ho9
   have r61:=hD.od hd9 15 61 _ rfl (by simp)
   refine wpOp_step rfl fun K hK=>?_
   go_simp
   exact hK _ _ ⟨p9,fun _ _=>rfl,rfl,(Pm.keepM rfl (hM.val rfl))⟩
  ·cases ho9
   have r4:=hD.old 4 _ rfl rfl
   have r62:=hD.od hd9 16 62 _ rfl (by simp)
   have hM0:Fs w W9 [⟨w.heap.size,#[.int .i64 E,.int .i64 F],23⟩,⟨w.heap.size+1,#[.bool false,.slice none 0 0,.int .i64 0],46⟩]:=by
    have hM1:=hM.st
    simp only [pickBs] at hM1
    rw [if_neg (by rw [hl9]; simp)] at hM1
    exact hM1
   have c9_0:=hM0.cellAt (b:=w.heap.size+1) (cs:=#[.bool false,.slice none 0 0,.int .i64 0]) (t:=46) (by simp) 0 _ rfl
   have z9_0:=hM0.frozen (b:=w.heap.size+1) (cs:=#[.bool false,.slice none 0 0,.int .i64 0]) (t:=46) (by simp) 0
   have c9_1:=hM0.cellAt (b:=w.heap.size+1) (cs:=#[.bool false,.slice none 0 0,.int .i64 0]) (t:=46) (by simp) 1 _ rfl
   have z9_1:=hM0.frozen (b:=w.heap.size+1) (cs:=#[.bool false,.slice none 0 0,.int .i64 0]) (t:=46) (by simp) 1
   have c9_2:=hM0.cellAt (b:=w.heap.size+1) (cs:=#[.bool false,.slice none 0 0,.int .i64 0]) (t:=46) (by simp) 2 _ rfl
   have z9_2:=hM0.frozen (b:=w.heap.size+1) (cs:=#[.bool false,.slice none 0 0,.int .i64 0]) (t:=46) (by simp) 2
   refine wpOp_step rfl fun K hK=>?_
   go_simp
   exact hK _ _ ⟨p9,fun _ _=>rfl,rfl,Pm.putM hl9 ((((hM.val rfl).put hs9 _ _ (block_lt (hS.bx _ (List.mem_of_getElem? (i:=1) rfl))) (hM0.put (b:=w.heap.size+1) (cs:=#[.bool false,.slice none 0 0,.int .i64 0]) (t:=46) (by simp) (by simp) 0 (.bool s) [⟨w.heap.size,#[.int .i64 E,.int .i64 F],23⟩,⟨w.heap.size+1,#[.bool s,.slice none 0 0,.int .i64 0],46⟩] (by simp <;> omega))).put hs9 _ _ (block_lt (hS.bx _ (List.mem_of_getElem? (i:=1) rfl))) ((hM0.put (b:=w.heap.size+1) (cs:=#[.bool false,.slice none 0 0,.int .i64 0]) (t:=46) (by simp) (by simp) 0 (.bool s) [⟨w.heap.size,#[.int .i64 E,.int .i64 F],23⟩,⟨w.heap.size+1,#[.bool s,.slice none 0 0,.int .i64 0],46⟩] (by simp <;> omega)).put (b:=w.heap.size+1) (cs:=#[.bool s,.slice none 0 0,.int .i64 0]) (t:=46) (by simp) (by simp) 1 (.slice (p9 15).A (p9 15).N (p9 15).C) [⟨w.heap.size,#[.int .i64 E,.int .i64 F],23⟩,⟨w.heap.size+1,#[.bool s,.slice (p9 15).A (p9 15).N (p9 15).C,.int .i64 0],46⟩] (by simp <;> omega))).put hs9 _ _ (block_lt (hS.bx _ (List.mem_of_getElem? (i:=1) rfl))) (((hM0.put (b:=w.heap.size+1) (cs:=#[.bool false,.slice none 0 0,.int .i64 0]) (t:=46) (by simp) (by simp) 0 (.bool s) [⟨w.heap.size,#[.int .i64 E,.int .i64 F],23⟩,⟨w.heap.size+1,#[.bool s,.slice none 0 0,.int .i64 0],46⟩] (by simp <;> omega)).put (b:=w.heap.size+1) (cs:=#[.bool s,.slice none 0 0,.int .i64 0]) (t:=46) (by simp) (by simp) 1 (.slice (p9 15).A (p9 15).N (p9 15).C) [⟨w.heap.size,#[.int .i64 E,.int .i64 F],23⟩,⟨w.heap.size+1,#[.bool s,.slice (p9 15).A (p9 15).N (p9 15).C,.int .i64 0],46⟩] (by simp <;> omega)).put (b:=w.heap.size+1) (cs:=#[.bool s,.slice (p9 15).A (p9 15).N (p9 15).C,.int .i64 0]) (t:=46) (by simp) (by simp) 2 (.int .i64 (((ex:Int) - (B:Int) - (F:Int))+(z:Int))) [⟨w.heap.size,#[.int .i64 E,.int .i64 F],23⟩,⟨w.heap.size+1,#[.bool s,.slice (p9 15).A (p9 15).N (p9 15).C,.int .i64 (((ex:Int) - (B:Int) - (F:Int))+(z:Int))],46⟩] (by simp <;> omega)))⟩
  ·cases ho9
   have r63:=hD.od hd9 17 63 _ rfl (by simp)
   refine wpOp_step rfl fun K hK=>?_
   go_simp
   exact hK _ _ ⟨p9,fun _ _=>rfl,rfl,(Pm.keepM rfl (hM.val rfl))⟩
 ·intro p9 l9 W9 hn9 hl9 hM
  have fr9_7:=hM.fx _ (List.mem_of_getElem? (i:=0) rfl) (Or.inl (hl9 7 (by decide)))
  have fr9_15:=hM.fx _ (List.mem_of_getElem? (i:=1) rfl) (Or.inl (hl9 15 (by decide)))
  replace hM:=hM.st
  simp only [pickBs] at hM
  rw [if_pos (hl9 18 (by decide))] at hM
  clear hl9 hs9 h09 hn9
  generalize p9 7 = q7 at *
  obtain ⟨Ar9_7,Nr9_7,Cr9_7⟩:=q7
  simp only [] at fr9_7
  generalize p9 15 = q15 at *
  obtain ⟨Ar9_15,Nr9_15,Cr9_15⟩:=q15
  simp only [] at fr9_15
  clear hS yf yg yh yi yj
  have hS:=hM
  clear hM
  simp only [Puts.lay,List.setIfInBounds_toArray,List.set_cons_zero,List.set_cons_succ]
  obtain ⟨⟨yk,yl,-⟩,⟨ym,yn,yo,-⟩,-⟩:=hS.cells
  have F9:=hide fr9_15
  clear fr9_15 fr9_7
  go_wp2
  exact bodyPost_ret (v:=.tuple #[.agg #[.bool s,.slice Ar9_15 Nr9_15 Cr9_15,.int .i64 (((ex:Int) - (B:Int) - (F:Int))+(z:Int))],.int .i64 0]) (by simp [results,Tryz.results23,go_sem,ym,yn,yo]) rfl ⟨⟨_,_,_,rfl,(unhide F9).mono (by have:=hS3s; omega)⟩,hS.fr⟩
theorem xsign_t (E F S:Nat) (h:Fo E F) (hS:Hid (S = 2 ^ (F+E))) (w:World)  :
  Calls Tryz.prog 24 #[.agg #[.int .i64 E,.int .i64 F],.bool true] w fun e w'=>e = .returned (.int .u64 (S:Int))∧Below w.heap.size w w':=by
 have h63:=h.sum
 have e1:IntKind.u64.wrap ((2:Int) ^ (E+F)) = (S:Int):=by rw [nwrap_pow _ (by omega),unhide hS,Nat.add_comm]
 go_enter Tryz.func24,Tryz.ntmps24
 go_wp2
 go_ret
 exact ⟨by rw [← e1]; rfl,(Fs.one w _ _).fr⟩
theorem xsign_f (E F:Int) (w:World)  :
  Calls Tryz.prog 24 #[.agg #[.int .i64 E,.int .i64 F],.bool false] w fun e w'=>e = .returned (.int .u64 0)∧Below w.heap.size w w':=by
 go_enter Tryz.func24,Tryz.ntmps24
 go_wp2
 go_ret
 exact ⟨rfl,(Fs.one w _ _).fr⟩
theorem xInf_t (E F pE tE I sg v:Nat) (HS:Tel 24 #[.agg #[.int .i64 E,.int .i64 F],.bool true] (.int .u64 (sg:Int))) (hE:E≤11) (hF:F≤52) (hF1:1≤F) (h6:IntKind.u64.wrap ((2:Int) ^ E) = (pE:Int)) (h7:IntKind.u64.wrap ((pE:Int) - 1) = (tE:Int)) (h11:IntKind.u64.wrap ((tE:Int) * 2 ^ F) = (I:Int)) (h12:IntKind.u64.wrap ((sg:Int)+(I:Int)) = (v:Int)) (w:World)  :
  Calls Tryz.prog 14 #[.agg #[.int .i64 E,.int .i64 F],.bool true] w fun e w'=>e = .returned (.int .u64 (v:Int))∧Below w.heap.size w w':=by
 go_enter Tryz.func14,Tryz.ntmps14
 go_wp2_with fail
 refine wp_region_any (by kernel_rfl) ?_
 refine wpAny_det [some (5,.agg #[.int .i64 E,.int .i64 F]),some (6,.bool true),some (7,.int .u64 (sg:Int)),some (8,.pointer (some ⟨w.heap.size,0,none⟩)),some (9,.int .i64 E),some (10,.int .u64 E),some (11,.int .u64 pE),some (12,.int .u64 tE),some (13,.pointer (some ⟨w.heap.size,1,none⟩)),some (14,.int .i64 F),some (15,.int .u64 F),some (16,.int .u64 I),some (17,.int .u64 v),some (4,.int .u64 v)]
  (fun _ W9=>Fs w W9 [⟨w.heap.size,#[.int .i64 E,.int .i64 F],23⟩]) _ _ rfl (by kernel_rfl) rfl rfl ?_ ?_ (Fs.one w _ _).drew
 ·intro l9 t9 W9 i9 hD hi9 hl9 hM
  obtain ⟨o9,ho9,hd9⟩:=(mem_ready.1 hi9).2
  have hin9:i9 < 14:=by
   by_cases h:i9 < 14
   ·exact h
   ·rw [Array.getElem?_eq_none (by rw [hD.len]; simp; omega)] at hl9; cases hl9
  have hcase:i9 = 0∨i9 = 1∨i9 = 2∨i9 = 3∨i9 = 4∨i9 = 5∨i9 = 6∨i9 = 7∨i9 = 8∨i9 = 9∨i9 = 10∨i9 = 11∨i9 = 12∨i9 = 13:=by omega
  clear hin9
  rcases hcase with rfl|rfl|rfl|rfl|rfl|rfl|rfl|rfl|rfl|rfl|rfl|rfl|rfl|rfl
  ·cases ho9
   have r2:=hD.old 2 _ rfl rfl
   have hM0:=hM
   have Q_:=hM0.cellAt (b:=w.heap.size) (cs:=#[.int .i64 E,.int .i64 F]) (t:=23) (by simp)
   have c9_0:=Q_ 0 _ rfl
   have c9_1:=Q_ 1 _ rfl
   clear Q_
   clear hM0
   refine wpOp_step rfl fun K hK=>?_
   go_simp
   exact hK _ _ ⟨rfl,hM⟩
  ·cases ho9
   have r1:=hD.old 1 _ rfl rfl
   refine wpOp_step rfl fun K hK=>?_
   go_simp
   exact hK _ _ ⟨rfl,hM⟩
  ·cases ho9
   have r5:=hD.od hd9 0 5 _ rfl (by simp)
   have r6:=hD.od hd9 1 6 _ rfl (by simp)
   refine wpOp_step rfl fun K hK=>?_
   go_simp
   go_wp2_with fail
   refine (HS _).mono ?_
   rintro en w9 ⟨rfl,hb9⟩
   exact hK _ _ ⟨rfl,hM.kept hb9⟩
  ·cases ho9
   have r2:=hD.old 2 _ rfl rfl
   refine wpOp_step rfl fun K hK=>?_
   go_simp
   exact hK _ _ ⟨rfl,hM⟩
  ·cases ho9
   have r8:=hD.od hd9 3 8 _ rfl (by simp)
   have hM0:=hM
   have c9_0:=hM0.cellAt (b:=w.heap.size) (cs:=#[.int .i64 E,.int .i64 F]) (t:=23) (by simp) 0 _ rfl
   clear hM0
   refine wpOp_step rfl fun K hK=>?_
   go_simp
   exact hK _ _ ⟨rfl,hM⟩
  ·cases ho9
   have r9:=hD.od hd9 4 9 _ rfl (by simp)
   refine wpOp_step rfl fun K hK=>?_
   go_simp
   exact hK _ _ ⟨act_eq (by (show Value.int _ _ = Value.int _ _; congr 1; (first|rfl|omega|(rw [IntKind.wrap_i64]; omega)|(rw [IntKind.wrap_u64]; omega)))),hM⟩
  ·cases ho9
   have r10:=hD.od hd9 5 10 _ rfl (by simp)
   refine wpOp_step rfl fun K hK=>?_
   go_simp
   exact hK _ _ ⟨act_eq (by (first|rfl|exact congrArg (Value.int .u64) h6|(rw [← h6]; rfl)|(simp [h6]))),hM⟩
  ·cases ho9
   have r11:=hD.od hd9 6 11 _ rfl (by simp)
   refine wpOp_step rfl fun K hK=>?_
   go_simp
   exact hK _ _ ⟨act_eq (by (first|rfl|exact congrArg (Value.int .u64) h7|(rw [← h7]; rfl)|(simp [h7]))),hM⟩
  ·cases ho9
   have r2:=hD.old 2 _ rfl rfl
   refine wpOp_step rfl fun K hK=>?_
   go_simp
   exact hK _ _ ⟨rfl,hM⟩
  ·cases ho9
   have r13:=hD.od hd9 8 13 _ rfl (by simp)
   have hM0:=hM
   have c9_0:=hM0.cellAt (b:=w.heap.size) (cs:=#[.int .i64 E,.int .i64 F]) (t:=23) (by simp) 1 _ rfl
   clear hM0
   refine wpOp_step rfl fun K hK=>?_
   go_simp
   exact hK _ _ ⟨rfl,hM⟩
  ·cases ho9
   have r14:=hD.od hd9 9 14 _ rfl (by simp)
   refine wpOp_step rfl fun K hK=>?_
   go_simp
   exact hK _ _ ⟨act_eq (by (show Value.int _ _ = Value.int _ _; congr 1; (first|rfl|omega|(rw [IntKind.wrap_i64]; omega)|(rw [IntKind.wrap_u64]; omega)))),hM⟩
  ·cases ho9
   have r12:=hD.od hd9 7 12 _ rfl (by simp)
   have r15:=hD.od hd9 10 15 _ rfl (by simp)
   refine wpOp_step rfl fun K hK=>?_
   go_simp
   exact hK _ _ ⟨act_eq (by (first|rfl|exact congrArg (Value.int .u64) h11|(rw [← h11]; rfl)|(simp [h11]))),hM⟩
  ·cases ho9
   have r7:=hD.od hd9 2 7 _ rfl (by simp)
   have r16:=hD.od hd9 11 16 _ rfl (by simp)
   refine wpOp_step rfl fun K hK=>?_
   go_simp
   exact hK _ _ ⟨act_eq (by (first|rfl|exact congrArg (Value.int .u64) h12|(rw [← h12]; rfl)|(simp [h12]))),hM⟩
  ·cases ho9
   have r17:=hD.od hd9 12 17 _ rfl (by simp)
   refine wpOp_step rfl fun K hK=>?_
   go_simp
   exact hK _ _ ⟨rfl,hM⟩
 ·intro l9 W9 hl9 hM
  have hS:=hM
  clear hM
  simp only [Puts.lay,List.setIfInBounds_toArray,List.set_cons_zero,List.set_cons_succ]
  obtain ⟨⟨ya,yb,-⟩,-⟩:=hS.cells
  go_wp2
  go_ret
  exact ⟨rfl,hS.fr⟩
theorem xInf_f (E F pE tE I sg v:Nat) (HS:Tel 24 #[.agg #[.int .i64 E,.int .i64 F],.bool false] (.int .u64 (sg:Int))) (hE:E≤11) (hF:F≤52) (hF1:1≤F) (h6:IntKind.u64.wrap ((2:Int) ^ E) = (pE:Int)) (h7:IntKind.u64.wrap ((pE:Int) - 1) = (tE:Int)) (h11:IntKind.u64.wrap ((tE:Int) * 2 ^ F) = (I:Int)) (h12:IntKind.u64.wrap ((sg:Int)+(I:Int)) = (v:Int)) (w:World)  :
  Calls Tryz.prog 14 #[.agg #[.int .i64 E,.int .i64 F],.bool false] w fun e w'=>e = .returned (.int .u64 (v:Int))∧Below w.heap.size w w':=by
 go_enter Tryz.func14,Tryz.ntmps14
 go_wp2_with fail
 refine wp_region_any (by kernel_rfl) ?_
 refine wpAny_det [some (5,.agg #[.int .i64 E,.int .i64 F]),some (6,.bool false),some (7,.int .u64 (sg:Int)),some (8,.pointer (some ⟨w.heap.size,0,none⟩)),some (9,.int .i64 E),some (10,.int .u64 E),some (11,.int .u64 pE),some (12,.int .u64 tE),some (13,.pointer (some ⟨w.heap.size,1,none⟩)),some (14,.int .i64 F),some (15,.int .u64 F),some (16,.int .u64 I),some (17,.int .u64 v),some (4,.int .u64 v)]
  (fun _ W9=>Fs w W9 [⟨w.heap.size,#[.int .i64 E,.int .i64 F],23⟩]) _ _ rfl (by kernel_rfl) rfl rfl ?_ ?_ (Fs.one w _ _).drew
 ·intro l9 t9 W9 i9 hD hi9 hl9 hM
  obtain ⟨o9,ho9,hd9⟩:=(mem_ready.1 hi9).2
  have hin9:i9 < 14:=by
   by_cases h:i9 < 14
   ·exact h
   ·rw [Array.getElem?_eq_none (by rw [hD.len]; simp; omega)] at hl9; cases hl9
  have hcase:i9 = 0∨i9 = 1∨i9 = 2∨i9 = 3∨i9 = 4∨i9 = 5∨i9 = 6∨i9 = 7∨i9 = 8∨i9 = 9∨i9 = 10∨i9 = 11∨i9 = 12∨i9 = 13:=by omega
  clear hin9
  rcases hcase with rfl|rfl|rfl|rfl|rfl|rfl|rfl|rfl|rfl|rfl|rfl|rfl|rfl|rfl
  ·cases ho9
   have r2:=hD.old 2 _ rfl rfl
   have hM0:=hM
   have Q_:=hM0.cellAt (b:=w.heap.size) (cs:=#[.int .i64 E,.int .i64 F]) (t:=23) (by simp)
   have c9_0:=Q_ 0 _ rfl
   have c9_1:=Q_ 1 _ rfl
   clear Q_
   clear hM0
   refine wpOp_step rfl fun K hK=>?_
   go_simp
   exact hK _ _ ⟨rfl,hM⟩
  ·cases ho9
   have r1:=hD.old 1 _ rfl rfl
   refine wpOp_step rfl fun K hK=>?_
   go_simp
   exact hK _ _ ⟨rfl,hM⟩
  ·cases ho9
   have r5:=hD.od hd9 0 5 _ rfl (by simp)
   have r6:=hD.od hd9 1 6 _ rfl (by simp)
   refine wpOp_step rfl fun K hK=>?_
   go_simp
   go_wp2_with fail
   refine (HS _).mono ?_
   rintro en w9 ⟨rfl,hb9⟩
   exact hK _ _ ⟨rfl,hM.kept hb9⟩
  ·cases ho9
   have r2:=hD.old 2 _ rfl rfl
   refine wpOp_step rfl fun K hK=>?_
   go_simp
   exact hK _ _ ⟨rfl,hM⟩
  ·cases ho9
   have r8:=hD.od hd9 3 8 _ rfl (by simp)
   have hM0:=hM
   have c9_0:=hM0.cellAt (b:=w.heap.size) (cs:=#[.int .i64 E,.int .i64 F]) (t:=23) (by simp) 0 _ rfl
   clear hM0
   refine wpOp_step rfl fun K hK=>?_
   go_simp
   exact hK _ _ ⟨rfl,hM⟩
  ·cases ho9
   have r9:=hD.od hd9 4 9 _ rfl (by simp)
   refine wpOp_step rfl fun K hK=>?_
   go_simp
   exact hK _ _ ⟨act_eq (by (show Value.int _ _ = Value.int _ _; congr 1; (first|rfl|omega|(rw [IntKind.wrap_i64]; omega)|(rw [IntKind.wrap_u64]; omega)))),hM⟩
  ·cases ho9
   have r10:=hD.od hd9 5 10 _ rfl (by simp)
   refine wpOp_step rfl fun K hK=>?_
   go_simp
   exact hK _ _ ⟨act_eq (by (first|rfl|exact congrArg (Value.int .u64) h6|(rw [← h6]; rfl)|(simp [h6]))),hM⟩
  ·cases ho9
   have r11:=hD.od hd9 6 11 _ rfl (by simp)
   refine wpOp_step rfl fun K hK=>?_
   go_simp
   exact hK _ _ ⟨act_eq (by (first|rfl|exact congrArg (Value.int .u64) h7|(rw [← h7]; rfl)|(simp [h7]))),hM⟩
  ·cases ho9
   have r2:=hD.old 2 _ rfl rfl
   refine wpOp_step rfl fun K hK=>?_
   go_simp
   exact hK _ _ ⟨rfl,hM⟩
  ·cases ho9
   have r13:=hD.od hd9 8 13 _ rfl (by simp)
   have hM0:=hM
   have c9_0:=hM0.cellAt (b:=w.heap.size) (cs:=#[.int .i64 E,.int .i64 F]) (t:=23) (by simp) 1 _ rfl
   clear hM0
   refine wpOp_step rfl fun K hK=>?_
   go_simp
   exact hK _ _ ⟨rfl,hM⟩
  ·cases ho9
   have r14:=hD.od hd9 9 14 _ rfl (by simp)
   refine wpOp_step rfl fun K hK=>?_
   go_simp
   exact hK _ _ ⟨act_eq (by (show Value.int _ _ = Value.int _ _; congr 1; (first|rfl|omega|(rw [IntKind.wrap_i64]; omega)|(rw [IntKind.wrap_u64]; omega)))),hM⟩
  ·cases ho9
   have r12:=hD.od hd9 7 12 _ rfl (by simp)
   have r15:=hD.od hd9 10 15 _ rfl (by simp)
   refine wpOp_step rfl fun K hK=>?_
   go_simp
   exact hK _ _ ⟨act_eq (by (first|rfl|exact congrArg (Value.int .u64) h11|(rw [← h11]; rfl)|(simp [h11]))),hM⟩
  ·cases ho9
   have r7:=hD.od hd9 2 7 _ rfl (by simp)
   have r16:=hD.od hd9 11 16 _ rfl (by simp)
   refine wpOp_step rfl fun K hK=>?_
   go_simp
   exact hK _ _ ⟨act_eq (by (first|rfl|exact congrArg (Value.int .u64) h12|(rw [← h12]; rfl)|(simp [h12]))),hM⟩
  ·cases ho9
   have r17:=hD.od hd9 12 17 _ rfl (by simp)
   refine wpOp_step rfl fun K hK=>?_
   go_simp
   exact hK _ _ ⟨rfl,hM⟩
 ·intro l9 W9 hl9 hM
  have hS:=hM
  clear hM
  simp only [Puts.lay,List.setIfInBounds_toArray,List.set_cons_zero,List.set_cons_succ]
  obtain ⟨⟨ya,yb,-⟩,-⟩:=hS.cells
  go_wp2
  go_ret
  exact ⟨rfl,hS.fr⟩
theorem xNaN_is (E F k pk I v:Nat) (HI:Tel 14 #[.agg #[.int .i64 E,.int .i64 F],.bool false] (.int .u64 (I:Int))) (hk:(F:Int) - 1 = (k:Int)) (hk2:k≤51) (h6:IntKind.u64.wrap ((2:Int) ^ k) = (pk:Int)) (h7:IntKind.u64.wrap ((I:Int)+(pk:Int)) = (v:Int)) (w:World)  :
  Calls Tryz.prog 12 #[.agg #[.int .i64 E,.int .i64 F]] w fun e w'=>e = .returned (.int .u64 (v:Int))∧Below w.heap.size w w':=by
 go_enter Tryz.func12,Tryz.ntmps12
 go_wp2_with fail
 refine wp_region_any (by kernel_rfl) ?_
 refine wpAny_det [some (3,.agg #[.int .i64 E,.int .i64 F]),some (4,.int .u64 (I:Int)),some (5,.pointer (some ⟨w.heap.size,1,none⟩)),some (6,.int .i64 F),some (7,.int .i64 k),some (8,.int .u64 k),some (9,.int .u64 pk),some (10,.int .u64 v),some (2,.int .u64 v)]
  (fun _ W9=>Fs w W9 [⟨w.heap.size,#[.int .i64 E,.int .i64 F],23⟩]) _ _ rfl (by kernel_rfl) rfl rfl ?_ ?_ (Fs.one w _ _).drew
 ·intro l9 t9 W9 i9 hD hi9 hl9 hM
  obtain ⟨o9,ho9,hd9⟩:=(mem_ready.1 hi9).2
  have hin9:i9 < 9:=by
   by_cases h:i9 < 9
   ·exact h
   ·rw [Array.getElem?_eq_none (by rw [hD.len]; simp; omega)] at hl9; cases hl9
  have hcase:i9 = 0∨i9 = 1∨i9 = 2∨i9 = 3∨i9 = 4∨i9 = 5∨i9 = 6∨i9 = 7∨i9 = 8:=by omega
  clear hin9
  rcases hcase with rfl|rfl|rfl|rfl|rfl|rfl|rfl|rfl|rfl
  ·cases ho9
   have r1:=hD.old 1 _ rfl rfl
   have hM0:=hM
   have Q_:=hM0.cellAt (b:=w.heap.size) (cs:=#[.int .i64 E,.int .i64 F]) (t:=23) (by simp)
   have c9_0:=Q_ 0 _ rfl
   have c9_1:=Q_ 1 _ rfl
   clear Q_
   clear hM0
   refine wpOp_step rfl fun K hK=>?_
   go_simp
   exact hK _ _ ⟨rfl,hM⟩
  ·cases ho9
   have r3:=hD.od hd9 0 3 _ rfl (by simp)
   refine wpOp_step rfl fun K hK=>?_
   go_simp
   go_wp2_with fail
   refine (HI _).mono ?_
   rintro en w9 ⟨rfl,hb9⟩
   exact hK _ _ ⟨rfl,hM.kept hb9⟩
  ·cases ho9
   have r1:=hD.old 1 _ rfl rfl
   refine wpOp_step rfl fun K hK=>?_
   go_simp
   exact hK _ _ ⟨rfl,hM⟩
  ·cases ho9
   have r5:=hD.od hd9 2 5 _ rfl (by simp)
   have hM0:=hM
   have c9_0:=hM0.cellAt (b:=w.heap.size) (cs:=#[.int .i64 E,.int .i64 F]) (t:=23) (by simp) 1 _ rfl
   clear hM0
   refine wpOp_step rfl fun K hK=>?_
   go_simp
   exact hK _ _ ⟨rfl,hM⟩
  ·cases ho9
   have r6:=hD.od hd9 3 6 _ rfl (by simp)
   refine wpOp_step rfl fun K hK=>?_
   go_simp
   exact hK _ _ ⟨act_eq (by (show Value.int _ _ = Value.int _ _; congr 1; (first|rfl|omega|(rw [IntKind.wrap_i64]; omega)|(rw [IntKind.wrap_u64]; omega)))),hM⟩
  ·cases ho9
   have r7:=hD.od hd9 4 7 _ rfl (by simp)
   refine wpOp_step rfl fun K hK=>?_
   go_simp
   exact hK _ _ ⟨act_eq (by (show Value.int _ _ = Value.int _ _; congr 1; (first|rfl|omega|(rw [IntKind.wrap_i64]; omega)|(rw [IntKind.wrap_u64]; omega)))),hM⟩
  ·cases ho9
   have r8:=hD.od hd9 5 8 _ rfl (by simp)
   refine wpOp_step rfl fun K hK=>?_
   go_simp
   exact hK _ _ ⟨act_eq (by (first|rfl|exact congrArg (Value.int .u64) h6|(rw [← h6]; rfl)|(simp [h6]))),hM⟩
  ·cases ho9
   have r4:=hD.od hd9 1 4 _ rfl (by simp)
   have r9:=hD.od hd9 6 9 _ rfl (by simp)
   refine wpOp_step rfl fun K hK=>?_
   go_simp
   exact hK _ _ ⟨act_eq (by (first|rfl|exact congrArg (Value.int .u64) h7|(rw [← h7]; rfl)|(simp [h7]))),hM⟩
  ·cases ho9
   have r10:=hD.od hd9 7 10 _ rfl (by simp)
   refine wpOp_step rfl fun K hK=>?_
   go_simp
   exact hK _ _ ⟨rfl,hM⟩
 ·intro l9 W9 hl9 hM
  have hS:=hM
  clear hM
  simp only [Puts.lay,List.setIfInBounds_toArray,List.set_cons_zero,List.set_cons_succ]
  obtain ⟨⟨ya,yb,-⟩,-⟩:=hS.cells
  go_wp2
  go_ret
  exact ⟨rfl,hS.fr⟩
def OpR (E F b:Int) (neg nan qu inf s:Bool) (m:Nat) (x:Int):Prop:=∀ W:World,Calls Tryz.prog 10 #[.agg #[.int .i64 E,.int .i64 F],.int .u64 b] W fun e w'=>(∃ A N C,e = .returned (.agg #[.bool neg,.bool nan,.bool qu,.bool inf,.bool s,.slice A N C,.int .i64 x])∧Mine w' W.heap.size A N C m)∧Below W.heap.size W w'
theorem open_inf (E F b ex fr:Nat) (neg:Bool) (h0:Fo E F) (HB:Hid (Bt E F b neg ex fr)) (hx:ex+1 = 2 ^ E) (hfr:fr = 0) (w:World)  :
  Calls Tryz.prog 10 #[.agg #[.int .i64 E,.int .i64 F],.int .u64 b] w fun e w'=>e = .returned (.agg #[.bool neg,.bool false,.bool false,.bool true,.bool false,.slice none 0 0,.int .i64 0])∧Below w.heap.size w w':=by
 have hF1:=h0.f1
 have hF:=h0.f52
 have hE2:=h0.e2
 have hE:=h0.e11
 have hexl:=(unhide HB).ex64 h0
 have hfrl:=(unhide HB).fr64 h0
 have H0:=hide h0
 obtain ⟨tE,htE⟩:∃ t,t = 2 ^ E - 1:=⟨_,rfl⟩
 have wE:=top_wrap (t:=tE) hE htE
 have hlt:¬ (ex:Int) < (tE:Int):=by omega
 subst hfr
 clear hx
 clear h0 htE
 go_enter Tryz.func10,Tryz.ntmps10
 go_wp2_with fail
 refine (rFields_any E F b _ _ (E+F) neg (unhide H0) (unhide HB) rfl _).mono ?_
 rintro e w1 ⟨rfl,hb1⟩
 have hS:=(Fs.two w _ _ _ _).kept hb1
 obtain ⟨⟨ya,yb,-⟩,⟨yc,yd,ye,yf,yg,yh,yi,-⟩,-⟩:=hS.cells
 have Q_:=hS.frozen (b:=w.heap.size+1) (cs:=#[.bool false,.bool false,.bool false,.bool false,.bool false,.slice none 0 0,.int .i64 0]) (t:=48) (by simp)
 have fz0:=Q_ 0
 have fz1:=Q_ 1
 have fz2:=Q_ 2
 have fz3:=Q_ 3
 have fz4:=Q_ 4
 have fz5:=Q_ 5
 have fz6:=Q_ 6
 clear Q_
 go_wp2
 exact bodyPost_ret (v:=.agg #[.bool neg,.bool false,.bool false,.bool true,.bool false,.slice none 0 0,.int .i64 0]) (by simp [results,Tryz.results10,go_sem,yc,yd,ye,yf,yg,yh,yi]) rfl ⟨rfl,(((((((hS.fr.setCell (by simp <;> omega) _).setCell (by simp <;> omega) _).setCell (by simp <;> omega) _).setCell (by simp <;> omega) _).setCell (by simp <;> omega) _).setCell (by simp <;> omega) _).setCell (by simp <;> omega) _)⟩
theorem open_quiet (E F b ex fr:Nat) (neg:Bool) (h0:Fo E F) (HB:Hid (Bt E F b neg ex fr)) (hx:ex+1 = 2 ^ E) (hfr:0 < fr) (hq:fr / 2 ^ (F - 1) = 1) (w:World)  :
  Calls Tryz.prog 10 #[.agg #[.int .i64 E,.int .i64 F],.int .u64 b] w fun e w'=>e = .returned (.agg #[.bool neg,.bool true,.bool true,.bool false,.bool false,.slice none 0 0,.int .i64 0])∧Below w.heap.size w w':=by
 have hF1:=h0.f1
 have hF:=h0.f52
 have hE2:=h0.e2
 have hE:=h0.e11
 have hexl:=(unhide HB).ex64 h0
 have hfrl:=(unhide HB).fr64 h0
 have H0:=hide h0
 obtain ⟨tE,htE⟩:∃ t,t = 2 ^ E - 1:=⟨_,rfl⟩
 have wE:=top_wrap (t:=tE) hE htE
 have hlt:¬ (ex:Int) < (tE:Int):=by omega
 have hfr0:((fr:Int) == 0) = false:=by simp; omega
 obtain ⟨k,hk⟩:∃ k,F = k+1:=⟨F - 1,by omega⟩
 have hqi:(fr:Int) / 2 ^ k = 1:=by rw [hk,Nat.add_sub_cancel] at hq; rw [show ((2:Int) ^ k) = ((2 ^ k:Nat):Int) from by simp]; omega
 have hki:(F:Int) - 1 = (k:Int):=by omega
 have hk5:k≤51:=by omega
 clear hx hfr hq hk
 clear h0 htE
 go_enter Tryz.func10,Tryz.ntmps10
 go_wp2_with fail
 refine (rFields_any E F b _ _ (E+F) neg (unhide H0) (unhide HB) rfl _).mono ?_
 rintro e w1 ⟨rfl,hb1⟩
 have hS:=(Fs.two w _ _ _ _).kept hb1
 obtain ⟨⟨ya,yb,-⟩,⟨yc,yd,ye,yf,yg,yh,yi,-⟩,-⟩:=hS.cells
 have Q_:=hS.frozen (b:=w.heap.size+1) (cs:=#[.bool false,.bool false,.bool false,.bool false,.bool false,.slice none 0 0,.int .i64 0]) (t:=48) (by simp)
 have fz0:=Q_ 0
 have fz1:=Q_ 1
 have fz2:=Q_ 2
 have fz3:=Q_ 3
 have fz4:=Q_ 4
 have fz5:=Q_ 5
 have fz6:=Q_ 6
 clear Q_
 go_wp2
 exact bodyPost_ret (v:=.agg #[.bool neg,.bool true,.bool true,.bool false,.bool false,.slice none 0 0,.int .i64 0]) (by simp [results,Tryz.results10,go_sem,yc,yd,ye,yf,yg,yh,yi]) rfl ⟨rfl,(((((((hS.fr.setCell (by simp <;> omega) _).setCell (by simp <;> omega) _).setCell (by simp <;> omega) _).setCell (by simp <;> omega) _).setCell (by simp <;> omega) _).setCell (by simp <;> omega) _).setCell (by simp <;> omega) _)⟩
theorem open_loud (E F b ex fr:Nat) (neg:Bool) (h0:Fo E F) (HB:Hid (Bt E F b neg ex fr)) (hx:ex+1 = 2 ^ E) (hfr:0 < fr) (hq:fr / 2 ^ (F - 1) = 0) (w:World)  :
  Calls Tryz.prog 10 #[.agg #[.int .i64 E,.int .i64 F],.int .u64 b] w fun e w'=>e = .returned (.agg #[.bool neg,.bool true,.bool false,.bool false,.bool false,.slice none 0 0,.int .i64 0])∧Below w.heap.size w w':=by
 have hF1:=h0.f1
 have hF:=h0.f52
 have hE2:=h0.e2
 have hE:=h0.e11
 have hexl:=(unhide HB).ex64 h0
 have hfrl:=(unhide HB).fr64 h0
 have H0:=hide h0
 obtain ⟨tE,htE⟩:∃ t,t = 2 ^ E - 1:=⟨_,rfl⟩
 have wE:=top_wrap (t:=tE) hE htE
 have hlt:¬ (ex:Int) < (tE:Int):=by omega
 have hfr0:((fr:Int) == 0) = false:=by simp; omega
 obtain ⟨k,hk⟩:∃ k,F = k+1:=⟨F - 1,by omega⟩
 have hqi:(fr:Int) / 2 ^ k = 0:=by rw [hk,Nat.add_sub_cancel] at hq; rw [show ((2:Int) ^ k) = ((2 ^ k:Nat):Int) from by simp]; omega
 have hki:(F:Int) - 1 = (k:Int):=by omega
 have hk5:k≤51:=by omega
 clear hx hfr hq hk
 clear h0 htE
 go_enter Tryz.func10,Tryz.ntmps10
 go_wp2_with fail
 refine (rFields_any E F b _ _ (E+F) neg (unhide H0) (unhide HB) rfl _).mono ?_
 rintro e w1 ⟨rfl,hb1⟩
 have hS:=(Fs.two w _ _ _ _).kept hb1
 obtain ⟨⟨ya,yb,-⟩,⟨yc,yd,ye,yf,yg,yh,yi,-⟩,-⟩:=hS.cells
 have Q_:=hS.frozen (b:=w.heap.size+1) (cs:=#[.bool false,.bool false,.bool false,.bool false,.bool false,.slice none 0 0,.int .i64 0]) (t:=48) (by simp)
 have fz0:=Q_ 0
 have fz1:=Q_ 1
 have fz2:=Q_ 2
 have fz3:=Q_ 3
 have fz4:=Q_ 4
 have fz5:=Q_ 5
 have fz6:=Q_ 6
 clear Q_
 go_wp2
 exact bodyPost_ret (v:=.agg #[.bool neg,.bool true,.bool false,.bool false,.bool false,.slice none 0 0,.int .i64 0]) (by simp [results,Tryz.results10,go_sem,yc,yd,ye,yf,yg,yh,yi]) rfl ⟨rfl,(((((((hS.fr.setCell (by simp <;> omega) _).setCell (by simp <;> omega) _).setCell (by simp <;> omega) _).setCell (by simp <;> omega) _).setCell (by simp <;> omega) _).setCell (by simp <;> omega) _).setCell (by simp <;> omega) _)⟩
theorem open_fin (E F b ex fr:Nat) (neg:Bool) (h0:Fo E F) (HB:Hid (Bt E F b neg ex fr)) (hx:ex+1 < 2 ^ E) (s:Bool) (m:Nat) (x:Int) (HV:Hid (∀ w:World,Calls Tryz.prog 23 #[.agg #[.int .i64 E,.int .i64 F],.int .u64 b] w fun e w'=>(∃ A N C,e = .returned (.tuple #[.agg #[.bool s,.slice A N C,.int .i64 x],.int .i64 0])∧Mine w' w.heap.size A N C m)∧Below w.heap.size w w')) (w:World)  :
  Calls Tryz.prog 10 #[.agg #[.int .i64 E,.int .i64 F],.int .u64 b] w fun e w'=>(∃ A N C,e = .returned (.agg #[.bool neg,.bool false,.bool false,.bool false,.bool s,.slice A N C,.int .i64 x])∧Mine w' w.heap.size A N C m)∧Below w.heap.size w w':=by
 have hF1:=h0.f1
 have hF:=h0.f52
 have hE2:=h0.e2
 have hE:=h0.e11
 have hexl:=(unhide HB).ex64 h0
 have hfrl:=(unhide HB).fr64 h0
 have H0:=hide h0
 obtain ⟨tE,htE⟩:∃ t,t = 2 ^ E - 1:=⟨_,rfl⟩
 have wE:=top_wrap (t:=tE) hE htE
 have hlt:(ex:Int) < (tE:Int):=by omega
 clear hx
 clear h0 htE
 go_enter Tryz.func10,Tryz.ntmps10
 go_wp2_with fail
 refine (rFields_any E F b _ _ (E+F) neg (unhide H0) (unhide HB) rfl _).mono ?_
 rintro e w1 ⟨rfl,hb1⟩
 have hS:=(Fs.two w _ _ _ _).kept hb1
 obtain ⟨⟨ya,yb,-⟩,⟨yc,yd,ye,yf,yg,yh,yi,-⟩,-⟩:=hS.cells
 have hsz:=hS.size
 have hlz:w.heap.size+1 < w1.heap.size:=block_lt (hS.bx ⟨w.heap.size+1,#[.bool false,.bool false,.bool false,.bool false,.bool false,.slice none 0 0,.int .i64 0],48⟩ (by simp))
 go_wp2_with fail
 refine (unhide HV _).mono ?_
 rintro e w2 ⟨⟨A1,N1,C1,rfl,f1⟩,hb2⟩
 replace hS:=hS.kept hb2
 clear ya yb yc yd ye yf yg yh yi
 obtain ⟨⟨yj,yk,-⟩,⟨yl,ym,yn,yo,yp,yq,yr,-⟩,-⟩:=hS.cells
 have G1:=hide (f1.mono (base':=w.heap.size+2) hlz)
 clear f1
 have hltw2_0:w.heap.size < w2.heap.size:=hS.lt 0 rfl
 have hltw2_1:w.heap.size+1 < w2.heap.size:=hS.lt 1 rfl
 obtain ⟨WU,hWU⟩:∃ WU,w2.alloc (.cells #[.bool s,.slice A1 N1 C1,.int .i64 x] 46) = WU:=⟨_,rfl⟩
 replace hS:=hS.alloc #[.bool s,.slice A1 N1 C1,.int .i64 x] 46
 rw [hWU] at hS
 replace G1:=hide (hWU▸(unhide G1).alloc (.cells #[.bool s,.slice A1 N1 C1,.int .i64 x] 46))
 clear yj yk yl ym yn yo yp yq yr
 obtain ⟨⟨ys,yt,yu,-⟩,⟨yv,yw,-⟩,⟨yx,yy,yz,y0,y1,y2,y3,-⟩,-⟩:=hS.cells
 have Q_:=hS.frozen (b:=w.heap.size+1) (cs:=#[.bool false,.bool false,.bool false,.bool false,.bool false,.slice none 0 0,.int .i64 0]) (t:=48) (by simp)
 have fz0:=Q_ 0
 have fz1:=Q_ 1
 have fz2:=Q_ 2
 have fz3:=Q_ 3
 have fz4:=Q_ 4
 have fz5:=Q_ 5
 have fz6:=Q_ 6
 clear Q_
 go_wp2
 exact bodyPost_ret (v:=.agg #[.bool neg,.bool false,.bool false,.bool false,.bool s,.slice A1 N1 C1,.int .i64 x]) (by simp [results,Tryz.results10,go_sem,yx,yy,yz,y0,y1,y2,y3]) rfl ⟨⟨_,_,_,rfl,((((((((unhide G1).set (p:=⟨w.heap.size+1,0,none⟩) (by show w.heap.size+1 < w.heap.size+2; omega) (.bool neg)).set (p:=⟨w.heap.size+1,1,none⟩) (by show w.heap.size+1 < w.heap.size+2; omega) (.bool false)).set (p:=⟨w.heap.size+1,2,none⟩) (by show w.heap.size+1 < w.heap.size+2; omega) (.bool false)).set (p:=⟨w.heap.size+1,3,none⟩) (by show w.heap.size+1 < w.heap.size+2; omega) (.bool false)).set (p:=⟨w.heap.size+1,4,none⟩) (by show w.heap.size+1 < w.heap.size+2; omega) (.bool s)).set (p:=⟨w.heap.size+1,5,none⟩) (by show w.heap.size+1 < w.heap.size+2; omega) (.slice A1 N1 C1)).set (p:=⟨w.heap.size+1,6,none⟩) (by show w.heap.size+1 < w.heap.size+2; omega) (.int .i64 x)).mono (by omega)⟩,(((((((hS.fr.setCell (by simp <;> omega) _).setCell (by simp <;> omega) _).setCell (by simp <;> omega) _).setCell (by simp <;> omega) _).setCell (by simp <;> omega) _).setCell (by simp <;> omega) _).setCell (by simp <;> omega) _)⟩
def fl16 (b:Bool):Int:=if b then 16 else 0
def Nl2 (base b:Nat) (n0 q0 n1 q1:Bool) (W:World):Prop:=base≤b∧∃ (cs:Array Value) (t:TypeId),W.heap[b]? = some (.cells cs t (0,0))∧cs[1]? = some (.bool n0)∧cs[2]? = some (.bool q0)∧cs[8]? = some (.bool n1)∧cs[9]? = some (.bool q1)
theorem Nl2.made {W:World} {base:Nat} {n0 q0 n1 q1:Bool} {cs:Array Value} {t:TypeId} (hb:base≤W.heap.size) (h1:cs[1]? = some (.bool n0)) (h2:cs[2]? = some (.bool q0)) (h3:cs[8]? = some (.bool n1)) (h4:cs[9]? = some (.bool q1)):Nl2 base W.heap.size n0 q0 n1 q1 (W.alloc (.cells cs t)):=⟨hb,cs,t,heap_alloc_new W _,h1,h2,h3,h4⟩
theorem nans3_c (b:Nat) (n0 q0 n1 q1 n2 q2:Bool) (w:World) (c0:w.cell? ⟨b,1,none⟩ = some (.bool n0)) (d0:w.cell? ⟨b,2,none⟩ = some (.bool q0)) (c1:w.cell? ⟨b,8,none⟩ = some (.bool n1)) (d1:w.cell? ⟨b,9,none⟩ = some (.bool q1)) (c2:w.cell? ⟨b,15,none⟩ = some (.bool n2)) (d2:w.cell? ⟨b,16,none⟩ = some (.bool q2)) :
  Calls Tryz.prog 11 #[.slice (some ⟨b,0,none⟩) 3 3] w fun e w'=>e = .returned (.tuple #[.bool (n0 || n1 || n2),.int .u8 (fl16 ((n0 && !q0) || (n1 && !q1) || (n2 && !q2)))])∧Below w.heap.size w w':=by
 cases n0 <;> cases q0 <;> cases n1 <;> cases q1 <;> cases n2 <;> cases q2 <;> (
  go_enter Tryz.func11,Tryz.ntmps11
  go_wp2
  refine wp_loop_rounds 4 ?_
  rw [rounds_succ]
  go_wp2
  rw [rounds_succ]
  go_wp2
  rw [rounds_succ]
  go_wp2
  rw [rounds_succ]
  go_wp2
  go_ret2
  exact ⟨rfl,Below.refl _ _⟩)
def Nl3 (base b:Nat) (n0 q0 n1 q1 n2 q2:Bool) (W:World):Prop:=base≤b∧∃ (cs:Array Value) (t:TypeId),W.heap[b]? = some (.cells cs t (0,0))∧cs[1]? = some (.bool n0)∧cs[2]? = some (.bool q0)∧cs[8]? = some (.bool n1)∧cs[9]? = some (.bool q1)∧cs[15]? = some (.bool n2)∧cs[16]? = some (.bool q2)
theorem Nl3.made {W:World} {base:Nat} {n0 q0 n1 q1 n2 q2:Bool} {cs:Array Value} {t:TypeId} (hb:base≤W.heap.size) (h1:cs[1]? = some (.bool n0)) (h2:cs[2]? = some (.bool q0)) (h3:cs[8]? = some (.bool n1)) (h4:cs[9]? = some (.bool q1)) (h5:cs[15]? = some (.bool n2)) (h6:cs[16]? = some (.bool q2)):Nl3 base W.heap.size n0 q0 n1 q1 n2 q2 (W.alloc (.cells cs t)):=⟨hb,cs,t,heap_alloc_new W _,h1,h2,h3,h4,h5,h6⟩
theorem nans3_of (W:World) (base b:Nat) (n0 q0 n1 q1 n2 q2:Bool) (h:Nl3 base b n0 q0 n1 q1 n2 q2 W) :
  Calls Tryz.prog 11 #[.slice (some ⟨b,0,none⟩) 3 3] W fun e w'=>e = .returned (.tuple #[.bool (n0 || n1 || n2),.int .u8 (fl16 ((n0 && !q0) || (n1 && !q1) || (n2 && !q2)))])∧Below W.heap.size W w':=by
 obtain ⟨-,cs,t,h0,h1,h2,h3,h4,h5,h6⟩:=h
 exact nans3_c b n0 q0 n1 q1 n2 q2 W ((cell_of_row W b 1 _ _ _ h0).trans h1) ((cell_of_row W b 2 _ _ _ h0).trans h2) ((cell_of_row W b 8 _ _ _ h0).trans h3) ((cell_of_row W b 9 _ _ _ h0).trans h4) ((cell_of_row W b 15 _ _ _ h0).trans h5) ((cell_of_row W b 16 _ _ _ h0).trans h6)
end Go.Proofs.YtfimakkpdjppfaaGreatDoor
