/- Of what SoftFmasRow stands on: SfFlt ExRat NrFin SmRnd NrRdy RdAny SlSum SlFma. -/
import Derived.Test.YtfimakkpdjppfaaGreatDoorPaf
import Derived.Test.YtfimakkpdjppfaaGreatDoorPbe
import Derived.Test.YtfimakkpdjppfaaGreatDoorPau
import Derived.Test.YtfimakkpdjppfaaGreatDoorPaz
import Derived.Test.YtfimakkpdjppfaaGreatDoorPbd
import Derived.Test.YtfimakkpdjppfaaGreatDoorPax
import Derived.Test.YtfimakkpdjppfaaGreatDoorPak
namespace Go.Proofs.YtfimakkpdjppfaaGreatDoor
open Go.RowKit
set_option maxHeartbeats 16000000
set_option maxRecDepth 20000
inductive Kd where
 | nan (fl:Nat)
 | inf (neg:Bool) (fl:Nat)
 | zero (neg:Bool) (fl:Nat)
 | num (s:Bool) (m:Nat) (x:Int) (fl:Nat)
def Flt (W:World) (B:Nat) (v:Value):Kd→Prop
 | .nan fl=>v = .iface 65 (.agg #[.int .u8 (fl:Int)])
 | .inf neg fl=>v = .iface 113 (.agg #[.bool neg,.int .u8 (fl:Int)])
 | .zero neg fl=>v = .iface 114 (.agg #[.bool neg,.int .u8 (fl:Int)])
 | .num s m x fl=>∃ A N C,v = .iface 116 (.agg #[.bool s,.slice A N C,.int .i64 x,.int .u8 (fl:Int)])∧Mine W B A N C m
theorem Flt.kept {W W':World} {B:Nat} {v:Value} {k:Kd} (h:Flt W B v k) (hb:Below W.heap.size W W'):Flt W' B v k:=by
 cases k with
 | nan fl=>exact h
 | inf neg fl=>exact h
 | zero neg fl=>exact h
 | num s m x fl=>obtain ⟨A,N,C,e,hm⟩:=h; exact ⟨A,N,C,e,hm.kept hb⟩
theorem Flt.mono {W:World} {B B':Nat} {v:Value} {k:Kd} (h:Flt W B v k) (hb:B'≤B):Flt W B' v k:=by
 cases k with
 | nan fl=>exact h
 | inf neg fl=>exact h
 | zero neg fl=>exact h
 | num s m x fl=>obtain ⟨A,N,C,e,hm⟩:=h; exact ⟨A,N,C,e,hm.mono hb⟩
theorem Flt.set {W:World} {B:Nat} {v:Value} {k:Kd} (h:Flt W B v k) {p:Addr} (hp:p.block < B) (u:Value):Flt (W.setCell p u) B v k:=by
 cases k with
 | nan fl=>exact h
 | inf neg fl=>exact h
 | zero neg fl=>exact h
 | num s m x fl=>obtain ⟨A,N,C,e,hm⟩:=h; exact ⟨A,N,C,e,hm.set hp u⟩
def FlOf (E F b:Int) (k:Kd):Prop:=∀ W:World,Tb W→Calls Tryz.prog 34 #[.agg #[.int .i64 E,.int .i64 F],.int .u64 b] W fun e w'=>(∃ t x,e = .returned (.iface t x)∧Flt w' W.heap.size (.iface t x) k)∧Below W.heap.size W w'
theorem invalid_is  (w:World)  :
  Calls Tryz.prog 77 #[] w fun e w'=>e = .returned (.agg #[.int .u8 16])∧Below w.heap.size w w':=by
 go_enter Tryz.func77,Tryz.ntmps77
 go_wp2
 exact bodyPost_ret (v:=.agg #[.int .u8 16]) (by simp [results,Tryz.results77,go_sem]) rfl ⟨rfl,(Fs.one w _ _).fr⟩
theorem noneOf_quiet (E F b pl:Int) (HP:Tel 76 #[.agg #[.int .i64 E,.int .i64 F],.int .u64 b] (.tuple #[.int .u64 pl,.bool true,.int .i64 0])) (w:World)  :
  Calls Tryz.prog 56 #[.agg #[.int .i64 E,.int .i64 F],.int .u64 b] w fun e w'=>e = .returned (.agg #[.int .u8 0])∧Below w.heap.size w w':=by
 go_enter Tryz.func56,Tryz.ntmps56
 go_wp2_with fail
 refine (HP _).mono ?_
 rintro e w1 ⟨rfl,hb1⟩
 have hS:=(Fs.two w _ _ _ _).kept hb1
 obtain ⟨⟨ya,yb,-⟩,⟨yc,-⟩,-⟩:=hS.cells
 have fz0:=hS.frozen (b:=w.heap.size+1) (cs:=#[.int .u8 0]) (t:=65) (by simp) 0
 go_wp2
 skip
 exact bodyPost_ret (v:=.agg #[.int .u8 0]) (by simp [results,Tryz.results56,go_sem,yc]) rfl ⟨rfl,(hS.fr.setCell (by simp) _)⟩
theorem noneOf_loud (E F b pl:Int) (HP:Tel 76 #[.agg #[.int .i64 E,.int .i64 F],.int .u64 b] (.tuple #[.int .u64 pl,.bool false,.int .i64 0])) (w:World)  :
  Calls Tryz.prog 56 #[.agg #[.int .i64 E,.int .i64 F],.int .u64 b] w fun e w'=>e = .returned (.agg #[.int .u8 16])∧Below w.heap.size w w':=by
 go_enter Tryz.func56,Tryz.ntmps56
 go_wp2_with fail
 refine (HP _).mono ?_
 rintro e w1 ⟨rfl,hb1⟩
 have hS:=(Fs.two w _ _ _ _).kept hb1
 obtain ⟨⟨ya,yb,-⟩,⟨yc,-⟩,-⟩:=hS.cells
 go_wp2_with fail
 refine (invalid_is _).mono ?_
 rintro e w2 ⟨rfl,hb2⟩
 replace hS:=hS.kept hb2
 clear ya yb yc
 obtain ⟨⟨yd,ye,-⟩,⟨yf,-⟩,-⟩:=hS.cells
 have fz0:=hS.frozen (b:=w.heap.size+1) (cs:=#[.int .u8 0]) (t:=65) (by simp) 0
 go_wp2
 skip
 exact bodyPost_ret (v:=.agg #[.int .u8 16]) (by simp [results,Tryz.results56,go_sem,yf]) rfl ⟨rfl,(hS.fr.setCell (by simp) _)⟩
theorem floatOf_nan (E F b ex fr:Int) (neg:Bool) (HC:Tel 54 #[.agg #[.int .i64 E,.int .i64 F],.int .u64 b] (.tuple #[.int .u8 5,.int .i64 0])) (HS:Tel 55 #[.agg #[.int .i64 E,.int .i64 F],.int .u64 b] (.tuple #[.agg #[.bool neg,.int .i64 ex,.int .u64 fr],.int .i64 0])) (fl:Int) (HN:Tel 56 #[.agg #[.int .i64 E,.int .i64 F],.int .u64 b] (.agg #[.int .u8 fl])) (w:World)  :
  Calls Tryz.prog 34 #[.agg #[.int .i64 E,.int .i64 F],.int .u64 b] w fun e w'=>e = .returned (.iface 65 (.agg #[.int .u8 fl]))∧Below w.heap.size w w':=by
 go_enter Tryz.func34,Tryz.ntmps34
 go_wp2_with fail
 refine (HC _).mono ?_
 rintro e w1 ⟨rfl,hb1⟩
 have hS:=(Fs.one w _ _).kept hb1
 obtain ⟨⟨ya,yb,-⟩,-⟩:=hS.cells
 go_wp2_with fail
 refine (HS _).mono ?_
 rintro e w2 ⟨rfl,hb2⟩
 replace hS:=hS.kept hb2
 clear ya yb
 obtain ⟨⟨yc,yd,-⟩,-⟩:=hS.cells
 have hltw2_0:w.heap.size < w2.heap.size:=hS.lt 0 rfl
 obtain ⟨WV,hWV⟩:∃ WV,w2.alloc (.cells #[.bool neg,.int .i64 ex,.int .u64 fr] 108) = WV:=⟨_,rfl⟩
 replace hS:=hS.alloc #[.bool neg,.int .i64 ex,.int .u64 fr] 108
 rw [hWV] at hS
 clear yc yd
 obtain ⟨⟨ye,yf,yg,-⟩,⟨yh,yi,-⟩,-⟩:=hS.cells
 go_wp2_with fail
 refine (HN _).mono ?_
 rintro e w3 ⟨rfl,hb3⟩
 replace hS:=hS.kept hb3
 clear ye yf yg yh yi
 obtain ⟨⟨yj,yk,yl,-⟩,⟨ym,yn,-⟩,-⟩:=hS.cells
 go_wp2
 go_ret
 exact ⟨rfl,hS.fr⟩
theorem floatOf_inf (E F b ex fr:Int) (neg:Bool) (HC:Tel 54 #[.agg #[.int .i64 E,.int .i64 F],.int .u64 b] (.tuple #[.int .u8 4,.int .i64 0])) (HS:Tel 55 #[.agg #[.int .i64 E,.int .i64 F],.int .u64 b] (.tuple #[.agg #[.bool neg,.int .i64 ex,.int .u64 fr],.int .i64 0]))  (w:World)  :
  Calls Tryz.prog 34 #[.agg #[.int .i64 E,.int .i64 F],.int .u64 b] w fun e w'=>e = .returned (.iface 113 (.agg #[.bool neg,.int .u8 0]))∧Below w.heap.size w w':=by
 go_enter Tryz.func34,Tryz.ntmps34
 go_wp2_with fail
 refine (HC _).mono ?_
 rintro e w1 ⟨rfl,hb1⟩
 have hS:=(Fs.one w _ _).kept hb1
 obtain ⟨⟨ya,yb,-⟩,-⟩:=hS.cells
 go_wp2_with fail
 refine (HS _).mono ?_
 rintro e w2 ⟨rfl,hb2⟩
 replace hS:=hS.kept hb2
 clear ya yb
 obtain ⟨⟨yc,yd,-⟩,-⟩:=hS.cells
 have hltw2_0:w.heap.size < w2.heap.size:=hS.lt 0 rfl
 obtain ⟨WV,hWV⟩:∃ WV,w2.alloc (.cells #[.bool neg,.int .i64 ex,.int .u64 fr] 108) = WV:=⟨_,rfl⟩
 replace hS:=hS.alloc #[.bool neg,.int .i64 ex,.int .u64 fr] 108
 rw [hWV] at hS
 clear yc yd
 obtain ⟨⟨ye,yf,yg,-⟩,⟨yh,yi,-⟩,-⟩:=hS.cells
 go_wp2
 go_ret
 exact ⟨rfl,hS.fr⟩
theorem floatOf_zero (E F b ex fr:Int) (neg:Bool) (HC:Tel 54 #[.agg #[.int .i64 E,.int .i64 F],.int .u64 b] (.tuple #[.int .u8 1,.int .i64 0])) (HS:Tel 55 #[.agg #[.int .i64 E,.int .i64 F],.int .u64 b] (.tuple #[.agg #[.bool neg,.int .i64 ex,.int .u64 fr],.int .i64 0]))  (w:World)  :
  Calls Tryz.prog 34 #[.agg #[.int .i64 E,.int .i64 F],.int .u64 b] w fun e w'=>e = .returned (.iface 114 (.agg #[.bool neg,.int .u8 0]))∧Below w.heap.size w w':=by
 go_enter Tryz.func34,Tryz.ntmps34
 go_wp2_with fail
 refine (HC _).mono ?_
 rintro e w1 ⟨rfl,hb1⟩
 have hS:=(Fs.one w _ _).kept hb1
 obtain ⟨⟨ya,yb,-⟩,-⟩:=hS.cells
 go_wp2_with fail
 refine (HS _).mono ?_
 rintro e w2 ⟨rfl,hb2⟩
 replace hS:=hS.kept hb2
 clear ya yb
 obtain ⟨⟨yc,yd,-⟩,-⟩:=hS.cells
 have hltw2_0:w.heap.size < w2.heap.size:=hS.lt 0 rfl
 obtain ⟨WV,hWV⟩:∃ WV,w2.alloc (.cells #[.bool neg,.int .i64 ex,.int .u64 fr] 108) = WV:=⟨_,rfl⟩
 replace hS:=hS.alloc #[.bool neg,.int .i64 ex,.int .u64 fr] 108
 rw [hWV] at hS
 clear yc yd
 obtain ⟨⟨ye,yf,yg,-⟩,⟨yh,yi,-⟩,-⟩:=hS.cells
 go_wp2
 go_ret
 exact ⟨rfl,hS.fr⟩
theorem floatOf_num (E F b c ex fr:Int) (neg:Bool) (HC:Tel 54 #[.agg #[.int .i64 E,.int .i64 F],.int .u64 b] (.tuple #[.int .u8 c,.int .i64 0])) (HS:Tel 55 #[.agg #[.int .i64 E,.int .i64 F],.int .u64 b] (.tuple #[.agg #[.bool neg,.int .i64 ex,.int .u64 fr],.int .i64 0])) (h5:(c == (5:Int)) = false) (h4:(c == (4:Int)) = false) (h1:(c == (1:Int)) = false) (s:Bool) (m:Nat) (x:Int) (HV:Hid (Vals E F b s m x)) (w:World) (hT:Tb w) :
  Calls Tryz.prog 34 #[.agg #[.int .i64 E,.int .i64 F],.int .u64 b] w fun e w'=>(∃ t y,e = .returned (.iface t y)∧Flt w' w.heap.size (.iface t y) (.num s m x 0))∧Below w.heap.size w w':=by
 have HT:=hide hT
 clear hT
 go_enter Tryz.func34,Tryz.ntmps34
 go_wp2_with fail
 refine (HC _).mono ?_
 rintro e w1 ⟨rfl,hb1⟩
 have hS:=(Fs.one w _ _).kept hb1
 obtain ⟨⟨ya,yb,-⟩,-⟩:=hS.cells
 go_wp2_with fail
 refine (HS _).mono ?_
 rintro e w2 ⟨rfl,hb2⟩
 replace hS:=hS.kept hb2
 clear ya yb
 obtain ⟨⟨yc,yd,-⟩,-⟩:=hS.cells
 have hltw2_0:w.heap.size < w2.heap.size:=hS.lt 0 rfl
 obtain ⟨WV,hWV⟩:∃ WV,w2.alloc (.cells #[.bool neg,.int .i64 ex,.int .u64 fr] 108) = WV:=⟨_,rfl⟩
 replace hS:=hS.alloc #[.bool neg,.int .i64 ex,.int .u64 fr] 108
 rw [hWV] at hS
 clear yc yd
 obtain ⟨⟨ye,yf,yg,-⟩,⟨yh,yi,-⟩,-⟩:=hS.cells
 have hsV:=hS.size
 go_wp2_with fail
 refine (unhide HV _ ((unhide HT).kept hS.fr)).mono ?_
 rintro e w3 ⟨⟨A1,N1,C1,rfl,f1⟩,hb3⟩
 replace hS:=hS.kept hb3
 clear ye yf yg yh yi
 obtain ⟨⟨yj,yk,yl,-⟩,⟨ym,yn,-⟩,-⟩:=hS.cells
 have G1:=hide (f1.mono (base':=w.heap.size) hsV)
 clear f1
 have hltw3_0:w2.heap.size < w3.heap.size:=hS.lt 0 rfl
 have hltw3_1:w.heap.size < w3.heap.size:=hS.lt 1 rfl
 obtain ⟨WU,hWU⟩:∃ WU,w3.alloc (.cells #[.bool s,.slice A1 N1 C1,.int .i64 x] 46) = WU:=⟨_,rfl⟩
 replace hS:=hS.alloc #[.bool s,.slice A1 N1 C1,.int .i64 x] 46
 rw [hWU] at hS
 replace G1:=hide (hWU▸(unhide G1).alloc (.cells #[.bool s,.slice A1 N1 C1,.int .i64 x] 46))
 clear yj yk yl ym yn
 obtain ⟨⟨yo,yp,yq,-⟩,⟨yr,ys,yt,-⟩,⟨yu,yv,-⟩,-⟩:=hS.cells
 go_wp2
 go_ret
 exact ⟨⟨_,_,rfl,_,_,_,rfl,unhide G1⟩,hS.fr⟩
theorem mine_caps {w:World} {B:Nat} {a:Option Addr} {n c m:Nat} (h:Mine w B a n c m):n≤c∧c≤9223372036854775807:=by
 obtain ⟨xs,hn,ho,_⟩:=h
 obtain ⟨a',c',e,h1,h2,_⟩:=ho.lim
 cases e
 exact ⟨by omega,h2⟩
theorem vals_wo {E F B b ex fr M z:Nat} {s:Bool} {xe:Int} (h0:Fo E F) (HB:Hid (B = 2 ^ (E - 1) - 1)) (hB:Bt E F b s ex fr) (hW:Wo E F B ex fr M z xe):Vals E F b s (M / 2 ^ z) (xe+(z:Int)):=fun W hT=>
 Value_wo E F B b ex fr s M z xe W h0 HB hB hW hT
theorem nonerounded (fl E F md n er:Int) (H:Tel 121 #[.agg #[.int .i64 E,.int .i64 F],.bool false,.int .u64 0] (.tuple #[.int .u64 n,.int .i64 er])) (w:World)  :
  Calls Tryz.prog 118 #[.agg #[.int .u8 fl],.agg #[.int .i64 E,.int .i64 F],.int .u8 md] w fun e w'=>e = .returned (.tuple #[.int .u64 n,.int .u8 fl,.int .i64 er])∧Below w.heap.size w w':=by
 go_enter Tryz.func118,Tryz.ntmps118
 go_wp2_with fail
 refine (H _).mono ?_
 rintro e w1 ⟨rfl,hb1⟩
 have hS:=(Fs.two w _ _ _ _).kept hb1
 obtain ⟨⟨ya,-⟩,⟨yb,yc,-⟩,-⟩:=hS.cells
 go_wp2_with fail
 refine wp_region_any (by kernel_rfl) ?_
 refine wpAny_det [some (16,.int .u64 n),some (17,.pointer (some ⟨w.heap.size,0,none⟩)),some (18,.int .u8 fl),some (19,.int .i64 er),some (6,.int .u64 n),some (7,.int .u8 fl),some (8,.int .i64 er)]
  (fun _ W9=>Fs w W9 [⟨w.heap.size,#[.int .u8 fl],65⟩,⟨w.heap.size+1,#[.int .i64 E,.int .i64 F],23⟩]) _ _ rfl (by kernel_rfl) rfl rfl ?_ ?_ (hS).drew
 ·intro l9 t9 W9 i9 hD hi9 hl9 hM
  obtain ⟨o9,ho9,hd9⟩:=(mem_ready.1 hi9).2
  have hin9:i9 < 7:=by
   by_cases h:i9 < 7
   ·exact h
   ·rw [Array.getElem?_eq_none (by rw [hD.len]; simp; omega)] at hl9; cases hl9
  have hcase:i9 = 0∨i9 = 1∨i9 = 2∨i9 = 3∨i9 = 4∨i9 = 5∨i9 = 6:=by omega
  clear hin9
  rcases hcase with rfl|rfl|rfl|rfl|rfl|rfl|rfl
  ·cases ho9
   have r9:=hD.old 9 _ rfl rfl
   refine wpOp_step rfl fun K hK=>?_
   go_simp
   exact hK _ _ ⟨rfl,hM⟩
  ·cases ho9
   have r3:=hD.old 3 _ rfl rfl
   refine wpOp_step rfl fun K hK=>?_
   go_simp
   exact hK _ _ ⟨rfl,hM⟩
  ·cases ho9
   have r17:=hD.od hd9 1 17 _ rfl (by simp)
   have hM0:=hM
   have c9_0:=hM0.cellAt (b:=w.heap.size) (cs:=#[.int .u8 fl]) (t:=65) (by simp) 0 _ rfl
   clear hM0
   refine wpOp_step rfl fun K hK=>?_
   go_simp
   exact hK _ _ ⟨rfl,hM⟩
  ·cases ho9
   have r10:=hD.old 10 _ rfl rfl
   refine wpOp_step rfl fun K hK=>?_
   go_simp
   exact hK _ _ ⟨rfl,hM⟩
  ·cases ho9
   have r16:=hD.od hd9 0 16 _ rfl (by simp)
   refine wpOp_step rfl fun K hK=>?_
   go_simp
   exact hK _ _ ⟨rfl,hM⟩
  ·cases ho9
   have r18:=hD.od hd9 2 18 _ rfl (by simp)
   refine wpOp_step rfl fun K hK=>?_
   go_simp
   exact hK _ _ ⟨rfl,hM⟩
  ·cases ho9
   have r19:=hD.od hd9 3 19 _ rfl (by simp)
   refine wpOp_step rfl fun K hK=>?_
   go_simp
   exact hK _ _ ⟨rfl,hM⟩
 ·intro l9 W9 hl9 hM
  clear hS ya yb yc
  have hS:=hM
  clear hM
  simp only [Puts.lay,List.setIfInBounds_toArray,List.set_cons_zero,List.set_cons_succ]
  obtain ⟨⟨yd,-⟩,⟨ye,yf,-⟩,-⟩:=hS.cells
  go_wp2
  go_ret3
  exact ⟨rfl,hS.fr⟩
theorem infrounded (neg:Bool) (fl E F md n er:Int) (H:Tel 131 #[.agg #[.int .i64 E,.int .i64 F],.bool neg] (.tuple #[.int .u64 n,.int .i64 er])) (w:World)  :
  Calls Tryz.prog 128 #[.agg #[.bool neg,.int .u8 fl],.agg #[.int .i64 E,.int .i64 F],.int .u8 md] w fun e w'=>e = .returned (.tuple #[.int .u64 n,.int .u8 fl,.int .i64 er])∧Below w.heap.size w w':=by
 go_enter Tryz.func128,Tryz.ntmps128
 go_wp2_with fail
 refine (H _).mono ?_
 rintro e w1 ⟨rfl,hb1⟩
 have hS:=(Fs.two w _ _ _ _).kept hb1
 obtain ⟨⟨ya,yb,-⟩,⟨yc,yd,-⟩,-⟩:=hS.cells
 go_wp2_with fail
 refine wp_region_any (by kernel_rfl) ?_
 refine wpAny_det [some (18,.int .u64 n),some (19,.pointer (some ⟨w.heap.size,1,none⟩)),some (20,.int .u8 fl),some (21,.int .i64 er),some (6,.int .u64 n),some (7,.int .u8 fl),some (8,.int .i64 er)]
  (fun _ W9=>Fs w W9 [⟨w.heap.size,#[.bool neg,.int .u8 fl],113⟩,⟨w.heap.size+1,#[.int .i64 E,.int .i64 F],23⟩]) _ _ rfl (by kernel_rfl) rfl rfl ?_ ?_ (hS).drew
 ·intro l9 t9 W9 i9 hD hi9 hl9 hM
  obtain ⟨o9,ho9,hd9⟩:=(mem_ready.1 hi9).2
  have hin9:i9 < 7:=by
   by_cases h:i9 < 7
   ·exact h
   ·rw [Array.getElem?_eq_none (by rw [hD.len]; simp; omega)] at hl9; cases hl9
  have hcase:i9 = 0∨i9 = 1∨i9 = 2∨i9 = 3∨i9 = 4∨i9 = 5∨i9 = 6:=by omega
  clear hin9
  rcases hcase with rfl|rfl|rfl|rfl|rfl|rfl|rfl
  ·cases ho9
   have r9:=hD.old 9 _ rfl rfl
   refine wpOp_step rfl fun K hK=>?_
   go_simp
   exact hK _ _ ⟨rfl,hM⟩
  ·cases ho9
   have r3:=hD.old 3 _ rfl rfl
   refine wpOp_step rfl fun K hK=>?_
   go_simp
   exact hK _ _ ⟨rfl,hM⟩
  ·cases ho9
   have r19:=hD.od hd9 1 19 _ rfl (by simp)
   have hM0:=hM
   have c9_0:=hM0.cellAt (b:=w.heap.size) (cs:=#[.bool neg,.int .u8 fl]) (t:=113) (by simp) 1 _ rfl
   clear hM0
   refine wpOp_step rfl fun K hK=>?_
   go_simp
   exact hK _ _ ⟨rfl,hM⟩
  ·cases ho9
   have r10:=hD.old 10 _ rfl rfl
   refine wpOp_step rfl fun K hK=>?_
   go_simp
   exact hK _ _ ⟨rfl,hM⟩
  ·cases ho9
   have r18:=hD.od hd9 0 18 _ rfl (by simp)
   refine wpOp_step rfl fun K hK=>?_
   go_simp
   exact hK _ _ ⟨rfl,hM⟩
  ·cases ho9
   have r20:=hD.od hd9 2 20 _ rfl (by simp)
   refine wpOp_step rfl fun K hK=>?_
   go_simp
   exact hK _ _ ⟨rfl,hM⟩
  ·cases ho9
   have r21:=hD.od hd9 3 21 _ rfl (by simp)
   refine wpOp_step rfl fun K hK=>?_
   go_simp
   exact hK _ _ ⟨rfl,hM⟩
 ·intro l9 W9 hl9 hM
  clear hS ya yb yc yd
  have hS:=hM
  clear hM
  simp only [Puts.lay,List.setIfInBounds_toArray,List.set_cons_zero,List.set_cons_succ]
  obtain ⟨⟨ye,yf,-⟩,⟨yg,yh,-⟩,-⟩:=hS.cells
  go_wp2
  go_ret3
  exact ⟨rfl,hS.fr⟩
theorem nourounded (neg:Bool) (fl E F md n er:Int) (H:Tel 143 #[.agg #[.int .i64 E,.int .i64 F],.bool neg] (.tuple #[.int .u64 n,.int .i64 er])) (w:World)  :
  Calls Tryz.prog 139 #[.agg #[.bool neg,.int .u8 fl],.agg #[.int .i64 E,.int .i64 F],.int .u8 md] w fun e w'=>e = .returned (.tuple #[.int .u64 n,.int .u8 fl,.int .i64 er])∧Below w.heap.size w w':=by
 go_enter Tryz.func139,Tryz.ntmps139
 go_wp2_with fail
 refine (H _).mono ?_
 rintro e w1 ⟨rfl,hb1⟩
 have hS:=(Fs.two w _ _ _ _).kept hb1
 obtain ⟨⟨ya,yb,-⟩,⟨yc,yd,-⟩,-⟩:=hS.cells
 go_wp2_with fail
 refine wp_region_any (by kernel_rfl) ?_
 refine wpAny_det [some (18,.int .u64 n),some (19,.pointer (some ⟨w.heap.size,1,none⟩)),some (20,.int .u8 fl),some (21,.int .i64 er),some (6,.int .u64 n),some (7,.int .u8 fl),some (8,.int .i64 er)]
  (fun _ W9=>Fs w W9 [⟨w.heap.size,#[.bool neg,.int .u8 fl],114⟩,⟨w.heap.size+1,#[.int .i64 E,.int .i64 F],23⟩]) _ _ rfl (by kernel_rfl) rfl rfl ?_ ?_ (hS).drew
 ·intro l9 t9 W9 i9 hD hi9 hl9 hM
  obtain ⟨o9,ho9,hd9⟩:=(mem_ready.1 hi9).2
  have hin9:i9 < 7:=by
   by_cases h:i9 < 7
   ·exact h
   ·rw [Array.getElem?_eq_none (by rw [hD.len]; simp; omega)] at hl9; cases hl9
  have hcase:i9 = 0∨i9 = 1∨i9 = 2∨i9 = 3∨i9 = 4∨i9 = 5∨i9 = 6:=by omega
  clear hin9
  rcases hcase with rfl|rfl|rfl|rfl|rfl|rfl|rfl
  ·cases ho9
   have r9:=hD.old 9 _ rfl rfl
   refine wpOp_step rfl fun K hK=>?_
   go_simp
   exact hK _ _ ⟨rfl,hM⟩
  ·cases ho9
   have r3:=hD.old 3 _ rfl rfl
   refine wpOp_step rfl fun K hK=>?_
   go_simp
   exact hK _ _ ⟨rfl,hM⟩
  ·cases ho9
   have r19:=hD.od hd9 1 19 _ rfl (by simp)
   have hM0:=hM
   have c9_0:=hM0.cellAt (b:=w.heap.size) (cs:=#[.bool neg,.int .u8 fl]) (t:=114) (by simp) 1 _ rfl
   clear hM0
   refine wpOp_step rfl fun K hK=>?_
   go_simp
   exact hK _ _ ⟨rfl,hM⟩
  ·cases ho9
   have r10:=hD.old 10 _ rfl rfl
   refine wpOp_step rfl fun K hK=>?_
   go_simp
   exact hK _ _ ⟨rfl,hM⟩
  ·cases ho9
   have r18:=hD.od hd9 0 18 _ rfl (by simp)
   refine wpOp_step rfl fun K hK=>?_
   go_simp
   exact hK _ _ ⟨rfl,hM⟩
  ·cases ho9
   have r20:=hD.od hd9 2 20 _ rfl (by simp)
   refine wpOp_step rfl fun K hK=>?_
   go_simp
   exact hK _ _ ⟨rfl,hM⟩
  ·cases ho9
   have r21:=hD.od hd9 3 21 _ rfl (by simp)
   refine wpOp_step rfl fun K hK=>?_
   go_simp
   exact hK _ _ ⟨rfl,hM⟩
 ·intro l9 W9 hl9 hM
  clear hS ya yb yc yd
  have hS:=hM
  clear hM
  simp only [Puts.lay,List.setIfInBounds_toArray,List.set_cons_zero,List.set_cons_succ]
  obtain ⟨⟨ye,yf,-⟩,⟨yg,yh,-⟩,-⟩:=hS.cells
  go_wp2
  go_ret3
  exact ⟨rfl,hS.fr⟩
theorem numrounded (s:Bool) (a:Option Addr) (n cap m:Nat) (x fl E F md b g o:Int) (w:World) (h:Mine w 0 a n cap m) (HD:Hid (∀ W:World,Mine W 0 a n cap m→Calls Tryz.prog 154 #[.agg #[.int .i64 E,.int .i64 F],.agg #[.bool s,.slice a n cap,.int .i64 x],.bool s,.int .u8 md] W fun e w'=>e = .returned (.tuple #[.int .u64 b,.int .u8 g,.int .i64 0])∧Below W.heap.size W w')) (ho:Go.bits .or .u8 g fl = o) :
  Calls Tryz.prog 149 #[.agg #[.bool s,.slice a n cap,.int .i64 x,.int .u8 fl],.agg #[.int .i64 E,.int .i64 F],.int .u8 md] w fun e w'=>e = .returned (.tuple #[.int .u64 b,.int .u8 o,.int .i64 0])∧Below w.heap.size w w':=by
 have H:=hide h
 clear h
 go_enter Tryz.func149,Tryz.ntmps149
 go_wp2_with fail
 refine (unhide HD _ ((unhide H).kept (Fs.two w _ _ _ _).fr)).mono ?_
 rintro e w1 ⟨rfl,hb1⟩
 have hS:=(Fs.two w _ _ _ _).kept hb1
 obtain ⟨⟨ya,yb,yc,yd,-⟩,⟨ye,yf,-⟩,-⟩:=hS.cells
 go_wp2_with fail
 refine wp_region_any (by kernel_rfl) ?_
 refine wpAny_det [some (24,.int .u64 b),some (25,.int .u8 g),some (26,.pointer (some ⟨w.heap.size,3,none⟩)),some (27,.int .u8 fl),some (28,.int .u8 o),some (29,.int .i64 0),some (6,.int .u64 b),some (7,.int .u8 o),some (8,.int .i64 0)]
  (fun _ W9=>Fs w W9 [⟨w.heap.size,#[.bool s,.slice a n cap,.int .i64 x,.int .u8 fl],116⟩,⟨w.heap.size+1,#[.int .i64 E,.int .i64 F],23⟩]) _ _ rfl (by kernel_rfl) rfl rfl ?_ ?_ (hS).drew
 ·intro l9 t9 W9 i9 hD hi9 hl9 hM
  obtain ⟨o9,ho9,hd9⟩:=(mem_ready.1 hi9).2
  have hin9:i9 < 9:=by
   by_cases h:i9 < 9
   ·exact h
   ·rw [Array.getElem?_eq_none (by rw [hD.len]; simp; omega)] at hl9; cases hl9
  have hcase:i9 = 0∨i9 = 1∨i9 = 2∨i9 = 3∨i9 = 4∨i9 = 5∨i9 = 6∨i9 = 7∨i9 = 8:=by omega
  clear hin9
  rcases hcase with rfl|rfl|rfl|rfl|rfl|rfl|rfl|rfl|rfl
  ·cases ho9
   have r9:=hD.old 9 _ rfl rfl
   refine wpOp_step rfl fun K hK=>?_
   go_simp
   exact hK _ _ ⟨rfl,hM⟩
  ·cases ho9
   have r10:=hD.old 10 _ rfl rfl
   refine wpOp_step rfl fun K hK=>?_
   go_simp
   exact hK _ _ ⟨rfl,hM⟩
  ·cases ho9
   have r3:=hD.old 3 _ rfl rfl
   refine wpOp_step rfl fun K hK=>?_
   go_simp
   exact hK _ _ ⟨rfl,hM⟩
  ·cases ho9
   have r26:=hD.od hd9 2 26 _ rfl (by simp)
   have hM0:=hM
   have c9_0:=hM0.cellAt (b:=w.heap.size) (cs:=#[.bool s,.slice a n cap,.int .i64 x,.int .u8 fl]) (t:=116) (by simp) 3 _ rfl
   clear hM0
   refine wpOp_step rfl fun K hK=>?_
   go_simp
   exact hK _ _ ⟨rfl,hM⟩
  ·cases ho9
   have r25:=hD.od hd9 1 25 _ rfl (by simp)
   have r27:=hD.od hd9 3 27 _ rfl (by simp)
   refine wpOp_step rfl fun K hK=>?_
   go_simp
   exact hK _ _ ⟨act_eq (by first|rfl|exact congrArg (Value.int .u8) ho|(rw [← ho]; rfl)|simp [ho]),hM⟩
  ·cases ho9
   have r11:=hD.old 11 _ rfl rfl
   refine wpOp_step rfl fun K hK=>?_
   go_simp
   exact hK _ _ ⟨rfl,hM⟩
  ·cases ho9
   have r24:=hD.od hd9 0 24 _ rfl (by simp)
   refine wpOp_step rfl fun K hK=>?_
   go_simp
   exact hK _ _ ⟨rfl,hM⟩
  ·cases ho9
   have r28:=hD.od hd9 4 28 _ rfl (by simp)
   refine wpOp_step rfl fun K hK=>?_
   go_simp
   exact hK _ _ ⟨rfl,hM⟩
  ·cases ho9
   have r29:=hD.od hd9 5 29 _ rfl (by simp)
   refine wpOp_step rfl fun K hK=>?_
   go_simp
   exact hK _ _ ⟨rfl,hM⟩
 ·intro l9 W9 hl9 hM
  clear hS ya yb yc yd ye yf
  have hS:=hM
  clear hM
  simp only [Puts.lay,List.setIfInBounds_toArray,List.set_cons_zero,List.set_cons_succ]
  obtain ⟨⟨yg,yh,yi,yj,-⟩,⟨yk,yl,-⟩,-⟩:=hS.cells
  go_wp2
  go_ret3
  exact ⟨rfl,hS.fr⟩
theorem rdyadic_is (E F mode:Nat) (h0:Fo E F) (hm:mode≤4) (s:Bool) (a:Option Addr) (n cap m:Nat) (x:Int) (ng:Bool) (gb fl:Int) (w:World) (B:Nat) (h:Mine w B a n cap m) (HC:Hid (∀ W:World,Num W a n m→Calls Tryz.prog 160 #[.agg #[.bool s,.slice a n cap,.int .i64 x]] W fun e w'=>e = .returned (.int .i64 0)∧Below W.heap.size W w')) (HR:Hid (∀ W:World,Mine W B a n cap m→Calls Tryz.prog 161 #[.agg #[.int .i64 E,.int .i64 F],.agg #[.bool s,.slice a n cap,.int .i64 x],.bool ng,.int .u8 (mode:Int)] W fun e w'=>e = .returned (.tuple #[.int .u64 gb,.int .u8 fl,.int .i64 0])∧Below W.heap.size W w')) :
  Calls Tryz.prog 154 #[.agg #[.int .i64 E,.int .i64 F],.agg #[.bool s,.slice a n cap,.int .i64 x],.bool ng,.int .u8 (mode:Int)] w fun e w'=>e = .returned (.tuple #[.int .u64 gb,.int .u8 fl,.int .i64 0])∧Below w.heap.size w w':=by
 have H:=hide h
 clear h
 go_enter Tryz.func154,Tryz.ntmps154
 go_wp2_with fail
 refine (check_ok _ _ _ h0).mono ?_
 rintro e w1 ⟨rfl,hb1⟩
 have hS:=(Fs.two w _ _ _ _).kept hb1
 obtain ⟨⟨ya,yb,-⟩,⟨yc,yd,ye,-⟩,-⟩:=hS.cells
 go_wp2_with fail
 refine (unhide HC _ ((unhide H).kept hS.fr).num).mono ?_
 rintro e w2 ⟨rfl,hb2⟩
 replace hS:=hS.kept hb2
 clear ya yb yc yd ye
 obtain ⟨⟨yf,yg,-⟩,⟨yh,yi,yj,-⟩,-⟩:=hS.cells
 go_wp2_with fail
 refine (mode_ok mode hm _).mono ?_
 rintro e w3 ⟨rfl,hb3⟩
 replace hS:=hS.kept hb3
 clear yf yg yh yi yj
 obtain ⟨⟨yk,yl,-⟩,⟨ym,yn,yo,-⟩,-⟩:=hS.cells
 go_wp2_with fail
 refine (unhide HR _ ((unhide H).kept hS.fr)).mono ?_
 rintro e w4 ⟨rfl,hb4⟩
 replace hS:=hS.kept hb4
 clear yk yl ym yn yo
 obtain ⟨⟨yp,yq,-⟩,⟨yr,ys,yt,-⟩,-⟩:=hS.cells
 go_wp2
 go_ret3
 exact ⟨rfl,hS.fr⟩
def blen (m:Nat):Nat:=if m = 0 then 0 else m.log2+1
theorem bl_blen (m:Nat):Bl m (blen m):=by
 unfold blen
 by_cases h:m = 0
 ·rw [if_pos h,h]; exact ⟨by decide,Or.inl rfl⟩
 ·rw [if_neg h]
  refine ⟨Nat.lt_log2_self,Or.inr ?_⟩
  rw [Nat.add_sub_cancel]
  exact Nat.log2_self_le h
theorem Bl.le_of {m k n:Nat} (h:Bl m k) (hm:m < 2 ^ n):k≤n:=by
 rcases h.2 with h0|h1
 ·omega
 ·exact Nat.le_of_not_lt fun hlt=>by
   have:2 ^ n≤2 ^ (k - 1):=pow_bound (by omega)
   omega
theorem Bl.gt_of {m k n:Nat} (h:Bl m k) (hm:2 ^ n≤m):n < k:=by
 refine Nat.lt_of_not_le fun hle=>?_
 have:=pow_bound hle
 have:=h.1
 omega
def cutR (md:Nat) (s:Bool) (m:Nat) (x t:Int):Nat:=if t≤x then m * 2 ^ (x - t).toNat else cutN md s m (t - x).toNat
def lastP (B F k:Nat) (x:Int):Int:=max (1 - (B:Int) - (F:Int)) (x+(k:Int) - 1 - (F:Int))
def rowR (B F md:Nat) (s:Bool) (m k:Nat) (x:Int):Nat:=(lastP B F k x - (1 - (B:Int) - (F:Int))).toNat * 2 ^ F+cutR md s m x (lastP B F k x)
def freeR (F md:Nat) (s:Bool) (m k:Nat) (x:Int):Int:=(blen (cutR md s m x (x+(k:Int) - 1 - (F:Int))):Int) - 1+(x+(k:Int) - 1 - (F:Int))
def flagR (B F I md:Nat) (s:Bool) (m k:Nat) (x:Int):Nat:=if I≤rowR B F md s m k x then 3 else if lastP B F k x≤x then 0 else if freeR F md s m k x < 1 - (B:Int) then 5 else 1
def bitsR (S I md:Nat) (s:Bool) (r:Nat):Nat:=(if s then S else 0)+(if r < I then r else if fth md s false 1 then I else I - 1)
theorem cut_le {md:Nat} {s:Bool} {m dr n:Nat} (h:m / 2 ^ dr < 2 ^ n):cutN md s m dr≤2 ^ n:=by
 unfold cutN; split <;> omega
theorem cut_ge {md:Nat} {s:Bool} {m dr n:Nat} (h:2 ^ n≤m / 2 ^ dr):2 ^ n≤cutN md s m dr:=by
 unfold cutN; omega
theorem cutR_le {md:Nat} {s:Bool} {m k F:Nat} {x t:Int} (hk:Bl m k) (h0:0 < m) (ht:x+(k:Int) - 1 - (F:Int)≤t):cutR md s m x t≤2 ^ (F+1):=by
 have hk1:=hk.1
 have hkp:0 < k:=by
  rcases Nat.eq_zero_or_pos k with h|h
  ·rw [h] at hk1; simp at hk1; omega
  ·exact h
 unfold cutR
 by_cases hx:t≤x
 ·rw [if_pos hx]
  obtain ⟨j,hj⟩:∃ j,(x - t).toNat = j:=⟨_,rfl⟩
  rw [hj]
  have hle:k+j≤F+1:=by omega
  have h1:m * 2 ^ j≤2 ^ k * 2 ^ j:=Nat.mul_le_mul_right _ (by omega)
  rw [← Nat.pow_add] at h1
  exact Nat.le_trans h1 (pow_bound hle)
 ·rw [if_neg hx]
  obtain ⟨j,hj⟩:∃ j,(t - x).toNat = j:=⟨_,rfl⟩
  rw [hj]
  refine cut_le ?_
  rw [Nat.div_lt_iff_lt_mul (pow_pos2 _),← Nat.pow_add]
  exact Nat.lt_of_lt_of_le hk1 (pow_bound (by omega))
theorem cutR_ge {md:Nat} {s:Bool} {m k F:Nat} {x t:Int} (hk:Bl m k) (h0:0 < m) (ht:x+(k:Int) - 1 - (F:Int) = t):2 ^ F≤cutR md s m x t:=by
 have hk1:=hk.1
 have hkp:0 < k:=by
  rcases Nat.eq_zero_or_pos k with h|h
  ·rw [h] at hk1; simp at hk1; omega
  ·exact h
 have hge:2 ^ (k - 1)≤m:=by rcases hk.2 with h|h; omega; exact h
 unfold cutR
 by_cases hx:t≤x
 ·rw [if_pos hx]
  obtain ⟨j,hj⟩:∃ j,(x - t).toNat = j:=⟨_,rfl⟩
  rw [hj]
  have h1:2 ^ (k - 1) * 2 ^ j≤m * 2 ^ j:=Nat.mul_le_mul_right _ hge
  rw [← Nat.pow_add] at h1
  exact Nat.le_trans (pow_bound (by omega)) h1
 ·rw [if_neg hx]
  obtain ⟨j,hj⟩:∃ j,(t - x).toNat = j:=⟨_,rfl⟩
  rw [hj]
  refine cut_ge ?_
  rw [Nat.le_div_iff_mul_le (pow_pos2 _),← Nat.pow_add]
  exact Nat.le_trans (pow_bound (by omega)) hge
theorem cut_any (s:Bool) (a:Option Addr) (n cap m md F k:Nat) (x t:Int) (w:World) (h:Num w a n m) (hcap:n≤cap) (hcap2:cap≤9223372036854775807) (hm:md≤4) (hk:Bl m k) (h0:0 < m) (hF:F≤52) (hx:-2147483648≤x∧x≤2147483648) (ht2:-2147483648≤t∧t≤2147483648) (ht:x+(k:Int) - 1 - (F:Int)≤t) :
  Calls Tryz.prog 171 #[.agg #[.bool s,.slice a n cap,.int .i64 x],.int .i64 t,.int .u8 (md:Int)] w fun e w'=>e = .returned (.tuple #[.int .u64 (cutR md s m x t:Int),.bool (decide (t≤x))])∧Below w.heap.size w w':=by
 have hk1:=hk.1
 have hkp:0 < k:=by
  rcases Nat.eq_zero_or_pos k with h|h
  ·rw [h] at hk1; simp at hk1; omega
  ·exact h
 have hle:=cutR_le (md:=md) (s:=s) hk h0 ht
 have hp53:2 ^ (F+1)≤2 ^ 53:=pow_bound (by omega)
 have e53:(2:Nat) ^ 53 = 9007199254740992:=by decide
 unfold cutR at *
 by_cases hxt:t≤x
 ·rw [if_pos hxt] at hle ⊢
  rw [decide_eq_true hxt]
  obtain ⟨j,hj⟩:∃ j,(x - t).toNat = j:=⟨_,rfl⟩
  rw [hj] at hle ⊢
  have hk53:m < 2 ^ 53:=Nat.lt_of_lt_of_le hk1 (pow_bound (by omega))
  have:=cut_whole s a n cap m j md x w h (by omega) (by omega) (by omega)
  rw [show x - (j:Int) = t from by omega] at this
  exact this
 ·rw [if_neg hxt] at hle ⊢
  rw [decide_eq_false hxt]
  obtain ⟨j,hj⟩:∃ j,(t - x).toNat = j:=⟨_,rfl⟩
  rw [hj] at hle ⊢
  have hq:m / 2 ^ j < 9223372036854775808:=by
   have:m / 2 ^ j≤cutN md s m j:=by unfold cutN; omega
   omega
  have:=cut_drop s a n cap m j md x w h hcap hcap2 hm (by omega) (by omega) hq
  rw [show x+(j:Int) = t from by omega] at this
  exact this
theorem bias2 {E B:Nat} (hE:2≤E) (HB:B = 2 ^ (E - 1) - 1):2 * B+1 = 2 ^ E - 1∧1≤B:=by
 obtain ⟨e,rfl⟩:∃ e,E = e+2:=⟨E - 2,by omega⟩
 rw [show e+2 - 1 = e+1 from by omega] at HB
 have h1:2 ^ (e+2) = 2 * 2 ^ (e+1):=by rw [Nat.pow_succ,Nat.mul_comm]
 have h2:2 ^ (e+1) = 2 * 2 ^ e:=by rw [Nat.pow_succ,Nat.mul_comm]
 have:=pow_pos2 e
 omega
theorem over_iff {B F N kN I:Nat} {t:Int} (hkN:Bl N kN) (hN:N≤2 ^ (F+1)) (hlo:t = 1 - (B:Int) - (F:Int)∨(1 - (B:Int) - (F:Int) < t∧2 ^ F≤N)) (hB:1≤B) (hI:I = (2 * B+1) * 2 ^ F) :
  (B:Int) < (kN:Int) - 1+t↔I≤(t - (1 - (B:Int) - (F:Int))).toNat * 2 ^ F+N:=by
 obtain ⟨st,hst⟩:∃ st,(t - (1 - (B:Int) - (F:Int))).toNat = st:=⟨_,rfl⟩
 rw [hst]
 have hts:t = (st:Int)+(1 - (B:Int) - (F:Int)):=by omega
 have p0:=pow_pos2 F
 have p1:2 ^ (F+1) = 2 * 2 ^ F:=by rw [Nat.pow_succ,Nat.mul_comm]
 have kle:kN≤F+2:=hkN.le_of (by rw [show F+2 = F+1+1 from rfl,Nat.pow_succ]; have:=pow_pos2 (F+1); omega)
 obtain ⟨P,hP⟩:∃ P,P = 2 ^ F:=⟨_,rfl⟩
 rw [p1] at hN
 rw [← hP] at hN hlo p0 hI ⊢
 by_cases c0:N < P
 ·have hz:st = 0:=by rcases hlo with h|h <;> omega
  have k0:kN≤F:=hkN.le_of (by rw [← hP]; exact c0)
  subst hz
  constructor
  ·intro h; omega
  ·intro h
   exfalso
   have:P≤(2 * B+1) * P:=Nat.le_mul_of_pos_left _ (by omega)
   omega
 ·have k1:F < kN:=hkN.gt_of (by rw [← hP]; omega)
  by_cases c1:N < 2 * P
  ·have k2:kN = F+1:=by
    have:=hkN.le_of (n:=F+1) (by rw [p1,← hP]; exact c1)
    omega
   constructor
   ·intro h
    have hs:2 * B≤st:=by omega
    have:=Nat.mul_le_mul_right P hs
    rw [hI,Nat.add_mul,Nat.one_mul]
    omega
   ·intro h
    have hs:2 * B≤st:=by
     refine Nat.le_of_not_lt fun hc=>?_
     have:=Nat.mul_le_mul_right P (show st+1≤2 * B from hc)
     rw [Nat.add_mul,Nat.one_mul] at this
     rw [hI,Nat.add_mul,Nat.one_mul] at h
     omega
    omega
  ·have k2:kN = F+2:=by
    have:=hkN.gt_of (n:=F+1) (by rw [p1,← hP]; omega)
    omega
   obtain ⟨Bm,rfl⟩:∃ Bm,B = Bm+1:=⟨B - 1,by omega⟩
   constructor
   ·intro h
    have hs:2 * Bm+1≤st:=by omega
    have h2:=Nat.mul_le_mul_right P hs
    rw [show 2 * (Bm+1)+1 = 2 * Bm+1+2 from by omega,Nat.add_mul] at hI
    omega
   ·intro h
    have hs:2 * Bm+1≤st:=by
     refine Nat.le_of_not_lt fun hc=>?_
     have h2:=Nat.mul_le_mul_right P (show st+1≤2 * Bm+1 from hc)
     rw [Nat.add_mul,Nat.one_mul] at h2
     rw [show 2 * (Bm+1)+1 = 2 * Bm+1+2 from by omega,Nat.add_mul] at hI
     omega
    omega
theorem Num.bl {w:World} {a:Option Addr} {n m k:Nat} (h:Num w a n m) (hk:Bl m k):k≤524288:=by
 have h1:=h.lt
 rw [show (4294967296:Nat) ^ Pl.top = 2 ^ (32 * Pl.top) from by rw [Nat.pow_mul]] at h1
 have:=hk.le_of h1
 have:=Pl.top_eq
 omega
theorem rounded_any {E F S I B md:Nat} (h:Fm E F S I) (hB:B = 2 ^ (E - 1) - 1) (hm:md≤4) (ng s:Bool) (a:Option Addr) (n cap m k:Nat) (x:Int) (W:World) (Bs:Nat) (g:Mine W Bs a n cap m) (hA:m % 2 = 1∧-1073741824≤x∧x≤1073741824) (hk:Bl m k) :
  Calls Tryz.prog 161 #[.agg #[.int .i64 E,.int .i64 F],.agg #[.bool s,.slice a n cap,.int .i64 x],.bool ng,.int .u8 (md:Int)] W fun e w'=>e = .returned (.tuple #[.int .u64 (bitsR S I md s (rowR B F md s m k x):Int),.int .u8 (flagR B F I md s m k x:Int),.int .i64 0])∧Below W.heap.size W w':=by
 obtain ⟨hc1,hc2⟩:=mine_caps g
 have h0:0 < m:=by omega
 have hn:0 < n:=by have:=g.num.zero; omega
 have hk2:=g.num.bl hk
 have hF:=h.fo.f52
 have hF1:=h.fo.f1
 have hE:=h.fo.e2
 obtain ⟨b2,b1⟩:=bias2 hE hB
 have hI:I = (2 * B+1) * 2 ^ F:=by rw [b2]; exact h.hI
 have hB10:B≤1023:=by
  have:=pow_bound (n:=E - 1) (k:=10) (by have:=h.fo.e11; omega)
  have e10:(2:Nat) ^ 10 = 1024:=by decide
  omega
 obtain ⟨t,ht⟩:∃ t,lastP B F k x = t:=⟨_,rfl⟩
 have htd:=ht
 unfold lastP at htd
 obtain ⟨N,hN⟩:∃ N,cutR md s m x t = N:=⟨_,rfl⟩
 have hNle:N≤2 ^ (F+1):=by rw [← hN]; exact cutR_le hk h0 (by omega)
 have hlo:t = 1 - (B:Int) - (F:Int)∨(1 - (B:Int) - (F:Int) < t∧2 ^ F≤N):=by
  by_cases c:t = 1 - (B:Int) - (F:Int)
  ·exact Or.inl c
  ·exact Or.inr ⟨by omega,by rw [← hN]; exact cutR_ge hk h0 (by omega)⟩
 have hkN:=bl_blen N
 have hiff:=over_iff hkN hNle hlo b1 hI
 have hp53:2 ^ (F+1)≤2 ^ 53:=pow_bound (by omega)
 have e53:(2:Nat) ^ 53 = 9007199254740992:=by decide
 have hkN2:blen N≤64:=hkN.le_of (Nat.lt_of_le_of_lt hNle (Nat.lt_of_le_of_lt hp53 (by decide)))
 have HC:∀ W:World,Num W a n m→Calls Tryz.prog 171 #[.agg #[.bool s,.slice a n cap,.int .i64 x],.int .i64 t,.int .u8 (md:Int)] W fun e w'=>e = .returned (.tuple #[.int .u64 N,.bool (decide (t≤x))])∧Below W.heap.size W w':=fun W g=>by
  have:=cut_any s a n cap m md F k x t W g hc1 hc2 hm hk h0 hF (by omega) (by omega) (by omega)
  rw [hN] at this
  exact this
 have hr:rowR B F md s m k x = (t - (1 - (B:Int) - (F:Int))).toNat * 2 ^ F+N:=by unfold rowR; rw [ht,hN]
 obtain ⟨st,hst⟩:∃ st,(t - (1 - (B:Int) - (F:Int))).toNat = st:=⟨_,rfl⟩
 rw [hst] at hr hiff
 unfold bitsR flagR
 rw [hr,ht]
 by_cases hov:I≤st * 2 ^ F+N
 ·rw [if_neg (show ¬ st * 2 ^ F+N < I by omega),if_pos hov]
  have hov2:=hiff.2 hov
  have hlt:=h.lt
  have hfar:=farther_any md s false 1 hm (Or.inr (Or.inr rfl))
  by_cases hf:fth md s false 1 = true
  ·rw [if_pos hf]
   have hbt:Bt E F ((if s then S else 0)+I) s (2 ^ E - 1) 0:=⟨pow_pos2 _,by have:=pow_pos2 E; omega,by rw [← h.hS,← h.hI]; cases s <;> simp⟩
   refine rounded_over E F B md ng s a n cap m k x t N (blen N) (decide (t≤x)) _ W h.fo (hide hB) g.num hn hk hk2 hA.2 htd (hide HC) (by omega) hkN hkN2 hov2 (hide fun W=>?_)
   exact over_inf E F _ (2 ^ E - 1) md s h.fo W hbt (hide rfl) (hide fun W=>by have:=hfar W; rw [hf] at this; exact this)
  ·rw [if_neg hf]
   have hf':fth md s false 1 = false:=by simpa using hf
   have hp:=pow_pos2 F
   have hE4:2 ^ 2≤2 ^ E:=pow_bound hE
   have hbt:Bt E F ((if s then S else 0)+(I - 1)) s (2 ^ E - 2) (2 ^ F - 1):=by
    refine ⟨by omega,by omega,?_⟩
    have e1:(2 ^ E - 2) * 2 ^ F+(2 ^ F - 1) = I - 1:=by
     rw [h.hI]
     obtain ⟨q,hq⟩:∃ q,2 ^ E = q+2:=⟨2 ^ E - 2,by omega⟩
     rw [hq,show q+2 - 2 = q from by omega,show q+2 - 1 = q+1 from by omega,Nat.add_mul,Nat.one_mul]
     omega
    rw [← h.hS,e1]; cases s <;> simp
   refine rounded_over E F B md ng s a n cap m k x t N (blen N) (decide (t≤x)) _ W h.fo (hide hB) g.num hn hk hk2 hA.2 htd (hide HC) (by omega) hkN hkN2 hov2 (hide fun W=>?_)
   exact over_top E F _ (2 ^ E - 2) (2 ^ F - 1) md s h.fo W hbt (hide (by omega)) (hide rfl) (hide fun W=>by have:=hfar W; rw [hf'] at this; exact this)
 ·rw [if_pos (show st * 2 ^ F+N < I by omega),if_neg hov]
  have hov2:(blen N:Int) - 1+t≤(B:Int):=by
   refine Int.not_lt.1 fun hc=>hov (hiff.1 hc)
  have hp:=pow_pos2 F
  have p1:2 ^ (F+1) = 2 * 2 ^ F:=by rw [Nat.pow_succ,Nat.mul_comm]
  obtain ⟨hd,hhd⟩:∃ hd,hd = N / 2 ^ F:=⟨_,rfl⟩
  have hdm:=Nat.div_add_mod N (2 ^ F)
  have hml:=Nat.mod_lt N hp
  rw [← hhd,Nat.mul_comm] at hdm
  have hd2:hd≤2:=by
   rw [hhd]
   exact Nat.le_of_lt_succ ((Nat.div_lt_iff_lt_mul hp).2 (by omega))
  have hsum:(st+hd) * 2 ^ F+N % 2 ^ F = st * 2 ^ F+N:=by rw [Nat.add_mul]; omega
  have hlt2:st+hd < 2 ^ E - 1:=by
   refine Nat.lt_of_not_le fun hc=>?_
   have:=Nat.mul_le_mul_right (2 ^ F) hc
   rw [← h.hI] at this
   omega
  have hE11:2 ^ E≤2 ^ 11:=pow_bound h.fo.e11
  have e11:(2:Nat) ^ 11 = 2048:=by decide
  have hfr:N % 2 ^ F = N - hd * 2 ^ F:=by omega
  have hbt:Bt E F ((if s then S else 0)+(st * 2 ^ F+N)) s (st+hd) (N % 2 ^ F):=⟨hml,by omega,by rw [hsum,← h.hS]; cases s <;> simp⟩
  have HS9:Hid (t - (1 - (B:Int) - (F:Int)) = (st:Int)):=hide (by omega)
  by_cases hw:t≤x
  ·rw [if_pos hw]
   rw [decide_eq_true hw] at HC
   exact rounded_whole E F B md ng s a n cap m k x t N (blen N) _ st hd (N % 2 ^ F) W h.fo (hide hB) g.num hn hk hk2 hA.2 htd (hide HC) (by omega) hkN hkN2 hov2 HS9 (by omega) hhd hd2 hfr hbt
  ·rw [if_neg hw]
   rw [decide_eq_false hw] at HC
   obtain ⟨N2,hN2⟩:∃ N2,cutR md s m x (x+(k:Int) - 1 - (F:Int)) = N2:=⟨_,rfl⟩
   have hN2le:N2≤2 ^ (F+1):=by rw [← hN2]; exact cutR_le hk h0 (Int.le_refl _)
   have HM:∀ W:World,Num W a n m→Calls Tryz.prog 174 #[.agg #[.bool s,.slice a n cap,.int .i64 x],.int .i64 (x+(k:Int) - 1 - (F:Int)),.int .i64 (1 - (B:Int)),.int .u8 (md:Int)] W fun e w'=>e = .returned (.bool (decide ((blen N2:Int) - 1+(x+(k:Int) - 1 - (F:Int)) < 1 - (B:Int))))∧Below W.heap.size W w':=fun W g=>by
    refine small_is s a n cap x _ _ md N2 (blen N2) (decide (x+(k:Int) - 1 - (F:Int)≤x)) W (hide fun W' hb=>?_) (by omega) (bl_blen N2) ((bl_blen N2).le_of (Nat.lt_of_le_of_lt hN2le (Nat.lt_of_le_of_lt hp53 (by decide)))) (by omega)
    have:=cut_any s a n cap m md F k x (x+(k:Int) - 1 - (F:Int)) W' (g.kept hb) hc1 hc2 hm hk h0 hF (by omega) (by omega) (Int.le_refl _)
    rw [hN2] at this
    exact this
   have hfree:freeR F md s m k x = (blen N2:Int) - 1+(x+(k:Int) - 1 - (F:Int)):=by unfold freeR; rw [hN2]
   rw [hfree]
   by_cases hs:(blen N2:Int) - 1+(x+(k:Int) - 1 - (F:Int)) < 1 - (B:Int)
   ·rw [if_pos hs]
    rw [decide_eq_true hs] at HM
    exact rounded_small E F B md ng s a n cap m k x t N (blen N) _ st hd (N % 2 ^ F) W h.fo (hide hB) g.num hn hk hk2 hA.2 htd (hide HC) (by omega) hkN hkN2 hov2 HS9 (by omega) hhd hd2 hfr hbt (hide HM)
   ·rw [if_neg hs]
    rw [decide_eq_false hs] at HM
    exact rounded_plain E F B md ng s a n cap m k x t N (blen N) _ st hd (N % 2 ^ F) W h.fo (hide hB) g.num hn hk hk2 hA.2 htd (hide HC) (by omega) hkN hkN2 hov2 HS9 (by omega) hhd hd2 hfr hbt (hide HM)
theorem rdyadic_any {E F S I B md:Nat} (h:Fm E F S I) (hB:B = 2 ^ (E - 1) - 1) (hm:md≤4) (ng s:Bool) (a:Option Addr) (n cap m k:Nat) (x:Int) (W:World) (Bs:Nat) (g:Mine W Bs a n cap m) (hA:m % 2 = 1∧-1073741824≤x∧x≤1073741824) (hk:Bl m k) :
  Calls Tryz.prog 154 #[.agg #[.int .i64 E,.int .i64 F],.agg #[.bool s,.slice a n cap,.int .i64 x],.bool ng,.int .u8 (md:Int)] W fun e w'=>e = .returned (.tuple #[.int .u64 (bitsR S I md s (rowR B F md s m k x):Int),.int .u8 (flagR B F I md s m k x:Int),.int .i64 0])∧Below W.heap.size W w':=
 rdyadic_is E F md h.fo hm s a n cap m x ng _ _ W Bs g (hide fun W g=>dcheck_dy s a n cap m x W ⟨g,Or.inr hA⟩) (hide fun W g=>rounded_any h hB hm ng s a n cap m k x W Bs g hA hk)
theorem of_is (x y z:Int) (w:World)  :
  Calls Tryz.prog 4 #[.int .u64 x,.int .u8 y,.int .i64 z] w fun e w'=>e = .returned (.agg #[.int .u64 x,.int .u8 y,.int .i64 z])∧Below w.heap.size w w':=by
 go_enter Tryz.func4,Tryz.ntmps4
 go_wp2
 exact bodyPost_ret (v:=.agg #[.int .u64 x,.int .u8 y,.int .i64 z]) (by simp [results,Tryz.results4,go_sem]) rfl ⟨rfl,(Fs.one w _ _).fr⟩
theorem fmas_law (E F a b c:Int) (md:Nat) (x1 y1 z1 x2 y2 z2:Int) (Hs1:Hid (∀ W:World,Tb W→Nb W→Calls Tryz.prog 5 #[.agg #[.int .i64 E,.int .i64 F],.int .u64 a,.int .u64 b,.int .u64 c,.int .u8 (md:Int)] W fun e w'=>e = .returned (.tuple #[.int .u64 x1,.int .u8 y1,.int .i64 z1])∧Below W.heap.size W w')) (Hr1:Tel 6 #[.agg #[.int .i64 E,.int .i64 F],.int .u64 a,.int .u64 b,.int .u64 c,.int .u8 (md:Int)] (.tuple #[.int .u64 x1,.int .u8 y1,.int .i64 z1])) (Hs2:Hid (∀ W:World,Tb W→Nb W→Calls Tryz.prog 5 #[.agg #[.int .i64 E,.int .i64 F],.int .u64 b,.int .u64 c,.int .u64 a,.int .u8 (md:Int)] W fun e w'=>e = .returned (.tuple #[.int .u64 x2,.int .u8 y2,.int .i64 z2])∧Below W.heap.size W w')) (Hr2:Tel 6 #[.agg #[.int .i64 E,.int .i64 F],.int .u64 b,.int .u64 c,.int .u64 a,.int .u8 (md:Int)] (.tuple #[.int .u64 x2,.int .u8 y2,.int .i64 z2]))  (w:World) (hT:Tb w) (hN:Nb w) :
  Calls Tryz.prog 3 #[.agg #[.int .i64 E,.int .i64 F,.int .u64 a,.int .u64 b,.int .u64 c,.int .u8 (md:Int)]] w fun e w'=>e = .returned (.bool true)∧Below w.heap.size w w':=by
 have HT:=hide hT
 have HNb:=hide hN
 clear hT hN
 go_enter Tryz.func3,Tryz.ntmps3
 go_wp2_with fail
 refine wp_region_any (by kernel_rfl) ?_
 refine wpAny_det [some (5,.pointer (some ⟨w.heap.size,0,none⟩)),some (6,.agg #[.int .i64 E,.int .i64 F]),some (7,.pointer (some ⟨w.heap.size,2,none⟩)),some (8,.int .u64 a),some (9,.pointer (some ⟨w.heap.size,3,none⟩)),some (10,.int .u64 b),some (11,.pointer (some ⟨w.heap.size,4,none⟩)),some (12,.int .u64 c),some (13,.pointer (some ⟨w.heap.size,5,none⟩)),some (14,.int .u8 (md:Int)),some (15,.tuple #[.int .u64 x1,.int .u8 y1,.int .i64 z1]),some (16,.int .u64 x1),some (17,.int .u8 y1),some (18,.int .i64 z1),some (19,.agg #[.int .u64 x1,.int .u8 y1,.int .i64 z1]),some (20,.pointer (some ⟨w.heap.size,0,none⟩)),some (21,.agg #[.int .i64 E,.int .i64 F]),some (22,.pointer (some ⟨w.heap.size,2,none⟩)),some (23,.int .u64 a),some (24,.pointer (some ⟨w.heap.size,3,none⟩)),some (25,.int .u64 b),some (26,.pointer (some ⟨w.heap.size,4,none⟩)),some (27,.int .u64 c),some (28,.pointer (some ⟨w.heap.size,5,none⟩)),some (29,.int .u8 (md:Int)),some (30,.tuple #[.int .u64 x1,.int .u8 y1,.int .i64 z1]),some (31,.int .u64 x1),some (32,.int .u8 y1),some (33,.int .i64 z1),some (34,.agg #[.int .u64 x1,.int .u8 y1,.int .i64 z1]),some (35,.bool true),some (3,.bool true)]
  (fun _ W9=>Fs w W9 [⟨w.heap.size,#[.int .i64 E,.int .i64 F,.int .u64 a,.int .u64 b,.int .u64 c,.int .u8 (md:Int)],26⟩]) _ _ rfl (by kernel_rfl) rfl rfl ?_ ?_ (Fs.one w _ _).drew
 ·intro l9 t9 W9 i9 hD hi9 hl9 hM
  obtain ⟨o9,ho9,hd9⟩:=(mem_ready.1 hi9).2
  have hin9:i9 < 32:=by
   by_cases h:i9 < 32
   ·exact h
   ·rw [Array.getElem?_eq_none (by rw [hD.len]; simp; omega)] at hl9; cases hl9
  have hcase:i9 = 0∨i9 = 1∨i9 = 2∨i9 = 3∨i9 = 4∨i9 = 5∨i9 = 6∨i9 = 7∨i9 = 8∨i9 = 9∨i9 = 10∨i9 = 11∨i9 = 12∨i9 = 13∨i9 = 14∨i9 = 15∨i9 = 16∨i9 = 17∨i9 = 18∨i9 = 19∨i9 = 20∨i9 = 21∨i9 = 22∨i9 = 23∨i9 = 24∨i9 = 25∨i9 = 26∨i9 = 27∨i9 = 28∨i9 = 29∨i9 = 30∨i9 = 31:=by omega
  clear hin9
  rcases hcase with rfl|rfl|rfl|rfl|rfl|rfl|rfl|rfl|rfl|rfl|rfl|rfl|rfl|rfl|rfl|rfl|rfl|rfl|rfl|rfl|rfl|rfl|rfl|rfl|rfl|rfl|rfl|rfl|rfl|rfl|rfl|rfl
  ·cases ho9
   have r1:=hD.old 1 _ rfl rfl
   refine wpOp_step rfl fun K hK=>?_
   go_simp
   exact hK _ _ ⟨rfl,hM⟩
  ·cases ho9
   have r5:=hD.od hd9 0 5 _ rfl (by simp)
   have hM0:=hM
   have Q_:=hM0.cellAt (b:=w.heap.size) (cs:=#[.int .i64 E,.int .i64 F,.int .u64 a,.int .u64 b,.int .u64 c,.int .u8 (md:Int)]) (t:=26) (by simp)
   have c9_0:=Q_ 0 _ rfl
   have c9_1:=Q_ 1 _ rfl
   clear Q_
   clear hM0
   refine wpOp_step rfl fun K hK=>?_
   go_simp
   exact hK _ _ ⟨rfl,hM⟩
  ·cases ho9
   have r1:=hD.old 1 _ rfl rfl
   refine wpOp_step rfl fun K hK=>?_
   go_simp
   exact hK _ _ ⟨rfl,hM⟩
  ·cases ho9
   have r7:=hD.od hd9 2 7 _ rfl (by simp)
   have hM0:=hM
   have c9_0:=hM0.cellAt (b:=w.heap.size) (cs:=#[.int .i64 E,.int .i64 F,.int .u64 a,.int .u64 b,.int .u64 c,.int .u8 (md:Int)]) (t:=26) (by simp) 2 _ rfl
   clear hM0
   refine wpOp_step rfl fun K hK=>?_
   go_simp
   exact hK _ _ ⟨rfl,hM⟩
  ·cases ho9
   have r1:=hD.old 1 _ rfl rfl
   refine wpOp_step rfl fun K hK=>?_
   go_simp
   exact hK _ _ ⟨rfl,hM⟩
  ·cases ho9
   have r9:=hD.od hd9 4 9 _ rfl (by simp)
   have hM0:=hM
   have c9_0:=hM0.cellAt (b:=w.heap.size) (cs:=#[.int .i64 E,.int .i64 F,.int .u64 a,.int .u64 b,.int .u64 c,.int .u8 (md:Int)]) (t:=26) (by simp) 3 _ rfl
   clear hM0
   refine wpOp_step rfl fun K hK=>?_
   go_simp
   exact hK _ _ ⟨rfl,hM⟩
  ·cases ho9
   have r1:=hD.old 1 _ rfl rfl
   refine wpOp_step rfl fun K hK=>?_
   go_simp
   exact hK _ _ ⟨rfl,hM⟩
  ·cases ho9
   have r11:=hD.od hd9 6 11 _ rfl (by simp)
   have hM0:=hM
   have c9_0:=hM0.cellAt (b:=w.heap.size) (cs:=#[.int .i64 E,.int .i64 F,.int .u64 a,.int .u64 b,.int .u64 c,.int .u8 (md:Int)]) (t:=26) (by simp) 4 _ rfl
   clear hM0
   refine wpOp_step rfl fun K hK=>?_
   go_simp
   exact hK _ _ ⟨rfl,hM⟩
  ·cases ho9
   have r1:=hD.old 1 _ rfl rfl
   refine wpOp_step rfl fun K hK=>?_
   go_simp
   exact hK _ _ ⟨rfl,hM⟩
  ·cases ho9
   have r13:=hD.od hd9 8 13 _ rfl (by simp)
   have hM0:=hM
   have c9_0:=hM0.cellAt (b:=w.heap.size) (cs:=#[.int .i64 E,.int .i64 F,.int .u64 a,.int .u64 b,.int .u64 c,.int .u8 (md:Int)]) (t:=26) (by simp) 5 _ rfl
   clear hM0
   refine wpOp_step rfl fun K hK=>?_
   go_simp
   exact hK _ _ ⟨rfl,hM⟩
  ·cases ho9
   have r6:=hD.od hd9 1 6 _ rfl (by simp)
   have r8:=hD.od hd9 3 8 _ rfl (by simp)
   have r10:=hD.od hd9 5 10 _ rfl (by simp)
   have r12:=hD.od hd9 7 12 _ rfl (by simp)
   have r14:=hD.od hd9 9 14 _ rfl (by simp)
   refine wpOp_step rfl fun K hK=>?_
   go_simp
   go_wp2_with fail
   refine (unhide Hs1 _ ((unhide HT).kept hM.fr) ((unhide HNb).kept hM.fr)).mono ?_
   rintro en w9 ⟨rfl,hb9⟩
   exact hK _ _ ⟨rfl,hM.kept hb9⟩
  ·cases ho9
   have r15:=hD.od hd9 10 15 _ rfl (by simp)
   refine wpOp_step rfl fun K hK=>?_
   go_simp
   exact hK _ _ ⟨rfl,hM⟩
  ·cases ho9
   have r15:=hD.od hd9 10 15 _ rfl (by simp)
   refine wpOp_step rfl fun K hK=>?_
   go_simp
   exact hK _ _ ⟨rfl,hM⟩
  ·cases ho9
   have r15:=hD.od hd9 10 15 _ rfl (by simp)
   refine wpOp_step rfl fun K hK=>?_
   go_simp
   exact hK _ _ ⟨rfl,hM⟩
  ·cases ho9
   have r16:=hD.od hd9 11 16 _ rfl (by simp)
   have r17:=hD.od hd9 12 17 _ rfl (by simp)
   have r18:=hD.od hd9 13 18 _ rfl (by simp)
   refine wpOp_step rfl fun K hK=>?_
   go_simp
   go_wp2_with fail
   refine (of_is _ _ _ _).mono ?_
   rintro en w9 ⟨rfl,hb9⟩
   exact hK _ _ ⟨rfl,hM.kept hb9⟩
  ·cases ho9
   have r1:=hD.old 1 _ rfl rfl
   refine wpOp_step rfl fun K hK=>?_
   go_simp
   exact hK _ _ ⟨rfl,hM⟩
  ·cases ho9
   have r20:=hD.od hd9 15 20 _ rfl (by simp)
   have hM0:=hM
   have Q_:=hM0.cellAt (b:=w.heap.size) (cs:=#[.int .i64 E,.int .i64 F,.int .u64 a,.int .u64 b,.int .u64 c,.int .u8 (md:Int)]) (t:=26) (by simp)
   have c9_0:=Q_ 0 _ rfl
   have c9_1:=Q_ 1 _ rfl
   clear Q_
   clear hM0
   refine wpOp_step rfl fun K hK=>?_
   go_simp
   exact hK _ _ ⟨rfl,hM⟩
  ·cases ho9
   have r1:=hD.old 1 _ rfl rfl
   refine wpOp_step rfl fun K hK=>?_
   go_simp
   exact hK _ _ ⟨rfl,hM⟩
  ·cases ho9
   have r22:=hD.od hd9 17 22 _ rfl (by simp)
   have hM0:=hM
   have c9_0:=hM0.cellAt (b:=w.heap.size) (cs:=#[.int .i64 E,.int .i64 F,.int .u64 a,.int .u64 b,.int .u64 c,.int .u8 (md:Int)]) (t:=26) (by simp) 2 _ rfl
   clear hM0
   refine wpOp_step rfl fun K hK=>?_
   go_simp
   exact hK _ _ ⟨rfl,hM⟩
  ·cases ho9
   have r1:=hD.old 1 _ rfl rfl
   refine wpOp_step rfl fun K hK=>?_
   go_simp
   exact hK _ _ ⟨rfl,hM⟩
  ·cases ho9
   have r24:=hD.od hd9 19 24 _ rfl (by simp)
   have hM0:=hM
   have c9_0:=hM0.cellAt (b:=w.heap.size) (cs:=#[.int .i64 E,.int .i64 F,.int .u64 a,.int .u64 b,.int .u64 c,.int .u8 (md:Int)]) (t:=26) (by simp) 3 _ rfl
   clear hM0
   refine wpOp_step rfl fun K hK=>?_
   go_simp
   exact hK _ _ ⟨rfl,hM⟩
  ·cases ho9
   have r1:=hD.old 1 _ rfl rfl
   refine wpOp_step rfl fun K hK=>?_
   go_simp
   exact hK _ _ ⟨rfl,hM⟩
  ·cases ho9
   have r26:=hD.od hd9 21 26 _ rfl (by simp)
   have hM0:=hM
   have c9_0:=hM0.cellAt (b:=w.heap.size) (cs:=#[.int .i64 E,.int .i64 F,.int .u64 a,.int .u64 b,.int .u64 c,.int .u8 (md:Int)]) (t:=26) (by simp) 4 _ rfl
   clear hM0
   refine wpOp_step rfl fun K hK=>?_
   go_simp
   exact hK _ _ ⟨rfl,hM⟩
  ·cases ho9
   have r1:=hD.old 1 _ rfl rfl
   refine wpOp_step rfl fun K hK=>?_
   go_simp
   exact hK _ _ ⟨rfl,hM⟩
  ·cases ho9
   have r28:=hD.od hd9 23 28 _ rfl (by simp)
   have hM0:=hM
   have c9_0:=hM0.cellAt (b:=w.heap.size) (cs:=#[.int .i64 E,.int .i64 F,.int .u64 a,.int .u64 b,.int .u64 c,.int .u8 (md:Int)]) (t:=26) (by simp) 5 _ rfl
   clear hM0
   refine wpOp_step rfl fun K hK=>?_
   go_simp
   exact hK _ _ ⟨rfl,hM⟩
  ·cases ho9
   have r21:=hD.od hd9 16 21 _ rfl (by simp)
   have r23:=hD.od hd9 18 23 _ rfl (by simp)
   have r25:=hD.od hd9 20 25 _ rfl (by simp)
   have r27:=hD.od hd9 22 27 _ rfl (by simp)
   have r29:=hD.od hd9 24 29 _ rfl (by simp)
   refine wpOp_step rfl fun K hK=>?_
   go_simp
   go_wp2_with fail
   refine (Hr1 _).mono ?_
   rintro en w9 ⟨rfl,hb9⟩
   exact hK _ _ ⟨rfl,hM.kept hb9⟩
  ·cases ho9
   have r30:=hD.od hd9 25 30 _ rfl (by simp)
   refine wpOp_step rfl fun K hK=>?_
   go_simp
   exact hK _ _ ⟨rfl,hM⟩
  ·cases ho9
   have r30:=hD.od hd9 25 30 _ rfl (by simp)
   refine wpOp_step rfl fun K hK=>?_
   go_simp
   exact hK _ _ ⟨rfl,hM⟩
  ·cases ho9
   have r30:=hD.od hd9 25 30 _ rfl (by simp)
   refine wpOp_step rfl fun K hK=>?_
   go_simp
   exact hK _ _ ⟨rfl,hM⟩
  ·cases ho9
   have r31:=hD.od hd9 26 31 _ rfl (by simp)
   have r32:=hD.od hd9 27 32 _ rfl (by simp)
   have r33:=hD.od hd9 28 33 _ rfl (by simp)
   refine wpOp_step rfl fun K hK=>?_
   go_simp
   go_wp2_with fail
   refine (of_is _ _ _ _).mono ?_
   rintro en w9 ⟨rfl,hb9⟩
   exact hK _ _ ⟨rfl,hM.kept hb9⟩
  ·cases ho9
   have r19:=hD.od hd9 14 19 _ rfl (by simp)
   have r34:=hD.od hd9 29 34 _ rfl (by simp)
   refine wpOp_step rfl fun K hK=>?_
   go_simp
   exact hK _ _ ⟨act_eq (by first|rfl|simp),hM⟩
  ·cases ho9
   have r35:=hD.od hd9 30 35 _ rfl (by simp)
   refine wpOp_step rfl fun K hK=>?_
   go_simp
   exact hK _ _ ⟨rfl,hM⟩
 ·intro l9 W9 hl9 hM
  have hS:=hM
  clear hM
  simp only [Puts.lay,List.setIfInBounds_toArray,List.set_cons_zero,List.set_cons_succ]
  obtain ⟨⟨ya,yb,yc,yd,ye,yf,-⟩,-⟩:=hS.cells
  go_wp2_with fail
  refine wp_region_any (by kernel_rfl) ?_
  refine wpAny_det [some (36,.pointer (some ⟨w.heap.size,0,none⟩)),some (37,.agg #[.int .i64 E,.int .i64 F]),some (38,.pointer (some ⟨w.heap.size,3,none⟩)),some (39,.int .u64 b),some (40,.pointer (some ⟨w.heap.size,4,none⟩)),some (41,.int .u64 c),some (42,.pointer (some ⟨w.heap.size,2,none⟩)),some (43,.int .u64 a),some (44,.pointer (some ⟨w.heap.size,5,none⟩)),some (45,.int .u8 (md:Int)),some (46,.tuple #[.int .u64 x2,.int .u8 y2,.int .i64 z2]),some (47,.int .u64 x2),some (48,.int .u8 y2),some (49,.int .i64 z2),some (50,.agg #[.int .u64 x2,.int .u8 y2,.int .i64 z2]),some (51,.pointer (some ⟨w.heap.size,0,none⟩)),some (52,.agg #[.int .i64 E,.int .i64 F]),some (53,.pointer (some ⟨w.heap.size,3,none⟩)),some (54,.int .u64 b),some (55,.pointer (some ⟨w.heap.size,4,none⟩)),some (56,.int .u64 c),some (57,.pointer (some ⟨w.heap.size,2,none⟩)),some (58,.int .u64 a),some (59,.pointer (some ⟨w.heap.size,5,none⟩)),some (60,.int .u8 (md:Int)),some (61,.tuple #[.int .u64 x2,.int .u8 y2,.int .i64 z2]),some (62,.int .u64 x2),some (63,.int .u8 y2),some (64,.int .i64 z2),some (65,.agg #[.int .u64 x2,.int .u8 y2,.int .i64 z2]),some (66,.bool true),some (4,.bool true)]
   (fun _ W9=>Fs w W9 [⟨w.heap.size,#[.int .i64 E,.int .i64 F,.int .u64 a,.int .u64 b,.int .u64 c,.int .u8 (md:Int)],26⟩]) _ _ rfl (by kernel_rfl) rfl rfl ?_ ?_ (hS).drew
  ·intro l9 t9 W9 i9 hD hi9 hl9 hM
   obtain ⟨o9,ho9,hd9⟩:=(mem_ready.1 hi9).2
   have hin9:i9 < 32:=by
    by_cases h:i9 < 32
    ·exact h
    ·rw [Array.getElem?_eq_none (by rw [hD.len]; simp; omega)] at hl9; cases hl9
   have hcase:i9 = 0∨i9 = 1∨i9 = 2∨i9 = 3∨i9 = 4∨i9 = 5∨i9 = 6∨i9 = 7∨i9 = 8∨i9 = 9∨i9 = 10∨i9 = 11∨i9 = 12∨i9 = 13∨i9 = 14∨i9 = 15∨i9 = 16∨i9 = 17∨i9 = 18∨i9 = 19∨i9 = 20∨i9 = 21∨i9 = 22∨i9 = 23∨i9 = 24∨i9 = 25∨i9 = 26∨i9 = 27∨i9 = 28∨i9 = 29∨i9 = 30∨i9 = 31:=by omega
   clear hin9
   rcases hcase with rfl|rfl|rfl|rfl|rfl|rfl|rfl|rfl|rfl|rfl|rfl|rfl|rfl|rfl|rfl|rfl|rfl|rfl|rfl|rfl|rfl|rfl|rfl|rfl|rfl|rfl|rfl|rfl|rfl|rfl|rfl|rfl
   ·cases ho9
    have r1:=hD.old 1 _ rfl rfl
    refine wpOp_step rfl fun K hK=>?_
    go_simp
    exact hK _ _ ⟨rfl,hM⟩
   ·cases ho9
    have r36:=hD.od hd9 0 36 _ rfl (by simp)
    have hM0:=hM
    have Q_:=hM0.cellAt (b:=w.heap.size) (cs:=#[.int .i64 E,.int .i64 F,.int .u64 a,.int .u64 b,.int .u64 c,.int .u8 (md:Int)]) (t:=26) (by simp)
    have c9_0:=Q_ 0 _ rfl
    have c9_1:=Q_ 1 _ rfl
    clear Q_
    clear hM0
    refine wpOp_step rfl fun K hK=>?_
    go_simp
    exact hK _ _ ⟨rfl,hM⟩
   ·cases ho9
    have r1:=hD.old 1 _ rfl rfl
    refine wpOp_step rfl fun K hK=>?_
    go_simp
    exact hK _ _ ⟨rfl,hM⟩
   ·cases ho9
    have r38:=hD.od hd9 2 38 _ rfl (by simp)
    have hM0:=hM
    have c9_0:=hM0.cellAt (b:=w.heap.size) (cs:=#[.int .i64 E,.int .i64 F,.int .u64 a,.int .u64 b,.int .u64 c,.int .u8 (md:Int)]) (t:=26) (by simp) 3 _ rfl
    clear hM0
    refine wpOp_step rfl fun K hK=>?_
    go_simp
    exact hK _ _ ⟨rfl,hM⟩
   ·cases ho9
    have r1:=hD.old 1 _ rfl rfl
    refine wpOp_step rfl fun K hK=>?_
    go_simp
    exact hK _ _ ⟨rfl,hM⟩
   ·cases ho9
    have r40:=hD.od hd9 4 40 _ rfl (by simp)
    have hM0:=hM
    have c9_0:=hM0.cellAt (b:=w.heap.size) (cs:=#[.int .i64 E,.int .i64 F,.int .u64 a,.int .u64 b,.int .u64 c,.int .u8 (md:Int)]) (t:=26) (by simp) 4 _ rfl
    clear hM0
    refine wpOp_step rfl fun K hK=>?_
    go_simp
    exact hK _ _ ⟨rfl,hM⟩
   ·cases ho9
    have r1:=hD.old 1 _ rfl rfl
    refine wpOp_step rfl fun K hK=>?_
    go_simp
    exact hK _ _ ⟨rfl,hM⟩
   ·cases ho9
    have r42:=hD.od hd9 6 42 _ rfl (by simp)
    have hM0:=hM
    have c9_0:=hM0.cellAt (b:=w.heap.size) (cs:=#[.int .i64 E,.int .i64 F,.int .u64 a,.int .u64 b,.int .u64 c,.int .u8 (md:Int)]) (t:=26) (by simp) 2 _ rfl
    clear hM0
    refine wpOp_step rfl fun K hK=>?_
    go_simp
    exact hK _ _ ⟨rfl,hM⟩
   ·cases ho9
    have r1:=hD.old 1 _ rfl rfl
    refine wpOp_step rfl fun K hK=>?_
    go_simp
    exact hK _ _ ⟨rfl,hM⟩
   ·cases ho9
    have r44:=hD.od hd9 8 44 _ rfl (by simp)
    have hM0:=hM
    have c9_0:=hM0.cellAt (b:=w.heap.size) (cs:=#[.int .i64 E,.int .i64 F,.int .u64 a,.int .u64 b,.int .u64 c,.int .u8 (md:Int)]) (t:=26) (by simp) 5 _ rfl
    clear hM0
    refine wpOp_step rfl fun K hK=>?_
    go_simp
    exact hK _ _ ⟨rfl,hM⟩
   ·cases ho9
    have r37:=hD.od hd9 1 37 _ rfl (by simp)
    have r39:=hD.od hd9 3 39 _ rfl (by simp)
    have r41:=hD.od hd9 5 41 _ rfl (by simp)
    have r43:=hD.od hd9 7 43 _ rfl (by simp)
    have r45:=hD.od hd9 9 45 _ rfl (by simp)
    refine wpOp_step rfl fun K hK=>?_
    go_simp
    go_wp2_with fail
    refine (unhide Hs2 _ ((unhide HT).kept hM.fr) ((unhide HNb).kept hM.fr)).mono ?_
    rintro en w9 ⟨rfl,hb9⟩
    exact hK _ _ ⟨rfl,hM.kept hb9⟩
   ·cases ho9
    have r46:=hD.od hd9 10 46 _ rfl (by simp)
    refine wpOp_step rfl fun K hK=>?_
    go_simp
    exact hK _ _ ⟨rfl,hM⟩
   ·cases ho9
    have r46:=hD.od hd9 10 46 _ rfl (by simp)
    refine wpOp_step rfl fun K hK=>?_
    go_simp
    exact hK _ _ ⟨rfl,hM⟩
   ·cases ho9
    have r46:=hD.od hd9 10 46 _ rfl (by simp)
    refine wpOp_step rfl fun K hK=>?_
    go_simp
    exact hK _ _ ⟨rfl,hM⟩
   ·cases ho9
    have r47:=hD.od hd9 11 47 _ rfl (by simp)
    have r48:=hD.od hd9 12 48 _ rfl (by simp)
    have r49:=hD.od hd9 13 49 _ rfl (by simp)
    refine wpOp_step rfl fun K hK=>?_
    go_simp
    go_wp2_with fail
    refine (of_is _ _ _ _).mono ?_
    rintro en w9 ⟨rfl,hb9⟩
    exact hK _ _ ⟨rfl,hM.kept hb9⟩
   ·cases ho9
    have r1:=hD.old 1 _ rfl rfl
    refine wpOp_step rfl fun K hK=>?_
    go_simp
    exact hK _ _ ⟨rfl,hM⟩
   ·cases ho9
    have r51:=hD.od hd9 15 51 _ rfl (by simp)
    have hM0:=hM
    have Q_:=hM0.cellAt (b:=w.heap.size) (cs:=#[.int .i64 E,.int .i64 F,.int .u64 a,.int .u64 b,.int .u64 c,.int .u8 (md:Int)]) (t:=26) (by simp)
    have c9_0:=Q_ 0 _ rfl
    have c9_1:=Q_ 1 _ rfl
    clear Q_
    clear hM0
    refine wpOp_step rfl fun K hK=>?_
    go_simp
    exact hK _ _ ⟨rfl,hM⟩
   ·cases ho9
    have r1:=hD.old 1 _ rfl rfl
    refine wpOp_step rfl fun K hK=>?_
    go_simp
    exact hK _ _ ⟨rfl,hM⟩
   ·cases ho9
    have r53:=hD.od hd9 17 53 _ rfl (by simp)
    have hM0:=hM
    have c9_0:=hM0.cellAt (b:=w.heap.size) (cs:=#[.int .i64 E,.int .i64 F,.int .u64 a,.int .u64 b,.int .u64 c,.int .u8 (md:Int)]) (t:=26) (by simp) 3 _ rfl
    clear hM0
    refine wpOp_step rfl fun K hK=>?_
    go_simp
    exact hK _ _ ⟨rfl,hM⟩
   ·cases ho9
    have r1:=hD.old 1 _ rfl rfl
    refine wpOp_step rfl fun K hK=>?_
    go_simp
    exact hK _ _ ⟨rfl,hM⟩
   ·cases ho9
    have r55:=hD.od hd9 19 55 _ rfl (by simp)
    have hM0:=hM
    have c9_0:=hM0.cellAt (b:=w.heap.size) (cs:=#[.int .i64 E,.int .i64 F,.int .u64 a,.int .u64 b,.int .u64 c,.int .u8 (md:Int)]) (t:=26) (by simp) 4 _ rfl
    clear hM0
    refine wpOp_step rfl fun K hK=>?_
    go_simp
    exact hK _ _ ⟨rfl,hM⟩
   ·cases ho9
    have r1:=hD.old 1 _ rfl rfl
    refine wpOp_step rfl fun K hK=>?_
    go_simp
    exact hK _ _ ⟨rfl,hM⟩
   ·cases ho9
    have r57:=hD.od hd9 21 57 _ rfl (by simp)
    have hM0:=hM
    have c9_0:=hM0.cellAt (b:=w.heap.size) (cs:=#[.int .i64 E,.int .i64 F,.int .u64 a,.int .u64 b,.int .u64 c,.int .u8 (md:Int)]) (t:=26) (by simp) 2 _ rfl
    clear hM0
    refine wpOp_step rfl fun K hK=>?_
    go_simp
    exact hK _ _ ⟨rfl,hM⟩
   ·cases ho9
    have r1:=hD.old 1 _ rfl rfl
    refine wpOp_step rfl fun K hK=>?_
    go_simp
    exact hK _ _ ⟨rfl,hM⟩
   ·cases ho9
    have r59:=hD.od hd9 23 59 _ rfl (by simp)
    have hM0:=hM
    have c9_0:=hM0.cellAt (b:=w.heap.size) (cs:=#[.int .i64 E,.int .i64 F,.int .u64 a,.int .u64 b,.int .u64 c,.int .u8 (md:Int)]) (t:=26) (by simp) 5 _ rfl
    clear hM0
    refine wpOp_step rfl fun K hK=>?_
    go_simp
    exact hK _ _ ⟨rfl,hM⟩
   ·cases ho9
    have r52:=hD.od hd9 16 52 _ rfl (by simp)
    have r54:=hD.od hd9 18 54 _ rfl (by simp)
    have r56:=hD.od hd9 20 56 _ rfl (by simp)
    have r58:=hD.od hd9 22 58 _ rfl (by simp)
    have r60:=hD.od hd9 24 60 _ rfl (by simp)
    refine wpOp_step rfl fun K hK=>?_
    go_simp
    go_wp2_with fail
    refine (Hr2 _).mono ?_
    rintro en w9 ⟨rfl,hb9⟩
    exact hK _ _ ⟨rfl,hM.kept hb9⟩
   ·cases ho9
    have r61:=hD.od hd9 25 61 _ rfl (by simp)
    refine wpOp_step rfl fun K hK=>?_
    go_simp
    exact hK _ _ ⟨rfl,hM⟩
   ·cases ho9
    have r61:=hD.od hd9 25 61 _ rfl (by simp)
    refine wpOp_step rfl fun K hK=>?_
    go_simp
    exact hK _ _ ⟨rfl,hM⟩
   ·cases ho9
    have r61:=hD.od hd9 25 61 _ rfl (by simp)
    refine wpOp_step rfl fun K hK=>?_
    go_simp
    exact hK _ _ ⟨rfl,hM⟩
   ·cases ho9
    have r62:=hD.od hd9 26 62 _ rfl (by simp)
    have r63:=hD.od hd9 27 63 _ rfl (by simp)
    have r64:=hD.od hd9 28 64 _ rfl (by simp)
    refine wpOp_step rfl fun K hK=>?_
    go_simp
    go_wp2_with fail
    refine (of_is _ _ _ _).mono ?_
    rintro en w9 ⟨rfl,hb9⟩
    exact hK _ _ ⟨rfl,hM.kept hb9⟩
   ·cases ho9
    have r50:=hD.od hd9 14 50 _ rfl (by simp)
    have r65:=hD.od hd9 29 65 _ rfl (by simp)
    refine wpOp_step rfl fun K hK=>?_
    go_simp
    exact hK _ _ ⟨act_eq (by first|rfl|simp),hM⟩
   ·cases ho9
    have r66:=hD.od hd9 30 66 _ rfl (by simp)
    refine wpOp_step rfl fun K hK=>?_
    go_simp
    exact hK _ _ ⟨rfl,hM⟩
  ·intro l9 W9 hl9 hM
   clear hS ya yb yc yd ye yf
   have hS:=hM
   clear hM
   simp only [Puts.lay,List.setIfInBounds_toArray,List.set_cons_zero,List.set_cons_succ]
   obtain ⟨⟨yg,yh,yi,yj,yk,yl,-⟩,-⟩:=hS.cells
   go_wp2
   go_ret
   exact ⟨rfl,hS.fr⟩
end Go.Proofs.YtfimakkpdjppfaaGreatDoor
