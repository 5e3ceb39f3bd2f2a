/- Of what SoftFmasRow stands on: RefLow ExBits ExCmp ExCopy ExVal ExRef ExRefS. -/
import Derived.Test.YtfimakkpdjppfaaGreatDoorPao
import Derived.Test.YtfimakkpdjppfaaGreatDoorPaj
import Derived.Deep.RegionWith
import Derived.Test.YtfimakkpdjppfaaGreatDoorPab
import Derived.Test.YtfimakkpdjppfaaGreatDoorPaf
import Derived.Test.YtfimakkpdjppfaaGreatDoorPag
namespace Go.Proofs.YtfimakkpdjppfaaGreatDoor
open Go.RowKit
set_option maxHeartbeats 2000000
theorem ret_low {a b:Int} {v:Value} (h:a = b):Ending.returned (.tuple #[.int .u64 a,v]) = .returned (.tuple #[.int .u64 b,v]):=by rw [h]
theorem rlow_small (a:Option Addr) (n cap m:Nat) (w:World) (h:Num w a n m) (hn2:n≤2) :
  Calls Tryz.prog 83 #[.agg #[.slice a n cap]] w fun e w'=>e = .returned (.tuple #[.int .u64 (m:Int),.bool true])∧Below w.heap.size w w':=by
 have HK:=hide (fun (o1:Obj)=>rcheck_num a n cap m (w.alloc o1) (h.alloc o1))
 obtain ⟨xs,hn,hl,hw,hN,hv,hb⟩:=h
 obtain ⟨x,hxx⟩:∃ x,x = xs[0]?.getD 0:=⟨_,rfl⟩
 obtain ⟨y,hyy⟩:∃ y,y = xs[1]?.getD 0:=⟨_,rfl⟩
 have hx1:x < 4294967296:=by rw [hxx]; exact Pl.wf_at hw _
 have hy1:y < 4294967296:=by rw [hyy]; exact Pl.wf_at hw _
 have HM:Hid (y * 4294967296+x = m):=hide (by
  rw [hxx,hyy,← hv]
  match xs,hn with
  | [],_=>rfl
  | [p],_=>simp [Pl.val]
  | [p,q],_=>simp [Pl.val]; omega
  | _ :: _ :: _ :: _,hn=>simp at hn; omega)
 have L0:∀ (W:World) (_:Lim W a xs),Calls Tryz.prog 80 #[.slice a n cap,.int .i64 0] W fun e w'=>e = .returned (.int .u64 ((xs[0]?.getD 0:Nat):Int))∧w' = W:=fun W h=>(rlimb_any a n cap 0 xs W hn h hw (by omega)).mono (fun e w' ⟨h1,h2⟩=>⟨h1,h2.symm⟩)
 have L1:∀ (W:World) (_:Lim W a xs),Calls Tryz.prog 80 #[.slice a n cap,.int .i64 1] W fun e w'=>e = .returned (.int .u64 ((xs[1]?.getD 0:Nat):Int))∧w' = W:=fun W h=>(rlimb_any a n cap 1 xs W hn h hw (by omega)).mono (fun e w' ⟨h1,h2⟩=>⟨h1,h2.symm⟩)
 rw [← hxx] at L0
 rw [← hyy] at L1
 have HL0:=hide L0
 have HL1:=hide L1
 have HL:=hide hl
 clear hxx hyy L0 L1 hl hn hv hN
 go_enter Tryz.func83,Tryz.ntmps83
 go_wp2_with fail
 refine (unhide HK _).mono ?_
 rintro e w1 ⟨rfl,hb1⟩
 have hbx:=(Box.made w (.slice a n cap)).kept hb1
 have hcx:=hbx.cell
 have HB:=hide (gr_trans (gr_alloc w (.cells #[.slice a n cap] 44)) hb1)
 have HLW:=hide (fun nq:Nat=>(unhide HL).below (below_drewN (unhide HB) nq))
 clear hb1 hbx
 go_wp2_with fail
 go_quiet (first|(go_at_call_of 80 (Value.int .i64 0); exact Calls.quiet_of_same (unhide HL0 _ (unhide HLW _)))|(go_at_call_of 80 (Value.int .i64 1); exact Calls.quiet_of_same (unhide HL1 _ (unhide HLW _))))
 go_wp2
 go_ret2
 refine ⟨ret_low ?_,below_drewN (unhide HB) _⟩
 rw [or_limb2 y x hy1 hx1,unhide HM]
theorem bits_k (a:Option Addr) (n cap m k:Nat) (w:World) (h:Num w a n m) (hk:Bl m k) :
  Calls Tryz.prog 170 #[.agg #[.slice a n cap]] w fun e w'=>e = .returned (.tuple #[.int .i64 (k:Int),.int .i64 0])∧Below w.heap.size w w':=by
 refine (bits_any a n cap m w h).mono ?_
 rintro e w' ⟨⟨j,rfl,hj,_⟩,hb⟩
 obtain rfl:=hj.uniq hk
 exact ⟨rfl,hb⟩
theorem rbits_k (a:Option Addr) (n cap m k:Nat) (w:World) (h:Num w a n m) (hk:Bl m k) :
  Calls Tryz.prog 68 #[.agg #[.slice a n cap]] w fun e w'=>e = .returned (.tuple #[.int .i64 (k:Int),.int .i64 0])∧Below w.heap.size w w':=by
 refine (rbits_any a n cap m w h).mono ?_
 rintro e w' ⟨⟨j,rfl,hj,_⟩,hb⟩
 obtain rfl:=hj.uniq hk
 exact ⟨rfl,hb⟩
theorem dcheck_nought (a:Option Addr) (cap:Nat) (w:World) (h:Num w a 0 0) :
  Calls Tryz.prog 160 #[.agg #[.bool false,.slice a 0 cap,.int .i64 0]] w fun e w'=>e = .returned (.int .i64 0)∧Below w.heap.size w w':=by
 have:=dcheck_nil false a cap 0 w h
 simpa using this
theorem B_le {E F B:Nat} (h:Fo E F) (HB:Hid (B = 2 ^ (E - 1) - 1)):B≤1023:=by
 have h1:=pow_bound (show E - 1≤10 by have:=h.e11; omega)
 rw [unhide HB]; omega
theorem B_two {E F B:Nat} (h:Fo E F) (HB:Hid (B = 2 ^ (E - 1) - 1)):2 ^ E = 2 * B+2∧1≤B:=by
 have h2:=h.e2
 obtain ⟨k,rfl⟩:∃ k,E = k+2:=⟨E - 2,by omega⟩
 have:=unhide HB
 rw [show k+2 - 1 = k+1 from by omega] at this
 have h3:=pow_pos2 k
 rw [Nat.pow_succ] at this ⊢
 rw [Nat.pow_succ]
 omega
theorem Fs.four (w:World) (cs:Array Value) (t:TypeId) (ds:Array Value) (u:TypeId) (es:Array Value) (v:TypeId) (gs:Array Value) (x:TypeId) :
  Fs w ((((w.alloc (.cells cs t)).alloc (.cells ds u)).alloc (.cells es v)).alloc (.cells gs x)) [⟨w.heap.size,cs,t⟩,⟨w.heap.size+1,ds,u⟩,⟨w.heap.size+2,es,v⟩,⟨w.heap.size+3,gs,x⟩]:=by
 have h:=((((Fs.begin w).alloc cs t).alloc ds u).alloc es v).alloc gs x
 simp only [World.size_alloc,Nat.add_assoc] at h
 exact h.sub (by simp)
theorem Fs.three (w:World) (cs:Array Value) (t:TypeId) (ds:Array Value) (u:TypeId) (es:Array Value) (v:TypeId) :
  Fs w (((w.alloc (.cells cs t)).alloc (.cells ds u)).alloc (.cells es v)) [⟨w.heap.size,cs,t⟩,⟨w.heap.size+1,ds,u⟩,⟨w.heap.size+2,es,v⟩]:=by
 have h:=(((Fs.begin w).alloc cs t).alloc ds u).alloc es v
 simp only [World.size_alloc,Nat.add_assoc] at h
 exact h.sub (by simp)
def TogOk (w':World) (e:Ending) (u v:Nat):Prop:=∃ A N C A' N' C',e = .returned (.tuple #[.agg #[.slice A N C],.agg #[.slice A' N' C'],.int .i64 0])∧Num w' A N u∧Num w' A' N' v
theorem TogOk.of {w':World} {A A':Option Addr} {N C N' C' u v:Nat} (h:Num w' A N u) (h':Num w' A' N' v):TogOk w' (.returned (.tuple #[.agg #[.slice A N C],.agg #[.slice A' N' C'],.int .i64 0])) u v:=⟨_,_,_,_,_,_,rfl,h,h'⟩
theorem setCell_still {W:World} {b j:Nat} {cs:Array Value} {t:TypeId} {u:Value} (hb:W.heap[b]? = some (.cells cs t (0,0))) (hc:cs[j]? = some u):W.setCell ⟨b,j,none⟩ u = W:=by
 have he:(W.setCell ⟨b,j,none⟩ u).heap = W.heap:=by
  apply Array.ext_getElem?
  intro k
  by_cases hk:k = b
  ·subst hk
   rw [heap_setCell_same W k j _ _ _ hb,hb]
   congr 2
   apply Array.ext_getElem?
   intro i
   by_cases hi:i = j
   ·subst hi
    obtain ⟨hlt,_⟩:=Array.getElem?_eq_some_iff.1 hc
    rw [hc]; simp [hlt]
   ·rw [Array.getElem?_setIfInBounds_ne (Ne.symm hi)]
  ·rw [heap_setCell_other W _ k u hk]
 have:W.setCell ⟨b,j,none⟩ u = { W with heap:=(W.setCell ⟨b,j,none⟩ u).heap }:=rfl
 rw [this,he]
theorem told_same (s:Bool) (a:Option Addr) (n cap:Nat) (x:Int) (w:World)  :
  Calls Tryz.prog 165 #[.agg #[.bool s,.slice a n cap,.int .i64 x],.int .i64 x] w fun e w'=>e = .returned (.tuple #[.agg #[.slice a n cap],.int .i64 0])∧Below w.heap.size w w':=by
 go_enter Tryz.func165,Tryz.ntmps165
 go_wp2
 exact bodyPost_ret (v:=.tuple #[.agg #[.slice a n cap],.int .i64 0]) (by simp [results,Tryz.results165,go_sem]) rfl ⟨rfl,(Fs.two w _ _ _ _).fr⟩
theorem up_fits (a:Option Addr) (n cap m k:Nat) (w:World) (h:Num w a n m) (hk:k < 9223372036854775808) (hno:¬ Over (m * 2 ^ k)) :
  Calls Tryz.prog 180 #[.agg #[.slice a n cap],.int .i64 (k:Int)] w fun e w'=>(∃ a n c,e = .returned (.tuple #[.agg #[.slice a n c],.int .i64 0])∧Mine w' w.heap.size a n c (m * 2 ^ k))∧Below w.heap.size w w':=by
 refine (up_any a n cap m k w h hk).mono ?_
 rintro e w' ⟨h1|h1,hb⟩
 ·exact ⟨h1,hb⟩
 ·exact absurd h1.2 hno
theorem told_up (s:Bool) (a:Option Addr) (n cap m:Nat) (x:Int) (t:Int) (j:Nat) (w:World) (h:Num w a n m) (hj:x - t = (j:Int)) (h0:0 < j) (hj2:j < 9223372036854775808) (hno:¬ Over (m * 2 ^ j)) :
  Calls Tryz.prog 165 #[.agg #[.bool s,.slice a n cap,.int .i64 x],.int .i64 t] w fun e w'=>(∃ A N C,e = .returned (.tuple #[.agg #[.slice A N C],.int .i64 0])∧Num w' A N (m * 2 ^ j))∧Below w.heap.size w w':=by
 have hne:(x == t) = false:=by simp; omega
 have H:=hide h
 have HO:=hide hno
 clear h hno
 go_enter Tryz.func165,Tryz.ntmps165
 go_wp2_with fail
 refine (up_fits a n cap m j _ (((unhide H).alloc _).alloc _) hj2 (unhide HO)).mono ?_
 rintro e w1 ⟨⟨A1,N1,C1,rfl,f1⟩,hb1⟩
 have hS:=(Fs.two w _ _ _ _).kept hb1
 obtain ⟨⟨ya,yb,yc,-⟩,⟨yd,-⟩,-⟩:=hS.cells
 have F1:=hide f1
 clear f1
 have fz0:=hS.frozen (b:=w.heap.size+1) (cs:=#[.slice none 0 0]) (t:=44) (by simp) 0
 go_wp2
 exact bodyPost_ret (v:=.tuple #[.agg #[.slice A1 N1 C1],.int .i64 0]) (by simp [results,Tryz.results165,go_sem,yd]) rfl ⟨⟨_,_,_,rfl,((unhide F1).set (by simp) _).num⟩,hS.fr.setCell (by simp) _⟩
theorem told_ok (s:Bool) (a:Option Addr) (n cap m:Nat) (x t:Int) (j:Nat) (w:World) (h:Num w a n m) (hj:x - t = (j:Int)) (hj2:j < 9223372036854775808) (hno:¬ Over (m * 2 ^ j)) :
  Calls Tryz.prog 165 #[.agg #[.bool s,.slice a n cap,.int .i64 x],.int .i64 t] w fun e w'=>(∃ A N C,e = .returned (.tuple #[.agg #[.slice A N C],.int .i64 0])∧Num w' A N (m * 2 ^ j))∧Below w.heap.size w w':=by
 rcases Nat.eq_zero_or_pos j with h0|h0
 ·subst h0
  obtain rfl:x = t:=by omega
  refine (told_same s a n cap x w).mono ?_
  rintro e w' ⟨rfl,hb⟩
  exact ⟨⟨_,_,_,rfl,by rw [Nat.pow_zero,Nat.mul_one]; exact h.kept hb⟩,hb⟩
 ·exact told_up s a n cap m x t j w h hj h0 hj2 hno
theorem together_ok (s:Bool) (a:Option Addr) (n cap m:Nat) (x:Int) (s':Bool) (a':Option Addr) (n' cap' m':Nat) (x':Int) (t:Int) (j j':Nat) (w:World) (h:Num w a n m) (h':Num w a' n' m') (hmin:min x x' = t) (hj:x - t = (j:Int)) (hj':x' - t = (j':Int)) (hj2:j < 9223372036854775808) (hj2':j' < 9223372036854775808) (hno:¬ Over (m * 2 ^ j)) (hno':¬ Over (m' * 2 ^ j')) :
  Calls Tryz.prog 158 #[.agg #[.bool s,.slice a n cap,.int .i64 x],.agg #[.bool s',.slice a' n' cap',.int .i64 x']] w fun e w'=>TogOk w' e (m * 2 ^ j) (m' * 2 ^ j')∧Below w.heap.size w w':=by
 have H:=hide h
 have H':=hide h'
 have HJ:=hide hj
 have HJ':=hide hj'
 have HO:=hide hno
 have HO':=hide hno'
 clear h h' hj hj' hno hno'
 go_enter Tryz.func158,Tryz.ntmps158
 go_wp2_with fail
 refine (told_ok s a n cap m x t j _ (((((unhide H).alloc _).alloc _).alloc _).alloc _) (unhide HJ) hj2 (unhide HO)).mono ?_
 rintro e w1 ⟨⟨A1,N1,C1,rfl,f1⟩,hb1⟩
 have hS:=(Fs.four w _ _ _ _ _ _ _ _).kept hb1
 obtain ⟨⟨ya,yb,yc,-⟩,⟨yd,ye,yf,-⟩,⟨yg,-⟩,⟨yh,-⟩,-⟩:=hS.cells
 have F1:=hide f1
 clear f1
 have fz0:=hS.frozen (b:=w.heap.size+2) (cs:=#[.slice none 0 0]) (t:=44) (by simp) 0
 have hS2:=hS.put (b:=w.heap.size+2) (cs:=#[.slice none 0 0]) (t:=44) (by simp) (by simp) 0 (.slice A1 N1 C1) [⟨w.heap.size,#[.bool s,.slice a n cap,.int .i64 x],46⟩,⟨w.heap.size+1,#[.bool s',.slice a' n' cap',.int .i64 x'],46⟩,⟨w.heap.size+2,#[.slice A1 N1 C1],44⟩,⟨w.heap.size+3,#[.slice none 0 0],44⟩] (by simp)
 have F1b:=hide ((unhide F1).put (hS.bx ⟨w.heap.size+2,#[.slice none 0 0],44⟩ (by simp)) (noLimb_of _ rfl) 0 (.slice A1 N1 C1))
 clear F1
 go_wp2_with fail
 refine (told_ok s' a' n' cap' m' x' t j' _ ((unhide H').kept hS2.fr) (unhide HJ') hj2' (unhide HO')).mono ?_
 rintro e w2 ⟨⟨A2,N2,C2,rfl,f2⟩,hb2⟩
 clear ya yb yc yd ye yf yg yh fz0
 clear hS
 have hS:=hS2.kept hb2
 have F1c:=hide ((unhide F1b).kept hb2)
 clear F1b hS2
 obtain ⟨⟨yi,yj,yk,-⟩,⟨yl,ym,yn,-⟩,⟨yo,-⟩,⟨yp,-⟩,-⟩:=hS.cells
 have F2:=hide f2
 clear f2
 have fz0:=hS.frozen (b:=w.heap.size+3) (cs:=#[.slice none 0 0]) (t:=44) (by simp) 0
 have hS2:=hS.put (b:=w.heap.size+3) (cs:=#[.slice none 0 0]) (t:=44) (by simp) (by simp) 0 (.slice A2 N2 C2) [⟨w.heap.size,#[.bool s,.slice a n cap,.int .i64 x],46⟩,⟨w.heap.size+1,#[.bool s',.slice a' n' cap',.int .i64 x'],46⟩,⟨w.heap.size+2,#[.slice A1 N1 C1],44⟩,⟨w.heap.size+3,#[.slice A2 N2 C2],44⟩] (by simp)
 have F2b:=hide ((unhide F2).put (hS.bx ⟨w.heap.size+3,#[.slice none 0 0],44⟩ (by simp)) (noLimb_of _ rfl) 0 (.slice A2 N2 C2))
 have F1d:=hide ((unhide F1c).put (hS.bx ⟨w.heap.size+3,#[.slice none 0 0],44⟩ (by simp)) (noLimb_of _ rfl) 0 (.slice A2 N2 C2))
 clear F2 F1c
 go_wp2_with fail
 clear yi yj yk yl ym yn yo yp fz0
 clear hS
 obtain ⟨W8,hW8⟩:∃ W8,W8 = w2.setCell ⟨w.heap.size+3,0,none⟩ (.slice A2 N2 C2):=⟨_,rfl⟩
 rw [← hW8] at hS2 F2b F1d ⊢
 clear hW8
 refine wp_region_any (by kernel_rfl) ?_
 refine wpAny_det [some (35,.agg #[.slice A1 N1 C1]),some (36,.agg #[.slice A2 N2 C2]),none,none,some (6,.int .i64 0)]
  (fun _ W9=>W9 = W8.drew) _ _ rfl (by kernel_rfl) rfl rfl ?_ ?_ rfl
 ·intro l9 t9 W9 i9 hD hi9 hl9 hM
  obtain ⟨o9,ho9,hd9⟩:=(mem_ready.1 hi9).2
  have hin9:i9 < 5:=by
   by_cases h:i9 < 5
   ·exact h
   ·rw [Array.getElem?_eq_none (by rw [hD.len]; simp; omega)] at hl9; cases hl9
  have hcase:i9 = 0∨i9 = 1∨i9 = 2∨i9 = 3∨i9 = 4:=by omega
  clear hin9
  rcases hcase with rfl|rfl|rfl|rfl|rfl
  ·cases ho9
   have r4:=hD.old 4 _ rfl rfl
   have hM0:Fs w W9 [⟨w.heap.size,#[.bool s,.slice a n cap,.int .i64 x],46⟩,⟨w.heap.size+1,#[.bool s',.slice a' n' cap',.int .i64 x'],46⟩,⟨w.heap.size+2,#[.slice A1 N1 C1],44⟩,⟨w.heap.size+3,#[.slice A2 N2 C2],44⟩]:=by rw [hM]; exact hS2.drew
   have c9_0:=hM0.cellAt (b:=w.heap.size+2) (cs:=#[.slice A1 N1 C1]) (t:=44) (by simp) 0 _ rfl
   clear hM0
   have HM9:=hide hM
   clear hM
   refine wpOp_step rfl fun K hK=>?_
   go_simp
   exact hK _ _ ⟨rfl,unhide HM9⟩
  ·cases ho9
   have r5:=hD.old 5 _ rfl rfl
   have hM0:Fs w W9 [⟨w.heap.size,#[.bool s,.slice a n cap,.int .i64 x],46⟩,⟨w.heap.size+1,#[.bool s',.slice a' n' cap',.int .i64 x'],46⟩,⟨w.heap.size+2,#[.slice A1 N1 C1],44⟩,⟨w.heap.size+3,#[.slice A2 N2 C2],44⟩]:=by rw [hM]; exact hS2.drew
   have c9_0:=hM0.cellAt (b:=w.heap.size+3) (cs:=#[.slice A2 N2 C2]) (t:=44) (by simp) 0 _ rfl
   clear hM0
   have HM9:=hide hM
   clear hM
   refine wpOp_step rfl fun K hK=>?_
   go_simp
   exact hK _ _ ⟨rfl,unhide HM9⟩
  ·cases ho9
   have r4:=hD.old 4 _ rfl rfl
   have r35:=hD.od hd9 0 35 _ rfl (by simp)
   have hM0:Fs w W9 [⟨w.heap.size,#[.bool s,.slice a n cap,.int .i64 x],46⟩,⟨w.heap.size+1,#[.bool s',.slice a' n' cap',.int .i64 x'],46⟩,⟨w.heap.size+2,#[.slice A1 N1 C1],44⟩,⟨w.heap.size+3,#[.slice A2 N2 C2],44⟩]:=by rw [hM]; exact hS2.drew
   have c9_0:=hM0.cellAt (b:=w.heap.size+2) (cs:=#[.slice A1 N1 C1]) (t:=44) (by simp) 0 _ rfl
   have z9_0:=hM0.frozen (b:=w.heap.size+2) (cs:=#[.slice A1 N1 C1]) (t:=44) (by simp) 0
   have HM9:=hide hM
   clear hM
   refine wpOp_step rfl fun K hK=>?_
   go_simp
   exact hK _ _ ⟨rfl,(setCell_still (hM0.bx ⟨w.heap.size+2,#[.slice A1 N1 C1],44⟩ (by simp)) rfl).trans (unhide HM9)⟩
  ·cases ho9
   have r5:=hD.old 5 _ rfl rfl
   have r36:=hD.od hd9 1 36 _ rfl (by simp)
   have hM0:Fs w W9 [⟨w.heap.size,#[.bool s,.slice a n cap,.int .i64 x],46⟩,⟨w.heap.size+1,#[.bool s',.slice a' n' cap',.int .i64 x'],46⟩,⟨w.heap.size+2,#[.slice A1 N1 C1],44⟩,⟨w.heap.size+3,#[.slice A2 N2 C2],44⟩]:=by rw [hM]; exact hS2.drew
   have c9_0:=hM0.cellAt (b:=w.heap.size+3) (cs:=#[.slice A2 N2 C2]) (t:=44) (by simp) 0 _ rfl
   have z9_0:=hM0.frozen (b:=w.heap.size+3) (cs:=#[.slice A2 N2 C2]) (t:=44) (by simp) 0
   have HM9:=hide hM
   clear hM
   refine wpOp_step rfl fun K hK=>?_
   go_simp
   exact hK _ _ ⟨rfl,(setCell_still (hM0.bx ⟨w.heap.size+3,#[.slice A2 N2 C2],44⟩ (by simp)) rfl).trans (unhide HM9)⟩
  ·cases ho9
   have HM9:=hide hM
   clear hM
   refine wpOp_step rfl fun K hK=>?_
   go_simp
   exact hK _ _ ⟨rfl,unhide HM9⟩
 ·intro l9 W9 hl9 hM
  subst hM
  have hS:=hS2.drew
  have F1e:=hide ((unhide F1d).kept (gr_drew (gr_refl _)))
  have F2e:=hide ((unhide F2b).kept (gr_drew (gr_refl _)))
  clear hS2 F1d F2b
  simp only [Puts.lay,List.setIfInBounds_toArray,List.set_cons_zero,List.set_cons_succ]
  obtain ⟨⟨yq,yr,ys,-⟩,⟨yt,yu,yv,-⟩,⟨yw,-⟩,⟨yx,-⟩,-⟩:=hS.cells
  go_wp2
  exact bodyPost_ret (v:=.tuple #[.agg #[.slice A1 N1 C1],.agg #[.slice A2 N2 C2],.int .i64 0]) (by simp [results,Tryz.results158,go_sem,yw,yx]) rfl ⟨TogOk.of (unhide F1e) (unhide F2e),hS.fr⟩
structure Dy (w:World) (s:Bool) (a:Option Addr) (n m:Nat) (x:Int):Prop where
 num:Num w a n m
 ok:(m = 0∧s = false∧x = 0)∨(m % 2 = 1∧-1073741824≤x∧x≤1073741824)
theorem Dy.kept {w w':World} {s:Bool} {a:Option Addr} {n m:Nat} {x:Int} (h:Dy w s a n m x) (hb:Below w.heap.size w w'):Dy w' s a n m x:=⟨h.num.kept hb,h.ok⟩
theorem Dy.range {w:World} {s:Bool} {a:Option Addr} {n m:Nat} {x:Int} (h:Dy w s a n m x):-1073741824≤x∧x≤1073741824:=by
 rcases h.ok with ⟨_,_,rfl⟩|⟨_,h1,h2⟩
 ·omega
 ·exact ⟨h1,h2⟩
theorem dcheck_dy (s:Bool) (a:Option Addr) (n cap m:Nat) (x:Int) (w:World) (h:Dy w s a n m x) :
  Calls Tryz.prog 160 #[.agg #[.bool s,.slice a n cap,.int .i64 x]] w fun e w'=>e = .returned (.int .i64 0)∧Below w.heap.size w w':=by
 rcases h.ok with ⟨rfl,rfl,rfl⟩|⟨h1,h2⟩
 ·have hn:=h.num
  obtain rfl:=hn.zero.2 rfl
  exact dcheck_nought a cap w hn
 ·exact dcheck_ok s a n cap m x w h.num (by have:=h.num.zero; omega) h1 h2
theorem checkBoth_dy (s:Bool) (a:Option Addr) (n cap m:Nat) (x:Int) (s':Bool) (a':Option Addr) (n' cap' m':Nat) (x':Int) (w:World) (h:Dy w s a n m x) (h':Dy w s' a' n' m' x') :
  Calls Tryz.prog 156 #[.agg #[.bool s,.slice a n cap,.int .i64 x],.agg #[.bool s',.slice a' n' cap',.int .i64 x']] w fun e w'=>e = .returned (.int .i64 0)∧Below w.heap.size w w':=by
 have H:=hide h
 have H':=hide h'
 clear h h'
 go_enter Tryz.func156,Tryz.ntmps156
 go_wp2_with fail
 refine (dcheck_dy s a n cap m x _ ((unhide H).kept (gr_trans (gr_alloc _ _) (gr_alloc _ _)))).mono ?_
 rintro e w1 ⟨rfl,hb1⟩
 have hS:=(Fs.two w _ _ _ _).kept hb1
 obtain ⟨⟨ya,yb,yc,-⟩,⟨yd,ye,yf,-⟩,-⟩:=hS.cells
 go_wp2_with fail
 refine (dcheck_dy s' a' n' cap' m' x' _ ((unhide H').kept hS.fr)).mono ?_
 rintro e w2 ⟨rfl,hb2⟩
 replace hS:=hS.kept hb2
 clear ya yb yc yd ye yf
 obtain ⟨⟨yg,yh,yi,-⟩,⟨yj,yk,yl,-⟩,-⟩:=hS.cells
 go_wp2
 go_ret
 exact ⟨rfl,hS.fr⟩
theorem copied_any (s:Bool) (a:Option Addr) (n cap m:Nat) (x:Int) (w:World) (h:Num w a n m) :
  Calls Tryz.prog 157 #[.agg #[.bool s,.slice a n cap,.int .i64 x]] w fun e w'=>(∃ A C,e = .returned (.agg #[.bool s,.slice A n C,.int .i64 x])∧Mine w' w.heap.size A n C m)∧Below w.heap.size w w':=by
 have H:=hide h
 clear h
 go_enter Tryz.func157,Tryz.ntmps157
 go_wp2_with fail
 refine (clone_any a n cap m _ (((unhide H).alloc _).alloc _)).mono ?_
 rintro e w1 ⟨⟨A1,C1,rfl,f1⟩,hb1⟩
 have hS:=(Fs.two w _ _ _ _).kept hb1
 obtain ⟨⟨ya,yb,yc,-⟩,⟨yd,ye,yf,-⟩,-⟩:=hS.cells
 have F1:=hide f1
 clear f1
 have Q_:=hS.frozen (b:=w.heap.size) (cs:=#[.bool s,.slice a n cap,.int .i64 x]) (t:=46) (by simp)
 have fy0:=Q_ 0
 have fy1:=Q_ 1
 have fy2:=Q_ 2
 clear Q_
 have Q_:=hS.frozen (b:=w.heap.size+1) (cs:=#[.bool false,.slice none 0 0,.int .i64 0]) (t:=46) (by simp)
 have fz0:=Q_ 0
 have fz1:=Q_ 1
 have fz2:=Q_ 2
 clear Q_
 go_wp2
 exact bodyPost_ret (v:=.agg #[.bool s,.slice A1 n C1,.int .i64 x]) (by simp [results,Tryz.results157,go_sem,yd,ye,yf]) rfl
  ⟨⟨_,_,rfl,(((((unhide F1).set (by simp <;> omega) _).set (by simp <;> omega) _).set (by simp <;> omega) _).set (by simp <;> omega) _).mono (by simp; omega)⟩,(((hS.fr.setCell (by simp) _).setCell (by simp <;> omega) _).setCell (by simp <;> omega) _).setCell (by simp <;> omega) _⟩
def sv (s:Bool) (m:Nat):Int:=if s then -(m:Int) else (m:Int)
theorem not_over {v n:Nat} (h:v < 2 ^ n) (hn:n≤524288):¬ Over v:=fun o=>by
 have h1:=o.le
 have h2:4294967296 ^ Pl.top = 2 ^ (32 * Pl.top):=by rw [Nat.pow_mul]
 rw [h2] at h1
 have h3:n≤32 * Pl.top:=by have:=Pl.top_eq; omega
 have h4:=Nat.pow_le_pow_right (show 0 < 2 by decide) h3
 exact absurd (Nat.lt_of_lt_of_le h h4) (Nat.not_lt.2 h1)
theorem sv_mul (s:Bool) (m p:Nat):sv s m * (p:Int) = sv s (m * p):=by
 unfold sv; cases s <;> simp [Int.neg_mul]
theorem rbias4_any (E F B:Nat) (h0:Fo E F) (HB:Hid (B = 2 ^ (E - 1) - 1)) (w:World)  :
  Calls Tryz.prog 36 #[.agg #[.int .i64 E,.int .i64 F]] w fun e w'=>e = .returned (.int .i64 B)∧Below w.heap.size w w':=by
 have h1:=h0.e2
 have h2:=h0.e11
 have HE:Hid (wrap64 (wrap64 (2 ^ (E - 1)) - 1) = (B:Int)):=hide (by
  have h3:=pow_bound (show E - 1≤10 by omega)
  have h4:=pow_pos2 (E - 1)
  have e:((2:Int) ^ (E - 1)) = ((2 ^ (E - 1):Nat):Int):=by simp
  rw [unhide HB,e]
  unfold wrap64
  omega)
 clear h0
 go_enter Tryz.func36,Tryz.ntmps36
 go_wp2
 go_ret
 exact ⟨ret_i64 (unhide HE),(Fs.one w _ _).fr⟩
theorem rmay_bad (E F:Int) (hbad:NoFo E F) (b:Int) (w:World)  :
  Calls Tryz.prog 21 #[.agg #[.int .i64 E,.int .i64 F],.int .u64 b] w fun e w'=>e = .returned (.int .i64 5)∧Below w.heap.size w w':=by
 unfold NoFo at hbad
 go_enter Tryz.func21,Tryz.ntmps21
 by_cases c1:E < 2
 ·go_wp2
  go_ret
  exact ⟨rfl,gr_alloc _ _⟩
 by_cases c2:11 < E
 ·go_wp2
  go_ret
  exact ⟨rfl,gr_alloc _ _⟩
 by_cases c3:F < 1
 ·go_wp2
  go_ret
  exact ⟨rfl,gr_alloc _ _⟩
 have c4:52 < F:=by omega
 clear hbad
 go_wp2
 go_ret
 exact ⟨rfl,gr_alloc _ _⟩
theorem rmay_zero (E F:Nat) (h0:Fo E F) (w:World)  :
  Calls Tryz.prog 21 #[.agg #[.int .i64 E,.int .i64 F],.int .u64 0] w fun e w'=>e = .returned (.int .i64 0)∧Below w.heap.size w w':=by
 obtain ⟨h1,h2,h3,h4⟩:=h0
 go_enter Tryz.func21,Tryz.ntmps21
 by_cases hs:E+F < 63
 ·go_wp2
  go_ret
  exact ⟨rfl,gr_alloc _ _⟩
 ·go_wp2
  go_ret
  exact ⟨rfl,gr_alloc _ _⟩
theorem drcheck_good (s:Bool) (a:Option Addr) (n cap m:Nat) (x:Int) (w:World) (h:Num w a n m) (hn:0 < n) (hm:m % 2 = 1) (hx:-1073741824≤x∧x≤1073741824) :
  Calls Tryz.prog 37 #[.agg #[.bool s,.slice a n cap,.int .i64 x]] w fun e w'=>e = .returned (.int .i64 0)∧Below w.heap.size w w':=by
 have h':=h
 obtain ⟨xs,hl,hL,-⟩:=h'
 rcases hL.parts with rfl|⟨hp,b,off,rfl,hlt,hcell⟩
 ·simp at hl; omega
 obtain ⟨x0,hb,hx0,hlt0,hmod⟩:=num_first h hn
 exact drcheck_ok s b off n cap _ x0 x w h hn hb hx0 hlt0 (by omega) hx
theorem rBits_lo_L_false (E F B:Nat) (h0:Fo E F) (HB:Hid (B = 2 ^ (E - 1) - 1)) (a:Option Addr) (n cap m k:Nat) (x L t0:Int) (j N pF:Nat) (w:World) (h:Num w a n m) (hn:0 < n) (hm:m % 2 = 1) (hx:-1073741824≤x∧x≤1073741824) (hk:Bl m k) (hk2:k≤524288) (hk1:0 < k) (hL:1 - (B:Int) - (F:Int) = L) (ht0:x+(k:Int) - 1 - (F:Int) = t0) (h4:k≤F+1) (h9:L≤x) (h24:L≤(B:Int) - (F:Int)) (hj:x - L = (j:Int)) (hj52:j≤52) (eN:IntKind.u64.wrap ((m:Int) * 2 ^ j) = (N:Int)) (hn2:n≤2) (eF:IntKind.u64.wrap (2 ^ F) = (pF:Int)) (hlo:N < pF) (hc:t0 < L) :
  Calls Tryz.prog 71 #[.agg #[.int .i64 E,.int .i64 F],.agg #[.bool false,.slice a n cap,.int .i64 x]] w fun e w'=>e = .returned (.tuple #[.int .u64 (N:Int),.bool true,.int .i64 0])∧Below w.heap.size w w':=by
 have H:=hide h
 have HM:=hide hm
 have HK:=hide hk
 have hB:B≤1023:=B_le h0 HB
 have hF:=h0.f52
 have hF1:=h0.f1
 have hE:=h0.e11
 have hE2:=h0.e2
 have hE2B:IntKind.i64.wrap (2 ^ E) = 2 * (B:Int)+2:=by
  have h3:=(B_two h0 HB).1
  have e:((2:Int) ^ E) = ((2 ^ E:Nat):Int):=by simp
  rw [e,h3,IntKind.wrap_i64]
  omega
 have H0:=hide h0
 clear h h0 hm hk
 go_enter Tryz.func71,Tryz.ntmps71
 go_wp2_with fail
 refine (rmay_zero _ _ (unhide H0) _).mono ?_
 rintro e w1 ⟨rfl,hb1⟩
 have hS:=(Fs.two w _ _ _ _).kept hb1
 obtain ⟨⟨ya,yb,-⟩,⟨yc,yd,ye,-⟩,-⟩:=hS.cells
 go_wp2_with fail
 refine (drcheck_good false a n cap m x _ ((unhide H).kept hS.fr) hn (unhide HM) hx).mono ?_
 rintro e w2 ⟨rfl,hb2⟩
 replace hS:=hS.kept hb2
 clear ya yb yc yd ye
 obtain ⟨⟨yf,yg,-⟩,⟨yh,yi,yj,-⟩,-⟩:=hS.cells
 go_wp2_with fail
 refine (rnone_no a n cap hn _).mono ?_
 rintro e w3 ⟨rfl,hb3⟩
 replace hS:=hS.kept hb3
 clear yf yg yh yi yj
 obtain ⟨⟨yk,yl,-⟩,⟨ym,yn,yo,-⟩,-⟩:=hS.cells
 go_wp2_with fail
 refine (rbits_k a n cap m k _ ((unhide H).kept hS.fr) (unhide HK)).mono ?_
 rintro e w4 ⟨rfl,hb4⟩
 replace hS:=hS.kept hb4
 clear yk yl ym yn yo
 obtain ⟨⟨yp,yq,-⟩,⟨yr,ys,yt,-⟩,-⟩:=hS.cells
 go_wp2_with fail
 refine wp_region_any (by kernel_rfl) ?_
 refine wpAny_det [some (32,.agg #[.int .i64 E,.int .i64 F]),some (33,.int .i64 B),some (34,.int .i64 (1 - (B:Int))),some (35,.pointer (some ⟨w.heap.size,1,none⟩)),some (36,.int .i64 F),some (37,.int .i64 L),some (10,.int .i64 L)]
  (fun _ W9=>Fs w W9 [⟨w.heap.size,#[.int .i64 E,.int .i64 F],23⟩,⟨w.heap.size+1,#[.bool false,.slice a n cap,.int .i64 x],46⟩]) _ _ rfl (by kernel_rfl) rfl rfl ?_ ?_ (hS).drew
 ·intro l9 t9 W9 i9 hD hi9 hl9 hM
  obtain ⟨o9,ho9,hd9⟩:=(mem_ready.1 hi9).2
  have hin9:i9 < 7:=by
   by_cases h:i9 < 7
   ·exact h
   ·rw [Array.getElem?_eq_none (by rw [hD.len]; simp; omega)] at hl9; cases hl9
  have hcase:i9 = 0∨i9 = 1∨i9 = 2∨i9 = 3∨i9 = 4∨i9 = 5∨i9 = 6:=by omega
  clear hin9
  rcases hcase with rfl|rfl|rfl|rfl|rfl|rfl|rfl
  ·cases ho9
   have r2:=hD.old 2 _ rfl rfl
   have hM0:=hM
   have Q_:=hM0.cellAt (b:=w.heap.size) (cs:=#[.int .i64 E,.int .i64 F]) (t:=23) (by simp)
   have c9_0:=Q_ 0 _ rfl
   have c9_1:=Q_ 1 _ rfl
   clear Q_
   clear hM0
   refine wpOp_step rfl fun K hK=>?_
   go_simp
   exact hK _ _ ⟨rfl,hM⟩
  ·cases ho9
   have r32:=hD.od hd9 0 32 _ rfl (by simp)
   refine wpOp_step rfl fun K hK=>?_
   go_simp
   go_wp2_with fail
   refine (rbias4_any E F B (unhide H0) HB _).mono ?_
   rintro en w9 ⟨rfl,hb9⟩
   exact hK _ _ ⟨rfl,hM.kept hb9⟩
  ·cases ho9
   have r33:=hD.od hd9 1 33 _ rfl (by simp)
   refine wpOp_step rfl fun K hK=>?_
   go_simp
   exact hK _ _ ⟨act_eq (by (show Value.int _ _ = Value.int _ _; congr 1; (first|rfl|omega|(rw [IntKind.wrap_i64]; omega)|(rw [IntKind.wrap_u64]; omega)))),hM⟩
  ·cases ho9
   have r2:=hD.old 2 _ rfl rfl
   refine wpOp_step rfl fun K hK=>?_
   go_simp
   exact hK _ _ ⟨rfl,hM⟩
  ·cases ho9
   have r35:=hD.od hd9 3 35 _ rfl (by simp)
   have hM0:=hM
   have c9_0:=hM0.cellAt (b:=w.heap.size) (cs:=#[.int .i64 E,.int .i64 F]) (t:=23) (by simp) 1 _ rfl
   clear hM0
   refine wpOp_step rfl fun K hK=>?_
   go_simp
   exact hK _ _ ⟨rfl,hM⟩
  ·cases ho9
   have r34:=hD.od hd9 2 34 _ rfl (by simp)
   have r36:=hD.od hd9 4 36 _ rfl (by simp)
   refine wpOp_step rfl fun K hK=>?_
   go_simp
   exact hK _ _ ⟨act_eq (by (show Value.int _ _ = Value.int _ _; congr 1; (first|rfl|omega|(rw [IntKind.wrap_i64]; omega)|(rw [IntKind.wrap_u64]; omega)))),hM⟩
  ·cases ho9
   have r37:=hD.od hd9 5 37 _ rfl (by simp)
   refine wpOp_step rfl fun K hK=>?_
   go_simp
   exact hK _ _ ⟨rfl,hM⟩
 ·intro l9 W9 hl9 hM
  clear hS yp yq yr ys yt
  have hS:=hM
  clear hM
  simp only [Puts.lay,List.setIfInBounds_toArray,List.set_cons_zero,List.set_cons_succ]
  obtain ⟨⟨yu,yv,-⟩,⟨yw,yx,yy,-⟩,-⟩:=hS.cells
  go_wp2_with fail
  refine wp_region_any (by kernel_rfl) ?_
  refine wpAny_det [some (50,.int .i64 k),some (51,.pointer (some ⟨w.heap.size,1,none⟩)),some (52,.int .i64 F),some (53,.int .i64 ((F:Int)+1)),some (54,.bool false),some (55,.bool false),some (56,.pointer (some ⟨w.heap.size+1,2,none⟩)),some (57,.int .i64 x),some (58,.int .i64 L),some (59,.bool false),some (60,.bool false),some (61,.bool false),some (62,.int .i64 L),some (63,.pointer (some ⟨w.heap.size,0,none⟩)),some (64,.int .i64 E),some (65,.int .u64 E),some (66,.int .i64 (2 * (B:Int)+2)),some (67,.int .i64 (2 * (B:Int))),some (68,.agg #[.int .i64 E,.int .i64 F]),some (69,.int .i64 B),some (70,.int .i64 B),some (71,.pointer (some ⟨w.heap.size,1,none⟩)),some (72,.int .i64 F),some (73,.int .i64 ((B:Int) - (F:Int))),some (74,.bool false),some (75,.bool false)]
   (fun _ W9=>Fs w W9 [⟨w.heap.size,#[.int .i64 E,.int .i64 F],23⟩,⟨w.heap.size+1,#[.bool false,.slice a n cap,.int .i64 x],46⟩]) _ _ rfl (by kernel_rfl) rfl rfl ?_ ?_ (hS).drew
  ·intro l9 t9 W9 i9 hD hi9 hl9 hM
   obtain ⟨o9,ho9,hd9⟩:=(mem_ready.1 hi9).2
   have hin9:i9 < 26:=by
    by_cases h:i9 < 26
    ·exact h
    ·rw [Array.getElem?_eq_none (by rw [hD.len]; simp; omega)] at hl9; cases hl9
   have hcase:i9 = 0∨i9 = 1∨i9 = 2∨i9 = 3∨i9 = 4∨i9 = 5∨i9 = 6∨i9 = 7∨i9 = 8∨i9 = 9∨i9 = 10∨i9 = 11∨i9 = 12∨i9 = 13∨i9 = 14∨i9 = 15∨i9 = 16∨i9 = 17∨i9 = 18∨i9 = 19∨i9 = 20∨i9 = 21∨i9 = 22∨i9 = 23∨i9 = 24∨i9 = 25:=by omega
   clear hin9
   rcases hcase with rfl|rfl|rfl|rfl|rfl|rfl|rfl|rfl|rfl|rfl|rfl|rfl|rfl|rfl|rfl|rfl|rfl|rfl|rfl|rfl|rfl|rfl|rfl|rfl|rfl|rfl
   ·cases ho9
    have r8:=hD.old 8 _ rfl rfl
    refine wpOp_step rfl fun K hK=>?_
    go_simp
    exact hK _ _ ⟨rfl,hM⟩
   ·cases ho9
    have r2:=hD.old 2 _ rfl rfl
    refine wpOp_step rfl fun K hK=>?_
    go_simp
    exact hK _ _ ⟨rfl,hM⟩
   ·cases ho9
    have r51:=hD.od hd9 1 51 _ rfl (by simp)
    have hM0:=hM
    have c9_0:=hM0.cellAt (b:=w.heap.size) (cs:=#[.int .i64 E,.int .i64 F]) (t:=23) (by simp) 1 _ rfl
    clear hM0
    refine wpOp_step rfl fun K hK=>?_
    go_simp
    exact hK _ _ ⟨rfl,hM⟩
   ·cases ho9
    have r52:=hD.od hd9 2 52 _ rfl (by simp)
    refine wpOp_step rfl fun K hK=>?_
    go_simp
    exact hK _ _ ⟨act_eq (by (show Value.int _ _ = Value.int _ _; congr 1; (first|rfl|omega|(rw [IntKind.wrap_i64]; omega)|(rw [IntKind.wrap_u64]; omega)))),hM⟩
   ·cases ho9
    have r50:=hD.od hd9 0 50 _ rfl (by simp)
    have r53:=hD.od hd9 3 53 _ rfl (by simp)
    refine wpOp_step rfl fun K hK=>?_
    go_simp
    exact hK _ _ ⟨act_eq (by (show Value.bool _ = Value.bool _; first|rfl|(congr 1; first|(exact decide_eq_true (by omega))|(exact decide_eq_false (by omega))|(simp; done)|(simp; omega)))),hM⟩
   ·cases ho9
    have r54:=hD.od hd9 4 54 _ rfl (by simp)
    refine wpOp_step rfl fun K hK=>?_
    go_simp
    exact hK _ _ ⟨rfl,hM⟩
   ·cases ho9
    have r55:=hD.on 5 55 _ rfl (getD_true (hd9 ⟨5,.guard⟩ (by simp) rfl))
    have r3:=hD.old 3 _ rfl rfl
    refine wpOp_step rfl fun K hK=>?_
    go_simp
    exact hK _ _ ⟨rfl,hM⟩
   ·cases ho9
    have r55:=hD.on 5 55 _ rfl (getD_true (hd9 ⟨5,.guard⟩ (by simp) rfl))
    have r56:=hD.od hd9 6 56 _ rfl (by simp)
    have hM0:=hM
    have c9_0:=hM0.cellAt (b:=w.heap.size+1) (cs:=#[.bool false,.slice a n cap,.int .i64 x]) (t:=46) (by simp) 2 _ rfl
    clear hM0
    refine wpOp_step rfl fun K hK=>?_
    go_simp
    exact hK _ _ ⟨rfl,hM⟩
   ·cases ho9
    have r55:=hD.on 5 55 _ rfl (getD_true (hd9 ⟨5,.guard⟩ (by simp) rfl))
    have r11:=hD.old 11 _ rfl rfl
    refine wpOp_step rfl fun K hK=>?_
    go_simp
    exact hK _ _ ⟨rfl,hM⟩
   ·cases ho9
    have r55:=hD.on 5 55 _ rfl (getD_true (hd9 ⟨5,.guard⟩ (by simp) rfl))
    have r57:=hD.od hd9 7 57 _ rfl (by simp)
    have r58:=hD.od hd9 8 58 _ rfl (by simp)
    refine wpOp_step rfl fun K hK=>?_
    go_simp
    exact hK _ _ ⟨act_eq (by (show Value.bool _ = Value.bool _; first|rfl|(congr 1; first|(exact decide_eq_true (by omega))|(exact decide_eq_false (by omega))|(simp; done)|(simp; omega)))),hM⟩
   ·cases ho9
    have r55:=hD.od hd9 5 55 _ rfl (by simp)
    have r59:=hD.od hd9 9 59 _ rfl (by simp)
    refine wpOp_step rfl fun K hK=>?_
    go_simp
    exact hK _ _ ⟨rfl,hM⟩
   ·cases ho9
    have r60:=hD.od hd9 10 60 _ rfl (by simp)
    refine wpOp_step rfl fun K hK=>?_
    go_simp
    exact hK _ _ ⟨rfl,hM⟩
   ·cases ho9
    have r61:=hD.on 11 61 _ rfl (getD_true (hd9 ⟨11,.guard⟩ (by simp) rfl))
    have r11:=hD.old 11 _ rfl rfl
    refine wpOp_step rfl fun K hK=>?_
    go_simp
    exact hK _ _ ⟨rfl,hM⟩
   ·cases ho9
    have r61:=hD.on 11 61 _ rfl (getD_true (hd9 ⟨11,.guard⟩ (by simp) rfl))
    have r2:=hD.old 2 _ rfl rfl
    refine wpOp_step rfl fun K hK=>?_
    go_simp
    exact hK _ _ ⟨rfl,hM⟩
   ·cases ho9
    have r61:=hD.on 11 61 _ rfl (getD_true (hd9 ⟨11,.guard⟩ (by simp) rfl))
    have r63:=hD.od hd9 13 63 _ rfl (by simp)
    have hM0:=hM
    have c9_0:=hM0.cellAt (b:=w.heap.size) (cs:=#[.int .i64 E,.int .i64 F]) (t:=23) (by simp) 0 _ rfl
    clear hM0
    refine wpOp_step rfl fun K hK=>?_
    go_simp
    exact hK _ _ ⟨rfl,hM⟩
   ·cases ho9
    have r61:=hD.on 11 61 _ rfl (getD_true (hd9 ⟨11,.guard⟩ (by simp) rfl))
    have r64:=hD.od hd9 14 64 _ rfl (by simp)
    refine wpOp_step rfl fun K hK=>?_
    go_simp
    exact hK _ _ ⟨act_eq (by (show Value.int _ _ = Value.int _ _; congr 1; (first|rfl|omega|(rw [IntKind.wrap_i64]; omega)|(rw [IntKind.wrap_u64]; omega)))),hM⟩
   ·cases ho9
    have r61:=hD.on 11 61 _ rfl (getD_true (hd9 ⟨11,.guard⟩ (by simp) rfl))
    have r65:=hD.od hd9 15 65 _ rfl (by simp)
    refine wpOp_step rfl fun K hK=>?_
    go_simp
    exact hK _ _ ⟨act_eq (by (show Value.int _ _ = Value.int _ _; first|rfl|(congr 1; first|exact hE2B|simpa using hE2B))),hM⟩
   ·cases ho9
    have r61:=hD.on 11 61 _ rfl (getD_true (hd9 ⟨11,.guard⟩ (by simp) rfl))
    have r66:=hD.od hd9 16 66 _ rfl (by simp)
    refine wpOp_step rfl fun K hK=>?_
    go_simp
    exact hK _ _ ⟨act_eq (by (show Value.int _ _ = Value.int _ _; congr 1; (first|rfl|omega|(rw [IntKind.wrap_i64]; omega)|(rw [IntKind.wrap_u64]; omega)))),hM⟩
   ·cases ho9
    have r61:=hD.on 11 61 _ rfl (getD_true (hd9 ⟨11,.guard⟩ (by simp) rfl))
    have r2:=hD.old 2 _ rfl rfl
    have hM0:=hM
    have Q_:=hM0.cellAt (b:=w.heap.size) (cs:=#[.int .i64 E,.int .i64 F]) (t:=23) (by simp)
    have c9_0:=Q_ 0 _ rfl
    have c9_1:=Q_ 1 _ rfl
    clear Q_
    clear hM0
    refine wpOp_step rfl fun K hK=>?_
    go_simp
    exact hK _ _ ⟨rfl,hM⟩
   ·cases ho9
    have r61:=hD.on 11 61 _ rfl (getD_true (hd9 ⟨11,.chain⟩ (by simp) rfl))
    have r68:=hD.od hd9 18 68 _ rfl (by simp)
    refine wpOp_step rfl fun K hK=>?_
    go_simp
    go_wp2_with fail
    refine (rbias4_any E F B (unhide H0) HB _).mono ?_
    rintro en w9 ⟨rfl,hb9⟩
    exact hK _ _ ⟨rfl,hM.kept hb9⟩
   ·cases ho9
    have r61:=hD.on 11 61 _ rfl (getD_true (hd9 ⟨11,.guard⟩ (by simp) rfl))
    have r67:=hD.od hd9 17 67 _ rfl (by simp)
    have r69:=hD.od hd9 19 69 _ rfl (by simp)
    refine wpOp_step rfl fun K hK=>?_
    go_simp
    exact hK _ _ ⟨act_eq (by (show Value.int _ _ = Value.int _ _; congr 1; (first|rfl|omega|(rw [IntKind.wrap_i64]; omega)|(rw [IntKind.wrap_u64]; omega)))),hM⟩
   ·cases ho9
    have r61:=hD.on 11 61 _ rfl (getD_true (hd9 ⟨11,.guard⟩ (by simp) rfl))
    have r2:=hD.old 2 _ rfl rfl
    refine wpOp_step rfl fun K hK=>?_
    go_simp
    exact hK _ _ ⟨rfl,hM⟩
   ·cases ho9
    have r61:=hD.on 11 61 _ rfl (getD_true (hd9 ⟨11,.guard⟩ (by simp) rfl))
    have r71:=hD.od hd9 21 71 _ rfl (by simp)
    have hM0:=hM
    have c9_0:=hM0.cellAt (b:=w.heap.size) (cs:=#[.int .i64 E,.int .i64 F]) (t:=23) (by simp) 1 _ rfl
    clear hM0
    refine wpOp_step rfl fun K hK=>?_
    go_simp
    exact hK _ _ ⟨rfl,hM⟩
   ·cases ho9
    have r61:=hD.on 11 61 _ rfl (getD_true (hd9 ⟨11,.guard⟩ (by simp) rfl))
    have r70:=hD.od hd9 20 70 _ rfl (by simp)
    have r72:=hD.od hd9 22 72 _ rfl (by simp)
    refine wpOp_step rfl fun K hK=>?_
    go_simp
    exact hK _ _ ⟨act_eq (by (show Value.int _ _ = Value.int _ _; congr 1; (first|rfl|omega|(rw [IntKind.wrap_i64]; omega)|(rw [IntKind.wrap_u64]; omega)))),hM⟩
   ·cases ho9
    have r61:=hD.on 11 61 _ rfl (getD_true (hd9 ⟨11,.guard⟩ (by simp) rfl))
    have r62:=hD.od hd9 12 62 _ rfl (by simp)
    have r73:=hD.od hd9 23 73 _ rfl (by simp)
    refine wpOp_step rfl fun K hK=>?_
    go_simp
    exact hK _ _ ⟨act_eq (by (show Value.bool _ = Value.bool _; first|rfl|(congr 1; first|(exact decide_eq_true (by omega))|(exact decide_eq_false (by omega))|(simp; done)|(simp; omega)))),hM⟩
   ·cases ho9
    have r61:=hD.od hd9 11 61 _ rfl (by simp)
    have r74:=hD.od hd9 24 74 _ rfl (by simp)
    refine wpOp_step rfl fun K hK=>?_
    go_simp
    exact hK _ _ ⟨rfl,hM⟩
  ·intro l9 W9 hl9 hM
   clear hS yu yv yw yx yy
   have hS:=hM
   clear hM
   simp only [Puts.lay,List.setIfInBounds_toArray,List.set_cons_zero,List.set_cons_succ]
   obtain ⟨⟨yz,y0,-⟩,⟨y1,y2,y3,-⟩,-⟩:=hS.cells
   go_wp2_with fail
   refine (rlow_small a n cap m _ ((unhide H).kept hS.fr) hn2).mono ?_
   rintro e w5 ⟨rfl,hb5⟩
   replace hS:=hS.kept hb5
   clear yz y0 y1 y2 y3
   obtain ⟨⟨y4,y5,-⟩,⟨y6,y7,y8,-⟩,-⟩:=hS.cells
   go_wp2
   exact bodyPost_ret (v:=.tuple #[.int .u64 (N:Int),.bool true,.int .i64 0]) (by simp [results,Tryz.results71,go_sem]) rfl ⟨rfl,hS.fr⟩
theorem rBits_lo_L_true (E F B:Nat) (h0:Fo E F) (HB:Hid (B = 2 ^ (E - 1) - 1)) (a:Option Addr) (n cap m k:Nat) (x L t0:Int) (j N pF pS b:Nat) (w:World) (h:Num w a n m) (hn:0 < n) (hm:m % 2 = 1) (hx:-1073741824≤x∧x≤1073741824) (hk:Bl m k) (hk2:k≤524288) (hk1:0 < k) (hL:1 - (B:Int) - (F:Int) = L) (ht0:x+(k:Int) - 1 - (F:Int) = t0) (h4:k≤F+1) (h9:L≤x) (h24:L≤(B:Int) - (F:Int)) (hj:x - L = (j:Int)) (hj52:j≤52) (eN:IntKind.u64.wrap ((m:Int) * 2 ^ j) = (N:Int)) (hn2:n≤2) (eF:IntKind.u64.wrap (2 ^ F) = (pF:Int)) (hlo:N < pF) (eS:IntKind.u64.wrap (2 ^ (E+F)) = (pS:Int)) (hb:b < 18446744073709551616) (eB:N+pS = b) (hc:t0 < L) :
  Calls Tryz.prog 71 #[.agg #[.int .i64 E,.int .i64 F],.agg #[.bool true,.slice a n cap,.int .i64 x]] w fun e w'=>e = .returned (.tuple #[.int .u64 (b:Int),.bool true,.int .i64 0])∧Below w.heap.size w w':=by
 have H:=hide h
 have HM:=hide hm
 have HK:=hide hk
 have hB:B≤1023:=B_le h0 HB
 have hF:=h0.f52
 have hF1:=h0.f1
 have hE:=h0.e11
 have hE2:=h0.e2
 have hE2B:IntKind.i64.wrap (2 ^ E) = 2 * (B:Int)+2:=by
  have h3:=(B_two h0 HB).1
  have e:((2:Int) ^ E) = ((2 ^ E:Nat):Int):=by simp
  rw [e,h3,IntKind.wrap_i64]
  omega
 have H0:=hide h0
 clear h h0 hm hk
 go_enter Tryz.func71,Tryz.ntmps71
 go_wp2_with fail
 refine (rmay_zero _ _ (unhide H0) _).mono ?_
 rintro e w1 ⟨rfl,hb1⟩
 have hS:=(Fs.two w _ _ _ _).kept hb1
 obtain ⟨⟨ya,yb,-⟩,⟨yc,yd,ye,-⟩,-⟩:=hS.cells
 go_wp2_with fail
 refine (drcheck_good true a n cap m x _ ((unhide H).kept hS.fr) hn (unhide HM) hx).mono ?_
 rintro e w2 ⟨rfl,hb2⟩
 replace hS:=hS.kept hb2
 clear ya yb yc yd ye
 obtain ⟨⟨yf,yg,-⟩,⟨yh,yi,yj,-⟩,-⟩:=hS.cells
 go_wp2_with fail
 refine (rnone_no a n cap hn _).mono ?_
 rintro e w3 ⟨rfl,hb3⟩
 replace hS:=hS.kept hb3
 clear yf yg yh yi yj
 obtain ⟨⟨yk,yl,-⟩,⟨ym,yn,yo,-⟩,-⟩:=hS.cells
 go_wp2_with fail
 refine (rbits_k a n cap m k _ ((unhide H).kept hS.fr) (unhide HK)).mono ?_
 rintro e w4 ⟨rfl,hb4⟩
 replace hS:=hS.kept hb4
 clear yk yl ym yn yo
 obtain ⟨⟨yp,yq,-⟩,⟨yr,ys,yt,-⟩,-⟩:=hS.cells
 go_wp2_with fail
 refine wp_region_any (by kernel_rfl) ?_
 refine wpAny_det [some (32,.agg #[.int .i64 E,.int .i64 F]),some (33,.int .i64 B),some (34,.int .i64 (1 - (B:Int))),some (35,.pointer (some ⟨w.heap.size,1,none⟩)),some (36,.int .i64 F),some (37,.int .i64 L),some (10,.int .i64 L)]
  (fun _ W9=>Fs w W9 [⟨w.heap.size,#[.int .i64 E,.int .i64 F],23⟩,⟨w.heap.size+1,#[.bool true,.slice a n cap,.int .i64 x],46⟩]) _ _ rfl (by kernel_rfl) rfl rfl ?_ ?_ (hS).drew
 ·intro l9 t9 W9 i9 hD hi9 hl9 hM
  obtain ⟨o9,ho9,hd9⟩:=(mem_ready.1 hi9).2
  have hin9:i9 < 7:=by
   by_cases h:i9 < 7
   ·exact h
   ·rw [Array.getElem?_eq_none (by rw [hD.len]; simp; omega)] at hl9; cases hl9
  have hcase:i9 = 0∨i9 = 1∨i9 = 2∨i9 = 3∨i9 = 4∨i9 = 5∨i9 = 6:=by omega
  clear hin9
  rcases hcase with rfl|rfl|rfl|rfl|rfl|rfl|rfl
  ·cases ho9
   have r2:=hD.old 2 _ rfl rfl
   have hM0:=hM
   have Q_:=hM0.cellAt (b:=w.heap.size) (cs:=#[.int .i64 E,.int .i64 F]) (t:=23) (by simp)
   have c9_0:=Q_ 0 _ rfl
   have c9_1:=Q_ 1 _ rfl
   clear Q_
   clear hM0
   refine wpOp_step rfl fun K hK=>?_
   go_simp
   exact hK _ _ ⟨rfl,hM⟩
  ·cases ho9
   have r32:=hD.od hd9 0 32 _ rfl (by simp)
   refine wpOp_step rfl fun K hK=>?_
   go_simp
   go_wp2_with fail
   refine (rbias4_any E F B (unhide H0) HB _).mono ?_
   rintro en w9 ⟨rfl,hb9⟩
   exact hK _ _ ⟨rfl,hM.kept hb9⟩
  ·cases ho9
   have r33:=hD.od hd9 1 33 _ rfl (by simp)
   refine wpOp_step rfl fun K hK=>?_
   go_simp
   exact hK _ _ ⟨act_eq (by (show Value.int _ _ = Value.int _ _; congr 1; (first|rfl|omega|(rw [IntKind.wrap_i64]; omega)|(rw [IntKind.wrap_u64]; omega)))),hM⟩
  ·cases ho9
   have r2:=hD.old 2 _ rfl rfl
   refine wpOp_step rfl fun K hK=>?_
   go_simp
   exact hK _ _ ⟨rfl,hM⟩
  ·cases ho9
   have r35:=hD.od hd9 3 35 _ rfl (by simp)
   have hM0:=hM
   have c9_0:=hM0.cellAt (b:=w.heap.size) (cs:=#[.int .i64 E,.int .i64 F]) (t:=23) (by simp) 1 _ rfl
   clear hM0
   refine wpOp_step rfl fun K hK=>?_
   go_simp
   exact hK _ _ ⟨rfl,hM⟩
  ·cases ho9
   have r34:=hD.od hd9 2 34 _ rfl (by simp)
   have r36:=hD.od hd9 4 36 _ rfl (by simp)
   refine wpOp_step rfl fun K hK=>?_
   go_simp
   exact hK _ _ ⟨act_eq (by (show Value.int _ _ = Value.int _ _; congr 1; (first|rfl|omega|(rw [IntKind.wrap_i64]; omega)|(rw [IntKind.wrap_u64]; omega)))),hM⟩
  ·cases ho9
   have r37:=hD.od hd9 5 37 _ rfl (by simp)
   refine wpOp_step rfl fun K hK=>?_
   go_simp
   exact hK _ _ ⟨rfl,hM⟩
 ·intro l9 W9 hl9 hM
  clear hS yp yq yr ys yt
  have hS:=hM
  clear hM
  simp only [Puts.lay,List.setIfInBounds_toArray,List.set_cons_zero,List.set_cons_succ]
  obtain ⟨⟨yu,yv,-⟩,⟨yw,yx,yy,-⟩,-⟩:=hS.cells
  go_wp2_with fail
  refine wp_region_any (by kernel_rfl) ?_
  refine wpAny_det [some (50,.int .i64 k),some (51,.pointer (some ⟨w.heap.size,1,none⟩)),some (52,.int .i64 F),some (53,.int .i64 ((F:Int)+1)),some (54,.bool false),some (55,.bool false),some (56,.pointer (some ⟨w.heap.size+1,2,none⟩)),some (57,.int .i64 x),some (58,.int .i64 L),some (59,.bool false),some (60,.bool false),some (61,.bool false),some (62,.int .i64 L),some (63,.pointer (some ⟨w.heap.size,0,none⟩)),some (64,.int .i64 E),some (65,.int .u64 E),some (66,.int .i64 (2 * (B:Int)+2)),some (67,.int .i64 (2 * (B:Int))),some (68,.agg #[.int .i64 E,.int .i64 F]),some (69,.int .i64 B),some (70,.int .i64 B),some (71,.pointer (some ⟨w.heap.size,1,none⟩)),some (72,.int .i64 F),some (73,.int .i64 ((B:Int) - (F:Int))),some (74,.bool false),some (75,.bool false)]
   (fun _ W9=>Fs w W9 [⟨w.heap.size,#[.int .i64 E,.int .i64 F],23⟩,⟨w.heap.size+1,#[.bool true,.slice a n cap,.int .i64 x],46⟩]) _ _ rfl (by kernel_rfl) rfl rfl ?_ ?_ (hS).drew
  ·intro l9 t9 W9 i9 hD hi9 hl9 hM
   obtain ⟨o9,ho9,hd9⟩:=(mem_ready.1 hi9).2
   have hin9:i9 < 26:=by
    by_cases h:i9 < 26
    ·exact h
    ·rw [Array.getElem?_eq_none (by rw [hD.len]; simp; omega)] at hl9; cases hl9
   have hcase:i9 = 0∨i9 = 1∨i9 = 2∨i9 = 3∨i9 = 4∨i9 = 5∨i9 = 6∨i9 = 7∨i9 = 8∨i9 = 9∨i9 = 10∨i9 = 11∨i9 = 12∨i9 = 13∨i9 = 14∨i9 = 15∨i9 = 16∨i9 = 17∨i9 = 18∨i9 = 19∨i9 = 20∨i9 = 21∨i9 = 22∨i9 = 23∨i9 = 24∨i9 = 25:=by omega
   clear hin9
   rcases hcase with rfl|rfl|rfl|rfl|rfl|rfl|rfl|rfl|rfl|rfl|rfl|rfl|rfl|rfl|rfl|rfl|rfl|rfl|rfl|rfl|rfl|rfl|rfl|rfl|rfl|rfl
   ·cases ho9
    have r8:=hD.old 8 _ rfl rfl
    refine wpOp_step rfl fun K hK=>?_
    go_simp
    exact hK _ _ ⟨rfl,hM⟩
   ·cases ho9
    have r2:=hD.old 2 _ rfl rfl
    refine wpOp_step rfl fun K hK=>?_
    go_simp
    exact hK _ _ ⟨rfl,hM⟩
   ·cases ho9
    have r51:=hD.od hd9 1 51 _ rfl (by simp)
    have hM0:=hM
    have c9_0:=hM0.cellAt (b:=w.heap.size) (cs:=#[.int .i64 E,.int .i64 F]) (t:=23) (by simp) 1 _ rfl
    clear hM0
    refine wpOp_step rfl fun K hK=>?_
    go_simp
    exact hK _ _ ⟨rfl,hM⟩
   ·cases ho9
    have r52:=hD.od hd9 2 52 _ rfl (by simp)
    refine wpOp_step rfl fun K hK=>?_
    go_simp
    exact hK _ _ ⟨act_eq (by (show Value.int _ _ = Value.int _ _; congr 1; (first|rfl|omega|(rw [IntKind.wrap_i64]; omega)|(rw [IntKind.wrap_u64]; omega)))),hM⟩
   ·cases ho9
    have r50:=hD.od hd9 0 50 _ rfl (by simp)
    have r53:=hD.od hd9 3 53 _ rfl (by simp)
    refine wpOp_step rfl fun K hK=>?_
    go_simp
    exact hK _ _ ⟨act_eq (by (show Value.bool _ = Value.bool _; first|rfl|(congr 1; first|(exact decide_eq_true (by omega))|(exact decide_eq_false (by omega))|(simp; done)|(simp; omega)))),hM⟩
   ·cases ho9
    have r54:=hD.od hd9 4 54 _ rfl (by simp)
    refine wpOp_step rfl fun K hK=>?_
    go_simp
    exact hK _ _ ⟨rfl,hM⟩
   ·cases ho9
    have r55:=hD.on 5 55 _ rfl (getD_true (hd9 ⟨5,.guard⟩ (by simp) rfl))
    have r3:=hD.old 3 _ rfl rfl
    refine wpOp_step rfl fun K hK=>?_
    go_simp
    exact hK _ _ ⟨rfl,hM⟩
   ·cases ho9
    have r55:=hD.on 5 55 _ rfl (getD_true (hd9 ⟨5,.guard⟩ (by simp) rfl))
    have r56:=hD.od hd9 6 56 _ rfl (by simp)
    have hM0:=hM
    have c9_0:=hM0.cellAt (b:=w.heap.size+1) (cs:=#[.bool true,.slice a n cap,.int .i64 x]) (t:=46) (by simp) 2 _ rfl
    clear hM0
    refine wpOp_step rfl fun K hK=>?_
    go_simp
    exact hK _ _ ⟨rfl,hM⟩
   ·cases ho9
    have r55:=hD.on 5 55 _ rfl (getD_true (hd9 ⟨5,.guard⟩ (by simp) rfl))
    have r11:=hD.old 11 _ rfl rfl
    refine wpOp_step rfl fun K hK=>?_
    go_simp
    exact hK _ _ ⟨rfl,hM⟩
   ·cases ho9
    have r55:=hD.on 5 55 _ rfl (getD_true (hd9 ⟨5,.guard⟩ (by simp) rfl))
    have r57:=hD.od hd9 7 57 _ rfl (by simp)
    have r58:=hD.od hd9 8 58 _ rfl (by simp)
    refine wpOp_step rfl fun K hK=>?_
    go_simp
    exact hK _ _ ⟨act_eq (by (show Value.bool _ = Value.bool _; first|rfl|(congr 1; first|(exact decide_eq_true (by omega))|(exact decide_eq_false (by omega))|(simp; done)|(simp; omega)))),hM⟩
   ·cases ho9
    have r55:=hD.od hd9 5 55 _ rfl (by simp)
    have r59:=hD.od hd9 9 59 _ rfl (by simp)
    refine wpOp_step rfl fun K hK=>?_
    go_simp
    exact hK _ _ ⟨rfl,hM⟩
   ·cases ho9
    have r60:=hD.od hd9 10 60 _ rfl (by simp)
    refine wpOp_step rfl fun K hK=>?_
    go_simp
    exact hK _ _ ⟨rfl,hM⟩
   ·cases ho9
    have r61:=hD.on 11 61 _ rfl (getD_true (hd9 ⟨11,.guard⟩ (by simp) rfl))
    have r11:=hD.old 11 _ rfl rfl
    refine wpOp_step rfl fun K hK=>?_
    go_simp
    exact hK _ _ ⟨rfl,hM⟩
   ·cases ho9
    have r61:=hD.on 11 61 _ rfl (getD_true (hd9 ⟨11,.guard⟩ (by simp) rfl))
    have r2:=hD.old 2 _ rfl rfl
    refine wpOp_step rfl fun K hK=>?_
    go_simp
    exact hK _ _ ⟨rfl,hM⟩
   ·cases ho9
    have r61:=hD.on 11 61 _ rfl (getD_true (hd9 ⟨11,.guard⟩ (by simp) rfl))
    have r63:=hD.od hd9 13 63 _ rfl (by simp)
    have hM0:=hM
    have c9_0:=hM0.cellAt (b:=w.heap.size) (cs:=#[.int .i64 E,.int .i64 F]) (t:=23) (by simp) 0 _ rfl
    clear hM0
    refine wpOp_step rfl fun K hK=>?_
    go_simp
    exact hK _ _ ⟨rfl,hM⟩
   ·cases ho9
    have r61:=hD.on 11 61 _ rfl (getD_true (hd9 ⟨11,.guard⟩ (by simp) rfl))
    have r64:=hD.od hd9 14 64 _ rfl (by simp)
    refine wpOp_step rfl fun K hK=>?_
    go_simp
    exact hK _ _ ⟨act_eq (by (show Value.int _ _ = Value.int _ _; congr 1; (first|rfl|omega|(rw [IntKind.wrap_i64]; omega)|(rw [IntKind.wrap_u64]; omega)))),hM⟩
   ·cases ho9
    have r61:=hD.on 11 61 _ rfl (getD_true (hd9 ⟨11,.guard⟩ (by simp) rfl))
    have r65:=hD.od hd9 15 65 _ rfl (by simp)
    refine wpOp_step rfl fun K hK=>?_
    go_simp
    exact hK _ _ ⟨act_eq (by (show Value.int _ _ = Value.int _ _; first|rfl|(congr 1; first|exact hE2B|simpa using hE2B))),hM⟩
   ·cases ho9
    have r61:=hD.on 11 61 _ rfl (getD_true (hd9 ⟨11,.guard⟩ (by simp) rfl))
    have r66:=hD.od hd9 16 66 _ rfl (by simp)
    refine wpOp_step rfl fun K hK=>?_
    go_simp
    exact hK _ _ ⟨act_eq (by (show Value.int _ _ = Value.int _ _; congr 1; (first|rfl|omega|(rw [IntKind.wrap_i64]; omega)|(rw [IntKind.wrap_u64]; omega)))),hM⟩
   ·cases ho9
    have r61:=hD.on 11 61 _ rfl (getD_true (hd9 ⟨11,.guard⟩ (by simp) rfl))
    have r2:=hD.old 2 _ rfl rfl
    have hM0:=hM
    have Q_:=hM0.cellAt (b:=w.heap.size) (cs:=#[.int .i64 E,.int .i64 F]) (t:=23) (by simp)
    have c9_0:=Q_ 0 _ rfl
    have c9_1:=Q_ 1 _ rfl
    clear Q_
    clear hM0
    refine wpOp_step rfl fun K hK=>?_
    go_simp
    exact hK _ _ ⟨rfl,hM⟩
   ·cases ho9
    have r61:=hD.on 11 61 _ rfl (getD_true (hd9 ⟨11,.chain⟩ (by simp) rfl))
    have r68:=hD.od hd9 18 68 _ rfl (by simp)
    refine wpOp_step rfl fun K hK=>?_
    go_simp
    go_wp2_with fail
    refine (rbias4_any E F B (unhide H0) HB _).mono ?_
    rintro en w9 ⟨rfl,hb9⟩
    exact hK _ _ ⟨rfl,hM.kept hb9⟩
   ·cases ho9
    have r61:=hD.on 11 61 _ rfl (getD_true (hd9 ⟨11,.guard⟩ (by simp) rfl))
    have r67:=hD.od hd9 17 67 _ rfl (by simp)
    have r69:=hD.od hd9 19 69 _ rfl (by simp)
    refine wpOp_step rfl fun K hK=>?_
    go_simp
    exact hK _ _ ⟨act_eq (by (show Value.int _ _ = Value.int _ _; congr 1; (first|rfl|omega|(rw [IntKind.wrap_i64]; omega)|(rw [IntKind.wrap_u64]; omega)))),hM⟩
   ·cases ho9
    have r61:=hD.on 11 61 _ rfl (getD_true (hd9 ⟨11,.guard⟩ (by simp) rfl))
    have r2:=hD.old 2 _ rfl rfl
    refine wpOp_step rfl fun K hK=>?_
    go_simp
    exact hK _ _ ⟨rfl,hM⟩
   ·cases ho9
    have r61:=hD.on 11 61 _ rfl (getD_true (hd9 ⟨11,.guard⟩ (by simp) rfl))
    have r71:=hD.od hd9 21 71 _ rfl (by simp)
    have hM0:=hM
    have c9_0:=hM0.cellAt (b:=w.heap.size) (cs:=#[.int .i64 E,.int .i64 F]) (t:=23) (by simp) 1 _ rfl
    clear hM0
    refine wpOp_step rfl fun K hK=>?_
    go_simp
    exact hK _ _ ⟨rfl,hM⟩
   ·cases ho9
    have r61:=hD.on 11 61 _ rfl (getD_true (hd9 ⟨11,.guard⟩ (by simp) rfl))
    have r70:=hD.od hd9 20 70 _ rfl (by simp)
    have r72:=hD.od hd9 22 72 _ rfl (by simp)
    refine wpOp_step rfl fun K hK=>?_
    go_simp
    exact hK _ _ ⟨act_eq (by (show Value.int _ _ = Value.int _ _; congr 1; (first|rfl|omega|(rw [IntKind.wrap_i64]; omega)|(rw [IntKind.wrap_u64]; omega)))),hM⟩
   ·cases ho9
    have r61:=hD.on 11 61 _ rfl (getD_true (hd9 ⟨11,.guard⟩ (by simp) rfl))
    have r62:=hD.od hd9 12 62 _ rfl (by simp)
    have r73:=hD.od hd9 23 73 _ rfl (by simp)
    refine wpOp_step rfl fun K hK=>?_
    go_simp
    exact hK _ _ ⟨act_eq (by (show Value.bool _ = Value.bool _; first|rfl|(congr 1; first|(exact decide_eq_true (by omega))|(exact decide_eq_false (by omega))|(simp; done)|(simp; omega)))),hM⟩
   ·cases ho9
    have r61:=hD.od hd9 11 61 _ rfl (by simp)
    have r74:=hD.od hd9 24 74 _ rfl (by simp)
    refine wpOp_step rfl fun K hK=>?_
    go_simp
    exact hK _ _ ⟨rfl,hM⟩
  ·intro l9 W9 hl9 hM
   clear hS yu yv yw yx yy
   have hS:=hM
   clear hM
   simp only [Puts.lay,List.setIfInBounds_toArray,List.set_cons_zero,List.set_cons_succ]
   obtain ⟨⟨yz,y0,-⟩,⟨y1,y2,y3,-⟩,-⟩:=hS.cells
   go_wp2_with fail
   refine (rlow_small a n cap m _ ((unhide H).kept hS.fr) hn2).mono ?_
   rintro e w5 ⟨rfl,hb5⟩
   replace hS:=hS.kept hb5
   clear yz y0 y1 y2 y3
   obtain ⟨⟨y4,y5,-⟩,⟨y6,y7,y8,-⟩,-⟩:=hS.cells
   have eB2:IntKind.u64.wrap ((N:Int)+(pS:Int)) = (b:Int):=by rw [IntKind.wrap_u64]; omega
   go_wp2
   exact bodyPost_ret (v:=.tuple #[.int .u64 (b:Int),.bool true,.int .i64 0]) (by simp [results,Tryz.results71,go_sem]) rfl ⟨rfl,hS.fr⟩
theorem rBits_hi_t0_false (E F B:Nat) (h0:Fo E F) (HB:Hid (B = 2 ^ (E - 1) - 1)) (a:Option Addr) (n cap m k:Nat) (x L t0:Int) (j N pF fr ex X:Nat) (w:World) (h:Num w a n m) (hn:0 < n) (hm:m % 2 = 1) (hx:-1073741824≤x∧x≤1073741824) (hk:Bl m k) (_hk2:k≤524288) (_hk1:0 < k) (hL:1 - (B:Int) - (F:Int) = L) (ht0:x+(k:Int) - 1 - (F:Int) = t0) (_h4:k≤F+1) (h9:t0≤x) (h24:t0≤(B:Int) - (F:Int)) (hj:x - t0 = (j:Int)) (hj52:j≤52) (hN:N < 18446744073709551616) (eN:IntKind.u64.wrap ((m:Int) * 2 ^ j) = (N:Int)) (hn2:n≤2) (eF:IntKind.u64.wrap (2 ^ F) = (pF:Int)) (hp:pF≤4503599627370496) (hhi:pF≤N) (hfr:fr+pF = N) (hex:t0+(B:Int)+(F:Int) = (ex:Int)) (eX:IntKind.u64.wrap ((ex:Int) * 2 ^ F) = (X:Int)) (hX:X < 18446744073709551616) (hY:fr+X < 18446744073709551616) (hc:L≤t0) :
  Calls Tryz.prog 71 #[.agg #[.int .i64 E,.int .i64 F],.agg #[.bool false,.slice a n cap,.int .i64 x]] w fun e w'=>e = .returned (.tuple #[.int .u64 ((fr:Int)+(X:Int)),.bool true,.int .i64 0])∧Below w.heap.size w w':=by
 have H:=hide h
 have HM:=hide hm
 have HK:=hide hk
 have hB:B≤1023:=B_le h0 HB
 have hF:=h0.f52
 have hF1:=h0.f1
 have hE:=h0.e11
 have hE2:=h0.e2
 have hE2B:IntKind.i64.wrap (2 ^ E) = 2 * (B:Int)+2:=by
  have h3:=(B_two h0 HB).1
  have e:((2:Int) ^ E) = ((2 ^ E:Nat):Int):=by simp
  rw [e,h3,IntKind.wrap_i64]
  omega
 have H0:=hide h0
 clear h h0 hm hk
 go_enter Tryz.func71,Tryz.ntmps71
 go_wp2_with fail
 refine (rmay_zero _ _ (unhide H0) _).mono ?_
 rintro e w1 ⟨rfl,hb1⟩
 have hS:=(Fs.two w _ _ _ _).kept hb1
 obtain ⟨⟨ya,yb,-⟩,⟨yc,yd,ye,-⟩,-⟩:=hS.cells
 go_wp2_with fail
 refine (drcheck_good false a n cap m x _ ((unhide H).kept hS.fr) hn (unhide HM) hx).mono ?_
 rintro e w2 ⟨rfl,hb2⟩
 replace hS:=hS.kept hb2
 clear ya yb yc yd ye
 obtain ⟨⟨yf,yg,-⟩,⟨yh,yi,yj,-⟩,-⟩:=hS.cells
 go_wp2_with fail
 refine (rnone_no a n cap hn _).mono ?_
 rintro e w3 ⟨rfl,hb3⟩
 replace hS:=hS.kept hb3
 clear yf yg yh yi yj
 obtain ⟨⟨yk,yl,-⟩,⟨ym,yn,yo,-⟩,-⟩:=hS.cells
 go_wp2_with fail
 refine (rbits_k a n cap m k _ ((unhide H).kept hS.fr) (unhide HK)).mono ?_
 rintro e w4 ⟨rfl,hb4⟩
 replace hS:=hS.kept hb4
 clear yk yl ym yn yo
 obtain ⟨⟨yp,yq,-⟩,⟨yr,ys,yt,-⟩,-⟩:=hS.cells
 go_wp2_with fail
 refine wp_region_any (by kernel_rfl) ?_
 refine wpAny_det [some (32,.agg #[.int .i64 E,.int .i64 F]),some (33,.int .i64 B),some (34,.int .i64 (1 - (B:Int))),some (35,.pointer (some ⟨w.heap.size,1,none⟩)),some (36,.int .i64 F),some (37,.int .i64 L),some (10,.int .i64 L)]
  (fun _ W9=>Fs w W9 [⟨w.heap.size,#[.int .i64 E,.int .i64 F],23⟩,⟨w.heap.size+1,#[.bool false,.slice a n cap,.int .i64 x],46⟩]) _ _ rfl (by kernel_rfl) rfl rfl ?_ ?_ (hS).drew
 ·intro l9 t9 W9 i9 hD hi9 hl9 hM
  obtain ⟨o9,ho9,hd9⟩:=(mem_ready.1 hi9).2
  have hin9:i9 < 7:=by
   by_cases h:i9 < 7
   ·exact h
   ·rw [Array.getElem?_eq_none (by rw [hD.len]; simp; omega)] at hl9; cases hl9
  have hcase:i9 = 0∨i9 = 1∨i9 = 2∨i9 = 3∨i9 = 4∨i9 = 5∨i9 = 6:=by omega
  clear hin9
  rcases hcase with rfl|rfl|rfl|rfl|rfl|rfl|rfl
  ·cases ho9
   have r2:=hD.old 2 _ rfl rfl
   have hM0:=hM
   have Q_:=hM0.cellAt (b:=w.heap.size) (cs:=#[.int .i64 E,.int .i64 F]) (t:=23) (by simp)
   have c9_0:=Q_ 0 _ rfl
   have c9_1:=Q_ 1 _ rfl
   clear Q_
   clear hM0
   refine wpOp_step rfl fun K hK=>?_
   go_simp
   exact hK _ _ ⟨rfl,hM⟩
  ·cases ho9
   have r32:=hD.od hd9 0 32 _ rfl (by simp)
   refine wpOp_step rfl fun K hK=>?_
   go_simp
   go_wp2_with fail
   refine (rbias4_any E F B (unhide H0) HB _).mono ?_
   rintro en w9 ⟨rfl,hb9⟩
   exact hK _ _ ⟨rfl,hM.kept hb9⟩
  ·cases ho9
   have r33:=hD.od hd9 1 33 _ rfl (by simp)
   refine wpOp_step rfl fun K hK=>?_
   go_simp
   exact hK _ _ ⟨act_eq (by (show Value.int _ _ = Value.int _ _; congr 1; (first|rfl|omega|(rw [IntKind.wrap_i64]; omega)|(rw [IntKind.wrap_u64]; omega)))),hM⟩
  ·cases ho9
   have r2:=hD.old 2 _ rfl rfl
   refine wpOp_step rfl fun K hK=>?_
   go_simp
   exact hK _ _ ⟨rfl,hM⟩
  ·cases ho9
   have r35:=hD.od hd9 3 35 _ rfl (by simp)
   have hM0:=hM
   have c9_0:=hM0.cellAt (b:=w.heap.size) (cs:=#[.int .i64 E,.int .i64 F]) (t:=23) (by simp) 1 _ rfl
   clear hM0
   refine wpOp_step rfl fun K hK=>?_
   go_simp
   exact hK _ _ ⟨rfl,hM⟩
  ·cases ho9
   have r34:=hD.od hd9 2 34 _ rfl (by simp)
   have r36:=hD.od hd9 4 36 _ rfl (by simp)
   refine wpOp_step rfl fun K hK=>?_
   go_simp
   exact hK _ _ ⟨act_eq (by (show Value.int _ _ = Value.int _ _; congr 1; (first|rfl|omega|(rw [IntKind.wrap_i64]; omega)|(rw [IntKind.wrap_u64]; omega)))),hM⟩
  ·cases ho9
   have r37:=hD.od hd9 5 37 _ rfl (by simp)
   refine wpOp_step rfl fun K hK=>?_
   go_simp
   exact hK _ _ ⟨rfl,hM⟩
 ·intro l9 W9 hl9 hM
  clear hS yp yq yr ys yt
  have hS:=hM
  clear hM
  simp only [Puts.lay,List.setIfInBounds_toArray,List.set_cons_zero,List.set_cons_succ]
  obtain ⟨⟨yu,yv,-⟩,⟨yw,yx,yy,-⟩,-⟩:=hS.cells
  go_wp2_with fail
  refine wp_region_any (by kernel_rfl) ?_
  refine wpAny_det [some (50,.int .i64 k),some (51,.pointer (some ⟨w.heap.size,1,none⟩)),some (52,.int .i64 F),some (53,.int .i64 ((F:Int)+1)),some (54,.bool false),some (55,.bool false),some (56,.pointer (some ⟨w.heap.size+1,2,none⟩)),some (57,.int .i64 x),some (58,.int .i64 t0),some (59,.bool false),some (60,.bool false),some (61,.bool false),some (62,.int .i64 t0),some (63,.pointer (some ⟨w.heap.size,0,none⟩)),some (64,.int .i64 E),some (65,.int .u64 E),some (66,.int .i64 (2 * (B:Int)+2)),some (67,.int .i64 (2 * (B:Int))),some (68,.agg #[.int .i64 E,.int .i64 F]),some (69,.int .i64 B),some (70,.int .i64 B),some (71,.pointer (some ⟨w.heap.size,1,none⟩)),some (72,.int .i64 F),some (73,.int .i64 ((B:Int) - (F:Int))),some (74,.bool false),some (75,.bool false)]
   (fun _ W9=>Fs w W9 [⟨w.heap.size,#[.int .i64 E,.int .i64 F],23⟩,⟨w.heap.size+1,#[.bool false,.slice a n cap,.int .i64 x],46⟩]) _ _ rfl (by kernel_rfl) rfl rfl ?_ ?_ (hS).drew
  ·intro l9 t9 W9 i9 hD hi9 hl9 hM
   obtain ⟨o9,ho9,hd9⟩:=(mem_ready.1 hi9).2
   have hin9:i9 < 26:=by
    by_cases h:i9 < 26
    ·exact h
    ·rw [Array.getElem?_eq_none (by rw [hD.len]; simp; omega)] at hl9; cases hl9
   have hcase:i9 = 0∨i9 = 1∨i9 = 2∨i9 = 3∨i9 = 4∨i9 = 5∨i9 = 6∨i9 = 7∨i9 = 8∨i9 = 9∨i9 = 10∨i9 = 11∨i9 = 12∨i9 = 13∨i9 = 14∨i9 = 15∨i9 = 16∨i9 = 17∨i9 = 18∨i9 = 19∨i9 = 20∨i9 = 21∨i9 = 22∨i9 = 23∨i9 = 24∨i9 = 25:=by omega
   clear hin9
   rcases hcase with rfl|rfl|rfl|rfl|rfl|rfl|rfl|rfl|rfl|rfl|rfl|rfl|rfl|rfl|rfl|rfl|rfl|rfl|rfl|rfl|rfl|rfl|rfl|rfl|rfl|rfl
   ·cases ho9
    have r8:=hD.old 8 _ rfl rfl
    refine wpOp_step rfl fun K hK=>?_
    go_simp
    exact hK _ _ ⟨rfl,hM⟩
   ·cases ho9
    have r2:=hD.old 2 _ rfl rfl
    refine wpOp_step rfl fun K hK=>?_
    go_simp
    exact hK _ _ ⟨rfl,hM⟩
   ·cases ho9
    have r51:=hD.od hd9 1 51 _ rfl (by simp)
    have hM0:=hM
    have c9_0:=hM0.cellAt (b:=w.heap.size) (cs:=#[.int .i64 E,.int .i64 F]) (t:=23) (by simp) 1 _ rfl
    clear hM0
    refine wpOp_step rfl fun K hK=>?_
    go_simp
    exact hK _ _ ⟨rfl,hM⟩
   ·cases ho9
    have r52:=hD.od hd9 2 52 _ rfl (by simp)
    refine wpOp_step rfl fun K hK=>?_
    go_simp
    exact hK _ _ ⟨act_eq (by (show Value.int _ _ = Value.int _ _; congr 1; (first|rfl|omega|(rw [IntKind.wrap_i64]; omega)|(rw [IntKind.wrap_u64]; omega)))),hM⟩
   ·cases ho9
    have r50:=hD.od hd9 0 50 _ rfl (by simp)
    have r53:=hD.od hd9 3 53 _ rfl (by simp)
    refine wpOp_step rfl fun K hK=>?_
    go_simp
    exact hK _ _ ⟨act_eq (by (show Value.bool _ = Value.bool _; first|rfl|(congr 1; first|(exact decide_eq_true (by omega))|(exact decide_eq_false (by omega))|(simp; done)|(simp; omega)))),hM⟩
   ·cases ho9
    have r54:=hD.od hd9 4 54 _ rfl (by simp)
    refine wpOp_step rfl fun K hK=>?_
    go_simp
    exact hK _ _ ⟨rfl,hM⟩
   ·cases ho9
    have r55:=hD.on 5 55 _ rfl (getD_true (hd9 ⟨5,.guard⟩ (by simp) rfl))
    have r3:=hD.old 3 _ rfl rfl
    refine wpOp_step rfl fun K hK=>?_
    go_simp
    exact hK _ _ ⟨rfl,hM⟩
   ·cases ho9
    have r55:=hD.on 5 55 _ rfl (getD_true (hd9 ⟨5,.guard⟩ (by simp) rfl))
    have r56:=hD.od hd9 6 56 _ rfl (by simp)
    have hM0:=hM
    have c9_0:=hM0.cellAt (b:=w.heap.size+1) (cs:=#[.bool false,.slice a n cap,.int .i64 x]) (t:=46) (by simp) 2 _ rfl
    clear hM0
    refine wpOp_step rfl fun K hK=>?_
    go_simp
    exact hK _ _ ⟨rfl,hM⟩
   ·cases ho9
    have r55:=hD.on 5 55 _ rfl (getD_true (hd9 ⟨5,.guard⟩ (by simp) rfl))
    have r11:=hD.old 11 _ rfl rfl
    refine wpOp_step rfl fun K hK=>?_
    go_simp
    exact hK _ _ ⟨rfl,hM⟩
   ·cases ho9
    have r55:=hD.on 5 55 _ rfl (getD_true (hd9 ⟨5,.guard⟩ (by simp) rfl))
    have r57:=hD.od hd9 7 57 _ rfl (by simp)
    have r58:=hD.od hd9 8 58 _ rfl (by simp)
    refine wpOp_step rfl fun K hK=>?_
    go_simp
    exact hK _ _ ⟨act_eq (by (show Value.bool _ = Value.bool _; first|rfl|(congr 1; first|(exact decide_eq_true (by omega))|(exact decide_eq_false (by omega))|(simp; done)|(simp; omega)))),hM⟩
   ·cases ho9
    have r55:=hD.od hd9 5 55 _ rfl (by simp)
    have r59:=hD.od hd9 9 59 _ rfl (by simp)
    refine wpOp_step rfl fun K hK=>?_
    go_simp
    exact hK _ _ ⟨rfl,hM⟩
   ·cases ho9
    have r60:=hD.od hd9 10 60 _ rfl (by simp)
    refine wpOp_step rfl fun K hK=>?_
    go_simp
    exact hK _ _ ⟨rfl,hM⟩
   ·cases ho9
    have r61:=hD.on 11 61 _ rfl (getD_true (hd9 ⟨11,.guard⟩ (by simp) rfl))
    have r11:=hD.old 11 _ rfl rfl
    refine wpOp_step rfl fun K hK=>?_
    go_simp
    exact hK _ _ ⟨rfl,hM⟩
   ·cases ho9
    have r61:=hD.on 11 61 _ rfl (getD_true (hd9 ⟨11,.guard⟩ (by simp) rfl))
    have r2:=hD.old 2 _ rfl rfl
    refine wpOp_step rfl fun K hK=>?_
    go_simp
    exact hK _ _ ⟨rfl,hM⟩
   ·cases ho9
    have r61:=hD.on 11 61 _ rfl (getD_true (hd9 ⟨11,.guard⟩ (by simp) rfl))
    have r63:=hD.od hd9 13 63 _ rfl (by simp)
    have hM0:=hM
    have c9_0:=hM0.cellAt (b:=w.heap.size) (cs:=#[.int .i64 E,.int .i64 F]) (t:=23) (by simp) 0 _ rfl
    clear hM0
    refine wpOp_step rfl fun K hK=>?_
    go_simp
    exact hK _ _ ⟨rfl,hM⟩
   ·cases ho9
    have r61:=hD.on 11 61 _ rfl (getD_true (hd9 ⟨11,.guard⟩ (by simp) rfl))
    have r64:=hD.od hd9 14 64 _ rfl (by simp)
    refine wpOp_step rfl fun K hK=>?_
    go_simp
    exact hK _ _ ⟨act_eq (by (show Value.int _ _ = Value.int _ _; congr 1; (first|rfl|omega|(rw [IntKind.wrap_i64]; omega)|(rw [IntKind.wrap_u64]; omega)))),hM⟩
   ·cases ho9
    have r61:=hD.on 11 61 _ rfl (getD_true (hd9 ⟨11,.guard⟩ (by simp) rfl))
    have r65:=hD.od hd9 15 65 _ rfl (by simp)
    refine wpOp_step rfl fun K hK=>?_
    go_simp
    exact hK _ _ ⟨act_eq (by (show Value.int _ _ = Value.int _ _; first|rfl|(congr 1; first|exact hE2B|simpa using hE2B))),hM⟩
   ·cases ho9
    have r61:=hD.on 11 61 _ rfl (getD_true (hd9 ⟨11,.guard⟩ (by simp) rfl))
    have r66:=hD.od hd9 16 66 _ rfl (by simp)
    refine wpOp_step rfl fun K hK=>?_
    go_simp
    exact hK _ _ ⟨act_eq (by (show Value.int _ _ = Value.int _ _; congr 1; (first|rfl|omega|(rw [IntKind.wrap_i64]; omega)|(rw [IntKind.wrap_u64]; omega)))),hM⟩
   ·cases ho9
    have r61:=hD.on 11 61 _ rfl (getD_true (hd9 ⟨11,.guard⟩ (by simp) rfl))
    have r2:=hD.old 2 _ rfl rfl
    have hM0:=hM
    have Q_:=hM0.cellAt (b:=w.heap.size) (cs:=#[.int .i64 E,.int .i64 F]) (t:=23) (by simp)
    have c9_0:=Q_ 0 _ rfl
    have c9_1:=Q_ 1 _ rfl
    clear Q_
    clear hM0
    refine wpOp_step rfl fun K hK=>?_
    go_simp
    exact hK _ _ ⟨rfl,hM⟩
   ·cases ho9
    have r61:=hD.on 11 61 _ rfl (getD_true (hd9 ⟨11,.chain⟩ (by simp) rfl))
    have r68:=hD.od hd9 18 68 _ rfl (by simp)
    refine wpOp_step rfl fun K hK=>?_
    go_simp
    go_wp2_with fail
    refine (rbias4_any E F B (unhide H0) HB _).mono ?_
    rintro en w9 ⟨rfl,hb9⟩
    exact hK _ _ ⟨rfl,hM.kept hb9⟩
   ·cases ho9
    have r61:=hD.on 11 61 _ rfl (getD_true (hd9 ⟨11,.guard⟩ (by simp) rfl))
    have r67:=hD.od hd9 17 67 _ rfl (by simp)
    have r69:=hD.od hd9 19 69 _ rfl (by simp)
    refine wpOp_step rfl fun K hK=>?_
    go_simp
    exact hK _ _ ⟨act_eq (by (show Value.int _ _ = Value.int _ _; congr 1; (first|rfl|omega|(rw [IntKind.wrap_i64]; omega)|(rw [IntKind.wrap_u64]; omega)))),hM⟩
   ·cases ho9
    have r61:=hD.on 11 61 _ rfl (getD_true (hd9 ⟨11,.guard⟩ (by simp) rfl))
    have r2:=hD.old 2 _ rfl rfl
    refine wpOp_step rfl fun K hK=>?_
    go_simp
    exact hK _ _ ⟨rfl,hM⟩
   ·cases ho9
    have r61:=hD.on 11 61 _ rfl (getD_true (hd9 ⟨11,.guard⟩ (by simp) rfl))
    have r71:=hD.od hd9 21 71 _ rfl (by simp)
    have hM0:=hM
    have c9_0:=hM0.cellAt (b:=w.heap.size) (cs:=#[.int .i64 E,.int .i64 F]) (t:=23) (by simp) 1 _ rfl
    clear hM0
    refine wpOp_step rfl fun K hK=>?_
    go_simp
    exact hK _ _ ⟨rfl,hM⟩
   ·cases ho9
    have r61:=hD.on 11 61 _ rfl (getD_true (hd9 ⟨11,.guard⟩ (by simp) rfl))
    have r70:=hD.od hd9 20 70 _ rfl (by simp)
    have r72:=hD.od hd9 22 72 _ rfl (by simp)
    refine wpOp_step rfl fun K hK=>?_
    go_simp
    exact hK _ _ ⟨act_eq (by (show Value.int _ _ = Value.int _ _; congr 1; (first|rfl|omega|(rw [IntKind.wrap_i64]; omega)|(rw [IntKind.wrap_u64]; omega)))),hM⟩
   ·cases ho9
    have r61:=hD.on 11 61 _ rfl (getD_true (hd9 ⟨11,.guard⟩ (by simp) rfl))
    have r62:=hD.od hd9 12 62 _ rfl (by simp)
    have r73:=hD.od hd9 23 73 _ rfl (by simp)
    refine wpOp_step rfl fun K hK=>?_
    go_simp
    exact hK _ _ ⟨act_eq (by (show Value.bool _ = Value.bool _; first|rfl|(congr 1; first|(exact decide_eq_true (by omega))|(exact decide_eq_false (by omega))|(simp; done)|(simp; omega)))),hM⟩
   ·cases ho9
    have r61:=hD.od hd9 11 61 _ rfl (by simp)
    have r74:=hD.od hd9 24 74 _ rfl (by simp)
    refine wpOp_step rfl fun K hK=>?_
    go_simp
    exact hK _ _ ⟨rfl,hM⟩
  ·intro l9 W9 hl9 hM
   clear hS yu yv yw yx yy
   have hS:=hM
   clear hM
   simp only [Puts.lay,List.setIfInBounds_toArray,List.set_cons_zero,List.set_cons_succ]
   obtain ⟨⟨yz,y0,-⟩,⟨y1,y2,y3,-⟩,-⟩:=hS.cells
   go_wp2_with fail
   refine (rlow_small a n cap m _ ((unhide H).kept hS.fr) hn2).mono ?_
   rintro e w5 ⟨rfl,hb5⟩
   replace hS:=hS.kept hb5
   clear yz y0 y1 y2 y3
   obtain ⟨⟨y4,y5,-⟩,⟨y6,y7,y8,-⟩,-⟩:=hS.cells
   go_wp2_with fail
   refine wp_region_any (by kernel_rfl) ?_
   refine wpAny_det [some (95,.int .u64 N),some (96,.pointer (some ⟨w.heap.size,1,none⟩)),some (97,.int .i64 F),some (98,.int .u64 F),some (99,.int .u64 pF),some (100,.int .u64 fr),some (101,.int .i64 t0),some (102,.agg #[.int .i64 E,.int .i64 F]),some (103,.int .i64 B),some (104,.int .i64 (t0+(B:Int))),some (105,.pointer (some ⟨w.heap.size,1,none⟩)),some (106,.int .i64 F),some (107,.int .i64 ex),some (108,.int .u64 ex),some (109,.pointer (some ⟨w.heap.size,1,none⟩)),some (110,.int .i64 F),some (111,.int .u64 F),some (112,.int .u64 X),some (113,.int .u64 ((fr:Int)+(X:Int))),some (12,.int .u64 ((fr:Int)+(X:Int)))]
    (fun _ W9=>Fs w W9 [⟨w.heap.size,#[.int .i64 E,.int .i64 F],23⟩,⟨w.heap.size+1,#[.bool false,.slice a n cap,.int .i64 x],46⟩]) _ _ rfl (by kernel_rfl) rfl rfl ?_ ?_ (hS).drew
   ·intro l9 t9 W9 i9 hD hi9 hl9 hM
    obtain ⟨o9,ho9,hd9⟩:=(mem_ready.1 hi9).2
    have hin9:i9 < 20:=by
     by_cases h:i9 < 20
     ·exact h
     ·rw [Array.getElem?_eq_none (by rw [hD.len]; simp; omega)] at hl9; cases hl9
    have hcase:i9 = 0∨i9 = 1∨i9 = 2∨i9 = 3∨i9 = 4∨i9 = 5∨i9 = 6∨i9 = 7∨i9 = 8∨i9 = 9∨i9 = 10∨i9 = 11∨i9 = 12∨i9 = 13∨i9 = 14∨i9 = 15∨i9 = 16∨i9 = 17∨i9 = 18∨i9 = 19:=by omega
    clear hin9
    rcases hcase with rfl|rfl|rfl|rfl|rfl|rfl|rfl|rfl|rfl|rfl|rfl|rfl|rfl|rfl|rfl|rfl|rfl|rfl|rfl|rfl
    ·cases ho9
     have r12:=hD.wait rfl 0 19 12 _ _ _ ⟨0,.phase⟩ hl9 rfl rfl (by simp) rfl rfl rfl
     refine wpOp_step rfl fun K hK=>?_
     go_simp
     exact hK _ _ ⟨rfl,hM⟩
    ·cases ho9
     have r2:=hD.old 2 _ rfl rfl
     refine wpOp_step rfl fun K hK=>?_
     go_simp
     exact hK _ _ ⟨rfl,hM⟩
    ·cases ho9
     have r96:=hD.od hd9 1 96 _ rfl (by simp)
     have hM0:=hM
     have c9_0:=hM0.cellAt (b:=w.heap.size) (cs:=#[.int .i64 E,.int .i64 F]) (t:=23) (by simp) 1 _ rfl
     clear hM0
     refine wpOp_step rfl fun K hK=>?_
     go_simp
     exact hK _ _ ⟨rfl,hM⟩
    ·cases ho9
     have r97:=hD.od hd9 2 97 _ rfl (by simp)
     refine wpOp_step rfl fun K hK=>?_
     go_simp
     exact hK _ _ ⟨act_eq (by (show Value.int _ _ = Value.int _ _; congr 1; (first|rfl|omega|(rw [IntKind.wrap_i64]; omega)|(rw [IntKind.wrap_u64]; omega)))),hM⟩
    ·cases ho9
     have r98:=hD.od hd9 3 98 _ rfl (by simp)
     refine wpOp_step rfl fun K hK=>?_
     go_simp
     exact hK _ _ ⟨act_eq (by (show Value.int _ _ = Value.int _ _; first|rfl|(congr 1; first|exact eF|simpa using eF))),hM⟩
    ·cases ho9
     have r95:=hD.od hd9 0 95 _ rfl (by simp)
     have r99:=hD.od hd9 4 99 _ rfl (by simp)
     refine wpOp_step rfl fun K hK=>?_
     go_simp
     exact hK _ _ ⟨act_eq (by (show Value.int _ _ = Value.int _ _; congr 1; (first|rfl|omega|(rw [IntKind.wrap_i64]; omega)|(rw [IntKind.wrap_u64]; omega)))),hM⟩
    ·cases ho9
     have r11:=hD.old 11 _ rfl rfl
     refine wpOp_step rfl fun K hK=>?_
     go_simp
     exact hK _ _ ⟨rfl,hM⟩
    ·cases ho9
     have r2:=hD.old 2 _ rfl rfl
     have hM0:=hM
     have Q_:=hM0.cellAt (b:=w.heap.size) (cs:=#[.int .i64 E,.int .i64 F]) (t:=23) (by simp)
     have c9_0:=Q_ 0 _ rfl
     have c9_1:=Q_ 1 _ rfl
     clear Q_
     clear hM0
     refine wpOp_step rfl fun K hK=>?_
     go_simp
     exact hK _ _ ⟨rfl,hM⟩
    ·cases ho9
     have r102:=hD.od hd9 7 102 _ rfl (by simp)
     refine wpOp_step rfl fun K hK=>?_
     go_simp
     go_wp2_with fail
     refine (rbias4_any E F B (unhide H0) HB _).mono ?_
     rintro en w9 ⟨rfl,hb9⟩
     exact hK _ _ ⟨rfl,hM.kept hb9⟩
    ·cases ho9
     have r101:=hD.od hd9 6 101 _ rfl (by simp)
     have r103:=hD.od hd9 8 103 _ rfl (by simp)
     refine wpOp_step rfl fun K hK=>?_
     go_simp
     exact hK _ _ ⟨act_eq (by (show Value.int _ _ = Value.int _ _; congr 1; (first|rfl|omega|(rw [IntKind.wrap_i64]; omega)|(rw [IntKind.wrap_u64]; omega)))),hM⟩
    ·cases ho9
     have r2:=hD.old 2 _ rfl rfl
     refine wpOp_step rfl fun K hK=>?_
     go_simp
     exact hK _ _ ⟨rfl,hM⟩
    ·cases ho9
     have r105:=hD.od hd9 10 105 _ rfl (by simp)
     have hM0:=hM
     have c9_0:=hM0.cellAt (b:=w.heap.size) (cs:=#[.int .i64 E,.int .i64 F]) (t:=23) (by simp) 1 _ rfl
     clear hM0
     refine wpOp_step rfl fun K hK=>?_
     go_simp
     exact hK _ _ ⟨rfl,hM⟩
    ·cases ho9
     have r104:=hD.od hd9 9 104 _ rfl (by simp)
     have r106:=hD.od hd9 11 106 _ rfl (by simp)
     refine wpOp_step rfl fun K hK=>?_
     go_simp
     exact hK _ _ ⟨act_eq (by (show Value.int _ _ = Value.int _ _; congr 1; (first|rfl|omega|(rw [IntKind.wrap_i64]; omega)|(rw [IntKind.wrap_u64]; omega)))),hM⟩
    ·cases ho9
     have r107:=hD.od hd9 12 107 _ rfl (by simp)
     refine wpOp_step rfl fun K hK=>?_
     go_simp
     exact hK _ _ ⟨act_eq (by (show Value.int _ _ = Value.int _ _; congr 1; (first|rfl|omega|(rw [IntKind.wrap_i64]; omega)|(rw [IntKind.wrap_u64]; omega)))),hM⟩
    ·cases ho9
     have r2:=hD.old 2 _ rfl rfl
     refine wpOp_step rfl fun K hK=>?_
     go_simp
     exact hK _ _ ⟨rfl,hM⟩
    ·cases ho9
     have r109:=hD.od hd9 14 109 _ rfl (by simp)
     have hM0:=hM
     have c9_0:=hM0.cellAt (b:=w.heap.size) (cs:=#[.int .i64 E,.int .i64 F]) (t:=23) (by simp) 1 _ rfl
     clear hM0
     refine wpOp_step rfl fun K hK=>?_
     go_simp
     exact hK _ _ ⟨rfl,hM⟩
    ·cases ho9
     have r110:=hD.od hd9 15 110 _ rfl (by simp)
     refine wpOp_step rfl fun K hK=>?_
     go_simp
     exact hK _ _ ⟨act_eq (by (show Value.int _ _ = Value.int _ _; congr 1; (first|rfl|omega|(rw [IntKind.wrap_i64]; omega)|(rw [IntKind.wrap_u64]; omega)))),hM⟩
    ·cases ho9
     have r108:=hD.od hd9 13 108 _ rfl (by simp)
     have r111:=hD.od hd9 16 111 _ rfl (by simp)
     refine wpOp_step rfl fun K hK=>?_
     go_simp
     exact hK _ _ ⟨act_eq (by (show Value.int _ _ = Value.int _ _; first|rfl|(congr 1; first|exact eX|simpa using eX))),hM⟩
    ·cases ho9
     have r100:=hD.od hd9 5 100 _ rfl (by simp)
     have r112:=hD.od hd9 17 112 _ rfl (by simp)
     refine wpOp_step rfl fun K hK=>?_
     go_simp
     exact hK _ _ ⟨act_eq (by (show Value.int _ _ = Value.int _ _; congr 1; (first|rfl|omega|(rw [IntKind.wrap_i64]; omega)|(rw [IntKind.wrap_u64]; omega)))),hM⟩
    ·cases ho9
     have r113:=hD.od hd9 18 113 _ rfl (by simp)
     refine wpOp_step rfl fun K hK=>?_
     go_simp
     exact hK _ _ ⟨rfl,hM⟩
   ·intro l9 W9 hl9 hM
    clear hS y4 y5 y6 y7 y8
    have hS:=hM
    clear hM
    simp only [Puts.lay,List.setIfInBounds_toArray,List.set_cons_zero,List.set_cons_succ]
    obtain ⟨⟨y9,yba,-⟩,⟨ybb,ybc,ybd,-⟩,-⟩:=hS.cells
    go_wp2
    exact bodyPost_ret (v:=.tuple #[.int .u64 ((fr:Int)+(X:Int)),.bool true,.int .i64 0]) (by simp [results,Tryz.results71,go_sem]) rfl ⟨rfl,hS.fr⟩
theorem rBits_hi_t0_true (E F B:Nat) (h0:Fo E F) (HB:Hid (B = 2 ^ (E - 1) - 1)) (a:Option Addr) (n cap m k:Nat) (x L t0:Int) (j N pF fr ex X pS b:Nat) (w:World) (h:Num w a n m) (hn:0 < n) (hm:m % 2 = 1) (hx:-1073741824≤x∧x≤1073741824) (hk:Bl m k) (_hk2:k≤524288) (_hk1:0 < k) (hL:1 - (B:Int) - (F:Int) = L) (ht0:x+(k:Int) - 1 - (F:Int) = t0) (_h4:k≤F+1) (h9:t0≤x) (h24:t0≤(B:Int) - (F:Int)) (hj:x - t0 = (j:Int)) (hj52:j≤52) (hN:N < 18446744073709551616) (eN:IntKind.u64.wrap ((m:Int) * 2 ^ j) = (N:Int)) (hn2:n≤2) (eF:IntKind.u64.wrap (2 ^ F) = (pF:Int)) (hp:pF≤4503599627370496) (hhi:pF≤N) (hfr:fr+pF = N) (hex:t0+(B:Int)+(F:Int) = (ex:Int)) (eX:IntKind.u64.wrap ((ex:Int) * 2 ^ F) = (X:Int)) (hX:X < 18446744073709551616) (hY:fr+X < 18446744073709551616) (eS:IntKind.u64.wrap (2 ^ (E+F)) = (pS:Int)) (hb:b < 18446744073709551616) (eB:fr+X+pS = b) (hc:L≤t0) :
  Calls Tryz.prog 71 #[.agg #[.int .i64 E,.int .i64 F],.agg #[.bool true,.slice a n cap,.int .i64 x]] w fun e w'=>e = .returned (.tuple #[.int .u64 (b:Int),.bool true,.int .i64 0])∧Below w.heap.size w w':=by
 have H:=hide h
 have HM:=hide hm
 have HK:=hide hk
 have hB:B≤1023:=B_le h0 HB
 have hF:=h0.f52
 have hF1:=h0.f1
 have hE:=h0.e11
 have hE2:=h0.e2
 have hE2B:IntKind.i64.wrap (2 ^ E) = 2 * (B:Int)+2:=by
  have h3:=(B_two h0 HB).1
  have e:((2:Int) ^ E) = ((2 ^ E:Nat):Int):=by simp
  rw [e,h3,IntKind.wrap_i64]
  omega
 have H0:=hide h0
 clear h h0 hm hk
 go_enter Tryz.func71,Tryz.ntmps71
 go_wp2_with fail
 refine (rmay_zero _ _ (unhide H0) _).mono ?_
 rintro e w1 ⟨rfl,hb1⟩
 have hS:=(Fs.two w _ _ _ _).kept hb1
 obtain ⟨⟨ya,yb,-⟩,⟨yc,yd,ye,-⟩,-⟩:=hS.cells
 go_wp2_with fail
 refine (drcheck_good true a n cap m x _ ((unhide H).kept hS.fr) hn (unhide HM) hx).mono ?_
 rintro e w2 ⟨rfl,hb2⟩
 replace hS:=hS.kept hb2
 clear ya yb yc yd ye
 obtain ⟨⟨yf,yg,-⟩,⟨yh,yi,yj,-⟩,-⟩:=hS.cells
 go_wp2_with fail
 refine (rnone_no a n cap hn _).mono ?_
 rintro e w3 ⟨rfl,hb3⟩
 replace hS:=hS.kept hb3
 clear yf yg yh yi yj
 obtain ⟨⟨yk,yl,-⟩,⟨ym,yn,yo,-⟩,-⟩:=hS.cells
 go_wp2_with fail
 refine (rbits_k a n cap m k _ ((unhide H).kept hS.fr) (unhide HK)).mono ?_
 rintro e w4 ⟨rfl,hb4⟩
 replace hS:=hS.kept hb4
 clear yk yl ym yn yo
 obtain ⟨⟨yp,yq,-⟩,⟨yr,ys,yt,-⟩,-⟩:=hS.cells
 go_wp2_with fail
 refine wp_region_any (by kernel_rfl) ?_
 refine wpAny_det [some (32,.agg #[.int .i64 E,.int .i64 F]),some (33,.int .i64 B),some (34,.int .i64 (1 - (B:Int))),some (35,.pointer (some ⟨w.heap.size,1,none⟩)),some (36,.int .i64 F),some (37,.int .i64 L),some (10,.int .i64 L)]
  (fun _ W9=>Fs w W9 [⟨w.heap.size,#[.int .i64 E,.int .i64 F],23⟩,⟨w.heap.size+1,#[.bool true,.slice a n cap,.int .i64 x],46⟩]) _ _ rfl (by kernel_rfl) rfl rfl ?_ ?_ (hS).drew
 ·intro l9 t9 W9 i9 hD hi9 hl9 hM
  obtain ⟨o9,ho9,hd9⟩:=(mem_ready.1 hi9).2
  have hin9:i9 < 7:=by
   by_cases h:i9 < 7
   ·exact h
   ·rw [Array.getElem?_eq_none (by rw [hD.len]; simp; omega)] at hl9; cases hl9
  have hcase:i9 = 0∨i9 = 1∨i9 = 2∨i9 = 3∨i9 = 4∨i9 = 5∨i9 = 6:=by omega
  clear hin9
  rcases hcase with rfl|rfl|rfl|rfl|rfl|rfl|rfl
  ·cases ho9
   have r2:=hD.old 2 _ rfl rfl
   have hM0:=hM
   have Q_:=hM0.cellAt (b:=w.heap.size) (cs:=#[.int .i64 E,.int .i64 F]) (t:=23) (by simp)
   have c9_0:=Q_ 0 _ rfl
   have c9_1:=Q_ 1 _ rfl
   clear Q_
   clear hM0
   refine wpOp_step rfl fun K hK=>?_
   go_simp
   exact hK _ _ ⟨rfl,hM⟩
  ·cases ho9
   have r32:=hD.od hd9 0 32 _ rfl (by simp)
   refine wpOp_step rfl fun K hK=>?_
   go_simp
   go_wp2_with fail
   refine (rbias4_any E F B (unhide H0) HB _).mono ?_
   rintro en w9 ⟨rfl,hb9⟩
   exact hK _ _ ⟨rfl,hM.kept hb9⟩
  ·cases ho9
   have r33:=hD.od hd9 1 33 _ rfl (by simp)
   refine wpOp_step rfl fun K hK=>?_
   go_simp
   exact hK _ _ ⟨act_eq (by (show Value.int _ _ = Value.int _ _; congr 1; (first|rfl|omega|(rw [IntKind.wrap_i64]; omega)|(rw [IntKind.wrap_u64]; omega)))),hM⟩
  ·cases ho9
   have r2:=hD.old 2 _ rfl rfl
   refine wpOp_step rfl fun K hK=>?_
   go_simp
   exact hK _ _ ⟨rfl,hM⟩
  ·cases ho9
   have r35:=hD.od hd9 3 35 _ rfl (by simp)
   have hM0:=hM
   have c9_0:=hM0.cellAt (b:=w.heap.size) (cs:=#[.int .i64 E,.int .i64 F]) (t:=23) (by simp) 1 _ rfl
   clear hM0
   refine wpOp_step rfl fun K hK=>?_
   go_simp
   exact hK _ _ ⟨rfl,hM⟩
  ·cases ho9
   have r34:=hD.od hd9 2 34 _ rfl (by simp)
   have r36:=hD.od hd9 4 36 _ rfl (by simp)
   refine wpOp_step rfl fun K hK=>?_
   go_simp
   exact hK _ _ ⟨act_eq (by (show Value.int _ _ = Value.int _ _; congr 1; (first|rfl|omega|(rw [IntKind.wrap_i64]; omega)|(rw [IntKind.wrap_u64]; omega)))),hM⟩
  ·cases ho9
   have r37:=hD.od hd9 5 37 _ rfl (by simp)
   refine wpOp_step rfl fun K hK=>?_
   go_simp
   exact hK _ _ ⟨rfl,hM⟩
 ·intro l9 W9 hl9 hM
  clear hS yp yq yr ys yt
  have hS:=hM
  clear hM
  simp only [Puts.lay,List.setIfInBounds_toArray,List.set_cons_zero,List.set_cons_succ]
  obtain ⟨⟨yu,yv,-⟩,⟨yw,yx,yy,-⟩,-⟩:=hS.cells
  go_wp2_with fail
  refine wp_region_any (by kernel_rfl) ?_
  refine wpAny_det [some (50,.int .i64 k),some (51,.pointer (some ⟨w.heap.size,1,none⟩)),some (52,.int .i64 F),some (53,.int .i64 ((F:Int)+1)),some (54,.bool false),some (55,.bool false),some (56,.pointer (some ⟨w.heap.size+1,2,none⟩)),some (57,.int .i64 x),some (58,.int .i64 t0),some (59,.bool false),some (60,.bool false),some (61,.bool false),some (62,.int .i64 t0),some (63,.pointer (some ⟨w.heap.size,0,none⟩)),some (64,.int .i64 E),some (65,.int .u64 E),some (66,.int .i64 (2 * (B:Int)+2)),some (67,.int .i64 (2 * (B:Int))),some (68,.agg #[.int .i64 E,.int .i64 F]),some (69,.int .i64 B),some (70,.int .i64 B),some (71,.pointer (some ⟨w.heap.size,1,none⟩)),some (72,.int .i64 F),some (73,.int .i64 ((B:Int) - (F:Int))),some (74,.bool false),some (75,.bool false)]
   (fun _ W9=>Fs w W9 [⟨w.heap.size,#[.int .i64 E,.int .i64 F],23⟩,⟨w.heap.size+1,#[.bool true,.slice a n cap,.int .i64 x],46⟩]) _ _ rfl (by kernel_rfl) rfl rfl ?_ ?_ (hS).drew
  ·intro l9 t9 W9 i9 hD hi9 hl9 hM
   obtain ⟨o9,ho9,hd9⟩:=(mem_ready.1 hi9).2
   have hin9:i9 < 26:=by
    by_cases h:i9 < 26
    ·exact h
    ·rw [Array.getElem?_eq_none (by rw [hD.len]; simp; omega)] at hl9; cases hl9
   have hcase:i9 = 0∨i9 = 1∨i9 = 2∨i9 = 3∨i9 = 4∨i9 = 5∨i9 = 6∨i9 = 7∨i9 = 8∨i9 = 9∨i9 = 10∨i9 = 11∨i9 = 12∨i9 = 13∨i9 = 14∨i9 = 15∨i9 = 16∨i9 = 17∨i9 = 18∨i9 = 19∨i9 = 20∨i9 = 21∨i9 = 22∨i9 = 23∨i9 = 24∨i9 = 25:=by omega
   clear hin9
   rcases hcase with rfl|rfl|rfl|rfl|rfl|rfl|rfl|rfl|rfl|rfl|rfl|rfl|rfl|rfl|rfl|rfl|rfl|rfl|rfl|rfl|rfl|rfl|rfl|rfl|rfl|rfl
   ·cases ho9
    have r8:=hD.old 8 _ rfl rfl
    refine wpOp_step rfl fun K hK=>?_
    go_simp
    exact hK _ _ ⟨rfl,hM⟩
   ·cases ho9
    have r2:=hD.old 2 _ rfl rfl
    refine wpOp_step rfl fun K hK=>?_
    go_simp
    exact hK _ _ ⟨rfl,hM⟩
   ·cases ho9
    have r51:=hD.od hd9 1 51 _ rfl (by simp)
    have hM0:=hM
    have c9_0:=hM0.cellAt (b:=w.heap.size) (cs:=#[.int .i64 E,.int .i64 F]) (t:=23) (by simp) 1 _ rfl
    clear hM0
    refine wpOp_step rfl fun K hK=>?_
    go_simp
    exact hK _ _ ⟨rfl,hM⟩
   ·cases ho9
    have r52:=hD.od hd9 2 52 _ rfl (by simp)
    refine wpOp_step rfl fun K hK=>?_
    go_simp
    exact hK _ _ ⟨act_eq (by (show Value.int _ _ = Value.int _ _; congr 1; (first|rfl|omega|(rw [IntKind.wrap_i64]; omega)|(rw [IntKind.wrap_u64]; omega)))),hM⟩
   ·cases ho9
    have r50:=hD.od hd9 0 50 _ rfl (by simp)
    have r53:=hD.od hd9 3 53 _ rfl (by simp)
    refine wpOp_step rfl fun K hK=>?_
    go_simp
    exact hK _ _ ⟨act_eq (by (show Value.bool _ = Value.bool _; first|rfl|(congr 1; first|(exact decide_eq_true (by omega))|(exact decide_eq_false (by omega))|(simp; done)|(simp; omega)))),hM⟩
   ·cases ho9
    have r54:=hD.od hd9 4 54 _ rfl (by simp)
    refine wpOp_step rfl fun K hK=>?_
    go_simp
    exact hK _ _ ⟨rfl,hM⟩
   ·cases ho9
    have r55:=hD.on 5 55 _ rfl (getD_true (hd9 ⟨5,.guard⟩ (by simp) rfl))
    have r3:=hD.old 3 _ rfl rfl
    refine wpOp_step rfl fun K hK=>?_
    go_simp
    exact hK _ _ ⟨rfl,hM⟩
   ·cases ho9
    have r55:=hD.on 5 55 _ rfl (getD_true (hd9 ⟨5,.guard⟩ (by simp) rfl))
    have r56:=hD.od hd9 6 56 _ rfl (by simp)
    have hM0:=hM
    have c9_0:=hM0.cellAt (b:=w.heap.size+1) (cs:=#[.bool true,.slice a n cap,.int .i64 x]) (t:=46) (by simp) 2 _ rfl
    clear hM0
    refine wpOp_step rfl fun K hK=>?_
    go_simp
    exact hK _ _ ⟨rfl,hM⟩
   ·cases ho9
    have r55:=hD.on 5 55 _ rfl (getD_true (hd9 ⟨5,.guard⟩ (by simp) rfl))
    have r11:=hD.old 11 _ rfl rfl
    refine wpOp_step rfl fun K hK=>?_
    go_simp
    exact hK _ _ ⟨rfl,hM⟩
   ·cases ho9
    have r55:=hD.on 5 55 _ rfl (getD_true (hd9 ⟨5,.guard⟩ (by simp) rfl))
    have r57:=hD.od hd9 7 57 _ rfl (by simp)
    have r58:=hD.od hd9 8 58 _ rfl (by simp)
    refine wpOp_step rfl fun K hK=>?_
    go_simp
    exact hK _ _ ⟨act_eq (by (show Value.bool _ = Value.bool _; first|rfl|(congr 1; first|(exact decide_eq_true (by omega))|(exact decide_eq_false (by omega))|(simp; done)|(simp; omega)))),hM⟩
   ·cases ho9
    have r55:=hD.od hd9 5 55 _ rfl (by simp)
    have r59:=hD.od hd9 9 59 _ rfl (by simp)
    refine wpOp_step rfl fun K hK=>?_
    go_simp
    exact hK _ _ ⟨rfl,hM⟩
   ·cases ho9
    have r60:=hD.od hd9 10 60 _ rfl (by simp)
    refine wpOp_step rfl fun K hK=>?_
    go_simp
    exact hK _ _ ⟨rfl,hM⟩
   ·cases ho9
    have r61:=hD.on 11 61 _ rfl (getD_true (hd9 ⟨11,.guard⟩ (by simp) rfl))
    have r11:=hD.old 11 _ rfl rfl
    refine wpOp_step rfl fun K hK=>?_
    go_simp
    exact hK _ _ ⟨rfl,hM⟩
   ·cases ho9
    have r61:=hD.on 11 61 _ rfl (getD_true (hd9 ⟨11,.guard⟩ (by simp) rfl))
    have r2:=hD.old 2 _ rfl rfl
    refine wpOp_step rfl fun K hK=>?_
    go_simp
    exact hK _ _ ⟨rfl,hM⟩
   ·cases ho9
    have r61:=hD.on 11 61 _ rfl (getD_true (hd9 ⟨11,.guard⟩ (by simp) rfl))
    have r63:=hD.od hd9 13 63 _ rfl (by simp)
    have hM0:=hM
    have c9_0:=hM0.cellAt (b:=w.heap.size) (cs:=#[.int .i64 E,.int .i64 F]) (t:=23) (by simp) 0 _ rfl
    clear hM0
    refine wpOp_step rfl fun K hK=>?_
    go_simp
    exact hK _ _ ⟨rfl,hM⟩
   ·cases ho9
    have r61:=hD.on 11 61 _ rfl (getD_true (hd9 ⟨11,.guard⟩ (by simp) rfl))
    have r64:=hD.od hd9 14 64 _ rfl (by simp)
    refine wpOp_step rfl fun K hK=>?_
    go_simp
    exact hK _ _ ⟨act_eq (by (show Value.int _ _ = Value.int _ _; congr 1; (first|rfl|omega|(rw [IntKind.wrap_i64]; omega)|(rw [IntKind.wrap_u64]; omega)))),hM⟩
   ·cases ho9
    have r61:=hD.on 11 61 _ rfl (getD_true (hd9 ⟨11,.guard⟩ (by simp) rfl))
    have r65:=hD.od hd9 15 65 _ rfl (by simp)
    refine wpOp_step rfl fun K hK=>?_
    go_simp
    exact hK _ _ ⟨act_eq (by (show Value.int _ _ = Value.int _ _; first|rfl|(congr 1; first|exact hE2B|simpa using hE2B))),hM⟩
   ·cases ho9
    have r61:=hD.on 11 61 _ rfl (getD_true (hd9 ⟨11,.guard⟩ (by simp) rfl))
    have r66:=hD.od hd9 16 66 _ rfl (by simp)
    refine wpOp_step rfl fun K hK=>?_
    go_simp
    exact hK _ _ ⟨act_eq (by (show Value.int _ _ = Value.int _ _; congr 1; (first|rfl|omega|(rw [IntKind.wrap_i64]; omega)|(rw [IntKind.wrap_u64]; omega)))),hM⟩
   ·cases ho9
    have r61:=hD.on 11 61 _ rfl (getD_true (hd9 ⟨11,.guard⟩ (by simp) rfl))
    have r2:=hD.old 2 _ rfl rfl
    have hM0:=hM
    have Q_:=hM0.cellAt (b:=w.heap.size) (cs:=#[.int .i64 E,.int .i64 F]) (t:=23) (by simp)
    have c9_0:=Q_ 0 _ rfl
    have c9_1:=Q_ 1 _ rfl
    clear Q_
    clear hM0
    refine wpOp_step rfl fun K hK=>?_
    go_simp
    exact hK _ _ ⟨rfl,hM⟩
   ·cases ho9
    have r61:=hD.on 11 61 _ rfl (getD_true (hd9 ⟨11,.chain⟩ (by simp) rfl))
    have r68:=hD.od hd9 18 68 _ rfl (by simp)
    refine wpOp_step rfl fun K hK=>?_
    go_simp
    go_wp2_with fail
    refine (rbias4_any E F B (unhide H0) HB _).mono ?_
    rintro en w9 ⟨rfl,hb9⟩
    exact hK _ _ ⟨rfl,hM.kept hb9⟩
   ·cases ho9
    have r61:=hD.on 11 61 _ rfl (getD_true (hd9 ⟨11,.guard⟩ (by simp) rfl))
    have r67:=hD.od hd9 17 67 _ rfl (by simp)
    have r69:=hD.od hd9 19 69 _ rfl (by simp)
    refine wpOp_step rfl fun K hK=>?_
    go_simp
    exact hK _ _ ⟨act_eq (by (show Value.int _ _ = Value.int _ _; congr 1; (first|rfl|omega|(rw [IntKind.wrap_i64]; omega)|(rw [IntKind.wrap_u64]; omega)))),hM⟩
   ·cases ho9
    have r61:=hD.on 11 61 _ rfl (getD_true (hd9 ⟨11,.guard⟩ (by simp) rfl))
    have r2:=hD.old 2 _ rfl rfl
    refine wpOp_step rfl fun K hK=>?_
    go_simp
    exact hK _ _ ⟨rfl,hM⟩
   ·cases ho9
    have r61:=hD.on 11 61 _ rfl (getD_true (hd9 ⟨11,.guard⟩ (by simp) rfl))
    have r71:=hD.od hd9 21 71 _ rfl (by simp)
    have hM0:=hM
    have c9_0:=hM0.cellAt (b:=w.heap.size) (cs:=#[.int .i64 E,.int .i64 F]) (t:=23) (by simp) 1 _ rfl
    clear hM0
    refine wpOp_step rfl fun K hK=>?_
    go_simp
    exact hK _ _ ⟨rfl,hM⟩
   ·cases ho9
    have r61:=hD.on 11 61 _ rfl (getD_true (hd9 ⟨11,.guard⟩ (by simp) rfl))
    have r70:=hD.od hd9 20 70 _ rfl (by simp)
    have r72:=hD.od hd9 22 72 _ rfl (by simp)
    refine wpOp_step rfl fun K hK=>?_
    go_simp
    exact hK _ _ ⟨act_eq (by (show Value.int _ _ = Value.int _ _; congr 1; (first|rfl|omega|(rw [IntKind.wrap_i64]; omega)|(rw [IntKind.wrap_u64]; omega)))),hM⟩
   ·cases ho9
    have r61:=hD.on 11 61 _ rfl (getD_true (hd9 ⟨11,.guard⟩ (by simp) rfl))
    have r62:=hD.od hd9 12 62 _ rfl (by simp)
    have r73:=hD.od hd9 23 73 _ rfl (by simp)
    refine wpOp_step rfl fun K hK=>?_
    go_simp
    exact hK _ _ ⟨act_eq (by (show Value.bool _ = Value.bool _; first|rfl|(congr 1; first|(exact decide_eq_true (by omega))|(exact decide_eq_false (by omega))|(simp; done)|(simp; omega)))),hM⟩
   ·cases ho9
    have r61:=hD.od hd9 11 61 _ rfl (by simp)
    have r74:=hD.od hd9 24 74 _ rfl (by simp)
    refine wpOp_step rfl fun K hK=>?_
    go_simp
    exact hK _ _ ⟨rfl,hM⟩
  ·intro l9 W9 hl9 hM
   clear hS yu yv yw yx yy
   have hS:=hM
   clear hM
   simp only [Puts.lay,List.setIfInBounds_toArray,List.set_cons_zero,List.set_cons_succ]
   obtain ⟨⟨yz,y0,-⟩,⟨y1,y2,y3,-⟩,-⟩:=hS.cells
   go_wp2_with fail
   refine (rlow_small a n cap m _ ((unhide H).kept hS.fr) hn2).mono ?_
   rintro e w5 ⟨rfl,hb5⟩
   replace hS:=hS.kept hb5
   clear yz y0 y1 y2 y3
   obtain ⟨⟨y4,y5,-⟩,⟨y6,y7,y8,-⟩,-⟩:=hS.cells
   go_wp2_with fail
   refine wp_region_any (by kernel_rfl) ?_
   refine wpAny_det [some (95,.int .u64 N),some (96,.pointer (some ⟨w.heap.size,1,none⟩)),some (97,.int .i64 F),some (98,.int .u64 F),some (99,.int .u64 pF),some (100,.int .u64 fr),some (101,.int .i64 t0),some (102,.agg #[.int .i64 E,.int .i64 F]),some (103,.int .i64 B),some (104,.int .i64 (t0+(B:Int))),some (105,.pointer (some ⟨w.heap.size,1,none⟩)),some (106,.int .i64 F),some (107,.int .i64 ex),some (108,.int .u64 ex),some (109,.pointer (some ⟨w.heap.size,1,none⟩)),some (110,.int .i64 F),some (111,.int .u64 F),some (112,.int .u64 X),some (113,.int .u64 ((fr:Int)+(X:Int))),some (12,.int .u64 ((fr:Int)+(X:Int)))]
    (fun _ W9=>Fs w W9 [⟨w.heap.size,#[.int .i64 E,.int .i64 F],23⟩,⟨w.heap.size+1,#[.bool true,.slice a n cap,.int .i64 x],46⟩]) _ _ rfl (by kernel_rfl) rfl rfl ?_ ?_ (hS).drew
   ·intro l9 t9 W9 i9 hD hi9 hl9 hM
    obtain ⟨o9,ho9,hd9⟩:=(mem_ready.1 hi9).2
    have hin9:i9 < 20:=by
     by_cases h:i9 < 20
     ·exact h
     ·rw [Array.getElem?_eq_none (by rw [hD.len]; simp; omega)] at hl9; cases hl9
    have hcase:i9 = 0∨i9 = 1∨i9 = 2∨i9 = 3∨i9 = 4∨i9 = 5∨i9 = 6∨i9 = 7∨i9 = 8∨i9 = 9∨i9 = 10∨i9 = 11∨i9 = 12∨i9 = 13∨i9 = 14∨i9 = 15∨i9 = 16∨i9 = 17∨i9 = 18∨i9 = 19:=by omega
    clear hin9
    rcases hcase with rfl|rfl|rfl|rfl|rfl|rfl|rfl|rfl|rfl|rfl|rfl|rfl|rfl|rfl|rfl|rfl|rfl|rfl|rfl|rfl
    ·cases ho9
     have r12:=hD.wait rfl 0 19 12 _ _ _ ⟨0,.phase⟩ hl9 rfl rfl (by simp) rfl rfl rfl
     refine wpOp_step rfl fun K hK=>?_
     go_simp
     exact hK _ _ ⟨rfl,hM⟩
    ·cases ho9
     have r2:=hD.old 2 _ rfl rfl
     refine wpOp_step rfl fun K hK=>?_
     go_simp
     exact hK _ _ ⟨rfl,hM⟩
    ·cases ho9
     have r96:=hD.od hd9 1 96 _ rfl (by simp)
     have hM0:=hM
     have c9_0:=hM0.cellAt (b:=w.heap.size) (cs:=#[.int .i64 E,.int .i64 F]) (t:=23) (by simp) 1 _ rfl
     clear hM0
     refine wpOp_step rfl fun K hK=>?_
     go_simp
     exact hK _ _ ⟨rfl,hM⟩
    ·cases ho9
     have r97:=hD.od hd9 2 97 _ rfl (by simp)
     refine wpOp_step rfl fun K hK=>?_
     go_simp
     exact hK _ _ ⟨act_eq (by (show Value.int _ _ = Value.int _ _; congr 1; (first|rfl|omega|(rw [IntKind.wrap_i64]; omega)|(rw [IntKind.wrap_u64]; omega)))),hM⟩
    ·cases ho9
     have r98:=hD.od hd9 3 98 _ rfl (by simp)
     refine wpOp_step rfl fun K hK=>?_
     go_simp
     exact hK _ _ ⟨act_eq (by (show Value.int _ _ = Value.int _ _; first|rfl|(congr 1; first|exact eF|simpa using eF))),hM⟩
    ·cases ho9
     have r95:=hD.od hd9 0 95 _ rfl (by simp)
     have r99:=hD.od hd9 4 99 _ rfl (by simp)
     refine wpOp_step rfl fun K hK=>?_
     go_simp
     exact hK _ _ ⟨act_eq (by (show Value.int _ _ = Value.int _ _; congr 1; (first|rfl|omega|(rw [IntKind.wrap_i64]; omega)|(rw [IntKind.wrap_u64]; omega)))),hM⟩
    ·cases ho9
     have r11:=hD.old 11 _ rfl rfl
     refine wpOp_step rfl fun K hK=>?_
     go_simp
     exact hK _ _ ⟨rfl,hM⟩
    ·cases ho9
     have r2:=hD.old 2 _ rfl rfl
     have hM0:=hM
     have Q_:=hM0.cellAt (b:=w.heap.size) (cs:=#[.int .i64 E,.int .i64 F]) (t:=23) (by simp)
     have c9_0:=Q_ 0 _ rfl
     have c9_1:=Q_ 1 _ rfl
     clear Q_
     clear hM0
     refine wpOp_step rfl fun K hK=>?_
     go_simp
     exact hK _ _ ⟨rfl,hM⟩
    ·cases ho9
     have r102:=hD.od hd9 7 102 _ rfl (by simp)
     refine wpOp_step rfl fun K hK=>?_
     go_simp
     go_wp2_with fail
     refine (rbias4_any E F B (unhide H0) HB _).mono ?_
     rintro en w9 ⟨rfl,hb9⟩
     exact hK _ _ ⟨rfl,hM.kept hb9⟩
    ·cases ho9
     have r101:=hD.od hd9 6 101 _ rfl (by simp)
     have r103:=hD.od hd9 8 103 _ rfl (by simp)
     refine wpOp_step rfl fun K hK=>?_
     go_simp
     exact hK _ _ ⟨act_eq (by (show Value.int _ _ = Value.int _ _; congr 1; (first|rfl|omega|(rw [IntKind.wrap_i64]; omega)|(rw [IntKind.wrap_u64]; omega)))),hM⟩
    ·cases ho9
     have r2:=hD.old 2 _ rfl rfl
     refine wpOp_step rfl fun K hK=>?_
     go_simp
     exact hK _ _ ⟨rfl,hM⟩
    ·cases ho9
     have r105:=hD.od hd9 10 105 _ rfl (by simp)
     have hM0:=hM
     have c9_0:=hM0.cellAt (b:=w.heap.size) (cs:=#[.int .i64 E,.int .i64 F]) (t:=23) (by simp) 1 _ rfl
     clear hM0
     refine wpOp_step rfl fun K hK=>?_
     go_simp
     exact hK _ _ ⟨rfl,hM⟩
    ·cases ho9
     have r104:=hD.od hd9 9 104 _ rfl (by simp)
     have r106:=hD.od hd9 11 106 _ rfl (by simp)
     refine wpOp_step rfl fun K hK=>?_
     go_simp
     exact hK _ _ ⟨act_eq (by (show Value.int _ _ = Value.int _ _; congr 1; (first|rfl|omega|(rw [IntKind.wrap_i64]; omega)|(rw [IntKind.wrap_u64]; omega)))),hM⟩
    ·cases ho9
     have r107:=hD.od hd9 12 107 _ rfl (by simp)
     refine wpOp_step rfl fun K hK=>?_
     go_simp
     exact hK _ _ ⟨act_eq (by (show Value.int _ _ = Value.int _ _; congr 1; (first|rfl|omega|(rw [IntKind.wrap_i64]; omega)|(rw [IntKind.wrap_u64]; omega)))),hM⟩
    ·cases ho9
     have r2:=hD.old 2 _ rfl rfl
     refine wpOp_step rfl fun K hK=>?_
     go_simp
     exact hK _ _ ⟨rfl,hM⟩
    ·cases ho9
     have r109:=hD.od hd9 14 109 _ rfl (by simp)
     have hM0:=hM
     have c9_0:=hM0.cellAt (b:=w.heap.size) (cs:=#[.int .i64 E,.int .i64 F]) (t:=23) (by simp) 1 _ rfl
     clear hM0
     refine wpOp_step rfl fun K hK=>?_
     go_simp
     exact hK _ _ ⟨rfl,hM⟩
    ·cases ho9
     have r110:=hD.od hd9 15 110 _ rfl (by simp)
     refine wpOp_step rfl fun K hK=>?_
     go_simp
     exact hK _ _ ⟨act_eq (by (show Value.int _ _ = Value.int _ _; congr 1; (first|rfl|omega|(rw [IntKind.wrap_i64]; omega)|(rw [IntKind.wrap_u64]; omega)))),hM⟩
    ·cases ho9
     have r108:=hD.od hd9 13 108 _ rfl (by simp)
     have r111:=hD.od hd9 16 111 _ rfl (by simp)
     refine wpOp_step rfl fun K hK=>?_
     go_simp
     exact hK _ _ ⟨act_eq (by (show Value.int _ _ = Value.int _ _; first|rfl|(congr 1; first|exact eX|simpa using eX))),hM⟩
    ·cases ho9
     have r100:=hD.od hd9 5 100 _ rfl (by simp)
     have r112:=hD.od hd9 17 112 _ rfl (by simp)
     refine wpOp_step rfl fun K hK=>?_
     go_simp
     exact hK _ _ ⟨act_eq (by (show Value.int _ _ = Value.int _ _; congr 1; (first|rfl|omega|(rw [IntKind.wrap_i64]; omega)|(rw [IntKind.wrap_u64]; omega)))),hM⟩
    ·cases ho9
     have r113:=hD.od hd9 18 113 _ rfl (by simp)
     refine wpOp_step rfl fun K hK=>?_
     go_simp
     exact hK _ _ ⟨rfl,hM⟩
   ·intro l9 W9 hl9 hM
    clear hS y4 y5 y6 y7 y8
    have hS:=hM
    clear hM
    simp only [Puts.lay,List.setIfInBounds_toArray,List.set_cons_zero,List.set_cons_succ]
    obtain ⟨⟨y9,yba,-⟩,⟨ybb,ybc,ybd,-⟩,-⟩:=hS.cells
    have eB2:IntKind.u64.wrap ((fr:Int)+(X:Int)+(pS:Int)) = (b:Int):=by rw [IntKind.wrap_u64]; omega
    go_wp2
    exact bodyPost_ret (v:=.tuple #[.int .u64 (b:Int),.bool true,.int .i64 0]) (by simp [results,Tryz.results71,go_sem]) rfl ⟨rfl,hS.fr⟩
end Go.Proofs.YtfimakkpdjppfaaGreatDoor
