/- Of what DecSumsRow stands on: DcBig. -/
import Derived.Test.YtpaoacehbomdmaaPal
import Derived.Test.YtpaoacehbomdmaaPaj
import Derived.Test.YtpaoacehbomdmaaPab
namespace Go.Proofs.Ytpaoacehbomdmaa
open Go.RowKit
set_option maxHeartbeats 4000000
set_option maxRecDepth 20000
def dg (s:ByteArray) (k:Nat):Int:=if h:k < s.size then ((s[k]'h).toNat:Int) - 48 else 0
def Fd (s s2:ByteArray) (c:Int):Prop:=(c = 0∧∀ k,dg s k = dg s2 k)∨∃ k,(∀ j,j < k→dg s j = dg s2 j)∧((dg s k < dg s2 k∧c = -1)∨(dg s2 k < dg s k∧c = 1))
theorem dg_out {s:ByteArray} {k:Nat} (h:s.size≤k):dg s k = 0:=by unfold dg; rw [dif_neg (by omega)]
theorem Fd.lt {s s2:ByteArray} {c:Int} (h:Fd s s2 c) {k:Nat} (hj:∀ j,j < k→dg s j = dg s2 j) (hk:dg s k < dg s2 k):c = -1:=by
 rcases h with ⟨_,h⟩|⟨i,hi,h⟩
 ·have:=h k; omega
 ·by_cases h1:i < k
  ·have:=hj i h1; omega
  ·by_cases h2:k < i
   ·have:=hi k h2; omega
   ·have:i = k:=by omega
    subst this
    omega
theorem Fd.gt {s s2:ByteArray} {c:Int} (h:Fd s s2 c) {k:Nat} (hj:∀ j,j < k→dg s j = dg s2 j) (hk:dg s2 k < dg s k):c = 1:=by
 rcases h with ⟨_,h⟩|⟨i,hi,h⟩
 ·have:=h k; omega
 ·by_cases h1:i < k
  ·have:=hj i h1; omega
  ·by_cases h2:k < i
   ·have:=hi k h2; omega
   ·have:i = k:=by omega
    subst this
    omega
theorem Fd.eq {s s2:ByteArray} {c:Int} (h:Fd s s2 c) (hj:∀ j,dg s j = dg s2 j):c = 0:=by
 rcases h with ⟨h,_⟩|⟨i,_,h⟩
 ·exact h
 ·have:=hj i; omega
theorem at_dg (g:Bool) (s:ByteArray) (x n:Int) (k:Nat) (hd:AllD s s.size) (hm:s.size≤65536) (hn:n = x+(s.size:Int) - 1 - (k:Int)) (hk:k≤65536) (W:World):Calls Try.prog 77 #[.agg #[.bool g,.string s,.int .i64 x],.int .i64 n] W fun e W'=>e = .returned (.int .i64 (dg s k))∧Below W.heap.size W W':=by
 by_cases h:k < s.size
 ·have h9:=hd k h h
  obtain ⟨c,hc⟩:∃ c,(s[k]'h).toNat = 48+c:=⟨(s[k]'h).toNat - 48,by omega⟩
  have:dg s k = (c:Int):=by unfold dg; rw [dif_pos h]; omega
  rw [this]
  exact at_in W g s x n k _ c hm hn hk h (fun _=>rfl) hc (by omega)
 ·rw [dg_out (by omega)]
  exact at_out W g s x n k hm hn hk (by omega)
theorem big_lt (g:Bool) (s:ByteArray) (x:Int) (g2:Bool) (s2:ByteArray) (x2:Int) (hm:s.size≤65536) (hm2:s2.size≤65536) (hx0:-1073741824≤x) (hx1:x≤1073741824) (hy0:-1073741824≤x2) (hy1:x2≤1073741824) (h:x+(s.size:Int) < x2+(s2.size:Int)) (w:World):Calls Try.prog 49 #[.agg #[.bool g,.string s,.int .i64 x],.agg #[.bool g2,.string s2,.int .i64 x2]] w fun e w'=>e = .returned (.int .i64 (-1))∧Below w.heap.size w w':=by
 go_enter Try.func49,Try.ntmps49
 go_wp2_with fail
 refine wp_region_any (by kernel_rfl) ?_
 refine wpAny_det [some (10,.pointer (some ⟨w.heap.size,2,none⟩)),some (11,.int .i64 x),some (12,.pointer (some ⟨w.heap.size,1,none⟩)),some (13,.string s),some (14,.int .i64 (s.size:Int)),some (15,.int .i64 (x+(s.size:Int))),some (16,.pointer (some ⟨w.heap.size+1,2,none⟩)),some (17,.int .i64 x2),some (18,.pointer (some ⟨w.heap.size+1,1,none⟩)),some (19,.string s2),some (20,.int .i64 (s2.size:Int)),some (21,.int .i64 (x2+(s2.size:Int))),some (5,.int .i64 (x+(s.size:Int))),some (6,.int .i64 (x2+(s2.size:Int)))]
  (fun _ W9=>Fs w W9 [⟨w.heap.size,#[.bool g,.string s,.int .i64 x],23⟩,⟨w.heap.size+1,#[.bool g2,.string s2,.int .i64 x2],23⟩]) _ _ rfl (by kernel_rfl) rfl rfl ?_ ?_ (Fs.two w _ _ _ _).drew
 ·intro l9 t9 W9 i9 hD hi9 hl9 hM
  obtain ⟨o9,ho9,hd9⟩:=(mem_ready.1 hi9).2
  have hin9:i9 < 14:=by
   by_cases h:i9 < 14
   ·exact h
   ·rw [Array.getElem?_eq_none (by rw [hD.len]; simp; omega)] at hl9; cases hl9
  have hcase:i9 = 0∨i9 = 1∨i9 = 2∨i9 = 3∨i9 = 4∨i9 = 5∨i9 = 6∨i9 = 7∨i9 = 8∨i9 = 9∨i9 = 10∨i9 = 11∨i9 = 12∨i9 = 13:=by omega
  clear hin9
  rcases hcase with rfl|rfl|rfl|rfl|rfl|rfl|rfl|rfl|rfl|rfl|rfl|rfl|rfl|rfl
  ·cases ho9
   have r2:=hD.old 2 _ rfl rfl
   refine wpOp_step rfl fun K hK=>?_
   go_simp
   exact hK _ _ ⟨rfl,hM⟩
  ·cases ho9
   have r10:=hD.od hd9 0 10 _ rfl (by simp)
   have hM0:=hM
   have c9_0:=hM0.cellAt (b:=w.heap.size) (cs:=#[.bool g,.string s,.int .i64 x]) (t:=23) (by simp) 2 _ rfl
   clear hM0
   refine wpOp_step rfl fun K hK=>?_
   go_simp
   exact hK _ _ ⟨rfl,hM⟩
  ·cases ho9
   have r2:=hD.old 2 _ rfl rfl
   refine wpOp_step rfl fun K hK=>?_
   go_simp
   exact hK _ _ ⟨rfl,hM⟩
  ·cases ho9
   have r12:=hD.od hd9 2 12 _ rfl (by simp)
   have hM0:=hM
   have c9_0:=hM0.cellAt (b:=w.heap.size) (cs:=#[.bool g,.string s,.int .i64 x]) (t:=23) (by simp) 1 _ rfl
   clear hM0
   refine wpOp_step rfl fun K hK=>?_
   go_simp
   exact hK _ _ ⟨rfl,hM⟩
  ·cases ho9
   have r13:=hD.od hd9 3 13 _ rfl (by simp)
   refine wpOp_step rfl fun K hK=>?_
   go_simp
   exact hK _ _ ⟨act_eq (by rfl),hM⟩
  ·cases ho9
   have r11:=hD.od hd9 1 11 _ rfl (by simp)
   have r14:=hD.od hd9 4 14 _ rfl (by simp)
   refine wpOp_step rfl fun K hK=>?_
   go_simp
   exact hK _ _ ⟨act_eq (by (show Value.int _ _ = Value.int _ _; congr 1; (first|rfl|omega|(rw [IntKind.wrap_i64]; omega)|(rw [IntKind.wrap_u64]; omega)))),hM⟩
  ·cases ho9
   have r3:=hD.old 3 _ rfl rfl
   refine wpOp_step rfl fun K hK=>?_
   go_simp
   exact hK _ _ ⟨rfl,hM⟩
  ·cases ho9
   have r16:=hD.od hd9 6 16 _ rfl (by simp)
   have hM0:=hM
   have c9_0:=hM0.cellAt (b:=w.heap.size+1) (cs:=#[.bool g2,.string s2,.int .i64 x2]) (t:=23) (by simp) 2 _ rfl
   clear hM0
   refine wpOp_step rfl fun K hK=>?_
   go_simp
   exact hK _ _ ⟨rfl,hM⟩
  ·cases ho9
   have r3:=hD.old 3 _ rfl rfl
   refine wpOp_step rfl fun K hK=>?_
   go_simp
   exact hK _ _ ⟨rfl,hM⟩
  ·cases ho9
   have r18:=hD.od hd9 8 18 _ rfl (by simp)
   have hM0:=hM
   have c9_0:=hM0.cellAt (b:=w.heap.size+1) (cs:=#[.bool g2,.string s2,.int .i64 x2]) (t:=23) (by simp) 1 _ rfl
   clear hM0
   refine wpOp_step rfl fun K hK=>?_
   go_simp
   exact hK _ _ ⟨rfl,hM⟩
  ·cases ho9
   have r19:=hD.od hd9 9 19 _ rfl (by simp)
   refine wpOp_step rfl fun K hK=>?_
   go_simp
   exact hK _ _ ⟨act_eq (by rfl),hM⟩
  ·cases ho9
   have r17:=hD.od hd9 7 17 _ rfl (by simp)
   have r20:=hD.od hd9 10 20 _ rfl (by simp)
   refine wpOp_step rfl fun K hK=>?_
   go_simp
   exact hK _ _ ⟨act_eq (by (show Value.int _ _ = Value.int _ _; congr 1; (first|rfl|omega|(rw [IntKind.wrap_i64]; omega)|(rw [IntKind.wrap_u64]; omega)))),hM⟩
  ·cases ho9
   have r15:=hD.od hd9 5 15 _ rfl (by simp)
   refine wpOp_step rfl fun K hK=>?_
   go_simp
   exact hK _ _ ⟨rfl,hM⟩
  ·cases ho9
   have r21:=hD.od hd9 11 21 _ rfl (by simp)
   refine wpOp_step rfl fun K hK=>?_
   go_simp
   exact hK _ _ ⟨rfl,hM⟩
 ·intro l9 W9 hl9 hM
  have hS:=hM
  clear hM
  simp only [Puts.lay,List.setIfInBounds_toArray,List.set_cons_zero,List.set_cons_succ]
  obtain ⟨⟨ya,yb,yc,-⟩,⟨yd,ye,yf,-⟩,-⟩:=hS.cells
  go_wp2
  go_ret
  exact ⟨rfl,hS.fr⟩
theorem big_gt (g:Bool) (s:ByteArray) (x:Int) (g2:Bool) (s2:ByteArray) (x2:Int) (hm:s.size≤65536) (hm2:s2.size≤65536) (hx0:-1073741824≤x) (hx1:x≤1073741824) (hy0:-1073741824≤x2) (hy1:x2≤1073741824) (h:x2+(s2.size:Int) < x+(s.size:Int)) (w:World):Calls Try.prog 49 #[.agg #[.bool g,.string s,.int .i64 x],.agg #[.bool g2,.string s2,.int .i64 x2]] w fun e w'=>e = .returned (.int .i64 1)∧Below w.heap.size w w':=by
 go_enter Try.func49,Try.ntmps49
 go_wp2_with fail
 refine wp_region_any (by kernel_rfl) ?_
 refine wpAny_det [some (10,.pointer (some ⟨w.heap.size,2,none⟩)),some (11,.int .i64 x),some (12,.pointer (some ⟨w.heap.size,1,none⟩)),some (13,.string s),some (14,.int .i64 (s.size:Int)),some (15,.int .i64 (x+(s.size:Int))),some (16,.pointer (some ⟨w.heap.size+1,2,none⟩)),some (17,.int .i64 x2),some (18,.pointer (some ⟨w.heap.size+1,1,none⟩)),some (19,.string s2),some (20,.int .i64 (s2.size:Int)),some (21,.int .i64 (x2+(s2.size:Int))),some (5,.int .i64 (x+(s.size:Int))),some (6,.int .i64 (x2+(s2.size:Int)))]
  (fun _ W9=>Fs w W9 [⟨w.heap.size,#[.bool g,.string s,.int .i64 x],23⟩,⟨w.heap.size+1,#[.bool g2,.string s2,.int .i64 x2],23⟩]) _ _ rfl (by kernel_rfl) rfl rfl ?_ ?_ (Fs.two w _ _ _ _).drew
 ·intro l9 t9 W9 i9 hD hi9 hl9 hM
  obtain ⟨o9,ho9,hd9⟩:=(mem_ready.1 hi9).2
  have hin9:i9 < 14:=by
   by_cases h:i9 < 14
   ·exact h
   ·rw [Array.getElem?_eq_none (by rw [hD.len]; simp; omega)] at hl9; cases hl9
  have hcase:i9 = 0∨i9 = 1∨i9 = 2∨i9 = 3∨i9 = 4∨i9 = 5∨i9 = 6∨i9 = 7∨i9 = 8∨i9 = 9∨i9 = 10∨i9 = 11∨i9 = 12∨i9 = 13:=by omega
  clear hin9
  rcases hcase with rfl|rfl|rfl|rfl|rfl|rfl|rfl|rfl|rfl|rfl|rfl|rfl|rfl|rfl
  ·cases ho9
   have r2:=hD.old 2 _ rfl rfl
   refine wpOp_step rfl fun K hK=>?_
   go_simp
   exact hK _ _ ⟨rfl,hM⟩
  ·cases ho9
   have r10:=hD.od hd9 0 10 _ rfl (by simp)
   have hM0:=hM
   have c9_0:=hM0.cellAt (b:=w.heap.size) (cs:=#[.bool g,.string s,.int .i64 x]) (t:=23) (by simp) 2 _ rfl
   clear hM0
   refine wpOp_step rfl fun K hK=>?_
   go_simp
   exact hK _ _ ⟨rfl,hM⟩
  ·cases ho9
   have r2:=hD.old 2 _ rfl rfl
   refine wpOp_step rfl fun K hK=>?_
   go_simp
   exact hK _ _ ⟨rfl,hM⟩
  ·cases ho9
   have r12:=hD.od hd9 2 12 _ rfl (by simp)
   have hM0:=hM
   have c9_0:=hM0.cellAt (b:=w.heap.size) (cs:=#[.bool g,.string s,.int .i64 x]) (t:=23) (by simp) 1 _ rfl
   clear hM0
   refine wpOp_step rfl fun K hK=>?_
   go_simp
   exact hK _ _ ⟨rfl,hM⟩
  ·cases ho9
   have r13:=hD.od hd9 3 13 _ rfl (by simp)
   refine wpOp_step rfl fun K hK=>?_
   go_simp
   exact hK _ _ ⟨act_eq (by rfl),hM⟩
  ·cases ho9
   have r11:=hD.od hd9 1 11 _ rfl (by simp)
   have r14:=hD.od hd9 4 14 _ rfl (by simp)
   refine wpOp_step rfl fun K hK=>?_
   go_simp
   exact hK _ _ ⟨act_eq (by (show Value.int _ _ = Value.int _ _; congr 1; (first|rfl|omega|(rw [IntKind.wrap_i64]; omega)|(rw [IntKind.wrap_u64]; omega)))),hM⟩
  ·cases ho9
   have r3:=hD.old 3 _ rfl rfl
   refine wpOp_step rfl fun K hK=>?_
   go_simp
   exact hK _ _ ⟨rfl,hM⟩
  ·cases ho9
   have r16:=hD.od hd9 6 16 _ rfl (by simp)
   have hM0:=hM
   have c9_0:=hM0.cellAt (b:=w.heap.size+1) (cs:=#[.bool g2,.string s2,.int .i64 x2]) (t:=23) (by simp) 2 _ rfl
   clear hM0
   refine wpOp_step rfl fun K hK=>?_
   go_simp
   exact hK _ _ ⟨rfl,hM⟩
  ·cases ho9
   have r3:=hD.old 3 _ rfl rfl
   refine wpOp_step rfl fun K hK=>?_
   go_simp
   exact hK _ _ ⟨rfl,hM⟩
  ·cases ho9
   have r18:=hD.od hd9 8 18 _ rfl (by simp)
   have hM0:=hM
   have c9_0:=hM0.cellAt (b:=w.heap.size+1) (cs:=#[.bool g2,.string s2,.int .i64 x2]) (t:=23) (by simp) 1 _ rfl
   clear hM0
   refine wpOp_step rfl fun K hK=>?_
   go_simp
   exact hK _ _ ⟨rfl,hM⟩
  ·cases ho9
   have r19:=hD.od hd9 9 19 _ rfl (by simp)
   refine wpOp_step rfl fun K hK=>?_
   go_simp
   exact hK _ _ ⟨act_eq (by rfl),hM⟩
  ·cases ho9
   have r17:=hD.od hd9 7 17 _ rfl (by simp)
   have r20:=hD.od hd9 10 20 _ rfl (by simp)
   refine wpOp_step rfl fun K hK=>?_
   go_simp
   exact hK _ _ ⟨act_eq (by (show Value.int _ _ = Value.int _ _; congr 1; (first|rfl|omega|(rw [IntKind.wrap_i64]; omega)|(rw [IntKind.wrap_u64]; omega)))),hM⟩
  ·cases ho9
   have r15:=hD.od hd9 5 15 _ rfl (by simp)
   refine wpOp_step rfl fun K hK=>?_
   go_simp
   exact hK _ _ ⟨rfl,hM⟩
  ·cases ho9
   have r21:=hD.od hd9 11 21 _ rfl (by simp)
   refine wpOp_step rfl fun K hK=>?_
   go_simp
   exact hK _ _ ⟨rfl,hM⟩
 ·intro l9 W9 hl9 hM
  have hS:=hM
  clear hM
  simp only [Puts.lay,List.setIfInBounds_toArray,List.set_cons_zero,List.set_cons_succ]
  obtain ⟨⟨ya,yb,yc,-⟩,⟨yd,ye,yf,-⟩,-⟩:=hS.cells
  go_wp2
  go_ret
  exact ⟨rfl,hS.fr⟩
theorem big_eq (g:Bool) (s:ByteArray) (x:Int) (g2:Bool) (s2:ByteArray) (x2:Int) (hm:s.size≤65536) (hm2:s2.size≤65536) (hx0:-1073741824≤x) (hx1:x≤1073741824) (hy0:-1073741824≤x2) (hy1:x2≤1073741824) (HE:Hid (x+(s.size:Int) = x2+(s2.size:Int))) (hd:AllD s s.size) (hd2:AllD s2 s2.size) (c:Int) (HF:Hid (Fd s s2 c)) (w:World):Calls Try.prog 49 #[.agg #[.bool g,.string s,.int .i64 x],.agg #[.bool g2,.string s2,.int .i64 x2]] w fun e w'=>e = .returned (.int .i64 c)∧Below w.heap.size w w':=by
 go_enter Try.func49,Try.ntmps49
 go_wp2_with fail
 refine wp_region_any (by kernel_rfl) ?_
 refine wpAny_det [some (10,.pointer (some ⟨w.heap.size,2,none⟩)),some (11,.int .i64 x),some (12,.pointer (some ⟨w.heap.size,1,none⟩)),some (13,.string s),some (14,.int .i64 (s.size:Int)),some (15,.int .i64 (x+(s.size:Int))),some (16,.pointer (some ⟨w.heap.size+1,2,none⟩)),some (17,.int .i64 x2),some (18,.pointer (some ⟨w.heap.size+1,1,none⟩)),some (19,.string s2),some (20,.int .i64 (s2.size:Int)),some (21,.int .i64 (x2+(s2.size:Int))),some (5,.int .i64 (x+(s.size:Int))),some (6,.int .i64 (x2+(s2.size:Int)))]
  (fun _ W9=>Fs w W9 [⟨w.heap.size,#[.bool g,.string s,.int .i64 x],23⟩,⟨w.heap.size+1,#[.bool g2,.string s2,.int .i64 x2],23⟩]) _ _ rfl (by kernel_rfl) rfl rfl ?_ ?_ (Fs.two w _ _ _ _).drew
 ·intro l9 t9 W9 i9 hD hi9 hl9 hM
  obtain ⟨o9,ho9,hd9⟩:=(mem_ready.1 hi9).2
  have hin9:i9 < 14:=by
   by_cases h:i9 < 14
   ·exact h
   ·rw [Array.getElem?_eq_none (by rw [hD.len]; simp; omega)] at hl9; cases hl9
  have hcase:i9 = 0∨i9 = 1∨i9 = 2∨i9 = 3∨i9 = 4∨i9 = 5∨i9 = 6∨i9 = 7∨i9 = 8∨i9 = 9∨i9 = 10∨i9 = 11∨i9 = 12∨i9 = 13:=by omega
  clear hin9
  rcases hcase with rfl|rfl|rfl|rfl|rfl|rfl|rfl|rfl|rfl|rfl|rfl|rfl|rfl|rfl
  ·cases ho9
   have r2:=hD.old 2 _ rfl rfl
   refine wpOp_step rfl fun K hK=>?_
   go_simp
   exact hK _ _ ⟨rfl,hM⟩
  ·cases ho9
   have r10:=hD.od hd9 0 10 _ rfl (by simp)
   have hM0:=hM
   have c9_0:=hM0.cellAt (b:=w.heap.size) (cs:=#[.bool g,.string s,.int .i64 x]) (t:=23) (by simp) 2 _ rfl
   clear hM0
   refine wpOp_step rfl fun K hK=>?_
   go_simp
   exact hK _ _ ⟨rfl,hM⟩
  ·cases ho9
   have r2:=hD.old 2 _ rfl rfl
   refine wpOp_step rfl fun K hK=>?_
   go_simp
   exact hK _ _ ⟨rfl,hM⟩
  ·cases ho9
   have r12:=hD.od hd9 2 12 _ rfl (by simp)
   have hM0:=hM
   have c9_0:=hM0.cellAt (b:=w.heap.size) (cs:=#[.bool g,.string s,.int .i64 x]) (t:=23) (by simp) 1 _ rfl
   clear hM0
   refine wpOp_step rfl fun K hK=>?_
   go_simp
   exact hK _ _ ⟨rfl,hM⟩
  ·cases ho9
   have r13:=hD.od hd9 3 13 _ rfl (by simp)
   refine wpOp_step rfl fun K hK=>?_
   go_simp
   exact hK _ _ ⟨act_eq (by rfl),hM⟩
  ·cases ho9
   have r11:=hD.od hd9 1 11 _ rfl (by simp)
   have r14:=hD.od hd9 4 14 _ rfl (by simp)
   refine wpOp_step rfl fun K hK=>?_
   go_simp
   exact hK _ _ ⟨act_eq (by (show Value.int _ _ = Value.int _ _; congr 1; (first|rfl|omega|(rw [IntKind.wrap_i64]; omega)|(rw [IntKind.wrap_u64]; omega)))),hM⟩
  ·cases ho9
   have r3:=hD.old 3 _ rfl rfl
   refine wpOp_step rfl fun K hK=>?_
   go_simp
   exact hK _ _ ⟨rfl,hM⟩
  ·cases ho9
   have r16:=hD.od hd9 6 16 _ rfl (by simp)
   have hM0:=hM
   have c9_0:=hM0.cellAt (b:=w.heap.size+1) (cs:=#[.bool g2,.string s2,.int .i64 x2]) (t:=23) (by simp) 2 _ rfl
   clear hM0
   refine wpOp_step rfl fun K hK=>?_
   go_simp
   exact hK _ _ ⟨rfl,hM⟩
  ·cases ho9
   have r3:=hD.old 3 _ rfl rfl
   refine wpOp_step rfl fun K hK=>?_
   go_simp
   exact hK _ _ ⟨rfl,hM⟩
  ·cases ho9
   have r18:=hD.od hd9 8 18 _ rfl (by simp)
   have hM0:=hM
   have c9_0:=hM0.cellAt (b:=w.heap.size+1) (cs:=#[.bool g2,.string s2,.int .i64 x2]) (t:=23) (by simp) 1 _ rfl
   clear hM0
   refine wpOp_step rfl fun K hK=>?_
   go_simp
   exact hK _ _ ⟨rfl,hM⟩
  ·cases ho9
   have r19:=hD.od hd9 9 19 _ rfl (by simp)
   refine wpOp_step rfl fun K hK=>?_
   go_simp
   exact hK _ _ ⟨act_eq (by rfl),hM⟩
  ·cases ho9
   have r17:=hD.od hd9 7 17 _ rfl (by simp)
   have r20:=hD.od hd9 10 20 _ rfl (by simp)
   refine wpOp_step rfl fun K hK=>?_
   go_simp
   exact hK _ _ ⟨act_eq (by (show Value.int _ _ = Value.int _ _; congr 1; (first|rfl|omega|(rw [IntKind.wrap_i64]; omega)|(rw [IntKind.wrap_u64]; omega)))),hM⟩
  ·cases ho9
   have r15:=hD.od hd9 5 15 _ rfl (by simp)
   refine wpOp_step rfl fun K hK=>?_
   go_simp
   exact hK _ _ ⟨rfl,hM⟩
  ·cases ho9
   have r21:=hD.od hd9 11 21 _ rfl (by simp)
   refine wpOp_step rfl fun K hK=>?_
   go_simp
   exact hK _ _ ⟨rfl,hM⟩
 ·intro l9 W9 hl9 hM
  have hS:=hM
  clear hM
  simp only [Puts.lay,List.setIfInBounds_toArray,List.set_cons_zero,List.set_cons_succ]
  obtain ⟨⟨ya,yb,yc,-⟩,⟨yd,ye,yf,-⟩,-⟩:=hS.cells
  obtain ⟨m,hm0⟩:∃ m:Int,m = x+(s.size:Int):=⟨_,rfl⟩
  rw [← unhide HE,← hm0]
  have hq0:-1073741824≤m:=by omega
  have hq1:m≤1073807360:=by omega
  have HM:=hide hm0
  clear hm0
  have HD:=hide hd
  have HD2:=hide hd2
  clear hd hd2 ya yb yc yd ye yf
  go_wp2
  have HS:=hide hS
  clear hS
  go_loopw [7] (fun s7 wr=>∃ k:Nat,k≤65536∧s7 = .int .i64 ((k:Int)+1)∧Hid (∀ j,j < k→dg s j = dg s2 j)∧Hid (Fs w wr [⟨w.heap.size,#[.bool g,.string s,.int .i64 x],23⟩,⟨w.heap.size+1,#[.bool g2,.string s2,.int .i64 x2],23⟩])) (fun s7 _=>65538 - (intOf s7).toNat)
  case atStart=>exact ⟨0,by decide,rfl,hide (fun j hj=>absurd hj (Nat.not_lt_zero _)),HS⟩
  case round=>
   obtain ⟨k,hk,rfl,HJ,HR⟩:=hrel
   clear HS
   have hS:=unhide HR
   clear HR
   obtain ⟨⟨yg,yh,yi,-⟩,⟨yj,yk,yl,-⟩,-⟩:=hS.cells
   by_cases hin:k < s.size∨k < s2.size
   ·by_cases h1:k < s.size
    ·skip
     go_wp2_with fail
     refine wp_region_any (by kernel_rfl) ?_
     refine wpAny_det [some (42,.agg #[.bool g,.string s,.int .i64 x]),some (43,.int .i64 m),some (44,.int .i64 ((k:Int)+1)),some (45,.int .i64 (m - ((k:Int)+1))),some (46,.int .i64 (dg s k)),some (47,.agg #[.bool g2,.string s2,.int .i64 x2]),some (48,.int .i64 m),some (49,.int .i64 ((k:Int)+1)),some (50,.int .i64 (m - ((k:Int)+1))),some (51,.int .i64 (dg s2 k)),some (8,.int .i64 (dg s k)),some (9,.int .i64 (dg s2 k))]
      (fun _ W9=>Fs w W9 [⟨w.heap.size,#[.bool g,.string s,.int .i64 x],23⟩,⟨w.heap.size+1,#[.bool g2,.string s2,.int .i64 x2],23⟩]) _ _ rfl (by kernel_rfl) rfl rfl ?_ ?_ (hS).drew
     ·intro l9 t9 W9 i9 hD hi9 hl9 hM
      obtain ⟨o9,ho9,hd9⟩:=(mem_ready.1 hi9).2
      have hin9:i9 < 12:=by
       by_cases h:i9 < 12
       ·exact h
       ·rw [Array.getElem?_eq_none (by rw [hD.len]; simp; omega)] at hl9; cases hl9
      have hcase:i9 = 0∨i9 = 1∨i9 = 2∨i9 = 3∨i9 = 4∨i9 = 5∨i9 = 6∨i9 = 7∨i9 = 8∨i9 = 9∨i9 = 10∨i9 = 11:=by omega
      clear hin9
      rcases hcase with rfl|rfl|rfl|rfl|rfl|rfl|rfl|rfl|rfl|rfl|rfl|rfl
      ·cases ho9
       have r2:=hD.old 2 _ rfl rfl
       have hM0:=hM
       have Q_:=hM0.cellAt (b:=w.heap.size) (cs:=#[.bool g,.string s,.int .i64 x]) (t:=23) (by simp)
       have c9_0:=Q_ 0 _ rfl
       have c9_1:=Q_ 1 _ rfl
       have c9_2:=Q_ 2 _ rfl
       clear Q_
       clear hM0
       refine wpOp_step rfl fun K hK=>?_
       go_simp
       exact hK _ _ ⟨rfl,hM⟩
      ·cases ho9
       have r5:=hD.old 5 _ rfl rfl
       refine wpOp_step rfl fun K hK=>?_
       go_simp
       exact hK _ _ ⟨rfl,hM⟩
      ·cases ho9
       have r7:=hD.old 7 _ rfl rfl
       refine wpOp_step rfl fun K hK=>?_
       go_simp
       exact hK _ _ ⟨rfl,hM⟩
      ·cases ho9
       have r43:=hD.od hd9 1 43 _ rfl (by simp)
       have r44:=hD.od hd9 2 44 _ rfl (by simp)
       refine wpOp_step rfl fun K hK=>?_
       go_simp
       exact hK _ _ ⟨act_eq (by (show Value.int _ _ = Value.int _ _; congr 1; (first|rfl|omega|(rw [IntKind.wrap_i64]; omega)|(rw [IntKind.wrap_u64]; omega)))),hM⟩
      ·cases ho9
       have r42:=hD.od hd9 0 42 _ rfl (by simp)
       have r45:=hD.od hd9 3 45 _ rfl (by simp)
       refine wpOp_step rfl fun K hK=>?_
       go_simp
       go_wp2_with fail
       refine (at_dg _ _ _ _ k (unhide HD) (by omega) (by have h:=unhide HE; have h9:=unhide HM; omega) (by omega) _).mono ?_
       rintro en w9 ⟨rfl,hb9⟩
       exact hK _ _ ⟨rfl,hM.kept hb9⟩
      ·cases ho9
       have r3:=hD.old 3 _ rfl rfl
       have hM0:=hM
       have Q_:=hM0.cellAt (b:=w.heap.size+1) (cs:=#[.bool g2,.string s2,.int .i64 x2]) (t:=23) (by simp)
       have c9_0:=Q_ 0 _ rfl
       have c9_1:=Q_ 1 _ rfl
       have c9_2:=Q_ 2 _ rfl
       clear Q_
       clear hM0
       refine wpOp_step rfl fun K hK=>?_
       go_simp
       exact hK _ _ ⟨rfl,hM⟩
      ·cases ho9
       have r5:=hD.old 5 _ rfl rfl
       refine wpOp_step rfl fun K hK=>?_
       go_simp
       exact hK _ _ ⟨rfl,hM⟩
      ·cases ho9
       have r7:=hD.old 7 _ rfl rfl
       refine wpOp_step rfl fun K hK=>?_
       go_simp
       exact hK _ _ ⟨rfl,hM⟩
      ·cases ho9
       have r48:=hD.od hd9 6 48 _ rfl (by simp)
       have r49:=hD.od hd9 7 49 _ rfl (by simp)
       refine wpOp_step rfl fun K hK=>?_
       go_simp
       exact hK _ _ ⟨act_eq (by (show Value.int _ _ = Value.int _ _; congr 1; (first|rfl|omega|(rw [IntKind.wrap_i64]; omega)|(rw [IntKind.wrap_u64]; omega)))),hM⟩
      ·cases ho9
       have r47:=hD.od hd9 5 47 _ rfl (by simp)
       have r50:=hD.od hd9 8 50 _ rfl (by simp)
       refine wpOp_step rfl fun K hK=>?_
       go_simp
       go_wp2_with fail
       refine (at_dg _ _ _ _ k (unhide HD2) (by omega) (by have h:=unhide HE; have h9:=unhide HM; omega) (by omega) _).mono ?_
       rintro en w9 ⟨rfl,hb9⟩
       exact hK _ _ ⟨rfl,hM.kept hb9⟩
      ·cases ho9
       have r46:=hD.od hd9 4 46 _ rfl (by simp)
       refine wpOp_step rfl fun K hK=>?_
       go_simp
       exact hK _ _ ⟨rfl,hM⟩
      ·cases ho9
       have r51:=hD.od hd9 9 51 _ rfl (by simp)
       refine wpOp_step rfl fun K hK=>?_
       go_simp
       exact hK _ _ ⟨rfl,hM⟩
     ·intro l9 W9 hl9 hM
      clear hS yg yh yi yj yk yl
      have hS:=hM
      clear hM
      simp only [Puts.lay,List.setIfInBounds_toArray,List.set_cons_zero,List.set_cons_succ]
      obtain ⟨⟨ym,yn,yo,-⟩,⟨yp,yq,yr,-⟩,-⟩:=hS.cells
      clear ym yn yo yp yq yr
      by_cases hlt:dg s k < dg s2 k
      ·obtain rfl:c = -1:=(unhide HF).lt (unhide HJ) hlt
       go_wp2
       go_ret
       exact ⟨rfl,hS.fr⟩
      by_cases hgt:dg s2 k < dg s k
      ·obtain rfl:c = 1:=(unhide HF).gt (unhide HJ) hgt
       go_wp2
       go_ret
       exact ⟨rfl,hS.fr⟩
      have HN:Hid (∀ j,j < k+1→dg s j = dg s2 j):=hide (fun j hj=>by
       by_cases h2:j < k
       ·exact unhide HJ j h2
       ·have:j = k:=by omega
        subst this
        omega)
      go_wp2
      go_roundw
      case rel=>refine ⟨k+1,by omega,by go_num,?_,?_⟩ <;> first|exact hide hS|exact hS|exact HN|exact unhide HN|trivial
      case measure=>simp [intOf]; omega
    ·have h2:k < s2.size:=by omega
     go_wp2_with fail
     refine wp_region_any (by kernel_rfl) ?_
     refine wpAny_det [some (42,.agg #[.bool g,.string s,.int .i64 x]),some (43,.int .i64 m),some (44,.int .i64 ((k:Int)+1)),some (45,.int .i64 (m - ((k:Int)+1))),some (46,.int .i64 (dg s k)),some (47,.agg #[.bool g2,.string s2,.int .i64 x2]),some (48,.int .i64 m),some (49,.int .i64 ((k:Int)+1)),some (50,.int .i64 (m - ((k:Int)+1))),some (51,.int .i64 (dg s2 k)),some (8,.int .i64 (dg s k)),some (9,.int .i64 (dg s2 k))]
      (fun _ W9=>Fs w W9 [⟨w.heap.size,#[.bool g,.string s,.int .i64 x],23⟩,⟨w.heap.size+1,#[.bool g2,.string s2,.int .i64 x2],23⟩]) _ _ rfl (by kernel_rfl) rfl rfl ?_ ?_ (hS).drew
     ·intro l9 t9 W9 i9 hD hi9 hl9 hM
      obtain ⟨o9,ho9,hd9⟩:=(mem_ready.1 hi9).2
      have hin9:i9 < 12:=by
       by_cases h:i9 < 12
       ·exact h
       ·rw [Array.getElem?_eq_none (by rw [hD.len]; simp; omega)] at hl9; cases hl9
      have hcase:i9 = 0∨i9 = 1∨i9 = 2∨i9 = 3∨i9 = 4∨i9 = 5∨i9 = 6∨i9 = 7∨i9 = 8∨i9 = 9∨i9 = 10∨i9 = 11:=by omega
      clear hin9
      rcases hcase with rfl|rfl|rfl|rfl|rfl|rfl|rfl|rfl|rfl|rfl|rfl|rfl
      ·cases ho9
       have r2:=hD.old 2 _ rfl rfl
       have hM0:=hM
       have Q_:=hM0.cellAt (b:=w.heap.size) (cs:=#[.bool g,.string s,.int .i64 x]) (t:=23) (by simp)
       have c9_0:=Q_ 0 _ rfl
       have c9_1:=Q_ 1 _ rfl
       have c9_2:=Q_ 2 _ rfl
       clear Q_
       clear hM0
       refine wpOp_step rfl fun K hK=>?_
       go_simp
       exact hK _ _ ⟨rfl,hM⟩
      ·cases ho9
       have r5:=hD.old 5 _ rfl rfl
       refine wpOp_step rfl fun K hK=>?_
       go_simp
       exact hK _ _ ⟨rfl,hM⟩
      ·cases ho9
       have r7:=hD.old 7 _ rfl rfl
       refine wpOp_step rfl fun K hK=>?_
       go_simp
       exact hK _ _ ⟨rfl,hM⟩
      ·cases ho9
       have r43:=hD.od hd9 1 43 _ rfl (by simp)
       have r44:=hD.od hd9 2 44 _ rfl (by simp)
       refine wpOp_step rfl fun K hK=>?_
       go_simp
       exact hK _ _ ⟨act_eq (by (show Value.int _ _ = Value.int _ _; congr 1; (first|rfl|omega|(rw [IntKind.wrap_i64]; omega)|(rw [IntKind.wrap_u64]; omega)))),hM⟩
      ·cases ho9
       have r42:=hD.od hd9 0 42 _ rfl (by simp)
       have r45:=hD.od hd9 3 45 _ rfl (by simp)
       refine wpOp_step rfl fun K hK=>?_
       go_simp
       go_wp2_with fail
       refine (at_dg _ _ _ _ k (unhide HD) (by omega) (by have h:=unhide HE; have h9:=unhide HM; omega) (by omega) _).mono ?_
       rintro en w9 ⟨rfl,hb9⟩
       exact hK _ _ ⟨rfl,hM.kept hb9⟩
      ·cases ho9
       have r3:=hD.old 3 _ rfl rfl
       have hM0:=hM
       have Q_:=hM0.cellAt (b:=w.heap.size+1) (cs:=#[.bool g2,.string s2,.int .i64 x2]) (t:=23) (by simp)
       have c9_0:=Q_ 0 _ rfl
       have c9_1:=Q_ 1 _ rfl
       have c9_2:=Q_ 2 _ rfl
       clear Q_
       clear hM0
       refine wpOp_step rfl fun K hK=>?_
       go_simp
       exact hK _ _ ⟨rfl,hM⟩
      ·cases ho9
       have r5:=hD.old 5 _ rfl rfl
       refine wpOp_step rfl fun K hK=>?_
       go_simp
       exact hK _ _ ⟨rfl,hM⟩
      ·cases ho9
       have r7:=hD.old 7 _ rfl rfl
       refine wpOp_step rfl fun K hK=>?_
       go_simp
       exact hK _ _ ⟨rfl,hM⟩
      ·cases ho9
       have r48:=hD.od hd9 6 48 _ rfl (by simp)
       have r49:=hD.od hd9 7 49 _ rfl (by simp)
       refine wpOp_step rfl fun K hK=>?_
       go_simp
       exact hK _ _ ⟨act_eq (by (show Value.int _ _ = Value.int _ _; congr 1; (first|rfl|omega|(rw [IntKind.wrap_i64]; omega)|(rw [IntKind.wrap_u64]; omega)))),hM⟩
      ·cases ho9
       have r47:=hD.od hd9 5 47 _ rfl (by simp)
       have r50:=hD.od hd9 8 50 _ rfl (by simp)
       refine wpOp_step rfl fun K hK=>?_
       go_simp
       go_wp2_with fail
       refine (at_dg _ _ _ _ k (unhide HD2) (by omega) (by have h:=unhide HE; have h9:=unhide HM; omega) (by omega) _).mono ?_
       rintro en w9 ⟨rfl,hb9⟩
       exact hK _ _ ⟨rfl,hM.kept hb9⟩
      ·cases ho9
       have r46:=hD.od hd9 4 46 _ rfl (by simp)
       refine wpOp_step rfl fun K hK=>?_
       go_simp
       exact hK _ _ ⟨rfl,hM⟩
      ·cases ho9
       have r51:=hD.od hd9 9 51 _ rfl (by simp)
       refine wpOp_step rfl fun K hK=>?_
       go_simp
       exact hK _ _ ⟨rfl,hM⟩
     ·intro l9 W9 hl9 hM
      clear hS yg yh yi yj yk yl
      have hS:=hM
      clear hM
      simp only [Puts.lay,List.setIfInBounds_toArray,List.set_cons_zero,List.set_cons_succ]
      obtain ⟨⟨ys,yt,yu,-⟩,⟨yv,yw,yx,-⟩,-⟩:=hS.cells
      clear ys yt yu yv yw yx
      by_cases hlt:dg s k < dg s2 k
      ·obtain rfl:c = -1:=(unhide HF).lt (unhide HJ) hlt
       go_wp2
       go_ret
       exact ⟨rfl,hS.fr⟩
      by_cases hgt:dg s2 k < dg s k
      ·obtain rfl:c = 1:=(unhide HF).gt (unhide HJ) hgt
       go_wp2
       go_ret
       exact ⟨rfl,hS.fr⟩
      have HN:Hid (∀ j,j < k+1→dg s j = dg s2 j):=hide (fun j hj=>by
       by_cases h2:j < k
       ·exact unhide HJ j h2
       ·have:j = k:=by omega
        subst this
        omega)
      go_wp2
      go_roundw
      case rel=>refine ⟨k+1,by omega,by go_num,?_,?_⟩ <;> first|exact hide hS|exact hS|exact HN|exact unhide HN|trivial
      case measure=>simp [intOf]; omega
   ·obtain rfl:c = 0:=(unhide HF).eq (fun j=>by
     by_cases h2:j < k
     ·exact unhide HJ j h2
     ·rw [dg_out (by omega),dg_out (by omega)])
    go_wp2
    go_ret
    exact ⟨rfl,hS.fr⟩
end Go.Proofs.Ytpaoacehbomdmaa
