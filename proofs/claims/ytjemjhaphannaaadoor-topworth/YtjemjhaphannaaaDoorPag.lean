/- Of what TopWorthRow stands on: Mul Compare Same Sub CmpN. -/
import Derived.Test.YtjemjhaphannaaaDoorPaf
import Derived.BigQuiet
namespace Go.Proofs.YtjemjhaphannaaaDoor
open Go.RowKit
end Go.Proofs.YtjemjhaphannaaaDoor
namespace Go.Proofs.YtjemjhaphannaaaDoor
open Go.RowKit
def cmpI (m k : Nat) : Int := if m < k then -1 else if m = k then 0 else 1
theorem cmp_len {xs ys : List Nat} (hx : Pl.Wf xs) (hy : Pl.Norm ys) (h : xs.length < ys.length) : Pl.val xs < Pl.val ys := by
 have h1 := Pl.val_lt hx
 have h2 := Pl.norm_lower hy (by omega)
 have h3 := Pl.pow_le (show xs.length ≤ ys.length - 1 by omega)
 omega
theorem cmp_at {xs ys : List Nat} (hx : Pl.Wf xs) (k : Nat) (hl : xs.length = ys.length) (hk : k < xs.length) (hd : xs.drop (k + 1) = ys.drop (k + 1)) (h : xs[k]?.getD 0 < ys[k]?.getD 0) : Pl.val xs < Pl.val ys := by
 rw [Pl.val_split xs k (by omega),Pl.val_split ys k (by omega),Pl.drop_cons xs k hk,Pl.drop_cons ys k (by omega),hd]
 have h1 := Pl.val_lt (Pl.wf_take hx k)
 rw [List.length_take,Nat.min_eq_left (by omega)] at h1
 simp only [Pl.val]
 have h2 := Nat.mul_le_mul_left (4294967296 ^ k) (show xs[k]?.getD 0 + 4294967296 * Pl.val (ys.drop (k + 1)) + 1 ≤ ys[k]?.getD 0 + 4294967296 * Pl.val (ys.drop (k + 1)) by omega)
 rw [Nat.mul_add,Nat.mul_one] at h2
 omega
theorem cmpI_lt {m k : Nat} (h : m < k) : cmpI m k = -1 := by rw [cmpI,if_pos h]
theorem cmpI_gt {m k : Nat} (h : k < m) : cmpI m k = 1 := by rw [cmpI,if_neg (by omega),if_neg (by omega)]
theorem cmpI_eq (m : Nat) : cmpI m m = 0 := by rw [cmpI,if_neg (by omega),if_pos rfl]
theorem sign_any (b : Bool) (w : World) : Calls Tryd.prog 172 #[.bool b] w fun e w' => e = .returned (.int .i64 (if b then 1 else -1)) ∧ w' = w := by
 cases b
 all_goals
  go_enter Tryd.func172,Tryd.ntmps172
  go_wp2
  go_ret
  exact ⟨rfl,rfl⟩
set_option maxHeartbeats 1000000 in
theorem compare_some (b off b' off' cap cap' n : Nat) (xs ys : List Nat) (w : World) (hxn : Hid (xs.length = n)) (hyn : Hid (ys.length = n)) (hlt : b < w.heap.size) (hlt' : b' < w.heap.size) (hx : Pl.Wf xs) (hy : Pl.Wf ys) (hbig : n ≤ 16384)
  (hc : ∀ j,j < n → w.cell? ⟨b,off + j,none⟩ = some (.int .u32 ((xs[j]?.getD 0 : Nat) : Int)))
  (hc' : ∀ j,j < n → w.cell? ⟨b',off' + j,none⟩ = some (.int .u32 ((ys[j]?.getD 0 : Nat) : Int))) :
  Calls Tryd.prog 146 #[.slice (some ⟨b,off,none⟩) n cap,.slice (some ⟨b',off',none⟩) n cap'] w
   fun e w' => e = .returned (.int .i64 (cmpI (Pl.val xs) (Pl.val ys))) ∧ Below w.heap.size w w' := by
 go_enter Tryd.func146,Tryd.ntmps146
 go_wp2
 go_loopw [5] (fun t wr => ∃ k : Nat,k ≤ n ∧ t = .int .i64 ((k : Int) - 1) ∧ xs.drop k = ys.drop k ∧ Below w.heap.size w wr) (fun t _ => (intOf t + 1).toNat)
 case atStart => exact ⟨n,Nat.le_refl _,rfl,by rw [List.drop_eq_nil_of_le (by rw [unhide hxn]; omega),List.drop_eq_nil_of_le (by rw [unhide hyn]; omega)],gr_refl _⟩
 case round =>
  obtain ⟨k,hk,rfl,hd,hbel⟩ := hrel
  by_cases hk0 : k = 0
  ·subst hk0
   go_wp2
   go_ret
   rw [List.drop_zero,List.drop_zero] at hd
   exact ⟨ret_int (by rw [hd,cmpI_eq]),hbel⟩
  ·obtain ⟨j,rfl⟩ : ∃ j,k = j + 1 := ⟨k - 1,by omega⟩
   obtain ⟨x,hxx⟩ : ∃ x,x = xs[j]?.getD 0 := ⟨_,rfl⟩
   obtain ⟨y,hyy⟩ : ∃ y,y = ys[j]?.getD 0 := ⟨_,rfl⟩
   have hcx : wr.cell? ⟨b,off + j,none⟩ = some (.int .u32 (x : Int)) := by rw [hxx]; exact (hbel.cell (by exact hlt)).trans (hc j (by omega))
   have hcy : wr.cell? ⟨b',off' + j,none⟩ = some (.int .u32 (y : Int)) := by rw [hyy]; exact (hbel.cell (by exact hlt')).trans (hc' j (by omega))
   have HX := hide hxx
   have HY := hide hyy
   have HD := hide hd
   have hxl := unhide hxn
   have hyl := unhide hyn
   have hj1 : (0 : Int) ≤ (j : Int) := by omega
   have hj2 : (j : Int) < (n : Int) := by omega
   have HL : Hid (x = y → xs.drop j = ys.drop j) := fun e => by
    rw [Pl.drop_cons xs j (by omega),Pl.drop_cons ys j (by omega),hd,← hxx,← hyy,e]
   have HLT : Hid (x < y → Pl.val xs < Pl.val ys) := fun e => cmp_at hx j (by omega) (by omega) hd (by rw [← hxx,← hyy]; exact e)
   have HGT : Hid (y < x → Pl.val ys < Pl.val xs) := fun e => cmp_at hy j (by omega) (by omega) hd.symm (by rw [← hxx,← hyy]; exact e)
   clear hxx hyy hd hxl hyl hc hc'
   go_wp2_with fail
   go_quiet (fail)
   have hbq := below_drewN hbel nq
   have hcx2 : (wr.drewN nq).cell? ⟨b,off + j,none⟩ = some (.int .u32 (x : Int)) := hcx
   have hcy2 : (wr.drewN nq).cell? ⟨b',off' + j,none⟩ = some (.int .u32 (y : Int)) := hcy
   clear hcx hcy
   generalize wr.drewN nq = wq at *
   by_cases he : x = y
   ·have hne : ((x : Int) != (y : Int)) = false := by simp [he]
    have HE := hide he
    clear he
    go_wp2
    go_roundw
    case rel => exact ⟨j,by omega,by go_num,unhide HL (unhide HE),hbq⟩
    case measure => simp [intOf]
   ·have hne : ((x : Int) != (y : Int)) = true := by simp; omega
    by_cases hlt2 : x < y
    ·have hf : decide (y < x) = false := by simp; omega
     clear he
     go_wp2_with fail
     go_quiet ((go_at_call 172; exact Calls.quiet_of_same (sign_any _ _)))
     go_wp2
     go_ret
     exact ⟨ret_int (by rw [cmpI_lt (unhide HLT hlt2)]),below_drewN hbq _⟩
    ·have hf : decide (y < x) = true := by simp; omega
     have hgt : y < x := by omega
     clear he
     go_wp2_with fail
     go_quiet ((go_at_call 172; exact Calls.quiet_of_same (sign_any _ _)))
     go_wp2
     go_ret
     exact ⟨ret_int (by rw [cmpI_gt (unhide HGT hgt)]),below_drewN hbq _⟩
set_option maxHeartbeats 400000 in
theorem compare_any (a a' : Option Addr) (n n' cap cap' m m' : Nat) (w : World) (h : Num w a n m) (h' : Num w a' n' m') :
  Calls Tryd.prog 146 #[.slice a n cap,.slice a' n' cap'] w fun e w' => e = .returned (.int .i64 (cmpI m m')) ∧ Below w.heap.size w w' := by
 obtain ⟨xs,hn,hl,hw,hN,hv,hb⟩ := h
 obtain ⟨ys,hn',hl',hw',hN',hv',hb'⟩ := h'
 by_cases he : n = n'
 ·subst he
  rcases hl.parts with hx | ⟨hp,b,off,rfl,hlt,hc⟩
  ·have hn0 : n = 0 := by rw [← hn,hx]; rfl
   have hy : ys = [] := List.length_eq_zero_iff.1 (by omega)
   have hm : m = m' := by rw [← hv,← hv',hx,hy]
   subst hm hn0
   clear hn hn' hv hv'
   go_enter Tryd.func146,Tryd.ntmps146
   go_wp2
   refine wp_loop_rounds 1 ?_
   rw [rounds_succ]
   go_wp2
   go_ret
   exact ⟨ret_int (by rw [cmpI_eq]),gr_refl _⟩
  ·rcases hl'.parts with hy | ⟨hp',b',off',rfl,hlt',hc'⟩
   ·rw [hy] at hn'; simp at hn'; omega
   ·rw [← hv,← hv']
    exact compare_some b off b' off' cap cap' n xs ys w (hide hn) (hide hn') hlt hlt' hw hw' hb (fun j hj => hc j (by omega)) (fun j hj => hc' j (by omega))
 ·have hne : ((n : Int) != (n' : Int)) = true := by simp; omega
  by_cases hlt : n < n'
  ·have hc := cmpI_lt (cmp_len hw hN' (show xs.length < ys.length by omega))
   rw [hv,hv'] at hc
   have HC := hide hc
   have hf : decide (n' < n) = false := by simp; omega
   clear hc he hn hn' hv hv'
   go_enter Tryd.func146,Tryd.ntmps146
   go_wp2_with fail
   refine (sign_any _ _).mono ?_
   rintro e w1 ⟨rfl,rfl⟩
   go_wp2
   go_ret
   exact ⟨ret_int (by rw [unhide HC]),gr_refl _⟩
  ·have hc := cmpI_gt (cmp_len hw' hN (show ys.length < xs.length by omega))
   rw [hv,hv'] at hc
   have HC := hide hc
   have hf : decide (n' < n) = true := by simp; omega
   clear hc he hn hn' hv hv'
   go_enter Tryd.func146,Tryd.ntmps146
   go_wp2_with fail
   refine (sign_any _ _).mono ?_
   rintro e w1 ⟨rfl,rfl⟩
   go_wp2
   go_ret
   exact ⟨ret_int (by rw [unhide HC]),gr_refl _⟩
end Go.Proofs.YtjemjhaphannaaaDoor
namespace Go.Proofs.YtjemjhaphannaaaDoor
open Go.RowKit
end Go.Proofs.YtjemjhaphannaaaDoor
namespace Go.Proofs.YtjemjhaphannaaaDoor
open Go.RowKit
theorem checkBoth_num (a a' : Option Addr) (n n' cap cap' m m' : Nat) (w : World) (h : Num w a n m) (h' : Num w a' n' m') :
  Calls Tryd.prog 140 #[.agg #[.slice a n cap],.agg #[.slice a' n' cap']] w fun e w' => e = .returned (.int .i64 0) ∧ Below w.heap.size w w' := by
 obtain ⟨zs,kn,kl,kw,kN,kv,kb⟩ := h
 obtain ⟨ys,kn',kl',kw',kN',kv',kb'⟩ := h'
 have := checkBoth_any a a' cap cap' zs ys w (by omega) (by omega) kl kl'
 rw [kn,kn',chk2_ok (chk_ok (by omega) kN) (chk_ok (by omega) kN')] at this
 exact this
end Go.Proofs.YtjemjhaphannaaaDoor
namespace Go.Proofs.YtjemjhaphannaaaDoor
open Go.RowKit
set_option maxHeartbeats 400000 in
theorem cmpN_any (a a' : Option Addr) (n n' cap cap' m m' : Nat) (w : World) (h : Num w a n m) (h' : Num w a' n' m') :
  Calls Tryd.prog 105 #[.agg #[.slice a n cap],.agg #[.slice a' n' cap']] w fun e w' => e = .returned (.tuple #[.int .i64 (cmpI m m'),.int .i64 0]) ∧ Below w.heap.size w w' := by
 have HK := hide (fun (o1 o2 : Obj) => checkBoth_num a a' n n' cap cap' m m' ((w.alloc o1).alloc o2) ((h.alloc _).alloc _) ((h'.alloc _).alloc _))
 have H := hide (And.intro h h')
 clear h h'
 go_enter Tryd.func105,Tryd.ntmps105
 go_wp2_with fail
 refine (unhide HK _ _).mono ?_
 rintro e w1 ⟨rfl,hb1⟩
 obtain ⟨hc1,hf1⟩ := bcell hb1
 have HB := hide (gr_trans (gr_trans (gr_alloc w (.cells #[.slice a n cap] 24)) (gr_alloc _ (.cells #[.slice a' n' cap'] 24))) hb1)
 clear hb1
 go_wp2_with fail
 refine (compare_any a a' n n' cap cap' m m' w1 ((unhide H).1.kept (unhide HB)) ((unhide H).2.kept (unhide HB))).mono ?_
 rintro e w2 ⟨rfl,hb2⟩
 go_wp2
 go_ret2
 exact ⟨rfl,gr_trans (unhide HB) hb2⟩
end Go.Proofs.YtjemjhaphannaaaDoor
