/- Of what ExactValuesRow stands on: Mul Compare Same Sub CmpN. -/
import Derived.Test.YtecmcjlgknfnlaaDoorPaf
import Derived.BigQuiet
namespace Go.Proofs.YtecmcjlgknfnlaaDoor
open Go.RowKit
theorem mine_nil (w : World) (base : Nat) : Mine w base none 0 0 0 := ⟨[],rfl,Or.inl ⟨rfl,rfl⟩,Pl.wf_nil,Pl.norm_nil,rfl,by omega⟩
end Go.Proofs.YtecmcjlgknfnlaaDoor
namespace Go.Proofs.YtecmcjlgknfnlaaDoor
open Go.RowKit
def cmpI (m k : Nat) : Int := if m < k then -1 else if m = k then 0 else 1
theorem cmp_at {xs ys : List Nat} (hx : Pl.Wf xs) (k : Nat) (hl : xs.length = ys.length) (hk : k < xs.length) (hd : xs.drop (k + 1) = ys.drop (k + 1)) (h : xs[k]?.getD 0 < ys[k]?.getD 0) : Pl.val xs < Pl.val ys := by
 rw [Pl.val_split xs k (by omega),Pl.val_split ys k (by omega),Pl.drop_cons xs k hk,Pl.drop_cons ys k (by omega),hd]
 have h1 := Pl.val_lt (Pl.wf_take hx k)
 rw [List.length_take,Nat.min_eq_left (by omega)] at h1
 simp only [Pl.val]
 have h2 := Nat.mul_le_mul_left (4294967296 ^ k) (show xs[k]?.getD 0 + 4294967296 * Pl.val (ys.drop (k + 1)) + 1 ≤ ys[k]?.getD 0 + 4294967296 * Pl.val (ys.drop (k + 1)) by omega)
 rw [Nat.mul_add,Nat.mul_one] at h2
 omega
theorem cmpI_lt {m k : Nat} (h : m < k) : cmpI m k = -1 := by rw [cmpI,if_pos h]
theorem cmpI_gt {m k : Nat} (h : k < m) : cmpI m k = 1 := by rw [cmpI,if_neg (by omega),if_neg (by omega)]
theorem cmpI_eq (m : Nat) : cmpI m m = 0 := by rw [cmpI,if_neg (by omega),if_pos rfl]
end Go.Proofs.YtecmcjlgknfnlaaDoor
namespace Go.Proofs.YtecmcjlgknfnlaaDoor
open Go.RowKit
set_option maxHeartbeats 1000000 in
theorem rcmp_some (b off b' off' cap cap' n : Nat) (xs ys : List Nat) (w : World) (hxn : Hid (xs.length = n)) (hyn : Hid (ys.length = n)) (hlt : b < w.heap.size) (hlt' : b' < w.heap.size) (hx : Pl.Wf xs) (hy : Pl.Wf ys) (hbig : n ≤ 16384)
  (hc : ∀ j,j < n → w.cell? ⟨b,off + j,none⟩ = some (.int .u32 ((xs[j]?.getD 0 : Nat) : Int)))
  (hc' : ∀ j,j < n → w.cell? ⟨b',off' + j,none⟩ = some (.int .u32 ((ys[j]?.getD 0 : Nat) : Int))) :
  Calls Tryd.prog 76 #[.slice (some ⟨b,off,none⟩) n cap,.slice (some ⟨b',off',none⟩) n cap'] w
   fun e w' => e = .returned (.int .i64 (cmpI (Pl.val xs) (Pl.val ys))) ∧ Below w.heap.size w w' := by
 go_enter Tryd.func76,Tryd.ntmps76
 go_wp2
 go_loopw [5] (fun t wr => ∃ k : Nat,k ≤ n ∧ t = .int .i64 ((k : Int) - 1) ∧ xs.drop k = ys.drop k ∧ Below w.heap.size w wr) (fun t _ => (intOf t + 1).toNat)
 case atStart => exact ⟨n,Nat.le_refl _,rfl,by rw [List.drop_eq_nil_of_le (by rw [unhide hxn]; omega),List.drop_eq_nil_of_le (by rw [unhide hyn]; omega)],gr_refl _⟩
 case round =>
  obtain ⟨k,hk,rfl,hd,hbel⟩ := hrel
  by_cases hk0 : k = 0
  ·subst hk0
   go_wp2
   go_ret
   rw [List.drop_zero,List.drop_zero] at hd
   exact ⟨ret_int (by rw [hd,cmpI_eq]),hbel⟩
  ·obtain ⟨j,rfl⟩ : ∃ j,k = j + 1 := ⟨k - 1,by omega⟩
   obtain ⟨x,hxx⟩ : ∃ x,x = xs[j]?.getD 0 := ⟨_,rfl⟩
   obtain ⟨y,hyy⟩ : ∃ y,y = ys[j]?.getD 0 := ⟨_,rfl⟩
   have hcx : wr.cell? ⟨b,off + j,none⟩ = some (.int .u32 (x : Int)) := by rw [hxx]; exact (hbel.cell (by exact hlt)).trans (hc j (by omega))
   have hcy : wr.cell? ⟨b',off' + j,none⟩ = some (.int .u32 (y : Int)) := by rw [hyy]; exact (hbel.cell (by exact hlt')).trans (hc' j (by omega))
   have hxl := unhide hxn
   have hyl := unhide hyn
   have hj1 : (0 : Int) ≤ (j : Int) := by omega
   have hj2 : (j : Int) < (n : Int) := by omega
   have HL : Hid (x = y → xs.drop j = ys.drop j) := fun e => by
    rw [Pl.drop_cons xs j (by omega),Pl.drop_cons ys j (by omega),hd,← hxx,← hyy,e]
   have HLT : Hid (x < y → Pl.val xs < Pl.val ys) := fun e => cmp_at hx j (by omega) (by omega) hd (by rw [← hxx,← hyy]; exact e)
   have HGT : Hid (y < x → Pl.val ys < Pl.val xs) := fun e => cmp_at hy j (by omega) (by omega) hd.symm (by rw [← hxx,← hyy]; exact e)
   clear hxx hyy hd hxl hyl hc hc'
   go_wp2_with fail
   go_quiet (fail)
   have hbq := below_drewN hbel nq
   have hcx2 : (wr.drewN nq).cell? ⟨b,off + j,none⟩ = some (.int .u32 (x : Int)) := hcx
   have hcy2 : (wr.drewN nq).cell? ⟨b',off' + j,none⟩ = some (.int .u32 (y : Int)) := hcy
   clear hcx hcy
   generalize wr.drewN nq = wq at *
   by_cases hlt2 : x < y
   ·have hf : decide (x < y) = true := by simp; omega
    go_wp2
    go_ret
    exact ⟨ret_int (by rw [cmpI_lt (unhide HLT hlt2)]),hbq⟩
   ·have hf : decide (x < y) = false := by simp; omega
    go_wp2_with fail
    go_quiet (fail)
    by_cases hgt : y < x
    ·have hf2 : decide (y < x) = true := by simp; omega
     go_wp2
     go_ret
     exact ⟨ret_int (by rw [cmpI_gt (unhide HGT hgt)]),below_drewN hbq _⟩
    ·have hf2 : decide (y < x) = false := by simp; omega
     have he : x = y := by omega
     have HE := hide he
     clear he
     go_wp2
     go_roundw
     case rel => exact ⟨j,by omega,by go_num,unhide HL (unhide HE),below_drewN hbq _⟩
     case measure => simp [intOf]
theorem rcmp_any (a a' : Option Addr) (n cap cap' m m' : Nat) (w : World) (h : Num w a n m) (h' : Num w a' n m') :
  Calls Tryd.prog 76 #[.slice a n cap,.slice a' n cap'] w fun e w' => e = .returned (.int .i64 (cmpI m m')) ∧ Below w.heap.size w w' := by
 obtain ⟨xs,hn,hl,hw,hN,hv,hb⟩ := h
 obtain ⟨ys,hn',hl',hw',hN',hv',hb'⟩ := h'
 rcases hl.parts with hx | ⟨hp,b,off,rfl,hlt,hc⟩
 ·have hn0 : n = 0 := by rw [← hn,hx]; rfl
  have hy : ys = [] := List.length_eq_zero_iff.1 (by omega)
  have hm : m = m' := by rw [← hv,← hv',hx,hy]
  subst hm hn0
  clear hn hn' hv hv'
  go_enter Tryd.func76,Tryd.ntmps76
  go_wp2
  refine wp_loop_rounds 1 ?_
  rw [rounds_succ]
  go_wp2
  go_ret
  exact ⟨ret_int (by rw [cmpI_eq]),gr_refl _⟩
 ·rcases hl'.parts with hy | ⟨hp',b',off',rfl,hlt',hc'⟩
  ·rw [hy] at hn'; simp at hn'; omega
  ·rw [← hv,← hv']
   exact rcmp_some b off b' off' cap cap' n xs ys w (hide hn) (hide hn') hlt hlt' hw hw' hb (fun j hj => hc j (by omega)) (fun j hj => hc' j (by omega))
theorem same_any (a a' : Option Addr) (n n' cap cap' m m' : Nat) (w : World) (h : Num w a n m) (h' : Num w a' n' m') :
  Calls Tryd.prog 33 #[.agg #[.slice a n cap],.agg #[.slice a' n' cap']] w fun e w' => e = .returned (.bool (decide (m = m'))) ∧ Below w.heap.size w w' := by
 by_cases he : n = n'
 ·subst he
  have h1 := (h.alloc (.cells #[.slice a n cap] 24)).alloc (.cells #[.slice a' n cap'] 24)
  have h2 := (h'.alloc (.cells #[.slice a n cap] 24)).alloc (.cells #[.slice a' n cap'] 24)
  go_enter Tryd.func33,Tryd.ntmps33
  go_wp2_with fail
  refine (rcmp_any a a' n cap cap' m m' _ h1 h2).mono ?_
  rintro e w1 ⟨rfl,hb1⟩
  have hz : (cmpI m m' == 0) = decide (m = m') := by
   unfold cmpI
   by_cases c : m < m'
   ·rw [if_pos c]; simp; omega
   ·rw [if_neg c]
    by_cases d : m = m'
    ·simp [d]
    ·simp [d]
  go_wp2
  go_ret
  exact ⟨rfl,gr_trans (gr_trans (gr_alloc _ _) (gr_alloc _ _)) hb1⟩
 ·have hne : ((n : Int) == (n' : Int)) = false := by simp; omega
  have hm : m ≠ m' := fun e => he (by subst e; exact h.same h')
  have HM := hide hm
  clear hm he
  go_enter Tryd.func33,Tryd.ntmps33
  go_wp2
  go_ret
  exact ⟨ret_bool (by simp [unhide HM]),gr_trans (gr_alloc _ _) (gr_alloc _ _)⟩
end Go.Proofs.YtecmcjlgknfnlaaDoor
namespace Go.Proofs.YtecmcjlgknfnlaaDoor
open Go.RowKit
end Go.Proofs.YtecmcjlgknfnlaaDoor
namespace Go.Proofs.YtecmcjlgknfnlaaDoor
open Go.RowKit
end Go.Proofs.YtecmcjlgknfnlaaDoor
