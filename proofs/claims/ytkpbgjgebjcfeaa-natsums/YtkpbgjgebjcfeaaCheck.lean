/- The calls nat.Check and nat.checkBoth answer the error of a number that may not be, and OK else. -/
import Derived.Test.YtkpbgjgebjcfeaaBase
namespace Go.Proofs.Ytkpbgjgebjcfeaa
open Go.RowKit

/-- Check's answer. -/
def chk (xs : List Nat) : Int := if 16384 < xs.length then 4 else if 0 < xs.length ∧ xs[xs.length - 1]?.getD 0 = 0 then 10 else 0

theorem chk_ok {xs : List Nat} (h : xs.length ≤ 16384) (hn : Pl.Norm xs) : chk xs = 0 := by
  unfold chk
  rw [if_neg (by omega), if_neg]
  rintro ⟨h1, h2⟩
  exact Pl.norm_last hn h1 h2

set_option maxHeartbeats 400000 in
theorem check_any (a : Option Addr) (cap : Nat) (xs : List Nat) (w : World) (hbig : xs.length ≤ 9223372036854775807) (hl : Lim w a xs) :
    Calls Try.prog 20 #[.agg #[.slice a xs.length cap]] w fun e w' => e = .returned (.int .i64 (chk xs)) ∧ Below w.heap.size w w' := by
  rcases hl.parts with rfl | ⟨hp, b, off, rfl, hlt, hc⟩
  · go_enter Try.func20, Try.ntmps20
    go_wp2
    go_ret
    exact ⟨rfl, (Below.refl _ _).alloc (Nat.le_refl _) _⟩
  · have hcell := hc (xs.length - 1) (by omega)
    clear hc hl
    go_enter Try.func20, Try.ntmps20
    go_wp2
    all_goals go_ret
    · have h1 : (16384 : Int) < xs.length := by assumption
      exact ⟨ret_int (a := 4) (by rw [chk, if_pos (by omega)]), (Below.refl _ _).alloc (Nat.le_refl _) _⟩
    · have h1 : (xs.length : Int) ≤ 16384 := by assumption
      have h2 : (((xs[xs.length - 1]?.getD 0 : Nat) : Int) == 0) = true := by assumption
      exact ⟨ret_int (a := 10) (by rw [chk, if_neg (by omega), if_pos ⟨hp, by simpa using h2⟩]), (Below.refl _ _).alloc (Nat.le_refl _) _⟩
    · have h1 : (xs.length : Int) ≤ 16384 := by assumption
      have h2 : (((xs[xs.length - 1]?.getD 0 : Nat) : Int) == 0) = false := by assumption
      exact ⟨ret_int (a := 0) (by rw [chk, if_neg (by omega), if_neg (fun h => by simp [h.2] at h2)]), (Below.refl _ _).alloc (Nat.le_refl _) _⟩

/-- The error of the first of two numbers that may not be. -/
def chk2 (xs ys : List Nat) : Int := if chk xs = 0 then chk ys else chk xs

theorem chk2_ok {xs ys : List Nat} (h : chk xs = 0) (k : chk ys = 0) : chk2 xs ys = 0 := by rw [chk2, if_pos h, k]

set_option maxHeartbeats 400000 in
theorem checkBoth_any (a a' : Option Addr) (cap cap' : Nat) (xs ys : List Nat) (w : World) (hx : xs.length ≤ 9223372036854775807) (hy : ys.length ≤ 9223372036854775807) (hl : Lim w a xs) (hl' : Lim w a' ys) :
    Calls Try.prog 52 #[.agg #[.slice a xs.length cap], .agg #[.slice a' ys.length cap']] w fun e w' => e = .returned (.int .i64 (chk2 xs ys)) ∧ Below w.heap.size w w' := by
  by_cases h0 : chk xs = 0
  · have hb0 : (chk xs != 0) = false := by simp [h0]
    have H0 : Hid (chk xs = 0) := h0
    clear h0
    go_enter Try.func52, Try.ntmps52
    go_wp2_with fail
    refine (check_any a cap xs _ hx ((hl.alloc _).alloc _)).mono ?_
    rintro e w1 ⟨rfl, hb⟩
    obtain ⟨hc1, hf1⟩ := bcell hb
    have hl1 := ((hl'.alloc _).alloc _).below hb
    go_wp2_with fail
    refine (check_any a' cap' ys _ hy hl1).mono ?_
    rintro e w2 ⟨rfl, hb2⟩
    go_wp2
    go_ret
    exact ⟨ret_int (by rw [chk2, if_pos H0.out]), gr_trans (gr_trans (gr_alloc _ _) (gr_alloc _ _)) (gr_trans hb hb2)⟩
  · have hb0 : (chk xs != 0) = true := by simp [h0]
    have H0 : Hid (¬ chk xs = 0) := h0
    clear h0
    go_enter Try.func52, Try.ntmps52
    go_wp2_with fail
    refine (check_any a cap xs _ hx ((hl.alloc _).alloc _)).mono ?_
    rintro e w1 ⟨rfl, hb⟩
    obtain ⟨hc1, hf1⟩ := bcell hb
    go_wp2
    go_ret
    exact ⟨ret_int (by rw [chk2, if_neg H0.out]), gr_trans (gr_trans (gr_alloc _ _) (gr_alloc _ _)) hb⟩

end Go.Proofs.Ytkpbgjgebjcfeaa
