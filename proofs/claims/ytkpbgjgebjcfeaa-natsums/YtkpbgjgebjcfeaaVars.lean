/- Words for variables that hold a number; the call numerallaw01.small; what is surely not beyond the limit. -/
import Derived.Test.YtkpbgjgebjcfeaaBitsNat
namespace Go.Proofs.Ytkpbgjgebjcfeaa
open Go.RowKit

/-- The variable at p holds the slice a, n, c, and that is the number m. -/
structure Var (w : World) (p : Nat) (a : Option Addr) (n c m : Nat) : Prop where
  box : Box w p (.slice a n c)
  num : Num w a n m
theorem Var.kept {w w' : World} {p n c m : Nat} {a : Option Addr} (h : Var w p a n c m) (hb : Below w.heap.size w w') : Var w' p a n c m := ⟨h.box.kept hb, h.num.kept hb⟩
theorem Var.alloc {w : World} {p n c m : Nat} {a : Option Addr} (h : Var w p a n c m) (o : Obj) : Var (w.alloc o) p a n c m := ⟨h.box.alloc o, h.num.alloc o⟩
theorem Var.cell {w : World} {p n c m : Nat} {a : Option Addr} (h : Var w p a n c m) : w.cell? ⟨p, 0, none⟩ = some (.slice a n c) := h.box.cell
theorem Var.made {a : Option Addr} {n m : Nat} (w : World) (c : Nat) (h : Num w a n m) : Var (w.alloc (.cells #[.slice a n c] 24)) w.heap.size a n c m := ⟨Box.made w _, h.alloc _⟩
theorem gr_step {S : Nat} {a b c : World} (h : Below S a b) (k : Below b.heap.size b c) (o : Obj) (hS : S ≤ b.heap.size := by exact h.size) : Below S a (c.alloc o) :=
  (h.trans (k.mono hS)).alloc (Nat.le_trans hS k.size) o

theorem chk_zero {xs : List Nat} (h : chk xs = 0) : xs.length ≤ 16384 ∧ Pl.Norm xs := by
  unfold chk at h
  by_cases h1 : 16384 < xs.length
  · rw [if_pos h1] at h; cases h
  · rw [if_neg h1] at h
    refine ⟨by omega, Pl.norm_of ?_⟩
    by_cases h2 : 0 < xs.length ∧ xs[xs.length - 1]?.getD 0 = 0
    · rw [if_pos h2] at h; cases h
    · by_cases h0 : xs.length = 0
      · exact Or.inl h0
      · exact Or.inr (fun e => h2 ⟨by omega, e⟩)

/-- As many limbs as the statements let in: 4,000. -/
def fourK : Nat := 4000
theorem fourK_eq : fourK = 4000 := rfl
def Kk : Nat := 4294967296 ^ fourK
theorem Kk_big : 4 ≤ Kk := by
  have : 4294967296 ^ 1 ≤ Kk := Pl.pow_le (by rw [fourK_eq]; omega)
  omega
def K4 : Nat := Kk * Kk * Kk * Kk
theorem k4_not {m : Nat} (h : m < K4) : ¬ Over m := fun o => by
  have h1 := o.le
  have h2 : K4 ≤ 4294967296 ^ Pl.top := by
    unfold K4 Kk
    rw [← Nat.pow_add, ← Nat.pow_add, ← Nat.pow_add]
    exact Pl.pow_le (by rw [Pl.top_eq, fourK_eq]; omega)
  exact absurd (Nat.lt_of_lt_of_le h (Nat.le_trans h2 h1)) (Nat.lt_irrefl _)

set_option maxHeartbeats 400000 in
theorem small_any (a : Option Addr) (n cap k : Nat) (xs : List Nat) (w : World) (hn : xs.length = n) (hbig : n ≤ 9223372036854775807) (hl : Lim w a xs) :
    Calls Try.prog 42 #[.agg #[.slice a n cap], .int .i64 (k : Int)] w fun e w' => e = .returned (.bool (decide (chk xs = 0 ∧ n ≤ k))) ∧ Below w.heap.size w w' := by
  subst hn
  have hck := fun o : Obj => check_any a cap xs (w.alloc o) hbig (hl.alloc o)
  have HK := hide hck
  clear hck
  by_cases h0 : chk xs = 0
  · have HD : Hid (decide (chk xs = 0 ∧ xs.length ≤ k) = decide ((xs.length : Int) ≤ (k : Int))) := hide (by rw [Bool.eq_iff_iff]; simp [h0])
    rw [h0] at HK
    clear h0
    go_enter Try.func42, Try.ntmps42
    go_wp2_with fail
    refine (unhide HK _).mono ?_
    rintro e w1 ⟨rfl, hb1⟩
    obtain ⟨hc1, hf1⟩ := bcell hb1
    go_wp2
    go_ret
    exact ⟨ret_bool (by rw [unhide HD, Bool.eq_iff_iff]; simp), gr_trans (gr_alloc _ _) hb1⟩
  · have hb0 : (chk xs == 0) = false := by simp [h0]
    have HD : Hid (decide (chk xs = 0 ∧ xs.length ≤ k) = false) := hide (by simp [h0])
    clear h0
    go_enter Try.func42, Try.ntmps42
    go_wp2_with fail
    refine (unhide HK _).mono ?_
    rintro e w1 ⟨rfl, hb1⟩
    obtain ⟨hc1, hf1⟩ := bcell hb1
    go_wp2
    go_ret
    exact ⟨ret_bool (by rw [unhide HD]), gr_trans (gr_alloc _ _) hb1⟩

theorem small_num (a : Option Addr) (n : Nat) (xs : List Nat) (w : World) (hn : xs.length = n) (hl : Lim w a xs) (hw : Pl.Wf xs) (hd : decide (chk xs = 0 ∧ n ≤ 4000) = true) : Num w a n (Pl.val xs) ∧ Pl.val xs < Kk := by
  obtain ⟨h0, h4⟩ := of_decide_eq_true hd
  obtain ⟨h1, h2⟩ := chk_zero h0
  refine ⟨⟨xs, hn, hl, hw, h2, rfl, by omega⟩, ?_⟩
  exact Nat.lt_of_lt_of_le (Pl.val_lt hw) (Pl.pow_le (by rw [fourK_eq]; omega))

end Go.Proofs.Ytkpbgjgebjcfeaa
