/- What a call that answers a number and a code hands on. -/
import Derived.Test.YtkpbgjgebjcfeaaNums
namespace Go.Proofs.Ytkpbgjgebjcfeaa
open Go.RowKit

theorem Mine.nil (w : World) (base : Nat) : Mine w base none 0 0 0 := ⟨[], rfl, Or.inl ⟨rfl, rfl⟩, Pl.wf_nil, Pl.norm_nil, rfl, by omega⟩
theorem Num.not_over {w : World} {a : Option Addr} {n m : Nat} (h : Num w a n m) : ¬ Over m := fun o => by
  have h1 := o.le
  obtain ⟨xs, hn, _, hw, _, hv, hl⟩ := h
  have h2 := Pl.val_lt hw
  have h3 : 4294967296 ^ xs.length ≤ 4294967296 ^ Pl.top := Pl.pow_le (by rw [Pl.top_eq]; omega)
  rw [hv] at h2
  exact absurd (Nat.lt_of_lt_of_le h2 (Nat.le_trans h3 h1)) (Nat.lt_irrefl _)

/-- An answer of a call and the code that goes with it: a number in new memory, or none. -/
def PAns (w : World) (base : Nat) (e : Ending) (m : Nat) (code : Int) : Prop :=
  ∃ a n cap, e = .returned (.tuple #[.agg #[.slice a n cap], .int .i64 code]) ∧ Mine w base a n cap m

/-- Two calls that answer one number, if it has not too many limbs, answer the same. -/
theorem ans_both (P : Nat) : ∃ (m : Nat) (code : Int), ∀ (w : World) (base : Nat) (e : Ending), Ans w base e P → PAns w base e m code := by
  by_cases ho : Over P
  · refine ⟨0, 4, fun w base e h => ?_⟩
    rcases h with ⟨a, n, c, rfl, hm⟩ | ⟨rfl, _⟩
    · exact absurd ho hm.num.not_over
    · exact ⟨none, 0, 0, rfl, Mine.nil _ _⟩
  · exact ⟨P, 0, fun w base e h => h.resolve_right (fun h => ho h.2)⟩

end Go.Proofs.Ytkpbgjgebjcfeaa
