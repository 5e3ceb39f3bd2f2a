/- Of what ExactMakesRow stands on: RefLow ExBits ExCmp ExVal. -/
import Derived.Test.YtecmcjlgknfnlaaDoorPaq
import Derived.Test.YtecmcjlgknfnlaaDoorPah
import Derived.Deep.RegionWith
import Derived.Test.YtecmcjlgknfnlaaDoorPao
import Derived.Test.YtecmcjlgknfnlaaDoorPab
import Derived.Test.YtecmcjlgknfnlaaDoorPag
namespace Go.Proofs.YtecmcjlgknfnlaaDoor
open Go.RowKit
end Go.Proofs.YtecmcjlgknfnlaaDoor
namespace Go.Proofs.YtecmcjlgknfnlaaDoor
open Go.RowKit
theorem B_le {E F B : Nat} (h : Fo E F) (HB : Hid (B = 2 ^ (E - 1) - 1)) : B ≤ 1023 := by
 have h1 := pow_bound (show E - 1 ≤ 10 by have := h.e11; omega)
 rw [unhide HB]; omega
theorem B_two {E F B : Nat} (h : Fo E F) (HB : Hid (B = 2 ^ (E - 1) - 1)) : 2 ^ E = 2 * B + 2 ∧ 1 ≤ B := by
 have h2 := h.e2
 obtain ⟨k,rfl⟩ : ∃ k,E = k + 2 := ⟨E - 2,by omega⟩
 have := unhide HB
 rw [show k + 2 - 1 = k + 1 from by omega] at this
 have h3 := pow_pos2 k
 rw [Nat.pow_succ] at this ⊢
 rw [Nat.pow_succ]
 omega
end Go.Proofs.YtecmcjlgknfnlaaDoor
namespace Go.Proofs.YtecmcjlgknfnlaaDoor
open Go.RowKit
structure Dy (w : World) (s : Bool) (a : Option Addr) (n m : Nat) (x : Int) : Prop where
 num : Num w a n m
 ok : (m = 0 ∧ s = false ∧ x = 0) ∨ (m % 2 = 1 ∧ -1073741824 ≤ x ∧ x ≤ 1073741824)
theorem Dy.kept {w w' : World} {s : Bool} {a : Option Addr} {n m : Nat} {x : Int} (h : Dy w s a n m x) (hb : Below w.heap.size w w') : Dy w' s a n m x := ⟨h.num.kept hb,h.ok⟩
theorem Dy.range {w : World} {s : Bool} {a : Option Addr} {n m : Nat} {x : Int} (h : Dy w s a n m x) : -1073741824 ≤ x ∧ x ≤ 1073741824 := by
 rcases h.ok with ⟨_,_,rfl⟩ | ⟨_,h1,h2⟩
 ·omega
 ·exact ⟨h1,h2⟩
end Go.Proofs.YtecmcjlgknfnlaaDoor
namespace Go.Proofs.YtecmcjlgknfnlaaDoor
open Go.RowKit
end Go.Proofs.YtecmcjlgknfnlaaDoor
