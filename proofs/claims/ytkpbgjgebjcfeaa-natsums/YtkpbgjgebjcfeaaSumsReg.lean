/- The law NatSums: what holds while two numbers are lent, in whatever order. -/
import Derived.Test.YtkpbgjgebjcfeaaSumsSt
import Derived.Test.YtkpbgjgebjcfeaaRegInv
namespace Go.Proofs.Ytkpbgjgebjcfeaa
open Go.RowKit

theorem Lt.setBox {w : World} {base g n c : Nat} {xs : List Nat} (h : Lt w base g n c xs) {p : Nat} {x : Value} (hb : Box w p x) (u : Value) : Lt (w.setCell ⟨p, 0, none⟩ u) base g n c xs := ⟨h.own.setBox hb u, h.len⟩
theorem Box.setOther {w : World} {p q : Nat} {v : Value} (h : Box w p v) (hne : p ≠ q) (u : Value) : Box (w.setCell ⟨q, 0, none⟩ u) p v := by
  unfold Box
  rw [heap_setCell_other w _ p u hne]; exact h

/-- A number that was lent, as a struct. -/
def LV (w : World) (base : Nat) (v : Value) (n : Nat) (xs : List Nat) : Prop := ∃ g c, v = .agg #[.slice (some ⟨g, 0, none⟩) n c] ∧ Lt w base g n c xs
theorem LV.kept {w w' : World} {base n : Nat} {v : Value} {xs : List Nat} (h : LV w base v n xs) (hb : Below w.heap.size w w') : LV w' base v n xs := by
  obtain ⟨g, c, h1, h2⟩ := h
  exact ⟨g, c, h1, h2.kept hb⟩
theorem LV.setBox {w : World} {base n : Nat} {v : Value} {xs : List Nat} (h : LV w base v n xs) {p : Nat} {x : Value} (hb : Box w p x) (u : Value) : LV (w.setCell ⟨p, 0, none⟩ u) base v n xs := by
  obtain ⟨g, c, h1, h2⟩ := h
  exact ⟨g, c, h1, h2.setBox hb u⟩
/-- A variable, made from base on, and, once it is filled, what it holds. -/
def VV (w : World) (base : Nat) (v x : Value) (filled : Bool) : Prop := ∃ q s, v = .pointer (some ⟨q, 0, none⟩) ∧ base ≤ q ∧ Box w q s ∧ (filled = true → x = .agg #[s])
theorem VV.kept {w w' : World} {base : Nat} {v x : Value} {f : Bool} (h : VV w base v x f) (hb : Below w.heap.size w w') : VV w' base v x f := by
  obtain ⟨q, s, h1, h2, h3, h4⟩ := h
  exact ⟨q, s, h1, h2, h3.kept hb, h4⟩
theorem VV.empty {w : World} {base : Nat} {v x : Value} {f : Bool} (h : VV w base v x f) (y : Value) (hf : ¬ f = true) : VV w base v y f := by
  obtain ⟨q, s, h1, h2, h3, h4⟩ := h
  exact ⟨q, s, h1, h2, h3, fun e => absurd e hf⟩
theorem VV.setOther {w : World} {base p : Nat} {v x : Value} {f : Bool} (h : VV w base v x f) (u : Value) (hne : v ≠ .pointer (some ⟨p, 0, none⟩)) : VV (w.setCell ⟨p, 0, none⟩ u) base v x f := by
  obtain ⟨q, s, h1, h2, h3, h4⟩ := h
  exact ⟨q, s, h1, h2, h3.setOther (fun e => hne (by rw [h1, e])) u, h4⟩
/-- Two numbers that were lent lie apart. -/
def Part (v v' : Value) (n n' : Nat) : Prop := ∀ g c g' c', v = .agg #[.slice (some ⟨g, 0, none⟩) n c] → v' = .agg #[.slice (some ⟨g', 0, none⟩) n' c'] → g ≠ g'

/-- What holds in that statement, whatever has come up. -/
structure R1 (W w' : World) (a b : Option Addr) (n n' ca cb : Nat) (xs ys : List Nat) (b0 b1 b2 b3 b4 b5 b6 b7 : Bool) (v5 v6 v14 v15 v16 v17 : Value) : Prop where
  bel : Below W.heap.size W w'
  f0 : b0 = true → v14 = .agg #[.slice a n ca]
  f1 : b1 = true → LV w' W.heap.size v15 n xs
  f2 : b2 = true → v16 = .agg #[.slice b n' cb]
  f3 : b3 = true → LV w' W.heap.size v17 n' ys
  f13 : b3 = true → Part v15 v17 n n'
  f4 : b4 = true → VV w' W.heap.size v5 v15 b6
  f5 : b5 = true → VV w' W.heap.size v6 v17 b7
  f45 : b4 = true → b5 = true → v5 ≠ v6
  f31 : b3 = true → b1 = true
  f61 : b6 = true → b1 = true
  f64 : b6 = true → b4 = true
  f73 : b7 = true → b3 = true
  f75 : b7 = true → b5 = true
theorem R1.kept {W w' w9 : World} {a b : Option Addr} {n n' ca cb : Nat} {xs ys : List Nat} {b0 b1 b2 b3 b4 b5 b6 b7 : Bool} {v5 v6 v14 v15 v16 v17 : Value} (h : R1 W w' a b n n' ca cb xs ys b0 b1 b2 b3 b4 b5 b6 b7 v5 v6 v14 v15 v16 v17) (hb : Below w'.heap.size w' w9) : R1 W w9 a b n n' ca cb xs ys b0 b1 b2 b3 b4 b5 b6 b7 v5 v6 v14 v15 v16 v17 :=
  ⟨gr_trans h.bel hb, h.f0, fun e => (h.f1 e).kept hb, h.f2, fun e => (h.f3 e).kept hb, h.f13, fun e => (h.f4 e).kept hb, fun e => (h.f5 e).kept hb, h.f45, h.f31, h.f61, h.f64, h.f73, h.f75⟩

end Go.Proofs.Ytkpbgjgebjcfeaa
