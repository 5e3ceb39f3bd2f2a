/- Where a law with a book stands: the book, the variables, the lists that are read; what holds on behind each call. -/
import Derived.Test.YtkpbgjgebjcfeaaLent
namespace Go.Proofs.Ytkpbgjgebjcfeaa
open Go.RowKit

/-- Limbs that lie below the base, or in a block of limbs. -/
def Hold (w : World) (base : Nat) (a : Option Addr) (xs : List Nat) : Prop :=
  xs = [] ∨ ∃ b off, a = some ⟨b, off, none⟩ ∧ b < w.heap.size ∧ (b < base ∨ ∃ cur, w.heap[b]? = some (.cells cur 28 (0, 0))) ∧ ∀ j, j < xs.length → w.cell? ⟨b, off + j, none⟩ = some (.int .u32 ((xs[j]?.getD 0 : Nat) : Int))
theorem Hold.lim {w : World} {base : Nat} {a : Option Addr} {xs : List Nat} (h : Hold w base a xs) : Lim w a xs := by
  rcases h with h | ⟨b, off, h1, _, _, h2⟩
  · exact Or.inl h
  · exact Or.inr ⟨b, off, h1, h2⟩
theorem Lim.hold {w : World} {a : Option Addr} {xs : List Nat} (h : Lim w a xs) : Hold w w.heap.size a xs := by
  rcases h.parts with h | ⟨_, b, off, h1, h2, h3⟩
  · exact Or.inl h
  · exact Or.inr ⟨b, off, h1, h2, Or.inl h2, h3⟩
theorem Own.hold {w : World} {base : Nat} {a : Option Addr} {n c : Nat} {xs : List Nat} (h : Own w base (.slice a n c) xs) : Hold w base a xs := by
  have hlt := h.lt
  have hty := h.type
  rcases h with ⟨_, h⟩ | ⟨g, cap, cur, e, hg, hh, _, _, _, hc⟩
  · exact Or.inl h
  · injection e with e1
    subst e1
    refine Or.inr ⟨g, 0, rfl, (hlt g rfl).2, Or.inr ⟨cur, hh⟩, fun j hj => ?_⟩
    rw [Nat.zero_add, cell_of_row w g j cur _ _ hh]; exact hc j hj
theorem Hold.kept {w w' : World} {base : Nat} {a : Option Addr} {xs : List Nat} (h : Hold w base a xs) (hb : Below w.heap.size w w') : Hold w' base a xs := by
  rcases h with h | ⟨b, off, h1, h2, h3, h4⟩
  · exact Or.inl h
  · refine Or.inr ⟨b, off, h1, Nat.lt_of_lt_of_le h2 hb.size, ?_, fun j hj => (hb.cell (by exact h2)).trans (h4 j hj)⟩
    rcases h3 with h3 | ⟨cur, h3⟩
    · exact Or.inl h3
    · exact Or.inr ⟨cur, (hb.block b h2).trans h3⟩
theorem Hold.added {w w' : World} {p base n : Nat} {vg vw vg' vw' : Value} {gs ws : List Value} {a : Option Addr} {xs : List Nat} (h : Hold w base a xs) (hl : Led w p base n vg vw gs ws) (k : Ad w w' p base vg vw vg' vw') : Hold w' base a xs := by
  rcases h with h | ⟨b, off, h1, h2, h3, h4⟩
  · exact Or.inl h
  · have hblk : w'.heap[b]? = w.heap[b]? := by
      rcases h3 with h3 | ⟨cur, h3⟩
      · exact k.bel.block b h3
      · refine k.fr.block b h2 (fun e => ?_) (fun e => row_type hl.bk.rg e.symm h3 (by decide)) (fun e => row_type hl.bk.rw e.symm h3 (by decide))
        have h5 := hl.bk.bk
        rw [← e, h3] at h5
        injection h5 with h5; injection h5 with _ h5; exact absurd h5 (by decide)
    refine Or.inr ⟨b, off, h1, Nat.lt_of_lt_of_le h2 k.fr.size, ?_, fun j hj => (World.cell?_of_block (w := w) hblk).trans (h4 j hj)⟩
    rcases h3 with h3 | ⟨cur, h3⟩
    · exact Or.inl h3
    · exact Or.inr ⟨cur, hblk.trans h3⟩

theorem Led.bw {w : World} {p base n : Nat} {vg vw : Value} {gs ws : List Value} (h : Led w p base n vg vw gs ws) : base ≤ w.heap.size := by have := h.plt; have := h.pb; omega
theorem Ad.of_below {w w' : World} {p base : Nat} {vg vw : Value} (hb : Below w.heap.size w w') (h : base ≤ w.heap.size) : Ad w w' p base vg vw vg vw :=
  ⟨Fr.of_below hb, Or.inl rfl, Or.inl rfl, fun _ _ ho => ho.kept hb, hb.mono h⟩
theorem NewRow.trans {a b : World} {v0 v1 v2 : Value} (h : NewRow a v0 v1) (k : NewRow b v1 v2) (hs : a.heap.size ≤ b.heap.size) : NewRow a v0 v2 := by
  rcases k with k | ⟨g, k1, k2⟩
  · rcases h with h | ⟨g, h1, h2⟩
    · exact Or.inl (k.trans h)
    · exact Or.inr ⟨g, k.trans h1, h2⟩
  · exact Or.inr ⟨g, k1, by omega⟩
theorem Ad.trans {a b c : World} {p base : Nat} {v0 u0 v1 u1 v2 u2 : Value} (h : Ad a b p base v0 u0 v1 u1) (k : Ad b c p base v1 u1 v2 u2) : Ad a c p base v0 u0 v2 u2 := by
  refine ⟨⟨k.fr.os.trans h.fr.os, k.fr.tape.trans h.fr.tape, k.fr.output.trans h.fr.output, Nat.le_trans h.fr.size k.fr.size, fun i hi h1 h2 h3 => ?_⟩, h.ng.trans k.ng h.fr.size, h.nw.trans k.nw h.fr.size, fun v xs ho => k.own _ _ (h.own _ _ ho), h.bel.trans k.bel⟩
  refine (k.fr.block i (Nat.lt_of_lt_of_le hi h.fr.size) h1 (fun e => ?_) (fun e => ?_)).trans (h.fr.block i hi h1 h2 h3)
  · rcases h.ng with g | ⟨g, g1, g2⟩
    · exact h2 (e.trans g)
    · rw [g1] at e; injection e with e; omega
  · rcases h.nw with g | ⟨g, g1, g2⟩
    · exact h3 (e.trans g)
    · rw [g1] at e; injection e with e; omega

/-- What was made from a world on. -/
def FreshV (w : World) (u : Value) : Prop := ∀ k, u.ownBlock = some k → w.heap.size ≤ k
theorem Mine.freshV {w W w' : World} {a : Option Addr} {n c m : Nat} (h : Mine w' W.heap.size a n c m) (hs : w.heap.size ≤ W.heap.size) : FreshV w (.slice a n c) := fun k hk => by
  obtain ⟨xs, _, ho, _⟩ := h
  have := ho.lt k hk
  omega

structure Bst (w W : World) (p base k : Nat) (vg0 vw0 vg vw : Value) (gs ws : List Value) (bs : List (Nat × Value)) (hs : List (Option Addr × List Nat)) : Prop where
  led : Led W p base k vg vw gs ws
  ad : Ad w W p base vg0 vw0 vg vw
  bs : ∀ x ∈ bs, Bx W vg vw x.1 x.2
  hs : ∀ y ∈ hs, Hold W base y.1 y.2
theorem Bst.kept {w W W' : World} {p base k : Nat} {vg0 vw0 vg vw : Value} {gs ws : List Value} {bs : List (Nat × Value)} {hs : List (Option Addr × List Nat)} (h : Bst w W p base k vg0 vw0 vg vw gs ws bs hs) (hb : Below W.heap.size W W') : Bst w W' p base k vg0 vw0 vg vw gs ws bs hs :=
  ⟨h.led.kept hb, h.ad.trans (Ad.of_below hb h.led.bw), fun x hx => (h.bs x hx).kept hb, fun y hy => (h.hs y hy).kept hb⟩
theorem Bst.box {w W : World} {p base k : Nat} {vg0 vw0 vg vw : Value} {gs ws : List Value} {bs : List (Nat × Value)} {hs : List (Option Addr × List Nat)} (h : Bst w W p base k vg0 vw0 vg vw gs ws bs hs) (v : Value) : Bst w (W.alloc (.cells #[v] 24)) p base k vg0 vw0 vg vw gs ws ((W.heap.size, v) :: bs) hs := by
  have h2 := h.kept (gr_alloc W (.cells #[v] 24))
  refine ⟨h2.led, h2.ad, fun x hx => ?_, h2.hs⟩
  rcases List.mem_cons.1 hx with rfl | hx
  · exact Bx.made h.led v
  · exact h2.bs x hx
theorem Bst.added {w W W' : World} {p base k : Nat} {vg0 vw0 vg vw vg' vw' : Value} {gs ws gs' ws' : List Value} {bs : List (Nat × Value)} {hs : List (Option Addr × List Nat)} (h : Bst w W p base k vg0 vw0 vg vw gs ws bs hs) {k' : Nat} (hl : Led W' p base k' vg' vw' gs' ws') (ha : Ad W W' p base vg vw vg' vw') : Bst w W' p base k' vg0 vw0 vg' vw' gs' ws' bs hs :=
  ⟨hl, h.ad.trans ha, fun x hx => (h.bs x hx).added h.led ha, fun y hy => (h.hs y hy).added h.led ha⟩
theorem Bst.cell {w W : World} {p base k : Nat} {vg0 vw0 vg vw : Value} {gs ws : List Value} {bs : List (Nat × Value)} {hs : List (Option Addr × List Nat)} (h : Bst w W p base k vg0 vw0 vg vw gs ws bs hs) {q : Nat} {v : Value} (hm : (q, v) ∈ bs) : W.cell? ⟨q, 0, none⟩ = some v := (h.bs _ hm).cell
theorem Bst.lim {w W : World} {p base k : Nat} {vg0 vw0 vg vw : Value} {gs ws : List Value} {bs : List (Nat × Value)} {hs : List (Option Addr × List Nat)} (h : Bst w W p base k vg0 vw0 vg vw gs ws bs hs) {a : Option Addr} {xs : List Nat} (hm : (a, xs) ∈ hs) : Lim W a xs := (h.hs _ hm).lim
theorem Bst.size {w W : World} {p base k : Nat} {vg0 vw0 vg vw : Value} {gs ws : List Value} {bs : List (Nat × Value)} {hs : List (Option Addr × List Nat)} (h : Bst w W p base k vg0 vw0 vg vw gs ws bs hs) : w.heap.size ≤ W.heap.size := h.ad.fr.size

end Go.Proofs.Ytkpbgjgebjcfeaa
