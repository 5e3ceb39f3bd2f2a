/- Where the law NatSums stands: the book, two numbers that were lent, the variables; one limb of what was lent is written. -/
import Derived.Test.YtkpbgjgebjcfeaaSmSt
namespace Go.Proofs.Ytkpbgjgebjcfeaa
open Go.RowKit

/-- The block g is one of limbs. -/
def LimbB (W : World) (g : Nat) : Prop := ∃ cur, W.heap[g]? = some (.cells cur 28 (0, 0))
theorem LimbB.box {W : World} {g q : Nat} {v : Value} (h : LimbB W g) (hb : Box W q v) : q ≠ g := fun e => by
  obtain ⟨cur, h⟩ := h
  unfold Box at hb
  rw [e, h] at hb
  injection hb with hb; injection hb with _ hb; exact absurd hb (by decide)
theorem Own.putOther {W : World} {base g : Nat} {v : Value} {xs : List Nat} (h : Own W base v xs) (hne : v.ownBlock ≠ some g) (j : Nat) (u : Value) : Own (W.setCell ⟨g, j, none⟩ u) base v xs :=
  h.keep (fun k _ hk => heap_setCell_other W _ k u (fun e => hne (by rw [hk]; exact congrArg some e)))
theorem Mine.putOther {W : World} {base g : Nat} {a : Option Addr} {n c m : Nat} (h : Mine W base a n c m) (hne : (Value.slice a n c).ownBlock ≠ some g) (j : Nat) (u : Value) : Mine (W.setCell ⟨g, j, none⟩ u) base a n c m := by
  obtain ⟨xs, h1, ho, r⟩ := h
  exact ⟨xs, h1, ho.putOther hne j u, r⟩
theorem Led.put {W : World} {p base k g : Nat} {vg vw : Value} {gs ws : List Value} (h : Led W p base k vg vw gs ws) (ht : LimbB W g) (hg : ∀ u ∈ gs, u.ownBlock ≠ some g) (hw : ∀ u ∈ ws, u.ownBlock ≠ some g) (j : Nat) (u : Value) : Led (W.setCell ⟨g, j, none⟩ u) p base k vg vw gs ws := by
  obtain ⟨cur, hc⟩ := ht
  have hp : p ≠ g := fun e => by
    have := h.bk.bk
    rw [e, hc] at this
    injection this with this; injection this with _ this; exact absurd this (by decide)
  refine ⟨⟨by rw [heap_setCell_other W _ p u hp]; exact h.bk.bk, own_set h.bk.rg (fun e => row_type h.bk.rg e.symm hc (by decide)) j u, own_set h.bk.rw (fun e => row_type h.bk.rw e.symm hc (by decide)) j u, h.bk.ap⟩, ⟨fun i v hv => ?_, h.ent.ap⟩, fun i hi => ?_, h.pb⟩
  · obtain ⟨xs, ho, hl⟩ := h.ent.own i v hv
    exact ⟨xs, ho.putOther (hg v (List.mem_of_getElem? hv)) j u, hl⟩
  · obtain ⟨a, n, c, a', n', c', m, h1, h2, h3, h4⟩ := h.same i hi
    exact ⟨a, n, c, a', n', c', m, h1, h2, h3.putOther (hg _ (List.mem_of_getElem? h1)) j u, h4.putOther (hw _ (List.mem_of_getElem? h2)) j u⟩
theorem Ad.put {w W : World} {p base g : Nat} {v0 u0 vg vw : Value} (h : Ad w W p base v0 u0 vg vw) (hg : w.heap.size ≤ g) (hb : base ≤ g) (j : Nat) (u : Value) : Ad w (W.setCell ⟨g, j, none⟩ u) p base v0 u0 vg vw :=
  ⟨⟨h.fr.os, h.fr.tape, h.fr.output, by simpa [World.setCell] using h.fr.size, fun k hk h1 h2 h3 => (heap_setCell_other W _ k u (by simp only; omega)).trans (h.fr.block k hk h1 h2 h3)⟩, h.ng, h.nw,
   fun v xs ho => (h.own v xs ho).putOther (fun e => by have := ho.lt g e; omega) j u, h.bel.setCell hb u⟩

/-- Where the law stands. -/
structure Su (w W : World) (p k : Nat) (vg vw : Value) (gs ws : List Value) (bs : List (Nat × Value)) (gx n cx gy n' cy : Nat) (xs ys : List Nat) : Prop where
  st : Bst w W p w.heap.size k (.slice none 0 0) (.slice none 0 0) vg vw gs ws bs []
  lx : Lt W w.heap.size gx n cx xs
  ly : Lt W w.heap.size gy n' cy ys
  ne : gx ≠ gy
  ag : ∀ u ∈ gs, u.ownBlock ≠ some gx ∧ u.ownBlock ≠ some gy
  aw : ∀ u ∈ ws, u.ownBlock ≠ some gx ∧ u.ownBlock ≠ some gy

theorem Lt.at {W : World} {base g n c : Nat} {xs : List Nat} (h : Lt W base g n c xs) : base ≤ g ∧ g < W.heap.size := h.own.lt g rfl
theorem Lt.limbB {W : World} {base g n c : Nat} {xs : List Nat} (h : Lt W base g n c xs) : LimbB W g := h.own.type g rfl
theorem Su.kept {w W W' : World} {p k : Nat} {vg vw : Value} {gs ws : List Value} {bs : List (Nat × Value)} {gx n cx gy n' cy : Nat} {xs ys : List Nat} (h : Su w W p k vg vw gs ws bs gx n cx gy n' cy xs ys) (hb : Below W.heap.size W W') : Su w W' p k vg vw gs ws bs gx n cx gy n' cy xs ys :=
  ⟨h.st.kept hb, h.lx.kept hb, h.ly.kept hb, h.ne, h.ag, h.aw⟩
theorem Su.box {w W : World} {p k : Nat} {vg vw : Value} {gs ws : List Value} {bs : List (Nat × Value)} {gx n cx gy n' cy : Nat} {xs ys : List Nat} (h : Su w W p k vg vw gs ws bs gx n cx gy n' cy xs ys) (v : Value) : Su w (W.alloc (.cells #[v] 24)) p k vg vw gs ws ((W.heap.size, v) :: bs) gx n cx gy n' cy xs ys :=
  ⟨h.st.box v, h.lx.alloc _, h.ly.alloc _, h.ne, h.ag, h.aw⟩
theorem Su.sums {w W W' : World} {p k k' : Nat} {vg vw vg' vw' : Value} {gs ws gs' ws' : List Value} {bs : List (Nat × Value)} {gx n cx gy n' cy : Nat} {xs ys : List Nat} (h : Su w W p k vg vw gs ws bs gx n cx gy n' cy xs ys) (hl : Led W' p w.heap.size k' vg' vw' (gs ++ gs') (ws ++ ws')) (ha : Ad W W' p w.heap.size vg vw vg' vw') (hg : ∀ u ∈ gs', FreshV W u) (hw : ∀ u ∈ ws', FreshV W u) :
    Su w W' p k' vg' vw' (gs ++ gs') (ws ++ ws') bs gx n cx gy n' cy xs ys := by
  have hx := h.lx.at
  have hy := h.ly.at
  have hf : ∀ u, FreshV W u → u.ownBlock ≠ some gx ∧ u.ownBlock ≠ some gy := fun u hu => ⟨fun e => by have := hu _ e; omega, fun e => by have := hu _ e; omega⟩
  refine ⟨h.st.added hl ha, h.lx.added ha, h.ly.added ha, h.ne, fun u hu => ?_, fun u hu => ?_⟩
  · rcases List.mem_append.1 hu with hu | hu
    · exact h.ag u hu
    · exact hf u (hg u hu)
  · rcases List.mem_append.1 hu with hu | hu
    · exact h.aw u hu
    · exact hf u (hw u hu)
/-- One limb of the first number that was lent is written. -/
theorem Su.put {w W : World} {p k : Nat} {vg vw : Value} {gs ws : List Value} {bs : List (Nat × Value)} {gx n cx gy n' cy : Nat} {xs ys : List Nat} (h : Su w W p k vg vw gs ws bs gx n cx gy n' cy xs ys) (j z : Nat) (hj : j < n) :
    Su w (W.setCell ⟨gx, j, none⟩ (.int .u32 (z : Int))) p k vg vw gs ws bs gx n cx gy n' cy (xs.set j z) ys := by
  have hx := h.lx.at
  have hlen := h.lx.len
  refine ⟨⟨h.st.led.put h.lx.limbB (fun u hu => (h.ag u hu).1) (fun u hu => (h.aw u hu).1) j _, h.st.ad.put hx.1 hx.1 j _, fun x hm => ?_, fun y hy => absurd hy (by simp)⟩, ⟨?_, by rw [List.length_set]; exact hlen⟩, ⟨h.ly.own.putOther (fun e => h.ne (by injection e with e; exact e.symm)) j _, h.ly.len⟩, h.ne, h.ag, h.aw⟩
  · have hb := h.st.bs x hm
    refine ⟨?_, hb.ng, hb.nw⟩
    have hne := h.lx.limbB.box hb.box
    unfold Box
    rw [heap_setCell_other W _ x.1 _ hne]
    exact hb.box
  · have := h.lx.own.put (k := j) (z := z) (by omega)
    rwa [List.set_append_left _ _ (by omega)] at this
theorem Su.size {w W : World} {p k : Nat} {vg vw : Value} {gs ws : List Value} {bs : List (Nat × Value)} {gx n cx gy n' cy : Nat} {xs ys : List Nat} (h : Su w W p k vg vw gs ws bs gx n cx gy n' cy xs ys) : w.heap.size ≤ W.heap.size := h.st.size
/-- A list that was there at the start. -/
theorem Su.old {w W : World} {p k : Nat} {vg vw : Value} {gs ws : List Value} {bs : List (Nat × Value)} {gx n cx gy n' cy : Nat} {xs ys : List Nat} (h : Su w W p k vg vw gs ws bs gx n cx gy n' cy xs ys) {a : Option Addr} {zs : List Nat} (hl : Lim w a zs) : Hold W w.heap.size a zs := by
  have hb : Below w.heap.size w W := h.st.ad.bel
  exact hl.hold.kept hb
/-- All entries with what was lent. -/
theorem Su.ents {w W : World} {p k : Nat} {vg vw : Value} {gs ws : List Value} {bs : List (Nat × Value)} {gx n cx gy n' cy : Nat} {xs ys : List Nat} (h : Su w W p k vg vw gs ws bs gx n cx gy n' cy xs ys) (hn : n ≤ 35184372087808) (hn' : n' ≤ 35184372087808) :
    Ents W w.heap.size (gs ++ [.slice (some ⟨gx, 0, none⟩) n cx, .slice (some ⟨gy, 0, none⟩) n' cy]) := by
  have h1 := h.st.led.ent.snoc h.lx.short (by rw [h.lx.len]; exact hn) (fun u hu q hq hq2 => (h.ag u hu).1 (by rw [hq2, ← hq]; rfl))
  have h2 := h1.snoc h.ly.short (by rw [h.ly.len]; exact hn') (fun u hu q hq hq2 => by
    rcases List.mem_append.1 hu with hu | hu
    · exact (h.ag u hu).2 (by rw [hq2, ← hq]; rfl)
    · rw [List.mem_singleton.1 hu] at hq2
      have e1 : some gy = some q := hq
      have e2 : some gx = some q := hq2
      injection e1 with e1; injection e2 with e2
      exact h.ne (e2.trans e1.symm))
  simpa using h2

end Go.Proofs.Ytkpbgjgebjcfeaa
