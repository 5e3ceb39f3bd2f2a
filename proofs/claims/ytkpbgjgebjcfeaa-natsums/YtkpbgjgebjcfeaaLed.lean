/- The book as it fills: answers that lie apart, each worth what it must be; the calls adds and stands by that. -/
import Derived.Test.YtkpbgjgebjcfeaaStands
import Derived.Test.YtkpbgjgebjcfeaaPAns
namespace Go.Proofs.Ytkpbgjgebjcfeaa
open Go.RowKit

/-- Slices of limbs, each in a block of its own. -/
structure Ents (w : World) (base : Nat) (es : List Value) : Prop where
  own : ∀ (i : Nat) (v : Value), es[i]? = some v → ∃ xs, Own w base v xs ∧ xs.length ≤ 35184372087808
  ap : ∀ (i j : Nat) (u v : Value), i ≠ j → es[i]? = some u → es[j]? = some v → ApartV u v
theorem Ents.nil (w : World) (base : Nat) : Ents w base [] := ⟨fun i v h => by simp at h, fun i j u v _ h => by simp at h⟩
theorem Ents.keep {w w' : World} {base : Nat} {es : List Value} (h : Ents w base es) (hk : ∀ v xs, Own w base v xs → Own w' base v xs) : Ents w' base es :=
  ⟨fun i v hv => by obtain ⟨xs, ho, hl⟩ := h.own i v hv; exact ⟨xs, hk v xs ho, hl⟩, h.ap⟩
theorem Ents.snoc {w : World} {base : Nat} {es : List Value} {v : Value} {xs : List Nat} (h : Ents w base es) (ho : Own w base v xs) (hl : xs.length ≤ 35184372087808) (ha : ∀ u ∈ es, ApartV v u) : Ents w base (es ++ [v]) := by
  have hat : ∀ i u, (es ++ [v])[i]? = some u → es[i]? = some u ∨ (i = es.length ∧ u = v) := fun i u hu => by
    by_cases hi : i < es.length
    · rw [List.getElem?_append_left hi] at hu; exact Or.inl hu
    · rw [List.getElem?_append_right (by omega)] at hu
      by_cases h0 : i - es.length = 0
      · rw [h0] at hu; simp at hu; exact Or.inr ⟨by omega, hu.symm⟩
      · rw [List.getElem?_eq_none (by simp; omega)] at hu; cases hu
  refine ⟨fun i u hu => ?_, fun i j u u' hij hu hu' => ?_⟩
  · rcases hat i u hu with h1 | ⟨_, rfl⟩
    · exact h.own i u h1
    · exact ⟨xs, ho, hl⟩
  · rcases hat i u hu with h1 | ⟨h1, rfl⟩
    · rcases hat j u' hu' with h2 | ⟨h2, rfl⟩
      · exact h.ap i j u u' hij h1 h2
      · exact (ha u (List.mem_of_getElem? h1)).symm
    · rcases hat j u' hu' with h2 | ⟨h2, rfl⟩
      · exact ha u' (List.mem_of_getElem? h2)
      · omega
theorem Ents.slice {w : World} {base : Nat} {es : List Value} (h : Ents w base es) {i : Nat} {v : Value} (hv : es[i]? = some v) : ∃ a n c, v = .slice a n c := by
  obtain ⟨xs, ho, _⟩ := h.own i v hv
  exact ho.slice

def sA : Value → Option Addr
  | .slice a _ _ => a
  | _ => none
def sL : Value → Nat
  | .slice _ n _ => n
  | _ => 0
def sC : Value → Nat
  | .slice _ _ c => c
  | _ => 0
def sv (es : List Value) (i : Nat) : Value := es[i]?.getD (.slice none 0 0)
theorem sv_eq {w : World} {base : Nat} {es : List Value} (h : Ents w base es) {i : Nat} (hi : i < es.length) : es[i]? = some (.slice (sA (sv es i)) (sL (sv es i)) (sC (sv es i))) := by
  have e : es[i]? = some es[i] := List.getElem?_eq_getElem hi
  obtain ⟨a, n, c, hv⟩ := h.slice e
  unfold sv
  rw [e, hv]; rfl

/-- Such slices in a row are what stands takes. -/
theorem Ents.sts {w : World} {base N g cap : Nat} {es : List Value} (h : Ents w base es) (hr : w.ownsRow base 24 1 (.slice (some ⟨g, 0, none⟩) N cap) N es) :
    ∃ X, Sts w base N g (fun i => sA (sv es i)) (fun i => sL (sv es i)) (fun i => sC (sv es i)) X := by
  have hlen : es.length = N := by have := hr.1; omega
  have hex : ∀ i, ∃ xs, i < N → Own w base (.slice (sA (sv es i)) (sL (sv es i)) (sC (sv es i))) xs := fun i => by
    by_cases hi : i < N
    · obtain ⟨xs, ho, _⟩ := h.own i _ (sv_eq h (by omega))
      exact ⟨xs, fun _ => ho⟩
    · exact ⟨[], fun hh => absurd hh hi⟩
  obtain ⟨X, hX⟩ := Classical.axiomOfChoice hex
  refine ⟨X, ?_, fun i hi => hX i hi, fun i j hi hj hij => h.ap i j _ _ hij (sv_eq h (by omega)) (sv_eq h (by omega))⟩
  obtain ⟨_, h2 | ⟨g', cap', cur, e, hg, hh, h3, h4, h5, h6⟩⟩ := hr
  · cases h2.1
  · injection e with e1 e2 e3
    injection e1 with e1
    injection e1 with e1
    subst e1
    refine ⟨cur, hh, fun i hi => ?_⟩
    rw [← sv_eq h (by omega), ← h6, List.getElem?_take, if_pos (by omega), Array.getElem?_toList]

/-- The book as it fills. -/
structure Led (w : World) (p base n : Nat) (vg vw : Value) (gs ws : List Value) : Prop where
  bk : Bk w p base n vg vw gs ws
  ent : Ents w base gs
  same : ∀ i, i < n → ∃ a k c a' k' c' m, gs[i]? = some (.slice a k c) ∧ ws[i]? = some (.slice a' k' c') ∧ Mine w base a k c m ∧ Mine w base a' k' c' m
  pb : base ≤ p

theorem Led.plt {w : World} {p base n : Nat} {vg vw : Value} {gs ws : List Value} (h : Led w p base n vg vw gs ws) : p < w.heap.size := by
  by_cases hlt : p < w.heap.size
  · exact hlt
  · have := h.bk.bk; rw [Array.getElem?_eq_none (by omega)] at this; cases this
theorem Led.kept {w w' : World} {p base n : Nat} {vg vw : Value} {gs ws : List Value} (h : Led w p base n vg vw gs ws) (hb : Below w.heap.size w w') : Led w' p base n vg vw gs ws :=
  ⟨⟨(hb.block p h.plt).trans h.bk.bk, own_below h.bk.rg hb, own_below h.bk.rw hb, h.bk.ap⟩, h.ent.keep (fun v xs ho => ho.kept hb), fun i hi => by
    obtain ⟨a, k, c, a', k', c', m, h1, h2, h3, h4⟩ := h.same i hi
    exact ⟨a, k, c, a', k', c', m, h1, h2, h3.kept hb, h4.kept hb⟩, h.pb⟩
theorem Led.alloc {w : World} {p base n : Nat} {vg vw : Value} {gs ws : List Value} (h : Led w p base n vg vw gs ws) (o : Obj) : Led (w.alloc o) p base n vg vw gs ws := h.kept (gr_alloc _ _)
/-- What is made later lies apart from all that was answered. -/
theorem Led.fresh {w w' : World} {p base n : Nat} {vg vw : Value} {gs ws : List Value} (h : Led w p base n vg vw gs ws) {v : Value} {xs : List Nat} (ho : Own w' w.heap.size v xs) : ∀ u ∈ gs, ApartV v u := fun u hu k hk hk2 => by
  obtain ⟨i, hi, rfl⟩ := List.getElem_of_mem hu
  obtain ⟨ys, hy, _⟩ := h.ent.own i _ (List.getElem?_eq_getElem hi)
  have := ho.lt k hk
  have := hy.lt k hk2
  omega
theorem Mine.fresh {w w' : World} {p base n : Nat} {vg vw : Value} {gs ws : List Value} {a : Option Addr} {k c m : Nat} (ho : Mine w' w.heap.size a k c m) (h : Led w p base n vg vw gs ws) : ∀ u ∈ gs, ApartV (.slice a k c) u := by
  obtain ⟨xs, _, ho, _⟩ := ho
  exact h.fresh ho
theorem nil_fresh (gs : List Value) : ∀ u ∈ gs, ApartV (.slice none 0 0) u := fun u _ k hk => by cases hk

/-- What adds keeps. -/
structure Ad (w w' : World) (p base : Nat) (vg vw vg' vw' : Value) : Prop where
  fr : Fr w w' p vg.ownBlock vw.ownBlock
  ng : NewRow w vg vg'
  nw : NewRow w vw vw'
  own : ∀ v xs, Own w base v xs → Own w' base v xs
  bel : Below base w w'
theorem Mine.added {w w' : World} {p base : Nat} {vg vw vg' vw' : Value} {a : Option Addr} {n c m : Nat} (h : Mine w base a n c m) (k : Ad w w' p base vg vw vg' vw') : Mine w' base a n c m := by
  obtain ⟨xs, h1, ho, r⟩ := h
  exact ⟨xs, h1, k.own _ _ ho, r⟩

/-- A variable that is none of the book's rows. -/
structure Bx (w : World) (vg vw : Value) (q : Nat) (v : Value) : Prop where
  box : Box w q v
  ng : some q ≠ vg.ownBlock
  nw : some q ≠ vw.ownBlock
theorem Bx.cell {w : World} {vg vw : Value} {q : Nat} {v : Value} (h : Bx w vg vw q v) : w.cell? ⟨q, 0, none⟩ = some v := h.box.cell
theorem Bx.kept {w w' : World} {vg vw : Value} {q : Nat} {v : Value} (h : Bx w vg vw q v) (hb : Below w.heap.size w w') : Bx w' vg vw q v := ⟨h.box.kept hb, h.ng, h.nw⟩
theorem Bx.alloc {w : World} {vg vw : Value} {q : Nat} {v : Value} (h : Bx w vg vw q v) (o : Obj) : Bx (w.alloc o) vg vw q v := h.kept (gr_alloc _ _)
theorem Bx.made {w : World} {p base n : Nat} {vg vw : Value} {gs ws : List Value} (h : Led w p base n vg vw gs ws) (v : Value) : Bx (w.alloc (.cells #[v] 24)) vg vw w.heap.size v :=
  ⟨Box.made w v, fun e => by have := h.bk.rg.lt _ e.symm; omega, fun e => by have := h.bk.rw.lt _ e.symm; omega⟩
theorem Bx.added {w w' : World} {p base n : Nat} {vg vw vg' vw' : Value} {gs ws : List Value} {q : Nat} {v : Value} (h : Bx w vg vw q v) (hl : Led w p base n vg vw gs ws) (k : Ad w w' p base vg vw vg' vw') : Bx w' vg' vw' q v := by
  have hlt := h.box.lt
  have hqp : q ≠ p := fun e => by
    have h1 := h.box
    have h2 := hl.bk.bk
    unfold Box at h1
    rw [e, h2] at h1
    injection h1 with h1
    injection h1 with _ h1
    exact absurd h1 (by decide)
  refine ⟨?_, fun e => ?_, fun e => ?_⟩
  · unfold Box
    rw [k.fr.block q hlt hqp h.ng h.nw]; exact h.box
  · rcases k.ng with h1 | ⟨g, h1, h2⟩
    · exact h.ng (e.trans h1)
    · rw [h1] at e; injection e with e; omega
  · rcases k.nw with h1 | ⟨g, h1, h2⟩
    · exact h.nw (e.trans h1)
    · rw [h1] at e; injection e with e; omega

/-- What a further answer leaves. -/
def LedTo (w : World) (p base n : Nat) (vg vw : Value) (gs ws : List Value) (g v : Value) (en : Ending) (w' : World) : Prop :=
  en = .returned (.tuple #[]) ∧ ∃ vg' vw', Led w' p base (n + 1) vg' vw' (gs ++ [g]) (ws ++ [v]) ∧ Ad w w' p base vg vw vg' vw'

theorem at_snoc {α : Type} (xs : List α) (x : α) (i : Nat) (h : i < xs.length + 1) : (xs ++ [x])[i]? = if i = xs.length then some x else xs[i]? := by
  by_cases hi : i = xs.length
  · subst hi; rw [if_pos rfl, List.getElem?_append_right (Nat.le_refl _)]; simp
  · rw [if_neg hi, List.getElem?_append_left (by omega)]

theorem led_adds (p base n : Nat) (vg vw : Value) (gs ws : List Value) (a b : Option Addr) (na nb ca cb m : Nat) (e : Int) (w : World) (hL : Led w p base n vg vw gs ws) (hA : Mine w base a na ca m) (hf : ∀ u ∈ gs, ApartV (.slice a na ca) u) (hW : Mine w base b nb cb m) (hb : base ≤ w.heap.size) (hn : n ≤ 1000) :
    Calls Try.prog 28 #[.pointer (some ⟨p, 0, none⟩), .agg #[.slice a na ca], .int .i64 e, .agg #[.slice b nb cb], .int .i64 e] w
      (LedTo w p base n vg vw gs ws (.slice a na ca) (.slice b nb cb)) := by
  refine (adds_any p base n vg vw gs ws a b na nb ca cb m e w hL.bk hA.num hW.num hb hn).mono ?_
  rintro en w' ⟨rfl, vg', vw', hB', hFr, hng, hnw⟩
  have hown : ∀ v xs, Own w base v xs → Own w' base v xs := fun v xs ho => ho.keep (fun k hk hkv => hFr.block k hk (fun e => by
      obtain ⟨cu, hcu⟩ := ho.type k hkv
      rw [e, hL.bk.bk] at hcu
      injection hcu with hcu; injection hcu with _ hcu; exact absurd hcu (by decide))
    (fun e => by obtain ⟨cu, hcu⟩ := ho.type k hkv; exact row_type hL.bk.rg e.symm hcu (by decide))
    (fun e => by obtain ⟨cu, hcu⟩ := ho.type k hkv; exact row_type hL.bk.rw e.symm hcu (by decide)))
  have hbel : Below base w w' := ⟨hFr.os, hFr.tape, hFr.output, hFr.size, fun k hk => hFr.block k (by omega) (by have := hL.pb; omega)
    (fun e => by have := hL.bk.rg.lt k e.symm; omega) (fun e => by have := hL.bk.rw.lt k e.symm; omega)⟩
  have had : Ad w w' p base vg vw vg' vw' := ⟨hFr, hng, hnw, hown, hbel⟩
  have hgl : gs.length = n := by have := hL.bk.rg.1; omega
  have hwl : ws.length = n := by have := hL.bk.rw.1; omega
  obtain ⟨xs, hx1, hxo, hx2, hx3, hx4, hx5⟩ := id hA
  refine ⟨rfl, vg', vw', ⟨hB', (hL.ent.keep hown).snoc (hown _ _ hxo) (by omega) hf, fun i hi => ?_, hL.pb⟩, had⟩
  rw [at_snoc gs _ i (by omega), at_snoc ws _ i (by omega), hgl, hwl]
  by_cases hin : i = n
  · rw [if_pos hin, if_pos hin]
    exact ⟨a, na, ca, b, nb, cb, m, rfl, rfl, hA.added had, hW.added had⟩
  · rw [if_neg hin, if_neg hin]
    obtain ⟨a1, k1, c1, a2, k2, c2, m2, h1, h2, h3, h4⟩ := hL.same i (by omega)
    exact ⟨a1, k1, c1, a2, k2, c2, m2, h1, h2, h3.added had, h4.added had⟩

/-- The book stands, with nothing lent. -/
theorem led_stands0 (p base n : Nat) (vg vw : Value) (gs ws : List Value) (w : World) (hL : Led w p base n vg vw gs ws) (hb : base ≤ w.heap.size) (hn : n ≤ 100) (h0 : 0 < n) :
    Calls Try.prog 26 #[.pointer (some ⟨p, 0, none⟩), .slice none 0 0] w fun e w' => e = .returned (.bool true) ∧ Below base w w' := by
  obtain ⟨gg, cg, hvg⟩ := own_form hL.bk.rg h0
  obtain ⟨gw, cw, hvw⟩ := own_form hL.bk.rw h0
  have hB := hL.bk
  rw [hvg, hvw] at hB
  have hg1 := hB.rg.lt gg rfl
  have hw1 := hB.rw.lt gw rfl
  have hcap : n ≤ cg := by
    obtain ⟨_, h2 | ⟨g', cap', cur, e, _, _, h3, _⟩⟩ := hB.rg
    · cases h2.1
    · injection e with _ _ e3; omega
  have hgl : gs.length = n := by have := hB.rg.1; omega
  obtain ⟨i0, hi, hz0, hz1, hz2⟩ := info_parts Try.info_nat
  refine stands_any p base n n gg cg gw cw (.slice none 0 0) gs ws w hB hn hL.plt hg1.2 hw1.2 (fun i => sA (sv gs i)) (fun i => sL (sv gs i)) (fun i => sC (sv gs i)) hn h0 (fun i hi => ?_) hb (hide fun wr hbel => ?_) (hide fun i hi => ?_)
  · obtain ⟨xs, ho, hl⟩ := hL.ent.own i _ (sv_eq hL.ent (by omega))
    have := ho.len
    show sL (sv gs i) ≤ _
    omega
  · have hL2 := hL.kept hbel
    have hr2 := hL2.bk.rg
    rw [hvg] at hr2
    obtain ⟨X, hS⟩ := hL2.ent.sts hr2
    exact ⟨gg, cg, wr, X, run_append_nothing (P := Try.prog) wr 41 41 41 24 i0 Try.under_nats hi (some ⟨gg, 0, none⟩) n cg hcap (.slice none 0 0) (Src.ofNil _ Try.under_nats 0), hS, hbel.mono hb⟩
  · obtain ⟨a, k, c, a', k', c', m, h1, h2, h3, h4⟩ := hL.same i hi
    exact ⟨a, k, c, a', k', c', m, h1, h2, h3.num, h4.num⟩

/-- A new book. -/
theorem Led.new (w : World) (base : Nat) (hb : base ≤ w.heap.size) : Led (w.alloc (.cells #[.slice none 0 0, .slice none 0 0, .bool false] 43)) w.heap.size base 0 (.slice none 0 0) (.slice none 0 0) [] [] :=
  ⟨⟨heap_alloc_new w _, World.ownsRow_nil _ _ _ _, World.ownsRow_nil _ _ _ _, Or.inl rfl⟩, Ents.nil _ _, fun i hi => absurd hi (by omega), hb⟩

end Go.Proofs.Ytkpbgjgebjcfeaa
