/- Words for whole numbers in memory: Num, a number that may be read; Mine, one in memory of the call's own; and the calls nat.limited and nat.Of that make such. -/
import Derived.Test.YtkpbgjgebjcfeaaTrim
import Derived.Test.YtkpbgjgebjcfeaaCheck
namespace Go.Proofs.Ytkpbgjgebjcfeaa
open Go.RowKit

/-- The slice of n limbs at a is the number m, in the one form that it has. -/
def Num (w : World) (a : Option Addr) (n m : Nat) : Prop := ∃ xs, xs.length = n ∧ Lim w a xs ∧ Pl.Wf xs ∧ Pl.Norm xs ∧ Pl.val xs = m ∧ n ≤ 16384
/-- The same, in a block of its own, from base on. -/
def Mine (w : World) (base : Nat) (a : Option Addr) (n cap m : Nat) : Prop := ∃ xs, xs.length = n ∧ Own w base (.slice a n cap) xs ∧ Pl.Wf xs ∧ Pl.Norm xs ∧ Pl.val xs = m ∧ n ≤ 16384

theorem Mine.num {w : World} {base : Nat} {a : Option Addr} {n cap m : Nat} (h : Mine w base a n cap m) : Num w a n m := by
  obtain ⟨xs, hn, ho, hw, hN, hv, hl⟩ := h
  obtain ⟨a', cap', e, _, _, hlim⟩ := ho.lim
  injection e with e1 e2 e3
  exact ⟨xs, hn, by rw [e1]; exact hlim, hw, hN, hv, hl⟩
theorem Mine.kept {w w' : World} {base : Nat} {a : Option Addr} {n cap m : Nat} (h : Mine w base a n cap m) (hb : Below w.heap.size w w') : Mine w' base a n cap m := by
  obtain ⟨xs, hn, ho, r⟩ := h
  exact ⟨xs, hn, ho.kept hb, r⟩
theorem Mine.mono {w : World} {base base' : Nat} {a : Option Addr} {n cap m : Nat} (h : Mine w base a n cap m) (hb : base' ≤ base) : Mine w base' a n cap m := by
  obtain ⟨xs, hn, ho, r⟩ := h
  exact ⟨xs, hn, ho.mono hb, r⟩
theorem Mine.set {w : World} {base : Nat} {a : Option Addr} {n cap m : Nat} (h : Mine w base a n cap m) {p : Addr} (hp : p.block < base) (u : Value) : Mine (w.setCell p u) base a n cap m := by
  obtain ⟨xs, hn, ho, r⟩ := h
  exact ⟨xs, hn, ho.set hp u, r⟩
theorem Num.kept {w w' : World} {a : Option Addr} {n m : Nat} (h : Num w a n m) (hb : Below w.heap.size w w') : Num w' a n m := by
  obtain ⟨xs, hn, hl, r⟩ := h
  exact ⟨xs, hn, hl.below hb, r⟩
theorem Num.len {w : World} {a : Option Addr} {n m : Nat} (h : Num w a n m) : n ≤ 16384 := by
  obtain ⟨xs, _, _, _, _, _, hl⟩ := h; exact hl
theorem Num.zero {w : World} {a : Option Addr} {n m : Nat} (h : Num w a n m) : n = 0 ↔ m = 0 := by
  obtain ⟨xs, hn, _, hw, hN, hv, _⟩ := h
  constructor
  · intro e; have : xs = [] := List.length_eq_zero_iff.1 (by omega); rw [← hv, this]; rfl
  · intro e; have := Pl.norm_zero hN (by omega); rw [← hn, this]; rfl
theorem Num.lt {w : World} {a : Option Addr} {n m : Nat} (h : Num w a n m) : m < 4294967296 ^ Pl.top := by
  obtain ⟨xs, hn, _, hw, hN, hv, hl⟩ := h
  rw [← hv]; exact (Pl.val_le_len hw hN Pl.top).1 (by rw [Pl.top_eq]; omega)
/-- Two numbers of one worth have the same limbs. -/
theorem Num.same {w w' : World} {a a' : Option Addr} {n n' m : Nat} (h : Num w a n m) (k : Num w' a' n' m) : n = n' := by
  obtain ⟨xs, hn, _, hw, hN, hv, _⟩ := h
  obtain ⟨ys, hn', _, hw', hN', hv', _⟩ := k
  have := Pl.val_inj hw hw' hN hN' (by omega)
  rw [← hn, ← hn', this]

/-- A variable of the type api.Nat in a block of its own. -/
def Box (w : World) (p : Nat) (v : Value) : Prop := w.heap[p]? = some (.cells #[v] 24 (0, 0))
theorem Box.cell {w : World} {p : Nat} {v : Value} (h : Box w p v) : w.cell? ⟨p, 0, none⟩ = some v := by rw [cell_of_row w p 0 _ _ _ h]; rfl
theorem Box.frozen {w : World} {p : Nat} {v : Value} (h : Box w p v) : w.frozen? ⟨p, 0, none⟩ = false := frozen_of_row w p 0 _ _ h
theorem Box.lt {w : World} {p : Nat} {v : Value} (h : Box w p v) : p < w.heap.size := by
  by_cases hlt : p < w.heap.size
  · exact hlt
  · unfold Box at h; rw [Array.getElem?_eq_none (by omega)] at h; cases h
theorem Box.made (w : World) (v : Value) : Box (w.alloc (.cells #[v] 24)) w.heap.size v := heap_alloc_new w _
theorem Box.kept {w w' : World} {p : Nat} {v : Value} (h : Box w p v) (hb : Below w.heap.size w w') : Box w' p v := by
  unfold Box; rw [hb.block p h.lt]; exact h
theorem Box.alloc {w : World} {p : Nat} {v : Value} (h : Box w p v) (o : Obj) : Box (w.alloc o) p v := h.kept (gr_alloc _ _)
theorem Box.drewN {w : World} {p : Nat} {v : Value} (h : Box w p v) (n : Nat) : Box (w.drewN n) p v := h
theorem Box.set {w : World} {p : Nat} {v : Value} (h : Box w p v) (u : Value) : Box (w.setCell ⟨p, 0, none⟩ u) p u := by
  unfold Box; rw [heap_setCell_same w p 0 _ _ _ h]; rfl
theorem Box.other {w : World} {p : Nat} {v : Value} (h : Box w p v) {a : Addr} (hne : p ≠ a.block) (u : Value) : Box (w.setCell a u) p v := by
  unfold Box; rw [heap_setCell_other w a p u hne]; exact h
theorem Own.setBox {w : World} {base : Nat} {v : Value} {xs : List Nat} (h : Own w base v xs) {p : Nat} {x : Value} (hb : Box w p x) (u : Value) : Own (w.setCell ⟨p, 0, none⟩ u) base v xs := by
  rcases h with h | ⟨g, cap, cur, rfl, hg, hh, r⟩
  · exact Or.inl h
  · have hne : g ≠ p := by
      rintro rfl
      unfold Box at hb
      rw [hh] at hb
      simp at hb
    exact Or.inr ⟨g, cap, cur, rfl, hg, by rw [heap_setCell_other w _ g u hne]; exact hh, r⟩
theorem Mine.setBox {w : World} {base : Nat} {a : Option Addr} {n cap m : Nat} (h : Mine w base a n cap m) {p : Nat} {x : Value} (hb : Box w p x) (u : Value) : Mine (w.setCell ⟨p, 0, none⟩ u) base a n cap m := by
  obtain ⟨xs, hn, ho, r⟩ := h
  exact ⟨xs, hn, ho.setBox hb u, r⟩
theorem Lim.setBox {w : World} {a : Option Addr} {xs : List Nat} (h : Lim w a xs) {p : Nat} {a0 : Option Addr} {n0 c0 : Nat} (hb : Box w p (.slice a0 n0 c0)) (u : Value) : Lim (w.setCell ⟨p, 0, none⟩ u) a xs := by
  rcases h.parts with h | ⟨hp, b, off, ha, hlt, hc⟩
  · exact Or.inl h
  · have hne : b ≠ p := by
      rintro rfl
      have h0 := hc 0 hp
      rw [cell_of_row w b (off + 0) _ _ _ hb] at h0
      by_cases hz : off + 0 = 0
      · rw [hz] at h0; simp at h0
      · rw [Array.getElem?_eq_none (by simp; omega)] at h0; cases h0
    refine Or.inr ⟨b, off, ha, fun j hj => ?_⟩
    rw [World.cell?_of_block (w := w) (heap_setCell_other w _ b u hne)]
    exact hc j hj
theorem Num.setBox {w : World} {a : Option Addr} {n m : Nat} (h : Num w a n m) {p : Nat} {a0 : Option Addr} {n0 c0 : Nat} (hb : Box w p (.slice a0 n0 c0)) (u : Value) : Num (w.setCell ⟨p, 0, none⟩ u) a n m := by
  obtain ⟨xs, hn, hl, r⟩ := h
  exact ⟨xs, hn, hl.setBox hb u, r⟩
theorem Num.alloc {w : World} {a : Option Addr} {n m : Nat} (h : Num w a n m) (o : Obj) : Num (w.alloc o) a n m := h.kept (gr_alloc _ _)
theorem Mine.alloc {w : World} {base : Nat} {a : Option Addr} {n cap m : Nat} (h : Mine w base a n cap m) (o : Obj) : Mine (w.alloc o) base a n cap m := h.kept (gr_alloc _ _)

/-- A number that has more than MaxLimbs limbs. -/
structure Over (m : Nat) : Prop where
  le : 4294967296 ^ Pl.top ≤ m

/-- What a call that may come beyond the limit answers: the number m and OK, or nought and ErrMany. -/
def Ans (w : World) (base : Nat) (e : Ending) (m : Nat) : Prop :=
  (∃ a n cap, e = .returned (.tuple #[.agg #[.slice a n cap], .int .i64 0]) ∧ Mine w base a n cap m) ∨
  (e = .returned (.tuple #[.agg #[.slice none 0 0], .int .i64 4]) ∧ Over m)

theorem Ans.kept {w w' : World} {base base' : Nat} {e : Ending} {m : Nat} (h : Ans w base e m) (hb : Below w.heap.size w w') (hB : base' ≤ base) : Ans w' base' e m := by
  rcases h with ⟨a, n, cap, rfl, h⟩ | h
  · exact Or.inl ⟨a, n, cap, rfl, (h.kept hb).mono hB⟩
  · exact Or.inr h

theorem trim_row {w : World} {B base n : Nat} {zs : List Nat} (h : Row w B zs) (hB : base ≤ B) (hz : zs.length ≤ 9223372036854775807) (wz : Pl.Wf zs) (hn : n ≤ zs.length)
    (h0 : ∀ j, n ≤ j → j < zs.length → zs[j]?.getD 0 = 0) (h1 : n = 0 ∨ zs[n - 1]?.getD 0 ≠ 0) :
    (zs.take n).length = n ∧ Own w base (.slice (some ⟨B, 0, none⟩) n n) (zs.take n) ∧ Pl.Wf (zs.take n) ∧ Pl.Norm (zs.take n) ∧ Pl.val (zs.take n) = Pl.val zs := by
  have e : (zs.take n).length = n := by rw [List.length_take]; omega
  refine ⟨e, h.own hB n n (Nat.le_refl _) hn hz, Pl.wf_take wz n, Pl.norm_of ?_, Pl.take_of_zeros zs n hn h0⟩
  rw [e]
  rcases h1 with h1 | h1
  · exact Or.inl h1
  · by_cases hn0 : n = 0
    · exact Or.inl hn0
    · right; rw [List.getElem?_take, if_pos (by omega)]; exact h1

set_option maxHeartbeats 400000 in
theorem limited_any (B base cap : Nat) (zs : List Nat) (w : World) (hrow : Row w B zs) (hB : base ≤ B) (hcap : zs.length ≤ cap) (hcap2 : cap ≤ 40000) (wz : Pl.Wf zs) :
    Calls Try.prog 50 #[.slice (some ⟨B, 0, none⟩) zs.length cap] w fun e w' => Ans w' base e (Pl.val zs) ∧ Below w.heap.size w w' := by
  go_enter Try.func50, Try.ntmps50
  go_wp2_with fail
  have hr1 := hrow.kept (gr_alloc w (.cells #[.slice none 0 0] 24))
  refine (trim_any B 0 cap zs _ hcap (by omega) (fun j hj => by rw [Nat.zero_add]; exact hr1.cell j hj)).mono ?_
  rintro e w1 ⟨rfl, n, hn, h0, h1, rfl⟩
  have HT := hide (trim_row hrow hB (by omega) wz hn h0 h1)
  clear h0 h1
  by_cases hbig : n ≤ 16384
  · go_wp2
    obtain ⟨t1, t2, t3, t4, t5⟩ := unhide HT
    exact bodyPost_ret (v := .tuple #[.agg #[.slice (some ⟨B, 0, none⟩) n n], .int .i64 0]) (by simp [results, Try.results50, go_sem]) rfl ⟨Or.inl ⟨_, n, n, rfl, zs.take n, t1, t2.kept (gr_alloc _ _), t3, t4, t5, hbig⟩, gr_alloc _ _⟩
  · go_wp2
    obtain ⟨t1, t2, t3, t4, t5⟩ := unhide HT
    have hm : Over (Pl.val zs) := by
      constructor
      have h := Pl.val_le_len t3 t4 Pl.top
      rw [t1, t5, Pl.top_eq] at h
      rw [Pl.top_eq]
      omega
    exact bodyPost_ret (v := .tuple #[.agg #[.slice none 0 0], .int .i64 4]) (by simp [results, Try.results50, go_sem]) rfl ⟨Or.inr ⟨rfl, hm⟩, gr_alloc _ _⟩

theorem limited_at (B base n cap : Nat) (zs : List Nat) (w : World) (hn : zs.length = n) (hrow : Row w B zs) (hB : base ≤ B) (hcap : n ≤ cap) (hcap2 : cap ≤ 40000) (wz : Pl.Wf zs) :
    Calls Try.prog 50 #[.slice (some ⟨B, 0, none⟩) n cap] w fun e w' => Ans w' base e (Pl.val zs) ∧ Below w.heap.size w w' := by
  subst hn
  exact limited_any B base cap zs w hrow hB hcap hcap2 wz

set_option maxHeartbeats 400000 in
theorem of_any (u : Nat) (w : World) (hu : u < 18446744073709551616) :
    Calls Try.prog 19 #[.int .u64 (u : Int)] w fun e w' => (∃ a n cap, e = .returned (.agg #[.slice a n cap]) ∧ Mine w' w.heap.size a n cap u) ∧ Below w.heap.size w w' := by
  have hrow : ∀ o : Obj, Row ((w.alloc o).alloc (.cells #[.int .u32 ((u : Int) % 4294967296), .int .u32 ((u : Int) / 4294967296)] 28)) (w.heap.size + 1) [u % 4294967296, u / 4294967296] := by
    intro o
    refine ⟨#[], ?_⟩
    rw [heap_alloc2_new]
    simp [lc]
  have HR := hide hrow
  clear hrow
  have hwf : Pl.Wf [u % 4294967296, u / 4294967296] := Pl.wf_cons (by omega) (Pl.wf_one (by omega))
  have hval : Pl.val [u % 4294967296, u / 4294967296] = u := by simp [Pl.val]; omega
  have HV := hide hval
  clear hval
  go_enter Try.func19, Try.ntmps19
  go_wp2_with fail
  refine (trim_at (w.heap.size + 1) 0 2 2 [u % 4294967296, u / 4294967296] _ rfl (by omega) (by omega) (fun j hj => by rw [Nat.zero_add]; exact (unhide HR _).cell j hj)).mono ?_
  rintro e w1 ⟨rfl, n, hn, h0, h1, rfl⟩
  have hn2 : n ≤ 2 := hn
  have HT := hide (fun o : Obj => trim_row (unhide HR o) (show w.heap.size ≤ w.heap.size + 1 by omega) (by simp) hwf hn h0 h1)
  clear h0 h1 hn
  go_wp2
  obtain ⟨t1, t2, t3, t4, t5⟩ := unhide HT (.cells #[.slice (some ⟨w.heap.size + 1, 0, none⟩) n n] 24)
  refine bodyPost_ret (v := .agg #[.slice (some ⟨w.heap.size + 1, 0, none⟩) n n]) (by simp [results, Try.results19, go_sem]) rfl ⟨⟨_, n, n, rfl, _, t1, t2, t3, t4, t5.trans (unhide HV), by omega⟩, gr_trans (gr_alloc _ _) (gr_alloc _ _)⟩

end Go.Proofs.Ytkpbgjgebjcfeaa
