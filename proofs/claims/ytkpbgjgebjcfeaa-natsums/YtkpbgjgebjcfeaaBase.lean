/- Words for limbs in memory: where they lie, who owns them, and what a call has left alone. -/
import Derived.Test.YtkpbgjgebjcfeaaProg
import Derived.WalkKit
import Derived.WalkSpells
import Derived.WalkLawsBesides
import Derived.Test.YtkpbgjgebjcfeaaPlain
namespace Go.Proofs.Ytkpbgjgebjcfeaa
open Go.RowKit

/-- The limbs xs lie where the slice begins (nothing is asked of a slice without limbs). -/
def Lim (w : World) (a : Option Addr) (xs : List Nat) : Prop :=
  xs = [] ∨ ∃ b off, a = some ⟨b, off, none⟩ ∧ ∀ j, j < xs.length → w.cell? ⟨b, off + j, none⟩ = some (.int .u32 ((xs[j]?.getD 0 : Nat) : Int))

theorem Lim.parts {w : World} {a : Option Addr} {xs : List Nat} (h : Lim w a xs) :
    xs = [] ∨ (0 < xs.length ∧ ∃ b off, a = some ⟨b, off, none⟩ ∧ b < w.heap.size ∧ ∀ j, j < xs.length → w.cell? ⟨b, off + j, none⟩ = some (.int .u32 ((xs[j]?.getD 0 : Nat) : Int))) := by
  rcases h with h | ⟨b, off, ha, hc⟩
  · exact Or.inl h
  · by_cases hx : xs = []
    · exact Or.inl hx
    · have hp : 0 < xs.length := List.length_pos_iff.2 hx
      exact Or.inr ⟨hp, b, off, ha, World.block_lt_of_cell? w ⟨b, off + 0, none⟩ (hc 0 hp), hc⟩

theorem Lim.below {w w' : World} {a : Option Addr} {xs : List Nat} (h : Lim w a xs) (hb : Below w.heap.size w w') : Lim w' a xs := by
  rcases h.parts with h | ⟨_, b, off, ha, hlt, hc⟩
  · exact Or.inl h
  · exact Or.inr ⟨b, off, ha, fun j hj => (hb.cell (by exact hlt)).trans (hc j hj)⟩

theorem Lim.alloc {w : World} {a : Option Addr} {xs : List Nat} (h : Lim w a xs) (o : Obj) : Lim (w.alloc o) a xs := h.below ((Below.refl _ _).alloc (Nat.le_refl _) o)

/-- A slice at the head of a block of limbs of the call's own (numbers from base on), with no room but its block's; or nil. -/
def Own (w : World) (base : Nat) (v : Value) (xs : List Nat) : Prop :=
  (v = .slice none 0 0 ∧ xs = []) ∨
  ∃ g cap cur, v = .slice (some ⟨g, 0, none⟩) xs.length cap ∧ base ≤ g ∧ w.heap[g]? = some (.cells cur 28 (0, 0)) ∧ xs.length ≤ cap ∧ cap ≤ cur.size ∧ cap ≤ 9223372036854775807 ∧
    ∀ j, j < xs.length → cur[j]? = some (.int .u32 ((xs[j]?.getD 0 : Nat) : Int))

theorem Own.lim {w : World} {base : Nat} {v : Value} {xs : List Nat} (h : Own w base v xs) :
    ∃ a cap, v = .slice a xs.length cap ∧ xs.length ≤ cap ∧ cap ≤ 9223372036854775807 ∧ Lim w a xs := by
  rcases h with ⟨rfl, rfl⟩ | ⟨g, cap, cur, rfl, hg, hh, h1, h2, h3, hc⟩
  · exact ⟨none, 0, rfl, Nat.le_refl _, by omega, Or.inl rfl⟩
  · exact ⟨_, cap, rfl, h1, by omega, Or.inr ⟨g, 0, rfl, fun j hj => by rw [Nat.zero_add, cell_of_row w g j cur _ _ hh]; exact hc j hj⟩⟩

theorem Own.kept {w w' : World} {base : Nat} {v : Value} {xs : List Nat} (h : Own w base v xs) (hb : Below w.heap.size w w') : Own w' base v xs := by
  rcases h with h | ⟨g, cap, cur, rfl, hg, hh, r⟩
  · exact Or.inl h
  · have hlt : g < w.heap.size := by
      by_cases hlt : g < w.heap.size
      · exact hlt
      · rw [Array.getElem?_eq_none (by omega)] at hh; cases hh
    exact Or.inr ⟨g, cap, cur, rfl, hg, by rw [hb.block g hlt]; exact hh, r⟩

theorem Own.mono {w : World} {base base' : Nat} {v : Value} {xs : List Nat} (h : Own w base v xs) (hb : base' ≤ base) : Own w base' v xs := by
  rcases h with h | ⟨g, cap, cur, rfl, hg, r⟩
  · exact Or.inl h
  · exact Or.inr ⟨g, cap, cur, rfl, by omega, r⟩

theorem hide {p : Prop} (h : p) : Hid p := h
theorem unhide {p : Prop} (h : Hid p) : p := h

theorem gr_refl (w : World) : Below w.heap.size w w := Below.refl _ _
theorem gr_alloc (w : World) (o : Obj) : Below w.heap.size w (w.alloc o) := (Below.refl _ _).alloc (Nat.le_refl _) o
theorem gr_trans {a b c : World} (h : Below a.heap.size a b) (k : Below b.heap.size b c) : Below a.heap.size a c := h.trans (k.mono h.size)
theorem gr_drew {a b : World} (h : Below a.heap.size a b) : Below a.heap.size a b.drew := h.drew

theorem ret_int {k : IntKind} {a b : Int} (h : a = b) : Ending.returned (.int k a) = .returned (.int k b) := by rw [h]
theorem ret_bool {a b : Bool} (h : a = b) : Ending.returned (.bool a) = .returned (.bool b) := by rw [h]

/-- A whole block of limbs. -/
def lc (zs : List Nat) : Array Value := (zs.map (fun z : Nat => Value.int .u32 (z : Int))).toArray
/-- The block B begins with the limbs zs. -/
def Row (w : World) (B : Nat) (zs : List Nat) : Prop := ∃ tl : Array Value, w.heap[B]? = some (.cells (lc zs ++ tl) 28 (0, 0))

theorem size_lc (zs : List Nat) : (lc zs).size = zs.length := by simp [lc]
theorem lc_at (zs : List Nat) (j : Nat) (h : j < zs.length) : (lc zs)[j]? = some (.int .u32 ((zs[j]?.getD 0 : Nat) : Int)) := by simp [lc, h]
theorem lc_set (zs : List Nat) (j v : Nat) : (lc zs).setIfInBounds j (.int .u32 (v : Int)) = lc (zs.set j v) := by
  simp [lc, List.setIfInBounds_toArray, List.map_set]
theorem lc_at' (zs : List Nat) (tl : Array Value) (j : Nat) (h : j < zs.length) : (lc zs ++ tl)[j]? = some (.int .u32 ((zs[j]?.getD 0 : Nat) : Int)) := by
  rw [Array.getElem?_append_left (by rw [size_lc]; exact h), lc_at zs j h]
theorem Row.cell {w : World} {B : Nat} {zs : List Nat} (h : Row w B zs) (j : Nat) (hj : j < zs.length) : w.cell? ⟨B, j, none⟩ = some (.int .u32 ((zs[j]?.getD 0 : Nat) : Int)) := by
  obtain ⟨tl, h⟩ := h
  rw [cell_of_row w B j _ _ _ h, lc_at' zs tl j hj]
theorem Row.frozen {w : World} {B : Nat} {zs : List Nat} (h : Row w B zs) (j : Nat) : w.frozen? ⟨B, j, none⟩ = false := by
  obtain ⟨tl, h⟩ := h
  exact frozen_of_row w B j _ _ h
theorem Row.set {w : World} {B : Nat} {zs : List Nat} (h : Row w B zs) (j v : Nat) (hj : j < zs.length) : Row (w.setCell ⟨B, j, none⟩ (.int .u32 (v : Int))) B (zs.set j v) := by
  obtain ⟨tl, h⟩ := h
  refine ⟨tl, ?_⟩
  rw [heap_setCell_same w B j _ _ _ h, Array.setIfInBounds_append_left (by rw [size_lc]; exact hj), lc_set]
theorem Row.lt {w : World} {B : Nat} {zs : List Nat} (h : Row w B zs) : B < w.heap.size := by
  obtain ⟨tl, h⟩ := h
  by_cases hlt : B < w.heap.size
  · exact hlt
  · rw [Array.getElem?_eq_none (by omega)] at h; cases h

/-- Only block B has turned. -/
structure Only (B : Nat) (w w' : World) : Prop where
  os : w'.os = w.os
  tape : w'.tape = w.tape
  output : w'.output = w.output
  size : w'.heap.size = w.heap.size
  block : ∀ k, k ≠ B → w'.heap[k]? = w.heap[k]?
theorem Only.refl (B : Nat) (w : World) : Only B w w := ⟨rfl, rfl, rfl, rfl, fun _ _ => rfl⟩
theorem Only.trans {B : Nat} {a b c : World} (h : Only B a b) (k : Only B b c) : Only B a c :=
  ⟨k.os.trans h.os, k.tape.trans h.tape, k.output.trans h.output, k.size.trans h.size, fun i hi => (k.block i hi).trans (h.block i hi)⟩
theorem Only.setCell {B : Nat} {a w : World} (h : Only B a w) (j : Nat) (u : Value) : Only B a (w.setCell ⟨B, j, none⟩ u) :=
  h.trans ⟨rfl, rfl, rfl, by simp [World.setCell], fun k hk => heap_setCell_other w _ k u hk⟩
theorem Only.drew {B : Nat} {a w : World} (h : Only B a w) : Only B a w.drew := ⟨h.os, h.tape, h.output, h.size, h.block⟩
theorem Only.cell {B : Nat} {w w' : World} (h : Only B w w') {p : Addr} (hp : p.block ≠ B) : w'.cell? p = w.cell? p := World.cell?_of_block (w := w) (h.block p.block hp)
theorem Only.frozen {B : Nat} {w w' : World} (h : Only B w w') {p : Addr} (hp : p.block ≠ B) : w'.frozen? p = w.frozen? p := World.frozen?_of_block (w := w) (h.block p.block hp)
theorem Only.below {B : Nat} {a w w' : World} (h : Below a.heap.size a w) (k : Only B w w') (hB : a.heap.size ≤ B) : Below a.heap.size a w' :=
  h.trans ⟨k.os, k.tape, k.output, Nat.le_of_eq k.size.symm, fun i hi => k.block i (by omega)⟩
theorem Only.lim {B : Nat} {w w' : World} {a : Option Addr} {xs : List Nat} (k : Only B w w') (h : Lim w a xs) (hne : ∀ b off, a = some ⟨b, off, none⟩ → b ≠ B) : Lim w' a xs := by
  rcases h with h | ⟨b, off, ha, hc⟩
  · exact Or.inl h
  · exact Or.inr ⟨b, off, ha, fun j hj => (k.cell (hne b off ha)).trans (hc j hj)⟩
theorem Row.kept {w w' : World} {B : Nat} {zs : List Nat} (h : Row w B zs) (hb : Below w.heap.size w w') : Row w' B zs := by
  have hl := h.lt
  obtain ⟨tl, h⟩ := h
  exact ⟨tl, by rw [hb.block B hl]; exact h⟩
theorem Row.own {w : World} {B base : Nat} {zs : List Nat} (h : Row w B zs) (hB : base ≤ B) (n cap : Nat) (hn : n ≤ cap) (hcap : cap ≤ zs.length) (hz : zs.length ≤ 9223372036854775807) : Own w base (.slice (some ⟨B, 0, none⟩) n cap) (zs.take n) := by
  have e : (zs.take n).length = n := by rw [List.length_take]; omega
  obtain ⟨tl, h⟩ := h
  refine Or.inr ⟨B, cap, lc zs ++ tl, by rw [e], hB, h, by omega, by rw [Array.size_append, size_lc]; omega, by omega, fun j hj => ?_⟩
  rw [e] at hj
  rw [lc_at' zs tl j (by omega), List.getElem?_take, if_pos hj]
theorem Row.prefix {w : World} {B : Nat} {zs : List Nat} (h : Row w B zs) (n : Nat) : Row w B (zs.take n) := by
  obtain ⟨tl, h⟩ := h
  refine ⟨lc (zs.drop n) ++ tl, ?_⟩
  rw [h, ← Array.append_assoc]
  have e : lc (zs.take n) ++ lc (zs.drop n) = lc zs := by
    simp only [lc, List.append_toArray, ← List.map_append, List.take_append_drop]
  rw [e]

theorem mul_lo (x f : Nat) : (0 : Int) ≤ (x : Int) * (f : Int) := Int.mul_nonneg (Int.natCast_nonneg _) (Int.natCast_nonneg _)
theorem mul_hi {x f : Nat} (hx : x < 4294967296) (hf : f < 4294967296) : (x : Int) * (f : Int) ≤ 18446744065119617025 := by
  have : x * f ≤ 4294967295 * 4294967295 := Nat.mul_le_mul (by omega) (by omega)
  rw [← Int.natCast_mul]; omega
theorem at_mid (pre out d post : List Nat) (k : Nat) (hk : out.length = k) (hd : k < d.length) : (pre ++ (out ++ d.drop k) ++ post)[pre.length + k]?.getD 0 = d[k]?.getD 0 := by
  rw [List.append_assoc, List.getElem?_append_right (by omega), Nat.add_sub_cancel_left, List.getElem?_append_left (by simp; omega), List.getElem?_append_right (by omega), hk, Nat.sub_self, List.getElem?_drop]
  simp
theorem set_mid (pre out d post : List Nat) (k v : Nat) (hk : out.length = k) (hd : k < d.length) : (pre ++ (out ++ d.drop k) ++ post).set (pre.length + k) v = pre ++ ((out ++ [v]) ++ d.drop (k + 1)) ++ post := by
  rw [Pl.drop_cons d k hd, List.append_assoc, List.set_append_right _ _ (by omega), Nat.add_sub_cancel_left, List.set_append_left _ _ (by simp; omega), List.set_append_right _ _ (by omega), hk, Nat.sub_self]
  simp

theorem Try.info_limb : (Try.prog.info? 28).map (fun i => (i.zero, i.size, i.bytes)) = some (some (.int .u32 0), 1, 4) := by kernel_rfl
theorem Try.under_limbs : Try.prog.underlying 22 = some (.slice 28) := by kernel_rfl
theorem made_lc (n : Nat) : madeCells #[.int .u32 0] n = lc (List.replicate n 0) := by
  apply Array.toList_inj.1
  rw [toList_madeCells_one]
  simp [lc]
/-- A new row of n limbs, all nought. -/
theorem make_limbs (C : Int) (n : Nat) (hC : C = (n : Int)) (hn : n ≤ 1073741824) (w : World) :
    (Instr.makeSlice 22 (.int .i64 C) (.int .i64 C)).run Try.prog w = .ok (.slice (some ⟨w.heap.size, 0, none⟩) n n) (w.alloc (.cells (lc (List.replicate n 0)) 28)) := by
  obtain ⟨i, hi, hz, hs, hb⟩ := info_parts Try.info_limb
  have := run_make (P := Try.prog) w 22 28 i (.int .u32 0) Try.under_limbs hi hz .i64 .i64 C C (by omega) (Int.le_refl _) (by rw [hb]; omega) (by omega)
  rw [this, hC, hs]
  simp only [Int.toNat_natCast, Nat.mul_one, Value.cells, made_lc]
theorem Row.made (w : World) (zs : List Nat) : Row (w.alloc (.cells (lc zs) 28)) w.heap.size zs := ⟨#[], by rw [Array.append_empty]; exact heap_alloc_new w _⟩
theorem Row.only {w w' : World} {B C : Nat} {zs : List Nat} (h : Row w B zs) (k : Only C w w') (hne : B ≠ C) : Row w' B zs := by
  obtain ⟨tl, h⟩ := h
  exact ⟨tl, by rw [k.block B hne]; exact h⟩

theorem Own.set {w : World} {base : Nat} {v : Value} {xs : List Nat} (h : Own w base v xs) {p : Addr} (hp : p.block < base) (u : Value) : Own (w.setCell p u) base v xs := by
  rcases h with h | ⟨g, cap, cur, rfl, hg, hh, r⟩
  · exact Or.inl h
  · exact Or.inr ⟨g, cap, cur, rfl, hg, by rw [heap_setCell_other w p g u (by omega)]; exact hh, r⟩

theorem or_limb (r x : Nat) (hr : r < 4294967296) (hx : x < 4294967296) : Go.bits .or .u64 ((r : Int) * 4294967296) (x : Int) = (r : Int) * 4294967296 + (x : Int) := by
  have h := bits_or_u64_nat (r * 4294967296) x (by omega) (by omega)
  have e : r * 4294967296 ||| x = r * 4294967296 + x := by
    have := Nat.two_pow_add_eq_or_of_lt (i := 32) (b := x) (by omega) r
    rw [Nat.mul_comm r 4294967296]; exact this.symm
  rw [e] at h
  rw [show ((r : Int) * 4294967296) = ((r * 4294967296 : Nat) : Int) by omega, h]
  omega
theorem and_one_i64 (e : Nat) (h : e < 9223372036854775808) : Go.bits .and .i64 (e : Int) 1 = ((e % 2 : Nat) : Int) := by
  have h1 : (BitVec.ofInt 64 (e : Int)).toNat = e := by
    rw [BitVec.ofInt_natCast, BitVec.toNat_ofNat]; exact Nat.mod_eq_of_lt (by omega)
  show IntKind.i64.wrap ((BitVec.ofInt 64 (e : Int) &&& BitVec.ofInt 64 1).toNat : Int) = _
  rw [BitVec.toNat_and, h1, show (BitVec.ofInt 64 1).toNat = 1 from rfl, Nat.and_one_is_mod, IntKind.wrap_i64]
  omega

/-- Two rules that the walk uses by itself behind a contract. -/
theorem bcell {W w1 : World} (hb : Below W.heap.size W w1) : (∀ b o, b < W.heap.size → w1.cell? ⟨b, o, none⟩ = W.cell? ⟨b, o, none⟩) ∧ (∀ b o, b < W.heap.size → w1.frozen? ⟨b, o, none⟩ = W.frozen? ⟨b, o, none⟩) :=
  ⟨fun b o h => hb.cell (p := ⟨b, o, none⟩) h, fun b o h => hb.frozen (p := ⟨b, o, none⟩) h⟩

end Go.Proofs.Ytkpbgjgebjcfeaa
