/- The call nat.foretell answers factors of some true steps of Euclid's way. -/
import Derived.Test.YtkpbgjgebjcfeaaLehMath
import Derived.Test.YtkpbgjgebjcfeaaNums
namespace Go.Proofs.Ytkpbgjgebjcfeaa
open Go.RowKit

/-- A variable of the type steps in a block of its own. -/
def Box4 (w : World) (p : Nat) (A B C D : Int) : Prop := w.heap[p]? = some (.cells #[.int .i64 A, .int .i64 B, .int .i64 C, .int .i64 D] 94 (0, 0))
theorem Box4.cells {w : World} {p : Nat} {A B C D : Int} (h : Box4 w p A B C D) : w.cell? ⟨p, 0, none⟩ = some (.int .i64 A) ∧ w.cell? ⟨p, 1, none⟩ = some (.int .i64 B) ∧ w.cell? ⟨p, 2, none⟩ = some (.int .i64 C) ∧ w.cell? ⟨p, 3, none⟩ = some (.int .i64 D) := by
  refine ⟨?_, ?_, ?_, ?_⟩ <;> (rw [cell_of_row w p _ _ _ _ h]; rfl)
theorem Box4.frozen {w : World} {p : Nat} {A B C D : Int} (h : Box4 w p A B C D) (j : Nat) : w.frozen? ⟨p, j, none⟩ = false := frozen_of_row w p j _ _ h
theorem Box4.lt {w : World} {p : Nat} {A B C D : Int} (h : Box4 w p A B C D) : p < w.heap.size := by
  by_cases hlt : p < w.heap.size
  · exact hlt
  · unfold Box4 at h; rw [Array.getElem?_eq_none (by omega)] at h; cases h

/-- Small factors, in either order of signs. -/
structure Sm (A B C D : Int) : Prop where
  a : -2147483647 ≤ A ∧ A ≤ 2147483647
  b : -2147483647 ≤ B ∧ B ≤ 2147483647
  c : -2147483647 ≤ C ∧ C ≤ 2147483647
  d : -2147483647 ≤ D ∧ D ≤ 2147483647
  signs : (0 ≤ A ∧ B ≤ 0 ∧ C ≤ 0 ∧ 0 ≤ D) ∨ (A ≤ 0 ∧ 0 ≤ B ∧ 0 ≤ C ∧ D ≤ 0)
/-- Four cells written one after the other. -/
def put4 (w : World) (p : Nat) (a b c d : Value) : World := (((w.setCell ⟨p, 0, none⟩ a).setCell ⟨p, 1, none⟩ b).setCell ⟨p, 2, none⟩ c).setCell ⟨p, 3, none⟩ d
theorem Box4.set4 {w : World} {p : Nat} {A B C D : Int} (h : Box4 w p A B C D) (A' B' C' D' : Int) : Box4 (put4 w p (.int .i64 A') (.int .i64 B') (.int .i64 C') (.int .i64 D')) p A' B' C' D' := by
  unfold Box4 at h ⊢
  have h1 := heap_setCell_same w p 0 _ _ (.int .i64 A') h
  have h2 := heap_setCell_same _ p 1 _ _ (.int .i64 B') h1
  have h3 := heap_setCell_same _ p 2 _ _ (.int .i64 C') h2
  have h4 := heap_setCell_same _ p 3 _ _ (.int .i64 D') h3
  unfold put4
  rw [h4]
  rfl
theorem put4_other (w : World) (p k : Nat) (a b c d : Value) (h : k ≠ p) : (put4 w p a b c d).heap[k]? = w.heap[k]? := by
  unfold put4
  rw [heap_setCell_other _ _ _ _ h, heap_setCell_other _ _ _ _ h, heap_setCell_other _ _ _ _ h, heap_setCell_other _ _ _ _ h]
theorem Box4.other4 {w : World} {p q : Nat} {A B C D : Int} (h : Box4 w p A B C D) (hne : p ≠ q) (a b c d : Value) : Box4 (put4 w q a b c d) p A B C D := by
  unfold Box4; rw [put4_other w q p a b c d hne]; exact h
theorem below_put4 {S : Nat} {a w : World} (h : Below S a w) {p : Nat} (hp : S ≤ p) (v0 v1 v2 v3 : Value) : Below S a (put4 w p v0 v1 v2 v3) := by
  unfold put4
  exact (((h.setCell hp _).setCell hp _).setCell hp _).setCell hp _

set_option maxHeartbeats 1000000 in
theorem foretell_any (x0 y0 Xt Yt H xl yl : Nat) (w : World) (hx0 : x0 < 4611686018427387904) (hy0 : y0 < 4611686018427387904) (hX : Hid (Xt = x0 * H + xl)) (hY : Hid (Yt = y0 * H + yl)) (hxl : Hid (xl < H)) (hyl : Hid (yl < H)) :
    Calls Try.prog 89 #[.int .i64 (x0 : Int), .int .i64 (y0 : Int)] w
      fun e w' => (∃ A B C D : Int, e = .returned (.agg #[.int .i64 A, .int .i64 B, .int .i64 C, .int .i64 D]) ∧ Tru Xt Yt A B C D ∧ Sm A B C D) ∧ Below w.heap.size w w' := by
  go_enter Try.func89, Try.ntmps89
  go_wp2
  go_loopw [0, 1] (fun a b wr => ∃ A B C D x y : Int, a = .int .i64 x ∧ b = .int .i64 y ∧ 0 ≤ x ∧ x < 4611686018427387904 ∧ 0 ≤ y ∧ y < 4611686018427387904 ∧
      (-2147483647 ≤ A ∧ A ≤ 2147483647) ∧ (-2147483647 ≤ B ∧ B ≤ 2147483647) ∧ (-2147483647 ≤ C ∧ C ≤ 2147483647) ∧ (-2147483647 ≤ D ∧ D ≤ 2147483647) ∧
      Hid (Leh x0 y0 A B C D x y) ∧ Hid (Tru Xt Yt A B C D) ∧ Box4 wr (w.heap.size + 1) A B C D ∧ Box4 wr w.heap.size 0 0 0 0 ∧ Below w.heap.size w wr) (fun _ b _ => (intOf b).toNat)
  case atStart =>
    refine ⟨1, 0, 0, 1, x0, y0, rfl, rfl, by omega, by omega, by omega, by omega, by omega, by omega, by omega, by omega, hide (Or.inl (Inv1.start _ _ (by omega) (by omega))), hide (Tru.start _ _), ?_, ?_, ?_⟩
    · show ((w.alloc _).alloc _).heap[w.heap.size + 1]? = _
      rw [heap_alloc2_new]
    · show ((w.alloc _).alloc _).heap[w.heap.size]? = _
      rw [(gr_alloc (w.alloc _) _).block w.heap.size (by simp), heap_alloc_new]
    · exact gr_trans (gr_alloc _ _) (gr_alloc _ _)
  case round =>
    obtain ⟨A, B, C, D, x, y, rfl, rfl, hx1, hx2, hy1, hy2, ⟨hA1, hA2⟩, ⟨hB1, hB2⟩, ⟨hC1, hC2⟩, ⟨hD1, hD2⟩, HL, HT, hbx, hbr, hbel⟩ := hrel
    obtain ⟨k0, k1, k2, k3⟩ := hbx.cells
    have f0 := hbx.frozen 0
    have f1 := hbx.frozen 1
    have f2 := hbx.frozen 2
    have f3 := hbx.frozen 3
    obtain ⟨r0, r1, r2, r3⟩ := hbr.cells
    have g0 := hbr.frozen 0
    have g1 := hbr.frozen 1
    have g2 := hbr.frozen 2
    have g3 := hbr.frozen 3
    obtain ⟨_, _, hn1, hn2, hn3, hn4⟩ := (unhide HL).nonneg
    have hSm : Sm A B C D := ⟨⟨hA1, hA2⟩, ⟨hB1, hB2⟩, ⟨hC1, hC2⟩, ⟨hD1, hD2⟩, (unhide HL).signs⟩
    have hend := hbr.set4 A B C D
    obtain ⟨z0, z1, z2, z3⟩ := hend.cells
    have HZ := hide (And.intro z0 (And.intro z1 (And.intro z2 z3)))
    have HE : Hid (Below w.heap.size w (put4 wr w.heap.size (.int .i64 A) (.int .i64 B) (.int .i64 C) (.int .i64 D))) := hide (below_put4 hbel (Nat.le_refl _) _ _ _ _)
    have HSm := hide hSm
    clear z0 z1 z2 z3 hend hSm
    by_cases hyc : y + C = 0
    · have hb1 : (y + C != 0) = false := by simp [hyc]
      clear hyc
      go_wp2
      obtain ⟨z0, z1, z2, z3⟩ := unhide HZ
      unfold put4 at z0 z1 z2 z3
      exact bodyPost_ret (v := .agg #[.int .i64 A, .int .i64 B, .int .i64 C, .int .i64 D]) (by simp [results, Try.results89, go_sem, z0, z1, z2, z3]) rfl ⟨⟨A, B, C, D, rfl, unhide HT, unhide HSm⟩, unhide HE⟩
    · have hb1 : (y + C != 0) = true := by simp [hyc]
      by_cases hyd : y + D = 0
      · have hb2 : (y + D != 0) = false := by simp [hyd]
        clear hyc hyd
        go_wp2
        obtain ⟨z0, z1, z2, z3⟩ := unhide HZ
        unfold put4 at z0 z1 z2 z3
        exact bodyPost_ret (v := .agg #[.int .i64 A, .int .i64 B, .int .i64 C, .int .i64 D]) (by simp [results, Try.results89, go_sem, z0, z1, z2, z3]) rfl ⟨⟨A, B, C, D, rfl, unhide HT, unhide HSm⟩, unhide HE⟩
      · have hb2 : (y + D != 0) = true := by simp [hyd]
        have hp1 : 0 < y + C := by omega
        have hp2 : 0 < y + D := by omega
        clear hyc hyd
        by_cases heq : (x + A) / (y + C) = (x + B) / (y + D)
        · obtain ⟨q, hq⟩ : ∃ q, q = (x + A) / (y + C) := ⟨_, rfl⟩
          have hq1 : (x + A) / (y + C) = q := hq.symm
          have hq2 : (x + B) / (y + D) = q := by rw [← heq, hq]
          have hq0 : 0 ≤ q := by rw [hq]; exact Int.ediv_nonneg hn1 (by omega)
          have e1 : q * (y + C) ≤ x + A := by rw [hq]; exact Int.ediv_mul_le _ (by omega)
          have e2 : x + A < (q + 1) * (y + C) := by rw [hq]; exact Int.lt_ediv_add_one_mul_self _ hp1
          have e3 : q * (y + D) ≤ x + B := by rw [← hq2]; exact Int.ediv_mul_le _ (by omega)
          have e4 : x + B < (q + 1) * (y + D) := by rw [← hq2]; exact Int.lt_ediv_add_one_mul_self _ hp2
          obtain ⟨hL', m1, m2, m3, m4, m5⟩ := (unhide HL).step (by omega) (by omega) hq0 e1 e2 e3 e4
          have hqx : q ≤ x + A := by
            have : q * 1 ≤ q * (y + C) := Int.mul_le_mul_of_nonneg_left (by omega) hq0
            omega
          have hT' : Tru Xt Yt C D (A - q * C) (B - q * D) := by
            have hx := unhide hX
            have hy := unhide hY
            have hxl' := unhide hxl
            have hyl' := unhide hyl
            have := (unhide HL).true (H := H) (xl := xl) (yl := yl) hq0 (by omega) (by omega) (by omega) (by omega) (by omega) e1 e2 e3 e4
            refine (unhide HT).step hq0 ?_ ?_
            · rw [hx, hy]; push_cast; exact this.1
            · rw [hx, hy]; push_cast; exact this.2
          have hyn := hL'.nonneg.2.1
          have hqy0 : 0 ≤ q * y := Int.mul_nonneg hq0 hy1
          obtain ⟨t1, ht1⟩ : ∃ t, q * y = t := ⟨_, rfl⟩
          obtain ⟨t2, ht2⟩ : ∃ t, q * C = t := ⟨_, rfl⟩
          obtain ⟨t3, ht3⟩ : ∃ t, q * D = t := ⟨_, rfl⟩
          rw [ht1] at hL' m5 hyn hqy0
          rw [ht2] at hL' m1 m2 hT'
          rw [ht3] at hL' m3 m4 hT'
          have HL' := hide hL'
          have HT' := hide hT'
          clear hL' hT' e1 e2 e3 e4 heq hq
          go_wp2
          go_roundw
          case rel =>
            exact ⟨C, D, A - t2, B - t3, y, x - t1, rfl, rfl, hy1, hy2, hyn, by omega, ⟨hC1, hC2⟩, ⟨hD1, hD2⟩, ⟨m1, m2⟩, ⟨m3, m4⟩, unhide HL', unhide HT', hbx.set4 C D (A - t2) (B - t3), hbr.other4 (by omega) _ _ _ _, below_put4 hbel (by omega) _ _ _ _⟩
          case measure =>
            simp only [intOf]
            omega
        · have hne : ((x + A) / (y + C) != (x + B) / (y + D)) = true := by simp [heq]
          clear heq
          go_wp2
          obtain ⟨z0, z1, z2, z3⟩ := unhide HZ
          unfold put4 at z0 z1 z2 z3
          exact bodyPost_ret (v := .agg #[.int .i64 A, .int .i64 B, .int .i64 C, .int .i64 D]) (by simp [results, Try.results89, go_sem, z0, z1, z2, z3]) rfl ⟨⟨A, B, C, D, rfl, unhide HT, unhide HSm⟩, unhide HE⟩

end Go.Proofs.Ytkpbgjgebjcfeaa
