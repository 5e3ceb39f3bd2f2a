/- The call stands of the book. -/
import Derived.Test.YtkpbgjgebjcfeaaBook
import Derived.Test.YtkpbgjgebjcfeaaStRows
import Derived.BigQuiet
namespace Go.Proofs.Ytkpbgjgebjcfeaa
open Go.RowKit

/-- What holds in that statement, whatever has come up. -/
structure RS (W : World) (p n gg cg gw cw i : Nat) (a : Option Addr) (k c : Nat) (a' : Option Addr) (k' c' : Nat) (b0 b1 b2 b3 b4 b5 b6 b7 b8 b9 b10 b11 b12 b13 b14 b15 : Bool) (v0 v1 v2 v3 v4 v5 v6 v7 v8 v9 v10 v11 v12 v13 v14 v15 : Value) (w' : World) : Prop where
  bel : Below W.heap.size W w'
  f0 : b0 = true → v0 = .pointer (some ⟨p, 0, none⟩)
  f1 : b1 = true → v1 = .pointer (some ⟨p, 0, none⟩)
  f2 : b2 = true → v2 = .pointer (some ⟨p, 0, none⟩)
  f3 : b3 = true → v3 = .slice (some ⟨gg, 0, none⟩) n cg
  f4 : b4 = true → v4 = .int .i64 (i : Int)
  f5 : b5 = true → v5 = .pointer (some ⟨gg, i, none⟩)
  f6 : b6 = true → v6 = .agg #[.slice a k c]
  f7 : b7 = true → v7 = .pointer (some ⟨p, 0, none⟩)
  f8 : b8 = true → v8 = .pointer (some ⟨p, 0, none⟩)
  f9 : b9 = true → v9 = .pointer (some ⟨p, 1, none⟩)
  f10 : b10 = true → v10 = .slice (some ⟨gw, 0, none⟩) n cw
  f11 : b11 = true → v11 = .int .i64 (i : Int)
  f12 : b12 = true → v12 = .pointer (some ⟨gw, i, none⟩)
  f13 : b13 = true → v13 = .agg #[.slice a' k' c']
  f14 : b14 = true → v14 = .bool true
  f15 : b15 = true → v15 = .bool false

set_option maxHeartbeats 4000000 in
set_option maxRecDepth 10000 in
theorem stands_any (p base n N gg cg gw cw : Nat) (vl : Value) (gs ws : List Value) (w : World) (hB : Bk w p base n (.slice (some ⟨gg, 0, none⟩) n cg) (.slice (some ⟨gw, 0, none⟩) n cw) gs ws) (hn : n ≤ 100) (hp : p < w.heap.size) (hgg : gg < w.heap.size) (hgw : gw < w.heap.size)
    (A : Nat → Option Addr) (L C : Nat → Nat) (hN : N ≤ 100) (hN0 : 0 < N) (hL : ∀ i, i < N → L i ≤ 35184372087808) (hbase : base ≤ w.heap.size)
    (happ : Hid (∀ wr, Below w.heap.size w wr → ∃ g cap W2 X, (Builtin.append_ #[41, 41] 41 #[.slice (some ⟨gg, 0, none⟩) n cg, vl]).run Try.prog wr = .ok (.slice (some ⟨g, 0, none⟩) N cap) W2 ∧ Sts W2 base N g A L C X ∧ Below base w W2))
    (hsame : Hid (∀ i, i < n → ∃ a k c a' k' c' m, gs[i]? = some (.slice a k c) ∧ ws[i]? = some (.slice a' k' c') ∧ Num w a k m ∧ Num w a' k' m)) :
    Calls Try.prog 26 #[.pointer (some ⟨p, 0, none⟩), vl] w fun e w' => e = .returned (.bool true) ∧ Below base w w' := by
  have hb0 : w.cell? ⟨p, 0, none⟩ = some (.slice (some ⟨gg, 0, none⟩) n cg) := by rw [cell_of_row w p 0 _ _ _ hB.bk]; rfl
  have hb1 : w.cell? ⟨p, 1, none⟩ = some (.slice (some ⟨gw, 0, none⟩) n cw) := by rw [cell_of_row w p 1 _ _ _ hB.bk]; rfl
  have hb2 : w.cell? ⟨p, 2, none⟩ = some (.bool false) := by rw [cell_of_row w p 2 _ _ _ hB.bk]; rfl
  have HB := hide hB
  clear hB
  go_enter Try.func26, Try.ntmps26
  go_wp2
  go_loopw [5] (fun s5 wr => ∃ i : Nat, i ≤ n ∧ s5 = .int .i64 (i : Int) ∧ Below w.heap.size w wr) (fun s5 _ => n - (intOf s5).toNat)
  case atStart => exact ⟨0, Nat.zero_le _, rfl, gr_refl _⟩
  case round =>
    obtain ⟨i, hi, rfl, hbel⟩ := hrel
    have hsz := hbel.size
    have hpr : p < wr.heap.size := by omega
    have hgr : gg < wr.heap.size := by omega
    have hwr : gw < wr.heap.size := by omega
    have c0 : wr.cell? ⟨p, 0, none⟩ = some (.slice (some ⟨gg, 0, none⟩) n cg) := (hbel.cell (by exact hp)).trans hb0
    have c1 : wr.cell? ⟨p, 1, none⟩ = some (.slice (some ⟨gw, 0, none⟩) n cw) := (hbel.cell (by exact hp)).trans hb1
    by_cases hin : i < n
    · obtain ⟨a, k, c, a', k', c', m, hgi, hwi, hna, hnb⟩ := unhide hsame i hin
      have d0 : wr.cell? ⟨gg, i, none⟩ = some (.slice a k c) := (hbel.cell (by exact hgg)).trans (((unhide HB).rg.cellAt i (by omega)).trans hgi)
      have d1 : wr.cell? ⟨gw, i, none⟩ = some (.slice a' k' c') := (hbel.cell (by exact hgw)).trans (((unhide HB).rw.cellAt i (by omega)).trans hwi)
      have HN := hide (hna.kept hbel)
      have HN' := hide (hnb.kept hbel)
      clear hna hnb
      go_wp2_with fail
      refine wp_region_any (by kernel_rfl) ?_
      refine wpAny_inv (fun l act w' => ∃ (b0 b1 b2 b3 b4 b5 b6 b7 b8 b9 b10 b11 b12 b13 b14 b15 : Bool) (v0 v1 v2 v3 v4 v5 v6 v7 v8 v9 v10 v11 v12 v13 v14 v15 : Value), l = #[b0, b1, b2, b3, b4, b5, b6, b7, b8, b9, b10, b11, b12, b13, b14, b15] ∧ act = { tmps := #[Value.pointer (some ⟨p, 0, none⟩), vl, undef, undef, u4, Value.int IntKind.i64 (i : Int), undef, undef, undef, undef, undef, undef, undef, undef, undef, undef, undef, Value.pointer (some ⟨p, 0, none⟩), Value.pointer (some ⟨p, 0, none⟩), Value.pointer (some ⟨p, 2, none⟩), Value.bool false, Value.int IntKind.i64 (i : Int), Value.pointer (some ⟨p, 0, none⟩), Value.pointer (some ⟨p, 0, none⟩), Value.pointer (some ⟨p, 0, none⟩), Value.slice (some ⟨gg, 0, none⟩) n cg, Value.int IntKind.i64 (n : Int), Value.bool true, u28, u29, v0, v1, v2, v3, v4, v5, v6, v7, v8, v9, v10, v11, v12, v13, v14, v15, undef, undef, undef, undef, undef, undef, undef, undef, undef, undef, undef, undef, undef, undef, undef, undef, undef, undef, undef, undef, undef, undef, undef, undef, undef, undef, undef, undef, undef, undef, undef, undef, undef, undef, undef, undef, undef, undef, undef, undef, undef, undef, undef, undef, undef, undef, undef, undef, undef, undef, undef, undef, undef, undef, undef, undef, undef, undef, undef, undef, undef, undef, undef, undef, undef, undef, undef, undef, undef, undef, undef, undef, undef, undef, undef, undef, undef, undef, undef, undef, undef, undef, undef, undef, undef, undef, undef, undef, undef, undef, undef, undef, undef, undef, undef, undef, undef, undef, undef, undef, undef, undef, undef, undef, undef, undef, undef, undef, undef, undef, undef, undef, undef, undef, undef, undef, undef, undef, undef, undef, undef, undef, undef, undef, undef, undef, undef, undef, undef, undef, undef, undef, undef], defers := [] } ∧ RS wr p n gg cg gw cw i a k c a' k' c' b0 b1 b2 b3 b4 b5 b6 b7 b8 b9 b10 b11 b12 b13 b14 b15 v0 v1 v2 v3 v4 v5 v6 v7 v8 v9 v10 v11 v12 v13 v14 v15 w') ?_ ?_ _ _ _ _ ?_ ?_
      · rintro l act w' i9 ⟨b0, b1, b2, b3, b4, b5, b6, b7, b8, b9, b10, b11, b12, b13, b14, b15, v0, v1, v2, v3, v4, v5, v6, v7, v8, v9, v10, v11, v12, v13, v14, v15, rfl, rfl, hR⟩ hi9 hl9
        have hin9 : i9 < 16 := by
          by_cases h : i9 < 16
          · exact h
          · rw [Array.getElem?_eq_none (by simp; omega)] at hl9; cases hl9
        have hcase : i9 = 0 ∨ i9 = 1 ∨ i9 = 2 ∨ i9 = 3 ∨ i9 = 4 ∨ i9 = 5 ∨ i9 = 6 ∨ i9 = 7 ∨ i9 = 8 ∨ i9 = 9 ∨ i9 = 10 ∨ i9 = 11 ∨ i9 = 12 ∨ i9 = 13 ∨ i9 = 14 ∨ i9 = 15 := by omega
        clear hin9
        rcases hcase with rfl | rfl | rfl | rfl | rfl | rfl | rfl | rfl | rfl | rfl | rfl | rfl | rfl | rfl | rfl | rfl
        · refine wpOp_step rfl (fun K hK => ?_)
          go_simp
          exact hK _ _ ⟨true, b1, b2, b3, b4, b5, b6, b7, b8, b9, b10, b11, b12, b13, b14, b15, _, v1, v2, v3, v4, v5, v6, v7, v8, v9, v10, v11, v12, v13, v14, v15, rfl, rfl, ⟨hR.bel, fun _ => rfl, hR.f1, hR.f2, hR.f3, hR.f4, hR.f5, hR.f6, hR.f7, hR.f8, hR.f9, hR.f10, hR.f11, hR.f12, hR.f13, hR.f14, hR.f15⟩⟩
        · obtain ⟨o9, ho9, hd9⟩ := (mem_ready.1 hi9).2
          cases ho9
          have e0 : b0 = true := hd9 ⟨0, .data⟩ (by simp) rfl
          clear hd9
          obtain rfl := hR.f0 e0
          refine wpOp_step rfl (fun K hK => ?_)
          go_simp
          exact hK _ _ ⟨b0, true, b2, b3, b4, b5, b6, b7, b8, b9, b10, b11, b12, b13, b14, b15, _, _, v2, v3, v4, v5, v6, v7, v8, v9, v10, v11, v12, v13, v14, v15, rfl, rfl, ⟨hR.bel, hR.f0, fun _ => rfl, hR.f2, hR.f3, hR.f4, hR.f5, hR.f6, hR.f7, hR.f8, hR.f9, hR.f10, hR.f11, hR.f12, hR.f13, hR.f14, hR.f15⟩⟩
        · obtain ⟨o9, ho9, hd9⟩ := (mem_ready.1 hi9).2
          cases ho9
          have e1 : b1 = true := hd9 ⟨1, .data⟩ (by simp) rfl
          clear hd9
          obtain rfl := hR.f1 e1
          refine wpOp_step rfl (fun K hK => ?_)
          go_simp
          exact hK _ _ ⟨b0, b1, true, b3, b4, b5, b6, b7, b8, b9, b10, b11, b12, b13, b14, b15, v0, _, _, v3, v4, v5, v6, v7, v8, v9, v10, v11, v12, v13, v14, v15, rfl, rfl, ⟨hR.bel, hR.f0, hR.f1, fun _ => rfl, hR.f3, hR.f4, hR.f5, hR.f6, hR.f7, hR.f8, hR.f9, hR.f10, hR.f11, hR.f12, hR.f13, hR.f14, hR.f15⟩⟩
        · obtain ⟨o9, ho9, hd9⟩ := (mem_ready.1 hi9).2
          cases ho9
          have e2 : b2 = true := hd9 ⟨2, .data⟩ (by simp) rfl
          clear hd9
          obtain rfl := hR.f2 e2
          have hc9 : w'.cell? ⟨p, 0, none⟩ = _ := (hR.bel.cell (by exact hpr)).trans c0
          refine wpOp_step rfl (fun K hK => ?_)
          go_simp
          exact hK _ _ ⟨b0, b1, b2, true, b4, b5, b6, b7, b8, b9, b10, b11, b12, b13, b14, b15, v0, v1, _, _, v4, v5, v6, v7, v8, v9, v10, v11, v12, v13, v14, v15, rfl, rfl, ⟨hR.bel, hR.f0, hR.f1, hR.f2, fun _ => rfl, hR.f4, hR.f5, hR.f6, hR.f7, hR.f8, hR.f9, hR.f10, hR.f11, hR.f12, hR.f13, hR.f14, hR.f15⟩⟩
        · refine wpOp_step rfl (fun K hK => ?_)
          go_simp
          exact hK _ _ ⟨b0, b1, b2, b3, true, b5, b6, b7, b8, b9, b10, b11, b12, b13, b14, b15, v0, v1, v2, v3, _, v5, v6, v7, v8, v9, v10, v11, v12, v13, v14, v15, rfl, rfl, ⟨hR.bel, hR.f0, hR.f1, hR.f2, hR.f3, fun _ => rfl, hR.f5, hR.f6, hR.f7, hR.f8, hR.f9, hR.f10, hR.f11, hR.f12, hR.f13, hR.f14, hR.f15⟩⟩
        · obtain ⟨o9, ho9, hd9⟩ := (mem_ready.1 hi9).2
          cases ho9
          have e3 : b3 = true := hd9 ⟨3, .data⟩ (by simp) rfl
          have e4 : b4 = true := hd9 ⟨4, .data⟩ (by simp) rfl
          clear hd9
          obtain rfl := hR.f3 e3
          obtain rfl := hR.f4 e4
          refine wpOp_step rfl (fun K hK => ?_)
          go_simp
          exact hK _ _ ⟨b0, b1, b2, b3, b4, true, b6, b7, b8, b9, b10, b11, b12, b13, b14, b15, v0, v1, v2, _, _, _, v6, v7, v8, v9, v10, v11, v12, v13, v14, v15, rfl, rfl, ⟨hR.bel, hR.f0, hR.f1, hR.f2, hR.f3, hR.f4, fun _ => rfl, hR.f6, hR.f7, hR.f8, hR.f9, hR.f10, hR.f11, hR.f12, hR.f13, hR.f14, hR.f15⟩⟩
        · obtain ⟨o9, ho9, hd9⟩ := (mem_ready.1 hi9).2
          cases ho9
          have e5 : b5 = true := hd9 ⟨5, .data⟩ (by simp) rfl
          clear hd9
          obtain rfl := hR.f5 e5
          have hc9 : w'.cell? ⟨gg, i, none⟩ = _ := (hR.bel.cell (by exact hgr)).trans d0
          refine wpOp_step rfl (fun K hK => ?_)
          go_simp
          exact hK _ _ ⟨b0, b1, b2, b3, b4, b5, true, b7, b8, b9, b10, b11, b12, b13, b14, b15, v0, v1, v2, v3, v4, _, _, v7, v8, v9, v10, v11, v12, v13, v14, v15, rfl, rfl, ⟨hR.bel, hR.f0, hR.f1, hR.f2, hR.f3, hR.f4, hR.f5, fun _ => rfl, hR.f7, hR.f8, hR.f9, hR.f10, hR.f11, hR.f12, hR.f13, hR.f14, hR.f15⟩⟩
        · refine wpOp_step rfl (fun K hK => ?_)
          go_simp
          exact hK _ _ ⟨b0, b1, b2, b3, b4, b5, b6, true, b8, b9, b10, b11, b12, b13, b14, b15, v0, v1, v2, v3, v4, v5, v6, _, v8, v9, v10, v11, v12, v13, v14, v15, rfl, rfl, ⟨hR.bel, hR.f0, hR.f1, hR.f2, hR.f3, hR.f4, hR.f5, hR.f6, fun _ => rfl, hR.f8, hR.f9, hR.f10, hR.f11, hR.f12, hR.f13, hR.f14, hR.f15⟩⟩
        · obtain ⟨o9, ho9, hd9⟩ := (mem_ready.1 hi9).2
          cases ho9
          have e7 : b7 = true := hd9 ⟨7, .data⟩ (by simp) rfl
          clear hd9
          obtain rfl := hR.f7 e7
          refine wpOp_step rfl (fun K hK => ?_)
          go_simp
          exact hK _ _ ⟨b0, b1, b2, b3, b4, b5, b6, b7, true, b9, b10, b11, b12, b13, b14, b15, v0, v1, v2, v3, v4, v5, v6, _, _, v9, v10, v11, v12, v13, v14, v15, rfl, rfl, ⟨hR.bel, hR.f0, hR.f1, hR.f2, hR.f3, hR.f4, hR.f5, hR.f6, hR.f7, fun _ => rfl, hR.f9, hR.f10, hR.f11, hR.f12, hR.f13, hR.f14, hR.f15⟩⟩
        · obtain ⟨o9, ho9, hd9⟩ := (mem_ready.1 hi9).2
          cases ho9
          have e8 : b8 = true := hd9 ⟨8, .data⟩ (by simp) rfl
          clear hd9
          obtain rfl := hR.f8 e8
          refine wpOp_step rfl (fun K hK => ?_)
          go_simp
          exact hK _ _ ⟨b0, b1, b2, b3, b4, b5, b6, b7, b8, true, b10, b11, b12, b13, b14, b15, v0, v1, v2, v3, v4, v5, v6, v7, _, _, v10, v11, v12, v13, v14, v15, rfl, rfl, ⟨hR.bel, hR.f0, hR.f1, hR.f2, hR.f3, hR.f4, hR.f5, hR.f6, hR.f7, hR.f8, fun _ => rfl, hR.f10, hR.f11, hR.f12, hR.f13, hR.f14, hR.f15⟩⟩
        · obtain ⟨o9, ho9, hd9⟩ := (mem_ready.1 hi9).2
          cases ho9
          have e9 : b9 = true := hd9 ⟨9, .data⟩ (by simp) rfl
          clear hd9
          obtain rfl := hR.f9 e9
          have hc9 : w'.cell? ⟨p, 1, none⟩ = _ := (hR.bel.cell (by exact hpr)).trans c1
          refine wpOp_step rfl (fun K hK => ?_)
          go_simp
          exact hK _ _ ⟨b0, b1, b2, b3, b4, b5, b6, b7, b8, b9, true, b11, b12, b13, b14, b15, v0, v1, v2, v3, v4, v5, v6, v7, v8, _, _, v11, v12, v13, v14, v15, rfl, rfl, ⟨hR.bel, hR.f0, hR.f1, hR.f2, hR.f3, hR.f4, hR.f5, hR.f6, hR.f7, hR.f8, hR.f9, fun _ => rfl, hR.f11, hR.f12, hR.f13, hR.f14, hR.f15⟩⟩
        · refine wpOp_step rfl (fun K hK => ?_)
          go_simp
          exact hK _ _ ⟨b0, b1, b2, b3, b4, b5, b6, b7, b8, b9, b10, true, b12, b13, b14, b15, v0, v1, v2, v3, v4, v5, v6, v7, v8, v9, v10, _, v12, v13, v14, v15, rfl, rfl, ⟨hR.bel, hR.f0, hR.f1, hR.f2, hR.f3, hR.f4, hR.f5, hR.f6, hR.f7, hR.f8, hR.f9, hR.f10, fun _ => rfl, hR.f12, hR.f13, hR.f14, hR.f15⟩⟩
        · obtain ⟨o9, ho9, hd9⟩ := (mem_ready.1 hi9).2
          cases ho9
          have e10 : b10 = true := hd9 ⟨10, .data⟩ (by simp) rfl
          have e11 : b11 = true := hd9 ⟨11, .data⟩ (by simp) rfl
          clear hd9
          obtain rfl := hR.f10 e10
          obtain rfl := hR.f11 e11
          refine wpOp_step rfl (fun K hK => ?_)
          go_simp
          exact hK _ _ ⟨b0, b1, b2, b3, b4, b5, b6, b7, b8, b9, b10, b11, true, b13, b14, b15, v0, v1, v2, v3, v4, v5, v6, v7, v8, v9, _, _, _, v13, v14, v15, rfl, rfl, ⟨hR.bel, hR.f0, hR.f1, hR.f2, hR.f3, hR.f4, hR.f5, hR.f6, hR.f7, hR.f8, hR.f9, hR.f10, hR.f11, fun _ => rfl, hR.f13, hR.f14, hR.f15⟩⟩
        · obtain ⟨o9, ho9, hd9⟩ := (mem_ready.1 hi9).2
          cases ho9
          have e12 : b12 = true := hd9 ⟨12, .data⟩ (by simp) rfl
          clear hd9
          obtain rfl := hR.f12 e12
          have hc9 : w'.cell? ⟨gw, i, none⟩ = _ := (hR.bel.cell (by exact hwr)).trans d1
          refine wpOp_step rfl (fun K hK => ?_)
          go_simp
          exact hK _ _ ⟨b0, b1, b2, b3, b4, b5, b6, b7, b8, b9, b10, b11, b12, true, b14, b15, v0, v1, v2, v3, v4, v5, v6, v7, v8, v9, v10, v11, _, _, v14, v15, rfl, rfl, ⟨hR.bel, hR.f0, hR.f1, hR.f2, hR.f3, hR.f4, hR.f5, hR.f6, hR.f7, hR.f8, hR.f9, hR.f10, hR.f11, hR.f12, fun _ => rfl, hR.f14, hR.f15⟩⟩
        · obtain ⟨o9, ho9, hd9⟩ := (mem_ready.1 hi9).2
          cases ho9
          have e6 : b6 = true := hd9 ⟨6, .data⟩ (by simp) rfl
          have e13 : b13 = true := hd9 ⟨13, .data⟩ (by simp) rfl
          clear hd9
          obtain rfl := hR.f6 e6
          obtain rfl := hR.f13 e13
          refine wpOp_step rfl (fun K hK => ?_)
          go_simp
          go_wp2_with fail
          refine (same_any a a' k k' c c' m m _ ((unhide HN).kept hR.bel) ((unhide HN').kept hR.bel)).mono ?_
          rintro e w9 ⟨rfl, hb9⟩
          exact hK _ _ ⟨b0, b1, b2, b3, b4, b5, b6, b7, b8, b9, b10, b11, b12, b13, true, b15, v0, v1, v2, v3, v4, v5, _, v7, v8, v9, v10, v11, v12, _, _, v15, rfl, rfl, ⟨gr_trans hR.bel hb9, hR.f0, hR.f1, hR.f2, hR.f3, hR.f4, hR.f5, hR.f6, hR.f7, hR.f8, hR.f9, hR.f10, hR.f11, hR.f12, hR.f13, fun _ => by simp, hR.f15⟩⟩
        · obtain ⟨o9, ho9, hd9⟩ := (mem_ready.1 hi9).2
          cases ho9
          have e14 : b14 = true := hd9 ⟨14, .data⟩ (by simp) rfl
          clear hd9
          obtain rfl := hR.f14 e14
          refine wpOp_step rfl (fun K hK => ?_)
          go_simp
          exact hK _ _ ⟨b0, b1, b2, b3, b4, b5, b6, b7, b8, b9, b10, b11, b12, b13, b14, true, v0, v1, v2, v3, v4, v5, v6, v7, v8, v9, v10, v11, v12, v13, _, _, rfl, rfl, ⟨hR.bel, hR.f0, hR.f1, hR.f2, hR.f3, hR.f4, hR.f5, hR.f6, hR.f7, hR.f8, hR.f9, hR.f10, hR.f11, hR.f12, hR.f13, hR.f14, fun _ => rfl⟩⟩
      · rintro l act w' ⟨b0, b1, b2, b3, b4, b5, b6, b7, b8, b9, b10, b11, b12, b13, b14, b15, v0, v1, v2, v3, v4, v5, v6, v7, v8, v9, v10, v11, v12, v13, v14, v15, rfl, rfl, hR⟩ hr9
        have e0 : b0 = true := ready_nil (i := 0) hr9 rfl (by intro e he hb; simp at he; (try (repeat' (rcases he with rfl | he))); all_goals (first | assumption | (exact absurd hb (by decide))))
        have e1 : b1 = true := ready_nil (i := 1) hr9 rfl (by intro e he hb; simp at he; (try (repeat' (rcases he with rfl | he))); all_goals (first | assumption | (exact absurd hb (by decide))))
        have e2 : b2 = true := ready_nil (i := 2) hr9 rfl (by intro e he hb; simp at he; (try (repeat' (rcases he with rfl | he))); all_goals (first | assumption | (exact absurd hb (by decide))))
        have e3 : b3 = true := ready_nil (i := 3) hr9 rfl (by intro e he hb; simp at he; (try (repeat' (rcases he with rfl | he))); all_goals (first | assumption | (exact absurd hb (by decide))))
        have e4 : b4 = true := ready_nil (i := 4) hr9 rfl (by intro e he hb; simp at he; (try (repeat' (rcases he with rfl | he))); all_goals (first | assumption | (exact absurd hb (by decide))))
        have e5 : b5 = true := ready_nil (i := 5) hr9 rfl (by intro e he hb; simp at he; (try (repeat' (rcases he with rfl | he))); all_goals (first | assumption | (exact absurd hb (by decide))))
        have e6 : b6 = true := ready_nil (i := 6) hr9 rfl (by intro e he hb; simp at he; (try (repeat' (rcases he with rfl | he))); all_goals (first | assumption | (exact absurd hb (by decide))))
        have e7 : b7 = true := ready_nil (i := 7) hr9 rfl (by intro e he hb; simp at he; (try (repeat' (rcases he with rfl | he))); all_goals (first | assumption | (exact absurd hb (by decide))))
        have e8 : b8 = true := ready_nil (i := 8) hr9 rfl (by intro e he hb; simp at he; (try (repeat' (rcases he with rfl | he))); all_goals (first | assumption | (exact absurd hb (by decide))))
        have e9 : b9 = true := ready_nil (i := 9) hr9 rfl (by intro e he hb; simp at he; (try (repeat' (rcases he with rfl | he))); all_goals (first | assumption | (exact absurd hb (by decide))))
        have e10 : b10 = true := ready_nil (i := 10) hr9 rfl (by intro e he hb; simp at he; (try (repeat' (rcases he with rfl | he))); all_goals (first | assumption | (exact absurd hb (by decide))))
        have e11 : b11 = true := ready_nil (i := 11) hr9 rfl (by intro e he hb; simp at he; (try (repeat' (rcases he with rfl | he))); all_goals (first | assumption | (exact absurd hb (by decide))))
        have e12 : b12 = true := ready_nil (i := 12) hr9 rfl (by intro e he hb; simp at he; (try (repeat' (rcases he with rfl | he))); all_goals (first | assumption | (exact absurd hb (by decide))))
        have e13 : b13 = true := ready_nil (i := 13) hr9 rfl (by intro e he hb; simp at he; (try (repeat' (rcases he with rfl | he))); all_goals (first | assumption | (exact absurd hb (by decide))))
        have e14 : b14 = true := ready_nil (i := 14) hr9 rfl (by intro e he hb; simp at he; (try (repeat' (rcases he with rfl | he))); all_goals (first | assumption | (exact absurd hb (by decide))))
        have e15 : b15 = true := ready_nil (i := 15) hr9 rfl (by intro e he hb; simp at he; (try (repeat' (rcases he with rfl | he))); all_goals (first | assumption | (exact absurd hb (by decide))))
        subst e0 e1 e2 e3 e4 e5 e6 e7 e8 e9 e10 e11 e12 e13 e14 e15
        have h9 := (hR.f0 rfl).symm
        subst h9
        have h9 := (hR.f1 rfl).symm
        subst h9
        have h9 := (hR.f2 rfl).symm
        subst h9
        have h9 := (hR.f3 rfl).symm
        subst h9
        have h9 := (hR.f4 rfl).symm
        subst h9
        have h9 := (hR.f5 rfl).symm
        subst h9
        have h9 := (hR.f6 rfl).symm
        subst h9
        have h9 := (hR.f7 rfl).symm
        subst h9
        have h9 := (hR.f8 rfl).symm
        subst h9
        have h9 := (hR.f9 rfl).symm
        subst h9
        have h9 := (hR.f10 rfl).symm
        subst h9
        have h9 := (hR.f11 rfl).symm
        subst h9
        have h9 := (hR.f12 rfl).symm
        subst h9
        have h9 := (hR.f13 rfl).symm
        subst h9
        have h9 := (hR.f14 rfl).symm
        subst h9
        have h9 := (hR.f15 rfl).symm
        subst h9
        have hbel9 := hR.bel
        clear hr9 hR
        go_wp2
        go_roundw
        case rel => exact ⟨i + 1, by omega, by go_num, gr_trans hbel hbel9⟩
        case measure => simp [intOf]; omega
      · simp
      · refine ⟨false, false, false, false, false, false, false, false, false, false, false, false, false, false, false, false, u30, u31, u32, u33, u34, u35, u36, u37, u38, u39, u40, u41, u42, u43, u44, u45, rfl, rfl, ?_⟩
        constructor
        · exact (gr_refl _).drew
        all_goals (intro h; cases h)
    · obtain ⟨g, cap, W2, X, hrun, hS0, hB2⟩ := unhide happ wr hbel
      have HS0 := hide (And.intro hS0 hB2)
      clear hS0 hB2 hb0 hb1 hb2 hsame happ HB hp hgg hgw hsz hpr hgr hwr
      have hni : ¬ ((i : Int) < (n : Int)) := by omega
      go_wp2_with (at_builtin; refine wpList_append_run rfl (.tmp 49) (.tmp 50) 41 rfl hrun ?_)
      clear hrun c0 c1 hbel hin hni
      go_loopw [7] (fun s7 wr2 => ∃ (i : Nat) (X : Nat → List Nat), i ≤ N ∧ s7 = .int .i64 (i : Int) ∧ Hid (Sts wr2 base N g A L C X ∧ (∀ j, j < i → X j = fl j (L j)) ∧ Below base w wr2)) (fun s7 _ => N - (intOf s7).toNat)
      case atStart => exact ⟨0, X, Nat.zero_le _, rfl, hide ⟨(unhide HS0).1, fun j hj => absurd hj (by omega), (unhide HS0).2⟩⟩
      case round =>
        clear HS0
        obtain ⟨i, X, hi, rfl, HS⟩ := hrel
        by_cases hin : i < N
        · go_wp2
          go_loopw [8] (fun s8 wr3 => ∃ (k : Nat) (X : Nat → List Nat), k ≤ L i ∧ s8 = .int .i64 (k : Int) ∧ Hid (Sts wr3 base N g A L C X ∧ (∀ j, j < i → X j = fl j (L j)) ∧ (X i).take k = (fl i (L i)).take k ∧ Below base w wr3)) (fun s8 _ => L i - (intOf s8).toNat)
          case atStart => exact ⟨0, X, Nat.zero_le _, rfl, hide ⟨(unhide HS).1, (unhide HS).2.1, rfl, (unhide HS).2.2⟩⟩
          case round =>
            clear HS
            obtain ⟨k, X, hk, rfl, HS⟩ := hrel
            have hLi := hL i hin
            have cgi := (unhide HS).1.cell i hin
            by_cases hkl : k < L i
            · obtain ⟨b, hA, hb1, hb2, hcb, hfb⟩ := ((unhide HS).1.own i hin).open (by omega)
              rw [hA] at cgi
              have hck := hcb k hkl
              have hfk := hfb k
              clear hcb hfb
              have hxl := ((unhide HS).1.own i hin).len
              have e1 : (1000 * (i : Int) + (k : Int) % 1000) = ((1000 * i + k % 1000 : Nat) : Int) := by omega
              have HE := hide e1
              clear e1
              go_wp2
              go_roundw
              case rel =>
                rw [unhide HE]
                obtain ⟨h1, h2, h3, h4⟩ := unhide HS
                refine ⟨k + 1, _, by omega, by go_num, hide ⟨h1.put (z := 1000 * i + k % 1000) hin hA hkl, fun j hj => ?_, ?_, h4.setCell hb1 _⟩⟩
                · rw [if_neg (by omega)]; exact h2 j hj
                · rw [if_pos rfl]
                  exact set_take (by omega) (by rw [hxl, fl_len]) h3 (fl_at _ _ _ hkl).symm
              case measure => simp [intOf]; omega
            · have hke : k = L i := by omega
              subst hke
              have HX : Hid (Sts wr base N g A L C X ∧ (∀ j, j < i + 1 → X j = fl j (L j)) ∧ Below base w wr) := by
                obtain ⟨h1, h2, h3, h4⟩ := unhide HS
                refine hide ⟨h1, fun j hj => ?_, h4⟩
                by_cases hji : j = i
                · subst hji
                  have := (h1.own j hin).len
                  rwa [List.take_of_length_le (by omega), List.take_of_length_le (by rw [fl_len]; omega)] at h3
                · exact h2 j (by omega)
              clear HS
              go_wp2
              go_roundw
              case rel => exact ⟨i + 1, X, by omega, by go_num, HX⟩
              case measure => simp [intOf]; omega
        · have hie : i = N := by omega
          subst hie
          have HG : Hid (∃ G, Gst wr base i g A L C 0 G (.slice none 0 0) ∧ Below base w wr) := by
            obtain ⟨h1, h2, h3⟩ := unhide HS
            refine hide ⟨fun _ => .slice none 0 0, ⟨⟨h1.row, fun j hj => by have := h1.own j hj; rw [h2 j hj] at this; exact this, h1.ap⟩, fun j hj => absurd hj (by omega), fun j k hj => absurd hj (by omega), fun j k hj => absurd hj (by omega), World.ownsRow_nil _ _ _ _⟩, h3⟩
          clear HS
          go_wp2
          go_loopw [9, 10] (fun s9 s10 wr2 => ∃ (j : Nat), j ≤ i ∧ s10 = .int .i64 (j : Int) ∧ Hid (∃ G, Gst wr2 base i g A L C j G s9 ∧ Below base w wr2)) (fun _ s10 _ => i - (intOf s10).toNat)
          case atStart => exact ⟨0, Nat.zero_le _, rfl, HG⟩
          case round =>
            clear HG
            obtain ⟨j, hj, rfl, HG⟩ := hrel
            by_cases hji : j < i
            · obtain ⟨G, hG, hBw⟩ := unhide HG
              have cgi := hG.sts.cell j hji
              have HG1 := hide (Gst1.start hG hji)
              have HBw := hide hBw
              clear HG hG hBw
              go_wp2
              go_loopw [11, 12] (fun s11 s12 wr3 => ∃ (k : Nat), k ≤ 40 ∧ s12 = .int .i64 (k : Int) ∧ Hid (Gst1 wr3 base i g A L C j G u9 k s11 ∧ Below base w wr3)) (fun _ s12 _ => 40 - (intOf s12).toNat)
              case atStart => exact ⟨0, Nat.zero_le _, rfl, hide ⟨unhide HG1, unhide HBw⟩⟩
              case round =>
                clear HG1 HBw
                obtain ⟨k, hk, rfl, HG⟩ := hrel
                obtain ⟨hG, hBw⟩ := unhide HG
                obtain ⟨a, m, c, rfl⟩ := hG.own.slice
                have hml := hG.own.len
                rw [List.length_append, fl_len, tl_len] at hml
                have hLj := hL j hji
                have hbw : base ≤ wr.heap.size := by have := hBw.size; omega
                by_cases hk4 : k < 40
                · obtain ⟨a', m', c', W', hrun, hG', hB'⟩ := hG.step hji hbw (by omega)
                  have e1 : (900000 + 1000 * (j : Int) + (k : Int)) = ((900000 + 1000 * j + k : Nat) : Int) := by omega
                  rw [← e1] at hrun
                  have HG' := hide (And.intro hG' (hBw.trans hB'))
                  clear HG hG hBw hG' hB' e1 hml
                  go_wp2_with (at_builtin; refine wpList_append_run rfl (.tmp 96) (.tmp 103) 22 rfl hrun ?_)
                  go_roundw
                  case rel => exact ⟨k + 1, by omega, by go_num, HG'⟩
                  case measure => simp [intOf]; omega
                · obtain rfl : k = 40 := by omega
                  obtain ⟨v', W', G', hrun, hG', hB'⟩ := hG.close hji hN hbw
                  have HG' : Hid (∃ G, Gst W' base i g A L C (j + 1) G v' ∧ Below base w W') := hide ⟨G', hG', hBw.trans hB'⟩
                  clear HG hG hBw hG' hB' hml
                  go_wp2_with (at_builtin; refine wpList_append_run rfl (.tmp 105) (.tmp 107) 75 rfl hrun ?_)
                  go_roundw
                  case rel => exact ⟨j + 1, by omega, by go_num, HG'⟩
                  case measure => simp [intOf]; omega
            · obtain rfl : j = i := by omega
              obtain ⟨G, hG, hBw⟩ := unhide HG
              obtain ⟨q, cq, rfl, hR⟩ := hG.read hN0
              have HR := hide (And.intro hR hBw)
              clear HG hG hBw hR
              go_wp2
              go_loopw [13] (fun s13 wr2 => ∃ (i : Nat), i ≤ j ∧ s13 = .int .i64 (i : Int) ∧ Hid (Rd wr2 j g q A L C ∧ Below base w wr2)) (fun s13 _ => j - (intOf s13).toNat)
              case atStart => exact ⟨0, Nat.zero_le _, rfl, HR⟩
              case round =>
                clear HR
                obtain ⟨i, hi, rfl, HR⟩ := hrel
                by_cases hij : i < j
                · have hLi := hL i hij
                  have cgi : wr.cell? ⟨g, i, none⟩ = some (.slice (A i) (L i) (C i)) := by
                    obtain ⟨b, cb, _, _, _, h4, _⟩ := (unhide HR).1 i hij
                    exact h4
                  go_wp2
                  clear cgi
                  go_loopw [15] (fun s15 wr2 => ∃ (k : Nat), k ≤ L i ∧ s15 = .int .i64 (k : Int) ∧ Hid (Rd wr2 j g q A L C ∧ Below base w wr2)) (fun s15 _ => L i - (intOf s15).toNat)
                  case atStart => exact ⟨0, Nat.zero_le _, rfl, HR⟩
                  case round =>
                    clear HR
                    obtain ⟨k, hk, rfl, HR⟩ := hrel
                    obtain ⟨b, cb, cq1, cb1, cb2, cg1, hd⟩ := (unhide HR).1 i hij
                    by_cases hkl : k < L i
                    · obtain ⟨d, hA, hcd⟩ := hd (by omega)
                      rw [hA] at cg1
                      have x1 := cb1 k hkl
                      have x2 := hcd k hkl
                      have e1 : ((1000 * i + k % 1000 : Nat) : Int) = 1000 * (i : Int) + (k : Int) % 1000 := by omega
                      rw [e1] at x1 x2
                      clear cb1 cb2 hcd e1 hd
                      go_wp2_with fail
                      go_quiet (fail)
                      have HR2 : Hid (Rd (wr.drewN nq) j g q A L C ∧ Below base w (wr.drewN nq)) := hide ⟨(unhide HR).1.drewN nq, below_drewN (unhide HR).2 nq⟩
                      generalize wr.drewN nq = wq at *
                      clear x1 x2 cg1 cq1 HR
                      go_wp2
                      go_roundw
                      case rel => exact ⟨k + 1, by omega, by go_num, HR2⟩
                      case measure => simp [intOf]; omega
                    · obtain rfl : k = L i := by omega
                      clear cq1 cb1 cb2 cg1 hd b cb
                      go_wp2
                      go_loopw [16] (fun s16 wr2 => ∃ (k : Nat), k ≤ 40 ∧ s16 = .int .i64 (k : Int) ∧ Hid (Rd wr2 j g q A L C ∧ Below base w wr2)) (fun s16 _ => 40 - (intOf s16).toNat)
                      case atStart => exact ⟨0, Nat.zero_le _, rfl, HR⟩
                      case round =>
                        clear HR
                        obtain ⟨k, hk, rfl, HR⟩ := hrel
                        by_cases hk4 : k < 40
                        · obtain ⟨b, cb, cq1, cb1, cb2, cg1, hd⟩ := (unhide HR).1 i hij
                          have x1 := cb2 k hk4
                          have e1 : ((900000 + 1000 * i + k : Nat) : Int) = 900000 + 1000 * (i : Int) + (k : Int) := by omega
                          rw [e1] at x1
                          clear cb1 cb2 e1 hd cg1
                          go_wp2
                          go_roundw
                          case rel => exact ⟨k + 1, by omega, by go_num, HR⟩
                          case measure => simp [intOf]; omega
                        · obtain rfl : k = 40 := by omega
                          go_wp2
                          go_roundw
                          case rel => exact ⟨i + 1, by omega, by go_num, HR⟩
                          case measure => simp [intOf]; omega
                · go_wp2
                  go_ret
                  exact ⟨rfl, (unhide HR).2⟩

end Go.Proofs.Ytkpbgjgebjcfeaa
