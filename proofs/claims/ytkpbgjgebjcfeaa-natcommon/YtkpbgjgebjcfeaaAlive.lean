/- The statement's own look at the program, alive, answers true. -/
import Derived.Test.YtkpbgjgebjcfeaaPow
import Derived.Test.YtkpbgjgebjcfeaaText
import Derived.Test.YtkpbgjgebjcfeaaDiv
import Derived.Test.YtkpbgjgebjcfeaaLow
import Derived.Test.YtkpbgjgebjcfeaaRegInv
namespace Go.Proofs.Ytkpbgjgebjcfeaa
open Go.RowKit

theorem over_not {m k : Nat} (hk : k ≤ Pl.top) (h : m < 4294967296 ^ k) : ¬ Over m := fun o => by
  have := o.le
  have := Pl.pow_le hk
  omega

/-- An answer within the limit. -/
theorem Ans.ok {w : World} {base : Nat} {e : Ending} {m : Nat} (h : Ans w base e m) (hn : ¬ Over m) : ∃ a n cap, e = .returned (.tuple #[.agg #[.slice a n cap], .int .i64 0]) ∧ Mine w base a n cap m := by
  rcases h with h | ⟨_, h⟩
  · exact h
  · exact absurd h hn

theorem Num.one {w : World} {a : Option Addr} {n m : Nat} (h : Num w a n m) (h0 : 0 < m) (h1 : m < 4294967296) : n = 1 := by
  have hz := h.zero
  obtain ⟨xs, hn, _, hw, hN, hv, _⟩ := h
  have := (Pl.val_le_len hw hN 1).2 (by rw [hv]; simpa using h1)
  omega
theorem Num.drew {w : World} {a : Option Addr} {n m : Nat} (h : Num w a n m) : Num w.drew a n m := h
theorem Mine.drew {w : World} {base : Nat} {a : Option Addr} {n cap m : Nat} (h : Mine w base a n cap m) : Mine w.drew base a n cap m := h
theorem Box.drew {w : World} {p : Nat} {v : Value} (h : Box w p v) : Box w.drew p v := h

theorem says_square : Says ⟨#[49, 56, 52, 52, 54, 55, 52, 52, 48, 54, 53, 49, 49, 57, 54, 49, 55, 48, 50, 53]⟩ 18446744065119617025 :=
  ⟨[1, 8, 4, 4, 6, 7, 4, 4, 0, 6, 5, 1, 1, 9, 6, 1, 7, 0, 2, 5], by decide, by unfold Pl.Dig; decide, ⟨by simp, Or.inl (by decide)⟩, by decide⟩
theorem says_third : Says ⟨#[51, 51, 51, 51, 51, 51, 51, 51, 51, 51, 51, 51, 51, 51, 51, 51, 51, 51, 51, 51]⟩ 33333333333333333333 :=
  ⟨[3, 3, 3, 3, 3, 3, 3, 3, 3, 3, 3, 3, 3, 3, 3, 3, 3, 3, 3, 3], by decide, by unfold Pl.Dig; decide, ⟨by simp, Or.inl (by decide)⟩, by decide⟩

/-- A call's three answers: quotient, remainder, OK. -/
def DV (w : World) (v : Value) : Prop := ∃ (aq : Option Addr) (nq cq : Nat) (ar : Option Addr) (nr cr : Nat), v = .tuple #[.agg #[.slice aq nq cq], .agg #[.slice ar nr cr], .int .i64 0] ∧ Num w aq nq 33333333333333333333 ∧ Num w ar nr 1

theorem DV.kept {w w' : World} {v : Value} (h : DV w v) (hb : Below w.heap.size w w') : DV w' v := by
  obtain ⟨aq, nq, cq, ar, nr, cr, rfl, h1, h2⟩ := h
  exact ⟨aq, nq, cq, ar, nr, cr, rfl, h1.kept hb, h2.kept hb⟩
theorem DV.setBox {w : World} {v : Value} (h : DV w v) {p : Nat} {a0 : Option Addr} {n0 c0 : Nat} (hb : Box w p (.slice a0 n0 c0)) (u : Value) : DV (w.setCell ⟨p, 0, none⟩ u) v := by
  obtain ⟨aq, nq, cq, ar, nr, cr, rfl, h1, h2⟩ := h
  exact ⟨aq, nq, cq, ar, nr, cr, rfl, h1.setBox hb u, h2.setBox hb u⟩

/-- A value that is a number m, as a struct. -/
def NV (w : World) (v : Value) (m : Nat) : Prop := ∃ (a : Option Addr) (n c : Nat), v = .agg #[.slice a n c] ∧ Num w a n m
theorem NV.kept {w w' : World} {v : Value} {m : Nat} (h : NV w v m) (hb : Below w.heap.size w w') : NV w' v m := by
  obtain ⟨a, n, c, rfl, h1⟩ := h
  exact ⟨a, n, c, rfl, h1.kept hb⟩
theorem NV.setBox {w : World} {v : Value} {m : Nat} (h : NV w v m) {p : Nat} {a0 : Option Addr} {n0 c0 : Nat} (hb : Box w p (.slice a0 n0 c0)) (u : Value) : NV (w.setCell ⟨p, 0, none⟩ u) v m := by
  obtain ⟨a, n, c, rfl, h1⟩ := h
  exact ⟨a, n, c, rfl, h1.setBox hb u⟩
/-- A variable, made from base on, and, once it is filled, the number in it. -/
def PV (w : World) (base : Nat) (v : Value) (m : Nat) (filled : Bool) : Prop :=
  ∃ (p : Nat) (a : Option Addr) (n c : Nat), v = .pointer (some ⟨p, 0, none⟩) ∧ base ≤ p ∧ Box w p (.slice a n c) ∧ (filled = true → Num w a n m)
theorem PV.kept {w w' : World} {base : Nat} {v : Value} {m : Nat} {f : Bool} (h : PV w base v m f) (hb : Below w.heap.size w w') : PV w' base v m f := by
  obtain ⟨p, a, n, c, rfl, h1, h2, h3⟩ := h
  exact ⟨p, a, n, c, rfl, h1, h2.kept hb, fun e => (h3 e).kept hb⟩
theorem PV.setBox {w : World} {base : Nat} {v : Value} {m : Nat} {f : Bool} (h : PV w base v m f) {p : Nat} {a0 : Option Addr} {n0 c0 : Nat} (hb : Box w p (.slice a0 n0 c0)) (u : Value) (hne : v ≠ .pointer (some ⟨p, 0, none⟩)) : PV (w.setCell ⟨p, 0, none⟩ u) base v m f := by
  obtain ⟨q, a, n, c, rfl, h1, h2, h3⟩ := h
  exact ⟨q, a, n, c, rfl, h1, h2.other (fun e => hne (by rw [e])) u, fun e => (h3 e).setBox hb u⟩

/-- What holds in the region of the quotient, whatever has come up. -/
structure R5 (W w : World) (a4 : Option Addr) (n4 c4 : Nat) (b0 b1 b2 b3 b4 b5 b6 b7 b8 b9 b10 b11 : Bool) (v8 v9 v10 v31 v32 v33 v34 v35 v36 v37 : Value) : Prop where
  bel : Below W.heap.size W w
  f0 : b0 = true → v32 = .agg #[.slice a4 n4 c4]
  f1 : b1 = true → NV w v33 3
  f2 : b2 = true → DV w v34
  f3 : b3 = true → DV w v31
  f4 : b4 = true → NV w v35 33333333333333333333
  f5 : b5 = true → NV w v36 1
  f6 : b6 = true → v37 = .int .i64 0
  f7 : b7 = true → PV w W.heap.size v8 33333333333333333333 b9
  f8 : b8 = true → PV w W.heap.size v9 1 b10
  f78 : b7 = true → b8 = true → v8 ≠ v9
  f9 : b9 = true → b7 = true
  f10 : b10 = true → b8 = true
  f11 : b11 = true → v10 = .int .i64 0

theorem R5.kept {W w w' : World} {a4 : Option Addr} {n4 c4 : Nat} {b0 b1 b2 b3 b4 b5 b6 b7 b8 b9 b10 b11 : Bool} {v8 v9 v10 v31 v32 v33 v34 v35 v36 v37 : Value}
    (h : R5 W w a4 n4 c4 b0 b1 b2 b3 b4 b5 b6 b7 b8 b9 b10 b11 v8 v9 v10 v31 v32 v33 v34 v35 v36 v37) (hb : Below w.heap.size w w') : R5 W w' a4 n4 c4 b0 b1 b2 b3 b4 b5 b6 b7 b8 b9 b10 b11 v8 v9 v10 v31 v32 v33 v34 v35 v36 v37 :=
  ⟨gr_trans h.bel hb, h.f0, fun e => (h.f1 e).kept hb, fun e => (h.f2 e).kept hb, fun e => (h.f3 e).kept hb, fun e => (h.f4 e).kept hb, fun e => (h.f5 e).kept hb, h.f6, fun e => (h.f7 e).kept hb, fun e => (h.f8 e).kept hb, h.f78, h.f9, h.f10, h.f11⟩

set_option maxHeartbeats 4000000 in
theorem alive_any (w : World) : Calls Try.prog 17 #[] w fun e w' => e = .returned (.bool true) ∧ Below w.heap.size w w' := by
  go_enter Try.func17, Try.ntmps17
  go_wp2_with fail
  refine (of_any 4294967295 _ (by omega)).mono ?_
  rintro e w1 ⟨⟨a1, n1, c1, rfl, hm1⟩, hb1⟩
  have HM1 := hide hm1
  clear hm1
  go_wp2_with fail
  refine (mul_any a1 a1 n1 n1 c1 c1 _ _ _ ((unhide HM1).num.alloc _) ((unhide HM1).num.alloc _)).mono ?_
  rintro e w2 ⟨hans, hb2⟩
  obtain ⟨a2, n2, c2, rfl, hm2⟩ := hans.ok (over_not (k := 2) (by rw [Pl.top_eq]; omega) (by decide))
  clear hans
  have HM2 := hide hm2
  clear hm2
  go_wp2_with fail
  refine (text_any a2 n2 c2 _ _ ((unhide HM2).num.alloc _)).mono ?_
  rintro e w3 ⟨s, rfl, hs, hb3⟩
  have HS := hide hs
  clear hs
  go_wp2_with fail
  refine (pow_any 10 20 w3 (by omega) (by omega)).mono ?_
  rintro e w4 ⟨hans, hb4⟩
  obtain ⟨a4, n4, c4, rfl, hm4⟩ := hans.ok (over_not (k := 3) (by rw [Pl.top_eq]; omega) (by decide))
  clear hans
  have HM4 := hide hm4
  clear hm4
  go_wp2_with fail
  have HB4 := hide (gr_trans (gr_trans (gr_trans (gr_trans (gr_trans (gr_trans hb1 (gr_alloc w1 (.cells #[.slice a1 n1 c1] 24))) hb2) (gr_alloc w2 (.cells #[.slice a2 n2 c2] 24))) hb3) hb4) (gr_alloc w4 (.cells #[.slice a4 n4 c4] 24)))
  clear hb1 hb2 hb3 hb4
  have hbW := hide (Box.made w4 (.slice a4 n4 c4))
  have HN4 := hide ((unhide HM4).num.alloc (.cells #[.slice a4 n4 c4] 24))
  generalize hW : w4.alloc (.cells #[.slice a4 n4 c4] 24) = W at *
  clear hW
  refine wp_region_any (by kernel_rfl) ?_
  refine wpAny_inv (fun l a w' => ∃ (b0 b1 b2 b3 b4 b5 b6 b7 b8 b9 b10 b11 : Bool) (v8 v9 v10 v31 v32 v33 v34 v35 v36 v37 : Value), l = #[b0, b1, b2, b3, b4, b5, b6, b7, b8, b9, b10, b11] ∧ a = { tmps := #[Value.bool false, Value.pointer (some ⟨w1.heap.size, 0, none⟩), Value.pointer (some ⟨w2.heap.size, 0, none⟩), Value.int IntKind.i64 0, Value.string s, Value.int IntKind.i64 0, Value.pointer (some ⟨w4.heap.size, 0, none⟩), Value.int IntKind.i64 0, v8, v9, v10, undef, undef, undef, undef, Value.agg #[Value.slice a1 n1 c1], Value.tuple #[Value.agg #[Value.slice a2 n2 c2], Value.int IntKind.i64 0], Value.agg #[Value.slice a1 n1 c1], Value.agg #[Value.slice a1 n1 c1], Value.tuple #[Value.agg #[Value.slice a2 n2 c2], Value.int IntKind.i64 0], Value.agg #[Value.slice a2 n2 c2], Value.int IntKind.i64 0, Value.tuple #[Value.string s, Value.int IntKind.i64 0], Value.agg #[Value.slice a2 n2 c2], Value.tuple #[Value.string s, Value.int IntKind.i64 0], Value.string s, Value.int IntKind.i64 0, Value.tuple #[Value.agg #[Value.slice a4 n4 c4], Value.int IntKind.i64 0], Value.tuple #[Value.agg #[Value.slice a4 n4 c4], Value.int IntKind.i64 0], Value.agg #[Value.slice a4 n4 c4], Value.int IntKind.i64 0, v31, v32, v33, v34, v35, v36, v37, undef, undef, undef, undef, undef, undef, undef, undef, undef, undef, undef, undef, undef, undef, undef, undef, undef, undef, undef, undef, undef, undef, undef, undef, undef, undef, undef, undef, undef, undef, undef, undef, undef, undef, undef, undef, undef, undef, undef, undef, undef, undef, undef], defers := [] } ∧ R5 W w' a4 n4 c4 b0 b1 b2 b3 b4 b5 b6 b7 b8 b9 b10 b11 v8 v9 v10 v31 v32 v33 v34 v35 v36 v37) ?_ ?_ _ _ _ _ ?_ ?_
  · rintro l a w' i ⟨b0, b1, b2, b3, b4, b5, b6, b7, b8, b9, b10, b11, v8, v9, v10, v31, v32, v33, v34, v35, v36, v37, rfl, rfl, hR⟩ hi hl
    have hi12 : i < 12 := by
      by_cases h : i < 12
      · exact h
      · rw [Array.getElem?_eq_none (by simp; omega)] at hl; cases hl
    have hcase : i = 0 ∨ i = 1 ∨ i = 2 ∨ i = 3 ∨ i = 4 ∨ i = 5 ∨ i = 6 ∨ i = 7 ∨ i = 8 ∨ i = 9 ∨ i = 10 ∨ i = 11 := by omega
    rcases hcase with rfl | rfl | rfl | rfl | rfl | rfl | rfl | rfl | rfl | rfl | rfl | rfl
    · have hc := (((unhide hbW).kept hR.bel)).cell
      refine wpOp_step rfl (fun K hK => ?_)
      go_simp
      exact hK _ _ ⟨true, b1, b2, b3, b4, b5, b6, b7, b8, b9, b10, b11, v8, v9, v10, v31, _, v33, v34, v35, v36, v37, rfl, rfl, ⟨hR.bel, fun _ => rfl, hR.f1, hR.f2, hR.f3, hR.f4, hR.f5, hR.f6, hR.f7, hR.f8, hR.f78, hR.f9, hR.f10, hR.f11⟩⟩
    · refine wpOp_step rfl (fun K hK => ?_)
      go_simp
      go_wp2_with fail
      refine (of_any 3 _ (by omega)).mono ?_
      rintro e w5 ⟨⟨a5, n5, c5, rfl, hm5⟩, hb5⟩
      have hR5 := hR.kept hb5
      refine hK _ _ ⟨b0, true, b2, b3, b4, b5, b6, b7, b8, b9, b10, b11, v8, v9, v10, v31, v32, _, v34, v35, v36, v37, rfl, rfl, ⟨hR5.bel, hR5.f0, fun _ => ?_, hR5.f2, hR5.f3, hR5.f4, hR5.f5, hR5.f6, hR5.f7, hR5.f8, hR5.f78, hR5.f9, hR5.f10, hR5.f11⟩⟩
      exact ⟨a5, n5, c5, rfl, hm5.num⟩
    · obtain ⟨o, ho, hd⟩ := (mem_ready.1 hi).2
      cases ho
      have e0 : b0 = true := hd ⟨0, .data⟩ (by simp) rfl
      have e1 : b1 = true := hd ⟨1, .data⟩ (by simp) rfl
      obtain rfl := hR.f0 e0
      obtain ⟨a5, n5, c5, rfl, hm5⟩ := hR.f1 e1
      obtain rfl : n5 = 1 := hm5.one (by omega) (by omega)
      have hN := (unhide HN4).kept hR.bel
      clear hd
      refine wpOp_step rfl (fun K hK => ?_)
      go_simp
      go_wp2_with fail
      refine (div_short a4 a5 n4 c4 c5 100000000000000000000 3 _ hN hm5).mono ?_
      rintro e w6 ⟨hda, hb6⟩
      obtain ⟨aq, nq, cq, ar, nr, cr, rfl, hq6, hr6⟩ := (hda.resolve_left (fun h => by cases h.1)).2
      have hR6 := hR.kept hb6
      refine hK _ _ ⟨b0, b1, true, b3, b4, b5, b6, b7, b8, b9, b10, b11, v8, v9, v10, v31, _, _, _, v35, v36, v37, rfl, rfl, ⟨hR6.bel, hR6.f0, hR6.f1, fun _ => ?_, hR6.f3, hR6.f4, hR6.f5, hR6.f6, hR6.f7, hR6.f8, hR6.f78, hR6.f9, hR6.f10, hR6.f11⟩⟩
      exact ⟨aq, nq, cq, ar, nr, cr, rfl, hq6.num, hr6.num⟩
    · obtain ⟨o, ho, hd⟩ := (mem_ready.1 hi).2
      cases ho
      have e2 : b2 = true := hd ⟨2, .data⟩ (by simp) rfl
      clear hd
      refine wpOp_step rfl (fun K hK => ?_)
      go_simp
      exact hK _ _ ⟨b0, b1, b2, true, b4, b5, b6, b7, b8, b9, b10, b11, v8, v9, v10, _, v32, v33, v34, v35, v36, v37, rfl, rfl, ⟨hR.bel, hR.f0, hR.f1, hR.f2, fun _ => hR.f2 e2, hR.f4, hR.f5, hR.f6, hR.f7, hR.f8, hR.f78, hR.f9, hR.f10, hR.f11⟩⟩
    · obtain ⟨o, ho, hd⟩ := (mem_ready.1 hi).2
      cases ho
      have e3 : b3 = true := hd ⟨3, .data⟩ (by simp) rfl
      obtain ⟨aq, nq, cq, ar, nr, cr, rfl, hq, hr⟩ := hR.f3 e3
      clear hd
      refine wpOp_step rfl (fun K hK => ?_)
      go_simp
      exact hK _ _ ⟨b0, b1, b2, b3, true, b5, b6, b7, b8, b9, b10, b11, v8, v9, v10, _, v32, v33, v34, _, v36, v37, rfl, rfl, ⟨hR.bel, hR.f0, hR.f1, hR.f2, hR.f3, fun _ => ⟨aq, nq, cq, rfl, hq⟩, hR.f5, hR.f6, hR.f7, hR.f8, hR.f78, hR.f9, hR.f10, hR.f11⟩⟩
    · obtain ⟨o, ho, hd⟩ := (mem_ready.1 hi).2
      cases ho
      have e3 : b3 = true := hd ⟨3, .data⟩ (by simp) rfl
      obtain ⟨aq, nq, cq, ar, nr, cr, rfl, hq, hr⟩ := hR.f3 e3
      clear hd
      refine wpOp_step rfl (fun K hK => ?_)
      go_simp
      exact hK _ _ ⟨b0, b1, b2, b3, b4, true, b6, b7, b8, b9, b10, b11, v8, v9, v10, _, v32, v33, v34, v35, _, v37, rfl, rfl, ⟨hR.bel, hR.f0, hR.f1, hR.f2, hR.f3, hR.f4, fun _ => ⟨ar, nr, cr, rfl, hr⟩, hR.f6, hR.f7, hR.f8, hR.f78, hR.f9, hR.f10, hR.f11⟩⟩
    · obtain ⟨o, ho, hd⟩ := (mem_ready.1 hi).2
      cases ho
      have e3 : b3 = true := hd ⟨3, .data⟩ (by simp) rfl
      obtain ⟨aq, nq, cq, ar, nr, cr, rfl, hq, hr⟩ := hR.f3 e3
      clear hd
      refine wpOp_step rfl (fun K hK => ?_)
      go_simp
      exact hK _ _ ⟨b0, b1, b2, b3, b4, b5, true, b7, b8, b9, b10, b11, v8, v9, v10, _, v32, v33, v34, v35, v36, _, rfl, rfl, ⟨hR.bel, hR.f0, hR.f1, hR.f2, hR.f3, hR.f4, hR.f5, fun _ => rfl, hR.f7, hR.f8, hR.f78, hR.f9, hR.f10, hR.f11⟩⟩
    · have e7 : b7 = false := by simpa using hl
      have e9 : ¬ b9 = true := fun h => by rw [hR.f9 h] at e7; cases e7
      have hR7 := hR.kept (gr_alloc w' (.cells #[.slice none 0 0] 24))
      refine wpOp_step rfl (fun K hK => ?_)
      go_simp
      refine hK _ _ ⟨b0, b1, b2, b3, b4, b5, b6, true, b8, b9, b10, b11, _, v9, v10, v31, v32, v33, v34, v35, v36, v37, rfl, rfl, ⟨hR7.bel, hR7.f0, hR7.f1, hR7.f2, hR7.f3, hR7.f4, hR7.f5, hR7.f6, fun _ => ?_, hR7.f8, fun _ => ?_, fun _ => rfl, hR7.f10, hR7.f11⟩⟩
      · exact ⟨w'.heap.size, none, 0, 0, rfl, hR.bel.size, Box.made _ _, fun h => absurd h e9⟩
      · intro h8 he
        obtain ⟨p, a, n, c, hp, _, hb, _⟩ := hR.f8 h8
        have := hb.lt
        rw [hp] at he
        injection he with he
        injection he with he
        injection he with he
        omega
    · have e8 : b8 = false := by simpa using hl
      have e10 : ¬ b10 = true := fun h => by rw [hR.f10 h] at e8; cases e8
      have hR7 := hR.kept (gr_alloc w' (.cells #[.slice none 0 0] 24))
      refine wpOp_step rfl (fun K hK => ?_)
      go_simp
      refine hK _ _ ⟨b0, b1, b2, b3, b4, b5, b6, b7, true, b9, b10, b11, v8, _, v10, v31, v32, v33, v34, v35, v36, v37, rfl, rfl, ⟨hR7.bel, hR7.f0, hR7.f1, hR7.f2, hR7.f3, hR7.f4, hR7.f5, hR7.f6, hR7.f7, fun _ => ?_, ?_, hR7.f9, fun _ => rfl, hR7.f11⟩⟩
      · exact ⟨w'.heap.size, none, 0, 0, rfl, hR.bel.size, Box.made _ _, fun h => absurd h e10⟩
      · intro h7 _ he
        obtain ⟨p, a, n, c, hp, _, hb, _⟩ := hR.f7 h7
        have := hb.lt
        rw [hp] at he
        injection he with he
        injection he with he
        injection he with he
        omega
    · obtain ⟨o, ho, hd⟩ := (mem_ready.1 hi).2
      cases ho
      have e7 : b7 = true := hd ⟨7, .data⟩ (by simp) rfl
      have e4 : b4 = true := hd ⟨4, .data⟩ (by simp) rfl
      obtain ⟨p, a0, n0, c0, rfl, hpW, hbx, _⟩ := hR.f7 e7
      obtain ⟨a, n, c, rfl, hnm⟩ := hR.f4 e4
      have hcx := hbx.cell
      have hfx := hbx.frozen
      clear hd
      refine wpOp_step rfl (fun K hK => ?_)
      go_simp
      exact hK _ _ ⟨b0, b1, b2, b3, b4, b5, b6, b7, b8, true, b10, b11, _, v9, v10, v31, v32, v33, v34, _, v36, v37, rfl, rfl, ⟨hR.bel.setCell hpW _, hR.f0, fun e => (hR.f1 e).setBox hbx _, fun e => (hR.f2 e).setBox hbx _, fun e => (hR.f3 e).setBox hbx _, fun e => (hR.f4 e).setBox hbx _, fun e => (hR.f5 e).setBox hbx _, hR.f6, fun _ => ⟨p, a, n, c, rfl, hpW, hbx.set _, fun _ => hnm.setBox hbx _⟩, fun h => (hR.f8 h).setBox hbx _ (fun e => hR.f78 e7 h e.symm), hR.f78, fun _ => e7, hR.f10, hR.f11⟩⟩
    · obtain ⟨o, ho, hd⟩ := (mem_ready.1 hi).2
      cases ho
      have e8 : b8 = true := hd ⟨8, .data⟩ (by simp) rfl
      have e5 : b5 = true := hd ⟨5, .data⟩ (by simp) rfl
      obtain ⟨p, a0, n0, c0, rfl, hpW, hbx, _⟩ := hR.f8 e8
      obtain ⟨a, n, c, rfl, hnm⟩ := hR.f5 e5
      have hcx := hbx.cell
      have hfx := hbx.frozen
      clear hd
      refine wpOp_step rfl (fun K hK => ?_)
      go_simp
      exact hK _ _ ⟨b0, b1, b2, b3, b4, b5, b6, b7, b8, b9, true, b11, v8, _, v10, v31, v32, v33, v34, v35, _, v37, rfl, rfl, ⟨hR.bel.setCell hpW _, hR.f0, fun e => (hR.f1 e).setBox hbx _, fun e => (hR.f2 e).setBox hbx _, fun e => (hR.f3 e).setBox hbx _, fun e => (hR.f4 e).setBox hbx _, fun e => (hR.f5 e).setBox hbx _, hR.f6, fun h => (hR.f7 h).setBox hbx _ (hR.f78 h e8), fun _ => ⟨p, a, n, c, rfl, hpW, hbx.set _, fun _ => hnm.setBox hbx _⟩, hR.f78, hR.f9, fun _ => e8, hR.f11⟩⟩
    · obtain ⟨o, ho, hd⟩ := (mem_ready.1 hi).2
      cases ho
      have e6 : b6 = true := hd ⟨6, .data⟩ (by simp) rfl
      obtain rfl := hR.f6 e6
      clear hd
      refine wpOp_step rfl (fun K hK => ?_)
      go_simp
      exact hK _ _ ⟨b0, b1, b2, b3, b4, b5, b6, b7, b8, b9, b10, true, v8, v9, _, v31, v32, v33, v34, v35, v36, _, rfl, rfl, ⟨hR.bel, hR.f0, hR.f1, hR.f2, hR.f3, hR.f4, hR.f5, hR.f6, hR.f7, hR.f8, hR.f78, hR.f9, hR.f10, fun _ => rfl⟩⟩
  · rintro l a w' ⟨b0, b1, b2, b3, b4, b5, b6, b7, b8, b9, b10, b11, v8, v9, v10, v31, v32, v33, v34, v35, v36, v37, rfl, rfl, hR⟩ hr
    have e0 : b0 = true := ready_nil (i := 0) hr rfl (by intro e he hb; simp at he; (try (repeat' (rcases he with rfl | he))); all_goals (first | assumption | (exact absurd hb (by decide))))
    have e1 : b1 = true := ready_nil (i := 1) hr rfl (by intro e he hb; simp at he; (try (repeat' (rcases he with rfl | he))); all_goals (first | assumption | (exact absurd hb (by decide))))
    have e7 : b7 = true := ready_nil (i := 7) hr rfl (by intro e he hb; simp at he; (try (repeat' (rcases he with rfl | he))); all_goals (first | assumption | (exact absurd hb (by decide))))
    have e8 : b8 = true := ready_nil (i := 8) hr rfl (by intro e he hb; simp at he; (try (repeat' (rcases he with rfl | he))); all_goals (first | assumption | (exact absurd hb (by decide))))
    have e2 : b2 = true := ready_nil (i := 2) hr rfl (by intro e he hb; simp at he; (try (repeat' (rcases he with rfl | he))); all_goals (first | assumption | (exact absurd hb (by decide))))
    have e3 : b3 = true := ready_nil (i := 3) hr rfl (by intro e he hb; simp at he; (try (repeat' (rcases he with rfl | he))); all_goals (first | assumption | (exact absurd hb (by decide))))
    have e4 : b4 = true := ready_nil (i := 4) hr rfl (by intro e he hb; simp at he; (try (repeat' (rcases he with rfl | he))); all_goals (first | assumption | (exact absurd hb (by decide))))
    have e5 : b5 = true := ready_nil (i := 5) hr rfl (by intro e he hb; simp at he; (try (repeat' (rcases he with rfl | he))); all_goals (first | assumption | (exact absurd hb (by decide))))
    have e6 : b6 = true := ready_nil (i := 6) hr rfl (by intro e he hb; simp at he; (try (repeat' (rcases he with rfl | he))); all_goals (first | assumption | (exact absurd hb (by decide))))
    have e9 : b9 = true := ready_nil (i := 9) hr rfl (by intro e he hb; simp at he; (try (repeat' (rcases he with rfl | he))); all_goals (first | assumption | (exact absurd hb (by decide))))
    have e10 : b10 = true := ready_nil (i := 10) hr rfl (by intro e he hb; simp at he; (try (repeat' (rcases he with rfl | he))); all_goals (first | assumption | (exact absurd hb (by decide))))
    have e11 : b11 = true := ready_nil (i := 11) hr rfl (by intro e he hb; simp at he; (try (repeat' (rcases he with rfl | he))); all_goals (first | assumption | (exact absurd hb (by decide))))
    obtain ⟨p8, aq, nq, cq, rfl, _, hb8, hq⟩ := hR.f7 e7
    obtain ⟨p9, ar, nr, cr, rfl, _, hb9, hrr⟩ := hR.f8 e8
    have hq := hq e9
    have hrr := hrr e10
    obtain rfl := hR.f11 e11
    have HB5 := hide (gr_trans (unhide HB4) hR.bel)
    clear hr hR
    have hc8 := hb8.cell
    have hc9 := hb9.cell
    obtain rfl : s = _ := says_eq (unhide HS) says_square
    go_wp2_with fail
    refine (text_any aq nq cq _ w' hq).mono ?_
    rintro e w7 ⟨s7, rfl, hs7, hb7⟩
    obtain rfl : s7 = _ := says_eq hs7 says_third
    have hc97 := (hb9.kept hb7).cell
    have hr7 := hrr.kept hb7
    obtain rfl : nr = 1 := hr7.one (by omega) (by omega)
    go_wp2_with fail
    refine (low_small ar 1 cr 1 w7 hr7 (by omega)).mono ?_
    rintro e w8 ⟨rfl, hb9'⟩
    go_wp2
    go_ret
    exact ⟨rfl, gr_trans (gr_trans (unhide HB5) hb7) hb9'⟩
  · simp
  · refine ⟨false, false, false, false, false, false, false, false, false, false, false, false, undef, undef, undef, undef, undef, undef, undef, undef, undef, undef, rfl, rfl, ?_⟩
    constructor
    · exact (gr_refl W).drew
    all_goals (intro h; cases h)

end Go.Proofs.Ytkpbgjgebjcfeaa
