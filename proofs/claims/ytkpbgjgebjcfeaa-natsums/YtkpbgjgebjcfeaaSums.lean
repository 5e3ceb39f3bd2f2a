/- The law numerallaw01.NatSums answers true. -/
import Derived.Test.YtkpbgjgebjcfeaaSumsCall
import Derived.Test.YtkpbgjgebjcfeaaSumsReg
namespace Go.Proofs.Ytkpbgjgebjcfeaa
open Go.RowKit

theorem xor5 (x : Nat) (hx : x < 4294967296) : Go.bits .xor .u32 (x : Int) 5 = ((x ^^^ 5 : Nat) : Int) := by
  have h1 : (BitVec.ofInt 32 (x : Int)).toNat = x := by
    rw [BitVec.ofInt_natCast, BitVec.toNat_ofNat]; exact Nat.mod_eq_of_lt (by omega)
  have h2 : x ^^^ 5 < 2 ^ 32 := Nat.xor_lt_two_pow (by omega) (by decide)
  show IntKind.u32.wrap ((BitVec.ofInt 32 (x : Int) ^^^ BitVec.ofInt 32 5).toNat : Int) = _
  rw [BitVec.toNat_xor, h1, show (BitVec.ofInt 32 5).toNat = 5 from rfl, IntKind.wrap_u32]
  omega
def xo (xs : List Nat) (k : Nat) : List Nat := (xs.take k).map (· ^^^ 5) ++ xs.drop k
theorem xo_zero (xs : List Nat) : xo xs 0 = xs := by simp [xo]
theorem xo_len (xs : List Nat) (k : Nat) : (xo xs k).length = xs.length := by
  simp [xo]; omega
theorem xo_at (xs : List Nat) (k : Nat) (h : k < xs.length) : (xo xs k)[k]?.getD 0 = xs[k]?.getD 0 := by
  unfold xo
  rw [List.getElem?_append_right (by simp; omega)]
  simp [List.getElem?_drop, Nat.min_eq_left (Nat.le_of_lt h)]
theorem xo_set (xs : List Nat) (k : Nat) (h : k < xs.length) : (xo xs k).set k (xs[k]?.getD 0 ^^^ 5) = xo xs (k + 1) := by
  unfold xo
  rw [List.set_append_right _ _ (by simp; omega), Pl.drop_cons xs k h, Pl.take_snoc xs k h]
  simp [Nat.min_eq_left (Nat.le_of_lt h)]
theorem xo_wf {xs : List Nat} (h : Pl.Wf xs) (k : Nat) : Pl.Wf (xo xs k) := by
  refine Pl.wf_append (fun y hy => ?_) (Pl.wf_drop h k)
  obtain ⟨x, hx, rfl⟩ := List.mem_map.1 hy
  have := h x (List.mem_of_mem_take hx)
  exact Nat.xor_lt_two_pow (n := 32) (by omega) (by decide)

/-- What holds in that statement, whatever has come up. -/
structure R2 (W : World) (a : Option Addr) (n gx cx ca : Nat) (ck : Int) (b0 b1 b2 b3 b4 b5 : Bool) (v0 v1 v2 v3 v4 v5 : Value) (w' : World) : Prop where
  bel : Below W.heap.size W w'
  f0 : b0 = true → v0 = .agg #[.slice (some ⟨gx, 0, none⟩) n cx]
  f1 : b1 = true → v1 = .int .i64 ck
  f2 : b2 = true → v2 = .agg #[.slice a n ca]
  f3 : b3 = true → v3 = .int .i64 ck
  f4 : b4 = true → v4 = .bool true
  f5 : b5 = true → v5 = .bool true

/-- Where the law stands ahead of the book. -/
structure Pre2 (w W : World) (a b : Option Addr) (n n' ca cb qx qy gx cx gy cy : Nat) (xs ys : List Nat) : Prop where
  lx : Lt W w.heap.size gx n cx xs
  ly : Lt W w.heap.size gy n' cy ys
  ne : gx ≠ gy
  ba : Box W w.heap.size (.slice a n ca)
  bb : Box W (w.heap.size + 1) (.slice b n' cb)
  bx : Box W qx (.slice (some ⟨gx, 0, none⟩) n cx)
  bY : Box W qy (.slice (some ⟨gy, 0, none⟩) n' cy)
  bel : Below w.heap.size w W
theorem Pre2.book {w W : World} {a b : Option Addr} {n n' ca cb qx qy gx cx gy cy : Nat} {xs ys : List Nat} (h : Pre2 w W a b n n' ca cb qx qy gx cx gy cy xs ys) :
    Su w (W.alloc (.cells #[.slice none 0 0, .slice none 0 0, .bool false] 43)) W.heap.size 0 (.slice none 0 0) (.slice none 0 0) [] [] [(w.heap.size, .slice a n ca), (w.heap.size + 1, .slice b n' cb), (qx, .slice (some ⟨gx, 0, none⟩) n cx), (qy, .slice (some ⟨gy, 0, none⟩) n' cy)] gx n cx gy n' cy xs ys := by
  have hbel := gr_trans h.bel (gr_alloc W (.cells #[.slice none 0 0, .slice none 0 0, .bool false] 43))
  refine ⟨⟨Led.new W w.heap.size h.bel.size, Ad.of_below hbel (Nat.le_refl _), fun x hx => ?_, fun y hy => absurd hy (by simp)⟩, h.lx.alloc _, h.ly.alloc _, h.ne, fun u hu => absurd hu (by simp), fun u hu => absurd hu (by simp)⟩
  have hb : Box W x.1 x.2 := by
    simp only [List.mem_cons, List.not_mem_nil, or_false] at hx
    rcases hx with rfl | rfl | rfl | rfl
    · exact h.ba
    · exact h.bb
    · exact h.bx
    · exact h.bY
  exact ⟨hb.alloc _, by simp [Value.ownBlock], by simp [Value.ownBlock]⟩

set_option maxHeartbeats 8000000 in
set_option maxRecDepth 20000 in
theorem natsums_any (a b : Option Addr) (n n' ca cb : Nat) (xs ys : List Nat) (w : World) (hn : xs.length = n) (hn' : ys.length = n') (hl : Lim w a xs) (hl' : Lim w b ys) (hw : Pl.Wf xs) (hw' : Pl.Wf ys) (hb : n ≤ 35184372087808) (hb' : n' ≤ 35184372087808) :
    Calls Try.prog 4 #[.agg #[.slice a n ca], .agg #[.slice b n' cb]] w fun e w' => e = .returned (.bool true) ∧ Below w.heap.size w w' := by
  have HLX := hide (fun (W : World) (hB : Below w.heap.size w W) => lent_any a n ca xs W hn (hl.below hB) hb)
  have HLY := hide (fun (W : World) (hB : Below w.heap.size w W) => lent_any b n' cb ys W hn' (hl'.below hB) hb')
  have HL := hide hl
  have HL' := hide hl'
  have HN := hide hn
  have HN' := hide hn'
  clear hl hl' hn hn'
  go_enter Try.func4, Try.ntmps4
  go_wp2_with fail
  have HB0 : Hid (Below w.heap.size w ((w.alloc (.cells #[.slice a n ca] 24)).alloc (.cells #[.slice b n' cb] 24))) := hide (gr_trans (gr_alloc _ _) (gr_alloc _ _))
  have HBA : Hid (Box ((w.alloc (.cells #[.slice a n ca] 24)).alloc (.cells #[.slice b n' cb] 24)) w.heap.size (.slice a n ca)) := hide ((Box.made w _).alloc _)
  have HBB : Hid (Box ((w.alloc (.cells #[.slice a n ca] 24)).alloc (.cells #[.slice b n' cb] 24)) (w.heap.size + 1) (.slice b n' cb)) := hide (by
    have := Box.made (w.alloc (.cells #[.slice a n ca] 24)) (.slice b n' cb)
    simpa using this)
  generalize hW : (w.alloc (.cells #[.slice a n ca] 24)).alloc (.cells #[.slice b n' cb] 24) = W at *
  clear hW
  refine wp_region_any (by kernel_rfl) ?_
  refine wpAny_inv (fun l act w' => ∃ (b0 b1 b2 b3 b4 b5 b6 b7 : Bool) (v5 v6 v14 v15 v16 v17 : Value), l = #[b0, b1, b2, b3, b4, b5, b6, b7] ∧ act = { tmps := #[Value.agg #[Value.slice a n ca], Value.agg #[Value.slice b n' cb], Value.pointer (some ⟨w.heap.size, 0, none⟩), Value.pointer (some ⟨w.heap.size + 1, 0, none⟩), Value.bool false, v5, v6, undef, undef, undef, undef, undef, undef, undef, v14, v15, v16, v17, undef, undef, undef, undef, undef, undef, undef, undef, undef, undef, undef, undef, undef, undef, undef, undef, undef, undef, undef, undef, undef, undef, undef, undef, undef, undef, undef, undef, undef, undef, undef, undef, undef, undef, undef, undef, undef, undef, undef, undef, undef, undef, undef, undef, undef, undef, undef, undef, undef, undef, undef, undef, undef, undef, undef, undef, undef, undef, undef, undef, undef, undef, undef, undef, undef, undef, undef, undef, undef, undef, undef, undef, undef, undef, undef, undef, undef, undef, undef], defers := [] } ∧ R1 W w' a b n n' ca cb xs ys b0 b1 b2 b3 b4 b5 b6 b7 v5 v6 v14 v15 v16 v17) ?_ ?_ _ _ _ _ ?_ ?_
  · rintro l act w' i9 ⟨b0, b1, b2, b3, b4, b5, b6, b7, v5, v6, v14, v15, v16, v17, rfl, rfl, hR⟩ hi9 hl9
    have hin9 : i9 < 8 := by
      by_cases h : i9 < 8
      · exact h
      · rw [Array.getElem?_eq_none (by simp; omega)] at hl9; cases hl9
    have hcase : i9 = 0 ∨ i9 = 1 ∨ i9 = 2 ∨ i9 = 3 ∨ i9 = 4 ∨ i9 = 5 ∨ i9 = 6 ∨ i9 = 7 := by omega
    clear hin9
    rcases hcase with rfl | rfl | rfl | rfl | rfl | rfl | rfl | rfl
    · have hc := ((unhide HBA).kept hR.bel).cell
      refine wpOp_step rfl (fun K hK => ?_)
      go_simp
      exact hK _ _ ⟨true, b1, b2, b3, b4, b5, b6, b7, v5, v6, _, v15, v16, v17, rfl, rfl, ⟨hR.bel, fun _ => rfl, hR.f1, hR.f2, hR.f3, hR.f13, hR.f4, hR.f5, hR.f45, hR.f31, hR.f61, hR.f64, hR.f73, hR.f75⟩⟩
    · obtain ⟨o9, ho9, hd9⟩ := (mem_ready.1 hi9).2
      cases ho9
      have e0 : b0 = true := hd9 ⟨0, .data⟩ (by simp) rfl
      clear hd9
      obtain rfl := hR.f0 e0
      have e1 : b1 = false := by simpa using hl9
      have n3 : ¬ b3 = true := fun h => by rw [hR.f31 h] at e1; cases e1
      have n6 : ¬ b6 = true := fun h => by rw [hR.f61 h] at e1; cases e1
      refine wpOp_step rfl (fun K hK => ?_)
      go_simp
      go_wp2_with fail
      refine (unhide HLX w' (gr_trans (unhide HB0) hR.bel)).mono ?_
      rintro e w9 ⟨⟨g, c, rfl, hlt⟩, hb9⟩
      have hR9 := hR.kept hb9
      exact hK _ _ ⟨b0, true, b2, b3, b4, b5, b6, b7, v5, v6, _, _, v16, v17, rfl, rfl, ⟨hR9.bel, hR9.f0, fun _ => ⟨g, c, rfl, hlt.mono hR.bel.size⟩, hR9.f2, hR9.f3, fun h => absurd h n3, fun h => (hR9.f4 h).empty _ n6, hR9.f5, hR9.f45, fun _ => rfl, fun _ => rfl, hR9.f64, hR9.f73, hR9.f75⟩⟩
    · have hc := ((unhide HBB).kept hR.bel).cell
      refine wpOp_step rfl (fun K hK => ?_)
      go_simp
      exact hK _ _ ⟨b0, b1, true, b3, b4, b5, b6, b7, v5, v6, v14, v15, _, v17, rfl, rfl, ⟨hR.bel, hR.f0, hR.f1, fun _ => rfl, hR.f3, hR.f13, hR.f4, hR.f5, hR.f45, hR.f31, hR.f61, hR.f64, hR.f73, hR.f75⟩⟩
    · obtain ⟨o9, ho9, hd9⟩ := (mem_ready.1 hi9).2
      cases ho9
      have e2 : b2 = true := hd9 ⟨2, .data⟩ (by simp) rfl
      have e1 : b1 = true := hd9 ⟨1, .chain⟩ (by simp) rfl
      clear hd9
      obtain rfl := hR.f2 e2
      have e3 : b3 = false := by simpa using hl9
      have n7 : ¬ b7 = true := fun h => by rw [hR.f73 h] at e3; cases e3
      refine wpOp_step rfl (fun K hK => ?_)
      go_simp
      go_wp2_with fail
      refine (unhide HLY w' (gr_trans (unhide HB0) hR.bel)).mono ?_
      rintro e w9 ⟨⟨g, c, rfl, hlt⟩, hb9⟩
      have hR9 := hR.kept hb9
      have hpt : Part v15 (.agg #[.slice (some ⟨g, 0, none⟩) n' c]) n n' := fun g1 c1 g2 c2 h1 h2 => by
        obtain ⟨g3, c3, h3, h4⟩ := hR.f1 e1
        rw [h1] at h3
        simp only [Value.agg.injEq, Array.mk.injEq, List.cons.injEq, Value.slice.injEq, Option.some.injEq, Addr.mk.injEq, and_true, true_and] at h2 h3
        have := h4.at
        have := hlt.at
        omega
      exact hK _ _ ⟨b0, b1, b2, true, b4, b5, b6, b7, v5, v6, v14, v15, _, _, rfl, rfl, ⟨hR9.bel, hR9.f0, hR9.f1, hR9.f2, fun _ => ⟨g, c, rfl, hlt.mono hR.bel.size⟩, fun _ => hpt, hR9.f4, fun h => (hR9.f5 h).empty _ n7, hR9.f45, fun _ => e1, hR9.f61, hR9.f64, fun _ => rfl, hR9.f75⟩⟩
    · have e4 : b4 = false := by simpa using hl9
      have nf : ¬ b6 = true := fun h => by rw [hR.f64 h] at e4; cases e4
      have hR9 := hR.kept (gr_alloc w' (.cells #[.slice none 0 0] 24))
      refine wpOp_step rfl (fun K hK => ?_)
      go_simp
      refine hK _ _ ⟨b0, b1, b2, b3, true, b5, b6, b7, _, v6, v14, v15, v16, v17, rfl, rfl, ⟨hR9.bel, hR9.f0, hR9.f1, hR9.f2, hR9.f3, hR9.f13, fun _ => ?_, hR9.f5, ?_, hR9.f31, hR9.f61, fun _ => rfl, hR9.f73, hR9.f75⟩⟩
      · exact ⟨w'.heap.size, .slice none 0 0, rfl, hR.bel.size, Box.made _ _, fun h => absurd h nf⟩
      · intro _ h5 he
        obtain ⟨q, s, h1, _, h3, _⟩ := hR.f5 h5
        have := h3.lt
        rw [h1] at he
        injection he with he
        injection he with he
        injection he with he
        omega
    · have e5 : b5 = false := by simpa using hl9
      have nf : ¬ b7 = true := fun h => by rw [hR.f75 h] at e5; cases e5
      have hR9 := hR.kept (gr_alloc w' (.cells #[.slice none 0 0] 24))
      refine wpOp_step rfl (fun K hK => ?_)
      go_simp
      refine hK _ _ ⟨b0, b1, b2, b3, b4, true, b6, b7, v5, _, v14, v15, v16, v17, rfl, rfl, ⟨hR9.bel, hR9.f0, hR9.f1, hR9.f2, hR9.f3, hR9.f13, hR9.f4, fun _ => ?_, ?_, hR9.f31, hR9.f61, hR9.f64, hR9.f73, fun _ => rfl⟩⟩
      · exact ⟨w'.heap.size, .slice none 0 0, rfl, hR.bel.size, Box.made _ _, fun h => absurd h nf⟩
      · intro h5 _ he
        obtain ⟨q, s, h1, _, h3, _⟩ := hR.f4 h5
        have := h3.lt
        rw [h1] at he
        injection he with he
        injection he with he
        injection he with he
        omega
    · obtain ⟨o9, ho9, hd9⟩ := (mem_ready.1 hi9).2
      cases ho9
      have e4 : b4 = true := hd9 ⟨4, .data⟩ (by simp) rfl
      have e1 : b1 = true := hd9 ⟨1, .data⟩ (by simp) rfl
      clear hd9
      obtain ⟨q, s, rfl, hq, hbx, _⟩ := hR.f4 e4
      obtain ⟨g, c, rfl, hlt⟩ := hR.f1 e1
      have hcx := hbx.cell
      have hfx := hbx.frozen
      refine wpOp_step rfl (fun K hK => ?_)
      go_simp
      exact hK _ _ ⟨b0, b1, b2, b3, b4, b5, true, b7, _, v6, v14, _, v16, v17, rfl, rfl, ⟨hR.bel.setCell hq _, hR.f0, fun e => (hR.f1 e).setBox hbx _, hR.f2, fun e => (hR.f3 e).setBox hbx _, hR.f13, fun _ => ⟨q, _, rfl, hq, hbx.set _, fun _ => rfl⟩, fun e => (hR.f5 e).setOther _ (fun e2 => hR.f45 e4 e e2.symm), hR.f45, hR.f31, fun _ => e1, fun _ => e4, hR.f73, hR.f75⟩⟩
    · obtain ⟨o9, ho9, hd9⟩ := (mem_ready.1 hi9).2
      cases ho9
      have e5 : b5 = true := hd9 ⟨5, .data⟩ (by simp) rfl
      have e3 : b3 = true := hd9 ⟨3, .data⟩ (by simp) rfl
      clear hd9
      obtain ⟨q, s, rfl, hq, hbx, _⟩ := hR.f5 e5
      obtain ⟨g, c, rfl, hlt⟩ := hR.f3 e3
      have hcx := hbx.cell
      have hfx := hbx.frozen
      refine wpOp_step rfl (fun K hK => ?_)
      go_simp
      exact hK _ _ ⟨b0, b1, b2, b3, b4, b5, b6, true, v5, _, v14, v15, v16, _, rfl, rfl, ⟨hR.bel.setCell hq _, hR.f0, fun e => (hR.f1 e).setBox hbx _, hR.f2, fun e => (hR.f3 e).setBox hbx _, hR.f13, fun e => (hR.f4 e).setOther _ (fun e2 => hR.f45 e e5 e2), fun _ => ⟨q, _, rfl, hq, hbx.set _, fun _ => rfl⟩, hR.f45, hR.f31, hR.f61, hR.f64, fun _ => e3, fun _ => e5⟩⟩
  · rintro l act w' ⟨b0, b1, b2, b3, b4, b5, b6, b7, v5, v6, v14, v15, v16, v17, rfl, rfl, hR⟩ hr9
    have e0 : b0 = true := ready_nil (i := 0) hr9 rfl (by intro e he hb; simp at he; (try (repeat' (rcases he with rfl | he))); all_goals (first | assumption | (exact absurd hb (by decide))))
    have e1 : b1 = true := ready_nil (i := 1) hr9 rfl (by intro e he hb; simp at he; (try (repeat' (rcases he with rfl | he))); all_goals (first | assumption | (exact absurd hb (by decide))))
    have e2 : b2 = true := ready_nil (i := 2) hr9 rfl (by intro e he hb; simp at he; (try (repeat' (rcases he with rfl | he))); all_goals (first | assumption | (exact absurd hb (by decide))))
    have e3 : b3 = true := ready_nil (i := 3) hr9 rfl (by intro e he hb; simp at he; (try (repeat' (rcases he with rfl | he))); all_goals (first | assumption | (exact absurd hb (by decide))))
    have e4 : b4 = true := ready_nil (i := 4) hr9 rfl (by intro e he hb; simp at he; (try (repeat' (rcases he with rfl | he))); all_goals (first | assumption | (exact absurd hb (by decide))))
    have e5 : b5 = true := ready_nil (i := 5) hr9 rfl (by intro e he hb; simp at he; (try (repeat' (rcases he with rfl | he))); all_goals (first | assumption | (exact absurd hb (by decide))))
    have e6 : b6 = true := ready_nil (i := 6) hr9 rfl (by intro e he hb; simp at he; (try (repeat' (rcases he with rfl | he))); all_goals (first | assumption | (exact absurd hb (by decide))))
    have e7 : b7 = true := ready_nil (i := 7) hr9 rfl (by intro e he hb; simp at he; (try (repeat' (rcases he with rfl | he))); all_goals (first | assumption | (exact absurd hb (by decide))))
    obtain ⟨qx, sx, rfl, hqx, hbx, hsx⟩ := hR.f4 e4
    obtain ⟨qy, sy, rfl, hqy, hby, hsy⟩ := hR.f5 e5
    obtain ⟨gx, cx, hvx, hlx⟩ := hR.f1 e1
    obtain ⟨gy, cy, hvy, hly⟩ := hR.f3 e3
    have hne := hR.f13 e3 gx cx gy cy hvx hvy
    have hsx' := hsx e6
    have hsy' := hsy e7
    rw [hvx] at hsx'
    rw [hvy] at hsy'
    obtain rfl : sx = .slice (some ⟨gx, 0, none⟩) n cx := by injection hsx' with h; injection h with h; injection h with h; exact h.symm
    obtain rfl : sy = .slice (some ⟨gy, 0, none⟩) n' cy := by injection hsy' with h; injection h with h; injection h with h; exact h.symm
    have hqq : qx ≠ qy := fun e => hR.f45 e4 e5 (by rw [e])
    obtain rfl := hR.f0 e0
    obtain rfl := hR.f2 e2
    subst hvx hvy
    have HQ : Hid (Pre2 w w' a b n n' ca cb qx qy gx cx gy cy xs ys) := hide ⟨hlx.mono (unhide HB0).size, hly.mono (unhide HB0).size, hne, (unhide HBA).kept hR.bel, (unhide HBB).kept hR.bel, hbx, hby, gr_trans (unhide HB0) hR.bel⟩
    clear hr9 hR hsx hsy hsx' hsy' hlx hly hbx hby hqx hqy HBA HBB HB0 HLX HLY

    have HS := hide (unhide HQ).book
    clear e0 e1 e2 e3 e4 e5 e6 e7 hqq HQ hne
    have hca := (unhide HS).st.cell (q := w.heap.size) (v := (.slice a n ca)) (by simp)
    have hcb := (unhide HS).st.cell (q := w.heap.size + 1) (v := (.slice b n' cb)) (by simp)
    have hcx := (unhide HS).st.cell (q := qx) (v := (.slice (some ⟨gx, 0, none⟩) n cx)) (by simp)
    have hcy := (unhide HS).st.cell (q := qy) (v := (.slice (some ⟨gy, 0, none⟩) n' cy)) (by simp)
    go_wp2_with fail
    refine (sums_any _ _ w.heap.size 0 _ _ _ _ _ _ a b n n' cx cy ca cb xs ys (unhide HS).st.led (by omega) (unhide HN) (unhide HN') hw hw' (by omega) (by omega) (unhide HS).lx.short.hold (unhide HS).ly.short.hold ((unhide HS).old (unhide HL)) ((unhide HS).old (unhide HL'))).mono ?_
    rintro e w1s ⟨rfl, vg1, vw1, gs1, ws1, hL1, hA1, hF1, hG1⟩
    have HSn := hide ((unhide HS).sums hL1 hA1 hF1 hG1)
    clear hL1 hA1 hF1 hG1 HS hca hcb hcx hcy
    have HS := HSn
    clear HSn
    have hca := (unhide HS).st.cell (q := w.heap.size) (v := (.slice a n ca)) (by simp)
    have hcx := (unhide HS).st.cell (q := qx) (v := (.slice (some ⟨gx, 0, none⟩) n cx)) (by simp)
    go_wp2_with fail
    refine (sums_any _ _ w.heap.size 3 _ _ _ _ _ _ a a n n cx cx ca ca xs xs (unhide HS).st.led (by omega) (unhide HN) (unhide HN) hw hw (by omega) (by omega) (unhide HS).lx.short.hold (unhide HS).lx.short.hold ((unhide HS).old (unhide HL)) ((unhide HS).old (unhide HL))).mono ?_
    rintro e w2s ⟨rfl, vg2, vw2, gs2, ws2, hL2, hA2, hF2, hG2⟩
    have HSn := hide ((unhide HS).sums hL2 hA2 hF2 hG2)
    clear hL2 hA2 hF2 hG2 HS hca hcx
    have HS := HSn
    clear HSn
    have hcx := (unhide HS).st.cell (q := qx) (v := (.slice (some ⟨gx, 0, none⟩) n cx)) (by simp)
    go_wp2_with fail
    generalize w'.heap.size = kp at *
    obtain ⟨ck, hck⟩ : ∃ ck, ck = chk xs := ⟨_, rfl⟩
    have HCX := hide (fun (W : World) (h : Lim W (some ⟨gx, 0, none⟩) xs) => check_any (some ⟨gx, 0, none⟩) cx xs W (by have := unhide HN; omega) h)
    have HCA := hide (fun (W : World) (h : Lim W a xs) => rcheck_any a ca xs W (by have := unhide HN; omega) h)
    rw [unhide HN, ← hck] at HCX HCA
    clear hck hcx
    refine wp_region_any (by kernel_rfl) ?_
    refine wpAny_inv (fun l act w' => ∃ (b0 b1 b2 b3 b4 b5 : Bool) (v0 v1 v2 v3 v4 v5 : Value), l = #[b0, b1, b2, b3, b4, b5] ∧ act = { tmps := #[Value.agg #[Value.slice a n ca], Value.agg #[Value.slice b n' cb], Value.pointer (some ⟨w.heap.size, 0, none⟩), Value.pointer (some ⟨w.heap.size + 1, 0, none⟩), Value.bool false, Value.pointer (some ⟨qx, 0, none⟩), Value.pointer (some ⟨qy, 0, none⟩), Value.pointer (some ⟨kp, 0, none⟩), Value.bool true, Value.bool true, v5, undef, undef, undef, Value.agg #[Value.slice a n ca], Value.agg #[Value.slice (some ⟨gx, 0, none⟩) n cx], Value.agg #[Value.slice b n' cb], Value.agg #[Value.slice (some ⟨gy, 0, none⟩) n' cy], Value.agg #[Value.slice none 0 0, Value.slice none 0 0, Value.bool false], Value.pointer (some ⟨kp, 0, none⟩), Value.pointer (some ⟨kp, 0, none⟩), Value.agg #[Value.slice (some ⟨gx, 0, none⟩) n cx], Value.agg #[Value.slice (some ⟨gy, 0, none⟩) n' cy], Value.agg #[Value.slice a n ca], Value.agg #[Value.slice b n' cb], Value.bool true, Value.pointer (some ⟨kp, 0, none⟩), Value.agg #[Value.slice (some ⟨gx, 0, none⟩) n cx], Value.agg #[Value.slice (some ⟨gx, 0, none⟩) n cx], Value.agg #[Value.slice a n ca], Value.agg #[Value.slice a n ca], Value.bool true, v0, v1, v2, v3, v4, undef, undef, undef, undef, undef, undef, undef, undef, undef, undef, undef, undef, undef, undef, undef, undef, undef, undef, undef, undef, undef, undef, undef, undef, undef, undef, undef, undef, undef, undef, undef, undef, undef, undef, undef, undef, undef, undef, undef, undef, undef, undef, undef, undef, undef, undef, undef, undef, undef, undef, undef, undef, undef, undef, undef, undef, undef, undef, undef, undef], defers := [] } ∧ R2 w2s a n gx cx ca ck b0 b1 b2 b3 b4 b5 v0 v1 v2 v3 v4 v5 w') ?_ ?_ _ _ _ _ ?_ ?_
    · rintro l act w' i9 ⟨b0, b1, b2, b3, b4, b5, v0, v1, v2, v3, v4, v5, rfl, rfl, hR⟩ hi9 hl9
      have hin9 : i9 < 6 := by
        by_cases h : i9 < 6
        · exact h
        · rw [Array.getElem?_eq_none (by simp; omega)] at hl9; cases hl9
      have hcase : i9 = 0 ∨ i9 = 1 ∨ i9 = 2 ∨ i9 = 3 ∨ i9 = 4 ∨ i9 = 5 := by omega
      clear hin9
      rcases hcase with rfl | rfl | rfl | rfl | rfl | rfl
      · have hc9 := (((unhide HS).kept hR.bel).st.cell (q := qx) (v := .slice (some ⟨gx, 0, none⟩) n cx) (by simp))
        refine wpOp_step rfl (fun K hK => ?_)
        go_simp
        exact hK _ _ ⟨true, b1, b2, b3, b4, b5, _, v1, v2, v3, v4, v5, rfl, rfl, ⟨hR.bel, fun _ => rfl, hR.f1, hR.f2, hR.f3, hR.f4, hR.f5⟩⟩
      · obtain ⟨o9, ho9, hd9⟩ := (mem_ready.1 hi9).2
        cases ho9
        have e0 : b0 = true := hd9 ⟨0, .data⟩ (by simp) rfl
        clear hd9
        obtain rfl := hR.f0 e0
        refine wpOp_step rfl (fun K hK => ?_)
        go_simp
        go_wp2_with fail
        refine (unhide HCX _ ((unhide HS).kept hR.bel).lx.lim).mono ?_
        rintro e w9 ⟨rfl, hb9⟩
        exact hK _ _ ⟨b0, true, b2, b3, b4, b5, _, _, v2, v3, v4, v5, rfl, rfl, ⟨gr_trans hR.bel hb9, hR.f0, fun _ => rfl, hR.f2, hR.f3, hR.f4, hR.f5⟩⟩
      · have hc9 := (((unhide HS).kept hR.bel).st.cell (q := w.heap.size) (v := .slice a n ca) (by simp))
        refine wpOp_step rfl (fun K hK => ?_)
        go_simp
        exact hK _ _ ⟨b0, b1, true, b3, b4, b5, v0, v1, _, v3, v4, v5, rfl, rfl, ⟨hR.bel, hR.f0, hR.f1, fun _ => rfl, hR.f3, hR.f4, hR.f5⟩⟩
      · obtain ⟨o9, ho9, hd9⟩ := (mem_ready.1 hi9).2
        cases ho9
        have e2 : b2 = true := hd9 ⟨2, .data⟩ (by simp) rfl
        clear hd9
        obtain rfl := hR.f2 e2
        refine wpOp_step rfl (fun K hK => ?_)
        go_simp
        go_wp2_with fail
        refine (unhide HCA _ ((unhide HS).kept hR.bel |>.old (unhide HL) |>.lim)).mono ?_
        rintro e w9 ⟨rfl, hb9⟩
        exact hK _ _ ⟨b0, b1, b2, true, b4, b5, v0, v1, _, _, v4, v5, rfl, rfl, ⟨gr_trans hR.bel hb9, hR.f0, hR.f1, hR.f2, fun _ => rfl, hR.f4, hR.f5⟩⟩
      · obtain ⟨o9, ho9, hd9⟩ := (mem_ready.1 hi9).2
        cases ho9
        have e1 : b1 = true := hd9 ⟨1, .data⟩ (by simp) rfl
        have e3 : b3 = true := hd9 ⟨3, .data⟩ (by simp) rfl
        clear hd9
        obtain rfl := hR.f1 e1
        obtain rfl := hR.f3 e3
        refine wpOp_step rfl (fun K hK => ?_)
        go_simp
        exact hK _ _ ⟨b0, b1, b2, b3, true, b5, v0, _, v2, _, _, v5, rfl, rfl, ⟨hR.bel, hR.f0, hR.f1, hR.f2, hR.f3, fun _ => by simp, hR.f5⟩⟩
      · obtain ⟨o9, ho9, hd9⟩ := (mem_ready.1 hi9).2
        cases ho9
        have e4 : b4 = true := hd9 ⟨4, .data⟩ (by simp) rfl
        clear hd9
        obtain rfl := hR.f4 e4
        refine wpOp_step rfl (fun K hK => ?_)
        go_simp
        exact hK _ _ ⟨b0, b1, b2, b3, b4, true, v0, v1, v2, v3, _, _, rfl, rfl, ⟨hR.bel, hR.f0, hR.f1, hR.f2, hR.f3, hR.f4, fun _ => rfl⟩⟩
    · rintro l act w' ⟨b0, b1, b2, b3, b4, b5, v0, v1, v2, v3, v4, v5, rfl, rfl, hR⟩ hr9
      have e0 : b0 = true := ready_nil (i := 0) hr9 rfl (by intro e he hb; simp at he; (try (repeat' (rcases he with rfl | he))); all_goals (first | assumption | (exact absurd hb (by decide))))
      have e1 : b1 = true := ready_nil (i := 1) hr9 rfl (by intro e he hb; simp at he; (try (repeat' (rcases he with rfl | he))); all_goals (first | assumption | (exact absurd hb (by decide))))
      have e2 : b2 = true := ready_nil (i := 2) hr9 rfl (by intro e he hb; simp at he; (try (repeat' (rcases he with rfl | he))); all_goals (first | assumption | (exact absurd hb (by decide))))
      have e3 : b3 = true := ready_nil (i := 3) hr9 rfl (by intro e he hb; simp at he; (try (repeat' (rcases he with rfl | he))); all_goals (first | assumption | (exact absurd hb (by decide))))
      have e4 : b4 = true := ready_nil (i := 4) hr9 rfl (by intro e he hb; simp at he; (try (repeat' (rcases he with rfl | he))); all_goals (first | assumption | (exact absurd hb (by decide))))
      have e5 : b5 = true := ready_nil (i := 5) hr9 rfl (by intro e he hb; simp at he; (try (repeat' (rcases he with rfl | he))); all_goals (first | assumption | (exact absurd hb (by decide))))
      subst e0 e1 e2 e3 e4 e5
      have h9 := (hR.f0 rfl).symm
      subst h9
      have h9 := (hR.f1 rfl).symm
      subst h9
      have h9 := (hR.f2 rfl).symm
      subst h9
      have h9 := (hR.f3 rfl).symm
      subst h9
      have h9 := (hR.f4 rfl).symm
      subst h9
      have h9 := (hR.f5 rfl).symm
      subst h9
      have hbel9 := hR.bel
      clear hr9 hR
      have HSn := hide ((unhide HS).kept hbel9)
      clear HS hbel9 HCX HCA
      have HS := HSn
      clear HSn
      have hca := (unhide HS).st.cell (q := w.heap.size) (v := .slice a n ca) (by simp)
      have hcx := (unhide HS).st.cell (q := qx) (v := .slice (some ⟨gx, 0, none⟩) n cx) (by simp)
      have hcb := (unhide HS).st.cell (q := w.heap.size + 1) (v := .slice b n' cb) (by simp)
      have hcy := (unhide HS).st.cell (q := qy) (v := .slice (some ⟨gy, 0, none⟩) n' cy) (by simp)
      go_wp2_with fail
      refine (kept_any gx cx n ca a xs _ w.heap.size (unhide HS).lx hb hw ((unhide HS).old (unhide HL)).lim).mono ?_
      rintro e w3 ⟨rfl, hb3⟩
      have HSn := hide ((unhide HS).kept hb3)
      clear HS hb3 hca hcx hcb hcy
      have HS := HSn
      clear HSn
      have hcb := (unhide HS).st.cell (q := w.heap.size + 1) (v := .slice b n' cb) (by simp)
      have hcy := (unhide HS).st.cell (q := qy) (v := .slice (some ⟨gy, 0, none⟩) n' cy) (by simp)
      go_wp2_with fail
      refine (kept_any gy cy n' cb b ys _ w.heap.size (unhide HS).ly hb' hw' ((unhide HS).old (unhide HL')).lim).mono ?_
      rintro e w4 ⟨rfl, hb4⟩
      have HSn := hide ((unhide HS).kept hb4)
      clear HS hb4 hcb hcy
      have HS := HSn
      clear HSn
      generalize [] ++ gs1 ++ gs2 = GS at *
      generalize [] ++ ws1 ++ ws2 = WS at *
      go_wp2_with fail
      go_loopw [11] (fun s11 wr => ∃ j : Nat, j ≤ n ∧ s11 = .int .i64 (j : Int) ∧ Hid (Su w wr kp 6 vg2 vw2 GS WS [(w.heap.size, .slice a n ca), (w.heap.size + 1, .slice b n' cb), (qx, .slice (some ⟨gx, 0, none⟩) n cx), (qy, .slice (some ⟨gy, 0, none⟩) n' cy)] gx n cx gy n' cy (xo xs j) ys)) (fun s11 _ => n - (intOf s11).toNat)
      case atStart => exact ⟨0, Nat.zero_le _, rfl, hide (by rw [xo_zero]; exact unhide HS)⟩
      case round =>
        clear HS
        obtain ⟨j, hj, rfl, HS⟩ := hrel
        have hcx := (unhide HS).st.cell (q := qx) (v := .slice (some ⟨gx, 0, none⟩) n cx) (by simp)
        by_cases hjn : j < n
        · have hlen := unhide HN
          obtain ⟨gb, egb, _, hg2, hcg, hfg⟩ := (unhide HS).lx.short.open (by omega)
          have egb' : gx = gb := by
            injection egb with egb
            injection egb
          subst egb'
          obtain ⟨z, hz⟩ : ∃ z, z = xs[j]?.getD 0 := ⟨_, rfl⟩
          have hz1 : z < 4294967296 := by rw [hz]; exact Pl.wf_at hw j
          have hcl : wr.cell? ⟨gx, j, none⟩ = some (.int .u32 (z : Int)) := by rw [hcg j hjn, xo_at xs j (by omega), hz]
          have hfl := hfg j
          have hxo := xor5 z hz1
          have hput := (unhide HS).put j (z ^^^ 5) hjn
          rw [hz, xo_set xs j (by omega), ← hz] at hput
          have HP := hide hput
          clear hcg hfg hput hz egb hlen hg2 HS hj
          go_wp2_with fail
          go_region
          have HP2 := hide ((unhide HP).kept (gr_refl (wr.setCell ⟨gx, j, none⟩ (.int .u32 ((z ^^^ 5 : Nat) : Int)))).drew)
          clear hcl hfl HP hcx
          generalize (wr.setCell ⟨gx, j, none⟩ (.int .u32 ((z ^^^ 5 : Nat) : Int))).drew = wq at *
          go_wp2
          go_roundw
          case rel => exact ⟨j + 1, by omega, by go_num, HP2⟩
          case measure => simp [intOf]; omega
        · obtain rfl : j = n := by omega
          clear hj hjn
          obtain ⟨zs, hzs⟩ : ∃ zs, zs = xo xs j := ⟨_, rfl⟩
          rw [← hzs] at HS
          have HZN : Hid (zs.length = j) := hide (by rw [hzs, xo_len]; exact unhide HN)
          have hwz : Pl.Wf zs := by rw [hzs]; exact xo_wf hw j
          clear hzs
          have HTW := hide (rtwin_any (some ⟨gx, 0, none⟩) j cx zs wr (unhide HZN) (unhide HS).lx.lim hb)
          go_wp2_with fail
          refine (unhide HTW).mono ?_
          rintro e w5 ⟨⟨tb, tc, rfl, hO⟩, hb5⟩
          have HO := hide (((hO.mono (unhide HS).size).kept (gr_alloc w5 (.cells #[.slice tb j tc] 24))).hold)
          have HSn := hide (((unhide HS).kept hb5).box (.slice tb j tc))
          clear HS hcx hO hb5 HTW
          have HS := HSn
          clear HSn
          have hcb := (unhide HS).st.cell (q := w.heap.size + 1) (v := .slice b n' cb) (by simp)
          have hcx := (unhide HS).st.cell (q := qx) (v := .slice (some ⟨gx, 0, none⟩) j cx) (by simp)
          have hcy := (unhide HS).st.cell (q := qy) (v := .slice (some ⟨gy, 0, none⟩) n' cy) (by simp)
          have hcc := (unhide HS).st.cell (q := w5.heap.size) (v := .slice tb j tc) (by simp)
          go_wp2_with fail
          refine (sums_any _ _ w.heap.size 6 _ _ _ _ _ _ tb b j n' cx cy tc cb zs ys (unhide HS).st.led (by omega) (unhide HZN) (unhide HN') hwz hw' (by omega) (by omega) (unhide HS).lx.short.hold (unhide HS).ly.short.hold (unhide HO) ((unhide HS).old (unhide HL'))).mono ?_
          rintro e w6 ⟨rfl, vg3, vw3, gs3, ws3, hL3, hA3, hF3, hG3⟩
          have HSn := hide ((unhide HS).sums hL3 hA3 hF3 hG3)
          clear hL3 hA3 hF3 hG3 HS HO hcb hcx hcy hcc
          have HS := HSn
          clear HSn
          have hcb := (unhide HS).st.cell (q := w.heap.size + 1) (v := .slice b n' cb) (by simp)
          have hcy := (unhide HS).st.cell (q := qy) (v := .slice (some ⟨gy, 0, none⟩) n' cy) (by simp)
          have hcx := (unhide HS).st.cell (q := qx) (v := .slice (some ⟨gx, 0, none⟩) j cx) (by simp)
          go_wp2_with fail
          refine (kept_any gy cy n' cb b ys _ w.heap.size (unhide HS).ly hb' hw' ((unhide HS).old (unhide HL')).lim).mono ?_
          rintro e w7 ⟨rfl, hb7⟩
          have HSn := hide ((unhide HS).kept hb7)
          clear HS hb7 hcb hcy hcx
          have HS := HSn
          clear HSn
          have hcy := (unhide HS).st.cell (q := qy) (v := .slice (some ⟨gy, 0, none⟩) n' cy) (by simp)
          have hcx := (unhide HS).st.cell (q := qx) (v := .slice (some ⟨gx, 0, none⟩) j cx) (by simp)
          go_wp2_with fail
          have hS8 := (unhide HS).kept (gr_alloc w7 (.cells #[.slice (some ⟨gx, 0, none⟩) j cx, .slice (some ⟨gy, 0, none⟩) n' cy] 24))
          have hE := hS8.ents hb hb'
          refine (led_stands _ w.heap.size 9 2 w7.heap.size 2 _ _ _ _ [.slice (some ⟨gx, 0, none⟩) j cx, .slice (some ⟨gy, 0, none⟩) n' cy] _ hS8.st.led hE rfl (by simp) (fun i u hi => ?_) hS8.size (by omega) (by omega)).mono ?_
          · rw [cell_of_row _ w7.heap.size i _ _ _ (heap_alloc_new w7 _)]
            simpa using hi
          · rintro e w9 ⟨rfl, hb9⟩
            have HB9 := hide (hS8.st.ad.bel.trans hb9)
            clear hb9 hS8 hE HS hcx hcy
            go_wp2
            go_ret
            exact ⟨rfl, unhide HB9⟩
    · simp
    · refine ⟨false, false, false, false, false, false, undef, undef, undef, undef, undef, undef, rfl, rfl, ?_⟩
      constructor
      · exact (gr_refl _).drew
      all_goals (intro h; cases h)
  · simp
  · refine ⟨false, false, false, false, false, false, false, false, undef, undef, undef, undef, undef, undef, rfl, rfl, ?_⟩
    constructor
    · exact (gr_refl W).drew
    all_goals (intro h; cases h)

end Go.Proofs.Ytkpbgjgebjcfeaa
