/- The calls lent and kept: a copy with marks behind its limbs, and whether it is as it was. -/
import Derived.Test.YtkpbgjgebjcfeaaLed
namespace Go.Proofs.Ytkpbgjgebjcfeaa
open Go.RowKit

/-- A list of limbs with marks behind it, in a block of its own. -/
structure Lt (w : World) (base g n cap : Nat) (xs : List Nat) : Prop where
  own : Own w base (.slice (some ⟨g, 0, none⟩) (n + 3) cap) (xs ++ [77, 78, 79])
  len : xs.length = n
theorem Own.prefix {w : World} {base g m n cap : Nat} {ys : List Nat} (h : Own w base (.slice (some ⟨g, 0, none⟩) m cap) ys) (hn : n ≤ m) : Own w base (.slice (some ⟨g, 0, none⟩) n cap) (ys.take n) := by
  have hl := h.len
  rcases h with ⟨e, _⟩ | ⟨g', cap', cur, e, hg, hh, h1, h2, h3, hc⟩
  · cases e
  · injection e with e1 e2 e3
    injection e1 with e1
    injection e1 with e1
    subst e1 e3
    have e : (ys.take n).length = n := by rw [List.length_take]; omega
    refine Or.inr ⟨g, cap, cur, by rw [e], hg, hh, by omega, h2, h3, fun j hj => ?_⟩
    rw [e] at hj
    rw [hc j (by omega), List.getElem?_take, if_pos hj]
theorem Lt.short {w : World} {base g n cap : Nat} {xs : List Nat} (h : Lt w base g n cap xs) : Own w base (.slice (some ⟨g, 0, none⟩) n cap) xs := by
  have := h.own.prefix (n := n) (by omega)
  rwa [List.take_append_of_le_length (by rw [h.len]; omega), List.take_of_length_le (by rw [h.len]; omega)] at this
theorem Lt.lim {w : World} {base g n cap : Nat} {xs : List Nat} (h : Lt w base g n cap xs) : Lim w (some ⟨g, 0, none⟩) xs := by
  obtain ⟨a, c, e, _, _, hl⟩ := h.short.lim
  have := (Value.slice.inj e).1
  rw [this]; exact hl
theorem Lt.kept {w w' : World} {base g n cap : Nat} {xs : List Nat} (h : Lt w base g n cap xs) (hb : Below w.heap.size w w') : Lt w' base g n cap xs := ⟨h.own.kept hb, h.len⟩
theorem Lt.alloc {w : World} {base g n cap : Nat} {xs : List Nat} (h : Lt w base g n cap xs) (o : Obj) : Lt (w.alloc o) base g n cap xs := h.kept (gr_alloc _ _)
theorem Lt.added {w w' : World} {p base g n cap : Nat} {xs : List Nat} {vg vw vg' vw' : Value} (h : Lt w base g n cap xs) (k : Ad w w' p base vg vw vg' vw') : Lt w' base g n cap xs := ⟨k.own _ _ h.own, h.len⟩
theorem Lt.room {w : World} {base g n cap : Nat} {xs : List Nat} (h : Lt w base g n cap xs) : n + 3 ≤ cap ∧ cap ≤ 9223372036854775807 := h.own.room
theorem Lt.mono {w : World} {base base' g n cap : Nat} {xs : List Nat} (h : Lt w base g n cap xs) (hb : base' ≤ base) : Lt w base' g n cap xs := ⟨h.own.mono hb, h.len⟩

/-- A list of limbs, appended to nothing. -/
theorem append_lim (w : World) (a : Option Addr) (n cap : Nat) (xs : List Nat) (hn : xs.length = n) (hl : Lim w a xs) (hb : n ≤ 35184372088832) :
    ∃ v W, (Builtin.append_ #[22, 22] 22 #[.slice none 0 0, .slice a n cap]).run Try.prog w = .ok v W ∧ W.ownsRow w.heap.size 28 1 v n (xs.map (fun z : Nat => Value.int .u32 (z : Int))) ∧ Below w.heap.size w W := by
  obtain ⟨i0, hi, hz0, hz1, hz2⟩ := info_parts Try.info_limb
  rcases hl.parts with hx | ⟨hp, b, off, rfl, hlt, hc⟩
  · subst hx
    obtain rfl : n = 0 := by rw [← hn]; rfl
    refine ⟨.slice none 0 0, w, ?_, World.ownsRow_nil _ _ _ _, gr_refl _⟩
    cases a with
    | none => exact run_append_nothing (P := Try.prog) w 22 22 22 28 i0 Try.under_limbs hi none 0 0 (Nat.le_refl _) _ (Src.ofNil _ Try.under_limbs cap)
    | some ad => exact run_append_nothing (P := Try.prog) w 22 22 22 28 i0 Try.under_limbs hi none 0 0 (Nat.le_refl _) _ (Src.ofSlice _ Try.under_limbs ad 0 cap [] (by simp) (fun j u h => by simp at h) (fun u h => by simp at h))
  · obtain ⟨v, W, h1, h2, h3, _⟩ := run_append_own_at (P := Try.prog) (w := w) w.heap.size 22 22 28 i0 (.int .u32 0) 1 4 Try.under_limbs hi hz0 hz1 hz2 rfl (by decide) (.slice none 0 0) 0 [] (World.ownsRow_nil _ _ _ _) ⟨b, off, none⟩ n cap (xs.map (fun z : Nat => Value.int .u32 (z : Int))) (by simp; omega) (fun j u hj => by
        have hjn : j < xs.length := by have := (List.getElem?_eq_some_iff.1 hj).1; simpa using this
        have hv : u = .int .u32 ((xs[j]?.getD 0 : Nat) : Int) := by
          rw [List.getElem?_map, List.getElem?_eq_getElem hjn] at hj
          simp at hj
          rw [← hj]
          simp [hjn]
        rw [hv, Addr.add_lit]
        exact hc j hjn) (fun u hu => by obtain ⟨z, _, rfl⟩ := List.mem_map.1 hu; rfl) (by unfold maxLen; omega) (by omega) (Nat.le_refl _)
    refine ⟨v, W, h1, by simpa using h2, h3.os, h3.tape, h3.output, h3.size, fun k hk => h3.block k hk (by simp [Value.ownBlock])⟩

set_option maxHeartbeats 1000000 in
theorem lent_any (a : Option Addr) (n cap : Nat) (xs : List Nat) (w : World) (hn : xs.length = n) (hl : Lim w a xs) (hb : n ≤ 35184372087808) :
    Calls Try.prog 21 #[.agg #[.slice a n cap]] w fun e w' => (∃ g c, e = .returned (.agg #[.slice (some ⟨g, 0, none⟩) n c]) ∧ Lt w' w.heap.size g n c xs) ∧ Below w.heap.size w w' := by
  obtain ⟨i0, hi, hz0, hz1, hz2⟩ := info_parts Try.info_limb
  obtain ⟨W0, hW0⟩ : ∃ W0, (w.alloc (.cells #[.slice a n cap] 24)).alloc (.cells #[.slice none 0 0] 24) = W0 := ⟨_, rfl⟩
  have hb0 : Below w.heap.size w W0 := by rw [← hW0]; exact gr_trans (gr_alloc _ _) (gr_alloc _ _)
  have hx0 : Box W0 w.heap.size (.slice a n cap) := by rw [← hW0]; exact (Box.made w _).alloc _
  have hy0 : Box W0 (w.heap.size + 1) (.slice none 0 0) := by
    rw [← hW0]
    have := Box.made (w.alloc (.cells #[.slice a n cap] 24)) (.slice none 0 0)
    simpa using this
  obtain ⟨v1, W1, hr1, ho1, hb1⟩ := append_lim W0 a n cap xs hn (hl.below hb0) (by omega)
  have hx1 := hx0.kept hb1
  have hy1 := hy0.kept hb1
  obtain ⟨v2, W2, hr2, ho2, hg2, _⟩ := run_append_own_at (P := Try.prog) (w := W1.alloc (.cells #[.int .u32 77, .int .u32 78, .int .u32 79] 28)) W0.heap.size 22 22 28 i0 (.int .u32 0) 1 4 Try.under_limbs hi hz0 hz1 hz2 rfl (by decide) v1 n _ (ho1.alloc _) ⟨W1.heap.size, 0, none⟩ 3 3 [.int .u32 77, .int .u32 78, .int .u32 79] rfl
    (fun j u hj => by
      rw [Addr.add_lit, Nat.zero_add, cell_of_row _ _ j _ _ _ (heap_alloc_new W1 _)]
      simpa using hj)
    (fun u hu => by simp at hu; rcases hu with rfl | rfl | rfl <;> rfl) (by unfold maxLen; omega) (by omega) (by have := hb1.size; simp; omega)
  have hv1 := ho1.lt
  have hs0 := hb0.size
  have hs1 := hb1.size
  have hxl := hx0.lt
  have hyl := hy0.lt
  have hkeep : ∀ k, k < W0.heap.size → W2.heap[k]? = W0.heap[k]? := fun k hk => (hg2.block k (by simp; omega) (fun e => by have := hv1 k e.symm; omega)).trans (((gr_alloc W1 _).block k (by omega)).trans (hb1.block k hk))
  have hx2 : Box W2 w.heap.size (.slice a n cap) := by unfold Box; rw [hkeep _ hxl]; exact hx0
  have hy2 : Box W2 (w.heap.size + 1) (.slice none 0 0) := by unfold Box; rw [hkeep _ hyl]; exact hy0
  have hsz2 : W1.heap.size ≤ W2.heap.size := by have := hg2.size; simp at this; omega
  have hbel : Below w.heap.size w W2 := ⟨hg2.os.trans (hb1.os.trans hb0.os), hg2.tape.trans (hb1.tape.trans hb0.tape), hg2.output.trans (hb1.output.trans hb0.output), by omega, fun k hk => (hkeep k (by omega)).trans (hb0.block k hk)⟩
  have ho2' : W2.ownsRow W0.heap.size 28 1 v2 (n + 3) ((xs ++ [77, 78, 79]).map (fun z : Nat => Value.int .u32 (z : Int))) := by simpa using ho2
  obtain ⟨hO, g, hgb, hge⟩ := own_of_row ho2' (by simp; omega) (by omega) (show w.heap.size ≤ W0.heap.size by omega)
  obtain ⟨g', c, hform⟩ := own_form ho2 (by omega)
  subst hform
  have hroom := hO.room
  have HO := hide hO
  have HB := hide hbel
  have HN := hide hn
  have HY := hide hy2
  have hfy := hy2.frozen
  have hcx0 := hx0.cell
  have hcx1 := hx1.cell
  have hcx2 := hx2.cell
  have hcy2 := hy2.cell
  have hgl := hO.lt g' rfl
  clear hO hbel hn hl hb0 hx0 hy0 ho1 hb1 hx1 hy1 ho2 ho2' hg2 hv1 hkeep hx2 hy2 hgb hge hi hz0 hz1 hz2
  subst hW0
  go_enter Try.func21, Try.ntmps21
  go_wp2_with (at_builtin; first | refine wpList_append_run rfl (.tmp 4) (.tmp 6) 22 rfl hr1 ?_ | refine wpList_append_run rfl (.tmp 8) (.tmp 9) 22 rfl hr2 ?_)
  have hres := ((unhide HY).set (.slice (some ⟨g', 0, none⟩) n c)).cell
  have hgy : g' ≠ w.heap.size + 1 := fun e => by
    obtain ⟨cu, hcu⟩ := (unhide HO).type g' rfl
    have := unhide HY
    unfold Box at this
    rw [← e, hcu] at this
    injection this with this; injection this with _ this; exact absurd this (by decide)
  refine bodyPost_ret (v := .agg #[.slice (some ⟨g', 0, none⟩) n c]) (by simp [results, Try.results21, go_sem, hres]) rfl ⟨⟨g', c, rfl, (unhide HO).keep (fun k _ hk => heap_setCell_other W2 _ k _ (fun e => ?_)), unhide HN⟩, (unhide HB).setCell (by simp) _⟩
  simp only [Value.ownBlock] at hk
  injection hk with hk
  simp only at e
  omega

/-- What kept reads. -/
structure Kw (w W : World) (g cap b off n ca : Nat) (xs : List Nat) : Prop where
  bx : Box W w.heap.size (.slice (some ⟨g, 0, none⟩) n cap)
  ay : Box W (w.heap.size + 1) (.slice (some ⟨b, off, none⟩) n ca)
  n0 : W.cell? ⟨g, n, none⟩ = some (.int .u32 77)
  n1 : W.cell? ⟨g, n + 1, none⟩ = some (.int .u32 78)
  n2 : W.cell? ⟨g, n + 2, none⟩ = some (.int .u32 79)
  cg : ∀ j, j < n → W.cell? ⟨g, j, none⟩ = some (.int .u32 ((xs[j]?.getD 0 : Nat) : Int))
  cb : ∀ j, j < n → W.cell? ⟨b, off + j, none⟩ = some (.int .u32 ((xs[j]?.getD 0 : Nat) : Int))
  bel : Below w.heap.size w W
theorem Kw.drewN {w W : World} {g cap b off n ca : Nat} {xs : List Nat} (h : Kw w W g cap b off n ca xs) (k : Nat) : Kw w (W.drewN k) g cap b off n ca xs := ⟨h.bx, h.ay, h.n0, h.n1, h.n2, h.cg, h.cb, below_drewN h.bel k⟩

set_option maxHeartbeats 1000000 in
/-- What was lent is as it was. -/
theorem kept_some (g cap b off n ca : Nat) (xs : List Nat) (w : World) (base : Nat) (h : Lt w base g n cap xs) (hb : n ≤ 35184372087808) (hlt : 0 < n → b < w.heap.size) (hx : Pl.Wf xs)
    (hc : Hid (∀ j, j < n → w.cell? ⟨b, off + j, none⟩ = some (.int .u32 ((xs[j]?.getD 0 : Nat) : Int)))) :
    Calls Try.prog 24 #[.agg #[.slice (some ⟨g, 0, none⟩) n cap], .agg #[.slice (some ⟨b, off, none⟩) n ca]] w fun e w' => e = .returned (.bool true) ∧ Below w.heap.size w w' := by
  obtain ⟨gb, egb, _, hg2, hcg, _⟩ := h.own.open (by omega)
  have egb' : g = gb := by
    injection egb with egb
    injection egb
  subst egb'
  have hroom := h.room
  have hxl := h.len
  have m0 : w.cell? ⟨g, n, none⟩ = some (.int .u32 77) := by
    rw [hcg n (by omega), List.getElem?_append_right (by omega), hxl, Nat.sub_self]; rfl
  have m1 : w.cell? ⟨g, n + 1, none⟩ = some (.int .u32 78) := by
    rw [hcg (n + 1) (by omega), List.getElem?_append_right (by omega), hxl, Nat.add_sub_cancel_left]; rfl
  have m2 : w.cell? ⟨g, n + 2, none⟩ = some (.int .u32 79) := by
    rw [hcg (n + 2) (by omega), List.getElem?_append_right (by omega), hxl, Nat.add_sub_cancel_left]; rfl
  have HG : Hid (∀ j, j < n → w.cell? ⟨g, j, none⟩ = some (.int .u32 ((xs[j]?.getD 0 : Nat) : Int))) := hide (fun j hj => by
    rw [hcg j (by omega), List.getElem?_append_left (by omega)])
  clear hcg hxl h egb
  have HX : ∀ o1 o2 : Obj, ∀ q r v, w.cell? ⟨q, r, none⟩ = some v → ((w.alloc o1).alloc o2).cell? ⟨q, r, none⟩ = some v := fun o1 o2 q r v hv => by
    have hq := World.block_lt_of_cell? w _ hv
    exact ((gr_trans (gr_alloc w o1) (gr_alloc _ o2)).cell hq).trans hv
  obtain ⟨W0, hW0⟩ : ∃ W0, (w.alloc (.cells #[.slice (some ⟨g, 0, none⟩) n cap] 24)).alloc (.cells #[.slice (some ⟨b, off, none⟩) n ca] 24) = W0 := ⟨_, rfl⟩
  have hbx0 : Box W0 w.heap.size (.slice (some ⟨g, 0, none⟩) n cap) := by rw [← hW0]; exact (Box.made w _).alloc _
  have hby0 : Box W0 (w.heap.size + 1) (.slice (some ⟨b, off, none⟩) n ca) := by
    rw [← hW0]
    have := Box.made (w.alloc (.cells #[.slice (some ⟨g, 0, none⟩) n cap] 24)) (.slice (some ⟨b, off, none⟩) n ca)
    simpa using this
  have HB0 : Hid (Below w.heap.size w W0) := hide (by rw [← hW0]; exact gr_trans (gr_alloc _ _) (gr_alloc _ _))
  have n0 : W0.cell? ⟨g, n, none⟩ = some (.int .u32 77) := by rw [← hW0]; exact HX _ _ _ _ _ m0
  have n1 : W0.cell? ⟨g, n + 1, none⟩ = some (.int .u32 78) := by rw [← hW0]; exact HX _ _ _ _ _ m1
  have n2 : W0.cell? ⟨g, n + 2, none⟩ = some (.int .u32 79) := by rw [← hW0]; exact HX _ _ _ _ _ m2
  have HG0 : Hid (∀ j, j < n → W0.cell? ⟨g, j, none⟩ = some (.int .u32 ((xs[j]?.getD 0 : Nat) : Int))) := hide (fun j hj => by rw [← hW0]; exact HX _ _ _ _ _ (unhide HG j hj))
  have HC0 : Hid (∀ j, j < n → W0.cell? ⟨b, off + j, none⟩ = some (.int .u32 ((xs[j]?.getD 0 : Nat) : Int))) := hide (fun j hj => by rw [← hW0]; exact HX _ _ _ _ _ (unhide hc j hj))
  have HK := hide (Kw.mk hbx0 hby0 n0 n1 n2 (unhide HG0) (unhide HC0) (unhide HB0))
  have cx0 := hbx0.cell
  have cy0 := hby0.cell
  clear HX HG hc m0 m1 m2 n0 n1 n2 HG0 HC0 HB0 hbx0 hby0
  go_enter Try.func24, Try.ntmps24
  go_wp2
  clear hW0 cx0 cy0
  go_loopw [7] (fun s7 wr => ∃ k : Nat, k ≤ n ∧ s7 = .int .i64 (k : Int) ∧ Hid (Kw w wr g cap b off n ca xs)) (fun s7 _ => n - (intOf s7).toNat)
  case atStart => exact ⟨0, Nat.zero_le _, rfl, HK⟩
  case round =>
    clear HK
    obtain ⟨k, hk, rfl, HK⟩ := hrel
    have cx := (unhide HK).bx.cell
    have cy := (unhide HK).ay.cell
    by_cases hkn : k < n
    · obtain ⟨x, hxx⟩ : ∃ x, x = xs[k]?.getD 0 := ⟨_, rfl⟩
      have hx1 : x < 4294967296 := by rw [hxx]; exact Pl.wf_at hx k
      have d1 : wr.cell? ⟨g, k, none⟩ = some (.int .u32 (x : Int)) := by rw [hxx]; exact (unhide HK).cg k hkn
      have d2 : wr.cell? ⟨b, off + k, none⟩ = some (.int .u32 (x : Int)) := by rw [hxx]; exact (unhide HK).cb k hkn
      have hk3 : (k : Int) < (n : Int) + 3 := by omega
      have hk4 : (k : Int) < ((n + 3 : Nat) : Int) := by omega
      clear hxx
      go_wp2_with fail
      go_quiet (fail)
      have HK2 := hide ((unhide HK).drewN nq)
      generalize wr.drewN nq = wq at *
      go_wp2
      go_roundw
      case rel => exact ⟨k + 1, by omega, by go_num, HK2⟩
      case measure => simp [intOf]; omega
    · obtain rfl : k = n := by omega
      have k0 := (unhide HK).n0
      have k1 := (unhide HK).n1
      have k2 := (unhide HK).n2
      go_wp2
      go_ret
      exact ⟨rfl, (unhide HK).bel⟩

set_option maxHeartbeats 1000000 in
theorem kept_nil (g cap ca : Nat) (a : Option Addr) (w : World) (base : Nat) (h : Lt w base g 0 cap []) :
    Calls Try.prog 24 #[.agg #[.slice (some ⟨g, 0, none⟩) 0 cap], .agg #[.slice a 0 ca]] w fun e w' => e = .returned (.bool true) ∧ Below w.heap.size w w' := by
  obtain ⟨gb, egb, _, hg2, hcg, _⟩ := h.own.open (by omega)
  have egb' : g = gb := by
    injection egb with egb
    injection egb
  subst egb'
  have hroom := h.room
  have m0 : w.cell? ⟨g, 0, none⟩ = some (.int .u32 77) := hcg 0 (by omega)
  have m1 : w.cell? ⟨g, 1, none⟩ = some (.int .u32 78) := hcg 1 (by omega)
  have m2 : w.cell? ⟨g, 2, none⟩ = some (.int .u32 79) := hcg 2 (by omega)
  clear hcg h egb
  obtain ⟨W0, hW0⟩ : ∃ W0, (w.alloc (.cells #[.slice (some ⟨g, 0, none⟩) 0 cap] 24)).alloc (.cells #[.slice a 0 ca] 24) = W0 := ⟨_, rfl⟩
  have hbel : Below w.heap.size w W0 := by rw [← hW0]; exact gr_trans (gr_alloc _ _) (gr_alloc _ _)
  have hbx0 : Box W0 w.heap.size (.slice (some ⟨g, 0, none⟩) 0 cap) := by rw [← hW0]; exact (Box.made w _).alloc _
  have hby0 : Box W0 (w.heap.size + 1) (.slice a 0 ca) := by
    rw [← hW0]
    have := Box.made (w.alloc (.cells #[.slice (some ⟨g, 0, none⟩) 0 cap] 24)) (.slice a 0 ca)
    simpa using this
  have n0 : W0.cell? ⟨g, 0, none⟩ = some (.int .u32 77) := (hbel.cell hg2).trans m0
  have n1 : W0.cell? ⟨g, 1, none⟩ = some (.int .u32 78) := (hbel.cell hg2).trans m1
  have n2 : W0.cell? ⟨g, 2, none⟩ = some (.int .u32 79) := (hbel.cell hg2).trans m2
  have cx0 := hbx0.cell
  have cy0 := hby0.cell
  have HB := hide hbel
  clear m0 m1 m2 hbx0 hby0 hbel
  go_enter Try.func24, Try.ntmps24
  go_wp2
  refine wp_loop_rounds 1 ?_
  rw [rounds_succ]
  go_wp2
  go_ret
  exact ⟨rfl, unhide HB⟩

/-- Is what was lent as it was? Yes. -/
theorem kept_any (g cap n ca : Nat) (a : Option Addr) (xs : List Nat) (w : World) (base : Nat) (h : Lt w base g n cap xs) (hb : n ≤ 35184372087808) (hx : Pl.Wf xs) (hl : Lim w a xs) :
    Calls Try.prog 24 #[.agg #[.slice (some ⟨g, 0, none⟩) n cap], .agg #[.slice a n ca]] w fun e w' => e = .returned (.bool true) ∧ Below w.heap.size w w' := by
  have hn := h.len
  rcases hl.parts with h0 | ⟨hp, b, off, rfl, hlt, hc⟩
  · subst h0
    obtain rfl : n = 0 := by rw [← hn]; rfl
    exact kept_nil g cap ca a w base h
  · exact kept_some g cap b off n ca xs w base h hb (fun _ => hlt) hx (hide (fun j hj => hc j (by omega)))

/-- The book stands, with what was lent. -/
theorem led_stands (p base n m q cq : Nat) (vg vw : Value) (gs ws ls : List Value) (w : World) (hL : Led w p base n vg vw gs ws) (hE : Ents w base (gs ++ ls)) (hm : ls.length = m) (hq : q < w.heap.size) (hc : ∀ (j : Nat) (u : Value), ls[j]? = some u → w.cell? ⟨q, j, none⟩ = some u) (hb : base ≤ w.heap.size) (hn : n + m ≤ 100) (h0 : 0 < n) :
    Calls Try.prog 26 #[.pointer (some ⟨p, 0, none⟩), .slice (some ⟨q, 0, none⟩) m cq] w fun e w' => e = .returned (.bool true) ∧ Below base w w' := by
  obtain ⟨gg, cg, hvg⟩ := own_form hL.bk.rg h0
  obtain ⟨gw, cw, hvw⟩ := own_form hL.bk.rw h0
  have hB := hL.bk
  rw [hvg, hvw] at hB
  have hg1 := hB.rg.lt gg rfl
  have hw1 := hB.rw.lt gw rfl
  have hgl : gs.length = n := by have := hB.rg.1; omega
  have hel : (gs ++ ls).length = n + m := by rw [List.length_append]; omega
  obtain ⟨i0, hi, hz0, hz1, hz2⟩ := info_parts Try.info_nat
  refine stands_any p base n (n + m) gg cg gw cw (.slice (some ⟨q, 0, none⟩) m cq) gs ws w hB (by omega) hL.plt hg1.2 hw1.2 (fun i => sA (sv (gs ++ ls) i)) (fun i => sL (sv (gs ++ ls) i)) (fun i => sC (sv (gs ++ ls) i)) hn (by omega) (fun i hi => ?_) hb (hide fun wr hbel => ?_) (hide fun i hi => ?_)
  · obtain ⟨xs, ho, hl⟩ := hE.own i _ (sv_eq hE (by omega))
    have := ho.len
    show sL (sv (gs ++ ls) i) ≤ _
    omega
  · have hL2 := hL.kept hbel
    have hE2 := hE.keep (fun v xs ho => ho.kept hbel)
    have hr2 := hL2.bk.rg
    rw [hvg] at hr2
    obtain ⟨v', W', h1, h2, h3, _⟩ := run_append_own_at (P := Try.prog) (w := wr) base 41 41 24 i0 (.agg #[.slice none 0 0]) 1 24 Try.under_nats hi hz0 hz1 hz2 rfl (by decide) _ n gs hr2 ⟨q, 0, none⟩ m cq ls (by omega) (fun j u hj => by rw [Addr.add_lit, Nat.zero_add]; exact (hbel.cell (by exact hq)).trans (hc j u hj))
      (fun u hu => by
        obtain ⟨j, hj, rfl⟩ := List.getElem_of_mem hu
        have e : (gs ++ ls)[gs.length + j]? = some ls[j] := by rw [List.getElem?_append_right (by omega), Nat.add_sub_cancel_left, List.getElem?_eq_getElem hj]
        obtain ⟨a, k, c, hv⟩ := hE.slice e
        rw [hv]; rfl) (by unfold maxLen; omega) (by omega) (Nat.le_trans hb hbel.size)
    obtain ⟨g', cap', rfl⟩ := own_form h2 (by omega)
    have hE3 := hE2.keep (w' := W') (fun v xs ho => ho.keep (fun k hk hkv => h3.block k hk (fun e => by
      obtain ⟨cu, hcu⟩ := ho.type k hkv
      exact row_type hr2 e.symm hcu (by decide))))
    obtain ⟨X, hS⟩ := hE3.sts h2
    refine ⟨g', cap', W', X, h1, hS, (hbel.mono hb).trans ⟨h3.os, h3.tape, h3.output, h3.size, fun k hk => h3.block k (by have := hbel.size; omega) (fun e => by have := hr2.lt k e.symm; omega)⟩⟩
  · obtain ⟨a, k, c, a', k', c', m, h1, h2, h3, h4⟩ := hL.same i hi
    exact ⟨a, k, c, a', k', c', m, h1, h2, h3.num, h4.num⟩

end Go.Proofs.Ytkpbgjgebjcfeaa
