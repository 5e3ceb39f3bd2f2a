/- The law numerallaw01.NatShifts answers true. -/
import Derived.Test.YtkpbgjgebjcfeaaLent
import Derived.Test.YtkpbgjgebjcfeaaRefLow
import Derived.Test.YtkpbgjgebjcfeaaPAns
namespace Go.Proofs.Ytkpbgjgebjcfeaa
open Go.RowKit

theorem chk_cases (xs : List Nat) (n : Nat) (hn : xs.length = n) : chk xs ≠ 0 ∨ (chk xs = 0 ∧ Pl.Norm xs ∧ n ≤ 16384) := by
  by_cases h : chk xs = 0
  · obtain ⟨h1, h2⟩ := chk_zero h
    exact Or.inr ⟨h, h2, by omega⟩
  · exact Or.inl h

theorem up_both (xs : List Nat) (n : Nat) (k : Int) (hn : xs.length = n) (hw : Pl.Wf xs) (hb : n ≤ 9223372036854775807) (hk : k < 9223372036854775808) : ∃ (m : Nat) (code : Int),
    (∀ (W : World) (a : Option Addr) (ca : Nat), Lim W a xs → Calls Try.prog 14 #[.agg #[.slice a n ca], .int .i64 k] W fun e w' => PAns w' W.heap.size e m code ∧ Below W.heap.size W w') ∧
    (∀ (W : World) (a : Option Addr) (ca : Nat), Lim W a xs → Calls Try.prog 27 #[.agg #[.slice a n ca], .int .i64 k] W fun e w' => PAns w' W.heap.size e m code ∧ Below W.heap.size W w') := by
  rcases chk_cases xs n hn with hc | ⟨hc, hN, hle⟩
  · exact ⟨0, chk xs, fun W a ca hl => (up_bad a n ca k xs W hn hl hb hc).mono (fun e w' ⟨h1, h2⟩ => ⟨⟨none, 0, 0, h1, Mine.nil _ _⟩, h2⟩), fun W a ca hl => (rup_bad a n ca k xs W hn hl hb hc).mono (fun e w' ⟨h1, h2⟩ => ⟨⟨none, 0, 0, h1, Mine.nil _ _⟩, h2⟩)⟩
  · by_cases h0 : k < 0
    · exact ⟨0, 2, fun W a ca hl => (up_neg a n ca k xs W hn hl hb hc h0).mono (fun e w' ⟨h1, h2⟩ => ⟨⟨none, 0, 0, h1, Mine.nil _ _⟩, h2⟩), fun W a ca hl => (rup_neg a n ca k xs W hn hl hb hc h0).mono (fun e w' ⟨h1, h2⟩ => ⟨⟨none, 0, 0, h1, Mine.nil _ _⟩, h2⟩)⟩
    · obtain ⟨j, rfl⟩ : ∃ j : Nat, k = (j : Int) := ⟨k.toNat, by omega⟩
      have hnum : ∀ (W : World) (a : Option Addr), Lim W a xs → Num W a n (Pl.val xs) := fun W a hl => ⟨xs, hn, hl, hw, hN, rfl, hle⟩
      obtain ⟨m, code, hA⟩ := ans_both (Pl.val xs * 2 ^ j)
      exact ⟨m, code, fun W a ca hl => (up_any a n ca _ j W (hnum W a hl) (by omega)).mono (fun e w' ⟨h1, h2⟩ => ⟨hA _ _ _ h1, h2⟩), fun W a ca hl => (rup_any a n ca _ j W (hnum W a hl) (by omega)).mono (fun e w' ⟨h1, h2⟩ => ⟨hA _ _ _ h1, h2⟩)⟩

theorem down_both (xs : List Nat) (n : Nat) (k : Int) (hn : xs.length = n) (hw : Pl.Wf xs) (hb : n ≤ 9223372036854775807) (hk : k < 9223372036854775808) : ∃ (m : Nat) (code : Int),
    (∀ (W : World) (a : Option Addr) (ca : Nat), Lim W a xs → n ≤ ca → ca ≤ 9223372036854775807 → Calls Try.prog 29 #[.agg #[.slice a n ca], .int .i64 k] W fun e w' => PAns w' W.heap.size e m code ∧ Below W.heap.size W w') ∧
    (∀ (W : World) (a : Option Addr) (ca : Nat), Lim W a xs → Calls Try.prog 30 #[.agg #[.slice a n ca], .int .i64 k] W fun e w' => PAns w' W.heap.size e m code ∧ Below W.heap.size W w') := by
  rcases chk_cases xs n hn with hc | ⟨hc, hN, hle⟩
  · exact ⟨0, chk xs, fun W a ca hl _ _ => (down_bad a n ca k xs W hn hl hb hc).mono (fun e w' ⟨h1, h2⟩ => ⟨⟨none, 0, 0, h1, Mine.nil _ _⟩, h2⟩), fun W a ca hl => (rdown_bad a n ca k xs W hn hl hb hc).mono (fun e w' ⟨h1, h2⟩ => ⟨⟨none, 0, 0, h1, Mine.nil _ _⟩, h2⟩)⟩
  · by_cases h0 : k < 0
    · exact ⟨0, 2, fun W a ca hl _ _ => (down_neg a n ca k xs W hn hl hb hc h0).mono (fun e w' ⟨h1, h2⟩ => ⟨⟨none, 0, 0, h1, Mine.nil _ _⟩, h2⟩), fun W a ca hl => (rdown_neg a n ca k xs W hn hl hb hc h0).mono (fun e w' ⟨h1, h2⟩ => ⟨⟨none, 0, 0, h1, Mine.nil _ _⟩, h2⟩)⟩
    · obtain ⟨j, rfl⟩ : ∃ j : Nat, k = (j : Int) := ⟨k.toNat, by omega⟩
      have hnum : ∀ (W : World) (a : Option Addr), Lim W a xs → Num W a n (Pl.val xs) := fun W a hl => ⟨xs, hn, hl, hw, hN, rfl, hle⟩
      exact ⟨Pl.val xs / 2 ^ j, 0, fun W a ca hl h1 h2 => down_any a n ca _ j W (hnum W a hl) h1 h2 (by omega), fun W a ca hl => rdown_any a n ca _ j W (hnum W a hl) (by omega)⟩

theorem bits_both (xs : List Nat) (n : Nat) (hn : xs.length = n) (hw : Pl.Wf xs) (hb : n ≤ 9223372036854775807) : ∃ (r code : Int),
    (∀ (W : World) (a : Option Addr) (ca : Nat), Lim W a xs → Calls Try.prog 15 #[.agg #[.slice a n ca]] W fun e w' => e = .returned (.tuple #[.int .i64 r, .int .i64 code]) ∧ Below W.heap.size W w') ∧
    (∀ (W : World) (a : Option Addr) (ca : Nat), Lim W a xs → Calls Try.prog 31 #[.agg #[.slice a n ca]] W fun e w' => e = .returned (.tuple #[.int .i64 r, .int .i64 code]) ∧ Below W.heap.size W w') := by
  rcases chk_cases xs n hn with hc | ⟨hc, hN, hle⟩
  · exact ⟨0, chk xs, fun W a ca hl => bits_bad a n ca xs W hn hl hb hc, fun W a ca hl => rbits_bad a n ca xs W hn hl hb hc⟩
  · obtain ⟨j, hj⟩ := bl_ex (Pl.val xs)
    have hnum : ∀ (W : World) (a : Option Addr), Lim W a xs → Num W a n (Pl.val xs) := fun W a hl => ⟨xs, hn, hl, hw, hN, rfl, hle⟩
    refine ⟨(j : Int), 0, fun W a ca hl => (bits_any a n ca _ W (hnum W a hl)).mono ?_, fun W a ca hl => (rbits_any a n ca _ W (hnum W a hl)).mono ?_⟩
    · rintro e w' ⟨⟨i, rfl, h1, _⟩, h2⟩
      obtain rfl := h1.uniq hj
      exact ⟨rfl, h2⟩
    · rintro e w' ⟨⟨i, rfl, h1, _⟩, h2⟩
      obtain rfl := h1.uniq hj
      exact ⟨rfl, h2⟩

theorem bit_both (xs : List Nat) (n : Nat) (k : Int) (hn : xs.length = n) (hw : Pl.Wf xs) (hb : n ≤ 9223372036854775807) (hk : k < 9223372036854775808) : ∃ (r : Bool) (code : Int),
    (∀ (W : World) (a : Option Addr) (ca : Nat), Lim W a xs → Calls Try.prog 32 #[.agg #[.slice a n ca], .int .i64 k] W fun e w' => e = .returned (.tuple #[.bool r, .int .i64 code]) ∧ Below W.heap.size W w') ∧
    (∀ (W : World) (a : Option Addr) (ca : Nat), Lim W a xs → Calls Try.prog 33 #[.agg #[.slice a n ca], .int .i64 k] W fun e w' => e = .returned (.tuple #[.bool r, .int .i64 code]) ∧ Below W.heap.size W w') := by
  rcases chk_cases xs n hn with hc | ⟨hc, hN, hle⟩
  · exact ⟨false, chk xs, fun W a ca hl => bit_bad a n ca k xs W hn hl hb hc, fun W a ca hl => rbit_bad a n ca k xs W hn hl hb hc⟩
  · by_cases h0 : k < 0
    · exact ⟨false, 2, fun W a ca hl => bit_neg a n ca k xs W hn hl hb hc h0, fun W a ca hl => rbit_neg a n ca k xs W hn hl hb hc h0⟩
    · obtain ⟨j, rfl⟩ : ∃ j : Nat, k = (j : Int) := ⟨k.toNat, by omega⟩
      have hnum : ∀ (W : World) (a : Option Addr), Lim W a xs → Num W a n (Pl.val xs) := fun W a hl => ⟨xs, hn, hl, hw, hN, rfl, hle⟩
      exact ⟨decide (Pl.val xs / 2 ^ j % 2 = 1), 0, fun W a ca hl => bit_any a n ca _ j W (hnum W a hl) (by omega), fun W a ca hl => rbit_any a n ca _ j W (hnum W a hl) (by omega)⟩

theorem low_both (xs : List Nat) (n : Nat) (hn : xs.length = n) (hw : Pl.Wf xs) (hb : n ≤ 9223372036854775807) : ∃ (r : Int) (ok : Bool),
    (∀ (W : World) (a : Option Addr) (ca : Nat), Lim W a xs → Calls Try.prog 34 #[.agg #[.slice a n ca]] W fun e w' => e = .returned (.tuple #[.int .u64 r, .bool ok]) ∧ Below W.heap.size W w') ∧
    (∀ (W : World) (a : Option Addr) (ca : Nat), Lim W a xs → Calls Try.prog 35 #[.agg #[.slice a n ca]] W fun e w' => e = .returned (.tuple #[.int .u64 r, .bool ok]) ∧ Below W.heap.size W w') := by
  rcases chk_cases xs n hn with hc | ⟨hc, hN, hle⟩
  · exact ⟨0, false, fun W a ca hl => low_bad a n ca xs W hn hl hb hc, fun W a ca hl => rlow_bad a n ca xs W hn hl hb hc⟩
  · have hnum : ∀ (W : World) (a : Option Addr), Lim W a xs → Num W a n (Pl.val xs) := fun W a hl => ⟨xs, hn, hl, hw, hN, rfl, hle⟩
    by_cases h2 : n ≤ 2
    · exact ⟨(Pl.val xs : Int), true, fun W a ca hl => low_small a n ca _ W (hnum W a hl) h2, fun W a ca hl => rlow_small a n ca _ W (hnum W a hl) h2⟩
    · exact ⟨0, false, fun W a ca hl => low_big a n ca _ W (hnum W a hl) (by omega), fun W a ca hl => rlow_big a n ca _ W (hnum W a hl) (by omega)⟩

/-- Where the law stands: the book, what was lent, the variables. -/
structure St (w W : World) (p g n c ca qa qx k : Nat) (a : Option Addr) (xs : List Nat) (vg vw : Value) (gs ws : List Value) : Prop where
  led : Led W p w.heap.size k vg vw gs ws
  lt : Lt W w.heap.size g n c xs
  ba : Bx W vg vw qa (.slice a n ca)
  bx : Bx W vg vw qx (.slice (some ⟨g, 0, none⟩) n c)
  bel : Below w.heap.size w W
  ap : ∀ u ∈ gs, ApartV (.slice (some ⟨g, 0, none⟩) n c) u
theorem St.kept {w W W' : World} {p g n c ca qa qx k : Nat} {a : Option Addr} {xs : List Nat} {vg vw : Value} {gs ws : List Value} (h : St w W p g n c ca qa qx k a xs vg vw gs ws) (hb : Below W.heap.size W W') : St w W' p g n c ca qa qx k a xs vg vw gs ws :=
  ⟨h.led.kept hb, h.lt.kept hb, h.ba.kept hb, h.bx.kept hb, gr_trans h.bel hb, h.ap⟩
theorem St.alloc {w W : World} {p g n c ca qa qx k : Nat} {a : Option Addr} {xs : List Nat} {vg vw : Value} {gs ws : List Value} (h : St w W p g n c ca qa qx k a xs vg vw gs ws) (o : Obj) : St w (W.alloc o) p g n c ca qa qx k a xs vg vw gs ws := h.kept (gr_alloc _ _)
theorem St.added {w W W' : World} {p g n c ca qa qx k : Nat} {a : Option Addr} {xs : List Nat} {vg vw vg' vw' : Value} {gs ws ws' : List Value} {v : Value} (h : St w W p g n c ca qa qx k a xs vg vw gs ws) (hl : Led W' p w.heap.size (k + 1) vg' vw' (gs ++ [v]) ws') (ha : Ad W W' p w.heap.size vg vw vg' vw') (hv : ApartV (.slice (some ⟨g, 0, none⟩) n c) v) : St w W' p g n c ca qa qx (k + 1) a xs vg' vw' (gs ++ [v]) ws' :=
  ⟨hl, h.lt.added ha, h.ba.added h.led ha, h.bx.added h.led ha, h.bel.trans ha.bel, fun u hu => by
    rcases List.mem_append.1 hu with hu | hu
    · exact h.ap u hu
    · rw [List.mem_singleton.1 hu]; exact hv⟩
/-- What is answered later lies apart from what was lent. -/
theorem St.far {w W W' : World} {p g n c ca qa qx k : Nat} {a : Option Addr} {xs : List Nat} {vg vw : Value} {gs ws : List Value} (h : St w W p g n c ca qa qx k a xs vg vw gs ws) {b : Option Addr} {l cb m : Nat} (hm : Mine W' W.heap.size b l cb m) : ApartV (.slice (some ⟨g, 0, none⟩) n c) (.slice b l cb) := by
  obtain ⟨ys, _, ho, _⟩ := hm
  intro q hq hq2
  have h1 := h.lt.short.lt q hq
  have h2 := ho.lt q hq2
  omega

set_option maxHeartbeats 4000000 in
set_option maxRecDepth 20000 in
theorem shifts_any (a : Option Addr) (n ca : Nat) (k : Int) (xs : List Nat) (w : World) (hn : xs.length = n) (hl : Lim w a xs) (hw : Pl.Wf xs) (hb : n ≤ 35184372087808) (hk' : k < 9223372036854775808) :
    Calls Try.prog 5 #[.agg #[.slice a n ca], .int .i64 k] w fun e w' => e = .returned (.bool true) ∧ Below w.heap.size w w' := by
  obtain ⟨m1, e1, hU, hRU⟩ := up_both xs n k hn hw (by omega) hk'
  obtain ⟨m2, e2, hD, hRD⟩ := down_both xs n k hn hw (by omega) hk'
  obtain ⟨m3, e3, hZ, hRZ⟩ := down_both xs n 0 hn hw (by omega) (by omega)
  obtain ⟨r4, e4, hB, hRB⟩ := bits_both xs n hn hw (by omega)
  obtain ⟨r5, e5, hT, hRT⟩ := bit_both xs n k hn hw (by omega) hk'
  obtain ⟨r6, e6, hO, hRO⟩ := low_both xs n hn hw (by omega)
  have HU := hide hU
  have HRU := hide hRU
  have HD := hide hD
  have HRD := hide hRD
  have HZ := hide hZ
  have HRZ := hide hRZ
  have HB := hide hB
  have HRB := hide hRB
  have HT := hide hT
  have HRT := hide hRT
  have HO := hide hO
  have HRO := hide hRO
  have HL := hide hl
  have HLN := hide (fun o : Obj => lent_any a n ca xs (w.alloc o) hn (hl.alloc o) hb)
  clear hU hRU hD hRD hZ hRZ hB hRB hT hRT hO hRO hl hn
  go_enter Try.func5, Try.ntmps5
  go_wp2_with fail
  refine (unhide HLN _).mono ?_
  rintro e w1 ⟨⟨g, c, rfl, hlt⟩, hb1⟩
  obtain ⟨W, hW⟩ : ∃ W, (w1.alloc (.cells #[.slice (some ⟨g, 0, none⟩) n c] 24)).alloc (.cells #[.slice none 0 0, .slice none 0 0, .bool false] 43) = W := ⟨_, rfl⟩
  have hb0 := gr_trans (gr_alloc w (.cells #[.slice a n ca] 24)) hb1
  have hs1 := hb0.size
  have hS0 : St w W (w1.heap.size + 1) g n c ca w.heap.size w1.heap.size 0 a xs (.slice none 0 0) (.slice none 0 0) [] [] := by
    rw [← hW]
    refine ⟨?_, ((hlt.mono (by simp)).alloc _).alloc _, ⟨(((Box.made w _).kept hb1).alloc _).alloc _, by simp [Value.ownBlock], by simp [Value.ownBlock]⟩, ⟨(Box.made w1 _).alloc _, by simp [Value.ownBlock], by simp [Value.ownBlock]⟩, gr_trans (gr_trans hb0 (gr_alloc _ _)) (gr_alloc _ _), fun u hu => by cases hu⟩
    have := Led.new (w1.alloc (.cells #[.slice (some ⟨g, 0, none⟩) n c] 24)) w.heap.size (by simp; omega)
    simpa using this
  have HS := hide hS0
  have hx := hS0.bx.cell
  clear hlt hb1 hb0 hS0 HLN
  go_wp2_with fail
  refine (unhide HU _ _ _ (unhide HS).lt.lim).mono ?_
  rintro e w0a ⟨⟨a0a, n0a, c0a, rfl, hm0a⟩, hb0a⟩
  have HF0 := hide (hm0a.fresh (unhide HS).led)
  have HG0 := hide ((unhide HS).far hm0a)
  have HM0a := hide ((hm0a.mono (base' := w.heap.size) (unhide HS).bel.size).alloc (.cells #[.slice a0a n0a c0a] 24))
  have HX0a := hide (Bx.made ((unhide HS).kept hb0a).led (.slice a0a n0a c0a))
  have HS0a := hide (((unhide HS).kept hb0a).alloc (.cells #[.slice a0a n0a c0a] 24))
  have hy := (unhide HS0a).ba.cell
  clear hm0a hb0a HS hx
  go_wp2_with fail
  refine (unhide HRU _ _ _ ((unhide HL).below (unhide HS0a).bel)).mono ?_
  rintro e w0b ⟨⟨a0b, n0b, c0b, rfl, hm0b⟩, hb0b⟩
  have HM0b := hide ((hm0b.mono (base' := w.heap.size) (unhide HS0a).bel.size).alloc (.cells #[.slice a0b n0b c0b] 24))
  have HN0a := hide (((unhide HM0a).kept hb0b).alloc (.cells #[.slice a0b n0b c0b] 24))
  have HY0a := hide (((unhide HX0a).kept hb0b).alloc (.cells #[.slice a0b n0b c0b] 24))
  have HS0b := hide (((unhide HS0a).kept hb0b).alloc (.cells #[.slice a0b n0b c0b] 24))
  have hz := (unhide HY0a).cell
  clear hm0b hb0b HS0a HM0a HX0a hy
  go_wp2_with fail
  refine (led_adds _ w.heap.size 0 _ _ _ _ a0a a0b n0a n0b c0a c0b m1 e1 _ (unhide HS0b).led (unhide HN0a) (unhide HF0) (unhide HM0b) (unhide HS0b).bel.size (by omega)).mono ?_
  rintro e w0d ⟨rfl, vg0, vw0, hL0, hA0⟩
  have HS := hide ((unhide HS0b).added hL0 hA0 (unhide HG0))
  have hx := (unhide HS).bx.cell
  clear hL0 hA0 HS0b HN0a HY0a HM0b HF0 HG0 hz
  go_wp2_with fail
  refine (unhide HD _ _ _ (unhide HS).lt.lim (by have := (unhide HS).lt.room; omega) (unhide HS).lt.room.2).mono ?_
  rintro e w1a ⟨⟨a1a, n1a, c1a, rfl, hm1a⟩, hb1a⟩
  have HF1 := hide (hm1a.fresh (unhide HS).led)
  have HG1 := hide ((unhide HS).far hm1a)
  have HM1a := hide ((hm1a.mono (base' := w.heap.size) (unhide HS).bel.size).alloc (.cells #[.slice a1a n1a c1a] 24))
  have HX1a := hide (Bx.made ((unhide HS).kept hb1a).led (.slice a1a n1a c1a))
  have HS1a := hide (((unhide HS).kept hb1a).alloc (.cells #[.slice a1a n1a c1a] 24))
  have hy := (unhide HS1a).ba.cell
  clear hm1a hb1a HS hx
  go_wp2_with fail
  refine (unhide HRD _ _ _ ((unhide HL).below (unhide HS1a).bel)).mono ?_
  rintro e w1b ⟨⟨a1b, n1b, c1b, rfl, hm1b⟩, hb1b⟩
  have HM1b := hide ((hm1b.mono (base' := w.heap.size) (unhide HS1a).bel.size).alloc (.cells #[.slice a1b n1b c1b] 24))
  have HN1a := hide (((unhide HM1a).kept hb1b).alloc (.cells #[.slice a1b n1b c1b] 24))
  have HY1a := hide (((unhide HX1a).kept hb1b).alloc (.cells #[.slice a1b n1b c1b] 24))
  have HS1b := hide (((unhide HS1a).kept hb1b).alloc (.cells #[.slice a1b n1b c1b] 24))
  have hz := (unhide HY1a).cell
  clear hm1b hb1b HS1a HM1a HX1a hy
  go_wp2_with fail
  refine (led_adds _ w.heap.size 1 _ _ _ _ a1a a1b n1a n1b c1a c1b m2 e2 _ (unhide HS1b).led (unhide HN1a) (unhide HF1) (unhide HM1b) (unhide HS1b).bel.size (by omega)).mono ?_
  rintro e w1d ⟨rfl, vg1, vw1, hL1, hA1⟩
  have HS := hide ((unhide HS1b).added hL1 hA1 (unhide HG1))
  have hx := (unhide HS).bx.cell
  clear hL1 hA1 HS1b HN1a HY1a HM1b HF1 HG1 hz
  go_wp2_with fail
  refine (unhide HZ _ _ _ (unhide HS).lt.lim (by have := (unhide HS).lt.room; omega) (unhide HS).lt.room.2).mono ?_
  rintro e w2a ⟨⟨a2a, n2a, c2a, rfl, hm2a⟩, hb2a⟩
  have HF2 := hide (hm2a.fresh (unhide HS).led)
  have HG2 := hide ((unhide HS).far hm2a)
  have HM2a := hide ((hm2a.mono (base' := w.heap.size) (unhide HS).bel.size).alloc (.cells #[.slice a2a n2a c2a] 24))
  have HX2a := hide (Bx.made ((unhide HS).kept hb2a).led (.slice a2a n2a c2a))
  have HS2a := hide (((unhide HS).kept hb2a).alloc (.cells #[.slice a2a n2a c2a] 24))
  have hy := (unhide HS2a).ba.cell
  clear hm2a hb2a HS hx
  go_wp2_with fail
  refine (unhide HRZ _ _ _ ((unhide HL).below (unhide HS2a).bel)).mono ?_
  rintro e w2b ⟨⟨a2b, n2b, c2b, rfl, hm2b⟩, hb2b⟩
  have HM2b := hide ((hm2b.mono (base' := w.heap.size) (unhide HS2a).bel.size).alloc (.cells #[.slice a2b n2b c2b] 24))
  have HN2a := hide (((unhide HM2a).kept hb2b).alloc (.cells #[.slice a2b n2b c2b] 24))
  have HY2a := hide (((unhide HX2a).kept hb2b).alloc (.cells #[.slice a2b n2b c2b] 24))
  have HS2b := hide (((unhide HS2a).kept hb2b).alloc (.cells #[.slice a2b n2b c2b] 24))
  have hz := (unhide HY2a).cell
  clear hm2b hb2b HS2a HM2a HX2a hy
  go_wp2_with fail
  refine (led_adds _ w.heap.size 2 _ _ _ _ a2a a2b n2a n2b c2a c2b m3 e3 _ (unhide HS2b).led (unhide HN2a) (unhide HF2) (unhide HM2b) (unhide HS2b).bel.size (by omega)).mono ?_
  rintro e w2d ⟨rfl, vg2, vw2, hL2, hA2⟩
  have HS := hide ((unhide HS2b).added hL2 hA2 (unhide HG2))
  have hx := (unhide HS).bx.cell
  clear hL2 hA2 HS2b HN2a HY2a HM2b HF2 HG2 hz
  go_wp2_with fail
  refine (unhide HB _ _ _ (unhide HS).lt.lim).mono ?_
  rintro e w4p ⟨rfl, hb4p⟩
  have HT4 := hide ((unhide HS).kept hb4p)
  have hy := (unhide HT4).ba.cell
  clear hb4p HS hx
  go_wp2_with fail
  refine (unhide HRB _ _ _ ((unhide HL).below (unhide HT4).bel)).mono ?_
  rintro e w4q ⟨rfl, hb4q⟩
  have HS := hide ((unhide HT4).kept hb4q)
  have hx := (unhide HS).bx.cell
  clear hb4q HT4 hy
  go_wp2_with fail
  refine (unhide HT _ _ _ (unhide HS).lt.lim).mono ?_
  rintro e w5p ⟨rfl, hb5p⟩
  have HT5 := hide ((unhide HS).kept hb5p)
  have hy := (unhide HT5).ba.cell
  clear hb5p HS hx
  go_wp2_with fail
  refine (unhide HRT _ _ _ ((unhide HL).below (unhide HT5).bel)).mono ?_
  rintro e w5q ⟨rfl, hb5q⟩
  have HS := hide ((unhide HT5).kept hb5q)
  have hx := (unhide HS).bx.cell
  clear hb5q HT5 hy
  go_wp2_with fail
  refine (unhide HO _ _ _ (unhide HS).lt.lim).mono ?_
  rintro e w6p ⟨rfl, hb6p⟩
  have HT6 := hide ((unhide HS).kept hb6p)
  have hy := (unhide HT6).ba.cell
  clear hb6p HS hx
  go_wp2_with fail
  refine (unhide HRO _ _ _ ((unhide HL).below (unhide HT6).bel)).mono ?_
  rintro e w6q ⟨rfl, hb6q⟩
  have HS := hide ((unhide HT6).kept hb6q)
  have hx := (unhide HS).bx.cell
  have hy2 := (unhide HS).ba.cell
  clear hb6q HT6 hy
  go_wp2_with fail
  refine (kept_any g c n ca a xs _ w.heap.size (unhide HS).lt hb hw ((unhide HL).below (unhide HS).bel)).mono ?_
  rintro e w7 ⟨rfl, hb7⟩
  have HS7 := hide ((unhide HS).kept hb7)
  have hx7 := (unhide HS7).bx.cell
  clear hb7 HS hx hy2
  go_wp2_with fail
  have hS8 := (unhide HS7).alloc (.cells #[.slice (some ⟨g, 0, none⟩) n c] 24)
  have hE := hS8.led.ent.snoc hS8.lt.short (by rw [hS8.lt.len]; exact hb) hS8.ap
  refine (led_stands _ w.heap.size 3 1 w7.heap.size 1 _ _ _ _ [.slice (some ⟨g, 0, none⟩) n c] _ hS8.led hE rfl (by simp) (fun j u hj => ?_) hS8.bel.size (by omega) (by omega)).mono ?_
  · match j, hj with
    | 0, hj => simp at hj; subst hj; exact (Box.made w7 _).cell
    | j + 1, hj => simp at hj
  · rintro e w9 ⟨rfl, hb9⟩
    have HB9 := hide (hS8.bel.trans hb9)
    clear hb9 hS8 hE HS7 hx7
    go_wp2
    go_ret
    exact ⟨rfl, unhide HB9⟩

end Go.Proofs.Ytkpbgjgebjcfeaa
