/- The law's own call sums: Cmp, Add, Mul and Sub of two numbers, in the program and in the document's own; three answers go into the book. -/
import Derived.Test.YtkpbgjgebjcfeaaSums0
import Derived.Test.YtkpbgjgebjcfeaaSmSt
namespace Go.Proofs.Ytkpbgjgebjcfeaa
open Go.RowKit

/-- What sums leaves. -/
def SumsTo (w : World) (p base k : Nat) (vg vw : Value) (gs ws : List Value) (en : Ending) (w' : World) : Prop :=
  en = .returned (.bool true) ∧ ∃ vg' vw' gs' ws', Led w' p base (k + 3) vg' vw' (gs ++ gs') (ws ++ ws') ∧ Ad w w' p base vg vw vg' vw' ∧ (∀ u ∈ gs', FreshV w u) ∧ (∀ u ∈ ws', FreshV w u)

set_option maxHeartbeats 8000000 in
set_option maxRecDepth 20000 in
theorem sums_any (w : World) (p base k : Nat) (vg vw : Value) (gs ws : List Value) (a1 a2 a3 a4 : Option Addr) (n n' c1 c2 c3 c4 : Nat) (xs ys : List Nat) (hL : Led w p base k vg vw gs ws) (hk : k ≤ 50) (hn : xs.length = n) (hn' : ys.length = n') (hw : Pl.Wf xs) (hw' : Pl.Wf ys) (hb : n ≤ 9223372036854775807) (hb' : n' ≤ 9223372036854775807)
    (h1 : Hold w base a1 xs) (h2 : Hold w base a2 ys) (h3 : Hold w base a3 xs) (h4 : Hold w base a4 ys) :
    Calls Try.prog 22 #[.pointer (some ⟨p, 0, none⟩), .agg #[.slice a1 n c1], .agg #[.slice a2 n' c2], .agg #[.slice a3 n c3], .agg #[.slice a4 n' c4]] w (SumsTo w p base k vg vw gs ws) := by
  obtain ⟨r1, e1, hC, hRC⟩ := cmp_both xs ys n n' hn hn' hw hw' hb hb'
  obtain ⟨m2, e2, hA, hRA⟩ := add_both xs ys n n' hn hn' hw hw' hb hb'
  obtain ⟨m3, e3, hM, hRM⟩ := mul_both xs ys n n' hn hn' hw hw' hb hb'
  obtain ⟨m4, ok4, e4, hS, hRS⟩ := sub_both xs ys n n' hn hn' hw hw' hb hb'
  have HC := hide hC
  have HRC := hide hRC
  have HA := hide hA
  have HRA := hide hRA
  have HM := hide hM
  have HRM := hide hRM
  have HSU := hide hS
  have HRS := hide hRS
  clear hC hRC hA hRA hM hRM hS hRS
  have hs0 : Bst w w p base k vg vw vg vw gs ws [] [(a1, xs), (a2, ys), (a3, xs), (a4, ys)] := ⟨hL, Ad.of_below (gr_refl w) hL.bw, fun x hx => absurd hx (by simp), fun y hy => by
    simp only [List.mem_cons, List.not_mem_nil, or_false] at hy
    rcases hy with rfl | rfl | rfl | rfl
    · exact h1
    · exact h2
    · exact h3
    · exact h4⟩
  have hs4 := (((hs0.box (.slice a1 n c1)).box (.slice a2 n' c2)).box (.slice a3 n c3)).box (.slice a4 n' c4)
  simp only [World.size_alloc] at hs4
  have HS := hide hs4
  clear hs0 hs4 hL h1 h2 h3 h4
  go_enter Try.func22, Try.ntmps22
  go_wp2_with fail
  refine (unhide HC _ _ _ _ _ ((unhide HS).lim (a := a1) (xs := xs) (by simp)) ((unhide HS).lim (a := a2) (xs := ys) (by simp))).mono ?_
  rintro e w1 ⟨rfl, hb1⟩
  have HSn := hide ((unhide HS).kept hb1)
  clear hb1 HS 
  have HS := HSn
  clear HSn
  have hx3 := (unhide HS).cell (q := w.heap.size + 1 + 1) (v := (.slice a3 n c3)) (by simp)
  have hx4 := (unhide HS).cell (q := w.heap.size + 1 + 1 + 1) (v := (.slice a4 n' c4)) (by simp)
  go_wp2_with fail
  refine (unhide HRC _ _ _ _ _ ((unhide HS).lim (a := a3) (xs := xs) (by simp)) ((unhide HS).lim (a := a4) (xs := ys) (by simp))).mono ?_
  rintro e w2 ⟨rfl, hb2⟩
  have HSn := hide ((unhide HS).kept hb2)
  clear hb2 HS hx3 hx4
  have HS := HSn
  clear HSn
  have hx1 := (unhide HS).cell (q := w.heap.size) (v := (.slice a1 n c1)) (by simp)
  have hx2 := (unhide HS).cell (q := w.heap.size + 1) (v := (.slice a2 n' c2)) (by simp)
  go_wp2_with fail
  refine (unhide HA _ _ _ _ _ ((unhide HS).lim (a := a1) (xs := xs) (by simp)) ((unhide HS).lim (a := a2) (xs := ys) (by simp))).mono ?_
  rintro e w0a ⟨⟨a0a, n0a, c0a, rfl, hm0a⟩, hb0a⟩
  have HF0 := hide (hm0a.fresh (unhide HS).led)
  have HFA0 := hide (hm0a.freshV (w := w) (unhide HS).size)
  have HM0a := hide ((hm0a.mono (base' := base) (unhide HS).led.bw).alloc (.cells #[.slice a0a n0a c0a] 24))
  have HSn := hide (((unhide HS).kept hb0a).box (.slice a0a n0a c0a))
  clear hm0a hb0a HS hx1 hx2
  have HS := HSn
  clear HSn
  have hx3 := (unhide HS).cell (q := w.heap.size + 1 + 1) (v := (.slice a3 n c3)) (by simp)
  have hx4 := (unhide HS).cell (q := w.heap.size + 1 + 1 + 1) (v := (.slice a4 n' c4)) (by simp)
  go_wp2_with fail
  refine (unhide HRA _ _ _ _ _ ((unhide HS).lim (a := a3) (xs := xs) (by simp)) ((unhide HS).lim (a := a4) (xs := ys) (by simp))).mono ?_
  rintro e w0b ⟨⟨a0b, n0b, c0b, rfl, hm0b⟩, hb0b⟩
  have HFB0 := hide (hm0b.freshV (w := w) (unhide HS).size)
  have HM0b := hide ((hm0b.mono (base' := base) (unhide HS).led.bw).alloc (.cells #[.slice a0b n0b c0b] 24))
  have HN0a := hide (((unhide HM0a).kept hb0b).alloc (.cells #[.slice a0b n0b c0b] 24))
  have HSn := hide (((unhide HS).kept hb0b).box (.slice a0b n0b c0b))
  clear hm0b hb0b HS hx3 hx4 HM0a
  have HS := HSn
  clear HSn
  have hz0 := (unhide HS).cell (q := w0a.heap.size) (v := .slice a0a n0a c0a) (by simp)
  have hy0 := (unhide HS).cell (q := w0b.heap.size) (v := .slice a0b n0b c0b) (by simp)
  go_wp2_with fail
  refine (led_adds p base (k + 0) _ _ _ _ a0a a0b n0a n0b c0a c0b m2 e2 _ (unhide HS).led (unhide HN0a) (unhide HF0) (unhide HM0b) (unhide HS).led.bw (by omega)).mono ?_
  rintro e w0d ⟨rfl, vg0, vw0, hL0, hA0⟩
  have HSn := hide ((unhide HS).added hL0 hA0)
  clear hL0 hA0 HS HN0a HM0b HF0 hz0 hy0
  have HS := HSn
  clear HSn
  have hx1 := (unhide HS).cell (q := w.heap.size) (v := (.slice a1 n c1)) (by simp)
  have hx2 := (unhide HS).cell (q := w.heap.size + 1) (v := (.slice a2 n' c2)) (by simp)
  go_wp2_with fail
  refine (unhide HM _ _ _ _ _ ((unhide HS).lim (a := a1) (xs := xs) (by simp)) ((unhide HS).lim (a := a2) (xs := ys) (by simp))).mono ?_
  rintro e w1a ⟨⟨a1a, n1a, c1a, rfl, hm1a⟩, hb1a⟩
  have HF1 := hide (hm1a.fresh (unhide HS).led)
  have HFA1 := hide (hm1a.freshV (w := w) (unhide HS).size)
  have HM1a := hide ((hm1a.mono (base' := base) (unhide HS).led.bw).alloc (.cells #[.slice a1a n1a c1a] 24))
  have HSn := hide (((unhide HS).kept hb1a).box (.slice a1a n1a c1a))
  clear hm1a hb1a HS hx1 hx2
  have HS := HSn
  clear HSn
  have hx3 := (unhide HS).cell (q := w.heap.size + 1 + 1) (v := (.slice a3 n c3)) (by simp)
  have hx4 := (unhide HS).cell (q := w.heap.size + 1 + 1 + 1) (v := (.slice a4 n' c4)) (by simp)
  go_wp2_with fail
  refine (unhide HRM _ _ _ _ _ ((unhide HS).lim (a := a3) (xs := xs) (by simp)) ((unhide HS).lim (a := a4) (xs := ys) (by simp))).mono ?_
  rintro e w1b ⟨⟨a1b, n1b, c1b, rfl, hm1b⟩, hb1b⟩
  have HFB1 := hide (hm1b.freshV (w := w) (unhide HS).size)
  have HM1b := hide ((hm1b.mono (base' := base) (unhide HS).led.bw).alloc (.cells #[.slice a1b n1b c1b] 24))
  have HN1a := hide (((unhide HM1a).kept hb1b).alloc (.cells #[.slice a1b n1b c1b] 24))
  have HSn := hide (((unhide HS).kept hb1b).box (.slice a1b n1b c1b))
  clear hm1b hb1b HS hx3 hx4 HM1a
  have HS := HSn
  clear HSn
  have hz1 := (unhide HS).cell (q := w1a.heap.size) (v := .slice a1a n1a c1a) (by simp)
  have hy1 := (unhide HS).cell (q := w1b.heap.size) (v := .slice a1b n1b c1b) (by simp)
  go_wp2_with fail
  refine (led_adds p base (k + 1) _ _ _ _ a1a a1b n1a n1b c1a c1b m3 e3 _ (unhide HS).led (unhide HN1a) (unhide HF1) (unhide HM1b) (unhide HS).led.bw (by omega)).mono ?_
  rintro e w1d ⟨rfl, vg1, vw1, hL1, hA1⟩
  have HSn := hide ((unhide HS).added hL1 hA1)
  clear hL1 hA1 HS HN1a HM1b HF1 hz1 hy1
  have HS := HSn
  clear HSn
  have hx1 := (unhide HS).cell (q := w.heap.size) (v := (.slice a1 n c1)) (by simp)
  have hx2 := (unhide HS).cell (q := w.heap.size + 1) (v := (.slice a2 n' c2)) (by simp)
  go_wp2_with fail
  refine (unhide HSU _ _ _ _ _ ((unhide HS).lim (a := a1) (xs := xs) (by simp)) ((unhide HS).lim (a := a2) (xs := ys) (by simp))).mono ?_
  rintro e w2a ⟨⟨a2a, n2a, c2a, rfl, hm2a⟩, hb2a⟩
  have HF2 := hide (hm2a.fresh (unhide HS).led)
  have HFA2 := hide (hm2a.freshV (w := w) (unhide HS).size)
  have HM2a := hide ((hm2a.mono (base' := base) (unhide HS).led.bw).alloc (.cells #[.slice a2a n2a c2a] 24))
  have HSn := hide (((unhide HS).kept hb2a).box (.slice a2a n2a c2a))
  clear hm2a hb2a HS hx1 hx2
  have HS := HSn
  clear HSn
  have hx3 := (unhide HS).cell (q := w.heap.size + 1 + 1) (v := (.slice a3 n c3)) (by simp)
  have hx4 := (unhide HS).cell (q := w.heap.size + 1 + 1 + 1) (v := (.slice a4 n' c4)) (by simp)
  go_wp2_with fail
  refine (unhide HRS _ _ _ _ _ ((unhide HS).lim (a := a3) (xs := xs) (by simp)) ((unhide HS).lim (a := a4) (xs := ys) (by simp))).mono ?_
  rintro e w2b ⟨⟨a2b, n2b, c2b, rfl, hm2b⟩, hb2b⟩
  have HFB2 := hide (hm2b.freshV (w := w) (unhide HS).size)
  have HM2b := hide ((hm2b.mono (base' := base) (unhide HS).led.bw).alloc (.cells #[.slice a2b n2b c2b] 24))
  have HN2a := hide (((unhide HM2a).kept hb2b).alloc (.cells #[.slice a2b n2b c2b] 24))
  have HSn := hide (((unhide HS).kept hb2b).box (.slice a2b n2b c2b))
  clear hm2b hb2b HS hx3 hx4 HM2a
  have HS := HSn
  clear HSn
  have hz2 := (unhide HS).cell (q := w2a.heap.size) (v := .slice a2a n2a c2a) (by simp)
  have hy2 := (unhide HS).cell (q := w2b.heap.size) (v := .slice a2b n2b c2b) (by simp)
  go_wp2_with fail
  refine (led_adds p base (k + 2) _ _ _ _ a2a a2b n2a n2b c2a c2b m4 e4 _ (unhide HS).led (unhide HN2a) (unhide HF2) (unhide HM2b) (unhide HS).led.bw (by omega)).mono ?_
  rintro e w2d ⟨rfl, vg2, vw2, hL2, hA2⟩
  have HSn := hide ((unhide HS).added hL2 hA2)
  clear hL2 hA2 HS HN2a HM2b HF2 hz2 hy2
  have HS := HSn
  clear HSn
  go_wp2_with fail
  go_ret
  refine ⟨rfl, _, _, [.slice a0a n0a c0a, .slice a1a n1a c1a, .slice a2a n2a c2a], [.slice a0b n0b c0b, .slice a1b n1b c1b, .slice a2b n2b c2b], ?_, (unhide HS).ad, fun u hu => ?_, fun u hu => ?_⟩
  · have := (unhide HS).led
    simpa using this
  · simp only [List.mem_cons, List.not_mem_nil, or_false] at hu
    rcases hu with rfl | rfl | rfl
    · exact unhide HFA0
    · exact unhide HFA1
    · exact unhide HFA2
  · simp only [List.mem_cons, List.not_mem_nil, or_false] at hu
    rcases hu with rfl | rfl | rfl
    · exact unhide HFB0
    · exact unhide HFB1
    · exact unhide HFB2

end Go.Proofs.Ytkpbgjgebjcfeaa
