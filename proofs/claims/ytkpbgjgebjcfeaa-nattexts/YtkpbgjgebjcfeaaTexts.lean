/- The law numerallaw01.NatTexts answers true. -/
import Derived.Test.YtkpbgjgebjcfeaaLent
import Derived.Test.YtkpbgjgebjcfeaaRefText
import Derived.Test.YtkpbgjgebjcfeaaRefParse
import Derived.Test.YtkpbgjgebjcfeaaPAns
namespace Go.Proofs.Ytkpbgjgebjcfeaa
open Go.RowKit

set_option maxHeartbeats 400000 in
theorem text_bad (a : Option Addr) (n cap : Nat) (xs : List Nat) (w : World) (hn : xs.length = n) (hl : Lim w a xs) (hb : n ≤ 9223372036854775807) (hc : chk xs ≠ 0) :
    Calls Try.prog 38 #[.agg #[.slice a n cap]] w fun e w' => e = .returned (.tuple #[.string ⟨#[]⟩, .int .i64 (chk xs)]) ∧ Below w.heap.size w w' := by
  have HK := hide (fun (W : World) (h : Lim W a xs) => check_any a cap xs W (by omega) h)
  rw [hn] at HK
  obtain ⟨c, hcc⟩ : ∃ c, c = chk xs := ⟨_, rfl⟩
  rw [← hcc] at HK hc ⊢
  have hne : (c != 0) = true := by simp [hc]
  have hne2 : (c == 0) = false := by simp [hc]
  clear hcc hn hc
  go_enter Try.func38, Try.ntmps38
  go_wp2_with fail
  refine (unhide HK _ (hl.alloc _)).mono ?_
  rintro e w1 ⟨rfl, hb1⟩
  have hbx := (Box.made w (.slice a n cap)).kept hb1
  have hcx := hbx.cell
  have HB := hide (gr_trans (gr_alloc w (.cells #[.slice a n cap] 24)) hb1)
  clear hb1 HK
  go_wp2
  go_ret2
  exact ⟨rfl, unhide HB⟩

set_option maxHeartbeats 400000 in
theorem rtext_bad (a : Option Addr) (n cap : Nat) (xs : List Nat) (w : World) (hn : xs.length = n) (hl : Lim w a xs) (hb : n ≤ 9223372036854775807) (hc : chk xs ≠ 0) :
    Calls Try.prog 39 #[.agg #[.slice a n cap]] w fun e w' => e = .returned (.tuple #[.string ⟨#[]⟩, .int .i64 (chk xs)]) ∧ Below w.heap.size w w' := by
  have HK := hide (fun (W : World) (h : Lim W a xs) => rcheck_any a cap xs W (by omega) h)
  rw [hn] at HK
  obtain ⟨c, hcc⟩ : ∃ c, c = chk xs := ⟨_, rfl⟩
  rw [← hcc] at HK hc ⊢
  have hne : (c != 0) = true := by simp [hc]
  have hne2 : (c == 0) = false := by simp [hc]
  clear hcc hn hc
  go_enter Try.func39, Try.ntmps39
  go_wp2_with fail
  refine (unhide HK _ (hl.alloc _)).mono ?_
  rintro e w1 ⟨rfl, hb1⟩
  have hbx := (Box.made w (.slice a n cap)).kept hb1
  have hcx := hbx.cell
  have HB := hide (gr_trans (gr_alloc w (.cells #[.slice a n cap] 24)) hb1)
  clear hb1 HK
  go_wp2
  go_ret2
  exact ⟨rfl, unhide HB⟩

theorem text_both (xs : List Nat) (n : Nat) (hn : xs.length = n) (hw : Pl.Wf xs) (hb : n ≤ 9223372036854775807) : ∃ (s : ByteArray) (code : Int),
    (∀ (W : World) (a : Option Addr) (ca : Nat), Lim W a xs → Calls Try.prog 38 #[.agg #[.slice a n ca]] W fun e w' => e = .returned (.tuple #[.string s, .int .i64 code]) ∧ Below W.heap.size W w') ∧
    (∀ (W : World) (a : Option Addr) (ca : Nat), Lim W a xs → Calls Try.prog 39 #[.agg #[.slice a n ca]] W fun e w' => e = .returned (.tuple #[.string s, .int .i64 code]) ∧ Below W.heap.size W w') := by
  by_cases hc : chk xs = 0
  · obtain ⟨h1, h2⟩ := chk_zero hc
    have hnum : ∀ (W : World) (a : Option Addr), Lim W a xs → Num W a n (Pl.val xs) := fun W a hl => ⟨xs, hn, hl, hw, h2, rfl, by omega⟩
    have hu : ∃ s, ∀ t, Says t (Pl.val xs) → t = s := by
      by_cases h : ∃ s, Says s (Pl.val xs)
      · obtain ⟨s, hs⟩ := h
        exact ⟨s, fun t ht => says_eq ht hs⟩
      · exact ⟨⟨#[]⟩, fun t ht => absurd ⟨t, ht⟩ h⟩
    obtain ⟨s, hs⟩ := hu
    refine ⟨s, 0, fun W a ca hl => (text_any a n ca _ W (hnum W a hl)).mono ?_, fun W a ca hl => (rtext_any a n ca _ W (hnum W a hl)).mono ?_⟩
    · rintro e w' ⟨t, rfl, ht, hb⟩
      rw [hs t ht]; exact ⟨rfl, hb⟩
    · rintro e w' ⟨t, rfl, ht, hb⟩
      rw [hs t ht]; exact ⟨rfl, hb⟩
  · exact ⟨⟨#[]⟩, chk xs, fun W a ca hl => text_bad a n ca xs W hn hl hb hc, fun W a ca hl => rtext_bad a n ca xs W hn hl hb hc⟩

/-- What Parse answers, by one number, one place and one code. -/
def PPAns (w : World) (base : Nat) (e : Ending) (m : Nat) (at0 code : Int) : Prop :=
  ∃ a n cap, e = .returned (.tuple #[.agg #[.slice a n cap], .int .i64 at0, .int .i64 code]) ∧ Mine w base a n cap m
theorem parse_one (s : ByteArray) : ∃ (m : Nat) (at0 code : Int), ∀ (base : Nat) (e : Ending) (w : World), ParseAns s base e w → PPAns w base e m at0 code := by
  by_cases h1 : 65536 < s.size
  · refine ⟨0, 0, 3, fun base e w h => ?_⟩
    rcases h with ⟨_, h⟩ | ⟨h, _⟩ | ⟨i, hi, h, _⟩ | ⟨a, n, c, _, h, _⟩
    · exact ⟨none, 0, 0, h, Mine.nil _ _⟩
    · omega
    · omega
    · omega
  · by_cases h2 : s.size = 0
    · refine ⟨0, 0, 12, fun base e w h => ?_⟩
      rcases h with ⟨h, _⟩ | ⟨_, h⟩ | ⟨i, hi, _⟩ | ⟨a, n, c, h, _⟩
      · omega
      · exact ⟨none, 0, 0, h, Mine.nil _ _⟩
      · omega
      · omega
    · by_cases h3 : AllD s s.size
      · refine ⟨Pl.dval (digs s) 0, 0, 0, fun base e w h => ?_⟩
        rcases h with ⟨h, _⟩ | ⟨h, _⟩ | ⟨i, hi, _, _, hb, _⟩ | ⟨a, n, c, _, _, _, h, hm⟩
        · omega
        · omega
        · exact absurd (h3 i hi hi) hb
        · exact ⟨a, n, c, h, hm⟩
      · by_cases h4 : ∃ (i : Nat) (h : i < s.size), AllD s i ∧ ¬ (48 ≤ (s[i]'h).toNat ∧ (s[i]'h).toNat ≤ 57)
        · obtain ⟨i, hi, hA, hB⟩ := h4
          refine ⟨0, i, 12, fun base e w h => ?_⟩
          rcases h with ⟨h, _⟩ | ⟨h, _⟩ | ⟨j, hj, _, hA', hB', h⟩ | ⟨a, n, c, _, _, h, _⟩
          · omega
          · omega
          · have hij : j = i := by
              rcases Nat.lt_trichotomy j i with k | k | k
              · exact absurd (hA j hj k) hB'
              · exact k
              · exact absurd (hA' i hi k) hB
            subst hij
            exact ⟨none, 0, 0, h, Mine.nil _ _⟩
          · exact absurd h h3
        · refine ⟨0, 0, 0, fun base e w h => ?_⟩
          rcases h with ⟨h, _⟩ | ⟨h, _⟩ | ⟨j, hj, _, hA', hB', h⟩ | ⟨a, n, c, _, _, h, _⟩
          · omega
          · omega
          · exact absurd ⟨j, hj, hA', hB'⟩ h4
          · exact absurd h h3
theorem parse_both (s : ByteArray) (hm : s.size ≤ 9223372036854775807) : ∃ (m : Nat) (at0 code : Int),
    (∀ W : World, Calls Try.prog 40 #[.string s] W fun e w' => PPAns w' W.heap.size e m at0 code ∧ Below W.heap.size W w') ∧
    (∀ W : World, Calls Try.prog 41 #[.string s] W fun e w' => PPAns w' W.heap.size e m at0 code ∧ Below W.heap.size W w') := by
  obtain ⟨m, at0, code, h⟩ := parse_one s
  exact ⟨m, at0, code, fun W => (parse_any s W hm).mono (fun e w' ⟨h1, h2⟩ => ⟨h _ _ _ h1, h2⟩), fun W => (rparse_any s W hm).mono (fun e w' ⟨h1, h2⟩ => ⟨h _ _ _ h1, h2⟩)⟩

/-- Where the law stands: the book, what was lent, the variables. -/
structure St (w W : World) (p g n c ca qa qx k : Nat) (a : Option Addr) (xs : List Nat) (vg vw : Value) (gs ws : List Value) : Prop where
  led : Led W p w.heap.size k vg vw gs ws
  lt : Lt W w.heap.size g n c xs
  ba : Bx W vg vw qa (.slice a n ca)
  bx : Bx W vg vw qx (.slice (some ⟨g, 0, none⟩) n c)
  bel : Below w.heap.size w W
  ap : ∀ u ∈ gs, ApartV (.slice (some ⟨g, 0, none⟩) n c) u
theorem St.kept {w W W' : World} {p g n c ca qa qx k : Nat} {a : Option Addr} {xs : List Nat} {vg vw : Value} {gs ws : List Value} (h : St w W p g n c ca qa qx k a xs vg vw gs ws) (hb : Below W.heap.size W W') : St w W' p g n c ca qa qx k a xs vg vw gs ws :=
  ⟨h.led.kept hb, h.lt.kept hb, h.ba.kept hb, h.bx.kept hb, gr_trans h.bel hb, h.ap⟩
theorem St.alloc {w W : World} {p g n c ca qa qx k : Nat} {a : Option Addr} {xs : List Nat} {vg vw : Value} {gs ws : List Value} (h : St w W p g n c ca qa qx k a xs vg vw gs ws) (o : Obj) : St w (W.alloc o) p g n c ca qa qx k a xs vg vw gs ws := h.kept (gr_alloc _ _)
theorem St.added {w W W' : World} {p g n c ca qa qx k : Nat} {a : Option Addr} {xs : List Nat} {vg vw vg' vw' : Value} {gs ws ws' : List Value} {v : Value} (h : St w W p g n c ca qa qx k a xs vg vw gs ws) (hl : Led W' p w.heap.size (k + 1) vg' vw' (gs ++ [v]) ws') (ha : Ad W W' p w.heap.size vg vw vg' vw') (hv : ApartV (.slice (some ⟨g, 0, none⟩) n c) v) : St w W' p g n c ca qa qx (k + 1) a xs vg' vw' (gs ++ [v]) ws' :=
  ⟨hl, h.lt.added ha, h.ba.added h.led ha, h.bx.added h.led ha, h.bel.trans ha.bel, fun u hu => by
    rcases List.mem_append.1 hu with hu | hu
    · exact h.ap u hu
    · rw [List.mem_singleton.1 hu]; exact hv⟩
/-- What is answered later lies apart from what was lent. -/
theorem St.far {w W W' : World} {p g n c ca qa qx k : Nat} {a : Option Addr} {xs : List Nat} {vg vw : Value} {gs ws : List Value} (h : St w W p g n c ca qa qx k a xs vg vw gs ws) {b : Option Addr} {l cb m : Nat} (hm : Mine W' W.heap.size b l cb m) : ApartV (.slice (some ⟨g, 0, none⟩) n c) (.slice b l cb) := by
  obtain ⟨ys, _, ho, _⟩ := hm
  intro q hq hq2
  have h1 := h.lt.short.lt q hq
  have h2 := ho.lt q hq2
  omega

/-- Where the law stands ahead of the book. -/
structure Pre (w W : World) (g n c ca qa qx : Nat) (a : Option Addr) (xs : List Nat) : Prop where
  lt : Lt W w.heap.size g n c xs
  ba : Box W qa (.slice a n ca)
  bx : Box W qx (.slice (some ⟨g, 0, none⟩) n c)
  bel : Below w.heap.size w W
theorem Pre.kept {w W W' : World} {g n c ca qa qx : Nat} {a : Option Addr} {xs : List Nat} (h : Pre w W g n c ca qa qx a xs) (hb : Below W.heap.size W W') : Pre w W' g n c ca qa qx a xs :=
  ⟨h.lt.kept hb, h.ba.kept hb, h.bx.kept hb, gr_trans h.bel hb⟩
theorem Pre.book {w W : World} {g n c ca qa qx : Nat} {a : Option Addr} {xs : List Nat} (h : Pre w W g n c ca qa qx a xs) :
    St w (W.alloc (.cells #[.slice none 0 0, .slice none 0 0, .bool false] 43)) W.heap.size g n c ca qa qx 0 a xs (.slice none 0 0) (.slice none 0 0) [] [] :=
  ⟨Led.new W w.heap.size h.bel.size, h.lt.alloc _, ⟨h.ba.alloc _, by simp [Value.ownBlock], by simp [Value.ownBlock]⟩, ⟨h.bx.alloc _, by simp [Value.ownBlock], by simp [Value.ownBlock]⟩, gr_trans h.bel (gr_alloc _ _), fun u hu => by cases hu⟩

set_option maxHeartbeats 4000000 in
set_option maxRecDepth 20000 in
theorem texts_any (a : Option Addr) (n ca : Nat) (s : ByteArray) (xs : List Nat) (w : World) (hn : xs.length = n) (hl : Lim w a xs) (hw : Pl.Wf xs) (hb : n ≤ 35184372087808) (hs : s.size ≤ 9223372036854775807) :
    Calls Try.prog 7 #[.agg #[.slice a n ca], .string s] w fun e w' => e = .returned (.bool true) ∧ Below w.heap.size w w' := by
  obtain ⟨t1, e1, hT, hRT⟩ := text_both xs n hn hw (by omega)
  obtain ⟨m2, at2, e2, hP, hRP⟩ := parse_both s hs
  have HT := hide hT
  have HRT := hide hRT
  have HP := hide hP
  have HRP := hide hRP
  have HL := hide hl
  have HLN := hide (fun o : Obj => lent_any a n ca xs (w.alloc o) hn (hl.alloc o) hb)
  clear hT hRT hP hRP hl hn
  go_enter Try.func7, Try.ntmps7
  go_wp2_with fail
  refine (unhide HLN _).mono ?_
  rintro e w1 ⟨⟨g, c, rfl, hlt⟩, hb1⟩
  have HE0 : Hid (Pre w (w1.alloc (.cells #[.slice (some ⟨g, 0, none⟩) n c] 24)) g n c ca w.heap.size w1.heap.size a xs) := hide
    ⟨(hlt.mono (by simp)).alloc _, ((Box.made w _).kept hb1).alloc _, Box.made w1 _, gr_trans (gr_trans (gr_alloc w (.cells #[.slice a n ca] 24)) hb1) (gr_alloc _ _)⟩
  have hx := (unhide HE0).bx.cell
  clear hlt hb1 HLN
  go_wp2_with fail
  refine (unhide HT _ _ _ (unhide HE0).lt.lim).mono ?_
  rintro e w2 ⟨rfl, hb2⟩
  have HE1 := hide ((unhide HE0).kept hb2)
  have hy := (unhide HE1).ba.cell
  clear hb2 HE0 hx
  go_wp2_with fail
  refine (unhide HRT _ _ _ ((unhide HL).below (unhide HE1).bel)).mono ?_
  rintro e w3 ⟨rfl, hb3⟩
  have HE2 := hide ((unhide HE1).kept hb3)
  clear hb3 HE1 hy
  go_wp2_with fail
  have HS := hide (unhide HE2).book
  clear HE2
  refine (unhide HP _).mono ?_
  rintro e w0a ⟨⟨a0a, n0a, c0a, rfl, hm0a⟩, hb0a⟩
  have HF0 := hide (hm0a.fresh (unhide HS).led)
  have HG0 := hide ((unhide HS).far hm0a)
  have HM0a := hide ((hm0a.mono (base' := w.heap.size) (unhide HS).bel.size).alloc (.cells #[.slice a0a n0a c0a] 24))
  have HX0a := hide (Bx.made ((unhide HS).kept hb0a).led (.slice a0a n0a c0a))
  have HS0a := hide (((unhide HS).kept hb0a).alloc (.cells #[.slice a0a n0a c0a] 24))
  clear hm0a hb0a HS
  go_wp2_with fail
  refine (unhide HRP _).mono ?_
  rintro e w0b ⟨⟨a0b, n0b, c0b, rfl, hm0b⟩, hb0b⟩
  have HM0b := hide ((hm0b.mono (base' := w.heap.size) (unhide HS0a).bel.size).alloc (.cells #[.slice a0b n0b c0b] 24))
  have HN0a := hide (((unhide HM0a).kept hb0b).alloc (.cells #[.slice a0b n0b c0b] 24))
  have HY0a := hide (((unhide HX0a).kept hb0b).alloc (.cells #[.slice a0b n0b c0b] 24))
  have HXb := hide (Bx.made ((unhide HS0a).kept hb0b).led (.slice a0b n0b c0b))
  have HS0b := hide (((unhide HS0a).kept hb0b).alloc (.cells #[.slice a0b n0b c0b] 24))
  have hz := (unhide HY0a).cell
  have hz2 := (unhide HXb).cell
  clear hm0b hb0b HS0a HM0a HX0a
  go_wp2_with fail
  refine (led_adds _ w.heap.size 0 _ _ _ _ a0a a0b n0a n0b c0a c0b m2 e2 _ (unhide HS0b).led (unhide HN0a) (unhide HF0) (unhide HM0b) (unhide HS0b).bel.size (by omega)).mono ?_
  rintro e w0d ⟨rfl, vg0, vw0, hL0, hA0⟩
  have HS := hide ((unhide HS0b).added hL0 hA0 (unhide HG0))
  have HXd := hide ((unhide HXb).added (unhide HS0b).led hA0)
  have HMd := hide ((unhide HM0b).added hA0)
  clear hL0 hA0 HS0b HN0a HY0a HM0b HF0 HG0 hz hz2 HXb
  go_wp2_with fail
  refine (unhide HP _).mono ?_
  rintro e w1a ⟨⟨a1a, n1a, c1a, rfl, hm1a⟩, hb1a⟩
  have HF1 := hide (hm1a.fresh (unhide HS).led)
  have HG1 := hide ((unhide HS).far hm1a)
  have HM1a := hide ((hm1a.mono (base' := w.heap.size) (unhide HS).bel.size).alloc (.cells #[.slice a1a n1a c1a] 24))
  have HX1a := hide (Bx.made ((unhide HS).kept hb1a).led (.slice a1a n1a c1a))
  have HS1a := hide (((unhide HS).kept hb1a).alloc (.cells #[.slice a1a n1a c1a] 24))
  have HXe := hide (((unhide HXd).kept hb1a).alloc (.cells #[.slice a1a n1a c1a] 24))
  have HMe := hide (((unhide HMd).kept hb1a).alloc (.cells #[.slice a1a n1a c1a] 24))
  have hz := (unhide HX1a).cell
  have hz2 := (unhide HXe).cell
  clear hm1a hb1a HS HXd HMd
  go_wp2_with fail
  refine (led_adds _ w.heap.size 1 _ _ _ _ a1a a0b n1a n0b c1a c0b m2 e2 _ (unhide HS1a).led (unhide HM1a) (unhide HF1) (unhide HMe) (unhide HS1a).bel.size (by omega)).mono ?_
  rintro e w1d ⟨rfl, vg1, vw1, hL1, hA1⟩
  have HS := hide ((unhide HS1a).added hL1 hA1 (unhide HG1))
  have hx := (unhide HS).bx.cell
  have hy2 := (unhide HS).ba.cell
  clear hL1 hA1 HS1a HM1a HX1a HMe HXe HF1 HG1 hz hz2
  go_wp2_with fail
  refine (kept_any g c n ca a xs _ w.heap.size (unhide HS).lt hb hw ((unhide HL).below (unhide HS).bel)).mono ?_
  rintro e w7 ⟨rfl, hb7⟩
  have HS7 := hide ((unhide HS).kept hb7)
  have hx7 := (unhide HS7).bx.cell
  clear hb7 HS hx hy2
  go_wp2_with fail
  have hS8 := (unhide HS7).alloc (.cells #[.slice (some ⟨g, 0, none⟩) n c] 24)
  have hE := hS8.led.ent.snoc hS8.lt.short (by rw [hS8.lt.len]; exact hb) hS8.ap
  refine (led_stands _ w.heap.size 2 1 w7.heap.size 1 _ _ _ _ [.slice (some ⟨g, 0, none⟩) n c] _ hS8.led hE rfl (by simp) (fun j u hj => ?_) hS8.bel.size (by omega) (by omega)).mono ?_
  · match j, hj with
    | 0, hj => simp at hj; subst hj; exact (Box.made w7 _).cell
    | j + 1, hj => simp at hj
  · rintro e w9 ⟨rfl, hb9⟩
    have HB9 := hide (hS8.bel.trans hb9)
    clear hb9 hS8 hE HS7 hx7
    go_wp2
    go_ret
    exact ⟨rfl, unhide HB9⟩

end Go.Proofs.Ytkpbgjgebjcfeaa
