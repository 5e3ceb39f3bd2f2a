/- The call slices.Clone answers the same limbs in a row of its own. -/
import Derived.Test.YtkpbgjgebjcfeaaNums
namespace Go.Proofs.Ytkpbgjgebjcfeaa
open Go.RowKit

theorem own_parts {w : World} {base n : Nat} {v : Value} {xs : List Nat} (hn : xs.length = n) (hp : 0 < n) (h : w.ownsRow base 28 1 v n (xs.map (fun z : Nat => Value.int .u32 (z : Int)))) :
    ∃ g c, v = .slice (some ⟨g, 0, none⟩) n c ∧ base ≤ g ∧ n ≤ c ∧ c ≤ 9223372036854775807 ∧ Row w g xs ∧ Own w base (.slice (some ⟨g, 0, none⟩) n c) xs := by
  obtain ⟨_, h | ⟨g, c, cur, hv, hg, hh, h1, h2, h3, h4⟩⟩ := h
  · omega
  · have hcur : cur = lc xs ++ (cur.toList.drop n).toArray := by
      apply Array.toList_inj.1
      rw [Array.toList_append]
      simp only [lc]
      rw [← h4, Nat.mul_one, List.take_append_drop]
    have hrow : Row w g xs := ⟨(cur.toList.drop n).toArray, by rw [← hcur]; exact hh⟩
    have hc : c ≤ 9223372036854775807 := by unfold maxLen at h2; exact h2
    refine ⟨g, c, hv, hg, h1, hc, hrow, Or.inr ⟨g, c, cur, by rw [hn], hg, hh, by omega, by omega, hc, fun j hj => ?_⟩⟩
    rw [hcur]; exact lc_at' xs _ j hj

set_option maxHeartbeats 400000 in
theorem clone_some (b off cap n : Nat) (xs : List Nat) (w : World) (hn : Hid (xs.length = n)) (hp : 0 < n) (hlen : n ≤ 1073741824) (hlt : b < w.heap.size)
    (hc : ∀ j, j < n → w.cell? ⟨b, off + j, none⟩ = some (.int .u32 ((xs[j]?.getD 0 : Nat) : Int))) :
    Calls Try.prog 69 #[.slice (some ⟨b, off, none⟩) n cap] w
      fun e w' => ∃ g c : Nat, e = .returned (.slice (some ⟨g, 0, none⟩) n c) ∧ w.heap.size ≤ g ∧ n ≤ c ∧ c ≤ 9223372036854775807 ∧ Row w' g xs ∧ Own w' w.heap.size (.slice (some ⟨g, 0, none⟩) n c) xs ∧ Below w.heap.size w w' := by
  have hni := fun (w : World) => Lib.run_eql_slice_nil (P := Try.prog) w 22 28 (some ⟨b, off, none⟩) n cap 0 0 Try.under_limbs
  obtain ⟨i0, hi, hz0, hz1, hz2⟩ := info_parts Try.info_limb
  go_enter Try.func69, Try.ntmps69
  go_wp2_with (at_builtin; refine wpList_append_own _ rfl (.tmp 5) (.tmp 6) 22 rfl w.heap.size 28 i0 (.int .u32 0) 1 4 Try.under_limbs hi hz0 hz1 hz2 rfl (by decide) _ 0 [] rfl (World.ownsRow_made w #[] 0 (Nat.le_refl _) (by decide) rfl) ⟨b, off, none⟩ n cap (xs.map (fun z : Nat => Value.int .u32 (z : Int))) rfl ?hl ?hnews ?h1 ?h63 ?hbytes ?hbase ?_)
  case hl => have := unhide hn; simp; omega
  case hnews =>
    intro j u hj
    have hl := unhide hn
    have hjn : j < xs.length := by
      have := (List.getElem?_eq_some_iff.1 hj).1
      simpa using this
    have hu : u = .int .u32 ((xs[j]?.getD 0 : Nat) : Int) := by
      rw [List.getElem?_map, List.getElem?_eq_getElem hjn] at hj
      simp at hj
      rw [← hj]
      simp [hjn]
    rw [hu, Addr.add_lit, ((gr_alloc w (.cells #[] 28)).cell (by exact hlt))]
    exact hc j (by omega)
  case h1 =>
    intro u hu
    obtain ⟨z, _, rfl⟩ := List.mem_map.1 hu
    rfl
  case h63 => unfold maxLen; omega
  case hbytes => omega
  case hbase => simp
  intro v' w1 hown hgrow hnil
  obtain ⟨g, c, hv, hg, hnc, hc9, hrow, hO⟩ := own_parts (unhide hn) hp hown
  have hbl : Below w.heap.size w w1 := (gr_alloc w (.cells #[] 28)).grown hgrow (by simp) (fun k hk => by simp [Value.ownBlock] at hk; omega)
  rw [hv]
  clear hown hgrow hnil hc hni
  go_wp2
  go_ret
  exact ⟨g, c, rfl, hg, hnc, hc9, hrow, hO, hbl⟩

/-- A slice without limbs: nil stays nil; else an empty one. -/
theorem clone_nil (cap : Nat) (w : World) :
    Calls Try.prog 69 #[.slice none 0 cap] w fun e w' => e = .returned (.slice none 0 0) ∧ w' = w := by
  have hni := fun (w : World) => Lib.run_eql_slice_nil (P := Try.prog) w 22 28 none 0 cap 0 0 Try.under_limbs
  go_enter Try.func69, Try.ntmps69
  go_wp2
  go_ret
  exact ⟨rfl, rfl⟩

set_option maxHeartbeats 400000 in
theorem clone_empty (p : Addr) (cap : Nat) (w : World) :
    Calls Try.prog 69 #[.slice (some p) 0 cap] w fun e w' => (∃ g c, e = .returned (.slice (some ⟨g, 0, none⟩) 0 c) ∧ Own w' w.heap.size (.slice (some ⟨g, 0, none⟩) 0 c) []) ∧ Below w.heap.size w w' := by
  have hni := fun (w : World) => Lib.run_eql_slice_nil (P := Try.prog) w 22 28 (some p) 0 cap 0 0 Try.under_limbs
  go_enter Try.func69, Try.ntmps69
  go_wp2
  go_ret
  exact ⟨⟨w.heap.size, 0, rfl, Or.inr ⟨w.heap.size, 0, #[], rfl, Nat.le_refl _, heap_alloc_new w _, Nat.le_refl _, Nat.le_refl _, by omega, fun j hj => by simp at hj⟩⟩, gr_alloc _ _⟩

/-- A number's limbs in a row of their own. -/
theorem clone_any (a : Option Addr) (n cap m : Nat) (w : World) (h : Num w a n m) :
    Calls Try.prog 69 #[.slice a n cap] w fun e w' => (∃ a' c, e = .returned (.slice a' n c) ∧ Mine w' w.heap.size a' n c m) ∧ Below w.heap.size w w' := by
  obtain ⟨xs, hn, hl, hw, hN, hv, hb⟩ := h
  rcases hl.parts with hx | ⟨hp, b, off, rfl, hlt, hc⟩
  · subst hx
    have hn0 : n = 0 := by rw [← hn]; rfl
    subst hn0
    cases a with
    | none =>
      refine (clone_nil cap w).mono ?_
      rintro e w1 ⟨rfl, rfl⟩
      exact ⟨⟨none, 0, rfl, [], rfl, Or.inl ⟨rfl, rfl⟩, hw, hN, hv, hb⟩, gr_refl _⟩
    | some p =>
      refine (clone_empty p cap w).mono ?_
      rintro e w1 ⟨⟨g, c, rfl, hO⟩, hb1⟩
      exact ⟨⟨_, c, rfl, [], rfl, hO, hw, hN, hv, hb⟩, hb1⟩
  · refine (clone_some b off cap n xs w (hide hn) (by omega) (by omega) hlt (fun j hj => hc j (by omega))).mono ?_
    rintro e w1 ⟨g, c, rfl, _, _, _, _, hO, hb1⟩
    exact ⟨⟨_, c, rfl, xs, hn, hO, hw, hN, hv, hb⟩, hb1⟩

end Go.Proofs.Ytkpbgjgebjcfeaa
