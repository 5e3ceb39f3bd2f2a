/- The call nat.putGroup puts a group of digits behind those of a number, in its row or in a new one. -/
import Derived.Test.YtkpbgjgebjcfeaaText
import Derived.Test.YtkpbgjgebjcfeaaPlainB
namespace Go.Proofs.Ytkpbgjgebjcfeaa
open Go.RowKit

/-- The block g begins with the limbs xs and has room for c limbs in all. -/
def Room (w : World) (g : Nat) (xs : List Nat) (c : Nat) : Prop := ∃ tl : Array Value, w.heap[g]? = some (.cells (lc xs ++ tl) 28 (0, 0)) ∧ xs.length + tl.size = c ∧ c ≤ 9223372036854775807
theorem Room.row {w : World} {g c : Nat} {xs : List Nat} (h : Room w g xs c) : Row w g xs := by
  obtain ⟨tl, h, _⟩ := h
  exact ⟨tl, h⟩
theorem Room.len {w : World} {g c : Nat} {xs : List Nat} (h : Room w g xs c) : xs.length ≤ c ∧ c ≤ 9223372036854775807 := by
  obtain ⟨tl, _, h1, h2⟩ := h
  omega
theorem Room.set {w : World} {g c : Nat} {xs : List Nat} (h : Room w g xs c) (j v : Nat) (hj : j < xs.length) : Room (w.setCell ⟨g, j, none⟩ (.int .u32 (v : Int))) g (xs.set j v) c := by
  obtain ⟨tl, h, h1, h2⟩ := h
  refine ⟨tl, ?_, by rw [List.length_set]; exact h1, h2⟩
  rw [heap_setCell_same w g j _ _ _ h, Array.setIfInBounds_append_left (by rw [size_lc]; exact hj), lc_set]
theorem Room.made (w : World) (n : Nat) (hn : n ≤ 9223372036854775807) : Room (w.alloc (.cells (lc (List.replicate n 0)) 28)) w.heap.size [] n :=
  ⟨lc (List.replicate n 0), by rw [heap_alloc_new]; simp [lc], by rw [size_lc]; simp, hn⟩
theorem Room.owns {w : World} {g c base : Nat} {xs : List Nat} (h : Room w g xs c) (hb : base ≤ g) : w.ownsRow base 28 1 (.slice (some ⟨g, 0, none⟩) xs.length c) xs.length (xs.map (fun z : Nat => Value.int .u32 (z : Int))) := by
  obtain ⟨tl, hh, h1, h2⟩ := h
  refine ⟨by simp, .inr ⟨g, c, _, rfl, hb, hh, by omega, by unfold maxLen; exact h2, ?_, ?_⟩⟩
  · rw [Array.size_append, size_lc]; omega
  · rw [Array.toList_append, List.take_append_of_le_length (by simp [lc])]
    simp only [lc, Nat.mul_one]
    rw [List.take_of_length_le (by simp)]
theorem room_of {w : World} {base n : Nat} {v : Value} {xs : List Nat} (hn : xs.length = n) (hp : 0 < n) (h : w.ownsRow base 28 1 v n (xs.map (fun z : Nat => Value.int .u32 (z : Int)))) :
    ∃ g c, v = .slice (some ⟨g, 0, none⟩) n c ∧ base ≤ g ∧ Room w g xs c := by
  obtain ⟨_, h | ⟨g, c, cur, hv, hg, hh, h1, h2, h3, h4⟩⟩ := h
  · omega
  · have hcur : cur = lc xs ++ (cur.toList.drop n).toArray := by
      apply Array.toList_inj.1
      rw [Array.toList_append]
      simp only [lc]
      rw [← h4, Nat.mul_one, List.take_append_drop]
    refine ⟨g, c, hv, hg, (cur.toList.drop n).toArray, by rw [← hcur]; exact hh, ?_, by unfold maxLen at h2; exact h2⟩
    simp
    omega

/-- The bytes of s are the digits ds. -/
def DigS (s : ByteArray) (ds : List Nat) : Prop := s.size = ds.length ∧ Pl.Dig ds ∧ ∀ (k : Nat) (h : k < s.size), (s[k]'h).toNat = 48 + ds[k]?.getD 0

theorem dval_snoc (ds : List Nat) (k : Nat) (h : k < ds.length) : Pl.dval (ds.take (k + 1)) 0 = Pl.dval (ds.take k) 0 * 10 + ds[k]?.getD 0 := by
  rw [Pl.take_snoc ds k h, dval_append]
  simp [Pl.dval]

/-- One step of a product with carries, upon a group. -/
theorem pg_step {o c f p s t B q r G : Nat} (B' : Nat) (hB : B' = B * 4294967296) (h : o + B * c = f * p + G) (ht : t = c + s * f) (e : t = 4294967296 * q + r) : (o + B * r) + B' * q = f * (p + B * s) + G := by
  subst hB
  have e1 : B * t = B * 4294967296 * q + B * r := by rw [e, Nat.mul_add, Nat.mul_assoc]
  have e2 : B * t = B * c + f * (B * s) := by rw [ht, Nat.mul_add]; congr 1; rw [Nat.mul_comm s f, Nat.mul_left_comm]
  rw [Nat.mul_add f]
  omega
theorem pg_carry {c f x q r : Nat} (hc : c < f) (hx : x < 4294967296) (e : c + x * f = 4294967296 * q + r) : q < f := by
  have h1 : x * f ≤ 4294967295 * f := Nat.mul_le_mul_right _ (by omega)
  omega
theorem mul_hi9 {x f : Nat} (hx : x < 4294967296) (hf : f ≤ 1000000000) : (x : Int) * (f : Int) ≤ 4294967295000000000 := by
  have : x * f ≤ 4294967295 * 1000000000 := Nat.mul_le_mul (by omega) (by omega)
  rw [← Int.natCast_mul]; omega
theorem pow_nine {k : Nat} (h : k ≤ 9) : 10 ^ k ≤ 1000000000 := Nat.pow_le_pow_right (show 0 < 10 by decide) (show k ≤ 9 by omega)
theorem dig_take {ds : List Nat} (h : Pl.Dig ds) (k : Nat) : Pl.Dig (ds.take k) := fun d hd => h d (List.mem_of_mem_take hd)

/-- What putGroup answers. -/
def PutTo (base n : Nat) (xs ds : List Nat) (w : World) (e : Ending) (w' : World) : Prop :=
  ∃ g' n' c' ys, e = .returned (.slice (some ⟨g', 0, none⟩) n' c') ∧ base ≤ g' ∧ Room w' g' ys c' ∧ ys.length = n' ∧ n' ≤ n + 1 ∧ Pl.Wf ys ∧ Pl.val ys = Pl.val xs * 10 ^ ds.length + Pl.dval ds 0 ∧ Below base w w'

set_option maxHeartbeats 1000000 in
theorem putGroup_any (base g n c q : Nat) (s : ByteArray) (xs ds : List Nat) (w : World) (hq : Hid (s.size = q)) (hq9 : q ≤ 9) (hS : Hid (DigS s ds)) (hn : Hid (xs.length = n)) (hlen : n ≤ 20000) (hx : Pl.Wf xs) (hbg : base ≤ g) (hbw : base ≤ w.heap.size) (hR : Room w g xs c) :
    Calls Try.prog 72 #[.slice (some ⟨g, 0, none⟩) n c, .string s] w (PutTo base n xs ds w) := by
  obtain ⟨i0, hi, hz0, hz1, hz2⟩ := info_parts Try.info_limb
  have hsz : s.size ≤ 9 := by rw [unhide hq]; exact hq9
  go_enter Try.func72, Try.ntmps72
  go_wp2
  go_loopw [5, 6, 12] (fun t f i wr => ∃ (k v p : Nat), k ≤ s.size ∧ i = .int .i64 k ∧ t = .int .u64 (v : Int) ∧ f = .int .u64 (p : Int) ∧ p = 10 ^ k ∧ v = Pl.dval (ds.take k) 0 ∧ w = wr) (fun _ _ i _ => s.size - (intOf i).toNat)
  case atStart => exact ⟨0, 0, 1, Nat.zero_le _, rfl, rfl, rfl, rfl, rfl, rfl⟩
  case round =>
    obtain ⟨k, v, p, hk, rfl, rfl, rfl, hp, hv, rfl⟩ := hrel
    obtain ⟨hs1, hs2, hs3⟩ := unhide hS
    have hp9 : p ≤ 1000000000 := by rw [hp]; exact pow_nine (by omega)
    have hvp : v < p := by
      have := Pl.dval_lt (dig_take hs2 k)
      rw [List.length_take, Nat.min_eq_left (by omega), ← hv, ← hp] at this
      exact this
    by_cases hks : k < s.size
    · obtain ⟨x, hxx⟩ : ∃ x, x = ds[k]?.getD 0 := ⟨_, rfl⟩
      have hx10 : x < 10 := by
        rw [hxx, List.getElem?_eq_getElem (by omega)]
        exact hs2 _ (List.getElem_mem _)
      have hsx : (s[k]'hks).toNat = 48 + x := by rw [hxx]; exact hs3 k hks
      have hp8 : p ≤ 100000000 := by rw [hp]; exact Nat.pow_le_pow_right (show 0 < 10 by decide) (show k ≤ 8 by omega)
      have HV : Hid (v * 10 + x = Pl.dval (ds.take (k + 1)) 0) := hide (by rw [dval_snoc ds k (by omega), ← hv, ← hxx])
      have HP : Hid (p * 10 = 10 ^ (k + 1)) := hide (by rw [hp, Nat.pow_succ])
      clear hp hv hxx hs1 hs2 hs3
      go_wp2
      go_roundw
      case rel =>
        exact ⟨k + 1, v * 10 + x, p * 10, by omega, by go_num, by go_num, by go_num, unhide HP, (unhide HV), trivial⟩
      case measure => simp [intOf]; omega
    · have hke : k = s.size := by omega
      have HP : Hid (p = 10 ^ ds.length) := hide (by rw [hp, hke, hs1])
      have HV : Hid (v = Pl.dval ds 0) := hide (by rw [hv, List.take_of_length_le (by omega)])
      clear hp hv hs1 hs2 hs3
      go_wp2
      go_loopw [5, 28] (fun t i wr => ∃ (j cc : Nat) (out : List Nat), j ≤ n ∧ i = .int .i64 (j : Int) ∧ t = .int .u64 (cc : Int) ∧ cc < p ∧ out.length = j ∧ Pl.Wf out ∧ Pl.val out + 4294967296 ^ j * cc = p * Pl.val (xs.take j) + v ∧
          Room wr g (out ++ xs.drop j) c ∧ Below base w wr) (fun _ i _ => n - (intOf i).toNat)
      case atStart => exact ⟨0, v, [], Nat.zero_le _, rfl, rfl, hvp, rfl, Pl.wf_nil, by simp [Pl.val], by simpa using hR, Below.refl _ _⟩
      case round =>
        obtain ⟨j, cc, out, hj, rfl, rfl, hcc, hol, how, hval, hRR, hbel⟩ := hrel
        have hnl := unhide hn
        have HVal := hide hval
        clear hval
        by_cases hjn : j < n
        · obtain ⟨x, hxx⟩ : ∃ x, x = xs[j]?.getD 0 := ⟨_, rfl⟩
          have hx1 : x < 4294967296 := by rw [hxx]; exact Pl.wf_at hx j
          have hat := at_mid [] out xs [] j hol (by omega)
          simp only [List.nil_append, List.append_nil, List.length_nil, Nat.zero_add] at hat
          have hcx : wr.cell? ⟨g, j, none⟩ = some (.int .u32 (x : Int)) := by rw [hRR.row.cell j (by simp; omega), hat, hxx]
          have hfz : wr.frozen? ⟨g, j, none⟩ = false := hRR.row.frozen j
          obtain ⟨t, ht⟩ : ∃ t, t = cc + x * p := ⟨_, rfl⟩
          have hm0 := mul_lo x p
          have hm1 := mul_hi9 hx1 hp9
          have hti : (cc : Int) + (x : Int) * (p : Int) = (t : Int) := by rw [ht, Int.natCast_add, Int.natCast_mul]
          have ht1 : t < 18446744073709551616 := by omega
          have hqc : t / 4294967296 < p := pg_carry hcc hx1 (by rw [← ht]; exact (Nat.div_add_mod t 4294967296).symm)
          have HV2 : Hid (Pl.val (out ++ [t % 4294967296]) + 4294967296 ^ (j + 1) * (t / 4294967296) = p * Pl.val (xs.take (j + 1)) + v) := by
            rw [Pl.val_append, Pl.val_one, hol, Pl.val_take_any xs j, ← hxx]
            exact pg_step _ (Nat.pow_succ ..) (unhide HVal) ht (Nat.div_add_mod t 4294967296).symm
          have hset := hRR.set j (t % 4294967296) (by simp; omega)
          have es := set_mid [] out xs [] j (t % 4294967296) hol (by omega)
          simp only [List.nil_append, List.append_nil, List.length_nil, Nat.zero_add] at es
          rw [es] at hset
          have HSet := hide hset
          clear hset es hat hxx hRR ht hnl
          go_wp2
          go_roundw
          case rel =>
            have e1 : (t : Int) / 4294967296 = ((t / 4294967296 : Nat) : Int) := by omega
            have e2 : (t : Int) % 4294967296 = ((t % 4294967296 : Nat) : Int) := by omega
            rw [e1, e2]
            exact ⟨j + 1, t / 4294967296, out ++ [t % 4294967296], by omega, by go_num, rfl, hqc, by simp [hol], Pl.wf_append how (Pl.wf_one (by omega)), unhide HV2, unhide HSet, hbel.setCell hbg _⟩
          case measure => simp [intOf]; omega
        · have hje : j = n := by omega
          subst hje
          have hxt : xs.take j = xs := List.take_of_length_le (by omega)
          have hxd : xs.drop j = [] := List.drop_eq_nil_of_le (by omega)
          rw [hxd, List.append_nil] at hRR
          have HV2 : Hid (Pl.val out + 4294967296 ^ j * cc = Pl.val xs * 10 ^ ds.length + Pl.dval ds 0) := hide (by
            have := unhide HVal
            rw [hxt, unhide HP, unhide HV, Nat.mul_comm (10 ^ ds.length)] at this
            exact this)
          clear HVal hxt hxd hnl
          by_cases hc0 : cc = 0
          · subst hc0
            go_wp2
            go_ret
            exact ⟨g, j, c, out, rfl, hbg, hRR, hol, by omega, how, by have := unhide HV2; rw [Nat.mul_zero, Nat.add_zero] at this; exact this, hbel⟩
          · have hcb : ((cc : Int) == 0) = false := by simp; omega
            have hown := hRR.owns hbg
            rw [hol] at hown
            have hbs : base ≤ wr.heap.size := Nat.le_trans hbw hbel.size
            have hcc32 : cc < 4294967296 := by omega
            clear hc0
            go_wp2_with (at_builtin; refine wpList_append_own _ rfl (.tmp 50) (.tmp 53) 22 rfl base 28 i0 (.int .u32 0) 1 4 Try.under_limbs hi hz0 hz1 hz2 rfl (by decide) _ j _ rfl (hown.alloc _) ⟨wr.heap.size, 0, none⟩ 1 1 [.int .u32 (cc : Int)] rfl rfl (cell_one_new _ _ _) (fun x hx => by simp at hx; subst hx; rfl) (by unfold maxLen; omega) (by omega) (by simp; omega) ?_)
            intro v' w1 hown1 hgrow hnil
            have e1 : out.map (fun z : Nat => Value.int .u32 (z : Int)) ++ [Value.int .u32 (cc : Int)] = (out ++ [cc]).map (fun z : Nat => Value.int .u32 (z : Int)) := by simp
            rw [e1] at hown1
            obtain ⟨g', c', hv', hg', hroom⟩ := room_of (by simp [hol]) (by omega) hown1
            have hbl : Below base w w1 := (hbel.alloc hbs _).grown hgrow (by simp; omega) (fun q hq => by simp [Value.ownBlock] at hq; omega)
            rw [hv']
            have HV3 : Hid (Pl.val (out ++ [cc]) = Pl.val xs * 10 ^ ds.length + Pl.dval ds 0) := hide (by rw [Pl.val_append, Pl.val_one, hol]; exact unhide HV2)
            clear hown1 hgrow hnil hv' HV2 e1
            go_wp2
            go_ret
            exact ⟨g', j + 1, c', out ++ [cc], rfl, hg', hroom, by simp [hol], Nat.le_refl _, Pl.wf_append how (Pl.wf_one hcc32), unhide HV3, hbl⟩

end Go.Proofs.Ytkpbgjgebjcfeaa
