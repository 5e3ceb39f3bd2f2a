/- The statement NatNames holds: the limits and the errors have their numbers, the greatest power of two is a number, and one limb more is not. -/
import Derived.Test.YtkpbgjgebjcfeaaAlive
import Derived.Test.YtkpbgjgebjcfeaaUpOver
import Derived.Test.YtkpbgjgebjcfeaaSame
import Derived.Deep.RegionWith
namespace Go.Proofs.Ytkpbgjgebjcfeaa
open Go.RowKit

theorem two_not_over {n : Nat} (hn : n < 32 * Pl.top) : ¬ Over (2 ^ n) := fun o => by
  have h := o.le
  rw [pow32] at h
  have h2 := Nat.pow_lt_pow_right (show 1 < 2 by decide) hn
  omega
theorem bl_two (n : Nat) : Bl (2 ^ n) (n + 1) := ⟨Nat.pow_lt_pow_right (by decide) (by omega), Or.inr (by rw [Nat.add_sub_cancel]; exact Nat.le_refl _)⟩
/-- The greatest exponent of two. -/
def e19 : Nat := 524287
theorem e19_eq : e19 = 524287 := rfl
def e62 : Nat := 4611686018427387904
theorem e62_eq : e62 = 4611686018427387904 := rfl
theorem two_pos (n : Nat) : 0 < 2 ^ n := Nat.pow_pos (by decide)

def big : List Nat := List.replicate 16385 0
theorem big_len : big.length = 16385 := List.length_replicate
theorem make_big (w : World) : (Instr.makeSlice 22 (.int .i64 16385) (.int .i64 16385)).run Try.prog w = .ok (.slice (some ⟨w.heap.size, 0, none⟩) 16385 16385) (w.alloc (.cells (lc big) 28)) := make_limbs 16385 16385 rfl (by omega) w
theorem check_big (p : Nat) (w : World) (h : Row w p big) :
    Calls Try.prog 20 #[.agg #[.slice (some ⟨p, 0, none⟩) 16385 16385]] w fun e w' => e = .returned (.int .i64 4) ∧ Below w.heap.size w w' := by
  have hc := check_any (some ⟨p, 0, none⟩) 16385 big w (by rw [big_len]; omega) (Or.inr ⟨p, 0, rfl, fun j hj => by rw [Nat.zero_add]; exact h.cell j hj⟩)
  rw [big_len, show chk big = 4 by rw [chk, if_pos (by rw [big_len]; omega)]] at hc
  exact hc
theorem check_five (p : Nat) (w : World) (h : Row w p [5, 0]) :
    Calls Try.prog 20 #[.agg #[.slice (some ⟨p, 0, none⟩) 2 2]] w fun e w' => e = .returned (.int .i64 10) ∧ Below w.heap.size w w' :=
  check_any (some ⟨p, 0, none⟩) 2 [5, 0] w (by simp) (Or.inr ⟨p, 0, rfl, fun j hj => by rw [Nat.zero_add]; exact h.cell j hj⟩)
theorem Row.five (w : World) : Row (w.alloc (.cells #[.int .u32 5, .int .u32 0] 28)) w.heap.size [5, 0] := ⟨#[], by rw [heap_alloc_new]; simp [lc]⟩

set_option maxHeartbeats 4000000 in
theorem names_any (w : World) : Calls Try.prog 3 #[] w fun e w' => e = .returned (.bool true) ∧ Below w.heap.size w w' := by
  have hp1 := pow_any 2 e19 w (by omega) (by rw [e19_eq]; omega)
  have hp2 := fun w => pow_any 2 (e19 + 1) w (by omega) (by rw [e19_eq]; omega)
  have hn1 : ¬ Over (2 ^ e19) := two_not_over (by rw [e19_eq, Pl.top_eq]; omega)
  have hp3 := fun w => pow_any 1 e62 w (by omega) (by rw [e62_eq]; omega)
  rw [Nat.one_pow, show ((e62 : Nat) : Int) = 4611686018427387904 from rfl] at hp3
  have HP3 := hide hp3
  clear hp3
  have ho2 : Over (2 ^ (e19 + 1)) := two_pow_over (by omega) (by rw [e19_eq]; omega)
  rw [show ((e19 : Nat) : Int) = 524287 from rfl] at hp1
  rw [show ((e19 + 1 : Nat) : Int) = 524288 from rfl] at hp2
  have HP1 := hide hp1
  have HP2 := hide hp2
  have HN1 := hide hn1
  have HO2 := hide ho2
  clear hp1 hp2 hn1 ho2
  go_enter Try.func3, Try.ntmps3
  go_wp2_with fail
  refine (unhide HP1).mono ?_
  rintro e w1 ⟨hans, hb1⟩
  obtain ⟨a1, n1, c1, rfl, hm1⟩ := hans.ok (unhide HN1)
  clear hans
  go_wp2_with fail
  refine (unhide HP2 _).mono ?_
  rintro e w2 ⟨hans, hb2⟩
  obtain ⟨rfl, _⟩ := hans.resolve_left (fun ⟨a, n, c, _, h⟩ => absurd (unhide HO2).le (Nat.not_le.2 h.num.lt))
  clear hans
  have hbx := ((Box.made w1 (.slice a1 n1 c1)).kept hb2).alloc (.cells #[.slice none 0 0] 24)
  have hN2 := ((hm1.num.alloc (.cells #[.slice a1 n1 c1] 24)).kept hb2).alloc (.cells #[.slice none 0 0] 24)
  have hcx := hbx.cell
  go_wp2_with fail
  refine (up_over a1 n1 c1 (2 ^ e19) 1 (e19 + 1) _ hN2 (two_pos _) (bl_two _) (by rw [e19_eq]; omega) (by omega)).mono ?_
  rintro e w3 ⟨rfl, hb3⟩
  have hN3 := (hN2.kept hb3).alloc (.cells #[.slice none 0 0] 24)
  have hbx3 := (hbx.kept hb3).alloc (.cells #[.slice none 0 0] 24)
  have hcx3 := hbx3.cell
  have HB3 := hide (gr_trans (gr_trans (gr_trans (gr_trans (gr_trans hb1 (gr_alloc w1 (.cells #[.slice a1 n1 c1] 24))) hb2) (gr_alloc w2 (.cells #[.slice none 0 0] 24))) hb3) (gr_alloc w3 (.cells #[.slice none 0 0] 24)))
  clear hcx hbx hN2 hb3 hb2 hb1
  go_wp2_with fail
  refine (bits_any a1 n1 c1 (2 ^ e19) _ hN3).mono ?_
  rintro e w4 ⟨⟨k, rfl, hk1, hk2⟩, hb4⟩
  have hk : (k : Int) = 524288 := by
    have := hk1.uniq (bl_two e19)
    rw [e19_eq] at this
    omega
  rw [hk]
  have hN4 := hN3.kept hb4
  have hbx4 := hbx3.kept hb4
  have hcx4 := hbx4.cell
  have HB4 := hide (gr_trans (unhide HB3) hb4)
  clear hk1 hk2 hk hcx3 hbx3 hN3 hb4 HB3
  go_wp2_with fail
  refine (div_zero a1 none n1 c1 0 (2 ^ e19) w4 hN4).mono ?_
  rintro e w5 ⟨hda, hb5⟩
  obtain ⟨_, rfl⟩ := hda.resolve_right (fun h => absurd h.1 (by omega))
  have HB5 := hide (gr_trans (gr_trans (gr_trans (unhide HB4) hb5) (gr_alloc w5 (.cells #[.slice none 0 0] 24))) (gr_alloc _ (.cells #[.slice none 0 0] 24)))
  clear hda hb5 hN4 hbx4 hcx4 HB4
  go_wp2_with fail
  refine (unhide HP3 _).mono ?_
  rintro e w6 ⟨hans, hb6⟩
  obtain ⟨a6, n6, c6, rfl, hm6⟩ := hans.ok (over_not (k := 1) (by rw [Pl.top_eq]; omega) (by decide))
  clear hans
  have hbx6 := Box.made w6 (.slice a6 n6 c6)
  have hcx6 := hbx6.cell
  have hN6 := hm6.num.alloc (.cells #[.slice a6 n6 c6] 24)
  have HB6 := hide (gr_trans (gr_trans (unhide HB5) hb6) (gr_alloc w6 (.cells #[.slice a6 n6 c6] 24)))
  clear hb6 hm6 HB5
  have hmk := make_big
  go_wp2_with fail
  refine wp_region_any (by kernel_rfl) ?_
  change wpAny _ _ _ _ _ _ _ (World.drew _)
  have hbx6' := hbx6.drew
  have hN6' := hN6.drew
  have HB6' := hide (unhide HB6).drew
  generalize (w6.alloc (.cells #[.slice a6 n6 c6] 24)).drew = wd at *
  refine wpAny_ready (rs := [0]) (by kernel_rfl) (by simp) (AllReady.cons rfl (fun K hK => ?_) AllReady.nil)
  go_simp
  refine hK _ _ ?_
  clear hK K
  refine wpAny_ready (rs := [1]) (by kernel_rfl) (by simp) (AllReady.cons rfl (fun K hK => ?_) AllReady.nil)
  go_simp
  go_wp2_with fail
  refine (alive_any _).mono ?_
  rintro e w7 ⟨rfl, hb7⟩
  have hbx7 := hbx6'.kept hb7
  have hcx7 := hbx7.cell
  have hN7 := hN6'.kept hb7
  have HB7 := hide (gr_trans (unhide HB6') hb7)
  clear hbx6 hcx6 hN6 HB6 hbx6' hN6' HB6' hb7
  refine hK _ _ ?_
  clear hK K
  refine wpAny_ready (rs := [2]) (by kernel_rfl) (by simp) (AllReady.cons rfl (fun K hK => ?_) AllReady.nil)
  go_simp
  refine hK _ _ ?_
  clear hK K
  refine wpAny_ready (rs := [3]) (by kernel_rfl) (by simp) (AllReady.cons rfl (fun K hK => ?_) AllReady.nil)
  go_simp
  refine hK _ _ ?_
  clear hK K
  refine wpAny_ready (rs := [4]) (by kernel_rfl) (by simp) (AllReady.cons rfl (fun K hK => ?_) AllReady.nil)
  go_simp
  refine hK _ _ ?_
  clear hK K
  refine wpAny_ready (rs := [5]) (by kernel_rfl) (by simp) (AllReady.cons rfl (fun K hK => ?_) AllReady.nil)
  go_simp
  refine hK _ _ ?_
  clear hK K
  refine wpAny_ready (rs := [6]) (by kernel_rfl) (by simp) (AllReady.cons rfl (fun K hK => ?_) AllReady.nil)
  go_simp
  refine hK _ _ ?_
  clear hK K
  refine wpAny_ready (rs := [7]) (by kernel_rfl) (by simp) (AllReady.cons rfl (fun K hK => ?_) AllReady.nil)
  go_simp
  refine hK _ _ ?_
  clear hK K
  refine wpAny_ready (rs := [8]) (by kernel_rfl) (by simp) (AllReady.cons rfl (fun K hK => ?_) AllReady.nil)
  go_simp
  refine hK _ _ ?_
  clear hK K
  refine wpAny_ready (rs := [9]) (by kernel_rfl) (by simp) (AllReady.cons rfl (fun K hK => ?_) AllReady.nil)
  go_simp
  refine hK _ _ ?_
  clear hK K
  refine wpAny_ready (rs := [10]) (by kernel_rfl) (by simp) (AllReady.cons rfl (fun K hK => ?_) AllReady.nil)
  go_simp
  refine hK _ _ ?_
  clear hK K
  refine wpAny_ready (rs := [11]) (by kernel_rfl) (by simp) (AllReady.cons rfl (fun K hK => ?_) AllReady.nil)
  go_simp
  refine hK _ _ ?_
  clear hK K
  refine wpAny_ready (rs := [12]) (by kernel_rfl) (by simp) (AllReady.cons rfl (fun K hK => ?_) AllReady.nil)
  go_simp
  refine hK _ _ ?_
  clear hK K
  refine wpAny_ready (rs := [13]) (by kernel_rfl) (by simp) (AllReady.cons rfl (fun K hK => ?_) AllReady.nil)
  go_simp
  refine hK _ _ ?_
  clear hK K
  refine wpAny_ready (rs := [14]) (by kernel_rfl) (by simp) (AllReady.cons rfl (fun K hK => ?_) AllReady.nil)
  go_simp
  refine hK _ _ ?_
  clear hK K
  refine wpAny_ready (rs := [15]) (by kernel_rfl) (by simp) (AllReady.cons rfl (fun K hK => ?_) AllReady.nil)
  go_simp
  refine hK _ _ ?_
  clear hK K
  refine wpAny_ready (rs := [16]) (by kernel_rfl) (by simp) (AllReady.cons rfl (fun K hK => ?_) AllReady.nil)
  go_simp
  refine hK _ _ ?_
  clear hK K
  refine wpAny_ready (rs := [17]) (by kernel_rfl) (by simp) (AllReady.cons rfl (fun K hK => ?_) AllReady.nil)
  go_simp
  refine hK _ _ ?_
  clear hK K
  refine wpAny_ready (rs := [18]) (by kernel_rfl) (by simp) (AllReady.cons rfl (fun K hK => ?_) AllReady.nil)
  go_simp
  refine hK _ _ ?_
  clear hK K
  refine wpAny_ready (rs := [19]) (by kernel_rfl) (by simp) (AllReady.cons rfl (fun K hK => ?_) AllReady.nil)
  go_simp
  refine hK _ _ ?_
  clear hK K
  refine wpAny_ready (rs := [20]) (by kernel_rfl) (by simp) (AllReady.cons rfl (fun K hK => ?_) AllReady.nil)
  go_simp
  refine hK _ _ ?_
  clear hK K
  refine wpAny_ready (rs := [21]) (by kernel_rfl) (by simp) (AllReady.cons rfl (fun K hK => ?_) AllReady.nil)
  go_simp
  refine hK _ _ ?_
  clear hK K
  refine wpAny_ready (rs := [22]) (by kernel_rfl) (by simp) (AllReady.cons rfl (fun K hK => ?_) AllReady.nil)
  go_simp
  refine hK _ _ ?_
  clear hK K
  refine wpAny_ready (rs := [23]) (by kernel_rfl) (by simp) (AllReady.cons rfl (fun K hK => ?_) AllReady.nil)
  go_simp
  refine hK _ _ ?_
  clear hK K
  refine wpAny_ready (rs := [24]) (by kernel_rfl) (by simp) (AllReady.cons rfl (fun K hK => ?_) AllReady.nil)
  go_simp
  refine hK _ _ ?_
  clear hK K
  refine wpAny_ready (rs := [25]) (by kernel_rfl) (by simp) (AllReady.cons rfl (fun K hK => ?_) AllReady.nil)
  go_simp
  refine hK _ _ ?_
  clear hK K
  refine wpAny_ready (rs := [26]) (by kernel_rfl) (by simp) (AllReady.cons rfl (fun K hK => ?_) AllReady.nil)
  go_simp
  refine hK _ _ ?_
  clear hK K
  refine wpAny_ready (rs := [27]) (by kernel_rfl) (by simp) (AllReady.cons rfl (fun K hK => ?_) AllReady.nil)
  go_simp
  refine hK _ _ ?_
  clear hK K
  refine wpAny_ready (rs := [28]) (by kernel_rfl) (by simp) (AllReady.cons rfl (fun K hK => ?_) AllReady.nil)
  go_simp
  refine hK _ _ ?_
  clear hK K
  refine wpAny_ready (rs := [29]) (by kernel_rfl) (by simp) (AllReady.cons rfl (fun K hK => ?_) AllReady.nil)
  go_simp
  refine hK _ _ ?_
  clear hK K
  refine wpAny_ready (rs := [30]) (by kernel_rfl) (by simp) (AllReady.cons rfl (fun K hK => ?_) AllReady.nil)
  go_simp
  refine hK _ _ ?_
  clear hK K
  refine wpAny_ready (rs := [31]) (by kernel_rfl) (by simp) (AllReady.cons rfl (fun K hK => ?_) AllReady.nil)
  go_simp
  refine hK _ _ ?_
  clear hK K
  refine wpAny_ready (rs := [32, 33]) (by kernel_rfl) (by simp) (AllReady.cons rfl (fun K hK => ?_) (AllReady.cons rfl (fun K hK => ?_) AllReady.nil))
  · go_simp
    refine hK _ _ ?_
    clear hK K
    refine wpAny_ready (rs := [33]) (by kernel_rfl) (by simp) (AllReady.cons rfl (fun K hK => ?_) AllReady.nil)
    go_simp
    go_wp2_with fail
    refine (of_any 1 _ (by omega)).mono ?_
    rintro e w8 ⟨⟨a8, n8, c8, rfl, hm8⟩, hb8⟩
    have hbx8 := hbx7.kept hb8
    have hcx8 := hbx8.cell
    have hN8 := hN7.kept hb8
    have HB8 := hide (gr_trans (unhide HB7) hb8)
    clear hbx7 hcx7 hN7 HB7 hb8
    refine hK _ _ ?_
    clear hK K
    refine wpAny_ready (rs := [34]) (by kernel_rfl) (by simp) (AllReady.cons rfl (fun K hK => ?_) AllReady.nil)
    go_simp
    go_wp2_with fail
    refine (same_any a6 a8 n6 n8 c6 c8 1 1 _ hN8 hm8.num).mono ?_
    rintro e w9 ⟨rfl, hb9⟩
    have HB9 := hide (gr_trans (unhide HB8) hb9)
    clear hbx8 hcx8 hN8 hm8 HB8 hb9
    refine hK _ _ ?_
    clear hK K
    refine wpAny_ready (rs := [35]) (by kernel_rfl) (by simp) (AllReady.cons rfl (fun K hK => ?_) AllReady.nil)
    go_simp
    refine hK _ _ ?_
    clear hK K
    refine wpAny_ready (rs := [36]) (by kernel_rfl) (by simp) (AllReady.cons rfl (fun K hK => ?_) AllReady.nil)
    go_simp
    refine hK _ _ ?_
    clear hK K
    refine wpAny_ready (rs := [37]) (by kernel_rfl) (by simp) (AllReady.cons rfl (fun K hK => ?_) AllReady.nil)
    go_simp
    refine hK _ _ ?_
    clear hK K
    refine wpAny_ready (rs := [38]) (by kernel_rfl) (by simp) (AllReady.cons rfl (fun K hK => ?_) AllReady.nil)
    go_simp
    refine hK _ _ ?_
    clear hK K
    refine wpAny_ready (rs := [39]) (by kernel_rfl) (by simp) (AllReady.cons rfl (fun K hK => ?_) AllReady.nil)
    go_simp
    go_wp2_with fail
    refine (check_big _ _ (Row.made _ _)).mono ?_
    rintro e w10 ⟨rfl, hb10⟩
    have HB10 := hide (gr_trans (gr_trans (unhide HB9) (gr_alloc _ _)) hb10)
    clear HB9 hb10
    refine hK _ _ ?_
    clear hK K
    refine wpAny_ready (rs := [40]) (by kernel_rfl) (by simp) (AllReady.cons rfl (fun K hK => ?_) AllReady.nil)
    go_simp
    refine hK _ _ ?_
    clear hK K
    refine wpAny_ready (rs := [41]) (by kernel_rfl) (by simp) (AllReady.cons rfl (fun K hK => ?_) AllReady.nil)
    go_simp
    refine hK _ _ ?_
    clear hK K
    refine wpAny_ready (rs := [42]) (by kernel_rfl) (by simp) (AllReady.cons rfl (fun K hK => ?_) AllReady.nil)
    go_simp
    refine hK _ _ ?_
    clear hK K
    refine wpAny_ready (rs := [43]) (by kernel_rfl) (by simp) (AllReady.cons rfl (fun K hK => ?_) AllReady.nil)
    go_simp
    refine hK _ _ ?_
    clear hK K
    refine wpAny_ready (rs := [44]) (by kernel_rfl) (by simp) (AllReady.cons rfl (fun K hK => ?_) AllReady.nil)
    go_simp
    refine hK _ _ ?_
    clear hK K
    refine wpAny_ready (rs := [45]) (by kernel_rfl) (by simp) (AllReady.cons rfl (fun K hK => ?_) AllReady.nil)
    go_simp
    go_wp2_with fail
    refine (check_five _ _ (Row.five _)).mono ?_
    rintro e w11 ⟨rfl, hb11⟩
    have HB11 := hide (gr_trans (gr_trans (unhide HB10) (gr_alloc _ _)) hb11)
    clear HB10 hb11
    refine hK _ _ ?_
    clear hK K
    refine wpAny_ready (rs := [46]) (by kernel_rfl) (by simp) (AllReady.cons rfl (fun K hK => ?_) AllReady.nil)
    go_simp
    refine hK _ _ ?_
    clear hK K
    refine wpAny_ready (rs := [47]) (by kernel_rfl) (by simp) (AllReady.cons rfl (fun K hK => ?_) AllReady.nil)
    go_simp
    refine hK _ _ ?_
    clear hK K
    refine wpAny_ready (rs := [48]) (by kernel_rfl) (by simp) (AllReady.cons rfl (fun K hK => ?_) AllReady.nil)
    go_simp
    refine hK _ _ ?_
    clear hK K
    refine wpAny_done (by kernel_rfl) ?_ _
    go_wp2
    go_ret
    exact ⟨rfl, unhide HB11⟩
  · go_simp
    go_wp2_with fail
    refine (of_any 1 _ (by omega)).mono ?_
    rintro e w8 ⟨⟨a8, n8, c8, rfl, hm8⟩, hb8⟩
    have hbx8 := hbx7.kept hb8
    have hcx8 := hbx8.cell
    have hN8 := hN7.kept hb8
    have HB8 := hide (gr_trans (unhide HB7) hb8)
    clear hbx7 hcx7 hN7 HB7 hb8
    refine hK _ _ ?_
    clear hK K
    refine wpAny_ready (rs := [32]) (by kernel_rfl) (by simp) (AllReady.cons rfl (fun K hK => ?_) AllReady.nil)
    go_simp
    refine hK _ _ ?_
    clear hK K
    refine wpAny_ready (rs := [34]) (by kernel_rfl) (by simp) (AllReady.cons rfl (fun K hK => ?_) AllReady.nil)
    go_simp
    go_wp2_with fail
    refine (same_any a6 a8 n6 n8 c6 c8 1 1 _ hN8 hm8.num).mono ?_
    rintro e w9 ⟨rfl, hb9⟩
    have HB9 := hide (gr_trans (unhide HB8) hb9)
    clear hbx8 hcx8 hN8 hm8 HB8 hb9
    refine hK _ _ ?_
    clear hK K
    refine wpAny_ready (rs := [35]) (by kernel_rfl) (by simp) (AllReady.cons rfl (fun K hK => ?_) AllReady.nil)
    go_simp
    refine hK _ _ ?_
    clear hK K
    refine wpAny_ready (rs := [36]) (by kernel_rfl) (by simp) (AllReady.cons rfl (fun K hK => ?_) AllReady.nil)
    go_simp
    refine hK _ _ ?_
    clear hK K
    refine wpAny_ready (rs := [37]) (by kernel_rfl) (by simp) (AllReady.cons rfl (fun K hK => ?_) AllReady.nil)
    go_simp
    refine hK _ _ ?_
    clear hK K
    refine wpAny_ready (rs := [38]) (by kernel_rfl) (by simp) (AllReady.cons rfl (fun K hK => ?_) AllReady.nil)
    go_simp
    refine hK _ _ ?_
    clear hK K
    refine wpAny_ready (rs := [39]) (by kernel_rfl) (by simp) (AllReady.cons rfl (fun K hK => ?_) AllReady.nil)
    go_simp
    go_wp2_with fail
    refine (check_big _ _ (Row.made _ _)).mono ?_
    rintro e w10 ⟨rfl, hb10⟩
    have HB10 := hide (gr_trans (gr_trans (unhide HB9) (gr_alloc _ _)) hb10)
    clear HB9 hb10
    refine hK _ _ ?_
    clear hK K
    refine wpAny_ready (rs := [40]) (by kernel_rfl) (by simp) (AllReady.cons rfl (fun K hK => ?_) AllReady.nil)
    go_simp
    refine hK _ _ ?_
    clear hK K
    refine wpAny_ready (rs := [41]) (by kernel_rfl) (by simp) (AllReady.cons rfl (fun K hK => ?_) AllReady.nil)
    go_simp
    refine hK _ _ ?_
    clear hK K
    refine wpAny_ready (rs := [42]) (by kernel_rfl) (by simp) (AllReady.cons rfl (fun K hK => ?_) AllReady.nil)
    go_simp
    refine hK _ _ ?_
    clear hK K
    refine wpAny_ready (rs := [43]) (by kernel_rfl) (by simp) (AllReady.cons rfl (fun K hK => ?_) AllReady.nil)
    go_simp
    refine hK _ _ ?_
    clear hK K
    refine wpAny_ready (rs := [44]) (by kernel_rfl) (by simp) (AllReady.cons rfl (fun K hK => ?_) AllReady.nil)
    go_simp
    refine hK _ _ ?_
    clear hK K
    refine wpAny_ready (rs := [45]) (by kernel_rfl) (by simp) (AllReady.cons rfl (fun K hK => ?_) AllReady.nil)
    go_simp
    go_wp2_with fail
    refine (check_five _ _ (Row.five _)).mono ?_
    rintro e w11 ⟨rfl, hb11⟩
    have HB11 := hide (gr_trans (gr_trans (unhide HB10) (gr_alloc _ _)) hb11)
    clear HB10 hb11
    refine hK _ _ ?_
    clear hK K
    refine wpAny_ready (rs := [46]) (by kernel_rfl) (by simp) (AllReady.cons rfl (fun K hK => ?_) AllReady.nil)
    go_simp
    refine hK _ _ ?_
    clear hK K
    refine wpAny_ready (rs := [47]) (by kernel_rfl) (by simp) (AllReady.cons rfl (fun K hK => ?_) AllReady.nil)
    go_simp
    refine hK _ _ ?_
    clear hK K
    refine wpAny_ready (rs := [48]) (by kernel_rfl) (by simp) (AllReady.cons rfl (fun K hK => ?_) AllReady.nil)
    go_simp
    refine hK _ _ ?_
    clear hK K
    refine wpAny_done (by kernel_rfl) ?_ _
    go_wp2
    go_ret
    exact ⟨rfl, unhide HB11⟩

end Go.Proofs.Ytkpbgjgebjcfeaa
