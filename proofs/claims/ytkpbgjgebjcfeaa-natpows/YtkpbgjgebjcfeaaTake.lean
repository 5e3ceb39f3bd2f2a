/- The call take puts some steps of Euclid's way to work on two rows, in place. -/
import Derived.Test.YtkpbgjgebjcfeaaForetell
import Derived.Test.YtkpbgjgebjcfeaaTrim
import Derived.Test.YtkpbgjgebjcfeaaPlainB
import Derived.BigQuiet
namespace Go.Proofs.Ytkpbgjgebjcfeaa
open Go.RowKit

theorem tk_step {o c p q s y A D B t r u : Int} (B' : Int) (hB : B' = B * 4294967296) (h : o + B * c = A * p + D * q) (ht : t = c + (A * s + D * y)) (e : t = 4294967296 * u + r) : (o + B * r) + B' * u = A * (p + B * s) + D * (q + B * y) := by
  subst hB
  have e1 : B * t = B * 4294967296 * u + B * r := by rw [e, Int.mul_add, Int.mul_assoc]
  have e2 : B * t = B * c + (A * (B * s) + D * (B * y)) := by
    rw [ht, Int.mul_add, Int.mul_add, Int.mul_left_comm B A, Int.mul_left_comm B D]
  rw [Int.mul_add A, Int.mul_add D]
  omega
theorem tk_end {U P cu A D XL XH Y X : Int} (h : U + P * cu = A * XL + D * Y) (hX : X = A * (XL + P * XH) + D * Y) (hU0 : 0 ≤ U) (hU1 : U < P) (hX0 : 0 ≤ X) (hX1 : X < P) : U = X := by
  have e : X - U = P * (cu + A * XH) := by
    rw [hX, Int.mul_add A, Int.mul_add P, Int.mul_left_comm A P]
    omega
  have hz : cu + A * XH = 0 := by
    rcases Int.lt_trichotomy (cu + A * XH) 0 with h1 | h1 | h1
    · have : P * (cu + A * XH) ≤ P * (-1) := Int.mul_le_mul_of_nonneg_left (by omega) (by omega)
      omega
    · exact h1
    · have : P * 1 ≤ P * (cu + A * XH) := Int.mul_le_mul_of_nonneg_left (by omega) (by omega)
      omega
  rw [hz, Int.mul_zero] at e
  omega
theorem pr_pos {A : Int} {x : Nat} (h0 : 0 ≤ A) (h1 : A ≤ 2147483647) (hx : x < 4294967296) : 0 ≤ A * (x : Int) ∧ A * (x : Int) ≤ 9223372030412324865 := by
  refine ⟨Int.mul_nonneg h0 (by omega), ?_⟩
  have : A * (x : Int) ≤ 2147483647 * 4294967295 := Int.mul_le_mul h1 (by omega) (by omega) (by omega)
  omega
theorem pr_neg {A : Int} {x : Nat} (h0 : A ≤ 0) (h1 : -2147483647 ≤ A) (hx : x < 4294967296) : -9223372030412324865 ≤ A * (x : Int) ∧ A * (x : Int) ≤ 0 := by
  have := pr_pos (A := -A) (x := x) (by omega) (by omega) hx
  rw [Int.neg_mul] at this
  omega
/-- Two products of either sign do not leave the word. -/
theorem pr_sum {A B : Int} {x y : Nat} (h : (0 ≤ A ∧ B ≤ 0) ∨ (A ≤ 0 ∧ 0 ≤ B)) (ha : -2147483647 ≤ A ∧ A ≤ 2147483647) (hb : -2147483647 ≤ B ∧ B ≤ 2147483647) (hx : x < 4294967296) (hy : y < 4294967296) :
    -9223372030412324865 ≤ A * (x : Int) ∧ A * (x : Int) ≤ 9223372030412324865 ∧ -9223372030412324865 ≤ B * (y : Int) ∧ B * (y : Int) ≤ 9223372030412324865 ∧ -9223372030412324865 ≤ A * (x : Int) + B * (y : Int) ∧ A * (x : Int) + B * (y : Int) ≤ 9223372030412324865 := by
  rcases h with ⟨h1, h2⟩ | ⟨h1, h2⟩
  · have p := pr_pos h1 ha.2 hx
    have q := pr_neg h2 hb.1 hy
    omega
  · have p := pr_neg h1 ha.1 hx
    have q := pr_pos h2 hb.2 hy
    omega

/-- What the rows hold in a round. -/
def TkInv (bx by' base : Nat) (xs ys : List Nat) (A B C D : Int) (w : World) (k : Nat) (cu cl : Int) (wr : World) : Prop :=
  ∃ us ls : List Nat, us.length = k ∧ ls.length = k ∧ Pl.Wf us ∧ Pl.Wf ls ∧ ((Pl.val us : Nat) : Int) + ((4294967296 ^ k : Nat) : Int) * cu = A * ((Pl.val (xs.take k) : Nat) : Int) + B * ((Pl.val (ys.take k) : Nat) : Int) ∧
    ((Pl.val ls : Nat) : Int) + ((4294967296 ^ k : Nat) : Int) * cl = C * ((Pl.val (xs.take k) : Nat) : Int) + D * ((Pl.val (ys.take k) : Nat) : Int) ∧
    Row wr bx (us ++ xs.drop k) ∧ Row wr by' (ls ++ ys.drop k) ∧ Box4 wr w.heap.size A B C D ∧ Below base w wr

theorem pow_cast_succ (k : Nat) : ((4294967296 ^ (k + 1) : Nat) : Int) = ((4294967296 ^ k : Nat) : Int) * 4294967296 := by rw [Nat.pow_succ, Int.natCast_mul]; rfl

theorem TkInv.step {bx by' base k : Nat} {xs ys : List Nat} {A B C D cu cl t1 t2 : Int} {w wr wr' : World} (h : TkInv bx by' base xs ys A B C D w k cu cl wr) (hkx : k < xs.length) (hky : k < ys.length) (hne : bx ≠ by') (hbx : base ≤ bx) (hby : base ≤ by') (hb4 : w.heap.size ≠ bx) (hb5 : w.heap.size ≠ by')
    (e1 : t1 = cu + (A * ((xs[k]?.getD 0 : Nat) : Int) + B * ((ys[k]?.getD 0 : Nat) : Int))) (e2 : t2 = cl + (C * ((xs[k]?.getD 0 : Nat) : Int) + D * ((ys[k]?.getD 0 : Nat) : Int)))
    (hw : wr' = (wr.setCell ⟨bx, k, none⟩ (.int .u32 (t1 % 4294967296))).setCell ⟨by', k, none⟩ (.int .u32 (t2 % 4294967296))) :
    TkInv bx by' base xs ys A B C D w (k + 1) (t1 / 4294967296) (t2 / 4294967296) wr' := by
  obtain ⟨us, ls, hu, hl, wu, wl, v1, v2, r1, r2, b4, bel⟩ := h
  have m1 : t1 % 4294967296 = (((t1 % 4294967296).toNat : Nat) : Int) := by omega
  have m2 : t2 % 4294967296 = (((t2 % 4294967296).toNat : Nat) : Int) := by omega
  have s1 := set_mid [] us xs [] k (t1 % 4294967296).toNat hu hkx
  have s2 := set_mid [] ls ys [] k (t2 % 4294967296).toNat hl hky
  simp only [List.nil_append, List.append_nil, List.length_nil, Nat.zero_add] at s1 s2
  have q1 := r1.set k (t1 % 4294967296).toNat (by simp; omega)
  rw [s1, ← m1] at q1
  have o1 : Only bx wr (wr.setCell ⟨bx, k, none⟩ (.int .u32 (t1 % 4294967296))) := (Only.refl bx wr).setCell _ _
  have q2 := (r2.only o1 (Ne.symm hne)).set k (t2 % 4294967296).toNat (by simp; omega)
  rw [s2, ← m2] at q2
  have o2 : Only by' (wr.setCell ⟨bx, k, none⟩ (.int .u32 (t1 % 4294967296))) ((wr.setCell ⟨bx, k, none⟩ (.int .u32 (t1 % 4294967296))).setCell ⟨by', k, none⟩ (.int .u32 (t2 % 4294967296))) := (Only.refl _ _).setCell _ _
  refine ⟨us ++ [(t1 % 4294967296).toNat], ls ++ [(t2 % 4294967296).toNat], by simp [hu], by simp [hl], Pl.wf_append wu (Pl.wf_one (by omega)), Pl.wf_append wl (Pl.wf_one (by omega)), ?_, ?_, ?_, ?_, ?_, ?_⟩
  · rw [Pl.val_append, Pl.val_one, hu, Pl.val_take_any xs k, Pl.val_take_any ys k, Int.natCast_add, Int.natCast_mul, Int.natCast_add, Int.natCast_mul, Int.natCast_add, Int.natCast_mul, ← m1]
    exact tk_step _ (pow_cast_succ k) v1 e1 (by omega)
  · rw [Pl.val_append, Pl.val_one, hl, Pl.val_take_any xs k, Pl.val_take_any ys k, Int.natCast_add, Int.natCast_mul, Int.natCast_add, Int.natCast_mul, Int.natCast_add, Int.natCast_mul, ← m2]
    exact tk_step _ (pow_cast_succ k) v2 e2 (by omega)
  · rw [hw]; exact q1.only o2 hne
  · rw [hw]; exact q2
  · rw [hw]
    unfold Box4
    rw [o2.block _ hb5, o1.block _ hb4]
    exact b4
  · rw [hw]; exact (bel.setCell hbx _).setCell hby _

theorem TkInv.drewN {bx by' base k : Nat} {xs ys : List Nat} {A B C D cu cl : Int} {w wr : World} (h : TkInv bx by' base xs ys A B C D w k cu cl wr) (n : Nat) : TkInv bx by' base xs ys A B C D w k cu cl (wr.drewN n) := by
  obtain ⟨us, ls, hu, hl, wu, wl, v1, v2, r1, r2, b4, bel⟩ := h
  exact ⟨us, ls, hu, hl, wu, wl, v1, v2, r1, r2, b4, below_drewN bel n⟩

set_option maxHeartbeats 1000000 in
theorem take_any (bx by' base nx n cx cy Xt Yt : Nat) (xs ys : List Nat) (A B C D : Int) (w : World) (hxl : Hid (xs.length = nx)) (hyl : Hid (ys.length = n)) (hnn : n ≤ nx) (hnb : nx ≤ 16384) (hcx : nx ≤ cx) (hcy : n ≤ cy) (hcy2 : cy ≤ 9223372036854775807) (hXt : Hid (Pl.val xs = Xt)) (hYt : Hid (Pl.val ys = Yt))
    (hxw : Pl.Wf xs) (hyw : Pl.Wf ys) (hne : bx ≠ by') (hbx : base ≤ bx) (hby : base ≤ by') (hbw : base ≤ w.heap.size) (hRx : Row w bx xs) (hRy : Row w by' ys) (hT : Hid (Tru Xt Yt A B C D)) (hB0 : Hid (B ≠ 0)) (hSm : Sm A B C D) :
    Calls Try.prog 90 #[.agg #[.int .i64 A, .int .i64 B, .int .i64 C, .int .i64 D], .slice (some ⟨bx, 0, none⟩) nx cx, .slice (some ⟨by', 0, none⟩) n cy] w
      fun e w' => (∃ l1 l2 X Y, e = .returned (.tuple #[.slice (some ⟨bx, 0, none⟩) l1 l1, .slice (some ⟨by', 0, none⟩) l2 l2]) ∧ Mine w' base (some ⟨bx, 0, none⟩) l1 l1 X ∧ Mine w' base (some ⟨by', 0, none⟩) l2 l2 Y ∧ Nat.gcd X Y = Nat.gcd Xt Yt ∧ Y < X ∧ X ≤ Yt) ∧ Below base w w' := by
  obtain ⟨⟨hA1, hA2⟩, ⟨hB1, hB2⟩, ⟨hC1, hC2⟩, ⟨hD1, hD2⟩, hsg⟩ := hSm
  have hxlt := hRx.lt
  have hylt := hRy.lt
  go_enter Try.func90, Try.ntmps90
  go_wp2
  go_loopw [9, 10, 22] (fun a b i wr => ∃ (k : Nat) (cu cl : Int), k ≤ n ∧ i = .int .i64 (k : Int) ∧ a = .int .i64 cu ∧ b = .int .i64 cl ∧ -2147483648 ≤ cu ∧ cu ≤ 2147483648 ∧ -2147483648 ≤ cl ∧ cl ≤ 2147483648 ∧ TkInv bx by' base xs ys A B C D w k cu cl wr) (fun _ _ i _ => n - (intOf i).toNat)
  case atStart =>
    refine ⟨0, 0, 0, Nat.zero_le _, rfl, rfl, rfl, by omega, by omega, by omega, by omega, [], [], rfl, rfl, Pl.wf_nil, Pl.wf_nil, by simp [Pl.val], by simp [Pl.val], by simpa using hRx.kept (gr_alloc _ _), by simpa using hRy.kept (gr_alloc _ _), ?_, ?_⟩
    · exact heap_alloc_new w _
    · exact (Below.refl _ _).alloc hbw _
  case round =>
    obtain ⟨k, cu, cl, hk, rfl, rfl, rfl, hu1, hu2, hl1, hl2, HI⟩ := hrel
    have hxl' := unhide hxl
    have hyl' := unhide hyl
    by_cases hkn : k < n
    · obtain ⟨x, hxx⟩ : ∃ x, x = xs[k]?.getD 0 := ⟨_, rfl⟩
      obtain ⟨y, hyy⟩ : ∃ y, y = ys[k]?.getD 0 := ⟨_, rfl⟩
      have hx1 : x < 4294967296 := by rw [hxx]; exact Pl.wf_at hxw k
      have hy1 : y < 4294967296 := by rw [hyy]; exact Pl.wf_at hyw k
      have HI' := HI
      obtain ⟨us, ls, hus, hls, _, _, _, _, r1, r2, b4, _⟩ := HI'
      have a1 := at_mid [] us xs [] k hus (by omega)
      have a2 := at_mid [] ls ys [] k hls (by omega)
      simp only [List.nil_append, List.append_nil, List.length_nil, Nat.zero_add] at a1 a2
      have hcx1 : wr.cell? ⟨bx, k, none⟩ = some (.int .u32 (x : Int)) := by rw [r1.cell k (by simp; omega), a1, hxx]
      have hcy1 : wr.cell? ⟨by', k, none⟩ = some (.int .u32 (y : Int)) := by rw [r2.cell k (by simp; omega), a2, hyy]
      have hfx := r1.frozen k
      have hfy := r2.frozen k
      obtain ⟨k0, k1, k2, k3⟩ := b4.cells
      have P1 := pr_sum (x := x) (y := y) (A := A) (B := B) (by omega) ⟨hA1, hA2⟩ ⟨hB1, hB2⟩ hx1 hy1
      have P2 := pr_sum (x := x) (y := y) (A := C) (B := D) (by omega) ⟨hC1, hC2⟩ ⟨hD1, hD2⟩ hx1 hy1
      have HST := hide (fun nq wr' t1 t2 e1 e2 e3 => TkInv.step (wr' := wr') (t1 := t1) (t2 := t2) (HI.drewN nq) (by omega) (by omega) hne hbx hby (by omega) (by omega) e1 e2 e3)
      rw [← hxx, ← hyy] at HST
      clear HI hxx hyy r1 r2 b4 a1 a2
      obtain ⟨pA, hpA⟩ : ∃ t, A * (x : Int) = t := ⟨_, rfl⟩
      obtain ⟨pB, hpB⟩ : ∃ t, B * (y : Int) = t := ⟨_, rfl⟩
      obtain ⟨pC, hpC⟩ : ∃ t, C * (x : Int) = t := ⟨_, rfl⟩
      obtain ⟨pD, hpD⟩ : ∃ t, D * (y : Int) = t := ⟨_, rfl⟩
      rw [hpA, hpB] at P1 HST
      rw [hpC, hpD] at P2 HST
      obtain ⟨P11, P12, P13, P14, P15, P16⟩ := P1
      obtain ⟨P21, P22, P23, P24, P25, P26⟩ := P2
      clear hsg
      go_wp2
      go_quiet (fail)
      have hfx' : (wr.drewN nq).frozen? ⟨bx, k, none⟩ = false := hfx
      have hfy' : (wr.drewN nq).frozen? ⟨by', k, none⟩ = false := hfy
      have hcx' : (wr.drewN nq).cell? ⟨bx, k, none⟩ = some (.int .u32 (x : Int)) := hcx1
      have hcy' : (wr.drewN nq).cell? ⟨by', k, none⟩ = some (.int .u32 (y : Int)) := hcy1
      have k0' : (wr.drewN nq).cell? ⟨w.heap.size, 0, none⟩ = some (.int .i64 A) := k0
      have k1' : (wr.drewN nq).cell? ⟨w.heap.size, 1, none⟩ = some (.int .i64 B) := k1
      have k2' : (wr.drewN nq).cell? ⟨w.heap.size, 2, none⟩ = some (.int .i64 C) := k2
      have k3' : (wr.drewN nq).cell? ⟨w.heap.size, 3, none⟩ = some (.int .i64 D) := k3
      have HS2 := hide (unhide HST nq)
      clear HST hfx hfy hcx1 hcy1 k0 k1 k2 k3
      generalize wr.drewN nq = wq at *
      go_wp2
      go_roundw
      case rel => exact ⟨k + 1, (cu + (pA + pB)) / 4294967296, (cl + (pC + pD)) / 4294967296, by omega, by go_num, rfl, rfl, by omega, by omega, by omega, by omega, unhide HS2 _ _ _ rfl rfl rfl⟩
      case measure => simp [intOf]; omega
    · have hke : k = n := by omega
      subst hke
      obtain ⟨us, ls, hus, hls, wu, wl, v1, v2, r1, r2, b4, bel⟩ := HI
      have hyt : ys.take k = ys := List.take_of_length_le (by omega)
      have hyd : ys.drop k = [] := List.drop_eq_nil_of_le (by omega)
      rw [hyt, unhide hYt] at v1 v2
      rw [hyd, List.append_nil] at r2
      obtain ⟨X, Y, hX, hY, hg, hcase⟩ := unhide hT
      obtain ⟨hYX, hXY⟩ := hcase.resolve_left (fun h => absurd h.2.1 (unhide hB0))
      have hYb : Yt < 4294967296 ^ k := by have := Pl.val_lt hyw; rwa [hyl', unhide hYt] at this
      have hsp := Pl.val_split xs k (by omega)
      rw [unhide hXt] at hsp
      have hul := Pl.val_lt wu
      have hll := Pl.val_lt wl
      rw [hus] at hul
      rw [hls] at hll
      have hU : Pl.val us = X := by
        have := tk_end (XH := ((Pl.val (xs.drop k) : Nat) : Int)) v1 (by rw [hX, hsp, Int.natCast_add, Int.natCast_mul]) (Int.natCast_nonneg _) (Int.ofNat_lt.2 hul) (Int.natCast_nonneg X) (Int.ofNat_lt.2 (Nat.lt_of_le_of_lt hXY hYb))
        exact Int.ofNat.inj this
      have hL : Pl.val ls = Y := by
        have := tk_end (XH := ((Pl.val (xs.drop k) : Nat) : Int)) v2 (by rw [hY, hsp, Int.natCast_add, Int.natCast_mul]) (Int.natCast_nonneg _) (Int.ofNat_lt.2 hll) (Int.natCast_nonneg Y) (Int.ofNat_lt.2 (Nat.lt_trans (Nat.lt_of_lt_of_le hYX hXY) hYb))
        exact Int.ofNat.inj this
      have r1' : Row wr bx us := by
        have := r1.prefix k
        rwa [List.take_append_of_le_length (by omega), List.take_of_length_le (by omega)] at this
      have HF := hide (And.intro hU (And.intro hL (And.intro hg (And.intro hYX hXY))))
      clear v1 v2 hX hY hg hcase hYb hsp hul hll hU hL r1 hyt hyd hYX hXY b4 hsg
      go_wp2_with fail
      refine (trim_at bx 0 k k us wr hus (Nat.le_refl _) (by omega) (fun j hj => by rw [Nat.zero_add]; exact r1'.cell j hj)).mono ?_
      rintro e w1 ⟨rfl, l1, hl1, z0, z1, rfl⟩
      have HT1 := hide (trim_row r1' hbx (by omega) wu hl1 z0 z1)
      clear z0 z1
      go_wp2_with fail
      refine (trim_at by' 0 k cy ls wr hls ?_ ?_ (fun j hj => by rw [Nat.zero_add]; exact r2.cell j hj)).mono ?_
      · exact hcy
      · exact hcy2
      rintro e w2 ⟨rfl, l2, hl2, z0, z1, rfl⟩
      have HT2 := hide (trim_row r2 hby (by omega) wl hl2 z0 z1)
      clear z0 z1
      go_wp2
      go_ret2
      obtain ⟨f1, f2, f3, f4, f5⟩ := unhide HF
      obtain ⟨t1, t2, t3, t4, t5⟩ := unhide HT1
      obtain ⟨u1, u2, u3, u4, u5⟩ := unhide HT2
      exact ⟨⟨l1, l2, X, Y, rfl, ⟨_, t1, t2, t3, t4, t5.trans f1, by omega⟩, ⟨_, u1, u2, u3, u4, u5.trans f2, by omega⟩, f3, f4, f5⟩, bel⟩

end Go.Proofs.Ytkpbgjgebjcfeaa
