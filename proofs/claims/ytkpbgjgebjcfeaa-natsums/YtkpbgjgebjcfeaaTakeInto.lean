/- The call nat.takeInto takes a row of limbs, which is not worth more, from a row that is at least as long, in place. -/
import Derived.Test.YtkpbgjgebjcfeaaAddInto
namespace Go.Proofs.Ytkpbgjgebjcfeaa
open Go.RowKit

theorem xor_limb (x : Nat) (hx : x < 4294967296) : Go.bits .xor .u32 4294967295 (x : Int) = ((4294967295 - x : Nat) : Int) := by
  have h1 : BitVec.ofInt 32 4294967295 = BitVec.allOnes 32 := by decide
  have h2 : (BitVec.ofInt 32 (x : Int)).toNat = x := by
    rw [BitVec.ofInt_natCast, BitVec.toNat_ofNat]; exact Nat.mod_eq_of_lt (by omega)
  show IntKind.u32.wrap ((BitVec.ofInt 32 4294967295 ^^^ BitVec.ofInt 32 (x : Int)).toNat : Int) = _
  rw [h1, BitVec.allOnes_xor, BitVec.toNat_not, h2, IntKind.wrap_u32]
  omega

/-- One step of a row of differences: the complement is added. -/
theorem Pl.step_take {p o c d B : Nat} (B' : Nat) (hB : B' = B * 4294967296) (h : o + B * c + p = d + B) (t q r : Nat) (ht : t = q * 4294967296 + r) (x s : Nat) (hs : s < 4294967296) (hx : t = c + x + (4294967295 - s)) :
    (o + B * r) + B' * q + (p + B * s) = (d + B * x) + B' := by
  subst hB
  have e0 : t + s + 1 = c + x + 4294967296 := by omega
  have e1 : B * (t + s + 1) = B * (c + x + 4294967296) := by rw [e0]
  have e2 : B * t = B * 4294967296 * q + B * r := by rw [ht, Nat.mul_add, Nat.mul_assoc, Nat.mul_comm q]
  simp only [Nat.mul_add, Nat.mul_one] at e1
  omega
/-- What is left when nothing is borrowed beyond the row. -/
theorem Pl.take_end {O c B p d : Nat} (h : O + B * c + p = d + B) (hO : O < B) (hp : p ≤ d) (hc : c ≤ 1) : O = d - p := by
  have hc' : c = 1 := by
    cases c with
    | zero => simp at h; omega
    | succ c => omega
  subst hc'
  omega

set_option maxHeartbeats 400000 in
theorem takeInto_some (B n b off m cap cap' : Nat) (d xs : List Nat) (w : World) (hd : Hid (d.length = n)) (hx : Hid (xs.length = m)) (hmn : m ≤ n) (hlen : n ≤ 40000) (hne : b ≠ B) (hle : Hid (Pl.val xs ≤ Pl.val d))
    (wd : Pl.Wf d) (wx : Pl.Wf xs) (hrow : Row w B d)
    (hc : ∀ j, j < m → w.cell? ⟨b, off + j, none⟩ = some (.int .u32 ((xs[j]?.getD 0 : Nat) : Int))) :
    Calls Try.prog 77 #[.slice (some ⟨B, 0, none⟩) n cap, .slice (some ⟨b, off, none⟩) m cap'] w
      fun e w' => ∃ (out : List Nat), e = .returned (.tuple #[]) ∧ out.length = n ∧ Pl.Wf out ∧ Pl.val out = Pl.val d - Pl.val xs ∧ Row w' B out ∧ Only B w w' := by
  go_enter Try.func77, Try.ntmps77
  go_wp2
  go_loopw [4, 9] (fun t i wr => ∃ (k c : Nat) (out : List Nat), k ≤ n ∧ i = .int .i64 k ∧ t = .int .u64 (c : Int) ∧ c ≤ 1 ∧ out.length = k ∧ Pl.Wf out ∧
      Pl.val out + 4294967296 ^ k * c + Pl.val (xs.take k) = Pl.val (d.take k) + 4294967296 ^ k ∧ Row wr B (out ++ d.drop k) ∧ Only B w wr) (fun _ i _ => n - (intOf i).toNat)
  case atStart => exact ⟨0, 1, [], Nat.zero_le _, rfl, rfl, by omega, rfl, Pl.wf_nil, by simp [Pl.val], by simpa using hrow, Only.refl _ _⟩
  case round =>
    obtain ⟨k, c, out, hk, rfl, rfl, hcl, hol, how, hval, hr, honly⟩ := hrel
    have hdl := unhide hd
    have hxl := unhide hx
    by_cases hlt : k < n
    · obtain ⟨y, hy⟩ : ∃ y, y = d[k]?.getD 0 := ⟨_, rfl⟩
      obtain ⟨x, hxx⟩ : ∃ x, x = xs[k]?.getD 0 := ⟨_, rfl⟩
      have hx1 : x < 4294967296 := by rw [hxx]; exact Pl.wf_at wx k
      have hy1 : y < 4294967296 := by rw [hy]; exact Pl.wf_at wd k
      have hcd : wr.cell? ⟨B, k, none⟩ = some (.int .u32 (y : Int)) := by
        have := at_mid [] out d [] k hol (by omega)
        simp only [List.nil_append, List.append_nil, List.length_nil, Nat.zero_add] at this
        rw [hr.cell k (by simp; omega), this, hy]
      have hfz : wr.frozen? ⟨B, k, none⟩ = false := hr.frozen _
      have HV : Hid (∀ q r, c + y + (4294967295 - x) = q * 4294967296 + r → Pl.val (out ++ [r]) + 4294967296 ^ (k + 1) * q + Pl.val (xs.take (k + 1)) = Pl.val (d.take (k + 1)) + 4294967296 ^ (k + 1)) := fun q r e => by
        rw [Pl.val_append, Pl.val_one, hol, Pl.val_take_any d k, Pl.val_take_any xs k, ← hy, ← hxx]
        exact Pl.step_take _ (Nat.pow_succ ..) hval (c + y + (4294967295 - x)) q r e y x hx1 rfl
      have HR : Hid (∀ v, Row (wr.setCell ⟨B, k, none⟩ (.int .u32 ((v : Nat) : Int))) B ((out ++ [v]) ++ d.drop (k + 1))) := fun v => by
        have := hr.set k v (by simp; omega)
        have e := set_mid [] out d [] k v hol (by omega)
        simp only [List.nil_append, List.append_nil, List.length_nil, Nat.zero_add] at e
        rwa [e] at this
      by_cases hkm : k < m
      · have hcx : wr.cell? ⟨b, off + k, none⟩ = some (.int .u32 (x : Int)) := by rw [hxx]; exact (honly.cell (by exact hne)).trans (hc k hkm)
        have hxo := xor_limb x hx1
        obtain ⟨x', hx'⟩ : ∃ x', x' = 4294967295 - x := ⟨_, rfl⟩
        rw [← hx'] at hxo
        have hx2 : x' < 4294967296 := by omega
        have HX := hide hx'
        clear hval hy hxx hr hdl hxl hc hx'
        go_wp2
        go_roundw
        case rel =>
          have e1 : ((c : Int) + ((y : Int) + (x' : Int))) / 4294967296 = (((c + y + x') / 4294967296 : Nat) : Int) := by omega
          have e2 : ((c : Int) + ((y : Int) + (x' : Int))) % 4294967296 = (((c + y + x') % 4294967296 : Nat) : Int) := by omega
          rw [e1, e2]
          have := unhide HX
          exact ⟨k + 1, (c + y + x') / 4294967296, out ++ [(c + y + x') % 4294967296], by omega, by go_num, rfl, by omega, by simp [hol], Pl.wf_append how (Pl.wf_one (by omega)), unhide HV _ _ (by omega), unhide HR _, honly.setCell _ _⟩
        case measure => simp [intOf]; omega
      · have hx0 : x = 0 := by rw [hxx, List.getElem?_eq_none (by omega)]; rfl
        subst hx0
        clear hval hy hxx hr hdl hxl hc
        go_wp2
        go_roundw
        case rel =>
          have e1 : ((c : Int) + ((y : Int) + 4294967295)) / 4294967296 = (((c + y + (4294967295 - 0)) / 4294967296 : Nat) : Int) := by omega
          have e2 : ((c : Int) + ((y : Int) + 4294967295)) % 4294967296 = (((c + y + (4294967295 - 0)) % 4294967296 : Nat) : Int) := by omega
          rw [e1, e2]
          exact ⟨k + 1, (c + y + (4294967295 - 0)) / 4294967296, out ++ [(c + y + (4294967295 - 0)) % 4294967296], by omega, by go_num, rfl, by omega, by simp [hol], Pl.wf_append how (Pl.wf_one (by omega)), unhide HV _ _ (by omega), unhide HR _, honly.setCell _ _⟩
        case measure => simp [intOf]; omega
    · have hke : k = n := by omega
      subst hke
      rw [List.take_of_length_le (by omega), List.take_of_length_le (by omega)] at hval
      rw [List.drop_eq_nil_of_le (by omega), List.append_nil] at hr
      have hve : Pl.val out = Pl.val d - Pl.val xs := Pl.take_end hval (by have := Pl.val_lt how; rwa [hol] at this) (unhide hle) hcl
      have HV := hide hve
      clear hval hdl hxl hve
      go_wp2
      go_end0
      exact ⟨out, rfl, hol, how, unhide HV, hr, honly⟩

set_option maxHeartbeats 400000 in
theorem takeInto_zero (B n cap cap' : Nat) (a : Option Addr) (d : List Nat) (w : World) (hd : Hid (d.length = n)) (hlen : n ≤ 40000)
    (wd : Pl.Wf d) (hrow : Row w B d) :
    Calls Try.prog 77 #[.slice (some ⟨B, 0, none⟩) n cap, .slice a 0 cap'] w
      fun e w' => ∃ (out : List Nat), e = .returned (.tuple #[]) ∧ out.length = n ∧ Pl.Wf out ∧ Pl.val out = Pl.val d ∧ Row w' B out ∧ Only B w w' := by
  go_enter Try.func77, Try.ntmps77
  go_wp2
  go_loopw [4, 9] (fun t i wr => ∃ (k c : Nat) (out : List Nat), k ≤ n ∧ i = .int .i64 k ∧ t = .int .u64 (c : Int) ∧ c ≤ 1 ∧ out.length = k ∧ Pl.Wf out ∧
      Pl.val out + 4294967296 ^ k * c + 0 = Pl.val (d.take k) + 4294967296 ^ k ∧ Row wr B (out ++ d.drop k) ∧ Only B w wr) (fun _ i _ => n - (intOf i).toNat)
  case atStart => exact ⟨0, 1, [], Nat.zero_le _, rfl, rfl, by omega, rfl, Pl.wf_nil, by simp [Pl.val], by simpa using hrow, Only.refl _ _⟩
  case round =>
    obtain ⟨k, c, out, hk, rfl, rfl, hcl, hol, how, hval, hr, honly⟩ := hrel
    have hdl := unhide hd
    by_cases hlt : k < n
    · obtain ⟨y, hy⟩ : ∃ y, y = d[k]?.getD 0 := ⟨_, rfl⟩
      have hy1 : y < 4294967296 := by rw [hy]; exact Pl.wf_at wd k
      have hcd : wr.cell? ⟨B, k, none⟩ = some (.int .u32 (y : Int)) := by
        have := at_mid [] out d [] k hol (by omega)
        simp only [List.nil_append, List.append_nil, List.length_nil, Nat.zero_add] at this
        rw [hr.cell k (by simp; omega), this, hy]
      have hfz : wr.frozen? ⟨B, k, none⟩ = false := hr.frozen _
      have HV : Hid (∀ q r, c + y + 4294967295 = q * 4294967296 + r → Pl.val (out ++ [r]) + 4294967296 ^ (k + 1) * q + 0 = Pl.val (d.take (k + 1)) + 4294967296 ^ (k + 1)) := fun q r e => by
        rw [Pl.val_append, Pl.val_one, hol, Pl.val_take_any d k, ← hy]
        have := Pl.step_take _ (Nat.pow_succ ..) hval (c + y + (4294967295 - 0)) q r e y 0 (by decide) rfl
        rwa [Nat.mul_zero] at this
      have HR : Hid (∀ v, Row (wr.setCell ⟨B, k, none⟩ (.int .u32 ((v : Nat) : Int))) B ((out ++ [v]) ++ d.drop (k + 1))) := fun v => by
        have := hr.set k v (by simp; omega)
        have e := set_mid [] out d [] k v hol (by omega)
        simp only [List.nil_append, List.append_nil, List.length_nil, Nat.zero_add] at e
        rwa [e] at this
      clear hval hy hr hdl
      go_wp2
      go_roundw
      case rel =>
        have e1 : ((c : Int) + ((y : Int) + 4294967295)) / 4294967296 = (((c + y + 4294967295) / 4294967296 : Nat) : Int) := by omega
        have e2 : ((c : Int) + ((y : Int) + 4294967295)) % 4294967296 = (((c + y + 4294967295) % 4294967296 : Nat) : Int) := by omega
        rw [e1, e2]
        exact ⟨k + 1, (c + y + 4294967295) / 4294967296, out ++ [(c + y + 4294967295) % 4294967296], by omega, by go_num, rfl, by omega, by simp [hol], Pl.wf_append how (Pl.wf_one (by omega)), unhide HV _ _ (by omega), unhide HR _, honly.setCell _ _⟩
      case measure => simp [intOf]; omega
    · have hke : k = n := by omega
      subst hke
      rw [List.take_of_length_le (by omega)] at hval
      rw [List.drop_eq_nil_of_le (by omega), List.append_nil] at hr
      have hve : Pl.val out = Pl.val d - 0 := Pl.take_end hval (by have := Pl.val_lt how; rwa [hol] at this) (Nat.zero_le _) hcl
      have HV := hide hve
      clear hval hdl hve
      go_wp2
      go_end0
      exact ⟨out, rfl, hol, how, unhide HV, hr, honly⟩

theorem takeInto_none (cap : Nat) (a a' : Option Addr) (n' cap' : Nat) (w : World) :
    Calls Try.prog 77 #[.slice a 0 cap, .slice a' n' cap'] w
      fun e w' => e = .returned (.tuple #[]) ∧ w' = w := by
  go_enter Try.func77, Try.ntmps77
  go_wp2
  refine wp_loop_rounds 1 ?_
  rw [rounds_succ]
  go_wp2
  go_end0
  exact ⟨rfl, rfl⟩

end Go.Proofs.Ytkpbgjgebjcfeaa
