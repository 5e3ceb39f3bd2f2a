/- The call nat.addInto adds a row of limbs into a row that is at least as long, in place, and tells whether one is carried beyond it. -/
import Derived.Test.YtkpbgjgebjcfeaaBase
import Derived.Test.YtkpbgjgebjcfeaaPlainB
namespace Go.Proofs.Ytkpbgjgebjcfeaa
open Go.RowKit

theorem bne_cast (c : Nat) : ((c : Int) != 0) = (c != 0) := by rw [Bool.eq_iff_iff]; simp

set_option maxHeartbeats 400000 in
theorem addInto_some (B p n b off m cap cap' : Nat) (pre d post xs : List Nat) (w : World) (hp : Hid (pre.length = p)) (hd : Hid (d.length = n)) (hx : Hid (xs.length = m)) (hmn : m ≤ n) (hlen : n ≤ 40000) (hne : b ≠ B)
    (wd : Pl.Wf d) (wx : Pl.Wf xs) (hrow : Row w B (pre ++ d ++ post))
    (hc : ∀ j, j < m → w.cell? ⟨b, off + j, none⟩ = some (.int .u32 ((xs[j]?.getD 0 : Nat) : Int))) :
    Calls Try.prog 74 #[.slice (some ⟨B, p, none⟩) n cap, .slice (some ⟨b, off, none⟩) m cap'] w
      fun e w' => ∃ (out : List Nat) (c : Nat), e = .returned (.bool (c != 0)) ∧ out.length = n ∧ Pl.Wf out ∧ c ≤ 1 ∧ Pl.val out + 4294967296 ^ n * c = Pl.val d + Pl.val xs ∧ Row w' B (pre ++ out ++ post) ∧ Only B w w' := by
  go_enter Try.func74, Try.ntmps74
  go_wp2
  go_loopw [5, 9] (fun t i wr => ∃ (k c : Nat) (out : List Nat), k ≤ n ∧ i = .int .i64 k ∧ t = .int .u64 (c : Int) ∧ c ≤ 1 ∧ out.length = k ∧ Pl.Wf out ∧
      Pl.val out + 4294967296 ^ k * c = Pl.val (d.take k) + Pl.val (xs.take k) ∧ Row wr B (pre ++ (out ++ d.drop k) ++ post) ∧ Only B w wr) (fun _ i _ => n - (intOf i).toNat)
  case atStart => exact ⟨0, 0, [], Nat.zero_le _, rfl, rfl, by omega, rfl, Pl.wf_nil, by simp [Pl.val], by simpa using hrow, Only.refl _ _⟩
  case round =>
    obtain ⟨k, c, out, hk, rfl, rfl, hcl, hol, how, hval, hr, honly⟩ := hrel
    have hpl := unhide hp
    have hdl := unhide hd
    have hxl := unhide hx
    by_cases hlt : k < n
    · obtain ⟨y, hy⟩ : ∃ y, y = d[k]?.getD 0 := ⟨_, rfl⟩
      obtain ⟨x, hxx⟩ : ∃ x, x = xs[k]?.getD 0 := ⟨_, rfl⟩
      have hx1 : x < 4294967296 := by rw [hxx]; exact Pl.wf_at wx k
      have hy1 : y < 4294967296 := by rw [hy]; exact Pl.wf_at wd k
      have hcd : wr.cell? ⟨B, p + k, none⟩ = some (.int .u32 (y : Int)) := by
        rw [hr.cell (p + k) (by simp; omega), ← hpl, at_mid _ _ _ _ _ hol (by omega), hy]
      have hfz : wr.frozen? ⟨B, p + k, none⟩ = false := hr.frozen _
      have HV : Hid (∀ q r, c + y + x = q * 4294967296 + r → Pl.val (out ++ [r]) + 4294967296 ^ (k + 1) * q = Pl.val (d.take (k + 1)) + Pl.val (xs.take (k + 1))) := fun q r e => by
        rw [Pl.val_append, Pl.val_one, hol, Pl.val_take_any d k, Pl.val_take_any xs k, ← hy, ← hxx]
        exact Pl.step_add _ (Nat.pow_succ ..) hval (c + y + x) q r e y rfl
      have HR : Hid (∀ v, Row (wr.setCell ⟨B, p + k, none⟩ (.int .u32 ((v : Nat) : Int))) B (pre ++ ((out ++ [v]) ++ d.drop (k + 1)) ++ post)) := fun v => by
        have := hr.set (p + k) v (by simp; omega)
        rw [← hpl] at this ⊢
        rwa [set_mid _ _ _ _ _ _ hol (by omega)] at this
      by_cases hkm : k < m
      · have hcx : wr.cell? ⟨b, off + k, none⟩ = some (.int .u32 (x : Int)) := by rw [hxx]; exact (honly.cell (by exact hne)).trans (hc k hkm)
        clear hval hy hxx hr hpl hdl hxl hc
        go_wp2
        go_roundw
        case rel =>
          have e1 : ((c : Int) + (y : Int) + (x : Int)) / 4294967296 = (((c + y + x) / 4294967296 : Nat) : Int) := by omega
          have e2 : ((c : Int) + (y : Int) + (x : Int)) % 4294967296 = (((c + y + x) % 4294967296 : Nat) : Int) := by omega
          rw [e1, e2]
          exact ⟨k + 1, (c + y + x) / 4294967296, out ++ [(c + y + x) % 4294967296], by omega, by go_num, rfl, by omega, by simp [hol], Pl.wf_append how (Pl.wf_one (by omega)), unhide HV _ _ (by omega), unhide HR _, honly.setCell _ _⟩
        case measure => simp [intOf]; omega
      · have hx0 : x = 0 := by rw [hxx, List.getElem?_eq_none (by omega)]; rfl
        subst hx0
        clear hval hy hxx hr hpl hdl hxl hc
        go_wp2
        go_roundw
        case rel =>
          have e1 : ((c : Int) + (y : Int)) / 4294967296 = (((c + y + 0) / 4294967296 : Nat) : Int) := by omega
          have e2 : ((c : Int) + (y : Int)) % 4294967296 = (((c + y + 0) % 4294967296 : Nat) : Int) := by omega
          rw [e1, e2]
          exact ⟨k + 1, (c + y + 0) / 4294967296, out ++ [(c + y + 0) % 4294967296], by omega, by go_num, rfl, by omega, by simp [hol], Pl.wf_append how (Pl.wf_one (by omega)), unhide HV _ _ (by omega), unhide HR _, honly.setCell _ _⟩
        case measure => simp [intOf]; omega
    · have hke : k = n := by omega
      subst hke
      rw [List.take_of_length_le (by omega), List.take_of_length_le (by omega)] at hval
      rw [List.drop_eq_nil_of_le (by omega), List.append_nil] at hr
      have HV := hide hval
      clear hval hpl hdl hxl
      go_wp2
      go_ret
      exact ⟨out, c, ret_bool (a := ((c : Int) != 0)) (bne_cast c), hol, how, hcl, unhide HV, hr, honly⟩

set_option maxHeartbeats 400000 in
theorem addInto_nil (B p n cap cap' : Nat) (a : Option Addr) (pre d post : List Nat) (w : World) (hp : Hid (pre.length = p)) (hd : Hid (d.length = n)) (hlen : n ≤ 40000)
    (wd : Pl.Wf d) (hrow : Row w B (pre ++ d ++ post)) :
    Calls Try.prog 74 #[.slice (some ⟨B, p, none⟩) n cap, .slice a 0 cap'] w
      fun e w' => ∃ (out : List Nat) (c : Nat), e = .returned (.bool (c != 0)) ∧ out.length = n ∧ Pl.Wf out ∧ c ≤ 1 ∧ Pl.val out + 4294967296 ^ n * c = Pl.val d ∧ Row w' B (pre ++ out ++ post) ∧ Only B w w' := by
  go_enter Try.func74, Try.ntmps74
  go_wp2
  go_loopw [5, 9] (fun t i wr => ∃ (k c : Nat) (out : List Nat), k ≤ n ∧ i = .int .i64 k ∧ t = .int .u64 (c : Int) ∧ c ≤ 1 ∧ out.length = k ∧ Pl.Wf out ∧
      Pl.val out + 4294967296 ^ k * c = Pl.val (d.take k) ∧ Row wr B (pre ++ (out ++ d.drop k) ++ post) ∧ Only B w wr) (fun _ i _ => n - (intOf i).toNat)
  case atStart => exact ⟨0, 0, [], Nat.zero_le _, rfl, rfl, by omega, rfl, Pl.wf_nil, by simp [Pl.val], by simpa using hrow, Only.refl _ _⟩
  case round =>
    obtain ⟨k, c, out, hk, rfl, rfl, hcl, hol, how, hval, hr, honly⟩ := hrel
    have hpl := unhide hp
    have hdl := unhide hd
    by_cases hlt : k < n
    · obtain ⟨y, hy⟩ : ∃ y, y = d[k]?.getD 0 := ⟨_, rfl⟩
      have hy1 : y < 4294967296 := by rw [hy]; exact Pl.wf_at wd k
      have hcd : wr.cell? ⟨B, p + k, none⟩ = some (.int .u32 (y : Int)) := by
        rw [hr.cell (p + k) (by simp; omega), ← hpl, at_mid _ _ _ _ _ hol (by omega), hy]
      have hfz : wr.frozen? ⟨B, p + k, none⟩ = false := hr.frozen _
      have HV : Hid (∀ q r, c + y = q * 4294967296 + r → Pl.val (out ++ [r]) + 4294967296 ^ (k + 1) * q = Pl.val (d.take (k + 1))) := fun q r e => by
        rw [Pl.val_append, Pl.val_one, hol, Pl.val_take_any d k, ← hy]
        have h0 : Pl.val out + 4294967296 ^ k * c = Pl.val (d.take k) + 0 := hval
        have h1 := Pl.step_add (s := 0) _ (Nat.pow_succ ..) h0 (c + y) q r e y rfl
        rw [Nat.mul_zero, Nat.add_zero] at h1
        exact h1
      have HR : Hid (∀ v, Row (wr.setCell ⟨B, p + k, none⟩ (.int .u32 ((v : Nat) : Int))) B (pre ++ ((out ++ [v]) ++ d.drop (k + 1)) ++ post)) := fun v => by
        have := hr.set (p + k) v (by simp; omega)
        rw [← hpl] at this ⊢
        rwa [set_mid _ _ _ _ _ _ hol (by omega)] at this
      clear hval hy hr hpl hdl
      go_wp2
      go_roundw
      case rel =>
        have e1 : ((c : Int) + (y : Int)) / 4294967296 = (((c + y) / 4294967296 : Nat) : Int) := by omega
        have e2 : ((c : Int) + (y : Int)) % 4294967296 = (((c + y) % 4294967296 : Nat) : Int) := by omega
        rw [e1, e2]
        exact ⟨k + 1, (c + y) / 4294967296, out ++ [(c + y) % 4294967296], by omega, by go_num, rfl, by omega, by simp [hol], Pl.wf_append how (Pl.wf_one (by omega)), unhide HV _ _ (by omega), unhide HR _, honly.setCell _ _⟩
      case measure => simp [intOf]; omega
    · have hke : k = n := by omega
      subst hke
      rw [List.take_of_length_le (by omega)] at hval
      rw [List.drop_eq_nil_of_le (by omega), List.append_nil] at hr
      have HV := hide hval
      clear hval hpl hdl
      go_wp2
      go_ret
      exact ⟨out, c, ret_bool (a := ((c : Int) != 0)) (bne_cast c), hol, how, hcl, unhide HV, hr, honly⟩

/-- Whatever is added. -/
theorem addInto_any (B p n m cap cap' : Nat) (a : Option Addr) (pre d post xs : List Nat) (w : World) (hp : pre.length = p) (hd : d.length = n) (hx : xs.length = m) (hmn : m ≤ n) (hlen : n ≤ 40000) (hne : ∀ b off, a = some ⟨b, off, none⟩ → b ≠ B)
    (wd : Pl.Wf d) (wx : Pl.Wf xs) (hrow : Row w B (pre ++ d ++ post)) (hl : Lim w a xs) :
    Calls Try.prog 74 #[.slice (some ⟨B, p, none⟩) n cap, .slice a m cap'] w
      fun e w' => ∃ (out : List Nat) (c : Nat), e = .returned (.bool (c != 0)) ∧ out.length = n ∧ Pl.Wf out ∧ c ≤ 1 ∧ Pl.val out + 4294967296 ^ n * c = Pl.val d + Pl.val xs ∧ Row w' B (pre ++ out ++ post) ∧ Only B w w' := by
  rcases hl.parts with h0 | ⟨_, b, off, rfl, _, hc⟩
  · subst h0
    obtain rfl : m = 0 := by rw [← hx]; rfl
    exact addInto_nil B p n cap cap' a pre d post w (hide hp) (hide hd) hlen wd hrow
  · exact addInto_some B p n b off m cap cap' pre d post xs w (hide hp) (hide hd) (hide hx) hmn hlen (hne b off rfl) wd wx hrow (fun j hj => hc j (by omega))

end Go.Proofs.Ytkpbgjgebjcfeaa
