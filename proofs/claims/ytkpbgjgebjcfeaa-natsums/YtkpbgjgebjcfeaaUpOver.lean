/- The call nat.Up answers ErrMany where the number times the power of two has more than MaxLimbs limbs. -/
import Derived.Test.YtkpbgjgebjcfeaaMul
import Derived.Test.YtkpbgjgebjcfeaaBitsNat
namespace Go.Proofs.Ytkpbgjgebjcfeaa
open Go.RowKit

set_option maxHeartbeats 400000 in
theorem up_over (a : Option Addr) (n cap m k j : Nat) (w : World) (h : Num w a n m) (hm : 0 < m) (hj : Bl m j) (hk : 524288 < k + j) (_hk2 : k < 9223372036854775808) :
    Calls Try.prog 14 #[.agg #[.slice a n cap], .int .i64 (k : Int)] w fun e w' => e = .returned (.tuple #[.agg #[.slice none 0 0], .int .i64 4]) ∧ Below w.heap.size w w' := by
  have H := hide h
  have hz := h.zero
  have hn0 : ((n : Int) == 0) = false := by simp; omega
  obtain ⟨xs, hn, hl, hw, hN, hv, hb⟩ := h
  have hck := fun (o1 o2 : Obj) => check_any a cap xs ((w.alloc o1).alloc o2) (by omega) ((hl.alloc _).alloc _)
  rw [hn, chk_ok (by omega) hN] at hck
  have HK := hide hck
  have HJ := hide hj
  clear hck hl hn hv hz hj
  go_enter Try.func14, Try.ntmps14
  go_wp2_with fail
  refine (unhide HK _ _).mono ?_
  rintro e w1 ⟨rfl, hb1⟩
  have hbx := ((Box.made w (.slice a n cap)).alloc (.cells #[.slice none 0 0] 24)).kept hb1
  have hby := (Box.made (w.alloc (.cells #[.slice a n cap] 24)) (.slice none 0 0)).kept hb1
  simp only [World.size_alloc] at hby
  have hcx := hbx.cell
  have hcy := hby.cell
  have hfy := hby.frozen
  have HB := hide (gr_trans (gr_trans (gr_alloc w (.cells #[.slice a n cap] 24)) (gr_alloc _ (.cells #[.slice none 0 0] 24))) hb1)
  clear hb1 HK
  go_wp2_with fail
  refine (bitLength_any a n cap m w1 ((unhide H).kept (unhide HB))).mono ?_
  rintro e w2 ⟨⟨j2, rfl, hB2, hle⟩, rfl⟩
  obtain rfl : j2 = j := hB2.uniq (unhide HJ)
  clear hB2
  have hgt : (524288 : Int) - (j2 : Int) < (k : Int) := by omega
  clear hk
  go_wp2
  exact bodyPost_ret (v := .tuple #[.agg #[.slice none 0 0], .int .i64 4]) (by simp [results, Try.results14, go_sem, hcy]) rfl ⟨rfl, (unhide HB).setCell (by simp) _⟩

end Go.Proofs.Ytkpbgjgebjcfeaa
