/- Go's own floats: bits and floats, without their sign, the sign. -/
import Derived.Test.YtafeioonnhnpcaaFmAwake
import Derived.Test.YtafeioonnhnpcaaFmFloat
import Derived.Laws.Externs
namespace Go.Proofs.Ytafeioonnhnpcaa
open Go.RowKit

theorem run_f64bits (b : Nat) (w : World) : (callFunc 43 #[.float .f64 b]).run Try.prog w = .ok (.value (.int .u64 (b : Int))) w := by
  rw [run_callFunc_extern (e := Extern.MathFloatBits.float64bits) Try.func43 (by kernel_rfl) (by kernel_rfl) (by kernel_rfl) (by kernel_rfl)]; rfl
theorem run_f32bits (b : Nat) (w : World) : (callFunc 44 #[.float .f32 b]).run Try.prog w = .ok (.value (.int .u32 (b : Int))) w := by
  rw [run_callFunc_extern (e := Extern.MathFloatBits.float32bits) Try.func44 (by kernel_rfl) (by kernel_rfl) (by kernel_rfl) (by kernel_rfl)]; rfl
theorem run_f64from (b : Nat) (w : World) : (callFunc 39 #[.int .u64 (b : Int)]).run Try.prog w = .ok (.value (.float .f64 b)) w := by
  rw [run_callFunc_extern (e := Extern.MathFloatBits.float64frombits) Try.func39 (by kernel_rfl) (by kernel_rfl) (by kernel_rfl) (by kernel_rfl)]; rfl
theorem run_f32from (b : Nat) (w : World) : (callFunc 40 #[.int .u32 (b : Int)]).run Try.prog w = .ok (.value (.float .f32 b)) w := by
  rw [run_callFunc_extern (e := Extern.MathFloatBits.float32frombits) Try.func40 (by kernel_rfl) (by kernel_rfl) (by kernel_rfl) (by kernel_rfl)]; rfl

theorem abs_any (b r : Nat) (w : World) (hb : b < 18446744073709551616) (hr : Hid (r = b % 9223372036854775808)) : Calls Try.prog 41 #[.float .f64 b] w fun e w' => e = .returned (.float .f64 r) ∧ Below w.heap.size w w' := by
  have hz : Go.bits .andNot .u64 (b : Int) 9223372036854775808 = (r : Int) := by
    have := clear_top b 63 (by decide) hb
    rw [unhide hr]
    exact this
  have x1 := run_f64bits
  have x2 := run_f64from
  go_enter Try.func41, Try.ntmps41
  go_wp2
  go_ret
  exact ⟨rfl, gr_refl _⟩
theorem signbit_any (b : Nat) (neg : Bool) (w : World) (hb : b < 18446744073709551616) (hn : Hid (neg = decide (9223372036854775808 ≤ b))) : Calls Try.prog 42 #[.float .f64 b] w fun e w' => e = .returned (.bool neg) ∧ Below w.heap.size w w' := by
  have x1 := run_f64bits
  go_enter Try.func42, Try.ntmps42
  go_wp2
  go_ret
  refine ⟨?_, gr_refl _⟩
  have : decide (wrap64 (b : Int) < 0) = neg := by
    rw [unhide hn, decide_eq_decide]
    unfold wrap64
    omega
  rw [← this]
  rfl

end Go.Proofs.Ytafeioonnhnpcaa
