/- Of what SoftPicksRow stands on: RefLow ExBits ExCmp ExVal ExRef ExCopy. -/
import Derived.Test.YtongmpfampjdoaaGreatDoorPap
import Derived.Test.YtongmpfampjdoaaGreatDoorPaj
import Derived.Deep.RegionWith
import Derived.Test.YtongmpfampjdoaaGreatDoorPab
import Derived.Test.YtongmpfampjdoaaGreatDoorPaf
import Derived.Test.YtongmpfampjdoaaGreatDoorPag
namespace Go.Proofs.YtongmpfampjdoaaGreatDoor
open Go.RowKit
set_option maxHeartbeats 400000
theorem B_le {E F B : Nat} (h : Fo E F) (HB : Hid (B = 2 ^ (E - 1) - 1)) : B ≤ 1023 := by
 have h1 := pow_bound (show E - 1 ≤ 10 by have := h.e11; omega)
 rw [unhide HB]; omega
theorem B_two {E F B : Nat} (h : Fo E F) (HB : Hid (B = 2 ^ (E - 1) - 1)) : 2 ^ E = 2 * B + 2 ∧ 1 ≤ B := by
 have h2 := h.e2
 obtain ⟨k,rfl⟩ : ∃ k,E = k + 2 := ⟨E - 2,by omega⟩
 have := unhide HB
 rw [show k + 2 - 1 = k + 1 from by omega] at this
 have h3 := pow_pos2 k
 rw [Nat.pow_succ] at this ⊢
 rw [Nat.pow_succ]
 omega
def TogOk (w' : World) (e : Ending) (u v : Nat) : Prop := ∃ A N C A' N' C',e = .returned (.tuple #[.agg #[.slice A N C],.agg #[.slice A' N' C'],.int .i64 0]) ∧ Num w' A N u ∧ Num w' A' N' v
theorem TogOk.of {w' : World} {A A' : Option Addr} {N C N' C' u v : Nat} (h : Num w' A N u) (h' : Num w' A' N' v) : TogOk w' (.returned (.tuple #[.agg #[.slice A N C],.agg #[.slice A' N' C'],.int .i64 0])) u v := ⟨_,_,_,_,_,_,rfl,h,h'⟩
structure Dy (w : World) (s : Bool) (a : Option Addr) (n m : Nat) (x : Int) : Prop where
 num : Num w a n m
 ok : (m = 0 ∧ s = false ∧ x = 0) ∨ (m % 2 = 1 ∧ -1073741824 ≤ x ∧ x ≤ 1073741824)
theorem Dy.kept {w w' : World} {s : Bool} {a : Option Addr} {n m : Nat} {x : Int} (h : Dy w s a n m x) (hb : Below w.heap.size w w') : Dy w' s a n m x := ⟨h.num.kept hb,h.ok⟩
theorem Dy.range {w : World} {s : Bool} {a : Option Addr} {n m : Nat} {x : Int} (h : Dy w s a n m x) : -1073741824 ≤ x ∧ x ≤ 1073741824 := by
 rcases h.ok with ⟨_,_,rfl⟩ | ⟨_,h1,h2⟩
 ·omega
 ·exact ⟨h1,h2⟩
theorem rbias4_any (E F B : Nat) (h0 : Fo E F) (HB : Hid (B = 2 ^ (E - 1) - 1)) (w : World)  :
  Calls Tryz.prog 50 #[.agg #[.int .i64 E,.int .i64 F]] w fun e w' => e = .returned (.int .i64 B) ∧ Below w.heap.size w w' := by
 have h1 := h0.e2
 have h2 := h0.e11
 have HE : Hid (wrap64 (wrap64 (2 ^ (E - 1)) - 1) = (B : Int)) := hide (by
  have h3 := pow_bound (show E - 1 ≤ 10 by omega)
  have h4 := pow_pos2 (E - 1)
  have e : ((2 : Int) ^ (E - 1)) = ((2 ^ (E - 1) : Nat) : Int) := by simp
  rw [unhide HB,e]
  unfold wrap64
  omega)
 clear h0
 go_enter Tryz.func50,Tryz.ntmps50
 go_wp2
 go_ret
 exact ⟨ret_i64 (unhide HE),(Fs.one w _ _).fr⟩
theorem rmay_bad (E F : Int) (hbad : NoFo E F) (b : Int) (w : World)  :
  Calls Tryz.prog 15 #[.agg #[.int .i64 E,.int .i64 F],.int .u64 b] w fun e w' => e = .returned (.int .i64 5) ∧ Below w.heap.size w w' := by
 unfold NoFo at hbad
 go_enter Tryz.func15,Tryz.ntmps15
 by_cases c1 : E < 2
 ·go_wp2
  go_ret
  exact ⟨rfl,gr_alloc _ _⟩
 by_cases c2 : 11 < E
 ·go_wp2
  go_ret
  exact ⟨rfl,gr_alloc _ _⟩
 by_cases c3 : F < 1
 ·go_wp2
  go_ret
  exact ⟨rfl,gr_alloc _ _⟩
 have c4 : 52 < F := by omega
 clear hbad
 go_wp2
 go_ret
 exact ⟨rfl,gr_alloc _ _⟩
end Go.Proofs.YtongmpfampjdoaaGreatDoor
