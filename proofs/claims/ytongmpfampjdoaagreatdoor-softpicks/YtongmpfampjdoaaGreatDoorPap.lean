/- Of what SoftPicksRow stands on: RefUpDown ExCheck. -/
import Derived.Test.YtongmpfampjdoaaGreatDoorPan
import Derived.Test.YtongmpfampjdoaaGreatDoorPao
import Derived.Test.YtongmpfampjdoaaGreatDoorPaj
import Derived.Test.YtongmpfampjdoaaGreatDoorPaf
import Derived.BigQuiet
import Derived.Test.YtongmpfampjdoaaGreatDoorPab
import Derived.Test.YtongmpfampjdoaaGreatDoorPai
namespace Go.Proofs.YtongmpfampjdoaaGreatDoor
open Go.RowKit
set_option maxHeartbeats 800000
theorem rcheck_num (a : Option Addr) (n cap m : Nat) (w : World) (h : Num w a n m) :
  Calls Tryz.prog 58 #[.agg #[.slice a n cap]] w fun e w' => e = .returned (.int .i64 0) ∧ Below w.heap.size w w' := by
 obtain ⟨xs,hn,hl,hw,hN,hv,hb⟩ := h
 have := rcheck_any a cap xs w (by omega) hl
 rw [hn,chk_ok (by omega) hN] at this
 exact this
theorem rdown_any (a : Option Addr) (n cap m k : Nat) (w : World) (h : Num w a n m) (hk : k < 9223372036854775808) :
  Calls Tryz.prog 62 #[.agg #[.slice a n cap],.int .i64 (k : Int)] w fun e w' => (∃ a' n' c',e = .returned (.tuple #[.agg #[.slice a' n' c'],.int .i64 0]) ∧ Mine w' w.heap.size a' n' c' (m / 2 ^ k)) ∧ Below w.heap.size w w' := by
 have HS : Hid (∀ W,Num W a n m → Calls Tryz.prog 70 #[.slice a n cap,.int .i64 (k : Int)] W fun e w' => (∃ a' l c,e = .returned (.slice a' l c) ∧ Mine w' W.heap.size a' l c (m / 2 ^ k)) ∧ Below W.heap.size W w') := hide (fun W hW => by
  obtain ⟨xs,hn,hl,hw,hN,hv,hb⟩ := hW
  rw [← hv]
  exact rdown_list a n cap (k / 32) (k % 32) k xs W hn hl hw hb (hide (by omega)) (by omega) hk)
 have HK := hide (fun (o1 o2 : Obj) => rcheck_num a n cap m ((w.alloc o1).alloc o2) ((h.alloc o1).alloc o2))
 have H := hide h
 clear h
 go_enter Tryz.func62,Tryz.ntmps62
 go_wp2_with fail
 refine (unhide HK _ _).mono ?_
 rintro e w1 ⟨rfl,hb1⟩
 have hbx := ((Box.made w (.slice a n cap)).alloc (.cells #[.slice none 0 0] 55)).kept hb1
 have hby := (Box.made (w.alloc (.cells #[.slice a n cap] 55)) (.slice none 0 0)).kept hb1
 simp only [World.size_alloc] at hby
 have hcx := hbx.cell
 have HB := hide (gr_trans (gr_trans (gr_alloc w (.cells #[.slice a n cap] 55)) (gr_alloc _ (.cells #[.slice none 0 0] 55))) hb1)
 clear hb1 HK
 go_wp2_with fail
 refine (unhide HS _ ((unhide H).kept (unhide HB))).mono ?_
 rintro e w2 ⟨⟨a2,n2,c2,rfl,hm2⟩,hb2⟩
 have hX2 := hby.kept hb2
 have HM := hide ((hm2.mono (unhide HB).size).alloc (.cells #[.slice a2 n2 c2] 55))
 have HB2 := hide (gr_trans (gr_trans (unhide HB) hb2) (gr_alloc w2 (.cells #[.slice a2 n2 c2] 55)))
 have hX3 := hX2.alloc (.cells #[.slice a2 n2 c2] 55)
 clear hm2 hb2
 go_wp2_with fail
 refine (rnat_any _ _ n2 c2 _ rfl).mono ?_
 rintro e w3 ⟨rfl,rfl⟩
 have hcx := hX3.cell
 have hfx := hX3.frozen
 go_wp2
 exact bodyPost_ret (v := .tuple #[.agg #[.slice a2 n2 c2],.int .i64 0]) (by simp [results,Tryz.results62,go_sem,hcx]) rfl ⟨⟨_,_,_,rfl,(unhide HM).setBox hX3 _⟩,(unhide HB2).setCell (Nat.le_add_right _ 1) _⟩
def Far (x : Int) : Prop := x < -1073741824 ∨ 1073741824 < x
instance (x : Int) : Decidable (Far x) := by unfold Far; infer_instance
theorem isNought_no (a : Option Addr) (n cap : Nat) (hn : 0 < n) (w : World)  :
  Calls Tryz.prog 72 #[.agg #[.slice a n cap]] w fun e w' => e = .returned (.bool false) ∧ Below w.heap.size w w' := by
 go_enter Tryz.func72,Tryz.ntmps72
 go_wp2
 go_ret
 exact ⟨ret_bool (by simp <;> omega),(Fs.one w _ _).fr⟩
theorem rnone_yes (a : Option Addr) (cap : Nat) (w : World)  :
  Calls Tryz.prog 59 #[.agg #[.slice a 0 cap]] w fun e w' => e = .returned (.bool true) ∧ Below w.heap.size w w' := by
 go_enter Tryz.func59,Tryz.ntmps59
 go_wp2
 go_ret
 exact ⟨rfl,(Fs.one w _ _).fr⟩
theorem rnone_no (a : Option Addr) (n cap : Nat) (hn : 0 < n) (w : World)  :
  Calls Tryz.prog 59 #[.agg #[.slice a n cap]] w fun e w' => e = .returned (.bool false) ∧ Below w.heap.size w w' := by
 go_enter Tryz.func59,Tryz.ntmps59
 go_wp2
 go_ret
 exact ⟨ret_bool (by simp <;> omega),(Fs.one w _ _).fr⟩
theorem rfar_no (x : Int) (hx : -1073741824 ≤ x ∧ x ≤ 1073741824) (w : World)  :
  Calls Tryz.prog 61 #[.int .i64 x] w fun e w' => e = .returned (.bool false) ∧ Below w.heap.size w w' := by
 go_enter Tryz.func61,Tryz.ntmps61
 go_wp2
 go_ret
 exact ⟨ret_bool (by simp <;> omega),(Fs.begin w).fr⟩
end Go.Proofs.YtongmpfampjdoaaGreatDoor
