/- Of what ExactValuesRow stands on: ExValuesLaw. -/
import Derived.Test.YtecmcjlgknfnlaaDoorPav
import Derived.Test.YtecmcjlgknfnlaaDoorPaw
import Derived.Test.YtecmcjlgknfnlaaDoorPau
namespace Go.Proofs.YtecmcjlgknfnlaaDoor
open Go.RowKit
theorem value_both (E F : Int) (b : Nat) (hb : b < 18446744073709551616) : ∃ (q : Bool) (v : Nat) (y er : Int),
  (∀ w : World,Calls Tryd.prog 15 #[.agg #[.int .i64 E,.int .i64 F],.int .u64 b] w fun e w' => DAns w.heap.size q v y er e w' ∧ Below w.heap.size w w') ∧
  (∀ w : World,Tb w → Calls Tryd.prog 16 #[.agg #[.int .i64 E,.int .i64 F],.int .u64 b] w fun e w' => DAns w.heap.size q v y er e w' ∧ Below w.heap.size w w') := by
 by_cases hbad : NoFo E F
 ·exact ⟨false,0,0,5,fun w => dans_nil (rValue_form E F hbad b w),fun w _ => dans_nil (Value_form E F hbad b w)⟩
 unfold NoFo at hbad
 obtain ⟨E,rfl⟩ : ∃ n : Nat,E = n := ⟨E.toNat,by omega⟩
 obtain ⟨F,rfl⟩ : ∃ n : Nat,F = n := ⟨F.toNat,by omega⟩
 have h0 : Fo E F := ⟨by omega,by omega,by omega,by omega⟩
 clear hbad
 by_cases hm : 2 ^ (F + E + 1) ≤ b
 ·exact ⟨false,0,0,6,fun w => dans_nil (rValue_many E F b h0 hm hb w),fun w _ => dans_nil (Value_many E F b h0 hm w)⟩
 have hB := Bt.of E F b (Nat.lt_of_not_le hm)
 generalize decide (b / 2 ^ (F + E) = 1) = s at hB
 generalize b % 2 ^ (F + E) / 2 ^ F = ex at hB
 generalize b % 2 ^ F = fr at hB
 obtain ⟨B,hBi⟩ : ∃ B,B = 2 ^ (E - 1) - 1 := ⟨_,rfl⟩
 have HBi := hide hBi
 have hE4 := two_lt h0.e2
 by_cases hx : ex + 1 = 2 ^ E
 ·refine ⟨false,0,0,8,fun w => dans_nil (rValue_inf E F b ex fr s h0 hB w hx),fun w _ => dans_nil ?_⟩
  by_cases hf : fr = 0
  ·exact Value_4 E F B b ex fr s h0 HBi hB (by unfold cls; rw [if_neg (by omega),if_neg (by omega),if_neg (by omega),if_pos hf]) w
  ·exact Value_5 E F B b ex fr s h0 HBi hB (by unfold cls; rw [if_neg (by omega),if_neg (by omega),if_neg (by omega),if_neg hf]) w
 have hfin : ex + 1 < 2 ^ E := by have := hB.ex_lt; omega
 by_cases hz : ex = 0 ∧ fr = 0
 ·obtain ⟨rfl,rfl⟩ := hz
  exact ⟨false,0,0,0,fun w => rValue_zero E F B b s h0 HBi hB w,fun w _ => dans_nil (Value_zero E F B b s w h0 HBi hB)⟩
 obtain ⟨M,z,xe,hW⟩ := Wo.ex (B := B) hfin hB.fr_lt hz
 have hzl := hW.zle
 have hF := h0.f52
 refine ⟨s,M / 2 ^ z,xe + (z : Int),0,fun w => ?_,fun w hT => Value_wo E F B b ex fr s M z xe w h0 HBi hB hW hT⟩
 rcases hW.part with ⟨rfl,rfl,hf,rfl⟩ | ⟨h1,hM,rfl⟩
 ·exact rValue_small E F B b M z s h0 HBi hB w hf hW.tz (by omega)
 ·have := rValue_normal E F B b ex fr M z s h0 HBi hB w h1 hfin hM hW.tz (by omega)
  rw [show ((ex : Int) - (B : Int) - (F : Int)) = 1 - (B : Int) - (F : Int) + ((ex : Int) - 1) from by omega] at this
  exact this
structure Vl (w W : World) (p qf qd k : Nat) (E F : Int) (q : Bool) (A1 : Option Addr) (N1 C1 v : Nat) (y : Int) (vg vw : Value) (gs ws : List Value) : Prop where
 led : Led W p w.heap.size k vg vw gs ws
 bf : Bd W vg vw qf #[.int .i64 E,.int .i64 F] 40
 bd : Bd W vg vw qd #[.bool q,.slice A1 N1 C1,.int .i64 y] 26
 mw : Mine W w.heap.size A1 N1 C1 v
 bel : Below w.heap.size w W
theorem Vl.kept {w W W' : World} {p qf qd k : Nat} {E F : Int} {q : Bool} {A1 : Option Addr} {N1 C1 v : Nat} {y : Int} {vg vw : Value} {gs ws : List Value} (h : Vl w W p qf qd k E F q A1 N1 C1 v y vg vw gs ws) (hb : Below W.heap.size W W') : Vl w W' p qf qd k E F q A1 N1 C1 v y vg vw gs ws :=
 ⟨h.led.kept hb,h.bf.kept hb,h.bd.kept hb,h.mw.kept hb,gr_trans h.bel hb⟩
theorem Vl.alloc {w W : World} {p qf qd k : Nat} {E F : Int} {q : Bool} {A1 : Option Addr} {N1 C1 v : Nat} {y : Int} {vg vw : Value} {gs ws : List Value} (h : Vl w W p qf qd k E F q A1 N1 C1 v y vg vw gs ws) (o : Obj) : Vl w (W.alloc o) p qf qd k E F q A1 N1 C1 v y vg vw gs ws := h.kept (gr_alloc _ _)
theorem Vl.added {w W W' : World} {p qf qd k : Nat} {E F : Int} {q : Bool} {A1 : Option Addr} {N1 C1 v : Nat} {y : Int} {vg vw vg' vw' : Value} {gs ws ws' : List Value} {u : Value} (h : Vl w W p qf qd k E F q A1 N1 C1 v y vg vw gs ws) (hl : Led W' p w.heap.size (k + 1) vg' vw' (gs ++ [u]) ws') (ha : Ad W W' p w.heap.size vg vw vg' vw') : Vl w W' p qf qd (k + 1) E F q A1 N1 C1 v y vg' vw' (gs ++ [u]) ws' :=
 ⟨hl,h.bf.added h.led ha,h.bd.added h.led ha,h.mw.added ha,h.bel.trans ha.bel⟩
set_option maxHeartbeats 4000000 in
set_option maxRecDepth 20000 in
theorem values_any (E F : Int) (b : Nat) (w : World) (hT : Tb w) (hb : b < 18446744073709551616) :
  Calls Tryd.prog 4 #[.agg #[.int .i64 E,.int .i64 F],.int .u64 b] w fun e w' => e = .returned (.bool true) ∧ Below w.heap.size w w' := by
 obtain ⟨q,v,y,er,hR,hP⟩ := value_both E F b hb
 have HR := hide hR
 have HP := hide hP
 have HT := hide hT
 clear hR hP hT
 go_enter Tryd.func4,Tryd.ntmps4
 go_wp2_with fail
 refine (unhide HR _).mono ?_
 rintro e w1 ⟨⟨A1,N1,C1,rfl,hm1⟩,hb1⟩
 have hb1' := gr_trans (gr_alloc w (.cells #[.int .i64 E,.int .i64 F] 40)) hb1
 have hs1 := hb1'.size
 obtain ⟨W,hW⟩ : ∃ W,(w1.alloc (.cells #[.bool q,.slice A1 N1 C1,.int .i64 y] 26)).alloc (.cells #[.slice none 0 0,.slice none 0 0,.bool false] 34) = W := ⟨_,rfl⟩
 have hS0 : Vl w W (w1.heap.size + 1) w.heap.size w1.heap.size 0 E F q A1 N1 C1 v y (.slice none 0 0) (.slice none 0 0) [] [] := by
  rw [← hW]
  refine ⟨?_,⟨?_,by decide,by simp [Value.ownBlock],by simp [Value.ownBlock]⟩,⟨?_,by decide,by simp [Value.ownBlock],by simp [Value.ownBlock]⟩,((hm1.mono (base' := w.heap.size) (by simp)).alloc _).alloc _,gr_trans (gr_trans hb1' (gr_alloc _ _)) (gr_alloc _ _)⟩
  ·have := Led.new (w1.alloc (.cells #[.bool q,.slice A1 N1 C1,.int .i64 y] 26)) w.heap.size (by simp; omega)
   simpa using this
  ·have h1 := heap_alloc_new w (.cells #[.int .i64 E,.int .i64 F] 40)
   have h2 := (hb1.block w.heap.size (by simp)).trans h1
   have h3 := (gr_alloc w1 (.cells #[.bool q,.slice A1 N1 C1,.int .i64 y] 26)).block w.heap.size (block_lt h2)
   have h4 := (gr_alloc (w1.alloc (.cells #[.bool q,.slice A1 N1 C1,.int .i64 y] 26)) (.cells #[.slice none 0 0,.slice none 0 0,.bool false] 34)).block w.heap.size (block_lt (h3.trans h2))
   exact (h4.trans h3).trans h2
  ·have h2 := heap_alloc_new w1 (.cells #[.bool q,.slice A1 N1 C1,.int .i64 y] 26)
   have h4 := (gr_alloc (w1.alloc (.cells #[.bool q,.slice A1 N1 C1,.int .i64 y] 26)) (.cells #[.slice none 0 0,.slice none 0 0,.bool false] 34)).block w1.heap.size (block_lt h2)
   exact h4.trans h2
 have HS := hide hS0
 have hx0 : W.cell? ⟨w.heap.size,0,none⟩ = some (.int .i64 E) := hS0.bf.cell 0
 have hx1 : W.cell? ⟨w.heap.size,1,none⟩ = some (.int .i64 F) := hS0.bf.cell 1
 clear hm1 hb1 hb1' hS0
 go_wp2_with fail
 refine (unhide HP _ ((unhide HT).kept (unhide HS).bel)).mono ?_
 rintro e w3 ⟨⟨A3,N3,C3,rfl,hm3⟩,hb3⟩
 have HF3 := hide (hm3.fresh (unhide HS).led)
 have HM3 := hide ((hm3.mono (base' := w.heap.size) (unhide HS).bel.size).alloc (.cells #[.bool q,.slice A3 N3 C3,.int .i64 y] 26))
 have HS3 := hide (((unhide HS).kept hb3).alloc (.cells #[.bool q,.slice A3 N3 C3,.int .i64 y] 26))
 have hd0 : (w3.alloc (.cells #[.bool q,.slice A3 N3 C3,.int .i64 y] 26)).cell? ⟨w1.heap.size,0,none⟩ = some (.bool q) := (unhide HS3).bd.cell 0
 have hd1 : (w3.alloc (.cells #[.bool q,.slice A3 N3 C3,.int .i64 y] 26)).cell? ⟨w1.heap.size,1,none⟩ = some (.slice A1 N1 C1) := (unhide HS3).bd.cell 1
 have hd2 : (w3.alloc (.cells #[.bool q,.slice A3 N3 C3,.int .i64 y] 26)).cell? ⟨w1.heap.size,2,none⟩ = some (.int .i64 y) := (unhide HS3).bd.cell 2
 clear hm3 hb3 HS hx0 hx1
 go_wp2_with fail
 refine (led_dyadic _ w.heap.size 0 _ _ _ _ q A3 A1 N3 N1 C3 C1 v y er _ (unhide HS3).led (unhide HM3) (unhide HF3) (unhide HS3).mw (unhide HS3).bel.size (by omega)).mono ?_
 rintro e w4 ⟨rfl,vg1,vw1,hL1,hA1⟩
 have HS := hide ((unhide HS3).added hL1 hA1)
 have hx0 : w4.cell? ⟨w.heap.size,0,none⟩ = some (.int .i64 E) := (unhide HS).bf.cell 0
 have hx1 : w4.cell? ⟨w.heap.size,1,none⟩ = some (.int .i64 F) := (unhide HS).bf.cell 1
 clear hL1 hA1 HS3 HM3 HF3 hd0 hd1 hd2
 go_wp2_with fail
 refine (unhide HP _ ((unhide HT).kept (unhide HS).bel)).mono ?_
 rintro e w5 ⟨⟨A5,N5,C5,rfl,hm5⟩,hb5⟩
 have HF5 := hide (hm5.fresh (unhide HS).led)
 have HM5 := hide ((hm5.mono (base' := w.heap.size) (unhide HS).bel.size).alloc (.cells #[.bool q,.slice A5 N5 C5,.int .i64 y] 26))
 have HS5 := hide (((unhide HS).kept hb5).alloc (.cells #[.bool q,.slice A5 N5 C5,.int .i64 y] 26))
 have hd0 : (w5.alloc (.cells #[.bool q,.slice A5 N5 C5,.int .i64 y] 26)).cell? ⟨w1.heap.size,0,none⟩ = some (.bool q) := (unhide HS5).bd.cell 0
 have hd1 : (w5.alloc (.cells #[.bool q,.slice A5 N5 C5,.int .i64 y] 26)).cell? ⟨w1.heap.size,1,none⟩ = some (.slice A1 N1 C1) := (unhide HS5).bd.cell 1
 have hd2 : (w5.alloc (.cells #[.bool q,.slice A5 N5 C5,.int .i64 y] 26)).cell? ⟨w1.heap.size,2,none⟩ = some (.int .i64 y) := (unhide HS5).bd.cell 2
 clear hm5 hb5 HS hx0 hx1
 go_wp2_with fail
 refine (led_dyadic _ w.heap.size 1 _ _ _ _ q A5 A1 N5 N1 C5 C1 v y er _ (unhide HS5).led (unhide HM5) (unhide HF5) (unhide HS5).mw (unhide HS5).bel.size (by omega)).mono ?_
 rintro e w6 ⟨rfl,vg2,vw2,hL2,hA2⟩
 have HS := hide ((unhide HS5).added hL2 hA2)
 clear hL2 hA2 HS5 HM5 HF5 hd0 hd1 hd2
 go_wp2_with fail
 refine (led_stands0 _ w.heap.size 2 _ _ _ _ _ (unhide HS).led (unhide HS).bel.size (by omega) (by omega)).mono ?_
 rintro e w7 ⟨rfl,hb7⟩
 have HB7 := hide ((unhide HS).bel.trans hb7)
 clear hb7 HS
 go_wp2
 go_ret
 exact ⟨rfl,unhide HB7⟩
end Go.Proofs.YtecmcjlgknfnlaaDoor
