/- For every value of its arguments' types the call numerallaw13.PowerNone returns true and leaves all memory that was there as it was, where numeral/power.fives lies as the program lays it: the given statement PowerNoneCardSaid. -/
import Derived.Test.YteblliofeaahmaaDoorRows
import Derived.Test.YteblliofeaahmaaDoorTie
import Derived.Test.YteblliofeaahmaaDoorCards
import Derived.Test.YteblliofeaahmaaDoorPad
import Derived.Test.YteblliofeaahmaaDoorPai
import Derived.Test.YteblliofeaahmaaDoorPaw
import Derived.Test.YteblliofeaahmaaDoorPax
import Derived.SevenTiedAt
namespace Go.Proofs.YteblliofeaahmaaDoor.powerNone
open Go.ChangeShapes Go.WideShapes Go.ChangeAt Go.RowKit
set_option maxRecDepth 100000 in
theorem lifted (os : Go.Os) (started : os.Started) (H : Type) (enc : TypeId × Value → H) (F : Stop.Interp) :
  ReturnsInLeavingWide { calm := true } Tryd.checked os 5 .any (fun w args => (Rows.powerNoneSpec.pre enc Tryd.prog Tryd.f5 [] false w args ∧ laidMetH Tryd.prog Rows.powerNoneRow.laid w) ∧ sizedMet enc Tryd.prog Tryd.f5 (OpenSpec.ofChange Rows.powerNoneSpec) false w args) ((OpenSpec.ofChange Rows.powerNoneSpec).postWith enc Tryd.prog Tryd.f5 F (outsideKept [.timePasses]) false true false) := by
 refine leavingWide_of_change (C := Tryd.checked) (X := fun w _ => laidMetH Tryd.prog Rows.powerNoneRow.laid w) (fun _ _ _ hh h => h.of_heap hh) own_knob started (by kernel_rfl) Tryd.func5
  (witness_calm (enc := enc) (C := Tryd.checked) (os := os) (X := fun w _ => laidMetH Tryd.prog Rows.powerNoneRow.laid w) (laidWorldF os) #[.int .i64 0,.int .i64 0] 8 rfl (by kernel_rfl) (by kernel_rfl) (by kernel_rfl) (by kernel_rfl) (by kernel_rfl) (laidWorldF_met os _)) ?_
 intro W base args ds gs before hval0 hW hcnd hsz0 hL _
 have hval : ∀ (j : Nat) t v,Tryd.f5.params[j]? = some t → args[j]? = some v → Value.okWide Tryd.prog W .any base t v := hval0
 have hW' := hW
 obtain ⟨p,q,hA0,hV,rfl,hfz,hnd⟩ := hW
 have hA : DataW.TrodAll enc Tryd.prog W 0 (fun _ => true) true Tryd.f5.params.toList args.toList ds p := hA0
 rw [Tryd.params5] at hA hval
 obtain ⟨v0,vs0,d0,ds0,p0,q0,hargs,rfl,rfl,h0,r0⟩ := trodAll_cons hA
 obtain ⟨v1,vs1,d1,ds1,p1,q1,rfl,rfl,rfl,h1,r1⟩ := trodAll_cons r0
 obtain ⟨rfl,rfl,rfl⟩ := trodAll_nil r1
 obtain rfl : args = #[v0,v1] := by cases args; simp_all
 obtain ⟨rfl,rfl⟩ := trodVars_none hV
 obtain ⟨z0,rfl,rfl,rfl,wf0⟩ := open_int Tryd.underlying3 (hval 0 3 v0 rfl rfl) h0
 have hb0 := i64_bd wf0
 obtain ⟨z1,rfl,rfl,rfl,wf1⟩ := open_int Tryd.underlying3 (hval 1 3 v1 rfl rfl) h1
 have hb1 := i64_bd wf1
 clear hA0 hval0
 refine (powerNone_any z0 z1 W).mono fun e W' ⟨he,bel⟩ => ?_
 subst he
 exact ⟨_,rfl,bel.os,_,_,_,[],_,[],hW',trodAll_mk1 (shut_bool Tryd.underlying4 _),
  (trodAll_cons_mk (shut_int Tryd.underlying3 wf0) (trodAll_cons_mk (shut_int Tryd.underlying3 wf1) trodAll_mk0)),rfl,bel.frame _,fun h => by cases h⟩
theorem over : Rows.PowerNoneSaid :=
 OpenClaim.holds_of_wide_leaving_time 5 Tryd.f5 rfl rfl rfl rfl rfl rfl rfl ⟨rfl,rfl,rfl,rfl,rfl⟩ rfl rfl rfl rfl rfl (by kernel_rfl) Tryd.func5 (by kernel_rfl)
  (of_decide_eq_true (by kernel_rfl)) (by unfold Func.isWrapper; first | (rw [if_pos (by decide +kernel)]; kernel_rfl) | (rw [if_neg (by decide +kernel)]; exact ⟨rfl,rfl⟩))
  (fun os started H enc _ F => lifted os started H enc F)
theorem goesN : true = Rows.powerNoneRow.goesBy Tryd.pinned.checked.prog := by kernel_rfl
theorem proved : Rows.PowerNoneCardSaid := by
 have hl : ∀ f fn,Tryd.pinned.checked.prog.funcNamed Rows.powerNoneRow.func = some f → Tryd.pinned.checked.prog.funcs[f]? = some fn → false = Tryd.pinned.checked.prog.looks [] ∧ ∀ (j : Nat) t,fn.params[j]? = some t → Tryd.pinned.checked.prog.wantsStandIn t = false := fun f fn hf hfn => by
  obtain rfl : f = 5 := Option.some.inj ((show Tryd.prog.funcNamed "numeral/numerallaw13.PowerNone" = some 5 by kernel_rfl).symm.trans hf) |>.symm
  obtain rfl : fn = Tryd.f5 := (Option.some.inj (Tryd.func5.symm.trans hfn)).symm
  exact ⟨by kernel_rfl,fun j t ht => by
   rw [Tryd.params5] at ht
   rcases j with _ | _ | j
   ·obtain rfl : 3 = t := by simpa using ht
    exact (show Tryd.prog.wantsStandIn 3 = false by kernel_rfl)
   ·obtain rfl : 3 = t := by simpa using ht
    exact (show Tryd.prog.wantsStandIn 3 = false by kernel_rfl)
   ·simp at ht⟩
 have h6 : Claim7.isSixth { stood := { row := Rows.powerNoneRow,standIns := [],harness := Rows.powerNoneCard.stood.harness,looks := false },kinds := [] } = false := by kernel_rfl
 exact ⟨Claim7.tied_new_at .later [.data] true (Claim7.new_of_sixth over Rows.powerNoneCard.stood.harness false rfl ⟨rfl,rfl⟩ (by kernel_rfl) h6 hl) (by kernel_rfl),(fun D hD => by cases hD),powerNone_row_tie,(fun h => by cases h),goesN⟩
#print axioms proved
end Go.Proofs.YteblliofeaahmaaDoor.powerNone
