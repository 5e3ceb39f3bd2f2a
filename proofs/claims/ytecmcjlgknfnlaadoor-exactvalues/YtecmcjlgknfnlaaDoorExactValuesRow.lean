/- For every value of the type api.Form and every uint64 the call numerallaw04.ExactValues returns true and leaves all memory that was there as it was, where math/bits.deBruijn32tab lies as the program's text lays it: the given statement ExactValuesCardSaid. -/
import Derived.Test.YtecmcjlgknfnlaaDoorRows
import Derived.Test.YtecmcjlgknfnlaaDoorTie
import Derived.Test.YtecmcjlgknfnlaaDoorCards
import Derived.Test.YtecmcjlgknfnlaaDoorPad
import Derived.Test.YtecmcjlgknfnlaaDoorPal
import Derived.Test.YtecmcjlgknfnlaaDoorPax
import Derived.SevenTiedAt
namespace Go.Proofs.YtecmcjlgknfnlaaDoor.exactValues
open Go.ChangeShapes Go.WideShapes Go.ChangeAt Go.RowKit
set_option maxRecDepth 100000 in
theorem lifted (os : Os) (started : os.Started) (H : Type) (enc : TypeId × Value → H) :
  ReturnsInHanded {} Tryd.checked os 4 .any (fun w args => (Rows.exactValuesSpec.pre enc Tryd.prog Tryd.f4 [] false w args ∧ laidMetH Tryd.prog Rows.exactValuesRow.laid w) ∧ sizedMet enc Tryd.prog Tryd.f4 (OpenSpec.ofChange Rows.exactValuesSpec) false w args) (Rows.exactValuesSpec.post enc Tryd.prog Tryd.f4 false true false false) := by
 refine returnsInHanded_of_change_and (C := Tryd.checked) (X := fun w _ => laidMetH Tryd.prog Rows.exactValuesRow.laid w) (fun _ _ _ hh h => h.of_heap hh) own_knob started (by kernel_rfl) Tryd.func4
  (ChangeSpec.witness_at (enc := enc) (C := Tryd.checked) (os := os) (X := fun w _ => laidMetH Tryd.prog Rows.exactValuesRow.laid w) false (laidWorld os) #[.agg #[.int .i64 0,.int .i64 0],.int .u64 0] 8 rfl (by kernel_rfl) (by kernel_rfl) (by kernel_rfl) (by kernel_rfl) (by kernel_rfl) (laidWorld_met os _)) ?_
 intro W base args ds gs before hval0 hW hcnd hsz0 hL _
 have hval : ∀ (j : Nat) t v,Tryd.f4.params[j]? = some t → args[j]? = some v → Value.okWide Tryd.prog W .any base t v := hval0
 have hW' := hW
 obtain ⟨p,q,hA0,hV,rfl,hfz,hnd⟩ := hW
 have hA : DataW.TrodAll enc Tryd.prog W 0 (fun _ => true) true Tryd.f4.params.toList args.toList ds p := hA0
 rw [Tryd.params4] at hA hval
 obtain ⟨v0,vs0,d0,ds0,p0,q0,hargs,rfl,rfl,h0,r0⟩ := trodAll_cons hA
 obtain ⟨v1,vs1,d1,ds1,p1,q1,rfl,rfl,rfl,h1,r1⟩ := trodAll_cons r0
 obtain ⟨rfl,rfl,rfl⟩ := trodAll_nil r1
 obtain rfl : args = #[v0,v1] := by cases args; simp_all
 obtain ⟨rfl,rfl⟩ := trodVars_none hV
 have lt0 : ∀ x ∈ p0,x.block < W.heap.size := by obtain ⟨m,hm⟩ := h0; exact DataW.trod_lt m _ _ _ hm
 obtain ⟨E0,F0,rfl⟩ := open_form (hval 0 40 v0 rfl rfl) h0
 obtain ⟨z1,rfl,rfl,rfl,wf1⟩ := open_int Tryd.underlying41 (hval 1 41 v1 rfl rfl) h1
 obtain ⟨b1,rfl,hb1⟩ := u64_wf wf1
 have hT := tb_of_laid hL
 clear hA0 hval0
 refine (values_any E0 F0 b1 W hT hb1).mono fun e W' ⟨he,bel⟩ => ?_
 subst he
 exact ⟨_,rfl,_,_,_,[],_,[],hW',trodAll_mk1 (shut_bool Tryd.underlying4 _),
  (trodAll_cons_mk (Below.trod laidOut (by kernel_rfl) (of_decide_eq_true (by kernel_rfl)) h0 bel lt0) (trodAll_cons_mk (shut_int Tryd.underlying41 wf1) trodAll_mk0)),rfl,bel.frame _,fun h => by cases h⟩
theorem over : Rows.ExactValuesSaid :=
 OpenClaim.holds_of_wide 4 Tryd.f4 rfl rfl rfl rfl rfl rfl rfl ⟨rfl,rfl,rfl,rfl,rfl⟩ rfl rfl rfl rfl rfl (by kernel_rfl) Tryd.func4 (by kernel_rfl)
  (of_decide_eq_true (by kernel_rfl)) (by unfold Func.isWrapper; first | (rw [if_pos (by decide +kernel)]; kernel_rfl) | (rw [if_neg (by decide +kernel)]; exact ⟨rfl,rfl⟩))
  (fun os started H enc _ => lifted os started H enc)
theorem proved : Rows.ExactValuesCardSaid :=
 Claim7.holds_tied_plain_at .later [] [.data] true Rows.exactValuesCard.stood.harness false
  over (fun _ h => by cases h) (by kernel_rfl) (fun _ h => by cases h) exactValues_row_tie rfl ⟨rfl,rfl⟩ (by kernel_rfl) rfl
  (fun f fn hf hfn => by
   obtain rfl : f = 4 := Option.some.inj ((show Tryd.prog.funcNamed "numeral/numerallaw04.ExactValues" = some 4 by kernel_rfl).symm.trans hf) |>.symm
   obtain rfl : fn = Tryd.f4 := (Option.some.inj (Tryd.func4.symm.trans hfn)).symm
   exact ⟨by kernel_rfl,fun j t ht => by
    rw [Tryd.params4] at ht
    rcases j with _ | _ | j
    ·obtain rfl : 40 = t := by simpa using ht
     exact (show Tryd.prog.wantsStandIn 40 = false by kernel_rfl)
    ·obtain rfl : 41 = t := by simpa using ht
     exact (show Tryd.prog.wantsStandIn 41 = false by kernel_rfl)
    ·simp at ht⟩)
  (by kernel_rfl)
#print axioms proved
end Go.Proofs.YtecmcjlgknfnlaaDoor.exactValues
