/- For every value of its arguments' types the call numerallaw05.RoundInteger returns true and leaves all memory that was there as it was, where math/bits.deBruijn32tab and numeral/round.names lie as the program lays them: the given statement RoundIntegerCardSaid. -/
import Derived.Test.YtfjegmlpkiaifaaGreatDoorRows
import Derived.Test.YtfjegmlpkiaifaaGreatDoorTie
import Derived.Test.YtfjegmlpkiaifaaGreatDoorCards
import Derived.Test.YtfjegmlpkiaifaaGreatDoorPad
import Derived.Test.YtfjegmlpkiaifaaGreatDoorPbb
import Derived.Test.YtfjegmlpkiaifaaGreatDoorPbt
import Derived.Test.YtfjegmlpkiaifaaGreatDoorPbv
import Derived.Test.YtfjegmlpkiaifaaGreatDoorPbw
import Derived.SevenTiedAt
namespace Go.Proofs.YtfjegmlpkiaifaaGreatDoor.roundInteger
open Go.ChangeShapes Go.WideShapes Go.ChangeAt Go.RowKit
set_option maxRecDepth 100000 in
theorem lifted (os : Go.Os) (started : os.Started) (H : Type) (enc : TypeId × Value → H) :
  ReturnsInHanded {} Tryz.checked os 4 .any (fun w args => (Rows.roundIntegerSpec.pre enc Tryz.prog Tryz.f4 [] false w args ∧ laidMetH Tryz.prog Rows.roundIntegerRow.laid w) ∧ sizedMet enc Tryz.prog Tryz.f4 (OpenSpec.ofChange Rows.roundIntegerSpec) false w args) (Rows.roundIntegerSpec.post enc Tryz.prog Tryz.f4 false true false false) := by
 refine returnsInHanded_of_change_and (C := Tryz.checked) (X := fun w _ => laidMetH Tryz.prog Rows.roundIntegerRow.laid w) (fun _ _ _ hh h => h.of_heap hh) own_knob started (by kernel_rfl) Tryz.func4
  (ChangeSpec.witness_at (enc := enc) (C := Tryz.checked) (os := os) (X := fun w _ => laidMetH Tryz.prog Rows.roundIntegerRow.laid w) false (laidWorld6 os) #[.agg #[.bool false,.slice none 0 0,.slice none 0 0]] 8 rfl (by kernel_rfl) (by kernel_rfl) (by kernel_rfl) (by kernel_rfl) (by kernel_rfl) (laidWorld6_met os _)) ?_
 intro W base args ds gs before hval0 hW hcnd hsz0 hL _
 have hval : ∀ (j : Nat) t v,Tryz.f4.params[j]? = some t → args[j]? = some v → Value.okWide Tryz.prog W .any base t v := hval0
 have hW' := hW
 obtain ⟨p,q,hA0,hV,rfl,hfz,hnd⟩ := hW
 have hA : DataW.TrodAll enc Tryz.prog W 0 (fun _ => true) true Tryz.f4.params.toList args.toList ds p := hA0
 rw [Tryz.params4] at hA hval
 obtain ⟨v0,vs0,d0,ds0,p0,q0,hargs,rfl,rfl,h0,r0⟩ := trodAll_cons hA
 obtain ⟨rfl,rfl,rfl⟩ := trodAll_nil r0
 obtain rfl : args = #[v0] := by cases args; simp_all
 obtain ⟨rfl,rfl⟩ := trodVars_none hV
 have hsz : (DataW.weightsEach Tryz.prog (Tryz.f4.params.toList ++ Rows.roundIntegerSpec.plain.varTypes Tryz.prog) ([d0] ++ [])).all (· ≤ reachBytes) = true := hsz0
 rw [Tryz.params4] at hsz
 have lt0 : ∀ x ∈ p0,x.block < W.heap.size := by obtain ⟨m,hm⟩ := h0; exact DataW.trod_lt m _ _ _ hm
 obtain ⟨s0,a0,n0,c0,xs0,b0,k0,l0,ys0,rfl,⟨hn0,hc0,hl0,hw0⟩,⟨hk0,hd0,hly0,hwy0⟩,hr0,hq0⟩ := open_ratio (hval 0 28 v0 rfl rfl) h0
 have bhr0 : c0 ≤ 35184372087808 := by
  rcases hr0 with hz | ⟨e0,e2,el,sp,hd,hes⟩
  ·omega
  ·have := reach_num hsz (j := 0) rfl rfl hd
   omega
 have bhq0 : l0 ≤ 35184372087808 := by
  rcases hq0 with hz | ⟨e0,e1,el,sp,hd,hes⟩
  ·omega
  ·have := reach_den hsz (j := 0) rfl rfl hd
   omega
 clear hA0 hval0
 refine (roundInteger_any s0 a0 n0 c0 xs0 b0 k0 l0 ys0 W (tb_of_laid6 hL) (nb5_of_laid6 hL) hn0 (by omega) hl0 hw0 hk0 (by omega) hly0 hwy0).mono fun e W' ⟨he,bel⟩ => ?_
 subst he
 exact ⟨_,rfl,_,_,_,[],_,[],hW',trodAll_mk1 (shut_bool Tryz.underlying4 _),
  (trodAll_cons_mk (Below.trod laidOut (by kernel_rfl) (of_decide_eq_true (by kernel_rfl)) h0 bel lt0) trodAll_mk0),rfl,bel.frame _,fun h => by cases h⟩
theorem over : Rows.RoundIntegerSaid :=
 OpenClaim.holds_of_wide 4 Tryz.f4 rfl rfl rfl rfl rfl rfl rfl ⟨rfl,rfl,rfl,rfl,rfl⟩ rfl rfl rfl rfl rfl (by kernel_rfl) Tryz.func4 (by kernel_rfl)
  (of_decide_eq_true (by kernel_rfl)) (by unfold Func.isWrapper; first | (rw [if_pos (by decide +kernel)]; kernel_rfl) | (rw [if_neg (by decide +kernel)]; exact ⟨rfl,rfl⟩))
  (fun os started H enc _ => lifted os started H enc)
theorem proved : Rows.RoundIntegerCardSaid :=
 Claim7.holds_tied_plain_at .later [] [.data,.data] true Rows.roundIntegerCard.stood.harness false
  over (fun _ h => by cases h) (by kernel_rfl) (fun _ h => by cases h) roundInteger_row_tie rfl ⟨rfl,rfl⟩ (by kernel_rfl) rfl
  (fun f fn hf hfn => by
   obtain rfl : f = 4 := Option.some.inj ((show Tryz.prog.funcNamed "numeral/numerallaw05.RoundInteger" = some 4 by kernel_rfl).symm.trans hf) |>.symm
   obtain rfl : fn = Tryz.f4 := (Option.some.inj (Tryz.func4.symm.trans hfn)).symm
   exact ⟨by kernel_rfl,fun j t ht => by
    rw [Tryz.params4] at ht
    rcases j with _ | j
    ·obtain rfl : 28 = t := by simpa using ht
     exact (show Tryz.prog.wantsStandIn 28 = false by kernel_rfl)
    ·simp at ht⟩)
  (by kernel_rfl)
#print axioms proved
end Go.Proofs.YtfjegmlpkiaifaaGreatDoor.roundInteger
