/- For every value of its arguments' types the call numerallaw05.RoundOrder returns true and leaves all memory that was there as it was, where math/bits.deBruijn32tab and numeral/round.names lie as the program lays them: the given statement RoundOrderCardSaid. -/
import Derived.Test.YtcclpafdkgnmiaaGreatDoorRows
import Derived.Test.YtcclpafdkgnmiaaGreatDoorTie
import Derived.Test.YtcclpafdkgnmiaaGreatDoorCards
import Derived.Test.YtcclpafdkgnmiaaGreatDoorPad
import Derived.Test.YtcclpafdkgnmiaaGreatDoorPay
import Derived.Test.YtcclpafdkgnmiaaGreatDoorPbi
import Derived.Test.YtcclpafdkgnmiaaGreatDoorPbk
import Derived.Test.YtcclpafdkgnmiaaGreatDoorPbl
import Derived.SevenTiedAt
namespace Go.Proofs.YtcclpafdkgnmiaaGreatDoor.roundOrder
open Go.ChangeShapes Go.WideShapes Go.ChangeAt Go.RowKit
set_option maxRecDepth 100000 in
theorem lifted (os : Go.Os) (started : os.Started) (H : Type) (enc : TypeId × Value → H) :
  ReturnsInHanded {} Tryz.checked os 5 .any (fun w args => (Rows.roundOrderSpec.pre enc Tryz.prog Tryz.f5 [] false w args ∧ laidMetH Tryz.prog Rows.roundOrderRow.laid w) ∧ sizedMet enc Tryz.prog Tryz.f5 (OpenSpec.ofChange Rows.roundOrderSpec) false w args) (Rows.roundOrderSpec.post enc Tryz.prog Tryz.f5 false true false false) := by
 refine returnsInHanded_of_change_and (C := Tryz.checked) (X := fun w _ => laidMetH Tryz.prog Rows.roundOrderRow.laid w) (fun _ _ _ hh h => h.of_heap hh) own_knob started (by kernel_rfl) Tryz.func5
  (ChangeSpec.witness_at (enc := enc) (C := Tryz.checked) (os := os) (X := fun w _ => laidMetH Tryz.prog Rows.roundOrderRow.laid w) false (laidWorld6 os) #[.agg #[.int .i64 0,.int .i64 0],.agg #[.bool false,.slice none 0 0,.slice none 0 0],.agg #[.bool false,.slice none 0 0,.slice none 0 0],.int .u8 0] 8 rfl (by kernel_rfl) (by kernel_rfl) (by kernel_rfl) (by kernel_rfl) (by kernel_rfl) (laidWorld6_met os _)) ?_
 intro W base args ds gs before hval0 hW hcnd hsz0 hL _
 have hval : ∀ (j : Nat) t v,Tryz.f5.params[j]? = some t → args[j]? = some v → Value.okWide Tryz.prog W .any base t v := hval0
 have hW' := hW
 obtain ⟨p,q,hA0,hV,rfl,hfz,hnd⟩ := hW
 have hA : DataW.TrodAll enc Tryz.prog W 0 (fun _ => true) true Tryz.f5.params.toList args.toList ds p := hA0
 rw [Tryz.params5] at hA hval
 obtain ⟨v0,vs0,d0,ds0,p0,q0,hargs,rfl,rfl,h0,r0⟩ := trodAll_cons hA
 obtain ⟨v1,vs1,d1,ds1,p1,q1,rfl,rfl,rfl,h1,r1⟩ := trodAll_cons r0
 obtain ⟨v2,vs2,d2,ds2,p2,q2,rfl,rfl,rfl,h2,r2⟩ := trodAll_cons r1
 obtain ⟨v3,vs3,d3,ds3,p3,q3,rfl,rfl,rfl,h3,r3⟩ := trodAll_cons r2
 obtain ⟨rfl,rfl,rfl⟩ := trodAll_nil r3
 obtain rfl : args = #[v0,v1,v2,v3] := by cases args; simp_all
 obtain ⟨rfl,rfl⟩ := trodVars_none hV
 have hsz : (DataW.weightsEach Tryz.prog (Tryz.f5.params.toList ++ Rows.roundOrderSpec.plain.varTypes Tryz.prog) ([d0,d1,d2,d3] ++ [])).all (· ≤ reachBytes) = true := hsz0
 rw [Tryz.params5] at hsz
 have lt0 : ∀ x ∈ p0,x.block < W.heap.size := by obtain ⟨m,hm⟩ := h0; exact DataW.trod_lt m _ _ _ hm
 obtain ⟨E0,F0,rfl⟩ := open_form (hval 0 33 v0 rfl rfl) h0
 have lt1 : ∀ x ∈ p1,x.block < W.heap.size := by obtain ⟨m,hm⟩ := h1; exact DataW.trod_lt m _ _ _ hm
 obtain ⟨s1,a1,n1,c1,xs1,b1,k1,l1,ys1,rfl,⟨hn1,hc1,hl1,hw1⟩,⟨hk1,hd1,hly1,hwy1⟩,hr1,hq1⟩ := open_ratio (hval 1 27 v1 rfl rfl) h1
 have bhr1 : c1 ≤ 35184372087808 := by
  rcases hr1 with hz | ⟨e0,e2,el,sp,hd,hes⟩
  ·omega
  ·have := reach_num hsz (j := 1) rfl rfl hd
   omega
 have bhq1 : l1 ≤ 35184372087808 := by
  rcases hq1 with hz | ⟨e0,e1,el,sp,hd,hes⟩
  ·omega
  ·have := reach_den hsz (j := 1) rfl rfl hd
   omega
 have lt2 : ∀ x ∈ p2,x.block < W.heap.size := by obtain ⟨m,hm⟩ := h2; exact DataW.trod_lt m _ _ _ hm
 obtain ⟨s2,a2,n2,c2,xs2,b2,k2,l2,ys2,rfl,⟨hn2,hc2,hl2,hw2⟩,⟨hk2,hd2,hly2,hwy2⟩,hr2,hq2⟩ := open_ratio (hval 2 27 v2 rfl rfl) h2
 have bhr2 : c2 ≤ 35184372087808 := by
  rcases hr2 with hz | ⟨e0,e2,el,sp,hd,hes⟩
  ·omega
  ·have := reach_num hsz (j := 2) rfl rfl hd
   omega
 have bhq2 : l2 ≤ 35184372087808 := by
  rcases hq2 with hz | ⟨e0,e1,el,sp,hd,hes⟩
  ·omega
  ·have := reach_den hsz (j := 2) rfl rfl hd
   omega
 obtain ⟨z3,rfl,rfl,rfl,wf3⟩ := open_int Tryz.underlying5 (hval 3 5 v3 rfl rfl) h3
 obtain ⟨b3,rfl,hb3⟩ := u8_wf wf3
 clear hA0 hval0
 refine (roundOrder_any E0 F0 s1 a1 n1 c1 xs1 b1 k1 l1 ys1 s2 a2 n2 c2 xs2 b2 k2 l2 ys2 b3 W (tb_of_laid6 hL) (nb5_of_laid6 hL) hn1 (by omega) hl1 hw1 hk1 (by omega) hly1 hwy1 hn2 (by omega) hl2 hw2 hk2 (by omega) hly2 hwy2).mono fun e W' ⟨he,bel⟩ => ?_
 subst he
 exact ⟨_,rfl,_,_,_,[],_,[],hW',trodAll_mk1 (shut_bool Tryz.underlying4 _),
  (trodAll_cons_mk (Below.trod laidOut (by kernel_rfl) (of_decide_eq_true (by kernel_rfl)) h0 bel lt0) (trodAll_cons_mk (Below.trod laidOut (by kernel_rfl) (of_decide_eq_true (by kernel_rfl)) h1 bel lt1) (trodAll_cons_mk (Below.trod laidOut (by kernel_rfl) (of_decide_eq_true (by kernel_rfl)) h2 bel lt2) (trodAll_cons_mk (shut_int Tryz.underlying5 wf3) trodAll_mk0)))),rfl,bel.frame _,fun h => by cases h⟩
theorem over : Rows.RoundOrderSaid :=
 OpenClaim.holds_of_wide 5 Tryz.f5 rfl rfl rfl rfl rfl rfl rfl ⟨rfl,rfl,rfl,rfl,rfl⟩ rfl rfl rfl rfl rfl (by kernel_rfl) Tryz.func5 (by kernel_rfl)
  (of_decide_eq_true (by kernel_rfl)) (by unfold Func.isWrapper; first | (rw [if_pos (by decide +kernel)]; kernel_rfl) | (rw [if_neg (by decide +kernel)]; exact ⟨rfl,rfl⟩))
  (fun os started H enc _ => lifted os started H enc)
theorem proved : Rows.RoundOrderCardSaid :=
 Claim7.holds_tied_plain_at .later [] [.data,.data] true Rows.roundOrderCard.stood.harness false
  over (fun _ h => by cases h) (by kernel_rfl) (fun _ h => by cases h) roundOrder_row_tie rfl ⟨rfl,rfl⟩ (by kernel_rfl) rfl
  (fun f fn hf hfn => by
   obtain rfl : f = 5 := Option.some.inj ((show Tryz.prog.funcNamed "numeral/numerallaw05.RoundOrder" = some 5 by kernel_rfl).symm.trans hf) |>.symm
   obtain rfl : fn = Tryz.f5 := (Option.some.inj (Tryz.func5.symm.trans hfn)).symm
   exact ⟨by kernel_rfl,fun j t ht => by
    rw [Tryz.params5] at ht
    rcases j with _ | _ | _ | _ | j
    ·obtain rfl : 33 = t := by simpa using ht
     exact (show Tryz.prog.wantsStandIn 33 = false by kernel_rfl)
    ·obtain rfl : 27 = t := by simpa using ht
     exact (show Tryz.prog.wantsStandIn 27 = false by kernel_rfl)
    ·obtain rfl : 27 = t := by simpa using ht
     exact (show Tryz.prog.wantsStandIn 27 = false by kernel_rfl)
    ·obtain rfl : 5 = t := by simpa using ht
     exact (show Tryz.prog.wantsStandIn 5 = false by kernel_rfl)
    ·simp at ht⟩)
  (by kernel_rfl)
#print axioms proved
end Go.Proofs.YtcclpafdkgnmiaaGreatDoor.roundOrder
