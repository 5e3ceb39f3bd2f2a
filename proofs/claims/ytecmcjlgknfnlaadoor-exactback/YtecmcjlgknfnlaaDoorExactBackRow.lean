/- For every value of the type api.Dyadic and every value of the type api.Ratio the call numerallaw04.ExactBack returns true and leaves all memory that was there as it was, where math/bits.deBruijn32tab lies as the program's text lays it: the given statement ExactBackCardSaid. -/
import Derived.Test.YtecmcjlgknfnlaaDoorRows
import Derived.Test.YtecmcjlgknfnlaaDoorTie
import Derived.Test.YtecmcjlgknfnlaaDoorCards
import Derived.Test.YtecmcjlgknfnlaaDoorPaj
import Derived.Test.YtecmcjlgknfnlaaDoorPan
import Derived.Test.YtecmcjlgknfnlaaDoorPbe
import Derived.SevenTiedAt
namespace Go.Proofs.YtecmcjlgknfnlaaDoor.exactBack
open Go.ChangeShapes Go.WideShapes Go.ChangeAt Go.RowKit
set_option maxRecDepth 100000 in
theorem lifted (os : Go.Os) (started : os.Started) (H : Type) (enc : TypeId × Value → H) :
  ReturnsInHanded {} Tryd.checked os 8 .any (fun w args => (Rows.exactBackSpec.pre enc Tryd.prog Tryd.f8 [] false w args ∧ laidMetH Tryd.prog Rows.exactBackRow.laid w) ∧ sizedMet enc Tryd.prog Tryd.f8 (OpenSpec.ofChange Rows.exactBackSpec) false w args) (Rows.exactBackSpec.post enc Tryd.prog Tryd.f8 false true false false) := by
 refine returnsInHanded_of_change_and (C := Tryd.checked) (X := fun w _ => laidMetH Tryd.prog Rows.exactBackRow.laid w) (fun _ _ _ hh h => h.of_heap hh) own_knob started (by kernel_rfl) Tryd.func8
  (ChangeSpec.witness_at (enc := enc) (C := Tryd.checked) (os := os) (X := fun w _ => laidMetH Tryd.prog Rows.exactBackRow.laid w) false (laidWorld os) #[.agg #[.bool false,.slice none 0 0,.int .i64 0],.agg #[.bool false,.slice none 0 0,.slice none 0 0]] 8 rfl (by kernel_rfl) (by kernel_rfl) (by kernel_rfl) (by kernel_rfl) (by kernel_rfl) (laidWorld_met os _)) ?_
 intro W base args ds gs before hval0 hW hcnd hsz0 hL _
 have hval : ∀ (j : Nat) t v,Tryd.f8.params[j]? = some t → args[j]? = some v → Value.okWide Tryd.prog W .any base t v := hval0
 have hW' := hW
 obtain ⟨p,q,hA0,hV,rfl,hfz,hnd⟩ := hW
 have hA : DataW.TrodAll enc Tryd.prog W 0 (fun _ => true) true Tryd.f8.params.toList args.toList ds p := hA0
 rw [Tryd.params8] at hA hval
 obtain ⟨v0,vs0,d0,ds0,p0,q0,hargs,rfl,rfl,h0,r0⟩ := trodAll_cons hA
 obtain ⟨v1,vs1,d1,ds1,p1,q1,rfl,rfl,rfl,h1,r1⟩ := trodAll_cons r0
 obtain ⟨rfl,rfl,rfl⟩ := trodAll_nil r1
 obtain rfl : args = #[v0,v1] := by cases args; simp_all
 obtain ⟨rfl,rfl⟩ := trodVars_none hV
 have lt0 : ∀ x ∈ p0,x.block < W.heap.size := by obtain ⟨m,hm⟩ := h0; exact DataW.trod_lt m _ _ _ hm
 have lt1 : ∀ x ∈ p1,x.block < W.heap.size := by obtain ⟨m,hm⟩ := h1; exact DataW.trod_lt m _ _ _ hm
 have hsz : (DataW.weightsEach Tryd.prog (Tryd.f8.params.toList ++ Rows.exactBackSpec.plain.varTypes Tryd.prog) ([d0,d1] ++ [])).all (· ≤ reachBytes) = true := hsz0
 rw [Tryd.params8] at hsz
 obtain ⟨s,a,na,ca,xs,x,rfl,hna,hca,hla,hwa,_,_,hrc⟩ := open_dyadic (hval 0 26 v0 rfl rfl) h0
 obtain ⟨s',b,nb,cb,ys,b',nd,cd,zs,rfl,⟨hnb,hcb,hlb,hwb⟩,⟨hnd,hcd,hld,hwd⟩,hr1,hr2⟩ := open_ratio (hval 1 50 v1 rfl rfl) h1
 have hreach : na ≤ 35184372087808 := by
  rcases hrc with hz | ⟨e0,e2,el,sp,hd,hes⟩
  ·omega
  ·have := reach_dyadic hsz (j := 0) rfl rfl hd
   omega
 have hreach1 : cb ≤ 35184372087808 := by
  rcases hr1 with hz | ⟨e0,e2,el,sp,hd,hes⟩
  ·omega
  ·have := reach_num hsz (j := 1) rfl rfl hd
   omega
 have hreach2 : cd ≤ 35184372087808 := by
  rcases hr2 with hz | ⟨e0,e2,el,sp,hd,hes⟩
  ·omega
  ·have := reach_den hsz (j := 1) rfl rfl hd
   omega
 have hT := tb_of_laid hL
 clear hA0 hval0
 refine (exactBack_any s a na ca xs x s' b nb cb ys b' nd cd zs W hT hna (by omega) hla hwa hnb (by omega) hcb (by omega) hlb hwb hnd (by omega) hld hwd).mono fun e W' ⟨he,bel⟩ => ?_
 subst he
 exact ⟨_,rfl,_,_,_,[],_,[],hW',trodAll_mk1 (shut_bool Tryd.underlying4 _),
  (trodAll_cons_mk (Below.trod laidOut (by kernel_rfl) (of_decide_eq_true (by kernel_rfl)) h0 bel lt0) (trodAll_cons_mk (Below.trod laidOut (by kernel_rfl) (of_decide_eq_true (by kernel_rfl)) h1 bel lt1) trodAll_mk0)),rfl,bel.frame _,fun h => by cases h⟩
theorem over : Rows.ExactBackSaid :=
 OpenClaim.holds_of_wide 8 Tryd.f8 rfl rfl rfl rfl rfl rfl rfl ⟨rfl,rfl,rfl,rfl,rfl⟩ rfl rfl rfl rfl rfl (by kernel_rfl) Tryd.func8 (by kernel_rfl)
  (of_decide_eq_true (by kernel_rfl)) (by unfold Func.isWrapper; first | (rw [if_pos (by decide +kernel)]; kernel_rfl) | (rw [if_neg (by decide +kernel)]; exact ⟨rfl,rfl⟩))
  (fun os started H enc _ => lifted os started H enc)
theorem proved : Rows.ExactBackCardSaid :=
 Claim7.holds_tied_plain_at .later [] [.data] true Rows.exactBackCard.stood.harness false
  over (fun _ h => by cases h) (by kernel_rfl) (fun _ h => by cases h) exactBack_row_tie rfl ⟨rfl,rfl⟩ (by kernel_rfl) rfl
  (fun f fn hf hfn => by
   obtain rfl : f = 8 := Option.some.inj ((show Tryd.prog.funcNamed "numeral/numerallaw04.ExactBack" = some 8 by kernel_rfl).symm.trans hf) |>.symm
   obtain rfl : fn = Tryd.f8 := (Option.some.inj (Tryd.func8.symm.trans hfn)).symm
   exact ⟨by kernel_rfl,fun j t ht => by
    rw [Tryd.params8] at ht
    rcases j with _ | _ | j
    ·obtain rfl : 26 = t := by simpa using ht
     exact (show Tryd.prog.wantsStandIn 26 = false by kernel_rfl)
    ·obtain rfl : 50 = t := by simpa using ht
     exact (show Tryd.prog.wantsStandIn 50 = false by kernel_rfl)
    ·simp at ht⟩)
  (by kernel_rfl)
#print axioms proved
end Go.Proofs.YtecmcjlgknfnlaaDoor.exactBack
