/- For every value of its arguments' types the call numerallaw10.DecBack returns true and leaves all memory that was there as it was: the given statement DecBackSaid. -/
import Derived.Test.YtpmmapoabbpaiaaGreatRows
import Derived.Test.YtpmmapoabbpaiaaGreatPad
import Derived.Test.YtpmmapoabbpaiaaGreatPbv
import Derived.Test.YtpmmapoabbpaiaaGreatPbw
import Derived.Test.YtpmmapoabbpaiaaGreatPby
import Derived.ShutString
namespace Go.Proofs.YtpmmapoabbpaiaaGreat.decBack
open Go.ChangeShapes Go.WideShapes Go.ChangeAt Go.RowKit
open Go.ChangeMaps (open_string shut_string)
set_option maxRecDepth 100000 in
theorem lifted (os : Go.Os) (started : os.Started) (H : Type) (enc : TypeId × Value → H) :
  ReturnsInHanded {} Tryz.checked os 3 .any (Rows.decBackSpec.pre6 enc Tryz.prog Tryz.f3 Rows.decBackRow.domain false) (Rows.decBackSpec.post enc Tryz.prog Tryz.f3 false true false false) := by
 refine returnsInHanded_of_change_sized (C := Tryz.checked) own_knob started (by kernel_rfl) Tryz.func3
  (ChangeSpec.witness6 (enc := enc) (C := Tryz.checked) false ⟨#[],#[.agg #[.bool false,.string ByteArray.empty,.int .i64 0],.agg #[.bool false,.slice none 0 0,.slice none 0 0]],[]⟩ 8 (by kernel_rfl) (by kernel_rfl) (by kernel_rfl) (by kernel_rfl)) ?_
 intro W base args ds gs before hval0 hW hcnd hsz0 _
 have hval : ∀ (j : Nat) t v,Tryz.f3.params[j]? = some t → args[j]? = some v → Value.okWide Tryz.prog W .any base t v := hval0
 have hW' := hW
 obtain ⟨p,q,hA0,hV,rfl,hfz,hnd⟩ := hW
 have hA : DataW.TrodAll enc Tryz.prog W 0 (fun _ => true) true Tryz.f3.params.toList args.toList ds p := hA0
 rw [Tryz.params3] at hA hval
 obtain ⟨v0,vs0,d0,ds0,p0,q0,hargs,rfl,rfl,h0,r0⟩ := trodAll_cons hA
 obtain ⟨v1,vs1,d1,ds1,p1,q1,rfl,rfl,rfl,h1,r1⟩ := trodAll_cons r0
 obtain ⟨rfl,rfl,rfl⟩ := trodAll_nil r1
 obtain rfl : args = #[v0,v1] := by cases args; simp_all
 obtain ⟨rfl,rfl⟩ := trodVars_none hV
 have hsz : (DataW.weightsEach Tryz.prog (Tryz.f3.params.toList ++ Rows.decBackSpec.plain.varTypes Tryz.prog) ([d0,d1] ++ [])).all (· ≤ reachBytes) = true := hsz0
 rw [Tryz.params3] at hsz
 have lt0 : ∀ x ∈ p0,x.block < W.heap.size := by obtain ⟨m,hm⟩ := h0; exact DataW.trod_lt m _ _ _ hm
 obtain ⟨g0,s0,x0,rfl,hx0⟩ := open_dec (hval 0 23 v0 rfl rfl) h0
 have lt1 : ∀ x ∈ p1,x.block < W.heap.size := by obtain ⟨m,hm⟩ := h1; exact DataW.trod_lt m _ _ _ hm
 obtain ⟨s1,a1,n1,c1,xs1,b1,k1,l1,ys1,rfl,⟨hn1,hc1,hl1,hw1⟩,⟨hk1,hd1,hly1,hwy1⟩,hr1,hq1⟩ := open_ratio (hval 1 28 v1 rfl rfl) h1
 have bhr1 : c1 ≤ 35184372087808 := by
  rcases hr1 with hz | ⟨e0,e2,el,sp,hd,hes⟩
  ·omega
  ·have := reach_num hsz (j := 1) rfl rfl hd
   omega
 have bhq1 : l1 ≤ 35184372087808 := by
  rcases hq1 with hz | ⟨e0,e1,el,sp,hd,hes⟩
  ·omega
  ·have := reach_den hsz (j := 1) rfl rfl hd
   omega
 clear hA0 hval0
 refine (decBack_any g0 s0 x0 s1 a1 n1 c1 xs1 b1 k1 l1 ys1 W hn1 (by omega) hl1 hw1 hk1 (by omega) hly1 hwy1).mono fun e W' ⟨he,bel⟩ => ?_
 subst he
 exact ⟨_,rfl,_,_,_,[],_,[],hW',trodAll_mk1 (shut_bool Tryz.underlying4 _),
  (trodAll_cons_mk (Below.trod laidOut (by kernel_rfl) (of_decide_eq_true (by kernel_rfl)) h0 bel lt0) (trodAll_cons_mk (Below.trod laidOut (by kernel_rfl) (of_decide_eq_true (by kernel_rfl)) h1 bel lt1) trodAll_mk0)),rfl,bel.frame _,fun h => by cases h⟩
theorem over : Rows.decBackRow.holds Tryz.pinned (OpenSpec.ofChange Rows.decBackSpec) :=
 OpenClaim.holds_of_wide 3 Tryz.f3 rfl rfl rfl rfl rfl rfl rfl ⟨rfl,rfl,rfl,rfl,rfl⟩ rfl rfl rfl rfl rfl (by kernel_rfl) Tryz.func3 (by kernel_rfl)
  (of_decide_eq_true (by kernel_rfl)) (by unfold Func.isWrapper; first | (rw [if_pos (by decide +kernel)]; kernel_rfl) | (rw [if_neg (by decide +kernel)]; exact ⟨rfl,rfl⟩))
  (fun os started H enc _ => lifted os started H enc)
theorem proved : Rows.DecBackSaid := over
#print axioms proved
end Go.Proofs.YtpmmapoabbpaiaaGreat.decBack
