/- For every value of its arguments' types the call numerallaw17.DigitsSure returns true and leaves all memory that was there as it was, where math/bits.deBruijn32tab, math/bits.deBruijn64tab and internal/strconv.uint64pow10 lie as the program lays them: the given statement DigitsSureCardSaid. -/
import Derived.Test.YteafdlblemdclaaGreatDoorRows
import Derived.Test.YteafdlblemdclaaGreatDoorTie
import Derived.Test.YteafdlblemdclaaGreatDoorCards
import Derived.Test.YteafdlblemdclaaGreatDoorPbt
import Derived.Test.YteafdlblemdclaaGreatDoorPbs
import Derived.SevenTiedAt
namespace Go.Proofs.YteafdlblemdclaaGreatDoor.digitsSure
open Go.ChangeShapes Go.WideShapes Go.ChangeAt Go.RowKit
set_option maxRecDepth 100000 in
theorem lifted (os : Go.Os) (started : os.Started) (H : Type) (enc : TypeId × Value → H) :
  ReturnsInHanded {} Tryz.checked os 6 .any (fun w args => (Rows.digitsSureSpec.pre enc Tryz.prog Tryz.f6 [] false w args ∧ laidMetH Tryz.prog Rows.digitsSureRow.laid w) ∧ sizedMet enc Tryz.prog Tryz.f6 (OpenSpec.ofChange Rows.digitsSureSpec) false w args) (Rows.digitsSureSpec.post enc Tryz.prog Tryz.f6 false true false false) := by
 refine returnsInHanded_of_change_and (C := Tryz.checked) (X := fun w _ => laidMetH Tryz.prog Rows.digitsSureRow.laid w) (fun _ _ _ hh h => h.of_heap hh) own_knob started (by kernel_rfl) Tryz.func6
  (ChangeSpec.witness_at (enc := enc) (C := Tryz.checked) (os := os) (X := fun w _ => laidMetH Tryz.prog Rows.digitsSureRow.laid w) false (laidWorldT os) #[.agg #[.int .i64 0,.int .i64 0],.bool false,.int .u64 0,.int .i64 0] 8 rfl (by kernel_rfl) (by kernel_rfl) (by kernel_rfl) (by kernel_rfl) (by kernel_rfl) (laidWorldT_met os _)) ?_
 intro W base args ds gs before hval0 hW hcnd hsz0 hL _
 have hval : ∀ (j : Nat) t v,Tryz.f6.params[j]? = some t → args[j]? = some v → Value.okWide Tryz.prog W .any base t v := hval0
 have hW' := hW
 obtain ⟨p,q,hA0,hV,rfl,hfz,hnd⟩ := hW
 have hA : DataW.TrodAll enc Tryz.prog W 0 (fun _ => true) true Tryz.f6.params.toList args.toList ds p := hA0
 rw [Tryz.params6] at hA hval
 obtain ⟨v0,vs0,d0,ds0,p0,q0,hargs,rfl,rfl,h0,r0⟩ := trodAll_cons hA
 obtain ⟨v1,vs1,d1,ds1,p1,q1,rfl,rfl,rfl,h1,r1⟩ := trodAll_cons r0
 obtain ⟨v2,vs2,d2,ds2,p2,q2,rfl,rfl,rfl,h2,r2⟩ := trodAll_cons r1
 obtain ⟨v3,vs3,d3,ds3,p3,q3,rfl,rfl,rfl,h3,r3⟩ := trodAll_cons r2
 obtain ⟨rfl,rfl,rfl⟩ := trodAll_nil r3
 obtain rfl : args = #[v0,v1,v2,v3] := by cases args; simp_all
 obtain ⟨rfl,rfl⟩ := trodVars_none hV
 have lt0 : ∀ x ∈ p0,x.block < W.heap.size := by obtain ⟨m,hm⟩ := h0; exact DataW.trod_lt m _ _ _ hm
 obtain ⟨E0,F0,rfl⟩ := open_form (hval 0 23 v0 rfl rfl) h0
 obtain ⟨g1,rfl,rfl,rfl⟩ := open_bool Tryz.underlying4 (hval 1 4 v1 rfl rfl) h1
 obtain ⟨z2,rfl,rfl,rfl,wf2⟩ := open_int Tryz.underlying24 (hval 2 24 v2 rfl rfl) h2
 obtain ⟨b2,rfl,hb2⟩ := u64_wf wf2
 obtain ⟨z3,rfl,rfl,rfl,wf3⟩ := open_int Tryz.underlying3 (hval 3 3 v3 rfl rfl) h3
 have hb3 := i64_bd wf3
 clear hA0 hval0
 refine (digitsSure_any E0 F0 g1 b2 z3 W (tp_of_laid hL) (tbT_of_laid hL) hb2 hb3.1 hb3.2).mono fun e W' ⟨he,bel⟩ => ?_
 subst he
 exact ⟨_,rfl,_,_,_,[],_,[],hW',trodAll_mk1 (shut_bool Tryz.underlying4 _),
  (trodAll_cons_mk (Below.trod laidOut (by kernel_rfl) (of_decide_eq_true (by kernel_rfl)) h0 bel lt0) (trodAll_cons_mk (shut_bool Tryz.underlying4 _) (trodAll_cons_mk (shut_int Tryz.underlying24 wf2) (trodAll_cons_mk (shut_int Tryz.underlying3 wf3) trodAll_mk0)))),rfl,bel.frame _,fun h => by cases h⟩
theorem over : Rows.DigitsSureSaid :=
 OpenClaim.holds_of_wide 6 Tryz.f6 rfl rfl rfl rfl rfl rfl rfl ⟨rfl,rfl,rfl,rfl,rfl⟩ rfl rfl rfl rfl rfl (by kernel_rfl) Tryz.func6 (by kernel_rfl)
  (of_decide_eq_true (by kernel_rfl)) (by unfold Func.isWrapper; first | (rw [if_pos (by decide +kernel)]; kernel_rfl) | (rw [if_neg (by decide +kernel)]; exact ⟨rfl,rfl⟩))
  (fun os started H enc _ => lifted os started H enc)
theorem proved : Rows.DigitsSureCardSaid :=
 Claim7.holds_tied_plain_at .later [] [.data,.data,.data] true Rows.digitsSureCard.stood.harness false
  over (fun _ h => by cases h) (by kernel_rfl) (fun _ h => by cases h) digitsSure_row_tie rfl ⟨rfl,rfl⟩ (by kernel_rfl) rfl
  (fun f fn hf hfn => by
   obtain rfl : f = 6 := Option.some.inj ((show Tryz.prog.funcNamed "numeral/numerallaw17.DigitsSure" = some 6 by kernel_rfl).symm.trans hf) |>.symm
   obtain rfl : fn = Tryz.f6 := (Option.some.inj (Tryz.func6.symm.trans hfn)).symm
   exact ⟨by kernel_rfl,fun j t ht => by
    rw [Tryz.params6] at ht
    rcases j with _ | _ | _ | _ | j
    ·obtain rfl : 23 = t := by simpa using ht
     exact (show Tryz.prog.wantsStandIn 23 = false by kernel_rfl)
    ·obtain rfl : 4 = t := by simpa using ht
     exact (show Tryz.prog.wantsStandIn 4 = false by kernel_rfl)
    ·obtain rfl : 24 = t := by simpa using ht
     exact (show Tryz.prog.wantsStandIn 24 = false by kernel_rfl)
    ·obtain rfl : 3 = t := by simpa using ht
     exact (show Tryz.prog.wantsStandIn 3 = false by kernel_rfl)
    ·simp at ht⟩)
  (by kernel_rfl)
#print axioms proved
end Go.Proofs.YteafdlblemdclaaGreatDoor.digitsSure
