/- For every value of its arguments' types the call numerallaw06.NearRounds returns true and leaves all memory that was there as it was, where math/bits.deBruijn32tab and numeral/round.names lie as the program lays them: the given statement NearRoundsCardSaid. -/
import Derived.Test.YtaidedkpfnidpaaGreatDoorTie
import Derived.Test.YtaidedkpfnidpaaGreatDoorCards
import Derived.Test.YtaidedkpfnidpaaGreatDoorPbo
import Derived.Test.YtaidedkpfnidpaaGreatDoorPbl
import Derived.Test.YtaidedkpfnidpaaGreatDoorPbn
import Derived.SevenTiedAt
namespace Go.Proofs.YtaidedkpfnidpaaGreatDoor.nearRounds
open Go.ChangeShapes Go.WideShapes Go.ChangeAt Go.RowKit
set_option maxRecDepth 100000 in
theorem lifted (os : Go.Os) (started : os.Started) (H : Type) (enc : TypeId × Value → H) :
  ReturnsInHanded {} Tryz.checked os 3 .any (fun w args => (Rows.nearRoundsSpec.pre enc Tryz.prog Tryz.f3 [] false w args ∧ laidMetH Tryz.prog Rows.nearRoundsRow.laid w) ∧ sizedMet enc Tryz.prog Tryz.f3 (OpenSpec.ofChange Rows.nearRoundsSpec) false w args) (Rows.nearRoundsSpec.post enc Tryz.prog Tryz.f3 false true false false) := by
 refine returnsInHanded_of_change_and (C := Tryz.checked) (X := fun w _ => laidMetH Tryz.prog Rows.nearRoundsRow.laid w) (fun _ _ _ hh h => h.of_heap hh) CL started (by kernel_rfl) Tryz.func3
  (ChangeSpec.witness_at (enc := enc) (C := Tryz.checked) (os := os) (X := fun w _ => laidMetH Tryz.prog Rows.nearRoundsRow.laid w) false (nV os) #[.agg #[.int .i64 0,.int .i64 0],.int .u64 0,.int .u8 0,.agg #[.bool false,.slice none 0 0,.slice none 0 0]] 8 rfl (by kernel_rfl) (by kernel_rfl) (by kernel_rfl) (by kernel_rfl) (by kernel_rfl) (pI os _)) ?_
 intro W base args ds gs before hval0 hW hcnd hsz0 hL _
 have hval : ∀ (j : Nat) t v,Tryz.f3.params[j]? = some t → args[j]? = some v → Value.okWide Tryz.prog W .any base t v := hval0
 have hW' := hW
 obtain ⟨p,q,hA0,hV,rfl,hfz,hnd⟩ := hW
 have hA : DataW.TrodAll enc Tryz.prog W 0 (fun _ => true) true Tryz.f3.params.toList args.toList ds p := hA0
 rw [Tryz.params3] at hA hval
 obtain ⟨v0,vs0,d0,ds0,p0,q0,hargs,rfl,rfl,h0,r0⟩ := trodAll_cons hA
 obtain ⟨v1,vs1,d1,ds1,p1,q1,rfl,rfl,rfl,h1,r1⟩ := trodAll_cons r0
 obtain ⟨v2,vs2,d2,ds2,p2,q2,rfl,rfl,rfl,h2,r2⟩ := trodAll_cons r1
 obtain ⟨v3,vs3,d3,ds3,p3,q3,rfl,rfl,rfl,h3,r3⟩ := trodAll_cons r2
 obtain ⟨rfl,rfl,rfl⟩ := trodAll_nil r3
 obtain rfl : args = #[v0,v1,v2,v3] := by cases args; simp_all
 obtain ⟨rfl,rfl⟩ := trodVars_none hV
 have hsz : (DataW.weightsEach Tryz.prog (Tryz.f3.params.toList ++ Rows.nearRoundsSpec.plain.varTypes Tryz.prog) ([d0,d1,d2,d3] ++ [])).all (· ≤ reachBytes) = true := hsz0
 rw [Tryz.params3] at hsz
 have lt0 : ∀ x ∈ p0,x.block < W.heap.size := by obtain ⟨m,hm⟩ := h0; exact DataW.trod_lt m _ _ _ hm
 obtain ⟨E0,F0,rfl⟩ := zb (hval 0 23 v0 rfl rfl) h0
 obtain ⟨z1,rfl,rfl,rfl,wf1⟩ := open_int Tryz.underlying24 (hval 1 24 v1 rfl rfl) h1
 obtain ⟨b1,rfl,hb1⟩ := Hf wf1
 obtain ⟨z2,rfl,rfl,rfl,wf2⟩ := open_int Tryz.underlying5 (hval 2 5 v2 rfl rfl) h2
 obtain ⟨b2,rfl,hb2⟩ := Jf wf2
 have lt3 : ∀ x ∈ p3,x.block < W.heap.size := by obtain ⟨m,hm⟩ := h3; exact DataW.trod_lt m _ _ _ hm
 obtain ⟨s3,a3,n3,c3,xs3,b3,k3,l3,ys3,rfl,⟨hn3,hc3,hl3,hw3⟩,⟨hk3,hd3,hly3,hwy3⟩,hr3,hq3⟩ := wQ (hval 3 29 v3 rfl rfl) h3
 have bhr3 : c3 ≤ 35184372087808 := by
  rcases hr3 with hz | ⟨e0,e2,el,sp,hd,hes⟩
  ·omega
  ·have := xV hsz (j := 3) rfl rfl hd
   omega
 have bhq3 : l3 ≤ 35184372087808 := by
  rcases hq3 with hz | ⟨e0,e1,el,sp,hd,hes⟩
  ·omega
  ·have := zl hsz (j := 3) rfl rfl hd
   omega
 clear hA0 hval0
 refine (pE E0 F0 b1 b2 s3 a3 n3 c3 xs3 b3 k3 l3 ys3 W (uz hL) (sN hL) hn3 (by omega) hl3 hw3 hk3 (by omega) hly3 hwy3).mono fun e W' ⟨he,bel⟩ => ?_
 subst he
 exact ⟨_,rfl,_,_,_,[],_,[],hW',trodAll_mk1 (shut_bool Tryz.underlying4 _),
  (trodAll_cons_mk (Below.trod laidOut (by kernel_rfl) (of_decide_eq_true (by kernel_rfl)) h0 bel lt0) (trodAll_cons_mk (shut_int Tryz.underlying24 wf1) (trodAll_cons_mk (shut_int Tryz.underlying5 wf2) (trodAll_cons_mk (Below.trod laidOut (by kernel_rfl) (of_decide_eq_true (by kernel_rfl)) h3 bel lt3) trodAll_mk0)))),rfl,bel.frame _,fun h => by cases h⟩
theorem over : Rows.NearRoundsSaid :=
 OpenClaim.holds_of_wide 3 Tryz.f3 rfl rfl rfl rfl rfl rfl rfl ⟨rfl,rfl,rfl,rfl,rfl⟩ rfl rfl rfl rfl rfl (by kernel_rfl) Tryz.func3 (by kernel_rfl)
  (of_decide_eq_true (by kernel_rfl)) (by unfold Func.isWrapper; first | (rw [if_pos (by decide +kernel)]; kernel_rfl) | (rw [if_neg (by decide +kernel)]; exact ⟨rfl,rfl⟩))
  (fun os started H enc _ => lifted os started H enc)
theorem proved : Rows.NearRoundsCardSaid :=
 Claim7.holds_tied_plain_at .later [] [.data,.data] true Rows.nearRoundsCard.stood.harness false
  over (fun _ h => by cases h) (by kernel_rfl) (fun _ h => by cases h) nearRounds_row_tie rfl ⟨rfl,rfl⟩ (by kernel_rfl) rfl
  (fun f fn hf hfn => by
   obtain rfl : f = 3 := Option.some.inj ((show Tryz.prog.funcNamed "numeral/numerallaw06.NearRounds" = some 3 by kernel_rfl).symm.trans hf) |>.symm
   obtain rfl : fn = Tryz.f3 := (Option.some.inj (Tryz.func3.symm.trans hfn)).symm
   exact ⟨by kernel_rfl,fun j t ht => by
    rw [Tryz.params3] at ht
    rcases j with _ | _ | _ | _ | j
    ·obtain rfl : 23 = t := by simpa using ht
     exact (show Tryz.prog.wantsStandIn 23 = false by kernel_rfl)
    ·obtain rfl : 24 = t := by simpa using ht
     exact (show Tryz.prog.wantsStandIn 24 = false by kernel_rfl)
    ·obtain rfl : 5 = t := by simpa using ht
     exact (show Tryz.prog.wantsStandIn 5 = false by kernel_rfl)
    ·obtain rfl : 29 = t := by simpa using ht
     exact (show Tryz.prog.wantsStandIn 29 = false by kernel_rfl)
    ·simp at ht⟩)
  (by kernel_rfl)
#print axioms proved
end Go.Proofs.YtaidedkpfnidpaaGreatDoor.nearRounds
