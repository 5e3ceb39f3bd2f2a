/- For every two values of the type numerallaw02.Raw, every uint32 and every int the call numerallaw02.RatioBack returns true and leaves all memory that was there as it was: the given statement RatioBackSaid. -/
import Derived.Test.YtcfccblpcngeaaaGreatRows
import Derived.Test.YtcfccblpcngeaaaGreatPaf
import Derived.Test.YtcfccblpcngeaaaGreatPbq
import Derived.Deep.Strs
namespace Go.Proofs.YtcfccblpcngeaaaGreat.ratioBack
open Go.ChangeShapes Go.WideShapes Go.ChangeAt Go.RowKit
set_option maxRecDepth 100000 in
theorem sarg_ints {H : Type} {enc : TypeId × Value → H} {W : World} {m : Nat} {c0 : Value} {y0 : DataW H × List MemPlace}
  (hy : DataW.trod enc Tryz.prog W 0 (fun _ => true) true m 22 [c0] = some y0) : ∃ a n cap xs,c0 = .slice a n cap ∧ SArg W a n cap xs := by
 rcases open_ints Tryz.underlying22 Tryz.underlying25 (by kernel_rfl) hy with ⟨hcs,_⟩ | ⟨x,l,c,zs,hcs,_,hlc,hm,hz,_,hcell,hwz⟩
 ·simp at hcs
  subst hcs
  exact ⟨none,0,0,[],rfl,Or.inl ⟨rfl,rfl,rfl,rfl⟩⟩
 ·simp at hcs
  subst hcs
  have hz' : zs.length = c := by simpa using hz
  have ht := toNat_list zs hwz
  have hlen : ((zs.map Int.toNat).take l).length = l := by rw [List.length_take,List.length_map]; omega
  refine ⟨some x,l,c,(zs.map Int.toNat).take l,rfl,Or.inr ⟨x,rfl,hlen,hlc,by unfold maxLen at hm; omega,?_,?_⟩⟩
  ·by_cases h0 : l = 0
   ·left; rw [h0]; rfl
   ·right
    obtain ⟨b,off,spot⟩ := x
    have h00 := hcell 0 (by omega)
    have hspot : spot = none := by simpa [Addr.add] using World.cell?_spot h00
    subst hspot
    refine ⟨b,off,rfl,fun j hj => ?_⟩
    rw [hlen] at hj
    have hj2 := hcell j (by omega)
    rw [Addr.add_lit] at hj2
    rw [hj2,List.getElem?_take,if_pos hj,(ht j (by omega)).1]
  ·intro y hy
   have hy2 := List.mem_of_mem_take hy
   obtain ⟨i,hi,rfl⟩ := List.getElem_of_mem hy2
   have := (ht i (by simpa using hi)).2
   rw [List.getElem?_eq_getElem hi] at this
   simpa using this
set_option maxRecDepth 100000 in
theorem open_raw {H : Type} {enc : TypeId × Value → H} {W : World} {base : Nat} {v : Value} {d : DataW H} {p : List MemPlace}
  (hok : Value.okWide Tryz.prog W .any base 24 v) (h : DataW.Trod enc Tryz.prog W 0 (fun _ => true) true 24 v d p) :
  ∃ s a n cap xs a' n' cap' ys,v = .agg #[.bool s,.slice a n cap,.slice a' n' cap'] ∧ SArg W a n cap xs ∧ SArg W a' n' cap' ys := by
 obtain ⟨cs,rfl,hcs⟩ := okWide_struct Tryz.underlying24 hok
 obtain ⟨fuel,hf⟩ := h
 obtain ⟨y0,y1,y2,m,_,hl,h0,h1,h2⟩ := Go.Deep.trod_struct3 Tryz.underlying24 hf
 have hc1 : Tryz.prog.cellsOf 24 = 3 := by kernel_rfl
 have hc2 : Tryz.prog.cellsOf 22 = 1 := by kernel_rfl
 have hc3 : Tryz.prog.cellsOf 4 = 1 := by kernel_rfl
 rw [hc1] at hcs
 obtain ⟨c0,c1,c2,rfl⟩ : ∃ c0 c1 c2,cs = #[c0,c1,c2] := by
  match cs,hcs with
  | ⟨[a,b,c]⟩,_ => exact ⟨a,b,c,rfl⟩
 rw [hc3] at h0
 rw [hc2] at h1 h2
 obtain ⟨n0,e0,_⟩ := DataW.trod_bool Tryz.underlying4 h0
 simp [Value.cells] at e0
 obtain ⟨a,n,cap,xs,ea,sa⟩ := sarg_ints (c0 := c1) (by simpa [Value.cells] using h1)
 obtain ⟨a',n',cap',ys,eb,sb⟩ := sarg_ints (c0 := c2) (by simpa [Value.cells] using h2)
 exact ⟨n0,a,n,cap,xs,a',n',cap',ys,by rw [e0,ea,eb],sa,sb⟩
set_option maxRecDepth 100000 in
theorem lifted (os : Go.Os) (started : os.Started) (H : Type) (enc : TypeId × Value → H) :
  ReturnsInHanded {} Tryz.checked os 3 .any (Rows.ratioBackSpec.pre6 enc Tryz.prog Tryz.f3 Rows.ratioBackRow.domain false) (Rows.ratioBackSpec.post enc Tryz.prog Tryz.f3 false true false false) := by
 refine returnsInHanded_of_change_sized (C := Tryz.checked) own_knob started (by kernel_rfl) Tryz.func3
  (ChangeSpec.witness6 (enc := enc) (C := Tryz.checked) false ⟨#[],#[.agg #[.bool false,.slice none 0 0,.slice none 0 0],.agg #[.bool false,.slice none 0 0,.slice none 0 0],.int .u32 0,.int .i64 0],[]⟩ 8 (by kernel_rfl) (by kernel_rfl) (by kernel_rfl) (by kernel_rfl)) ?_
 intro W base args ds gs before hval0 hW hcnd hsz0 _
 have hval : ∀ (j : Nat) t v,Tryz.f3.params[j]? = some t → args[j]? = some v → Value.okWide Tryz.prog W .any base t v := hval0
 have hW' := hW
 obtain ⟨p,q,hA0,hV,rfl,hfz,hnd⟩ := hW
 have hA : DataW.TrodAll enc Tryz.prog W 0 (fun _ => true) true Tryz.f3.params.toList args.toList ds p := hA0
 rw [Tryz.params3] at hA hval
 obtain ⟨v0,vs0,d0,ds0,p0,q0,hargs,rfl,rfl,h0,r0⟩ := trodAll_cons hA
 obtain ⟨v1,vs1,d1,ds1,p1,q1,rfl,rfl,rfl,h1,r1⟩ := trodAll_cons r0
 obtain ⟨v2,vs2,d2,ds2,p2,q2,rfl,rfl,rfl,h2,r2⟩ := trodAll_cons r1
 obtain ⟨v3,vs3,d3,ds3,p3,q3,rfl,rfl,rfl,h3,r3⟩ := trodAll_cons r2
 obtain ⟨rfl,rfl,rfl⟩ := trodAll_nil r3
 obtain rfl : args = #[v0,v1,v2,v3] := by cases args; simp_all
 obtain ⟨rfl,rfl⟩ := trodVars_none hV
 have lt0 : ∀ x ∈ p0,x.block < W.heap.size := by obtain ⟨m,hm⟩ := h0; exact DataW.trod_lt m _ _ _ hm
 have lt1 : ∀ x ∈ p1,x.block < W.heap.size := by obtain ⟨m,hm⟩ := h1; exact DataW.trod_lt m _ _ _ hm
 obtain ⟨s0,a0,n0,c0,xs0,b0,m0,e0,ys0,rfl,A0,B0⟩ := open_raw (hval 0 24 v0 rfl rfl) h0
 obtain ⟨s1,a1,n1,c1,xs1,b1,m1,e1,ys1,rfl,A1,B1⟩ := open_raw (hval 1 24 v1 rfl rfl) h1
 obtain ⟨z2,rfl,rfl,rfl,w2⟩ := open_int Tryz.underlying25 (hval 2 25 v2 rfl rfl) h2
 obtain ⟨z3,rfl,rfl,rfl,w3⟩ := open_int Tryz.underlying3 (hval 3 3 v3 rfl rfl) h3
 obtain ⟨b,rfl,hb⟩ : ∃ b : Nat,z2 = (b : Int) ∧ b < 4294967296 := by
  have := w2
  simp [Lit.wf,IntKind.min,IntKind.max,IntKind.signed,IntKind.bits] at this
  exact ⟨z2.toNat,by omega,by omega⟩
 clear hA0 hval0
 refine (ratioBack_any s0 s1 a0 b0 a1 b1 n0 m0 n1 m1 c0 e0 c1 e1 xs0 ys0 xs1 ys1 b z3 W A0 B0 A1 B1 hb).mono fun e W' ⟨he,bel⟩ => ?_
 subst he
 exact ⟨_,rfl,_,_,_,[],_,[],hW',trodAll_mk1 (shut_bool Tryz.underlying4 _),
  (trodAll_cons_mk (Below.trod laidOut (by kernel_rfl) (of_decide_eq_true (by kernel_rfl)) h0 bel lt0) (trodAll_cons_mk (Below.trod laidOut (by kernel_rfl) (of_decide_eq_true (by kernel_rfl)) h1 bel lt1) (trodAll_cons_mk (shut_int Tryz.underlying25 w2) (trodAll_cons_mk (shut_int Tryz.underlying3 w3) trodAll_mk0)))),rfl,bel.frame _,fun h => by cases h⟩
set_option maxRecDepth 100000 in
theorem over : Rows.ratioBackRow.holds Tryz.pinned (OpenSpec.ofChange Rows.ratioBackSpec) :=
 OpenClaim.holds_of_wide 3 Tryz.f3 rfl rfl rfl rfl rfl rfl rfl ⟨rfl,rfl,rfl,rfl,rfl⟩ rfl rfl rfl rfl rfl (by kernel_rfl) Tryz.func3 (by kernel_rfl)
  (of_decide_eq_true (by kernel_rfl)) (by unfold Func.isWrapper; first | (rw [if_pos (by decide +kernel)]; kernel_rfl) | (rw [if_neg (by decide +kernel)]; exact ⟨rfl,rfl⟩))
  (fun os started H enc _ => lifted os started H enc)
theorem proved : Rows.RatioBackSaid := over
#print axioms proved
end Go.Proofs.YtcfccblpcngeaaaGreat.ratioBack
