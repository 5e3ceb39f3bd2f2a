/- Of what ExactMakesRow stands on: Frame FrameS. -/
import Derived.Test.YtecmcjlgknfnlaaDoorPad
import Derived.Test.YtecmcjlgknfnlaaDoorPae
import Derived.ProofKit
import Derived.OpenShut
import Derived.ChangeOld
import Derived.ChangeSame
import Derived.ChangeSlices
import Derived.Below
import Derived.SizedLaws
namespace Go.Proofs.YtecmcjlgknfnlaaDoor
open Go.ChangeShapes Go.WideShapes Go.ChangeAt Go.RowKit
theorem toNat_list (zs : List Int) (h : ∀ n ∈ zs,(Lit.int .u32 n).wf = true) : ∀ (j : Nat),j < zs.length → (((zs.map Int.toNat)[j]?.getD 0 : Nat) : Int) = zs.getD j 0 ∧ (zs.map Int.toNat)[j]?.getD 0 < 4294967296 := by
 intro j hj
 have hm := h zs[j] (List.getElem_mem hj)
 simp [Lit.wf,IntKind.min,IntKind.max,IntKind.signed,IntKind.bits] at hm
 rw [List.getElem?_map,List.getElem?_eq_getElem hj,List.getD_eq_getElem?_getD,List.getElem?_eq_getElem hj]
 simp
 omega
end Go.Proofs.YtecmcjlgknfnlaaDoor
namespace Go.Proofs.YtecmcjlgknfnlaaDoor
open Go.ChangeShapes Go.WideShapes Go.ChangeAt Go.RowKit
def ArgS {H : Type} (W : World) (v : Value) (d : DataW H) : Prop := ∃ a n cap xs,v = .agg #[.slice a n cap] ∧ xs.length = n ∧ n ≤ cap ∧ Lim W a xs ∧ Pl.Wf xs ∧ (cap = 0 ∨ ∃ elems spare,d = .agg [.slice elems spare] ∧ elems.length + spare.length = cap)
set_option maxRecDepth 100000 in
theorem open_natS {H : Type} {enc : TypeId × Value → H} {W : World} {base : Nat} {v : Value} {d : DataW H} {p : List MemPlace}
  (hok : Value.okWide Tryd.prog W .any base 24 v) (h : DataW.Trod enc Tryd.prog W 0 (fun _ => true) true 24 v d p) : ArgS W v d := by
 obtain ⟨cs,rfl,hcs⟩ := okWide_struct Tryd.underlying24 hok
 obtain ⟨fuel,hf⟩ := h
 obtain ⟨y0,m,hx,hl,hy⟩ := trod_struct1 Tryd.underlying24 hf
 have hc1 : Tryd.prog.cellsOf 24 = 1 := by kernel_rfl
 have hc2 : Tryd.prog.cellsOf 22 = 1 := by kernel_rfl
 rw [hc1] at hcs
 obtain ⟨c0,rfl⟩ : ∃ c0,cs = #[c0] := by
  match cs,hcs with
  | ⟨[c]⟩,_ => exact ⟨c,rfl⟩
 have hy' : DataW.trod enc Tryd.prog W 0 (fun _ => true) true m 22 [c0] = some y0 := by
  rw [hc2] at hy
  simpa [Value.cells] using hy
 have hd : d = .agg [y0.1] := by injection hx
 rcases open_ints Tryd.underlying22 Tryd.underlying48 (by kernel_rfl) hy' with ⟨hcs,_⟩ | ⟨x,l,c,zs,hcs,_,hlc,hm,hz,hyd,hcell,hwz⟩
 ·simp at hcs
  subst hcs
  exact ⟨none,0,0,[],rfl,rfl,Nat.le_refl _,Or.inl rfl,Pl.wf_nil,Or.inl rfl⟩
 ·simp at hcs
  subst hcs
  have hz' : zs.length = c := by simpa using hz
  have ht := toNat_list zs hwz
  have hlen : ((zs.map Int.toNat).take l).length = l := by rw [List.length_take,List.length_map]; omega
  refine ⟨some x,l,c,(zs.map Int.toNat).take l,rfl,hlen,hlc,?_,?_,Or.inr ⟨lits .u32 (zs.take l),lits .u32 (zs.drop l),by rw [hd,hyd],?_⟩⟩
  ·by_cases h0 : l = 0
   ·left; rw [h0]; rfl
   ·right
    obtain ⟨b,off,spot⟩ := x
    have h00 := hcell 0 (by omega)
    have hspot : spot = none := by simpa [Addr.add] using World.cell?_spot h00
    subst hspot
    refine ⟨b,off,rfl,fun j hj => ?_⟩
    rw [hlen] at hj
    have hj2 := hcell j (by omega)
    rw [Addr.add_lit] at hj2
    rw [hj2,List.getElem?_take,if_pos hj,(ht j (by omega)).1]
  ·intro y hy
   have hy2 := List.mem_of_mem_take hy
   obtain ⟨i,hi,rfl⟩ := List.getElem_of_mem hy2
   have := (ht i (by simpa using hi)).2
   rw [List.getElem?_eq_getElem hi] at this
   simpa using this
  ·simp [lits]; omega
theorem Tryd.bytes_limb : Tryd.prog.bytesOf 48 = 4 := by kernel_rfl
set_option maxRecDepth 100000 in
theorem reach_nat {H : Type} {ts : List TypeId} {ds : List (DataW H)} (hsz : (DataW.weightsEach Tryd.prog ts ds).all (· ≤ reachBytes) = true) {j : Nat} {d : DataW H} (ht : ts[j]? = some 24) (hd : ds[j]? = some d) {elems spare : List (DataW H)} (h : d = .agg [.slice elems spare]) :
  (elems.length + spare.length) * 4 ≤ 140737488351232 := by
 subst h
 have := List.all_eq_true.1 hsz _ (DataW.weights_mem_each ht hd ((elems.length + spare.length) * Tryd.prog.bytesOf 48) (by simp [DataW.weights,DataW.weightsEach,Tryd.underlying24,Tryd.underlying22]))
 rw [Tryd.bytes_limb] at this
 simp only [reachBytes] at this
 exact of_decide_eq_true this
end Go.Proofs.YtecmcjlgknfnlaaDoor
