/- An argument of the type api.Nat, opened: a slice of limbs in memory. -/
import Derived.Test.YtkpbgjgebjcfeaaVars
import Derived.ProofKit
import Derived.OpenShut
import Derived.ChangeOld
import Derived.ChangeSame
import Derived.ChangeSlices
import Derived.Below
namespace Go.Proofs.Ytkpbgjgebjcfeaa
open Go.ChangeShapes Go.WideShapes Go.ChangeAt Go.RowKit

theorem laidOut : laidOutB Try.prog = true := by kernel_rfl
theorem own_knob : ownKnob Try.prog.godebug = none := by kernel_rfl

/-- What a call is told of an argument of the type api.Nat. -/
def Arg (W : World) (v : Value) : Prop := ∃ a n cap xs, v = .agg #[.slice a n cap] ∧ xs.length = n ∧ n ≤ 9223372036854775807 ∧ Lim W a xs ∧ Pl.Wf xs

theorem toNat_list (zs : List Int) (h : ∀ n ∈ zs, (Lit.int .u32 n).wf = true) : ∀ (j : Nat), j < zs.length → (((zs.map Int.toNat)[j]?.getD 0 : Nat) : Int) = zs.getD j 0 ∧ (zs.map Int.toNat)[j]?.getD 0 < 4294967296 := by
  intro j hj
  have hm := h zs[j] (List.getElem_mem hj)
  simp [Lit.wf, IntKind.min, IntKind.max, IntKind.signed, IntKind.bits] at hm
  rw [List.getElem?_map, List.getElem?_eq_getElem hj, List.getD_eq_getElem?_getD, List.getElem?_eq_getElem hj]
  simp
  omega

theorem open_nat {H : Type} {enc : TypeId × Value → H} {W : World} {base : Nat} {v : Value} {d : DataW H} {p : List MemPlace}
    (hok : Value.okWide Try.prog W .any base 24 v) (h : DataW.Trod enc Try.prog W 0 (fun _ => true) true 24 v d p) : Arg W v := by
  obtain ⟨cs, rfl, hcs⟩ := okWide_struct Try.underlying24 hok
  obtain ⟨fuel, hf⟩ := h
  obtain ⟨y0, m, _, hl, hy⟩ := trod_struct1 Try.underlying24 hf
  have hc1 : Try.prog.cellsOf 24 = 1 := by kernel_rfl
  have hc2 : Try.prog.cellsOf 22 = 1 := by kernel_rfl
  rw [hc1] at hcs
  obtain ⟨c0, rfl⟩ : ∃ c0, cs = #[c0] := by
    match cs, hcs with
    | ⟨[c]⟩, _ => exact ⟨c, rfl⟩
  have hy' : DataW.trod enc Try.prog W 0 (fun _ => true) true m 22 [c0] = some y0 := by
    rw [hc2] at hy
    simpa [Value.cells] using hy
  rcases open_ints Try.underlying22 Try.underlying28 (by kernel_rfl) hy' with ⟨hcs, _⟩ | ⟨x, l, c, zs, hcs, _, hl, hm, hz, _, hcell, hwz⟩
  · simp at hcs
    subst hcs
    exact ⟨none, 0, 0, [], rfl, rfl, by omega, Or.inl rfl, Pl.wf_nil⟩
  · simp at hcs
    subst hcs
    have hz' : zs.length = c := by simpa using hz
    have ht := toNat_list zs hwz
    have hlen : ((zs.map Int.toNat).take l).length = l := by rw [List.length_take, List.length_map]; omega
    refine ⟨some x, l, c, (zs.map Int.toNat).take l, rfl, hlen, by unfold maxLen at hm; omega, ?_, ?_⟩
    · by_cases h0 : l = 0
      · left; rw [h0]; rfl
      · right
        obtain ⟨b, off, spot⟩ := x
        have h00 := hcell 0 (by omega)
        have hspot : spot = none := by simpa [Addr.add] using World.cell?_spot h00
        subst hspot
        refine ⟨b, off, rfl, fun j hj => ?_⟩
        rw [hlen] at hj
        have hj2 := hcell j (by omega)
        rw [Addr.add_lit] at hj2
        rw [hj2, List.getElem?_take, if_pos hj, (ht j (by omega)).1]
    · intro y hy
      have hy2 := List.mem_of_mem_take hy
      obtain ⟨i, hi, rfl⟩ := List.getElem_of_mem hy2
      have := (ht i (by simpa using hi)).2
      rw [List.getElem?_eq_getElem hi] at this
      simpa using this

end Go.Proofs.Ytkpbgjgebjcfeaa
