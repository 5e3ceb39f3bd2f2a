/- An argument of the type api.Nat, opened with its capacity and its reach. -/
import Derived.Test.YtkpbgjgebjcfeaaFrame
import Derived.SizedLaws
namespace Go.Proofs.Ytkpbgjgebjcfeaa
open Go.ChangeShapes Go.WideShapes Go.ChangeAt Go.RowKit

/-- What a call is told of an argument of the type api.Nat and of its datum. -/
def ArgS {H : Type} (W : World) (v : Value) (d : DataW H) : Prop := ∃ a n cap xs, v = .agg #[.slice a n cap] ∧ xs.length = n ∧ n ≤ cap ∧ Lim W a xs ∧ Pl.Wf xs ∧ (cap = 0 ∨ ∃ elems spare, d = .agg [.slice elems spare] ∧ elems.length + spare.length = cap)

theorem open_natS {H : Type} {enc : TypeId × Value → H} {W : World} {base : Nat} {v : Value} {d : DataW H} {p : List MemPlace}
    (hok : Value.okWide Try.prog W .any base 24 v) (h : DataW.Trod enc Try.prog W 0 (fun _ => true) true 24 v d p) : ArgS W v d := by
  obtain ⟨cs, rfl, hcs⟩ := okWide_struct Try.underlying24 hok
  obtain ⟨fuel, hf⟩ := h
  obtain ⟨y0, m, hx, hl, hy⟩ := trod_struct1 Try.underlying24 hf
  have hc1 : Try.prog.cellsOf 24 = 1 := by kernel_rfl
  have hc2 : Try.prog.cellsOf 22 = 1 := by kernel_rfl
  rw [hc1] at hcs
  obtain ⟨c0, rfl⟩ : ∃ c0, cs = #[c0] := by
    match cs, hcs with
    | ⟨[c]⟩, _ => exact ⟨c, rfl⟩
  have hy' : DataW.trod enc Try.prog W 0 (fun _ => true) true m 22 [c0] = some y0 := by
    rw [hc2] at hy
    simpa [Value.cells] using hy
  have hd : d = .agg [y0.1] := by injection hx
  rcases open_ints Try.underlying22 Try.underlying28 (by kernel_rfl) hy' with ⟨hcs, _⟩ | ⟨x, l, c, zs, hcs, _, hlc, hm, hz, hyd, hcell, hwz⟩
  · simp at hcs
    subst hcs
    exact ⟨none, 0, 0, [], rfl, rfl, Nat.le_refl _, Or.inl rfl, Pl.wf_nil, Or.inl rfl⟩
  · simp at hcs
    subst hcs
    have hz' : zs.length = c := by simpa using hz
    have ht := toNat_list zs hwz
    have hlen : ((zs.map Int.toNat).take l).length = l := by rw [List.length_take, List.length_map]; omega
    refine ⟨some x, l, c, (zs.map Int.toNat).take l, rfl, hlen, hlc, ?_, ?_, Or.inr ⟨lits .u32 (zs.take l), lits .u32 (zs.drop l), by rw [hd, hyd], ?_⟩⟩
    · by_cases h0 : l = 0
      · left; rw [h0]; rfl
      · right
        obtain ⟨b, off, spot⟩ := x
        have h00 := hcell 0 (by omega)
        have hspot : spot = none := by simpa [Addr.add] using World.cell?_spot h00
        subst hspot
        refine ⟨b, off, rfl, fun j hj => ?_⟩
        rw [hlen] at hj
        have hj2 := hcell j (by omega)
        rw [Addr.add_lit] at hj2
        rw [hj2, List.getElem?_take, if_pos hj, (ht j (by omega)).1]
    · intro y hy
      have hy2 := List.mem_of_mem_take hy
      obtain ⟨i, hi, rfl⟩ := List.getElem_of_mem hy2
      have := (ht i (by simpa using hi)).2
      rw [List.getElem?_eq_getElem hi] at this
      simpa using this
    · simp [lits]; omega

theorem Try.bytes_limb : Try.prog.bytesOf 28 = 4 := by kernel_rfl
/-- The form's own reach. -/
theorem reach_nat {H : Type} {ts : List TypeId} {ds : List (DataW H)} (hsz : (DataW.weightsEach Try.prog ts ds).all (· ≤ reachBytes) = true) {j : Nat} {d : DataW H} (ht : ts[j]? = some 24) (hd : ds[j]? = some d) {elems spare : List (DataW H)} (h : d = .agg [.slice elems spare]) :
    (elems.length + spare.length) * 4 ≤ 140737488351232 := by
  subst h
  have := List.all_eq_true.1 hsz _ (DataW.weights_mem_each ht hd ((elems.length + spare.length) * Try.prog.bytesOf 28) (by simp [DataW.weights, DataW.weightsEach, Try.underlying24, Try.underlying22]))
  rw [Try.bytes_limb] at this
  simp only [reachBytes] at this
  exact of_decide_eq_true this

end Go.Proofs.Ytkpbgjgebjcfeaa
