/- Of what RFieldRow stands on: RegInv. -/
import Derived.RegionTactic
namespace Go.Proofs.YtdfjbcdaccaooaaGreat
theorem count_zero {l : List Bool} (h : l.count false = 0) (i : Nat) : l[i]?.getD true = true := by
 cases hi : l[i]? with
 | none => rfl
 | some b =>
  cases b with
  | true => rfl
  | false => exact absurd (List.mem_of_getElem? hi) (List.count_eq_zero.1 h)
theorem wpAny_inv {P : Program} {ops : Array Oper} {Q : Exit → Act → World → Prop} (Inv : Array Bool → Act → World → Prop)
  (hstep : ∀ l a w i,Inv l a w → i ∈ Region.ready .any ops l → l[i]? = some false → wpOp P ops Q i (Inv (l.setIfInBounds i true)) a w)
  (hdone : ∀ l a w,Inv l a w → Region.ready .any ops l = [] → Q .normal a w) :
  ∀ (fuel : Nat) (l : Array Bool) (a : Act) (w : World),l.toList.count false ≤ fuel → Inv l a w → wpAny P .any ops Q fuel l a w := by
 intro fuel
 induction fuel with
 | zero =>
  intro l a w hc hi
  have hr : Region.ready .any ops l = [] := by
   unfold Region.ready
   rw [List.filter_eq_nil_iff]
   intro i _
   have h0 := count_zero (Nat.le_zero.1 hc) i
   have : l.getD i true = true := by
    rw [Array.getD_eq_getD_getElem?,← Array.getElem?_toList]; exact h0
   rw [this]; simp
  exact ⟨hr,hdone l a w hi hr⟩
 | succ fuel ih =>
  intro l a w hc hi
  refine ⟨fun hr => hdone l a w hi hr,fun i hir => ?_⟩
  have hl : l[i]? = some false := by
   unfold Region.ready at hir
   rw [List.mem_filter] at hir
   have h2 := hir.2
   simp only [Bool.and_eq_true,Bool.not_eq_true'] at h2
   have h3 := h2.1
   rw [Array.getD_eq_getD_getElem?] at h3
   cases hx : l[i]? with
   | none => rw [hx] at h3; cases h3
   | some b => rw [hx] at h3; simp at h3; rw [h3]
  refine wpOp_mono (fun a' w' h => ih _ a' w' ?_ h) (hstep l a w i hi hir hl)
  obtain ⟨hlt,he⟩ := Array.getElem?_eq_some_iff.1 hl
  rw [Array.toList_setIfInBounds,List.count_set (by simpa using hlt)]
  have he2 : l.toList[i]'(by simpa using hlt) = false := by simpa using he
  rw [he2]
  have hpos : 0 < l.toList.count false := List.count_pos_iff.2 (by rw [← he2]; exact List.getElem_mem _)
  rw [if_pos (by rfl),if_neg (by decide)]
  omega
theorem ready_nil {ops : Array Oper} {l : Array Bool} {i : Nat} {o : Oper} (hr : Region.ready .any ops l = []) (ho : ops[i]? = some o) (hd : ∀ e ∈ o.after,Region.binds .any e = true → l.getD e.on false = true) : l.getD i true = true := by
 cases h : l.getD i true with
 | true => rfl
 | false =>
  have hm : i ∈ Region.ready .any ops l := mem_ready.2 ⟨h,o,ho,hd⟩
  rw [hr] at hm
  cases hm
end Go.Proofs.YtdfjbcdaccaooaaGreat
