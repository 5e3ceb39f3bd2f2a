/- Of what QuickSureRow stands on: StRows RefShift RefPlus. -/
import Derived.Test.YtohjmjlfmloiaaaDoorPap
import Derived.Test.YtohjmjlfmloiaaaDoorPaq
import Derived.OwnWalk
import Derived.Test.YtohjmjlfmloiaaaDoorPaf
import Derived.Test.YtohjmjlfmloiaaaDoorPae
namespace Go.Proofs.YtohjmjlfmloiaaaDoor
open Go.RowKit
def tl (i n:Nat):List Nat:=(List.range n).map (fun k=>900000+1000 * i+k)
def ApartV (v u:Value):Prop:=∀ k,v.ownBlock = some k→u.ownBlock≠some k
theorem ApartV.symm {v u:Value} (h:ApartV v u):ApartV u v:=fun k hu hv=>h k hv hu
theorem Own.lt {w:World} {base:Nat} {v:Value} {xs:List Nat} (h:Own w base v xs):∀ k,v.ownBlock = some k→base≤k∧k < w.heap.size:=by
 rintro k hk
 rcases h with ⟨rfl,_⟩|⟨g,cap,cur,rfl,hg,hh,_⟩
 ·cases hk
 ·simp only [Value.ownBlock] at hk
  injection hk with hk
  subst hk
  refine ⟨hg,?_⟩
  by_cases hlt:g < w.heap.size
  ·exact hlt
  ·rw [Array.getElem?_eq_none (by omega)] at hh; cases hh
theorem Own.type {w:World} {base:Nat} {v:Value} {xs:List Nat} (h:Own w base v xs):∀ k,v.ownBlock = some k→∃ cur,w.heap[k]? = some (.cells cur 37 (0,0)):=by
 rintro k hk
 rcases h with ⟨rfl,_⟩|⟨g,cap,cur,rfl,hg,hh,_⟩
 ·cases hk
 ·simp only [Value.ownBlock] at hk
  injection hk with hk
  subst hk
  exact ⟨cur,hh⟩
theorem Own.keep {w w':World} {base:Nat} {v:Value} {xs:List Nat} (h:Own w base v xs) (hk:∀ k,k < w.heap.size→v.ownBlock = some k→w'.heap[k]? = w.heap[k]?):Own w' base v xs:=by
 have hl:=h.lt
 rcases h with h|⟨g,cap,cur,rfl,hg,hh,r⟩
 ·exact Or.inl h
 ·exact Or.inr ⟨g,cap,cur,rfl,hg,by rw [hk g (hl g rfl).2 rfl]; exact hh,r⟩
theorem Own.len {w:World} {base:Nat} {a:Option Addr} {n c:Nat} {xs:List Nat} (h:Own w base (.slice a n c) xs):xs.length = n:=by
 rcases h with ⟨e,rfl⟩|⟨g,cap,cur,e,_⟩
 ·injection e with _ e2 _; subst e2; rfl
 ·injection e with _ e2 _; exact e2.symm
theorem Own.slice {w:World} {base:Nat} {v:Value} {xs:List Nat} (h:Own w base v xs):∃ a n c,v = .slice a n c:=by
 rcases h with ⟨e,rfl⟩|⟨g,cap,cur,e,_⟩
 ·exact ⟨_,_,_,e⟩
 ·exact ⟨_,_,_,e⟩
theorem Own.put {w:World} {base b n c k z:Nat} {xs:List Nat} (h:Own w base (.slice (some ⟨b,0,none⟩) n c) xs) (hk:k < n):Own (w.setCell ⟨b,k,none⟩ (.int .u32 (z:Int))) base (.slice (some ⟨b,0,none⟩) n c) (xs.set k z):=by
 have hl:=h.len
 rcases h with ⟨e,rfl⟩|⟨g,cap,cur,e,hg,hh,h1,h2,h3,hc⟩
 ·cases e
 ·injection e with e1 e2 e3
  injection e1 with e1
  injection e1 with e1
  subst e1 e3
  refine Or.inr ⟨b,c,_,by rw [List.length_set,e2],hg,heap_setCell_same w b k _ _ _ hh,by rw [List.length_set]; exact h1,by rw [Array.size_setIfInBounds]; exact h2,h3,fun j hj=>?_⟩
  rw [List.length_set] at hj
  by_cases hjk:j = k
  ·subst hjk
   rw [Array.getElem?_setIfInBounds_self_of_lt (by omega),List.getElem?_set_self hj]
   rfl
  ·rw [Array.getElem?_setIfInBounds_ne (by omega),List.getElem?_set_ne (by omega)]
   exact hc j hj
theorem row_type {w:World} {base n k:Nat} {t:TypeId} {v:Value} {xs:List Value} {cur:Array Value} {t':TypeId} (h:w.ownsRow base t 1 v n xs) (hk:v.ownBlock = some k) (hb:w.heap[k]? = some (.cells cur t' (0,0))) (ht:t'≠t):False:=by
 obtain ⟨h1,h2|⟨g,cap,cur',e,hg,hh,r⟩⟩:=h
 ·rw [h2.1] at hk; cases hk
 ·rw [e] at hk
  simp only [Value.ownBlock] at hk
  injection hk with hk
  subst hk
  rw [hh] at hb
  injection hb with hb
  injection hb with _ hb
  exact ht hb.symm
def Rd (W:World) (N g q:Nat) (A:Nat→Option Addr) (L C:Nat→Nat):Prop:=∀ i,i < N →
  ∃ b cb,W.cell? ⟨q,i,none⟩ = some (.slice (some ⟨b,0,none⟩) (L i+40) cb) ∧
   (∀ k,k < L i→W.cell? ⟨b,k,none⟩ = some (.int .u32 ((1000 * i+k % 1000:Nat):Int)))∧(∀ k,k < 40→W.cell? ⟨b,L i+k,none⟩ = some (.int .u32 ((900000+1000 * i+k:Nat):Int))) ∧
   W.cell? ⟨g,i,none⟩ = some (.slice (A i) (L i) (C i))∧(0 < L i→∃ d,A i = some ⟨d,0,none⟩∧∀ k,k < L i→W.cell? ⟨d,k,none⟩ = some (.int .u32 ((1000 * i+k % 1000:Nat):Int)))
theorem Rd.drewN {W:World} {N g q:Nat} {A:Nat→Option Addr} {L C:Nat→Nat} (h:Rd W N g q A L C) (k:Nat):Rd (W.drewN k) N g q A L C:=h
end Go.Proofs.YtohjmjlfmloiaaaDoor
