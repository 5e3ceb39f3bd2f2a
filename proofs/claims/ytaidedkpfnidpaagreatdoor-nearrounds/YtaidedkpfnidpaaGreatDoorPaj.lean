/- Of what NearRoundsRow stands on: StRows. -/
import Derived.Test.YtaidedkpfnidpaaGreatDoorPah
import Derived.Maps.AppendAt
import Derived.Laws.OwnMore
import Derived.ArgAppend
import Derived.Deep.Upon
namespace Go.Proofs.YtaidedkpfnidpaaGreatDoor
open Go.RowKit
def fl(i n:Nat):List Nat:=(List.range n).map (fun k=>1000*i+k%1000)
def tl(i n:Nat):List Nat:=(List.range n).map (fun k=>900000+1000*i+k)
theorem Own.lt{w:World}{base:Nat}{v:Value}{xs:List Nat}(h:Own w base v xs):∀k,v.ownBlock=some k→base≤k∧k<w.heap.size:=by
 rintro k hk;rcases h with ⟨rfl,_⟩|⟨g,cap,cur,rfl,hg,hh,_⟩
 ·cases hk
 ·simp only [Value.ownBlock] at hk;injection hk with hk
  subst hk;refine ⟨hg,?_⟩;by_cases hlt:g<w.heap.size
  ·exact hlt
  ·rw [Array.getElem?_eq_none (by omega)] at hh;cases hh
theorem Own.type{w:World}{base:Nat}{v:Value}{xs:List Nat}(h:Own w base v xs):∀k,v.ownBlock=some k→∃cur,w.heap[k]? = some (.cells cur 42 (0,0)):=by
 rintro k hk;rcases h with ⟨rfl,_⟩|⟨g,cap,cur,rfl,hg,hh,_⟩
 ·cases hk
 ·simp only [Value.ownBlock] at hk;injection hk with hk
  subst hk;exact ⟨cur,hh⟩
theorem Own.len{w:World}{base:Nat}{a:Option Addr}{n c:Nat}{xs:List Nat}(h:Own w base (.slice a n c) xs):xs.length=n:=by
 rcases h with ⟨e,rfl⟩|⟨g,cap,cur,e,_⟩
 ·injection e with _ e2 _;subst e2;rfl
 ·injection e with _ e2 _;exact e2.symm
theorem Own.room{w:World}{base:Nat}{a:Option Addr}{n c:Nat}{xs:List Nat}(h:Own w base (.slice a n c) xs):n≤c∧c≤9223372036854775807:=by
 rcases h with ⟨e,rfl⟩|⟨g,cap,cur,e,_,_,h1,_,h3,_⟩
 ·injection e with _ e2 e3;omega
 ·injection e with _ e2 e3;omega
theorem Own.slice{w:World}{base:Nat}{v:Value}{xs:List Nat}(h:Own w base v xs):∃a n c,v = .slice a n c:=by
 rcases h with ⟨e,rfl⟩|⟨g,cap,cur,e,_⟩
 ·exact ⟨_,_,_,e⟩
 ·exact ⟨_,_,_,e⟩
theorem Own.put{w:World}{base b n c k z:Nat}{xs:List Nat}(h:Own w base (.slice (some ⟨b,0,none⟩) n c) xs)(hk:k<n):Own (w.setCell ⟨b,k,none⟩ (.int .u32 (z:Int))) base (.slice (some ⟨b,0,none⟩) n c) (xs.set k z):=by
 have hl:=h.len;rcases h with ⟨e,rfl⟩|⟨g,cap,cur,e,hg,hh,h1,h2,h3,hc⟩
 ·cases e
 ·injection e with e1 e2 e3
  injection e1 with e1
  injection e1 with e1
  subst e1 e3;refine Or.inr ⟨b,c,_,by rw [List.length_set,e2],hg,heap_setCell_same w b k _ _ _ hh,by rw [List.length_set];exact h1,by rw [Array.size_setIfInBounds];exact h2,h3,fun j hj=>?_⟩;rw [List.length_set] at hj;by_cases hjk:j=k
  ·subst hjk;rw [Array.getElem?_setIfInBounds_self_of_lt (by omega),List.getElem?_set_self hj];rfl
  ·rw [Array.getElem?_setIfInBounds_ne (by omega),List.getElem?_set_ne (by omega)];exact hc j hj
end Go.Proofs.YtaidedkpfnidpaaGreatDoor
