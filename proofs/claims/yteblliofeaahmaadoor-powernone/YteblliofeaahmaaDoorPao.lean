/- Of what PowerNoneRow stands on: RefTrim PutGroup. -/
import Derived.Test.YteblliofeaahmaaDoorProg
import Derived.WalkKit
import Derived.WalkSpells
import Derived.WalkLawsBesides
import Derived.Test.YteblliofeaahmaaDoorPae
import Derived.Test.YteblliofeaahmaaDoorPaf
namespace Go.Proofs.YteblliofeaahmaaDoor
open Go.RowKit
set_option maxHeartbeats 400000
theorem rtrim_any (b off cap:Nat) (xs:List Nat) (w:World) (hlen:xs.length≤cap) (hcap:cap≤9223372036854775807)
  (hc:∀ j,j < xs.length→w.cell? ⟨b,off+j,none⟩ = some (.int .u32 ((xs[j]?.getD 0:Nat):Int))) :
  Calls Tryd.prog 52 #[.slice (some ⟨b,off,none⟩) xs.length cap] w fun e w'=>w = w'∧∃ n,n≤xs.length∧(∀ j,n≤j→j < xs.length→xs[j]?.getD 0 = 0)∧(n = 0∨xs[n - 1]?.getD 0≠0)∧e = .returned (.slice (some ⟨b,off,none⟩) n cap):=by
 go_enter Tryd.func52,Tryd.ntmps52
 go_wp2
 go_loop [3] (fun t=>∃ k:Nat,k≤xs.length∧t = .int .i64 k∧∀ j,k≤j→j < xs.length→xs[j]?.getD 0 = 0) (fun t=>(intOf t).toNat)
 case atStart=>exact ⟨xs.length,Nat.le_refl _,rfl,fun j h1 h2=>by omega⟩
 case round=>
  obtain ⟨k,hk,rfl,hz⟩:=hrel
  have HZ:Hid (∀ j,k≤j→j < xs.length→xs[j]?.getD 0 = 0):=hz
  clear hz
  have hcell:0 < k→w.cell? ⟨b,off+(k - 1),none⟩ = some (.int .u32 ((xs[k - 1]?.getD 0:Nat):Int)):=fun _=>hc _ (by omega)
  go_wp2
  ·have hlt:0 < k:=by assumption
   have hb:(((xs[k - 1]?.getD 0:Nat):Int) == 0) = true:=by assumption
   go_round
   case rel=>
    refine ⟨k - 1,by omega,by go_num,fun j h1 h2=>?_⟩
    by_cases e:j = k - 1
    ·subst e; simpa using hb
    ·exact HZ.out j (by omega) h2
   case measure=>simp [intOf]; omega
  ·have hb:(((xs[k - 1]?.getD 0:Nat):Int) == 0) = false:=by assumption
   go_ret
   exact ⟨rfl,k,hk,HZ.out,Or.inr (by simpa using hb),rfl⟩
  ·have hz:k = 0:=by omega
   go_ret
   exact ⟨rfl,k,hk,HZ.out,Or.inl hz,rfl⟩
theorem rtrim_at (b off n cap:Nat) (xs:List Nat) (w:World) (hn:xs.length = n) (hlen:n≤cap) (hcap:cap≤9223372036854775807)
  (hc:∀ j,j < xs.length→w.cell? ⟨b,off+j,none⟩ = some (.int .u32 ((xs[j]?.getD 0:Nat):Int))) :
  Calls Tryd.prog 52 #[.slice (some ⟨b,off,none⟩) n cap] w fun e w'=>w = w'∧∃ n,n≤xs.length∧(∀ j,n≤j→j < xs.length→xs[j]?.getD 0 = 0)∧(n = 0∨xs[n - 1]?.getD 0≠0)∧e = .returned (.slice (some ⟨b,off,none⟩) n cap):=by
 subst hn
 exact rtrim_any b off cap xs w hlen hcap hc
theorem rtrim_empty (a:Option Addr) (cap:Nat) (w:World) :
  Calls Tryd.prog 52 #[.slice a 0 cap] w fun e w'=>w = w'∧e = .returned (.slice a 0 cap):=by
 go_enter Tryd.func52,Tryd.ntmps52
 go_wp2
 refine wp_loop_rounds 1 ?_
 rw [rounds_succ]
 go_wp2
 go_ret
 exact ⟨rfl,rfl⟩
def Room (w:World) (g:Nat) (xs:List Nat) (c:Nat):Prop:=∃ tl:Array Value,w.heap[g]? = some (.cells (lc xs ++ tl) 42 (0,0))∧xs.length+tl.size = c∧c≤9223372036854775807
theorem Room.row {w:World} {g c:Nat} {xs:List Nat} (h:Room w g xs c):Row w g xs:=by
 obtain ⟨tl,h,_⟩:=h
 exact ⟨tl,h⟩
theorem Room.len {w:World} {g c:Nat} {xs:List Nat} (h:Room w g xs c):xs.length≤c∧c≤9223372036854775807:=by
 obtain ⟨tl,_,h1,h2⟩:=h
 omega
theorem Room.set {w:World} {g c:Nat} {xs:List Nat} (h:Room w g xs c) (j v:Nat) (hj:j < xs.length):Room (w.setCell ⟨g,j,none⟩ (.int .u32 (v:Int))) g (xs.set j v) c:=by
 obtain ⟨tl,h,h1,h2⟩:=h
 refine ⟨tl,?_,by rw [List.length_set]; exact h1,h2⟩
 rw [heap_setCell_same w g j _ _ _ h,Array.setIfInBounds_append_left (by rw [size_lc]; exact hj),lc_set]
end Go.Proofs.YteblliofeaahmaaDoor
