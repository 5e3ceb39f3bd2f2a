/- Of what RoundIntegerRow stands on: RefLow ExBits ExCmp ExCopy ExVal. -/
import Derived.Test.YtfjegmlpkiaifaaGreatDoorPao
import Derived.Test.YtfjegmlpkiaifaaGreatDoorPaj
import Derived.Deep.RegionWith
import Derived.Test.YtfjegmlpkiaifaaGreatDoorPab
import Derived.Test.YtfjegmlpkiaifaaGreatDoorPap
import Derived.Test.YtfjegmlpkiaifaaGreatDoorPas
import Derived.Test.YtfjegmlpkiaifaaGreatDoorPaf
namespace Go.Proofs.YtfjegmlpkiaifaaGreatDoor
open Go.RowKit
theorem bits_k (a:Option Addr) (n cap m k:Nat) (w:World) (h:Num w a n m) (hk:Bl m k) :
  Calls Tryz.prog 86 #[.agg #[.slice a n cap]] w fun e w'=>e = .returned (.tuple #[.int .i64 (k:Int),.int .i64 0])∧Below w.heap.size w w':=by
 refine (bits_any a n cap m w h).mono ?_
 rintro e w' ⟨⟨j,rfl,hj,_⟩,hb⟩
 obtain rfl:=hj.uniq hk
 exact ⟨rfl,hb⟩
theorem B_le {E F B:Nat} (h:Fo E F) (HB:Hid (B = 2 ^ (E - 1) - 1)):B≤1023:=by
 have h1:=pow_bound (show E - 1≤10 by have:=h.e11; omega)
 rw [unhide HB]; omega
theorem Fs.three (w:World) (cs:Array Value) (t:TypeId) (ds:Array Value) (u:TypeId) (es:Array Value) (v:TypeId) :
  Fs w (((w.alloc (.cells cs t)).alloc (.cells ds u)).alloc (.cells es v)) [⟨w.heap.size,cs,t⟩,⟨w.heap.size+1,ds,u⟩,⟨w.heap.size+2,es,v⟩]:=by
 have h:=(((Fs.begin w).alloc cs t).alloc ds u).alloc es v
 simp only [World.size_alloc,Nat.add_assoc] at h
 exact h.sub (by simp)
theorem setCell_still {W:World} {b j:Nat} {cs:Array Value} {t:TypeId} {u:Value} (hb:W.heap[b]? = some (.cells cs t (0,0))) (hc:cs[j]? = some u):W.setCell ⟨b,j,none⟩ u = W:=by
 have he:(W.setCell ⟨b,j,none⟩ u).heap = W.heap:=by
  apply Array.ext_getElem?
  intro k
  by_cases hk:k = b
  ·subst hk
   rw [heap_setCell_same W k j _ _ _ hb,hb]
   congr 2
   apply Array.ext_getElem?
   intro i
   by_cases hi:i = j
   ·subst hi
    obtain ⟨hlt,_⟩:=Array.getElem?_eq_some_iff.1 hc
    rw [hc]; simp [hlt]
   ·rw [Array.getElem?_setIfInBounds_ne (Ne.symm hi)]
  ·rw [heap_setCell_other W _ k u hk]
 have:W.setCell ⟨b,j,none⟩ u = { W with heap:=(W.setCell ⟨b,j,none⟩ u).heap }:=rfl
 rw [this,he]
theorem not_over {v n:Nat} (h:v < 2 ^ n) (hn:n≤524288):¬ Over v:=fun o=>by
 have h1:=o.le
 have h2:4294967296 ^ Pl.top = 2 ^ (32 * Pl.top):=by rw [Nat.pow_mul]
 rw [h2] at h1
 have h3:n≤32 * Pl.top:=by have:=Pl.top_eq; omega
 have h4:=Nat.pow_le_pow_right (show 0 < 2 by decide) h3
 exact absurd (Nat.lt_of_lt_of_le h h4) (Nat.not_lt.2 h1)
end Go.Proofs.YtfjegmlpkiaifaaGreatDoor
