/- Of what PowerNoneRow stands on: Divide Lessen RefPow. -/
import Derived.Test.YteblliofeaahmaaDoorPak
import Derived.Test.YteblliofeaahmaaDoorPaj
import Derived.Test.YteblliofeaahmaaDoorPaf
import Derived.Test.YteblliofeaahmaaDoorPaq
import Derived.Test.YteblliofeaahmaaDoorPal
namespace Go.Proofs.YteblliofeaahmaaDoor
open Go.RowKit
theorem Mine.row {w:World} {base n c m:Nat} {a:Option Addr} (h:Mine w base a n c m) (hp:0 < n) :
  ∃ g xs,a = some ⟨g,0,none⟩∧base≤g∧g < w.heap.size∧xs.length = n∧Row w g xs∧Pl.Wf xs∧Pl.Norm xs∧Pl.val xs = m∧n≤c∧c≤9223372036854775807∧n≤16384:=by
 have hcap:=h.cap
 obtain ⟨xs,hn,ho,hw,hN,hv,hb⟩:=h
 rcases ho with ⟨e,_⟩|⟨g,cap,cur,e,hg,hh,h1,h2,h3,hc⟩
 ·injection e with e1 e2 e3; omega
 ·injection e with e1 e2 e3
  have hcur:cur = lc xs ++ (cur.toList.drop n).toArray:=by
   apply Array.toList_inj.1
   rw [Array.toList_append]
   simp only [lc]
   have ht:cur.toList.take n = xs.map (fun z:Nat=>Value.int .u32 (z:Int)):=by
    apply List.ext_getElem
    ·simp; omega
    ·intro i h4 h5
     have hi:i < xs.length:=by simpa using h5
     have:=hc i hi
     rw [List.getElem?_eq_getElem hi,Option.getD_some] at this
     rw [List.getElem_take,List.getElem_map]
     have h6:i < cur.size:=by omega
     rw [Array.getElem?_eq_getElem h6] at this
     injection this with this
   rw [← ht,List.take_append_drop]
  have hlt:g < w.heap.size:=by
   by_cases hlt:g < w.heap.size
   ·exact hlt
   ·rw [Array.getElem?_eq_none (by omega)] at hh; cases hh
  exact ⟨g,xs,e1,hg,hlt,hn,⟨_,by rw [← hcur]; exact hh⟩,hw,hN,hv,hcap.1,hcap.2,hb⟩
theorem Mine.block {w:World} {base n c m g:Nat} {a:Option Addr} (h:Mine w base a n c m) (ha:a = some ⟨g,0,none⟩):base≤g:=by
 obtain ⟨xs,hn,ho,_⟩:=h
 rcases ho with ⟨e,_⟩|⟨g',cap,cur,e,hg,_⟩
 ·injection e with e1 e2 e3; rw [ha] at e1; cases e1
 ·injection e with e1 e2 e3
  rw [ha] at e1
  injection e1 with e1
  injection e1 with e1
  omega
end Go.Proofs.YteblliofeaahmaaDoor
