/- Of what DecShiftsRow stands on: RWork. -/
import Derived.Test.YtdbmdhfjmdlihaaDoorPbb
import Derived.Test.YtdbmdhfjmdlihaaDoorPao
import Derived.Test.YtdbmdhfjmdlihaaDoorPba
import Derived.Test.YtdbmdhfjmdlihaaDoorPbc
import Derived.Test.YtdbmdhfjmdlihaaDoorPap
import Derived.Test.YtdbmdhfjmdlihaaDoorPbd
namespace Go.Proofs.YtdbmdhfjmdlihaaDoor
open Go.RowKit
theorem But.trans {p:Nat} {a b c:World} (h:But p a b) (k:But p b c):But p a c:=
 ⟨k.os.trans h.os,k.tape.trans h.tape,k.output.trans h.output,Nat.le_trans h.size k.size,fun i hi hp=>(k.block i (Nat.lt_of_lt_of_le hi h.size) hp).trans (h.block i hi hp)⟩
theorem But.set {p:Nat} {w w':World} (h:But p w w') (j:Nat) (u:Value):But p w (w'.setCell ⟨p,j,none⟩ u):=
 ⟨h.os,h.tape,h.output,by simpa [World.setCell] using h.size,fun k hk hp=>(heap_setCell_other w' _ k u hp).trans (h.block k hk hp)⟩
theorem But.drew {p:Nat} {w w':World} (h:But p w w'):But p w w'.drew:=⟨h.os,h.tape,h.output,h.size,h.block⟩
def Wk (w:World) (p:Nat) (e:Int):Prop:=∃ t,t≠64∧w.heap[p]? = some (.cells #[.int .i64 e] t (0,0))
theorem Wk.lt {w:World} {p:Nat} {e:Int} (h:Wk w p e):p < w.heap.size:=by
 obtain ⟨t,_,h⟩:=h
 by_cases hlt:p < w.heap.size
 ·exact hlt
 ·rw [Array.getElem?_eq_none (by omega)] at h; cases h
theorem Wk.cell {w:World} {p:Nat} {e:Int} (h:Wk w p e):w.cell? ⟨p,0,none⟩ = some (.int .i64 e):=by
 obtain ⟨t,_,h⟩:=h
 rw [cell_of_row w p 0 _ _ _ h]; rfl
theorem Wk.frozen {w:World} {p:Nat} {e:Int} (h:Wk w p e):w.frozen? ⟨p,0,none⟩ = false:=by
 obtain ⟨t,_,h⟩:=h
 exact frozen_of_row w p 0 _ _ h
theorem Wk.kept {w w':World} {p:Nat} {e:Int} (h:Wk w p e) (hb:Below w.heap.size w w'):Wk w' p e:=by
 have hl:=h.lt
 obtain ⟨t,ht,h⟩:=h
 exact ⟨t,ht,by rw [hb.block p hl]; exact h⟩
theorem Wk.alloc {w:World} {p:Nat} {e:Int} (h:Wk w p e) (o:Obj):Wk (w.alloc o) p e:=h.kept (gr_alloc _ _)
theorem Wk.set {w:World} {p:Nat} {e:Int} (h:Wk w p e) (u:Int):Wk (w.setCell ⟨p,0,none⟩ (.int .i64 u)) p u:=by
 obtain ⟨t,ht,h⟩:=h
 exact ⟨t,ht,by rw [heap_setCell_same w p 0 _ _ _ h]; rfl⟩
theorem Wk.made (w:World) (e:Int) (t:TypeId) (ht:t≠64:=by decide):Wk (w.alloc (.cells #[.int .i64 e] t)) w.heap.size e:=⟨t,ht,heap_alloc_new w _⟩
theorem Wk.drew {w:World} {p:Nat} {e:Int} (h:Wk w p e):Wk w.drew p e:=h
def Kp (e0 e:Int):Int:=if e0 = 0 then e else e0
theorem Kp.ok {e0 e:Int} (h:Kp e0 e = 0):e0 = 0∧e = 0:=by
 unfold Kp at h; split at h
 ·exact ⟨‹_›,h⟩
 ·exact absurd h ‹_›
theorem Kp.zero (e:Int):Kp 0 e = e:=by simp [Kp]
theorem Kp.same (e0:Int):Kp e0 0 = e0:=by unfold Kp; split <;> simp_all
end Go.Proofs.YtdbmdhfjmdlihaaDoor
