/- Of what PowerNoneRow stands on: RefMul QDigits. -/
import Derived.Test.YteblliofeaahmaaDoorPao
import Derived.Test.YteblliofeaahmaaDoorPaf
import Derived.Test.YteblliofeaahmaaDoorPae
import Derived.Deep.LoopGhost
import Derived.BigQuiet
import Derived.Test.YteblliofeaahmaaDoorPak
namespace Go.Proofs.YteblliofeaahmaaDoor
open Go.RowKit
structure But (R:Nat) (w w':World):Prop where
 os:w'.os = w.os
 tape:w'.tape = w.tape
 output:w'.output = w.output
 size:w.heap.size≤w'.heap.size
 block:∀ k,k < w.heap.size→k≠R→w'.heap[k]? = w.heap[k]?
theorem But.refl (R:Nat) (w:World):But R w w:=⟨rfl,rfl,rfl,Nat.le_refl _,fun _ _ _=>rfl⟩
theorem But.of {R:Nat} {w w':World} (h:Below w.heap.size w w'):But R w w':=⟨h.os,h.tape,h.output,h.size,fun k hk _=>h.block k hk⟩
theorem But.only {R:Nat} {a w w':World} (h:But R a w) (k:Only R w w'):But R a w':=
 ⟨k.os.trans h.os,k.tape.trans h.tape,k.output.trans h.output,by rw [k.size]; exact h.size,fun i hi hne=>(k.block i hne).trans (h.block i hi hne)⟩
theorem But.setCell {R:Nat} {a w:World} (h:But R a w) {p:Addr} (hp:a.heap.size≤p.block) (u:Value):But R a (w.setCell p u):=
 ⟨h.os,h.tape,h.output,by simp [World.setCell]; exact h.size,fun i hi hne=>(heap_setCell_other w p i u (by omega)).trans (h.block i hi hne)⟩
theorem But.cell {R:Nat} {w w':World} (h:But R w w') {p:Addr} (hp:p.block < w.heap.size) (hne:p.block≠R):w'.cell? p = w.cell? p:=World.cell?_of_block (w:=w) (h.block p.block hp hne)
theorem But.below {R:Nat} {a w w':World} (h:Below a.heap.size a w) (k:But R w w') (hR:a.heap.size≤R):Below a.heap.size a w':=
 h.trans ⟨k.os,k.tape,k.output,k.size,fun i hi=>k.block i (Nat.lt_of_lt_of_le hi h.size) (by omega)⟩
end Go.Proofs.YteblliofeaahmaaDoor
