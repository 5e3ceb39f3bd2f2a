/- Of what PowerNoneRow stands on: PwTwo. -/
import Derived.Test.YteblliofeaahmaaDoorPaf
import Derived.Test.YteblliofeaahmaaDoorPag
import Derived.Shelf.Bits.Mul64
namespace Go.Proofs.YteblliofeaahmaaDoor
open Go.RowKit Go.Shelf
def Fv (w:World):Prop:=0 < w.heap.size∧∀ j,j < 28→w.cell? ⟨0,j,none⟩ = some (.int .u64 ((5 ^ j:Nat):Int))
theorem Fv.kept {w w':World} (h:Fv w) (hb:Below w.heap.size w w'):Fv w':=
 ⟨Nat.lt_of_lt_of_le h.1 hb.size,fun j hj=>(hb.cell (p:=⟨0,j,none⟩) h.1).trans (h.2 j hj)⟩
end Go.Proofs.YteblliofeaahmaaDoor
