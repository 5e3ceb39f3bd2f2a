/- Of what PowerNoneRow stands on: BitsNat Vars. -/
import Derived.Test.YteblliofeaahmaaDoorPaf
import Derived.Test.YteblliofeaahmaaDoorPag
namespace Go.Proofs.YteblliofeaahmaaDoor
open Go.RowKit
structure Var (w:World) (p:Nat) (a:Option Addr) (n c m:Nat):Prop where
 box:Box w p (.slice a n c)
 num:Num w a n m
theorem Var.kept {w w':World} {p n c m:Nat} {a:Option Addr} (h:Var w p a n c m) (hb:Below w.heap.size w w'):Var w' p a n c m:=⟨h.box.kept hb,h.num.kept hb⟩
theorem Var.alloc {w:World} {p n c m:Nat} {a:Option Addr} (h:Var w p a n c m) (o:Obj):Var (w.alloc o) p a n c m:=⟨h.box.alloc o,h.num.alloc o⟩
theorem Var.cell {w:World} {p n c m:Nat} {a:Option Addr} (h:Var w p a n c m):w.cell? ⟨p,0,none⟩ = some (.slice a n c):=h.box.cell
end Go.Proofs.YteblliofeaahmaaDoor
