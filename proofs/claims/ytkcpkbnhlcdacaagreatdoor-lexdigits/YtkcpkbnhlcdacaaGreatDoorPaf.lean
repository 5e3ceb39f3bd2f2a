/- Of what LexDigitsRow stands on: BitsNat Vars. -/
import Derived.Test.YtkcpkbnhlcdacaaGreatDoorPad
import Derived.Test.YtkcpkbnhlcdacaaGreatDoorPae
namespace Go.Proofs.YtkcpkbnhlcdacaaGreatDoor
open Go.RowKit
def Bl (m n:Nat):Prop:=m < 2 ^ n∧(n = 0∨2 ^ (n - 1)≤m)
theorem Bl.uniq {m n k:Nat} (h:Bl m n) (g:Bl m k):n = k:=by
 rcases Nat.lt_trichotomy n k with c|c|c
 ·rcases g.2 with g2|g2
  ·omega
  ·have:=Nat.pow_le_pow_right (show 0 < 2 by decide) (show n≤k - 1 by omega)
   have:=h.1; omega
 ·exact c
 ·rcases h.2 with h2|h2
  ·omega
  ·have:=Nat.pow_le_pow_right (show 0 < 2 by decide) (show k≤n - 1 by omega)
   have:=g.1; omega
structure Var (w:World) (p:Nat) (a:Option Addr) (n c m:Nat):Prop where
 box:Box w p (.slice a n c)
 num:Num w a n m
theorem Var.kept {w w':World} {p n c m:Nat} {a:Option Addr} (h:Var w p a n c m) (hb:Below w.heap.size w w'):Var w' p a n c m:=⟨h.box.kept hb,h.num.kept hb⟩
theorem Var.alloc {w:World} {p n c m:Nat} {a:Option Addr} (h:Var w p a n c m) (o:Obj):Var (w.alloc o) p a n c m:=⟨h.box.alloc o,h.num.alloc o⟩
theorem Var.cell {w:World} {p n c m:Nat} {a:Option Addr} (h:Var w p a n c m):w.cell? ⟨p,0,none⟩ = some (.slice a n c):=h.box.cell
end Go.Proofs.YtkcpkbnhlcdacaaGreatDoor
