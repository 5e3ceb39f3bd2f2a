/- Of what PowerTensRow stands on: PwTwo. -/
import Derived.Test.YteblliofeaahmaaDoorPag
import Derived.Test.YteblliofeaahmaaDoorPah
import Derived.Shelf.Bits.Mul64
namespace Go.Proofs.YteblliofeaahmaaDoor
open Go.RowKit Go.Shelf
def pmulRen:Ren where
 f:=fun _=>24
 t:=fun k=>match k with
  | 46=>98
  | 53=>22
  | _=>0
 g:=fun _=>0
theorem pmul_lays:Lays.n264 Tryd.prog pmulRen:=by
 constructor <;> first|kernel_rfl|(intro w; kernel_rfl)
theorem mul64_any (x y h l:Nat) (hx:x < 18446744073709551616) (hy:y < 18446744073709551616) (hh:x * y / 18446744073709551616 = h) (hl:x * y % 18446744073709551616 = l) (w:World) :
  Calls Tryd.prog 24 #[.int .u64 (x:Int),.int .u64 (y:Int)] w fun e w'=>e = .returned (.tuple #[.int .u64 (h:Int),.int .u64 (l:Int)])∧Below w.heap.size w w':=by
 subst hh hl
 refine (Any.bits_Mul64 pmul_lays x y hx hy w).mono ?_
 rintro e w' ⟨rfl,rfl⟩
 exact ⟨rfl,Below.refl _ _⟩
theorem len64_nat (x l:Nat) (w:World) (hx:x < 18446744073709551616) (hl:Lib.bitLen x = l) :
  Calls Tryd.prog 35 #[.int .u64 (x:Int)] w fun e w'=>e = .returned (.int .i64 (l:Int))∧Below w.heap.size w w':=by
 subst hl
 refine (len64_int (x:Int) w (by omega) (by omega)).mono ?_
 rintro e w' ⟨rfl,rfl⟩
 exact ⟨by rw [Int.toNat_natCast],Below.refl _ _⟩
def Fv (w:World):Prop:=0 < w.heap.size∧∀ j,j < 28→w.cell? ⟨0,j,none⟩ = some (.int .u64 ((5 ^ j:Nat):Int))
theorem Fv.kept {w w':World} (h:Fv w) (hb:Below w.heap.size w w'):Fv w':=
 ⟨Nat.lt_of_lt_of_le h.1 hb.size,fun j hj=>(hb.cell (p:=⟨0,j,none⟩) h.1).trans (h.2 j hj)⟩
theorem wpu {x:Int} (h1:0≤x) (h2:x < 18446744073709551616):IntKind.u64.wrap x = x:=by rw [IntKind.wrap_u64]; omega
end Go.Proofs.YteblliofeaahmaaDoor
