/- Of what PowerDigitsRow stands on: PwTwo. -/
import Derived.Test.YteblliofeaahmaaDoorPag
import Derived.Test.YteblliofeaahmaaDoorPah
import Derived.Test.YteblliofeaahmaaDoorPaf
import Derived.Shelf.Bits.Mul64
namespace Go.Proofs.YteblliofeaahmaaDoor
open Go.RowKit Go.Shelf
def pmulRen:Ren where
 f:=fun _=>24
 t:=fun k=>match k with
  | 46=>98
  | 53=>22
  | _=>0
 g:=fun _=>0
theorem pmul_lays:Lays.n264 Tryd.prog pmulRen:=by
 constructor <;> first|kernel_rfl|(intro w; kernel_rfl)
theorem mul64_any (x y h l:Nat) (hx:x < 18446744073709551616) (hy:y < 18446744073709551616) (hh:x * y / 18446744073709551616 = h) (hl:x * y % 18446744073709551616 = l) (w:World) :
  Calls Tryd.prog 24 #[.int .u64 (x:Int),.int .u64 (y:Int)] w fun e w'=>e = .returned (.tuple #[.int .u64 (h:Int),.int .u64 (l:Int)])∧Below w.heap.size w w':=by
 subst hh hl
 refine (Any.bits_Mul64 pmul_lays x y hx hy w).mono ?_
 rintro e w' ⟨rfl,rfl⟩
 exact ⟨rfl,Below.refl _ _⟩
theorem len64_nat (x l:Nat) (w:World) (hx:x < 18446744073709551616) (hl:Lib.bitLen x = l) :
  Calls Tryd.prog 35 #[.int .u64 (x:Int)] w fun e w'=>e = .returned (.int .i64 (l:Int))∧Below w.heap.size w w':=by
 subst hl
 refine (len64_int (x:Int) w (by omega) (by omega)).mono ?_
 rintro e w' ⟨rfl,rfl⟩
 exact ⟨by rw [Int.toNat_natCast],Below.refl _ _⟩
def Fv (w:World):Prop:=0 < w.heap.size∧∀ j,j < 28→w.cell? ⟨0,j,none⟩ = some (.int .u64 ((5 ^ j:Nat):Int))
theorem Fv.kept {w w':World} (h:Fv w) (hb:Below w.heap.size w w'):Fv w':=
 ⟨Nat.lt_of_lt_of_le h.1 hb.size,fun j hj=>(hb.cell (p:=⟨0,j,none⟩) h.1).trans (h.2 j hj)⟩
theorem wpu {x:Int} (h1:0≤x) (h2:x < 18446744073709551616):IntKind.u64.wrap x = x:=by rw [IntKind.wrap_u64]; omega
theorem shl_ten {d t:Nat} (hd:d≤19) (ht:10 ^ d = t):IntKind.u64.wrap (((5 ^ d:Nat):Int) * 2 ^ min (d:Int).toNat 64) = (t:Int):=by
 have e:((5 ^ d:Nat):Int) * 2 ^ min (d:Int).toNat 64 = ((10 ^ d:Nat):Int):=by
  rw [Int.toNat_natCast,Nat.min_eq_left (by omega),show (10:Nat) = 5 * 2 from rfl,Nat.mul_pow]
  simp
 have hb:10 ^ d≤10 ^ 19:=Nat.pow_le_pow_right (by decide) hd
 have hb2:(10:Nat) ^ 19 = 10000000000000000000:=by decide
 rw [e,wpu (by omega) (by omega),ht]
theorem chars_len (ds:List Nat):(chars ds).length = ds.length:=by simp [chars]
theorem says_size {s:ByteArray} {m d:Nat} (h:Says s m) (h1:d = 0∨10 ^ d≤m) (h2:m < 10 ^ (d+1)):s.size = d+1:=by
 obtain ⟨ds,hs,hd,⟨hne,hl⟩,hv⟩:=h
 have hsz:s.size = ds.length:=by
  have:=congrArg List.length hs
  rw [chars_len] at this
  rw [← this]; rfl
 have hlt:=Pl.dval_lt hd
 rw [hv] at hlt
 rw [hsz]
 have up:d+1≤ds.length:=by
  rcases h1 with h1|h1
  ·subst h1; have:=List.length_pos_iff.2 hne; omega
  ·have:10 ^ d < 10 ^ ds.length:=Nat.lt_of_le_of_lt h1 hlt
   exact (Nat.pow_lt_pow_iff_right (by decide)).1 this
 have dn:ds.length≤d+1:=by
  rcases hl with hl|hl
  ·cases ds with
   | nil=>exact absurd rfl hne
   | cons x r=>
    have h3:=Pl.lead_low (ds:=r) (d:=x) (by simpa using hl)
    rw [hv] at h3
    have:10 ^ r.length < 10 ^ (d+1):=Nat.lt_of_le_of_lt h3 h2
    have:=(Nat.pow_lt_pow_iff_right (a:=10) (by decide)).1 this
    simp; omega
  ·omega
 omega
end Go.Proofs.YteblliofeaahmaaDoor
