/- Of what NearRoundsRow stands on: BitsLen. -/
import Derived.Test.YtaidedkpfnidpaaGreatDoorProg
import Derived.Lib.Strings
import Derived.Lib.Slices
import Derived.Lib.Small
import Derived.Lib.Walk
import Derived.Lib.BitFns
namespace Go.Proofs.YtaidedkpfnidpaaGreatDoor
set_option maxHeartbeats 4000000
set_option maxRecDepth 100000
theorem dm(x:Int)(s:Nat)(p:Nat)(y:Int)(hp:p=2^s)(h0:0≤x)(hx:x≤18446744073709551615)(hy:y.toNat=x.toNat/p)(hy0:0≤y)(hy1:y≤255)(hs:s=0∨(p:Int)≤x) :
  Lib.len8 y=(Lib.bitLen x.toNat:Int)-s∧Lib.bitLen x.toNat≤s+8∧s≤Lib.bitLen x.toNat:=by
 have h1:=Lib.len8_of y hy0 hy1;have h2:=Lib.bitLen_le8' y hy0 hy1;rw [hy] at h1 h2;subst hp;rcases hs with rfl|hs
 ·simp at h1 h2;exact ⟨by rw [h1];simp,by omega,by omega⟩
 ·have:=Lib.bitLen_shift s x.toNat (by omega) (by omega);exact ⟨by rw [h1];omega,by omega,by omega⟩
theorem qw(x:Int)(w:World)(h0:0≤x)(h1:x≤4294967295) :
  Calls Tryz.prog 74 #[.int .u32 x] w fun e w'=>e = .returned (.int .i64 (Lib.bitLen x.toNat))∧w=w':=by
 go_enter Tryz.func74,Tryz.ntmps74
 go_wp2
 all_goals (go_ret;refine ⟨congrArg Ending.returned (congrArg (Value.int IntKind.i64) ?_),rfl⟩)
 all_goals first
  | (have l:=dm x 24 16777216 (x/65536/256%256) (by decide) h0 (by omega) (by omega) (by omega) (by omega) (Or.inr (by omega));omega)
  | (have l:=dm x 16 65536 (x/65536%256) (by decide) h0 (by omega) (by omega) (by omega) (by omega) (Or.inr (by omega));omega)
  | (have l:=dm x 8 256 (x/256%256) (by decide) h0 (by omega) (by omega) (by omega) (by omega) (Or.inr (by omega));omega)
  | (have l:=dm x 0 1 (x%256) (by decide) h0 (by omega) (by omega) (by omega) (by omega) (Or.inl rfl);omega)
theorem qo(x:Int)(w:World)(h0:0≤x)(h1:x≤18446744073709551615) :
  Calls Tryz.prog 165 #[.int .u64 x] w fun e w'=>e = .returned (.int .i64 (Lib.bitLen x.toNat))∧w=w':=by
 go_enter Tryz.func165,Tryz.ntmps165
 go_wp2
 all_goals (go_ret;refine ⟨congrArg Ending.returned (congrArg (Value.int IntKind.i64) ?_),rfl⟩)
 all_goals first
  | (have l:=dm x 56 72057594037927936 (x/4294967296/65536/256%256) (by decide) h0 (by omega) (by omega) (by omega) (by omega) (Or.inr (by omega));omega)
  | (have l:=dm x 48 281474976710656 (x/4294967296/65536%256) (by decide) h0 (by omega) (by omega) (by omega) (by omega) (Or.inr (by omega));omega)
  | (have l:=dm x 40 1099511627776 (x/4294967296/256%256) (by decide) h0 (by omega) (by omega) (by omega) (by omega) (Or.inr (by omega));omega)
  | (have l:=dm x 32 4294967296 (x/4294967296%256) (by decide) h0 (by omega) (by omega) (by omega) (by omega) (Or.inr (by omega));omega)
  | (have l:=dm x 24 16777216 (x/65536/256%256) (by decide) h0 (by omega) (by omega) (by omega) (by omega) (Or.inr (by omega));omega)
  | (have l:=dm x 16 65536 (x/65536%256) (by decide) h0 (by omega) (by omega) (by omega) (by omega) (Or.inr (by omega));omega)
  | (have l:=dm x 8 256 (x/256%256) (by decide) h0 (by omega) (by omega) (by omega) (by omega) (Or.inr (by omega));omega)
  | (have l:=dm x 0 1 (x%256) (by decide) h0 (by omega) (by omega) (by omega) (by omega) (Or.inl rfl);omega)
end Go.Proofs.YtaidedkpfnidpaaGreatDoor
