/- Of what SoftSumsRow stands on: PAns. -/
import Derived.Test.YtfnhimofpelmdaaGreatDoorPaf
namespace Go.Proofs.YtfnhimofpelmdaaGreatDoor
open Go.RowKit
theorem Mine.nil (w : World) (base : Nat) : Mine w base none 0 0 0 := ⟨[],rfl,Or.inl ⟨rfl,rfl⟩,Pl.wf_nil,Pl.norm_nil,rfl,by omega⟩
theorem Num.not_over {w : World} {a : Option Addr} {n m : Nat} (h : Num w a n m) : ¬ Over m := fun o => by
 have h1 := o.le
 obtain ⟨xs,hn,_,hw,_,hv,hl⟩ := h
 have h2 := Pl.val_lt hw
 have h3 : 4294967296 ^ xs.length ≤ 4294967296 ^ Pl.top := Pl.pow_le (by rw [Pl.top_eq]; omega)
 rw [hv] at h2
 exact absurd (Nat.lt_of_lt_of_le h2 (Nat.le_trans h3 h1)) (Nat.lt_irrefl _)
end Go.Proofs.YtfnhimofpelmdaaGreatDoor
