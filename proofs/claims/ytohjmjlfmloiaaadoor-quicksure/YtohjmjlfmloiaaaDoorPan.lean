/- Of what QuickSureRow stands on: BitsNat Vars. -/
import Derived.Test.YtohjmjlfmloiaaaDoorPaf
import Derived.Test.YtohjmjlfmloiaaaDoorPam
namespace Go.Proofs.YtohjmjlfmloiaaaDoor
open Go.RowKit
def Bl (m n:Nat):Prop:=m < 2 ^ n∧(n = 0∨2 ^ (n - 1)≤m)
theorem Bl.uniq {m n k:Nat} (h:Bl m n) (g:Bl m k):n = k:=by
 rcases Nat.lt_trichotomy n k with c|c|c
 ·rcases g.2 with g2|g2
  ·omega
  ·have:=Nat.pow_le_pow_right (show 0 < 2 by decide) (show n≤k - 1 by omega)
   have:=h.1; omega
 ·exact c
 ·rcases h.2 with h2|h2
  ·omega
  ·have:=Nat.pow_le_pow_right (show 0 < 2 by decide) (show k≤n - 1 by omega)
   have:=g.1; omega
end Go.Proofs.YtohjmjlfmloiaaaDoor
