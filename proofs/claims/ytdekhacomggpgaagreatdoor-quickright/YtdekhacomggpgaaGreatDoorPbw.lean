/- Of what QuickRightRow stands on: DcMulBoth. -/
import Derived.Test.YtdekhacomggpgaaGreatDoorPbu
import Derived.Test.YtdekhacomggpgaaGreatDoorPay
namespace Go.Proofs.YtdekhacomggpgaaGreatDoor
open Go.RowKit
theorem dnum_any (g:Bool) (s:ByteArray) (x:Int) (hd:AllD s s.size) (hm:s.size≤65536) (h0:s.size≠0) (W:World):Calls Tryz.prog 23 #[.agg #[.bool g,.string s,.int .i64 x]] W fun en W'=>(∃ a n c,en = .returned (.agg #[.slice a n c])∧Mine W' W.heap.size a n c (valS s))∧Below W.heap.size W W':=
 dnum_is W g s x (valS s) (hide fun W=>(parse_any s W (by omega)).mono fun e W' ⟨h,hb⟩=>⟨by
  rcases h with ⟨h1,_⟩|⟨h1,_⟩|⟨i,hi,_,_,h3,_⟩|⟨a,n,c,_,_,_,h,hM⟩
  ·omega
  ·exact absurd h1 h0
  ·exact absurd (hd i hi hi) h3
  ·exact ⟨a,n,c,h,hM⟩,hb⟩)
end Go.Proofs.YtdekhacomggpgaaGreatDoor
