/- Of what ExactMakesRow stands on: RefMul. -/
import Derived.Test.YtecmcjlgknfnlaaDoorPab
import Derived.Test.YtecmcjlgknfnlaaDoorPaa
import Derived.Deep.LoopGhost
import Derived.BigQuiet
namespace Go.Proofs.YtecmcjlgknfnlaaDoor
open Go.RowKit
theorem rnat_any (v : Value) (a : Option Addr) (n c : Nat) (w : World) (hv : v = .slice a n c) :
  Calls Tryd.prog 78 #[v] w fun e w' => e = .returned (.agg #[.slice a n c]) ∧ w' = w.alloc (.cells #[.slice a n c] 24) := by
 subst hv
 go_enter Tryd.func78,Tryd.ntmps78
 go_wp2
 exact bodyPost_ret (v := .agg #[.slice a n c]) (by simp [results,Tryd.results78,go_sem]) rfl ⟨rfl,rfl⟩
end Go.Proofs.YtecmcjlgknfnlaaDoor
