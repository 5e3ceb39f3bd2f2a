/- Of what DecBackRow stands on: Add. -/
import Derived.Test.YtpmmapoabbpaiaaGreatPaf
import Derived.Test.YtpmmapoabbpaiaaGreatPaj
import Derived.BigQuiet
import Derived.Laws.CopyOwn
import Derived.Deep.Cut
namespace Go.Proofs.YtpmmapoabbpaiaaGreat
open Go.RowKit
theorem Box.only {w w':World} {p C:Nat} {v:Value} (h:Box w p v) (k:Only C w w') (hne:p≠C):Box w' p v:=by
 unfold Box; rw [k.block p hne]; exact h
end Go.Proofs.YtpmmapoabbpaiaaGreat
