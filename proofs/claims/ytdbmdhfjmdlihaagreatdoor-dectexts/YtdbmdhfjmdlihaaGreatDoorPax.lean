/- Of what DecTextsRow stands on: Add. -/
import Derived.Test.YtdbmdhfjmdlihaaGreatDoorPaf
import Derived.Test.YtdbmdhfjmdlihaaGreatDoorPak
import Derived.BigQuiet
import Derived.Laws.CopyOwn
import Derived.Deep.Cut
namespace Go.Proofs.YtdbmdhfjmdlihaaGreatDoor
open Go.RowKit
theorem Box.only {w w':World} {p C:Nat} {v:Value} (h:Box w p v) (k:Only C w w') (hne:p≠C):Box w' p v:=by
 unfold Box; rw [k.block p hne]; exact h
end Go.Proofs.YtdbmdhfjmdlihaaGreatDoor
