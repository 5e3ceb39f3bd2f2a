/- Of what QuickSureRow stands on: Grow. -/
import Derived.Test.YtohjmjlfmloiaaaDoorPaf
import Derived.ArgAppend
import Derived.Deep.Upon
import Derived.Maps.AppendAt
namespace Go.Proofs.YtohjmjlfmloiaaaDoor
open Go.RowKit
structure Ap (w w':World) (v v':Value):Prop where
 os:w'.os = w.os
 tape:w'.tape = w.tape
 output:w'.output = w.output
 size:w.heap.size≤w'.heap.size
 block:∀ k,k < w.heap.size→some k≠v.ownBlock→w'.heap[k]? = w.heap[k]?
 own:v'.ownBlock = v.ownBlock∨∃ g,v'.ownBlock = some g∧w.heap.size≤g
end Go.Proofs.YtohjmjlfmloiaaaDoor
