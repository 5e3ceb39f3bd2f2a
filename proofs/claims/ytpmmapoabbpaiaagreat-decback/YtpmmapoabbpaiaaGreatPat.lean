/- Of what DecBackRow stands on: RefLow ExBits ExCmp ExVal. -/
import Derived.Test.YtpmmapoabbpaiaaGreatPas
import Derived.Test.YtpmmapoabbpaiaaGreatPao
import Derived.Deep.RegionWith
import Derived.Test.YtpmmapoabbpaiaaGreatPab
import Derived.Test.YtpmmapoabbpaiaaGreatPaf
import Derived.Test.YtpmmapoabbpaiaaGreatPal
namespace Go.Proofs.YtpmmapoabbpaiaaGreat
open Go.RowKit
theorem Fs.three (w:World) (cs:Array Value) (t:TypeId) (ds:Array Value) (u:TypeId) (es:Array Value) (v:TypeId) :
  Fs w (((w.alloc (.cells cs t)).alloc (.cells ds u)).alloc (.cells es v)) [⟨w.heap.size,cs,t⟩,⟨w.heap.size+1,ds,u⟩,⟨w.heap.size+2,es,v⟩]:=by
 have h:=(((Fs.begin w).alloc cs t).alloc ds u).alloc es v
 simp only [World.size_alloc,Nat.add_assoc] at h
 exact h.sub (by simp)
end Go.Proofs.YtpmmapoabbpaiaaGreat
