/- Of what RoundWorthRow stands on: Parse. -/
import Derived.Test.YtbbhlfngjoongaaGreatDoorPaf
import Derived.Deep.LoopGhost
namespace Go.Proofs.YtbbhlfngjoongaaGreatDoor
open Go.RowKit
theorem DigS.cut {s:ByteArray} {ds:List Nat} (h:DigS s ds) (a b:Nat) (hab:a≤b) (hb:b≤s.size):DigS (s.extract a b) ((ds.drop a).take (b - a)):=by
 obtain ⟨h1,h2,h3⟩:=h
 have hsz:(s.extract a b).size = b - a:=by rw [ByteArray.size_extract]; omega
 refine ⟨?_,?_,?_⟩
 ·rw [hsz,List.length_take,List.length_drop]; omega
 ·intro d hd; exact h2 d (List.mem_of_mem_drop (List.mem_of_mem_take hd))
 ·intro k hk
  rw [hsz] at hk
  rw [ByteArray.getElem_extract,h3,List.getElem?_take,if_pos hk,List.getElem?_drop]
theorem Box.under {w w':World} {p B:Nat} {v:Value} (h:Box w p v) (hb:Below B w w') (hp:p < B):Box w' p v:=by
 unfold Box; rw [hb.block p hp]; exact h
end Go.Proofs.YtbbhlfngjoongaaGreatDoor
