/- Of what RatioBackRow stands on: RStr. -/
import Derived.Test.YtcfccblpcngeaaaGreatPab
import Derived.Test.YtcfccblpcngeaaaGreatPbi
import Derived.RegionTactic
namespace Go.Proofs.YtcfccblpcngeaaaGreat
open Go.RowKit
set_option maxHeartbeats 1000000
theorem indexByte_room (l:List UInt8) (c:UInt8):Lib.indexByte l c = -1∨∃ i:Nat,Lib.indexByte l c = i∧i < l.length:=by
 induction l with
 | nil=>exact Or.inl rfl
 | cons b l ih=>
  unfold Lib.indexByte
  split
  ·exact Or.inr ⟨0,rfl,by simp⟩
  ·split
   ·exact Or.inl rfl
   ·rcases ih with h|⟨i,h,hi⟩
    ·rename_i hx; rw [h] at hx; simp at hx
    ·exact Or.inr ⟨i+1,by rw [h]; simp,by simp; omega⟩
def CutAns (s:ByteArray) (e:Ending):Prop:=
 (Lib.indexByte s.data.toList 47 = -1∧e = .returned (.tuple #[.string s,.string ⟨#[]⟩,.bool false])) ∨
 (∃ i:Nat,Lib.indexByte s.data.toList 47 = i∧i < s.size∧e = .returned (.tuple #[.string (s.extract 0 i),.string (s.extract (i+1) s.size),.bool true]))
theorem cutLite_any (s:ByteArray) (w:World) (hs:s.size≤9223372036854775807) :
  Calls Tryz.prog 48 #[.string s,.string ⟨#[47]⟩] w fun e w'=>CutAns s e∧Below w.heap.size w w':=by
 rcases indexByte_room s.data.toList 47 with h|⟨i,h,hi⟩
 ·go_enter Tryz.func48,Tryz.ntmps48
  go_wp2_with fail
  refine (index_any s w).mono ?_
  rintro e w1 ⟨rfl,rfl⟩
  rw [h]
  have H:=hide h
  clear h
  go_wp2
  exact bodyPost_ret (v:=.tuple #[.string s,.string ⟨#[]⟩,.bool false]) (by simp [results,Tryz.results48,go_sem]) rfl ⟨Or.inl ⟨unhide H,rfl⟩,gr_refl _⟩
 ·have hi':i < s.size:=hi
  go_enter Tryz.func48,Tryz.ntmps48
  go_wp2_with fail
  refine (index_any s w).mono ?_
  rintro e w1 ⟨rfl,rfl⟩
  rw [h]
  have H:=hide h
  clear h hi
  go_wp2
  go_region
  go_wp2
  exact bodyPost_ret (v:=.tuple #[.string (s.extract 0 i),.string (s.extract (i+1) s.size),.bool true]) (by simp [results,Tryz.results48,go_sem]) rfl ⟨Or.inr ⟨i,unhide H,hi',rfl⟩,(gr_refl _).drew⟩
theorem cutS_any (s:ByteArray) (w:World) (hs:s.size≤9223372036854775807) :
  Calls Tryz.prog 21 #[.string s,.string ⟨#[47]⟩] w fun e w'=>CutAns s e∧Below w.heap.size w w':=by
 go_enter Tryz.func21,Tryz.ntmps21
 go_wp2_with fail
 refine (cutLite_any s w hs).mono ?_
 rintro e w1 ⟨h,hb⟩
 have HB:=hide hb
 clear hb
 rcases h with ⟨h,rfl⟩|⟨i,h,hi,rfl⟩
 ·have H:=hide h
  clear h
  go_wp2
  exact bodyPost_ret (v:=.tuple #[.string s,.string ⟨#[]⟩,.bool false]) (by simp [results,Tryz.results21,go_sem]) rfl ⟨Or.inl ⟨unhide H,rfl⟩,unhide HB⟩
 ·have H:=hide (And.intro h hi)
  clear h hi
  go_wp2
  exact bodyPost_ret (v:=.tuple #[.string (s.extract 0 i),.string (s.extract (i+1) s.size),.bool true]) (by simp [results,Tryz.results21,go_sem]) rfl ⟨Or.inr ⟨i,(unhide H).1,(unhide H).2,rfl⟩,unhide HB⟩
def minus (s:ByteArray):Bool:=decide (1≤s.size) && ((s.extract 0 1).toList == ([45]:List UInt8))
def PreAns (s:ByteArray) (e:Ending):Prop:=
 (minus s = false∧e = .returned (.tuple #[.string s,.bool false]))∨(minus s = true∧1≤s.size∧e = .returned (.tuple #[.string (s.extract 1 s.size),.bool true]))
theorem hasPrefix_any (s:ByteArray) (w:World) (hs:s.size≤9223372036854775807) :
  Calls Tryz.prog 70 #[.string s,.string ⟨#[45]⟩] w fun e w'=>e = .returned (.bool (minus s))∧w' = w:=by
 unfold minus
 by_cases h1:1≤s.size
 ·have hd:decide (1≤s.size) = true:=by simp [h1]
  rw [hd,Bool.true_and]
  obtain ⟨b,hb⟩:∃ b,((s.extract 0 1).toList == ([45]:List UInt8)) = b:=⟨_,rfl⟩
  rw [hb]
  go_enter Tryz.func70,Tryz.ntmps70
  go_wp2
  go_ret
  exact ⟨rfl,rfl⟩
 ·have hd:decide (1≤s.size) = false:=by simp [h1]
  rw [hd,Bool.false_and]
  go_enter Tryz.func70,Tryz.ntmps70
  go_wp2
  go_ret
  exact ⟨rfl,rfl⟩
theorem minus_size {s:ByteArray} (h:minus s = true):1≤s.size:=by
 unfold minus at h
 simp only [Bool.and_eq_true,decide_eq_true_eq] at h
 exact h.1
theorem preLite_any (s:ByteArray) (w:World) (hs:s.size≤9223372036854775807) :
  Calls Tryz.prog 47 #[.string s,.string ⟨#[45]⟩] w fun e w'=>PreAns s e∧Below w.heap.size w w':=by
 cases hm:minus s
 ·go_enter Tryz.func47,Tryz.ntmps47
  go_wp2_with fail
  refine (hasPrefix_any s w hs).mono ?_
  rintro e w1 ⟨rfl,rfl⟩
  rw [hm]
  go_wp2
  exact bodyPost_ret (v:=.tuple #[.string s,.bool false]) (by simp [results,Tryz.results47,go_sem]) rfl ⟨Or.inl ⟨hm,rfl⟩,gr_refl _⟩
 ·have h1:=minus_size hm
  go_enter Tryz.func47,Tryz.ntmps47
  go_wp2_with fail
  refine (hasPrefix_any s w hs).mono ?_
  rintro e w1 ⟨rfl,rfl⟩
  rw [hm]
  go_wp2
  exact bodyPost_ret (v:=.tuple #[.string (s.extract 1 s.size),.bool true]) (by simp [results,Tryz.results47,go_sem]) rfl ⟨Or.inr ⟨hm,h1,rfl⟩,gr_refl _⟩
theorem prefix_any (s:ByteArray) (w:World) (hs:s.size≤9223372036854775807) :
  Calls Tryz.prog 20 #[.string s,.string ⟨#[45]⟩] w fun e w'=>PreAns s e∧Below w.heap.size w w':=by
 go_enter Tryz.func20,Tryz.ntmps20
 go_wp2_with fail
 refine (preLite_any s w hs).mono ?_
 rintro e w1 ⟨h,hb⟩
 rcases h with ⟨h,rfl⟩|⟨h,h1,rfl⟩
 ·go_wp2
  exact bodyPost_ret (v:=.tuple #[.string s,.bool false]) (by simp [results,Tryz.results20,go_sem]) rfl ⟨Or.inl ⟨h,rfl⟩,hb⟩
 ·go_wp2
  exact bodyPost_ret (v:=.tuple #[.string (s.extract 1 s.size),.bool true]) (by simp [results,Tryz.results20,go_sem]) rfl ⟨Or.inr ⟨h,h1,rfl⟩,hb⟩
end Go.Proofs.YtcfccblpcngeaaaGreat
