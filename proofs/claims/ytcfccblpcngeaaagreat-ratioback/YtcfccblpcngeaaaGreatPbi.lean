/- Of what RatioBackRow stands on: RStr0. -/
import Derived.Test.YtcfccblpcngeaaaGreatProg
import Derived.Lib.Strings
import Derived.Lib.Slices
import Derived.Lib.Small
import Derived.Lib.Walk
import Derived.Lib.Bytealg
namespace Go.Proofs.YtcfccblpcngeaaaGreat
set_option maxHeartbeats 4000000
set_option maxRecDepth 100000
theorem indexByte_any (s:ByteArray) (w:World) :
  Calls Tryz.prog 92 #[.string s,.int .u8 47] w fun e w'=>e = .returned (.int .i64 (Lib.indexByte s.data.toList 47))∧w' = w:=by
 go_enter Tryz.func92,Tryz.ntmps92
 go_wp2
 rw [run_callFunc_extern Tryz.func105 (by kernel_rfl) (by kernel_rfl) (by kernel_rfl) (e:=Extern.BytealgIndexByte.indexByte) (by kernel_rfl),Lib.run_indexByteString]
 simp only [Result.andThen]
 rw [Oper.upon_value]
 go_wp2
 go_ret
 exact ⟨rfl,rfl⟩
theorem index_any (s:ByteArray) (w:World) :
  Calls Tryz.prog 71 #[.string s,.string ⟨#[47]⟩] w fun e w'=>e = .returned (.int .i64 (Lib.indexByte s.data.toList 47))∧w' = w:=by
 cases hb:(([47]:List UInt8) == s.toList)
 ·go_enter Tryz.func71,Tryz.ntmps71
  go_wp2_with fail
  refine (indexByte_any s w).mono ?_
  rintro e w1 ⟨rfl,rfl⟩
  go_wp2
  go_ret
  exact ⟨rfl,rfl⟩
 ·have h0:Lib.indexByte s.data.toList 47 = 0:=by
   have h:([47]:List UInt8) = s.toList:=by simpa using hb
   rw [Lib.toList_data] at h
   rw [← h]; rfl
  go_enter Tryz.func71,Tryz.ntmps71
  go_wp2
  go_ret
  exact ⟨congrArg (fun z=>Ending.returned (.int .i64 z)) h0.symm,rfl⟩
end Go.Proofs.YtcfccblpcngeaaaGreat
