/- Of what NearMeetsRow stands on: FmFrame TnFrame. -/
import Derived.Test.YtaidedkpfnidpaaGreatDoorPab
import Derived.Test.YtaidedkpfnidpaaGreatDoorPas
import Derived.ProofKit
import Derived.OpenShut
import Derived.ChangeOld
import Derived.ChangeSame
import Derived.ChangeSlices
import Derived.Below
import Derived.Deep.Strs
namespace Go.Proofs.YtaidedkpfnidpaaGreatDoor
open Go.ChangeShapes Go.WideShapes Go.ChangeAt Go.RowKit
open Go.RowKit
set_option maxRecDepth 100000
theorem u64_wf {n:Int} (h:(Lit.int .u64 n).wf = true):∃ m:Nat,n = (m:Int)∧m < 18446744073709551616:=by
 simp [Lit.wf,IntKind.min,IntKind.max,IntKind.signed,IntKind.bits] at h
 exact ⟨n.toNat,by omega,by omega⟩
theorem open_form {H:Type} {enc:TypeId×Value→H} {W:World} {base:Nat} {v:Value} {d:DataW H} {p:List MemPlace}
  (hok:Value.okWide Tryz.prog W .any base 23 v) (h:DataW.Trod enc Tryz.prog W 0 (fun _=>true) true 23 v d p):∃ E F:Int,v = .agg #[.int .i64 E,.int .i64 F]:=by
 obtain ⟨cs,rfl,hcs⟩:=okWide_struct Tryz.underlying23 hok
 obtain ⟨fuel,hf⟩:=h
 obtain ⟨y0,y1,m,_,hl,h0,h1⟩:=trod_struct2 Tryz.underlying23 hf
 have hc1:Tryz.prog.cellsOf 23 = 2:=by kernel_rfl
 have hc2:Tryz.prog.cellsOf 3 = 1:=by kernel_rfl
 rw [hc1] at hcs
 obtain ⟨c0,c1,rfl⟩:∃ c0 c1,cs = #[c0,c1]:=by
  match cs,hcs with
  | ⟨[a,b]⟩,_=>exact ⟨a,b,rfl⟩
 rw [hc2] at h0 h1
 obtain ⟨n0,e0,_,_⟩:=DataW.trod_int Tryz.underlying3 h0
 obtain ⟨n1,e1,_,_⟩:=DataW.trod_int Tryz.underlying3 h1
 simp [Value.cells] at e0 e1
 exact ⟨n0,n1,by rw [e0,e1]⟩
theorem u8_wf {n:Int} (h:(Lit.int .u8 n).wf = true):∃ m:Nat,n = (m:Int)∧m < 256:=by
 simp [Lit.wf,IntKind.min,IntKind.max,IntKind.signed,IntKind.bits] at h
 exact ⟨n.toNat,by omega,by omega⟩
end Go.Proofs.YtaidedkpfnidpaaGreatDoor
