/- Of what RoundSidesRow stands on: FmFrame. -/
import Derived.Test.YtfjegmlpkiaifaaGreatDoorPab
import Derived.Test.YtfjegmlpkiaifaaGreatDoorPac
import Derived.ProofKit
import Derived.OpenShut
import Derived.ChangeOld
import Derived.ChangeSame
import Derived.ChangeSlices
import Derived.Below
import Derived.Deep.Strs
namespace Go.Proofs.YtfjegmlpkiaifaaGreatDoor
open Go.ChangeShapes Go.WideShapes Go.ChangeAt Go.RowKit
set_option maxRecDepth 100000
theorem open_form {H:Type} {enc:TypeId×Value→H} {W:World} {base:Nat} {v:Value} {d:DataW H} {p:List MemPlace}
  (hok:Value.okWide Tryz.prog W .any base 23 v) (h:DataW.Trod enc Tryz.prog W 0 (fun _=>true) true 23 v d p):∃ E F:Int,v = .agg #[.int .i64 E,.int .i64 F]:=by
 obtain ⟨cs,rfl,hcs⟩:=okWide_struct Tryz.underlying23 hok
 obtain ⟨fuel,hf⟩:=h
 obtain ⟨y0,y1,m,_,hl,h0,h1⟩:=trod_struct2 Tryz.underlying23 hf
 have hc1:Tryz.prog.cellsOf 23 = 2:=by kernel_rfl
 have hc2:Tryz.prog.cellsOf 3 = 1:=by kernel_rfl
 rw [hc1] at hcs
 obtain ⟨c0,c1,rfl⟩:∃ c0 c1,cs = #[c0,c1]:=by
  match cs,hcs with
  | ⟨[a,b]⟩,_=>exact ⟨a,b,rfl⟩
 rw [hc2] at h0 h1
 obtain ⟨n0,e0,_,_⟩:=DataW.trod_int Tryz.underlying3 h0
 obtain ⟨n1,e1,_,_⟩:=DataW.trod_int Tryz.underlying3 h1
 simp [Value.cells] at e0 e1
 exact ⟨n0,n1,by rw [e0,e1]⟩
end Go.Proofs.YtfjegmlpkiaifaaGreatDoor
