/- Of what DecBackRow stands on: DcFrame. -/
import Derived.Test.YtpmmapoabbpaiaaGreatPad
import Derived.ShutString
namespace Go.Proofs.YtpmmapoabbpaiaaGreat
open Go.ChangeShapes Go.WideShapes Go.ChangeAt Go.RowKit
set_option maxRecDepth 100000
theorem open_dec {H:Type} {enc:TypeId×Value→H} {W:World} {base:Nat} {v:Value} {d:DataW H} {p:List MemPlace}
  (hok:Value.okWide Tryz.prog W .any base 23 v) (h:DataW.Trod enc Tryz.prog W 0 (fun _=>true) true 23 v d p):∃ (g:Bool) (s:ByteArray) (x:Int),v = .agg #[.bool g,.string s,.int .i64 x]∧-9223372036854775808≤x∧x < 9223372036854775808:=by
 obtain ⟨cs,rfl,hcs⟩:=okWide_struct Tryz.underlying23 hok
 obtain ⟨fuel,hf⟩:=h
 obtain ⟨y0,y1,y2,m,_,hl,h0,h1,h2⟩:=Go.Deep.trod_struct3 Tryz.underlying23 hf
 have hc1:Tryz.prog.cellsOf 23 = 3:=by kernel_rfl
 have hc2:Tryz.prog.cellsOf 3 = 1:=by kernel_rfl
 have hc3:Tryz.prog.cellsOf 4 = 1:=by kernel_rfl
 have hc4:Tryz.prog.cellsOf 9 = 1:=by kernel_rfl
 rw [hc1] at hcs
 obtain ⟨c0,c1,c2,rfl⟩:∃ c0 c1 c2,cs = #[c0,c1,c2]:=by
  match cs,hcs with
  | ⟨[a,b,c]⟩,_=>exact ⟨a,b,c,rfl⟩
 rw [hc3] at h0
 rw [hc4] at h1
 rw [hc2] at h2
 obtain ⟨n0,e0,_⟩:=DataW.trod_bool Tryz.underlying4 h0
 obtain ⟨n1,e1,_⟩:=DataW.trod_string Tryz.underlying9 h1
 obtain ⟨n2,e2,_,w2⟩:=DataW.trod_int Tryz.underlying3 h2
 simp [Value.cells] at e0 e1 e2
 obtain ⟨hx1,hx2⟩:=i64_wf w2
 exact ⟨n0,n1,n2,by rw [e0,e1,e2],hx1,hx2⟩
end Go.Proofs.YtpmmapoabbpaiaaGreat
