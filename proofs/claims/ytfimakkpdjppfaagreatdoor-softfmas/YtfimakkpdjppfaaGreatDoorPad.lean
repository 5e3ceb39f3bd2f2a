/- Of what SoftFmasRow stands on: FmFrame SlFrame SlFrame3. -/
import Derived.Test.YtfimakkpdjppfaaGreatDoorPab
import Derived.Test.YtfimakkpdjppfaaGreatDoorPac
import Derived.ProofKit
import Derived.OpenShut
import Derived.ChangeOld
import Derived.ChangeSame
import Derived.ChangeSlices
import Derived.Below
import Derived.Deep.Strs
namespace Go.Proofs.YtfimakkpdjppfaaGreatDoor
open Go.ChangeShapes Go.WideShapes Go.ChangeAt Go.RowKit
set_option maxRecDepth 100000
theorem u64_wf {n:Int} (h:(Lit.int .u64 n).wf = true):∃ m:Nat,n = (m:Int)∧m < 18446744073709551616:=by
 simp [Lit.wf,IntKind.min,IntKind.max,IntKind.signed,IntKind.bits] at h
 exact ⟨n.toNat,by omega,by omega⟩
theorem trod5 {H:Type} {enc:TypeId×Value→H} {W:World} {t:TypeId} {f0 f1 f2 f3 f4:Field} {fuel:Nat} {cs:List Value} {x:DataW H×List MemPlace} (ht:Tryz.prog.underlying t = some (.struct #[f0,f1,f2,f3,f4])) (h:DataW.trod enc Tryz.prog W 0 (fun _=>true) true fuel t cs = some x) :
  ∃ y0 y1 y2 y3 y4 n,DataW.trod enc Tryz.prog W 0 (fun _=>true) true n f0.type ((cs.drop f0.offset).take (Tryz.prog.cellsOf f0.type)) = some y0∧DataW.trod enc Tryz.prog W 0 (fun _=>true) true n f1.type ((cs.drop f1.offset).take (Tryz.prog.cellsOf f1.type)) = some y1 ∧
   DataW.trod enc Tryz.prog W 0 (fun _=>true) true n f2.type ((cs.drop f2.offset).take (Tryz.prog.cellsOf f2.type)) = some y2∧DataW.trod enc Tryz.prog W 0 (fun _=>true) true n f3.type ((cs.drop f3.offset).take (Tryz.prog.cellsOf f3.type)) = some y3 ∧
   DataW.trod enc Tryz.prog W 0 (fun _=>true) true n f4.type ((cs.drop f4.offset).take (Tryz.prog.cellsOf f4.type)) = some y4:=by
 obtain ⟨xs,n,_,rfl,hl,hlen,hf⟩:=DataW.trod_struct ht h
 match xs,hlen with
 | [y0,y1,y2,y3,y4],_=>exact ⟨y0,y1,y2,y3,y4,n,by simpa using hf 0 f0 rfl,by simpa using hf 1 f1 rfl,by simpa using hf 2 f2 rfl,by simpa using hf 3 f3 rfl,by simpa using hf 4 f4 rfl⟩
theorem u8_wf {n:Int} (h:(Lit.int .u8 n).wf = true):∃ m:Nat,n = (m:Int)∧m < 256:=by
 simp [Lit.wf,IntKind.min,IntKind.max,IntKind.signed,IntKind.bits] at h
 exact ⟨n.toNat,by omega,by omega⟩
theorem open_asked3 {H:Type} {enc:TypeId×Value→H} {W:World} {base:Nat} {v:Value} {d:DataW H} {p:List MemPlace}
  (hok:Value.okWide Tryz.prog W .any base 26 v) (h:DataW.Trod enc Tryz.prog W 0 (fun _=>true) true 26 v d p) :
  ∃ (E F:Int) (a b c e:Nat),v = .agg #[.int .i64 E,.int .i64 F,.int .u64 (a:Int),.int .u64 (b:Int),.int .u64 (c:Int),.int .u8 (e:Int)]∧a < 18446744073709551616∧b < 18446744073709551616∧c < 18446744073709551616:=by
 obtain ⟨cs,rfl,hcs⟩:=okWide_struct Tryz.underlying26 hok
 obtain ⟨fuel,hf⟩:=h
 obtain ⟨y0,y1,y2,y3,y4,n,g0,g1,g2,g3,g4⟩:=trod5 Tryz.underlying26 hf
 have hc1:Tryz.prog.cellsOf 26 = 6:=by kernel_rfl
 have hc2:Tryz.prog.cellsOf 23 = 2:=by kernel_rfl
 have hc3:Tryz.prog.cellsOf 24 = 1:=by kernel_rfl
 have hc4:Tryz.prog.cellsOf 5 = 1:=by kernel_rfl
 have hc5:Tryz.prog.cellsOf 3 = 1:=by kernel_rfl
 rw [hc1] at hcs
 obtain ⟨c0,c1,c2,c3,c4,c5,rfl⟩:∃ c0 c1 c2 c3 c4 c5,cs = #[c0,c1,c2,c3,c4,c5]:=by
  match cs,hcs with
  | ⟨[a,b,c,d,e,f]⟩,_=>exact ⟨a,b,c,d,e,f,rfl⟩
 rw [hc2] at g0
 rw [hc3] at g1 g2 g3
 rw [hc4] at g4
 obtain ⟨z0,z1,m,_,_,k0,k1⟩:=trod_struct2 Tryz.underlying23 g0
 rw [hc5] at k0 k1
 obtain ⟨n0,e0,_,_⟩:=DataW.trod_int Tryz.underlying3 k0
 obtain ⟨n1,e1,_,_⟩:=DataW.trod_int Tryz.underlying3 k1
 obtain ⟨n2,e2,_,w2⟩:=DataW.trod_int Tryz.underlying24 g1
 obtain ⟨n3,e3,_,w3⟩:=DataW.trod_int Tryz.underlying24 g2
 obtain ⟨n4,e4,_,w4⟩:=DataW.trod_int Tryz.underlying24 g3
 obtain ⟨n5,e5,_,w5⟩:=DataW.trod_int Tryz.underlying5 g4
 simp [Value.cells] at e0 e1 e2 e3 e4 e5
 obtain ⟨a,rfl,ha⟩:=u64_wf w2
 obtain ⟨b,rfl,hb⟩:=u64_wf w3
 obtain ⟨c,rfl,hc⟩:=u64_wf w4
 obtain ⟨e,rfl,_⟩:=u8_wf w5
 exact ⟨n0,n1,a,b,c,e,by rw [e0,e1,e2,e3,e4,e5],ha,hb,hc⟩
end Go.Proofs.YtfimakkpdjppfaaGreatDoor
