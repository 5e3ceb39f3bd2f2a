/- Of what NearRoundsRow stands on: FmFrame Frame FrameS ExFrame ExFrameR. -/
import Derived.Test.YtaidedkpfnidpaaGreatDoorPas
import Derived.Deep.Strs
import Derived.SizedLaws
namespace Go.Proofs.YtaidedkpfnidpaaGreatDoor
open Go.ChangeShapes Go.WideShapes Go.ChangeAt Go.RowKit
set_option maxRecDepth 100000
theorem Hf{n:Int}(h:(Lit.int .u64 n).wf=true):∃m:Nat,n=(m:Int)∧m<18446744073709551616:=by
 simp [Lit.wf,IntKind.min,IntKind.max,IntKind.signed,IntKind.bits] at h;exact ⟨n.toNat,by omega,by omega⟩
theorem zb{H:Type}{enc:TypeId×Value→H}{W:World}{base:Nat}{v:Value}{d:DataW H}{p:List MemPlace}(hok:Value.okWide Tryz.prog W .any base 23 v)(h:DataW.Trod enc Tryz.prog W 0 (fun _=>true) true 23 v d p):∃E F:Int,v = .agg #[.int .i64 E,.int .i64 F]:=by
 obtain ⟨cs,rfl,hcs⟩:=okWide_struct Tryz.underlying23 hok;obtain ⟨fuel,hf⟩:=h;obtain ⟨y0,y1,m,_,hl,h0,h1⟩:=trod_struct2 Tryz.underlying23 hf;have hc1:Tryz.prog.cellsOf 23=2:=by kernel_rfl
 have hc2:Tryz.prog.cellsOf 3=1:=by kernel_rfl
 rw [hc1] at hcs;obtain ⟨c0,c1,rfl⟩:∃c0 c1,cs = #[c0,c1]:=by
  match cs,hcs with
  | ⟨[a,b]⟩,_=>exact ⟨a,b,rfl⟩
 rw [hc2] at h0 h1;obtain ⟨n0,e0,_,_⟩:=DataW.trod_int Tryz.underlying3 h0;obtain ⟨n1,e1,_,_⟩:=DataW.trod_int Tryz.underlying3 h1;simp [Value.cells] at e0 e1;exact ⟨n0,n1,by rw [e0,e1]⟩
theorem wS(zs:List Int)(h:∀n∈zs,(Lit.int .u32 n).wf=true):∀(j:Nat),j<zs.length→(((zs.map Int.toNat)[j]?.getD 0:Nat):Int)=zs.getD j 0∧(zs.map Int.toNat)[j]?.getD 0<4294967296:=by
 intro j hj;have hm:=h zs[j] (List.getElem_mem hj);simp [Lit.wf,IntKind.min,IntKind.max,IntKind.signed,IntKind.bits] at hm;rw [List.getElem?_map,List.getElem?_eq_getElem hj,List.getD_eq_getElem?_getD,List.getElem?_eq_getElem hj];simp;omega
theorem Tryz.bytes_limb:Tryz.prog.bytesOf 42=4:=by kernel_rfl
def Jm{H:Type}(W:World)(c:Value)(d:DataW H):Prop:=∃a n cap xs,c = .slice a n cap∧xs.length=n∧n≤cap∧bE W a xs∧Pl.Wf xs∧(cap=0∨∃elems spare,d = .slice elems spare∧elems.length+spare.length=cap)
theorem oZ{H:Type}{enc:TypeId×Value→H}{W:World}{m:Nat}{c0:Value}{y0:DataW H×List MemPlace}(hy':DataW.trod enc Tryz.prog W 0 (fun _=>true) true m 25 [c0]=some y0):Jm W c0 y0.1:=by
 rcases open_ints Tryz.underlying25 Tryz.underlying42 (by kernel_rfl) hy' with ⟨hcs,_⟩|⟨x,l,c,zs,hcs,_,hlc,hm,hz,hyd,hcell,hwz⟩
 ·simp at hcs;subst hcs;exact ⟨none,0,0,[],rfl,rfl,Nat.le_refl _,Or.inl rfl,Pl.wf_nil,Or.inl rfl⟩
 ·simp at hcs;subst hcs;have hz':zs.length=c:=by simpa using hz
  have ht:=wS zs hwz;have hlen:((zs.map Int.toNat).take l).length=l:=by rw [List.length_take,List.length_map];omega
  refine ⟨some x,l,c,(zs.map Int.toNat).take l,rfl,hlen,hlc,?_,?_,Or.inr ⟨lits .u32 (zs.take l),lits .u32 (zs.drop l),by rw [hyd],?_⟩⟩
  ·by_cases h0:l=0
   ·left;rw [h0];rfl
   ·right;obtain ⟨b,off,spot⟩:=x;have h00:=hcell 0 (by omega);have hspot:spot=none:=by simpa [Addr.add] using World.cell?_spot h00
    subst hspot;refine ⟨b,off,rfl,fun j hj=>?_⟩;rw [hlen] at hj;have hj2:=hcell j (by omega);rw [Addr.add_lit] at hj2;rw [hj2,List.getElem?_take,if_pos hj,(ht j (by omega)).1]
  ·intro y hy;have hy2:=List.mem_of_mem_take hy;obtain ⟨i,hi,rfl⟩:=List.getElem_of_mem hy2;have:=(ht i (by simpa using hi)).2;rw [List.getElem?_eq_getElem hi] at this;simpa using this
  ·simp [lits];omega
def Jn{H:Type}(W:World)(v:Value)(d:DataW H):Prop:=∃s a n cap xs a' n' cap' ys,v = .agg #[.bool s,.slice a n cap,.slice a' n' cap']∧(xs.length=n∧n≤cap∧bE W a xs∧Pl.Wf xs)∧(ys.length=n'∧n'≤cap'∧bE W a' ys∧Pl.Wf ys) ∧
 (cap=0∨∃e0 e2 elems spare,d = .agg [e0,.agg [.slice elems spare],e2]∧elems.length+spare.length=cap)∧(cap'=0∨∃e0 e1 elems spare,d = .agg [e0,e1,.agg [.slice elems spare]]∧elems.length+spare.length=cap')
theorem wQ{H:Type}{enc:TypeId×Value→H}{W:World}{base:Nat}{v:Value}{d:DataW H}{p:List MemPlace}(hok:Value.okWide Tryz.prog W .any base 29 v)(h:DataW.Trod enc Tryz.prog W 0 (fun _=>true) true 29 v d p):Jn W v d:=by
 obtain ⟨cs,rfl,hcs⟩:=okWide_struct Tryz.underlying29 hok;obtain ⟨fuel,hf⟩:=h;obtain ⟨y0,y1,y2,m,hx,hl,h0,h1,h2⟩:=Go.Deep.trod_struct3 Tryz.underlying29 hf;have hc1:Tryz.prog.cellsOf 29=3:=by kernel_rfl
 have hc3:Tryz.prog.cellsOf 4=1:=by kernel_rfl
 have hc4:Tryz.prog.cellsOf 27=1:=by kernel_rfl
 have hc5:Tryz.prog.cellsOf 25=1:=by kernel_rfl
 rw [hc1] at hcs;obtain ⟨c0,c1,c2,rfl⟩:∃c0 c1 c2,cs = #[c0,c1,c2]:=by
  match cs,hcs with
  | ⟨[a,b,c]⟩,_=>exact ⟨a,b,c,rfl⟩
 rw [hc3] at h0;rw [hc4] at h1 h2;obtain ⟨n0,e0,_⟩:=DataW.trod_bool Tryz.underlying4 h0;simp [Value.cells] at e0;obtain ⟨z0,m1,hx1,hl1,hz1⟩:=trod_struct1 Tryz.underlying27 h1;have hz1':DataW.trod enc Tryz.prog W 0 (fun _=>true) true m1 25 [c1]=some z0:=by
  rw [hc5] at hz1;simpa [Value.cells] using hz1
 obtain ⟨z2,m2,hx2,hl2,hz2⟩:=trod_struct1 Tryz.underlying27 h2;have hz2':DataW.trod enc Tryz.prog W 0 (fun _=>true) true m2 25 [c2]=some z2:=by
  rw [hc5] at hz2;simpa [Value.cells] using hz2
 obtain ⟨a,n,cap,xs,rfl,k1,k2,k3,k4,k5⟩:=oZ hz1';obtain ⟨a',n',cap',ys,rfl,l1,l2,l3,l4,l5⟩:=oZ hz2';have hd:d = .agg [y0.1,y1.1,y2.1]:=by injection hx
 have hd1:y1.1 = .agg [z0.1]:=by rw [hx1]
 have hd2:y2.1 = .agg [z2.1]:=by rw [hx2]
 refine ⟨n0,a,n,cap,xs,a',n',cap',ys,by rw [e0],⟨k1,k2,k3,k4⟩,⟨l1,l2,l3,l4⟩,?_,?_⟩
 ·rcases k5 with k5|⟨el,sp,k5,k6⟩
  ·exact Or.inl k5
  ·exact Or.inr ⟨y0.1,y2.1,el,sp,by rw [hd,hd1,k5],k6⟩
 ·rcases l5 with l5|⟨el,sp,l5,l6⟩
  ·exact Or.inl l5
  ·exact Or.inr ⟨y0.1,y1.1,el,sp,by rw [hd,hd2,l5],l6⟩
theorem xV{H:Type}{ts:List TypeId}{ds:List (DataW H)}(hsz:(DataW.weightsEach Tryz.prog ts ds).all (·≤reachBytes)=true){j:Nat}{d e0 e2:DataW H}(ht:ts[j]? = some 29)(hd:ds[j]? = some d){elems spare:List (DataW H)}(h:d = .agg [e0,.agg [.slice elems spare],e2]) :
  (elems.length+spare.length)*4≤140737488351232:=by
 subst h;have:=List.all_eq_true.1 hsz _ (DataW.weights_mem_each ht hd ((elems.length+spare.length)*Tryz.prog.bytesOf 42) (by simp [DataW.weights,DataW.weightsEach,Tryz.underlying29,Tryz.underlying27,Tryz.underlying25]));rw [Tryz.bytes_limb] at this;simp only [reachBytes] at this;exact of_decide_eq_true this
theorem zl{H:Type}{ts:List TypeId}{ds:List (DataW H)}(hsz:(DataW.weightsEach Tryz.prog ts ds).all (·≤reachBytes)=true){j:Nat}{d e0 e1:DataW H}(ht:ts[j]? = some 29)(hd:ds[j]? = some d){elems spare:List (DataW H)}(h:d = .agg [e0,e1,.agg [.slice elems spare]]) :
  (elems.length+spare.length)*4≤140737488351232:=by
 subst h;have:=List.all_eq_true.1 hsz _ (DataW.weights_mem_each ht hd ((elems.length+spare.length)*Tryz.prog.bytesOf 42) (by simp [DataW.weights,DataW.weightsEach,Tryz.underlying29,Tryz.underlying27,Tryz.underlying25]));rw [Tryz.bytes_limb] at this;simp only [reachBytes] at this;exact of_decide_eq_true this
end Go.Proofs.YtaidedkpfnidpaaGreatDoor
