/- Of what NearRoundsRow stands on: Base AddTimes Multiply Trim Check Nums PlainB ShiftUp ShiftDown Low DivLimb Clone TakeTimes AddInto TakeInto FmKnown Pick. -/
import Derived.Test.YtaidedkpfnidpaaGreatDoorPac
import Derived.Test.YtaidedkpfnidpaaGreatDoorPab
namespace Go.Proofs.YtaidedkpfnidpaaGreatDoor
open Go.RowKit
def bE(w:World)(a:Option Addr)(xs:List Nat):Prop:=
 xs = []∨∃b off,a=some ⟨b,off,none⟩∧∀j,j<xs.length→w.cell? ⟨b,off+j,none⟩=some (.int .u32 ((xs[j]?.getD 0:Nat):Int))
theorem bE.parts{w:World}{a:Option Addr}{xs:List Nat}(h:bE w a xs) :
  xs = []∨(0<xs.length∧∃b off,a=some ⟨b,off,none⟩∧b<w.heap.size∧∀j,j<xs.length→w.cell? ⟨b,off+j,none⟩=some (.int .u32 ((xs[j]?.getD 0:Nat):Int))):=by
 rcases h with h|⟨b,off,ha,hc⟩
 ·exact Or.inl h
 ·by_cases hx:xs = []
  ·exact Or.inl hx
  ·have hp:0<xs.length:=List.length_pos_iff.2 hx;exact Or.inr ⟨hp,b,off,ha,World.block_lt_of_cell? w ⟨b,off+0,none⟩ (hc 0 hp),hc⟩
theorem bE.below{w w':World}{a:Option Addr}{xs:List Nat}(h:bE w a xs)(hb:Below w.heap.size w w'):bE w' a xs:=by
 rcases h.parts with h|⟨_,b,off,ha,hlt,hc⟩
 ·exact Or.inl h
 ·exact Or.inr ⟨b,off,ha,fun j hj=>(hb.cell (by exact hlt)).trans (hc j hj)⟩
theorem bE.alloc{w:World}{a:Option Addr}{xs:List Nat}(h:bE w a xs)(o:Obj):bE (w.alloc o) a xs:=h.below ((Below.refl _ _).alloc (Nat.le_refl _) o)
def Own(w:World)(base:Nat)(v:Value)(xs:List Nat):Prop:=
 (v = .slice none 0 0∧xs = []) ∨
 ∃g cap cur,v = .slice (some ⟨g,0,none⟩) xs.length cap∧base≤g∧w.heap[g]? = some (.cells cur 42 (0,0))∧xs.length≤cap∧cap≤cur.size∧cap≤9223372036854775807 ∧
  ∀j,j<xs.length→cur[j]? = some (.int .u32 ((xs[j]?.getD 0:Nat):Int))
theorem Own.lim{w:World}{base:Nat}{v:Value}{xs:List Nat}(h:Own w base v xs) :
  ∃a cap,v = .slice a xs.length cap∧xs.length≤cap∧cap≤9223372036854775807∧bE w a xs:=by
 rcases h with ⟨rfl,rfl⟩|⟨g,cap,cur,rfl,hg,hh,h1,h2,h3,hc⟩
 ·exact ⟨none,0,rfl,Nat.le_refl _,by omega,Or.inl rfl⟩
 ·exact ⟨_,cap,rfl,h1,by omega,Or.inr ⟨g,0,rfl,fun j hj=>by rw [Nat.zero_add,cell_of_row w g j cur _ _ hh];exact hc j hj⟩⟩
theorem Own.kept{w w':World}{base:Nat}{v:Value}{xs:List Nat}(h:Own w base v xs)(hb:Below w.heap.size w w'):Own w' base v xs:=by
 rcases h with h|⟨g,cap,cur,rfl,hg,hh,r⟩
 ·exact Or.inl h
 ·have hlt:g<w.heap.size:=by
   by_cases hlt:g<w.heap.size
   ·exact hlt
   ·rw [Array.getElem?_eq_none (by omega)] at hh;cases hh
  exact Or.inr ⟨g,cap,cur,rfl,hg,by rw [hb.block g hlt];exact hh,r⟩
theorem Own.mono{w:World}{base base':Nat}{v:Value}{xs:List Nat}(h:Own w base v xs)(hb:base'≤base):Own w base' v xs:=by
 rcases h with h|⟨g,cap,cur,rfl,hg,r⟩
 ·exact Or.inl h
 ·exact Or.inr ⟨g,cap,cur,rfl,by omega,r⟩
theorem vW{a b:World}(h:Below a.heap.size a b):Below a.heap.size a b.drew:=h.drew
theorem bX{k:IntKind}{a b:Int}(h:a=b):Ending.returned (.int k a) = .returned (.int k b):=by rw [h]
theorem dP{a b:Bool}(h:a=b):Ending.returned (.bool a) = .returned (.bool b):=by rw [h]
def lc(zs:List Nat):Array Value:=(zs.map (fun z:Nat=>Value.int .u32 (z:Int))).toArray
def Row(w:World)(B:Nat)(zs:List Nat):Prop:=∃tl:Array Value,w.heap[B]? = some (.cells (lc zs++tl) 42 (0,0))
theorem lX(zs:List Nat):(lc zs).size=zs.length:=by simp [lc]
theorem Jc(zs:List Nat)(j:Nat)(h:j<zs.length):(lc zs)[j]? = some (.int .u32 ((zs[j]?.getD 0:Nat):Int)):=by simp [lc,h]
theorem Ff(zs:List Nat)(j v:Nat):(lc zs).setIfInBounds j (.int .u32 (v:Int))=lc (zs.set j v):=by
 simp [lc,List.setIfInBounds_toArray,List.map_set]
theorem sP(zs:List Nat)(tl:Array Value)(j:Nat)(h:j<zs.length):(lc zs++tl)[j]? = some (.int .u32 ((zs[j]?.getD 0:Nat):Int)):=by
 rw [Array.getElem?_append_left (by rw [lX];exact h),Jc zs j h]
theorem Row.cell{w:World}{B:Nat}{zs:List Nat}(h:Row w B zs)(j:Nat)(hj:j<zs.length):w.cell? ⟨B,j,none⟩=some (.int .u32 ((zs[j]?.getD 0:Nat):Int)):=by
 obtain ⟨tl,h⟩:=h;rw [cell_of_row w B j _ _ _ h,sP zs tl j hj]
theorem Row.frozen{w:World}{B:Nat}{zs:List Nat}(h:Row w B zs)(j:Nat):w.frozen? ⟨B,j,none⟩=false:=by
 obtain ⟨tl,h⟩:=h;exact frozen_of_row w B j _ _ h
theorem Row.set{w:World}{B:Nat}{zs:List Nat}(h:Row w B zs)(j v:Nat)(hj:j<zs.length):Row (w.setCell ⟨B,j,none⟩ (.int .u32 (v:Int))) B (zs.set j v):=by
 obtain ⟨tl,h⟩:=h;refine ⟨tl,?_⟩;rw [heap_setCell_same w B j _ _ _ h,Array.setIfInBounds_append_left (by rw [lX];exact hj),Ff]
theorem Row.lt{w:World}{B:Nat}{zs:List Nat}(h:Row w B zs):B<w.heap.size:=by
 obtain ⟨tl,h⟩:=h;by_cases hlt:B<w.heap.size
 ·exact hlt
 ·rw [Array.getElem?_eq_none (by omega)] at h;cases h
structure Only(B:Nat)(w w':World):Prop where
 os:w'.os=w.os
 tape:w'.tape=w.tape
 output:w'.output=w.output
 size:w'.heap.size=w.heap.size
 block:∀k,k≠B→w'.heap[k]? = w.heap[k]?
theorem Only.refl(B:Nat)(w:World):Only B w w:=⟨rfl,rfl,rfl,rfl,fun _ _=>rfl⟩
theorem Only.trans{B:Nat}{a b c:World}(h:Only B a b)(k:Only B b c):Only B a c:=
 ⟨k.os.trans h.os,k.tape.trans h.tape,k.output.trans h.output,k.size.trans h.size,fun i hi=>(k.block i hi).trans (h.block i hi)⟩
theorem Only.setCell{B:Nat}{a w:World}(h:Only B a w)(j:Nat)(u:Value):Only B a (w.setCell ⟨B,j,none⟩ u):=
 h.trans ⟨rfl,rfl,rfl,by simp [World.setCell],fun k hk=>heap_setCell_other w _ k u hk⟩
theorem Only.drew{B:Nat}{a w:World}(h:Only B a w):Only B a w.drew:=⟨h.os,h.tape,h.output,h.size,h.block⟩
theorem Only.cell{B:Nat}{w w':World}(h:Only B w w'){p:Addr}(hp:p.block≠B):w'.cell? p=w.cell? p:=World.cell?_of_block (w:=w) (h.block p.block hp)
theorem Only.frozen{B:Nat}{w w':World}(h:Only B w w'){p:Addr}(hp:p.block≠B):w'.frozen? p=w.frozen? p:=World.frozen?_of_block (w:=w) (h.block p.block hp)
theorem Only.below{B:Nat}{a w w':World}(h:Below a.heap.size a w)(k:Only B w w')(hB:a.heap.size≤B):Below a.heap.size a w':=
 h.trans ⟨k.os,k.tape,k.output,Nat.le_of_eq k.size.symm,fun i hi=>k.block i (by omega)⟩
theorem Only.lim{B:Nat}{w w':World}{a:Option Addr}{xs:List Nat}(k:Only B w w')(h:bE w a xs)(hne:∀b off,a=some ⟨b,off,none⟩→b≠B):bE w' a xs:=by
 rcases h with h|⟨b,off,ha,hc⟩
 ·exact Or.inl h
 ·exact Or.inr ⟨b,off,ha,fun j hj=>(k.cell (hne b off ha)).trans (hc j hj)⟩
theorem Row.kept{w w':World}{B:Nat}{zs:List Nat}(h:Row w B zs)(hb:Below w.heap.size w w'):Row w' B zs:=by
 have hl:=h.lt;obtain ⟨tl,h⟩:=h;exact ⟨tl,by rw [hb.block B hl];exact h⟩
theorem Row.own{w:World}{B base:Nat}{zs:List Nat}(h:Row w B zs)(hB:base≤B)(n cap:Nat)(hn:n≤cap)(hcap:cap≤zs.length)(hz:zs.length≤9223372036854775807):Own w base (.slice (some ⟨B,0,none⟩) n cap) (zs.take n):=by
 have e:(zs.take n).length=n:=by rw [List.length_take];omega
 obtain ⟨tl,h⟩:=h;refine Or.inr ⟨B,cap,lc zs++tl,by rw [e],hB,h,by omega,by rw [Array.size_append,lX];omega,by omega,fun j hj=>?_⟩;rw [e] at hj;rw [sP zs tl j (by omega),List.getElem?_take,if_pos hj]
theorem Row.prefix{w:World}{B:Nat}{zs:List Nat}(h:Row w B zs)(n:Nat):Row w B (zs.take n):=by
 obtain ⟨tl,h⟩:=h;refine ⟨lc (zs.drop n)++tl,?_⟩;rw [h,←Array.append_assoc];have e:lc (zs.take n)++lc (zs.drop n)=lc zs:=by
  simp only [lc,List.append_toArray,←List.map_append,List.take_append_drop]
 rw [e]
theorem rF(x f:Nat):(0:Int)≤(x:Int)*(f:Int):=Int.mul_nonneg (Int.natCast_nonneg _) (Int.natCast_nonneg _)
theorem ug{x f:Nat}(hx:x<4294967296)(hf:f<4294967296):(x:Int)*(f:Int)≤18446744065119617025:=by
 have:x*f≤4294967295*4294967295:=Nat.mul_le_mul (by omega) (by omega);rw [←Int.natCast_mul];omega
theorem iL(pre out d post:List Nat)(k:Nat)(hk:out.length=k)(hd:k<d.length):(pre++(out++d.drop k)++post)[pre.length+k]?.getD 0=d[k]?.getD 0:=by
 rw [List.append_assoc,List.getElem?_append_right (by omega),Nat.add_sub_cancel_left,List.getElem?_append_left (by simp;omega),List.getElem?_append_right (by omega),hk,Nat.sub_self,List.getElem?_drop];simp
theorem set_mid(pre out d post:List Nat)(k v:Nat)(hk:out.length=k)(hd:k<d.length):(pre++(out++d.drop k)++post).set (pre.length+k) v=pre++((out ++ [v])++d.drop (k+1))++post:=by
 rw [Pl.drop_cons d k hd,List.append_assoc,List.set_append_right _ _ (by omega),Nat.add_sub_cancel_left,List.set_append_left _ _ (by simp;omega),List.set_append_right _ _ (by omega),hk,Nat.sub_self];simp
theorem Tryz.info_limb:(Tryz.prog.info? 42).map (fun i=>(i.zero,i.size,i.bytes))=some (some (.int .u32 0),1,4):=by kernel_rfl
theorem Tryz.under_limbs:Tryz.prog.underlying 25=some (.slice 42):=by kernel_rfl
theorem Ei(n:Nat):madeCells #[.int .u32 0] n=lc (List.replicate n 0):=by
 apply Array.toList_inj.1;rw [toList_madeCells_one];simp [lc]
theorem dA(C:Int)(n:Nat)(hC:C=(n:Int))(hn:n≤1073741824)(w:World) :
  (Instr.makeSlice 25 (.int .i64 C) (.int .i64 C)).run Tryz.prog w = .ok (.slice (some ⟨w.heap.size,0,none⟩) n n) (w.alloc (.cells (lc (List.replicate n 0)) 42)):=by
 obtain ⟨i,hi,hz,hs,hb⟩:=info_parts Tryz.info_limb;have:=run_make (P:=Tryz.prog) w 25 42 i (.int .u32 0) Tryz.under_limbs hi hz .i64 .i64 C C (by omega) (Int.le_refl _) (by rw [hb];omega) (by omega);rw [this,hC,hs];simp only [Int.toNat_natCast,Nat.mul_one,Value.cells,Ei]
theorem Row.made(w:World)(zs:List Nat):Row (w.alloc (.cells (lc zs) 42)) w.heap.size zs:=⟨#[],by rw [Array.append_empty];exact heap_alloc_new w _⟩
theorem Row.only{w w':World}{B C:Nat}{zs:List Nat}(h:Row w B zs)(k:Only C w w')(hne:B≠C):Row w' B zs:=by
 obtain ⟨tl,h⟩:=h;exact ⟨tl,by rw [k.block B hne];exact h⟩
theorem Own.set{w:World}{base:Nat}{v:Value}{xs:List Nat}(h:Own w base v xs){p:Addr}(hp:p.block<base)(u:Value):Own (w.setCell p u) base v xs:=by
 rcases h with h|⟨g,cap,cur,rfl,hg,hh,r⟩
 ·exact Or.inl h
 ·exact Or.inr ⟨g,cap,cur,rfl,hg,by rw [heap_setCell_other w p g u (by omega)];exact hh,r⟩
theorem kG(r x:Nat)(hr:r<4294967296)(hx:x<4294967296):Go.bits .or .u64 ((r:Int)*4294967296) (x:Int)=(r:Int)*4294967296+(x:Int):=by
 have h:=bits_or_u64_nat (r*4294967296) x (by omega) (by omega);have e:r*4294967296|||x=r*4294967296+x:=by
  have:=Nat.two_pow_add_eq_or_of_lt (i:=32) (b:=x) (by omega) r;rw [Nat.mul_comm r 4294967296];exact this.symm
 rw [e] at h;rw [show ((r:Int)*4294967296)=((r*4294967296:Nat):Int) by omega,h];omega
theorem mX(e:Nat)(h:e<9223372036854775808):Go.bits .and .i64 (e:Int) 1=((e%2:Nat):Int):=by
 have h1:(BitVec.ofInt 64 (e:Int)).toNat=e:=by
  rw [BitVec.ofInt_natCast,BitVec.toNat_ofNat];exact Nat.mod_eq_of_lt (by omega)
 show IntKind.i64.wrap ((BitVec.ofInt 64 (e:Int)&&&BitVec.ofInt 64 1).toNat:Int)=_
 rw [BitVec.toNat_and,h1,show (BitVec.ofInt 64 1).toNat=1 from rfl,Nat.and_one_is_mod,IntKind.wrap_i64];omega
end Go.Proofs.YtaidedkpfnidpaaGreatDoor
namespace Go.Proofs.YtaidedkpfnidpaaGreatDoor
open Go.RowKit
set_option maxHeartbeats 400000 in
theorem si(B b off cap cap' f:Nat)(pre d post xs:List Nat)(w:World)(hd:d.length=xs.length)(hlen:xs.length≤1073741824)(hne:b≠B)(wd:Pl.Wf d)(wx:Pl.Wf xs)(hf:f<4294967296)(hrow:Row w B (pre++d++post))(hc:∀j,j<xs.length→w.cell? ⟨b,off+j,none⟩=some (.int .u32 ((xs[j]?.getD 0:Nat):Int))) :
  Calls Tryz.prog 169 #[.slice (some ⟨B,pre.length,none⟩) d.length cap,.slice (some ⟨b,off,none⟩) xs.length cap',.int .u32 (f:Int)] w
   fun e w'=>∃(out:List Nat) (c:Nat),e = .returned (.int .u32 (c:Int))∧out.length=xs.length∧Pl.Wf out∧c<4294967296∧Pl.val out+4294967296^xs.length*c=Pl.val d+f*Pl.val xs∧Row w' B (pre++out++post)∧Only B w w':=by
 go_enter Tryz.func169,Tryz.ntmps169
 go_wp2
 go_loopw [7,12] (fun t i wr=>∃(k c:Nat) (out:List Nat),k≤xs.length∧i = .int .i64 k∧t = .int .u64 (c:Int)∧c<4294967296∧out.length=k∧Pl.Wf out ∧
   Pl.val out+4294967296^k*c=Pl.val (d.take k)+f*Pl.val (xs.take k)∧Row wr B (pre++(out++d.drop k)++post)∧Only B w wr) (fun _ i _=>xs.length-(intOf i).toNat)
 case atStart=>exact ⟨0,0,[],Nat.zero_le _,rfl,rfl,by omega,rfl,Pl.wf_nil,by simp [Pl.val],by simpa using hrow,Only.refl _ _⟩
 case round=>
  obtain ⟨k,c,out,hk,rfl,rfl,hcl,hol,how,hval,hr,honly⟩:=hrel;by_cases hlt:k<xs.length
  ·obtain ⟨x,hx⟩:∃x,x=xs[k]?.getD 0:=⟨_,rfl⟩;obtain ⟨y,hy⟩:∃y,y=d[k]?.getD 0:=⟨_,rfl⟩;have hcx:wr.cell? ⟨b,off+k,none⟩=some (.int .u32 (x:Int)):=by rw [hx];exact (honly.cell (by exact hne)).trans (hc k hlt)
   have hcd:wr.cell? ⟨B,pre.length+k,none⟩=some (.int .u32 (y:Int)):=by
    rw [hr.cell (pre.length+k) (by simp;omega),iL _ _ _ _ _ hol (by omega),hy]
   have hfz:wr.frozen? ⟨B,pre.length+k,none⟩=false:=hr.frozen _;have hx1:x<4294967296:=by rw [hx];exact Pl.wf_at wx k
   have hy1:y<4294967296:=by rw [hy];exact Pl.wf_at wd k
   have hm1:=rF x f;have hm2:=ug hx1 hf;have HV:Hid (Pl.val out+4294967296^k*c=Pl.val (d.take k)+f*Pl.val (xs.take k)):=hval;have HX:Hid (x=xs[k]?.getD 0):=hx;have HY:Hid (y=d[k]?.getD 0):=hy;clear hval hx hy;go_wp2
   have e1:((c:Int)+((x:Int)*(f:Int)+(y:Int)))/4294967296=(((c+x*f+y)/4294967296:Nat):Int):=by omega
   have e2:((c:Int)+((x:Int)*(f:Int)+(y:Int)))%4294967296=(((c+x*f+y)%4294967296:Nat):Int):=by omega
   have hb:c+x*f+y<18446744073709551616:=by have:((x*f:Nat):Int)=(x:Int)*(f:Int):=Int.natCast_mul _ _;omega
   go_roundw
   case rel=>
    rw [e1,e2];refine ⟨k+1,(c+x*f+y)/4294967296,out ++ [(c+x*f+y)%4294967296],by omega,by go_num,rfl,by omega,by simp [hol],Pl.wf_append how (Pl.wf_one (by omega)),?_,?_,honly.setCell _ _⟩
    ·rw [Pl.val_append,Pl.val_one,hol,Pl.val_take_succ d k (by omega),Pl.val_take_succ xs k hlt,←HX.out,←HY.out];exact Pl.step_mul _ (Nat.pow_succ ..) HV.out _ _ _ (by omega) y rfl
    ·have:=hr.set (pre.length+k) ((c+x*f+y)%4294967296) (by simp;omega)
     rwa [set_mid _ _ _ _ _ _ hol (by omega)] at this
   case measure=>simp [intOf];omega
  ·have hke:k=xs.length:=by omega
   have HV:Hid (Pl.val out+4294967296^k*c=Pl.val (d.take k)+f*Pl.val (xs.take k)):=hval;clear hval;go_wp2
   go_ret
   refine ⟨out,c,bX (by omega),by omega,how,hcl,?_,?_,honly⟩
   ·have:=HV.out;rw [hke,List.take_of_length_le (by omega),List.take_of_length_le (by omega)] at this;exact this
   ·rw [List.drop_eq_nil_of_le (by omega),List.append_nil] at hr;exact hr
theorem uE(B p n b off cap cap' f:Nat)(pre d post xs:List Nat)(w:World)(hp:pre.length=p)(hd:d.length=n)(hx:xs.length=n)(hlen:n≤1073741824)(hne:b≠B)(wd:Pl.Wf d)(wx:Pl.Wf xs)(hf:f<4294967296)(hrow:Row w B (pre++d++post))(hc:∀j,j<xs.length→w.cell? ⟨b,off+j,none⟩=some (.int .u32 ((xs[j]?.getD 0:Nat):Int))) :
  Calls Tryz.prog 169 #[.slice (some ⟨B,p,none⟩) n cap,.slice (some ⟨b,off,none⟩) n cap',.int .u32 (f:Int)] w
   fun e w'=>∃(out:List Nat) (c:Nat),e = .returned (.int .u32 (c:Int))∧out.length=n∧Pl.Wf out∧c<4294967296∧Pl.val out+4294967296^n*c=Pl.val d+f*Pl.val xs∧Row w' B (pre++out++post)∧Only B w w':=by
 subst hp;subst hx;have h:=si B b off cap cap' f pre d post xs w hd hlen hne wd wx hf hrow hc;rw [hd] at h;exact h
end Go.Proofs.YtaidedkpfnidpaaGreatDoor
namespace Go.Proofs.YtaidedkpfnidpaaGreatDoor
open Go.RowKit
theorem BI{x y:Nat}{lo out pre d:List Nat}{c i l m:Nat}(h:Pl.val lo=x*y)(hl:lo=pre++d)(hp:pre.length=i)(ho:out.length=m)(e:Pl.val out+4294967296^m*c=Pl.val d+l*x) :
  Pl.val (pre++out ++ [c])=x*(y+4294967296^i*l):=by
 rw [List.append_assoc,Pl.val_append,Pl.val_append,Pl.val_one,hp,ho,e];rw [hl,Pl.val_append,hp] at h;rw [Nat.mul_add,Nat.mul_add,←Nat.add_assoc,h,Nat.mul_comm l x,Nat.mul_left_comm]
set_option maxHeartbeats 400000 in
theorem uj(b off cap b' off' cap':Nat)(xs ys:List Nat)(w:World)(hxp:0<xs.length)(hx:xs.length≤16384)(hy:ys.length≤16384)(wx:Pl.Wf xs)(wy:Pl.Wf ys)(hb:b<w.heap.size)(hb':b'<w.heap.size)(hc:∀j,j<xs.length→w.cell? ⟨b,off+j,none⟩=some (.int .u32 ((xs[j]?.getD 0:Nat):Int)))(hc':∀j,j<ys.length→w.cell? ⟨b',off'+j,none⟩=some (.int .u32 ((ys[j]?.getD 0:Nat):Int))) :
  Calls Tryz.prog 152 #[.slice (some ⟨b,off,none⟩) xs.length cap,.slice (some ⟨b',off',none⟩) ys.length cap'] w
   fun e w'=>∃zs:List Nat,e = .returned (.slice (some ⟨w.heap.size,0,none⟩) (xs.length+ys.length) (xs.length+ys.length))∧zs.length=xs.length+ys.length∧Pl.Wf zs∧Pl.val zs=Pl.val xs*Pl.val ys∧Row w' w.heap.size zs∧Below w.heap.size w w':=by
 have hxn:¬xs = []:=fun h=>by simp [h] at hxp
 have hmk:=dA ((xs.length:Int)+(ys.length:Int)) (xs.length+ys.length) (by omega) (by omega);go_enter Tryz.func152,Tryz.ntmps152
 go_wp2
 clear hmk
 go_loopw [17] (fun i wr=>∃(k:Nat) (lo:List Nat),k≤ys.length∧i = .int .i64 k∧lo.length=k+xs.length∧Pl.Wf lo∧Pl.val lo=Pl.val xs*Pl.val (ys.take k) ∧
   Row wr w.heap.size (lo++List.replicate (ys.length-k) 0)∧Below w.heap.size w wr) (fun i _=>ys.length-(intOf i).toNat)
 case atStart=>
  refine ⟨0,List.replicate xs.length 0,Nat.zero_le _,rfl,by simp,Pl.wf_replicate _,by simp [Pl.val_replicate,Pl.val],?_,ah _ _⟩;rw [List.replicate_append_replicate];exact Row.made _ _
 case round=>
  obtain ⟨k,lo,hk,rfl,hlo,wlo,hval,hr,hbel⟩:=hrel;by_cases hlt:k<ys.length
  ·obtain ⟨y,hyy⟩:∃y,y=ys[k]?.getD 0:=⟨_,rfl⟩;have hy1:y<4294967296:=by rw [hyy];exact Pl.wf_at wy k
   have hcy:wr.cell? ⟨b',off'+k,none⟩=some (.int .u32 (y:Int)):=by rw [hyy];exact (hbel.cell (by exact hb')).trans (hc' k hlt)
   have HC:Hid (∀j,j<xs.length→wr.cell? ⟨b,off+j,none⟩=some (.int .u32 ((xs[j]?.getD 0:Nat):Int))):=fun j hj=>(hbel.cell (by exact hb)).trans (hc j hj);have HV:Hid (Pl.val lo=Pl.val xs*Pl.val (ys.take k)):=hval;have HY:Hid (y=ys[k]?.getD 0):=hyy;clear hval hyy;by_cases hz:y=0
   ·subst hz;go_wp2
    go_roundw
    case rel=>
     refine ⟨k+1,lo ++ [0],by omega,by go_num,by simp;omega,Pl.wf_append wlo (Pl.wf_one (by omega)),?_,?_,hbel⟩
     ·rw [Pl.val_append,Pl.val_one,Nat.mul_zero,Nat.add_zero,Pl.val_take_succ ys k hlt,←HY.out,Nat.mul_zero,Nat.add_zero];exact HV.out
     ·rw [List.append_assoc];have e:ys.length-k=ys.length-(k+1)+1:=by omega
      rw [e,List.replicate_succ] at hr;exact hr
    case measure=>simp [intOf];omega
   ·have hzb:((y:Int)==0)=false:=by simpa using hz
    go_wp2_with fail
    have hpd:lo=lo.take k++lo.drop k:=(List.take_append_drop k lo).symm;have hpl:(lo.take k).length=k:=by rw [List.length_take];omega
    have hdl:(lo.drop k).length=xs.length:=by rw [List.length_drop];omega
    have wd:Pl.Wf (lo.drop k):=Pl.wf_drop wlo k;have wp:Pl.Wf (lo.take k):=Pl.wf_take wlo k;have hrr:Row wr w.heap.size (lo.take k++lo.drop k++List.replicate (ys.length-k) 0):=by rw [←hpd];exact hr
    generalize lo.take k=pre at *;generalize lo.drop k=d at *;have HD:Hid (lo=pre++d):=hpd;clear hpd;refine (uE w.heap.size k xs.length b off _ _ y pre d (List.replicate (ys.length-k) 0) xs wr hpl hdl rfl (by omega) (by omega) wd wx hy1 hrr HC.out).mono ?_;rintro e w1 ⟨out,c,rfl,hol,wo,hcl,hev,hr1,ho1⟩;have hrl:(pre++out++List.replicate (ys.length-k) 0).length=xs.length+ys.length:=by simp;omega
    have hcs:=hr1.cell (k+xs.length) (by omega);have hfs:=hr1.frozen (k+xs.length);have HR:=hide hr1;have HO:=hide ho1;have HE:=hide hev;have HW:=hide hr;clear hr1 ho1 hev hr hrr hrl;go_wp2
    go_roundw
    case rel=>
     refine ⟨k+1,pre++out ++ [c],by omega,by go_num,by simp;omega,Pl.wf_append (Pl.wf_append wp wo) (Pl.wf_one hcl),?_,?_,?_⟩
     ·rw [Pl.val_take_succ ys k hlt,←HY.out];exact BI HV.out HD.out hpl hol (aa HE)
     ·have h:=(aa HR).set (k+xs.length) c (by simp;omega);have e:ys.length-k=ys.length-(k+1)+1:=by omega
      rw [e,List.replicate_succ,List.set_append_right _ _ (by simp;omega)] at h;have e2:k+xs.length-(pre++out).length=0:=by simp;omega
      rw [e2] at h;simpa using h
     ·exact ((aa HO).setCell _ _).below hbel (Nat.le_refl _)
    case measure=>simp [intOf];omega
  ·go_wp2
   have hke:k=ys.length:=by omega
   go_ret
   refine ⟨lo,rfl,by omega,wlo,?_,?_,hbel⟩
   ·rw [hval,hke,List.take_of_length_le (Nat.le_refl _)]
   ·rw [hke,Nat.sub_self] at hr;simpa using hr
end Go.Proofs.YtaidedkpfnidpaaGreatDoor
namespace Go.Proofs.YtaidedkpfnidpaaGreatDoor
open Go.RowKit
set_option maxHeartbeats 400000 in
theorem rE(b off cap:Nat)(xs:List Nat)(w:World)(hlen:xs.length≤cap)(hcap:cap≤9223372036854775807)(hc:∀j,j<xs.length→w.cell? ⟨b,off+j,none⟩=some (.int .u32 ((xs[j]?.getD 0:Nat):Int))) :
  Calls Tryz.prog 87 #[.slice (some ⟨b,off,none⟩) xs.length cap] w fun e w'=>w=w'∧∃n,n≤xs.length∧(∀j,n≤j→j<xs.length→xs[j]?.getD 0=0)∧(n=0∨xs[n-1]?.getD 0≠0)∧e = .returned (.slice (some ⟨b,off,none⟩) n n):=by
 go_enter Tryz.func87,Tryz.ntmps87
 go_wp2
 go_loop [3] (fun t=>∃k:Nat,k≤xs.length∧t = .int .i64 k∧∀j,k≤j→j<xs.length→xs[j]?.getD 0=0) (fun t=>(intOf t).toNat)
 case atStart=>exact ⟨xs.length,Nat.le_refl _,rfl,fun j h1 h2=>by omega⟩
 case round=>
  obtain ⟨k,hk,rfl,hz⟩:=hrel;have HZ:Hid (∀j,k≤j→j<xs.length→xs[j]?.getD 0=0):=hz;clear hz;have hcell:0<k→w.cell? ⟨b,off+(k-1),none⟩=some (.int .u32 ((xs[k-1]?.getD 0:Nat):Int)):=fun _=>hc _ (by omega);go_wp2
  ·have hlt:0<k:=by assumption
   have hb:(((xs[k-1]?.getD 0:Nat):Int)==0)=true:=by assumption
   go_round
   case rel=>
    refine ⟨k-1,by omega,by go_num,fun j h1 h2=>?_⟩;by_cases e:j=k-1
    ·subst e;simpa using hb
    ·exact HZ.out j (by omega) h2
   case measure=>simp [intOf];omega
  ·have hb:(((xs[k-1]?.getD 0:Nat):Int)==0)=false:=by assumption
   go_ret
   exact ⟨rfl,k,hk,HZ.out,Or.inr (by simpa using hb),rfl⟩
  ·have hz:k=0:=by omega
   go_ret
   exact ⟨rfl,k,hk,HZ.out,Or.inl hz,rfl⟩
theorem dL(b off n cap:Nat)(xs:List Nat)(w:World)(hn:xs.length=n)(hlen:n≤cap)(hcap:cap≤9223372036854775807)(hc:∀j,j<xs.length→w.cell? ⟨b,off+j,none⟩=some (.int .u32 ((xs[j]?.getD 0:Nat):Int))) :
  Calls Tryz.prog 87 #[.slice (some ⟨b,off,none⟩) n cap] w fun e w'=>w=w'∧∃n,n≤xs.length∧(∀j,n≤j→j<xs.length→xs[j]?.getD 0=0)∧(n=0∨xs[n-1]?.getD 0≠0)∧e = .returned (.slice (some ⟨b,off,none⟩) n n):=by
 subst hn;exact rE b off cap xs w hlen hcap hc
theorem kZ(a:Option Addr)(cap:Nat)(w:World) :
  Calls Tryz.prog 87 #[.slice a 0 cap] w fun e w'=>w=w'∧e = .returned (.slice a 0 0):=by
 go_enter Tryz.func87,Tryz.ntmps87
 go_wp2
 refine wp_loop_rounds 1 ?_;rw [rounds_succ];go_wp2
 go_ret
 exact ⟨rfl,rfl⟩
end Go.Proofs.YtaidedkpfnidpaaGreatDoor
namespace Go.Proofs.YtaidedkpfnidpaaGreatDoor
open Go.RowKit
def eG(xs:List Nat):Int:=if 16384<xs.length then 4 else if 0<xs.length∧xs[xs.length-1]?.getD 0=0 then 10 else 0
theorem bC{xs:List Nat}(h:xs.length≤16384)(hn:Pl.Norm xs):eG xs=0:=by
 unfold eG;rw [if_neg (by omega),if_neg];rintro ⟨h1,h2⟩;exact Pl.norm_last hn h1 h2
set_option maxHeartbeats 400000 in
theorem eX(a:Option Addr)(cap:Nat)(xs:List Nat)(w:World)(hbig:xs.length≤9223372036854775807)(hl:bE w a xs) :
  Calls Tryz.prog 98 #[.agg #[.slice a xs.length cap]] w fun e w'=>e = .returned (.int .i64 (eG xs))∧Below w.heap.size w w':=by
 rcases hl.parts with rfl|⟨hp,b,off,rfl,hlt,hc⟩
 ·go_enter Tryz.func98,Tryz.ntmps98
  go_wp2
  go_ret
  exact ⟨rfl,(Below.refl _ _).alloc (Nat.le_refl _) _⟩
 ·have hcell:=hc (xs.length-1) (by omega);clear hc hl;go_enter Tryz.func98,Tryz.ntmps98
  go_wp2
  all_goals go_ret
  ·have h1:(16384:Int)<xs.length:=by assumption
   exact ⟨bX (a:=4) (by rw [eG,if_pos (by omega)]),(Below.refl _ _).alloc (Nat.le_refl _) _⟩
  ·have h1:(xs.length:Int)≤16384:=by assumption
   have h2:(((xs[xs.length-1]?.getD 0:Nat):Int)==0)=true:=by assumption
   exact ⟨bX (a:=10) (by rw [eG,if_neg (by omega),if_pos ⟨hp,by simpa using h2⟩]),(Below.refl _ _).alloc (Nat.le_refl _) _⟩
  ·have h1:(xs.length:Int)≤16384:=by assumption
   have h2:(((xs[xs.length-1]?.getD 0:Nat):Int)==0)=false:=by assumption
   exact ⟨bX (a:=0) (by rw [eG,if_neg (by omega),if_neg (fun h=>by simp [h.2] at h2)]),(Below.refl _ _).alloc (Nat.le_refl _) _⟩
def fU(xs ys:List Nat):Int:=if eG xs=0 then eG ys else eG xs
theorem eB{xs ys:List Nat}(h:eG xs=0)(k:eG ys=0):fU xs ys=0:=by rw [fU,if_pos h,k]
set_option maxHeartbeats 400000 in
theorem bq(a a':Option Addr)(cap cap':Nat)(xs ys:List Nat)(w:World)(hx:xs.length≤9223372036854775807)(hy:ys.length≤9223372036854775807)(hl:bE w a xs)(hl':bE w a' ys) :
  Calls Tryz.prog 84 #[.agg #[.slice a xs.length cap],.agg #[.slice a' ys.length cap']] w fun e w'=>e = .returned (.int .i64 (fU xs ys))∧Below w.heap.size w w':=by
 by_cases h0:eG xs=0
 ·have hb0:(eG xs != 0)=false:=by simp [h0]
  have H0:Hid (eG xs=0):=h0;clear h0;go_enter Tryz.func84,Tryz.ntmps84
  go_wp2_with fail
  refine (eX a cap xs _ hx ((hl.alloc _).alloc _)).mono ?_;rintro e w1 ⟨rfl,hb⟩;obtain ⟨hc1,hf1⟩:=bO hb;have hl1:=((hl'.alloc _).alloc _).below hb;go_wp2_with fail
  refine (eX a' cap' ys _ hy hl1).mono ?_;rintro e w2 ⟨rfl,hb2⟩;go_wp2
  go_ret
  exact ⟨bX (by rw [fU,if_pos H0.out]),ai (ai (ah _ _) (ah _ _)) (ai hb hb2)⟩
 ·have hb0:(eG xs != 0)=true:=by simp [h0]
  have H0:Hid (¬eG xs=0):=h0;clear h0;go_enter Tryz.func84,Tryz.ntmps84
  go_wp2_with fail
  refine (eX a cap xs _ hx ((hl.alloc _).alloc _)).mono ?_;rintro e w1 ⟨rfl,hb⟩;obtain ⟨hc1,hf1⟩:=bO hb;go_wp2
  go_ret
  exact ⟨bX (by rw [fU,if_neg H0.out]),ai (ai (ah _ _) (ah _ _)) hb⟩
end Go.Proofs.YtaidedkpfnidpaaGreatDoor
namespace Go.Proofs.YtaidedkpfnidpaaGreatDoor
open Go.RowKit
def Num(w:World)(a:Option Addr)(n m:Nat):Prop:=∃xs,xs.length=n∧bE w a xs∧Pl.Wf xs∧Pl.Norm xs∧Pl.val xs=m∧n≤16384
def Mine(w:World)(base:Nat)(a:Option Addr)(n cap m:Nat):Prop:=∃xs,xs.length=n∧Own w base (.slice a n cap) xs∧Pl.Wf xs∧Pl.Norm xs∧Pl.val xs=m∧n≤16384
theorem Mine.num{w:World}{base:Nat}{a:Option Addr}{n cap m:Nat}(h:Mine w base a n cap m):Num w a n m:=by
 obtain ⟨xs,hn,ho,hw,hN,hv,hl⟩:=h;obtain ⟨a',cap',e,_,_,hlim⟩:=ho.lim;injection e with e1 e2 e3
 exact ⟨xs,hn,by rw [e1];exact hlim,hw,hN,hv,hl⟩
theorem Mine.kept{w w':World}{base:Nat}{a:Option Addr}{n cap m:Nat}(h:Mine w base a n cap m)(hb:Below w.heap.size w w'):Mine w' base a n cap m:=by
 obtain ⟨xs,hn,ho,r⟩:=h;exact ⟨xs,hn,ho.kept hb,r⟩
theorem Mine.mono{w:World}{base base':Nat}{a:Option Addr}{n cap m:Nat}(h:Mine w base a n cap m)(hb:base'≤base):Mine w base' a n cap m:=by
 obtain ⟨xs,hn,ho,r⟩:=h;exact ⟨xs,hn,ho.mono hb,r⟩
theorem Mine.set{w:World}{base:Nat}{a:Option Addr}{n cap m:Nat}(h:Mine w base a n cap m){p:Addr}(hp:p.block<base)(u:Value):Mine (w.setCell p u) base a n cap m:=by
 obtain ⟨xs,hn,ho,r⟩:=h;exact ⟨xs,hn,ho.set hp u,r⟩
theorem Num.kept{w w':World}{a:Option Addr}{n m:Nat}(h:Num w a n m)(hb:Below w.heap.size w w'):Num w' a n m:=by
 obtain ⟨xs,hn,hl,r⟩:=h;exact ⟨xs,hn,hl.below hb,r⟩
theorem Num.len{w:World}{a:Option Addr}{n m:Nat}(h:Num w a n m):n≤16384:=by
 obtain ⟨xs,_,_,_,_,_,hl⟩:=h;exact hl
theorem Num.zero{w:World}{a:Option Addr}{n m:Nat}(h:Num w a n m):n=0↔m=0:=by
 obtain ⟨xs,hn,_,hw,hN,hv,_⟩:=h;constructor
 ·intro e;have:xs = []:=List.length_eq_zero_iff.1 (by omega);rw [←hv,this];rfl
 ·intro e;have:=Pl.norm_zero hN (by omega);rw [←hn,this];rfl
theorem Num.lt{w:World}{a:Option Addr}{n m:Nat}(h:Num w a n m):m<4294967296^Pl.top:=by
 obtain ⟨xs,hn,_,hw,hN,hv,hl⟩:=h;rw [←hv];exact (Pl.val_le_len hw hN Pl.top).1 (by rw [Pl.top_eq];omega)
theorem Num.same{w w':World}{a a':Option Addr}{n n' m:Nat}(h:Num w a n m)(k:Num w' a' n' m):n=n':=by
 obtain ⟨xs,hn,_,hw,hN,hv,_⟩:=h;obtain ⟨ys,hn',_,hw',hN',hv',_⟩:=k;have:=Pl.val_inj hw hw' hN hN' (by omega);rw [←hn,←hn',this]
def aQ(w:World)(p:Nat)(v:Value):Prop:=w.heap[p]? = some (.cells #[v] 27 (0,0))
theorem aQ.cell{w:World}{p:Nat}{v:Value}(h:aQ w p v):w.cell? ⟨p,0,none⟩=some v:=by rw [cell_of_row w p 0 _ _ _ h];rfl
theorem aQ.frozen{w:World}{p:Nat}{v:Value}(h:aQ w p v):w.frozen? ⟨p,0,none⟩=false:=frozen_of_row w p 0 _ _ h
theorem aQ.lt{w:World}{p:Nat}{v:Value}(h:aQ w p v):p<w.heap.size:=by
 by_cases hlt:p<w.heap.size
 ·exact hlt
 ·unfold aQ at h;rw [Array.getElem?_eq_none (by omega)] at h;cases h
theorem aQ.made(w:World)(v:Value):aQ (w.alloc (.cells #[v] 27)) w.heap.size v:=heap_alloc_new w _
theorem aQ.kept{w w':World}{p:Nat}{v:Value}(h:aQ w p v)(hb:Below w.heap.size w w'):aQ w' p v:=by
 unfold aQ;rw [hb.block p h.lt];exact h
theorem aQ.alloc{w:World}{p:Nat}{v:Value}(h:aQ w p v)(o:Obj):aQ (w.alloc o) p v:=h.kept (ah _ _)
theorem aQ.drewN{w:World}{p:Nat}{v:Value}(h:aQ w p v)(n:Nat):aQ (w.drewN n) p v:=h
theorem aQ.set{w:World}{p:Nat}{v:Value}(h:aQ w p v)(u:Value):aQ (w.setCell ⟨p,0,none⟩ u) p u:=by
 unfold aQ;rw [heap_setCell_same w p 0 _ _ _ h];rfl
theorem aQ.other{w:World}{p:Nat}{v:Value}(h:aQ w p v){a:Addr}(hne:p≠a.block)(u:Value):aQ (w.setCell a u) p v:=by
 unfold aQ;rw [heap_setCell_other w a p u hne];exact h
theorem Own.setBox{w:World}{base:Nat}{v:Value}{xs:List Nat}(h:Own w base v xs){p:Nat}{x:Value}(hb:aQ w p x)(u:Value):Own (w.setCell ⟨p,0,none⟩ u) base v xs:=by
 rcases h with h|⟨g,cap,cur,rfl,hg,hh,r⟩
 ·exact Or.inl h
 ·have hne:g≠p:=by
   rintro rfl;unfold aQ at hb;rw [hh] at hb;simp at hb
  exact Or.inr ⟨g,cap,cur,rfl,hg,by rw [heap_setCell_other w _ g u hne];exact hh,r⟩
theorem Mine.setBox{w:World}{base:Nat}{a:Option Addr}{n cap m:Nat}(h:Mine w base a n cap m){p:Nat}{x:Value}(hb:aQ w p x)(u:Value):Mine (w.setCell ⟨p,0,none⟩ u) base a n cap m:=by
 obtain ⟨xs,hn,ho,r⟩:=h;exact ⟨xs,hn,ho.setBox hb u,r⟩
theorem bE.setBox{w:World}{a:Option Addr}{xs:List Nat}(h:bE w a xs){p:Nat}{a0:Option Addr}{n0 c0:Nat}(hb:aQ w p (.slice a0 n0 c0))(u:Value):bE (w.setCell ⟨p,0,none⟩ u) a xs:=by
 rcases h.parts with h|⟨hp,b,off,ha,hlt,hc⟩
 ·exact Or.inl h
 ·have hne:b≠p:=by
   rintro rfl;have h0:=hc 0 hp;rw [cell_of_row w b (off+0) _ _ _ hb] at h0;by_cases hz:off+0=0
   ·rw [hz] at h0;simp at h0
   ·rw [Array.getElem?_eq_none (by simp;omega)] at h0;cases h0
  refine Or.inr ⟨b,off,ha,fun j hj=>?_⟩;rw [World.cell?_of_block (w:=w) (heap_setCell_other w _ b u hne)];exact hc j hj
theorem Num.setBox{w:World}{a:Option Addr}{n m:Nat}(h:Num w a n m){p:Nat}{a0:Option Addr}{n0 c0:Nat}(hb:aQ w p (.slice a0 n0 c0))(u:Value):Num (w.setCell ⟨p,0,none⟩ u) a n m:=by
 obtain ⟨xs,hn,hl,r⟩:=h;exact ⟨xs,hn,hl.setBox hb u,r⟩
theorem Num.alloc{w:World}{a:Option Addr}{n m:Nat}(h:Num w a n m)(o:Obj):Num (w.alloc o) a n m:=h.kept (ah _ _)
theorem Mine.alloc{w:World}{base:Nat}{a:Option Addr}{n cap m:Nat}(h:Mine w base a n cap m)(o:Obj):Mine (w.alloc o) base a n cap m:=h.kept (ah _ _)
structure Over(m:Nat):Prop where
 le:4294967296^Pl.top≤m
def ib(w:World)(base:Nat)(e:Ending)(m:Nat):Prop:=
 (∃a n cap,e = .returned (.tuple #[.agg #[.slice a n cap],.int .i64 0])∧Mine w base a n cap m) ∨
 (e = .returned (.tuple #[.agg #[.slice none 0 0],.int .i64 4])∧Over m)
theorem ib.kept{w w':World}{base base':Nat}{e:Ending}{m:Nat}(h:ib w base e m)(hb:Below w.heap.size w w')(hB:base'≤base):ib w' base' e m:=by
 rcases h with ⟨a,n,cap,rfl,h⟩|h
 ·exact Or.inl ⟨a,n,cap,rfl,(h.kept hb).mono hB⟩
 ·exact Or.inr h
theorem bY{w:World}{B base n:Nat}{zs:List Nat}(h:Row w B zs)(hB:base≤B)(hz:zs.length≤9223372036854775807)(wz:Pl.Wf zs)(hn:n≤zs.length)(h0:∀j,n≤j→j<zs.length→zs[j]?.getD 0=0)(h1:n=0∨zs[n-1]?.getD 0≠0) :
  (zs.take n).length=n∧Own w base (.slice (some ⟨B,0,none⟩) n n) (zs.take n)∧Pl.Wf (zs.take n)∧Pl.Norm (zs.take n)∧Pl.val (zs.take n)=Pl.val zs:=by
 have e:(zs.take n).length=n:=by rw [List.length_take];omega
 refine ⟨e,h.own hB n n (Nat.le_refl _) hn hz,Pl.wf_take wz n,Pl.norm_of ?_,Pl.take_of_zeros zs n hn h0⟩;rw [e];rcases h1 with h1|h1
 ·exact Or.inl h1
 ·by_cases hn0:n=0
  ·exact Or.inl hn0
  ·right;rw [List.getElem?_take,if_pos (by omega)];exact h1
set_option maxHeartbeats 400000 in
theorem uP(B base cap:Nat)(zs:List Nat)(w:World)(hrow:Row w B zs)(hB:base≤B)(hcap:zs.length≤cap)(hcap2:cap≤40000)(wz:Pl.Wf zs) :
  Calls Tryz.prog 106 #[.slice (some ⟨B,0,none⟩) zs.length cap] w fun e w'=>ib w' base e (Pl.val zs)∧Below w.heap.size w w':=by
 go_enter Tryz.func106,Tryz.ntmps106
 go_wp2_with fail
 have hr1:=hrow.kept (ah w (.cells #[.slice none 0 0] 27));refine (rE B 0 cap zs _ hcap (by omega) (fun j hj=>by rw [Nat.zero_add];exact hr1.cell j hj)).mono ?_;rintro e w1 ⟨rfl,n,hn,h0,h1,rfl⟩;have HT:=hide (bY hrow hB (by omega) wz hn h0 h1);clear h0 h1;by_cases hbig:n≤16384
 ·go_wp2
  obtain ⟨t1,t2,t3,t4,t5⟩:=aa HT;exact bodyPost_ret (v:=.tuple #[.agg #[.slice (some ⟨B,0,none⟩) n n],.int .i64 0]) (by simp [results,Tryz.results106,go_sem]) rfl ⟨Or.inl ⟨_,n,n,rfl,zs.take n,t1,t2.kept (ah _ _),t3,t4,t5,hbig⟩,ah _ _⟩
 ·go_wp2
  obtain ⟨t1,t2,t3,t4,t5⟩:=aa HT;have hm:Over (Pl.val zs):=by
   constructor;have h:=Pl.val_le_len t3 t4 Pl.top;rw [t1,t5,Pl.top_eq] at h;rw [Pl.top_eq];omega
  exact bodyPost_ret (v:=.tuple #[.agg #[.slice none 0 0],.int .i64 4]) (by simp [results,Tryz.results106,go_sem]) rfl ⟨Or.inr ⟨rfl,hm⟩,ah _ _⟩
theorem gI(B base n cap:Nat)(zs:List Nat)(w:World)(hn:zs.length=n)(hrow:Row w B zs)(hB:base≤B)(hcap:n≤cap)(hcap2:cap≤40000)(wz:Pl.Wf zs) :
  Calls Tryz.prog 106 #[.slice (some ⟨B,0,none⟩) n cap] w fun e w'=>ib w' base e (Pl.val zs)∧Below w.heap.size w w':=by
 subst hn;exact uP B base cap zs w hrow hB hcap hcap2 wz
set_option maxHeartbeats 400000 in
theorem dD(u:Nat)(w:World)(hu:u<18446744073709551616) :
  Calls Tryz.prog 64 #[.int .u64 (u:Int)] w fun e w'=>(∃a n cap,e = .returned (.agg #[.slice a n cap])∧Mine w' w.heap.size a n cap u)∧Below w.heap.size w w':=by
 have hrow:∀o:Obj,Row ((w.alloc o).alloc (.cells #[.int .u32 ((u:Int)%4294967296),.int .u32 ((u:Int)/4294967296)] 42)) (w.heap.size+1) [u%4294967296,u/4294967296]:=by
  intro o;refine ⟨#[],?_⟩;rw [heap_alloc2_new];simp [lc]
 have HR:=hide hrow;clear hrow;have hwf:Pl.Wf [u%4294967296,u/4294967296]:=Pl.wf_cons (by omega) (Pl.wf_one (by omega));have hval:Pl.val [u%4294967296,u/4294967296]=u:=by simp [Pl.val];omega
 have HV:=hide hval;clear hval;go_enter Tryz.func64,Tryz.ntmps64
 go_wp2_with fail
 refine (dL (w.heap.size+1) 0 2 2 [u%4294967296,u/4294967296] _ rfl (by omega) (by omega) (fun j hj=>by rw [Nat.zero_add];exact (aa HR _).cell j hj)).mono ?_;rintro e w1 ⟨rfl,n,hn,h0,h1,rfl⟩;have hn2:n≤2:=hn;have HT:=hide (fun o:Obj=>bY (aa HR o) (show w.heap.size≤w.heap.size+1 by omega) (by simp) hwf hn h0 h1);clear h0 h1 hn;go_wp2
 obtain ⟨t1,t2,t3,t4,t5⟩:=aa HT (.cells #[.slice (some ⟨w.heap.size+1,0,none⟩) n n] 27);refine bodyPost_ret (v:=.agg #[.slice (some ⟨w.heap.size+1,0,none⟩) n n]) (by simp [results,Tryz.results64,go_sem]) rfl ⟨⟨_,n,n,rfl,_,t1,t2,t3,t4,t5.trans (aa HV),by omega⟩,ai (ah _ _) (ah _ _)⟩
end Go.Proofs.YtaidedkpfnidpaaGreatDoor
namespace Go.Proofs.YtaidedkpfnidpaaGreatDoor.Pl
theorem val_take_any(xs:List Nat)(k:Nat):val (xs.take (k+1))=val (xs.take k)+4294967296^k*xs[k]?.getD 0:=by
 by_cases h:k<xs.length
 ·exact val_take_succ xs k h
 ·rw [List.take_of_length_le (by omega),List.take_of_length_le (by omega),List.getElem?_eq_none (by omega)];simp
theorem step_add{p o c d s B:Nat}(B':Nat)(hB:B'=B*4294967296)(h:o+B*c=d+p)(t q r:Nat)(ht:t=q*4294967296+r)(x:Nat)(hx:t=c+x+s) :
  (o+B*r)+B'*q=(d+B*x)+(p+B*s):=by
 subst hB;have e1:B*t=B*c+B*x+B*s:=by rw [hx,Nat.mul_add,Nat.mul_add]
 have e2:B*t=B*4294967296*q+B*r:=by rw [ht,Nat.mul_add,Nat.mul_assoc,Nat.mul_comm q]
 omega
end Go.Proofs.YtaidedkpfnidpaaGreatDoor.Pl
namespace Go.Proofs.YtaidedkpfnidpaaGreatDoor
open Go.RowKit
theorem mK(a b:Nat)(ha:a<4294967296)(hb:b<4294967296):Go.bits .or .u32 (a:Int) (b:Int)=((a|||b:Nat):Int):=by
 have hx:a|||b<2^32:=Nat.or_lt_two_pow (by omega) (by omega)
 have h1:(BitVec.ofInt 32 (a:Int)).toNat=a:=by rw [BitVec.ofInt_natCast,BitVec.toNat_ofNat];exact Nat.mod_eq_of_lt (by omega)
 have h2:(BitVec.ofInt 32 (b:Int)).toNat=b:=by rw [BitVec.ofInt_natCast,BitVec.toNat_ofNat];exact Nat.mod_eq_of_lt (by omega)
 show IntKind.u32.wrap ((BitVec.ofInt 32 (a:Int)|||BitVec.ofInt 32 (b:Int)).toNat:Int)=_
 rw [BitVec.toNat_or,h1,h2,IntKind.wrap_u32];omega
theorem nK{pt:Nat}(h:pt<32):2^pt≤2147483648:=Nat.pow_le_pow_right (show 0<2 by decide) (show pt≤31 by omega)
theorem tZ{x pt:Nat}(hx:x<4294967296)(h:pt<32):x*2^pt<9223372036854775808:=by
 have h1:=nK h;have:x*2^pt≤4294967295*2147483648:=Nat.mul_le_mul (by omega) h1;omega
theorem D7{x k pt:Nat}(hx:x<4294967296)(hk:k%32=pt)(h:pt<32):IntKind.u64.wrap ((x:Int)*2^(k%32))=((x*2^pt:Nat):Int):=by
 have:=tZ hx h;rw [hk,IntKind.wrap_u64];have e:(x:Int)*2^pt=((x*2^pt:Nat):Int):=by push_cast;rfl
 rw [e];omega
theorem jP{pt:Nat}(h:pt<32):4294967296=2^pt*2^(32-pt):=by
 rw [←Nat.pow_add,show pt+(32-pt)=32 by omega]
theorem Ab{x pt:Nat}(h:pt<32):x*2^pt%4294967296=2^pt*(x%2^(32-pt)):=by
 rw [jP h,Nat.mul_comm x,Nat.mul_mod_mul_left]
theorem Gm{c x pt:Nat}(hc:c<2^pt)(h:pt<32):Go.bits .or .u32 (c:Int) (((x*2^pt:Nat):Int)%4294967296)=((c+x*2^pt%4294967296:Nat):Int):=by
 have h1:=nK h;rw [show (((x*2^pt:Nat):Int)%4294967296)=((x*2^pt%4294967296:Nat):Int) by omega,mK _ _ (by omega) (by omega)]
 congr 1
 rw [Ab h,Nat.or_comm,←Nat.two_pow_add_eq_or_of_lt hc,Nat.add_comm]
theorem DX{x pt:Nat}(hx:x<4294967296)(h:pt<32):Go.bits .or .u32 (0:Int) (((x*2^pt:Nat):Int)/4294967296%4294967296)=((x*2^pt/4294967296:Nat):Int):=by
 have:=tZ hx h;rw [show (((x*2^pt:Nat):Int)/4294967296%4294967296)=((x*2^pt/4294967296:Nat):Int) by omega];have:=mK 0 (x*2^pt/4294967296) (by omega) (by omega);rw [Nat.zero_or] at this;exact this
theorem EU{x pt:Nat}(hx:x<4294967296):x*2^pt/4294967296<2^pt:=by
 rw [Nat.div_lt_iff_lt_mul (by decide),Nat.mul_comm];exact Nat.mul_lt_mul_of_pos_left hx (Nat.pow_pos (by decide))
theorem FD{c x pt:Nat}(hc:c<2^pt)(h:pt<32):c+x*2^pt%4294967296<4294967296:=by
 rw [Ab h];have h2:x%2^(32-pt)<2^(32-pt):=Nat.mod_lt _ (Nat.pow_pos (by decide));have h3:2^pt*(x%2^(32-pt)+1)≤2^pt*2^(32-pt):=Nat.mul_le_mul_left _ h2;rw [←jP h,Nat.mul_add,Nat.mul_one] at h3;omega
theorem Eh{o p c x t B B' s lo hi:Nat}(hB:B'=B*4294967296)(h:o+B*c=p*s)(ht:t=x*s)(e:t=4294967296*hi+lo):(o+B*(c+lo))+B'*hi=(p+B*x)*s:=by
 subst hB;have e1:B*t=B*4294967296*hi+B*lo:=by rw [e,Nat.mul_add,Nat.mul_assoc]
 have e2:(p+B*x)*s=p*s+B*t:=by rw [ht,Nat.add_mul,Nat.mul_assoc]
 rw [e2,Nat.mul_add,e1];omega
theorem Eo(wh m c v:Nat)(os:List Nat):(List.replicate wh 0++(os++c::List.replicate (m+1) 0)).set (wh+os.length) v=List.replicate wh 0++((os ++ [v])++0::List.replicate m 0):=by
 rw [List.set_append_right _ _ (by simp),List.length_replicate,Nat.add_sub_cancel_left,List.set_append_right _ _ (by omega),Nat.sub_self];simp [List.replicate_succ]
theorem Dv(wh m v:Nat)(os:List Nat):(List.replicate wh 0++(os++0::List.replicate m 0)).set (wh+os.length) v=List.replicate wh 0++(os++v::List.replicate m 0):=by
 rw [List.set_append_right _ _ (by simp),List.length_replicate,Nat.add_sub_cancel_left,List.set_append_right _ _ (by omega),Nat.sub_self];simp
theorem Hm(wh c:Nat)(os r:List Nat):(List.replicate wh 0++(os++c::r))[wh+os.length]?.getD 0=c:=by
 rw [List.getElem?_append_right (by simp),List.length_replicate,Nat.add_sub_cancel_left,List.getElem?_append_right (by omega),Nat.sub_self];simp
theorem GM(wh c m:Nat)(os:List Nat):(List.replicate wh 0++(os++c::List.replicate (m+1) 0))[wh+os.length+1]?.getD 0=0:=by
 rw [List.getElem?_append_right (by simp;omega),List.length_replicate,List.getElem?_append_right (by omega)];rw [show wh+os.length+1-wh-os.length=0+1 by omega,List.getElem?_cons_succ];simp
theorem GI{v x wh pt k c n:Nat}(hk:k=32*wh+pt)(h:v+4294967296^n*c=x*2^pt):4294967296^wh*(v+4294967296^n*c)=x*2^k:=by
 rw [h,hk,Nat.pow_add,Nat.pow_mul,Nat.mul_left_comm]
set_option maxHeartbeats 400000 in
theorem rH(b off cap n wh pt k:Nat)(xs:List Nat)(w:World)(hn:Hid (xs.length=n))(hlen:n≤20000)(hx:Pl.Wf xs)(hlt:b<w.heap.size)(hk:Hid (k=32*wh+pt))(hpt:pt<32)(hwh:wh≤20000)(hc:∀j,j<n→w.cell? ⟨b,off+j,none⟩=some (.int .u32 ((xs[j]?.getD 0:Nat):Int))) :
  Calls Tryz.prog 107 #[.slice (some ⟨b,off,none⟩) n cap,.int .i64 (k:Int)] w
   fun e w'=>∃(out:List Nat),e = .returned (.slice (some ⟨w.heap.size,0,none⟩) (wh+n+1) (wh+n+1))∧out.length=wh+n+1∧Pl.Wf out∧Pl.val out=Pl.val xs*2^k∧Row w' w.heap.size out∧Below w.heap.size w w':=by
 have hmk:=dA ((wh:Int)+(n:Int)+1) (wh+n+1) (by omega) (by omega);have hq:(k:Int)/32=(wh:Int):=by have:=aa hk;omega
 have hr:(k:Int)%32=(pt:Int):=by have:=aa hk;omega
 have HP:Hid (k%32=pt):=by have:=aa hk;exact hide (by omega)
 go_enter Tryz.func107,Tryz.ntmps107
 go_wp2
 clear hmk hq hr
 go_loopw [23] (fun i wr=>∃(j c:Nat) (os:List Nat),j≤n∧i = .int .i64 (j:Int)∧c<2^pt∧os.length=j∧Pl.Wf os∧Pl.val os+4294967296^j*c=Pl.val (xs.take j)*2^pt ∧
   Row wr w.heap.size (List.replicate wh 0++(os++c::List.replicate (n-j) 0))∧Below w.heap.size w wr) (fun i _=>n-(intOf i).toNat)
 case atStart=>
  refine ⟨0,0,[],Nat.zero_le _,rfl,Nat.pow_pos (by decide),rfl,Pl.wf_nil,by simp [Pl.val],?_,ah _ _⟩;have e:List.replicate wh 0++([]++0::List.replicate (n-0) 0)=List.replicate (wh+n+1) 0:=by
   rw [List.nil_append,Nat.sub_zero,←List.replicate_succ,List.replicate_append_replicate,Nat.add_assoc]
  rw [e];exact Row.made _ _
 case round=>
  obtain ⟨j,c,os,hj,rfl,hcl,hol,how,hval,hr,hbel⟩:=hrel;have hxl:=aa hn;by_cases hjn:j<n
  ·obtain ⟨x,hxx⟩:∃x,x=xs[j]?.getD 0:=⟨_,rfl⟩;obtain ⟨m,hm⟩:∃m,n-j=m+1:=⟨n-j-1,by omega⟩;rw [hm] at hr;have hx1:x<4294967296:=by rw [hxx];exact Pl.wf_at hx j
   have hcx:wr.cell? ⟨b,off+j,none⟩=some (.int .u32 (x:Int)):=by rw [hxx];exact (hbel.cell (by exact hlt)).trans (hc j hjn)
   have hc1:=hr.cell (wh+j) (by simp;omega);have hc2:=hr.cell (wh+j+1) (by simp;omega);rw [←hol,Hm] at hc1;rw [←hol,GM] at hc2;rw [hol] at hc1 hc2;have hf1:=hr.frozen (wh+j);have hf2:=hr.frozen (wh+j+1);have HR:Hid (∀v1 v2:Nat,Row ((wr.setCell ⟨w.heap.size,wh+j,none⟩ (.int .u32 (v1:Int))).setCell ⟨w.heap.size,wh+j+1,none⟩ (.int .u32 (v2:Int))) w.heap.size (List.replicate wh 0++((os ++ [v1])++v2::List.replicate m 0))):=fun v1 v2=>by
    have h1:=hr.set (wh+j) v1 (by simp;omega);rw [←hol,Eo] at h1;have h2:=h1.set (wh+(os ++ [v1]).length) v2 (by simp);rw [Dv] at h2;rw [←hol];simpa [Nat.add_assoc] using h2
   have HV:Hid (∀lo hi:Nat,x*2^pt=4294967296*hi+lo→Pl.val (os ++ [c+lo])+4294967296^(j+1)*hi=Pl.val (xs.take (j+1))*2^pt):=fun lo hi e=>by
    rw [Pl.val_append,Pl.val_one,hol,Pl.val_take_any xs j,←hxx];exact Eh (Nat.pow_succ ..) hval rfl e
   have HM:=hide hm;clear hval hxx hr hxl hc hm;go_wp2
   go_roundw
   case rel=>
    rw [D7 hx1 (aa HP) hpt,Gm hcl hpt,DX hx1 hpt];have hm:=aa HM;refine ⟨j+1,x*2^pt/4294967296,os ++ [c+x*2^pt%4294967296],by omega,by go_num,EU hx1,by simp [hol],Pl.wf_append how (Pl.wf_one (FD hcl hpt)),aa HV _ _ (Nat.div_add_mod _ _).symm,?_,(hbel.setCell (Nat.le_refl _) _).setCell (Nat.le_refl _) _⟩;rw [show n-(j+1)=m by omega];exact aa HR _ _
   case measure=>simp [intOf];omega
  ·have hje:j=n:=by omega
   subst hje;rw [List.take_of_length_le (by omega)] at hval;rw [Nat.sub_self] at hr;have hc32:=nK hpt;have HV:Hid (Pl.val (List.replicate wh 0++(os ++ [c]))=Pl.val xs*2^k):=by
    rw [Pl.val_append,Pl.val_replicate,List.length_replicate,Nat.zero_add,Pl.val_append,Pl.val_one,hol];exact GI (aa hk) hval
   have HW:Hid (Pl.Wf (List.replicate wh 0++(os ++ [c]))):=Pl.wf_append (Pl.wf_replicate wh) (Pl.wf_append how (Pl.wf_one (by omega)));have HR:=hide hr;clear hval hr hc hxl;go_wp2
   go_ret
   exact ⟨List.replicate wh 0++(os ++ [c]),rfl,by simp [hol];omega,aa HW,aa HV,aa HR,hbel⟩
set_option maxHeartbeats 400000 in
theorem ui(a:Option Addr)(cap wh pt k:Nat)(w:World)(hk:Hid (k=32*wh+pt))(hpt:pt<32)(hwh:wh≤20000) :
  Calls Tryz.prog 107 #[.slice a 0 cap,.int .i64 (k:Int)] w
   fun e w'=>∃(out:List Nat),e = .returned (.slice (some ⟨w.heap.size,0,none⟩) (wh+1) (wh+1))∧out.length=wh+1∧Pl.Wf out∧Pl.val out=0∧Row w' w.heap.size out∧Below w.heap.size w w':=by
 have hmk:=dA ((wh:Int)+1) (wh+1) (by omega) (by omega);have hq:(k:Int)/32=(wh:Int):=by have:=aa hk;omega
 have hr:(k:Int)%32=(pt:Int):=by have:=aa hk;omega
 go_enter Tryz.func107,Tryz.ntmps107
 go_wp2
 refine wp_loop_rounds 1 ?_;rw [rounds_succ];go_wp2
 go_ret
 exact ⟨List.replicate (wh+1) 0,rfl,List.length_replicate,Pl.wf_replicate _,Pl.val_replicate _,Row.made _ _,ah _ _⟩
theorem mY(a:Option Addr)(n cap wh pt k:Nat)(xs:List Nat)(w:World)(hn:xs.length=n)(hlen:n≤20000)(hl:bE w a xs)(hx:Pl.Wf xs)(hk:k=32*wh+pt)(hpt:pt<32)(hwh:wh≤20000) :
  Calls Tryz.prog 107 #[.slice a n cap,.int .i64 (k:Int)] w
   fun e w'=>∃(out:List Nat),e = .returned (.slice (some ⟨w.heap.size,0,none⟩) (wh+n+1) (wh+n+1))∧out.length=wh+n+1∧Pl.Wf out∧Pl.val out=Pl.val xs*2^k∧Row w' w.heap.size out∧Below w.heap.size w w':=by
 rcases hl.parts with h0|⟨_,b,off,rfl,hlt,hc⟩
 ·subst h0;obtain rfl:n=0:=by rw [←hn];rfl
  refine (ui a cap wh pt k w (hide hk) hpt hwh).mono ?_;rintro e w' ⟨out,he,h1,h2,h3,h4,h5⟩;exact ⟨out,he,h1,h2,by rw [h3];simp [Pl.val],h4,h5⟩
 ·exact rH b off cap n wh pt k xs w (hide hn) hlen hx hlt (hide hk) hpt hwh (fun j hj=>hc j (by omega))
end Go.Proofs.YtaidedkpfnidpaaGreatDoor
namespace Go.Proofs.YtaidedkpfnidpaaGreatDoor
open Go.RowKit
theorem Ec(A x:Nat)(hx:x<4294967296):Go.bits .or .u64 (IntKind.u64.wrap ((A:Int)*4294967296)) (x:Int)=((A%4294967296*4294967296+x:Nat):Int):=by
 have e:IntKind.u64.wrap ((A:Int)*4294967296)=((A%4294967296:Nat):Int)*4294967296:=by rw [IntKind.wrap_u64];omega
 rw [e,kG _ _ (by omega) hx];omega
theorem Bv(t k pt:Nat)(h:k%32=pt):((t:Int)/2^(k%32))%4294967296=((t/2^pt%4294967296:Nat):Int):=by
 rw [h,Int.natCast_emod,Int.natCast_ediv,Int.natCast_pow];rfl
theorem zz{V x h P Q:Nat}(hP:0<P)(hPQ:4294967296=P*Q)(hh:h=V%4294967296)(hx:x<4294967296):(h*4294967296+x)/P%4294967296+4294967296*(V/P)=(x+4294967296*V)/P:=by
 have hr:V%P<P:=Nat.mod_lt _ hP;have hm:h%P=V%P:=by rw [hh,Nat.mod_mod_of_dvd V ⟨Q,hPQ⟩]
 have hv:=Nat.div_add_mod V P;have hu:=Nat.div_add_mod h P;rw [hm] at hu;generalize V%P=r at *;generalize V/P=v at *;generalize h/P=u at *;have hD:(x+4294967296*r)/P<4294967296:=by
  rw [Nat.div_lt_iff_lt_mul hP];have:4294967296*(r+1)≤4294967296*P:=Nat.mul_le_mul_left _ hr;omega
 have e1:h*4294967296+x=P*(u*4294967296)+(x+4294967296*r):=by
  rw [←hu,Nat.add_mul,Nat.mul_assoc];omega
 have e2:x+4294967296*V=P*(4294967296*v)+(x+4294967296*r):=by
  rw [←hv,Nat.mul_add,Nat.mul_left_comm];omega
 rw [e1,e2,Nat.mul_add_div hP,Nat.mul_add_div hP,Nat.mul_comm u,Nat.mul_add_mod,Nat.mod_eq_of_lt hD];omega
theorem vM(ys:List Nat)(hw:Pl.Wf ys)(j:Nat):ys[j]?.getD 0=Pl.val (ys.drop j)%4294967296:=by
 by_cases h:j<ys.length
 ·have:=Pl.wf_at hw j;rw [Pl.drop_cons ys j h];simp only [Pl.val];omega
 ·rw [List.drop_eq_nil_of_le (by omega),List.getElem?_eq_none (by omega)];rfl
theorem CG(j v:Nat)(qs:List Nat):(List.replicate (j+1) 0++qs).set j v=List.replicate j 0++(v::qs):=by
 rw [List.set_append_left _ _ (by simp),List.replicate_succ',List.set_append_right _ _ (by simp)];simp
set_option maxHeartbeats 400000 in
theorem pX(b off cap wh pt k N:Nat)(ys:List Nat)(w:World)(hy:Hid (ys.length=N))(hN0:0<N)(hN:N≤40000)(hwh:wh≤40000)(hcap:wh+N≤cap)(hcap2:cap≤9223372036854775807)(hx:Pl.Wf ys)(hlt:b<w.heap.size)(hk:Hid (k=32*wh+pt))(hpt:pt<32)(hc:∀j,j<N→w.cell? ⟨b,off+wh+j,none⟩=some (.int .u32 ((ys[j]?.getD 0:Nat):Int))) :
  Calls Tryz.prog 125 #[.slice (some ⟨b,off,none⟩) (wh+N) cap,.int .i64 (k:Int)] w
   fun e w'=>∃l qs,e = .returned (.slice (some ⟨w.heap.size,0,none⟩) l l)∧l≤N∧Own w' w.heap.size (.slice (some ⟨w.heap.size,0,none⟩) l l) qs∧qs.length=l∧Pl.Wf qs∧Pl.Norm qs∧Pl.val qs=Pl.val ys/2^pt∧Below w.heap.size w w':=by
 have hmk:=dA ((N:Int)) N rfl (by omega);have hq:(k:Int)/32=(wh:Int):=by have:=aa hk;omega
 have hr:(k:Int)%32=(pt:Int):=by have:=aa hk;omega
 have HP:Hid (k%32=pt):=by have:=aa hk;exact hide (by omega)
 go_enter Tryz.func125,Tryz.ntmps125
 go_wp2
 clear hmk hq hr
 go_loopw [9,10] (fun ab i wr=>∃(j A:Nat) (qs:List Nat),j≤N∧i = .int .i64 ((j:Int)-1)∧ab = .int .u64 (A:Int)∧A<18446744073709551616∧A%4294967296=ys[j]?.getD 0∧qs.length=N-j∧Pl.Wf qs∧Pl.val qs=Pl.val (ys.drop j)/2^pt ∧
   Row wr w.heap.size (List.replicate j 0++qs)∧Below w.heap.size w wr) (fun _ i _=>(intOf i+1).toNat)
 case atStart=>
  refine ⟨N,0,[],Nat.le_refl _,rfl,rfl,by omega,?_,by simp,Pl.wf_nil,?_,?_,ah _ _⟩
  ·rw [List.getElem?_eq_none (by rw [aa hy];omega)];rfl
  ·rw [List.drop_eq_nil_of_le (by rw [aa hy];omega)];simp [Pl.val]
  ·rw [List.append_nil];exact Row.made _ _
 case round=>
  obtain ⟨j,A,qs,hj,rfl,rfl,hA,hAm,hql,hqw,hv,hrow,hbel⟩:=hrel;by_cases hj0:j=0
  ·subst hj0;have hr2:Row wr w.heap.size qs:=by simpa using hrow
   rw [List.drop_zero] at hv;have HV:=hide hv;clear hv hrow hAm hc;go_wp2_with fail
   refine (dL w.heap.size 0 N N qs wr (by omega) (Nat.le_refl _) (by omega) (fun j hj=>by rw [Nat.zero_add];exact hr2.cell j hj)).mono ?_;rintro e w1 ⟨rfl,l,hl,h0,h1,rfl⟩;have HT:=hide (bY hr2 (Nat.le_refl _) (by omega) hqw hl h0 h1);clear h0 h1;go_wp2
   go_ret
   obtain ⟨t1,t2,t3,t4,t5⟩:=aa HT;exact ⟨l,qs.take l,rfl,by omega,t2,t1,t3,t4,by rw [t5,aa HV],hbel⟩
  ·obtain ⟨i,rfl⟩:∃i,j=i+1:=⟨j-1,by omega⟩;obtain ⟨x,hxx⟩:∃x,x=ys[i]?.getD 0:=⟨_,rfl⟩;have hx1:x<4294967296:=by rw [hxx];exact Pl.wf_at hx i
   have hcx:wr.cell? ⟨b,off+wh+i,none⟩=some (.int .u32 (x:Int)):=by rw [hxx];exact (hbel.cell (by exact hlt)).trans (hc i (by omega))
   have hcq:=hrow.cell i (by simp;omega);have hfq:=hrow.frozen i;have HV:Hid (Pl.val ((A%4294967296*4294967296+x)/2^pt%4294967296::qs)=Pl.val (ys.drop i)/2^pt):=by
    have hyl:=aa hy;rw [Pl.drop_cons ys i (by omega),←hxx];simp only [Pl.val];rw [hv];exact zz (Nat.pow_pos (by decide)) (jP hpt) (by rw [hAm];exact vM ys hx (i+1)) hx1
   have HR:=hide (hrow.set i ((A%4294967296*4294967296+x)/2^pt%4294967296) (by simp;omega));have HX:=hide hxx;have hA2:A%4294967296<4294967296:=Nat.mod_lt _ (by decide);clear hxx hv hrow hc hAm;go_wp2
   go_roundw
   case rel=>
    rw [Ec A x hx1,Bv _ k pt (aa HP)];refine ⟨i,A%4294967296*4294967296+x,(A%4294967296*4294967296+x)/2^pt%4294967296::qs,by omega,rfl,rfl,by omega,by rw [←aa HX];omega,by simp;omega,Pl.wf_cons (Nat.mod_lt _ (by decide)) hqw,aa HV,?_,hbel.setCell (Nat.le_refl _) _⟩;have h:=aa HR
    rwa [CG] at h
   case measure=>simp [intOf]
set_option maxHeartbeats 400000 in
theorem qO(a:Option Addr)(n cap wh k:Nat)(w:World)(hk:Hid (wh=k/32))(hk2:wh<9223372036854775808)(hle:n≤wh) :
  Calls Tryz.prog 125 #[.slice a n cap,.int .i64 (k:Int)] w fun e w'=>e = .returned (.slice none 0 0)∧w'=w:=by
 have hq:(k:Int)/32=(wh:Int):=by have:=aa hk;omega
 have hd:(n:Int)≤(wh:Int):=by omega
 clear hle;go_enter Tryz.func125,Tryz.ntmps125
 go_wp2
 go_ret
 exact ⟨rfl,rfl⟩
theorem fM(a:Option Addr)(n cap m k:Nat)(w:World)(h:Num w a n m)(hcap:n≤cap)(hcap2:cap≤9223372036854775807)(hk:k<9223372036854775808) :
  Calls Tryz.prog 125 #[.slice a n cap,.int .i64 (k:Int)] w fun e w'=>(∃a' l c,e = .returned (.slice a' l c)∧Mine w' w.heap.size a' l c (m/2^k))∧Below w.heap.size w w':=by
 obtain ⟨xs,hn,hl,hw,hN,hv,hb⟩:=h;by_cases hle:n≤k/32
 ·refine (qO a n cap (k/32) k w rfl (by omega) hle).mono ?_;rintro e w' ⟨rfl,rfl⟩;have h0:m/2^k=0:=by
   apply Nat.div_eq_of_lt;have h1:=Pl.val_lt hw;rw [hv,hn] at h1;have h2:(4294967296:Nat)^n=2^(32*n):=by rw [Nat.pow_mul]
   have h3:=Nat.pow_le_pow_right (show 0<2 by decide) (show 32*n≤k by omega);rw [h2] at h1;exact Nat.lt_of_lt_of_le h1 h3
  rw [h0];exact ⟨⟨none,0,0,rfl,[],rfl,Or.inl ⟨rfl,rfl⟩,Pl.wf_nil,Pl.norm_nil,rfl,by omega⟩,dJ _⟩
 ·rcases hl.parts with hx|⟨hp,b,off,rfl,hltb,hcx⟩
  ·rw [hx] at hn;simp at hn;omega
  ·obtain ⟨N,rfl⟩:∃N,n=k/32+N:=⟨n-k/32,by omega⟩;have hyl:(xs.drop (k/32)).length=N:=by rw [List.length_drop];omega
   refine (pX b off cap (k/32) (k%32) k N (xs.drop (k/32)) w (hide hyl) (by omega) (by omega) (by omega) hcap hcap2 (Pl.wf_drop hw _) hltb (hide (by omega)) (by omega) (fun j hj=>?_)).mono ?_
   ·have:=hcx (k/32+j) (by omega);rw [←Nat.add_assoc] at this;rw [this,List.getElem?_drop]
   ·rintro e w' ⟨l,qs,rfl,hlN,hO,hql,hqw,hqN,hqv,hb1⟩;refine ⟨⟨_,l,l,rfl,qs,hql,hO,hqw,hqN,?_,by omega⟩,hb1⟩;rw [hqv,←hv,Pl.val_split xs (k/32) (by omega)];have e:2^k=4294967296^(k/32)*2^(k%32):=by
     rw [show (4294967296:Nat)=2^32 from rfl,←Nat.pow_mul,←Nat.pow_add]
     congr 1;omega
    have hlo:=Pl.val_lt (Pl.wf_take hw (k/32));rw [List.length_take,Nat.min_eq_left (by omega)] at hlo;rw [e,←Nat.div_div_eq_div_mul]
    congr 1
    rw [Nat.add_comm,Nat.mul_add_div (Nat.lt_of_le_of_lt (Nat.zero_le _) hlo),Nat.div_eq_of_lt hlo,Nat.add_zero]
end Go.Proofs.YtaidedkpfnidpaaGreatDoor
namespace Go.Proofs.YtaidedkpfnidpaaGreatDoor
open Go.RowKit
set_option maxHeartbeats 400000 in
theorem zQ(b off cap n:Nat)(xs:List Nat)(w:World)(hn:Hid (xs.length=n))(hn2:n≤2)(hw:Pl.Wf xs)(hc:∀j,j<n→w.cell? ⟨b,off+j,none⟩=some (.int .u32 ((xs[j]?.getD 0:Nat):Int))) :
  Calls Tryz.prog 90 #[.slice (some ⟨b,off,none⟩) n cap] w fun e w'=>e = .returned (.int .u64 (Pl.val xs:Int))∧w=w':=by
 go_enter Tryz.func90,Tryz.ntmps90
 go_wp2
 go_loop [3,4] (fun r i=>∃(k acc:Nat),k≤n∧i = .int .i64 ((k:Int)-1)∧r = .int .u64 (acc:Int)∧acc=Pl.val (xs.drop k)) (fun _ i=>(intOf i+1).toNat)
 case atStart=>exact ⟨n,0,Nat.le_refl _,rfl,rfl,by rw [List.drop_eq_nil_of_le (by rw [aa hn];omega)];rfl⟩
 case round=>
  obtain ⟨k,acc,hk,rfl,rfl,hv⟩:=hrel;by_cases hk0:k=0
  ·subst hk0;have HV:=hide hv;clear hv;go_wp2
   go_ret
   exact ⟨bX (by rw [aa HV,List.drop_zero]),rfl⟩
  ·obtain ⟨j,rfl⟩:∃j,k=j+1:=⟨k-1,by omega⟩;obtain ⟨x,hxx⟩:∃x,x=xs[j]?.getD 0:=⟨_,rfl⟩;have hnl:=aa hn;have hx1:x<4294967296:=by rw [hxx];exact Pl.wf_at hw j
   have hacc:acc<4294967296:=by
    have h1:=Pl.val_lt (Pl.wf_drop hw (j+1));have h2:(xs.drop (j+1)).length≤1:=by rw [List.length_drop];omega
    have h3:=Pl.pow_le h2;rw [←hv] at h1;omega
   have hcx:=hc j (by omega);rw [←hxx] at hcx;obtain ⟨t,ht⟩:∃t,t=acc*4294967296+x:=⟨_,rfl⟩;have hor:Go.bits BinOp.or IntKind.u64 ((acc:Int)*4294967296) (x:Int)=(t:Int):=by rw [kG acc x hacc hx1,ht];omega
   have HT:Hid (t=Pl.val (xs.drop j)):=by
    rw [Pl.drop_cons xs j (by omega),←hxx]
    show t=x+4294967296*Pl.val (xs.drop (j+1))
    rw [←hv,ht];omega
   clear hxx ht hv hnl hc;go_wp2
   go_round
   case rel=>exact ⟨j,t,by omega,rfl,rfl,aa HT⟩
   case measure=>simp [intOf]
theorem gp(a:Option Addr)(n cap m:Nat)(w:World)(h:Num w a n m)(hn2:n≤2) :
  Calls Tryz.prog 90 #[.slice a n cap] w fun e w'=>e = .returned (.int .u64 (m:Int))∧w=w':=by
 obtain ⟨xs,hn,hl,hw,hN,hv,hb⟩:=h;rcases hl.parts with hx|⟨hp,b,off,rfl,hlt,hc⟩
 ·have hn0:n=0:=by rw [←hn,hx];rfl
  have hm0:m=0:=by rw [←hv,hx];rfl
  subst hn0 hm0;clear hn hv hl hw hN hb hx;go_enter Tryz.func90,Tryz.ntmps90
  go_wp2
  refine wp_loop_rounds 1 ?_;rw [rounds_succ];go_wp2
  go_ret
  exact ⟨rfl,rfl⟩
 ·rw [←hv];exact zQ b off cap n xs w (hide hn) hn2 hw (fun j hj=>hc j (by omega))
set_option maxHeartbeats 400000 in
theorem lw(a:Option Addr)(n cap m:Nat)(w:World)(h:Num w a n m)(hn2:n≤2) :
  Calls Tryz.prog 91 #[.agg #[.slice a n cap]] w fun e w'=>e = .returned (.tuple #[.int .u64 (m:Int),.bool true])∧Below w.heap.size w w':=by
 have H:=hide h;obtain ⟨xs,hn,hl,hw,hN,hv,hb⟩:=h;have hck:=eX a cap xs (w.alloc (.cells #[.slice a n cap] 27)) (by omega) (hl.alloc _);rw [hn,bC (by omega) hN] at hck;have HK:=hide hck;clear hck hl hn hv;go_enter Tryz.func91,Tryz.ntmps91
 go_wp2_with fail
 refine (aa HK).mono ?_;rintro e w1 ⟨rfl,hb1⟩;obtain ⟨hc1,hf1⟩:=bO hb1;go_wp2_with fail
 refine (gp a n cap m w1 (((aa H).alloc _).kept hb1) hn2).mono ?_;rintro e w2 ⟨rfl,rfl⟩;go_wp2
 go_ret2
 exact ⟨rfl,ai (ah _ _) hb1⟩
end Go.Proofs.YtaidedkpfnidpaaGreatDoor
namespace Go.Proofs.YtaidedkpfnidpaaGreatDoor
open Go.RowKit
theorem BS{V Q r x d t:Nat}(h:V=Q*d+r)(ht:t=r*4294967296+x):x+4294967296*V=(t/d+4294967296*Q)*d+t%d:=by
 have e:=Nat.div_add_mod t d;have e2:4294967296*V=4294967296*(Q*d)+r*4294967296:=by rw [h,Nat.mul_add,Nat.mul_comm r]
 rw [Nat.add_mul,Nat.mul_assoc,e2,Nat.mul_comm (t/d) d];omega
theorem xN{r x d t:Nat}(hr:r<d)(hx:x<4294967296)(ht:t=r*4294967296+x):t/d<4294967296:=by
 apply Nat.div_lt_of_lt_mul;have:(r+1)*4294967296≤d*4294967296:=Nat.mul_le_mul_right _ hr;omega
theorem EP(j v:Nat)(qs post:List Nat):(List.replicate (j+1) 0++qs++post).set j v=List.replicate j 0++(v::qs)++post:=by
 rw [List.append_assoc,List.set_append_left _ _ (by simp),List.replicate_succ',List.set_append_right _ _ (by simp)];simp
set_option maxHeartbeats 400000 in
theorem nM(b off cap d n:Nat)(xs:List Nat)(w:World)(hn:Hid (xs.length=n))(hlen:n≤16384)(hd:0<d)(hd2:d<4294967296)(hx:Pl.Wf xs)(hlt:b<w.heap.size)(hc:∀j,j<n→w.cell? ⟨b,off+j,none⟩=some (.int .u32 ((xs[j]?.getD 0:Nat):Int))) :
  Calls Tryz.prog 127 #[.slice (some ⟨b,off,none⟩) n cap,.int .u32 (d:Int)] w
   fun e w'=>∃(k:Nat) (qs:List Nat),e = .returned (.tuple #[.slice (some ⟨w.heap.size,0,none⟩) k k,.int .u32 ((Pl.val xs%d:Nat):Int)])∧k≤n∧qs.length=k∧Own w' w.heap.size (.slice (some ⟨w.heap.size,0,none⟩) k k) qs∧Pl.Wf qs∧Pl.Norm qs∧Pl.val qs=Pl.val xs/d∧Below w.heap.size w w':=by
 have hmk:=dA (n:Int) n rfl (by omega);go_enter Tryz.func127,Tryz.ntmps127
 go_wp2
 clear hmk
 go_loopw [6,7] (fun r i wr=>∃(k rr:Nat) (qs:List Nat),k≤n∧i = .int .i64 ((k:Int)-1)∧r = .int .u64 (rr:Int)∧rr<d∧qs.length=n-k∧Pl.Wf qs∧Pl.val (xs.drop k)=Pl.val qs*d+rr ∧
   Row wr w.heap.size (List.replicate k 0++qs)∧Below w.heap.size w wr) (fun _ i _=>(intOf i+1).toNat)
 case atStart=>
  refine ⟨n,0,[],Nat.le_refl _,rfl,rfl,hd,by simp,Pl.wf_nil,?_,?_,ah _ _⟩
  ·rw [List.drop_eq_nil_of_le (by rw [aa hn];omega)];simp [Pl.val]
  ·rw [List.append_nil];exact Row.made _ _
 case round=>
  obtain ⟨k,rr,qs,hk,rfl,rfl,hrd,hql,hqw,hv,hrow,hbel⟩:=hrel;by_cases hk0:k=0
  ·subst hk0;have hv2:=hv;rw [List.drop_zero] at hv2;have hr2:Row wr w.heap.size qs:=by simpa using hrow
   have hm:Pl.val xs%d=rr:=by rw [hv2,Nat.mul_comm,Nat.mul_add_mod];exact Nat.mod_eq_of_lt hrd
   have hq:Pl.val xs/d=Pl.val qs:=by rw [hv2,Nat.mul_comm,Nat.mul_add_div hd,Nat.div_eq_of_lt hrd,Nat.add_zero]
   have HM:=hide hm;have HQ:=hide hq;clear hm hq hv hv2 hrow;go_wp2_with fail
   refine (dL w.heap.size 0 n n qs wr (by omega) (Nat.le_refl _) (by omega) (fun j hj=>by rw [Nat.zero_add];exact hr2.cell j hj)).mono ?_;rintro e w1 ⟨rfl,l,hl,h0,h1,rfl⟩;have HT:=hide (bY hr2 (Nat.le_refl _) (by omega) hqw hl h0 h1);clear h0 h1;go_wp2
   go_ret2
   obtain ⟨t1,t2,t3,t4,t5⟩:=aa HT;refine ⟨l,qs.take l,?_,by omega,t1,t2,t3,t4,by rw [t5,aa HQ],hbel⟩;rw [aa HM];rfl
  ·obtain ⟨j,rfl⟩:∃j,k=j+1:=⟨k-1,by omega⟩;obtain ⟨x,hxx⟩:∃x,x=xs[j]?.getD 0:=⟨_,rfl⟩;obtain ⟨t,ht⟩:∃t,t=rr*4294967296+x:=⟨_,rfl⟩;have hx1:x<4294967296:=by rw [hxx];exact Pl.wf_at hx j
   have hcx:wr.cell? ⟨b,off+j,none⟩=some (.int .u32 (x:Int)):=by rw [hxx];exact (hbel.cell (by exact hlt)).trans (hc j (by omega))
   have hor:Go.bits BinOp.or IntKind.u64 ((rr:Int)*4294967296) (x:Int)=(t:Int):=by rw [kG rr x (by omega) hx1,ht];omega
   have hcq:=hrow.cell j (by simp;omega);have hfq:=hrow.frozen j;have hq1:t/d<4294967296:=xN hrd hx1 ht;have hqe:(t:Int)/(d:Int)=((t/d:Nat):Int):=(Int.natCast_ediv t d).symm;have hme:(t:Int)%(d:Int)=((t%d:Nat):Int):=(Int.natCast_emod t d).symm;have hq1i:(t:Int)/(d:Int)<4294967296:=by rw [hqe];omega
   have hq0i:(0:Int)≤(t:Int)/(d:Int):=by rw [hqe];exact Int.natCast_nonneg _
   have HQE:=hide hqe;have HME:=hide hme;have hm1:t%d<d:=Nat.mod_lt _ hd;have hnl:=aa hn;have HV:Hid (Pl.val (xs.drop j)=(t/d+4294967296*Pl.val qs)*d+t%d):=by
    rw [Pl.drop_cons xs j (by omega),←hxx];exact BS hv ht
   have HR:=hide (hrow.set j (t/d) (by simp;omega));clear hxx ht hv hrow hnl hc hqe hme;go_wp2
   go_roundw
   case rel=>
    rw [aa HQE,aa HME];refine ⟨j,t%d,t/d::qs,by omega,rfl,rfl,hm1,by simp;omega,Pl.wf_cons hq1 hqw,aa HV,?_,hbel.setCell (Nat.le_refl _) _⟩;have h:=aa HR;have e:=EP j (t/d) qs [];simp only [List.append_nil] at e
    rwa [e] at h
   case measure=>simp [intOf]
end Go.Proofs.YtaidedkpfnidpaaGreatDoor
namespace Go.Proofs.YtaidedkpfnidpaaGreatDoor
open Go.RowKit
theorem zn{w:World}{base n:Nat}{v:Value}{xs:List Nat}(hn:xs.length=n)(hp:0<n)(h:w.ownsRow base 42 1 v n (xs.map (fun z:Nat=>Value.int .u32 (z:Int)))) :
  ∃g c,v = .slice (some ⟨g,0,none⟩) n c∧base≤g∧n≤c∧c≤9223372036854775807∧Row w g xs∧Own w base (.slice (some ⟨g,0,none⟩) n c) xs:=by
 obtain ⟨_,h|⟨g,c,cur,hv,hg,hh,h1,h2,h3,h4⟩⟩:=h
 ·omega
 ·have hcur:cur=lc xs++(cur.toList.drop n).toArray:=by
   apply Array.toList_inj.1;rw [Array.toList_append];simp only [lc];rw [←h4,Nat.mul_one,List.take_append_drop]
  have hrow:Row w g xs:=⟨(cur.toList.drop n).toArray,by rw [←hcur];exact hh⟩;have hc:c≤9223372036854775807:=by unfold maxLen at h2;exact h2
  refine ⟨g,c,hv,hg,h1,hc,hrow,Or.inr ⟨g,c,cur,by rw [hn],hg,hh,by omega,by omega,hc,fun j hj=>?_⟩⟩;rw [hcur];exact sP xs _ j hj
set_option maxHeartbeats 400000 in
theorem oo(b off cap n:Nat)(xs:List Nat)(w:World)(hn:Hid (xs.length=n))(hp:0<n)(hlen:n≤1073741824)(hlt:b<w.heap.size)(hc:∀j,j<n→w.cell? ⟨b,off+j,none⟩=some (.int .u32 ((xs[j]?.getD 0:Nat):Int))) :
  Calls Tryz.prog 73 #[.slice (some ⟨b,off,none⟩) n cap] w
   fun e w'=>∃g c:Nat,e = .returned (.slice (some ⟨g,0,none⟩) n c)∧w.heap.size≤g∧n≤c∧c≤9223372036854775807∧Row w' g xs∧Own w' w.heap.size (.slice (some ⟨g,0,none⟩) n c) xs∧Below w.heap.size w w':=by
 have hni:=fun (w:World)=>Lib.run_eql_slice_nil (P:=Tryz.prog) w 25 42 (some ⟨b,off,none⟩) n cap 0 0 Tryz.under_limbs;obtain ⟨i0,hi,hz0,hz1,hz2⟩:=info_parts Tryz.info_limb;go_enter Tryz.func73,Tryz.ntmps73
 go_wp2_with (at_builtin;refine wpList_append_own _ rfl (.tmp 5) (.tmp 6) 25 rfl w.heap.size 42 i0 (.int .u32 0) 1 4 Tryz.under_limbs hi hz0 hz1 hz2 rfl (by decide) _ 0 [] rfl (World.ownsRow_made w #[] 0 (Nat.le_refl _) (by decide) rfl) ⟨b,off,none⟩ n cap (xs.map (fun z:Nat=>Value.int .u32 (z:Int))) rfl ?hl ?hnews ?h1 ?h63 ?hbytes ?hbase ?_)
 case hl=>have:=aa hn;simp;omega
 case hnews=>
  intro j u hj;have hl:=aa hn;have hjn:j<xs.length:=by
   have:=(List.getElem?_eq_some_iff.1 hj).1;simpa using this
  have hu:u = .int .u32 ((xs[j]?.getD 0:Nat):Int):=by
   rw [List.getElem?_map,List.getElem?_eq_getElem hjn] at hj;simp at hj;rw [←hj];simp [hjn]
  rw [hu,Addr.add_lit,((ah w (.cells #[] 42)).cell (by exact hlt))];exact hc j (by omega)
 case h1=>
  intro u hu;obtain ⟨z,_,rfl⟩:=List.mem_map.1 hu;rfl
 case h63=>unfold maxLen;omega
 case hbytes=>omega
 case hbase=>simp
 intro v' w1 hown hgrow hnil;obtain ⟨g,c,hv,hg,hnc,hc9,hrow,hO⟩:=zn (aa hn) hp hown;have hbl:Below w.heap.size w w1:=(ah w (.cells #[] 42)).grown hgrow (by simp) (fun k hk=>by simp [Value.ownBlock] at hk;omega);rw [hv];clear hown hgrow hnil hc hni;go_wp2
 go_ret
 exact ⟨g,c,rfl,hg,hnc,hc9,hrow,hO,hbl⟩
theorem zY(cap:Nat)(w:World) :
  Calls Tryz.prog 73 #[.slice none 0 cap] w fun e w'=>e = .returned (.slice none 0 0)∧w'=w:=by
 have hni:=fun (w:World)=>Lib.run_eql_slice_nil (P:=Tryz.prog) w 25 42 none 0 cap 0 0 Tryz.under_limbs;go_enter Tryz.func73,Tryz.ntmps73
 go_wp2
 go_ret
 exact ⟨rfl,rfl⟩
set_option maxHeartbeats 400000 in
theorem uw(p:Addr)(cap:Nat)(w:World) :
  Calls Tryz.prog 73 #[.slice (some p) 0 cap] w fun e w'=>(∃g c,e = .returned (.slice (some ⟨g,0,none⟩) 0 c)∧Own w' w.heap.size (.slice (some ⟨g,0,none⟩) 0 c) [])∧Below w.heap.size w w':=by
 have hni:=fun (w:World)=>Lib.run_eql_slice_nil (P:=Tryz.prog) w 25 42 (some p) 0 cap 0 0 Tryz.under_limbs;go_enter Tryz.func73,Tryz.ntmps73
 go_wp2
 go_ret
 exact ⟨⟨w.heap.size,0,rfl,Or.inr ⟨w.heap.size,0,#[],rfl,Nat.le_refl _,heap_alloc_new w _,Nat.le_refl _,Nat.le_refl _,by omega,fun j hj=>by simp at hj⟩⟩,ah _ _⟩
theorem gB(a:Option Addr)(n cap m:Nat)(w:World)(h:Num w a n m) :
  Calls Tryz.prog 73 #[.slice a n cap] w fun e w'=>(∃a' c,e = .returned (.slice a' n c)∧Mine w' w.heap.size a' n c m)∧Below w.heap.size w w':=by
 obtain ⟨xs,hn,hl,hw,hN,hv,hb⟩:=h;rcases hl.parts with hx|⟨hp,b,off,rfl,hlt,hc⟩
 ·subst hx;have hn0:n=0:=by rw [←hn];rfl
  subst hn0;cases a with
  | none=>
   refine (zY cap w).mono ?_;rintro e w1 ⟨rfl,rfl⟩;exact ⟨⟨none,0,rfl,[],rfl,Or.inl ⟨rfl,rfl⟩,hw,hN,hv,hb⟩,dJ _⟩
  | some p=>
   refine (uw p cap w).mono ?_;rintro e w1 ⟨⟨g,c,rfl,hO⟩,hb1⟩;exact ⟨⟨_,c,rfl,[],rfl,hO,hw,hN,hv,hb⟩,hb1⟩
 ·refine (oo b off cap n xs w (hide hn) (by omega) (by omega) hlt (fun j hj=>hc j (by omega))).mono ?_;rintro e w1 ⟨g,c,rfl,_,_,_,_,hO,hb1⟩;exact ⟨⟨_,c,rfl,xs,hn,hO,hw,hN,hv,hb⟩,hb1⟩
end Go.Proofs.YtaidedkpfnidpaaGreatDoor
namespace Go.Proofs.YtaidedkpfnidpaaGreatDoor
open Go.RowKit
theorem EW{o p c d f s B y t hi lo r bo:Nat}(B':Nat)(hB:B'=B*4294967296)(h:o+f*p=d+B*c)(ht:t=c+s*f)(e:t=4294967296*hi+lo)(hr:r+lo=y+4294967296*bo) :
  (o+B*r)+f*(p+B*s)=(d+B*y)+B'*(hi+bo):=by
 subst hB;have e1:B*t=B*4294967296*hi+B*lo:=by rw [e,Nat.mul_add,Nat.mul_assoc]
 have e2:B*t=B*c+f*(B*s):=by rw [ht,Nat.mul_add];congr 1;rw [Nat.mul_comm s f,Nat.mul_left_comm]
 have e3:B*(r+lo)=B*(y+4294967296*bo):=by rw [hr]
 rw [Nat.mul_add,Nat.mul_add,←Nat.mul_assoc] at e3;rw [Nat.mul_add,Nat.mul_add];omega
theorem CJ{c f s hi lo:Nat}(hc:c≤f)(hs:s<4294967296)(e:c+s*f=4294967296*hi+lo)(hl:lo<4294967296):hi≤f∧(hi=f→lo=0):=by
 have h1:s*f≤4294967295*f:=Nat.mul_le_mul_right _ (by omega);constructor<;>omega
theorem FE{o v d c B B' r y bo:Nat}(hB:B'=B*4294967296)(h:o+v=d+B*c)(e:r+c=y+4294967296*bo):o+B*r+v=d+B*y+B'*bo:=by
 subst hB;have e3:B*(r+c)=B*(y+4294967296*bo):=by rw [e]
 rw [Nat.mul_add,Nat.mul_add,←Nat.mul_assoc] at e3;omega
def GU(B:Nat)(pre post d xs:List Nat)(f n:Nat)(w:World)(e:Ending)(w':World):Prop:=
 ∃(out:List Nat) (bo:Bool),e = .returned (.bool bo)∧out.length=n+1∧Pl.Wf out∧Pl.val out+f*Pl.val xs=Pl.val d+4294967296^(n+1)*bo.toNat∧Row w' B (pre++out++post)∧Only B w w'
theorem IY(y t:Nat)(hy:y<4294967296)(h:(y:Int)<(t:Int)%4294967296):((y:Int)-(t:Int))%4294967296=((y+4294967296-t%4294967296:Nat):Int):=by omega
theorem IP(y c:Nat)(hc:c<4294967296)(h:(y:Int)<(c:Int)):((y:Int)-(c:Int))%4294967296=((y+4294967296-c:Nat):Int):=by omega
set_option maxHeartbeats 400000 in
theorem qH(B p n b off cap cap' f:Nat)(pre d post xs:List Nat)(w:World)(hp:Hid (pre.length=p))(hd:Hid (d.length=n+1))(hx:Hid (xs.length=n))(hlen:n≤20000)(hne:b≠B)(hf:f<4294967296)(wd:Pl.Wf d)(wx:Pl.Wf xs)(hrow:Row w B (pre++d++post))(hc:∀j,j<n→w.cell? ⟨b,off+j,none⟩=some (.int .u32 ((xs[j]?.getD 0:Nat):Int))) :
  Calls Tryz.prog 157 #[.slice (some ⟨B,p,none⟩) (n+1) cap,.slice (some ⟨b,off,none⟩) n cap',.int .u32 (f:Int)] w
   (GU B pre post d xs f n w):=by
 go_enter Tryz.func157,Tryz.ntmps157
 go_wp2
 go_loopw [7,15] (fun t i wr=>∃(k c:Nat) (out:List Nat),k≤n∧i = .int .i64 k∧t = .int .u64 (c:Int)∧c≤f∧out.length=k∧Pl.Wf out ∧
   Pl.val out+f*Pl.val (xs.take k)=Pl.val (d.take k)+4294967296^k*c∧Row wr B (pre++(out++d.drop k)++post)∧Only B w wr) (fun _ i _=>n-(intOf i).toNat)
 case atStart=>exact ⟨0,0,[],Nat.zero_le _,rfl,rfl,by omega,rfl,Pl.wf_nil,by simp [Pl.val],by simpa using hrow,Only.refl _ _⟩
 case round=>
  obtain ⟨k,c,out,hk,rfl,rfl,hcl,hol,how,hval,hr,honly⟩:=hrel;have HVal:=hide hval;clear hval;have hpl:=aa hp;have hdl:=aa hd;have hxl:=aa hx;obtain ⟨y,hy⟩:∃y,y=d[k]?.getD 0:=⟨_,rfl⟩;have hy1:y<4294967296:=by rw [hy];exact Pl.wf_at wd k
  have hcd:wr.cell? ⟨B,p+k,none⟩=some (.int .u32 (y:Int)):=by
   rw [hr.cell (p+k) (by simp;omega),←hpl,iL _ _ _ _ _ hol (by omega),hy]
  have hfz:wr.frozen? ⟨B,p+k,none⟩=false:=hr.frozen _;have HR:Hid (∀v,Row (wr.setCell ⟨B,p+k,none⟩ (.int .u32 ((v:Nat):Int))) B (pre++((out ++ [v])++d.drop (k+1))++post)):=fun v=>by
   have:=hr.set (p+k) v (by simp;omega);rw [←hpl] at this ⊢
   rwa [set_mid _ _ _ _ _ _ hol (by omega)] at this
  by_cases hlt:k<n
  ·obtain ⟨x,hxx⟩:∃x,x=xs[k]?.getD 0:=⟨_,rfl⟩;have hx1:x<4294967296:=by rw [hxx];exact Pl.wf_at wx k
   have hcx:wr.cell? ⟨b,off+k,none⟩=some (.int .u32 (x:Int)):=by rw [hxx];exact (honly.cell (by exact hne)).trans (hc k hlt)
   obtain ⟨t,ht⟩:∃t,t=c+x*f:=⟨_,rfl⟩;have hm0:=rF x f;have hm1:=ug hx1 hf;have hti:(c:Int)+(x:Int)*(f:Int)=(t:Int):=by rw [ht];push_cast;rfl
   have ht1:t<18446744073709551616:=by omega
   have hb2:=CJ hcl hx1 (by rw [←ht];exact (Nat.div_add_mod t 4294967296).symm) (Nat.mod_lt _ (by decide));have HV:Hid (∀r bo,r+t%4294967296=y+4294967296*bo→Pl.val (out ++ [r])+f*Pl.val (xs.take (k+1))=Pl.val (d.take (k+1))+4294967296^(k+1)*(t/4294967296+bo)):=fun r bo e=>by
    rw [Pl.val_append,Pl.val_one,hol,Pl.val_take_any d k,Pl.val_take_any xs k,←hy,←hxx];exact EW _ (Nat.pow_succ ..) (aa HVal) ht (Nat.div_add_mod t 4294967296).symm e
   clear HVal hy hxx hr hpl hdl hxl hc ht;by_cases hbo:y<t%4294967296
   ·have hbi:(y:Int)<(t:Int)%4294967296:=by omega
    clear hbo;go_wp2
    go_roundw
    case rel=>
     have e1:(t:Int)/4294967296+1=((t/4294967296+1:Nat):Int):=by omega
     have e2:=IY y t hy1 hbi;rw [e1,e2];exact ⟨k+1,t/4294967296+1,out ++ [y+4294967296-t%4294967296],by omega,by go_num,rfl,by omega,by simp [hol],Pl.wf_append how (Pl.wf_one (by omega)),aa HV _ 1 (by omega),aa HR _,honly.setCell _ _⟩
    case measure=>simp [intOf];omega
   ·have hbi:(t:Int)%4294967296≤(y:Int):=by omega
    clear hbo;go_wp2
    go_roundw
    case rel=>
     have e1:(t:Int)/4294967296=((t/4294967296:Nat):Int):=by omega
     have e2:(y:Int)-(t:Int)%4294967296=((y-t%4294967296:Nat):Int):=by omega
     rw [e1,e2];exact ⟨k+1,t/4294967296,out ++ [y-t%4294967296],by omega,by go_num,rfl,hb2.1,by simp [hol],Pl.wf_append how (Pl.wf_one (by omega)),aa HV _ 0 (by omega),aa HR _,honly.setCell _ _⟩
    case measure=>simp [intOf];omega
  ·have hke:k=n:=by omega
   subst hke;have hxt:xs.take k=xs:=List.take_of_length_le (by omega);have hdt:d.take (k+1)=d:=List.take_of_length_le (by omega);have HV:Hid (∀r (bo:Bool),r+c=y+4294967296*bo.toNat→Pl.val (out ++ [r])+f*Pl.val xs=Pl.val d+4294967296^(k+1)*bo.toNat):=fun r bo e=>by
    have hd2:Pl.val d=Pl.val (d.take k)+4294967296^k*y:=by
     have:=Pl.val_take_any d k;rw [hdt,←hy] at this;exact this
    rw [Pl.val_append,Pl.val_one,hol,hd2];have hval:=aa HVal;rw [hxt] at hval;exact FE (Nat.pow_succ ..) hval e
   have HD:Hid (d.drop (k+1) = []):=List.drop_eq_nil_of_le (by omega);clear HVal hy hr hpl hdl hxl hc hxt hdt;by_cases hbo:y<c
   ·have hbi:(y:Int)<(c:Int):=by omega
    clear hbo;go_wp2
    go_ret
    have e2:=IP y c (by omega) hbi;rw [e2];have hR:=aa HR (y+4294967296-c);rw [aa HD,List.append_nil] at hR;exact ⟨out ++ [y+4294967296-c],true,rfl,by simp [hol],Pl.wf_append how (Pl.wf_one (by omega)),aa HV _ true (by simp;omega),hR,honly.setCell _ _⟩
   ·have hbi:¬(y:Int)<(c:Int):=by omega
    clear hbo;go_wp2
    go_ret
    have e2:(y:Int)-(c:Int)=((y-c:Nat):Int):=by omega
    rw [e2];have hR:=aa HR (y-c);rw [aa HD,List.append_nil] at hR;exact ⟨out ++ [y-c],false,rfl,by simp [hol],Pl.wf_append how (Pl.wf_one (by omega)),aa HV _ false (by simp;omega),hR,honly.setCell _ _⟩
end Go.Proofs.YtaidedkpfnidpaaGreatDoor
namespace Go.Proofs.YtaidedkpfnidpaaGreatDoor
open Go.RowKit
theorem bne_cast(c:Nat):((c:Int) != 0)=(c != 0):=by rw [Bool.eq_iff_iff];simp
set_option maxHeartbeats 400000 in
theorem lW(B p n b off m cap cap':Nat)(pre d post xs:List Nat)(w:World)(hp:Hid (pre.length=p))(hd:Hid (d.length=n))(hx:Hid (xs.length=m))(hmn:m≤n)(hlen:n≤40000)(hne:b≠B)(wd:Pl.Wf d)(wx:Pl.Wf xs)(hrow:Row w B (pre++d++post))(hc:∀j,j<m→w.cell? ⟨b,off+j,none⟩=some (.int .u32 ((xs[j]?.getD 0:Nat):Int))) :
  Calls Tryz.prog 158 #[.slice (some ⟨B,p,none⟩) n cap,.slice (some ⟨b,off,none⟩) m cap'] w
   fun e w'=>∃(out:List Nat) (c:Nat),e = .returned (.bool (c != 0))∧out.length=n∧Pl.Wf out∧c≤1∧Pl.val out+4294967296^n*c=Pl.val d+Pl.val xs∧Row w' B (pre++out++post)∧Only B w w':=by
 go_enter Tryz.func158,Tryz.ntmps158
 go_wp2
 go_loopw [5,9] (fun t i wr=>∃(k c:Nat) (out:List Nat),k≤n∧i = .int .i64 k∧t = .int .u64 (c:Int)∧c≤1∧out.length=k∧Pl.Wf out ∧
   Pl.val out+4294967296^k*c=Pl.val (d.take k)+Pl.val (xs.take k)∧Row wr B (pre++(out++d.drop k)++post)∧Only B w wr) (fun _ i _=>n-(intOf i).toNat)
 case atStart=>exact ⟨0,0,[],Nat.zero_le _,rfl,rfl,by omega,rfl,Pl.wf_nil,by simp [Pl.val],by simpa using hrow,Only.refl _ _⟩
 case round=>
  obtain ⟨k,c,out,hk,rfl,rfl,hcl,hol,how,hval,hr,honly⟩:=hrel;have hpl:=aa hp;have hdl:=aa hd;have hxl:=aa hx;by_cases hlt:k<n
  ·obtain ⟨y,hy⟩:∃y,y=d[k]?.getD 0:=⟨_,rfl⟩;obtain ⟨x,hxx⟩:∃x,x=xs[k]?.getD 0:=⟨_,rfl⟩;have hx1:x<4294967296:=by rw [hxx];exact Pl.wf_at wx k
   have hy1:y<4294967296:=by rw [hy];exact Pl.wf_at wd k
   have hcd:wr.cell? ⟨B,p+k,none⟩=some (.int .u32 (y:Int)):=by
    rw [hr.cell (p+k) (by simp;omega),←hpl,iL _ _ _ _ _ hol (by omega),hy]
   have hfz:wr.frozen? ⟨B,p+k,none⟩=false:=hr.frozen _;have HV:Hid (∀q r,c+y+x=q*4294967296+r→Pl.val (out ++ [r])+4294967296^(k+1)*q=Pl.val (d.take (k+1))+Pl.val (xs.take (k+1))):=fun q r e=>by
    rw [Pl.val_append,Pl.val_one,hol,Pl.val_take_any d k,Pl.val_take_any xs k,←hy,←hxx];exact Pl.step_add _ (Nat.pow_succ ..) hval (c+y+x) q r e y rfl
   have HR:Hid (∀v,Row (wr.setCell ⟨B,p+k,none⟩ (.int .u32 ((v:Nat):Int))) B (pre++((out ++ [v])++d.drop (k+1))++post)):=fun v=>by
    have:=hr.set (p+k) v (by simp;omega);rw [←hpl] at this ⊢
    rwa [set_mid _ _ _ _ _ _ hol (by omega)] at this
   by_cases hkm:k<m
   ·have hcx:wr.cell? ⟨b,off+k,none⟩=some (.int .u32 (x:Int)):=by rw [hxx];exact (honly.cell (by exact hne)).trans (hc k hkm)
    clear hval hy hxx hr hpl hdl hxl hc;go_wp2
    go_roundw
    case rel=>
     have e1:((c:Int)+(y:Int)+(x:Int))/4294967296=(((c+y+x)/4294967296:Nat):Int):=by omega
     have e2:((c:Int)+(y:Int)+(x:Int))%4294967296=(((c+y+x)%4294967296:Nat):Int):=by omega
     rw [e1,e2];exact ⟨k+1,(c+y+x)/4294967296,out ++ [(c+y+x)%4294967296],by omega,by go_num,rfl,by omega,by simp [hol],Pl.wf_append how (Pl.wf_one (by omega)),aa HV _ _ (by omega),aa HR _,honly.setCell _ _⟩
    case measure=>simp [intOf];omega
   ·have hx0:x=0:=by rw [hxx,List.getElem?_eq_none (by omega)];rfl
    subst hx0;clear hval hy hxx hr hpl hdl hxl hc;go_wp2
    go_roundw
    case rel=>
     have e1:((c:Int)+(y:Int))/4294967296=(((c+y+0)/4294967296:Nat):Int):=by omega
     have e2:((c:Int)+(y:Int))%4294967296=(((c+y+0)%4294967296:Nat):Int):=by omega
     rw [e1,e2];exact ⟨k+1,(c+y+0)/4294967296,out ++ [(c+y+0)%4294967296],by omega,by go_num,rfl,by omega,by simp [hol],Pl.wf_append how (Pl.wf_one (by omega)),aa HV _ _ (by omega),aa HR _,honly.setCell _ _⟩
    case measure=>simp [intOf];omega
  ·have hke:k=n:=by omega
   subst hke;rw [List.take_of_length_le (by omega),List.take_of_length_le (by omega)] at hval;rw [List.drop_eq_nil_of_le (by omega),List.append_nil] at hr;have HV:=hide hval;clear hval hpl hdl hxl;go_wp2
   go_ret
   exact ⟨out,c,dP (a:=((c:Int) != 0)) (bne_cast c),hol,how,hcl,aa HV,hr,honly⟩
set_option maxHeartbeats 400000 in
theorem uL(B p n cap cap':Nat)(a:Option Addr)(pre d post:List Nat)(w:World)(hp:Hid (pre.length=p))(hd:Hid (d.length=n))(hlen:n≤40000)(wd:Pl.Wf d)(hrow:Row w B (pre++d++post)) :
  Calls Tryz.prog 158 #[.slice (some ⟨B,p,none⟩) n cap,.slice a 0 cap'] w
   fun e w'=>∃(out:List Nat) (c:Nat),e = .returned (.bool (c != 0))∧out.length=n∧Pl.Wf out∧c≤1∧Pl.val out+4294967296^n*c=Pl.val d∧Row w' B (pre++out++post)∧Only B w w':=by
 go_enter Tryz.func158,Tryz.ntmps158
 go_wp2
 go_loopw [5,9] (fun t i wr=>∃(k c:Nat) (out:List Nat),k≤n∧i = .int .i64 k∧t = .int .u64 (c:Int)∧c≤1∧out.length=k∧Pl.Wf out ∧
   Pl.val out+4294967296^k*c=Pl.val (d.take k)∧Row wr B (pre++(out++d.drop k)++post)∧Only B w wr) (fun _ i _=>n-(intOf i).toNat)
 case atStart=>exact ⟨0,0,[],Nat.zero_le _,rfl,rfl,by omega,rfl,Pl.wf_nil,by simp [Pl.val],by simpa using hrow,Only.refl _ _⟩
 case round=>
  obtain ⟨k,c,out,hk,rfl,rfl,hcl,hol,how,hval,hr,honly⟩:=hrel;have hpl:=aa hp;have hdl:=aa hd;by_cases hlt:k<n
  ·obtain ⟨y,hy⟩:∃y,y=d[k]?.getD 0:=⟨_,rfl⟩;have hy1:y<4294967296:=by rw [hy];exact Pl.wf_at wd k
   have hcd:wr.cell? ⟨B,p+k,none⟩=some (.int .u32 (y:Int)):=by
    rw [hr.cell (p+k) (by simp;omega),←hpl,iL _ _ _ _ _ hol (by omega),hy]
   have hfz:wr.frozen? ⟨B,p+k,none⟩=false:=hr.frozen _;have HV:Hid (∀q r,c+y=q*4294967296+r→Pl.val (out ++ [r])+4294967296^(k+1)*q=Pl.val (d.take (k+1))):=fun q r e=>by
    rw [Pl.val_append,Pl.val_one,hol,Pl.val_take_any d k,←hy];have h0:Pl.val out+4294967296^k*c=Pl.val (d.take k)+0:=hval;have h1:=Pl.step_add (s:=0) _ (Nat.pow_succ ..) h0 (c+y) q r e y rfl;rw [Nat.mul_zero,Nat.add_zero] at h1;exact h1
   have HR:Hid (∀v,Row (wr.setCell ⟨B,p+k,none⟩ (.int .u32 ((v:Nat):Int))) B (pre++((out ++ [v])++d.drop (k+1))++post)):=fun v=>by
    have:=hr.set (p+k) v (by simp;omega);rw [←hpl] at this ⊢
    rwa [set_mid _ _ _ _ _ _ hol (by omega)] at this
   clear hval hy hr hpl hdl;go_wp2
   go_roundw
   case rel=>
    have e1:((c:Int)+(y:Int))/4294967296=(((c+y)/4294967296:Nat):Int):=by omega
    have e2:((c:Int)+(y:Int))%4294967296=(((c+y)%4294967296:Nat):Int):=by omega
    rw [e1,e2];exact ⟨k+1,(c+y)/4294967296,out ++ [(c+y)%4294967296],by omega,by go_num,rfl,by omega,by simp [hol],Pl.wf_append how (Pl.wf_one (by omega)),aa HV _ _ (by omega),aa HR _,honly.setCell _ _⟩
   case measure=>simp [intOf];omega
  ·have hke:k=n:=by omega
   subst hke;rw [List.take_of_length_le (by omega)] at hval;rw [List.drop_eq_nil_of_le (by omega),List.append_nil] at hr;have HV:=hide hval;clear hval hpl hdl;go_wp2
   go_ret
   exact ⟨out,c,dP (a:=((c:Int) != 0)) (bne_cast c),hol,how,hcl,aa HV,hr,honly⟩
end Go.Proofs.YtaidedkpfnidpaaGreatDoor
namespace Go.Proofs.YtaidedkpfnidpaaGreatDoor
open Go.RowKit
theorem BD(x:Nat)(hx:x<4294967296):Go.bits .xor .u32 4294967295 (x:Int)=((4294967295-x:Nat):Int):=by
 have h1:BitVec.ofInt 32 4294967295=BitVec.allOnes 32:=by decide
 have h2:(BitVec.ofInt 32 (x:Int)).toNat=x:=by
  rw [BitVec.ofInt_natCast,BitVec.toNat_ofNat];exact Nat.mod_eq_of_lt (by omega)
 show IntKind.u32.wrap ((BitVec.ofInt 32 4294967295 ^^^ BitVec.ofInt 32 (x:Int)).toNat:Int)=_
 rw [h1,BitVec.allOnes_xor,BitVec.toNat_not,h2,IntKind.wrap_u32];omega
theorem Pl.step_take{p o c d B:Nat}(B':Nat)(hB:B'=B*4294967296)(h:o+B*c+p=d+B)(t q r:Nat)(ht:t=q*4294967296+r)(x s:Nat)(hs:s<4294967296)(hx:t=c+x+(4294967295-s)) :
  (o+B*r)+B'*q+(p+B*s)=(d+B*x)+B':=by
 subst hB;have e0:t+s+1=c+x+4294967296:=by omega
 have e1:B*(t+s+1)=B*(c+x+4294967296):=by rw [e0]
 have e2:B*t=B*4294967296*q+B*r:=by rw [ht,Nat.mul_add,Nat.mul_assoc,Nat.mul_comm q]
 simp only [Nat.mul_add,Nat.mul_one] at e1;omega
theorem Pl.take_end{O c B p d:Nat}(h:O+B*c+p=d+B)(hO:O<B)(hp:p≤d)(hc:c≤1):O=d-p:=by
 have hc':c=1:=by
  cases c with
  | zero=>simp at h;omega
  | succ c=>omega
 subst hc';omega
set_option maxHeartbeats 400000 in
theorem qK(B n b off m cap cap':Nat)(d xs:List Nat)(w:World)(hd:Hid (d.length=n))(hx:Hid (xs.length=m))(hmn:m≤n)(hlen:n≤40000)(hne:b≠B)(hle:Hid (Pl.val xs≤Pl.val d))(wd:Pl.Wf d)(wx:Pl.Wf xs)(hrow:Row w B d)(hc:∀j,j<m→w.cell? ⟨b,off+j,none⟩=some (.int .u32 ((xs[j]?.getD 0:Nat):Int))) :
  Calls Tryz.prog 168 #[.slice (some ⟨B,0,none⟩) n cap,.slice (some ⟨b,off,none⟩) m cap'] w
   fun e w'=>∃(out:List Nat),e = .returned (.tuple #[])∧out.length=n∧Pl.Wf out∧Pl.val out=Pl.val d-Pl.val xs∧Row w' B out∧Only B w w':=by
 go_enter Tryz.func168,Tryz.ntmps168
 go_wp2
 go_loopw [4,9] (fun t i wr=>∃(k c:Nat) (out:List Nat),k≤n∧i = .int .i64 k∧t = .int .u64 (c:Int)∧c≤1∧out.length=k∧Pl.Wf out ∧
   Pl.val out+4294967296^k*c+Pl.val (xs.take k)=Pl.val (d.take k)+4294967296^k∧Row wr B (out++d.drop k)∧Only B w wr) (fun _ i _=>n-(intOf i).toNat)
 case atStart=>exact ⟨0,1,[],Nat.zero_le _,rfl,rfl,by omega,rfl,Pl.wf_nil,by simp [Pl.val],by simpa using hrow,Only.refl _ _⟩
 case round=>
  obtain ⟨k,c,out,hk,rfl,rfl,hcl,hol,how,hval,hr,honly⟩:=hrel;have hdl:=aa hd;have hxl:=aa hx;by_cases hlt:k<n
  ·obtain ⟨y,hy⟩:∃y,y=d[k]?.getD 0:=⟨_,rfl⟩;obtain ⟨x,hxx⟩:∃x,x=xs[k]?.getD 0:=⟨_,rfl⟩;have hx1:x<4294967296:=by rw [hxx];exact Pl.wf_at wx k
   have hy1:y<4294967296:=by rw [hy];exact Pl.wf_at wd k
   have hcd:wr.cell? ⟨B,k,none⟩=some (.int .u32 (y:Int)):=by
    have:=iL [] out d [] k hol (by omega);simp only [List.nil_append,List.append_nil,List.length_nil,Nat.zero_add] at this;rw [hr.cell k (by simp;omega),this,hy]
   have hfz:wr.frozen? ⟨B,k,none⟩=false:=hr.frozen _;have HV:Hid (∀q r,c+y+(4294967295-x)=q*4294967296+r→Pl.val (out ++ [r])+4294967296^(k+1)*q+Pl.val (xs.take (k+1))=Pl.val (d.take (k+1))+4294967296^(k+1)):=fun q r e=>by
    rw [Pl.val_append,Pl.val_one,hol,Pl.val_take_any d k,Pl.val_take_any xs k,←hy,←hxx];exact Pl.step_take _ (Nat.pow_succ ..) hval (c+y+(4294967295-x)) q r e y x hx1 rfl
   have HR:Hid (∀v,Row (wr.setCell ⟨B,k,none⟩ (.int .u32 ((v:Nat):Int))) B ((out ++ [v])++d.drop (k+1))):=fun v=>by
    have:=hr.set k v (by simp;omega);have e:=set_mid [] out d [] k v hol (by omega);simp only [List.nil_append,List.append_nil,List.length_nil,Nat.zero_add] at e
    rwa [e] at this
   by_cases hkm:k<m
   ·have hcx:wr.cell? ⟨b,off+k,none⟩=some (.int .u32 (x:Int)):=by rw [hxx];exact (honly.cell (by exact hne)).trans (hc k hkm)
    have hxo:=BD x hx1;obtain ⟨x',hx'⟩:∃x',x'=4294967295-x:=⟨_,rfl⟩;rw [←hx'] at hxo;have hx2:x'<4294967296:=by omega
    have HX:=hide hx';clear hval hy hxx hr hdl hxl hc hx';go_wp2
    go_roundw
    case rel=>
     have e1:((c:Int)+((y:Int)+(x':Int)))/4294967296=(((c+y+x')/4294967296:Nat):Int):=by omega
     have e2:((c:Int)+((y:Int)+(x':Int)))%4294967296=(((c+y+x')%4294967296:Nat):Int):=by omega
     rw [e1,e2];have:=aa HX;exact ⟨k+1,(c+y+x')/4294967296,out ++ [(c+y+x')%4294967296],by omega,by go_num,rfl,by omega,by simp [hol],Pl.wf_append how (Pl.wf_one (by omega)),aa HV _ _ (by omega),aa HR _,honly.setCell _ _⟩
    case measure=>simp [intOf];omega
   ·have hx0:x=0:=by rw [hxx,List.getElem?_eq_none (by omega)];rfl
    subst hx0;clear hval hy hxx hr hdl hxl hc;go_wp2
    go_roundw
    case rel=>
     have e1:((c:Int)+((y:Int)+4294967295))/4294967296=(((c+y+(4294967295-0))/4294967296:Nat):Int):=by omega
     have e2:((c:Int)+((y:Int)+4294967295))%4294967296=(((c+y+(4294967295-0))%4294967296:Nat):Int):=by omega
     rw [e1,e2];exact ⟨k+1,(c+y+(4294967295-0))/4294967296,out ++ [(c+y+(4294967295-0))%4294967296],by omega,by go_num,rfl,by omega,by simp [hol],Pl.wf_append how (Pl.wf_one (by omega)),aa HV _ _ (by omega),aa HR _,honly.setCell _ _⟩
    case measure=>simp [intOf];omega
  ·have hke:k=n:=by omega
   subst hke;rw [List.take_of_length_le (by omega),List.take_of_length_le (by omega)] at hval;rw [List.drop_eq_nil_of_le (by omega),List.append_nil] at hr;have hve:Pl.val out=Pl.val d-Pl.val xs:=Pl.take_end hval (by have:=Pl.val_lt how;rwa [hol] at this) (aa hle) hcl;have HV:=hide hve;clear hval hdl hxl hve;go_wp2
   go_end0
   exact ⟨out,rfl,hol,how,aa HV,hr,honly⟩
set_option maxHeartbeats 400000 in
theorem qN(B n cap cap':Nat)(a:Option Addr)(d:List Nat)(w:World)(hd:Hid (d.length=n))(hlen:n≤40000)(wd:Pl.Wf d)(hrow:Row w B d) :
  Calls Tryz.prog 168 #[.slice (some ⟨B,0,none⟩) n cap,.slice a 0 cap'] w
   fun e w'=>∃(out:List Nat),e = .returned (.tuple #[])∧out.length=n∧Pl.Wf out∧Pl.val out=Pl.val d∧Row w' B out∧Only B w w':=by
 go_enter Tryz.func168,Tryz.ntmps168
 go_wp2
 go_loopw [4,9] (fun t i wr=>∃(k c:Nat) (out:List Nat),k≤n∧i = .int .i64 k∧t = .int .u64 (c:Int)∧c≤1∧out.length=k∧Pl.Wf out ∧
   Pl.val out+4294967296^k*c+0=Pl.val (d.take k)+4294967296^k∧Row wr B (out++d.drop k)∧Only B w wr) (fun _ i _=>n-(intOf i).toNat)
 case atStart=>exact ⟨0,1,[],Nat.zero_le _,rfl,rfl,by omega,rfl,Pl.wf_nil,by simp [Pl.val],by simpa using hrow,Only.refl _ _⟩
 case round=>
  obtain ⟨k,c,out,hk,rfl,rfl,hcl,hol,how,hval,hr,honly⟩:=hrel;have hdl:=aa hd;by_cases hlt:k<n
  ·obtain ⟨y,hy⟩:∃y,y=d[k]?.getD 0:=⟨_,rfl⟩;have hy1:y<4294967296:=by rw [hy];exact Pl.wf_at wd k
   have hcd:wr.cell? ⟨B,k,none⟩=some (.int .u32 (y:Int)):=by
    have:=iL [] out d [] k hol (by omega);simp only [List.nil_append,List.append_nil,List.length_nil,Nat.zero_add] at this;rw [hr.cell k (by simp;omega),this,hy]
   have hfz:wr.frozen? ⟨B,k,none⟩=false:=hr.frozen _;have HV:Hid (∀q r,c+y+4294967295=q*4294967296+r→Pl.val (out ++ [r])+4294967296^(k+1)*q+0=Pl.val (d.take (k+1))+4294967296^(k+1)):=fun q r e=>by
    rw [Pl.val_append,Pl.val_one,hol,Pl.val_take_any d k,←hy];have:=Pl.step_take _ (Nat.pow_succ ..) hval (c+y+(4294967295-0)) q r e y 0 (by decide) rfl
    rwa [Nat.mul_zero] at this
   have HR:Hid (∀v,Row (wr.setCell ⟨B,k,none⟩ (.int .u32 ((v:Nat):Int))) B ((out ++ [v])++d.drop (k+1))):=fun v=>by
    have:=hr.set k v (by simp;omega);have e:=set_mid [] out d [] k v hol (by omega);simp only [List.nil_append,List.append_nil,List.length_nil,Nat.zero_add] at e
    rwa [e] at this
   clear hval hy hr hdl;go_wp2
   go_roundw
   case rel=>
    have e1:((c:Int)+((y:Int)+4294967295))/4294967296=(((c+y+4294967295)/4294967296:Nat):Int):=by omega
    have e2:((c:Int)+((y:Int)+4294967295))%4294967296=(((c+y+4294967295)%4294967296:Nat):Int):=by omega
    rw [e1,e2];exact ⟨k+1,(c+y+4294967295)/4294967296,out ++ [(c+y+4294967295)%4294967296],by omega,by go_num,rfl,by omega,by simp [hol],Pl.wf_append how (Pl.wf_one (by omega)),aa HV _ _ (by omega),aa HR _,honly.setCell _ _⟩
   case measure=>simp [intOf];omega
  ·have hke:k=n:=by omega
   subst hke;rw [List.take_of_length_le (by omega)] at hval;rw [List.drop_eq_nil_of_le (by omega),List.append_nil] at hr;have hve:Pl.val out=Pl.val d-0:=Pl.take_end hval (by have:=Pl.val_lt how;rwa [hol] at this) (Nat.zero_le _) hcl;have HV:=hide hve;clear hval hdl hve;go_wp2
   go_end0
   exact ⟨out,rfl,hol,how,aa HV,hr,honly⟩
theorem qJ(cap:Nat)(a a':Option Addr)(n' cap':Nat)(w:World) :
  Calls Tryz.prog 168 #[.slice a 0 cap,.slice a' n' cap'] w
   fun e w'=>e = .returned (.tuple #[])∧w'=w:=by
 go_enter Tryz.func168,Tryz.ntmps168
 go_wp2
 refine wp_loop_rounds 1 ?_;rw [rounds_succ];go_wp2
 go_end0
 exact ⟨rfl,rfl⟩
end Go.Proofs.YtaidedkpfnidpaaGreatDoor
namespace Go.Proofs.YtaidedkpfnidpaaGreatDoor
open Go.RowKit
set_option maxHeartbeats 400000 in
theorem sK(E F b:Nat)(neg:Bool)(h:Fo E F)(hB:Bt E F b neg 0 0)(w:World):Calls Tryz.prog 46 #[.agg #[.int .i64 E,.int .i64 F],.bool neg,.func (Fn.func 47) #[] #[]] w fun e w'=>e = .returned (.tuple #[.int .u64 b,.int .i64 0])∧Below w.heap.size w w':=by
 have HB:=hide hB;clear hB;go_enter Tryz.func46,Tryz.ntmps46
 go_wp2_with fail
 refine (dW _ _ _ h).mono ?_;rintro e w1 ⟨rfl,hb1⟩;have hS:=(Fs.one w _ _).kept hb1;obtain ⟨⟨z1_0_0,z1_0_1,-⟩,-⟩:=hS.cells;go_wp2_with fail
 refine (nW _ _ _).mono ?_;rintro e w2 ⟨rfl,hb2⟩;replace hS:=hS.kept hb2;clear z1_0_0 z1_0_1;obtain ⟨⟨z2_0_0,z2_0_1,-⟩,-⟩:=hS.cells;have hlt:w.heap.size<w2.heap.size:=block_lt (hS.bx ⟨w.heap.size,#[.int .i64 E,.int .i64 F],23⟩ (by simp));replace hS:=hS.kept (ah w2 (.cells #[.bool neg,.int .i64 0,.int .u64 0] 35));go_wp2_with fail
 refine (lh _ _ b 0 0 neg _ h (aa HB)).mono ?_;rintro e w3 ⟨rfl,hb3⟩;replace hS:=hS.kept hb3;go_wp2
 go_ret2
 exact ⟨rfl,hS.fr⟩
set_option maxHeartbeats 400000 in
theorem zu(E F b:Nat)(neg:Bool)(h:Fo E F)(hB:Bt E F b neg 0 0)(w:World):Calls Tryz.prog 16 #[.agg #[.int .i64 E,.int .i64 F],.bool neg] w fun e w'=>e = .returned (.tuple #[.int .u64 b,.int .i64 0])∧Below w.heap.size w w':=by
 have HB:=hide hB;clear hB;go_enter Tryz.func16,Tryz.ntmps16
 go_wp2_with fail
 refine (sK _ _ b neg h (aa HB) _).mono ?_;rintro e w1 ⟨rfl,hb1⟩;have hS:=(Fs.one w _ _).kept hb1;obtain ⟨⟨z1_0_0,z1_0_1,-⟩,-⟩:=hS.cells;go_wp2
 go_ret2
 exact ⟨rfl,hS.fr⟩
set_option maxHeartbeats 400000 in
theorem yR(E F b m1:Nat)(neg:Bool)(h:Fo E F)(hB:Bt E F b neg m1 0)(hm:Hid (m1=2^E-1))(w:World):Calls Tryz.prog 46 #[.agg #[.int .i64 E,.int .i64 F],.bool neg,.func (Fn.func 130) #[] #[]] w fun e w'=>e = .returned (.tuple #[.int .u64 b,.int .i64 0])∧Below w.heap.size w w':=by
 have HB:=hide hB;clear hB;go_enter Tryz.func46,Tryz.ntmps46
 go_wp2_with fail
 refine (dW _ _ _ h).mono ?_;rintro e w1 ⟨rfl,hb1⟩;have hS:=(Fs.one w _ _).kept hb1;obtain ⟨⟨z1_0_0,z1_0_1,-⟩,-⟩:=hS.cells;go_wp2_with fail
 refine (tO _ _ m1 h hm _).mono ?_;rintro e w2 ⟨rfl,hb2⟩;replace hS:=hS.kept hb2;clear z1_0_0 z1_0_1;obtain ⟨⟨z2_0_0,z2_0_1,-⟩,-⟩:=hS.cells;have hlt:w.heap.size<w2.heap.size:=block_lt (hS.bx ⟨w.heap.size,#[.int .i64 E,.int .i64 F],23⟩ (by simp));replace hS:=hS.kept (ah w2 (.cells #[.bool neg,.int .i64 m1,.int .u64 0] 35));go_wp2_with fail
 refine (lh _ _ b m1 0 neg _ h (aa HB)).mono ?_;rintro e w3 ⟨rfl,hb3⟩;replace hS:=hS.kept hb3;go_wp2
 go_ret2
 exact ⟨rfl,hS.fr⟩
set_option maxHeartbeats 400000 in
theorem zL(E F b m1:Nat)(neg:Bool)(h:Fo E F)(hB:Bt E F b neg m1 0)(hm:Hid (m1=2^E-1))(w:World):Calls Tryz.prog 92 #[.agg #[.int .i64 E,.int .i64 F],.bool neg] w fun e w'=>e = .returned (.tuple #[.int .u64 b,.int .i64 0])∧Below w.heap.size w w':=by
 have HB:=hide hB;clear hB;go_enter Tryz.func92,Tryz.ntmps92
 go_wp2_with fail
 refine (yR _ _ b m1 neg h (aa HB) hm _).mono ?_;rintro e w1 ⟨rfl,hb1⟩;have hS:=(Fs.one w _ _).kept hb1;obtain ⟨⟨z1_0_0,z1_0_1,-⟩,-⟩:=hS.cells;go_wp2
 go_ret2
 exact ⟨rfl,hS.fr⟩
set_option maxHeartbeats 400000 in
theorem pJ(E F b m1 m0:Nat)(neg:Bool)(h:Fo E F)(hB:Bt E F b neg m1 m0)(hm:Hid (m1+1=2^E-1))(hm0:Hid (m0=2^F-1))(w:World):Calls Tryz.prog 46 #[.agg #[.int .i64 E,.int .i64 F],.bool neg,.func (Fn.func 172) #[] #[]] w fun e w'=>e = .returned (.tuple #[.int .u64 b,.int .i64 0])∧Below w.heap.size w w':=by
 have HB:=hide hB;clear hB;go_enter Tryz.func46,Tryz.ntmps46
 go_wp2_with fail
 refine (dW _ _ _ h).mono ?_;rintro e w1 ⟨rfl,hb1⟩;have hS:=(Fs.one w _ _).kept hb1;obtain ⟨⟨z1_0_0,z1_0_1,-⟩,-⟩:=hS.cells;go_wp2_with fail
 refine (mJ _ _ m1 m0 h hm hm0 _).mono ?_;rintro e w2 ⟨rfl,hb2⟩;replace hS:=hS.kept hb2;clear z1_0_0 z1_0_1;obtain ⟨⟨z2_0_0,z2_0_1,-⟩,-⟩:=hS.cells;have hlt:w.heap.size<w2.heap.size:=block_lt (hS.bx ⟨w.heap.size,#[.int .i64 E,.int .i64 F],23⟩ (by simp));replace hS:=hS.kept (ah w2 (.cells #[.bool neg,.int .i64 m1,.int .u64 m0] 35));go_wp2_with fail
 refine (lh _ _ b m1 m0 neg _ h (aa HB)).mono ?_;rintro e w3 ⟨rfl,hb3⟩;replace hS:=hS.kept hb3;go_wp2
 go_ret2
 exact ⟨rfl,hS.fr⟩
set_option maxHeartbeats 400000 in
theorem uo(E F b m1 m0:Nat)(neg:Bool)(h:Fo E F)(hB:Bt E F b neg m1 m0)(hm:Hid (m1+1=2^E-1))(hm0:Hid (m0=2^F-1))(w:World):Calls Tryz.prog 166 #[.agg #[.int .i64 E,.int .i64 F],.bool neg] w fun e w'=>e = .returned (.tuple #[.int .u64 b,.int .i64 0])∧Below w.heap.size w w':=by
 have HB:=hide hB;clear hB;go_enter Tryz.func166,Tryz.ntmps166
 go_wp2_with fail
 refine (pJ _ _ b m1 m0 neg h (aa HB) hm hm0 _).mono ?_;rintro e w1 ⟨rfl,hb1⟩;have hS:=(Fs.one w _ _).kept hb1;obtain ⟨⟨z1_0_0,z1_0_1,-⟩,-⟩:=hS.cells;go_wp2
 go_ret2
 exact ⟨rfl,hS.fr⟩
end Go.Proofs.YtaidedkpfnidpaaGreatDoor
namespace Go.Proofs.YtaidedkpfnidpaaGreatDoor
open Go.RowKit
structure Pk where
 A:Option Addr
 N:Nat
 C:Nat
abbrev gZ:=Nat→Pk
def gZ.set(p:gZ)(c:Nat)(q:Pk):gZ:=fun i=>if i=c then q else p i
def qU(ops:Array Oper)(c:Nat):Nat→Nat→Bool
 | 0,_=>false
 | f+1,k=>match ops[k]? with
  | some o=>o.after.any fun e=>Region.binds .any e&&(e.on==c||qU ops c f e.on)
  | none=>false
theorem dM.step{ops:Array Oper}{ds:ay}{T0:Array Value}{l:Array Bool}{t:Array Value}{i:Nat}(hD:dM ops ds T0 l t)(ha:ay.apart ds=true)(hw:ay.within ds T0.size=true)(hi:i∈Region.ready .any ops l)(hl:l[i]? = some false) :
  dM ops ds T0 (l.setIfInBounds i true) (gQ (ds[i]?.getD none) t):=by
 obtain ⟨hlt,-⟩:=Array.getElem?_eq_some_iff.1 hl;have hset:∀k,(l.setIfInBounds i true)[k]? = some true↔(k=i∨l[k]? = some true):=by
  intro k;by_cases hk:k=i
  ·subst hk;simp [hlt]
  ·rw [Array.getElem?_setIfInBounds_ne (Ne.symm hk)];simp [hk]
 constructor
 ·rw [Array.size_setIfInBounds];exact hD.len
 ·rw [←hD.size];cases hd:ds[i]?.getD none with
  | none=>rfl
  | some d=>obtain ⟨s,v⟩:=d;simp [gQ]
 ·intro k s v hk hlk;rcases (hset k).1 hlk with rfl|hlk9
  ·rw [hk];have hs:s<t.size:=by rw [hD.size];simpa using List.all_eq_true.1 hw _ (List.mem_of_getElem? hk)
   simp [gQ,hs]
  ·cases hd:ds[i]?.getD none with
   | none=>exact hD.on k s v hk hlk9
   | some d=>
    obtain ⟨s',v'⟩:=d;have hd':ds[i]? = some (some (s',v')):=by
     cases hx:ds[i]? with
     | none=>rw [hx] at hd;simp at hd
     | some y=>rw [hx] at hd;simp at hd;rw [hd]
    have hne:s'≠s:=by
     intro e;subst e;obtain rfl:=ay.one ha hk hd';rw [hl] at hlk9;cases hlk9
    rw [gQ,Array.getElem?_setIfInBounds_ne hne];exact hD.on k s v hk hlk9
 ·intro s hs;cases hd:ds[i]?.getD none with
  | none=>exact hD.off s (fun k v hk hlk=>hs k v hk ((hset k).2 (Or.inr hlk)))
  | some d=>
   obtain ⟨s',v'⟩:=d;have hd':ds[i]? = some (some (s',v')):=by
    cases hx:ds[i]? with
    | none=>rw [hx] at hd;simp at hd
    | some y=>rw [hx] at hd;simp at hd;rw [hd]
   have hne:s'≠s:=by
    intro e;subst e;exact hs i v' hd' ((hset i).2 (Or.inl rfl))
   rw [gQ,Array.getElem?_setIfInBounds_ne hne];exact hD.off s (fun k v hk hlk=>hs k v hk ((hset k).2 (Or.inr hlk)))
 ·intro k o hlk ho e he hbe;rcases (hset k).1 hlk with rfl|hlk
  ·obtain ⟨o',ho',hd'⟩:=(mem_ready.1 hi).2;rw [ho] at ho';cases ho';exact gF ((hset _).2 (Or.inr (ak (hd' e he hbe))))
  ·exact gF ((hset _).2 (Or.inr (ak (hD.shut k o hlk ho e he hbe))))
theorem dM.turn{ops:Array Oper}{ds ds':ay}{T0:Array Value}{l:Array Bool}{t:Array Value}(hD:dM ops ds T0 l t)(h:∀k:Nat,l[k]? = some true→ds'[k]? = ds[k]?):dM ops ds' T0 l t:=
 ⟨hD.len,hD.size,fun k s v hk hl=>hD.on k s v (by rw [←h k hl];exact hk) hl,fun s hs=>hD.off s (fun k v hk hl=>hs k v (by rw [h k hl];exact hk) hl),hD.shut⟩
theorem dM.down{ops:Array Oper}{ds:ay}{T0:Array Value}{l:Array Bool}{t:Array Value}(hD:dM ops ds T0 l t){c:Nat}(hc:l[c]? = some false):∀(f k:Nat),qU ops c f k=true→l[k]?≠some true
 | 0,_,h=>by simp [qU] at h
 | f+1,k,h=>by
  intro hl;unfold qU at h;cases ho:ops[k]? with
  | none=>rw [ho] at h;simp at h
  | some o=>
   rw [ho] at h;simp only [Array.any_eq_true',Bool.and_eq_true,Bool.or_eq_true,beq_iff_eq] at h;obtain ⟨e,he,hb,h⟩:=h;have h1:=ak (hD.shut k o hl ho e he hb);rcases h with h|h
   ·rw [h,hc] at h1;cases h1
   ·exact dM.down hD hc f e.on h h1
theorem nS{P:Program}{ops:Array Oper}{Q:Exit→Act→World→Prop}(D:gZ→ay)(M:gZ→Array Bool→World→Prop)(T0:Array Value)(w0:World)(ha:∀p,ay.apart (D p)=true)(hb:kX ops=true)(hlen:∀p,(D p).length=ops.size)(hw:∀p,ay.within (D p) T0.size=true)(hstep:∀p l t w i,dM ops (D p) T0 l t→i∈Region.ready .any ops l→l[i]? = some false→M p l w →
   wpOp P ops Q i (fun a w'=>∃p',(∀k:Nat,l[k]? = some true→(D p')[k]? = (D p)[k]?)∧a=⟨gQ ((D p')[i]?.getD none) t,[]⟩∧M p' (l.setIfInBounds i true) w') ⟨t,[]⟩ w)(hdone:∀p l w,l.size=ops.size→(∀i,i<ops.size→l[i]? = some true)→M p l w→Q .normal ⟨ay.lay (D p) T0,[]⟩ w)(p0:gZ)(hM:M p0 (Array.replicate ops.size false) w0):wpAny P .any ops Q ops.size (Array.replicate ops.size false) ⟨T0,[]⟩ w0:=by
 refine iG (fun l a w=>∃p t,a=⟨t,[]⟩∧dM ops (D p) T0 l t∧M p l w) ?_ ?_ _ _ _ _ ?_ ⟨p0,T0,rfl,?_,hM⟩
 ·rintro l a w i ⟨p,t,rfl,hD,hm⟩ hi hl;refine wpOp_mono ?_ (hstep p l t w i hD hi hl hm);rintro a' w' ⟨p',hag,rfl,hm'⟩;exact ⟨p',_,rfl,(hD.turn hag).step (ha p') (hw p') hi hl,hm'⟩
 ·rintro l a w ⟨p,t,rfl,hD,hm⟩ hr;have hl:=tV hD.len hb hr;rw [hD.done (ha p) (hlen p) (hw p) hl];exact hdone p l w hD.len hl hm
 ·simp
 ·constructor
  ·simp
  ·rfl
  ·intro k s v _ h;rw [Array.getElem?_replicate] at h
   split at h<;>cases h
  ·intro s _;rfl
  ·intro k o h;rw [Array.getElem?_replicate] at h
   split at h<;>cases h
structure St(base:Nat)(f:World→Prop):Prop where
 kept:∀W W',Below W.heap.size W W'→f W→f W'
 set:∀W p u,p.block<base→f W→f (W.setCell p u)
structure Pm(w0:World)(base:Nat)(fs:List (Nat×(Pk→World→Prop)))(p:gZ)(l:Array Bool)(W:World)(bs:List En):Prop where
 st:Fs w0 W bs
 bw:base≤W.heap.size
 fx:∀x,x∈fs→(l[x.1]? = some true∨l.size≤x.1)→x.2 (p x.1) W
theorem Pm.start{w0 W:World}{bs:List En}(h:Fs w0 W bs)(fs:List (Nat×(Pk→World→Prop)))(p:gZ)(n:Nat)(hs:∀x,x∈fs→∀q,St W.heap.size (x.2 q))(h0:∀x,x∈fs→n≤x.1→x.2 (p x.1) W):Pm w0 W.heap.size fs p (Array.replicate n false) W.drew bs:=
 ⟨h.drew,Nat.le_refl _,fun x hx hl=>by
  rcases hl with hl|hl
  ·rw [Array.getElem?_replicate] at hl;split at hl<;>cases hl
  ·rw [Array.size_replicate] at hl;exact (hs x hx _).kept _ _ (Below.refl _ _).drew (h0 x hx hl)⟩
theorem Pm.start2{w0 W:World}{bs:List En}{base:Nat}(h:Fs w0 W bs)(fs:List (Nat×(Pk→World→Prop)))(p:gZ)(n:Nat)(hbase:base≤W.heap.size)(hs:∀x,x∈fs→∀q,St base (x.2 q))(h0:∀x,x∈fs→n≤x.1→x.2 (p x.1) W):Pm w0 base fs p (Array.replicate n false) W.drew bs:=
 ⟨h.drew,hbase,fun x hx hl=>by
  rcases hl with hl|hl
  ·rw [Array.getElem?_replicate] at hl;split at hl<;>cases hl
  ·rw [Array.size_replicate] at hl;exact (hs x hx _).kept _ _ (Below.refl _ _).drew (h0 x hx hl)⟩
theorem Pm.val{w0 W:World}{base:Nat}{fs:List (Nat×(Pk→World→Prop))}{p:gZ}{l:Array Bool}{bs:List En}{i:Nat}(h:Pm w0 base fs p l W bs)(hi:(fs.map Prod.fst).all (fun x=>x != i)=true):Pm w0 base fs p (l.setIfInBounds i true) W bs:=
 ⟨h.st,h.bw,fun x hx hl=>h.fx x hx (by
  have:=List.all_eq_true.1 hi x.1 (List.mem_map_of_mem hx);rw [Array.getElem?_setIfInBounds_ne (by intro e;subst e;simp at this),Array.size_setIfInBounds] at hl;exact hl)⟩
theorem Pm.kept{w0 W W':World}{base:Nat}{fs:List (Nat×(Pk→World→Prop))}{p:gZ}{l:Array Bool}{bs:List En}(h:Pm w0 base fs p l W bs)(hs:∀x,x∈fs→∀q,St base (x.2 q))(hb:Below W.heap.size W W'):Pm w0 base fs p l W' bs:=
 ⟨h.st.kept hb,Nat.le_trans h.bw hb.size,fun x hx hl=>(hs x hx _).kept W W' hb (h.fx x hx hl)⟩
theorem Pm.pick{w0 W:World}{base:Nat}{fs:List (Nat×(Pk→World→Prop))}{p:gZ}{l:Array Bool}{bs:List En}{c:Nat}(h:Pm w0 base fs p l W bs)(q:Pk)(hq:∀x,x∈fs→x.1=c→x.2 q W):Pm w0 base fs (p.set c q) (l.setIfInBounds c true) W bs:=
 ⟨h.st,h.bw,fun x hx hl=>by
  by_cases e:x.1=c
  ·have:=hq x hx e;rw [e];simpa [gZ.set] using this
  ·rw [Array.getElem?_setIfInBounds_ne (Ne.symm e),Array.size_setIfInBounds] at hl;have:=h.fx x hx hl;simpa [gZ.set,e] using this⟩
theorem Pm.put{w0 W:World}{base:Nat}{fs:List (Nat×(Pk→World→Prop))}{p:gZ}{l:Array Bool}{bs bs':List En}(h:Pm w0 base fs p l W bs)(hs:∀x,x∈fs→∀q,St base (x.2 q))(a:Addr)(u:Value)(ha:a.block<base)(h':Fs w0 (W.setCell a u) bs'):Pm w0 base fs p l (W.setCell a u) bs':=
 ⟨h',by have:=h.bw;simpa [World.setCell] using this,fun x hx hl=>(hs x hx _).set W a u ha (h.fx x hx hl)⟩
theorem Pm.into{w0 W:World}{base:Nat}{fs:List (Nat×(Pk→World→Prop))}{p:gZ}{l:Array Bool}{bs bs':List En}(h:Pm w0 base fs p l W bs)(e:bs=bs'):Pm w0 base fs p l W bs':=e▸h
theorem Pm.keepM{w0 W:World}{base:Nat}{fs:List (Nat×(Pk→World→Prop))}{p':gZ}{l:Array Bool}{i:Nat}{bG:List (Nat×List En)}{b:List En}(hi:(bG.map Prod.fst).all (fun x=>x != i)=true)(h:Pm w0 base fs p' (l.setIfInBounds i true) W (aS l bG b)):Pm w0 base fs p' (l.setIfInBounds i true) W (aS (l.setIfInBounds i true) bG b):=
 h.into (by
  rw [ll];rw [List.all_map] at hi;exact hi)
theorem Pm.putM{w0 W:World}{base:Nat}{fs:List (Nat×(Pk→World→Prop))}{p:gZ}{l:Array Bool}{i:Nat}{bG:List (Nat×List En)}{b b':List En}(hl:l[i]? = some false)(h:Pm w0 base fs p (l.setIfInBounds i true) W b'):Pm w0 base fs p (l.setIfInBounds i true) W (aS (l.setIfInBounds i true) ((i,b')::bG) b):=
 h.into (qm hl).symm
end Go.Proofs.YtaidedkpfnidpaaGreatDoor
