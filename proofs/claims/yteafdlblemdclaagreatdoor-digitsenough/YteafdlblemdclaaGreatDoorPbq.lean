/- Of what DigitsEnoughRow stands on: CloS CloC CloD CloE CloF CloG. -/
import Derived.Test.YteafdlblemdclaaGreatDoorPbp
import Derived.Laws.Slices
namespace Go.Proofs.YteafdlblemdclaaGreatDoor
open Go.RowKit
def cod (j c:Nat):Nat:=8589934592+j * 1048576+c
def natV:Value→Option Nat
 | .int _ (.ofNat n)=>some n
 | _=>none
def optN (d:Nat):Option Value→Option Nat
 | none=>some d
 | some v=>natV v
def slv (j c:Nat) (xv:Value) (lo hi mx:Option Value):CSt→Option (Value×CSt)
 | ⟨H,n,tr,em⟩=>match xv with
  | .slice (some a) len cap=>match optN 0 lo,optN len hi with
   | some l,some h=>match mx with
    | none=>match Nat.ble l h && (Nat.ble h c || hi.isNone) && (Nat.blt l c || Nat.beq l 0) with
     | true=>some (.slice (some (a.add l)) (h - l) (cap - l),⟨H,n,tr,(cap,cod j c,false) :: em⟩)
     | false=>none
    | some mv=>match natV mv with
     | some m=>match hi.isSome && Nat.ble l h && Nat.ble h m && Nat.ble m c && (Nat.blt l m || Nat.beq l 0) with
      | true=>some (.slice (some (a.add l)) (h - l) (m - l),⟨H,n,tr,(cap,cod j c,false) :: em⟩)
      | false=>none
     | none=>none
   | _,_=>none
  | _=>none
def slInfo (P:Program) (o:Oper):Option (Operand×Option Operand×Option Operand×Option Operand):=match o.op with
 | .slice t x lo hi mx=>match P.underlying t with
  | some (.slice e)=>match P.info? e with
   | some i=>match Nat.beq i.size 1 with
    | true=>some (x,lo,hi,mx)
    | false=>none
   | none=>none
  | _=>none
 | _=>none
theorem slInfo_eq {P:Program} {o:Oper} {x:Operand} {lo hi mx:Option Operand} (h:slInfo P o = some (x,lo,hi,mx)):∃ t e i,o.op = .slice t x lo hi mx∧P.underlying t = some (.slice e)∧P.info? e = some i∧i.size = 1:=by
 unfold slInfo at h
 split at h
 ·rename_i t x' lo' hi' mx' ho
  split at h
  ·rename_i e hu
   split at h
   ·rename_i i hi
    split at h
    ·rename_i hb
     simp only [Option.some.injEq,Prod.mk.injEq] at h
     obtain ⟨rfl,rfl,rfl,rfl⟩:=h
     exact ⟨t,e,i,ho,hu,hi,Nat.eq_of_beq_eq_true hb⟩
    ·cases h
   ·cases h
  ·cases h
 ·cases h
def slE (P:Program) (o:Oper) (ρ:Operand→Value) (j c:Nat) (_:CPk) (s:CSt):Option (Value×CSt):=match Nat.blt c 1048576 with
 | true=>match slInfo P o with
  | some (x,lo,hi,mx)=>slv j c (ρ x) (lo.map ρ) (hi.map ρ) (mx.map ρ) s
  | none=>none
 | false=>none
theorem slv_eq {j c:Nat} {xv:Value} {lo hi mx:Option Value} {s s':CSt} {v:Value} (h:slv j c xv lo hi mx s = some (v,s')):∃ (a:Addr) (len cap l hh:Nat),xv = .slice (some a) len cap∧optN 0 lo = some l∧optN len hi = some hh∧s' = ⟨s.H,s.n,s.tr,(cap,cod j c,false) :: s.em⟩∧l≤hh ∧
  ((mx = none∧(hh≤c∨hi = none)∧(l < c∨l = 0)∧v = .slice (some (a.add l)) (hh - l) (cap - l))∨(∃ mv m,mx = some mv∧natV mv = some m∧hi.isSome = true∧hh≤m∧m≤c∧(l < m∨l = 0)∧v = .slice (some (a.add l)) (hh - l) (m - l))):=by
 obtain ⟨H,n,tr,em⟩:=s
 unfold slv at h
 simp only at h
 split at h
 ·rename_i a len cap
  split at h
  ·rename_i l hh hl hhh
   split at h
   ·split at h
    ·rename_i hb
     simp only [Option.some.injEq,Prod.mk.injEq] at h
     obtain ⟨rfl,rfl⟩:=h
     simp only [Bool.and_eq_true,Bool.or_eq_true,Nat.ble_eq,Nat.blt_eq,Option.isNone_iff_eq_none] at hb
     refine ⟨a,len,cap,l,hh,rfl,hl,hhh,rfl,hb.1.1,Or.inl ⟨rfl,hb.1.2,?_,rfl⟩⟩
     rcases hb.2 with q|q
     ·exact Or.inl q
     ·exact Or.inr (Nat.eq_of_beq_eq_true q)
    ·cases h
   ·rename_i mv
    split at h
    ·rename_i m hm
     split at h
     ·rename_i hb
      simp only [Option.some.injEq,Prod.mk.injEq] at h
      obtain ⟨rfl,rfl⟩:=h
      simp only [Bool.and_eq_true,Bool.or_eq_true,Nat.ble_eq,Nat.blt_eq] at hb
      refine ⟨a,len,cap,l,hh,rfl,hl,hhh,rfl,hb.1.1.1.2,Or.inr ⟨mv,m,rfl,hm,hb.1.1.1.1,hb.1.1.2,hb.1.2,?_,rfl⟩⟩
      rcases hb.2 with q|q
      ·exact Or.inl q
      ·exact Or.inr (Nat.eq_of_beq_eq_true q)
     ·cases h
    ·cases h
  ·cases h
 ·cases h
theorem slv_tame (j c:Nat) (xv:Value) (lo hi mx:Option Value):Tame fun _ s=>slv j c xv lo hi mx s:=⟨fun pk s v s' h=>by
 obtain ⟨a,len,cap,l,hh,h1,h2,h3,rfl,h5⟩:=slv_eq h
 refine ⟨[(cap,cod j c,false)],rfl,Nat.le_refl _,fun _ _ _=>rfl,fun pk' G em _ _=>⟨G,?_,fun k hk=>?_⟩⟩
 ·obtain ⟨H,n,tr,em0⟩:=s
  subst h1
  unfold slv at h ⊢
  simp only [h2,h3] at h ⊢
  cases mx with
  | none=>
   simp only at h ⊢
   split at h
   ·rename_i hb
    simp only [Option.some.injEq,Prod.mk.injEq] at h
    rw [← h.1]; rfl
   ·cases h
  | some mv=>
   simp only at h ⊢
   cases hm:natV mv with
   | none=>simp only [hm] at h; cases h
   | some m=>
    simp only [hm] at h ⊢
    split at h
    ·rename_i hb
     simp only [Option.some.injEq,Prod.mk.injEq] at h
     rw [← h.1]; rfl
    ·cases h
 ·rcases hk with ⟨b',hb⟩|hk
  ·simp at hb
  ·exact absurd hk.1 (by have:=hk.2; simp only at this; omega),fun _ _ _ _ h _ _=>h⟩
theorem slE_tame (P:Program) (o:Oper) (ρ:Operand→Value) (j c:Nat):Tame (slE P o ρ j c):=by
 cases hc:Nat.blt c 1048576 with
 | false=>
  rw [show slE P o ρ j c = fun _ _=>none from by funext pk s; simp only [slE,hc]]
  exact Tame.fail
 | true=>cases h:slInfo P o with
  | none=>
   rw [show slE P o ρ j c = fun _ _=>none from by funext pk s; simp only [slE,hc,h]]
   exact Tame.fail
  | some y=>
   obtain ⟨x,lo,hi,mx⟩:=y
   rw [show slE P o ρ j c = fun _ s=>slv j c (ρ x) (lo.map ρ) (hi.map ρ) (mx.map ρ) s from by funext pk s; simp only [slE,hc,h]]
   exact slv_tame ..
theorem natV_eq {v:Value} {n:Nat} (h:natV v = some n):∃ k,v = .int k (n:Int):=by
 unfold natV at h
 split at h
 ·rename_i k m
  simp only [Option.some.injEq] at h
  exact ⟨k,by rw [h]; rfl⟩
 ·cases h
theorem bound_ok {P:Program} {W:World} {v:Value} {n y:Nat} {code:BoundsCode} (h:natV v = some n) (hy:n≤y):(Instr.sliceBound v y code).run P W = .ok n W:=by
 obtain ⟨k,rfl⟩:=natV_eq h
 rw [run_sliceBound W k (n:Int) y code (by omega) (by omega)]
 rfl
theorem cod_loc {pk:CPk} {j c:Nat} (hc:c < 1048576):c≤loc pk (cod j c):=by
 unfold loc
 rw [show Nat.ble 4294967296 (cod j c) = true from by rw [Nat.ble_eq]; unfold cod; omega,show Nat.ble 8589934592 (cod j c) = true from by rw [Nat.ble_eq]; unfold cod; omega]
 simp only
 rw [show (cod j c - 8589934592) % 1048576 = c from by unfold cod; omega]
 exact Nat.le_add_left _ _
theorem bounds_ok {P:Program} {W:World} {len cap l hh:Nat} {lo hi:Option Value} (h2:optN 0 lo = some l) (h3:optN len hi = some hh) (hlh:l≤hh) (hc:hh≤cap∨hi = none):(Instr.sliceBounds true len cap lo hi none).run P W = .ok (l,hh,cap) W:=by
 have hb1:∀ v code,hi = some v→(Instr.sliceBound v cap code).run P W = .ok hh W:=fun v code hv=>by
  subst hv
  exact bound_ok h3 (by rcases hc with h|h; exact h; cases h)
 have hb2:∀ v code,lo = some v→(Instr.sliceBound v hh code).run P W = .ok l W:=fun v code hv=>by
  subst hv
  exact bound_ok h2 hlh
 cases hi with
 | none=>
  simp only [optN,Option.some.injEq] at h3
  subst h3
  cases lo with
  | none=>
   simp only [optN,Option.some.injEq] at h2
   subst h2
   simp [Instr.sliceBounds]
  | some lv=>simp [Instr.sliceBounds,hb2 lv _ rfl]
 | some hv=>
  cases lo with
  | none=>
   simp only [optN,Option.some.injEq] at h2
   subst h2
   simp [Instr.sliceBounds,hb1 hv _ rfl]
  | some lv=>simp [Instr.sliceBounds,hb1 hv _ rfl,hb2 lv _ rfl]
theorem bounds_ok3 {P:Program} {W:World} {len cap l hh m:Nat} {lo hi:Option Value} {mv:Value} (h2:optN 0 lo = some l) (h3:optN len hi = some hh) (h4:natV mv = some m) (hs:hi.isSome = true) (hlh:l≤hh) (hm:hh≤m) (hc:m≤cap):(Instr.sliceBounds true len cap lo hi (some mv)).run P W = .ok (l,hh,m) W:=by
 cases hi with
 | none=>cases hs
 | some hv=>
  have hb0:=fun code=>bound_ok (P:=P) (W:=W) (code:=code) h4 hc
  have hb1:=fun code=>bound_ok (P:=P) (W:=W) (code:=code) (show natV hv = some hh from h3) hm
  cases lo with
  | none=>
   simp only [optN,Option.some.injEq] at h2
   subst h2
   simp [Instr.sliceBounds,hb0,hb1]
  | some lv=>
   have hb2:=fun code=>bound_ok (P:=P) (W:=W) (code:=code) (show natV lv = some l from h2) hlh
   simp [Instr.sliceBounds,hb0,hb1,hb2]
theorem add_zero' (a:Addr):a.add 0 = a:=by simp [Addr.add]
theorem slE_does {P:Program} {o:Oper} {ρ:Operand→Value} {j c:Nat} {pk:CPk} {s s':CSt} {v:Value} (h:slE P o ρ j c pk s = some (v,s')) (hg:Good pk s'.em) (W:World):(execOp ρ o).run P W = .ok (.value v) W∧s'.H = s.H∧s'.n = s.n:=by
 unfold slE at h
 split at h
 ·rename_i hcb
  rw [Nat.blt_eq] at hcb
  split at h
  ·rename_i x lo hi mx hinfo
   obtain ⟨t,e,i,ho,hu,hi',hsz⟩:=slInfo_eq hinfo
   obtain ⟨a,len,cap,l,hh,hx,h2,h3,rfl,hlh,h5⟩:=slv_eq h
   refine ⟨?_,rfl,rfl⟩
   have hcap:=hg cap _ false (List.mem_cons_self ..)
   have hc:c≤cap:=by rw [hcap]; exact cod_loc hcb
   have pick:∀ m,(l < m∨l = 0)→(if m = l then some a else (some a).map (·.add (l * i.size))) = some (a.add l):=fun m hm=>by
    rw [hsz,Nat.mul_one]
    split
    ·rename_i e'
     rcases hm with hm|hm
     ·omega
     ·rw [hm,add_zero']
    ·rfl
   have hsize:(sizeOf e).run P W = .ok i.size W:=by simp [sizeOf,typeInfo,hi']
   have hrun:(Instr.sliceAt t (ρ x) (lo.map ρ) (hi.map ρ) (mx.map ρ)).run P W = .ok v W:=by
    unfold Instr.sliceAt
    simp only [Sem.run_bind,run_underlying hu,Result.andThen_ok]
    unfold Instr.slice
    rw [hx]
    simp only [Sem.run_bind,run_underlying hu,Result.andThen_ok]
    rcases h5 with ⟨h5,h6,h7,rfl⟩|⟨mv,m,h5,h6,h7,h8,h9,h10,rfl⟩
    ·rw [h5,bounds_ok h2 h3 hlh (by rcases h6 with q|q; exact Or.inl (by omega); exact Or.inr q)]
     simp only [Result.andThen_ok,hsize,Sem.run_pure]
     rw [pick cap (by rcases h7 with q|q; exact Or.inl (by omega); exact Or.inr q)]
    ·rw [h5,bounds_ok3 h2 h3 h6 h7 hlh h8 (by omega)]
     simp only [Result.andThen_ok,hsize,Sem.run_pure]
     rw [pick m h10]
   unfold execOp
   simp only [ho,Sem.run_bind,hrun,Result.andThen_ok,Sem.run_pure]
  ·cases h
 ·cases h
theorem slE_congr {P:Program} {o:Oper} {ρ ρ':Operand→Value} (h:∀ x,x∈o.op.operands→ρ x = ρ' x):slE P o ρ = slE P o ρ':=by
 funext j c pk s
 unfold slE
 cases Nat.blt c 1048576 with
 | false=>rfl
 | true=>
 cases hi:slInfo P o with
 | none=>rfl
 | some y=>
  obtain ⟨x,lo,hh,mx⟩:=y
  obtain ⟨t,e,i,ho,_⟩:=slInfo_eq hi
  rw [ho] at h
  simp only
  have h1:ρ x = ρ' x:=h x (by simp [Op.operands])
  have h2:lo.map ρ = lo.map ρ':=by
   cases lo with
   | none=>rfl
   | some y=>simp only [Option.map_some]; rw [h y (by simp [Op.operands])]
  have h3:hh.map ρ = hh.map ρ':=by
   cases hh with
   | none=>rfl
   | some y=>simp only [Option.map_some]; rw [h y (by simp [Op.operands])]
  have h4:mx.map ρ = mx.map ρ':=by
   cases mx with
   | none=>rfl
   | some y=>simp only [Option.map_some]; rw [h y (by simp [Op.operands])]
  rw [h1,h2,h3,h4]
def headS {α:Type} (A:Nat→Nat→CPk→CSt→Option (α×CSt)) (B:CPk→CSt→Option (α×CSt)) (pk:CPk) (s:CSt):Option (α×CSt):=match s with
 | ⟨H,n,.sl j c :: tr,em⟩=>A j c pk ⟨H,n,tr,em⟩
 | s=>B pk s
theorem headS_sl {α:Type} {A:Nat→Nat→CPk→CSt→Option (α×CSt)} {B:CPk→CSt→Option (α×CSt)} {s:CSt} {j c:Nat} {tr:List Or} (h:s.tr = .sl j c :: tr) (pk:CPk):headS A B pk s = A j c pk ⟨s.H,s.n,tr,s.em⟩:=by
 obtain ⟨H,n,tr0,em⟩:=s
 simp only at h
 subst h
 rfl
theorem headS_no {α:Type} {A:Nat→Nat→CPk→CSt→Option (α×CSt)} {B:CPk→CSt→Option (α×CSt)} {s:CSt} (h:∀ j c tr,s.tr≠.sl j c :: tr) (pk:CPk):headS A B pk s = B pk s:=by
 unfold headS
 split
 ·rename_i H n j c tr em; exact absurd rfl (h j c tr)
 ·rfl
theorem headS_two (s:CSt):(∃ j c tr,s.tr = .sl j c :: tr)∨∀ j c tr,s.tr≠.sl j c :: tr:=by
 by_cases h:∃ j c tr,s.tr = .sl j c :: tr
 ·exact Or.inl h
 ·exact Or.inr fun j c tr he=>h ⟨j,c,tr,he⟩
theorem headS_tame {α:Type} {A:Nat→Nat→CPk→CSt→Option (α×CSt)} {B:CPk→CSt→Option (α×CSt)} (hA:∀ j c,Tame (A j c)) (hB:Tame B):Tame (headS A B):=⟨fun pk s v s' h=>by
 rcases headS_two s with ⟨j,c,tr,ht⟩|ht
 ·rw [headS_sl ht] at h
  obtain ⟨d,h1,h2,h3,h4⟩:=(hA j c).go pk _ _ _ h
  refine ⟨d,h1,h2,h3,fun pk' G em hp hG=>?_⟩
  obtain ⟨G',g1,g2⟩:=h4 pk' G em hp hG
  exact ⟨G',by rw [headS_sl (s:=⟨G,s.n,s.tr,em⟩) ht]; exact g1,g2⟩
 ·rw [headS_no ht] at h
  obtain ⟨d,h1,h2,h3,h4⟩:=hB.go pk _ _ _ h
  refine ⟨d,h1,h2,h3,fun pk' G em hp hG=>?_⟩
  obtain ⟨G',g1,g2⟩:=h4 pk' G em hp hG
  exact ⟨G',by rw [headS_no (s:=⟨G,s.n,s.tr,em⟩) ht]; exact g1,g2⟩,
 fun pk s v s' h pk' hp=>by
  rcases headS_two s with ⟨j,c,tr,ht⟩|ht
  ·rw [headS_sl ht] at h ⊢
   exact (hA j c).same pk _ _ _ h pk' hp
  ·rw [headS_no ht] at h ⊢
   exact hB.same pk _ _ _ h pk' hp⟩
abbrev Cal:=CPk→FuncId→Array Value→CSt→Option (Value×CSt)
def evalL (L:List Value):Operand→Value
 | .tmp t=>match nth L t with
  | some v=>v
  | none=>undef
 | .const v=>v
 | .global g=>.pointer (some ⟨g,0,none⟩)
 | .func f=>.func (.func f) #[] #[]
theorem eval_eq (L:List Value) (d:List Deferred):Act.eval ⟨L.toArray,d⟩ = evalL L:=by
 funext x
 cases x with
 | tmp t=>
  show L.toArray.getD t undef = _
  simp only [evalL,nth_eq,Array.getD_eq_getD_getElem?,List.getElem?_toArray]
  cases L[t]? <;> rfl
 | _=>rfl
def yieldL (ops:Array Oper) (L:List Value) (j:Nat):Option Bool:=match nth ops.toList j with
 | some o=>match o.dst with
  | some d=>match nth L d with
   | some (.bool b)=>some b
   | _=>none
  | none=>none
 | none=>none
theorem yield_eq (ops:Array Oper) (L:List Value):yielded ops L.toArray = yieldL ops L:=by
 funext j
 unfold yielded yieldL
 rw [nth_eq,Array.getElem?_toList]
 cases ops[j]? with
 | none=>rfl
 | some o=>
  simp only [Option.bind_some]
  cases o.dst with
  | none=>rfl
  | some d=>
   simp only [Option.bind_some,nth_eq,List.getElem?_toArray]
   cases L[d]? with
   | none=>rfl
   | some v=>cases v <;> rfl
def wantL (ops:Array Oper) (L:List Value) (o:Oper):Bool:=match o.guard with
 | none=>true
 | some (j,want)=>match yieldL ops L j with
  | some b=>b == want
  | none=>false
theorem want_eq (ops:Array Oper) (L:List Value) (o:Oper):Region.wanted o (yielded ops L.toArray) = wantL ops L o:=by
 rw [yield_eq]
 unfold Region.wanted wantL
 cases o.guard with
 | none=>rfl
 | some g=>
  obtain ⟨j,w⟩:=g
  simp only
  cases yieldL ops L j <;> simp
def nextO (call:Cal) (pk:CPk) (nx:Next) (s:CSt):Option (Value×CSt):=match nx with
 | .value v=>some (v,s)
 | .skip=>some (undef,s)
 | .enter f args=>call pk f args s
 | _=>none
def apInfo (P:Program) (o:Oper):Option (Operand×Operand×TypeId×Nat):=match o.op with
 | .call ⟨.builtin .append,args,tys⟩=>match args.toList,tys.toList with
  | [sx,xx],[t,t']=>match Nat.beq t t' with
   | true=>match P.underlying t with
    | some (.slice e)=>match P.info? e with
     | some i=>match i.zero with
      | some z=>match Nat.beq i.size 1 && Nat.beq z.cells.size 1 with
       | true=>some (sx,xx,e,i.bytes)
       | false=>none
      | none=>none
     | none=>none
    | _=>none
   | false=>none
  | _,_=>none
 | _=>none
theorem apInfo_eq {P:Program} {o:Oper} {sx xx:Operand} {e:TypeId} {bytes:Nat} (h:apInfo P o = some (sx,xx,e,bytes)):∃ t i z,o.op = .call { callee:=.builtin .append,args:=#[sx,xx],argTypes:=#[t,t] }∧P.underlying t = some (.slice e)∧P.info? e = some i∧i.zero = some z∧i.size = 1∧z.cells.size = 1∧i.bytes = bytes:=by
 unfold apInfo at h
 split at h
 ·rename_i args tys ho
  split at h
  ·rename_i sx' xx' t t' ha hty
   split at h
   ·rename_i hb
    obtain rfl:=Nat.eq_of_beq_eq_true hb
    split at h
    ·rename_i e' hu
     split at h
     ·rename_i i hi
      split at h
      ·rename_i z hz
       split at h
       ·rename_i hc
        simp only [Option.some.injEq,Prod.mk.injEq] at h
        obtain ⟨rfl,rfl,rfl,rfl⟩:=h
        simp only [Bool.and_eq_true] at hc
        refine ⟨t,i,z,?_,hu,hi,hz,Nat.eq_of_beq_eq_true hc.1,Nat.eq_of_beq_eq_true hc.2,rfl⟩
        rw [ho]
        have h1:args = #[sx',xx']:=by apply Array.ext'; rw [ha]
        have h2:tys = #[t,t]:=by apply Array.ext'; rw [hty]
        rw [h1,h2]
       ·cases h
      ·cases h
     ·cases h
    ·cases h
   ·cases h
  ·cases h
 ·cases h
def headO {α:Type} (A:Nat→Nat→Nat→Nat→CPk→CSt→Option (α×CSt)) (B:CPk→CSt→Option (α×CSt)) (pk:CPk) (s:CSt):Option (α×CSt):=match s with
 | ⟨H,n,.ap c j x m :: tr,em⟩=>A c j x m pk ⟨H,n,tr,em⟩
 | s=>B pk s
theorem headO_ap {α:Type} {A:Nat→Nat→Nat→Nat→CPk→CSt→Option (α×CSt)} {B:CPk→CSt→Option (α×CSt)} {s:CSt} {c j x m:Nat} {tr:List Or} (h:s.tr = .ap c j x m :: tr) (pk:CPk):headO A B pk s = A c j x m pk ⟨s.H,s.n,tr,s.em⟩:=by
 obtain ⟨H,n,tr0,em⟩:=s
 simp only at h
 subst h
 rfl
theorem headO_no {α:Type} {A:Nat→Nat→Nat→Nat→CPk→CSt→Option (α×CSt)} {B:CPk→CSt→Option (α×CSt)} {s:CSt} (h:∀ c j x m tr,s.tr≠.ap c j x m :: tr) (pk:CPk):headO A B pk s = B pk s:=by
 unfold headO
 split
 ·rename_i H n c j x m tr em; exact absurd rfl (h c j x m tr)
 ·rfl
theorem headO_two (s:CSt):(∃ c j x m tr,s.tr = .ap c j x m :: tr)∨∀ c j x m tr,s.tr≠.ap c j x m :: tr:=by
 by_cases h:∃ c j x m tr,s.tr = .ap c j x m :: tr
 ·exact Or.inl h
 ·exact Or.inr fun c j x m tr he=>h ⟨c,j,x,m,tr,he⟩
theorem headO_tame {α:Type} {A:Nat→Nat→Nat→Nat→CPk→CSt→Option (α×CSt)} {B:CPk→CSt→Option (α×CSt)} (hA:∀ c j x m,Tame (A c j x m)) (hB:Tame B):Tame (headO A B):=⟨fun pk s v s' h=>by
 rcases headO_two s with ⟨c,j,x,m,tr,ht⟩|ht
 ·rw [headO_ap ht] at h
  obtain ⟨d,h1,h2,h3,h4⟩:=(hA c j x m).go pk _ _ _ h
  refine ⟨d,h1,h2,h3,fun pk' G em hp hG=>?_⟩
  obtain ⟨G',g1,g2⟩:=h4 pk' G em hp hG
  exact ⟨G',by rw [headO_ap (s:=⟨G,s.n,s.tr,em⟩) ht]; exact g1,g2⟩
 ·rw [headO_no ht] at h
  obtain ⟨d,h1,h2,h3,h4⟩:=hB.go pk _ _ _ h
  refine ⟨d,h1,h2,h3,fun pk' G em hp hG=>?_⟩
  obtain ⟨G',g1,g2⟩:=h4 pk' G em hp hG
  exact ⟨G',by rw [headO_no (s:=⟨G,s.n,s.tr,em⟩) ht]; exact g1,g2⟩,
 fun pk s v s' h pk' hp=>by
  rcases headO_two s with ⟨c,j,x,m,tr,ht⟩|ht
  ·rw [headO_ap ht] at h ⊢
   exact (hA c j x m).same pk _ _ _ h pk' hp
  ·rw [headO_no ht] at h ⊢
   exact hB.same pk _ _ _ h pk' hp⟩
def apE (P:Program) (o:Oper) (L:List Value) (c j x m:Nat) (pk:CPk) (s:CSt):Option (Value×CSt):=match apInfo P o with
 | some (sx,xx,e,bytes)=>apv e bytes c j x m (evalL L sx) (evalL L xx) pk s
 | none=>none
theorem apE_tame (P:Program) (o:Oper) (L:List Value) (c j x m:Nat):Tame (apE P o L c j x m):=by
 cases h:apInfo P o with
 | none=>
  rw [show apE P o L c j x m = fun _ _=>none from by funext pk s; simp only [apE,h]]
  exact Tame.fail
 | some y=>
  obtain ⟨sx,xx,e,bytes⟩:=y
  rw [show apE P o L c j x m = apv e bytes c j x m (evalL L sx) (evalL L xx) from by funext pk s; simp only [apE,h]]
  exact apv_tame ..
theorem missing_no (want:Array (String×TypeId)) (got:Array Method):Instr.missingMethod want got = none↔(want.toList.filter fun (name,sig)=>!got.any fun m=>m.name == name && m.sig == sig) = []:=by
 unfold Instr.missingMethod
 generalize (want.toList.filter fun (name,sig)=>!got.any fun m=>m.name == name && m.sig == sig) = l
 cases l with
 | nil=>exact ⟨fun _=>rfl,fun _=>rfl⟩
 | cons x r=>
  refine ⟨fun h=>?_,fun h=>by cases h⟩
  exfalso
  have least_no:∀ l:List String,Instr.least l = none→l = []:=fun l h=>by
   cases l with
   | nil=>rfl
   | cons _ _=>cases h
  simp only [List.map_cons] at h
  generalize (fun y:String=>y.contains '.') = p at h
  rw [List.partition_eq_filter_filter] at h
  simp only at h
  generalize hA:List.filter (not ∘ p) (x.1 :: r.map fun y=>y.1) = A at h
  generalize hB:List.filter p (x.1 :: r.map fun y=>y.1) = B at h
  have h1:A = []:=least_no A (by
   cases e:Instr.least A with
   | none=>rfl
   | some y=>rw [e] at h; cases h)
  subst h1
  have h2:B = []:=List.map_eq_nil_iff.1 (least_no _ h)
  subst h2
  have k1:=List.filter_eq_nil_iff.1 hA x.1 (List.mem_cons_self ..)
  have k2:=List.filter_eq_nil_iff.1 hB x.1 (List.mem_cons_self ..)
  cases hb:p x.1 <;> simp [hb] at k1 k2
def taX (x:Value) (a:TypeId):Sem Value:=
 let no:Sem Value:=(zeroValue a).bind fun z=>.pure (.tuple #[z,.bool false])
 (underlying a).bind fun d=>match d,x with
  | .interface _,.nilIface=>no
  | .interface want,.iface t _=>(typeInfo t).bind fun i=>match want.toList.filter fun (name,sig)=>!i.methods.any fun m=>m.name == name && m.sig == sig with
   | []=>.pure (.tuple #[x,.bool true])
   | _ :: _=>no
  | _,.nilIface=>no
  | _,.iface t v=>if t = a then .pure (.tuple #[v,.bool true]) else no
  | _, _ => stuck "TypeAssert: interface value expected"
theorem taX_eq (x:Value) (xt a:TypeId):Instr.typeAssert x xt a true = taX x a:=by
 unfold Instr.typeAssert taX
 simp only [if_true]
 show Sem.bind _ _ = Sem.bind _ _
 congr 1
 funext d
 cases d with
 | interface want=>
  cases x with
  | iface t v=>
   show Sem.bind _ _ = Sem.bind _ _
   congr 1
   funext i
   have:=missing_no want i.methods
   cases h:Instr.missingMethod want i.methods with
   | none=>
    simp only [this.1 h]
    rfl
   | some m=>
    simp only
    split
    ·rename_i h2
     rw [this.2 h2] at h
     cases h
    ·rfl
  | _=>rfl
 | _=>cases x <;> rfl
def xop (ρ:Operand→Value) (o:Oper):Sem Next:=match o.op with
 | .typeAssert x _ a true=>(taX (ρ x) a).bind fun v=>.pure (.value v)
 | _=>execOp ρ o
theorem xop_eq (ρ:Operand→Value) (o:Oper):xop ρ o = execOp ρ o:=by
 unfold xop
 split
 ·rename_i x xt a ho
  unfold execOp
  simp only [ho,taX_eq]
  rfl
 ·rfl
def oev (P:Program) (pk:CPk) (call:Cal) (ops:Array Oper) (o:Oper) (L:List Value) (s:CSt):Option (Value×CSt):=match wantL ops L o with
 | false=>some (undef,s)
 | true=>match (apInfo P o).isSome with
  | true=>headO (apE P o L) (fun pk s=>andO (sev P pk false (xop (evalL L) o) s) fun nx s=>nextO call pk nx s) pk s
  | false=>match (slInfo P o).isSome with
   | true=>headS (slE P o (evalL L)) (fun pk s=>andO (sev P pk false (xop (evalL L) o) s) fun nx s=>nextO call pk nx s) pk s
   | false=>andO (sev P pk false (xop (evalL L) o) s) fun nx s=>nextO call pk nx s
def putF {β:Type} (L:List Value) (d:Option Tmp) (v:Value) (k:List Value→β):β:=match d with
 | some d=>setF L d v k
 | none=>k L
def putL (L:List Value) (d:Option Tmp) (v:Value):List Value:=match d with
 | some d=>L.set d v
 | none=>L
theorem putF_eq {β:Type} (L:List Value) (d:Option Tmp) (v:Value) (k:List Value→β):putF L d v k = k (putL L d v):=by
 cases d with
 | none=>rfl
 | some d=>exact setF_eq L d v k
theorem put_eq (L:List Value) (ds:List Deferred) (d:Option Tmp) (v:Value):Act.put ⟨L.toArray,ds⟩ d v = ⟨(putL L d v).toArray,ds⟩:=by
 cases d with
 | none=>rfl
 | some d=>simp [Act.put,putL]
def Tames (call:Cal):Prop:=∀ f args,Tame fun pk s=>call pk f args s
theorem nextO_tame {call:Cal} (h:Tames call) (nx:Next):Tame fun pk s=>nextO call pk nx s:=by
 cases nx <;> first|exact Tame.pure _|exact Tame.fail|exact h _ _
theorem oev_tame {P:Program} {call:Cal} (h:Tames call) (ops:Array Oper) (o:Oper) (L:List Value):Tame fun pk s=>oev P pk call ops o L s:=by
 cases hw:wantL ops L o with
 | false=>
  rw [show (fun pk s=>oev P pk call ops o L s) = fun _ s=>some (undef,s) from by funext pk s; simp only [oev,hw]]
  exact Tame.pure _
 | true=>
  cases hi:(apInfo P o).isSome with
  | true=>
   rw [show (fun pk s=>oev P pk call ops o L s) = headO (apE P o L) (fun pk s=>andO (sev P pk false (execOp (evalL L) o) s) fun nx s=>nextO call pk nx s) from by funext pk s; simp only [oev,xop_eq,hw,hi]]
   exact headO_tame (apE_tame P o L) (Tame.bind (sev_tame P _ false) (nextO_tame h))
  | false=>
   cases hi2:(slInfo P o).isSome with
   | true=>
    rw [show (fun pk s=>oev P pk call ops o L s) = headS (slE P o (evalL L)) (fun pk s=>andO (sev P pk false (execOp (evalL L) o) s) fun nx s=>nextO call pk nx s) from by funext pk s; simp only [oev,xop_eq,hw,hi,hi2]]
    exact headS_tame (slE_tame P o (evalL L)) (Tame.bind (sev_tame P _ false) (nextO_tame h))
   | false=>
    rw [show (fun pk s=>oev P pk call ops o L s) = fun pk s=>andO (sev P pk false (execOp (evalL L) o) s) fun nx s=>nextO call pk nx s from by funext pk s; simp only [oev,xop_eq,hw,hi,hi2]]
    exact Tame.bind (sev_tame P _ false) (nextO_tame h)
def CallOk (P:Program) (w0:World) (call:Cal):Prop:=∀ (f:FuncId) (args:Array Value) (pk:CPk) (D:Nat→Prop) (N:Nat) (s:CSt) (W:World),Rel pk D s.H w0 W→(∀ k,s.n≤k→k < N→¬ D k)→Gd (fun pk s=>call pk f args s) pk D N s →
 Calls P f args W fun e W'=>∃ pk' v s',CAgr D pk pk'∧call pk' f args s = some (v,s')∧e = .returned v∧Rel pk' (Dn D s.n s'.n) s'.H w0 W'
theorem Dn.free {D:Nat→Prop} {a b N:Nat} (h:∀ k,a≤k→k < N→¬ D k) (hb:a≤b) (k:Nat) (h1:b≤k) (h2:k < N):¬ Dn D a b k:=fun h3=>by
 rcases h3 with h3|h3
 ·exact h k (by omega) h2 h3
 ·omega
theorem oev_wp {P:Program} {w0:World} {call:Cal} (hc:CallOk P w0 call) (hT:Tames call) {ops:Array Oper} {o:Oper} {L:List Value} {pk:CPk} {D:Nat→Prop} {N:Nat} {s:CSt} {W:World} (hR:Rel pk D s.H w0 W) (hD:∀ k,s.n≤k→k < N→¬ D k) (hG:Gd (fun pk s=>oev P pk call ops o L s) pk D N s)
  {Q:Exit→Act→World→Prop} {K:Act→World→Prop} (hK:∀ pk' v s' W',CAgr D pk pk'→oev P pk' call ops o L s = some (v,s')→Rel pk' (Dn D s.n s'.n) s'.H w0 W'→K ⟨(putL L o.dst v).toArray,[]⟩ W') :
  (wantL ops L o = true→o.wp P ⟨L.toArray,[]⟩ W K Q)∧(wantL ops L o = false→K (Act.put ⟨L.toArray,[]⟩ o.dst undef) W):=by
 constructor
 ·intro hw
  have two:(∃ c j x m tr,s.tr = .ap c j x m :: tr∧(apInfo P o).isSome = true)∨(∃ j c tr,s.tr = .sl j c :: tr∧∀ pk,oev P pk call ops o L s = slE P o (evalL L) j c pk ⟨s.H,s.n,tr,s.em⟩)∨∀ pk,oev P pk call ops o L s = andO (sev P pk false (execOp (evalL L) o) s) fun nx s=>nextO call pk nx s:=by
   cases hi:(apInfo P o).isSome with
   | false=>
    cases hi2:(slInfo P o).isSome with
    | false=>exact Or.inr (Or.inr fun pk=>by simp only [oev,xop_eq,hw,hi,hi2])
    | true=>
     rcases headS_two s with ⟨j,c,tr,ht⟩|ht
     ·exact Or.inr (Or.inl ⟨j,c,tr,ht,fun pk=>by simp only [oev,xop_eq,hw,hi,hi2]; rw [headS_sl ht]⟩)
     ·exact Or.inr (Or.inr fun pk=>by simp only [oev,xop_eq,hw,hi,hi2]; rw [headS_no ht])
   | true=>
    rcases headO_two s with ⟨c,j,x,m,tr,ht⟩|ht
    ·exact Or.inl ⟨c,j,x,m,tr,ht,rfl⟩
    ·exact Or.inr (Or.inr fun pk=>by simp only [oev,xop_eq,hw,hi]; rw [headO_no ht])
  rcases two with ⟨c,j,x,m,tr,ht,his⟩|⟨j,c,tr,ht,e⟩|e
  ·have e:∀ pk,oev P pk call ops o L s = apE P o L c j x m pk ⟨s.H,s.n,tr,s.em⟩:=fun pk=>by simp only [oev,xop_eq,hw,his]; rw [headO_ap ht]
   cases hi:apInfo P o with
   | none=>obtain ⟨_,_,h,_⟩:=hG pk (CAgr.refl _ _); simp only [e,apE,hi] at h; cases h
   | some y=>
    obtain ⟨sx,xx,el,bytes⟩:=y
    obtain ⟨t,i,z,ho,h1,h2,h3,h4,h5,rfl⟩:=apInfo_eq hi
    have e2:∀ pk,oev P pk call ops o L s = apv el i.bytes c j x m (evalL L sx) (evalL L xx) pk ⟨s.H,s.n,tr,s.em⟩:=fun pk=>by rw [e]; simp only [apE,hi]
    obtain ⟨pk1,v,s1,W1,a1,a2,a3,a4⟩:=apv_does (ty:=o.type) h1 h2 h3 h4 h5 c j x m (evalL L sx) (evalL L xx) pk D N ⟨s.H,s.n,tr,s.em⟩ W hR hD (fun pk' hp=>by
     obtain ⟨y,s',hy,r⟩:=hG pk' hp
     exact ⟨y,s',(e2 pk').symm.trans hy,r⟩)
    unfold Oper.wp
    rw [eval_eq]
    have hrun:(execOp (evalL L) o).run P W = .ok (.value v) W1:=by
     unfold execOp
     simp only [ho,resolve,invoke,builtin,Sem.run_bind,Sem.run_pure,Result.andThen_ok,List.map_toArray,List.map_cons,List.map_nil,a3]
    rw [hrun]
    show K (Act.put ⟨L.toArray,[]⟩ o.dst v) W1
    rw [put_eq]
    exact hK pk1 v s1 W1 a1 (by rw [e2]; exact a2) a4
  ·obtain ⟨v,s1,h1,hg,_⟩:=hG pk (CAgr.refl _ _)
   have h2:slE P o (evalL L) j c pk ⟨s.H,s.n,tr,s.em⟩ = some (v,s1):=(e pk).symm.trans h1
   obtain ⟨hrun,hH,hn⟩:=slE_does h2 hg W
   unfold Oper.wp
   rw [eval_eq,hrun]
   show K (Act.put ⟨L.toArray,[]⟩ o.dst v) W
   rw [put_eq]
   refine hK pk v s1 W (CAgr.refl _ _) h1 ?_
   rw [hH]
   exact hR.mono Dn.self
  have hG':Gd (fun pk s=>andO (sev P pk false (execOp (evalL L) o) s) fun nx s=>nextO call pk nx s) pk D N s:=fun pk' hp=>by
   obtain ⟨x,s',h,r⟩:=hG pk' hp
   exact ⟨x,s',(e pk').symm.trans h,r⟩
  have hG1:Gd (fun pk s=>sev P pk false (execOp (evalL L) o) s) pk D N s:=fun pk' hp=>by
   obtain ⟨x,s',h,hg,hn⟩:=hG' pk' hp
   cases h1:sev P pk' false (execOp (evalL L) o) s with
   | none=>simp only [h1,andO] at h; cases h
   | some z=>
    obtain ⟨nx,s1⟩:=z
    simp only [h1,andO] at h
    obtain ⟨d,hd,hle,_⟩:=(nextO_tame hT nx).go pk' s1 x s' h
    exact ⟨nx,s1,h1,fun b k w hb=>hg b k w (by rw [hd]; exact List.mem_append_right _ hb),by omega⟩
  obtain ⟨pk1,nx,s1,W1,a1,a2,a3,-,a5⟩:=sev_does P w0 (execOp (evalL L) o) false pk D N s W hR hD hG1
  have hN:=hG'.next (f:=fun nx pk s=>nextO call pk nx s) (sev_tame P _ false) a1 a2
  obtain ⟨_,_,hle,_⟩:=(sev_tame P (execOp (evalL L) o) false).go pk1 s nx s1 a2
  unfold Oper.wp
  rw [eval_eq,a3]
  have fin:∀ (v:Value),nextO call pk1 nx s1 = some (v,s1)→K (Act.put ⟨L.toArray,[]⟩ o.dst v) W1:=fun v hv=>by
   rw [put_eq]
   exact hK pk1 v s1 W1 a1 (by rw [e]; simp only [a2,andO]; exact hv) a5
  cases nx with
  | value v=>exact fin v rfl
  | skip=>exact fin undef rfl
  | enter f args=>
   refine (hc f args pk1 (Dn D s.n s1.n) N s1 W1 a5 (Dn.free hD hle) hN).mono ?_
   rintro en W2 ⟨pk2,v,s2,b1,b2,rfl,b4⟩
   simp only
   rw [put_eq]
   obtain ⟨_,_,hle2,_⟩:=(hT f args).go pk2 s1 v s2 b2
   refine hK pk2 v s2 W2 (a1.trans b1 Dn.self) ?_ (b4.mono (fun k=>Dn.join hle hle2 k))
   rw [e]
   have:=(sev_tame P (execOp (evalL L) o) false).same pk1 s _ s1 a2 pk2 (fun i c1 c2=>b1 i (Or.inr ⟨c1,c2⟩))
   simp only [this,andO]; exact b2
  | _=>obtain ⟨_,_,h,_⟩:=hN pk1 (CAgr.refl _ _); simp [nextO] at h
 ·intro hw
  rw [put_eq]
  exact hK pk undef s W (CAgr.refl _ _) (by simp only [oev,hw]) (hR.mono Dn.self)
def opsev (P:Program) (pk:CPk) (call:Cal) (ops:Array Oper):List Oper→List Value→CSt→Option (List Value×CSt)
 | [],L,s=>some (L,s)
 | o :: r,L,s=>andO (oev P pk call ops o L s) fun v s=>putF L o.dst v fun L=>opsev P pk call ops r L s
theorem opsev_tame {P:Program} {call:Cal} (h:Tames call) (ops:Array Oper):∀ (l:List Oper) (L:List Value),Tame fun pk s=>opsev P pk call ops l L s
 | [],L=>Tame.pure L
 | o :: r,L=>by
  rw [show (fun pk s=>opsev P pk call ops (o :: r) L s) = fun pk s=>andO (oev P pk call ops o L s) fun v s=>opsev P pk call ops r (putL L o.dst v) s from by
   funext pk s; simp only [opsev,putF_eq]]
  exact Tame.bind (oev_tame h ops o L) (fun v=>opsev_tame h ops r _)
theorem Gd.first {α β:Type} {m:CPk→CSt→Option (α×CSt)} {f:α→CPk→CSt→Option (β×CSt)} {pk:CPk} {D:Nat→Prop} {N:Nat} {s:CSt} (hf:∀ x,Tame (f x)) (h:Gd (fun pk s=>andO (m pk s) fun x s=>f x pk s) pk D N s):Gd m pk D N s:=fun pk' hp=>by
 obtain ⟨y,s',hy,hg,hn⟩:=h pk' hp
 cases h1:m pk' s with
 | none=>simp only [h1,andO] at hy; cases hy
 | some z=>
  obtain ⟨x,s1⟩:=z
  simp only [h1,andO] at hy
  obtain ⟨d,hd,hle,_⟩:=(hf x).go pk' s1 y s' hy
  exact ⟨x,s1,rfl,fun b k w hb=>hg b k w (by rw [hd]; exact List.mem_append_right _ hb),by omega⟩
theorem opsev_wp {P:Program} {w0:World} {call:Cal} (hc:CallOk P w0 call) (hT:Tames call) {ops:Array Oper} {Q:Exit→Act→World→Prop}:∀ (l:List Oper) (L:List Value) (pk:CPk) (D:Nat→Prop) (N:Nat) (s:CSt) (W:World),Rel pk D s.H w0 W→(∀ k,s.n≤k→k < N→¬ D k)→Gd (fun pk s=>opsev P pk call ops l L s) pk D N s →
  (∀ pk' L' s' W',CAgr D pk pk'→opsev P pk' call ops l L s = some (L',s')→Rel pk' (Dn D s.n s'.n) s'.H w0 W'→Q .normal ⟨L'.toArray,[]⟩ W')→wpList P ops Q l ⟨L.toArray,[]⟩ W
 | [],L,pk,D,N,s,W,hR,_,_,hQ=>hQ pk L s W (CAgr.refl _ _) rfl (hR.mono Dn.self)
 | o :: r,L,pk,D,N,s,W,hR,hD,hG,hQ=>by
  have e:∀ pk s,opsev P pk call ops (o :: r) L s = andO (oev P pk call ops o L s) fun v s=>opsev P pk call ops r (putL L o.dst v) s:=fun pk s=>by simp only [opsev,putF_eq]
  have hG':Gd (fun pk s=>andO (oev P pk call ops o L s) fun v s=>opsev P pk call ops r (putL L o.dst v) s) pk D N s:=fun pk' hp=>by
   obtain ⟨x,s',h,q⟩:=hG pk' hp
   exact ⟨x,s',(e pk' s).symm.trans h,q⟩
  have hO:=oev_tame (P:=P) hT ops o L
  have hL:=fun v=>opsev_tame (P:=P) hT ops r (putL L o.dst v)
  have key:=oev_wp (P:=P) (w0:=w0) hc hT (Q:=Q) (K:=wpList P ops Q r) hR hD (hG'.first (f:=fun v pk s=>opsev P pk call ops r (putL L o.dst v) s) hL) (fun pk1 v s1 W1 b1 b2 b3=>by
   obtain ⟨_,_,hle,_⟩:=hO.go pk1 s v s1 b2
   refine opsev_wp hc hT r _ pk1 (Dn D s.n s1.n) N s1 W1 b3 (Dn.free hD hle) (hG'.next (f:=fun v pk s=>opsev P pk call ops r (putL L o.dst v) s) hO b1 b2) (fun pk2 L2 s2 W2 c1 c2 c3=>?_)
   obtain ⟨_,_,hle2,_⟩:=(hL v).go pk2 s1 L2 s2 c2
   refine hQ pk2 L2 s2 W2 (b1.trans c1 Dn.self) ?_ (c3.mono (fun k=>Dn.join hle hle2 k))
   rw [e]
   have:=hO.same pk1 s v s1 b2 pk2 (fun i d1 d2=>c1 i (Or.inr ⟨d1,d2⟩))
   simp only [this,andO]; exact c2)
  unfold wpList
  rw [want_eq]
  cases hw:wantL ops L o with
  | true=>rw [if_pos rfl]; exact Or.inl (key.1 hw)
  | false=>rw [if_neg (by decide)]; exact key.2 hw
abbrev Qo:=Nat×List (Nat×Bool)×List Or
def eqRec:List (Nat×Nat×Bool)→List (Nat×Bool)→Bool
 | [],[]=>true
 | (_,k,w) :: r,(k',w') :: r'=>Nat.beq k k' && (w == w') && eqRec r r'
 | _,_=>false
theorem eqRec_mem:∀ {d:List (Nat×Nat×Bool)} {rc:List (Nat×Bool)},eqRec d rc = true→∀ k w,(∃ b,(b,k,w)∈d)↔(k,w)∈rc
 | [],[],_,k,w=>by simp
 | [],_ :: _,h,_,_=>by simp [eqRec] at h
 | _ :: _,[],h,_,_=>by simp [eqRec] at h
 | (b',k',w') :: r,(k2,w2) :: r',h,k,w=>by
  simp only [eqRec,Bool.and_eq_true,beq_iff_eq] at h
  obtain ⟨⟨h1,rfl⟩,h3⟩:=h
  obtain rfl:=Nat.eq_of_beq_eq_true h1
  have ih:=eqRec_mem h3 k w
  simp only [List.mem_cons,Prod.mk.injEq]
  constructor
  ·rintro ⟨b,⟨_,rfl,rfl⟩|hb⟩
   ·exact Or.inl ⟨rfl,rfl⟩
   ·exact Or.inr (ih.1 ⟨b,hb⟩)
  ·rintro (⟨rfl,rfl⟩|hb)
   ·exact ⟨b',Or.inl ⟨rfl,rfl,rfl⟩⟩
   ·obtain ⟨b,hb⟩:=ih.2 hb
    exact ⟨b,Or.inr hb⟩
def uev (P:Program) (pk:CPk) (call:Cal) (ops:Array Oper) (o:Oper) (q:Qo) (L:List Value):CSt→Option (Value×CSt)
 | ⟨H,n,tr,em⟩=>match q with
  | (qn,rc,qt)=>match Nat.beq n qn with
   | false=>none
   | true=>match oev P pk call ops o L ⟨H,n,qt,[]⟩ with
    | some (v,⟨H,n,[],d⟩)=>match eqRec d rc with
     | true=>some (v,⟨H,n,tr,d ++ em⟩)
     | false=>none
    | _=>none
theorem uev_eq {P:Program} {pk:CPk} {call:Cal} {ops:Array Oper} {o:Oper} {q:Qo} {L:List Value} {s s':CSt} {v:Value} (h:uev P pk call ops o q L s = some (v,s')) :
  s.n = q.1∧∃ d,oev P pk call ops o L ⟨s.H,s.n,q.2.2,[]⟩ = some (v,⟨s'.H,s'.n,[],d⟩)∧eqRec d q.2.1 = true∧s'.tr = s.tr∧s'.em = d ++ s.em:=by
 obtain ⟨H0,n0,tr0,em0⟩:=s
 obtain ⟨qn,rc,qt⟩:=q
 unfold uev at h
 simp only at h
 split at h
 ·cases h
 ·rename_i hb
  split at h
  ·rename_i v' H n d ho
   split at h
   ·rename_i he
    simp only [Option.some.injEq,Prod.mk.injEq] at h
    obtain ⟨rfl,rfl⟩:=h
    exact ⟨Nat.eq_of_beq_eq_true hb,d,ho,he,rfl,rfl⟩
   ·cases h
  ·cases h
theorem uev_mk {P:Program} {pk:CPk} {call:Cal} {ops:Array Oper} {o:Oper} {q:Qo} {L:List Value} {s:CSt} {v:Value} {H:Hp} {n:Nat} {d:List (Nat×Nat×Bool)} (h1:s.n = q.1) (h2:oev P pk call ops o L ⟨s.H,s.n,q.2.2,[]⟩ = some (v,⟨H,n,[],d⟩)) (h3:eqRec d q.2.1 = true):uev P pk call ops o q L s = some (v,⟨H,n,s.tr,d ++ s.em⟩):=by
 have:Nat.beq s.n q.1 = true:=by rw [h1,Nat.beq_refl]
 obtain ⟨H0,n0,tr0,em0⟩:=s
 obtain ⟨qn,rc,qt⟩:=q
 simp only at this h2 h3
 simp only [uev,this,h2,h3]
theorem uev_tame {P:Program} {call:Cal} (hT:Tames call) (ops:Array Oper) (o:Oper) (q:Qo) (L:List Value):Tame fun pk s=>uev P pk call ops o q L s:=by
 have hO:=oev_tame (P:=P) hT ops o L
 refine ⟨fun pk s v s' h=>?_,fun pk s v s' h pk' hp=>?_⟩
 ·obtain ⟨h1,d,h2,h3,h4,h5⟩:=uev_eq h
  obtain ⟨d',e1,e2,e3,e4⟩:=hO.go pk _ _ _ h2
  simp only [List.append_nil] at e1
  subst e1
  refine ⟨d,h5,e2,e3,fun pk' G em hp hG=>?_⟩
  obtain ⟨G',g1,g2⟩:=e4 pk' G [] hp hG
  refine ⟨G',?_,g2⟩
  rw [List.append_nil] at g1
  rw [uev_mk (s:=⟨G,s.n,s.tr,em⟩) h1 g1 h3,h4]
 ·obtain ⟨h1,d,h2,h3,h4,h5⟩:=uev_eq h
  have:=hO.same pk _ _ _ h2 pk' hp
  rw [uev_mk h1 this h3]
  obtain ⟨a,b,c,e⟩:=s'
  simp only at h4 h5
  rw [h4,h5]
def regev (P:Program) (pk:CPk) (call:Cal) (ops:Array Oper):List Oper→List Qo→Nat→List Value→CSt→Option (List Value×CSt)
 | [],[],e,L,s=>match Nat.beq s.n e with
  | true=>some (L,s)
  | false=>none
 | o :: r,q :: t,e,L,s=>andO (uev P pk call ops o q L s) fun v s=>putF L o.dst v fun L=>regev P pk call ops r t e L s
 | _,_,_,_,_=>none
theorem regev_tame {P:Program} {call:Cal} (h:Tames call) (ops:Array Oper) (e:Nat):∀ (l:List Oper) (q:List Qo) (L:List Value),Tame fun pk s=>regev P pk call ops l q e L s
 | [],[],L=>by
  refine ⟨fun pk s x s' hx=>?_,fun pk s x s' hx pk' _=>hx⟩
  simp only [regev] at hx
  split at hx
  ·rename_i hb
   simp only [Option.some.injEq,Prod.mk.injEq] at hx
   obtain ⟨rfl,rfl⟩:=hx
   refine ⟨[],rfl,Nat.le_refl _,fun _ _ _=>rfl,fun pk' G em _ _=>⟨G,?_,fun k hk=>?_⟩⟩
   ·simp only [regev,hb]; rfl
   ·rcases hk with ⟨_,hk⟩|hk
    ·cases hk
    ·omega
  ·cases hx
 | [],_ :: _,L=>Tame.fail
 | _ :: _,[],L=>Tame.fail
 | o :: r,q :: t,L=>by
  rw [show (fun pk s=>regev P pk call ops (o :: r) (q :: t) e L s) = fun pk s=>andO (uev P pk call ops o q L s) fun v s=>regev P pk call ops r t e (putL L o.dst v) s from by
   funext pk s; simp only [regev,putF_eq]]
  exact Tame.bind (uev_tame h ops o q L) (fun v=>regev_tame h ops e r t _)
def edgeO (o:Oper) (j:Nat):Bool:=o.after.toList.any fun e=>Region.binds .any e && Nat.beq e.on j
def reachO (ops:List Oper):Nat→Nat→Nat→Bool
 | 0,_,_=>false
 | f+1,i,j=>match nth ops i with
  | none=>false
  | some o=>edgeO o j || o.after.toList.any fun e=>Region.binds .any e && reachO ops f e.on j
def Shut (ops:Array Oper) (l:Array Bool):Prop:=∀ (k:Nat) (o:Oper),l[k]? = some true→ops[k]? = some o→∀ e∈o.after,Region.binds .any e = true→l[e.on]? = some true
theorem edgeO_of {o:Oper} {j:Nat} (h:edgeO o j = true):∃ e,e∈o.after∧Region.binds .any e = true∧e.on = j:=by
 obtain ⟨e,he,h⟩:=List.any_eq_true.1 h
 simp only [Bool.and_eq_true] at h
 exact ⟨e,by simpa using he,h.1,Nat.eq_of_beq_eq_true h.2⟩
theorem reachO_done {ops:Array Oper} {l:Array Bool} (hS:Shut ops l):∀ (f i j:Nat),reachO ops.toList f i j = true→l[i]? = some true→l[j]? = some true
 | 0,_,_,h,_=>by simp [reachO] at h
 | f+1,i,j,h,hl=>by
  unfold reachO at h
  split at h
  ·cases h
  ·rename_i o ho
   rw [nth_eq,Array.getElem?_toList] at ho
   rw [Bool.or_eq_true] at h
   rcases h with h|h
   ·obtain ⟨e,he,hb,rfl⟩:=edgeO_of h
    exact hS i o hl ho e he hb
   ·obtain ⟨e,he,h⟩:=List.any_eq_true.1 h
    simp only [Bool.and_eq_true] at h
    exact reachO_done hS f e.on j h.2 (hS i o hl ho e (by simpa using he) h.1)
theorem reachO_ready {ops:Array Oper} {l:Array Bool} (hS:Shut ops l) {f i j:Nat} (h:reachO ops.toList f i j = true) (hi:i∈Region.ready .any ops l):l[j]? = some true:=by
 cases f with
 | zero=>simp [reachO] at h
 | succ f=>
  obtain ⟨o,ho,hd⟩:=(mem_ready.1 hi).2
  unfold reachO at h
  rw [nth_eq,Array.getElem?_toList,ho] at h
  simp only [Bool.or_eq_true] at h
  rcases h with h|h
  ·obtain ⟨e,he,hb,rfl⟩:=edgeO_of h
   exact getD_true (hd e he hb)
  ·obtain ⟨e,he,h⟩:=List.any_eq_true.1 h
   simp only [Bool.and_eq_true] at h
   exact reachO_done hS f e.on j h.2 (getD_true (hd e (by simpa using he) h.1))
def nnQ (qs:List Qo) (e:Nat) (i:Nat):Nat:=match nth qs i with
 | some q=>q.1
 | none=>e
def wrB (qs:List Qo) (e:Nat) (i k:Nat):Bool:=(match nth qs i with
 | some q=>q.2.1.any fun x=>Nat.beq x.1 k && x.2
 | none=>false) || (Nat.ble (nnQ qs e i) k && Nat.blt k (nnQ qs e (i+1)))
def tchB (qs:List Qo) (i k:Nat):Bool:=match nth qs i with
 | some q=>q.2.1.any fun x=>Nat.beq x.1 k
 | none=>false
def confB (ops:List Oper) (qs:List Qo) (e:Nat) (i j:Nat):Bool:=
 ((match nth qs i with
  | some q=>q.2.1.all fun x=>!wrB qs e j x.1
  | none=>true) && (match nth qs j with
  | some q=>q.2.1.all fun x=>!wrB qs e i x.1
  | none=>true)) || reachO ops 12 j i
def selO:Op→Bool
 | .select _ _=>true
 | _=>false
def readB (ops:Array Oper) (i j:Nat):Bool:=match nth ops.toList i,nth ops.toList j with
 | some o,some o'=>match o'.dst with
  | none=>true
  | some d=>!((o.looksAt ops).any fun x=>Nat.beq x d) || (match Nat.blt j i with
   | true=>edgeO o j
   | false=>edgeO o' i)
 | _,_=>true
def apartB (ops:Array Oper) (i j:Nat):Bool:=match nth ops.toList i,nth ops.toList j with
 | some o,some o'=>match o.dst,o'.dst with
  | some d,some d'=>!Nat.beq d d'
  | _,_=>true
 | _,_=>true
def oneB (ops:Array Oper) (n i:Nat):Bool:=match nth ops.toList i with
 | some o=>!selO o.op && (match o.dst with
  | some d=>Nat.blt d n
  | none=>true) && o.after.toList.all fun x=>!Region.binds .any x || Nat.blt x.on i
 | none=>true
def belowB (f:Nat→Bool):Nat→Bool
 | 0=>true
 | n+1=>f n && belowB f n
theorem belowB_of {f:Nat→Bool}:∀ {n:Nat},belowB f n = true→∀ i,i < n→f i = true
 | 0,_,i,h=>absurd h (Nat.not_lt_zero _)
 | n+1,h,i,hi=>by
  simp only [belowB,Bool.and_eq_true] at h
  by_cases e:i = n
  ·subst e; exact h.1
  ·exact belowB_of h.2 i (by omega)
def ordB (ops:Array Oper) (qs:List Qo) (e n:Nat):Bool:=
 Nat.beq qs.length ops.toList.length && belowB (fun j=>oneB ops n j && belowB (fun i=>apartB ops i j && readB ops i j && readB ops j i && confB ops.toList qs e i j) j) ops.toList.length
structure Can (P:Program) (call:Cal) (ops:Array Oper) (qs:List Qo) (e:Nat) (pk:CPk) (L0:List Value) (s0:CSt) (Ls:Nat→List Value) (Ss:Nat→CSt) (vs:Nat→Value):Prop where
 l0:Ls 0 = L0
 s0:Ss 0 = s0
 st:∀ i o q,ops[i]? = some o→qs[i]? = some q→uev P pk call ops o q (Ls i) (Ss i) = some (vs i,Ss (i+1))∧Ls (i+1) = putL (Ls i) o.dst (vs i)
 en:(Ss ops.size).n = e
theorem can_list {P:Program} {pk:CPk} {call:Cal} {ops:Array Oper} {e:Nat}:∀ (l:List Oper) (q:List Qo) (L:List Value) (s:CSt) (L':List Value) (s':CSt),regev P pk call ops l q e L s = some (L',s') →
  ∃ (Ls:Nat→List Value) (Ss:Nat→CSt) (vs:Nat→Value),Ls 0 = L∧Ss 0 = s∧(∀ i o q',l[i]? = some o→q[i]? = some q'→uev P pk call ops o q' (Ls i) (Ss i) = some (vs i,Ss (i+1))∧Ls (i+1) = putL (Ls i) o.dst (vs i))∧Ls l.length = L'∧Ss l.length = s'∧s'.n = e
 | [],[],L,s,L',s',h=>by
  simp only [regev] at h
  split at h
  ·rename_i hb
   simp only [Option.some.injEq,Prod.mk.injEq] at h
   obtain ⟨rfl,rfl⟩:=h
   exact ⟨fun _=>L,fun _=>s,fun _=>undef,rfl,rfl,fun i o q' hi=>by simp at hi,rfl,rfl,Nat.eq_of_beq_eq_true hb⟩
  ·cases h
 | [],_ :: _,_,_,_,_,h=>by simp [regev] at h
 | _ :: _,[],_,_,_,_,h=>by simp [regev] at h
 | o :: r,q :: t,L,s,L',s',h=>by
  simp only [regev,putF_eq] at h
  cases h1:uev P pk call ops o q L s with
  | none=>simp only [h1,andO] at h; cases h
  | some z=>
   obtain ⟨v,s1⟩:=z
   simp only [h1,andO] at h
   obtain ⟨Ls,Ss,vs,a1,a2,a3,a4,a5,a6⟩:=can_list r t _ s1 L' s' h
   refine ⟨fun i=>match i with|0=>L|i+1=>Ls i,fun i=>match i with|0=>s|i+1=>Ss i,fun i=>match i with|0=>v|i+1=>vs i,rfl,rfl,fun i o' q' hi hq=>?_,a4,a5,a6⟩
   cases i with
   | zero=>
    simp only [List.getElem?_cons_zero,Option.some.injEq] at hi hq
    subst hi; subst hq
    refine ⟨?_,a1⟩
    show uev P pk call ops o q L s = some (v,Ss 0)
    rw [a2]; exact h1
   | succ i=>exact a3 i o' q' (by simpa using hi) (by simpa using hq)
theorem can_of {P:Program} {pk:CPk} {call:Cal} {ops:Array Oper} {e:Nat} {qs:List Qo} {L:List Value} {s:CSt} {L':List Value} {s':CSt} (h:regev P pk call ops ops.toList qs e L s = some (L',s')) :
  ∃ (Ls:Nat→List Value) (Ss:Nat→CSt) (vs:Nat→Value),Can P call ops qs e pk L s Ls Ss vs∧Ls ops.size = L'∧Ss ops.size = s':=by
 obtain ⟨Ls,Ss,vs,a1,a2,a3,a4,a5,a6⟩:=can_list ops.toList qs L s L' s' h
 rw [Array.length_toList] at a4 a5
 exact ⟨Ls,Ss,vs,⟨a1,a2,fun i o q hi hq=>a3 i o q (by rw [Array.getElem?_toList]; exact hi) hq,by rw [a5]; exact a6⟩,a4,a5⟩
structure OrdOk (ops:Array Oper) (qs:List Qo) (e n:Nat):Prop where
 len:qs.length = ops.size
 sel:∀ (i:Nat) (o:Oper),ops[i]? = some o→∀ cs b,o.op≠.select cs b
 dst:∀ (i:Nat) (o:Oper) (d:Nat),ops[i]? = some o→o.dst = some d→d < n
 back:∀ (i:Nat) (o:Oper),ops[i]? = some o→∀ x∈o.after,Region.binds .any x = true→x.on < i
 apart:∀ (i j:Nat) (o o':Oper) (d:Nat),ops[i]? = some o→ops[j]? = some o'→o.dst = some d→o'.dst = some d→i = j
 read:∀ (i j:Nat) (o o':Oper) (d:Nat),i≠j→ops[i]? = some o→ops[j]? = some o'→o'.dst = some d→d∈o.looksAt ops→(j < i∧edgeO o j = true)∨(i < j∧edgeO o' i = true)
 conf:∀ (i j k:Nat),i < j→j < ops.size→(tchB qs i k = true∧wrB qs e j k = true∨tchB qs j k = true∧wrB qs e i k = true)→reachO ops.toList 12 j i = true
theorem tch_mem {qs:List Qo} {i k:Nat}:tchB qs i k = true↔∃ q w,qs[i]? = some q∧(k,w)∈q.2.1:=by
 unfold tchB
 rw [nth_eq]
 cases qs[i]? with
 | none=>simp
 | some q=>
  simp only [List.any_eq_true,Option.some.injEq]
  constructor
  ·rintro ⟨x,hx,hb⟩
   obtain rfl:=Nat.eq_of_beq_eq_true hb
   exact ⟨q,x.2,rfl,hx⟩
  ·rintro ⟨q',w,rfl,hx⟩
   exact ⟨(k,w),hx,Nat.beq_refl _⟩
theorem wr_mem {qs:List Qo} {e i k:Nat}:wrB qs e i k = true↔(∃ q,qs[i]? = some q∧(k,true)∈q.2.1)∨(nnQ qs e i≤k∧k < nnQ qs e (i+1)):=by
 unfold wrB
 rw [nth_eq,Bool.or_eq_true,Bool.and_eq_true,Nat.ble_eq,Nat.blt_eq]
 refine or_congr ?_ Iff.rfl
 cases qs[i]? with
 | none=>simp
 | some q=>
  simp only [List.any_eq_true,Bool.and_eq_true,Option.some.injEq,exists_eq_left']
  constructor
  ·rintro ⟨x,hx,hb,ht⟩
   obtain rfl:=Nat.eq_of_beq_eq_true hb
   rw [← ht]
   exact hx
  ·intro hx
   exact ⟨(k,true),hx,Nat.beq_refl _,rfl⟩
theorem ordB_ok {ops:Array Oper} {qs:List Qo} {e n:Nat} (h:ordB ops qs e n = true):OrdOk ops qs e n:=by
 unfold ordB at h
 rw [Bool.and_eq_true] at h
 obtain ⟨h0,h⟩:=h
 have one:∀ (i:Nat) (o:Oper),ops[i]? = some o→oneB ops n i = true:=fun i o ho=>by
  have:=belowB_of h i (by have:=(Array.getElem?_eq_some_iff.1 ho).1; simpa using this)
  simp only [Bool.and_eq_true] at this
  exact this.1
 have two:∀ i j,i < j→j < ops.size→apartB ops i j = true∧readB ops i j = true∧readB ops j i = true∧confB ops.toList qs e i j = true:=fun i j hij hj=>by
  have:=belowB_of h j (by simpa using hj)
  simp only [Bool.and_eq_true] at this
  have:=belowB_of this.2 i hij
  simp only [Bool.and_eq_true] at this
  exact ⟨this.1.1.1,this.1.1.2,this.1.2,this.2⟩
 have at_:∀ (i:Nat) (o:Oper),ops[i]? = some o→nth ops.toList i = some o:=fun i o ho=>by rw [nth_eq,Array.getElem?_toList]; exact ho
 have lt_:∀ (i:Nat) (o:Oper),ops[i]? = some o→i < ops.size:=fun i o ho=>(Array.getElem?_eq_some_iff.1 ho).1
 refine ⟨by have:=Nat.eq_of_beq_eq_true h0; simpa using this,fun i o ho cs b hb=>?_,fun i o d ho hd=>?_,fun i o ho x hx hb=>?_,fun i j o o' d hi hj h1 h2=>?_,fun i j o o' d hne hi hj hd hl=>?_,fun i j k hij hj hk=>?_⟩
 ·have:=one i o ho
  simp only [oneB,at_ i o ho,Bool.and_eq_true,hb,selO] at this
  simp at this
 ·have:=one i o ho
  simp only [oneB,at_ i o ho,Bool.and_eq_true,hd] at this
  simpa [Nat.blt_eq] using this.1.2
 ·have:=one i o ho
  simp only [oneB,at_ i o ho,Bool.and_eq_true] at this
  have:=List.all_eq_true.1 this.2 x (by simpa using hx)
  simpa [hb,Nat.blt_eq] using this
 ·have key:∀ (i j:Nat) (o o':Oper),i < j→ops[i]? = some o→ops[j]? = some o'→o.dst = some d→o'.dst = some d→False:=fun i j o o' hij hi hj h1 h2=>by
   have:=(two i j hij (lt_ j o' hj)).1
   simp only [apartB,at_ i o hi,at_ j o' hj,h1,h2,Nat.beq_refl] at this
   simp at this
  rcases Nat.lt_trichotomy i j with hij|hij|hij
  ·exact (key i j o o' hij hi hj h1 h2).elim
  ·exact hij
  ·exact (key j i o' o hij hj hi h2 h1).elim
 ·have hm:(o.looksAt ops).any (fun x=>Nat.beq x d) = true:=List.any_eq_true.2 ⟨d,hl,Nat.beq_refl _⟩
  rcases Nat.lt_trichotomy i j with hij|hij|hij
  ·have:=(two i j hij (lt_ j o' hj)).2.1
   simp only [readB,at_ i o hi,at_ j o' hj,hd,hm,Bool.not_true,Bool.false_or] at this
   have hb:Nat.blt j i = false:=by
    cases hx:Nat.blt j i with
    | false=>rfl
    | true=>rw [Nat.blt_eq] at hx; omega
   rw [hb] at this
   exact Or.inr ⟨hij,this⟩
  ·exact absurd hij hne
  ·have:=(two j i hij (lt_ i o hi)).2.2.1
   simp only [readB,at_ i o hi,at_ j o' hj,hd,hm,Bool.not_true,Bool.false_or] at this
   rw [show Nat.blt j i = true from by rw [Nat.blt_eq]; exact hij] at this
   exact Or.inl ⟨hij,this⟩
 ·have:=(two i j hij hj).2.2.2
  unfold confB at this
  rw [Bool.or_eq_true,Bool.and_eq_true] at this
  rcases this with ⟨a,b⟩|this
  ·exfalso
   rcases hk with ⟨h1,h2⟩|⟨h1,h2⟩
   ·obtain ⟨q,w,hq,hm⟩:=tch_mem.1 h1
    rw [nth_eq,hq] at a
    have:=List.all_eq_true.1 a (k,w) hm
    simp [h2] at this
   ·obtain ⟨q,w,hq,hm⟩:=tch_mem.1 h1
    rw [nth_eq,hq] at b
    have:=List.all_eq_true.1 b (k,w) hm
    simp [h2] at this
  ·exact this
theorem OrdOk.q {ops:Array Oper} {qs:List Qo} {e:Nat} {n:Nat} (h:OrdOk ops qs e n) {i:Nat} {o:Oper} (ho:ops[i]? = some o):∃ q,qs[i]? = some q:=by
 have:=(Array.getElem?_eq_some_iff.1 ho).1
 exact ⟨qs[i]'(by rw [h.len]; exact this),by simp [h.len,this]⟩
theorem Can.num {P:Program} {call:Cal} {ops:Array Oper} {qs:List Qo} {e:Nat} {n:Nat} {pk:CPk} {L0:List Value} {s0:CSt} {Ls:Nat→List Value} {Ss:Nat→CSt} {vs:Nat→Value} (h:Can P call ops qs e pk L0 s0 Ls Ss vs) (ho:OrdOk ops qs e n) {i:Nat} (hi:i≤ops.size):(Ss i).n = nnQ qs e i:=by
 by_cases hlt:i < ops.size
 ·obtain ⟨o,hop⟩:∃ o,ops[i]? = some o:=⟨ops[i],by simp [hlt]⟩
  obtain ⟨q,hq⟩:=ho.q hop
  obtain ⟨hn,_⟩:=uev_eq (h.st i o q hop hq).1
  rw [hn,nnQ,nth_eq,hq]
 ·obtain rfl:i = ops.size:=by omega
  rw [h.en,nnQ,nth_eq,List.getElem?_eq_none (by rw [ho.len]; omega)]
theorem Can.run {P:Program} {call:Cal} {ops:Array Oper} {qs:List Qo} {e:Nat} {n:Nat} {pk:CPk} {L0:List Value} {s0:CSt} {Ls:Nat→List Value} {Ss:Nat→CSt} {vs:Nat→Value} (hT:Tames call) (h:Can P call ops qs e pk L0 s0 Ls Ss vs) (ho:OrdOk ops qs e n) {i:Nat} {o:Oper} {q:Qo} (hop:ops[i]? = some o) (hq:qs[i]? = some q) :
  ∃ d,oev P pk call ops o (Ls i) ⟨(Ss i).H,nnQ qs e i,q.2.2,[]⟩ = some (vs i,⟨(Ss (i+1)).H,nnQ qs e (i+1),[],d⟩)∧eqRec d q.2.1 = true∧(Ss (i+1)).em = d ++ (Ss i).em∧nnQ qs e i≤nnQ qs e (i+1)∧(∀ k,wrB qs e i k = false→lookH (Ss (i+1)).H k = lookH (Ss i).H k):=by
 have hlt:=(Array.getElem?_eq_some_iff.1 hop).1
 obtain ⟨h1,d,h2,h3,_,h5⟩:=uev_eq (h.st i o q hop hq).1
 rw [h.num ho (Nat.le_of_lt hlt),h.num ho (i:=i+1) hlt] at h2
 obtain ⟨d',e1,e2,e3,_⟩:=(oev_tame (P:=P) hT ops o (Ls i)).go pk _ _ _ h2
 simp only [List.append_nil] at e1
 subst e1
 refine ⟨d,h2,h3,h5,e2,fun k hk=>e3 k (fun b hb=>?_) ?_⟩
 ·have:wrB qs e i k = true:=wr_mem.2 (Or.inl ⟨q,hq,(eqRec_mem h3 k true).1 ⟨b,hb⟩⟩)
  rw [hk] at this; cases this
 ·simp only
  by_cases hr:nnQ qs e i≤k∧k < nnQ qs e (i+1)
  ·have:wrB qs e i k = true:=wr_mem.2 (Or.inr hr)
   rw [hk] at this; cases this
  ·omega
theorem Can.mono {P:Program} {call:Cal} {ops:Array Oper} {qs:List Qo} {e:Nat} {n:Nat} {pk:CPk} {L0:List Value} {s0:CSt} {Ls:Nat→List Value} {Ss:Nat→CSt} {vs:Nat→Value} (hT:Tames call) (h:Can P call ops qs e pk L0 s0 Ls Ss vs) (ho:OrdOk ops qs e n):∀ (j i:Nat),i≤j→j≤ops.size→nnQ qs e i≤nnQ qs e j
 | 0,i,hij,_=>by rw [show i = 0 by omega]; exact Nat.le_refl _
 | j+1,i,hij,hj=>by
  by_cases e':i = j+1
  ·rw [e']; exact Nat.le_refl _
  ·obtain ⟨o,hop⟩:∃ o,ops[j]? = some o:=⟨ops[j]'(by omega),by simp⟩
   obtain ⟨q,hq⟩:=ho.q hop
   obtain ⟨_,_,_,_,h4,_⟩:=h.run hT ho hop hq
   exact Nat.le_trans (Can.mono hT h ho j i (by omega) (by omega)) h4
theorem Can.frame {P:Program} {call:Cal} {ops:Array Oper} {qs:List Qo} {e:Nat} {n:Nat} {pk:CPk} {L0:List Value} {s0:CSt} {Ls:Nat→List Value} {Ss:Nat→CSt} {vs:Nat→Value} (hT:Tames call) (h:Can P call ops qs e pk L0 s0 Ls Ss vs) (ho:OrdOk ops qs e n) {k:Nat}:∀ (j i:Nat),i≤j→j≤ops.size→(∀ x,i≤x→x < j→wrB qs e x k = false)→lookH (Ss j).H k = lookH (Ss i).H k
 | 0,i,hij,_,_=>by rw [show i = 0 by omega]
 | j+1,i,hij,hj,hw=>by
  by_cases e':i = j+1
  ·rw [e']
  ·obtain ⟨o,hop⟩:∃ o,ops[j]? = some o:=⟨ops[j]'(by omega),by simp⟩
   obtain ⟨q,hq⟩:=ho.q hop
   obtain ⟨_,_,_,_,_,h5⟩:=h.run hT ho hop hq
   rw [h5 k (hw j (by omega) (by omega))]
   exact Can.frame hT h ho j i (by omega) (by omega) (fun x h1 h2=>hw x h1 (by omega))
def MemOf (qs:List Qo) (e:Nat) (Ss:Nat→CSt) (l:Array Bool) (k:Nat) (c:Option Obj):Prop:=
 (∃ i,l[i]? = some true∧wrB qs e i k = true∧(∀ j,l[j]? = some true→wrB qs e j k = true→j≤i)∧c = lookH (Ss (i+1)).H k)∨((∀ i,l[i]? = some true→wrB qs e i k = false)∧c = lookH (Ss 0).H k)
def OrdAt (ops:Array Oper) (qs:List Qo) (e i k:Nat):Prop:=∀ j,j≠i→j < ops.size→wrB qs e j k = true→(j < i∧reachO ops.toList 12 i j = true)∨(i < j∧reachO ops.toList 12 j i = true)
theorem MemOf.at {P:Program} {call:Cal} {ops:Array Oper} {qs:List Qo} {e:Nat} {n:Nat} {pk:CPk} {L0:List Value} {s0:CSt} {Ls:Nat→List Value} {Ss:Nat→CSt} {vs:Nat→Value} (hT:Tames call) (h:Can P call ops qs e pk L0 s0 Ls Ss vs) (ho:OrdOk ops qs e n) {l:Array Bool} (hS:Shut ops l) (hlen:l.size = ops.size) {i k:Nat} (hi:i∈Region.ready .any ops l) (hl:l[i]? = some false) (hk:OrdAt ops qs e i k) {c:Option Obj} (hm:MemOf qs e Ss l k c):c = lookH (Ss i).H k:=by
 have hlt:i < ops.size:=by rw [← hlen]; exact (Array.getElem?_eq_some_iff.1 hl).1
 have up_lt:∀ j,l[j]? = some true→j < ops.size:=fun j hj=>by rw [← hlen]; exact (Array.getElem?_eq_some_iff.1 hj).1
 have before:∀ j,j < i→wrB qs e j k = true→l[j]? = some true:=fun j hj hw=>by
  rcases hk j (by omega) (by omega) hw with ⟨_,hr⟩|⟨hx,_⟩
  ·exact reachO_ready hS hr hi
  ·omega
 have after:∀ j,l[j]? = some true→wrB qs e j k = true→j < i:=fun j hj hw=>by
  have hne:j≠i:=by rintro rfl; rw [hl] at hj; cases hj
  rcases hk j hne (up_lt j hj) hw with ⟨hx,_⟩|⟨_,hr⟩
  ·exact hx
  ·have:=reachO_done hS 12 j i hr hj
   rw [hl] at this; cases this
 rcases hm with ⟨j1,a1,a2,a3,rfl⟩|⟨a1,rfl⟩
 ·have hj1:=after j1 a1 a2
  refine (h.frame hT ho i (j1+1) (by omega) (by omega) (fun x h1 h2=>?_)).symm
  cases hx:wrB qs e x k with
  | false=>rfl
  | true=>have:=a3 x (before x h2 hx) hx; omega
 ·refine (h.frame hT ho i 0 (Nat.zero_le _) (by omega) (fun x _ h2=>?_)).symm
  cases hx:wrB qs e x k with
  | false=>rfl
  | true=>have:=a1 x (before x h2 hx); rw [hx] at this; cases this
theorem OrdOk.at_t {ops:Array Oper} {qs:List Qo} {e:Nat} {n:Nat} (ho:OrdOk ops qs e n) {i k:Nat} (hi:i < ops.size) (ht:tchB qs i k = true):OrdAt ops qs e i k:=fun j hne hj hw=>by
 rcases Nat.lt_or_gt_of_ne hne with hx|hx
 ·exact Or.inl ⟨hx,ho.conf j i k hx hi (Or.inr ⟨ht,hw⟩)⟩
 ·exact Or.inr ⟨hx,ho.conf i j k hx hj (Or.inl ⟨ht,hw⟩)⟩
theorem Can.at_w {P:Program} {call:Cal} {ops:Array Oper} {qs:List Qo} {e:Nat} {n:Nat} {pk:CPk} {L0:List Value} {s0:CSt} {Ls:Nat→List Value} {Ss:Nat→CSt} {vs:Nat→Value} (hT:Tames call) (h:Can P call ops qs e pk L0 s0 Ls Ss vs) (ho:OrdOk ops qs e n) {i k:Nat} (hi:i < ops.size) (ht:wrB qs e i k = true):OrdAt ops qs e i k:=fun j hne hj hw=>by
 have t:∀ x,wrB qs e x k = true→tchB qs x k = true∨(nnQ qs e x≤k∧k < nnQ qs e (x+1)):=fun x hx=>by
  rcases wr_mem.1 hx with ⟨q,hq,hm⟩|hr
  ·exact Or.inl (tch_mem.2 ⟨q,true,hq,hm⟩)
  ·exact Or.inr hr
 rcases t i ht with h1|h1
 ·exact ho.at_t hi h1 j hne hj hw
 ·rcases t j hw with h2|h2
  ·rcases Nat.lt_or_gt_of_ne hne with hx|hx
   ·exact Or.inl ⟨hx,ho.conf j i k hx hi (Or.inl ⟨h2,ht⟩)⟩
   ·exact Or.inr ⟨hx,ho.conf i j k hx hj (Or.inr ⟨h2,ht⟩)⟩
  ·exfalso
   rcases Nat.lt_or_gt_of_ne hne with hx|hx
   ·have:=h.mono hT ho i (j+1) (by omega) (by omega); omega
   ·have:=h.mono hT ho j (i+1) (by omega) (by omega); omega
theorem oev_congr {P:Program} {pk:CPk} {call:Cal} {ops:Array Oper} {o:Oper} {L L':List Value} {s:CSt} (hs:∀ cs b,o.op≠.select cs b) (h:∀ d,d∈o.looksAt ops→L[d]? = L'[d]?):oev P pk call ops o L s = oev P pk call ops o L' s:=by
 have hw:wantL ops L o = wantL ops L' o:=by
  unfold wantL
  cases hg:o.guard with
  | none=>rfl
  | some g=>
   obtain ⟨j,w⟩:=g
   simp only
   have:yieldL ops L j = yieldL ops L' j:=by
    unfold yieldL
    cases ho:nth ops.toList j with
    | none=>rfl
    | some o'=>
     simp only
     cases hd:o'.dst with
     | none=>rfl
     | some d=>
      simp only
      rw [nth_eq,nth_eq,h d (by
       rw [nth_eq,Array.getElem?_toList] at ho
       simp [Oper.looksAt,hg,ho,hd])]
   rw [this]
 have hx:∀ x,x∈o.op.operands→evalL L x = evalL L' x:=fun x hx=>by
  cases x with
  | tmp t=>
   show (match nth L t with|some v=>v|none=>undef) = (match nth L' t with|some v=>v|none=>undef)
   rw [nth_eq,nth_eq,h t (List.mem_append_left _ (List.mem_filterMap.2 ⟨.tmp t,by simpa using hx,rfl⟩))]
  | _=>rfl
 have he:execOp (evalL L) o = execOp (evalL L') o:=execOp_congr o hs hx
 have ha:apE P o L = apE P o L':=by
  funext c j x m pk s
  unfold apE
  cases hi:apInfo P o with
  | none=>rfl
  | some y=>
   obtain ⟨sx,xx,el,bytes⟩:=y
   obtain ⟨t,i,z,ho,_⟩:=apInfo_eq hi
   simp only
   rw [hx sx (by rw [ho]; simp [Op.operands,Call.operands]),hx xx (by rw [ho]; simp [Op.operands,Call.operands])]
 have hsl:slE P o (evalL L) = slE P o (evalL L'):=slE_congr hx
 unfold oev
 rw [hw,xop_eq,xop_eq,he,ha,hsl]
theorem can_slot {P:Program} {call:Cal} {ops:Array Oper} {qs:List Qo} {e:Nat} {pk:CPk} {L0:List Value} {s0:CSt} {Ls:Nat→List Value} {Ss:Nat→CSt} {vs:Nat→Value} (h:Can P call ops qs e pk L0 s0 Ls Ss vs) (ho:OrdOk ops qs e L0.length):∀ i,i≤ops.size→(Ls i).length = L0.length∧∀ d,(∀ (j:Nat) (o:Oper),ops[j]? = some o→o.dst = some d→j < i→(Ls i)[d]? = some (vs j))∧((∀ (j:Nat) (o:Oper),ops[j]? = some o→o.dst = some d→i≤j)→(Ls i)[d]? = L0[d]?)
 | 0,_=>by rw [h.l0]; exact ⟨rfl,fun d=>⟨fun j o _ _ hj=>absurd hj (Nat.not_lt_zero _),fun _=>rfl⟩⟩
 | i+1,hi=>by
  obtain ⟨ih1,ih2⟩:=can_slot h ho i (by omega)
  obtain ⟨o,hop⟩:∃ o,ops[i]? = some o:=⟨ops[i]'(by omega),by simp⟩
  obtain ⟨q,hq⟩:=ho.q hop
  rw [(h.st i o q hop hq).2]
  refine ⟨?_,fun d=>⟨fun j o' hj hd hlt=>?_,fun hn=>?_⟩⟩
  ·unfold putL
   cases o.dst <;> simp [ih1]
  ·by_cases e':j = i
   ·subst e'
    rw [hop] at hj
    cases hj
    simp only [putL,hd]
    rw [List.getElem?_set_self (by rw [ih1]; exact ho.dst j o d hop hd)]
   ·have hx:(putL (Ls i) o.dst (vs i))[d]? = (Ls i)[d]?:=by
     unfold putL
     cases hod:o.dst with
     | none=>rfl
     | some d'=>
      simp only
      rw [List.getElem?_set_ne]
      rintro rfl
      exact e' (ho.apart j i o' o d' hj hop hd hod)
    rw [hx]
    exact (ih2 d).1 j o' hj hd (by omega)
  ·have hx:(putL (Ls i) o.dst (vs i))[d]? = (Ls i)[d]?:=by
    unfold putL
    cases hod:o.dst with
    | none=>rfl
    | some d'=>
     simp only
     rw [List.getElem?_set_ne]
     rintro rfl
     have:=hn i o hop hod
     omega
   rw [hx]
   exact (ih2 d).2 (fun j o' hj hd=>by have:=hn j o' hj hd; omega)
def SlotOf (ops:Array Oper) (L0:List Value) (vs:Nat→Value) (l:Array Bool) (t:List Value):Prop:=t.length = L0.length∧∀ d,(∀ (j:Nat) (o:Oper),ops[j]? = some o→o.dst = some d→l[j]? = some true→t[d]? = some (vs j))∧((∀ (j:Nat) (o:Oper),ops[j]? = some o→o.dst = some d→l[j]?≠some true)→t[d]? = L0[d]?)
theorem SlotOf.at {P:Program} {call:Cal} {ops:Array Oper} {qs:List Qo} {e:Nat} {pk:CPk} {L0:List Value} {s0:CSt} {Ls:Nat→List Value} {Ss:Nat→CSt} {vs:Nat→Value} (h:Can P call ops qs e pk L0 s0 Ls Ss vs) (ho:OrdOk ops qs e L0.length) {l:Array Bool} {t:List Value} (hS:Shut ops l) {i:Nat} {o:Oper} (hop:ops[i]? = some o) (hi:i∈Region.ready .any ops l) (hl:l[i]? = some false) (ht:SlotOf ops L0 vs l t) (d:Nat) (hd:d∈o.looksAt ops):t[d]? = (Ls i)[d]?:=by
 have hlt:i < ops.size:=(Array.getElem?_eq_some_iff.1 hop).1
 obtain ⟨_,hc⟩:=can_slot h ho i (by omega)
 by_cases hw:∃ (j:Nat) (o':Oper),ops[j]? = some o'∧o'.dst = some d
 ·obtain ⟨j,o',hj,hd'⟩:=hw
  have only:∀ (x:Nat) (y:Oper),ops[x]? = some y→y.dst = some d→x = j:=fun x y h1 h2=>ho.apart x j y o' d h1 hj h2 hd'
  by_cases e':j = i
  ·subst e'
   rw [(ht.2 d).2 (fun x y h1 h2=>by rw [only x y h1 h2,hl]; simp),(hc d).2 (fun x y h1 h2=>by rw [only x y h1 h2]; exact Nat.le_refl _)]
  ·rcases ho.read i j o o' d (Ne.symm e') hop hj hd' hd with ⟨hji,he⟩|⟨hij,he⟩
   ·obtain ⟨x,hx,hb,rfl⟩:=edgeO_of he
    obtain ⟨o2,ho2,hd2⟩:=(mem_ready.1 hi).2
    rw [hop] at ho2
    cases ho2
    rw [(ht.2 d).1 x.on o' hj hd' (getD_true (hd2 x hx hb)),(hc d).1 x.on o' hj hd' hji]
   ·have hnd:l[j]?≠some true:=fun hc2=>by
     obtain ⟨x,hx,hb,rfl⟩:=edgeO_of he
     have:=hS j o' hc2 hj x hx hb
     rw [hl] at this; cases this
    rw [(ht.2 d).2 (fun x y h1 h2=>by rw [only x y h1 h2]; exact hnd),(hc d).2 (fun x y h1 h2=>by rw [only x y h1 h2]; omega)]
 ·rw [(ht.2 d).2 (fun x y h1 h2=>absurd ⟨x,y,h1,h2⟩ hw),(hc d).2 (fun x y h1 h2=>absurd ⟨x,y,h1,h2⟩ hw)]
def DL (qs:List Qo) (e:Nat) (D:Nat→Prop) (l:Array Bool):Nat→Prop:=fun k=>D k∨∃ i,l[i]? = some true∧nnQ qs e i≤k∧k < nnQ qs e (i+1)
theorem up_set {l:Array Bool} {i k:Nat} (hl:l[i]? = some false):(l.setIfInBounds i true)[k]? = some true↔k = i∨l[k]? = some true:=by
 obtain ⟨hlt,-⟩:=Array.getElem?_eq_some_iff.1 hl
 by_cases hk:k = i
 ·subst hk; simp [hlt]
 ·rw [Array.getElem?_setIfInBounds_ne (Ne.symm hk)]; simp [hk]
structure InvD (P:Program) (call:Cal) (ops:Array Oper) (qs:List Qo) (e:Nat) (w0:World) (L0:List Value) (s0:CSt) (pk0:CPk) (D:Nat→Prop) (l:Array Bool) (pk:CPk) (t:List Value) (G:Hp) (W:World):Prop where
 agr:CAgr D pk0 pk
 len:l.size = ops.size
 shut:Shut ops l
 rel:Rel pk (DL qs e D l) G w0 W
 all:∀ pk' Ls Ss vs,CAgr (DL qs e D l) pk pk'→Can P call ops qs e pk' L0 s0 Ls Ss vs→SlotOf ops L0 vs l t∧∀ k,MemOf qs e Ss l k (lookH G k)
theorem Rel.same {pk:CPk} {D:Nat→Prop} {H H':Hp} {w0 W:World} (h:Rel pk D H w0 W) (he:∀ k,lookH H' k = lookH H k):Rel pk D H' w0 W:=⟨h.below,fun k o hk=>h.live k o (by rw [← he]; exact hk),fun k o hk=>h.own k o (by rw [← he]; exact hk),fun k o hk=>h.glob k o (by rw [← he]; exact hk),fun i k o o' a b c d=>h.inj i k o o' a b (by rw [← he]; exact c) (by rw [← he]; exact d)⟩
theorem em_in {P:Program} {call:Cal} {ops:Array Oper} {qs:List Qo} {e n:Nat} {pk:CPk} {L0:List Value} {s0:CSt} {Ls:Nat→List Value} {Ss:Nat→CSt} {vs:Nat→Value} (hT:Tames call) (h:Can P call ops qs e pk L0 s0 Ls Ss vs) (ho:OrdOk ops qs e n):∀ (j i:Nat),i≤j→j≤ops.size→∀ x,x∈(Ss i).em→x∈(Ss j).em
 | 0,i,hij,_,x,hx=>by rw [show i = 0 by omega] at hx; exact hx
 | j+1,i,hij,hj,x,hx=>by
  by_cases e':i = j+1
  ·rw [e'] at hx; exact hx
  ·obtain ⟨o,hop⟩:∃ o,ops[j]? = some o:=⟨ops[j]'(by omega),by simp⟩
   obtain ⟨q,hq⟩:=ho.q hop
   obtain ⟨d,_,_,h3,_⟩:=h.run hT ho hop hq
   rw [h3]
   exact List.mem_append_right _ (em_in hT h ho j i (by omega) (by omega) x hx)
theorem regev_wp {P:Program} {w0:World} {call:Cal} (hm:P.follows .mixedOrders = true) (hc:CallOk P w0 call) (hT:Tames call) {id:Nat} {ops:Array Oper} {qs:List Qo} {e:Nat} {L:List Value} {pk:CPk} {D:Nat→Prop} {N:Nat} {s:CSt} {W:World} (hR:Rel pk D s.H w0 W) (hD:∀ k,s.n≤k→k < N→¬ D k) (hB:ordB ops qs e L.length = true) (hG:Gd (fun pk s=>regev P pk call ops ops.toList qs e L s) pk D N s)
  {Q:Exit→Act→World→Prop} (hQ:∀ pk' L' s' W',CAgr D pk pk'→regev P pk' call ops ops.toList qs e L s = some (L',s')→Rel pk' (Dn D s.n s'.n) s'.H w0 W'→Q .normal ⟨L'.toArray,[]⟩ W'):(Code.region id ops true).wp P Q ⟨L.toArray,[]⟩ W:=by
 have ho:=ordB_ok hB
 have all:∀ pk',CAgr D pk pk'→∃ Ls Ss vs,Can P call ops qs e pk' L s Ls Ss vs∧regev P pk' call ops ops.toList qs e L s = some (Ls ops.size,Ss ops.size)∧Good pk' (Ss ops.size).em∧(Ss ops.size).n≤N:=fun pk' hp=>by
  obtain ⟨L',s',h1,h2,h3⟩:=hG pk' hp
  obtain ⟨Ls,Ss,vs,c1,rfl,rfl⟩:=can_of h1
  exact ⟨Ls,Ss,vs,c1,h1,h2,h3⟩
 obtain ⟨Ls0,Ss0,vs0,can0,_,_,hN0⟩:=all pk (CAgr.refl _ _)
 have mono:=can0.mono hT ho
 have n0:nnQ qs e 0 = s.n:=by rw [← can0.num ho (Nat.zero_le _),can0.s0]
 have nE:nnQ qs e ops.size≤N:=by rw [← can0.num ho (Nat.le_refl _)]; exact hN0
 refine wp_region_any hm (wpAny_inv (fun l a W=>∃ pk1 t G,a = ⟨t.toArray,[]⟩∧InvD P call ops qs e w0 L s pk D l pk1 t G W) ?_ ?_ _ _ _ _ ?_ ⟨pk,L,s.H,rfl,?_⟩)
 ·
  rintro l a W1 i ⟨pk1,t,G,rfl,hI⟩ hi hl
  have hlt:i < ops.size:=by rw [← hI.len]; exact (Array.getElem?_eq_some_iff.1 hl).1
  obtain ⟨o,hop⟩:∃ o,ops[i]? = some o:=⟨ops[i],by simp [hlt]⟩
  obtain ⟨q,hq⟩:=ho.q hop
  have unit:∀ pk',CAgr (DL qs e D l) pk1 pk'→∃ Ls Ss vs,Can P call ops qs e pk' L s Ls Ss vs∧∃ d G',oev P pk' call ops o t ⟨G,nnQ qs e i,q.2.2,[]⟩ = some (vs i,⟨G',nnQ qs e (i+1),[],d⟩)∧eqRec d q.2.1 = true∧Good pk' d∧(∀ k,wrB qs e i k = true→lookH G' k = lookH (Ss (i+1)).H k)∧(∀ k,wrB qs e i k = false→lookH G' k = lookH G k):=fun pk' hp=>by
   obtain ⟨Ls,Ss,vs,c1,_,c3,_⟩:=all pk' (fun k hk=>(hp k (Or.inl hk)).trans (hI.agr k hk))
   obtain ⟨hsl,hmem⟩:=hI.all pk' Ls Ss vs hp c1
   obtain ⟨d,r1,r2,r3,r4,_⟩:=c1.run hT ho hop hq
   obtain ⟨d',e1,_,_,e4⟩:=(oev_tame (P:=P) hT ops o (Ls i)).go pk' _ _ _ r1
   simp only [List.append_nil] at e1
   subst e1
   have ag:∀ k,OrdAt ops qs e i k→lookH G k = lookH (Ss i).H k:=fun k hk=>MemOf.at hT c1 ho hI.shut hI.len hi hl hk (hmem k)
   obtain ⟨G',g1,g2⟩:=e4 pk' G [] (fun x a b=>⟨rfl,ag x (c1.at_w hT ho hlt (wr_mem.2 (Or.inr ⟨a,b⟩)))⟩) (fun b k w hb=>ag k (ho.at_t hlt (tch_mem.2 ⟨q,w,hq,(eqRec_mem r2 k w).1 ⟨b,hb⟩⟩)))
   rw [List.append_nil] at g1
   rw [← oev_congr (ho.sel i o hop) (fun x hx=>SlotOf.at c1 ho hI.shut hop hi hl hsl x hx)] at g1
   refine ⟨Ls,Ss,vs,c1,d,G',g1,r2,fun b k w hb=>c3 b k w (em_in hT c1 ho ops.size (i+1) hlt (Nat.le_refl _) _ (by rw [r3]; exact List.mem_append_left _ hb)),fun k hk=>g2 k ?_,fun k hk=>?_⟩
   ·rcases wr_mem.1 hk with ⟨q',hq',hmm⟩|hr
    ·rw [hq] at hq'
     cases hq'
     exact Or.inl ((eqRec_mem r2 k true).2 hmm)
    ·exact Or.inr hr
   ·obtain ⟨d2,f1,_,f3,_⟩:=(oev_tame (P:=P) hT ops o t).go pk' _ _ _ g1
    simp only [List.append_nil] at f1
    subst f1
    refine f3 k (fun b hb=>?_) ?_
    ·have:wrB qs e i k = true:=wr_mem.2 (Or.inl ⟨q,hq,(eqRec_mem r2 k true).1 ⟨b,hb⟩⟩)
     rw [hk] at this; cases this
    ·simp only
     by_cases hr:nnQ qs e i≤k∧k < nnQ qs e (i+1)
     ·have:wrB qs e i k = true:=wr_mem.2 (Or.inr hr)
      rw [hk] at this; cases this
     ·omega
  have hGd:Gd (fun pk s=>oev P pk call ops o t s) pk1 (DL qs e D l) (nnQ qs e (i+1)) ⟨G,nnQ qs e i,q.2.2,[]⟩:=fun pk' hp=>by
   obtain ⟨Ls,Ss,vs,_,d,G',u1,_,u3,_⟩:=unit pk' hp
   exact ⟨vs i,_,u1,u3,Nat.le_refl _⟩
  have fresh:∀ k,nnQ qs e i≤k→k < nnQ qs e (i+1)→¬ DL qs e D l k:=fun k h1 h2 h3=>by
   rcases h3 with h3|⟨j,hj,h4,h5⟩
   ·exact hD k (by have:=mono i 0 (Nat.zero_le _) (by omega); omega) (by have:=mono ops.size (i+1) (by omega) (Nat.le_refl _); omega) h3
   ·have hjlt:j < ops.size:=by rw [← hI.len]; exact (Array.getElem?_eq_some_iff.1 hj).1
    have hne:j≠i:=by rintro rfl; rw [hl] at hj; cases hj
    rcases Nat.lt_or_gt_of_ne hne with hx|hx
    ·have:=mono i (j+1) (by omega) (by omega); omega
    ·have:=mono j (i+1) (by omega) (by omega); omega
  have key:=oev_wp (P:=P) (w0:=w0) hc hT (Q:=Q) (K:=fun a W=>∃ pk1 t G,a = ⟨t.toArray,[]⟩∧InvD P call ops qs e w0 L s pk D (l.setIfInBounds i true) pk1 t G W) hI.rel fresh hGd (fun pk2 v s2 W2 b1 b2 b3=>by
   obtain ⟨Lsx,Ssx,vsx,cx,dx,Gx,x1,_,_,_⟩:=unit pk2 b1
   rw [b2] at x1
   simp only [Option.some.injEq,Prod.mk.injEq] at x1
   obtain ⟨rfl,rfl⟩:=x1
   have dl:∀ k,Dn (DL qs e D l) (nnQ qs e i) (nnQ qs e (i+1)) k→DL qs e D (l.setIfInBounds i true) k:=fun k hk=>by
    rcases hk with (hk|⟨j,hj,hk⟩)|hk
    ·exact Or.inl hk
    ·exact Or.inr ⟨j,(up_set hl).2 (Or.inr hj),hk⟩
    ·exact Or.inr ⟨i,(up_set hl).2 (Or.inl rfl),hk⟩
   refine ⟨pk2,_,Gx,rfl,⟨fun k hk=>(b1 k (Or.inl hk)).trans (hI.agr k hk),by rw [Array.size_setIfInBounds]; exact hI.len,fun k o' hk hok x hx hb=>?_,b3.mono dl,fun pk' Ls Ss vs hp hcan=>?_⟩⟩
   ·refine (up_set hl).2 (Or.inr ?_)
    rcases (up_set hl).1 hk with rfl|hk
    ·obtain ⟨o2,ho2,hd2⟩:=(mem_ready.1 hi).2
     rw [hok] at ho2
     cases ho2
     exact getD_true (hd2 x hx hb)
    ·exact hI.shut k o' hk hok x hx hb
   ·have hp1:CAgr (DL qs e D l) pk1 pk':=fun k hk=>(hp k (dl k (Or.inl hk))).trans (b1 k hk)
    obtain ⟨Ls',Ss',vs',c',d',G',u1,_,_,u4,u5⟩:=unit pk' hp1
    have same:=(oev_tame (P:=P) hT ops o t).same pk2 _ _ _ b2 pk' (fun x h1 h2=>hp x (dl x (Or.inr ⟨h1,h2⟩)))
    rw [same] at u1
    simp only [Option.some.injEq,Prod.mk.injEq,CSt.mk.injEq] at u1
    obtain ⟨hv,rfl,_⟩:=u1
    have uniq:∀ j,j≤ops.size→Ls j = Ls' j∧Ss j = Ss' j:=fun j=>by
     induction j with
     | zero=>intro _; exact ⟨by rw [hcan.l0,c'.l0],by rw [hcan.s0,c'.s0]⟩
     | succ j ih=>
      intro hj
      obtain ⟨i1,i2⟩:=ih (by omega)
      obtain ⟨oj,hoj⟩:∃ oj,ops[j]? = some oj:=⟨ops[j]'(by omega),by simp⟩
      obtain ⟨qj,hqj⟩:=ho.q hoj
      have y1:=hcan.st j oj qj hoj hqj
      have y2:=c'.st j oj qj hoj hqj
      rw [i1,i2,y2.1] at y1
      simp only [Option.some.injEq,Prod.mk.injEq] at y1
      exact ⟨by rw [y1.2,y2.2,y1.1.1],y1.1.2.symm⟩
    have hvi:vs i = vs' i:=by
     have y1:=(hcan.st i o q hop hq).1
     have y2:=(c'.st i o q hop hq).1
     rw [(uniq i (by omega)).1,(uniq i (by omega)).2,y2] at y1
     simp only [Option.some.injEq,Prod.mk.injEq] at y1
     exact y1.1.symm
    obtain ⟨⟨sl1,sl2⟩,hmem⟩:=hI.all pk' Ls Ss vs hp1 hcan
    refine ⟨⟨?_,fun dd=>⟨fun j oj hj hd hup=>?_,fun hn=>?_⟩⟩,fun k=>?_⟩
    ·unfold putL
     cases o.dst <;> simp [sl1]
    ·by_cases ej:j = i
     ·subst ej
      rw [hop] at hj
      cases hj
      simp only [putL,hd]
      rw [List.getElem?_set_self (by rw [sl1]; exact ho.dst j o dd hop hd),hv,hvi]
     ·have hx:(putL t o.dst (vsx i))[dd]? = t[dd]?:=by
       unfold putL
       cases hod:o.dst with
       | none=>rfl
       | some d2=>
        simp only
        rw [List.getElem?_set_ne]
        rintro rfl
        exact ej (ho.apart j i oj o d2 hj hop hd hod)
      rw [hx]
      refine (sl2 dd).1 j oj hj hd ?_
      rcases (up_set hl).1 hup with h9|h9
      ·exact absurd h9 ej
      ·exact h9
    ·have hx:(putL t o.dst (vsx i))[dd]? = t[dd]?:=by
      unfold putL
      cases hod:o.dst with
      | none=>rfl
      | some d2=>
       simp only
       rw [List.getElem?_set_ne]
       rintro rfl
       exact hn i o hop hod ((up_set hl).2 (Or.inl rfl))
     rw [hx]
     exact (sl2 dd).2 (fun j oj hj hd h9=>hn j oj hj hd ((up_set hl).2 (Or.inr h9)))
    ·cases hw:wrB qs e i k with
     | true=>
      refine Or.inl ⟨i,(up_set hl).2 (Or.inl rfl),hw,fun j hj hwj=>?_,?_⟩
      ·rcases (up_set hl).1 hj with h9|h9
       ·omega
       ·have hjlt:j < ops.size:=by rw [← hI.len]; exact (Array.getElem?_eq_some_iff.1 h9).1
        have hne:j≠i:=by rintro rfl; rw [hl] at h9; cases h9
        rcases hcan.at_w hT ho hlt hw j hne hjlt hwj with ⟨h8,_⟩|⟨_,hr⟩
        ·omega
        ·have:=reachO_done hI.shut 12 j i hr h9
         rw [hl] at this; cases this
      ·rw [u4 k hw,(uniq (i+1) (by omega)).2]
     | false=>
      rw [u5 k hw]
      rcases hmem k with ⟨j,a1,a2,a3,a4⟩|⟨a1,a2⟩
      ·refine Or.inl ⟨j,(up_set hl).2 (Or.inr a1),a2,fun x hx hwx=>?_,a4⟩
       rcases (up_set hl).1 hx with h9|h9
       ·subst h9; rw [hw] at hwx; cases hwx
       ·exact a3 x h9 hwx
      ·refine Or.inr ⟨fun x hx=>?_,a2⟩
       rcases (up_set hl).1 hx with h9|h9
       ·subst h9; exact hw
       ·exact a1 x h9)
  unfold wpOp
  rw [hop]
  simp only [want_eq]
  cases hw:wantL ops t o with
  | true=>rw [if_pos rfl]; exact Or.inl (key.1 hw)
  | false=>rw [if_neg (by decide)]; exact key.2 hw
 ·
  rintro l a W1 ⟨pk1,t,G,rfl,hI⟩ hr
  have hup:∀ i,i < ops.size→l[i]? = some true:=all_up hI.len (by
   unfold backB
   rw [List.all_eq_true]
   intro k hk
   rw [List.mem_range] at hk
   rw [show ops[k]? = some ops[k] by simp [hk]]
   simp only [Array.all_eq_true',Bool.or_eq_true,Bool.not_eq_true',decide_eq_true_eq]
   intro x hx
   cases hb:Region.binds .any x with
   | false=>exact Or.inl rfl
   | true=>exact Or.inr (ho.back k ops[k] (by simp [hk]) x hx hb)) hr
  obtain ⟨Ls,Ss,vs,c1,c2,_,_⟩:=all pk1 hI.agr
  obtain ⟨⟨sl1,sl2⟩,hmem⟩:=hI.all pk1 Ls Ss vs (CAgr.refl _ _) c1
  obtain ⟨k1,k2⟩:=can_slot c1 ho ops.size (Nat.le_refl _)
  have ht:t = Ls ops.size:=by
   apply List.ext_getElem?
   intro d
   by_cases hw:∃ (j:Nat) (o':Oper),ops[j]? = some o'∧o'.dst = some d
   ·obtain ⟨j,o',hj,hd⟩:=hw
    have hjl:=(Array.getElem?_eq_some_iff.1 hj).1
    rw [(sl2 d).1 j o' hj hd (hup j hjl),(k2 d).1 j o' hj hd hjl]
   ·rw [(sl2 d).2 (fun x y h1 h2=>absurd ⟨x,y,h1,h2⟩ hw),(k2 d).2 (fun x y h1 h2=>absurd ⟨x,y,h1,h2⟩ hw)]
  have hH:∀ k,lookH (Ss ops.size).H k = lookH G k:=fun k=>by
   rcases hmem k with ⟨j,a1,a2,a3,a4⟩|⟨a1,a2⟩
   ·have hjl:j < ops.size:=by rw [← hI.len]; exact (Array.getElem?_eq_some_iff.1 a1).1
    rw [a4]
    refine c1.frame hT ho ops.size (j+1) (by omega) (Nat.le_refl _) (fun x h1 h2=>?_)
    cases hx:wrB qs e x k with
    | false=>rfl
    | true=>have:=a3 x (hup x h2) hx; omega
   ·rw [a2]
    exact c1.frame hT ho ops.size 0 (Nat.zero_le _) (Nat.le_refl _) (fun x _ h2=>a1 x (hup x h2))
  subst ht
  refine hQ pk1 _ _ W1 hI.agr c2 ((hI.rel.same hH).mono (fun k hk=>?_))
  rcases hk with hk|⟨i,hi,h1,h2⟩
  ·exact Or.inl hk
  ·have hil:i < ops.size:=by rw [← hI.len]; exact (Array.getElem?_eq_some_iff.1 hi).1
   refine Or.inr ⟨?_,?_⟩
   ·have:=mono i 0 (Nat.zero_le _) (by omega); omega
   ·rw [c1.num ho (Nat.le_refl _)]
    have:=mono ops.size (i+1) (by omega) (Nat.le_refl _); omega
 ·rw [Array.toList_replicate]
  simp
 ·refine ⟨CAgr.refl _ _,by simp,fun k o hk=>?_,?_,fun pk' Ls Ss vs _ hcan=>⟨⟨rfl,fun d=>⟨fun j o _ _ hj=>?_,fun _=>rfl⟩⟩,fun k=>Or.inr ⟨fun i hi=>?_,by rw [hcan.s0]⟩⟩⟩
  ·exfalso
   rw [Array.getElem?_replicate] at hk
   split at hk <;> simp at hk
  ·exact hR.drew.mono (fun k hk=>Or.inl hk)
  ·exfalso
   rw [Array.getElem?_replicate] at hj
   split at hj <;> simp at hj
  ·exfalso
   rw [Array.getElem?_replicate] at hi
   split at hi <;> simp at hi
inductive Ex where
 | normal
 | exit (id:Nat)
 | ret
 | goto (l:Nat)
def Ex.out:Ex→Exit
 | .normal=>.normal
 | .exit id=>.exit id
 | .ret=>.ret
 | .goto l=>.goto l
def scopeR (P:Program) (c:Code) (Q:Exit→Act→World→Prop):Nat→Code→Act→World→Prop
 | 0,_,_,_=>False
 | n+1,d,a,w=>d.wp P (fun e a w=>match e with
  | .goto l=>∃ rest,findLabel c l = some rest∧scopeR P c Q n rest a w
  | e=>Q e a w) a w
theorem wp_scope_rounds {P:Program} {Q:Exit→Act→World→Prop} {a:Act} {w:World} {c:Code} (n:Nat) (h:scopeR P c Q n c a w):(Code.scope c).wp P Q a w:=by
 intro b k cs
 have key:∀ n d a w,scopeR P c Q n d a w→∃ e a' w',Q e a' w'∧Arrives P (lone (b.at a (.code d :: .inScope c :: k)) cs w) b k cs e a' w':=by
  intro n
  induction n with
  | zero=>intro d a w h; exact h.elim
  | succ n ih=>
   intro d a w h
   obtain ⟨e,a₁,w₁,hq,harr⟩:=h b (.inScope c :: k) cs
   cases e with
   | normal=>exact ⟨.normal,a₁,w₁,hq,Steps.trans harr (.one step_inScope)⟩
   | exit id=>exact ⟨.exit id,a₁,w₁,hq,fun k' hk=>harr k' (by simp [exitTo,hk])⟩
   | goto l=>
    obtain ⟨rest,hf,hr⟩:=hq
    have hg:gotoIn l (.inScope c :: k) = some (.code rest :: .inScope c :: k):=by simp [gotoIn,hf]
    obtain ⟨e₂,a₂,w₂,hq₂,harr₂⟩:=ih rest a₁ w₁ hr
    exact ⟨e₂,a₂,w₂,hq₂,.of_steps (harr _ hg) harr₂⟩
   | ret=>exact ⟨_,a₁,w₁,hq,harr⟩
   | panic ch=>exact ⟨_,a₁,w₁,hq,harr⟩
   | outgrown=>exact ⟨_,a₁,w₁,hq,harr⟩
 obtain ⟨e,a',w',hq,harr⟩:=key n c a w h
 exact ⟨e,a',w',hq,.of_steps (.one step_scope) harr⟩
def scGo (ev:Code→List Value→CSt→Option ((Ex×List Value)×CSt)) (c:Code):Nat→Code→List Value→CSt→Option ((Ex×List Value)×CSt)
 | 0,_,_,_=>none
 | r+1,d,L,s=>andO (ev d L s) fun x s=>match x.1 with
  | .goto l=>match findLabel c l with
   | some rest=>scGo ev c r rest x.2 s
   | none=>none
  | .normal=>some ((.normal,x.2),s)
  | .exit id=>some ((.exit id,x.2),s)
  | .ret=>some ((.ret,x.2),s)
theorem scGo_tame {ev:CPk→Code→List Value→CSt→Option ((Ex×List Value)×CSt)} (h:∀ d L,Tame fun pk s=>ev pk d L s) (c:Code):∀ (r:Nat) (d:Code) (L:List Value),Tame fun pk s=>scGo (ev pk) c r d L s
 | 0,_,_=>Tame.fail
 | r+1,d,L=>by
  refine Tame.bind (h d L) (fun x=>?_)
  obtain ⟨x,L'⟩:=x
  cases x with
  | goto l=>
   simp only
   cases findLabel c l with
   | none=>exact Tame.fail
   | some rest=>exact scGo_tame h c r rest L'
  | normal=>exact Tame.pure _
  | exit id=>exact Tame.pure _
  | ret=>exact Tame.pure _
def rgev (P:Program) (pk:CPk) (call:Cal) (ops:Array Oper) (draw:Bool) (L:List Value) (s:CSt):Option (List Value×CSt):=match draw with
 | false=>opsev P pk call ops ops.toList L s
 | true=>match s with
  | ⟨H,n,.reg e qs :: tr,em⟩=>match ordB ops qs e L.length with
   | true=>regev P pk call ops ops.toList qs e L ⟨H,n,tr,em⟩
   | false=>none
  | _=>none
theorem rgev_tame {P:Program} {call:Cal} (h:Tames call) (ops:Array Oper) (draw:Bool) (L:List Value):Tame fun pk s=>rgev P pk call ops draw L s:=by
 cases draw with
 | false=>exact opsev_tame h ops _ L
 | true=>
  refine ⟨fun pk s x s' hx=>?_,fun pk s x s' hx pk' hp=>?_⟩
  ·simp only [rgev] at hx
   split at hx
   ·rename_i H n e qs tr em0
    split at hx
    ·rename_i hb
     obtain ⟨d,h1,h2,h3,h4⟩:=(regev_tame (P:=P) h ops e ops.toList qs L).go pk _ _ _ hx
     refine ⟨d,h1,h2,h3,fun pk' G em hp hG=>?_⟩
     obtain ⟨G',g1,g2⟩:=h4 pk' G em hp hG
     exact ⟨G',by simp only [rgev,hb]; exact g1,g2⟩
    ·cases hx
   ·cases hx
  ·simp only [rgev] at hx ⊢
   split at hx
   ·rename_i H n e qs tr em0
    split at hx
    ·exact (regev_tame (P:=P) h ops e ops.toList qs L).same pk _ _ _ hx pk' hp
    ·cases hx
   ·cases hx
def cev (P:Program) (pk:CPk) (call:Cal):Nat→Code→List Value→CSt→Option ((Ex×List Value)×CSt)
 | 0,_,_,_=>none
 | _+1,.skip,L,s=>some ((.normal,L),s)
 | _+1,.label _,L,s=>some ((.normal,L),s)
 | _+1,.region _ ops draw,L,s=>andO (rgev P pk call ops draw L s) fun L s=>some ((.normal,L),s)
 | n+1,.seq a b,L,s=>andO (cev P pk call n a L s) fun x s=>match x.1 with
  | .normal=>cev P pk call n b x.2 s
  | .exit id=>some ((.exit id,x.2),s)
  | .ret=>some ((.ret,x.2),s)
  | .goto l=>some ((.goto l,x.2),s)
 | n+1,.cond c a b,L,s=>match evalL L c with
  | .bool true=>cev P pk call n a L s
  | .bool false=>cev P pk call n b L s
  | _=>none
 | n+1,.block id b,L,s=>andO (cev P pk call n b L s) fun x s=>match x.1 with
  | .exit i=>match Nat.beq i id with
   | true=>some ((.normal,x.2),s)
   | false=>some ((.exit i,x.2),s)
  | .normal=>some ((.normal,x.2),s)
  | .ret=>some ((.ret,x.2),s)
  | .goto l=>some ((.goto l,x.2),s)
 | n+1,.loop b,L,s=>andO (cev P pk call n b L s) fun x s=>match x.1 with
  | .normal=>cev P pk call n (.loop b) x.2 s
  | .exit id=>some ((.exit id,x.2),s)
  | .ret=>some ((.ret,x.2),s)
  | .goto l=>some ((.goto l,x.2),s)
 | n+1,.scope b,L,s=>scGo (fun d L s=>cev P pk call n d L s) b n b L s
 | _+1,.exit id,L,s=>some ((.exit id,L),s)
 | _+1,.goto l,L,s=>some ((.goto l,L),s)
 | _+1,.ret,L,s=>some ((.ret,L),s)
 | _+1,_,_,_=>none
theorem cev_tame {P:Program} {call:Cal} (h:Tames call):∀ (n:Nat) (c:Code) (L:List Value),Tame fun pk s=>cev P pk call n c L s
 | 0,_,_=>Tame.fail
 | n+1,c,L=>by
  cases c with
  | skip=>exact Tame.pure _
  | label l=>exact Tame.pure _
  | region id ops draw=>exact Tame.bind (rgev_tame h ops draw L) (fun x=>Tame.pure _)
  | seq a b=>
   refine Tame.bind (cev_tame h n a L) (fun x=>?_)
   obtain ⟨x,L'⟩:=x
   cases x with
   | normal=>exact cev_tame h n b L'
   | exit id=>exact Tame.pure _
   | ret=>exact Tame.pure _
   | goto l=>exact Tame.pure _
  | cond c a b=>
   show Tame fun pk s=>match evalL L c with
    | .bool true=>cev P pk call n a L s
    | .bool false=>cev P pk call n b L s
    | _=>none
   cases evalL L c with
   | bool t=>cases t <;> exact cev_tame h n _ L
   | _=>exact Tame.fail
  | block id b=>
   refine Tame.bind (cev_tame h n b L) (fun x=>?_)
   obtain ⟨x,L'⟩:=x
   cases x with
   | normal=>exact Tame.pure _
   | exit i=>
    simp only
    cases Nat.beq i id <;> exact Tame.pure _
   | ret=>exact Tame.pure _
   | goto l=>exact Tame.pure _
  | loop b=>
   refine Tame.bind (cev_tame h n b L) (fun x=>?_)
   obtain ⟨x,L'⟩:=x
   cases x with
   | normal=>exact cev_tame h n (.loop b) L'
   | exit id=>exact Tame.pure _
   | ret=>exact Tame.pure _
   | goto l=>exact Tame.pure _
  | scope b=>exact scGo_tame (ev:=fun pk d L s=>cev P pk call n d L s) (fun d L=>cev_tame h n d L) b n b L
  | exit id=>exact Tame.pure _
  | goto l=>exact Tame.pure _
  | ret=>exact Tame.pure _
  | _=>exact Tame.fail
def CodeOk (P:Program) (w0:World) (call:Cal) (n:Nat) (c:Code):Prop:=∀ (L:List Value) (pk:CPk) (D:Nat→Prop) (N:Nat) (s:CSt) (W:World),Rel pk D s.H w0 W→(∀ k,s.n≤k→k < N→¬ D k)→Gd (fun pk s=>cev P pk call n c L s) pk D N s →
 c.wp P (fun e a W'=>∃ pk' x L' s',CAgr D pk pk'∧cev P pk' call n c L s = some ((x,L'),s')∧e = x.out∧a = ⟨L'.toArray,[]⟩∧Rel pk' (Dn D s.n s'.n) s'.H w0 W') ⟨L.toArray,[]⟩ W
theorem code_two {P:Program} {w0:World} {call:Cal} (hT:Tames call) {n m:Nat} {a c:Code} {f:Ex×List Value→CPk→CSt→Option ((Ex×List Value)×CSt)} (hf:∀ x,Tame (f x)) {L:List Value} {pk:CPk} {D:Nat→Prop} {N:Nat} {s:CSt} {W:World} (hA:CodeOk P w0 call n a) (hR:Rel pk D s.H w0 W) (hD:∀ k,s.n≤k→k < N→¬ D k)
  (he:∀ pk s,cev P pk call m c L s = andO (cev P pk call n a L s) fun x s=>f x pk s) (hG:Gd (fun pk s=>cev P pk call m c L s) pk D N s) {Q:Exit→Act→World→Prop}
  (hk:∀ pk1 x L1 s1 W1,CAgr D pk pk1→Rel pk1 (Dn D s.n s1.n) s1.H w0 W1→(∀ k,s1.n≤k→k < N→¬ Dn D s.n s1.n k)→Gd (f (x,L1)) pk1 (Dn D s.n s1.n) N s1 →
   (∀ pk2 y s2 W2,CAgr (Dn D s.n s1.n) pk1 pk2→f (x,L1) pk2 s1 = some (y,s2)→Rel pk2 (Dn (Dn D s.n s1.n) s1.n s2.n) s2.H w0 W2→CAgr D pk pk2∧cev P pk2 call m c L s = some (y,s2)∧Rel pk2 (Dn D s.n s2.n) s2.H w0 W2)→Q x.out ⟨L1.toArray,[]⟩ W1):a.wp P Q ⟨L.toArray,[]⟩ W:=by
 have hG':Gd (fun pk s=>andO (cev P pk call n a L s) fun x s=>f x pk s) pk D N s:=fun pk' hp=>by
  obtain ⟨x,s',h,q⟩:=hG pk' hp
  exact ⟨x,s',(he pk' s).symm.trans h,q⟩
 have hcT:=cev_tame (P:=P) hT n a L
 refine wp_mono (hA L pk D N s W hR hD (hG'.first hf)) ?_
 rintro e act W1 ⟨pk1,x,L1,s1,a1,a2,rfl,rfl,a5⟩
 obtain ⟨_,_,hle,_⟩:=hcT.go pk1 s (x,L1) s1 a2
 refine hk pk1 x L1 s1 W1 a1 a5 (Dn.free hD hle) (hG'.next hcT a1 a2) (fun pk2 y s2 W2 b1 b2 b3=>?_)
 obtain ⟨_,_,hle2,_⟩:=(hf (x,L1)).go pk2 s1 y s2 b2
 refine ⟨a1.trans b1 Dn.self,?_,b3.mono (fun k=>Dn.join hle hle2 k)⟩
 rw [he]
 have:=hcT.same pk1 s (x,L1) s1 a2 pk2 (fun i d1 d2=>b1 i (Or.inr ⟨d1,d2⟩))
 simp only [this,andO]; exact b2
theorem loop_ok {P:Program} {w0:World} {call:Cal} (hT:Tames call) {b:Code}:∀ (n:Nat) (_:∀ m,m < n→CodeOk P w0 call m b) (L:List Value) (pk:CPk) (D:Nat→Prop) (N:Nat) (s:CSt) (W:World),Rel pk D s.H w0 W→(∀ k,s.n≤k→k < N→¬ D k)→Gd (fun pk s=>cev P pk call n (.loop b) L s) pk D N s →
  ∀ Q:Exit→Act→World→Prop,(∀ pk' x L' s' W',CAgr D pk pk'→cev P pk' call n (.loop b) L s = some ((x,L'),s')→Rel pk' (Dn D s.n s'.n) s'.H w0 W'→x.out≠.normal→Q x.out ⟨L'.toArray,[]⟩ W')→Code.rounds P b Q n ⟨L.toArray,[]⟩ W
 | 0,_,L,pk,D,N,s,W,_,_,hG,Q,_=>by obtain ⟨_,_,h,_⟩:=hG pk (CAgr.refl _ _); simp [cev] at h
 | n+1,hb,L,pk,D,N,s,W,hR,hD,hG,Q,hQ=>by
  have hf:∀ x:Ex×List Value,Tame fun pk s=>(match x.1 with|.normal=>cev P pk call n (.loop b) x.2 s|.exit id=>some ((.exit id,x.2),s)|.ret=>some ((.ret,x.2),s)|.goto l=>some ((.goto l,x.2),s):Option ((Ex×List Value)×CSt)):=fun x=>by
   obtain ⟨x,L'⟩:=x
   cases x with
   | normal=>exact cev_tame hT n (.loop b) L'
   | exit id=>exact Tame.pure _
   | ret=>exact Tame.pure _
   | goto l=>exact Tame.pure _
  rw [rounds_succ]
  refine code_two hT hf (hb n (Nat.lt_succ_self n)) hR hD (fun _ _=>rfl) hG (fun pk1 x L1 s1 W1 a1 a2 a3 a4 a5=>?_)
  cases x with
  | normal=>
   refine loop_ok hT n (fun m hm=>hb m (by omega)) L1 pk1 _ N s1 W1 a2 a3 a4 Q (fun pk2 x2 L2 s2 W2 b1 b2 b3 b4=>?_)
   obtain ⟨c1,c2,c3⟩:=a5 pk2 (x2,L2) s2 W2 b1 b2 b3
   exact hQ pk2 x2 L2 s2 W2 c1 c2 c3 b4
  | exit id=>
   obtain ⟨c1,c2,c3⟩:=a5 pk1 (.exit id,L1) s1 W1 (CAgr.refl _ _) rfl (a2.mono Dn.self)
   exact hQ pk1 (.exit id) L1 s1 W1 c1 c2 c3 (by simp [Ex.out])
  | ret=>
   obtain ⟨c1,c2,c3⟩:=a5 pk1 (.ret,L1) s1 W1 (CAgr.refl _ _) rfl (a2.mono Dn.self)
   exact hQ pk1 .ret L1 s1 W1 c1 c2 c3 (by simp [Ex.out])
  | goto l=>
   obtain ⟨c1,c2,c3⟩:=a5 pk1 (.goto l,L1) s1 W1 (CAgr.refl _ _) rfl (a2.mono Dn.self)
   exact hQ pk1 (.goto l) L1 s1 W1 c1 c2 c3 (by simp [Ex.out])
theorem scope_ok {P:Program} {w0:World} {call:Cal} (hT:Tames call) {c:Code} (n:Nat) (hA:∀ d,CodeOk P w0 call n d):∀ (r:Nat) (d:Code) (L:List Value) (pk:CPk) (D:Nat→Prop) (N:Nat) (s:CSt) (W:World),Rel pk D s.H w0 W→(∀ k,s.n≤k→k < N→¬ D k)→Gd (fun pk s=>scGo (fun d L s=>cev P pk call n d L s) c r d L s) pk D N s →
  ∀ Q:Exit→Act→World→Prop,(∀ pk' x L' s' W',CAgr D pk pk'→scGo (fun d L s=>cev P pk' call n d L s) c r d L s = some ((x,L'),s')→Rel pk' (Dn D s.n s'.n) s'.H w0 W'→Q x.out ⟨L'.toArray,[]⟩ W')→scopeR P c Q r d ⟨L.toArray,[]⟩ W
 | 0,d,L,pk,D,N,s,W,_,_,hG,Q,_=>by obtain ⟨_,_,h,_⟩:=hG pk (CAgr.refl _ _); simp [scGo] at h
 | r+1,d,L,pk,D,N,s,W,hR,hD,hG,Q,hQ=>by
  let f:Ex×List Value→CPk→CSt→Option ((Ex×List Value)×CSt):=fun x pk s=>match x.1 with
   | .goto l=>match findLabel c l with
    | some rest=>scGo (fun d L s=>cev P pk call n d L s) c r rest x.2 s
    | none=>none
   | .normal=>some ((.normal,x.2),s)
   | .exit id=>some ((.exit id,x.2),s)
   | .ret=>some ((.ret,x.2),s)
  have hf:∀ x,Tame (f x):=fun x=>by
   obtain ⟨x,L'⟩:=x
   cases x with
   | goto l=>
    show Tame fun pk s=>match findLabel c l with
     | some rest=>scGo (fun d L s=>cev P pk call n d L s) c r rest L' s
     | none=>none
    cases findLabel c l with
    | none=>exact Tame.fail
    | some rest=>exact scGo_tame (ev:=fun pk d L s=>cev P pk call n d L s) (fun d L=>cev_tame hT n d L) c r rest L'
   | normal=>exact Tame.pure _
   | exit id=>exact Tame.pure _
   | ret=>exact Tame.pure _
  have hG':Gd (fun pk s=>andO (cev P pk call n d L s) fun x s=>f x pk s) pk D N s:=hG
  have hcT:=cev_tame (P:=P) hT n d L
  refine wp_mono (hA d L pk D N s W hR hD (hG'.first hf)) ?_
  rintro e act W1 ⟨pk1,x,L1,s1,a1,a2,rfl,rfl,a5⟩
  obtain ⟨_,_,hle,_⟩:=hcT.go pk1 s (x,L1) s1 a2
  have hN:=hG'.next hcT a1 a2
  have back:∀ pk2 y s2 W2,CAgr (Dn D s.n s1.n) pk1 pk2→f (x,L1) pk2 s1 = some (y,s2)→Rel pk2 (Dn (Dn D s.n s1.n) s1.n s2.n) s2.H w0 W2→CAgr D pk pk2∧scGo (fun d L s=>cev P pk2 call n d L s) c (r+1) d L s = some (y,s2)∧Rel pk2 (Dn D s.n s2.n) s2.H w0 W2:=fun pk2 y s2 W2 b1 b2 b3=>by
   obtain ⟨_,_,hle2,_⟩:=(hf (x,L1)).go pk2 s1 y s2 b2
   refine ⟨a1.trans b1 Dn.self,?_,b3.mono (fun k=>Dn.join hle hle2 k)⟩
   have:=hcT.same pk1 s (x,L1) s1 a2 pk2 (fun i d1 d2=>b1 i (Or.inr ⟨d1,d2⟩))
   show andO (cev P pk2 call n d L s) (fun x s=>f x pk2 s) = _
   simp only [this,andO]; exact b2
  cases x with
  | goto l=>
   cases hl:findLabel c l with
   | none=>obtain ⟨_,_,h,_⟩:=hN pk1 (CAgr.refl _ _); simp only [f,hl] at h; cases h
   | some rest=>
    refine ⟨rest,hl,scope_ok hT n hA r rest L1 pk1 _ N s1 W1 a5 (Dn.free hD hle) (fun pk' hp=>?_) Q (fun pk2 x2 L2 s2 W2 b1 b2 b3=>?_)⟩
    ·obtain ⟨y,s',hy,q⟩:=hN pk' hp
     simp only [f,hl] at hy
     exact ⟨y,s',hy,q⟩
    ·obtain ⟨c1,c2,c3⟩:=back pk2 (x2,L2) s2 W2 b1 (by simp only [f,hl]; exact b2) b3
     exact hQ pk2 x2 L2 s2 W2 c1 c2 c3
  | normal=>
   obtain ⟨c1,c2,c3⟩:=back pk1 (.normal,L1) s1 W1 (CAgr.refl _ _) rfl (a5.mono Dn.self)
   exact hQ pk1 .normal L1 s1 W1 c1 c2 c3
  | exit id=>
   obtain ⟨c1,c2,c3⟩:=back pk1 (.exit id,L1) s1 W1 (CAgr.refl _ _) rfl (a5.mono Dn.self)
   exact hQ pk1 (.exit id) L1 s1 W1 c1 c2 c3
  | ret=>
   obtain ⟨c1,c2,c3⟩:=back pk1 (.ret,L1) s1 W1 (CAgr.refl _ _) rfl (a5.mono Dn.self)
   exact hQ pk1 .ret L1 s1 W1 c1 c2 c3
theorem cev_ok {P:Program} {w0:World} {call:Cal} (hm:P.follows .mixedOrders = true) (hc:CallOk P w0 call) (hT:Tames call) (n:Nat):∀ c:Code,CodeOk P w0 call n c:=by
 induction n using Nat.strongRecOn with
 | ind n ih=>cases n with
 | zero=>intro c L pk D N s W _ _ hG; obtain ⟨_,_,h,_⟩:=hG pk (CAgr.refl _ _); simp [cev] at h
 | succ n=>
  intro c L pk D N s W hR hD hG
  cases c with
  | skip=>exact wp_skip ⟨pk,.normal,L,s,CAgr.refl _ _,rfl,rfl,rfl,hR.mono Dn.self⟩
  | label l=>exact wp_label ⟨pk,.normal,L,s,CAgr.refl _ _,rfl,rfl,rfl,hR.mono Dn.self⟩
  | exit id=>exact wp_exit ⟨pk,.exit id,L,s,CAgr.refl _ _,rfl,rfl,rfl,hR.mono Dn.self⟩
  | ret=>exact wp_ret ⟨pk,.ret,L,s,CAgr.refl _ _,rfl,rfl,rfl,hR.mono Dn.self⟩
  | goto l=>exact wp_goto ⟨pk,.goto l,L,s,CAgr.refl _ _,rfl,rfl,rfl,hR.mono Dn.self⟩
  | region id ops draw=>
   have hG1:Gd (fun pk s=>rgev P pk call ops draw L s) pk D N s:=Gd.first (f:=fun L _ s=>some ((Ex.normal,L),s)) (fun x=>Tame.pure (Ex.normal,x)) hG
   have fin:∀ pk' L' s' W',CAgr D pk pk'→rgev P pk' call ops draw L s = some (L',s')→Rel pk' (Dn D s.n s'.n) s'.H w0 W'→∃ pk'' x L'' s'',CAgr D pk pk''∧cev P pk'' call (n+1) (.region id ops draw) L s = some ((x,L''),s'')∧Exit.normal = x.out∧(⟨L'.toArray,[]⟩:Act) = ⟨L''.toArray,[]⟩∧Rel pk'' (Dn D s.n s''.n) s''.H w0 W':=fun pk' L' s' W' a1 a2 a3=>
    ⟨pk',.normal,L',s',a1,by simp only [cev,a2,andO],rfl,rfl,a3⟩
   cases draw with
   | false=>exact wp_region_list (opsev_wp hc hT ops.toList L pk D N s W hR hD hG1 fin)
   | true=>
    obtain ⟨y,s',hy,_⟩:=hG1 pk (CAgr.refl _ _)
    simp only [rgev] at hy
    split at hy
    ·rename_i H n0 e qs tr em0
     split at hy
     ·rename_i hb
      refine regev_wp (s:=⟨H,n0,tr,em0⟩) hm hc hT hR hD hb (fun pk' hp=>?_) (fun pk' L' s' W' a1 a2 a3=>fin pk' L' s' W' a1 ?_ a3)
      ·obtain ⟨y,s',hy,r⟩:=hG1 pk' hp
       simp only [rgev,hb] at hy
       exact ⟨y,s',hy,r⟩
      ·simp only [rgev,hb]; exact a2
     ·cases hy
    ·cases hy
  | seq a b=>
   have hf:∀ x:Ex×List Value,Tame fun pk s=>(match x.1 with|.normal=>cev P pk call n b x.2 s|.exit id=>some ((.exit id,x.2),s)|.ret=>some ((.ret,x.2),s)|.goto l=>some ((.goto l,x.2),s):Option ((Ex×List Value)×CSt)):=fun x=>by
    obtain ⟨x,L'⟩:=x
    cases x with
    | normal=>exact cev_tame hT n b L'
    | exit id=>exact Tame.pure _
    | ret=>exact Tame.pure _
    | goto l=>exact Tame.pure _
   refine wp_seq (code_two hT hf (ih n (Nat.lt_succ_self n) a) hR hD (fun _ _=>rfl) hG (fun pk1 x L1 s1 W1 a1 a2 a3 a4 a5=>?_))
   cases x with
   | normal=>
    refine wp_mono (ih n (Nat.lt_succ_self n) b L1 pk1 _ N s1 W1 a2 a3 a4) ?_
    rintro e act W2 ⟨pk2,x2,L2,s2,b1,b2,rfl,rfl,b5⟩
    obtain ⟨c1,c2,c3⟩:=a5 pk2 (x2,L2) s2 W2 b1 b2 b5
    exact ⟨pk2,x2,L2,s2,c1,c2,rfl,rfl,c3⟩
   | exit id=>
    obtain ⟨c1,c2,c3⟩:=a5 pk1 (.exit id,L1) s1 W1 (CAgr.refl _ _) rfl (a2.mono Dn.self)
    exact ⟨pk1,.exit id,L1,s1,c1,c2,rfl,rfl,c3⟩
   | ret=>
    obtain ⟨c1,c2,c3⟩:=a5 pk1 (.ret,L1) s1 W1 (CAgr.refl _ _) rfl (a2.mono Dn.self)
    exact ⟨pk1,.ret,L1,s1,c1,c2,rfl,rfl,c3⟩
   | goto l=>
    obtain ⟨c1,c2,c3⟩:=a5 pk1 (.goto l,L1) s1 W1 (CAgr.refl _ _) rfl (a2.mono Dn.self)
    exact ⟨pk1,.goto l,L1,s1,c1,c2,rfl,rfl,c3⟩
  | cond c a b=>
   have hev:Act.eval ⟨L.toArray,[]⟩ c = evalL L c:=by rw [eval_eq]
   cases hv:evalL L c with
   | bool t=>
    rw [hv] at hev
    cases t with
    | true=>
     refine wp_cond_true hev (wp_mono (ih n (Nat.lt_succ_self n) a L pk D N s W hR hD (fun pk' hp=>?_)) ?_)
     ·obtain ⟨y,s',hy,r⟩:=hG pk' hp
      simp only [cev,hv] at hy
      exact ⟨y,s',hy,r⟩
     ·rintro e act W2 ⟨pk2,x2,L2,s2,b1,b2,rfl,rfl,b5⟩
      exact ⟨pk2,x2,L2,s2,b1,by simp only [cev,hv]; exact b2,rfl,rfl,b5⟩
    | false=>
     refine wp_cond_false hev (wp_mono (ih n (Nat.lt_succ_self n) b L pk D N s W hR hD (fun pk' hp=>?_)) ?_)
     ·obtain ⟨y,s',hy,r⟩:=hG pk' hp
      simp only [cev,hv] at hy
      exact ⟨y,s',hy,r⟩
     ·rintro e act W2 ⟨pk2,x2,L2,s2,b1,b2,rfl,rfl,b5⟩
      exact ⟨pk2,x2,L2,s2,b1,by simp only [cev,hv]; exact b2,rfl,rfl,b5⟩
   | _=>obtain ⟨_,_,h,_⟩:=hG pk (CAgr.refl _ _); simp [cev,hv] at h
  | block id b=>
   have hf:∀ x:Ex×List Value,Tame fun pk s=>(match x.1 with|.exit i=>(match Nat.beq i id with|true=>some ((.normal,x.2),s)|false=>some ((.exit i,x.2),s))|.normal=>some ((.normal,x.2),s)|.ret=>some ((.ret,x.2),s)|.goto l=>some ((.goto l,x.2),s):Option ((Ex×List Value)×CSt)):=fun x=>by
    obtain ⟨x,L'⟩:=x
    cases x with
    | normal=>exact Tame.pure _
    | exit i=>simp only; cases Nat.beq i id <;> exact Tame.pure _
    | ret=>exact Tame.pure _
    | goto l=>exact Tame.pure _
   refine wp_block (code_two hT hf (ih n (Nat.lt_succ_self n) b) hR hD (fun _ _=>rfl) hG (fun pk1 x L1 s1 W1 a1 a2 a3 a4 a5=>?_))
   cases x with
   | normal=>
    obtain ⟨c1,c2,c3⟩:=a5 pk1 (.normal,L1) s1 W1 (CAgr.refl _ _) rfl (a2.mono Dn.self)
    exact ⟨pk1,.normal,L1,s1,c1,c2,rfl,rfl,c3⟩
   | ret=>
    obtain ⟨c1,c2,c3⟩:=a5 pk1 (.ret,L1) s1 W1 (CAgr.refl _ _) rfl (a2.mono Dn.self)
    exact ⟨pk1,.ret,L1,s1,c1,c2,rfl,rfl,c3⟩
   | goto l=>
    obtain ⟨c1,c2,c3⟩:=a5 pk1 (.goto l,L1) s1 W1 (CAgr.refl _ _) rfl (a2.mono Dn.self)
    exact ⟨pk1,.goto l,L1,s1,c1,c2,rfl,rfl,c3⟩
   | exit i=>
    simp only [Ex.out,Exit.inBlock]
    cases hb:Nat.beq i id with
    | true=>
     obtain rfl:=Nat.eq_of_beq_eq_true hb
     obtain ⟨c1,c2,c3⟩:=a5 pk1 (.normal,L1) s1 W1 (CAgr.refl _ _) (by simp only [hb]) (a2.mono Dn.self)
     rw [if_pos rfl]
     exact ⟨pk1,.normal,L1,s1,c1,c2,rfl,rfl,c3⟩
    | false=>
     obtain ⟨c1,c2,c3⟩:=a5 pk1 (.exit i,L1) s1 W1 (CAgr.refl _ _) (by simp only [hb]) (a2.mono Dn.self)
     rw [if_neg (by rintro rfl; rw [Nat.beq_refl] at hb; cases hb)]
     exact ⟨pk1,.exit i,L1,s1,c1,c2,rfl,rfl,c3⟩
  | scope b=>
   refine wp_scope_rounds n (scope_ok hT n (ih n (Nat.lt_succ_self n)) n b L pk D N s W hR hD hG _ (fun pk' x L' s' W' a1 a2 a3=>⟨pk',x,L',s',a1,a2,rfl,rfl,a3⟩))
  | loop b=>
   refine wp_loop_rounds (n+1) (loop_ok hT (n+1) (fun m hm'=>ih m hm' b) L pk D N s W hR hD hG _ (fun pk' x L' s' W' a1 a2 a3 _=>⟨pk',x,L',s',a1,a2,rfl,rfl,a3⟩))
  | _=>obtain ⟨_,_,h,_⟩:=hG pk (CAgr.refl _ _); simp [cev] at h
def fev (P:Program):Nat→Cal
 | 0,_,_,_,_=>none
 | n+1,pk,f,args,s=>match nth P.funcs.toList f with
  | none=>none
  | some fn=>match fn.body with
   | none=>none
   | some c=>andO (cev P pk (fev P n) n c (args.toList ++ List.replicate (fn.ntmps - args.size) undef) s) fun x s=>match x.1 with
    | .normal=>sev P pk true (results fn x.2.toArray) s
    | .ret=>sev P pk true (results fn x.2.toArray) s
    | .exit _=>none
    | .goto _=>none
theorem fev_tame (P:Program):∀ n,Tames (fev P n)
 | 0=>fun f args=>Tame.fail
 | n+1=>fun f args=>by
  cases hf:nth P.funcs.toList f with
  | none=>
   rw [show (fun pk s=>fev P (n+1) pk f args s) = fun _ _=>none from by funext pk s; simp only [fev,hf]]
   exact Tame.fail
  | some fn=>
   cases hb:fn.body with
   | none=>
    rw [show (fun pk s=>fev P (n+1) pk f args s) = fun _ _=>none from by funext pk s; simp only [fev,hf,hb]]
    exact Tame.fail
   | some c=>
    rw [show (fun pk s=>fev P (n+1) pk f args s) = fun pk s=>andO (cev P pk (fev P n) n c (args.toList ++ List.replicate (fn.ntmps - args.size) undef) s) fun x s=>(match x.1 with
     | .normal=>sev P pk true (results fn x.2.toArray) s
     | .ret=>sev P pk true (results fn x.2.toArray) s
     | .exit _=>none
     | .goto _=>none) from by funext pk s; simp only [fev,hf,hb]]
    refine Tame.bind (cev_tame (fev_tame P n) n c _) (fun x=>?_)
    obtain ⟨x,L'⟩:=x
    cases x with
    | normal=>exact sev_tame P _ true
    | ret=>exact sev_tame P _ true
    | exit id=>exact Tame.fail
    | goto l=>exact Tame.fail
theorem fev_ok {P:Program} {w0:World} (hm:P.follows .mixedOrders = true):∀ n,CallOk P w0 (fev P n)
 | 0=>fun f args pk D N s W _ _ hG=>by obtain ⟨_,_,h,_⟩:=hG pk (CAgr.refl _ _); simp [fev] at h
 | n+1=>fun f args pk D N s W hR hD hG=>by
  have hT:=fev_tame P n
  cases hf:nth P.funcs.toList f with
  | none=>obtain ⟨_,_,h,_⟩:=hG pk (CAgr.refl _ _); simp [fev,hf] at h
  | some fn=>
   cases hb:fn.body with
   | none=>obtain ⟨_,_,h,_⟩:=hG pk (CAgr.refl _ _); simp [fev,hf,hb] at h
   | some c=>
    let g:Ex×List Value→CPk→CSt→Option (Value×CSt):=fun x pk s=>match x.1 with
     | .normal=>sev P pk true (results fn x.2.toArray) s
     | .ret=>sev P pk true (results fn x.2.toArray) s
     | .exit _=>none
     | .goto _=>none
    have he:∀ pk s,fev P (n+1) pk f args s = andO (cev P pk (fev P n) n c (args.toList ++ List.replicate (fn.ntmps - args.size) undef) s) fun x s=>g x pk s:=fun pk s=>by simp only [fev,hf,hb]; rfl
    have hgT:∀ x,Tame (g x):=fun x=>by
     obtain ⟨x,L'⟩:=x
     cases x with
     | normal=>exact sev_tame P _ true
     | ret=>exact sev_tame P _ true
     | exit id=>exact Tame.fail
     | goto l=>exact Tame.fail
    have hG':Gd (fun pk s=>andO (cev P pk (fev P n) n c (args.toList ++ List.replicate (fn.ntmps - args.size) undef) s) fun x s=>g x pk s) pk D N s:=fun pk' hp=>by
     obtain ⟨x,s',h,q⟩:=hG pk' hp
     exact ⟨x,s',(he pk' s).symm.trans h,q⟩
    have hcT:=cev_tame (P:=P) hT n c (args.toList ++ List.replicate (fn.ntmps - args.size) undef)
    rw [nth_eq,Array.getElem?_toList] at hf
    refine calls_of_wp hf hb ?_
    have hL:(⟨args ++ Array.replicate (fn.ntmps - args.size) undef,[]⟩:Act) = ⟨(args.toList ++ List.replicate (fn.ntmps - args.size) undef).toArray,[]⟩:=by
     congr 1
     apply Array.ext'
     simp
    rw [hL]
    refine wp_mono (cev_ok hm (fev_ok hm n) hT n c _ pk D N s W hR hD (hG'.first hgT)) ?_
    rintro e act W1 ⟨pk1,x,L1,s1,a1,a2,rfl,rfl,a5⟩
    obtain ⟨_,_,hle,_⟩:=hcT.go pk1 s (x,L1) s1 a2
    have hN:=hG'.next hcT a1 a2
    have fin:∀ (_:g (x,L1) = fun pk s=>sev P pk true (results fn L1.toArray) s),∃ v,(results fn L1.toArray).run P W1 = .ok v W1∧∃ pk' v' s',CAgr D pk pk'∧fev P (n+1) pk' f args s = some (v',s')∧Ending.returned v = .returned v'∧Rel pk' (Dn D s.n s'.n) s'.H w0 W1:=fun hg=>by
     rw [hg] at hN
     obtain ⟨pk2,v,s2,W2,b1,b2,b3,b4,b5⟩:=sev_does P w0 (results fn L1.toArray) true pk1 _ N s1 W1 a5 (Dn.free hD hle) hN
     obtain rfl:=b4 rfl
     obtain ⟨_,_,hle2,_⟩:=(sev_tame P (results fn L1.toArray) true).go pk2 s1 v s2 b2
     refine ⟨v,b3,pk2,v,s2,a1.trans b1 Dn.self,?_,rfl,b5.mono (fun k=>Dn.join hle hle2 k)⟩
     rw [he]
     have:=hcT.same pk1 s (x,L1) s1 a2 pk2 (fun i d1 d2=>b1 i (Or.inr ⟨d1,d2⟩))
     simp only [this,andO,hg]; exact b2
    cases x with
    | normal=>exact ⟨rfl,fin rfl⟩
    | ret=>exact ⟨rfl,fin rfl⟩
    | exit id=>obtain ⟨_,_,h,_⟩:=hN pk1 (CAgr.refl _ _); cases h
    | goto l=>obtain ⟨_,_,h,_⟩:=hN pk1 (CAgr.refl _ _); cases h
def emK:List Or→List Nat→List Nat
 | [],acc=>acc
 | .ix k :: r,acc=>emK r (k :: acc)
 | .reg _ qs :: r,acc=>emK r (qs.foldl (fun a q=>q.2.1.map (·.1) ++ a) acc)
 | .ap c j x m :: r,acc=>emK r (match c with
  | 0=>x :: acc
  | 1=>j :: x :: acc
  | _=>j :: (8589934592+j * 1048576+m) :: (8589934592+j * 1048576+m) :: x :: acc)
 | .sl j c :: r,acc=>emK r ((8589934592+j * 1048576+c) :: acc)
def bytesEq:List UInt8→List UInt8→Bool
 | [],[]=>true
 | x :: r,y :: t=>Nat.beq x.toNat y.toNat && bytesEq r t
 | _,_=>false
theorem bytesEq_eq:∀ {a b:List UInt8},bytesEq a b = true→a = b
 | [],[],_=>rfl
 | [],_ :: _,h=>by simp [bytesEq] at h
 | _ :: _,[],h=>by simp [bytesEq] at h
 | x :: r,y :: t,h=>by
  simp only [bytesEq,Bool.and_eq_true] at h
  rw [bytesEq_eq h.2,UInt8.toNat_inj.1 (Nat.eq_of_beq_eq_true h.1)]
def listEq (f:Value→Value→Bool):List Value→List Value→Bool
 | [],[]=>true
 | x :: r,y :: t=>f x y && listEq f r t
 | _,_=>false
theorem listEq_of {f:Value→Value→Bool} (h:∀ x y,f x y = true→x = y):∀ {a b:List Value},listEq f a b = true→a = b
 | [],[],_=>rfl
 | [],_ :: _,h'=>by simp [listEq] at h'
 | _ :: _,[],h'=>by simp [listEq] at h'
 | x :: r,y :: t,h'=>by
  simp only [listEq,Bool.and_eq_true] at h'
  rw [h x y h'.1,listEq_of h h'.2]
def valEq:Nat→Value→Value→Bool
 | 0,_,_=>false
 | n+1,x,y=>match x,y with
  | .bool a,.bool b=>a == b
  | .int k a,.int k' b=>k == k' && a == b
  | .float k a,.float k' b=>k == k' && Nat.beq a b
  | .string a,.string b=>bytesEq a.data.toList b.data.toList
  | .nilIface,.nilIface=>true
  | .pointer none,.pointer none=>true
  | .slice none a b,.slice none c d=>Nat.beq a c && Nat.beq b d
  | .agg a,.agg b=>listEq (valEq n) a.toList b.toList
  | .tuple a,.tuple b=>listEq (valEq n) a.toList b.toList
  | _,_=>false
theorem valEq_eq (n:Nat):∀ (x y:Value),valEq n x y = true→x = y:=by
 induction n with
 | zero=>intro x y h; cases h
 | succ n ih=>
  intro x y h
  simp only [valEq] at h
  split at h
  ·rw [beq_iff_eq] at h; rw [h]
  ·simp only [Bool.and_eq_true,beq_iff_eq] at h; rw [h.1,h.2]
  ·simp only [Bool.and_eq_true,beq_iff_eq] at h; rw [h.1,Nat.eq_of_beq_eq_true h.2]
  ·rename_i a b
   congr 1
   apply ByteArray.ext
   apply Array.ext'
   exact bytesEq_eq h
  ·rfl
  ·rfl
  ·simp only [Bool.and_eq_true] at h; rw [Nat.eq_of_beq_eq_true h.1,Nat.eq_of_beq_eq_true h.2]
  ·congr 1
   apply Array.ext'
   exact listEq_of ih h
  ·congr 1
   apply Array.ext'
   exact listEq_of ih h
  ·cases h
def outs (v:Value) (r:Option (Value×CSt)):Option (Bool×Nat×List (Nat×Nat)):=match r with
 | some (v',s)=>some (valEq 8 v' v,s.n,s.em.map fun x=>(x.1,x.2.1))
 | none=>none
def told (pk:CPk) (n:Nat) (ks:List Nat):Option (Bool×Nat×List (Nat×Nat)):=some (true,n,ks.map fun k=>(loc pk k,k))
theorem outs_good {pk:CPk} {r:Option (Value×CSt)} {v:Value} {n:Nat} {ks:List Nat} (h:outs v r = told pk n ks):∃ s,r = some (v,s)∧Good pk s.em∧s.n = n:=by
 unfold outs told at h
 split at h
 ·rename_i v' s
  simp only [Option.some.injEq,Prod.mk.injEq] at h
  obtain ⟨hv,rfl,h⟩:=h
  obtain rfl:=valEq_eq 8 _ _ hv
  refine ⟨s,rfl,fun b k w hb=>?_,rfl⟩
  have:(b,k)∈s.em.map fun x=>(x.1,x.2.1):=List.mem_map.2 ⟨(b,k,w),hb,rfl⟩
  rw [h] at this
  obtain ⟨k',_,he⟩:=List.mem_map.1 this
  simp only [Prod.mk.injEq] at he
  rw [← he.1,he.2]
 ·cases h
theorem lookG_mem:∀ {gl:List (Nat×Obj)} {k:Nat} {o:Obj},lookG gl k = some o→(k,o)∈gl
 | [],_,_,h=>by cases h
 | (g,o') :: r,k,o,h=>by
  simp only [lookG] at h
  split at h
  ·rename_i hb
   obtain rfl:=Nat.eq_of_beq_eq_true hb
   cases h
   exact List.mem_cons_self ..
  ·exact List.mem_cons_of_mem _ (lookG_mem h)
theorem closed {P:Program} (hm:P.follows .mixedOrders = true) (n:Nat) (f:FuncId) (args:Array Value) (gl:List (Nat×Obj)) (tr:List Or) (v:Value) (N:Nat) (h:∀ pk,outs v (fev P n pk f args ⟨⟨[],gl⟩,0,tr,[]⟩) = told pk N (emK tr [])) (W:World) (hW:∀ g o,(g,o)∈gl→∃ o',W.heap[g]? = some o'∧∀ a x,ldO a o = some x→ldO a o' = some x) :
  Calls P f args W fun e W'=>e = .returned v∧Below W.heap.size W W':=by
 have hl:∀ k o,lookH ⟨[],gl⟩ k = some o→4294967296≤k∧∃ o',W.heap[k - 4294967296]? = some o'∧∀ a x,ldO a o = some x→ldO a o' = some x:=fun k o hk=>by
  have hf:=look_far hk
  unfold lookH at hk
  by_cases hb:4294967296≤k
  ·rw [ble_yes hb] at hk
   simp only [ble_far hf] at hk
   exact ⟨hb,hW _ _ (lookG_mem hk)⟩
  ·rw [ble_no (by omega)] at hk
   simp [lookL,nth] at hk
 have hR:Rel (fun _=>(0,[])) (fun _=>False) ⟨[],gl⟩ W W:=⟨Below.refl _ _,fun k o hk h9=>by have:=(hl k o hk).1; omega,fun k o hk h9=>by have:=(hl k o hk).1; omega,fun k o hk _=>(hl k o hk).2,fun i k o o' h8 _ hi _ _=>by have:=(hl i o hi).1; omega⟩
 refine (fev_ok hm n f args (fun _=>(0,[])) (fun _=>False) N ⟨⟨[],gl⟩,0,tr,[]⟩ W hR (fun _ _ _ h=>h) (fun pk' _=>?_)).mono ?_
 ·obtain ⟨s',h1,h2,h3⟩:=outs_good (h pk')
  exact ⟨v,s',h1,h2,by omega⟩
 ·rintro e W' ⟨pk',v',s',_,b2,rfl,b4⟩
  obtain ⟨s2,h1,_,_⟩:=outs_good (h pk')
  rw [h1] at b2
  cases b2
  exact ⟨rfl,b4.below⟩
end Go.Proofs.YteafdlblemdclaaGreatDoor
