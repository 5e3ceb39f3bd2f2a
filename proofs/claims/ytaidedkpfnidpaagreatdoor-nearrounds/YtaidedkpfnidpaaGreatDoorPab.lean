/- Of what NearRoundsRow stands on: Room FmBase RdMode FmMath FmLeaf FmTake FmSplit FmFits FmCall FmJoin FmParts. -/
import Derived.Test.YtaidedkpfnidpaaGreatDoorProg
import Derived.WalkKit
import Derived.WalkSpells
import Derived.WalkLawsBesides
import Derived.Test.YtaidedkpfnidpaaGreatDoorPaa
import Derived.OwnWalk
namespace Go.Proofs.YtaidedkpfnidpaaGreatDoor
open Go.RowKit
set_option maxHeartbeats 400000
set_option maxRecDepth 20000
theorem hide{p:Prop}(h:p):Hid p:=h
theorem aa{p:Prop}(h:Hid p):p:=h
theorem dJ(w:World):Below w.heap.size w w:=Below.refl _ _
theorem ah(w:World)(o:Obj):Below w.heap.size w (w.alloc o):=(Below.refl _ _).alloc (Nat.le_refl _) o
theorem ai{a b c:World}(h:Below a.heap.size a b)(k:Below b.heap.size b c):Below a.heap.size a c:=h.trans (k.mono h.size)
theorem bO{W w1:World}(hb:Below W.heap.size W w1):(∀b o,b<W.heap.size→w1.cell? ⟨b,o,none⟩=W.cell? ⟨b,o,none⟩)∧(∀b o,b<W.heap.size→w1.frozen? ⟨b,o,none⟩=W.frozen? ⟨b,o,none⟩):=
 ⟨fun b o h=>hb.cell (p:=⟨b,o,none⟩) h,fun b o h=>hb.frozen (p:=⟨b,o,none⟩) h⟩
theorem block_lt{W:World}{b:Nat}{o:Obj}(h:W.heap[b]? = some o):b<W.heap.size:=by
 by_cases hlt:b<W.heap.size
 ·exact hlt
 ·rw [Array.getElem?_eq_none (by omega)] at h;cases h
structure En where
 b:Nat
 cs:Array Value
 t:TypeId
def wJ(W:World)(b:Nat):Nat→List Value→Prop
 | _,[]=>True
 | k,v::r=>W.cell? ⟨b,k,none⟩=some v∧wJ W b (k+1) r
def Dc(W:World):List En→Prop
 | []=>True
 | x::r=>wJ W x.b 0 x.cs.toList∧Dc W r
theorem pR{W:World}{b:Nat}{cs:Array Value}{t:TypeId}(h:W.heap[b]? = some (.cells cs t (0,0))):∀(l:List Value)(k:Nat),cs.toList.drop k=l→wJ W b k l
 | [],_,_=>trivial
 | v::r,k,e=>by
  refine ⟨?_,pR h r (k+1) ?_⟩
  ·rw [cell_of_row W b k _ _ _ h];have:cs.toList[k]? = some v:=by
    have:=congrArg (fun l=>l[0]?) e;simpa using this
   simpa using this
  ·have:=congrArg List.tail e;simpa using this
theorem sQ{W:World}:∀(bs:List En),(∀x,x∈bs→W.heap[x.b]? = some (.cells x.cs x.t (0,0)))→Dc W bs
 | [],_=>trivial
 | x::r,h=>⟨pR (h x (List.mem_cons_self ..)) _ 0 rfl,sQ r (fun y hy=>h y (List.mem_cons_of_mem _ hy))⟩
structure Fs(w0 W:World)(bs:List En):Prop where
 bx:∀x,x∈bs→W.heap[x.b]? = some (.cells x.cs x.t (0,0))
 fr:Below w0.heap.size w0 W
theorem Fs.size{w0 W:World}{bs:List En}(h:Fs w0 W bs):w0.heap.size≤W.heap.size:=h.fr.size
theorem Fs.begin(w:World):Fs w w []:=⟨(fun _ h=>nomatch h),Below.refl _ _⟩
theorem Fs.kept{w0 W W':World}{bs:List En}(h:Fs w0 W bs)(hb:Below W.heap.size W W'):Fs w0 W' bs:=
 ⟨fun x hx=>by rw [hb.block _ (block_lt (h.bx x hx))];exact h.bx x hx,ai h.fr hb⟩
theorem Fs.lt{w0 W:World}{bs:List En}(h:Fs w0 W bs)(i:Nat){x:En}(e:bs[i]? = some x):x.b<W.heap.size:=block_lt (h.bx x (List.mem_of_getElem? e))
theorem Fs.alloc{w0 W:World}{bs:List En}(h:Fs w0 W bs)(cs:Array Value)(t:TypeId):Fs w0 (W.alloc (.cells cs t)) (⟨W.heap.size,cs,t⟩::bs):=by
 have h':=h.kept (ah W (.cells cs t));refine ⟨fun x hx=>?_,h'.fr⟩;rcases List.mem_cons.1 hx with rfl|hx
 ·exact heap_alloc_new W _
 ·exact h'.bx x hx
theorem Fs.drew{w0 W:World}{bs:List En}(h:Fs w0 W bs):Fs w0 W.drew bs:=⟨h.bx,h.fr.drew⟩
theorem Fs.sub{w0 W:World}{bs bs':List En}(h:Fs w0 W bs)(hs:∀x,x∈bs'→x∈bs):Fs w0 W bs':=⟨fun x hx=>h.bx x (hs x hx),h.fr⟩
theorem Fs.cellAt{w0 W:World}{bs:List En}(h:Fs w0 W bs){b:Nat}{cs:Array Value}{t:TypeId}(hx:(⟨b,cs,t⟩:En)∈bs)(j:Nat)(v:Value)(hv:cs[j]? = some v):W.cell? ⟨b,j,none⟩=some v:=by
 rw [cell_of_row W b j _ _ _ (h.bx _ hx)];exact hv
theorem Fs.frozen{w0 W:World}{bs:List En}(h:Fs w0 W bs){b:Nat}{cs:Array Value}{t:TypeId}(hx:(⟨b,cs,t⟩:En)∈bs)(j:Nat):W.frozen? ⟨b,j,none⟩=false:=frozen_of_row W b j _ _ (h.bx _ hx)
theorem Fs.put{w0 W:World}{bs:List En}(h:Fs w0 W bs){b:Nat}{cs:Array Value}{t:TypeId}(hx:(⟨b,cs,t⟩:En)∈bs)(hw:w0.heap.size≤b)(j:Nat)(u:Value)(bs':List En)(hbs:∀y,y∈bs'→y=⟨b,cs.setIfInBounds j u,t⟩∨(y∈bs∧y.b≠b)):Fs w0 (W.setCell ⟨b,j,none⟩ u) bs':=by
 refine ⟨fun y hy=>?_,h.fr.setCell hw u⟩;rcases hbs y hy with rfl|⟨hy,hne⟩
 ·exact heap_setCell_same W b j _ _ _ (h.bx _ hx)
 ·rw [heap_setCell_other W _ y.b u hne];exact h.bx y hy
theorem Fs.one(w:World)(cs:Array Value)(t:TypeId):Fs w (w.alloc (.cells cs t)) [⟨w.heap.size,cs,t⟩]:=(Fs.begin w).alloc cs t
theorem Fs.two(w:World)(cs:Array Value)(t:TypeId)(ds:Array Value)(u:TypeId):Fs w ((w.alloc (.cells cs t)).alloc (.cells ds u)) [⟨w.heap.size,cs,t⟩,⟨w.heap.size+1,ds,u⟩]:=by
 have h:=((Fs.begin w).alloc cs t).alloc ds u;rw [World.size_alloc] at h;exact h.sub (by simp)
theorem Fs.cells{w0 W:World}{bs:List En}(h:Fs w0 W bs):Dc W bs:=sQ bs h.bx
def aS(l:Array Bool):List (Nat×List En)→List En→List En
 | [],b=>b
 | (k,b')::r,b=>if l[k]? = some true then b' else aS l r b
theorem ll{l:Array Bool}{i:Nat}:∀{bG:List (Nat×List En)}{b:List En},(bG.all (fun x=>x.1 != i))=true→aS (l.setIfInBounds i true) bG b=aS l bG b
 | [],_,_=>rfl
 | (k,b')::r,b,h=>by
  simp only [List.all_cons,Bool.and_eq_true] at h;have hk:k≠i:=by simpa using h.1
  simp only [aS];rw [Array.getElem?_setIfInBounds_ne (Ne.symm hk),ll h.2]
theorem keepM{w0 W:World}{l:Array Bool}{i:Nat}{bG:List (Nat×List En)}{b:List En}(h:(bG.map Prod.fst).all (fun x=>x != i)=true)(hM:Fs w0 W (aS l bG b)):Fs w0 W (aS (l.setIfInBounds i true) bG b):=by
 rw [ll (by simpa using h)];exact hM
theorem qm{l:Array Bool}{i:Nat}{b':List En}:∀{bG:List (Nat×List En)}{b:List En},l[i]? = some false→aS (l.setIfInBounds i true) ((i,b')::bG) b=b':=by
 intro bG b h;obtain ⟨hlt,-⟩:=Array.getElem?_eq_some_iff.1 h;simp [aS,hlt]
theorem putM{w0 W:World}{l:Array Bool}{i:Nat}{bG:List (Nat×List En)}{b b':List En}(_:True)(hl:l[i]? = some false)(h:Fs w0 W b'):Fs w0 W (aS (l.setIfInBounds i true) ((i,b')::bG) b):=by
 rw [qm hl];exact h
theorem aU{t:Array Value}{s:Nat}{u v:Value}(h:u=v):({ tmps:=t.setIfInBounds s u,defers:=[] }:Act)=⟨gQ (some (s,v)) t,[]⟩:=by rw [h];rfl
theorem dM.waits{ops:Array Oper}{ds:ay}{T0:Array Value}{l:Array Bool}{t:Array Value}(h:dM ops ds T0 l t)(i k:Nat)(o:Oper)(e:Edge)(hi:l[i]? = some false)(ho:ops[k]? = some o)(he:e∈o.after)(hb:Region.binds .any e=true)(hei:e.on=i):¬l[k]? = some true:=by
 intro hl;have:=ak (h.shut k o hl ho e he hb);rw [hei,hi] at this;cases this
theorem run_store_func(P:Program)(w:World)(a:Addr)(fn:Fn)(m:Mode):(store a (.func fn #[] #[]) m).run P w=stored P w a (.func fn #[] #[]) m:=run_store P w a _ m rfl
def bN(mode:Nat)(s o:Bool)(h:Int):Bool:=match mode with
 | 0=>decide (0<h)||(decide (h=0)&&o)
 | 1=>decide (0≤h)
 | 2=>false
 | 3=>!s
 | _=>s
theorem Gx(s o:Bool)(w:World)  :
  Calls Tryz.prog 174 #[.agg #[.bool s,.bool o,.int .i64 (-1)]] w fun e w'=>e = .returned (.bool false)∧Below w.heap.size w w':=by
 go_enter Tryz.func174,Tryz.ntmps174
 go_wp2
 go_ret
 exact ⟨rfl,(Fs.one w _ _).fr⟩
theorem Fg(s o:Bool)(w:World)  :
  Calls Tryz.prog 175 #[.agg #[.bool s,.bool o,.int .i64 (-1)]] w fun e w'=>e = .returned (.bool false)∧Below w.heap.size w w':=by
 go_enter Tryz.func175,Tryz.ntmps175
 go_wp2
 go_ret
 exact ⟨rfl,(Fs.one w _ _).fr⟩
theorem GV(s o:Bool)(w:World)  :
  Calls Tryz.prog 174 #[.agg #[.bool s,.bool o,.int .i64 0]] w fun e w'=>e = .returned (.bool o)∧Below w.heap.size w w':=by
 go_enter Tryz.func174,Tryz.ntmps174
 go_wp2
 go_ret
 exact ⟨rfl,(Fs.one w _ _).fr⟩
theorem Gv(s o:Bool)(w:World)  :
  Calls Tryz.prog 175 #[.agg #[.bool s,.bool o,.int .i64 0]] w fun e w'=>e = .returned (.bool true)∧Below w.heap.size w w':=by
 go_enter Tryz.func175,Tryz.ntmps175
 go_wp2
 go_ret
 exact ⟨rfl,(Fs.one w _ _).fr⟩
theorem FZ(s o:Bool)(w:World)  :
  Calls Tryz.prog 174 #[.agg #[.bool s,.bool o,.int .i64 1]] w fun e w'=>e = .returned (.bool true)∧Below w.heap.size w w':=by
 go_enter Tryz.func174,Tryz.ntmps174
 go_wp2
 go_ret
 exact ⟨rfl,(Fs.one w _ _).fr⟩
theorem Ia(s o:Bool)(w:World)  :
  Calls Tryz.prog 175 #[.agg #[.bool s,.bool o,.int .i64 1]] w fun e w'=>e = .returned (.bool true)∧Below w.heap.size w w':=by
 go_enter Tryz.func175,Tryz.ntmps175
 go_wp2
 go_ret
 exact ⟨rfl,(Fs.one w _ _).fr⟩
theorem BK(s o:Bool)(h:Int)(w:World)  :
  Calls Tryz.prog 176 #[.agg #[.bool s,.bool o,.int .i64 h]] w fun e w'=>e = .returned (.bool false)∧Below w.heap.size w w':=by
 go_enter Tryz.func176,Tryz.ntmps176
 go_wp2
 go_ret
 exact ⟨rfl,(Fs.one w _ _).fr⟩
theorem Dw(s o:Bool)(h:Int)(w:World)  :
  Calls Tryz.prog 177 #[.agg #[.bool s,.bool o,.int .i64 h]] w fun e w'=>e = .returned (.bool (!s))∧Below w.heap.size w w':=by
 go_enter Tryz.func177,Tryz.ntmps177
 go_wp2
 go_ret
 exact ⟨rfl,(Fs.one w _ _).fr⟩
theorem yD(s o:Bool)(h:Int)(w:World)  :
  Calls Tryz.prog 178 #[.agg #[.bool s,.bool o,.int .i64 h]] w fun e w'=>e = .returned (.bool s)∧Below w.heap.size w w':=by
 go_enter Tryz.func178,Tryz.ntmps178
 go_wp2
 go_ret
 exact ⟨rfl,(Fs.one w _ _).fr⟩
theorem dO  (w:World)  :
  Calls Tryz.prog 171 #[] w fun e w'=>e = .returned (.agg #[.func (.func 174) #[] #[],.func (.func 175) #[] #[],.func (.func 176) #[] #[],.func (.func 177) #[] #[],.func (.func 178) #[] #[]])∧Below w.heap.size w w':=by
 go_enter Tryz.func171,Tryz.ntmps171
 go_wp2
 simp only [run_store_func];go_simp
 go_wp2
 exact bodyPost_ret (v:=.agg #[.func (.func 174) #[] #[],.func (.func 175) #[] #[],.func (.func 176) #[] #[],.func (.func 177) #[] #[],.func (.func 178) #[] #[]]) (by simp [results,Tryz.results171,go_sem]) rfl ⟨rfl,ah _ _⟩
theorem GZ(s o:Bool)(w:World)  :
  Calls Tryz.prog 164 #[.agg #[.bool s,.bool o,.int .i64 (-1)],.int .u8 0] w fun e w'=>e = .returned (.bool false)∧Below w.heap.size w w':=by
 go_enter Tryz.func164,Tryz.ntmps164
 go_wp2_with fail
 refine wp_region_any (by kernel_rfl) ?_;refine aM [some (5,.agg #[.func (.func 174) #[] #[],.func (.func 175) #[] #[],.func (.func 176) #[] #[],.func (.func 177) #[] #[],.func (.func 178) #[] #[]]),some (6,.int .u8 0),some (7,.func (.func 174) #[] #[]),some (8,.agg #[.bool s,.bool o,.int .i64 (-1)]),some (9,.bool false),some (4,.bool false)]
  (fun _ W9=>Fs w W9 [⟨w.heap.size,#[.bool s,.bool o,.int .i64 (-1)],216⟩]) _ _ rfl (by kernel_rfl) rfl rfl ?_ ?_ (Fs.one w _ _).drew
 ·intro l9 t9 W9 i9 hD hi9 hl9 hM;obtain ⟨o9,ho9,hd9⟩:=(mem_ready.1 hi9).2;have hin9:i9<6:=by
   by_cases h:i9<6
   ·exact h
   ·rw [Array.getElem?_eq_none (by rw [hD.len];simp;omega)] at hl9;cases hl9
  have hcase:i9=0∨i9=1∨i9=2∨i9=3∨i9=4∨i9=5:=by omega
  clear hin9;rcases hcase with rfl|rfl|rfl|rfl|rfl|rfl
  ·cases ho9;refine wpOp_step rfl fun K hK=>?_;go_simp
   go_wp2_with fail
   refine (dO _).mono ?_;rintro en w9 ⟨rfl,hb9⟩;exact hK _ _ ⟨rfl,hM.kept hb9⟩
  ·cases ho9;have r1:=hD.old 1 _ rfl rfl;refine wpOp_step rfl fun K hK=>?_;go_simp
   exact hK _ _ ⟨rfl,hM⟩
  ·cases ho9;have r5:=hD.od hd9 0 5 _ rfl (by simp);have r6:=hD.od hd9 1 6 _ rfl (by simp);refine wpOp_step rfl fun K hK=>?_;go_simp
   exact hK _ _ ⟨aU (by kernel_rfl),hM⟩
  ·cases ho9;have r2:=hD.old 2 _ rfl rfl;have hM0:=hM;have Q_:=hM0.cellAt (b:=w.heap.size) (cs:=#[.bool s,.bool o,.int .i64 (-1)]) (t:=216) (by simp);have c9_0:=Q_ 0 _ rfl;have c9_1:=Q_ 1 _ rfl;have c9_2:=Q_ 2 _ rfl;clear Q_;clear hM0;refine wpOp_step rfl fun K hK=>?_;go_simp
   exact hK _ _ ⟨rfl,hM⟩
  ·cases ho9;have r7:=hD.od hd9 2 7 _ rfl (by simp);have r8:=hD.od hd9 3 8 _ rfl (by simp);refine wpOp_step rfl fun K hK=>?_;go_simp
   go_wp2_with fail
   refine (Gx s o _).mono ?_;rintro en w9 ⟨rfl,hb9⟩;exact hK _ _ ⟨rfl,hM.kept hb9⟩
  ·cases ho9;have r9:=hD.od hd9 4 9 _ rfl (by simp);refine wpOp_step rfl fun K hK=>?_;go_simp
   exact hK _ _ ⟨rfl,hM⟩
 ·intro l9 W9 hl9 hM;have hS:=hM;clear hM;simp only [ay.lay,List.setIfInBounds_toArray,List.set_cons_zero,List.set_cons_succ];obtain ⟨⟨ya,yb,yc,-⟩,-⟩:=hS.cells;go_wp2
  go_ret
  exact ⟨rfl,hS.fr⟩
theorem Ht(s o:Bool)(w:World)  :
  Calls Tryz.prog 164 #[.agg #[.bool s,.bool o,.int .i64 (-1)],.int .u8 1] w fun e w'=>e = .returned (.bool false)∧Below w.heap.size w w':=by
 go_enter Tryz.func164,Tryz.ntmps164
 go_wp2_with fail
 refine wp_region_any (by kernel_rfl) ?_;refine aM [some (5,.agg #[.func (.func 174) #[] #[],.func (.func 175) #[] #[],.func (.func 176) #[] #[],.func (.func 177) #[] #[],.func (.func 178) #[] #[]]),some (6,.int .u8 1),some (7,.func (.func 175) #[] #[]),some (8,.agg #[.bool s,.bool o,.int .i64 (-1)]),some (9,.bool false),some (4,.bool false)]
  (fun _ W9=>Fs w W9 [⟨w.heap.size,#[.bool s,.bool o,.int .i64 (-1)],216⟩]) _ _ rfl (by kernel_rfl) rfl rfl ?_ ?_ (Fs.one w _ _).drew
 ·intro l9 t9 W9 i9 hD hi9 hl9 hM;obtain ⟨o9,ho9,hd9⟩:=(mem_ready.1 hi9).2;have hin9:i9<6:=by
   by_cases h:i9<6
   ·exact h
   ·rw [Array.getElem?_eq_none (by rw [hD.len];simp;omega)] at hl9;cases hl9
  have hcase:i9=0∨i9=1∨i9=2∨i9=3∨i9=4∨i9=5:=by omega
  clear hin9;rcases hcase with rfl|rfl|rfl|rfl|rfl|rfl
  ·cases ho9;refine wpOp_step rfl fun K hK=>?_;go_simp
   go_wp2_with fail
   refine (dO _).mono ?_;rintro en w9 ⟨rfl,hb9⟩;exact hK _ _ ⟨rfl,hM.kept hb9⟩
  ·cases ho9;have r1:=hD.old 1 _ rfl rfl;refine wpOp_step rfl fun K hK=>?_;go_simp
   exact hK _ _ ⟨rfl,hM⟩
  ·cases ho9;have r5:=hD.od hd9 0 5 _ rfl (by simp);have r6:=hD.od hd9 1 6 _ rfl (by simp);refine wpOp_step rfl fun K hK=>?_;go_simp
   exact hK _ _ ⟨aU (by kernel_rfl),hM⟩
  ·cases ho9;have r2:=hD.old 2 _ rfl rfl;have hM0:=hM;have Q_:=hM0.cellAt (b:=w.heap.size) (cs:=#[.bool s,.bool o,.int .i64 (-1)]) (t:=216) (by simp);have c9_0:=Q_ 0 _ rfl;have c9_1:=Q_ 1 _ rfl;have c9_2:=Q_ 2 _ rfl;clear Q_;clear hM0;refine wpOp_step rfl fun K hK=>?_;go_simp
   exact hK _ _ ⟨rfl,hM⟩
  ·cases ho9;have r7:=hD.od hd9 2 7 _ rfl (by simp);have r8:=hD.od hd9 3 8 _ rfl (by simp);refine wpOp_step rfl fun K hK=>?_;go_simp
   go_wp2_with fail
   refine (Fg s o _).mono ?_;rintro en w9 ⟨rfl,hb9⟩;exact hK _ _ ⟨rfl,hM.kept hb9⟩
  ·cases ho9;have r9:=hD.od hd9 4 9 _ rfl (by simp);refine wpOp_step rfl fun K hK=>?_;go_simp
   exact hK _ _ ⟨rfl,hM⟩
 ·intro l9 W9 hl9 hM;have hS:=hM;clear hM;simp only [ay.lay,List.setIfInBounds_toArray,List.set_cons_zero,List.set_cons_succ];obtain ⟨⟨ya,yb,yc,-⟩,-⟩:=hS.cells;go_wp2
  go_ret
  exact ⟨rfl,hS.fr⟩
theorem xS(s o:Bool)(w:World)  :
  Calls Tryz.prog 164 #[.agg #[.bool s,.bool o,.int .i64 0],.int .u8 0] w fun e w'=>e = .returned (.bool o)∧Below w.heap.size w w':=by
 go_enter Tryz.func164,Tryz.ntmps164
 go_wp2_with fail
 refine wp_region_any (by kernel_rfl) ?_;refine aM [some (5,.agg #[.func (.func 174) #[] #[],.func (.func 175) #[] #[],.func (.func 176) #[] #[],.func (.func 177) #[] #[],.func (.func 178) #[] #[]]),some (6,.int .u8 0),some (7,.func (.func 174) #[] #[]),some (8,.agg #[.bool s,.bool o,.int .i64 0]),some (9,.bool o),some (4,.bool o)]
  (fun _ W9=>Fs w W9 [⟨w.heap.size,#[.bool s,.bool o,.int .i64 0],216⟩]) _ _ rfl (by kernel_rfl) rfl rfl ?_ ?_ (Fs.one w _ _).drew
 ·intro l9 t9 W9 i9 hD hi9 hl9 hM;obtain ⟨o9,ho9,hd9⟩:=(mem_ready.1 hi9).2;have hin9:i9<6:=by
   by_cases h:i9<6
   ·exact h
   ·rw [Array.getElem?_eq_none (by rw [hD.len];simp;omega)] at hl9;cases hl9
  have hcase:i9=0∨i9=1∨i9=2∨i9=3∨i9=4∨i9=5:=by omega
  clear hin9;rcases hcase with rfl|rfl|rfl|rfl|rfl|rfl
  ·cases ho9;refine wpOp_step rfl fun K hK=>?_;go_simp
   go_wp2_with fail
   refine (dO _).mono ?_;rintro en w9 ⟨rfl,hb9⟩;exact hK _ _ ⟨rfl,hM.kept hb9⟩
  ·cases ho9;have r1:=hD.old 1 _ rfl rfl;refine wpOp_step rfl fun K hK=>?_;go_simp
   exact hK _ _ ⟨rfl,hM⟩
  ·cases ho9;have r5:=hD.od hd9 0 5 _ rfl (by simp);have r6:=hD.od hd9 1 6 _ rfl (by simp);refine wpOp_step rfl fun K hK=>?_;go_simp
   exact hK _ _ ⟨aU (by kernel_rfl),hM⟩
  ·cases ho9;have r2:=hD.old 2 _ rfl rfl;have hM0:=hM;have Q_:=hM0.cellAt (b:=w.heap.size) (cs:=#[.bool s,.bool o,.int .i64 0]) (t:=216) (by simp);have c9_0:=Q_ 0 _ rfl;have c9_1:=Q_ 1 _ rfl;have c9_2:=Q_ 2 _ rfl;clear Q_;clear hM0;refine wpOp_step rfl fun K hK=>?_;go_simp
   exact hK _ _ ⟨rfl,hM⟩
  ·cases ho9;have r7:=hD.od hd9 2 7 _ rfl (by simp);have r8:=hD.od hd9 3 8 _ rfl (by simp);refine wpOp_step rfl fun K hK=>?_;go_simp
   go_wp2_with fail
   refine (GV s o _).mono ?_;rintro en w9 ⟨rfl,hb9⟩;exact hK _ _ ⟨rfl,hM.kept hb9⟩
  ·cases ho9;have r9:=hD.od hd9 4 9 _ rfl (by simp);refine wpOp_step rfl fun K hK=>?_;go_simp
   exact hK _ _ ⟨rfl,hM⟩
 ·intro l9 W9 hl9 hM;have hS:=hM;clear hM;simp only [ay.lay,List.setIfInBounds_toArray,List.set_cons_zero,List.set_cons_succ];obtain ⟨⟨ya,yb,yc,-⟩,-⟩:=hS.cells;go_wp2
  go_ret
  exact ⟨rfl,hS.fr⟩
theorem Il(s o:Bool)(w:World)  :
  Calls Tryz.prog 164 #[.agg #[.bool s,.bool o,.int .i64 0],.int .u8 1] w fun e w'=>e = .returned (.bool true)∧Below w.heap.size w w':=by
 go_enter Tryz.func164,Tryz.ntmps164
 go_wp2_with fail
 refine wp_region_any (by kernel_rfl) ?_;refine aM [some (5,.agg #[.func (.func 174) #[] #[],.func (.func 175) #[] #[],.func (.func 176) #[] #[],.func (.func 177) #[] #[],.func (.func 178) #[] #[]]),some (6,.int .u8 1),some (7,.func (.func 175) #[] #[]),some (8,.agg #[.bool s,.bool o,.int .i64 0]),some (9,.bool true),some (4,.bool true)]
  (fun _ W9=>Fs w W9 [⟨w.heap.size,#[.bool s,.bool o,.int .i64 0],216⟩]) _ _ rfl (by kernel_rfl) rfl rfl ?_ ?_ (Fs.one w _ _).drew
 ·intro l9 t9 W9 i9 hD hi9 hl9 hM;obtain ⟨o9,ho9,hd9⟩:=(mem_ready.1 hi9).2;have hin9:i9<6:=by
   by_cases h:i9<6
   ·exact h
   ·rw [Array.getElem?_eq_none (by rw [hD.len];simp;omega)] at hl9;cases hl9
  have hcase:i9=0∨i9=1∨i9=2∨i9=3∨i9=4∨i9=5:=by omega
  clear hin9;rcases hcase with rfl|rfl|rfl|rfl|rfl|rfl
  ·cases ho9;refine wpOp_step rfl fun K hK=>?_;go_simp
   go_wp2_with fail
   refine (dO _).mono ?_;rintro en w9 ⟨rfl,hb9⟩;exact hK _ _ ⟨rfl,hM.kept hb9⟩
  ·cases ho9;have r1:=hD.old 1 _ rfl rfl;refine wpOp_step rfl fun K hK=>?_;go_simp
   exact hK _ _ ⟨rfl,hM⟩
  ·cases ho9;have r5:=hD.od hd9 0 5 _ rfl (by simp);have r6:=hD.od hd9 1 6 _ rfl (by simp);refine wpOp_step rfl fun K hK=>?_;go_simp
   exact hK _ _ ⟨aU (by kernel_rfl),hM⟩
  ·cases ho9;have r2:=hD.old 2 _ rfl rfl;have hM0:=hM;have Q_:=hM0.cellAt (b:=w.heap.size) (cs:=#[.bool s,.bool o,.int .i64 0]) (t:=216) (by simp);have c9_0:=Q_ 0 _ rfl;have c9_1:=Q_ 1 _ rfl;have c9_2:=Q_ 2 _ rfl;clear Q_;clear hM0;refine wpOp_step rfl fun K hK=>?_;go_simp
   exact hK _ _ ⟨rfl,hM⟩
  ·cases ho9;have r7:=hD.od hd9 2 7 _ rfl (by simp);have r8:=hD.od hd9 3 8 _ rfl (by simp);refine wpOp_step rfl fun K hK=>?_;go_simp
   go_wp2_with fail
   refine (Gv s o _).mono ?_;rintro en w9 ⟨rfl,hb9⟩;exact hK _ _ ⟨rfl,hM.kept hb9⟩
  ·cases ho9;have r9:=hD.od hd9 4 9 _ rfl (by simp);refine wpOp_step rfl fun K hK=>?_;go_simp
   exact hK _ _ ⟨rfl,hM⟩
 ·intro l9 W9 hl9 hM;have hS:=hM;clear hM;simp only [ay.lay,List.setIfInBounds_toArray,List.set_cons_zero,List.set_cons_succ];obtain ⟨⟨ya,yb,yc,-⟩,-⟩:=hS.cells;go_wp2
  go_ret
  exact ⟨rfl,hS.fr⟩
theorem F9(s o:Bool)(w:World)  :
  Calls Tryz.prog 164 #[.agg #[.bool s,.bool o,.int .i64 1],.int .u8 0] w fun e w'=>e = .returned (.bool true)∧Below w.heap.size w w':=by
 go_enter Tryz.func164,Tryz.ntmps164
 go_wp2_with fail
 refine wp_region_any (by kernel_rfl) ?_;refine aM [some (5,.agg #[.func (.func 174) #[] #[],.func (.func 175) #[] #[],.func (.func 176) #[] #[],.func (.func 177) #[] #[],.func (.func 178) #[] #[]]),some (6,.int .u8 0),some (7,.func (.func 174) #[] #[]),some (8,.agg #[.bool s,.bool o,.int .i64 1]),some (9,.bool true),some (4,.bool true)]
  (fun _ W9=>Fs w W9 [⟨w.heap.size,#[.bool s,.bool o,.int .i64 1],216⟩]) _ _ rfl (by kernel_rfl) rfl rfl ?_ ?_ (Fs.one w _ _).drew
 ·intro l9 t9 W9 i9 hD hi9 hl9 hM;obtain ⟨o9,ho9,hd9⟩:=(mem_ready.1 hi9).2;have hin9:i9<6:=by
   by_cases h:i9<6
   ·exact h
   ·rw [Array.getElem?_eq_none (by rw [hD.len];simp;omega)] at hl9;cases hl9
  have hcase:i9=0∨i9=1∨i9=2∨i9=3∨i9=4∨i9=5:=by omega
  clear hin9;rcases hcase with rfl|rfl|rfl|rfl|rfl|rfl
  ·cases ho9;refine wpOp_step rfl fun K hK=>?_;go_simp
   go_wp2_with fail
   refine (dO _).mono ?_;rintro en w9 ⟨rfl,hb9⟩;exact hK _ _ ⟨rfl,hM.kept hb9⟩
  ·cases ho9;have r1:=hD.old 1 _ rfl rfl;refine wpOp_step rfl fun K hK=>?_;go_simp
   exact hK _ _ ⟨rfl,hM⟩
  ·cases ho9;have r5:=hD.od hd9 0 5 _ rfl (by simp);have r6:=hD.od hd9 1 6 _ rfl (by simp);refine wpOp_step rfl fun K hK=>?_;go_simp
   exact hK _ _ ⟨aU (by kernel_rfl),hM⟩
  ·cases ho9;have r2:=hD.old 2 _ rfl rfl;have hM0:=hM;have Q_:=hM0.cellAt (b:=w.heap.size) (cs:=#[.bool s,.bool o,.int .i64 1]) (t:=216) (by simp);have c9_0:=Q_ 0 _ rfl;have c9_1:=Q_ 1 _ rfl;have c9_2:=Q_ 2 _ rfl;clear Q_;clear hM0;refine wpOp_step rfl fun K hK=>?_;go_simp
   exact hK _ _ ⟨rfl,hM⟩
  ·cases ho9;have r7:=hD.od hd9 2 7 _ rfl (by simp);have r8:=hD.od hd9 3 8 _ rfl (by simp);refine wpOp_step rfl fun K hK=>?_;go_simp
   go_wp2_with fail
   refine (FZ s o _).mono ?_;rintro en w9 ⟨rfl,hb9⟩;exact hK _ _ ⟨rfl,hM.kept hb9⟩
  ·cases ho9;have r9:=hD.od hd9 4 9 _ rfl (by simp);refine wpOp_step rfl fun K hK=>?_;go_simp
   exact hK _ _ ⟨rfl,hM⟩
 ·intro l9 W9 hl9 hM;have hS:=hM;clear hM;simp only [ay.lay,List.setIfInBounds_toArray,List.set_cons_zero,List.set_cons_succ];obtain ⟨⟨ya,yb,yc,-⟩,-⟩:=hS.cells;go_wp2
  go_ret
  exact ⟨rfl,hS.fr⟩
theorem Gp(s o:Bool)(w:World)  :
  Calls Tryz.prog 164 #[.agg #[.bool s,.bool o,.int .i64 1],.int .u8 1] w fun e w'=>e = .returned (.bool true)∧Below w.heap.size w w':=by
 go_enter Tryz.func164,Tryz.ntmps164
 go_wp2_with fail
 refine wp_region_any (by kernel_rfl) ?_;refine aM [some (5,.agg #[.func (.func 174) #[] #[],.func (.func 175) #[] #[],.func (.func 176) #[] #[],.func (.func 177) #[] #[],.func (.func 178) #[] #[]]),some (6,.int .u8 1),some (7,.func (.func 175) #[] #[]),some (8,.agg #[.bool s,.bool o,.int .i64 1]),some (9,.bool true),some (4,.bool true)]
  (fun _ W9=>Fs w W9 [⟨w.heap.size,#[.bool s,.bool o,.int .i64 1],216⟩]) _ _ rfl (by kernel_rfl) rfl rfl ?_ ?_ (Fs.one w _ _).drew
 ·intro l9 t9 W9 i9 hD hi9 hl9 hM;obtain ⟨o9,ho9,hd9⟩:=(mem_ready.1 hi9).2;have hin9:i9<6:=by
   by_cases h:i9<6
   ·exact h
   ·rw [Array.getElem?_eq_none (by rw [hD.len];simp;omega)] at hl9;cases hl9
  have hcase:i9=0∨i9=1∨i9=2∨i9=3∨i9=4∨i9=5:=by omega
  clear hin9;rcases hcase with rfl|rfl|rfl|rfl|rfl|rfl
  ·cases ho9;refine wpOp_step rfl fun K hK=>?_;go_simp
   go_wp2_with fail
   refine (dO _).mono ?_;rintro en w9 ⟨rfl,hb9⟩;exact hK _ _ ⟨rfl,hM.kept hb9⟩
  ·cases ho9;have r1:=hD.old 1 _ rfl rfl;refine wpOp_step rfl fun K hK=>?_;go_simp
   exact hK _ _ ⟨rfl,hM⟩
  ·cases ho9;have r5:=hD.od hd9 0 5 _ rfl (by simp);have r6:=hD.od hd9 1 6 _ rfl (by simp);refine wpOp_step rfl fun K hK=>?_;go_simp
   exact hK _ _ ⟨aU (by kernel_rfl),hM⟩
  ·cases ho9;have r2:=hD.old 2 _ rfl rfl;have hM0:=hM;have Q_:=hM0.cellAt (b:=w.heap.size) (cs:=#[.bool s,.bool o,.int .i64 1]) (t:=216) (by simp);have c9_0:=Q_ 0 _ rfl;have c9_1:=Q_ 1 _ rfl;have c9_2:=Q_ 2 _ rfl;clear Q_;clear hM0;refine wpOp_step rfl fun K hK=>?_;go_simp
   exact hK _ _ ⟨rfl,hM⟩
  ·cases ho9;have r7:=hD.od hd9 2 7 _ rfl (by simp);have r8:=hD.od hd9 3 8 _ rfl (by simp);refine wpOp_step rfl fun K hK=>?_;go_simp
   go_wp2_with fail
   refine (Ia s o _).mono ?_;rintro en w9 ⟨rfl,hb9⟩;exact hK _ _ ⟨rfl,hM.kept hb9⟩
  ·cases ho9;have r9:=hD.od hd9 4 9 _ rfl (by simp);refine wpOp_step rfl fun K hK=>?_;go_simp
   exact hK _ _ ⟨rfl,hM⟩
 ·intro l9 W9 hl9 hM;have hS:=hM;clear hM;simp only [ay.lay,List.setIfInBounds_toArray,List.set_cons_zero,List.set_cons_succ];obtain ⟨⟨ya,yb,yc,-⟩,-⟩:=hS.cells;go_wp2
  go_ret
  exact ⟨rfl,hS.fr⟩
theorem IZ(s o:Bool)(h:Int)(w:World)  :
  Calls Tryz.prog 164 #[.agg #[.bool s,.bool o,.int .i64 h],.int .u8 2] w fun e w'=>e = .returned (.bool false)∧Below w.heap.size w w':=by
 go_enter Tryz.func164,Tryz.ntmps164
 go_wp2_with fail
 refine wp_region_any (by kernel_rfl) ?_;refine aM [some (5,.agg #[.func (.func 174) #[] #[],.func (.func 175) #[] #[],.func (.func 176) #[] #[],.func (.func 177) #[] #[],.func (.func 178) #[] #[]]),some (6,.int .u8 2),some (7,.func (.func 176) #[] #[]),some (8,.agg #[.bool s,.bool o,.int .i64 h]),some (9,.bool false),some (4,.bool false)]
  (fun _ W9=>Fs w W9 [⟨w.heap.size,#[.bool s,.bool o,.int .i64 h],216⟩]) _ _ rfl (by kernel_rfl) rfl rfl ?_ ?_ (Fs.one w _ _).drew
 ·intro l9 t9 W9 i9 hD hi9 hl9 hM;obtain ⟨o9,ho9,hd9⟩:=(mem_ready.1 hi9).2;have hin9:i9<6:=by
   by_cases h:i9<6
   ·exact h
   ·rw [Array.getElem?_eq_none (by rw [hD.len];simp;omega)] at hl9;cases hl9
  have hcase:i9=0∨i9=1∨i9=2∨i9=3∨i9=4∨i9=5:=by omega
  clear hin9;rcases hcase with rfl|rfl|rfl|rfl|rfl|rfl
  ·cases ho9;refine wpOp_step rfl fun K hK=>?_;go_simp
   go_wp2_with fail
   refine (dO _).mono ?_;rintro en w9 ⟨rfl,hb9⟩;exact hK _ _ ⟨rfl,hM.kept hb9⟩
  ·cases ho9;have r1:=hD.old 1 _ rfl rfl;refine wpOp_step rfl fun K hK=>?_;go_simp
   exact hK _ _ ⟨rfl,hM⟩
  ·cases ho9;have r5:=hD.od hd9 0 5 _ rfl (by simp);have r6:=hD.od hd9 1 6 _ rfl (by simp);refine wpOp_step rfl fun K hK=>?_;go_simp
   exact hK _ _ ⟨aU (by kernel_rfl),hM⟩
  ·cases ho9;have r2:=hD.old 2 _ rfl rfl;have hM0:=hM;have Q_:=hM0.cellAt (b:=w.heap.size) (cs:=#[.bool s,.bool o,.int .i64 h]) (t:=216) (by simp);have c9_0:=Q_ 0 _ rfl;have c9_1:=Q_ 1 _ rfl;have c9_2:=Q_ 2 _ rfl;clear Q_;clear hM0;refine wpOp_step rfl fun K hK=>?_;go_simp
   exact hK _ _ ⟨rfl,hM⟩
  ·cases ho9;have r7:=hD.od hd9 2 7 _ rfl (by simp);have r8:=hD.od hd9 3 8 _ rfl (by simp);refine wpOp_step rfl fun K hK=>?_;go_simp
   go_wp2_with fail
   refine (BK s o h _).mono ?_;rintro en w9 ⟨rfl,hb9⟩;exact hK _ _ ⟨rfl,hM.kept hb9⟩
  ·cases ho9;have r9:=hD.od hd9 4 9 _ rfl (by simp);refine wpOp_step rfl fun K hK=>?_;go_simp
   exact hK _ _ ⟨rfl,hM⟩
 ·intro l9 W9 hl9 hM;have hS:=hM;clear hM;simp only [ay.lay,List.setIfInBounds_toArray,List.set_cons_zero,List.set_cons_succ];obtain ⟨⟨ya,yb,yc,-⟩,-⟩:=hS.cells;go_wp2
  go_ret
  exact ⟨rfl,hS.fr⟩
theorem I4(s o:Bool)(h:Int)(w:World)  :
  Calls Tryz.prog 164 #[.agg #[.bool s,.bool o,.int .i64 h],.int .u8 3] w fun e w'=>e = .returned (.bool (!s))∧Below w.heap.size w w':=by
 go_enter Tryz.func164,Tryz.ntmps164
 go_wp2_with fail
 refine wp_region_any (by kernel_rfl) ?_;refine aM [some (5,.agg #[.func (.func 174) #[] #[],.func (.func 175) #[] #[],.func (.func 176) #[] #[],.func (.func 177) #[] #[],.func (.func 178) #[] #[]]),some (6,.int .u8 3),some (7,.func (.func 177) #[] #[]),some (8,.agg #[.bool s,.bool o,.int .i64 h]),some (9,.bool (!s)),some (4,.bool (!s))]
  (fun _ W9=>Fs w W9 [⟨w.heap.size,#[.bool s,.bool o,.int .i64 h],216⟩]) _ _ rfl (by kernel_rfl) rfl rfl ?_ ?_ (Fs.one w _ _).drew
 ·intro l9 t9 W9 i9 hD hi9 hl9 hM;obtain ⟨o9,ho9,hd9⟩:=(mem_ready.1 hi9).2;have hin9:i9<6:=by
   by_cases h:i9<6
   ·exact h
   ·rw [Array.getElem?_eq_none (by rw [hD.len];simp;omega)] at hl9;cases hl9
  have hcase:i9=0∨i9=1∨i9=2∨i9=3∨i9=4∨i9=5:=by omega
  clear hin9;rcases hcase with rfl|rfl|rfl|rfl|rfl|rfl
  ·cases ho9;refine wpOp_step rfl fun K hK=>?_;go_simp
   go_wp2_with fail
   refine (dO _).mono ?_;rintro en w9 ⟨rfl,hb9⟩;exact hK _ _ ⟨rfl,hM.kept hb9⟩
  ·cases ho9;have r1:=hD.old 1 _ rfl rfl;refine wpOp_step rfl fun K hK=>?_;go_simp
   exact hK _ _ ⟨rfl,hM⟩
  ·cases ho9;have r5:=hD.od hd9 0 5 _ rfl (by simp);have r6:=hD.od hd9 1 6 _ rfl (by simp);refine wpOp_step rfl fun K hK=>?_;go_simp
   exact hK _ _ ⟨aU (by kernel_rfl),hM⟩
  ·cases ho9;have r2:=hD.old 2 _ rfl rfl;have hM0:=hM;have Q_:=hM0.cellAt (b:=w.heap.size) (cs:=#[.bool s,.bool o,.int .i64 h]) (t:=216) (by simp);have c9_0:=Q_ 0 _ rfl;have c9_1:=Q_ 1 _ rfl;have c9_2:=Q_ 2 _ rfl;clear Q_;clear hM0;refine wpOp_step rfl fun K hK=>?_;go_simp
   exact hK _ _ ⟨rfl,hM⟩
  ·cases ho9;have r7:=hD.od hd9 2 7 _ rfl (by simp);have r8:=hD.od hd9 3 8 _ rfl (by simp);refine wpOp_step rfl fun K hK=>?_;go_simp
   go_wp2_with fail
   refine (Dw s o h _).mono ?_;rintro en w9 ⟨rfl,hb9⟩;exact hK _ _ ⟨rfl,hM.kept hb9⟩
  ·cases ho9;have r9:=hD.od hd9 4 9 _ rfl (by simp);refine wpOp_step rfl fun K hK=>?_;go_simp
   exact hK _ _ ⟨rfl,hM⟩
 ·intro l9 W9 hl9 hM;have hS:=hM;clear hM;simp only [ay.lay,List.setIfInBounds_toArray,List.set_cons_zero,List.set_cons_succ];obtain ⟨⟨ya,yb,yc,-⟩,-⟩:=hS.cells;go_wp2
  go_ret
  exact ⟨rfl,hS.fr⟩
theorem Je(s o:Bool)(h:Int)(w:World)  :
  Calls Tryz.prog 164 #[.agg #[.bool s,.bool o,.int .i64 h],.int .u8 4] w fun e w'=>e = .returned (.bool s)∧Below w.heap.size w w':=by
 go_enter Tryz.func164,Tryz.ntmps164
 go_wp2_with fail
 refine wp_region_any (by kernel_rfl) ?_;refine aM [some (5,.agg #[.func (.func 174) #[] #[],.func (.func 175) #[] #[],.func (.func 176) #[] #[],.func (.func 177) #[] #[],.func (.func 178) #[] #[]]),some (6,.int .u8 4),some (7,.func (.func 178) #[] #[]),some (8,.agg #[.bool s,.bool o,.int .i64 h]),some (9,.bool s),some (4,.bool s)]
  (fun _ W9=>Fs w W9 [⟨w.heap.size,#[.bool s,.bool o,.int .i64 h],216⟩]) _ _ rfl (by kernel_rfl) rfl rfl ?_ ?_ (Fs.one w _ _).drew
 ·intro l9 t9 W9 i9 hD hi9 hl9 hM;obtain ⟨o9,ho9,hd9⟩:=(mem_ready.1 hi9).2;have hin9:i9<6:=by
   by_cases h:i9<6
   ·exact h
   ·rw [Array.getElem?_eq_none (by rw [hD.len];simp;omega)] at hl9;cases hl9
  have hcase:i9=0∨i9=1∨i9=2∨i9=3∨i9=4∨i9=5:=by omega
  clear hin9;rcases hcase with rfl|rfl|rfl|rfl|rfl|rfl
  ·cases ho9;refine wpOp_step rfl fun K hK=>?_;go_simp
   go_wp2_with fail
   refine (dO _).mono ?_;rintro en w9 ⟨rfl,hb9⟩;exact hK _ _ ⟨rfl,hM.kept hb9⟩
  ·cases ho9;have r1:=hD.old 1 _ rfl rfl;refine wpOp_step rfl fun K hK=>?_;go_simp
   exact hK _ _ ⟨rfl,hM⟩
  ·cases ho9;have r5:=hD.od hd9 0 5 _ rfl (by simp);have r6:=hD.od hd9 1 6 _ rfl (by simp);refine wpOp_step rfl fun K hK=>?_;go_simp
   exact hK _ _ ⟨aU (by kernel_rfl),hM⟩
  ·cases ho9;have r2:=hD.old 2 _ rfl rfl;have hM0:=hM;have Q_:=hM0.cellAt (b:=w.heap.size) (cs:=#[.bool s,.bool o,.int .i64 h]) (t:=216) (by simp);have c9_0:=Q_ 0 _ rfl;have c9_1:=Q_ 1 _ rfl;have c9_2:=Q_ 2 _ rfl;clear Q_;clear hM0;refine wpOp_step rfl fun K hK=>?_;go_simp
   exact hK _ _ ⟨rfl,hM⟩
  ·cases ho9;have r7:=hD.od hd9 2 7 _ rfl (by simp);have r8:=hD.od hd9 3 8 _ rfl (by simp);refine wpOp_step rfl fun K hK=>?_;go_simp
   go_wp2_with fail
   refine (yD s o h _).mono ?_;rintro en w9 ⟨rfl,hb9⟩;exact hK _ _ ⟨rfl,hM.kept hb9⟩
  ·cases ho9;have r9:=hD.od hd9 4 9 _ rfl (by simp);refine wpOp_step rfl fun K hK=>?_;go_simp
   exact hK _ _ ⟨rfl,hM⟩
 ·intro l9 W9 hl9 hM;have hS:=hM;clear hM;simp only [ay.lay,List.setIfInBounds_toArray,List.set_cons_zero,List.set_cons_succ];obtain ⟨⟨ya,yb,yc,-⟩,-⟩:=hS.cells;go_wp2
  go_ret
  exact ⟨rfl,hS.fr⟩
theorem mO(mode:Nat)(s o:Bool)(h:Int)(hm:mode≤4)(hh:h = -1∨h=0∨h=1)(w:World) :
  Calls Tryz.prog 164 #[.agg #[.bool s,.bool o,.int .i64 h],.int .u8 (mode:Int)] w fun e w'=>e = .returned (.bool (bN mode s o h))∧Below w.heap.size w w':=by
 have hc:mode=0∨mode=1∨mode=2∨mode=3∨mode=4:=by omega
 rcases hc with rfl|rfl|rfl|rfl|rfl
 ·rcases hh with rfl|rfl|rfl
  ·exact GZ s o w
  ·cases o
   ·exact xS s false w
   ·exact xS s true w
  ·exact F9 s o w
 ·rcases hh with rfl|rfl|rfl
  ·exact Ht s o w
  ·exact Il s o w
  ·exact Gp s o w
 ·exact IZ s o h w
 ·exact I4 s o h w
 ·exact Je s o h w
theorem ofInt_u64(a:Nat)(h:a<18446744073709551616):(BitVec.ofInt 64 (a:Int)).toNat=a:=by
 rw [BitVec.ofInt_natCast,BitVec.toNat_ofNat];exact Nat.mod_eq_of_lt h
theorem gW(a b c:Nat)(hc:c<18446744073709551616)(h:∀i,i<64→c.testBit i=(a.testBit i && !b.testBit i)) :
  Go.bits .andNot .u64 (a:Int) (b:Int)=(c:Int):=by
 show IntKind.u64.wrap ((BitVec.ofInt 64 (a:Int) &&& ~~~ BitVec.ofInt 64 (b:Int)).toNat:Int)=_
 have e:BitVec.ofInt 64 (a:Int) &&& ~~~ BitVec.ofInt 64 (b:Int)=BitVec.ofInt 64 (c:Int):=by
  apply BitVec.eq_of_getLsbD_eq;intro i hi;have ga:∀x:Nat,(BitVec.ofInt 64 (x:Int)).getLsbD i=x.testBit i:=fun x=>by
   rw [BitVec.ofInt_natCast,BitVec.getLsbD_ofNat];simp [hi]
  rw [BitVec.getLsbD_and,BitVec.getLsbD_not,ga,ga,ga,h i hi];simp [hi]
 rw [e,ofInt_u64 c hc,IntKind.wrap_u64];omega
theorem uf(a b:Nat)(k q:Nat)(hq:a=q*2^k)(hb:b<2^k)(ha:a+b<18446744073709551616):Go.bits .or .u64 (a:Int) (b:Int)=((a+b:Nat):Int):=by
 have h:=bits_or_u64_nat a b (by omega) (by omega);have e:a|||b=a+b:=by
  have:=Nat.two_pow_add_eq_or_of_lt (i:=k) (b:=b) hb q;rw [hq,Nat.mul_comm q];exact this.symm
 rw [h,e]
theorem aJ{n k:Nat}(h:n≤k):2^n≤2^k:=Nat.pow_le_pow_right (by decide) h
theorem aL(n:Nat):0<2^n:=Nat.pow_pos (by decide)
theorem jM(b K:Nat)(hK:K≤63)(hb:b<2^(K+1)):Go.bits .andNot .u64 (b:Int) ((2^K:Nat):Int)=((b%2^K:Nat):Int):=by
 have h1:=aJ (show K+1≤64 by omega);have h2:=aJ hK;have h3:=Nat.mod_le b (2^K);refine gW b (2^K) (b%2^K) (by omega) fun i _=>?_;rw [Nat.testBit_mod_two_pow,Nat.testBit_two_pow];by_cases h:i<K
 ·have:K≠i:=by omega
  simp [h,this]
 ·by_cases he:K=i
  ·simp [he]
  ·have:b.testBit i=false:=Nat.testBit_lt_two_pow (Nat.lt_of_lt_of_le hb (aJ (by omega)));simp [this]
theorem zN(a b:Nat):∃c:Nat,c<18446744073709551616∧Go.bits .andNot .u64 (a:Int) (b:Int)=(c:Int)∧∀i,i<64→c.testBit i=(a.testBit i && !b.testBit i):=by
 refine ⟨(BitVec.ofNat 64 a &&& ~~~ BitVec.ofNat 64 b).toNat,(BitVec.ofNat 64 a &&& ~~~ BitVec.ofNat 64 b).isLt,?_,?_⟩
 ·refine gW a b _ (BitVec.ofNat 64 a &&& ~~~ BitVec.ofNat 64 b).isLt fun i hi=>?_;rw [BitVec.testBit_toNat,BitVec.getLsbD_and,BitVec.getLsbD_not,BitVec.getLsbD_ofNat,BitVec.getLsbD_ofNat];simp [hi]
 ·intro i hi;rw [BitVec.testBit_toNat,BitVec.getLsbD_and,BitVec.getLsbD_not,BitVec.getLsbD_ofNat,BitVec.getLsbD_ofNat];simp [hi]
theorem E5(E F i:Nat):((2^E-1)*2^F).testBit i=(decide (F≤i)&&decide (i<F+E)):=by
 rw [Nat.testBit_mul_two_pow];by_cases h:F≤i
 ·rw [Nat.testBit_two_pow_sub_one];simp [h];omega
 ·simp [h]
theorem zi(b E F:Nat)(hK:F+E≤63)(hb:b<2^(F+E+1)):∃c:Nat,c<18446744073709551616∧Go.bits .andNot .u64 (b:Int) (((2^E-1)*2^F:Nat):Int)=(c:Int)∧Go.bits .andNot .u64 (c:Int) ((2^(F+E):Nat):Int)=((b%2^F:Nat):Int):=by
 obtain ⟨c,hc,h1,h2⟩:=zN b ((2^E-1)*2^F);refine ⟨c,hc,h1,gW _ _ _ ?_ fun i hi=>?_⟩
 ·have h3:=Nat.mod_lt b (aL F);have h4:=aJ (show F≤63 by omega);omega
 ·rw [h2 i hi,E5,Nat.testBit_mod_two_pow,Nat.testBit_two_pow];by_cases h:i<F
  ·have e1:¬F≤i:=by omega
   have e2:F+E≠i:=by omega
   simp [h,e1,e2]
  ·by_cases h':i<F+E
   ·have e1:F≤i:=by omega
    simp [h,e1,h']
   ·by_cases he:F+E=i
    ·simp [h,he]
    ·have:b.testBit i=false:=Nat.testBit_lt_two_pow (Nat.lt_of_lt_of_le hb (aJ (by omega)));simp [h,this]
theorem pY(q k:Nat)(h:q*2^k<18446744073709551616):Go.bits .andNot .u64 ((q*2^k:Nat):Int) ((2^k-1:Nat):Int)=((q*2^k:Nat):Int):=by
 refine gW _ _ _ h fun i _=>?_;rw [Nat.testBit_mul_two_pow,Nat.testBit_two_pow_sub_one];by_cases h:k≤i
 ·have:¬i<k:=by omega
  simp [h,this]
 ·simp [h]
theorem pW(b K:Nat)(hb:b<2^K)(hK:K≤63):Go.bits .andNot .u64 (b:Int) ((2^K:Nat):Int)=(b:Int):=by
 have:=jM b K hK (by rw [Nat.pow_succ];omega);rw [this,Nat.mod_eq_of_lt hb]
theorem xA(m:Nat):Go.bits .andNot .u64 0 (m:Int)=0:=by
 have:=gW 0 m 0 (by decide) fun i _=>by simp
 exact this
theorem kg(n k:Nat)(h:n*2^k<18446744073709551616):IntKind.u64.wrap ((n:Int)*2^k)=((n*2^k:Nat):Int):=by
 rw [IntKind.wrap_u64,show ((n:Int)*2^k)=((n*2^k:Nat):Int) by simp];omega
theorem rP(k:Nat)(h:k≤63):IntKind.u64.wrap (IntKind.u64.wrap (2^k)-1)=((2^k-1:Nat):Int):=by
 have h1:=aJ h;have h2:=aL k;have e:((2:Int)^k)=((2^k:Nat):Int):=by simp
 rw [IntKind.wrap_u64,IntKind.wrap_u64,e];omega
theorem gG{a b:Int}(h:a=b):Ending.returned (.int .u64 a) = .returned (.int .u64 b):=by rw [h]
theorem E8{a b:Int}(h:a=b):Ending.returned (.int .i64 a) = .returned (.int .i64 b):=by rw [h]
structure Fo(E F:Nat):Prop where
 e2:2≤E
 e11:E≤11
 f1:1≤F
 f52:F≤52
theorem dW(E F:Nat)(w:World)(h:Fo E F):Calls Tryz.prog 66 #[.agg #[.int .i64 E,.int .i64 F]] w fun e w'=>e = .returned (.int .i64 0)∧Below w.heap.size w w':=by
 obtain ⟨h1,h2,h3,h4⟩:=h;go_enter Tryz.func66,Tryz.ntmps66
 go_wp2
 go_ret
 exact ⟨rfl,ah _ _⟩
theorem zg(E F:Int)(w:World)(h:E<2∨11<E∨F<1∨52<F):Calls Tryz.prog 66 #[.agg #[.int .i64 E,.int .i64 F]] w fun e w'=>e = .returned (.int .i64 5)∧Below w.heap.size w w':=by
 go_enter Tryz.func66,Tryz.ntmps66
 go_wp2
 all_goals first
  | (go_ret;exact ⟨rfl,ah _ _⟩)
  | (exfalso;omega)
theorem FP(E F:Nat)(w:World):Calls Tryz.prog 68 #[.agg #[.int .i64 E,.int .i64 F],.int .i64 0] w fun e w'=>e = .returned (.int .i64 (F:Int))∧Below w.heap.size w w':=by
 go_enter Tryz.func68,Tryz.ntmps68
 go_wp2
 go_ret
 exact ⟨rfl,ah _ _⟩
theorem Gn(E F:Nat)(w:World):Calls Tryz.prog 68 #[.agg #[.int .i64 E,.int .i64 F],.int .i64 1] w fun e w'=>e = .returned (.int .i64 (E:Int))∧Below w.heap.size w w':=by
 go_enter Tryz.func68,Tryz.ntmps68
 go_wp2
 go_ret
 exact ⟨rfl,ah _ _⟩
theorem uk(E F:Nat)(w:World):Calls Tryz.prog 68 #[.agg #[.int .i64 E,.int .i64 F],.int .i64 2] w fun e w'=>e = .returned (.int .i64 1)∧Below w.heap.size w w':=by
 go_enter Tryz.func68,Tryz.ntmps68
 go_wp2
 go_ret
 exact ⟨rfl,ah _ _⟩
theorem rU(E F:Nat)(w:World):Calls Tryz.prog 67 #[.agg #[.int .i64 E,.int .i64 F],.int .i64 0] w fun e w'=>e = .returned (.int .i64 0)∧Below w.heap.size w w':=by
 go_enter Tryz.func67,Tryz.ntmps67
 go_wp2
 go_ret
 exact ⟨rfl,ah _ _⟩
theorem rZ(E F:Nat)(w:World):Calls Tryz.prog 67 #[.agg #[.int .i64 E,.int .i64 F],.int .i64 1] w fun e w'=>e = .returned (.int .i64 (F:Int))∧Below w.heap.size w w':=by
 go_enter Tryz.func67,Tryz.ntmps67
 go_wp2
 go_ret
 exact ⟨rfl,ah _ _⟩
theorem lM(E F k:Nat)(w:World)(h:Fo E F)(hk:Hid (k=F+E)):Calls Tryz.prog 67 #[.agg #[.int .i64 E,.int .i64 F],.int .i64 2] w fun e w'=>e = .returned (.int .i64 (k:Int))∧Below w.heap.size w w':=by
 obtain ⟨h1,h2,h3,h4⟩:=h;go_enter Tryz.func67,Tryz.ntmps67
 go_wp2
 go_ret
 exact ⟨by rw [aa hk];rfl,ah _ _⟩
theorem xc(E F m:Nat)(w:World)(h:Fo E F)(hm:Hid (m=2^F-1)):Calls Tryz.prog 94 #[.agg #[.int .i64 E,.int .i64 F],.int .i64 0] w fun e w'=>e = .returned (.int .u64 (m:Int))∧Below w.heap.size w w':=by
 have h2:=h.e11;have h4:=h.f52;go_enter Tryz.func94,Tryz.ntmps94
 go_wp2_with fail
 refine (FP _ _ _).mono ?_;rintro e w1 ⟨rfl,hb1⟩;go_wp2
 go_ret
 exact ⟨gG (by rw [rP F (by omega),aa hm]),ai (ah _ _) hb1⟩
theorem xI(E F m:Nat)(w:World)(h:Fo E F)(hm:Hid (m=2^E-1)):Calls Tryz.prog 94 #[.agg #[.int .i64 E,.int .i64 F],.int .i64 1] w fun e w'=>e = .returned (.int .u64 (m:Int))∧Below w.heap.size w w':=by
 have h2:=h.e11;have h4:=h.f52;go_enter Tryz.func94,Tryz.ntmps94
 go_wp2_with fail
 refine (Gn _ _ _).mono ?_;rintro e w1 ⟨rfl,hb1⟩;go_wp2
 go_ret
 exact ⟨gG (by rw [rP E (by omega),aa hm]),ai (ah _ _) hb1⟩
theorem IK(E F:Nat)(w:World):Calls Tryz.prog 94 #[.agg #[.int .i64 E,.int .i64 F],.int .i64 2] w fun e w'=>e = .returned (.int .u64 1)∧Below w.heap.size w w':=by
 go_enter Tryz.func94,Tryz.ntmps94
 go_wp2_with fail
 refine (uk _ _ _).mono ?_;rintro e w1 ⟨rfl,hb1⟩;go_wp2
 go_ret
 exact ⟨rfl,ai (ah _ _) hb1⟩
theorem IW(E F m:Nat)(w:World)(h:Fo E F)(hm:Hid (m=2^F-1)):Calls Tryz.prog 109 #[.agg #[.int .i64 E,.int .i64 F],.int .i64 0] w fun e w'=>e = .returned (.int .u64 (m:Int))∧Below w.heap.size w w':=by
 have hs:m<18446744073709551616:=by
  have h1:=aJ (show F≤63 by have:=h.f52;omega);have:=aa hm;omega
 go_enter Tryz.func109,Tryz.ntmps109
 go_wp2_with fail
 refine (xc _ _ m _ h hm).mono ?_;rintro e w1 ⟨rfl,hb1⟩;obtain ⟨hc1,hf1⟩:=bO hb1;go_wp2_with fail
 refine (rU _ _ _).mono ?_;rintro e w2 ⟨rfl,hb2⟩;go_wp2
 go_ret
 exact ⟨rfl,ai (ai (ah _ _) hb1) hb2⟩
theorem Df(E F m:Nat)(w:World)(h:Fo E F)(hm:Hid (m=(2^E-1)*2^F)):Calls Tryz.prog 109 #[.agg #[.int .i64 E,.int .i64 F],.int .i64 1] w fun e w'=>e = .returned (.int .u64 (m:Int))∧Below w.heap.size w w':=by
 obtain ⟨n,hn⟩:∃n,n=2^E-1:=⟨_,rfl⟩;have HN:=hide hn;have hlt:n*2^F<18446744073709551616:=by
  have h1:=aJ (show E+F≤63 by have:=h.f52;have:=h.e11;omega);have:n*2^F≤2^E*2^F:=Nat.mul_le_mul_right _ (hn▸Nat.sub_le _ _);rw [←Nat.pow_add] at this;omega
 have HE:Hid (IntKind.u64.wrap ((n:Int)*2^F)=(m:Int)):=hide (by rw [kg n F hlt,aa hm,hn]);have h4:=h.f52;clear hn hlt;go_enter Tryz.func109,Tryz.ntmps109
 go_wp2_with fail
 refine (xI _ _ n _ h HN).mono ?_;rintro e w1 ⟨rfl,hb1⟩;obtain ⟨hc1,hf1⟩:=bO hb1;go_wp2_with fail
 refine (rZ _ _ _).mono ?_;rintro e w2 ⟨rfl,hb2⟩;go_wp2
 go_ret
 exact ⟨gG (aa HE),ai (ai (ah _ _) hb1) hb2⟩
theorem wX(E F m:Nat)(w:World)(h:Fo E F)(hm:Hid (m=2^(F+E))):Calls Tryz.prog 109 #[.agg #[.int .i64 E,.int .i64 F],.int .i64 2] w fun e w'=>e = .returned (.int .u64 (m:Int))∧Below w.heap.size w w':=by
 obtain ⟨k,hk⟩:∃k,k=F+E:=⟨_,rfl⟩;have HK:=hide hk;have hk63:k≤63:=by have:=h.f52;have:=h.e11;omega
 have HE:Hid (IntKind.u64.wrap (2^k)=(m:Int)):=hide (by
  have:=kg 1 k (by have:=aJ hk63;omega);rw [aa hm,←hk];simpa using this)
 clear hk;go_enter Tryz.func109,Tryz.ntmps109
 go_wp2_with fail
 refine (IK _ _ _).mono ?_;rintro e w1 ⟨rfl,hb1⟩;obtain ⟨hc1,hf1⟩:=bO hb1;go_wp2_with fail
 refine (lM _ _ k _ h HK).mono ?_;rintro e w2 ⟨rfl,hb2⟩;go_wp2
 go_ret
 exact ⟨gG (aa HE),ai (ai (ah _ _) hb1) hb2⟩
theorem ul(E F m:Nat)(w:World)(h:Fo E F)(hm:Hid (m=2^(E-1)-1)):Calls Tryz.prog 97 #[.agg #[.int .i64 E,.int .i64 F]] w fun e w'=>e = .returned (.int .i64 (m:Int))∧Below w.heap.size w w':=by
 have h3:=h.e2;obtain ⟨k,rfl⟩:∃k,E=k+1:=⟨E-1,by omega⟩;have hk:k≤10:=by have:=h.e11;omega
 have HE:Hid (wrap64 (wrap64 (2^k)-1)=(m:Int)):=hide (by
  have h1:=aJ hk;have h2:=aL k;have e:((2:Int)^k)=((2^k:Nat):Int):=by simp
  rw [aa hm,e,Nat.add_sub_cancel];unfold wrap64;omega)
 clear h h3;go_enter Tryz.func97,Tryz.ntmps97
 go_wp2
 go_ret
 exact ⟨E8 (by simpa using aa HE),ah _ _⟩
theorem jT(E F m:Nat)(w:World)(h:Fo E F)(hm:Hid (m=2^E-1)):Calls Tryz.prog 45 #[.agg #[.int .i64 E,.int .i64 F]] w fun e w'=>e = .returned (.int .i64 (m:Int))∧Below w.heap.size w w':=by
 have hm2:m≤2048:=by have:=aJ h.e11;rw [aa hm];omega
 go_enter Tryz.func45,Tryz.ntmps45
 go_wp2_with fail
 refine (xI _ _ m _ h hm).mono ?_;rintro e w1 ⟨rfl,hb1⟩;go_wp2
 go_ret
 exact ⟨rfl,ai (ah _ _) hb1⟩
structure Bt(E F b:Nat)(neg:Bool)(ex fr:Nat):Prop where
 fr_lt:fr<2^F
 ex_lt:ex<2^E
 eq:b=neg.toNat*2^(F+E)+(ex*2^F+fr)
theorem Bt.low{E F b ex fr:Nat}{neg:Bool}(h:Bt E F b neg ex fr):ex*2^F+fr<2^(F+E):=by
 have h1:=h.fr_lt;have h2:(ex+1)*2^F≤2^E*2^F:=Nat.mul_le_mul_right _ h.ex_lt;rw [Nat.add_mul,Nat.one_mul,←Nat.pow_add,Nat.add_comm E F] at h2;omega
theorem Bt.lt{E F b ex fr:Nat}{neg:Bool}(h:Bt E F b neg ex fr):b<2^(F+E+1):=by
 have h1:=h.low;have h2:=h.eq;rw [Nat.pow_succ];cases neg<;>simp at h2<;>omega
theorem Bt.of(E F b:Nat)(hb:b<2^(F+E+1)):Bt E F b (decide (b/2^(F+E)=1)) (b%2^(F+E)/2^F) (b%2^F):=by
 have hq:b/2^(F+E)<2:=by
  rw [Nat.div_lt_iff_lt_mul (aL _)];rw [Nat.pow_succ] at hb;omega
 have e1:=Nat.div_add_mod b (2^(F+E));have e2:=Nat.div_add_mod (b%2^(F+E)) (2^F);rw [Nat.mod_mod_of_dvd b (Nat.pow_dvd_pow 2 (by omega))] at e2;refine ⟨Nat.mod_lt _ (aL _),?_,?_⟩
 ·rw [Nat.div_lt_iff_lt_mul (aL _),←Nat.pow_add,Nat.add_comm E F];exact Nat.mod_lt _ (aL _)
 ·rw [Nat.mul_comm (b%2^(F+E)/2^F),e2];by_cases h:b/2^(F+E)=1
  ·rw [h] at e1;simp [h];omega
  ·have h0:b/2^(F+E)=0:=by generalize b/2^(F+E)=q at hq h;omega
   rw [h0] at e1;simp [h];omega
theorem Bt.sign{E F b ex fr:Nat}{neg:Bool}(h:Bt E F b neg ex fr):b/2^(F+E)=neg.toNat:=by
 rw [h.eq,Nat.mul_comm,Nat.mul_add_div (aL _),Nat.div_eq_of_lt h.low,Nat.add_zero]
theorem Bt.rest{E F b ex fr:Nat}{neg:Bool}(h:Bt E F b neg ex fr):b%2^(F+E)=ex*2^F+fr:=by
 rw [h.eq,Nat.mul_comm,Nat.mul_add_mod,Nat.mod_eq_of_lt h.low]
theorem Bt.exp{E F b ex fr:Nat}{neg:Bool}(h:Bt E F b neg ex fr):b%2^(F+E)/2^F=ex:=by
 rw [h.rest,Nat.mul_comm,Nat.mul_add_div (aL _),Nat.div_eq_of_lt h.fr_lt,Nat.add_zero]
theorem Bt.frac{E F b ex fr:Nat}{neg:Bool}(h:Bt E F b neg ex fr):b%2^F=fr:=by
 rw [←Nat.mod_mod_of_dvd b (Nat.pow_dvd_pow 2 (show F≤F+E by omega)),h.rest,Nat.mul_comm,Nat.mul_add_mod,Nat.mod_eq_of_lt h.fr_lt]
theorem Bt.up{E F b ex fr:Nat}{neg:Bool}(h:Bt E F b neg ex fr):b/2^F=neg.toNat*2^E+ex:=by
 rw [h.eq,Nat.pow_add,show neg.toNat*(2^F*2^E)+(ex*2^F+fr)=2^F*(neg.toNat*2^E+ex)+fr by
  rw [Nat.mul_add,←Nat.mul_assoc,Nat.mul_comm neg.toNat,Nat.mul_assoc,Nat.mul_comm ex];omega,
  Nat.mul_add_div (aL _),Nat.div_eq_of_lt h.fr_lt,Nat.add_zero]
theorem Fo.sum{E F:Nat}(h:Fo E F):F+E≤63:=by have:=h.f52;have:=h.e11;omega
theorem Bt.u64{E F b ex fr:Nat}{neg:Bool}(h:Bt E F b neg ex fr)(f:Fo E F):b<18446744073709551616:=by
 have h1:=h.lt;have h2:=aJ (show F+E+1≤64 by have:=f.sum;omega);omega
theorem Bt.fr64{E F b ex fr:Nat}{neg:Bool}(h:Bt E F b neg ex fr)(f:Fo E F):fr<4503599627370496:=by
 have h1:=h.fr_lt;have h2:=aJ f.f52;omega
theorem Bt.ex64{E F b ex fr:Nat}{neg:Bool}(h:Bt E F b neg ex fr)(f:Fo E F):ex<2048:=by
 have h1:=h.ex_lt;have h2:=aJ f.e11;omega
theorem take2(E F b ex fr:Nat)(neg:Bool)(w:World)(h:Fo E F)(hB:Bt E F b neg ex fr):Calls Tryz.prog 69 #[.agg #[.int .i64 E,.int .i64 F],.int .u64 b,.int .i64 2] w fun e w'=>e = .returned (.int .u64 (neg.toNat:Int))∧Below w.heap.size w w':=by
 obtain ⟨k,hk⟩:∃k,k=F+E:=⟨_,rfl⟩;have HK:=hide hk;have hk63:k≤63:=by have:=h.sum;omega
 obtain ⟨n,hn⟩:∃n,n=neg.toNat:=⟨_,rfl⟩;rw [←hn];have HN:Hid (n=b/2^k):=hide (by rw [hk,hB.sign,hn]);clear hk hn hB;go_enter Tryz.func69,Tryz.ntmps69
 go_wp2_with fail
 refine wp_loop_rounds 1 ?_;rw [rounds_succ];go_wp2_with fail
 refine (lM _ _ k _ h HK).mono ?_;rintro e w1 ⟨rfl,hb1⟩;go_wp2
 go_ret
 exact ⟨gG (by rw [aa HN];simp),ai (ah _ _) hb1⟩
theorem take1(E F b ex fr:Nat)(neg:Bool)(w:World)(h:Fo E F)(hB:Bt E F b neg ex fr):Calls Tryz.prog 69 #[.agg #[.int .i64 E,.int .i64 F],.int .u64 b,.int .i64 1] w fun e w'=>e = .returned (.int .u64 (ex:Int))∧Below w.heap.size w w':=by
 obtain ⟨m,hm⟩:∃m,m=2^(F+E):=⟨_,rfl⟩;have HM:=hide hm;obtain ⟨c,hc⟩:∃c,c=b%2^(F+E):=⟨_,rfl⟩;have hbn:Go.bits .andNot .u64 (b:Int) (m:Int)=(c:Int):=by rw [hm,jM b (F+E) h.sum hB.lt,hc]
 have hcl:c<18446744073709551616:=by
  have h1:=aJ h.sum;have h2:=Nat.mod_lt b (aL (F+E));omega
 have HN:Hid (ex=c/2^F):=hide (by rw [hc,hB.exp]);have h4:=h.f52;clear hc hm hB;go_enter Tryz.func69,Tryz.ntmps69
 go_wp2_with fail
 refine wp_loop_rounds 2 ?_;rw [rounds_succ];go_wp2_with fail
 refine (wX _ _ m _ h HM).mono ?_;rintro e w1 ⟨rfl,hb1⟩;obtain ⟨hc1,hf1⟩:=bO hb1;go_wp2_with fail
 rw [rounds_succ];go_wp2_with fail
 refine (rZ _ _ _).mono ?_;rintro e w2 ⟨rfl,hb2⟩;go_wp2
 go_ret
 exact ⟨gG (by rw [aa HN];simp),ai (ai (ah _ _) hb1) hb2⟩
theorem IE(E F b ex fr:Nat)(neg:Bool)(w:World)(h:Fo E F)(hB:Bt E F b neg ex fr):Calls Tryz.prog 69 #[.agg #[.int .i64 E,.int .i64 F],.int .u64 b,.int .i64 0] w fun e w'=>e = .returned (.int .u64 (fr:Int))∧Below w.heap.size w w':=by
 obtain ⟨m,hm⟩:∃m,m=2^(F+E):=⟨_,rfl⟩;have HM:=hide hm;obtain ⟨m1,hm1⟩:∃m1,m1=(2^E-1)*2^F:=⟨_,rfl⟩;have HM1:=hide hm1;obtain ⟨c,hcl,hb1,hb2⟩:=zi b E F h.sum hB.lt;rw [←hm1] at hb1;rw [←hm,hB.frac] at hb2;have hfl:=hB.fr64 h;clear hm hm1 hB;go_enter Tryz.func69,Tryz.ntmps69
 go_wp2_with fail
 refine wp_loop_rounds 3 ?_;rw [rounds_succ];go_wp2_with fail
 refine (Df _ _ m1 _ h HM1).mono ?_;rintro e w1 ⟨rfl,hb1⟩;have hS:=(Fs.one w _ _).kept hb1;obtain ⟨⟨ca,cb,-⟩,-⟩:=hS.cells;go_wp2_with fail
 rw [rounds_succ];go_wp2_with fail
 refine (wX _ _ m _ h HM).mono ?_;rintro e w2 ⟨rfl,hb2⟩;replace hS:=hS.kept hb2;clear ca cb;obtain ⟨⟨ca,cb,-⟩,-⟩:=hS.cells;go_wp2_with fail
 rw [rounds_succ];go_wp2_with fail
 refine (rU _ _ _).mono ?_;rintro e w3 ⟨rfl,hb3⟩;go_wp2
 go_ret
 exact ⟨rfl,(hS.kept hb3).fr⟩
theorem FN(E F ex t:Nat)(w:World)(h:Fo E F)(hx:ex<2^E)(ht:Hid (t=ex*2^F)):Calls Tryz.prog 131 #[.agg #[.int .i64 E,.int .i64 F],.int .u64 0,.int .i64 1,.int .u64 ex] w fun e w'=>e = .returned (.int .u64 (t:Int))∧Below w.heap.size w w':=by
 obtain ⟨m1,hm1⟩:∃m1,m1=(2^E-1)*2^F:=⟨_,rfl⟩;have HM1:=hide hm1;have hlt:ex*2^F<18446744073709551616:=by
  have h1:=aJ (show E+F≤63 by have:=h.sum;omega);have:ex*2^F≤2^E*2^F:=Nat.mul_le_mul_right _ (Nat.le_of_lt hx);rw [←Nat.pow_add] at this;omega
 have h4:=h.f52;have hz:=xA m1;have HE:Hid (Go.bits .or .u64 0 (IntKind.u64.wrap ((ex:Int)*2^F))=(t:Int)):=hide (by
  rw [kg ex F hlt,aa ht];have:=uf 0 (ex*2^F) 64 0 (by simp) (by omega) (by omega);simpa using this)
 clear hm1 hlt hx;go_enter Tryz.func131,Tryz.ntmps131
 go_wp2_with fail
 refine (Df _ _ m1 _ h HM1).mono ?_;rintro e w1 ⟨rfl,hb1⟩;obtain ⟨hc1,hf1⟩:=bO hb1;go_wp2_with fail
 refine (rZ _ _ _).mono ?_;rintro e w2 ⟨rfl,hb2⟩;go_wp2
 go_ret
 exact ⟨gG (aa HE),ai (ai (ah _ _) hb1) hb2⟩
theorem Hl(E F ex t fr r:Nat)(w:World)(h:Fo E F)(hx:ex<2^E)(hf:fr<2^F)(ht:Hid (t=ex*2^F))(hr:Hid (r=t+fr)):Calls Tryz.prog 131 #[.agg #[.int .i64 E,.int .i64 F],.int .u64 t,.int .i64 0,.int .u64 fr] w fun e w'=>e = .returned (.int .u64 (r:Int))∧Below w.heap.size w w':=by
 obtain ⟨m1,hm1⟩:∃m1,m1=2^F-1:=⟨_,rfl⟩;have HM1:=hide hm1;have hB:Bt E F (ex*2^F+fr) false ex fr:=⟨hf,hx,by simp⟩;have hlt:=hB.u64 h;have hz:Go.bits .andNot .u64 (t:Int) (m1:Int)=(t:Int):=by
  rw [aa ht,hm1];exact pY ex F (by omega)
 have hor:Go.bits .or .u64 (t:Int) (fr:Int)=(r:Int):=by
  rw [aa hr];exact uf t fr F ex (aa ht) hf (by rw [aa ht];exact hlt)
 have hfl:=hB.fr64 h;clear hm1 hlt hx hf hB;go_enter Tryz.func131,Tryz.ntmps131
 go_wp2_with fail
 refine (IW _ _ m1 _ h HM1).mono ?_;rintro e w1 ⟨rfl,hb1⟩;obtain ⟨hc1,hf1⟩:=bO hb1;go_wp2_with fail
 refine (rU _ _ _).mono ?_;rintro e w2 ⟨rfl,hb2⟩;go_wp2
 go_ret
 exact ⟨rfl,ai (ai (ah _ _) hb1) hb2⟩
theorem JG(E F b r:Nat)(w:World)(h:Fo E F)(hb:b<2^(F+E))(hr:Hid (r=b+2^(F+E))):Calls Tryz.prog 131 #[.agg #[.int .i64 E,.int .i64 F],.int .u64 b,.int .i64 2,.int .u64 1] w fun e w'=>e = .returned (.int .u64 (r:Int))∧Below w.heap.size w w':=by
 obtain ⟨m,hm⟩:∃m,m=2^(F+E):=⟨_,rfl⟩;have HM:=hide hm;obtain ⟨k,hk⟩:∃k,k=F+E:=⟨_,rfl⟩;have HK:=hide hk;have hk63:k≤63:=by have:=h.sum;omega
 have hz:Go.bits .andNot .u64 (b:Int) (m:Int)=(b:Int):=by
  rw [hm];exact pW b (F+E) hb h.sum
 have HE:Hid (Go.bits .or .u64 (b:Int) (IntKind.u64.wrap (2^k))=(r:Int)):=hide (by
  have h1:=aJ hk63;have h2:=kg 1 k (by omega);rw [Nat.one_mul] at h2;rw [show ((1:Nat):Int)*2^k=2^k by simp] at h2;rw [h2,aa hr,←hk];rw [←hk] at hb;have h3:=bits_or_u64_nat b (2^k) (by omega) (by omega);have e:b|||2^k=b+2^k:=by
   have:=Nat.two_pow_add_eq_or_of_lt (i:=k) (b:=b) hb 1;rw [Nat.mul_one] at this;rw [Nat.or_comm,←this,Nat.add_comm]
  rw [h3,e])
 clear hm hk hb;go_enter Tryz.func131,Tryz.ntmps131
 go_wp2_with fail
 refine (wX _ _ m _ h HM).mono ?_;rintro e w1 ⟨rfl,hb1⟩;obtain ⟨hc1,hf1⟩:=bO hb1;go_wp2_with fail
 refine (lM _ _ k _ h HK).mono ?_;rintro e w2 ⟨rfl,hb2⟩;go_wp2
 go_ret
 exact ⟨gG (aa HE),ai (ai (ah _ _) hb1) hb2⟩
theorem lh(E F b ex fr:Nat)(neg:Bool)(w:World)(h:Fo E F)(hB:Bt E F b neg ex fr):Calls Tryz.prog 95 #[.agg #[.int .i64 E,.int .i64 F],.agg #[.bool neg,.int .i64 ex,.int .u64 fr]] w fun e w'=>e = .returned (.int .u64 (b:Int))∧Below w.heap.size w w':=by
 obtain ⟨t,ht⟩:∃t,t=ex*2^F:=⟨_,rfl⟩;obtain ⟨r,hr⟩:∃r,r=t+fr:=⟨_,rfl⟩;have HT:=hide ht;have HR:=hide hr;have hrl:Hid (r<2^(F+E)):=hide (by rw [hr,ht];exact hB.low);have hexl:=hB.ex64 h;have HX:=hide hB.ex_lt;have HF:=hide hB.fr_lt;cases neg with
 | false=>
  have hbr:b=r:=by have:=hB.eq;simp at this;rw [hr,ht,this]
  rw [hbr];clear hbr ht hr hB;go_enter Tryz.func95,Tryz.ntmps95
  go_wp2_with fail
  refine (FN _ _ ex t _ h (aa HX) HT).mono ?_;rintro e w1 ⟨rfl,hb1⟩;have hS:=(Fs.two w _ _ _ _).kept hb1;obtain ⟨⟨ca,cb,-⟩,⟨cc,cd,ce,-⟩,-⟩:=hS.cells;go_wp2_with fail
  refine (Hl _ _ ex t fr r _ h (aa HX) (aa HF) HT HR).mono ?_;rintro e w2 ⟨rfl,hb2⟩;replace hS:=hS.kept hb2;clear ca cb cc cd ce;obtain ⟨⟨ca,cb,-⟩,⟨cc,cd,ce,-⟩,-⟩:=hS.cells;go_wp2
  go_ret
  exact ⟨rfl,hS.fr⟩
 | true=>
  have HB:Hid (b=r+2^(F+E)):=hide (by have:=hB.eq;simp at this;rw [hr,ht,this];omega);clear ht hr hB;go_enter Tryz.func95,Tryz.ntmps95
  go_wp2_with fail
  refine (FN _ _ ex t _ h (aa HX) HT).mono ?_;rintro e w1 ⟨rfl,hb1⟩;have hS:=(Fs.two w _ _ _ _).kept hb1;obtain ⟨⟨ca,cb,-⟩,⟨cc,cd,ce,-⟩,-⟩:=hS.cells;go_wp2_with fail
  refine (Hl _ _ ex t fr r _ h (aa HX) (aa HF) HT HR).mono ?_;rintro e w2 ⟨rfl,hb2⟩;replace hS:=hS.kept hb2;clear ca cb cc cd ce;obtain ⟨⟨ca,cb,-⟩,⟨cc,cd,ce,-⟩,-⟩:=hS.cells;go_wp2_with fail
  refine (JG _ _ r b _ h (aa hrl) HB).mono ?_;rintro e w3 ⟨rfl,hb3⟩;go_wp2
  go_ret
  exact ⟨rfl,(hS.kept hb3).fr⟩
theorem ql(E F b ex fr:Nat)(neg:Bool)(h:Fo E F)(hB:Bt E F b neg ex fr)(w:World):Calls Tryz.prog 27 #[.agg #[.int .i64 E,.int .i64 F],.int .u64 b] w fun e w'=>e = .returned (.agg #[.bool neg,.int .i64 ex,.int .u64 fr])∧Below w.heap.size w w':=by
 have HB:=hide hB;have hexl:=hB.ex64 h;clear hB;go_enter Tryz.func27,Tryz.ntmps27
 go_wp2_with fail
 refine wp_region_any (by kernel_rfl) ?_;refine aM [some (5,.agg #[.int .i64 E,.int .i64 F]),some (6,.int .u64 b),some (7,.int .u64 (neg.toNat:Int)),some (8,.bool neg),some (9,.agg #[.int .i64 E,.int .i64 F]),some (10,.int .u64 b),some (11,.int .u64 ex),some (12,.int .i64 ex),some (13,.agg #[.int .i64 E,.int .i64 F]),some (14,.int .u64 b),some (15,.int .u64 fr),some (16,.agg #[.bool neg,.int .i64 ex,.int .u64 fr]),none]
  (fun l9 W9=>Fs w W9 (aS l9 [(12,[⟨w.heap.size,#[.int .i64 E,.int .i64 F],23⟩,⟨w.heap.size+1,#[.bool neg,.int .i64 ex,.int .u64 fr],35⟩])] [⟨w.heap.size,#[.int .i64 E,.int .i64 F],23⟩,⟨w.heap.size+1,#[.bool false,.int .i64 0,.int .u64 0],35⟩])) _ _ rfl (by kernel_rfl) rfl rfl ?_ ?_ (Fs.two w _ _ _ _).drew
 ·intro l9 t9 W9 i9 hD hi9 hl9 hM;obtain ⟨o9,ho9,hd9⟩:=(mem_ready.1 hi9).2;have hin9:i9<13:=by
   by_cases h:i9<13
   ·exact h
   ·rw [Array.getElem?_eq_none (by rw [hD.len];simp;omega)] at hl9;cases hl9
  have hcase:i9=0∨i9=1∨i9=2∨i9=3∨i9=4∨i9=5∨i9=6∨i9=7∨i9=8∨i9=9∨i9=10∨i9=11∨i9=12:=by omega
  clear hin9;rcases hcase with rfl|rfl|rfl|rfl|rfl|rfl|rfl|rfl|rfl|rfl|rfl|rfl|rfl
  ·cases ho9;have r2:=hD.old 2 _ rfl rfl;have hM0:Fs w W9 [⟨w.heap.size,#[.int .i64 E,.int .i64 F],23⟩,⟨w.heap.size+1,#[.bool false,.int .i64 0,.int .u64 0],35⟩]:=by
    have hM1:=hM;simp only [aS] at hM1;rw [if_neg (hD.waits 0 12 _ ⟨0,.phase⟩ hl9 rfl (by simp) rfl rfl)] at hM1;exact hM1
   have Q_:=hM0.cellAt (b:=w.heap.size) (cs:=#[.int .i64 E,.int .i64 F]) (t:=23) (by simp);have c9_0:=Q_ 0 _ rfl;have c9_1:=Q_ 1 _ rfl;clear Q_;clear hM0;refine wpOp_step rfl fun K hK=>?_;go_simp
   exact hK _ _ ⟨rfl,(keepM rfl hM)⟩
  ·cases ho9;have r1:=hD.old 1 _ rfl rfl;refine wpOp_step rfl fun K hK=>?_;go_simp
   exact hK _ _ ⟨rfl,(keepM rfl hM)⟩
  ·cases ho9;have r5:=hD.od hd9 0 5 _ rfl (by simp);have r6:=hD.od hd9 1 6 _ rfl (by simp);have hM0:Fs w W9 [⟨w.heap.size,#[.int .i64 E,.int .i64 F],23⟩,⟨w.heap.size+1,#[.bool false,.int .i64 0,.int .u64 0],35⟩]:=by
    have hM1:=hM;simp only [aS] at hM1;rw [if_neg (hD.waits 2 12 _ ⟨2,.phase⟩ hl9 rfl (by simp) rfl rfl)] at hM1;exact hM1
   refine wpOp_step rfl fun K hK=>?_;go_simp
   go_wp2_with fail
   refine (take2 _ _ _ ex fr neg _ h (aa HB)).mono ?_;rintro en w9 ⟨rfl,hb9⟩;exact hK _ _ ⟨rfl,keepM rfl (hM.kept hb9)⟩
  ·cases ho9;have r7:=hD.od hd9 2 7 _ rfl (by simp);refine wpOp_step rfl fun K hK=>?_;go_simp
   exact hK _ _ ⟨aU (by cases neg<;>rfl),(keepM rfl hM)⟩
  ·cases ho9;have r2:=hD.old 2 _ rfl rfl;have hM0:Fs w W9 [⟨w.heap.size,#[.int .i64 E,.int .i64 F],23⟩,⟨w.heap.size+1,#[.bool false,.int .i64 0,.int .u64 0],35⟩]:=by
    have hM1:=hM;simp only [aS] at hM1;rw [if_neg (hD.waits 4 12 _ ⟨4,.phase⟩ hl9 rfl (by simp) rfl rfl)] at hM1;exact hM1
   have Q_:=hM0.cellAt (b:=w.heap.size) (cs:=#[.int .i64 E,.int .i64 F]) (t:=23) (by simp);have c9_0:=Q_ 0 _ rfl;have c9_1:=Q_ 1 _ rfl;clear Q_;clear hM0;refine wpOp_step rfl fun K hK=>?_;go_simp
   exact hK _ _ ⟨rfl,(keepM rfl hM)⟩
  ·cases ho9;have r1:=hD.old 1 _ rfl rfl;refine wpOp_step rfl fun K hK=>?_;go_simp
   exact hK _ _ ⟨rfl,(keepM rfl hM)⟩
  ·cases ho9;have r9:=hD.od hd9 4 9 _ rfl (by simp);have r10:=hD.od hd9 5 10 _ rfl (by simp);have hM0:Fs w W9 [⟨w.heap.size,#[.int .i64 E,.int .i64 F],23⟩,⟨w.heap.size+1,#[.bool false,.int .i64 0,.int .u64 0],35⟩]:=by
    have hM1:=hM;simp only [aS] at hM1;rw [if_neg (hD.waits 6 12 _ ⟨6,.phase⟩ hl9 rfl (by simp) rfl rfl)] at hM1;exact hM1
   refine wpOp_step rfl fun K hK=>?_;go_simp
   go_wp2_with fail
   refine (take1 _ _ _ ex fr neg _ h (aa HB)).mono ?_;rintro en w9 ⟨rfl,hb9⟩;exact hK _ _ ⟨rfl,keepM rfl (hM.kept hb9)⟩
  ·cases ho9;have r11:=hD.od hd9 6 11 _ rfl (by simp);refine wpOp_step rfl fun K hK=>?_;go_simp
   exact hK _ _ ⟨aU (by (show Value.int _ _=Value.int _ _;congr 1;(first|rfl|omega|(rw [IntKind.wrap_i64];omega)|(rw [IntKind.wrap_u64];omega)))),(keepM rfl hM)⟩
  ·cases ho9;have r2:=hD.old 2 _ rfl rfl;have hM0:Fs w W9 [⟨w.heap.size,#[.int .i64 E,.int .i64 F],23⟩,⟨w.heap.size+1,#[.bool false,.int .i64 0,.int .u64 0],35⟩]:=by
    have hM1:=hM;simp only [aS] at hM1;rw [if_neg (hD.waits 8 12 _ ⟨8,.phase⟩ hl9 rfl (by simp) rfl rfl)] at hM1;exact hM1
   have Q_:=hM0.cellAt (b:=w.heap.size) (cs:=#[.int .i64 E,.int .i64 F]) (t:=23) (by simp);have c9_0:=Q_ 0 _ rfl;have c9_1:=Q_ 1 _ rfl;clear Q_;clear hM0;refine wpOp_step rfl fun K hK=>?_;go_simp
   exact hK _ _ ⟨rfl,(keepM rfl hM)⟩
  ·cases ho9;have r1:=hD.old 1 _ rfl rfl;refine wpOp_step rfl fun K hK=>?_;go_simp
   exact hK _ _ ⟨rfl,(keepM rfl hM)⟩
  ·cases ho9;have r13:=hD.od hd9 8 13 _ rfl (by simp);have r14:=hD.od hd9 9 14 _ rfl (by simp);have hM0:Fs w W9 [⟨w.heap.size,#[.int .i64 E,.int .i64 F],23⟩,⟨w.heap.size+1,#[.bool false,.int .i64 0,.int .u64 0],35⟩]:=by
    have hM1:=hM;simp only [aS] at hM1;rw [if_neg (hD.waits 10 12 _ ⟨10,.chain⟩ hl9 rfl (by simp) rfl rfl)] at hM1;exact hM1
   refine wpOp_step rfl fun K hK=>?_;go_simp
   go_wp2_with fail
   refine (IE _ _ _ ex fr neg _ h (aa HB)).mono ?_;rintro en w9 ⟨rfl,hb9⟩;exact hK _ _ ⟨rfl,keepM rfl (hM.kept hb9)⟩
  ·cases ho9;have r8:=hD.od hd9 3 8 _ rfl (by simp);have r12:=hD.od hd9 7 12 _ rfl (by simp);have r15:=hD.od hd9 10 15 _ rfl (by simp);refine wpOp_step rfl fun K hK=>?_;go_simp
   exact hK _ _ ⟨rfl,(keepM rfl hM)⟩
  ·cases ho9;have r4:=hD.old 4 _ rfl rfl;have r16:=hD.od hd9 11 16 _ rfl (by simp);have hM0:Fs w W9 [⟨w.heap.size,#[.int .i64 E,.int .i64 F],23⟩,⟨w.heap.size+1,#[.bool false,.int .i64 0,.int .u64 0],35⟩]:=by
    have hM1:=hM;simp only [aS] at hM1;rw [if_neg (by rw [hl9];simp)] at hM1;exact hM1
   have c9_0:=hM0.cellAt (b:=w.heap.size+1) (cs:=#[.bool false,.int .i64 0,.int .u64 0]) (t:=35) (by simp) 0 _ rfl;have z9_0:=hM0.frozen (b:=w.heap.size+1) (cs:=#[.bool false,.int .i64 0,.int .u64 0]) (t:=35) (by simp) 0;have c9_1:=hM0.cellAt (b:=w.heap.size+1) (cs:=#[.bool false,.int .i64 0,.int .u64 0]) (t:=35) (by simp) 1 _ rfl;have z9_1:=hM0.frozen (b:=w.heap.size+1) (cs:=#[.bool false,.int .i64 0,.int .u64 0]) (t:=35) (by simp) 1;have c9_2:=hM0.cellAt (b:=w.heap.size+1) (cs:=#[.bool false,.int .i64 0,.int .u64 0]) (t:=35) (by simp) 2 _ rfl;have z9_2:=hM0.frozen (b:=w.heap.size+1) (cs:=#[.bool false,.int .i64 0,.int .u64 0]) (t:=35) (by simp) 2;refine wpOp_step rfl fun K hK=>?_;go_simp
   exact hK _ _ ⟨rfl,putM trivial hl9 (((hM0.put (b:=w.heap.size+1) (cs:=#[.bool false,.int .i64 0,.int .u64 0]) (t:=35) (by simp) (by simp) 0 (.bool neg) [⟨w.heap.size,#[.int .i64 E,.int .i64 F],23⟩,⟨w.heap.size+1,#[.bool neg,.int .i64 0,.int .u64 0],35⟩] (by simp)).put (b:=w.heap.size+1) (cs:=#[.bool neg,.int .i64 0,.int .u64 0]) (t:=35) (by simp) (by simp) 1 (.int .i64 ex) [⟨w.heap.size,#[.int .i64 E,.int .i64 F],23⟩,⟨w.heap.size+1,#[.bool neg,.int .i64 ex,.int .u64 0],35⟩] (by simp)).put (b:=w.heap.size+1) (cs:=#[.bool neg,.int .i64 ex,.int .u64 0]) (t:=35) (by simp) (by simp) 2 (.int .u64 fr) [⟨w.heap.size,#[.int .i64 E,.int .i64 F],23⟩,⟨w.heap.size+1,#[.bool neg,.int .i64 ex,.int .u64 fr],35⟩] (by simp))⟩
 ·intro l9 W9 hl9 hM;simp only [aS] at hM;rw [if_pos (hl9 12 (by decide))] at hM;have hS:=hM;clear hM;simp only [ay.lay,List.setIfInBounds_toArray,List.set_cons_zero,List.set_cons_succ];obtain ⟨⟨ya,yb,-⟩,⟨yc,yd,ye,-⟩,-⟩:=hS.cells;go_wp2
  exact bodyPost_ret (v:=.agg #[.bool neg,.int .i64 ex,.int .u64 fr]) (by simp [results,Tryz.results27,go_sem,yc,yd,ye]) rfl ⟨rfl,hS.fr⟩
def dN(ex fr top:Nat):Nat:=if ex=0∧fr=0 then 1 else if ex=0 then 2 else if ex<top then 3 else if fr=0 then 4 else 5
def wF(E F:Int):Prop:=E<2∨11<E∨F<1∨52<F
theorem o8(E F b:Nat)(h:Fo E F)(hb:b<2^(F+E+1))(w:World):Calls Tryz.prog 26 #[.agg #[.int .i64 E,.int .i64 F],.int .u64 b] w fun e w'=>e = .returned (.int .i64 0)∧Below w.heap.size w w':=by
 obtain ⟨k,hk⟩:∃k,k=F+E:=⟨_,rfl⟩;have hk63:k≤63:=by have:=h.sum;omega
 have HK:=hide hk;obtain ⟨q,hq⟩:∃q,q=0:=⟨_,rfl⟩;have HQ:Hid (q=b/2^(k+1)):=hide (by rw [hq,hk,Nat.div_eq_of_lt hb]);have HQ0:=hide hq;clear hb hq;clear hk;go_enter Tryz.func26,Tryz.ntmps26
 go_wp2_with fail
 refine (dW _ _ _ h).mono ?_;rintro e w1 ⟨rfl,hb1⟩;have hS:=(Fs.one w _ _).kept hb1;obtain ⟨⟨ya,yb,-⟩,-⟩:=hS.cells;go_wp2_with fail
 refine wp_region_any (by kernel_rfl) ?_;refine aM [some (11,.int .u64 b),some (12,.agg #[.int .i64 E,.int .i64 F]),some (13,.int .i64 k),some (14,.agg #[.int .i64 E,.int .i64 F]),some (15,.int .i64 1),some (16,.int .i64 ((k+1:Nat):Int)),some (17,.int .u64 (q:Int)),some (1,.int .u64 (q:Int))]
  (fun _ W9=>Fs w W9 [⟨w.heap.size,#[.int .i64 E,.int .i64 F],23⟩]) _ _ rfl (by kernel_rfl) rfl rfl ?_ ?_ (hS).drew
 ·intro l9 t9 W9 i9 hD hi9 hl9 hM;obtain ⟨o9,ho9,hd9⟩:=(mem_ready.1 hi9).2;have hin9:i9<8:=by
   by_cases h:i9<8
   ·exact h
   ·rw [Array.getElem?_eq_none (by rw [hD.len];simp;omega)] at hl9;cases hl9
  have hcase:i9=0∨i9=1∨i9=2∨i9=3∨i9=4∨i9=5∨i9=6∨i9=7:=by omega
  clear hin9;rcases hcase with rfl|rfl|rfl|rfl|rfl|rfl|rfl|rfl
  ·cases ho9;have r1:=hD.wait rfl 0 7 1 _ _ _ ⟨0,.phase⟩ hl9 rfl rfl (by simp) rfl rfl rfl;refine wpOp_step rfl fun K hK=>?_;go_simp
   exact hK _ _ ⟨rfl,hM⟩
  ·cases ho9;have r2:=hD.old 2 _ rfl rfl;have hM0:=hM;have Q_:=hM0.cellAt (b:=w.heap.size) (cs:=#[.int .i64 E,.int .i64 F]) (t:=23) (by simp);have c9_0:=Q_ 0 _ rfl;have c9_1:=Q_ 1 _ rfl;clear Q_;clear hM0;refine wpOp_step rfl fun K hK=>?_;go_simp
   exact hK _ _ ⟨rfl,hM⟩
  ·cases ho9;have r12:=hD.od hd9 1 12 _ rfl (by simp);refine wpOp_step rfl fun K hK=>?_;go_simp
   go_wp2_with fail
   refine (lM _ _ k _ h HK).mono ?_;rintro en w9 ⟨rfl,hb9⟩;exact hK _ _ ⟨rfl,hM.kept hb9⟩
  ·cases ho9;have r2:=hD.old 2 _ rfl rfl;have hM0:=hM;have Q_:=hM0.cellAt (b:=w.heap.size) (cs:=#[.int .i64 E,.int .i64 F]) (t:=23) (by simp);have c9_0:=Q_ 0 _ rfl;have c9_1:=Q_ 1 _ rfl;clear Q_;clear hM0;refine wpOp_step rfl fun K hK=>?_;go_simp
   exact hK _ _ ⟨rfl,hM⟩
  ·cases ho9;have r14:=hD.od hd9 3 14 _ rfl (by simp);refine wpOp_step rfl fun K hK=>?_;go_simp
   go_wp2_with fail
   refine (uk _ _ _).mono ?_;rintro en w9 ⟨rfl,hb9⟩;exact hK _ _ ⟨rfl,hM.kept hb9⟩
  ·cases ho9;have r13:=hD.od hd9 2 13 _ rfl (by simp);have r15:=hD.od hd9 4 15 _ rfl (by simp);refine wpOp_step rfl fun K hK=>?_;go_simp
   exact hK _ _ ⟨aU (by (show Value.int _ _=Value.int _ _;congr 1;(first|rfl|omega|(rw [IntKind.wrap_i64];omega)|(rw [IntKind.wrap_u64];omega)))),hM⟩
  ·cases ho9;have r11:=hD.od hd9 0 11 _ rfl (by simp);have r16:=hD.od hd9 5 16 _ rfl (by simp);refine wpOp_step rfl fun K hK=>?_;go_simp
   exact hK _ _ ⟨aU (by (show Value.int _ _=Value.int _ _;congr 1;rw [aa HQ];simp)),hM⟩
  ·cases ho9;have r17:=hD.od hd9 6 17 _ rfl (by simp);refine wpOp_step rfl fun K hK=>?_;go_simp
   exact hK _ _ ⟨rfl,hM⟩
 ·intro l9 W9 hl9 hM;clear hS ya yb;have hS:=hM;clear hM;simp only [ay.lay,List.setIfInBounds_toArray,List.set_cons_zero,List.set_cons_succ];obtain ⟨⟨yc,yd,-⟩,-⟩:=hS.cells;clear HQ;obtain rfl:=aa HQ0;go_wp2
  go_ret
  exact ⟨rfl,hS.fr⟩
theorem Af(E F b:Nat)(h:Fo E F)(hb:2^(F+E+1)≤b)(w:World):Calls Tryz.prog 26 #[.agg #[.int .i64 E,.int .i64 F],.int .u64 b] w fun e w'=>e = .returned (.int .i64 6)∧Below w.heap.size w w':=by
 obtain ⟨k,hk⟩:∃k,k=F+E:=⟨_,rfl⟩;have hk63:k≤63:=by have:=h.sum;omega
 have HK:=hide hk;obtain ⟨q,hq⟩:∃q,q=b/2^(k+1):=⟨_,rfl⟩;have HQ:=hide hq;have hq0:0<q:=by rw [hq,hk];exact Nat.div_pos hb (aL _)
 clear hb hq;clear hk;go_enter Tryz.func26,Tryz.ntmps26
 go_wp2_with fail
 refine (dW _ _ _ h).mono ?_;rintro e w1 ⟨rfl,hb1⟩;have hS:=(Fs.one w _ _).kept hb1;obtain ⟨⟨ya,yb,-⟩,-⟩:=hS.cells;go_wp2_with fail
 refine wp_region_any (by kernel_rfl) ?_;refine aM [some (11,.int .u64 b),some (12,.agg #[.int .i64 E,.int .i64 F]),some (13,.int .i64 k),some (14,.agg #[.int .i64 E,.int .i64 F]),some (15,.int .i64 1),some (16,.int .i64 ((k+1:Nat):Int)),some (17,.int .u64 (q:Int)),some (1,.int .u64 (q:Int))]
  (fun _ W9=>Fs w W9 [⟨w.heap.size,#[.int .i64 E,.int .i64 F],23⟩]) _ _ rfl (by kernel_rfl) rfl rfl ?_ ?_ (hS).drew
 ·intro l9 t9 W9 i9 hD hi9 hl9 hM;obtain ⟨o9,ho9,hd9⟩:=(mem_ready.1 hi9).2;have hin9:i9<8:=by
   by_cases h:i9<8
   ·exact h
   ·rw [Array.getElem?_eq_none (by rw [hD.len];simp;omega)] at hl9;cases hl9
  have hcase:i9=0∨i9=1∨i9=2∨i9=3∨i9=4∨i9=5∨i9=6∨i9=7:=by omega
  clear hin9;rcases hcase with rfl|rfl|rfl|rfl|rfl|rfl|rfl|rfl
  ·cases ho9;have r1:=hD.wait rfl 0 7 1 _ _ _ ⟨0,.phase⟩ hl9 rfl rfl (by simp) rfl rfl rfl;refine wpOp_step rfl fun K hK=>?_;go_simp
   exact hK _ _ ⟨rfl,hM⟩
  ·cases ho9;have r2:=hD.old 2 _ rfl rfl;have hM0:=hM;have Q_:=hM0.cellAt (b:=w.heap.size) (cs:=#[.int .i64 E,.int .i64 F]) (t:=23) (by simp);have c9_0:=Q_ 0 _ rfl;have c9_1:=Q_ 1 _ rfl;clear Q_;clear hM0;refine wpOp_step rfl fun K hK=>?_;go_simp
   exact hK _ _ ⟨rfl,hM⟩
  ·cases ho9;have r12:=hD.od hd9 1 12 _ rfl (by simp);refine wpOp_step rfl fun K hK=>?_;go_simp
   go_wp2_with fail
   refine (lM _ _ k _ h HK).mono ?_;rintro en w9 ⟨rfl,hb9⟩;exact hK _ _ ⟨rfl,hM.kept hb9⟩
  ·cases ho9;have r2:=hD.old 2 _ rfl rfl;have hM0:=hM;have Q_:=hM0.cellAt (b:=w.heap.size) (cs:=#[.int .i64 E,.int .i64 F]) (t:=23) (by simp);have c9_0:=Q_ 0 _ rfl;have c9_1:=Q_ 1 _ rfl;clear Q_;clear hM0;refine wpOp_step rfl fun K hK=>?_;go_simp
   exact hK _ _ ⟨rfl,hM⟩
  ·cases ho9;have r14:=hD.od hd9 3 14 _ rfl (by simp);refine wpOp_step rfl fun K hK=>?_;go_simp
   go_wp2_with fail
   refine (uk _ _ _).mono ?_;rintro en w9 ⟨rfl,hb9⟩;exact hK _ _ ⟨rfl,hM.kept hb9⟩
  ·cases ho9;have r13:=hD.od hd9 2 13 _ rfl (by simp);have r15:=hD.od hd9 4 15 _ rfl (by simp);refine wpOp_step rfl fun K hK=>?_;go_simp
   exact hK _ _ ⟨aU (by (show Value.int _ _=Value.int _ _;congr 1;(first|rfl|omega|(rw [IntKind.wrap_i64];omega)|(rw [IntKind.wrap_u64];omega)))),hM⟩
  ·cases ho9;have r11:=hD.od hd9 0 11 _ rfl (by simp);have r16:=hD.od hd9 5 16 _ rfl (by simp);refine wpOp_step rfl fun K hK=>?_;go_simp
   exact hK _ _ ⟨aU (by (show Value.int _ _=Value.int _ _;congr 1;rw [aa HQ];simp)),hM⟩
  ·cases ho9;have r17:=hD.od hd9 6 17 _ rfl (by simp);refine wpOp_step rfl fun K hK=>?_;go_simp
   exact hK _ _ ⟨rfl,hM⟩
 ·intro l9 W9 hl9 hM;clear hS ya yb;have hS:=hM;clear hM;simp only [ay.lay,List.setIfInBounds_toArray,List.set_cons_zero,List.set_cons_succ];obtain ⟨⟨yc,yd,-⟩,-⟩:=hS.cells;clear HQ;go_wp2
  go_ret
  exact ⟨rfl,hS.fr⟩
theorem Az(E F:Int)(hbad:wF E F)(b:Int)(w:World):Calls Tryz.prog 26 #[.agg #[.int .i64 E,.int .i64 F],.int .u64 b] w fun e w'=>e = .returned (.int .i64 5)∧Below w.heap.size w w':=by
 unfold wF at hbad;go_enter Tryz.func26,Tryz.ntmps26
 go_wp2_with fail
 refine (zg _ _ _ hbad).mono ?_;rintro e w1 ⟨rfl,hb1⟩;have hS:=(Fs.one w _ _).kept hb1;obtain ⟨⟨ya,yb,-⟩,-⟩:=hS.cells;clear hbad;go_wp2
 go_ret
 exact ⟨rfl,hS.fr⟩
theorem FU(ex fr top:Nat)(neg:Bool)(h0:ex=0)(h1:fr=0)(w:World):Calls Tryz.prog 44 #[.agg #[.bool neg,.int .i64 ex,.int .u64 fr],.int .i64 top] w fun e w'=>e = .returned (.int .u8 1)∧Below w.heap.size w w':=by
 subst h0;subst h1;go_enter Tryz.func44,Tryz.ntmps44
 go_wp2
 go_ret
 exact ⟨rfl,(Fs.one w _ _).fr⟩
theorem Iw(ex fr top:Nat)(neg:Bool)(h0:ex=0)(h1:0<fr)(w:World):Calls Tryz.prog 44 #[.agg #[.bool neg,.int .i64 ex,.int .u64 fr],.int .i64 top] w fun e w'=>e = .returned (.int .u8 2)∧Below w.heap.size w w':=by
 subst h0;go_enter Tryz.func44,Tryz.ntmps44
 go_wp2
 go_ret
 exact ⟨rfl,(Fs.one w _ _).fr⟩
theorem FK(ex fr top:Nat)(neg:Bool)(h0:0<ex)(h1:ex<top)(w:World):Calls Tryz.prog 44 #[.agg #[.bool neg,.int .i64 ex,.int .u64 fr],.int .i64 top] w fun e w'=>e = .returned (.int .u8 3)∧Below w.heap.size w w':=by
 go_enter Tryz.func44,Tryz.ntmps44
 go_wp2
 go_ret
 exact ⟨rfl,(Fs.one w _ _).fr⟩
theorem Gg(ex fr top:Nat)(neg:Bool)(h0:0<ex)(h1:top≤ex)(h2:fr=0)(w:World):Calls Tryz.prog 44 #[.agg #[.bool neg,.int .i64 ex,.int .u64 fr],.int .i64 top] w fun e w'=>e = .returned (.int .u8 4)∧Below w.heap.size w w':=by
 subst h2;go_enter Tryz.func44,Tryz.ntmps44
 go_wp2
 go_ret
 exact ⟨rfl,(Fs.one w _ _).fr⟩
theorem FW(ex fr top:Nat)(neg:Bool)(h0:0<ex)(h1:top≤ex)(h2:0<fr)(w:World):Calls Tryz.prog 44 #[.agg #[.bool neg,.int .i64 ex,.int .u64 fr],.int .i64 top] w fun e w'=>e = .returned (.int .u8 5)∧Below w.heap.size w w':=by
 go_enter Tryz.func44,Tryz.ntmps44
 go_wp2
 go_ret
 exact ⟨rfl,(Fs.one w _ _).fr⟩
theorem zT(ex fr top:Nat)(neg:Bool)(w:World):Calls Tryz.prog 44 #[.agg #[.bool neg,.int .i64 ex,.int .u64 fr],.int .i64 top] w fun e w'=>e = .returned (.int .u8 (dN ex fr top:Int))∧Below w.heap.size w w':=by
 unfold dN;by_cases h0:ex=0
 ·by_cases h1:fr=0
  ·rw [if_pos ⟨h0,h1⟩];exact FU ex fr top neg h0 h1 w
  ·rw [if_neg (fun h=>h1 h.2),if_pos h0];exact Iw ex fr top neg h0 (by omega) w
 ·rw [if_neg (fun h=>h0 h.1),if_neg h0];by_cases h1:ex<top
  ·rw [if_pos h1];exact FK ex fr top neg (by omega) h1 w
  ·rw [if_neg h1];by_cases h2:fr=0
   ·rw [if_pos h2];exact Gg ex fr top neg (by omega) (by omega) h2 w
   ·rw [if_neg h2];exact FW ex fr top neg (by omega) (by omega) (by omega) w
theorem kQ(E F b ex fr:Nat)(neg:Bool)(h:Fo E F)(hB:Bt E F b neg ex fr)(w:World):Calls Tryz.prog 7 #[.agg #[.int .i64 E,.int .i64 F],.int .u64 b] w fun e w'=>e = .returned (.tuple #[.agg #[.bool neg,.int .i64 ex,.int .u64 fr],.int .i64 0])∧Below w.heap.size w w':=by
 have HB:=hide hB;clear hB;go_enter Tryz.func7,Tryz.ntmps7
 go_wp2_with fail
 refine (o8 _ _ _ h (aa HB).lt _).mono ?_;rintro e w1 ⟨rfl,hb1⟩;have hS:=(Fs.two w _ _ _ _).kept hb1;obtain ⟨⟨ya,yb,-⟩,⟨yc,yd,ye,-⟩,-⟩:=hS.cells;go_wp2_with fail
 refine (ql _ _ _ ex fr neg h (aa HB) _).mono ?_;rintro e w2 ⟨rfl,hb2⟩;replace hS:=hS.kept hb2;clear ya yb yc yd ye;obtain ⟨⟨yf,yg,-⟩,⟨yh,yi,yj,-⟩,-⟩:=hS.cells;have Q_:=hS.frozen (b:=w.heap.size+1) (cs:=#[.bool false,.int .i64 0,.int .u64 0]) (t:=35) (by simp);have fz0:=Q_ 0;have fz1:=Q_ 1;have fz2:=Q_ 2;clear Q_;go_wp2
 exact bodyPost_ret (v:=.tuple #[.agg #[.bool neg,.int .i64 ex,.int .u64 fr],.int .i64 0]) (by simp [results,Tryz.results7,go_sem,yh,yi,yj]) rfl ⟨rfl,((hS.fr.setCell (by simp) _).setCell (by simp) _).setCell (by simp) _⟩
theorem eU(E F b ex fr:Nat)(neg:Bool)(h:Fo E F)(hB:Bt E F b neg ex fr)(top:Nat)(ht:Hid (top=2^E-1))(w:World):Calls Tryz.prog 15 #[.agg #[.int .i64 E,.int .i64 F],.int .u64 b] w fun e w'=>e = .returned (.tuple #[.int .u8 (dN ex fr top:Int),.int .i64 0])∧Below w.heap.size w w':=by
 have HB:=hide hB;clear hB;go_enter Tryz.func15,Tryz.ntmps15
 go_wp2_with fail
 refine (o8 _ _ _ h (aa HB).lt _).mono ?_;rintro e w1 ⟨rfl,hb1⟩;have hS:=(Fs.one w _ _).kept hb1;obtain ⟨⟨ya,yb,-⟩,-⟩:=hS.cells;go_wp2_with fail
 refine wp_region_any (by kernel_rfl) ?_;refine aM [some (13,.agg #[.int .i64 E,.int .i64 F]),some (14,.int .u64 b),some (15,.agg #[.bool neg,.int .i64 ex,.int .u64 fr]),some (16,.agg #[.int .i64 E,.int .i64 F]),some (17,.int .i64 top),some (18,.int .u8 (dN ex fr top:Int)),some (4,.int .u8 (dN ex fr top:Int)),some (5,.int .i64 0)]
  (fun _ W9=>Fs w W9 [⟨w.heap.size,#[.int .i64 E,.int .i64 F],23⟩]) _ _ rfl (by kernel_rfl) rfl rfl ?_ ?_ (hS).drew
 ·intro l9 t9 W9 i9 hD hi9 hl9 hM;obtain ⟨o9,ho9,hd9⟩:=(mem_ready.1 hi9).2;have hin9:i9<8:=by
   by_cases h:i9<8
   ·exact h
   ·rw [Array.getElem?_eq_none (by rw [hD.len];simp;omega)] at hl9;cases hl9
  have hcase:i9=0∨i9=1∨i9=2∨i9=3∨i9=4∨i9=5∨i9=6∨i9=7:=by omega
  clear hin9;rcases hcase with rfl|rfl|rfl|rfl|rfl|rfl|rfl|rfl
  ·cases ho9;have r2:=hD.old 2 _ rfl rfl;have hM0:=hM;have Q_:=hM0.cellAt (b:=w.heap.size) (cs:=#[.int .i64 E,.int .i64 F]) (t:=23) (by simp);have c9_0:=Q_ 0 _ rfl;have c9_1:=Q_ 1 _ rfl;clear Q_;clear hM0;refine wpOp_step rfl fun K hK=>?_;go_simp
   exact hK _ _ ⟨rfl,hM⟩
  ·cases ho9;have r1:=hD.old 1 _ rfl rfl;refine wpOp_step rfl fun K hK=>?_;go_simp
   exact hK _ _ ⟨rfl,hM⟩
  ·cases ho9;have r13:=hD.od hd9 0 13 _ rfl (by simp);have r14:=hD.od hd9 1 14 _ rfl (by simp);refine wpOp_step rfl fun K hK=>?_;go_simp
   go_wp2_with fail
   refine (ql _ _ _ ex fr neg h (aa HB) _).mono ?_;rintro en w9 ⟨rfl,hb9⟩;exact hK _ _ ⟨rfl,hM.kept hb9⟩
  ·cases ho9;have r2:=hD.old 2 _ rfl rfl;have hM0:=hM;have Q_:=hM0.cellAt (b:=w.heap.size) (cs:=#[.int .i64 E,.int .i64 F]) (t:=23) (by simp);have c9_0:=Q_ 0 _ rfl;have c9_1:=Q_ 1 _ rfl;clear Q_;clear hM0;refine wpOp_step rfl fun K hK=>?_;go_simp
   exact hK _ _ ⟨rfl,hM⟩
  ·cases ho9;have r16:=hD.od hd9 3 16 _ rfl (by simp);refine wpOp_step rfl fun K hK=>?_;go_simp
   go_wp2_with fail
   refine (jT _ _ top _ h ht).mono ?_;rintro en w9 ⟨rfl,hb9⟩;exact hK _ _ ⟨rfl,hM.kept hb9⟩
  ·cases ho9;have r15:=hD.od hd9 2 15 _ rfl (by simp);have r17:=hD.od hd9 4 17 _ rfl (by simp);refine wpOp_step rfl fun K hK=>?_;go_simp
   go_wp2_with fail
   refine (zT _ _ _ _ _).mono ?_;rintro en w9 ⟨rfl,hb9⟩;exact hK _ _ ⟨rfl,hM.kept hb9⟩
  ·cases ho9;have r18:=hD.od hd9 5 18 _ rfl (by simp);refine wpOp_step rfl fun K hK=>?_;go_simp
   exact hK _ _ ⟨rfl,hM⟩
  ·cases ho9;refine wpOp_step rfl fun K hK=>?_;go_simp
   exact hK _ _ ⟨rfl,hM⟩
 ·intro l9 W9 hl9 hM;clear hS ya yb;have hS:=hM;clear hM;simp only [ay.lay,List.setIfInBounds_toArray,List.set_cons_zero,List.set_cons_succ];obtain ⟨⟨yc,yd,-⟩,-⟩:=hS.cells;go_wp2
  go_ret2
  exact ⟨rfl,hS.fr⟩
theorem DK(E F b ex fr:Nat)(neg:Bool)(h:Fo E F)(hB:Bt E F b neg ex fr)(w:World):Calls Tryz.prog 141 #[.agg #[.int .i64 E,.int .i64 F],.agg #[.bool neg,.int .i64 ex,.int .u64 fr]] w fun e w'=>e = .returned (.tuple #[.int .u64 b,.int .i64 0])∧Below w.heap.size w w':=by
 obtain ⟨m1,hm1⟩:∃m1,m1=2^E-1:=⟨_,rfl⟩;obtain ⟨m0,hm0⟩:∃m0,m0=2^F-1:=⟨_,rfl⟩;have HM1:=hide hm1;have HM0:=hide hm0;have hpE:=aL E;have hpF:=aL F;have HB:=hide hB;have hx:=hB.ex_lt;have hf:=hB.fr_lt;have hexl:=hB.ex64 h;have hx1:ex≤m1:=by omega
 have hf1:fr≤m0:=by omega
 clear hB hm1 hm0 hpE hpF hx hf;go_enter Tryz.func141,Tryz.ntmps141
 go_wp2_with fail
 refine (dW _ _ _ h).mono ?_;rintro e w1 ⟨rfl,hb1⟩;have hS:=(Fs.two w _ _ _ _).kept hb1;obtain ⟨⟨ya,yb,-⟩,⟨yc,yd,ye,-⟩,-⟩:=hS.cells;go_wp2_with fail
 refine wp_region_any (by kernel_rfl) ?_;refine aM [some (12,.pointer (some ⟨w.heap.size+1,1,none⟩)),some (13,.int .i64 ex),some (14,.bool false),some (15,.bool false),some (16,.pointer (some ⟨w.heap.size+1,1,none⟩)),some (17,.int .i64 ex),some (18,.int .u64 ex),some (19,.agg #[.int .i64 E,.int .i64 F]),some (20,.int .u64 m1),some (21,.bool false),some (22,.bool false),some (23,.bool false),some (24,.pointer (some ⟨w.heap.size+1,2,none⟩)),some (25,.int .u64 fr),some (26,.agg #[.int .i64 E,.int .i64 F]),some (27,.int .u64 m0),some (28,.bool false),some (29,.bool false)]
  (fun _ W9=>Fs w W9 [⟨w.heap.size,#[.int .i64 E,.int .i64 F],23⟩,⟨w.heap.size+1,#[.bool neg,.int .i64 ex,.int .u64 fr],35⟩]) _ _ rfl (by kernel_rfl) rfl rfl ?_ ?_ (hS).drew
 ·intro l9 t9 W9 i9 hD hi9 hl9 hM;obtain ⟨o9,ho9,hd9⟩:=(mem_ready.1 hi9).2;have hin9:i9<18:=by
   by_cases h:i9<18
   ·exact h
   ·rw [Array.getElem?_eq_none (by rw [hD.len];simp;omega)] at hl9;cases hl9
  have hcase:i9=0∨i9=1∨i9=2∨i9=3∨i9=4∨i9=5∨i9=6∨i9=7∨i9=8∨i9=9∨i9=10∨i9=11∨i9=12∨i9=13∨i9=14∨i9=15∨i9=16∨i9=17:=by omega
  clear hin9;rcases hcase with rfl|rfl|rfl|rfl|rfl|rfl|rfl|rfl|rfl|rfl|rfl|rfl|rfl|rfl|rfl|rfl|rfl|rfl
  ·cases ho9;have r3:=hD.old 3 _ rfl rfl;refine wpOp_step rfl fun K hK=>?_;go_simp
   exact hK _ _ ⟨rfl,hM⟩
  ·cases ho9;have r12:=hD.od hd9 0 12 _ rfl (by simp);have hM0:=hM;have c9_0:=hM0.cellAt (b:=w.heap.size+1) (cs:=#[.bool neg,.int .i64 ex,.int .u64 fr]) (t:=35) (by simp) 1 _ rfl;clear hM0;refine wpOp_step rfl fun K hK=>?_;go_simp
   exact hK _ _ ⟨rfl,hM⟩
  ·cases ho9;have r13:=hD.od hd9 1 13 _ rfl (by simp);refine wpOp_step rfl fun K hK=>?_;go_simp
   exact hK _ _ ⟨aU (by (first|rfl|skip);all_goals (rw [Value.bool.injEq];first|(simp;done)|(simp;omega)|(rw [decide_eq_false_iff_not];omega)|(rw [decide_eq_true_iff];omega))),hM⟩
  ·cases ho9;have r14:=hD.od hd9 2 14 _ rfl (by simp);refine wpOp_step rfl fun K hK=>?_;go_simp
   exact hK _ _ ⟨rfl,hM⟩
  ·cases ho9;have r15:=hD.on 3 15 _ rfl (ak (hd9 ⟨3,.guard⟩ (by simp) rfl));have r3:=hD.old 3 _ rfl rfl;refine wpOp_step rfl fun K hK=>?_;go_simp
   exact hK _ _ ⟨rfl,hM⟩
  ·cases ho9;have r15:=hD.on 3 15 _ rfl (ak (hd9 ⟨3,.guard⟩ (by simp) rfl));have r16:=hD.od hd9 4 16 _ rfl (by simp);have hM0:=hM;have c9_0:=hM0.cellAt (b:=w.heap.size+1) (cs:=#[.bool neg,.int .i64 ex,.int .u64 fr]) (t:=35) (by simp) 1 _ rfl;clear hM0;refine wpOp_step rfl fun K hK=>?_;go_simp
   exact hK _ _ ⟨rfl,hM⟩
  ·cases ho9;have r15:=hD.on 3 15 _ rfl (ak (hd9 ⟨3,.guard⟩ (by simp) rfl));have r17:=hD.od hd9 5 17 _ rfl (by simp);refine wpOp_step rfl fun K hK=>?_;go_simp
   exact hK _ _ ⟨aU (by (show Value.int _ _=Value.int _ _;congr 1;(first|rfl|omega|(rw [IntKind.wrap_i64];omega)|(rw [IntKind.wrap_u64];omega)))),hM⟩
  ·cases ho9;have r15:=hD.on 3 15 _ rfl (ak (hd9 ⟨3,.guard⟩ (by simp) rfl));have r2:=hD.old 2 _ rfl rfl;have hM0:=hM;have Q_:=hM0.cellAt (b:=w.heap.size) (cs:=#[.int .i64 E,.int .i64 F]) (t:=23) (by simp);have c9_0:=Q_ 0 _ rfl;have c9_1:=Q_ 1 _ rfl;clear Q_;clear hM0;refine wpOp_step rfl fun K hK=>?_;go_simp
   exact hK _ _ ⟨rfl,hM⟩
  ·cases ho9;have r15:=hD.on 3 15 _ rfl (ak (hd9 ⟨3,.chain⟩ (by simp) rfl));have r19:=hD.od hd9 7 19 _ rfl (by simp);refine wpOp_step rfl fun K hK=>?_;go_simp
   go_wp2_with fail
   refine (xI _ _ m1 _ h HM1).mono ?_;rintro en w9 ⟨rfl,hb9⟩;exact hK _ _ ⟨rfl,hM.kept hb9⟩
  ·cases ho9;have r15:=hD.on 3 15 _ rfl (ak (hd9 ⟨3,.guard⟩ (by simp) rfl));have r18:=hD.od hd9 6 18 _ rfl (by simp);have r20:=hD.od hd9 8 20 _ rfl (by simp);refine wpOp_step rfl fun K hK=>?_;go_simp
   exact hK _ _ ⟨aU (by (first|rfl|skip);all_goals (rw [Value.bool.injEq];first|(simp;done)|(simp;omega)|(rw [decide_eq_false_iff_not];omega)|(rw [decide_eq_true_iff];omega))),hM⟩
  ·cases ho9;have r15:=hD.od hd9 3 15 _ rfl (by simp);have r21:=hD.od hd9 9 21 _ rfl (by simp);refine wpOp_step rfl fun K hK=>?_;go_simp
   exact hK _ _ ⟨rfl,hM⟩
  ·cases ho9;have r22:=hD.od hd9 10 22 _ rfl (by simp);refine wpOp_step rfl fun K hK=>?_;go_simp
   exact hK _ _ ⟨rfl,hM⟩
  ·cases ho9;have r23:=hD.on 11 23 _ rfl (ak (hd9 ⟨11,.guard⟩ (by simp) rfl));have r3:=hD.old 3 _ rfl rfl;refine wpOp_step rfl fun K hK=>?_;go_simp
   exact hK _ _ ⟨rfl,hM⟩
  ·cases ho9;have r23:=hD.on 11 23 _ rfl (ak (hd9 ⟨11,.guard⟩ (by simp) rfl));have r24:=hD.od hd9 12 24 _ rfl (by simp);have hM0:=hM;have c9_0:=hM0.cellAt (b:=w.heap.size+1) (cs:=#[.bool neg,.int .i64 ex,.int .u64 fr]) (t:=35) (by simp) 2 _ rfl;clear hM0;refine wpOp_step rfl fun K hK=>?_;go_simp
   exact hK _ _ ⟨rfl,hM⟩
  ·cases ho9;have r23:=hD.on 11 23 _ rfl (ak (hd9 ⟨11,.guard⟩ (by simp) rfl));have r2:=hD.old 2 _ rfl rfl;have hM0:=hM;have Q_:=hM0.cellAt (b:=w.heap.size) (cs:=#[.int .i64 E,.int .i64 F]) (t:=23) (by simp);have c9_0:=Q_ 0 _ rfl;have c9_1:=Q_ 1 _ rfl;clear Q_;clear hM0;refine wpOp_step rfl fun K hK=>?_;go_simp
   exact hK _ _ ⟨rfl,hM⟩
  ·cases ho9;have r23:=hD.on 11 23 _ rfl (ak (hd9 ⟨11,.chain⟩ (by simp) rfl));have r26:=hD.od hd9 14 26 _ rfl (by simp);refine wpOp_step rfl fun K hK=>?_;go_simp
   go_wp2_with fail
   refine (xc _ _ m0 _ h HM0).mono ?_;rintro en w9 ⟨rfl,hb9⟩;exact hK _ _ ⟨rfl,hM.kept hb9⟩
  ·cases ho9;have r23:=hD.on 11 23 _ rfl (ak (hd9 ⟨11,.guard⟩ (by simp) rfl));have r25:=hD.od hd9 13 25 _ rfl (by simp);have r27:=hD.od hd9 15 27 _ rfl (by simp);refine wpOp_step rfl fun K hK=>?_;go_simp
   exact hK _ _ ⟨aU (by (first|rfl|skip);all_goals (rw [Value.bool.injEq];first|(simp;done)|(simp;omega)|(rw [decide_eq_false_iff_not];omega)|(rw [decide_eq_true_iff];omega))),hM⟩
  ·cases ho9;have r23:=hD.od hd9 11 23 _ rfl (by simp);have r28:=hD.od hd9 16 28 _ rfl (by simp);refine wpOp_step rfl fun K hK=>?_;go_simp
   exact hK _ _ ⟨rfl,hM⟩
 ·intro l9 W9 hl9 hM;clear hS ya yb yc yd ye;have hS:=hM;clear hM;simp only [ay.lay,List.setIfInBounds_toArray,List.set_cons_zero,List.set_cons_succ];obtain ⟨⟨yf,yg,-⟩,⟨yh,yi,yj,-⟩,-⟩:=hS.cells;go_wp2_with fail
  refine (lh _ _ b ex fr neg _ h (aa HB)).mono ?_;rintro e w2 ⟨rfl,hb2⟩;replace hS:=hS.kept hb2;clear yf yg yh yi yj;obtain ⟨⟨yk,yl,-⟩,⟨ym,yn,yo,-⟩,-⟩:=hS.cells;go_wp2
  go_ret2
  exact ⟨rfl,hS.fr⟩
theorem eO(E F m:Nat)(h:Fo E F)(hm:Hid (m=2^(E-1)-1))(w:World):Calls Tryz.prog 52 #[.agg #[.int .i64 E,.int .i64 F]] w fun e w'=>e = .returned (.tuple #[.int .i64 (1-(m:Int)-(F:Int)),.int .i64 (m:Int),.int .i64 0])∧Below w.heap.size w w':=by
 have hml:m<1024:=by have:=aJ (show E-1≤10 by have:=h.e11;omega);have:=aL (E-1);rw [aa hm];omega
 have h4:=h.f52;go_enter Tryz.func52,Tryz.ntmps52
 go_wp2_with fail
 refine (dW _ _ _ h).mono ?_;rintro e w1 ⟨rfl,hb1⟩;have hS:=(Fs.one w _ _).kept hb1;obtain ⟨⟨ya,yb,-⟩,-⟩:=hS.cells;go_wp2_with fail
 refine wp_region_any (by kernel_rfl) ?_;refine aM [some (11,.agg #[.int .i64 E,.int .i64 F]),some (12,.int .i64 m),some (13,.int .i64 (1-(m:Int))),some (14,.pointer (some ⟨w.heap.size,1,none⟩)),some (15,.int .i64 F),some (16,.int .i64 (1-(m:Int)-(F:Int))),some (17,.agg #[.int .i64 E,.int .i64 F]),some (18,.int .i64 m),some (2,.int .i64 (1-(m:Int)-(F:Int))),some (3,.int .i64 m),some (4,.int .i64 0)]
  (fun _ W9=>Fs w W9 [⟨w.heap.size,#[.int .i64 E,.int .i64 F],23⟩]) _ _ rfl (by kernel_rfl) rfl rfl ?_ ?_ (hS).drew
 ·intro l9 t9 W9 i9 hD hi9 hl9 hM;obtain ⟨o9,ho9,hd9⟩:=(mem_ready.1 hi9).2;have hin9:i9<11:=by
   by_cases h:i9<11
   ·exact h
   ·rw [Array.getElem?_eq_none (by rw [hD.len];simp;omega)] at hl9;cases hl9
  have hcase:i9=0∨i9=1∨i9=2∨i9=3∨i9=4∨i9=5∨i9=6∨i9=7∨i9=8∨i9=9∨i9=10:=by omega
  clear hin9;rcases hcase with rfl|rfl|rfl|rfl|rfl|rfl|rfl|rfl|rfl|rfl|rfl
  ·cases ho9;have r1:=hD.old 1 _ rfl rfl;have hM0:=hM;have Q_:=hM0.cellAt (b:=w.heap.size) (cs:=#[.int .i64 E,.int .i64 F]) (t:=23) (by simp);have c9_0:=Q_ 0 _ rfl;have c9_1:=Q_ 1 _ rfl;clear Q_;clear hM0;refine wpOp_step rfl fun K hK=>?_;go_simp
   exact hK _ _ ⟨rfl,hM⟩
  ·cases ho9;have r11:=hD.od hd9 0 11 _ rfl (by simp);refine wpOp_step rfl fun K hK=>?_;go_simp
   go_wp2_with fail
   refine (ul _ _ m _ h hm).mono ?_;rintro en w9 ⟨rfl,hb9⟩;exact hK _ _ ⟨rfl,hM.kept hb9⟩
  ·cases ho9;have r12:=hD.od hd9 1 12 _ rfl (by simp);refine wpOp_step rfl fun K hK=>?_;go_simp
   exact hK _ _ ⟨aU (by (show Value.int _ _=Value.int _ _;congr 1;(first|rfl|omega|(rw [IntKind.wrap_i64];omega)|(rw [IntKind.wrap_u64];omega)))),hM⟩
  ·cases ho9;have r1:=hD.old 1 _ rfl rfl;refine wpOp_step rfl fun K hK=>?_;go_simp
   exact hK _ _ ⟨rfl,hM⟩
  ·cases ho9;have r14:=hD.od hd9 3 14 _ rfl (by simp);have hM0:=hM;have c9_0:=hM0.cellAt (b:=w.heap.size) (cs:=#[.int .i64 E,.int .i64 F]) (t:=23) (by simp) 1 _ rfl;clear hM0;refine wpOp_step rfl fun K hK=>?_;go_simp
   exact hK _ _ ⟨rfl,hM⟩
  ·cases ho9;have r13:=hD.od hd9 2 13 _ rfl (by simp);have r15:=hD.od hd9 4 15 _ rfl (by simp);refine wpOp_step rfl fun K hK=>?_;go_simp
   exact hK _ _ ⟨aU (by (show Value.int _ _=Value.int _ _;congr 1;(first|rfl|omega|(rw [IntKind.wrap_i64];omega)|(rw [IntKind.wrap_u64];omega)))),hM⟩
  ·cases ho9;have r1:=hD.old 1 _ rfl rfl;have hM0:=hM;have Q_:=hM0.cellAt (b:=w.heap.size) (cs:=#[.int .i64 E,.int .i64 F]) (t:=23) (by simp);have c9_0:=Q_ 0 _ rfl;have c9_1:=Q_ 1 _ rfl;clear Q_;clear hM0;refine wpOp_step rfl fun K hK=>?_;go_simp
   exact hK _ _ ⟨rfl,hM⟩
  ·cases ho9;have r17:=hD.od hd9 6 17 _ rfl (by simp);refine wpOp_step rfl fun K hK=>?_;go_simp
   go_wp2_with fail
   refine (ul _ _ m _ h hm).mono ?_;rintro en w9 ⟨rfl,hb9⟩;exact hK _ _ ⟨rfl,hM.kept hb9⟩
  ·cases ho9;have r16:=hD.od hd9 5 16 _ rfl (by simp);refine wpOp_step rfl fun K hK=>?_;go_simp
   exact hK _ _ ⟨rfl,hM⟩
  ·cases ho9;have r18:=hD.od hd9 7 18 _ rfl (by simp);refine wpOp_step rfl fun K hK=>?_;go_simp
   exact hK _ _ ⟨rfl,hM⟩
  ·cases ho9;refine wpOp_step rfl fun K hK=>?_;go_simp
   exact hK _ _ ⟨rfl,hM⟩
 ·intro l9 W9 hl9 hM;clear hS ya yb;have hS:=hM;clear hM;simp only [ay.lay,List.setIfInBounds_toArray,List.set_cons_zero,List.set_cons_succ];obtain ⟨⟨yc,yd,-⟩,-⟩:=hS.cells;go_wp2
  go_ret3
  exact ⟨rfl,hS.fr⟩
theorem nW(E F:Nat)(w:World):Calls Tryz.prog 47 #[.agg #[.int .i64 E,.int .i64 F]] w fun e w'=>e = .returned (.agg #[.bool false,.int .i64 0,.int .u64 0])∧Below w.heap.size w w':=by
 go_enter Tryz.func47,Tryz.ntmps47
 go_wp2
 exact bodyPost_ret (v:=.agg #[.bool false,.int .i64 0,.int .u64 0]) (by simp [results,Tryz.results47,go_sem]) rfl ⟨rfl,(Fs.two w _ _ _ _).fr⟩
theorem tO(E F m1:Nat)(h:Fo E F)(hm:Hid (m1=2^E-1))(w:World):Calls Tryz.prog 130 #[.agg #[.int .i64 E,.int .i64 F]] w fun e w'=>e = .returned (.agg #[.bool false,.int .i64 m1,.int .u64 0])∧Below w.heap.size w w':=by
 go_enter Tryz.func130,Tryz.ntmps130
 go_wp2_with fail
 refine (jT _ _ m1 _ h hm).mono ?_;rintro e w1 ⟨rfl,hb1⟩;have hS:=(Fs.two w _ _ _ _).kept hb1;obtain ⟨⟨ya,yb,-⟩,⟨yc,yd,ye,-⟩,-⟩:=hS.cells;have Q_:=hS.frozen (b:=w.heap.size+1) (cs:=#[.bool false,.int .i64 0,.int .u64 0]) (t:=35) (by simp);have fz0:=Q_ 0;have fz1:=Q_ 1;have fz2:=Q_ 2;clear Q_;go_wp2
 exact bodyPost_ret (v:=.agg #[.bool false,.int .i64 m1,.int .u64 0]) (by simp [results,Tryz.results130,go_sem,yc,yd,ye]) rfl ⟨rfl,((hS.fr.setCell (by simp) _).setCell (by simp) _).setCell (by simp) _⟩
theorem mJ(E F m1 m0:Nat)(h:Fo E F)(hm:Hid (m1+1=2^E-1))(HM0:Hid (m0=2^F-1))(w:World):Calls Tryz.prog 172 #[.agg #[.int .i64 E,.int .i64 F]] w fun e w'=>e = .returned (.agg #[.bool false,.int .i64 m1,.int .u64 m0])∧Below w.heap.size w w':=by
 have hml:m1<2048:=by have:=aJ h.e11;have:=aa hm;omega
 go_enter Tryz.func172,Tryz.ntmps172
 go_wp2_with fail
 refine wp_region_any (by kernel_rfl) ?_;refine aM [some (3,.agg #[.int .i64 E,.int .i64 F]),some (4,.int .i64 ((m1+1:Nat):Int)),some (5,.int .i64 m1),some (6,.agg #[.int .i64 E,.int .i64 F]),some (7,.int .u64 m0),some (8,.agg #[.bool false,.int .i64 m1,.int .u64 m0]),none]
  (fun l9 W9=>Fs w W9 (aS l9 [(6,[⟨w.heap.size,#[.int .i64 E,.int .i64 F],23⟩,⟨w.heap.size+1,#[.bool false,.int .i64 m1,.int .u64 m0],35⟩])] [⟨w.heap.size,#[.int .i64 E,.int .i64 F],23⟩,⟨w.heap.size+1,#[.bool false,.int .i64 0,.int .u64 0],35⟩])) _ _ rfl (by kernel_rfl) rfl rfl ?_ ?_ (Fs.two w _ _ _ _).drew
 ·intro l9 t9 W9 i9 hD hi9 hl9 hM;obtain ⟨o9,ho9,hd9⟩:=(mem_ready.1 hi9).2;have hin9:i9<7:=by
   by_cases h:i9<7
   ·exact h
   ·rw [Array.getElem?_eq_none (by rw [hD.len];simp;omega)] at hl9;cases hl9
  have hcase:i9=0∨i9=1∨i9=2∨i9=3∨i9=4∨i9=5∨i9=6:=by omega
  clear hin9;rcases hcase with rfl|rfl|rfl|rfl|rfl|rfl|rfl
  ·cases ho9;have r1:=hD.old 1 _ rfl rfl;have hM0:Fs w W9 [⟨w.heap.size,#[.int .i64 E,.int .i64 F],23⟩,⟨w.heap.size+1,#[.bool false,.int .i64 0,.int .u64 0],35⟩]:=by
    have hM1:=hM;simp only [aS] at hM1;rw [if_neg (hD.waits 0 6 _ ⟨0,.phase⟩ hl9 rfl (by simp) rfl rfl)] at hM1;exact hM1
   have Q_:=hM0.cellAt (b:=w.heap.size) (cs:=#[.int .i64 E,.int .i64 F]) (t:=23) (by simp);have c9_0:=Q_ 0 _ rfl;have c9_1:=Q_ 1 _ rfl;clear Q_;clear hM0;refine wpOp_step rfl fun K hK=>?_;go_simp
   exact hK _ _ ⟨rfl,(keepM rfl hM)⟩
  ·cases ho9;have r3:=hD.od hd9 0 3 _ rfl (by simp);have hM0:Fs w W9 [⟨w.heap.size,#[.int .i64 E,.int .i64 F],23⟩,⟨w.heap.size+1,#[.bool false,.int .i64 0,.int .u64 0],35⟩]:=by
    have hM1:=hM;simp only [aS] at hM1;rw [if_neg (hD.waits 1 6 _ ⟨1,.phase⟩ hl9 rfl (by simp) rfl rfl)] at hM1;exact hM1
   refine wpOp_step rfl fun K hK=>?_;go_simp
   go_wp2_with fail
   refine (jT _ _ (m1+1) _ h hm).mono ?_;rintro en w9 ⟨rfl,hb9⟩;exact hK _ _ ⟨rfl,keepM rfl (hM.kept hb9)⟩
  ·cases ho9;have r4:=hD.od hd9 1 4 _ rfl (by simp);refine wpOp_step rfl fun K hK=>?_;go_simp
   exact hK _ _ ⟨aU (by (show Value.int _ _=Value.int _ _;congr 1;(first|rfl|omega|(rw [IntKind.wrap_i64];omega)|(rw [IntKind.wrap_u64];omega)))),(keepM rfl hM)⟩
  ·cases ho9;have r1:=hD.old 1 _ rfl rfl;have hM0:Fs w W9 [⟨w.heap.size,#[.int .i64 E,.int .i64 F],23⟩,⟨w.heap.size+1,#[.bool false,.int .i64 0,.int .u64 0],35⟩]:=by
    have hM1:=hM;simp only [aS] at hM1;rw [if_neg (hD.waits 3 6 _ ⟨3,.phase⟩ hl9 rfl (by simp) rfl rfl)] at hM1;exact hM1
   have Q_:=hM0.cellAt (b:=w.heap.size) (cs:=#[.int .i64 E,.int .i64 F]) (t:=23) (by simp);have c9_0:=Q_ 0 _ rfl;have c9_1:=Q_ 1 _ rfl;clear Q_;clear hM0;refine wpOp_step rfl fun K hK=>?_;go_simp
   exact hK _ _ ⟨rfl,(keepM rfl hM)⟩
  ·cases ho9;have r6:=hD.od hd9 3 6 _ rfl (by simp);have hM0:Fs w W9 [⟨w.heap.size,#[.int .i64 E,.int .i64 F],23⟩,⟨w.heap.size+1,#[.bool false,.int .i64 0,.int .u64 0],35⟩]:=by
    have hM1:=hM;simp only [aS] at hM1;rw [if_neg (hD.waits 4 6 _ ⟨4,.chain⟩ hl9 rfl (by simp) rfl rfl)] at hM1;exact hM1
   refine wpOp_step rfl fun K hK=>?_;go_simp
   go_wp2_with fail
   refine (xc _ _ m0 _ h HM0).mono ?_;rintro en w9 ⟨rfl,hb9⟩;exact hK _ _ ⟨rfl,keepM rfl (hM.kept hb9)⟩
  ·cases ho9;have r5:=hD.od hd9 2 5 _ rfl (by simp);have r7:=hD.od hd9 4 7 _ rfl (by simp);refine wpOp_step rfl fun K hK=>?_;go_simp
   exact hK _ _ ⟨rfl,(keepM rfl hM)⟩
  ·cases ho9;have r2:=hD.old 2 _ rfl rfl;have r8:=hD.od hd9 5 8 _ rfl (by simp);have hM0:Fs w W9 [⟨w.heap.size,#[.int .i64 E,.int .i64 F],23⟩,⟨w.heap.size+1,#[.bool false,.int .i64 0,.int .u64 0],35⟩]:=by
    have hM1:=hM;simp only [aS] at hM1;rw [if_neg (by rw [hl9];simp)] at hM1;exact hM1
   have c9_0:=hM0.cellAt (b:=w.heap.size+1) (cs:=#[.bool false,.int .i64 0,.int .u64 0]) (t:=35) (by simp) 0 _ rfl;have z9_0:=hM0.frozen (b:=w.heap.size+1) (cs:=#[.bool false,.int .i64 0,.int .u64 0]) (t:=35) (by simp) 0;have c9_1:=hM0.cellAt (b:=w.heap.size+1) (cs:=#[.bool false,.int .i64 0,.int .u64 0]) (t:=35) (by simp) 1 _ rfl;have z9_1:=hM0.frozen (b:=w.heap.size+1) (cs:=#[.bool false,.int .i64 0,.int .u64 0]) (t:=35) (by simp) 1;have c9_2:=hM0.cellAt (b:=w.heap.size+1) (cs:=#[.bool false,.int .i64 0,.int .u64 0]) (t:=35) (by simp) 2 _ rfl;have z9_2:=hM0.frozen (b:=w.heap.size+1) (cs:=#[.bool false,.int .i64 0,.int .u64 0]) (t:=35) (by simp) 2;refine wpOp_step rfl fun K hK=>?_;go_simp
   exact hK _ _ ⟨rfl,putM trivial hl9 (((hM0.put (b:=w.heap.size+1) (cs:=#[.bool false,.int .i64 0,.int .u64 0]) (t:=35) (by simp) (by simp) 0 (.bool false) [⟨w.heap.size,#[.int .i64 E,.int .i64 F],23⟩,⟨w.heap.size+1,#[.bool false,.int .i64 0,.int .u64 0],35⟩] (by simp)).put (b:=w.heap.size+1) (cs:=#[.bool false,.int .i64 0,.int .u64 0]) (t:=35) (by simp) (by simp) 1 (.int .i64 m1) [⟨w.heap.size,#[.int .i64 E,.int .i64 F],23⟩,⟨w.heap.size+1,#[.bool false,.int .i64 m1,.int .u64 0],35⟩] (by simp)).put (b:=w.heap.size+1) (cs:=#[.bool false,.int .i64 m1,.int .u64 0]) (t:=35) (by simp) (by simp) 2 (.int .u64 m0) [⟨w.heap.size,#[.int .i64 E,.int .i64 F],23⟩,⟨w.heap.size+1,#[.bool false,.int .i64 m1,.int .u64 m0],35⟩] (by simp))⟩
 ·intro l9 W9 hl9 hM;simp only [aS] at hM;rw [if_pos (hl9 6 (by decide))] at hM;have hS:=hM;clear hM;simp only [ay.lay,List.setIfInBounds_toArray,List.set_cons_zero,List.set_cons_succ];obtain ⟨⟨ya,yb,-⟩,⟨yc,yd,ye,-⟩,-⟩:=hS.cells;go_wp2
  exact bodyPost_ret (v:=.agg #[.bool false,.int .i64 m1,.int .u64 m0]) (by simp [results,Tryz.results172,go_sem,yc,yd,ye]) rfl ⟨rfl,hS.fr⟩
end Go.Proofs.YtaidedkpfnidpaaGreatDoor
