/- Of what NearMeetsRow stands on: Room FmBase RdMode FmMath FmLeaf FmTake FmSplit FmFits FmCall FmJoin FmParts FmKnown Pick NrLeaf NrList NrEq NrBeside NrRows. -/
import Derived.Test.YtaidedkpfnidpaaGreatDoorProg
import Derived.WalkKit
import Derived.WalkSpells
import Derived.WalkLawsBesides
import Derived.Test.YtaidedkpfnidpaaGreatDoorPaa
import Derived.OwnWalk
import Derived.ChangeKeysEq
namespace Go.Proofs.YtaidedkpfnidpaaGreatDoor
open Go.RowKit
set_option maxHeartbeats 2000000
set_option maxRecDepth 20000
theorem hide {p:Prop} (h:p):Hid p:=h
theorem unhide {p:Prop} (h:Hid p):p:=h
theorem gr_refl (w:World):Below w.heap.size w w:=Below.refl _ _
theorem gr_alloc (w:World) (o:Obj):Below w.heap.size w (w.alloc o):=(Below.refl _ _).alloc (Nat.le_refl _) o
theorem gr_trans {a b c:World} (h:Below a.heap.size a b) (k:Below b.heap.size b c):Below a.heap.size a c:=h.trans (k.mono h.size)
theorem bcell {W w1:World} (hb:Below W.heap.size W w1):(∀ b o,b < W.heap.size→w1.cell? ⟨b,o,none⟩ = W.cell? ⟨b,o,none⟩)∧(∀ b o,b < W.heap.size→w1.frozen? ⟨b,o,none⟩ = W.frozen? ⟨b,o,none⟩):=
 ⟨fun b o h=>hb.cell (p:=⟨b,o,none⟩) h,fun b o h=>hb.frozen (p:=⟨b,o,none⟩) h⟩
theorem block_lt {W:World} {b:Nat} {o:Obj} (h:W.heap[b]? = some o):b < W.heap.size:=by
 by_cases hlt:b < W.heap.size
 ·exact hlt
 ·rw [Array.getElem?_eq_none (by omega)] at h; cases h
structure En where
 b:Nat
 cs:Array Value
 t:TypeId
def CelL (W:World) (b:Nat):Nat→List Value→Prop
 | _,[]=>True
 | k,v :: r=>W.cell? ⟨b,k,none⟩ = some v∧CelL W b (k+1) r
def Cel (W:World):List En→Prop
 | []=>True
 | x :: r=>CelL W x.b 0 x.cs.toList∧Cel W r
theorem celL_of {W:World} {b:Nat} {cs:Array Value} {t:TypeId} (h:W.heap[b]? = some (.cells cs t (0,0))):∀ (l:List Value) (k:Nat),cs.toList.drop k = l→CelL W b k l
 | [],_,_=>trivial
 | v :: r,k,e=>by
  refine ⟨?_,celL_of h r (k+1) ?_⟩
  ·rw [cell_of_row W b k _ _ _ h]
   have:cs.toList[k]? = some v:=by
    have:=congrArg (fun l=>l[0]?) e
    simpa using this
   simpa using this
  ·have:=congrArg List.tail e
   simpa using this
theorem cel_of {W:World}:∀ (bs:List En),(∀ x,x∈bs→W.heap[x.b]? = some (.cells x.cs x.t (0,0)))→Cel W bs
 | [],_=>trivial
 | x :: r,h=>⟨celL_of (h x (List.mem_cons_self ..)) _ 0 rfl,cel_of r (fun y hy=>h y (List.mem_cons_of_mem _ hy))⟩
structure Fs (w0 W:World) (bs:List En):Prop where
 bx:∀ x,x∈bs→W.heap[x.b]? = some (.cells x.cs x.t (0,0))
 fr:Below w0.heap.size w0 W
theorem Fs.size {w0 W:World} {bs:List En} (h:Fs w0 W bs):w0.heap.size≤W.heap.size:=h.fr.size
theorem Fs.begin (w:World):Fs w w []:=⟨(fun _ h=>nomatch h),Below.refl _ _⟩
theorem Fs.kept {w0 W W':World} {bs:List En} (h:Fs w0 W bs) (hb:Below W.heap.size W W'):Fs w0 W' bs:=
 ⟨fun x hx=>by rw [hb.block _ (block_lt (h.bx x hx))]; exact h.bx x hx,gr_trans h.fr hb⟩
theorem Fs.lt {w0 W:World} {bs:List En} (h:Fs w0 W bs) (i:Nat) {x:En} (e:bs[i]? = some x):x.b < W.heap.size:=block_lt (h.bx x (List.mem_of_getElem? e))
theorem Fs.alloc {w0 W:World} {bs:List En} (h:Fs w0 W bs) (cs:Array Value) (t:TypeId):Fs w0 (W.alloc (.cells cs t)) (⟨W.heap.size,cs,t⟩ :: bs):=by
 have h':=h.kept (gr_alloc W (.cells cs t))
 refine ⟨fun x hx=>?_,h'.fr⟩
 rcases List.mem_cons.1 hx with rfl|hx
 ·exact heap_alloc_new W _
 ·exact h'.bx x hx
theorem Fs.drew {w0 W:World} {bs:List En} (h:Fs w0 W bs):Fs w0 W.drew bs:=⟨h.bx,h.fr.drew⟩
theorem Fs.sub {w0 W:World} {bs bs':List En} (h:Fs w0 W bs) (hs:∀ x,x∈bs'→x∈bs):Fs w0 W bs':=⟨fun x hx=>h.bx x (hs x hx),h.fr⟩
theorem Fs.cellAt {w0 W:World} {bs:List En} (h:Fs w0 W bs) {b:Nat} {cs:Array Value} {t:TypeId} (hx:(⟨b,cs,t⟩:En)∈bs) (j:Nat) (v:Value) (hv:cs[j]? = some v):W.cell? ⟨b,j,none⟩ = some v:=by
 rw [cell_of_row W b j _ _ _ (h.bx _ hx)]; exact hv
theorem Fs.frozen {w0 W:World} {bs:List En} (h:Fs w0 W bs) {b:Nat} {cs:Array Value} {t:TypeId} (hx:(⟨b,cs,t⟩:En)∈bs) (j:Nat):W.frozen? ⟨b,j,none⟩ = false:=frozen_of_row W b j _ _ (h.bx _ hx)
theorem Fs.put {w0 W:World} {bs:List En} (h:Fs w0 W bs) {b:Nat} {cs:Array Value} {t:TypeId} (hx:(⟨b,cs,t⟩:En)∈bs) (hw:w0.heap.size≤b) (j:Nat) (u:Value) (bs':List En)
  (hbs:∀ y,y∈bs'→y = ⟨b,cs.setIfInBounds j u,t⟩∨(y∈bs∧y.b≠b)):Fs w0 (W.setCell ⟨b,j,none⟩ u) bs':=by
 refine ⟨fun y hy=>?_,h.fr.setCell hw u⟩
 rcases hbs y hy with rfl|⟨hy,hne⟩
 ·exact heap_setCell_same W b j _ _ _ (h.bx _ hx)
 ·rw [heap_setCell_other W _ y.b u hne]; exact h.bx y hy
theorem Fs.one (w:World) (cs:Array Value) (t:TypeId):Fs w (w.alloc (.cells cs t)) [⟨w.heap.size,cs,t⟩]:=(Fs.begin w).alloc cs t
theorem Fs.two (w:World) (cs:Array Value) (t:TypeId) (ds:Array Value) (u:TypeId):Fs w ((w.alloc (.cells cs t)).alloc (.cells ds u)) [⟨w.heap.size,cs,t⟩,⟨w.heap.size+1,ds,u⟩]:=by
 have h:=((Fs.begin w).alloc cs t).alloc ds u
 rw [World.size_alloc] at h
 exact h.sub (by simp)
theorem Fs.cells {w0 W:World} {bs:List En} (h:Fs w0 W bs):Cel W bs:=cel_of bs h.bx
def pickBs (l:Array Bool):List (Nat×List En)→List En→List En
 | [],b=>b
 | (k,b') :: r,b=>if l[k]? = some true then b' else pickBs l r b
theorem pickBs_set {l:Array Bool} {i:Nat}:∀ {sts:List (Nat×List En)} {b:List En},(sts.all (fun x=>x.1 != i)) = true→pickBs (l.setIfInBounds i true) sts b = pickBs l sts b
 | [],_,_=>rfl
 | (k,b') :: r,b,h=>by
  simp only [List.all_cons,Bool.and_eq_true] at h
  have hk:k≠i:=by simpa using h.1
  simp only [pickBs]
  rw [Array.getElem?_setIfInBounds_ne (Ne.symm hk),pickBs_set h.2]
theorem keepM {w0 W:World} {l:Array Bool} {i:Nat} {sts:List (Nat×List En)} {b:List En} (h:(sts.map Prod.fst).all (fun x=>x != i) = true) (hM:Fs w0 W (pickBs l sts b)):Fs w0 W (pickBs (l.setIfInBounds i true) sts b):=by
 rw [pickBs_set (by simpa using h)]; exact hM
theorem pickBs_at {l:Array Bool} {i:Nat} {b':List En}:∀ {sts:List (Nat×List En)} {b:List En},l[i]? = some false→pickBs (l.setIfInBounds i true) ((i,b') :: sts) b = b':=by
 intro sts b h
 obtain ⟨hlt,-⟩:=Array.getElem?_eq_some_iff.1 h
 simp [pickBs,hlt]
theorem putM {w0 W:World} {l:Array Bool} {i:Nat} {sts:List (Nat×List En)} {b b':List En} (_:True) (hl:l[i]? = some false) (h:Fs w0 W b'):Fs w0 W (pickBs (l.setIfInBounds i true) ((i,b') :: sts) b):=by
 rw [pickBs_at hl]; exact h
theorem act_eq {t:Array Value} {s:Nat} {u v:Value} (h:u = v):({ tmps:=t.setIfInBounds s u,defers:=[] }:Act) = ⟨putD (some (s,v)) t,[]⟩:=by rw [h]; rfl
theorem Det.waits {ops:Array Oper} {ds:Puts} {T0:Array Value} {l:Array Bool} {t:Array Value} (h:Det ops ds T0 l t) (i k:Nat) (o:Oper) (e:Edge) (hi:l[i]? = some false) (ho:ops[k]? = some o) (he:e∈o.after) (hb:Region.binds .any e = true) (hei:e.on = i):¬ l[k]? = some true:=by
 intro hl
 have:=getD_true (h.shut k o hl ho e he hb)
 rw [hei,hi] at this
 cases this
theorem run_store_func (P:Program) (w:World) (a:Addr) (fn:Fn) (m:Mode):(store a (.func fn #[] #[]) m).run P w = stored P w a (.func fn #[] #[]) m:=run_store P w a _ m rfl
def fth (mode:Nat) (s o:Bool) (h:Int):Bool:=match mode with
 | 0=>decide (0 < h) || (decide (h = 0) && o)
 | 1=>decide (0≤h)
 | 2=>false
 | 3=>!s
 | _=>s
theorem even_m (s o:Bool) (w:World)  :
  Calls Tryz.prog 174 #[.agg #[.bool s,.bool o,.int .i64 (-1)]] w fun e w'=>e = .returned (.bool false)∧Below w.heap.size w w':=by
 go_enter Tryz.func174,Tryz.ntmps174
 go_wp2
 go_ret
 exact ⟨rfl,(Fs.one w _ _).fr⟩
theorem away_m (s o:Bool) (w:World)  :
  Calls Tryz.prog 175 #[.agg #[.bool s,.bool o,.int .i64 (-1)]] w fun e w'=>e = .returned (.bool false)∧Below w.heap.size w w':=by
 go_enter Tryz.func175,Tryz.ntmps175
 go_wp2
 go_ret
 exact ⟨rfl,(Fs.one w _ _).fr⟩
theorem even_z (s o:Bool) (w:World)  :
  Calls Tryz.prog 174 #[.agg #[.bool s,.bool o,.int .i64 0]] w fun e w'=>e = .returned (.bool o)∧Below w.heap.size w w':=by
 go_enter Tryz.func174,Tryz.ntmps174
 go_wp2
 go_ret
 exact ⟨rfl,(Fs.one w _ _).fr⟩
theorem away_z (s o:Bool) (w:World)  :
  Calls Tryz.prog 175 #[.agg #[.bool s,.bool o,.int .i64 0]] w fun e w'=>e = .returned (.bool true)∧Below w.heap.size w w':=by
 go_enter Tryz.func175,Tryz.ntmps175
 go_wp2
 go_ret
 exact ⟨rfl,(Fs.one w _ _).fr⟩
theorem even_p (s o:Bool) (w:World)  :
  Calls Tryz.prog 174 #[.agg #[.bool s,.bool o,.int .i64 1]] w fun e w'=>e = .returned (.bool true)∧Below w.heap.size w w':=by
 go_enter Tryz.func174,Tryz.ntmps174
 go_wp2
 go_ret
 exact ⟨rfl,(Fs.one w _ _).fr⟩
theorem away_p (s o:Bool) (w:World)  :
  Calls Tryz.prog 175 #[.agg #[.bool s,.bool o,.int .i64 1]] w fun e w'=>e = .returned (.bool true)∧Below w.heap.size w w':=by
 go_enter Tryz.func175,Tryz.ntmps175
 go_wp2
 go_ret
 exact ⟨rfl,(Fs.one w _ _).fr⟩
theorem zero_any (s o:Bool) (h:Int) (w:World)  :
  Calls Tryz.prog 176 #[.agg #[.bool s,.bool o,.int .i64 h]] w fun e w'=>e = .returned (.bool false)∧Below w.heap.size w w':=by
 go_enter Tryz.func176,Tryz.ntmps176
 go_wp2
 go_ret
 exact ⟨rfl,(Fs.one w _ _).fr⟩
theorem up_any_ (s o:Bool) (h:Int) (w:World)  :
  Calls Tryz.prog 177 #[.agg #[.bool s,.bool o,.int .i64 h]] w fun e w'=>e = .returned (.bool (!s))∧Below w.heap.size w w':=by
 go_enter Tryz.func177,Tryz.ntmps177
 go_wp2
 go_ret
 exact ⟨rfl,(Fs.one w _ _).fr⟩
theorem down_any_ (s o:Bool) (h:Int) (w:World)  :
  Calls Tryz.prog 178 #[.agg #[.bool s,.bool o,.int .i64 h]] w fun e w'=>e = .returned (.bool s)∧Below w.heap.size w w':=by
 go_enter Tryz.func178,Tryz.ntmps178
 go_wp2
 go_ret
 exact ⟨rfl,(Fs.one w _ _).fr⟩
theorem modes_any  (w:World)  :
  Calls Tryz.prog 171 #[] w fun e w'=>e = .returned (.agg #[.func (.func 174) #[] #[],.func (.func 175) #[] #[],.func (.func 176) #[] #[],.func (.func 177) #[] #[],.func (.func 178) #[] #[]])∧Below w.heap.size w w':=by
 go_enter Tryz.func171,Tryz.ntmps171
 go_wp2
 simp only [run_store_func]
 go_simp
 go_wp2
 exact bodyPost_ret (v:=.agg #[.func (.func 174) #[] #[],.func (.func 175) #[] #[],.func (.func 176) #[] #[],.func (.func 177) #[] #[],.func (.func 178) #[] #[]]) (by simp [results,Tryz.results171,go_sem]) rfl ⟨rfl,gr_alloc _ _⟩
theorem far_0m (s o:Bool) (w:World)  :
  Calls Tryz.prog 164 #[.agg #[.bool s,.bool o,.int .i64 (-1)],.int .u8 0] w fun e w'=>e = .returned (.bool false)∧Below w.heap.size w w':=by
 go_enter Tryz.func164,Tryz.ntmps164
 go_wp2_with fail
 refine wp_region_any (by kernel_rfl) ?_
 refine wpAny_det [some (5,.agg #[.func (.func 174) #[] #[],.func (.func 175) #[] #[],.func (.func 176) #[] #[],.func (.func 177) #[] #[],.func (.func 178) #[] #[]]),some (6,.int .u8 0),some (7,.func (.func 174) #[] #[]),some (8,.agg #[.bool s,.bool o,.int .i64 (-1)]),some (9,.bool false),some (4,.bool false)]
  (fun _ W9=>Fs w W9 [⟨w.heap.size,#[.bool s,.bool o,.int .i64 (-1)],216⟩]) _ _ rfl (by kernel_rfl) rfl rfl ?_ ?_ (Fs.one w _ _).drew
 ·intro l9 t9 W9 i9 hD hi9 hl9 hM
  obtain ⟨o9,ho9,hd9⟩:=(mem_ready.1 hi9).2
  have hin9:i9 < 6:=by
   by_cases h:i9 < 6
   ·exact h
   ·rw [Array.getElem?_eq_none (by rw [hD.len]; simp; omega)] at hl9; cases hl9
  have hcase:i9 = 0∨i9 = 1∨i9 = 2∨i9 = 3∨i9 = 4∨i9 = 5:=by omega
  clear hin9
  rcases hcase with rfl|rfl|rfl|rfl|rfl|rfl
  ·cases ho9
   refine wpOp_step rfl fun K hK=>?_
   go_simp
   go_wp2_with fail
   refine (modes_any _).mono ?_
   rintro en w9 ⟨rfl,hb9⟩
   exact hK _ _ ⟨rfl,hM.kept hb9⟩
  ·cases ho9
   have r1:=hD.old 1 _ rfl rfl
   refine wpOp_step rfl fun K hK=>?_
   go_simp
   exact hK _ _ ⟨rfl,hM⟩
  ·cases ho9
   have r5:=hD.od hd9 0 5 _ rfl (by simp)
   have r6:=hD.od hd9 1 6 _ rfl (by simp)
   refine wpOp_step rfl fun K hK=>?_
   go_simp
   exact hK _ _ ⟨act_eq (by kernel_rfl),hM⟩
  ·cases ho9
   have r2:=hD.old 2 _ rfl rfl
   have hM0:=hM
   have Q_:=hM0.cellAt (b:=w.heap.size) (cs:=#[.bool s,.bool o,.int .i64 (-1)]) (t:=216) (by simp)
   have c9_0:=Q_ 0 _ rfl
   have c9_1:=Q_ 1 _ rfl
   have c9_2:=Q_ 2 _ rfl
   clear Q_
   clear hM0
   refine wpOp_step rfl fun K hK=>?_
   go_simp
   exact hK _ _ ⟨rfl,hM⟩
  ·cases ho9
   have r7:=hD.od hd9 2 7 _ rfl (by simp)
   have r8:=hD.od hd9 3 8 _ rfl (by simp)
   refine wpOp_step rfl fun K hK=>?_
   go_simp
   go_wp2_with fail
   refine (even_m s o _).mono ?_
   rintro en w9 ⟨rfl,hb9⟩
   exact hK _ _ ⟨rfl,hM.kept hb9⟩
  ·cases ho9
   have r9:=hD.od hd9 4 9 _ rfl (by simp)
   refine wpOp_step rfl fun K hK=>?_
   go_simp
   exact hK _ _ ⟨rfl,hM⟩
 ·intro l9 W9 hl9 hM
  have hS:=hM
  clear hM
  simp only [Puts.lay,List.setIfInBounds_toArray,List.set_cons_zero,List.set_cons_succ]
  obtain ⟨⟨ya,yb,yc,-⟩,-⟩:=hS.cells
  go_wp2
  go_ret
  exact ⟨rfl,hS.fr⟩
theorem far_1m (s o:Bool) (w:World)  :
  Calls Tryz.prog 164 #[.agg #[.bool s,.bool o,.int .i64 (-1)],.int .u8 1] w fun e w'=>e = .returned (.bool false)∧Below w.heap.size w w':=by
 go_enter Tryz.func164,Tryz.ntmps164
 go_wp2_with fail
 refine wp_region_any (by kernel_rfl) ?_
 refine wpAny_det [some (5,.agg #[.func (.func 174) #[] #[],.func (.func 175) #[] #[],.func (.func 176) #[] #[],.func (.func 177) #[] #[],.func (.func 178) #[] #[]]),some (6,.int .u8 1),some (7,.func (.func 175) #[] #[]),some (8,.agg #[.bool s,.bool o,.int .i64 (-1)]),some (9,.bool false),some (4,.bool false)]
  (fun _ W9=>Fs w W9 [⟨w.heap.size,#[.bool s,.bool o,.int .i64 (-1)],216⟩]) _ _ rfl (by kernel_rfl) rfl rfl ?_ ?_ (Fs.one w _ _).drew
 ·intro l9 t9 W9 i9 hD hi9 hl9 hM
  obtain ⟨o9,ho9,hd9⟩:=(mem_ready.1 hi9).2
  have hin9:i9 < 6:=by
   by_cases h:i9 < 6
   ·exact h
   ·rw [Array.getElem?_eq_none (by rw [hD.len]; simp; omega)] at hl9; cases hl9
  have hcase:i9 = 0∨i9 = 1∨i9 = 2∨i9 = 3∨i9 = 4∨i9 = 5:=by omega
  clear hin9
  rcases hcase with rfl|rfl|rfl|rfl|rfl|rfl
  ·cases ho9
   refine wpOp_step rfl fun K hK=>?_
   go_simp
   go_wp2_with fail
   refine (modes_any _).mono ?_
   rintro en w9 ⟨rfl,hb9⟩
   exact hK _ _ ⟨rfl,hM.kept hb9⟩
  ·cases ho9
   have r1:=hD.old 1 _ rfl rfl
   refine wpOp_step rfl fun K hK=>?_
   go_simp
   exact hK _ _ ⟨rfl,hM⟩
  ·cases ho9
   have r5:=hD.od hd9 0 5 _ rfl (by simp)
   have r6:=hD.od hd9 1 6 _ rfl (by simp)
   refine wpOp_step rfl fun K hK=>?_
   go_simp
   exact hK _ _ ⟨act_eq (by kernel_rfl),hM⟩
  ·cases ho9
   have r2:=hD.old 2 _ rfl rfl
   have hM0:=hM
   have Q_:=hM0.cellAt (b:=w.heap.size) (cs:=#[.bool s,.bool o,.int .i64 (-1)]) (t:=216) (by simp)
   have c9_0:=Q_ 0 _ rfl
   have c9_1:=Q_ 1 _ rfl
   have c9_2:=Q_ 2 _ rfl
   clear Q_
   clear hM0
   refine wpOp_step rfl fun K hK=>?_
   go_simp
   exact hK _ _ ⟨rfl,hM⟩
  ·cases ho9
   have r7:=hD.od hd9 2 7 _ rfl (by simp)
   have r8:=hD.od hd9 3 8 _ rfl (by simp)
   refine wpOp_step rfl fun K hK=>?_
   go_simp
   go_wp2_with fail
   refine (away_m s o _).mono ?_
   rintro en w9 ⟨rfl,hb9⟩
   exact hK _ _ ⟨rfl,hM.kept hb9⟩
  ·cases ho9
   have r9:=hD.od hd9 4 9 _ rfl (by simp)
   refine wpOp_step rfl fun K hK=>?_
   go_simp
   exact hK _ _ ⟨rfl,hM⟩
 ·intro l9 W9 hl9 hM
  have hS:=hM
  clear hM
  simp only [Puts.lay,List.setIfInBounds_toArray,List.set_cons_zero,List.set_cons_succ]
  obtain ⟨⟨ya,yb,yc,-⟩,-⟩:=hS.cells
  go_wp2
  go_ret
  exact ⟨rfl,hS.fr⟩
theorem far_0z (s o:Bool) (w:World)  :
  Calls Tryz.prog 164 #[.agg #[.bool s,.bool o,.int .i64 0],.int .u8 0] w fun e w'=>e = .returned (.bool o)∧Below w.heap.size w w':=by
 go_enter Tryz.func164,Tryz.ntmps164
 go_wp2_with fail
 refine wp_region_any (by kernel_rfl) ?_
 refine wpAny_det [some (5,.agg #[.func (.func 174) #[] #[],.func (.func 175) #[] #[],.func (.func 176) #[] #[],.func (.func 177) #[] #[],.func (.func 178) #[] #[]]),some (6,.int .u8 0),some (7,.func (.func 174) #[] #[]),some (8,.agg #[.bool s,.bool o,.int .i64 0]),some (9,.bool o),some (4,.bool o)]
  (fun _ W9=>Fs w W9 [⟨w.heap.size,#[.bool s,.bool o,.int .i64 0],216⟩]) _ _ rfl (by kernel_rfl) rfl rfl ?_ ?_ (Fs.one w _ _).drew
 ·intro l9 t9 W9 i9 hD hi9 hl9 hM
  obtain ⟨o9,ho9,hd9⟩:=(mem_ready.1 hi9).2
  have hin9:i9 < 6:=by
   by_cases h:i9 < 6
   ·exact h
   ·rw [Array.getElem?_eq_none (by rw [hD.len]; simp; omega)] at hl9; cases hl9
  have hcase:i9 = 0∨i9 = 1∨i9 = 2∨i9 = 3∨i9 = 4∨i9 = 5:=by omega
  clear hin9
  rcases hcase with rfl|rfl|rfl|rfl|rfl|rfl
  ·cases ho9
   refine wpOp_step rfl fun K hK=>?_
   go_simp
   go_wp2_with fail
   refine (modes_any _).mono ?_
   rintro en w9 ⟨rfl,hb9⟩
   exact hK _ _ ⟨rfl,hM.kept hb9⟩
  ·cases ho9
   have r1:=hD.old 1 _ rfl rfl
   refine wpOp_step rfl fun K hK=>?_
   go_simp
   exact hK _ _ ⟨rfl,hM⟩
  ·cases ho9
   have r5:=hD.od hd9 0 5 _ rfl (by simp)
   have r6:=hD.od hd9 1 6 _ rfl (by simp)
   refine wpOp_step rfl fun K hK=>?_
   go_simp
   exact hK _ _ ⟨act_eq (by kernel_rfl),hM⟩
  ·cases ho9
   have r2:=hD.old 2 _ rfl rfl
   have hM0:=hM
   have Q_:=hM0.cellAt (b:=w.heap.size) (cs:=#[.bool s,.bool o,.int .i64 0]) (t:=216) (by simp)
   have c9_0:=Q_ 0 _ rfl
   have c9_1:=Q_ 1 _ rfl
   have c9_2:=Q_ 2 _ rfl
   clear Q_
   clear hM0
   refine wpOp_step rfl fun K hK=>?_
   go_simp
   exact hK _ _ ⟨rfl,hM⟩
  ·cases ho9
   have r7:=hD.od hd9 2 7 _ rfl (by simp)
   have r8:=hD.od hd9 3 8 _ rfl (by simp)
   refine wpOp_step rfl fun K hK=>?_
   go_simp
   go_wp2_with fail
   refine (even_z s o _).mono ?_
   rintro en w9 ⟨rfl,hb9⟩
   exact hK _ _ ⟨rfl,hM.kept hb9⟩
  ·cases ho9
   have r9:=hD.od hd9 4 9 _ rfl (by simp)
   refine wpOp_step rfl fun K hK=>?_
   go_simp
   exact hK _ _ ⟨rfl,hM⟩
 ·intro l9 W9 hl9 hM
  have hS:=hM
  clear hM
  simp only [Puts.lay,List.setIfInBounds_toArray,List.set_cons_zero,List.set_cons_succ]
  obtain ⟨⟨ya,yb,yc,-⟩,-⟩:=hS.cells
  go_wp2
  go_ret
  exact ⟨rfl,hS.fr⟩
theorem far_1z (s o:Bool) (w:World)  :
  Calls Tryz.prog 164 #[.agg #[.bool s,.bool o,.int .i64 0],.int .u8 1] w fun e w'=>e = .returned (.bool true)∧Below w.heap.size w w':=by
 go_enter Tryz.func164,Tryz.ntmps164
 go_wp2_with fail
 refine wp_region_any (by kernel_rfl) ?_
 refine wpAny_det [some (5,.agg #[.func (.func 174) #[] #[],.func (.func 175) #[] #[],.func (.func 176) #[] #[],.func (.func 177) #[] #[],.func (.func 178) #[] #[]]),some (6,.int .u8 1),some (7,.func (.func 175) #[] #[]),some (8,.agg #[.bool s,.bool o,.int .i64 0]),some (9,.bool true),some (4,.bool true)]
  (fun _ W9=>Fs w W9 [⟨w.heap.size,#[.bool s,.bool o,.int .i64 0],216⟩]) _ _ rfl (by kernel_rfl) rfl rfl ?_ ?_ (Fs.one w _ _).drew
 ·intro l9 t9 W9 i9 hD hi9 hl9 hM
  obtain ⟨o9,ho9,hd9⟩:=(mem_ready.1 hi9).2
  have hin9:i9 < 6:=by
   by_cases h:i9 < 6
   ·exact h
   ·rw [Array.getElem?_eq_none (by rw [hD.len]; simp; omega)] at hl9; cases hl9
  have hcase:i9 = 0∨i9 = 1∨i9 = 2∨i9 = 3∨i9 = 4∨i9 = 5:=by omega
  clear hin9
  rcases hcase with rfl|rfl|rfl|rfl|rfl|rfl
  ·cases ho9
   refine wpOp_step rfl fun K hK=>?_
   go_simp
   go_wp2_with fail
   refine (modes_any _).mono ?_
   rintro en w9 ⟨rfl,hb9⟩
   exact hK _ _ ⟨rfl,hM.kept hb9⟩
  ·cases ho9
   have r1:=hD.old 1 _ rfl rfl
   refine wpOp_step rfl fun K hK=>?_
   go_simp
   exact hK _ _ ⟨rfl,hM⟩
  ·cases ho9
   have r5:=hD.od hd9 0 5 _ rfl (by simp)
   have r6:=hD.od hd9 1 6 _ rfl (by simp)
   refine wpOp_step rfl fun K hK=>?_
   go_simp
   exact hK _ _ ⟨act_eq (by kernel_rfl),hM⟩
  ·cases ho9
   have r2:=hD.old 2 _ rfl rfl
   have hM0:=hM
   have Q_:=hM0.cellAt (b:=w.heap.size) (cs:=#[.bool s,.bool o,.int .i64 0]) (t:=216) (by simp)
   have c9_0:=Q_ 0 _ rfl
   have c9_1:=Q_ 1 _ rfl
   have c9_2:=Q_ 2 _ rfl
   clear Q_
   clear hM0
   refine wpOp_step rfl fun K hK=>?_
   go_simp
   exact hK _ _ ⟨rfl,hM⟩
  ·cases ho9
   have r7:=hD.od hd9 2 7 _ rfl (by simp)
   have r8:=hD.od hd9 3 8 _ rfl (by simp)
   refine wpOp_step rfl fun K hK=>?_
   go_simp
   go_wp2_with fail
   refine (away_z s o _).mono ?_
   rintro en w9 ⟨rfl,hb9⟩
   exact hK _ _ ⟨rfl,hM.kept hb9⟩
  ·cases ho9
   have r9:=hD.od hd9 4 9 _ rfl (by simp)
   refine wpOp_step rfl fun K hK=>?_
   go_simp
   exact hK _ _ ⟨rfl,hM⟩
 ·intro l9 W9 hl9 hM
  have hS:=hM
  clear hM
  simp only [Puts.lay,List.setIfInBounds_toArray,List.set_cons_zero,List.set_cons_succ]
  obtain ⟨⟨ya,yb,yc,-⟩,-⟩:=hS.cells
  go_wp2
  go_ret
  exact ⟨rfl,hS.fr⟩
theorem far_0p (s o:Bool) (w:World)  :
  Calls Tryz.prog 164 #[.agg #[.bool s,.bool o,.int .i64 1],.int .u8 0] w fun e w'=>e = .returned (.bool true)∧Below w.heap.size w w':=by
 go_enter Tryz.func164,Tryz.ntmps164
 go_wp2_with fail
 refine wp_region_any (by kernel_rfl) ?_
 refine wpAny_det [some (5,.agg #[.func (.func 174) #[] #[],.func (.func 175) #[] #[],.func (.func 176) #[] #[],.func (.func 177) #[] #[],.func (.func 178) #[] #[]]),some (6,.int .u8 0),some (7,.func (.func 174) #[] #[]),some (8,.agg #[.bool s,.bool o,.int .i64 1]),some (9,.bool true),some (4,.bool true)]
  (fun _ W9=>Fs w W9 [⟨w.heap.size,#[.bool s,.bool o,.int .i64 1],216⟩]) _ _ rfl (by kernel_rfl) rfl rfl ?_ ?_ (Fs.one w _ _).drew
 ·intro l9 t9 W9 i9 hD hi9 hl9 hM
  obtain ⟨o9,ho9,hd9⟩:=(mem_ready.1 hi9).2
  have hin9:i9 < 6:=by
   by_cases h:i9 < 6
   ·exact h
   ·rw [Array.getElem?_eq_none (by rw [hD.len]; simp; omega)] at hl9; cases hl9
  have hcase:i9 = 0∨i9 = 1∨i9 = 2∨i9 = 3∨i9 = 4∨i9 = 5:=by omega
  clear hin9
  rcases hcase with rfl|rfl|rfl|rfl|rfl|rfl
  ·cases ho9
   refine wpOp_step rfl fun K hK=>?_
   go_simp
   go_wp2_with fail
   refine (modes_any _).mono ?_
   rintro en w9 ⟨rfl,hb9⟩
   exact hK _ _ ⟨rfl,hM.kept hb9⟩
  ·cases ho9
   have r1:=hD.old 1 _ rfl rfl
   refine wpOp_step rfl fun K hK=>?_
   go_simp
   exact hK _ _ ⟨rfl,hM⟩
  ·cases ho9
   have r5:=hD.od hd9 0 5 _ rfl (by simp)
   have r6:=hD.od hd9 1 6 _ rfl (by simp)
   refine wpOp_step rfl fun K hK=>?_
   go_simp
   exact hK _ _ ⟨act_eq (by kernel_rfl),hM⟩
  ·cases ho9
   have r2:=hD.old 2 _ rfl rfl
   have hM0:=hM
   have Q_:=hM0.cellAt (b:=w.heap.size) (cs:=#[.bool s,.bool o,.int .i64 1]) (t:=216) (by simp)
   have c9_0:=Q_ 0 _ rfl
   have c9_1:=Q_ 1 _ rfl
   have c9_2:=Q_ 2 _ rfl
   clear Q_
   clear hM0
   refine wpOp_step rfl fun K hK=>?_
   go_simp
   exact hK _ _ ⟨rfl,hM⟩
  ·cases ho9
   have r7:=hD.od hd9 2 7 _ rfl (by simp)
   have r8:=hD.od hd9 3 8 _ rfl (by simp)
   refine wpOp_step rfl fun K hK=>?_
   go_simp
   go_wp2_with fail
   refine (even_p s o _).mono ?_
   rintro en w9 ⟨rfl,hb9⟩
   exact hK _ _ ⟨rfl,hM.kept hb9⟩
  ·cases ho9
   have r9:=hD.od hd9 4 9 _ rfl (by simp)
   refine wpOp_step rfl fun K hK=>?_
   go_simp
   exact hK _ _ ⟨rfl,hM⟩
 ·intro l9 W9 hl9 hM
  have hS:=hM
  clear hM
  simp only [Puts.lay,List.setIfInBounds_toArray,List.set_cons_zero,List.set_cons_succ]
  obtain ⟨⟨ya,yb,yc,-⟩,-⟩:=hS.cells
  go_wp2
  go_ret
  exact ⟨rfl,hS.fr⟩
theorem far_1p (s o:Bool) (w:World)  :
  Calls Tryz.prog 164 #[.agg #[.bool s,.bool o,.int .i64 1],.int .u8 1] w fun e w'=>e = .returned (.bool true)∧Below w.heap.size w w':=by
 go_enter Tryz.func164,Tryz.ntmps164
 go_wp2_with fail
 refine wp_region_any (by kernel_rfl) ?_
 refine wpAny_det [some (5,.agg #[.func (.func 174) #[] #[],.func (.func 175) #[] #[],.func (.func 176) #[] #[],.func (.func 177) #[] #[],.func (.func 178) #[] #[]]),some (6,.int .u8 1),some (7,.func (.func 175) #[] #[]),some (8,.agg #[.bool s,.bool o,.int .i64 1]),some (9,.bool true),some (4,.bool true)]
  (fun _ W9=>Fs w W9 [⟨w.heap.size,#[.bool s,.bool o,.int .i64 1],216⟩]) _ _ rfl (by kernel_rfl) rfl rfl ?_ ?_ (Fs.one w _ _).drew
 ·intro l9 t9 W9 i9 hD hi9 hl9 hM
  obtain ⟨o9,ho9,hd9⟩:=(mem_ready.1 hi9).2
  have hin9:i9 < 6:=by
   by_cases h:i9 < 6
   ·exact h
   ·rw [Array.getElem?_eq_none (by rw [hD.len]; simp; omega)] at hl9; cases hl9
  have hcase:i9 = 0∨i9 = 1∨i9 = 2∨i9 = 3∨i9 = 4∨i9 = 5:=by omega
  clear hin9
  rcases hcase with rfl|rfl|rfl|rfl|rfl|rfl
  ·cases ho9
   refine wpOp_step rfl fun K hK=>?_
   go_simp
   go_wp2_with fail
   refine (modes_any _).mono ?_
   rintro en w9 ⟨rfl,hb9⟩
   exact hK _ _ ⟨rfl,hM.kept hb9⟩
  ·cases ho9
   have r1:=hD.old 1 _ rfl rfl
   refine wpOp_step rfl fun K hK=>?_
   go_simp
   exact hK _ _ ⟨rfl,hM⟩
  ·cases ho9
   have r5:=hD.od hd9 0 5 _ rfl (by simp)
   have r6:=hD.od hd9 1 6 _ rfl (by simp)
   refine wpOp_step rfl fun K hK=>?_
   go_simp
   exact hK _ _ ⟨act_eq (by kernel_rfl),hM⟩
  ·cases ho9
   have r2:=hD.old 2 _ rfl rfl
   have hM0:=hM
   have Q_:=hM0.cellAt (b:=w.heap.size) (cs:=#[.bool s,.bool o,.int .i64 1]) (t:=216) (by simp)
   have c9_0:=Q_ 0 _ rfl
   have c9_1:=Q_ 1 _ rfl
   have c9_2:=Q_ 2 _ rfl
   clear Q_
   clear hM0
   refine wpOp_step rfl fun K hK=>?_
   go_simp
   exact hK _ _ ⟨rfl,hM⟩
  ·cases ho9
   have r7:=hD.od hd9 2 7 _ rfl (by simp)
   have r8:=hD.od hd9 3 8 _ rfl (by simp)
   refine wpOp_step rfl fun K hK=>?_
   go_simp
   go_wp2_with fail
   refine (away_p s o _).mono ?_
   rintro en w9 ⟨rfl,hb9⟩
   exact hK _ _ ⟨rfl,hM.kept hb9⟩
  ·cases ho9
   have r9:=hD.od hd9 4 9 _ rfl (by simp)
   refine wpOp_step rfl fun K hK=>?_
   go_simp
   exact hK _ _ ⟨rfl,hM⟩
 ·intro l9 W9 hl9 hM
  have hS:=hM
  clear hM
  simp only [Puts.lay,List.setIfInBounds_toArray,List.set_cons_zero,List.set_cons_succ]
  obtain ⟨⟨ya,yb,yc,-⟩,-⟩:=hS.cells
  go_wp2
  go_ret
  exact ⟨rfl,hS.fr⟩
theorem far_2 (s o:Bool) (h:Int) (w:World)  :
  Calls Tryz.prog 164 #[.agg #[.bool s,.bool o,.int .i64 h],.int .u8 2] w fun e w'=>e = .returned (.bool false)∧Below w.heap.size w w':=by
 go_enter Tryz.func164,Tryz.ntmps164
 go_wp2_with fail
 refine wp_region_any (by kernel_rfl) ?_
 refine wpAny_det [some (5,.agg #[.func (.func 174) #[] #[],.func (.func 175) #[] #[],.func (.func 176) #[] #[],.func (.func 177) #[] #[],.func (.func 178) #[] #[]]),some (6,.int .u8 2),some (7,.func (.func 176) #[] #[]),some (8,.agg #[.bool s,.bool o,.int .i64 h]),some (9,.bool false),some (4,.bool false)]
  (fun _ W9=>Fs w W9 [⟨w.heap.size,#[.bool s,.bool o,.int .i64 h],216⟩]) _ _ rfl (by kernel_rfl) rfl rfl ?_ ?_ (Fs.one w _ _).drew
 ·intro l9 t9 W9 i9 hD hi9 hl9 hM
  obtain ⟨o9,ho9,hd9⟩:=(mem_ready.1 hi9).2
  have hin9:i9 < 6:=by
   by_cases h:i9 < 6
   ·exact h
   ·rw [Array.getElem?_eq_none (by rw [hD.len]; simp; omega)] at hl9; cases hl9
  have hcase:i9 = 0∨i9 = 1∨i9 = 2∨i9 = 3∨i9 = 4∨i9 = 5:=by omega
  clear hin9
  rcases hcase with rfl|rfl|rfl|rfl|rfl|rfl
  ·cases ho9
   refine wpOp_step rfl fun K hK=>?_
   go_simp
   go_wp2_with fail
   refine (modes_any _).mono ?_
   rintro en w9 ⟨rfl,hb9⟩
   exact hK _ _ ⟨rfl,hM.kept hb9⟩
  ·cases ho9
   have r1:=hD.old 1 _ rfl rfl
   refine wpOp_step rfl fun K hK=>?_
   go_simp
   exact hK _ _ ⟨rfl,hM⟩
  ·cases ho9
   have r5:=hD.od hd9 0 5 _ rfl (by simp)
   have r6:=hD.od hd9 1 6 _ rfl (by simp)
   refine wpOp_step rfl fun K hK=>?_
   go_simp
   exact hK _ _ ⟨act_eq (by kernel_rfl),hM⟩
  ·cases ho9
   have r2:=hD.old 2 _ rfl rfl
   have hM0:=hM
   have Q_:=hM0.cellAt (b:=w.heap.size) (cs:=#[.bool s,.bool o,.int .i64 h]) (t:=216) (by simp)
   have c9_0:=Q_ 0 _ rfl
   have c9_1:=Q_ 1 _ rfl
   have c9_2:=Q_ 2 _ rfl
   clear Q_
   clear hM0
   refine wpOp_step rfl fun K hK=>?_
   go_simp
   exact hK _ _ ⟨rfl,hM⟩
  ·cases ho9
   have r7:=hD.od hd9 2 7 _ rfl (by simp)
   have r8:=hD.od hd9 3 8 _ rfl (by simp)
   refine wpOp_step rfl fun K hK=>?_
   go_simp
   go_wp2_with fail
   refine (zero_any s o h _).mono ?_
   rintro en w9 ⟨rfl,hb9⟩
   exact hK _ _ ⟨rfl,hM.kept hb9⟩
  ·cases ho9
   have r9:=hD.od hd9 4 9 _ rfl (by simp)
   refine wpOp_step rfl fun K hK=>?_
   go_simp
   exact hK _ _ ⟨rfl,hM⟩
 ·intro l9 W9 hl9 hM
  have hS:=hM
  clear hM
  simp only [Puts.lay,List.setIfInBounds_toArray,List.set_cons_zero,List.set_cons_succ]
  obtain ⟨⟨ya,yb,yc,-⟩,-⟩:=hS.cells
  go_wp2
  go_ret
  exact ⟨rfl,hS.fr⟩
theorem far_3 (s o:Bool) (h:Int) (w:World)  :
  Calls Tryz.prog 164 #[.agg #[.bool s,.bool o,.int .i64 h],.int .u8 3] w fun e w'=>e = .returned (.bool (!s))∧Below w.heap.size w w':=by
 go_enter Tryz.func164,Tryz.ntmps164
 go_wp2_with fail
 refine wp_region_any (by kernel_rfl) ?_
 refine wpAny_det [some (5,.agg #[.func (.func 174) #[] #[],.func (.func 175) #[] #[],.func (.func 176) #[] #[],.func (.func 177) #[] #[],.func (.func 178) #[] #[]]),some (6,.int .u8 3),some (7,.func (.func 177) #[] #[]),some (8,.agg #[.bool s,.bool o,.int .i64 h]),some (9,.bool (!s)),some (4,.bool (!s))]
  (fun _ W9=>Fs w W9 [⟨w.heap.size,#[.bool s,.bool o,.int .i64 h],216⟩]) _ _ rfl (by kernel_rfl) rfl rfl ?_ ?_ (Fs.one w _ _).drew
 ·intro l9 t9 W9 i9 hD hi9 hl9 hM
  obtain ⟨o9,ho9,hd9⟩:=(mem_ready.1 hi9).2
  have hin9:i9 < 6:=by
   by_cases h:i9 < 6
   ·exact h
   ·rw [Array.getElem?_eq_none (by rw [hD.len]; simp; omega)] at hl9; cases hl9
  have hcase:i9 = 0∨i9 = 1∨i9 = 2∨i9 = 3∨i9 = 4∨i9 = 5:=by omega
  clear hin9
  rcases hcase with rfl|rfl|rfl|rfl|rfl|rfl
  ·cases ho9
   refine wpOp_step rfl fun K hK=>?_
   go_simp
   go_wp2_with fail
   refine (modes_any _).mono ?_
   rintro en w9 ⟨rfl,hb9⟩
   exact hK _ _ ⟨rfl,hM.kept hb9⟩
  ·cases ho9
   have r1:=hD.old 1 _ rfl rfl
   refine wpOp_step rfl fun K hK=>?_
   go_simp
   exact hK _ _ ⟨rfl,hM⟩
  ·cases ho9
   have r5:=hD.od hd9 0 5 _ rfl (by simp)
   have r6:=hD.od hd9 1 6 _ rfl (by simp)
   refine wpOp_step rfl fun K hK=>?_
   go_simp
   exact hK _ _ ⟨act_eq (by kernel_rfl),hM⟩
  ·cases ho9
   have r2:=hD.old 2 _ rfl rfl
   have hM0:=hM
   have Q_:=hM0.cellAt (b:=w.heap.size) (cs:=#[.bool s,.bool o,.int .i64 h]) (t:=216) (by simp)
   have c9_0:=Q_ 0 _ rfl
   have c9_1:=Q_ 1 _ rfl
   have c9_2:=Q_ 2 _ rfl
   clear Q_
   clear hM0
   refine wpOp_step rfl fun K hK=>?_
   go_simp
   exact hK _ _ ⟨rfl,hM⟩
  ·cases ho9
   have r7:=hD.od hd9 2 7 _ rfl (by simp)
   have r8:=hD.od hd9 3 8 _ rfl (by simp)
   refine wpOp_step rfl fun K hK=>?_
   go_simp
   go_wp2_with fail
   refine (up_any_ s o h _).mono ?_
   rintro en w9 ⟨rfl,hb9⟩
   exact hK _ _ ⟨rfl,hM.kept hb9⟩
  ·cases ho9
   have r9:=hD.od hd9 4 9 _ rfl (by simp)
   refine wpOp_step rfl fun K hK=>?_
   go_simp
   exact hK _ _ ⟨rfl,hM⟩
 ·intro l9 W9 hl9 hM
  have hS:=hM
  clear hM
  simp only [Puts.lay,List.setIfInBounds_toArray,List.set_cons_zero,List.set_cons_succ]
  obtain ⟨⟨ya,yb,yc,-⟩,-⟩:=hS.cells
  go_wp2
  go_ret
  exact ⟨rfl,hS.fr⟩
theorem far_4 (s o:Bool) (h:Int) (w:World)  :
  Calls Tryz.prog 164 #[.agg #[.bool s,.bool o,.int .i64 h],.int .u8 4] w fun e w'=>e = .returned (.bool s)∧Below w.heap.size w w':=by
 go_enter Tryz.func164,Tryz.ntmps164
 go_wp2_with fail
 refine wp_region_any (by kernel_rfl) ?_
 refine wpAny_det [some (5,.agg #[.func (.func 174) #[] #[],.func (.func 175) #[] #[],.func (.func 176) #[] #[],.func (.func 177) #[] #[],.func (.func 178) #[] #[]]),some (6,.int .u8 4),some (7,.func (.func 178) #[] #[]),some (8,.agg #[.bool s,.bool o,.int .i64 h]),some (9,.bool s),some (4,.bool s)]
  (fun _ W9=>Fs w W9 [⟨w.heap.size,#[.bool s,.bool o,.int .i64 h],216⟩]) _ _ rfl (by kernel_rfl) rfl rfl ?_ ?_ (Fs.one w _ _).drew
 ·intro l9 t9 W9 i9 hD hi9 hl9 hM
  obtain ⟨o9,ho9,hd9⟩:=(mem_ready.1 hi9).2
  have hin9:i9 < 6:=by
   by_cases h:i9 < 6
   ·exact h
   ·rw [Array.getElem?_eq_none (by rw [hD.len]; simp; omega)] at hl9; cases hl9
  have hcase:i9 = 0∨i9 = 1∨i9 = 2∨i9 = 3∨i9 = 4∨i9 = 5:=by omega
  clear hin9
  rcases hcase with rfl|rfl|rfl|rfl|rfl|rfl
  ·cases ho9
   refine wpOp_step rfl fun K hK=>?_
   go_simp
   go_wp2_with fail
   refine (modes_any _).mono ?_
   rintro en w9 ⟨rfl,hb9⟩
   exact hK _ _ ⟨rfl,hM.kept hb9⟩
  ·cases ho9
   have r1:=hD.old 1 _ rfl rfl
   refine wpOp_step rfl fun K hK=>?_
   go_simp
   exact hK _ _ ⟨rfl,hM⟩
  ·cases ho9
   have r5:=hD.od hd9 0 5 _ rfl (by simp)
   have r6:=hD.od hd9 1 6 _ rfl (by simp)
   refine wpOp_step rfl fun K hK=>?_
   go_simp
   exact hK _ _ ⟨act_eq (by kernel_rfl),hM⟩
  ·cases ho9
   have r2:=hD.old 2 _ rfl rfl
   have hM0:=hM
   have Q_:=hM0.cellAt (b:=w.heap.size) (cs:=#[.bool s,.bool o,.int .i64 h]) (t:=216) (by simp)
   have c9_0:=Q_ 0 _ rfl
   have c9_1:=Q_ 1 _ rfl
   have c9_2:=Q_ 2 _ rfl
   clear Q_
   clear hM0
   refine wpOp_step rfl fun K hK=>?_
   go_simp
   exact hK _ _ ⟨rfl,hM⟩
  ·cases ho9
   have r7:=hD.od hd9 2 7 _ rfl (by simp)
   have r8:=hD.od hd9 3 8 _ rfl (by simp)
   refine wpOp_step rfl fun K hK=>?_
   go_simp
   go_wp2_with fail
   refine (down_any_ s o h _).mono ?_
   rintro en w9 ⟨rfl,hb9⟩
   exact hK _ _ ⟨rfl,hM.kept hb9⟩
  ·cases ho9
   have r9:=hD.od hd9 4 9 _ rfl (by simp)
   refine wpOp_step rfl fun K hK=>?_
   go_simp
   exact hK _ _ ⟨rfl,hM⟩
 ·intro l9 W9 hl9 hM
  have hS:=hM
  clear hM
  simp only [Puts.lay,List.setIfInBounds_toArray,List.set_cons_zero,List.set_cons_succ]
  obtain ⟨⟨ya,yb,yc,-⟩,-⟩:=hS.cells
  go_wp2
  go_ret
  exact ⟨rfl,hS.fr⟩
theorem farther_any (mode:Nat) (s o:Bool) (h:Int) (hm:mode≤4) (hh:h = -1∨h = 0∨h = 1) (w:World) :
  Calls Tryz.prog 164 #[.agg #[.bool s,.bool o,.int .i64 h],.int .u8 (mode:Int)] w fun e w'=>e = .returned (.bool (fth mode s o h))∧Below w.heap.size w w':=by
 have hc:mode = 0∨mode = 1∨mode = 2∨mode = 3∨mode = 4:=by omega
 rcases hc with rfl|rfl|rfl|rfl|rfl
 ·rcases hh with rfl|rfl|rfl
  ·exact far_0m s o w
  ·cases o
   ·exact far_0z s false w
   ·exact far_0z s true w
  ·exact far_0p s o w
 ·rcases hh with rfl|rfl|rfl
  ·exact far_1m s o w
  ·exact far_1z s o w
  ·exact far_1p s o w
 ·exact far_2 s o h w
 ·exact far_3 s o h w
 ·exact far_4 s o h w
theorem ofInt_u64 (a:Nat) (h:a < 18446744073709551616):(BitVec.ofInt 64 (a:Int)).toNat = a:=by
 rw [BitVec.ofInt_natCast,BitVec.toNat_ofNat]; exact Nat.mod_eq_of_lt h
theorem andNot_u64 (a b c:Nat) (hc:c < 18446744073709551616) (h:∀ i,i < 64→c.testBit i = (a.testBit i && !b.testBit i)) :
  Go.bits .andNot .u64 (a:Int) (b:Int) = (c:Int):=by
 show IntKind.u64.wrap ((BitVec.ofInt 64 (a:Int) &&& ~~~ BitVec.ofInt 64 (b:Int)).toNat:Int) = _
 have e:BitVec.ofInt 64 (a:Int) &&& ~~~ BitVec.ofInt 64 (b:Int) = BitVec.ofInt 64 (c:Int):=by
  apply BitVec.eq_of_getLsbD_eq
  intro i hi
  have ga:∀ x:Nat,(BitVec.ofInt 64 (x:Int)).getLsbD i = x.testBit i:=fun x=>by
   rw [BitVec.ofInt_natCast,BitVec.getLsbD_ofNat]; simp [hi]
  rw [BitVec.getLsbD_and,BitVec.getLsbD_not,ga,ga,ga,h i hi]
  simp [hi]
 rw [e,ofInt_u64 c hc,IntKind.wrap_u64]
 omega
theorem or_u64 (a b:Nat) (k q:Nat) (hq:a = q * 2 ^ k) (hb:b < 2 ^ k) (ha:a+b < 18446744073709551616):Go.bits .or .u64 (a:Int) (b:Int) = ((a+b:Nat):Int):=by
 have h:=bits_or_u64_nat a b (by omega) (by omega)
 have e:a ||| b = a+b:=by
  have:=Nat.two_pow_add_eq_or_of_lt (i:=k) (b:=b) hb q
  rw [hq,Nat.mul_comm q]; exact this.symm
 rw [h,e]
theorem pow_bound {n k:Nat} (h:n≤k):2 ^ n≤2 ^ k:=Nat.pow_le_pow_right (by decide) h
theorem pow_pos2 (n:Nat):0 < 2 ^ n:=Nat.pow_pos (by decide)
theorem clear_top (b K:Nat) (hK:K≤63) (hb:b < 2 ^ (K+1)):Go.bits .andNot .u64 (b:Int) ((2 ^ K:Nat):Int) = ((b % 2 ^ K:Nat):Int):=by
 have h1:=pow_bound (show K+1≤64 by omega)
 have h2:=pow_bound hK
 have h3:=Nat.mod_le b (2 ^ K)
 refine andNot_u64 b (2 ^ K) (b % 2 ^ K) (by omega) fun i _=>?_
 rw [Nat.testBit_mod_two_pow,Nat.testBit_two_pow]
 by_cases h:i < K
 ·have:K≠i:=by omega
  simp [h,this]
 ·by_cases he:K = i
  ·simp [he]
  ·have:b.testBit i = false:=Nat.testBit_lt_two_pow (Nat.lt_of_lt_of_le hb (pow_bound (by omega)))
   simp [this]
theorem andNot_ex (a b:Nat):∃ c:Nat,c < 18446744073709551616∧Go.bits .andNot .u64 (a:Int) (b:Int) = (c:Int)∧∀ i,i < 64→c.testBit i = (a.testBit i && !b.testBit i):=by
 refine ⟨(BitVec.ofNat 64 a &&& ~~~ BitVec.ofNat 64 b).toNat,(BitVec.ofNat 64 a &&& ~~~ BitVec.ofNat 64 b).isLt,?_,?_⟩
 ·refine andNot_u64 a b _ (BitVec.ofNat 64 a &&& ~~~ BitVec.ofNat 64 b).isLt fun i hi=>?_
  rw [BitVec.testBit_toNat,BitVec.getLsbD_and,BitVec.getLsbD_not,BitVec.getLsbD_ofNat,BitVec.getLsbD_ofNat]
  simp [hi]
 ·intro i hi
  rw [BitVec.testBit_toNat,BitVec.getLsbD_and,BitVec.getLsbD_not,BitVec.getLsbD_ofNat,BitVec.getLsbD_ofNat]
  simp [hi]
theorem bit_mid (E F i:Nat):((2 ^ E - 1) * 2 ^ F).testBit i = (decide (F≤i) && decide (i < F+E)):=by
 rw [Nat.testBit_mul_two_pow]
 by_cases h:F≤i
 ·rw [Nat.testBit_two_pow_sub_one]; simp [h]; omega
 ·simp [h]
theorem clear_mid (b E F:Nat) (hK:F+E≤63) (hb:b < 2 ^ (F+E+1)):∃ c:Nat,c < 18446744073709551616∧Go.bits .andNot .u64 (b:Int) (((2 ^ E - 1) * 2 ^ F:Nat):Int) = (c:Int)∧Go.bits .andNot .u64 (c:Int) ((2 ^ (F+E):Nat):Int) = ((b % 2 ^ F:Nat):Int):=by
 obtain ⟨c,hc,h1,h2⟩:=andNot_ex b ((2 ^ E - 1) * 2 ^ F)
 refine ⟨c,hc,h1,andNot_u64 _ _ _ ?_ fun i hi=>?_⟩
 ·have h3:=Nat.mod_lt b (pow_pos2 F)
  have h4:=pow_bound (show F≤63 by omega)
  omega
 ·rw [h2 i hi,bit_mid,Nat.testBit_mod_two_pow,Nat.testBit_two_pow]
  by_cases h:i < F
  ·have e1:¬ F≤i:=by omega
   have e2:F+E≠i:=by omega
   simp [h,e1,e2]
  ·by_cases h':i < F+E
   ·have e1:F≤i:=by omega
    simp [h,e1,h']
   ·by_cases he:F+E = i
    ·simp [h,he]
    ·have:b.testBit i = false:=Nat.testBit_lt_two_pow (Nat.lt_of_lt_of_le hb (pow_bound (by omega)))
     simp [h,this]
theorem clear_none_low (q k:Nat) (h:q * 2 ^ k < 18446744073709551616):Go.bits .andNot .u64 ((q * 2 ^ k:Nat):Int) ((2 ^ k - 1:Nat):Int) = ((q * 2 ^ k:Nat):Int):=by
 refine andNot_u64 _ _ _ h fun i _=>?_
 rw [Nat.testBit_mul_two_pow,Nat.testBit_two_pow_sub_one]
 by_cases h:k≤i
 ·have:¬ i < k:=by omega
  simp [h,this]
 ·simp [h]
theorem clear_none_top (b K:Nat) (hb:b < 2 ^ K) (hK:K≤63):Go.bits .andNot .u64 (b:Int) ((2 ^ K:Nat):Int) = (b:Int):=by
 have:=clear_top b K hK (by rw [Nat.pow_succ]; omega)
 rw [this,Nat.mod_eq_of_lt hb]
theorem clear_zero (m:Nat):Go.bits .andNot .u64 0 (m:Int) = 0:=by
 have:=andNot_u64 0 m 0 (by decide) fun i _=>by simp
 exact this
theorem shl_u64 (n k:Nat) (h:n * 2 ^ k < 18446744073709551616):IntKind.u64.wrap ((n:Int) * 2 ^ k) = ((n * 2 ^ k:Nat):Int):=by
 rw [IntKind.wrap_u64,show ((n:Int) * 2 ^ k) = ((n * 2 ^ k:Nat):Int) by simp]
 omega
theorem full_u64 (k:Nat) (h:k≤63):IntKind.u64.wrap (IntKind.u64.wrap (2 ^ k) - 1) = ((2 ^ k - 1:Nat):Int):=by
 have h1:=pow_bound h
 have h2:=pow_pos2 k
 have e:((2:Int) ^ k) = ((2 ^ k:Nat):Int):=by simp
 rw [IntKind.wrap_u64,IntKind.wrap_u64,e]
 omega
theorem ret_u64 {a b:Int} (h:a = b):Ending.returned (.int .u64 a) = .returned (.int .u64 b):=by rw [h]
theorem ret_i64 {a b:Int} (h:a = b):Ending.returned (.int .i64 a) = .returned (.int .i64 b):=by rw [h]
structure Fo (E F:Nat):Prop where
 e2:2≤E
 e11:E≤11
 f1:1≤F
 f52:F≤52
theorem check_ok (E F:Nat) (w:World) (h:Fo E F):Calls Tryz.prog 66 #[.agg #[.int .i64 E,.int .i64 F]] w fun e w'=>e = .returned (.int .i64 0)∧Below w.heap.size w w':=by
 obtain ⟨h1,h2,h3,h4⟩:=h
 go_enter Tryz.func66,Tryz.ntmps66
 go_wp2
 go_ret
 exact ⟨rfl,gr_alloc _ _⟩
theorem check_bad (E F:Int) (w:World) (h:E < 2∨11 < E∨F < 1∨52 < F):Calls Tryz.prog 66 #[.agg #[.int .i64 E,.int .i64 F]] w fun e w'=>e = .returned (.int .i64 5)∧Below w.heap.size w w':=by
 go_enter Tryz.func66,Tryz.ntmps66
 go_wp2
 all_goals first
  | (go_ret; exact ⟨rfl,gr_alloc _ _⟩)
  | (exfalso; omega)
theorem width0 (E F:Nat) (w:World):Calls Tryz.prog 68 #[.agg #[.int .i64 E,.int .i64 F],.int .i64 0] w fun e w'=>e = .returned (.int .i64 (F:Int))∧Below w.heap.size w w':=by
 go_enter Tryz.func68,Tryz.ntmps68
 go_wp2
 go_ret
 exact ⟨rfl,gr_alloc _ _⟩
theorem width1 (E F:Nat) (w:World):Calls Tryz.prog 68 #[.agg #[.int .i64 E,.int .i64 F],.int .i64 1] w fun e w'=>e = .returned (.int .i64 (E:Int))∧Below w.heap.size w w':=by
 go_enter Tryz.func68,Tryz.ntmps68
 go_wp2
 go_ret
 exact ⟨rfl,gr_alloc _ _⟩
theorem width2 (E F:Nat) (w:World):Calls Tryz.prog 68 #[.agg #[.int .i64 E,.int .i64 F],.int .i64 2] w fun e w'=>e = .returned (.int .i64 1)∧Below w.heap.size w w':=by
 go_enter Tryz.func68,Tryz.ntmps68
 go_wp2
 go_ret
 exact ⟨rfl,gr_alloc _ _⟩
theorem place0 (E F:Nat) (w:World):Calls Tryz.prog 67 #[.agg #[.int .i64 E,.int .i64 F],.int .i64 0] w fun e w'=>e = .returned (.int .i64 0)∧Below w.heap.size w w':=by
 go_enter Tryz.func67,Tryz.ntmps67
 go_wp2
 go_ret
 exact ⟨rfl,gr_alloc _ _⟩
theorem place1 (E F:Nat) (w:World):Calls Tryz.prog 67 #[.agg #[.int .i64 E,.int .i64 F],.int .i64 1] w fun e w'=>e = .returned (.int .i64 (F:Int))∧Below w.heap.size w w':=by
 go_enter Tryz.func67,Tryz.ntmps67
 go_wp2
 go_ret
 exact ⟨rfl,gr_alloc _ _⟩
theorem place2 (E F k:Nat) (w:World) (h:Fo E F) (hk:Hid (k = F+E)):Calls Tryz.prog 67 #[.agg #[.int .i64 E,.int .i64 F],.int .i64 2] w fun e w'=>e = .returned (.int .i64 (k:Int))∧Below w.heap.size w w':=by
 obtain ⟨h1,h2,h3,h4⟩:=h
 go_enter Tryz.func67,Tryz.ntmps67
 go_wp2
 go_ret
 exact ⟨by rw [unhide hk]; rfl,gr_alloc _ _⟩
theorem full0 (E F m:Nat) (w:World) (h:Fo E F) (hm:Hid (m = 2 ^ F - 1)):Calls Tryz.prog 94 #[.agg #[.int .i64 E,.int .i64 F],.int .i64 0] w fun e w'=>e = .returned (.int .u64 (m:Int))∧Below w.heap.size w w':=by
 have h2:=h.e11
 have h4:=h.f52
 go_enter Tryz.func94,Tryz.ntmps94
 go_wp2_with fail
 refine (width0 _ _ _).mono ?_
 rintro e w1 ⟨rfl,hb1⟩
 go_wp2
 go_ret
 exact ⟨ret_u64 (by rw [full_u64 F (by omega),unhide hm]),gr_trans (gr_alloc _ _) hb1⟩
theorem full1 (E F m:Nat) (w:World) (h:Fo E F) (hm:Hid (m = 2 ^ E - 1)):Calls Tryz.prog 94 #[.agg #[.int .i64 E,.int .i64 F],.int .i64 1] w fun e w'=>e = .returned (.int .u64 (m:Int))∧Below w.heap.size w w':=by
 have h2:=h.e11
 have h4:=h.f52
 go_enter Tryz.func94,Tryz.ntmps94
 go_wp2_with fail
 refine (width1 _ _ _).mono ?_
 rintro e w1 ⟨rfl,hb1⟩
 go_wp2
 go_ret
 exact ⟨ret_u64 (by rw [full_u64 E (by omega),unhide hm]),gr_trans (gr_alloc _ _) hb1⟩
theorem full2 (E F:Nat) (w:World):Calls Tryz.prog 94 #[.agg #[.int .i64 E,.int .i64 F],.int .i64 2] w fun e w'=>e = .returned (.int .u64 1)∧Below w.heap.size w w':=by
 go_enter Tryz.func94,Tryz.ntmps94
 go_wp2_with fail
 refine (width2 _ _ _).mono ?_
 rintro e w1 ⟨rfl,hb1⟩
 go_wp2
 go_ret
 exact ⟨rfl,gr_trans (gr_alloc _ _) hb1⟩
theorem mask0 (E F m:Nat) (w:World) (h:Fo E F) (hm:Hid (m = 2 ^ F - 1)):Calls Tryz.prog 109 #[.agg #[.int .i64 E,.int .i64 F],.int .i64 0] w fun e w'=>e = .returned (.int .u64 (m:Int))∧Below w.heap.size w w':=by
 have hs:m < 18446744073709551616:=by
  have h1:=pow_bound (show F≤63 by have:=h.f52; omega)
  have:=unhide hm
  omega
 go_enter Tryz.func109,Tryz.ntmps109
 go_wp2_with fail
 refine (full0 _ _ m _ h hm).mono ?_
 rintro e w1 ⟨rfl,hb1⟩
 obtain ⟨hc1,hf1⟩:=bcell hb1
 go_wp2_with fail
 refine (place0 _ _ _).mono ?_
 rintro e w2 ⟨rfl,hb2⟩
 go_wp2
 go_ret
 exact ⟨rfl,gr_trans (gr_trans (gr_alloc _ _) hb1) hb2⟩
theorem mask1 (E F m:Nat) (w:World) (h:Fo E F) (hm:Hid (m = (2 ^ E - 1) * 2 ^ F)):Calls Tryz.prog 109 #[.agg #[.int .i64 E,.int .i64 F],.int .i64 1] w fun e w'=>e = .returned (.int .u64 (m:Int))∧Below w.heap.size w w':=by
 obtain ⟨n,hn⟩:∃ n,n = 2 ^ E - 1:=⟨_,rfl⟩
 have HN:=hide hn
 have hlt:n * 2 ^ F < 18446744073709551616:=by
  have h1:=pow_bound (show E+F≤63 by have:=h.f52; have:=h.e11; omega)
  have:n * 2 ^ F≤2 ^ E * 2 ^ F:=Nat.mul_le_mul_right _ (hn▸Nat.sub_le _ _)
  rw [← Nat.pow_add] at this
  omega
 have HE:Hid (IntKind.u64.wrap ((n:Int) * 2 ^ F) = (m:Int)):=hide (by rw [shl_u64 n F hlt,unhide hm,hn])
 have h4:=h.f52
 clear hn hlt
 go_enter Tryz.func109,Tryz.ntmps109
 go_wp2_with fail
 refine (full1 _ _ n _ h HN).mono ?_
 rintro e w1 ⟨rfl,hb1⟩
 obtain ⟨hc1,hf1⟩:=bcell hb1
 go_wp2_with fail
 refine (place1 _ _ _).mono ?_
 rintro e w2 ⟨rfl,hb2⟩
 go_wp2
 go_ret
 exact ⟨ret_u64 (unhide HE),gr_trans (gr_trans (gr_alloc _ _) hb1) hb2⟩
theorem mask2 (E F m:Nat) (w:World) (h:Fo E F) (hm:Hid (m = 2 ^ (F+E))):Calls Tryz.prog 109 #[.agg #[.int .i64 E,.int .i64 F],.int .i64 2] w fun e w'=>e = .returned (.int .u64 (m:Int))∧Below w.heap.size w w':=by
 obtain ⟨k,hk⟩:∃ k,k = F+E:=⟨_,rfl⟩
 have HK:=hide hk
 have hk63:k≤63:=by have:=h.f52; have:=h.e11; omega
 have HE:Hid (IntKind.u64.wrap (2 ^ k) = (m:Int)):=hide (by
  have:=shl_u64 1 k (by have:=pow_bound hk63; omega)
  rw [unhide hm,← hk]
  simpa using this)
 clear hk
 go_enter Tryz.func109,Tryz.ntmps109
 go_wp2_with fail
 refine (full2 _ _ _).mono ?_
 rintro e w1 ⟨rfl,hb1⟩
 obtain ⟨hc1,hf1⟩:=bcell hb1
 go_wp2_with fail
 refine (place2 _ _ k _ h HK).mono ?_
 rintro e w2 ⟨rfl,hb2⟩
 go_wp2
 go_ret
 exact ⟨ret_u64 (unhide HE),gr_trans (gr_trans (gr_alloc _ _) hb1) hb2⟩
theorem bias_any (E F m:Nat) (w:World) (h:Fo E F) (hm:Hid (m = 2 ^ (E - 1) - 1)):Calls Tryz.prog 97 #[.agg #[.int .i64 E,.int .i64 F]] w fun e w'=>e = .returned (.int .i64 (m:Int))∧Below w.heap.size w w':=by
 have h3:=h.e2
 obtain ⟨k,rfl⟩:∃ k,E = k+1:=⟨E - 1,by omega⟩
 have hk:k≤10:=by have:=h.e11; omega
 have HE:Hid (wrap64 (wrap64 (2 ^ k) - 1) = (m:Int)):=hide (by
  have h1:=pow_bound hk
  have h2:=pow_pos2 k
  have e:((2:Int) ^ k) = ((2 ^ k:Nat):Int):=by simp
  rw [unhide hm,e,Nat.add_sub_cancel]
  unfold wrap64
  omega)
 clear h h3
 go_enter Tryz.func97,Tryz.ntmps97
 go_wp2
 go_ret
 exact ⟨ret_i64 (by simpa using unhide HE),gr_alloc _ _⟩
theorem lastExp_any (E F m:Nat) (w:World) (h:Fo E F) (hm:Hid (m = 2 ^ E - 1)):Calls Tryz.prog 45 #[.agg #[.int .i64 E,.int .i64 F]] w fun e w'=>e = .returned (.int .i64 (m:Int))∧Below w.heap.size w w':=by
 have hm2:m≤2048:=by have:=pow_bound h.e11; rw [unhide hm]; omega
 go_enter Tryz.func45,Tryz.ntmps45
 go_wp2_with fail
 refine (full1 _ _ m _ h hm).mono ?_
 rintro e w1 ⟨rfl,hb1⟩
 go_wp2
 go_ret
 exact ⟨rfl,gr_trans (gr_alloc _ _) hb1⟩
structure Bt (E F b:Nat) (neg:Bool) (ex fr:Nat):Prop where
 fr_lt:fr < 2 ^ F
 ex_lt:ex < 2 ^ E
 eq:b = neg.toNat * 2 ^ (F+E)+(ex * 2 ^ F+fr)
theorem Bt.low {E F b ex fr:Nat} {neg:Bool} (h:Bt E F b neg ex fr):ex * 2 ^ F+fr < 2 ^ (F+E):=by
 have h1:=h.fr_lt
 have h2:(ex+1) * 2 ^ F≤2 ^ E * 2 ^ F:=Nat.mul_le_mul_right _ h.ex_lt
 rw [Nat.add_mul,Nat.one_mul,← Nat.pow_add,Nat.add_comm E F] at h2
 omega
theorem Bt.lt {E F b ex fr:Nat} {neg:Bool} (h:Bt E F b neg ex fr):b < 2 ^ (F+E+1):=by
 have h1:=h.low
 have h2:=h.eq
 rw [Nat.pow_succ]
 cases neg <;> simp at h2 <;> omega
theorem Bt.of (E F b:Nat) (hb:b < 2 ^ (F+E+1)):Bt E F b (decide (b / 2 ^ (F+E) = 1)) (b % 2 ^ (F+E) / 2 ^ F) (b % 2 ^ F):=by
 have hq:b / 2 ^ (F+E) < 2:=by
  rw [Nat.div_lt_iff_lt_mul (pow_pos2 _)]
  rw [Nat.pow_succ] at hb
  omega
 have e1:=Nat.div_add_mod b (2 ^ (F+E))
 have e2:=Nat.div_add_mod (b % 2 ^ (F+E)) (2 ^ F)
 rw [Nat.mod_mod_of_dvd b (Nat.pow_dvd_pow 2 (by omega))] at e2
 refine ⟨Nat.mod_lt _ (pow_pos2 _),?_,?_⟩
 ·rw [Nat.div_lt_iff_lt_mul (pow_pos2 _),← Nat.pow_add,Nat.add_comm E F]
  exact Nat.mod_lt _ (pow_pos2 _)
 ·rw [Nat.mul_comm (b % 2 ^ (F+E) / 2 ^ F),e2]
  by_cases h:b / 2 ^ (F+E) = 1
  ·rw [h] at e1
   simp [h]; omega
  ·have h0:b / 2 ^ (F+E) = 0:=by generalize b / 2 ^ (F+E) = q at hq h; omega
   rw [h0] at e1
   simp [h]; omega
theorem Bt.sign {E F b ex fr:Nat} {neg:Bool} (h:Bt E F b neg ex fr):b / 2 ^ (F+E) = neg.toNat:=by
 rw [h.eq,Nat.mul_comm,Nat.mul_add_div (pow_pos2 _),Nat.div_eq_of_lt h.low,Nat.add_zero]
theorem Bt.rest {E F b ex fr:Nat} {neg:Bool} (h:Bt E F b neg ex fr):b % 2 ^ (F+E) = ex * 2 ^ F+fr:=by
 rw [h.eq,Nat.mul_comm,Nat.mul_add_mod,Nat.mod_eq_of_lt h.low]
theorem Bt.exp {E F b ex fr:Nat} {neg:Bool} (h:Bt E F b neg ex fr):b % 2 ^ (F+E) / 2 ^ F = ex:=by
 rw [h.rest,Nat.mul_comm,Nat.mul_add_div (pow_pos2 _),Nat.div_eq_of_lt h.fr_lt,Nat.add_zero]
theorem Bt.frac {E F b ex fr:Nat} {neg:Bool} (h:Bt E F b neg ex fr):b % 2 ^ F = fr:=by
 rw [← Nat.mod_mod_of_dvd b (Nat.pow_dvd_pow 2 (show F≤F+E by omega)),h.rest,Nat.mul_comm,Nat.mul_add_mod,Nat.mod_eq_of_lt h.fr_lt]
theorem Bt.up {E F b ex fr:Nat} {neg:Bool} (h:Bt E F b neg ex fr):b / 2 ^ F = neg.toNat * 2 ^ E+ex:=by
 rw [h.eq,Nat.pow_add,show neg.toNat * (2 ^ F * 2 ^ E)+(ex * 2 ^ F+fr) = 2 ^ F * (neg.toNat * 2 ^ E+ex)+fr by
  rw [Nat.mul_add,← Nat.mul_assoc,Nat.mul_comm neg.toNat,Nat.mul_assoc,Nat.mul_comm ex]; omega,
  Nat.mul_add_div (pow_pos2 _),Nat.div_eq_of_lt h.fr_lt,Nat.add_zero]
theorem Fo.sum {E F:Nat} (h:Fo E F):F+E≤63:=by have:=h.f52; have:=h.e11; omega
theorem Bt.u64 {E F b ex fr:Nat} {neg:Bool} (h:Bt E F b neg ex fr) (f:Fo E F):b < 18446744073709551616:=by
 have h1:=h.lt
 have h2:=pow_bound (show F+E+1≤64 by have:=f.sum; omega)
 omega
theorem Bt.fr64 {E F b ex fr:Nat} {neg:Bool} (h:Bt E F b neg ex fr) (f:Fo E F):fr < 4503599627370496:=by
 have h1:=h.fr_lt
 have h2:=pow_bound f.f52
 omega
theorem Bt.ex64 {E F b ex fr:Nat} {neg:Bool} (h:Bt E F b neg ex fr) (f:Fo E F):ex < 2048:=by
 have h1:=h.ex_lt
 have h2:=pow_bound f.e11
 omega
theorem take2 (E F b ex fr:Nat) (neg:Bool) (w:World) (h:Fo E F) (hB:Bt E F b neg ex fr):Calls Tryz.prog 69 #[.agg #[.int .i64 E,.int .i64 F],.int .u64 b,.int .i64 2] w fun e w'=>e = .returned (.int .u64 (neg.toNat:Int))∧Below w.heap.size w w':=by
 obtain ⟨k,hk⟩:∃ k,k = F+E:=⟨_,rfl⟩
 have HK:=hide hk
 have hk63:k≤63:=by have:=h.sum; omega
 obtain ⟨n,hn⟩:∃ n,n = neg.toNat:=⟨_,rfl⟩
 rw [← hn]
 have HN:Hid (n = b / 2 ^ k):=hide (by rw [hk,hB.sign,hn])
 clear hk hn hB
 go_enter Tryz.func69,Tryz.ntmps69
 go_wp2_with fail
 refine wp_loop_rounds 1 ?_
 rw [rounds_succ]
 go_wp2_with fail
 refine (place2 _ _ k _ h HK).mono ?_
 rintro e w1 ⟨rfl,hb1⟩
 go_wp2
 go_ret
 exact ⟨ret_u64 (by rw [unhide HN]; simp),gr_trans (gr_alloc _ _) hb1⟩
theorem take1 (E F b ex fr:Nat) (neg:Bool) (w:World) (h:Fo E F) (hB:Bt E F b neg ex fr):Calls Tryz.prog 69 #[.agg #[.int .i64 E,.int .i64 F],.int .u64 b,.int .i64 1] w fun e w'=>e = .returned (.int .u64 (ex:Int))∧Below w.heap.size w w':=by
 obtain ⟨m,hm⟩:∃ m,m = 2 ^ (F+E):=⟨_,rfl⟩
 have HM:=hide hm
 obtain ⟨c,hc⟩:∃ c,c = b % 2 ^ (F+E):=⟨_,rfl⟩
 have hbn:Go.bits .andNot .u64 (b:Int) (m:Int) = (c:Int):=by rw [hm,clear_top b (F+E) h.sum hB.lt,hc]
 have hcl:c < 18446744073709551616:=by
  have h1:=pow_bound h.sum
  have h2:=Nat.mod_lt b (pow_pos2 (F+E))
  omega
 have HN:Hid (ex = c / 2 ^ F):=hide (by rw [hc,hB.exp])
 have h4:=h.f52
 clear hc hm hB
 go_enter Tryz.func69,Tryz.ntmps69
 go_wp2_with fail
 refine wp_loop_rounds 2 ?_
 rw [rounds_succ]
 go_wp2_with fail
 refine (mask2 _ _ m _ h HM).mono ?_
 rintro e w1 ⟨rfl,hb1⟩
 obtain ⟨hc1,hf1⟩:=bcell hb1
 go_wp2_with fail
 rw [rounds_succ]
 go_wp2_with fail
 refine (place1 _ _ _).mono ?_
 rintro e w2 ⟨rfl,hb2⟩
 go_wp2
 go_ret
 exact ⟨ret_u64 (by rw [unhide HN]; simp),gr_trans (gr_trans (gr_alloc _ _) hb1) hb2⟩
theorem take0 (E F b ex fr:Nat) (neg:Bool) (w:World) (h:Fo E F) (hB:Bt E F b neg ex fr):Calls Tryz.prog 69 #[.agg #[.int .i64 E,.int .i64 F],.int .u64 b,.int .i64 0] w fun e w'=>e = .returned (.int .u64 (fr:Int))∧Below w.heap.size w w':=by
 obtain ⟨m,hm⟩:∃ m,m = 2 ^ (F+E):=⟨_,rfl⟩
 have HM:=hide hm
 obtain ⟨m1,hm1⟩:∃ m1,m1 = (2 ^ E - 1) * 2 ^ F:=⟨_,rfl⟩
 have HM1:=hide hm1
 obtain ⟨c,hcl,hb1,hb2⟩:=clear_mid b E F h.sum hB.lt
 rw [← hm1] at hb1
 rw [← hm,hB.frac] at hb2
 have hfl:=hB.fr64 h
 clear hm hm1 hB
 go_enter Tryz.func69,Tryz.ntmps69
 go_wp2_with fail
 refine wp_loop_rounds 3 ?_
 rw [rounds_succ]
 go_wp2_with fail
 refine (mask1 _ _ m1 _ h HM1).mono ?_
 rintro e w1 ⟨rfl,hb1⟩
 have hS:=(Fs.one w _ _).kept hb1
 obtain ⟨⟨ca,cb,-⟩,-⟩:=hS.cells
 go_wp2_with fail
 rw [rounds_succ]
 go_wp2_with fail
 refine (mask2 _ _ m _ h HM).mono ?_
 rintro e w2 ⟨rfl,hb2⟩
 replace hS:=hS.kept hb2
 clear ca cb
 obtain ⟨⟨ca,cb,-⟩,-⟩:=hS.cells
 go_wp2_with fail
 rw [rounds_succ]
 go_wp2_with fail
 refine (place0 _ _ _).mono ?_
 rintro e w3 ⟨rfl,hb3⟩
 go_wp2
 go_ret
 exact ⟨rfl,(hS.kept hb3).fr⟩
theorem put1 (E F ex t:Nat) (w:World) (h:Fo E F) (hx:ex < 2 ^ E) (ht:Hid (t = ex * 2 ^ F)):Calls Tryz.prog 131 #[.agg #[.int .i64 E,.int .i64 F],.int .u64 0,.int .i64 1,.int .u64 ex] w fun e w'=>e = .returned (.int .u64 (t:Int))∧Below w.heap.size w w':=by
 obtain ⟨m1,hm1⟩:∃ m1,m1 = (2 ^ E - 1) * 2 ^ F:=⟨_,rfl⟩
 have HM1:=hide hm1
 have hlt:ex * 2 ^ F < 18446744073709551616:=by
  have h1:=pow_bound (show E+F≤63 by have:=h.sum; omega)
  have:ex * 2 ^ F≤2 ^ E * 2 ^ F:=Nat.mul_le_mul_right _ (Nat.le_of_lt hx)
  rw [← Nat.pow_add] at this
  omega
 have h4:=h.f52
 have hz:=clear_zero m1
 have HE:Hid (Go.bits .or .u64 0 (IntKind.u64.wrap ((ex:Int) * 2 ^ F)) = (t:Int)):=hide (by
  rw [shl_u64 ex F hlt,unhide ht]
  have:=or_u64 0 (ex * 2 ^ F) 64 0 (by simp) (by omega) (by omega)
  simpa using this)
 clear hm1 hlt hx
 go_enter Tryz.func131,Tryz.ntmps131
 go_wp2_with fail
 refine (mask1 _ _ m1 _ h HM1).mono ?_
 rintro e w1 ⟨rfl,hb1⟩
 obtain ⟨hc1,hf1⟩:=bcell hb1
 go_wp2_with fail
 refine (place1 _ _ _).mono ?_
 rintro e w2 ⟨rfl,hb2⟩
 go_wp2
 go_ret
 exact ⟨ret_u64 (unhide HE),gr_trans (gr_trans (gr_alloc _ _) hb1) hb2⟩
theorem put0 (E F ex t fr r:Nat) (w:World) (h:Fo E F) (hx:ex < 2 ^ E) (hf:fr < 2 ^ F) (ht:Hid (t = ex * 2 ^ F)) (hr:Hid (r = t+fr)):Calls Tryz.prog 131 #[.agg #[.int .i64 E,.int .i64 F],.int .u64 t,.int .i64 0,.int .u64 fr] w fun e w'=>e = .returned (.int .u64 (r:Int))∧Below w.heap.size w w':=by
 obtain ⟨m1,hm1⟩:∃ m1,m1 = 2 ^ F - 1:=⟨_,rfl⟩
 have HM1:=hide hm1
 have hB:Bt E F (ex * 2 ^ F+fr) false ex fr:=⟨hf,hx,by simp⟩
 have hlt:=hB.u64 h
 have hz:Go.bits .andNot .u64 (t:Int) (m1:Int) = (t:Int):=by
  rw [unhide ht,hm1]
  exact clear_none_low ex F (by omega)
 have hor:Go.bits .or .u64 (t:Int) (fr:Int) = (r:Int):=by
  rw [unhide hr]
  exact or_u64 t fr F ex (unhide ht) hf (by rw [unhide ht]; exact hlt)
 have hfl:=hB.fr64 h
 clear hm1 hlt hx hf hB
 go_enter Tryz.func131,Tryz.ntmps131
 go_wp2_with fail
 refine (mask0 _ _ m1 _ h HM1).mono ?_
 rintro e w1 ⟨rfl,hb1⟩
 obtain ⟨hc1,hf1⟩:=bcell hb1
 go_wp2_with fail
 refine (place0 _ _ _).mono ?_
 rintro e w2 ⟨rfl,hb2⟩
 go_wp2
 go_ret
 exact ⟨rfl,gr_trans (gr_trans (gr_alloc _ _) hb1) hb2⟩
theorem put2 (E F b r:Nat) (w:World) (h:Fo E F) (hb:b < 2 ^ (F+E)) (hr:Hid (r = b+2 ^ (F+E))):Calls Tryz.prog 131 #[.agg #[.int .i64 E,.int .i64 F],.int .u64 b,.int .i64 2,.int .u64 1] w fun e w'=>e = .returned (.int .u64 (r:Int))∧Below w.heap.size w w':=by
 obtain ⟨m,hm⟩:∃ m,m = 2 ^ (F+E):=⟨_,rfl⟩
 have HM:=hide hm
 obtain ⟨k,hk⟩:∃ k,k = F+E:=⟨_,rfl⟩
 have HK:=hide hk
 have hk63:k≤63:=by have:=h.sum; omega
 have hz:Go.bits .andNot .u64 (b:Int) (m:Int) = (b:Int):=by
  rw [hm]
  exact clear_none_top b (F+E) hb h.sum
 have HE:Hid (Go.bits .or .u64 (b:Int) (IntKind.u64.wrap (2 ^ k)) = (r:Int)):=hide (by
  have h1:=pow_bound hk63
  have h2:=shl_u64 1 k (by omega)
  rw [Nat.one_mul] at h2
  rw [show ((1:Nat):Int) * 2 ^ k = 2 ^ k by simp] at h2
  rw [h2,unhide hr,← hk]
  rw [← hk] at hb
  have h3:=bits_or_u64_nat b (2 ^ k) (by omega) (by omega)
  have e:b ||| 2 ^ k = b+2 ^ k:=by
   have:=Nat.two_pow_add_eq_or_of_lt (i:=k) (b:=b) hb 1
   rw [Nat.mul_one] at this
   rw [Nat.or_comm,← this,Nat.add_comm]
  rw [h3,e])
 clear hm hk hb
 go_enter Tryz.func131,Tryz.ntmps131
 go_wp2_with fail
 refine (mask2 _ _ m _ h HM).mono ?_
 rintro e w1 ⟨rfl,hb1⟩
 obtain ⟨hc1,hf1⟩:=bcell hb1
 go_wp2_with fail
 refine (place2 _ _ k _ h HK).mono ?_
 rintro e w2 ⟨rfl,hb2⟩
 go_wp2
 go_ret
 exact ⟨ret_u64 (unhide HE),gr_trans (gr_trans (gr_alloc _ _) hb1) hb2⟩
theorem join_any (E F b ex fr:Nat) (neg:Bool) (w:World) (h:Fo E F) (hB:Bt E F b neg ex fr):Calls Tryz.prog 95 #[.agg #[.int .i64 E,.int .i64 F],.agg #[.bool neg,.int .i64 ex,.int .u64 fr]] w fun e w'=>e = .returned (.int .u64 (b:Int))∧Below w.heap.size w w':=by
 obtain ⟨t,ht⟩:∃ t,t = ex * 2 ^ F:=⟨_,rfl⟩
 obtain ⟨r,hr⟩:∃ r,r = t+fr:=⟨_,rfl⟩
 have HT:=hide ht
 have HR:=hide hr
 have hrl:Hid (r < 2 ^ (F+E)):=hide (by rw [hr,ht]; exact hB.low)
 have hexl:=hB.ex64 h
 have HX:=hide hB.ex_lt
 have HF:=hide hB.fr_lt
 cases neg with
 | false=>
  have hbr:b = r:=by have:=hB.eq; simp at this; rw [hr,ht,this]
  rw [hbr]
  clear hbr ht hr hB
  go_enter Tryz.func95,Tryz.ntmps95
  go_wp2_with fail
  refine (put1 _ _ ex t _ h (unhide HX) HT).mono ?_
  rintro e w1 ⟨rfl,hb1⟩
  have hS:=(Fs.two w _ _ _ _).kept hb1
  obtain ⟨⟨ca,cb,-⟩,⟨cc,cd,ce,-⟩,-⟩:=hS.cells
  go_wp2_with fail
  refine (put0 _ _ ex t fr r _ h (unhide HX) (unhide HF) HT HR).mono ?_
  rintro e w2 ⟨rfl,hb2⟩
  replace hS:=hS.kept hb2
  clear ca cb cc cd ce
  obtain ⟨⟨ca,cb,-⟩,⟨cc,cd,ce,-⟩,-⟩:=hS.cells
  go_wp2
  go_ret
  exact ⟨rfl,hS.fr⟩
 | true=>
  have HB:Hid (b = r+2 ^ (F+E)):=hide (by have:=hB.eq; simp at this; rw [hr,ht,this]; omega)
  clear ht hr hB
  go_enter Tryz.func95,Tryz.ntmps95
  go_wp2_with fail
  refine (put1 _ _ ex t _ h (unhide HX) HT).mono ?_
  rintro e w1 ⟨rfl,hb1⟩
  have hS:=(Fs.two w _ _ _ _).kept hb1
  obtain ⟨⟨ca,cb,-⟩,⟨cc,cd,ce,-⟩,-⟩:=hS.cells
  go_wp2_with fail
  refine (put0 _ _ ex t fr r _ h (unhide HX) (unhide HF) HT HR).mono ?_
  rintro e w2 ⟨rfl,hb2⟩
  replace hS:=hS.kept hb2
  clear ca cb cc cd ce
  obtain ⟨⟨ca,cb,-⟩,⟨cc,cd,ce,-⟩,-⟩:=hS.cells
  go_wp2_with fail
  refine (put2 _ _ r b _ h (unhide hrl) HB).mono ?_
  rintro e w3 ⟨rfl,hb3⟩
  go_wp2
  go_ret
  exact ⟨rfl,(hS.kept hb3).fr⟩
theorem split_any (E F b ex fr:Nat) (neg:Bool) (h:Fo E F) (hB:Bt E F b neg ex fr) (w:World):Calls Tryz.prog 27 #[.agg #[.int .i64 E,.int .i64 F],.int .u64 b] w fun e w'=>e = .returned (.agg #[.bool neg,.int .i64 ex,.int .u64 fr])∧Below w.heap.size w w':=by
 have HB:=hide hB
 have hexl:=hB.ex64 h
 clear hB
 go_enter Tryz.func27,Tryz.ntmps27
 go_wp2_with fail
 refine wp_region_any (by kernel_rfl) ?_
 refine wpAny_det [some (5,.agg #[.int .i64 E,.int .i64 F]),some (6,.int .u64 b),some (7,.int .u64 (neg.toNat:Int)),some (8,.bool neg),some (9,.agg #[.int .i64 E,.int .i64 F]),some (10,.int .u64 b),some (11,.int .u64 ex),some (12,.int .i64 ex),some (13,.agg #[.int .i64 E,.int .i64 F]),some (14,.int .u64 b),some (15,.int .u64 fr),some (16,.agg #[.bool neg,.int .i64 ex,.int .u64 fr]),none]
  (fun l9 W9=>Fs w W9 (pickBs l9 [(12,[⟨w.heap.size,#[.int .i64 E,.int .i64 F],23⟩,⟨w.heap.size+1,#[.bool neg,.int .i64 ex,.int .u64 fr],35⟩])] [⟨w.heap.size,#[.int .i64 E,.int .i64 F],23⟩,⟨w.heap.size+1,#[.bool false,.int .i64 0,.int .u64 0],35⟩])) _ _ rfl (by kernel_rfl) rfl rfl ?_ ?_ (Fs.two w _ _ _ _).drew
 ·intro l9 t9 W9 i9 hD hi9 hl9 hM
  obtain ⟨o9,ho9,hd9⟩:=(mem_ready.1 hi9).2
  have hin9:i9 < 13:=by
   by_cases h:i9 < 13
   ·exact h
   ·rw [Array.getElem?_eq_none (by rw [hD.len]; simp; omega)] at hl9; cases hl9
  have hcase:i9 = 0∨i9 = 1∨i9 = 2∨i9 = 3∨i9 = 4∨i9 = 5∨i9 = 6∨i9 = 7∨i9 = 8∨i9 = 9∨i9 = 10∨i9 = 11∨i9 = 12:=by omega
  clear hin9
  rcases hcase with rfl|rfl|rfl|rfl|rfl|rfl|rfl|rfl|rfl|rfl|rfl|rfl|rfl
  ·cases ho9
   have r2:=hD.old 2 _ rfl rfl
   have hM0:Fs w W9 [⟨w.heap.size,#[.int .i64 E,.int .i64 F],23⟩,⟨w.heap.size+1,#[.bool false,.int .i64 0,.int .u64 0],35⟩]:=by
    have hM1:=hM
    simp only [pickBs] at hM1
    rw [if_neg (hD.waits 0 12 _ ⟨0,.phase⟩ hl9 rfl (by simp) rfl rfl)] at hM1
    exact hM1
   have Q_:=hM0.cellAt (b:=w.heap.size) (cs:=#[.int .i64 E,.int .i64 F]) (t:=23) (by simp)
   have c9_0:=Q_ 0 _ rfl
   have c9_1:=Q_ 1 _ rfl
   clear Q_
   clear hM0
   refine wpOp_step rfl fun K hK=>?_
   go_simp
   exact hK _ _ ⟨rfl,(keepM rfl hM)⟩
  ·cases ho9
   have r1:=hD.old 1 _ rfl rfl
   refine wpOp_step rfl fun K hK=>?_
   go_simp
   exact hK _ _ ⟨rfl,(keepM rfl hM)⟩
  ·cases ho9
   have r5:=hD.od hd9 0 5 _ rfl (by simp)
   have r6:=hD.od hd9 1 6 _ rfl (by simp)
   have hM0:Fs w W9 [⟨w.heap.size,#[.int .i64 E,.int .i64 F],23⟩,⟨w.heap.size+1,#[.bool false,.int .i64 0,.int .u64 0],35⟩]:=by
    have hM1:=hM
    simp only [pickBs] at hM1
    rw [if_neg (hD.waits 2 12 _ ⟨2,.phase⟩ hl9 rfl (by simp) rfl rfl)] at hM1
    exact hM1
   refine wpOp_step rfl fun K hK=>?_
   go_simp
   go_wp2_with fail
   refine (take2 _ _ _ ex fr neg _ h (unhide HB)).mono ?_
   rintro en w9 ⟨rfl,hb9⟩
   exact hK _ _ ⟨rfl,keepM rfl (hM.kept hb9)⟩
  ·cases ho9
   have r7:=hD.od hd9 2 7 _ rfl (by simp)
   refine wpOp_step rfl fun K hK=>?_
   go_simp
   exact hK _ _ ⟨act_eq (by cases neg <;> rfl),(keepM rfl hM)⟩
  ·cases ho9
   have r2:=hD.old 2 _ rfl rfl
   have hM0:Fs w W9 [⟨w.heap.size,#[.int .i64 E,.int .i64 F],23⟩,⟨w.heap.size+1,#[.bool false,.int .i64 0,.int .u64 0],35⟩]:=by
    have hM1:=hM
    simp only [pickBs] at hM1
    rw [if_neg (hD.waits 4 12 _ ⟨4,.phase⟩ hl9 rfl (by simp) rfl rfl)] at hM1
    exact hM1
   have Q_:=hM0.cellAt (b:=w.heap.size) (cs:=#[.int .i64 E,.int .i64 F]) (t:=23) (by simp)
   have c9_0:=Q_ 0 _ rfl
   have c9_1:=Q_ 1 _ rfl
   clear Q_
   clear hM0
   refine wpOp_step rfl fun K hK=>?_
   go_simp
   exact hK _ _ ⟨rfl,(keepM rfl hM)⟩
  ·cases ho9
   have r1:=hD.old 1 _ rfl rfl
   refine wpOp_step rfl fun K hK=>?_
   go_simp
   exact hK _ _ ⟨rfl,(keepM rfl hM)⟩
  ·cases ho9
   have r9:=hD.od hd9 4 9 _ rfl (by simp)
   have r10:=hD.od hd9 5 10 _ rfl (by simp)
   have hM0:Fs w W9 [⟨w.heap.size,#[.int .i64 E,.int .i64 F],23⟩,⟨w.heap.size+1,#[.bool false,.int .i64 0,.int .u64 0],35⟩]:=by
    have hM1:=hM
    simp only [pickBs] at hM1
    rw [if_neg (hD.waits 6 12 _ ⟨6,.phase⟩ hl9 rfl (by simp) rfl rfl)] at hM1
    exact hM1
   refine wpOp_step rfl fun K hK=>?_
   go_simp
   go_wp2_with fail
   refine (take1 _ _ _ ex fr neg _ h (unhide HB)).mono ?_
   rintro en w9 ⟨rfl,hb9⟩
   exact hK _ _ ⟨rfl,keepM rfl (hM.kept hb9)⟩
  ·cases ho9
   have r11:=hD.od hd9 6 11 _ rfl (by simp)
   refine wpOp_step rfl fun K hK=>?_
   go_simp
   exact hK _ _ ⟨act_eq (by (show Value.int _ _ = Value.int _ _; congr 1; (first|rfl|omega|(rw [IntKind.wrap_i64]; omega)|(rw [IntKind.wrap_u64]; omega)))),(keepM rfl hM)⟩
  ·cases ho9
   have r2:=hD.old 2 _ rfl rfl
   have hM0:Fs w W9 [⟨w.heap.size,#[.int .i64 E,.int .i64 F],23⟩,⟨w.heap.size+1,#[.bool false,.int .i64 0,.int .u64 0],35⟩]:=by
    have hM1:=hM
    simp only [pickBs] at hM1
    rw [if_neg (hD.waits 8 12 _ ⟨8,.phase⟩ hl9 rfl (by simp) rfl rfl)] at hM1
    exact hM1
   have Q_:=hM0.cellAt (b:=w.heap.size) (cs:=#[.int .i64 E,.int .i64 F]) (t:=23) (by simp)
   have c9_0:=Q_ 0 _ rfl
   have c9_1:=Q_ 1 _ rfl
   clear Q_
   clear hM0
   refine wpOp_step rfl fun K hK=>?_
   go_simp
   exact hK _ _ ⟨rfl,(keepM rfl hM)⟩
  ·cases ho9
   have r1:=hD.old 1 _ rfl rfl
   refine wpOp_step rfl fun K hK=>?_
   go_simp
   exact hK _ _ ⟨rfl,(keepM rfl hM)⟩
  ·cases ho9
   have r13:=hD.od hd9 8 13 _ rfl (by simp)
   have r14:=hD.od hd9 9 14 _ rfl (by simp)
   have hM0:Fs w W9 [⟨w.heap.size,#[.int .i64 E,.int .i64 F],23⟩,⟨w.heap.size+1,#[.bool false,.int .i64 0,.int .u64 0],35⟩]:=by
    have hM1:=hM
    simp only [pickBs] at hM1
    rw [if_neg (hD.waits 10 12 _ ⟨10,.chain⟩ hl9 rfl (by simp) rfl rfl)] at hM1
    exact hM1
   refine wpOp_step rfl fun K hK=>?_
   go_simp
   go_wp2_with fail
   refine (take0 _ _ _ ex fr neg _ h (unhide HB)).mono ?_
   rintro en w9 ⟨rfl,hb9⟩
   exact hK _ _ ⟨rfl,keepM rfl (hM.kept hb9)⟩
  ·cases ho9
   have r8:=hD.od hd9 3 8 _ rfl (by simp)
   have r12:=hD.od hd9 7 12 _ rfl (by simp)
   have r15:=hD.od hd9 10 15 _ rfl (by simp)
   refine wpOp_step rfl fun K hK=>?_
   go_simp
   exact hK _ _ ⟨rfl,(keepM rfl hM)⟩
  ·cases ho9
   have r4:=hD.old 4 _ rfl rfl
   have r16:=hD.od hd9 11 16 _ rfl (by simp)
   have hM0:Fs w W9 [⟨w.heap.size,#[.int .i64 E,.int .i64 F],23⟩,⟨w.heap.size+1,#[.bool false,.int .i64 0,.int .u64 0],35⟩]:=by
    have hM1:=hM
    simp only [pickBs] at hM1
    rw [if_neg (by rw [hl9]; simp)] at hM1
    exact hM1
   have c9_0:=hM0.cellAt (b:=w.heap.size+1) (cs:=#[.bool false,.int .i64 0,.int .u64 0]) (t:=35) (by simp) 0 _ rfl
   have z9_0:=hM0.frozen (b:=w.heap.size+1) (cs:=#[.bool false,.int .i64 0,.int .u64 0]) (t:=35) (by simp) 0
   have c9_1:=hM0.cellAt (b:=w.heap.size+1) (cs:=#[.bool false,.int .i64 0,.int .u64 0]) (t:=35) (by simp) 1 _ rfl
   have z9_1:=hM0.frozen (b:=w.heap.size+1) (cs:=#[.bool false,.int .i64 0,.int .u64 0]) (t:=35) (by simp) 1
   have c9_2:=hM0.cellAt (b:=w.heap.size+1) (cs:=#[.bool false,.int .i64 0,.int .u64 0]) (t:=35) (by simp) 2 _ rfl
   have z9_2:=hM0.frozen (b:=w.heap.size+1) (cs:=#[.bool false,.int .i64 0,.int .u64 0]) (t:=35) (by simp) 2
   refine wpOp_step rfl fun K hK=>?_
   go_simp
   exact hK _ _ ⟨rfl,putM trivial hl9 (((hM0.put (b:=w.heap.size+1) (cs:=#[.bool false,.int .i64 0,.int .u64 0]) (t:=35) (by simp) (by simp) 0 (.bool neg) [⟨w.heap.size,#[.int .i64 E,.int .i64 F],23⟩,⟨w.heap.size+1,#[.bool neg,.int .i64 0,.int .u64 0],35⟩] (by simp)).put (b:=w.heap.size+1) (cs:=#[.bool neg,.int .i64 0,.int .u64 0]) (t:=35) (by simp) (by simp) 1 (.int .i64 ex) [⟨w.heap.size,#[.int .i64 E,.int .i64 F],23⟩,⟨w.heap.size+1,#[.bool neg,.int .i64 ex,.int .u64 0],35⟩] (by simp)).put (b:=w.heap.size+1) (cs:=#[.bool neg,.int .i64 ex,.int .u64 0]) (t:=35) (by simp) (by simp) 2 (.int .u64 fr) [⟨w.heap.size,#[.int .i64 E,.int .i64 F],23⟩,⟨w.heap.size+1,#[.bool neg,.int .i64 ex,.int .u64 fr],35⟩] (by simp))⟩
 ·intro l9 W9 hl9 hM
  simp only [pickBs] at hM
  rw [if_pos (hl9 12 (by decide))] at hM
  have hS:=hM
  clear hM
  simp only [Puts.lay,List.setIfInBounds_toArray,List.set_cons_zero,List.set_cons_succ]
  obtain ⟨⟨ya,yb,-⟩,⟨yc,yd,ye,-⟩,-⟩:=hS.cells
  go_wp2
  exact bodyPost_ret (v:=.agg #[.bool neg,.int .i64 ex,.int .u64 fr]) (by simp [results,Tryz.results27,go_sem,yc,yd,ye]) rfl ⟨rfl,hS.fr⟩
def cls (ex fr top:Nat):Nat:=if ex = 0∧fr = 0 then 1 else if ex = 0 then 2 else if ex < top then 3 else if fr = 0 then 4 else 5
def NoFo (E F:Int):Prop:=E < 2∨11 < E∨F < 1∨52 < F
theorem fits_ok (E F b:Nat) (h:Fo E F) (hb:b < 2 ^ (F+E+1)) (w:World):Calls Tryz.prog 26 #[.agg #[.int .i64 E,.int .i64 F],.int .u64 b] w fun e w'=>e = .returned (.int .i64 0)∧Below w.heap.size w w':=by
 obtain ⟨k,hk⟩:∃ k,k = F+E:=⟨_,rfl⟩
 have hk63:k≤63:=by have:=h.sum; omega
 have HK:=hide hk
 obtain ⟨q,hq⟩:∃ q,q = 0:=⟨_,rfl⟩
 have HQ:Hid (q = b / 2 ^ (k+1)):=hide (by rw [hq,hk,Nat.div_eq_of_lt hb])
 have HQ0:=hide hq
 clear hb hq
 clear hk
 go_enter Tryz.func26,Tryz.ntmps26
 go_wp2_with fail
 refine (check_ok _ _ _ h).mono ?_
 rintro e w1 ⟨rfl,hb1⟩
 have hS:=(Fs.one w _ _).kept hb1
 obtain ⟨⟨ya,yb,-⟩,-⟩:=hS.cells
 go_wp2_with fail
 refine wp_region_any (by kernel_rfl) ?_
 refine wpAny_det [some (11,.int .u64 b),some (12,.agg #[.int .i64 E,.int .i64 F]),some (13,.int .i64 k),some (14,.agg #[.int .i64 E,.int .i64 F]),some (15,.int .i64 1),some (16,.int .i64 ((k+1:Nat):Int)),some (17,.int .u64 (q:Int)),some (1,.int .u64 (q:Int))]
  (fun _ W9=>Fs w W9 [⟨w.heap.size,#[.int .i64 E,.int .i64 F],23⟩]) _ _ rfl (by kernel_rfl) rfl rfl ?_ ?_ (hS).drew
 ·intro l9 t9 W9 i9 hD hi9 hl9 hM
  obtain ⟨o9,ho9,hd9⟩:=(mem_ready.1 hi9).2
  have hin9:i9 < 8:=by
   by_cases h:i9 < 8
   ·exact h
   ·rw [Array.getElem?_eq_none (by rw [hD.len]; simp; omega)] at hl9; cases hl9
  have hcase:i9 = 0∨i9 = 1∨i9 = 2∨i9 = 3∨i9 = 4∨i9 = 5∨i9 = 6∨i9 = 7:=by omega
  clear hin9
  rcases hcase with rfl|rfl|rfl|rfl|rfl|rfl|rfl|rfl
  ·cases ho9
   have r1:=hD.wait rfl 0 7 1 _ _ _ ⟨0,.phase⟩ hl9 rfl rfl (by simp) rfl rfl rfl
   refine wpOp_step rfl fun K hK=>?_
   go_simp
   exact hK _ _ ⟨rfl,hM⟩
  ·cases ho9
   have r2:=hD.old 2 _ rfl rfl
   have hM0:=hM
   have Q_:=hM0.cellAt (b:=w.heap.size) (cs:=#[.int .i64 E,.int .i64 F]) (t:=23) (by simp)
   have c9_0:=Q_ 0 _ rfl
   have c9_1:=Q_ 1 _ rfl
   clear Q_
   clear hM0
   refine wpOp_step rfl fun K hK=>?_
   go_simp
   exact hK _ _ ⟨rfl,hM⟩
  ·cases ho9
   have r12:=hD.od hd9 1 12 _ rfl (by simp)
   refine wpOp_step rfl fun K hK=>?_
   go_simp
   go_wp2_with fail
   refine (place2 _ _ k _ h HK).mono ?_
   rintro en w9 ⟨rfl,hb9⟩
   exact hK _ _ ⟨rfl,hM.kept hb9⟩
  ·cases ho9
   have r2:=hD.old 2 _ rfl rfl
   have hM0:=hM
   have Q_:=hM0.cellAt (b:=w.heap.size) (cs:=#[.int .i64 E,.int .i64 F]) (t:=23) (by simp)
   have c9_0:=Q_ 0 _ rfl
   have c9_1:=Q_ 1 _ rfl
   clear Q_
   clear hM0
   refine wpOp_step rfl fun K hK=>?_
   go_simp
   exact hK _ _ ⟨rfl,hM⟩
  ·cases ho9
   have r14:=hD.od hd9 3 14 _ rfl (by simp)
   refine wpOp_step rfl fun K hK=>?_
   go_simp
   go_wp2_with fail
   refine (width2 _ _ _).mono ?_
   rintro en w9 ⟨rfl,hb9⟩
   exact hK _ _ ⟨rfl,hM.kept hb9⟩
  ·cases ho9
   have r13:=hD.od hd9 2 13 _ rfl (by simp)
   have r15:=hD.od hd9 4 15 _ rfl (by simp)
   refine wpOp_step rfl fun K hK=>?_
   go_simp
   exact hK _ _ ⟨act_eq (by (show Value.int _ _ = Value.int _ _; congr 1; (first|rfl|omega|(rw [IntKind.wrap_i64]; omega)|(rw [IntKind.wrap_u64]; omega)))),hM⟩
  ·cases ho9
   have r11:=hD.od hd9 0 11 _ rfl (by simp)
   have r16:=hD.od hd9 5 16 _ rfl (by simp)
   refine wpOp_step rfl fun K hK=>?_
   go_simp
   exact hK _ _ ⟨act_eq (by (show Value.int _ _ = Value.int _ _; congr 1; rw [unhide HQ]; simp)),hM⟩
  ·cases ho9
   have r17:=hD.od hd9 6 17 _ rfl (by simp)
   refine wpOp_step rfl fun K hK=>?_
   go_simp
   exact hK _ _ ⟨rfl,hM⟩
 ·intro l9 W9 hl9 hM
  clear hS ya yb
  have hS:=hM
  clear hM
  simp only [Puts.lay,List.setIfInBounds_toArray,List.set_cons_zero,List.set_cons_succ]
  obtain ⟨⟨yc,yd,-⟩,-⟩:=hS.cells
  clear HQ
  obtain rfl:=unhide HQ0
  go_wp2
  go_ret
  exact ⟨rfl,hS.fr⟩
theorem fits_many (E F b:Nat) (h:Fo E F) (hb:2 ^ (F+E+1)≤b) (w:World):Calls Tryz.prog 26 #[.agg #[.int .i64 E,.int .i64 F],.int .u64 b] w fun e w'=>e = .returned (.int .i64 6)∧Below w.heap.size w w':=by
 obtain ⟨k,hk⟩:∃ k,k = F+E:=⟨_,rfl⟩
 have hk63:k≤63:=by have:=h.sum; omega
 have HK:=hide hk
 obtain ⟨q,hq⟩:∃ q,q = b / 2 ^ (k+1):=⟨_,rfl⟩
 have HQ:=hide hq
 have hq0:0 < q:=by rw [hq,hk]; exact Nat.div_pos hb (pow_pos2 _)
 clear hb hq
 clear hk
 go_enter Tryz.func26,Tryz.ntmps26
 go_wp2_with fail
 refine (check_ok _ _ _ h).mono ?_
 rintro e w1 ⟨rfl,hb1⟩
 have hS:=(Fs.one w _ _).kept hb1
 obtain ⟨⟨ya,yb,-⟩,-⟩:=hS.cells
 go_wp2_with fail
 refine wp_region_any (by kernel_rfl) ?_
 refine wpAny_det [some (11,.int .u64 b),some (12,.agg #[.int .i64 E,.int .i64 F]),some (13,.int .i64 k),some (14,.agg #[.int .i64 E,.int .i64 F]),some (15,.int .i64 1),some (16,.int .i64 ((k+1:Nat):Int)),some (17,.int .u64 (q:Int)),some (1,.int .u64 (q:Int))]
  (fun _ W9=>Fs w W9 [⟨w.heap.size,#[.int .i64 E,.int .i64 F],23⟩]) _ _ rfl (by kernel_rfl) rfl rfl ?_ ?_ (hS).drew
 ·intro l9 t9 W9 i9 hD hi9 hl9 hM
  obtain ⟨o9,ho9,hd9⟩:=(mem_ready.1 hi9).2
  have hin9:i9 < 8:=by
   by_cases h:i9 < 8
   ·exact h
   ·rw [Array.getElem?_eq_none (by rw [hD.len]; simp; omega)] at hl9; cases hl9
  have hcase:i9 = 0∨i9 = 1∨i9 = 2∨i9 = 3∨i9 = 4∨i9 = 5∨i9 = 6∨i9 = 7:=by omega
  clear hin9
  rcases hcase with rfl|rfl|rfl|rfl|rfl|rfl|rfl|rfl
  ·cases ho9
   have r1:=hD.wait rfl 0 7 1 _ _ _ ⟨0,.phase⟩ hl9 rfl rfl (by simp) rfl rfl rfl
   refine wpOp_step rfl fun K hK=>?_
   go_simp
   exact hK _ _ ⟨rfl,hM⟩
  ·cases ho9
   have r2:=hD.old 2 _ rfl rfl
   have hM0:=hM
   have Q_:=hM0.cellAt (b:=w.heap.size) (cs:=#[.int .i64 E,.int .i64 F]) (t:=23) (by simp)
   have c9_0:=Q_ 0 _ rfl
   have c9_1:=Q_ 1 _ rfl
   clear Q_
   clear hM0
   refine wpOp_step rfl fun K hK=>?_
   go_simp
   exact hK _ _ ⟨rfl,hM⟩
  ·cases ho9
   have r12:=hD.od hd9 1 12 _ rfl (by simp)
   refine wpOp_step rfl fun K hK=>?_
   go_simp
   go_wp2_with fail
   refine (place2 _ _ k _ h HK).mono ?_
   rintro en w9 ⟨rfl,hb9⟩
   exact hK _ _ ⟨rfl,hM.kept hb9⟩
  ·cases ho9
   have r2:=hD.old 2 _ rfl rfl
   have hM0:=hM
   have Q_:=hM0.cellAt (b:=w.heap.size) (cs:=#[.int .i64 E,.int .i64 F]) (t:=23) (by simp)
   have c9_0:=Q_ 0 _ rfl
   have c9_1:=Q_ 1 _ rfl
   clear Q_
   clear hM0
   refine wpOp_step rfl fun K hK=>?_
   go_simp
   exact hK _ _ ⟨rfl,hM⟩
  ·cases ho9
   have r14:=hD.od hd9 3 14 _ rfl (by simp)
   refine wpOp_step rfl fun K hK=>?_
   go_simp
   go_wp2_with fail
   refine (width2 _ _ _).mono ?_
   rintro en w9 ⟨rfl,hb9⟩
   exact hK _ _ ⟨rfl,hM.kept hb9⟩
  ·cases ho9
   have r13:=hD.od hd9 2 13 _ rfl (by simp)
   have r15:=hD.od hd9 4 15 _ rfl (by simp)
   refine wpOp_step rfl fun K hK=>?_
   go_simp
   exact hK _ _ ⟨act_eq (by (show Value.int _ _ = Value.int _ _; congr 1; (first|rfl|omega|(rw [IntKind.wrap_i64]; omega)|(rw [IntKind.wrap_u64]; omega)))),hM⟩
  ·cases ho9
   have r11:=hD.od hd9 0 11 _ rfl (by simp)
   have r16:=hD.od hd9 5 16 _ rfl (by simp)
   refine wpOp_step rfl fun K hK=>?_
   go_simp
   exact hK _ _ ⟨act_eq (by (show Value.int _ _ = Value.int _ _; congr 1; rw [unhide HQ]; simp)),hM⟩
  ·cases ho9
   have r17:=hD.od hd9 6 17 _ rfl (by simp)
   refine wpOp_step rfl fun K hK=>?_
   go_simp
   exact hK _ _ ⟨rfl,hM⟩
 ·intro l9 W9 hl9 hM
  clear hS ya yb
  have hS:=hM
  clear hM
  simp only [Puts.lay,List.setIfInBounds_toArray,List.set_cons_zero,List.set_cons_succ]
  obtain ⟨⟨yc,yd,-⟩,-⟩:=hS.cells
  clear HQ
  go_wp2
  go_ret
  exact ⟨rfl,hS.fr⟩
theorem fits_bad (E F:Int) (hbad:NoFo E F) (b:Int) (w:World):Calls Tryz.prog 26 #[.agg #[.int .i64 E,.int .i64 F],.int .u64 b] w fun e w'=>e = .returned (.int .i64 5)∧Below w.heap.size w w':=by
 unfold NoFo at hbad
 go_enter Tryz.func26,Tryz.ntmps26
 go_wp2_with fail
 refine (check_bad _ _ _ hbad).mono ?_
 rintro e w1 ⟨rfl,hb1⟩
 have hS:=(Fs.one w _ _).kept hb1
 obtain ⟨⟨ya,yb,-⟩,-⟩:=hS.cells
 clear hbad
 go_wp2
 go_ret
 exact ⟨rfl,hS.fr⟩
theorem class1 (ex fr top:Nat) (neg:Bool) (h0:ex = 0) (h1:fr = 0) (w:World):Calls Tryz.prog 44 #[.agg #[.bool neg,.int .i64 ex,.int .u64 fr],.int .i64 top] w fun e w'=>e = .returned (.int .u8 1)∧Below w.heap.size w w':=by
 subst h0
 subst h1
 go_enter Tryz.func44,Tryz.ntmps44
 go_wp2
 go_ret
 exact ⟨rfl,(Fs.one w _ _).fr⟩
theorem class2 (ex fr top:Nat) (neg:Bool) (h0:ex = 0) (h1:0 < fr) (w:World):Calls Tryz.prog 44 #[.agg #[.bool neg,.int .i64 ex,.int .u64 fr],.int .i64 top] w fun e w'=>e = .returned (.int .u8 2)∧Below w.heap.size w w':=by
 subst h0
 go_enter Tryz.func44,Tryz.ntmps44
 go_wp2
 go_ret
 exact ⟨rfl,(Fs.one w _ _).fr⟩
theorem class3 (ex fr top:Nat) (neg:Bool) (h0:0 < ex) (h1:ex < top) (w:World):Calls Tryz.prog 44 #[.agg #[.bool neg,.int .i64 ex,.int .u64 fr],.int .i64 top] w fun e w'=>e = .returned (.int .u8 3)∧Below w.heap.size w w':=by
 go_enter Tryz.func44,Tryz.ntmps44
 go_wp2
 go_ret
 exact ⟨rfl,(Fs.one w _ _).fr⟩
theorem class4 (ex fr top:Nat) (neg:Bool) (h0:0 < ex) (h1:top≤ex) (h2:fr = 0) (w:World):Calls Tryz.prog 44 #[.agg #[.bool neg,.int .i64 ex,.int .u64 fr],.int .i64 top] w fun e w'=>e = .returned (.int .u8 4)∧Below w.heap.size w w':=by
 subst h2
 go_enter Tryz.func44,Tryz.ntmps44
 go_wp2
 go_ret
 exact ⟨rfl,(Fs.one w _ _).fr⟩
theorem class5 (ex fr top:Nat) (neg:Bool) (h0:0 < ex) (h1:top≤ex) (h2:0 < fr) (w:World):Calls Tryz.prog 44 #[.agg #[.bool neg,.int .i64 ex,.int .u64 fr],.int .i64 top] w fun e w'=>e = .returned (.int .u8 5)∧Below w.heap.size w w':=by
 go_enter Tryz.func44,Tryz.ntmps44
 go_wp2
 go_ret
 exact ⟨rfl,(Fs.one w _ _).fr⟩
theorem class_any (ex fr top:Nat) (neg:Bool) (w:World):Calls Tryz.prog 44 #[.agg #[.bool neg,.int .i64 ex,.int .u64 fr],.int .i64 top] w fun e w'=>e = .returned (.int .u8 (cls ex fr top:Int))∧Below w.heap.size w w':=by
 unfold cls
 by_cases h0:ex = 0
 ·by_cases h1:fr = 0
  ·rw [if_pos ⟨h0,h1⟩]; exact class1 ex fr top neg h0 h1 w
  ·rw [if_neg (fun h=>h1 h.2),if_pos h0]; exact class2 ex fr top neg h0 (by omega) w
 ·rw [if_neg (fun h=>h0 h.1),if_neg h0]
  by_cases h1:ex < top
  ·rw [if_pos h1]; exact class3 ex fr top neg (by omega) h1 w
  ·rw [if_neg h1]
   by_cases h2:fr = 0
   ·rw [if_pos h2]; exact class4 ex fr top neg (by omega) (by omega) h2 w
   ·rw [if_neg h2]; exact class5 ex fr top neg (by omega) (by omega) (by omega) w
theorem Split_ok (E F b ex fr:Nat) (neg:Bool) (h:Fo E F) (hB:Bt E F b neg ex fr) (w:World):Calls Tryz.prog 7 #[.agg #[.int .i64 E,.int .i64 F],.int .u64 b] w fun e w'=>e = .returned (.tuple #[.agg #[.bool neg,.int .i64 ex,.int .u64 fr],.int .i64 0])∧Below w.heap.size w w':=by
 have HB:=hide hB
 clear hB
 go_enter Tryz.func7,Tryz.ntmps7
 go_wp2_with fail
 refine (fits_ok _ _ _ h (unhide HB).lt _).mono ?_
 rintro e w1 ⟨rfl,hb1⟩
 have hS:=(Fs.two w _ _ _ _).kept hb1
 obtain ⟨⟨ya,yb,-⟩,⟨yc,yd,ye,-⟩,-⟩:=hS.cells
 go_wp2_with fail
 refine (split_any _ _ _ ex fr neg h (unhide HB) _).mono ?_
 rintro e w2 ⟨rfl,hb2⟩
 replace hS:=hS.kept hb2
 clear ya yb yc yd ye
 obtain ⟨⟨yf,yg,-⟩,⟨yh,yi,yj,-⟩,-⟩:=hS.cells
 have Q_:=hS.frozen (b:=w.heap.size+1) (cs:=#[.bool false,.int .i64 0,.int .u64 0]) (t:=35) (by simp)
 have fz0:=Q_ 0
 have fz1:=Q_ 1
 have fz2:=Q_ 2
 clear Q_
 go_wp2
 exact bodyPost_ret (v:=.tuple #[.agg #[.bool neg,.int .i64 ex,.int .u64 fr],.int .i64 0]) (by simp [results,Tryz.results7,go_sem,yh,yi,yj]) rfl ⟨rfl,((hS.fr.setCell (by simp) _).setCell (by simp) _).setCell (by simp) _⟩
theorem Class_ok (E F b ex fr:Nat) (neg:Bool) (h:Fo E F) (hB:Bt E F b neg ex fr) (top:Nat) (ht:Hid (top = 2 ^ E - 1)) (w:World):Calls Tryz.prog 15 #[.agg #[.int .i64 E,.int .i64 F],.int .u64 b] w fun e w'=>e = .returned (.tuple #[.int .u8 (cls ex fr top:Int),.int .i64 0])∧Below w.heap.size w w':=by
 have HB:=hide hB
 clear hB
 go_enter Tryz.func15,Tryz.ntmps15
 go_wp2_with fail
 refine (fits_ok _ _ _ h (unhide HB).lt _).mono ?_
 rintro e w1 ⟨rfl,hb1⟩
 have hS:=(Fs.one w _ _).kept hb1
 obtain ⟨⟨ya,yb,-⟩,-⟩:=hS.cells
 go_wp2_with fail
 refine wp_region_any (by kernel_rfl) ?_
 refine wpAny_det [some (13,.agg #[.int .i64 E,.int .i64 F]),some (14,.int .u64 b),some (15,.agg #[.bool neg,.int .i64 ex,.int .u64 fr]),some (16,.agg #[.int .i64 E,.int .i64 F]),some (17,.int .i64 top),some (18,.int .u8 (cls ex fr top:Int)),some (4,.int .u8 (cls ex fr top:Int)),some (5,.int .i64 0)]
  (fun _ W9=>Fs w W9 [⟨w.heap.size,#[.int .i64 E,.int .i64 F],23⟩]) _ _ rfl (by kernel_rfl) rfl rfl ?_ ?_ (hS).drew
 ·intro l9 t9 W9 i9 hD hi9 hl9 hM
  obtain ⟨o9,ho9,hd9⟩:=(mem_ready.1 hi9).2
  have hin9:i9 < 8:=by
   by_cases h:i9 < 8
   ·exact h
   ·rw [Array.getElem?_eq_none (by rw [hD.len]; simp; omega)] at hl9; cases hl9
  have hcase:i9 = 0∨i9 = 1∨i9 = 2∨i9 = 3∨i9 = 4∨i9 = 5∨i9 = 6∨i9 = 7:=by omega
  clear hin9
  rcases hcase with rfl|rfl|rfl|rfl|rfl|rfl|rfl|rfl
  ·cases ho9
   have r2:=hD.old 2 _ rfl rfl
   have hM0:=hM
   have Q_:=hM0.cellAt (b:=w.heap.size) (cs:=#[.int .i64 E,.int .i64 F]) (t:=23) (by simp)
   have c9_0:=Q_ 0 _ rfl
   have c9_1:=Q_ 1 _ rfl
   clear Q_
   clear hM0
   refine wpOp_step rfl fun K hK=>?_
   go_simp
   exact hK _ _ ⟨rfl,hM⟩
  ·cases ho9
   have r1:=hD.old 1 _ rfl rfl
   refine wpOp_step rfl fun K hK=>?_
   go_simp
   exact hK _ _ ⟨rfl,hM⟩
  ·cases ho9
   have r13:=hD.od hd9 0 13 _ rfl (by simp)
   have r14:=hD.od hd9 1 14 _ rfl (by simp)
   refine wpOp_step rfl fun K hK=>?_
   go_simp
   go_wp2_with fail
   refine (split_any _ _ _ ex fr neg h (unhide HB) _).mono ?_
   rintro en w9 ⟨rfl,hb9⟩
   exact hK _ _ ⟨rfl,hM.kept hb9⟩
  ·cases ho9
   have r2:=hD.old 2 _ rfl rfl
   have hM0:=hM
   have Q_:=hM0.cellAt (b:=w.heap.size) (cs:=#[.int .i64 E,.int .i64 F]) (t:=23) (by simp)
   have c9_0:=Q_ 0 _ rfl
   have c9_1:=Q_ 1 _ rfl
   clear Q_
   clear hM0
   refine wpOp_step rfl fun K hK=>?_
   go_simp
   exact hK _ _ ⟨rfl,hM⟩
  ·cases ho9
   have r16:=hD.od hd9 3 16 _ rfl (by simp)
   refine wpOp_step rfl fun K hK=>?_
   go_simp
   go_wp2_with fail
   refine (lastExp_any _ _ top _ h ht).mono ?_
   rintro en w9 ⟨rfl,hb9⟩
   exact hK _ _ ⟨rfl,hM.kept hb9⟩
  ·cases ho9
   have r15:=hD.od hd9 2 15 _ rfl (by simp)
   have r17:=hD.od hd9 4 17 _ rfl (by simp)
   refine wpOp_step rfl fun K hK=>?_
   go_simp
   go_wp2_with fail
   refine (class_any _ _ _ _ _).mono ?_
   rintro en w9 ⟨rfl,hb9⟩
   exact hK _ _ ⟨rfl,hM.kept hb9⟩
  ·cases ho9
   have r18:=hD.od hd9 5 18 _ rfl (by simp)
   refine wpOp_step rfl fun K hK=>?_
   go_simp
   exact hK _ _ ⟨rfl,hM⟩
  ·cases ho9
   refine wpOp_step rfl fun K hK=>?_
   go_simp
   exact hK _ _ ⟨rfl,hM⟩
 ·intro l9 W9 hl9 hM
  clear hS ya yb
  have hS:=hM
  clear hM
  simp only [Puts.lay,List.setIfInBounds_toArray,List.set_cons_zero,List.set_cons_succ]
  obtain ⟨⟨yc,yd,-⟩,-⟩:=hS.cells
  go_wp2
  go_ret2
  exact ⟨rfl,hS.fr⟩
theorem Join_ok (E F b ex fr:Nat) (neg:Bool) (h:Fo E F) (hB:Bt E F b neg ex fr) (w:World):Calls Tryz.prog 141 #[.agg #[.int .i64 E,.int .i64 F],.agg #[.bool neg,.int .i64 ex,.int .u64 fr]] w fun e w'=>e = .returned (.tuple #[.int .u64 b,.int .i64 0])∧Below w.heap.size w w':=by
 obtain ⟨m1,hm1⟩:∃ m1,m1 = 2 ^ E - 1:=⟨_,rfl⟩
 obtain ⟨m0,hm0⟩:∃ m0,m0 = 2 ^ F - 1:=⟨_,rfl⟩
 have HM1:=hide hm1
 have HM0:=hide hm0
 have hpE:=pow_pos2 E
 have hpF:=pow_pos2 F
 have HB:=hide hB
 have hx:=hB.ex_lt
 have hf:=hB.fr_lt
 have hexl:=hB.ex64 h
 have hx1:ex≤m1:=by omega
 have hf1:fr≤m0:=by omega
 clear hB hm1 hm0 hpE hpF hx hf
 go_enter Tryz.func141,Tryz.ntmps141
 go_wp2_with fail
 refine (check_ok _ _ _ h).mono ?_
 rintro e w1 ⟨rfl,hb1⟩
 have hS:=(Fs.two w _ _ _ _).kept hb1
 obtain ⟨⟨ya,yb,-⟩,⟨yc,yd,ye,-⟩,-⟩:=hS.cells
 go_wp2_with fail
 refine wp_region_any (by kernel_rfl) ?_
 refine wpAny_det [some (12,.pointer (some ⟨w.heap.size+1,1,none⟩)),some (13,.int .i64 ex),some (14,.bool false),some (15,.bool false),some (16,.pointer (some ⟨w.heap.size+1,1,none⟩)),some (17,.int .i64 ex),some (18,.int .u64 ex),some (19,.agg #[.int .i64 E,.int .i64 F]),some (20,.int .u64 m1),some (21,.bool false),some (22,.bool false),some (23,.bool false),some (24,.pointer (some ⟨w.heap.size+1,2,none⟩)),some (25,.int .u64 fr),some (26,.agg #[.int .i64 E,.int .i64 F]),some (27,.int .u64 m0),some (28,.bool false),some (29,.bool false)]
  (fun _ W9=>Fs w W9 [⟨w.heap.size,#[.int .i64 E,.int .i64 F],23⟩,⟨w.heap.size+1,#[.bool neg,.int .i64 ex,.int .u64 fr],35⟩]) _ _ rfl (by kernel_rfl) rfl rfl ?_ ?_ (hS).drew
 ·intro l9 t9 W9 i9 hD hi9 hl9 hM
  obtain ⟨o9,ho9,hd9⟩:=(mem_ready.1 hi9).2
  have hin9:i9 < 18:=by
   by_cases h:i9 < 18
   ·exact h
   ·rw [Array.getElem?_eq_none (by rw [hD.len]; simp; omega)] at hl9; cases hl9
  have hcase:i9 = 0∨i9 = 1∨i9 = 2∨i9 = 3∨i9 = 4∨i9 = 5∨i9 = 6∨i9 = 7∨i9 = 8∨i9 = 9∨i9 = 10∨i9 = 11∨i9 = 12∨i9 = 13∨i9 = 14∨i9 = 15∨i9 = 16∨i9 = 17:=by omega
  clear hin9
  rcases hcase with rfl|rfl|rfl|rfl|rfl|rfl|rfl|rfl|rfl|rfl|rfl|rfl|rfl|rfl|rfl|rfl|rfl|rfl
  ·cases ho9
   have r3:=hD.old 3 _ rfl rfl
   refine wpOp_step rfl fun K hK=>?_
   go_simp
   exact hK _ _ ⟨rfl,hM⟩
  ·cases ho9
   have r12:=hD.od hd9 0 12 _ rfl (by simp)
   have hM0:=hM
   have c9_0:=hM0.cellAt (b:=w.heap.size+1) (cs:=#[.bool neg,.int .i64 ex,.int .u64 fr]) (t:=35) (by simp) 1 _ rfl
   clear hM0
   refine wpOp_step rfl fun K hK=>?_
   go_simp
   exact hK _ _ ⟨rfl,hM⟩
  ·cases ho9
   have r13:=hD.od hd9 1 13 _ rfl (by simp)
   refine wpOp_step rfl fun K hK=>?_
   go_simp
   exact hK _ _ ⟨act_eq (by (first|rfl|skip); all_goals (rw [Value.bool.injEq]; first|(simp; done)|(simp; omega)|(rw [decide_eq_false_iff_not]; omega)|(rw [decide_eq_true_iff]; omega))),hM⟩
  ·cases ho9
   have r14:=hD.od hd9 2 14 _ rfl (by simp)
   refine wpOp_step rfl fun K hK=>?_
   go_simp
   exact hK _ _ ⟨rfl,hM⟩
  ·cases ho9
   have r15:=hD.on 3 15 _ rfl (getD_true (hd9 ⟨3,.guard⟩ (by simp) rfl))
   have r3:=hD.old 3 _ rfl rfl
   refine wpOp_step rfl fun K hK=>?_
   go_simp
   exact hK _ _ ⟨rfl,hM⟩
  ·cases ho9
   have r15:=hD.on 3 15 _ rfl (getD_true (hd9 ⟨3,.guard⟩ (by simp) rfl))
   have r16:=hD.od hd9 4 16 _ rfl (by simp)
   have hM0:=hM
   have c9_0:=hM0.cellAt (b:=w.heap.size+1) (cs:=#[.bool neg,.int .i64 ex,.int .u64 fr]) (t:=35) (by simp) 1 _ rfl
   clear hM0
   refine wpOp_step rfl fun K hK=>?_
   go_simp
   exact hK _ _ ⟨rfl,hM⟩
  ·cases ho9
   have r15:=hD.on 3 15 _ rfl (getD_true (hd9 ⟨3,.guard⟩ (by simp) rfl))
   have r17:=hD.od hd9 5 17 _ rfl (by simp)
   refine wpOp_step rfl fun K hK=>?_
   go_simp
   exact hK _ _ ⟨act_eq (by (show Value.int _ _ = Value.int _ _; congr 1; (first|rfl|omega|(rw [IntKind.wrap_i64]; omega)|(rw [IntKind.wrap_u64]; omega)))),hM⟩
  ·cases ho9
   have r15:=hD.on 3 15 _ rfl (getD_true (hd9 ⟨3,.guard⟩ (by simp) rfl))
   have r2:=hD.old 2 _ rfl rfl
   have hM0:=hM
   have Q_:=hM0.cellAt (b:=w.heap.size) (cs:=#[.int .i64 E,.int .i64 F]) (t:=23) (by simp)
   have c9_0:=Q_ 0 _ rfl
   have c9_1:=Q_ 1 _ rfl
   clear Q_
   clear hM0
   refine wpOp_step rfl fun K hK=>?_
   go_simp
   exact hK _ _ ⟨rfl,hM⟩
  ·cases ho9
   have r15:=hD.on 3 15 _ rfl (getD_true (hd9 ⟨3,.chain⟩ (by simp) rfl))
   have r19:=hD.od hd9 7 19 _ rfl (by simp)
   refine wpOp_step rfl fun K hK=>?_
   go_simp
   go_wp2_with fail
   refine (full1 _ _ m1 _ h HM1).mono ?_
   rintro en w9 ⟨rfl,hb9⟩
   exact hK _ _ ⟨rfl,hM.kept hb9⟩
  ·cases ho9
   have r15:=hD.on 3 15 _ rfl (getD_true (hd9 ⟨3,.guard⟩ (by simp) rfl))
   have r18:=hD.od hd9 6 18 _ rfl (by simp)
   have r20:=hD.od hd9 8 20 _ rfl (by simp)
   refine wpOp_step rfl fun K hK=>?_
   go_simp
   exact hK _ _ ⟨act_eq (by (first|rfl|skip); all_goals (rw [Value.bool.injEq]; first|(simp; done)|(simp; omega)|(rw [decide_eq_false_iff_not]; omega)|(rw [decide_eq_true_iff]; omega))),hM⟩
  ·cases ho9
   have r15:=hD.od hd9 3 15 _ rfl (by simp)
   have r21:=hD.od hd9 9 21 _ rfl (by simp)
   refine wpOp_step rfl fun K hK=>?_
   go_simp
   exact hK _ _ ⟨rfl,hM⟩
  ·cases ho9
   have r22:=hD.od hd9 10 22 _ rfl (by simp)
   refine wpOp_step rfl fun K hK=>?_
   go_simp
   exact hK _ _ ⟨rfl,hM⟩
  ·cases ho9
   have r23:=hD.on 11 23 _ rfl (getD_true (hd9 ⟨11,.guard⟩ (by simp) rfl))
   have r3:=hD.old 3 _ rfl rfl
   refine wpOp_step rfl fun K hK=>?_
   go_simp
   exact hK _ _ ⟨rfl,hM⟩
  ·cases ho9
   have r23:=hD.on 11 23 _ rfl (getD_true (hd9 ⟨11,.guard⟩ (by simp) rfl))
   have r24:=hD.od hd9 12 24 _ rfl (by simp)
   have hM0:=hM
   have c9_0:=hM0.cellAt (b:=w.heap.size+1) (cs:=#[.bool neg,.int .i64 ex,.int .u64 fr]) (t:=35) (by simp) 2 _ rfl
   clear hM0
   refine wpOp_step rfl fun K hK=>?_
   go_simp
   exact hK _ _ ⟨rfl,hM⟩
  ·cases ho9
   have r23:=hD.on 11 23 _ rfl (getD_true (hd9 ⟨11,.guard⟩ (by simp) rfl))
   have r2:=hD.old 2 _ rfl rfl
   have hM0:=hM
   have Q_:=hM0.cellAt (b:=w.heap.size) (cs:=#[.int .i64 E,.int .i64 F]) (t:=23) (by simp)
   have c9_0:=Q_ 0 _ rfl
   have c9_1:=Q_ 1 _ rfl
   clear Q_
   clear hM0
   refine wpOp_step rfl fun K hK=>?_
   go_simp
   exact hK _ _ ⟨rfl,hM⟩
  ·cases ho9
   have r23:=hD.on 11 23 _ rfl (getD_true (hd9 ⟨11,.chain⟩ (by simp) rfl))
   have r26:=hD.od hd9 14 26 _ rfl (by simp)
   refine wpOp_step rfl fun K hK=>?_
   go_simp
   go_wp2_with fail
   refine (full0 _ _ m0 _ h HM0).mono ?_
   rintro en w9 ⟨rfl,hb9⟩
   exact hK _ _ ⟨rfl,hM.kept hb9⟩
  ·cases ho9
   have r23:=hD.on 11 23 _ rfl (getD_true (hd9 ⟨11,.guard⟩ (by simp) rfl))
   have r25:=hD.od hd9 13 25 _ rfl (by simp)
   have r27:=hD.od hd9 15 27 _ rfl (by simp)
   refine wpOp_step rfl fun K hK=>?_
   go_simp
   exact hK _ _ ⟨act_eq (by (first|rfl|skip); all_goals (rw [Value.bool.injEq]; first|(simp; done)|(simp; omega)|(rw [decide_eq_false_iff_not]; omega)|(rw [decide_eq_true_iff]; omega))),hM⟩
  ·cases ho9
   have r23:=hD.od hd9 11 23 _ rfl (by simp)
   have r28:=hD.od hd9 16 28 _ rfl (by simp)
   refine wpOp_step rfl fun K hK=>?_
   go_simp
   exact hK _ _ ⟨rfl,hM⟩
 ·intro l9 W9 hl9 hM
  clear hS ya yb yc yd ye
  have hS:=hM
  clear hM
  simp only [Puts.lay,List.setIfInBounds_toArray,List.set_cons_zero,List.set_cons_succ]
  obtain ⟨⟨yf,yg,-⟩,⟨yh,yi,yj,-⟩,-⟩:=hS.cells
  go_wp2_with fail
  refine (join_any _ _ b ex fr neg _ h (unhide HB)).mono ?_
  rintro e w2 ⟨rfl,hb2⟩
  replace hS:=hS.kept hb2
  clear yf yg yh yi yj
  obtain ⟨⟨yk,yl,-⟩,⟨ym,yn,yo,-⟩,-⟩:=hS.cells
  go_wp2
  go_ret2
  exact ⟨rfl,hS.fr⟩
theorem Range_ok (E F m:Nat) (h:Fo E F) (hm:Hid (m = 2 ^ (E - 1) - 1)) (w:World):Calls Tryz.prog 52 #[.agg #[.int .i64 E,.int .i64 F]] w fun e w'=>e = .returned (.tuple #[.int .i64 (1 - (m:Int) - (F:Int)),.int .i64 (m:Int),.int .i64 0])∧Below w.heap.size w w':=by
 have hml:m < 1024:=by have:=pow_bound (show E - 1≤10 by have:=h.e11; omega); have:=pow_pos2 (E - 1); rw [unhide hm]; omega
 have h4:=h.f52
 go_enter Tryz.func52,Tryz.ntmps52
 go_wp2_with fail
 refine (check_ok _ _ _ h).mono ?_
 rintro e w1 ⟨rfl,hb1⟩
 have hS:=(Fs.one w _ _).kept hb1
 obtain ⟨⟨ya,yb,-⟩,-⟩:=hS.cells
 go_wp2_with fail
 refine wp_region_any (by kernel_rfl) ?_
 refine wpAny_det [some (11,.agg #[.int .i64 E,.int .i64 F]),some (12,.int .i64 m),some (13,.int .i64 (1 - (m:Int))),some (14,.pointer (some ⟨w.heap.size,1,none⟩)),some (15,.int .i64 F),some (16,.int .i64 (1 - (m:Int) - (F:Int))),some (17,.agg #[.int .i64 E,.int .i64 F]),some (18,.int .i64 m),some (2,.int .i64 (1 - (m:Int) - (F:Int))),some (3,.int .i64 m),some (4,.int .i64 0)]
  (fun _ W9=>Fs w W9 [⟨w.heap.size,#[.int .i64 E,.int .i64 F],23⟩]) _ _ rfl (by kernel_rfl) rfl rfl ?_ ?_ (hS).drew
 ·intro l9 t9 W9 i9 hD hi9 hl9 hM
  obtain ⟨o9,ho9,hd9⟩:=(mem_ready.1 hi9).2
  have hin9:i9 < 11:=by
   by_cases h:i9 < 11
   ·exact h
   ·rw [Array.getElem?_eq_none (by rw [hD.len]; simp; omega)] at hl9; cases hl9
  have hcase:i9 = 0∨i9 = 1∨i9 = 2∨i9 = 3∨i9 = 4∨i9 = 5∨i9 = 6∨i9 = 7∨i9 = 8∨i9 = 9∨i9 = 10:=by omega
  clear hin9
  rcases hcase with rfl|rfl|rfl|rfl|rfl|rfl|rfl|rfl|rfl|rfl|rfl
  ·cases ho9
   have r1:=hD.old 1 _ rfl rfl
   have hM0:=hM
   have Q_:=hM0.cellAt (b:=w.heap.size) (cs:=#[.int .i64 E,.int .i64 F]) (t:=23) (by simp)
   have c9_0:=Q_ 0 _ rfl
   have c9_1:=Q_ 1 _ rfl
   clear Q_
   clear hM0
   refine wpOp_step rfl fun K hK=>?_
   go_simp
   exact hK _ _ ⟨rfl,hM⟩
  ·cases ho9
   have r11:=hD.od hd9 0 11 _ rfl (by simp)
   refine wpOp_step rfl fun K hK=>?_
   go_simp
   go_wp2_with fail
   refine (bias_any _ _ m _ h hm).mono ?_
   rintro en w9 ⟨rfl,hb9⟩
   exact hK _ _ ⟨rfl,hM.kept hb9⟩
  ·cases ho9
   have r12:=hD.od hd9 1 12 _ rfl (by simp)
   refine wpOp_step rfl fun K hK=>?_
   go_simp
   exact hK _ _ ⟨act_eq (by (show Value.int _ _ = Value.int _ _; congr 1; (first|rfl|omega|(rw [IntKind.wrap_i64]; omega)|(rw [IntKind.wrap_u64]; omega)))),hM⟩
  ·cases ho9
   have r1:=hD.old 1 _ rfl rfl
   refine wpOp_step rfl fun K hK=>?_
   go_simp
   exact hK _ _ ⟨rfl,hM⟩
  ·cases ho9
   have r14:=hD.od hd9 3 14 _ rfl (by simp)
   have hM0:=hM
   have c9_0:=hM0.cellAt (b:=w.heap.size) (cs:=#[.int .i64 E,.int .i64 F]) (t:=23) (by simp) 1 _ rfl
   clear hM0
   refine wpOp_step rfl fun K hK=>?_
   go_simp
   exact hK _ _ ⟨rfl,hM⟩
  ·cases ho9
   have r13:=hD.od hd9 2 13 _ rfl (by simp)
   have r15:=hD.od hd9 4 15 _ rfl (by simp)
   refine wpOp_step rfl fun K hK=>?_
   go_simp
   exact hK _ _ ⟨act_eq (by (show Value.int _ _ = Value.int _ _; congr 1; (first|rfl|omega|(rw [IntKind.wrap_i64]; omega)|(rw [IntKind.wrap_u64]; omega)))),hM⟩
  ·cases ho9
   have r1:=hD.old 1 _ rfl rfl
   have hM0:=hM
   have Q_:=hM0.cellAt (b:=w.heap.size) (cs:=#[.int .i64 E,.int .i64 F]) (t:=23) (by simp)
   have c9_0:=Q_ 0 _ rfl
   have c9_1:=Q_ 1 _ rfl
   clear Q_
   clear hM0
   refine wpOp_step rfl fun K hK=>?_
   go_simp
   exact hK _ _ ⟨rfl,hM⟩
  ·cases ho9
   have r17:=hD.od hd9 6 17 _ rfl (by simp)
   refine wpOp_step rfl fun K hK=>?_
   go_simp
   go_wp2_with fail
   refine (bias_any _ _ m _ h hm).mono ?_
   rintro en w9 ⟨rfl,hb9⟩
   exact hK _ _ ⟨rfl,hM.kept hb9⟩
  ·cases ho9
   have r16:=hD.od hd9 5 16 _ rfl (by simp)
   refine wpOp_step rfl fun K hK=>?_
   go_simp
   exact hK _ _ ⟨rfl,hM⟩
  ·cases ho9
   have r18:=hD.od hd9 7 18 _ rfl (by simp)
   refine wpOp_step rfl fun K hK=>?_
   go_simp
   exact hK _ _ ⟨rfl,hM⟩
  ·cases ho9
   refine wpOp_step rfl fun K hK=>?_
   go_simp
   exact hK _ _ ⟨rfl,hM⟩
 ·intro l9 W9 hl9 hM
  clear hS ya yb
  have hS:=hM
  clear hM
  simp only [Puts.lay,List.setIfInBounds_toArray,List.set_cons_zero,List.set_cons_succ]
  obtain ⟨⟨yc,yd,-⟩,-⟩:=hS.cells
  go_wp2
  go_ret3
  exact ⟨rfl,hS.fr⟩
theorem noughtParts_any (E F:Nat) (w:World):Calls Tryz.prog 47 #[.agg #[.int .i64 E,.int .i64 F]] w fun e w'=>e = .returned (.agg #[.bool false,.int .i64 0,.int .u64 0])∧Below w.heap.size w w':=by
 go_enter Tryz.func47,Tryz.ntmps47
 go_wp2
 exact bodyPost_ret (v:=.agg #[.bool false,.int .i64 0,.int .u64 0]) (by simp [results,Tryz.results47,go_sem]) rfl ⟨rfl,(Fs.two w _ _ _ _).fr⟩
theorem infParts_any (E F m1:Nat) (h:Fo E F) (hm:Hid (m1 = 2 ^ E - 1)) (w:World):Calls Tryz.prog 130 #[.agg #[.int .i64 E,.int .i64 F]] w fun e w'=>e = .returned (.agg #[.bool false,.int .i64 m1,.int .u64 0])∧Below w.heap.size w w':=by
 go_enter Tryz.func130,Tryz.ntmps130
 go_wp2_with fail
 refine (lastExp_any _ _ m1 _ h hm).mono ?_
 rintro e w1 ⟨rfl,hb1⟩
 have hS:=(Fs.two w _ _ _ _).kept hb1
 obtain ⟨⟨ya,yb,-⟩,⟨yc,yd,ye,-⟩,-⟩:=hS.cells
 have Q_:=hS.frozen (b:=w.heap.size+1) (cs:=#[.bool false,.int .i64 0,.int .u64 0]) (t:=35) (by simp)
 have fz0:=Q_ 0
 have fz1:=Q_ 1
 have fz2:=Q_ 2
 clear Q_
 go_wp2
 exact bodyPost_ret (v:=.agg #[.bool false,.int .i64 m1,.int .u64 0]) (by simp [results,Tryz.results130,go_sem,yc,yd,ye]) rfl ⟨rfl,((hS.fr.setCell (by simp) _).setCell (by simp) _).setCell (by simp) _⟩
theorem greatestParts_any (E F m1 m0:Nat) (h:Fo E F) (hm:Hid (m1+1 = 2 ^ E - 1)) (HM0:Hid (m0 = 2 ^ F - 1)) (w:World):Calls Tryz.prog 172 #[.agg #[.int .i64 E,.int .i64 F]] w fun e w'=>e = .returned (.agg #[.bool false,.int .i64 m1,.int .u64 m0])∧Below w.heap.size w w':=by
 have hml:m1 < 2048:=by have:=pow_bound h.e11; have:=unhide hm; omega
 go_enter Tryz.func172,Tryz.ntmps172
 go_wp2_with fail
 refine wp_region_any (by kernel_rfl) ?_
 refine wpAny_det [some (3,.agg #[.int .i64 E,.int .i64 F]),some (4,.int .i64 ((m1+1:Nat):Int)),some (5,.int .i64 m1),some (6,.agg #[.int .i64 E,.int .i64 F]),some (7,.int .u64 m0),some (8,.agg #[.bool false,.int .i64 m1,.int .u64 m0]),none]
  (fun l9 W9=>Fs w W9 (pickBs l9 [(6,[⟨w.heap.size,#[.int .i64 E,.int .i64 F],23⟩,⟨w.heap.size+1,#[.bool false,.int .i64 m1,.int .u64 m0],35⟩])] [⟨w.heap.size,#[.int .i64 E,.int .i64 F],23⟩,⟨w.heap.size+1,#[.bool false,.int .i64 0,.int .u64 0],35⟩])) _ _ rfl (by kernel_rfl) rfl rfl ?_ ?_ (Fs.two w _ _ _ _).drew
 ·intro l9 t9 W9 i9 hD hi9 hl9 hM
  obtain ⟨o9,ho9,hd9⟩:=(mem_ready.1 hi9).2
  have hin9:i9 < 7:=by
   by_cases h:i9 < 7
   ·exact h
   ·rw [Array.getElem?_eq_none (by rw [hD.len]; simp; omega)] at hl9; cases hl9
  have hcase:i9 = 0∨i9 = 1∨i9 = 2∨i9 = 3∨i9 = 4∨i9 = 5∨i9 = 6:=by omega
  clear hin9
  rcases hcase with rfl|rfl|rfl|rfl|rfl|rfl|rfl
  ·cases ho9
   have r1:=hD.old 1 _ rfl rfl
   have hM0:Fs w W9 [⟨w.heap.size,#[.int .i64 E,.int .i64 F],23⟩,⟨w.heap.size+1,#[.bool false,.int .i64 0,.int .u64 0],35⟩]:=by
    have hM1:=hM
    simp only [pickBs] at hM1
    rw [if_neg (hD.waits 0 6 _ ⟨0,.phase⟩ hl9 rfl (by simp) rfl rfl)] at hM1
    exact hM1
   have Q_:=hM0.cellAt (b:=w.heap.size) (cs:=#[.int .i64 E,.int .i64 F]) (t:=23) (by simp)
   have c9_0:=Q_ 0 _ rfl
   have c9_1:=Q_ 1 _ rfl
   clear Q_
   clear hM0
   refine wpOp_step rfl fun K hK=>?_
   go_simp
   exact hK _ _ ⟨rfl,(keepM rfl hM)⟩
  ·cases ho9
   have r3:=hD.od hd9 0 3 _ rfl (by simp)
   have hM0:Fs w W9 [⟨w.heap.size,#[.int .i64 E,.int .i64 F],23⟩,⟨w.heap.size+1,#[.bool false,.int .i64 0,.int .u64 0],35⟩]:=by
    have hM1:=hM
    simp only [pickBs] at hM1
    rw [if_neg (hD.waits 1 6 _ ⟨1,.phase⟩ hl9 rfl (by simp) rfl rfl)] at hM1
    exact hM1
   refine wpOp_step rfl fun K hK=>?_
   go_simp
   go_wp2_with fail
   refine (lastExp_any _ _ (m1+1) _ h hm).mono ?_
   rintro en w9 ⟨rfl,hb9⟩
   exact hK _ _ ⟨rfl,keepM rfl (hM.kept hb9)⟩
  ·cases ho9
   have r4:=hD.od hd9 1 4 _ rfl (by simp)
   refine wpOp_step rfl fun K hK=>?_
   go_simp
   exact hK _ _ ⟨act_eq (by (show Value.int _ _ = Value.int _ _; congr 1; (first|rfl|omega|(rw [IntKind.wrap_i64]; omega)|(rw [IntKind.wrap_u64]; omega)))),(keepM rfl hM)⟩
  ·cases ho9
   have r1:=hD.old 1 _ rfl rfl
   have hM0:Fs w W9 [⟨w.heap.size,#[.int .i64 E,.int .i64 F],23⟩,⟨w.heap.size+1,#[.bool false,.int .i64 0,.int .u64 0],35⟩]:=by
    have hM1:=hM
    simp only [pickBs] at hM1
    rw [if_neg (hD.waits 3 6 _ ⟨3,.phase⟩ hl9 rfl (by simp) rfl rfl)] at hM1
    exact hM1
   have Q_:=hM0.cellAt (b:=w.heap.size) (cs:=#[.int .i64 E,.int .i64 F]) (t:=23) (by simp)
   have c9_0:=Q_ 0 _ rfl
   have c9_1:=Q_ 1 _ rfl
   clear Q_
   clear hM0
   refine wpOp_step rfl fun K hK=>?_
   go_simp
   exact hK _ _ ⟨rfl,(keepM rfl hM)⟩
  ·cases ho9
   have r6:=hD.od hd9 3 6 _ rfl (by simp)
   have hM0:Fs w W9 [⟨w.heap.size,#[.int .i64 E,.int .i64 F],23⟩,⟨w.heap.size+1,#[.bool false,.int .i64 0,.int .u64 0],35⟩]:=by
    have hM1:=hM
    simp only [pickBs] at hM1
    rw [if_neg (hD.waits 4 6 _ ⟨4,.chain⟩ hl9 rfl (by simp) rfl rfl)] at hM1
    exact hM1
   refine wpOp_step rfl fun K hK=>?_
   go_simp
   go_wp2_with fail
   refine (full0 _ _ m0 _ h HM0).mono ?_
   rintro en w9 ⟨rfl,hb9⟩
   exact hK _ _ ⟨rfl,keepM rfl (hM.kept hb9)⟩
  ·cases ho9
   have r5:=hD.od hd9 2 5 _ rfl (by simp)
   have r7:=hD.od hd9 4 7 _ rfl (by simp)
   refine wpOp_step rfl fun K hK=>?_
   go_simp
   exact hK _ _ ⟨rfl,(keepM rfl hM)⟩
  ·cases ho9
   have r2:=hD.old 2 _ rfl rfl
   have r8:=hD.od hd9 5 8 _ rfl (by simp)
   have hM0:Fs w W9 [⟨w.heap.size,#[.int .i64 E,.int .i64 F],23⟩,⟨w.heap.size+1,#[.bool false,.int .i64 0,.int .u64 0],35⟩]:=by
    have hM1:=hM
    simp only [pickBs] at hM1
    rw [if_neg (by rw [hl9]; simp)] at hM1
    exact hM1
   have c9_0:=hM0.cellAt (b:=w.heap.size+1) (cs:=#[.bool false,.int .i64 0,.int .u64 0]) (t:=35) (by simp) 0 _ rfl
   have z9_0:=hM0.frozen (b:=w.heap.size+1) (cs:=#[.bool false,.int .i64 0,.int .u64 0]) (t:=35) (by simp) 0
   have c9_1:=hM0.cellAt (b:=w.heap.size+1) (cs:=#[.bool false,.int .i64 0,.int .u64 0]) (t:=35) (by simp) 1 _ rfl
   have z9_1:=hM0.frozen (b:=w.heap.size+1) (cs:=#[.bool false,.int .i64 0,.int .u64 0]) (t:=35) (by simp) 1
   have c9_2:=hM0.cellAt (b:=w.heap.size+1) (cs:=#[.bool false,.int .i64 0,.int .u64 0]) (t:=35) (by simp) 2 _ rfl
   have z9_2:=hM0.frozen (b:=w.heap.size+1) (cs:=#[.bool false,.int .i64 0,.int .u64 0]) (t:=35) (by simp) 2
   refine wpOp_step rfl fun K hK=>?_
   go_simp
   exact hK _ _ ⟨rfl,putM trivial hl9 (((hM0.put (b:=w.heap.size+1) (cs:=#[.bool false,.int .i64 0,.int .u64 0]) (t:=35) (by simp) (by simp) 0 (.bool false) [⟨w.heap.size,#[.int .i64 E,.int .i64 F],23⟩,⟨w.heap.size+1,#[.bool false,.int .i64 0,.int .u64 0],35⟩] (by simp)).put (b:=w.heap.size+1) (cs:=#[.bool false,.int .i64 0,.int .u64 0]) (t:=35) (by simp) (by simp) 1 (.int .i64 m1) [⟨w.heap.size,#[.int .i64 E,.int .i64 F],23⟩,⟨w.heap.size+1,#[.bool false,.int .i64 m1,.int .u64 0],35⟩] (by simp)).put (b:=w.heap.size+1) (cs:=#[.bool false,.int .i64 m1,.int .u64 0]) (t:=35) (by simp) (by simp) 2 (.int .u64 m0) [⟨w.heap.size,#[.int .i64 E,.int .i64 F],23⟩,⟨w.heap.size+1,#[.bool false,.int .i64 m1,.int .u64 m0],35⟩] (by simp))⟩
 ·intro l9 W9 hl9 hM
  simp only [pickBs] at hM
  rw [if_pos (hl9 6 (by decide))] at hM
  have hS:=hM
  clear hM
  simp only [Puts.lay,List.setIfInBounds_toArray,List.set_cons_zero,List.set_cons_succ]
  obtain ⟨⟨ya,yb,-⟩,⟨yc,yd,ye,-⟩,-⟩:=hS.cells
  go_wp2
  exact bodyPost_ret (v:=.agg #[.bool false,.int .i64 m1,.int .u64 m0]) (by simp [results,Tryz.results172,go_sem,yc,yd,ye]) rfl ⟨rfl,hS.fr⟩
theorem known_nought (E F b:Nat) (neg:Bool) (h:Fo E F) (hB:Bt E F b neg 0 0) (w:World):Calls Tryz.prog 46 #[.agg #[.int .i64 E,.int .i64 F],.bool neg,.func (Fn.func 47) #[] #[]] w fun e w'=>e = .returned (.tuple #[.int .u64 b,.int .i64 0])∧Below w.heap.size w w':=by
 have HB:=hide hB
 clear hB
 go_enter Tryz.func46,Tryz.ntmps46
 go_wp2_with fail
 refine (check_ok _ _ _ h).mono ?_
 rintro e w1 ⟨rfl,hb1⟩
 have hS:=(Fs.one w _ _).kept hb1
 obtain ⟨⟨ya,yb,-⟩,-⟩:=hS.cells
 go_wp2_with fail
 refine (noughtParts_any _ _ _).mono ?_
 rintro e w2 ⟨rfl,hb2⟩
 replace hS:=hS.kept hb2
 clear ya yb
 obtain ⟨⟨yc,yd,-⟩,-⟩:=hS.cells
 have hlt:w.heap.size < w2.heap.size:=block_lt (hS.bx ⟨w.heap.size,#[.int .i64 E,.int .i64 F],23⟩ (by simp))
 replace hS:=hS.kept (gr_alloc w2 (.cells #[.bool neg,.int .i64 0,.int .u64 0] 35))
 go_wp2_with fail
 refine (join_any _ _ b 0 0 neg _ h (unhide HB)).mono ?_
 rintro e w3 ⟨rfl,hb3⟩
 replace hS:=hS.kept hb3
 go_wp2
 go_ret2
 exact ⟨rfl,hS.fr⟩
theorem Nought_ok (E F b:Nat) (neg:Bool) (h:Fo E F) (hB:Bt E F b neg 0 0) (w:World):Calls Tryz.prog 16 #[.agg #[.int .i64 E,.int .i64 F],.bool neg] w fun e w'=>e = .returned (.tuple #[.int .u64 b,.int .i64 0])∧Below w.heap.size w w':=by
 have HB:=hide hB
 clear hB
 go_enter Tryz.func16,Tryz.ntmps16
 go_wp2_with fail
 refine (known_nought _ _ b neg h (unhide HB) _).mono ?_
 rintro e w1 ⟨rfl,hb1⟩
 have hS:=(Fs.one w _ _).kept hb1
 obtain ⟨⟨ya,yb,-⟩,-⟩:=hS.cells
 go_wp2
 go_ret2
 exact ⟨rfl,hS.fr⟩
theorem known_inf (E F b m1:Nat) (neg:Bool) (h:Fo E F) (hB:Bt E F b neg m1 0) (hm:Hid (m1 = 2 ^ E - 1)) (w:World):Calls Tryz.prog 46 #[.agg #[.int .i64 E,.int .i64 F],.bool neg,.func (Fn.func 130) #[] #[]] w fun e w'=>e = .returned (.tuple #[.int .u64 b,.int .i64 0])∧Below w.heap.size w w':=by
 have HB:=hide hB
 clear hB
 go_enter Tryz.func46,Tryz.ntmps46
 go_wp2_with fail
 refine (check_ok _ _ _ h).mono ?_
 rintro e w1 ⟨rfl,hb1⟩
 have hS:=(Fs.one w _ _).kept hb1
 obtain ⟨⟨ya,yb,-⟩,-⟩:=hS.cells
 go_wp2_with fail
 refine (infParts_any _ _ m1 h hm _).mono ?_
 rintro e w2 ⟨rfl,hb2⟩
 replace hS:=hS.kept hb2
 clear ya yb
 obtain ⟨⟨yc,yd,-⟩,-⟩:=hS.cells
 have hlt:w.heap.size < w2.heap.size:=block_lt (hS.bx ⟨w.heap.size,#[.int .i64 E,.int .i64 F],23⟩ (by simp))
 replace hS:=hS.kept (gr_alloc w2 (.cells #[.bool neg,.int .i64 m1,.int .u64 0] 35))
 go_wp2_with fail
 refine (join_any _ _ b m1 0 neg _ h (unhide HB)).mono ?_
 rintro e w3 ⟨rfl,hb3⟩
 replace hS:=hS.kept hb3
 go_wp2
 go_ret2
 exact ⟨rfl,hS.fr⟩
theorem Inf_ok (E F b m1:Nat) (neg:Bool) (h:Fo E F) (hB:Bt E F b neg m1 0) (hm:Hid (m1 = 2 ^ E - 1)) (w:World):Calls Tryz.prog 92 #[.agg #[.int .i64 E,.int .i64 F],.bool neg] w fun e w'=>e = .returned (.tuple #[.int .u64 b,.int .i64 0])∧Below w.heap.size w w':=by
 have HB:=hide hB
 clear hB
 go_enter Tryz.func92,Tryz.ntmps92
 go_wp2_with fail
 refine (known_inf _ _ b m1 neg h (unhide HB) hm _).mono ?_
 rintro e w1 ⟨rfl,hb1⟩
 have hS:=(Fs.one w _ _).kept hb1
 obtain ⟨⟨ya,yb,-⟩,-⟩:=hS.cells
 go_wp2
 go_ret2
 exact ⟨rfl,hS.fr⟩
theorem known_greatest (E F b m1 m0:Nat) (neg:Bool) (h:Fo E F) (hB:Bt E F b neg m1 m0) (hm:Hid (m1+1 = 2 ^ E - 1)) (hm0:Hid (m0 = 2 ^ F - 1)) (w:World):Calls Tryz.prog 46 #[.agg #[.int .i64 E,.int .i64 F],.bool neg,.func (Fn.func 172) #[] #[]] w fun e w'=>e = .returned (.tuple #[.int .u64 b,.int .i64 0])∧Below w.heap.size w w':=by
 have HB:=hide hB
 clear hB
 go_enter Tryz.func46,Tryz.ntmps46
 go_wp2_with fail
 refine (check_ok _ _ _ h).mono ?_
 rintro e w1 ⟨rfl,hb1⟩
 have hS:=(Fs.one w _ _).kept hb1
 obtain ⟨⟨ya,yb,-⟩,-⟩:=hS.cells
 go_wp2_with fail
 refine (greatestParts_any _ _ m1 m0 h hm hm0 _).mono ?_
 rintro e w2 ⟨rfl,hb2⟩
 replace hS:=hS.kept hb2
 clear ya yb
 obtain ⟨⟨yc,yd,-⟩,-⟩:=hS.cells
 have hlt:w.heap.size < w2.heap.size:=block_lt (hS.bx ⟨w.heap.size,#[.int .i64 E,.int .i64 F],23⟩ (by simp))
 replace hS:=hS.kept (gr_alloc w2 (.cells #[.bool neg,.int .i64 m1,.int .u64 m0] 35))
 go_wp2_with fail
 refine (join_any _ _ b m1 m0 neg _ h (unhide HB)).mono ?_
 rintro e w3 ⟨rfl,hb3⟩
 replace hS:=hS.kept hb3
 go_wp2
 go_ret2
 exact ⟨rfl,hS.fr⟩
theorem Greatest_ok (E F b m1 m0:Nat) (neg:Bool) (h:Fo E F) (hB:Bt E F b neg m1 m0) (hm:Hid (m1+1 = 2 ^ E - 1)) (hm0:Hid (m0 = 2 ^ F - 1)) (w:World):Calls Tryz.prog 166 #[.agg #[.int .i64 E,.int .i64 F],.bool neg] w fun e w'=>e = .returned (.tuple #[.int .u64 b,.int .i64 0])∧Below w.heap.size w w':=by
 have HB:=hide hB
 clear hB
 go_enter Tryz.func166,Tryz.ntmps166
 go_wp2_with fail
 refine (known_greatest _ _ b m1 m0 neg h (unhide HB) hm hm0 _).mono ?_
 rintro e w1 ⟨rfl,hb1⟩
 have hS:=(Fs.one w _ _).kept hb1
 obtain ⟨⟨ya,yb,-⟩,-⟩:=hS.cells
 go_wp2
 go_ret2
 exact ⟨rfl,hS.fr⟩
structure Pk where
 A:Option Addr
 N:Nat
 C:Nat
abbrev Pks:=Nat→Pk
def Pks.set (p:Pks) (c:Nat) (q:Pk):Pks:=fun i=>if i = c then q else p i
def downB (ops:Array Oper) (c:Nat):Nat→Nat→Bool
 | 0,_=>false
 | f+1,k=>match ops[k]? with
  | some o=>o.after.any fun e=>Region.binds .any e && (e.on == c || downB ops c f e.on)
  | none=>false
theorem Det.step {ops:Array Oper} {ds:Puts} {T0:Array Value} {l:Array Bool} {t:Array Value} {i:Nat} (hD:Det ops ds T0 l t) (ha:Puts.apart ds = true) (hw:Puts.within ds T0.size = true) (hi:i∈Region.ready .any ops l) (hl:l[i]? = some false) :
  Det ops ds T0 (l.setIfInBounds i true) (putD (ds[i]?.getD none) t):=by
 obtain ⟨hlt,-⟩:=Array.getElem?_eq_some_iff.1 hl
 have hset:∀ k,(l.setIfInBounds i true)[k]? = some true↔(k = i∨l[k]? = some true):=by
  intro k
  by_cases hk:k = i
  ·subst hk; simp [hlt]
  ·rw [Array.getElem?_setIfInBounds_ne (Ne.symm hk)]; simp [hk]
 constructor
 ·rw [Array.size_setIfInBounds]; exact hD.len
 ·rw [← hD.size]
  cases hd:ds[i]?.getD none with
  | none=>rfl
  | some d=>obtain ⟨s,v⟩:=d; simp [putD]
 ·intro k s v hk hlk
  rcases (hset k).1 hlk with rfl|hlk9
  ·rw [hk]
   have hs:s < t.size:=by rw [hD.size]; simpa using List.all_eq_true.1 hw _ (List.mem_of_getElem? hk)
   simp [putD,hs]
  ·cases hd:ds[i]?.getD none with
   | none=>exact hD.on k s v hk hlk9
   | some d=>
    obtain ⟨s',v'⟩:=d
    have hd':ds[i]? = some (some (s',v')):=by
     cases hx:ds[i]? with
     | none=>rw [hx] at hd; simp at hd
     | some y=>rw [hx] at hd; simp at hd; rw [hd]
    have hne:s'≠s:=by
     intro e; subst e
     obtain rfl:=Puts.one ha hk hd'
     rw [hl] at hlk9; cases hlk9
    rw [putD,Array.getElem?_setIfInBounds_ne hne]
    exact hD.on k s v hk hlk9
 ·intro s hs
  cases hd:ds[i]?.getD none with
  | none=>exact hD.off s (fun k v hk hlk=>hs k v hk ((hset k).2 (Or.inr hlk)))
  | some d=>
   obtain ⟨s',v'⟩:=d
   have hd':ds[i]? = some (some (s',v')):=by
    cases hx:ds[i]? with
    | none=>rw [hx] at hd; simp at hd
    | some y=>rw [hx] at hd; simp at hd; rw [hd]
   have hne:s'≠s:=by
    intro e; subst e
    exact hs i v' hd' ((hset i).2 (Or.inl rfl))
   rw [putD,Array.getElem?_setIfInBounds_ne hne]
   exact hD.off s (fun k v hk hlk=>hs k v hk ((hset k).2 (Or.inr hlk)))
 ·intro k o hlk ho e he hbe
  rcases (hset k).1 hlk with rfl|hlk
  ·obtain ⟨o',ho',hd'⟩:=(mem_ready.1 hi).2
   rw [ho] at ho'
   cases ho'
   exact true_getD ((hset _).2 (Or.inr (getD_true (hd' e he hbe))))
  ·exact true_getD ((hset _).2 (Or.inr (getD_true (hD.shut k o hlk ho e he hbe))))
theorem Det.turn {ops:Array Oper} {ds ds':Puts} {T0:Array Value} {l:Array Bool} {t:Array Value} (hD:Det ops ds T0 l t) (h:∀ k:Nat,l[k]? = some true→ds'[k]? = ds[k]?):Det ops ds' T0 l t:=
 ⟨hD.len,hD.size,fun k s v hk hl=>hD.on k s v (by rw [← h k hl]; exact hk) hl,fun s hs=>hD.off s (fun k v hk hl=>hs k v (by rw [h k hl]; exact hk) hl),hD.shut⟩
theorem Det.down {ops:Array Oper} {ds:Puts} {T0:Array Value} {l:Array Bool} {t:Array Value} (hD:Det ops ds T0 l t) {c:Nat} (hc:l[c]? = some false):∀ (f k:Nat),downB ops c f k = true→l[k]?≠some true
 | 0,_,h=>by simp [downB] at h
 | f+1,k,h=>by
  intro hl
  unfold downB at h
  cases ho:ops[k]? with
  | none=>rw [ho] at h; simp at h
  | some o=>
   rw [ho] at h
   simp only [Array.any_eq_true',Bool.and_eq_true,Bool.or_eq_true,beq_iff_eq] at h
   obtain ⟨e,he,hb,h⟩:=h
   have h1:=getD_true (hD.shut k o hl ho e he hb)
   rcases h with h|h
   ·rw [h,hc] at h1; cases h1
   ·exact Det.down hD hc f e.on h h1
theorem Det.agree {ops:Array Oper} {ds ds':Puts} {T0:Array Value} {l:Array Bool} {t:Array Value} (hD:Det ops ds T0 l t) {c:Nat} (hc:l[c]? = some false) (h:∀ k:Nat,k≠c→downB ops c ops.size k = false→ds'[k]? = ds[k]?):∀ k:Nat,l[k]? = some true→ds'[k]? = ds[k]?:=fun k hk=>by
 refine h k (fun e=>by rw [e,hc] at hk; cases hk) ?_
 cases hd:downB ops c ops.size k with
 | false=>rfl
 | true=>exact absurd hk (hD.down hc _ k hd)
theorem wpAny_pick {P:Program} {ops:Array Oper} {Q:Exit→Act→World→Prop} (D:Pks→Puts) (M:Pks→Array Bool→World→Prop) (T0:Array Value) (w0:World)
  (ha:∀ p,Puts.apart (D p) = true) (hb:backB ops = true) (hlen:∀ p,(D p).length = ops.size) (hw:∀ p,Puts.within (D p) T0.size = true)
  (hstep:∀ p l t w i,Det ops (D p) T0 l t→i∈Region.ready .any ops l→l[i]? = some false→M p l w →
   wpOp P ops Q i (fun a w'=>∃ p',(∀ k:Nat,l[k]? = some true→(D p')[k]? = (D p)[k]?)∧a = ⟨putD ((D p')[i]?.getD none) t,[]⟩∧M p' (l.setIfInBounds i true) w') ⟨t,[]⟩ w)
  (hdone:∀ p l w,l.size = ops.size→(∀ i,i < ops.size→l[i]? = some true)→M p l w→Q .normal ⟨Puts.lay (D p) T0,[]⟩ w)
  (p0:Pks) (hM:M p0 (Array.replicate ops.size false) w0):wpAny P .any ops Q ops.size (Array.replicate ops.size false) ⟨T0,[]⟩ w0:=by
 refine wpAny_inv (fun l a w=>∃ p t,a = ⟨t,[]⟩∧Det ops (D p) T0 l t∧M p l w) ?_ ?_ _ _ _ _ ?_ ⟨p0,T0,rfl,?_,hM⟩
 ·rintro l a w i ⟨p,t,rfl,hD,hm⟩ hi hl
  refine wpOp_mono ?_ (hstep p l t w i hD hi hl hm)
  rintro a' w' ⟨p',hag,rfl,hm'⟩
  exact ⟨p',_,rfl,(hD.turn hag).step (ha p') (hw p') hi hl,hm'⟩
 ·rintro l a w ⟨p,t,rfl,hD,hm⟩ hr
  have hl:=all_up hD.len hb hr
  rw [hD.done (ha p) (hlen p) (hw p) hl]
  exact hdone p l w hD.len hl hm
 ·simp
 ·constructor
  ·simp
  ·rfl
  ·intro k s v _ h
   rw [Array.getElem?_replicate] at h
   split at h <;> cases h
  ·intro s _; rfl
  ·intro k o h
   rw [Array.getElem?_replicate] at h
   split at h <;> cases h
structure St (base:Nat) (f:World→Prop):Prop where
 kept:∀ W W',Below W.heap.size W W'→f W→f W'
 set:∀ W p u,p.block < base→f W→f (W.setCell p u)
structure Pm (w0:World) (base:Nat) (fs:List (Nat×(Pk→World→Prop))) (p:Pks) (l:Array Bool) (W:World) (bs:List En):Prop where
 st:Fs w0 W bs
 bw:base≤W.heap.size
 fx:∀ x,x∈fs→(l[x.1]? = some true∨l.size≤x.1)→x.2 (p x.1) W
theorem Pm.start {w0 W:World} {bs:List En} (h:Fs w0 W bs) (fs:List (Nat×(Pk→World→Prop))) (p:Pks) (n:Nat) (hs:∀ x,x∈fs→∀ q,St W.heap.size (x.2 q)) (h0:∀ x,x∈fs→n≤x.1→x.2 (p x.1) W):Pm w0 W.heap.size fs p (Array.replicate n false) W.drew bs:=
 ⟨h.drew,Nat.le_refl _,fun x hx hl=>by
  rcases hl with hl|hl
  ·rw [Array.getElem?_replicate] at hl; split at hl <;> cases hl
  ·rw [Array.size_replicate] at hl
   exact (hs x hx _).kept _ _ (Below.refl _ _).drew (h0 x hx hl)⟩
theorem Pm.start2 {w0 W:World} {bs:List En} {base:Nat} (h:Fs w0 W bs) (fs:List (Nat×(Pk→World→Prop))) (p:Pks) (n:Nat) (hbase:base≤W.heap.size) (hs:∀ x,x∈fs→∀ q,St base (x.2 q)) (h0:∀ x,x∈fs→n≤x.1→x.2 (p x.1) W):Pm w0 base fs p (Array.replicate n false) W.drew bs:=
 ⟨h.drew,hbase,fun x hx hl=>by
  rcases hl with hl|hl
  ·rw [Array.getElem?_replicate] at hl; split at hl <;> cases hl
  ·rw [Array.size_replicate] at hl
   exact (hs x hx _).kept _ _ (Below.refl _ _).drew (h0 x hx hl)⟩
theorem Pm.val {w0 W:World} {base:Nat} {fs:List (Nat×(Pk→World→Prop))} {p:Pks} {l:Array Bool} {bs:List En} {i:Nat} (h:Pm w0 base fs p l W bs) (hi:(fs.map Prod.fst).all (fun x=>x != i) = true):Pm w0 base fs p (l.setIfInBounds i true) W bs:=
 ⟨h.st,h.bw,fun x hx hl=>h.fx x hx (by
  have:=List.all_eq_true.1 hi x.1 (List.mem_map_of_mem hx)
  rw [Array.getElem?_setIfInBounds_ne (by intro e; subst e; simp at this),Array.size_setIfInBounds] at hl
  exact hl)⟩
theorem Pm.kept {w0 W W':World} {base:Nat} {fs:List (Nat×(Pk→World→Prop))} {p:Pks} {l:Array Bool} {bs:List En} (h:Pm w0 base fs p l W bs) (hs:∀ x,x∈fs→∀ q,St base (x.2 q)) (hb:Below W.heap.size W W'):Pm w0 base fs p l W' bs:=
 ⟨h.st.kept hb,Nat.le_trans h.bw hb.size,fun x hx hl=>(hs x hx _).kept W W' hb (h.fx x hx hl)⟩
theorem Pm.pick {w0 W:World} {base:Nat} {fs:List (Nat×(Pk→World→Prop))} {p:Pks} {l:Array Bool} {bs:List En} {c:Nat} (h:Pm w0 base fs p l W bs) (q:Pk) (hq:∀ x,x∈fs→x.1 = c→x.2 q W):Pm w0 base fs (p.set c q) (l.setIfInBounds c true) W bs:=
 ⟨h.st,h.bw,fun x hx hl=>by
  by_cases e:x.1 = c
  ·have:=hq x hx e
   rw [e]; simpa [Pks.set] using this
  ·rw [Array.getElem?_setIfInBounds_ne (Ne.symm e),Array.size_setIfInBounds] at hl
   have:=h.fx x hx hl
   simpa [Pks.set,e] using this⟩
theorem Pm.put {w0 W:World} {base:Nat} {fs:List (Nat×(Pk→World→Prop))} {p:Pks} {l:Array Bool} {bs bs':List En} (h:Pm w0 base fs p l W bs) (hs:∀ x,x∈fs→∀ q,St base (x.2 q)) (a:Addr) (u:Value) (ha:a.block < base) (h':Fs w0 (W.setCell a u) bs'):Pm w0 base fs p l (W.setCell a u) bs':=
 ⟨h',by have:=h.bw; simpa [World.setCell] using this,fun x hx hl=>(hs x hx _).set W a u ha (h.fx x hx hl)⟩
theorem Pm.into {w0 W:World} {base:Nat} {fs:List (Nat×(Pk→World→Prop))} {p:Pks} {l:Array Bool} {bs bs':List En} (h:Pm w0 base fs p l W bs) (e:bs = bs'):Pm w0 base fs p l W bs':=e▸h
theorem Pm.keepM {w0 W:World} {base:Nat} {fs:List (Nat×(Pk→World→Prop))} {p':Pks} {l:Array Bool} {i:Nat} {sts:List (Nat×List En)} {b:List En} (hi:(sts.map Prod.fst).all (fun x=>x != i) = true) (h:Pm w0 base fs p' (l.setIfInBounds i true) W (pickBs l sts b)):Pm w0 base fs p' (l.setIfInBounds i true) W (pickBs (l.setIfInBounds i true) sts b):=
 h.into (by
  rw [pickBs_set]
  rw [List.all_map] at hi
  exact hi)
theorem Pm.putM {w0 W:World} {base:Nat} {fs:List (Nat×(Pk→World→Prop))} {p:Pks} {l:Array Bool} {i:Nat} {sts:List (Nat×List En)} {b b':List En} (hl:l[i]? = some false) (h:Pm w0 base fs p (l.setIfInBounds i true) W b'):Pm w0 base fs p (l.setIfInBounds i true) W (pickBs (l.setIfInBounds i true) ((i,b') :: sts) b):=
 h.into (pickBs_at hl).symm
def Tel (fn:Nat) (args:Array Value) (v:Value):Prop:=∀ W:World,Calls Tryz.prog fn args W fun e w'=>e = .returned v∧Below W.heap.size W w'
def spS (S b:Nat):Nat:=if b % S = 0 then 0 else b / S
def plc (S b:Nat):Int:=if b < S then (b:Int) else (S:Int) - (b:Int)
theorem half_le {E F S:Nat} (h:Fo E F) (hS:S = 2 ^ (F+E)):0 < S∧S≤9223372036854775808:=by
 subst hS
 exact ⟨pow_pos2 _,pow_bound (n:=F+E) (k:=63) h.sum⟩
theorem nwrap_pow (k:Nat) (h:k≤63):IntKind.u64.wrap ((2:Int) ^ k) = ((2 ^ k:Nat):Int):=by
 have:=shl_u64 1 k (by rw [Nat.one_mul]; exact Nat.lt_of_le_of_lt (pow_bound (n:=k) (k:=63) h) (by decide))
 rw [Nat.one_mul] at this
 rw [← this,Int.natCast_one,Int.one_mul]
theorem signBit_is (E F S:Nat) (h:Fo E F) (hS:Hid (S = 2 ^ (F+E))) (w:World)  :
  Calls Tryz.prog 60 #[.agg #[.int .i64 E,.int .i64 F]] w fun e w'=>e = .returned (.int .u64 (S:Int))∧Below w.heap.size w w':=by
 have h63:=h.sum
 have e1:IntKind.u64.wrap ((2:Int) ^ (E+F)) = (S:Int):=by rw [nwrap_pow _ (by omega),unhide hS,Nat.add_comm]
 go_enter Tryz.func60,Tryz.ntmps60
 go_wp2
 go_ret
 exact ⟨by rw [← e1]; rfl,(Fs.one w _ _).fr⟩
theorem spotOf_0 (E F S b:Nat) (h:Fo E F) (HS:Hid (S = 2 ^ (F+E))) (hb:b < 2 * S) (h0:b % S = 0) (w:World)  :
  Calls Tryz.prog 49 #[.agg #[.int .i64 E,.int .i64 F],.int .u64 (b:Int)] w fun e w'=>e = .returned (.agg #[.int .u64 0,.int .u64 0])∧Below w.heap.size w w':=by
 have e1:=clear_top b (F+E) h.sum (by rw [Nat.pow_succ,Nat.mul_comm,← unhide HS]; exact hb)
 rw [← unhide HS,h0] at e1
 clear hb h0
 go_enter Tryz.func49,Tryz.ntmps49
 go_wp2_with fail
 refine (signBit_is _ _ S h HS _).mono ?_
 rintro e w1 ⟨rfl,hb1⟩
 have hS:=(Fs.two w _ _ _ _).kept hb1
 obtain ⟨⟨ya,yb,-⟩,⟨yc,yd,-⟩,-⟩:=hS.cells
 have Q_:=hS.frozen (b:=w.heap.size+1) (cs:=#[.int .u64 0,.int .u64 0]) (t:=97) (by simp)
 have fz0:=Q_ 0
 have fz1:=Q_ 1
 clear Q_
 go_wp2
 exact bodyPost_ret (v:=.agg #[.int .u64 0,.int .u64 0]) (by simp [results,Tryz.results49,go_sem,yc,yd]) rfl ⟨rfl,((hS.fr.setCell (by simp) _).setCell (by simp) _)⟩
theorem spotOf_n (E F S b r q:Nat) (h:Fo E F) (HS:Hid (S = 2 ^ (F+E))) (hb:b < 2 * S) (hr:r = b % S) (h0:0 < r) (hq:q = b / S) (w:World)  :
  Calls Tryz.prog 49 #[.agg #[.int .i64 E,.int .i64 F],.int .u64 (b:Int)] w fun e w'=>e = .returned (.agg #[.int .u64 (q:Int),.int .u64 (r:Int)])∧Below w.heap.size w w':=by
 have e1:=clear_top b (F+E) h.sum (by rw [Nat.pow_succ,Nat.mul_comm,← unhide HS]; exact hb)
 rw [← unhide HS,← hr] at e1
 have h63:=h.sum
 have e2:((b:Int) / 2 ^ (E+F)) = (q:Int):=by
  rw [show ((2:Int) ^ (E+F)) = ((2 ^ (F+E):Nat):Int) from by rw [Nat.add_comm]; simp,← unhide HS,hq]; rfl
 have hr0:((r:Int) == 0) = false:=by simp; omega
 clear hb hr hq h0
 go_enter Tryz.func49,Tryz.ntmps49
 go_wp2_with fail
 refine (signBit_is _ _ S h HS _).mono ?_
 rintro e w1 ⟨rfl,hb1⟩
 have hS:=(Fs.two w _ _ _ _).kept hb1
 obtain ⟨⟨ya,yb,-⟩,⟨yc,yd,-⟩,-⟩:=hS.cells
 have Q_:=hS.frozen (b:=w.heap.size+1) (cs:=#[.int .u64 0,.int .u64 0]) (t:=97) (by simp)
 have fz0:=Q_ 0
 have fz1:=Q_ 1
 clear Q_
 go_wp2
 exact bodyPost_ret (v:=.agg #[.int .u64 (q:Int),.int .u64 (r:Int)]) (by simp [results,Tryz.results49,go_sem,yc,yd]) rfl ⟨rfl,((hS.fr.setCell (by simp) _).setCell (by simp) _)⟩
theorem place_0 (r:Nat) (h:r < 9223372036854775808) (w:World)  :
  Calls Tryz.prog 50 #[.agg #[.int .u64 0,.int .u64 (r:Int)]] w fun e w'=>e = .returned (.int .i64 (r:Int))∧Below w.heap.size w w':=by
 have e1:IntKind.i64.wrap (r:Int) = (r:Int):=by rw [IntKind.wrap_i64]; omega
 go_enter Tryz.func50,Tryz.ntmps50
 go_wp2
 go_ret
 exact ⟨rfl,(Fs.one w _ _).fr⟩
theorem place_1 (r:Nat) (h0:0 < r) (h:r < 9223372036854775808) (w:World)  :
  Calls Tryz.prog 50 #[.agg #[.int .u64 1,.int .u64 (r:Int)]] w fun e w'=>e = .returned (.int .i64 (-(r:Int)))∧Below w.heap.size w w':=by
 have e1:IntKind.u64.wrap (-(r:Int)) = 18446744073709551616 - (r:Int):=by rw [IntKind.wrap_u64]; omega
 have e2:IntKind.i64.wrap (18446744073709551616 - (r:Int)) = -(r:Int):=by rw [IntKind.wrap_i64]; omega
 go_enter Tryz.func50,Tryz.ntmps50
 go_wp2
 go_ret
 exact ⟨rfl,(Fs.one w _ _).fr⟩
theorem at_0 (E F:Int) (p:Nat) (h:p < 9223372036854775808) (neg:Bool) (hn:p = 0→neg = false) (w:World)  :
  Calls Tryz.prog 93 #[.agg #[.int .i64 E,.int .i64 F],.int .i64 (p:Int),.bool neg] w fun e w'=>e = .returned (.int .u64 (p:Int))∧Below w.heap.size w w':=by
 have e1:IntKind.u64.wrap (p:Int) = (p:Int):=by rw [IntKind.wrap_u64]; omega
 by_cases hp:p = 0
 case pos=>
  subst hp
  rw [hn rfl]
  clear hn
  go_enter Tryz.func93,Tryz.ntmps93
  go_wp2
  go_ret
  exact ⟨rfl,(Fs.one w _ _).fr⟩
 have e2:((p:Int) == 0) = false:=by simp; omega
 clear hn hp
 go_enter Tryz.func93,Tryz.ntmps93
 go_wp2
 go_ret
 exact ⟨rfl,(Fs.one w _ _).fr⟩
theorem at_1 (E F S p r:Nat) (neg:Bool) (h:Fo E F) (HS:Hid (S = 2 ^ (F+E))) (hp:p < 9223372036854775808) (hn:p = 0→neg = true) (hr:r = S+p) (w:World)  :
  Calls Tryz.prog 93 #[.agg #[.int .i64 E,.int .i64 F],.int .i64 (-(p:Int)),.bool neg] w fun e w'=>e = .returned (.int .u64 (r:Int))∧Below w.heap.size w w':=by
 have hS1:=half_le h (unhide HS)
 have e1:IntKind.u64.wrap ((S:Int) - IntKind.u64.wrap (-(p:Int))) = (r:Int):=by rw [IntKind.wrap_u64,IntKind.wrap_u64]; omega
 by_cases hp0:p = 0
 case pos=>
  subst hp0
  rw [hn rfl]
  obtain rfl:r = S:=by omega
  have HS:=HS
  clear hn e1 hr hp
  rw [show (-((0:Nat):Int)) = 0 from rfl]
  go_enter Tryz.func93,Tryz.ntmps93
  go_wp2_with fail
  refine (signBit_is _ _ _ h HS _).mono ?_
  rintro e w1 ⟨rfl,hb1⟩
  go_wp2
  go_ret
  exact ⟨rfl,((Fs.one w _ _).kept hb1).fr⟩
 have e2:(-(p:Int) < 0):=by omega
 clear hn hp hr hp0
 go_enter Tryz.func93,Tryz.ntmps93
 go_wp2_with fail
 refine (signBit_is _ _ S h HS _).mono ?_
 rintro e w1 ⟨rfl,hb1⟩
 have hS:=(Fs.one w _ _).kept hb1
 obtain ⟨⟨ya,yb,-⟩,-⟩:=hS.cells
 go_wp2
 go_ret
 exact ⟨rfl,hS.fr⟩
theorem check1_ok (E F:Int) (p:Nat) (b0:Int) (H0:Tel 26 #[.agg #[.int .i64 E,.int .i64 F],.int .u64 b0] (.int .i64 0)) (w:World) (hp:w.heap[p]? = some (.cells #[.int .u64 b0] 24 (0,0))) :
  Calls Tryz.prog 20 #[.agg #[.int .i64 E,.int .i64 F],.slice (some ⟨p,0,none⟩) 1 1] w fun e w'=>e = .returned (.int .i64 0)∧Below w.heap.size w w':=by
 go_enter Tryz.func20,Tryz.ntmps20
 have hS0:Fs w w [⟨p,#[.int .u64 b0],24⟩]:=⟨fun x hx=>by rcases List.mem_cons.1 hx with rfl|hx; exact hp; exact absurd hx List.not_mem_nil,Below.refl _ _⟩
 have hS:=hS0.alloc #[.int .i64 E,.int .i64 F] 23
 clear hS0 hp
 obtain ⟨⟨ya,yb,-⟩,⟨yc,-⟩,-⟩:=hS.cells
 go_wp2
 refine wp_loop_rounds 2 ?_
 rw [rounds_succ]
 go_wp2_with fail
 refine (H0 _).mono ?_
 rintro e w1 ⟨rfl,hb1⟩
 replace hS:=hS.kept hb1
 clear ya yb yc
 obtain ⟨⟨yd,ye,-⟩,⟨yf,-⟩,-⟩:=hS.cells
 go_wp2
 rw [rounds_succ]
 go_wp2
 go_ret
 exact ⟨rfl,hS.fr⟩
theorem check1_err (E F c:Int) (hc:(c == (0:Int)) = false) (p:Nat) (b0:Int) (H0:Tel 26 #[.agg #[.int .i64 E,.int .i64 F],.int .u64 b0] (.int .i64 c)) (w:World) (hp:w.heap[p]? = some (.cells #[.int .u64 b0] 24 (0,0))) :
  Calls Tryz.prog 20 #[.agg #[.int .i64 E,.int .i64 F],.slice (some ⟨p,0,none⟩) 1 1] w fun e w'=>e = .returned (.int .i64 c)∧Below w.heap.size w w':=by
 go_enter Tryz.func20,Tryz.ntmps20
 have hS0:Fs w w [⟨p,#[.int .u64 b0],24⟩]:=⟨fun x hx=>by rcases List.mem_cons.1 hx with rfl|hx; exact hp; exact absurd hx List.not_mem_nil,Below.refl _ _⟩
 have hS:=hS0.alloc #[.int .i64 E,.int .i64 F] 23
 clear hS0 hp
 obtain ⟨⟨ya,yb,-⟩,⟨yc,-⟩,-⟩:=hS.cells
 go_wp2
 refine wp_loop_rounds 2 ?_
 rw [rounds_succ]
 go_wp2_with fail
 refine (H0 _).mono ?_
 rintro e w1 ⟨rfl,hb1⟩
 replace hS:=hS.kept hb1
 clear ya yb yc
 obtain ⟨⟨yd,ye,-⟩,⟨yf,-⟩,-⟩:=hS.cells
 go_wp2
 go_ret
 exact ⟨rfl,hS.fr⟩
theorem check2_ok (E F:Int) (p:Nat) (b0 b1:Int) (H0:Tel 26 #[.agg #[.int .i64 E,.int .i64 F],.int .u64 b0] (.int .i64 0)) (H1:Tel 26 #[.agg #[.int .i64 E,.int .i64 F],.int .u64 b1] (.int .i64 0)) (w:World) (hp:w.heap[p]? = some (.cells #[.int .u64 b0,.int .u64 b1] 24 (0,0))) :
  Calls Tryz.prog 20 #[.agg #[.int .i64 E,.int .i64 F],.slice (some ⟨p,0,none⟩) 2 2] w fun e w'=>e = .returned (.int .i64 0)∧Below w.heap.size w w':=by
 go_enter Tryz.func20,Tryz.ntmps20
 have hS0:Fs w w [⟨p,#[.int .u64 b0,.int .u64 b1],24⟩]:=⟨fun x hx=>by rcases List.mem_cons.1 hx with rfl|hx; exact hp; exact absurd hx List.not_mem_nil,Below.refl _ _⟩
 have hS:=hS0.alloc #[.int .i64 E,.int .i64 F] 23
 clear hS0 hp
 obtain ⟨⟨ya,yb,-⟩,⟨yc,yd,-⟩,-⟩:=hS.cells
 go_wp2
 refine wp_loop_rounds 3 ?_
 rw [rounds_succ]
 go_wp2_with fail
 refine (H0 _).mono ?_
 rintro e w1 ⟨rfl,hb1⟩
 replace hS:=hS.kept hb1
 clear ya yb yc yd
 obtain ⟨⟨ye,yf,-⟩,⟨yg,yh,-⟩,-⟩:=hS.cells
 go_wp2
 rw [rounds_succ]
 go_wp2_with fail
 refine (H1 _).mono ?_
 rintro e w2 ⟨rfl,hb2⟩
 replace hS:=hS.kept hb2
 clear ye yf yg yh
 obtain ⟨⟨yi,yj,-⟩,⟨yk,yl,-⟩,-⟩:=hS.cells
 go_wp2
 rw [rounds_succ]
 go_wp2
 go_ret
 exact ⟨rfl,hS.fr⟩
theorem numbers1_yes (E F:Int) (c0:Int) (hc0:(c0 == (5:Int)) = false)  (p:Nat) (b0:Int) (H0:Tel 15 #[.agg #[.int .i64 E,.int .i64 F],.int .u64 b0] (.tuple #[.int .u8 c0,.int .i64 0])) (w:World) (hp:w.heap[p]? = some (.cells #[.int .u64 b0] 24 (0,0))) :
  Calls Tryz.prog 48 #[.agg #[.int .i64 E,.int .i64 F],.slice (some ⟨p,0,none⟩) 1 1] w fun e w'=>e = .returned (.bool true)∧Below w.heap.size w w':=by
 go_enter Tryz.func48,Tryz.ntmps48
 have hS0:Fs w w [⟨p,#[.int .u64 b0],24⟩]:=⟨fun x hx=>by rcases List.mem_cons.1 hx with rfl|hx; exact hp; exact absurd hx List.not_mem_nil,Below.refl _ _⟩
 have hS:=hS0.alloc #[.int .i64 E,.int .i64 F] 23
 clear hS0 hp
 obtain ⟨⟨ya,yb,-⟩,⟨yc,-⟩,-⟩:=hS.cells
 go_wp2
 refine wp_loop_rounds 2 ?_
 rw [rounds_succ]
 go_wp2_with fail
 refine (H0 _).mono ?_
 rintro e w1 ⟨rfl,hb1⟩
 replace hS:=hS.kept hb1
 clear ya yb yc
 obtain ⟨⟨yd,ye,-⟩,⟨yf,-⟩,-⟩:=hS.cells
 go_wp2
 rw [rounds_succ]
 go_wp2
 go_ret
 exact ⟨rfl,hS.fr⟩
theorem numbers1_no (E F:Int)  (p:Nat) (b0:Int) (H0:Tel 15 #[.agg #[.int .i64 E,.int .i64 F],.int .u64 b0] (.tuple #[.int .u8 5,.int .i64 0])) (w:World) (hp:w.heap[p]? = some (.cells #[.int .u64 b0] 24 (0,0))) :
  Calls Tryz.prog 48 #[.agg #[.int .i64 E,.int .i64 F],.slice (some ⟨p,0,none⟩) 1 1] w fun e w'=>e = .returned (.bool false)∧Below w.heap.size w w':=by
 go_enter Tryz.func48,Tryz.ntmps48
 have hS0:Fs w w [⟨p,#[.int .u64 b0],24⟩]:=⟨fun x hx=>by rcases List.mem_cons.1 hx with rfl|hx; exact hp; exact absurd hx List.not_mem_nil,Below.refl _ _⟩
 have hS:=hS0.alloc #[.int .i64 E,.int .i64 F] 23
 clear hS0 hp
 obtain ⟨⟨ya,yb,-⟩,⟨yc,-⟩,-⟩:=hS.cells
 go_wp2
 refine wp_loop_rounds 2 ?_
 rw [rounds_succ]
 go_wp2_with fail
 refine (H0 _).mono ?_
 rintro e w1 ⟨rfl,hb1⟩
 replace hS:=hS.kept hb1
 clear ya yb yc
 obtain ⟨⟨yd,ye,-⟩,⟨yf,-⟩,-⟩:=hS.cells
 go_wp2
 go_ret
 exact ⟨rfl,hS.fr⟩
theorem numbers2_yes (E F:Int) (c0:Int) (hc0:(c0 == (5:Int)) = false) (c1:Int) (hc1:(c1 == (5:Int)) = false)  (p:Nat) (b0 b1:Int) (H0:Tel 15 #[.agg #[.int .i64 E,.int .i64 F],.int .u64 b0] (.tuple #[.int .u8 c0,.int .i64 0])) (H1:Tel 15 #[.agg #[.int .i64 E,.int .i64 F],.int .u64 b1] (.tuple #[.int .u8 c1,.int .i64 0])) (w:World) (hp:w.heap[p]? = some (.cells #[.int .u64 b0,.int .u64 b1] 24 (0,0))) :
  Calls Tryz.prog 48 #[.agg #[.int .i64 E,.int .i64 F],.slice (some ⟨p,0,none⟩) 2 2] w fun e w'=>e = .returned (.bool true)∧Below w.heap.size w w':=by
 go_enter Tryz.func48,Tryz.ntmps48
 have hS0:Fs w w [⟨p,#[.int .u64 b0,.int .u64 b1],24⟩]:=⟨fun x hx=>by rcases List.mem_cons.1 hx with rfl|hx; exact hp; exact absurd hx List.not_mem_nil,Below.refl _ _⟩
 have hS:=hS0.alloc #[.int .i64 E,.int .i64 F] 23
 clear hS0 hp
 obtain ⟨⟨ya,yb,-⟩,⟨yc,yd,-⟩,-⟩:=hS.cells
 go_wp2
 refine wp_loop_rounds 3 ?_
 rw [rounds_succ]
 go_wp2_with fail
 refine (H0 _).mono ?_
 rintro e w1 ⟨rfl,hb1⟩
 replace hS:=hS.kept hb1
 clear ya yb yc yd
 obtain ⟨⟨ye,yf,-⟩,⟨yg,yh,-⟩,-⟩:=hS.cells
 go_wp2
 rw [rounds_succ]
 go_wp2_with fail
 refine (H1 _).mono ?_
 rintro e w2 ⟨rfl,hb2⟩
 replace hS:=hS.kept hb2
 clear ye yf yg yh
 obtain ⟨⟨yi,yj,-⟩,⟨yk,yl,-⟩,-⟩:=hS.cells
 go_wp2
 rw [rounds_succ]
 go_wp2
 go_ret
 exact ⟨rfl,hS.fr⟩
theorem spot_under:Tryz.prog.underlying 97 = some (.array 2 24):=by kernel_rfl
theorem word_is:(Tryz.prog.info? 24).isSome = true:=by kernel_rfl
theorem word_info:∃ i,Tryz.prog.info? 24 = some i:=Option.isSome_iff_exists.1 word_is
theorem word_cells:Tryz.prog.cellsOf 24 = 1:=by kernel_rfl
theorem eq_spot (q r q' r':Int) (W:World) :
  (Op.equalIn 10000 97 (.agg #[.int .u64 q,.int .u64 r]) (.agg #[.int .u64 q',.int .u64 r'])).run Tryz.prog W = .ok (q == q' && r == r') W:=by
 obtain ⟨i,hi⟩:=word_info
 rw [show (10000:Nat) = 9999+1 from rfl,run_equalIn_array W 9999 _ _ spot_under hi,word_cells]
 have hr:List.range 2 = [0,1]:=rfl
 rw [hr]
 simp only [Op.eqItems]
 by_cases hq:q = q'
 ·by_cases hr:r = r'
  ·simp [go_sem,hq,hr,run_equalIn_int]
  ·simp [go_sem,hq,hr,run_equalIn_int]
 ·simp [go_sem,hq,run_equalIn_int]
theorem beside_nan (E F b:Int) (d:Bool) (H0:Tel 26 #[.agg #[.int .i64 E,.int .i64 F],.int .u64 b] (.int .i64 0)) (HC:Tel 15 #[.agg #[.int .i64 E,.int .i64 F],.int .u64 b] (.tuple #[.int .u8 5,.int .i64 0])) (w:World)  :
  Calls Tryz.prog 43 #[.agg #[.int .i64 E,.int .i64 F],.int .u64 b,.bool d] w fun e w'=>e = .returned (.tuple #[.int .u64 0,.int .i64 2])∧Below w.heap.size w w':=by
 go_enter Tryz.func43,Tryz.ntmps43
 go_wp2_with fail
 refine (check1_ok E F _ b H0 _ (by have:=heap_alloc_new (w.alloc (.cells #[.int .i64 E,.int .i64 F] 23)) (.cells #[.int .u64 b] 24); simpa only [World.size_alloc] using this)).mono ?_
 rintro e w1 ⟨rfl,hb1⟩
 have hS:Fs w (w.alloc (.cells #[.int .i64 E,.int .i64 F] 23)) [⟨w.heap.size,#[.int .i64 E,.int .i64 F],23⟩]:=Fs.one w _ _
 replace hS:=((hS.alloc #[.int .u64 b] 24).kept hb1).sub (fun x hx=>List.mem_cons_of_mem _ hx)
 obtain ⟨⟨ya,yb,-⟩,-⟩:=hS.cells
 go_wp2_with fail
 refine (numbers1_no E F _ b HC _ (by have:=heap_alloc_new w1 (.cells #[.int .u64 b] 24); simpa only [World.size_alloc] using this)).mono ?_
 rintro e w2 ⟨rfl,hb2⟩
 replace hS:=((hS.alloc #[.int .u64 b] 24).kept hb2).sub (fun x hx=>List.mem_cons_of_mem _ hx)
 clear ya yb
 obtain ⟨⟨yc,yd,-⟩,-⟩:=hS.cells
 go_wp2
 go_ret2
 exact ⟨rfl,hS.fr⟩
theorem beside_end (E F b:Int) (d:Bool) (H0:Tel 26 #[.agg #[.int .i64 E,.int .i64 F],.int .u64 b] (.int .i64 0)) (c:Int) (hc:(c == (5:Int)) = false) (HC:Tel 15 #[.agg #[.int .i64 E,.int .i64 F],.int .u64 b] (.tuple #[.int .u8 c,.int .i64 0])) (en:Int) (HI:Tel 92 #[.agg #[.int .i64 E,.int .i64 F],.bool d] (.tuple #[.int .u64 en,.int .i64 0])) (q r:Int) (HP:Tel 49 #[.agg #[.int .i64 E,.int .i64 F],.int .u64 b] (.agg #[.int .u64 q,.int .u64 r])) (HQ:Tel 49 #[.agg #[.int .i64 E,.int .i64 F],.int .u64 en] (.agg #[.int .u64 q,.int .u64 r])) (w:World)  :
  Calls Tryz.prog 43 #[.agg #[.int .i64 E,.int .i64 F],.int .u64 b,.bool d] w fun e w'=>e = .returned (.tuple #[.int .u64 0,.int .i64 60])∧Below w.heap.size w w':=by
 go_enter Tryz.func43,Tryz.ntmps43
 go_wp2_with fail
 refine (check1_ok E F _ b H0 _ (by have:=heap_alloc_new (w.alloc (.cells #[.int .i64 E,.int .i64 F] 23)) (.cells #[.int .u64 b] 24); simpa only [World.size_alloc] using this)).mono ?_
 rintro e w1 ⟨rfl,hb1⟩
 have hS:Fs w (w.alloc (.cells #[.int .i64 E,.int .i64 F] 23)) [⟨w.heap.size,#[.int .i64 E,.int .i64 F],23⟩]:=Fs.one w _ _
 replace hS:=((hS.alloc #[.int .u64 b] 24).kept hb1).sub (fun x hx=>List.mem_cons_of_mem _ hx)
 obtain ⟨⟨ya,yb,-⟩,-⟩:=hS.cells
 go_wp2_with fail
 refine (numbers1_yes E F c hc _ b HC _ (by have:=heap_alloc_new w1 (.cells #[.int .u64 b] 24); simpa only [World.size_alloc] using this)).mono ?_
 rintro e w2 ⟨rfl,hb2⟩
 replace hS:=((hS.alloc #[.int .u64 b] 24).kept hb2).sub (fun x hx=>List.mem_cons_of_mem _ hx)
 clear ya yb
 obtain ⟨⟨yc,yd,-⟩,-⟩:=hS.cells
 go_wp2_with fail
 refine (HI _).mono ?_
 rintro e w3 ⟨rfl,hb3⟩
 replace hS:=hS.kept hb3
 clear yc yd
 obtain ⟨⟨ye,yf,-⟩,-⟩:=hS.cells
 go_wp2_with fail
 refine (HP _).mono ?_
 rintro e w4 ⟨rfl,hb4⟩
 replace hS:=hS.kept hb4
 clear ye yf
 obtain ⟨⟨yg,yh,-⟩,-⟩:=hS.cells
 have hltw4_0:w.heap.size < w4.heap.size:=hS.lt 0 rfl
 replace hS:=hS.alloc #[.int .u64 q,.int .u64 r] 97
 clear yg yh
 obtain ⟨⟨yi,yj,-⟩,⟨yk,yl,-⟩,-⟩:=hS.cells
 have hEq:=eq_spot q r q r
 go_wp2_with fail
 refine wp_region_any (by kernel_rfl) ?_
 refine wpAny_det [some (37,.agg #[.int .u64 q,.int .u64 r]),some (38,.agg #[.int .i64 E,.int .i64 F]),some (39,.int .u64 en),some (40,.agg #[.int .u64 q,.int .u64 r]),some (41,.bool true)]
  (fun _ W9=>Fs w W9 [⟨w4.heap.size,#[.int .u64 q,.int .u64 r],97⟩,⟨w.heap.size,#[.int .i64 E,.int .i64 F],23⟩]) _ _ rfl (by kernel_rfl) rfl rfl ?_ ?_ (hS).drew
 ·intro l9 t9 W9 i9 hD hi9 hl9 hM
  obtain ⟨o9,ho9,hd9⟩:=(mem_ready.1 hi9).2
  have hin9:i9 < 5:=by
   by_cases h:i9 < 5
   ·exact h
   ·rw [Array.getElem?_eq_none (by rw [hD.len]; simp; omega)] at hl9; cases hl9
  have hcase:i9 = 0∨i9 = 1∨i9 = 2∨i9 = 3∨i9 = 4:=by omega
  clear hin9
  rcases hcase with rfl|rfl|rfl|rfl|rfl
  ·cases ho9
   have r11:=hD.old 11 _ rfl rfl
   have hM0:=hM
   have Q_:=hM0.cellAt (b:=w4.heap.size) (cs:=#[.int .u64 q,.int .u64 r]) (t:=97) (by simp)
   have c9_0:=Q_ 0 _ rfl
   have c9_1:=Q_ 1 _ rfl
   clear Q_
   clear hM0
   refine wpOp_step rfl fun K hK=>?_
   go_simp
   exact hK _ _ ⟨rfl,hM⟩
  ·cases ho9
   have r3:=hD.old 3 _ rfl rfl
   have hM0:=hM
   have Q_:=hM0.cellAt (b:=w.heap.size) (cs:=#[.int .i64 E,.int .i64 F]) (t:=23) (by simp)
   have c9_0:=Q_ 0 _ rfl
   have c9_1:=Q_ 1 _ rfl
   clear Q_
   clear hM0
   refine wpOp_step rfl fun K hK=>?_
   go_simp
   exact hK _ _ ⟨rfl,hM⟩
  ·cases ho9
   have r9:=hD.old 9 _ rfl rfl
   refine wpOp_step rfl fun K hK=>?_
   go_simp
   exact hK _ _ ⟨rfl,hM⟩
  ·cases ho9
   have r38:=hD.od hd9 1 38 _ rfl (by simp)
   have r39:=hD.od hd9 2 39 _ rfl (by simp)
   refine wpOp_step rfl fun K hK=>?_
   go_simp
   go_wp2_with fail
   refine (HQ _).mono ?_
   rintro en w9 ⟨rfl,hb9⟩
   exact hK _ _ ⟨rfl,hM.kept hb9⟩
  ·cases ho9
   have r37:=hD.od hd9 0 37 _ rfl (by simp)
   have r40:=hD.od hd9 3 40 _ rfl (by simp)
   refine wpOp_step rfl fun K hK=>?_
   go_simp
   exact hK _ _ ⟨act_eq (by simp),hM⟩
 ·intro l9 W9 hl9 hM
  clear hS yi yj yk yl
  have hS:=hM
  clear hM
  simp only [Puts.lay,List.setIfInBounds_toArray,List.set_cons_zero,List.set_cons_succ]
  obtain ⟨⟨ym,yn,-⟩,⟨yo,yp,-⟩,-⟩:=hS.cells
  clear hEq
  go_wp2
  go_ret2
  exact ⟨rfl,hS.fr⟩
theorem beside_up (E F b:Int) (H0:Tel 26 #[.agg #[.int .i64 E,.int .i64 F],.int .u64 b] (.int .i64 0)) (c:Int) (hc:(c == (5:Int)) = false) (HC:Tel 15 #[.agg #[.int .i64 E,.int .i64 F],.int .u64 b] (.tuple #[.int .u8 c,.int .i64 0])) (en:Int) (HI:Tel 92 #[.agg #[.int .i64 E,.int .i64 F],.bool false] (.tuple #[.int .u64 en,.int .i64 0])) (q r:Int) (HP:Tel 49 #[.agg #[.int .i64 E,.int .i64 F],.int .u64 b] (.agg #[.int .u64 q,.int .u64 r])) (q' r':Int) (HQ:Tel 49 #[.agg #[.int .i64 E,.int .i64 F],.int .u64 en] (.agg #[.int .u64 q',.int .u64 r'])) (hne:(q == q' && r == r') = false) (p v:Int) (hp:-9223372036854775000≤p) (hp2:p≤9223372036854775000) (neg:Bool) (hneg:(q == (1:Int)) = neg) (HL:Tel 50 #[.agg #[.int .u64 q,.int .u64 r]] (.int .i64 p)) (HA:Tel 93 #[.agg #[.int .i64 E,.int .i64 F],.int .i64 (p+1),.bool neg] (.int .u64 v)) (w:World)  :
  Calls Tryz.prog 43 #[.agg #[.int .i64 E,.int .i64 F],.int .u64 b,.bool false] w fun e w'=>e = .returned (.tuple #[.int .u64 v,.int .i64 0])∧Below w.heap.size w w':=by
 go_enter Tryz.func43,Tryz.ntmps43
 go_wp2_with fail
 refine (check1_ok E F _ b H0 _ (by have:=heap_alloc_new (w.alloc (.cells #[.int .i64 E,.int .i64 F] 23)) (.cells #[.int .u64 b] 24); simpa only [World.size_alloc] using this)).mono ?_
 rintro e w1 ⟨rfl,hb1⟩
 have hS:Fs w (w.alloc (.cells #[.int .i64 E,.int .i64 F] 23)) [⟨w.heap.size,#[.int .i64 E,.int .i64 F],23⟩]:=Fs.one w _ _
 replace hS:=((hS.alloc #[.int .u64 b] 24).kept hb1).sub (fun x hx=>List.mem_cons_of_mem _ hx)
 obtain ⟨⟨ya,yb,-⟩,-⟩:=hS.cells
 go_wp2_with fail
 refine (numbers1_yes E F c hc _ b HC _ (by have:=heap_alloc_new w1 (.cells #[.int .u64 b] 24); simpa only [World.size_alloc] using this)).mono ?_
 rintro e w2 ⟨rfl,hb2⟩
 replace hS:=((hS.alloc #[.int .u64 b] 24).kept hb2).sub (fun x hx=>List.mem_cons_of_mem _ hx)
 clear ya yb
 obtain ⟨⟨yc,yd,-⟩,-⟩:=hS.cells
 go_wp2_with fail
 refine (HI _).mono ?_
 rintro e w3 ⟨rfl,hb3⟩
 replace hS:=hS.kept hb3
 clear yc yd
 obtain ⟨⟨ye,yf,-⟩,-⟩:=hS.cells
 go_wp2_with fail
 refine (HP _).mono ?_
 rintro e w4 ⟨rfl,hb4⟩
 replace hS:=hS.kept hb4
 clear ye yf
 obtain ⟨⟨yg,yh,-⟩,-⟩:=hS.cells
 have hltw4_0:w.heap.size < w4.heap.size:=hS.lt 0 rfl
 replace hS:=hS.alloc #[.int .u64 q,.int .u64 r] 97
 clear yg yh
 obtain ⟨⟨yi,yj,-⟩,⟨yk,yl,-⟩,-⟩:=hS.cells
 have hEq:=eq_spot q r q' r'
 go_wp2_with fail
 refine wp_region_any (by kernel_rfl) ?_
 refine wpAny_det [some (37,.agg #[.int .u64 q,.int .u64 r]),some (38,.agg #[.int .i64 E,.int .i64 F]),some (39,.int .u64 en),some (40,.agg #[.int .u64 q',.int .u64 r']),some (41,.bool false)]
  (fun _ W9=>Fs w W9 [⟨w4.heap.size,#[.int .u64 q,.int .u64 r],97⟩,⟨w.heap.size,#[.int .i64 E,.int .i64 F],23⟩]) _ _ rfl (by kernel_rfl) rfl rfl ?_ ?_ (hS).drew
 ·intro l9 t9 W9 i9 hD hi9 hl9 hM
  obtain ⟨o9,ho9,hd9⟩:=(mem_ready.1 hi9).2
  have hin9:i9 < 5:=by
   by_cases h:i9 < 5
   ·exact h
   ·rw [Array.getElem?_eq_none (by rw [hD.len]; simp; omega)] at hl9; cases hl9
  have hcase:i9 = 0∨i9 = 1∨i9 = 2∨i9 = 3∨i9 = 4:=by omega
  clear hin9
  rcases hcase with rfl|rfl|rfl|rfl|rfl
  ·cases ho9
   have r11:=hD.old 11 _ rfl rfl
   have hM0:=hM
   have Q_:=hM0.cellAt (b:=w4.heap.size) (cs:=#[.int .u64 q,.int .u64 r]) (t:=97) (by simp)
   have c9_0:=Q_ 0 _ rfl
   have c9_1:=Q_ 1 _ rfl
   clear Q_
   clear hM0
   refine wpOp_step rfl fun K hK=>?_
   go_simp
   exact hK _ _ ⟨rfl,hM⟩
  ·cases ho9
   have r3:=hD.old 3 _ rfl rfl
   have hM0:=hM
   have Q_:=hM0.cellAt (b:=w.heap.size) (cs:=#[.int .i64 E,.int .i64 F]) (t:=23) (by simp)
   have c9_0:=Q_ 0 _ rfl
   have c9_1:=Q_ 1 _ rfl
   clear Q_
   clear hM0
   refine wpOp_step rfl fun K hK=>?_
   go_simp
   exact hK _ _ ⟨rfl,hM⟩
  ·cases ho9
   have r9:=hD.old 9 _ rfl rfl
   refine wpOp_step rfl fun K hK=>?_
   go_simp
   exact hK _ _ ⟨rfl,hM⟩
  ·cases ho9
   have r38:=hD.od hd9 1 38 _ rfl (by simp)
   have r39:=hD.od hd9 2 39 _ rfl (by simp)
   refine wpOp_step rfl fun K hK=>?_
   go_simp
   go_wp2_with fail
   refine (HQ _).mono ?_
   rintro en w9 ⟨rfl,hb9⟩
   exact hK _ _ ⟨rfl,hM.kept hb9⟩
  ·cases ho9
   have r37:=hD.od hd9 0 37 _ rfl (by simp)
   have r40:=hD.od hd9 3 40 _ rfl (by simp)
   refine wpOp_step rfl fun K hK=>?_
   go_simp
   exact hK _ _ ⟨act_eq (by rfl),hM⟩
 ·intro l9 W9 hl9 hM
  clear hS yi yj yk yl
  have hS:=hM
  clear hM
  simp only [Puts.lay,List.setIfInBounds_toArray,List.set_cons_zero,List.set_cons_succ]
  obtain ⟨⟨ym,yn,-⟩,⟨yo,yp,-⟩,-⟩:=hS.cells
  clear hEq
  go_wp2_with fail
  refine wp_region_any (by kernel_rfl) ?_
  refine wpAny_det [some (52,.agg #[.int .i64 E,.int .i64 F]),some (53,.agg #[.int .u64 q,.int .u64 r]),some (54,.int .i64 p),some (55,.int .i64 (p+1)),some (56,.bool neg),some (57,.int .u64 v),some (6,.int .u64 v),some (7,.int .i64 0)]
   (fun _ W9=>Fs w W9 [⟨w4.heap.size,#[.int .u64 q,.int .u64 r],97⟩,⟨w.heap.size,#[.int .i64 E,.int .i64 F],23⟩]) _ _ rfl (by kernel_rfl) rfl rfl ?_ ?_ (hS).drew
  ·intro l9 t9 W9 i9 hD hi9 hl9 hM
   obtain ⟨o9,ho9,hd9⟩:=(mem_ready.1 hi9).2
   have hin9:i9 < 8:=by
    by_cases h:i9 < 8
    ·exact h
    ·rw [Array.getElem?_eq_none (by rw [hD.len]; simp; omega)] at hl9; cases hl9
   have hcase:i9 = 0∨i9 = 1∨i9 = 2∨i9 = 3∨i9 = 4∨i9 = 5∨i9 = 6∨i9 = 7:=by omega
   clear hin9
   rcases hcase with rfl|rfl|rfl|rfl|rfl|rfl|rfl|rfl
   ·cases ho9
    have r3:=hD.old 3 _ rfl rfl
    have hM0:=hM
    have Q_:=hM0.cellAt (b:=w.heap.size) (cs:=#[.int .i64 E,.int .i64 F]) (t:=23) (by simp)
    have c9_0:=Q_ 0 _ rfl
    have c9_1:=Q_ 1 _ rfl
    clear Q_
    clear hM0
    refine wpOp_step rfl fun K hK=>?_
    go_simp
    exact hK _ _ ⟨rfl,hM⟩
   ·cases ho9
    have r11:=hD.old 11 _ rfl rfl
    have hM0:=hM
    have Q_:=hM0.cellAt (b:=w4.heap.size) (cs:=#[.int .u64 q,.int .u64 r]) (t:=97) (by simp)
    have c9_0:=Q_ 0 _ rfl
    have c9_1:=Q_ 1 _ rfl
    clear Q_
    clear hM0
    refine wpOp_step rfl fun K hK=>?_
    go_simp
    exact hK _ _ ⟨rfl,hM⟩
   ·cases ho9
    have r53:=hD.od hd9 1 53 _ rfl (by simp)
    refine wpOp_step rfl fun K hK=>?_
    go_simp
    go_wp2_with fail
    refine (HL _).mono ?_
    rintro en w9 ⟨rfl,hb9⟩
    exact hK _ _ ⟨rfl,hM.kept hb9⟩
   ·cases ho9
    have r54:=hD.od hd9 2 54 _ rfl (by simp)
    refine wpOp_step rfl fun K hK=>?_
    go_simp
    exact hK _ _ ⟨act_eq (by (show Value.int _ _ = Value.int _ _; congr 1; (first|rfl|omega|(rw [IntKind.wrap_i64]; omega)|(rw [IntKind.wrap_u64]; omega)))),hM⟩
   ·cases ho9
    have r12:=hD.old 12 _ rfl rfl
    refine wpOp_step rfl fun K hK=>?_
    go_simp
    exact hK _ _ ⟨rfl,hM⟩
   ·cases ho9
    have r52:=hD.od hd9 0 52 _ rfl (by simp)
    have r55:=hD.od hd9 3 55 _ rfl (by simp)
    have r56:=hD.od hd9 4 56 _ rfl (by simp)
    refine wpOp_step rfl fun K hK=>?_
    go_simp
    go_wp2_with fail
    refine (HA _).mono ?_
    rintro en w9 ⟨rfl,hb9⟩
    exact hK _ _ ⟨rfl,hM.kept hb9⟩
   ·cases ho9
    have r57:=hD.od hd9 5 57 _ rfl (by simp)
    refine wpOp_step rfl fun K hK=>?_
    go_simp
    exact hK _ _ ⟨rfl,hM⟩
   ·cases ho9
    refine wpOp_step rfl fun K hK=>?_
    go_simp
    exact hK _ _ ⟨rfl,hM⟩
  ·intro l9 W9 hl9 hM
   clear hS ym yn yo yp
   have hS:=hM
   clear hM
   simp only [Puts.lay,List.setIfInBounds_toArray,List.set_cons_zero,List.set_cons_succ]
   obtain ⟨⟨yq,yr,-⟩,⟨ys,yt,-⟩,-⟩:=hS.cells
   go_wp2
   go_ret2
   exact ⟨rfl,hS.fr⟩
theorem beside_down (E F b:Int) (H0:Tel 26 #[.agg #[.int .i64 E,.int .i64 F],.int .u64 b] (.int .i64 0)) (c:Int) (hc:(c == (5:Int)) = false) (HC:Tel 15 #[.agg #[.int .i64 E,.int .i64 F],.int .u64 b] (.tuple #[.int .u8 c,.int .i64 0])) (en:Int) (HI:Tel 92 #[.agg #[.int .i64 E,.int .i64 F],.bool true] (.tuple #[.int .u64 en,.int .i64 0])) (q r:Int) (HP:Tel 49 #[.agg #[.int .i64 E,.int .i64 F],.int .u64 b] (.agg #[.int .u64 q,.int .u64 r])) (q' r':Int) (HQ:Tel 49 #[.agg #[.int .i64 E,.int .i64 F],.int .u64 en] (.agg #[.int .u64 q',.int .u64 r'])) (hne:(q == q' && r == r') = false) (p v:Int) (hp:-9223372036854775000≤p) (hp2:p≤9223372036854775000) (neg:Bool) (hneg:(q == (1:Int)) = neg) (HL:Tel 50 #[.agg #[.int .u64 q,.int .u64 r]] (.int .i64 p)) (HA:Tel 93 #[.agg #[.int .i64 E,.int .i64 F],.int .i64 (p - 1),.bool neg] (.int .u64 v)) (w:World)  :
  Calls Tryz.prog 43 #[.agg #[.int .i64 E,.int .i64 F],.int .u64 b,.bool true] w fun e w'=>e = .returned (.tuple #[.int .u64 v,.int .i64 0])∧Below w.heap.size w w':=by
 go_enter Tryz.func43,Tryz.ntmps43
 go_wp2_with fail
 refine (check1_ok E F _ b H0 _ (by have:=heap_alloc_new (w.alloc (.cells #[.int .i64 E,.int .i64 F] 23)) (.cells #[.int .u64 b] 24); simpa only [World.size_alloc] using this)).mono ?_
 rintro e w1 ⟨rfl,hb1⟩
 have hS:Fs w (w.alloc (.cells #[.int .i64 E,.int .i64 F] 23)) [⟨w.heap.size,#[.int .i64 E,.int .i64 F],23⟩]:=Fs.one w _ _
 replace hS:=((hS.alloc #[.int .u64 b] 24).kept hb1).sub (fun x hx=>List.mem_cons_of_mem _ hx)
 obtain ⟨⟨ya,yb,-⟩,-⟩:=hS.cells
 go_wp2_with fail
 refine (numbers1_yes E F c hc _ b HC _ (by have:=heap_alloc_new w1 (.cells #[.int .u64 b] 24); simpa only [World.size_alloc] using this)).mono ?_
 rintro e w2 ⟨rfl,hb2⟩
 replace hS:=((hS.alloc #[.int .u64 b] 24).kept hb2).sub (fun x hx=>List.mem_cons_of_mem _ hx)
 clear ya yb
 obtain ⟨⟨yc,yd,-⟩,-⟩:=hS.cells
 go_wp2_with fail
 refine (HI _).mono ?_
 rintro e w3 ⟨rfl,hb3⟩
 replace hS:=hS.kept hb3
 clear yc yd
 obtain ⟨⟨ye,yf,-⟩,-⟩:=hS.cells
 go_wp2_with fail
 refine (HP _).mono ?_
 rintro e w4 ⟨rfl,hb4⟩
 replace hS:=hS.kept hb4
 clear ye yf
 obtain ⟨⟨yg,yh,-⟩,-⟩:=hS.cells
 have hltw4_0:w.heap.size < w4.heap.size:=hS.lt 0 rfl
 replace hS:=hS.alloc #[.int .u64 q,.int .u64 r] 97
 clear yg yh
 obtain ⟨⟨yi,yj,-⟩,⟨yk,yl,-⟩,-⟩:=hS.cells
 have hEq:=eq_spot q r q' r'
 go_wp2_with fail
 refine wp_region_any (by kernel_rfl) ?_
 refine wpAny_det [some (37,.agg #[.int .u64 q,.int .u64 r]),some (38,.agg #[.int .i64 E,.int .i64 F]),some (39,.int .u64 en),some (40,.agg #[.int .u64 q',.int .u64 r']),some (41,.bool false)]
  (fun _ W9=>Fs w W9 [⟨w4.heap.size,#[.int .u64 q,.int .u64 r],97⟩,⟨w.heap.size,#[.int .i64 E,.int .i64 F],23⟩]) _ _ rfl (by kernel_rfl) rfl rfl ?_ ?_ (hS).drew
 ·intro l9 t9 W9 i9 hD hi9 hl9 hM
  obtain ⟨o9,ho9,hd9⟩:=(mem_ready.1 hi9).2
  have hin9:i9 < 5:=by
   by_cases h:i9 < 5
   ·exact h
   ·rw [Array.getElem?_eq_none (by rw [hD.len]; simp; omega)] at hl9; cases hl9
  have hcase:i9 = 0∨i9 = 1∨i9 = 2∨i9 = 3∨i9 = 4:=by omega
  clear hin9
  rcases hcase with rfl|rfl|rfl|rfl|rfl
  ·cases ho9
   have r11:=hD.old 11 _ rfl rfl
   have hM0:=hM
   have Q_:=hM0.cellAt (b:=w4.heap.size) (cs:=#[.int .u64 q,.int .u64 r]) (t:=97) (by simp)
   have c9_0:=Q_ 0 _ rfl
   have c9_1:=Q_ 1 _ rfl
   clear Q_
   clear hM0
   refine wpOp_step rfl fun K hK=>?_
   go_simp
   exact hK _ _ ⟨rfl,hM⟩
  ·cases ho9
   have r3:=hD.old 3 _ rfl rfl
   have hM0:=hM
   have Q_:=hM0.cellAt (b:=w.heap.size) (cs:=#[.int .i64 E,.int .i64 F]) (t:=23) (by simp)
   have c9_0:=Q_ 0 _ rfl
   have c9_1:=Q_ 1 _ rfl
   clear Q_
   clear hM0
   refine wpOp_step rfl fun K hK=>?_
   go_simp
   exact hK _ _ ⟨rfl,hM⟩
  ·cases ho9
   have r9:=hD.old 9 _ rfl rfl
   refine wpOp_step rfl fun K hK=>?_
   go_simp
   exact hK _ _ ⟨rfl,hM⟩
  ·cases ho9
   have r38:=hD.od hd9 1 38 _ rfl (by simp)
   have r39:=hD.od hd9 2 39 _ rfl (by simp)
   refine wpOp_step rfl fun K hK=>?_
   go_simp
   go_wp2_with fail
   refine (HQ _).mono ?_
   rintro en w9 ⟨rfl,hb9⟩
   exact hK _ _ ⟨rfl,hM.kept hb9⟩
  ·cases ho9
   have r37:=hD.od hd9 0 37 _ rfl (by simp)
   have r40:=hD.od hd9 3 40 _ rfl (by simp)
   refine wpOp_step rfl fun K hK=>?_
   go_simp
   exact hK _ _ ⟨act_eq (by rfl),hM⟩
 ·intro l9 W9 hl9 hM
  clear hS yi yj yk yl
  have hS:=hM
  clear hM
  simp only [Puts.lay,List.setIfInBounds_toArray,List.set_cons_zero,List.set_cons_succ]
  obtain ⟨⟨ym,yn,-⟩,⟨yo,yp,-⟩,-⟩:=hS.cells
  clear hEq
  go_wp2_with fail
  refine wp_region_any (by kernel_rfl) ?_
  refine wpAny_det [some (46,.agg #[.int .i64 E,.int .i64 F]),some (47,.agg #[.int .u64 q,.int .u64 r]),some (48,.int .i64 p),some (49,.int .i64 (p - 1)),some (50,.bool neg),some (51,.int .u64 v),some (6,.int .u64 v),some (7,.int .i64 0)]
   (fun _ W9=>Fs w W9 [⟨w4.heap.size,#[.int .u64 q,.int .u64 r],97⟩,⟨w.heap.size,#[.int .i64 E,.int .i64 F],23⟩]) _ _ rfl (by kernel_rfl) rfl rfl ?_ ?_ (hS).drew
  ·intro l9 t9 W9 i9 hD hi9 hl9 hM
   obtain ⟨o9,ho9,hd9⟩:=(mem_ready.1 hi9).2
   have hin9:i9 < 8:=by
    by_cases h:i9 < 8
    ·exact h
    ·rw [Array.getElem?_eq_none (by rw [hD.len]; simp; omega)] at hl9; cases hl9
   have hcase:i9 = 0∨i9 = 1∨i9 = 2∨i9 = 3∨i9 = 4∨i9 = 5∨i9 = 6∨i9 = 7:=by omega
   clear hin9
   rcases hcase with rfl|rfl|rfl|rfl|rfl|rfl|rfl|rfl
   ·cases ho9
    have r3:=hD.old 3 _ rfl rfl
    have hM0:=hM
    have Q_:=hM0.cellAt (b:=w.heap.size) (cs:=#[.int .i64 E,.int .i64 F]) (t:=23) (by simp)
    have c9_0:=Q_ 0 _ rfl
    have c9_1:=Q_ 1 _ rfl
    clear Q_
    clear hM0
    refine wpOp_step rfl fun K hK=>?_
    go_simp
    exact hK _ _ ⟨rfl,hM⟩
   ·cases ho9
    have r11:=hD.old 11 _ rfl rfl
    have hM0:=hM
    have Q_:=hM0.cellAt (b:=w4.heap.size) (cs:=#[.int .u64 q,.int .u64 r]) (t:=97) (by simp)
    have c9_0:=Q_ 0 _ rfl
    have c9_1:=Q_ 1 _ rfl
    clear Q_
    clear hM0
    refine wpOp_step rfl fun K hK=>?_
    go_simp
    exact hK _ _ ⟨rfl,hM⟩
   ·cases ho9
    have r47:=hD.od hd9 1 47 _ rfl (by simp)
    refine wpOp_step rfl fun K hK=>?_
    go_simp
    go_wp2_with fail
    refine (HL _).mono ?_
    rintro en w9 ⟨rfl,hb9⟩
    exact hK _ _ ⟨rfl,hM.kept hb9⟩
   ·cases ho9
    have r48:=hD.od hd9 2 48 _ rfl (by simp)
    refine wpOp_step rfl fun K hK=>?_
    go_simp
    exact hK _ _ ⟨act_eq (by (show Value.int _ _ = Value.int _ _; congr 1; (first|rfl|omega|(rw [IntKind.wrap_i64]; omega)|(rw [IntKind.wrap_u64]; omega)))),hM⟩
   ·cases ho9
    have r12:=hD.old 12 _ rfl rfl
    refine wpOp_step rfl fun K hK=>?_
    go_simp
    exact hK _ _ ⟨rfl,hM⟩
   ·cases ho9
    have r46:=hD.od hd9 0 46 _ rfl (by simp)
    have r49:=hD.od hd9 3 49 _ rfl (by simp)
    have r50:=hD.od hd9 4 50 _ rfl (by simp)
    refine wpOp_step rfl fun K hK=>?_
    go_simp
    go_wp2_with fail
    refine (HA _).mono ?_
    rintro en w9 ⟨rfl,hb9⟩
    exact hK _ _ ⟨rfl,hM.kept hb9⟩
   ·cases ho9
    have r51:=hD.od hd9 5 51 _ rfl (by simp)
    refine wpOp_step rfl fun K hK=>?_
    go_simp
    exact hK _ _ ⟨rfl,hM⟩
   ·cases ho9
    refine wpOp_step rfl fun K hK=>?_
    go_simp
    exact hK _ _ ⟨rfl,hM⟩
  ·intro l9 W9 hl9 hM
   clear hS ym yn yo yp
   have hS:=hM
   clear hM
   simp only [Puts.lay,List.setIfInBounds_toArray,List.set_cons_zero,List.set_cons_succ]
   obtain ⟨⟨yq,yr,-⟩,⟨ys,yt,-⟩,-⟩:=hS.cells
   go_wp2
   go_ret2
   exact ⟨rfl,hS.fr⟩
theorem Up_is (E F b x y:Int) (H:Tel 43 #[.agg #[.int .i64 E,.int .i64 F],.int .u64 b,.bool false] (.tuple #[.int .u64 x,.int .i64 y])) (w:World)  :
  Calls Tryz.prog 14 #[.agg #[.int .i64 E,.int .i64 F],.int .u64 b] w fun e w'=>e = .returned (.tuple #[.int .u64 x,.int .i64 y])∧Below w.heap.size w w':=by
 go_enter Tryz.func14,Tryz.ntmps14
 go_wp2_with fail
 refine (H _).mono ?_
 rintro e w1 ⟨rfl,hb1⟩
 have hS:=(Fs.one w _ _).kept hb1
 obtain ⟨⟨ya,yb,-⟩,-⟩:=hS.cells
 go_wp2
 go_ret2
 exact ⟨rfl,hS.fr⟩
theorem Down_is (E F b x y:Int) (H:Tel 43 #[.agg #[.int .i64 E,.int .i64 F],.int .u64 b,.bool true] (.tuple #[.int .u64 x,.int .i64 y])) (w:World)  :
  Calls Tryz.prog 59 #[.agg #[.int .i64 E,.int .i64 F],.int .u64 b] w fun e w'=>e = .returned (.tuple #[.int .u64 x,.int .i64 y])∧Below w.heap.size w w':=by
 go_enter Tryz.func59,Tryz.ntmps59
 go_wp2_with fail
 refine (H _).mono ?_
 rintro e w1 ⟨rfl,hb1⟩
 have hS:=(Fs.one w _ _).kept hb1
 obtain ⟨⟨ya,yb,-⟩,-⟩:=hS.cells
 go_wp2
 go_ret2
 exact ⟨rfl,hS.fr⟩
theorem Steps_down (E F a b:Int) (c1:Int) (h1:(c1 == (5:Int)) = false) (c2:Int) (h2:(c2 == (5:Int)) = false) (H0:Tel 26 #[.agg #[.int .i64 E,.int .i64 F],.int .u64 a] (.int .i64 0)) (H1:Tel 26 #[.agg #[.int .i64 E,.int .i64 F],.int .u64 b] (.int .i64 0)) (HC:Tel 15 #[.agg #[.int .i64 E,.int .i64 F],.int .u64 a] (.tuple #[.int .u8 c1,.int .i64 0])) (HD:Tel 15 #[.agg #[.int .i64 E,.int .i64 F],.int .u64 b] (.tuple #[.int .u8 c2,.int .i64 0])) (qa ra qb rb x y:Int) (HP:Tel 49 #[.agg #[.int .i64 E,.int .i64 F],.int .u64 a] (.agg #[.int .u64 qa,.int .u64 ra])) (HQ:Tel 49 #[.agg #[.int .i64 E,.int .i64 F],.int .u64 b] (.agg #[.int .u64 qb,.int .u64 rb])) (HX:Tel 50 #[.agg #[.int .u64 qa,.int .u64 ra]] (.int .i64 x)) (HY:Tel 50 #[.agg #[.int .u64 qb,.int .u64 rb]] (.int .i64 y)) (h:y < x) (hx:-9223372036854775808≤x) (hx2:x < 9223372036854775808) (hy:-9223372036854775808≤y) (hy2:y < 9223372036854775808) (n:Int) (hn:n = x - y) (w:World)  :
  Calls Tryz.prog 18 #[.agg #[.int .i64 E,.int .i64 F],.int .u64 a,.int .u64 b] w fun e w'=>e = .returned (.tuple #[.bool true,.int .u64 n,.int .i64 0])∧Below w.heap.size w w':=by
 have e1:IntKind.u64.wrap (IntKind.u64.wrap (x) - IntKind.u64.wrap (y)) = n:=by rw [IntKind.wrap_u64,IntKind.wrap_u64,IntKind.wrap_u64]; omega
 clear hn hx hx2 hy hy2
 go_enter Tryz.func18,Tryz.ntmps18
 go_wp2_with fail
 refine (check2_ok E F _ a b H0 H1 _ (by have:=heap_alloc_new (w.alloc (.cells #[.int .i64 E,.int .i64 F] 23)) (.cells #[.int .u64 a,.int .u64 b] 24); simpa only [World.size_alloc] using this)).mono ?_
 rintro e w1 ⟨rfl,hb1⟩
 have hS:Fs w (w.alloc (.cells #[.int .i64 E,.int .i64 F] 23)) [⟨w.heap.size,#[.int .i64 E,.int .i64 F],23⟩]:=Fs.one w _ _
 replace hS:=((hS.alloc #[.int .u64 a,.int .u64 b] 24).kept hb1).sub (fun x hx=>List.mem_cons_of_mem _ hx)
 obtain ⟨⟨ya,yb,-⟩,-⟩:=hS.cells
 go_wp2_with fail
 refine (numbers2_yes E F c1 h1 c2 h2 _ a b HC HD _ (by have:=heap_alloc_new w1 (.cells #[.int .u64 a,.int .u64 b] 24); simpa only [World.size_alloc] using this)).mono ?_
 rintro e w2 ⟨rfl,hb2⟩
 replace hS:=((hS.alloc #[.int .u64 a,.int .u64 b] 24).kept hb2).sub (fun x hx=>List.mem_cons_of_mem _ hx)
 clear ya yb
 obtain ⟨⟨yc,yd,-⟩,-⟩:=hS.cells
 go_wp2_with fail
 refine wp_region_any (by kernel_rfl) ?_
 refine wpAny_det [some (26,.agg #[.int .i64 E,.int .i64 F]),some (27,.int .u64 a),some (28,.agg #[.int .u64 qa,.int .u64 ra]),some (29,.int .i64 x),some (30,.agg #[.int .i64 E,.int .i64 F]),some (31,.int .u64 b),some (32,.agg #[.int .u64 qb,.int .u64 rb]),some (33,.int .i64 y),some (10,.int .i64 x),some (11,.int .i64 y)]
  (fun _ W9=>Fs w W9 [⟨w.heap.size,#[.int .i64 E,.int .i64 F],23⟩]) _ _ rfl (by kernel_rfl) rfl rfl ?_ ?_ (hS).drew
 ·intro l9 t9 W9 i9 hD hi9 hl9 hM
  obtain ⟨o9,ho9,hd9⟩:=(mem_ready.1 hi9).2
  have hin9:i9 < 10:=by
   by_cases h:i9 < 10
   ·exact h
   ·rw [Array.getElem?_eq_none (by rw [hD.len]; simp; omega)] at hl9; cases hl9
  have hcase:i9 = 0∨i9 = 1∨i9 = 2∨i9 = 3∨i9 = 4∨i9 = 5∨i9 = 6∨i9 = 7∨i9 = 8∨i9 = 9:=by omega
  clear hin9
  rcases hcase with rfl|rfl|rfl|rfl|rfl|rfl|rfl|rfl|rfl|rfl
  ·cases ho9
   have r3:=hD.old 3 _ rfl rfl
   have hM0:=hM
   have Q_:=hM0.cellAt (b:=w.heap.size) (cs:=#[.int .i64 E,.int .i64 F]) (t:=23) (by simp)
   have c9_0:=Q_ 0 _ rfl
   have c9_1:=Q_ 1 _ rfl
   clear Q_
   clear hM0
   refine wpOp_step rfl fun K hK=>?_
   go_simp
   exact hK _ _ ⟨rfl,hM⟩
  ·cases ho9
   have r1:=hD.old 1 _ rfl rfl
   refine wpOp_step rfl fun K hK=>?_
   go_simp
   exact hK _ _ ⟨rfl,hM⟩
  ·cases ho9
   have r26:=hD.od hd9 0 26 _ rfl (by simp)
   have r27:=hD.od hd9 1 27 _ rfl (by simp)
   refine wpOp_step rfl fun K hK=>?_
   go_simp
   go_wp2_with fail
   refine (HP _).mono ?_
   rintro en w9 ⟨rfl,hb9⟩
   exact hK _ _ ⟨rfl,hM.kept hb9⟩
  ·cases ho9
   have r28:=hD.od hd9 2 28 _ rfl (by simp)
   refine wpOp_step rfl fun K hK=>?_
   go_simp
   go_wp2_with fail
   refine (HX _).mono ?_
   rintro en w9 ⟨rfl,hb9⟩
   exact hK _ _ ⟨rfl,hM.kept hb9⟩
  ·cases ho9
   have r3:=hD.old 3 _ rfl rfl
   have hM0:=hM
   have Q_:=hM0.cellAt (b:=w.heap.size) (cs:=#[.int .i64 E,.int .i64 F]) (t:=23) (by simp)
   have c9_0:=Q_ 0 _ rfl
   have c9_1:=Q_ 1 _ rfl
   clear Q_
   clear hM0
   refine wpOp_step rfl fun K hK=>?_
   go_simp
   exact hK _ _ ⟨rfl,hM⟩
  ·cases ho9
   have r2:=hD.old 2 _ rfl rfl
   refine wpOp_step rfl fun K hK=>?_
   go_simp
   exact hK _ _ ⟨rfl,hM⟩
  ·cases ho9
   have r30:=hD.od hd9 4 30 _ rfl (by simp)
   have r31:=hD.od hd9 5 31 _ rfl (by simp)
   refine wpOp_step rfl fun K hK=>?_
   go_simp
   go_wp2_with fail
   refine (HQ _).mono ?_
   rintro en w9 ⟨rfl,hb9⟩
   exact hK _ _ ⟨rfl,hM.kept hb9⟩
  ·cases ho9
   have r32:=hD.od hd9 6 32 _ rfl (by simp)
   refine wpOp_step rfl fun K hK=>?_
   go_simp
   go_wp2_with fail
   refine (HY _).mono ?_
   rintro en w9 ⟨rfl,hb9⟩
   exact hK _ _ ⟨rfl,hM.kept hb9⟩
  ·cases ho9
   have r29:=hD.od hd9 3 29 _ rfl (by simp)
   refine wpOp_step rfl fun K hK=>?_
   go_simp
   exact hK _ _ ⟨rfl,hM⟩
  ·cases ho9
   have r33:=hD.od hd9 7 33 _ rfl (by simp)
   refine wpOp_step rfl fun K hK=>?_
   go_simp
   exact hK _ _ ⟨rfl,hM⟩
 ·intro l9 W9 hl9 hM
  clear hS yc yd
  have hS:=hM
  clear hM
  simp only [Puts.lay,List.setIfInBounds_toArray,List.set_cons_zero,List.set_cons_succ]
  obtain ⟨⟨ye,yf,-⟩,-⟩:=hS.cells
  go_wp2
  go_ret3
  exact ⟨rfl,hS.fr⟩
theorem Steps_up (E F a b:Int) (c1:Int) (h1:(c1 == (5:Int)) = false) (c2:Int) (h2:(c2 == (5:Int)) = false) (H0:Tel 26 #[.agg #[.int .i64 E,.int .i64 F],.int .u64 a] (.int .i64 0)) (H1:Tel 26 #[.agg #[.int .i64 E,.int .i64 F],.int .u64 b] (.int .i64 0)) (HC:Tel 15 #[.agg #[.int .i64 E,.int .i64 F],.int .u64 a] (.tuple #[.int .u8 c1,.int .i64 0])) (HD:Tel 15 #[.agg #[.int .i64 E,.int .i64 F],.int .u64 b] (.tuple #[.int .u8 c2,.int .i64 0])) (qa ra qb rb x y:Int) (HP:Tel 49 #[.agg #[.int .i64 E,.int .i64 F],.int .u64 a] (.agg #[.int .u64 qa,.int .u64 ra])) (HQ:Tel 49 #[.agg #[.int .i64 E,.int .i64 F],.int .u64 b] (.agg #[.int .u64 qb,.int .u64 rb])) (HX:Tel 50 #[.agg #[.int .u64 qa,.int .u64 ra]] (.int .i64 x)) (HY:Tel 50 #[.agg #[.int .u64 qb,.int .u64 rb]] (.int .i64 y)) (h:¬ y < x) (hx:-9223372036854775808≤x) (hx2:x < 9223372036854775808) (hy:-9223372036854775808≤y) (hy2:y < 9223372036854775808) (n:Int) (hn:n = y - x) (w:World)  :
  Calls Tryz.prog 18 #[.agg #[.int .i64 E,.int .i64 F],.int .u64 a,.int .u64 b] w fun e w'=>e = .returned (.tuple #[.bool false,.int .u64 n,.int .i64 0])∧Below w.heap.size w w':=by
 have e1:IntKind.u64.wrap (IntKind.u64.wrap (y) - IntKind.u64.wrap (x)) = n:=by rw [IntKind.wrap_u64,IntKind.wrap_u64,IntKind.wrap_u64]; omega
 clear hn hx hx2 hy hy2
 go_enter Tryz.func18,Tryz.ntmps18
 go_wp2_with fail
 refine (check2_ok E F _ a b H0 H1 _ (by have:=heap_alloc_new (w.alloc (.cells #[.int .i64 E,.int .i64 F] 23)) (.cells #[.int .u64 a,.int .u64 b] 24); simpa only [World.size_alloc] using this)).mono ?_
 rintro e w1 ⟨rfl,hb1⟩
 have hS:Fs w (w.alloc (.cells #[.int .i64 E,.int .i64 F] 23)) [⟨w.heap.size,#[.int .i64 E,.int .i64 F],23⟩]:=Fs.one w _ _
 replace hS:=((hS.alloc #[.int .u64 a,.int .u64 b] 24).kept hb1).sub (fun x hx=>List.mem_cons_of_mem _ hx)
 obtain ⟨⟨ya,yb,-⟩,-⟩:=hS.cells
 go_wp2_with fail
 refine (numbers2_yes E F c1 h1 c2 h2 _ a b HC HD _ (by have:=heap_alloc_new w1 (.cells #[.int .u64 a,.int .u64 b] 24); simpa only [World.size_alloc] using this)).mono ?_
 rintro e w2 ⟨rfl,hb2⟩
 replace hS:=((hS.alloc #[.int .u64 a,.int .u64 b] 24).kept hb2).sub (fun x hx=>List.mem_cons_of_mem _ hx)
 clear ya yb
 obtain ⟨⟨yc,yd,-⟩,-⟩:=hS.cells
 go_wp2_with fail
 refine wp_region_any (by kernel_rfl) ?_
 refine wpAny_det [some (26,.agg #[.int .i64 E,.int .i64 F]),some (27,.int .u64 a),some (28,.agg #[.int .u64 qa,.int .u64 ra]),some (29,.int .i64 x),some (30,.agg #[.int .i64 E,.int .i64 F]),some (31,.int .u64 b),some (32,.agg #[.int .u64 qb,.int .u64 rb]),some (33,.int .i64 y),some (10,.int .i64 x),some (11,.int .i64 y)]
  (fun _ W9=>Fs w W9 [⟨w.heap.size,#[.int .i64 E,.int .i64 F],23⟩]) _ _ rfl (by kernel_rfl) rfl rfl ?_ ?_ (hS).drew
 ·intro l9 t9 W9 i9 hD hi9 hl9 hM
  obtain ⟨o9,ho9,hd9⟩:=(mem_ready.1 hi9).2
  have hin9:i9 < 10:=by
   by_cases h:i9 < 10
   ·exact h
   ·rw [Array.getElem?_eq_none (by rw [hD.len]; simp; omega)] at hl9; cases hl9
  have hcase:i9 = 0∨i9 = 1∨i9 = 2∨i9 = 3∨i9 = 4∨i9 = 5∨i9 = 6∨i9 = 7∨i9 = 8∨i9 = 9:=by omega
  clear hin9
  rcases hcase with rfl|rfl|rfl|rfl|rfl|rfl|rfl|rfl|rfl|rfl
  ·cases ho9
   have r3:=hD.old 3 _ rfl rfl
   have hM0:=hM
   have Q_:=hM0.cellAt (b:=w.heap.size) (cs:=#[.int .i64 E,.int .i64 F]) (t:=23) (by simp)
   have c9_0:=Q_ 0 _ rfl
   have c9_1:=Q_ 1 _ rfl
   clear Q_
   clear hM0
   refine wpOp_step rfl fun K hK=>?_
   go_simp
   exact hK _ _ ⟨rfl,hM⟩
  ·cases ho9
   have r1:=hD.old 1 _ rfl rfl
   refine wpOp_step rfl fun K hK=>?_
   go_simp
   exact hK _ _ ⟨rfl,hM⟩
  ·cases ho9
   have r26:=hD.od hd9 0 26 _ rfl (by simp)
   have r27:=hD.od hd9 1 27 _ rfl (by simp)
   refine wpOp_step rfl fun K hK=>?_
   go_simp
   go_wp2_with fail
   refine (HP _).mono ?_
   rintro en w9 ⟨rfl,hb9⟩
   exact hK _ _ ⟨rfl,hM.kept hb9⟩
  ·cases ho9
   have r28:=hD.od hd9 2 28 _ rfl (by simp)
   refine wpOp_step rfl fun K hK=>?_
   go_simp
   go_wp2_with fail
   refine (HX _).mono ?_
   rintro en w9 ⟨rfl,hb9⟩
   exact hK _ _ ⟨rfl,hM.kept hb9⟩
  ·cases ho9
   have r3:=hD.old 3 _ rfl rfl
   have hM0:=hM
   have Q_:=hM0.cellAt (b:=w.heap.size) (cs:=#[.int .i64 E,.int .i64 F]) (t:=23) (by simp)
   have c9_0:=Q_ 0 _ rfl
   have c9_1:=Q_ 1 _ rfl
   clear Q_
   clear hM0
   refine wpOp_step rfl fun K hK=>?_
   go_simp
   exact hK _ _ ⟨rfl,hM⟩
  ·cases ho9
   have r2:=hD.old 2 _ rfl rfl
   refine wpOp_step rfl fun K hK=>?_
   go_simp
   exact hK _ _ ⟨rfl,hM⟩
  ·cases ho9
   have r30:=hD.od hd9 4 30 _ rfl (by simp)
   have r31:=hD.od hd9 5 31 _ rfl (by simp)
   refine wpOp_step rfl fun K hK=>?_
   go_simp
   go_wp2_with fail
   refine (HQ _).mono ?_
   rintro en w9 ⟨rfl,hb9⟩
   exact hK _ _ ⟨rfl,hM.kept hb9⟩
  ·cases ho9
   have r32:=hD.od hd9 6 32 _ rfl (by simp)
   refine wpOp_step rfl fun K hK=>?_
   go_simp
   go_wp2_with fail
   refine (HY _).mono ?_
   rintro en w9 ⟨rfl,hb9⟩
   exact hK _ _ ⟨rfl,hM.kept hb9⟩
  ·cases ho9
   have r29:=hD.od hd9 3 29 _ rfl (by simp)
   refine wpOp_step rfl fun K hK=>?_
   go_simp
   exact hK _ _ ⟨rfl,hM⟩
  ·cases ho9
   have r33:=hD.od hd9 7 33 _ rfl (by simp)
   refine wpOp_step rfl fun K hK=>?_
   go_simp
   exact hK _ _ ⟨rfl,hM⟩
 ·intro l9 W9 hl9 hM
  clear hS yc yd
  have hS:=hM
  clear hM
  simp only [Puts.lay,List.setIfInBounds_toArray,List.set_cons_zero,List.set_cons_succ]
  obtain ⟨⟨ye,yf,-⟩,-⟩:=hS.cells
  go_wp2
  go_ret3
  exact ⟨by show Ending.returned (.tuple #[.bool (decide (y < x)),_,_]) = _; rw [decide_eq_false (show ¬ y < x by omega)]; rfl,hS.fr⟩
end Go.Proofs.YtaidedkpfnidpaaGreatDoor
