/- Of what LexDigitsRow stands on: Trim Base Check Nums PutNum. -/
import Derived.Test.YtkcpkbnhlcdacaaGreatDoorProg
import Derived.WalkKit
import Derived.WalkSpells
import Derived.WalkLawsBesides
import Derived.Test.YtkcpkbnhlcdacaaGreatDoorPac
import Derived.Test.YtkcpkbnhlcdacaaGreatDoorPaa
namespace Go.Proofs.YtkcpkbnhlcdacaaGreatDoor
open Go.RowKit
def Lim (w:World) (a:Option Addr) (xs:List Nat):Prop:=
 xs = []∨∃ b off,a = some ⟨b,off,none⟩∧∀ j,j < xs.length→w.cell? ⟨b,off+j,none⟩ = some (.int .u32 ((xs[j]?.getD 0:Nat):Int))
theorem Lim.parts {w:World} {a:Option Addr} {xs:List Nat} (h:Lim w a xs) :
  xs = []∨(0 < xs.length∧∃ b off,a = some ⟨b,off,none⟩∧b < w.heap.size∧∀ j,j < xs.length→w.cell? ⟨b,off+j,none⟩ = some (.int .u32 ((xs[j]?.getD 0:Nat):Int))):=by
 rcases h with h|⟨b,off,ha,hc⟩
 ·exact Or.inl h
 ·by_cases hx:xs = []
  ·exact Or.inl hx
  ·have hp:0 < xs.length:=List.length_pos_iff.2 hx
   exact Or.inr ⟨hp,b,off,ha,World.block_lt_of_cell? w ⟨b,off+0,none⟩ (hc 0 hp),hc⟩
theorem Lim.below {w w':World} {a:Option Addr} {xs:List Nat} (h:Lim w a xs) (hb:Below w.heap.size w w'):Lim w' a xs:=by
 rcases h.parts with h|⟨_,b,off,ha,hlt,hc⟩
 ·exact Or.inl h
 ·exact Or.inr ⟨b,off,ha,fun j hj=>(hb.cell (by exact hlt)).trans (hc j hj)⟩
theorem Lim.alloc {w:World} {a:Option Addr} {xs:List Nat} (h:Lim w a xs) (o:Obj):Lim (w.alloc o) a xs:=h.below ((Below.refl _ _).alloc (Nat.le_refl _) o)
def Own (w:World) (base:Nat) (v:Value) (xs:List Nat):Prop:=
 (v = .slice none 0 0∧xs = []) ∨
 ∃ g cap cur,v = .slice (some ⟨g,0,none⟩) xs.length cap∧base≤g∧w.heap[g]? = some (.cells cur 95 (0,0))∧xs.length≤cap∧cap≤cur.size∧cap≤9223372036854775807 ∧
  ∀ j,j < xs.length→cur[j]? = some (.int .u32 ((xs[j]?.getD 0:Nat):Int))
theorem Own.lim {w:World} {base:Nat} {v:Value} {xs:List Nat} (h:Own w base v xs) :
  ∃ a cap,v = .slice a xs.length cap∧xs.length≤cap∧cap≤9223372036854775807∧Lim w a xs:=by
 rcases h with ⟨rfl,rfl⟩|⟨g,cap,cur,rfl,hg,hh,h1,h2,h3,hc⟩
 ·exact ⟨none,0,rfl,Nat.le_refl _,by omega,Or.inl rfl⟩
 ·exact ⟨_,cap,rfl,h1,by omega,Or.inr ⟨g,0,rfl,fun j hj=>by rw [Nat.zero_add,cell_of_row w g j cur _ _ hh]; exact hc j hj⟩⟩
theorem Own.kept {w w':World} {base:Nat} {v:Value} {xs:List Nat} (h:Own w base v xs) (hb:Below w.heap.size w w'):Own w' base v xs:=by
 rcases h with h|⟨g,cap,cur,rfl,hg,hh,r⟩
 ·exact Or.inl h
 ·have hlt:g < w.heap.size:=by
   by_cases hlt:g < w.heap.size
   ·exact hlt
   ·rw [Array.getElem?_eq_none (by omega)] at hh; cases hh
  exact Or.inr ⟨g,cap,cur,rfl,hg,by rw [hb.block g hlt]; exact hh,r⟩
theorem Own.mono {w:World} {base base':Nat} {v:Value} {xs:List Nat} (h:Own w base v xs) (hb:base'≤base):Own w base' v xs:=by
 rcases h with h|⟨g,cap,cur,rfl,hg,r⟩
 ·exact Or.inl h
 ·exact Or.inr ⟨g,cap,cur,rfl,by omega,r⟩
def lc (zs:List Nat):Array Value:=(zs.map (fun z:Nat=>Value.int .u32 (z:Int))).toArray
def Row (w:World) (B:Nat) (zs:List Nat):Prop:=∃ tl:Array Value,w.heap[B]? = some (.cells (lc zs ++ tl) 95 (0,0))
theorem size_lc (zs:List Nat):(lc zs).size = zs.length:=by simp [lc]
theorem lc_at (zs:List Nat) (j:Nat) (h:j < zs.length):(lc zs)[j]? = some (.int .u32 ((zs[j]?.getD 0:Nat):Int)):=by simp [lc,h]
theorem lc_set (zs:List Nat) (j v:Nat):(lc zs).setIfInBounds j (.int .u32 (v:Int)) = lc (zs.set j v):=by
 simp [lc,List.setIfInBounds_toArray,List.map_set]
theorem lc_at' (zs:List Nat) (tl:Array Value) (j:Nat) (h:j < zs.length):(lc zs ++ tl)[j]? = some (.int .u32 ((zs[j]?.getD 0:Nat):Int)):=by
 rw [Array.getElem?_append_left (by rw [size_lc]; exact h),lc_at zs j h]
theorem Row.cell {w:World} {B:Nat} {zs:List Nat} (h:Row w B zs) (j:Nat) (hj:j < zs.length):w.cell? ⟨B,j,none⟩ = some (.int .u32 ((zs[j]?.getD 0:Nat):Int)):=by
 obtain ⟨tl,h⟩:=h
 rw [cell_of_row w B j _ _ _ h,lc_at' zs tl j hj]
theorem Row.frozen {w:World} {B:Nat} {zs:List Nat} (h:Row w B zs) (j:Nat):w.frozen? ⟨B,j,none⟩ = false:=by
 obtain ⟨tl,h⟩:=h
 exact frozen_of_row w B j _ _ h
theorem Row.set {w:World} {B:Nat} {zs:List Nat} (h:Row w B zs) (j v:Nat) (hj:j < zs.length):Row (w.setCell ⟨B,j,none⟩ (.int .u32 (v:Int))) B (zs.set j v):=by
 obtain ⟨tl,h⟩:=h
 refine ⟨tl,?_⟩
 rw [heap_setCell_same w B j _ _ _ h,Array.setIfInBounds_append_left (by rw [size_lc]; exact hj),lc_set]
theorem Row.lt {w:World} {B:Nat} {zs:List Nat} (h:Row w B zs):B < w.heap.size:=by
 obtain ⟨tl,h⟩:=h
 by_cases hlt:B < w.heap.size
 ·exact hlt
 ·rw [Array.getElem?_eq_none (by omega)] at h; cases h
structure Only (B:Nat) (w w':World):Prop where
 os:w'.os = w.os
 tape:w'.tape = w.tape
 output:w'.output = w.output
 size:w'.heap.size = w.heap.size
 block:∀ k,k≠B→w'.heap[k]? = w.heap[k]?
theorem Only.refl (B:Nat) (w:World):Only B w w:=⟨rfl,rfl,rfl,rfl,fun _ _=>rfl⟩
theorem Only.trans {B:Nat} {a b c:World} (h:Only B a b) (k:Only B b c):Only B a c:=
 ⟨k.os.trans h.os,k.tape.trans h.tape,k.output.trans h.output,k.size.trans h.size,fun i hi=>(k.block i hi).trans (h.block i hi)⟩
theorem Only.setCell {B:Nat} {a w:World} (h:Only B a w) (j:Nat) (u:Value):Only B a (w.setCell ⟨B,j,none⟩ u):=
 h.trans ⟨rfl,rfl,rfl,by simp [World.setCell],fun k hk=>heap_setCell_other w _ k u hk⟩
theorem Only.drew {B:Nat} {a w:World} (h:Only B a w):Only B a w.drew:=⟨h.os,h.tape,h.output,h.size,h.block⟩
theorem Only.cell {B:Nat} {w w':World} (h:Only B w w') {p:Addr} (hp:p.block≠B):w'.cell? p = w.cell? p:=World.cell?_of_block (w:=w) (h.block p.block hp)
theorem Only.frozen {B:Nat} {w w':World} (h:Only B w w') {p:Addr} (hp:p.block≠B):w'.frozen? p = w.frozen? p:=World.frozen?_of_block (w:=w) (h.block p.block hp)
theorem Only.below {B:Nat} {a w w':World} (h:Below a.heap.size a w) (k:Only B w w') (hB:a.heap.size≤B):Below a.heap.size a w':=
 h.trans ⟨k.os,k.tape,k.output,Nat.le_of_eq k.size.symm,fun i hi=>k.block i (by omega)⟩
theorem Only.lim {B:Nat} {w w':World} {a:Option Addr} {xs:List Nat} (k:Only B w w') (h:Lim w a xs) (hne:∀ b off,a = some ⟨b,off,none⟩→b≠B):Lim w' a xs:=by
 rcases h with h|⟨b,off,ha,hc⟩
 ·exact Or.inl h
 ·exact Or.inr ⟨b,off,ha,fun j hj=>(k.cell (hne b off ha)).trans (hc j hj)⟩
theorem Row.kept {w w':World} {B:Nat} {zs:List Nat} (h:Row w B zs) (hb:Below w.heap.size w w'):Row w' B zs:=by
 have hl:=h.lt
 obtain ⟨tl,h⟩:=h
 exact ⟨tl,by rw [hb.block B hl]; exact h⟩
theorem Row.own {w:World} {B base:Nat} {zs:List Nat} (h:Row w B zs) (hB:base≤B) (n cap:Nat) (hn:n≤cap) (hcap:cap≤zs.length) (hz:zs.length≤9223372036854775807):Own w base (.slice (some ⟨B,0,none⟩) n cap) (zs.take n):=by
 have e:(zs.take n).length = n:=by rw [List.length_take]; omega
 obtain ⟨tl,h⟩:=h
 refine Or.inr ⟨B,cap,lc zs ++ tl,by rw [e],hB,h,by omega,by rw [Array.size_append,size_lc]; omega,by omega,fun j hj=>?_⟩
 rw [e] at hj
 rw [lc_at' zs tl j (by omega),List.getElem?_take,if_pos hj]
theorem Tryz.info_limb:(Tryz.prog.info? 95).map (fun i=>(i.zero,i.size,i.bytes)) = some (some (.int .u32 0),1,4):=by kernel_rfl
theorem Tryz.under_limbs:Tryz.prog.underlying 28 = some (.slice 95):=by kernel_rfl
theorem Row.only {w w':World} {B C:Nat} {zs:List Nat} (h:Row w B zs) (k:Only C w w') (hne:B≠C):Row w' B zs:=by
 obtain ⟨tl,h⟩:=h
 exact ⟨tl,by rw [k.block B hne]; exact h⟩
theorem Own.set {w:World} {base:Nat} {v:Value} {xs:List Nat} (h:Own w base v xs) {p:Addr} (hp:p.block < base) (u:Value):Own (w.setCell p u) base v xs:=by
 rcases h with h|⟨g,cap,cur,rfl,hg,hh,r⟩
 ·exact Or.inl h
 ·exact Or.inr ⟨g,cap,cur,rfl,hg,by rw [heap_setCell_other w p g u (by omega)]; exact hh,r⟩
def Num (w:World) (a:Option Addr) (n m:Nat):Prop:=∃ xs,xs.length = n∧Lim w a xs∧Pl.Wf xs∧Pl.Norm xs∧Pl.val xs = m∧n≤16384
def Mine (w:World) (base:Nat) (a:Option Addr) (n cap m:Nat):Prop:=∃ xs,xs.length = n∧Own w base (.slice a n cap) xs∧Pl.Wf xs∧Pl.Norm xs∧Pl.val xs = m∧n≤16384
theorem Mine.num {w:World} {base:Nat} {a:Option Addr} {n cap m:Nat} (h:Mine w base a n cap m):Num w a n m:=by
 obtain ⟨xs,hn,ho,hw,hN,hv,hl⟩:=h
 obtain ⟨a',cap',e,_,_,hlim⟩:=ho.lim
 injection e with e1 e2 e3
 exact ⟨xs,hn,by rw [e1]; exact hlim,hw,hN,hv,hl⟩
theorem Mine.kept {w w':World} {base:Nat} {a:Option Addr} {n cap m:Nat} (h:Mine w base a n cap m) (hb:Below w.heap.size w w'):Mine w' base a n cap m:=by
 obtain ⟨xs,hn,ho,r⟩:=h
 exact ⟨xs,hn,ho.kept hb,r⟩
theorem Mine.mono {w:World} {base base':Nat} {a:Option Addr} {n cap m:Nat} (h:Mine w base a n cap m) (hb:base'≤base):Mine w base' a n cap m:=by
 obtain ⟨xs,hn,ho,r⟩:=h
 exact ⟨xs,hn,ho.mono hb,r⟩
theorem Mine.set {w:World} {base:Nat} {a:Option Addr} {n cap m:Nat} (h:Mine w base a n cap m) {p:Addr} (hp:p.block < base) (u:Value):Mine (w.setCell p u) base a n cap m:=by
 obtain ⟨xs,hn,ho,r⟩:=h
 exact ⟨xs,hn,ho.set hp u,r⟩
theorem Num.kept {w w':World} {a:Option Addr} {n m:Nat} (h:Num w a n m) (hb:Below w.heap.size w w'):Num w' a n m:=by
 obtain ⟨xs,hn,hl,r⟩:=h
 exact ⟨xs,hn,hl.below hb,r⟩
theorem Num.len {w:World} {a:Option Addr} {n m:Nat} (h:Num w a n m):n≤16384:=by
 obtain ⟨xs,_,_,_,_,_,hl⟩:=h; exact hl
theorem Num.zero {w:World} {a:Option Addr} {n m:Nat} (h:Num w a n m):n = 0↔m = 0:=by
 obtain ⟨xs,hn,_,hw,hN,hv,_⟩:=h
 constructor
 ·intro e; have:xs = []:=List.length_eq_zero_iff.1 (by omega); rw [← hv,this]; rfl
 ·intro e; have:=Pl.norm_zero hN (by omega); rw [← hn,this]; rfl
theorem Num.lt {w:World} {a:Option Addr} {n m:Nat} (h:Num w a n m):m < 4294967296 ^ Pl.top:=by
 obtain ⟨xs,hn,_,hw,hN,hv,hl⟩:=h
 rw [← hv]; exact (Pl.val_le_len hw hN Pl.top).1 (by rw [Pl.top_eq]; omega)
theorem Num.same {w w':World} {a a':Option Addr} {n n' m:Nat} (h:Num w a n m) (k:Num w' a' n' m):n = n':=by
 obtain ⟨xs,hn,_,hw,hN,hv,_⟩:=h
 obtain ⟨ys,hn',_,hw',hN',hv',_⟩:=k
 have:=Pl.val_inj hw hw' hN hN' (by omega)
 rw [← hn,← hn',this]
def Box (w:World) (p:Nat) (v:Value):Prop:=w.heap[p]? = some (.cells #[v] 30 (0,0))
theorem Box.cell {w:World} {p:Nat} {v:Value} (h:Box w p v):w.cell? ⟨p,0,none⟩ = some v:=by rw [cell_of_row w p 0 _ _ _ h]; rfl
theorem Box.frozen {w:World} {p:Nat} {v:Value} (h:Box w p v):w.frozen? ⟨p,0,none⟩ = false:=frozen_of_row w p 0 _ _ h
theorem Box.lt {w:World} {p:Nat} {v:Value} (h:Box w p v):p < w.heap.size:=by
 by_cases hlt:p < w.heap.size
 ·exact hlt
 ·unfold Box at h; rw [Array.getElem?_eq_none (by omega)] at h; cases h
theorem Box.kept {w w':World} {p:Nat} {v:Value} (h:Box w p v) (hb:Below w.heap.size w w'):Box w' p v:=by
 unfold Box; rw [hb.block p h.lt]; exact h
theorem Box.alloc {w:World} {p:Nat} {v:Value} (h:Box w p v) (o:Obj):Box (w.alloc o) p v:=h.kept (gr_alloc _ _)
theorem Box.set {w:World} {p:Nat} {v:Value} (h:Box w p v) (u:Value):Box (w.setCell ⟨p,0,none⟩ u) p u:=by
 unfold Box; rw [heap_setCell_same w p 0 _ _ _ h]; rfl
theorem Num.alloc {w:World} {a:Option Addr} {n m:Nat} (h:Num w a n m) (o:Obj):Num (w.alloc o) a n m:=h.kept (gr_alloc _ _)
theorem Mine.alloc {w:World} {base:Nat} {a:Option Addr} {n cap m:Nat} (h:Mine w base a n cap m) (o:Obj):Mine (w.alloc o) base a n cap m:=h.kept (gr_alloc _ _)
structure Over (m:Nat):Prop where
 le:4294967296 ^ Pl.top≤m
def Ans (w:World) (base:Nat) (e:Ending) (m:Nat):Prop:=
 (∃ a n cap,e = .returned (.tuple #[.agg #[.slice a n cap],.int .i64 0])∧Mine w base a n cap m) ∨
 (e = .returned (.tuple #[.agg #[.slice none 0 0],.int .i64 4])∧Over m)
theorem Ans.kept {w w':World} {base base':Nat} {e:Ending} {m:Nat} (h:Ans w base e m) (hb:Below w.heap.size w w') (hB:base'≤base):Ans w' base' e m:=by
 rcases h with ⟨a,n,cap,rfl,h⟩|h
 ·exact Or.inl ⟨a,n,cap,rfl,(h.kept hb).mono hB⟩
 ·exact Or.inr h
def NoLimb (l:List Value):Prop:=∀ v,v∈l→∀ z,v≠.int .u32 z
def noLimb:List Value→Bool
 | []=>true
 | .int .u32 _ :: _=>false
 | _ :: r=>noLimb r
theorem noLimb_of:∀ (l:List Value),noLimb l = true→NoLimb l
 | [],_=>fun _ h=>nomatch h
 | v :: r,h=>by
  have hr:noLimb r = true∧∀ z,v≠.int .u32 z:=by
   unfold noLimb at h
   split at h
   ·rename_i e; cases e
   ·cases h
   ·rename_i x y hx hy
    injection hy with e1 e2
    subst e1; subst e2
    exact ⟨h,fun z e=>hx z e⟩
  intro u hu z
  rcases List.mem_cons.1 hu with rfl|hu
  ·exact hr.2 z
  ·exact noLimb_of r hr.1 u hu z
theorem Lim.put {W:World} {a:Option Addr} {xs:List Nat} (h:Lim W a xs) {b:Nat} {cs:Array Value} {t:TypeId} (hb:W.heap[b]? = some (.cells cs t (0,0))) (hl:NoLimb cs.toList) (j:Nat) (u:Value):Lim (W.setCell ⟨b,j,none⟩ u) a xs:=by
 rcases h.parts with h|⟨hp,g,off,ha,hlt,hc⟩
 ·exact Or.inl h
 ·have hne:g≠b:=by
   rintro rfl
   have h0:=hc 0 hp
   rw [cell_of_row W g (off+0) _ _ _ hb] at h0
   have h1:Value.int .u32 ((xs[0]?.getD 0:Nat):Int)∈cs.toList:=by
    have:=Array.mem_of_getElem? h0
    exact Array.mem_def.1 this
   exact hl _ h1 _ rfl
  refine Or.inr ⟨g,off,ha,fun j' hj=>?_⟩
  rw [World.cell?_of_block (w:=W) (heap_setCell_other W _ g u hne)]
  exact hc j' hj
theorem Num.put {W:World} {a:Option Addr} {n m:Nat} (h:Num W a n m) {b:Nat} {cs:Array Value} {t:TypeId} (hb:W.heap[b]? = some (.cells cs t (0,0))) (hl:NoLimb cs.toList) (j:Nat) (u:Value):Num (W.setCell ⟨b,j,none⟩ u) a n m:=by
 obtain ⟨xs,hn,hl',r⟩:=h
 exact ⟨xs,hn,hl'.put hb hl j u,r⟩
theorem Mine.put {W:World} {base:Nat} {a:Option Addr} {n c m:Nat} (h:Mine W base a n c m) {b:Nat} {cs:Array Value} {t:TypeId} (hb:W.heap[b]? = some (.cells cs t (0,0))) (ht:t≠95) (j:Nat) (u:Value):Mine (W.setCell ⟨b,j,none⟩ u) base a n c m:=by
 obtain ⟨xs,hn,ho,r⟩:=h
 refine ⟨xs,hn,?_,r⟩
 rcases ho with ho|⟨g,cap,cur,e,hg,hh,q⟩
 ·exact Or.inl ho
 ·have hne:g≠b:=by
   rintro rfl
   rw [hh] at hb
   injection hb with hb
   injection hb with _ hb
   exact ht hb.symm
  exact Or.inr ⟨g,cap,cur,e,hg,by rw [heap_setCell_other W _ g u hne]; exact hh,q⟩
end Go.Proofs.YtkcpkbnhlcdacaaGreatDoor
