/- Of what ExactBitsRow stands on: Trim Base Check Nums AddTimes Multiply ShiftUp ShiftDown RefCheck RefTrim Low PAns. -/
import Derived.Test.YtjemjhaphannaaaProg
import Derived.WalkKit
import Derived.WalkSpells
import Derived.WalkLawsBesides
import Derived.Test.YtjemjhaphannaaaPae
import Derived.Test.YtjemjhaphannaaaPab
namespace Go.Proofs.Ytjemjhaphannaaa
open Go.RowKit
end Go.Proofs.Ytjemjhaphannaaa
namespace Go.Proofs.Ytjemjhaphannaaa
open Go.RowKit
def Lim (w : World) (a : Option Addr) (xs : List Nat) : Prop :=
 xs = [] ∨ ∃ b off,a = some ⟨b,off,none⟩ ∧ ∀ j,j < xs.length → w.cell? ⟨b,off + j,none⟩ = some (.int .u32 ((xs[j]?.getD 0 : Nat) : Int))
theorem Lim.parts {w : World} {a : Option Addr} {xs : List Nat} (h : Lim w a xs) :
  xs = [] ∨ (0 < xs.length ∧ ∃ b off,a = some ⟨b,off,none⟩ ∧ b < w.heap.size ∧ ∀ j,j < xs.length → w.cell? ⟨b,off + j,none⟩ = some (.int .u32 ((xs[j]?.getD 0 : Nat) : Int))) := by
 rcases h with h | ⟨b,off,ha,hc⟩
 ·exact Or.inl h
 ·by_cases hx : xs = []
  ·exact Or.inl hx
  ·have hp : 0 < xs.length := List.length_pos_iff.2 hx
   exact Or.inr ⟨hp,b,off,ha,World.block_lt_of_cell? w ⟨b,off + 0,none⟩ (hc 0 hp),hc⟩
theorem Lim.below {w w' : World} {a : Option Addr} {xs : List Nat} (h : Lim w a xs) (hb : Below w.heap.size w w') : Lim w' a xs := by
 rcases h.parts with h | ⟨_,b,off,ha,hlt,hc⟩
 ·exact Or.inl h
 ·exact Or.inr ⟨b,off,ha,fun j hj => (hb.cell (by exact hlt)).trans (hc j hj)⟩
theorem Lim.alloc {w : World} {a : Option Addr} {xs : List Nat} (h : Lim w a xs) (o : Obj) : Lim (w.alloc o) a xs := h.below ((Below.refl _ _).alloc (Nat.le_refl _) o)
def Own (w : World) (base : Nat) (v : Value) (xs : List Nat) : Prop :=
 (v = .slice none 0 0 ∧ xs = []) ∨
 ∃ g cap cur,v = .slice (some ⟨g,0,none⟩) xs.length cap ∧ base ≤ g ∧ w.heap[g]? = some (.cells cur 57 (0,0)) ∧ xs.length ≤ cap ∧ cap ≤ cur.size ∧ cap ≤ 9223372036854775807 ∧
  ∀ j,j < xs.length → cur[j]? = some (.int .u32 ((xs[j]?.getD 0 : Nat) : Int))
theorem Own.lim {w : World} {base : Nat} {v : Value} {xs : List Nat} (h : Own w base v xs) :
  ∃ a cap,v = .slice a xs.length cap ∧ xs.length ≤ cap ∧ cap ≤ 9223372036854775807 ∧ Lim w a xs := by
 rcases h with ⟨rfl,rfl⟩ | ⟨g,cap,cur,rfl,hg,hh,h1,h2,h3,hc⟩
 ·exact ⟨none,0,rfl,Nat.le_refl _,by omega,Or.inl rfl⟩
 ·exact ⟨_,cap,rfl,h1,by omega,Or.inr ⟨g,0,rfl,fun j hj => by rw [Nat.zero_add,cell_of_row w g j cur _ _ hh]; exact hc j hj⟩⟩
theorem Own.kept {w w' : World} {base : Nat} {v : Value} {xs : List Nat} (h : Own w base v xs) (hb : Below w.heap.size w w') : Own w' base v xs := by
 rcases h with h | ⟨g,cap,cur,rfl,hg,hh,r⟩
 ·exact Or.inl h
 ·have hlt : g < w.heap.size := by
   by_cases hlt : g < w.heap.size
   ·exact hlt
   ·rw [Array.getElem?_eq_none (by omega)] at hh; cases hh
  exact Or.inr ⟨g,cap,cur,rfl,hg,by rw [hb.block g hlt]; exact hh,r⟩
theorem Own.mono {w : World} {base base' : Nat} {v : Value} {xs : List Nat} (h : Own w base v xs) (hb : base' ≤ base) : Own w base' v xs := by
 rcases h with h | ⟨g,cap,cur,rfl,hg,r⟩
 ·exact Or.inl h
 ·exact Or.inr ⟨g,cap,cur,rfl,by omega,r⟩
theorem ret_int {k : IntKind} {a b : Int} (h : a = b) : Ending.returned (.int k a) = .returned (.int k b) := by rw [h]
theorem ret_bool {a b : Bool} (h : a = b) : Ending.returned (.bool a) = .returned (.bool b) := by rw [h]
def lc (zs : List Nat) : Array Value := (zs.map (fun z : Nat => Value.int .u32 (z : Int))).toArray
def Row (w : World) (B : Nat) (zs : List Nat) : Prop := ∃ tl : Array Value,w.heap[B]? = some (.cells (lc zs ++ tl) 57 (0,0))
theorem size_lc (zs : List Nat) : (lc zs).size = zs.length := by simp [lc]
theorem lc_at (zs : List Nat) (j : Nat) (h : j < zs.length) : (lc zs)[j]? = some (.int .u32 ((zs[j]?.getD 0 : Nat) : Int)) := by simp [lc,h]
theorem lc_set (zs : List Nat) (j v : Nat) : (lc zs).setIfInBounds j (.int .u32 (v : Int)) = lc (zs.set j v) := by
 simp [lc,List.setIfInBounds_toArray,List.map_set]
theorem lc_at' (zs : List Nat) (tl : Array Value) (j : Nat) (h : j < zs.length) : (lc zs ++ tl)[j]? = some (.int .u32 ((zs[j]?.getD 0 : Nat) : Int)) := by
 rw [Array.getElem?_append_left (by rw [size_lc]; exact h),lc_at zs j h]
theorem Row.cell {w : World} {B : Nat} {zs : List Nat} (h : Row w B zs) (j : Nat) (hj : j < zs.length) : w.cell? ⟨B,j,none⟩ = some (.int .u32 ((zs[j]?.getD 0 : Nat) : Int)) := by
 obtain ⟨tl,h⟩ := h
 rw [cell_of_row w B j _ _ _ h,lc_at' zs tl j hj]
theorem Row.frozen {w : World} {B : Nat} {zs : List Nat} (h : Row w B zs) (j : Nat) : w.frozen? ⟨B,j,none⟩ = false := by
 obtain ⟨tl,h⟩ := h
 exact frozen_of_row w B j _ _ h
theorem Row.set {w : World} {B : Nat} {zs : List Nat} (h : Row w B zs) (j v : Nat) (hj : j < zs.length) : Row (w.setCell ⟨B,j,none⟩ (.int .u32 (v : Int))) B (zs.set j v) := by
 obtain ⟨tl,h⟩ := h
 refine ⟨tl,?_⟩
 rw [heap_setCell_same w B j _ _ _ h,Array.setIfInBounds_append_left (by rw [size_lc]; exact hj),lc_set]
theorem Row.lt {w : World} {B : Nat} {zs : List Nat} (h : Row w B zs) : B < w.heap.size := by
 obtain ⟨tl,h⟩ := h
 by_cases hlt : B < w.heap.size
 ·exact hlt
 ·rw [Array.getElem?_eq_none (by omega)] at h; cases h
structure Only (B : Nat) (w w' : World) : Prop where
 os : w'.os = w.os
 tape : w'.tape = w.tape
 output : w'.output = w.output
 size : w'.heap.size = w.heap.size
 block : ∀ k,k ≠ B → w'.heap[k]? = w.heap[k]?
theorem Only.refl (B : Nat) (w : World) : Only B w w := ⟨rfl,rfl,rfl,rfl,fun _ _ => rfl⟩
theorem Only.trans {B : Nat} {a b c : World} (h : Only B a b) (k : Only B b c) : Only B a c :=
 ⟨k.os.trans h.os,k.tape.trans h.tape,k.output.trans h.output,k.size.trans h.size,fun i hi => (k.block i hi).trans (h.block i hi)⟩
theorem Only.setCell {B : Nat} {a w : World} (h : Only B a w) (j : Nat) (u : Value) : Only B a (w.setCell ⟨B,j,none⟩ u) :=
 h.trans ⟨rfl,rfl,rfl,by simp [World.setCell],fun k hk => heap_setCell_other w _ k u hk⟩
theorem Only.drew {B : Nat} {a w : World} (h : Only B a w) : Only B a w.drew := ⟨h.os,h.tape,h.output,h.size,h.block⟩
theorem Only.cell {B : Nat} {w w' : World} (h : Only B w w') {p : Addr} (hp : p.block ≠ B) : w'.cell? p = w.cell? p := World.cell?_of_block (w := w) (h.block p.block hp)
theorem Only.frozen {B : Nat} {w w' : World} (h : Only B w w') {p : Addr} (hp : p.block ≠ B) : w'.frozen? p = w.frozen? p := World.frozen?_of_block (w := w) (h.block p.block hp)
theorem Only.below {B : Nat} {a w w' : World} (h : Below a.heap.size a w) (k : Only B w w') (hB : a.heap.size ≤ B) : Below a.heap.size a w' :=
 h.trans ⟨k.os,k.tape,k.output,Nat.le_of_eq k.size.symm,fun i hi => k.block i (by omega)⟩
theorem Only.lim {B : Nat} {w w' : World} {a : Option Addr} {xs : List Nat} (k : Only B w w') (h : Lim w a xs) (hne : ∀ b off,a = some ⟨b,off,none⟩ → b ≠ B) : Lim w' a xs := by
 rcases h with h | ⟨b,off,ha,hc⟩
 ·exact Or.inl h
 ·exact Or.inr ⟨b,off,ha,fun j hj => (k.cell (hne b off ha)).trans (hc j hj)⟩
theorem Row.kept {w w' : World} {B : Nat} {zs : List Nat} (h : Row w B zs) (hb : Below w.heap.size w w') : Row w' B zs := by
 have hl := h.lt
 obtain ⟨tl,h⟩ := h
 exact ⟨tl,by rw [hb.block B hl]; exact h⟩
theorem Row.own {w : World} {B base : Nat} {zs : List Nat} (h : Row w B zs) (hB : base ≤ B) (n cap : Nat) (hn : n ≤ cap) (hcap : cap ≤ zs.length) (hz : zs.length ≤ 9223372036854775807) : Own w base (.slice (some ⟨B,0,none⟩) n cap) (zs.take n) := by
 have e : (zs.take n).length = n := by rw [List.length_take]; omega
 obtain ⟨tl,h⟩ := h
 refine Or.inr ⟨B,cap,lc zs ++ tl,by rw [e],hB,h,by omega,by rw [Array.size_append,size_lc]; omega,by omega,fun j hj => ?_⟩
 rw [e] at hj
 rw [lc_at' zs tl j (by omega),List.getElem?_take,if_pos hj]
theorem Row.prefix {w : World} {B : Nat} {zs : List Nat} (h : Row w B zs) (n : Nat) : Row w B (zs.take n) := by
 obtain ⟨tl,h⟩ := h
 refine ⟨lc (zs.drop n) ++ tl,?_⟩
 rw [h,← Array.append_assoc]
 have e : lc (zs.take n) ++ lc (zs.drop n) = lc zs := by
  simp only [lc,List.append_toArray,← List.map_append,List.take_append_drop]
 rw [e]
theorem Try.info_limb : (Try.prog.info? 57).map (fun i => (i.zero,i.size,i.bytes)) = some (some (.int .u32 0),1,4) := by kernel_rfl
theorem Try.under_limbs : Try.prog.underlying 24 = some (.slice 57) := by kernel_rfl
theorem Row.made (w : World) (zs : List Nat) : Row (w.alloc (.cells (lc zs) 57)) w.heap.size zs := ⟨#[],by rw [Array.append_empty]; exact heap_alloc_new w _⟩
theorem Row.only {w w' : World} {B C : Nat} {zs : List Nat} (h : Row w B zs) (k : Only C w w') (hne : B ≠ C) : Row w' B zs := by
 obtain ⟨tl,h⟩ := h
 exact ⟨tl,by rw [k.block B hne]; exact h⟩
theorem Own.set {w : World} {base : Nat} {v : Value} {xs : List Nat} (h : Own w base v xs) {p : Addr} (hp : p.block < base) (u : Value) : Own (w.setCell p u) base v xs := by
 rcases h with h | ⟨g,cap,cur,rfl,hg,hh,r⟩
 ·exact Or.inl h
 ·exact Or.inr ⟨g,cap,cur,rfl,hg,by rw [heap_setCell_other w p g u (by omega)]; exact hh,r⟩
theorem or_limb (r x : Nat) (hr : r < 4294967296) (hx : x < 4294967296) : Go.bits .or .u64 ((r : Int) * 4294967296) (x : Int) = (r : Int) * 4294967296 + (x : Int) := by
 have h := bits_or_u64_nat (r * 4294967296) x (by omega) (by omega)
 have e : r * 4294967296 ||| x = r * 4294967296 + x := by
  have := Nat.two_pow_add_eq_or_of_lt (i := 32) (b := x) (by omega) r
  rw [Nat.mul_comm r 4294967296]; exact this.symm
 rw [e] at h
 rw [show ((r : Int) * 4294967296) = ((r * 4294967296 : Nat) : Int) by omega,h]
 omega
end Go.Proofs.Ytjemjhaphannaaa
namespace Go.Proofs.Ytjemjhaphannaaa
open Go.RowKit
def chk (xs : List Nat) : Int := if 16384 < xs.length then 4 else if 0 < xs.length ∧ xs[xs.length - 1]?.getD 0 = 0 then 10 else 0
theorem chk_ok {xs : List Nat} (h : xs.length ≤ 16384) (hn : Pl.Norm xs) : chk xs = 0 := by
 unfold chk
 rw [if_neg (by omega),if_neg]
 rintro ⟨h1,h2⟩
 exact Pl.norm_last hn h1 h2
set_option maxHeartbeats 400000 in
theorem check_any (a : Option Addr) (cap : Nat) (xs : List Nat) (w : World) (hbig : xs.length ≤ 9223372036854775807) (hl : Lim w a xs) :
  Calls Try.prog 21 #[.agg #[.slice a xs.length cap]] w fun e w' => e = .returned (.int .i64 (chk xs)) ∧ Below w.heap.size w w' := by
 rcases hl.parts with rfl | ⟨hp,b,off,rfl,hlt,hc⟩
 ·go_enter Try.func21,Try.ntmps21
  go_wp2
  go_ret
  exact ⟨rfl,(Below.refl _ _).alloc (Nat.le_refl _) _⟩
 ·have hcell := hc (xs.length - 1) (by omega)
  clear hc hl
  go_enter Try.func21,Try.ntmps21
  go_wp2
  all_goals go_ret
  ·have h1 : (16384 : Int) < xs.length := by assumption
   exact ⟨ret_int (a := 4) (by rw [chk,if_pos (by omega)]),(Below.refl _ _).alloc (Nat.le_refl _) _⟩
  ·have h1 : (xs.length : Int) ≤ 16384 := by assumption
   have h2 : (((xs[xs.length - 1]?.getD 0 : Nat) : Int) == 0) = true := by assumption
   exact ⟨ret_int (a := 10) (by rw [chk,if_neg (by omega),if_pos ⟨hp,by simpa using h2⟩]),(Below.refl _ _).alloc (Nat.le_refl _) _⟩
  ·have h1 : (xs.length : Int) ≤ 16384 := by assumption
   have h2 : (((xs[xs.length - 1]?.getD 0 : Nat) : Int) == 0) = false := by assumption
   exact ⟨ret_int (a := 0) (by rw [chk,if_neg (by omega),if_neg (fun h => by simp [h.2] at h2)]),(Below.refl _ _).alloc (Nat.le_refl _) _⟩
end Go.Proofs.Ytjemjhaphannaaa
namespace Go.Proofs.Ytjemjhaphannaaa
open Go.RowKit
def Num (w : World) (a : Option Addr) (n m : Nat) : Prop := ∃ xs,xs.length = n ∧ Lim w a xs ∧ Pl.Wf xs ∧ Pl.Norm xs ∧ Pl.val xs = m ∧ n ≤ 16384
def Mine (w : World) (base : Nat) (a : Option Addr) (n cap m : Nat) : Prop := ∃ xs,xs.length = n ∧ Own w base (.slice a n cap) xs ∧ Pl.Wf xs ∧ Pl.Norm xs ∧ Pl.val xs = m ∧ n ≤ 16384
theorem Mine.num {w : World} {base : Nat} {a : Option Addr} {n cap m : Nat} (h : Mine w base a n cap m) : Num w a n m := by
 obtain ⟨xs,hn,ho,hw,hN,hv,hl⟩ := h
 obtain ⟨a',cap',e,_,_,hlim⟩ := ho.lim
 injection e with e1 e2 e3
 exact ⟨xs,hn,by rw [e1]; exact hlim,hw,hN,hv,hl⟩
theorem Mine.kept {w w' : World} {base : Nat} {a : Option Addr} {n cap m : Nat} (h : Mine w base a n cap m) (hb : Below w.heap.size w w') : Mine w' base a n cap m := by
 obtain ⟨xs,hn,ho,r⟩ := h
 exact ⟨xs,hn,ho.kept hb,r⟩
theorem Mine.mono {w : World} {base base' : Nat} {a : Option Addr} {n cap m : Nat} (h : Mine w base a n cap m) (hb : base' ≤ base) : Mine w base' a n cap m := by
 obtain ⟨xs,hn,ho,r⟩ := h
 exact ⟨xs,hn,ho.mono hb,r⟩
theorem Mine.set {w : World} {base : Nat} {a : Option Addr} {n cap m : Nat} (h : Mine w base a n cap m) {p : Addr} (hp : p.block < base) (u : Value) : Mine (w.setCell p u) base a n cap m := by
 obtain ⟨xs,hn,ho,r⟩ := h
 exact ⟨xs,hn,ho.set hp u,r⟩
theorem Num.kept {w w' : World} {a : Option Addr} {n m : Nat} (h : Num w a n m) (hb : Below w.heap.size w w') : Num w' a n m := by
 obtain ⟨xs,hn,hl,r⟩ := h
 exact ⟨xs,hn,hl.below hb,r⟩
theorem Num.len {w : World} {a : Option Addr} {n m : Nat} (h : Num w a n m) : n ≤ 16384 := by
 obtain ⟨xs,_,_,_,_,_,hl⟩ := h; exact hl
theorem Num.zero {w : World} {a : Option Addr} {n m : Nat} (h : Num w a n m) : n = 0 ↔ m = 0 := by
 obtain ⟨xs,hn,_,hw,hN,hv,_⟩ := h
 constructor
 ·intro e; have : xs = [] := List.length_eq_zero_iff.1 (by omega); rw [← hv,this]; rfl
 ·intro e; have := Pl.norm_zero hN (by omega); rw [← hn,this]; rfl
theorem Num.lt {w : World} {a : Option Addr} {n m : Nat} (h : Num w a n m) : m < 4294967296 ^ Pl.top := by
 obtain ⟨xs,hn,_,hw,hN,hv,hl⟩ := h
 rw [← hv]; exact (Pl.val_le_len hw hN Pl.top).1 (by rw [Pl.top_eq]; omega)
def Box (w : World) (p : Nat) (v : Value) : Prop := w.heap[p]? = some (.cells #[v] 26 (0,0))
theorem Box.cell {w : World} {p : Nat} {v : Value} (h : Box w p v) : w.cell? ⟨p,0,none⟩ = some v := by rw [cell_of_row w p 0 _ _ _ h]; rfl
theorem Box.frozen {w : World} {p : Nat} {v : Value} (h : Box w p v) : w.frozen? ⟨p,0,none⟩ = false := frozen_of_row w p 0 _ _ h
theorem Box.lt {w : World} {p : Nat} {v : Value} (h : Box w p v) : p < w.heap.size := by
 by_cases hlt : p < w.heap.size
 ·exact hlt
 ·unfold Box at h; rw [Array.getElem?_eq_none (by omega)] at h; cases h
theorem Box.made (w : World) (v : Value) : Box (w.alloc (.cells #[v] 26)) w.heap.size v := heap_alloc_new w _
theorem Box.kept {w w' : World} {p : Nat} {v : Value} (h : Box w p v) (hb : Below w.heap.size w w') : Box w' p v := by
 unfold Box; rw [hb.block p h.lt]; exact h
theorem Box.alloc {w : World} {p : Nat} {v : Value} (h : Box w p v) (o : Obj) : Box (w.alloc o) p v := h.kept (gr_alloc _ _)
theorem Box.drewN {w : World} {p : Nat} {v : Value} (h : Box w p v) (n : Nat) : Box (w.drewN n) p v := h
theorem Box.set {w : World} {p : Nat} {v : Value} (h : Box w p v) (u : Value) : Box (w.setCell ⟨p,0,none⟩ u) p u := by
 unfold Box; rw [heap_setCell_same w p 0 _ _ _ h]; rfl
theorem Num.alloc {w : World} {a : Option Addr} {n m : Nat} (h : Num w a n m) (o : Obj) : Num (w.alloc o) a n m := h.kept (gr_alloc _ _)
theorem Mine.alloc {w : World} {base : Nat} {a : Option Addr} {n cap m : Nat} (h : Mine w base a n cap m) (o : Obj) : Mine (w.alloc o) base a n cap m := h.kept (gr_alloc _ _)
structure Over (m : Nat) : Prop where
 le : 4294967296 ^ Pl.top ≤ m
def Ans (w : World) (base : Nat) (e : Ending) (m : Nat) : Prop :=
 (∃ a n cap,e = .returned (.tuple #[.agg #[.slice a n cap],.int .i64 0]) ∧ Mine w base a n cap m) ∨
 (e = .returned (.tuple #[.agg #[.slice none 0 0],.int .i64 4]) ∧ Over m)
theorem Ans.kept {w w' : World} {base base' : Nat} {e : Ending} {m : Nat} (h : Ans w base e m) (hb : Below w.heap.size w w') (hB : base' ≤ base) : Ans w' base' e m := by
 rcases h with ⟨a,n,cap,rfl,h⟩ | h
 ·exact Or.inl ⟨a,n,cap,rfl,(h.kept hb).mono hB⟩
 ·exact Or.inr h
end Go.Proofs.Ytjemjhaphannaaa
namespace Go.Proofs.Ytjemjhaphannaaa
open Go.RowKit
end Go.Proofs.Ytjemjhaphannaaa
namespace Go.Proofs.Ytjemjhaphannaaa
open Go.RowKit
end Go.Proofs.Ytjemjhaphannaaa
namespace Go.Proofs.Ytjemjhaphannaaa
open Go.RowKit
theorem pow_split {pt : Nat} (h : pt < 32) : 4294967296 = 2 ^ pt * 2 ^ (32 - pt) := by
 rw [← Nat.pow_add,show pt + (32 - pt) = 32 by omega]
end Go.Proofs.Ytjemjhaphannaaa
namespace Go.Proofs.Ytjemjhaphannaaa
open Go.RowKit
theorem val_mod (ys : List Nat) (hw : Pl.Wf ys) (j : Nat) : ys[j]?.getD 0 = Pl.val (ys.drop j) % 4294967296 := by
 by_cases h : j < ys.length
 ·have := Pl.wf_at hw j
  rw [Pl.drop_cons ys j h]
  simp only [Pl.val]
  omega
 ·rw [List.drop_eq_nil_of_le (by omega),List.getElem?_eq_none (by omega)]; rfl
end Go.Proofs.Ytjemjhaphannaaa
namespace Go.Proofs.Ytjemjhaphannaaa
open Go.RowKit
set_option maxHeartbeats 400000 in
theorem rcheck_any (a : Option Addr) (cap : Nat) (xs : List Nat) (w : World) (hbig : xs.length ≤ 9223372036854775807) (hl : Lim w a xs) :
  Calls Try.prog 25 #[.agg #[.slice a xs.length cap]] w fun e w' => e = .returned (.int .i64 (chk xs)) ∧ Below w.heap.size w w' := by
 rcases hl.parts with rfl | ⟨hp,b,off,rfl,hlt,hc⟩
 ·go_enter Try.func25,Try.ntmps25
  go_wp2
  go_ret
  exact ⟨rfl,(Below.refl _ _).alloc (Nat.le_refl _) _⟩
 ·have hcell := hc (xs.length - 1) (by omega)
  clear hc hl
  go_enter Try.func25,Try.ntmps25
  go_wp2
  all_goals go_ret
  ·have h1 : (16384 : Int) < xs.length := by assumption
   exact ⟨ret_int (a := 4) (by rw [chk,if_pos (by omega)]),(Below.refl _ _).alloc (Nat.le_refl _) _⟩
  ·have h1 : (xs.length : Int) ≤ 16384 := by assumption
   have h2 : (((xs[xs.length - 1]?.getD 0 : Nat) : Int) == 0) = true := by assumption
   exact ⟨ret_int (a := 10) (by rw [chk,if_neg (by omega),if_pos ⟨hp,by simpa using h2⟩]),(Below.refl _ _).alloc (Nat.le_refl _) _⟩
  ·have h1 : (xs.length : Int) ≤ 16384 := by assumption
   have h2 : (((xs[xs.length - 1]?.getD 0 : Nat) : Int) == 0) = false := by assumption
   exact ⟨ret_int (a := 0) (by rw [chk,if_neg (by omega),if_neg (fun h => by simp [h.2] at h2)]),(Below.refl _ _).alloc (Nat.le_refl _) _⟩
end Go.Proofs.Ytjemjhaphannaaa
namespace Go.Proofs.Ytjemjhaphannaaa
open Go.RowKit
end Go.Proofs.Ytjemjhaphannaaa
namespace Go.Proofs.Ytjemjhaphannaaa
open Go.RowKit
set_option maxHeartbeats 400000 in
theorem word_some (b off cap n : Nat) (xs : List Nat) (w : World) (hn : Hid (xs.length = n)) (hn2 : n ≤ 2) (hw : Pl.Wf xs)
  (hc : ∀ j,j < n → w.cell? ⟨b,off + j,none⟩ = some (.int .u32 ((xs[j]?.getD 0 : Nat) : Int))) :
  Calls Try.prog 33 #[.slice (some ⟨b,off,none⟩) n cap] w fun e w' => e = .returned (.int .u64 (Pl.val xs : Int)) ∧ w = w' := by
 go_enter Try.func33,Try.ntmps33
 go_wp2
 go_loop [3,4] (fun r i => ∃ (k acc : Nat),k ≤ n ∧ i = .int .i64 ((k : Int) - 1) ∧ r = .int .u64 (acc : Int) ∧ acc = Pl.val (xs.drop k)) (fun _ i => (intOf i + 1).toNat)
 case atStart => exact ⟨n,0,Nat.le_refl _,rfl,rfl,by rw [List.drop_eq_nil_of_le (by rw [unhide hn]; omega)]; rfl⟩
 case round =>
  obtain ⟨k,acc,hk,rfl,rfl,hv⟩ := hrel
  by_cases hk0 : k = 0
  ·subst hk0
   have HV := hide hv
   clear hv
   go_wp2
   go_ret
   exact ⟨ret_int (by rw [unhide HV,List.drop_zero]),rfl⟩
  ·obtain ⟨j,rfl⟩ : ∃ j,k = j + 1 := ⟨k - 1,by omega⟩
   obtain ⟨x,hxx⟩ : ∃ x,x = xs[j]?.getD 0 := ⟨_,rfl⟩
   have hnl := unhide hn
   have hx1 : x < 4294967296 := by rw [hxx]; exact Pl.wf_at hw j
   have hacc : acc < 4294967296 := by
    have h1 := Pl.val_lt (Pl.wf_drop hw (j + 1))
    have h2 : (xs.drop (j + 1)).length ≤ 1 := by rw [List.length_drop]; omega
    have h3 := Pl.pow_le h2
    rw [← hv] at h1
    omega
   have hcx := hc j (by omega)
   rw [← hxx] at hcx
   obtain ⟨t,ht⟩ : ∃ t,t = acc * 4294967296 + x := ⟨_,rfl⟩
   have hor : Go.bits BinOp.or IntKind.u64 ((acc : Int) * 4294967296) (x : Int) = (t : Int) := by rw [or_limb acc x hacc hx1,ht]; omega
   have HT : Hid (t = Pl.val (xs.drop j)) := by
    rw [Pl.drop_cons xs j (by omega),← hxx]
    show t = x + 4294967296 * Pl.val (xs.drop (j + 1))
    rw [← hv,ht]; omega
   clear hxx ht hv hnl hc
   go_wp2
   go_round
   case rel => exact ⟨j,t,by omega,rfl,rfl,unhide HT⟩
   case measure => simp [intOf]
theorem word_any (a : Option Addr) (n cap m : Nat) (w : World) (h : Num w a n m) (hn2 : n ≤ 2) :
  Calls Try.prog 33 #[.slice a n cap] w fun e w' => e = .returned (.int .u64 (m : Int)) ∧ w = w' := by
 obtain ⟨xs,hn,hl,hw,hN,hv,hb⟩ := h
 rcases hl.parts with hx | ⟨hp,b,off,rfl,hlt,hc⟩
 ·have hn0 : n = 0 := by rw [← hn,hx]; rfl
  have hm0 : m = 0 := by rw [← hv,hx]; rfl
  subst hn0 hm0
  clear hn hv hl hw hN hb hx
  go_enter Try.func33,Try.ntmps33
  go_wp2
  refine wp_loop_rounds 1 ?_
  rw [rounds_succ]
  go_wp2
  go_ret
  exact ⟨rfl,rfl⟩
 ·rw [← hv]
  exact word_some b off cap n xs w (hide hn) hn2 hw (fun j hj => hc j (by omega))
set_option maxHeartbeats 400000 in
theorem low_small (a : Option Addr) (n cap m : Nat) (w : World) (h : Num w a n m) (hn2 : n ≤ 2) :
  Calls Try.prog 18 #[.agg #[.slice a n cap]] w fun e w' => e = .returned (.tuple #[.int .u64 (m : Int),.bool true]) ∧ Below w.heap.size w w' := by
 have H := hide h
 obtain ⟨xs,hn,hl,hw,hN,hv,hb⟩ := h
 have hck := check_any a cap xs (w.alloc (.cells #[.slice a n cap] 26)) (by omega) (hl.alloc _)
 rw [hn,chk_ok (by omega) hN] at hck
 have HK := hide hck
 clear hck hl hn hv
 go_enter Try.func18,Try.ntmps18
 go_wp2_with fail
 refine (unhide HK).mono ?_
 rintro e w1 ⟨rfl,hb1⟩
 obtain ⟨hc1,hf1⟩ := bcell hb1
 go_wp2_with fail
 refine (word_any a n cap m w1 (((unhide H).alloc _).kept hb1) hn2).mono ?_
 rintro e w2 ⟨rfl,rfl⟩
 go_wp2
 go_ret2
 exact ⟨rfl,gr_trans (gr_alloc _ _) hb1⟩
end Go.Proofs.Ytjemjhaphannaaa
namespace Go.Proofs.Ytjemjhaphannaaa
open Go.RowKit
theorem Mine.nil (w : World) (base : Nat) : Mine w base none 0 0 0 := ⟨[],rfl,Or.inl ⟨rfl,rfl⟩,Pl.wf_nil,Pl.norm_nil,rfl,by omega⟩
end Go.Proofs.Ytjemjhaphannaaa
