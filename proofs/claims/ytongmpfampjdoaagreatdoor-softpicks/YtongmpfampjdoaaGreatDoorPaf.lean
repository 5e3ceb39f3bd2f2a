/- Of what SoftPicksRow stands on: Base AddTimes Multiply Trim Check Nums ShiftUp ShiftDown RefCheck RefTrim Low PutNum AddInto TakeInto Clone DivLimb TakeTimes Text PutGroup. -/
import Derived.Test.YtongmpfampjdoaaGreatDoorProg
import Derived.WalkKit
import Derived.WalkSpells
import Derived.WalkLawsBesides
import Derived.Test.YtongmpfampjdoaaGreatDoorPae
import Derived.Test.YtongmpfampjdoaaGreatDoorPab
namespace Go.Proofs.YtongmpfampjdoaaGreatDoor
open Go.RowKit
set_option maxHeartbeats 400000
def Lim (w : World) (a : Option Addr) (xs : List Nat) : Prop :=
 xs = [] ∨ ∃ b off,a = some ⟨b,off,none⟩ ∧ ∀ j,j < xs.length → w.cell? ⟨b,off + j,none⟩ = some (.int .u32 ((xs[j]?.getD 0 : Nat) : Int))
theorem Lim.parts {w : World} {a : Option Addr} {xs : List Nat} (h : Lim w a xs) :
  xs = [] ∨ (0 < xs.length ∧ ∃ b off,a = some ⟨b,off,none⟩ ∧ b < w.heap.size ∧ ∀ j,j < xs.length → w.cell? ⟨b,off + j,none⟩ = some (.int .u32 ((xs[j]?.getD 0 : Nat) : Int))) := by
 rcases h with h | ⟨b,off,ha,hc⟩
 ·exact Or.inl h
 ·by_cases hx : xs = []
  ·exact Or.inl hx
  ·have hp : 0 < xs.length := List.length_pos_iff.2 hx
   exact Or.inr ⟨hp,b,off,ha,World.block_lt_of_cell? w ⟨b,off + 0,none⟩ (hc 0 hp),hc⟩
theorem Lim.below {w w' : World} {a : Option Addr} {xs : List Nat} (h : Lim w a xs) (hb : Below w.heap.size w w') : Lim w' a xs := by
 rcases h.parts with h | ⟨_,b,off,ha,hlt,hc⟩
 ·exact Or.inl h
 ·exact Or.inr ⟨b,off,ha,fun j hj => (hb.cell (by exact hlt)).trans (hc j hj)⟩
theorem Lim.alloc {w : World} {a : Option Addr} {xs : List Nat} (h : Lim w a xs) (o : Obj) : Lim (w.alloc o) a xs := h.below ((Below.refl _ _).alloc (Nat.le_refl _) o)
def Own (w : World) (base : Nat) (v : Value) (xs : List Nat) : Prop :=
 (v = .slice none 0 0 ∧ xs = []) ∨
 ∃ g cap cur,v = .slice (some ⟨g,0,none⟩) xs.length cap ∧ base ≤ g ∧ w.heap[g]? = some (.cells cur 108 (0,0)) ∧ xs.length ≤ cap ∧ cap ≤ cur.size ∧ cap ≤ 9223372036854775807 ∧
  ∀ j,j < xs.length → cur[j]? = some (.int .u32 ((xs[j]?.getD 0 : Nat) : Int))
theorem Own.lim {w : World} {base : Nat} {v : Value} {xs : List Nat} (h : Own w base v xs) :
  ∃ a cap,v = .slice a xs.length cap ∧ xs.length ≤ cap ∧ cap ≤ 9223372036854775807 ∧ Lim w a xs := by
 rcases h with ⟨rfl,rfl⟩ | ⟨g,cap,cur,rfl,hg,hh,h1,h2,h3,hc⟩
 ·exact ⟨none,0,rfl,Nat.le_refl _,by omega,Or.inl rfl⟩
 ·exact ⟨_,cap,rfl,h1,by omega,Or.inr ⟨g,0,rfl,fun j hj => by rw [Nat.zero_add,cell_of_row w g j cur _ _ hh]; exact hc j hj⟩⟩
theorem Own.kept {w w' : World} {base : Nat} {v : Value} {xs : List Nat} (h : Own w base v xs) (hb : Below w.heap.size w w') : Own w' base v xs := by
 rcases h with h | ⟨g,cap,cur,rfl,hg,hh,r⟩
 ·exact Or.inl h
 ·have hlt : g < w.heap.size := by
   by_cases hlt : g < w.heap.size
   ·exact hlt
   ·rw [Array.getElem?_eq_none (by omega)] at hh; cases hh
  exact Or.inr ⟨g,cap,cur,rfl,hg,by rw [hb.block g hlt]; exact hh,r⟩
theorem Own.mono {w : World} {base base' : Nat} {v : Value} {xs : List Nat} (h : Own w base v xs) (hb : base' ≤ base) : Own w base' v xs := by
 rcases h with h | ⟨g,cap,cur,rfl,hg,r⟩
 ·exact Or.inl h
 ·exact Or.inr ⟨g,cap,cur,rfl,by omega,r⟩
theorem ret_int {k : IntKind} {a b : Int} (h : a = b) : Ending.returned (.int k a) = .returned (.int k b) := by rw [h]
theorem ret_bool {a b : Bool} (h : a = b) : Ending.returned (.bool a) = .returned (.bool b) := by rw [h]
def lc (zs : List Nat) : Array Value := (zs.map (fun z : Nat => Value.int .u32 (z : Int))).toArray
def Row (w : World) (B : Nat) (zs : List Nat) : Prop := ∃ tl : Array Value,w.heap[B]? = some (.cells (lc zs ++ tl) 108 (0,0))
theorem size_lc (zs : List Nat) : (lc zs).size = zs.length := by simp [lc]
theorem lc_at (zs : List Nat) (j : Nat) (h : j < zs.length) : (lc zs)[j]? = some (.int .u32 ((zs[j]?.getD 0 : Nat) : Int)) := by simp [lc,h]
theorem lc_set (zs : List Nat) (j v : Nat) : (lc zs).setIfInBounds j (.int .u32 (v : Int)) = lc (zs.set j v) := by
 simp [lc,List.setIfInBounds_toArray,List.map_set]
theorem lc_at' (zs : List Nat) (tl : Array Value) (j : Nat) (h : j < zs.length) : (lc zs ++ tl)[j]? = some (.int .u32 ((zs[j]?.getD 0 : Nat) : Int)) := by
 rw [Array.getElem?_append_left (by rw [size_lc]; exact h),lc_at zs j h]
theorem Row.cell {w : World} {B : Nat} {zs : List Nat} (h : Row w B zs) (j : Nat) (hj : j < zs.length) : w.cell? ⟨B,j,none⟩ = some (.int .u32 ((zs[j]?.getD 0 : Nat) : Int)) := by
 obtain ⟨tl,h⟩ := h
 rw [cell_of_row w B j _ _ _ h,lc_at' zs tl j hj]
theorem Row.frozen {w : World} {B : Nat} {zs : List Nat} (h : Row w B zs) (j : Nat) : w.frozen? ⟨B,j,none⟩ = false := by
 obtain ⟨tl,h⟩ := h
 exact frozen_of_row w B j _ _ h
theorem Row.set {w : World} {B : Nat} {zs : List Nat} (h : Row w B zs) (j v : Nat) (hj : j < zs.length) : Row (w.setCell ⟨B,j,none⟩ (.int .u32 (v : Int))) B (zs.set j v) := by
 obtain ⟨tl,h⟩ := h
 refine ⟨tl,?_⟩
 rw [heap_setCell_same w B j _ _ _ h,Array.setIfInBounds_append_left (by rw [size_lc]; exact hj),lc_set]
theorem Row.lt {w : World} {B : Nat} {zs : List Nat} (h : Row w B zs) : B < w.heap.size := by
 obtain ⟨tl,h⟩ := h
 by_cases hlt : B < w.heap.size
 ·exact hlt
 ·rw [Array.getElem?_eq_none (by omega)] at h; cases h
structure Only (B : Nat) (w w' : World) : Prop where
 os : w'.os = w.os
 tape : w'.tape = w.tape
 output : w'.output = w.output
 size : w'.heap.size = w.heap.size
 block : ∀ k,k ≠ B → w'.heap[k]? = w.heap[k]?
theorem Only.refl (B : Nat) (w : World) : Only B w w := ⟨rfl,rfl,rfl,rfl,fun _ _ => rfl⟩
theorem Only.trans {B : Nat} {a b c : World} (h : Only B a b) (k : Only B b c) : Only B a c :=
 ⟨k.os.trans h.os,k.tape.trans h.tape,k.output.trans h.output,k.size.trans h.size,fun i hi => (k.block i hi).trans (h.block i hi)⟩
theorem Only.setCell {B : Nat} {a w : World} (h : Only B a w) (j : Nat) (u : Value) : Only B a (w.setCell ⟨B,j,none⟩ u) :=
 h.trans ⟨rfl,rfl,rfl,by simp [World.setCell],fun k hk => heap_setCell_other w _ k u hk⟩
theorem Only.drew {B : Nat} {a w : World} (h : Only B a w) : Only B a w.drew := ⟨h.os,h.tape,h.output,h.size,h.block⟩
theorem Only.cell {B : Nat} {w w' : World} (h : Only B w w') {p : Addr} (hp : p.block ≠ B) : w'.cell? p = w.cell? p := World.cell?_of_block (w := w) (h.block p.block hp)
theorem Only.frozen {B : Nat} {w w' : World} (h : Only B w w') {p : Addr} (hp : p.block ≠ B) : w'.frozen? p = w.frozen? p := World.frozen?_of_block (w := w) (h.block p.block hp)
theorem Only.below {B : Nat} {a w w' : World} (h : Below a.heap.size a w) (k : Only B w w') (hB : a.heap.size ≤ B) : Below a.heap.size a w' :=
 h.trans ⟨k.os,k.tape,k.output,Nat.le_of_eq k.size.symm,fun i hi => k.block i (by omega)⟩
theorem Only.lim {B : Nat} {w w' : World} {a : Option Addr} {xs : List Nat} (k : Only B w w') (h : Lim w a xs) (hne : ∀ b off,a = some ⟨b,off,none⟩ → b ≠ B) : Lim w' a xs := by
 rcases h with h | ⟨b,off,ha,hc⟩
 ·exact Or.inl h
 ·exact Or.inr ⟨b,off,ha,fun j hj => (k.cell (hne b off ha)).trans (hc j hj)⟩
theorem Row.kept {w w' : World} {B : Nat} {zs : List Nat} (h : Row w B zs) (hb : Below w.heap.size w w') : Row w' B zs := by
 have hl := h.lt
 obtain ⟨tl,h⟩ := h
 exact ⟨tl,by rw [hb.block B hl]; exact h⟩
theorem Row.own {w : World} {B base : Nat} {zs : List Nat} (h : Row w B zs) (hB : base ≤ B) (n cap : Nat) (hn : n ≤ cap) (hcap : cap ≤ zs.length) (hz : zs.length ≤ 9223372036854775807) : Own w base (.slice (some ⟨B,0,none⟩) n cap) (zs.take n) := by
 have e : (zs.take n).length = n := by rw [List.length_take]; omega
 obtain ⟨tl,h⟩ := h
 refine Or.inr ⟨B,cap,lc zs ++ tl,by rw [e],hB,h,by omega,by rw [Array.size_append,size_lc]; omega,by omega,fun j hj => ?_⟩
 rw [e] at hj
 rw [lc_at' zs tl j (by omega),List.getElem?_take,if_pos hj]
theorem Tryz.info_limb : (Tryz.prog.info? 108).map (fun i => (i.zero,i.size,i.bytes)) = some (some (.int .u32 0),1,4) := by kernel_rfl
theorem Tryz.under_limbs : Tryz.prog.underlying 53 = some (.slice 108) := by kernel_rfl
theorem made_lc (n : Nat) : madeCells #[.int .u32 0] n = lc (List.replicate n 0) := by
 apply Array.toList_inj.1
 rw [toList_madeCells_one]
 simp [lc]
theorem make_limbs (C : Int) (n : Nat) (hC : C = (n : Int)) (hn : n ≤ 1073741824) (w : World) :
  (Instr.makeSlice 53 (.int .i64 C) (.int .i64 C)).run Tryz.prog w = .ok (.slice (some ⟨w.heap.size,0,none⟩) n n) (w.alloc (.cells (lc (List.replicate n 0)) 108)) := by
 obtain ⟨i,hi,hz,hs,hb⟩ := info_parts Tryz.info_limb
 have := run_make (P := Tryz.prog) w 53 108 i (.int .u32 0) Tryz.under_limbs hi hz .i64 .i64 C C (by omega) (Int.le_refl _) (by rw [hb]; omega) (by omega)
 rw [this,hC,hs]
 simp only [Int.toNat_natCast,Nat.mul_one,Value.cells,made_lc]
theorem Row.made (w : World) (zs : List Nat) : Row (w.alloc (.cells (lc zs) 108)) w.heap.size zs := ⟨#[],by rw [Array.append_empty]; exact heap_alloc_new w _⟩
theorem Row.only {w w' : World} {B C : Nat} {zs : List Nat} (h : Row w B zs) (k : Only C w w') (hne : B ≠ C) : Row w' B zs := by
 obtain ⟨tl,h⟩ := h
 exact ⟨tl,by rw [k.block B hne]; exact h⟩
theorem Own.set {w : World} {base : Nat} {v : Value} {xs : List Nat} (h : Own w base v xs) {p : Addr} (hp : p.block < base) (u : Value) : Own (w.setCell p u) base v xs := by
 rcases h with h | ⟨g,cap,cur,rfl,hg,hh,r⟩
 ·exact Or.inl h
 ·exact Or.inr ⟨g,cap,cur,rfl,hg,by rw [heap_setCell_other w p g u (by omega)]; exact hh,r⟩
theorem or_limb (r x : Nat) (hr : r < 4294967296) (hx : x < 4294967296) : Go.bits .or .u64 ((r : Int) * 4294967296) (x : Int) = (r : Int) * 4294967296 + (x : Int) := by
 have h := bits_or_u64_nat (r * 4294967296) x (by omega) (by omega)
 have e : r * 4294967296 ||| x = r * 4294967296 + x := by
  have := Nat.two_pow_add_eq_or_of_lt (i := 32) (b := x) (by omega) r
  rw [Nat.mul_comm r 4294967296]; exact this.symm
 rw [e] at h
 rw [show ((r : Int) * 4294967296) = ((r * 4294967296 : Nat) : Int) by omega,h]
 omega
theorem trim_any (b off cap : Nat) (xs : List Nat) (w : World) (hlen : xs.length ≤ cap) (hcap : cap ≤ 9223372036854775807)
  (hc : ∀ j,j < xs.length → w.cell? ⟨b,off + j,none⟩ = some (.int .u32 ((xs[j]?.getD 0 : Nat) : Int))) :
  Calls Tryz.prog 75 #[.slice (some ⟨b,off,none⟩) xs.length cap] w fun e w' => w = w' ∧ ∃ n,n ≤ xs.length ∧ (∀ j,n ≤ j → j < xs.length → xs[j]?.getD 0 = 0) ∧ (n = 0 ∨ xs[n - 1]?.getD 0 ≠ 0) ∧ e = .returned (.slice (some ⟨b,off,none⟩) n n) := by
 go_enter Tryz.func75,Tryz.ntmps75
 go_wp2
 go_loop [3] (fun t => ∃ k : Nat,k ≤ xs.length ∧ t = .int .i64 k ∧ ∀ j,k ≤ j → j < xs.length → xs[j]?.getD 0 = 0) (fun t => (intOf t).toNat)
 case atStart => exact ⟨xs.length,Nat.le_refl _,rfl,fun j h1 h2 => by omega⟩
 case round =>
  obtain ⟨k,hk,rfl,hz⟩ := hrel
  have HZ : Hid (∀ j,k ≤ j → j < xs.length → xs[j]?.getD 0 = 0) := hz
  clear hz
  have hcell : 0 < k → w.cell? ⟨b,off + (k - 1),none⟩ = some (.int .u32 ((xs[k - 1]?.getD 0 : Nat) : Int)) := fun _ => hc _ (by omega)
  go_wp2
  ·have hlt : 0 < k := by assumption
   have hb : (((xs[k - 1]?.getD 0 : Nat) : Int) == 0) = true := by assumption
   go_round
   case rel =>
    refine ⟨k - 1,by omega,by go_num,fun j h1 h2 => ?_⟩
    by_cases e : j = k - 1
    ·subst e; simpa using hb
    ·exact HZ.out j (by omega) h2
   case measure => simp [intOf]; omega
  ·have hb : (((xs[k - 1]?.getD 0 : Nat) : Int) == 0) = false := by assumption
   go_ret
   exact ⟨rfl,k,hk,HZ.out,Or.inr (by simpa using hb),rfl⟩
  ·have hz : k = 0 := by omega
   go_ret
   exact ⟨rfl,k,hk,HZ.out,Or.inl hz,rfl⟩
theorem trim_at (b off n cap : Nat) (xs : List Nat) (w : World) (hn : xs.length = n) (hlen : n ≤ cap) (hcap : cap ≤ 9223372036854775807)
  (hc : ∀ j,j < xs.length → w.cell? ⟨b,off + j,none⟩ = some (.int .u32 ((xs[j]?.getD 0 : Nat) : Int))) :
  Calls Tryz.prog 75 #[.slice (some ⟨b,off,none⟩) n cap] w fun e w' => w = w' ∧ ∃ n,n ≤ xs.length ∧ (∀ j,n ≤ j → j < xs.length → xs[j]?.getD 0 = 0) ∧ (n = 0 ∨ xs[n - 1]?.getD 0 ≠ 0) ∧ e = .returned (.slice (some ⟨b,off,none⟩) n n) := by
 subst hn
 exact trim_any b off cap xs w hlen hcap hc
def chk (xs : List Nat) : Int := if 16384 < xs.length then 4 else if 0 < xs.length ∧ xs[xs.length - 1]?.getD 0 = 0 then 10 else 0
theorem chk_ok {xs : List Nat} (h : xs.length ≤ 16384) (hn : Pl.Norm xs) : chk xs = 0 := by
 unfold chk
 rw [if_neg (by omega),if_neg]
 rintro ⟨h1,h2⟩
 exact Pl.norm_last hn h1 h2
theorem check_any (a : Option Addr) (cap : Nat) (xs : List Nat) (w : World) (hbig : xs.length ≤ 9223372036854775807) (hl : Lim w a xs) :
  Calls Tryz.prog 71 #[.agg #[.slice a xs.length cap]] w fun e w' => e = .returned (.int .i64 (chk xs)) ∧ Below w.heap.size w w' := by
 rcases hl.parts with rfl | ⟨hp,b,off,rfl,hlt,hc⟩
 ·go_enter Tryz.func71,Tryz.ntmps71
  go_wp2
  go_ret
  exact ⟨rfl,(Below.refl _ _).alloc (Nat.le_refl _) _⟩
 ·have hcell := hc (xs.length - 1) (by omega)
  clear hc hl
  go_enter Tryz.func71,Tryz.ntmps71
  go_wp2
  all_goals go_ret
  ·have h1 : (16384 : Int) < xs.length := by assumption
   exact ⟨ret_int (a := 4) (by rw [chk,if_pos (by omega)]),(Below.refl _ _).alloc (Nat.le_refl _) _⟩
  ·have h1 : (xs.length : Int) ≤ 16384 := by assumption
   have h2 : (((xs[xs.length - 1]?.getD 0 : Nat) : Int) == 0) = true := by assumption
   exact ⟨ret_int (a := 10) (by rw [chk,if_neg (by omega),if_pos ⟨hp,by simpa using h2⟩]),(Below.refl _ _).alloc (Nat.le_refl _) _⟩
  ·have h1 : (xs.length : Int) ≤ 16384 := by assumption
   have h2 : (((xs[xs.length - 1]?.getD 0 : Nat) : Int) == 0) = false := by assumption
   exact ⟨ret_int (a := 0) (by rw [chk,if_neg (by omega),if_neg (fun h => by simp [h.2] at h2)]),(Below.refl _ _).alloc (Nat.le_refl _) _⟩
def Num (w : World) (a : Option Addr) (n m : Nat) : Prop := ∃ xs,xs.length = n ∧ Lim w a xs ∧ Pl.Wf xs ∧ Pl.Norm xs ∧ Pl.val xs = m ∧ n ≤ 16384
def Mine (w : World) (base : Nat) (a : Option Addr) (n cap m : Nat) : Prop := ∃ xs,xs.length = n ∧ Own w base (.slice a n cap) xs ∧ Pl.Wf xs ∧ Pl.Norm xs ∧ Pl.val xs = m ∧ n ≤ 16384
theorem Mine.num {w : World} {base : Nat} {a : Option Addr} {n cap m : Nat} (h : Mine w base a n cap m) : Num w a n m := by
 obtain ⟨xs,hn,ho,hw,hN,hv,hl⟩ := h
 obtain ⟨a',cap',e,_,_,hlim⟩ := ho.lim
 injection e with e1 e2 e3
 exact ⟨xs,hn,by rw [e1]; exact hlim,hw,hN,hv,hl⟩
theorem Mine.kept {w w' : World} {base : Nat} {a : Option Addr} {n cap m : Nat} (h : Mine w base a n cap m) (hb : Below w.heap.size w w') : Mine w' base a n cap m := by
 obtain ⟨xs,hn,ho,r⟩ := h
 exact ⟨xs,hn,ho.kept hb,r⟩
theorem Mine.mono {w : World} {base base' : Nat} {a : Option Addr} {n cap m : Nat} (h : Mine w base a n cap m) (hb : base' ≤ base) : Mine w base' a n cap m := by
 obtain ⟨xs,hn,ho,r⟩ := h
 exact ⟨xs,hn,ho.mono hb,r⟩
theorem Mine.set {w : World} {base : Nat} {a : Option Addr} {n cap m : Nat} (h : Mine w base a n cap m) {p : Addr} (hp : p.block < base) (u : Value) : Mine (w.setCell p u) base a n cap m := by
 obtain ⟨xs,hn,ho,r⟩ := h
 exact ⟨xs,hn,ho.set hp u,r⟩
theorem Num.kept {w w' : World} {a : Option Addr} {n m : Nat} (h : Num w a n m) (hb : Below w.heap.size w w') : Num w' a n m := by
 obtain ⟨xs,hn,hl,r⟩ := h
 exact ⟨xs,hn,hl.below hb,r⟩
theorem Num.len {w : World} {a : Option Addr} {n m : Nat} (h : Num w a n m) : n ≤ 16384 := by
 obtain ⟨xs,_,_,_,_,_,hl⟩ := h; exact hl
theorem Num.zero {w : World} {a : Option Addr} {n m : Nat} (h : Num w a n m) : n = 0 ↔ m = 0 := by
 obtain ⟨xs,hn,_,hw,hN,hv,_⟩ := h
 constructor
 ·intro e; have : xs = [] := List.length_eq_zero_iff.1 (by omega); rw [← hv,this]; rfl
 ·intro e; have := Pl.norm_zero hN (by omega); rw [← hn,this]; rfl
theorem Num.lt {w : World} {a : Option Addr} {n m : Nat} (h : Num w a n m) : m < 4294967296 ^ Pl.top := by
 obtain ⟨xs,hn,_,hw,hN,hv,hl⟩ := h
 rw [← hv]; exact (Pl.val_le_len hw hN Pl.top).1 (by rw [Pl.top_eq]; omega)
theorem Num.same {w w' : World} {a a' : Option Addr} {n n' m : Nat} (h : Num w a n m) (k : Num w' a' n' m) : n = n' := by
 obtain ⟨xs,hn,_,hw,hN,hv,_⟩ := h
 obtain ⟨ys,hn',_,hw',hN',hv',_⟩ := k
 have := Pl.val_inj hw hw' hN hN' (by omega)
 rw [← hn,← hn',this]
def Box (w : World) (p : Nat) (v : Value) : Prop := w.heap[p]? = some (.cells #[v] 55 (0,0))
theorem Box.cell {w : World} {p : Nat} {v : Value} (h : Box w p v) : w.cell? ⟨p,0,none⟩ = some v := by rw [cell_of_row w p 0 _ _ _ h]; rfl
theorem Box.frozen {w : World} {p : Nat} {v : Value} (h : Box w p v) : w.frozen? ⟨p,0,none⟩ = false := frozen_of_row w p 0 _ _ h
theorem Box.lt {w : World} {p : Nat} {v : Value} (h : Box w p v) : p < w.heap.size := by
 by_cases hlt : p < w.heap.size
 ·exact hlt
 ·unfold Box at h; rw [Array.getElem?_eq_none (by omega)] at h; cases h
theorem Box.made (w : World) (v : Value) : Box (w.alloc (.cells #[v] 55)) w.heap.size v := heap_alloc_new w _
theorem Box.kept {w w' : World} {p : Nat} {v : Value} (h : Box w p v) (hb : Below w.heap.size w w') : Box w' p v := by
 unfold Box; rw [hb.block p h.lt]; exact h
theorem Box.alloc {w : World} {p : Nat} {v : Value} (h : Box w p v) (o : Obj) : Box (w.alloc o) p v := h.kept (gr_alloc _ _)
theorem Box.set {w : World} {p : Nat} {v : Value} (h : Box w p v) (u : Value) : Box (w.setCell ⟨p,0,none⟩ u) p u := by
 unfold Box; rw [heap_setCell_same w p 0 _ _ _ h]; rfl
theorem Box.other {w : World} {p : Nat} {v : Value} (h : Box w p v) {a : Addr} (hne : p ≠ a.block) (u : Value) : Box (w.setCell a u) p v := by
 unfold Box; rw [heap_setCell_other w a p u hne]; exact h
theorem Own.setBox {w : World} {base : Nat} {v : Value} {xs : List Nat} (h : Own w base v xs) {p : Nat} {x : Value} (hb : Box w p x) (u : Value) : Own (w.setCell ⟨p,0,none⟩ u) base v xs := by
 rcases h with h | ⟨g,cap,cur,rfl,hg,hh,r⟩
 ·exact Or.inl h
 ·have hne : g ≠ p := by
   rintro rfl
   unfold Box at hb
   rw [hh] at hb
   simp at hb
  exact Or.inr ⟨g,cap,cur,rfl,hg,by rw [heap_setCell_other w _ g u hne]; exact hh,r⟩
theorem Mine.setBox {w : World} {base : Nat} {a : Option Addr} {n cap m : Nat} (h : Mine w base a n cap m) {p : Nat} {x : Value} (hb : Box w p x) (u : Value) : Mine (w.setCell ⟨p,0,none⟩ u) base a n cap m := by
 obtain ⟨xs,hn,ho,r⟩ := h
 exact ⟨xs,hn,ho.setBox hb u,r⟩
theorem Lim.setBox {w : World} {a : Option Addr} {xs : List Nat} (h : Lim w a xs) {p : Nat} {a0 : Option Addr} {n0 c0 : Nat} (hb : Box w p (.slice a0 n0 c0)) (u : Value) : Lim (w.setCell ⟨p,0,none⟩ u) a xs := by
 rcases h.parts with h | ⟨hp,b,off,ha,hlt,hc⟩
 ·exact Or.inl h
 ·have hne : b ≠ p := by
   rintro rfl
   have h0 := hc 0 hp
   rw [cell_of_row w b (off + 0) _ _ _ hb] at h0
   by_cases hz : off + 0 = 0
   ·rw [hz] at h0; simp at h0
   ·rw [Array.getElem?_eq_none (by simp; omega)] at h0; cases h0
  refine Or.inr ⟨b,off,ha,fun j hj => ?_⟩
  rw [World.cell?_of_block (w := w) (heap_setCell_other w _ b u hne)]
  exact hc j hj
theorem Num.setBox {w : World} {a : Option Addr} {n m : Nat} (h : Num w a n m) {p : Nat} {a0 : Option Addr} {n0 c0 : Nat} (hb : Box w p (.slice a0 n0 c0)) (u : Value) : Num (w.setCell ⟨p,0,none⟩ u) a n m := by
 obtain ⟨xs,hn,hl,r⟩ := h
 exact ⟨xs,hn,hl.setBox hb u,r⟩
theorem Num.alloc {w : World} {a : Option Addr} {n m : Nat} (h : Num w a n m) (o : Obj) : Num (w.alloc o) a n m := h.kept (gr_alloc _ _)
theorem Mine.alloc {w : World} {base : Nat} {a : Option Addr} {n cap m : Nat} (h : Mine w base a n cap m) (o : Obj) : Mine (w.alloc o) base a n cap m := h.kept (gr_alloc _ _)
structure Over (m : Nat) : Prop where
 le : 4294967296 ^ Pl.top ≤ m
def Ans (w : World) (base : Nat) (e : Ending) (m : Nat) : Prop :=
 (∃ a n cap,e = .returned (.tuple #[.agg #[.slice a n cap],.int .i64 0]) ∧ Mine w base a n cap m) ∨
 (e = .returned (.tuple #[.agg #[.slice none 0 0],.int .i64 4]) ∧ Over m)
theorem Ans.kept {w w' : World} {base base' : Nat} {e : Ending} {m : Nat} (h : Ans w base e m) (hb : Below w.heap.size w w') (hB : base' ≤ base) : Ans w' base' e m := by
 rcases h with ⟨a,n,cap,rfl,h⟩ | h
 ·exact Or.inl ⟨a,n,cap,rfl,(h.kept hb).mono hB⟩
 ·exact Or.inr h
theorem trim_row {w : World} {B base n : Nat} {zs : List Nat} (h : Row w B zs) (hB : base ≤ B) (hz : zs.length ≤ 9223372036854775807) (wz : Pl.Wf zs) (hn : n ≤ zs.length)
  (h0 : ∀ j,n ≤ j → j < zs.length → zs[j]?.getD 0 = 0) (h1 : n = 0 ∨ zs[n - 1]?.getD 0 ≠ 0) :
  (zs.take n).length = n ∧ Own w base (.slice (some ⟨B,0,none⟩) n n) (zs.take n) ∧ Pl.Wf (zs.take n) ∧ Pl.Norm (zs.take n) ∧ Pl.val (zs.take n) = Pl.val zs := by
 have e : (zs.take n).length = n := by rw [List.length_take]; omega
 refine ⟨e,h.own hB n n (Nat.le_refl _) hn hz,Pl.wf_take wz n,Pl.norm_of ?_,Pl.take_of_zeros zs n hn h0⟩
 rw [e]
 rcases h1 with h1 | h1
 ·exact Or.inl h1
 ·by_cases hn0 : n = 0
  ·exact Or.inl hn0
  ·right; rw [List.getElem?_take,if_pos (by omega)]; exact h1
theorem of_any (u : Nat) (w : World) (hu : u < 18446744073709551616) :
  Calls Tryz.prog 68 #[.int .u64 (u : Int)] w fun e w' => (∃ a n cap,e = .returned (.agg #[.slice a n cap]) ∧ Mine w' w.heap.size a n cap u) ∧ Below w.heap.size w w' := by
 have hrow : ∀ o : Obj,Row ((w.alloc o).alloc (.cells #[.int .u32 ((u : Int) % 4294967296),.int .u32 ((u : Int) / 4294967296)] 108)) (w.heap.size + 1) [u % 4294967296,u / 4294967296] := by
  intro o
  refine ⟨#[],?_⟩
  rw [heap_alloc2_new]
  simp [lc]
 have HR := hide hrow
 clear hrow
 have hwf : Pl.Wf [u % 4294967296,u / 4294967296] := Pl.wf_cons (by omega) (Pl.wf_one (by omega))
 have hval : Pl.val [u % 4294967296,u / 4294967296] = u := by simp [Pl.val]; omega
 have HV := hide hval
 clear hval
 go_enter Tryz.func68,Tryz.ntmps68
 go_wp2_with fail
 refine (trim_at (w.heap.size + 1) 0 2 2 [u % 4294967296,u / 4294967296] _ rfl (by omega) (by omega) (fun j hj => by rw [Nat.zero_add]; exact (unhide HR _).cell j hj)).mono ?_
 rintro e w1 ⟨rfl,n,hn,h0,h1,rfl⟩
 have hn2 : n ≤ 2 := hn
 have HT := hide (fun o : Obj => trim_row (unhide HR o) (show w.heap.size ≤ w.heap.size + 1 by omega) (by simp) hwf hn h0 h1)
 clear h0 h1 hn
 go_wp2
 obtain ⟨t1,t2,t3,t4,t5⟩ := unhide HT (.cells #[.slice (some ⟨w.heap.size + 1,0,none⟩) n n] 55)
 refine bodyPost_ret (v := .agg #[.slice (some ⟨w.heap.size + 1,0,none⟩) n n]) (by simp [results,Tryz.results68,go_sem]) rfl ⟨⟨_,n,n,rfl,_,t1,t2,t3,t4,t5.trans (unhide HV),by omega⟩,gr_trans (gr_alloc _ _) (gr_alloc _ _)⟩
theorem pow_split {pt : Nat} (h : pt < 32) : 4294967296 = 2 ^ pt * 2 ^ (32 - pt) := by
 rw [← Nat.pow_add,show pt + (32 - pt) = 32 by omega]
theorem or_wrap (A x : Nat) (hx : x < 4294967296) : Go.bits .or .u64 (IntKind.u64.wrap ((A : Int) * 4294967296)) (x : Int) = ((A % 4294967296 * 4294967296 + x : Nat) : Int) := by
 have e : IntKind.u64.wrap ((A : Int) * 4294967296) = ((A % 4294967296 : Nat) : Int) * 4294967296 := by rw [IntKind.wrap_u64]; omega
 rw [e,or_limb _ _ (by omega) hx]
 omega
theorem down_shr (t k pt : Nat) (h : k % 32 = pt) : ((t : Int) / 2 ^ (k % 32)) % 4294967296 = ((t / 2 ^ pt % 4294967296 : Nat) : Int) := by
 rw [h,Int.natCast_emod,Int.natCast_ediv,Int.natCast_pow]
 rfl
theorem down_step {V x h P Q : Nat} (hP : 0 < P) (hPQ : 4294967296 = P * Q) (hh : h = V % 4294967296) (hx : x < 4294967296) : (h * 4294967296 + x) / P % 4294967296 + 4294967296 * (V / P) = (x + 4294967296 * V) / P := by
 have hr : V % P < P := Nat.mod_lt _ hP
 have hm : h % P = V % P := by rw [hh,Nat.mod_mod_of_dvd V ⟨Q,hPQ⟩]
 have hv := Nat.div_add_mod V P
 have hu := Nat.div_add_mod h P
 rw [hm] at hu
 generalize V % P = r at *
 generalize V / P = v at *
 generalize h / P = u at *
 have hD : (x + 4294967296 * r) / P < 4294967296 := by
  rw [Nat.div_lt_iff_lt_mul hP]
  have : 4294967296 * (r + 1) ≤ 4294967296 * P := Nat.mul_le_mul_left _ hr
  omega
 have e1 : h * 4294967296 + x = P * (u * 4294967296) + (x + 4294967296 * r) := by
  rw [← hu,Nat.add_mul,Nat.mul_assoc]; omega
 have e2 : x + 4294967296 * V = P * (4294967296 * v) + (x + 4294967296 * r) := by
  rw [← hv,Nat.mul_add,Nat.mul_left_comm]; omega
 rw [e1,e2,Nat.mul_add_div hP,Nat.mul_add_div hP,Nat.mul_comm u,Nat.mul_add_mod,Nat.mod_eq_of_lt hD]
 omega
theorem val_mod (ys : List Nat) (hw : Pl.Wf ys) (j : Nat) : ys[j]?.getD 0 = Pl.val (ys.drop j) % 4294967296 := by
 by_cases h : j < ys.length
 ·have := Pl.wf_at hw j
  rw [Pl.drop_cons ys j h]
  simp only [Pl.val]
  omega
 ·rw [List.drop_eq_nil_of_le (by omega),List.getElem?_eq_none (by omega)]; rfl
theorem set_rep' (j v : Nat) (qs : List Nat) : (List.replicate (j + 1) 0 ++ qs).set j v = List.replicate j 0 ++ (v :: qs) := by
 rw [List.set_append_left _ _ (by simp),List.replicate_succ',List.set_append_right _ _ (by simp)]
 simp
theorem shiftDown_some (b off cap wh pt k N : Nat) (ys : List Nat) (w : World) (hy : Hid (ys.length = N)) (hN0 : 0 < N) (hN : N ≤ 40000) (hwh : wh ≤ 40000) (hcap : wh + N ≤ cap) (hcap2 : cap ≤ 9223372036854775807) (hx : Pl.Wf ys) (hlt : b < w.heap.size) (hk : Hid (k = 32 * wh + pt)) (hpt : pt < 32)
  (hc : ∀ j,j < N → w.cell? ⟨b,off + wh + j,none⟩ = some (.int .u32 ((ys[j]?.getD 0 : Nat) : Int))) :
  Calls Tryz.prog 78 #[.slice (some ⟨b,off,none⟩) (wh + N) cap,.int .i64 (k : Int)] w
   fun e w' => ∃ l qs,e = .returned (.slice (some ⟨w.heap.size,0,none⟩) l l) ∧ l ≤ N ∧ Own w' w.heap.size (.slice (some ⟨w.heap.size,0,none⟩) l l) qs ∧ qs.length = l ∧ Pl.Wf qs ∧ Pl.Norm qs ∧ Pl.val qs = Pl.val ys / 2 ^ pt ∧ Below w.heap.size w w' := by
 have hmk := make_limbs ((N : Int)) N rfl (by omega)
 have hq : (k : Int) / 32 = (wh : Int) := by have := unhide hk; omega
 have hr : (k : Int) % 32 = (pt : Int) := by have := unhide hk; omega
 have HP : Hid (k % 32 = pt) := by have := unhide hk; exact hide (by omega)
 go_enter Tryz.func78,Tryz.ntmps78
 go_wp2
 clear hmk hq hr
 go_loopw [9,10] (fun ab i wr => ∃ (j A : Nat) (qs : List Nat),j ≤ N ∧ i = .int .i64 ((j : Int) - 1) ∧ ab = .int .u64 (A : Int) ∧ A < 18446744073709551616 ∧ A % 4294967296 = ys[j]?.getD 0 ∧ qs.length = N - j ∧ Pl.Wf qs ∧ Pl.val qs = Pl.val (ys.drop j) / 2 ^ pt ∧
   Row wr w.heap.size (List.replicate j 0 ++ qs) ∧ Below w.heap.size w wr) (fun _ i _ => (intOf i + 1).toNat)
 case atStart =>
  refine ⟨N,0,[],Nat.le_refl _,rfl,rfl,by omega,?_,by simp,Pl.wf_nil,?_,?_,gr_alloc _ _⟩
  ·rw [List.getElem?_eq_none (by rw [unhide hy]; omega)]; rfl
  ·rw [List.drop_eq_nil_of_le (by rw [unhide hy]; omega)]; simp [Pl.val]
  ·rw [List.append_nil]; exact Row.made _ _
 case round =>
  obtain ⟨j,A,qs,hj,rfl,rfl,hA,hAm,hql,hqw,hv,hrow,hbel⟩ := hrel
  by_cases hj0 : j = 0
  ·subst hj0
   have hr2 : Row wr w.heap.size qs := by simpa using hrow
   rw [List.drop_zero] at hv
   have HV := hide hv
   clear hv hrow hAm hc
   go_wp2_with fail
   refine (trim_at w.heap.size 0 N N qs wr (by omega) (Nat.le_refl _) (by omega) (fun j hj => by rw [Nat.zero_add]; exact hr2.cell j hj)).mono ?_
   rintro e w1 ⟨rfl,l,hl,h0,h1,rfl⟩
   have HT := hide (trim_row hr2 (Nat.le_refl _) (by omega) hqw hl h0 h1)
   clear h0 h1
   go_wp2
   go_ret
   obtain ⟨t1,t2,t3,t4,t5⟩ := unhide HT
   exact ⟨l,qs.take l,rfl,by omega,t2,t1,t3,t4,by rw [t5,unhide HV],hbel⟩
  ·obtain ⟨i,rfl⟩ : ∃ i,j = i + 1 := ⟨j - 1,by omega⟩
   obtain ⟨x,hxx⟩ : ∃ x,x = ys[i]?.getD 0 := ⟨_,rfl⟩
   have hx1 : x < 4294967296 := by rw [hxx]; exact Pl.wf_at hx i
   have hcx : wr.cell? ⟨b,off + wh + i,none⟩ = some (.int .u32 (x : Int)) := by rw [hxx]; exact (hbel.cell (by exact hlt)).trans (hc i (by omega))
   have hcq := hrow.cell i (by simp; omega)
   have hfq := hrow.frozen i
   have HV : Hid (Pl.val ((A % 4294967296 * 4294967296 + x) / 2 ^ pt % 4294967296 :: qs) = Pl.val (ys.drop i) / 2 ^ pt) := by
    have hyl := unhide hy
    rw [Pl.drop_cons ys i (by omega),← hxx]
    simp only [Pl.val]
    rw [hv]
    exact down_step (Nat.pow_pos (by decide)) (pow_split hpt) (by rw [hAm]; exact val_mod ys hx (i + 1)) hx1
   have HR := hide (hrow.set i ((A % 4294967296 * 4294967296 + x) / 2 ^ pt % 4294967296) (by simp; omega))
   have HX := hide hxx
   have hA2 : A % 4294967296 < 4294967296 := Nat.mod_lt _ (by decide)
   clear hxx hv hrow hc hAm
   go_wp2
   go_roundw
   case rel =>
    rw [or_wrap A x hx1,down_shr _ k pt (unhide HP)]
    refine ⟨i,A % 4294967296 * 4294967296 + x,(A % 4294967296 * 4294967296 + x) / 2 ^ pt % 4294967296 :: qs,by omega,rfl,rfl,by omega,by rw [← unhide HX]; omega,by simp; omega,Pl.wf_cons (Nat.mod_lt _ (by decide)) hqw,unhide HV,?_,hbel.setCell (Nat.le_refl _) _⟩
    have h := unhide HR
    rwa [set_rep'] at h
   case measure => simp [intOf]
theorem shiftDown_nil (a : Option Addr) (n cap wh k : Nat) (w : World) (hk : Hid (wh = k / 32)) (hk2 : wh < 9223372036854775808) (hle : n ≤ wh) :
  Calls Tryz.prog 78 #[.slice a n cap,.int .i64 (k : Int)] w fun e w' => e = .returned (.slice none 0 0) ∧ w' = w := by
 have hq : (k : Int) / 32 = (wh : Int) := by have := unhide hk; omega
 have hd : (n : Int) ≤ (wh : Int) := by omega
 clear hle
 go_enter Tryz.func78,Tryz.ntmps78
 go_wp2
 go_ret
 exact ⟨rfl,rfl⟩
theorem shiftDown_any (a : Option Addr) (n cap m k : Nat) (w : World) (h : Num w a n m) (hcap : n ≤ cap) (hcap2 : cap ≤ 9223372036854775807) (hk : k < 9223372036854775808) :
  Calls Tryz.prog 78 #[.slice a n cap,.int .i64 (k : Int)] w fun e w' => (∃ a' l c,e = .returned (.slice a' l c) ∧ Mine w' w.heap.size a' l c (m / 2 ^ k)) ∧ Below w.heap.size w w' := by
 obtain ⟨xs,hn,hl,hw,hN,hv,hb⟩ := h
 by_cases hle : n ≤ k / 32
 ·refine (shiftDown_nil a n cap (k / 32) k w rfl (by omega) hle).mono ?_
  rintro e w' ⟨rfl,rfl⟩
  have h0 : m / 2 ^ k = 0 := by
   apply Nat.div_eq_of_lt
   have h1 := Pl.val_lt hw
   rw [hv,hn] at h1
   have h2 : (4294967296 : Nat) ^ n = 2 ^ (32 * n) := by rw [Nat.pow_mul]
   have h3 := Nat.pow_le_pow_right (show 0 < 2 by decide) (show 32 * n ≤ k by omega)
   rw [h2] at h1
   exact Nat.lt_of_lt_of_le h1 h3
  rw [h0]
  exact ⟨⟨none,0,0,rfl,[],rfl,Or.inl ⟨rfl,rfl⟩,Pl.wf_nil,Pl.norm_nil,rfl,by omega⟩,gr_refl _⟩
 ·rcases hl.parts with hx | ⟨hp,b,off,rfl,hltb,hcx⟩
  ·rw [hx] at hn; simp at hn; omega
  ·obtain ⟨N,rfl⟩ : ∃ N,n = k / 32 + N := ⟨n - k / 32,by omega⟩
   have hyl : (xs.drop (k / 32)).length = N := by rw [List.length_drop]; omega
   refine (shiftDown_some b off cap (k / 32) (k % 32) k N (xs.drop (k / 32)) w (hide hyl) (by omega) (by omega) (by omega) hcap hcap2 (Pl.wf_drop hw _) hltb (hide (by omega)) (by omega) (fun j hj => ?_)).mono ?_
   ·have := hcx (k / 32 + j) (by omega)
    rw [← Nat.add_assoc] at this
    rw [this,List.getElem?_drop]
   ·rintro e w' ⟨l,qs,rfl,hlN,hO,hql,hqw,hqN,hqv,hb1⟩
    refine ⟨⟨_,l,l,rfl,qs,hql,hO,hqw,hqN,?_,by omega⟩,hb1⟩
    rw [hqv,← hv,Pl.val_split xs (k / 32) (by omega)]
    have e : 2 ^ k = 4294967296 ^ (k / 32) * 2 ^ (k % 32) := by
     rw [show (4294967296 : Nat) = 2 ^ 32 from rfl,← Nat.pow_mul,← Nat.pow_add]
     congr 1; omega
    have hlo := Pl.val_lt (Pl.wf_take hw (k / 32))
    rw [List.length_take,Nat.min_eq_left (by omega)] at hlo
    rw [e,← Nat.div_div_eq_div_mul]
    congr 1
    rw [Nat.add_comm,Nat.mul_add_div (Nat.lt_of_le_of_lt (Nat.zero_le _) hlo),Nat.div_eq_of_lt hlo,Nat.add_zero]
theorem rcheck_any (a : Option Addr) (cap : Nat) (xs : List Nat) (w : World) (hbig : xs.length ≤ 9223372036854775807) (hl : Lim w a xs) :
  Calls Tryz.prog 58 #[.agg #[.slice a xs.length cap]] w fun e w' => e = .returned (.int .i64 (chk xs)) ∧ Below w.heap.size w w' := by
 rcases hl.parts with rfl | ⟨hp,b,off,rfl,hlt,hc⟩
 ·go_enter Tryz.func58,Tryz.ntmps58
  go_wp2
  go_ret
  exact ⟨rfl,(Below.refl _ _).alloc (Nat.le_refl _) _⟩
 ·have hcell := hc (xs.length - 1) (by omega)
  clear hc hl
  go_enter Tryz.func58,Tryz.ntmps58
  go_wp2
  all_goals go_ret
  ·have h1 : (16384 : Int) < xs.length := by assumption
   exact ⟨ret_int (a := 4) (by rw [chk,if_pos (by omega)]),(Below.refl _ _).alloc (Nat.le_refl _) _⟩
  ·have h1 : (xs.length : Int) ≤ 16384 := by assumption
   have h2 : (((xs[xs.length - 1]?.getD 0 : Nat) : Int) == 0) = true := by assumption
   exact ⟨ret_int (a := 10) (by rw [chk,if_neg (by omega),if_pos ⟨hp,by simpa using h2⟩]),(Below.refl _ _).alloc (Nat.le_refl _) _⟩
  ·have h1 : (xs.length : Int) ≤ 16384 := by assumption
   have h2 : (((xs[xs.length - 1]?.getD 0 : Nat) : Int) == 0) = false := by assumption
   exact ⟨ret_int (a := 0) (by rw [chk,if_neg (by omega),if_neg (fun h => by simp [h.2] at h2)]),(Below.refl _ _).alloc (Nat.le_refl _) _⟩
theorem rtrim_any (b off cap : Nat) (xs : List Nat) (w : World) (hlen : xs.length ≤ cap) (hcap : cap ≤ 9223372036854775807)
  (hc : ∀ j,j < xs.length → w.cell? ⟨b,off + j,none⟩ = some (.int .u32 ((xs[j]?.getD 0 : Nat) : Int))) :
  Calls Tryz.prog 64 #[.slice (some ⟨b,off,none⟩) xs.length cap] w fun e w' => w = w' ∧ ∃ n,n ≤ xs.length ∧ (∀ j,n ≤ j → j < xs.length → xs[j]?.getD 0 = 0) ∧ (n = 0 ∨ xs[n - 1]?.getD 0 ≠ 0) ∧ e = .returned (.slice (some ⟨b,off,none⟩) n cap) := by
 go_enter Tryz.func64,Tryz.ntmps64
 go_wp2
 go_loop [3] (fun t => ∃ k : Nat,k ≤ xs.length ∧ t = .int .i64 k ∧ ∀ j,k ≤ j → j < xs.length → xs[j]?.getD 0 = 0) (fun t => (intOf t).toNat)
 case atStart => exact ⟨xs.length,Nat.le_refl _,rfl,fun j h1 h2 => by omega⟩
 case round =>
  obtain ⟨k,hk,rfl,hz⟩ := hrel
  have HZ : Hid (∀ j,k ≤ j → j < xs.length → xs[j]?.getD 0 = 0) := hz
  clear hz
  have hcell : 0 < k → w.cell? ⟨b,off + (k - 1),none⟩ = some (.int .u32 ((xs[k - 1]?.getD 0 : Nat) : Int)) := fun _ => hc _ (by omega)
  go_wp2
  ·have hlt : 0 < k := by assumption
   have hb : (((xs[k - 1]?.getD 0 : Nat) : Int) == 0) = true := by assumption
   go_round
   case rel =>
    refine ⟨k - 1,by omega,by go_num,fun j h1 h2 => ?_⟩
    by_cases e : j = k - 1
    ·subst e; simpa using hb
    ·exact HZ.out j (by omega) h2
   case measure => simp [intOf]; omega
  ·have hb : (((xs[k - 1]?.getD 0 : Nat) : Int) == 0) = false := by assumption
   go_ret
   exact ⟨rfl,k,hk,HZ.out,Or.inr (by simpa using hb),rfl⟩
  ·have hz : k = 0 := by omega
   go_ret
   exact ⟨rfl,k,hk,HZ.out,Or.inl hz,rfl⟩
theorem rtrim_at (b off n cap : Nat) (xs : List Nat) (w : World) (hn : xs.length = n) (hlen : n ≤ cap) (hcap : cap ≤ 9223372036854775807)
  (hc : ∀ j,j < xs.length → w.cell? ⟨b,off + j,none⟩ = some (.int .u32 ((xs[j]?.getD 0 : Nat) : Int))) :
  Calls Tryz.prog 64 #[.slice (some ⟨b,off,none⟩) n cap] w fun e w' => w = w' ∧ ∃ n,n ≤ xs.length ∧ (∀ j,n ≤ j → j < xs.length → xs[j]?.getD 0 = 0) ∧ (n = 0 ∨ xs[n - 1]?.getD 0 ≠ 0) ∧ e = .returned (.slice (some ⟨b,off,none⟩) n cap) := by
 subst hn
 exact rtrim_any b off cap xs w hlen hcap hc
theorem rtrim_empty (a : Option Addr) (cap : Nat) (w : World) :
  Calls Tryz.prog 64 #[.slice a 0 cap] w fun e w' => w = w' ∧ e = .returned (.slice a 0 cap) := by
 go_enter Tryz.func64,Tryz.ntmps64
 go_wp2
 refine wp_loop_rounds 1 ?_
 rw [rounds_succ]
 go_wp2
 go_ret
 exact ⟨rfl,rfl⟩
def NoLimb (l : List Value) : Prop := ∀ v,v ∈ l → ∀ z,v ≠ .int .u32 z
def noLimb : List Value → Bool
 | [] => true
 | .int .u32 _ :: _ => false
 | _ :: r => noLimb r
theorem noLimb_of : ∀ (l : List Value),noLimb l = true → NoLimb l
 | [],_ => fun _ h => nomatch h
 | v :: r,h => by
  have hr : noLimb r = true ∧ ∀ z,v ≠ .int .u32 z := by
   unfold noLimb at h
   split at h
   ·rename_i e; cases e
   ·cases h
   ·rename_i x y hx hy
    injection hy with e1 e2
    subst e1; subst e2
    exact ⟨h,fun z e => hx z e⟩
  intro u hu z
  rcases List.mem_cons.1 hu with rfl | hu
  ·exact hr.2 z
  ·exact noLimb_of r hr.1 u hu z
theorem Lim.put {W : World} {a : Option Addr} {xs : List Nat} (h : Lim W a xs) {b : Nat} {cs : Array Value} {t : TypeId} (hb : W.heap[b]? = some (.cells cs t (0,0))) (hl : NoLimb cs.toList) (j : Nat) (u : Value) : Lim (W.setCell ⟨b,j,none⟩ u) a xs := by
 rcases h.parts with h | ⟨hp,g,off,ha,hlt,hc⟩
 ·exact Or.inl h
 ·have hne : g ≠ b := by
   rintro rfl
   have h0 := hc 0 hp
   rw [cell_of_row W g (off + 0) _ _ _ hb] at h0
   have h1 : Value.int .u32 ((xs[0]?.getD 0 : Nat) : Int) ∈ cs.toList := by
    have := Array.mem_of_getElem? h0
    exact Array.mem_def.1 this
   exact hl _ h1 _ rfl
  refine Or.inr ⟨g,off,ha,fun j' hj => ?_⟩
  rw [World.cell?_of_block (w := W) (heap_setCell_other W _ g u hne)]
  exact hc j' hj
theorem Num.put {W : World} {a : Option Addr} {n m : Nat} (h : Num W a n m) {b : Nat} {cs : Array Value} {t : TypeId} (hb : W.heap[b]? = some (.cells cs t (0,0))) (hl : NoLimb cs.toList) (j : Nat) (u : Value) : Num (W.setCell ⟨b,j,none⟩ u) a n m := by
 obtain ⟨xs,hn,hl',r⟩ := h
 exact ⟨xs,hn,hl'.put hb hl j u,r⟩
theorem Mine.put {W : World} {base : Nat} {a : Option Addr} {n c m : Nat} (h : Mine W base a n c m) {b : Nat} {cs : Array Value} {t : TypeId} (hb : W.heap[b]? = some (.cells cs t (0,0))) (ht : t ≠ 108) (j : Nat) (u : Value) : Mine (W.setCell ⟨b,j,none⟩ u) base a n c m := by
 obtain ⟨xs,hn,ho,r⟩ := h
 refine ⟨xs,hn,?_,r⟩
 rcases ho with ho | ⟨g,cap,cur,e,hg,hh,q⟩
 ·exact Or.inl ho
 ·have hne : g ≠ b := by
   rintro rfl
   rw [hh] at hb
   injection hb with hb
   injection hb with _ hb
   exact ht hb.symm
  exact Or.inr ⟨g,cap,cur,e,hg,by rw [heap_setCell_other W _ g u hne]; exact hh,q⟩
def bc (ds : List Nat) : Array Value := (ds.map (fun z : Nat => Value.int .u8 (z : Int))).toArray
def BRow (w : World) (B : Nat) (ds : List Nat) : Prop := w.heap[B]? = some (.cells (bc ds) 5 (0,0))
theorem bc_at (zs : List Nat) (j : Nat) (h : j < zs.length) : (bc zs)[j]? = some (.int .u8 ((zs[j]?.getD 0 : Nat) : Int)) := by simp [bc,h]
theorem bc_set (zs : List Nat) (j v : Nat) : (bc zs).setIfInBounds j (.int .u8 (v : Int)) = bc (zs.set j v) := by
 simp [bc,List.setIfInBounds_toArray,List.map_set]
theorem BRow.cell {w : World} {B : Nat} {zs : List Nat} (h : BRow w B zs) (j : Nat) (hj : j < zs.length) : w.cell? ⟨B,j,none⟩ = some (.int .u8 ((zs[j]?.getD 0 : Nat) : Int)) := by
 rw [cell_of_row w B j _ _ _ h,bc_at zs j hj]
theorem BRow.frozen {w : World} {B : Nat} {zs : List Nat} (h : BRow w B zs) (j : Nat) : w.frozen? ⟨B,j,none⟩ = false := frozen_of_row w B j _ _ h
theorem BRow.set {w : World} {B : Nat} {zs : List Nat} (h : BRow w B zs) (j v : Nat) : BRow (w.setCell ⟨B,j,none⟩ (.int .u8 (v : Int))) B (zs.set j v) := by
 unfold BRow; rw [heap_setCell_same w B j _ _ _ h,bc_set]
theorem BRow.lt {w : World} {B : Nat} {zs : List Nat} (h : BRow w B zs) : B < w.heap.size := by
 by_cases hlt : B < w.heap.size
 ·exact hlt
 ·unfold BRow at h; rw [Array.getElem?_eq_none (by omega)] at h; cases h
theorem BRow.only {w w' : World} {B C : Nat} {zs : List Nat} (h : BRow w B zs) (k : Only C w w') (hne : B ≠ C) : BRow w' B zs := by
 unfold BRow; rw [k.block B hne]; exact h
theorem BRow.ne {w : World} {B C : Nat} {zs xs : List Nat} (h : BRow w B zs) (k : Row w C xs) : B ≠ C := by
 rintro rfl
 obtain ⟨tl,k⟩ := k
 unfold BRow at h
 rw [k] at h
 simp at h
theorem BRow.made (w : World) (zs : List Nat) : BRow (w.alloc (.cells (bc zs) 5)) w.heap.size zs := heap_alloc_new w _
def Room (w : World) (g : Nat) (xs : List Nat) (c : Nat) : Prop := ∃ tl : Array Value,w.heap[g]? = some (.cells (lc xs ++ tl) 108 (0,0)) ∧ xs.length + tl.size = c ∧ c ≤ 9223372036854775807
theorem Room.row {w : World} {g c : Nat} {xs : List Nat} (h : Room w g xs c) : Row w g xs := by
 obtain ⟨tl,h,_⟩ := h
 exact ⟨tl,h⟩
theorem Room.len {w : World} {g c : Nat} {xs : List Nat} (h : Room w g xs c) : xs.length ≤ c ∧ c ≤ 9223372036854775807 := by
 obtain ⟨tl,_,h1,h2⟩ := h
 omega
theorem Room.set {w : World} {g c : Nat} {xs : List Nat} (h : Room w g xs c) (j v : Nat) (hj : j < xs.length) : Room (w.setCell ⟨g,j,none⟩ (.int .u32 (v : Int))) g (xs.set j v) c := by
 obtain ⟨tl,h,h1,h2⟩ := h
 refine ⟨tl,?_,by rw [List.length_set]; exact h1,h2⟩
 rw [heap_setCell_same w g j _ _ _ h,Array.setIfInBounds_append_left (by rw [size_lc]; exact hj),lc_set]
theorem Room.made (w : World) (n : Nat) (hn : n ≤ 9223372036854775807) : Room (w.alloc (.cells (lc (List.replicate n 0)) 108)) w.heap.size [] n :=
 ⟨lc (List.replicate n 0),by rw [heap_alloc_new]; simp [lc],by rw [size_lc]; simp,hn⟩
end Go.Proofs.YtongmpfampjdoaaGreatDoor
