/- Of what ExactValuesRow stands on: StRows Stands4 Led4 Lent4 RefShift. -/
import Derived.Test.YtecmcjlgknfnlaaDoorPaj
import Derived.Test.YtecmcjlgknfnlaaDoorPam
import Derived.OwnWalk
import Derived.BigQuiet
import Derived.Test.YtecmcjlgknfnlaaDoorPaf
namespace Go.Proofs.YtecmcjlgknfnlaaDoor
open Go.RowKit
theorem wpList_append_run {P : Program} {w w' : World} {ops : Array Oper} {rest : List Oper} {o : Oper} {a : Act} {Q : Exit → Act → World → Prop} {v' : Value} (hgd : o.guard = none) (s x : Operand) (t : TypeId)
  (ho : o.op = .call { callee := .builtin .append,args := #[s,x],argTypes := #[t,t] }) (hrun : (Builtin.append_ #[t,t] o.type #[a.eval s,a.eval x]).run P w = .ok v' w')
  (h : wpList P ops Q rest (a.put o.dst v') w') : wpList P ops Q (o :: rest) a w :=
 wpList_plain hgd fun _ hK => by
  unfold Oper.wp execOp
  simp only [ho,resolve,invoke,builtin,Sem.run_bind,Sem.run_pure,Result.andThen_ok,List.map_toArray,List.map_cons,List.map_nil,hrun]
  exact hK _ _ h
def fl (i n : Nat) : List Nat := (List.range n).map (fun k => 1000 * i + k % 1000)
def tl (i n : Nat) : List Nat := (List.range n).map (fun k => 900000 + 1000 * i + k)
theorem fl_len (i n : Nat) : (fl i n).length = n := by simp [fl]
theorem tl_len (i n : Nat) : (tl i n).length = n := by simp [tl]
theorem fl_at (i n k : Nat) (h : k < n) : (fl i n)[k]?.getD 0 = 1000 * i + k % 1000 := by simp [fl,h]
theorem tl_at (i n k : Nat) (h : k < n) : (tl i n)[k]?.getD 0 = 900000 + 1000 * i + k := by simp [tl,h]
theorem tl_succ (i n : Nat) : tl i (n + 1) = tl i n ++ [900000 + 1000 * i + n] := by simp [tl,List.range_succ]
theorem set_take {xs ys : List Nat} {k z : Nat} (hk : k < xs.length) (hl : xs.length = ys.length) (h : xs.take k = ys.take k) (hz : z = ys[k]?.getD 0) : (xs.set k z).take (k + 1) = ys.take (k + 1) := by
 apply List.ext_getElem?
 intro j
 by_cases hj : j < k + 1
 ·rw [List.getElem?_take,if_pos hj,List.getElem?_take,if_pos hj]
  by_cases hjk : j = k
  ·subst hjk
   rw [List.getElem?_set_self hk,hz,List.getElem?_eq_getElem (by omega)]
   rfl
  ·rw [List.getElem?_set_ne (by omega)]
   have := congrArg (fun l : List Nat => l[j]?) h
   simpa [List.getElem?_take,show j < k by omega] using this
 ·rw [List.getElem?_take,if_neg hj,List.getElem?_take,if_neg hj]
def ApartV (v u : Value) : Prop := ∀ k,v.ownBlock = some k → u.ownBlock ≠ some k
theorem ApartV.symm {v u : Value} (h : ApartV v u) : ApartV u v := fun k hu hv => h k hv hu
theorem Own.lt {w : World} {base : Nat} {v : Value} {xs : List Nat} (h : Own w base v xs) : ∀ k,v.ownBlock = some k → base ≤ k ∧ k < w.heap.size := by
 rintro k hk
 rcases h with ⟨rfl,_⟩ | ⟨g,cap,cur,rfl,hg,hh,_⟩
 ·cases hk
 ·simp only [Value.ownBlock] at hk
  injection hk with hk
  subst hk
  refine ⟨hg,?_⟩
  by_cases hlt : g < w.heap.size
  ·exact hlt
  ·rw [Array.getElem?_eq_none (by omega)] at hh; cases hh
theorem Own.type {w : World} {base : Nat} {v : Value} {xs : List Nat} (h : Own w base v xs) : ∀ k,v.ownBlock = some k → ∃ cur,w.heap[k]? = some (.cells cur 48 (0,0)) := by
 rintro k hk
 rcases h with ⟨rfl,_⟩ | ⟨g,cap,cur,rfl,hg,hh,_⟩
 ·cases hk
 ·simp only [Value.ownBlock] at hk
  injection hk with hk
  subst hk
  exact ⟨cur,hh⟩
theorem Own.keep {w w' : World} {base : Nat} {v : Value} {xs : List Nat} (h : Own w base v xs) (hk : ∀ k,k < w.heap.size → v.ownBlock = some k → w'.heap[k]? = w.heap[k]?) : Own w' base v xs := by
 have hl := h.lt
 rcases h with h | ⟨g,cap,cur,rfl,hg,hh,r⟩
 ·exact Or.inl h
 ·exact Or.inr ⟨g,cap,cur,rfl,hg,by rw [hk g (hl g rfl).2 rfl]; exact hh,r⟩
theorem Own.len {w : World} {base : Nat} {a : Option Addr} {n c : Nat} {xs : List Nat} (h : Own w base (.slice a n c) xs) : xs.length = n := by
 rcases h with ⟨e,rfl⟩ | ⟨g,cap,cur,e,_⟩
 ·injection e with _ e2 _; subst e2; rfl
 ·injection e with _ e2 _; exact e2.symm
theorem Own.room {w : World} {base : Nat} {a : Option Addr} {n c : Nat} {xs : List Nat} (h : Own w base (.slice a n c) xs) : n ≤ c ∧ c ≤ 9223372036854775807 := by
 rcases h with ⟨e,rfl⟩ | ⟨g,cap,cur,e,_,_,h1,_,h3,_⟩
 ·injection e with _ e2 e3; omega
 ·injection e with _ e2 e3; omega
theorem Own.slice {w : World} {base : Nat} {v : Value} {xs : List Nat} (h : Own w base v xs) : ∃ a n c,v = .slice a n c := by
 rcases h with ⟨e,rfl⟩ | ⟨g,cap,cur,e,_⟩
 ·exact ⟨_,_,_,e⟩
 ·exact ⟨_,_,_,e⟩
theorem Own.open {w : World} {base : Nat} {a : Option Addr} {n c : Nat} {xs : List Nat} (h : Own w base (.slice a n c) xs) (hn : 0 < n) :
  ∃ b,a = some ⟨b,0,none⟩ ∧ base ≤ b ∧ b < w.heap.size ∧ (∀ k,k < n → w.cell? ⟨b,k,none⟩ = some (.int .u32 ((xs[k]?.getD 0 : Nat) : Int))) ∧ ∀ k,w.frozen? ⟨b,k,none⟩ = false := by
 have hl := h.len
 have hlt := h.lt
 rcases h with ⟨e,rfl⟩ | ⟨g,cap,cur,e,hg,hh,h1,h2,h3,hc⟩
 ·simp at hl; omega
 ·injection e with e1 e2 e3
  subst e1
  exact ⟨g,rfl,hg,(hlt g rfl).2,fun k hk => by rw [cell_of_row w g k _ _ _ hh]; exact hc k (by omega),fun k => frozen_of_row w g k _ _ hh⟩
theorem Own.put {w : World} {base b n c k z : Nat} {xs : List Nat} (h : Own w base (.slice (some ⟨b,0,none⟩) n c) xs) (hk : k < n) : Own (w.setCell ⟨b,k,none⟩ (.int .u32 (z : Int))) base (.slice (some ⟨b,0,none⟩) n c) (xs.set k z) := by
 have hl := h.len
 rcases h with ⟨e,rfl⟩ | ⟨g,cap,cur,e,hg,hh,h1,h2,h3,hc⟩
 ·cases e
 ·injection e with e1 e2 e3
  injection e1 with e1
  injection e1 with e1
  subst e1 e3
  refine Or.inr ⟨b,c,_,by rw [List.length_set,e2],hg,heap_setCell_same w b k _ _ _ hh,by rw [List.length_set]; exact h1,by rw [Array.size_setIfInBounds]; exact h2,h3,fun j hj => ?_⟩
  rw [List.length_set] at hj
  by_cases hjk : j = k
  ·subst hjk
   rw [Array.getElem?_setIfInBounds_self_of_lt (by omega),List.getElem?_set_self hj]
   rfl
  ·rw [Array.getElem?_setIfInBounds_ne (by omega),List.getElem?_set_ne (by omega)]
   exact hc j hj
structure Sts (W : World) (base N g : Nat) (A : Nat → Option Addr) (L C : Nat → Nat) (X : Nat → List Nat) : Prop where
 row : ∃ cur,W.heap[g]? = some (.cells cur 24 (0,0)) ∧ ∀ i,i < N → cur[i]? = some (.slice (A i) (L i) (C i))
 own : ∀ i,i < N → Own W base (.slice (A i) (L i) (C i)) (X i)
 ap : ∀ i j,i < N → j < N → i ≠ j → ApartV (.slice (A i) (L i) (C i)) (.slice (A j) (L j) (C j))
theorem Sts.cell {W : World} {base N g : Nat} {A : Nat → Option Addr} {L C : Nat → Nat} {X : Nat → List Nat} (h : Sts W base N g A L C X) (i : Nat) (hi : i < N) : W.cell? ⟨g,i,none⟩ = some (.slice (A i) (L i) (C i)) := by
 obtain ⟨cur,hh,hc⟩ := h.row
 rw [cell_of_row W g i _ _ _ hh]; exact hc i hi
theorem Sts.keep {W W' : World} {base N g : Nat} {A : Nat → Option Addr} {L C : Nat → Nat} {X : Nat → List Nat} (h : Sts W base N g A L C X) (hg : W'.heap[g]? = W.heap[g]?) (ho : ∀ i,i < N → Own W' base (.slice (A i) (L i) (C i)) (X i)) : Sts W' base N g A L C X := by
 obtain ⟨cur,hh,hc⟩ := h.row
 exact ⟨⟨cur,by rw [hg]; exact hh,hc⟩,ho,h.ap⟩
theorem Sts.below {W W' : World} {base N g : Nat} {A : Nat → Option Addr} {L C : Nat → Nat} {X : Nat → List Nat} (h : Sts W base N g A L C X) (hb : Below W.heap.size W W') : Sts W' base N g A L C X := by
 have hg : g < W.heap.size := by
  obtain ⟨cur,hh,_⟩ := h.row
  by_cases hlt : g < W.heap.size
  ·exact hlt
  ·rw [Array.getElem?_eq_none (by omega)] at hh; cases hh
 exact h.keep (hb.block g hg) (fun i hi => (h.own i hi).kept hb)
theorem Sts.put {W : World} {base N g i b k z : Nat} {A : Nat → Option Addr} {L C : Nat → Nat} {X : Nat → List Nat} (h : Sts W base N g A L C X) (hi : i < N) (hb : A i = some ⟨b,0,none⟩) (hk : k < L i) :
  Sts (W.setCell ⟨b,k,none⟩ (.int .u32 (z : Int))) base N g A L C (fun j => if j = i then (X i).set k z else X j) := by
 have ho := h.own i hi
 have hob : (Value.slice (A i) (L i) (C i)).ownBlock = some b := by rw [hb]; rfl
 obtain ⟨cu,hcu⟩ := ho.type b hob
 obtain ⟨cur,hh,hc⟩ := h.row
 have hgb : g ≠ b := fun e => by
  subst e; rw [hh] at hcu; injection hcu with hcu; injection hcu with _ hcu; exact absurd hcu (by decide)
 refine ⟨⟨cur,by rw [heap_setCell_other W _ g _ hgb]; exact hh,hc⟩,fun j hj => ?_,h.ap⟩
 by_cases hji : j = i
 ·subst hji
  rw [if_pos rfl]
  rw [hb] at ho ⊢
  exact ho.put hk
 ·rw [if_neg hji]
  refine (h.own j hj).keep (fun q _ hq => heap_setCell_other W _ q _ (fun e => ?_))
  subst e
  exact h.ap i j hi hj (by omega) _ hob hq
structure Gst (W : World) (base N g : Nat) (A : Nat → Option Addr) (L C : Nat → Nat) (i : Nat) (G : Nat → Value) (vgr : Value) : Prop where
 sts : Sts W base N g A L C (fun j => fl j (L j))
 own : ∀ j,j < i → Own W base (G j) (fl j (L j) ++ tl j 40)
 apG : ∀ j k,j < i → k < i → j ≠ k → ApartV (G j) (G k)
 apE : ∀ j k,j < i → k < N → j ≠ k → ApartV (G j) (.slice (A k) (L k) (C k))
 row : W.ownsRow base 22 1 vgr i ((List.range i).map G)
structure Gst1 (W : World) (base N g : Nat) (A : Nat → Option Addr) (L C : Nat → Nat) (i : Nat) (G : Nat → Value) (vgr : Value) (k : Nat) (v : Value) : Prop where
 gst : Gst W base N g A L C i G vgr
 own : Own W base v (fl i (L i) ++ tl i k)
 apG : ∀ j,j < i → ApartV v (G j)
 apE : ∀ j,j < N → j ≠ i → ApartV v (.slice (A j) (L j) (C j))
theorem row_type {w : World} {base n k : Nat} {t : TypeId} {v : Value} {xs : List Value} {cur : Array Value} {t' : TypeId} (h : w.ownsRow base t 1 v n xs) (hk : v.ownBlock = some k) (hb : w.heap[k]? = some (.cells cur t' (0,0))) (ht : t' ≠ t) : False := by
 obtain ⟨h1,h2 | ⟨g,cap,cur',e,hg,hh,r⟩⟩ := h
 ·rw [h2.1] at hk; cases hk
 ·rw [e] at hk
  simp only [Value.ownBlock] at hk
  injection hk with hk
  subst hk
  rw [hh] at hb
  injection hb with hb
  injection hb with _ hb
  exact ht hb.symm
theorem Gst1.start {W : World} {base N g i : Nat} {A : Nat → Option Addr} {L C : Nat → Nat} {G : Nat → Value} {vgr : Value} (h : Gst W base N g A L C i G vgr) (hi : i < N) : Gst1 W base N g A L C i G vgr 0 (.slice (A i) (L i) (C i)) :=
 ⟨h,by simpa [tl] using h.sts.own i hi,fun j hj => (h.apE j i hj hi (by omega)).symm,fun j hj hji => h.sts.ap i j hi hj (by omega)⟩
set_option maxHeartbeats 1000000 in
theorem Gst1.step {W : World} {base N g i k : Nat} {A : Nat → Option Addr} {L C : Nat → Nat} {G : Nat → Value} {vgr : Value} {a : Option Addr} {m c : Nat} (h : Gst1 W base N g A L C i G vgr k (.slice a m c)) (hi : i < N) (hb : base ≤ W.heap.size) (hm : m ≤ 35184372088831) :
  ∃ a' m' c' W',(Builtin.append_ #[22,22] 22 #[.slice a m c,.slice (some ⟨W.heap.size,0,none⟩) 1 1]).run Tryd.prog (W.alloc (.cells #[.int .u32 ((900000 + 1000 * i + k : Nat) : Int)] 48)) = .ok (.slice a' m' c') W' ∧
   Gst1 W' base N g A L C i G vgr (k + 1) (.slice a' m' c') ∧ Below base W W' := by
 obtain ⟨v',W',hr,ho,hap,hpre⟩ := append_own1 W base m c (900000 + 1000 * i + k) a _ h.own hb hm
 obtain ⟨a',m',c',rfl⟩ := ho.slice
 have hvl := h.own.lt
 have hfar : ∀ u ys,Own W base u ys → ApartV (.slice a m c) u → Own W' base u ys := fun u ys hu hau => hu.keep (fun q hq hqu => hap.block q hq (fun e => hau q e.symm hqu))
 have hE : ∀ j,j < N → Own W' base (.slice (A j) (L j) (C j)) (fl j (L j)) := fun j hj => by
  by_cases hji : j = i
  ·subst hji
   have hu := h.gst.sts.own j hj
   by_cases hs : ApartV (.slice a m c) (.slice (A j) (L j) (C j))
   ·exact hfar _ _ hu hs
   ·have : a = A j ∧ L j ≤ m := by
     have hlm := h.own.len
     rw [List.length_append,fl_len,tl_len] at hlm
     refine ⟨?_,by omega⟩
     have h1 := h.own
     have h2 := hu
     rcases h1 with ⟨e,_⟩ | ⟨g1,_,_,e,_⟩
     ·exact absurd (fun q hq => by rw [e] at hq; cases hq) hs
     ·rcases h2 with ⟨e2,_⟩ | ⟨g2,_,_,e2,_⟩
      ·exact absurd (fun q hq hq2 => by rw [e2] at hq2; cases hq2) hs
      ·have e := (Value.slice.inj e).1
       have e2 := (Value.slice.inj e2).1
       by_cases h12 : g1 = g2
       ·rw [e,e2,h12]
       ·exact absurd (fun q hq hq2 => by
         rw [e] at hq; rw [e2] at hq2
         simp only [Value.ownBlock] at hq hq2
         injection hq with hq; injection hq2 with hq2; omega) hs
    rw [this.1] at hpre
    exact hpre _ _ _ this.2 hu
  ·exact hfar _ _ (h.gst.sts.own j hj) (h.apE j hj hji)
 have hnew : ∀ u ys,Own W base u ys → ApartV (.slice a m c) u → ApartV (.slice a' m' c') u := fun u ys hu hau q hq hqu => by
  rcases hap.own with e | ⟨g3,e,h3⟩
  ·rw [e] at hq; exact hau q hq hqu
  ·rw [e] at hq; injection hq with hq; have := hu.lt q hqu; omega
 have hgv : some g ≠ (Value.slice a m c).ownBlock := fun e => by
  obtain ⟨cu,hcu⟩ := h.own.type g e.symm
  obtain ⟨cur,hh,_⟩ := h.gst.sts.row
  rw [hh] at hcu; injection hcu with hcu; injection hcu with _ hcu; exact absurd hcu (by decide)
 have hgl : g < W.heap.size := by
  obtain ⟨cur,hh,_⟩ := h.gst.sts.row
  by_cases hlt : g < W.heap.size
  ·exact hlt
  ·rw [Array.getElem?_eq_none (by omega)] at hh; cases hh
 have hrow : W'.ownsRow base 22 1 vgr i ((List.range i).map G) := by
  have hr0 := h.gst.row
  have hr1 := hr0
  obtain ⟨h1,h2 | ⟨q,cap,cur',e,hq,hh,r⟩⟩ := hr0
  ·exact ⟨h1,Or.inl h2⟩
  ·have hlt : q < W.heap.size := by
    by_cases hlt : q < W.heap.size
    ·exact hlt
    ·rw [Array.getElem?_eq_none (by omega)] at hh; cases hh
   refine ⟨h1,Or.inr ⟨q,cap,cur',e,hq,?_,r⟩⟩
   rw [hap.block q hlt ?_]; exact hh
   intro e2
   obtain ⟨cu,hcu⟩ := h.own.type q e2.symm
   rw [hh] at hcu; injection hcu with hcu; injection hcu with _ hcu; exact absurd hcu (by decide)
 refine ⟨a',m',c',W',hr,⟨⟨h.gst.sts.keep (hap.block g hgl hgv) hE,fun j hj => hfar _ _ (h.gst.own j hj) (h.apG j hj),h.gst.apG,h.gst.apE,hrow⟩,by rw [tl_succ,← List.append_assoc]; exact ho,fun j hj => hnew _ _ (h.gst.own j hj) (h.apG j hj),fun j hj hji => hnew _ _ (h.gst.sts.own j hj) (h.apE j hj hji)⟩,?_⟩
 exact ⟨hap.os,hap.tape,hap.output,hap.size,fun q hq => hap.block q (by omega) (fun e => by have := hvl q e.symm; omega)⟩
theorem Tryd.info_limbs : (Tryd.prog.info? 22).map (fun i => (i.zero,i.size,i.bytes)) = some (some (.slice none 0 0),1,24) := by kernel_rfl
theorem Tryd.under_rows : Tryd.prog.underlying 69 = some (.slice 22) := by kernel_rfl
set_option maxHeartbeats 1000000 in
set_option maxRecDepth 20000 in
theorem Gst1.close {W : World} {base N g i : Nat} {A : Nat → Option Addr} {L C : Nat → Nat} {G : Nat → Value} {vgr : Value} {a : Option Addr} {m c : Nat} (h : Gst1 W base N g A L C i G vgr 40 (.slice a m c)) (hi : i < N) (hN : N ≤ 100) (hb : base ≤ W.heap.size) :
  ∃ v' W' G',(Builtin.append_ #[69,69] 69 #[vgr,.slice (some ⟨W.heap.size,0,none⟩) 1 1]).run Tryd.prog (W.alloc (.cells #[.slice a m c] 22)) = .ok v' W' ∧
   Gst W' base N g A L C (i + 1) G' v' ∧ Below base W W' := by
 obtain ⟨i0,hi0,hz0,hz1,hz2⟩ := info_parts Tryd.info_limbs
 obtain ⟨v',W',h1,h2,h3,_,h5⟩ := run_append_own_at (P := Tryd.prog) (w := W.alloc (.cells #[.slice a m c] 22)) base 69 69 22 i0 (.slice none 0 0) 1 24 Tryd.under_rows hi0 hz0 hz1 hz2 rfl (by decide) vgr i ((List.range i).map G) (h.gst.row.alloc _) ⟨W.heap.size,0,none⟩ 1 1 [.slice a m c] rfl (cell_one_new _ _ _) (fun u hu => by simp at hu; subst hu; rfl) (by unfold maxLen; omega) (by omega) (by simp; omega)
 have hblk : ∀ q,q < W.heap.size → some q ≠ vgr.ownBlock → W'.heap[q]? = W.heap[q]? := fun q hq hne => (h3.block q (by simp; omega) hne).trans ((gr_alloc W _).block q hq)
 have hkeep : ∀ u ys,Own W base u ys → Own W' base u ys := fun u ys hu => hu.keep (fun q hq hqu => hblk q hq (fun e => by
  obtain ⟨cu,hcu⟩ := hu.type q hqu
  exact row_type h.gst.row e.symm hcu (by decide)))
 have hgl : g < W.heap.size := by
  obtain ⟨cur,hh,_⟩ := h.gst.sts.row
  by_cases hlt : g < W.heap.size
  ·exact hlt
  ·rw [Array.getElem?_eq_none (by omega)] at hh; cases hh
 have hgn : some g ≠ vgr.ownBlock := fun e => by
  obtain ⟨cur,hh,_⟩ := h.gst.sts.row
  exact row_type h.gst.row e.symm hh (by decide)
 have hlt : ∀ q,vgr.ownBlock = some q → base ≤ q := fun q hq => (h.gst.row.lt q hq).1
 refine ⟨v',W',fun j => if j = i then .slice a m c else G j,h1,⟨h.gst.sts.keep (hblk g hgl hgn) (fun j hj => hkeep _ _ (h.gst.sts.own j hj)),fun j hj => ?_,fun j k hj hk hjk => ?_,fun j k hj hk hjk => ?_,?_⟩,?_⟩
 ·by_cases hji : j = i
  ·subst hji; rw [if_pos rfl]; exact hkeep _ _ h.own
  ·rw [if_neg hji]; exact hkeep _ _ (h.gst.own j (by omega))
 ·by_cases hji : j = i
  ·subst hji
   rw [if_pos rfl,if_neg (by omega)]
   exact h.apG k (by omega)
  ·rw [if_neg hji]
   by_cases hki : k = i
   ·subst hki; rw [if_pos rfl]; exact (h.apG j (by omega)).symm
   ·rw [if_neg hki]; exact h.gst.apG j k (by omega) (by omega) hjk
 ·by_cases hji : j = i
  ·subst hji; rw [if_pos rfl]; exact h.apE k hk (by omega)
  ·rw [if_neg hji]; exact h.gst.apE j k (by omega) hk hjk
 ·have e : (List.range (i + 1)).map (fun j => if j = i then Value.slice a m c else G j) = (List.range i).map G ++ [.slice a m c] := by
   rw [List.range_succ,List.map_append]
   congr 1
   ·apply List.map_congr_left
    intro j hj
    rw [if_neg (by have := List.mem_range.1 hj; omega)]
   ·simp
  rw [e]; exact h2
 ·exact ⟨h3.os,h3.tape,h3.output,by have := h3.size; simp at this; omega,fun q hq => hblk q (by omega) (fun e => by have := hlt q e.symm; omega)⟩
def Rd (W : World) (N g q : Nat) (A : Nat → Option Addr) (L C : Nat → Nat) : Prop := ∀ i,i < N →
  ∃ b cb,W.cell? ⟨q,i,none⟩ = some (.slice (some ⟨b,0,none⟩) (L i + 40) cb) ∧
   (∀ k,k < L i → W.cell? ⟨b,k,none⟩ = some (.int .u32 ((1000 * i + k % 1000 : Nat) : Int))) ∧ (∀ k,k < 40 → W.cell? ⟨b,L i + k,none⟩ = some (.int .u32 ((900000 + 1000 * i + k : Nat) : Int))) ∧
   W.cell? ⟨g,i,none⟩ = some (.slice (A i) (L i) (C i)) ∧ (0 < L i → ∃ d,A i = some ⟨d,0,none⟩ ∧ ∀ k,k < L i → W.cell? ⟨d,k,none⟩ = some (.int .u32 ((1000 * i + k % 1000 : Nat) : Int)))
theorem Rd.drewN {W : World} {N g q : Nat} {A : Nat → Option Addr} {L C : Nat → Nat} (h : Rd W N g q A L C) (k : Nat) : Rd (W.drewN k) N g q A L C := h
theorem Gst.read {W : World} {base N g : Nat} {A : Nat → Option Addr} {L C : Nat → Nat} {G : Nat → Value} {vgr : Value} (h : Gst W base N g A L C N G vgr) (h0 : 0 < N) :
  ∃ q cap,vgr = .slice (some ⟨q,0,none⟩) N cap ∧ Rd W N g q A L C := by
 obtain ⟨q,cap,hv⟩ := own_form h.row h0
 refine ⟨q,cap,hv,fun i hi => ?_⟩
 obtain ⟨a,n,c,hG⟩ := (h.own i hi).slice
 have ho := h.own i hi
 rw [hG] at ho
 have hn := ho.len
 rw [List.length_append,fl_len,tl_len] at hn
 subst hn
 obtain ⟨b,rfl,_,_,hc,_⟩ := ho.open (by omega)
 have hr := h.row
 rw [hv] at hr
 refine ⟨b,c,?_,fun k hk => ?_,fun k hk => ?_,h.sts.cell i hi,fun h0 => ?_⟩
 ·rw [hr.cellAt i (by omega),List.getElem?_map,List.getElem?_range hi]; simp [hG]
 ·rw [hc k (by omega),List.getElem?_append_left (by rw [fl_len]; exact hk),fl_at _ _ _ hk]
 ·rw [hc (L i + k) (by omega),List.getElem?_append_right (by rw [fl_len]; omega),fl_len,Nat.add_sub_cancel_left,tl_at _ _ _ hk]
 ·obtain ⟨d,hd,_,_,hcd,_⟩ := (h.sts.own i hi).open h0
  exact ⟨d,hd,fun k hk => by rw [hcd k hk,fl_at _ _ _ hk]⟩
end Go.Proofs.YtecmcjlgknfnlaaDoor
namespace Go.Proofs.YtecmcjlgknfnlaaDoor
open Go.RowKit
structure RS (W : World) (p n gg cg gw cw i : Nat) (a : Option Addr) (k c : Nat) (a' : Option Addr) (k' c' : Nat) (b0 b1 b2 b3 b4 b5 b6 b7 b8 b9 b10 b11 b12 b13 b14 b15 : Bool) (v0 v1 v2 v3 v4 v5 v6 v7 v8 v9 v10 v11 v12 v13 v14 v15 : Value) (w' : World) : Prop where
 bel : Below W.heap.size W w'
 f0 : b0 = true → v0 = .pointer (some ⟨p,0,none⟩)
 f1 : b1 = true → v1 = .pointer (some ⟨p,0,none⟩)
 f2 : b2 = true → v2 = .pointer (some ⟨p,0,none⟩)
 f3 : b3 = true → v3 = .slice (some ⟨gg,0,none⟩) n cg
 f4 : b4 = true → v4 = .int .i64 (i : Int)
 f5 : b5 = true → v5 = .pointer (some ⟨gg,i,none⟩)
 f6 : b6 = true → v6 = .agg #[.slice a k c]
 f7 : b7 = true → v7 = .pointer (some ⟨p,0,none⟩)
 f8 : b8 = true → v8 = .pointer (some ⟨p,0,none⟩)
 f9 : b9 = true → v9 = .pointer (some ⟨p,1,none⟩)
 f10 : b10 = true → v10 = .slice (some ⟨gw,0,none⟩) n cw
 f11 : b11 = true → v11 = .int .i64 (i : Int)
 f12 : b12 = true → v12 = .pointer (some ⟨gw,i,none⟩)
 f13 : b13 = true → v13 = .agg #[.slice a' k' c']
 f14 : b14 = true → v14 = .bool true
 f15 : b15 = true → v15 = .bool false
set_option maxHeartbeats 4000000 in
set_option maxRecDepth 10000 in
theorem stands_any (p base n N gg cg gw cw : Nat) (vl : Value) (gs ws : List Value) (w : World) (hB : Bk w p base n (.slice (some ⟨gg,0,none⟩) n cg) (.slice (some ⟨gw,0,none⟩) n cw) gs ws) (hn : n ≤ 100) (hp : p < w.heap.size) (hgg : gg < w.heap.size) (hgw : gw < w.heap.size)
  (A : Nat → Option Addr) (L C : Nat → Nat) (hN : N ≤ 100) (hN0 : 0 < N) (hL : ∀ i,i < N → L i ≤ 35184372087808) (hbase : base ≤ w.heap.size)
  (happ : Hid (∀ wr,Below w.heap.size w wr → ∃ g cap W2 X,(Builtin.append_ #[32,32] 32 #[.slice (some ⟨gg,0,none⟩) n cg,vl]).run Tryd.prog wr = .ok (.slice (some ⟨g,0,none⟩) N cap) W2 ∧ Sts W2 base N g A L C X ∧ Below base w W2))
  (hsame : Hid (∀ i,i < n → ∃ a k c a' k' c' m,gs[i]? = some (.slice a k c) ∧ ws[i]? = some (.slice a' k' c') ∧ Num w a k m ∧ Num w a' k' m)) :
  Calls Tryd.prog 14 #[.pointer (some ⟨p,0,none⟩),vl] w fun e w' => e = .returned (.bool true) ∧ Below base w w' := by
 have hb0 : w.cell? ⟨p,0,none⟩ = some (.slice (some ⟨gg,0,none⟩) n cg) := by rw [cell_of_row w p 0 _ _ _ hB.bk]; rfl
 have hb1 : w.cell? ⟨p,1,none⟩ = some (.slice (some ⟨gw,0,none⟩) n cw) := by rw [cell_of_row w p 1 _ _ _ hB.bk]; rfl
 have hb2 : w.cell? ⟨p,2,none⟩ = some (.bool false) := by rw [cell_of_row w p 2 _ _ _ hB.bk]; rfl
 have HB := hide hB
 clear hB
 go_enter Tryd.func14,Tryd.ntmps14
 go_wp2
 go_loopw [5] (fun s5 wr => ∃ i : Nat,i ≤ n ∧ s5 = .int .i64 (i : Int) ∧ Below w.heap.size w wr) (fun s5 _ => n - (intOf s5).toNat)
 case atStart => exact ⟨0,Nat.zero_le _,rfl,gr_refl _⟩
 case round =>
  obtain ⟨i,hi,rfl,hbel⟩ := hrel
  have hsz := hbel.size
  have hpr : p < wr.heap.size := by omega
  have hgr : gg < wr.heap.size := by omega
  have hwr : gw < wr.heap.size := by omega
  have c0 : wr.cell? ⟨p,0,none⟩ = some (.slice (some ⟨gg,0,none⟩) n cg) := (hbel.cell (by exact hp)).trans hb0
  have c1 : wr.cell? ⟨p,1,none⟩ = some (.slice (some ⟨gw,0,none⟩) n cw) := (hbel.cell (by exact hp)).trans hb1
  by_cases hin : i < n
  ·obtain ⟨a,k,c,a',k',c',m,hgi,hwi,hna,hnb⟩ := unhide hsame i hin
   have d0 : wr.cell? ⟨gg,i,none⟩ = some (.slice a k c) := (hbel.cell (by exact hgg)).trans (((unhide HB).rg.cellAt i (by omega)).trans hgi)
   have d1 : wr.cell? ⟨gw,i,none⟩ = some (.slice a' k' c') := (hbel.cell (by exact hgw)).trans (((unhide HB).rw.cellAt i (by omega)).trans hwi)
   have HN := hide (hna.kept hbel)
   have HN' := hide (hnb.kept hbel)
   clear hna hnb
   go_wp2_with fail
   refine wp_region_any (by kernel_rfl) ?_
   refine wpAny_inv (fun l act w' => ∃ (b0 b1 b2 b3 b4 b5 b6 b7 b8 b9 b10 b11 b12 b13 b14 b15 : Bool) (v0 v1 v2 v3 v4 v5 v6 v7 v8 v9 v10 v11 v12 v13 v14 v15 : Value),l = #[b0,b1,b2,b3,b4,b5,b6,b7,b8,b9,b10,b11,b12,b13,b14,b15] ∧ act = { tmps := #[Value.pointer (some ⟨p,0,none⟩),vl,undef,undef,u4,Value.int IntKind.i64 (i : Int),undef,undef,undef,undef,undef,undef,undef,undef,undef,undef,undef,Value.pointer (some ⟨p,0,none⟩),Value.pointer (some ⟨p,0,none⟩),Value.pointer (some ⟨p,2,none⟩),Value.bool false,Value.int IntKind.i64 (i : Int),Value.pointer (some ⟨p,0,none⟩),Value.pointer (some ⟨p,0,none⟩),Value.pointer (some ⟨p,0,none⟩),Value.slice (some ⟨gg,0,none⟩) n cg,Value.int IntKind.i64 (n : Int),Value.bool true,u28,u29,v0,v1,v2,v3,v4,v5,v6,v7,v8,v9,v10,v11,v12,v13,v14,v15,undef,undef,undef,undef,undef,undef,undef,undef,undef,undef,undef,undef,undef,undef,undef,undef,undef,undef,undef,undef,undef,undef,undef,undef,undef,undef,undef,undef,undef,undef,undef,undef,undef,undef,undef,undef,undef,undef,undef,undef,undef,undef,undef,undef,undef,undef,undef,undef,undef,undef,undef,undef,undef,undef,undef,undef,undef,undef,undef,undef,undef,undef,undef,undef,undef,undef,undef,undef,undef,undef,undef,undef,undef,undef,undef,undef,undef,undef,undef,undef,undef,undef,undef,undef,undef,undef,undef,undef,undef,undef,undef,undef,undef,undef,undef,undef,undef,undef,undef,undef,undef,undef,undef,undef,undef,undef,undef,undef,undef,undef,undef,undef,undef,undef,undef,undef,undef,undef,undef,undef,undef,undef,undef,undef,undef,undef,undef,undef,undef,undef,undef,undef,undef],defers := [] } ∧ RS wr p n gg cg gw cw i a k c a' k' c' b0 b1 b2 b3 b4 b5 b6 b7 b8 b9 b10 b11 b12 b13 b14 b15 v0 v1 v2 v3 v4 v5 v6 v7 v8 v9 v10 v11 v12 v13 v14 v15 w') ?_ ?_ _ _ _ _ ?_ ?_
   ·rintro l act w' i9 ⟨b0,b1,b2,b3,b4,b5,b6,b7,b8,b9,b10,b11,b12,b13,b14,b15,v0,v1,v2,v3,v4,v5,v6,v7,v8,v9,v10,v11,v12,v13,v14,v15,rfl,rfl,hR⟩ hi9 hl9
    have hin9 : i9 < 16 := by
     by_cases h : i9 < 16
     ·exact h
     ·rw [Array.getElem?_eq_none (by simp; omega)] at hl9; cases hl9
    have hcase : i9 = 0 ∨ i9 = 1 ∨ i9 = 2 ∨ i9 = 3 ∨ i9 = 4 ∨ i9 = 5 ∨ i9 = 6 ∨ i9 = 7 ∨ i9 = 8 ∨ i9 = 9 ∨ i9 = 10 ∨ i9 = 11 ∨ i9 = 12 ∨ i9 = 13 ∨ i9 = 14 ∨ i9 = 15 := by omega
    clear hin9
    rcases hcase with rfl | rfl | rfl | rfl | rfl | rfl | rfl | rfl | rfl | rfl | rfl | rfl | rfl | rfl | rfl | rfl
    ·refine wpOp_step rfl (fun K hK => ?_)
     go_simp
     exact hK _ _ ⟨true,b1,b2,b3,b4,b5,b6,b7,b8,b9,b10,b11,b12,b13,b14,b15,_,v1,v2,v3,v4,v5,v6,v7,v8,v9,v10,v11,v12,v13,v14,v15,rfl,rfl,⟨hR.bel,fun _ => rfl,hR.f1,hR.f2,hR.f3,hR.f4,hR.f5,hR.f6,hR.f7,hR.f8,hR.f9,hR.f10,hR.f11,hR.f12,hR.f13,hR.f14,hR.f15⟩⟩
    ·obtain ⟨o9,ho9,hd9⟩ := (mem_ready.1 hi9).2
     cases ho9
     have e0 : b0 = true := hd9 ⟨0,.data⟩ (by simp) rfl
     clear hd9
     obtain rfl := hR.f0 e0
     refine wpOp_step rfl (fun K hK => ?_)
     go_simp
     exact hK _ _ ⟨b0,true,b2,b3,b4,b5,b6,b7,b8,b9,b10,b11,b12,b13,b14,b15,_,_,v2,v3,v4,v5,v6,v7,v8,v9,v10,v11,v12,v13,v14,v15,rfl,rfl,⟨hR.bel,hR.f0,fun _ => rfl,hR.f2,hR.f3,hR.f4,hR.f5,hR.f6,hR.f7,hR.f8,hR.f9,hR.f10,hR.f11,hR.f12,hR.f13,hR.f14,hR.f15⟩⟩
    ·obtain ⟨o9,ho9,hd9⟩ := (mem_ready.1 hi9).2
     cases ho9
     have e1 : b1 = true := hd9 ⟨1,.data⟩ (by simp) rfl
     clear hd9
     obtain rfl := hR.f1 e1
     refine wpOp_step rfl (fun K hK => ?_)
     go_simp
     exact hK _ _ ⟨b0,b1,true,b3,b4,b5,b6,b7,b8,b9,b10,b11,b12,b13,b14,b15,v0,_,_,v3,v4,v5,v6,v7,v8,v9,v10,v11,v12,v13,v14,v15,rfl,rfl,⟨hR.bel,hR.f0,hR.f1,fun _ => rfl,hR.f3,hR.f4,hR.f5,hR.f6,hR.f7,hR.f8,hR.f9,hR.f10,hR.f11,hR.f12,hR.f13,hR.f14,hR.f15⟩⟩
    ·obtain ⟨o9,ho9,hd9⟩ := (mem_ready.1 hi9).2
     cases ho9
     have e2 : b2 = true := hd9 ⟨2,.data⟩ (by simp) rfl
     clear hd9
     obtain rfl := hR.f2 e2
     have hc9 : w'.cell? ⟨p,0,none⟩ = _ := (hR.bel.cell (by exact hpr)).trans c0
     refine wpOp_step rfl (fun K hK => ?_)
     go_simp
     exact hK _ _ ⟨b0,b1,b2,true,b4,b5,b6,b7,b8,b9,b10,b11,b12,b13,b14,b15,v0,v1,_,_,v4,v5,v6,v7,v8,v9,v10,v11,v12,v13,v14,v15,rfl,rfl,⟨hR.bel,hR.f0,hR.f1,hR.f2,fun _ => rfl,hR.f4,hR.f5,hR.f6,hR.f7,hR.f8,hR.f9,hR.f10,hR.f11,hR.f12,hR.f13,hR.f14,hR.f15⟩⟩
    ·refine wpOp_step rfl (fun K hK => ?_)
     go_simp
     exact hK _ _ ⟨b0,b1,b2,b3,true,b5,b6,b7,b8,b9,b10,b11,b12,b13,b14,b15,v0,v1,v2,v3,_,v5,v6,v7,v8,v9,v10,v11,v12,v13,v14,v15,rfl,rfl,⟨hR.bel,hR.f0,hR.f1,hR.f2,hR.f3,fun _ => rfl,hR.f5,hR.f6,hR.f7,hR.f8,hR.f9,hR.f10,hR.f11,hR.f12,hR.f13,hR.f14,hR.f15⟩⟩
    ·obtain ⟨o9,ho9,hd9⟩ := (mem_ready.1 hi9).2
     cases ho9
     have e3 : b3 = true := hd9 ⟨3,.data⟩ (by simp) rfl
     have e4 : b4 = true := hd9 ⟨4,.data⟩ (by simp) rfl
     clear hd9
     obtain rfl := hR.f3 e3
     obtain rfl := hR.f4 e4
     refine wpOp_step rfl (fun K hK => ?_)
     go_simp
     exact hK _ _ ⟨b0,b1,b2,b3,b4,true,b6,b7,b8,b9,b10,b11,b12,b13,b14,b15,v0,v1,v2,_,_,_,v6,v7,v8,v9,v10,v11,v12,v13,v14,v15,rfl,rfl,⟨hR.bel,hR.f0,hR.f1,hR.f2,hR.f3,hR.f4,fun _ => rfl,hR.f6,hR.f7,hR.f8,hR.f9,hR.f10,hR.f11,hR.f12,hR.f13,hR.f14,hR.f15⟩⟩
    ·obtain ⟨o9,ho9,hd9⟩ := (mem_ready.1 hi9).2
     cases ho9
     have e5 : b5 = true := hd9 ⟨5,.data⟩ (by simp) rfl
     clear hd9
     obtain rfl := hR.f5 e5
     have hc9 : w'.cell? ⟨gg,i,none⟩ = _ := (hR.bel.cell (by exact hgr)).trans d0
     refine wpOp_step rfl (fun K hK => ?_)
     go_simp
     exact hK _ _ ⟨b0,b1,b2,b3,b4,b5,true,b7,b8,b9,b10,b11,b12,b13,b14,b15,v0,v1,v2,v3,v4,_,_,v7,v8,v9,v10,v11,v12,v13,v14,v15,rfl,rfl,⟨hR.bel,hR.f0,hR.f1,hR.f2,hR.f3,hR.f4,hR.f5,fun _ => rfl,hR.f7,hR.f8,hR.f9,hR.f10,hR.f11,hR.f12,hR.f13,hR.f14,hR.f15⟩⟩
    ·refine wpOp_step rfl (fun K hK => ?_)
     go_simp
     exact hK _ _ ⟨b0,b1,b2,b3,b4,b5,b6,true,b8,b9,b10,b11,b12,b13,b14,b15,v0,v1,v2,v3,v4,v5,v6,_,v8,v9,v10,v11,v12,v13,v14,v15,rfl,rfl,⟨hR.bel,hR.f0,hR.f1,hR.f2,hR.f3,hR.f4,hR.f5,hR.f6,fun _ => rfl,hR.f8,hR.f9,hR.f10,hR.f11,hR.f12,hR.f13,hR.f14,hR.f15⟩⟩
    ·obtain ⟨o9,ho9,hd9⟩ := (mem_ready.1 hi9).2
     cases ho9
     have e7 : b7 = true := hd9 ⟨7,.data⟩ (by simp) rfl
     clear hd9
     obtain rfl := hR.f7 e7
     refine wpOp_step rfl (fun K hK => ?_)
     go_simp
     exact hK _ _ ⟨b0,b1,b2,b3,b4,b5,b6,b7,true,b9,b10,b11,b12,b13,b14,b15,v0,v1,v2,v3,v4,v5,v6,_,_,v9,v10,v11,v12,v13,v14,v15,rfl,rfl,⟨hR.bel,hR.f0,hR.f1,hR.f2,hR.f3,hR.f4,hR.f5,hR.f6,hR.f7,fun _ => rfl,hR.f9,hR.f10,hR.f11,hR.f12,hR.f13,hR.f14,hR.f15⟩⟩
    ·obtain ⟨o9,ho9,hd9⟩ := (mem_ready.1 hi9).2
     cases ho9
     have e8 : b8 = true := hd9 ⟨8,.data⟩ (by simp) rfl
     clear hd9
     obtain rfl := hR.f8 e8
     refine wpOp_step rfl (fun K hK => ?_)
     go_simp
     exact hK _ _ ⟨b0,b1,b2,b3,b4,b5,b6,b7,b8,true,b10,b11,b12,b13,b14,b15,v0,v1,v2,v3,v4,v5,v6,v7,_,_,v10,v11,v12,v13,v14,v15,rfl,rfl,⟨hR.bel,hR.f0,hR.f1,hR.f2,hR.f3,hR.f4,hR.f5,hR.f6,hR.f7,hR.f8,fun _ => rfl,hR.f10,hR.f11,hR.f12,hR.f13,hR.f14,hR.f15⟩⟩
    ·obtain ⟨o9,ho9,hd9⟩ := (mem_ready.1 hi9).2
     cases ho9
     have e9 : b9 = true := hd9 ⟨9,.data⟩ (by simp) rfl
     clear hd9
     obtain rfl := hR.f9 e9
     have hc9 : w'.cell? ⟨p,1,none⟩ = _ := (hR.bel.cell (by exact hpr)).trans c1
     refine wpOp_step rfl (fun K hK => ?_)
     go_simp
     exact hK _ _ ⟨b0,b1,b2,b3,b4,b5,b6,b7,b8,b9,true,b11,b12,b13,b14,b15,v0,v1,v2,v3,v4,v5,v6,v7,v8,_,_,v11,v12,v13,v14,v15,rfl,rfl,⟨hR.bel,hR.f0,hR.f1,hR.f2,hR.f3,hR.f4,hR.f5,hR.f6,hR.f7,hR.f8,hR.f9,fun _ => rfl,hR.f11,hR.f12,hR.f13,hR.f14,hR.f15⟩⟩
    ·refine wpOp_step rfl (fun K hK => ?_)
     go_simp
     exact hK _ _ ⟨b0,b1,b2,b3,b4,b5,b6,b7,b8,b9,b10,true,b12,b13,b14,b15,v0,v1,v2,v3,v4,v5,v6,v7,v8,v9,v10,_,v12,v13,v14,v15,rfl,rfl,⟨hR.bel,hR.f0,hR.f1,hR.f2,hR.f3,hR.f4,hR.f5,hR.f6,hR.f7,hR.f8,hR.f9,hR.f10,fun _ => rfl,hR.f12,hR.f13,hR.f14,hR.f15⟩⟩
    ·obtain ⟨o9,ho9,hd9⟩ := (mem_ready.1 hi9).2
     cases ho9
     have e10 : b10 = true := hd9 ⟨10,.data⟩ (by simp) rfl
     have e11 : b11 = true := hd9 ⟨11,.data⟩ (by simp) rfl
     clear hd9
     obtain rfl := hR.f10 e10
     obtain rfl := hR.f11 e11
     refine wpOp_step rfl (fun K hK => ?_)
     go_simp
     exact hK _ _ ⟨b0,b1,b2,b3,b4,b5,b6,b7,b8,b9,b10,b11,true,b13,b14,b15,v0,v1,v2,v3,v4,v5,v6,v7,v8,v9,_,_,_,v13,v14,v15,rfl,rfl,⟨hR.bel,hR.f0,hR.f1,hR.f2,hR.f3,hR.f4,hR.f5,hR.f6,hR.f7,hR.f8,hR.f9,hR.f10,hR.f11,fun _ => rfl,hR.f13,hR.f14,hR.f15⟩⟩
    ·obtain ⟨o9,ho9,hd9⟩ := (mem_ready.1 hi9).2
     cases ho9
     have e12 : b12 = true := hd9 ⟨12,.data⟩ (by simp) rfl
     clear hd9
     obtain rfl := hR.f12 e12
     have hc9 : w'.cell? ⟨gw,i,none⟩ = _ := (hR.bel.cell (by exact hwr)).trans d1
     refine wpOp_step rfl (fun K hK => ?_)
     go_simp
     exact hK _ _ ⟨b0,b1,b2,b3,b4,b5,b6,b7,b8,b9,b10,b11,b12,true,b14,b15,v0,v1,v2,v3,v4,v5,v6,v7,v8,v9,v10,v11,_,_,v14,v15,rfl,rfl,⟨hR.bel,hR.f0,hR.f1,hR.f2,hR.f3,hR.f4,hR.f5,hR.f6,hR.f7,hR.f8,hR.f9,hR.f10,hR.f11,hR.f12,fun _ => rfl,hR.f14,hR.f15⟩⟩
    ·obtain ⟨o9,ho9,hd9⟩ := (mem_ready.1 hi9).2
     cases ho9
     have e6 : b6 = true := hd9 ⟨6,.data⟩ (by simp) rfl
     have e13 : b13 = true := hd9 ⟨13,.data⟩ (by simp) rfl
     clear hd9
     obtain rfl := hR.f6 e6
     obtain rfl := hR.f13 e13
     refine wpOp_step rfl (fun K hK => ?_)
     go_simp
     go_wp2_with fail
     refine (same_any a a' k k' c c' m m _ ((unhide HN).kept hR.bel) ((unhide HN').kept hR.bel)).mono ?_
     rintro e w9 ⟨rfl,hb9⟩
     exact hK _ _ ⟨b0,b1,b2,b3,b4,b5,b6,b7,b8,b9,b10,b11,b12,b13,true,b15,v0,v1,v2,v3,v4,v5,_,v7,v8,v9,v10,v11,v12,_,_,v15,rfl,rfl,⟨gr_trans hR.bel hb9,hR.f0,hR.f1,hR.f2,hR.f3,hR.f4,hR.f5,hR.f6,hR.f7,hR.f8,hR.f9,hR.f10,hR.f11,hR.f12,hR.f13,fun _ => by simp,hR.f15⟩⟩
    ·obtain ⟨o9,ho9,hd9⟩ := (mem_ready.1 hi9).2
     cases ho9
     have e14 : b14 = true := hd9 ⟨14,.data⟩ (by simp) rfl
     clear hd9
     obtain rfl := hR.f14 e14
     refine wpOp_step rfl (fun K hK => ?_)
     go_simp
     exact hK _ _ ⟨b0,b1,b2,b3,b4,b5,b6,b7,b8,b9,b10,b11,b12,b13,b14,true,v0,v1,v2,v3,v4,v5,v6,v7,v8,v9,v10,v11,v12,v13,_,_,rfl,rfl,⟨hR.bel,hR.f0,hR.f1,hR.f2,hR.f3,hR.f4,hR.f5,hR.f6,hR.f7,hR.f8,hR.f9,hR.f10,hR.f11,hR.f12,hR.f13,hR.f14,fun _ => rfl⟩⟩
   ·rintro l act w' ⟨b0,b1,b2,b3,b4,b5,b6,b7,b8,b9,b10,b11,b12,b13,b14,b15,v0,v1,v2,v3,v4,v5,v6,v7,v8,v9,v10,v11,v12,v13,v14,v15,rfl,rfl,hR⟩ hr9
    have e0 : b0 = true := ready_nil (i := 0) hr9 rfl (by intro e he hb; simp at he; (try (repeat' (rcases he with rfl | he))); all_goals (first | assumption | (exact absurd hb (by decide))))
    have e1 : b1 = true := ready_nil (i := 1) hr9 rfl (by intro e he hb; simp at he; (try (repeat' (rcases he with rfl | he))); all_goals (first | assumption | (exact absurd hb (by decide))))
    have e2 : b2 = true := ready_nil (i := 2) hr9 rfl (by intro e he hb; simp at he; (try (repeat' (rcases he with rfl | he))); all_goals (first | assumption | (exact absurd hb (by decide))))
    have e3 : b3 = true := ready_nil (i := 3) hr9 rfl (by intro e he hb; simp at he; (try (repeat' (rcases he with rfl | he))); all_goals (first | assumption | (exact absurd hb (by decide))))
    have e4 : b4 = true := ready_nil (i := 4) hr9 rfl (by intro e he hb; simp at he; (try (repeat' (rcases he with rfl | he))); all_goals (first | assumption | (exact absurd hb (by decide))))
    have e5 : b5 = true := ready_nil (i := 5) hr9 rfl (by intro e he hb; simp at he; (try (repeat' (rcases he with rfl | he))); all_goals (first | assumption | (exact absurd hb (by decide))))
    have e6 : b6 = true := ready_nil (i := 6) hr9 rfl (by intro e he hb; simp at he; (try (repeat' (rcases he with rfl | he))); all_goals (first | assumption | (exact absurd hb (by decide))))
    have e7 : b7 = true := ready_nil (i := 7) hr9 rfl (by intro e he hb; simp at he; (try (repeat' (rcases he with rfl | he))); all_goals (first | assumption | (exact absurd hb (by decide))))
    have e8 : b8 = true := ready_nil (i := 8) hr9 rfl (by intro e he hb; simp at he; (try (repeat' (rcases he with rfl | he))); all_goals (first | assumption | (exact absurd hb (by decide))))
    have e9 : b9 = true := ready_nil (i := 9) hr9 rfl (by intro e he hb; simp at he; (try (repeat' (rcases he with rfl | he))); all_goals (first | assumption | (exact absurd hb (by decide))))
    have e10 : b10 = true := ready_nil (i := 10) hr9 rfl (by intro e he hb; simp at he; (try (repeat' (rcases he with rfl | he))); all_goals (first | assumption | (exact absurd hb (by decide))))
    have e11 : b11 = true := ready_nil (i := 11) hr9 rfl (by intro e he hb; simp at he; (try (repeat' (rcases he with rfl | he))); all_goals (first | assumption | (exact absurd hb (by decide))))
    have e12 : b12 = true := ready_nil (i := 12) hr9 rfl (by intro e he hb; simp at he; (try (repeat' (rcases he with rfl | he))); all_goals (first | assumption | (exact absurd hb (by decide))))
    have e13 : b13 = true := ready_nil (i := 13) hr9 rfl (by intro e he hb; simp at he; (try (repeat' (rcases he with rfl | he))); all_goals (first | assumption | (exact absurd hb (by decide))))
    have e14 : b14 = true := ready_nil (i := 14) hr9 rfl (by intro e he hb; simp at he; (try (repeat' (rcases he with rfl | he))); all_goals (first | assumption | (exact absurd hb (by decide))))
    have e15 : b15 = true := ready_nil (i := 15) hr9 rfl (by intro e he hb; simp at he; (try (repeat' (rcases he with rfl | he))); all_goals (first | assumption | (exact absurd hb (by decide))))
    subst e0 e1 e2 e3 e4 e5 e6 e7 e8 e9 e10 e11 e12 e13 e14 e15
    have h9 := (hR.f0 rfl).symm
    subst h9
    have h9 := (hR.f1 rfl).symm
    subst h9
    have h9 := (hR.f2 rfl).symm
    subst h9
    have h9 := (hR.f3 rfl).symm
    subst h9
    have h9 := (hR.f4 rfl).symm
    subst h9
    have h9 := (hR.f5 rfl).symm
    subst h9
    have h9 := (hR.f6 rfl).symm
    subst h9
    have h9 := (hR.f7 rfl).symm
    subst h9
    have h9 := (hR.f8 rfl).symm
    subst h9
    have h9 := (hR.f9 rfl).symm
    subst h9
    have h9 := (hR.f10 rfl).symm
    subst h9
    have h9 := (hR.f11 rfl).symm
    subst h9
    have h9 := (hR.f12 rfl).symm
    subst h9
    have h9 := (hR.f13 rfl).symm
    subst h9
    have h9 := (hR.f14 rfl).symm
    subst h9
    have h9 := (hR.f15 rfl).symm
    subst h9
    have hbel9 := hR.bel
    clear hr9 hR
    go_wp2
    go_roundw
    case rel => exact ⟨i + 1,by omega,by go_num,gr_trans hbel hbel9⟩
    case measure => simp [intOf]; omega
   ·simp
   ·refine ⟨false,false,false,false,false,false,false,false,false,false,false,false,false,false,false,false,u30,u31,u32,u33,u34,u35,u36,u37,u38,u39,u40,u41,u42,u43,u44,u45,rfl,rfl,?_⟩
    constructor
    ·exact (gr_refl _).drew
    all_goals (intro h; cases h)
  ·obtain ⟨g,cap,W2,X,hrun,hS0,hB2⟩ := unhide happ wr hbel
   have HS0 := hide (And.intro hS0 hB2)
   clear hS0 hB2 hb0 hb1 hb2 hsame happ HB hp hgg hgw hsz hpr hgr hwr
   have hni : ¬ ((i : Int) < (n : Int)) := by omega
   go_wp2_with (at_builtin; refine wpList_append_run rfl (.tmp 49) (.tmp 50) 32 rfl hrun ?_)
   clear hrun c0 c1 hbel hin hni
   go_loopw [7] (fun s7 wr2 => ∃ (i : Nat) (X : Nat → List Nat),i ≤ N ∧ s7 = .int .i64 (i : Int) ∧ Hid (Sts wr2 base N g A L C X ∧ (∀ j,j < i → X j = fl j (L j)) ∧ Below base w wr2)) (fun s7 _ => N - (intOf s7).toNat)
   case atStart => exact ⟨0,X,Nat.zero_le _,rfl,hide ⟨(unhide HS0).1,fun j hj => absurd hj (by omega),(unhide HS0).2⟩⟩
   case round =>
    clear HS0
    obtain ⟨i,X,hi,rfl,HS⟩ := hrel
    by_cases hin : i < N
    ·go_wp2
     go_loopw [8] (fun s8 wr3 => ∃ (k : Nat) (X : Nat → List Nat),k ≤ L i ∧ s8 = .int .i64 (k : Int) ∧ Hid (Sts wr3 base N g A L C X ∧ (∀ j,j < i → X j = fl j (L j)) ∧ (X i).take k = (fl i (L i)).take k ∧ Below base w wr3)) (fun s8 _ => L i - (intOf s8).toNat)
     case atStart => exact ⟨0,X,Nat.zero_le _,rfl,hide ⟨(unhide HS).1,(unhide HS).2.1,rfl,(unhide HS).2.2⟩⟩
     case round =>
      clear HS
      obtain ⟨k,X,hk,rfl,HS⟩ := hrel
      have hLi := hL i hin
      have cgi := (unhide HS).1.cell i hin
      by_cases hkl : k < L i
      ·obtain ⟨b,hA,hb1,hb2,hcb,hfb⟩ := ((unhide HS).1.own i hin).open (by omega)
       rw [hA] at cgi
       have hck := hcb k hkl
       have hfk := hfb k
       clear hcb hfb
       have hxl := ((unhide HS).1.own i hin).len
       have e1 : (1000 * (i : Int) + (k : Int) % 1000) = ((1000 * i + k % 1000 : Nat) : Int) := by omega
       have HE := hide e1
       clear e1
       go_wp2
       go_roundw
       case rel =>
        rw [unhide HE]
        obtain ⟨h1,h2,h3,h4⟩ := unhide HS
        refine ⟨k + 1,_,by omega,by go_num,hide ⟨h1.put (z := 1000 * i + k % 1000) hin hA hkl,fun j hj => ?_,?_,h4.setCell hb1 _⟩⟩
        ·rw [if_neg (by omega)]; exact h2 j hj
        ·rw [if_pos rfl]
         exact set_take (by omega) (by rw [hxl,fl_len]) h3 (fl_at _ _ _ hkl).symm
       case measure => simp [intOf]; omega
      ·have hke : k = L i := by omega
       subst hke
       have HX : Hid (Sts wr base N g A L C X ∧ (∀ j,j < i + 1 → X j = fl j (L j)) ∧ Below base w wr) := by
        obtain ⟨h1,h2,h3,h4⟩ := unhide HS
        refine hide ⟨h1,fun j hj => ?_,h4⟩
        by_cases hji : j = i
        ·subst hji
         have := (h1.own j hin).len
         rwa [List.take_of_length_le (by omega),List.take_of_length_le (by rw [fl_len]; omega)] at h3
        ·exact h2 j (by omega)
       clear HS
       go_wp2
       go_roundw
       case rel => exact ⟨i + 1,X,by omega,by go_num,HX⟩
       case measure => simp [intOf]; omega
    ·have hie : i = N := by omega
     subst hie
     have HG : Hid (∃ G,Gst wr base i g A L C 0 G (.slice none 0 0) ∧ Below base w wr) := by
      obtain ⟨h1,h2,h3⟩ := unhide HS
      refine hide ⟨fun _ => .slice none 0 0,⟨⟨h1.row,fun j hj => by have := h1.own j hj; rw [h2 j hj] at this; exact this,h1.ap⟩,fun j hj => absurd hj (by omega),fun j k hj => absurd hj (by omega),fun j k hj => absurd hj (by omega),World.ownsRow_nil _ _ _ _⟩,h3⟩
     clear HS
     go_wp2
     go_loopw [9,10] (fun s9 s10 wr2 => ∃ (j : Nat),j ≤ i ∧ s10 = .int .i64 (j : Int) ∧ Hid (∃ G,Gst wr2 base i g A L C j G s9 ∧ Below base w wr2)) (fun _ s10 _ => i - (intOf s10).toNat)
     case atStart => exact ⟨0,Nat.zero_le _,rfl,HG⟩
     case round =>
      clear HG
      obtain ⟨j,hj,rfl,HG⟩ := hrel
      by_cases hji : j < i
      ·obtain ⟨G,hG,hBw⟩ := unhide HG
       have cgi := hG.sts.cell j hji
       have HG1 := hide (Gst1.start hG hji)
       have HBw := hide hBw
       clear HG hG hBw
       go_wp2
       go_loopw [11,12] (fun s11 s12 wr3 => ∃ (k : Nat),k ≤ 40 ∧ s12 = .int .i64 (k : Int) ∧ Hid (Gst1 wr3 base i g A L C j G u9 k s11 ∧ Below base w wr3)) (fun _ s12 _ => 40 - (intOf s12).toNat)
       case atStart => exact ⟨0,Nat.zero_le _,rfl,hide ⟨unhide HG1,unhide HBw⟩⟩
       case round =>
        clear HG1 HBw
        obtain ⟨k,hk,rfl,HG⟩ := hrel
        obtain ⟨hG,hBw⟩ := unhide HG
        obtain ⟨a,m,c,rfl⟩ := hG.own.slice
        have hml := hG.own.len
        rw [List.length_append,fl_len,tl_len] at hml
        have hLj := hL j hji
        have hbw : base ≤ wr.heap.size := by have := hBw.size; omega
        by_cases hk4 : k < 40
        ·obtain ⟨a',m',c',W',hrun,hG',hB'⟩ := hG.step hji hbw (by omega)
         have e1 : (900000 + 1000 * (j : Int) + (k : Int)) = ((900000 + 1000 * j + k : Nat) : Int) := by omega
         rw [← e1] at hrun
         have HG' := hide (And.intro hG' (hBw.trans hB'))
         clear HG hG hBw hG' hB' e1 hml
         go_wp2_with (at_builtin; refine wpList_append_run rfl (.tmp 96) (.tmp 103) 22 rfl hrun ?_)
         go_roundw
         case rel => exact ⟨k + 1,by omega,by go_num,HG'⟩
         case measure => simp [intOf]; omega
        ·obtain rfl : k = 40 := by omega
         obtain ⟨v',W',G',hrun,hG',hB'⟩ := hG.close hji hN hbw
         have HG' : Hid (∃ G,Gst W' base i g A L C (j + 1) G v' ∧ Below base w W') := hide ⟨G',hG',hBw.trans hB'⟩
         clear HG hG hBw hG' hB' hml
         go_wp2_with (at_builtin; refine wpList_append_run rfl (.tmp 105) (.tmp 107) 69 rfl hrun ?_)
         go_roundw
         case rel => exact ⟨j + 1,by omega,by go_num,HG'⟩
         case measure => simp [intOf]; omega
      ·obtain rfl : j = i := by omega
       obtain ⟨G,hG,hBw⟩ := unhide HG
       obtain ⟨q,cq,rfl,hR⟩ := hG.read hN0
       have HR := hide (And.intro hR hBw)
       clear HG hG hBw hR
       go_wp2
       go_loopw [13] (fun s13 wr2 => ∃ (i : Nat),i ≤ j ∧ s13 = .int .i64 (i : Int) ∧ Hid (Rd wr2 j g q A L C ∧ Below base w wr2)) (fun s13 _ => j - (intOf s13).toNat)
       case atStart => exact ⟨0,Nat.zero_le _,rfl,HR⟩
       case round =>
        clear HR
        obtain ⟨i,hi,rfl,HR⟩ := hrel
        by_cases hij : i < j
        ·have hLi := hL i hij
         have cgi : wr.cell? ⟨g,i,none⟩ = some (.slice (A i) (L i) (C i)) := by
          obtain ⟨b,cb,_,_,_,h4,_⟩ := (unhide HR).1 i hij
          exact h4
         go_wp2
         clear cgi
         go_loopw [15] (fun s15 wr2 => ∃ (k : Nat),k ≤ L i ∧ s15 = .int .i64 (k : Int) ∧ Hid (Rd wr2 j g q A L C ∧ Below base w wr2)) (fun s15 _ => L i - (intOf s15).toNat)
         case atStart => exact ⟨0,Nat.zero_le _,rfl,HR⟩
         case round =>
          clear HR
          obtain ⟨k,hk,rfl,HR⟩ := hrel
          obtain ⟨b,cb,cq1,cb1,cb2,cg1,hd⟩ := (unhide HR).1 i hij
          by_cases hkl : k < L i
          ·obtain ⟨d,hA,hcd⟩ := hd (by omega)
           rw [hA] at cg1
           have x1 := cb1 k hkl
           have x2 := hcd k hkl
           have e1 : ((1000 * i + k % 1000 : Nat) : Int) = 1000 * (i : Int) + (k : Int) % 1000 := by omega
           rw [e1] at x1 x2
           clear cb1 cb2 hcd e1 hd
           go_wp2_with fail
           go_quiet (fail)
           have HR2 : Hid (Rd (wr.drewN nq) j g q A L C ∧ Below base w (wr.drewN nq)) := hide ⟨(unhide HR).1.drewN nq,below_drewN (unhide HR).2 nq⟩
           generalize wr.drewN nq = wq at *
           clear x1 x2 cg1 cq1 HR
           go_wp2
           go_roundw
           case rel => exact ⟨k + 1,by omega,by go_num,HR2⟩
           case measure => simp [intOf]; omega
          ·obtain rfl : k = L i := by omega
           clear cq1 cb1 cb2 cg1 hd b cb
           go_wp2
           go_loopw [16] (fun s16 wr2 => ∃ (k : Nat),k ≤ 40 ∧ s16 = .int .i64 (k : Int) ∧ Hid (Rd wr2 j g q A L C ∧ Below base w wr2)) (fun s16 _ => 40 - (intOf s16).toNat)
           case atStart => exact ⟨0,Nat.zero_le _,rfl,HR⟩
           case round =>
            clear HR
            obtain ⟨k,hk,rfl,HR⟩ := hrel
            by_cases hk4 : k < 40
            ·obtain ⟨b,cb,cq1,cb1,cb2,cg1,hd⟩ := (unhide HR).1 i hij
             have x1 := cb2 k hk4
             have e1 : ((900000 + 1000 * i + k : Nat) : Int) = 900000 + 1000 * (i : Int) + (k : Int) := by omega
             rw [e1] at x1
             clear cb1 cb2 e1 hd cg1
             go_wp2
             go_roundw
             case rel => exact ⟨k + 1,by omega,by go_num,HR⟩
             case measure => simp [intOf]; omega
            ·obtain rfl : k = 40 := by omega
             go_wp2
             go_roundw
             case rel => exact ⟨i + 1,by omega,by go_num,HR⟩
             case measure => simp [intOf]; omega
        ·go_wp2
         go_ret
         exact ⟨rfl,(unhide HR).2⟩
end Go.Proofs.YtecmcjlgknfnlaaDoor
namespace Go.Proofs.YtecmcjlgknfnlaaDoor
open Go.RowKit
structure Ents (w : World) (base : Nat) (es : List Value) : Prop where
 own : ∀ (i : Nat) (v : Value),es[i]? = some v → ∃ xs,Own w base v xs ∧ xs.length ≤ 35184372087808
 ap : ∀ (i j : Nat) (u v : Value),i ≠ j → es[i]? = some u → es[j]? = some v → ApartV u v
theorem Ents.nil (w : World) (base : Nat) : Ents w base [] := ⟨fun i v h => by simp at h,fun i j u v _ h => by simp at h⟩
theorem Ents.keep {w w' : World} {base : Nat} {es : List Value} (h : Ents w base es) (hk : ∀ v xs,Own w base v xs → Own w' base v xs) : Ents w' base es :=
 ⟨fun i v hv => by obtain ⟨xs,ho,hl⟩ := h.own i v hv; exact ⟨xs,hk v xs ho,hl⟩,h.ap⟩
theorem Ents.snoc {w : World} {base : Nat} {es : List Value} {v : Value} {xs : List Nat} (h : Ents w base es) (ho : Own w base v xs) (hl : xs.length ≤ 35184372087808) (ha : ∀ u ∈ es,ApartV v u) : Ents w base (es ++ [v]) := by
 have hat : ∀ i u,(es ++ [v])[i]? = some u → es[i]? = some u ∨ (i = es.length ∧ u = v) := fun i u hu => by
  by_cases hi : i < es.length
  ·rw [List.getElem?_append_left hi] at hu; exact Or.inl hu
  ·rw [List.getElem?_append_right (by omega)] at hu
   by_cases h0 : i - es.length = 0
   ·rw [h0] at hu; simp at hu; exact Or.inr ⟨by omega,hu.symm⟩
   ·rw [List.getElem?_eq_none (by simp; omega)] at hu; cases hu
 refine ⟨fun i u hu => ?_,fun i j u u' hij hu hu' => ?_⟩
 ·rcases hat i u hu with h1 | ⟨_,rfl⟩
  ·exact h.own i u h1
  ·exact ⟨xs,ho,hl⟩
 ·rcases hat i u hu with h1 | ⟨h1,rfl⟩
  ·rcases hat j u' hu' with h2 | ⟨h2,rfl⟩
   ·exact h.ap i j u u' hij h1 h2
   ·exact (ha u (List.mem_of_getElem? h1)).symm
  ·rcases hat j u' hu' with h2 | ⟨h2,rfl⟩
   ·exact ha u' (List.mem_of_getElem? h2)
   ·omega
theorem Ents.slice {w : World} {base : Nat} {es : List Value} (h : Ents w base es) {i : Nat} {v : Value} (hv : es[i]? = some v) : ∃ a n c,v = .slice a n c := by
 obtain ⟨xs,ho,_⟩ := h.own i v hv
 exact ho.slice
def sA : Value → Option Addr
 | .slice a _ _ => a
 | _ => none
def sL : Value → Nat
 | .slice _ n _ => n
 | _ => 0
def sC : Value → Nat
 | .slice _ _ c => c
 | _ => 0
def svl (es : List Value) (i : Nat) : Value := es[i]?.getD (.slice none 0 0)
theorem svl_eq {w : World} {base : Nat} {es : List Value} (h : Ents w base es) {i : Nat} (hi : i < es.length) : es[i]? = some (.slice (sA (svl es i)) (sL (svl es i)) (sC (svl es i))) := by
 have e : es[i]? = some es[i] := List.getElem?_eq_getElem hi
 obtain ⟨a,n,c,hv⟩ := h.slice e
 unfold svl
 rw [e,hv]; rfl
theorem Ents.sts {w : World} {base N g cap : Nat} {es : List Value} (h : Ents w base es) (hr : w.ownsRow base 24 1 (.slice (some ⟨g,0,none⟩) N cap) N es) :
  ∃ X,Sts w base N g (fun i => sA (svl es i)) (fun i => sL (svl es i)) (fun i => sC (svl es i)) X := by
 have hlen : es.length = N := by have := hr.1; omega
 have hex : ∀ i,∃ xs,i < N → Own w base (.slice (sA (svl es i)) (sL (svl es i)) (sC (svl es i))) xs := fun i => by
  by_cases hi : i < N
  ·obtain ⟨xs,ho,_⟩ := h.own i _ (svl_eq h (by omega))
   exact ⟨xs,fun _ => ho⟩
  ·exact ⟨[],fun hh => absurd hh hi⟩
 obtain ⟨X,hX⟩ := Classical.axiomOfChoice hex
 refine ⟨X,?_,fun i hi => hX i hi,fun i j hi hj hij => h.ap i j _ _ hij (svl_eq h (by omega)) (svl_eq h (by omega))⟩
 obtain ⟨_,h2 | ⟨g',cap',cur,e,hg,hh,h3,h4,h5,h6⟩⟩ := hr
 ·cases h2.1
 ·injection e with e1 e2 e3
  injection e1 with e1
  injection e1 with e1
  subst e1
  refine ⟨cur,hh,fun i hi => ?_⟩
  rw [← svl_eq h (by omega),← h6,List.getElem?_take,if_pos (by omega),Array.getElem?_toList]
structure Led (w : World) (p base n : Nat) (vg vw : Value) (gs ws : List Value) : Prop where
 bk : Bk w p base n vg vw gs ws
 ent : Ents w base gs
 same : ∀ i,i < n → ∃ a k c a' k' c' m,gs[i]? = some (.slice a k c) ∧ ws[i]? = some (.slice a' k' c') ∧ Mine w base a k c m ∧ Mine w base a' k' c' m
 pb : base ≤ p
theorem Led.plt {w : World} {p base n : Nat} {vg vw : Value} {gs ws : List Value} (h : Led w p base n vg vw gs ws) : p < w.heap.size := by
 by_cases hlt : p < w.heap.size
 ·exact hlt
 ·have := h.bk.bk; rw [Array.getElem?_eq_none (by omega)] at this; cases this
theorem Led.kept {w w' : World} {p base n : Nat} {vg vw : Value} {gs ws : List Value} (h : Led w p base n vg vw gs ws) (hb : Below w.heap.size w w') : Led w' p base n vg vw gs ws :=
 ⟨⟨(hb.block p h.plt).trans h.bk.bk,own_below h.bk.rg hb,own_below h.bk.rw hb,h.bk.ap⟩,h.ent.keep (fun v xs ho => ho.kept hb),fun i hi => by
  obtain ⟨a,k,c,a',k',c',m,h1,h2,h3,h4⟩ := h.same i hi
  exact ⟨a,k,c,a',k',c',m,h1,h2,h3.kept hb,h4.kept hb⟩,h.pb⟩
theorem Led.alloc {w : World} {p base n : Nat} {vg vw : Value} {gs ws : List Value} (h : Led w p base n vg vw gs ws) (o : Obj) : Led (w.alloc o) p base n vg vw gs ws := h.kept (gr_alloc _ _)
theorem Led.fresh {w w' : World} {p base n : Nat} {vg vw : Value} {gs ws : List Value} (h : Led w p base n vg vw gs ws) {v : Value} {xs : List Nat} (ho : Own w' w.heap.size v xs) : ∀ u ∈ gs,ApartV v u := fun u hu k hk hk2 => by
 obtain ⟨i,hi,rfl⟩ := List.getElem_of_mem hu
 obtain ⟨ys,hy,_⟩ := h.ent.own i _ (List.getElem?_eq_getElem hi)
 have := ho.lt k hk
 have := hy.lt k hk2
 omega
theorem Mine.fresh {w w' : World} {p base n : Nat} {vg vw : Value} {gs ws : List Value} {a : Option Addr} {k c m : Nat} (ho : Mine w' w.heap.size a k c m) (h : Led w p base n vg vw gs ws) : ∀ u ∈ gs,ApartV (.slice a k c) u := by
 obtain ⟨xs,_,ho,_⟩ := ho
 exact h.fresh ho
structure Ad (w w' : World) (p base : Nat) (vg vw vg' vw' : Value) : Prop where
 fr : Fr w w' p vg.ownBlock vw.ownBlock
 ng : NewRow w vg vg'
 nw : NewRow w vw vw'
 own : ∀ v xs,Own w base v xs → Own w' base v xs
 bel : Below base w w'
theorem Mine.added {w w' : World} {p base : Nat} {vg vw vg' vw' : Value} {a : Option Addr} {n c m : Nat} (h : Mine w base a n c m) (k : Ad w w' p base vg vw vg' vw') : Mine w' base a n c m := by
 obtain ⟨xs,h1,ho,r⟩ := h
 exact ⟨xs,h1,k.own _ _ ho,r⟩
structure Bx (w : World) (vg vw : Value) (q : Nat) (v : Value) : Prop where
 box : Box w q v
 ng : some q ≠ vg.ownBlock
 nw : some q ≠ vw.ownBlock
theorem Bx.cell {w : World} {vg vw : Value} {q : Nat} {v : Value} (h : Bx w vg vw q v) : w.cell? ⟨q,0,none⟩ = some v := h.box.cell
theorem Bx.kept {w w' : World} {vg vw : Value} {q : Nat} {v : Value} (h : Bx w vg vw q v) (hb : Below w.heap.size w w') : Bx w' vg vw q v := ⟨h.box.kept hb,h.ng,h.nw⟩
theorem Bx.alloc {w : World} {vg vw : Value} {q : Nat} {v : Value} (h : Bx w vg vw q v) (o : Obj) : Bx (w.alloc o) vg vw q v := h.kept (gr_alloc _ _)
theorem Bx.made {w : World} {p base n : Nat} {vg vw : Value} {gs ws : List Value} (h : Led w p base n vg vw gs ws) (v : Value) : Bx (w.alloc (.cells #[v] 24)) vg vw w.heap.size v :=
 ⟨Box.made w v,fun e => by have := h.bk.rg.lt _ e.symm; omega,fun e => by have := h.bk.rw.lt _ e.symm; omega⟩
theorem Bx.added {w w' : World} {p base n : Nat} {vg vw vg' vw' : Value} {gs ws : List Value} {q : Nat} {v : Value} (h : Bx w vg vw q v) (hl : Led w p base n vg vw gs ws) (k : Ad w w' p base vg vw vg' vw') : Bx w' vg' vw' q v := by
 have hlt := h.box.lt
 have hqp : q ≠ p := fun e => by
  have h1 := h.box
  have h2 := hl.bk.bk
  unfold Box at h1
  rw [e,h2] at h1
  injection h1 with h1
  injection h1 with _ h1
  exact absurd h1 (by decide)
 refine ⟨?_,fun e => ?_,fun e => ?_⟩
 ·unfold Box
  rw [k.fr.block q hlt hqp h.ng h.nw]; exact h.box
 ·rcases k.ng with h1 | ⟨g,h1,h2⟩
  ·exact h.ng (e.trans h1)
  ·rw [h1] at e; injection e with e; omega
 ·rcases k.nw with h1 | ⟨g,h1,h2⟩
  ·exact h.nw (e.trans h1)
  ·rw [h1] at e; injection e with e; omega
def LedTo (w : World) (p base n : Nat) (vg vw : Value) (gs ws : List Value) (g v : Value) (en : Ending) (w' : World) : Prop :=
 en = .returned (.tuple #[]) ∧ ∃ vg' vw',Led w' p base (n + 1) vg' vw' (gs ++ [g]) (ws ++ [v]) ∧ Ad w w' p base vg vw vg' vw'
theorem at_snoc {α : Type} (xs : List α) (x : α) (i : Nat) (h : i < xs.length + 1) : (xs ++ [x])[i]? = if i = xs.length then some x else xs[i]? := by
 by_cases hi : i = xs.length
 ·subst hi; rw [if_pos rfl,List.getElem?_append_right (Nat.le_refl _)]; simp
 ·rw [if_neg hi,List.getElem?_append_left (by omega)]
theorem led_adds (p base n : Nat) (vg vw : Value) (gs ws : List Value) (a b : Option Addr) (na nb ca cb m : Nat) (w : World) (hL : Led w p base n vg vw gs ws) (hA : Mine w base a na ca m) (hf : ∀ u ∈ gs,ApartV (.slice a na ca) u) (hW : Mine w base b nb cb m) (hb : base ≤ w.heap.size) (hn : n ≤ 1000) :
  Calls Tryd.prog 43 #[.pointer (some ⟨p,0,none⟩),.agg #[.slice a na ca],.agg #[.slice b nb cb]] w
   (LedTo w p base n vg vw gs ws (.slice a na ca) (.slice b nb cb)) := by
 refine (adds_any p base n vg vw gs ws a b na nb ca cb w hL.bk hb hn).mono ?_
 rintro en w' ⟨rfl,vg',vw',hB',hFr,hng,hnw⟩
 have hown : ∀ v xs,Own w base v xs → Own w' base v xs := fun v xs ho => ho.keep (fun k hk hkv => hFr.block k hk (fun e => by
   obtain ⟨cu,hcu⟩ := ho.type k hkv
   rw [e,hL.bk.bk] at hcu
   injection hcu with hcu; injection hcu with _ hcu; exact absurd hcu (by decide))
  (fun e => by obtain ⟨cu,hcu⟩ := ho.type k hkv; exact row_type hL.bk.rg e.symm hcu (by decide))
  (fun e => by obtain ⟨cu,hcu⟩ := ho.type k hkv; exact row_type hL.bk.rw e.symm hcu (by decide)))
 have hbel : Below base w w' := ⟨hFr.os,hFr.tape,hFr.output,hFr.size,fun k hk => hFr.block k (by omega) (by have := hL.pb; omega)
  (fun e => by have := hL.bk.rg.lt k e.symm; omega) (fun e => by have := hL.bk.rw.lt k e.symm; omega)⟩
 have had : Ad w w' p base vg vw vg' vw' := ⟨hFr,hng,hnw,hown,hbel⟩
 have hgl : gs.length = n := by have := hL.bk.rg.1; omega
 have hwl : ws.length = n := by have := hL.bk.rw.1; omega
 obtain ⟨xs,hx1,hxo,hx2,hx3,hx4,hx5⟩ := id hA
 refine ⟨rfl,vg',vw',⟨hB',(hL.ent.keep hown).snoc (hown _ _ hxo) (by omega) hf,fun i hi => ?_,hL.pb⟩,had⟩
 rw [at_snoc gs _ i (by omega),at_snoc ws _ i (by omega),hgl,hwl]
 by_cases hin : i = n
 ·rw [if_pos hin,if_pos hin]
  exact ⟨a,na,ca,b,nb,cb,m,rfl,rfl,hA.added had,hW.added had⟩
 ·rw [if_neg hin,if_neg hin]
  obtain ⟨a1,k1,c1,a2,k2,c2,m2,h1,h2,h3,h4⟩ := hL.same i (by omega)
  exact ⟨a1,k1,c1,a2,k2,c2,m2,h1,h2,h3.added had,h4.added had⟩
theorem led_stands0 (p base n : Nat) (vg vw : Value) (gs ws : List Value) (w : World) (hL : Led w p base n vg vw gs ws) (hb : base ≤ w.heap.size) (hn : n ≤ 100) (h0 : 0 < n) :
  Calls Tryd.prog 14 #[.pointer (some ⟨p,0,none⟩),.slice none 0 0] w fun e w' => e = .returned (.bool true) ∧ Below base w w' := by
 obtain ⟨gg,cg,hvg⟩ := own_form hL.bk.rg h0
 obtain ⟨gw,cw,hvw⟩ := own_form hL.bk.rw h0
 have hB := hL.bk
 rw [hvg,hvw] at hB
 have hg1 := hB.rg.lt gg rfl
 have hw1 := hB.rw.lt gw rfl
 have hcap : n ≤ cg := by
  obtain ⟨_,h2 | ⟨g',cap',cur,e,_,_,h3,_⟩⟩ := hB.rg
  ·cases h2.1
  ·injection e with _ _ e3; omega
 have hgl : gs.length = n := by have := hB.rg.1; omega
 obtain ⟨i0,hi,hz0,hz1,hz2⟩ := info_parts Tryd.info_nat
 refine stands_any p base n n gg cg gw cw (.slice none 0 0) gs ws w hB hn hL.plt hg1.2 hw1.2 (fun i => sA (svl gs i)) (fun i => sL (svl gs i)) (fun i => sC (svl gs i)) hn h0 (fun i hi => ?_) hb (hide fun wr hbel => ?_) (hide fun i hi => ?_)
 ·obtain ⟨xs,ho,hl⟩ := hL.ent.own i _ (svl_eq hL.ent (by omega))
  have := ho.len
  show sL (svl gs i) ≤ _
  omega
 ·have hL2 := hL.kept hbel
  have hr2 := hL2.bk.rg
  rw [hvg] at hr2
  obtain ⟨X,hS⟩ := hL2.ent.sts hr2
  exact ⟨gg,cg,wr,X,run_append_nothing (P := Tryd.prog) wr 32 32 32 24 i0 Tryd.under_nats hi (some ⟨gg,0,none⟩) n cg hcap (.slice none 0 0) (Src.ofNil _ Tryd.under_nats 0),hS,hbel.mono hb⟩
 ·obtain ⟨a,k,c,a',k',c',m,h1,h2,h3,h4⟩ := hL.same i hi
  exact ⟨a,k,c,a',k',c',m,h1,h2,h3.num,h4.num⟩
theorem Led.new (w : World) (base : Nat) (hb : base ≤ w.heap.size) : Led (w.alloc (.cells #[.slice none 0 0,.slice none 0 0,.bool false] 34)) w.heap.size base 0 (.slice none 0 0) (.slice none 0 0) [] [] :=
 ⟨⟨heap_alloc_new w _,World.ownsRow_nil _ _ _ _,World.ownsRow_nil _ _ _ _,Or.inl rfl⟩,Ents.nil _ _,fun i hi => absurd hi (by omega),hb⟩
structure Bd (w : World) (vg vw : Value) (q : Nat) (cs : Array Value) (t : TypeId) : Prop where
 row : w.heap[q]? = some (.cells cs t (0,0))
 ty : t ≠ 34
 ng : some q ≠ vg.ownBlock
 nw : some q ≠ vw.ownBlock
theorem Bd.lt {w : World} {vg vw : Value} {q : Nat} {cs : Array Value} {t : TypeId} (h : Bd w vg vw q cs t) : q < w.heap.size := by
 by_cases hlt : q < w.heap.size
 ·exact hlt
 ·have := h.row; rw [Array.getElem?_eq_none (by omega)] at this; cases this
theorem Bd.cell {w : World} {vg vw : Value} {q : Nat} {cs : Array Value} {t : TypeId} (h : Bd w vg vw q cs t) (j : Nat) : w.cell? ⟨q,j,none⟩ = cs[j]? := cell_of_row w q j _ _ _ h.row
theorem Bd.kept {w w' : World} {vg vw : Value} {q : Nat} {cs : Array Value} {t : TypeId} (h : Bd w vg vw q cs t) (hb : Below w.heap.size w w') : Bd w' vg vw q cs t := ⟨by rw [hb.block q h.lt]; exact h.row,h.ty,h.ng,h.nw⟩
theorem Bd.alloc {w : World} {vg vw : Value} {q : Nat} {cs : Array Value} {t : TypeId} (h : Bd w vg vw q cs t) (o : Obj) : Bd (w.alloc o) vg vw q cs t := h.kept (gr_alloc _ _)
theorem Bd.made {w : World} {p base n : Nat} {vg vw : Value} {gs ws : List Value} (h : Led w p base n vg vw gs ws) (cs : Array Value) (t : TypeId) (ht : t ≠ 34 := by decide) : Bd (w.alloc (.cells cs t)) vg vw w.heap.size cs t :=
 ⟨heap_alloc_new w _,ht,fun e => by have := h.bk.rg.lt _ e.symm; omega,fun e => by have := h.bk.rw.lt _ e.symm; omega⟩
theorem Bd.added {w w' : World} {p base n : Nat} {vg vw vg' vw' : Value} {gs ws : List Value} {q : Nat} {cs : Array Value} {t : TypeId} (h : Bd w vg vw q cs t) (hl : Led w p base n vg vw gs ws) (k : Ad w w' p base vg vw vg' vw') : Bd w' vg' vw' q cs t := by
 have hlt := h.lt
 have hqp : q ≠ p := fun e => by
  have h1 := h.row
  have h2 := hl.bk.bk
  rw [e,h2] at h1
  injection h1 with h1
  injection h1 with _ h1
  exact absurd h1.symm h.ty
 refine ⟨?_,h.ty,fun e => ?_,fun e => ?_⟩
 ·rw [k.fr.block q hlt hqp h.ng h.nw]; exact h.row
 ·rcases k.ng with h1 | ⟨g,h1,h2⟩
  ·exact h.ng (e.trans h1)
  ·rw [h1] at e; injection e with e; omega
 ·rcases k.nw with h1 | ⟨g,h1,h2⟩
  ·exact h.nw (e.trans h1)
  ·rw [h1] at e; injection e with e; omega
theorem LedTo.back {w W : World} {p base n : Nat} {vg vw : Value} {gs ws : List Value} {g v : Value} {en : Ending} {w' : World} (hb : base ≤ w.heap.size) (hk : Below w.heap.size w W) (h : LedTo W p base n vg vw gs ws g v en w') : LedTo w p base n vg vw gs ws g v en w' := by
 obtain ⟨h1,vg',vw',h2,h3⟩ := h
 have hnew : ∀ {x y : Value},NewRow W x y → NewRow w x y := fun h => by
  rcases h with h | ⟨g,h,h'⟩
  ·exact Or.inl h
  ·exact Or.inr ⟨g,h,Nat.le_trans hk.size h'⟩
 refine ⟨h1,vg',vw',h2,⟨?_,hnew h3.ng,hnew h3.nw,fun v xs ho => h3.own v xs (ho.kept hk),(hk.mono hb).trans h3.bel⟩⟩
 exact ⟨h3.fr.os.trans hk.os,h3.fr.tape.trans hk.tape,h3.fr.output.trans hk.output,Nat.le_trans hk.size h3.fr.size,fun k hk2 a b c => (h3.fr.block k (Nat.lt_of_lt_of_le hk2 hk.size) a b c).trans (hk.block k hk2)⟩
end Go.Proofs.YtecmcjlgknfnlaaDoor
namespace Go.Proofs.YtecmcjlgknfnlaaDoor
open Go.RowKit
structure Lt (w : World) (base g n cap : Nat) (xs : List Nat) : Prop where
 own : Own w base (.slice (some ⟨g,0,none⟩) (n + 3) cap) (xs ++ [77,78,79])
 len : xs.length = n
theorem Own.prefix {w : World} {base g m n cap : Nat} {ys : List Nat} (h : Own w base (.slice (some ⟨g,0,none⟩) m cap) ys) (hn : n ≤ m) : Own w base (.slice (some ⟨g,0,none⟩) n cap) (ys.take n) := by
 have hl := h.len
 rcases h with ⟨e,_⟩ | ⟨g',cap',cur,e,hg,hh,h1,h2,h3,hc⟩
 ·cases e
 ·injection e with e1 e2 e3
  injection e1 with e1
  injection e1 with e1
  subst e1 e3
  have e : (ys.take n).length = n := by rw [List.length_take]; omega
  refine Or.inr ⟨g,cap,cur,by rw [e],hg,hh,by omega,h2,h3,fun j hj => ?_⟩
  rw [e] at hj
  rw [hc j (by omega),List.getElem?_take,if_pos hj]
theorem Lt.short {w : World} {base g n cap : Nat} {xs : List Nat} (h : Lt w base g n cap xs) : Own w base (.slice (some ⟨g,0,none⟩) n cap) xs := by
 have := h.own.prefix (n := n) (by omega)
 rwa [List.take_append_of_le_length (by rw [h.len]; omega),List.take_of_length_le (by rw [h.len]; omega)] at this
theorem Lt.lim {w : World} {base g n cap : Nat} {xs : List Nat} (h : Lt w base g n cap xs) : Lim w (some ⟨g,0,none⟩) xs := by
 obtain ⟨a,c,e,_,_,hl⟩ := h.short.lim
 have := (Value.slice.inj e).1
 rw [this]; exact hl
theorem Lt.kept {w w' : World} {base g n cap : Nat} {xs : List Nat} (h : Lt w base g n cap xs) (hb : Below w.heap.size w w') : Lt w' base g n cap xs := ⟨h.own.kept hb,h.len⟩
theorem Lt.alloc {w : World} {base g n cap : Nat} {xs : List Nat} (h : Lt w base g n cap xs) (o : Obj) : Lt (w.alloc o) base g n cap xs := h.kept (gr_alloc _ _)
theorem Lt.added {w w' : World} {p base g n cap : Nat} {xs : List Nat} {vg vw vg' vw' : Value} (h : Lt w base g n cap xs) (k : Ad w w' p base vg vw vg' vw') : Lt w' base g n cap xs := ⟨k.own _ _ h.own,h.len⟩
theorem Lt.room {w : World} {base g n cap : Nat} {xs : List Nat} (h : Lt w base g n cap xs) : n + 3 ≤ cap ∧ cap ≤ 9223372036854775807 := h.own.room
theorem Lt.mono {w : World} {base base' g n cap : Nat} {xs : List Nat} (h : Lt w base g n cap xs) (hb : base' ≤ base) : Lt w base' g n cap xs := ⟨h.own.mono hb,h.len⟩
structure Kw (w W : World) (g cap b off n ca : Nat) (xs : List Nat) : Prop where
 bx : Box W w.heap.size (.slice (some ⟨g,0,none⟩) n cap)
 ay : Box W (w.heap.size + 1) (.slice (some ⟨b,off,none⟩) n ca)
 n0 : W.cell? ⟨g,n,none⟩ = some (.int .u32 77)
 n1 : W.cell? ⟨g,n + 1,none⟩ = some (.int .u32 78)
 n2 : W.cell? ⟨g,n + 2,none⟩ = some (.int .u32 79)
 cg : ∀ j,j < n → W.cell? ⟨g,j,none⟩ = some (.int .u32 ((xs[j]?.getD 0 : Nat) : Int))
 cb : ∀ j,j < n → W.cell? ⟨b,off + j,none⟩ = some (.int .u32 ((xs[j]?.getD 0 : Nat) : Int))
 bel : Below w.heap.size w W
theorem Kw.drewN {w W : World} {g cap b off n ca : Nat} {xs : List Nat} (h : Kw w W g cap b off n ca xs) (k : Nat) : Kw w (W.drewN k) g cap b off n ca xs := ⟨h.bx,h.ay,h.n0,h.n1,h.n2,h.cg,h.cb,below_drewN h.bel k⟩
end Go.Proofs.YtecmcjlgknfnlaaDoor
namespace Go.Proofs.YtecmcjlgknfnlaaDoor
open Go.RowKit
def TrimTo (w : World) (base : Nat) (zs : List Nat) (e : Ending) (w' : World) : Prop :=
 w = w' ∧ ∃ a n c ys,e = .returned (.slice a n c) ∧ n ≤ zs.length ∧ ys.length = n ∧ Own w base (.slice a n c) ys ∧ Pl.Wf ys ∧ Pl.Norm ys ∧ Pl.val ys = Pl.val zs
theorem rtrim_own (base : Nat) (v : Value) (zs : List Nat) (w : World) (h : Own w base v zs) (hw : Pl.Wf zs) : Calls Tryd.prog 82 #[v] w (TrimTo w base zs) := by
 have h' := h
 rcases h with ⟨rfl,rfl⟩ | ⟨g,cap,cur,rfl,hg,hh,h1,h2,h3,hc⟩
 ·refine (rtrim_empty none 0 w).mono ?_
  rintro e w' ⟨rfl,rfl⟩
  exact ⟨rfl,none,0,0,[],rfl,Nat.le_refl _,rfl,Or.inl ⟨rfl,rfl⟩,Pl.wf_nil,Pl.norm_nil,rfl⟩
 ·refine (rtrim_at g 0 zs.length cap zs w rfl h1 h3 (fun j hj => by rw [Nat.zero_add,cell_of_row w g j _ _ _ hh]; exact hc j hj)).mono ?_
  rintro e w' ⟨rfl,n,hn,h0,hl,rfl⟩
  have hlen : (zs.take n).length = n := by rw [List.length_take]; omega
  refine ⟨rfl,_,n,cap,zs.take n,rfl,hn,hlen,Or.inr ⟨g,cap,cur,by rw [hlen],hg,hh,by omega,h2,h3,fun j hj => ?_⟩,Pl.wf_take hw n,Pl.norm_of ?_,Pl.take_of_zeros zs n hn h0⟩
  ·rw [hlen] at hj
   rw [hc j (by omega),List.getElem?_take,if_pos hj]
  ·rw [hlen]
   rcases hl with hl | hl
   ·exact Or.inl hl
   ·by_cases hn0 : n = 0
    ·exact Or.inl hn0
    ·right
     rw [List.getElem?_take,if_pos (by omega)]
     exact hl
theorem or_limb2 (r x : Nat) (hr : r < 4294967296) (hx : x < 4294967296) : Go.bits .or .u64 (x : Int) ((r : Int) * 4294967296) = ((r * 4294967296 + x : Nat) : Int) := by
 have h := bits_or_u64_nat x (r * 4294967296) (by omega) (by omega)
 have e : x ||| r * 4294967296 = r * 4294967296 + x := by
  have := Nat.two_pow_add_eq_or_of_lt (i := 32) (b := x) (by omega) r
  rw [Nat.mul_comm r 4294967296,Nat.or_comm]; exact this.symm
 rw [e] at h
 rw [show ((r : Int) * 4294967296) = ((r * 4294967296 : Nat) : Int) by omega,h]
theorem val_drop {xs : List Nat} (hw : Pl.Wf xs) (wh : Nat) : Pl.val (xs.drop wh) = Pl.val xs / 4294967296 ^ wh := by
 by_cases h : wh ≤ xs.length
 ·rw [Pl.val_split xs wh h]
  have hlo := Pl.val_lt (Pl.wf_take hw wh)
  rw [List.length_take,Nat.min_eq_left h] at hlo
  rw [Nat.add_comm,Nat.mul_add_div (Nat.lt_of_le_of_lt (Nat.zero_le _) hlo),Nat.div_eq_of_lt hlo,Nat.add_zero]
 ·rw [List.drop_eq_nil_of_le (by omega),Nat.div_eq_of_lt (Nat.lt_of_lt_of_le (Pl.val_lt hw) (Pl.pow_le (by omega)))]
  rfl
set_option maxRecDepth 20000 in
set_option maxHeartbeats 1000000 in
theorem rdown_list (a : Option Addr) (n cap wh pt k : Nat) (xs : List Nat) (w : World) (hn : xs.length = n) (hl : Lim w a xs) (hw : Pl.Wf xs) (hb : n ≤ 16384) (hk : Hid (k = 32 * wh + pt)) (hpt : pt < 32) (hk2 : k < 9223372036854775808) :
  Calls Tryd.prog 79 #[.slice a n cap,.int .i64 (k : Int)] w fun e w' => (∃ a' l c,e = .returned (.slice a' l c) ∧ Mine w' w.heap.size a' l c (Pl.val xs / 2 ^ k)) ∧ Below w.heap.size w w' := by
 have hq : (k : Int) / 32 = (wh : Int) := by have := unhide hk; omega
 have hr : (k : Int) % 32 = (pt : Int) := by have := unhide hk; omega
 have HP : Hid (k % 32 = pt) := by have := unhide hk; exact hide (by omega)
 have hwh : wh < 288230376151711744 := by have := unhide hk; omega
 have HLM := hide (fun (i : Nat) (W : World) (h : Lim W a xs) (hi : i < 9223372036854775808) => rlimb_any a n cap i xs W hn h hw hi)
 have HL := hide hl
 have HN := hide hn
 clear hl hn
 go_enter Tryd.func79,Tryd.ntmps79
 go_wp2
 clear hq hr
 go_loopw [5,6] (fun s5 s6 wr => ∃ (j : Nat) (zs : List Nat),(wh + j ≤ n ∨ j = 0) ∧ s6 = .int .i64 ((wh + j : Nat) : Int) ∧ Hid (Own wr w.heap.size s5 zs ∧ zs.length = j ∧ Pl.Wf zs ∧ Pl.val zs + 4294967296 ^ j * (Pl.val (xs.drop (wh + j)) / 2 ^ pt) = Pl.val (xs.drop wh) / 2 ^ pt ∧ Below w.heap.size w wr)) (fun _ s6 _ => n - (intOf s6).toNat)
 case atStart => exact ⟨0,[],Or.inr rfl,by rw [Nat.add_zero],hide ⟨Or.inl ⟨rfl,rfl⟩,rfl,Pl.wf_nil,by simp [Pl.val],gr_refl _⟩⟩
 case round =>
  obtain ⟨j,zs,hj,rfl,HS⟩ := hrel
  have hnl := unhide HN
  have hji : wh + j < 9223372036854775807 := by omega
  by_cases hin : wh + j < n
  ·obtain ⟨h1,h2,h3,h4,h5⟩ := unhide HS
   obtain ⟨va,vn,vc,rfl⟩ := h1.slice
   have hvn := h1.len
   obtain ⟨x,hxx⟩ : ∃ x,x = xs[wh + j]?.getD 0 := ⟨_,rfl⟩
   obtain ⟨y,hyy⟩ : ∃ y,y = xs[wh + j + 1]?.getD 0 := ⟨_,rfl⟩
   have hx1 : x < 4294967296 := by rw [hxx]; exact Pl.wf_at hw _
   have hy1 : y < 4294967296 := by rw [hyy]; exact Pl.wf_at hw _
   have L1 := unhide HLM (wh + j) wr ((unhide HL).below h5) (by omega)
   have L2 := unhide HLM (wh + j + 1) wr ((unhide HL).below h5) (by omega)
   rw [← hxx] at L1
   rw [← hyy] at L2
   have HL1 := hide L1
   have HL2 := hide L2
   obtain ⟨z,hz⟩ : ∃ z,z = (y * 4294967296 + x) / 2 ^ pt % 4294967296 := ⟨_,rfl⟩
   have hz1 : z < 4294967296 := by rw [hz]; exact Nat.mod_lt _ (by decide)
   obtain ⟨v',W',hrun,hO,hap,_⟩ := append_own1 wr w.heap.size vn vc z va zs h1 h5.size (by omega)
   have hval : Pl.val (zs ++ [z]) + 4294967296 ^ (j + 1) * (Pl.val (xs.drop (wh + (j + 1))) / 2 ^ pt) = Pl.val (xs.drop wh) / 2 ^ pt := by
    rw [Pl.val_append,Pl.val_one,h2,Nat.pow_succ,Nat.mul_assoc,Nat.add_assoc,← Nat.mul_add,hz,← h4]
    have := down_step (V := Pl.val (xs.drop (wh + j + 1))) (x := x) (h := y) (Nat.pow_pos (by decide)) (pow_split hpt) (by rw [hyy]; exact val_mod xs hw _) hx1
    rw [Nat.add_assoc wh j 1] at this
    rw [this,Pl.drop_cons xs (wh + j) (by omega),← hxx]
    simp only [Pl.val,Nat.add_assoc]
   have hB' : Below w.heap.size w W' := h5.trans ⟨hap.os,hap.tape,hap.output,hap.size,fun q hq => hap.block q (by have := h5.size; omega) (fun e => by have := h1.lt q e.symm; omega)⟩
   have HS' := hide (show Own W' w.heap.size v' (zs ++ [z]) ∧ (zs ++ [z]).length = j + 1 ∧ Pl.Wf (zs ++ [z]) ∧ _ ∧ Below w.heap.size w W' from ⟨hO,by simp [h2],Pl.wf_append h3 (Pl.wf_one hz1),hval,hB'⟩)
   have e1 : (Go.bits .or .u64 (x : Int) ((y : Int) * 4294967296) / 2 ^ (k % 32)) % 4294967296 = (z : Int) := by
    rw [or_limb2 y x hy1 hx1,down_shr _ k pt (unhide HP),hz]
   have HE1 := hide e1
   have HRUN := hide hrun
   clear h1 h2 h3 h4 h5 hxx hyy L1 L2 hO hap hval hB' e1 hz HS hrun hvn
   go_wp2_with fail
   refine (unhide HL1).mono ?_
   rintro e w1 ⟨rfl,rfl⟩
   go_wp2_with fail
   refine (unhide HL2).mono ?_
   rintro e w1 ⟨rfl,rfl⟩
   go_wp2_with (at_builtin; rw [unhide HE1]; refine wpList_append_run rfl (.tmp 29) (.tmp 32) 22 rfl (unhide HRUN) ?_)
   go_roundw
   case rel => exact ⟨j + 1,zs ++ [z],Or.inl (by omega),by go_num,HS'⟩
   case measure => simp [intOf]; omega
  ·obtain ⟨h1,h2,h3,h4,h5⟩ := unhide HS
   have hd : xs.drop (wh + j) = [] := List.drop_eq_nil_of_le (by omega)
   rw [hd] at h4
   have hv : Pl.val zs = Pl.val xs / 2 ^ k := by
    rw [unhide hk,Nat.pow_add,Nat.pow_mul,← Nat.div_div_eq_div_mul]
    rw [val_drop hw] at h4
    simpa [Pl.val] using h4
   have hjl : j ≤ 16384 := by omega
   have HT := hide (rtrim_own w.heap.size _ zs wr h1 h3)
   have HV := hide hv
   have HJ := hide h2
   have HB := hide h5
   clear h1 h2 h3 h4 h5 hv hd HS hnl
   go_wp2_with fail
   refine (unhide HT).mono ?_
   rintro e w1 ⟨rfl,a',l,c,ys,rfl,t1,t2,t3,t4,t5,t6⟩
   have HM := hide (show Mine wr w.heap.size a' l c (Pl.val xs / 2 ^ k) from ⟨ys,t2,t3,t4,t5,t6.trans (unhide HV),by have := unhide HJ; omega⟩)
   clear t1 t2 t3 t4 t5 t6
   go_wp2
   go_ret
   exact ⟨⟨a',l,c,rfl,unhide HM⟩,unhide HB⟩
end Go.Proofs.YtecmcjlgknfnlaaDoor
