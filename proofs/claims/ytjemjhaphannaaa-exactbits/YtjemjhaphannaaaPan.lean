/- Of what ExactBitsRow stands on: StRows RefShift Stands Led Lent. -/
import Derived.Test.YtjemjhaphannaaaPal
import Derived.Test.YtjemjhaphannaaaPam
import Derived.OwnWalk
import Derived.Test.YtjemjhaphannaaaPaf
import Derived.BigQuiet
namespace Go.Proofs.Ytjemjhaphannaaa
open Go.RowKit
theorem wpList_append_run {P : Program} {w w' : World} {ops : Array Oper} {rest : List Oper} {o : Oper} {a : Act} {Q : Exit → Act → World → Prop} {v' : Value} (hgd : o.guard = none) (s x : Operand) (t : TypeId)
  (ho : o.op = .call { callee := .builtin .append,args := #[s,x],argTypes := #[t,t] }) (hrun : (Builtin.append_ #[t,t] o.type #[a.eval s,a.eval x]).run P w = .ok v' w')
  (h : wpList P ops Q rest (a.put o.dst v') w') : wpList P ops Q (o :: rest) a w :=
 wpList_plain hgd fun _ hK => by
  unfold Oper.wp execOp
  simp only [ho,resolve,invoke,builtin,Sem.run_bind,Sem.run_pure,Result.andThen_ok,List.map_toArray,List.map_cons,List.map_nil,hrun]
  exact hK _ _ h
def fl (i n : Nat) : List Nat := (List.range n).map (fun k => 1000 * i + k % 1000)
def tl (i n : Nat) : List Nat := (List.range n).map (fun k => 900000 + 1000 * i + k)
theorem fl_len (i n : Nat) : (fl i n).length = n := by simp [fl]
theorem tl_len (i n : Nat) : (tl i n).length = n := by simp [tl]
theorem tl_succ (i n : Nat) : tl i (n + 1) = tl i n ++ [900000 + 1000 * i + n] := by simp [tl,List.range_succ]
def ApartV (v u : Value) : Prop := ∀ k,v.ownBlock = some k → u.ownBlock ≠ some k
theorem ApartV.symm {v u : Value} (h : ApartV v u) : ApartV u v := fun k hu hv => h k hv hu
theorem Own.lt {w : World} {base : Nat} {v : Value} {xs : List Nat} (h : Own w base v xs) : ∀ k,v.ownBlock = some k → base ≤ k ∧ k < w.heap.size := by
 rintro k hk
 rcases h with ⟨rfl,_⟩ | ⟨g,cap,cur,rfl,hg,hh,_⟩
 ·cases hk
 ·simp only [Value.ownBlock] at hk
  injection hk with hk
  subst hk
  refine ⟨hg,?_⟩
  by_cases hlt : g < w.heap.size
  ·exact hlt
  ·rw [Array.getElem?_eq_none (by omega)] at hh; cases hh
theorem Own.type {w : World} {base : Nat} {v : Value} {xs : List Nat} (h : Own w base v xs) : ∀ k,v.ownBlock = some k → ∃ cur,w.heap[k]? = some (.cells cur 57 (0,0)) := by
 rintro k hk
 rcases h with ⟨rfl,_⟩ | ⟨g,cap,cur,rfl,hg,hh,_⟩
 ·cases hk
 ·simp only [Value.ownBlock] at hk
  injection hk with hk
  subst hk
  exact ⟨cur,hh⟩
theorem Own.keep {w w' : World} {base : Nat} {v : Value} {xs : List Nat} (h : Own w base v xs) (hk : ∀ k,k < w.heap.size → v.ownBlock = some k → w'.heap[k]? = w.heap[k]?) : Own w' base v xs := by
 have hl := h.lt
 rcases h with h | ⟨g,cap,cur,rfl,hg,hh,r⟩
 ·exact Or.inl h
 ·exact Or.inr ⟨g,cap,cur,rfl,hg,by rw [hk g (hl g rfl).2 rfl]; exact hh,r⟩
theorem Own.len {w : World} {base : Nat} {a : Option Addr} {n c : Nat} {xs : List Nat} (h : Own w base (.slice a n c) xs) : xs.length = n := by
 rcases h with ⟨e,rfl⟩ | ⟨g,cap,cur,e,_⟩
 ·injection e with _ e2 _; subst e2; rfl
 ·injection e with _ e2 _; exact e2.symm
theorem Own.room {w : World} {base : Nat} {a : Option Addr} {n c : Nat} {xs : List Nat} (h : Own w base (.slice a n c) xs) : n ≤ c ∧ c ≤ 9223372036854775807 := by
 rcases h with ⟨e,rfl⟩ | ⟨g,cap,cur,e,_,_,h1,_,h3,_⟩
 ·injection e with _ e2 e3; omega
 ·injection e with _ e2 e3; omega
theorem Own.slice {w : World} {base : Nat} {v : Value} {xs : List Nat} (h : Own w base v xs) : ∃ a n c,v = .slice a n c := by
 rcases h with ⟨e,rfl⟩ | ⟨g,cap,cur,e,_⟩
 ·exact ⟨_,_,_,e⟩
 ·exact ⟨_,_,_,e⟩
theorem Own.open {w : World} {base : Nat} {a : Option Addr} {n c : Nat} {xs : List Nat} (h : Own w base (.slice a n c) xs) (hn : 0 < n) :
  ∃ b,a = some ⟨b,0,none⟩ ∧ base ≤ b ∧ b < w.heap.size ∧ (∀ k,k < n → w.cell? ⟨b,k,none⟩ = some (.int .u32 ((xs[k]?.getD 0 : Nat) : Int))) ∧ ∀ k,w.frozen? ⟨b,k,none⟩ = false := by
 have hl := h.len
 have hlt := h.lt
 rcases h with ⟨e,rfl⟩ | ⟨g,cap,cur,e,hg,hh,h1,h2,h3,hc⟩
 ·simp at hl; omega
 ·injection e with e1 e2 e3
  subst e1
  exact ⟨g,rfl,hg,(hlt g rfl).2,fun k hk => by rw [cell_of_row w g k _ _ _ hh]; exact hc k (by omega),fun k => frozen_of_row w g k _ _ hh⟩
theorem Own.put {w : World} {base b n c k z : Nat} {xs : List Nat} (h : Own w base (.slice (some ⟨b,0,none⟩) n c) xs) (hk : k < n) : Own (w.setCell ⟨b,k,none⟩ (.int .u32 (z : Int))) base (.slice (some ⟨b,0,none⟩) n c) (xs.set k z) := by
 have hl := h.len
 rcases h with ⟨e,rfl⟩ | ⟨g,cap,cur,e,hg,hh,h1,h2,h3,hc⟩
 ·cases e
 ·injection e with e1 e2 e3
  injection e1 with e1
  injection e1 with e1
  subst e1 e3
  refine Or.inr ⟨b,c,_,by rw [List.length_set,e2],hg,heap_setCell_same w b k _ _ _ hh,by rw [List.length_set]; exact h1,by rw [Array.size_setIfInBounds]; exact h2,h3,fun j hj => ?_⟩
  rw [List.length_set] at hj
  by_cases hjk : j = k
  ·subst hjk
   rw [Array.getElem?_setIfInBounds_self_of_lt (by omega),List.getElem?_set_self hj]
   rfl
  ·rw [Array.getElem?_setIfInBounds_ne (by omega),List.getElem?_set_ne (by omega)]
   exact hc j hj
structure Sts (W : World) (base N g : Nat) (A : Nat → Option Addr) (L C : Nat → Nat) (X : Nat → List Nat) : Prop where
 row : ∃ cur,W.heap[g]? = some (.cells cur 26 (0,0)) ∧ ∀ i,i < N → cur[i]? = some (.slice (A i) (L i) (C i))
 own : ∀ i,i < N → Own W base (.slice (A i) (L i) (C i)) (X i)
 ap : ∀ i j,i < N → j < N → i ≠ j → ApartV (.slice (A i) (L i) (C i)) (.slice (A j) (L j) (C j))
theorem Sts.cell {W : World} {base N g : Nat} {A : Nat → Option Addr} {L C : Nat → Nat} {X : Nat → List Nat} (h : Sts W base N g A L C X) (i : Nat) (hi : i < N) : W.cell? ⟨g,i,none⟩ = some (.slice (A i) (L i) (C i)) := by
 obtain ⟨cur,hh,hc⟩ := h.row
 rw [cell_of_row W g i _ _ _ hh]; exact hc i hi
theorem Sts.keep {W W' : World} {base N g : Nat} {A : Nat → Option Addr} {L C : Nat → Nat} {X : Nat → List Nat} (h : Sts W base N g A L C X) (hg : W'.heap[g]? = W.heap[g]?) (ho : ∀ i,i < N → Own W' base (.slice (A i) (L i) (C i)) (X i)) : Sts W' base N g A L C X := by
 obtain ⟨cur,hh,hc⟩ := h.row
 exact ⟨⟨cur,by rw [hg]; exact hh,hc⟩,ho,h.ap⟩
theorem Sts.below {W W' : World} {base N g : Nat} {A : Nat → Option Addr} {L C : Nat → Nat} {X : Nat → List Nat} (h : Sts W base N g A L C X) (hb : Below W.heap.size W W') : Sts W' base N g A L C X := by
 have hg : g < W.heap.size := by
  obtain ⟨cur,hh,_⟩ := h.row
  by_cases hlt : g < W.heap.size
  ·exact hlt
  ·rw [Array.getElem?_eq_none (by omega)] at hh; cases hh
 exact h.keep (hb.block g hg) (fun i hi => (h.own i hi).kept hb)
theorem Sts.put {W : World} {base N g i b k z : Nat} {A : Nat → Option Addr} {L C : Nat → Nat} {X : Nat → List Nat} (h : Sts W base N g A L C X) (hi : i < N) (hb : A i = some ⟨b,0,none⟩) (hk : k < L i) :
  Sts (W.setCell ⟨b,k,none⟩ (.int .u32 (z : Int))) base N g A L C (fun j => if j = i then (X i).set k z else X j) := by
 have ho := h.own i hi
 have hob : (Value.slice (A i) (L i) (C i)).ownBlock = some b := by rw [hb]; rfl
 obtain ⟨cu,hcu⟩ := ho.type b hob
 obtain ⟨cur,hh,hc⟩ := h.row
 have hgb : g ≠ b := fun e => by
  subst e; rw [hh] at hcu; injection hcu with hcu; injection hcu with _ hcu; exact absurd hcu (by decide)
 refine ⟨⟨cur,by rw [heap_setCell_other W _ g _ hgb]; exact hh,hc⟩,fun j hj => ?_,h.ap⟩
 by_cases hji : j = i
 ·subst hji
  rw [if_pos rfl]
  rw [hb] at ho ⊢
  exact ho.put hk
 ·rw [if_neg hji]
  refine (h.own j hj).keep (fun q _ hq => heap_setCell_other W _ q _ (fun e => ?_))
  subst e
  exact h.ap i j hi hj (by omega) _ hob hq
structure Gst (W : World) (base N g : Nat) (A : Nat → Option Addr) (L C : Nat → Nat) (i : Nat) (G : Nat → Value) (vgr : Value) : Prop where
 sts : Sts W base N g A L C (fun j => fl j (L j))
 own : ∀ j,j < i → Own W base (G j) (fl j (L j) ++ tl j 40)
 apG : ∀ j k,j < i → k < i → j ≠ k → ApartV (G j) (G k)
 apE : ∀ j k,j < i → k < N → j ≠ k → ApartV (G j) (.slice (A k) (L k) (C k))
 row : W.ownsRow base 24 1 vgr i ((List.range i).map G)
structure Gst1 (W : World) (base N g : Nat) (A : Nat → Option Addr) (L C : Nat → Nat) (i : Nat) (G : Nat → Value) (vgr : Value) (k : Nat) (v : Value) : Prop where
 gst : Gst W base N g A L C i G vgr
 own : Own W base v (fl i (L i) ++ tl i k)
 apG : ∀ j,j < i → ApartV v (G j)
 apE : ∀ j,j < N → j ≠ i → ApartV v (.slice (A j) (L j) (C j))
theorem Gst1.start {W : World} {base N g i : Nat} {A : Nat → Option Addr} {L C : Nat → Nat} {G : Nat → Value} {vgr : Value} (h : Gst W base N g A L C i G vgr) (hi : i < N) : Gst1 W base N g A L C i G vgr 0 (.slice (A i) (L i) (C i)) :=
 ⟨h,by simpa [tl] using h.sts.own i hi,fun j hj => (h.apE j i hj hi (by omega)).symm,fun j hj hji => h.sts.ap i j hi hj (by omega)⟩
set_option maxHeartbeats 1000000 in
theorem Gst1.step {W : World} {base N g i k : Nat} {A : Nat → Option Addr} {L C : Nat → Nat} {G : Nat → Value} {vgr : Value} {a : Option Addr} {m c : Nat} (h : Gst1 W base N g A L C i G vgr k (.slice a m c)) (hi : i < N) (hb : base ≤ W.heap.size) (hm : m ≤ 35184372088831) :
  ∃ a' m' c' W',(Builtin.append_ #[24,24] 24 #[.slice a m c,.slice (some ⟨W.heap.size,0,none⟩) 1 1]).run Try.prog (W.alloc (.cells #[.int .u32 ((900000 + 1000 * i + k : Nat) : Int)] 57)) = .ok (.slice a' m' c') W' ∧
   Gst1 W' base N g A L C i G vgr (k + 1) (.slice a' m' c') ∧ Below base W W' := by
 obtain ⟨v',W',hr,ho,hap,hpre⟩ := append_own1 W base m c (900000 + 1000 * i + k) a _ h.own hb hm
 obtain ⟨a',m',c',rfl⟩ := ho.slice
 have hvl := h.own.lt
 have hfar : ∀ u ys,Own W base u ys → ApartV (.slice a m c) u → Own W' base u ys := fun u ys hu hau => hu.keep (fun q hq hqu => hap.block q hq (fun e => hau q e.symm hqu))
 have hE : ∀ j,j < N → Own W' base (.slice (A j) (L j) (C j)) (fl j (L j)) := fun j hj => by
  by_cases hji : j = i
  ·subst hji
   have hu := h.gst.sts.own j hj
   by_cases hs : ApartV (.slice a m c) (.slice (A j) (L j) (C j))
   ·exact hfar _ _ hu hs
   ·have : a = A j ∧ L j ≤ m := by
     have hlm := h.own.len
     rw [List.length_append,fl_len,tl_len] at hlm
     refine ⟨?_,by omega⟩
     have h1 := h.own
     have h2 := hu
     rcases h1 with ⟨e,_⟩ | ⟨g1,_,_,e,_⟩
     ·exact absurd (fun q hq => by rw [e] at hq; cases hq) hs
     ·rcases h2 with ⟨e2,_⟩ | ⟨g2,_,_,e2,_⟩
      ·exact absurd (fun q hq hq2 => by rw [e2] at hq2; cases hq2) hs
      ·have e := (Value.slice.inj e).1
       have e2 := (Value.slice.inj e2).1
       by_cases h12 : g1 = g2
       ·rw [e,e2,h12]
       ·exact absurd (fun q hq hq2 => by
         rw [e] at hq; rw [e2] at hq2
         simp only [Value.ownBlock] at hq hq2
         injection hq with hq; injection hq2 with hq2; omega) hs
    rw [this.1] at hpre
    exact hpre _ _ _ this.2 hu
  ·exact hfar _ _ (h.gst.sts.own j hj) (h.apE j hj hji)
 have hnew : ∀ u ys,Own W base u ys → ApartV (.slice a m c) u → ApartV (.slice a' m' c') u := fun u ys hu hau q hq hqu => by
  rcases hap.own with e | ⟨g3,e,h3⟩
  ·rw [e] at hq; exact hau q hq hqu
  ·rw [e] at hq; injection hq with hq; have := hu.lt q hqu; omega
 have hgv : some g ≠ (Value.slice a m c).ownBlock := fun e => by
  obtain ⟨cu,hcu⟩ := h.own.type g e.symm
  obtain ⟨cur,hh,_⟩ := h.gst.sts.row
  rw [hh] at hcu; injection hcu with hcu; injection hcu with _ hcu; exact absurd hcu (by decide)
 have hgl : g < W.heap.size := by
  obtain ⟨cur,hh,_⟩ := h.gst.sts.row
  by_cases hlt : g < W.heap.size
  ·exact hlt
  ·rw [Array.getElem?_eq_none (by omega)] at hh; cases hh
 have hrow : W'.ownsRow base 24 1 vgr i ((List.range i).map G) := by
  have hr0 := h.gst.row
  have hr1 := hr0
  obtain ⟨h1,h2 | ⟨q,cap,cur',e,hq,hh,r⟩⟩ := hr0
  ·exact ⟨h1,Or.inl h2⟩
  ·have hlt : q < W.heap.size := by
    by_cases hlt : q < W.heap.size
    ·exact hlt
    ·rw [Array.getElem?_eq_none (by omega)] at hh; cases hh
   refine ⟨h1,Or.inr ⟨q,cap,cur',e,hq,?_,r⟩⟩
   rw [hap.block q hlt ?_]; exact hh
   intro e2
   obtain ⟨cu,hcu⟩ := h.own.type q e2.symm
   rw [hh] at hcu; injection hcu with hcu; injection hcu with _ hcu; exact absurd hcu (by decide)
 refine ⟨a',m',c',W',hr,⟨⟨h.gst.sts.keep (hap.block g hgl hgv) hE,fun j hj => hfar _ _ (h.gst.own j hj) (h.apG j hj),h.gst.apG,h.gst.apE,hrow⟩,by rw [tl_succ,← List.append_assoc]; exact ho,fun j hj => hnew _ _ (h.gst.own j hj) (h.apG j hj),fun j hj hji => hnew _ _ (h.gst.sts.own j hj) (h.apE j hj hji)⟩,?_⟩
 exact ⟨hap.os,hap.tape,hap.output,hap.size,fun q hq => hap.block q (by omega) (fun e => by have := hvl q e.symm; omega)⟩
def Rd (W : World) (N g q : Nat) (A : Nat → Option Addr) (L C : Nat → Nat) : Prop := ∀ i,i < N →
  ∃ b cb,W.cell? ⟨q,i,none⟩ = some (.slice (some ⟨b,0,none⟩) (L i + 40) cb) ∧
   (∀ k,k < L i → W.cell? ⟨b,k,none⟩ = some (.int .u32 ((1000 * i + k % 1000 : Nat) : Int))) ∧ (∀ k,k < 40 → W.cell? ⟨b,L i + k,none⟩ = some (.int .u32 ((900000 + 1000 * i + k : Nat) : Int))) ∧
   W.cell? ⟨g,i,none⟩ = some (.slice (A i) (L i) (C i)) ∧ (0 < L i → ∃ d,A i = some ⟨d,0,none⟩ ∧ ∀ k,k < L i → W.cell? ⟨d,k,none⟩ = some (.int .u32 ((1000 * i + k % 1000 : Nat) : Int)))
theorem Rd.drewN {W : World} {N g q : Nat} {A : Nat → Option Addr} {L C : Nat → Nat} (h : Rd W N g q A L C) (k : Nat) : Rd (W.drewN k) N g q A L C := h
end Go.Proofs.Ytjemjhaphannaaa
namespace Go.Proofs.Ytjemjhaphannaaa
open Go.RowKit
theorem or_limb2 (r x : Nat) (hr : r < 4294967296) (hx : x < 4294967296) : Go.bits .or .u64 (x : Int) ((r : Int) * 4294967296) = ((r * 4294967296 + x : Nat) : Int) := by
 have h := bits_or_u64_nat x (r * 4294967296) (by omega) (by omega)
 have e : x ||| r * 4294967296 = r * 4294967296 + x := by
  have := Nat.two_pow_add_eq_or_of_lt (i := 32) (b := x) (by omega) r
  rw [Nat.mul_comm r 4294967296,Nat.or_comm]; exact this.symm
 rw [e] at h
 rw [show ((r : Int) * 4294967296) = ((r * 4294967296 : Nat) : Int) by omega,h]
end Go.Proofs.Ytjemjhaphannaaa
namespace Go.Proofs.Ytjemjhaphannaaa
open Go.RowKit
end Go.Proofs.Ytjemjhaphannaaa
namespace Go.Proofs.Ytjemjhaphannaaa
open Go.RowKit
structure Ents (w : World) (base : Nat) (es : List Value) : Prop where
 own : ∀ (i : Nat) (v : Value),es[i]? = some v → ∃ xs,Own w base v xs ∧ xs.length ≤ 35184372087808
 ap : ∀ (i j : Nat) (u v : Value),i ≠ j → es[i]? = some u → es[j]? = some v → ApartV u v
theorem Ents.nil (w : World) (base : Nat) : Ents w base [] := ⟨fun i v h => by simp at h,fun i j u v _ h => by simp at h⟩
theorem Ents.keep {w w' : World} {base : Nat} {es : List Value} (h : Ents w base es) (hk : ∀ v xs,Own w base v xs → Own w' base v xs) : Ents w' base es :=
 ⟨fun i v hv => by obtain ⟨xs,ho,hl⟩ := h.own i v hv; exact ⟨xs,hk v xs ho,hl⟩,h.ap⟩
theorem Ents.slice {w : World} {base : Nat} {es : List Value} (h : Ents w base es) {i : Nat} {v : Value} (hv : es[i]? = some v) : ∃ a n c,v = .slice a n c := by
 obtain ⟨xs,ho,_⟩ := h.own i v hv
 exact ho.slice
def sA : Value → Option Addr
 | .slice a _ _ => a
 | _ => none
def sL : Value → Nat
 | .slice _ n _ => n
 | _ => 0
def sC : Value → Nat
 | .slice _ _ c => c
 | _ => 0
def sv (es : List Value) (i : Nat) : Value := es[i]?.getD (.slice none 0 0)
theorem sv_eq {w : World} {base : Nat} {es : List Value} (h : Ents w base es) {i : Nat} (hi : i < es.length) : es[i]? = some (.slice (sA (sv es i)) (sL (sv es i)) (sC (sv es i))) := by
 have e : es[i]? = some es[i] := List.getElem?_eq_getElem hi
 obtain ⟨a,n,c,hv⟩ := h.slice e
 unfold sv
 rw [e,hv]; rfl
theorem Ents.sts {w : World} {base N g cap : Nat} {es : List Value} (h : Ents w base es) (hr : w.ownsRow base 26 1 (.slice (some ⟨g,0,none⟩) N cap) N es) :
  ∃ X,Sts w base N g (fun i => sA (sv es i)) (fun i => sL (sv es i)) (fun i => sC (sv es i)) X := by
 have hlen : es.length = N := by have := hr.1; omega
 have hex : ∀ i,∃ xs,i < N → Own w base (.slice (sA (sv es i)) (sL (sv es i)) (sC (sv es i))) xs := fun i => by
  by_cases hi : i < N
  ·obtain ⟨xs,ho,_⟩ := h.own i _ (sv_eq h (by omega))
   exact ⟨xs,fun _ => ho⟩
  ·exact ⟨[],fun hh => absurd hh hi⟩
 obtain ⟨X,hX⟩ := Classical.axiomOfChoice hex
 refine ⟨X,?_,fun i hi => hX i hi,fun i j hi hj hij => h.ap i j _ _ hij (sv_eq h (by omega)) (sv_eq h (by omega))⟩
 obtain ⟨_,h2 | ⟨g',cap',cur,e,hg,hh,h3,h4,h5,h6⟩⟩ := hr
 ·cases h2.1
 ·injection e with e1 e2 e3
  injection e1 with e1
  injection e1 with e1
  subst e1
  refine ⟨cur,hh,fun i hi => ?_⟩
  rw [← sv_eq h (by omega),← h6,List.getElem?_take,if_pos (by omega),Array.getElem?_toList]
structure Bx (w : World) (vg vw : Value) (q : Nat) (v : Value) : Prop where
 box : Box w q v
 ng : some q ≠ vg.ownBlock
 nw : some q ≠ vw.ownBlock
theorem Bx.cell {w : World} {vg vw : Value} {q : Nat} {v : Value} (h : Bx w vg vw q v) : w.cell? ⟨q,0,none⟩ = some v := h.box.cell
theorem Bx.kept {w w' : World} {vg vw : Value} {q : Nat} {v : Value} (h : Bx w vg vw q v) (hb : Below w.heap.size w w') : Bx w' vg vw q v := ⟨h.box.kept hb,h.ng,h.nw⟩
theorem Bx.alloc {w : World} {vg vw : Value} {q : Nat} {v : Value} (h : Bx w vg vw q v) (o : Obj) : Bx (w.alloc o) vg vw q v := h.kept (gr_alloc _ _)
end Go.Proofs.Ytjemjhaphannaaa
namespace Go.Proofs.Ytjemjhaphannaaa
open Go.RowKit
structure Lt (w : World) (base g n cap : Nat) (xs : List Nat) : Prop where
 own : Own w base (.slice (some ⟨g,0,none⟩) (n + 3) cap) (xs ++ [77,78,79])
 len : xs.length = n
theorem Own.prefix {w : World} {base g m n cap : Nat} {ys : List Nat} (h : Own w base (.slice (some ⟨g,0,none⟩) m cap) ys) (hn : n ≤ m) : Own w base (.slice (some ⟨g,0,none⟩) n cap) (ys.take n) := by
 have hl := h.len
 rcases h with ⟨e,_⟩ | ⟨g',cap',cur,e,hg,hh,h1,h2,h3,hc⟩
 ·cases e
 ·injection e with e1 e2 e3
  injection e1 with e1
  injection e1 with e1
  subst e1 e3
  have e : (ys.take n).length = n := by rw [List.length_take]; omega
  refine Or.inr ⟨g,cap,cur,by rw [e],hg,hh,by omega,h2,h3,fun j hj => ?_⟩
  rw [e] at hj
  rw [hc j (by omega),List.getElem?_take,if_pos hj]
theorem Lt.short {w : World} {base g n cap : Nat} {xs : List Nat} (h : Lt w base g n cap xs) : Own w base (.slice (some ⟨g,0,none⟩) n cap) xs := by
 have := h.own.prefix (n := n) (by omega)
 rwa [List.take_append_of_le_length (by rw [h.len]; omega),List.take_of_length_le (by rw [h.len]; omega)] at this
theorem Lt.lim {w : World} {base g n cap : Nat} {xs : List Nat} (h : Lt w base g n cap xs) : Lim w (some ⟨g,0,none⟩) xs := by
 obtain ⟨a,c,e,_,_,hl⟩ := h.short.lim
 have := (Value.slice.inj e).1
 rw [this]; exact hl
theorem Lt.kept {w w' : World} {base g n cap : Nat} {xs : List Nat} (h : Lt w base g n cap xs) (hb : Below w.heap.size w w') : Lt w' base g n cap xs := ⟨h.own.kept hb,h.len⟩
theorem Lt.alloc {w : World} {base g n cap : Nat} {xs : List Nat} (h : Lt w base g n cap xs) (o : Obj) : Lt (w.alloc o) base g n cap xs := h.kept (gr_alloc _ _)
theorem Lt.room {w : World} {base g n cap : Nat} {xs : List Nat} (h : Lt w base g n cap xs) : n + 3 ≤ cap ∧ cap ≤ 9223372036854775807 := h.own.room
theorem Lt.mono {w : World} {base base' g n cap : Nat} {xs : List Nat} (h : Lt w base g n cap xs) (hb : base' ≤ base) : Lt w base' g n cap xs := ⟨h.own.mono hb,h.len⟩
theorem append_lim (w : World) (a : Option Addr) (n cap : Nat) (xs : List Nat) (hn : xs.length = n) (hl : Lim w a xs) (hb : n ≤ 35184372088832) :
  ∃ v W,(Builtin.append_ #[24,24] 24 #[.slice none 0 0,.slice a n cap]).run Try.prog w = .ok v W ∧ W.ownsRow w.heap.size 57 1 v n (xs.map (fun z : Nat => Value.int .u32 (z : Int))) ∧ Below w.heap.size w W := by
 obtain ⟨i0,hi,hz0,hz1,hz2⟩ := info_parts Try.info_limb
 rcases hl.parts with hx | ⟨hp,b,off,rfl,hlt,hc⟩
 ·subst hx
  obtain rfl : n = 0 := by rw [← hn]; rfl
  refine ⟨.slice none 0 0,w,?_,World.ownsRow_nil _ _ _ _,gr_refl _⟩
  cases a with
  | none => exact run_append_nothing (P := Try.prog) w 24 24 24 57 i0 Try.under_limbs hi none 0 0 (Nat.le_refl _) _ (Src.ofNil _ Try.under_limbs cap)
  | some ad => exact run_append_nothing (P := Try.prog) w 24 24 24 57 i0 Try.under_limbs hi none 0 0 (Nat.le_refl _) _ (Src.ofSlice _ Try.under_limbs ad 0 cap [] (by simp) (fun j u h => by simp at h) (fun u h => by simp at h))
 ·obtain ⟨v,W,h1,h2,h3,_⟩ := run_append_own_at (P := Try.prog) (w := w) w.heap.size 24 24 57 i0 (.int .u32 0) 1 4 Try.under_limbs hi hz0 hz1 hz2 rfl (by decide) (.slice none 0 0) 0 [] (World.ownsRow_nil _ _ _ _) ⟨b,off,none⟩ n cap (xs.map (fun z : Nat => Value.int .u32 (z : Int))) (by simp; omega) (fun j u hj => by
    have hjn : j < xs.length := by have := (List.getElem?_eq_some_iff.1 hj).1; simpa using this
    have hv : u = .int .u32 ((xs[j]?.getD 0 : Nat) : Int) := by
     rw [List.getElem?_map,List.getElem?_eq_getElem hjn] at hj
     simp at hj
     rw [← hj]
     simp [hjn]
    rw [hv,Addr.add_lit]
    exact hc j hjn) (fun u hu => by obtain ⟨z,_,rfl⟩ := List.mem_map.1 hu; rfl) (by unfold maxLen; omega) (by omega) (Nat.le_refl _)
  refine ⟨v,W,h1,by simpa using h2,h3.os,h3.tape,h3.output,h3.size,fun k hk => h3.block k hk (by simp [Value.ownBlock])⟩
set_option maxHeartbeats 1000000 in
theorem lent_any (a : Option Addr) (n cap : Nat) (xs : List Nat) (w : World) (hn : xs.length = n) (hl : Lim w a xs) (hb : n ≤ 35184372087808) :
  Calls Try.prog 15 #[.agg #[.slice a n cap]] w fun e w' => (∃ g c,e = .returned (.agg #[.slice (some ⟨g,0,none⟩) n c]) ∧ Lt w' w.heap.size g n c xs) ∧ Below w.heap.size w w' := by
 obtain ⟨i0,hi,hz0,hz1,hz2⟩ := info_parts Try.info_limb
 obtain ⟨W0,hW0⟩ : ∃ W0,(w.alloc (.cells #[.slice a n cap] 26)).alloc (.cells #[.slice none 0 0] 26) = W0 := ⟨_,rfl⟩
 have hb0 : Below w.heap.size w W0 := by rw [← hW0]; exact gr_trans (gr_alloc _ _) (gr_alloc _ _)
 have hx0 : Box W0 w.heap.size (.slice a n cap) := by rw [← hW0]; exact (Box.made w _).alloc _
 have hy0 : Box W0 (w.heap.size + 1) (.slice none 0 0) := by
  rw [← hW0]
  have := Box.made (w.alloc (.cells #[.slice a n cap] 26)) (.slice none 0 0)
  simpa using this
 obtain ⟨v1,W1,hr1,ho1,hb1⟩ := append_lim W0 a n cap xs hn (hl.below hb0) (by omega)
 have hx1 := hx0.kept hb1
 have hy1 := hy0.kept hb1
 obtain ⟨v2,W2,hr2,ho2,hg2,_⟩ := run_append_own_at (P := Try.prog) (w := W1.alloc (.cells #[.int .u32 77,.int .u32 78,.int .u32 79] 57)) W0.heap.size 24 24 57 i0 (.int .u32 0) 1 4 Try.under_limbs hi hz0 hz1 hz2 rfl (by decide) v1 n _ (ho1.alloc _) ⟨W1.heap.size,0,none⟩ 3 3 [.int .u32 77,.int .u32 78,.int .u32 79] rfl
  (fun j u hj => by
   rw [Addr.add_lit,Nat.zero_add,cell_of_row _ _ j _ _ _ (heap_alloc_new W1 _)]
   simpa using hj)
  (fun u hu => by simp at hu; rcases hu with rfl | rfl | rfl <;> rfl) (by unfold maxLen; omega) (by omega) (by have := hb1.size; simp; omega)
 have hv1 := ho1.lt
 have hs0 := hb0.size
 have hs1 := hb1.size
 have hxl := hx0.lt
 have hyl := hy0.lt
 have hkeep : ∀ k,k < W0.heap.size → W2.heap[k]? = W0.heap[k]? := fun k hk => (hg2.block k (by simp; omega) (fun e => by have := hv1 k e.symm; omega)).trans (((gr_alloc W1 _).block k (by omega)).trans (hb1.block k hk))
 have hx2 : Box W2 w.heap.size (.slice a n cap) := by unfold Box; rw [hkeep _ hxl]; exact hx0
 have hy2 : Box W2 (w.heap.size + 1) (.slice none 0 0) := by unfold Box; rw [hkeep _ hyl]; exact hy0
 have hsz2 : W1.heap.size ≤ W2.heap.size := by have := hg2.size; simp at this; omega
 have hbel : Below w.heap.size w W2 := ⟨hg2.os.trans (hb1.os.trans hb0.os),hg2.tape.trans (hb1.tape.trans hb0.tape),hg2.output.trans (hb1.output.trans hb0.output),by omega,fun k hk => (hkeep k (by omega)).trans (hb0.block k hk)⟩
 have ho2' : W2.ownsRow W0.heap.size 57 1 v2 (n + 3) ((xs ++ [77,78,79]).map (fun z : Nat => Value.int .u32 (z : Int))) := by simpa using ho2
 obtain ⟨hO,g,hgb,hge⟩ := own_of_row ho2' (by simp; omega) (by omega) (show w.heap.size ≤ W0.heap.size by omega)
 obtain ⟨g',c,hform⟩ := own_form ho2 (by omega)
 subst hform
 have hroom := hO.room
 have HO := hide hO
 have HB := hide hbel
 have HN := hide hn
 have HY := hide hy2
 have hfy := hy2.frozen
 have hcx0 := hx0.cell
 have hcx1 := hx1.cell
 have hcx2 := hx2.cell
 have hcy2 := hy2.cell
 have hgl := hO.lt g' rfl
 clear hO hbel hn hl hb0 hx0 hy0 ho1 hb1 hx1 hy1 ho2 ho2' hg2 hv1 hkeep hx2 hy2 hgb hge hi hz0 hz1 hz2
 subst hW0
 go_enter Try.func15,Try.ntmps15
 go_wp2_with (at_builtin; first | refine wpList_append_run rfl (.tmp 4) (.tmp 6) 24 rfl hr1 ?_ | refine wpList_append_run rfl (.tmp 8) (.tmp 9) 24 rfl hr2 ?_)
 have hres := ((unhide HY).set (.slice (some ⟨g',0,none⟩) n c)).cell
 have hgy : g' ≠ w.heap.size + 1 := fun e => by
  obtain ⟨cu,hcu⟩ := (unhide HO).type g' rfl
  have := unhide HY
  unfold Box at this
  rw [← e,hcu] at this
  injection this with this; injection this with _ this; exact absurd this (by decide)
 refine bodyPost_ret (v := .agg #[.slice (some ⟨g',0,none⟩) n c]) (by simp [results,Try.results15,go_sem,hres]) rfl ⟨⟨g',c,rfl,(unhide HO).keep (fun k _ hk => heap_setCell_other W2 _ k _ (fun e => ?_)),unhide HN⟩,(unhide HB).setCell (by simp) _⟩
 simp only [Value.ownBlock] at hk
 injection hk with hk
 simp only at e
 omega
structure Kw (w W : World) (g cap b off n ca : Nat) (xs : List Nat) : Prop where
 bx : Box W w.heap.size (.slice (some ⟨g,0,none⟩) n cap)
 ay : Box W (w.heap.size + 1) (.slice (some ⟨b,off,none⟩) n ca)
 n0 : W.cell? ⟨g,n,none⟩ = some (.int .u32 77)
 n1 : W.cell? ⟨g,n + 1,none⟩ = some (.int .u32 78)
 n2 : W.cell? ⟨g,n + 2,none⟩ = some (.int .u32 79)
 cg : ∀ j,j < n → W.cell? ⟨g,j,none⟩ = some (.int .u32 ((xs[j]?.getD 0 : Nat) : Int))
 cb : ∀ j,j < n → W.cell? ⟨b,off + j,none⟩ = some (.int .u32 ((xs[j]?.getD 0 : Nat) : Int))
 bel : Below w.heap.size w W
theorem Kw.drewN {w W : World} {g cap b off n ca : Nat} {xs : List Nat} (h : Kw w W g cap b off n ca xs) (k : Nat) : Kw w (W.drewN k) g cap b off n ca xs := ⟨h.bx,h.ay,h.n0,h.n1,h.n2,h.cg,h.cb,below_drewN h.bel k⟩
set_option maxHeartbeats 1000000 in
theorem kept_some (g cap b off n ca : Nat) (xs : List Nat) (w : World) (base : Nat) (h : Lt w base g n cap xs) (hb : n ≤ 35184372087808) (hlt : 0 < n → b < w.heap.size) (hx : Pl.Wf xs)
  (hc : Hid (∀ j,j < n → w.cell? ⟨b,off + j,none⟩ = some (.int .u32 ((xs[j]?.getD 0 : Nat) : Int)))) :
  Calls Try.prog 27 #[.agg #[.slice (some ⟨g,0,none⟩) n cap],.agg #[.slice (some ⟨b,off,none⟩) n ca]] w fun e w' => e = .returned (.bool true) ∧ Below w.heap.size w w' := by
 obtain ⟨gb,egb,_,hg2,hcg,_⟩ := h.own.open (by omega)
 have egb' : g = gb := by
  injection egb with egb
  injection egb
 subst egb'
 have hroom := h.room
 have hxl := h.len
 have m0 : w.cell? ⟨g,n,none⟩ = some (.int .u32 77) := by
  rw [hcg n (by omega),List.getElem?_append_right (by omega),hxl,Nat.sub_self]; rfl
 have m1 : w.cell? ⟨g,n + 1,none⟩ = some (.int .u32 78) := by
  rw [hcg (n + 1) (by omega),List.getElem?_append_right (by omega),hxl,Nat.add_sub_cancel_left]; rfl
 have m2 : w.cell? ⟨g,n + 2,none⟩ = some (.int .u32 79) := by
  rw [hcg (n + 2) (by omega),List.getElem?_append_right (by omega),hxl,Nat.add_sub_cancel_left]; rfl
 have HG : Hid (∀ j,j < n → w.cell? ⟨g,j,none⟩ = some (.int .u32 ((xs[j]?.getD 0 : Nat) : Int))) := hide (fun j hj => by
  rw [hcg j (by omega),List.getElem?_append_left (by omega)])
 clear hcg hxl h egb
 have HX : ∀ o1 o2 : Obj,∀ q r v,w.cell? ⟨q,r,none⟩ = some v → ((w.alloc o1).alloc o2).cell? ⟨q,r,none⟩ = some v := fun o1 o2 q r v hv => by
  have hq := World.block_lt_of_cell? w _ hv
  exact ((gr_trans (gr_alloc w o1) (gr_alloc _ o2)).cell hq).trans hv
 obtain ⟨W0,hW0⟩ : ∃ W0,(w.alloc (.cells #[.slice (some ⟨g,0,none⟩) n cap] 26)).alloc (.cells #[.slice (some ⟨b,off,none⟩) n ca] 26) = W0 := ⟨_,rfl⟩
 have hbx0 : Box W0 w.heap.size (.slice (some ⟨g,0,none⟩) n cap) := by rw [← hW0]; exact (Box.made w _).alloc _
 have hby0 : Box W0 (w.heap.size + 1) (.slice (some ⟨b,off,none⟩) n ca) := by
  rw [← hW0]
  have := Box.made (w.alloc (.cells #[.slice (some ⟨g,0,none⟩) n cap] 26)) (.slice (some ⟨b,off,none⟩) n ca)
  simpa using this
 have HB0 : Hid (Below w.heap.size w W0) := hide (by rw [← hW0]; exact gr_trans (gr_alloc _ _) (gr_alloc _ _))
 have n0 : W0.cell? ⟨g,n,none⟩ = some (.int .u32 77) := by rw [← hW0]; exact HX _ _ _ _ _ m0
 have n1 : W0.cell? ⟨g,n + 1,none⟩ = some (.int .u32 78) := by rw [← hW0]; exact HX _ _ _ _ _ m1
 have n2 : W0.cell? ⟨g,n + 2,none⟩ = some (.int .u32 79) := by rw [← hW0]; exact HX _ _ _ _ _ m2
 have HG0 : Hid (∀ j,j < n → W0.cell? ⟨g,j,none⟩ = some (.int .u32 ((xs[j]?.getD 0 : Nat) : Int))) := hide (fun j hj => by rw [← hW0]; exact HX _ _ _ _ _ (unhide HG j hj))
 have HC0 : Hid (∀ j,j < n → W0.cell? ⟨b,off + j,none⟩ = some (.int .u32 ((xs[j]?.getD 0 : Nat) : Int))) := hide (fun j hj => by rw [← hW0]; exact HX _ _ _ _ _ (unhide hc j hj))
 have HK := hide (Kw.mk hbx0 hby0 n0 n1 n2 (unhide HG0) (unhide HC0) (unhide HB0))
 have cx0 := hbx0.cell
 have cy0 := hby0.cell
 clear HX HG hc m0 m1 m2 n0 n1 n2 HG0 HC0 HB0 hbx0 hby0
 go_enter Try.func27,Try.ntmps27
 go_wp2
 clear hW0 cx0 cy0
 go_loopw [7] (fun s7 wr => ∃ k : Nat,k ≤ n ∧ s7 = .int .i64 (k : Int) ∧ Hid (Kw w wr g cap b off n ca xs)) (fun s7 _ => n - (intOf s7).toNat)
 case atStart => exact ⟨0,Nat.zero_le _,rfl,HK⟩
 case round =>
  clear HK
  obtain ⟨k,hk,rfl,HK⟩ := hrel
  have cx := (unhide HK).bx.cell
  have cy := (unhide HK).ay.cell
  by_cases hkn : k < n
  ·obtain ⟨x,hxx⟩ : ∃ x,x = xs[k]?.getD 0 := ⟨_,rfl⟩
   have hx1 : x < 4294967296 := by rw [hxx]; exact Pl.wf_at hx k
   have d1 : wr.cell? ⟨g,k,none⟩ = some (.int .u32 (x : Int)) := by rw [hxx]; exact (unhide HK).cg k hkn
   have d2 : wr.cell? ⟨b,off + k,none⟩ = some (.int .u32 (x : Int)) := by rw [hxx]; exact (unhide HK).cb k hkn
   have hk3 : (k : Int) < (n : Int) + 3 := by omega
   have hk4 : (k : Int) < ((n + 3 : Nat) : Int) := by omega
   clear hxx
   go_wp2_with fail
   go_quiet (fail)
   have HK2 := hide ((unhide HK).drewN nq)
   generalize wr.drewN nq = wq at *
   go_wp2
   go_roundw
   case rel => exact ⟨k + 1,by omega,by go_num,HK2⟩
   case measure => simp [intOf]; omega
  ·obtain rfl : k = n := by omega
   have k0 := (unhide HK).n0
   have k1 := (unhide HK).n1
   have k2 := (unhide HK).n2
   go_wp2
   go_ret
   exact ⟨rfl,(unhide HK).bel⟩
set_option maxHeartbeats 1000000 in
theorem kept_nil (g cap ca : Nat) (a : Option Addr) (w : World) (base : Nat) (h : Lt w base g 0 cap []) :
  Calls Try.prog 27 #[.agg #[.slice (some ⟨g,0,none⟩) 0 cap],.agg #[.slice a 0 ca]] w fun e w' => e = .returned (.bool true) ∧ Below w.heap.size w w' := by
 obtain ⟨gb,egb,_,hg2,hcg,_⟩ := h.own.open (by omega)
 have egb' : g = gb := by
  injection egb with egb
  injection egb
 subst egb'
 have hroom := h.room
 have m0 : w.cell? ⟨g,0,none⟩ = some (.int .u32 77) := hcg 0 (by omega)
 have m1 : w.cell? ⟨g,1,none⟩ = some (.int .u32 78) := hcg 1 (by omega)
 have m2 : w.cell? ⟨g,2,none⟩ = some (.int .u32 79) := hcg 2 (by omega)
 clear hcg h egb
 obtain ⟨W0,hW0⟩ : ∃ W0,(w.alloc (.cells #[.slice (some ⟨g,0,none⟩) 0 cap] 26)).alloc (.cells #[.slice a 0 ca] 26) = W0 := ⟨_,rfl⟩
 have hbel : Below w.heap.size w W0 := by rw [← hW0]; exact gr_trans (gr_alloc _ _) (gr_alloc _ _)
 have hbx0 : Box W0 w.heap.size (.slice (some ⟨g,0,none⟩) 0 cap) := by rw [← hW0]; exact (Box.made w _).alloc _
 have hby0 : Box W0 (w.heap.size + 1) (.slice a 0 ca) := by
  rw [← hW0]
  have := Box.made (w.alloc (.cells #[.slice (some ⟨g,0,none⟩) 0 cap] 26)) (.slice a 0 ca)
  simpa using this
 have n0 : W0.cell? ⟨g,0,none⟩ = some (.int .u32 77) := (hbel.cell hg2).trans m0
 have n1 : W0.cell? ⟨g,1,none⟩ = some (.int .u32 78) := (hbel.cell hg2).trans m1
 have n2 : W0.cell? ⟨g,2,none⟩ = some (.int .u32 79) := (hbel.cell hg2).trans m2
 have cx0 := hbx0.cell
 have cy0 := hby0.cell
 have HB := hide hbel
 clear m0 m1 m2 hbx0 hby0 hbel
 go_enter Try.func27,Try.ntmps27
 go_wp2
 refine wp_loop_rounds 1 ?_
 rw [rounds_succ]
 go_wp2
 go_ret
 exact ⟨rfl,unhide HB⟩
theorem kept_any (g cap n ca : Nat) (a : Option Addr) (xs : List Nat) (w : World) (base : Nat) (h : Lt w base g n cap xs) (hb : n ≤ 35184372087808) (hx : Pl.Wf xs) (hl : Lim w a xs) :
  Calls Try.prog 27 #[.agg #[.slice (some ⟨g,0,none⟩) n cap],.agg #[.slice a n ca]] w fun e w' => e = .returned (.bool true) ∧ Below w.heap.size w w' := by
 have hn := h.len
 rcases hl.parts with h0 | ⟨hp,b,off,rfl,hlt,hc⟩
 ·subst h0
  obtain rfl : n = 0 := by rw [← hn]; rfl
  exact kept_nil g cap ca a w base h
 ·exact kept_some g cap b off n ca xs w base h hb (fun _ => hlt) hx (hide (fun j hj => hc j (by omega)))
end Go.Proofs.Ytjemjhaphannaaa
