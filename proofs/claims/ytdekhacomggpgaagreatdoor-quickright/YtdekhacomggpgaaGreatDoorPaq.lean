/- Of what QuickRightRow stands on: StRows RefShift RefPlus. -/
import Derived.Test.YtdekhacomggpgaaGreatDoorPaj
import Derived.Test.YtdekhacomggpgaaGreatDoorPap
import Derived.OwnWalk
import Derived.Test.YtdekhacomggpgaaGreatDoorPaf
import Derived.Test.YtdekhacomggpgaaGreatDoorPae
namespace Go.Proofs.YtdekhacomggpgaaGreatDoor
open Go.RowKit
set_option maxHeartbeats 1000000
def fl (i n:Nat):List Nat:=(List.range n).map (fun k=>1000 * i+k % 1000)
def tl (i n:Nat):List Nat:=(List.range n).map (fun k=>900000+1000 * i+k)
theorem fl_len (i n:Nat):(fl i n).length = n:=by simp [fl]
theorem tl_len (i n:Nat):(tl i n).length = n:=by simp [tl]
theorem fl_at (i n k:Nat) (h:k < n):(fl i n)[k]?.getD 0 = 1000 * i+k % 1000:=by simp [fl,h]
theorem tl_at (i n k:Nat) (h:k < n):(tl i n)[k]?.getD 0 = 900000+1000 * i+k:=by simp [tl,h]
theorem tl_succ (i n:Nat):tl i (n+1) = tl i n ++ [900000+1000 * i+n]:=by simp [tl,List.range_succ]
def ApartV (v u:Value):Prop:=∀ k,v.ownBlock = some k→u.ownBlock≠some k
theorem ApartV.symm {v u:Value} (h:ApartV v u):ApartV u v:=fun k hu hv=>h k hv hu
theorem Own.lt {w:World} {base:Nat} {v:Value} {xs:List Nat} (h:Own w base v xs):∀ k,v.ownBlock = some k→base≤k∧k < w.heap.size:=by
 rintro k hk
 rcases h with ⟨rfl,_⟩|⟨g,cap,cur,rfl,hg,hh,_⟩
 ·cases hk
 ·simp only [Value.ownBlock] at hk
  injection hk with hk
  subst hk
  refine ⟨hg,?_⟩
  by_cases hlt:g < w.heap.size
  ·exact hlt
  ·rw [Array.getElem?_eq_none (by omega)] at hh; cases hh
theorem Own.type {w:World} {base:Nat} {v:Value} {xs:List Nat} (h:Own w base v xs):∀ k,v.ownBlock = some k→∃ cur,w.heap[k]? = some (.cells cur 47 (0,0)):=by
 rintro k hk
 rcases h with ⟨rfl,_⟩|⟨g,cap,cur,rfl,hg,hh,_⟩
 ·cases hk
 ·simp only [Value.ownBlock] at hk
  injection hk with hk
  subst hk
  exact ⟨cur,hh⟩
theorem Own.keep {w w':World} {base:Nat} {v:Value} {xs:List Nat} (h:Own w base v xs) (hk:∀ k,k < w.heap.size→v.ownBlock = some k→w'.heap[k]? = w.heap[k]?):Own w' base v xs:=by
 have hl:=h.lt
 rcases h with h|⟨g,cap,cur,rfl,hg,hh,r⟩
 ·exact Or.inl h
 ·exact Or.inr ⟨g,cap,cur,rfl,hg,by rw [hk g (hl g rfl).2 rfl]; exact hh,r⟩
theorem Own.len {w:World} {base:Nat} {a:Option Addr} {n c:Nat} {xs:List Nat} (h:Own w base (.slice a n c) xs):xs.length = n:=by
 rcases h with ⟨e,rfl⟩|⟨g,cap,cur,e,_⟩
 ·injection e with _ e2 _; subst e2; rfl
 ·injection e with _ e2 _; exact e2.symm
theorem Own.slice {w:World} {base:Nat} {v:Value} {xs:List Nat} (h:Own w base v xs):∃ a n c,v = .slice a n c:=by
 rcases h with ⟨e,rfl⟩|⟨g,cap,cur,e,_⟩
 ·exact ⟨_,_,_,e⟩
 ·exact ⟨_,_,_,e⟩
theorem Own.open {w:World} {base:Nat} {a:Option Addr} {n c:Nat} {xs:List Nat} (h:Own w base (.slice a n c) xs) (hn:0 < n) :
  ∃ b,a = some ⟨b,0,none⟩∧base≤b∧b < w.heap.size∧(∀ k,k < n→w.cell? ⟨b,k,none⟩ = some (.int .u32 ((xs[k]?.getD 0:Nat):Int)))∧∀ k,w.frozen? ⟨b,k,none⟩ = false:=by
 have hl:=h.len
 have hlt:=h.lt
 rcases h with ⟨e,rfl⟩|⟨g,cap,cur,e,hg,hh,h1,h2,h3,hc⟩
 ·simp at hl; omega
 ·injection e with e1 e2 e3
  subst e1
  exact ⟨g,rfl,hg,(hlt g rfl).2,fun k hk=>by rw [cell_of_row w g k _ _ _ hh]; exact hc k (by omega),fun k=>frozen_of_row w g k _ _ hh⟩
theorem Own.put {w:World} {base b n c k z:Nat} {xs:List Nat} (h:Own w base (.slice (some ⟨b,0,none⟩) n c) xs) (hk:k < n):Own (w.setCell ⟨b,k,none⟩ (.int .u32 (z:Int))) base (.slice (some ⟨b,0,none⟩) n c) (xs.set k z):=by
 have hl:=h.len
 rcases h with ⟨e,rfl⟩|⟨g,cap,cur,e,hg,hh,h1,h2,h3,hc⟩
 ·cases e
 ·injection e with e1 e2 e3
  injection e1 with e1
  injection e1 with e1
  subst e1 e3
  refine Or.inr ⟨b,c,_,by rw [List.length_set,e2],hg,heap_setCell_same w b k _ _ _ hh,by rw [List.length_set]; exact h1,by rw [Array.size_setIfInBounds]; exact h2,h3,fun j hj=>?_⟩
  rw [List.length_set] at hj
  by_cases hjk:j = k
  ·subst hjk
   rw [Array.getElem?_setIfInBounds_self_of_lt (by omega),List.getElem?_set_self hj]
   rfl
  ·rw [Array.getElem?_setIfInBounds_ne (by omega),List.getElem?_set_ne (by omega)]
   exact hc j hj
structure Sts (W:World) (base N g:Nat) (A:Nat→Option Addr) (L C:Nat→Nat) (X:Nat→List Nat):Prop where
 row:∃ cur,W.heap[g]? = some (.cells cur 29 (0,0))∧∀ i,i < N→cur[i]? = some (.slice (A i) (L i) (C i))
 own:∀ i,i < N→Own W base (.slice (A i) (L i) (C i)) (X i)
 ap:∀ i j,i < N→j < N→i≠j→ApartV (.slice (A i) (L i) (C i)) (.slice (A j) (L j) (C j))
theorem Sts.cell {W:World} {base N g:Nat} {A:Nat→Option Addr} {L C:Nat→Nat} {X:Nat→List Nat} (h:Sts W base N g A L C X) (i:Nat) (hi:i < N):W.cell? ⟨g,i,none⟩ = some (.slice (A i) (L i) (C i)):=by
 obtain ⟨cur,hh,hc⟩:=h.row
 rw [cell_of_row W g i _ _ _ hh]; exact hc i hi
theorem Sts.keep {W W':World} {base N g:Nat} {A:Nat→Option Addr} {L C:Nat→Nat} {X:Nat→List Nat} (h:Sts W base N g A L C X) (hg:W'.heap[g]? = W.heap[g]?) (ho:∀ i,i < N→Own W' base (.slice (A i) (L i) (C i)) (X i)):Sts W' base N g A L C X:=by
 obtain ⟨cur,hh,hc⟩:=h.row
 exact ⟨⟨cur,by rw [hg]; exact hh,hc⟩,ho,h.ap⟩
theorem Sts.below {W W':World} {base N g:Nat} {A:Nat→Option Addr} {L C:Nat→Nat} {X:Nat→List Nat} (h:Sts W base N g A L C X) (hb:Below W.heap.size W W'):Sts W' base N g A L C X:=by
 have hg:g < W.heap.size:=by
  obtain ⟨cur,hh,_⟩:=h.row
  by_cases hlt:g < W.heap.size
  ·exact hlt
  ·rw [Array.getElem?_eq_none (by omega)] at hh; cases hh
 exact h.keep (hb.block g hg) (fun i hi=>(h.own i hi).kept hb)
theorem Sts.put {W:World} {base N g i b k z:Nat} {A:Nat→Option Addr} {L C:Nat→Nat} {X:Nat→List Nat} (h:Sts W base N g A L C X) (hi:i < N) (hb:A i = some ⟨b,0,none⟩) (hk:k < L i) :
  Sts (W.setCell ⟨b,k,none⟩ (.int .u32 (z:Int))) base N g A L C (fun j=>if j = i then (X i).set k z else X j):=by
 have ho:=h.own i hi
 have hob:(Value.slice (A i) (L i) (C i)).ownBlock = some b:=by rw [hb]; rfl
 obtain ⟨cu,hcu⟩:=ho.type b hob
 obtain ⟨cur,hh,hc⟩:=h.row
 have hgb:g≠b:=fun e=>by
  subst e; rw [hh] at hcu; injection hcu with hcu; injection hcu with _ hcu; exact absurd hcu (by decide)
 refine ⟨⟨cur,by rw [heap_setCell_other W _ g _ hgb]; exact hh,hc⟩,fun j hj=>?_,h.ap⟩
 by_cases hji:j = i
 ·subst hji
  rw [if_pos rfl]
  rw [hb] at ho ⊢
  exact ho.put hk
 ·rw [if_neg hji]
  refine (h.own j hj).keep (fun q _ hq=>heap_setCell_other W _ q _ (fun e=>?_))
  subst e
  exact h.ap i j hi hj (by omega) _ hob hq
structure Gst (W:World) (base N g:Nat) (A:Nat→Option Addr) (L C:Nat→Nat) (i:Nat) (G:Nat→Value) (vgr:Value):Prop where
 sts:Sts W base N g A L C (fun j=>fl j (L j))
 own:∀ j,j < i→Own W base (G j) (fl j (L j) ++ tl j 40)
 apG:∀ j k,j < i→k < i→j≠k→ApartV (G j) (G k)
 apE:∀ j k,j < i→k < N→j≠k→ApartV (G j) (.slice (A k) (L k) (C k))
 row:W.ownsRow base 27 1 vgr i ((List.range i).map G)
structure Gst1 (W:World) (base N g:Nat) (A:Nat→Option Addr) (L C:Nat→Nat) (i:Nat) (G:Nat→Value) (vgr:Value) (k:Nat) (v:Value):Prop where
 gst:Gst W base N g A L C i G vgr
 own:Own W base v (fl i (L i) ++ tl i k)
 apG:∀ j,j < i→ApartV v (G j)
 apE:∀ j,j < N→j≠i→ApartV v (.slice (A j) (L j) (C j))
theorem row_type {w:World} {base n k:Nat} {t:TypeId} {v:Value} {xs:List Value} {cur:Array Value} {t':TypeId} (h:w.ownsRow base t 1 v n xs) (hk:v.ownBlock = some k) (hb:w.heap[k]? = some (.cells cur t' (0,0))) (ht:t'≠t):False:=by
 obtain ⟨h1,h2|⟨g,cap,cur',e,hg,hh,r⟩⟩:=h
 ·rw [h2.1] at hk; cases hk
 ·rw [e] at hk
  simp only [Value.ownBlock] at hk
  injection hk with hk
  subst hk
  rw [hh] at hb
  injection hb with hb
  injection hb with _ hb
  exact ht hb.symm
theorem Gst1.start {W:World} {base N g i:Nat} {A:Nat→Option Addr} {L C:Nat→Nat} {G:Nat→Value} {vgr:Value} (h:Gst W base N g A L C i G vgr) (hi:i < N):Gst1 W base N g A L C i G vgr 0 (.slice (A i) (L i) (C i)):=
 ⟨h,by simpa [tl] using h.sts.own i hi,fun j hj=>(h.apE j i hj hi (by omega)).symm,fun j hj hji=>h.sts.ap i j hi hj (by omega)⟩
theorem Gst1.step {W:World} {base N g i k:Nat} {A:Nat→Option Addr} {L C:Nat→Nat} {G:Nat→Value} {vgr:Value} {a:Option Addr} {m c:Nat} (h:Gst1 W base N g A L C i G vgr k (.slice a m c)) (hi:i < N) (hb:base≤W.heap.size) (hm:m≤35184372088831) :
  ∃ a' m' c' W',(Builtin.append_ #[27,27] 27 #[.slice a m c,.slice (some ⟨W.heap.size,0,none⟩) 1 1]).run Tryz.prog (W.alloc (.cells #[.int .u32 ((900000+1000 * i+k:Nat):Int)] 47)) = .ok (.slice a' m' c') W' ∧
   Gst1 W' base N g A L C i G vgr (k+1) (.slice a' m' c')∧Below base W W':=by
 obtain ⟨v',W',hr,ho,hap,hpre⟩:=append_own1 W base m c (900000+1000 * i+k) a _ h.own hb hm
 obtain ⟨a',m',c',rfl⟩:=ho.slice
 have hvl:=h.own.lt
 have hfar:∀ u ys,Own W base u ys→ApartV (.slice a m c) u→Own W' base u ys:=fun u ys hu hau=>hu.keep (fun q hq hqu=>hap.block q hq (fun e=>hau q e.symm hqu))
 have hE:∀ j,j < N→Own W' base (.slice (A j) (L j) (C j)) (fl j (L j)):=fun j hj=>by
  by_cases hji:j = i
  ·subst hji
   have hu:=h.gst.sts.own j hj
   by_cases hs:ApartV (.slice a m c) (.slice (A j) (L j) (C j))
   ·exact hfar _ _ hu hs
   ·have:a = A j∧L j≤m:=by
     have hlm:=h.own.len
     rw [List.length_append,fl_len,tl_len] at hlm
     refine ⟨?_,by omega⟩
     have h1:=h.own
     have h2:=hu
     rcases h1 with ⟨e,_⟩|⟨g1,_,_,e,_⟩
     ·exact absurd (fun q hq=>by rw [e] at hq; cases hq) hs
     ·rcases h2 with ⟨e2,_⟩|⟨g2,_,_,e2,_⟩
      ·exact absurd (fun q hq hq2=>by rw [e2] at hq2; cases hq2) hs
      ·have e:=(Value.slice.inj e).1
       have e2:=(Value.slice.inj e2).1
       by_cases h12:g1 = g2
       ·rw [e,e2,h12]
       ·exact absurd (fun q hq hq2=>by
         rw [e] at hq; rw [e2] at hq2
         simp only [Value.ownBlock] at hq hq2
         injection hq with hq; injection hq2 with hq2; omega) hs
    rw [this.1] at hpre
    exact hpre _ _ _ this.2 hu
  ·exact hfar _ _ (h.gst.sts.own j hj) (h.apE j hj hji)
 have hnew:∀ u ys,Own W base u ys→ApartV (.slice a m c) u→ApartV (.slice a' m' c') u:=fun u ys hu hau q hq hqu=>by
  rcases hap.own with e|⟨g3,e,h3⟩
  ·rw [e] at hq; exact hau q hq hqu
  ·rw [e] at hq; injection hq with hq; have:=hu.lt q hqu; omega
 have hgv:some g≠(Value.slice a m c).ownBlock:=fun e=>by
  obtain ⟨cu,hcu⟩:=h.own.type g e.symm
  obtain ⟨cur,hh,_⟩:=h.gst.sts.row
  rw [hh] at hcu; injection hcu with hcu; injection hcu with _ hcu; exact absurd hcu (by decide)
 have hgl:g < W.heap.size:=by
  obtain ⟨cur,hh,_⟩:=h.gst.sts.row
  by_cases hlt:g < W.heap.size
  ·exact hlt
  ·rw [Array.getElem?_eq_none (by omega)] at hh; cases hh
 have hrow:W'.ownsRow base 27 1 vgr i ((List.range i).map G):=by
  have hr0:=h.gst.row
  have hr1:=hr0
  obtain ⟨h1,h2|⟨q,cap,cur',e,hq,hh,r⟩⟩:=hr0
  ·exact ⟨h1,Or.inl h2⟩
  ·have hlt:q < W.heap.size:=by
    by_cases hlt:q < W.heap.size
    ·exact hlt
    ·rw [Array.getElem?_eq_none (by omega)] at hh; cases hh
   refine ⟨h1,Or.inr ⟨q,cap,cur',e,hq,?_,r⟩⟩
   rw [hap.block q hlt ?_]; exact hh
   intro e2
   obtain ⟨cu,hcu⟩:=h.own.type q e2.symm
   rw [hh] at hcu; injection hcu with hcu; injection hcu with _ hcu; exact absurd hcu (by decide)
 refine ⟨a',m',c',W',hr,⟨⟨h.gst.sts.keep (hap.block g hgl hgv) hE,fun j hj=>hfar _ _ (h.gst.own j hj) (h.apG j hj),h.gst.apG,h.gst.apE,hrow⟩,by rw [tl_succ,← List.append_assoc]; exact ho,fun j hj=>hnew _ _ (h.gst.own j hj) (h.apG j hj),fun j hj hji=>hnew _ _ (h.gst.sts.own j hj) (h.apE j hj hji)⟩,?_⟩
 exact ⟨hap.os,hap.tape,hap.output,hap.size,fun q hq=>hap.block q (by omega) (fun e=>by have:=hvl q e.symm; omega)⟩
def Rd (W:World) (N g q:Nat) (A:Nat→Option Addr) (L C:Nat→Nat):Prop:=∀ i,i < N →
  ∃ b cb,W.cell? ⟨q,i,none⟩ = some (.slice (some ⟨b,0,none⟩) (L i+40) cb) ∧
   (∀ k,k < L i→W.cell? ⟨b,k,none⟩ = some (.int .u32 ((1000 * i+k % 1000:Nat):Int)))∧(∀ k,k < 40→W.cell? ⟨b,L i+k,none⟩ = some (.int .u32 ((900000+1000 * i+k:Nat):Int))) ∧
   W.cell? ⟨g,i,none⟩ = some (.slice (A i) (L i) (C i))∧(0 < L i→∃ d,A i = some ⟨d,0,none⟩∧∀ k,k < L i→W.cell? ⟨d,k,none⟩ = some (.int .u32 ((1000 * i+k % 1000:Nat):Int)))
theorem Rd.drewN {W:World} {N g q:Nat} {A:Nat→Option Addr} {L C:Nat→Nat} (h:Rd W N g q A L C) (k:Nat):Rd (W.drewN k) N g q A L C:=h
theorem Gst.read {W:World} {base N g:Nat} {A:Nat→Option Addr} {L C:Nat→Nat} {G:Nat→Value} {vgr:Value} (h:Gst W base N g A L C N G vgr) (h0:0 < N) :
  ∃ q cap,vgr = .slice (some ⟨q,0,none⟩) N cap∧Rd W N g q A L C:=by
 obtain ⟨q,cap,hv⟩:=own_form h.row h0
 refine ⟨q,cap,hv,fun i hi=>?_⟩
 obtain ⟨a,n,c,hG⟩:=(h.own i hi).slice
 have ho:=h.own i hi
 rw [hG] at ho
 have hn:=ho.len
 rw [List.length_append,fl_len,tl_len] at hn
 subst hn
 obtain ⟨b,rfl,_,_,hc,_⟩:=ho.open (by omega)
 have hr:=h.row
 rw [hv] at hr
 refine ⟨b,c,?_,fun k hk=>?_,fun k hk=>?_,h.sts.cell i hi,fun h0=>?_⟩
 ·rw [hr.cellAt i (by omega),List.getElem?_map,List.getElem?_range hi]; simp [hG]
 ·rw [hc k (by omega),List.getElem?_append_left (by rw [fl_len]; exact hk),fl_at _ _ _ hk]
 ·rw [hc (L i+k) (by omega),List.getElem?_append_right (by rw [fl_len]; omega),fl_len,Nat.add_sub_cancel_left,tl_at _ _ _ hk]
 ·obtain ⟨d,hd,_,_,hcd,_⟩:=(h.sts.own i hi).open h0
  exact ⟨d,hd,fun k hk=>by rw [hcd k hk,fl_at _ _ _ hk]⟩
end Go.Proofs.YtdekhacomggpgaaGreatDoor
