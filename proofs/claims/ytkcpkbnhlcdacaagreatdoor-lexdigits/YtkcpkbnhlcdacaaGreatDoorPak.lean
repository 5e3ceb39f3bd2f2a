/- Of what LexDigitsRow stands on: StRows LxDig. -/
import Derived.Test.YtkcpkbnhlcdacaaGreatDoorPai
import Derived.Test.YtkcpkbnhlcdacaaGreatDoorPaj
import Derived.OwnWalk
namespace Go.Proofs.YtkcpkbnhlcdacaaGreatDoor
open Go.RowKit
set_option maxHeartbeats 4000000
set_option maxRecDepth 100000
def fl (i n:Nat):List Nat:=(List.range n).map (fun k=>1000 * i+k % 1000)
def tl (i n:Nat):List Nat:=(List.range n).map (fun k=>900000+1000 * i+k)
theorem fl_len (i n:Nat):(fl i n).length = n:=by simp [fl]
theorem tl_len (i n:Nat):(tl i n).length = n:=by simp [tl]
theorem fl_at (i n k:Nat) (h:k < n):(fl i n)[k]?.getD 0 = 1000 * i+k % 1000:=by simp [fl,h]
theorem tl_at (i n k:Nat) (h:k < n):(tl i n)[k]?.getD 0 = 900000+1000 * i+k:=by simp [tl,h]
theorem tl_succ (i n:Nat):tl i (n+1) = tl i n ++ [900000+1000 * i+n]:=by simp [tl,List.range_succ]
def ApartV (v u:Value):Prop:=∀ k,v.ownBlock = some k→u.ownBlock≠some k
theorem ApartV.symm {v u:Value} (h:ApartV v u):ApartV u v:=fun k hu hv=>h k hv hu
theorem Own.lt {w:World} {base:Nat} {v:Value} {xs:List Nat} (h:Own w base v xs):∀ k,v.ownBlock = some k→base≤k∧k < w.heap.size:=by
 rintro k hk
 rcases h with ⟨rfl,_⟩|⟨g,cap,cur,rfl,hg,hh,_⟩
 ·cases hk
 ·simp only [Value.ownBlock] at hk
  injection hk with hk
  subst hk
  refine ⟨hg,?_⟩
  by_cases hlt:g < w.heap.size
  ·exact hlt
  ·rw [Array.getElem?_eq_none (by omega)] at hh; cases hh
theorem Own.type {w:World} {base:Nat} {v:Value} {xs:List Nat} (h:Own w base v xs):∀ k,v.ownBlock = some k→∃ cur,w.heap[k]? = some (.cells cur 95 (0,0)):=by
 rintro k hk
 rcases h with ⟨rfl,_⟩|⟨g,cap,cur,rfl,hg,hh,_⟩
 ·cases hk
 ·simp only [Value.ownBlock] at hk
  injection hk with hk
  subst hk
  exact ⟨cur,hh⟩
theorem Own.keep {w w':World} {base:Nat} {v:Value} {xs:List Nat} (h:Own w base v xs) (hk:∀ k,k < w.heap.size→v.ownBlock = some k→w'.heap[k]? = w.heap[k]?):Own w' base v xs:=by
 have hl:=h.lt
 rcases h with h|⟨g,cap,cur,rfl,hg,hh,r⟩
 ·exact Or.inl h
 ·exact Or.inr ⟨g,cap,cur,rfl,hg,by rw [hk g (hl g rfl).2 rfl]; exact hh,r⟩
theorem Own.len {w:World} {base:Nat} {a:Option Addr} {n c:Nat} {xs:List Nat} (h:Own w base (.slice a n c) xs):xs.length = n:=by
 rcases h with ⟨e,rfl⟩|⟨g,cap,cur,e,_⟩
 ·injection e with _ e2 _; subst e2; rfl
 ·injection e with _ e2 _; exact e2.symm
theorem Own.slice {w:World} {base:Nat} {v:Value} {xs:List Nat} (h:Own w base v xs):∃ a n c,v = .slice a n c:=by
 rcases h with ⟨e,rfl⟩|⟨g,cap,cur,e,_⟩
 ·exact ⟨_,_,_,e⟩
 ·exact ⟨_,_,_,e⟩
theorem Own.open {w:World} {base:Nat} {a:Option Addr} {n c:Nat} {xs:List Nat} (h:Own w base (.slice a n c) xs) (hn:0 < n) :
  ∃ b,a = some ⟨b,0,none⟩∧base≤b∧b < w.heap.size∧(∀ k,k < n→w.cell? ⟨b,k,none⟩ = some (.int .u32 ((xs[k]?.getD 0:Nat):Int)))∧∀ k,w.frozen? ⟨b,k,none⟩ = false:=by
 have hl:=h.len
 have hlt:=h.lt
 rcases h with ⟨e,rfl⟩|⟨g,cap,cur,e,hg,hh,h1,h2,h3,hc⟩
 ·simp at hl; omega
 ·injection e with e1 e2 e3
  subst e1
  exact ⟨g,rfl,hg,(hlt g rfl).2,fun k hk=>by rw [cell_of_row w g k _ _ _ hh]; exact hc k (by omega),fun k=>frozen_of_row w g k _ _ hh⟩
theorem Own.put {w:World} {base b n c k z:Nat} {xs:List Nat} (h:Own w base (.slice (some ⟨b,0,none⟩) n c) xs) (hk:k < n):Own (w.setCell ⟨b,k,none⟩ (.int .u32 (z:Int))) base (.slice (some ⟨b,0,none⟩) n c) (xs.set k z):=by
 have hl:=h.len
 rcases h with ⟨e,rfl⟩|⟨g,cap,cur,e,hg,hh,h1,h2,h3,hc⟩
 ·cases e
 ·injection e with e1 e2 e3
  injection e1 with e1
  injection e1 with e1
  subst e1 e3
  refine Or.inr ⟨b,c,_,by rw [List.length_set,e2],hg,heap_setCell_same w b k _ _ _ hh,by rw [List.length_set]; exact h1,by rw [Array.size_setIfInBounds]; exact h2,h3,fun j hj=>?_⟩
  rw [List.length_set] at hj
  by_cases hjk:j = k
  ·subst hjk
   rw [Array.getElem?_setIfInBounds_self_of_lt (by omega),List.getElem?_set_self hj]
   rfl
  ·rw [Array.getElem?_setIfInBounds_ne (by omega),List.getElem?_set_ne (by omega)]
   exact hc j hj
structure Sts (W:World) (base N g:Nat) (A:Nat→Option Addr) (L C:Nat→Nat) (X:Nat→List Nat):Prop where
 row:∃ cur,W.heap[g]? = some (.cells cur 30 (0,0))∧∀ i,i < N→cur[i]? = some (.slice (A i) (L i) (C i))
 own:∀ i,i < N→Own W base (.slice (A i) (L i) (C i)) (X i)
 ap:∀ i j,i < N→j < N→i≠j→ApartV (.slice (A i) (L i) (C i)) (.slice (A j) (L j) (C j))
theorem Sts.cell {W:World} {base N g:Nat} {A:Nat→Option Addr} {L C:Nat→Nat} {X:Nat→List Nat} (h:Sts W base N g A L C X) (i:Nat) (hi:i < N):W.cell? ⟨g,i,none⟩ = some (.slice (A i) (L i) (C i)):=by
 obtain ⟨cur,hh,hc⟩:=h.row
 rw [cell_of_row W g i _ _ _ hh]; exact hc i hi
theorem Sts.keep {W W':World} {base N g:Nat} {A:Nat→Option Addr} {L C:Nat→Nat} {X:Nat→List Nat} (h:Sts W base N g A L C X) (hg:W'.heap[g]? = W.heap[g]?) (ho:∀ i,i < N→Own W' base (.slice (A i) (L i) (C i)) (X i)):Sts W' base N g A L C X:=by
 obtain ⟨cur,hh,hc⟩:=h.row
 exact ⟨⟨cur,by rw [hg]; exact hh,hc⟩,ho,h.ap⟩
theorem Sts.below {W W':World} {base N g:Nat} {A:Nat→Option Addr} {L C:Nat→Nat} {X:Nat→List Nat} (h:Sts W base N g A L C X) (hb:Below W.heap.size W W'):Sts W' base N g A L C X:=by
 have hg:g < W.heap.size:=by
  obtain ⟨cur,hh,_⟩:=h.row
  by_cases hlt:g < W.heap.size
  ·exact hlt
  ·rw [Array.getElem?_eq_none (by omega)] at hh; cases hh
 exact h.keep (hb.block g hg) (fun i hi=>(h.own i hi).kept hb)
theorem Sts.put {W:World} {base N g i b k z:Nat} {A:Nat→Option Addr} {L C:Nat→Nat} {X:Nat→List Nat} (h:Sts W base N g A L C X) (hi:i < N) (hb:A i = some ⟨b,0,none⟩) (hk:k < L i) :
  Sts (W.setCell ⟨b,k,none⟩ (.int .u32 (z:Int))) base N g A L C (fun j=>if j = i then (X i).set k z else X j):=by
 have ho:=h.own i hi
 have hob:(Value.slice (A i) (L i) (C i)).ownBlock = some b:=by rw [hb]; rfl
 obtain ⟨cu,hcu⟩:=ho.type b hob
 obtain ⟨cur,hh,hc⟩:=h.row
 have hgb:g≠b:=fun e=>by
  subst e; rw [hh] at hcu; injection hcu with hcu; injection hcu with _ hcu; exact absurd hcu (by decide)
 refine ⟨⟨cur,by rw [heap_setCell_other W _ g _ hgb]; exact hh,hc⟩,fun j hj=>?_,h.ap⟩
 by_cases hji:j = i
 ·subst hji
  rw [if_pos rfl]
  rw [hb] at ho ⊢
  exact ho.put hk
 ·rw [if_neg hji]
  refine (h.own j hj).keep (fun q _ hq=>heap_setCell_other W _ q _ (fun e=>?_))
  subst e
  exact h.ap i j hi hj (by omega) _ hob hq
structure Gst (W:World) (base N g:Nat) (A:Nat→Option Addr) (L C:Nat→Nat) (i:Nat) (G:Nat→Value) (vgr:Value):Prop where
 sts:Sts W base N g A L C (fun j=>fl j (L j))
 own:∀ j,j < i→Own W base (G j) (fl j (L j) ++ tl j 40)
 apG:∀ j k,j < i→k < i→j≠k→ApartV (G j) (G k)
 apE:∀ j k,j < i→k < N→j≠k→ApartV (G j) (.slice (A k) (L k) (C k))
 row:W.ownsRow base 28 1 vgr i ((List.range i).map G)
structure Gst1 (W:World) (base N g:Nat) (A:Nat→Option Addr) (L C:Nat→Nat) (i:Nat) (G:Nat→Value) (vgr:Value) (k:Nat) (v:Value):Prop where
 gst:Gst W base N g A L C i G vgr
 own:Own W base v (fl i (L i) ++ tl i k)
 apG:∀ j,j < i→ApartV v (G j)
 apE:∀ j,j < N→j≠i→ApartV v (.slice (A j) (L j) (C j))
theorem Gst1.step {W:World} {base N g i k:Nat} {A:Nat→Option Addr} {L C:Nat→Nat} {G:Nat→Value} {vgr:Value} {a:Option Addr} {m c:Nat} (h:Gst1 W base N g A L C i G vgr k (.slice a m c)) (hi:i < N) (hb:base≤W.heap.size) (hm:m≤35184372088831) :
  ∃ a' m' c' W',(Builtin.append_ #[28,28] 28 #[.slice a m c,.slice (some ⟨W.heap.size,0,none⟩) 1 1]).run Tryz.prog (W.alloc (.cells #[.int .u32 ((900000+1000 * i+k:Nat):Int)] 95)) = .ok (.slice a' m' c') W' ∧
   Gst1 W' base N g A L C i G vgr (k+1) (.slice a' m' c')∧Below base W W':=by
 obtain ⟨v',W',hr,ho,hap,hpre⟩:=append_own1 W base m c (900000+1000 * i+k) a _ h.own hb hm
 obtain ⟨a',m',c',rfl⟩:=ho.slice
 have hvl:=h.own.lt
 have hfar:∀ u ys,Own W base u ys→ApartV (.slice a m c) u→Own W' base u ys:=fun u ys hu hau=>hu.keep (fun q hq hqu=>hap.block q hq (fun e=>hau q e.symm hqu))
 have hE:∀ j,j < N→Own W' base (.slice (A j) (L j) (C j)) (fl j (L j)):=fun j hj=>by
  by_cases hji:j = i
  ·subst hji
   have hu:=h.gst.sts.own j hj
   by_cases hs:ApartV (.slice a m c) (.slice (A j) (L j) (C j))
   ·exact hfar _ _ hu hs
   ·have:a = A j∧L j≤m:=by
     have hlm:=h.own.len
     rw [List.length_append,fl_len,tl_len] at hlm
     refine ⟨?_,by omega⟩
     have h1:=h.own
     have h2:=hu
     rcases h1 with ⟨e,_⟩|⟨g1,_,_,e,_⟩
     ·exact absurd (fun q hq=>by rw [e] at hq; cases hq) hs
     ·rcases h2 with ⟨e2,_⟩|⟨g2,_,_,e2,_⟩
      ·exact absurd (fun q hq hq2=>by rw [e2] at hq2; cases hq2) hs
      ·have e:=(Value.slice.inj e).1
       have e2:=(Value.slice.inj e2).1
       by_cases h12:g1 = g2
       ·rw [e,e2,h12]
       ·exact absurd (fun q hq hq2=>by
         rw [e] at hq; rw [e2] at hq2
         simp only [Value.ownBlock] at hq hq2
         injection hq with hq; injection hq2 with hq2; omega) hs
    rw [this.1] at hpre
    exact hpre _ _ _ this.2 hu
  ·exact hfar _ _ (h.gst.sts.own j hj) (h.apE j hj hji)
 have hnew:∀ u ys,Own W base u ys→ApartV (.slice a m c) u→ApartV (.slice a' m' c') u:=fun u ys hu hau q hq hqu=>by
  rcases hap.own with e|⟨g3,e,h3⟩
  ·rw [e] at hq; exact hau q hq hqu
  ·rw [e] at hq; injection hq with hq; have:=hu.lt q hqu; omega
 have hgv:some g≠(Value.slice a m c).ownBlock:=fun e=>by
  obtain ⟨cu,hcu⟩:=h.own.type g e.symm
  obtain ⟨cur,hh,_⟩:=h.gst.sts.row
  rw [hh] at hcu; injection hcu with hcu; injection hcu with _ hcu; exact absurd hcu (by decide)
 have hgl:g < W.heap.size:=by
  obtain ⟨cur,hh,_⟩:=h.gst.sts.row
  by_cases hlt:g < W.heap.size
  ·exact hlt
  ·rw [Array.getElem?_eq_none (by omega)] at hh; cases hh
 have hrow:W'.ownsRow base 28 1 vgr i ((List.range i).map G):=by
  have hr0:=h.gst.row
  have hr1:=hr0
  obtain ⟨h1,h2|⟨q,cap,cur',e,hq,hh,r⟩⟩:=hr0
  ·exact ⟨h1,Or.inl h2⟩
  ·have hlt:q < W.heap.size:=by
    by_cases hlt:q < W.heap.size
    ·exact hlt
    ·rw [Array.getElem?_eq_none (by omega)] at hh; cases hh
   refine ⟨h1,Or.inr ⟨q,cap,cur',e,hq,?_,r⟩⟩
   rw [hap.block q hlt ?_]; exact hh
   intro e2
   obtain ⟨cu,hcu⟩:=h.own.type q e2.symm
   rw [hh] at hcu; injection hcu with hcu; injection hcu with _ hcu; exact absurd hcu (by decide)
 refine ⟨a',m',c',W',hr,⟨⟨h.gst.sts.keep (hap.block g hgl hgv) hE,fun j hj=>hfar _ _ (h.gst.own j hj) (h.apG j hj),h.gst.apG,h.gst.apE,hrow⟩,by rw [tl_succ,← List.append_assoc]; exact ho,fun j hj=>hnew _ _ (h.gst.own j hj) (h.apG j hj),fun j hj hji=>hnew _ _ (h.gst.sts.own j hj) (h.apE j hj hji)⟩,?_⟩
 exact ⟨hap.os,hap.tape,hap.output,hap.size,fun q hq=>hap.block q (by omega) (fun e=>by have:=hvl q e.symm; omega)⟩
def Rd (W:World) (N g q:Nat) (A:Nat→Option Addr) (L C:Nat→Nat):Prop:=∀ i,i < N →
  ∃ b cb,W.cell? ⟨q,i,none⟩ = some (.slice (some ⟨b,0,none⟩) (L i+40) cb) ∧
   (∀ k,k < L i→W.cell? ⟨b,k,none⟩ = some (.int .u32 ((1000 * i+k % 1000:Nat):Int)))∧(∀ k,k < 40→W.cell? ⟨b,L i+k,none⟩ = some (.int .u32 ((900000+1000 * i+k:Nat):Int))) ∧
   W.cell? ⟨g,i,none⟩ = some (.slice (A i) (L i) (C i))∧(0 < L i→∃ d,A i = some ⟨d,0,none⟩∧∀ k,k < L i→W.cell? ⟨d,k,none⟩ = some (.int .u32 ((1000 * i+k % 1000:Nat):Int)))
theorem Gst.read {W:World} {base N g:Nat} {A:Nat→Option Addr} {L C:Nat→Nat} {G:Nat→Value} {vgr:Value} (h:Gst W base N g A L C N G vgr) (h0:0 < N) :
  ∃ q cap,vgr = .slice (some ⟨q,0,none⟩) N cap∧Rd W N g q A L C:=by
 obtain ⟨q,cap,hv⟩:=own_form h.row h0
 refine ⟨q,cap,hv,fun i hi=>?_⟩
 obtain ⟨a,n,c,hG⟩:=(h.own i hi).slice
 have ho:=h.own i hi
 rw [hG] at ho
 have hn:=ho.len
 rw [List.length_append,fl_len,tl_len] at hn
 subst hn
 obtain ⟨b,rfl,_,_,hc,_⟩:=ho.open (by omega)
 have hr:=h.row
 rw [hv] at hr
 refine ⟨b,c,?_,fun k hk=>?_,fun k hk=>?_,h.sts.cell i hi,fun h0=>?_⟩
 ·rw [hr.cellAt i (by omega),List.getElem?_map,List.getElem?_range hi]; simp [hG]
 ·rw [hc k (by omega),List.getElem?_append_left (by rw [fl_len]; exact hk),fl_at _ _ _ hk]
 ·rw [hc (L i+k) (by omega),List.getElem?_append_right (by rw [fl_len]; omega),fl_len,Nat.add_sub_cancel_left,tl_at _ _ _ hk]
 ·obtain ⟨d,hd,_,_,hcd,_⟩:=(h.sts.own i hi).open h0
  exact ⟨d,hd,fun k hk=>by rw [hcd k hk,fl_at _ _ _ hk]⟩
def nouAt (k:Nat):Int:=[48,1632,1776,1984,2406,2534,2662,3664,6112,65296,66720,120782].getD k 0
def InN (r:Int) (k:Nat):Prop:=nouAt k≤r∧r≤nouAt k+9
def DigA (r d:Int) (b:Bool):Prop:=(∃ k,k < 12∧(∀ i,i < k→¬ InN r i)∧InN r k∧d = r - nouAt k∧b = true)∨((∀ i,i < 12→¬ InN r i)∧d = 0∧b = false)
theorem DigA.uniq {r d d':Int} {b b':Bool} (h:DigA r d b) (h':DigA r d' b'):d = d'∧b = b':=by
 rcases h with ⟨k,k1,k2,k3,rfl,rfl⟩|⟨h1,rfl,rfl⟩
 ·rcases h' with ⟨j,j1,j2,j3,rfl,rfl⟩|⟨g1,rfl,rfl⟩
  ·have:k = j:=by
    rcases Nat.lt_trichotomy k j with hl|hl|hl
    ·exact absurd k3 (j2 k hl)
    ·exact hl
    ·exact absurd j3 (k2 j hl)
   subst this; exact ⟨rfl,rfl⟩
  ·exact absurd k3 (g1 k k1)
 ·rcases h' with ⟨j,j1,j2,j3,rfl,rfl⟩|⟨g1,rfl,rfl⟩
  ·exact absurd j3 (h1 j j1)
  ·exact ⟨rfl,rfl⟩
def DigTo (r:Int) (e:Ending):Prop:=∃ d b,e = .returned (.tuple #[.int .i64 d,.bool b])∧DigA r d b
theorem no_next {r:Int} {k:Nat} (h:∀ i,i < k→¬ InN r i) (hk:¬ InN r k):∀ i,i < k+1→¬ InN r i:=fun i hi=>by
 rcases Nat.lt_succ_iff_lt_or_eq.1 hi with h1|rfl
 ·exact h i h1
 ·exact hk
theorem digTo_yes {r d:Int} {k:Nat} (hk:k < 12) (h:∀ i,i < k→¬ InN r i) (hin:InN r k) (hd:r - nouAt k = d):DigTo r (.returned (.tuple #[.int .i64 d,.bool true])):=⟨d,true,rfl,Or.inl ⟨k,hk,h,hin,hd.symm,rfl⟩⟩
theorem digTo_no {r:Int} (h:∀ i,i < 12→¬ InN r i):DigTo r (.returned (.tuple #[.int .i64 0,.bool false])):=⟨0,false,rfl,Or.inr ⟨h,rfl,rfl⟩⟩
def Nou (w:World):Prop:=0 < w.heap.size∧∀ j,j < 12→w.cell? ⟨0,j,none⟩ = some (.int .i32 (nouAt j))
theorem Nou.kept {w w':World} (h:Nou w) (hb:Below w.heap.size w w'):Nou w':=
 ⟨Nat.lt_of_lt_of_le h.1 hb.size,fun j hj=>(hb.cell (p:=⟨0,j,none⟩) h.1).trans (h.2 j hj)⟩
theorem nidx0 (w:World):(Instr.index 53 (.agg #[.int .i32 48,.int .i32 1632,.int .i32 1776,.int .i32 1984,.int .i32 2406,.int .i32 2534,.int .i32 2662,.int .i32 3664,.int .i32 6112,.int .i32 65296,.int .i32 66720,.int .i32 120782]) (.int .i64 0)).run Tryz.prog w = .ok (.int .i32 48) w:=by kernel_rfl
theorem nidx1 (w:World):(Instr.index 53 (.agg #[.int .i32 48,.int .i32 1632,.int .i32 1776,.int .i32 1984,.int .i32 2406,.int .i32 2534,.int .i32 2662,.int .i32 3664,.int .i32 6112,.int .i32 65296,.int .i32 66720,.int .i32 120782]) (.int .i64 1)).run Tryz.prog w = .ok (.int .i32 1632) w:=by kernel_rfl
theorem nidx2 (w:World):(Instr.index 53 (.agg #[.int .i32 48,.int .i32 1632,.int .i32 1776,.int .i32 1984,.int .i32 2406,.int .i32 2534,.int .i32 2662,.int .i32 3664,.int .i32 6112,.int .i32 65296,.int .i32 66720,.int .i32 120782]) (.int .i64 2)).run Tryz.prog w = .ok (.int .i32 1776) w:=by kernel_rfl
theorem nidx3 (w:World):(Instr.index 53 (.agg #[.int .i32 48,.int .i32 1632,.int .i32 1776,.int .i32 1984,.int .i32 2406,.int .i32 2534,.int .i32 2662,.int .i32 3664,.int .i32 6112,.int .i32 65296,.int .i32 66720,.int .i32 120782]) (.int .i64 3)).run Tryz.prog w = .ok (.int .i32 1984) w:=by kernel_rfl
theorem nidx4 (w:World):(Instr.index 53 (.agg #[.int .i32 48,.int .i32 1632,.int .i32 1776,.int .i32 1984,.int .i32 2406,.int .i32 2534,.int .i32 2662,.int .i32 3664,.int .i32 6112,.int .i32 65296,.int .i32 66720,.int .i32 120782]) (.int .i64 4)).run Tryz.prog w = .ok (.int .i32 2406) w:=by kernel_rfl
theorem nidx5 (w:World):(Instr.index 53 (.agg #[.int .i32 48,.int .i32 1632,.int .i32 1776,.int .i32 1984,.int .i32 2406,.int .i32 2534,.int .i32 2662,.int .i32 3664,.int .i32 6112,.int .i32 65296,.int .i32 66720,.int .i32 120782]) (.int .i64 5)).run Tryz.prog w = .ok (.int .i32 2534) w:=by kernel_rfl
theorem nidx6 (w:World):(Instr.index 53 (.agg #[.int .i32 48,.int .i32 1632,.int .i32 1776,.int .i32 1984,.int .i32 2406,.int .i32 2534,.int .i32 2662,.int .i32 3664,.int .i32 6112,.int .i32 65296,.int .i32 66720,.int .i32 120782]) (.int .i64 6)).run Tryz.prog w = .ok (.int .i32 2662) w:=by kernel_rfl
theorem nidx7 (w:World):(Instr.index 53 (.agg #[.int .i32 48,.int .i32 1632,.int .i32 1776,.int .i32 1984,.int .i32 2406,.int .i32 2534,.int .i32 2662,.int .i32 3664,.int .i32 6112,.int .i32 65296,.int .i32 66720,.int .i32 120782]) (.int .i64 7)).run Tryz.prog w = .ok (.int .i32 3664) w:=by kernel_rfl
theorem nidx8 (w:World):(Instr.index 53 (.agg #[.int .i32 48,.int .i32 1632,.int .i32 1776,.int .i32 1984,.int .i32 2406,.int .i32 2534,.int .i32 2662,.int .i32 3664,.int .i32 6112,.int .i32 65296,.int .i32 66720,.int .i32 120782]) (.int .i64 8)).run Tryz.prog w = .ok (.int .i32 6112) w:=by kernel_rfl
theorem nidx9 (w:World):(Instr.index 53 (.agg #[.int .i32 48,.int .i32 1632,.int .i32 1776,.int .i32 1984,.int .i32 2406,.int .i32 2534,.int .i32 2662,.int .i32 3664,.int .i32 6112,.int .i32 65296,.int .i32 66720,.int .i32 120782]) (.int .i64 9)).run Tryz.prog w = .ok (.int .i32 65296) w:=by kernel_rfl
theorem nidx10 (w:World):(Instr.index 53 (.agg #[.int .i32 48,.int .i32 1632,.int .i32 1776,.int .i32 1984,.int .i32 2406,.int .i32 2534,.int .i32 2662,.int .i32 3664,.int .i32 6112,.int .i32 65296,.int .i32 66720,.int .i32 120782]) (.int .i64 10)).run Tryz.prog w = .ok (.int .i32 66720) w:=by kernel_rfl
theorem nidx11 (w:World):(Instr.index 53 (.agg #[.int .i32 48,.int .i32 1632,.int .i32 1776,.int .i32 1984,.int .i32 2406,.int .i32 2534,.int .i32 2662,.int .i32 3664,.int .i32 6112,.int .i32 65296,.int .i32 66720,.int .i32 120782]) (.int .i64 11)).run Tryz.prog w = .ok (.int .i32 120782) w:=by kernel_rfl
theorem ldig_any (r:Int) (w:World) (hr0:-2147483648≤r) (hr1:r≤2147483647) (hN:Nou w):Calls Tryz.prog 8 #[.int .i32 r] w fun e w'=>DigTo r e∧Below w.heap.size w w':=by
 have c0:w.cell? ⟨0,0,none⟩ = some (.int .i32 48):=hN.2 0 (by decide)
 have c1:w.cell? ⟨0,1,none⟩ = some (.int .i32 1632):=hN.2 1 (by decide)
 have c2:w.cell? ⟨0,2,none⟩ = some (.int .i32 1776):=hN.2 2 (by decide)
 have c3:w.cell? ⟨0,3,none⟩ = some (.int .i32 1984):=hN.2 3 (by decide)
 have c4:w.cell? ⟨0,4,none⟩ = some (.int .i32 2406):=hN.2 4 (by decide)
 have c5:w.cell? ⟨0,5,none⟩ = some (.int .i32 2534):=hN.2 5 (by decide)
 have c6:w.cell? ⟨0,6,none⟩ = some (.int .i32 2662):=hN.2 6 (by decide)
 have c7:w.cell? ⟨0,7,none⟩ = some (.int .i32 3664):=hN.2 7 (by decide)
 have c8:w.cell? ⟨0,8,none⟩ = some (.int .i32 6112):=hN.2 8 (by decide)
 have c9:w.cell? ⟨0,9,none⟩ = some (.int .i32 65296):=hN.2 9 (by decide)
 have c10:w.cell? ⟨0,10,none⟩ = some (.int .i32 66720):=hN.2 10 (by decide)
 have c11:w.cell? ⟨0,11,none⟩ = some (.int .i32 120782):=hN.2 11 (by decide)
 clear hN
 go_enter Tryz.func8,Tryz.ntmps8
 go_wp2
 clear c0 c1 c2 c3 c4 c5 c6 c7 c8 c9 c10 c11
 go_loop [7] (fun t=>∃ k:Nat,k≤12∧t = .int .i64 (k:Int)∧Hid (∀ i,i < k→¬ InN r i)) (fun t=>12 - (intOf t).toNat)
 case atStart=>exact ⟨0,by omega,rfl,hide (fun i hi=>absurd hi (Nat.not_lt_zero i))⟩
 case round=>
  obtain ⟨k,hk,rfl,HN⟩:=hrel
  by_cases h12:k = 12
  ·subst h12
   have HD:=hide (digTo_no (unhide HN))
   go_wp2
   go_ret2
   exact ⟨unhide HD,gr_refl _⟩
  ·obtain rfl|rfl|rfl|rfl|rfl|rfl|rfl|rfl|rfl|rfl|rfl|rfl:k = 0∨k = 1∨k = 2∨k = 3∨k = 4∨k = 5∨k = 6∨k = 7∨k = 8∨k = 9∨k = 10∨k = 11:=by omega
   ·have hx:=nidx0
    have h1:48≤r∨¬ 48≤r:=Decidable.em _
    rcases h1 with h1|h1
    ·by_cases h2:r≤57
     ·have HD:=hide (digTo_yes (d:=r - 48) (k:=0) (by decide) (unhide HN) ⟨h1,h2⟩ rfl)
      go_wp2
      go_ret2
      exact ⟨unhide HD,gr_refl _⟩
     ·have HX:=hide (no_next (unhide HN) (show ¬ InN r 0 from fun h=>h2 h.2))
      have h3:57 < r:=by omega
      clear HN
      go_wp2
      go_round
      case rel=>exact ⟨1,by omega,by go_num,HX⟩
      case measure=>simp [intOf]
    ·have HX:=hide (no_next (unhide HN) (show ¬ InN r 0 from fun h=>h1 h.1))
     have h3:r < 48:=by omega
     clear HN
     go_wp2
     go_round
     case rel=>exact ⟨1,by omega,by go_num,HX⟩
     case measure=>simp [intOf]
   ·have hx:=nidx1
    have h1:1632≤r∨¬ 1632≤r:=Decidable.em _
    rcases h1 with h1|h1
    ·by_cases h2:r≤1641
     ·have HD:=hide (digTo_yes (d:=r - 1632) (k:=1) (by decide) (unhide HN) ⟨h1,h2⟩ rfl)
      go_wp2
      go_ret2
      exact ⟨unhide HD,gr_refl _⟩
     ·have HX:=hide (no_next (unhide HN) (show ¬ InN r 1 from fun h=>h2 h.2))
      have h3:1641 < r:=by omega
      clear HN
      go_wp2
      go_round
      case rel=>exact ⟨2,by omega,by go_num,HX⟩
      case measure=>simp [intOf]
    ·have HX:=hide (no_next (unhide HN) (show ¬ InN r 1 from fun h=>h1 h.1))
     have h3:r < 1632:=by omega
     clear HN
     go_wp2
     go_round
     case rel=>exact ⟨2,by omega,by go_num,HX⟩
     case measure=>simp [intOf]
   ·have hx:=nidx2
    have h1:1776≤r∨¬ 1776≤r:=Decidable.em _
    rcases h1 with h1|h1
    ·by_cases h2:r≤1785
     ·have HD:=hide (digTo_yes (d:=r - 1776) (k:=2) (by decide) (unhide HN) ⟨h1,h2⟩ rfl)
      go_wp2
      go_ret2
      exact ⟨unhide HD,gr_refl _⟩
     ·have HX:=hide (no_next (unhide HN) (show ¬ InN r 2 from fun h=>h2 h.2))
      have h3:1785 < r:=by omega
      clear HN
      go_wp2
      go_round
      case rel=>exact ⟨3,by omega,by go_num,HX⟩
      case measure=>simp [intOf]
    ·have HX:=hide (no_next (unhide HN) (show ¬ InN r 2 from fun h=>h1 h.1))
     have h3:r < 1776:=by omega
     clear HN
     go_wp2
     go_round
     case rel=>exact ⟨3,by omega,by go_num,HX⟩
     case measure=>simp [intOf]
   ·have hx:=nidx3
    have h1:1984≤r∨¬ 1984≤r:=Decidable.em _
    rcases h1 with h1|h1
    ·by_cases h2:r≤1993
     ·have HD:=hide (digTo_yes (d:=r - 1984) (k:=3) (by decide) (unhide HN) ⟨h1,h2⟩ rfl)
      go_wp2
      go_ret2
      exact ⟨unhide HD,gr_refl _⟩
     ·have HX:=hide (no_next (unhide HN) (show ¬ InN r 3 from fun h=>h2 h.2))
      have h3:1993 < r:=by omega
      clear HN
      go_wp2
      go_round
      case rel=>exact ⟨4,by omega,by go_num,HX⟩
      case measure=>simp [intOf]
    ·have HX:=hide (no_next (unhide HN) (show ¬ InN r 3 from fun h=>h1 h.1))
     have h3:r < 1984:=by omega
     clear HN
     go_wp2
     go_round
     case rel=>exact ⟨4,by omega,by go_num,HX⟩
     case measure=>simp [intOf]
   ·have hx:=nidx4
    have h1:2406≤r∨¬ 2406≤r:=Decidable.em _
    rcases h1 with h1|h1
    ·by_cases h2:r≤2415
     ·have HD:=hide (digTo_yes (d:=r - 2406) (k:=4) (by decide) (unhide HN) ⟨h1,h2⟩ rfl)
      go_wp2
      go_ret2
      exact ⟨unhide HD,gr_refl _⟩
     ·have HX:=hide (no_next (unhide HN) (show ¬ InN r 4 from fun h=>h2 h.2))
      have h3:2415 < r:=by omega
      clear HN
      go_wp2
      go_round
      case rel=>exact ⟨5,by omega,by go_num,HX⟩
      case measure=>simp [intOf]
    ·have HX:=hide (no_next (unhide HN) (show ¬ InN r 4 from fun h=>h1 h.1))
     have h3:r < 2406:=by omega
     clear HN
     go_wp2
     go_round
     case rel=>exact ⟨5,by omega,by go_num,HX⟩
     case measure=>simp [intOf]
   ·have hx:=nidx5
    have h1:2534≤r∨¬ 2534≤r:=Decidable.em _
    rcases h1 with h1|h1
    ·by_cases h2:r≤2543
     ·have HD:=hide (digTo_yes (d:=r - 2534) (k:=5) (by decide) (unhide HN) ⟨h1,h2⟩ rfl)
      go_wp2
      go_ret2
      exact ⟨unhide HD,gr_refl _⟩
     ·have HX:=hide (no_next (unhide HN) (show ¬ InN r 5 from fun h=>h2 h.2))
      have h3:2543 < r:=by omega
      clear HN
      go_wp2
      go_round
      case rel=>exact ⟨6,by omega,by go_num,HX⟩
      case measure=>simp [intOf]
    ·have HX:=hide (no_next (unhide HN) (show ¬ InN r 5 from fun h=>h1 h.1))
     have h3:r < 2534:=by omega
     clear HN
     go_wp2
     go_round
     case rel=>exact ⟨6,by omega,by go_num,HX⟩
     case measure=>simp [intOf]
   ·have hx:=nidx6
    have h1:2662≤r∨¬ 2662≤r:=Decidable.em _
    rcases h1 with h1|h1
    ·by_cases h2:r≤2671
     ·have HD:=hide (digTo_yes (d:=r - 2662) (k:=6) (by decide) (unhide HN) ⟨h1,h2⟩ rfl)
      go_wp2
      go_ret2
      exact ⟨unhide HD,gr_refl _⟩
     ·have HX:=hide (no_next (unhide HN) (show ¬ InN r 6 from fun h=>h2 h.2))
      have h3:2671 < r:=by omega
      clear HN
      go_wp2
      go_round
      case rel=>exact ⟨7,by omega,by go_num,HX⟩
      case measure=>simp [intOf]
    ·have HX:=hide (no_next (unhide HN) (show ¬ InN r 6 from fun h=>h1 h.1))
     have h3:r < 2662:=by omega
     clear HN
     go_wp2
     go_round
     case rel=>exact ⟨7,by omega,by go_num,HX⟩
     case measure=>simp [intOf]
   ·have hx:=nidx7
    have h1:3664≤r∨¬ 3664≤r:=Decidable.em _
    rcases h1 with h1|h1
    ·by_cases h2:r≤3673
     ·have HD:=hide (digTo_yes (d:=r - 3664) (k:=7) (by decide) (unhide HN) ⟨h1,h2⟩ rfl)
      go_wp2
      go_ret2
      exact ⟨unhide HD,gr_refl _⟩
     ·have HX:=hide (no_next (unhide HN) (show ¬ InN r 7 from fun h=>h2 h.2))
      have h3:3673 < r:=by omega
      clear HN
      go_wp2
      go_round
      case rel=>exact ⟨8,by omega,by go_num,HX⟩
      case measure=>simp [intOf]
    ·have HX:=hide (no_next (unhide HN) (show ¬ InN r 7 from fun h=>h1 h.1))
     have h3:r < 3664:=by omega
     clear HN
     go_wp2
     go_round
     case rel=>exact ⟨8,by omega,by go_num,HX⟩
     case measure=>simp [intOf]
   ·have hx:=nidx8
    have h1:6112≤r∨¬ 6112≤r:=Decidable.em _
    rcases h1 with h1|h1
    ·by_cases h2:r≤6121
     ·have HD:=hide (digTo_yes (d:=r - 6112) (k:=8) (by decide) (unhide HN) ⟨h1,h2⟩ rfl)
      go_wp2
      go_ret2
      exact ⟨unhide HD,gr_refl _⟩
     ·have HX:=hide (no_next (unhide HN) (show ¬ InN r 8 from fun h=>h2 h.2))
      have h3:6121 < r:=by omega
      clear HN
      go_wp2
      go_round
      case rel=>exact ⟨9,by omega,by go_num,HX⟩
      case measure=>simp [intOf]
    ·have HX:=hide (no_next (unhide HN) (show ¬ InN r 8 from fun h=>h1 h.1))
     have h3:r < 6112:=by omega
     clear HN
     go_wp2
     go_round
     case rel=>exact ⟨9,by omega,by go_num,HX⟩
     case measure=>simp [intOf]
   ·have hx:=nidx9
    have h1:65296≤r∨¬ 65296≤r:=Decidable.em _
    rcases h1 with h1|h1
    ·by_cases h2:r≤65305
     ·have HD:=hide (digTo_yes (d:=r - 65296) (k:=9) (by decide) (unhide HN) ⟨h1,h2⟩ rfl)
      go_wp2
      go_ret2
      exact ⟨unhide HD,gr_refl _⟩
     ·have HX:=hide (no_next (unhide HN) (show ¬ InN r 9 from fun h=>h2 h.2))
      have h3:65305 < r:=by omega
      clear HN
      go_wp2
      go_round
      case rel=>exact ⟨10,by omega,by go_num,HX⟩
      case measure=>simp [intOf]
    ·have HX:=hide (no_next (unhide HN) (show ¬ InN r 9 from fun h=>h1 h.1))
     have h3:r < 65296:=by omega
     clear HN
     go_wp2
     go_round
     case rel=>exact ⟨10,by omega,by go_num,HX⟩
     case measure=>simp [intOf]
   ·have hx:=nidx10
    have h1:66720≤r∨¬ 66720≤r:=Decidable.em _
    rcases h1 with h1|h1
    ·by_cases h2:r≤66729
     ·have HD:=hide (digTo_yes (d:=r - 66720) (k:=10) (by decide) (unhide HN) ⟨h1,h2⟩ rfl)
      go_wp2
      go_ret2
      exact ⟨unhide HD,gr_refl _⟩
     ·have HX:=hide (no_next (unhide HN) (show ¬ InN r 10 from fun h=>h2 h.2))
      have h3:66729 < r:=by omega
      clear HN
      go_wp2
      go_round
      case rel=>exact ⟨11,by omega,by go_num,HX⟩
      case measure=>simp [intOf]
    ·have HX:=hide (no_next (unhide HN) (show ¬ InN r 10 from fun h=>h1 h.1))
     have h3:r < 66720:=by omega
     clear HN
     go_wp2
     go_round
     case rel=>exact ⟨11,by omega,by go_num,HX⟩
     case measure=>simp [intOf]
   ·have hx:=nidx11
    have h1:120782≤r∨¬ 120782≤r:=Decidable.em _
    rcases h1 with h1|h1
    ·by_cases h2:r≤120791
     ·have HD:=hide (digTo_yes (d:=r - 120782) (k:=11) (by decide) (unhide HN) ⟨h1,h2⟩ rfl)
      go_wp2
      go_ret2
      exact ⟨unhide HD,gr_refl _⟩
     ·have HX:=hide (no_next (unhide HN) (show ¬ InN r 11 from fun h=>h2 h.2))
      have h3:120791 < r:=by omega
      clear HN
      go_wp2
      go_round
      case rel=>exact ⟨12,by omega,by go_num,HX⟩
      case measure=>simp [intOf]
    ·have HX:=hide (no_next (unhide HN) (show ¬ InN r 11 from fun h=>h1 h.1))
     have h3:r < 120782:=by omega
     clear HN
     go_wp2
     go_round
     case rel=>exact ⟨12,by omega,by go_num,HX⟩
     case measure=>simp [intOf]
def NouL (w W:World):Prop:=W.heap[w.heap.size]? = some (.cells #[.int .i32 48,.int .i32 1632,.int .i32 1776,.int .i32 1984,.int .i32 2406,.int .i32 2534,.int .i32 2662,.int .i32 3664,.int .i32 6112,.int .i32 65296,.int .i32 66720,.int .i32 120782] 21 (0,0))∧Below w.heap.size w W
theorem rscripts (w:World):Calls Tryz.prog 16 #[] w fun e w'=>e = .returned (.slice (some ⟨w.heap.size,0,none⟩) 12 12)∧NouL w w':=by
 go_enter Tryz.func16,Tryz.ntmps16
 go_wp2
 go_ret
 exact ⟨rfl,heap_alloc_new w _,gr_alloc _ _⟩
theorem rdig_any (r:Int) (w:World) (hr0:-2147483648≤r) (hr1:r≤2147483647):Calls Tryz.prog 9 #[.int .i32 r] w fun e w'=>DigTo r e∧Below w.heap.size w w':=by
 go_enter Tryz.func9,Tryz.ntmps9
 go_wp2_with fail
 refine (rscripts w).mono ?_
 rintro e W ⟨rfl,hL,hB⟩
 have c0:W.cell? ⟨w.heap.size,0,none⟩ = some (.int .i32 48):=by rw [cell_of_row W _ 0 _ _ _ hL]; rfl
 have c1:W.cell? ⟨w.heap.size,1,none⟩ = some (.int .i32 1632):=by rw [cell_of_row W _ 1 _ _ _ hL]; rfl
 have c2:W.cell? ⟨w.heap.size,2,none⟩ = some (.int .i32 1776):=by rw [cell_of_row W _ 2 _ _ _ hL]; rfl
 have c3:W.cell? ⟨w.heap.size,3,none⟩ = some (.int .i32 1984):=by rw [cell_of_row W _ 3 _ _ _ hL]; rfl
 have c4:W.cell? ⟨w.heap.size,4,none⟩ = some (.int .i32 2406):=by rw [cell_of_row W _ 4 _ _ _ hL]; rfl
 have c5:W.cell? ⟨w.heap.size,5,none⟩ = some (.int .i32 2534):=by rw [cell_of_row W _ 5 _ _ _ hL]; rfl
 have c6:W.cell? ⟨w.heap.size,6,none⟩ = some (.int .i32 2662):=by rw [cell_of_row W _ 6 _ _ _ hL]; rfl
 have c7:W.cell? ⟨w.heap.size,7,none⟩ = some (.int .i32 3664):=by rw [cell_of_row W _ 7 _ _ _ hL]; rfl
 have c8:W.cell? ⟨w.heap.size,8,none⟩ = some (.int .i32 6112):=by rw [cell_of_row W _ 8 _ _ _ hL]; rfl
 have c9:W.cell? ⟨w.heap.size,9,none⟩ = some (.int .i32 65296):=by rw [cell_of_row W _ 9 _ _ _ hL]; rfl
 have c10:W.cell? ⟨w.heap.size,10,none⟩ = some (.int .i32 66720):=by rw [cell_of_row W _ 10 _ _ _ hL]; rfl
 have c11:W.cell? ⟨w.heap.size,11,none⟩ = some (.int .i32 120782):=by rw [cell_of_row W _ 11 _ _ _ hL]; rfl
 have HB:=hide hB
 clear hL hB
 go_wp2
 go_loop [5] (fun t=>∃ k:Nat,k≤12∧t = .int .i64 (k:Int)∧Hid (∀ i,i < k→¬ InN r i)) (fun t=>12 - (intOf t).toNat)
 case atStart=>exact ⟨0,by omega,rfl,hide (fun i hi=>absurd hi (Nat.not_lt_zero i))⟩
 case round=>
  obtain ⟨k,hk,rfl,HN⟩:=hrel
  by_cases h12:k = 12
  ·subst h12
   have HD:=hide (digTo_no (unhide HN))
   go_wp2
   go_ret2
   exact ⟨unhide HD,unhide HB⟩
  ·obtain rfl|rfl|rfl|rfl|rfl|rfl|rfl|rfl|rfl|rfl|rfl|rfl:k = 0∨k = 1∨k = 2∨k = 3∨k = 4∨k = 5∨k = 6∨k = 7∨k = 8∨k = 9∨k = 10∨k = 11:=by omega
   ·skip
    have h1:48≤r∨¬ 48≤r:=Decidable.em _
    rcases h1 with h1|h1
    ·by_cases h2:r≤57
     ·have HD:=hide (digTo_yes (d:=r - 48) (k:=0) (by decide) (unhide HN) ⟨h1,h2⟩ rfl)
      go_wp2
      go_ret2
      exact ⟨unhide HD,unhide HB⟩
     ·have HX:=hide (no_next (unhide HN) (show ¬ InN r 0 from fun h=>h2 h.2))
      have h3:57 < r:=by omega
      clear HN
      go_wp2
      go_round
      case rel=>exact ⟨1,by omega,by go_num,HX⟩
      case measure=>simp [intOf]
    ·have HX:=hide (no_next (unhide HN) (show ¬ InN r 0 from fun h=>h1 h.1))
     have h3:r < 48:=by omega
     clear HN
     go_wp2
     go_round
     case rel=>exact ⟨1,by omega,by go_num,HX⟩
     case measure=>simp [intOf]
   ·skip
    have h1:1632≤r∨¬ 1632≤r:=Decidable.em _
    rcases h1 with h1|h1
    ·by_cases h2:r≤1641
     ·have HD:=hide (digTo_yes (d:=r - 1632) (k:=1) (by decide) (unhide HN) ⟨h1,h2⟩ rfl)
      go_wp2
      go_ret2
      exact ⟨unhide HD,unhide HB⟩
     ·have HX:=hide (no_next (unhide HN) (show ¬ InN r 1 from fun h=>h2 h.2))
      have h3:1641 < r:=by omega
      clear HN
      go_wp2
      go_round
      case rel=>exact ⟨2,by omega,by go_num,HX⟩
      case measure=>simp [intOf]
    ·have HX:=hide (no_next (unhide HN) (show ¬ InN r 1 from fun h=>h1 h.1))
     have h3:r < 1632:=by omega
     clear HN
     go_wp2
     go_round
     case rel=>exact ⟨2,by omega,by go_num,HX⟩
     case measure=>simp [intOf]
   ·skip
    have h1:1776≤r∨¬ 1776≤r:=Decidable.em _
    rcases h1 with h1|h1
    ·by_cases h2:r≤1785
     ·have HD:=hide (digTo_yes (d:=r - 1776) (k:=2) (by decide) (unhide HN) ⟨h1,h2⟩ rfl)
      go_wp2
      go_ret2
      exact ⟨unhide HD,unhide HB⟩
     ·have HX:=hide (no_next (unhide HN) (show ¬ InN r 2 from fun h=>h2 h.2))
      have h3:1785 < r:=by omega
      clear HN
      go_wp2
      go_round
      case rel=>exact ⟨3,by omega,by go_num,HX⟩
      case measure=>simp [intOf]
    ·have HX:=hide (no_next (unhide HN) (show ¬ InN r 2 from fun h=>h1 h.1))
     have h3:r < 1776:=by omega
     clear HN
     go_wp2
     go_round
     case rel=>exact ⟨3,by omega,by go_num,HX⟩
     case measure=>simp [intOf]
   ·skip
    have h1:1984≤r∨¬ 1984≤r:=Decidable.em _
    rcases h1 with h1|h1
    ·by_cases h2:r≤1993
     ·have HD:=hide (digTo_yes (d:=r - 1984) (k:=3) (by decide) (unhide HN) ⟨h1,h2⟩ rfl)
      go_wp2
      go_ret2
      exact ⟨unhide HD,unhide HB⟩
     ·have HX:=hide (no_next (unhide HN) (show ¬ InN r 3 from fun h=>h2 h.2))
      have h3:1993 < r:=by omega
      clear HN
      go_wp2
      go_round
      case rel=>exact ⟨4,by omega,by go_num,HX⟩
      case measure=>simp [intOf]
    ·have HX:=hide (no_next (unhide HN) (show ¬ InN r 3 from fun h=>h1 h.1))
     have h3:r < 1984:=by omega
     clear HN
     go_wp2
     go_round
     case rel=>exact ⟨4,by omega,by go_num,HX⟩
     case measure=>simp [intOf]
   ·skip
    have h1:2406≤r∨¬ 2406≤r:=Decidable.em _
    rcases h1 with h1|h1
    ·by_cases h2:r≤2415
     ·have HD:=hide (digTo_yes (d:=r - 2406) (k:=4) (by decide) (unhide HN) ⟨h1,h2⟩ rfl)
      go_wp2
      go_ret2
      exact ⟨unhide HD,unhide HB⟩
     ·have HX:=hide (no_next (unhide HN) (show ¬ InN r 4 from fun h=>h2 h.2))
      have h3:2415 < r:=by omega
      clear HN
      go_wp2
      go_round
      case rel=>exact ⟨5,by omega,by go_num,HX⟩
      case measure=>simp [intOf]
    ·have HX:=hide (no_next (unhide HN) (show ¬ InN r 4 from fun h=>h1 h.1))
     have h3:r < 2406:=by omega
     clear HN
     go_wp2
     go_round
     case rel=>exact ⟨5,by omega,by go_num,HX⟩
     case measure=>simp [intOf]
   ·skip
    have h1:2534≤r∨¬ 2534≤r:=Decidable.em _
    rcases h1 with h1|h1
    ·by_cases h2:r≤2543
     ·have HD:=hide (digTo_yes (d:=r - 2534) (k:=5) (by decide) (unhide HN) ⟨h1,h2⟩ rfl)
      go_wp2
      go_ret2
      exact ⟨unhide HD,unhide HB⟩
     ·have HX:=hide (no_next (unhide HN) (show ¬ InN r 5 from fun h=>h2 h.2))
      have h3:2543 < r:=by omega
      clear HN
      go_wp2
      go_round
      case rel=>exact ⟨6,by omega,by go_num,HX⟩
      case measure=>simp [intOf]
    ·have HX:=hide (no_next (unhide HN) (show ¬ InN r 5 from fun h=>h1 h.1))
     have h3:r < 2534:=by omega
     clear HN
     go_wp2
     go_round
     case rel=>exact ⟨6,by omega,by go_num,HX⟩
     case measure=>simp [intOf]
   ·skip
    have h1:2662≤r∨¬ 2662≤r:=Decidable.em _
    rcases h1 with h1|h1
    ·by_cases h2:r≤2671
     ·have HD:=hide (digTo_yes (d:=r - 2662) (k:=6) (by decide) (unhide HN) ⟨h1,h2⟩ rfl)
      go_wp2
      go_ret2
      exact ⟨unhide HD,unhide HB⟩
     ·have HX:=hide (no_next (unhide HN) (show ¬ InN r 6 from fun h=>h2 h.2))
      have h3:2671 < r:=by omega
      clear HN
      go_wp2
      go_round
      case rel=>exact ⟨7,by omega,by go_num,HX⟩
      case measure=>simp [intOf]
    ·have HX:=hide (no_next (unhide HN) (show ¬ InN r 6 from fun h=>h1 h.1))
     have h3:r < 2662:=by omega
     clear HN
     go_wp2
     go_round
     case rel=>exact ⟨7,by omega,by go_num,HX⟩
     case measure=>simp [intOf]
   ·skip
    have h1:3664≤r∨¬ 3664≤r:=Decidable.em _
    rcases h1 with h1|h1
    ·by_cases h2:r≤3673
     ·have HD:=hide (digTo_yes (d:=r - 3664) (k:=7) (by decide) (unhide HN) ⟨h1,h2⟩ rfl)
      go_wp2
      go_ret2
      exact ⟨unhide HD,unhide HB⟩
     ·have HX:=hide (no_next (unhide HN) (show ¬ InN r 7 from fun h=>h2 h.2))
      have h3:3673 < r:=by omega
      clear HN
      go_wp2
      go_round
      case rel=>exact ⟨8,by omega,by go_num,HX⟩
      case measure=>simp [intOf]
    ·have HX:=hide (no_next (unhide HN) (show ¬ InN r 7 from fun h=>h1 h.1))
     have h3:r < 3664:=by omega
     clear HN
     go_wp2
     go_round
     case rel=>exact ⟨8,by omega,by go_num,HX⟩
     case measure=>simp [intOf]
   ·skip
    have h1:6112≤r∨¬ 6112≤r:=Decidable.em _
    rcases h1 with h1|h1
    ·by_cases h2:r≤6121
     ·have HD:=hide (digTo_yes (d:=r - 6112) (k:=8) (by decide) (unhide HN) ⟨h1,h2⟩ rfl)
      go_wp2
      go_ret2
      exact ⟨unhide HD,unhide HB⟩
     ·have HX:=hide (no_next (unhide HN) (show ¬ InN r 8 from fun h=>h2 h.2))
      have h3:6121 < r:=by omega
      clear HN
      go_wp2
      go_round
      case rel=>exact ⟨9,by omega,by go_num,HX⟩
      case measure=>simp [intOf]
    ·have HX:=hide (no_next (unhide HN) (show ¬ InN r 8 from fun h=>h1 h.1))
     have h3:r < 6112:=by omega
     clear HN
     go_wp2
     go_round
     case rel=>exact ⟨9,by omega,by go_num,HX⟩
     case measure=>simp [intOf]
   ·skip
    have h1:65296≤r∨¬ 65296≤r:=Decidable.em _
    rcases h1 with h1|h1
    ·by_cases h2:r≤65305
     ·have HD:=hide (digTo_yes (d:=r - 65296) (k:=9) (by decide) (unhide HN) ⟨h1,h2⟩ rfl)
      go_wp2
      go_ret2
      exact ⟨unhide HD,unhide HB⟩
     ·have HX:=hide (no_next (unhide HN) (show ¬ InN r 9 from fun h=>h2 h.2))
      have h3:65305 < r:=by omega
      clear HN
      go_wp2
      go_round
      case rel=>exact ⟨10,by omega,by go_num,HX⟩
      case measure=>simp [intOf]
    ·have HX:=hide (no_next (unhide HN) (show ¬ InN r 9 from fun h=>h1 h.1))
     have h3:r < 65296:=by omega
     clear HN
     go_wp2
     go_round
     case rel=>exact ⟨10,by omega,by go_num,HX⟩
     case measure=>simp [intOf]
   ·skip
    have h1:66720≤r∨¬ 66720≤r:=Decidable.em _
    rcases h1 with h1|h1
    ·by_cases h2:r≤66729
     ·have HD:=hide (digTo_yes (d:=r - 66720) (k:=10) (by decide) (unhide HN) ⟨h1,h2⟩ rfl)
      go_wp2
      go_ret2
      exact ⟨unhide HD,unhide HB⟩
     ·have HX:=hide (no_next (unhide HN) (show ¬ InN r 10 from fun h=>h2 h.2))
      have h3:66729 < r:=by omega
      clear HN
      go_wp2
      go_round
      case rel=>exact ⟨11,by omega,by go_num,HX⟩
      case measure=>simp [intOf]
    ·have HX:=hide (no_next (unhide HN) (show ¬ InN r 10 from fun h=>h1 h.1))
     have h3:r < 66720:=by omega
     clear HN
     go_wp2
     go_round
     case rel=>exact ⟨11,by omega,by go_num,HX⟩
     case measure=>simp [intOf]
   ·skip
    have h1:120782≤r∨¬ 120782≤r:=Decidable.em _
    rcases h1 with h1|h1
    ·by_cases h2:r≤120791
     ·have HD:=hide (digTo_yes (d:=r - 120782) (k:=11) (by decide) (unhide HN) ⟨h1,h2⟩ rfl)
      go_wp2
      go_ret2
      exact ⟨unhide HD,unhide HB⟩
     ·have HX:=hide (no_next (unhide HN) (show ¬ InN r 11 from fun h=>h2 h.2))
      have h3:120791 < r:=by omega
      clear HN
      go_wp2
      go_round
      case rel=>exact ⟨12,by omega,by go_num,HX⟩
      case measure=>simp [intOf]
    ·have HX:=hide (no_next (unhide HN) (show ¬ InN r 11 from fun h=>h1 h.1))
     have h3:r < 120782:=by omega
     clear HN
     go_wp2
     go_round
     case rel=>exact ⟨12,by omega,by go_num,HX⟩
     case measure=>simp [intOf]
theorem dig_same (r:Int) (hr0:-2147483648≤r) (hr1:r≤2147483647):∃ d b,(∀ W:World,Nou W→Calls Tryz.prog 8 #[.int .i32 r] W fun e W'=>e = .returned (.tuple #[.int .i64 d,.bool b])∧Below W.heap.size W W')∧∀ W:World,Calls Tryz.prog 9 #[.int .i32 r] W fun e W'=>e = .returned (.tuple #[.int .i64 d,.bool b])∧Below W.heap.size W W':=by
 obtain ⟨d,b,h⟩:∃ d b,DigA r d b:=by
  by_cases hc:∃ k,k < 12∧InN r k
  ·obtain ⟨k,k1,k2⟩:=hc
   induction k using Nat.strongRecOn with
   | ind k ih=>
    by_cases hm:∃ i,i < k∧InN r i
    ·obtain ⟨i,i1,i2⟩:=hm; exact ih i i1 (by omega) i2
    ·exact ⟨_,_,Or.inl ⟨k,k1,fun i hi h=>hm ⟨i,hi,h⟩,k2,rfl,rfl⟩⟩
  ·exact ⟨0,false,Or.inr ⟨fun i hi h=>hc ⟨i,hi,h⟩,rfl,rfl⟩⟩
 refine ⟨d,b,fun W hN=>(ldig_any r W hr0 hr1 hN).mono ?_,fun W=>(rdig_any r W hr0 hr1).mono ?_⟩
 ·rintro e W' ⟨⟨d',b',rfl,h'⟩,hB⟩
  obtain ⟨rfl,rfl⟩:=h.uniq h'
  exact ⟨rfl,hB⟩
 ·rintro e W' ⟨⟨d',b',rfl,h'⟩,hB⟩
  obtain ⟨rfl,rfl⟩:=h.uniq h'
  exact ⟨rfl,hB⟩
end Go.Proofs.YtkcpkbnhlcdacaaGreatDoor
