/- Of what QuickRightRow stands on: Grow. -/
import Derived.Test.YtdekhacomggpgaaGreatDoorPaf
import Derived.ArgAppend
import Derived.Deep.Upon
import Derived.Maps.AppendAt
namespace Go.Proofs.YtdekhacomggpgaaGreatDoor
open Go.RowKit
set_option maxHeartbeats 1000000
structure Ap (w w':World) (v v':Value):Prop where
 os:w'.os = w.os
 tape:w'.tape = w.tape
 output:w'.output = w.output
 size:w.heap.size≤w'.heap.size
 block:∀ k,k < w.heap.size→some k≠v.ownBlock→w'.heap[k]? = w.heap[k]?
 own:v'.ownBlock = v.ownBlock∨∃ g,v'.ownBlock = some g∧w.heap.size≤g
theorem own_of_row {w:World} {base base' n:Nat} {v:Value} {xs:List Nat} (h:w.ownsRow base 47 1 v n (xs.map (fun z:Nat=>Value.int .u32 (z:Int)))) (hn:xs.length = n) (hp:0 < n) (hb:base'≤base):Own w base' v xs∧∃ g,v.ownBlock = some g∧base≤g:=by
 obtain ⟨_,h|⟨g,c,cur,hv,hg,hh,h1,h2,h3,h4⟩⟩:=h
 ·omega
 ·have hcur:cur = lc xs ++ (cur.toList.drop n).toArray:=by
   apply Array.toList_inj.1
   rw [Array.toList_append]
   simp only [lc]
   rw [← h4,Nat.mul_one,List.take_append_drop]
  refine ⟨Or.inr ⟨g,c,cur,by rw [hn]; exact hv,by omega,hh,by omega,by omega,by unfold maxLen at h2; exact h2,fun j hj=>?_⟩,g,by rw [hv]; rfl,hg⟩
  rw [hcur]; exact lc_at' xs _ j hj
theorem append_own1 (w:World) (base n c z:Nat) (a:Option Addr) (xs:List Nat) (h:Own w base (.slice a n c) xs) (hb:base≤w.heap.size) (hn:n≤35184372088831) :
  ∃ v' w',(Builtin.append_ #[27,27] 27 #[.slice a n c,.slice (some ⟨w.heap.size,0,none⟩) 1 1]).run Tryz.prog (w.alloc (.cells #[.int .u32 (z:Int)] 47)) = .ok v' w' ∧
   Own w' base v' (xs ++ [z])∧Ap w w' (.slice a n c) v'∧(∀ m cm ys,m≤n→Own w base (.slice a m cm) ys→Own w' base (.slice a m cm) ys):=by
 obtain ⟨i0,hi,hz0,hz1,hz2⟩:=info_parts Tryz.info_limb
 have hnew:=cell_one_new w (.int .u32 (z:Int)) 47
 have hone:∀ u∈[Value.int .u32 (z:Int)],u.oneCell' = true:=fun u hu=>by simp at hu; subst hu; rfl
 have hsz:(w.alloc (.cells #[.int .u32 (z:Int)] 47)).heap.size = w.heap.size+1:=by simp
 have hold:∀ k,k < w.heap.size→(w.alloc (.cells #[.int .u32 (z:Int)] 47)).heap[k]? = w.heap[k]?:=fun k hk=>(gr_alloc w _).block k hk
 rcases h with ⟨e,rfl⟩|⟨g,cap,cur,e,hg,hh,h1,h2,h3,hc⟩
 ·injection e with e1 e2 e3
  subst e1 e2 e3
  obtain ⟨v',w',hr,hrow,hgr,_,how⟩:=run_append_own_at (P:=Tryz.prog) (w:=w.alloc (.cells #[.int .u32 (z:Int)] 47)) base 27 27 47 i0 (.int .u32 0) 1 4 Tryz.under_limbs hi hz0 hz1 hz2 rfl (by decide) (.slice none 0 0) 0 [] ⟨rfl,Or.inl ⟨rfl,rfl⟩⟩ ⟨w.heap.size,0,none⟩ 1 1 [.int .u32 (z:Int)] rfl hnew hone (by unfold maxLen; omega) (by omega) (by omega)
  have hrow':w'.ownsRow base 47 1 v' 1 ([z].map (fun z:Nat=>Value.int .u32 (z:Int))):=by simpa using hrow
  obtain ⟨ho,_⟩:=own_of_row hrow' rfl (by omega) (Nat.le_refl _)
  refine ⟨v',w',hr,ho,⟨hgr.os,hgr.tape,hgr.output,by have:=hgr.size; omega,fun k hk hne=>(hgr.block k (by omega) hne).trans (hold k hk),?_⟩,fun m cm ys hm hO=>?_⟩
  ·rcases how with h|h
   ·exact Or.inl h
   ·exact Or.inr ⟨_,h,by omega⟩
  ·rcases hO with ⟨e,hy⟩|⟨g,cap,cur,e,_⟩
   ·exact Or.inl ⟨e,hy⟩
   ·injection e with e1; cases e1
 ·injection e with e1 e2 e3
  subst e1 e3
  have hlt:g < w.heap.size:=by
   by_cases hlt:g < w.heap.size
   ·exact hlt
   ·rw [Array.getElem?_eq_none (by omega)] at hh; cases hh
  have hh':(w.alloc (.cells #[.int .u32 (z:Int)] 47)).heap[g]? = some (.cells cur 47 (0,0)):=(hold g hlt).trans hh
  by_cases hroom:n+1≤c
  ·have hcell:((w.alloc (.cells #[.int .u32 (z:Int)] 47)).cell? ⟨g,0+n * i0.size+0,none⟩).isSome = true:=by
    rw [hz1,cell_of_row _ g _ _ _ _ hh',Array.getElem?_eq_getElem (by omega)]; rfl
   have hfro:(w.alloc (.cells #[.int .u32 (z:Int)] 47)).frozen? ⟨g,0+n * i0.size+0,none⟩ = false:=frozen_of_row _ g _ _ _ hh'
   have hcj:∀ j,j < [Value.int .u32 (z:Int)].length→((w.alloc (.cells #[.int .u32 (z:Int)] 47)).cell? ⟨g,0+n * i0.size+j,none⟩).isSome = true:=fun j hj=>by
    obtain rfl:j = 0:=by simpa using hj
    exact hcell
   have hfj:∀ j,j < [Value.int .u32 (z:Int)].length→(w.alloc (.cells #[.int .u32 (z:Int)] 47)).frozen? ⟨g,0+n * i0.size+j,none⟩ = false:=fun j hj=>by
    obtain rfl:j = 0:=by simpa using hj
    exact hfro
   have hr:=run_append_room_cells (P:=Tryz.prog) (w.alloc (.cells #[.int .u32 (z:Int)] 47)) 27 27 47 i0 Tryz.under_limbs hi g 0 n c ⟨w.heap.size,0,none⟩ 1 1 [.int .u32 (z:Int)] (by rw [hz1]; rfl) hnew hone hroom hcj hfj
   rw [hz1,Nat.zero_add,Nat.mul_one] at hr
   have hset:((w.alloc (.cells #[.int .u32 (z:Int)] 47)).setCells g n [.int .u32 (z:Int)]).heap[g]? = some (.cells (cur.setIfInBounds n (.int .u32 (z:Int))) 47 (0,0)):=heap_setCell_same _ g n _ _ _ hh'
   have hlen:(xs ++ [z]).length = n+1:=by simp; omega
   refine ⟨_,_,hr,Or.inr ⟨g,c,_,by rw [hlen],hg,hset,by omega,by simpa using h2,h3,fun j hj=>?_⟩,⟨rfl,rfl,rfl,by simp [World.setCells,World.setCell],fun k hk hne=>?_,Or.inl rfl⟩,fun m cm ys hm hO=>?_⟩
   ·rw [hlen] at hj
    by_cases hjn:j = n
    ·subst hjn
     rw [Array.getElem?_setIfInBounds_self_of_lt (by omega),List.getElem?_append_right (by omega)]
     simp [e2]
    ·rw [Array.getElem?_setIfInBounds_ne (by omega),List.getElem?_append_left (by omega)]
     exact hc j (by omega)
   ·have hkg:k≠g:=fun e=>hne (by rw [e]; rfl)
    exact (heap_setCell_other _ _ k _ hkg).trans (hold k hk)
   ·rcases hO with ⟨e,hy⟩|⟨g2,cap2,cur2,e,hg2,hh2,k1,k2,k3,kc⟩
    ·injection e with e1; cases e1
    ·injection e with e1 e2 e3
     injection e1 with e1
     injection e1 with e1
     subst e1 e3
     rw [hh] at hh2
     injection hh2 with hh2
     injection hh2 with hh2
     subst hh2
     refine Or.inr ⟨g,cm,_,by rw [← e2],hg,hset,k1,by simpa using k2,k3,fun j hj=>?_⟩
     rw [Array.getElem?_setIfInBounds_ne (by omega)]
     exact kc j hj
  ·obtain ⟨v',w',hr,hrow,hgr⟩:=run_append_arg_grows (P:=Tryz.prog) (w.alloc (.cells #[.int .u32 (z:Int)] 47)) 27 27 47 i0 (.int .u32 0) 1 4 Tryz.under_limbs hi hz0 hz1 hz2 rfl (by decide) ⟨g,0,none⟩ n c (xs.map (fun z:Nat=>Value.int .u32 (z:Int))) (by simp; omega) (fun j u hj=>by
     have hjn:j < xs.length:=by have:=(List.getElem?_eq_some_iff.1 hj).1; simpa using this
     have hv:u = .int .u32 ((xs[j]?.getD 0:Nat):Int):=by
      rw [List.getElem?_map,List.getElem?_eq_getElem hjn] at hj
      simp at hj
      rw [← hj]
      simp [hjn]
     rw [hv,Addr.add_lit,Nat.zero_add,cell_of_row _ g j _ _ _ hh']
     exact hc j hjn) ⟨w.heap.size,0,none⟩ 1 1 [.int .u32 (z:Int)] rfl hnew (by omega) (by unfold maxLen; omega) (by omega)
   have hrow':w'.ownsRow (w.heap.size+1) 47 1 v' (n+1) ((xs ++ [z]).map (fun z:Nat=>Value.int .u32 (z:Int))):=by rw [hsz] at hrow; simpa using hrow
   obtain ⟨ho,g3,hg3,hge⟩:=own_of_row hrow' (by simp; omega) (by omega) (show base≤w.heap.size+1 by omega)
   have hkeep:∀ k,k < w.heap.size→w'.heap[k]? = w.heap[k]?:=fun k hk=>(hgr.block k (by omega) (by simp)).trans (hold k hk)
   refine ⟨v',w',hr,ho,⟨hgr.os,hgr.tape,hgr.output,by have:=hgr.size; omega,fun k hk _=>hkeep k hk,Or.inr ⟨g3,hg3,by omega⟩⟩,fun m cm ys hm hO=>?_⟩
   rcases hO with hO|⟨g2,cap2,cur2,e,hg2,hh2,r⟩
   ·exact Or.inl hO
   ·have hlt2:g2 < w.heap.size:=by
     by_cases hlt:g2 < w.heap.size
     ·exact hlt
     ·rw [Array.getElem?_eq_none (by omega)] at hh2; cases hh2
    exact Or.inr ⟨g2,cap2,cur2,e,hg2,by rw [hkeep g2 hlt2]; exact hh2,r⟩
end Go.Proofs.YtdekhacomggpgaaGreatDoor
