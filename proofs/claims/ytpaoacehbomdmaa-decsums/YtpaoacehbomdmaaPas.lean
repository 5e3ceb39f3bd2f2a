/- Of what DecSumsRow stands on: StRows RefShift RefPlus. -/
import Derived.Test.YtpaoacehbomdmaaPaq
import Derived.Test.YtpaoacehbomdmaaPar
import Derived.OwnWalk
import Derived.Test.YtpaoacehbomdmaaPai
import Derived.Test.YtpaoacehbomdmaaPae
namespace Go.Proofs.Ytpaoacehbomdmaa
open Go.RowKit
set_option maxHeartbeats 2000000
set_option maxRecDepth 20000
theorem wpList_append_run {P:Program} {w w':World} {ops:Array Oper} {rest:List Oper} {o:Oper} {a:Act} {Q:Exit→Act→World→Prop} {v':Value} (hgd:o.guard = none) (s x:Operand) (t:TypeId)
  (ho:o.op = .call { callee:=.builtin .append,args:=#[s,x],argTypes:=#[t,t] }) (hrun:(Builtin.append_ #[t,t] o.type #[a.eval s,a.eval x]).run P w = .ok v' w')
  (h:wpList P ops Q rest (a.put o.dst v') w'):wpList P ops Q (o :: rest) a w:=
 wpList_plain hgd fun _ hK=>by
  unfold Oper.wp execOp
  simp only [ho,resolve,invoke,builtin,Sem.run_bind,Sem.run_pure,Result.andThen_ok,List.map_toArray,List.map_cons,List.map_nil,hrun]
  exact hK _ _ h
def fl (i n:Nat):List Nat:=(List.range n).map (fun k=>1000 * i+k % 1000)
def tl (i n:Nat):List Nat:=(List.range n).map (fun k=>900000+1000 * i+k)
theorem fl_len (i n:Nat):(fl i n).length = n:=by simp [fl]
theorem tl_len (i n:Nat):(tl i n).length = n:=by simp [tl]
theorem tl_succ (i n:Nat):tl i (n+1) = tl i n ++ [900000+1000 * i+n]:=by simp [tl,List.range_succ]
def ApartV (v u:Value):Prop:=∀ k,v.ownBlock = some k→u.ownBlock≠some k
theorem ApartV.symm {v u:Value} (h:ApartV v u):ApartV u v:=fun k hu hv=>h k hv hu
theorem Own.lt {w:World} {base:Nat} {v:Value} {xs:List Nat} (h:Own w base v xs):∀ k,v.ownBlock = some k→base≤k∧k < w.heap.size:=by
 rintro k hk
 rcases h with ⟨rfl,_⟩|⟨g,cap,cur,rfl,hg,hh,_⟩
 ·cases hk
 ·simp only [Value.ownBlock] at hk
  injection hk with hk
  subst hk
  refine ⟨hg,?_⟩
  by_cases hlt:g < w.heap.size
  ·exact hlt
  ·rw [Array.getElem?_eq_none (by omega)] at hh; cases hh
theorem Own.type {w:World} {base:Nat} {v:Value} {xs:List Nat} (h:Own w base v xs):∀ k,v.ownBlock = some k→∃ cur,w.heap[k]? = some (.cells cur 95 (0,0)):=by
 rintro k hk
 rcases h with ⟨rfl,_⟩|⟨g,cap,cur,rfl,hg,hh,_⟩
 ·cases hk
 ·simp only [Value.ownBlock] at hk
  injection hk with hk
  subst hk
  exact ⟨cur,hh⟩
theorem Own.keep {w w':World} {base:Nat} {v:Value} {xs:List Nat} (h:Own w base v xs) (hk:∀ k,k < w.heap.size→v.ownBlock = some k→w'.heap[k]? = w.heap[k]?):Own w' base v xs:=by
 have hl:=h.lt
 rcases h with h|⟨g,cap,cur,rfl,hg,hh,r⟩
 ·exact Or.inl h
 ·exact Or.inr ⟨g,cap,cur,rfl,hg,by rw [hk g (hl g rfl).2 rfl]; exact hh,r⟩
theorem Own.len {w:World} {base:Nat} {a:Option Addr} {n c:Nat} {xs:List Nat} (h:Own w base (.slice a n c) xs):xs.length = n:=by
 rcases h with ⟨e,rfl⟩|⟨g,cap,cur,e,_⟩
 ·injection e with _ e2 _; subst e2; rfl
 ·injection e with _ e2 _; exact e2.symm
theorem Own.slice {w:World} {base:Nat} {v:Value} {xs:List Nat} (h:Own w base v xs):∃ a n c,v = .slice a n c:=by
 rcases h with ⟨e,rfl⟩|⟨g,cap,cur,e,_⟩
 ·exact ⟨_,_,_,e⟩
 ·exact ⟨_,_,_,e⟩
theorem Own.open {w:World} {base:Nat} {a:Option Addr} {n c:Nat} {xs:List Nat} (h:Own w base (.slice a n c) xs) (hn:0 < n) :
  ∃ b,a = some ⟨b,0,none⟩∧base≤b∧b < w.heap.size∧(∀ k,k < n→w.cell? ⟨b,k,none⟩ = some (.int .u32 ((xs[k]?.getD 0:Nat):Int)))∧∀ k,w.frozen? ⟨b,k,none⟩ = false:=by
 have hl:=h.len
 have hlt:=h.lt
 rcases h with ⟨e,rfl⟩|⟨g,cap,cur,e,hg,hh,h1,h2,h3,hc⟩
 ·simp at hl; omega
 ·injection e with e1 e2 e3
  subst e1
  exact ⟨g,rfl,hg,(hlt g rfl).2,fun k hk=>by rw [cell_of_row w g k _ _ _ hh]; exact hc k (by omega),fun k=>frozen_of_row w g k _ _ hh⟩
theorem Own.put {w:World} {base b n c k z:Nat} {xs:List Nat} (h:Own w base (.slice (some ⟨b,0,none⟩) n c) xs) (hk:k < n):Own (w.setCell ⟨b,k,none⟩ (.int .u32 (z:Int))) base (.slice (some ⟨b,0,none⟩) n c) (xs.set k z):=by
 have hl:=h.len
 rcases h with ⟨e,rfl⟩|⟨g,cap,cur,e,hg,hh,h1,h2,h3,hc⟩
 ·cases e
 ·injection e with e1 e2 e3
  injection e1 with e1
  injection e1 with e1
  subst e1 e3
  refine Or.inr ⟨b,c,_,by rw [List.length_set,e2],hg,heap_setCell_same w b k _ _ _ hh,by rw [List.length_set]; exact h1,by rw [Array.size_setIfInBounds]; exact h2,h3,fun j hj=>?_⟩
  rw [List.length_set] at hj
  by_cases hjk:j = k
  ·subst hjk
   rw [Array.getElem?_setIfInBounds_self_of_lt (by omega),List.getElem?_set_self hj]
   rfl
  ·rw [Array.getElem?_setIfInBounds_ne (by omega),List.getElem?_set_ne (by omega)]
   exact hc j hj
structure Sts (W:World) (base N g:Nat) (A:Nat→Option Addr) (L C:Nat→Nat) (X:Nat→List Nat):Prop where
 row:∃ cur,W.heap[g]? = some (.cells cur 60 (0,0))∧∀ i,i < N→cur[i]? = some (.slice (A i) (L i) (C i))
 own:∀ i,i < N→Own W base (.slice (A i) (L i) (C i)) (X i)
 ap:∀ i j,i < N→j < N→i≠j→ApartV (.slice (A i) (L i) (C i)) (.slice (A j) (L j) (C j))
theorem Sts.cell {W:World} {base N g:Nat} {A:Nat→Option Addr} {L C:Nat→Nat} {X:Nat→List Nat} (h:Sts W base N g A L C X) (i:Nat) (hi:i < N):W.cell? ⟨g,i,none⟩ = some (.slice (A i) (L i) (C i)):=by
 obtain ⟨cur,hh,hc⟩:=h.row
 rw [cell_of_row W g i _ _ _ hh]; exact hc i hi
theorem Sts.keep {W W':World} {base N g:Nat} {A:Nat→Option Addr} {L C:Nat→Nat} {X:Nat→List Nat} (h:Sts W base N g A L C X) (hg:W'.heap[g]? = W.heap[g]?) (ho:∀ i,i < N→Own W' base (.slice (A i) (L i) (C i)) (X i)):Sts W' base N g A L C X:=by
 obtain ⟨cur,hh,hc⟩:=h.row
 exact ⟨⟨cur,by rw [hg]; exact hh,hc⟩,ho,h.ap⟩
theorem Sts.below {W W':World} {base N g:Nat} {A:Nat→Option Addr} {L C:Nat→Nat} {X:Nat→List Nat} (h:Sts W base N g A L C X) (hb:Below W.heap.size W W'):Sts W' base N g A L C X:=by
 have hg:g < W.heap.size:=by
  obtain ⟨cur,hh,_⟩:=h.row
  by_cases hlt:g < W.heap.size
  ·exact hlt
  ·rw [Array.getElem?_eq_none (by omega)] at hh; cases hh
 exact h.keep (hb.block g hg) (fun i hi=>(h.own i hi).kept hb)
theorem Sts.put {W:World} {base N g i b k z:Nat} {A:Nat→Option Addr} {L C:Nat→Nat} {X:Nat→List Nat} (h:Sts W base N g A L C X) (hi:i < N) (hb:A i = some ⟨b,0,none⟩) (hk:k < L i) :
  Sts (W.setCell ⟨b,k,none⟩ (.int .u32 (z:Int))) base N g A L C (fun j=>if j = i then (X i).set k z else X j):=by
 have ho:=h.own i hi
 have hob:(Value.slice (A i) (L i) (C i)).ownBlock = some b:=by rw [hb]; rfl
 obtain ⟨cu,hcu⟩:=ho.type b hob
 obtain ⟨cur,hh,hc⟩:=h.row
 have hgb:g≠b:=fun e=>by
  subst e; rw [hh] at hcu; injection hcu with hcu; injection hcu with _ hcu; exact absurd hcu (by decide)
 refine ⟨⟨cur,by rw [heap_setCell_other W _ g _ hgb]; exact hh,hc⟩,fun j hj=>?_,h.ap⟩
 by_cases hji:j = i
 ·subst hji
  rw [if_pos rfl]
  rw [hb] at ho ⊢
  exact ho.put hk
 ·rw [if_neg hji]
  refine (h.own j hj).keep (fun q _ hq=>heap_setCell_other W _ q _ (fun e=>?_))
  subst e
  exact h.ap i j hi hj (by omega) _ hob hq
structure Gst (W:World) (base N g:Nat) (A:Nat→Option Addr) (L C:Nat→Nat) (i:Nat) (G:Nat→Value) (vgr:Value):Prop where
 sts:Sts W base N g A L C (fun j=>fl j (L j))
 own:∀ j,j < i→Own W base (G j) (fl j (L j) ++ tl j 40)
 apG:∀ j k,j < i→k < i→j≠k→ApartV (G j) (G k)
 apE:∀ j k,j < i→k < N→j≠k→ApartV (G j) (.slice (A k) (L k) (C k))
 row:W.ownsRow base 58 1 vgr i ((List.range i).map G)
structure Gst1 (W:World) (base N g:Nat) (A:Nat→Option Addr) (L C:Nat→Nat) (i:Nat) (G:Nat→Value) (vgr:Value) (k:Nat) (v:Value):Prop where
 gst:Gst W base N g A L C i G vgr
 own:Own W base v (fl i (L i) ++ tl i k)
 apG:∀ j,j < i→ApartV v (G j)
 apE:∀ j,j < N→j≠i→ApartV v (.slice (A j) (L j) (C j))
theorem row_type {w:World} {base n k:Nat} {t:TypeId} {v:Value} {xs:List Value} {cur:Array Value} {t':TypeId} (h:w.ownsRow base t 1 v n xs) (hk:v.ownBlock = some k) (hb:w.heap[k]? = some (.cells cur t' (0,0))) (ht:t'≠t):False:=by
 obtain ⟨h1,h2|⟨g,cap,cur',e,hg,hh,r⟩⟩:=h
 ·rw [h2.1] at hk; cases hk
 ·rw [e] at hk
  simp only [Value.ownBlock] at hk
  injection hk with hk
  subst hk
  rw [hh] at hb
  injection hb with hb
  injection hb with _ hb
  exact ht hb.symm
theorem Gst1.step {W:World} {base N g i k:Nat} {A:Nat→Option Addr} {L C:Nat→Nat} {G:Nat→Value} {vgr:Value} {a:Option Addr} {m c:Nat} (h:Gst1 W base N g A L C i G vgr k (.slice a m c)) (hi:i < N) (hb:base≤W.heap.size) (hm:m≤35184372088831) :
  ∃ a' m' c' W',(Builtin.append_ #[58,58] 58 #[.slice a m c,.slice (some ⟨W.heap.size,0,none⟩) 1 1]).run Try.prog (W.alloc (.cells #[.int .u32 ((900000+1000 * i+k:Nat):Int)] 95)) = .ok (.slice a' m' c') W' ∧
   Gst1 W' base N g A L C i G vgr (k+1) (.slice a' m' c')∧Below base W W':=by
 obtain ⟨v',W',hr,ho,hap,hpre⟩:=append_own1 W base m c (900000+1000 * i+k) a _ h.own hb hm
 obtain ⟨a',m',c',rfl⟩:=ho.slice
 have hvl:=h.own.lt
 have hfar:∀ u ys,Own W base u ys→ApartV (.slice a m c) u→Own W' base u ys:=fun u ys hu hau=>hu.keep (fun q hq hqu=>hap.block q hq (fun e=>hau q e.symm hqu))
 have hE:∀ j,j < N→Own W' base (.slice (A j) (L j) (C j)) (fl j (L j)):=fun j hj=>by
  by_cases hji:j = i
  ·subst hji
   have hu:=h.gst.sts.own j hj
   by_cases hs:ApartV (.slice a m c) (.slice (A j) (L j) (C j))
   ·exact hfar _ _ hu hs
   ·have:a = A j∧L j≤m:=by
     have hlm:=h.own.len
     rw [List.length_append,fl_len,tl_len] at hlm
     refine ⟨?_,by omega⟩
     have h1:=h.own
     have h2:=hu
     rcases h1 with ⟨e,_⟩|⟨g1,_,_,e,_⟩
     ·exact absurd (fun q hq=>by rw [e] at hq; cases hq) hs
     ·rcases h2 with ⟨e2,_⟩|⟨g2,_,_,e2,_⟩
      ·exact absurd (fun q hq hq2=>by rw [e2] at hq2; cases hq2) hs
      ·have e:=(Value.slice.inj e).1
       have e2:=(Value.slice.inj e2).1
       by_cases h12:g1 = g2
       ·rw [e,e2,h12]
       ·exact absurd (fun q hq hq2=>by
         rw [e] at hq; rw [e2] at hq2
         simp only [Value.ownBlock] at hq hq2
         injection hq with hq; injection hq2 with hq2; omega) hs
    rw [this.1] at hpre
    exact hpre _ _ _ this.2 hu
  ·exact hfar _ _ (h.gst.sts.own j hj) (h.apE j hj hji)
 have hnew:∀ u ys,Own W base u ys→ApartV (.slice a m c) u→ApartV (.slice a' m' c') u:=fun u ys hu hau q hq hqu=>by
  rcases hap.own with e|⟨g3,e,h3⟩
  ·rw [e] at hq; exact hau q hq hqu
  ·rw [e] at hq; injection hq with hq; have:=hu.lt q hqu; omega
 have hgv:some g≠(Value.slice a m c).ownBlock:=fun e=>by
  obtain ⟨cu,hcu⟩:=h.own.type g e.symm
  obtain ⟨cur,hh,_⟩:=h.gst.sts.row
  rw [hh] at hcu; injection hcu with hcu; injection hcu with _ hcu; exact absurd hcu (by decide)
 have hgl:g < W.heap.size:=by
  obtain ⟨cur,hh,_⟩:=h.gst.sts.row
  by_cases hlt:g < W.heap.size
  ·exact hlt
  ·rw [Array.getElem?_eq_none (by omega)] at hh; cases hh
 have hrow:W'.ownsRow base 58 1 vgr i ((List.range i).map G):=by
  have hr0:=h.gst.row
  have hr1:=hr0
  obtain ⟨h1,h2|⟨q,cap,cur',e,hq,hh,r⟩⟩:=hr0
  ·exact ⟨h1,Or.inl h2⟩
  ·have hlt:q < W.heap.size:=by
    by_cases hlt:q < W.heap.size
    ·exact hlt
    ·rw [Array.getElem?_eq_none (by omega)] at hh; cases hh
   refine ⟨h1,Or.inr ⟨q,cap,cur',e,hq,?_,r⟩⟩
   rw [hap.block q hlt ?_]; exact hh
   intro e2
   obtain ⟨cu,hcu⟩:=h.own.type q e2.symm
   rw [hh] at hcu; injection hcu with hcu; injection hcu with _ hcu; exact absurd hcu (by decide)
 refine ⟨a',m',c',W',hr,⟨⟨h.gst.sts.keep (hap.block g hgl hgv) hE,fun j hj=>hfar _ _ (h.gst.own j hj) (h.apG j hj),h.gst.apG,h.gst.apE,hrow⟩,by rw [tl_succ,← List.append_assoc]; exact ho,fun j hj=>hnew _ _ (h.gst.own j hj) (h.apG j hj),fun j hj hji=>hnew _ _ (h.gst.sts.own j hj) (h.apE j hj hji)⟩,?_⟩
 exact ⟨hap.os,hap.tape,hap.output,hap.size,fun q hq=>hap.block q (by omega) (fun e=>by have:=hvl q e.symm; omega)⟩
def Rd (W:World) (N g q:Nat) (A:Nat→Option Addr) (L C:Nat→Nat):Prop:=∀ i,i < N →
  ∃ b cb,W.cell? ⟨q,i,none⟩ = some (.slice (some ⟨b,0,none⟩) (L i+40) cb) ∧
   (∀ k,k < L i→W.cell? ⟨b,k,none⟩ = some (.int .u32 ((1000 * i+k % 1000:Nat):Int)))∧(∀ k,k < 40→W.cell? ⟨b,L i+k,none⟩ = some (.int .u32 ((900000+1000 * i+k:Nat):Int))) ∧
   W.cell? ⟨g,i,none⟩ = some (.slice (A i) (L i) (C i))∧(0 < L i→∃ d,A i = some ⟨d,0,none⟩∧∀ k,k < L i→W.cell? ⟨d,k,none⟩ = some (.int .u32 ((1000 * i+k % 1000:Nat):Int)))
theorem Rd.drewN {W:World} {N g q:Nat} {A:Nat→Option Addr} {L C:Nat→Nat} (h:Rd W N g q A L C) (k:Nat):Rd (W.drewN k) N g q A L C:=h
def TrimTo (w:World) (base:Nat) (zs:List Nat) (e:Ending) (w':World):Prop:=
 w = w'∧∃ a n c ys,e = .returned (.slice a n c)∧n≤zs.length∧ys.length = n∧Own w base (.slice a n c) ys∧Pl.Wf ys∧Pl.Norm ys∧Pl.val ys = Pl.val zs
theorem rtrim_own (base:Nat) (v:Value) (zs:List Nat) (w:World) (h:Own w base v zs) (hw:Pl.Wf zs):Calls Try.prog 108 #[v] w (TrimTo w base zs):=by
 have h':=h
 rcases h with ⟨rfl,rfl⟩|⟨g,cap,cur,rfl,hg,hh,h1,h2,h3,hc⟩
 ·refine (rtrim_empty none 0 w).mono ?_
  rintro e w' ⟨rfl,rfl⟩
  exact ⟨rfl,none,0,0,[],rfl,Nat.le_refl _,rfl,Or.inl ⟨rfl,rfl⟩,Pl.wf_nil,Pl.norm_nil,rfl⟩
 ·refine (rtrim_at g 0 zs.length cap zs w rfl h1 h3 (fun j hj=>by rw [Nat.zero_add,cell_of_row w g j _ _ _ hh]; exact hc j hj)).mono ?_
  rintro e w' ⟨rfl,n,hn,h0,hl,rfl⟩
  have hlen:(zs.take n).length = n:=by rw [List.length_take]; omega
  refine ⟨rfl,_,n,cap,zs.take n,rfl,hn,hlen,Or.inr ⟨g,cap,cur,by rw [hlen],hg,hh,by omega,h2,h3,fun j hj=>?_⟩,Pl.wf_take hw n,Pl.norm_of ?_,Pl.take_of_zeros zs n hn h0⟩
  ·rw [hlen] at hj
   rw [hc j (by omega),List.getElem?_take,if_pos hj]
  ·rw [hlen]
   rcases hl with hl|hl
   ·exact Or.inl hl
   ·by_cases hn0:n = 0
    ·exact Or.inl hn0
    ·right
     rw [List.getElem?_take,if_pos (by omega)]
     exact hl
theorem plus_step {o B c p q x y s:Nat} (h:o+B * c = p+q) (hs:s = x+y+c):(o+B * (s % 4294967296))+B * 4294967296 * (s / 4294967296) = (p+B * x)+(q+B * y):=by
 have e:s = 4294967296 * (s / 4294967296)+s % 4294967296:=(Nat.div_add_mod _ _).symm
 have e1:B * s = B * 4294967296 * (s / 4294967296)+B * (s % 4294967296):=by
  conv=>lhs; rw [e]
  rw [Nat.mul_add,Nat.mul_assoc]
 have e2:B * s = B * x+B * y+B * c:=by rw [hs,Nat.mul_add,Nat.mul_add]
 omega
def PlusTo (base M V:Nat) (e:Ending) (w':World):Prop:=
 ∃ a n c zs,e = .returned (.slice a n c)∧n≤M+1∧zs.length = n∧Own w' base (.slice a n c) zs∧Pl.Wf zs∧Pl.Norm zs∧Pl.val zs = V
theorem plus_norm {zs xs ys:List Nat} {i n n' M:Nat} (hl:zs.length = i) (hxl:xs.length = n) (hyl:ys.length = n') (hi:n≤i) (hi':n'≤i) (hM:n = M∨n' = M) (hz:Pl.Wf zs) (hN:Pl.Norm xs) (hN':Pl.Norm ys) (hv:Pl.val zs = Pl.val xs+Pl.val ys)
  (h:i≤M∨zs[M]?.getD 0≠0) (h1:i≤M+1):Pl.Norm zs:=by
 apply Pl.norm_of
 by_cases h0:zs.length = 0
 ·exact Or.inl h0
 ·right
  by_cases hiM:i≤M
  ·intro e
   have e2:Pl.val zs = Pl.val (zs.take (i - 1)):=by
    rw [Pl.val_split zs (i - 1) (by omega),Pl.drop_cons zs (i - 1) (by omega),← hl,e,List.drop_eq_nil_of_le (by omega)]
    simp [Pl.val]
   have h2:=Pl.val_lt (Pl.wf_take hz (i - 1))
   rw [List.length_take,Nat.min_eq_left (by omega)] at h2
   rcases hM with hM|hM
   ·have h3:=Pl.norm_lower hN (by omega)
    rw [hxl,show n - 1 = i - 1 by omega] at h3
    omega
   ·have h3:=Pl.norm_lower hN' (by omega)
    rw [hyl,show n' - 1 = i - 1 by omega] at h3
    omega
  ·rcases h with h|h
   ·omega
   ·rw [hl,show i - 1 = M by omega]; exact h
theorem rplus_list (a a':Option Addr) (n n' cap cap' M:Nat) (xs ys:List Nat) (w:World) (hn:xs.length = n) (hn':ys.length = n') (hl:Lim w a xs) (hl':Lim w a' ys) (hw:Pl.Wf xs) (hw':Pl.Wf ys) (hN:Pl.Norm xs) (hN':Pl.Norm ys) (hb:n≤M) (hb':n'≤M) (hM:M≤40000) (hM2:Hid (n = M∨n' = M)) :
  Calls Try.prog 82 #[.slice a n cap,.slice a' n' cap'] w fun e w'=>PlusTo w.heap.size M (Pl.val xs+Pl.val ys) e w'∧Below w.heap.size w w':=by
 have HLX:=hide (fun (i:Nat) (W:World) (h:Lim W a xs) (hi:i < 9223372036854775808)=>rlimb_any a n cap i xs W hn h hw hi)
 have HLY:=hide (fun (i:Nat) (W:World) (h:Lim W a' ys) (hi:i < 9223372036854775808)=>rlimb_any a' n' cap' i ys W hn' h hw' hi)
 have HL:=hide hl
 have HL':=hide hl'
 have HN:=hide hn
 have HN':=hide hn'
 clear hl hn hl' hn'
 go_enter Try.func82,Try.ntmps82
 go_wp2
 go_loopw [5,6,7] (fun s3 s4 s5 wr=>∃ (i c:Nat) (zs:List Nat),i≤M+1∧s5 = .int .i64 (i:Int)∧s4 = .int .u64 (c:Int)∧c≤1∧(i = M+1→c = 0)∧Hid (Own wr w.heap.size s3 zs∧zs.length = i∧Pl.Wf zs∧Pl.val zs+4294967296 ^ i * c = Pl.val (xs.take i)+Pl.val (ys.take i)∧(i≤M∨zs[M]?.getD 0≠0)∧Below w.heap.size w wr)) (fun _ _ s5 _=>M+1 - (intOf s5).toNat)
 case atStart=>exact ⟨0,0,[],Nat.zero_le _,rfl,rfl,by omega,fun _=>rfl,hide ⟨Or.inl ⟨rfl,rfl⟩,rfl,Pl.wf_nil,by simp [Pl.val],Or.inl (Nat.zero_le _),gr_refl _⟩⟩
 case round=>
  obtain ⟨i,c,zs,hi,rfl,rfl,hc,hic,HS⟩:=hrel
  have hM2':=unhide hM2
  by_cases hgo:i < M∨c = 1
  ·have hiM:i≤M:=by
    by_cases h:i≤M
    ·exact h
    ·have:=hic (by omega); omega
   obtain ⟨h1,h2,h3,h4,h6,h5⟩:=unhide HS
   obtain ⟨va,vn,vc,rfl⟩:=h1.slice
   have hvn:=h1.len
   obtain ⟨x,hxx⟩:∃ x,x = xs[i]?.getD 0:=⟨_,rfl⟩
   obtain ⟨y,hyy⟩:∃ y,y = ys[i]?.getD 0:=⟨_,rfl⟩
   have hx1:x < 4294967296:=by rw [hxx]; exact Pl.wf_at hw _
   have hy1:y < 4294967296:=by rw [hyy]; exact Pl.wf_at hw' _
   have L1:=unhide HLX i wr ((unhide HL).below h5) (by omega)
   have L2:=unhide HLY i wr ((unhide HL').below h5) (by omega)
   rw [← hxx] at L1
   rw [← hyy] at L2
   have HL1:=hide L1
   have HL2:=hide L2
   obtain ⟨s,hs⟩:∃ s,s = x+y+c:=⟨_,rfl⟩
   have hs1:s < 18446744073709551616:=by omega
   obtain ⟨v',W',hrun,hO,hap,_⟩:=append_own1 wr w.heap.size vn vc (s % 4294967296) va zs h1 h5.size (by omega)
   have hval:Pl.val (zs ++ [s % 4294967296])+4294967296 ^ (i+1) * (s / 4294967296) = Pl.val (xs.take (i+1))+Pl.val (ys.take (i+1)):=by
    rw [Pl.val_append,Pl.val_one,h2,Nat.pow_succ,Pl.val_take_any xs i,Pl.val_take_any ys i,← hxx,← hyy]
    exact plus_step h4 hs
   have hB':Below w.heap.size w W':=h5.trans ⟨hap.os,hap.tape,hap.output,hap.size,fun q hq=>hap.block q (by have:=h5.size; omega) (fun e=>by have:=h1.lt q e.symm; omega)⟩
   have hlast:i+1≤M∨(zs ++ [s % 4294967296])[M]?.getD 0≠0:=by
    by_cases hh:i+1≤M
    ·exact Or.inl hh
    ·right
     have hiM2:i = M:=by omega
     have hxn:=unhide HN
     have hyn:=unhide HN'
     have hx0:x = 0:=by rw [hxx,List.getElem?_eq_none (by omega)]; rfl
     have hy0:y = 0:=by rw [hyy,List.getElem?_eq_none (by omega)]; rfl
     rw [List.getElem?_append_right (by omega),show M - zs.length = 0 by omega]
     simp
     omega
   have hcar:i+1 = M+1→s / 4294967296 = 0:=fun hh=>by
    have hxn:=unhide HN
    have hyn:=unhide HN'
    have hx0:x = 0:=by rw [hxx,List.getElem?_eq_none (by omega)]; rfl
    have hy0:y = 0:=by rw [hyy,List.getElem?_eq_none (by omega)]; rfl
    omega
   have hs2:s / 4294967296≤1:=by omega
   have hsi:(x:Int)+(y:Int)+(c:Int) = (s:Int):=by omega
   have HS':=hide (show Own W' w.heap.size v' (zs ++ [s % 4294967296])∧(zs ++ [s % 4294967296]).length = i+1∧Pl.Wf (zs ++ [s % 4294967296])∧_∧_∧Below w.heap.size w W' from ⟨hO,by simp [h2],Pl.wf_append h3 (Pl.wf_one (Nat.mod_lt _ (by decide))),hval,hlast,hB'⟩)
   have e2:(s:Int) % 4294967296 = ((s % 4294967296:Nat):Int):=by omega
   rw [← e2] at hrun
   have HSI:=hide hsi
   have HRUN:=hide hrun
   have HCAR:=hide hcar
   have hcase:i < n∨(n≤i∧i < n')∨(n≤i∧n'≤i∧0 < c):=by omega
   clear h1 h2 h3 h4 h5 h6 hxx hyy L1 L2 hO hap hval hB' hlast hcar hs HS hrun hvn e2 hgo hic hM2' hsi
   rcases hcase with hA|⟨hA,hB⟩|⟨hA,hB,hC⟩
   all_goals (
    go_wp2_with fail
    refine (unhide HL1).mono ?_
    rintro e w1 ⟨rfl,rfl⟩
    go_wp2_with fail
    refine (unhide HL2).mono ?_
    rintro e w1 ⟨rfl,rfl⟩
    go_wp2_with (at_builtin; rw [unhide HSI]; refine wpList_append_run rfl (.tmp 34) (.tmp 37) 58 rfl (unhide HRUN) ?_)
    go_roundw
    case rel=>exact ⟨i+1,s / 4294967296,zs ++ [s % 4294967296],by omega,by go_num,by go_num,hs2,unhide HCAR,HS'⟩
    case measure=>simp [intOf]; omega)
  ·obtain ⟨h1,h2,h3,h4,h6,h5⟩:=unhide HS
   obtain ⟨va,vn,vc,rfl⟩:=h1.slice
   have hvn:=h1.len
   obtain rfl:c = 0:=by omega
   have hxn:=unhide HN
   have hyn:=unhide HN'
   have hA:n≤i:=by omega
   have hB:n'≤i:=by omega
   rw [List.take_of_length_le (by omega),List.take_of_length_le (by omega),Nat.mul_zero,Nat.add_zero] at h4
   have hno:=plus_norm h2 hxn hyn hA hB hM2' h3 hN hN' h4 h6 hi
   have HP:=hide (show PlusTo w.heap.size M (Pl.val xs+Pl.val ys) (.returned (.slice va vn vc)) wr from ⟨va,vn,vc,zs,rfl,by omega,by omega,h1,h3,hno,h4⟩)
   have HB:=hide h5
   clear h1 h2 h3 h4 h5 h6 hno hxn hyn hM2' HS hic hgo hvn
   go_wp2
   go_ret
   exact ⟨unhide HP,unhide HB⟩
end Go.Proofs.Ytpaoacehbomdmaa
