/- Of what PowerTensRow stands on: StRows RefShift RefPlus. -/
import Derived.Test.YteblliofeaahmaaDoorPam
import Derived.Test.YteblliofeaahmaaDoorPan
import Derived.OwnWalk
import Derived.Test.YteblliofeaahmaaDoorPag
import Derived.Test.YteblliofeaahmaaDoorPae
namespace Go.Proofs.YteblliofeaahmaaDoor
open Go.RowKit
set_option maxHeartbeats 1000000
set_option maxRecDepth 20000
theorem wpList_append_run {P:Program} {w w':World} {ops:Array Oper} {rest:List Oper} {o:Oper} {a:Act} {Q:Exit→Act→World→Prop} {v':Value} (hgd:o.guard = none) (s x:Operand) (t:TypeId)
  (ho:o.op = .call { callee:=.builtin .append,args:=#[s,x],argTypes:=#[t,t] }) (hrun:(Builtin.append_ #[t,t] o.type #[a.eval s,a.eval x]).run P w = .ok v' w')
  (h:wpList P ops Q rest (a.put o.dst v') w'):wpList P ops Q (o :: rest) a w:=
 wpList_plain hgd fun _ hK=>by
  unfold Oper.wp execOp
  simp only [ho,resolve,invoke,builtin,Sem.run_bind,Sem.run_pure,Result.andThen_ok,List.map_toArray,List.map_cons,List.map_nil,hrun]
  exact hK _ _ h
def fl (i n:Nat):List Nat:=(List.range n).map (fun k=>1000 * i+k % 1000)
def tl (i n:Nat):List Nat:=(List.range n).map (fun k=>900000+1000 * i+k)
theorem fl_len (i n:Nat):(fl i n).length = n:=by simp [fl]
theorem tl_len (i n:Nat):(tl i n).length = n:=by simp [tl]
theorem tl_succ (i n:Nat):tl i (n+1) = tl i n ++ [900000+1000 * i+n]:=by simp [tl,List.range_succ]
def ApartV (v u:Value):Prop:=∀ k,v.ownBlock = some k→u.ownBlock≠some k
theorem ApartV.symm {v u:Value} (h:ApartV v u):ApartV u v:=fun k hu hv=>h k hv hu
theorem Own.lt {w:World} {base:Nat} {v:Value} {xs:List Nat} (h:Own w base v xs):∀ k,v.ownBlock = some k→base≤k∧k < w.heap.size:=by
 rintro k hk
 rcases h with ⟨rfl,_⟩|⟨g,cap,cur,rfl,hg,hh,_⟩
 ·cases hk
 ·simp only [Value.ownBlock] at hk
  injection hk with hk
  subst hk
  refine ⟨hg,?_⟩
  by_cases hlt:g < w.heap.size
  ·exact hlt
  ·rw [Array.getElem?_eq_none (by omega)] at hh; cases hh
theorem Own.type {w:World} {base:Nat} {v:Value} {xs:List Nat} (h:Own w base v xs):∀ k,v.ownBlock = some k→∃ cur,w.heap[k]? = some (.cells cur 42 (0,0)):=by
 rintro k hk
 rcases h with ⟨rfl,_⟩|⟨g,cap,cur,rfl,hg,hh,_⟩
 ·cases hk
 ·simp only [Value.ownBlock] at hk
  injection hk with hk
  subst hk
  exact ⟨cur,hh⟩
theorem Own.keep {w w':World} {base:Nat} {v:Value} {xs:List Nat} (h:Own w base v xs) (hk:∀ k,k < w.heap.size→v.ownBlock = some k→w'.heap[k]? = w.heap[k]?):Own w' base v xs:=by
 have hl:=h.lt
 rcases h with h|⟨g,cap,cur,rfl,hg,hh,r⟩
 ·exact Or.inl h
 ·exact Or.inr ⟨g,cap,cur,rfl,hg,by rw [hk g (hl g rfl).2 rfl]; exact hh,r⟩
theorem Own.len {w:World} {base:Nat} {a:Option Addr} {n c:Nat} {xs:List Nat} (h:Own w base (.slice a n c) xs):xs.length = n:=by
 rcases h with ⟨e,rfl⟩|⟨g,cap,cur,e,_⟩
 ·injection e with _ e2 _; subst e2; rfl
 ·injection e with _ e2 _; exact e2.symm
theorem Own.room {w:World} {base:Nat} {a:Option Addr} {n c:Nat} {xs:List Nat} (h:Own w base (.slice a n c) xs):n≤c∧c≤9223372036854775807:=by
 rcases h with ⟨e,rfl⟩|⟨g,cap,cur,e,_,_,h1,_,h3,_⟩
 ·injection e with _ e2 e3; omega
 ·injection e with _ e2 e3; omega
theorem Own.slice {w:World} {base:Nat} {v:Value} {xs:List Nat} (h:Own w base v xs):∃ a n c,v = .slice a n c:=by
 rcases h with ⟨e,rfl⟩|⟨g,cap,cur,e,_⟩
 ·exact ⟨_,_,_,e⟩
 ·exact ⟨_,_,_,e⟩
theorem Own.open {w:World} {base:Nat} {a:Option Addr} {n c:Nat} {xs:List Nat} (h:Own w base (.slice a n c) xs) (hn:0 < n) :
  ∃ b,a = some ⟨b,0,none⟩∧base≤b∧b < w.heap.size∧(∀ k,k < n→w.cell? ⟨b,k,none⟩ = some (.int .u32 ((xs[k]?.getD 0:Nat):Int)))∧∀ k,w.frozen? ⟨b,k,none⟩ = false:=by
 have hl:=h.len
 have hlt:=h.lt
 rcases h with ⟨e,rfl⟩|⟨g,cap,cur,e,hg,hh,h1,h2,h3,hc⟩
 ·simp at hl; omega
 ·injection e with e1 e2 e3
  subst e1
  exact ⟨g,rfl,hg,(hlt g rfl).2,fun k hk=>by rw [cell_of_row w g k _ _ _ hh]; exact hc k (by omega),fun k=>frozen_of_row w g k _ _ hh⟩
theorem Own.put {w:World} {base b n c k z:Nat} {xs:List Nat} (h:Own w base (.slice (some ⟨b,0,none⟩) n c) xs) (hk:k < n):Own (w.setCell ⟨b,k,none⟩ (.int .u32 (z:Int))) base (.slice (some ⟨b,0,none⟩) n c) (xs.set k z):=by
 have hl:=h.len
 rcases h with ⟨e,rfl⟩|⟨g,cap,cur,e,hg,hh,h1,h2,h3,hc⟩
 ·cases e
 ·injection e with e1 e2 e3
  injection e1 with e1
  injection e1 with e1
  subst e1 e3
  refine Or.inr ⟨b,c,_,by rw [List.length_set,e2],hg,heap_setCell_same w b k _ _ _ hh,by rw [List.length_set]; exact h1,by rw [Array.size_setIfInBounds]; exact h2,h3,fun j hj=>?_⟩
  rw [List.length_set] at hj
  by_cases hjk:j = k
  ·subst hjk
   rw [Array.getElem?_setIfInBounds_self_of_lt (by omega),List.getElem?_set_self hj]
   rfl
  ·rw [Array.getElem?_setIfInBounds_ne (by omega),List.getElem?_set_ne (by omega)]
   exact hc j hj
structure Sts (W:World) (base N g:Nat) (A:Nat→Option Addr) (L C:Nat→Nat) (X:Nat→List Nat):Prop where
 row:∃ cur,W.heap[g]? = some (.cells cur 65 (0,0))∧∀ i,i < N→cur[i]? = some (.slice (A i) (L i) (C i))
 own:∀ i,i < N→Own W base (.slice (A i) (L i) (C i)) (X i)
 ap:∀ i j,i < N→j < N→i≠j→ApartV (.slice (A i) (L i) (C i)) (.slice (A j) (L j) (C j))
theorem Sts.cell {W:World} {base N g:Nat} {A:Nat→Option Addr} {L C:Nat→Nat} {X:Nat→List Nat} (h:Sts W base N g A L C X) (i:Nat) (hi:i < N):W.cell? ⟨g,i,none⟩ = some (.slice (A i) (L i) (C i)):=by
 obtain ⟨cur,hh,hc⟩:=h.row
 rw [cell_of_row W g i _ _ _ hh]; exact hc i hi
theorem Sts.keep {W W':World} {base N g:Nat} {A:Nat→Option Addr} {L C:Nat→Nat} {X:Nat→List Nat} (h:Sts W base N g A L C X) (hg:W'.heap[g]? = W.heap[g]?) (ho:∀ i,i < N→Own W' base (.slice (A i) (L i) (C i)) (X i)):Sts W' base N g A L C X:=by
 obtain ⟨cur,hh,hc⟩:=h.row
 exact ⟨⟨cur,by rw [hg]; exact hh,hc⟩,ho,h.ap⟩
theorem Sts.below {W W':World} {base N g:Nat} {A:Nat→Option Addr} {L C:Nat→Nat} {X:Nat→List Nat} (h:Sts W base N g A L C X) (hb:Below W.heap.size W W'):Sts W' base N g A L C X:=by
 have hg:g < W.heap.size:=by
  obtain ⟨cur,hh,_⟩:=h.row
  by_cases hlt:g < W.heap.size
  ·exact hlt
  ·rw [Array.getElem?_eq_none (by omega)] at hh; cases hh
 exact h.keep (hb.block g hg) (fun i hi=>(h.own i hi).kept hb)
theorem Sts.put {W:World} {base N g i b k z:Nat} {A:Nat→Option Addr} {L C:Nat→Nat} {X:Nat→List Nat} (h:Sts W base N g A L C X) (hi:i < N) (hb:A i = some ⟨b,0,none⟩) (hk:k < L i) :
  Sts (W.setCell ⟨b,k,none⟩ (.int .u32 (z:Int))) base N g A L C (fun j=>if j = i then (X i).set k z else X j):=by
 have ho:=h.own i hi
 have hob:(Value.slice (A i) (L i) (C i)).ownBlock = some b:=by rw [hb]; rfl
 obtain ⟨cu,hcu⟩:=ho.type b hob
 obtain ⟨cur,hh,hc⟩:=h.row
 have hgb:g≠b:=fun e=>by
  subst e; rw [hh] at hcu; injection hcu with hcu; injection hcu with _ hcu; exact absurd hcu (by decide)
 refine ⟨⟨cur,by rw [heap_setCell_other W _ g _ hgb]; exact hh,hc⟩,fun j hj=>?_,h.ap⟩
 by_cases hji:j = i
 ·subst hji
  rw [if_pos rfl]
  rw [hb] at ho ⊢
  exact ho.put hk
 ·rw [if_neg hji]
  refine (h.own j hj).keep (fun q _ hq=>heap_setCell_other W _ q _ (fun e=>?_))
  subst e
  exact h.ap i j hi hj (by omega) _ hob hq
structure Gst (W:World) (base N g:Nat) (A:Nat→Option Addr) (L C:Nat→Nat) (i:Nat) (G:Nat→Value) (vgr:Value):Prop where
 sts:Sts W base N g A L C (fun j=>fl j (L j))
 own:∀ j,j < i→Own W base (G j) (fl j (L j) ++ tl j 40)
 apG:∀ j k,j < i→k < i→j≠k→ApartV (G j) (G k)
 apE:∀ j k,j < i→k < N→j≠k→ApartV (G j) (.slice (A k) (L k) (C k))
 row:W.ownsRow base 63 1 vgr i ((List.range i).map G)
structure Gst1 (W:World) (base N g:Nat) (A:Nat→Option Addr) (L C:Nat→Nat) (i:Nat) (G:Nat→Value) (vgr:Value) (k:Nat) (v:Value):Prop where
 gst:Gst W base N g A L C i G vgr
 own:Own W base v (fl i (L i) ++ tl i k)
 apG:∀ j,j < i→ApartV v (G j)
 apE:∀ j,j < N→j≠i→ApartV v (.slice (A j) (L j) (C j))
theorem Gst1.step {W:World} {base N g i k:Nat} {A:Nat→Option Addr} {L C:Nat→Nat} {G:Nat→Value} {vgr:Value} {a:Option Addr} {m c:Nat} (h:Gst1 W base N g A L C i G vgr k (.slice a m c)) (hi:i < N) (hb:base≤W.heap.size) (hm:m≤35184372088831) :
  ∃ a' m' c' W',(Builtin.append_ #[63,63] 63 #[.slice a m c,.slice (some ⟨W.heap.size,0,none⟩) 1 1]).run Tryd.prog (W.alloc (.cells #[.int .u32 ((900000+1000 * i+k:Nat):Int)] 42)) = .ok (.slice a' m' c') W' ∧
   Gst1 W' base N g A L C i G vgr (k+1) (.slice a' m' c')∧Below base W W':=by
 obtain ⟨v',W',hr,ho,hap,hpre⟩:=append_own1 W base m c (900000+1000 * i+k) a _ h.own hb hm
 obtain ⟨a',m',c',rfl⟩:=ho.slice
 have hvl:=h.own.lt
 have hfar:∀ u ys,Own W base u ys→ApartV (.slice a m c) u→Own W' base u ys:=fun u ys hu hau=>hu.keep (fun q hq hqu=>hap.block q hq (fun e=>hau q e.symm hqu))
 have hE:∀ j,j < N→Own W' base (.slice (A j) (L j) (C j)) (fl j (L j)):=fun j hj=>by
  by_cases hji:j = i
  ·subst hji
   have hu:=h.gst.sts.own j hj
   by_cases hs:ApartV (.slice a m c) (.slice (A j) (L j) (C j))
   ·exact hfar _ _ hu hs
   ·have:a = A j∧L j≤m:=by
     have hlm:=h.own.len
     rw [List.length_append,fl_len,tl_len] at hlm
     refine ⟨?_,by omega⟩
     have h1:=h.own
     have h2:=hu
     rcases h1 with ⟨e,_⟩|⟨g1,_,_,e,_⟩
     ·exact absurd (fun q hq=>by rw [e] at hq; cases hq) hs
     ·rcases h2 with ⟨e2,_⟩|⟨g2,_,_,e2,_⟩
      ·exact absurd (fun q hq hq2=>by rw [e2] at hq2; cases hq2) hs
      ·have e:=(Value.slice.inj e).1
       have e2:=(Value.slice.inj e2).1
       by_cases h12:g1 = g2
       ·rw [e,e2,h12]
       ·exact absurd (fun q hq hq2=>by
         rw [e] at hq; rw [e2] at hq2
         simp only [Value.ownBlock] at hq hq2
         injection hq with hq; injection hq2 with hq2; omega) hs
    rw [this.1] at hpre
    exact hpre _ _ _ this.2 hu
  ·exact hfar _ _ (h.gst.sts.own j hj) (h.apE j hj hji)
 have hnew:∀ u ys,Own W base u ys→ApartV (.slice a m c) u→ApartV (.slice a' m' c') u:=fun u ys hu hau q hq hqu=>by
  rcases hap.own with e|⟨g3,e,h3⟩
  ·rw [e] at hq; exact hau q hq hqu
  ·rw [e] at hq; injection hq with hq; have:=hu.lt q hqu; omega
 have hgv:some g≠(Value.slice a m c).ownBlock:=fun e=>by
  obtain ⟨cu,hcu⟩:=h.own.type g e.symm
  obtain ⟨cur,hh,_⟩:=h.gst.sts.row
  rw [hh] at hcu; injection hcu with hcu; injection hcu with _ hcu; exact absurd hcu (by decide)
 have hgl:g < W.heap.size:=by
  obtain ⟨cur,hh,_⟩:=h.gst.sts.row
  by_cases hlt:g < W.heap.size
  ·exact hlt
  ·rw [Array.getElem?_eq_none (by omega)] at hh; cases hh
 have hrow:W'.ownsRow base 63 1 vgr i ((List.range i).map G):=by
  have hr0:=h.gst.row
  have hr1:=hr0
  obtain ⟨h1,h2|⟨q,cap,cur',e,hq,hh,r⟩⟩:=hr0
  ·exact ⟨h1,Or.inl h2⟩
  ·have hlt:q < W.heap.size:=by
    by_cases hlt:q < W.heap.size
    ·exact hlt
    ·rw [Array.getElem?_eq_none (by omega)] at hh; cases hh
   refine ⟨h1,Or.inr ⟨q,cap,cur',e,hq,?_,r⟩⟩
   rw [hap.block q hlt ?_]; exact hh
   intro e2
   obtain ⟨cu,hcu⟩:=h.own.type q e2.symm
   rw [hh] at hcu; injection hcu with hcu; injection hcu with _ hcu; exact absurd hcu (by decide)
 refine ⟨a',m',c',W',hr,⟨⟨h.gst.sts.keep (hap.block g hgl hgv) hE,fun j hj=>hfar _ _ (h.gst.own j hj) (h.apG j hj),h.gst.apG,h.gst.apE,hrow⟩,by rw [tl_succ,← List.append_assoc]; exact ho,fun j hj=>hnew _ _ (h.gst.own j hj) (h.apG j hj),fun j hj hji=>hnew _ _ (h.gst.sts.own j hj) (h.apE j hj hji)⟩,?_⟩
 exact ⟨hap.os,hap.tape,hap.output,hap.size,fun q hq=>hap.block q (by omega) (fun e=>by have:=hvl q e.symm; omega)⟩
def Rd (W:World) (N g q:Nat) (A:Nat→Option Addr) (L C:Nat→Nat):Prop:=∀ i,i < N →
  ∃ b cb,W.cell? ⟨q,i,none⟩ = some (.slice (some ⟨b,0,none⟩) (L i+40) cb) ∧
   (∀ k,k < L i→W.cell? ⟨b,k,none⟩ = some (.int .u32 ((1000 * i+k % 1000:Nat):Int)))∧(∀ k,k < 40→W.cell? ⟨b,L i+k,none⟩ = some (.int .u32 ((900000+1000 * i+k:Nat):Int))) ∧
   W.cell? ⟨g,i,none⟩ = some (.slice (A i) (L i) (C i))∧(0 < L i→∃ d,A i = some ⟨d,0,none⟩∧∀ k,k < L i→W.cell? ⟨d,k,none⟩ = some (.int .u32 ((1000 * i+k % 1000:Nat):Int)))
theorem Rd.drewN {W:World} {N g q:Nat} {A:Nat→Option Addr} {L C:Nat→Nat} (h:Rd W N g q A L C) (k:Nat):Rd (W.drewN k) N g q A L C:=h
def TrimTo (w:World) (base:Nat) (zs:List Nat) (e:Ending) (w':World):Prop:=
 w = w'∧∃ a n c ys,e = .returned (.slice a n c)∧n≤zs.length∧ys.length = n∧Own w base (.slice a n c) ys∧Pl.Wf ys∧Pl.Norm ys∧Pl.val ys = Pl.val zs
theorem rtrim_own (base:Nat) (v:Value) (zs:List Nat) (w:World) (h:Own w base v zs) (hw:Pl.Wf zs):Calls Tryd.prog 52 #[v] w (TrimTo w base zs):=by
 have h':=h
 rcases h with ⟨rfl,rfl⟩|⟨g,cap,cur,rfl,hg,hh,h1,h2,h3,hc⟩
 ·refine (rtrim_empty none 0 w).mono ?_
  rintro e w' ⟨rfl,rfl⟩
  exact ⟨rfl,none,0,0,[],rfl,Nat.le_refl _,rfl,Or.inl ⟨rfl,rfl⟩,Pl.wf_nil,Pl.norm_nil,rfl⟩
 ·refine (rtrim_at g 0 zs.length cap zs w rfl h1 h3 (fun j hj=>by rw [Nat.zero_add,cell_of_row w g j _ _ _ hh]; exact hc j hj)).mono ?_
  rintro e w' ⟨rfl,n,hn,h0,hl,rfl⟩
  have hlen:(zs.take n).length = n:=by rw [List.length_take]; omega
  refine ⟨rfl,_,n,cap,zs.take n,rfl,hn,hlen,Or.inr ⟨g,cap,cur,by rw [hlen],hg,hh,by omega,h2,h3,fun j hj=>?_⟩,Pl.wf_take hw n,Pl.norm_of ?_,Pl.take_of_zeros zs n hn h0⟩
  ·rw [hlen] at hj
   rw [hc j (by omega),List.getElem?_take,if_pos hj]
  ·rw [hlen]
   rcases hl with hl|hl
   ·exact Or.inl hl
   ·by_cases hn0:n = 0
    ·exact Or.inl hn0
    ·right
     rw [List.getElem?_take,if_pos (by omega)]
     exact hl
theorem or_limb2 (r x:Nat) (hr:r < 4294967296) (hx:x < 4294967296):Go.bits .or .u64 (x:Int) ((r:Int) * 4294967296) = ((r * 4294967296+x:Nat):Int):=by
 have h:=bits_or_u64_nat x (r * 4294967296) (by omega) (by omega)
 have e:x ||| r * 4294967296 = r * 4294967296+x:=by
  have:=Nat.two_pow_add_eq_or_of_lt (i:=32) (b:=x) (by omega) r
  rw [Nat.mul_comm r 4294967296,Nat.or_comm]; exact this.symm
 rw [e] at h
 rw [show ((r:Int) * 4294967296) = ((r * 4294967296:Nat):Int) by omega,h]
theorem val_drop {xs:List Nat} (hw:Pl.Wf xs) (wh:Nat):Pl.val (xs.drop wh) = Pl.val xs / 4294967296 ^ wh:=by
 by_cases h:wh≤xs.length
 ·rw [Pl.val_split xs wh h]
  have hlo:=Pl.val_lt (Pl.wf_take hw wh)
  rw [List.length_take,Nat.min_eq_left h] at hlo
  rw [Nat.add_comm,Nat.mul_add_div (Nat.lt_of_le_of_lt (Nat.zero_le _) hlo),Nat.div_eq_of_lt hlo,Nat.add_zero]
 ·rw [List.drop_eq_nil_of_le (by omega),Nat.div_eq_of_lt (Nat.lt_of_lt_of_le (Pl.val_lt hw) (Pl.pow_le (by omega)))]
  rfl
theorem rdown_list (a:Option Addr) (n cap wh pt k:Nat) (xs:List Nat) (w:World) (hn:xs.length = n) (hl:Lim w a xs) (hw:Pl.Wf xs) (hb:n≤16384) (hk:Hid (k = 32 * wh+pt)) (hpt:pt < 32) (hk2:k < 9223372036854775808) :
  Calls Tryd.prog 54 #[.slice a n cap,.int .i64 (k:Int)] w fun e w'=>(∃ a' l c,e = .returned (.slice a' l c)∧Mine w' w.heap.size a' l c (Pl.val xs / 2 ^ k))∧Below w.heap.size w w':=by
 have hq:(k:Int) / 32 = (wh:Int):=by have:=unhide hk; omega
 have hr:(k:Int) % 32 = (pt:Int):=by have:=unhide hk; omega
 have HP:Hid (k % 32 = pt):=by have:=unhide hk; exact hide (by omega)
 have hwh:wh < 288230376151711744:=by have:=unhide hk; omega
 have HLM:=hide (fun (i:Nat) (W:World) (h:Lim W a xs) (hi:i < 9223372036854775808)=>rlimb_any a n cap i xs W hn h hw hi)
 have HL:=hide hl
 have HN:=hide hn
 clear hl hn
 go_enter Tryd.func54,Tryd.ntmps54
 go_wp2
 clear hq hr
 go_loopw [5,6] (fun s5 s6 wr=>∃ (j:Nat) (zs:List Nat),(wh+j≤n∨j = 0)∧s6 = .int .i64 ((wh+j:Nat):Int)∧Hid (Own wr w.heap.size s5 zs∧zs.length = j∧Pl.Wf zs∧Pl.val zs+4294967296 ^ j * (Pl.val (xs.drop (wh+j)) / 2 ^ pt) = Pl.val (xs.drop wh) / 2 ^ pt∧Below w.heap.size w wr)) (fun _ s6 _=>n - (intOf s6).toNat)
 case atStart=>exact ⟨0,[],Or.inr rfl,by rw [Nat.add_zero],hide ⟨Or.inl ⟨rfl,rfl⟩,rfl,Pl.wf_nil,by simp [Pl.val],gr_refl _⟩⟩
 case round=>
  obtain ⟨j,zs,hj,rfl,HS⟩:=hrel
  have hnl:=unhide HN
  have hji:wh+j < 9223372036854775807:=by omega
  by_cases hin:wh+j < n
  ·obtain ⟨h1,h2,h3,h4,h5⟩:=unhide HS
   obtain ⟨va,vn,vc,rfl⟩:=h1.slice
   have hvn:=h1.len
   obtain ⟨x,hxx⟩:∃ x,x = xs[wh+j]?.getD 0:=⟨_,rfl⟩
   obtain ⟨y,hyy⟩:∃ y,y = xs[wh+j+1]?.getD 0:=⟨_,rfl⟩
   have hx1:x < 4294967296:=by rw [hxx]; exact Pl.wf_at hw _
   have hy1:y < 4294967296:=by rw [hyy]; exact Pl.wf_at hw _
   have L1:=unhide HLM (wh+j) wr ((unhide HL).below h5) (by omega)
   have L2:=unhide HLM (wh+j+1) wr ((unhide HL).below h5) (by omega)
   rw [← hxx] at L1
   rw [← hyy] at L2
   have HL1:=hide L1
   have HL2:=hide L2
   obtain ⟨z,hz⟩:∃ z,z = (y * 4294967296+x) / 2 ^ pt % 4294967296:=⟨_,rfl⟩
   have hz1:z < 4294967296:=by rw [hz]; exact Nat.mod_lt _ (by decide)
   obtain ⟨v',W',hrun,hO,hap,_⟩:=append_own1 wr w.heap.size vn vc z va zs h1 h5.size (by omega)
   have hval:Pl.val (zs ++ [z])+4294967296 ^ (j+1) * (Pl.val (xs.drop (wh+(j+1))) / 2 ^ pt) = Pl.val (xs.drop wh) / 2 ^ pt:=by
    rw [Pl.val_append,Pl.val_one,h2,Nat.pow_succ,Nat.mul_assoc,Nat.add_assoc,← Nat.mul_add,hz,← h4]
    have:=down_step (V:=Pl.val (xs.drop (wh+j+1))) (x:=x) (h:=y) (Nat.pow_pos (by decide)) (pow_split hpt) (by rw [hyy]; exact val_mod xs hw _) hx1
    rw [Nat.add_assoc wh j 1] at this
    rw [this,Pl.drop_cons xs (wh+j) (by omega),← hxx]
    simp only [Pl.val,Nat.add_assoc]
   have hB':Below w.heap.size w W':=h5.trans ⟨hap.os,hap.tape,hap.output,hap.size,fun q hq=>hap.block q (by have:=h5.size; omega) (fun e=>by have:=h1.lt q e.symm; omega)⟩
   have HS':=hide (show Own W' w.heap.size v' (zs ++ [z])∧(zs ++ [z]).length = j+1∧Pl.Wf (zs ++ [z])∧_∧Below w.heap.size w W' from ⟨hO,by simp [h2],Pl.wf_append h3 (Pl.wf_one hz1),hval,hB'⟩)
   have e1:(Go.bits .or .u64 (x:Int) ((y:Int) * 4294967296) / 2 ^ (k % 32)) % 4294967296 = (z:Int):=by
    rw [or_limb2 y x hy1 hx1,down_shr _ k pt (unhide HP),hz]
   have HE1:=hide e1
   have HRUN:=hide hrun
   clear h1 h2 h3 h4 h5 hxx hyy L1 L2 hO hap hval hB' e1 hz HS hrun hvn
   go_wp2_with fail
   refine (unhide HL1).mono ?_
   rintro e w1 ⟨rfl,rfl⟩
   go_wp2_with fail
   refine (unhide HL2).mono ?_
   rintro e w1 ⟨rfl,rfl⟩
   go_wp2_with (at_builtin; rw [unhide HE1]; refine wpList_append_run rfl (.tmp 29) (.tmp 32) 63 rfl (unhide HRUN) ?_)
   go_roundw
   case rel=>exact ⟨j+1,zs ++ [z],Or.inl (by omega),by go_num,HS'⟩
   case measure=>simp [intOf]; omega
  ·obtain ⟨h1,h2,h3,h4,h5⟩:=unhide HS
   have hd:xs.drop (wh+j) = []:=List.drop_eq_nil_of_le (by omega)
   rw [hd] at h4
   have hv:Pl.val zs = Pl.val xs / 2 ^ k:=by
    rw [unhide hk,Nat.pow_add,Nat.pow_mul,← Nat.div_div_eq_div_mul]
    rw [val_drop hw] at h4
    simpa [Pl.val] using h4
   have hjl:j≤16384:=by omega
   have HT:=hide (rtrim_own w.heap.size _ zs wr h1 h3)
   have HV:=hide hv
   have HJ:=hide h2
   have HB:=hide h5
   clear h1 h2 h3 h4 h5 hv hd HS hnl
   go_wp2_with fail
   refine (unhide HT).mono ?_
   rintro e w1 ⟨rfl,a',l,c,ys,rfl,t1,t2,t3,t4,t5,t6⟩
   have HM:=hide (show Mine wr w.heap.size a' l c (Pl.val xs / 2 ^ k) from ⟨ys,t2,t3,t4,t5,t6.trans (unhide HV),by have:=unhide HJ; omega⟩)
   clear t1 t2 t3 t4 t5 t6
   go_wp2
   go_ret
   exact ⟨⟨a',l,c,rfl,unhide HM⟩,unhide HB⟩
theorem or_shift {x c pt:Nat} (hx:x < 4294967296) (hc:c < 2 ^ pt) (h:pt < 32):Go.bits .or .u64 (((x * 2 ^ pt:Nat)):Int) (c:Int) = ((x * 2 ^ pt+c:Nat):Int):=by
 have h1:=mul_lt63 hx h
 have h2:=pow_lt32 h
 have h:=bits_or_u64_nat (x * 2 ^ pt) c (by omega) (by omega)
 have e:x * 2 ^ pt ||| c = x * 2 ^ pt+c:=by
  have:=Nat.two_pow_add_eq_or_of_lt (i:=pt) (b:=c) hc x
  rw [Nat.mul_comm x]; exact this.symm
 rw [h,e]
theorem shift_lt {x c pt:Nat} (hx:x < 4294967296) (hc:c < 2 ^ pt):(x * 2 ^ pt+c) / 4294967296 < 2 ^ pt:=by
 rw [Nat.div_lt_iff_lt_mul (by decide)]
 have:(x+1) * 2 ^ pt≤4294967296 * 2 ^ pt:=Nat.mul_le_mul_right _ hx
 rw [Nat.add_mul,Nat.one_mul] at this
 rw [Nat.mul_comm (2 ^ pt)]
 omega
theorem rup_step {o p c x B s P:Nat} (h:o+B * c = p * P) (hs:s = x * P+c):(o+B * (s % 4294967296))+B * 4294967296 * (s / 4294967296) = (p+B * x) * P:=by
 have e:s = 4294967296 * (s / 4294967296)+s % 4294967296:=(Nat.div_add_mod _ _).symm
 have e1:B * s = B * 4294967296 * (s / 4294967296)+B * (s % 4294967296):=by
  conv=>lhs; rw [e]
  rw [Nat.mul_add,Nat.mul_assoc]
 have e2:(p+B * x) * P = p * P+B * (x * P):=by rw [Nat.add_mul,Nat.mul_assoc]
 have e3:B * s = B * (x * P)+B * c:=by rw [hs,Nat.mul_add]
 rw [e2]
 omega
theorem rup_list (b off cap n wh pt k:Nat) (xs:List Nat) (w:World) (hn:Hid (xs.length = n)) (hn0:0 < n) (hlen:n≤16384) (hx:Pl.Wf xs) (hlt:b < w.heap.size) (hk:Hid (k = 32 * wh+pt)) (hpt:pt < 32) (hwh:wh≤16384)
  (hc:Hid (∀ j,j < n→w.cell? ⟨b,off+j,none⟩ = some (.int .u32 ((xs[j]?.getD 0:Nat):Int)))) :
  Calls Tryd.prog 56 #[.slice (some ⟨b,off,none⟩) n cap,.int .i64 (k:Int)] w fun e w'=>(∃ a' l c ys,e = .returned (.slice a' l c)∧ys.length = l∧Own w' w.heap.size (.slice a' l c) ys∧Pl.Wf ys∧Pl.Norm ys∧Pl.val ys = Pl.val xs * 2 ^ k)∧Below w.heap.size w w':=by
 have hmk:=make_limbs (wh:Int) wh rfl (by omega)
 have hq:(k:Int) / 32 = (wh:Int):=by have:=unhide hk; omega
 have HP:Hid (k % 32 = pt):=by have:=unhide hk; exact hide (by omega)
 have hk2:k < 9223372036854775808:=by have:=unhide hk; omega
 have HR0:Hid (Own (w.alloc (.cells (lc (List.replicate wh 0)) 42)) w.heap.size (.slice (some ⟨w.heap.size,0,none⟩) wh wh) (List.replicate wh 0)):=hide (by
  have:=(Row.made w (List.replicate wh 0)).own (Nat.le_refl _) wh wh (Nat.le_refl _) (by simp) (by simp; omega)
  simpa using this)
 have hnb:((n:Int) == 0) = false:=by simp; omega
 go_enter Tryd.func56,Tryd.ntmps56
 go_wp2
 clear hmk hq
 go_loopw [5,6,7] (fun s5 s6 s7 wr=>∃ (j c:Nat) (os:List Nat),j≤n∧s7 = .int .i64 (j:Int)∧s6 = .int .u64 (c:Int)∧c < 2 ^ pt∧Hid (Own wr w.heap.size s5 (List.replicate wh 0 ++ os)∧os.length = j∧Pl.Wf os∧Pl.val os+4294967296 ^ j * c = Pl.val (xs.take j) * 2 ^ pt∧Below w.heap.size w wr)) (fun _ _ s7 _=>n - (intOf s7).toNat)
 case atStart=>exact ⟨0,0,[],Nat.zero_le _,rfl,rfl,Nat.pow_pos (by decide),hide ⟨by rw [List.append_nil]; exact unhide HR0,rfl,Pl.wf_nil,by simp [Pl.val],gr_alloc _ _⟩⟩
 case round=>
  clear HR0
  obtain ⟨j,c,os,hj,rfl,rfl,hcl,HS⟩:=hrel
  have hp2:=pow_lt32 hpt
  by_cases hjn:j < n
  ·obtain ⟨h1,h2,h3,h4,h5⟩:=unhide HS
   obtain ⟨va,vn,vc,rfl⟩:=h1.slice
   have hvn:=h1.len
   rw [List.length_append,List.length_replicate,h2] at hvn
   obtain ⟨x,hxx⟩:∃ x,x = xs[j]?.getD 0:=⟨_,rfl⟩
   have hx1:x < 4294967296:=by rw [hxx]; exact Pl.wf_at hx j
   have hcx:wr.cell? ⟨b,off+j,none⟩ = some (.int .u32 (x:Int)):=by rw [hxx]; exact (h5.cell (by exact hlt)).trans (unhide hc j hjn)
   obtain ⟨s,hs⟩:∃ s,s = x * 2 ^ pt+c:=⟨_,rfl⟩
   have hs1:s < 18446744073709551616:=by have:=mul_lt63 hx1 hpt; omega
   obtain ⟨v',W',hrun,hO,hap,_⟩:=append_own1 wr w.heap.size vn vc (s % 4294967296) va _ h1 h5.size (by omega)
   have hval:Pl.val (os ++ [s % 4294967296])+4294967296 ^ (j+1) * (s / 4294967296) = Pl.val (xs.take (j+1)) * 2 ^ pt:=by
    rw [Pl.val_append,Pl.val_one,h2,Nat.pow_succ,Pl.val_take_any xs j,← hxx]
    exact rup_step h4 hs
   have hB':Below w.heap.size w W':=h5.trans ⟨hap.os,hap.tape,hap.output,hap.size,fun q hq=>hap.block q (by have:=h5.size; omega) (fun e=>by have:=h1.lt q e.symm; omega)⟩
   have HS':=hide (show Own W' w.heap.size v' (List.replicate wh 0 ++ (os ++ [s % 4294967296]))∧(os ++ [s % 4294967296]).length = j+1∧Pl.Wf (os ++ [s % 4294967296])∧_∧Below w.heap.size w W' from ⟨by rw [← List.append_assoc]; exact hO,by simp [h2],Pl.wf_append h3 (Pl.wf_one (Nat.mod_lt _ (by decide))),hval,hB'⟩)
   have e1:Go.bits .or .u64 (IntKind.u64.wrap ((x:Int) * 2 ^ (k % 32))) (c:Int) = (s:Int):=by
    rw [sh_wrap hx1 (unhide HP) hpt,or_shift hx1 hcl hpt,hs]
   have HC:Hid (s / 4294967296 < 2 ^ pt):=hide (by rw [hs]; exact shift_lt hx1 hcl)
   have HE1:=hide e1
   have e2:(s:Int) % 4294967296 = ((s % 4294967296:Nat):Int):=by omega
   rw [← e2] at hrun
   have HRUN:=hide hrun
   clear h1 h2 h3 h4 h5 hxx hO hap hval hB' e1 hs HS hrun hvn e2
   go_wp2_with (at_builtin; rw [unhide HE1]; refine wpList_append_run rfl (.tmp 32) (.tmp 35) 63 rfl (unhide HRUN) ?_)
   go_roundw
   case rel=>exact ⟨j+1,s / 4294967296,os ++ [s % 4294967296],by omega,by go_num,by go_num,unhide HC,HS'⟩
   case measure=>simp [intOf]; omega
  ·obtain ⟨h1,h2,h3,h4,h5⟩:=unhide HS
   obtain ⟨va,vn,vc,rfl⟩:=h1.slice
   have hvn:=h1.len
   rw [List.length_append,List.length_replicate,h2] at hvn
   have hje:j = n:=by omega
   have hnl:=unhide hn
   rw [List.take_of_length_le (by omega)] at h4
   have hc32:c < 4294967296:=by omega
   obtain ⟨v',W',hrun,hO,hap,_⟩:=append_own1 wr w.heap.size vn vc c va _ h1 h5.size (by omega)
   have hB':Below w.heap.size w W':=h5.trans ⟨hap.os,hap.tape,hap.output,hap.size,fun q hq=>hap.block q (by have:=h5.size; omega) (fun e=>by have:=h1.lt q e.symm; omega)⟩
   have hval:Pl.val (List.replicate wh 0 ++ os ++ [c]) = Pl.val xs * 2 ^ k:=by
    rw [List.append_assoc,Pl.val_append,Pl.val_replicate,List.length_replicate,Nat.zero_add,Pl.val_append,Pl.val_one,h2]
    exact up_end (unhide hk) h4
   have HT:=hide (rtrim_own w.heap.size _ _ W' hO (Pl.wf_append (Pl.wf_append (Pl.wf_replicate wh) h3) (Pl.wf_one hc32)))
   have HV:=hide hval
   have HB:=hide hB'
   have HRUN:=hide hrun
   have HM:Hid ((c:Int) % 4294967296 = (c:Int)):=hide (by omega)
   clear h1 h2 h3 h4 h5 hO hap hval hB' HS hrun hvn hnl hje
   go_wp2_with (at_builtin; refine wpList_append_run rfl (.tmp 39) (.tmp 42) 63 rfl (unhide HRUN) ?_)
   refine (unhide HT).mono ?_
   rintro e w1 ⟨rfl,a',l,c',ys,rfl,t1,t2,t3,t4,t5,t6⟩
   have HM2:=hide (And.intro t2 (And.intro t3 (And.intro t4 (And.intro t5 (t6.trans (unhide HV))))))
   clear t1 t2 t3 t4 t5 t6
   go_wp2
   go_ret
   obtain ⟨t2,t3,t4,t5,t6⟩:=unhide HM2
   exact ⟨⟨a',l,c',ys,rfl,t2,t3,t4,t5,t6⟩,unhide HB⟩
end Go.Proofs.YteblliofeaahmaaDoor
