/- Of what RatioBackRow stands on: RbCut. -/
import Derived.Test.YtcfccblpcngeaaaGreatPbe
import Derived.Test.YtcfccblpcngeaaaGreatPah
import Derived.Deep.Cut
import Derived.Deep.Upon
namespace Go.Proofs.YtcfccblpcngeaaaGreat
open Go.RowKit
set_option maxHeartbeats 4000000
set_option maxRecDepth 20000
theorem lim_take {w:World} {a:Option Addr} {xs:List Nat} (h:Lim w a xs) (k:Nat):Lim w a (xs.take k):=by
 rcases h with h|⟨b,off,ha,hc⟩
 ·left; rw [h]; simp
 ·right
  refine ⟨b,off,ha,fun j hj=>?_⟩
  have hj2:=hj
  rw [List.length_take] at hj2
  rw [List.getElem?_take,if_pos (by omega)]
  exact hc j (by omega)
theorem own_row {w:World} {base n:Nat} {v:Value} {xs:List Nat} (hn:xs.length = n) (h:w.ownsRow base 25 1 v n (xs.map (fun z:Nat=>Value.int .u32 (z:Int)))) (hv:v≠.slice none 0 0) :
  ∃ g c,v = .slice (some ⟨g,0,none⟩) n c∧base≤g∧n≤c∧c≤9223372036854775807∧Row w g xs∧Own w base (.slice (some ⟨g,0,none⟩) n c) xs:=by
 obtain ⟨_,h|⟨g,c,cur,hv',hg,hh,h1,h2,h3,h4⟩⟩:=h
 ·exact absurd h.1 hv
 ·have hcur:cur = lc xs ++ (cur.toList.drop n).toArray:=by
   apply Array.toList_inj.1
   rw [Array.toList_append]
   simp only [lc]
   rw [← h4,Nat.mul_one,List.take_append_drop]
  have hc9:c≤9223372036854775807:=by unfold maxLen at h2; exact h2
  refine ⟨g,c,hv',hg,h1,hc9,⟨(cur.toList.drop n).toArray,by rw [← hcur]; exact hh⟩,Or.inr ⟨g,c,cur,by rw [hn],hg,hh,by omega,by omega,hc9,fun j hj=>?_⟩⟩
  rw [hcur]; exact lc_at' xs _ j hj
theorem Own.pre {w:World} {base g m n cap:Nat} {ys:List Nat} (h:Own w base (.slice (some ⟨g,0,none⟩) m cap) ys) (hn:n≤m):Own w base (.slice (some ⟨g,0,none⟩) n cap) (ys.take n):=by
 rcases h with ⟨h,_⟩|⟨g',cap',cur,e,hg,hh,h1,h2,h3,h4⟩
 ·cases h
 ·injection e with e1 e2 e3
  injection e1 with e1
  injection e1 with e1
  subst e1 e2 e3
  have hl:(ys.take n).length = n:=by rw [List.length_take]; omega
  refine Or.inr ⟨g,cap,cur,by rw [hl],hg,hh,by omega,h2,h3,fun j hj=>?_⟩
  rw [hl] at hj
  rw [h4 j (by omega),List.getElem?_take,if_pos hj]
def CutInv (w W1:World) (g c k:Nat) (ys:List Nat) (t:Value) (wr:World):Prop:=
 ∃ j,j≤k∧t = .slice (some ⟨g,0,none⟩) j c∧(∀ i,j≤i→i < ys.length→ys[i]?.getD 0 = 0)∧wr = W1∧w.heap.size≤g
theorem cut_end {W1:World} {g base j k c:Nat} {ys:List Nat} (hrow:Row W1 g ys) (hown:Own W1 base (.slice (some ⟨g,0,none⟩) k c) ys) (hg:base≤g) (hk:ys.length = k) (hj:j≤k) (hk5:k≤5) (hw:Pl.Wf ys) (h0:∀ i,j≤i→i < ys.length→ys[i]?.getD 0 = 0) (h1:j = 0∨ys[j - 1]?.getD 0≠0) :
  Mine W1 base (some ⟨g,0,none⟩) j c (Pl.val ys):=by
 obtain ⟨t1,t2,t3,t4,t5⟩:=trim_row hrow hg (by omega) hw (show j≤ys.length by omega) h0 h1
 exact ⟨ys.take j,t1,hown.pre hj,t3,t4,t5,by omega⟩
theorem cut5_some (p:Addr) (n cap k:Nat) (ys:List Nat) (w:World) (hk:Hid (ys.length = k)) (hkn:k≤n) (hk5:k≤5) (hmin:min (n:Int) 5 = (k:Int)) (hcap:n≤cap) (hcap2:cap≤9223372036854775807) (hl:Lim w (some p) ys) (hw:Pl.Wf ys) :
  Calls Tryz.prog 16 #[.slice (some p) n cap] w fun e w'=>(∃ a' j c',e = .returned (.agg #[.slice a' j c'])∧Mine w' w.heap.size a' j c' (Pl.val ys)∧j≤5)∧Below w.heap.size w w':=by
 obtain ⟨i0,hi,hz0,hz1,hz2⟩:=info_parts Tryz.info_limb
 have hx0:Box ((w.alloc (.cells #[.slice none 0 0] 28)).alloc (.cells #[] 25)) w.heap.size (.slice none 0 0):=(Box.made w _).alloc _
 have hb0:Below w.heap.size w ((w.alloc (.cells #[.slice none 0 0] 28)).alloc (.cells #[] 25)):=gr_trans (gr_alloc _ _) (gr_alloc _ _)
 have hg0:((w.alloc (.cells #[.slice none 0 0] 28)).alloc (.cells #[] 25)).heap[w.heap.size+1]? = some (.cells #[] 25 (0,0)):=heap_alloc2_new ..
 go_enter Tryz.func16,Tryz.ntmps16
 go_wp2_with (at_builtin; refine wpList_append_own _ rfl (.tmp 4) (.tmp 9) 22 rfl (w.heap.size+1) 25 i0 (.int .u32 0) 1 4 Tryz.under_limbs hi hz0 hz1 hz2 rfl (by decide) _ 0 [] rfl ?hown p k cap (ys.map (fun z:Nat=>Value.int .u32 (z:Int))) ?hx ?hl ?hnews ?h1 ?h63 ?hbytes ?hbase ?_)
 case hown=>exact ⟨rfl,Or.inr ⟨w.heap.size+1,0,#[],rfl,Nat.le_refl _,hg0,Nat.le_refl _,by decide,by simp,by simp⟩⟩
 case hx=>simp [Act.eval]
 case hl=>have:=unhide hk; simp; omega
 case hnews=>
  intro j u hj
  have hjn:j < ys.length:=by have:=(List.getElem?_eq_some_iff.1 hj).1; simpa using this
  have hu:u = .int .u32 ((ys[j]?.getD 0:Nat):Int):=by
   rw [List.getElem?_map,List.getElem?_eq_getElem hjn] at hj
   simp at hj
   rw [← hj]
   simp [hjn]
  rcases (hl.below hb0) with hx|⟨b,off,hpp,hc⟩
  ·rw [hx] at hjn; simp at hjn
  ·injection hpp with hpp
   subst hpp
   rw [hu,Addr.add_lit]
   exact hc j hjn
 case h1=>
  intro u hu
  obtain ⟨z,_,rfl⟩:=List.mem_map.1 hu
  rfl
 case h63=>unfold maxLen; omega
 case hbytes=>omega
 case hbase=>simp
 intro v' W1 hown hgrow hnil
 obtain ⟨g,c,rfl,hg,hkc,hc9,hrow,hO⟩:=own_row (unhide hk) hown hnil
 have hx1:Box W1 w.heap.size (.slice none 0 0):=by
  unfold Box
  rw [hgrow.block w.heap.size (by simp; omega) (by simp [Value.ownBlock])]
  exact hx0
 have HB:Below w.heap.size w W1:=hb0.trans ⟨hgrow.os,hgrow.tape,hgrow.output,by have:=hgrow.size; exact this,fun i hi'=>hgrow.block i (by simp; omega) (by simp [Value.ownBlock]; omega)⟩
 clear hown hgrow hnil hb0 hg0 hx0 hl
 go_wp2_with fail
 go_loopw [3] (fun t wr=>CutInv w W1 g c k ys t wr) (fun t _=>match t with|.slice _ j _=>j|_=>0)
 case atStart=>exact ⟨k,Nat.le_refl _,rfl,fun i h1 h2=>by have:=unhide hk; omega,rfl,by omega⟩
 case round=>
  obtain ⟨j,hj,rfl,h0,rfl,_⟩:=hrel
  by_cases hj0:j = 0
  ·subst hj0
   have hM:=hide (cut_end hrow hO (show w.heap.size+1≤g by omega) (unhide hk) hj hk5 hw h0 (Or.inl rfl))
   have f1:=hx1.frozen
   have k1:=hx1.cell
   have HB':=hide HB
   clear HB
   go_wp2
   exact bodyPost_ret (v:=.agg #[.slice (some ⟨g,0,none⟩) 0 c]) (by simp [results,Tryz.results16,go_sem,k1]) rfl ⟨⟨_,0,c,rfl,((unhide hM).mono (by omega)).setBox hx1 _,by omega⟩,(unhide HB').setCell (Nat.le_refl _) _⟩
  ·obtain ⟨i,rfl⟩:∃ i,j = i+1:=⟨j - 1,by omega⟩
   obtain ⟨z,hz⟩:∃ z,z = ys[i]?.getD 0:=⟨_,rfl⟩
   have hyl:=unhide hk
   have hcell:wr.cell? ⟨g,i,none⟩ = some (.int .u32 (z:Int)):=by rw [hz]; exact hrow.cell i (by omega)
   by_cases hz0:z = 0
   ·have hN:Hid (∀ q,i≤q→q < ys.length→ys[q]?.getD 0 = 0):=hide (fun q h1 h2=>by
     by_cases hq:q = i
     ·rw [hq,← hz,hz0]
     ·exact h0 q (by omega) h2)
    subst hz0
    clear hz h0 hyl
    go_wp2
    go_roundw
    case rel=>exact ⟨i,by omega,by simp,unhide hN,rfl,by omega⟩
    case measure=>simp
   ·have hzz:((z:Int) == 0) = false:=by simp; omega
    have hM:=hide (cut_end hrow hO (show w.heap.size+1≤g by omega) (unhide hk) hj hk5 hw h0 (Or.inr (by rw [Nat.add_sub_cancel,← hz]; exact hz0)))
    have f1:=hx1.frozen
    have k1:=hx1.cell
    have HB':=hide HB
    clear HB hz h0 hyl
    go_wp2
    exact bodyPost_ret (v:=.agg #[.slice (some ⟨g,0,none⟩) (i+1) c]) (by simp [results,Tryz.results16,go_sem,k1]) rfl ⟨⟨_,i+1,c,rfl,((unhide hM).mono (by omega)).setBox hx1 _,by omega⟩,(unhide HB').setCell (Nat.le_refl _) _⟩
theorem cut5_none (w:World) :
  Calls Tryz.prog 16 #[.slice none 0 0] w fun e w'=>(∃ a' j c',e = .returned (.agg #[.slice a' j c'])∧Mine w' w.heap.size a' j c' 0∧j≤5)∧Below w.heap.size w w':=by
 have hx0:Box ((w.alloc (.cells #[.slice none 0 0] 28)).alloc (.cells #[] 25)) w.heap.size (.slice none 0 0):=(Box.made w _).alloc _
 have hb0:Below w.heap.size w ((w.alloc (.cells #[.slice none 0 0] 28)).alloc (.cells #[] 25)):=gr_trans (gr_alloc _ _) (gr_alloc _ _)
 have hg0:((w.alloc (.cells #[.slice none 0 0] 28)).alloc (.cells #[] 25)).heap[w.heap.size+1]? = some (.cells #[] 25 (0,0)):=heap_alloc2_new ..
 have hM:Mine ((w.alloc (.cells #[.slice none 0 0] 28)).alloc (.cells #[] 25)) w.heap.size (some ⟨w.heap.size+1,0,none⟩) 0 0 0:=⟨[],rfl,Or.inr ⟨w.heap.size+1,0,#[],rfl,by omega,hg0,Nat.le_refl _,Nat.zero_le _,by omega,fun j hj=>by simp at hj⟩,Pl.wf_nil,Pl.norm_nil,rfl,by omega⟩
 have hmin:(min (0:Int) 5).toNat = 0:=by decide
 go_enter Tryz.func16,Tryz.ntmps16
 go_wp2_with fail
 generalize (w.alloc (.cells #[.slice none 0 0] 28)).alloc (.cells #[] 25) = W at *
 have k1:=hx0.cell
 have f1:=hx0.frozen
 refine wp_loop_rounds 1 ?_
 rw [rounds_succ]
 go_wp2
 exact bodyPost_ret (v:=.agg #[.slice (some ⟨w.heap.size+1,0,none⟩) 0 0]) (by simp [results,Tryz.results16,go_sem,k1]) rfl ⟨⟨_,0,0,rfl,hM.setBox hx0 _,by omega⟩,hb0.setCell (Nat.le_refl _) _⟩
def SArg (W:World) (a:Option Addr) (n cap:Nat) (xs:List Nat):Prop:=
 (a = none∧n = 0∧cap = 0∧xs = [])∨(∃ p,a = some p∧xs.length = n∧n≤cap∧cap≤9223372036854775807∧Lim W a xs∧Pl.Wf xs)
theorem SArg.kept {w w':World} {a:Option Addr} {n cap:Nat} {xs:List Nat} (h:SArg w a n cap xs) (hb:Below w.heap.size w w'):SArg w' a n cap xs:=by
 rcases h with h|⟨p,h1,h2,h3,h4,h5,h6⟩
 ·exact Or.inl h
 ·exact Or.inr ⟨p,h1,h2,h3,h4,h5.below hb,h6⟩
theorem cut5_any (a:Option Addr) (n cap:Nat) (xs:List Nat) (w:World) (h:SArg w a n cap xs) :
  Calls Tryz.prog 16 #[.slice a n cap] w fun e w'=>(∃ a' j c',e = .returned (.agg #[.slice a' j c'])∧Mine w' w.heap.size a' j c' (Pl.val (xs.take 5))∧j≤5)∧Below w.heap.size w w':=by
 rcases h with ⟨rfl,rfl,rfl,rfl⟩|⟨p,rfl,hn,hc,hc2,hl,hw⟩
 ·exact cut5_none w
 ·exact cut5_some p n cap (min n 5) (xs.take 5) w (hide (by rw [List.length_take]; omega)) (by omega) (by omega) (by omega) hc hc2 (lim_take hl 5) (Pl.wf_take hw 5)
theorem five_lt (xs:List Nat) (hw:Pl.Wf xs):Pl.val (xs.take 5) < 4294967296 ^ 5:=by
 have h1:=Pl.val_lt (Pl.wf_take hw 5)
 have h2:(xs.take 5).length≤5:=by rw [List.length_take]; omega
 exact Nat.lt_of_lt_of_le h1 (Nat.pow_le_pow_right (by decide) h2)
end Go.Proofs.YtcfccblpcngeaaaGreat
