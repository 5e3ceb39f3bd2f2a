/- Of what RatioOrderRow stands on: RCut RMade. -/
import Derived.Test.YtfhmbnnlcjdblaaGreatPas
import Derived.Test.YtfhmbnnlcjdblaaGreatPab
import Derived.Deep.Cut
import Derived.Deep.Upon
import Derived.Test.YtfhmbnnlcjdblaaGreatPax
import Derived.Test.YtfhmbnnlcjdblaaGreatPav
namespace Go.Proofs.YtfhmbnnlcjdblaaGreat
open Go.RowKit
set_option maxHeartbeats 8000000
set_option maxRecDepth 20000
theorem lim_take {w:World} {a:Option Addr} {xs:List Nat} (h:Lim w a xs) (k:Nat):Lim w a (xs.take k):=by
 rcases h with h|⟨b,off,ha,hc⟩
 ·left; rw [h]; simp
 ·right
  refine ⟨b,off,ha,fun j hj=>?_⟩
  have hj2:=hj
  rw [List.length_take] at hj2
  rw [List.getElem?_take,if_pos (by omega)]
  exact hc j (by omega)
theorem own_row {w:World} {base n:Nat} {v:Value} {xs:List Nat} (hn:xs.length = n) (h:w.ownsRow base 40 1 v n (xs.map (fun z:Nat=>Value.int .u32 (z:Int)))) (hv:v≠.slice none 0 0) :
  ∃ g c,v = .slice (some ⟨g,0,none⟩) n c∧base≤g∧n≤c∧c≤9223372036854775807∧Row w g xs∧Own w base (.slice (some ⟨g,0,none⟩) n c) xs:=by
 obtain ⟨_,h|⟨g,c,cur,hv',hg,hh,h1,h2,h3,h4⟩⟩:=h
 ·exact absurd h.1 hv
 ·have hcur:cur = lc xs ++ (cur.toList.drop n).toArray:=by
   apply Array.toList_inj.1
   rw [Array.toList_append]
   simp only [lc]
   rw [← h4,Nat.mul_one,List.take_append_drop]
  have hc9:c≤9223372036854775807:=by unfold maxLen at h2; exact h2
  refine ⟨g,c,hv',hg,h1,hc9,⟨(cur.toList.drop n).toArray,by rw [← hcur]; exact hh⟩,Or.inr ⟨g,c,cur,by rw [hn],hg,hh,by omega,by omega,hc9,fun j hj=>?_⟩⟩
  rw [hcur]; exact lc_at' xs _ j hj
theorem Own.pre {w:World} {base g m n cap:Nat} {ys:List Nat} (h:Own w base (.slice (some ⟨g,0,none⟩) m cap) ys) (hn:n≤m):Own w base (.slice (some ⟨g,0,none⟩) n cap) (ys.take n):=by
 rcases h with ⟨h,_⟩|⟨g',cap',cur,e,hg,hh,h1,h2,h3,h4⟩
 ·cases h
 ·injection e with e1 e2 e3
  injection e1 with e1
  injection e1 with e1
  subst e1 e2 e3
  have hl:(ys.take n).length = n:=by rw [List.length_take]; omega
  refine Or.inr ⟨g,cap,cur,by rw [hl],hg,hh,by omega,h2,h3,fun j hj=>?_⟩
  rw [hl] at hj
  rw [h4 j (by omega),List.getElem?_take,if_pos hj]
def CutInv (w W1:World) (g c k:Nat) (ys:List Nat) (t:Value) (wr:World):Prop:=
 ∃ j,j≤k∧t = .slice (some ⟨g,0,none⟩) j c∧(∀ i,j≤i→i < ys.length→ys[i]?.getD 0 = 0)∧wr = W1∧w.heap.size≤g
theorem cut_end {W1:World} {g base j k c:Nat} {ys:List Nat} (hrow:Row W1 g ys) (hown:Own W1 base (.slice (some ⟨g,0,none⟩) k c) ys) (hg:base≤g) (hk:ys.length = k) (hj:j≤k) (hk5:k≤5) (hw:Pl.Wf ys) (h0:∀ i,j≤i→i < ys.length→ys[i]?.getD 0 = 0) (h1:j = 0∨ys[j - 1]?.getD 0≠0) :
  Mine W1 base (some ⟨g,0,none⟩) j c (Pl.val ys):=by
 obtain ⟨t1,t2,t3,t4,t5⟩:=trim_row hrow hg (by omega) hw (show j≤ys.length by omega) h0 h1
 exact ⟨ys.take j,t1,hown.pre hj,t3,t4,t5,by omega⟩
theorem cut5_some (p:Addr) (n cap k:Nat) (ys:List Nat) (w:World) (hk:Hid (ys.length = k)) (hkn:k≤n) (hk5:k≤5) (hmin:min (n:Int) 5 = (k:Int)) (hcap:n≤cap) (hcap2:cap≤9223372036854775807) (hl:Lim w (some p) ys) (hw:Pl.Wf ys) :
  Calls Tryz.prog 17 #[.slice (some p) n cap] w fun e w'=>(∃ a' j c',e = .returned (.agg #[.slice a' j c'])∧Mine w' w.heap.size a' j c' (Pl.val ys)∧j≤5)∧Below w.heap.size w w':=by
 obtain ⟨i0,hi,hz0,hz1,hz2⟩:=info_parts Tryz.info_limb
 have hx0:Box ((w.alloc (.cells #[.slice none 0 0] 27)).alloc (.cells #[] 40)) w.heap.size (.slice none 0 0):=(Box.made w _).alloc _
 have hb0:Below w.heap.size w ((w.alloc (.cells #[.slice none 0 0] 27)).alloc (.cells #[] 40)):=gr_trans (gr_alloc _ _) (gr_alloc _ _)
 have hg0:((w.alloc (.cells #[.slice none 0 0] 27)).alloc (.cells #[] 40)).heap[w.heap.size+1]? = some (.cells #[] 40 (0,0)):=heap_alloc2_new ..
 go_enter Tryz.func17,Tryz.ntmps17
 go_wp2_with (at_builtin; refine wpList_append_own _ rfl (.tmp 4) (.tmp 9) 22 rfl (w.heap.size+1) 40 i0 (.int .u32 0) 1 4 Tryz.under_limbs hi hz0 hz1 hz2 rfl (by decide) _ 0 [] rfl ?hown p k cap (ys.map (fun z:Nat=>Value.int .u32 (z:Int))) ?hx ?hl ?hnews ?h1 ?h63 ?hbytes ?hbase ?_)
 case hown=>exact ⟨rfl,Or.inr ⟨w.heap.size+1,0,#[],rfl,Nat.le_refl _,hg0,Nat.le_refl _,by decide,by simp,by simp⟩⟩
 case hx=>simp [Act.eval]
 case hl=>have:=unhide hk; simp; omega
 case hnews=>
  intro j u hj
  have hjn:j < ys.length:=by have:=(List.getElem?_eq_some_iff.1 hj).1; simpa using this
  have hu:u = .int .u32 ((ys[j]?.getD 0:Nat):Int):=by
   rw [List.getElem?_map,List.getElem?_eq_getElem hjn] at hj
   simp at hj
   rw [← hj]
   simp [hjn]
  rcases (hl.below hb0) with hx|⟨b,off,hpp,hc⟩
  ·rw [hx] at hjn; simp at hjn
  ·injection hpp with hpp
   subst hpp
   rw [hu,Addr.add_lit]
   exact hc j hjn
 case h1=>
  intro u hu
  obtain ⟨z,_,rfl⟩:=List.mem_map.1 hu
  rfl
 case h63=>unfold maxLen; omega
 case hbytes=>omega
 case hbase=>simp
 intro v' W1 hown hgrow hnil
 obtain ⟨g,c,rfl,hg,hkc,hc9,hrow,hO⟩:=own_row (unhide hk) hown hnil
 have hx1:Box W1 w.heap.size (.slice none 0 0):=by
  unfold Box
  rw [hgrow.block w.heap.size (by simp; omega) (by simp [Value.ownBlock])]
  exact hx0
 have HB:Below w.heap.size w W1:=hb0.trans ⟨hgrow.os,hgrow.tape,hgrow.output,by have:=hgrow.size; exact this,fun i hi'=>hgrow.block i (by simp; omega) (by simp [Value.ownBlock]; omega)⟩
 clear hown hgrow hnil hb0 hg0 hx0 hl
 go_wp2_with fail
 go_loopw [3] (fun t wr=>CutInv w W1 g c k ys t wr) (fun t _=>match t with|.slice _ j _=>j|_=>0)
 case atStart=>exact ⟨k,Nat.le_refl _,rfl,fun i h1 h2=>by have:=unhide hk; omega,rfl,by omega⟩
 case round=>
  obtain ⟨j,hj,rfl,h0,rfl,_⟩:=hrel
  by_cases hj0:j = 0
  ·subst hj0
   have hM:=hide (cut_end hrow hO (show w.heap.size+1≤g by omega) (unhide hk) hj hk5 hw h0 (Or.inl rfl))
   have f1:=hx1.frozen
   have k1:=hx1.cell
   have HB':=hide HB
   clear HB
   go_wp2
   exact bodyPost_ret (v:=.agg #[.slice (some ⟨g,0,none⟩) 0 c]) (by simp [results,Tryz.results17,go_sem,k1]) rfl ⟨⟨_,0,c,rfl,((unhide hM).mono (by omega)).setBox hx1 _,by omega⟩,(unhide HB').setCell (Nat.le_refl _) _⟩
  ·obtain ⟨i,rfl⟩:∃ i,j = i+1:=⟨j - 1,by omega⟩
   obtain ⟨z,hz⟩:∃ z,z = ys[i]?.getD 0:=⟨_,rfl⟩
   have hyl:=unhide hk
   have hcell:wr.cell? ⟨g,i,none⟩ = some (.int .u32 (z:Int)):=by rw [hz]; exact hrow.cell i (by omega)
   by_cases hz0:z = 0
   ·have hN:Hid (∀ q,i≤q→q < ys.length→ys[q]?.getD 0 = 0):=hide (fun q h1 h2=>by
     by_cases hq:q = i
     ·rw [hq,← hz,hz0]
     ·exact h0 q (by omega) h2)
    subst hz0
    clear hz h0 hyl
    go_wp2
    go_roundw
    case rel=>exact ⟨i,by omega,by simp,unhide hN,rfl,by omega⟩
    case measure=>simp
   ·have hzz:((z:Int) == 0) = false:=by simp; omega
    have hM:=hide (cut_end hrow hO (show w.heap.size+1≤g by omega) (unhide hk) hj hk5 hw h0 (Or.inr (by rw [Nat.add_sub_cancel,← hz]; exact hz0)))
    have f1:=hx1.frozen
    have k1:=hx1.cell
    have HB':=hide HB
    clear HB hz h0 hyl
    go_wp2
    exact bodyPost_ret (v:=.agg #[.slice (some ⟨g,0,none⟩) (i+1) c]) (by simp [results,Tryz.results17,go_sem,k1]) rfl ⟨⟨_,i+1,c,rfl,((unhide hM).mono (by omega)).setBox hx1 _,by omega⟩,(unhide HB').setCell (Nat.le_refl _) _⟩
theorem cut5_none (w:World) :
  Calls Tryz.prog 17 #[.slice none 0 0] w fun e w'=>(∃ a' j c',e = .returned (.agg #[.slice a' j c'])∧Mine w' w.heap.size a' j c' 0∧j≤5)∧Below w.heap.size w w':=by
 have hx0:Box ((w.alloc (.cells #[.slice none 0 0] 27)).alloc (.cells #[] 40)) w.heap.size (.slice none 0 0):=(Box.made w _).alloc _
 have hb0:Below w.heap.size w ((w.alloc (.cells #[.slice none 0 0] 27)).alloc (.cells #[] 40)):=gr_trans (gr_alloc _ _) (gr_alloc _ _)
 have hg0:((w.alloc (.cells #[.slice none 0 0] 27)).alloc (.cells #[] 40)).heap[w.heap.size+1]? = some (.cells #[] 40 (0,0)):=heap_alloc2_new ..
 have hM:Mine ((w.alloc (.cells #[.slice none 0 0] 27)).alloc (.cells #[] 40)) w.heap.size (some ⟨w.heap.size+1,0,none⟩) 0 0 0:=⟨[],rfl,Or.inr ⟨w.heap.size+1,0,#[],rfl,by omega,hg0,Nat.le_refl _,Nat.zero_le _,by omega,fun j hj=>by simp at hj⟩,Pl.wf_nil,Pl.norm_nil,rfl,by omega⟩
 have hmin:(min (0:Int) 5).toNat = 0:=by decide
 go_enter Tryz.func17,Tryz.ntmps17
 go_wp2_with fail
 generalize (w.alloc (.cells #[.slice none 0 0] 27)).alloc (.cells #[] 40) = W at *
 have k1:=hx0.cell
 have f1:=hx0.frozen
 refine wp_loop_rounds 1 ?_
 rw [rounds_succ]
 go_wp2
 exact bodyPost_ret (v:=.agg #[.slice (some ⟨w.heap.size+1,0,none⟩) 0 0]) (by simp [results,Tryz.results17,go_sem,k1]) rfl ⟨⟨_,0,0,rfl,hM.setBox hx0 _,by omega⟩,hb0.setCell (Nat.le_refl _) _⟩
def SArg (W:World) (a:Option Addr) (n cap:Nat) (xs:List Nat):Prop:=
 (a = none∧n = 0∧cap = 0∧xs = [])∨(∃ p,a = some p∧xs.length = n∧n≤cap∧cap≤9223372036854775807∧Lim W a xs∧Pl.Wf xs)
theorem SArg.kept {w w':World} {a:Option Addr} {n cap:Nat} {xs:List Nat} (h:SArg w a n cap xs) (hb:Below w.heap.size w w'):SArg w' a n cap xs:=by
 rcases h with h|⟨p,h1,h2,h3,h4,h5,h6⟩
 ·exact Or.inl h
 ·exact Or.inr ⟨p,h1,h2,h3,h4,h5.below hb,h6⟩
theorem cut5_any (a:Option Addr) (n cap:Nat) (xs:List Nat) (w:World) (h:SArg w a n cap xs) :
  Calls Tryz.prog 17 #[.slice a n cap] w fun e w'=>(∃ a' j c',e = .returned (.agg #[.slice a' j c'])∧Mine w' w.heap.size a' j c' (Pl.val (xs.take 5))∧j≤5)∧Below w.heap.size w w':=by
 rcases h with ⟨rfl,rfl,rfl,rfl⟩|⟨p,rfl,hn,hc,hc2,hl,hw⟩
 ·exact cut5_none w
 ·exact cut5_some p n cap (min n 5) (xs.take 5) w (hide (by rw [List.length_take]; omega)) (by omega) (by omega) (by omega) hc hc2 (lim_take hl 5) (Pl.wf_take hw 5)
theorem one_mine (w2:World) (o:Obj) (base:Nat) (hb:base≤w2.heap.size):Mine ((w2.alloc o).alloc (.cells #[.int .u32 1] 40)) base (some ⟨w2.heap.size+1,0,none⟩) 1 1 1:=by
 have hh:((w2.alloc o).alloc (.cells #[.int .u32 1] 40)).heap[w2.heap.size+1]? = some (.cells #[.int .u32 1] 40 (0,0)):=heap_alloc2_new ..
 refine ⟨[1],rfl,Or.inr ⟨w2.heap.size+1,1,#[.int .u32 1],rfl,by omega,hh,by simp,by simp,by omega,fun j hj=>?_⟩,Pl.wf_one (by omega),Pl.norm_of (by simp),by simp [Pl.val],by omega⟩
 have:j = 0:=by simp at hj; omega
 subst this; rfl
def MadeOk (w:World) (en:Ending) (z:Rat):Prop:=∃ s a n c a' n' c',en = .returned (.tuple #[.agg #[.bool s,.slice a n c,.slice a' n' c'],.bool true])∧Fq w s a n a' n' z
theorem five_lt (xs:List Nat) (hw:Pl.Wf xs):Pl.val (xs.take 5) < 4294967296 ^ 5:=by
 have h1:=Pl.val_lt (Pl.wf_take hw 5)
 have h2:(xs.take 5).length≤5:=by rw [List.length_take]; omega
 exact Nat.lt_of_lt_of_le h1 (Nat.pow_le_pow_right (by decide) h2)
structure MadN4S where
 (b0 b1 b2 b3 b4 b5 b6 b7 b8 b9:Bool)
 (v0 v1 v2 v3 v4 v5 v6 v7 v9:Value)
 bs9:List En
 os9:Os
structure MadN4R (w:World) (s:Bool) (a1 a2:Option Addr) (n1 n2 c1 c2:Nat) (z:Rat) (A1:Option Addr) (N1 C1:Nat) (w1:World) (A2:Option Addr) (N2 C2:Nat) (w2:World) (s7:Bool) (ba7 ba8:Option Addr) (kn7 lc7 kn8 lc8:Nat) (w3:World) (S9:Nat) (b0 b1 b2 b3 b4 b5 b6 b7 b8 b9:Bool) (v0 v1 v2 v3 v4 v5 v6 v7 v9:Value)  (bs9:List En) (os9:Os) (w':World):Prop where
 hc:Rc w S9 [⟨w3.heap.size,#[.bool s7,.slice ba7 kn7 lc7,.slice ba8 kn8 lc8],29⟩] [] [(ba8,kn8,lc8,z.den),(ba7,kn7,lc7,z.num.natAbs)] none bs9 os9 w'
 f0:b0 = true→v0 = .agg #[.bool s7,.slice ba7 kn7 lc7,.slice ba8 kn8 lc8]
 f1:b1 = true→v1 = .int .i64 0
 f2:b2 = true→v2 = .bool true
 f3:b3 = true→v3 = .bool true
 f4:b4 = true→v4 = .agg #[.bool s7,.slice ba7 kn7 lc7,.slice ba8 kn8 lc8]
 f5:b5 = true→v5 = .int .i64 0
 f6:b6 = true→v6 = .bool true
 f7:b7 = true→v7 = .bool true
 f9:b9 = true→v9 = .bool true
 o0_0:b8 = false→⟨w.heap.size+1,#[.bool false,.slice none 0 0,.slice none 0 0],29⟩∈bs9
 o0_1:b8 = true→⟨w.heap.size+1,#[.bool s7,.slice ba7 kn7 lc7,.slice ba8 kn8 lc8],29⟩∈bs9
 g8_0:b8 = true→b0 = true
def MadN4I (w:World) (s:Bool) (a1 a2:Option Addr) (n1 n2 c1 c2:Nat) (z:Rat) (A1:Option Addr) (N1 C1:Nat) (w1:World) (A2:Option Addr) (N2 C2:Nat) (w2:World) (s7:Bool) (ba7 ba8:Option Addr) (kn7 lc7 kn8 lc8:Nat) (w3:World) (S9:Nat) (l:Array Bool) (act:Act) (w':World):MadN4S→Prop
 | ⟨b0,b1,b2,b3,b4,b5,b6,b7,b8,b9,v0,v1,v2,v3,v4,v5,v6,v7,v9,bs9,os9⟩=>l = #[b0,b1,b2,b3,b4,b5,b6,b7,b8,b9]∧act = { tmps:=#[.agg #[.bool s,.slice a1 n1 c1,.slice a2 n2 c2],.pointer (some ⟨w.heap.size,0,none⟩),.pointer (some ⟨w.heap.size+1,0,none⟩),v9,.pointer (some ⟨w1.heap.size,0,none⟩),.pointer (some ⟨w2.heap.size,0,none⟩),.pointer (some ⟨w3.heap.size,0,none⟩),.int .i64 0,.pointer (some ⟨w.heap.size,1,none⟩),.slice a1 n1 c1,.agg #[.slice A1 N1 C1],.pointer (some ⟨w.heap.size,2,none⟩),.slice a2 n2 c2,.agg #[.slice A2 N2 C2],.pointer (some ⟨w2.heap.size,0,none⟩),.slice A2 N2 C2,.int .i64 (N2:Nat),.bool false,undef,undef,.tuple #[.agg #[.bool s7,.slice ba7 kn7 lc7,.slice ba8 kn8 lc8],.int .i64 0],.pointer (some ⟨w.heap.size,0,none⟩),.bool s,.agg #[.slice A1 N1 C1],.agg #[.slice A2 N2 C2],.tuple #[.agg #[.bool s7,.slice ba7 kn7 lc7,.slice ba8 kn8 lc8],.int .i64 0],.agg #[.bool s7,.slice ba7 kn7 lc7,.slice ba8 kn8 lc8],.int .i64 0,v0,v1,v2,v3,v4,v5,v6,v7],defers:=[] }∧MadN4R w s a1 a2 n1 n2 c1 c2 z A1 N1 C1 w1 A2 N2 C2 w2 s7 ba7 ba8 kn7 lc7 kn8 lc8 w3 S9 b0 b1 b2 b3 b4 b5 b6 b7 b8 b9 v0 v1 v2 v3 v4 v5 v6 v7 v9 bs9 os9 w'
theorem made_some (s:Bool) (a1 a2:Option Addr) (n1 n2 c1 c2:Nat) (xs ys:List Nat) (z:Rat) (w:World) (h1:SArg w a1 n1 c1 xs) (h2:SArg w a2 n2 c2 ys) (hden:Pl.val (ys.take 5)≠0) (hz:z = mkRat (Rm.sgn s (Pl.val (xs.take 5))) (Pl.val (ys.take 5))) (ho1:¬ Over z.num.natAbs) (ho2:¬ Over z.den) :
  Calls Tryz.prog 5 #[.agg #[.bool s,.slice a1 n1 c1,.slice a2 n2 c2]] w fun en w'=>MadeOk w' en z∧Below w.heap.size w w':=by
 have HZ:=hide hz
 clear hz
 have hS:=Rs.begin w
 replace hS:=hS.alloc #[.bool s,.slice a1 n1 c1,.slice a2 n2 c2] 24
 try simp only [World.size_alloc] at hS
 replace hS:=hS.alloc #[.bool false,.slice none 0 0,.slice none 0 0] 29
 try simp only [World.size_alloc] at hS
 go_enter Tryz.func5,Tryz.ntmps5
 go_wp2_with fail
 refine (cut5_any a1 n1 c1 xs _ (h1.kept hS.fr)).mono ?_
 rintro en w1 ⟨⟨A1,N1,C1,rfl,hm,hk1⟩,hb⟩
 have hz1:=hb.size
 have hs9:=hS.size
 replace hS:=(hS.kept hb).own hm hs9
 clear hm hb hs9
 simp only [World.size_alloc] at hz1
 replace hS:=hS.alloc #[.slice A1 N1 C1] 27
 try simp only [World.size_alloc] at hS
 obtain ⟨⟨k0_0,k0_1,k0_2,-⟩,-⟩:=hS.cz ⟨w.heap.size,#[.bool s,.slice a1 n1 c1,.slice a2 n2 c2],24⟩ (by simp)
 simp only [] at k0_0 k0_1 k0_2
 go_wp2_with fail
 clear k0_0 k0_1 k0_2
 refine (cut5_any a2 n2 c2 ys _ (h2.kept hS.fr)).mono ?_
 rintro en w2 ⟨⟨A2,N2,C2,rfl,hm,hk2⟩,hb⟩
 have hz2:=hb.size
 have hs9:=hS.size
 replace hS:=(hS.kept hb).own hm hs9
 clear hm hb hs9
 simp only [World.size_alloc] at hz2
 replace hS:=hS.alloc #[.slice A2 N2 C2] 27
 try simp only [World.size_alloc] at hS
 obtain ⟨⟨k0_0,-⟩,-⟩:=hS.cz ⟨w2.heap.size,#[.slice A2 N2 C2],27⟩ (by simp)
 obtain ⟨⟨k1_0,-⟩,-⟩:=hS.cz ⟨w1.heap.size,#[.slice A1 N1 C1],27⟩ (by simp)
 obtain ⟨⟨k2_0,k2_1,k2_2,-⟩,-⟩:=hS.cz ⟨w.heap.size,#[.bool s,.slice a1 n1 c1,.slice a2 n2 c2],24⟩ (by simp)
 simp only [] at k0_0 k1_0 k2_0 k2_1 k2_2
 have hne:((N2:Int) == 0) = false:=by simp; exact fun e=>hden ((hS.ow (A2,N2,C2,(Pl.val (ys.take 5))) (by simp)).num.zero.1 e)
 go_wp2_with fail
 clear k0_0 k1_0 k2_0 k2_1 k2_2
 clear hne
 refine (make_rat s A1 A2 N1 N2 C1 C2 _ _ _ (hS.ow (A1,N1,C1,(Pl.val (xs.take 5))) (by simp)).num (hS.ow (A2,N2,C2,(Pl.val (ys.take 5))) (by simp)).num (Nat.pos_of_ne_zero hden)).mono ?_
 rintro en w3 ⟨⟨s7,ba7,kn7,lc7,ba8,kn8,lc8,r7,rfl,hq⟩,hb⟩
 rw [← unhide HZ] at hq
 have hz3:=hb.size
 have hs9:=hS.size
 replace hS:=hS.kept hb
 obtain ⟨r0,e1,e2,e3⟩:=hq.resolve_right (fun h=>h.2.2.elim ho1 ho2)
 subst r0
 have HN7:=hide e1
 replace hS:=(hS.own e2 hs9).own e3 hs9
 clear hq hb e1 e2 e3 hs9
 simp only [World.size_alloc] at hz3
 replace hS:=hS.alloc #[.bool s7,.slice ba7 kn7 lc7,.slice ba8 kn8 lc8] 29
 try simp only [World.size_alloc] at hS
 go_wp2_with fail
 replace hS:=hS.sub (bs':=[⟨w3.heap.size,#[.bool s7,.slice ba7 kn7 lc7,.slice ba8 kn8 lc8],29⟩,⟨w.heap.size+1,#[.bool false,.slice none 0 0,.slice none 0 0],29⟩]) (ms':=[]) (os':=[(ba8,kn8,lc8,z.den),(ba7,kn7,lc7,z.num.natAbs)]) (by intro x hx; rcases List.mem_cons.1 hx with rfl|hx; (simp); rcases List.mem_cons.1 hx with rfl|hx; (simp); exact absurd hx List.not_mem_nil) (by intro x hx; exact absurd hx List.not_mem_nil) (by intro x hx; rcases List.mem_cons.1 hx with rfl|hx; (simp); rcases List.mem_cons.1 hx with rfl|hx; (simp); exact absurd hx List.not_mem_nil)
 refine wp_region_any (by kernel_rfl) ?_
 change wpAny _ _ _ _ _ _ _ (World.drew _)
 have hS9:=hS.drew
 have hsW9:(World.drew (w3.alloc (.cells #[.bool s7,.slice ba7 kn7 lc7,.slice ba8 kn8 lc8] 29))).heap.size = w3.heap.size+1:=by first|rfl|simp
 generalize World.drew (w3.alloc (.cells #[.bool s7,.slice ba7 kn7 lc7,.slice ba8 kn8 lc8] 29)) = Wd at hS9 hsW9 ⊢
 obtain ⟨S9,hS9z⟩:∃ x,x = Wd.heap.size:=⟨_,rfl⟩
 have hC9:=Rc.start (bs:=[⟨w3.heap.size,#[.bool s7,.slice ba7 kn7 lc7,.slice ba8 kn8 lc8],29⟩]) hS9 (by simp)
 rw [← hS9z] at hC9
 have hP9_0:=hS9.bx ⟨w.heap.size+1,#[.bool false,.slice none 0 0,.slice none 0 0],29⟩ (by simp)
 have hP9_0:=block_lt hP9_0.1
 rw [← hS9z] at hP9_0
 simp only [] at hP9_0
 refine wpAny_inv (fun l act w'=>∃ σ,MadN4I w s a1 a2 n1 n2 c1 c2 z A1 N1 C1 w1 A2 N2 C2 w2 s7 ba7 ba8 kn7 lc7 kn8 lc8 w3 S9 l act w' σ) ?_ ?_ _ _ _ _ ?_ ?_
 ·intro l act w' i9 hI9 hi9 hl9
  have hin9:i9 < 10:=by
   by_cases h:i9 < 10
   ·exact h
   ·obtain ⟨⟨⟩,rfl,_⟩:=hI9
    rw [Array.getElem?_eq_none (by simp; omega)] at hl9; cases hl9
  have hcase:i9 = 0∨i9 = 1∨i9 = 2∨i9 = 3∨i9 = 4∨i9 = 5∨i9 = 6∨i9 = 7∨i9 = 8∨i9 = 9:=by omega
  clear hin9
  obtain ⟨⟨b0,b1,b2,b3,b4,b5,b6,b7,b8,b9,v0,v1,v2,v3,v4,v5,v6,v7,v9,bs9,os9⟩,rfl,rfl,hR⟩:=hI9
  rcases hcase with rfl|rfl|rfl|rfl|rfl|rfl|rfl|rfl|rfl|rfl
  ·obtain rfl:b0 = false:=by simpa using hl9
   have hc:=hR.hc
   have c9_0:=hc.st.cellAt (hc.old ⟨w3.heap.size,#[.bool s7,.slice ba7 kn7 lc7,.slice ba8 kn8 lc8],29⟩ (by simp)).1 0 (.bool s7) rfl
   have c9_1:=hc.st.cellAt (hc.old ⟨w3.heap.size,#[.bool s7,.slice ba7 kn7 lc7,.slice ba8 kn8 lc8],29⟩ (by simp)).1 1 (.slice ba7 kn7 lc7) rfl
   have c9_2:=hc.st.cellAt (hc.old ⟨w3.heap.size,#[.bool s7,.slice ba7 kn7 lc7,.slice ba8 kn8 lc8],29⟩ (by simp)).1 2 (.slice ba8 kn8 lc8) rfl
   simp only [] at c9_0 c9_1 c9_2
   refine wpOp_step rfl fun K hK=>?_
   go_simp
   exact hK _ _ ⟨⟨_,_,_,_,_,_,_,_,_,_,_,_,_,_,_,_,_,_,_,_,_⟩,rfl,rfl,{ hR with hc:=hc,f0:=(fun _=>rfl),o0_1:=(fun h=>Bool.noConfusion (hR.g8_0 h)),g8_0:=(fun _=>rfl) }⟩
  ·obtain rfl:b1 = false:=by simpa using hl9
   have hc:=hR.hc
   refine wpOp_step rfl fun K hK=>?_
   go_simp
   exact hK _ _ ⟨⟨_,_,_,_,_,_,_,_,_,_,_,_,_,_,_,_,_,_,_,_,_⟩,rfl,rfl,{ hR with hc:=hc,f1:=(fun _=>rfl) }⟩
  ·obtain rfl:b2 = false:=by simpa using hl9
   obtain ⟨o9,ho9,hd9⟩:=(mem_ready.1 hi9).2
   cases ho9
   have e1:b1 = true:=hd9 ⟨1,.data⟩ (by simp) rfl
   subst e1
   have h9:=hR.f1 rfl
   subst h9
   have hc:=hR.hc
   refine wpOp_step rfl fun K hK=>?_
   go_simp
   exact hK _ _ ⟨⟨_,_,_,_,_,_,_,_,_,_,_,_,_,_,_,_,_,_,_,_,_⟩,rfl,rfl,{ hR with hc:=hc,f2:=(fun _=>by first|rfl|simp) }⟩
  ·obtain rfl:b3 = false:=by simpa using hl9
   obtain ⟨o9,ho9,hd9⟩:=(mem_ready.1 hi9).2
   cases ho9
   have e2:b2 = true:=hd9 ⟨2,.data⟩ (by simp) rfl
   subst e2
   have h9:=hR.f2 rfl
   subst h9
   have hc:=hR.hc
   refine wpOp_step rfl fun K hK=>?_
   go_simp
   exact hK _ _ ⟨⟨_,_,_,_,_,_,_,_,_,_,_,_,_,_,_,_,_,_,_,_,_⟩,rfl,rfl,{ hR with hc:=hc,f3:=(fun _=>rfl) }⟩
  ·obtain rfl:b4 = false:=by simpa using hl9
   obtain ⟨o9,ho9,hd9⟩:=(mem_ready.1 hi9).2
   cases ho9
   have e3:b3 = true:=hd9 ⟨3,.guard⟩ (by simp) rfl
   subst e3
   have h9:=hR.f3 rfl
   subst h9
   have hc:=hR.hc
   have c9_0:=hc.st.cellAt (hc.old ⟨w3.heap.size,#[.bool s7,.slice ba7 kn7 lc7,.slice ba8 kn8 lc8],29⟩ (by simp)).1 0 (.bool s7) rfl
   have c9_1:=hc.st.cellAt (hc.old ⟨w3.heap.size,#[.bool s7,.slice ba7 kn7 lc7,.slice ba8 kn8 lc8],29⟩ (by simp)).1 1 (.slice ba7 kn7 lc7) rfl
   have c9_2:=hc.st.cellAt (hc.old ⟨w3.heap.size,#[.bool s7,.slice ba7 kn7 lc7,.slice ba8 kn8 lc8],29⟩ (by simp)).1 2 (.slice ba8 kn8 lc8) rfl
   simp only [] at c9_0 c9_1 c9_2
   refine wpOp_step rfl fun K hK=>?_
   go_simp
   exact hK _ _ ⟨⟨_,_,_,_,_,_,_,_,_,_,_,_,_,_,_,_,_,_,_,_,_⟩,rfl,rfl,{ hR with hc:=hc,f4:=(fun _=>rfl) }⟩
  ·obtain rfl:b5 = false:=by simpa using hl9
   obtain ⟨o9,ho9,hd9⟩:=(mem_ready.1 hi9).2
   cases ho9
   have e3:b3 = true:=hd9 ⟨3,.chain⟩ (by simp) rfl
   have e4:b4 = true:=hd9 ⟨4,.data⟩ (by simp) rfl
   subst e3 e4
   have h9:=hR.f3 rfl
   subst h9
   have h9:=hR.f4 rfl
   subst h9
   have hc:=hR.hc
   have HR:=hide hR
   clear hR
   refine wpOp_step rfl fun K hK=>?_
   go_simp
   go_wp2_with fail
   refine (check_rat s7 ba7 ba8 kn7 kn8 lc7 lc8 z _ ⟨unhide HN7,(hc.st.ow (ba7,kn7,lc7,z.num.natAbs) (hc.oso _ (by simp))).num,(hc.st.ow (ba8,kn8,lc8,z.den) (hc.oso _ (by simp))).num⟩).mono ?_
   rintro en w9 ⟨rfl,hb9⟩
   have hR:=unhide HR
   exact hK _ _ ⟨⟨_,_,_,_,_,_,_,_,_,_,_,_,_,_,_,_,_,_,_,_,_⟩,rfl,rfl,{ hR with hc:=(hc.call (hc.st.kept hb9) hb9.size (fun y hy=>hy)),f5:=(fun _=>rfl) }⟩
  ·obtain rfl:b6 = false:=by simpa using hl9
   obtain ⟨o9,ho9,hd9⟩:=(mem_ready.1 hi9).2
   cases ho9
   have e3:b3 = true:=hd9 ⟨3,.guard⟩ (by simp) rfl
   have e5:b5 = true:=hd9 ⟨5,.data⟩ (by simp) rfl
   subst e3 e5
   have h9:=hR.f3 rfl
   subst h9
   have h9:=hR.f5 rfl
   subst h9
   have hc:=hR.hc
   refine wpOp_step rfl fun K hK=>?_
   go_simp
   exact hK _ _ ⟨⟨_,_,_,_,_,_,_,_,_,_,_,_,_,_,_,_,_,_,_,_,_⟩,rfl,rfl,{ hR with hc:=hc,f6:=(fun _=>by first|rfl|simp) }⟩
  ·obtain rfl:b7 = false:=by simpa using hl9
   obtain ⟨o9,ho9,hd9⟩:=(mem_ready.1 hi9).2
   cases ho9
   have e3:b3 = true:=hd9 ⟨3,.data⟩ (by simp) rfl
   have e6:b6 = true:=hd9 ⟨6,.data⟩ (by simp) rfl
   subst e3 e6
   have h9:=hR.f3 rfl
   subst h9
   have h9:=hR.f6 rfl
   subst h9
   have hc:=hR.hc
   refine wpOp_step rfl fun K hK=>?_
   go_simp
   exact hK _ _ ⟨⟨_,_,_,_,_,_,_,_,_,_,_,_,_,_,_,_,_,_,_,_,_⟩,rfl,rfl,{ hR with hc:=hc,f7:=(fun _=>by first|rfl|simp) }⟩
  ·obtain rfl:b8 = false:=by simpa using hl9
   obtain ⟨o9,ho9,hd9⟩:=(mem_ready.1 hi9).2
   cases ho9
   have e0:b0 = true:=hd9 ⟨0,.data⟩ (by simp) rfl
   subst e0
   have h9:=hR.f0 rfl
   subst h9
   have hc:=hR.hc
   have hm9:=hR.o0_0 rfl
   have fz9_0:=hc.st.frozen hm9 0
   have cz9_0:=hc.st.cellAt hm9 0 (.bool false) rfl
   simp only [] at fz9_0 cz9_0
   have fz9_1:=hc.st.frozen hm9 1
   have cz9_1:=hc.st.cellAt hm9 1 (.slice none 0 0) rfl
   simp only [] at fz9_1 cz9_1
   have fz9_2:=hc.st.frozen hm9 2
   have cz9_2:=hc.st.cellAt hm9 2 (.slice none 0 0) rfl
   simp only [] at fz9_2 cz9_2
   have hn9:∀ x,x∈([⟨w3.heap.size,#[.bool s7,.slice ba7 kn7 lc7,.slice ba8 kn8 lc8],29⟩]:List En)→x.b≠w.heap.size+1:=by intro x hx; rcases List.mem_cons.1 hx with rfl|hx; (simp only []; omega);  exact absurd hx List.not_mem_nil
   have hw9:w.heap.size≤w.heap.size+1:=by omega
   refine wpOp_step rfl fun K hK=>?_
   go_simp
   exact hK _ _ ⟨⟨_,_,_,_,_,_,_,_,_,_,_,_,_,_,_,_,_,_,_,_,_⟩,rfl,rfl,{ hR with hc:=(((hc.store hm9 hw9 hn9 0 (.bool s7) (by simp)).store (List.mem_cons_self ..) hw9 hn9 1 (.slice ba7 kn7 lc7) (by simp)).store (List.mem_cons_self ..) hw9 hn9 2 (.slice ba8 kn8 lc8) (by simp)),o0_0:=(fun h=>Bool.noConfusion h),o0_1:=(fun _=>List.mem_cons_self ..),g8_0:=(fun _=>rfl) }⟩
  ·obtain rfl:b9 = false:=by simpa using hl9
   obtain ⟨o9,ho9,hd9⟩:=(mem_ready.1 hi9).2
   cases ho9
   have e7:b7 = true:=hd9 ⟨7,.data⟩ (by simp) rfl
   subst e7
   have h9:=hR.f7 rfl
   subst h9
   have hc:=hR.hc
   refine wpOp_step rfl fun K hK=>?_
   go_simp
   exact hK _ _ ⟨⟨_,_,_,_,_,_,_,_,_,_,_,_,_,_,_,_,_,_,_,_,_⟩,rfl,rfl,{ hR with hc:=hc,f9:=(fun _=>rfl) }⟩
 ·rintro l act Wq4 ⟨⟨b0,b1,b2,b3,b4,b5,b6,b7,b8,b9,v0,v1,v2,v3,v4,v5,v6,v7,v9,bs9,os9⟩,rfl,rfl,hR⟩ hr9
  obtain ⟨hc,f0,f1,f2,f3,f4,f5,f6,f7,f9,o0_0,o0_1,g8_0⟩:=hR
  have eall:=all_done hr9 (by kernel_rfl) rfl
  obtain rfl:b0 = true:=eall 0 (by decide)
  obtain rfl:b1 = true:=eall 1 (by decide)
  obtain rfl:b2 = true:=eall 2 (by decide)
  obtain rfl:b3 = true:=eall 3 (by decide)
  obtain rfl:b4 = true:=eall 4 (by decide)
  obtain rfl:b5 = true:=eall 5 (by decide)
  obtain rfl:b6 = true:=eall 6 (by decide)
  obtain rfl:b7 = true:=eall 7 (by decide)
  obtain rfl:b8 = true:=eall 8 (by decide)
  obtain rfl:b9 = true:=eall 9 (by decide)
  clear hr9 eall
  have h9:=f0 rfl
  subst h9
  have h9:=f1 rfl
  subst h9
  have h9:=f2 rfl
  subst h9
  have h9:=f3 rfl
  subst h9
  have h9:=f4 rfl
  subst h9
  have h9:=f5 rfl
  subst h9
  have h9:=f6 rfl
  subst h9
  have h9:=f7 rfl
  subst h9
  have h9:=f9 rfl
  subst h9
  have hbs9:∀ x,x∈([⟨w.heap.size+1,#[.bool s7,.slice ba7 kn7 lc7,.slice ba8 kn8 lc8],29⟩,⟨w3.heap.size,#[.bool s7,.slice ba7 kn7 lc7,.slice ba8 kn8 lc8],29⟩]:List En)→x∈bs9:=by
   intro x hx
   rcases List.mem_cons.1 hx with rfl|hx
   ·exact (o0_1 rfl)
   rcases List.mem_cons.1 hx with rfl|hx
   ·exact (hc.old _ (by simp)).1
   exact absurd hx List.not_mem_nil
  have hos9:∀ x,x∈([(ba8,kn8,lc8,z.den),(ba7,kn7,lc7,z.num.natAbs)]:Os)→x∈os9:=by
   intro x hx
   rcases List.mem_cons.1 hx with rfl|hx
   ·exact hc.oso _ (by simp)
   rcases List.mem_cons.1 hx with rfl|hx
   ·exact hc.oso _ (by simp)
   exact absurd hx List.not_mem_nil
  have hS:=hc.st.sub hbs9 (fun x hx=>hx) hos9
  have hsz9:=hc.sz
  rw [hS9z,hsW9] at hsz9
  clear hbs9 hos9 hc f0 f1 f2 f3 f4 f5 f6 f7 f9 o0_0 o0_1 g8_0
  have hz4:=hsz9
  clear hsz9 hS9z hS9 hC9 hsW9
  obtain ⟨⟨k0_0,k0_1,k0_2,-⟩,-⟩:=hS.cz ⟨w.heap.size+1,#[.bool s7,.slice ba7 kn7 lc7,.slice ba8 kn8 lc8],29⟩ (by simp)
  simp only [] at k0_0 k0_1 k0_2
  go_wp2
  exact bodyPost_ret (v:=.tuple #[.agg #[.bool s7,.slice ba7 kn7 lc7,.slice ba8 kn8 lc8],.bool true]) (by simp [results,Tryz.results5,go_sem,k0_0,k0_1,k0_2]) rfl ⟨⟨s7,ba7,kn7,lc7,ba8,kn8,lc8,rfl,unhide HN7,(hS.ow (ba7,kn7,lc7,z.num.natAbs) (by simp)).num,(hS.ow (ba8,kn8,lc8,z.den) (by simp)).num⟩,hS.fr⟩
 ·simp
 ·exact ⟨⟨false,false,false,false,false,false,false,false,false,false,undef,undef,undef,undef,undef,undef,undef,undef,.bool false,_,_⟩,rfl,rfl,⟨hC9,nb,nb,nb,nb,nb,nb,nb,nb,nb,(fun _=>by simp),nb,nb⟩⟩
structure MadZ4S where
 (b0 b1 b2 b3 b4 b5 b6 b7 b8 b9:Bool)
 (v0 v1 v2 v3 v4 v5 v6 v7 v9:Value)
 bs9:List En
 os9:Os
structure MadZ4R (w:World) (s:Bool) (a1 a2:Option Addr) (n1 n2 c1 c2:Nat) (z:Rat) (A1:Option Addr) (N1 C1:Nat) (w1:World) (A2:Option Addr) (C2:Nat) (w2:World) (s7:Bool) (ba7 ba8:Option Addr) (kn7 lc7 kn8 lc8:Nat) (w3:World) (S9:Nat) (b0 b1 b2 b3 b4 b5 b6 b7 b8 b9:Bool) (v0 v1 v2 v3 v4 v5 v6 v7 v9:Value)  (bs9:List En) (os9:Os) (w':World):Prop where
 hc:Rc w S9 [⟨w3.heap.size,#[.bool s7,.slice ba7 kn7 lc7,.slice ba8 kn8 lc8],29⟩] [] [(ba8,kn8,lc8,z.den),(ba7,kn7,lc7,z.num.natAbs)] none bs9 os9 w'
 f0:b0 = true→v0 = .agg #[.bool s7,.slice ba7 kn7 lc7,.slice ba8 kn8 lc8]
 f1:b1 = true→v1 = .int .i64 0
 f2:b2 = true→v2 = .bool true
 f3:b3 = true→v3 = .bool true
 f4:b4 = true→v4 = .agg #[.bool s7,.slice ba7 kn7 lc7,.slice ba8 kn8 lc8]
 f5:b5 = true→v5 = .int .i64 0
 f6:b6 = true→v6 = .bool true
 f7:b7 = true→v7 = .bool true
 f9:b9 = true→v9 = .bool true
 o0_0:b8 = false→⟨w.heap.size+1,#[.bool false,.slice none 0 0,.slice none 0 0],29⟩∈bs9
 o0_1:b8 = true→⟨w.heap.size+1,#[.bool s7,.slice ba7 kn7 lc7,.slice ba8 kn8 lc8],29⟩∈bs9
 g8_0:b8 = true→b0 = true
def MadZ4I (w:World) (s:Bool) (a1 a2:Option Addr) (n1 n2 c1 c2:Nat) (z:Rat) (A1:Option Addr) (N1 C1:Nat) (w1:World) (A2:Option Addr) (C2:Nat) (w2:World) (s7:Bool) (ba7 ba8:Option Addr) (kn7 lc7 kn8 lc8:Nat) (w3:World) (S9:Nat) (l:Array Bool) (act:Act) (w':World):MadZ4S→Prop
 | ⟨b0,b1,b2,b3,b4,b5,b6,b7,b8,b9,v0,v1,v2,v3,v4,v5,v6,v7,v9,bs9,os9⟩=>l = #[b0,b1,b2,b3,b4,b5,b6,b7,b8,b9]∧act = { tmps:=#[.agg #[.bool s,.slice a1 n1 c1,.slice a2 n2 c2],.pointer (some ⟨w.heap.size,0,none⟩),.pointer (some ⟨w.heap.size+1,0,none⟩),v9,.pointer (some ⟨w1.heap.size,0,none⟩),.pointer (some ⟨w2.heap.size,0,none⟩),.pointer (some ⟨w3.heap.size,0,none⟩),.int .i64 0,.pointer (some ⟨w.heap.size,1,none⟩),.slice a1 n1 c1,.agg #[.slice A1 N1 C1],.pointer (some ⟨w.heap.size,2,none⟩),.slice a2 n2 c2,.agg #[.slice A2 0 C2],.pointer (some ⟨w2.heap.size,0,none⟩),.slice A2 0 C2,.int .i64 0,.bool true,.slice (some ⟨w2.heap.size+1,0,none⟩) 1 1,.agg #[.slice (some ⟨w2.heap.size+1,0,none⟩) 1 1],.tuple #[.agg #[.bool s7,.slice ba7 kn7 lc7,.slice ba8 kn8 lc8],.int .i64 0],.pointer (some ⟨w.heap.size,0,none⟩),.bool s,.agg #[.slice A1 N1 C1],.agg #[.slice (some ⟨w2.heap.size+1,0,none⟩) 1 1],.tuple #[.agg #[.bool s7,.slice ba7 kn7 lc7,.slice ba8 kn8 lc8],.int .i64 0],.agg #[.bool s7,.slice ba7 kn7 lc7,.slice ba8 kn8 lc8],.int .i64 0,v0,v1,v2,v3,v4,v5,v6,v7],defers:=[] }∧MadZ4R w s a1 a2 n1 n2 c1 c2 z A1 N1 C1 w1 A2 C2 w2 s7 ba7 ba8 kn7 lc7 kn8 lc8 w3 S9 b0 b1 b2 b3 b4 b5 b6 b7 b8 b9 v0 v1 v2 v3 v4 v5 v6 v7 v9 bs9 os9 w'
theorem made_none (s:Bool) (a1 a2:Option Addr) (n1 n2 c1 c2:Nat) (xs ys:List Nat) (z:Rat) (w:World) (h1:SArg w a1 n1 c1 xs) (h2:SArg w a2 n2 c2 ys) (hden:Pl.val (ys.take 5) = 0) (hz:z = mkRat (Rm.sgn s (Pl.val (xs.take 5))) 1) (ho1:¬ Over z.num.natAbs) (ho2:¬ Over z.den) :
  Calls Tryz.prog 5 #[.agg #[.bool s,.slice a1 n1 c1,.slice a2 n2 c2]] w fun en w'=>MadeOk w' en z∧Below w.heap.size w w':=by
 have HZ:=hide hz
 clear hz
 have hS:=Rs.begin w
 replace hS:=hS.alloc #[.bool s,.slice a1 n1 c1,.slice a2 n2 c2] 24
 try simp only [World.size_alloc] at hS
 replace hS:=hS.alloc #[.bool false,.slice none 0 0,.slice none 0 0] 29
 try simp only [World.size_alloc] at hS
 go_enter Tryz.func5,Tryz.ntmps5
 go_wp2_with fail
 refine (cut5_any a1 n1 c1 xs _ (h1.kept hS.fr)).mono ?_
 rintro en w1 ⟨⟨A1,N1,C1,rfl,hm,hk1⟩,hb⟩
 have hz1:=hb.size
 have hs9:=hS.size
 replace hS:=(hS.kept hb).own hm hs9
 clear hm hb hs9
 simp only [World.size_alloc] at hz1
 replace hS:=hS.alloc #[.slice A1 N1 C1] 27
 try simp only [World.size_alloc] at hS
 obtain ⟨⟨k0_0,k0_1,k0_2,-⟩,-⟩:=hS.cz ⟨w.heap.size,#[.bool s,.slice a1 n1 c1,.slice a2 n2 c2],24⟩ (by simp)
 simp only [] at k0_0 k0_1 k0_2
 go_wp2_with fail
 clear k0_0 k0_1 k0_2
 refine (cut5_any a2 n2 c2 ys _ (h2.kept hS.fr)).mono ?_
 rintro en w2 ⟨⟨A2,N2,C2,rfl,hm,hk2⟩,hb⟩
 have hz2:=hb.size
 have hs9:=hS.size
 replace hS:=(hS.kept hb).own hm hs9
 clear hm hb hs9
 simp only [World.size_alloc] at hz2
 obtain rfl:N2 = 0:=(hS.ow (A2,N2,C2,(Pl.val (ys.take 5))) (by simp)).num.zero.2 hden
 replace hS:=hS.alloc #[.slice (some ⟨w2.heap.size+1,0,none⟩) 1 1] 27
 try simp only [World.size_alloc] at hS
 replace hS:=hS.kept (gr_alloc _ (.cells #[.int .u32 1] 40))
 have hs9:w.heap.size≤w2.heap.size:=by omega
 replace hS:=hS.own (base:=w.heap.size) (one_mine _ (.cells #[.slice (some ⟨w2.heap.size+1,0,none⟩) 1 1] 27) w.heap.size hs9) (Nat.le_refl _)
 clear hs9
 obtain ⟨⟨k0_0,-⟩,-⟩:=hS.cz ⟨w2.heap.size,#[.slice (some ⟨w2.heap.size+1,0,none⟩) 1 1],27⟩ (by simp)
 obtain ⟨⟨k1_0,-⟩,-⟩:=hS.cz ⟨w1.heap.size,#[.slice A1 N1 C1],27⟩ (by simp)
 obtain ⟨⟨k2_0,k2_1,k2_2,-⟩,-⟩:=hS.cz ⟨w.heap.size,#[.bool s,.slice a1 n1 c1,.slice a2 n2 c2],24⟩ (by simp)
 simp only [] at k0_0 k1_0 k2_0 k2_1 k2_2
 go_wp2_with fail
 clear k0_0 k1_0 k2_0 k2_1 k2_2
 refine (make_rat s A1 _ N1 1 C1 1 _ 1 _ (hS.ow (A1,N1,C1,(Pl.val (xs.take 5))) (by simp)).num (hS.ow ((some ⟨w2.heap.size+1,0,none⟩),1,1,1) (by simp)).num (by omega)).mono ?_
 rintro en w3 ⟨⟨s7,ba7,kn7,lc7,ba8,kn8,lc8,r7,rfl,hq⟩,hb⟩
 rw [← unhide HZ] at hq
 have hz3:=hb.size
 have hs9:=hS.size
 replace hS:=hS.kept hb
 obtain ⟨r0,e1,e2,e3⟩:=hq.resolve_right (fun h=>h.2.2.elim ho1 ho2)
 subst r0
 have HN7:=hide e1
 replace hS:=(hS.own e2 hs9).own e3 hs9
 clear hq hb e1 e2 e3 hs9
 simp only [World.size_alloc] at hz3
 replace hS:=hS.alloc #[.bool s7,.slice ba7 kn7 lc7,.slice ba8 kn8 lc8] 29
 try simp only [World.size_alloc] at hS
 go_wp2_with fail
 replace hS:=hS.sub (bs':=[⟨w3.heap.size,#[.bool s7,.slice ba7 kn7 lc7,.slice ba8 kn8 lc8],29⟩,⟨w.heap.size+1,#[.bool false,.slice none 0 0,.slice none 0 0],29⟩]) (ms':=[]) (os':=[(ba8,kn8,lc8,z.den),(ba7,kn7,lc7,z.num.natAbs)]) (by intro x hx; rcases List.mem_cons.1 hx with rfl|hx; (simp); rcases List.mem_cons.1 hx with rfl|hx; (simp); exact absurd hx List.not_mem_nil) (by intro x hx; exact absurd hx List.not_mem_nil) (by intro x hx; rcases List.mem_cons.1 hx with rfl|hx; (simp); rcases List.mem_cons.1 hx with rfl|hx; (simp); exact absurd hx List.not_mem_nil)
 refine wp_region_any (by kernel_rfl) ?_
 change wpAny _ _ _ _ _ _ _ (World.drew _)
 have hS9:=hS.drew
 have hsW9:(World.drew (w3.alloc (.cells #[.bool s7,.slice ba7 kn7 lc7,.slice ba8 kn8 lc8] 29))).heap.size = w3.heap.size+1:=by first|rfl|simp
 generalize World.drew (w3.alloc (.cells #[.bool s7,.slice ba7 kn7 lc7,.slice ba8 kn8 lc8] 29)) = Wd at hS9 hsW9 ⊢
 obtain ⟨S9,hS9z⟩:∃ x,x = Wd.heap.size:=⟨_,rfl⟩
 have hC9:=Rc.start (bs:=[⟨w3.heap.size,#[.bool s7,.slice ba7 kn7 lc7,.slice ba8 kn8 lc8],29⟩]) hS9 (by simp)
 rw [← hS9z] at hC9
 have hP9_0:=hS9.bx ⟨w.heap.size+1,#[.bool false,.slice none 0 0,.slice none 0 0],29⟩ (by simp)
 have hP9_0:=block_lt hP9_0.1
 rw [← hS9z] at hP9_0
 simp only [] at hP9_0
 refine wpAny_inv (fun l act w'=>∃ σ,MadZ4I w s a1 a2 n1 n2 c1 c2 z A1 N1 C1 w1 A2 C2 w2 s7 ba7 ba8 kn7 lc7 kn8 lc8 w3 S9 l act w' σ) ?_ ?_ _ _ _ _ ?_ ?_
 ·intro l act w' i9 hI9 hi9 hl9
  have hin9:i9 < 10:=by
   by_cases h:i9 < 10
   ·exact h
   ·obtain ⟨⟨⟩,rfl,_⟩:=hI9
    rw [Array.getElem?_eq_none (by simp; omega)] at hl9; cases hl9
  have hcase:i9 = 0∨i9 = 1∨i9 = 2∨i9 = 3∨i9 = 4∨i9 = 5∨i9 = 6∨i9 = 7∨i9 = 8∨i9 = 9:=by omega
  clear hin9
  obtain ⟨⟨b0,b1,b2,b3,b4,b5,b6,b7,b8,b9,v0,v1,v2,v3,v4,v5,v6,v7,v9,bs9,os9⟩,rfl,rfl,hR⟩:=hI9
  rcases hcase with rfl|rfl|rfl|rfl|rfl|rfl|rfl|rfl|rfl|rfl
  ·obtain rfl:b0 = false:=by simpa using hl9
   have hc:=hR.hc
   have c9_0:=hc.st.cellAt (hc.old ⟨w3.heap.size,#[.bool s7,.slice ba7 kn7 lc7,.slice ba8 kn8 lc8],29⟩ (by simp)).1 0 (.bool s7) rfl
   have c9_1:=hc.st.cellAt (hc.old ⟨w3.heap.size,#[.bool s7,.slice ba7 kn7 lc7,.slice ba8 kn8 lc8],29⟩ (by simp)).1 1 (.slice ba7 kn7 lc7) rfl
   have c9_2:=hc.st.cellAt (hc.old ⟨w3.heap.size,#[.bool s7,.slice ba7 kn7 lc7,.slice ba8 kn8 lc8],29⟩ (by simp)).1 2 (.slice ba8 kn8 lc8) rfl
   simp only [] at c9_0 c9_1 c9_2
   refine wpOp_step rfl fun K hK=>?_
   go_simp
   exact hK _ _ ⟨⟨_,_,_,_,_,_,_,_,_,_,_,_,_,_,_,_,_,_,_,_,_⟩,rfl,rfl,{ hR with hc:=hc,f0:=(fun _=>rfl),o0_1:=(fun h=>Bool.noConfusion (hR.g8_0 h)),g8_0:=(fun _=>rfl) }⟩
  ·obtain rfl:b1 = false:=by simpa using hl9
   have hc:=hR.hc
   refine wpOp_step rfl fun K hK=>?_
   go_simp
   exact hK _ _ ⟨⟨_,_,_,_,_,_,_,_,_,_,_,_,_,_,_,_,_,_,_,_,_⟩,rfl,rfl,{ hR with hc:=hc,f1:=(fun _=>rfl) }⟩
  ·obtain rfl:b2 = false:=by simpa using hl9
   obtain ⟨o9,ho9,hd9⟩:=(mem_ready.1 hi9).2
   cases ho9
   have e1:b1 = true:=hd9 ⟨1,.data⟩ (by simp) rfl
   subst e1
   have h9:=hR.f1 rfl
   subst h9
   have hc:=hR.hc
   refine wpOp_step rfl fun K hK=>?_
   go_simp
   exact hK _ _ ⟨⟨_,_,_,_,_,_,_,_,_,_,_,_,_,_,_,_,_,_,_,_,_⟩,rfl,rfl,{ hR with hc:=hc,f2:=(fun _=>by first|rfl|simp) }⟩
  ·obtain rfl:b3 = false:=by simpa using hl9
   obtain ⟨o9,ho9,hd9⟩:=(mem_ready.1 hi9).2
   cases ho9
   have e2:b2 = true:=hd9 ⟨2,.data⟩ (by simp) rfl
   subst e2
   have h9:=hR.f2 rfl
   subst h9
   have hc:=hR.hc
   refine wpOp_step rfl fun K hK=>?_
   go_simp
   exact hK _ _ ⟨⟨_,_,_,_,_,_,_,_,_,_,_,_,_,_,_,_,_,_,_,_,_⟩,rfl,rfl,{ hR with hc:=hc,f3:=(fun _=>rfl) }⟩
  ·obtain rfl:b4 = false:=by simpa using hl9
   obtain ⟨o9,ho9,hd9⟩:=(mem_ready.1 hi9).2
   cases ho9
   have e3:b3 = true:=hd9 ⟨3,.guard⟩ (by simp) rfl
   subst e3
   have h9:=hR.f3 rfl
   subst h9
   have hc:=hR.hc
   have c9_0:=hc.st.cellAt (hc.old ⟨w3.heap.size,#[.bool s7,.slice ba7 kn7 lc7,.slice ba8 kn8 lc8],29⟩ (by simp)).1 0 (.bool s7) rfl
   have c9_1:=hc.st.cellAt (hc.old ⟨w3.heap.size,#[.bool s7,.slice ba7 kn7 lc7,.slice ba8 kn8 lc8],29⟩ (by simp)).1 1 (.slice ba7 kn7 lc7) rfl
   have c9_2:=hc.st.cellAt (hc.old ⟨w3.heap.size,#[.bool s7,.slice ba7 kn7 lc7,.slice ba8 kn8 lc8],29⟩ (by simp)).1 2 (.slice ba8 kn8 lc8) rfl
   simp only [] at c9_0 c9_1 c9_2
   refine wpOp_step rfl fun K hK=>?_
   go_simp
   exact hK _ _ ⟨⟨_,_,_,_,_,_,_,_,_,_,_,_,_,_,_,_,_,_,_,_,_⟩,rfl,rfl,{ hR with hc:=hc,f4:=(fun _=>rfl) }⟩
  ·obtain rfl:b5 = false:=by simpa using hl9
   obtain ⟨o9,ho9,hd9⟩:=(mem_ready.1 hi9).2
   cases ho9
   have e3:b3 = true:=hd9 ⟨3,.chain⟩ (by simp) rfl
   have e4:b4 = true:=hd9 ⟨4,.data⟩ (by simp) rfl
   subst e3 e4
   have h9:=hR.f3 rfl
   subst h9
   have h9:=hR.f4 rfl
   subst h9
   have hc:=hR.hc
   have HR:=hide hR
   clear hR
   refine wpOp_step rfl fun K hK=>?_
   go_simp
   go_wp2_with fail
   refine (check_rat s7 ba7 ba8 kn7 kn8 lc7 lc8 z _ ⟨unhide HN7,(hc.st.ow (ba7,kn7,lc7,z.num.natAbs) (hc.oso _ (by simp))).num,(hc.st.ow (ba8,kn8,lc8,z.den) (hc.oso _ (by simp))).num⟩).mono ?_
   rintro en w9 ⟨rfl,hb9⟩
   have hR:=unhide HR
   exact hK _ _ ⟨⟨_,_,_,_,_,_,_,_,_,_,_,_,_,_,_,_,_,_,_,_,_⟩,rfl,rfl,{ hR with hc:=(hc.call (hc.st.kept hb9) hb9.size (fun y hy=>hy)),f5:=(fun _=>rfl) }⟩
  ·obtain rfl:b6 = false:=by simpa using hl9
   obtain ⟨o9,ho9,hd9⟩:=(mem_ready.1 hi9).2
   cases ho9
   have e3:b3 = true:=hd9 ⟨3,.guard⟩ (by simp) rfl
   have e5:b5 = true:=hd9 ⟨5,.data⟩ (by simp) rfl
   subst e3 e5
   have h9:=hR.f3 rfl
   subst h9
   have h9:=hR.f5 rfl
   subst h9
   have hc:=hR.hc
   refine wpOp_step rfl fun K hK=>?_
   go_simp
   exact hK _ _ ⟨⟨_,_,_,_,_,_,_,_,_,_,_,_,_,_,_,_,_,_,_,_,_⟩,rfl,rfl,{ hR with hc:=hc,f6:=(fun _=>by first|rfl|simp) }⟩
  ·obtain rfl:b7 = false:=by simpa using hl9
   obtain ⟨o9,ho9,hd9⟩:=(mem_ready.1 hi9).2
   cases ho9
   have e3:b3 = true:=hd9 ⟨3,.data⟩ (by simp) rfl
   have e6:b6 = true:=hd9 ⟨6,.data⟩ (by simp) rfl
   subst e3 e6
   have h9:=hR.f3 rfl
   subst h9
   have h9:=hR.f6 rfl
   subst h9
   have hc:=hR.hc
   refine wpOp_step rfl fun K hK=>?_
   go_simp
   exact hK _ _ ⟨⟨_,_,_,_,_,_,_,_,_,_,_,_,_,_,_,_,_,_,_,_,_⟩,rfl,rfl,{ hR with hc:=hc,f7:=(fun _=>by first|rfl|simp) }⟩
  ·obtain rfl:b8 = false:=by simpa using hl9
   obtain ⟨o9,ho9,hd9⟩:=(mem_ready.1 hi9).2
   cases ho9
   have e0:b0 = true:=hd9 ⟨0,.data⟩ (by simp) rfl
   subst e0
   have h9:=hR.f0 rfl
   subst h9
   have hc:=hR.hc
   have hm9:=hR.o0_0 rfl
   have fz9_0:=hc.st.frozen hm9 0
   have cz9_0:=hc.st.cellAt hm9 0 (.bool false) rfl
   simp only [] at fz9_0 cz9_0
   have fz9_1:=hc.st.frozen hm9 1
   have cz9_1:=hc.st.cellAt hm9 1 (.slice none 0 0) rfl
   simp only [] at fz9_1 cz9_1
   have fz9_2:=hc.st.frozen hm9 2
   have cz9_2:=hc.st.cellAt hm9 2 (.slice none 0 0) rfl
   simp only [] at fz9_2 cz9_2
   have hn9:∀ x,x∈([⟨w3.heap.size,#[.bool s7,.slice ba7 kn7 lc7,.slice ba8 kn8 lc8],29⟩]:List En)→x.b≠w.heap.size+1:=by intro x hx; rcases List.mem_cons.1 hx with rfl|hx; (simp only []; omega);  exact absurd hx List.not_mem_nil
   have hw9:w.heap.size≤w.heap.size+1:=by omega
   refine wpOp_step rfl fun K hK=>?_
   go_simp
   exact hK _ _ ⟨⟨_,_,_,_,_,_,_,_,_,_,_,_,_,_,_,_,_,_,_,_,_⟩,rfl,rfl,{ hR with hc:=(((hc.store hm9 hw9 hn9 0 (.bool s7) (by simp)).store (List.mem_cons_self ..) hw9 hn9 1 (.slice ba7 kn7 lc7) (by simp)).store (List.mem_cons_self ..) hw9 hn9 2 (.slice ba8 kn8 lc8) (by simp)),o0_0:=(fun h=>Bool.noConfusion h),o0_1:=(fun _=>List.mem_cons_self ..),g8_0:=(fun _=>rfl) }⟩
  ·obtain rfl:b9 = false:=by simpa using hl9
   obtain ⟨o9,ho9,hd9⟩:=(mem_ready.1 hi9).2
   cases ho9
   have e7:b7 = true:=hd9 ⟨7,.data⟩ (by simp) rfl
   subst e7
   have h9:=hR.f7 rfl
   subst h9
   have hc:=hR.hc
   refine wpOp_step rfl fun K hK=>?_
   go_simp
   exact hK _ _ ⟨⟨_,_,_,_,_,_,_,_,_,_,_,_,_,_,_,_,_,_,_,_,_⟩,rfl,rfl,{ hR with hc:=hc,f9:=(fun _=>rfl) }⟩
 ·rintro l act Wq4 ⟨⟨b0,b1,b2,b3,b4,b5,b6,b7,b8,b9,v0,v1,v2,v3,v4,v5,v6,v7,v9,bs9,os9⟩,rfl,rfl,hR⟩ hr9
  obtain ⟨hc,f0,f1,f2,f3,f4,f5,f6,f7,f9,o0_0,o0_1,g8_0⟩:=hR
  have eall:=all_done hr9 (by kernel_rfl) rfl
  obtain rfl:b0 = true:=eall 0 (by decide)
  obtain rfl:b1 = true:=eall 1 (by decide)
  obtain rfl:b2 = true:=eall 2 (by decide)
  obtain rfl:b3 = true:=eall 3 (by decide)
  obtain rfl:b4 = true:=eall 4 (by decide)
  obtain rfl:b5 = true:=eall 5 (by decide)
  obtain rfl:b6 = true:=eall 6 (by decide)
  obtain rfl:b7 = true:=eall 7 (by decide)
  obtain rfl:b8 = true:=eall 8 (by decide)
  obtain rfl:b9 = true:=eall 9 (by decide)
  clear hr9 eall
  have h9:=f0 rfl
  subst h9
  have h9:=f1 rfl
  subst h9
  have h9:=f2 rfl
  subst h9
  have h9:=f3 rfl
  subst h9
  have h9:=f4 rfl
  subst h9
  have h9:=f5 rfl
  subst h9
  have h9:=f6 rfl
  subst h9
  have h9:=f7 rfl
  subst h9
  have h9:=f9 rfl
  subst h9
  have hbs9:∀ x,x∈([⟨w.heap.size+1,#[.bool s7,.slice ba7 kn7 lc7,.slice ba8 kn8 lc8],29⟩,⟨w3.heap.size,#[.bool s7,.slice ba7 kn7 lc7,.slice ba8 kn8 lc8],29⟩]:List En)→x∈bs9:=by
   intro x hx
   rcases List.mem_cons.1 hx with rfl|hx
   ·exact (o0_1 rfl)
   rcases List.mem_cons.1 hx with rfl|hx
   ·exact (hc.old _ (by simp)).1
   exact absurd hx List.not_mem_nil
  have hos9:∀ x,x∈([(ba8,kn8,lc8,z.den),(ba7,kn7,lc7,z.num.natAbs)]:Os)→x∈os9:=by
   intro x hx
   rcases List.mem_cons.1 hx with rfl|hx
   ·exact hc.oso _ (by simp)
   rcases List.mem_cons.1 hx with rfl|hx
   ·exact hc.oso _ (by simp)
   exact absurd hx List.not_mem_nil
  have hS:=hc.st.sub hbs9 (fun x hx=>hx) hos9
  have hsz9:=hc.sz
  rw [hS9z,hsW9] at hsz9
  clear hbs9 hos9 hc f0 f1 f2 f3 f4 f5 f6 f7 f9 o0_0 o0_1 g8_0
  have hz4:=hsz9
  clear hsz9 hS9z hS9 hC9 hsW9
  obtain ⟨⟨k0_0,k0_1,k0_2,-⟩,-⟩:=hS.cz ⟨w.heap.size+1,#[.bool s7,.slice ba7 kn7 lc7,.slice ba8 kn8 lc8],29⟩ (by simp)
  simp only [] at k0_0 k0_1 k0_2
  go_wp2
  exact bodyPost_ret (v:=.tuple #[.agg #[.bool s7,.slice ba7 kn7 lc7,.slice ba8 kn8 lc8],.bool true]) (by simp [results,Tryz.results5,go_sem,k0_0,k0_1,k0_2]) rfl ⟨⟨s7,ba7,kn7,lc7,ba8,kn8,lc8,rfl,unhide HN7,(hS.ow (ba7,kn7,lc7,z.num.natAbs) (by simp)).num,(hS.ow (ba8,kn8,lc8,z.den) (by simp)).num⟩,hS.fr⟩
 ·simp
 ·exact ⟨⟨false,false,false,false,false,false,false,false,false,false,undef,undef,undef,undef,undef,undef,undef,undef,.bool false,_,_⟩,rfl,rfl,⟨hC9,nb,nb,nb,nb,nb,nb,nb,nb,nb,(fun _=>by simp),nb,nb⟩⟩
end Go.Proofs.YtfhmbnnlcjdblaaGreat
