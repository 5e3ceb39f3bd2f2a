/- Of what DigitsNamesRow stands on: Add RefShift BgTrim2 BgCop BgSet BgInt2. -/
import Derived.Test.YtplihgoapiiigaaGreatDoorPad
import Derived.BigQuiet
import Derived.Laws.CopyOwn
import Derived.Deep.Cut
import Derived.Test.YtplihgoapiiigaaGreatDoorPah
import Derived.Test.YtplihgoapiiigaaGreatDoorPak
import Derived.Test.YtplihgoapiiigaaGreatDoorProg
import Derived.WalkKit
import Derived.WalkSpells
import Derived.WalkLawsBesides
import Derived.Test.YtplihgoapiiigaaGreatDoorPac
import Derived.Test.YtplihgoapiiigaaGreatDoorPai
namespace Go.Proofs.YtplihgoapiiigaaGreatDoor
open Go.RowKit
set_option maxHeartbeats 2000000
set_option maxRecDepth 20000
theorem Tryz.size_limb:(Tryz.prog.info? 74).map (·.size) = some 1:=by kernel_rfl
theorem Box.only {w w':World} {p C:Nat} {v:Value} (h:Box w p v) (k:Only C w w') (hne:p≠C):Box w' p v:=by
 unfold Box; rw [k.block p hne]; exact h
def TrimTo (w:World) (base:Nat) (zs:List Nat) (e:Ending) (w':World):Prop:=
 w = w'∧∃ a n c ys,e = .returned (.slice a n c)∧n≤zs.length∧ys.length = n∧Own w base (.slice a n c) ys∧Pl.Wf ys∧Pl.Norm ys∧Pl.val ys = Pl.val zs
theorem btrim_row {w:World} {B base n cap:Nat} {zs:List Nat} (h:Row w B zs) (hB:base≤B) (hz:zs.length≤9223372036854775807) (wz:Pl.Wf zs) (hn:n≤zs.length) (hc:cap≤zs.length) (hnc:n≤cap)
  (h0:∀ j,n≤j→j < zs.length→zs[j]?.getD 0 = 0) (h1:n = 0∨zs[n - 1]?.getD 0≠0) :
  (zs.take n).length = n∧Own w base (.slice (some ⟨B,0,none⟩) n cap) (zs.take n)∧Pl.Wf (zs.take n)∧Pl.Norm (zs.take n)∧Pl.val (zs.take n) = Pl.val zs:=by
 obtain ⟨a1,_,a3,a4,a5⟩:=trim_row h hB hz wz hn h0 h1
 exact ⟨a1,h.own hB n cap hnc hc hz,a3,a4,a5⟩
theorem btrim_own (base:Nat) (v:Value) (zs:List Nat) (w:World) (h:Own w base v zs) (hw:Pl.Wf zs):Calls Tryz.prog 86 #[v] w (TrimTo w base zs):=by
 have h':=h
 rcases h with ⟨rfl,rfl⟩|⟨g,cap,cur,rfl,hg,hh,h1,h2,h3,hc⟩
 ·refine (btrim_empty none 0 w).mono ?_
  rintro e w' ⟨rfl,rfl⟩
  exact ⟨rfl,none,0,0,[],rfl,Nat.le_refl _,rfl,Or.inl ⟨rfl,rfl⟩,Pl.wf_nil,Pl.norm_nil,rfl⟩
 ·refine (btrim_at g 0 zs.length cap zs w rfl h1 h3 (fun j hj=>by rw [Nat.zero_add,cell_of_row w g j _ _ _ hh]; exact hc j hj)).mono ?_
  rintro e w' ⟨rfl,n,hn,h0,hl,rfl⟩
  have hlen:(zs.take n).length = n:=by rw [List.length_take]; omega
  refine ⟨rfl,_,n,cap,zs.take n,rfl,hn,hlen,Or.inr ⟨g,cap,cur,by rw [hlen],hg,hh,by omega,h2,h3,fun j hj=>?_⟩,Pl.wf_take hw n,Pl.norm_of ?_,Pl.take_of_zeros zs n hn h0⟩
  ·rw [hlen] at hj
   rw [hc j (by omega),List.getElem?_take,if_pos hj]
  ·rw [hlen]
   rcases hl with hl|hl
   ·exact Or.inl hl
   ·by_cases hn0:n = 0
    ·exact Or.inl hn0
    ·right
     rw [List.getElem?_take,if_pos (by omega)]
     exact hl
theorem copy_all (w:World) (a:Option Addr) (n cap:Nat) (xs:List Nat) (hn:xs.length = n) (hl:Lim w a xs) (hb:n≤1000000) :
  ∃ w2,(Builtin.copy_ #[40,40] 3 #[.slice (some ⟨w.heap.size,0,none⟩) n n,.slice a n cap]).run Tryz.prog (w.alloc (.cells (lc (List.replicate n 0)) 74)) = .ok (.int .i64 (n:Int)) w2 ∧
   Row w2 w.heap.size xs∧Below w.heap.size w w2:=by
 rcases hl.parts with hx|⟨hp,b,off,rfl,hlt,hc⟩
 ·subst hx
  obtain rfl:n = 0:=by rw [← hn]; rfl
  exact ⟨_,run_copy_none (P:=Tryz.prog) _ 40 40 3 74 _ a _ _ 0 cap Tryz.under_limbs Tryz.size_limb (by simp),Row.made w [],gr_alloc _ _⟩
 ·have hg:=heap_alloc_new w (.cells (lc (List.replicate n 0)) 74)
  have hrun:=run_copy_row (P:=Tryz.prog) (w.alloc (.cells (lc (List.replicate n 0)) 74)) 40 40 3 74 w.heap.size 0 n n ⟨b,off,none⟩ n cap (lc (List.replicate n 0)) 74 (xs.map (fun z:Nat=>Value.int .u32 (z:Int))) Tryz.under_limbs Tryz.size_limb hg
   (by rw [List.length_map,hn]; exact (Nat.min_eq_left (by omega)).symm)
   (fun j v hj=>by
    have hjn:j < xs.length:=by have:=(List.getElem?_eq_some_iff.1 hj).1; simpa using this
    have hv:v = .int .u32 ((xs[j]?.getD 0:Nat):Int):=by
     rw [List.getElem?_map,List.getElem?_eq_getElem hjn] at hj
     simp at hj
     rw [← hj]
     simp [hjn]
    rw [hv,Addr.add_lit,(gr_alloc w _).cell (by exact hlt)]
    exact hc j hjn)
   (by rw [List.length_map,size_lc,List.length_replicate,hn]; omega)
   (fun u hu=>by obtain ⟨z,_,rfl⟩:=List.mem_map.1 hu; rfl)
  rw [List.length_map,hn] at hrun
  refine ⟨_,hrun,⟨#[],?_⟩,below_setRow (gr_alloc _ _) (Nat.le_refl _) _⟩
  rw [setRow_heap _ _ _ _ _ _ hg]
  simp only [lc,List.take_zero,List.nil_append,Nat.zero_add]
  rw [← List.map_drop,List.drop_replicate,← List.map_append]
  simp
theorem bcopied_row (a:Option Addr) (n cap:Nat) (xs:List Nat) (w:World) (hn:xs.length = n) (hl:Lim w a xs) (hb:n≤1000000) :
  Calls Tryz.prog 50 #[.slice a n cap] w fun e w'=>e = .returned (.slice (some ⟨w.heap.size,0,none⟩) n n)∧Row w' w.heap.size xs∧Below w.heap.size w w':=by
 have hmk:=make_limbs (n:Int) n rfl (by omega)
 obtain ⟨w2,hcp,hr2,hb2⟩:=copy_all w a n cap xs hn hl hb
 have HR:=hide (And.intro hr2 hb2)
 clear hr2 hb2 hl
 go_enter Tryz.func50,Tryz.ntmps50
 go_wp2
 go_ret
 exact ⟨rfl,HR.out.1,HR.out.2⟩
theorem bcopied_num (a:Option Addr) (n cap m:Nat) (w:World) (h:Num w a n m) :
  Calls Tryz.prog 50 #[.slice a n cap] w fun e w'=>(∃ A C,e = .returned (.slice A n C)∧Mine w' w.heap.size A n C m)∧Below w.heap.size w w':=by
 obtain ⟨xs,hn,hl,hw,hN,hv,hb⟩:=h
 refine (bcopied_row a n cap xs w hn hl (by omega)).mono ?_
 rintro e w' ⟨rfl,hr,hbl⟩
 refine ⟨⟨_,_,rfl,xs,hn,?_,hw,hN,hv,hb⟩,hbl⟩
 have k:=hr.own (base:=w.heap.size) (Nat.le_refl _) n n (Nat.le_refl _) (by omega) (by omega)
 rwa [List.take_of_length_le (by omega)] at k
theorem own_but {p:Nat} {W W':World} {v:Value} {xs:List Nat} {cs:Array Value} {t:TypeId} (ho:Own W 0 v xs) (hb:OneBut p W W') (hp:W.heap[p]? = some (.cells cs t (0,0))) (ht:t≠74):Own W' 0 v xs:=by
 rcases ho with h|⟨g,cap,cur,hv,hg,hh,h1,h2,h3,hc⟩
 ·exact Or.inl h
 ·refine Or.inr ⟨g,cap,cur,hv,hg,?_,h1,h2,h3,hc⟩
  rw [hb.block g (block_lt hh) (fun e=>by subst e; rw [hh] at hp; cases hp; exact ht rfl)]
  exact hh
theorem mine_but {p:Nat} {W W':World} {a:Option Addr} {n c m:Nat} {cs:Array Value} {t:TypeId} (h:Mine W 0 a n c m) (hb:OneBut p W W') (hp:W.heap[p]? = some (.cells cs t (0,0))) (ht:t≠74):Mine W' 0 a n c m:=by
 obtain ⟨xs,hn,ho,hw,hN,hv,hl⟩:=h
 exact ⟨xs,hn,own_but ho hb hp ht,hw,hN,hv,hl⟩
theorem btrim_same (a:Option Addr) (n c m:Nat) (W:World) (h:Mine W 0 a n c m):Calls Tryz.prog 86 #[.slice a n c] W fun e W'=>e = .returned (.slice a n c)∧Below W.heap.size W W':=by
 obtain ⟨xs,hn,ho,hw,hN,hv,hl⟩:=h
 rcases ho with ⟨h,rfl⟩|⟨g,cap,cur,h,hg,hh,h1,h2,h3,hc⟩
 ·injection h with e1 e2 e3
  subst e1 e2 e3
  exact (btrim_empty none 0 W).mono fun e W' ⟨k1,k2⟩=>⟨k2,by rw [← k1]; exact gr_refl _⟩
 ·injection h with e1 e2 e3
  subst e1 e3
  refine (btrim_at g 0 n c xs W hn (by omega) h3 (fun j hj=>by rw [Nat.zero_add,cell_of_row W g j _ _ _ hh]; exact hc j hj)).mono ?_
  rintro e W' ⟨rfl,k,hk,h0,hlast,rfl⟩
  have:k = n:=by
   by_cases hkn:k < xs.length
   ·have hp:0 < xs.length:=by omega
    exact absurd (h0 (xs.length - 1) (by omega) (by omega)) (Pl.norm_last hN hp)
   ·omega
  subst this
  exact ⟨rfl,gr_refl _⟩
theorem bset_num (p:Nat) (g g0:Bool) (a0:Option Addr) (n0 c0:Nat) (a:Option Addr) (n c m:Nat) (W:World) (hp:W.heap[p]? = some (.cells #[.bool g0,.slice a0 n0 c0] 54 (0,0))) (h:Mine W 0 a n c m) :
  Calls Tryz.prog 54 #[.pointer (some ⟨p,0,none⟩),.bool g,.slice a n c] W fun en W'=>∃ A N C,en = .returned (.pointer (some ⟨p,0,none⟩))∧Below W.heap.size (evs (sts p 0 [.bool (g && !decide (m = 0)),.slice A N C]) W) W'∧Mine W' 0 A N C m:=by
 have HT:Hid (∀ W':World,OneBut p W W'→Calls Tryz.prog 86 #[.slice a n c] W' fun en W2=>en = .returned (.slice a n c)∧Below W'.heap.size W' W2):=hide fun W' k=>btrim_same a n c m W' (mine_but h k hp (by decide))
 have hz:=h.num.zero
 have fin:∀ (b:Bool),b = (g && !decide (m = 0))→∀ (en:Ending) (W':World),(en = .returned (.pointer (some ⟨p,0,none⟩))∧OneBut p W W'∧W'.heap[p]? = some (.cells #[.bool b,.slice a n c] 54 (0,0)))→∃ A N C,en = .returned (.pointer (some ⟨p,0,none⟩))∧Below W.heap.size (evs (sts p 0 [.bool (g && !decide (m = 0)),.slice A N C]) W) W'∧Mine W' 0 A N C m:=fun b hb en W' ⟨k1,k2,k3⟩=>⟨a,n,c,k1,by
  rw [← hb]
  refine OneBut.below (by decide) ?_ ?_ rfl (Nat.le_refl _) hp k2 k3
  ·intro x hx z; simp at hx; rcases hx with rfl|rfl <;> simp
  ·intro x hx z; simp at hx; rcases hx with rfl|rfl <;> simp,mine_but h k2 hp (by decide)⟩
 cases g
 ·exact (bset_f W p g0 a0 n0 c0 a n c n hp HT).mono (fin false rfl)
 ·refine (bset_t W p g0 a0 n0 c0 a n c n (!decide (m = 0)) hp HT ?_).mono (fin _ rfl)
  by_cases hm:m = 0
  ·rw [decide_eq_true hm,decide_eq_false (by omega)]; rfl
  ·rw [decide_eq_false hm,decide_eq_true (by omega)]; rfl
theorem bset_x (w:World) (p:Nat) (g0:Bool) (a0:Option Addr) (n0 c0 m:Nat) (q:Nat) (g:Bool) (a:Option Addr) (n c:Nat) (hp:w.heap[p]? = some (.cells #[.bool g0,.slice a0 n0 c0] 54 (0,0))) (hq:w.heap[q]? = some (.cells #[.bool g,.slice a n c] 54 (0,0))) (hne:q≠p) (h1:Num w a n m) (CP:Hid (∀ (W:World) (a:Option Addr) (n c:Nat),Num W a n m→Calls Tryz.prog 50 #[.slice a n c] W fun en W'=>(∃ A N C,en = .returned (.slice A N C)∧Mine W' 0 A N C m)∧Below W.heap.size W W'))  :
  Calls Tryz.prog 47 #[.pointer (some ⟨p,0,none⟩),.pointer (some ⟨q,0,none⟩)] w fun en w'=>∃ A N C,en = .returned (.pointer (some ⟨p,0,none⟩))∧OneBut p w w'∧w'.heap[p]? = some (.cells #[.bool (g && !decide (m = 0)),.slice A N C] 54 (0,0))∧Mine w' 0 A N C m:=by
 refine calls_sym Tryz.func47 rfl (by kernel_rfl) fun T hK=>?_
 replace hK:Kn T _ [(0,.pointer (some ⟨p,0,none⟩)),(1,.pointer (some ⟨q,0,none⟩))]:=hK
 have hS:=Fb.rcv hp
 replace hS:=hS.more hq ⟨fun _=>hne,trivial⟩
 have hG:GsAt [gN a n m] w:=⟨h1,trivial⟩
 refine wq hS hG hK (fun p1=>[.v 4 (.pointer none)]) (fun p1=>[(0,.pointer (some ⟨p,0,none⟩)),(1,.pointer (some ⟨q,0,none⟩)),(4,.pointer none)]) (fun p1=>?_) (fun p1 W1 T hF hK=>?_)
 ·refine okv ?_
  exact ok_nil
 obtain ⟨hS,hG⟩:=SymF.fg hS hF
 clear hF
 have z1:=OneBut.size hS.fr
 refine wq hS hG hK (fun p2=>[.v 5 (.pointer (some ⟨p,0,none⟩)),.v 6 (.pointer (some ⟨q,0,none⟩)),.v 7 (.pointer (some ⟨q,0,none⟩)),.v 8 (.pointer (some ⟨q,0,none⟩)),.l 9 (.bool g) 0 0,.v 10 (.pointer (some ⟨q,0,none⟩)),.v 11 (.pointer (some ⟨q,0,none⟩)),.v 12 (.pointer (some ⟨q,1,none⟩)),.l 13 (.slice a n c) 0 1,.c (some 14) (cM0 m fun x9=>x9),.w (some 15) 1 0 [.bool (g && !decide (m = 0)),.slice (p2 10).A (p2 10).N (p2 10).C] (fun q9=>[.bool (g && !decide (m = 0)),.slice q9.A q9.N q9.C]) (cP (.pointer (some ⟨p,0,none⟩)) m),.v 4 (.pointer (some ⟨p,0,none⟩))]) (fun p2=>[(4,.pointer (some ⟨p,0,none⟩))]) (fun p2=>?_) (fun p2 W2 T hF hK=>?_)
 ·iterate 4 refine okv ?_
  refine okl ?_
  iterate 3 refine okv ?_
  refine okl ?_
  refine okc (fun W cx=>as_0 (unhide CP _ _ _ c (cx.G.1))) ?_
  refine ok_W p #[.bool g0,.slice a0 n0 c0] 54 (fun W cx hW=>as_wp (fun s9=>[.bool (g && !decide (m = 0)),s9]) (fun _=>rfl) (bset_num _ g _ _ _ _ _ _ _ m W hW (cx.F 9 (by kernel_rfl)))) (by kernel_rfl) (by kernel_rfl) (by kernel_rfl) (by kernel_rfl) (by kernel_rfl) rfl (by kernel_rfl) ?_
  refine okv ?_
  exact ok_nil
 replace hS:=SymF.fc hS hF [0,1] [⟨q,#[.bool g,.slice a n c],54,false⟩,⟨p,#[.bool (g && !decide (m = 0)),.slice (p2 10).A (p2 10).N (p2 10).C],54,true⟩]
 replace hG:GsAt (gM 0 (p2 9).A (p2 9).N (p2 9).C m :: gM 0 (p2 10).A (p2 10).N (p2 10).C m :: _) W2:=⟨hF.fx 9,hF.fx 10,hF.gx⟩
 clear hF
 have z2:=OneBut.size hS.fr
 refine wp_ret ?_
 exact sym_end hS hK (.pointer (some ⟨p,0,none⟩)) [] [] (by kernel_rfl) (by kernel_rfl) ⟨_,_,_,rfl,hS.fr,hS.bx _ (List.mem_cons_of_mem _ (List.mem_cons_self ..)),hG.2.1⟩
end Go.Proofs.YtplihgoapiiigaaGreatDoor
