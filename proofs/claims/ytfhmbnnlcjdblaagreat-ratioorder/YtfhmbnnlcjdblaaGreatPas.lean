/- Of what RatioOrderRow stands on: RFrac RDist RBelow RMulOver RSplEnd RApEnd RProd RRat RQuo RSame. -/
import Derived.Test.YtfhmbnnlcjdblaaGreatPar
import Derived.BigQuiet
namespace Go.Proofs.YtfhmbnnlcjdblaaGreat
open Go.RowKit
set_option maxHeartbeats 8000000
set_option maxRecDepth 20000
theorem nought_any (a:Option Addr) (n cap:Nat) (w:World) :
  Calls Tryz.prog 25 #[.agg #[.slice a n cap]] w fun en w'=>en = .returned (.bool (decide (n = 0)))∧Below w.heap.size w w':=by
 go_enter Tryz.func25,Tryz.ntmps25
 go_wp2
 go_ret
 refine ⟨ret_bool ?_,gr_alloc _ _⟩
 by_cases h:n = 0 <;> simp [h] <;> omega
theorem isOne_any (a:Option Addr) (n cap m:Nat) (w:World) (h:Num w a n m) :
  Calls Tryz.prog 38 #[.agg #[.slice a n cap]] w fun en w'=>en = .returned (.bool (decide (m = 1)))∧Below w.heap.size w w':=by
 have hS:=((Rs.begin w).num h).alloc #[.slice a n cap] 27
 by_cases h2:n≤2
 ·go_enter Tryz.func38,Tryz.ntmps38
  go_wp2_with fail
  refine (low_small a n cap m _ (hS.nm (a,n,m) (by simp)) h2).mono ?_
  rintro en w1 ⟨rfl,hb1⟩
  go_wp2
  go_ret
  refine ⟨ret_bool ?_,(hS.kept hb1).fr⟩
  by_cases h:m = 1 <;> simp [h] <;> omega
 ·go_enter Tryz.func38,Tryz.ntmps38
  go_wp2_with fail
  refine (low_big a n cap m _ (hS.nm (a,n,m) (by simp)) (by omega)).mono ?_
  rintro en w1 ⟨rfl,hb1⟩
  go_wp2
  go_ret
  refine ⟨ret_bool ?_,(hS.kept hb1).fr⟩
  have:m≠1:=by
   rintro rfl
   obtain ⟨xs,hn,_,hw,hN,hv,hb⟩:=h
   have:=Pl.val_le_len hw hN 1
   omega
  simp [this]
def RatV (s:Bool) (a:Option Addr) (n c:Nat) (a':Option Addr) (n' c':Nat):Value:=.agg #[.bool s,.slice a n c,.slice a' n' c']
structure Fra1S where
 (b0 b1 b2 b3 b4 b5 b6 b7 b8 b9 b10:Bool)
 (v0 v1 v2 v3 v4 v5 v6 v7 v8 v10:Value)
 bs9:List En
 os9:Os
structure Fra1R (w:World) (p:Nat) (a a':Option Addr) (n n' cap cap':Nat) (S9:Nat) (b0 b1 b2 b3 b4 b5 b6 b7 b8 b9 b10:Bool) (v0 v1 v2 v3 v4 v5 v6 v7 v8 v10:Value)  (bs9:List En) (os9:Os) (w':World):Prop where
 hc:Rc w S9 [⟨w.heap.size+1,#[.slice a' n' cap'],27⟩,⟨w.heap.size,#[.slice a n cap],27⟩] [] [] (some ((p),0)) bs9 os9 w'
 f0:b0 = true→v0 = .bool true
 f1:b1 = true→v1 = .bool true
 f2:b2 = true→v2 = .agg #[.slice a n cap]
 f3:b3 = true→v3 = .bool (decide (n = 0))
 f4:b4 = true→v4 = .bool (!(decide (n = 0)))
 f5:b5 = true→v5 = .bool (!(decide (n = 0)))
 f6:b6 = true→v6 = .agg #[.slice a n cap]
 f7:b7 = true→v7 = .agg #[.slice a' n' cap']
 f8:b8 = true→v8 = .agg #[.bool (!(decide (n = 0))),.slice a n cap,.slice a' n' cap']
 f10:b10 = true→v10 = .int .i64 0
 o0_0:b9 = false→⟨w.heap.size+1+1,#[.bool false,.slice none 0 0,.slice none 0 0],29⟩∈bs9
 o0_1:b9 = true→⟨w.heap.size+1+1,#[.bool (!(decide (n = 0))),.slice a n cap,.slice a' n' cap'],29⟩∈bs9
 g9_8:b9 = true→b8 = true
def Fra1I (w:World) (p:Nat) (a a':Option Addr) (n n' cap cap':Nat) (S9:Nat) (l:Array Bool) (act:Act) (w':World):Fra1S→Prop
 | ⟨b0,b1,b2,b3,b4,b5,b6,b7,b8,b9,b10,v0,v1,v2,v3,v4,v5,v6,v7,v8,v10,bs9,os9⟩=>l = #[b0,b1,b2,b3,b4,b5,b6,b7,b8,b9,b10]∧act = { tmps:=#[.pointer (some ⟨p,0,none⟩),.bool true,.agg #[.slice a n cap],.agg #[.slice a' n' cap'],undef,undef,.pointer (some ⟨w.heap.size,0,none⟩),.pointer (some ⟨w.heap.size+1,0,none⟩),.pointer (some ⟨w.heap.size+1+1,0,none⟩),v10,.pointer (some ⟨p,0,none⟩),.pointer (some ⟨p,0,none⟩),.pointer (some ⟨p,0,none⟩),.pointer (some ⟨p,0,none⟩),.int .i64 0,.bool false,undef,undef,undef,undef,undef,undef,v0,v1,v2,v3,v4,v5,v6,v7,v8],defers:=[] }∧Fra1R w p a a' n n' cap cap' S9 b0 b1 b2 b3 b4 b5 b6 b7 b8 b9 b10 v0 v1 v2 v3 v4 v5 v6 v7 v8 v10 bs9 os9 w'
theorem wfrac_true (p:Nat) (a a':Option Addr) (n n' cap cap':Nat) (w:World) (hk:Wk w p 0) :
  Calls Tryz.prog 30 #[.pointer (some ⟨p,0,none⟩),.bool true,.agg #[.slice a n cap],.agg #[.slice a' n' cap']] w fun en w'=>Wk w' p 0∧But p w w'∧en = .returned (.tuple #[RatV (!decide (n = 0)) a n cap a' n' cap',.int .i64 0]):=by
 have hS:=Rs.begin_work hk
 replace hS:=hS.alloc #[.slice a n cap] 27
 try simp only [World.size_alloc] at hS
 replace hS:=hS.alloc #[.slice a' n' cap'] 27
 try simp only [World.size_alloc] at hS
 replace hS:=hS.alloc #[.bool false,.slice none 0 0,.slice none 0 0] 29
 try simp only [World.size_alloc] at hS
 have hcw:=Wk.cell hS.wk
 go_enter Tryz.func30,Tryz.ntmps30
 go_wp2_with fail
 clear hcw
 refine wp_region_any (by kernel_rfl) ?_
 change wpAny _ _ _ _ _ _ _ (World.drew _)
 have hS9:=hS.drew
 have hsW9:(World.drew (((w.alloc (.cells #[.slice a n cap] 27)).alloc (.cells #[.slice a' n' cap'] 27)).alloc (.cells #[.bool false,.slice none 0 0,.slice none 0 0] 29))).heap.size = w.heap.size+1+1+1:=by first|rfl|simp
 generalize World.drew (((w.alloc (.cells #[.slice a n cap] 27)).alloc (.cells #[.slice a' n' cap'] 27)).alloc (.cells #[.bool false,.slice none 0 0,.slice none 0 0] 29)) = Wd at hS9 hsW9 ⊢
 obtain ⟨S9,hS9z⟩:∃ x,x = Wd.heap.size:=⟨_,rfl⟩
 have hC9:=Rc.start (bs:=[⟨w.heap.size+1,#[.slice a' n' cap'],27⟩,⟨w.heap.size,#[.slice a n cap],27⟩]) hS9 (by simp)
 rw [← hS9z] at hC9
 have hP9_0:=hS9.bx ⟨w.heap.size+1+1,#[.bool false,.slice none 0 0,.slice none 0 0],29⟩ (by simp)
 have hP9_0:=block_lt hP9_0.1
 rw [← hS9z] at hP9_0
 simp only [] at hP9_0
 refine wpAny_inv (fun l act w'=>∃ σ,Fra1I w p a a' n n' cap cap' S9 l act w' σ) ?_ ?_ _ _ _ _ ?_ ?_
 ·intro l act w' i9 hI9 hi9 hl9
  have hin9:i9 < 11:=by
   by_cases h:i9 < 11
   ·exact h
   ·obtain ⟨⟨⟩,rfl,_⟩:=hI9
    rw [Array.getElem?_eq_none (by simp; omega)] at hl9; cases hl9
  have hcase:i9 = 0∨i9 = 1∨i9 = 2∨i9 = 3∨i9 = 4∨i9 = 5∨i9 = 6∨i9 = 7∨i9 = 8∨i9 = 9∨i9 = 10:=by omega
  clear hin9
  obtain ⟨⟨b0,b1,b2,b3,b4,b5,b6,b7,b8,b9,b10,v0,v1,v2,v3,v4,v5,v6,v7,v8,v10,bs9,os9⟩,rfl,rfl,hR⟩:=hI9
  rcases hcase with rfl|rfl|rfl|rfl|rfl|rfl|rfl|rfl|rfl|rfl|rfl
  ·obtain rfl:b0 = false:=by simpa using hl9
   have hc:=hR.hc
   refine wpOp_step rfl fun K hK=>?_
   go_simp
   exact hK _ _ ⟨⟨_,_,_,_,_,_,_,_,_,_,_,_,_,_,_,_,_,_,_,_,_,_,_⟩,rfl,rfl,{ hR with hc:=hc,f0:=(fun _=>rfl) }⟩
  ·obtain rfl:b1 = false:=by simpa using hl9
   obtain ⟨o9,ho9,hd9⟩:=(mem_ready.1 hi9).2
   cases ho9
   have e0:b0 = true:=hd9 ⟨0,.data⟩ (by simp) rfl
   subst e0
   have h9:=hR.f0 rfl
   subst h9
   have hc:=hR.hc
   refine wpOp_step rfl fun K hK=>?_
   go_simp
   exact hK _ _ ⟨⟨_,_,_,_,_,_,_,_,_,_,_,_,_,_,_,_,_,_,_,_,_,_,_⟩,rfl,rfl,{ hR with hc:=hc,f1:=(fun _=>rfl) }⟩
  ·obtain rfl:b2 = false:=by simpa using hl9
   obtain ⟨o9,ho9,hd9⟩:=(mem_ready.1 hi9).2
   cases ho9
   have e1:b1 = true:=hd9 ⟨1,.guard⟩ (by simp) rfl
   subst e1
   have h9:=hR.f1 rfl
   subst h9
   have hc:=hR.hc
   have c9_0:=hc.st.cellAt (hc.old ⟨w.heap.size,#[.slice a n cap],27⟩ (by simp)).1 0 (.slice a n cap) rfl
   simp only [] at c9_0
   refine wpOp_step rfl fun K hK=>?_
   go_simp
   exact hK _ _ ⟨⟨_,_,_,_,_,_,_,_,_,_,_,_,_,_,_,_,_,_,_,_,_,_,_⟩,rfl,rfl,{ hR with hc:=hc,f2:=(fun _=>rfl) }⟩
  ·obtain rfl:b3 = false:=by simpa using hl9
   obtain ⟨o9,ho9,hd9⟩:=(mem_ready.1 hi9).2
   cases ho9
   have e1:b1 = true:=hd9 ⟨1,.chain⟩ (by simp) rfl
   have e2:b2 = true:=hd9 ⟨2,.data⟩ (by simp) rfl
   subst e1 e2
   have h9:=hR.f1 rfl
   subst h9
   have h9:=hR.f2 rfl
   subst h9
   have hc:=hR.hc
   have HR:=hide hR
   clear hR
   refine wpOp_step rfl fun K hK=>?_
   go_simp
   go_wp2_with fail
   refine (nought_any a n cap _).mono ?_
   rintro en w9 ⟨rfl,hb9⟩
   have hR:=unhide HR
   exact hK _ _ ⟨⟨_,_,_,_,_,_,_,_,_,_,_,_,_,_,_,_,_,_,_,_,_,_,_⟩,rfl,rfl,{ hR with hc:=(hc.call (hc.st.kept hb9) hb9.size (fun y hy=>hy)),f3:=(fun _=>rfl) }⟩
  ·obtain rfl:b4 = false:=by simpa using hl9
   obtain ⟨o9,ho9,hd9⟩:=(mem_ready.1 hi9).2
   cases ho9
   have e1:b1 = true:=hd9 ⟨1,.guard⟩ (by simp) rfl
   have e3:b3 = true:=hd9 ⟨3,.data⟩ (by simp) rfl
   subst e1 e3
   have h9:=hR.f1 rfl
   subst h9
   have h9:=hR.f3 rfl
   subst h9
   have hc:=hR.hc
   refine wpOp_step rfl fun K hK=>?_
   go_simp
   exact hK _ _ ⟨⟨_,_,_,_,_,_,_,_,_,_,_,_,_,_,_,_,_,_,_,_,_,_,_⟩,rfl,rfl,{ hR with hc:=hc,f4:=(fun _=>by first|rfl|simp) }⟩
  ·obtain rfl:b5 = false:=by simpa using hl9
   obtain ⟨o9,ho9,hd9⟩:=(mem_ready.1 hi9).2
   cases ho9
   have e1:b1 = true:=hd9 ⟨1,.data⟩ (by simp) rfl
   have e4:b4 = true:=hd9 ⟨4,.data⟩ (by simp) rfl
   subst e1 e4
   have h9:=hR.f1 rfl
   subst h9
   have h9:=hR.f4 rfl
   subst h9
   have hc:=hR.hc
   refine wpOp_step rfl fun K hK=>?_
   go_simp
   exact hK _ _ ⟨⟨_,_,_,_,_,_,_,_,_,_,_,_,_,_,_,_,_,_,_,_,_,_,_⟩,rfl,rfl,{ hR with hc:=hc,f5:=(fun _=>by first|rfl|simp) }⟩
  ·obtain rfl:b6 = false:=by simpa using hl9
   have hc:=hR.hc
   have c9_0:=hc.st.cellAt (hc.old ⟨w.heap.size,#[.slice a n cap],27⟩ (by simp)).1 0 (.slice a n cap) rfl
   simp only [] at c9_0
   refine wpOp_step rfl fun K hK=>?_
   go_simp
   exact hK _ _ ⟨⟨_,_,_,_,_,_,_,_,_,_,_,_,_,_,_,_,_,_,_,_,_,_,_⟩,rfl,rfl,{ hR with hc:=hc,f6:=(fun _=>rfl) }⟩
  ·obtain rfl:b7 = false:=by simpa using hl9
   have hc:=hR.hc
   have c9_0:=hc.st.cellAt (hc.old ⟨w.heap.size+1,#[.slice a' n' cap'],27⟩ (by simp)).1 0 (.slice a' n' cap') rfl
   simp only [] at c9_0
   refine wpOp_step rfl fun K hK=>?_
   go_simp
   exact hK _ _ ⟨⟨_,_,_,_,_,_,_,_,_,_,_,_,_,_,_,_,_,_,_,_,_,_,_⟩,rfl,rfl,{ hR with hc:=hc,f7:=(fun _=>rfl) }⟩
  ·obtain rfl:b8 = false:=by simpa using hl9
   obtain ⟨o9,ho9,hd9⟩:=(mem_ready.1 hi9).2
   cases ho9
   have e5:b5 = true:=hd9 ⟨5,.data⟩ (by simp) rfl
   have e6:b6 = true:=hd9 ⟨6,.data⟩ (by simp) rfl
   have e7:b7 = true:=hd9 ⟨7,.data⟩ (by simp) rfl
   subst e5 e6 e7
   have h9:=hR.f5 rfl
   subst h9
   have h9:=hR.f6 rfl
   subst h9
   have h9:=hR.f7 rfl
   subst h9
   have hc:=hR.hc
   refine wpOp_step rfl fun K hK=>?_
   go_simp
   exact hK _ _ ⟨⟨_,_,_,_,_,_,_,_,_,_,_,_,_,_,_,_,_,_,_,_,_,_,_⟩,rfl,rfl,{ hR with hc:=hc,f8:=(fun _=>by first|rfl|simp),o0_1:=(fun h=>Bool.noConfusion (hR.g9_8 h)),g9_8:=(fun _=>rfl) }⟩
  ·obtain rfl:b9 = false:=by simpa using hl9
   obtain ⟨o9,ho9,hd9⟩:=(mem_ready.1 hi9).2
   cases ho9
   have e8:b8 = true:=hd9 ⟨8,.data⟩ (by simp) rfl
   subst e8
   have h9:=hR.f8 rfl
   subst h9
   have hc:=hR.hc
   have hm9:=hR.o0_0 rfl
   have fz9_0:=hc.st.frozen hm9 0
   have cz9_0:=hc.st.cellAt hm9 0 (.bool false) rfl
   simp only [] at fz9_0 cz9_0
   have fz9_1:=hc.st.frozen hm9 1
   have cz9_1:=hc.st.cellAt hm9 1 (.slice none 0 0) rfl
   simp only [] at fz9_1 cz9_1
   have fz9_2:=hc.st.frozen hm9 2
   have cz9_2:=hc.st.cellAt hm9 2 (.slice none 0 0) rfl
   simp only [] at fz9_2 cz9_2
   have hn9:∀ x,x∈([⟨w.heap.size+1,#[.slice a' n' cap'],27⟩,⟨w.heap.size,#[.slice a n cap],27⟩]:List En)→x.b≠w.heap.size+1+1:=by intro x hx; rcases List.mem_cons.1 hx with rfl|hx; (simp only []; omega); rcases List.mem_cons.1 hx with rfl|hx; (simp only []; omega);  exact absurd hx List.not_mem_nil
   have hw9:w.heap.size≤w.heap.size+1+1:=by omega
   refine wpOp_step rfl fun K hK=>?_
   go_simp
   exact hK _ _ ⟨⟨_,_,_,_,_,_,_,_,_,_,_,_,_,_,_,_,_,_,_,_,_,_,_⟩,rfl,rfl,{ hR with hc:=(((hc.store hm9 hw9 hn9 0 (.bool (!(decide (n = 0)))) (by simp)).store (List.mem_cons_self ..) hw9 hn9 1 (.slice a n cap) (by simp)).store (List.mem_cons_self ..) hw9 hn9 2 (.slice a' n' cap') (by simp)),o0_0:=(fun h=>Bool.noConfusion h),o0_1:=(fun _=>List.mem_cons_self ..),g9_8:=(fun _=>rfl) }⟩
  ·obtain rfl:b10 = false:=by simpa using hl9
   have hc:=hR.hc
   refine wpOp_step rfl fun K hK=>?_
   go_simp
   exact hK _ _ ⟨⟨_,_,_,_,_,_,_,_,_,_,_,_,_,_,_,_,_,_,_,_,_,_,_⟩,rfl,rfl,{ hR with hc:=hc,f10:=(fun _=>rfl) }⟩
 ·rintro l act Wq1 ⟨⟨b0,b1,b2,b3,b4,b5,b6,b7,b8,b9,b10,v0,v1,v2,v3,v4,v5,v6,v7,v8,v10,bs9,os9⟩,rfl,rfl,hR⟩ hr9
  obtain ⟨hc,f0,f1,f2,f3,f4,f5,f6,f7,f8,f10,o0_0,o0_1,g9_8⟩:=hR
  have eall:=all_done hr9 (by kernel_rfl) rfl
  obtain rfl:b0 = true:=eall 0 (by decide)
  obtain rfl:b1 = true:=eall 1 (by decide)
  obtain rfl:b2 = true:=eall 2 (by decide)
  obtain rfl:b3 = true:=eall 3 (by decide)
  obtain rfl:b4 = true:=eall 4 (by decide)
  obtain rfl:b5 = true:=eall 5 (by decide)
  obtain rfl:b6 = true:=eall 6 (by decide)
  obtain rfl:b7 = true:=eall 7 (by decide)
  obtain rfl:b8 = true:=eall 8 (by decide)
  obtain rfl:b9 = true:=eall 9 (by decide)
  obtain rfl:b10 = true:=eall 10 (by decide)
  clear hr9 eall
  have h9:=f0 rfl
  subst h9
  have h9:=f1 rfl
  subst h9
  have h9:=f2 rfl
  subst h9
  have h9:=f3 rfl
  subst h9
  have h9:=f4 rfl
  subst h9
  have h9:=f5 rfl
  subst h9
  have h9:=f6 rfl
  subst h9
  have h9:=f7 rfl
  subst h9
  have h9:=f8 rfl
  subst h9
  have h9:=f10 rfl
  subst h9
  have hbs9:∀ x,x∈([⟨w.heap.size+1+1,#[.bool (!(decide (n = 0))),.slice a n cap,.slice a' n' cap'],29⟩,⟨w.heap.size+1,#[.slice a' n' cap'],27⟩,⟨w.heap.size,#[.slice a n cap],27⟩]:List En)→x∈bs9:=by
   intro x hx
   rcases List.mem_cons.1 hx with rfl|hx
   ·exact (o0_1 rfl)
   rcases List.mem_cons.1 hx with rfl|hx
   ·exact (hc.old _ (by simp)).1
   rcases List.mem_cons.1 hx with rfl|hx
   ·exact (hc.old _ (by simp)).1
   exact absurd hx List.not_mem_nil
  have hos9:∀ x,x∈([]:Os)→x∈os9:=by
   intro x hx
   exact absurd hx List.not_mem_nil
  have hS:=hc.st.sub hbs9 (fun x hx=>hx) hos9
  have hsz9:=hc.sz
  rw [hS9z,hsW9] at hsz9
  clear hbs9 hos9 hc f0 f1 f2 f3 f4 f5 f6 f7 f8 f10 o0_0 o0_1 g9_8
  have hz1:=hsz9
  clear hsz9 hS9z hS9 hC9 hsW9
  obtain ⟨⟨k0_0,k0_1,k0_2,-⟩,z0⟩:=hS.cz ⟨w.heap.size+1+1,#[.bool (!(decide (n = 0))),.slice a n cap,.slice a' n' cap'],29⟩ (by simp)
  have z0_0:=z0 0
  have z0_1:=z0 1
  have z0_2:=z0 2
  clear z0
  simp only [] at k0_0 z0_0 k0_1 z0_1 k0_2 z0_2
  go_wp2
  exact bodyPost_ret (v:=.tuple #[RatV (!decide (n = 0)) a n cap a' n' cap',.int .i64 0]) (by simp [results,Tryz.results30,go_sem,RatV,k0_0,k0_1,k0_2]) rfl ⟨hS.wk,hS.fr,rfl⟩
 ·simp
 ·exact ⟨⟨false,false,false,false,false,false,false,false,false,false,false,undef,undef,undef,undef,undef,undef,undef,undef,undef,.int .i64 0,_,_⟩,rfl,rfl,⟨hC9,nb,nb,nb,nb,nb,nb,nb,nb,nb,nb,(fun _=>by simp),nb,nb⟩⟩
theorem wfrac_any (p:Nat) (e0:Int) (s:Bool) (a a':Option Addr) (n n' cap cap':Nat) (w:World) (hk:Wk w p e0) :
  Calls Tryz.prog 30 #[.pointer (some ⟨p,0,none⟩),.bool s,.agg #[.slice a n cap],.agg #[.slice a' n' cap']] w fun en w'=>Wk w' p e0∧But p w w' ∧
   en = .returned (if e0 = 0 then .tuple #[RatV (s && !decide (n = 0)) a n cap a' n' cap',.int .i64 0] else .tuple #[RatV false none 0 0 none 0 0,.int .i64 e0]):=by
 by_cases h0:e0 = 0
 ·subst h0
  cases s
  ·have hS:=(((Rs.begin_work hk).alloc #[.slice a n cap] 27).alloc #[.slice a' n' cap'] 27).alloc #[.bool false,.slice a n cap,.slice a' n' cap'] 29
   have hcw:=Wk.cell ((((hk.alloc (.cells #[.slice a n cap] 27)).alloc (.cells #[.slice a' n' cap'] 27)).alloc (.cells #[.bool false,.slice none 0 0,.slice none 0 0] 29)))
   go_enter Tryz.func30,Tryz.ntmps30
   go_wp2_with fail
   go_region
   go_wp2
   exact bodyPost_ret (v:=.tuple #[RatV false a n cap a' n' cap',.int .i64 0]) (by simp [results,Tryz.results30,go_sem,RatV]) rfl ⟨hS.drew.wk,hS.drew.fr,by simp⟩
  ·exact (wfrac_true p a a' n n' cap cap' w hk).mono fun en w' ⟨h1,h2,h3⟩=>⟨h1,h2,by rw [h3]; simp⟩
 ·have hS:=(((Rs.begin_work hk).alloc #[.slice a n cap] 27).alloc #[.slice a' n' cap'] 27).alloc #[.bool false,.slice none 0 0,.slice none 0 0] 29
  have hcw:=Wk.cell hS.wk
  have hb0:(e0 != 0) = true:=by simp [h0]
  have H0:=hide h0
  clear h0
  go_enter Tryz.func30,Tryz.ntmps30
  go_wp2_with fail
  go_region
  go_wp2
  exact bodyPost_ret (v:=.tuple #[RatV false none 0 0 none 0 0,.int .i64 e0]) (by simp [results,Tryz.results30,go_sem,RatV]) rfl ⟨hS.drew.wk,hS.drew.fr,by first|rfl|rw [if_neg (unhide H0)]⟩
def RAns (w:World) (base:Nat) (en:Ending) (s:Bool) (num den:Nat):Prop:=
 (∃ a n c a' n' c',en = .returned (.tuple #[RatV (s && !decide (num = 0)) a n c a' n' c',.int .i64 0])∧Mine w base a n c num∧Mine w base a' n' c' den) ∨
 (en = .returned (.tuple #[RatV false none 0 0 none 0 0,.int .i64 4])∧(Over num∨Over den))
theorem W_frac {w0 W:World} {p:Nat} {e:Int} {bs:List En} {ms:Ms} {os:Os} (hS:Rs w0 W (some (p,e)) bs ms os) (s:Bool) (a a':Option Addr) (n n' c c':Nat) :
  Calls Tryz.prog 30 #[.pointer (some ⟨p,0,none⟩),.bool s,.agg #[.slice a n c],.agg #[.slice a' n' c']] W fun en W'=>(∃ s' b k l b' k' l' r,en = .returned (.tuple #[.agg #[.bool s',.slice b k l,.slice b' k' l'],.int .i64 r]) ∧
   ((e = 0∧r = 0∧s' = (s && !decide (n = 0))∧b = a∧k = n∧l = c∧b' = a'∧k' = n'∧l' = c')∨(e≠0∧r = e∧s' = false∧b = none∧k = 0∧l = 0∧b' = none∧k' = 0∧l' = 0)))∧Rs w0 W' (some (p,e)) bs ms os∧W.heap.size≤W'.heap.size:=by
 refine (wfrac_any p e s a a' n n' c c' W hS.wk).mono ?_
 rintro en W' ⟨h1,h2,rfl⟩
 refine ⟨?_,hS.call h2 h1,h2.size⟩
 by_cases h0:e = 0
 ·rw [if_pos h0]
  exact ⟨_,_,_,_,_,_,_,_,rfl,Or.inl ⟨h0,rfl,rfl,rfl,rfl,rfl,rfl,rfl,rfl⟩⟩
 ·rw [if_neg h0]
  exact ⟨_,_,_,_,_,_,_,_,rfl,Or.inr ⟨h0,rfl,rfl,rfl,rfl,rfl,rfl,rfl,rfl⟩⟩
def DsAns (p:Nat) (e0:Int) (w:World) (X:Nat) (en:Ending) (w':World):Prop:=∃ a n c M e,en = .returned (.agg #[.slice a n c])∧Mine w' w.heap.size a n c M∧Wz e0 e M X False∧Wk w' p e∧But p w w'
theorem dist_lt (p:Nat) (e0:Int) (a1 a2:Option Addr) (n1 n2 c1 c2 m1 m2:Nat) (w:World) (hk:Wk w p e0) (h1:Num w a1 n1 m1) (h2:Num w a2 n2 m2) (hcm:cmpI m1 m2 = -1) :
  Calls Tryz.prog 89 #[.pointer (some ⟨p,0,none⟩),.agg #[.slice a1 n1 c1],.agg #[.slice a2 n2 c2]] w (DsAns p e0 w (m2 - m1)):=by
 have hpl:=hk.lt
 have hS:=Rs.begin_work hk
 replace hS:=hS.num h1
 replace hS:=hS.num h2
 replace hS:=hS.alloc #[.slice a1 n1 c1] 27
 try simp only [World.size_alloc] at hS
 replace hS:=hS.alloc #[.slice a2 n2 c2] 27
 try simp only [World.size_alloc] at hS
 replace hS:=hS.alloc #[.slice none 0 0] 27
 try simp only [World.size_alloc] at hS
 go_enter Tryz.func89,Tryz.ntmps89
 go_wp2_with fail
 refine (W_cmp hS c1 c2 (hS.nm (a1,n1,m1) (by simp)) (hS.nm (a2,n2,m2) (by simp))).mono ?_
 clear hS; rintro en w1 ⟨rfl,hS,hz1⟩
 simp only [World.size_alloc] at hz1
 rw [hcm]
 obtain ⟨⟨k0_0,-⟩,z0⟩:=hS.cz ⟨w.heap.size+1+1,#[.slice none 0 0],27⟩ (by simp)
 have z0_0:=z0 0
 clear z0
 obtain ⟨⟨k1_0,-⟩,z1⟩:=hS.cz ⟨w.heap.size+1,#[.slice a2 n2 c2],27⟩ (by simp)
 have z1_0:=z1 0
 clear z1
 obtain ⟨⟨k2_0,-⟩,z2⟩:=hS.cz ⟨w.heap.size,#[.slice a1 n1 c1],27⟩ (by simp)
 have z2_0:=z2 0
 clear z2
 simp only [] at k0_0 z0_0 k1_0 z1_0 k2_0 z2_0
 go_wp2_with fail
 clear k0_0 z0_0 k1_0 z1_0 k2_0 z2_0
 have u1:=hS.cellAt (x:=⟨w.heap.size,#[.slice a1 n1 c1],27⟩) (by simp) 0 (.slice a1 n1 c1) rfl
 have y1:=hS.frozen (x:=⟨w.heap.size,#[.slice a1 n1 c1],27⟩) (by simp) 0
 simp only [] at u1 y1
 replace hS:=hS.put (x:=⟨w.heap.size,#[.slice a1 n1 c1],27⟩) (by simp) (by simp only []; omega) 0 (.slice a2 n2 c2) (by simp) [⟨w.heap.size,#[.slice a2 n2 c2],27⟩,⟨w.heap.size+1+1,#[.slice none 0 0],27⟩,⟨w.heap.size+1,#[.slice a2 n2 c2],27⟩] (by intro y hy; rcases List.mem_cons.1 hy with rfl|hy; exact Or.inl rfl; rcases List.mem_cons.1 hy with rfl|hy; exact Or.inr ⟨by simp,by simp only []; omega⟩; rcases List.mem_cons.1 hy with rfl|hy; exact Or.inr ⟨by simp,by simp only []; omega⟩; exact absurd hy List.not_mem_nil)
 have u2:=hS.cellAt (x:=⟨w.heap.size+1,#[.slice a2 n2 c2],27⟩) (by simp) 0 (.slice a2 n2 c2) rfl
 have y2:=hS.frozen (x:=⟨w.heap.size+1,#[.slice a2 n2 c2],27⟩) (by simp) 0
 simp only [] at u2 y2
 replace hS:=hS.put (x:=⟨w.heap.size+1,#[.slice a2 n2 c2],27⟩) (by simp) (by simp only []; omega) 0 (.slice a1 n1 c1) (by simp) [⟨w.heap.size+1,#[.slice a1 n1 c1],27⟩,⟨w.heap.size,#[.slice a2 n2 c2],27⟩,⟨w.heap.size+1+1,#[.slice none 0 0],27⟩] (by intro y hy; rcases List.mem_cons.1 hy with rfl|hy; exact Or.inl rfl; rcases List.mem_cons.1 hy with rfl|hy; exact Or.inr ⟨by simp,by simp only []; omega⟩; rcases List.mem_cons.1 hy with rfl|hy; exact Or.inr ⟨by simp,by simp only []; omega⟩; exact absurd hy List.not_mem_nil)
 refine (W_sub hS c2 c1 (hS.nm (a2,n2,m2) (by simp)) (hS.nm (a1,n1,m1) (by simp))).mono ?_
 clear hS; rintro en w2 ⟨yA2,yN2,yC2,yM2,yE2,rfl,hS,q2,hz2⟩
 have Q2:=hide q2
 clear q2
 replace hz2:w1.heap.size≤w2.heap.size:=by simpa [World.setCell] using hz2
 obtain ⟨⟨k0_0,-⟩,z0⟩:=hS.cz ⟨w.heap.size+1+1,#[.slice none 0 0],27⟩ (by simp)
 have z0_0:=z0 0
 clear z0
 simp only [] at k0_0 z0_0
 go_wp2
 replace hS:=hS.sub (bs':=[⟨w.heap.size+1+1,#[.slice none 0 0],27⟩]) (ms':=[]) (by intro x hx; rcases List.mem_cons.1 hx with rfl|hx; simp; exact absurd hx List.not_mem_nil) (by intro x hx; exact absurd hx List.not_mem_nil) (fun x hx=>hx)
 have u3:=hS.cellAt (x:=⟨w.heap.size+1+1,#[.slice none 0 0],27⟩) (by simp) 0 (.slice none 0 0) rfl
 have y3:=hS.frozen (x:=⟨w.heap.size+1+1,#[.slice none 0 0],27⟩) (by simp) 0
 simp only [] at u3 y3
 replace hS:=hS.put (x:=⟨w.heap.size+1+1,#[.slice none 0 0],27⟩) (by simp) (by simp only []; omega) 0 (.slice yA2 yN2 yC2) (by simp) [⟨w.heap.size+1+1,#[.slice yA2 yN2 yC2],27⟩] (by intro y hy; rcases List.mem_cons.1 hy with rfl|hy; exact Or.inl rfl; exact absurd hy List.not_mem_nil)
 exact bodyPost_ret (v:=.agg #[.slice yA2 yN2 yC2]) (by simp [results,Tryz.results89,go_sem,k0_0]) rfl ⟨_,_,_,_,_,rfl,hS.ow (yA2,yN2,yC2,yM2) (by simp),unhide Q2,hS.wk,hS.fr⟩
theorem dist_ge (p:Nat) (e0:Int) (a1 a2:Option Addr) (n1 n2 c1 c2 m1 m2:Nat) (w:World) (hk:Wk w p e0) (h1:Num w a1 n1 m1) (h2:Num w a2 n2 m2) (r0:Int) (hr0:0≤r0) (hcm:cmpI m1 m2 = r0) :
  Calls Tryz.prog 89 #[.pointer (some ⟨p,0,none⟩),.agg #[.slice a1 n1 c1],.agg #[.slice a2 n2 c2]] w (DsAns p e0 w (m1 - m2)):=by
 have hpl:=hk.lt
 have hS:=Rs.begin_work hk
 replace hS:=hS.num h1
 replace hS:=hS.num h2
 replace hS:=hS.alloc #[.slice a1 n1 c1] 27
 try simp only [World.size_alloc] at hS
 replace hS:=hS.alloc #[.slice a2 n2 c2] 27
 try simp only [World.size_alloc] at hS
 replace hS:=hS.alloc #[.slice none 0 0] 27
 try simp only [World.size_alloc] at hS
 go_enter Tryz.func89,Tryz.ntmps89
 go_wp2_with fail
 refine (W_cmp hS c1 c2 (hS.nm (a1,n1,m1) (by simp)) (hS.nm (a2,n2,m2) (by simp))).mono ?_
 clear hS; rintro en w1 ⟨rfl,hS,hz1⟩
 simp only [World.size_alloc] at hz1
 rw [hcm]
 obtain ⟨⟨k0_0,-⟩,z0⟩:=hS.cz ⟨w.heap.size+1+1,#[.slice none 0 0],27⟩ (by simp)
 have z0_0:=z0 0
 clear z0
 obtain ⟨⟨k1_0,-⟩,z1⟩:=hS.cz ⟨w.heap.size+1,#[.slice a2 n2 c2],27⟩ (by simp)
 have z1_0:=z1 0
 clear z1
 obtain ⟨⟨k2_0,-⟩,z2⟩:=hS.cz ⟨w.heap.size,#[.slice a1 n1 c1],27⟩ (by simp)
 have z2_0:=z2 0
 clear z2
 simp only [] at k0_0 z0_0 k1_0 z1_0 k2_0 z2_0
 go_wp2_with fail
 clear k0_0 z0_0 k1_0 z1_0 k2_0 z2_0
 refine (W_sub hS c1 c2 (hS.nm (a1,n1,m1) (by simp)) (hS.nm (a2,n2,m2) (by simp))).mono ?_
 clear hS; rintro en w2 ⟨yA2,yN2,yC2,yM2,yE2,rfl,hS,q2,hz2⟩
 have Q2:=hide q2
 clear q2
 obtain ⟨⟨k0_0,-⟩,z0⟩:=hS.cz ⟨w.heap.size+1+1,#[.slice none 0 0],27⟩ (by simp)
 have z0_0:=z0 0
 clear z0
 simp only [] at k0_0 z0_0
 go_wp2
 replace hS:=hS.sub (bs':=[⟨w.heap.size+1+1,#[.slice none 0 0],27⟩]) (ms':=[]) (by intro x hx; rcases List.mem_cons.1 hx with rfl|hx; simp; exact absurd hx List.not_mem_nil) (by intro x hx; exact absurd hx List.not_mem_nil) (fun x hx=>hx)
 have u1:=hS.cellAt (x:=⟨w.heap.size+1+1,#[.slice none 0 0],27⟩) (by simp) 0 (.slice none 0 0) rfl
 have y1:=hS.frozen (x:=⟨w.heap.size+1+1,#[.slice none 0 0],27⟩) (by simp) 0
 simp only [] at u1 y1
 replace hS:=hS.put (x:=⟨w.heap.size+1+1,#[.slice none 0 0],27⟩) (by simp) (by simp only []; omega) 0 (.slice yA2 yN2 yC2) (by simp) [⟨w.heap.size+1+1,#[.slice yA2 yN2 yC2],27⟩] (by intro y hy; rcases List.mem_cons.1 hy with rfl|hy; exact Or.inl rfl; exact absurd hy List.not_mem_nil)
 exact bodyPost_ret (v:=.agg #[.slice yA2 yN2 yC2]) (by simp [results,Tryz.results89,go_sem,k0_0]) rfl ⟨_,_,_,_,_,rfl,hS.ow (yA2,yN2,yC2,yM2) (by simp),unhide Q2,hS.wk,hS.fr⟩
theorem distance_any (p:Nat) (e0:Int) (a1 a2:Option Addr) (n1 n2 c1 c2 m1 m2:Nat) (w:World) (hk:Wk w p e0) (h1:Num w a1 n1 m1) (h2:Num w a2 n2 m2) :
  Calls Tryz.prog 89 #[.pointer (some ⟨p,0,none⟩),.agg #[.slice a1 n1 c1],.agg #[.slice a2 n2 c2]] w (DsAns p e0 w (Rm.dist m1 m2)):=by
 by_cases h:m1 < m2
 ·have hd:Rm.dist m1 m2 = m2 - m1:=by rw [Rm.dist,if_pos h]
  rw [hd]
  exact dist_lt p e0 a1 a2 n1 n2 c1 c2 m1 m2 w hk h1 h2 (by rw [cmpI,if_pos h])
 ·have hd:Rm.dist m1 m2 = m1 - m2:=by rw [Rm.dist,if_neg h]
  rw [hd]
  by_cases h':m1 = m2
  ·exact dist_ge p e0 a1 a2 n1 n2 c1 c2 m1 m2 w hk h1 h2 0 (by omega) (by rw [cmpI,if_neg h,if_pos h'])
  ·exact dist_ge p e0 a1 a2 n1 n2 c1 c2 m1 m2 w hk h1 h2 1 (by omega) (by rw [cmpI,if_neg h,if_neg h'])
theorem W_dist {w0 W:World} {p:Nat} {e:Int} {bs:List En} {ms:Ms} {os:Os} (hS:Rs w0 W (some (p,e)) bs ms os) {a a':Option Addr} {n n' m m':Nat} (c c':Nat) (h:Num W a n m) (h':Num W a' n' m') :
  Calls Tryz.prog 89 #[.pointer (some ⟨p,0,none⟩),.agg #[.slice a n c],.agg #[.slice a' n' c']] W (One w0 W p e bs ms os (Rm.dist m m') False):=by
 refine (distance_any p e a a' n n' c c' m m' W hS.wk h h').mono ?_
 rintro en W' ⟨a1,n1,c1,M,r,rfl,hm,hst,hk,hb⟩
 exact ⟨a1,n1,c1,M,_,rfl,hS.more hm hk hb,hst,hb.size⟩
theorem below_lt (p:Nat) (e0:Int) (br:Bool) (a1 a2 a3 a4 a5:Option Addr) (n1 n2 n3 n4 n5 c1 c2 c3 c4 c5 m1 m2 m3 m4:Nat) (w:World) (hk:Wk w p e0) (h1:Num w a1 n1 m1) (h2:Num w a2 n2 m2) (h3:Num w a3 n3 m3) (h4:Num w a4 n4 m4) (hcm:cmpI m1 m2 = -1) :
  Calls Tryz.prog 73 #[.agg #[.slice a1 n1 c1,.slice a2 n2 c2,.slice a3 n3 c3,.slice a4 n4 c4,.slice a5 n5 c5,.bool br],.pointer (some ⟨p,0,none⟩)] w (fun en w'=>en = .returned (.bool true)∧Wk w' p e0∧But p w w'):=by
 have hS:=Rs.begin_work hk
 replace hS:=hS.num h1
 replace hS:=hS.num h2
 replace hS:=hS.num h3
 replace hS:=hS.num h4
 replace hS:=hS.alloc #[.slice a1 n1 c1,.slice a2 n2 c2,.slice a3 n3 c3,.slice a4 n4 c4,.slice a5 n5 c5,.bool br] 111
 try simp only [World.size_alloc] at hS
 go_enter Tryz.func73,Tryz.ntmps73
 go_wp2_with fail
 refine (W_cmp hS c1 c2 (hS.nm (a1,n1,m1) (by simp)) (hS.nm (a2,n2,m2) (by simp))).mono ?_
 clear hS; rintro en w1 ⟨rfl,hS,hz1⟩
 simp only [World.size_alloc] at hz1
 rw [hcm]
 go_wp2
 go_ret
 exact ⟨rfl,hS.wk,hS.fr⟩
theorem below_gt (p:Nat) (e0:Int) (br:Bool) (a1 a2 a3 a4 a5:Option Addr) (n1 n2 n3 n4 n5 c1 c2 c3 c4 c5 m1 m2 m3 m4:Nat) (w:World) (hk:Wk w p e0) (h1:Num w a1 n1 m1) (h2:Num w a2 n2 m2) (h3:Num w a3 n3 m3) (h4:Num w a4 n4 m4) (hcm:cmpI m1 m2 = 1) :
  Calls Tryz.prog 73 #[.agg #[.slice a1 n1 c1,.slice a2 n2 c2,.slice a3 n3 c3,.slice a4 n4 c4,.slice a5 n5 c5,.bool br],.pointer (some ⟨p,0,none⟩)] w (fun en w'=>en = .returned (.bool false)∧Wk w' p e0∧But p w w'):=by
 have hS:=Rs.begin_work hk
 replace hS:=hS.num h1
 replace hS:=hS.num h2
 replace hS:=hS.num h3
 replace hS:=hS.num h4
 replace hS:=hS.alloc #[.slice a1 n1 c1,.slice a2 n2 c2,.slice a3 n3 c3,.slice a4 n4 c4,.slice a5 n5 c5,.bool br] 111
 try simp only [World.size_alloc] at hS
 go_enter Tryz.func73,Tryz.ntmps73
 go_wp2_with fail
 refine (W_cmp hS c1 c2 (hS.nm (a1,n1,m1) (by simp)) (hS.nm (a2,n2,m2) (by simp))).mono ?_
 clear hS; rintro en w1 ⟨rfl,hS,hz1⟩
 simp only [World.size_alloc] at hz1
 rw [hcm]
 go_wp2
 go_ret
 exact ⟨rfl,hS.wk,hS.fr⟩
theorem below_eq (p:Nat) (e0:Int) (br:Bool) (a1 a2 a3 a4 a5:Option Addr) (n1 n2 n3 n4 n5 c1 c2 c3 c4 c5 m1 m2 m3 m4:Nat) (w:World) (hk:Wk w p e0) (h1:Num w a1 n1 m1) (h2:Num w a2 n2 m2) (h3:Num w a3 n3 m3) (h4:Num w a4 n4 m4) (hcm:cmpI m1 m2 = 0) :
  Calls Tryz.prog 73 #[.agg #[.slice a1 n1 c1,.slice a2 n2 c2,.slice a3 n3 c3,.slice a4 n4 c4,.slice a5 n5 c5,.bool br],.pointer (some ⟨p,0,none⟩)] w (fun en w'=>en = .returned (.bool (decide (cmpI m3 m4 < 0)))∧Wk w' p e0∧But p w w'):=by
 have hS:=Rs.begin_work hk
 replace hS:=hS.num h1
 replace hS:=hS.num h2
 replace hS:=hS.num h3
 replace hS:=hS.num h4
 replace hS:=hS.alloc #[.slice a1 n1 c1,.slice a2 n2 c2,.slice a3 n3 c3,.slice a4 n4 c4,.slice a5 n5 c5,.bool br] 111
 try simp only [World.size_alloc] at hS
 go_enter Tryz.func73,Tryz.ntmps73
 go_wp2_with fail
 refine (W_cmp hS c1 c2 (hS.nm (a1,n1,m1) (by simp)) (hS.nm (a2,n2,m2) (by simp))).mono ?_
 clear hS; rintro en w1 ⟨rfl,hS,hz1⟩
 simp only [World.size_alloc] at hz1
 rw [hcm]
 obtain ⟨⟨k0_0,k0_1,k0_2,k0_3,k0_4,k0_5,-⟩,z0⟩:=hS.cz ⟨w.heap.size,#[.slice a1 n1 c1,.slice a2 n2 c2,.slice a3 n3 c3,.slice a4 n4 c4,.slice a5 n5 c5,.bool br],111⟩ (by simp)
 have z0_0:=z0 0
 have z0_1:=z0 1
 have z0_2:=z0 2
 have z0_3:=z0 3
 have z0_4:=z0 4
 have z0_5:=z0 5
 clear z0
 simp only [] at k0_0 z0_0 k0_1 z0_1 k0_2 z0_2 k0_3 z0_3 k0_4 z0_4 k0_5 z0_5
 go_wp2_with fail
 clear k0_0 z0_0 k0_1 z0_1 k0_2 z0_2 k0_3 z0_3 k0_4 z0_4 k0_5 z0_5
 refine (W_cmp hS c3 c4 (hS.nm (a3,n3,m3) (by simp)) (hS.nm (a4,n4,m4) (by simp))).mono ?_
 clear hS; rintro en w2 ⟨rfl,hS,hz2⟩
 obtain ⟨r,hr⟩:∃ r,r = cmpI m3 m4:=⟨_,rfl⟩
 rw [← hr]
 have HR:=hide hr
 clear hr
 go_wp2
 go_ret
 exact ⟨ret_bool (by rw [unhide HR]),hS.wk,hS.fr⟩
theorem W_below {w0 W:World} {p:Nat} {e:Int} {bs:List En} {ms:Ms} {os:Os} (hS:Rs w0 W (some (p,e)) bs ms os) (br:Bool) (a5:Option Addr) (n5 c5:Nat) {a1 a2 a3 a4:Option Addr} {n1 n2 n3 n4 m1 m2 m3 m4:Nat} (c1 c2 c3 c4:Nat) (h1:Num W a1 n1 m1) (h2:Num W a2 n2 m2) (h3:Num W a3 n3 m3) (h4:Num W a4 n4 m4) :
  Calls Tryz.prog 73 #[.agg #[.slice a1 n1 c1,.slice a2 n2 c2,.slice a3 n3 c3,.slice a4 n4 c4,.slice a5 n5 c5,.bool br],.pointer (some ⟨p,0,none⟩)] W (fun en W'=>en = .returned (.bool (decide (m1 < m2∨m1 = m2∧m3 < m4)))∧Rs w0 W' (some (p,e)) bs ms os∧W.heap.size≤W'.heap.size):=by
 rcases Nat.lt_trichotomy m1 m2 with h|h|h
 ·refine (below_lt p e br a1 a2 a3 a4 a5 n1 n2 n3 n4 n5 c1 c2 c3 c4 c5 m1 m2 m3 m4 W hS.wk h1 h2 h3 h4 (by rw [cmpI,if_pos h])).mono ?_
  rintro en W' ⟨rfl,hk,hb⟩
  exact ⟨ret_bool (by simp [h]),hS.call hb hk,hb.size⟩
 ·refine (below_eq p e br a1 a2 a3 a4 a5 n1 n2 n3 n4 n5 c1 c2 c3 c4 c5 m1 m2 m3 m4 W hS.wk h1 h2 h3 h4 (by rw [cmpI,if_neg (by omega),if_pos h])).mono ?_
  rintro en W' ⟨rfl,hk,hb⟩
  refine ⟨ret_bool ?_,hS.call hb hk,hb.size⟩
  rw [decide_eq_decide]
  unfold cmpI
  split
  ·simp; omega
  ·split <;> simp <;> omega
 ·refine (below_gt p e br a1 a2 a3 a4 a5 n1 n2 n3 n4 n5 c1 c2 c3 c4 c5 m1 m2 m3 m4 W hS.wk h1 h2 h3 h4 (by rw [cmpI,if_neg (by omega),if_neg (by omega)])).mono ?_
  rintro en W' ⟨rfl,hk,hb⟩
  exact ⟨ret_bool (by rw [eq_comm,decide_eq_false_iff_not]; omega),hS.call hb hk,hb.size⟩
structure Mo (e e':Int) (Q R x y z:Nat):Prop where
 ok:e' = 0→e = 0∧Q = x * y / z∧R = x * y % z∧0 < z
 many:e = 0→0 < z→e'≠0→e' = 4∧(Over (x % z * y)∨Over (x * y / z))
 stay:e≠0→e' = e
def MoAns (p:Nat) (e0:Int) (w:World) (m1 m2 m3:Nat) (en:Ending) (w':World):Prop:=∃ a n c a' n' c' M M' e,en = .returned (.tuple #[.agg #[.slice a n c],.agg #[.slice a' n' c']])∧Mine w' w.heap.size a n c M∧Mine w' w.heap.size a' n' c' M'∧Mo e0 e M M' m1 m2 m3∧Wk w' p e∧But p w w'
theorem mo_parts (x y z:Nat) (hz:0 < z):x / z * y+x % z * y / z = x * y / z∧x % z * y % z = x * y % z:=by
 have h:x * y = z * (x / z * y)+x % z * y:=by
  have:=Nat.div_add_mod x z
  conv=>lhs; rw [← this,Nat.add_mul,Nat.mul_assoc]
 constructor
 ·rw [h,Nat.mul_add_div hz]
 ·rw [h,Nat.mul_add_mod]
theorem mo_end {e e1 e2 e3 e4 e5:Int} {x y z H L T Q R P S:Nat} (q1:Wd e e1 H L x z) (q2:Wz e1 e2 T (L * y) (Over (L * y))) (q3:Wd e2 e3 Q R T z) (q4:Wz e3 e4 P (H * y) (Over (H * y))) (q5:Wz e4 e5 S (P+Q) (Over (P+Q))):Mo e e5 S R x y z:=by
 have f1:e1 = 0→H = x / z∧L = x % z∧0 < z:=fun h=>⟨(q1.ok h).2.1,(q1.ok h).2.2.1,(q1.ok h).2.2.2⟩
 have f2:e2 = 0→H = x / z∧T = x % z * y∧0 < z:=fun h=>by have k:=q2.ok h; have l:=f1 k.1; exact ⟨l.1,by rw [k.2,l.2.1],l.2.2⟩
 have f3:e3 = 0→H = x / z∧Q = x % z * y / z∧R = x * y % z∧0 < z:=fun h=>by
  have k:=q3.ok h; have l:=f2 k.1; exact ⟨l.1,by rw [k.2.1,l.2.1],by rw [k.2.2.1,l.2.1,(mo_parts x y z l.2.2).2],l.2.2⟩
 have f4:e4 = 0→P = x / z * y∧Q = x % z * y / z∧R = x * y % z∧0 < z:=fun h=>by have k:=q4.ok h; have l:=f3 k.1; exact ⟨by rw [k.2,l.1],l.2.1,l.2.2.1,l.2.2.2⟩
 refine ⟨fun h=>?_,fun h0 hz h=>?_,fun h=>?_⟩
 ·have k:=q5.ok h
  have l:=f4 k.1
  exact ⟨(q1.ok (q2.ok (q3.ok (q4.ok k.1).1).1).1).1,by rw [k.2,l.1,l.2.1,(mo_parts x y z l.2.2.2).1],l.2.2.1,l.2.2.2⟩
 ·have hp:=(mo_parts x y z hz).1
  have s1:Sf e1 (Over (x % z * y)∨Over (x * y / z)):=q1.next (Or.inl h0) (fun _=>hz)
  have s2:=q2.next s1 (fun h o=>by rw [(f1 h).2.1] at o; exact Or.inl o)
  have s3:=q3.next s2 (fun _=>hz)
  have s4:=q4.next s3 (fun h o=>by rw [(f3 h).1] at o; exact Or.inr (o.mono (by omega)))
  have s5:=q5.next s4 (fun h o=>by have l:=f4 h; rw [l.1,l.2.1,hp] at o; exact Or.inr o)
  rcases s5 with s5|s5
  ·exact absurd s5 h
  ·exact s5
 ·have h1:=q1.stay h
  have h2:=q2.stay (by omega)
  have h3:=q3.stay (by omega)
  have h4:=q4.stay (by omega)
  have h5:=q5.stay (by omega)
  omega
structure Mov3S where
 (b0 b1 b2 b3 b4 b5 b6 b7 b8 b9:Bool)
 (v0 v1 v2 v3 v4 v5 v6 v7:Value)
 (A4:Option Addr)
 (N4 C4:Nat)
 (M4:Nat)
 (E4:Int)
 (A6:Option Addr)
 (N6 C6:Nat)
 (M6:Nat)
 (E6:Int)
 bs9:List En
 os9:Os
structure Mov3R (w:World) (p:Nat) (a1 a2 a3:Option Addr) (n1 n2 n3 c1 c2 c3 m2:Nat) (yA1:Option Addr) (yN1 yC1 yM1:Nat) (yP1:Option Addr) (yG1 yR1:Nat) (w1:World) (x2_A4:Option Addr) (x2_N4:Nat) (x2_C4:Nat) (x2_A6:Option Addr) (x2_N6:Nat) (x2_C6:Nat) (x2_M6:Nat) (x2_P6:Option Addr) (x2_Q6:Nat) (x2_R6:Nat) (x2_L6:Nat) (x2_E6:Int) (S9:Nat) (b0 b1 b2 b3 b4 b5 b6 b7 b8 b9:Bool) (v0 v1 v2 v3 v4 v5 v6 v7:Value) (A4:Option Addr) (N4 C4:Nat) (M4:Nat) (E4:Int) (A6:Option Addr) (N6 C6:Nat) (M6:Nat) (E6:Int) (bs9:List En) (os9:Os) (w':World):Prop where
 hc:Rc w S9 [⟨w1.heap.size,#[.slice yA1 yN1 yC1],27⟩,⟨w.heap.size+1,#[.slice a2 n2 c2],27⟩] [(a2,n2,m2)] [(x2_A6,x2_N6,x2_C6,x2_M6),(x2_P6,x2_Q6,x2_R6,x2_L6),(yA1,yN1,yC1,yM1)] (some ((p),(cond b6 E6 (cond b4 E4 x2_E6)))) bs9 os9 w'
 f0:b0 = true→v0 = .pointer (some ⟨p,0,none⟩)
 f1:b1 = true→v1 = .pointer (some ⟨p,0,none⟩)
 f2:b2 = true→v2 = .agg #[.slice yA1 yN1 yC1]
 f3:b3 = true→v3 = .agg #[.slice a2 n2 c2]
 f4:b4 = true→v4 = .agg #[.slice A4 N4 C4]∧(A4,N4,C4,M4)∈os9∧Wz x2_E6 E4 M4 (yM1 * m2) (Over (yM1 * m2))
 f5:b5 = true→v5 = .agg #[.slice x2_A6 x2_N6 x2_C6]
 f6:b6 = true→v6 = .agg #[.slice A6 N6 C6]∧(A6,N6,C6,M6)∈os9∧Wz E4 E6 M6 (M4+x2_M6) (Over (M4+x2_M6))
 f7:b7 = true→v7 = .agg #[.slice x2_P6 x2_Q6 x2_R6]
 o0_0:b8 = false→⟨w.heap.size+1+1+1,#[.slice x2_A6 x2_N6 x2_C6],27⟩∈bs9
 o0_1:b8 = true→⟨w.heap.size+1+1+1,#[.slice A6 N6 C6],27⟩∈bs9
 o1_0:b9 = false→⟨w.heap.size+1+1+1+1,#[.slice x2_P6 x2_Q6 x2_R6],27⟩∈bs9
 o1_1:b9 = true→⟨w.heap.size+1+1+1+1,#[.slice x2_P6 x2_Q6 x2_R6],27⟩∈bs9
 g8_5:b8 = true→b5 = true
 g6_4:b6 = true→b4 = true
 g9_7:b9 = true→b7 = true
 g8_6:b8 = true→b6 = true
 g8_4:b8 = true→b4 = true
 g9_8:b9 = true→b8 = true
def Mov3I (w:World) (p:Nat) (a1 a2 a3:Option Addr) (n1 n2 n3 c1 c2 c3 m2:Nat) (yA1:Option Addr) (yN1 yC1 yM1:Nat) (yP1:Option Addr) (yG1 yR1:Nat) (w1:World) (x2_A4:Option Addr) (x2_N4:Nat) (x2_C4:Nat) (x2_A6:Option Addr) (x2_N6:Nat) (x2_C6:Nat) (x2_M6:Nat) (x2_P6:Option Addr) (x2_Q6:Nat) (x2_R6:Nat) (x2_L6:Nat) (x2_E6:Int) (S9:Nat) (l:Array Bool) (act:Act) (w':World):Mov3S→Prop
 | ⟨b0,b1,b2,b3,b4,b5,b6,b7,b8,b9,v0,v1,v2,v3,v4,v5,v6,v7,A4,N4,C4,M4,E4,A6,N6,C6,M6,E6,bs9,os9⟩=>l = #[b0,b1,b2,b3,b4,b5,b6,b7,b8,b9]∧act = { tmps:=#[.pointer (some ⟨p,0,none⟩),.agg #[.slice a1 n1 c1],.agg #[.slice a2 n2 c2],.agg #[.slice a3 n3 c3],undef,.pointer (some ⟨w.heap.size,0,none⟩),.pointer (some ⟨w.heap.size+1,0,none⟩),.pointer (some ⟨w.heap.size+1+1,0,none⟩),.pointer (some ⟨w.heap.size+1+1+1,0,none⟩),.pointer (some ⟨w.heap.size+1+1+1+1,0,none⟩),.pointer (some ⟨w1.heap.size,0,none⟩),.pointer (some ⟨w1.heap.size+1,0,none⟩),.tuple #[.agg #[.slice yA1 yN1 yC1],.agg #[.slice yP1 yG1 yR1]],.pointer (some ⟨p,0,none⟩),.agg #[.slice a1 n1 c1],.agg #[.slice a3 n3 c3],.tuple #[.agg #[.slice yA1 yN1 yC1],.agg #[.slice yP1 yG1 yR1]],.agg #[.slice yA1 yN1 yC1],.agg #[.slice yP1 yG1 yR1],.tuple #[.agg #[.slice x2_A6 x2_N6 x2_C6],.agg #[.slice x2_P6 x2_Q6 x2_R6]],.pointer (some ⟨p,0,none⟩),.pointer (some ⟨p,0,none⟩),.agg #[.slice yP1 yG1 yR1],.agg #[.slice a2 n2 c2],.agg #[.slice x2_A4 x2_N4 x2_C4],.agg #[.slice a3 n3 c3],.tuple #[.agg #[.slice x2_A6 x2_N6 x2_C6],.agg #[.slice x2_P6 x2_Q6 x2_R6]],.agg #[.slice x2_A6 x2_N6 x2_C6],.agg #[.slice x2_P6 x2_Q6 x2_R6],v0,v1,v2,v3,v4,v5,v6,v7],defers:=[] }∧Mov3R w p a1 a2 a3 n1 n2 n3 c1 c2 c3 m2 yA1 yN1 yC1 yM1 yP1 yG1 yR1 w1 x2_A4 x2_N4 x2_C4 x2_A6 x2_N6 x2_C6 x2_M6 x2_P6 x2_Q6 x2_R6 x2_L6 x2_E6 S9 b0 b1 b2 b3 b4 b5 b6 b7 b8 b9 v0 v1 v2 v3 v4 v5 v6 v7 A4 N4 C4 M4 E4 A6 N6 C6 M6 E6 bs9 os9 w'
structure Mov2S where
 (b0 b1 b2 b3 b4 b5 b6 b7 b8 b9 b10 b11:Bool)
 (v0 v1 v2 v3 v4 v5 v6 v7 v8 v9:Value)
 (A4:Option Addr)
 (N4 C4:Nat)
 (M4:Nat)
 (E4:Int)
 (A6:Option Addr)
 (N6 C6:Nat)
 (M6:Nat)
 (P6:Option Addr) (Q6 R6 L6:Nat)
 (E6:Int)
 bs9:List En
 os9:Os
structure Mov2R (w:World) (p:Nat) (a1 a2 a3:Option Addr) (n1 n2 n3 c1 c2 c3 m2 m3:Nat) (yA1:Option Addr) (yN1 yC1 yM1:Nat) (yP1:Option Addr) (yG1 yR1 yL1:Nat) (yE1:Int) (w1:World) (S9:Nat) (b0 b1 b2 b3 b4 b5 b6 b7 b8 b9 b10 b11:Bool) (v0 v1 v2 v3 v4 v5 v6 v7 v8 v9:Value) (A4:Option Addr) (N4 C4:Nat) (M4:Nat) (E4:Int) (A6:Option Addr) (N6 C6:Nat) (M6:Nat) (P6:Option Addr) (Q6 R6 L6:Nat) (E6:Int) (bs9:List En) (os9:Os) (w':World):Prop where
 hc:Rc w S9 [⟨w1.heap.size+1,#[.slice yP1 yG1 yR1],27⟩,⟨w1.heap.size,#[.slice yA1 yN1 yC1],27⟩,⟨w.heap.size+1+1,#[.slice a3 n3 c3],27⟩,⟨w.heap.size+1,#[.slice a2 n2 c2],27⟩] [(a3,n3,m3),(a2,n2,m2)] [(yP1,yG1,yR1,yL1),(yA1,yN1,yC1,yM1)] (some ((p),(cond b6 E6 (cond b4 E4 yE1)))) bs9 os9 w'
 f0:b0 = true→v0 = .pointer (some ⟨p,0,none⟩)
 f1:b1 = true→v1 = .pointer (some ⟨p,0,none⟩)
 f2:b2 = true→v2 = .agg #[.slice yP1 yG1 yR1]
 f3:b3 = true→v3 = .agg #[.slice a2 n2 c2]
 f4:b4 = true→v4 = .agg #[.slice A4 N4 C4]∧(A4,N4,C4,M4)∈os9∧Wz yE1 E4 M4 (yL1 * m2) (Over (yL1 * m2))
 f5:b5 = true→v5 = .agg #[.slice a3 n3 c3]
 f6:b6 = true→v6 = .tuple #[.agg #[.slice A6 N6 C6],.agg #[.slice P6 Q6 R6]]∧((A6,N6,C6,M6)∈os9∧(P6,Q6,R6,L6)∈os9)∧Wd E4 E6 M6 L6 M4 m3
 f7:b7 = true→v7 = .tuple #[.agg #[.slice A6 N6 C6],.agg #[.slice P6 Q6 R6]]
 f8:b8 = true→v8 = .agg #[.slice A6 N6 C6]
 f9:b9 = true→v9 = .agg #[.slice P6 Q6 R6]
 o0_0:b10 = false→⟨w.heap.size+1+1+1,#[.slice none 0 0],27⟩∈bs9
 o0_1:b10 = true→⟨w.heap.size+1+1+1,#[.slice A6 N6 C6],27⟩∈bs9
 o1_0:b11 = false→⟨w.heap.size+1+1+1+1,#[.slice none 0 0],27⟩∈bs9
 o1_1:b11 = true→⟨w.heap.size+1+1+1+1,#[.slice P6 Q6 R6],27⟩∈bs9
 g6_4:b6 = true→b4 = true
 g7_6:b7 = true→b6 = true
 g7_4:b7 = true→b4 = true
 g8_6:b8 = true→b6 = true
 g8_4:b8 = true→b4 = true
 g9_6:b9 = true→b6 = true
 g9_4:b9 = true→b4 = true
 g10_8:b10 = true→b8 = true
 g10_6:b10 = true→b6 = true
 g10_4:b10 = true→b4 = true
 g11_9:b11 = true→b9 = true
 g11_6:b11 = true→b6 = true
 g11_4:b11 = true→b4 = true
 g11_10:b11 = true→b10 = true
def Mov2I (w:World) (p:Nat) (a1 a2 a3:Option Addr) (n1 n2 n3 c1 c2 c3 m2 m3:Nat) (yA1:Option Addr) (yN1 yC1 yM1:Nat) (yP1:Option Addr) (yG1 yR1 yL1:Nat) (yE1:Int) (w1:World) (S9:Nat) (l:Array Bool) (act:Act) (w':World):Mov2S→Prop
 | ⟨b0,b1,b2,b3,b4,b5,b6,b7,b8,b9,b10,b11,v0,v1,v2,v3,v4,v5,v6,v7,v8,v9,A4,N4,C4,M4,E4,A6,N6,C6,M6,P6,Q6,R6,L6,E6,bs9,os9⟩=>l = #[b0,b1,b2,b3,b4,b5,b6,b7,b8,b9,b10,b11]∧act = { tmps:=#[.pointer (some ⟨p,0,none⟩),.agg #[.slice a1 n1 c1],.agg #[.slice a2 n2 c2],.agg #[.slice a3 n3 c3],undef,.pointer (some ⟨w.heap.size,0,none⟩),.pointer (some ⟨w.heap.size+1,0,none⟩),.pointer (some ⟨w.heap.size+1+1,0,none⟩),.pointer (some ⟨w.heap.size+1+1+1,0,none⟩),.pointer (some ⟨w.heap.size+1+1+1+1,0,none⟩),.pointer (some ⟨w1.heap.size,0,none⟩),.pointer (some ⟨w1.heap.size+1,0,none⟩),.tuple #[.agg #[.slice yA1 yN1 yC1],.agg #[.slice yP1 yG1 yR1]],.pointer (some ⟨p,0,none⟩),.agg #[.slice a1 n1 c1],.agg #[.slice a3 n3 c3],.tuple #[.agg #[.slice yA1 yN1 yC1],.agg #[.slice yP1 yG1 yR1]],.agg #[.slice yA1 yN1 yC1],.agg #[.slice yP1 yG1 yR1],v7,v0,v1,v2,v3,v4,v5,v6,v8,v9,undef,undef,undef,undef,undef,undef,undef,undef],defers:=[] }∧Mov2R w p a1 a2 a3 n1 n2 n3 c1 c2 c3 m2 m3 yA1 yN1 yC1 yM1 yP1 yG1 yR1 yL1 yE1 w1 S9 b0 b1 b2 b3 b4 b5 b6 b7 b8 b9 b10 b11 v0 v1 v2 v3 v4 v5 v6 v7 v8 v9 A4 N4 C4 M4 E4 A6 N6 C6 M6 P6 Q6 R6 L6 E6 bs9 os9 w'
theorem mulOver_any (p:Nat) (e0:Int) (a1 a2 a3:Option Addr) (n1 n2 n3 c1 c2 c3 m1 m2 m3:Nat) (w:World) (hk:Wk w p e0) (h1:Num w a1 n1 m1) (h2:Num w a2 n2 m2) (h3:Num w a3 n3 m3) :
  Calls Tryz.prog 88 #[.pointer (some ⟨p,0,none⟩),.agg #[.slice a1 n1 c1],.agg #[.slice a2 n2 c2],.agg #[.slice a3 n3 c3]] w (MoAns p e0 w m1 m2 m3):=by
 have hpl:=hk.lt
 have hS:=Rs.begin_work hk
 replace hS:=hS.num h1
 replace hS:=hS.num h2
 replace hS:=hS.num h3
 replace hS:=hS.alloc #[.slice a1 n1 c1] 27
 try simp only [World.size_alloc] at hS
 replace hS:=hS.alloc #[.slice a2 n2 c2] 27
 try simp only [World.size_alloc] at hS
 replace hS:=hS.alloc #[.slice a3 n3 c3] 27
 try simp only [World.size_alloc] at hS
 replace hS:=hS.alloc #[.slice none 0 0] 27
 try simp only [World.size_alloc] at hS
 replace hS:=hS.alloc #[.slice none 0 0] 27
 try simp only [World.size_alloc] at hS
 go_enter Tryz.func88,Tryz.ntmps88
 go_wp2_with fail
 refine (W_div hS c1 c3 (hS.nm (a1,n1,m1) (by simp)) (hS.nm (a3,n3,m3) (by simp))).mono ?_
 clear hS; rintro en w1 ⟨yA1,yN1,yC1,yM1,yP1,yG1,yR1,yL1,yE1,rfl,hS,q1,hz1⟩
 have Q1:=hide q1
 clear q1
 simp only [World.size_alloc] at hz1
 replace hS:=hS.alloc #[.slice yA1 yN1 yC1] 27
 try simp only [World.size_alloc] at hS
 replace hS:=hS.alloc #[.slice yP1 yG1 yR1] 27
 try simp only [World.size_alloc] at hS
 obtain ⟨⟨k0_0,-⟩,z0⟩:=hS.cz ⟨w1.heap.size+1,#[.slice yP1 yG1 yR1],27⟩ (by simp)
 have z0_0:=z0 0
 clear z0
 obtain ⟨⟨k1_0,-⟩,z1⟩:=hS.cz ⟨w1.heap.size,#[.slice yA1 yN1 yC1],27⟩ (by simp)
 have z1_0:=z1 0
 clear z1
 obtain ⟨⟨k2_0,-⟩,z2⟩:=hS.cz ⟨w.heap.size+1+1+1+1,#[.slice none 0 0],27⟩ (by simp)
 have z2_0:=z2 0
 clear z2
 obtain ⟨⟨k3_0,-⟩,z3⟩:=hS.cz ⟨w.heap.size+1+1+1,#[.slice none 0 0],27⟩ (by simp)
 have z3_0:=z3 0
 clear z3
 obtain ⟨⟨k4_0,-⟩,z4⟩:=hS.cz ⟨w.heap.size+1+1,#[.slice a3 n3 c3],27⟩ (by simp)
 have z4_0:=z4 0
 clear z4
 obtain ⟨⟨k5_0,-⟩,z5⟩:=hS.cz ⟨w.heap.size+1,#[.slice a2 n2 c2],27⟩ (by simp)
 have z5_0:=z5 0
 clear z5
 obtain ⟨⟨k6_0,-⟩,z6⟩:=hS.cz ⟨w.heap.size,#[.slice a1 n1 c1],27⟩ (by simp)
 have z6_0:=z6 0
 clear z6
 simp only [] at k0_0 z0_0 k1_0 z1_0 k2_0 z2_0 k3_0 z3_0 k4_0 z4_0 k5_0 z5_0 k6_0 z6_0
 go_wp2_with fail
 clear k0_0 z0_0 k1_0 z1_0 k2_0 z2_0 k3_0 z3_0 k4_0 z4_0 k5_0 z5_0 k6_0 z6_0
 replace hS:=hS.sub (bs':=[⟨w1.heap.size+1,#[.slice yP1 yG1 yR1],27⟩,⟨w1.heap.size,#[.slice yA1 yN1 yC1],27⟩,⟨w.heap.size+1+1+1+1,#[.slice none 0 0],27⟩,⟨w.heap.size+1+1+1,#[.slice none 0 0],27⟩,⟨w.heap.size+1+1,#[.slice a3 n3 c3],27⟩,⟨w.heap.size+1,#[.slice a2 n2 c2],27⟩]) (ms':=[(a3,n3,m3),(a2,n2,m2)]) (os':=[(yP1,yG1,yR1,yL1),(yA1,yN1,yC1,yM1)]) (by intro x hx; rcases List.mem_cons.1 hx with rfl|hx; (simp); rcases List.mem_cons.1 hx with rfl|hx; (simp); rcases List.mem_cons.1 hx with rfl|hx; (simp); rcases List.mem_cons.1 hx with rfl|hx; (simp); rcases List.mem_cons.1 hx with rfl|hx; (simp); rcases List.mem_cons.1 hx with rfl|hx; (simp); exact absurd hx List.not_mem_nil) (by intro x hx; rcases List.mem_cons.1 hx with rfl|hx; (simp); rcases List.mem_cons.1 hx with rfl|hx; (simp); exact absurd hx List.not_mem_nil) (by intro x hx; rcases List.mem_cons.1 hx with rfl|hx; (simp); rcases List.mem_cons.1 hx with rfl|hx; (simp); exact absurd hx List.not_mem_nil)
 refine wp_region_any (by kernel_rfl) ?_
 change wpAny _ _ _ _ _ _ _ (World.drew _)
 have hS9:=hS.drew
 have hsW9:(World.drew ((w1.alloc (.cells #[.slice yA1 yN1 yC1] 27)).alloc (.cells #[.slice yP1 yG1 yR1] 27))).heap.size = w1.heap.size+1+1:=by first|rfl|simp
 generalize World.drew ((w1.alloc (.cells #[.slice yA1 yN1 yC1] 27)).alloc (.cells #[.slice yP1 yG1 yR1] 27)) = Wd at hS9 hsW9 ⊢
 obtain ⟨S9,hS9z⟩:∃ x,x = Wd.heap.size:=⟨_,rfl⟩
 have hC9:=Rc.start (bs:=[⟨w1.heap.size+1,#[.slice yP1 yG1 yR1],27⟩,⟨w1.heap.size,#[.slice yA1 yN1 yC1],27⟩,⟨w.heap.size+1+1,#[.slice a3 n3 c3],27⟩,⟨w.heap.size+1,#[.slice a2 n2 c2],27⟩]) hS9 (by simp)
 rw [← hS9z] at hC9
 have hP9_0:=hS9.bx ⟨w.heap.size+1+1+1,#[.slice none 0 0],27⟩ (by simp)
 have hP9_0:=block_lt hP9_0.1
 rw [← hS9z] at hP9_0
 simp only [] at hP9_0
 have hP9_1:=hS9.bx ⟨w.heap.size+1+1+1+1,#[.slice none 0 0],27⟩ (by simp)
 have hP9_1:=block_lt hP9_1.1
 rw [← hS9z] at hP9_1
 simp only [] at hP9_1
 refine wpAny_inv (fun l act w'=>∃ σ,Mov2I w p a1 a2 a3 n1 n2 n3 c1 c2 c3 m2 m3 yA1 yN1 yC1 yM1 yP1 yG1 yR1 yL1 yE1 w1 S9 l act w' σ) ?_ ?_ _ _ _ _ ?_ ?_
 ·intro l act w' i9 hI9 hi9 hl9
  have hin9:i9 < 12:=by
   by_cases h:i9 < 12
   ·exact h
   ·obtain ⟨⟨⟩,rfl,_⟩:=hI9
    rw [Array.getElem?_eq_none (by simp; omega)] at hl9; cases hl9
  have hcase:i9 = 0∨i9 = 1∨i9 = 2∨i9 = 3∨i9 = 4∨i9 = 5∨i9 = 6∨i9 = 7∨i9 = 8∨i9 = 9∨i9 = 10∨i9 = 11:=by omega
  clear hin9
  obtain ⟨⟨b0,b1,b2,b3,b4,b5,b6,b7,b8,b9,b10,b11,v0,v1,v2,v3,v4,v5,v6,v7,v8,v9,A4,N4,C4,M4,E4,A6,N6,C6,M6,P6,Q6,R6,L6,E6,bs9,os9⟩,rfl,rfl,hR⟩:=hI9
  rcases hcase with rfl|rfl|rfl|rfl|rfl|rfl|rfl|rfl|rfl|rfl|rfl|rfl
  ·obtain rfl:b0 = false:=by simpa using hl9
   have hc:=hR.hc
   refine wpOp_step rfl fun K hK=>?_
   go_simp
   exact hK _ _ ⟨⟨_,_,_,_,_,_,_,_,_,_,_,_,_,_,_,_,_,_,_,_,_,_,A4,N4,C4,M4,E4,A6,N6,C6,M6,P6,Q6,R6,L6,E6,_,_⟩,rfl,rfl,{ hR with hc:=hc,f0:=(fun _=>rfl) }⟩
  ·obtain rfl:b1 = false:=by simpa using hl9
   have hc:=hR.hc
   refine wpOp_step rfl fun K hK=>?_
   go_simp
   exact hK _ _ ⟨⟨_,_,_,_,_,_,_,_,_,_,_,_,_,_,_,_,_,_,_,_,_,_,A4,N4,C4,M4,E4,A6,N6,C6,M6,P6,Q6,R6,L6,E6,_,_⟩,rfl,rfl,{ hR with hc:=hc,f1:=(fun _=>rfl) }⟩
  ·obtain rfl:b2 = false:=by simpa using hl9
   have hc:=hR.hc
   have c9_0:=hc.st.cellAt (hc.old ⟨w1.heap.size+1,#[.slice yP1 yG1 yR1],27⟩ (by simp)).1 0 (.slice yP1 yG1 yR1) rfl
   simp only [] at c9_0
   refine wpOp_step rfl fun K hK=>?_
   go_simp
   exact hK _ _ ⟨⟨_,_,_,_,_,_,_,_,_,_,_,_,_,_,_,_,_,_,_,_,_,_,A4,N4,C4,M4,E4,A6,N6,C6,M6,P6,Q6,R6,L6,E6,_,_⟩,rfl,rfl,{ hR with hc:=hc,f2:=(fun _=>rfl) }⟩
  ·obtain rfl:b3 = false:=by simpa using hl9
   have hc:=hR.hc
   have c9_0:=hc.st.cellAt (hc.old ⟨w.heap.size+1,#[.slice a2 n2 c2],27⟩ (by simp)).1 0 (.slice a2 n2 c2) rfl
   simp only [] at c9_0
   refine wpOp_step rfl fun K hK=>?_
   go_simp
   exact hK _ _ ⟨⟨_,_,_,_,_,_,_,_,_,_,_,_,_,_,_,_,_,_,_,_,_,_,A4,N4,C4,M4,E4,A6,N6,C6,M6,P6,Q6,R6,L6,E6,_,_⟩,rfl,rfl,{ hR with hc:=hc,f3:=(fun _=>rfl) }⟩
  ·obtain rfl:b4 = false:=by simpa using hl9
   obtain ⟨o9,ho9,hd9⟩:=(mem_ready.1 hi9).2
   cases ho9
   have e1:b1 = true:=hd9 ⟨1,.data⟩ (by simp) rfl
   have e2:b2 = true:=hd9 ⟨2,.data⟩ (by simp) rfl
   have e3:b3 = true:=hd9 ⟨3,.data⟩ (by simp) rfl
   subst e1 e2 e3
   have h9:=hR.f1 rfl
   subst h9
   have h9:=hR.f2 rfl
   subst h9
   have h9:=hR.f3 rfl
   subst h9
   have hc:=hR.hc
   obtain rfl:b6 = false:=by cases h:b6; rfl; exact Bool.noConfusion (hR.g6_4 h)
   simp only [cond_false] at hc
   have HR:=hide hR
   clear hR
   refine wpOp_step rfl fun K hK=>?_
   go_simp
   go_wp2_with fail
   refine (W_mul hc.st yR1 c2 (hc.st.ow (yP1,yG1,yR1,yL1) (hc.oso _ (by simp))).num (hc.st.nm (a2,n2,m2) (by simp))).mono ?_
   rintro en w9 ⟨a9,n9,c9,m9,e9,rfl,hs9,hz,hz9⟩
   have hR:=unhide HR
   exact hK _ _ ⟨⟨_,_,_,_,_,_,_,_,_,_,_,_,_,_,_,_,_,_,_,_,_,_,_,_,_,_,_,A6,N6,C6,M6,P6,Q6,R6,L6,E6,_,_⟩,rfl,rfl,{ hR with hc:=(hc.call hs9 hz9 (fun y hy=>List.mem_cons_of_mem _ hy)),f4:=(fun _=>⟨rfl,List.mem_cons_self ..,hz⟩),f6:=(fun h=>Bool.noConfusion (hR.g6_4 h)),f7:=(fun h=>Bool.noConfusion (hR.g7_4 h)),f8:=(fun h=>Bool.noConfusion (hR.g8_4 h)),f9:=(fun h=>Bool.noConfusion (hR.g9_4 h)),o0_1:=(fun h=>Bool.noConfusion (hR.g10_4 h)),o1_1:=(fun h=>Bool.noConfusion (hR.g11_4 h)),g6_4:=(fun _=>rfl),g7_4:=(fun _=>rfl),g8_4:=(fun _=>rfl),g9_4:=(fun _=>rfl),g10_4:=(fun _=>rfl),g11_4:=(fun _=>rfl) }⟩
  ·obtain rfl:b5 = false:=by simpa using hl9
   have hc:=hR.hc
   have c9_0:=hc.st.cellAt (hc.old ⟨w.heap.size+1+1,#[.slice a3 n3 c3],27⟩ (by simp)).1 0 (.slice a3 n3 c3) rfl
   simp only [] at c9_0
   refine wpOp_step rfl fun K hK=>?_
   go_simp
   exact hK _ _ ⟨⟨_,_,_,_,_,_,_,_,_,_,_,_,_,_,_,_,_,_,_,_,_,_,A4,N4,C4,M4,E4,A6,N6,C6,M6,P6,Q6,R6,L6,E6,_,_⟩,rfl,rfl,{ hR with hc:=hc,f5:=(fun _=>rfl) }⟩
  ·obtain rfl:b6 = false:=by simpa using hl9
   obtain ⟨o9,ho9,hd9⟩:=(mem_ready.1 hi9).2
   cases ho9
   have e0:b0 = true:=hd9 ⟨0,.data⟩ (by simp) rfl
   have e4:b4 = true:=hd9 ⟨4,.data⟩ (by simp) rfl
   have e5:b5 = true:=hd9 ⟨5,.data⟩ (by simp) rfl
   subst e0 e4 e5
   have h9:=hR.f0 rfl
   subst h9
   have q4:=hR.f4 rfl
   obtain ⟨h9,q4m,q4z⟩:=q4
   subst h9
   have h9:=hR.f5 rfl
   subst h9
   have hc:=hR.hc
   simp only [cond_true,cond_false] at hc
   have HR:=hide hR
   clear hR
   refine wpOp_step rfl fun K hK=>?_
   go_simp
   go_wp2_with fail
   refine (W_div hc.st C4 c3 (hc.st.ow _ q4m).num (hc.st.nm (a3,n3,m3) (by simp))).mono ?_
   rintro en w9 ⟨a9,n9,c9,m9,a8,n8,c8,m8,e9,rfl,hs9,hz,hz9⟩
   have hR:=unhide HR
   exact hK _ _ ⟨⟨_,_,_,_,_,_,_,_,_,_,_,_,_,_,_,_,_,_,_,_,_,_,A4,N4,C4,M4,E4,_,_,_,_,_,_,_,_,_,_,_⟩,rfl,rfl,{ hR with hc:=(hc.call hs9 hz9 (fun y hy=>List.mem_cons_of_mem _ (List.mem_cons_of_mem _ hy))),f4:=(fun h=>⟨(hR.f4 h).1,List.mem_cons_of_mem _ (List.mem_cons_of_mem _ (hR.f4 h).2.1),(hR.f4 h).2.2⟩),f6:=(fun _=>⟨rfl,⟨List.mem_cons_of_mem _ (List.mem_cons_self ..),List.mem_cons_self ..⟩,hz⟩),f7:=(fun h=>Bool.noConfusion (hR.g7_6 h)),f8:=(fun h=>Bool.noConfusion (hR.g8_6 h)),f9:=(fun h=>Bool.noConfusion (hR.g9_6 h)),o0_1:=(fun h=>Bool.noConfusion (hR.g10_6 h)),o1_1:=(fun h=>Bool.noConfusion (hR.g11_6 h)),g6_4:=(fun _=>rfl),g7_6:=(fun _=>rfl),g8_6:=(fun _=>rfl),g9_6:=(fun _=>rfl),g10_6:=(fun _=>rfl),g11_6:=(fun _=>rfl) }⟩
  ·obtain rfl:b7 = false:=by simpa using hl9
   obtain ⟨o9,ho9,hd9⟩:=(mem_ready.1 hi9).2
   cases ho9
   have e6:b6 = true:=hd9 ⟨6,.data⟩ (by simp) rfl
   subst e6
   have q6:=hR.f6 rfl
   obtain ⟨h9,q6m,q6z⟩:=q6
   subst h9
   have hc:=hR.hc
   refine wpOp_step rfl fun K hK=>?_
   go_simp
   exact hK _ _ ⟨⟨_,_,_,_,_,_,_,_,_,_,_,_,_,_,_,_,_,_,_,_,_,_,A4,N4,C4,M4,E4,A6,N6,C6,M6,P6,Q6,R6,L6,E6,_,_⟩,rfl,rfl,{ hR with hc:=hc,f7:=(fun _=>rfl),g7_6:=(fun _=>rfl),g7_4:=(fun _=>hR.g6_4 rfl) }⟩
  ·obtain rfl:b8 = false:=by simpa using hl9
   obtain ⟨o9,ho9,hd9⟩:=(mem_ready.1 hi9).2
   cases ho9
   have e7:b7 = true:=hd9 ⟨7,.data⟩ (by simp) rfl
   subst e7
   obtain rfl:b6 = true:=hR.g7_6 rfl
   have q6:=hR.f6 rfl
   obtain ⟨h9,q6m,q6z⟩:=q6
   subst h9
   obtain rfl:b4 = true:=hR.g7_4 rfl
   have q4:=hR.f4 rfl
   obtain ⟨h9,q4m,q4z⟩:=q4
   subst h9
   have h9:=hR.f7 rfl
   subst h9
   have hc:=hR.hc
   refine wpOp_step rfl fun K hK=>?_
   go_simp
   exact hK _ _ ⟨⟨_,_,_,_,_,_,_,_,_,_,_,_,_,_,_,_,_,_,_,_,_,_,A4,N4,C4,M4,E4,A6,N6,C6,M6,P6,Q6,R6,L6,E6,_,_⟩,rfl,rfl,{ hR with hc:=hc,f8:=(fun _=>rfl),o0_1:=(fun h=>Bool.noConfusion (hR.g10_8 h)),g8_6:=(fun _=>rfl),g8_4:=(fun _=>rfl),g10_8:=(fun _=>rfl) }⟩
  ·obtain rfl:b9 = false:=by simpa using hl9
   obtain ⟨o9,ho9,hd9⟩:=(mem_ready.1 hi9).2
   cases ho9
   have e7:b7 = true:=hd9 ⟨7,.data⟩ (by simp) rfl
   subst e7
   obtain rfl:b6 = true:=hR.g7_6 rfl
   have q6:=hR.f6 rfl
   obtain ⟨h9,q6m,q6z⟩:=q6
   subst h9
   obtain rfl:b4 = true:=hR.g7_4 rfl
   have q4:=hR.f4 rfl
   obtain ⟨h9,q4m,q4z⟩:=q4
   subst h9
   have h9:=hR.f7 rfl
   subst h9
   have hc:=hR.hc
   refine wpOp_step rfl fun K hK=>?_
   go_simp
   exact hK _ _ ⟨⟨_,_,_,_,_,_,_,_,_,_,_,_,_,_,_,_,_,_,_,_,_,_,A4,N4,C4,M4,E4,A6,N6,C6,M6,P6,Q6,R6,L6,E6,_,_⟩,rfl,rfl,{ hR with hc:=hc,f9:=(fun _=>rfl),o1_1:=(fun h=>Bool.noConfusion (hR.g11_9 h)),g9_6:=(fun _=>rfl),g9_4:=(fun _=>rfl),g11_9:=(fun _=>rfl) }⟩
  ·obtain rfl:b10 = false:=by simpa using hl9
   obtain ⟨o9,ho9,hd9⟩:=(mem_ready.1 hi9).2
   cases ho9
   have e8:b8 = true:=hd9 ⟨8,.data⟩ (by simp) rfl
   subst e8
   obtain rfl:b6 = true:=hR.g8_6 rfl
   have q6:=hR.f6 rfl
   obtain ⟨h9,q6m,q6z⟩:=q6
   subst h9
   obtain rfl:b4 = true:=hR.g8_4 rfl
   have q4:=hR.f4 rfl
   obtain ⟨h9,q4m,q4z⟩:=q4
   subst h9
   have h9:=hR.f8 rfl
   subst h9
   have hc:=hR.hc
   have hm9:=hR.o0_0 rfl
   have fz9_0:=hc.st.frozen hm9 0
   have cz9_0:=hc.st.cellAt hm9 0 (.slice none 0 0) rfl
   simp only [] at fz9_0 cz9_0
   have hn9:∀ x,x∈([⟨w1.heap.size+1,#[.slice yP1 yG1 yR1],27⟩,⟨w1.heap.size,#[.slice yA1 yN1 yC1],27⟩,⟨w.heap.size+1+1,#[.slice a3 n3 c3],27⟩,⟨w.heap.size+1,#[.slice a2 n2 c2],27⟩]:List En)→x.b≠w.heap.size+1+1+1:=by intro x hx; rcases List.mem_cons.1 hx with rfl|hx; (simp only []; omega); rcases List.mem_cons.1 hx with rfl|hx; (simp only []; omega); rcases List.mem_cons.1 hx with rfl|hx; (simp only []; omega); rcases List.mem_cons.1 hx with rfl|hx; (simp only []; omega);  exact absurd hx List.not_mem_nil
   have hw9:w.heap.size≤w.heap.size+1+1+1:=by omega
   refine wpOp_step rfl fun K hK=>?_
   go_simp
   exact hK _ _ ⟨⟨_,_,_,_,_,_,_,_,_,_,_,_,_,_,_,_,_,_,_,_,_,_,A4,N4,C4,M4,E4,A6,N6,C6,M6,P6,Q6,R6,L6,E6,_,_⟩,rfl,rfl,{ hR with hc:=(hc.store hm9 hw9 hn9 0 (.slice A6 N6 C6) (by simp)),o0_0:=(fun h=>Bool.noConfusion h),o0_1:=(fun _=>List.mem_cons_self ..),o1_0:=(fun h0=>(List.mem_cons_of_mem _ (List.mem_filter.2 ⟨(hR.o1_0 h0),by simp only [ne_eq,decide_not,Bool.not_eq_eq_eq_not,Bool.not_true,decide_eq_false_iff_not]; omega⟩))),o1_1:=(fun h0=>(List.mem_cons_of_mem _ (List.mem_filter.2 ⟨(hR.o1_1 h0),by simp only [ne_eq,decide_not,Bool.not_eq_eq_eq_not,Bool.not_true,decide_eq_false_iff_not]; omega⟩))),g10_8:=(fun _=>rfl),g10_6:=(fun _=>rfl),g10_4:=(fun _=>rfl),g11_10:=(fun _=>rfl) }⟩
  ·obtain rfl:b11 = false:=by simpa using hl9
   obtain ⟨o9,ho9,hd9⟩:=(mem_ready.1 hi9).2
   cases ho9
   have e9:b9 = true:=hd9 ⟨9,.data⟩ (by simp) rfl
   have e10:b10 = true:=hd9 ⟨10,.chain⟩ (by simp) rfl
   subst e9 e10
   obtain rfl:b6 = true:=hR.g9_6 rfl
   have q6:=hR.f6 rfl
   obtain ⟨h9,q6m,q6z⟩:=q6
   subst h9
   obtain rfl:b4 = true:=hR.g9_4 rfl
   have q4:=hR.f4 rfl
   obtain ⟨h9,q4m,q4z⟩:=q4
   subst h9
   have h9:=hR.f9 rfl
   subst h9
   have hc:=hR.hc
   have hm9:=hR.o1_0 rfl
   have fz9_0:=hc.st.frozen hm9 0
   have cz9_0:=hc.st.cellAt hm9 0 (.slice none 0 0) rfl
   simp only [] at fz9_0 cz9_0
   have hn9:∀ x,x∈([⟨w1.heap.size+1,#[.slice yP1 yG1 yR1],27⟩,⟨w1.heap.size,#[.slice yA1 yN1 yC1],27⟩,⟨w.heap.size+1+1,#[.slice a3 n3 c3],27⟩,⟨w.heap.size+1,#[.slice a2 n2 c2],27⟩]:List En)→x.b≠w.heap.size+1+1+1+1:=by intro x hx; rcases List.mem_cons.1 hx with rfl|hx; (simp only []; omega); rcases List.mem_cons.1 hx with rfl|hx; (simp only []; omega); rcases List.mem_cons.1 hx with rfl|hx; (simp only []; omega); rcases List.mem_cons.1 hx with rfl|hx; (simp only []; omega);  exact absurd hx List.not_mem_nil
   have hw9:w.heap.size≤w.heap.size+1+1+1+1:=by omega
   refine wpOp_step rfl fun K hK=>?_
   go_simp
   exact hK _ _ ⟨⟨_,_,_,_,_,_,_,_,_,_,_,_,_,_,_,_,_,_,_,_,_,_,A4,N4,C4,M4,E4,A6,N6,C6,M6,P6,Q6,R6,L6,E6,_,_⟩,rfl,rfl,{ hR with hc:=(hc.store hm9 hw9 hn9 0 (.slice P6 Q6 R6) (by simp)),o0_0:=(fun h0=>(List.mem_cons_of_mem _ (List.mem_filter.2 ⟨(hR.o0_0 h0),by simp only [ne_eq,decide_not,Bool.not_eq_eq_eq_not,Bool.not_true,decide_eq_false_iff_not]; omega⟩))),o0_1:=(fun h0=>(List.mem_cons_of_mem _ (List.mem_filter.2 ⟨(hR.o0_1 h0),by simp only [ne_eq,decide_not,Bool.not_eq_eq_eq_not,Bool.not_true,decide_eq_false_iff_not]; omega⟩))),o1_0:=(fun h=>Bool.noConfusion h),o1_1:=(fun _=>List.mem_cons_self ..),g11_9:=(fun _=>rfl),g11_6:=(fun _=>rfl),g11_4:=(fun _=>rfl),g11_10:=(fun _=>rfl) }⟩
 ·rintro l act Wq2 ⟨⟨b0,b1,b2,b3,b4,b5,b6,b7,b8,b9,b10,b11,v0,v1,v2,v3,v4,v5,v6,v7,v8,v9,x2_A4,x2_N4,x2_C4,x2_M4,x2_E4,x2_A6,x2_N6,x2_C6,x2_M6,x2_P6,x2_Q6,x2_R6,x2_L6,x2_E6,bs9,os9⟩,rfl,rfl,hR⟩ hr9
  obtain ⟨hc,f0,f1,f2,f3,f4,f5,f6,f7,f8,f9,o0_0,o0_1,o1_0,o1_1,g6_4,g7_6,g7_4,g8_6,g8_4,g9_6,g9_4,g10_8,g10_6,g10_4,g11_9,g11_6,g11_4,g11_10⟩:=hR
  have eall:=all_done hr9 (by kernel_rfl) rfl
  obtain rfl:b0 = true:=eall 0 (by decide)
  obtain rfl:b1 = true:=eall 1 (by decide)
  obtain rfl:b2 = true:=eall 2 (by decide)
  obtain rfl:b3 = true:=eall 3 (by decide)
  obtain rfl:b4 = true:=eall 4 (by decide)
  obtain rfl:b5 = true:=eall 5 (by decide)
  obtain rfl:b6 = true:=eall 6 (by decide)
  obtain rfl:b7 = true:=eall 7 (by decide)
  obtain rfl:b8 = true:=eall 8 (by decide)
  obtain rfl:b9 = true:=eall 9 (by decide)
  obtain rfl:b10 = true:=eall 10 (by decide)
  obtain rfl:b11 = true:=eall 11 (by decide)
  clear hr9 eall
  have h9:=f0 rfl
  subst h9
  have h9:=f1 rfl
  subst h9
  have h9:=f2 rfl
  subst h9
  have h9:=f3 rfl
  subst h9
  obtain ⟨h9,q4m,qx2_4⟩:=f4 rfl
  subst h9
  have h9:=f5 rfl
  subst h9
  obtain ⟨h9,⟨q6m,q6m2⟩,qx2_6⟩:=f6 rfl
  subst h9
  have h9:=f7 rfl
  subst h9
  have h9:=f8 rfl
  subst h9
  have h9:=f9 rfl
  subst h9
  simp only [cond_true] at hc
  have hbs9:∀ x,x∈([⟨w.heap.size+1+1+1+1,#[.slice x2_P6 x2_Q6 x2_R6],27⟩,⟨w.heap.size+1+1+1,#[.slice x2_A6 x2_N6 x2_C6],27⟩,⟨w1.heap.size+1,#[.slice yP1 yG1 yR1],27⟩,⟨w1.heap.size,#[.slice yA1 yN1 yC1],27⟩,⟨w.heap.size+1+1,#[.slice a3 n3 c3],27⟩,⟨w.heap.size+1,#[.slice a2 n2 c2],27⟩]:List En)→x∈bs9:=by
   intro x hx
   rcases List.mem_cons.1 hx with rfl|hx
   ·exact (o1_1 rfl)
   rcases List.mem_cons.1 hx with rfl|hx
   ·exact (o0_1 rfl)
   rcases List.mem_cons.1 hx with rfl|hx
   ·exact (hc.old _ (by simp)).1
   rcases List.mem_cons.1 hx with rfl|hx
   ·exact (hc.old _ (by simp)).1
   rcases List.mem_cons.1 hx with rfl|hx
   ·exact (hc.old _ (by simp)).1
   rcases List.mem_cons.1 hx with rfl|hx
   ·exact (hc.old _ (by simp)).1
   exact absurd hx List.not_mem_nil
  have hos9:∀ x,x∈([(x2_A4,x2_N4,x2_C4,x2_M4),(x2_A6,x2_N6,x2_C6,x2_M6),(x2_P6,x2_Q6,x2_R6,x2_L6),(yP1,yG1,yR1,yL1),(yA1,yN1,yC1,yM1)]:Os)→x∈os9:=by
   intro x hx
   rcases List.mem_cons.1 hx with rfl|hx
   ·exact q4m
   rcases List.mem_cons.1 hx with rfl|hx
   ·exact q6m
   rcases List.mem_cons.1 hx with rfl|hx
   ·exact q6m2
   rcases List.mem_cons.1 hx with rfl|hx
   ·exact hc.oso _ (by simp)
   rcases List.mem_cons.1 hx with rfl|hx
   ·exact hc.oso _ (by simp)
   exact absurd hx List.not_mem_nil
  have hS:=hc.st.sub hbs9 (fun x hx=>hx) hos9
  have hsz9:=hc.sz
  rw [hS9z,hsW9] at hsz9
  clear hbs9 hos9 hc f0 f1 f2 f3 f4 f5 f6 f7 f8 f9 o0_0 o0_1 o1_0 o1_1 g6_4 g7_6 g7_4 g8_6 g8_4 g9_6 g9_4 g10_8 g10_6 g10_4 g11_9 g11_6 g11_4 g11_10
  clear q4m q6m q6m2
  have hz2:=hsz9
  clear hsz9 hS9z hS9 hC9 hsW9
  have Qx2_4:=hide qx2_4
  clear qx2_4
  have Qx2_6:=hide qx2_6
  clear qx2_6
  go_wp2_with fail
  replace hS:=hS.sub (bs':=[⟨w.heap.size+1+1+1+1,#[.slice x2_P6 x2_Q6 x2_R6],27⟩,⟨w.heap.size+1+1+1,#[.slice x2_A6 x2_N6 x2_C6],27⟩,⟨w1.heap.size,#[.slice yA1 yN1 yC1],27⟩,⟨w.heap.size+1,#[.slice a2 n2 c2],27⟩]) (ms':=[(a2,n2,m2)]) (os':=[(x2_A6,x2_N6,x2_C6,x2_M6),(x2_P6,x2_Q6,x2_R6,x2_L6),(yA1,yN1,yC1,yM1)]) (by intro x hx; rcases List.mem_cons.1 hx with rfl|hx; (simp); rcases List.mem_cons.1 hx with rfl|hx; (simp); rcases List.mem_cons.1 hx with rfl|hx; (simp); rcases List.mem_cons.1 hx with rfl|hx; (simp); exact absurd hx List.not_mem_nil) (by intro x hx; rcases List.mem_cons.1 hx with rfl|hx; (simp); exact absurd hx List.not_mem_nil) (by intro x hx; rcases List.mem_cons.1 hx with rfl|hx; (simp); rcases List.mem_cons.1 hx with rfl|hx; (simp); rcases List.mem_cons.1 hx with rfl|hx; (simp); exact absurd hx List.not_mem_nil)
  refine wp_region_any (by kernel_rfl) ?_
  change wpAny _ _ _ _ _ _ _ (World.drew _)
  have hS9:=hS.drew
  have hsW9:(World.drew Wq2).heap.size = Wq2.heap.size:=by first|rfl|simp
  generalize World.drew Wq2 = Wd at hS9 hsW9 ⊢
  obtain ⟨S9,hS9z⟩:∃ x,x = Wd.heap.size:=⟨_,rfl⟩
  have hC9:=Rc.start (bs:=[⟨w1.heap.size,#[.slice yA1 yN1 yC1],27⟩,⟨w.heap.size+1,#[.slice a2 n2 c2],27⟩]) hS9 (by simp)
  rw [← hS9z] at hC9
  have hP9_0:=hS9.bx ⟨w.heap.size+1+1+1,#[.slice x2_A6 x2_N6 x2_C6],27⟩ (by simp)
  have hP9_0:=block_lt hP9_0.1
  rw [← hS9z] at hP9_0
  simp only [] at hP9_0
  have hP9_1:=hS9.bx ⟨w.heap.size+1+1+1+1,#[.slice x2_P6 x2_Q6 x2_R6],27⟩ (by simp)
  have hP9_1:=block_lt hP9_1.1
  rw [← hS9z] at hP9_1
  simp only [] at hP9_1
  refine wpAny_inv (fun l act w'=>∃ σ,Mov3I w p a1 a2 a3 n1 n2 n3 c1 c2 c3 m2 yA1 yN1 yC1 yM1 yP1 yG1 yR1 w1 x2_A4 x2_N4 x2_C4 x2_A6 x2_N6 x2_C6 x2_M6 x2_P6 x2_Q6 x2_R6 x2_L6 x2_E6 S9 l act w' σ) ?_ ?_ _ _ _ _ ?_ ?_
  ·intro l act w' i9 hI9 hi9 hl9
   have hin9:i9 < 10:=by
    by_cases h:i9 < 10
    ·exact h
    ·obtain ⟨⟨⟩,rfl,_⟩:=hI9
     rw [Array.getElem?_eq_none (by simp; omega)] at hl9; cases hl9
   have hcase:i9 = 0∨i9 = 1∨i9 = 2∨i9 = 3∨i9 = 4∨i9 = 5∨i9 = 6∨i9 = 7∨i9 = 8∨i9 = 9:=by omega
   clear hin9
   obtain ⟨⟨b0,b1,b2,b3,b4,b5,b6,b7,b8,b9,v0,v1,v2,v3,v4,v5,v6,v7,A4,N4,C4,M4,E4,A6,N6,C6,M6,E6,bs9,os9⟩,rfl,rfl,hR⟩:=hI9
   rcases hcase with rfl|rfl|rfl|rfl|rfl|rfl|rfl|rfl|rfl|rfl
   ·obtain rfl:b0 = false:=by simpa using hl9
    have hc:=hR.hc
    refine wpOp_step rfl fun K hK=>?_
    go_simp
    exact hK _ _ ⟨⟨_,_,_,_,_,_,_,_,_,_,_,_,_,_,_,_,_,_,A4,N4,C4,M4,E4,A6,N6,C6,M6,E6,_,_⟩,rfl,rfl,{ hR with hc:=hc,f0:=(fun _=>rfl) }⟩
   ·obtain rfl:b1 = false:=by simpa using hl9
    have hc:=hR.hc
    refine wpOp_step rfl fun K hK=>?_
    go_simp
    exact hK _ _ ⟨⟨_,_,_,_,_,_,_,_,_,_,_,_,_,_,_,_,_,_,A4,N4,C4,M4,E4,A6,N6,C6,M6,E6,_,_⟩,rfl,rfl,{ hR with hc:=hc,f1:=(fun _=>rfl) }⟩
   ·obtain rfl:b2 = false:=by simpa using hl9
    have hc:=hR.hc
    have c9_0:=hc.st.cellAt (hc.old ⟨w1.heap.size,#[.slice yA1 yN1 yC1],27⟩ (by simp)).1 0 (.slice yA1 yN1 yC1) rfl
    simp only [] at c9_0
    refine wpOp_step rfl fun K hK=>?_
    go_simp
    exact hK _ _ ⟨⟨_,_,_,_,_,_,_,_,_,_,_,_,_,_,_,_,_,_,A4,N4,C4,M4,E4,A6,N6,C6,M6,E6,_,_⟩,rfl,rfl,{ hR with hc:=hc,f2:=(fun _=>rfl) }⟩
   ·obtain rfl:b3 = false:=by simpa using hl9
    have hc:=hR.hc
    have c9_0:=hc.st.cellAt (hc.old ⟨w.heap.size+1,#[.slice a2 n2 c2],27⟩ (by simp)).1 0 (.slice a2 n2 c2) rfl
    simp only [] at c9_0
    refine wpOp_step rfl fun K hK=>?_
    go_simp
    exact hK _ _ ⟨⟨_,_,_,_,_,_,_,_,_,_,_,_,_,_,_,_,_,_,A4,N4,C4,M4,E4,A6,N6,C6,M6,E6,_,_⟩,rfl,rfl,{ hR with hc:=hc,f3:=(fun _=>rfl) }⟩
   ·obtain rfl:b4 = false:=by simpa using hl9
    obtain ⟨o9,ho9,hd9⟩:=(mem_ready.1 hi9).2
    cases ho9
    have e1:b1 = true:=hd9 ⟨1,.data⟩ (by simp) rfl
    have e2:b2 = true:=hd9 ⟨2,.data⟩ (by simp) rfl
    have e3:b3 = true:=hd9 ⟨3,.data⟩ (by simp) rfl
    subst e1 e2 e3
    have h9:=hR.f1 rfl
    subst h9
    have h9:=hR.f2 rfl
    subst h9
    have h9:=hR.f3 rfl
    subst h9
    have hc:=hR.hc
    obtain rfl:b6 = false:=by cases h:b6; rfl; exact Bool.noConfusion (hR.g6_4 h)
    simp only [cond_false] at hc
    have HR:=hide hR
    clear hR
    refine wpOp_step rfl fun K hK=>?_
    go_simp
    go_wp2_with fail
    refine (W_mul hc.st yC1 c2 (hc.st.ow (yA1,yN1,yC1,yM1) (hc.oso _ (by simp))).num (hc.st.nm (a2,n2,m2) (by simp))).mono ?_
    rintro en w9 ⟨a9,n9,c9,m9,e9,rfl,hs9,hz,hz9⟩
    have hR:=unhide HR
    exact hK _ _ ⟨⟨_,_,_,_,_,_,_,_,_,_,_,_,_,_,_,_,_,_,_,_,_,_,_,A6,N6,C6,M6,E6,_,_⟩,rfl,rfl,{ hR with hc:=(hc.call hs9 hz9 (fun y hy=>List.mem_cons_of_mem _ hy)),f4:=(fun _=>⟨rfl,List.mem_cons_self ..,hz⟩),f6:=(fun h=>Bool.noConfusion (hR.g6_4 h)),o0_1:=(fun h=>Bool.noConfusion (hR.g8_4 h)),g6_4:=(fun _=>rfl),g8_4:=(fun _=>rfl) }⟩
   ·obtain rfl:b5 = false:=by simpa using hl9
    have hc:=hR.hc
    obtain rfl:b8 = false:=by cases h:b8; rfl; exact Bool.noConfusion (hR.g8_5 h)
    have c9_0:=hc.st.cellAt (hR.o0_0 rfl) 0 (.slice x2_A6 x2_N6 x2_C6) rfl
    simp only [] at c9_0
    refine wpOp_step rfl fun K hK=>?_
    go_simp
    exact hK _ _ ⟨⟨_,_,_,_,_,_,_,_,_,_,_,_,_,_,_,_,_,_,A4,N4,C4,M4,E4,A6,N6,C6,M6,E6,_,_⟩,rfl,rfl,{ hR with hc:=hc,f5:=(fun _=>rfl),g8_5:=(fun _=>rfl) }⟩
   ·obtain rfl:b6 = false:=by simpa using hl9
    obtain ⟨o9,ho9,hd9⟩:=(mem_ready.1 hi9).2
    cases ho9
    have e0:b0 = true:=hd9 ⟨0,.data⟩ (by simp) rfl
    have e4:b4 = true:=hd9 ⟨4,.data⟩ (by simp) rfl
    have e5:b5 = true:=hd9 ⟨5,.data⟩ (by simp) rfl
    subst e0 e4 e5
    have h9:=hR.f0 rfl
    subst h9
    have q4:=hR.f4 rfl
    obtain ⟨h9,q4m,q4z⟩:=q4
    subst h9
    have h9:=hR.f5 rfl
    subst h9
    have hc:=hR.hc
    simp only [cond_true,cond_false] at hc
    have HR:=hide hR
    clear hR
    refine wpOp_step rfl fun K hK=>?_
    go_simp
    go_wp2_with fail
    refine (W_add hc.st C4 x2_C6 (hc.st.ow _ q4m).num (hc.st.ow (x2_A6,x2_N6,x2_C6,x2_M6) (hc.oso _ (by simp))).num).mono ?_
    rintro en w9 ⟨a9,n9,c9,m9,e9,rfl,hs9,hz,hz9⟩
    have hR:=unhide HR
    exact hK _ _ ⟨⟨_,_,_,_,_,_,_,_,_,_,_,_,_,_,_,_,_,_,A4,N4,C4,M4,E4,_,_,_,_,_,_,_⟩,rfl,rfl,{ hR with hc:=(hc.call hs9 hz9 (fun y hy=>List.mem_cons_of_mem _ hy)),f4:=(fun h=>⟨(hR.f4 h).1,List.mem_cons_of_mem _ (hR.f4 h).2.1,(hR.f4 h).2.2⟩),f6:=(fun _=>⟨rfl,List.mem_cons_self ..,hz⟩),o0_1:=(fun h=>Bool.noConfusion (hR.g8_6 h)),g6_4:=(fun _=>rfl),g8_6:=(fun _=>rfl) }⟩
   ·obtain rfl:b7 = false:=by simpa using hl9
    have hc:=hR.hc
    obtain rfl:b9 = false:=by cases h:b9; rfl; exact Bool.noConfusion (hR.g9_7 h)
    have c9_0:=hc.st.cellAt (hR.o1_0 rfl) 0 (.slice x2_P6 x2_Q6 x2_R6) rfl
    simp only [] at c9_0
    refine wpOp_step rfl fun K hK=>?_
    go_simp
    exact hK _ _ ⟨⟨_,_,_,_,_,_,_,_,_,_,_,_,_,_,_,_,_,_,A4,N4,C4,M4,E4,A6,N6,C6,M6,E6,_,_⟩,rfl,rfl,{ hR with hc:=hc,f7:=(fun _=>rfl),o1_1:=(fun h=>Bool.noConfusion (hR.g9_7 h)),g9_7:=(fun _=>rfl) }⟩
   ·obtain rfl:b8 = false:=by simpa using hl9
    obtain ⟨o9,ho9,hd9⟩:=(mem_ready.1 hi9).2
    cases ho9
    have e6:b6 = true:=hd9 ⟨6,.data⟩ (by simp) rfl
    have e5:b5 = true:=hd9 ⟨5,.phase⟩ (by simp) rfl
    subst e6 e5
    have q6:=hR.f6 rfl
    obtain ⟨h9,q6m,q6z⟩:=q6
    subst h9
    have h9:=hR.f5 rfl
    subst h9
    have hc:=hR.hc
    have hm9:=hR.o0_0 rfl
    have fz9_0:=hc.st.frozen hm9 0
    have cz9_0:=hc.st.cellAt hm9 0 (.slice x2_A6 x2_N6 x2_C6) rfl
    simp only [] at fz9_0 cz9_0
    have hn9:∀ x,x∈([⟨w1.heap.size,#[.slice yA1 yN1 yC1],27⟩,⟨w.heap.size+1,#[.slice a2 n2 c2],27⟩]:List En)→x.b≠w.heap.size+1+1+1:=by intro x hx; rcases List.mem_cons.1 hx with rfl|hx; (simp only []; omega); rcases List.mem_cons.1 hx with rfl|hx; (simp only []; omega);  exact absurd hx List.not_mem_nil
    have hw9:w.heap.size≤w.heap.size+1+1+1:=by omega
    refine wpOp_step rfl fun K hK=>?_
    go_simp
    exact hK _ _ ⟨⟨_,_,_,_,_,_,_,_,_,_,_,_,_,_,_,_,_,_,A4,N4,C4,M4,E4,A6,N6,C6,M6,E6,_,_⟩,rfl,rfl,{ hR with hc:=(hc.store hm9 hw9 hn9 0 (.slice A6 N6 C6) (by simp)),o0_0:=(fun h=>Bool.noConfusion h),o0_1:=(fun _=>List.mem_cons_self ..),o1_0:=(fun h0=>(List.mem_cons_of_mem _ (List.mem_filter.2 ⟨(hR.o1_0 h0),by simp only [ne_eq,decide_not,Bool.not_eq_eq_eq_not,Bool.not_true,decide_eq_false_iff_not]; omega⟩))),o1_1:=(fun h0=>(List.mem_cons_of_mem _ (List.mem_filter.2 ⟨(hR.o1_1 h0),by simp only [ne_eq,decide_not,Bool.not_eq_eq_eq_not,Bool.not_true,decide_eq_false_iff_not]; omega⟩))),g8_5:=(fun _=>rfl),g8_6:=(fun _=>rfl),g8_4:=(fun _=>hR.g6_4 rfl),g9_8:=(fun _=>rfl) }⟩
   ·obtain rfl:b9 = false:=by simpa using hl9
    obtain ⟨o9,ho9,hd9⟩:=(mem_ready.1 hi9).2
    cases ho9
    have e7:b7 = true:=hd9 ⟨7,.data⟩ (by simp) rfl
    have e8:b8 = true:=hd9 ⟨8,.chain⟩ (by simp) rfl
    subst e7 e8
    have h9:=hR.f7 rfl
    subst h9
    have hc:=hR.hc
    have hm9:=hR.o1_0 rfl
    have fz9_0:=hc.st.frozen hm9 0
    have cz9_0:=hc.st.cellAt hm9 0 (.slice x2_P6 x2_Q6 x2_R6) rfl
    simp only [] at fz9_0 cz9_0
    have hn9:∀ x,x∈([⟨w1.heap.size,#[.slice yA1 yN1 yC1],27⟩,⟨w.heap.size+1,#[.slice a2 n2 c2],27⟩]:List En)→x.b≠w.heap.size+1+1+1+1:=by intro x hx; rcases List.mem_cons.1 hx with rfl|hx; (simp only []; omega); rcases List.mem_cons.1 hx with rfl|hx; (simp only []; omega);  exact absurd hx List.not_mem_nil
    have hw9:w.heap.size≤w.heap.size+1+1+1+1:=by omega
    refine wpOp_step rfl fun K hK=>?_
    go_simp
    exact hK _ _ ⟨⟨_,_,_,_,_,_,_,_,_,_,_,_,_,_,_,_,_,_,A4,N4,C4,M4,E4,A6,N6,C6,M6,E6,_,_⟩,rfl,rfl,{ hR with hc:=(hc.store hm9 hw9 hn9 0 (.slice x2_P6 x2_Q6 x2_R6) (by simp)),o0_0:=(fun h0=>(List.mem_cons_of_mem _ (List.mem_filter.2 ⟨(hR.o0_0 h0),by simp only [ne_eq,decide_not,Bool.not_eq_eq_eq_not,Bool.not_true,decide_eq_false_iff_not]; omega⟩))),o0_1:=(fun h0=>(List.mem_cons_of_mem _ (List.mem_filter.2 ⟨(hR.o0_1 h0),by simp only [ne_eq,decide_not,Bool.not_eq_eq_eq_not,Bool.not_true,decide_eq_false_iff_not]; omega⟩))),o1_0:=(fun h=>Bool.noConfusion h),o1_1:=(fun _=>List.mem_cons_self ..),g9_7:=(fun _=>rfl),g9_8:=(fun _=>rfl) }⟩
  ·rintro l act Wq3 ⟨⟨b0,b1,b2,b3,b4,b5,b6,b7,b8,b9,v0,v1,v2,v3,v4,v5,v6,v7,x3_A4,x3_N4,x3_C4,x3_M4,x3_E4,x3_A6,x3_N6,x3_C6,x3_M6,x3_E6,bs9,os9⟩,rfl,rfl,hR⟩ hr9
   obtain ⟨hc,f0,f1,f2,f3,f4,f5,f6,f7,o0_0,o0_1,o1_0,o1_1,g8_5,g6_4,g9_7,g8_6,g8_4,g9_8⟩:=hR
   have eall:=all_done hr9 (by kernel_rfl) rfl
   obtain rfl:b0 = true:=eall 0 (by decide)
   obtain rfl:b1 = true:=eall 1 (by decide)
   obtain rfl:b2 = true:=eall 2 (by decide)
   obtain rfl:b3 = true:=eall 3 (by decide)
   obtain rfl:b4 = true:=eall 4 (by decide)
   obtain rfl:b5 = true:=eall 5 (by decide)
   obtain rfl:b6 = true:=eall 6 (by decide)
   obtain rfl:b7 = true:=eall 7 (by decide)
   obtain rfl:b8 = true:=eall 8 (by decide)
   obtain rfl:b9 = true:=eall 9 (by decide)
   clear hr9 eall
   have h9:=f0 rfl
   subst h9
   have h9:=f1 rfl
   subst h9
   have h9:=f2 rfl
   subst h9
   have h9:=f3 rfl
   subst h9
   obtain ⟨h9,q4m,qx3_4⟩:=f4 rfl
   subst h9
   have h9:=f5 rfl
   subst h9
   obtain ⟨h9,q6m,qx3_6⟩:=f6 rfl
   subst h9
   have h9:=f7 rfl
   subst h9
   simp only [cond_true] at hc
   have hbs9:∀ x,x∈([⟨w.heap.size+1+1+1+1,#[.slice x2_P6 x2_Q6 x2_R6],27⟩,⟨w.heap.size+1+1+1,#[.slice x3_A6 x3_N6 x3_C6],27⟩,⟨w1.heap.size,#[.slice yA1 yN1 yC1],27⟩,⟨w.heap.size+1,#[.slice a2 n2 c2],27⟩]:List En)→x∈bs9:=by
    intro x hx
    rcases List.mem_cons.1 hx with rfl|hx
    ·exact (o1_1 rfl)
    rcases List.mem_cons.1 hx with rfl|hx
    ·exact (o0_1 rfl)
    rcases List.mem_cons.1 hx with rfl|hx
    ·exact (hc.old _ (by simp)).1
    rcases List.mem_cons.1 hx with rfl|hx
    ·exact (hc.old _ (by simp)).1
    exact absurd hx List.not_mem_nil
   have hos9:∀ x,x∈([(x3_A4,x3_N4,x3_C4,x3_M4),(x3_A6,x3_N6,x3_C6,x3_M6),(x2_A6,x2_N6,x2_C6,x2_M6),(x2_P6,x2_Q6,x2_R6,x2_L6),(yA1,yN1,yC1,yM1)]:Os)→x∈os9:=by
    intro x hx
    rcases List.mem_cons.1 hx with rfl|hx
    ·exact q4m
    rcases List.mem_cons.1 hx with rfl|hx
    ·exact q6m
    rcases List.mem_cons.1 hx with rfl|hx
    ·exact hc.oso _ (by simp)
    rcases List.mem_cons.1 hx with rfl|hx
    ·exact hc.oso _ (by simp)
    rcases List.mem_cons.1 hx with rfl|hx
    ·exact hc.oso _ (by simp)
    exact absurd hx List.not_mem_nil
   have hS:=hc.st.sub hbs9 (fun x hx=>hx) hos9
   have hsz9:=hc.sz
   rw [hS9z,hsW9] at hsz9
   clear hbs9 hos9 hc f0 f1 f2 f3 f4 f5 f6 f7 o0_0 o0_1 o1_0 o1_1 g8_5 g6_4 g9_7 g8_6 g8_4 g9_8
   clear q4m q6m
   have hz3:=hsz9
   clear hsz9 hS9z hS9 hC9 hsW9
   have Qx3_4:=hide qx3_4
   clear qx3_4
   have Qx3_6:=hide qx3_6
   clear qx3_6
   obtain ⟨⟨k0_0,-⟩,z0⟩:=hS.cz ⟨w.heap.size+1+1+1+1,#[.slice x2_P6 x2_Q6 x2_R6],27⟩ (by simp)
   have z0_0:=z0 0
   clear z0
   obtain ⟨⟨k1_0,-⟩,z1⟩:=hS.cz ⟨w.heap.size+1+1+1,#[.slice x3_A6 x3_N6 x3_C6],27⟩ (by simp)
   have z1_0:=z1 0
   clear z1
   simp only [] at k0_0 z0_0 k1_0 z1_0
   go_wp2
   have hend:=mo_end (unhide Q1) (unhide Qx2_4) (unhide Qx2_6) (unhide Qx3_4) (unhide Qx3_6)
   exact bodyPost_ret (v:=.tuple #[.agg #[.slice x3_A6 x3_N6 x3_C6],.agg #[.slice x2_P6 x2_Q6 x2_R6]]) (by simp [results,Tryz.results88,go_sem,k0_0,k1_0]) rfl ⟨_,_,_,_,_,_,_,_,_,rfl,hS.ow (x3_A6,x3_N6,x3_C6,x3_M6) (by simp),hS.ow (x2_P6,x2_Q6,x2_R6,x2_L6) (by simp),hend,hS.wk,hS.fr⟩
  ·simp
  ·exact ⟨⟨false,false,false,false,false,false,false,false,false,false,undef,undef,undef,undef,undef,undef,undef,undef,none,0,0,0,0,none,0,0,0,0,_,_⟩,rfl,rfl,⟨hC9,nb,nb,nb,nb,nb,nb,nb,nb,(fun _=>by simp),nb,(fun _=>by simp),nb,nb,nb,nb,nb,nb,nb⟩⟩
 ·simp
 ·exact ⟨⟨false,false,false,false,false,false,false,false,false,false,false,false,undef,undef,undef,undef,undef,undef,undef,undef,undef,undef,none,0,0,0,0,none,0,0,0,none,0,0,0,0,_,_⟩,rfl,rfl,⟨hC9,nb,nb,nb,nb,nb,nb,nb,nb,nb,nb,(fun _=>by simp),nb,(fun _=>by simp),nb,nb,nb,nb,nb,nb,nb,nb,nb,nb,nb,nb,nb,nb,nb⟩⟩
theorem W_mulOver {w0 W:World} {p:Nat} {e:Int} {bs:List En} {ms:Ms} {os:Os} (hS:Rs w0 W (some (p,e)) bs ms os) {a1 a2 a3:Option Addr} {n1 n2 n3 m1 m2 m3:Nat} (c1 c2 c3:Nat) (h1:Num W a1 n1 m1) (h2:Num W a2 n2 m2) (h3:Num W a3 n3 m3) :
  Calls Tryz.prog 88 #[.pointer (some ⟨p,0,none⟩),.agg #[.slice a1 n1 c1],.agg #[.slice a2 n2 c2],.agg #[.slice a3 n3 c3]] W (Two w0 W p e bs ms os (fun e' Q R=>Mo e e' Q R m1 m2 m3)):=by
 refine (mulOver_any p e a1 a2 a3 n1 n2 n3 c1 c2 c3 m1 m2 m3 W hS.wk h1 h2 h3).mono ?_
 rintro en W' ⟨a,n,c,a',n',c',Q,R,r,rfl,hq,hr,hst,hk,hb⟩
 exact ⟨a,n,c,Q,a',n',c',R,r,rfl,((hS.call hb hk).own hq hS.size).own hr hS.size,hst,hb.size⟩
structure Sp (e e':Int) (same:Bool) (n1 d1 n2 d2 W1 W2 A B D:Nat) (br:Bool):Prop where
 ok:e' = 0→e = 0∧W1 = n1 / d1∧W2 = n2 / d2∧A = Rm.partA same n1 d1 n2 d2∧B = Rm.partB same n1 d1 n2 d2∧D = Rm.sden same n1 d1 n2 d2∧br = !decide (Rm.broken same n1 d1 n2 d2 = 0)
 many:e = 0→e'≠0→e' = 4∧Over (Rm.sden same n1 d1 n2 d2)
 stay:e≠0→e' = e
def SpAns (p:Nat) (e0:Int) (w:World) (same:Bool) (n1 d1 n2 d2:Nat) (en:Ending) (w':World):Prop:=
 ∃ a1 k1 c1 a2 k2 c2 a3 k3 c3 a4 k4 c4 a5 k5 c5 W1 W2 A B D br e,en = .returned (.agg #[.slice a1 k1 c1,.slice a2 k2 c2,.slice a3 k3 c3,.slice a4 k4 c4,.slice a5 k5 c5,.bool br]) ∧
  Mine w' w.heap.size a1 k1 c1 W1∧Mine w' w.heap.size a2 k2 c2 W2∧Mine w' w.heap.size a3 k3 c3 A∧Mine w' w.heap.size a4 k4 c4 B∧Mine w' w.heap.size a5 k5 c5 D∧Sp e0 e same n1 d1 n2 d2 W1 W2 A B D br∧Wk w' p e∧But p w w'
theorem Mo.next {e e':Int} {Q R x y z:Nat} {B:Prop} (q:Mo e e' Q R x y z) (h:Sf e B) (hz:e = 0→0 < z) (hO:e = 0→Over (x % z * y)∨Over (x * y / z)→B):Sf e' B:=by
 rcases h with h|⟨h,hB⟩
 ·by_cases h':e' = 0
  ·exact Or.inl h'
  ·obtain ⟨h4,o⟩:=q.many h (hz h) h'
   exact Or.inr ⟨h4,hO h o⟩
 ·have:=q.stay (by omega)
  exact Or.inr ⟨by omega,hB⟩
theorem spl_bounds (same:Bool) {n1 d1 n2 d2:Nat} (h1:0 < d1) (h2:0 < d2) (c1:Nat.gcd n1 d1 = 1) (c2:Nat.gcd n2 d2 = 1) :
  0 < Nat.gcd d1 d2∧0 < Rm.lost same n1 d1 n2 d2 ∧
  n1 % d1 % Nat.gcd d1 d2 * (d2 / Nat.gcd d1 d2)≤d2∧n1 % d1 * (d2 / Nat.gcd d1 d2) / Nat.gcd d1 d2≤Rm.sden same n1 d1 n2 d2 ∧
  n2 % d2 % Nat.gcd d1 d2 * (d1 / Nat.gcd d1 d2)≤d1∧n2 % d2 * (d1 / Nat.gcd d1 d2) / Nat.gcd d1 d2≤Rm.sden same n1 d1 n2 d2 ∧
  n1 % d1 % Rm.lost same n1 d1 n2 d2 * (d2 / Nat.gcd d1 d2)≤d2∧Rm.partA same n1 d1 n2 d2≤Rm.sden same n1 d1 n2 d2 ∧
  n2 % d2 % Rm.lost same n1 d1 n2 d2 * (d1 / Nat.gcd d1 d2)≤d1∧Rm.partB same n1 d1 n2 d2≤Rm.sden same n1 d1 n2 d2:=by
 obtain ⟨g,t1,t2,l,k,hg,hl,e1,e2,hle,hk,hsd,ht1,ht2,p1,p2,pk,_⟩:=Rm.sum_core same h1 h2 c1 c2
 obtain ⟨_,_,_,_,_,_,_,_,_,_,P⟩:=Rm.parts same h1 h2 c1 c2
 have hA:=P.hA
 have hB:=P.hB
 have hgg:Nat.gcd d1 d2 = g:=by
  have:=Nat.mul_div_cancel' (Nat.gcd_dvd_right d1 d2)
  rw [ht1] at this
  exact Nat.eq_of_mul_eq_mul_right p1 (by omega)
 have r1:n1 % d1 < d1:=Nat.mod_lt _ h1
 have r2:n2 % d2 < d2:=Nat.mod_lt _ h2
 rw [ht1,ht2,hgg,hle]
 have key:t1 * t2≤t2 * (t1 * k):=by
  rw [Nat.mul_comm t1 t2,← Nat.mul_assoc]
  exact Nat.le_mul_of_pos_right _ pk
 have lg:l≤g:=by rw [hk]; exact Nat.le_mul_of_pos_right _ pk
 refine ⟨hg,hl,?_,?_,?_,?_,?_,Nat.le_of_lt hA,?_,Nat.le_of_lt hB⟩
 ·rw [e2]; exact Nat.mul_le_mul_right _ (Nat.le_of_lt (Nat.mod_lt _ hg))
 ·rw [hsd]
  refine Nat.le_trans ?_ key
  refine Nat.le_of_lt (Nat.div_lt_of_lt_mul ?_)
  have:n1 % d1 * t1 < d1 * t1:=Nat.mul_lt_mul_of_pos_right r1 p1
  have e:d1 * t1 = g * (t1 * t2):=by rw [e1,Nat.mul_assoc,Nat.mul_comm t2]
  omega
 ·rw [e1]; exact Nat.mul_le_mul_right _ (Nat.le_of_lt (Nat.mod_lt _ hg))
 ·rw [hsd]
  refine Nat.le_trans ?_ key
  refine Nat.le_of_lt (Nat.div_lt_of_lt_mul ?_)
  have:n2 % d2 * t2 < d2 * t2:=Nat.mul_lt_mul_of_pos_right r2 p2
  have e:d2 * t2 = g * (t1 * t2):=by rw [e2,Nat.mul_assoc]
  omega
 ·rw [e2]; exact Nat.mul_le_mul_right _ (Nat.le_trans (Nat.le_of_lt (Nat.mod_lt _ hl)) lg)
 ·rw [e1]; exact Nat.mul_le_mul_right _ (Nat.le_trans (Nat.le_of_lt (Nat.mod_lt _ hl)) lg)
theorem spl_end {same:Bool} {n1 d1 n2 d2:Nat} (h1:0 < d1) (h2:0 < d2) (c1:Nat.gcd n1 d1 = 1) (c2:Nat.gcd n2 d2 = 1) (l1:¬ Over d1) (l2:¬ Over d2)
  {e e1 e2 e3 e4 e5 e6 e7 e8 e9 e10 e11 e12 e13 e14:Int} {W1 r1 W2 r2 G t1 t2 X1 lf X2 rg rt ds lo o D A ra B rb nb:Nat}
  (q1:Wd e e1 W1 r1 n1 d1) (q2:Wd e1 e2 W2 r2 n2 d2) (q3:Wz e2 e3 G (Nat.gcd d1 d2) False) (q4:∃ R,Wd e3 e4 t1 R d2 G) (q5:∃ R,Wd e4 e5 t2 R d1 G)
  (q6:Mo e5 e6 X1 lf r1 t1 G) (q7:Mo e6 e7 X2 rg r2 t2 G) (q8:Wz e7 e8 rt (if same then G - rg else rg) False) (q9:Wz e8 e9 ds (Rm.dist lf rt) False) (q10:Wz e9 e10 lo (Nat.gcd ds G) False)
  (q11:∃ R,Wd e10 e11 o R d2 lo) (q12:Wz e11 e12 D (t2 * o) (Over (t2 * o))) (q13:Mo e12 e13 A ra r1 t1 lo) (q14:Mo e13 e14 B rb r2 t2 lo) (hnb:nb = 0↔ra = 0) :
  Sp e e14 same n1 d1 n2 d2 W1 W2 A B D (!decide (nb = 0)):=by
 obtain ⟨R4,q4⟩:=q4
 obtain ⟨R5,q5⟩:=q5
 obtain ⟨R11,q11⟩:=q11
 obtain ⟨pg,pl,b1,b2,b3,b4,b5,b6,b7,b8⟩:=spl_bounds same h1 h2 c1 c2
 have f1:e1 = 0→W1 = n1 / d1∧r1 = n1 % d1:=fun h=>⟨(q1.ok h).2.1,(q1.ok h).2.2.1⟩
 have f2:e2 = 0→W2 = n2 / d2∧r2 = n2 % d2:=fun h=>⟨(q2.ok h).2.1,(q2.ok h).2.2.1⟩
 have f3:e3 = 0→G = Nat.gcd d1 d2:=fun h=>(q3.ok h).2
 have i3:e3 = 0→e2 = 0:=fun h=>(q3.ok h).1
 have i2:e2 = 0→e1 = 0:=fun h=>(q2.ok h).1
 have f4:e4 = 0→t1 = d2 / Nat.gcd d1 d2:=fun h=>by rw [(q4.ok h).2.1,f3 (q4.ok h).1]
 have i4:e4 = 0→e3 = 0:=fun h=>(q4.ok h).1
 have i5:e5 = 0→e4 = 0:=fun h=>(q5.ok h).1
 have f5:e5 = 0→t2 = d1 / Nat.gcd d1 d2:=fun h=>by rw [(q5.ok h).2.1,f3 (i4 (i5 h))]
 have i6:e6 = 0→e5 = 0:=fun h=>(q6.ok h).1
 have f6:e6 = 0→lf = n1 % d1 * (d2 / Nat.gcd d1 d2) % Nat.gcd d1 d2:=fun h=>by
  have h5:=i6 h; have h4:=i5 h5; have h3:=i4 h4; have h2:=i3 h3; have h1:=i2 h2
  rw [(q6.ok h).2.2.1,(f1 h1).2,f4 h4,f3 h3]
 have i7:e7 = 0→e6 = 0:=fun h=>(q7.ok h).1
 have f7:e7 = 0→rg = n2 % d2 * (d1 / Nat.gcd d1 d2) % Nat.gcd d1 d2:=fun h=>by
  have h5:=i6 (i7 h); have h4:=i5 h5; have h3:=i4 h4; have h2:=i3 h3
  rw [(q7.ok h).2.2.1,(f2 h2).2,f5 h5,f3 h3]
 have i8:e8 = 0→e7 = 0:=fun h=>(q8.ok h).1
 have i9:e9 = 0→e8 = 0:=fun h=>(q9.ok h).1
 have i10:e10 = 0→e9 = 0:=fun h=>(q10.ok h).1
 have f10:e10 = 0→lo = Rm.lost same n1 d1 n2 d2:=fun h=>by
  have h9:=i10 h; have h8:=i9 h9; have h7:=i8 h8; have h6:=i7 h7; have h5:=i6 h6; have h4:=i5 h5; have h3:=i4 h4
  rw [(q10.ok h).2,(q9.ok h9).2,(q8.ok h8).2,f7 h7,f6 h6,f3 h3]; rfl
 have i11:e11 = 0→e10 = 0:=fun h=>(q11.ok h).1
 have f11:e11 = 0→t2 * o = Rm.sden same n1 d1 n2 d2:=fun h=>by
  have h10:=i11 h; have h5:=i6 (i7 (i8 (i9 (i10 h10))))
  rw [(q11.ok h).2.1,f10 h10,f5 h5]; rfl
 have i12:e12 = 0→e11 = 0:=fun h=>(q12.ok h).1
 have f12:e12 = 0→D = Rm.sden same n1 d1 n2 d2:=fun h=>by rw [(q12.ok h).2,f11 (i12 h)]
 have i13:e13 = 0→e12 = 0:=fun h=>(q13.ok h).1
 have i14:e14 = 0→e13 = 0:=fun h=>(q14.ok h).1
 have back:e12 = 0→e1 = 0∧e2 = 0∧e4 = 0∧e5 = 0∧e10 = 0:=fun h=>by
  have h10:=i11 (i12 h); have h5:=i6 (i7 (i8 (i9 (i10 h10)))); have h4:=i5 h5; have h2:=i3 (i4 h4)
  exact ⟨i2 h2,h2,h4,h5,h10⟩
 have f13:e13 = 0→A = Rm.partA same n1 d1 n2 d2∧ra = Rm.broken same n1 d1 n2 d2:=fun h=>by
  obtain ⟨k1,k2,k4,k5,k10⟩:=back (i13 h)
  constructor
  ·rw [(q13.ok h).2.1,(f1 k1).2,f4 k4,f10 k10]; rfl
  ·rw [(q13.ok h).2.2.1,(f1 k1).2,f4 k4,f10 k10]; rfl
 refine ⟨fun h=>?_,fun h0 h=>?_,fun h=>?_⟩
 ·have h13:=i14 h
  obtain ⟨k1,k2,k4,k5,k10⟩:=back (i13 h13)
  refine ⟨(q1.ok k1).1,(f1 k1).1,(f2 k2).1,(f13 h13).1,?_,f12 (i13 h13),?_⟩
  ·rw [(q14.ok h).2.1,(f2 k2).2,f5 k5,f10 k10]; rfl
  ·rw [(f13 h13).2] at hnb
   rw [decide_eq_decide.2 hnb]
 ·have s1:Sf e1 (Over (Rm.sden same n1 d1 n2 d2)):=q1.next (Or.inl h0) (fun _=>h1)
  have s2:=q2.next s1 (fun _=>h2)
  have s3:=q3.next s2 (fun _ h=>h.elim)
  have s4:=q4.next s3 (fun h=>by rw [f3 h]; exact pg)
  have s5:=q5.next s4 (fun h=>by rw [f3 (i4 h)]; exact pg)
  have s6:=q6.next s5 (fun h=>by rw [f3 (i4 (i5 h))]; exact pg) (fun h o=>by
   have h4:=i5 h; have h3:=i4 h4; have h1:=i2 (i3 h3)
   rw [(f1 h1).2,f4 h4,f3 h3] at o
   rcases o with o|o
   ·exact absurd (o.mono b1) l2
   ·exact o.mono b2)
  have s7:=q7.next s6 (fun h=>by rw [f3 (i4 (i5 (i6 h)))]; exact pg) (fun h o=>by
   have h5:=i6 h; have h3:=i4 (i5 h5); have h2:=i3 h3
   rw [(f2 h2).2,f5 h5,f3 h3] at o
   rcases o with o|o
   ·exact absurd (o.mono b3) l1
   ·exact o.mono b4)
  have s8:=q8.next s7 (fun _ h=>h.elim)
  have s9:=q9.next s8 (fun _ h=>h.elim)
  have s10:=q10.next s9 (fun _ h=>h.elim)
  have s11:=q11.next s10 (fun h=>by rw [f10 h]; exact pl)
  have s12:=q12.next s11 (fun h o=>by rw [f11 h] at o; exact o)
  have s13:=q13.next s12 (fun h=>by rw [f10 (back h).2.2.2.2]; exact pl) (fun h o=>by
   obtain ⟨k1,k2,k4,k5,k10⟩:=back h
   rw [(f1 k1).2,f4 k4,f10 k10] at o
   rcases o with o|o
   ·exact absurd (o.mono b5) l2
   ·exact o.mono b6)
  have s14:=q14.next s13 (fun h=>by rw [f10 (back (i13 h)).2.2.2.2]; exact pl) (fun h o=>by
   obtain ⟨k1,k2,k4,k5,k10⟩:=back (i13 h)
   rw [(f2 k2).2,f5 k5,f10 k10] at o
   rcases o with o|o
   ·exact absurd (o.mono b7) l1
   ·exact o.mono b8)
  rcases s14 with s14|s14
  ·exact absurd s14 h
  ·exact s14
 ·have g1:=q1.stay h
  have g2:=q2.stay (by omega)
  have g3:=q3.stay (by omega)
  have g4:=q4.stay (by omega)
  have g5:=q5.stay (by omega)
  have g6:=q6.stay (by omega)
  have g7:=q7.stay (by omega)
  have g8:=q8.stay (by omega)
  have g9:=q9.stay (by omega)
  have g10:=q10.stay (by omega)
  have g11:=q11.stay (by omega)
  have g12:=q12.stay (by omega)
  have g13:=q13.stay (by omega)
  have g14:=q14.stay (by omega)
  omega
theorem Wz.self (e:Int) (M:Nat):Wz e e M M False:=⟨fun h=>⟨h,rfl⟩,fun h h'=>absurd h h',fun _=>rfl⟩
theorem ap_key {e1:Int} {n1 d1 n2 d2 V1 V2 V3 V4 V5:Nat} {br low:Bool} (hd1:0 < d1) (hd2:0 < d2) (hc1:Nat.gcd n1 d1 = 1) (hc2:Nat.gcd n2 d2 = 1)
  (q1:Sp 0 e1 false n1 d1 n2 d2 V1 V2 V3 V4 V5 br) (hlow:decide (V1 < V2∨V1 = V2∧V3 < V4) = low) {Wg Wl Ag Al:Nat} (h1:Wg = cond low V2 V1) (h2:Wl = cond low V1 V2) (h3:Ag = cond low V4 V3) (h4:Al = cond low V3 V4) (h0:e1 = 0) :
  V5 = Rm.sden false n1 d1 n2 d2∧0 < V5∧Al < V5∧Ag < V5∧(Wl < Wg∨Wl = Wg∧Al≤Ag)∧Rm.dnum n1 d1 n2 d2 = Wg * V5+Ag - (Wl * V5+Al)∧(low = true↔Rm.low n1 d1 n2 d2):=by
 obtain ⟨_,k1,k2,k3,k4,k5,_⟩:=q1.ok h0
 obtain ⟨_,_,_,_,_,_,_,_,_,_,P⟩:=Rm.parts false hd1 hd2 hc1 hc2
 have hD0:=P.D0
 have hA:=P.hA
 have hB:=P.hB
 have hdn:Rm.dnum n1 d1 n2 d2 = if Rm.low n1 d1 n2 d2 then n2 / d2 * Rm.sden false n1 d1 n2 d2+Rm.partB false n1 d1 n2 d2 - (n1 / d1 * Rm.sden false n1 d1 n2 d2+Rm.partA false n1 d1 n2 d2) else n1 / d1 * Rm.sden false n1 d1 n2 d2+Rm.partA false n1 d1 n2 d2 - (n2 / d2 * Rm.sden false n1 d1 n2 d2+Rm.partB false n1 d1 n2 d2):=rfl
 have hlw:Rm.low n1 d1 n2 d2↔(V1 < V2∨V1 = V2∧V3 < V4):=by rw [k1,k2,k3,k4]; rfl
 rw [← k1,← k2,← k3,← k4,← k5] at hdn
 rw [← k3] at hA
 rw [← k4] at hB
 rw [← k5] at hA hB hD0
 cases low
 ·simp only [cond_false] at h1 h2 h3 h4
  rw [h1,h2,h3,h4]
  have hn:¬ (V1 < V2∨V1 = V2∧V3 < V4):=of_decide_eq_false hlow
  refine ⟨k5,hD0,hB,hA,by omega,?_,?_⟩
  ·rw [hdn,if_neg (fun h=>hn (hlw.1 h))]
  ·simp only [Bool.false_eq_true,false_iff]; exact fun h=>hn (hlw.1 h)
 ·simp only [cond_true] at h1 h2 h3 h4
  rw [h1,h2,h3,h4]
  have hy:(V1 < V2∨V1 = V2∧V3 < V4):=of_decide_eq_true hlow
  refine ⟨k5,hD0,hA,hB,by omega,?_,?_⟩
  ·rw [hdn,if_pos (hlw.2 hy)]
  ·simp only [true_iff]; exact hlw.2 hy
theorem ap_ge {e1 e2 e3 e4 e5:Int} {n1 d1 n2 d2 V1 V2 V3 V4 V5 Wh X Y N:Nat} {br low:Bool} (hd1:0 < d1) (hd2:0 < d2) (hc1:Nat.gcd n1 d1 = 1) (hc2:Nat.gcd n2 d2 = 1)
  (q1:Sp 0 e1 false n1 d1 n2 d2 V1 V2 V3 V4 V5 br) (hlow:decide (V1 < V2∨V1 = V2∧V3 < V4) = low) {Wg Wl Ag Al:Nat} (h1:Wg = cond low V2 V1) (h2:Wl = cond low V1 V2) (h3:Ag = cond low V4 V3) (h4:Al = cond low V3 V4)
  (hlt:¬ Ag < Al) (q2:Wz e1 e2 Wh (Wg - Wl) False) (q3:Wz e2 e3 X (Wh * V5) (Over (Wh * V5))) (q4:Wz e3 e4 Y (Ag - Al) False) (q5:Wz e4 e5 N (X+Y) (Over (X+Y))) :
  (e5 = 0→N = Rm.dnum n1 d1 n2 d2∧V5 = Rm.sden false n1 d1 n2 d2)∧(e5≠0→e5 = 4∧(Over (Rm.dnum n1 d1 n2 d2)∨Over (Rm.sden false n1 d1 n2 d2)))∧(e5 = 0→(low = true↔Rm.low n1 d1 n2 d2)):=by
 have key:=ap_key hd1 hd2 hc1 hc2 q1 hlow h1 h2 h3 h4
 have i2:e2 = 0→e1 = 0:=fun h=>(q2.ok h).1
 have i3:e3 = 0→e2 = 0:=fun h=>(q3.ok h).1
 have i4:e4 = 0→e3 = 0:=fun h=>(q4.ok h).1
 have g3:e3 = 0→X = (Wg - Wl) * V5:=fun h=>by rw [(q3.ok h).2,(q2.ok (i3 h)).2]
 have g4:e4 = 0→Y = Ag - Al:=fun h=>(q4.ok h).2
 have val:e1 = 0→(Wg - Wl) * V5+(Ag - Al) = Rm.dnum n1 d1 n2 d2:=fun h=>by
  obtain ⟨_,_,_,_,k5,k6,_⟩:=key h
  rw [k6,Nat.sub_mul]
  have:=Nat.mul_le_mul_right V5 (show Wl≤Wg by omega)
  omega
 refine ⟨fun h=>?_,fun h=>?_,fun h=>?_⟩
 ·have h4':=(q5.ok h).1
  have h1':=i2 (i3 (i4 h4'))
  exact ⟨by rw [(q5.ok h).2,g3 (i4 h4'),g4 h4',val h1'],(key h1').1⟩
 ·have s1:Sf e1 (Over (Rm.dnum n1 d1 n2 d2)∨Over (Rm.sden false n1 d1 n2 d2)):=by
   by_cases h1':e1 = 0
   ·exact Or.inl h1'
   ·obtain ⟨a,b⟩:=q1.many rfl h1'; exact Or.inr ⟨a,Or.inr b⟩
  have s2:=q2.next s1 (fun _ h=>h.elim)
  have s3:=q3.next s2 (fun h o=>Or.inl (o.mono (by rw [(q2.ok h).2]; have:=val (i2 h); omega)))
  have s4:=q4.next s3 (fun _ h=>h.elim)
  have s5:=q5.next s4 (fun h o=>Or.inl (o.mono (by rw [g3 (i4 h),g4 h]; have:=val (i2 (i3 (i4 h))); omega)))
  rcases s5 with s5|s5
  ·exact absurd s5 h
  ·exact s5
 ·exact (key (i2 (i3 (i4 (q5.ok h).1)))).2.2.2.2.2.2
theorem ap_lt {e1 e2 e3 e4 e5 e6 e7 e8:Int} {n1 d1 n2 d2 V1 V2 V3 V4 V5 Wh Wi S P X Y N:Nat} {br low:Bool} (hd1:0 < d1) (hd2:0 < d2) (hc1:Nat.gcd n1 d1 = 1) (hc2:Nat.gcd n2 d2 = 1)
  (q1:Sp 0 e1 false n1 d1 n2 d2 V1 V2 V3 V4 V5 br) (hlow:decide (V1 < V2∨V1 = V2∧V3 < V4) = low) {Wg Wl Ag Al:Nat} (h1:Wg = cond low V2 V1) (h2:Wl = cond low V1 V2) (h3:Ag = cond low V4 V3) (h4:Al = cond low V3 V4)
  (hlt:Ag < Al) (q2:Wz e1 e2 Wh (Wg - Wl) False) (q3:Wz e2 e3 Wi (Wh - 1) False) (q4:Wz e3 e4 S (V5 - Al) False) (q5:Wz e4 e5 P (S+Ag) (Over (S+Ag)))
  (q6:Wz e5 e6 X (Wi * V5) (Over (Wi * V5))) (q7:Wz e6 e7 Y (P - 0) False) (q8:Wz e7 e8 N (X+Y) (Over (X+Y))) :
  (e8 = 0→N = Rm.dnum n1 d1 n2 d2∧V5 = Rm.sden false n1 d1 n2 d2)∧(e8≠0→e8 = 4∧(Over (Rm.dnum n1 d1 n2 d2)∨Over (Rm.sden false n1 d1 n2 d2)))∧(e8 = 0→(low = true↔Rm.low n1 d1 n2 d2)):=by
 have key:=ap_key hd1 hd2 hc1 hc2 q1 hlow h1 h2 h3 h4
 have i2:e2 = 0→e1 = 0:=fun h=>(q2.ok h).1
 have i3:e3 = 0→e2 = 0:=fun h=>(q3.ok h).1
 have i4:e4 = 0→e3 = 0:=fun h=>(q4.ok h).1
 have i5:e5 = 0→e4 = 0:=fun h=>(q5.ok h).1
 have i6:e6 = 0→e5 = 0:=fun h=>(q6.ok h).1
 have i7:e7 = 0→e6 = 0:=fun h=>(q7.ok h).1
 have g3:e3 = 0→Wi = Wg - Wl - 1:=fun h=>by rw [(q3.ok h).2,(q2.ok (i3 h)).2]
 have g5:e5 = 0→P = V5 - Al+Ag:=fun h=>by rw [(q5.ok h).2,(q4.ok (i5 h)).2]
 have g6:e6 = 0→X = (Wg - Wl - 1) * V5:=fun h=>by rw [(q6.ok h).2,g3 (i4 (i5 (i6 h)))]
 have g7:e7 = 0→Y = V5 - Al+Ag:=fun h=>by rw [(q7.ok h).2,g5 (i6 (i7 h)),Nat.sub_zero]
 have val:e1 = 0→(Wg - Wl - 1) * V5+(V5 - Al+Ag) = Rm.dnum n1 d1 n2 d2:=fun h=>by
  obtain ⟨_,_,k3,_,k5,k6,_⟩:=key h
  have hw:Wl+1≤Wg:=by omega
  have e:Wg = Wl+1+(Wg - Wl - 1):=by omega
  rw [k6]
  generalize Wg - Wl - 1 = z at e
  subst e
  rw [Nat.add_mul,Nat.add_mul]
  omega
 refine ⟨fun h=>?_,fun h=>?_,fun h=>?_⟩
 ·have h7':=(q8.ok h).1
  have h6':=i7 h7'
  have h1':=i2 (i3 (i4 (i5 (i6 h6'))))
  exact ⟨by rw [(q8.ok h).2,g6 h6',g7 h7',val h1'],(key h1').1⟩
 ·have s1:Sf e1 (Over (Rm.dnum n1 d1 n2 d2)∨Over (Rm.sden false n1 d1 n2 d2)):=by
   by_cases h1':e1 = 0
   ·exact Or.inl h1'
   ·obtain ⟨a,b⟩:=q1.many rfl h1'; exact Or.inr ⟨a,Or.inr b⟩
  have s2:=q2.next s1 (fun _ h=>h.elim)
  have s3:=q3.next s2 (fun _ h=>h.elim)
  have s4:=q4.next s3 (fun _ h=>h.elim)
  have s5:=q5.next s4 (fun h o=>Or.inr (by
   obtain ⟨k1,_,k3,_,_,_,_⟩:=key (i2 (i3 (i4 h)))
   rw [← k1]
   exact o.mono (by rw [(q4.ok h).2]; omega)))
  have s6:=q6.next s5 (fun h o=>Or.inl (o.mono (by rw [g3 (i4 (i5 h))]; have:=val (i2 (i3 (i4 (i5 h)))); omega)))
  have s7:=q7.next s6 (fun _ h=>h.elim)
  have s8:=q8.next s7 (fun h o=>Or.inl (o.mono (by rw [g6 (i7 h),g7 h]; have:=val (i2 (i3 (i4 (i5 (i6 (i7 h)))))); omega)))
  rcases s8 with s8|s8
  ·exact absurd s8 h
  ·exact s8
 ·exact (key (i2 (i3 (i4 (i5 (i6 (i7 (q8.ok h).1))))))).2.2.2.2.2.2
def RIs (w:World) (base:Nat) (s:Bool) (a:Option Addr) (n c:Nat) (a':Option Addr) (n' c':Nat) (r:Int) (z:Rat):Prop:=
 (r = 0∧s = decide (z.num < 0)∧Mine w base a n c z.num.natAbs∧Mine w base a' n' c' z.den) ∨
 (r = 4∧(s = false∧a = none∧n = 0∧c = 0∧a' = none∧n' = 0∧c' = 0)∧(Over z.num.natAbs∨Over z.den))
def ROk (w:World) (base:Nat) (en:Ending) (z:Rat):Prop:=
 ∃ s a n c a' n' c' r,en = .returned (.tuple #[.agg #[.bool s,.slice a n c,.slice a' n' c'],.int .i64 r])∧RIs w base s a n c a' n' c' r z
theorem RAns.ok {w:World} {base:Nat} {en:Ending} {s:Bool} {num den:Nat} {z:Rat} (h:RAns w base en s num den) (q:Rm.Q z (s && !decide (num = 0)) num den):ROk w base en z:=by
 rcases h with ⟨a,n,c,a',n',c',rfl,h1,h2⟩|⟨rfl,h⟩
 ·exact ⟨_,a,n,c,a',n',c',0,rfl,Or.inl ⟨rfl,q.neg.symm,by rw [q.abs]; exact h1,by rw [q.den]; exact h2⟩⟩
 ·exact ⟨false,none,0,0,none,0,0,4,rfl,Or.inr ⟨rfl,⟨rfl,rfl,rfl,rfl,rfl,rfl,rfl⟩,by rw [q.abs,q.den]; exact h⟩⟩
theorem RIs.kept {w w':World} {base base':Nat} {s:Bool} {a a':Option Addr} {n c n' c':Nat} {r:Int} {z:Rat} (h:RIs w base s a n c a' n' c' r z) (hb:Below w.heap.size w w') (hB:base'≤base):RIs w' base' s a n c a' n' c' r z:=by
 rcases h with ⟨h0,h1,h2,h3⟩|h
 ·exact Or.inl ⟨h0,h1,(h2.kept hb).mono hB,(h3.kept hb).mono hB⟩
 ·exact Or.inr h
theorem RIs.mono {w:World} {base base':Nat} {s:Bool} {a a':Option Addr} {n c n' c':Nat} {r:Int} {z:Rat} (h:RIs w base s a n c a' n' c' r z) (hB:base'≤base):RIs w base' s a n c a' n' c' r z:=h.kept (gr_refl _) hB
theorem RIs.put {w:World} {base:Nat} {s:Bool} {a a':Option Addr} {n c n' c':Nat} {r:Int} {z:Rat} (h:RIs w base s a n c a' n' c' r z) {b:Nat} {cs:Array Value} {t:TypeId} (hb:w.heap[b]? = some (.cells cs t (0,0))) (ht:t≠40) (j:Nat) (u:Value):RIs (w.setCell ⟨b,j,none⟩ u) base s a n c a' n' c' r z:=by
 rcases h with ⟨h0,h1,h2,h3⟩|h
 ·exact Or.inl ⟨h0,h1,h2.put hb ht j u,h3.put hb ht j u⟩
 ·exact Or.inr h
theorem Rs.leave {w0 W W':World} {p:Nat} {e:Int} {bs:List En} {ms:Ms} {os:Os} (h:Rs w0 W (some (p,e)) bs ms os) (hb:But p W W') (hp:w0.heap.size≤p):Rs w0 W' none bs ms os:=by
 have hk:Wk W p e:=h.wk
 refine ⟨trivial,fun x hx=>?_,fun x hx=>(h.nm x hx).but hk hb,fun x hx=>(h.ow x hx).but hk hb,?_⟩
 ·obtain ⟨h1,h2,h3⟩:=h.bx x hx
  exact ⟨by rw [hb.block _ (block_lt h1) h2]; exact h1,trivial,h3⟩
 ·exact But.gr (gr_refl w0) (But.trans h.fr hb) hp (Nat.le_refl _)
structure Fq (w:World) (s:Bool) (a:Option Addr) (n:Nat) (a':Option Addr) (n':Nat) (x:Rat):Prop where
 neg:s = decide (x.num < 0)
 num:Num w a n x.num.natAbs
 den:Num w a' n' x.den
theorem Fq.q {w:World} {s:Bool} {a a':Option Addr} {n n':Nat} {x:Rat} (h:Fq w s a n a' n' x):Rm.Q x s x.num.natAbs x.den:=by rw [h.neg]; exact Rm.Q.self x
theorem Fq.kept {w w':World} {s:Bool} {a a':Option Addr} {n n':Nat} {x:Rat} (h:Fq w s a n a' n' x) (hb:Below w.heap.size w w'):Fq w' s a n a' n' x:=⟨h.neg,h.num.kept hb,h.den.kept hb⟩
theorem Fq.alloc {w:World} {s:Bool} {a a':Option Addr} {n n':Nat} {x:Rat} (h:Fq w s a n a' n' x) (o:Obj):Fq (w.alloc o) s a n a' n' x:=h.kept (gr_alloc _ _)
theorem sameNat_some (b off b' off' cap cap' n:Nat) (xs ys:List Nat) (w:World) (hxn:Hid (xs.length = n)) (hyn:Hid (ys.length = n)) (hlt:b < w.heap.size) (hlt':b' < w.heap.size) (hbig:n≤16384)
  (hc:∀ j,j < n→w.cell? ⟨b,off+j,none⟩ = some (.int .u32 ((xs[j]?.getD 0:Nat):Int)))
  (hc':∀ j,j < n→w.cell? ⟨b',off'+j,none⟩ = some (.int .u32 ((ys[j]?.getD 0:Nat):Int))) :
  Calls Tryz.prog 52 #[.agg #[.slice (some ⟨b,off,none⟩) n cap],.agg #[.slice (some ⟨b',off',none⟩) n cap']] w
   fun e w'=>e = .returned (.bool (decide (xs = ys)))∧Below w.heap.size w w':=by
 have hx1:=(Box.made w (.slice (some ⟨b,off,none⟩) n cap)).alloc (.cells #[.slice (some ⟨b',off',none⟩) n cap'] 27)
 have hx2:=Box.made (w.alloc (.cells #[.slice (some ⟨b,off,none⟩) n cap] 27)) (.slice (some ⟨b',off',none⟩) n cap')
 simp only [World.size_alloc] at hx2
 have HB:=gr_trans (gr_alloc w (.cells #[.slice (some ⟨b,off,none⟩) n cap] 27)) (gr_alloc _ (.cells #[.slice (some ⟨b',off',none⟩) n cap'] 27))
 go_enter Tryz.func52,Tryz.ntmps52
 go_wp2
 generalize (w.alloc (.cells #[.slice (some ⟨b,off,none⟩) n cap] 27)).alloc (.cells #[.slice (some ⟨b',off',none⟩) n cap'] 27) = w2 at *
 go_loopw [5] (fun t wr=>∃ k:Nat,k≤n∧t = .int .i64 (k:Int)∧xs.take k = ys.take k∧Below w2.heap.size w2 wr) (fun t _=>n - (intOf t).toNat)
 case atStart=>exact ⟨0,Nat.zero_le _,rfl,by simp,gr_refl _⟩
 case round=>
  obtain ⟨k,hk,rfl,hd,hbel⟩:=hrel
  have hk1:=(hx1.kept hbel).cell
  have hk2:=(hx2.kept hbel).cell
  have hBw:=gr_trans HB hbel
  by_cases hkn:k = n
  ·subst hkn
   have hxl:=unhide hxn
   have hyl:=unhide hyn
   have he:xs = ys:=by
    rw [List.take_of_length_le (by omega),List.take_of_length_le (by omega)] at hd; exact hd
   have HE:=hide he
   have HBw:=hide hBw
   clear hd he hbel hBw hc hc' hxl hyl
   go_wp2
   go_ret
   exact ⟨ret_bool (by simp [unhide HE]),unhide HBw⟩
  ·obtain ⟨x,hxx⟩:∃ x,x = xs[k]?.getD 0:=⟨_,rfl⟩
   obtain ⟨y,hyy⟩:∃ y,y = ys[k]?.getD 0:=⟨_,rfl⟩
   have hcx:wr.cell? ⟨b,off+k,none⟩ = some (.int .u32 (x:Int)):=by rw [hxx]; exact (hBw.cell (by exact hlt)).trans (hc k (by omega))
   have hcy:wr.cell? ⟨b',off'+k,none⟩ = some (.int .u32 (y:Int)):=by rw [hyy]; exact (hBw.cell (by exact hlt')).trans (hc' k (by omega))
   have hxl:=unhide hxn
   have hyl:=unhide hyn
   have hj2:(k:Int) < (n:Int):=by omega
   have HL:Hid (x = y→xs.take (k+1) = ys.take (k+1)):=fun e=>by
    rw [List.take_add_one,List.take_add_one,hd]
    congr 1
    rw [List.getElem?_eq_getElem (by omega:k < xs.length)] at hxx ⊢
    rw [List.getElem?_eq_getElem (by omega:k < ys.length)] at hyy ⊢
    simp at hxx hyy
    simp [← hxx,← hyy,e]
   have HN:Hid (x≠y→xs≠ys):=fun e e2=>e (by rw [hxx,hyy,e2])
   have HBw:=hide hBw
   have HBl:=hide hbel
   clear hxx hyy hd hxl hyl hc hc' hBw hbel
   go_wp2_with fail
   go_quiet (fail)
   by_cases he:x = y
   ·subst he
    go_wp2
    go_roundw
    case rel=>exact ⟨k+1,by omega,by go_num,unhide HL rfl,below_drewN (unhide HBl) _⟩
    case measure=>simp [intOf]; omega
   ·have hf:((x:Int) != (y:Int)) = true:=by simp; omega
    have HE:=hide he
    clear he
    go_wp2
    go_ret
    exact ⟨ret_bool (by simp [unhide HN (unhide HE)]),below_drewN (unhide HBw) _⟩
theorem sameNat_any (a a':Option Addr) (n n' cap cap' m m':Nat) (w:World) (h:Num w a n m) (h':Num w a' n' m') :
  Calls Tryz.prog 52 #[.agg #[.slice a n cap],.agg #[.slice a' n' cap']] w fun e w'=>e = .returned (.bool (decide (m = m')))∧Below w.heap.size w w':=by
 by_cases he:n = n'
 ·subst he
  obtain ⟨xs,hn,hl,hw,hN,hv,hb⟩:=h
  obtain ⟨ys,hn',hl',hw',hN',hv',hb'⟩:=h'
  have hdec:decide (m = m') = decide (xs = ys):=by
   rw [decide_eq_decide]
   exact ⟨fun e=>Pl.val_inj hw hw' hN hN' (by omega),fun e=>by rw [← hv,← hv',e]⟩
  rw [hdec]
  rcases hl.parts with hx|⟨hp,b,off,rfl,hlt,hc⟩
  ·have hn0:n = 0:=by rw [← hn,hx]; rfl
   have hy:ys = []:=List.length_eq_zero_iff.1 (by omega)
   subst hx hy hn0
   clear hn hn' hv hv' hdec
   go_enter Tryz.func52,Tryz.ntmps52
   go_wp2
   refine wp_loop_rounds 1 ?_
   rw [rounds_succ]
   go_wp2
   go_ret
   exact ⟨rfl,gr_trans (gr_alloc _ _) (gr_alloc _ _)⟩
  ·rcases hl'.parts with hy|⟨hp',b',off',rfl,hlt',hc'⟩
   ·rw [hy] at hn'; simp at hn'; omega
   ·exact sameNat_some b off b' off' cap cap' n xs ys w (hide hn) (hide hn') hlt hlt' hb (fun j hj=>hc j (by omega)) (fun j hj=>hc' j (by omega))
 ·have hne:((n:Int) != (n':Int)) = true:=by simp; omega
  have hm:m≠m':=fun e=>he (by subst e; exact h.same h')
  have HM:=hide hm
  clear hm he
  go_enter Tryz.func52,Tryz.ntmps52
  go_wp2
  go_ret
  exact ⟨ret_bool (by simp [unhide HM]),gr_trans (gr_alloc _ _) (gr_alloc _ _)⟩
theorem same_dec {w w':World} {s t:Bool} {a1 a2 a3 a4:Option Addr} {n1 n2 n3 n4:Nat} {x y:Rat} (hx:Fq w s a1 n1 a2 n2 x) (hy:Fq w' t a3 n3 a4 n4 y) :
  decide (x = y) = ((s == t) && decide (x.num.natAbs = y.num.natAbs) && decide (x.den = y.den)):=by
 have h1:=hx.neg
 have h2:=hy.neg
 subst h1 h2
 by_cases h:x = y
 ·subst h; simp
 ·have:¬ ((decide (x.num < 0) = decide (y.num < 0)∧x.num.natAbs = y.num.natAbs)∧x.den = y.den):=by
   rintro ⟨⟨e1,e2⟩,e3⟩
   apply h
   refine Rat.ext ?_ e3
   rw [decide_eq_decide] at e1
   omega
  rw [decide_eq_false h]
  symm
  simp only [Bool.and_eq_false_iff,beq_eq_false_iff_ne,decide_eq_false_iff_not]
  by_cases e1:decide (x.num < 0) = decide (y.num < 0)
  ·by_cases e2:x.num.natAbs = y.num.natAbs
   ·exact Or.inr (fun e3=>this ⟨⟨e1,e2⟩,e3⟩)
   ·exact Or.inl (Or.inr e2)
  ·exact Or.inl (Or.inl e1)
theorem same_rat (s t:Bool) (a1 a2 a3 a4:Option Addr) (n1 n2 n3 n4 c1 c2 c3 c4:Nat) (x y:Rat) (w:World) (hx:Fq w s a1 n1 a2 n2 x) (hy:Fq w t a3 n3 a4 n4 y) :
  Calls Tryz.prog 33 #[.agg #[.bool s,.slice a1 n1 c1,.slice a2 n2 c2],.agg #[.bool t,.slice a3 n3 c3,.slice a4 n4 c4]] w fun e w'=>e = .returned (.bool (decide (x = y)))∧Below w.heap.size w w':=by
 have hS:=((Rs.begin w).alloc #[.bool s,.slice a1 n1 c1,.slice a2 n2 c2] 29).alloc #[.bool t,.slice a3 n3 c3,.slice a4 n4 c4] 29
 simp only [World.size_alloc] at hS
 have hdec:=hide (same_dec hx hy)
 go_enter Tryz.func33,Tryz.ntmps33
 go_wp2_with fail
 refine (sameNat_any a1 a3 n1 n3 c1 c3 _ _ _ (hx.num.kept hS.fr) (hy.num.kept hS.fr)).mono ?_
 rintro en w1 ⟨rfl,hb1⟩
 replace hS:=hS.kept hb1
 obtain ⟨⟨k0,k1,k2,-⟩,⟨k3,k4,k5,-⟩,-⟩:=hS.cells
 go_wp2_with fail
 refine (sameNat_any a2 a4 n2 n4 c2 c4 _ _ _ (hx.den.kept hS.fr) (hy.den.kept hS.fr)).mono ?_
 rintro en w2 ⟨rfl,hb2⟩
 replace hS:=hS.kept hb2
 clear k0 k1 k2 k3 k4 k5
 obtain ⟨⟨k0,k1,k2,-⟩,⟨k3,k4,k5,-⟩,-⟩:=hS.cells
 generalize decide (x.num.natAbs = y.num.natAbs) = p at *
 generalize decide (x.den = y.den) = q at *
 cases hst:s == t <;> cases p <;> cases q
 all_goals (go_wp2; go_ret; exact ⟨ret_bool (by rw [unhide hdec,hst]; rfl),hS.fr⟩)
end Go.Proofs.YtfhmbnnlcjdblaaGreat
