/- Of what RatioOrderRow stands on: RWk ROver RReg RChain. -/
import Derived.Test.YtfhmbnnlcjdblaaGreatPaq
namespace Go.Proofs.YtfhmbnnlcjdblaaGreat
open Go.RowKit
set_option maxHeartbeats 4000000
set_option maxRecDepth 20000
structure Wadd1S where
 (b0 b1 b2 b3 b4 b5 b6 b7 b8 b9:Bool)
 (v0 v1 v2 v3 v4 v5 v6 v7 v8:Value)
 (A5:Option Addr)
 (N5 C5:Nat)
 (A8:Option Addr)
 (N8 C8:Nat)
 (M8:Nat)
 (E8:Int)
 bs9:List En
 os9:Os
structure Wadd1R (w:World) (p:Nat) (e0:Int) (a a':Option Addr) (n n' cap cap' m m':Nat) (M:Nat) (er:Int) (S9:Nat) (b0 b1 b2 b3 b4 b5 b6 b7 b8 b9:Bool) (v0 v1 v2 v3 v4 v5 v6 v7 v8:Value) (A5:Option Addr) (N5 C5:Nat) (A8:Option Addr) (N8 C8:Nat) (M8:Nat) (E8:Int) (bs9:List En) (os9:Os) (w':World):Prop where
 hc:Rc w S9 [⟨w.heap.size+1,#[.slice a' n' cap'],27⟩,⟨w.heap.size,#[.slice a n cap],27⟩] [(a',n',m'),(a,n,m)] [] (some ((p),(cond b8 E8 e0))) bs9 os9 w'
 f0:b0 = true→v0 = .pointer (some ⟨p,0,none⟩)
 f1:b1 = true→v1 = .pointer (some ⟨p,0,none⟩)
 f2:b2 = true→v2 = .pointer (some ⟨p,0,none⟩)
 f3:b3 = true→v3 = .agg #[.slice a n cap]
 f4:b4 = true→v4 = .agg #[.slice a' n' cap']
 f5:b5 = true→v5 = .tuple #[.agg #[.slice A5 N5 C5],.int .i64 er]∧(A5,N5,C5,M)∈os9
 f6:b6 = true→v6 = .agg #[.slice A5 N5 C5]
 f7:b7 = true→v7 = .int .i64 er
 f8:b8 = true→v8 = .agg #[.slice A8 N8 C8]∧(A8,N8,C8,M8)∈os9∧(M8 = M∧E8 = Kp e0 er)
 o0_0:b9 = false→⟨w.heap.size+1+1,#[.slice none 0 0],27⟩∈bs9
 o0_1:b9 = true→⟨w.heap.size+1+1,#[.slice A8 N8 C8],27⟩∈bs9
 g6_5:b6 = true→b5 = true
 g7_5:b7 = true→b5 = true
 g8_5:b8 = true→b5 = true
 g9_8:b9 = true→b8 = true
 g9_5:b9 = true→b5 = true
def Wadd1I (w:World) (p:Nat) (e0:Int) (a a':Option Addr) (n n' cap cap' m m':Nat) (M:Nat) (er:Int) (S9:Nat) (l:Array Bool) (act:Act) (w':World):Wadd1S→Prop
 | ⟨b0,b1,b2,b3,b4,b5,b6,b7,b8,b9,v0,v1,v2,v3,v4,v5,v6,v7,v8,A5,N5,C5,A8,N8,C8,M8,E8,bs9,os9⟩=>l = #[b0,b1,b2,b3,b4,b5,b6,b7,b8,b9]∧act = { tmps:=#[.pointer (some ⟨p,0,none⟩),.agg #[.slice a n cap],.agg #[.slice a' n' cap'],undef,.pointer (some ⟨w.heap.size,0,none⟩),.pointer (some ⟨w.heap.size+1,0,none⟩),.pointer (some ⟨w.heap.size+1+1,0,none⟩),v0,v1,v2,v3,v4,v5,v6,v7,v8],defers:=[] }∧Wadd1R w p e0 a a' n n' cap cap' m m' M er S9 b0 b1 b2 b3 b4 b5 b6 b7 b8 b9 v0 v1 v2 v3 v4 v5 v6 v7 v8 A5 N5 C5 A8 N8 C8 M8 E8 bs9 os9 w'
theorem wadd_w (w:World) (p:Nat) (e0:Int) (a a':Option Addr) (n n' cap cap' m m':Nat) (M:Nat) (er:Int) (hk:Wk w p e0) (h:Num w a n m) (h':Num w a' n' m') (HC:Hid (∀ (W:World) (a:Option Addr) (n c:Nat) (a':Option Addr) (n' c':Nat),Num W a n m→Num W a' n' m'→Calls Tryz.prog 48 #[.agg #[.slice a n c],.agg #[.slice a' n' c']] W fun en W'=>(∃ a n c,en = .returned (.tuple #[.agg #[.slice a n c],.int .i64 er])∧Mine W' W.heap.size a n c M)∧Below W.heap.size W W')) :
  Calls Tryz.prog 26 #[.pointer (some ⟨p,0,none⟩),.agg #[.slice a n cap],.agg #[.slice a' n' cap']] w fun en w'=>∃ a n c,en = .returned (.agg #[.slice a n c])∧Mine w' w.heap.size a n c M∧Wk w' p (Kp e0 er)∧But p w w':=by
 have hS:=Rs.begin_work hk
 replace hS:=hS.num h
 replace hS:=hS.num h'
 replace hS:=hS.alloc #[.slice a n cap] 27
 try simp only [World.size_alloc] at hS
 replace hS:=hS.alloc #[.slice a' n' cap'] 27
 try simp only [World.size_alloc] at hS
 replace hS:=hS.alloc #[.slice none 0 0] 27
 try simp only [World.size_alloc] at hS
 go_enter Tryz.func26,Tryz.ntmps26
 go_wp2_with fail
 refine wp_region_any (by kernel_rfl) ?_
 change wpAny _ _ _ _ _ _ _ (World.drew _)
 have hS9:=hS.drew
 have hsW9:(World.drew (((w.alloc (.cells #[.slice a n cap] 27)).alloc (.cells #[.slice a' n' cap'] 27)).alloc (.cells #[.slice none 0 0] 27))).heap.size = w.heap.size+1+1+1:=by first|rfl|simp
 generalize World.drew (((w.alloc (.cells #[.slice a n cap] 27)).alloc (.cells #[.slice a' n' cap'] 27)).alloc (.cells #[.slice none 0 0] 27)) = Wd at hS9 hsW9 ⊢
 obtain ⟨S9,hS9z⟩:∃ x,x = Wd.heap.size:=⟨_,rfl⟩
 have hC9:=Rc.start (bs:=[⟨w.heap.size+1,#[.slice a' n' cap'],27⟩,⟨w.heap.size,#[.slice a n cap],27⟩]) hS9 (by simp)
 rw [← hS9z] at hC9
 have hP9_0:=hS9.bx ⟨w.heap.size+1+1,#[.slice none 0 0],27⟩ (by simp)
 have hP9_0:=block_lt hP9_0.1
 rw [← hS9z] at hP9_0
 simp only [] at hP9_0
 refine wpAny_inv (fun l act w'=>∃ σ,Wadd1I w p e0 a a' n n' cap cap' m m' M er S9 l act w' σ) ?_ ?_ _ _ _ _ ?_ ?_
 ·intro l act w' i9 hI9 hi9 hl9
  have hin9:i9 < 10:=by
   by_cases h:i9 < 10
   ·exact h
   ·obtain ⟨⟨⟩,rfl,_⟩:=hI9
    rw [Array.getElem?_eq_none (by simp; omega)] at hl9; cases hl9
  have hcase:i9 = 0∨i9 = 1∨i9 = 2∨i9 = 3∨i9 = 4∨i9 = 5∨i9 = 6∨i9 = 7∨i9 = 8∨i9 = 9:=by omega
  clear hin9
  obtain ⟨⟨b0,b1,b2,b3,b4,b5,b6,b7,b8,b9,v0,v1,v2,v3,v4,v5,v6,v7,v8,A5,N5,C5,A8,N8,C8,M8,E8,bs9,os9⟩,rfl,rfl,hR⟩:=hI9
  rcases hcase with rfl|rfl|rfl|rfl|rfl|rfl|rfl|rfl|rfl|rfl
  ·obtain rfl:b0 = false:=by simpa using hl9
   have hc:=hR.hc
   refine wpOp_step rfl fun K hK=>?_
   go_simp
   exact hK _ _ ⟨⟨_,_,_,_,_,_,_,_,_,_,_,_,_,_,_,_,_,_,_,A5,N5,C5,A8,N8,C8,M8,E8,_,_⟩,rfl,rfl,{ hR with hc:=hc,f0:=(fun _=>rfl) }⟩
  ·obtain rfl:b1 = false:=by simpa using hl9
   obtain ⟨o9,ho9,hd9⟩:=(mem_ready.1 hi9).2
   cases ho9
   have e0:b0 = true:=hd9 ⟨0,.data⟩ (by simp) rfl
   subst e0
   have h9:=hR.f0 rfl
   subst h9
   have hc:=hR.hc
   refine wpOp_step rfl fun K hK=>?_
   go_simp
   exact hK _ _ ⟨⟨_,_,_,_,_,_,_,_,_,_,_,_,_,_,_,_,_,_,_,A5,N5,C5,A8,N8,C8,M8,E8,_,_⟩,rfl,rfl,{ hR with hc:=hc,f1:=(fun _=>rfl) }⟩
  ·obtain rfl:b2 = false:=by simpa using hl9
   obtain ⟨o9,ho9,hd9⟩:=(mem_ready.1 hi9).2
   cases ho9
   have e1:b1 = true:=hd9 ⟨1,.data⟩ (by simp) rfl
   subst e1
   have h9:=hR.f1 rfl
   subst h9
   have hc:=hR.hc
   refine wpOp_step rfl fun K hK=>?_
   go_simp
   exact hK _ _ ⟨⟨_,_,_,_,_,_,_,_,_,_,_,_,_,_,_,_,_,_,_,A5,N5,C5,A8,N8,C8,M8,E8,_,_⟩,rfl,rfl,{ hR with hc:=hc,f2:=(fun _=>rfl) }⟩
  ·obtain rfl:b3 = false:=by simpa using hl9
   have hc:=hR.hc
   have c9_0:=hc.st.cellAt (hc.old ⟨w.heap.size,#[.slice a n cap],27⟩ (by simp)).1 0 (.slice a n cap) rfl
   simp only [] at c9_0
   refine wpOp_step rfl fun K hK=>?_
   go_simp
   exact hK _ _ ⟨⟨_,_,_,_,_,_,_,_,_,_,_,_,_,_,_,_,_,_,_,A5,N5,C5,A8,N8,C8,M8,E8,_,_⟩,rfl,rfl,{ hR with hc:=hc,f3:=(fun _=>rfl) }⟩
  ·obtain rfl:b4 = false:=by simpa using hl9
   have hc:=hR.hc
   have c9_0:=hc.st.cellAt (hc.old ⟨w.heap.size+1,#[.slice a' n' cap'],27⟩ (by simp)).1 0 (.slice a' n' cap') rfl
   simp only [] at c9_0
   refine wpOp_step rfl fun K hK=>?_
   go_simp
   exact hK _ _ ⟨⟨_,_,_,_,_,_,_,_,_,_,_,_,_,_,_,_,_,_,_,A5,N5,C5,A8,N8,C8,M8,E8,_,_⟩,rfl,rfl,{ hR with hc:=hc,f4:=(fun _=>rfl) }⟩
  ·obtain rfl:b5 = false:=by simpa using hl9
   obtain ⟨o9,ho9,hd9⟩:=(mem_ready.1 hi9).2
   cases ho9
   have e3:b3 = true:=hd9 ⟨3,.data⟩ (by simp) rfl
   have e4:b4 = true:=hd9 ⟨4,.data⟩ (by simp) rfl
   subst e3 e4
   have h9:=hR.f3 rfl
   subst h9
   have h9:=hR.f4 rfl
   subst h9
   have hc:=hR.hc
   have HR:=hide hR
   clear hR
   refine wpOp_step rfl fun K hK=>?_
   go_simp
   go_wp2_with fail
   refine (W_oft hc.st (unhide HC _ _ _ _ _ _ _ (hc.st.nm (a,n,m) (by simp)) (hc.st.nm (a',n',m') (by simp)))).mono ?_
   rintro en w9 ⟨a9,n9,c9,rfl,hs9,hz9⟩
   have hR:=unhide HR
   exact hK _ _ ⟨⟨_,_,_,_,_,_,_,_,_,_,_,_,_,_,_,_,_,_,_,_,_,_,A8,N8,C8,M8,E8,_,_⟩,rfl,rfl,{ hR with hc:=(hc.call hs9 hz9 (fun y hy=>List.mem_cons_of_mem _ hy)),f5:=(fun _=>⟨rfl,List.mem_cons_self ..⟩),f6:=(fun h=>Bool.noConfusion (hR.g6_5 h)),f7:=(fun h=>Bool.noConfusion (hR.g7_5 h)),f8:=(fun h=>Bool.noConfusion (hR.g8_5 h)),o0_1:=(fun h=>Bool.noConfusion (hR.g9_5 h)),g6_5:=(fun _=>rfl),g7_5:=(fun _=>rfl),g8_5:=(fun _=>rfl),g9_5:=(fun _=>rfl) }⟩
  ·obtain rfl:b6 = false:=by simpa using hl9
   obtain ⟨o9,ho9,hd9⟩:=(mem_ready.1 hi9).2
   cases ho9
   have e5:b5 = true:=hd9 ⟨5,.data⟩ (by simp) rfl
   subst e5
   have q5:=hR.f5 rfl
   obtain ⟨h9,q5m⟩:=q5
   subst h9
   have hc:=hR.hc
   refine wpOp_step rfl fun K hK=>?_
   go_simp
   exact hK _ _ ⟨⟨_,_,_,_,_,_,_,_,_,_,_,_,_,_,_,_,_,_,_,A5,N5,C5,A8,N8,C8,M8,E8,_,_⟩,rfl,rfl,{ hR with hc:=hc,f6:=(fun _=>rfl),g6_5:=(fun _=>rfl) }⟩
  ·obtain rfl:b7 = false:=by simpa using hl9
   obtain ⟨o9,ho9,hd9⟩:=(mem_ready.1 hi9).2
   cases ho9
   have e5:b5 = true:=hd9 ⟨5,.data⟩ (by simp) rfl
   subst e5
   have q5:=hR.f5 rfl
   obtain ⟨h9,q5m⟩:=q5
   subst h9
   have hc:=hR.hc
   refine wpOp_step rfl fun K hK=>?_
   go_simp
   exact hK _ _ ⟨⟨_,_,_,_,_,_,_,_,_,_,_,_,_,_,_,_,_,_,_,A5,N5,C5,A8,N8,C8,M8,E8,_,_⟩,rfl,rfl,{ hR with hc:=hc,f7:=(fun _=>rfl),g7_5:=(fun _=>rfl) }⟩
  ·obtain rfl:b8 = false:=by simpa using hl9
   obtain ⟨o9,ho9,hd9⟩:=(mem_ready.1 hi9).2
   cases ho9
   have e2:b2 = true:=hd9 ⟨2,.data⟩ (by simp) rfl
   have e6:b6 = true:=hd9 ⟨6,.data⟩ (by simp) rfl
   have e7:b7 = true:=hd9 ⟨7,.data⟩ (by simp) rfl
   subst e2 e6 e7
   have h9:=hR.f2 rfl
   subst h9
   obtain rfl:b5 = true:=hR.g6_5 rfl
   have q5:=hR.f5 rfl
   obtain ⟨h9,q5m⟩:=q5
   subst h9
   have h9:=hR.f6 rfl
   subst h9
   have h9:=hR.f7 rfl
   subst h9
   have hc:=hR.hc
   simp only [cond_false] at hc
   have HR:=hide hR
   clear hR
   refine wpOp_step rfl fun K hK=>?_
   go_simp
   go_wp2_with fail
   refine (W_rNat hc.st C5 (hc.st.ow _ q5m)).mono ?_
   rintro en w9 ⟨a9,n9,c9,m9,e9,rfl,hs9,hz,hz9⟩
   have hR:=unhide HR
   exact hK _ _ ⟨⟨_,_,_,_,_,_,_,_,_,_,_,_,_,_,_,_,_,_,_,A5,N5,C5,_,_,_,_,_,_,_⟩,rfl,rfl,{ hR with hc:=(hc.call hs9 hz9 (fun y hy=>List.mem_cons_of_mem _ hy)),f5:=(fun h=>⟨(hR.f5 h).1,List.mem_cons_of_mem _ (hR.f5 h).2⟩),f8:=(fun _=>⟨rfl,List.mem_cons_self ..,hz⟩),o0_1:=(fun h=>Bool.noConfusion (hR.g9_8 h)),g8_5:=(fun _=>rfl),g9_8:=(fun _=>rfl) }⟩
  ·obtain rfl:b9 = false:=by simpa using hl9
   obtain ⟨o9,ho9,hd9⟩:=(mem_ready.1 hi9).2
   cases ho9
   have e8:b8 = true:=hd9 ⟨8,.data⟩ (by simp) rfl
   subst e8
   have q8:=hR.f8 rfl
   obtain ⟨h9,q8m,q8z⟩:=q8
   subst h9
   have hc:=hR.hc
   have hm9:=hR.o0_0 rfl
   have fz9_0:=hc.st.frozen hm9 0
   have cz9_0:=hc.st.cellAt hm9 0 (.slice none 0 0) rfl
   simp only [] at fz9_0 cz9_0
   have hn9:∀ x,x∈([⟨w.heap.size+1,#[.slice a' n' cap'],27⟩,⟨w.heap.size,#[.slice a n cap],27⟩]:List En)→x.b≠w.heap.size+1+1:=by intro x hx; rcases List.mem_cons.1 hx with rfl|hx; (simp only []; omega); rcases List.mem_cons.1 hx with rfl|hx; (simp only []; omega);  exact absurd hx List.not_mem_nil
   have hw9:w.heap.size≤w.heap.size+1+1:=by omega
   refine wpOp_step rfl fun K hK=>?_
   go_simp
   exact hK _ _ ⟨⟨_,_,_,_,_,_,_,_,_,_,_,_,_,_,_,_,_,_,_,A5,N5,C5,A8,N8,C8,M8,E8,_,_⟩,rfl,rfl,{ hR with hc:=(hc.store hm9 hw9 hn9 0 (.slice A8 N8 C8) (by simp)),o0_0:=(fun h=>Bool.noConfusion h),o0_1:=(fun _=>List.mem_cons_self ..),g9_8:=(fun _=>rfl),g9_5:=(fun _=>hR.g8_5 rfl) }⟩
 ·rintro l act Wq1 ⟨⟨b0,b1,b2,b3,b4,b5,b6,b7,b8,b9,v0,v1,v2,v3,v4,v5,v6,v7,v8,x1_A5,x1_N5,x1_C5,x1_A8,x1_N8,x1_C8,x1_M8,x1_E8,bs9,os9⟩,rfl,rfl,hR⟩ hr9
  obtain ⟨hc,f0,f1,f2,f3,f4,f5,f6,f7,f8,o0_0,o0_1,g6_5,g7_5,g8_5,g9_8,g9_5⟩:=hR
  have eall:=all_done hr9 (by kernel_rfl) rfl
  obtain rfl:b0 = true:=eall 0 (by decide)
  obtain rfl:b1 = true:=eall 1 (by decide)
  obtain rfl:b2 = true:=eall 2 (by decide)
  obtain rfl:b3 = true:=eall 3 (by decide)
  obtain rfl:b4 = true:=eall 4 (by decide)
  obtain rfl:b5 = true:=eall 5 (by decide)
  obtain rfl:b6 = true:=eall 6 (by decide)
  obtain rfl:b7 = true:=eall 7 (by decide)
  obtain rfl:b8 = true:=eall 8 (by decide)
  obtain rfl:b9 = true:=eall 9 (by decide)
  clear hr9 eall
  have h9:=f0 rfl
  subst h9
  have h9:=f1 rfl
  subst h9
  have h9:=f2 rfl
  subst h9
  have h9:=f3 rfl
  subst h9
  have h9:=f4 rfl
  subst h9
  obtain ⟨h9,q5m⟩:=f5 rfl
  subst h9
  have h9:=f6 rfl
  subst h9
  have h9:=f7 rfl
  subst h9
  obtain ⟨h9,q8m,qx1_8⟩:=f8 rfl
  subst h9
  simp only [cond_true] at hc
  have hbs9:∀ x,x∈([⟨w.heap.size+1+1,#[.slice x1_A8 x1_N8 x1_C8],27⟩,⟨w.heap.size+1,#[.slice a' n' cap'],27⟩,⟨w.heap.size,#[.slice a n cap],27⟩]:List En)→x∈bs9:=by
   intro x hx
   rcases List.mem_cons.1 hx with rfl|hx
   ·exact (o0_1 rfl)
   rcases List.mem_cons.1 hx with rfl|hx
   ·exact (hc.old _ (by simp)).1
   rcases List.mem_cons.1 hx with rfl|hx
   ·exact (hc.old _ (by simp)).1
   exact absurd hx List.not_mem_nil
  have hos9:∀ x,x∈([(x1_A5,x1_N5,x1_C5,M),(x1_A8,x1_N8,x1_C8,x1_M8)]:Os)→x∈os9:=by
   intro x hx
   rcases List.mem_cons.1 hx with rfl|hx
   ·exact q5m
   rcases List.mem_cons.1 hx with rfl|hx
   ·exact q8m
   exact absurd hx List.not_mem_nil
  have hS:=hc.st.sub hbs9 (fun x hx=>hx) hos9
  have hsz9:=hc.sz
  rw [hS9z,hsW9] at hsz9
  clear hbs9 hos9 hc f0 f1 f2 f3 f4 f5 f6 f7 f8 o0_0 o0_1 g6_5 g7_5 g8_5 g9_8 g9_5
  clear q5m q8m
  have hz1:=hsz9
  clear hsz9 hS9z hS9 hC9 hsW9
  have Qx1_8:=hide qx1_8
  clear qx1_8
  obtain ⟨⟨k0_0,-⟩,z0⟩:=hS.cz ⟨w.heap.size+1+1,#[.slice x1_A8 x1_N8 x1_C8],27⟩ (by simp)
  have z0_0:=z0 0
  clear z0
  simp only [] at k0_0 z0_0
  go_wp2
  obtain ⟨rfl,rfl⟩:=unhide Qx1_8
  exact bodyPost_ret (v:=.agg #[.slice x1_A8 x1_N8 x1_C8]) (by simp [results,Tryz.results26,go_sem,k0_0]) rfl ⟨_,_,_,rfl,hS.ow (x1_A8,x1_N8,x1_C8,_) (by simp),hS.wk,hS.fr⟩
 ·simp
 ·exact ⟨⟨false,false,false,false,false,false,false,false,false,false,undef,undef,undef,undef,undef,undef,undef,undef,undef,none,0,0,none,0,0,0,0,_,_⟩,rfl,rfl,⟨hC9,nb,nb,nb,nb,nb,nb,nb,nb,nb,(fun _=>by simp),nb,nb,nb,nb,nb,nb⟩⟩
structure Wmul1S where
 (b0 b1 b2 b3 b4 b5 b6 b7 b8 b9:Bool)
 (v0 v1 v2 v3 v4 v5 v6 v7 v8:Value)
 (A5:Option Addr)
 (N5 C5:Nat)
 (A8:Option Addr)
 (N8 C8:Nat)
 (M8:Nat)
 (E8:Int)
 bs9:List En
 os9:Os
structure Wmul1R (w:World) (p:Nat) (e0:Int) (a a':Option Addr) (n n' cap cap' m m':Nat) (M:Nat) (er:Int) (S9:Nat) (b0 b1 b2 b3 b4 b5 b6 b7 b8 b9:Bool) (v0 v1 v2 v3 v4 v5 v6 v7 v8:Value) (A5:Option Addr) (N5 C5:Nat) (A8:Option Addr) (N8 C8:Nat) (M8:Nat) (E8:Int) (bs9:List En) (os9:Os) (w':World):Prop where
 hc:Rc w S9 [⟨w.heap.size+1,#[.slice a' n' cap'],27⟩,⟨w.heap.size,#[.slice a n cap],27⟩] [(a',n',m'),(a,n,m)] [] (some ((p),(cond b8 E8 e0))) bs9 os9 w'
 f0:b0 = true→v0 = .pointer (some ⟨p,0,none⟩)
 f1:b1 = true→v1 = .pointer (some ⟨p,0,none⟩)
 f2:b2 = true→v2 = .pointer (some ⟨p,0,none⟩)
 f3:b3 = true→v3 = .agg #[.slice a n cap]
 f4:b4 = true→v4 = .agg #[.slice a' n' cap']
 f5:b5 = true→v5 = .tuple #[.agg #[.slice A5 N5 C5],.int .i64 er]∧(A5,N5,C5,M)∈os9
 f6:b6 = true→v6 = .agg #[.slice A5 N5 C5]
 f7:b7 = true→v7 = .int .i64 er
 f8:b8 = true→v8 = .agg #[.slice A8 N8 C8]∧(A8,N8,C8,M8)∈os9∧(M8 = M∧E8 = Kp e0 er)
 o0_0:b9 = false→⟨w.heap.size+1+1,#[.slice none 0 0],27⟩∈bs9
 o0_1:b9 = true→⟨w.heap.size+1+1,#[.slice A8 N8 C8],27⟩∈bs9
 g6_5:b6 = true→b5 = true
 g7_5:b7 = true→b5 = true
 g8_5:b8 = true→b5 = true
 g9_8:b9 = true→b8 = true
 g9_5:b9 = true→b5 = true
def Wmul1I (w:World) (p:Nat) (e0:Int) (a a':Option Addr) (n n' cap cap' m m':Nat) (M:Nat) (er:Int) (S9:Nat) (l:Array Bool) (act:Act) (w':World):Wmul1S→Prop
 | ⟨b0,b1,b2,b3,b4,b5,b6,b7,b8,b9,v0,v1,v2,v3,v4,v5,v6,v7,v8,A5,N5,C5,A8,N8,C8,M8,E8,bs9,os9⟩=>l = #[b0,b1,b2,b3,b4,b5,b6,b7,b8,b9]∧act = { tmps:=#[.pointer (some ⟨p,0,none⟩),.agg #[.slice a n cap],.agg #[.slice a' n' cap'],undef,.pointer (some ⟨w.heap.size,0,none⟩),.pointer (some ⟨w.heap.size+1,0,none⟩),.pointer (some ⟨w.heap.size+1+1,0,none⟩),v0,v1,v2,v3,v4,v5,v6,v7,v8],defers:=[] }∧Wmul1R w p e0 a a' n n' cap cap' m m' M er S9 b0 b1 b2 b3 b4 b5 b6 b7 b8 b9 v0 v1 v2 v3 v4 v5 v6 v7 v8 A5 N5 C5 A8 N8 C8 M8 E8 bs9 os9 w'
theorem wmul_w (w:World) (p:Nat) (e0:Int) (a a':Option Addr) (n n' cap cap' m m':Nat) (M:Nat) (er:Int) (hk:Wk w p e0) (h:Num w a n m) (h':Num w a' n' m') (HC:Hid (∀ (W:World) (a:Option Addr) (n c:Nat) (a':Option Addr) (n' c':Nat),Num W a n m→Num W a' n' m'→Calls Tryz.prog 65 #[.agg #[.slice a n c],.agg #[.slice a' n' c']] W fun en W'=>(∃ a n c,en = .returned (.tuple #[.agg #[.slice a n c],.int .i64 er])∧Mine W' W.heap.size a n c M)∧Below W.heap.size W W')) :
  Calls Tryz.prog 42 #[.pointer (some ⟨p,0,none⟩),.agg #[.slice a n cap],.agg #[.slice a' n' cap']] w fun en w'=>∃ a n c,en = .returned (.agg #[.slice a n c])∧Mine w' w.heap.size a n c M∧Wk w' p (Kp e0 er)∧But p w w':=by
 have hS:=Rs.begin_work hk
 replace hS:=hS.num h
 replace hS:=hS.num h'
 replace hS:=hS.alloc #[.slice a n cap] 27
 try simp only [World.size_alloc] at hS
 replace hS:=hS.alloc #[.slice a' n' cap'] 27
 try simp only [World.size_alloc] at hS
 replace hS:=hS.alloc #[.slice none 0 0] 27
 try simp only [World.size_alloc] at hS
 go_enter Tryz.func42,Tryz.ntmps42
 go_wp2_with fail
 refine wp_region_any (by kernel_rfl) ?_
 change wpAny _ _ _ _ _ _ _ (World.drew _)
 have hS9:=hS.drew
 have hsW9:(World.drew (((w.alloc (.cells #[.slice a n cap] 27)).alloc (.cells #[.slice a' n' cap'] 27)).alloc (.cells #[.slice none 0 0] 27))).heap.size = w.heap.size+1+1+1:=by first|rfl|simp
 generalize World.drew (((w.alloc (.cells #[.slice a n cap] 27)).alloc (.cells #[.slice a' n' cap'] 27)).alloc (.cells #[.slice none 0 0] 27)) = Wd at hS9 hsW9 ⊢
 obtain ⟨S9,hS9z⟩:∃ x,x = Wd.heap.size:=⟨_,rfl⟩
 have hC9:=Rc.start (bs:=[⟨w.heap.size+1,#[.slice a' n' cap'],27⟩,⟨w.heap.size,#[.slice a n cap],27⟩]) hS9 (by simp)
 rw [← hS9z] at hC9
 have hP9_0:=hS9.bx ⟨w.heap.size+1+1,#[.slice none 0 0],27⟩ (by simp)
 have hP9_0:=block_lt hP9_0.1
 rw [← hS9z] at hP9_0
 simp only [] at hP9_0
 refine wpAny_inv (fun l act w'=>∃ σ,Wmul1I w p e0 a a' n n' cap cap' m m' M er S9 l act w' σ) ?_ ?_ _ _ _ _ ?_ ?_
 ·intro l act w' i9 hI9 hi9 hl9
  have hin9:i9 < 10:=by
   by_cases h:i9 < 10
   ·exact h
   ·obtain ⟨⟨⟩,rfl,_⟩:=hI9
    rw [Array.getElem?_eq_none (by simp; omega)] at hl9; cases hl9
  have hcase:i9 = 0∨i9 = 1∨i9 = 2∨i9 = 3∨i9 = 4∨i9 = 5∨i9 = 6∨i9 = 7∨i9 = 8∨i9 = 9:=by omega
  clear hin9
  obtain ⟨⟨b0,b1,b2,b3,b4,b5,b6,b7,b8,b9,v0,v1,v2,v3,v4,v5,v6,v7,v8,A5,N5,C5,A8,N8,C8,M8,E8,bs9,os9⟩,rfl,rfl,hR⟩:=hI9
  rcases hcase with rfl|rfl|rfl|rfl|rfl|rfl|rfl|rfl|rfl|rfl
  ·obtain rfl:b0 = false:=by simpa using hl9
   have hc:=hR.hc
   refine wpOp_step rfl fun K hK=>?_
   go_simp
   exact hK _ _ ⟨⟨_,_,_,_,_,_,_,_,_,_,_,_,_,_,_,_,_,_,_,A5,N5,C5,A8,N8,C8,M8,E8,_,_⟩,rfl,rfl,{ hR with hc:=hc,f0:=(fun _=>rfl) }⟩
  ·obtain rfl:b1 = false:=by simpa using hl9
   obtain ⟨o9,ho9,hd9⟩:=(mem_ready.1 hi9).2
   cases ho9
   have e0:b0 = true:=hd9 ⟨0,.data⟩ (by simp) rfl
   subst e0
   have h9:=hR.f0 rfl
   subst h9
   have hc:=hR.hc
   refine wpOp_step rfl fun K hK=>?_
   go_simp
   exact hK _ _ ⟨⟨_,_,_,_,_,_,_,_,_,_,_,_,_,_,_,_,_,_,_,A5,N5,C5,A8,N8,C8,M8,E8,_,_⟩,rfl,rfl,{ hR with hc:=hc,f1:=(fun _=>rfl) }⟩
  ·obtain rfl:b2 = false:=by simpa using hl9
   obtain ⟨o9,ho9,hd9⟩:=(mem_ready.1 hi9).2
   cases ho9
   have e1:b1 = true:=hd9 ⟨1,.data⟩ (by simp) rfl
   subst e1
   have h9:=hR.f1 rfl
   subst h9
   have hc:=hR.hc
   refine wpOp_step rfl fun K hK=>?_
   go_simp
   exact hK _ _ ⟨⟨_,_,_,_,_,_,_,_,_,_,_,_,_,_,_,_,_,_,_,A5,N5,C5,A8,N8,C8,M8,E8,_,_⟩,rfl,rfl,{ hR with hc:=hc,f2:=(fun _=>rfl) }⟩
  ·obtain rfl:b3 = false:=by simpa using hl9
   have hc:=hR.hc
   have c9_0:=hc.st.cellAt (hc.old ⟨w.heap.size,#[.slice a n cap],27⟩ (by simp)).1 0 (.slice a n cap) rfl
   simp only [] at c9_0
   refine wpOp_step rfl fun K hK=>?_
   go_simp
   exact hK _ _ ⟨⟨_,_,_,_,_,_,_,_,_,_,_,_,_,_,_,_,_,_,_,A5,N5,C5,A8,N8,C8,M8,E8,_,_⟩,rfl,rfl,{ hR with hc:=hc,f3:=(fun _=>rfl) }⟩
  ·obtain rfl:b4 = false:=by simpa using hl9
   have hc:=hR.hc
   have c9_0:=hc.st.cellAt (hc.old ⟨w.heap.size+1,#[.slice a' n' cap'],27⟩ (by simp)).1 0 (.slice a' n' cap') rfl
   simp only [] at c9_0
   refine wpOp_step rfl fun K hK=>?_
   go_simp
   exact hK _ _ ⟨⟨_,_,_,_,_,_,_,_,_,_,_,_,_,_,_,_,_,_,_,A5,N5,C5,A8,N8,C8,M8,E8,_,_⟩,rfl,rfl,{ hR with hc:=hc,f4:=(fun _=>rfl) }⟩
  ·obtain rfl:b5 = false:=by simpa using hl9
   obtain ⟨o9,ho9,hd9⟩:=(mem_ready.1 hi9).2
   cases ho9
   have e3:b3 = true:=hd9 ⟨3,.data⟩ (by simp) rfl
   have e4:b4 = true:=hd9 ⟨4,.data⟩ (by simp) rfl
   subst e3 e4
   have h9:=hR.f3 rfl
   subst h9
   have h9:=hR.f4 rfl
   subst h9
   have hc:=hR.hc
   have HR:=hide hR
   clear hR
   refine wpOp_step rfl fun K hK=>?_
   go_simp
   go_wp2_with fail
   refine (W_oft hc.st (unhide HC _ _ _ _ _ _ _ (hc.st.nm (a,n,m) (by simp)) (hc.st.nm (a',n',m') (by simp)))).mono ?_
   rintro en w9 ⟨a9,n9,c9,rfl,hs9,hz9⟩
   have hR:=unhide HR
   exact hK _ _ ⟨⟨_,_,_,_,_,_,_,_,_,_,_,_,_,_,_,_,_,_,_,_,_,_,A8,N8,C8,M8,E8,_,_⟩,rfl,rfl,{ hR with hc:=(hc.call hs9 hz9 (fun y hy=>List.mem_cons_of_mem _ hy)),f5:=(fun _=>⟨rfl,List.mem_cons_self ..⟩),f6:=(fun h=>Bool.noConfusion (hR.g6_5 h)),f7:=(fun h=>Bool.noConfusion (hR.g7_5 h)),f8:=(fun h=>Bool.noConfusion (hR.g8_5 h)),o0_1:=(fun h=>Bool.noConfusion (hR.g9_5 h)),g6_5:=(fun _=>rfl),g7_5:=(fun _=>rfl),g8_5:=(fun _=>rfl),g9_5:=(fun _=>rfl) }⟩
  ·obtain rfl:b6 = false:=by simpa using hl9
   obtain ⟨o9,ho9,hd9⟩:=(mem_ready.1 hi9).2
   cases ho9
   have e5:b5 = true:=hd9 ⟨5,.data⟩ (by simp) rfl
   subst e5
   have q5:=hR.f5 rfl
   obtain ⟨h9,q5m⟩:=q5
   subst h9
   have hc:=hR.hc
   refine wpOp_step rfl fun K hK=>?_
   go_simp
   exact hK _ _ ⟨⟨_,_,_,_,_,_,_,_,_,_,_,_,_,_,_,_,_,_,_,A5,N5,C5,A8,N8,C8,M8,E8,_,_⟩,rfl,rfl,{ hR with hc:=hc,f6:=(fun _=>rfl),g6_5:=(fun _=>rfl) }⟩
  ·obtain rfl:b7 = false:=by simpa using hl9
   obtain ⟨o9,ho9,hd9⟩:=(mem_ready.1 hi9).2
   cases ho9
   have e5:b5 = true:=hd9 ⟨5,.data⟩ (by simp) rfl
   subst e5
   have q5:=hR.f5 rfl
   obtain ⟨h9,q5m⟩:=q5
   subst h9
   have hc:=hR.hc
   refine wpOp_step rfl fun K hK=>?_
   go_simp
   exact hK _ _ ⟨⟨_,_,_,_,_,_,_,_,_,_,_,_,_,_,_,_,_,_,_,A5,N5,C5,A8,N8,C8,M8,E8,_,_⟩,rfl,rfl,{ hR with hc:=hc,f7:=(fun _=>rfl),g7_5:=(fun _=>rfl) }⟩
  ·obtain rfl:b8 = false:=by simpa using hl9
   obtain ⟨o9,ho9,hd9⟩:=(mem_ready.1 hi9).2
   cases ho9
   have e2:b2 = true:=hd9 ⟨2,.data⟩ (by simp) rfl
   have e6:b6 = true:=hd9 ⟨6,.data⟩ (by simp) rfl
   have e7:b7 = true:=hd9 ⟨7,.data⟩ (by simp) rfl
   subst e2 e6 e7
   have h9:=hR.f2 rfl
   subst h9
   obtain rfl:b5 = true:=hR.g6_5 rfl
   have q5:=hR.f5 rfl
   obtain ⟨h9,q5m⟩:=q5
   subst h9
   have h9:=hR.f6 rfl
   subst h9
   have h9:=hR.f7 rfl
   subst h9
   have hc:=hR.hc
   simp only [cond_false] at hc
   have HR:=hide hR
   clear hR
   refine wpOp_step rfl fun K hK=>?_
   go_simp
   go_wp2_with fail
   refine (W_rNat hc.st C5 (hc.st.ow _ q5m)).mono ?_
   rintro en w9 ⟨a9,n9,c9,m9,e9,rfl,hs9,hz,hz9⟩
   have hR:=unhide HR
   exact hK _ _ ⟨⟨_,_,_,_,_,_,_,_,_,_,_,_,_,_,_,_,_,_,_,A5,N5,C5,_,_,_,_,_,_,_⟩,rfl,rfl,{ hR with hc:=(hc.call hs9 hz9 (fun y hy=>List.mem_cons_of_mem _ hy)),f5:=(fun h=>⟨(hR.f5 h).1,List.mem_cons_of_mem _ (hR.f5 h).2⟩),f8:=(fun _=>⟨rfl,List.mem_cons_self ..,hz⟩),o0_1:=(fun h=>Bool.noConfusion (hR.g9_8 h)),g8_5:=(fun _=>rfl),g9_8:=(fun _=>rfl) }⟩
  ·obtain rfl:b9 = false:=by simpa using hl9
   obtain ⟨o9,ho9,hd9⟩:=(mem_ready.1 hi9).2
   cases ho9
   have e8:b8 = true:=hd9 ⟨8,.data⟩ (by simp) rfl
   subst e8
   have q8:=hR.f8 rfl
   obtain ⟨h9,q8m,q8z⟩:=q8
   subst h9
   have hc:=hR.hc
   have hm9:=hR.o0_0 rfl
   have fz9_0:=hc.st.frozen hm9 0
   have cz9_0:=hc.st.cellAt hm9 0 (.slice none 0 0) rfl
   simp only [] at fz9_0 cz9_0
   have hn9:∀ x,x∈([⟨w.heap.size+1,#[.slice a' n' cap'],27⟩,⟨w.heap.size,#[.slice a n cap],27⟩]:List En)→x.b≠w.heap.size+1+1:=by intro x hx; rcases List.mem_cons.1 hx with rfl|hx; (simp only []; omega); rcases List.mem_cons.1 hx with rfl|hx; (simp only []; omega);  exact absurd hx List.not_mem_nil
   have hw9:w.heap.size≤w.heap.size+1+1:=by omega
   refine wpOp_step rfl fun K hK=>?_
   go_simp
   exact hK _ _ ⟨⟨_,_,_,_,_,_,_,_,_,_,_,_,_,_,_,_,_,_,_,A5,N5,C5,A8,N8,C8,M8,E8,_,_⟩,rfl,rfl,{ hR with hc:=(hc.store hm9 hw9 hn9 0 (.slice A8 N8 C8) (by simp)),o0_0:=(fun h=>Bool.noConfusion h),o0_1:=(fun _=>List.mem_cons_self ..),g9_8:=(fun _=>rfl),g9_5:=(fun _=>hR.g8_5 rfl) }⟩
 ·rintro l act Wq1 ⟨⟨b0,b1,b2,b3,b4,b5,b6,b7,b8,b9,v0,v1,v2,v3,v4,v5,v6,v7,v8,x1_A5,x1_N5,x1_C5,x1_A8,x1_N8,x1_C8,x1_M8,x1_E8,bs9,os9⟩,rfl,rfl,hR⟩ hr9
  obtain ⟨hc,f0,f1,f2,f3,f4,f5,f6,f7,f8,o0_0,o0_1,g6_5,g7_5,g8_5,g9_8,g9_5⟩:=hR
  have eall:=all_done hr9 (by kernel_rfl) rfl
  obtain rfl:b0 = true:=eall 0 (by decide)
  obtain rfl:b1 = true:=eall 1 (by decide)
  obtain rfl:b2 = true:=eall 2 (by decide)
  obtain rfl:b3 = true:=eall 3 (by decide)
  obtain rfl:b4 = true:=eall 4 (by decide)
  obtain rfl:b5 = true:=eall 5 (by decide)
  obtain rfl:b6 = true:=eall 6 (by decide)
  obtain rfl:b7 = true:=eall 7 (by decide)
  obtain rfl:b8 = true:=eall 8 (by decide)
  obtain rfl:b9 = true:=eall 9 (by decide)
  clear hr9 eall
  have h9:=f0 rfl
  subst h9
  have h9:=f1 rfl
  subst h9
  have h9:=f2 rfl
  subst h9
  have h9:=f3 rfl
  subst h9
  have h9:=f4 rfl
  subst h9
  obtain ⟨h9,q5m⟩:=f5 rfl
  subst h9
  have h9:=f6 rfl
  subst h9
  have h9:=f7 rfl
  subst h9
  obtain ⟨h9,q8m,qx1_8⟩:=f8 rfl
  subst h9
  simp only [cond_true] at hc
  have hbs9:∀ x,x∈([⟨w.heap.size+1+1,#[.slice x1_A8 x1_N8 x1_C8],27⟩,⟨w.heap.size+1,#[.slice a' n' cap'],27⟩,⟨w.heap.size,#[.slice a n cap],27⟩]:List En)→x∈bs9:=by
   intro x hx
   rcases List.mem_cons.1 hx with rfl|hx
   ·exact (o0_1 rfl)
   rcases List.mem_cons.1 hx with rfl|hx
   ·exact (hc.old _ (by simp)).1
   rcases List.mem_cons.1 hx with rfl|hx
   ·exact (hc.old _ (by simp)).1
   exact absurd hx List.not_mem_nil
  have hos9:∀ x,x∈([(x1_A5,x1_N5,x1_C5,M),(x1_A8,x1_N8,x1_C8,x1_M8)]:Os)→x∈os9:=by
   intro x hx
   rcases List.mem_cons.1 hx with rfl|hx
   ·exact q5m
   rcases List.mem_cons.1 hx with rfl|hx
   ·exact q8m
   exact absurd hx List.not_mem_nil
  have hS:=hc.st.sub hbs9 (fun x hx=>hx) hos9
  have hsz9:=hc.sz
  rw [hS9z,hsW9] at hsz9
  clear hbs9 hos9 hc f0 f1 f2 f3 f4 f5 f6 f7 f8 o0_0 o0_1 g6_5 g7_5 g8_5 g9_8 g9_5
  clear q5m q8m
  have hz1:=hsz9
  clear hsz9 hS9z hS9 hC9 hsW9
  have Qx1_8:=hide qx1_8
  clear qx1_8
  obtain ⟨⟨k0_0,-⟩,z0⟩:=hS.cz ⟨w.heap.size+1+1,#[.slice x1_A8 x1_N8 x1_C8],27⟩ (by simp)
  have z0_0:=z0 0
  clear z0
  simp only [] at k0_0 z0_0
  go_wp2
  obtain ⟨rfl,rfl⟩:=unhide Qx1_8
  exact bodyPost_ret (v:=.agg #[.slice x1_A8 x1_N8 x1_C8]) (by simp [results,Tryz.results42,go_sem,k0_0]) rfl ⟨_,_,_,rfl,hS.ow (x1_A8,x1_N8,x1_C8,_) (by simp),hS.wk,hS.fr⟩
 ·simp
 ·exact ⟨⟨false,false,false,false,false,false,false,false,false,false,undef,undef,undef,undef,undef,undef,undef,undef,undef,none,0,0,none,0,0,0,0,_,_⟩,rfl,rfl,⟨hC9,nb,nb,nb,nb,nb,nb,nb,nb,nb,(fun _=>by simp),nb,nb,nb,nb,nb,nb⟩⟩
structure Wgcd1S where
 (b0 b1 b2 b3 b4 b5 b6 b7 b8 b9:Bool)
 (v0 v1 v2 v3 v4 v5 v6 v7 v8:Value)
 (A5:Option Addr)
 (N5 C5:Nat)
 (A8:Option Addr)
 (N8 C8:Nat)
 (M8:Nat)
 (E8:Int)
 bs9:List En
 os9:Os
structure Wgcd1R (w:World) (p:Nat) (e0:Int) (a a':Option Addr) (n n' cap cap' m m':Nat) (M:Nat) (er:Int) (S9:Nat) (b0 b1 b2 b3 b4 b5 b6 b7 b8 b9:Bool) (v0 v1 v2 v3 v4 v5 v6 v7 v8:Value) (A5:Option Addr) (N5 C5:Nat) (A8:Option Addr) (N8 C8:Nat) (M8:Nat) (E8:Int) (bs9:List En) (os9:Os) (w':World):Prop where
 hc:Rc w S9 [⟨w.heap.size+1,#[.slice a' n' cap'],27⟩,⟨w.heap.size,#[.slice a n cap],27⟩] [(a',n',m'),(a,n,m)] [] (some ((p),(cond b8 E8 e0))) bs9 os9 w'
 f0:b0 = true→v0 = .pointer (some ⟨p,0,none⟩)
 f1:b1 = true→v1 = .pointer (some ⟨p,0,none⟩)
 f2:b2 = true→v2 = .pointer (some ⟨p,0,none⟩)
 f3:b3 = true→v3 = .agg #[.slice a n cap]
 f4:b4 = true→v4 = .agg #[.slice a' n' cap']
 f5:b5 = true→v5 = .tuple #[.agg #[.slice A5 N5 C5],.int .i64 er]∧(A5,N5,C5,M)∈os9
 f6:b6 = true→v6 = .agg #[.slice A5 N5 C5]
 f7:b7 = true→v7 = .int .i64 er
 f8:b8 = true→v8 = .agg #[.slice A8 N8 C8]∧(A8,N8,C8,M8)∈os9∧(M8 = M∧E8 = Kp e0 er)
 o0_0:b9 = false→⟨w.heap.size+1+1,#[.slice none 0 0],27⟩∈bs9
 o0_1:b9 = true→⟨w.heap.size+1+1,#[.slice A8 N8 C8],27⟩∈bs9
 g6_5:b6 = true→b5 = true
 g7_5:b7 = true→b5 = true
 g8_5:b8 = true→b5 = true
 g9_8:b9 = true→b8 = true
 g9_5:b9 = true→b5 = true
def Wgcd1I (w:World) (p:Nat) (e0:Int) (a a':Option Addr) (n n' cap cap' m m':Nat) (M:Nat) (er:Int) (S9:Nat) (l:Array Bool) (act:Act) (w':World):Wgcd1S→Prop
 | ⟨b0,b1,b2,b3,b4,b5,b6,b7,b8,b9,v0,v1,v2,v3,v4,v5,v6,v7,v8,A5,N5,C5,A8,N8,C8,M8,E8,bs9,os9⟩=>l = #[b0,b1,b2,b3,b4,b5,b6,b7,b8,b9]∧act = { tmps:=#[.pointer (some ⟨p,0,none⟩),.agg #[.slice a n cap],.agg #[.slice a' n' cap'],undef,.pointer (some ⟨w.heap.size,0,none⟩),.pointer (some ⟨w.heap.size+1,0,none⟩),.pointer (some ⟨w.heap.size+1+1,0,none⟩),v0,v1,v2,v3,v4,v5,v6,v7,v8],defers:=[] }∧Wgcd1R w p e0 a a' n n' cap cap' m m' M er S9 b0 b1 b2 b3 b4 b5 b6 b7 b8 b9 v0 v1 v2 v3 v4 v5 v6 v7 v8 A5 N5 C5 A8 N8 C8 M8 E8 bs9 os9 w'
theorem wgcd_w (w:World) (p:Nat) (e0:Int) (a a':Option Addr) (n n' cap cap' m m':Nat) (M:Nat) (er:Int) (hk:Wk w p e0) (h:Num w a n m) (h':Num w a' n' m') (HC:Hid (∀ (W:World) (a:Option Addr) (n c:Nat) (a':Option Addr) (n' c':Nat),Num W a n m→Num W a' n' m'→Calls Tryz.prog 39 #[.agg #[.slice a n c],.agg #[.slice a' n' c']] W fun en W'=>(∃ a n c,en = .returned (.tuple #[.agg #[.slice a n c],.int .i64 er])∧Mine W' W.heap.size a n c M)∧Below W.heap.size W W')) :
  Calls Tryz.prog 29 #[.pointer (some ⟨p,0,none⟩),.agg #[.slice a n cap],.agg #[.slice a' n' cap']] w fun en w'=>∃ a n c,en = .returned (.agg #[.slice a n c])∧Mine w' w.heap.size a n c M∧Wk w' p (Kp e0 er)∧But p w w':=by
 have hS:=Rs.begin_work hk
 replace hS:=hS.num h
 replace hS:=hS.num h'
 replace hS:=hS.alloc #[.slice a n cap] 27
 try simp only [World.size_alloc] at hS
 replace hS:=hS.alloc #[.slice a' n' cap'] 27
 try simp only [World.size_alloc] at hS
 replace hS:=hS.alloc #[.slice none 0 0] 27
 try simp only [World.size_alloc] at hS
 go_enter Tryz.func29,Tryz.ntmps29
 go_wp2_with fail
 refine wp_region_any (by kernel_rfl) ?_
 change wpAny _ _ _ _ _ _ _ (World.drew _)
 have hS9:=hS.drew
 have hsW9:(World.drew (((w.alloc (.cells #[.slice a n cap] 27)).alloc (.cells #[.slice a' n' cap'] 27)).alloc (.cells #[.slice none 0 0] 27))).heap.size = w.heap.size+1+1+1:=by first|rfl|simp
 generalize World.drew (((w.alloc (.cells #[.slice a n cap] 27)).alloc (.cells #[.slice a' n' cap'] 27)).alloc (.cells #[.slice none 0 0] 27)) = Wd at hS9 hsW9 ⊢
 obtain ⟨S9,hS9z⟩:∃ x,x = Wd.heap.size:=⟨_,rfl⟩
 have hC9:=Rc.start (bs:=[⟨w.heap.size+1,#[.slice a' n' cap'],27⟩,⟨w.heap.size,#[.slice a n cap],27⟩]) hS9 (by simp)
 rw [← hS9z] at hC9
 have hP9_0:=hS9.bx ⟨w.heap.size+1+1,#[.slice none 0 0],27⟩ (by simp)
 have hP9_0:=block_lt hP9_0.1
 rw [← hS9z] at hP9_0
 simp only [] at hP9_0
 refine wpAny_inv (fun l act w'=>∃ σ,Wgcd1I w p e0 a a' n n' cap cap' m m' M er S9 l act w' σ) ?_ ?_ _ _ _ _ ?_ ?_
 ·intro l act w' i9 hI9 hi9 hl9
  have hin9:i9 < 10:=by
   by_cases h:i9 < 10
   ·exact h
   ·obtain ⟨⟨⟩,rfl,_⟩:=hI9
    rw [Array.getElem?_eq_none (by simp; omega)] at hl9; cases hl9
  have hcase:i9 = 0∨i9 = 1∨i9 = 2∨i9 = 3∨i9 = 4∨i9 = 5∨i9 = 6∨i9 = 7∨i9 = 8∨i9 = 9:=by omega
  clear hin9
  obtain ⟨⟨b0,b1,b2,b3,b4,b5,b6,b7,b8,b9,v0,v1,v2,v3,v4,v5,v6,v7,v8,A5,N5,C5,A8,N8,C8,M8,E8,bs9,os9⟩,rfl,rfl,hR⟩:=hI9
  rcases hcase with rfl|rfl|rfl|rfl|rfl|rfl|rfl|rfl|rfl|rfl
  ·obtain rfl:b0 = false:=by simpa using hl9
   have hc:=hR.hc
   refine wpOp_step rfl fun K hK=>?_
   go_simp
   exact hK _ _ ⟨⟨_,_,_,_,_,_,_,_,_,_,_,_,_,_,_,_,_,_,_,A5,N5,C5,A8,N8,C8,M8,E8,_,_⟩,rfl,rfl,{ hR with hc:=hc,f0:=(fun _=>rfl) }⟩
  ·obtain rfl:b1 = false:=by simpa using hl9
   obtain ⟨o9,ho9,hd9⟩:=(mem_ready.1 hi9).2
   cases ho9
   have e0:b0 = true:=hd9 ⟨0,.data⟩ (by simp) rfl
   subst e0
   have h9:=hR.f0 rfl
   subst h9
   have hc:=hR.hc
   refine wpOp_step rfl fun K hK=>?_
   go_simp
   exact hK _ _ ⟨⟨_,_,_,_,_,_,_,_,_,_,_,_,_,_,_,_,_,_,_,A5,N5,C5,A8,N8,C8,M8,E8,_,_⟩,rfl,rfl,{ hR with hc:=hc,f1:=(fun _=>rfl) }⟩
  ·obtain rfl:b2 = false:=by simpa using hl9
   obtain ⟨o9,ho9,hd9⟩:=(mem_ready.1 hi9).2
   cases ho9
   have e1:b1 = true:=hd9 ⟨1,.data⟩ (by simp) rfl
   subst e1
   have h9:=hR.f1 rfl
   subst h9
   have hc:=hR.hc
   refine wpOp_step rfl fun K hK=>?_
   go_simp
   exact hK _ _ ⟨⟨_,_,_,_,_,_,_,_,_,_,_,_,_,_,_,_,_,_,_,A5,N5,C5,A8,N8,C8,M8,E8,_,_⟩,rfl,rfl,{ hR with hc:=hc,f2:=(fun _=>rfl) }⟩
  ·obtain rfl:b3 = false:=by simpa using hl9
   have hc:=hR.hc
   have c9_0:=hc.st.cellAt (hc.old ⟨w.heap.size,#[.slice a n cap],27⟩ (by simp)).1 0 (.slice a n cap) rfl
   simp only [] at c9_0
   refine wpOp_step rfl fun K hK=>?_
   go_simp
   exact hK _ _ ⟨⟨_,_,_,_,_,_,_,_,_,_,_,_,_,_,_,_,_,_,_,A5,N5,C5,A8,N8,C8,M8,E8,_,_⟩,rfl,rfl,{ hR with hc:=hc,f3:=(fun _=>rfl) }⟩
  ·obtain rfl:b4 = false:=by simpa using hl9
   have hc:=hR.hc
   have c9_0:=hc.st.cellAt (hc.old ⟨w.heap.size+1,#[.slice a' n' cap'],27⟩ (by simp)).1 0 (.slice a' n' cap') rfl
   simp only [] at c9_0
   refine wpOp_step rfl fun K hK=>?_
   go_simp
   exact hK _ _ ⟨⟨_,_,_,_,_,_,_,_,_,_,_,_,_,_,_,_,_,_,_,A5,N5,C5,A8,N8,C8,M8,E8,_,_⟩,rfl,rfl,{ hR with hc:=hc,f4:=(fun _=>rfl) }⟩
  ·obtain rfl:b5 = false:=by simpa using hl9
   obtain ⟨o9,ho9,hd9⟩:=(mem_ready.1 hi9).2
   cases ho9
   have e3:b3 = true:=hd9 ⟨3,.data⟩ (by simp) rfl
   have e4:b4 = true:=hd9 ⟨4,.data⟩ (by simp) rfl
   subst e3 e4
   have h9:=hR.f3 rfl
   subst h9
   have h9:=hR.f4 rfl
   subst h9
   have hc:=hR.hc
   have HR:=hide hR
   clear hR
   refine wpOp_step rfl fun K hK=>?_
   go_simp
   go_wp2_with fail
   refine (W_oft hc.st (unhide HC _ _ _ _ _ _ _ (hc.st.nm (a,n,m) (by simp)) (hc.st.nm (a',n',m') (by simp)))).mono ?_
   rintro en w9 ⟨a9,n9,c9,rfl,hs9,hz9⟩
   have hR:=unhide HR
   exact hK _ _ ⟨⟨_,_,_,_,_,_,_,_,_,_,_,_,_,_,_,_,_,_,_,_,_,_,A8,N8,C8,M8,E8,_,_⟩,rfl,rfl,{ hR with hc:=(hc.call hs9 hz9 (fun y hy=>List.mem_cons_of_mem _ hy)),f5:=(fun _=>⟨rfl,List.mem_cons_self ..⟩),f6:=(fun h=>Bool.noConfusion (hR.g6_5 h)),f7:=(fun h=>Bool.noConfusion (hR.g7_5 h)),f8:=(fun h=>Bool.noConfusion (hR.g8_5 h)),o0_1:=(fun h=>Bool.noConfusion (hR.g9_5 h)),g6_5:=(fun _=>rfl),g7_5:=(fun _=>rfl),g8_5:=(fun _=>rfl),g9_5:=(fun _=>rfl) }⟩
  ·obtain rfl:b6 = false:=by simpa using hl9
   obtain ⟨o9,ho9,hd9⟩:=(mem_ready.1 hi9).2
   cases ho9
   have e5:b5 = true:=hd9 ⟨5,.data⟩ (by simp) rfl
   subst e5
   have q5:=hR.f5 rfl
   obtain ⟨h9,q5m⟩:=q5
   subst h9
   have hc:=hR.hc
   refine wpOp_step rfl fun K hK=>?_
   go_simp
   exact hK _ _ ⟨⟨_,_,_,_,_,_,_,_,_,_,_,_,_,_,_,_,_,_,_,A5,N5,C5,A8,N8,C8,M8,E8,_,_⟩,rfl,rfl,{ hR with hc:=hc,f6:=(fun _=>rfl),g6_5:=(fun _=>rfl) }⟩
  ·obtain rfl:b7 = false:=by simpa using hl9
   obtain ⟨o9,ho9,hd9⟩:=(mem_ready.1 hi9).2
   cases ho9
   have e5:b5 = true:=hd9 ⟨5,.data⟩ (by simp) rfl
   subst e5
   have q5:=hR.f5 rfl
   obtain ⟨h9,q5m⟩:=q5
   subst h9
   have hc:=hR.hc
   refine wpOp_step rfl fun K hK=>?_
   go_simp
   exact hK _ _ ⟨⟨_,_,_,_,_,_,_,_,_,_,_,_,_,_,_,_,_,_,_,A5,N5,C5,A8,N8,C8,M8,E8,_,_⟩,rfl,rfl,{ hR with hc:=hc,f7:=(fun _=>rfl),g7_5:=(fun _=>rfl) }⟩
  ·obtain rfl:b8 = false:=by simpa using hl9
   obtain ⟨o9,ho9,hd9⟩:=(mem_ready.1 hi9).2
   cases ho9
   have e2:b2 = true:=hd9 ⟨2,.data⟩ (by simp) rfl
   have e6:b6 = true:=hd9 ⟨6,.data⟩ (by simp) rfl
   have e7:b7 = true:=hd9 ⟨7,.data⟩ (by simp) rfl
   subst e2 e6 e7
   have h9:=hR.f2 rfl
   subst h9
   obtain rfl:b5 = true:=hR.g6_5 rfl
   have q5:=hR.f5 rfl
   obtain ⟨h9,q5m⟩:=q5
   subst h9
   have h9:=hR.f6 rfl
   subst h9
   have h9:=hR.f7 rfl
   subst h9
   have hc:=hR.hc
   simp only [cond_false] at hc
   have HR:=hide hR
   clear hR
   refine wpOp_step rfl fun K hK=>?_
   go_simp
   go_wp2_with fail
   refine (W_rNat hc.st C5 (hc.st.ow _ q5m)).mono ?_
   rintro en w9 ⟨a9,n9,c9,m9,e9,rfl,hs9,hz,hz9⟩
   have hR:=unhide HR
   exact hK _ _ ⟨⟨_,_,_,_,_,_,_,_,_,_,_,_,_,_,_,_,_,_,_,A5,N5,C5,_,_,_,_,_,_,_⟩,rfl,rfl,{ hR with hc:=(hc.call hs9 hz9 (fun y hy=>List.mem_cons_of_mem _ hy)),f5:=(fun h=>⟨(hR.f5 h).1,List.mem_cons_of_mem _ (hR.f5 h).2⟩),f8:=(fun _=>⟨rfl,List.mem_cons_self ..,hz⟩),o0_1:=(fun h=>Bool.noConfusion (hR.g9_8 h)),g8_5:=(fun _=>rfl),g9_8:=(fun _=>rfl) }⟩
  ·obtain rfl:b9 = false:=by simpa using hl9
   obtain ⟨o9,ho9,hd9⟩:=(mem_ready.1 hi9).2
   cases ho9
   have e8:b8 = true:=hd9 ⟨8,.data⟩ (by simp) rfl
   subst e8
   have q8:=hR.f8 rfl
   obtain ⟨h9,q8m,q8z⟩:=q8
   subst h9
   have hc:=hR.hc
   have hm9:=hR.o0_0 rfl
   have fz9_0:=hc.st.frozen hm9 0
   have cz9_0:=hc.st.cellAt hm9 0 (.slice none 0 0) rfl
   simp only [] at fz9_0 cz9_0
   have hn9:∀ x,x∈([⟨w.heap.size+1,#[.slice a' n' cap'],27⟩,⟨w.heap.size,#[.slice a n cap],27⟩]:List En)→x.b≠w.heap.size+1+1:=by intro x hx; rcases List.mem_cons.1 hx with rfl|hx; (simp only []; omega); rcases List.mem_cons.1 hx with rfl|hx; (simp only []; omega);  exact absurd hx List.not_mem_nil
   have hw9:w.heap.size≤w.heap.size+1+1:=by omega
   refine wpOp_step rfl fun K hK=>?_
   go_simp
   exact hK _ _ ⟨⟨_,_,_,_,_,_,_,_,_,_,_,_,_,_,_,_,_,_,_,A5,N5,C5,A8,N8,C8,M8,E8,_,_⟩,rfl,rfl,{ hR with hc:=(hc.store hm9 hw9 hn9 0 (.slice A8 N8 C8) (by simp)),o0_0:=(fun h=>Bool.noConfusion h),o0_1:=(fun _=>List.mem_cons_self ..),g9_8:=(fun _=>rfl),g9_5:=(fun _=>hR.g8_5 rfl) }⟩
 ·rintro l act Wq1 ⟨⟨b0,b1,b2,b3,b4,b5,b6,b7,b8,b9,v0,v1,v2,v3,v4,v5,v6,v7,v8,x1_A5,x1_N5,x1_C5,x1_A8,x1_N8,x1_C8,x1_M8,x1_E8,bs9,os9⟩,rfl,rfl,hR⟩ hr9
  obtain ⟨hc,f0,f1,f2,f3,f4,f5,f6,f7,f8,o0_0,o0_1,g6_5,g7_5,g8_5,g9_8,g9_5⟩:=hR
  have eall:=all_done hr9 (by kernel_rfl) rfl
  obtain rfl:b0 = true:=eall 0 (by decide)
  obtain rfl:b1 = true:=eall 1 (by decide)
  obtain rfl:b2 = true:=eall 2 (by decide)
  obtain rfl:b3 = true:=eall 3 (by decide)
  obtain rfl:b4 = true:=eall 4 (by decide)
  obtain rfl:b5 = true:=eall 5 (by decide)
  obtain rfl:b6 = true:=eall 6 (by decide)
  obtain rfl:b7 = true:=eall 7 (by decide)
  obtain rfl:b8 = true:=eall 8 (by decide)
  obtain rfl:b9 = true:=eall 9 (by decide)
  clear hr9 eall
  have h9:=f0 rfl
  subst h9
  have h9:=f1 rfl
  subst h9
  have h9:=f2 rfl
  subst h9
  have h9:=f3 rfl
  subst h9
  have h9:=f4 rfl
  subst h9
  obtain ⟨h9,q5m⟩:=f5 rfl
  subst h9
  have h9:=f6 rfl
  subst h9
  have h9:=f7 rfl
  subst h9
  obtain ⟨h9,q8m,qx1_8⟩:=f8 rfl
  subst h9
  simp only [cond_true] at hc
  have hbs9:∀ x,x∈([⟨w.heap.size+1+1,#[.slice x1_A8 x1_N8 x1_C8],27⟩,⟨w.heap.size+1,#[.slice a' n' cap'],27⟩,⟨w.heap.size,#[.slice a n cap],27⟩]:List En)→x∈bs9:=by
   intro x hx
   rcases List.mem_cons.1 hx with rfl|hx
   ·exact (o0_1 rfl)
   rcases List.mem_cons.1 hx with rfl|hx
   ·exact (hc.old _ (by simp)).1
   rcases List.mem_cons.1 hx with rfl|hx
   ·exact (hc.old _ (by simp)).1
   exact absurd hx List.not_mem_nil
  have hos9:∀ x,x∈([(x1_A5,x1_N5,x1_C5,M),(x1_A8,x1_N8,x1_C8,x1_M8)]:Os)→x∈os9:=by
   intro x hx
   rcases List.mem_cons.1 hx with rfl|hx
   ·exact q5m
   rcases List.mem_cons.1 hx with rfl|hx
   ·exact q8m
   exact absurd hx List.not_mem_nil
  have hS:=hc.st.sub hbs9 (fun x hx=>hx) hos9
  have hsz9:=hc.sz
  rw [hS9z,hsW9] at hsz9
  clear hbs9 hos9 hc f0 f1 f2 f3 f4 f5 f6 f7 f8 o0_0 o0_1 g6_5 g7_5 g8_5 g9_8 g9_5
  clear q5m q8m
  have hz1:=hsz9
  clear hsz9 hS9z hS9 hC9 hsW9
  have Qx1_8:=hide qx1_8
  clear qx1_8
  obtain ⟨⟨k0_0,-⟩,z0⟩:=hS.cz ⟨w.heap.size+1+1,#[.slice x1_A8 x1_N8 x1_C8],27⟩ (by simp)
  have z0_0:=z0 0
  clear z0
  simp only [] at k0_0 z0_0
  go_wp2
  obtain ⟨rfl,rfl⟩:=unhide Qx1_8
  exact bodyPost_ret (v:=.agg #[.slice x1_A8 x1_N8 x1_C8]) (by simp [results,Tryz.results29,go_sem,k0_0]) rfl ⟨_,_,_,rfl,hS.ow (x1_A8,x1_N8,x1_C8,_) (by simp),hS.wk,hS.fr⟩
 ·simp
 ·exact ⟨⟨false,false,false,false,false,false,false,false,false,false,undef,undef,undef,undef,undef,undef,undef,undef,undef,none,0,0,none,0,0,0,0,_,_⟩,rfl,rfl,⟨hC9,nb,nb,nb,nb,nb,nb,nb,nb,nb,(fun _=>by simp),nb,nb,nb,nb,nb,nb⟩⟩
structure Wsub1S where
 (b0 b1 b2 b3 b4 b5 b6 b7 b8 b9 b10:Bool)
 (v0 v1 v2 v3 v4 v5 v6 v7 v8 v9:Value)
 (A5:Option Addr)
 (N5 C5:Nat)
 (A9:Option Addr)
 (N9 C9:Nat)
 (M9:Nat)
 (E9:Int)
 bs9:List En
 os9:Os
structure Wsub1R (w:World) (p:Nat) (e0:Int) (a a':Option Addr) (n n' cap cap' m m':Nat) (M:Nat) (z:Bool) (S9:Nat) (b0 b1 b2 b3 b4 b5 b6 b7 b8 b9 b10:Bool) (v0 v1 v2 v3 v4 v5 v6 v7 v8 v9:Value) (A5:Option Addr) (N5 C5:Nat) (A9:Option Addr) (N9 C9:Nat) (M9:Nat) (E9:Int) (bs9:List En) (os9:Os) (w':World):Prop where
 hc:Rc w S9 [⟨w.heap.size+1,#[.slice a' n' cap'],27⟩,⟨w.heap.size,#[.slice a n cap],27⟩] [(a',n',m'),(a,n,m)] [] (some ((p),(cond b9 E9 e0))) bs9 os9 w'
 f0:b0 = true→v0 = .pointer (some ⟨p,0,none⟩)
 f1:b1 = true→v1 = .pointer (some ⟨p,0,none⟩)
 f2:b2 = true→v2 = .pointer (some ⟨p,0,none⟩)
 f3:b3 = true→v3 = .agg #[.slice a n cap]
 f4:b4 = true→v4 = .agg #[.slice a' n' cap']
 f5:b5 = true→v5 = .tuple #[.agg #[.slice A5 N5 C5],.bool z,.int .i64 0]∧(A5,N5,C5,M)∈os9
 f6:b6 = true→v6 = .agg #[.slice A5 N5 C5]
 f7:b7 = true→v7 = .bool z
 f8:b8 = true→v8 = .int .i64 0
 f9:b9 = true→v9 = .agg #[.slice A9 N9 C9]∧(A9,N9,C9,M9)∈os9∧(M9 = M∧E9 = Kp e0 0)
 o0_0:b10 = false→⟨w.heap.size+1+1,#[.slice none 0 0],27⟩∈bs9
 o0_1:b10 = true→⟨w.heap.size+1+1,#[.slice A9 N9 C9],27⟩∈bs9
 g6_5:b6 = true→b5 = true
 g7_5:b7 = true→b5 = true
 g8_5:b8 = true→b5 = true
 g9_5:b9 = true→b5 = true
 g10_9:b10 = true→b9 = true
 g10_5:b10 = true→b5 = true
def Wsub1I (w:World) (p:Nat) (e0:Int) (a a':Option Addr) (n n' cap cap' m m':Nat) (M:Nat) (z:Bool) (S9:Nat) (l:Array Bool) (act:Act) (w':World):Wsub1S→Prop
 | ⟨b0,b1,b2,b3,b4,b5,b6,b7,b8,b9,b10,v0,v1,v2,v3,v4,v5,v6,v7,v8,v9,A5,N5,C5,A9,N9,C9,M9,E9,bs9,os9⟩=>l = #[b0,b1,b2,b3,b4,b5,b6,b7,b8,b9,b10]∧act = { tmps:=#[.pointer (some ⟨p,0,none⟩),.agg #[.slice a n cap],.agg #[.slice a' n' cap'],undef,.pointer (some ⟨w.heap.size,0,none⟩),.pointer (some ⟨w.heap.size+1,0,none⟩),.pointer (some ⟨w.heap.size+1+1,0,none⟩),v0,v1,v2,v3,v4,v5,v6,v7,v8,v9],defers:=[] }∧Wsub1R w p e0 a a' n n' cap cap' m m' M z S9 b0 b1 b2 b3 b4 b5 b6 b7 b8 b9 b10 v0 v1 v2 v3 v4 v5 v6 v7 v8 v9 A5 N5 C5 A9 N9 C9 M9 E9 bs9 os9 w'
theorem wsub_w (w:World) (p:Nat) (e0:Int) (a a':Option Addr) (n n' cap cap' m m':Nat) (M:Nat) (z:Bool) (hk:Wk w p e0) (h:Num w a n m) (h':Num w a' n' m') (HC:Hid (∀ (W:World) (a:Option Addr) (n c:Nat) (a':Option Addr) (n' c':Nat),Num W a n m→Num W a' n' m'→Calls Tryz.prog 91 #[.agg #[.slice a n c],.agg #[.slice a' n' c']] W fun en W'=>(∃ a n c,en = .returned (.tuple #[.agg #[.slice a n c],.bool z,.int .i64 0])∧Mine W' W.heap.size a n c M)∧Below W.heap.size W W')) :
  Calls Tryz.prog 74 #[.pointer (some ⟨p,0,none⟩),.agg #[.slice a n cap],.agg #[.slice a' n' cap']] w fun en w'=>∃ a n c,en = .returned (.agg #[.slice a n c])∧Mine w' w.heap.size a n c M∧Wk w' p (Kp e0 0)∧But p w w':=by
 have hS:=Rs.begin_work hk
 replace hS:=hS.num h
 replace hS:=hS.num h'
 replace hS:=hS.alloc #[.slice a n cap] 27
 try simp only [World.size_alloc] at hS
 replace hS:=hS.alloc #[.slice a' n' cap'] 27
 try simp only [World.size_alloc] at hS
 replace hS:=hS.alloc #[.slice none 0 0] 27
 try simp only [World.size_alloc] at hS
 go_enter Tryz.func74,Tryz.ntmps74
 go_wp2_with fail
 refine wp_region_any (by kernel_rfl) ?_
 change wpAny _ _ _ _ _ _ _ (World.drew _)
 have hS9:=hS.drew
 have hsW9:(World.drew (((w.alloc (.cells #[.slice a n cap] 27)).alloc (.cells #[.slice a' n' cap'] 27)).alloc (.cells #[.slice none 0 0] 27))).heap.size = w.heap.size+1+1+1:=by first|rfl|simp
 generalize World.drew (((w.alloc (.cells #[.slice a n cap] 27)).alloc (.cells #[.slice a' n' cap'] 27)).alloc (.cells #[.slice none 0 0] 27)) = Wd at hS9 hsW9 ⊢
 obtain ⟨S9,hS9z⟩:∃ x,x = Wd.heap.size:=⟨_,rfl⟩
 have hC9:=Rc.start (bs:=[⟨w.heap.size+1,#[.slice a' n' cap'],27⟩,⟨w.heap.size,#[.slice a n cap],27⟩]) hS9 (by simp)
 rw [← hS9z] at hC9
 have hP9_0:=hS9.bx ⟨w.heap.size+1+1,#[.slice none 0 0],27⟩ (by simp)
 have hP9_0:=block_lt hP9_0.1
 rw [← hS9z] at hP9_0
 simp only [] at hP9_0
 refine wpAny_inv (fun l act w'=>∃ σ,Wsub1I w p e0 a a' n n' cap cap' m m' M z S9 l act w' σ) ?_ ?_ _ _ _ _ ?_ ?_
 ·intro l act w' i9 hI9 hi9 hl9
  have hin9:i9 < 11:=by
   by_cases h:i9 < 11
   ·exact h
   ·obtain ⟨⟨⟩,rfl,_⟩:=hI9
    rw [Array.getElem?_eq_none (by simp; omega)] at hl9; cases hl9
  have hcase:i9 = 0∨i9 = 1∨i9 = 2∨i9 = 3∨i9 = 4∨i9 = 5∨i9 = 6∨i9 = 7∨i9 = 8∨i9 = 9∨i9 = 10:=by omega
  clear hin9
  obtain ⟨⟨b0,b1,b2,b3,b4,b5,b6,b7,b8,b9,b10,v0,v1,v2,v3,v4,v5,v6,v7,v8,v9,A5,N5,C5,A9,N9,C9,M9,E9,bs9,os9⟩,rfl,rfl,hR⟩:=hI9
  rcases hcase with rfl|rfl|rfl|rfl|rfl|rfl|rfl|rfl|rfl|rfl|rfl
  ·obtain rfl:b0 = false:=by simpa using hl9
   have hc:=hR.hc
   refine wpOp_step rfl fun K hK=>?_
   go_simp
   exact hK _ _ ⟨⟨_,_,_,_,_,_,_,_,_,_,_,_,_,_,_,_,_,_,_,_,_,A5,N5,C5,A9,N9,C9,M9,E9,_,_⟩,rfl,rfl,{ hR with hc:=hc,f0:=(fun _=>rfl) }⟩
  ·obtain rfl:b1 = false:=by simpa using hl9
   obtain ⟨o9,ho9,hd9⟩:=(mem_ready.1 hi9).2
   cases ho9
   have e0:b0 = true:=hd9 ⟨0,.data⟩ (by simp) rfl
   subst e0
   have h9:=hR.f0 rfl
   subst h9
   have hc:=hR.hc
   refine wpOp_step rfl fun K hK=>?_
   go_simp
   exact hK _ _ ⟨⟨_,_,_,_,_,_,_,_,_,_,_,_,_,_,_,_,_,_,_,_,_,A5,N5,C5,A9,N9,C9,M9,E9,_,_⟩,rfl,rfl,{ hR with hc:=hc,f1:=(fun _=>rfl) }⟩
  ·obtain rfl:b2 = false:=by simpa using hl9
   obtain ⟨o9,ho9,hd9⟩:=(mem_ready.1 hi9).2
   cases ho9
   have e1:b1 = true:=hd9 ⟨1,.data⟩ (by simp) rfl
   subst e1
   have h9:=hR.f1 rfl
   subst h9
   have hc:=hR.hc
   refine wpOp_step rfl fun K hK=>?_
   go_simp
   exact hK _ _ ⟨⟨_,_,_,_,_,_,_,_,_,_,_,_,_,_,_,_,_,_,_,_,_,A5,N5,C5,A9,N9,C9,M9,E9,_,_⟩,rfl,rfl,{ hR with hc:=hc,f2:=(fun _=>rfl) }⟩
  ·obtain rfl:b3 = false:=by simpa using hl9
   have hc:=hR.hc
   have c9_0:=hc.st.cellAt (hc.old ⟨w.heap.size,#[.slice a n cap],27⟩ (by simp)).1 0 (.slice a n cap) rfl
   simp only [] at c9_0
   refine wpOp_step rfl fun K hK=>?_
   go_simp
   exact hK _ _ ⟨⟨_,_,_,_,_,_,_,_,_,_,_,_,_,_,_,_,_,_,_,_,_,A5,N5,C5,A9,N9,C9,M9,E9,_,_⟩,rfl,rfl,{ hR with hc:=hc,f3:=(fun _=>rfl) }⟩
  ·obtain rfl:b4 = false:=by simpa using hl9
   have hc:=hR.hc
   have c9_0:=hc.st.cellAt (hc.old ⟨w.heap.size+1,#[.slice a' n' cap'],27⟩ (by simp)).1 0 (.slice a' n' cap') rfl
   simp only [] at c9_0
   refine wpOp_step rfl fun K hK=>?_
   go_simp
   exact hK _ _ ⟨⟨_,_,_,_,_,_,_,_,_,_,_,_,_,_,_,_,_,_,_,_,_,A5,N5,C5,A9,N9,C9,M9,E9,_,_⟩,rfl,rfl,{ hR with hc:=hc,f4:=(fun _=>rfl) }⟩
  ·obtain rfl:b5 = false:=by simpa using hl9
   obtain ⟨o9,ho9,hd9⟩:=(mem_ready.1 hi9).2
   cases ho9
   have e3:b3 = true:=hd9 ⟨3,.data⟩ (by simp) rfl
   have e4:b4 = true:=hd9 ⟨4,.data⟩ (by simp) rfl
   subst e3 e4
   have h9:=hR.f3 rfl
   subst h9
   have h9:=hR.f4 rfl
   subst h9
   have hc:=hR.hc
   have HR:=hide hR
   clear hR
   refine wpOp_step rfl fun K hK=>?_
   go_simp
   go_wp2_with fail
   refine (W_oft hc.st (unhide HC _ _ _ _ _ _ _ (hc.st.nm (a,n,m) (by simp)) (hc.st.nm (a',n',m') (by simp)))).mono ?_
   rintro en w9 ⟨a9,n9,c9,rfl,hs9,hz9⟩
   have hR:=unhide HR
   exact hK _ _ ⟨⟨_,_,_,_,_,_,_,_,_,_,_,_,_,_,_,_,_,_,_,_,_,_,_,_,A9,N9,C9,M9,E9,_,_⟩,rfl,rfl,{ hR with hc:=(hc.call hs9 hz9 (fun y hy=>List.mem_cons_of_mem _ hy)),f5:=(fun _=>⟨rfl,List.mem_cons_self ..⟩),f6:=(fun h=>Bool.noConfusion (hR.g6_5 h)),f7:=(fun h=>Bool.noConfusion (hR.g7_5 h)),f8:=(fun h=>Bool.noConfusion (hR.g8_5 h)),f9:=(fun h=>Bool.noConfusion (hR.g9_5 h)),o0_1:=(fun h=>Bool.noConfusion (hR.g10_5 h)),g6_5:=(fun _=>rfl),g7_5:=(fun _=>rfl),g8_5:=(fun _=>rfl),g9_5:=(fun _=>rfl),g10_5:=(fun _=>rfl) }⟩
  ·obtain rfl:b6 = false:=by simpa using hl9
   obtain ⟨o9,ho9,hd9⟩:=(mem_ready.1 hi9).2
   cases ho9
   have e5:b5 = true:=hd9 ⟨5,.data⟩ (by simp) rfl
   subst e5
   have q5:=hR.f5 rfl
   obtain ⟨h9,q5m⟩:=q5
   subst h9
   have hc:=hR.hc
   refine wpOp_step rfl fun K hK=>?_
   go_simp
   exact hK _ _ ⟨⟨_,_,_,_,_,_,_,_,_,_,_,_,_,_,_,_,_,_,_,_,_,A5,N5,C5,A9,N9,C9,M9,E9,_,_⟩,rfl,rfl,{ hR with hc:=hc,f6:=(fun _=>rfl),g6_5:=(fun _=>rfl) }⟩
  ·obtain rfl:b7 = false:=by simpa using hl9
   obtain ⟨o9,ho9,hd9⟩:=(mem_ready.1 hi9).2
   cases ho9
   have e5:b5 = true:=hd9 ⟨5,.data⟩ (by simp) rfl
   subst e5
   have q5:=hR.f5 rfl
   obtain ⟨h9,q5m⟩:=q5
   subst h9
   have hc:=hR.hc
   refine wpOp_step rfl fun K hK=>?_
   go_simp
   exact hK _ _ ⟨⟨_,_,_,_,_,_,_,_,_,_,_,_,_,_,_,_,_,_,_,_,_,A5,N5,C5,A9,N9,C9,M9,E9,_,_⟩,rfl,rfl,{ hR with hc:=hc,f7:=(fun _=>rfl),g7_5:=(fun _=>rfl) }⟩
  ·obtain rfl:b8 = false:=by simpa using hl9
   obtain ⟨o9,ho9,hd9⟩:=(mem_ready.1 hi9).2
   cases ho9
   have e5:b5 = true:=hd9 ⟨5,.data⟩ (by simp) rfl
   subst e5
   have q5:=hR.f5 rfl
   obtain ⟨h9,q5m⟩:=q5
   subst h9
   have hc:=hR.hc
   refine wpOp_step rfl fun K hK=>?_
   go_simp
   exact hK _ _ ⟨⟨_,_,_,_,_,_,_,_,_,_,_,_,_,_,_,_,_,_,_,_,_,A5,N5,C5,A9,N9,C9,M9,E9,_,_⟩,rfl,rfl,{ hR with hc:=hc,f8:=(fun _=>rfl),g8_5:=(fun _=>rfl) }⟩
  ·obtain rfl:b9 = false:=by simpa using hl9
   obtain ⟨o9,ho9,hd9⟩:=(mem_ready.1 hi9).2
   cases ho9
   have e2:b2 = true:=hd9 ⟨2,.data⟩ (by simp) rfl
   have e6:b6 = true:=hd9 ⟨6,.data⟩ (by simp) rfl
   have e7:b7 = true:=hd9 ⟨7,.data⟩ (by simp) rfl
   have e8:b8 = true:=hd9 ⟨8,.data⟩ (by simp) rfl
   subst e2 e6 e7 e8
   have h9:=hR.f2 rfl
   subst h9
   obtain rfl:b5 = true:=hR.g6_5 rfl
   have q5:=hR.f5 rfl
   obtain ⟨h9,q5m⟩:=q5
   subst h9
   have h9:=hR.f6 rfl
   subst h9
   have h9:=hR.f7 rfl
   subst h9
   have h9:=hR.f8 rfl
   subst h9
   have hc:=hR.hc
   simp only [cond_false] at hc
   have HR:=hide hR
   clear hR
   refine wpOp_step rfl fun K hK=>?_
   go_simp
   go_wp2_with fail
   refine (W_rLess hc.st C5 (hc.st.ow _ q5m)).mono ?_
   rintro en w9 ⟨a9,n9,c9,m9,e9,rfl,hs9,hz,hz9⟩
   have hR:=unhide HR
   exact hK _ _ ⟨⟨_,_,_,_,_,_,_,_,_,_,_,_,_,_,_,_,_,_,_,_,_,A5,N5,C5,_,_,_,_,_,_,_⟩,rfl,rfl,{ hR with hc:=(hc.call hs9 hz9 (fun y hy=>List.mem_cons_of_mem _ hy)),f5:=(fun h=>⟨(hR.f5 h).1,List.mem_cons_of_mem _ (hR.f5 h).2⟩),f9:=(fun _=>⟨rfl,List.mem_cons_self ..,hz⟩),o0_1:=(fun h=>Bool.noConfusion (hR.g10_9 h)),g9_5:=(fun _=>rfl),g10_9:=(fun _=>rfl) }⟩
  ·obtain rfl:b10 = false:=by simpa using hl9
   obtain ⟨o9,ho9,hd9⟩:=(mem_ready.1 hi9).2
   cases ho9
   have e9:b9 = true:=hd9 ⟨9,.data⟩ (by simp) rfl
   subst e9
   have q9:=hR.f9 rfl
   obtain ⟨h9,q9m,q9z⟩:=q9
   subst h9
   have hc:=hR.hc
   have hm9:=hR.o0_0 rfl
   have fz9_0:=hc.st.frozen hm9 0
   have cz9_0:=hc.st.cellAt hm9 0 (.slice none 0 0) rfl
   simp only [] at fz9_0 cz9_0
   have hn9:∀ x,x∈([⟨w.heap.size+1,#[.slice a' n' cap'],27⟩,⟨w.heap.size,#[.slice a n cap],27⟩]:List En)→x.b≠w.heap.size+1+1:=by intro x hx; rcases List.mem_cons.1 hx with rfl|hx; (simp only []; omega); rcases List.mem_cons.1 hx with rfl|hx; (simp only []; omega);  exact absurd hx List.not_mem_nil
   have hw9:w.heap.size≤w.heap.size+1+1:=by omega
   refine wpOp_step rfl fun K hK=>?_
   go_simp
   exact hK _ _ ⟨⟨_,_,_,_,_,_,_,_,_,_,_,_,_,_,_,_,_,_,_,_,_,A5,N5,C5,A9,N9,C9,M9,E9,_,_⟩,rfl,rfl,{ hR with hc:=(hc.store hm9 hw9 hn9 0 (.slice A9 N9 C9) (by simp)),o0_0:=(fun h=>Bool.noConfusion h),o0_1:=(fun _=>List.mem_cons_self ..),g10_9:=(fun _=>rfl),g10_5:=(fun _=>hR.g9_5 rfl) }⟩
 ·rintro l act Wq1 ⟨⟨b0,b1,b2,b3,b4,b5,b6,b7,b8,b9,b10,v0,v1,v2,v3,v4,v5,v6,v7,v8,v9,x1_A5,x1_N5,x1_C5,x1_A9,x1_N9,x1_C9,x1_M9,x1_E9,bs9,os9⟩,rfl,rfl,hR⟩ hr9
  obtain ⟨hc,f0,f1,f2,f3,f4,f5,f6,f7,f8,f9,o0_0,o0_1,g6_5,g7_5,g8_5,g9_5,g10_9,g10_5⟩:=hR
  have eall:=all_done hr9 (by kernel_rfl) rfl
  obtain rfl:b0 = true:=eall 0 (by decide)
  obtain rfl:b1 = true:=eall 1 (by decide)
  obtain rfl:b2 = true:=eall 2 (by decide)
  obtain rfl:b3 = true:=eall 3 (by decide)
  obtain rfl:b4 = true:=eall 4 (by decide)
  obtain rfl:b5 = true:=eall 5 (by decide)
  obtain rfl:b6 = true:=eall 6 (by decide)
  obtain rfl:b7 = true:=eall 7 (by decide)
  obtain rfl:b8 = true:=eall 8 (by decide)
  obtain rfl:b9 = true:=eall 9 (by decide)
  obtain rfl:b10 = true:=eall 10 (by decide)
  clear hr9 eall
  have h9:=f0 rfl
  subst h9
  have h9:=f1 rfl
  subst h9
  have h9:=f2 rfl
  subst h9
  have h9:=f3 rfl
  subst h9
  have h9:=f4 rfl
  subst h9
  obtain ⟨h9,q5m⟩:=f5 rfl
  subst h9
  have h9:=f6 rfl
  subst h9
  have h9:=f7 rfl
  subst h9
  have h9:=f8 rfl
  subst h9
  obtain ⟨h9,q9m,qx1_9⟩:=f9 rfl
  subst h9
  simp only [cond_true] at hc
  have hbs9:∀ x,x∈([⟨w.heap.size+1+1,#[.slice x1_A9 x1_N9 x1_C9],27⟩,⟨w.heap.size+1,#[.slice a' n' cap'],27⟩,⟨w.heap.size,#[.slice a n cap],27⟩]:List En)→x∈bs9:=by
   intro x hx
   rcases List.mem_cons.1 hx with rfl|hx
   ·exact (o0_1 rfl)
   rcases List.mem_cons.1 hx with rfl|hx
   ·exact (hc.old _ (by simp)).1
   rcases List.mem_cons.1 hx with rfl|hx
   ·exact (hc.old _ (by simp)).1
   exact absurd hx List.not_mem_nil
  have hos9:∀ x,x∈([(x1_A5,x1_N5,x1_C5,M),(x1_A9,x1_N9,x1_C9,x1_M9)]:Os)→x∈os9:=by
   intro x hx
   rcases List.mem_cons.1 hx with rfl|hx
   ·exact q5m
   rcases List.mem_cons.1 hx with rfl|hx
   ·exact q9m
   exact absurd hx List.not_mem_nil
  have hS:=hc.st.sub hbs9 (fun x hx=>hx) hos9
  have hsz9:=hc.sz
  rw [hS9z,hsW9] at hsz9
  clear hbs9 hos9 hc f0 f1 f2 f3 f4 f5 f6 f7 f8 f9 o0_0 o0_1 g6_5 g7_5 g8_5 g9_5 g10_9 g10_5
  clear q5m q9m
  have hz1:=hsz9
  clear hsz9 hS9z hS9 hC9 hsW9
  have Qx1_9:=hide qx1_9
  clear qx1_9
  obtain ⟨⟨k0_0,-⟩,z0⟩:=hS.cz ⟨w.heap.size+1+1,#[.slice x1_A9 x1_N9 x1_C9],27⟩ (by simp)
  have z0_0:=z0 0
  clear z0
  simp only [] at k0_0 z0_0
  go_wp2
  obtain ⟨rfl,rfl⟩:=unhide Qx1_9
  exact bodyPost_ret (v:=.agg #[.slice x1_A9 x1_N9 x1_C9]) (by simp [results,Tryz.results74,go_sem,k0_0]) rfl ⟨_,_,_,rfl,hS.ow (x1_A9,x1_N9,x1_C9,_) (by simp),hS.wk,hS.fr⟩
 ·simp
 ·exact ⟨⟨false,false,false,false,false,false,false,false,false,false,false,undef,undef,undef,undef,undef,undef,undef,undef,undef,undef,none,0,0,none,0,0,0,0,_,_⟩,rfl,rfl,⟨hC9,nb,nb,nb,nb,nb,nb,nb,nb,nb,nb,(fun _=>by simp),nb,nb,nb,nb,nb,nb,nb⟩⟩
structure Wdiv1S where
 (b0 b1 b2 b3 b4 b5 b6 b7 b8 b9 b10 b11 b12 b13:Bool)
 (v0 v1 v2 v3 v4 v5 v6 v7 v8 v9 v10 v11:Value)
 (A5:Option Addr)
 (N5 C5:Nat)
 (P5:Option Addr) (Q5 R5:Nat)
 (A9:Option Addr)
 (N9 C9:Nat)
 (M9:Nat)
 (P9:Option Addr) (Q9 R9 L9:Nat)
 (E9:Int)
 bs9:List En
 os9:Os
structure Wdiv1R (w:World) (p:Nat) (e0:Int) (a a':Option Addr) (n n' cap cap' m m':Nat) (M L:Nat) (er:Int) (S9:Nat) (b0 b1 b2 b3 b4 b5 b6 b7 b8 b9 b10 b11 b12 b13:Bool) (v0 v1 v2 v3 v4 v5 v6 v7 v8 v9 v10 v11:Value) (A5:Option Addr) (N5 C5:Nat) (P5:Option Addr) (Q5 R5:Nat) (A9:Option Addr) (N9 C9:Nat) (M9:Nat) (P9:Option Addr) (Q9 R9 L9:Nat) (E9:Int) (bs9:List En) (os9:Os) (w':World):Prop where
 hc:Rc w S9 [⟨w.heap.size+1,#[.slice a' n' cap'],27⟩,⟨w.heap.size,#[.slice a n cap],27⟩] [(a',n',m'),(a,n,m)] [] (some ((p),(cond b9 E9 e0))) bs9 os9 w'
 f0:b0 = true→v0 = .pointer (some ⟨p,0,none⟩)
 f1:b1 = true→v1 = .pointer (some ⟨p,0,none⟩)
 f2:b2 = true→v2 = .pointer (some ⟨p,0,none⟩)
 f3:b3 = true→v3 = .agg #[.slice a n cap]
 f4:b4 = true→v4 = .agg #[.slice a' n' cap']
 f5:b5 = true→v5 = .tuple #[.agg #[.slice A5 N5 C5],.agg #[.slice P5 Q5 R5],.int .i64 er]∧(A5,N5,C5,M)∈os9∧(P5,Q5,R5,L)∈os9
 f6:b6 = true→v6 = .agg #[.slice A5 N5 C5]
 f7:b7 = true→v7 = .agg #[.slice P5 Q5 R5]
 f8:b8 = true→v8 = .int .i64 er
 f9:b9 = true→v9 = .tuple #[.agg #[.slice A9 N9 C9],.agg #[.slice P9 Q9 R9]]∧((A9,N9,C9,M9)∈os9∧(P9,Q9,R9,L9)∈os9)∧(M9 = M∧L9 = L∧E9 = Kp e0 er)
 f10:b10 = true→v10 = .agg #[.slice A9 N9 C9]
 f11:b11 = true→v11 = .agg #[.slice P9 Q9 R9]
 o0_0:b12 = false→⟨w.heap.size+1+1,#[.slice none 0 0],27⟩∈bs9
 o0_1:b12 = true→⟨w.heap.size+1+1,#[.slice A9 N9 C9],27⟩∈bs9
 o1_0:b13 = false→⟨w.heap.size+1+1+1,#[.slice none 0 0],27⟩∈bs9
 o1_1:b13 = true→⟨w.heap.size+1+1+1,#[.slice P9 Q9 R9],27⟩∈bs9
 g6_5:b6 = true→b5 = true
 g7_5:b7 = true→b5 = true
 g8_5:b8 = true→b5 = true
 g9_5:b9 = true→b5 = true
 g10_9:b10 = true→b9 = true
 g10_5:b10 = true→b5 = true
 g11_9:b11 = true→b9 = true
 g11_5:b11 = true→b5 = true
 g12_10:b12 = true→b10 = true
 g12_9:b12 = true→b9 = true
 g12_5:b12 = true→b5 = true
 g13_11:b13 = true→b11 = true
 g13_9:b13 = true→b9 = true
 g13_5:b13 = true→b5 = true
 g13_12:b13 = true→b12 = true
def Wdiv1I (w:World) (p:Nat) (e0:Int) (a a':Option Addr) (n n' cap cap' m m':Nat) (M L:Nat) (er:Int) (S9:Nat) (l:Array Bool) (act:Act) (w':World):Wdiv1S→Prop
 | ⟨b0,b1,b2,b3,b4,b5,b6,b7,b8,b9,b10,b11,b12,b13,v0,v1,v2,v3,v4,v5,v6,v7,v8,v9,v10,v11,A5,N5,C5,P5,Q5,R5,A9,N9,C9,M9,P9,Q9,R9,L9,E9,bs9,os9⟩=>l = #[b0,b1,b2,b3,b4,b5,b6,b7,b8,b9,b10,b11,b12,b13]∧act = { tmps:=#[.pointer (some ⟨p,0,none⟩),.agg #[.slice a n cap],.agg #[.slice a' n' cap'],undef,.pointer (some ⟨w.heap.size,0,none⟩),.pointer (some ⟨w.heap.size+1,0,none⟩),.pointer (some ⟨w.heap.size+1+1,0,none⟩),.pointer (some ⟨w.heap.size+1+1+1,0,none⟩),v0,v1,v2,v3,v4,v5,v6,v7,v8,v9,v10,v11],defers:=[] }∧Wdiv1R w p e0 a a' n n' cap cap' m m' M L er S9 b0 b1 b2 b3 b4 b5 b6 b7 b8 b9 b10 b11 b12 b13 v0 v1 v2 v3 v4 v5 v6 v7 v8 v9 v10 v11 A5 N5 C5 P5 Q5 R5 A9 N9 C9 M9 P9 Q9 R9 L9 E9 bs9 os9 w'
theorem wdiv_w (w:World) (p:Nat) (e0:Int) (a a':Option Addr) (n n' cap cap' m m':Nat) (M L:Nat) (er:Int) (hk:Wk w p e0) (h:Num w a n m) (h':Num w a' n' m') (HC:Hid (∀ (W:World) (a:Option Addr) (n c:Nat) (a':Option Addr) (n' c':Nat),Num W a n m→Num W a' n' m'→Calls Tryz.prog 46 #[.agg #[.slice a n c],.agg #[.slice a' n' c']] W fun en W'=>(∃ a n c a' n' c',en = .returned (.tuple #[.agg #[.slice a n c],.agg #[.slice a' n' c'],.int .i64 er])∧Mine W' W.heap.size a n c M∧Mine W' W.heap.size a' n' c' L)∧Below W.heap.size W W')) :
  Calls Tryz.prog 24 #[.pointer (some ⟨p,0,none⟩),.agg #[.slice a n cap],.agg #[.slice a' n' cap']] w fun en w'=>∃ a n c a' n' c',en = .returned (.tuple #[.agg #[.slice a n c],.agg #[.slice a' n' c']])∧Mine w' w.heap.size a n c M∧Mine w' w.heap.size a' n' c' L∧Wk w' p (Kp e0 er)∧But p w w':=by
 have hS:=Rs.begin_work hk
 replace hS:=hS.num h
 replace hS:=hS.num h'
 replace hS:=hS.alloc #[.slice a n cap] 27
 try simp only [World.size_alloc] at hS
 replace hS:=hS.alloc #[.slice a' n' cap'] 27
 try simp only [World.size_alloc] at hS
 replace hS:=hS.alloc #[.slice none 0 0] 27
 try simp only [World.size_alloc] at hS
 replace hS:=hS.alloc #[.slice none 0 0] 27
 try simp only [World.size_alloc] at hS
 go_enter Tryz.func24,Tryz.ntmps24
 go_wp2_with fail
 refine wp_region_any (by kernel_rfl) ?_
 change wpAny _ _ _ _ _ _ _ (World.drew _)
 have hS9:=hS.drew
 have hsW9:(World.drew ((((w.alloc (.cells #[.slice a n cap] 27)).alloc (.cells #[.slice a' n' cap'] 27)).alloc (.cells #[.slice none 0 0] 27)).alloc (.cells #[.slice none 0 0] 27))).heap.size = w.heap.size+1+1+1+1:=by first|rfl|simp
 generalize World.drew ((((w.alloc (.cells #[.slice a n cap] 27)).alloc (.cells #[.slice a' n' cap'] 27)).alloc (.cells #[.slice none 0 0] 27)).alloc (.cells #[.slice none 0 0] 27)) = Wd at hS9 hsW9 ⊢
 obtain ⟨S9,hS9z⟩:∃ x,x = Wd.heap.size:=⟨_,rfl⟩
 have hC9:=Rc.start (bs:=[⟨w.heap.size+1,#[.slice a' n' cap'],27⟩,⟨w.heap.size,#[.slice a n cap],27⟩]) hS9 (by simp)
 rw [← hS9z] at hC9
 have hP9_0:=hS9.bx ⟨w.heap.size+1+1,#[.slice none 0 0],27⟩ (by simp)
 have hP9_0:=block_lt hP9_0.1
 rw [← hS9z] at hP9_0
 simp only [] at hP9_0
 have hP9_1:=hS9.bx ⟨w.heap.size+1+1+1,#[.slice none 0 0],27⟩ (by simp)
 have hP9_1:=block_lt hP9_1.1
 rw [← hS9z] at hP9_1
 simp only [] at hP9_1
 refine wpAny_inv (fun l act w'=>∃ σ,Wdiv1I w p e0 a a' n n' cap cap' m m' M L er S9 l act w' σ) ?_ ?_ _ _ _ _ ?_ ?_
 ·intro l act w' i9 hI9 hi9 hl9
  have hin9:i9 < 14:=by
   by_cases h:i9 < 14
   ·exact h
   ·obtain ⟨⟨⟩,rfl,_⟩:=hI9
    rw [Array.getElem?_eq_none (by simp; omega)] at hl9; cases hl9
  have hcase:i9 = 0∨i9 = 1∨i9 = 2∨i9 = 3∨i9 = 4∨i9 = 5∨i9 = 6∨i9 = 7∨i9 = 8∨i9 = 9∨i9 = 10∨i9 = 11∨i9 = 12∨i9 = 13:=by omega
  clear hin9
  obtain ⟨⟨b0,b1,b2,b3,b4,b5,b6,b7,b8,b9,b10,b11,b12,b13,v0,v1,v2,v3,v4,v5,v6,v7,v8,v9,v10,v11,A5,N5,C5,P5,Q5,R5,A9,N9,C9,M9,P9,Q9,R9,L9,E9,bs9,os9⟩,rfl,rfl,hR⟩:=hI9
  rcases hcase with rfl|rfl|rfl|rfl|rfl|rfl|rfl|rfl|rfl|rfl|rfl|rfl|rfl|rfl
  ·obtain rfl:b0 = false:=by simpa using hl9
   have hc:=hR.hc
   refine wpOp_step rfl fun K hK=>?_
   go_simp
   exact hK _ _ ⟨⟨_,_,_,_,_,_,_,_,_,_,_,_,_,_,_,_,_,_,_,_,_,_,_,_,_,_,A5,N5,C5,P5,Q5,R5,A9,N9,C9,M9,P9,Q9,R9,L9,E9,_,_⟩,rfl,rfl,{ hR with hc:=hc,f0:=(fun _=>rfl) }⟩
  ·obtain rfl:b1 = false:=by simpa using hl9
   obtain ⟨o9,ho9,hd9⟩:=(mem_ready.1 hi9).2
   cases ho9
   have e0:b0 = true:=hd9 ⟨0,.data⟩ (by simp) rfl
   subst e0
   have h9:=hR.f0 rfl
   subst h9
   have hc:=hR.hc
   refine wpOp_step rfl fun K hK=>?_
   go_simp
   exact hK _ _ ⟨⟨_,_,_,_,_,_,_,_,_,_,_,_,_,_,_,_,_,_,_,_,_,_,_,_,_,_,A5,N5,C5,P5,Q5,R5,A9,N9,C9,M9,P9,Q9,R9,L9,E9,_,_⟩,rfl,rfl,{ hR with hc:=hc,f1:=(fun _=>rfl) }⟩
  ·obtain rfl:b2 = false:=by simpa using hl9
   obtain ⟨o9,ho9,hd9⟩:=(mem_ready.1 hi9).2
   cases ho9
   have e1:b1 = true:=hd9 ⟨1,.data⟩ (by simp) rfl
   subst e1
   have h9:=hR.f1 rfl
   subst h9
   have hc:=hR.hc
   refine wpOp_step rfl fun K hK=>?_
   go_simp
   exact hK _ _ ⟨⟨_,_,_,_,_,_,_,_,_,_,_,_,_,_,_,_,_,_,_,_,_,_,_,_,_,_,A5,N5,C5,P5,Q5,R5,A9,N9,C9,M9,P9,Q9,R9,L9,E9,_,_⟩,rfl,rfl,{ hR with hc:=hc,f2:=(fun _=>rfl) }⟩
  ·obtain rfl:b3 = false:=by simpa using hl9
   have hc:=hR.hc
   have c9_0:=hc.st.cellAt (hc.old ⟨w.heap.size,#[.slice a n cap],27⟩ (by simp)).1 0 (.slice a n cap) rfl
   simp only [] at c9_0
   refine wpOp_step rfl fun K hK=>?_
   go_simp
   exact hK _ _ ⟨⟨_,_,_,_,_,_,_,_,_,_,_,_,_,_,_,_,_,_,_,_,_,_,_,_,_,_,A5,N5,C5,P5,Q5,R5,A9,N9,C9,M9,P9,Q9,R9,L9,E9,_,_⟩,rfl,rfl,{ hR with hc:=hc,f3:=(fun _=>rfl) }⟩
  ·obtain rfl:b4 = false:=by simpa using hl9
   have hc:=hR.hc
   have c9_0:=hc.st.cellAt (hc.old ⟨w.heap.size+1,#[.slice a' n' cap'],27⟩ (by simp)).1 0 (.slice a' n' cap') rfl
   simp only [] at c9_0
   refine wpOp_step rfl fun K hK=>?_
   go_simp
   exact hK _ _ ⟨⟨_,_,_,_,_,_,_,_,_,_,_,_,_,_,_,_,_,_,_,_,_,_,_,_,_,_,A5,N5,C5,P5,Q5,R5,A9,N9,C9,M9,P9,Q9,R9,L9,E9,_,_⟩,rfl,rfl,{ hR with hc:=hc,f4:=(fun _=>rfl) }⟩
  ·obtain rfl:b5 = false:=by simpa using hl9
   obtain ⟨o9,ho9,hd9⟩:=(mem_ready.1 hi9).2
   cases ho9
   have e3:b3 = true:=hd9 ⟨3,.data⟩ (by simp) rfl
   have e4:b4 = true:=hd9 ⟨4,.data⟩ (by simp) rfl
   subst e3 e4
   have h9:=hR.f3 rfl
   subst h9
   have h9:=hR.f4 rfl
   subst h9
   have hc:=hR.hc
   have HR:=hide hR
   clear hR
   refine wpOp_step rfl fun K hK=>?_
   go_simp
   go_wp2_with fail
   refine (W_oft2 hc.st (unhide HC _ _ _ _ _ _ _ (hc.st.nm (a,n,m) (by simp)) (hc.st.nm (a',n',m') (by simp)))).mono ?_
   rintro en w9 ⟨a9,n9,c9,a8,n8,c8,rfl,hs9,hz9⟩
   have hR:=unhide HR
   exact hK _ _ ⟨⟨_,_,_,_,_,_,_,_,_,_,_,_,_,_,_,_,_,_,_,_,_,_,_,_,_,_,_,_,_,_,_,_,A9,N9,C9,M9,P9,Q9,R9,L9,E9,_,_⟩,rfl,rfl,{ hR with hc:=(hc.call hs9 hz9 (fun y hy=>List.mem_cons_of_mem _ (List.mem_cons_of_mem _ hy))),f5:=(fun _=>⟨rfl,List.mem_cons_of_mem _ (List.mem_cons_self ..),List.mem_cons_self ..⟩),f6:=(fun h=>Bool.noConfusion (hR.g6_5 h)),f7:=(fun h=>Bool.noConfusion (hR.g7_5 h)),f8:=(fun h=>Bool.noConfusion (hR.g8_5 h)),f9:=(fun h=>Bool.noConfusion (hR.g9_5 h)),f10:=(fun h=>Bool.noConfusion (hR.g10_5 h)),f11:=(fun h=>Bool.noConfusion (hR.g11_5 h)),o0_1:=(fun h=>Bool.noConfusion (hR.g12_5 h)),o1_1:=(fun h=>Bool.noConfusion (hR.g13_5 h)),g6_5:=(fun _=>rfl),g7_5:=(fun _=>rfl),g8_5:=(fun _=>rfl),g9_5:=(fun _=>rfl),g10_5:=(fun _=>rfl),g11_5:=(fun _=>rfl),g12_5:=(fun _=>rfl),g13_5:=(fun _=>rfl) }⟩
  ·obtain rfl:b6 = false:=by simpa using hl9
   obtain ⟨o9,ho9,hd9⟩:=(mem_ready.1 hi9).2
   cases ho9
   have e5:b5 = true:=hd9 ⟨5,.data⟩ (by simp) rfl
   subst e5
   have q5:=hR.f5 rfl
   obtain ⟨h9,q5m⟩:=q5
   subst h9
   have hc:=hR.hc
   refine wpOp_step rfl fun K hK=>?_
   go_simp
   exact hK _ _ ⟨⟨_,_,_,_,_,_,_,_,_,_,_,_,_,_,_,_,_,_,_,_,_,_,_,_,_,_,A5,N5,C5,P5,Q5,R5,A9,N9,C9,M9,P9,Q9,R9,L9,E9,_,_⟩,rfl,rfl,{ hR with hc:=hc,f6:=(fun _=>rfl),g6_5:=(fun _=>rfl) }⟩
  ·obtain rfl:b7 = false:=by simpa using hl9
   obtain ⟨o9,ho9,hd9⟩:=(mem_ready.1 hi9).2
   cases ho9
   have e5:b5 = true:=hd9 ⟨5,.data⟩ (by simp) rfl
   subst e5
   have q5:=hR.f5 rfl
   obtain ⟨h9,q5m⟩:=q5
   subst h9
   have hc:=hR.hc
   refine wpOp_step rfl fun K hK=>?_
   go_simp
   exact hK _ _ ⟨⟨_,_,_,_,_,_,_,_,_,_,_,_,_,_,_,_,_,_,_,_,_,_,_,_,_,_,A5,N5,C5,P5,Q5,R5,A9,N9,C9,M9,P9,Q9,R9,L9,E9,_,_⟩,rfl,rfl,{ hR with hc:=hc,f7:=(fun _=>rfl),g7_5:=(fun _=>rfl) }⟩
  ·obtain rfl:b8 = false:=by simpa using hl9
   obtain ⟨o9,ho9,hd9⟩:=(mem_ready.1 hi9).2
   cases ho9
   have e5:b5 = true:=hd9 ⟨5,.data⟩ (by simp) rfl
   subst e5
   have q5:=hR.f5 rfl
   obtain ⟨h9,q5m⟩:=q5
   subst h9
   have hc:=hR.hc
   refine wpOp_step rfl fun K hK=>?_
   go_simp
   exact hK _ _ ⟨⟨_,_,_,_,_,_,_,_,_,_,_,_,_,_,_,_,_,_,_,_,_,_,_,_,_,_,A5,N5,C5,P5,Q5,R5,A9,N9,C9,M9,P9,Q9,R9,L9,E9,_,_⟩,rfl,rfl,{ hR with hc:=hc,f8:=(fun _=>rfl),g8_5:=(fun _=>rfl) }⟩
  ·obtain rfl:b9 = false:=by simpa using hl9
   obtain ⟨o9,ho9,hd9⟩:=(mem_ready.1 hi9).2
   cases ho9
   have e2:b2 = true:=hd9 ⟨2,.data⟩ (by simp) rfl
   have e6:b6 = true:=hd9 ⟨6,.data⟩ (by simp) rfl
   have e7:b7 = true:=hd9 ⟨7,.data⟩ (by simp) rfl
   have e8:b8 = true:=hd9 ⟨8,.data⟩ (by simp) rfl
   subst e2 e6 e7 e8
   have h9:=hR.f2 rfl
   subst h9
   obtain rfl:b5 = true:=hR.g6_5 rfl
   have q5:=hR.f5 rfl
   obtain ⟨h9,q5m⟩:=q5
   subst h9
   have h9:=hR.f6 rfl
   subst h9
   have h9:=hR.f7 rfl
   subst h9
   have h9:=hR.f8 rfl
   subst h9
   have hc:=hR.hc
   simp only [cond_false] at hc
   have HR:=hide hR
   clear hR
   refine wpOp_step rfl fun K hK=>?_
   go_simp
   go_wp2_with fail
   refine (W_rNats hc.st C5 R5 (hc.st.ow _ q5m.1) (hc.st.ow _ q5m.2)).mono ?_
   rintro en w9 ⟨a9,n9,c9,m9,a8,n8,c8,m8,e9,rfl,hs9,hz,hz9⟩
   have hR:=unhide HR
   exact hK _ _ ⟨⟨_,_,_,_,_,_,_,_,_,_,_,_,_,_,_,_,_,_,_,_,_,_,_,_,_,_,A5,N5,C5,P5,Q5,R5,_,_,_,_,_,_,_,_,_,_,_⟩,rfl,rfl,{ hR with hc:=(hc.call hs9 hz9 (fun y hy=>List.mem_cons_of_mem _ (List.mem_cons_of_mem _ hy))),f5:=(fun h=>⟨(hR.f5 h).1,List.mem_cons_of_mem _ (List.mem_cons_of_mem _ (hR.f5 h).2.1),List.mem_cons_of_mem _ (List.mem_cons_of_mem _ (hR.f5 h).2.2)⟩),f9:=(fun _=>⟨rfl,⟨List.mem_cons_of_mem _ (List.mem_cons_self ..),List.mem_cons_self ..⟩,hz⟩),f10:=(fun h=>Bool.noConfusion (hR.g10_9 h)),f11:=(fun h=>Bool.noConfusion (hR.g11_9 h)),o0_1:=(fun h=>Bool.noConfusion (hR.g12_9 h)),o1_1:=(fun h=>Bool.noConfusion (hR.g13_9 h)),g9_5:=(fun _=>rfl),g10_9:=(fun _=>rfl),g11_9:=(fun _=>rfl),g12_9:=(fun _=>rfl),g13_9:=(fun _=>rfl) }⟩
  ·obtain rfl:b10 = false:=by simpa using hl9
   obtain ⟨o9,ho9,hd9⟩:=(mem_ready.1 hi9).2
   cases ho9
   have e9:b9 = true:=hd9 ⟨9,.data⟩ (by simp) rfl
   subst e9
   have q9:=hR.f9 rfl
   obtain ⟨h9,q9m,q9z⟩:=q9
   subst h9
   have hc:=hR.hc
   refine wpOp_step rfl fun K hK=>?_
   go_simp
   exact hK _ _ ⟨⟨_,_,_,_,_,_,_,_,_,_,_,_,_,_,_,_,_,_,_,_,_,_,_,_,_,_,A5,N5,C5,P5,Q5,R5,A9,N9,C9,M9,P9,Q9,R9,L9,E9,_,_⟩,rfl,rfl,{ hR with hc:=hc,f10:=(fun _=>rfl),o0_1:=(fun h=>Bool.noConfusion (hR.g12_10 h)),g10_9:=(fun _=>rfl),g10_5:=(fun _=>hR.g9_5 rfl),g12_10:=(fun _=>rfl) }⟩
  ·obtain rfl:b11 = false:=by simpa using hl9
   obtain ⟨o9,ho9,hd9⟩:=(mem_ready.1 hi9).2
   cases ho9
   have e9:b9 = true:=hd9 ⟨9,.data⟩ (by simp) rfl
   subst e9
   have q9:=hR.f9 rfl
   obtain ⟨h9,q9m,q9z⟩:=q9
   subst h9
   have hc:=hR.hc
   refine wpOp_step rfl fun K hK=>?_
   go_simp
   exact hK _ _ ⟨⟨_,_,_,_,_,_,_,_,_,_,_,_,_,_,_,_,_,_,_,_,_,_,_,_,_,_,A5,N5,C5,P5,Q5,R5,A9,N9,C9,M9,P9,Q9,R9,L9,E9,_,_⟩,rfl,rfl,{ hR with hc:=hc,f11:=(fun _=>rfl),o1_1:=(fun h=>Bool.noConfusion (hR.g13_11 h)),g11_9:=(fun _=>rfl),g11_5:=(fun _=>hR.g9_5 rfl),g13_11:=(fun _=>rfl) }⟩
  ·obtain rfl:b12 = false:=by simpa using hl9
   obtain ⟨o9,ho9,hd9⟩:=(mem_ready.1 hi9).2
   cases ho9
   have e10:b10 = true:=hd9 ⟨10,.data⟩ (by simp) rfl
   subst e10
   obtain rfl:b9 = true:=hR.g10_9 rfl
   have q9:=hR.f9 rfl
   obtain ⟨h9,q9m,q9z⟩:=q9
   subst h9
   obtain rfl:b5 = true:=hR.g10_5 rfl
   have q5:=hR.f5 rfl
   obtain ⟨h9,q5m⟩:=q5
   subst h9
   have h9:=hR.f10 rfl
   subst h9
   have hc:=hR.hc
   have hm9:=hR.o0_0 rfl
   have fz9_0:=hc.st.frozen hm9 0
   have cz9_0:=hc.st.cellAt hm9 0 (.slice none 0 0) rfl
   simp only [] at fz9_0 cz9_0
   have hn9:∀ x,x∈([⟨w.heap.size+1,#[.slice a' n' cap'],27⟩,⟨w.heap.size,#[.slice a n cap],27⟩]:List En)→x.b≠w.heap.size+1+1:=by intro x hx; rcases List.mem_cons.1 hx with rfl|hx; (simp only []; omega); rcases List.mem_cons.1 hx with rfl|hx; (simp only []; omega);  exact absurd hx List.not_mem_nil
   have hw9:w.heap.size≤w.heap.size+1+1:=by omega
   refine wpOp_step rfl fun K hK=>?_
   go_simp
   exact hK _ _ ⟨⟨_,_,_,_,_,_,_,_,_,_,_,_,_,_,_,_,_,_,_,_,_,_,_,_,_,_,A5,N5,C5,P5,Q5,R5,A9,N9,C9,M9,P9,Q9,R9,L9,E9,_,_⟩,rfl,rfl,{ hR with hc:=(hc.store hm9 hw9 hn9 0 (.slice A9 N9 C9) (by simp)),o0_0:=(fun h=>Bool.noConfusion h),o0_1:=(fun _=>List.mem_cons_self ..),o1_0:=(fun h0=>(List.mem_cons_of_mem _ (List.mem_filter.2 ⟨(hR.o1_0 h0),by simp only [ne_eq,decide_not,Bool.not_eq_eq_eq_not,Bool.not_true,decide_eq_false_iff_not]; omega⟩))),o1_1:=(fun h0=>(List.mem_cons_of_mem _ (List.mem_filter.2 ⟨(hR.o1_1 h0),by simp only [ne_eq,decide_not,Bool.not_eq_eq_eq_not,Bool.not_true,decide_eq_false_iff_not]; omega⟩))),g12_10:=(fun _=>rfl),g12_9:=(fun _=>rfl),g12_5:=(fun _=>rfl),g13_12:=(fun _=>rfl) }⟩
  ·obtain rfl:b13 = false:=by simpa using hl9
   obtain ⟨o9,ho9,hd9⟩:=(mem_ready.1 hi9).2
   cases ho9
   have e11:b11 = true:=hd9 ⟨11,.data⟩ (by simp) rfl
   have e12:b12 = true:=hd9 ⟨12,.chain⟩ (by simp) rfl
   subst e11 e12
   obtain rfl:b9 = true:=hR.g11_9 rfl
   have q9:=hR.f9 rfl
   obtain ⟨h9,q9m,q9z⟩:=q9
   subst h9
   obtain rfl:b5 = true:=hR.g11_5 rfl
   have q5:=hR.f5 rfl
   obtain ⟨h9,q5m⟩:=q5
   subst h9
   have h9:=hR.f11 rfl
   subst h9
   have hc:=hR.hc
   have hm9:=hR.o1_0 rfl
   have fz9_0:=hc.st.frozen hm9 0
   have cz9_0:=hc.st.cellAt hm9 0 (.slice none 0 0) rfl
   simp only [] at fz9_0 cz9_0
   have hn9:∀ x,x∈([⟨w.heap.size+1,#[.slice a' n' cap'],27⟩,⟨w.heap.size,#[.slice a n cap],27⟩]:List En)→x.b≠w.heap.size+1+1+1:=by intro x hx; rcases List.mem_cons.1 hx with rfl|hx; (simp only []; omega); rcases List.mem_cons.1 hx with rfl|hx; (simp only []; omega);  exact absurd hx List.not_mem_nil
   have hw9:w.heap.size≤w.heap.size+1+1+1:=by omega
   refine wpOp_step rfl fun K hK=>?_
   go_simp
   exact hK _ _ ⟨⟨_,_,_,_,_,_,_,_,_,_,_,_,_,_,_,_,_,_,_,_,_,_,_,_,_,_,A5,N5,C5,P5,Q5,R5,A9,N9,C9,M9,P9,Q9,R9,L9,E9,_,_⟩,rfl,rfl,{ hR with hc:=(hc.store hm9 hw9 hn9 0 (.slice P9 Q9 R9) (by simp)),o0_0:=(fun h0=>(List.mem_cons_of_mem _ (List.mem_filter.2 ⟨(hR.o0_0 h0),by simp only [ne_eq,decide_not,Bool.not_eq_eq_eq_not,Bool.not_true,decide_eq_false_iff_not]; omega⟩))),o0_1:=(fun h0=>(List.mem_cons_of_mem _ (List.mem_filter.2 ⟨(hR.o0_1 h0),by simp only [ne_eq,decide_not,Bool.not_eq_eq_eq_not,Bool.not_true,decide_eq_false_iff_not]; omega⟩))),o1_0:=(fun h=>Bool.noConfusion h),o1_1:=(fun _=>List.mem_cons_self ..),g13_11:=(fun _=>rfl),g13_9:=(fun _=>rfl),g13_5:=(fun _=>rfl),g13_12:=(fun _=>rfl) }⟩
 ·rintro l act Wq1 ⟨⟨b0,b1,b2,b3,b4,b5,b6,b7,b8,b9,b10,b11,b12,b13,v0,v1,v2,v3,v4,v5,v6,v7,v8,v9,v10,v11,x1_A5,x1_N5,x1_C5,x1_P5,x1_Q5,x1_R5,x1_A9,x1_N9,x1_C9,x1_M9,x1_P9,x1_Q9,x1_R9,x1_L9,x1_E9,bs9,os9⟩,rfl,rfl,hR⟩ hr9
  obtain ⟨hc,f0,f1,f2,f3,f4,f5,f6,f7,f8,f9,f10,f11,o0_0,o0_1,o1_0,o1_1,g6_5,g7_5,g8_5,g9_5,g10_9,g10_5,g11_9,g11_5,g12_10,g12_9,g12_5,g13_11,g13_9,g13_5,g13_12⟩:=hR
  have eall:=all_done hr9 (by kernel_rfl) rfl
  obtain rfl:b0 = true:=eall 0 (by decide)
  obtain rfl:b1 = true:=eall 1 (by decide)
  obtain rfl:b2 = true:=eall 2 (by decide)
  obtain rfl:b3 = true:=eall 3 (by decide)
  obtain rfl:b4 = true:=eall 4 (by decide)
  obtain rfl:b5 = true:=eall 5 (by decide)
  obtain rfl:b6 = true:=eall 6 (by decide)
  obtain rfl:b7 = true:=eall 7 (by decide)
  obtain rfl:b8 = true:=eall 8 (by decide)
  obtain rfl:b9 = true:=eall 9 (by decide)
  obtain rfl:b10 = true:=eall 10 (by decide)
  obtain rfl:b11 = true:=eall 11 (by decide)
  obtain rfl:b12 = true:=eall 12 (by decide)
  obtain rfl:b13 = true:=eall 13 (by decide)
  clear hr9 eall
  have h9:=f0 rfl
  subst h9
  have h9:=f1 rfl
  subst h9
  have h9:=f2 rfl
  subst h9
  have h9:=f3 rfl
  subst h9
  have h9:=f4 rfl
  subst h9
  obtain ⟨h9,q5m,q5m2⟩:=f5 rfl
  subst h9
  have h9:=f6 rfl
  subst h9
  have h9:=f7 rfl
  subst h9
  have h9:=f8 rfl
  subst h9
  obtain ⟨h9,⟨q9m,q9m2⟩,qx1_9⟩:=f9 rfl
  subst h9
  have h9:=f10 rfl
  subst h9
  have h9:=f11 rfl
  subst h9
  simp only [cond_true] at hc
  have hbs9:∀ x,x∈([⟨w.heap.size+1+1+1,#[.slice x1_P9 x1_Q9 x1_R9],27⟩,⟨w.heap.size+1+1,#[.slice x1_A9 x1_N9 x1_C9],27⟩,⟨w.heap.size+1,#[.slice a' n' cap'],27⟩,⟨w.heap.size,#[.slice a n cap],27⟩]:List En)→x∈bs9:=by
   intro x hx
   rcases List.mem_cons.1 hx with rfl|hx
   ·exact (o1_1 rfl)
   rcases List.mem_cons.1 hx with rfl|hx
   ·exact (o0_1 rfl)
   rcases List.mem_cons.1 hx with rfl|hx
   ·exact (hc.old _ (by simp)).1
   rcases List.mem_cons.1 hx with rfl|hx
   ·exact (hc.old _ (by simp)).1
   exact absurd hx List.not_mem_nil
  have hos9:∀ x,x∈([(x1_A5,x1_N5,x1_C5,M),(x1_P5,x1_Q5,x1_R5,L),(x1_A9,x1_N9,x1_C9,x1_M9),(x1_P9,x1_Q9,x1_R9,x1_L9)]:Os)→x∈os9:=by
   intro x hx
   rcases List.mem_cons.1 hx with rfl|hx
   ·exact q5m
   rcases List.mem_cons.1 hx with rfl|hx
   ·exact q5m2
   rcases List.mem_cons.1 hx with rfl|hx
   ·exact q9m
   rcases List.mem_cons.1 hx with rfl|hx
   ·exact q9m2
   exact absurd hx List.not_mem_nil
  have hS:=hc.st.sub hbs9 (fun x hx=>hx) hos9
  have hsz9:=hc.sz
  rw [hS9z,hsW9] at hsz9
  clear hbs9 hos9 hc f0 f1 f2 f3 f4 f5 f6 f7 f8 f9 f10 f11 o0_0 o0_1 o1_0 o1_1 g6_5 g7_5 g8_5 g9_5 g10_9 g10_5 g11_9 g11_5 g12_10 g12_9 g12_5 g13_11 g13_9 g13_5 g13_12
  clear q5m q5m2 q9m q9m2
  have hz1:=hsz9
  clear hsz9 hS9z hS9 hC9 hsW9
  have Qx1_9:=hide qx1_9
  clear qx1_9
  obtain ⟨⟨k0_0,-⟩,z0⟩:=hS.cz ⟨w.heap.size+1+1+1,#[.slice x1_P9 x1_Q9 x1_R9],27⟩ (by simp)
  have z0_0:=z0 0
  clear z0
  obtain ⟨⟨k1_0,-⟩,z1⟩:=hS.cz ⟨w.heap.size+1+1,#[.slice x1_A9 x1_N9 x1_C9],27⟩ (by simp)
  have z1_0:=z1 0
  clear z1
  simp only [] at k0_0 z0_0 k1_0 z1_0
  go_wp2
  obtain ⟨rfl,rfl,rfl⟩:=unhide Qx1_9
  exact bodyPost_ret (v:=.tuple #[.agg #[.slice x1_A9 x1_N9 x1_C9],.agg #[.slice x1_P9 x1_Q9 x1_R9]]) (by simp [results,Tryz.results24,go_sem,k0_0,k1_0]) rfl ⟨_,_,_,_,_,_,rfl,hS.ow (x1_A9,x1_N9,x1_C9,_) (by simp),hS.ow (x1_P9,x1_Q9,x1_R9,_) (by simp),hS.wk,hS.fr⟩
 ·simp
 ·exact ⟨⟨false,false,false,false,false,false,false,false,false,false,false,false,false,false,undef,undef,undef,undef,undef,undef,undef,undef,undef,undef,undef,undef,none,0,0,none,0,0,none,0,0,0,none,0,0,0,0,_,_⟩,rfl,rfl,⟨hC9,nb,nb,nb,nb,nb,nb,nb,nb,nb,nb,nb,nb,(fun _=>by simp),nb,(fun _=>by simp),nb,nb,nb,nb,nb,nb,nb,nb,nb,nb,nb,nb,nb,nb,nb,nb⟩⟩
structure Wcmp1S where
 (b0 b1 b2 b3 b4 b5 b6 b7 b8 b9:Bool)
 (v0 v1 v2 v3 v4 v5 v6 v7 v8 v9:Value)
 (E8:Int)
 bs9:List En
 os9:Os
structure Wcmp1R (w:World) (p:Nat) (e0:Int) (a a':Option Addr) (n n' cap cap' m m':Nat) (r:Int) (S9:Nat) (b0 b1 b2 b3 b4 b5 b6 b7 b8 b9:Bool) (v0 v1 v2 v3 v4 v5 v6 v7 v8 v9:Value) (E8:Int) (bs9:List En) (os9:Os) (w':World):Prop where
 hc:Rc w S9 [⟨w.heap.size+1,#[.slice a' n' cap'],27⟩,⟨w.heap.size,#[.slice a n cap],27⟩] [(a',n',m'),(a,n,m)] [] (some ((p),(cond b8 E8 e0))) bs9 os9 w'
 f0:b0 = true→v0 = .pointer (some ⟨p,0,none⟩)
 f1:b1 = true→v1 = .pointer (some ⟨p,0,none⟩)
 f2:b2 = true→v2 = .pointer (some ⟨p,0,none⟩)
 f3:b3 = true→v3 = .agg #[.slice a n cap]
 f4:b4 = true→v4 = .agg #[.slice a' n' cap']
 f5:b5 = true→v5 = .tuple #[.int .i64 r,.int .i64 0]
 f6:b6 = true→v6 = .int .i64 r
 f7:b7 = true→v7 = .int .i64 0
 f8:b8 = true→v8 = .int .i64 r∧E8 = Kp e0 0
 f9:b9 = true→v9 = .int .i64 r
 g9_8:b9 = true→b8 = true
def Wcmp1I (w:World) (p:Nat) (e0:Int) (a a':Option Addr) (n n' cap cap' m m':Nat) (r:Int) (S9:Nat) (l:Array Bool) (act:Act) (w':World):Wcmp1S→Prop
 | ⟨b0,b1,b2,b3,b4,b5,b6,b7,b8,b9,v0,v1,v2,v3,v4,v5,v6,v7,v8,v9,E8,bs9,os9⟩=>l = #[b0,b1,b2,b3,b4,b5,b6,b7,b8,b9]∧act = { tmps:=#[.pointer (some ⟨p,0,none⟩),.agg #[.slice a n cap],.agg #[.slice a' n' cap'],undef,.pointer (some ⟨w.heap.size,0,none⟩),.pointer (some ⟨w.heap.size+1,0,none⟩),v9,v0,v1,v2,v3,v4,v5,v6,v7,v8],defers:=[] }∧Wcmp1R w p e0 a a' n n' cap cap' m m' r S9 b0 b1 b2 b3 b4 b5 b6 b7 b8 b9 v0 v1 v2 v3 v4 v5 v6 v7 v8 v9 E8 bs9 os9 w'
theorem wcmp_w (w:World) (p:Nat) (e0:Int) (a a':Option Addr) (n n' cap cap' m m':Nat) (r:Int) (hk:Wk w p e0) (h:Num w a n m) (h':Num w a' n' m') (HC:Hid (∀ (W:World) (a:Option Addr) (n c:Nat) (a':Option Addr) (n' c':Nat),Num W a n m→Num W a' n' m'→Calls Tryz.prog 67 #[.agg #[.slice a n c],.agg #[.slice a' n' c']] W fun en W'=>en = .returned (.tuple #[.int .i64 r,.int .i64 0])∧Below W.heap.size W W')) :
  Calls Tryz.prog 43 #[.pointer (some ⟨p,0,none⟩),.agg #[.slice a n cap],.agg #[.slice a' n' cap']] w fun en w'=>en = .returned (.int .i64 r)∧Wk w' p e0∧But p w w':=by
 have hS:=Rs.begin_work hk
 replace hS:=hS.num h
 replace hS:=hS.num h'
 replace hS:=hS.alloc #[.slice a n cap] 27
 try simp only [World.size_alloc] at hS
 replace hS:=hS.alloc #[.slice a' n' cap'] 27
 try simp only [World.size_alloc] at hS
 go_enter Tryz.func43,Tryz.ntmps43
 go_wp2_with fail
 refine wp_region_any (by kernel_rfl) ?_
 change wpAny _ _ _ _ _ _ _ (World.drew _)
 have hS9:=hS.drew
 have hsW9:(World.drew ((w.alloc (.cells #[.slice a n cap] 27)).alloc (.cells #[.slice a' n' cap'] 27))).heap.size = w.heap.size+1+1:=by first|rfl|simp
 generalize World.drew ((w.alloc (.cells #[.slice a n cap] 27)).alloc (.cells #[.slice a' n' cap'] 27)) = Wd at hS9 hsW9 ⊢
 obtain ⟨S9,hS9z⟩:∃ x,x = Wd.heap.size:=⟨_,rfl⟩
 have hC9:=Rc.start (bs:=[⟨w.heap.size+1,#[.slice a' n' cap'],27⟩,⟨w.heap.size,#[.slice a n cap],27⟩]) hS9 (by simp)
 rw [← hS9z] at hC9
 refine wpAny_inv (fun l act w'=>∃ σ,Wcmp1I w p e0 a a' n n' cap cap' m m' r S9 l act w' σ) ?_ ?_ _ _ _ _ ?_ ?_
 ·intro l act w' i9 hI9 hi9 hl9
  have hin9:i9 < 10:=by
   by_cases h:i9 < 10
   ·exact h
   ·obtain ⟨⟨⟩,rfl,_⟩:=hI9
    rw [Array.getElem?_eq_none (by simp; omega)] at hl9; cases hl9
  have hcase:i9 = 0∨i9 = 1∨i9 = 2∨i9 = 3∨i9 = 4∨i9 = 5∨i9 = 6∨i9 = 7∨i9 = 8∨i9 = 9:=by omega
  clear hin9
  obtain ⟨⟨b0,b1,b2,b3,b4,b5,b6,b7,b8,b9,v0,v1,v2,v3,v4,v5,v6,v7,v8,v9,E8,bs9,os9⟩,rfl,rfl,hR⟩:=hI9
  rcases hcase with rfl|rfl|rfl|rfl|rfl|rfl|rfl|rfl|rfl|rfl
  ·obtain rfl:b0 = false:=by simpa using hl9
   have hc:=hR.hc
   refine wpOp_step rfl fun K hK=>?_
   go_simp
   exact hK _ _ ⟨⟨_,_,_,_,_,_,_,_,_,_,_,_,_,_,_,_,_,_,_,_,E8,_,_⟩,rfl,rfl,{ hR with hc:=hc,f0:=(fun _=>rfl) }⟩
  ·obtain rfl:b1 = false:=by simpa using hl9
   obtain ⟨o9,ho9,hd9⟩:=(mem_ready.1 hi9).2
   cases ho9
   have e0:b0 = true:=hd9 ⟨0,.data⟩ (by simp) rfl
   subst e0
   have h9:=hR.f0 rfl
   subst h9
   have hc:=hR.hc
   refine wpOp_step rfl fun K hK=>?_
   go_simp
   exact hK _ _ ⟨⟨_,_,_,_,_,_,_,_,_,_,_,_,_,_,_,_,_,_,_,_,E8,_,_⟩,rfl,rfl,{ hR with hc:=hc,f1:=(fun _=>rfl) }⟩
  ·obtain rfl:b2 = false:=by simpa using hl9
   obtain ⟨o9,ho9,hd9⟩:=(mem_ready.1 hi9).2
   cases ho9
   have e1:b1 = true:=hd9 ⟨1,.data⟩ (by simp) rfl
   subst e1
   have h9:=hR.f1 rfl
   subst h9
   have hc:=hR.hc
   refine wpOp_step rfl fun K hK=>?_
   go_simp
   exact hK _ _ ⟨⟨_,_,_,_,_,_,_,_,_,_,_,_,_,_,_,_,_,_,_,_,E8,_,_⟩,rfl,rfl,{ hR with hc:=hc,f2:=(fun _=>rfl) }⟩
  ·obtain rfl:b3 = false:=by simpa using hl9
   have hc:=hR.hc
   have c9_0:=hc.st.cellAt (hc.old ⟨w.heap.size,#[.slice a n cap],27⟩ (by simp)).1 0 (.slice a n cap) rfl
   simp only [] at c9_0
   refine wpOp_step rfl fun K hK=>?_
   go_simp
   exact hK _ _ ⟨⟨_,_,_,_,_,_,_,_,_,_,_,_,_,_,_,_,_,_,_,_,E8,_,_⟩,rfl,rfl,{ hR with hc:=hc,f3:=(fun _=>rfl) }⟩
  ·obtain rfl:b4 = false:=by simpa using hl9
   have hc:=hR.hc
   have c9_0:=hc.st.cellAt (hc.old ⟨w.heap.size+1,#[.slice a' n' cap'],27⟩ (by simp)).1 0 (.slice a' n' cap') rfl
   simp only [] at c9_0
   refine wpOp_step rfl fun K hK=>?_
   go_simp
   exact hK _ _ ⟨⟨_,_,_,_,_,_,_,_,_,_,_,_,_,_,_,_,_,_,_,_,E8,_,_⟩,rfl,rfl,{ hR with hc:=hc,f4:=(fun _=>rfl) }⟩
  ·obtain rfl:b5 = false:=by simpa using hl9
   obtain ⟨o9,ho9,hd9⟩:=(mem_ready.1 hi9).2
   cases ho9
   have e3:b3 = true:=hd9 ⟨3,.data⟩ (by simp) rfl
   have e4:b4 = true:=hd9 ⟨4,.data⟩ (by simp) rfl
   subst e3 e4
   have h9:=hR.f3 rfl
   subst h9
   have h9:=hR.f4 rfl
   subst h9
   have hc:=hR.hc
   have HR:=hide hR
   clear hR
   refine wpOp_step rfl fun K hK=>?_
   go_simp
   go_wp2_with fail
   refine (unhide HC _ _ _ _ _ _ _ (hc.st.nm (a,n,m) (by simp)) (hc.st.nm (a',n',m') (by simp))).mono ?_
   rintro en w9 ⟨rfl,hb9⟩
   have hR:=unhide HR
   exact hK _ _ ⟨⟨_,_,_,_,_,_,_,_,_,_,_,_,_,_,_,_,_,_,_,_,E8,_,_⟩,rfl,rfl,{ hR with hc:=(hc.call (hc.st.kept hb9) hb9.size (fun y hy=>hy)),f5:=(fun _=>rfl) }⟩
  ·obtain rfl:b6 = false:=by simpa using hl9
   obtain ⟨o9,ho9,hd9⟩:=(mem_ready.1 hi9).2
   cases ho9
   have e5:b5 = true:=hd9 ⟨5,.data⟩ (by simp) rfl
   subst e5
   have h9:=hR.f5 rfl
   subst h9
   have hc:=hR.hc
   refine wpOp_step rfl fun K hK=>?_
   go_simp
   exact hK _ _ ⟨⟨_,_,_,_,_,_,_,_,_,_,_,_,_,_,_,_,_,_,_,_,E8,_,_⟩,rfl,rfl,{ hR with hc:=hc,f6:=(fun _=>rfl) }⟩
  ·obtain rfl:b7 = false:=by simpa using hl9
   obtain ⟨o9,ho9,hd9⟩:=(mem_ready.1 hi9).2
   cases ho9
   have e5:b5 = true:=hd9 ⟨5,.data⟩ (by simp) rfl
   subst e5
   have h9:=hR.f5 rfl
   subst h9
   have hc:=hR.hc
   refine wpOp_step rfl fun K hK=>?_
   go_simp
   exact hK _ _ ⟨⟨_,_,_,_,_,_,_,_,_,_,_,_,_,_,_,_,_,_,_,_,E8,_,_⟩,rfl,rfl,{ hR with hc:=hc,f7:=(fun _=>rfl) }⟩
  ·obtain rfl:b8 = false:=by simpa using hl9
   obtain ⟨o9,ho9,hd9⟩:=(mem_ready.1 hi9).2
   cases ho9
   have e2:b2 = true:=hd9 ⟨2,.data⟩ (by simp) rfl
   have e6:b6 = true:=hd9 ⟨6,.data⟩ (by simp) rfl
   have e7:b7 = true:=hd9 ⟨7,.data⟩ (by simp) rfl
   subst e2 e6 e7
   have h9:=hR.f2 rfl
   subst h9
   have h9:=hR.f6 rfl
   subst h9
   have h9:=hR.f7 rfl
   subst h9
   have hc:=hR.hc
   simp only [cond_false] at hc
   have HR:=hide hR
   clear hR
   refine wpOp_step rfl fun K hK=>?_
   go_simp
   go_wp2_with fail
   refine (W_rInt hc.st).mono ?_
   rintro en w9 ⟨e9,rfl,hs9,hz,hz9⟩
   have hR:=unhide HR
   exact hK _ _ ⟨⟨_,_,_,_,_,_,_,_,_,_,_,_,_,_,_,_,_,_,_,_,_,_,_⟩,rfl,rfl,{ hR with hc:=(hc.call hs9 hz9 (fun y hy=>hy)),f8:=(fun _=>⟨rfl,hz⟩),f9:=(fun h=>Bool.noConfusion (hR.g9_8 h)),g9_8:=(fun _=>rfl) }⟩
  ·obtain rfl:b9 = false:=by simpa using hl9
   obtain ⟨o9,ho9,hd9⟩:=(mem_ready.1 hi9).2
   cases ho9
   have e8:b8 = true:=hd9 ⟨8,.data⟩ (by simp) rfl
   subst e8
   have q8:=hR.f8 rfl
   obtain ⟨h9,q8m⟩:=q8
   subst h9
   have hc:=hR.hc
   refine wpOp_step rfl fun K hK=>?_
   go_simp
   exact hK _ _ ⟨⟨_,_,_,_,_,_,_,_,_,_,_,_,_,_,_,_,_,_,_,_,E8,_,_⟩,rfl,rfl,{ hR with hc:=hc,f9:=(fun _=>rfl),g9_8:=(fun _=>rfl) }⟩
 ·rintro l act Wq1 ⟨⟨b0,b1,b2,b3,b4,b5,b6,b7,b8,b9,v0,v1,v2,v3,v4,v5,v6,v7,v8,v9,x1_E8,bs9,os9⟩,rfl,rfl,hR⟩ hr9
  obtain ⟨hc,f0,f1,f2,f3,f4,f5,f6,f7,f8,f9,g9_8⟩:=hR
  have eall:=all_done hr9 (by kernel_rfl) rfl
  obtain rfl:b0 = true:=eall 0 (by decide)
  obtain rfl:b1 = true:=eall 1 (by decide)
  obtain rfl:b2 = true:=eall 2 (by decide)
  obtain rfl:b3 = true:=eall 3 (by decide)
  obtain rfl:b4 = true:=eall 4 (by decide)
  obtain rfl:b5 = true:=eall 5 (by decide)
  obtain rfl:b6 = true:=eall 6 (by decide)
  obtain rfl:b7 = true:=eall 7 (by decide)
  obtain rfl:b8 = true:=eall 8 (by decide)
  obtain rfl:b9 = true:=eall 9 (by decide)
  clear hr9 eall
  have h9:=f0 rfl
  subst h9
  have h9:=f1 rfl
  subst h9
  have h9:=f2 rfl
  subst h9
  have h9:=f3 rfl
  subst h9
  have h9:=f4 rfl
  subst h9
  have h9:=f5 rfl
  subst h9
  have h9:=f6 rfl
  subst h9
  have h9:=f7 rfl
  subst h9
  obtain ⟨h9,qx1_8⟩:=f8 rfl
  subst h9
  have h9:=f9 rfl
  subst h9
  simp only [cond_true] at hc
  have hbs9:∀ x,x∈([⟨w.heap.size+1,#[.slice a' n' cap'],27⟩,⟨w.heap.size,#[.slice a n cap],27⟩]:List En)→x∈bs9:=by
   intro x hx
   rcases List.mem_cons.1 hx with rfl|hx
   ·exact (hc.old _ (by simp)).1
   rcases List.mem_cons.1 hx with rfl|hx
   ·exact (hc.old _ (by simp)).1
   exact absurd hx List.not_mem_nil
  have hos9:∀ x,x∈([]:Os)→x∈os9:=by
   intro x hx
   exact absurd hx List.not_mem_nil
  have hS:=hc.st.sub hbs9 (fun x hx=>hx) hos9
  have hsz9:=hc.sz
  rw [hS9z,hsW9] at hsz9
  clear hbs9 hos9 hc f0 f1 f2 f3 f4 f5 f6 f7 f8 f9 g9_8
  have hz1:=hsz9
  clear hsz9 hS9z hS9 hC9 hsW9
  have Qx1_8:=hide qx1_8
  clear qx1_8
  go_wp2
  go_ret
  have q0:=unhide Qx1_8
  exact ⟨rfl,by have:=hS.wk; rw [q0,Kp.same] at this; exact this,hS.fr⟩
 ·simp
 ·exact ⟨⟨false,false,false,false,false,false,false,false,false,false,undef,undef,undef,undef,undef,undef,undef,undef,undef,.int .i64 0,0,_,_⟩,rfl,rfl,⟨hC9,nb,nb,nb,nb,nb,nb,nb,nb,nb,nb,nb⟩⟩
theorem wnum_any {fn gn:Nat} {p:Nat} {e0:Int} {a a':Option Addr} {n n' cap cap' m m' X:Nat} {w:World}
  (hw:∀ (M:Nat) (er:Int),Hid (∀ (W:World) (a:Option Addr) (n c:Nat) (a':Option Addr) (n' c':Nat),Num W a n m→Num W a' n' m'→Calls Tryz.prog gn #[.agg #[.slice a n c],.agg #[.slice a' n' c']] W fun en W'=>(∃ a n c,en = .returned (.tuple #[.agg #[.slice a n c],.int .i64 er])∧Mine W' W.heap.size a n c M)∧Below W.heap.size W W')→Calls Tryz.prog fn #[.pointer (some ⟨p,0,none⟩),.agg #[.slice a n cap],.agg #[.slice a' n' cap']] w fun en w'=>∃ a n c,en = .returned (.agg #[.slice a n c])∧Mine w' w.heap.size a n c M∧Wk w' p (Kp e0 er)∧But p w w')
  (hg:∀ (W:World) (a:Option Addr) (n c:Nat) (a':Option Addr) (n' c':Nat),Num W a n m→Num W a' n' m'→Calls Tryz.prog gn #[.agg #[.slice a n c],.agg #[.slice a' n' c']] W fun en W'=>Ans W' W.heap.size en X∧Below W.heap.size W W') :
  Calls Tryz.prog fn #[.pointer (some ⟨p,0,none⟩),.agg #[.slice a n cap],.agg #[.slice a' n' cap']] w (WAns p e0 w fun e M=>Stp e M X):=by
 by_cases ho:Over X
 ·refine (hw 0 4 (hide fun W a n c a' n' c' h h'=>?_)).mono ?_
  ·refine (hg W a n c a' n' c' h h').mono ?_
   rintro en W' ⟨h1,hb⟩
   rcases h1 with ⟨a,n,c,rfl,h1⟩|⟨rfl,_⟩
   ·exact absurd h1.num.lt (Nat.not_lt.2 ho.le)
   ·exact ⟨⟨none,0,0,rfl,mine_nil _ _⟩,hb⟩
  ·rintro en w' ⟨a,n,c,rfl,h1,h2,h3⟩
   exact ⟨a,n,c,0,4,rfl,h1,Or.inr ⟨rfl,ho⟩,h2,h3⟩
 ·refine (hw X 0 (hide fun W a n c a' n' c' h h'=>?_)).mono ?_
  ·refine (hg W a n c a' n' c' h h').mono ?_
   rintro en W' ⟨h1,hb⟩
   rcases h1 with ⟨a,n,c,rfl,h1⟩|⟨rfl,h1⟩
   ·exact ⟨⟨a,n,c,rfl,h1⟩,hb⟩
   ·exact absurd h1 ho
  ·rintro en w' ⟨a,n,c,rfl,h1,h2,h3⟩
   exact ⟨a,n,c,X,0,rfl,h1,Or.inl ⟨rfl,rfl⟩,h2,h3⟩
theorem wadd_any (p:Nat) (e0:Int) (a a':Option Addr) (n n' cap cap' m m':Nat) (w:World) (hk:Wk w p e0) (h:Num w a n m) (h':Num w a' n' m') :
  Calls Tryz.prog 26 #[.pointer (some ⟨p,0,none⟩),.agg #[.slice a n cap],.agg #[.slice a' n' cap']] w (WAns p e0 w fun e M=>Stp e M (m+m')):=
 wnum_any (fun M er H=>wadd_w w p e0 a a' n n' cap cap' m m' M er hk h h' H) (fun W a n c a' n' c' g g'=>add_any a a' n n' c c' m m' W g g')
theorem wmul_any (p:Nat) (e0:Int) (a a':Option Addr) (n n' cap cap' m m':Nat) (w:World) (hk:Wk w p e0) (h:Num w a n m) (h':Num w a' n' m') :
  Calls Tryz.prog 42 #[.pointer (some ⟨p,0,none⟩),.agg #[.slice a n cap],.agg #[.slice a' n' cap']] w (WAns p e0 w fun e M=>Stp e M (m * m')):=
 wnum_any (fun M er H=>wmul_w w p e0 a a' n n' cap cap' m m' M er hk h h' H) (fun W a n c a' n' c' g g'=>mul_any a a' n n' c c' m m' W g g')
theorem wgcd_any (p:Nat) (e0:Int) (a a':Option Addr) (n n' cap cap' m m':Nat) (w:World) (hk:Wk w p e0) (h:Num w a n m) (h':Num w a' n' m') :
  Calls Tryz.prog 29 #[.pointer (some ⟨p,0,none⟩),.agg #[.slice a n cap],.agg #[.slice a' n' cap']] w (WAns p e0 w fun e M=>e = 0∧M = Nat.gcd m m'):=by
 refine (wgcd_w w p e0 a a' n n' cap cap' m m' (Nat.gcd m m') 0 hk h h' (hide fun W a n c a' n' c' g g'=>gcd_any a a' n n' c c' m m' W g g')).mono ?_
 rintro en w' ⟨a,n,c,rfl,h1,h2,h3⟩
 exact ⟨a,n,c,_,0,rfl,h1,⟨rfl,rfl⟩,h2,h3⟩
theorem wsub_any (p:Nat) (e0:Int) (a a':Option Addr) (n n' cap cap' m m':Nat) (w:World) (hk:Wk w p e0) (h:Num w a n m) (h':Num w a' n' m') :
  Calls Tryz.prog 74 #[.pointer (some ⟨p,0,none⟩),.agg #[.slice a n cap],.agg #[.slice a' n' cap']] w (WAns p e0 w fun e M=>e = 0∧M = m - m'):=by
 have key:∀ z:Bool,(∀ (W:World) (a:Option Addr) (n c:Nat) (a':Option Addr) (n' c':Nat),Num W a n m→Num W a' n' m'→Calls Tryz.prog 91 #[.agg #[.slice a n c],.agg #[.slice a' n' c']] W fun en W'=>(∃ a n c,en = .returned (.tuple #[.agg #[.slice a n c],.bool z,.int .i64 0])∧Mine W' W.heap.size a n c (m - m'))∧Below W.heap.size W W')→Calls Tryz.prog 74 #[.pointer (some ⟨p,0,none⟩),.agg #[.slice a n cap],.agg #[.slice a' n' cap']] w (WAns p e0 w fun e M=>e = 0∧M = m - m'):=fun z hg=>by
  refine (wsub_w w p e0 a a' n n' cap cap' m m' (m - m') z hk h h' (hide hg)).mono ?_
  rintro en w' ⟨a,n,c,rfl,h1,h2,h3⟩
  exact ⟨a,n,c,_,0,rfl,h1,⟨rfl,rfl⟩,h2,h3⟩
 by_cases hl:m < m'
 ·refine key false fun W a n c a' n' c' g g'=>(sub_any a a' n n' c c' m m' W g g').mono ?_
  rintro en W' ⟨h1,hb⟩
  rcases h1 with ⟨_,rfl⟩|⟨hle,_⟩
  ·exact ⟨⟨none,0,0,rfl,by rw [show m - m' = 0 by omega]; exact mine_nil _ _⟩,hb⟩
  ·omega
 ·refine key true fun W a n c a' n' c' g g'=>(sub_any a a' n n' c c' m m' W g g').mono ?_
  rintro en W' ⟨h1,hb⟩
  rcases h1 with ⟨hlt,rfl⟩|⟨_,a,n,c,rfl,h1⟩
  ·omega
  ·exact ⟨⟨a,n,c,rfl,h1⟩,hb⟩
theorem wdiv_any (p:Nat) (e0:Int) (a a':Option Addr) (n n' cap cap' m m':Nat) (w:World) (hk:Wk w p e0) (h:Num w a n m) (h':Num w a' n' m') :
  Calls Tryz.prog 24 #[.pointer (some ⟨p,0,none⟩),.agg #[.slice a n cap],.agg #[.slice a' n' cap']] w (WAns2 p e0 w fun e Q R=>DStp e Q R m m'):=by
 rcases Nat.eq_zero_or_pos m' with h0|h0
 ·refine (wdiv_w w p e0 a a' n n' cap cap' m m' 0 0 11 hk h h' (hide fun W a n c a' n' c' g g'=>(div_any a a' n n' c c' m m' W g g').mono ?_)).mono ?_
  ·rintro en W' ⟨h1,hb⟩
   rcases h1 with ⟨_,rfl⟩|⟨hd,_⟩
   ·exact ⟨⟨none,0,0,none,0,0,rfl,mine_nil _ _,mine_nil _ _⟩,hb⟩
   ·omega
  ·rintro en w' ⟨a,n,c,a',n',c',rfl,h1,h2,h3,h4⟩
   exact ⟨a,n,c,a',n',c',0,0,11,rfl,h1,h2,Or.inl ⟨h0,rfl,rfl,rfl⟩,h3,h4⟩
 ·refine (wdiv_w w p e0 a a' n n' cap cap' m m' (m / m') (m % m') 0 hk h h' (hide fun W a n c a' n' c' g g'=>(div_any a a' n n' c c' m m' W g g').mono ?_)).mono ?_
  ·rintro en W' ⟨h1,hb⟩
   rcases h1 with ⟨hd,rfl⟩|⟨_,aq,nq,cq,ar,nr,cr,rfl,h1,h2⟩
   ·omega
   ·exact ⟨⟨aq,nq,cq,ar,nr,cr,rfl,h1,h2⟩,hb⟩
  ·rintro en w' ⟨a,n,c,a',n',c',rfl,h1,h2,h3,h4⟩
   exact ⟨a,n,c,a',n',c',_,_,0,rfl,h1,h2,Or.inr ⟨h0,rfl,rfl,rfl⟩,h3,h4⟩
theorem wcmp_any (p:Nat) (e0:Int) (a a':Option Addr) (n n' cap cap' m m':Nat) (w:World) (hk:Wk w p e0) (h:Num w a n m) (h':Num w a' n' m') :
  Calls Tryz.prog 43 #[.pointer (some ⟨p,0,none⟩),.agg #[.slice a n cap],.agg #[.slice a' n' cap']] w fun en w'=>en = .returned (.int .i64 (cmpI m m'))∧Wk w' p e0∧But p w w':=
 wcmp_w w p e0 a a' n n' cap cap' m m' (cmpI m m') hk h h' (hide fun W a n c a' n' c' g g'=>cmpN_any a a' n n' c c' m m' W g g')
theorem wover_any (p:Nat) (e0:Int) (a a':Option Addr) (n n' cap cap' m m':Nat) (w:World) (hk:Wk w p e0) (h:Num w a n m) (h':Num w a' n' m') :
  Calls Tryz.prog 31 #[.pointer (some ⟨p,0,none⟩),.agg #[.slice a n cap],.agg #[.slice a' n' cap']] w (WAns p e0 w fun e Q=>∃ R,DStp e Q R m m'):=by
 have hS:=(((((Rs.begin_work hk).num h).num h').alloc #[.slice a n cap] 27).alloc #[.slice a' n' cap'] 27).alloc #[.slice none 0 0] 27
 simp only [World.size_alloc] at hS
 go_enter Tryz.func31,Tryz.ntmps31
 go_wp2_with fail
 refine (wdiv_any p e0 a a' n n' cap cap' m m' _ hS.wk (hS.nm (a,n,m) (by simp)) (hS.nm (a',n',m') (by simp))).mono ?_
 rintro en w1 ⟨aq,nq,cq,ar,nr,cr,Q,R,er,rfl,hq,hr,hst,hk1,hb1⟩
 have HST:=hide hst
 have hS1:=((((hS.call hb1 hk1).own hq hS.size).own hr hS.size).alloc #[.slice aq nq cq] 27).alloc #[.slice ar nr cr] 27
 clear hst hb1 hq hr hS hk h h'
 obtain ⟨⟨c0,-⟩,⟨c1,-⟩,⟨c2,-⟩,-⟩:=hS1.cells
 have f1:=hS1.frozen (x:=⟨w.heap.size+1+1,#[.slice none 0 0],27⟩) (by simp) 0
 go_wp2
 have hS2:=(hS1.put (x:=⟨w.heap.size+1+1,#[.slice none 0 0],27⟩) (by simp) (by simp only []; omega) 0 (.slice aq nq cq) (by simp) [] (by simp))
 exact bodyPost_ret (v:=.agg #[.slice aq nq cq]) (by simp [results,Tryz.results31,go_sem,c2]) rfl ⟨aq,nq,cq,Q,er,rfl,hS2.ow (aq,nq,cq,Q) (by simp),⟨R,unhide HST⟩,hS2.wk,hS2.fr⟩
theorem W_add {w0 W:World} {p:Nat} {e:Int} {bs:List En} {ms:Ms} {os:Os} (hS:Rs w0 W (some (p,e)) bs ms os) {a a':Option Addr} {n n' m m':Nat} (c c':Nat) (h:Num W a n m) (h':Num W a' n' m') :
  Calls Tryz.prog 26 #[.pointer (some ⟨p,0,none⟩),.agg #[.slice a n c],.agg #[.slice a' n' c']] W (One w0 W p e bs ms os (m+m') (Over (m+m'))):=by
 refine (wadd_any p e a a' n n' c c' m m' W hS.wk h h').mono ?_
 rintro en W' ⟨a1,n1,c1,M,r,rfl,hm,hst,hk,hb⟩
 exact ⟨a1,n1,c1,M,_,rfl,hS.more hm hk hb,Wz.of_stp hst,hb.size⟩
theorem W_mul {w0 W:World} {p:Nat} {e:Int} {bs:List En} {ms:Ms} {os:Os} (hS:Rs w0 W (some (p,e)) bs ms os) {a a':Option Addr} {n n' m m':Nat} (c c':Nat) (h:Num W a n m) (h':Num W a' n' m') :
  Calls Tryz.prog 42 #[.pointer (some ⟨p,0,none⟩),.agg #[.slice a n c],.agg #[.slice a' n' c']] W (One w0 W p e bs ms os (m * m') (Over (m * m'))):=by
 refine (wmul_any p e a a' n n' c c' m m' W hS.wk h h').mono ?_
 rintro en W' ⟨a1,n1,c1,M,r,rfl,hm,hst,hk,hb⟩
 exact ⟨a1,n1,c1,M,_,rfl,hS.more hm hk hb,Wz.of_stp hst,hb.size⟩
theorem W_gcd {w0 W:World} {p:Nat} {e:Int} {bs:List En} {ms:Ms} {os:Os} (hS:Rs w0 W (some (p,e)) bs ms os) {a a':Option Addr} {n n' m m':Nat} (c c':Nat) (h:Num W a n m) (h':Num W a' n' m') :
  Calls Tryz.prog 29 #[.pointer (some ⟨p,0,none⟩),.agg #[.slice a n c],.agg #[.slice a' n' c']] W (One w0 W p e bs ms os (Nat.gcd m m') False):=by
 refine (wgcd_any p e a a' n n' c c' m m' W hS.wk h h').mono ?_
 rintro en W' ⟨a1,n1,c1,M,r,rfl,hm,hst,hk,hb⟩
 exact ⟨a1,n1,c1,M,_,rfl,hS.more hm hk hb,Wz.of_ok hst,hb.size⟩
theorem W_sub {w0 W:World} {p:Nat} {e:Int} {bs:List En} {ms:Ms} {os:Os} (hS:Rs w0 W (some (p,e)) bs ms os) {a a':Option Addr} {n n' m m':Nat} (c c':Nat) (h:Num W a n m) (h':Num W a' n' m') :
  Calls Tryz.prog 74 #[.pointer (some ⟨p,0,none⟩),.agg #[.slice a n c],.agg #[.slice a' n' c']] W (One w0 W p e bs ms os (m - m') False):=by
 refine (wsub_any p e a a' n n' c c' m m' W hS.wk h h').mono ?_
 rintro en W' ⟨a1,n1,c1,M,r,rfl,hm,hst,hk,hb⟩
 exact ⟨a1,n1,c1,M,_,rfl,hS.more hm hk hb,Wz.of_ok hst,hb.size⟩
theorem W_over {w0 W:World} {p:Nat} {e:Int} {bs:List En} {ms:Ms} {os:Os} (hS:Rs w0 W (some (p,e)) bs ms os) {a a':Option Addr} {n n' m m':Nat} (c c':Nat) (h:Num W a n m) (h':Num W a' n' m') :
  Calls Tryz.prog 31 #[.pointer (some ⟨p,0,none⟩),.agg #[.slice a n c],.agg #[.slice a' n' c']] W (OneD w0 W p e bs ms os m m'):=by
 refine (wover_any p e a a' n n' c c' m m' W hS.wk h h').mono ?_
 rintro en W' ⟨a1,n1,c1,M,r,rfl,hm,⟨R,hst⟩,hk,hb⟩
 exact ⟨a1,n1,c1,M,_,rfl,hS.more hm hk hb,⟨R,Wd.of hst⟩,hb.size⟩
theorem W_div {w0 W:World} {p:Nat} {e:Int} {bs:List En} {ms:Ms} {os:Os} (hS:Rs w0 W (some (p,e)) bs ms os) {a a':Option Addr} {n n' m m':Nat} (c c':Nat) (h:Num W a n m) (h':Num W a' n' m') :
  Calls Tryz.prog 24 #[.pointer (some ⟨p,0,none⟩),.agg #[.slice a n c],.agg #[.slice a' n' c']] W (Two w0 W p e bs ms os (fun e' Q R=>Wd e e' Q R m m')):=by
 refine (wdiv_any p e a a' n n' c c' m m' W hS.wk h h').mono ?_
 rintro en W' ⟨a1,n1,c1,a2,n2,c2,Q,R,r,rfl,hq,hr,hst,hk,hb⟩
 exact ⟨a1,n1,c1,Q,a2,n2,c2,R,_,rfl,((hS.call hb hk).own hq hS.size).own hr hS.size,Wd.of hst,hb.size⟩
theorem W_cmp {w0 W:World} {p:Nat} {e:Int} {bs:List En} {ms:Ms} {os:Os} (hS:Rs w0 W (some (p,e)) bs ms os) {a a':Option Addr} {n n' m m':Nat} (c c':Nat) (h:Num W a n m) (h':Num W a' n' m') :
  Calls Tryz.prog 43 #[.pointer (some ⟨p,0,none⟩),.agg #[.slice a n c],.agg #[.slice a' n' c']] W (fun en W'=>en = .returned (.int .i64 (cmpI m m'))∧Rs w0 W' (some (p,e)) bs ms os∧W.heap.size≤W'.heap.size):=by
 refine (wcmp_any p e a a' n n' c c' m m' W hS.wk h h').mono ?_
 rintro en W' ⟨rfl,hk,hb⟩
 exact ⟨rfl,hS.call hb hk,hb.size⟩
def Sf (e:Int) (B:Prop):Prop:=e = 0∨(e = 4∧B)
theorem Wz.next {e e':Int} {M X:Nat} {O B:Prop} (q:Wz e e' M X O) (h:Sf e B) (hO:e = 0→O→B):Sf e' B:=by
 rcases h with h|⟨h,hB⟩
 ·by_cases h':e' = 0
  ·exact Or.inl h'
  ·obtain ⟨h4,o⟩:=q.many h h'
   exact Or.inr ⟨h4,hO h o⟩
 ·have:=q.stay (by omega)
  exact Or.inr ⟨by omega,hB⟩
theorem Wd.next {e e':Int} {Q R m d:Nat} {B:Prop} (q:Wd e e' Q R m d) (h:Sf e B) (hd:e = 0→0 < d):Sf e' B:=by
 rcases h with h|⟨h,hB⟩
 ·by_cases h':e' = 0
  ·exact Or.inl h'
  ·have:=q.zero h h'
   have:=hd h
   omega
 ·have:=q.stay (by omega)
  exact Or.inr ⟨by omega,hB⟩
theorem Over.mono {a b:Nat} (h:Over a) (hab:a≤b):Over b:=⟨Nat.le_trans h.le hab⟩
end Go.Proofs.YtfhmbnnlcjdblaaGreat
